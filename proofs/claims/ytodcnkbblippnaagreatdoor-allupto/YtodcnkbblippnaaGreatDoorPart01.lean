/- Part 1 of a proof: walks of the program. -/
import Derived.Below
import Derived.Calls
import Derived.ChangeArms
import Derived.Conc.MuLone
import Derived.Deep.AppendSrc
import Derived.Deep.RegionHeld
import Derived.Defers
import Derived.FnData
import Derived.Laws.Append
import Derived.Laws.AppendOwn
import Derived.Laws.BitsLemmas
import Derived.Laws.Entries
import Derived.Laws.Externs
import Derived.Laws.IdiomStrings
import Derived.Laws.Rows
import Derived.Laws.Tables
import Derived.Laws.World
import Derived.Lib.Builder
import Derived.Lib.ItoaNum
import Derived.Lib.Strings
import Derived.LoopN
import Derived.OneCell
import Derived.Orders
import Derived.OwnWalk
import Derived.Still
import Derived.StillTail
import Derived.Tactics
import Derived.WideShapes
import Derived.Test.YtodcnkbblippnaaGreatDoorRows
import Derived.WalkKit
import Derived.WalkSpells
import Derived.WalkLawsBesides
import Derived.Deep.AppendLies
import Derived.Deep.RegionHeld3
import Derived.Deep.LoopGhost
import Derived.Deep.DrawnRows
import Derived.Test.YtodcnkbblippnaaGreatDoorProg
import Derived.Conc.RwLib
import Derived.KernelRfl
import Derived.OrdersHeld
import Derived.RegionTactic
namespace Go.Proofs.YtodcnkbblippnaaGreatDoor
set_option maxRecDepth 100000
set_option maxHeartbeats 32000000
set_option linter.defProp false
open Go.Proofs.Tryz
section
open Go.RowKit
abbrev gC:=World
abbrev gD:=Value
abbrev gE:=ByteArray
abbrev gF:=List
def iG{α:Sort _}(a:α):∃x,a=x:=⟨_,rfl⟩
def iH{α:Sort _}(a:α):∃x,x=a:=⟨_,rfl⟩
def iC{p:Prop}(h:p:=by omega):p:=h
def iE{p:Prop}(h:p:=by simp):p:=h
def iF{p:Prop}(h:p:=by decide):p:=h
def Af:=@if_neg
def Ai:=@if_pos
def An:=@Nat.le_refl
def AO:=@Nat.le_trans
def AX:=@List.mem_append
def B3:=@List.length_append
def Bn:=@Go.heap_alloc_new
def Bp:=@Nat.lt_of_lt_of_le
def Bv:=@Go.lt_of_block
def BC:=@List.mem_cons_of_mem
def BI:=@List.mem_cons_self
def BK:=@List.length_take
def BS:=@List.mem_cons
def BT:=@List.getElem_mem
def C5:=@List.take_length
def Cb:=@Nat.zero_le
def Cf:=@if_false
def Ci:=@List.append_assoc
def Cn:=@List.mem_map
def Cq:=@Go.World.ownsRow_nil
def Cs:=@if_true
def Cz:=@List.length_drop
def CA:=@List.length_cons
def CN:=@decide_eq_true
def CO:=@decide_eq_false
def CW:=@Go.RowKit.Below.heap_alloc
def Dl:=@List.pairwise_cons
def Dm:=@List.drop_zero
def Ds:=@List.take_succ_eq_append_getElem
def Dx:=@List.getElem?_eq_getElem
def DD:=@List.getElem_of_mem
def DK:=@List.drop_succ_cons
def DQ:=@Go.info_parts
def DU:=@Go.World.cell?_of_block
def Ea:=@decide_eq_true_eq
def Ec:=@List.take_append_drop
def Ej:=@List.mem_map_of_mem
def Eu:=@List.take_of_length_le
def Ex:=@congrArg
def EL:=@List.pairwise_append
def EM:=@List.map_append
def EW:=@Nat.le_succ
def EX:=@Int.toNat_natCast
def Fg:=@Nat.lt_or_ge
def Fh:=@List.nil_append
def Fp:=@Go.Proofs.Tryz.underlying92
def Fu:=@Nat.le_of_lt
def Fw:=@List.take_zero
def Fx:=@List.length_map
def Fy:=@List.getElem_append_left
def Fz:=@List.filter_cons
def FA:=@Int.ofNat_lt
def FB:=@Go.RowKit.Below.heap_setCell
def FF:=@Go.rounds_succ
def FV:=@Nat.lt_irrefl
def FW:=@List.take_succ_cons
def FY:=@List.drop_eq_getElem_cons
def G9:=@List.mem_append_left
def Ga:=@List.cons_append
def Gb:=@Bool.and_eq_true
def Gj:=@List.getElem_append_right
def Gk:=@List.append_nil
def GA:=@Int.natCast_nonneg
def GU:=@Go.World.cell?_setCell_other
def GV:=@Go.World.block_lt_of_cell?
def GW:=@Go.Proofs.Tryz.underlying97
def GX:=@Go.Proofs.Tryz.underlying9
def H3:=@List.mem_filter
def H4:=@List.map_cons
def H5:=@List.drop_length
def Hj:=@Nat.zero_add
def Hl:=@List.nodup_append
def Hw:=@Go.Proofs.Tryz.underlying26
def Hx:=@Go.Proofs.Tryz.underlying127
def HC:=@List.take_append_of_le_length
def HD:=@List.mem_of_mem_take
def HE:=@List.length_eq_zero_iff
def HF:=@List.filter_sublist
def HU:=@Go.Proofs.Tryz.underlying121
def HW:=@List.mem_append_right
def HX:=@List.length_set
def HY:=@List.getD_eq_getElem?_getD
def HZ:=@List.cons.inj
def I8:=@beq_eq_false_iff_ne
def Ia:=@Go.Proofs.Tryz.underlying3
def Ih:=@Nat.mul_le_mul_right
def Ii:=@Nat.add_mul
def Ij:=@List.mem_singleton
def Ik:=@List.getElem?_eq_some_iff
def Il:=@List.getElem?_append_right
def Is:=@Go.MuLone.unlock_deferred
def Iu:=@Go.MuLone.lock_free
def Iv:=@Go.leaves_cons
def IB:=@and_true
def ID:=@Option.map_some
def IF:=@List.getElem?_drop
def IG:=@List.drop_of_length_le
def II:=@Int.le_refl
def IM:=@Go.wp_loop_rounds
def IS:=@Go.run_underlying
def J0:=@Go.mem_ready
def Jg:=@Go.Src.ofSlice
def Ji:=@Nat.le_of_not_lt
def Jj:=@List.set_append_right
def Jk:=@List.length_nil
def Jl:=@List.getElem?_append_left
def Jm:=@List.filter_cons_of_pos
def Jo:=@Go.DataW.trod_int
def Jp:=@Array.getElem?_push_size
def Jv:=@Go.results_none
def Jz:=@of_decide_eq_true
def JU:=@Go.bodyPost_ret
def JX:=@Nat.not_lt_zero
def JY:=@Nat.min_eq_left
def JZ:=@Nat.le_succ_of_le
def K0:=@List.take_left
def K1:=@List.pairwise_iff_getElem
def K3:=@List.nodup_cons
def K4:=@List.length_pos_iff
def K5:=@List.flatten_cons
def K6:=@List.cons_lt_cons_iff
def K8:=@Go.IntKind.wrap_i64
def K9:=@Int.add_sub_cancel
def Kj:=@Go.setRow_other
def Ko:=@Go.results_tmp
def Kw:=@ne_eq
def KE:=@Go.getD_replicate_false
def KO:=@Nat.pow_succ
def KP:=@Nat.add_lt_add_left
def KQ:=@List.take_take
def KR:=@List.pairwise_map
def KT:=@List.mem_range
def KU:=@List.mem_of_mem_drop
def KV:=@List.mem_flatten
def KW:=@List.length_filter_le
def KX:=@List.getLastD_eq_getLast?
def KY:=@List.getElem_cons_zero
def KZ:=@List.filter_cons_of_neg
def L1:=@List.filter_append
def L4:=@Go.Lib.toList_data
def L6:=@Int.lt_irrefl
def La:=@Go.wp_region_still_tail
def Lb:=@Go.wpStill_nil
def Lc:=@Go.wpOp_mono
def Li:=@Go.setRow_heap
def Lm:=@Go.ready_mono
def LQ:=@decide_eq_decide
def M1:=@Go.World.drew_eq
def Ma:=@Nat.mul_comm
def Mb:=@Nat.le_antisymm
def Mc:=@Nat.add_le_add_left
def Md:=@Nat.add_assoc
def Me:=@List.size_toArray
def Mf:=@List.mem_of_getElem?
def Mg:=@List.mem_filterMap
def Mh:=@List.lt_irrefl
def Mi:=@List.getElem?_eq_none
def Mj:=@List.flatMap_cons
def Mk:=@List.eq_nil_or_concat
def Ml:=@List.drop_append_of_le_length
def Mm:=@List.drop_append
def Mn:=@List.any_eq_true
def Mp:=@Int.lt_or_le
def Mq:=@Int.le_trans
def Mr:=@Int.eq_ofNat_of_zero_le
def Ms:=@Array.length_toList
def MA:=@Go.tail_waits
def N9:=@Go.getD_set_ne
def Nf:=@eq_false
def NA:=@Go.World.size_alloc
def NB:=@Go.World.cell?_alloc_some
def NC:=@Go.Proofs.Tryz.underlying5
def ND:=@Go.Proofs.Tryz.underlying37
def NG:=@Go.Src.ofString
def NI:=@Option.some.inj
def NK:=@Nat.zero_lt_one
def NL:=@Nat.succ_mul
def NM:=@Nat.sub_self
def NN:=@Nat.lt_of_lt_of_eq
def NO:=@Nat.lt_of_le_of_lt
def NQ:=@List.pairwise_singleton
def NR:=@List.map_congr_left
def NT:=@List.getElem_cons_succ
def NU:=@List.getElem?_take
def NV:=@List.foldl_append
def NW:=@List.flatMap_def
def NX:=@List.eq_nil_of_length_eq_zero
def NY:=@List.drop_eq_nil_of_le
def NZ:=@List.dropLast_concat_getLast
def O0:=@List.all_eq_true
def O2:=@Int.zero_add
def O3:=@Int.emod_nonneg
def O4:=@Bool.true_and
def O5:=@Bool.eq_iff_iff
def O6:=@Go.RowKit.Below.refl
def O7:=@Array.getElem?_eq_none
def OA:=@Go.run_convert_bytes_back
def OW:=@Go.ownsRow_setCell_other
def P9:=@not_false_eq_true
def Q3:=@dif_pos
def Q4:=@dif_neg
def Q5:=@decide_true
def Qn:=@Prod.mk.inj
def Qo:=@Option.ne_none_iff_exists'
def Qp:=@Ne.symm
def Qq:=@Nat.succ_le_succ
def Qr:=@Nat.mul_one
def Qs:=@Nat.mul_assoc
def Qt:=@Nat.lt_trichotomy
def Qu:=@Nat.le_of_lt_succ
def Qv:=@Nat.add_zero
def Qw:=@List.takeWhile_cons
def Qx:=@List.sum_cons
def Qy:=@List.set_cons_succ
def Qz:=@List.length_mergeSort
def QA:=@List.getElem_take
def QB:=@List.getElem?_map
def QC:=@List.foldl_cons
def QD:=@Go.Lib.nDigits_small
def QE:=@Go.Lib.cell_of_heap
def QG:=@Int.toNat_of_nonneg
def QH:=@Int.tmod_lt_of_pos
def QJ:=@Int.ofNat_le
def QK:=@Int.not_lt
def QL:=@Int.neg_tmod
def QM:=@Iff.rfl
def QN:=@Decidable.em
def QO:=@Decidable.byContradiction
def QP:=@Bool.false_eq_true
def QS:=@Array.toList_append
def QT:=@Array.getElem?_eq_some_iff
def QW:=@Go.wp_region_any
def QX:=@Go.wpAny_of_seq
def RR:=@Go.seqB_ready
def RZ:=@Go.run_firstCells_some
def TE:=@ne_of_beq_false
def Vp:=@Go.bodyPost_end
def Vr:=@beq_self_eq_true
def VR:=@Go.World.var?_cell
def VT:=@Go.Region.noSelect_spec
def VU:=@Go.Region.free_spec
def VY:=@Option.or_none
def VZ:=@Go.Oper.upon_value
def W5:=@Nat.xor_lt_two_pow
def W6:=@Nat.one_mul
def W8:=@Nat.not_lt
def W9:=@Nat.mul_le_mul
def Wa:=@Nat.min_def
def Wb:=@Nat.lt_succ_self
def Wc:=@Nat.le_add_right
def We:=@List.sublist_flatten_of_mem
def Wf:=@List.set_cons_zero
def Wg:=@List.replicate_succ
def Wh:=@List.pairwise_mergeSort
def Wi:=@List.not_mem_nil
def Wj:=@List.mem_erase_of_ne
def Wk:=@List.map_map
def Wl:=@List.length_singleton
def Wm:=@List.length_dropLast
def Wn:=@List.flatten_append
def Wo:=@List.flatMap_append
def Wp:=@List.filter_filter
def Wq:=@List.filter_eq_nil_iff
def Wr:=@List.drop_left'
def Ws:=@List.drop_left
def Wt:=@List.dropLast_subset
def Wu:=@List.concat_eq_append
def Wv:=@List.append_cancel_left
def Ww:=@List.any_append
def Wx:=@List.Nodup.sublist
def Wy:=@Go.Lib.nDigits_big
def Wz:=@Go.Lib.decDigits_length
def WA:=@Int.ne_of_lt
def WB:=@Int.mul_sub
def WC:=@Int.mul_le_mul_of_nonneg_left
def WD:=@Int.emod_lt_of_pos
def WH:=@Bool.false_and
def WJ:=@Array.setIfInBounds_comm
def WK:=@Array.getElem?_setIfInBounds_ne
def YK:=@Go.run_callFunc_extern
def A2w:=@decide_eq_false_iff_not
def A4v:=@Go.World.cell?_setCell_far
def A4w:=@Go.WideShapes.bytes_inj
def A4x:=@Option.map_eq_some_iff
def A4z:=@Nat.lt_succ_of_lt
def A4A:=@Nat.lt_of_succ_lt_succ
def A4B:=@Nat.le_of_succ_le
def A4C:=@Nat.eq_zero_or_pos
def A4D:=@Nat.div_le_div_right
def A4E:=@Nat.add_sub_cancel_left
def A4F:=@Nat.add_sub_cancel
def A4G:=@List.set_eq_take_append_cons_drop
def A4H:=@List.setIfInBounds_toArray
def A4I:=@List.mergeSort_perm
def A4J:=@List.mergeSort_nil
def A4K:=@List.mem_of_find?_eq_some
def A4L:=@List.mem_mergeSort
def A4M:=@List.map_mergeSort
def A4N:=@List.length_range
def A4O:=@List.length_pos_of_mem
def A4P:=@List.length_erase_of_mem
def A4Q:=@List.length_eq_one_iff
def A4R:=@List.getLast?_eq_some_getLast
def A4S:=@List.getElem_set_ne
def A4T:=@List.getElem?_cons_succ
def A4U:=@List.find?_append
def A4V:=@List.exists_mem_of_ne_nil
def A4W:=@List.Sublist.refl
def A4X:=@List.Pairwise.sublist
def A4Y:=@List.Pairwise.imp_of_mem
def A40:=@Int.tmod_eq_emod_of_nonneg
def A41:=@Int.mul_tdiv_add_tmod
def A42:=@Int.lt_or_eq_of_le
def A43:=@Int.ediv_emod_unique
def A44:=@Classical.byContradiction
def A45:=@ByteArray.data_extract
def A46:=@Array.getElem?_eq_getElem
def A47:=@Array.ext_getElem?
def A48:=@Array.all_eq_true_iff_forall_mem
abbrev A5(b:Nat):Value:=.pointer (some ⟨b,0,none⟩)
abbrev A9(b o:Nat):Addr:=⟨b,o,none⟩
abbrev A7(w:gC)(b o:Nat)(v:gD):Prop:=w.cell? ⟨b,o,none⟩=some v
abbrev A0(n:Int):Value:=.int .i64 n
abbrev AA(b n c:Nat):Value:=.slice (some ⟨b,0,none⟩) n c
abbrev Aa:Nat->Prop:=λ_=>False
abbrev Ag:=Calls Tryz.prog
abbrev Aj(v:gD)(Q:gC->Prop)(e:Ending)(w:gC):Prop:=e=.returned v/\Q w
abbrev _root_.Go.World.aC(w:gC)(x:Array gD)(t:TypeId):World:=w.alloc (.cells x t)
abbrev _root_.Go.World.sC(w:gC)(b o:Nat)(v:gD):World:=w.setCell ⟨b,o,none⟩ v
abbrev _root_.Go.Value.oB(v:gD)(b:Nat):Prop:=v.ownBlock=some b
def _root_.Go.RowKit.Hid.o{p:Prop}(h:Hid p):p:=h
def _root_.Go.RowKit.Hid.m{P:Program}{f:FuncId}{a:Array gD}{w:gC}{R Q:Ending->gC->Prop}(h:Hid (Calls P f a w R))(k:∀e w',R e w'->Q e w'):Calls P f a w Q:=Calls.mono h k
def _root_.Go.Calls.k{P:Program}{f:FuncId}{a:Array gD}{w:gC}{v:Ending}{R:gC->Prop}{Q:Ending->gC->Prop}(h:Calls P f a w λe w'=>e=v/\R w')(H:∀w',R w'->Q v w'):Calls P f a w Q:=h.mono λe w' ⟨d,z⟩=>by subst d;exact H w' z
def _root_.Go.RowKit.Hid.k{P:Program}{f:FuncId}{a:Array gD}{w:gC}{v:Ending}{R:gC->Prop}{Q:Ending->gC->Prop}(h:Hid (Calls P f a w λe w'=>e=v/\R w'))(H:∀w',R w'->Q v w'):Calls P f a w Q:=Calls.k h H
def E9{x:Int}(h : -9223372036854775808<=x/\x<=9223372036854775807):IntKind.i64.wrap x=x:=by simp[IntKind.wrap,IntKind.bits,IntKind.signed];omega
def BJ(k:Nat):(0:Int)<=(k:Int):=GA _
def CJ{w:gC}{b o:Nat}{x:Array gD}{t:TypeId}{f:Nat×Nat}{v:gD}(h:w.heap[b]?=some (.cells x t f))(k:x[o]?=some v:=by rfl):A7 w b o v:=by
 show w.cell? ⟨b,o,none⟩=some v;simp only[World.cell?,h];exact k
def Ba:gF Nat->gF Nat->gF (Nat×Bool)
 | [],_=>[]
 | i::r,x=>(i,!x.elem i):: Ba r x
def BO:(∀(a:Act) (v:gD) (d:Tmp),a.put (some d) v=⟨a.tmps.setIfInBounds d v,a.defers⟩)/\(∀(a:Act) (v:gD),a.put none v=a)/\(∀ {α:Type} {l:gF α} {i:Nat} {a:α},l.toArray.setIfInBounds i a=(l.set i a).toArray)/\(∀ {α:Type} {x a:α} {xs:gF α},(x::xs).set 0 a=a::xs)/\
 (∀ {α:Type} {x a:α} {xs:gF α} {n:Nat},(x::xs).set (n+1) a=x::xs.set n a)/\(∀ {α:Type} {l:gF α} {i:Nat} (h:i<l.toArray.size),l.toArray[i]=l[i]'(by simpa using h))/\(∀ {α:Type} {a:α} {l:gF α} (h:0<(a::l).length),(a::l)[0]=a)/\
 (∀ {α:Type} {a:α} {l:gF α} {i:Nat} (h:i+1<(a::l).length),(a::l)[i+1]=l[i]'(A4A h)):=
 ⟨λ_ _ _=>rfl,λ_ _=>rfl,A4H _ _ _,rfl,rfl,λ_=>rfl,λ_=>rfl,λ_=>rfl⟩
structure A4 (S:Nat->Prop) (w w':gC):Prop where
 os:w'.os=w.os
 DZ:w'.tape=w.tape
 E3:w'.output=w.output
 Ak:w.heap.size<=w'.heap.size
 Al:∀k,k<w.heap.size->¬S k->w'.heap[k]?=w.heap[k]?
def A4.C(S:Nat->Prop)(w:gC):A4 S w w:=⟨rfl,rfl,rfl,An _,λ_ _ _=>rfl⟩
def A4.AF{S S':Nat->Prop}{a b c:gC}(h:A4 S a b)(k:A4 S' b c)(E:∀x,S' x->x<a.heap.size->S x):A4 S a c:=
 ⟨k.os.trans h.os,k.DZ.trans h.DZ,k.E3.trans h.E3,AO h.Ak k.Ak,λi d z=>
  (k.Al i (Bp d h.Ak) (λI=>z (E i I d))).trans (h.Al i d z)⟩
def A4.ah{S S':Nat->Prop}{a b:gC}(h:A4 S a b)(z:∀x,x<a.heap.size->S x->S' x):A4 S' a b:=
 ⟨h.os,h.DZ,h.E3,h.Ak,λk d I=>h.Al k d (λE=>I (z k d E))⟩
def A4.aS{S:Nat->Prop}{a b:gC}(h:A4 Aa a b):A4 S a b:=h.ah λ_ _ h=>h.elim
def A4.bk{S:Nat->Prop}{a b c:gC}(h:A4 S a b)(k:A4 Aa b c):A4 S a c:=h.AF k λ_ h _=>h.elim
def A4.aa{S:Nat->Prop}{a w:gC}(h:A4 S a w):A4 S a w.drew:=⟨h.os,h.DZ,h.E3,h.Ak,h.Al⟩
def A4.a7{S:Nat->Prop}{a w:gC}(h:A4 S a w)(n:Nat):A4 S a (w.drewN n):=⟨h.os,h.DZ,h.E3,h.Ak,h.Al⟩
def A4.ai{S:Nat->Prop}{a w:gC}(h:A4 S a w)(o:Obj):A4 S a (w.alloc o):=
 ⟨h.os,h.DZ,h.E3,by have:=h.Ak;simp;omega,λk d z=>(CW _ _ _ (Bp d h.Ak)).trans (h.Al k d z)⟩
def A4.tr{S:Nat->Prop}{a b c:gC}(h:A4 S a b)(k:A4 S b c):A4 S a c:=h.AF k λ_ h _=>h
def A4.aC{S:Nat->Prop}{a w:gC}(h:A4 S a w)(x:Array gD)(t:TypeId):A4 S a (w.alloc (.cells x t)):=h.ai _
def A4.bc{S:Nat->Prop}{a w:gC}(h:A4 S a w){p:Addr}(E:p.block<a.heap.size->S p.block)(u:gD):A4 S a (w.setCell p u):=
 ⟨h.os,h.DZ,h.E3,by simpa using h.Ak,λk d z=>(FB _ _ _ _ (λe=>by subst e;exact z (E d))).trans (h.Al k d z)⟩
def A4.C7{S:Nat->Prop}{a w w':gC}{row:Option Nat}(h:A4 S a w)(d:w.grownBy w' row)(I:∀k,row=some k->k<a.heap.size->S k):A4 S a w':=
 ⟨d.os.trans h.os,d.tape.trans h.DZ,d.output.trans h.E3,AO h.Ak d.size,λk z E=>
  (d.block k (Bp z h.Ak) (λe=>E (I k e.symm z))).trans (h.Al k z E)⟩
def A4.ej{S:Nat->Prop}{a b:gC}{B:Nat}(h:A4 S a b)(z:B<=a.heap.size)(E:∀k,k<B->¬S k):Below B a b:=
 ⟨h.os,h.DZ,h.E3,h.Ak,λk d=>h.Al k (Bp d z) (E k d)⟩
def A4.aj{S:Nat->Prop}{a b:gC}(h:A4 S a b){k:Nat}{o:Obj}(d:a.heap[k]?=some o)(z:¬S k):b.heap[k]?=some o:=
 (h.Al k (Bv d) z).trans d
def One(b:Nat):Nat->Prop:=λk=>k=b
def A4.an{S:Nat->Prop}{a w:gC}(h:A4 S a w){b:Nat}(d:S b)(o:Nat)(u:gD):A4 S a (w.setCell (A9 b o) u):=h.bc (p:=(A9 b o)) (λ_=>d) u
def A1{p:Prop}(h:p):Hid p:=h
def Gz(S:Nat->Prop)(w w':gC):Prop:=∀k,S k->w'.heap[k]?=w.heap[k]?
def Gz.ah{S S':Nat->Prop}{w w':gC}(h:Gz S w w')(z:∀k,S' k->S k):Gz S' w w':=λk d=>h k (z k d)
def A4.av{S T:Nat->Prop}{w w':gC}(h:A4 S w w')(E:∀k,T k->k<w.heap.size)(z:∀k,T k->¬S k):Gz T w w':=λk d=>h.Al k (E k d) (z k d)
def Au{w w':gC}{d e size n:Nat}{v:gD}{xs:gF gD}(h:w.ownsRow d e size v n xs)(O:∀g,v.ownBlock=some g->w'.heap[g]?=w.heap[g]?):w'.ownsRow d e size v n xs:=by
 refine⟨h.1,?_⟩;rcases h.2 with E|⟨g,cap,z,rfl,L,I,r⟩
 ·exact .inl E
 ·exact .inr ⟨g,cap,z,rfl,L,by rw[O g rfl];exact I,r⟩
def Aw{w:gC}{d e size n:Nat}{v:gD}{xs:gF gD}(h:w.ownsRow d e size v n xs){g:Nat}(z:v.ownBlock=some g):g<w.heap.size:=(h.lt g z).2
def B9{w:gC}{z e size n:Nat}{v:gD}{xs:gF gD}(h:w.ownsRow z e size v n xs){g:Nat}(E:v.ownBlock=some g):∃d,w.heap[g]?=some (.cells d e (0,0)):=by
 rcases h.2 with⟨rfl,_⟩|⟨g',cap,d,rfl,_,I,_⟩
 ·simp[Value.ownBlock]at E
 ·simp[Value.ownBlock]at E;subst E;exact⟨d,I⟩
def Bu{w:gC}{d e size n:Nat}{v:gD}{xs:gF gD}(h:w.ownsRow d e size v n xs){g:Nat}(z:v.ownBlock=some g){j:Nat}{u:gD}(hu:xs[j]?=some u):A7 w g j u:=by
 have:=h.cells z j u hu;unfold Addr.add at this;split at this
 ·rename_i E;rw[E];exact this
 ·simpa using this
def ER{w:gC}{d e size n:Nat}{v:gD}{xs:gF gD}(h:w.ownsRow d e size v n xs){g:Nat}(z:v.ownBlock=some g)(j:Nat):w.frozen? (A9 g j)=false:=by
 have⟨cur,hh⟩:=B9 h z;simp[World.frozen?,hh]
def B8{w:gC}{d e size n:Nat}{v:gD}{xs:gF gD}(h:w.ownsRow d e size v n xs):
 ∃a cap,v=.slice a n cap/\n<=cap/\cap<=maxLen/\(0<n->∃g,a=some (A9 g 0))/\(a=none->n=0/\cap=0)/\(∀x,a=some x->∃g,x=(A9 g 0)):=by
 rcases h.2 with⟨rfl,I⟩|⟨g,cap,cur,rfl,_,hg,z,L,hs,_⟩
 ·exact⟨none,0,by rw[I],iC,iF,iC,λ_=>⟨I,rfl⟩,λx E=>by cases E⟩
 ·exact⟨_,cap,rfl,z,L,λ_=>⟨g,rfl⟩,iE,λx E=>⟨g,by cases E;rfl⟩⟩
def OX{w:gC}{d e size n cap:Nat}{a:Option Addr}{xs:gF gD}(h:w.ownsRow d e size (.slice a n cap) n xs){m:Nat}(hm:m<=n):w.ownsRow d e size (.slice a m cap) m (xs.take (m*size)):=by
 have L:m*size<=n*size:=Ih _ hm;refine⟨by rw[BK,h.1];omega,?_⟩;rcases h.2 with⟨z,O⟩|⟨g,cap',I,z,Y,hg,hcap,E,hs,X⟩
 ·subst O;cases z;obtain rfl:m=0:=iC
  exact .inl ⟨rfl,rfl⟩
 ·cases z;exact .inr ⟨g,cap,I,rfl,Y,hg,iC,E,hs,by rw[<-X,KQ,JY L]⟩
def Qg(a b:gE):(a.toList==b.toList)=true↔a=b:=by
 rw[beq_iff_eq,L4,L4];exact⟨λh=>A4w h,λh=>by rw[h]⟩
def Vm(a b:gE):(a.toList==b.toList)=false↔a≠b:=by
 have:=Qg a b;constructor
 ·intro h e;rw[this.2 e]at h;cases h
 ·intro h;cases hx:(a.toList==b.toList) with
  | false=>rfl
  | true=>exact absurd (this.1 hx) h
abbrev AP:=gE×Nat
def C8:gF AP->gF gD
 | []=>[]
 | (n,f):: r=>.string n::(A5 f):: C8 r
def A2l(es:gF AP):(C8 es).length=es.length*2:=by
 induction es with
 | nil=>rfl
 | cons e r ih=>obtain⟨n,f⟩:=e;simp only[C8,CA,ih];omega
def LP(a b:gF AP):C8 (a++b)=C8 a++C8 b:=by
 induction a with
 | nil=>rfl
 | cons e r ih=>obtain⟨n,f⟩:=e;simp[C8,ih]
def A2k(es:gF AP)(k:Nat):(C8 es).take (k*2)=C8 (es.take k):=by
 induction es generalizing k with
 | nil=>simp[C8]
 | cons e r ih=>
  obtain⟨n,f⟩:=e
  match k with
  | 0=>simp[C8]
  | k+1=>rw[show (k+1)*2=k*2+1+1 from by omega];simp[C8,ih]
def A2m(es:gF AP)(k:Nat):(C8 es).drop (k*2)=C8 (es.drop k):=by
 induction es generalizing k with
 | nil=>simp[C8]
 | cons e r ih=>
  obtain⟨n,f⟩:=e
  match k with
  | 0=>simp[C8]
  | k+1=>rw[show (k+1)*2=k*2+1+1 from by omega];simp[C8,ih]
def PV(es:gF AP)(k:Nat)(h:k<es.length):(C8 es)[k*2]?=some (.string (es[k]'h).1):=by
 induction es generalizing k with
 | nil=>simp at h
 | cons e r ih=>
  obtain⟨n,f⟩:=e
  match k with
  | 0=>simp[C8]
  | k+1=>
   have:=ih k (by simpa using h);rw[show (k+1)*2=k*2+1+1 from by omega];simpa[C8] using this
def PT(es:gF AP)(k:Nat)(h:k<es.length):(C8 es)[k*2+1]?=some (A5 ((es[k]'h).2)):=by
 induction es generalizing k with
 | nil=>simp at h
 | cons e r ih=>
  obtain⟨n,f⟩:=e
  match k with
  | 0=>simp[C8]
  | k+1=>
   have:=ih k (by simpa using h);rw[show (k+1)*2+1=k*2+1+1+1 from by omega];simpa[C8] using this
def PU(es:gF AP):∀u∈C8 es,u.oneCell'=true:=by
 induction es with
 | nil=>simp[C8]
 | cons e r ih=>
  obtain⟨n,f⟩:=e;intro u hu;simp only[C8,BS]at hu;rcases hu with rfl|rfl|hu
  ·rfl
  ·rfl
  ·exact ih u hu
def Df(w:gC)(v:gD)(es:gF AP):Prop:=w.ownsRow 0 125 2 v es.length (C8 es)
def Df.BW{w:gC}{v:gD}{es:gF AP}(h:Df w v es):
 ∃a cap,v=.slice a es.length cap/\es.length<=cap/\cap<=maxLen/\∀k (d:k<es.length),∃g,a=some (A9 g 0)/\A7 w g (k*2) (.string (es[k]'d).1)/\A7 w g (k*2+1) (A5 ((es[k]'d).2)):=by
 rcases B8 h with⟨a,cap,rfl,E,z,I,_,_⟩;refine⟨a,cap,rfl,E,z,λk d=>?_⟩;obtain⟨g,rfl⟩:=I iC;exact⟨g,rfl,Bu h rfl (PV es k d),Bu h rfl (PT es k d)⟩
def Bb:gF AP->gE->Int
 | [],_=>-1
 | e::r,nd=>if e.1=nd then 0 else if Bb r nd<0 then -1 else Bb r nd+1
def A2f(es:gF AP)(z:gE)(k:Nat)(E:k<es.length)(h:(es[k]'E).1=z)(d:∀m (L:m<k),(es[m]' iC).1≠z):Bb es z=k:=by
 induction es generalizing k with
 | nil=>simp at E
 | cons e r ih=>
  match k with
  | 0=>simp only[KY]at h;simp[Bb,h]
  | k+1=>
   have I:=d 0 iC;simp only[KY]at I;have:=ih k (by simpa using E) (by simpa using h) (λm L=>by simpa using d (m+1) iC);simp only[Bb,I,Cf,this];rw[Af iC];omega
def A2d(es:gF AP)(h:gE)(d:∀m (z:m<es.length),(es[m]'z).1≠h):Bb es h = -1:=by
 induction es with
 | nil=>rfl
 | cons e r ih=>
  have E:=d 0 iE;simp only[KY]at E;have:=ih (λm z=>by have:=d (m+1) (by simp;omega);simpa using this);simp[Bb,E,this]
def UO(es:gF AP)(d:gE): -1<=Bb es d/\Bb es d<es.length:=by
 induction es with
 | nil=>simp[Bb]
 | cons e r ih=>
  simp only[Bb,CA];split
  ·omega
  ·split<;>omega
def PR(es:gF AP)(d:gE):(Bb es d = -1/\∀e∈es,e.1≠d)\/∃k,∃z:k<es.length,Bb es d=(k:Int)/\(es[k]'z).1=d:=by
 induction es with
 | nil=>exact .inl ⟨rfl,iE⟩
 | cons e r ih=>
  by_cases h:e.1=d
  ·exact .inr ⟨0,iE,by simp[Bb,h],by simpa using h⟩
  ·rcases ih with⟨I,E⟩|⟨k,z,I,E⟩
   ·exact .inl ⟨by simp[Bb,h,I],λx L=>by rcases BS.1 L with rfl|L;exact h;exact E x L⟩
   ·exact .inr ⟨k+1,by simpa using z,by simp only[Bb,h,Cf,I];rw[Af iC];omega,by simpa using E⟩
structure DN where
 Av:Int
 Bc:Int
 CZ:Int
 E7:Int
 BG:Int
 Bm:Int
 fulls:Int
 Bh:Bool
def Hs(vd vs vc:gD)(n:DN):Array Value:=
 #[vd,vs,vc,A0 n.Av,A0 n.Bc,A0 n.CZ,A0 n.E7,A0 n.BG,A0 n.Bm,A0 n.fulls,.bool n.Bh]
def AM(w:gC)(b:Nat)(vd vs vc:gD)(n:DN):Prop:=w.heap[b]?=some (.cells (Hs vd vs vc n) 95 (0,0))
section
variable{w:gC}{b:Nat}{vd vs vc:gD}{n:DN}
def AM.c0(h:AM w b vd vs vc n):A7 w b 0 vd:=by unfold AM at h;simp[A7,World.cell?,h,Hs]
def AM.c1(h:AM w b vd vs vc n):A7 w b 1 vs:=by unfold AM at h;simp[A7,World.cell?,h,Hs]
def AM.c2(h:AM w b vd vs vc n):A7 w b 2 vc:=by unfold AM at h;simp[A7,World.cell?,h,Hs]
def AM.c3(h:AM w b vd vs vc n):A7 w b 3 (A0 n.Av):=by unfold AM at h;simp[A7,World.cell?,h,Hs]
def AM.c4(h:AM w b vd vs vc n):A7 w b 4 (A0 n.Bc):=by unfold AM at h;simp[A7,World.cell?,h,Hs]
def AM.c5(h:AM w b vd vs vc n):A7 w b 5 (A0 n.CZ):=by unfold AM at h;simp[A7,World.cell?,h,Hs]
def AM.c6(h:AM w b vd vs vc n):A7 w b 6 (A0 n.E7):=by unfold AM at h;simp[A7,World.cell?,h,Hs]
def AM.c7(h:AM w b vd vs vc n):A7 w b 7 (A0 n.BG):=by unfold AM at h;simp[A7,World.cell?,h,Hs]
def AM.c8(h:AM w b vd vs vc n):A7 w b 8 (A0 n.Bm):=by unfold AM at h;simp[A7,World.cell?,h,Hs]
def AM.c9(h:AM w b vd vs vc n):A7 w b 9 (A0 n.fulls):=by unfold AM at h;simp[A7,World.cell?,h,Hs]
def AM.br(h:AM w b vd vs vc n):A7 w b 10 (.bool n.Bh):=by unfold AM at h;simp[A7,World.cell?,h,Hs]
def AM.fz(h:AM w b vd vs vc n)(o:Nat):w.frozen? (A9 b o)=false:=by unfold AM at h;simp[World.frozen?,h]
def AM.lt(h:AM w b vd vs vc n):b<w.heap.size:=Bv h
def BQ{w:gC}{b:Nat}{c:Array gD}{e:Nat}{o:Nat}{v:gD}(h:w.heap[b]?=some (.cells c e (0,0))):(w.setCell (A9 b o) v).heap[b]?=some (.cells (c.setIfInBounds o v) e (0,0)):=by
 simp[World.setCell,Array.getElem?_modify,h]
def AM.av{w':gC}(h:AM w b vd vs vc n)(d:w'.heap[b]?=w.heap[b]?):AM w' b vd vs vc n:=d.trans h
def AM.ai(h:AM w b vd vs vc n)(o:Obj):AM (w.alloc o) b vd vs vc n:=h.av (CW _ _ _ h.lt)
def AM.C7{w':gC}{row:Option Nat}(h:AM w b vd vs vc n)(z:w.grownBy w' row)(d:row≠some b):AM w' b vd vs vc n:=h.av (z.block b h.lt (λe=>d e.symm))
def AM.Am{S:Nat->Prop}{w':gC}(h:AM w b vd vs vc n)(z:A4 S w w')(d:¬S b):AM w' b vd vs vc n:=h.av (z.Al b h.lt d)
def AM.s0(h:AM w b vd vs vc n)(v:gD):AM (w.setCell (A9 b 0) v) b v vs vc n:=BQ h
def AM.s1(h:AM w b vd vs vc n)(v:gD):AM (w.setCell (A9 b 1) v) b vd v vc n:=BQ h
def AM.s2(h:AM w b vd vs vc n)(v:gD):AM (w.setCell (A9 b 2) v) b vd vs v n:=BQ h
def AM.s4(h:AM w b vd vs vc n)(x:Int):AM (w.setCell (A9 b 4) (A0 x)) b vd vs vc {n with Bc:=x}:=BQ h
def AM.s5(h:AM w b vd vs vc n)(x:Int):AM (w.setCell (A9 b 5) (A0 x)) b vd vs vc {n with CZ:=x}:=BQ h
def AM.s6(h:AM w b vd vs vc n)(x:Int):AM (w.setCell (A9 b 6) (A0 x)) b vd vs vc {n with E7:=x}:=BQ h
def AM.s7(h:AM w b vd vs vc n)(x:Int):AM (w.setCell (A9 b 7) (A0 x)) b vd vs vc {n with BG:=x}:=BQ h
def AM.s8(h:AM w b vd vs vc n)(x:Int):AM (w.setCell (A9 b 8) (A0 x)) b vd vs vc {n with Bm:=x}:=BQ h
def AM.s9(h:AM w b vd vs vc n)(x:Int):AM (w.setCell (A9 b 9) (A0 x)) b vd vs vc {n with fulls:=x}:=BQ h
def AM.cv(h:AM w b vd vs vc n)(x:Bool):AM (w.setCell (A9 b 10) (.bool x)) b vd vs vc {n with Bh:=x}:=BQ h
end
def Dd(w:gC)(f:Nat)(vb:gD)(Ad:Int):Prop:=w.heap[f]?=some (.cells #[vb,A0 Ad] 129 (0,0))
section
variable{w:gC}{f:Nat}{vb:gD}{Ad:Int}
def Dd.c0(h:Dd w f vb Ad):A7 w f 0 vb:=by unfold Dd at h;simp[A7,World.cell?,h]
def Dd.c1(h:Dd w f vb Ad):A7 w f 1 (A0 Ad):=by unfold Dd at h;simp[A7,World.cell?,h]
def Dd.fz(h:Dd w f vb Ad)(o:Nat):w.frozen? (A9 f o)=false:=by unfold Dd at h;simp[World.frozen?,h]
def Dd.s0(h:Dd w f vb Ad)(v:gD):Dd (w.setCell (A9 f 0) v) f v Ad:=BQ h
def Dd.s1(h:Dd w f vb Ad)(x:Int):Dd (w.setCell (A9 f 1) (A0 x)) f vb x:=BQ h
end
def Et(bs:gF UInt8):gF Value:=bs.map λb=>.int .u8 b.toNat
def Gm(w:gC)(v:gD)(bs:gF UInt8):Prop:=w.ownsRow 0 5 1 v bs.length (Et bs)
def A3q(a b:gF UInt8):Et (a++b)=Et a++Et b:=EM
def A4.dd{S:Nat->Prop}{w w':gC}(h:Below w.heap.size w w'):A4 S w w':=⟨h.os,h.tape,h.output,h.size,λk d _=>h.block k d⟩
def A4.ad{w w':gC}(h:A4 Aa w w'){p:Addr}{v:gD}(d:w.cell? p=some v):w'.cell? p=some v:=by
 have z:p.block<w.heap.size:=by
  rcases Fg p.block w.heap.size with h|h
  ·exact h
  ·unfold World.cell? at d;rw[O7 h]at d;simp at d
 unfold World.cell? at d ⊢;rw[h.Al _ z (λh=>h)];exact d
end
section
open Go.RowKit
attribute [local go_sem ↓] Go.wp_at_zero Go.wp_at_succ
def DR(w:gC)(v:gD)(es:gF AP)(Y:gE)(h:Df w v es):
 Ag 77 #[v,.string Y] w (Aj (A0 (Bb es Y)) λw'=>w=w'):=by
 obtain⟨a,cap,rfl,hc1,aB,z⟩:=h.BW;unfold maxLen at aB
 go_enter func77,ntmps77
 go_wp2;go_loop [5,8] (λj i=>∃k:Nat,k<=es.length/\i=A0 k/\Hid (∀m (X:m<k) (h2:m<es.length),(es[m]'h2).1≠Y)) (λ_ i=>es.length-(intOf i).toNat)
 ·exact⟨0,Cb _,rfl,λm X=>absurd X iC⟩
 ·obtain⟨k,hk,rfl,L⟩:=hrel;by_cases O:k<es.length
  ·obtain⟨g,rfl,hn,hp⟩:=z k O;by_cases I:(es[k]'O).1=Y
   ·have ht:=(Qg _ _).2 I;have hf:=Hid.o L;have d:=A2f es Y k O I (λm X=>hf m X iC);have E:=A1 <| d;clear d;go_wp2;go_ret;exact⟨by rw[E.o];rfl,rfl⟩
   ·have ht:=(Vm _ _).2 I;have aA:=A1 <| I;go_wp2;go_round
    ·exact⟨k+1,iC,by go_num,λm X h2=>by rcases Fg m k with h|h;exact L m h h2;(obtain rfl:m=k:=iC);exact aA.o⟩
    ·simp[intOf];omega
  ·have d:=A2d es Y (λm X=>Hid.o L m iC X);have E:=A1 <| d;clear d z;go_wp2;go_ret;exact⟨by rw[E.o];rfl,rfl⟩
def bg(n:DN):Bool×Int×DN:=
 let c:=wrap64 (n.Bc+1)
 if n.Bh then (false,5,{n with Bc:=c,Bm:=wrap64 (n.Bm+1)})
 else if c=n.CZ then (true,5,{n with Bc:=c,Bm:=wrap64 (n.Bm+1),Bh:=true})
 else if c=n.E7 then (false,5,{n with Bc:=c,Bm:=wrap64 (n.Bm+1)})
 else (true,0,{n with Bc:=c})
def Hv(w:gC)(b:Nat)(vd X vc:gD)(n:DN)(h:AM w b vd X vc n):
 Ag 121 #[A5 b] w (Aj (.tuple #[.bool (bg n).1,A0 (bg n).2.1]) λw'=>AM w' b vd X vc (bg n).2.2/\A4 (One b) w w'):=by
 have h4:=h.c4;have h5:=h.c5;have h6:=h.c6;have h8:=h.c8;have h10:=h.br;have hf:=h.fz;have e1:=(h.s4 (wrap64 (n.Bc+1)));have e2:=e1.s8 (wrap64 (n.Bm+1));have e3:=e2.cv true;have aA:=(A4.C (One b) w).an rfl 4 (A0 (wrap64 (n.Bc+1)));have L:=aA.an rfl 8 (A0 (wrap64 (n.Bm+1)));have aF:=L.an rfl 10 (.bool true);have aG:=A1 e1;have Y:=A1 e2;have aD:=A1 e3;have aB:=A1 aA;have O:=A1 L;have aE:=A1 aF;by_cases I:n.Bh=true
 ·have q:Hid (bg n=(false,5,{n with Bc:=wrap64 (n.Bc+1),Bm:=wrap64 (n.Bm+1)})):=by unfold Hid;simp[bg,I]
  go_enter func121,ntmps121
  go_wp2;go_ret2;rw[q.o];exact⟨rfl,Y.o,O.o⟩
 ·have d:n.Bh=false:=by simpa using I
  by_cases hc:(wrap64 (n.Bc+1)==n.CZ)=true
  ·(have q:Hid (bg n=(true,5,{n with Bc:=wrap64 (n.Bc+1),Bm:=wrap64 (n.Bm+1),Bh:=true})):=by unfold Hid;simp[bg,d,eq_of_beq hc])
   go_enter func121,ntmps121
   go_wp2;go_region_held3 (λw'=>w'.cell? ⟨b,4,none⟩=some (A0 (wrap64 (n.Bc+1)))/\w'.cell? ⟨b,5,none⟩=some (A0 n.CZ)) (refine⟨?_,?_⟩<;>go_simp) (fail);go_wp2;go_ret2;rw[q.o];exact⟨rfl,aD.o,aE.o.aa⟩
  ·(have z:(wrap64 (n.Bc+1)==n.CZ)=false:=by simpa using hc);by_cases hl:(wrap64 (n.Bc+1)==n.E7)=true
   ·have q:Hid (bg n=(false,5,{n with Bc:=wrap64 (n.Bc+1),Bm:=wrap64 (n.Bm+1)})):=by
     have:=TE z;unfold Hid bg;dsimp only;rw[Af (by rw[d];decide),Af this,Ai (eq_of_beq hl)]
    go_enter func121,ntmps121
    go_wp2;go_region_held3 (λw'=>w'.cell? ⟨b,4,none⟩=some (A0 (wrap64 (n.Bc+1)))/\w'.cell? ⟨b,5,none⟩=some (A0 n.CZ)) (refine⟨?_,?_⟩<;>go_simp) (fail);go_wp2;go_region_held3 (λw'=>w'.cell? ⟨b,4,none⟩=some (A0 (wrap64 (n.Bc+1)))/\w'.cell? ⟨b,6,none⟩=some (A0 n.E7)) (refine⟨?_,?_⟩<;>go_simp) (fail);go_wp2;go_ret2;rw[q.o];exact⟨rfl,Y.o,O.o.aa.aa⟩
   ·(have E:(wrap64 (n.Bc+1)==n.E7)=false:=by simpa using hl);have q:Hid (bg n=(true,0,{n with Bc:=wrap64 (n.Bc+1)})):=by
     have:=TE z;have h2:=TE E;unfold Hid bg;dsimp only;rw[Af (by rw[d];decide),Af this,Af h2]
    go_enter func121,ntmps121
    go_wp2;go_region_held3 (λw'=>w'.cell? ⟨b,4,none⟩=some (A0 (wrap64 (n.Bc+1)))/\w'.cell? ⟨b,5,none⟩=some (A0 n.CZ)) (refine⟨?_,?_⟩<;>go_simp) (fail);go_wp2;go_region_held3 (λw'=>w'.cell? ⟨b,4,none⟩=some (A0 (wrap64 (n.Bc+1)))/\w'.cell? ⟨b,6,none⟩=some (A0 n.E7)) (refine⟨?_,?_⟩<;>go_simp) (fail);go_wp2;go_ret2;rw[q.o];exact⟨rfl,aG.o,aB.o.aa.aa⟩
end
abbrev Tryz.gl:Go.Conc.Locks.MuLink:={lock:=61,unlock:=62,ilock:=103,iunlock:=104,lockSlow:=144,unlockSlow:=147,disable:=140,enable:=142,acquire:=143,relMerge:=145,cas32:=141,add32:=146,tMutex:=106,tIMutex:=104,tPMutex:=167,tPIMutex:=213,tPI32:=215,tUP:=217,tNoCopy:=101,tU32:=102}
def Tryz.bn:Go.Conc.Locks.MuLib Tryz.prog Tryz.gl:=
 ⟨func61,func62,func103,func104,func140,func142,func143,func145,func141,func146,
  underlying104,Tryz.runUnderlying104,sizeOf104,isAgg104,zeroValue104,
  underlying106,Tryz.runUnderlying106,sizeOf106,isAgg106,zeroValue106,
  underlying167,Tryz.runUnderlying167,sizeOf167,isAgg167,zeroValue167,
  underlying213,Tryz.runUnderlying213,sizeOf213,isAgg213,zeroValue213,
  underlying215,Tryz.runUnderlying215,sizeOf215,isAgg215,zeroValue215,
  underlying217,Tryz.runUnderlying217,sizeOf217,isAgg217,zeroValue217,
  underlying101,Tryz.runUnderlying101,sizeOf101,isAgg101,zeroValue101,
  underlying21,Tryz.runUnderlying21,sizeOf21,isAgg21,zeroValue21,(by kernel_rfl)⟩
abbrev Pt:=Int×Int
def Ce:gF Pt->Int->Int->gF Pt
 | [],t,v=>[(t,v)]
 | (a,b):: r,t,v=>if a<t then (a,b):: Ce r t v else if a=t then (t,v):: r else (t,v):: (a,b):: r
def DV(l:gF Pt):Prop:=l.Pairwise λx y=>x.1<y.1
def A1M{l:gF Pt}{t v:Int}{x:Pt}(h:x∈Ce l t v):x=(t,v)\/x∈l:=by
 induction l with
 | nil=>simp[Ce]at h;exact .inl h
 | cons e r ih=>
  obtain⟨a,b⟩:=e;simp only[Ce]at h;split at h
  ·rcases BS.1 h with h|h
   ·exact .inr (by simp[h])
   ·rcases ih h with h|h
    ·exact .inl h
    ·exact .inr (BC _ h)
  ·split at h
   ·rcases BS.1 h with h|h
    ·exact .inl h
    ·exact .inr (BC _ h)
   ·rcases BS.1 h with h|h
    ·exact .inl h
    ·exact .inr h
def LM{l:gF Pt}(h:DV l)(t v:Int):DV (Ce l t v):=by
 induction l with
 | nil=>simp[Ce,DV]
 | cons e r ih=>
  obtain⟨a,b⟩:=e;have z:=Dl.1 h;simp only[Ce];split
  ·rename_i E;refine Dl.2 ⟨λx d=>?_,ih z.2⟩;rcases A1M d with rfl|d
   ·exact E
   ·exact z.1 x d
  ·rename_i E;split
   ·rename_i I;subst I;exact Dl.2 ⟨λx d=>z.1 x d,z.2⟩
   ·rename_i I;refine Dl.2 ⟨λx d=>?_,h⟩;rcases BS.1 d with rfl|d
    ·show t<a;omega
    ·have:=z.1 x d;show t<x.1;simp only at this;omega
def BF(l:gF Pt)(t:Int):Nat:=(l.takeWhile λx=>decide (x.1<t)).length
def Jx(l:gF Pt)(t:Int):BF l t<=l.length:=by
 unfold BF;exact(List.takeWhile_sublist _).length_le
def Ks{l:gF Pt}{t:Int}{i:Nat}(h:i<BF l t)(z:i<l.length):(l[i]'z).1<t:=by
 unfold BF at h
 induction l generalizing i with
 | nil=>simp at z
 | cons e r ih=>
  by_cases d:e.1<t
  ·simp only[Qw,d,Q5,Cs,CA]at h;cases i with
   | zero=>exact d
   | succ i=>simp only[NT];exact ih iC _
  ·simp[d]at h
def Lq{l:gF Pt}(I:DV l){t:Int}{i:Nat}(h:BF l t<=i)(z:i<l.length):t<=(l[i]'z).1:=by
 unfold BF at h
 induction l generalizing i with
 | nil=>simp at z
 | cons e r ih=>
  have d:=Dl.1 I;by_cases E:e.1<t
  ·simp only[Qw,E,Q5,Cs,CA]at h;cases i with
   | zero=>omega
   | succ i=>simp only[NT];exact ih d.2 iC _
  ·cases i with
   | zero=>simp only[KY];omega
   | succ i=>
    have:=d.1 (r[i]'(by simpa using z)) (BT _);simp only[NT];omega
def MU{l:gF Pt}(L:DV l){t:Int}{k:Nat}(hk:k<=l.length)(I:∀i (z:i<l.length),i<k->(l[i]'z).1<t)(E:∀i (z:i<l.length),k<=i->t<=(l[i]'z).1):BF l t=k:=by
 rcases Qt (BF l t) k with h|h|h
 ·have d:BF l t<l.length:=iC
  have:=I _ d h;have:=Lq L (An (BF l t)) d;omega
 ·exact h
 ·have hp:=Jx l t;have d:k<l.length:=iC
  have:=Ks h d;have:=E k d (An k);omega
def Pz(l:gF Pt)(t v:Int):Ce l t v=l.take (BF l t)++(t,v):: (if (l[BF l t]?).any (λx=>x.1==t) then l.drop (BF l t+1) else l.drop (BF l t)):=by
 unfold BF
 induction l with
 | nil=>simp[Ce]
 | cons e r ih=>
  obtain⟨a,b⟩:=e;simp only[Ce];by_cases h:a<t
  ·simp only[h,Cs,Qw,Q5,CA,FW,DK,A4T,Ga,ih]
  ·by_cases d:a=t
   ·subst d;simp
   ·simp[h,d]
def Ux{l:gF Pt}(hs:DV l)(p:Int->Bool)(t v:Int):(Ce l t v).filter (λx=>p x.1)=if p t then Ce (l.filter λx=>p x.1) t v else l.filter (λx=>p x.1):=by
 induction l with
 | nil=>by_cases h:p t<;>simp[Ce,h]
 | cons e r O=>
  obtain⟨a,b⟩:=e;have E:=Dl.1 hs;have O:=O E.2;simp only[Ce];by_cases I:a<t
  ·simp only[I,Cs,Fz,O];by_cases h:p t<;>by_cases z:p a<;>simp[h,z,Ce,I]
  ·by_cases L:a=t
   ·subst L;simp only[I,Cf,Cs,Fz];by_cases h:p a<;>simp[h,Ce]
   ·simp only[I,L,Cf,Fz];by_cases h:p t
    ·by_cases z:p a
     ·simp[h,z,Ce,I,L]
     ·simp only[h,z,Cs];have hall:∀x∈r.filter (λx=>p x.1),t<x.1:=λx hx=>by
       have:=E.1 x (H3.1 hx).1;simp only at this;omega
      cases hr:r.filter (λx=>p x.1) with
      | nil=>simp[Ce]
      | cons y ys=>
       obtain⟨c,d⟩:=y;have:=hall (c,d) (by rw[hr];simp);simp only at this;have Y:¬c<t:=iC;have X:¬c=t:=iC;simp[Ce,Y,X]
    ·by_cases z:p a<;>simp[h,z]
def DV.ct{l:gF Pt}(h:DV l)(k:Nat):DV (l.drop k):=A4X (List.drop_sublist k l) h
def A2c{l:gF Pt}(Y:DV l)(a b:Int):l.filter (λx=>decide (a<=x.1)&&decide (x.1<b))=(l.take (BF l b)).drop (BF l a):=by
 unfold BF
 induction l with
 | nil=>simp
 | cons e r h=>
  have d:=Dl.1 Y;have h:=h d.2;by_cases z:e.1<b
  ·by_cases I:e.1<a
   ·(have:¬a<=e.1:=iC);simp[I,z,this,h]
   ·have X:a<=e.1:=iC;have O:r.takeWhile (λx=>decide (x.1<a))=[]:=by
     cases r with
     | nil=>rfl
     | cons y ys=>have:=d.1 y iE;rw[Qw];have:¬y.1<a:=iC
                  simp[this]
    simp only[O,Jk,Dm]at h;simp[I,z,X,h]
  ·(have L:∀x∈r,¬x.1<b:=λx E=>by have:=d.1 x E;omega);have:r.filter (λx=>decide (a<=x.1)&&decide (x.1<b))=[]:=by
    rw[Wq];intro x E;have:=L x E;simp[this]
   simp[z,this]
section
open Go
def Pt1{α:Type}{l:gF α}{i:Nat}{a:α}:l.toArray.setIfInBounds i a=(l.set i a).toArray:=A4H _ _ _
def Pt2{α:Type}{x a:α}{xs:gF α}:(x::xs).set 0 a=a::xs:=rfl
def Pt3{α:Type}{x a:α}{xs:gF α}{n:Nat}:(x::xs).set (n+1) a=x::xs.set n a:=rfl
def Pt4{α:Type}{l:gF α}{i:Nat}(h:i<l.toArray.size):l.toArray[i]=l[i]'(by simpa using h):=rfl
def Pt5{α:Type}{a:α}{l:gF α}(h:0<(a::l).length):(a::l)[0]=a:=rfl
def Pt6{α:Type}{a:α}{l:gF α}{i:Nat}(h:i+1<(a::l).length):(a::l)[i+1]=l[i]'(A4A h):=rfl
def VW{α:Type}{a:α}{l:gF α}{n:Nat}:(a::l).drop (n+1)=l.drop n:=rfl
def VV{α:Type}{l:gF α}:l.drop 0=l:=rfl
section
variable{P:Program}{ops:Array Oper}{md:Region.Mode}{Q:Exit->Act->gC->Prop}{S:gC->Prop}
def Ld(P:Program)(md:Region.Mode)(ops:Array Oper)(Q:Exit->Act->gC->Prop)(S:gC->Prop)(n:Nat)(L:Array Bool->Act->gC->Prop):Nat->Array Bool->Act->gC->Prop
 | 0,lf,a,w=>L lf a w
 | f+1,lf,a,w=>Region.ready md ops lf≠[]/\∀i∈Region.ready md ops lf,i<n/\wpOp P ops Q i (λa' w'=>S w'/\Ld P md ops Q S n L f (lf.setIfInBounds i true) a' w') a w
def QY{n g:Nat}{L:Array Bool->Act->gC->Prop}(z:∀d a w,L d a w->wpAny P md ops Q g d a w):
 ∀(f:Nat) (d:Array Bool) (a:Act) (w:gC),Ld P md ops Q S n L f d a w->wpAny P md ops Q (f+g) d a w
 | 0,d,a,w,h=>by rw[Hj];exact z _ _ _ h
 | f+1,d,a,w,h=>by
  rw[show f+1+g=(f+g)+1 from by omega];exact⟨λI=>absurd I h.1,λi O=>Lc (λa' w' E=>QY z f _ a' w' E.2) (h.2 i O).2⟩
def X0{n i:Nat}{oi:Oper}{v:gD}{L:Array Bool->Act->gC->Prop}(hi:ops[i]?=some oi)(aA:∀(j:Nat) (o:Oper) cs b,ops[j]?=some o->o.op≠.select cs b)(hQ:∀c a w,Q (.panic c) (a.put oi.dst v) w->Q (.panic c) a w)(hs:Region.sinkB md ops n=true)(hc:Region.chainB md ops n=true)(hn:n<ops.size)(aF:i<n)(aB:∀E a w,L E a w->∀j∈Region.ready md ops E,n<=j):
 ∀(f:Nat) (E:Array Bool) (a:Act) (w:gC),HeadInv md ops n E->
  (∀j oj,ops[j]?=some oj->j≠i->E.getD j true=false->(∀e∈oj.after,Region.binds md e=true->e.on≠i)->oi.apart ops oj=true)->
  i∈Region.ready md ops E->YieldsIf P ops S oi v a->S w->
  Ld P md ops Q S n L f (E.setIfInBounds i true) (a.put oi.dst v) w->Ld P md ops Q S n L (f+1) E a w:=by
 intro f
 induction f with
 | zero=>
  intro E a w X _ hr hy hS H;have z:=(J0.1 hr).1;refine⟨λh=>(by rw[h]at hr;cases hr),λj hj=>?_⟩;have Y:j<n:=by
   rcases Fg j n with h|h
   ·exact h
   ·exact absurd hj (MA hs hc hn X _ i rfl aF z j h)
  refine⟨Y,?_⟩;by_cases d:j=i
  ·subst d;exact hy.wpOp hi hS ⟨hS,H⟩
  ·have:=aB _ _ _ H j (Lm hj d);omega
 | succ f ih=>
  intro E a w X I hr hy hS H;have z:=(J0.1 hr).1;refine⟨λh=>(by rw[h]at hr;cases hr),λj hj=>?_⟩;have Y:j<n:=by
   rcases Fg j n with h|h
   ·exact h
   ·exact absurd hj (MA hs hc hn X _ i rfl aF z j h)
  refine⟨Y,?_⟩;by_cases d:j=i
  ·subst d;exact hy.wpOp hi hS ⟨hS,H⟩
  ·have h1:=(H.2 j (Lm hj d)).2;have⟨hjun,oj,hoj,hall⟩:=J0.1 hj;have aE:∀e∈oj.after,Region.binds md e=true->e.on≠i:=λe he hb aI=>by
    have h1:=hall e he hb;rw[aI,getD_both z]at h1;cases h1
   have h2:=wpOp_putIf hoj (I j oj hoj d hjun aE) (λcs b=>aA i oi cs b hi) (λcs b=>aA j oj cs b hoj) hQ hy h1;have O:∀k ok,ops[k]?=some ok->k≠i->(E.setIfInBounds j true).getD k true=false->
    (∀e∈ok.after,Region.binds md e=true->e.on≠i)->oi.apart ops ok=true:=λk ok hk aH z aG=>by
    refine I k ok hk aH ?_ aG;by_cases aD:j=k
    ·subst aD;exact hjun
    ·rw[N9 true aD]at z;exact z
   refine Lc (λa' w' h3=>⟨h3.2.1,ih (E.setIfInBounds j true) a' w' (X.set hj Y) O (Lm hr (Qp d)) h3.1 h3.2.1 ?_⟩) h2;rw[WJ _ _ d];exact h3.2.2
def FE(P:Program)(ops:Array Oper)(Q:Exit->Act->gC->Prop)(S:gC->Prop)(T:Act->gC->Prop):gF (Nat×Bool)->Act->gC->Prop
 | [],a,w=>T a w
 | (i,true):: r,a,w=>∃o v,ops[i]?=some o/\YieldsIf P ops S o v a/\FE P ops Q S T r (a.put o.dst v) w
 | (i,false):: r,a,w=>wpOp P ops Q i (λa' w'=>S w'/\FE P ops Q S T r a' w') a w
def Lk(md:Region.Mode)(ops:Array Oper)(n:Nat):gF (Nat×Bool)->Array Bool->Bool
 | [],lf=>Region.seqB md ops (ops.size-n) n lf
 | (i,t):: r,lf=>decide (i<n)&&(if t then (Region.ready md ops lf).contains i&&Region.free md ops lf i else decide (Region.ready md ops lf=[i]))&&Lk md ops n r (lf.setIfInBounds i true)
def MF(ops:Array Oper)(n:Nat)(d:gF (Nat×Bool)):Bool:=
 Region.noSelect ops&&decide (n<ops.size)&&decide (d.length=n)&&Region.sinkB .any ops n&&Region.chainB .any ops n&&Lk .any ops n d (Array.replicate ops.size false)
def Oa{n:Nat}{T:Act->gC->Prop}(d:Region.noSelect ops=true)(hs:Region.sinkB md ops n=true)(hc:Region.chainB md ops n=true)(hn:n<ops.size)(hQ:∀c a t v w,Q (.panic c) (Act.put a (some t) v) w->Q (.panic c) a w):
 ∀(O:gF (Nat×Bool)) (I:Array Bool) (a:Act) (w:gC),HeadInv md ops n I->Lk md ops n O I=true->S w->FE P ops Q S T O a w->
 Ld P md ops Q S n (λX a' w'=>Region.seqB md ops (ops.size-n) n X=true/\T a' w') O.length I a w
 | [],I,a,w,_,hB,_,h=>⟨hB,h⟩
 | (i,true):: r,I,a,w,inv,hB,hS,h=>by
  simp only[Lk,Gb,Ea,Cs]at hB;obtain⟨⟨z,Y,hf⟩,L⟩:=hB;obtain⟨o,v,h0,hy,hK⟩:=h;have E:i∈Region.ready md ops I:=by simpa using Y
  exact X0 h0 (VT d) (λc a w=>by cases o.dst with|none=>exact id|some t=>exact hQ c a t v w) hs hc hn z (λX a' w' hL=>RR hL.1) r.length I a w inv (VU h0 hf) E hy hS
   (Oa d hs hc hn hQ r _ _ w (inv.set E z) L hS hK)
 | (i,false):: r,I,a,w,inv,hB,hS,h=>by
  simp only[Lk,Gb,Ea,QP,Cf]at hB;obtain⟨⟨z,Y⟩,L⟩:=hB;refine⟨by rw[Y];simp,λj hj=>?_⟩;have E:i∈Region.ready md ops I:=by rw[Y];simp
  rw[Y]at hj;have:j=i:=by simpa using hj
  subst this;exact⟨z,Lc (λa' w' h'=>⟨h'.1,Oa d hs hc hn hQ r _ a' w' (inv.set E z) L h'.1 h'.2⟩) h⟩
def G1{id:Nat}{a:Act}{w:gC}{l:gF Oper}(S:gC->Prop)(n:Nat)(d:gF (Nat×Bool))(hm:P.follows .mixedOrders=true)(O:MF l.toArray n d=true)(Y:∀c a t v w,Q (.panic c) (Act.put a (some t) v) w->Q (.panic c) a w)(hS:S w.drew)(h:FE P l.toArray Q S (λa w=>wpList P l.toArray Q (l.drop n) a w) d a w.drew):(Code.region id l.toArray true).wp P Q a w:=by
 simp only[MF,Gb,Ea]at O;obtain⟨⟨⟨⟨⟨hsel,hn⟩,hsl⟩,hs⟩,hc⟩,hgo⟩:=O;have E:(l.drop n).length=l.toArray.size-n:=iE
 have z:HeadInv .any l.toArray n (Array.replicate l.toArray.size false):=
  ⟨iE,λj oj _ L=>(by rw[KE]at L;cases L),λt _ X=>getD_in (by simpa using X) (KE _ _)⟩
 have H:=Oa (md:=.any) (T:=λa w=>wpList P l.toArray Q (l.drop n) a w) hsel hs hc hn Y d _ a w.drew z hgo hS h;refine QW hm ?_
 have:=QY (Q:=Q) (g:=l.toArray.size-n) (λlf a' w' I=>by
  have:=QX (md:=.any) (Q':=Q) (l.drop n) n lf a' w' (λj=>by simp[List.getElem?_drop]) (by rw[E];exact I.1) I.2
  rwa [E]at this) _ _ _ _ H
 rw[hsl,show n+(l.toArray.size-n)=l.toArray.size from by omega]at this;exact this
def E8{i:Nat}{o:Oper}{v:gD}{r:gF (Nat×Bool)}{a:Act}{w:gC}{T:Act->gC->Prop}(z:ops[i]?=some o)(d:Region.wanted o (yielded ops a.tmps)=true)(E:∀w,S w->(execOp a.eval o).run P w=.ok (.value v) w)(h:FE P ops Q S T r (a.put o.dst v) w):FE P ops Q S T ((i,true):: r) a w:=
 ⟨o,v,z,.inl ⟨d,E⟩,h⟩
def WW{i:Nat}{o:Oper}{r:gF (Nat×Bool)}{a:Act}{w:gC}{T:Act->gC->Prop}(z:ops[i]?=some o)(d:Region.wanted o (yielded ops a.tmps)=false)(h:FE P ops Q S T r (a.put o.dst undef) w):FE P ops Q S T ((i,true):: r) a w:=
 ⟨o,_,z,.inr ⟨d,rfl⟩,h⟩
def FD{a:Act}{w:gC}{T:Act->gC->Prop}(h:T a w):FE P ops Q S T [] a w:=h
def Dy{i:Nat}{o:Oper}{r:gF (Nat×Bool)}{a:Act}{w:gC}{T:Act->gC->Prop}(I:ops[i]?=some o)(z:Region.wanted o (yielded ops a.tmps)=true)(h:∀K:Act->gC->Prop,(∀a w,S w->(S w->FE P ops Q S T r a w)->K a w)->o.wp P a w K Q):FE P ops Q S T ((i,false):: r) a w:=by
 show wpOp P ops Q i _ a w;unfold wpOp;simp only[I,z,Cs];exact .inl (h _ λa w d E=>⟨d,E d⟩)
def B4{i:Nat}{o:Oper}{v:gD}{r:gF (Nat×Bool)}{a d:Act}{w:gC}{T:Act->gC->Prop}(h:FE P ops Q S T r d w)(E:ops[i]?=some o:=by rfl)(z:Region.wanted o (yielded ops a.tmps)=true:=by rfl)(I:∀w,S w->(execOp a.eval o).run P w=.ok (.value v) w:=by intro w' O;(try dsimp only at O);go_simp;try with_reducible rfl)(L:a.put o.dst v=d:=by simp only[BO];rfl):FE P ops Q S T ((i,true):: r) a w:=E8 E z I (L ▸ h)
def Bf{i:Nat}{o:Oper}{r:gF (Nat×Bool)}{a:Act}{w:gC}{T:Act->gC->Prop}(h:∀K:Act->gC->Prop,(∀a w,S w->(S w->FE P ops Q S T r a w)->K a w)->o.wp P a w K Q)(z:ops[i]?=some o:=by rfl)(d:Region.wanted o (yielded ops a.tmps)=true:=by rfl):FE P ops Q S T ((i,false):: r) a w:=Dy z d h
def Bl{a:Act}{w:gC}{l d:gF Oper}{n:Nat}(h:wpList P l.toArray Q d a w)(z:l.drop n=d:=by simp only[VW,VV];rfl):FE P l.toArray Q S (λa w=>wpList P l.toArray Q (l.drop n) a w) [] a w:=by subst z;exact h
def Bq{id:Nat}{a:Act}{w:gC}{l:gF Oper}(S:gC->Prop)(n:Nat)(d:gF (Nat×Bool))(E:S w.drew)(h:FE P l.toArray Q S (λa w=>wpList P l.toArray Q (l.drop n) a w) d a w.drew)(z:P.follows .mixedOrders=true:=by kernel_rfl)(I:MF l.toArray n d=true:=by kernel_rfl)(L:∀c a t v w,Q (.panic c) (Act.put a (some t) v) w->Q (.panic c) a w:=by exact λ_ _ _ _ _ h=>h):(Code.region id l.toArray true).wp P Q a w:=G1 S n d z I L E h
end
def NJ(Q:Exit->Act->gC->Prop):Exit->Act->gC->Prop
 | .panic _,_,_=>False
 | e,a,w=>Q e a w
def CL(Q:Exit->Act->gC->Prop)(a:Act)(w:gC):NJ Q .normal a w=Q .normal a w:=rfl
def A4y{Q:Exit->Act->gC->Prop}{e:Exit}{a:Act}{w:gC}(h:NJ Q e a w):Q e a w:=by
 cases e with
 | panic _=>exact h.elim
 | _=>exact h
def O9{P:Program}{Q:Exit->Act->gC->Prop}{id:Nat}{a:Act}{w:gC}{l:gF Oper}(S:gC->Prop)(n:Nat)(d:gF (Nat×Bool))(z:P.follows .mixedOrders=true)(I:MF l.toArray n d=true)(E:S w.drew)(h:FE P l.toArray (NJ Q) S (λa w=>wpList P l.toArray (NJ Q) (l.drop n) a w) d a w.drew):(Code.region id l.toArray true).wp P Q a w:=
 Code.wp_mono (λ_ _ _ h=>A4y h) (G1 S n d z I (λ_ _ _ _ _ h=>h) E h)
section
variable{P:Program}{Q:Exit->Act->gC->Prop}
def Rj(y:Nat->gD)(i:Nat)(v:gD):Nat->Value:=λj=>if j=i then v else y j
def GN(o:Oper):gF Nat:=(o.after.toList.filter (Region.binds .any)).map (·.on)
def FZ(G:Nat->gD->gC->Prop)(y:Nat->gD)(w:gC):gF Nat->Prop
 | []=>True
 | j::r=>G j (y j) w/\FZ G y w r
def FZ.of{G:Nat->gD->gC->Prop}{y:Nat->gD}{w:gC}:∀(l:gF Nat),(∀j∈l,G j (y j) w)->FZ G y w l
 | [],_=>trivial
 | j::r,h=>⟨h j iE,FZ.of r λk d=>h k (by simp[d])⟩
def WE(P:Program)(ops:Array Oper)(A:(Nat->gD)->Act)(S:gC->Prop)(R:gC->gC->Prop)(G:Nat->gD->gC->Prop)(Q:Exit->Act->gC->Prop)(i:Nat)(o:Oper):Prop:=
 (∀y w,S w->FZ G y w (GN o)->Region.wanted o (yielded ops (A y).tmps)=true->∀K:Act->gC->Prop,(∀v a' w',G i v w'->a'=(A y).put o.dst v->R w w'->S w'->K a' w')->o.wp P (A y) w K Q)/\
 (∀y w,S w->FZ G y w (GN o)->Region.wanted o (yielded ops (A y).tmps)=false->G i undef w)/\
 (∀y v,(A y).put o.dst v=A (Rj y i v))
def Gl(P:Program)(ops:Array Oper)(A:(Nat->gD)->Act)(S:gC->Prop)(R:gC->gC->Prop)(G:Nat->gD->gC->Prop)(Q:Exit->Act->gC->Prop):Nat->gF Oper->Prop
 | _,[]=>True
 | i,o::r=>WE P ops A S R G Q i o/\Gl P ops A S R G Q (i+1) r
def Gl.eY{ops:Array Oper}{A:(Nat->gD)->Act}{S:gC->Prop}{R:gC->gC->Prop}{G:Nat->gD->gC->Prop}:∀ {k:Nat} {l:gF Oper},Gl P ops A S R G Q k l->∀(i:Nat) (o:Oper),l[i]?=some o->WE P ops A S R G Q (k+i) o
 | _,[],_,i,o,h=>by simp at h
 | k,o'::r,hh,0,o,h=>by
  have:o'=o:=by simpa using h
  subst this;exact hh.1
 | k,o'::r,hh,i+1,o,h=>by
  have:=Gl.eY hh.2 i o (by simpa using h)
  rwa [show k+1+i=k+(i+1) by omega]at this
def GP(d:Array Bool):Nat->Nat
 | 0=>0
 | k+1=>GP d k+(if d.getD k true then 0 else 1)
def Vg(d:Array Bool)(i:Nat):∀n,n<=i->GP (d.setIfInBounds i true) n=GP d n
 | 0,_=>rfl
 | n+1,h=>by
  unfold GP;rw[Vg d i n iC,N9 true iC]
def Ve(d:Array Bool)(i:Nat)(I:d.getD i true=false):∀n,i<n->GP d n=GP (d.setIfInBounds i true) n+1
 | 0,h=>iC
 | n+1,h=>by
  unfold GP;by_cases z:i=n
  ·subst z;have L:i<d.size:=by
    rcases Fg i d.size with E | E
    ·exact E
    ·simp[Array.getElem?_eq_none E]at I
   rw[Vg d i i (An _),I];simp[L]
  ·rw[Ve d i I n iC,N9 true z];omega
def Vc(d:Array Bool):∀n,GP d n=0->∀j,j<n->d.getD j true=true
 | 0,_,j,h=>iC
 | n+1,h,j,hj=>by
  unfold GP at h;rcases Fg j n with z | z
  ·exact Vc d n iC j z
  ·(obtain rfl:j=n:=iC);cases hg:d.getD j true with
   | true=>rfl
   | false=>rw[hg]at h;simp at h
def Vf(d:Array Bool):∀n,GP d n≠0->∃j,j<n/\d.getD j true=false
 | 0,h=>absurd rfl h
 | n+1,h=>by
  cases hg:d.getD n true with
  | false=>exact⟨n,iC,hg⟩
  | true=>
   unfold GP at h;rw[hg]at h;have⟨j,hj,h2⟩:=Vf d n (by simpa using h);exact⟨j,iC,h2⟩
def Vd(m:Nat):∀n,n<=m->GP (Array.replicate m false) n=n
 | 0,_=>rfl
 | n+1,h=>by
  unfold GP;rw[Vd m n iC];have d:n<m:=iC
  have:(Array.replicate m false).getD n true=false:=by simp[d]
  rw[this];simp
def Nh(ops:Array Oper)(n:Nat):Bool:=
 decide (n<ops.size)&&Region.sinkB .any ops n&&Region.chainB .any ops n &&
  ((List.range n).all λi=>((ops[i]?).map λo=>o.after.all λe=>!Region.binds .any e||decide (e.on<i)).getD false) &&
  Region.seqB .any ops (ops.size-n) n (List.replicate n true++List.replicate (ops.size-n) false).toArray
def Zl{ops:Array Oper}{n:Nat}{z:Array Bool}(L:HeadInv .any ops n z)(hn:n<ops.size)(d:((List.range n).all λi=>((ops[i]?).map λo=>o.after.all λe=>!Region.binds .any e||decide (e.on<i)).getD false)=true):
 ∀(i:Nat),i<n->z.getD i true=false->∃k,k∈Region.ready .any ops z:=by
 intro i
 induction i using Nat.strongRecOn with
 | _ i ih=>
  intro hi X;have E:ops[i]?=some (ops[i]' iC):=A46 iC;obtain⟨o,E⟩:∃o,ops[i]?=some o:=⟨_,E⟩;by_cases hall:∀e∈o.after,Region.binds .any e=true->z.getD e.on false=true
  ·exact⟨i,J0.2 ⟨X,o,E,hall⟩⟩
  ·simp only[Classical.not_forall]at hall;obtain⟨e,he,hb,I⟩:=hall;have O:=(O0.1 d) i (KT.2 hi);rw[E]at O;simp only[ID,Option.getD_some,A48]at O;have Y:=O e he;rw[hb]at Y;(have h3:e.on<i:=by simpa using Y);refine ih e.on h3 iC (getD_in (by rw[L.size];omega) ?_);cases h:z.getD e.on false with
   | true=>exact absurd h I
   | false=>rfl
def A2o{l:gF Oper}{n:Nat}{A:(Nat->gD)->Act}{S:gC->Prop}{R:gC->gC->Prop}{G:Nat->gD->gC->Prop}(hB:Nh l.toArray n=true)(aN:Gl P l.toArray A S R G Q 0 (l.take n))(aL:∀j v w w',R w w'->S w'->G j v w->G j v w')(aI:∀y w,S w->(∀j,j<n->G j (y j) w)->wpList P l.toArray Q (l.drop n) (A y) w):
 ∀(f:Nat) (d:Array Bool) (y:Nat->gD) (w:gC),HeadInv .any l.toArray n d->GP d n=f->S w->(∀j,j<n->d.getD j false=true->G j (y j) w)->
  wpAny P .any l.toArray Q (f+(l.toArray.size-n)) d (A y) w:=by
 simp only[Nh,Gb,Ea]at hB;obtain⟨⟨⟨⟨hn,hs⟩,hc⟩,aD⟩,aH⟩:=hB;intro f
 induction f with
 | zero=>
  intro d y w z aB hS hG;have hall:=Vc d n aB;have aO:=z.size;have E:∀j,j<n->d.getD j false=true:=λj O=>by
   have X:=hall j O;have h2:j<d.size:=iC;simp[h2]at X ⊢;exact X
  have hL:d=(List.replicate n true++List.replicate (l.toArray.size-n) false).toArray:=by
   refine Array.ext (by (simp[aO];have:n<l.length:=by simpa using hn);omega) λi X h2=>?_;rcases Fg i n with h|h
   ·have:=E i h;simp[X]at this;simp[this,h]
   ·have:=z.tail i h iC;simp[X]at this;simp[this,List.getElem_append,Nat.not_lt.2 h]
  rw[Hj];have aK:(l.drop n).length=l.toArray.size-n:=iE
  have:=QX (P:=P) (md:=.any) (ops:=l.toArray) (Q':=Q) (l.drop n) n d (A y) w (λj=>by simp[List.getElem?_drop]) (by rw[aK,hL];exact aH) (aI y w hS λj O=>hG j O (E j O))
  rwa [aK]at this
 | succ f ih=>
  intro d y w z aB hS hG;have⟨i0,hi0,hun0⟩:=Vf d n iC;have aF:f+1+(l.toArray.size-n)=(f+(l.toArray.size-n))+1:=iC
  rw[aF];refine⟨λh0=>?_,λi hi=>?_⟩
  ·have⟨k,hk⟩:=Zl z hn aD i0 hi0 hun0;rw[h0]at hk;cases hk
  ·have Y:i<n:=by
    rcases Fg i n with h|h
    ·exact h
    ·exact absurd hi (MA hs hc hn z _ i0 rfl hi0 hun0 i h)
   have⟨hun,o,ho,hall⟩:=J0.1 hi;have aM:(l.take n)[i]?=some o:=by
    rw[List.getElem?_take_of_lt Y];simpa using ho
   have X:=(O0.1 aD) i (KT.2 Y);rw[ho]at X;simp only[ID,Option.getD_some,A48]at X;have ob:=aN.eY i o aM;rw[Hj]at ob;have L:FZ G y w (GN o):=by
    refine FZ.of _ λj O=>?_;unfold GN at O;rw[Cn]at O;obtain⟨e,he,rfl⟩:=O;rw[H3]at he;(have aJ:e∈o.after:=by simpa using he.1);have h2:=X e aJ;rw[he.2]at h2;(have h3:e.on<i:=by simpa using h2);exact hG e.on iC (hall e aJ he.2)
   have I:∀v w',S w'->(R w w'\/w'=w)->G i v w'->wpAny P .any l.toArray Q (f+(l.toArray.size-n)) (d.setIfInBounds i true) ((A y).put o.dst v) w':=by
    intro v w' aA hR aG;rw[ob.2.2 y v];refine ih _ _ _ (z.set hi Y) (by have:=Ve d i hun n Y;omega) aA λj O hl=>?_;unfold Rj;by_cases aE:j=i
    ·subst aE;simpa using aG
    ·rw[Af aE];rw[N9 false (Qp aE)]at hl;rcases hR with hR|rfl
     ·exact aL j _ w w' hR aA (hG j O hl)
     ·exact hG j O hl
   unfold wpOp;simp only[ho];split
   ·rename_i hw;exact .inl (ob.1 y w hS L hw _ λv a' w' aG aP hR aA=>aP ▸ I v w' aA (.inl hR) aG)
   ·rename_i hw;exact I _ w hS (.inr rfl) (ob.2.1 y w hS L (by simpa using hw))
def I0{id:Nat}{a:Act}{w:gC}{l:gF Oper}(n:Nat)(A:(Nat->gD)->Act)(O:Nat->gD)(S:gC->Prop)(R:gC->gC->Prop)(G:Nat->gD->gC->Prop)(Y:P.follows .mixedOrders=true)(L:Nh l.toArray n=true)(ha:a=A O)(hS:S w.drew)(E:∀j v w w',R w w'->S w'->G j v w->G j v w')(I:Gl P l.toArray A S R G Q 0 (l.take n))(d:∀y w,S w->(∀j,j<n->G j (y j) w)->wpList P l.toArray Q (l.drop n) (A y) w):(Code.region id l.toArray true).wp P Q a w:=by
 have hn:n<l.toArray.size:=by
  simp only[Nh,Gb,Ea]at L;exact L.1.1.1.1
 refine QW Y ?_;have h:HeadInv .any l.toArray n (Array.replicate l.toArray.size false):=
  ⟨iE,λj oj _ z=>(by rw[KE]at z;cases z),λt _ X=>getD_in (by simpa using X) (KE _ _)⟩
 have H:=A2o L I E d n _ O w.drew h (Vd _ n iC) hS (λj _ z=>by rw[KE]at z;cases z);rw[show n+(l.toArray.size-n)=l.toArray.size by omega]at H;rw[ha];exact H
end
section
variable{P:Program}{ops:Array Oper}{md:Region.Mode}{Q:Exit->Act->gC->Prop}
def SB(aA:Nat)(S:gC->Prop)(d:Array Bool)(w:gC):Prop:=d.getD aA false=true\/S w
def SB.bw{aA i:Nat}{S:gC->Prop}{d:Array Bool}{w:gC}(h:i≠aA):SB aA S (d.setIfInBounds i true) w↔SB aA S d w:=by
 unfold SB;have:(d.setIfInBounds i true).getD aA false=d.getD aA false:=by simp[Array.getD_eq_getD_getElem?,Array.getElem?_setIfInBounds_ne h]
 rw[this]
def wpAnyL(P:Program)(md:Region.Mode)(ops:Array Oper)(Q:Exit->Act->gC->Prop)(S:Array Bool->gC->Prop)(n:Nat)(L:Array Bool->Act->gC->Prop):Nat->Array Bool->Act->gC->Prop
 | 0,lf,a,w=>L lf a w
 | f+1,lf,a,w=>Region.ready md ops lf≠[]/\∀i∈Region.ready md ops lf,i<n/\wpOp P ops Q i (λa' w'=>S (lf.setIfInBounds i true) w'/\wpAnyL P md ops Q S n L f (lf.setIfInBounds i true) a' w') a w
def QZ{S:Array Bool->gC->Prop}{n g:Nat}{L:Array Bool->Act->gC->Prop}(z:∀d a w,L d a w->wpAny P md ops Q g d a w):
 ∀(f:Nat) (d:Array Bool) (a:Act) (w:gC),wpAnyL P md ops Q S n L f d a w->wpAny P md ops Q (f+g) d a w
 | 0,d,a,w,h=>by rw[Hj];exact z _ _ _ h
 | f+1,d,a,w,h=>by
  rw[show f+1+g=(f+g)+1 from by omega];exact⟨λI=>absurd I h.1,λi O=>Lc (λa' w' E=>QZ z f _ a' w' E.2) (h.2 i O).2⟩
def wpAnyL_first{aK:gC->Prop}{aO:gC->Prop}{aA n i:Nat}{oi:Oper}{v:gD}{L:Array Bool->Act->gC->Prop}(aE:i≠aA)(hi:ops[i]?=some oi)(aD:∀(j:Nat) (o:Oper) cs b,ops[j]?=some o->o.op≠.select cs b)(hQ:∀c a w,Q (.panic c) (a.put oi.dst v) w->Q (.panic c) a w)(hs:Region.sinkB md ops n=true)(hc:Region.chainB md ops n=true)(hn:n<ops.size)(aJ:i<n)(aG:∀z w,HeadInv md ops n z->i∈Region.ready md ops z->SB aA aK z w->aO w)(aF:∀z a w,L z a w->∀j∈Region.ready md ops z,n<=j):
 ∀(f:Nat) (z:Array Bool) (a:Act) (w:gC),HeadInv md ops n z->
  (∀j oj,ops[j]?=some oj->j≠i->z.getD j true=false->(∀e∈oj.after,Region.binds md e=true->e.on≠i)->oi.apart ops oj=true)->
  i∈Region.ready md ops z->YieldsIf P ops aO oi v a->SB aA aK z w->
  wpAnyL P md ops Q (SB aA aK) n L f (z.setIfInBounds i true) (a.put oi.dst v) w->wpAnyL P md ops Q (SB aA aK) n L (f+1) z a w:=by
 intro f
 induction f with
 | zero=>
  intro z a w I _ X hy hS H;have E:=(J0.1 X).1;refine⟨λh=>(by rw[h]at X;cases X),λj hj=>?_⟩;have aB:j<n:=by
   rcases Fg j n with h|h
   ·exact h
   ·exact absurd hj (MA hs hc hn I _ i rfl aJ E j h)
  refine⟨aB,?_⟩;by_cases d:j=i
  ·subst d;exact hy.wpOp hi (aG _ _ I X hS) ⟨(SB.bw aE).2 hS,H⟩
  ·have:=aF _ _ _ H j (Lm hj d);omega
 | succ f ih=>
  intro z a w I O X hy hS H;have E:=(J0.1 X).1;refine⟨λh=>(by rw[h]at X;cases X),λj hj=>?_⟩;have aB:j<n:=by
   rcases Fg j n with h|h
   ·exact h
   ·exact absurd hj (MA hs hc hn I _ i rfl aJ E j h)
  refine⟨aB,?_⟩;by_cases d:j=i
  ·subst d;exact hy.wpOp hi (aG _ _ I X hS) ⟨(SB.bw aE).2 hS,H⟩
  ·have h1:=(H.2 j (Lm hj d)).2;have⟨hjun,oj,hoj,hall⟩:=J0.1 hj;have aI:∀e∈oj.after,Region.binds md e=true->e.on≠i:=λe he hb aN=>by
    have h1:=hall e he hb;rw[aN,getD_both E]at h1;cases h1
   have h2:=wpOp_putIf hoj (O j oj hoj d hjun aI) (λcs b=>aD i oi cs b hi) (λcs b=>aD j oj cs b hoj) hQ hy h1;have Y:∀k ok,ops[k]?=some ok->k≠i->(z.setIfInBounds j true).getD k true=false->
    (∀e∈ok.after,Region.binds md e=true->e.on≠i)->oi.apart ops ok=true:=λk ok hk aM E aL=>by
    refine O k ok hk aM ?_ aL;by_cases aH:j=k
    ·subst aH;exact hjun
    ·rw[N9 true aH]at E;exact E
   refine Lc (λa' w' h3=>?_) h2;have h4:=h3.2.1;rw[WJ _ _ (Qp d)]at h4;have h5:=(SB.bw aE).1 h4;refine⟨h5,ih (z.setIfInBounds j true) a' w' (I.set hj aB) Y (Lm X (Qp d)) h3.1 h5 ?_⟩;rw[WJ _ _ d];exact h3.2.2
def Fi(P:Program)(ops:Array Oper)(Q:Exit->Act->gC->Prop)(aA:Nat)(S:gC->Prop)(T:Act->gC->Prop):gF (Nat×Nat)->Act->gC->Prop
 | [],a,w=>T a w
 | (i,0):: r,a,w=>wpOp P ops Q i (λa' w'=>(i=aA\/S w')/\Fi P ops Q aA S T r a' w') a w
 | (i,1):: r,a,w=>∃o v,ops[i]?=some o/\YieldsIf P ops S o v a/\Fi P ops Q aA S T r (a.put o.dst v) w
 | (i,_+2):: r,a,w=>∃o v,ops[i]?=some o/\YieldsIf P ops (λ_=>True) o v a/\Fi P ops Q aA S T r (a.put o.dst v) w
def Oc(md:Region.Mode)(ops:Array Oper)(aA i:Nat):Bool:=match ops[aA]? with
 | some o=>o.after.any λe=>Region.binds md e&&decide (e.on=i)
 | none=>false
def IQ(md:Region.Mode)(ops:Array Oper)(aA n:Nat):gF (Nat×Nat)->Array Bool->Bool
 | [],lf=>Region.seqB md ops (ops.size-n) n lf
 | (i,0):: r,lf=>decide (i<n)&&decide (Region.ready md ops lf=[i])&&IQ md ops aA n r (lf.setIfInBounds i true)
 | (i,1):: r,lf=>decide (i<n)&&((Region.ready md ops lf).contains i&&Region.free md ops lf i)&&(decide (i≠aA)&&Oc md ops aA i)&&IQ md ops aA n r (lf.setIfInBounds i true)
 | (i,_+2):: r,lf=>decide (i<n)&&((Region.ready md ops lf).contains i&&Region.free md ops lf i)&&decide (i≠aA)&&IQ md ops aA n r (lf.setIfInBounds i true)
def Oz(ops:Array Oper)(aA n:Nat)(d:gF (Nat×Nat)):Bool:=
 Region.noSelect ops&&decide (n<ops.size)&&decide (d.length=n)&&Region.sinkB .any ops n&&Region.chainB .any ops n&&IQ .any ops aA n d (Array.replicate ops.size false)
def Xe{aA i n:Nat}{S:gC->Prop}{E:Array Bool}{w:gC}(h:Oc md ops aA i=true)(z:HeadInv md ops n E)(I:i∈Region.ready md ops E)(d:SB aA S E w):S w:=by
 rcases d with L|d
 ·unfold Oc at h;cases ho:ops[aA]? with
  | none=>rw[ho]at h;cases h
  | some o=>
   rw[ho]at h;have⟨e,he,h2⟩:=Array.any_eq_true'.1 h;simp only[Gb,Ea]at h2;have:=z.closed aA o ho L e he h2.1;rw[h2.2,getD_both (J0.1 I).1]at this;cases this
 ·exact d
def Mx{aA n:Nat}{S:gC->Prop}{T:Act->gC->Prop}(z:Region.noSelect ops=true)(hs:Region.sinkB md ops n=true)(hc:Region.chainB md ops n=true)(hn:n<ops.size)(hQ:∀c a t v w,Q (.panic c) (Act.put a (some t) v) w->Q (.panic c) a w):
 ∀(aD:gF (Nat×Nat)) (L:Array Bool) (a:Act) (w:gC),HeadInv md ops n L->IQ md ops aA n aD L=true->SB aA S L w->Fi P ops Q aA S T aD a w->
 wpAnyL P md ops Q (SB aA S) n (λaB a' w'=>Region.seqB md ops (ops.size-n) n aB=true/\T a' w') aD.length L a w
 | [],L,a,w,_,hB,_,h=>⟨hB,h⟩
 | (i,0):: r,L,a,w,d,hB,hS,h=>by
  simp only[IQ,Gb,Ea]at hB;obtain⟨⟨E,Y⟩,X⟩:=hB;refine⟨by rw[Y];simp,λj hj=>?_⟩;have I:i∈Region.ready md ops L:=by rw[Y];simp
  rw[Y]at hj;have:j=i:=by simpa using hj
  subst this;refine⟨E,Lc (λa' w' h'=>?_) h⟩;have aE:SB aA S (L.setIfInBounds j true) w':=by
   rcases h'.1 with rfl|h1
   ·refine .inl ?_;(have:j<L.size:=by rw[d.size];omega);simp[this]
   ·exact .inr h1
  exact⟨aE,Mx z hs hc hn hQ r _ a' w' (d.set I E) X aE h'.2⟩
 | (i,1):: r,L,a,w,d,hB,hS,h=>by
  simp only[IQ,Gb,Ea]at hB;obtain⟨⟨⟨E,Y,hf⟩,O,aF⟩,X⟩:=hB;obtain⟨o,v,h0,hy,hK⟩:=h;have I:i∈Region.ready md ops L:=by simpa using Y
  exact wpAnyL_first O h0 (VT z) (λc a w=>by cases o.dst with|none=>exact id|some t=>exact hQ c a t v w) hs hc hn E (λl w d Y hS=>Xe aF d Y hS) (λaB a' w' hL=>RR hL.1) r.length L a w d (VU h0 hf) I hy hS
   (Mx z hs hc hn hQ r _ _ w (d.set I E) X ((SB.bw O).2 hS) hK)
 | (i,k+2):: r,L,a,w,d,hB,hS,h=>by
  simp only[IQ,Gb,Ea]at hB;obtain⟨⟨⟨E,Y,hf⟩,O⟩,X⟩:=hB;obtain⟨o,v,h0,hy,hK⟩:=h;have I:i∈Region.ready md ops L:=by simpa using Y
  exact wpAnyL_first O h0 (VT z) (λc a w=>by cases o.dst with|none=>exact id|some t=>exact hQ c a t v w) hs hc hn E (λ_ _ _ _ _=>trivial) (λaB a' w' hL=>RR hL.1) r.length L a w d (VU h0 hf) I hy hS
   (Mx z hs hc hn hQ r _ _ w (d.set I E) X ((SB.bw O).2 hS) hK)
end
section
variable{P:Program}{ops:Array Oper}{Q:Exit->Act->gC->Prop}{aA:Nat}{S:gC->Prop}{T:Act->gC->Prop}
def WV{id:Nat}{a:Act}{w:gC}{l:gF Oper}(aA:Nat)(S:gC->Prop)(n:Nat)(d:gF (Nat×Nat))(hm:P.follows .mixedOrders=true)(O:Oz l.toArray aA n d=true)(Y:∀c a t v w,Q (.panic c) (Act.put a (some t) v) w->Q (.panic c) a w)(hS:S w.drew)(h:Fi P l.toArray Q aA S (λa w=>wpList P l.toArray Q (l.drop n) a w) d a w.drew):(Code.region id l.toArray true).wp P Q a w:=by
 simp only[Oz,Gb,Ea]at O;obtain⟨⟨⟨⟨⟨hsel,hn⟩,hsl⟩,hs⟩,hc⟩,hgo⟩:=O;have E:(l.drop n).length=l.toArray.size-n:=iE
 have z:HeadInv .any l.toArray n (Array.replicate l.toArray.size false):=
  ⟨iE,λj oj _ L=>(by rw[KE]at L;cases L),λt _ X=>getD_in (by simpa using X) (KE _ _)⟩
 have H:=Mx (md:=.any) (T:=λa w=>wpList P l.toArray Q (l.drop n) a w) hsel hs hc hn Y d _ a w.drew z hgo (.inr hS) h;refine QW hm ?_
 have:=QZ (Q:=Q) (g:=l.toArray.size-n) (λlf a' w' I=>by
  have:=QX (md:=.any) (Q':=Q) (l.drop n) n lf a' w' (λj=>by simp[List.getElem?_drop]) (by rw[E];exact I.1) I.2
  rwa [E]at this) _ _ _ _ H
 rw[hsl,show n+(l.toArray.size-n)=l.toArray.size from by omega]at this;exact this
def WX{i:Nat}{o:Oper}{v:gD}{r:gF (Nat×Nat)}{a:Act}{w:gC}(z:ops[i]?=some o)(d:Region.wanted o (yielded ops a.tmps)=true)(E:∀w,S w->(execOp a.eval o).run P w=.ok (.value v) w)(h:Fi P ops Q aA S T r (a.put o.dst v) w):Fi P ops Q aA S T ((i,1):: r) a w:=
 ⟨o,v,z,.inl ⟨d,E⟩,h⟩
def WY{i:Nat}{o:Oper}{v:gD}{r:gF (Nat×Nat)}{a:Act}{w:gC}(z:ops[i]?=some o)(d:Region.wanted o (yielded ops a.tmps)=true)(E:∀w,(execOp a.eval o).run P w=.ok (.value v) w)(h:Fi P ops Q aA S T r (a.put o.dst v) w):Fi P ops Q aA S T ((i,2):: r) a w:=
 ⟨o,v,z,.inl ⟨d,λw _=>E w⟩,h⟩
def WZ{o:Oper}{r:gF (Nat×Nat)}{a:Act}{w:gC}(E:ops[aA]?=some o)(d:Region.wanted o (yielded ops a.tmps)=true)(h:∀K:Act->gC->Prop,(∀a w,Fi P ops Q aA S T r a w->K a w)->o.wp P a w K Q):Fi P ops Q aA S T ((aA,0):: r) a w:=by
 show wpOp P ops Q aA _ a w;unfold wpOp;simp only[E,d,Cs];exact .inl (h _ λa w z=>⟨iE,z⟩)
def IN{i:Nat}{o:Oper}{v:gD}{r:gF (Nat×Nat)}{a d:Act}{w:gC}(h:Fi P ops Q aA S T r d w)(E:ops[i]?=some o:=by rfl)(z:Region.wanted o (yielded ops a.tmps)=true:=by rfl)(I:∀w,S w->(execOp a.eval o).run P w=.ok (.value v) w:=by intro w' O;(try dsimp only at O);go_simp;try with_reducible rfl)(L:a.put o.dst v=d:=by simp only[BO];rfl):Fi P ops Q aA S T ((i,1):: r) a w:=WX E z I (L ▸ h)
def IP{i:Nat}{o:Oper}{v:gD}{r:gF (Nat×Nat)}{a d:Act}{w:gC}(h:Fi P ops Q aA S T r d w)(E:ops[i]?=some o:=by rfl)(z:Region.wanted o (yielded ops a.tmps)=true:=by rfl)(I:∀w,(execOp a.eval o).run P w=.ok (.value v) w:=by intro w';go_simp;try with_reducible rfl)(L:a.put o.dst v=d:=by simp only[BO];rfl):Fi P ops Q aA S T ((i,2):: r) a w:=WY E z I (L ▸ h)
def Mv{o:Oper}{r:gF (Nat×Nat)}{a:Act}{w:gC}(h:∀K:Act->gC->Prop,(∀a w,Fi P ops Q aA S T r a w->K a w)->o.wp P a w K Q)(z:ops[aA]?=some o:=by rfl)(d:Region.wanted o (yielded ops a.tmps)=true:=by rfl):
 Fi P ops Q aA S T ((aA,0):: r) a w:=WZ z d h
def Mu{a:Act}{w:gC}{l d:gF Oper}{n:Nat}(h:wpList P l.toArray Q d a w)(z:l.drop n=d:=by simp only[VW,VV];rfl):Fi P l.toArray Q aA S (λa w=>wpList P l.toArray Q (l.drop n) a w) [] a w:=by subst z;exact h
def Mt{id:Nat}{a:Act}{w:gC}{l:gF Oper}(aA:Nat)(S:gC->Prop)(n:Nat)(d:gF (Nat×Nat))(E:S w.drew)(h:Fi P l.toArray Q aA S (λa w=>wpList P l.toArray Q (l.drop n) a w) d a w.drew)(z:P.follows .mixedOrders=true:=by kernel_rfl)(I:Oz l.toArray aA n d=true:=by kernel_rfl)(L:∀c a t v w,Q (.panic c) (Act.put a (some t) v) w->Q (.panic c) a w:=by exact λ_ _ _ _ _ h=>h):(Code.region id l.toArray true).wp P Q a w:=WV aA S n d z I L E h
end
end
section
open Go.RowKit
structure App (w w':gC) (e size:Nat) (v v':gD) (n:Nat) (xs:gF gD):Prop where
 AB:w'.ownsRow 0 e size v' n xs
 C7:w.grownBy w' v.ownBlock
 BX:v'.ownBlock=v.ownBlock\/v'.ownBlock=some w.heap.size
 BW:∃a cap,v'=.slice a n cap
 Hr:v'.ownBlock=v.ownBlock\/∀k,k<w.heap.size->w'.heap[k]?=w.heap[k]?
def YM{P:Program}(w:gC)(t tx ty e:TypeId)(i:TypeInfo)(z:gD)(size bytes:Nat)(ht:P.underlying t=some (.slice e))(hi:P.info? e=some i)(hz:i.zero=some z)(Y:i.size=size)(aL:i.bytes=bytes)(aN:z.cells.size=size)(aK:0<bytes)(v:gD)(n:Nat)(xs:gF gD)(d:w.ownsRow 0 e size v n xs)(x:gD)(m:Nat)(news:gF gD)(X:Src P size tx x m news w)(I:(n+m)*bytes<=140737488355328):
 ∃v' w',(Builtin.append_ #[t,tx] ty #[v,x]).run P w=.ok v' w'/\App w w' e size v v' (n+m) (xs++news):=by
 subst Y;subst aL;have hnm:=AO (Nat.le_mul_of_pos_right _ aK) I;have h:(xs++news).length=(n+m)*i.size:=by rw[B3,d.1,X.newsLen,Ii]
 obtain⟨a,cap,rfl,hnc,aI,_,aF,aA⟩:=B8 d;by_cases E:n+m<=cap
 ·rcases d.2 with⟨h1,h2⟩|⟨g,cap',O,h1,_,hg,_,_,aM,aB⟩
  ·cases h1;(obtain rfl:m=0:=iC);have hn:=NX (by simpa using X.newsLen);subst hn;have hx:=NX (by simpa using d.1);subst hx;refine⟨.slice none 0 0,w,?_,⟨Cq w 0 e i.size,⟨rfl,rfl,rfl,An _,λ_ _ _=>rfl⟩,.inl rfl,⟨none,0,rfl⟩,.inl rfl⟩⟩;rcases X.kind with⟨e',L⟩|L<;>simp[Builtin.append_,run_underlying ht,run_underlying L,sizeOf,typeInfo,hi,X.len,X.cells]
  ·cases h1;(have aG:n*i.size+news.length<=O.size:=by rw[X.newsLen,aM,<-Ii];exact Ih _ E);have aD:=run_storeCells_at P g (n*i.size) e news 0 O w hg (by simpa using aG) X.one;simp only[Qv]at aD;have hr:(Builtin.append_ #[t,tx] ty #[AA g n cap,x]).run P w=.ok (AA g (n+m) cap) (w.setRow g (O.toList.take (n*i.size)++news++O.toList.drop (n*i.size+news.length)).toArray):=by
    rcases X.kind with⟨e',L⟩|L<;>simp[Builtin.append_,run_underlying ht,run_underlying L,sizeOf,typeInfo,hi,X.len,E,X.cells,Addr.add_lit,aD]
   refine⟨_,_,hr,⟨⟨h,.inr ⟨g,cap,_,rfl,Cb _,Li w g O _ e _ hg,E,aI,?_,?_⟩⟩,⟨rfl,rfl,rfl,iE,λk _ L=>Kj w g k _ (λe=>L (by simp[Value.ownBlock,e]))⟩,.inl rfl,⟨_,_,rfl⟩,.inl rfl⟩⟩
   ·simp only[Me,B3,BK,Cz,Ms];omega
   ·rw[aB,<-h];exact K0
 ·have aE:(Builtin.firstCells i.size n (.slice a n cap)).run P w.drew=.ok xs.toArray w.drew:=by
   cases a with
   | none=>
    obtain⟨rfl,_⟩:=aF rfl;have hx:=NX (by simpa using d.1);subst hx;exact run_firstCells_none w.drew i.size 0 0 cap
   | some ad=>
    obtain⟨g,rfl⟩:=aA ad rfl;exact RZ w.drew i.size n _ n cap xs d.1 (by simpa using d.cells (g:=g) rfl)
  have hr:=run_append_grow_src (P:=P) w t tx ty e i z ht hi hz a n cap xs aE x m news X iC iC (growslice_fits iC I);have aH:=grownCap_ge w (n+m) cap e;have aJ:=grownCap_le_maxLen w (n+m) cap e (by unfold maxLen;omega);refine⟨_,_,hr,⟨⟨h,.inr ⟨w.heap.size,_,_,rfl,Cb _,Bn w.drew _,aH,aJ,?_,?_⟩⟩,⟨rfl,rfl,rfl,iE,λk L _=>CW w.drew _ k L⟩,.inr rfl,⟨_,_,rfl⟩,.inr λk L=>CW w.drew _ k L⟩⟩
  ·simp only[Array.size_append,Me,size_zeroCells,aN,h,<-Ii]
   congr 1
   omega
  ·simp only[QS];rw[<-h];exact K0
section
variable{P:Program}{w:gC}
def I1{o:Oper}{a:Act}{K:Act->gC->Prop}{Q:Exit->Act->gC->Prop}(s x:Operand)(t Y:TypeId)(ho:o.op=.call {callee:=.builtin .append,args:=#[s,x],argTypes:=#[t,Y]})(e:TypeId)(i:TypeInfo)(z:gD)(size bytes:Nat)(ht:P.underlying t=some (.slice e))(hi:P.info? e=some i)(hz:i.zero=some z)(E:i.size=size)(O:i.bytes=bytes)(X:z.cells.size=size)(L:0<bytes)(v:gD)(n:Nat)(xs:gF gD)(hv:a.eval s=v)(I:w.ownsRow 0 e size v n xs)(sv:gD)(m:Nat)(news:gF gD)(hx:a.eval x=sv)(hs:Src P size Y sv m news w)(d:(n+m)*bytes<=140737488355328)(h:∀b cap w',App w w' e size v (.slice b (n+m) cap) (n+m) (xs++news)->K (a.put o.dst (.slice b (n+m) cap)) w'):o.wp P a w K Q:=by
 have⟨v',w',hr,hA⟩:=YM (P:=P) w t Y o.type e i z size bytes ht hi hz E O X L v n xs I sv m news hs d;obtain⟨b,cap,rfl⟩:=hA.BW;unfold Oper.wp execOp;simp only[ho,resolve,invoke,builtin,Sem.run_bind,Sem.run_pure,Result.andThen_ok,List.map_toArray,H4,List.map_nil,hv,hx,hr];exact h b cap w' hA
def CX{ops:Array Oper}{rest:gF Oper}{o:Oper}{a:Act}{Q:Exit->Act->gC->Prop}(L:o.guard=none)(s x:Operand)(t tx:TypeId)(ho:o.op=.call {callee:=.builtin .append,args:=#[s,x],argTypes:=#[t,tx]})(e:TypeId)(i:TypeInfo)(z:gD)(size bytes:Nat)(ht:P.underlying t=some (.slice e))(hi:P.info? e=some i)(hz:i.zero=some z)(E:i.size=size)(X:i.bytes=bytes)(Y:z.cells.size=size)(O:0<bytes)(v:gD)(n:Nat)(xs:gF gD)(hv:a.eval s=v)(I:w.ownsRow 0 e size v n xs)(sv:gD)(m:Nat)(news:gF gD)(hx:a.eval x=sv)(hs:Src P size tx sv m news w)(d:(n+m)*bytes<=140737488355328)(h:∀b cap w',App w w' e size v (.slice b (n+m) cap) (n+m) (xs++news)->wpList P ops Q rest (a.put o.dst (.slice b (n+m) cap)) w'):wpList P ops Q (o::rest) a w:=
 wpList_plain L λ_ hK=>I1 s x t tx ho e i z size bytes ht hi hz E X Y O v n xs hv I sv m news hx hs d λb cap w' hA=>hK _ _ (h b cap w' hA)
def Kh{y:Nat->Option Bool}{o:Oper}{a:Act}{K:Act->gC->Prop}{Q:Exit->Act->gC->Prop}{E:Prop}(O:o.guard=none)(s x:Operand)(t tx:TypeId)(ho:o.op=.call {callee:=.builtin .append,args:=#[s,x],argTypes:=#[t,tx]})(e:TypeId)(i:TypeInfo)(z:gD)(size bytes:Nat)(ht:P.underlying t=some (.slice e))(hi:P.info? e=some i)(hz:i.zero=some z)(I:i.size=size)(Y:i.bytes=bytes)(aA:z.cells.size=size)(X:0<bytes)(v:gD)(n:Nat)(xs:gF gD)(hv:a.eval s=v)(L:w.ownsRow 0 e size v n xs)(sv:gD)(m:Nat)(news:gF gD)(hx:a.eval x=sv)(hs:Src P size tx sv m news w)(d:(n+m)*bytes<=140737488355328)(h:∀b cap w',App w w' e size v (.slice b (n+m) cap) (n+m) (xs++news)->K (a.put o.dst (.slice b (n+m) cap)) w'):
 if Region.wanted o y=true then Oper.wp P o a w K Q else E:=by
 have hw:Region.wanted o y=true:=by simp[Region.wanted,O]
 rw[Ai hw];exact I1 s x t tx ho e i z size bytes ht hi hz I Y aA X v n xs hv L sv m news hx hs d h
def Src.cj{size:Nat}{d I:TypeId}(h:P.underlying d=some (.slice I)){B:Nat}{cs:Array gD}{t:TypeId}{O:Nat×Nat}(L:w.heap[B]?=some (.cells cs t O))(m c:Nat)(z:cs.size=m*size)(E:∀u∈cs.toList,u.oneCell'=true):Src P size d (.slice (some ⟨B,0,none⟩) m c) m cs.toList w:=
 Jg w h _ m c _ (by simpa using z) (World.news_of_block L) E
def Src.bb{size:Nat}{d L:TypeId}(h:P.underlying d=some (.slice L))(w:gC)(cs:Array gD)(t B:Nat)(I:w.heap.size=B)(m c:Nat)(z:cs.size=m*size)(E:∀u∈cs.toList,u.oneCell'=true):Src P size d (.slice (some ⟨B,0,none⟩) m c) m cs.toList (w.alloc (.cells cs t)):=by
 subst I;exact Src.cj h (Bn _ _) m c z E
def Src.bN{size:Nat}{I O e:TypeId}(E:P.underlying I=some (.slice O)){v:gD}{m:Nat}{news:gF gD}(h:w.ownsRow 0 e size v m news)(L:∀u∈news,u.oneCell'=true):Src P size I v m news w:=by
 obtain⟨a,cap,rfl,_,_,_,z,d⟩:=B8 h;cases a with
 | none=>
  obtain⟨rfl,rfl⟩:=z rfl;have X:=NX (by simpa using h.1);subst X;exact Src.ofNil w E 0
 | some ad=>
  obtain⟨g,rfl⟩:=d ad rfl;exact Jg w E _ m cap news h.1 (h.cells rfl) L
def Src.fX{size:Nat}{L Y e:TypeId}(X:P.underlying L=some (.slice Y)){g n cap:Nat}{xs:gF gD}(h:w.ownsRow 0 e size (.slice (some ⟨g,0,none⟩) n cap) n xs)(I:∀u∈xs,u.oneCell'=true)(k m c:Nat)(E:k+m<=n):
 Src P size L (.slice (some ((⟨g,0,none⟩:Addr).add (k*size))) m c) m ((xs.drop (k*size)).take (m*size)) w:=by
 have hle:k*size+m*size<=n*size:=by rw[<-Ii];exact Ih _ E
 refine Jg w X _ m c _ ?_ ?_ ?_
 ·rw[BK,Cz,h.1];omega
 ·intro j u z;rw[NU]at z;split at z
  ·rw[IF]at z;have:=Bu h (g:=g) rfl z;have d:((⟨g,0,none⟩:Addr).add (k*size)).add j=⟨g,k*size+j,none⟩:=by
    unfold Addr.add;by_cases O:k*size=0<;>by_cases I:j=0<;>simp[O,I]
   rw[d];exact this
  ·cases z
 ·intro u hu;exact I u (KU (HD hu))
end
def B7:gF Pt->gF gD
 | []=>[]
 | (t,v):: r=>A0 t::A0 v::B7 r
def GH(l:gF Pt):(B7 l).length=l.length*2:=by
 induction l with
 | nil=>rfl
 | cons e r ih=>obtain⟨n,f⟩:=e;simp only[B7,CA,ih];omega
def Lp(a b:gF Pt):B7 (a++b)=B7 a++B7 b:=by
 induction a with
 | nil=>rfl
 | cons e r ih=>obtain⟨n,f⟩:=e;simp[B7,ih]
def OT(l:gF Pt)(k:Nat):(B7 l).take (k*2)=B7 (l.take k):=by
 induction l generalizing k with
 | nil=>simp[B7]
 | cons e r ih=>
  obtain⟨n,f⟩:=e
  match k with
  | 0=>simp[B7]
  | k+1=>rw[show (k+1)*2=k*2+1+1 from by omega];simp[B7,ih]
def MT(l:gF Pt)(k:Nat):(B7 l).drop (k*2)=B7 (l.drop k):=by
 induction l generalizing k with
 | nil=>simp[B7]
 | cons e r ih=>
  obtain⟨n,f⟩:=e
  match k with
  | 0=>simp[B7]
  | k+1=>rw[show (k+1)*2=k*2+1+1 from by omega];simp[B7,ih]
def MS(l:gF Pt)(k:Nat)(h:k<l.length):(B7 l)[k*2]?=some (A0 (l[k]'h).1):=by
 induction l generalizing k with
 | nil=>simp at h
 | cons e r ih=>
  obtain⟨n,f⟩:=e
  match k with
  | 0=>simp[B7]
  | k+1=>
   have:=ih k (by simpa using h);rw[show (k+1)*2=k*2+1+1 from by omega];simpa[B7] using this
def MR(l:gF Pt)(k:Nat)(h:k<l.length):(B7 l)[k*2+1]?=some (A0 (l[k]'h).2):=by
 induction l generalizing k with
 | nil=>simp at h
 | cons e r ih=>
  obtain⟨n,f⟩:=e
  match k with
  | 0=>simp[B7]
  | k+1=>
   have:=ih k (by simpa using h);rw[show (k+1)*2+1=k*2+1+1+1 from by omega];simpa[B7] using this
def Ln(l:gF Pt)(k:Nat)(p:Pt)(h:k<l.length):((B7 l).set (k*2) (A0 p.1)).set (k*2+1) (A0 p.2)=B7 (l.set k p):=by
 induction l generalizing k with
 | nil=>simp at h
 | cons e r ih=>
  obtain⟨n,f⟩:=e
  match k with
  | 0=>simp[B7]
  | k+1=>
   have:=ih k (by simpa using h);rw[show (k+1)*2=k*2+1+1 from by omega];simp only[B7,Qy];rw[this]
def ZK(l:gF Pt)(k:Nat)(v:Int)(h:k<l.length):(B7 l).set (k*2+1) (A0 v)=B7 (l.set k ((l[k]'h).1,v)):=by
 induction l generalizing k with
 | nil=>simp at h
 | cons e r ih=>
  obtain⟨n,f⟩:=e
  match k with
  | 0=>simp[B7]
  | k+1=>
   have:=ih k (by simpa using h);rw[show (k+1)*2=k*2+1+1 from by omega];simp only[B7,Qy,NT];rw[this]
def Lo(l:gF Pt):∀u∈B7 l,u.oneCell'=true:=by
 induction l with
 | nil=>simp[B7]
 | cons e r ih=>
  obtain⟨n,f⟩:=e;intro u hu;simp only[B7,BS]at hu;rcases hu with rfl|rfl|hu
  ·rfl
  ·rfl
  ·exact ih u hu
def Ch(w:gC)(v:gD)(l:gF Pt):Prop:=w.ownsRow 0 70 2 v l.length (B7 l)
def Ch.bt{w:gC}{g n cap:Nat}{l:gF Pt}(h:Ch w (AA g n cap) l)(k:Nat)(d:k<l.length):A7 w g (k*2) (A0 (l[k]'d).1)/\A7 w g (k*2+1) (A0 (l[k]'d).2):=by
 have z:n=l.length:=by
  have⟨_,_,e,_⟩:=B8 h;cases e;rfl
 subst z;exact⟨Bu h rfl (MS l k d),Bu h rfl (MR l k d)⟩
abbrev Pu:=Int×Int×Int
def B5:gF Pu->gF gD
 | []=>[]
 | (s,t,v):: r=>A0 s::A0 t::A0 v::B5 r
def ZE(l:gF Pu):(B5 l).length=l.length*3:=by
 induction l with
 | nil=>rfl
 | cons e r ih=>obtain⟨n,f,g⟩:=e;simp only[B5,CA,ih];omega
def It(a b:gF Pu):B5 (a++b)=B5 a++B5 b:=by
 induction a with
 | nil=>rfl
 | cons e r ih=>obtain⟨n,f,g⟩:=e;simp[B5,ih]
def ZD(l:gF Pu)(k:Nat):(B5 l).take (k*3)=B5 (l.take k):=by
 induction l generalizing k with
 | nil=>simp[B5]
 | cons e r ih=>
  obtain⟨n,f,g⟩:=e
  match k with
  | 0=>simp[B5]
  | k+1=>rw[show (k+1)*3=k*3+1+1+1 from by omega];simp[B5,ih]
def HK(l:gF Pu)(k:Nat)(h:k<l.length):(B5 l)[k*3]?=some (A0 (l[k]'h).1)/\(B5 l)[k*3+1]?=some (A0 (l[k]'h).2.1)/\(B5 l)[k*3+2]?=some (A0 (l[k]'h).2.2):=by
 induction l generalizing k with
 | nil=>simp at h
 | cons e r ih=>
  obtain⟨n,f,g⟩:=e
  match k with
  | 0=>simp[B5]
  | k+1=>
   have⟨h1,h2,h3⟩:=ih k (by simpa using h);rw[show (k+1)*3=k*3+1+1+1 from by omega];refine⟨by simpa[B5] using h1,by simpa[B5] using h2,by simpa[B5] using h3⟩
def HJ(l:gF Pu):∀u∈B5 l,u.oneCell'=true:=by
 induction l with
 | nil=>simp[B5]
 | cons e r ih=>
  obtain⟨n,f,g⟩:=e;intro u hu;simp only[B5,BS]at hu;rcases hu with rfl|rfl|rfl|hu
  ·rfl
  ·rfl
  ·rfl
  ·exact ih u hu
def GZ(w:gC)(v:gD)(l:gF Pu):Prop:=w.ownsRow 0 141 3 v l.length (B5 l)
def GZ.BW{w:gC}{v:gD}{l:gF Pu}(h:GZ w v l):
 ∃a cap,v=.slice a l.length cap/\l.length<=cap/\cap<=maxLen/\∀k (d:k<l.length),∃g,a=some (A9 g 0)/\g<w.heap.size/\A7 w g (k*3) (A0 (l[k]'d).1)/\A7 w g (k*3+1) (A0 (l[k]'d).2.1)/\A7 w g (k*3+2) (A0 (l[k]'d).2.2):=by
 rcases B8 h with⟨a,cap,rfl,E,z,I,_,_⟩;refine⟨a,cap,rfl,E,z,λk d=>?_⟩;obtain⟨g,rfl⟩:=I iC;have⟨q1,q2,q3⟩:=HK l k d;exact⟨g,rfl,Aw h rfl,Bu h rfl q1,Bu h rfl q2,Bu h rfl q3⟩
structure DS where
 A6:gF AP
 AG:gF AP
 As:gF (gF AP)
 n:DN
abbrev FC:=gF UInt8×Int
def Dr(f:Nat)(es:gF AP):Prop:=∃e∈es,e.2=f
def DS.Aq(D:DS)(f:Nat):Prop:=Dr f D.A6\/Dr f D.AG\/∃c∈D.As,Dr f c
structure Ca (w:gC) (b:Nat) (D:DS) (F:Nat->FC) (vd vs vc:gD) (aA:gF gD) (VB:Nat->gD):Prop where
 Ae:AM w b vd vs vc D.n
 A6:Df w vd D.A6
 AG:Df w vs D.AG
 Am:w.ownsRow 0 120 1 vc D.As.length aA
 Dj:∀i (h:i<D.As.length),∃v,aA[i]?=some v/\Df w v (D.As[i]'h)
 BN:∀f,D.Aq f->Dd w f (VB f) (F f).2/\Gm w (VB f) (F f).1
 GL:∀f f' g,D.Aq f->D.Aq f'->(VB f).ownBlock=some g->(VB f').ownBlock=some g->f=f'
def Cj(b:Nat)(D:DS)(vd vs vc:gD)(aA:gF gD)(VB:Nat->gD)(k:Nat):Prop:=
 k=b\/vd.ownBlock=some k\/vs.ownBlock=some k\/vc.ownBlock=some k\/(∃v∈aA,v.ownBlock=some k)\/D.Aq k\/∃f,D.Aq f/\(VB f).ownBlock=some k
section
variable{b:Nat}{D:DS}{vd vs vc:gD}{aA:gF gD}{VB:Nat->gD}
def Cj.Ae:Cj b D vd vs vc aA VB b:=.inl rfl
def Cj.A6{k:Nat}(h:vd.ownBlock=some k):Cj b D vd vs vc aA VB k:=.inr (.inl h)
def Cj.AG{k:Nat}(h:vs.ownBlock=some k):Cj b D vd vs vc aA VB k:=.inr (.inr (.inl h))
def Cj.Am{k:Nat}(h:vc.ownBlock=some k):Cj b D vd vs vc aA VB k:=.inr (.inr (.inr (.inl h)))
def Cj.Dj{k:Nat}{v:gD}(d:v∈aA)(h:v.ownBlock=some k):Cj b D vd vs vc aA VB k:=.inr (.inr (.inr (.inr (.inl ⟨v,d,h⟩))))
def Cj.BN{f:Nat}(h:D.Aq f):Cj b D vd vs vc aA VB f:=.inr (.inr (.inr (.inr (.inr (.inl h)))))
def Cj.bD{f k:Nat}(d:D.Aq f)(h:(VB f).ownBlock=some k):Cj b D vd vs vc aA VB k:=.inr (.inr (.inr (.inr (.inr (.inr ⟨f,d,h⟩)))))
def Cj.bL{d:(k:Nat)->Cj b D vd vs vc aA VB k->Prop}(Ae:d b .Ae)(dir:∀ {k} (e:vd.ownBlock=some k),d k (.A6 e))(Ad:∀ {k} (e:vs.ownBlock=some k),d k (.AG e))(Am:∀ {k} (e:vc.ownBlock=some k),d k (.Am e))(Dj:∀ {k v} (E:v∈aA) (e:v.ownBlock=some k),d k (.Dj E e))(BN:∀ {f} (h:D.Aq f),d f (.BN h))(byt:∀ {f k} (z:D.Aq f) (e:(VB f).ownBlock=some k),d k (.bD z e)){k:Nat}(t:Cj b D vd vs vc aA VB k):d k t:=by
 rcases t with rfl|e|e|e|⟨v,E,e⟩|h|⟨f,z,e⟩
 ·exact Ae
 ·exact dir e
 ·exact Ad e
 ·exact Am e
 ·exact Dj E e
 ·exact BN h
 ·exact byt z e
end
def Dk(w:gC)(b:Nat)(D:DS)(F:Nat->FC)(Ft:Nat->Prop):Prop:=
 ∃vd vs vc aA VB,Ca w b D F vd vs vc aA VB/\∀k,Cj b D vd vs vc aA VB k->Ft k
section
variable{w w':gC}{b:Nat}{D:DS}{F:Nat->FC}{vd vs vc:gD}{aA:gF gD}{VB:Nat->gD}
def Ca.dL(h:Ca w b D F vd vs vc aA VB):aA.length=D.As.length:=by have:=h.Am.1;omega
def Ca.lt(h:Ca w b D F vd vs vc aA VB){k:Nat}(z:Cj b D vd vs vc aA VB k):k<w.heap.size:=by
 cases z using Cj.bL with
 | Ae=>exact Bv h.Ae
 | dir e=>exact Aw h.A6 e
 | Ad e=>exact Aw h.AG e
 | Am e=>exact Aw h.Am e
 | Dj hv e=>
  have⟨i,hi⟩:=List.getElem?_of_mem hv;have d:i<D.As.length:=by rw[<-h.dL];exact(Ik.1 hi).1
  have⟨v',h1,h2⟩:=h.Dj i d;rw[hi]at h1;cases h1;exact Aw h2 e
 | BN hf=>exact Bv (h.BN _ hf).1
 | byt hf e=>exact Aw (h.BN _ hf).2 e
def Ca.aK(h:Ca w b D F vd vs vc aA VB)(z:Gz (Cj b D vd vs vc aA VB) w w'):Ca w' b D F vd vs vc aA VB:=by
 refine⟨?_,?_,?_,?_,?_,?_,h.GL⟩
 ·have:=h.Ae;unfold AM at this ⊢;rw[z b .Ae];exact this
 ·exact Au h.A6 λg d=>z g (.A6 d)
 ·exact Au h.AG λg d=>z g (.AG d)
 ·exact Au h.Am λg d=>z g (.Am d)
 ·intro i I;have⟨v,h1,h2⟩:=h.Dj i I;exact⟨v,h1,Au h2 λg d=>z g (.Dj (Mf h1) d)⟩
 ·intro f E;have⟨h1,h2⟩:=h.BN f E;refine⟨?_,Au h2 λg d=>z g (.bD E d)⟩;unfold Dd at h1 ⊢;rw[z f (.BN E)];exact h1
def Dk.aK{Ft:Nat->Prop}(h:Dk w b D F Ft)(E:Gz Ft w w'):Dk w' b D F Ft:=by
 obtain⟨vd,vs,vc,aA,VB,z,d⟩:=h;exact⟨vd,vs,vc,aA,VB,z.aK (E.ah d),d⟩
def BR{w:gC}{g k:Nat}{c L:Array gD}{e E:Nat}(h:w.heap[g]?=some (.cells c e (0,0)))(z:w.heap[k]?=some (.cells L E (0,0)))(d:e≠E):g≠k:=by
 intro I;subst I;rw[h]at z;cases z;exact d rfl
def Ca.al(h:Ca w b D F vd vs vc aA VB){n:DN}(L:AM w' b vd vs vc n)(O:A4 (One b) w w'):Ca w' b {D with n:=n} F vd vs vc aA VB:=by
 have d:∀(k:Nat) (c:Array gD) (e:Nat),w.heap[k]?=some (Obj.cells c e (0,0))->e≠95->w'.heap[k]?=w.heap[k]?:=λk c e d I=>
  O.Al k (Bv d) (BR d h.Ae I)
 refine⟨L,?_,?_,?_,?_,?_,h.GL⟩
 ·exact Au h.A6 λg z=>by have⟨c,hh⟩:=B9 h.A6 z;exact d g _ _ hh iF
 ·exact Au h.AG λg z=>by have⟨c,hh⟩:=B9 h.AG z;exact d g _ _ hh iF
 ·exact Au h.Am λg z=>by have⟨c,hh⟩:=B9 h.Am z;exact d g _ _ hh iF
 ·intro i X;have⟨v,h1,h2⟩:=h.Dj i X;exact⟨v,h1,Au h2 λg z=>by have⟨c,hh⟩:=B9 h2 z;exact d g _ _ hh iF⟩
 ·intro f E;have⟨h1,h2⟩:=h.BN f E;refine⟨?_,Au h2 λg z=>by have⟨c,hh⟩:=B9 h2 z;exact d g _ _ hh iF⟩;unfold Dd at h1 ⊢;rw[d f _ _ h1 iF];exact h1
end
def lookup:gF AP->gE->Option Nat
 | [],_=>none
 | e::r,nd=>if e.1=nd then some e.2 else lookup r nd
def JH(es:gF AP)(d:gE):(Bb es d = -1/\lookup es d=none)\/∃k,∃z:k<es.length,Bb es d=(k:Int)/\lookup es d=some (es[k]'z).2/\(es[k]'z).1=d:=by
 induction es with
 | nil=>exact .inl ⟨rfl,rfl⟩
 | cons e r ih=>
  by_cases h:e.1=d
  ·exact .inr ⟨0,iE,by simp[Bb,h],by simp[lookup,h],by simpa using h⟩
  ·rcases ih with⟨I,E⟩|⟨k,z,I,E,L⟩
   ·exact .inl ⟨by simp[Bb,h,I],by simp[lookup,h,E]⟩
   ·exact .inr ⟨k+1,by simpa using z,by simp only[Bb,h,Cf,I];rw[Af iC];omega,by simp[lookup,h,E],by simpa using L⟩
def Ca.cx{w:gC}{b:Nat}{D:DS}{F:Nat->FC}{vd vs vc:gD}{aA:gF gD}{VB:Nat->gD}(h:Ca w b D F vd vs vc aA VB)(k:Nat)(d:k<D.A6.length):
 Dd w (D.A6[k]'d).2 (VB (D.A6[k]'d).2) (F (D.A6[k]'d).2).2/\Gm w (VB (D.A6[k]'d).2) (F (D.A6[k]'d).2).1:=h.BN _ (.inl ⟨_,BT d,rfl⟩)
def Gm.BW{w:gC}{v:gD}{bs:gF UInt8}(h:Gm w v bs):∃a cap,v=.slice a bs.length cap/\bs.length<=cap/\cap<=maxLen:=by
 have⟨a,cap,h1,h2,h3,_⟩:=B8 h;exact⟨a,cap,h1,h2,h3⟩
def DF(w:gC)(Ft:Nat->Prop)(w':gC)(b:Nat)(D':DS)(F':Nat->FC):Prop:=
 A4 Ft w w'/\∃d,Dk w' b D' F' d/\(∀k,d k->k<w'.heap.size)/\∀k,d k->Ft k\/w.heap.size<=k
def DF.bB{w w':gC}{Ft:Nat->Prop}{b:Nat}{D':DS}{F':Nat->FC}{vd vs vc:gD}{aA:gF gD}{VB:Nat->gD}(E:A4 Ft w w')(h:Ca w' b D' F' vd vs vc aA VB)(z:∀k,Cj b D' vd vs vc aA VB k->Ft k\/w.heap.size<=k):DF w Ft w' b D' F':=
 ⟨E,_,⟨vd,vs,vc,aA,VB,h,λ_ d=>d⟩,λ_ d=>h.lt d,z⟩
def Ca.cG{w w':gC}{b:Nat}{D:DS}{F F':Nat->FC}{vd vs vc vl aD:gD}{aA:gF gD}{VB VB':Nat->gD}{n:DN}{es:gF AP}{S:Nat->Prop}(h:Ca w b D F vd vs vc aA VB)(hb:AM w' b vl vs aD n)(aG:w'.ownsRow 0 120 1 aD (D.As.length+1) (aA++[vl]))(aE:Df w' vl es)(hc:A4 S w w')(hS:∀k,S k->k=b\/vc.ownBlock=some k)(hF:∀f,D.Aq f->F' f=F f/\VB' f=VB f)(X:∀f,Dr f es->D.Aq f\/(Dd w' f (VB' f) (F' f).2/\Gm w' (VB' f) (F' f).1/\(VB' f).ownBlock=none)):
 Ca w' b {D with A6:=es,As:=D.As++[es],n:=n} F' vl vs aD (aA++[vl]) VB':=by
 have L:∀(k:Nat) (c:Array gD) (e:Nat),w.heap[k]?=some (Obj.cells c e (0,0))->e≠95->e≠120->w'.heap[k]?=w.heap[k]?:=λk c e L he aH=>
  hc.Al k (Bv L) (λhs=>by
   rcases hS k hs with hs|hs
   ·exact BR L h.Ae he hs
   ·have⟨c',hh⟩:=B9 h.Am hs
    exact BR L hh aH rfl)
 have I:∀f,({D with A6:=es,As:=D.As++[es],n:=n}:DS).Aq f->D.Aq f\/Dr f es:=by
  rintro f (d|d|⟨c,z,d⟩)
  ·exact .inr d
  ·exact .inl (.inr (.inl d))
  ·rcases AX.1 z with z|z
   ·exact .inl (.inr (.inr ⟨c,z,d⟩))
   ·simp at z;subst z;exact .inr d
 have O:∀f,D.Aq f->Dd w' f (VB' f) (F' f).2/\Gm w' (VB' f) (F' f).1:=by
  intro f d;have⟨h1,h2⟩:=h.BN f d;rw[(hF f d).1,(hF f d).2];refine⟨?_,Au h2 λg E=>by have⟨c,hh⟩:=B9 h2 E;exact L g _ _ hh iF iF⟩;unfold Dd at h1 ⊢;rw[L f _ _ h1 iF iF];exact h1
 refine⟨hb,aE,?_,?_,?_,?_,?_⟩
 ·exact Au h.AG λg E=>by have⟨c,hh⟩:=B9 h.AG E;exact L g _ _ hh iF iF
 ·simpa using aG
 ·intro i hi;by_cases Y:i<D.As.length
  ·have⟨v,h1,h2⟩:=h.Dj i Y;refine⟨v,by rw[Jl (by rw[h.dL];exact Y)];exact h1,?_⟩;simp only[Fy Y];(exact Au h2 λg E=>by have⟨c,hh⟩:=B9 h2 E;exact L g _ _ hh iF iF)
  ·(obtain rfl:i=D.As.length:=by simp at hi;omega);refine⟨vl,by rw[<-h.dL];simp,?_⟩;simpa using aE
 ·intro f d;rcases I f d with d|d
  ·exact O f d
  ·rcases X f d with d|⟨h1,h2,_⟩
   ·exact O f d
   ·exact⟨h1,h2⟩
 ·intro f f' g d aF E aB;have key:∀f,({D with A6:=es,As:=D.As++[es],n:=n}:DS).Aq f->(VB' f).ownBlock=some g->D.Aq f:=by
   intro f d E;rcases I f d with d|d
   ·exact d
   ·rcases X f d with d|⟨_,_,h3⟩
    ·exact d
    ·rw[h3]at E;cases E
  have k1:=key f d E;have k2:=key f' aF aB;rw[(hF f k1).2]at E;rw[(hF f' k2).2]at aB;exact h.GL f f' g k1 k2 E aB
end
end Go.Proofs.YtodcnkbblippnaaGreatDoor
