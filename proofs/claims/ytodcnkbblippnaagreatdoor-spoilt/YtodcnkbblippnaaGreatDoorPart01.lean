/- Part 1 of a proof: walks of the program. -/
import Derived.Below
import Derived.Calls
import Derived.Conc.MuLone
import Derived.Deep.AppendSrc
import Derived.Deep.RegionHeld
import Derived.Defers
import Derived.FnData
import Derived.Laws.Append
import Derived.Laws.AppendOwn
import Derived.Laws.BitsLemmas
import Derived.Laws.Entries
import Derived.Laws.Externs
import Derived.Laws.IdiomStrings
import Derived.Laws.Rows
import Derived.Laws.Tables
import Derived.Laws.World
import Derived.Lib.Builder
import Derived.Lib.ItoaNum
import Derived.Lib.Strings
import Derived.LoopN
import Derived.OneCell
import Derived.Orders
import Derived.OwnWalk
import Derived.Still
import Derived.StillTail
import Derived.Tactics
import Derived.WideShapes
import Derived.Test.YtodcnkbblippnaaGreatDoorRows
import Derived.WalkKit
import Derived.WalkSpells
import Derived.WalkLawsBesides
import Derived.Deep.AppendLies
import Derived.Deep.RegionHeld3
import Derived.Deep.LoopGhost
import Derived.Deep.DrawnRows
import Derived.Test.YtodcnkbblippnaaGreatDoorProg
import Derived.Conc.RwLib
import Derived.KernelRfl
import Derived.OrdersHeld
namespace Go.Proofs.YtodcnkbblippnaaGreatDoor
set_option maxRecDepth 100000
set_option maxHeartbeats 32000000
set_option linter.defProp false
open Go.Proofs.Tryz
section
open Go.RowKit
abbrev ga:=World
abbrev gd:=Value
abbrev gg:=ByteArray
abbrev gh:=List
def Aa:=@if_neg
def Ae:=@if_pos
def Ao:=@Nat.le_refl
def AJ:=@Nat.le_trans
def AU:=@List.mem_append
def AY:=@List.length_append
def Bi:=@Nat.lt_of_lt_of_le
def Bp:=@List.mem_cons_of_mem
def Bt:=@List.mem_cons_self
def Bv:=@Go.lt_of_block
def BB:=@List.mem_cons
def BL:=@Go.heap_alloc_new
def BT:=@List.length_take
def BU:=@List.getElem_mem
def C9:=@if_false
def Cb:=@Nat.zero_le
def Cf:=@List.take_length
def Cg:=@List.length_cons
def Ch:=@List.append_assoc
def Cp:=@if_true
def CC:=@List.mem_map
def CM:=@decide_eq_true
def CO:=@List.length_drop
def CT:=@Go.World.ownsRow_nil
def D7:=@List.pairwise_cons
def De:=@decide_eq_false
def Di:=@Go.RowKit.Below.heap_alloc
def Dy:=@List.take_succ_eq_append_getElem
def Dz:=@List.drop_zero
def DL:=@List.getElem?_eq_getElem
def DU:=@List.take_append_drop
def DV:=@List.getElem_of_mem
def DW:=@List.drop_succ_cons
def E0:=@decide_eq_true_eq
def E3:=@Go.World.cell?_of_block
def E5:=@List.mem_map_of_mem
def Eg:=@Go.info_parts
def Ei:=@List.map_append
def Ez:=@List.pairwise_append
def EG:=@List.take_of_length_le
def EH:=@Int.toNat_natCast
def ES:=@congrArg
def ET:=@Nat.le_of_lt
def EZ:=@List.take_zero
def F5:=@Int.ofNat_lt
def F6:=@Go.rounds_succ
def Fc:=@Nat.lt_or_ge
def Fe:=@List.take_succ_cons
def Ff:=@List.nil_append
def Fg:=@List.getElem_append_left
def Fh:=@List.filter_cons
def FB:=@List.drop_eq_getElem_cons
def FD:=@List.cons_append
def FR:=@Go.Proofs.Tryz.underlying9
def FV:=@List.mem_append_left
def FW:=@List.length_map
def Gd:=@Nat.mul_le_mul_right
def Ge:=@Nat.lt_irrefl
def Gg:=@Bool.and_eq_true
def Gy:=@Go.Proofs.Tryz.underlying97
def Gz:=@Go.Proofs.Tryz.underlying66
def GA:=@Go.Proofs.Tryz.underlying127
def GF:=@Nat.zero_add
def GG:=@List.length_eq_zero_iff
def GH:=@List.getElem_append_right
def GI:=@List.drop_length
def GJ:=@List.append_nil
def GK:=@Int.natCast_nonneg
def GV:=@Go.Proofs.Tryz.underlying3
def GW:=@List.nodup_append
def GX:=@List.mem_filter
def GY:=@List.map_cons
def Hb:=@Nat.mul_comm
def Hc:=@List.take_append_of_le_length
def Hd:=@List.mem_singleton
def He:=@List.getD_eq_getElem?_getD
def Hf:=@List.filter_sublist
def Hg:=@Go.RowKit.Below.heap_setCell
def Ho:=@Go.Proofs.Tryz.underlying26
def Hp:=@Go.Proofs.Tryz.underlying121
def Hq:=@Nat.le_succ
def Hr:=@List.mem_append_right
def Hs:=@List.lt_irrefl
def Ht:=@List.getElem?_eq_some_iff
def HK:=@and_true
def HL:=@Go.World.block_lt_of_cell?
def HS:=@Nat.le_of_not_lt
def HT:=@Nat.add_mul
def HU:=@List.length_set
def HV:=@List.getElem?_append_right
def I0:=@Int.le_refl
def Ic:=@beq_eq_false_iff_ne
def Ig:=@Option.map_some
def Ih:=@Nat.mul_le_mul
def Ij:=@List.pairwise_iff_getElem
def Iq:=@Go.wp_loop_rounds
def IA:=@Go.run_underlying
def IJ:=@Go.mem_ready
def J4:=@Nat.pow_succ
def J5:=@Nat.mul_assoc
def J6:=@List.mem_of_mem_take
def J7:=@List.length_nil
def J8:=@List.length_filter_le
def J9:=@List.getElem?_append_left
def Ja:=@List.filter_cons_of_pos
def Jb:=@Go.IntKind.wrap_i64
def Jd:=@Array.getElem?_push_size
def JL:=@Option.ne_none_iff_exists'
def JM:=@List.length_pos_iff
def JN:=@List.getElem?_drop
def JO:=@List.flatten_cons
def JP:=@List.cons_lt_cons_iff
def JS:=@Int.add_sub_cancel
def JY:=@Go.setRow_other
def Kd:=@ne_eq
def Kn:=@Go.getD_replicate_false
def KA:=@Go.Proofs.Tryz.underlying5
def KB:=@Option.some.inj
def KE:=@Nat.succ_mul
def KF:=@Nat.mul_one
def KG:=@Nat.le_antisymm
def KH:=@Nat.add_lt_add_left
def KI:=@List.take_take
def KJ:=@List.take_left
def KK:=@List.set_append_right
def KL:=@List.nodup_cons
def KM:=@List.mem_of_getElem?
def KP:=@List.mem_filterMap
def KQ:=@List.getLastD_eq_getLast?
def KR:=@List.flatMap_cons
def KT:=@List.filter_cons_of_neg
def KU:=@List.drop_of_length_le
def KV:=@Go.Lib.toList_data
def KX:=@Int.le_trans
def KY:=@Int.eq_ofNat_of_zero_le
def L6:=@Go.wp_region_still_tail
def L7:=@Go.wpStill_nil
def L8:=@Go.wpOp_mono
def Lf:=@Go.MuLone.unlock_deferred
def Li:=@Go.setRow_heap
def Lo:=@Go.ready_mono
def LI:=@Go.MuLone.lock_free
def LJ:=@Go.leaves_cons
def LV:=@decide_eq_decide
def M7:=@Go.World.drew_eq
def Mc:=@Go.Src.ofSlice
def Me:=@Prod.mk.inj
def Mf:=@Nat.xor_lt_two_pow
def Mg:=@Nat.add_le_add_left
def Mh:=@Nat.add_assoc
def Mi:=@List.size_toArray
def Mj:=@List.pairwise_map
def Mk:=@List.mem_of_mem_drop
def Ml:=@List.getElem_cons_zero
def Mm:=@List.foldl_append
def Mn:=@List.eq_nil_or_concat
def Mo:=@List.drop_append_of_le_length
def Mp:=@List.drop_append
def Mq:=@Int.lt_or_le
def Mr:=@Int.lt_irrefl
def Ms:=@Int.emod_nonneg
def Mu:=@Array.length_toList
def MC:=@Go.tail_waits
def N7:=@Go.getD_set_ne
def Na:=@eq_false
def Nt:=@Go.bodyPost_ret
def Nz:=@Go.World.size_alloc
def NA:=@Go.World.cell?_alloc_some
def NC:=@Go.Src.ofString
def NH:=@Nat.zero_lt_one
def NI:=@Nat.min_eq_left
def NJ:=@Nat.lt_of_lt_of_eq
def NK:=@Nat.le_succ_of_le
def NL:=@List.sublist_flatten_of_mem
def NM:=@List.pairwise_singleton
def NN:=@List.mem_range
def NO:=@List.mem_flatten
def NP:=@List.map_congr_left
def NQ:=@List.length_mergeSort
def NR:=@List.getElem?_eq_none
def NT:=@List.filter_append
def NU:=@List.eq_nil_of_length_eq_zero
def NV:=@List.drop_left'
def NW:=@List.drop_eq_nil_of_le
def NX:=@List.dropLast_concat_getLast
def NY:=@List.all_eq_true
def O1:=@Int.zero_add
def O2:=@Int.ofNat_le
def O3:=@Bool.true_and
def O4:=@Go.RowKit.Below.refl
def O5:=@Array.getElem?_eq_none
def OJ:=@Go.run_convert_bytes_back
def OP:=@Go.results_tmp
def Pc:=@Go.ownsRow_setCell_other
def Ph:=@of_decide_eq_true
def Pm:=@not_false_eq_true
def Qe:=@dif_neg
def Qf:=@decide_true
def Qx:=@Go.World.cell?_setCell_other
def QB:=@Ne.symm
def QC:=@Nat.succ_le_succ
def QD:=@Nat.one_mul
def QE:=@Nat.not_lt
def QF:=@Nat.lt_trichotomy
def QG:=@Nat.add_zero
def QH:=@List.takeWhile_cons
def QJ:=@List.getElem_cons_succ
def QK:=@List.getElem?_take
def QL:=@List.getElem?_map
def QM:=@List.foldl_cons
def QN:=@List.any_eq_true
def QO:=@Go.Lib.nDigits_small
def QP:=@Go.Lib.cell_of_heap
def QQ:=@Int.toNat_of_nonneg
def QR:=@Int.not_lt
def QS:=@Int.neg_tmod
def QT:=@Int.emod_lt_of_pos
def QU:=@Decidable.em
def QV:=@Decidable.byContradiction
def QW:=@Bool.false_eq_true
def QZ:=@Array.toList_append
def Ra:=@Go.wp_region_any
def Rb:=@Go.wpAny_of_seq
def S4:=@Go.seqB_ready
def Sf:=@Go.run_firstCells_some
def Ss:=@Go.results_none
def U4:=@ne_of_beq_false
def W2:=@beq_self_eq_true
def Wr:=@Go.World.var?_cell
def Wu:=@Go.Region.noSelect_spec
def Wv:=@Go.Region.free_spec
def WA:=@Option.or_none
def WB:=@Go.Oper.upon_value
def WC:=@Nat.sub_self
def WD:=@Nat.not_lt_zero
def WE:=@Nat.min_def
def WG:=@Nat.lt_succ_self
def WH:=@Nat.lt_of_le_of_lt
def WJ:=@Nat.le_add_right
def WK:=@List.sum_cons
def WL:=@List.set_cons_succ
def WM:=@List.replicate_succ
def WN:=@List.pairwise_mergeSort
def WO:=@List.map_map
def WQ:=@List.length_singleton
def WR:=@List.length_dropLast
def WS:=@List.getElem_take
def WT:=@List.flatten_append
def WU:=@List.flatMap_def
def WV:=@List.flatMap_append
def WW:=@List.drop_left
def WX:=@List.dropLast_subset
def WY:=@List.concat_eq_append
def WZ:=@List.append_cancel_left
def X0:=@List.Nodup.sublist
def X1:=@Go.Lib.nDigits_big
def X2:=@Go.Lib.decDigits_length
def X4:=@Int.tmod_lt_of_pos
def X5:=@Int.tmod_eq_emod_of_nonneg
def X6:=@Int.ne_of_lt
def X7:=@Int.mul_sub
def X8:=@Int.mul_le_mul_of_nonneg_left
def Xc:=@Bool.false_and
def Xd:=@Bool.eq_iff_iff
def Xe:=@Array.setIfInBounds_comm
def Z8:=@Go.run_callFunc_extern
def A4M:=@Go.World.cell?_setCell_far
def A4N:=@Go.WideShapes.bytes_inj
def A4O:=@Option.map_eq_some_iff
def A4Q:=@Nat.lt_succ_of_lt
def A4R:=@Nat.le_of_lt_succ
def A4S:=@Nat.eq_zero_or_pos
def A4T:=@Nat.div_le_div_right
def A4U:=@Nat.add_sub_cancel_left
def A4V:=@Nat.add_sub_cancel
def A4X:=@List.mergeSort_perm
def A4Y:=@List.mergeSort_nil
def A4Z:=@List.mem_of_find?_eq_some
def A40:=@List.mem_mergeSort
def A41:=@List.mem_erase_of_ne
def A42:=@List.map_mergeSort
def A43:=@List.length_pos_of_mem
def A44:=@List.length_erase_of_mem
def A45:=@List.length_eq_one_iff
def A46:=@List.getLast?_eq_some_getLast
def A47:=@List.getElem_set_ne
def A48:=@List.getElem?_cons_succ
def A49:=@List.find?_append
def A5a:=@List.filter_filter
def A5b:=@List.filter_eq_nil_iff
def A5c:=@List.exists_mem_of_ne_nil
def A5e:=@List.Sublist.refl
def A5f:=@List.Pairwise.imp_of_mem
def A5h:=@Int.mul_tdiv_add_tmod
def A5i:=@Int.lt_or_eq_of_le
def A5j:=@Classical.byContradiction
def A5k:=@ByteArray.data_extract
def A5l:=@Array.getElem?_setIfInBounds_ne
def A5m:=@Array.getElem?_eq_some_iff
def A5n:=@Array.getElem?_eq_getElem
def A5o:=@Array.all_eq_true_iff_forall_mem
abbrev A5(b:Nat):Value:=.pointer (some ⟨b,0,none⟩)
abbrev Ac(b o:Nat):Addr:=⟨b,o,none⟩
abbrev A7(w:ga)(b o:Nat)(v:gd):Prop:=w.cell? ⟨b,o,none⟩=some v
abbrev A0(n:Int):Value:=.int .i64 n
abbrev AH(b n c:Nat):Value:=.slice (some ⟨b,0,none⟩) n c
abbrev Ab:Nat->Prop:=λ_=>False
abbrev Ag:=Calls Tryz.prog
abbrev Am(v:gd)(Q:ga->Prop)(e:Ending)(w:ga):Prop:=e=.returned v/\Q w
abbrev _root_.Go.World.aC(w:ga)(x:Array gd)(t:TypeId):World:=w.alloc (.cells x t)
abbrev _root_.Go.World.sC(w:ga)(b o:Nat)(v:gd):World:=w.setCell ⟨b,o,none⟩ v
abbrev _root_.Go.Value.oB(v:gd)(b:Nat):Prop:=v.ownBlock=some b
def _root_.Go.RowKit.Hid.o{p:Prop}(h:Hid p):p:=h
def _root_.Go.RowKit.Hid.m{P:Program}{f:FuncId}{a:Array gd}{w:ga}{R Q:Ending->ga->Prop}(h:Hid (Calls P f a w R))(k:∀e w',R e w'->Q e w'):Calls P f a w Q:=Calls.mono h k
def _root_.Go.Calls.k{P:Program}{f:FuncId}{a:Array gd}{w:ga}{v:Ending}{R:ga->Prop}{Q:Ending->ga->Prop}(h:Calls P f a w λe w'=>e=v/\R w')(H:∀w',R w'->Q v w'):Calls P f a w Q:=h.mono λe w' ⟨d,z⟩=>by subst d;exact H w' z
def _root_.Go.RowKit.Hid.k{P:Program}{f:FuncId}{a:Array gd}{w:ga}{v:Ending}{R:ga->Prop}{Q:Ending->ga->Prop}(h:Hid (Calls P f a w λe w'=>e=v/\R w'))(H:∀w',R w'->Q v w'):Calls P f a w Q:=Calls.k h H
def En{x:Int}(h : -9223372036854775808<=x/\x<=9223372036854775807):IntKind.i64.wrap x=x:=by simp[IntKind.wrap,IntKind.bits,IntKind.signed];omega
def C3(k:Nat):(0:Int)<=(k:Int):=GK _
def Gu{w:ga}{b o:Nat}{x:Array gd}{t:TypeId}{f:Nat×Nat}{v:gd}(h:w.heap[b]?=some (.cells x t f))(k:x[o]?=some v:=by rfl):A7 w b o v:=by
 show w.cell? ⟨b,o,none⟩=some v;simp only[World.cell?,h];exact k
def BG:gh Nat->gh Nat->gh (Nat×Bool)
 | [],_=>[]
 | i::r,x=>(i,!x.elem i):: BG r x
def Cs:(∀(a:Act) (v:gd) (d:Tmp),a.put (some d) v=⟨a.tmps.setIfInBounds d v,a.defers⟩)/\(∀(a:Act) (v:gd),a.put none v=a)/\(∀ {α:Type} {l:gh α} {i:Nat} {a:α},l.toArray.setIfInBounds i a=(l.set i a).toArray)/\(∀ {α:Type} {x a:α} {xs:gh α},(x::xs).set 0 a=a::xs)/\
 (∀ {α:Type} {x a:α} {xs:gh α} {n:Nat},(x::xs).set (n+1) a=x::xs.set n a)/\(∀ {α:Type} {l:gh α} {i:Nat} (h:i<l.toArray.size),l.toArray[i]=l[i]'(by simpa using h))/\(∀ {α:Type} {a:α} {l:gh α} (h:0<(a::l).length),(a::l)[0]=a)/\
 (∀ {α:Type} {a:α} {l:gh α} {i:Nat} (h:i+1<(a::l).length),(a::l)[i+1]=l[i]'(Nat.lt_of_succ_lt_succ h)):=
 ⟨λ_ _ _=>rfl,λ_ _=>rfl,List.setIfInBounds_toArray _ _ _,rfl,rfl,λ_=>rfl,λ_=>rfl,λ_=>rfl⟩
structure A3 (S:Nat->Prop) (w w':ga):Prop where
 os:w'.os=w.os
 G3:w'.tape=w.tape
 G5:w'.output=w.output
 Aj:w.heap.size<=w'.heap.size
 An:∀k,k<w.heap.size->¬S k->w'.heap[k]?=w.heap[k]?
def A3.I(S:Nat->Prop)(w:ga):A3 S w w:=⟨rfl,rfl,rfl,Ao _,λ_ _ _=>rfl⟩
def A3.Av{S S':Nat->Prop}{a b c:ga}(h:A3 S a b)(k:A3 S' b c)(E:∀x,S' x->x<a.heap.size->S x):A3 S a c:=
 ⟨k.os.trans h.os,k.G3.trans h.G3,k.G5.trans h.G5,AJ h.Aj k.Aj,λi d z=>
  (k.An i (Bi d h.Aj) (λH=>z (E i H d))).trans (h.An i d z)⟩
def A3.af{S S':Nat->Prop}{a b:ga}(h:A3 S a b)(z:∀x,x<a.heap.size->S x->S' x):A3 S' a b:=
 ⟨h.os,h.G3,h.G5,h.Aj,λk d H=>h.An k d (λE=>H (z k d E))⟩
def A3.aY{S:Nat->Prop}{a b:ga}(h:A3 Ab a b):A3 S a b:=h.af λ_ _ h=>h.elim
def A3.b5{S:Nat->Prop}{a b c:ga}(h:A3 S a b)(k:A3 Ab b c):A3 S a c:=h.Av k λ_ h _=>h.elim
def A3.ag{S:Nat->Prop}{a w:ga}(h:A3 S a w):A3 S a w.drew:=⟨h.os,h.G3,h.G5,h.Aj,h.An⟩
def A3.bb{S:Nat->Prop}{a w:ga}(h:A3 S a w)(n:Nat):A3 S a (w.drewN n):=⟨h.os,h.G3,h.G5,h.Aj,h.An⟩
def A3.al{S:Nat->Prop}{a w:ga}(h:A3 S a w)(o:Obj):A3 S a (w.alloc o):=
 ⟨h.os,h.G3,h.G5,by have:=h.Aj;simp;omega,λk d z=>(Di _ _ _ (Bi d h.Aj)).trans (h.An k d z)⟩
def A3.tr{S:Nat->Prop}{a b c:ga}(h:A3 S a b)(k:A3 S b c):A3 S a c:=h.Av k λ_ h _=>h
def A3.aC{S:Nat->Prop}{a w:ga}(h:A3 S a w)(x:Array gd)(t:TypeId):A3 S a (w.alloc (.cells x t)):=h.al _
def A3.bn{S:Nat->Prop}{a w:ga}(h:A3 S a w){p:Addr}(E:p.block<a.heap.size->S p.block)(u:gd):A3 S a (w.setCell p u):=
 ⟨h.os,h.G3,h.G5,by simpa using h.Aj,λk d z=>(Hg _ _ _ _ (λe=>by subst e;exact z (E d))).trans (h.An k d z)⟩
def A3.Cx{S:Nat->Prop}{a w w':ga}{row:Option Nat}(h:A3 S a w)(d:w.grownBy w' row)(H:∀k,row=some k->k<a.heap.size->S k):A3 S a w':=
 ⟨d.os.trans h.os,d.tape.trans h.G3,d.output.trans h.G5,AJ h.Aj d.size,λk z E=>
  (d.block k (Bi z h.Aj) (λe=>E (H k e.symm z))).trans (h.An k z E)⟩
def A3.dM{S:Nat->Prop}{a b:ga}{B:Nat}(h:A3 S a b)(z:B<=a.heap.size)(E:∀k,k<B->¬S k):Below B a b:=
 ⟨h.os,h.G3,h.G5,h.Aj,λk d=>h.An k (Bi d z) (E k d)⟩
def A3.an{S:Nat->Prop}{a b:ga}(h:A3 S a b){k:Nat}{o:Obj}(d:a.heap[k]?=some o)(z:¬S k):b.heap[k]?=some o:=
 (h.An k (Bv d) z).trans d
def One(b:Nat):Nat->Prop:=λk=>k=b
def A3.aq{S:Nat->Prop}{a w:ga}(h:A3 S a w){b:Nat}(d:S b)(o:Nat)(u:gd):A3 S a (w.setCell (Ac b o) u):=h.bn (p:=(Ac b o)) (λ_=>d) u
def A1{p:Prop}(h:p):Hid p:=h
def Gb(S:Nat->Prop)(w w':ga):Prop:=∀k,S k->w'.heap[k]?=w.heap[k]?
def Gb.af{S S':Nat->Prop}{w w':ga}(h:Gb S w w')(z:∀k,S' k->S k):Gb S' w w':=λk d=>h k (z k d)
def A3.ay{S T:Nat->Prop}{w w':ga}(h:A3 S w w')(E:∀k,T k->k<w.heap.size)(z:∀k,T k->¬S k):Gb T w w':=λk d=>h.An k (E k d) (z k d)
def Ax{w w':ga}{d e size n:Nat}{v:gd}{xs:gh gd}(h:w.ownsRow d e size v n xs)(L:∀g,v.ownBlock=some g->w'.heap[g]?=w.heap[g]?):w'.ownsRow d e size v n xs:=by
 refine⟨h.1,?_⟩;rcases h.2 with E|⟨g,cap,z,rfl,I,H,r⟩
 ·exact .inl E
 ·exact .inr ⟨g,cap,z,rfl,I,by rw[L g rfl];exact H,r⟩
def AF{w:ga}{d e size n:Nat}{v:gd}{xs:gh gd}(h:w.ownsRow d e size v n xs){g:Nat}(z:v.ownBlock=some g):g<w.heap.size:=(h.lt g z).2
def Be{w:ga}{z e size n:Nat}{v:gd}{xs:gh gd}(h:w.ownsRow z e size v n xs){g:Nat}(E:v.ownBlock=some g):∃d,w.heap[g]?=some (.cells d e (0,0)):=by
 rcases h.2 with⟨rfl,_⟩|⟨g',cap,d,rfl,_,H,_⟩
 ·simp[Value.ownBlock]at E
 ·simp[Value.ownBlock]at E;subst E;exact⟨d,H⟩
def BH{w:ga}{d e size n:Nat}{v:gd}{xs:gh gd}(h:w.ownsRow d e size v n xs){g:Nat}(z:v.ownBlock=some g){j:Nat}{u:gd}(hu:xs[j]?=some u):A7 w g j u:=by
 have:=h.cells z j u hu;unfold Addr.add at this;split at this
 ·rename_i E;rw[E];exact this
 ·simpa using this
def Gk{w:ga}{d e size n:Nat}{v:gd}{xs:gh gd}(h:w.ownsRow d e size v n xs){g:Nat}(z:v.ownBlock=some g)(j:Nat):w.frozen? (Ac g j)=false:=by
 have⟨cur,hh⟩:=Be h z;simp[World.frozen?,hh]
def B9{w:ga}{d e size n:Nat}{v:gd}{xs:gh gd}(h:w.ownsRow d e size v n xs):
 ∃a cap,v=.slice a n cap/\n<=cap/\cap<=maxLen/\(0<n->∃g,a=some (Ac g 0))/\(a=none->n=0/\cap=0)/\(∀x,a=some x->∃g,x=(Ac g 0)):=by
 rcases h.2 with⟨rfl,H⟩|⟨g,cap,cur,rfl,_,hg,z,I,hs,_⟩
 ·exact⟨none,0,by rw[H],by omega,by decide,by omega,λ_=>⟨H,rfl⟩,λx E=>by cases E⟩
 ·exact⟨_,cap,rfl,z,I,λ_=>⟨g,rfl⟩,by simp,λx E=>⟨g,by cases E;rfl⟩⟩
def Tv{w:ga}{d e size n cap:Nat}{a:Option Addr}{xs:gh gd}(h:w.ownsRow d e size (.slice a n cap) n xs){m:Nat}(hm:m<=n):w.ownsRow d e size (.slice a m cap) m (xs.take (m*size)):=by
 have I:m*size<=n*size:=Gd _ hm;refine⟨by rw[BT,h.1];omega,?_⟩;rcases h.2 with⟨z,L⟩|⟨g,cap',H,z,W,Y,hcap,E,hs,O⟩
 ·subst L;cases z;obtain rfl:m=0:=by omega
  exact .inl ⟨rfl,rfl⟩
 ·cases z;exact .inr ⟨g,cap,H,rfl,W,Y,by omega,E,hs,by rw[<-O,KI,NI I]⟩
def Qt(a b:gg):(a.toList==b.toList)=true↔a=b:=by
 rw[beq_iff_eq,KV,KV];exact⟨λh=>A4N h,λh=>by rw[h]⟩
def VT(a b:gg):(a.toList==b.toList)=false↔a≠b:=by
 have:=Qt a b;constructor
 ·intro h e;rw[this.2 e]at h;cases h
 ·intro h;cases hx:(a.toList==b.toList) with
  | false=>rfl
  | true=>exact absurd (this.1 hx) h
abbrev AM:=gg×Nat
def BX:gh AM->gh gd
 | []=>[]
 | (n,f):: r=>.string n::(A5 f):: BX r
def A2E(es:gh AM):(BX es).length=es.length*2:=by
 induction es with
 | nil=>rfl
 | cons e r ih=>obtain⟨n,f⟩:=e;simp only[BX,Cg,ih];omega
def LS(a b:gh AM):BX (a++b)=BX a++BX b:=by
 induction a with
 | nil=>rfl
 | cons e r ih=>obtain⟨n,f⟩:=e;simp[BX,ih]
def A2D(es:gh AM)(k:Nat):(BX es).take (k*2)=BX (es.take k):=by
 induction es generalizing k with
 | nil=>simp[BX]
 | cons e r ih=>
  obtain⟨n,f⟩:=e
  match k with
  | 0=>simp[BX]
  | k+1=>rw[show (k+1)*2=k*2+1+1 from by omega];simp[BX,ih]
def A2F(es:gh AM)(k:Nat):(BX es).drop (k*2)=BX (es.drop k):=by
 induction es generalizing k with
 | nil=>simp[BX]
 | cons e r ih=>
  obtain⟨n,f⟩:=e
  match k with
  | 0=>simp[BX]
  | k+1=>rw[show (k+1)*2=k*2+1+1 from by omega];simp[BX,ih]
def Q7(es:gh AM)(k:Nat)(h:k<es.length):(BX es)[k*2]?=some (.string (es[k]'h).1):=by
 induction es generalizing k with
 | nil=>simp at h
 | cons e r ih=>
  obtain⟨n,f⟩:=e
  match k with
  | 0=>simp[BX]
  | k+1=>
   have:=ih k (by simpa using h);rw[show (k+1)*2=k*2+1+1 from by omega];simpa[BX] using this
def Q5(es:gh AM)(k:Nat)(h:k<es.length):(BX es)[k*2+1]?=some (A5 ((es[k]'h).2)):=by
 induction es generalizing k with
 | nil=>simp at h
 | cons e r ih=>
  obtain⟨n,f⟩:=e
  match k with
  | 0=>simp[BX]
  | k+1=>
   have:=ih k (by simpa using h);rw[show (k+1)*2+1=k*2+1+1+1 from by omega];simpa[BX] using this
def Q6(es:gh AM):∀u∈BX es,u.oneCell'=true:=by
 induction es with
 | nil=>simp[BX]
 | cons e r ih=>
  obtain⟨n,f⟩:=e;intro u hu;simp only[BX,BB]at hu;rcases hu with rfl|rfl|hu
  ·rfl
  ·rfl
  ·exact ih u hu
def D8(w:ga)(v:gd)(es:gh AM):Prop:=w.ownsRow 0 125 2 v es.length (BX es)
def D8.Cd{w:ga}{v:gd}{es:gh AM}(h:D8 w v es):
 ∃a cap,v=.slice a es.length cap/\es.length<=cap/\cap<=maxLen/\∀k (d:k<es.length),∃g,a=some (Ac g 0)/\A7 w g (k*2) (.string (es[k]'d).1)/\A7 w g (k*2+1) (A5 ((es[k]'d).2)):=by
 rcases B9 h with⟨a,cap,rfl,E,z,H,_,_⟩;refine⟨a,cap,rfl,E,z,λk d=>?_⟩;obtain⟨g,rfl⟩:=H (by omega);exact⟨g,rfl,BH h rfl (Q7 es k d),BH h rfl (Q5 es k d)⟩
def B5:gh AM->gg->Int
 | [],_=>-1
 | e::r,nd=>if e.1=nd then 0 else if B5 r nd<0 then -1 else B5 r nd+1
def A2z(es:gh AM)(z:gg)(k:Nat)(E:k<es.length)(h:(es[k]'E).1=z)(d:∀m (I:m<k),(es[m]'(by omega)).1≠z):B5 es z=k:=by
 induction es generalizing k with
 | nil=>simp at E
 | cons e r ih=>
  match k with
  | 0=>simp only[Ml]at h;simp[B5,h]
  | k+1=>
   have H:=d 0 (by omega);simp only[Ml]at H;have:=ih k (by simpa using E) (by simpa using h) (λm I=>by simpa using d (m+1) (by omega));simp only[B5,H,C9,this];rw[Aa (by omega)];omega
def A2x(es:gh AM)(h:gg)(d:∀m (z:m<es.length),(es[m]'z).1≠h):B5 es h = -1:=by
 induction es with
 | nil=>rfl
 | cons e r ih=>
  have E:=d 0 (by simp);simp only[Ml]at E;have:=ih (λm z=>by have:=d (m+1) (by simp;omega);simpa using this);simp[B5,E,this]
def Vh(es:gh AM)(d:gg): -1<=B5 es d/\B5 es d<es.length:=by
 induction es with
 | nil=>simp[B5]
 | cons e r ih=>
  simp only[B5,Cg];split
  ·omega
  ·split<;>omega
def Q4(es:gh AM)(d:gg):(B5 es d = -1/\∀e∈es,e.1≠d)\/∃k,∃z:k<es.length,B5 es d=(k:Int)/\(es[k]'z).1=d:=by
 induction es with
 | nil=>exact .inl ⟨rfl,by simp⟩
 | cons e r ih=>
  by_cases h:e.1=d
  ·exact .inr ⟨0,by simp,by simp[B5,h],by simpa using h⟩
  ·rcases ih with⟨H,E⟩|⟨k,z,H,E⟩
   ·exact .inl ⟨by simp[B5,h,H],λx I=>by rcases BB.1 I with rfl|I;exact h;exact E x I⟩
   ·exact .inr ⟨k+1,by simpa using z,by simp only[B5,h,C9,H];rw[Aa (by omega)];omega,by simpa using E⟩
structure DN where
 AA:Int
 AQ:Int
 Ce:Int
 Cv:Int
 BC:Int
 Bl:Int
 fulls:Int
 AW:Bool
def H6(vd vs vc:gd)(n:DN):Array Value:=
 #[vd,vs,vc,A0 n.AA,A0 n.AQ,A0 n.Ce,A0 n.Cv,A0 n.BC,A0 n.Bl,A0 n.fulls,.bool n.AW]
def AK(w:ga)(b:Nat)(vd vs vc:gd)(n:DN):Prop:=w.heap[b]?=some (.cells (H6 vd vs vc n) 95 (0,0))
section
variable{w:ga}{b:Nat}{vd vs vc:gd}{n:DN}
def AK.c0(h:AK w b vd vs vc n):A7 w b 0 vd:=by unfold AK at h;simp[A7,World.cell?,h,H6]
def AK.c1(h:AK w b vd vs vc n):A7 w b 1 vs:=by unfold AK at h;simp[A7,World.cell?,h,H6]
def AK.c2(h:AK w b vd vs vc n):A7 w b 2 vc:=by unfold AK at h;simp[A7,World.cell?,h,H6]
def AK.c3(h:AK w b vd vs vc n):A7 w b 3 (A0 n.AA):=by unfold AK at h;simp[A7,World.cell?,h,H6]
def AK.c4(h:AK w b vd vs vc n):A7 w b 4 (A0 n.AQ):=by unfold AK at h;simp[A7,World.cell?,h,H6]
def AK.c5(h:AK w b vd vs vc n):A7 w b 5 (A0 n.Ce):=by unfold AK at h;simp[A7,World.cell?,h,H6]
def AK.c6(h:AK w b vd vs vc n):A7 w b 6 (A0 n.Cv):=by unfold AK at h;simp[A7,World.cell?,h,H6]
def AK.c7(h:AK w b vd vs vc n):A7 w b 7 (A0 n.BC):=by unfold AK at h;simp[A7,World.cell?,h,H6]
def AK.c8(h:AK w b vd vs vc n):A7 w b 8 (A0 n.Bl):=by unfold AK at h;simp[A7,World.cell?,h,H6]
def AK.c9(h:AK w b vd vs vc n):A7 w b 9 (A0 n.fulls):=by unfold AK at h;simp[A7,World.cell?,h,H6]
def AK.bW(h:AK w b vd vs vc n):A7 w b 10 (.bool n.AW):=by unfold AK at h;simp[A7,World.cell?,h,H6]
def AK.fz(h:AK w b vd vs vc n)(o:Nat):w.frozen? (Ac b o)=false:=by unfold AK at h;simp[World.frozen?,h]
def AK.lt(h:AK w b vd vs vc n):b<w.heap.size:=Bv h
def CL{w:ga}{b:Nat}{c:Array gd}{e:Nat}{o:Nat}{v:gd}(h:w.heap[b]?=some (.cells c e (0,0))):(w.setCell (Ac b o) v).heap[b]?=some (.cells (c.setIfInBounds o v) e (0,0)):=by
 simp[World.setCell,Array.getElem?_modify,h]
def AK.ay{w':ga}(h:AK w b vd vs vc n)(d:w'.heap[b]?=w.heap[b]?):AK w' b vd vs vc n:=d.trans h
def AK.al(h:AK w b vd vs vc n)(o:Obj):AK (w.alloc o) b vd vs vc n:=h.ay (Di _ _ _ h.lt)
def AK.Cx{w':ga}{row:Option Nat}(h:AK w b vd vs vc n)(z:w.grownBy w' row)(d:row≠some b):AK w' b vd vs vc n:=h.ay (z.block b h.lt (λe=>d e.symm))
def AK.Al{S:Nat->Prop}{w':ga}(h:AK w b vd vs vc n)(z:A3 S w w')(d:¬S b):AK w' b vd vs vc n:=h.ay (z.An b h.lt d)
def AK.s0(h:AK w b vd vs vc n)(v:gd):AK (w.setCell (Ac b 0) v) b v vs vc n:=CL h
def AK.s1(h:AK w b vd vs vc n)(v:gd):AK (w.setCell (Ac b 1) v) b vd v vc n:=CL h
def AK.s2(h:AK w b vd vs vc n)(v:gd):AK (w.setCell (Ac b 2) v) b vd vs v n:=CL h
def AK.s4(h:AK w b vd vs vc n)(x:Int):AK (w.setCell (Ac b 4) (A0 x)) b vd vs vc {n with AQ:=x}:=CL h
def AK.s5(h:AK w b vd vs vc n)(x:Int):AK (w.setCell (Ac b 5) (A0 x)) b vd vs vc {n with Ce:=x}:=CL h
def AK.s6(h:AK w b vd vs vc n)(x:Int):AK (w.setCell (Ac b 6) (A0 x)) b vd vs vc {n with Cv:=x}:=CL h
def AK.s7(h:AK w b vd vs vc n)(x:Int):AK (w.setCell (Ac b 7) (A0 x)) b vd vs vc {n with BC:=x}:=CL h
def AK.s8(h:AK w b vd vs vc n)(x:Int):AK (w.setCell (Ac b 8) (A0 x)) b vd vs vc {n with Bl:=x}:=CL h
def AK.s9(h:AK w b vd vs vc n)(x:Int):AK (w.setCell (Ac b 9) (A0 x)) b vd vs vc {n with fulls:=x}:=CL h
def AK.eg(h:AK w b vd vs vc n)(x:Bool):AK (w.setCell (Ac b 10) (.bool x)) b vd vs vc {n with AW:=x}:=CL h
end
def CY(w:ga)(f:Nat)(vb:gd)(Ad:Int):Prop:=w.heap[f]?=some (.cells #[vb,A0 Ad] 129 (0,0))
section
variable{w:ga}{f:Nat}{vb:gd}{Ad:Int}
def CY.c0(h:CY w f vb Ad):A7 w f 0 vb:=by unfold CY at h;simp[A7,World.cell?,h]
def CY.c1(h:CY w f vb Ad):A7 w f 1 (A0 Ad):=by unfold CY at h;simp[A7,World.cell?,h]
def CY.fz(h:CY w f vb Ad)(o:Nat):w.frozen? (Ac f o)=false:=by unfold CY at h;simp[World.frozen?,h]
def CY.s0(h:CY w f vb Ad)(v:gd):CY (w.setCell (Ac f 0) v) f v Ad:=CL h
def CY.s1(h:CY w f vb Ad)(x:Int):CY (w.setCell (Ac f 1) (A0 x)) f vb x:=CL h
end
def Ea(bs:gh UInt8):gh Value:=bs.map λb=>.int .u8 b.toNat
def FZ(w:ga)(v:gd)(bs:gh UInt8):Prop:=w.ownsRow 0 5 1 v bs.length (Ea bs)
def A3U(a b:gh UInt8):Ea (a++b)=Ea a++Ea b:=Ei
def A3.cI{S:Nat->Prop}{w w':ga}(h:Below w.heap.size w w'):A3 S w w':=⟨h.os,h.tape,h.output,h.size,λk d _=>h.block k d⟩
def A3.ao{w w':ga}(h:A3 Ab w w'){p:Addr}{v:gd}(d:w.cell? p=some v):w'.cell? p=some v:=by
 have z:p.block<w.heap.size:=by
  rcases Fc p.block w.heap.size with h|h
  ·exact h
  ·unfold World.cell? at d;rw[O5 h]at d;simp at d
 unfold World.cell? at d ⊢;rw[h.An _ z (λh=>h)];exact d
end
section
open Go.RowKit
attribute [local go_sem ↓] Go.wp_at_zero Go.wp_at_succ
def DB(w:ga)(v:gd)(es:gh AM)(W:gg)(h:D8 w v es):
 Ag 77 #[v,.string W] w (Am (A0 (B5 es W)) λw'=>w=w'):=by
 obtain⟨a,cap,rfl,hc1,aB,z⟩:=h.Cd;unfold maxLen at aB
 go_enter func77,ntmps77
 go_wp2;go_loop [5,8] (λj i=>∃k:Nat,k<=es.length/\i=A0 k/\Hid (∀m (O:m<k) (Y:m<es.length),(es[m]'Y).1≠W)) (λ_ i=>es.length-(intOf i).toNat)
 ·exact⟨0,Cb _,rfl,λm O=>absurd O (by omega)⟩
 ·obtain⟨k,hk,rfl,I⟩:=hrel;by_cases L:k<es.length
  ·obtain⟨g,rfl,hn,hp⟩:=z k L;by_cases H:(es[k]'L).1=W
   ·have ht:=(Qt _ _).2 H;have hf:=Hid.o I;have d:=A2z es W k L H (λm O=>hf m O (by omega));have E:=A1 <| d;clear d;go_wp2;go_ret;exact⟨by rw[E.o];rfl,rfl⟩
   ·have ht:=(VT _ _).2 H;have aA:=A1 <| H;go_wp2;go_round
    ·exact⟨k+1,by omega,by go_num,λm O Y=>by rcases Fc m k with h|h;exact I m h Y;(obtain rfl:m=k:=(by omega));exact aA.o⟩
    ·simp[intOf];omega
  ·have d:=A2x es W (λm O=>Hid.o I m (by omega) O);have E:=A1 <| d;clear d z;go_wp2;go_ret;exact⟨by rw[E.o];rfl,rfl⟩
def bg(n:DN):Bool×Int×DN:=
 let c:=wrap64 (n.AQ+1)
 if n.AW then (false,5,{n with AQ:=c,Bl:=wrap64 (n.Bl+1)})
 else if c=n.Ce then (true,5,{n with AQ:=c,Bl:=wrap64 (n.Bl+1),AW:=true})
 else if c=n.Cv then (false,5,{n with AQ:=c,Bl:=wrap64 (n.Bl+1)})
 else (true,0,{n with AQ:=c})
def H9(w:ga)(b:Nat)(vd O vc:gd)(n:DN)(h:AK w b vd O vc n):
 Ag 121 #[A5 b] w (Am (.tuple #[.bool (bg n).1,A0 (bg n).2.1]) λw'=>AK w' b vd O vc (bg n).2.2/\A3 (One b) w w'):=by
 have h4:=h.c4;have h5:=h.c5;have h6:=h.c6;have h8:=h.c8;have h10:=h.bW;have hf:=h.fz;have e1:=(h.s4 (wrap64 (n.AQ+1)));have Y:=e1.s8 (wrap64 (n.Bl+1));have e3:=Y.eg true;have aA:=(A3.I (One b) w).aq rfl 4 (A0 (wrap64 (n.AQ+1)));have I:=aA.aq rfl 8 (A0 (wrap64 (n.Bl+1)));have aF:=I.aq rfl 10 (.bool true);have aG:=A1 e1;have W:=A1 Y;have aD:=A1 e3;have aB:=A1 aA;have L:=A1 I;have aE:=A1 aF;by_cases H:n.AW=true
 ·have q:Hid (bg n=(false,5,{n with AQ:=wrap64 (n.AQ+1),Bl:=wrap64 (n.Bl+1)})):=by unfold Hid;simp[bg,H]
  go_enter func121,ntmps121
  go_wp2;go_ret2;rw[q.o];exact⟨rfl,W.o,L.o⟩
 ·have d:n.AW=false:=by simpa using H
  by_cases hc:(wrap64 (n.AQ+1)==n.Ce)=true
  ·(have q:Hid (bg n=(true,5,{n with AQ:=wrap64 (n.AQ+1),Bl:=wrap64 (n.Bl+1),AW:=true})):=by unfold Hid;simp[bg,d,eq_of_beq hc])
   go_enter func121,ntmps121
   go_wp2;go_region_held3 (λw'=>w'.cell? ⟨b,4,none⟩=some (A0 (wrap64 (n.AQ+1)))/\w'.cell? ⟨b,5,none⟩=some (A0 n.Ce)) (refine⟨?_,?_⟩<;>go_simp) (fail);go_wp2;go_ret2;rw[q.o];exact⟨rfl,aD.o,aE.o.ag⟩
  ·(have z:(wrap64 (n.AQ+1)==n.Ce)=false:=by simpa using hc);by_cases hl:(wrap64 (n.AQ+1)==n.Cv)=true
   ·have q:Hid (bg n=(false,5,{n with AQ:=wrap64 (n.AQ+1),Bl:=wrap64 (n.Bl+1)})):=by
     have:=U4 z;unfold Hid bg;dsimp only;rw[Aa (by rw[d];decide),Aa this,Ae (eq_of_beq hl)]
    go_enter func121,ntmps121
    go_wp2;go_region_held3 (λw'=>w'.cell? ⟨b,4,none⟩=some (A0 (wrap64 (n.AQ+1)))/\w'.cell? ⟨b,5,none⟩=some (A0 n.Ce)) (refine⟨?_,?_⟩<;>go_simp) (fail);go_wp2;go_region_held3 (λw'=>w'.cell? ⟨b,4,none⟩=some (A0 (wrap64 (n.AQ+1)))/\w'.cell? ⟨b,6,none⟩=some (A0 n.Cv)) (refine⟨?_,?_⟩<;>go_simp) (fail);go_wp2;go_ret2;rw[q.o];exact⟨rfl,W.o,L.o.ag.ag⟩
   ·(have E:(wrap64 (n.AQ+1)==n.Cv)=false:=by simpa using hl);have q:Hid (bg n=(true,0,{n with AQ:=wrap64 (n.AQ+1)})):=by
     have:=U4 z;have h2:=U4 E;unfold Hid bg;dsimp only;rw[Aa (by rw[d];decide),Aa this,Aa h2]
    go_enter func121,ntmps121
    go_wp2;go_region_held3 (λw'=>w'.cell? ⟨b,4,none⟩=some (A0 (wrap64 (n.AQ+1)))/\w'.cell? ⟨b,5,none⟩=some (A0 n.Ce)) (refine⟨?_,?_⟩<;>go_simp) (fail);go_wp2;go_region_held3 (λw'=>w'.cell? ⟨b,4,none⟩=some (A0 (wrap64 (n.AQ+1)))/\w'.cell? ⟨b,6,none⟩=some (A0 n.Cv)) (refine⟨?_,?_⟩<;>go_simp) (fail);go_wp2;go_ret2;rw[q.o];exact⟨rfl,aG.o,aB.o.ag.ag⟩
end
abbrev Tryz.fN:Go.Conc.Locks.MuLink:={lock:=61,unlock:=62,ilock:=103,iunlock:=104,lockSlow:=144,unlockSlow:=147,disable:=140,enable:=142,acquire:=143,relMerge:=145,cas32:=141,add32:=146,tMutex:=106,tIMutex:=104,tPMutex:=167,tPIMutex:=213,tPI32:=215,tUP:=217,tNoCopy:=101,tU32:=102}
def Tryz.bC:Go.Conc.Locks.MuLib Tryz.prog Tryz.fN:=
 ⟨func61,func62,func103,func104,func140,func142,func143,func145,func141,func146,
  underlying104,Tryz.runUnderlying104,sizeOf104,isAgg104,zeroValue104,
  underlying106,Tryz.runUnderlying106,sizeOf106,isAgg106,zeroValue106,
  underlying167,Tryz.runUnderlying167,sizeOf167,isAgg167,zeroValue167,
  underlying213,Tryz.runUnderlying213,sizeOf213,isAgg213,zeroValue213,
  underlying215,Tryz.runUnderlying215,sizeOf215,isAgg215,zeroValue215,
  underlying217,Tryz.runUnderlying217,sizeOf217,isAgg217,zeroValue217,
  underlying101,Tryz.runUnderlying101,sizeOf101,isAgg101,zeroValue101,
  underlying21,Tryz.runUnderlying21,sizeOf21,isAgg21,zeroValue21,(by kernel_rfl)⟩
abbrev Pt:=Int×Int
def CE:gh Pt->Int->Int->gh Pt
 | [],t,v=>[(t,v)]
 | (a,b):: r,t,v=>if a<t then (a,b):: CE r t v else if a=t then (t,v):: r else (t,v):: (a,b):: r
def E4(l:gh Pt):Prop:=l.Pairwise λx y=>x.1<y.1
def A17{l:gh Pt}{t v:Int}{x:Pt}(h:x∈CE l t v):x=(t,v)\/x∈l:=by
 induction l with
 | nil=>simp[CE]at h;exact .inl h
 | cons e r ih=>
  obtain⟨a,b⟩:=e;simp only[CE]at h;split at h
  ·rcases BB.1 h with h|h
   ·exact .inr (by simp[h])
   ·rcases ih h with h|h
    ·exact .inl h
    ·exact .inr (Bp _ h)
  ·split at h
   ·rcases BB.1 h with h|h
    ·exact .inl h
    ·exact .inr (Bp _ h)
   ·rcases BB.1 h with h|h
    ·exact .inl h
    ·exact .inr h
def LP{l:gh Pt}(h:E4 l)(t v:Int):E4 (CE l t v):=by
 induction l with
 | nil=>simp[CE,E4]
 | cons e r ih=>
  obtain⟨a,b⟩:=e;have z:=D7.1 h;simp only[CE];split
  ·rename_i E;refine D7.2 ⟨λx d=>?_,ih z.2⟩;rcases A17 d with rfl|d
   ·exact E
   ·exact z.1 x d
  ·rename_i E;split
   ·rename_i H;subst H;exact D7.2 ⟨λx d=>z.1 x d,z.2⟩
   ·rename_i H;refine D7.2 ⟨λx d=>?_,h⟩;rcases BB.1 d with rfl|d
    ·show t<a;omega
    ·have:=z.1 x d;show t<x.1;simp only at this;omega
def BP(l:gh Pt)(t:Int):Nat:=(l.takeWhile λx=>decide (x.1<t)).length
def K6(l:gh Pt)(t:Int):BP l t<=l.length:=by
 unfold BP;exact(List.takeWhile_sublist _).length_le
def Lq{l:gh Pt}{t:Int}{i:Nat}(h:i<BP l t)(z:i<l.length):(l[i]'z).1<t:=by
 unfold BP at h
 induction l generalizing i with
 | nil=>simp at z
 | cons e r ih=>
  by_cases d:e.1<t
  ·simp only[QH,d,Qf,Cp,Cg]at h;cases i with
   | zero=>exact d
   | succ i=>simp only[QJ];exact ih (by omega) _
  ·simp[d]at h
def Lr{l:gh Pt}(H:E4 l){t:Int}{i:Nat}(h:BP l t<=i)(z:i<l.length):t<=(l[i]'z).1:=by
 unfold BP at h
 induction l generalizing i with
 | nil=>simp at z
 | cons e r ih=>
  have d:=D7.1 H;by_cases E:e.1<t
  ·simp only[QH,E,Qf,Cp,Cg]at h;cases i with
   | zero=>omega
   | succ i=>simp only[QJ];exact ih d.2 (by omega) _
  ·cases i with
   | zero=>simp only[Ml];omega
   | succ i=>
    have:=d.1 (r[i]'(by simpa using z)) (BU _);simp only[QJ];omega
def Tn{l:gh Pt}(I:E4 l){t:Int}{k:Nat}(hk:k<=l.length)(H:∀i (z:i<l.length),i<k->(l[i]'z).1<t)(E:∀i (z:i<l.length),k<=i->t<=(l[i]'z).1):BP l t=k:=by
 rcases QF (BP l t) k with h|h|h
 ·have d:BP l t<l.length:=by omega
  have:=H _ d h;have:=Lr I (Ao (BP l t)) d;omega
 ·exact h
 ·have hp:=K6 l t;have d:k<l.length:=by omega
  have:=Lq h d;have:=E k d (Ao k);omega
def A19(l:gh Pt)(t v:Int):CE l t v=l.take (BP l t)++(t,v):: (if (l[BP l t]?).any (λx=>x.1==t) then l.drop (BP l t+1) else l.drop (BP l t)):=by
 unfold BP
 induction l with
 | nil=>simp[CE]
 | cons e r ih=>
  obtain⟨a,b⟩:=e;simp only[CE];by_cases h:a<t
  ·simp only[h,Cp,QH,Qf,Cg,Fe,DW,A48,FD,ih]
  ·by_cases d:a=t
   ·subst d;simp
   ·simp[h,d]
def V0{l:gh Pt}(Y:E4 l)(p:Int->Bool)(t v:Int):(CE l t v).filter (λx=>p x.1)=if p t then CE (l.filter λx=>p x.1) t v else l.filter (λx=>p x.1):=by
 induction l with
 | nil=>by_cases h:p t<;>simp[CE,h]
 | cons e r L=>
  obtain⟨a,b⟩:=e;have E:=D7.1 Y;have L:=L E.2;simp only[CE];by_cases H:a<t
  ·simp only[H,Cp,Fh,L];by_cases h:p t<;>by_cases z:p a<;>simp[h,z,CE,H]
  ·by_cases I:a=t
   ·subst I;simp only[H,C9,Cp,Fh];by_cases h:p a<;>simp[h,CE]
   ·simp only[H,I,C9,Fh];by_cases h:p t
    ·by_cases z:p a
     ·simp[h,z,CE,H,I]
     ·simp only[h,z,Cp];have hall:∀x∈r.filter (λx=>p x.1),t<x.1:=λx hx=>by
       have:=E.1 x (GX.1 hx).1;simp only at this;omega
      cases hr:r.filter (λx=>p x.1) with
      | nil=>simp[CE]
      | cons y ys=>
       obtain⟨c,d⟩:=y;have:=hall (c,d) (by rw[hr];simp);simp only at this;(have W:¬c<t:=by omega);(have O:¬c=t:=by omega);simp[CE,W,O]
    ·by_cases z:p a<;>simp[h,z]
def A2w{l:gh Pt}(W:E4 l)(a b:Int):l.filter (λx=>decide (a<=x.1)&&decide (x.1<b))=(l.take (BP l b)).drop (BP l a):=by
 unfold BP
 induction l with
 | nil=>simp
 | cons e r h=>
  have d:=D7.1 W;have h:=h d.2;by_cases z:e.1<b
  ·by_cases H:e.1<a
   ·(have:¬a<=e.1:=by omega);simp[H,z,this,h]
   ·(have O:a<=e.1:=by omega);have L:r.takeWhile (λx=>decide (x.1<a))=[]:=by
     cases r with
     | nil=>rfl
     | cons y ys=>have:=d.1 y (by simp);rw[QH];have:¬y.1<a:=by omega
                  simp[this]
    simp only[L,J7,Dz]at h;simp[H,z,O,h]
  ·(have I:∀x∈r,¬x.1<b:=λx E=>by have:=d.1 x E;omega);have:r.filter (λx=>decide (a<=x.1)&&decide (x.1<b))=[]:=by
    rw[A5b];intro x E;have:=I x E;simp[this]
   simp[z,this]
section
open Go
def Wy{α:Type}{a:α}{l:gh α}{n:Nat}:(a::l).drop (n+1)=l.drop n:=rfl
def Wx{α:Type}{l:gh α}:l.drop 0=l:=rfl
section
variable{P:Program}{ops:Array Oper}{md:Region.Mode}{Q:Exit->Act->ga->Prop}{S:ga->Prop}
def L9(P:Program)(md:Region.Mode)(ops:Array Oper)(Q:Exit->Act->ga->Prop)(S:ga->Prop)(n:Nat)(L:Array Bool->Act->ga->Prop):Nat->Array Bool->Act->ga->Prop
 | 0,lf,a,w=>L lf a w
 | f+1,lf,a,w=>Region.ready md ops lf≠[]/\∀i∈Region.ready md ops lf,i<n/\wpOp P ops Q i (λa' w'=>S w'/\L9 P md ops Q S n L f (lf.setIfInBounds i true) a' w') a w
def Rc{n g:Nat}{L:Array Bool->Act->ga->Prop}(z:∀d a w,L d a w->wpAny P md ops Q g d a w):
 ∀(f:Nat) (d:Array Bool) (a:Act) (w:ga),L9 P md ops Q S n L f d a w->wpAny P md ops Q (f+g) d a w
 | 0,d,a,w,h=>by rw[GF];exact z _ _ _ h
 | f+1,d,a,w,h=>by
  rw[show f+1+g=(f+g)+1 from by omega];exact⟨λH=>absurd H h.1,λi I=>L8 (λa' w' E=>Rc z f _ a' w' E.2) (h.2 i I).2⟩
def Xp{n i:Nat}{oi:Oper}{v:gd}{L:Array Bool->Act->ga->Prop}(hi:ops[i]?=some oi)(aA:∀(j:Nat) (o:Oper) cs b,ops[j]?=some o->o.op≠.select cs b)(hQ:∀c a w,Q (.panic c) (a.put oi.dst v) w->Q (.panic c) a w)(hs:Region.sinkB md ops n=true)(hc:Region.chainB md ops n=true)(hn:n<ops.size)(aF:i<n)(aB:∀E a w,L E a w->∀j∈Region.ready md ops E,n<=j):
 ∀(f:Nat) (E:Array Bool) (a:Act) (w:ga),HeadInv md ops n E->
  (∀j oj,ops[j]?=some oj->j≠i->E.getD j true=false->(∀e∈oj.after,Region.binds md e=true->e.on≠i)->oi.apart ops oj=true)->
  i∈Region.ready md ops E->YieldsIf P ops S oi v a->S w->
  L9 P md ops Q S n L f (E.setIfInBounds i true) (a.put oi.dst v) w->L9 P md ops Q S n L (f+1) E a w:=by
 intro f
 induction f with
 | zero=>
  intro E a w W _ hr hy hS H;have z:=(IJ.1 hr).1;refine⟨λh=>(by rw[h]at hr;cases hr),λj hj=>?_⟩;have Y:j<n:=by
   rcases Fc j n with h|h
   ·exact h
   ·exact absurd hj (MC hs hc hn W _ i rfl aF z j h)
  refine⟨Y,?_⟩;by_cases d:j=i
  ·subst d;exact hy.wpOp hi hS ⟨hS,H⟩
  ·have:=aB _ _ _ H j (Lo hj d);omega
 | succ f ih=>
  intro E a w W I hr hy hS H;have z:=(IJ.1 hr).1;refine⟨λh=>(by rw[h]at hr;cases hr),λj hj=>?_⟩;have Y:j<n:=by
   rcases Fc j n with h|h
   ·exact h
   ·exact absurd hj (MC hs hc hn W _ i rfl aF z j h)
  refine⟨Y,?_⟩;by_cases d:j=i
  ·subst d;exact hy.wpOp hi hS ⟨hS,H⟩
  ·have h1:=(H.2 j (Lo hj d)).2;have⟨hjun,oj,hoj,hall⟩:=IJ.1 hj;have aE:∀e∈oj.after,Region.binds md e=true->e.on≠i:=λe he hb aI=>by
    have h1:=hall e he hb;rw[aI,getD_both z]at h1;cases h1
   have h2:=wpOp_putIf hoj (I j oj hoj d hjun aE) (λcs b=>aA i oi cs b hi) (λcs b=>aA j oj cs b hoj) hQ hy h1;have O:∀k ok,ops[k]?=some ok->k≠i->(E.setIfInBounds j true).getD k true=false->
    (∀e∈ok.after,Region.binds md e=true->e.on≠i)->oi.apart ops ok=true:=λk ok hk aH z aG=>by
    refine I k ok hk aH ?_ aG;by_cases aD:j=k
    ·subst aD;exact hjun
    ·rw[N7 true aD]at z;exact z
   refine L8 (λa' w' h3=>⟨h3.2.1,ih (E.setIfInBounds j true) a' w' (W.set hj Y) O (Lo hr (QB d)) h3.1 h3.2.1 ?_⟩) h2;rw[Xe _ _ d];exact h3.2.2
def FF(P:Program)(ops:Array Oper)(Q:Exit->Act->ga->Prop)(S:ga->Prop)(T:Act->ga->Prop):gh (Nat×Bool)->Act->ga->Prop
 | [],a,w=>T a w
 | (i,true):: r,a,w=>∃o v,ops[i]?=some o/\YieldsIf P ops S o v a/\FF P ops Q S T r (a.put o.dst v) w
 | (i,false):: r,a,w=>wpOp P ops Q i (λa' w'=>S w'/\FF P ops Q S T r a' w') a w
def Lk(md:Region.Mode)(ops:Array Oper)(n:Nat):gh (Nat×Bool)->Array Bool->Bool
 | [],lf=>Region.seqB md ops (ops.size-n) n lf
 | (i,t):: r,lf=>decide (i<n)&&(if t then (Region.ready md ops lf).contains i&&Region.free md ops lf i else decide (Region.ready md ops lf=[i]))&&Lk md ops n r (lf.setIfInBounds i true)
def MJ(ops:Array Oper)(n:Nat)(d:gh (Nat×Bool)):Bool:=
 Region.noSelect ops&&decide (n<ops.size)&&decide (d.length=n)&&Region.sinkB .any ops n&&Region.chainB .any ops n&&Lk .any ops n d (Array.replicate ops.size false)
def O8{n:Nat}{T:Act->ga->Prop}(d:Region.noSelect ops=true)(hs:Region.sinkB md ops n=true)(hc:Region.chainB md ops n=true)(hn:n<ops.size)(Y:∀c a t v w,Q (.panic c) (Act.put a (some t) v) w->Q (.panic c) a w):
 ∀(L:gh (Nat×Bool)) (H:Array Bool) (a:Act) (w:ga),HeadInv md ops n H->Lk md ops n L H=true->S w->FF P ops Q S T L a w->
 L9 P md ops Q S n (λO a' w'=>Region.seqB md ops (ops.size-n) n O=true/\T a' w') L.length H a w
 | [],H,a,w,_,hB,_,h=>⟨hB,h⟩
 | (i,true):: r,H,a,w,inv,hB,hS,h=>by
  simp only[Lk,Gg,E0,Cp]at hB;obtain⟨⟨z,W,hf⟩,I⟩:=hB;obtain⟨o,v,h0,hy,hK⟩:=h;have E:i∈Region.ready md ops H:=by simpa using W
  exact Xp h0 (Wu d) (λc a w=>by cases o.dst with|none=>exact id|some t=>exact Y c a t v w) hs hc hn z (λO a' w' hL=>S4 hL.1) r.length H a w inv (Wv h0 hf) E hy hS
   (O8 d hs hc hn Y r _ _ w (inv.set E z) I hS hK)
 | (i,false):: r,H,a,w,inv,hB,hS,h=>by
  simp only[Lk,Gg,E0,QW,C9]at hB;obtain⟨⟨z,W⟩,I⟩:=hB;refine⟨by rw[W];simp,λj hj=>?_⟩;have E:i∈Region.ready md ops H:=by rw[W];simp
  rw[W]at hj;have:j=i:=by simpa using hj
  subst this;exact⟨z,L8 (λa' w' h'=>⟨h'.1,O8 d hs hc hn Y r _ a' w' (inv.set E z) I h'.1 h'.2⟩) h⟩
def G0{id:Nat}{a:Act}{w:ga}{l:gh Oper}(S:ga->Prop)(n:Nat)(d:gh (Nat×Bool))(hm:P.follows .mixedOrders=true)(O:MJ l.toArray n d=true)(Y:∀c a t v w,Q (.panic c) (Act.put a (some t) v) w->Q (.panic c) a w)(hS:S w.drew)(h:FF P l.toArray Q S (λa w=>wpList P l.toArray Q (l.drop n) a w) d a w.drew):(Code.region id l.toArray true).wp P Q a w:=by
 simp only[MJ,Gg,E0]at O;obtain⟨⟨⟨⟨⟨hsel,hn⟩,hsl⟩,hs⟩,hc⟩,hgo⟩:=O;have E:(l.drop n).length=l.toArray.size-n:=by simp
 have z:HeadInv .any l.toArray n (Array.replicate l.toArray.size false):=
  ⟨by simp,λj oj _ L=>(by rw[Kn]at L;cases L),λt _ W=>getD_in (by simpa using W) (Kn _ _)⟩
 have H:=O8 (md:=.any) (T:=λa w=>wpList P l.toArray Q (l.drop n) a w) hsel hs hc hn Y d _ a w.drew z hgo hS h;refine Ra hm ?_
 have:=Rc (Q:=Q) (g:=l.toArray.size-n) (λlf a' w' I=>by
  have:=Rb (md:=.any) (Q':=Q) (l.drop n) n lf a' w' (λj=>by simp[List.getElem?_drop]) (by rw[E];exact I.1) I.2
  rwa [E]at this) _ _ _ _ H
 rw[hsl,show n+(l.toArray.size-n)=l.toArray.size from by omega]at this;exact this
def Ek{i:Nat}{o:Oper}{v:gd}{r:gh (Nat×Bool)}{a:Act}{w:ga}{T:Act->ga->Prop}(z:ops[i]?=some o)(d:Region.wanted o (yielded ops a.tmps)=true)(hy:∀w,S w->(execOp a.eval o).run P w=.ok (.value v) w)(h:FF P ops Q S T r (a.put o.dst v) w):FF P ops Q S T ((i,true):: r) a w:=
 ⟨o,v,z,.inl ⟨d,hy⟩,h⟩
def G1{a:Act}{w:ga}{T:Act->ga->Prop}(h:T a w):FF P ops Q S T [] a w:=h
def Eb{i:Nat}{o:Oper}{r:gh (Nat×Bool)}{a:Act}{w:ga}{T:Act->ga->Prop}(H:ops[i]?=some o)(z:Region.wanted o (yielded ops a.tmps)=true)(h:∀K:Act->ga->Prop,(∀a w,S w->(S w->FF P ops Q S T r a w)->K a w)->o.wp P a w K Q):FF P ops Q S T ((i,false):: r) a w:=by
 show wpOp P ops Q i _ a w;unfold wpOp;simp only[H,z,Cp];exact .inl (h _ λa w d E=>⟨d,E d⟩)
def Bq{i:Nat}{o:Oper}{v:gd}{r:gh (Nat×Bool)}{a d:Act}{w:ga}{T:Act->ga->Prop}(h:FF P ops Q S T r d w)(E:ops[i]?=some o:=by rfl)(z:Region.wanted o (yielded ops a.tmps)=true:=by rfl)(hy:∀w,S w->(execOp a.eval o).run P w=.ok (.value v) w:=by intro w' I;(try dsimp only at I);go_simp;try with_reducible rfl)(H:a.put o.dst v=d:=by simp only[Cs];rfl):FF P ops Q S T ((i,true):: r) a w:=Ek E z hy (H ▸ h)
def Bx{i:Nat}{o:Oper}{r:gh (Nat×Bool)}{a:Act}{w:ga}{T:Act->ga->Prop}(h:∀K:Act->ga->Prop,(∀a w,S w->(S w->FF P ops Q S T r a w)->K a w)->o.wp P a w K Q)(z:ops[i]?=some o:=by rfl)(d:Region.wanted o (yielded ops a.tmps)=true:=by rfl):FF P ops Q S T ((i,false):: r) a w:=Eb z d h
def C8{a:Act}{w:ga}{l d:gh Oper}{n:Nat}(h:wpList P l.toArray Q d a w)(z:l.drop n=d:=by simp only[Wy,Wx];rfl):FF P l.toArray Q S (λa w=>wpList P l.toArray Q (l.drop n) a w) [] a w:=by subst z;exact h
def Cc{id:Nat}{a:Act}{w:ga}{l:gh Oper}(S:ga->Prop)(n:Nat)(d:gh (Nat×Bool))(E:S w.drew)(h:FF P l.toArray Q S (λa w=>wpList P l.toArray Q (l.drop n) a w) d a w.drew)(z:P.follows .mixedOrders=true:=by kernel_rfl)(H:MJ l.toArray n d=true:=by kernel_rfl)(I:∀c a t v w,Q (.panic c) (Act.put a (some t) v) w->Q (.panic c) a w:=by exact λ_ _ _ _ _ h=>h):(Code.region id l.toArray true).wp P Q a w:=G0 S n d z H I E h
end
def NG(Q:Exit->Act->ga->Prop):Exit->Act->ga->Prop
 | .panic _,_,_=>False
 | e,a,w=>Q e a w
def CJ(Q:Exit->Act->ga->Prop)(a:Act)(w:ga):NG Q .normal a w=Q .normal a w:=rfl
def A4P{Q:Exit->Act->ga->Prop}{e:Exit}{a:Act}{w:ga}(h:NG Q e a w):Q e a w:=by
 cases e with
 | panic _=>exact h.elim
 | _=>exact h
def R9{P:Program}{Q:Exit->Act->ga->Prop}{id:Nat}{a:Act}{w:ga}{l:gh Oper}(S:ga->Prop)(n:Nat)(d:gh (Nat×Bool))(z:P.follows .mixedOrders=true)(H:MJ l.toArray n d=true)(E:S w.drew)(h:FF P l.toArray (NG Q) S (λa w=>wpList P l.toArray (NG Q) (l.drop n) a w) d a w.drew):(Code.region id l.toArray true).wp P Q a w:=
 Code.wp_mono (λ_ _ _ h=>A4P h) (G0 S n d z H (λ_ _ _ _ _ h=>h) E h)
section
variable{P:Program}{Q:Exit->Act->ga->Prop}
def Rt(y:Nat->gd)(i:Nat)(v:gd):Nat->Value:=λj=>if j=i then v else y j
def Gr(o:Oper):gh Nat:=(o.after.toList.filter (Region.binds .any)).map (·.on)
def Fi(G:Nat->gd->ga->Prop)(y:Nat->gd)(w:ga):gh Nat->Prop
 | []=>True
 | j::r=>G j (y j) w/\Fi G y w r
def Fi.of{G:Nat->gd->ga->Prop}{y:Nat->gd}{w:ga}:∀(l:gh Nat),(∀j∈l,G j (y j) w)->Fi G y w l
 | [],_=>trivial
 | j::r,h=>⟨h j (by simp),Fi.of r λk d=>h k (by simp[d])⟩
def X9(P:Program)(ops:Array Oper)(A:(Nat->gd)->Act)(S:ga->Prop)(R:ga->ga->Prop)(G:Nat->gd->ga->Prop)(Q:Exit->Act->ga->Prop)(i:Nat)(o:Oper):Prop:=
 (∀y w,S w->Fi G y w (Gr o)->Region.wanted o (yielded ops (A y).tmps)=true->∀K:Act->ga->Prop,(∀v a' w',G i v w'->a'=(A y).put o.dst v->R w w'->S w'->K a' w')->o.wp P (A y) w K Q)/\
 (∀y w,S w->Fi G y w (Gr o)->Region.wanted o (yielded ops (A y).tmps)=false->G i undef w)/\
 (∀y v,(A y).put o.dst v=A (Rt y i v))
def FY(P:Program)(ops:Array Oper)(A:(Nat->gd)->Act)(S:ga->Prop)(R:ga->ga->Prop)(G:Nat->gd->ga->Prop)(Q:Exit->Act->ga->Prop):Nat->gh Oper->Prop
 | _,[]=>True
 | i,o::r=>X9 P ops A S R G Q i o/\FY P ops A S R G Q (i+1) r
def FY.eA{ops:Array Oper}{A:(Nat->gd)->Act}{S:ga->Prop}{R:ga->ga->Prop}{G:Nat->gd->ga->Prop}:∀ {k:Nat} {l:gh Oper},FY P ops A S R G Q k l->∀(i:Nat) (o:Oper),l[i]?=some o->X9 P ops A S R G Q (k+i) o
 | _,[],_,i,o,h=>by simp at h
 | k,o'::r,hh,0,o,h=>by
  have:o'=o:=by simpa using h
  subst this;exact hh.1
 | k,o'::r,hh,i+1,o,h=>by
  have:=FY.eA hh.2 i o (by simpa using h)
  rwa [show k+1+i=k+(i+1) by omega]at this
def Gs(d:Array Bool):Nat->Nat
 | 0=>0
 | k+1=>Gs d k+(if d.getD k true then 0 else 1)
def VN(d:Array Bool)(i:Nat):∀n,n<=i->Gs (d.setIfInBounds i true) n=Gs d n
 | 0,_=>rfl
 | n+1,h=>by
  unfold Gs;rw[VN d i n (by omega),N7 true (by omega)]
def VL(d:Array Bool)(i:Nat)(H:d.getD i true=false):∀n,i<n->Gs d n=Gs (d.setIfInBounds i true) n+1
 | 0,h=>by omega
 | n+1,h=>by
  unfold Gs;by_cases z:i=n
  ·subst z;have I:i<d.size:=by
    rcases Fc i d.size with E | E
    ·exact E
    ·simp[Array.getElem?_eq_none E]at H
   rw[VN d i i (Ao _),H];simp[I]
  ·rw[VL d i H n (by omega),N7 true z];omega
def VJ(d:Array Bool):∀n,Gs d n=0->∀j,j<n->d.getD j true=true
 | 0,_,j,h=>by omega
 | n+1,h,j,hj=>by
  unfold Gs at h;rcases Fc j n with z | z
  ·exact VJ d n (by omega) j z
  ·(obtain rfl:j=n:=by omega);cases hg:d.getD j true with
   | true=>rfl
   | false=>rw[hg]at h;simp at h
def VM(d:Array Bool):∀n,Gs d n≠0->∃j,j<n/\d.getD j true=false
 | 0,h=>absurd rfl h
 | n+1,h=>by
  cases hg:d.getD n true with
  | false=>exact⟨n,by omega,hg⟩
  | true=>
   unfold Gs at h;rw[hg]at h;have⟨j,hj,h2⟩:=VM d n (by simpa using h);exact⟨j,by omega,h2⟩
def VK(m:Nat):∀n,n<=m->Gs (Array.replicate m false) n=n
 | 0,_=>rfl
 | n+1,h=>by
  unfold Gs;rw[VK m n (by omega)];have d:n<m:=by omega
  have:(Array.replicate m false).getD n true=false:=by simp[d]
  rw[this];simp
def Nc(ops:Array Oper)(n:Nat):Bool:=
 decide (n<ops.size)&&Region.sinkB .any ops n&&Region.chainB .any ops n &&
  ((List.range n).all λi=>((ops[i]?).map λo=>o.after.all λe=>!Region.binds .any e||decide (e.on<i)).getD false) &&
  Region.seqB .any ops (ops.size-n) n (List.replicate n true++List.replicate (ops.size-n) false).toArray
def ZM{ops:Array Oper}{n:Nat}{z:Array Bool}(I:HeadInv .any ops n z)(hn:n<ops.size)(d:((List.range n).all λi=>((ops[i]?).map λo=>o.after.all λe=>!Region.binds .any e||decide (e.on<i)).getD false)=true):
 ∀(i:Nat),i<n->z.getD i true=false->∃k,k∈Region.ready .any ops z:=by
 intro i
 induction i using Nat.strongRecOn with
 | _ i ih=>
  intro hi O;have E:ops[i]?=some (ops[i]'(by omega)):=A5n (by omega);obtain⟨o,E⟩:∃o,ops[i]?=some o:=⟨_,E⟩;by_cases hall:∀e∈o.after,Region.binds .any e=true->z.getD e.on false=true
  ·exact⟨i,IJ.2 ⟨O,o,E,hall⟩⟩
  ·simp only[Classical.not_forall]at hall;obtain⟨e,he,Y,H⟩:=hall;have L:=(NY.1 d) i (NN.2 hi);rw[E]at L;simp only[Ig,Option.getD_some,A5o]at L;have W:=L e he;rw[Y]at W;(have h3:e.on<i:=by simpa using W);refine ih e.on h3 (by omega) (getD_in (by rw[I.size];omega) ?_);cases h:z.getD e.on false with
   | true=>exact absurd h H
   | false=>rfl
def A2H{l:gh Oper}{n:Nat}{A:(Nat->gd)->Act}{S:ga->Prop}{R:ga->ga->Prop}{G:Nat->gd->ga->Prop}(hB:Nc l.toArray n=true)(aM:FY P l.toArray A S R G Q 0 (l.take n))(aK:∀j v w w',R w w'->S w'->G j v w->G j v w')(aH:∀y w,S w->(∀j,j<n->G j (y j) w)->wpList P l.toArray Q (l.drop n) (A y) w):
 ∀(f:Nat) (d:Array Bool) (y:Nat->gd) (w:ga),HeadInv .any l.toArray n d->Gs d n=f->S w->(∀j,j<n->d.getD j false=true->G j (y j) w)->
  wpAny P .any l.toArray Q (f+(l.toArray.size-n)) d (A y) w:=by
 simp only[Nc,Gg,E0]at hB;obtain⟨⟨⟨⟨hn,hs⟩,hc⟩,aB⟩,aG⟩:=hB;intro f
 induction f with
 | zero=>
  intro d y w z aA hS hG;have hall:=VJ d n aA;have aN:=z.size;have E:∀j,j<n->d.getD j false=true:=λj L=>by
   have O:=hall j L;(have h2:j<d.size:=by omega);simp[h2]at O ⊢;exact O
  have hL:d=(List.replicate n true++List.replicate (l.toArray.size-n) false).toArray:=by
   refine Array.ext (by (simp[aN];have:n<l.length:=by simpa using hn);omega) λi O h2=>?_;rcases Fc i n with h|h
   ·have:=E i h;simp[O]at this;simp[this,h]
   ·have:=z.tail i h (by omega);simp[O]at this;simp[this,List.getElem_append,Nat.not_lt.2 h]
  rw[GF];have aJ:(l.drop n).length=l.toArray.size-n:=by simp
  have:=Rb (P:=P) (md:=.any) (ops:=l.toArray) (Q':=Q) (l.drop n) n d (A y) w (λj=>by simp[List.getElem?_drop]) (by rw[aJ,hL];exact aG) (aH y w hS λj L=>hG j L (E j L))
  rwa [aJ]at this
 | succ f ih=>
  intro d y w z aA hS hG;have⟨i0,hi0,hun0⟩:=VM d n (by omega);have aE:f+1+(l.toArray.size-n)=(f+(l.toArray.size-n))+1:=by omega
  rw[aE];refine⟨λh0=>?_,λi hi=>?_⟩
  ·have⟨k,hk⟩:=ZM z hn aB i0 hi0 hun0;rw[h0]at hk;cases hk
  ·have W:i<n:=by
    rcases Fc i n with h|h
    ·exact h
    ·exact absurd hi (MC hs hc hn z _ i0 rfl hi0 hun0 i h)
   have⟨hun,o,ho,hall⟩:=IJ.1 hi;have aL:(l.take n)[i]?=some o:=by
    rw[List.getElem?_take_of_lt W];simpa using ho
   have O:=(NY.1 aB) i (NN.2 W);rw[ho]at O;simp only[Ig,Option.getD_some,A5o]at O;have ob:=aM.eA i o aL;rw[GF]at ob;have I:Fi G y w (Gr o):=by
    refine Fi.of _ λj L=>?_;unfold Gr at L;rw[CC]at L;obtain⟨e,he,rfl⟩:=L;rw[GX]at he;(have aI:e∈o.after:=by simpa using he.1);have h2:=O e aI;rw[he.2]at h2;(have h3:e.on<i:=by simpa using h2);exact hG e.on (by omega) (hall e aI he.2)
   have H:∀v w',S w'->(R w w'\/w'=w)->G i v w'->wpAny P .any l.toArray Q (f+(l.toArray.size-n)) (d.setIfInBounds i true) ((A y).put o.dst v) w':=by
    intro v w' Y hR aF;rw[ob.2.2 y v];refine ih _ _ _ (z.set hi W) (by have:=VL d i hun n W;omega) Y λj L hl=>?_;unfold Rt;by_cases aD:j=i
    ·subst aD;simpa using aF
    ·rw[Aa aD];rw[N7 false (QB aD)]at hl;rcases hR with hR|rfl
     ·exact aK j _ w w' hR Y (hG j L hl)
     ·exact hG j L hl
   unfold wpOp;simp only[ho];split
   ·rename_i hw;exact .inl (ob.1 y w hS I hw _ λv a' w' aF aO hR Y=>aO ▸ H v w' Y (.inl hR) aF)
   ·rename_i hw;exact H _ w hS (.inr rfl) (ob.2.1 y w hS I (by simpa using hw))
def Hx{id:Nat}{a:Act}{w:ga}{l:gh Oper}(n:Nat)(A:(Nat->gd)->Act)(O:Nat->gd)(S:ga->Prop)(R:ga->ga->Prop)(G:Nat->gd->ga->Prop)(Y:P.follows .mixedOrders=true)(L:Nc l.toArray n=true)(ha:a=A O)(hS:S w.drew)(E:∀j v w w',R w w'->S w'->G j v w->G j v w')(I:FY P l.toArray A S R G Q 0 (l.take n))(d:∀y w,S w->(∀j,j<n->G j (y j) w)->wpList P l.toArray Q (l.drop n) (A y) w):(Code.region id l.toArray true).wp P Q a w:=by
 have hn:n<l.toArray.size:=by
  simp only[Nc,Gg,E0]at L;exact L.1.1.1.1
 refine Ra Y ?_;have h:HeadInv .any l.toArray n (Array.replicate l.toArray.size false):=
  ⟨by simp,λj oj _ z=>(by rw[Kn]at z;cases z),λt _ W=>getD_in (by simpa using W) (Kn _ _)⟩
 have H:=A2H L I E d n _ O w.drew h (VK _ n (by omega)) hS (λj _ z=>by rw[Kn]at z;cases z);rw[show n+(l.toArray.size-n)=l.toArray.size by omega]at H;rw[ha];exact H
end
end
end Go.Proofs.YtodcnkbblippnaaGreatDoor
