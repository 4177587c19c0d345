/- Part 1 of a proof: walks of the program. -/
import Derived.Below
import Derived.Calls
import Derived.ChangeArms
import Derived.Conc.MuLone
import Derived.Deep.AppendSrc
import Derived.Deep.RegionHeld
import Derived.Defers
import Derived.FnData
import Derived.Laws.Append
import Derived.Laws.AppendOwn
import Derived.Laws.BitsLemmas
import Derived.Laws.Entries
import Derived.Laws.Externs
import Derived.Laws.IdiomStrings
import Derived.Laws.Rows
import Derived.Laws.Tables
import Derived.Laws.World
import Derived.Lib.Builder
import Derived.Lib.ItoaNum
import Derived.Lib.Strings
import Derived.LoopN
import Derived.OneCell
import Derived.Orders
import Derived.OwnWalk
import Derived.Still
import Derived.StillTail
import Derived.Tactics
import Derived.WideShapes
import Derived.Test.YtodcnkbblippnaaGreatDoorRows
import Derived.WalkKit
import Derived.WalkSpells
import Derived.WalkLawsBesides
import Derived.Deep.AppendLies
import Derived.RegionTactic
import Derived.Deep.RegionHeld3
import Derived.Deep.DrawnRows
import Derived.OrdersHeld
import Derived.Lib.AppendZeros
import Derived.Lib.Overlaps
import Derived.Lib.SliceRun
namespace Go.Proofs.YtodcnkbblippnaaGreatDoor
set_option maxRecDepth 100000
set_option maxHeartbeats 32000000
set_option linter.defProp false
open Go.Proofs.Tryz
section
open Go.RowKit
def Ae:=@if_neg
def Ai:=@if_pos
def Ao:=@Nat.le_refl
def AQ:=@Nat.le_trans
def AY:=@List.mem_append
def Ba:=@List.length_append
def Bf:=@Go.heap_alloc_new
def Bi:=@Nat.lt_of_lt_of_le
def By:=@Go.lt_of_block
def BI:=@List.length_take
def BQ:=@List.mem_cons_self
def BT:=@List.getElem_mem
def BW:=@List.mem_cons_of_mem
def BX:=@List.mem_cons
def C3:=@if_false
def C8:=@List.append_assoc
def Cc:=@List.take_length
def Ce:=@Nat.zero_le
def Ci:=@if_true
def Cl:=@List.length_drop
def Cp:=@Go.World.ownsRow_nil
def Cq:=@List.length_cons
def Ct:=@decide_eq_true
def Cu:=@decide_eq_false
def CD:=@List.mem_map
def CQ:=@Go.RowKit.Below.heap_alloc
def Db:=@List.drop_zero
def Dn:=@List.pairwise_cons
def Du:=@List.drop_succ_cons
def Dy:=@Go.World.cell?_of_block
def DG:=@Go.info_parts
def DL:=@List.take_succ_eq_append_getElem
def DO:=@decide_eq_true_eq
def DQ:=@List.getElem?_eq_getElem
def E0:=@List.take_append_drop
def Ec:=@List.take_of_length_le
def Ed:=@List.mem_map_of_mem
def Ep:=@List.getElem_of_mem
def Eu:=@congrArg
def Ew:=@List.pairwise_append
def EF:=@List.append_nil
def EG:=@Int.toNat_natCast
def EU:=@List.nil_append
def EV:=@List.map_append
def F9:=@Nat.lt_or_ge
def Fa:=@Nat.le_succ
def Fb:=@Nat.le_of_lt
def Fe:=@List.take_zero
def Ff:=@Int.ofNat_lt
def Fg:=@Go.RowKit.Below.heap_setCell
def Fh:=@Go.rounds_succ
def Fk:=@of_decide_eq_true
def Fs:=@List.take_succ_cons
def FJ:=@List.mem_append_left
def FK:=@List.getElem_append_left
def FL:=@List.cons_append
def FV:=@List.getElem_append_right
def FW:=@List.drop_eq_getElem_cons
def FZ:=@Bool.and_eq_true
def Gd:=@List.filter_cons
def Ge:=@Int.natCast_nonneg
def Gy:=@Go.World.cell?_setCell_other
def Gz:=@Go.World.block_lt_of_cell?
def GB:=@Nat.lt_irrefl
def GM:=@Nat.zero_add
def GN:=@List.drop_length
def H0:=@List.take_append_of_le_length
def H3:=@List.mem_of_mem_take
def Hf:=@List.nodup_append
def Hg:=@List.mem_filter
def Hh:=@List.mem_append_right
def Hi:=@List.length_set
def Hj:=@List.length_eq_zero_iff
def Hk:=@List.cons.inj
def Hu:=@beq_eq_false_iff_ne
def Hy:=@Nat.mul_le_mul_right
def Hz:=@Nat.add_mul
def HC:=@List.map_cons
def HD:=@List.length_map
def HE:=@List.getElem?_eq_some_iff
def HF:=@List.getElem?_append_right
def HG:=@List.filter_sublist
def HL:=@Go.MuLone.unlock_deferred
def HM:=@Go.MuLone.lock_free
def HN:=@Go.leaves_cons
def HR:=@and_true
def HV:=@Option.some.inj
def HW:=@Option.map_some
def HY:=@List.getElem?_drop
def HZ:=@List.getD_eq_getElem?_getD
def I0:=@List.drop_of_length_le
def I1:=@Int.le_refl
def I5:=@Go.wp_loop_rounds
def I9:=@Go.run_underlying
def Ij:=@Go.mem_ready
def Iw:=@Go.Src.ofSlice
def IA:=@Nat.le_of_not_lt
def IB:=@List.set_append_right
def IC:=@List.length_pos_iff
def ID:=@List.length_nil
def IE:=@List.getElem?_append_left
def IF:=@Go.DataW.trod_int
def IG:=@Array.getElem?_push_size
def IL:=@Go.results_none
def Jb:=@Go.bodyPost_ret
def Jd:=@Nat.min_eq_left
def Je:=@List.take_left
def Jf:=@List.mem_singleton
def Jg:=@List.filter_cons_of_pos
def Jh:=@List.cons_lt_cons_iff
def Jj:=@Go.IntKind.wrap_i64
def Jk:=@Int.add_sub_cancel
def Jl:=@Bool.true_and
def Jv:=@Go.setRow_other
def Jx:=@Go.results_tmp
def JH:=@ne_eq
def JK:=@Go.getD_replicate_false
def JW:=@Nat.pow_succ
def JX:=@Nat.not_lt_zero
def JY:=@Nat.le_succ_of_le
def JZ:=@Nat.add_lt_add_left
def K0:=@List.take_take
def K1:=@List.mem_of_mem_drop
def K2:=@List.getLastD_eq_getLast?
def K3:=@List.getElem_cons_zero
def K4:=@Go.Lib.toList_data
def K9:=@Go.wp_region_still_tail
def Ka:=@Go.wpStill_nil
def Kb:=@Go.wpOp_mono
def Kh:=@Go.setRow_heap
def Kn:=@Go.ready_mono
def KP:=@decide_eq_decide
def KY:=@Go.World.drew_eq
def L6:=@Nat.mul_comm
def L7:=@Nat.le_antisymm
def L8:=@Nat.add_le_add_left
def L9:=@Nat.add_assoc
def La:=@List.size_toArray
def Lb:=@List.pairwise_iff_getElem
def Lc:=@List.mem_range
def Ld:=@List.mem_of_getElem?
def Le:=@List.mem_filterMap
def Lf:=@List.lt_irrefl
def Lg:=@List.getElem?_eq_none
def Lh:=@List.filter_cons_of_neg
def Li:=@List.filter_append
def Lj:=@List.eq_nil_or_concat
def Lk:=@List.drop_append_of_le_length
def Ll:=@List.drop_append
def Ln:=@Int.lt_or_le
def Lo:=@Int.le_trans
def Lp:=@Int.eq_ofNat_of_zero_le
def Lq:=@Array.length_toList
def Ly:=@Go.tail_waits
def Mi:=@Go.getD_set_ne
def Mn:=@eq_false
def MH:=@Go.World.size_alloc
def MI:=@Go.World.cell?_alloc_some
def MK:=@Go.Src.ofString
def MN:=@Nat.zero_lt_one
def MO:=@Nat.succ_mul
def MP:=@Nat.sub_self
def MQ:=@Nat.lt_of_lt_of_eq
def MS:=@List.pairwise_singleton
def MT:=@List.nodup_cons
def MU:=@List.map_congr_left
def MV:=@List.length_filter_le
def MW:=@List.getElem_cons_succ
def MX:=@List.getElem?_take
def MY:=@List.foldl_append
def MZ:=@List.flatMap_cons
def N0:=@List.eq_nil_of_length_eq_zero
def N1:=@List.drop_eq_nil_of_le
def N2:=@List.dropLast_concat_getLast
def N3:=@List.all_eq_true
def N5:=@Int.zero_add
def N6:=@Int.lt_irrefl
def N7:=@Int.emod_nonneg
def N8:=@Bool.eq_iff_iff
def N9:=@Go.RowKit.Below.refl
def Na:=@Array.getElem?_eq_none
def Ny:=@Go.run_convert_bytes_back
def NU:=@Go.ownsRow_setCell_other
def O5:=@not_false_eq_true
def OO:=@dif_pos
def OP:=@dif_neg
def OQ:=@decide_true
def Pf:=@Prod.mk.inj
def Pg:=@Option.ne_none_iff_exists'
def Ph:=@Ne.symm
def Pj:=@Nat.mul_assoc
def Pk:=@Nat.lt_of_le_of_lt
def Pm:=@Nat.le_of_lt_succ
def Pn:=@Nat.add_zero
def Po:=@List.takeWhile_cons
def Pp:=@List.set_cons_succ
def Pq:=@List.getElem?_map
def Pr:=@List.foldl_cons
def Ps:=@Go.Lib.nDigits_small
def Pv:=@Go.Lib.cell_of_heap
def Px:=@Int.toNat_of_nonneg
def Py:=@Int.ofNat_le
def Pz:=@Int.not_lt
def PA:=@Int.neg_tmod
def PC:=@Iff.rfl
def PE:=@Decidable.em
def PF:=@Decidable.byContradiction
def PG:=@Bool.false_eq_true
def PK:=@Array.toList_append
def PM:=@Array.getElem?_eq_some_iff
def PQ:=@Go.wp_region_any
def PR:=@Go.wpAny_of_seq
def QC:=@Go.seqB_ready
def QL:=@Go.run_firstCells_some
def Sc:=@ne_of_beq_false
def TS:=@Go.bodyPost_end
def TU:=@beq_self_eq_true
def Ui:=@Go.World.var?_cell
def Uk:=@Go.Region.noSelect_spec
def Ul:=@Go.Region.free_spec
def Ut:=@Go.Oper.upon_value
def Uw:=@Nat.xor_lt_two_pow
def Ux:=@Nat.one_mul
def Uy:=@Nat.not_lt
def Uz:=@Nat.mul_one
def UA:=@Nat.mul_le_mul
def UB:=@Nat.min_def
def UC:=@Nat.lt_succ_self
def UD:=@Nat.le_add_right
def UE:=@List.set_cons_zero
def UF:=@List.replicate_succ
def UG:=@List.mem_flatten
def UH:=@List.map_map
def UI:=@List.length_singleton
def UJ:=@List.length_dropLast
def UK:=@List.getElem_take
def UL:=@List.filter_filter
def UM:=@List.filter_eq_nil_iff
def UN:=@List.drop_left'
def UO:=@List.drop_left
def UP:=@List.dropLast_subset
def UQ:=@List.concat_eq_append
def UR:=@List.append_cancel_left
def US:=@List.Nodup.sublist
def UT:=@Go.Lib.nDigits_big
def UU:=@Go.Lib.decDigits_length
def UW:=@Int.tmod_lt_of_pos
def UX:=@Int.mul_le_mul_of_nonneg_left
def UY:=@Int.emod_lt_of_pos
def V3:=@Bool.false_and
def V4:=@Array.setIfInBounds_comm
def V5:=@Array.getElem?_setIfInBounds_ne
def Xs:=@Go.run_callFunc_extern
def A1G:=@decide_eq_false_iff_not
def A3p:=@Go.World.cell?_setCell_far
def A3q:=@Go.WideShapes.bytes_inj
def A3r:=@Option.map_eq_some_iff
def A3t:=@Nat.succ_le_succ
def A3u:=@Nat.pow_le_pow_right
def A3v:=@Nat.lt_trichotomy
def A3w:=@Nat.lt_succ_of_lt
def A3x:=@Nat.lt_of_succ_lt_succ
def A3y:=@Nat.le_of_succ_le
def A3z:=@Nat.eq_zero_or_pos
def A3A:=@Nat.div_le_div_right
def A3B:=@Nat.add_sub_cancel_left
def A3C:=@Nat.add_sub_cancel
def A3D:=@List.sublist_flatten_of_mem
def A3E:=@List.set_eq_take_append_cons_drop
def A3F:=@List.setIfInBounds_toArray
def A3G:=@List.pairwise_map
def A3H:=@List.not_mem_nil
def A3I:=@List.mem_iff_getElem
def A3J:=@List.mem_erase_of_ne
def A3K:=@List.length_range
def A3L:=@List.length_pos_of_mem
def A3M:=@List.length_erase_of_mem
def A3N:=@List.length_eq_one_iff
def A3O:=@List.getLast?_eq_some_getLast
def A3P:=@List.getElem_set_ne
def A3Q:=@List.getElem?_cons_succ
def A3R:=@List.flatten_cons
def A3S:=@List.flatMap_append
def A3T:=@List.any_eq_true
def A3U:=@List.Pairwise.sublist
def A3W:=@Int.tmod_eq_emod_of_nonneg
def A3X:=@Int.mul_tdiv_add_tmod
def A3Y:=@Classical.byContradiction
def A3Z:=@ByteArray.data_extract
def A30:=@Array.getElem?_eq_getElem
def A31:=@Array.ext_getElem?
def A32:=@Array.all_eq_true_iff_forall_mem
abbrev A6(b:Nat):Value:=.pointer (some ⟨b,0,none⟩)
abbrev A9(b o:Nat):Addr:=⟨b,o,none⟩
abbrev A8(w:World)(b o:Nat)(v:Value):Prop:=w.cell? ⟨b,o,none⟩=some v
abbrev A0(n:Int):Value:=.int .i64 n
abbrev AB(b n c:Nat):Value:=.slice (some ⟨b,0,none⟩) n c
abbrev Aa:Nat->Prop:=λ_=>False
abbrev Ag:=Calls Tryz.prog
abbrev Aj(v:Value)(Q:World->Prop)(e:Ending)(w:World):Prop:=e=.returned v/\Q w
abbrev _root_.Go.World.aC(w:World)(x:Array Value)(t:TypeId):World:=w.alloc (.cells x t)
abbrev _root_.Go.World.sC(w:World)(b o:Nat)(v:Value):World:=w.setCell ⟨b,o,none⟩ v
abbrev _root_.Go.Value.oB(v:Value)(b:Nat):Prop:=v.ownBlock=some b
def _root_.Go.RowKit.Hid.o{p:Prop}(h:Hid p):p:=h
def _root_.Go.RowKit.Hid.m{P:Program}{f:FuncId}{a:Array Value}{w:World}{R Q:Ending->World->Prop}(h:Hid (Calls P f a w R))(k:∀e w',R e w'->Q e w'):Calls P f a w Q:=Calls.mono h k
def BR(k:Nat):(0:Int)<=(k:Int):=Ge _
def CP{w:World}{b o:Nat}{x:Array Value}{t:TypeId}{f:Nat×Nat}{v:Value}(h:w.heap[b]?=some (.cells x t f))(k:x[o]?=some v:=by rfl):A8 w b o v:=by
 show w.cell? ⟨b,o,none⟩=some v;simp only[World.cell?,h];exact k
def Bb:List Nat->List Nat->List (Nat×Bool)
 | [],_=>[]
 | i::r,x=>(i,!x.elem i):: Bb r x
def Ak:(∀(a:Act) (v:Value) (d:Tmp),a.put (some d) v=⟨a.tmps.setIfInBounds d v,a.defers⟩)/\(∀(a:Act) (v:Value),a.put none v=a)/\(∀ {α:Type} {l:List α} {i:Nat} {a:α},l.toArray.setIfInBounds i a=(l.set i a).toArray)/\(∀ {α:Type} {x a:α} {xs:List α},(x::xs).set 0 a=a::xs)/\
 (∀ {α:Type} {x a:α} {xs:List α} {n:Nat},(x::xs).set (n+1) a=x::xs.set n a)/\(∀ {α:Type} {l:List α} {i:Nat} (h:i<l.toArray.size),l.toArray[i]=l[i]'(by simpa using h))/\(∀ {α:Type} {a:α} {l:List α} (h:0<(a::l).length),(a::l)[0]=a)/\
 (∀ {α:Type} {a:α} {l:List α} {i:Nat} (h:i+1<(a::l).length),(a::l)[i+1]=l[i]'(A3x h)):=
 ⟨λ_ _ _=>rfl,λ_ _=>rfl,A3F _ _ _,rfl,rfl,λ_=>rfl,λ_=>rfl,λ_=>rfl⟩
structure A4 (S:Nat->Prop) (w w':World):Prop where
 os:w'.os=w.os
 DC:w'.tape=w.tape
 DE:w'.output=w.output
 Al:w.heap.size<=w'.heap.size
 Am:∀k,k<w.heap.size->¬S k->w'.heap[k]?=w.heap[k]?
def A4.C(S:Nat->Prop)(w:World):A4 S w w:=⟨rfl,rfl,rfl,Ao _,λ_ _ _=>rfl⟩
def A4.Au{S S':Nat->Prop}{a b c:World}(h:A4 S a b)(k:A4 S' b c)(E:∀x,S' x->x<a.heap.size->S x):A4 S a c:=
 ⟨k.os.trans h.os,k.DC.trans h.DC,k.DE.trans h.DE,AQ h.Al k.Al,λi d z=>
  (k.Am i (Bi d h.Al) (λI=>z (E i I d))).trans (h.Am i d z)⟩
def A4.ad{S S':Nat->Prop}{a b:World}(h:A4 S a b)(z:∀x,x<a.heap.size->S x->S' x):A4 S' a b:=
 ⟨h.os,h.DC,h.DE,h.Al,λk d I=>h.Am k d (λE=>I (z k d E))⟩
def A4.aa{S:Nat->Prop}{a w:World}(h:A4 S a w):A4 S a w.drew:=⟨h.os,h.DC,h.DE,h.Al,h.Am⟩
def A4.aX{S:Nat->Prop}{a w:World}(h:A4 S a w)(n:Nat):A4 S a (w.drewN n):=⟨h.os,h.DC,h.DE,h.Al,h.Am⟩
def A4.ah{S:Nat->Prop}{a w:World}(h:A4 S a w)(o:Obj):A4 S a (w.alloc o):=
 ⟨h.os,h.DC,h.DE,by have:=h.Al;simp;omega,λk d z=>(CQ _ _ _ (Bi d h.Al)).trans (h.Am k d z)⟩
def A4.tr{S:Nat->Prop}{a b c:World}(h:A4 S a b)(k:A4 S b c):A4 S a c:=h.Au k λ_ h _=>h
def A4.aC{S:Nat->Prop}{a w:World}(h:A4 S a w)(x:Array Value)(t:TypeId):A4 S a (w.alloc (.cells x t)):=h.ah _
def A4.a1{S:Nat->Prop}{a w:World}(h:A4 S a w){p:Addr}(E:p.block<a.heap.size->S p.block)(u:Value):A4 S a (w.setCell p u):=
 ⟨h.os,h.DC,h.DE,by simpa using h.Al,λk d z=>(Fg _ _ _ _ (λe=>by subst e;exact z (E d))).trans (h.Am k d z)⟩
def A4.C4{S:Nat->Prop}{a w w':World}{row:Option Nat}(h:A4 S a w)(d:w.grownBy w' row)(I:∀k,row=some k->k<a.heap.size->S k):A4 S a w':=
 ⟨d.os.trans h.os,d.tape.trans h.DC,d.output.trans h.DE,AQ h.Al d.size,λk z E=>
  (d.block k (Bi z h.Al) (λe=>E (I k e.symm z))).trans (h.Am k z E)⟩
def A4.cp{S:Nat->Prop}{a b:World}{B:Nat}(h:A4 S a b)(z:B<=a.heap.size)(E:∀k,k<B->¬S k):Below B a b:=
 ⟨h.os,h.DC,h.DE,h.Al,λk d=>h.Am k (Bi d z) (E k d)⟩
def A4.ai{S:Nat->Prop}{a b:World}(h:A4 S a b){k:Nat}{o:Obj}(d:a.heap[k]?=some o)(z:¬S k):b.heap[k]?=some o:=
 (h.Am k (By d) z).trans d
def One(b:Nat):Nat->Prop:=λk=>k=b
def A4.aj{S:Nat->Prop}{a w:World}(h:A4 S a w){b:Nat}(d:S b)(o:Nat)(u:Value):A4 S a (w.setCell (A9 b o) u):=h.a1 (p:=(A9 b o)) (λ_=>d) u
def A1{p:Prop}(h:p):Hid p:=h
def Gc(S:Nat->Prop)(w w':World):Prop:=∀k,S k->w'.heap[k]?=w.heap[k]?
def Gc.ad{S S':Nat->Prop}{w w':World}(h:Gc S w w')(z:∀k,S' k->S k):Gc S' w w':=λk d=>h k (z k d)
def A4.au{S T:Nat->Prop}{w w':World}(h:A4 S w w')(E:∀k,T k->k<w.heap.size)(z:∀k,T k->¬S k):Gc T w w':=λk d=>h.Am k (E k d) (z k d)
def Aw{w w':World}{d e size n:Nat}{v:Value}{xs:List Value}(h:w.ownsRow d e size v n xs)(O:∀g,v.ownBlock=some g->w'.heap[g]?=w.heap[g]?):w'.ownsRow d e size v n xs:=by
 refine⟨h.1,?_⟩;rcases h.2 with E|⟨g,cap,z,rfl,L,I,r⟩
 ·exact .inl E
 ·exact .inr ⟨g,cap,z,rfl,L,by rw[O g rfl];exact I,r⟩
def Ay{w:World}{d e size n:Nat}{v:Value}{xs:List Value}(h:w.ownsRow d e size v n xs){g:Nat}(z:v.ownBlock=some g):g<w.heap.size:=(h.lt g z).2
def B7{w:World}{z e size n:Nat}{v:Value}{xs:List Value}(h:w.ownsRow z e size v n xs){g:Nat}(E:v.ownBlock=some g):∃d,w.heap[g]?=some (.cells d e (0,0)):=by
 rcases h.2 with⟨rfl,_⟩|⟨g',cap,d,rfl,_,I,_⟩
 ·simp[Value.ownBlock]at E
 ·simp[Value.ownBlock]at E;subst E;exact⟨d,I⟩
def BD{w:World}{d e size n:Nat}{v:Value}{xs:List Value}(h:w.ownsRow d e size v n xs){g:Nat}(z:v.ownBlock=some g){j:Nat}{u:Value}(hu:xs[j]?=some u):A8 w g j u:=by
 have:=h.cells z j u hu;unfold Addr.add at this;split at this
 ·rename_i E;rw[E];exact this
 ·simpa using this
def Ez{w:World}{d e size n:Nat}{v:Value}{xs:List Value}(h:w.ownsRow d e size v n xs){g:Nat}(E:v.ownBlock=some g)(j:Nat):w.frozen? (A9 g j)=false:=by
 obtain⟨cur,z⟩:=B7 h E;simp[World.frozen?,z]
def Bk{w:World}{d e size n:Nat}{v:Value}{xs:List Value}(h:w.ownsRow d e size v n xs):
 ∃a cap,v=.slice a n cap/\n<=cap/\cap<=maxLen/\(0<n->∃g,a=some (A9 g 0))/\(a=none->n=0/\cap=0)/\(∀x,a=some x->∃g,x=(A9 g 0)):=by
 rcases h.2 with⟨rfl,I⟩|⟨g,cap,cur,rfl,_,hg,z,L,hs,_⟩
 ·exact⟨none,0,by rw[I],by omega,by decide,by omega,λ_=>⟨I,rfl⟩,λx E=>by cases E⟩
 ·exact⟨_,cap,rfl,z,L,λ_=>⟨g,rfl⟩,by simp,λx E=>⟨g,by cases E;rfl⟩⟩
def NV{w:World}{d e size n cap:Nat}{a:Option Addr}{xs:List Value}(h:w.ownsRow d e size (.slice a n cap) n xs){m:Nat}(hm:m<=n):w.ownsRow d e size (.slice a m cap) m (xs.take (m*size)):=by
 have L:m*size<=n*size:=Hy _ hm;refine⟨by rw[BI,h.1];omega,?_⟩;rcases h.2 with⟨z,O⟩|⟨g,cap',I,z,X,Y,hcap,E,hs,W⟩
 ·subst O;cases z;obtain rfl:m=0:=by omega
  exact .inl ⟨rfl,rfl⟩
 ·cases z;exact .inr ⟨g,cap,I,rfl,X,Y,by omega,E,hs,by rw[<-W,K0,Jd L]⟩
def P6(a b:ByteArray):(a.toList==b.toList)=true↔a=b:=by
 rw[beq_iff_eq,K4,K4];exact⟨λh=>A3q h,λh=>by rw[h]⟩
def TP(a b:ByteArray):(a.toList==b.toList)=false↔a≠b:=by
 have:=P6 a b;constructor
 ·intro h e;rw[this.2 e]at h;cases h
 ·intro h;cases hx:(a.toList==b.toList) with
  | false=>rfl
  | true=>exact absurd (this.1 hx) h
abbrev AN:=ByteArray×Nat
def BU:List AN->List Value
 | []=>[]
 | (n,f):: r=>.string n::(A6 f):: BU r
def A1v(es:List AN):(BU es).length=es.length*2:=by
 induction es with
 | nil=>rfl
 | cons e r ih=>obtain⟨n,f⟩:=e;simp only[BU,Cq,ih];omega
def KN(a b:List AN):BU (a++b)=BU a++BU b:=by
 induction a with
 | nil=>rfl
 | cons e r ih=>obtain⟨n,f⟩:=e;simp[BU,ih]
def A1u(es:List AN)(k:Nat):(BU es).take (k*2)=BU (es.take k):=by
 induction es generalizing k with
 | nil=>simp[BU]
 | cons e r ih=>
  obtain⟨n,f⟩:=e
  match k with
  | 0=>simp[BU]
  | k+1=>rw[show (k+1)*2=k*2+1+1 from by omega];simp[BU,ih]
def A1w(es:List AN)(k:Nat):(BU es).drop (k*2)=BU (es.drop k):=by
 induction es generalizing k with
 | nil=>simp[BU]
 | cons e r ih=>
  obtain⟨n,f⟩:=e
  match k with
  | 0=>simp[BU]
  | k+1=>rw[show (k+1)*2=k*2+1+1 from by omega];simp[BU,ih]
def OH(es:List AN)(k:Nat)(h:k<es.length):(BU es)[k*2]?=some (.string (es[k]'h).1):=by
 induction es generalizing k with
 | nil=>simp at h
 | cons e r ih=>
  obtain⟨n,f⟩:=e
  match k with
  | 0=>simp[BU]
  | k+1=>
   have:=ih k (by simpa using h);rw[show (k+1)*2=k*2+1+1 from by omega];simpa[BU] using this
def OF(es:List AN)(k:Nat)(h:k<es.length):(BU es)[k*2+1]?=some (A6 ((es[k]'h).2)):=by
 induction es generalizing k with
 | nil=>simp at h
 | cons e r ih=>
  obtain⟨n,f⟩:=e
  match k with
  | 0=>simp[BU]
  | k+1=>
   have:=ih k (by simpa using h);rw[show (k+1)*2+1=k*2+1+1+1 from by omega];simpa[BU] using this
def OG(es:List AN):∀u∈BU es,u.oneCell'=true:=by
 induction es with
 | nil=>simp[BU]
 | cons e r ih=>
  obtain⟨n,f⟩:=e;intro u hu;simp only[BU,BX]at hu;rcases hu with rfl|rfl|hu
  ·rfl
  ·rfl
  ·exact ih u hu
def D4(w:World)(v:Value)(es:List AN):Prop:=w.ownsRow 0 125 2 v es.length (BU es)
def D4.BP{w:World}{v:Value}{es:List AN}(h:D4 w v es):
 ∃a cap,v=.slice a es.length cap/\es.length<=cap/\cap<=maxLen/\∀k (d:k<es.length),∃g,a=some (A9 g 0)/\A8 w g (k*2) (.string (es[k]'d).1)/\A8 w g (k*2+1) (A6 ((es[k]'d).2)):=by
 rcases Bk h with⟨a,cap,rfl,E,z,I,_,_⟩;refine⟨a,cap,rfl,E,z,λk d=>?_⟩;obtain⟨g,rfl⟩:=I (by omega);exact⟨g,rfl,BD h rfl (OH es k d),BD h rfl (OF es k d)⟩
def B6:List AN->ByteArray->Int
 | [],_=>-1
 | e::r,name=>if e.1=name then 0 else if B6 r name<0 then -1 else B6 r name+1
def A1e(es:List AN)(name:ByteArray)(k:Nat)(z:k<es.length)(h:(es[k]'z).1=name)(d:∀m (I:m<k),(es[m]'(by omega)).1≠name):B6 es name=k:=by
 induction es generalizing k with
 | nil=>simp at z
 | cons e r ih=>
  match k with
  | 0=>simp only[K3]at h;simp[B6,h]
  | k+1=>
   have E:=d 0 (by omega);simp only[K3]at E;have:=ih k (by simpa using z) (by simpa using h) (λm I=>by simpa using d (m+1) (by omega));simp only[B6,E,C3,this];rw[Ae (by omega)];omega
def A1c(es:List AN)(name:ByteArray)(d:∀m (h:m<es.length),(es[m]'h).1≠name):B6 es name = -1:=by
 induction es with
 | nil=>rfl
 | cons e r ih=>
  have z:=d 0 (by simp);simp only[K3]at z;have:=ih (λm h=>by have:=d (m+1) (by simp;omega);simpa using this);simp[B6,z,this]
def Tk(es:List AN)(name:ByteArray): -1<=B6 es name/\B6 es name<es.length:=by
 induction es with
 | nil=>simp[B6]
 | cons e r ih=>
  simp only[B6,Cq];split
  ·omega
  ·split<;>omega
def OE(es:List AN)(name:ByteArray):(B6 es name = -1/\∀e∈es,e.1≠name)\/∃k,∃d:k<es.length,B6 es name=(k:Int)/\(es[k]'d).1=name:=by
 induction es with
 | nil=>exact .inl ⟨rfl,by simp⟩
 | cons e r ih=>
  by_cases h:e.1=name
  ·exact .inr ⟨0,by simp,by simp[B6,h],by simpa using h⟩
  ·rcases ih with⟨E,z⟩|⟨k,d,E,z⟩
   ·exact .inl ⟨by simp[B6,h,E],λx I=>by rcases BX.1 I with rfl|I;exact h;exact z x I⟩
   ·exact .inr ⟨k+1,by simpa using d,by simp only[B6,h,C3,E];rw[Ae (by omega)];omega,by simpa using z⟩
structure DN where
 AA:Int
 B8:Int
 CN:Int
 DJ:Int
 BC:Int
 Bj:Int
 fulls:Int
 Bh:Bool
def GU(vd vs vc:Value)(n:DN):Array Value:=
 #[vd,vs,vc,A0 n.AA,A0 n.B8,A0 n.CN,A0 n.DJ,A0 n.BC,A0 n.Bj,A0 n.fulls,.bool n.Bh]
def AL(w:World)(b:Nat)(vd vs vc:Value)(n:DN):Prop:=w.heap[b]?=some (.cells (GU vd vs vc n) 95 (0,0))
section
variable {w:World} {b:Nat} {vd vs vc:Value} {n:DN}
def AL.c0(h:AL w b vd vs vc n):A8 w b 0 vd:=by unfold AL at h;simp[A8,World.cell?,h,GU]
def AL.c1(h:AL w b vd vs vc n):A8 w b 1 vs:=by unfold AL at h;simp[A8,World.cell?,h,GU]
def AL.c2(h:AL w b vd vs vc n):A8 w b 2 vc:=by unfold AL at h;simp[A8,World.cell?,h,GU]
def AL.c3(h:AL w b vd vs vc n):A8 w b 3 (A0 n.AA):=by unfold AL at h;simp[A8,World.cell?,h,GU]
def AL.c4(h:AL w b vd vs vc n):A8 w b 4 (A0 n.B8):=by unfold AL at h;simp[A8,World.cell?,h,GU]
def AL.c5(h:AL w b vd vs vc n):A8 w b 5 (A0 n.CN):=by unfold AL at h;simp[A8,World.cell?,h,GU]
def AL.c6(h:AL w b vd vs vc n):A8 w b 6 (A0 n.DJ):=by unfold AL at h;simp[A8,World.cell?,h,GU]
def AL.c7(h:AL w b vd vs vc n):A8 w b 7 (A0 n.BC):=by unfold AL at h;simp[A8,World.cell?,h,GU]
def AL.c8(h:AL w b vd vs vc n):A8 w b 8 (A0 n.Bj):=by unfold AL at h;simp[A8,World.cell?,h,GU]
def AL.c9(h:AL w b vd vs vc n):A8 w b 9 (A0 n.fulls):=by unfold AL at h;simp[A8,World.cell?,h,GU]
def AL.bk(h:AL w b vd vs vc n):A8 w b 10 (.bool n.Bh):=by unfold AL at h;simp[A8,World.cell?,h,GU]
def AL.fz(h:AL w b vd vs vc n)(o:Nat):w.frozen? (A9 b o)=false:=by unfold AL at h;simp[World.frozen?,h]
def AL.lt(h:AL w b vd vs vc n):b<w.heap.size:=By h
def BL{w:World}{b:Nat}{c:Array Value}{e:Nat}{o:Nat}{v:Value}(h:w.heap[b]?=some (.cells c e (0,0))):(w.setCell (A9 b o) v).heap[b]?=some (.cells (c.setIfInBounds o v) e (0,0)):=by
 simp[World.setCell,Array.getElem?_modify,h]
def AL.au{w':World}(h:AL w b vd vs vc n)(d:w'.heap[b]?=w.heap[b]?):AL w' b vd vs vc n:=d.trans h
def AL.ah(h:AL w b vd vs vc n)(o:Obj):AL (w.alloc o) b vd vs vc n:=h.au (CQ _ _ _ h.lt)
def AL.C4{w':World}{row:Option Nat}(h:AL w b vd vs vc n)(z:w.grownBy w' row)(d:row≠some b):AL w' b vd vs vc n:=h.au (z.block b h.lt (λe=>d e.symm))
def AL.An{S:Nat->Prop}{w':World}(h:AL w b vd vs vc n)(z:A4 S w w')(d:¬S b):AL w' b vd vs vc n:=h.au (z.Am b h.lt d)
def AL.s0(h:AL w b vd vs vc n)(v:Value):AL (w.setCell (A9 b 0) v) b v vs vc n:=BL h
def AL.s1(h:AL w b vd vs vc n)(v:Value):AL (w.setCell (A9 b 1) v) b vd v vc n:=BL h
def AL.s2(h:AL w b vd vs vc n)(v:Value):AL (w.setCell (A9 b 2) v) b vd vs v n:=BL h
def AL.s4(h:AL w b vd vs vc n)(x:Int):AL (w.setCell (A9 b 4) (A0 x)) b vd vs vc {n with B8:=x}:=BL h
def AL.s5(h:AL w b vd vs vc n)(x:Int):AL (w.setCell (A9 b 5) (A0 x)) b vd vs vc {n with CN:=x}:=BL h
def AL.s6(h:AL w b vd vs vc n)(x:Int):AL (w.setCell (A9 b 6) (A0 x)) b vd vs vc {n with DJ:=x}:=BL h
def AL.s7(h:AL w b vd vs vc n)(x:Int):AL (w.setCell (A9 b 7) (A0 x)) b vd vs vc {n with BC:=x}:=BL h
def AL.s8(h:AL w b vd vs vc n)(x:Int):AL (w.setCell (A9 b 8) (A0 x)) b vd vs vc {n with Bj:=x}:=BL h
def AL.s9(h:AL w b vd vs vc n)(x:Int):AL (w.setCell (A9 b 9) (A0 x)) b vd vs vc {n with fulls:=x}:=BL h
def AL.cb(h:AL w b vd vs vc n)(x:Bool):AL (w.setCell (A9 b 10) (.bool x)) b vd vs vc {n with Bh:=x}:=BL h
end
def CY(w:World)(f:Nat)(vb:Value)(Ad:Int):Prop:=w.heap[f]?=some (.cells #[vb,A0 Ad] 129 (0,0))
section
variable {w:World} {f:Nat} {vb:Value} {Ad:Int}
def CY.c0(h:CY w f vb Ad):A8 w f 0 vb:=by unfold CY at h;simp[A8,World.cell?,h]
def CY.c1(h:CY w f vb Ad):A8 w f 1 (A0 Ad):=by unfold CY at h;simp[A8,World.cell?,h]
def CY.fz(h:CY w f vb Ad)(o:Nat):w.frozen? (A9 f o)=false:=by unfold CY at h;simp[World.frozen?,h]
def CY.s0(h:CY w f vb Ad)(v:Value):CY (w.setCell (A9 f 0) v) f v Ad:=BL h
def CY.s1(h:CY w f vb Ad)(x:Int):CY (w.setCell (A9 f 1) (A0 x)) f vb x:=BL h
end
def DY(bs:List UInt8):List Value:=bs.map λb=>.int .u8 b.toNat
def G0(w:World)(v:Value)(bs:List UInt8):Prop:=w.ownsRow 0 5 1 v bs.length (DY bs)
def A2u(a b:List UInt8):DY (a++b)=DY a++DY b:=EV
def A4.cP{S:Nat->Prop}{w w':World}(h:Below w.heap.size w w'):A4 S w w':=⟨h.os,h.tape,h.output,h.size,λk d _=>h.block k d⟩
def A4.ag{w w':World}(h:A4 Aa w w'){p:Addr}{v:Value}(d:w.cell? p=some v):w'.cell? p=some v:=by
 have z:p.block<w.heap.size:=by
  rcases F9 p.block w.heap.size with h|h
  ·exact h
  ·unfold World.cell? at d;rw[Na h]at d;simp at d
 unfold World.cell? at d ⊢;rw[h.Am _ z (λh=>h)];exact d
structure App (w w':World) (e size:Nat) (v v':Value) (n:Nat) (xs:List Value):Prop where
 AE:w'.ownsRow 0 e size v' n xs
 C4:w.grownBy w' v.ownBlock
 BS:v'.ownBlock=v.ownBlock\/v'.ownBlock=some w.heap.size
 BP:∃a cap,v'=.slice a n cap
def Xu{P:Program}(w:World)(t tx ty e:TypeId)(i:TypeInfo)(z:Value)(size bytes:Nat)(ht:P.underlying t=some (.slice e))(hi:P.info? e=some i)(hz:i.zero=some z)(X:i.size=size)(aK:i.bytes=bytes)(aM:z.cells.size=size)(aJ:0<bytes)(v:Value)(n:Nat)(xs:List Value)(d:w.ownsRow 0 e size v n xs)(x:Value)(m:Nat)(news:List Value)(O:Src P size tx x m news w)(I:(n+m)*bytes<=140737488355328):
 ∃v' w',(Builtin.append_ #[t,tx] ty #[v,x]).run P w=.ok v' w'/\App w w' e size v v' (n+m) (xs++news):=by
 subst X;subst aK;have hnm:=AQ (Nat.le_mul_of_pos_right _ aJ) I;have h:(xs++news).length=(n+m)*i.size:=by rw[Ba,d.1,O.newsLen,Hz]
 obtain⟨a,cap,rfl,hnc,aH,_,aE,Y⟩:=Bk d;by_cases E:n+m<=cap
 ·rcases d.2 with⟨h1,h2⟩|⟨g,cap',L,h1,_,hg,_,_,aL,aA⟩
  ·cases h1;(obtain rfl:m=0:=by omega);have hn:=N0 (by simpa using O.newsLen);subst hn;have hx:=N0 (by simpa using d.1);subst hx;refine⟨.slice none 0 0,w,?_,⟨Cp w 0 e i.size,⟨rfl,rfl,rfl,Ao _,λ_ _ _=>rfl⟩,.inl rfl,⟨none,0,rfl⟩⟩⟩;rcases O.kind with⟨e',W⟩|W<;>simp[Builtin.append_,run_underlying ht,run_underlying W,sizeOf,typeInfo,hi,O.len,O.cells]
  ·cases h1;(have aF:n*i.size+news.length<=L.size:=by rw[O.newsLen,aL,<-Hz];exact Hy _ E);have aB:=run_storeCells_at P g (n*i.size) e news 0 L w hg (by simpa using aF) O.one;simp only[Pn]at aB;have hr:(Builtin.append_ #[t,tx] ty #[AB g n cap,x]).run P w=.ok (AB g (n+m) cap) (w.setRow g (L.toList.take (n*i.size)++news++L.toList.drop (n*i.size+news.length)).toArray):=by
    rcases O.kind with⟨e',W⟩|W<;>simp[Builtin.append_,run_underlying ht,run_underlying W,sizeOf,typeInfo,hi,O.len,E,O.cells,Addr.add_lit,aB]
   refine⟨_,_,hr,⟨⟨h,.inr ⟨g,cap,_,rfl,Ce _,Kh w g L _ e _ hg,E,aH,?_,?_⟩⟩,⟨rfl,rfl,rfl,by simp,λk _ W=>Jv w g k _ (λe=>W (by simp[Value.ownBlock,e]))⟩,.inl rfl,⟨_,_,rfl⟩⟩⟩
   ·simp only[La,Ba,BI,Cl,Lq];omega
   ·rw[aA,<-h];exact Je
 ·have aD:(Builtin.firstCells i.size n (.slice a n cap)).run P w.drew=.ok xs.toArray w.drew:=by
   cases a with
   | none=>
    obtain⟨rfl,_⟩:=aE rfl;have hx:=N0 (by simpa using d.1);subst hx;exact run_firstCells_none w.drew i.size 0 0 cap
   | some ad=>
    obtain⟨g,rfl⟩:=Y ad rfl;exact QL w.drew i.size n _ n cap xs d.1 (by simpa using d.cells (g:=g) rfl)
  have hr:=run_append_grow_src (P:=P) w t tx ty e i z ht hi hz a n cap xs aD x m news O (by omega) (by omega) (growslice_fits (by omega) I);have aG:=grownCap_ge w (n+m) cap e;have aI:=grownCap_le_maxLen w (n+m) cap e (by unfold maxLen;omega);refine⟨_,_,hr,⟨⟨h,.inr ⟨w.heap.size,_,_,rfl,Ce _,Bf w.drew _,aG,aI,?_,?_⟩⟩,⟨rfl,rfl,rfl,by simp,λk W _=>CQ w.drew _ k W⟩,.inr rfl,⟨_,_,rfl⟩⟩⟩
  ·simp only[Array.size_append,La,size_zeroCells,aM,h,<-Hz]
   congr 1
   omega
  ·simp only[PK];rw[<-h];exact Je
section
variable {P:Program} {w:World}
def Hm{o:Oper}{a:Act}{K:Act->World->Prop}{Q:Exit->Act->World->Prop}(s x:Operand)(t X:TypeId)(ho:o.op=.call {callee:=.builtin .append,args:=#[s,x],argTypes:=#[t,X]})(e:TypeId)(i:TypeInfo)(z:Value)(size bytes:Nat)(ht:P.underlying t=some (.slice e))(hi:P.info? e=some i)(hz:i.zero=some z)(E:i.size=size)(O:i.bytes=bytes)(W:z.cells.size=size)(L:0<bytes)(v:Value)(n:Nat)(xs:List Value)(hv:a.eval s=v)(I:w.ownsRow 0 e size v n xs)(sv:Value)(m:Nat)(news:List Value)(hx:a.eval x=sv)(hs:Src P size X sv m news w)(d:(n+m)*bytes<=140737488355328)(h:∀b cap w',App w w' e size v (.slice b (n+m) cap) (n+m) (xs++news)->K (a.put o.dst (.slice b (n+m) cap)) w'):o.wp P a w K Q:=by
 obtain⟨v',w',hr,Y⟩:=Xu (P:=P) w t X o.type e i z size bytes ht hi hz E O W L v n xs I sv m news hs d;obtain⟨b,cap,rfl⟩:=Y.BP;unfold Oper.wp execOp;simp only[ho,resolve,invoke,builtin,Sem.run_bind,Sem.run_pure,Result.andThen_ok,List.map_toArray,HC,List.map_nil,hv,hx,hr];exact h b cap w' Y
def CZ{ops:Array Oper}{rest:List Oper}{o:Oper}{a:Act}{Q:Exit->Act->World->Prop}(L:o.guard=none)(s x:Operand)(t Y:TypeId)(ho:o.op=.call {callee:=.builtin .append,args:=#[s,x],argTypes:=#[t,Y]})(e:TypeId)(i:TypeInfo)(z:Value)(size bytes:Nat)(ht:P.underlying t=some (.slice e))(hi:P.info? e=some i)(hz:i.zero=some z)(E:i.size=size)(W:i.bytes=bytes)(X:z.cells.size=size)(O:0<bytes)(v:Value)(n:Nat)(xs:List Value)(hv:a.eval s=v)(I:w.ownsRow 0 e size v n xs)(sv:Value)(m:Nat)(news:List Value)(hx:a.eval x=sv)(hs:Src P size Y sv m news w)(d:(n+m)*bytes<=140737488355328)(h:∀b cap w',App w w' e size v (.slice b (n+m) cap) (n+m) (xs++news)->wpList P ops Q rest (a.put o.dst (.slice b (n+m) cap)) w'):wpList P ops Q (o::rest) a w:=
 wpList_plain L λ_ hK=>Hm s x t Y ho e i z size bytes ht hi hz E W X O v n xs hv I sv m news hx hs d λb cap w' hA=>hK _ _ (h b cap w' hA)
def Jt{y:Nat->Option Bool}{o:Oper}{a:Act}{K:Act->World->Prop}{Q:Exit->Act->World->Prop}{E:Prop}(O:o.guard=none)(s x:Operand)(t tx:TypeId)(ho:o.op=.call {callee:=.builtin .append,args:=#[s,x],argTypes:=#[t,tx]})(e:TypeId)(i:TypeInfo)(z:Value)(size bytes:Nat)(ht:P.underlying t=some (.slice e))(hi:P.info? e=some i)(hz:i.zero=some z)(I:i.size=size)(X:i.bytes=bytes)(Y:z.cells.size=size)(W:0<bytes)(v:Value)(n:Nat)(xs:List Value)(hv:a.eval s=v)(L:w.ownsRow 0 e size v n xs)(sv:Value)(m:Nat)(news:List Value)(hx:a.eval x=sv)(hs:Src P size tx sv m news w)(d:(n+m)*bytes<=140737488355328)(h:∀b cap w',App w w' e size v (.slice b (n+m) cap) (n+m) (xs++news)->K (a.put o.dst (.slice b (n+m) cap)) w'):
 if Region.wanted o y=true then Oper.wp P o a w K Q else E:=by
 have hw:Region.wanted o y=true:=by simp[Region.wanted,O]
 rw[Ai hw];exact Hm s x t tx ho e i z size bytes ht hi hz I X Y W v n xs hv L sv m news hx hs d h
def Src.b5{size:Nat}{d I:TypeId}(h:P.underlying d=some (.slice I)){B:Nat}{cs:Array Value}{t:TypeId}{O:Nat×Nat}(L:w.heap[B]?=some (.cells cs t O))(m c:Nat)(z:cs.size=m*size)(E:∀u∈cs.toList,u.oneCell'=true):Src P size d (.slice (some ⟨B,0,none⟩) m c) m cs.toList w:=
 Iw w h _ m c _ (by simpa using z) (World.news_of_block L) E
def Src.a8{size:Nat}{d L:TypeId}(h:P.underlying d=some (.slice L))(w:World)(cs:Array Value)(t B:Nat)(I:w.heap.size=B)(m c:Nat)(z:cs.size=m*size)(E:∀u∈cs.toList,u.oneCell'=true):Src P size d (.slice (some ⟨B,0,none⟩) m c) m cs.toList (w.alloc (.cells cs t)):=by
 subst I;exact Src.b5 h (Bf _ _) m c z E
def Src.bO{size:Nat}{I O e:TypeId}(E:P.underlying I=some (.slice O)){v:Value}{m:Nat}{news:List Value}(h:w.ownsRow 0 e size v m news)(L:∀u∈news,u.oneCell'=true):Src P size I v m news w:=by
 obtain⟨a,cap,rfl,_,_,_,z,d⟩:=Bk h;cases a with
 | none=>
  obtain⟨rfl,rfl⟩:=z rfl;have W:=N0 (by simpa using h.1);subst W;exact Src.ofNil w E 0
 | some ad=>
  obtain⟨g,rfl⟩:=d ad rfl;exact Iw w E _ m cap news h.1 (h.cells rfl) L
def Src.fH{size:Nat}{L X e:TypeId}(W:P.underlying L=some (.slice X)){g n cap:Nat}{xs:List Value}(h:w.ownsRow 0 e size (.slice (some ⟨g,0,none⟩) n cap) n xs)(I:∀u∈xs,u.oneCell'=true)(k m c:Nat)(E:k+m<=n):
 Src P size L (.slice (some ((⟨g,0,none⟩:Addr).add (k*size))) m c) m ((xs.drop (k*size)).take (m*size)) w:=by
 have hle:k*size+m*size<=n*size:=by rw[<-Hz];exact Hy _ E
 refine Iw w W _ m c _ ?_ ?_ ?_
 ·rw[BI,Cl,h.1];omega
 ·intro j u z;rw[MX]at z;split at z
  ·rw[HY]at z;have:=BD h (g:=g) rfl z;have d:((⟨g,0,none⟩:Addr).add (k*size)).add j=⟨g,k*size+j,none⟩:=by
    unfold Addr.add;by_cases O:k*size=0<;>by_cases I:j=0<;>simp[O,I]
   rw[d];exact this
  ·cases z
 ·intro u hu;exact I u (K1 (H3 hu))
end
end
abbrev Pt:=Int×Int
def C2:List Pt->Int->Int->List Pt
 | [],t,v=>[(t,v)]
 | (a,b):: r,t,v=>if a<t then (a,b):: C2 r t v else if a=t then (t,v):: r else (t,v):: (a,b):: r
def Dz(l:List Pt):Prop:=l.Pairwise λx y=>x.1<y.1
def A0J{l:List Pt}{t v:Int}{x:Pt}(h:x∈C2 l t v):x=(t,v)\/x∈l:=by
 induction l with
 | nil=>simp[C2]at h;exact .inl h
 | cons e r ih=>
  obtain⟨a,b⟩:=e;simp only[C2]at h;split at h
  ·rcases BX.1 h with h|h
   ·exact .inr (by simp[h])
   ·rcases ih h with h|h
    ·exact .inl h
    ·exact .inr (BW _ h)
  ·split at h
   ·rcases BX.1 h with h|h
    ·exact .inl h
    ·exact .inr (BW _ h)
   ·rcases BX.1 h with h|h
    ·exact .inl h
    ·exact .inr h
def KJ{l:List Pt}(h:Dz l)(t v:Int):Dz (C2 l t v):=by
 induction l with
 | nil=>simp[C2,Dz]
 | cons e r ih=>
  obtain⟨a,b⟩:=e;have z:=Dn.1 h;simp only[C2];split
  ·rename_i E;refine Dn.2 ⟨λx d=>?_,ih z.2⟩;rcases A0J d with rfl|d
   ·exact E
   ·exact z.1 x d
  ·rename_i E;split
   ·rename_i I;subst I;exact Dn.2 ⟨λx d=>z.1 x d,z.2⟩
   ·rename_i I;refine Dn.2 ⟨λx d=>?_,h⟩;rcases BX.1 d with rfl|d
    ·show t<a;omega
    ·have:=z.1 x d;show t<x.1;simp only at this;omega
def BB(l:List Pt)(t:Int):Nat:=(l.takeWhile λx=>decide (x.1<t)).length
def IP(l:List Pt)(t:Int):BB l t<=l.length:=by
 unfold BB;exact(List.takeWhile_sublist _).length_le
def JB{l:List Pt}{t:Int}{i:Nat}(h:i<BB l t)(z:i<l.length):(l[i]'z).1<t:=by
 unfold BB at h
 induction l generalizing i with
 | nil=>simp at z
 | cons e r ih=>
  by_cases d:e.1<t
  ·simp only[Po,d,OQ,Ci,Cq]at h;cases i with
   | zero=>exact d
   | succ i=>simp only[MW];exact ih (by omega) _
  ·simp[d]at h
def Kr{l:List Pt}(I:Dz l){t:Int}{i:Nat}(h:BB l t<=i)(z:i<l.length):t<=(l[i]'z).1:=by
 unfold BB at h
 induction l generalizing i with
 | nil=>simp at z
 | cons e r ih=>
  have d:=Dn.1 I;by_cases E:e.1<t
  ·simp only[Po,E,OQ,Ci,Cq]at h;cases i with
   | zero=>omega
   | succ i=>simp only[MW];exact ih d.2 (by omega) _
  ·cases i with
   | zero=>simp only[K3];omega
   | succ i=>
    have:=d.1 (r[i]'(by simpa using z)) (BT _);simp only[MW];omega
def LV{l:List Pt}(L:Dz l){t:Int}{k:Nat}(hk:k<=l.length)(I:∀i (z:i<l.length),i<k->(l[i]'z).1<t)(E:∀i (z:i<l.length),k<=i->t<=(l[i]'z).1):BB l t=k:=by
 rcases A3v (BB l t) k with h|h|h
 ·have d:BB l t<l.length:=by omega
  have:=I _ d h;have:=Kr L (Ao (BB l t)) d;omega
 ·exact h
 ·have hp:=IP l t;have d:k<l.length:=by omega
  have:=JB h d;have:=E k d (Ao k);omega
def Oq(l:List Pt)(t v:Int):C2 l t v=l.take (BB l t)++(t,v):: (if (l[BB l t]?).any (λx=>x.1==t) then l.drop (BB l t+1) else l.drop (BB l t)):=by
 unfold BB
 induction l with
 | nil=>simp[C2]
 | cons e r ih=>
  obtain⟨a,b⟩:=e;simp only[C2];by_cases h:a<t
  ·simp only[h,Ci,Po,OQ,Cq,Fs,Du,A3Q,FL,ih]
  ·by_cases d:a=t
   ·subst d;simp
   ·simp[h,d]
def T7{l:List Pt}(Y:Dz l)(p:Int->Bool)(t v:Int):(C2 l t v).filter (λx=>p x.1)=if p t then C2 (l.filter λx=>p x.1) t v else l.filter (λx=>p x.1):=by
 induction l with
 | nil=>by_cases h:p t<;>simp[C2,h]
 | cons e r O=>
  obtain⟨a,b⟩:=e;have E:=Dn.1 Y;have O:=O E.2;simp only[C2];by_cases I:a<t
  ·simp only[I,Ci,Gd,O];by_cases h:p t<;>by_cases z:p a<;>simp[h,z,C2,I]
  ·by_cases L:a=t
   ·subst L;simp only[I,C3,Ci,Gd];by_cases h:p a<;>simp[h,C2]
   ·simp only[I,L,C3,Gd];by_cases h:p t
    ·by_cases z:p a
     ·simp[h,z,C2,I,L]
     ·simp only[h,z,Ci];have hall:∀x∈r.filter (λx=>p x.1),t<x.1:=λx hx=>by
       have:=E.1 x (Hg.1 hx).1;simp only at this;omega
      cases hr:r.filter (λx=>p x.1) with
      | nil=>simp[C2]
      | cons y ys=>
       obtain⟨c,d⟩:=y;have:=hall (c,d) (by rw[hr];simp);simp only at this;(have X:¬c<t:=by omega);(have W:¬c=t:=by omega);simp[C2,X,W]
    ·by_cases z:p a<;>simp[h,z]
def Dz.ca{l:List Pt}(h:Dz l)(k:Nat):Dz (l.drop k):=A3U (List.drop_sublist k l) h
def A1b{l:List Pt}(X:Dz l)(a b:Int):l.filter (λx=>decide (a<=x.1)&&decide (x.1<b))=(l.take (BB l b)).drop (BB l a):=by
 unfold BB
 induction l with
 | nil=>simp
 | cons e r h=>
  have d:=Dn.1 X;have h:=h d.2;by_cases z:e.1<b
  ·by_cases I:e.1<a
   ·(have:¬a<=e.1:=by omega);simp[I,z,this,h]
   ·(have W:a<=e.1:=by omega);have O:r.takeWhile (λx=>decide (x.1<a))=[]:=by
     cases r with
     | nil=>rfl
     | cons y ys=>have:=d.1 y (by simp);rw[Po];have:¬y.1<a:=by omega
                  simp[this]
    simp only[O,ID,Db]at h;simp[I,z,W,h]
  ·(have L:∀x∈r,¬x.1<b:=λx E=>by have:=d.1 x E;omega);have:r.filter (λx=>decide (a<=x.1)&&decide (x.1<b))=[]:=by
    rw[UM];intro x E;have:=L x E;simp[this]
   simp[z,this]
section
open Go.RowKit
attribute [local go_sem ↓] Go.wp_at_zero Go.wp_at_succ
def FF(t life A7:Int):Bool:=decide (t+life>A7)
def Ax(x:Int):Prop:=-9223372036854775808<=x/\x<=9223372036854775807
def A3h(t life A7:Int)(w:World)(d:Ax t)(z:1<=life/\life<=4611686018427387904)(E:Ax A7)(hg:A7<=9223372036854775807):
 Ag 123 #[A0 t,A0 life,A0 A7] w (Aj (.bool (FF t life A7)) λw'=>w=w'):=by
 obtain⟨t1,t2⟩:=d;obtain⟨l1,l2⟩:=z;obtain⟨c1,c2⟩:=E;by_cases h:9223372036854775807-life<t
 ·have q:Hid (FF t life A7=true):=by unfold Hid FF;simp;omega
  go_enter func123,ntmps123
  go_wp2;go_ret;rw[q.o];exact⟨rfl,rfl⟩
 ·have h':t<=9223372036854775807-life:=by omega
  have hw:t+life<=9223372036854775807:=by omega
  by_cases h2:A7<t+life
  ·(have q:Hid (FF t life A7=true):=by unfold Hid FF;simp;omega)
   go_enter func123,ntmps123
   go_wp2;go_ret;rw[q.o];exact⟨rfl,rfl⟩
  ·(have q:Hid (FF t life A7=false):=by unfold Hid FF;simp;omega)
   go_enter func123,ntmps123
   go_wp2;go_ret;rw[q.o];exact⟨rfl,rfl⟩
def Dv(A7 d:Int):Int:=if A7>9223372036854775807-d then 9223372036854775807 else A7+d
def Qb(A7 d:Int)(w:World)(E:Ax A7)(z:0<=d/\d<=9223372036854775807):
 Ag 44 #[A0 A7,A0 d] w (Aj (A0 (Dv A7 d)) λw'=>w=w'):=by
 obtain⟨c1,c2⟩:=E;obtain⟨t1,t2⟩:=z;by_cases h:9223372036854775807-d<A7
 ·have q:Hid (Dv A7 d=9223372036854775807):=by unfold Hid Dv;rw[Ai h]
  go_enter func44,ntmps44
  go_wp2;go_ret;rw[q.o];exact⟨rfl,rfl⟩
 ·have q:Hid (Dv A7 d=A7+d):=by unfold Hid Dv;rw[Ae h]
  have h3 : -9223372036854775808<=A7+d:=by omega
  go_enter func44,ntmps44
  go_wp2;go_ret;rw[q.o];exact⟨rfl,rfl⟩
def Fm(s:Int):Bool:=decide (0<=s)&&decide (s<8)
def LM(s:Int)(w:World):Ag 91 #[A0 s] w (Aj (.bool (Fm s)) λw'=>w=w'):=by
 by_cases h:0<=s
 ·by_cases d:s<8
  ·(have q:Hid (Fm s=true):=by unfold Hid Fm;simp[h,d])
   go_enter func91,ntmps91
   go_wp2;go_ret;rw[q.o];exact⟨rfl,rfl⟩
  ·(have q:Hid (Fm s=false):=by unfold Hid Fm;simp[d])
   go_enter func91,ntmps91
   go_wp2;go_ret;rw[q.o];exact⟨rfl,rfl⟩
 ·have q:Hid (Fm s=false):=by unfold Hid Fm;simp[h]
  go_enter func91,ntmps91
  go_wp2;go_ret;rw[q.o];exact⟨rfl,rfl⟩
end
section
open Go
def Ur{α:Type}{l:List α}{i:Nat}{a:α}:l.toArray.setIfInBounds i a=(l.set i a).toArray:=A3F _ _ _
def Uq{α:Type}{x a:α}{xs:List α}:(x::xs).set 0 a=a::xs:=rfl
def Uo{α:Type}{x a:α}{xs:List α}{n:Nat}:(x::xs).set (n+1) a=x::xs.set n a:=rfl
def Un{α:Type}{l:List α}{i:Nat}(h:i<l.toArray.size):l.toArray[i]=l[i]'(by simpa using h):=rfl
def Um{α:Type}{a:α}{l:List α}(h:0<(a::l).length):(a::l)[0]=a:=rfl
def Pt6{α:Type}{a:α}{l:List α}{i:Nat}(h:i+1<(a::l).length):(a::l)[i+1]=l[i]'(A3x h):=rfl
def Bm{α:Type}{a:α}{l:List α}{n:Nat}:(a::l).drop (n+1)=l.drop n:=rfl
def Bl{α:Type}{l:List α}:l.drop 0=l:=rfl
section
variable {P:Program} {ops:Array Oper} {md:Region.Mode} {Q:Exit->Act->World->Prop} {S:World->Prop}
def Kc(P:Program)(md:Region.Mode)(ops:Array Oper)(Q:Exit->Act->World->Prop)(S:World->Prop)(n:Nat)(L:Array Bool->Act->World->Prop):Nat->Array Bool->Act->World->Prop
 | 0,listed,a,w=>L listed a w
 | f+1,listed,a,w=>Region.ready md ops listed≠[]/\∀i∈Region.ready md ops listed,i<n/\wpOp P ops Q i (λa' w'=>S w'/\Kc P md ops Q S n L f (listed.setIfInBounds i true) a' w') a w
def PT{n g:Nat}{L:Array Bool->Act->World->Prop}(d:∀listed a w,L listed a w->wpAny P md ops Q g listed a w):
 ∀(f:Nat) (listed:Array Bool) (a:Act) (w:World),Kc P md ops Q S n L f listed a w->wpAny P md ops Q (f+g) listed a w
 | 0,listed,a,w,h=>by rw[GM];exact d _ _ _ h
 | f+1,listed,a,w,h=>by
  rw[show f+1+g=(f+g)+1 from by omega];exact⟨λI=>absurd I h.1,λi E=>Kb (λa' w' z=>PT d f _ a' w' z.2) (h.2 i E).2⟩
def Vv{n i:Nat}{oi:Oper}{v:Value}{L:Array Bool->Act->World->Prop}(hi:ops[i]?=some oi)(Y:∀(j:Nat) (o:Oper) cs b,ops[j]?=some o->o.op≠.select cs b)(hQ:∀c a w,Q (.panic c) (a.put oi.dst v) w->Q (.panic c) a w)(hs:Region.sinkB md ops n=true)(hc:Region.chainB md ops n=true)(hn:n<ops.size)(aF:i<n)(aB:∀listed a w,L listed a w->∀j∈Region.ready md ops listed,n<=j):
 ∀(f:Nat) (listed:Array Bool) (a:Act) (w:World),HeadInv md ops n listed->
  (∀j oj,ops[j]?=some oj->j≠i->listed.getD j true=false->(∀e∈oj.after,Region.binds md e=true->e.on≠i)->oi.apart ops oj=true)->
  i∈Region.ready md ops listed->YieldsIf P ops S oi v a->S w->
  Kc P md ops Q S n L f (listed.setIfInBounds i true) (a.put oi.dst v) w->Kc P md ops Q S n L (f+1) listed a w:=by
 intro f
 induction f with
 | zero=>
  intro listed a w O _ hr hy hS H;have z:=(Ij.1 hr).1;refine⟨λh=>(by rw[h]at hr;cases hr),λj hj=>?_⟩;have W:j<n:=by
   rcases F9 j n with h|h
   ·exact h
   ·exact absurd hj (Ly hs hc hn O _ i rfl aF z j h)
  refine⟨W,?_⟩;by_cases d:j=i
  ·subst d;exact hy.wpOp hi hS ⟨hS,H⟩
  ·have:=aB _ _ _ H j (Kn hj d);omega
 | succ f ih=>
  intro listed a w O E hr hy hS H;have z:=(Ij.1 hr).1;refine⟨λh=>(by rw[h]at hr;cases hr),λj hj=>?_⟩;have W:j<n:=by
   rcases F9 j n with h|h
   ·exact h
   ·exact absurd hj (Ly hs hc hn O _ i rfl aF z j h)
  refine⟨W,?_⟩;by_cases d:j=i
  ·subst d;exact hy.wpOp hi hS ⟨hS,H⟩
  ·have h1:=(H.2 j (Kn hj d)).2;obtain⟨X,oj,aA,hall⟩:=Ij.1 hj;have aE:∀e∈oj.after,Region.binds md e=true->e.on≠i:=λe he hb aI=>by
    have h1:=hall e he hb;rw[aI,getD_both z]at h1;cases h1
   have h2:=wpOp_putIf aA (E j oj aA d X aE) (λcs b=>Y i oi cs b hi) (λcs b=>Y j oj cs b aA) hQ hy h1;have I:∀k ok,ops[k]?=some ok->k≠i->(listed.setIfInBounds j true).getD k true=false->
    (∀e∈ok.after,Region.binds md e=true->e.on≠i)->oi.apart ops ok=true:=λk ok hk aH z aG=>by
    refine E k ok hk aH ?_ aG;by_cases aD:j=k
    ·subst aD;exact X
    ·rw[Mi true aD]at z;exact z
   refine Kb (λa' w' h3=>⟨h3.2.1,ih (listed.setIfInBounds j true) a' w' (O.set hj W) I (Kn hr (Ph d)) h3.1 h3.2.1 ?_⟩) h2;rw[V4 _ _ d];exact h3.2.2
def Fx(P:Program)(ops:Array Oper)(Q:Exit->Act->World->Prop)(S:World->Prop)(T:Act->World->Prop):List (Nat×Bool)->Act->World->Prop
 | [],a,w=>T a w
 | (i,true):: r,a,w=>∃o v,ops[i]?=some o/\YieldsIf P ops S o v a/\Fx P ops Q S T r (a.put o.dst v) w
 | (i,false):: r,a,w=>wpOp P ops Q i (λa' w'=>S w'/\Fx P ops Q S T r a' w') a w
def Kj(md:Region.Mode)(ops:Array Oper)(n:Nat):List (Nat×Bool)->Array Bool->Bool
 | [],listed=>Region.seqB md ops (ops.size-n) n listed
 | (i,t):: r,listed=>decide (i<n)&&(if t then (Region.ready md ops listed).contains i&&Region.free md ops listed i else decide (Region.ready md ops listed=[i]))&&Kj md ops n r (listed.setIfInBounds i true)
def LH(ops:Array Oper)(n:Nat)(d:List (Nat×Bool)):Bool:=
 Region.noSelect ops&&decide (n<ops.size)&&decide (d.length=n)&&Region.sinkB .any ops n&&Region.chainB .any ops n&&Kj .any ops n d (Array.replicate ops.size false)
def Nd{n:Nat}{T:Act->World->Prop}(z:Region.noSelect ops=true)(hs:Region.sinkB md ops n=true)(hc:Region.chainB md ops n=true)(hn:n<ops.size)(X:∀c a t v w,Q (.panic c) (Act.put a (some t) v) w->Q (.panic c) a w):
 ∀(O:List (Nat×Bool)) (listed:Array Bool) (a:Act) (w:World),HeadInv md ops n listed->Kj md ops n O listed=true->S w->Fx P ops Q S T O a w->
 Kc P md ops Q S n (λd a' w'=>Region.seqB md ops (ops.size-n) n d=true/\T a' w') O.length listed a w
 | [],listed,a,w,_,hB,_,h=>⟨hB,h⟩
 | (i,true):: r,listed,a,w,inv,hB,hS,h=>by
  simp only[Kj,FZ,DO,Ci]at hB;obtain⟨⟨E,W,hf⟩,L⟩:=hB;obtain⟨o,v,h0,hy,hK⟩:=h;have I:i∈Region.ready md ops listed:=by simpa using W
  exact Vv h0 (Uk z) (λc a w=>by cases o.dst with|none=>exact id|some t=>exact X c a t v w) hs hc hn E (λd a' w' hL=>QC hL.1) r.length listed a w inv (Ul h0 hf) I hy hS
   (Nd z hs hc hn X r _ _ w (inv.set I E) L hS hK)
 | (i,false):: r,listed,a,w,inv,hB,hS,h=>by
  simp only[Kj,FZ,DO,PG,C3]at hB;obtain⟨⟨E,W⟩,L⟩:=hB;refine⟨by rw[W];simp,λj hj=>?_⟩;have I:i∈Region.ready md ops listed:=by rw[W];simp
  rw[W]at hj;have:j=i:=by simpa using hj
  subst this;exact⟨E,Kb (λa' w' Y=>⟨Y.1,Nd z hs hc hn X r _ a' w' (inv.set I E) L Y.1 Y.2⟩) h⟩
def Fw{id:Nat}{a:Act}{w:World}{l:List Oper}(S:World->Prop)(n:Nat)(d:List (Nat×Bool))(Y:P.follows .mixedOrders=true)(O:LH l.toArray n d=true)(X:∀c a t v w,Q (.panic c) (Act.put a (some t) v) w->Q (.panic c) a w)(hS:S w.drew)(h:Fx P l.toArray Q S (λa w=>wpList P l.toArray Q (l.drop n) a w) d a w.drew):(Code.region id l.toArray true).wp P Q a w:=by
 simp only[LH,FZ,DO]at O;obtain⟨⟨⟨⟨⟨hsel,hn⟩,hsl⟩,hs⟩,hc⟩,hgo⟩:=O;have E:(l.drop n).length=l.toArray.size-n:=by simp
 have z:HeadInv .any l.toArray n (Array.replicate l.toArray.size false):=
  ⟨by simp,λj oj _ L=>(by rw[JK]at L;cases L),λt _ W=>getD_in (by simpa using W) (JK _ _)⟩
 have H:=Nd (md:=.any) (T:=λa w=>wpList P l.toArray Q (l.drop n) a w) hsel hs hc hn X d _ a w.drew z hgo hS h;refine PQ Y ?_
 have:=PT (Q:=Q) (g:=l.toArray.size-n) (λlisted a' w' I=>by
  have:=PR (md:=.any) (Q':=Q) (l.drop n) n listed a' w' (λj=>by simp[List.getElem?_drop]) (by rw[E];exact I.1) I.2
  rwa [E]at this) _ _ _ _ H
 rw[hsl,show n+(l.toArray.size-n)=l.toArray.size from by omega]at this;exact this
def DM{i:Nat}{o:Oper}{v:Value}{r:List (Nat×Bool)}{a:Act}{w:World}{T:Act->World->Prop}(z:ops[i]?=some o)(d:Region.wanted o (yielded ops a.tmps)=true)(E:∀w,S w->(execOp a.eval o).run P w=.ok (.value v) w)(h:Fx P ops Q S T r (a.put o.dst v) w):Fx P ops Q S T ((i,true):: r) a w:=
 ⟨o,v,z,.inl ⟨d,E⟩,h⟩
def Vr{i:Nat}{o:Oper}{r:List (Nat×Bool)}{a:Act}{w:World}{T:Act->World->Prop}(z:ops[i]?=some o)(d:Region.wanted o (yielded ops a.tmps)=false)(h:Fx P ops Q S T r (a.put o.dst undef) w):Fx P ops Q S T ((i,true):: r) a w:=
 ⟨o,_,z,.inr ⟨d,rfl⟩,h⟩
def B4{a:Act}{w:World}{T:Act->World->Prop}(h:T a w):Fx P ops Q S T [] a w:=h
def Di{i:Nat}{o:Oper}{r:List (Nat×Bool)}{a:Act}{w:World}{T:Act->World->Prop}(I:ops[i]?=some o)(z:Region.wanted o (yielded ops a.tmps)=true)(h:∀K:Act->World->Prop,(∀a w,S w->(S w->Fx P ops Q S T r a w)->K a w)->o.wp P a w K Q):Fx P ops Q S T ((i,false):: r) a w:=by
 show wpOp P ops Q i _ a w;unfold wpOp;simp only[I,z,Ci];exact .inl (h _ λa w d E=>⟨d,E d⟩)
def B1{i:Nat}{o:Oper}{v:Value}{r:List (Nat×Bool)}{a:Act}{w:World}{T:Act->World->Prop}(h:Fx P ops Q S T r (a.put o.dst v) w)(z:ops[i]?=some o:=by rfl)(d:Region.wanted o (yielded ops a.tmps)=true:=by rfl)(E:∀w,S w->(execOp a.eval o).run P w=.ok (.value v) w:=by intro w' I;(try dsimp only at I);go_simp;try with_reducible rfl):Fx P ops Q S T ((i,true):: r) a w:=DM z d E h
def Bd{i:Nat}{o:Oper}{r:List (Nat×Bool)}{a:Act}{w:World}{T:Act->World->Prop}(h:∀K:Act->World->Prop,(∀a w,S w->(S w->Fx P ops Q S T r a w)->K a w)->o.wp P a w K Q)(z:ops[i]?=some o:=by rfl)(d:Region.wanted o (yielded ops a.tmps)=true:=by rfl):Fx P ops Q S T ((i,false):: r) a w:=Di z d h
def Bt{id:Nat}{a:Act}{w:World}{l:List Oper}(S:World->Prop)(n:Nat)(d:List (Nat×Bool))(E:S w.drew)(h:Fx P l.toArray Q S (λa w=>wpList P l.toArray Q (l.drop n) a w) d a w.drew)(z:P.follows .mixedOrders=true:=by kernel_rfl)(I:LH l.toArray n d=true:=by kernel_rfl)(L:∀c a t v w,Q (.panic c) (Act.put a (some t) v) w->Q (.panic c) a w:=by exact λ_ _ _ _ _ h=>h):(Code.region id l.toArray true).wp P Q a w:=Fw S n d z I L E h
end
def MM(Q:Exit->Act->World->Prop):Exit->Act->World->Prop
 | .panic _,_,_=>False
 | e,a,w=>Q e a w
def Cw(Q:Exit->Act->World->Prop)(a:Act)(w:World):MM Q .normal a w=Q .normal a w:=rfl
def A3s{Q:Exit->Act->World->Prop}{e:Exit}{a:Act}{w:World}(h:MM Q e a w):Q e a w:=by
 cases e with
 | panic _=>exact h.elim
 | _=>exact h
def Nc{P:Program}{Q:Exit->Act->World->Prop}{id:Nat}{a:Act}{w:World}{l:List Oper}(S:World->Prop)(n:Nat)(d:List (Nat×Bool))(z:P.follows .mixedOrders=true)(I:LH l.toArray n d=true)(E:S w.drew)(h:Fx P l.toArray (MM Q) S (λa w=>wpList P l.toArray (MM Q) (l.drop n) a w) d a w.drew):(Code.region id l.toArray true).wp P Q a w:=
 Code.wp_mono (λ_ _ _ h=>A3s h) (Fw S n d z I (λ_ _ _ _ _ h=>h) E h)
end
section
open Go.RowKit
def KG(w:World)(x:Int):Ag 63 #[A0 x] w (Aj (.bool (decide (0<=x/\x<8))) λw'=>w=w'):=by
 obtain⟨q,d⟩:∃q,decide (0<=x/\x<8)=q:=⟨_,rfl⟩;rw[d];have h:=A1 d;by_cases h1:0<=x<;>by_cases h2:x<8
 all_goals try (exfalso;omega)
 all_goals
  go_enter func63,ntmps63
  go_wp2;go_ret;refine⟨?_,rfl⟩;rw[<-h.o];simp
  try omega
def KF(w:World)(x:Int):Ag 58 #[A0 x] w (Aj (.bool (decide (1<=x/\x<=4611686018427387904))) λw'=>w=w'):=by
 obtain⟨q,d⟩:∃q,decide (1<=x/\x<=4611686018427387904)=q:=⟨_,rfl⟩;rw[d];have h:=A1 d;by_cases h1:1<=x<;>by_cases h2:x<=4611686018427387904
 all_goals try (exfalso;omega)
 all_goals
  go_enter func58,ntmps58
  go_wp2;go_ret;refine⟨?_,rfl⟩;rw[<-h.o];simp
  try omega
def AT(A7 life:Int):Int:=if A7 < -9223372036854775808+life then -9223372036854775808 else A7-life+1
def Zg(A7 life t:Int)(d:Ax t):decide (AT A7 life<=t)=FF t life A7:=by
 obtain⟨t1,t2⟩:=d;unfold AT FF;split<;>simp<;>omega
def O0(w:World)(d:Nat)(A7 life:Int)(c3:A8 w d 3 (A0 life))(c4:A8 w d 5 (A0 A7))(L:1<=life/\life<=4611686018427387904)(O:Ax A7):
 Ag 71 #[A6 d] w (Aj (A0 (AT A7 life)) λw'=>A4 Aa w w'):=by
 obtain⟨l1,l2⟩:=L;obtain⟨k1,k2⟩:=O;have ew:IntKind.i64.wrap (-9223372036854775808+life) = -9223372036854775808+life:=by simp[IntKind.wrap,IntKind.bits,IntKind.signed];omega
 go_enter func71,ntmps71
 go_wp2;refine Fw (λw'=>A8 w' d 3 (A0 life)/\A8 w' d 5 (A0 A7)) 9
  (Bb [0,1,2,3,4,5,6,7,8] []) (by kernel_rfl) (by kernel_rfl) (λ_ _ _ _ _ h=>h) ⟨c3,c4⟩ ?_
 iterate 9 (refine DM (v:=?_) rfl (by rfl) ?_ ?_;rotate_left;(· (intro w' I;(try dsimp only at I);go_simp;try with_reducible rfl));(try simp only[Ak]))
 refine B4 ?_;simp only[Du,Db];have d3:A8 w.drew d 3 (A0 life):=c3;have d4:A8 w.drew d 5 (A0 A7):=c4;have E:Hid (A4 Aa w w.drew):=(A4.C _ w).aa;generalize w.drew=w1 at d3 d4 E ⊢;by_cases h:A7 < -9223372036854775808+life
 ·have z:Hid (AT A7 life = -9223372036854775808):=by unfold Hid AT;rw[Ai h]
  go_wp2;go_ret;rw[z.o];exact⟨rfl,E.o⟩
 ·have z:Hid (AT A7 life=A7-life+1):=by unfold Hid AT;rw[Ae h]
  have ew2:IntKind.i64.wrap (A7-life)=A7-life:=by simp[IntKind.wrap,IntKind.bits,IntKind.signed];omega
  have ew3:IntKind.i64.wrap (A7-life+1)=A7-life+1:=by simp[IntKind.wrap,IntKind.bits,IntKind.signed];omega
  go_wp2;refine Fw (λw'=>A8 w' d 3 (A0 life)/\A8 w' d 5 (A0 A7)) 10
   (Bb [0,1,2,3,4,5,6,7,8,9] []) (by kernel_rfl) (by kernel_rfl) (λ_ _ _ _ _ h=>h) ⟨d3,d4⟩ ?_
  iterate 10 (refine DM (v:=?_) rfl (by rfl) ?_ ?_;rotate_left;(· (intro w' I;(try dsimp only at I);go_simp;try with_reducible rfl));(try simp only[Ak]))
  refine B4 ?_;simp only[Du,Db];go_wp2;go_ret;rw[z.o];exact⟨rfl,E.o.aa⟩
section
variable {P:Program}
def LJ(w:World)(dT sT ty elem:TypeId)(i:TypeInfo)(size:Nat)(g o z L:Nat)(a:Addr)(h E k:Nat)(d:Array Value)(t:TypeId)(cs:List Value)(hu:P.underlying dT=some (.slice elem))(hi:P.info? elem=some i)(I:i.size=size)(hg:w.heap[g]?=some (.cells d t (0,0)))(hn:Nat.min h z=k)(Y:cs.length=k*size)(X:∀j v,cs[j]?=some v->w.cell? (a.add j)=some v)(W:o+cs.length<=d.size)(h1:∀v∈cs,v.oneCell'=true):
 (Builtin.copy_ #[dT,sT] ty #[.slice (some (A9 g o)) z L,.slice (some a) h E]).run P w =
  .ok (goInt k) (w.setRow g (d.toList.take o++cs++d.toList.drop (o+cs.length)).toArray):=by
 subst I;have hf:=QL (P:=P) w i.size k a h E cs Y X;have O:=run_storeCells_at P g o t cs 0 d w hg (by simpa using W) h1;simp only[Pn]at O;simp[Builtin.copy_,run_underlying hu,Builtin.lenOf,sizeOf,typeInfo,hi,hn,hf,O]
def Xt(w:World)(t tn ty e:TypeId)(i:TypeInfo)(z:Value)(kn:IntKind)(ht:P.underlying t=some (.slice e))(Y:P.underlying tn=some (.int kn))(hi:P.info? e=some i)(hz:i.zero=some z)(hs0:0<i.size)(h:Option Addr)(len cap:Nat)(d:List Value)(W:(Builtin.firstCells i.size len (.slice h len cap)).run P w.drew=.ok d.toArray w.drew)(n:Nat)(h0:0<n)(hgrow:cap<len+n)(h63:((len+n:Nat):Int)<=9223372036854775807)(h48:n*i.bytes<=281474976710656)(hcap:Builtin.nextslicecap (len+n) cap*i.bytes<=281474976710656):
 (Builtin.append_ #[t,tn] ty #[.slice h len cap,.int .i64 n]).run P w =
  .ok (.slice (some ⟨w.heap.size,0,none⟩) (len+n) (grownCap w (len+n) cap e)) (w.drew.alloc (.cells (d.toArray++Builtin.zeroCells z.cells n++Builtin.zeroCells z.cells (grownCap w (len+n) cap e-(len+n))) e)):=by
 have hw:IntKind.i64.wrap (n:Int)=n:=by rw[Jj];omega
 have X:¬((n:Int)<0):=by omega
 have O:¬(281474976710656<(n:Int)*(i.bytes:Int)):=by rw[<-Int.natCast_mul];omega
 have aA:¬(n*i.size=0):=Nat.mul_ne_zero (by omega) (by omega);have E:¬(len+n<=cap):=by omega
 have I:¬(281474976710656<Builtin.nextslicecap (len+n) cap*i.bytes):=by omega
 have L:¬(9223372036854775807<(len:Int)+(n:Int)):=by omega
 simp[Builtin.append_,run_underlying ht,run_underlying Y,sizeOf,typeInfo,zeroValue,hi,hz,asInt,asIntOf,hw,X,aA,O,E,I,L,Question.forced,W,newRow,grownCap]
def RH{w:World}{z e size n g cap:Nat}{xs:List Value}(h:w.ownsRow z e size (.slice (some ⟨g,0,none⟩) n cap) n xs):∃d:Array Value,w.heap[g]?=some (.cells d e (0,0))/\d.size=cap*size/\d.toList.take (n*size)=xs/\n<=cap/\cap<=maxLen:=by
 rcases h.2 with⟨I,_⟩|⟨g',cap',d,I,_,X,L,E,O,W⟩
 ·cases I
 ·cases I;exact⟨d,X,O,W,L,E⟩
end
def B3:List Pt->List Value
 | []=>[]
 | (t,v):: r=>A0 t::A0 v::B3 r
def Gj(l:List Pt):(B3 l).length=l.length*2:=by
 induction l with
 | nil=>rfl
 | cons e r ih=>obtain⟨n,f⟩:=e;simp only[B3,Cq,ih];omega
def Kq(a b:List Pt):B3 (a++b)=B3 a++B3 b:=by
 induction a with
 | nil=>rfl
 | cons e r ih=>obtain⟨n,f⟩:=e;simp[B3,ih]
def NQ(l:List Pt)(k:Nat):(B3 l).take (k*2)=B3 (l.take k):=by
 induction l generalizing k with
 | nil=>simp[B3]
 | cons e r ih=>
  obtain⟨n,f⟩:=e
  match k with
  | 0=>simp[B3]
  | k+1=>rw[show (k+1)*2=k*2+1+1 from by omega];simp[B3,ih]
def LU(l:List Pt)(k:Nat):(B3 l).drop (k*2)=B3 (l.drop k):=by
 induction l generalizing k with
 | nil=>simp[B3]
 | cons e r ih=>
  obtain⟨n,f⟩:=e
  match k with
  | 0=>simp[B3]
  | k+1=>rw[show (k+1)*2=k*2+1+1 from by omega];simp[B3,ih]
def LS(l:List Pt)(k:Nat)(h:k<l.length):(B3 l)[k*2]?=some (A0 (l[k]'h).1):=by
 induction l generalizing k with
 | nil=>simp at h
 | cons e r ih=>
  obtain⟨n,f⟩:=e
  match k with
  | 0=>simp[B3]
  | k+1=>
   have:=ih k (by simpa using h);rw[show (k+1)*2=k*2+1+1 from by omega];simpa[B3] using this
def LR(l:List Pt)(k:Nat)(h:k<l.length):(B3 l)[k*2+1]?=some (A0 (l[k]'h).2):=by
 induction l generalizing k with
 | nil=>simp at h
 | cons e r ih=>
  obtain⟨n,f⟩:=e
  match k with
  | 0=>simp[B3]
  | k+1=>
   have:=ih k (by simpa using h);rw[show (k+1)*2+1=k*2+1+1+1 from by omega];simpa[B3] using this
def Ko(l:List Pt)(k:Nat)(p:Pt)(h:k<l.length):((B3 l).set (k*2) (A0 p.1)).set (k*2+1) (A0 p.2)=B3 (l.set k p):=by
 induction l generalizing k with
 | nil=>simp at h
 | cons e r ih=>
  obtain⟨n,f⟩:=e
  match k with
  | 0=>simp[B3]
  | k+1=>
   have:=ih k (by simpa using h);rw[show (k+1)*2=k*2+1+1 from by omega];simp only[B3,Pp];rw[this]
def YE(l:List Pt)(k:Nat)(v:Int)(h:k<l.length):(B3 l).set (k*2+1) (A0 v)=B3 (l.set k ((l[k]'h).1,v)):=by
 induction l generalizing k with
 | nil=>simp at h
 | cons e r ih=>
  obtain⟨n,f⟩:=e
  match k with
  | 0=>simp[B3]
  | k+1=>
   have:=ih k (by simpa using h);rw[show (k+1)*2=k*2+1+1 from by omega];simp only[B3,Pp,MW];rw[this]
def Kp(l:List Pt):∀u∈B3 l,u.oneCell'=true:=by
 induction l with
 | nil=>simp[B3]
 | cons e r ih=>
  obtain⟨n,f⟩:=e;intro u hu;simp only[B3,BX]at hu;rcases hu with rfl|rfl|hu
  ·rfl
  ·rfl
  ·exact ih u hu
def Cb(w:World)(v:Value)(l:List Pt):Prop:=w.ownsRow 0 70 2 v l.length (B3 l)
def Cb.bn{w:World}{g n cap:Nat}{l:List Pt}(h:Cb w (AB g n cap) l)(k:Nat)(d:k<l.length):A8 w g (k*2) (A0 (l[k]'d).1)/\A8 w g (k*2+1) (A0 (l[k]'d).2):=by
 have z:n=l.length:=by
  obtain⟨_,_,e,_⟩:=Bk h;cases e;rfl
 subst z;exact⟨BD h rfl (LS l k d),BD h rfl (LR l k d)⟩
abbrev Pu:=Int×Int×Int
def AZ:List Pu->List Value
 | []=>[]
 | (s,t,v):: r=>A0 s::A0 t::A0 v::AZ r
def Yy(l:List Pu):(AZ l).length=l.length*3:=by
 induction l with
 | nil=>rfl
 | cons e r ih=>obtain⟨n,f,g⟩:=e;simp only[AZ,Cq,ih];omega
def Ib(a b:List Pu):AZ (a++b)=AZ a++AZ b:=by
 induction a with
 | nil=>rfl
 | cons e r ih=>obtain⟨n,f,g⟩:=e;simp[AZ,ih]
def Yx(l:List Pu)(k:Nat):(AZ l).take (k*3)=AZ (l.take k):=by
 induction l generalizing k with
 | nil=>simp[AZ]
 | cons e r ih=>
  obtain⟨n,f,g⟩:=e
  match k with
  | 0=>simp[AZ]
  | k+1=>rw[show (k+1)*3=k*3+1+1+1 from by omega];simp[AZ,ih]
def Ia(l:List Pu)(k:Nat)(h:k<l.length):(AZ l)[k*3]?=some (A0 (l[k]'h).1)/\(AZ l)[k*3+1]?=some (A0 (l[k]'h).2.1)/\(AZ l)[k*3+2]?=some (A0 (l[k]'h).2.2):=by
 induction l generalizing k with
 | nil=>simp at h
 | cons e r ih=>
  obtain⟨n,f,g⟩:=e
  match k with
  | 0=>simp[AZ]
  | k+1=>
   obtain⟨z,d,E⟩:=ih k (by simpa using h);rw[show (k+1)*3=k*3+1+1+1 from by omega];refine⟨by simpa[AZ] using z,by simpa[AZ] using d,by simpa[AZ] using E⟩
def Hp(l:List Pu):∀u∈AZ l,u.oneCell'=true:=by
 induction l with
 | nil=>simp[AZ]
 | cons e r ih=>
  obtain⟨n,f,g⟩:=e;intro u hu;simp only[AZ,BX]at hu;rcases hu with rfl|rfl|rfl|hu
  ·rfl
  ·rfl
  ·rfl
  ·exact ih u hu
def GL(w:World)(v:Value)(l:List Pu):Prop:=w.ownsRow 0 141 3 v l.length (AZ l)
def GL.BP{w:World}{v:Value}{l:List Pu}(h:GL w v l):
 ∃a cap,v=.slice a l.length cap/\l.length<=cap/\cap<=maxLen/\∀k (d:k<l.length),∃g,a=some (A9 g 0)/\g<w.heap.size/\A8 w g (k*3) (A0 (l[k]'d).1)/\A8 w g (k*3+1) (A0 (l[k]'d).2.1)/\A8 w g (k*3+2) (A0 (l[k]'d).2.2):=by
 rcases Bk h with⟨a,cap,rfl,I,z,L,_,_⟩;refine⟨a,cap,rfl,I,z,λk d=>?_⟩;obtain⟨g,rfl⟩:=L (by omega);obtain⟨E,W,O⟩:=Ia l k d;exact⟨g,rfl,Ay h rfl,BD h rfl E,BD h rfl W,BD h rfl O⟩
end
end Go.Proofs.YtodcnkbblippnaaGreatDoor
