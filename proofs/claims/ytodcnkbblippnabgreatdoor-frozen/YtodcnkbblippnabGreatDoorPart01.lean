/- Part 1 of a proof: walks of the program. -/
import Derived.Below
import Derived.Calls
import Derived.Conc.MuLone
import Derived.Deep.AppendSrc
import Derived.Deep.RegionHeld
import Derived.Defers
import Derived.FnData
import Derived.Laws.Append
import Derived.Laws.AppendOwn
import Derived.Laws.BitsLemmas
import Derived.Laws.Entries
import Derived.Laws.Externs
import Derived.Laws.IdiomStrings
import Derived.Laws.Rows
import Derived.Laws.Tables
import Derived.Laws.World
import Derived.Lib.Builder
import Derived.Lib.ItoaNum
import Derived.Lib.Strings
import Derived.LoopN
import Derived.OneCell
import Derived.Orders
import Derived.OwnWalk
import Derived.Still
import Derived.StillTail
import Derived.Tactics
import Derived.WideShapes
import Derived.Test.YtodcnkbblippnabGreatDoorRows
import Derived.WalkKit
import Derived.WalkSpells
import Derived.WalkLawsBesides
import Derived.Deep.AppendLies
import Derived.RegionTactic
import Derived.Laws.BitsAllLaws
import Derived.Laws.BytesString
import Derived.OrdersHeld
namespace Go.Proofs.YtodcnkbblippnabGreatDoor
set_option maxRecDepth 100000
set_option maxHeartbeats 32000000
set_option linter.defProp false
open Go.Proofs.Tryz
section
open Go.RowKit
def Ac:=@if_neg
def Af:=@if_pos
def Au:=@Nat.le_refl
def AQ:=@Nat.le_trans
def AV:=@List.mem_append
def AZ:=@List.length_append
def Bm:=@Nat.lt_of_lt_of_le
def Br:=@List.mem_cons_of_mem
def Bw:=@Go.lt_of_block
def BD:=@List.mem_cons_self
def BK:=@Go.heap_alloc_new
def BP:=@List.mem_cons
def BU:=@List.length_take
def BV:=@List.getElem_mem
def C4:=@if_false
def C9:=@List.take_length
def Cc:=@List.append_assoc
def Cg:=@if_true
def Cv:=@decide_eq_true
def Cz:=@Nat.zero_le
def CA:=@List.mem_map
def CG:=@List.length_cons
def CL:=@Go.World.ownsRow_nil
def CP:=@List.length_drop
def D4:=@decide_eq_false
def D7:=@List.pairwise_cons
def D8:=@Go.RowKit.Below.heap_alloc
def Dl:=@List.take_succ_eq_append_getElem
def Dq:=@List.drop_zero
def DE:=@List.drop_succ_cons
def DG:=@decide_eq_true_eq
def DL:=@Go.World.cell?_of_block
def DO:=@List.take_append_drop
def DP:=@List.mem_map_of_mem
def DQ:=@List.getElem_of_mem
def E2:=@List.getElem?_eq_getElem
def E4:=@Go.info_parts
def E6:=@List.map_append
def Eg:=@List.pairwise_append
def Em:=@List.take_of_length_le
def En:=@Int.toNat_natCast
def EB:=@congrArg
def EJ:=@Nat.le_of_lt
def EL:=@List.take_zero
def EM:=@Int.ofNat_lt
def EO:=@Go.rounds_succ
def EW:=@Nat.lt_or_ge
def EX:=@List.take_succ_cons
def EY:=@List.nil_append
def EZ:=@List.getElem_append_left
def F4:=@List.filter_cons
def Fm:=@List.drop_eq_getElem_cons
def Fo:=@List.cons_append
def Fx:=@List.mem_append_left
def FQ:=@Nat.lt_irrefl
def FR:=@List.length_map
def FV:=@Bool.and_eq_true
def Gf:=@List.getElem_append_right
def Gg:=@List.drop_length
def Gh:=@List.append_nil
def Gi:=@Int.natCast_nonneg
def Gx:=@Nat.zero_add
def Gy:=@List.nodup_append
def GI:=@List.take_append_of_le_length
def GJ:=@List.mem_filter
def GK:=@List.length_eq_zero_iff
def GL:=@List.filter_sublist
def GN:=@Go.RowKit.Below.heap_setCell
def GX:=@List.mem_append_right
def GY:=@List.map_cons
def Hc:=@beq_eq_false_iff_ne
def Hd:=@Go.World.block_lt_of_cell?
def Hi:=@Nat.mul_le_mul_right
def Hj:=@Nat.le_succ
def Hk:=@List.getElem?_eq_some_iff
def Hl:=@List.getElem?_append_right
def Hp:=@Int.le_refl
def Hv:=@and_true
def Hx:=@Option.map_some
def Hy:=@Nat.add_mul
def HC:=@List.getD_eq_getElem?_getD
def HH:=@Go.wp_loop_rounds
def HQ:=@Go.run_underlying
def I0:=@Go.mem_ready
def Ii:=@Nat.le_of_not_lt
def Ij:=@List.mem_singleton
def Ik:=@List.mem_of_mem_take
def Il:=@List.length_nil
def Im:=@List.getElem?_append_left
def Io:=@List.filter_cons_of_pos
def Ip:=@Array.getElem?_push_size
def IZ:=@List.length_set
def J0:=@List.length_pos_iff
def J1:=@List.length_filter_le
def J2:=@List.getElem?_drop
def J3:=@List.flatten_cons
def J4:=@List.cons_lt_cons_iff
def J6:=@Go.IntKind.wrap_i64
def J7:=@Int.add_sub_cancel
def Je:=@Go.setRow_other
def Jq:=@ne_eq
def Jy:=@Go.getD_replicate_false
def JM:=@Nat.pow_succ
def JN:=@Nat.add_lt_add_left
def JO:=@List.take_take
def JP:=@List.take_left
def JQ:=@List.set_append_right
def JR:=@List.pairwise_iff_getElem
def JS:=@List.nodup_cons
def JT:=@List.getLastD_eq_getLast?
def JU:=@List.getElem_cons_zero
def JV:=@List.filter_cons_of_neg
def JW:=@List.drop_of_length_le
def JX:=@Go.Lib.toList_data
def JY:=@Int.le_trans
def K1:=@Go.wp_region_still_tail
def K2:=@Go.wpStill_nil
def K3:=@Go.wpOp_mono
def Ka:=@Go.MuLone.unlock_deferred
def Kb:=@Go.setRow_heap
def Kh:=@Go.ready_mono
def Kv:=@Go.MuLone.lock_free
def Kw:=@Go.leaves_cons
def KI:=@decide_eq_decide
def KV:=@Go.World.drew_eq
def L0:=@Go.Src.ofSlice
def L3:=@Option.ne_none_iff_exists'
def L4:=@Nat.mul_comm
def L6:=@Nat.le_antisymm
def L7:=@Nat.add_le_add_left
def L8:=@Nat.add_assoc
def L9:=@List.size_toArray
def La:=@List.pairwise_map
def Lb:=@List.mem_of_mem_drop
def Lc:=@List.mem_of_getElem?
def Ld:=@List.mem_filterMap
def Le:=@List.lt_irrefl
def Lf:=@List.foldl_append
def Lg:=@List.eq_nil_or_concat
def Lh:=@List.drop_append_of_le_length
def Li:=@List.drop_append
def Lj:=@Int.lt_or_le
def Lk:=@Int.eq_ofNat_of_zero_le
def Ll:=@Int.emod_nonneg
def Lm:=@Array.length_toList
def Lu:=@Go.tail_waits
def LV:=@Go.getD_set_ne
def LZ:=@eq_false
def Mh:=@Go.bodyPost_ret
def Mn:=@Go.World.size_alloc
def Mo:=@Go.World.cell?_alloc_some
def Mq:=@Go.Src.ofString
def Mt:=@Nat.zero_lt_one
def Mu:=@Nat.succ_mul
def Mv:=@Nat.mul_le_mul
def Mw:=@Nat.min_eq_left
def Mx:=@Nat.lt_of_lt_of_eq
def My:=@Nat.le_succ_of_le
def Mz:=@List.sublist_flatten_of_mem
def MA:=@List.pairwise_singleton
def MB:=@List.mem_range
def MC:=@List.mem_flatten
def MD:=@List.map_congr_left
def ME:=@List.length_mergeSort
def MF:=@List.getElem?_eq_none
def MG:=@List.foldl_cons
def MH:=@List.flatMap_cons
def MI:=@List.filter_append
def MJ:=@List.eq_nil_of_length_eq_zero
def MK:=@List.drop_eq_nil_of_le
def ML:=@List.dropLast_concat_getLast
def MM:=@List.all_eq_true
def MQ:=@Int.zero_add
def MR:=@Int.ofNat_le
def MS:=@Int.lt_irrefl
def MT:=@Bool.true_and
def MU:=@Bool.false_eq_true
def MV:=@Go.RowKit.Below.refl
def MW:=@Array.getElem?_eq_none
def Np:=@Go.run_convert_bytes_back
def Nv:=@Go.results_tmp
def NO:=@Go.ownsRow_setCell_other
def NU:=@of_decide_eq_true
def NY:=@not_false_eq_true
def OK:=@dif_neg
def OL:=@decide_true
def P7:=@Go.World.cell?_setCell_other
def P9:=@Prod.mk.inj
def Pa:=@Option.some.inj
def Pd:=@Ne.symm
def Pe:=@Nat.succ_le_succ
def Pf:=@Nat.mul_one
def Pg:=@Nat.mul_assoc
def Ph:=@Nat.lt_trichotomy
def Pj:=@Nat.add_zero
def Pk:=@List.takeWhile_cons
def Pl:=@List.length_singleton
def Pm:=@List.getElem_cons_succ
def Pn:=@List.getElem?_take
def Po:=@List.getElem?_map
def Pp:=@List.any_eq_true
def Pq:=@Go.Lib.nDigits_small
def Pr:=@Go.Lib.cell_of_heap
def Ps:=@Int.toNat_of_nonneg
def Pv:=@Int.not_lt
def Pw:=@Int.neg_tmod
def Px:=@Int.emod_lt_of_pos
def Py:=@Decidable.em
def Pz:=@Decidable.byContradiction
def PE:=@Array.toList_append
def PK:=@Go.wp_region_any
def PM:=@Go.wpAny_of_seq
def Qw:=@Go.seqB_ready
def QC:=@Go.run_firstCells_some
def QP:=@Go.results_none
def Se:=@ne_of_beq_false
def Ua:=@beq_self_eq_true
def Uu:=@Go.World.var?_cell
def Uw:=@Go.Region.noSelect_spec
def Ux:=@Go.Region.free_spec
def UF:=@Option.or_none
def UG:=@Go.Oper.upon_value
def UH:=@Nat.xor_lt_two_pow
def UI:=@Nat.sub_self
def UJ:=@Nat.one_mul
def UK:=@Nat.not_lt_zero
def UL:=@Nat.not_lt
def UM:=@Nat.min_def
def UN:=@Nat.lt_succ_self
def UO:=@Nat.le_add_right
def UP:=@List.set_cons_succ
def UQ:=@List.replicate_succ
def UR:=@List.pairwise_mergeSort
def US:=@List.map_map
def UT:=@List.length_eq_one_iff
def UU:=@List.length_dropLast
def UW:=@List.flatten_append
def UX:=@List.flatMap_def
def UY:=@List.flatMap_append
def UZ:=@List.drop_left'
def V0:=@List.drop_left
def V3:=@List.dropLast_subset
def V4:=@List.concat_eq_append
def V5:=@List.append_cancel_left
def V6:=@List.Nodup.sublist
def V7:=@Go.Lib.nDigits_big
def V8:=@Go.Lib.decDigits_length
def V9:=@Int.tmod_lt_of_pos
def Va:=@Int.ne_of_lt
def Vb:=@Int.mul_le_mul_of_nonneg_left
def Ve:=@Bool.false_and
def Vf:=@Bool.eq_iff_iff
def Vg:=@Array.setIfInBounds_comm
def WN:=@Go.run_callFunc_extern
def A0U:=@decide_eq_false_iff_not
def A2K:=@Go.World.cell?_setCell_far
def A2L:=@Go.WideShapes.bytes_inj
def A2M:=@Option.map_eq_some_iff
def A2O:=@Nat.pow_le_pow_right
def A2P:=@Nat.lt_succ_of_lt
def A2Q:=@Nat.lt_of_succ_lt_succ
def A2R:=@Nat.le_of_lt_succ
def A2S:=@Nat.eq_zero_or_pos
def A2T:=@Nat.div_le_div_right
def A2U:=@Nat.add_sub_cancel_left
def A2V:=@Nat.add_sub_cancel
def A2X:=@List.setIfInBounds_toArray
def A2Y:=@List.mergeSort_perm
def A2Z:=@List.mergeSort_nil
def A20:=@List.mem_of_find?_eq_some
def A21:=@List.mem_mergeSort
def A22:=@List.mem_erase_of_ne
def A23:=@List.map_mergeSort
def A24:=@List.length_pos_of_mem
def A25:=@List.length_erase_of_mem
def A26:=@List.getLast?_eq_some_getLast
def A27:=@List.getElem_take
def A28:=@List.getElem_set_ne
def A29:=@List.getElem?_cons_succ
def A3a:=@List.find?_append
def A3b:=@List.filter_filter
def A3c:=@List.filter_eq_nil_iff
def A3d:=@List.exists_mem_of_ne_nil
def A3f:=@List.Sublist.refl
def A3g:=@List.Pairwise.imp_of_mem
def A3i:=@Int.tmod_eq_emod_of_nonneg
def A3j:=@Int.mul_tdiv_add_tmod
def A3k:=@Int.lt_or_eq_of_le
def A3l:=@Classical.byContradiction
def A3m:=@ByteArray.data_extract
def A3n:=@Array.getElem?_setIfInBounds_ne
def A3o:=@Array.getElem?_eq_some_iff
def A3p:=@Array.getElem?_eq_getElem
def A3q:=@Array.all_eq_true_iff_forall_mem
abbrev A5(b:Nat):Value:=.pointer (some ⟨b,0,none⟩)
abbrev Ab(b o:Nat):Addr:=⟨b,o,none⟩
abbrev A6(w:World)(b o:Nat)(v:Value):Prop:=w.cell? ⟨b,o,none⟩=some v
abbrev A0(n:Int):Value:=.int .i64 n
abbrev AJ(b n c:Nat):Value:=.slice (some ⟨b,0,none⟩) n c
abbrev Aa:Nat->Prop:=λ_=>False
abbrev Ah:=Calls Tryz.prog
abbrev Am(v:Value)(Q:World->Prop)(e:Ending)(w:World):Prop:=e=.returned v/\Q w
abbrev _root_.Go.World.aC(w:World)(x:Array Value)(t:TypeId):World:=w.alloc (.cells x t)
abbrev _root_.Go.World.sC(w:World)(b o:Nat)(v:Value):World:=w.setCell ⟨b,o,none⟩ v
abbrev _root_.Go.Value.oB(v:Value)(b:Nat):Prop:=v.ownBlock=some b
def _root_.Go.RowKit.Hid.o{p:Prop}(h:Hid p):p:=h
def _root_.Go.RowKit.Hid.m{P:Program}{f:FuncId}{a:Array Value}{w:World}{R Q:Ending->World->Prop}(h:Hid (Calls P f a w R))(k:∀e w',R e w'->Q e w'):Calls P f a w Q:=Calls.mono h k
def Ce(k:Nat):(0:Int)<=(k:Int):=Gi _
def FN{w:World}{b o:Nat}{x:Array Value}{t:TypeId}{f:Nat×Nat}{v:Value}(h:w.heap[b]?=some (.cells x t f))(k:x[o]?=some v:=by rfl):A6 w b o v:=by
 show w.cell? ⟨b,o,none⟩=some v;simp only[World.cell?,h];exact k
def Bz:List Nat->List Nat->List (Nat×Bool)
 | [],_=>[]
 | i::r,x=>(i,!x.elem i):: Bz r x
def Ao:(∀(a:Act) (v:Value) (d:Tmp),a.put (some d) v=⟨a.tmps.setIfInBounds d v,a.defers⟩)/\(∀(a:Act) (v:Value),a.put none v=a)/\(∀ {α:Type} {l:List α} {i:Nat} {a:α},l.toArray.setIfInBounds i a=(l.set i a).toArray)/\(∀ {α:Type} {x a:α} {xs:List α},(x::xs).set 0 a=a::xs)/\
 (∀ {α:Type} {x a:α} {xs:List α} {n:Nat},(x::xs).set (n+1) a=x::xs.set n a)/\(∀ {α:Type} {l:List α} {i:Nat} (h:i<l.toArray.size),l.toArray[i]=l[i]'(by simpa using h))/\(∀ {α:Type} {a:α} {l:List α} (h:0<(a::l).length),(a::l)[0]=a)/\
 (∀ {α:Type} {a:α} {l:List α} {i:Nat} (h:i+1<(a::l).length),(a::l)[i+1]=l[i]'(A2Q h)):=
 ⟨λ_ _ _=>rfl,λ_ _=>rfl,A2X _ _ _,rfl,rfl,λ_=>rfl,λ_=>rfl,λ_=>rfl⟩
structure A3 (S:Nat->Prop) (w w':World):Prop where
 os:w'.os=w.os
 FB:w'.tape=w.tape
 FF:w'.output=w.output
 Ak:w.heap.size<=w'.heap.size
 Al:∀k,k<w.heap.size->¬S k->w'.heap[k]?=w.heap[k]?
def A3.I(S:Nat->Prop)(w:World):A3 S w w:=⟨rfl,rfl,rfl,Au _,λ_ _ _=>rfl⟩
def A3.Av{S S':Nat->Prop}{a b c:World}(h:A3 S a b)(k:A3 S' b c)(E:∀x,S' x->x<a.heap.size->S x):A3 S a c:=
 ⟨k.os.trans h.os,k.FB.trans h.FB,k.FF.trans h.FF,AQ h.Ak k.Ak,λi d z=>
  (k.Al i (Bm d h.Ak) (λH=>z (E i H d))).trans (h.Al i d z)⟩
def A3.ad{S S':Nat->Prop}{a b:World}(h:A3 S a b)(z:∀x,x<a.heap.size->S x->S' x):A3 S' a b:=
 ⟨h.os,h.FB,h.FF,h.Ak,λk d H=>h.Al k d (λE=>H (z k d E))⟩
def A3.af{S:Nat->Prop}{a w:World}(h:A3 S a w):A3 S a w.drew:=⟨h.os,h.FB,h.FF,h.Ak,h.Al⟩
def A3.bb{S:Nat->Prop}{a w:World}(h:A3 S a w)(n:Nat):A3 S a (w.drewN n):=⟨h.os,h.FB,h.FF,h.Ak,h.Al⟩
def A3.aj{S:Nat->Prop}{a w:World}(h:A3 S a w)(o:Obj):A3 S a (w.alloc o):=
 ⟨h.os,h.FB,h.FF,by have:=h.Ak;simp;omega,λk d z=>(D8 _ _ _ (Bm d h.Ak)).trans (h.Al k d z)⟩
def A3.tr{S:Nat->Prop}{a b c:World}(h:A3 S a b)(k:A3 S b c):A3 S a c:=h.Av k λ_ h _=>h
def A3.aC{S:Nat->Prop}{a w:World}(h:A3 S a w)(x:Array Value)(t:TypeId):A3 S a (w.alloc (.cells x t)):=h.aj _
def A3.bp{S:Nat->Prop}{a w:World}(h:A3 S a w){p:Addr}(E:p.block<a.heap.size->S p.block)(u:Value):A3 S a (w.setCell p u):=
 ⟨h.os,h.FB,h.FF,by simpa using h.Ak,λk d z=>(GN _ _ _ _ (λe=>by subst e;exact z (E d))).trans (h.Al k d z)⟩
def A3.Ct{S:Nat->Prop}{a w w':World}{row:Option Nat}(h:A3 S a w)(d:w.grownBy w' row)(H:∀k,row=some k->k<a.heap.size->S k):A3 S a w':=
 ⟨d.os.trans h.os,d.tape.trans h.FB,d.output.trans h.FF,AQ h.Ak d.size,λk z E=>
  (d.block k (Bm z h.Ak) (λe=>E (H k e.symm z))).trans (h.Al k z E)⟩
def A3.dN{S:Nat->Prop}{a b:World}{B:Nat}(h:A3 S a b)(z:B<=a.heap.size)(E:∀k,k<B->¬S k):Below B a b:=
 ⟨h.os,h.FB,h.FF,h.Ak,λk d=>h.Al k (Bm d z) (E k d)⟩
def A3.ak{S:Nat->Prop}{a b:World}(h:A3 S a b){k:Nat}{o:Obj}(d:a.heap[k]?=some o)(z:¬S k):b.heap[k]?=some o:=
 (h.Al k (Bw d) z).trans d
def One(b:Nat):Nat->Prop:=λk=>k=b
def A3.aq{S:Nat->Prop}{a w:World}(h:A3 S a w){b:Nat}(d:S b)(o:Nat)(u:Value):A3 S a (w.setCell (Ab b o) u):=h.bp (p:=(Ab b o)) (λ_=>d) u
def A1{p:Prop}(h:p):Hid p:=h
def FO(S:Nat->Prop)(w w':World):Prop:=∀k,S k->w'.heap[k]?=w.heap[k]?
def FO.ad{S S':Nat->Prop}{w w':World}(h:FO S w w')(z:∀k,S' k->S k):FO S' w w':=λk d=>h k (z k d)
def A3.aI{S T:Nat->Prop}{w w':World}(h:A3 S w w')(E:∀k,T k->k<w.heap.size)(z:∀k,T k->¬S k):FO T w w':=λk d=>h.Al k (E k d) (z k d)
def Ay{w w':World}{d e size n:Nat}{v:Value}{xs:List Value}(h:w.ownsRow d e size v n xs)(L:∀g,v.ownBlock=some g->w'.heap[g]?=w.heap[g]?):w'.ownsRow d e size v n xs:=by
 refine⟨h.1,?_⟩;rcases h.2 with E|⟨g,cap,z,rfl,I,H,r⟩
 ·exact .inl E
 ·exact .inr ⟨g,cap,z,rfl,I,by rw[L g rfl];exact H,r⟩
def Az{w:World}{d e size n:Nat}{v:Value}{xs:List Value}(h:w.ownsRow d e size v n xs){g:Nat}(z:v.ownBlock=some g):g<w.heap.size:=(h.lt g z).2
def Bd{w:World}{z e size n:Nat}{v:Value}{xs:List Value}(h:w.ownsRow z e size v n xs){g:Nat}(E:v.ownBlock=some g):∃d,w.heap[g]?=some (.cells d e (0,0)):=by
 rcases h.2 with⟨rfl,_⟩|⟨g',cap,d,rfl,_,H,_⟩
 ·simp[Value.ownBlock]at E
 ·simp[Value.ownBlock]at E;subst E;exact⟨d,H⟩
def BF{w:World}{d e size n:Nat}{v:Value}{xs:List Value}(h:w.ownsRow d e size v n xs){g:Nat}(z:v.ownBlock=some g){j:Nat}{u:Value}(hu:xs[j]?=some u):A6 w g j u:=by
 have:=h.cells z j u hu;unfold Addr.add at this;split at this
 ·rename_i E;rw[E];exact this
 ·simpa using this
def G1{w:World}{d e size n:Nat}{v:Value}{xs:List Value}(h:w.ownsRow d e size v n xs){g:Nat}(E:v.ownBlock=some g)(j:Nat):w.frozen? (Ab g j)=false:=by
 obtain⟨cur,z⟩:=Bd h E;simp[World.frozen?,z]
def B9{w:World}{d e size n:Nat}{v:Value}{xs:List Value}(h:w.ownsRow d e size v n xs):
 ∃a cap,v=.slice a n cap/\n<=cap/\cap<=maxLen/\(0<n->∃g,a=some (Ab g 0))/\(a=none->n=0/\cap=0)/\(∀x,a=some x->∃g,x=(Ab g 0)):=by
 rcases h.2 with⟨rfl,H⟩|⟨g,cap,cur,rfl,_,hg,z,I,hs,_⟩
 ·exact⟨none,0,by rw[H],by omega,by decide,by omega,λ_=>⟨H,rfl⟩,λx E=>by cases E⟩
 ·exact⟨_,cap,rfl,z,I,λ_=>⟨g,rfl⟩,by simp,λx E=>⟨g,by cases E;rfl⟩⟩
def RI{w:World}{d e size n cap:Nat}{a:Option Addr}{xs:List Value}(h:w.ownsRow d e size (.slice a n cap) n xs){m:Nat}(hm:m<=n):w.ownsRow d e size (.slice a m cap) m (xs.take (m*size)):=by
 have I:m*size<=n*size:=Hi _ hm;refine⟨by rw[BU,h.1];omega,?_⟩;rcases h.2 with⟨z,L⟩|⟨g,cap',H,z,W,Y,hcap,E,hs,O⟩
 ·subst L;cases z;obtain rfl:m=0:=by omega
  exact .inl ⟨rfl,rfl⟩
 ·cases z;exact .inr ⟨g,cap,H,rfl,W,Y,by omega,E,hs,by rw[<-O,JO,Mw I]⟩
def OY(a b:ByteArray):(a.toList==b.toList)=true↔a=b:=by
 rw[beq_iff_eq,JX,JX];exact⟨λh=>A2L h,λh=>by rw[h]⟩
def U4(a b:ByteArray):(a.toList==b.toList)=false↔a≠b:=by
 have:=OY a b;constructor
 ·intro h e;rw[this.2 e]at h;cases h
 ·intro h;cases hx:(a.toList==b.toList) with
  | false=>rfl
  | true=>exact absurd (this.1 hx) h
abbrev AL:=ByteArray×Nat
def BX:List AL->List Value
 | []=>[]
 | (n,f):: r=>.string n::(A5 f):: BX r
def A0J(es:List AL):(BX es).length=es.length*2:=by
 induction es with
 | nil=>rfl
 | cons e r ih=>obtain⟨n,f⟩:=e;simp only[BX,CG,ih];omega
def KG(a b:List AL):BX (a++b)=BX a++BX b:=by
 induction a with
 | nil=>rfl
 | cons e r ih=>obtain⟨n,f⟩:=e;simp[BX,ih]
def A0I(es:List AL)(k:Nat):(BX es).take (k*2)=BX (es.take k):=by
 induction es generalizing k with
 | nil=>simp[BX]
 | cons e r ih=>
  obtain⟨n,f⟩:=e
  match k with
  | 0=>simp[BX]
  | k+1=>rw[show (k+1)*2=k*2+1+1 from by omega];simp[BX,ih]
def A0K(es:List AL)(k:Nat):(BX es).drop (k*2)=BX (es.drop k):=by
 induction es generalizing k with
 | nil=>simp[BX]
 | cons e r ih=>
  obtain⟨n,f⟩:=e
  match k with
  | 0=>simp[BX]
  | k+1=>rw[show (k+1)*2=k*2+1+1 from by omega];simp[BX,ih]
def OD(es:List AL)(k:Nat)(h:k<es.length):(BX es)[k*2]?=some (.string (es[k]'h).1):=by
 induction es generalizing k with
 | nil=>simp at h
 | cons e r ih=>
  obtain⟨n,f⟩:=e
  match k with
  | 0=>simp[BX]
  | k+1=>
   have:=ih k (by simpa using h);rw[show (k+1)*2=k*2+1+1 from by omega];simpa[BX] using this
def OB(es:List AL)(k:Nat)(h:k<es.length):(BX es)[k*2+1]?=some (A5 ((es[k]'h).2)):=by
 induction es generalizing k with
 | nil=>simp at h
 | cons e r ih=>
  obtain⟨n,f⟩:=e
  match k with
  | 0=>simp[BX]
  | k+1=>
   have:=ih k (by simpa using h);rw[show (k+1)*2+1=k*2+1+1+1 from by omega];simpa[BX] using this
def OC(es:List AL):∀u∈BX es,u.oneCell'=true:=by
 induction es with
 | nil=>simp[BX]
 | cons e r ih=>
  obtain⟨n,f⟩:=e;intro u hu;simp only[BX,BP]at hu;rcases hu with rfl|rfl|hu
  ·rfl
  ·rfl
  ·exact ih u hu
def CY(w:World)(v:Value)(es:List AL):Prop:=w.ownsRow 0 70 2 v es.length (BX es)
def CY.Cf{w:World}{v:Value}{es:List AL}(h:CY w v es):
 ∃a cap,v=.slice a es.length cap/\es.length<=cap/\cap<=maxLen/\∀k (d:k<es.length),∃g,a=some (Ab g 0)/\A6 w g (k*2) (.string (es[k]'d).1)/\A6 w g (k*2+1) (A5 ((es[k]'d).2)):=by
 rcases B9 h with⟨a,cap,rfl,E,z,H,_,_⟩;refine⟨a,cap,rfl,E,z,λk d=>?_⟩;obtain⟨g,rfl⟩:=H (by omega);exact⟨g,rfl,BF h rfl (OD es k d),BF h rfl (OB es k d)⟩
def B2:List AL->ByteArray->Int
 | [],_=>-1
 | e::r,name=>if e.1=name then 0 else if B2 r name<0 then -1 else B2 r name+1
def A0E(es:List AL)(name:ByteArray)(k:Nat)(z:k<es.length)(h:(es[k]'z).1=name)(d:∀m (H:m<k),(es[m]'(by omega)).1≠name):B2 es name=k:=by
 induction es generalizing k with
 | nil=>simp at z
 | cons e r ih=>
  match k with
  | 0=>simp only[JU]at h;simp[B2,h]
  | k+1=>
   have E:=d 0 (by omega);simp only[JU]at E;have:=ih k (by simpa using z) (by simpa using h) (λm H=>by simpa using d (m+1) (by omega));simp only[B2,E,C4,this];rw[Ac (by omega)];omega
def A0C(es:List AL)(name:ByteArray)(d:∀m (h:m<es.length),(es[m]'h).1≠name):B2 es name = -1:=by
 induction es with
 | nil=>rfl
 | cons e r ih=>
  have z:=d 0 (by simp);simp only[JU]at z;have:=ih (λm h=>by have:=d (m+1) (by simp;omega);simpa using this);simp[B2,z,this]
def Tu(es:List AL)(name:ByteArray): -1<=B2 es name/\B2 es name<es.length:=by
 induction es with
 | nil=>simp[B2]
 | cons e r ih=>
  simp only[B2,CG];split
  ·omega
  ·split<;>omega
def Oz(es:List AL)(name:ByteArray):(B2 es name = -1/\∀e∈es,e.1≠name)\/∃k,∃d:k<es.length,B2 es name=(k:Int)/\(es[k]'d).1=name:=by
 induction es with
 | nil=>exact .inl ⟨rfl,by simp⟩
 | cons e r ih=>
  by_cases h:e.1=name
  ·exact .inr ⟨0,by simp,by simp[B2,h],by simpa using h⟩
  ·rcases ih with⟨E,z⟩|⟨k,d,E,z⟩
   ·exact .inl ⟨by simp[B2,h,E],λx H=>by rcases BP.1 H with rfl|H;exact h;exact z x H⟩
   ·exact .inr ⟨k+1,by simpa using d,by simp only[B2,h,C4,E];rw[Ac (by omega)];omega,by simpa using z⟩
structure DN where
 AB:Int
 AP:Int
 BT:Int
 BJ:Int
 Bq:Int
 B5:Int
 fulls:Int
 AS:Bool
def GD(vd vs vc:Value)(n:DN):Array Value:=
 #[vd,vs,vc,A0 n.AB,A0 n.AP,A0 n.BT,A0 n.BJ,A0 n.Bq,A0 n.B5,A0 n.fulls,.bool n.AS]
def AK(w:World)(b:Nat)(vd vs vc:Value)(n:DN):Prop:=w.heap[b]?=some (.cells (GD vd vs vc n) 60 (0,0))
section
variable {w:World} {b:Nat} {vd vs vc:Value} {n:DN}
def AK.c0(h:AK w b vd vs vc n):A6 w b 0 vd:=by unfold AK at h;simp[A6,World.cell?,h,GD]
def AK.c1(h:AK w b vd vs vc n):A6 w b 1 vs:=by unfold AK at h;simp[A6,World.cell?,h,GD]
def AK.c2(h:AK w b vd vs vc n):A6 w b 2 vc:=by unfold AK at h;simp[A6,World.cell?,h,GD]
def AK.c3(h:AK w b vd vs vc n):A6 w b 3 (A0 n.AB):=by unfold AK at h;simp[A6,World.cell?,h,GD]
def AK.c4(h:AK w b vd vs vc n):A6 w b 4 (A0 n.AP):=by unfold AK at h;simp[A6,World.cell?,h,GD]
def AK.c5(h:AK w b vd vs vc n):A6 w b 5 (A0 n.BT):=by unfold AK at h;simp[A6,World.cell?,h,GD]
def AK.c6(h:AK w b vd vs vc n):A6 w b 6 (A0 n.BJ):=by unfold AK at h;simp[A6,World.cell?,h,GD]
def AK.c7(h:AK w b vd vs vc n):A6 w b 7 (A0 n.Bq):=by unfold AK at h;simp[A6,World.cell?,h,GD]
def AK.c8(h:AK w b vd vs vc n):A6 w b 8 (A0 n.B5):=by unfold AK at h;simp[A6,World.cell?,h,GD]
def AK.c9(h:AK w b vd vs vc n):A6 w b 9 (A0 n.fulls):=by unfold AK at h;simp[A6,World.cell?,h,GD]
def AK.bZ(h:AK w b vd vs vc n):A6 w b 10 (.bool n.AS):=by unfold AK at h;simp[A6,World.cell?,h,GD]
def AK.fz(h:AK w b vd vs vc n)(o:Nat):w.frozen? (Ab b o)=false:=by unfold AK at h;simp[World.frozen?,h]
def AK.lt(h:AK w b vd vs vc n):b<w.heap.size:=Bw h
def CH{w:World}{b:Nat}{c:Array Value}{e:Nat}{o:Nat}{v:Value}(h:w.heap[b]?=some (.cells c e (0,0))):(w.setCell (Ab b o) v).heap[b]?=some (.cells (c.setIfInBounds o v) e (0,0)):=by
 simp[World.setCell,Array.getElem?_modify,h]
def AK.aI{w':World}(h:AK w b vd vs vc n)(d:w'.heap[b]?=w.heap[b]?):AK w' b vd vs vc n:=d.trans h
def AK.aj(h:AK w b vd vs vc n)(o:Obj):AK (w.alloc o) b vd vs vc n:=h.aI (D8 _ _ _ h.lt)
def AK.Ct{w':World}{row:Option Nat}(h:AK w b vd vs vc n)(z:w.grownBy w' row)(d:row≠some b):AK w' b vd vs vc n:=h.aI (z.block b h.lt (λe=>d e.symm))
def AK.An{S:Nat->Prop}{w':World}(h:AK w b vd vs vc n)(z:A3 S w w')(d:¬S b):AK w' b vd vs vc n:=h.aI (z.Al b h.lt d)
def AK.s0(h:AK w b vd vs vc n)(v:Value):AK (w.setCell (Ab b 0) v) b v vs vc n:=CH h
def AK.s1(h:AK w b vd vs vc n)(v:Value):AK (w.setCell (Ab b 1) v) b vd v vc n:=CH h
def AK.s2(h:AK w b vd vs vc n)(v:Value):AK (w.setCell (Ab b 2) v) b vd vs v n:=CH h
def AK.s4(h:AK w b vd vs vc n)(x:Int):AK (w.setCell (Ab b 4) (A0 x)) b vd vs vc {n with AP:=x}:=CH h
def AK.s5(h:AK w b vd vs vc n)(x:Int):AK (w.setCell (Ab b 5) (A0 x)) b vd vs vc {n with BT:=x}:=CH h
def AK.s6(h:AK w b vd vs vc n)(x:Int):AK (w.setCell (Ab b 6) (A0 x)) b vd vs vc {n with BJ:=x}:=CH h
def AK.s7(h:AK w b vd vs vc n)(x:Int):AK (w.setCell (Ab b 7) (A0 x)) b vd vs vc {n with Bq:=x}:=CH h
def AK.s8(h:AK w b vd vs vc n)(x:Int):AK (w.setCell (Ab b 8) (A0 x)) b vd vs vc {n with B5:=x}:=CH h
def AK.s9(h:AK w b vd vs vc n)(x:Int):AK (w.setCell (Ab b 9) (A0 x)) b vd vs vc {n with fulls:=x}:=CH h
def AK.eg(h:AK w b vd vs vc n)(x:Bool):AK (w.setCell (Ab b 10) (.bool x)) b vd vs vc {n with AS:=x}:=CH h
end
def CW(w:World)(f:Nat)(vb:Value)(Ad:Int):Prop:=w.heap[f]?=some (.cells #[vb,A0 Ad] 68 (0,0))
section
variable {w:World} {f:Nat} {vb:Value} {Ad:Int}
def CW.c0(h:CW w f vb Ad):A6 w f 0 vb:=by unfold CW at h;simp[A6,World.cell?,h]
def CW.c1(h:CW w f vb Ad):A6 w f 1 (A0 Ad):=by unfold CW at h;simp[A6,World.cell?,h]
def CW.fz(h:CW w f vb Ad)(o:Nat):w.frozen? (Ab f o)=false:=by unfold CW at h;simp[World.frozen?,h]
def CW.s0(h:CW w f vb Ad)(v:Value):CW (w.setCell (Ab f 0) v) f v Ad:=CH h
def CW.s1(h:CW w f vb Ad)(x:Int):CW (w.setCell (Ab f 1) (A0 x)) f vb x:=CH h
end
def DX(bs:List UInt8):List Value:=bs.map λb=>.int .u8 b.toNat
def Fz(w:World)(v:Value)(bs:List UInt8):Prop:=w.ownsRow 0 5 1 v bs.length (DX bs)
def A1T(a b:List UInt8):DX (a++b)=DX a++DX b:=E6
def A3.cL{S:Nat->Prop}{w w':World}(h:Below w.heap.size w w'):A3 S w w':=⟨h.os,h.tape,h.output,h.size,λk d _=>h.block k d⟩
def A3.ao{w w':World}(h:A3 Aa w w'){p:Addr}{v:Value}(d:w.cell? p=some v):w'.cell? p=some v:=by
 have z:p.block<w.heap.size:=by
  rcases EW p.block w.heap.size with h|h
  ·exact h
  ·unfold World.cell? at d;rw[MW h]at d;simp at d
 unfold World.cell? at d ⊢;rw[h.Al _ z (λh=>h)];exact d
structure App (w w':World) (e size:Nat) (v v':Value) (n:Nat) (xs:List Value):Prop where
 AF:w'.ownsRow 0 e size v' n xs
 Ct:w.grownBy w' v.ownBlock
 Cy:v'.ownBlock=v.ownBlock\/v'.ownBlock=some w.heap.size
 Cf:∃a cap,v'=.slice a n cap
def WQ{P:Program}(w:World)(t tx ty e:TypeId)(i:TypeInfo)(z:Value)(size bytes:Nat)(ht:P.underlying t=some (.slice e))(hi:P.info? e=some i)(hz:i.zero=some z)(W:i.size=size)(aK:i.bytes=bytes)(aM:z.cells.size=size)(aJ:0<bytes)(v:Value)(n:Nat)(xs:List Value)(d:w.ownsRow 0 e size v n xs)(x:Value)(m:Nat)(news:List Value)(L:Src P size tx x m news w)(H:(n+m)*bytes<=140737488355328):
 ∃v' w',(Builtin.append_ #[t,tx] ty #[v,x]).run P w=.ok v' w'/\App w w' e size v v' (n+m) (xs++news):=by
 subst W;subst aK;have hnm:=AQ (Nat.le_mul_of_pos_right _ aJ) H;have h:(xs++news).length=(n+m)*i.size:=by rw[AZ,d.1,L.newsLen,Hy]
 obtain⟨a,cap,rfl,hnc,aH,_,aE,Y⟩:=B9 d;by_cases E:n+m<=cap
 ·rcases d.2 with⟨h1,h2⟩|⟨g,cap',I,h1,_,hg,_,_,aL,aA⟩
  ·cases h1;(obtain rfl:m=0:=by omega);have hn:=MJ (by simpa using L.newsLen);subst hn;have hx:=MJ (by simpa using d.1);subst hx;refine⟨.slice none 0 0,w,?_,⟨CL w 0 e i.size,⟨rfl,rfl,rfl,Au _,λ_ _ _=>rfl⟩,.inl rfl,⟨none,0,rfl⟩⟩⟩;rcases L.kind with⟨e',O⟩|O<;>simp[Builtin.append_,run_underlying ht,run_underlying O,sizeOf,typeInfo,hi,L.len,L.cells]
  ·cases h1;(have aF:n*i.size+news.length<=I.size:=by rw[L.newsLen,aL,<-Hy];exact Hi _ E);have aB:=run_storeCells_at P g (n*i.size) e news 0 I w hg (by simpa using aF) L.one;simp only[Pj]at aB;have hr:(Builtin.append_ #[t,tx] ty #[AJ g n cap,x]).run P w=.ok (AJ g (n+m) cap) (w.setRow g (I.toList.take (n*i.size)++news++I.toList.drop (n*i.size+news.length)).toArray):=by
    rcases L.kind with⟨e',O⟩|O<;>simp[Builtin.append_,run_underlying ht,run_underlying O,sizeOf,typeInfo,hi,L.len,E,L.cells,Addr.add_lit,aB]
   refine⟨_,_,hr,⟨⟨h,.inr ⟨g,cap,_,rfl,Cz _,Kb w g I _ e _ hg,E,aH,?_,?_⟩⟩,⟨rfl,rfl,rfl,by simp,λk _ O=>Je w g k _ (λe=>O (by simp[Value.ownBlock,e]))⟩,.inl rfl,⟨_,_,rfl⟩⟩⟩
   ·simp only[L9,AZ,BU,CP,Lm];omega
   ·rw[aA,<-h];exact JP
 ·have aD:(Builtin.firstCells i.size n (.slice a n cap)).run P w.drew=.ok xs.toArray w.drew:=by
   cases a with
   | none=>
    obtain⟨rfl,_⟩:=aE rfl;have hx:=MJ (by simpa using d.1);subst hx;exact run_firstCells_none w.drew i.size 0 0 cap
   | some ad=>
    obtain⟨g,rfl⟩:=Y ad rfl;exact QC w.drew i.size n _ n cap xs d.1 (by simpa using d.cells (g:=g) rfl)
  have hr:=run_append_grow_src (P:=P) w t tx ty e i z ht hi hz a n cap xs aD x m news L (by omega) (by omega) (growslice_fits (by omega) H);have aG:=grownCap_ge w (n+m) cap e;have aI:=grownCap_le_maxLen w (n+m) cap e (by unfold maxLen;omega);refine⟨_,_,hr,⟨⟨h,.inr ⟨w.heap.size,_,_,rfl,Cz _,BK w.drew _,aG,aI,?_,?_⟩⟩,⟨rfl,rfl,rfl,by simp,λk O _=>D8 w.drew _ k O⟩,.inr rfl,⟨_,_,rfl⟩⟩⟩
  ·simp only[Array.size_append,L9,size_zeroCells,aM,h,<-Hy]
   congr 1
   omega
  ·simp only[PE];rw[<-h];exact JP
section
variable {P:Program} {w:World}
def HI{o:Oper}{a:Act}{K:Act->World->Prop}{Q:Exit->Act->World->Prop}(s x:Operand)(t W:TypeId)(ho:o.op=.call {callee:=.builtin .append,args:=#[s,x],argTypes:=#[t,W]})(e:TypeId)(i:TypeInfo)(z:Value)(size bytes:Nat)(ht:P.underlying t=some (.slice e))(hi:P.info? e=some i)(hz:i.zero=some z)(E:i.size=size)(L:i.bytes=bytes)(O:z.cells.size=size)(I:0<bytes)(v:Value)(n:Nat)(xs:List Value)(hv:a.eval s=v)(H:w.ownsRow 0 e size v n xs)(sv:Value)(m:Nat)(news:List Value)(hx:a.eval x=sv)(hs:Src P size W sv m news w)(d:(n+m)*bytes<=140737488355328)(h:∀b cap w',App w w' e size v (.slice b (n+m) cap) (n+m) (xs++news)->K (a.put o.dst (.slice b (n+m) cap)) w'):o.wp P a w K Q:=by
 obtain⟨v',w',hr,Y⟩:=WQ (P:=P) w t W o.type e i z size bytes ht hi hz E L O I v n xs H sv m news hs d;obtain⟨b,cap,rfl⟩:=Y.Cf;unfold Oper.wp execOp;simp only[ho,resolve,invoke,builtin,Sem.run_bind,Sem.run_pure,Result.andThen_ok,List.map_toArray,GY,List.map_nil,hv,hx,hr];exact h b cap w' Y
def D9{ops:Array Oper}{rest:List Oper}{o:Oper}{a:Act}{Q:Exit->Act->World->Prop}(I:o.guard=none)(s x:Operand)(t Y:TypeId)(ho:o.op=.call {callee:=.builtin .append,args:=#[s,x],argTypes:=#[t,Y]})(e:TypeId)(i:TypeInfo)(z:Value)(size bytes:Nat)(ht:P.underlying t=some (.slice e))(hi:P.info? e=some i)(hz:i.zero=some z)(E:i.size=size)(O:i.bytes=bytes)(W:z.cells.size=size)(L:0<bytes)(v:Value)(n:Nat)(xs:List Value)(hv:a.eval s=v)(H:w.ownsRow 0 e size v n xs)(sv:Value)(m:Nat)(news:List Value)(hx:a.eval x=sv)(hs:Src P size Y sv m news w)(d:(n+m)*bytes<=140737488355328)(h:∀b cap w',App w w' e size v (.slice b (n+m) cap) (n+m) (xs++news)->wpList P ops Q rest (a.put o.dst (.slice b (n+m) cap)) w'):wpList P ops Q (o::rest) a w:=
 wpList_plain I λ_ hK=>HI s x t Y ho e i z size bytes ht hi hz E O W L v n xs hv H sv m news hx hs d λb cap w' hA=>hK _ _ (h b cap w' hA)
def Jc{y:Nat->Option Bool}{o:Oper}{a:Act}{K:Act->World->Prop}{Q:Exit->Act->World->Prop}{E:Prop}(L:o.guard=none)(s x:Operand)(t tx:TypeId)(ho:o.op=.call {callee:=.builtin .append,args:=#[s,x],argTypes:=#[t,tx]})(e:TypeId)(i:TypeInfo)(z:Value)(size bytes:Nat)(ht:P.underlying t=some (.slice e))(hi:P.info? e=some i)(hz:i.zero=some z)(H:i.size=size)(W:i.bytes=bytes)(Y:z.cells.size=size)(O:0<bytes)(v:Value)(n:Nat)(xs:List Value)(hv:a.eval s=v)(I:w.ownsRow 0 e size v n xs)(sv:Value)(m:Nat)(news:List Value)(hx:a.eval x=sv)(hs:Src P size tx sv m news w)(d:(n+m)*bytes<=140737488355328)(h:∀b cap w',App w w' e size v (.slice b (n+m) cap) (n+m) (xs++news)->K (a.put o.dst (.slice b (n+m) cap)) w'):
 if Region.wanted o y=true then Oper.wp P o a w K Q else E:=by
 have hw:Region.wanted o y=true:=by simp[Region.wanted,L]
 rw[Af hw];exact HI s x t tx ho e i z size bytes ht hi hz H W Y O v n xs hv I sv m news hx hs d h
def Src.ct{size:Nat}{h I:TypeId}(z:P.underlying h=some (.slice I)){B:Nat}{d:Array Value}{t:TypeId}{O:Nat×Nat}(L:w.heap[B]?=some (.cells d t O))(m c:Nat)(E:d.size=m*size)(H:∀u∈d.toList,u.oneCell'=true):Src P size h (.slice (some ⟨B,0,none⟩) m c) m d.toList w:=
 L0 w z _ m c _ (by simpa using E) (World.news_of_block L) H
def Src.bc{size:Nat}{h L:TypeId}(z:P.underlying h=some (.slice L))(w:World)(d:Array Value)(t B:Nat)(I:w.heap.size=B)(m c:Nat)(E:d.size=m*size)(H:∀u∈d.toList,u.oneCell'=true):Src P size h (.slice (some ⟨B,0,none⟩) m c) m d.toList (w.alloc (.cells d t)):=by
 subst I;exact Src.ct z (BK _ _) m c E H
def Src.bN{size:Nat}{H L e:TypeId}(E:P.underlying H=some (.slice L)){v:Value}{m:Nat}{news:List Value}(h:w.ownsRow 0 e size v m news)(I:∀u∈news,u.oneCell'=true):Src P size H v m news w:=by
 obtain⟨a,cap,rfl,_,_,_,z,d⟩:=B9 h;cases a with
 | none=>
  obtain⟨rfl,rfl⟩:=z rfl;have O:=MJ (by simpa using h.1);subst O;exact Src.ofNil w E 0
 | some ad=>
  obtain⟨g,rfl⟩:=d ad rfl;exact L0 w E _ m cap news h.1 (h.cells rfl) I
end
def Ja(s:Nat):Nat:=(s/2) ^^^ (3988292384*(s &&& 1))
def J9(s:Nat):Nat->Nat
 | 0=>s
 | n+1=>Ja (J9 s n)
def Lx(s:Nat)(b:UInt8):Nat:=J9 (s ^^^ b.toNat) 8
def AU(s:Nat)(bs:List UInt8):Nat:=bs.foldl Lx s
def Un(s:Nat):s &&& 1<=1:=Nat.and_le_right
def Ql(s:Nat)(h:s<4294967296):Ja s<4294967296:=by
 unfold Ja;have:=Un s;exact UH (n:=32) (by omega) (by omega)
def Wc(s n:Nat)(h:s<4294967296):J9 s n<4294967296:=by
 induction n with
 | zero=>exact h
 | succ n ih=>exact Ql _ ih
def Wb(s:Nat)(b:UInt8)(h:s<4294967296):Lx s b<4294967296:=by
 have:=b.toNat_lt;exact Wc _ _ (UH (n:=32) (by omega) (by omega))
def J8(s:Nat)(bs:List UInt8)(h:s<4294967296):AU s bs<4294967296:=by
 unfold AU
 induction bs generalizing s with
 | nil=>exact h
 | cons b t ih=>exact ih _ (Wb s b h)
def W8(s:Nat)(a b:List UInt8):AU s (a++b)=AU (AU s a) b:=Lf
def W6(s:Nat)(bs:List UInt8)(k:Nat)(d:k<bs.length):AU s (bs.take (k+1))=Lx (AU s (bs.take k)) (bs[k]'d):=by
 rw[Dl d,W8];rfl
def A2E(w:World)(s:Nat)(text:ByteArray)(hs:s<4294967296)(hl:text.size<=9223372036854775807):
 Ah 118 #[.int .u32 s,.string text] w (Am (.int .u32 (AU s text.data.toList)) λw'=>w=w'):=by
 go_enter func118,ntmps118
 go_wp2;go_loop [0,8] (λc i=>∃k x:Nat,k<=text.size/\i=A0 k/\c=.int .u32 x/\x<4294967296/\Hid (x=AU s (text.data.toList.take k))) (λ_ i=>text.size-(intOf i).toNat)
 case atStart=>exact⟨0,s,Cz _,rfl,rfl,hs,rfl⟩
 case round=>
  obtain⟨k,x,hk,rfl,rfl,hx,I⟩:=hrel;by_cases d:k<text.size
  ·have hb:=(text[k]'d).toNat_lt;have Y:bits .xor .u32 (x:Int) (((text[k]'d).toNat:Int) % 4294967296)=((x ^^^ (text[k]'d).toNat:Nat):Int):=by
    rw[show (((text[k]'d).toNat:Int) % 4294967296)=(((text[k]'d).toNat:Nat):Int) by omega];exact u32_xor_nat _ _ hx (by omega)
   have hy:x ^^^ (text[k]'d).toNat<4294967296:=UH (n:=32) (by omega) (by omega);have H:Hid (J9 (x ^^^ (text[k]'d).toNat) 8=AU s (text.data.toList.take (k+1))):=by
    unfold Hid;rw[W6 s _ k (by simpa using d),<-I.o];simp[Lx];rfl
   generalize L:x ^^^ (text[k]'d).toNat=y at Y hy H;clear L hb I;go_wp2;clear Y;go_loop [0,17] (λc i=>∃j z:Nat,j<=8/\i=A0 j/\c=.int .u32 z/\z<4294967296/\Hid (z=J9 y j)) (λ_ i=>8-(intOf i).toNat)
   case atStart=>exact⟨0,y,Cz _,rfl,rfl,hy,rfl⟩
   case round=>
    obtain⟨j,z,hj,rfl,rfl,O,E⟩:=hrel;by_cases hj8:j<8
    ·have e1:bits .xor .u32 ((z:Int)/2) (3988292384*bits .and .u32 (z:Int) 1 % 4294967296)=((Ja z:Nat):Int):=by
      rw[show (1:Int)=((1:Nat):Int) from rfl,u32_and_nat z 1 O (by omega)];have:=Un z;(have e2:(3988292384:Int)*((z &&& 1:Nat):Int) % 4294967296=((3988292384*(z &&& 1):Nat):Int):=by omega);rw[e2,show ((z:Int)/2)=((z/2:Nat):Int) by omega];exact u32_xor_nat _ _ (by omega) (by omega)
     have W:=Ql z O;(have h:Hid (Ja z=J9 y (j+1)):=by unfold Hid;rw[E.o];rfl);go_wp2;exact⟨⟨j+1,Ja z,by omega,by go_num,rfl,W,h⟩,by simp[intOf];omega⟩
    ·(obtain rfl:j=8:=by omega);(have h:Hid (z=AU s (text.data.toList.take (k+1))):=by unfold Hid;rw[E.o];exact H.o);go_wp2;exact⟨⟨k+1,z,by omega,by go_num,rfl,O,h⟩,by simp[intOf];omega⟩
  ·have h:Hid (x=AU s text.data.toList):=by
    unfold Hid;rw[I.o,Em];simpa using by omega
   go_wp2;go_ret;rw[h.o];exact⟨rfl,rfl⟩
def extract_mk(l:List UInt8)(i j:Nat):(ByteArray.mk l.toArray).extract i j=⟨((l.drop i).take (j-i)).toArray⟩:=by
 apply ByteArray.ext;simp[ByteArray.data_extract]
def JJ(a b:List UInt8):(ByteArray.mk a.toArray)++(ByteArray.mk b.toArray)=⟨(a++b).toArray⟩:=by
 apply ByteArray.ext;simp[ByteArray.data_append]
def EF:List UInt8->Nat
 | []=>0
 | b::t=>b.toNat+256*EF t
def Z6(a b:List UInt8):EF (a++b)=EF a+256 ^ a.length*EF b:=by
 induction a with
 | nil=>simp[EF]
 | cons c t ih=>simp only[Fo,EF,ih,CG,JM];rw[Nat.mul_add,<-Pg,L4 (256 ^ t.length) 256];omega
def Z4(bs:List UInt8)(k:Nat)(d:k<bs.length):EF (bs.take (k+1))=EF (bs.take k)+(bs[k]'d).toNat*256 ^ k:=by
 rw[Dl d,Z6];simp[EF,Nat.min_eq_left (Nat.le_of_lt d),Nat.mul_comm]
def ZA(w:World)(text:ByteArray)(hl:8<=text.size/\text.size<=9223372036854775807):
 Ah 121 #[.string text] w (Am (A0 (wrap64 (EF (text.data.toList.take 8):Nat))) λw'=>w=w'):=by
 obtain⟨hl1,hl2⟩:=hl
 go_enter func121,ntmps121
 go_wp2;go_loop [3,5] (λc i=>∃k x:Nat,k<=8/\i=A0 k/\c=.int .u64 x/\x<18446744073709551616/\Hid (x<256 ^ k)/\Hid (x=EF (text.data.toList.take k))) (λ_ i=>8-(intOf i).toNat)
 case atStart=>exact⟨0,0,Cz _,rfl,rfl,by omega,(by unfold Hid;decide),rfl⟩
 case round=>
  obtain⟨k,x,hk,rfl,rfl,hx,H,W⟩:=hrel;by_cases hlt:k<8
  ·(have d:k<text.size:=by omega);have hb:=(text[k]'d).toNat_lt;have hb0:=hb;have h:Hid (x+(text[k]'d).toNat*256 ^ k=EF (text.data.toList.take (k+1))):=by
    unfold Hid;rw[Z4 _ k (by simpa using d),<-W.o];rfl
   generalize E:(text[k]'d).toNat=b at hb h;obtain⟨y,I,z,e1⟩:∃y,y=x+b*256 ^ k/\y<256 ^ (k+1)/\bits .or .u64 (x:Int) (IntKind.u64.wrap (((text[k]'d).toNat:Int)*2 ^ (8*k)))=((y:Nat):Int):=by
    have h1:=H.o;(have L:(256:Nat) ^ k=2 ^ (8*k):=by rw[Nat.pow_mul]);have h3:b*256 ^ k<=255*256 ^ k:=Hi _ (by omega);have h5:(256:Nat) ^ (k+1)<=256 ^ 8:=A2O (by omega) (by omega);refine⟨_,rfl,by omega,?_⟩;rw[E,IntKind.wrap_u64,show ((b:Int)*2 ^ (8*k))=((b*2 ^ (8*k):Nat):Int) by push_cast;rfl];rw[<-L,show ((b*256 ^ k:Nat):Int) % 18446744073709551616=((b*256 ^ k:Nat):Int) by omega];rw[u64_or_nat _ _ hx (by omega)]
    congr 1
    have h7:=Nat.shiftLeft_add_eq_or_of_lt (i:=8*k) (b:=x) (by rw[<-L];exact h1) b;rw[Nat.shiftLeft_eq,<-L]at h7;rw[Nat.or_comm,<-h7];omega
   have O:y<18446744073709551616:=by
    have h5:(256:Nat) ^ (k+1)<=256 ^ 8:=A2O (by omega) (by omega);omega
   (have aA:Hid (y=EF (text.data.toList.take (k+1))):=by unfold Hid;rw[I];exact h.o);have Y:=A1 <| z;clear I E z h W H;go_wp2;exact⟨⟨k+1,y,by omega,by go_num,rfl,O,Y,aA⟩,by simp[intOf];omega⟩
  ·(obtain rfl:k=8:=by omega);go_wp2;go_ret;rw[W.o];exact⟨rfl,rfl⟩
def GC(n:Nat)(k:Nat):List UInt8:=(List.range k).map λi=>UInt8.ofNat (n/256 ^ i)
def Z8(n k:Nat):(GC n k).length=k:=by simp[GC]
def Z7(n k:Nat):GC n (k+1)=UInt8.ofNat n::GC (n/256) k:=by
 simp only[GC,List.range_succ_eq_map,GY,US,Nat.pow_zero,Nat.div_one]
 congr 1
 apply MD;intro i _;simp only[Function.comp,Nat.succ_eq_add_one,JM,Nat.div_div_eq_div_mul];rw[L4 (256 ^ i) 256]
def Z5(n k:Nat):EF (GC n k)=n % 256 ^ k:=by
 induction k generalizing n with
 | zero=>simp[GC,EF,Nat.mod_one]
 | succ k ih=>
  rw[Z7,EF,ih,JM,L4 (256 ^ k) 256,Nat.mod_mul];simp
def EI(n:Int):Nat:=(n % 18446744073709551616).toNat
def A19(n:Int):EI n<18446744073709551616:=by unfold EI;omega
def Ud(n:Int):n % 18446744073709551616=(EI n:Int):=by unfold EI;omega
def AO(n:Int):List UInt8:=GC (EI n) 8
def CJ(n:Int):(AO n).length=8:=Z8 _ _
def Vk(n:Int)(h : -9223372036854775808<=n/\n<=9223372036854775807):wrap64 (EF (AO n):Nat)=n:=by
 have d:EF (AO n)=EI n:=by
  unfold AO;rw[Z5];have:=A19 n;have z:(256:Nat) ^ 8=18446744073709551616:=by decide
  rw[z];omega
 rw[d];have:=Ud n;unfold wrap64;omega
def Ic(n:Nat)(k:Nat):List Value:=DX (GC n k)++List.replicate (8-k) (.int .u8 0)
def KA(w:World)(n:Int)(hn : -9223372036854775808<=n/\n<=9223372036854775807):
 Ah 201 #[A0 n] w (Am (.string ⟨(AO n).toArray⟩) λw'=>A3 Aa w w'):=by
 obtain⟨n1,n2⟩:=hn;have eu:IntKind.u64.wrap n=(EI n:Int):=by rw[IntKind.wrap_u64];exact Ud n
 go_enter func201,ntmps201
 go_wp2;go_loopw [5] (λi wr=>∃k:Nat,k<=8/\i=A0 k/\Hid (A3 Aa w wr)/\Hid (wr.heap[w.heap.size]?=some (.cells (Ic (EI n) k).toArray 285 (0,0)))) (λi _=>8-(intOf i).toNat)
 case atStart=>exact⟨0,Cz _,rfl,(A3.I _ _).aj _,by unfold Hid;show (w.heap.push _)[w.heap.size]?=_;rw[Ip];rfl⟩
 case round=>
  obtain⟨k,hk,rfl,W,H⟩:=hrel;by_cases hlt:k<8
  ·(have hfz:wr.frozen? (Ab w.heap.size k)=false:=by have:=H.o;simp[World.frozen?,this]);have hce:wr.cell? (Ab w.heap.size k)=some (.int .u8 0):=by
    have:=H.o;have L:(Ic (EI n) k)[k]?=some (.int .u8 0):=by
     (have Y:(DX (GC (EI n) k)).length=k:=by simp[DX,GC]);unfold Ic;rw[Hl (by omega),Y,List.getElem?_replicate];simp;omega
    simp[World.cell?,this,L]
   have d:=A1 (CH (o:=k) (v:=.int .u8 (EI n/2 ^ (8*k) % 256:Nat)) H.o);have E:Hid (A3 Aa w (wr.sC w.heap.size k (.int .u8 (EI n/2 ^ (8*k) % 256:Nat)))):=A3.bp W.o (by simp) _;have I:Hid ((Ic (EI n) k).toArray.setIfInBounds k (.int .u8 (EI n/2 ^ (8*k) % 256:Nat))=(Ic (EI n) (k+1)).toArray):=by
    unfold Hid;rcases(show k=0\/k=1\/k=2\/k=3\/k=4\/k=5\/k=6\/k=7 by omega) with rfl|rfl|rfl|rfl|rfl|rfl|rfl|rfl<;>simp[Ic,DX,GC,List.range_succ,List.replicate]
   (have e1:(EI n:Int)/2 ^ (8*k) % 256=((EI n/2 ^ (8*k) % 256:Nat):Int):=by push_cast;rfl);unfold Hid at d;rw[I.o]at d;have h:=A1 d;generalize hq:EI n/2 ^ (8*k) % 256=q at h E e1;go_wp2;exact⟨⟨k+1,by omega,by go_num,E,h⟩,by simp[intOf];omega⟩
  ·(obtain rfl:k=8:=by omega);have cv:(convert 66 9 (AJ w.heap.size 8 8)).run Tryz.prog wr=.ok (.string ⟨(AO n).toArray⟩) wr:=by
    have L:=CJ n
    have:=Np (P:=Tryz.prog) wr 66 9 5 (Ab w.heap.size 0) 8 (AO n) underlying66 underlying5 underlying9 (by
     intro j hj;(have z:((Ab w.heap.size 0):Addr).add j=(Ab w.heap.size j):=by unfold Addr.add;split<;>simp_all);rw[z];have O:=H.o;(have h3:(Ic (EI n) 8)=DX (AO n):=by simp[Ic,AO]);rw[h3]at O
     simp[World.cell?,O,DX,List.getElem?_eq_getElem hj])
    rw[L]at this;exact this
   go_wp2;go_ret;exact⟨rfl,W.o⟩
def Ca(s:Nat):List UInt8:=(AO s).take 4
def H3(s:Nat):(Ca s).length=4:=by simp[Ca,CJ]
def Wa(w:World)(s:Nat)(hs:s<4294967296):
 Ah 205 #[.int .u32 s] w (Am (.string ⟨(Ca s).toArray⟩) λw'=>A3 Aa w w'):=by
 have h : -9223372036854775808<=(s:Int)/\(s:Int)<=9223372036854775807:=by omega
 have hl:=CJ s
 go_enter func205,ntmps205
 go_wp2_with (go_at_call 201;refine(KA _ _ h).mono ?_;rintro e w'⟨rfl,d⟩);go_ret;exact⟨by rw[extract_mk];simp[Ca],d⟩
end
section
open Go
section
variable {P:Program} {Q:Exit->Act->World->Prop}
def Q5(y:Nat->Value)(i:Nat)(v:Value):Nat->Value:=λj=>if j=i then v else y j
def G8(o:Oper):List Nat:=(o.after.toList.filter (Region.binds .any)).map (·.on)
def F6(G:Nat->Value->World->Prop)(y:Nat->Value)(w:World):List Nat->Prop
 | []=>True
 | j::r=>G j (y j) w/\F6 G y w r
def F6.of{G:Nat->Value->World->Prop}{y:Nat->Value}{w:World}:∀(l:List Nat),(∀j∈l,G j (y j) w)->F6 G y w l
 | [],_=>trivial
 | j::r,h=>⟨h j (by simp),F6.of r λk d=>h k (by simp[d])⟩
def Vc(P:Program)(ops:Array Oper)(A:(Nat->Value)->Act)(S:World->Prop)(R:World->World->Prop)(G:Nat->Value->World->Prop)(Q:Exit->Act->World->Prop)(i:Nat)(o:Oper):Prop:=
 (∀y w,S w->F6 G y w (G8 o)->Region.wanted o (yielded ops (A y).tmps)=true->∀K:Act->World->Prop,(∀v a' w',G i v w'->a'=(A y).put o.dst v->R w w'->S w'->K a' w')->o.wp P (A y) w K Q)/\
 (∀y w,S w->F6 G y w (G8 o)->Region.wanted o (yielded ops (A y).tmps)=false->G i undef w)/\
 (∀y v,(A y).put o.dst v=A (Q5 y i v))
def Fy(P:Program)(ops:Array Oper)(A:(Nat->Value)->Act)(S:World->Prop)(R:World->World->Prop)(G:Nat->Value->World->Prop)(Q:Exit->Act->World->Prop):Nat->List Oper->Prop
 | _,[]=>True
 | i,o::r=>Vc P ops A S R G Q i o/\Fy P ops A S R G Q (i+1) r
def Fy.eA{ops:Array Oper}{A:(Nat->Value)->Act}{S:World->Prop}{R:World->World->Prop}{G:Nat->Value->World->Prop}:∀ {k:Nat} {l:List Oper},Fy P ops A S R G Q k l->∀(i:Nat) (o:Oper),l[i]?=some o->Vc P ops A S R G Q (k+i) o
 | _,[],_,i,o,h=>by simp at h
 | k,o'::r,hh,0,o,h=>by
  have:o'=o:=by simpa using h
  subst this;exact hh.1
 | k,o'::r,hh,i+1,o,h=>by
  have:=Fy.eA hh.2 i o (by simpa using h)
  rwa [show k+1+i=k+(i+1) by omega]at this
def G9(listed:Array Bool):Nat->Nat
 | 0=>0
 | k+1=>G9 listed k+(if listed.getD k true then 0 else 1)
def TW(listed:Array Bool)(i:Nat):∀n,n<=i->G9 (listed.setIfInBounds i true) n=G9 listed n
 | 0,_=>rfl
 | n+1,h=>by
  unfold G9;rw[TW listed i n (by omega),LV true (by omega)]
def TU(listed:Array Bool)(i:Nat)(E:listed.getD i true=false):∀n,i<n->G9 listed n=G9 (listed.setIfInBounds i true) n+1
 | 0,h=>by omega
 | n+1,h=>by
  unfold G9;by_cases d:i=n
  ·subst d;have H:i<listed.size:=by
    rcases EW i listed.size with z | z
    ·exact z
    ·simp[Array.getElem?_eq_none z]at E
   rw[TW listed i i (Au _),E];simp[H]
  ·rw[TU listed i E n (by omega),LV true d];omega
def TS(listed:Array Bool):∀n,G9 listed n=0->∀j,j<n->listed.getD j true=true
 | 0,_,j,h=>by omega
 | n+1,h,j,hj=>by
  unfold G9 at h;rcases EW j n with d | d
  ·exact TS listed n (by omega) j d
  ·(obtain rfl:j=n:=by omega);cases hg:listed.getD j true with
   | true=>rfl
   | false=>rw[hg]at h;simp at h
def TV(listed:Array Bool):∀n,G9 listed n≠0->∃j,j<n/\listed.getD j true=false
 | 0,h=>absurd rfl h
 | n+1,h=>by
  cases hg:listed.getD n true with
  | false=>exact⟨n,by omega,hg⟩
  | true=>
   unfold G9 at h;rw[hg]at h;obtain⟨j,hj,d⟩:=TV listed n (by simpa using h);exact⟨j,by omega,d⟩
def TT(m:Nat):∀n,n<=m->G9 (Array.replicate m false) n=n
 | 0,_=>rfl
 | n+1,h=>by
  unfold G9;rw[TT m n (by omega)];have d:n<m:=by omega
  have:(Array.replicate m false).getD n true=false:=by simp[d]
  rw[this];simp
def M1(ops:Array Oper)(n:Nat):Bool:=
 decide (n<ops.size)&&Region.sinkB .any ops n&&Region.chainB .any ops n &&
  ((List.range n).all λi=>((ops[i]?).map λo=>o.after.all λe=>!Region.binds .any e||decide (e.on<i)).getD false) &&
  Region.seqB .any ops (ops.size-n) n (List.replicate n true++List.replicate (ops.size-n) false).toArray
def Xw{ops:Array Oper}{n:Nat}{listed:Array Bool}(H:HeadInv .any ops n listed)(hn:n<ops.size)(d:((List.range n).all λi=>((ops[i]?).map λo=>o.after.all λe=>!Region.binds .any e||decide (e.on<i)).getD false)=true):
 ∀(i:Nat),i<n->listed.getD i true=false->∃k,k∈Region.ready .any ops listed:=by
 intro i
 induction i using Nat.strongRecOn with
 | _ i ih=>
  intro hi L;have z:ops[i]?=some (ops[i]'(by omega)):=A3p (by omega);obtain⟨o,z⟩:∃o,ops[i]?=some o:=⟨_,z⟩;by_cases hall:∀e∈o.after,Region.binds .any e=true->listed.getD e.on false=true
  ·exact⟨i,I0.2 ⟨L,o,z,hall⟩⟩
  ·simp only[Classical.not_forall]at hall;obtain⟨e,he,W,E⟩:=hall;have I:=(MM.1 d) i (MB.2 hi);rw[z]at I;simp only[Hx,Option.getD_some,A3q]at I;have O:=I e he;rw[W]at O;(have Y:e.on<i:=by simpa using O);refine ih e.on Y (by omega) (getD_in (by rw[H.size];omega) ?_);cases h:listed.getD e.on false with
   | true=>exact absurd h E
   | false=>rfl
def A0M{l:List Oper}{n:Nat}{A:(Nat->Value)->Act}{S:World->Prop}{R:World->World->Prop}{G:Nat->Value->World->Prop}(hB:M1 l.toArray n=true)(aN:Fy P l.toArray A S R G Q 0 (l.take n))(aL:∀j v w w',R w w'->S w'->G j v w->G j v w')(aH:∀y w,S w->(∀j,j<n->G j (y j) w)->wpList P l.toArray Q (l.drop n) (A y) w):
 ∀(f:Nat) (listed:Array Bool) (y:Nat->Value) (w:World),HeadInv .any l.toArray n listed->G9 listed n=f->S w->(∀j,j<n->listed.getD j false=true->G j (y j) w)->
  wpAny P .any l.toArray Q (f+(l.toArray.size-n)) listed (A y) w:=by
 simp only[M1,FV,DG]at hB;obtain⟨⟨⟨⟨hn,hs⟩,hc⟩,aA⟩,aG⟩:=hB;intro f
 induction f with
 | zero=>
  intro listed y w d Y hS hG;have hall:=TS listed n Y;have aO:=d.size;have z:∀j,j<n->listed.getD j false=true:=λj I=>by
   have L:=hall j I;(have h2:j<listed.size:=by omega);simp[h2]at L ⊢;exact L
  have hL:listed=(List.replicate n true++List.replicate (l.toArray.size-n) false).toArray:=by
   refine Array.ext (by (simp[aO];have:n<l.length:=by simpa using hn);omega) λi L h2=>?_;rcases EW i n with h|h
   ·have:=z i h;simp[L]at this;simp[this,h]
   ·have:=d.tail i h (by omega);simp[L]at this;simp[this,List.getElem_append,Nat.not_lt.2 h]
  rw[Gx];have aK:(l.drop n).length=l.toArray.size-n:=by simp
  have:=PM (P:=P) (md:=.any) (ops:=l.toArray) (Q':=Q) (l.drop n) n listed (A y) w (λj=>by simp[List.getElem?_drop]) (by rw[aK,hL];exact aG) (aH y w hS λj I=>hG j I (z j I))
  rwa [aK]at this
 | succ f ih=>
  intro listed y w d Y hS hG;obtain⟨i0,aI,aB⟩:=TV listed n (by omega);have aE:f+1+(l.toArray.size-n)=(f+(l.toArray.size-n))+1:=by omega
  rw[aE];refine⟨λh0=>?_,λi hi=>?_⟩
  ·obtain⟨k,hk⟩:=Xw d hn aA i0 aI aB;rw[h0]at hk;cases hk
  ·have O:i<n:=by
    rcases EW i n with h|h
    ·exact h
    ·exact absurd hi (Lu hs hc hn d _ i0 rfl aI aB i h)
   obtain⟨aP,o,ho,hall⟩:=I0.1 hi;have aM:(l.take n)[i]?=some o:=by
    rw[List.getElem?_take_of_lt O];simpa using ho
   have L:=(MM.1 aA) i (MB.2 O);rw[ho]at L;simp only[Hx,Option.getD_some,A3q]at L;have ob:=aN.eA i o aM;rw[Gx]at ob;have H:F6 G y w (G8 o):=by
    refine F6.of _ λj I=>?_;unfold G8 at I;rw[CA]at I;obtain⟨e,he,rfl⟩:=I;rw[GJ]at he;(have aJ:e∈o.after:=by simpa using he.1);have h2:=L e aJ;rw[he.2]at h2;(have h3:e.on<i:=by simpa using h2);exact hG e.on (by omega) (hall e aJ he.2)
   have E:∀v w',S w'->(R w w'\/w'=w)->G i v w'->wpAny P .any l.toArray Q (f+(l.toArray.size-n)) (listed.setIfInBounds i true) ((A y).put o.dst v) w':=by
    intro v w' W hR aF;rw[ob.2.2 y v];refine ih _ _ _ (d.set hi O) (by have:=TU listed i aP n O;omega) W λj I hl=>?_;unfold Q5;by_cases aD:j=i
    ·subst aD;simpa using aF
    ·rw[Ac aD];rw[LV false (Pd aD)]at hl;rcases hR with hR|rfl
     ·exact aL j _ w w' hR W (hG j I hl)
     ·exact hG j I hl
   unfold wpOp;simp only[ho];split
   ·rename_i hw;exact .inl (ob.1 y w hS H hw _ λv a' w' aF aQ hR W=>aQ ▸ E v w' W (.inl hR) aF)
   ·rename_i hw;exact E _ w hS (.inr rfl) (ob.2.1 y w hS H (by simpa using hw))
def H0{id:Nat}{a:Act}{w:World}{l:List Oper}(n:Nat)(A:(Nat->Value)->Act)(O:Nat->Value)(S:World->Prop)(R:World->World->Prop)(G:Nat->Value->World->Prop)(Y:P.follows .mixedOrders=true)(L:M1 l.toArray n=true)(ha:a=A O)(hS:S w.drew)(E:∀j v w w',R w w'->S w'->G j v w->G j v w')(I:Fy P l.toArray A S R G Q 0 (l.take n))(d:∀y w,S w->(∀j,j<n->G j (y j) w)->wpList P l.toArray Q (l.drop n) (A y) w):(Code.region id l.toArray true).wp P Q a w:=by
 have hn:n<l.toArray.size:=by
  simp only[M1,FV,DG]at L;exact L.1.1.1.1
 refine PK Y ?_;have h:HeadInv .any l.toArray n (Array.replicate l.toArray.size false):=
  ⟨by simp,λj oj _ z=>(by rw[Jy]at z;cases z),λt _ W=>getD_in (by simpa using W) (Jy _ _)⟩
 have H:=A0M L I E d n _ O w.drew h (TT _ n (by omega)) hS (λj _ z=>by rw[Jy]at z;cases z);rw[show n+(l.toArray.size-n)=l.toArray.size by omega]at H;rw[ha];exact H
end
end
section
open Go.RowKit
def Bb(s t v:Int):List UInt8:=UInt8.ofNat (s % 256).toNat::(AO t++AO v)
def Rt(w:World)(s t v:Int)(hs:0<=s/\s<256)(ht : -9223372036854775808<=t/\t<=9223372036854775807)(hv : -9223372036854775808<=v/\v<=9223372036854775807):
 Ah 160 #[.agg #[A0 s,A0 t,A0 v]] w (Am (.string ⟨(Bb s t v).toArray⟩) λw'=>A3 Aa w w'):=by
 go_enter func160,ntmps160
 go_wp2;refine H0 15 (λy=>{tmps:=#[.agg #[A0 s,A0 t,A0 v],A5 w.heap.size,.string ⟨#[]⟩,y 0,y 1,y 2,y 3,y 4,y 5,y 6,y 7,y 8,y 9,y 10,y 11,y 12,y 13,y 14],defers:=[]}) (λ_=>undef)
  (λw'=>w'.heap[w.heap.size]?=some (.cells #[A0 s,A0 t,A0 v] 90 (0,0))/\A3 Aa w w') (A3 Aa)
  (λj x w'=>match j with
   | 0=>x=(A5 w.heap.size)
   | 1=>x=A0 s
   | 2=>x=.int .u8 s
   | 3=>∃g e,x=AJ g 1 1/\w'.heap[g]?=some (.cells #[.int .u8 s] e (0,0))
   | 4=>x=.string ⟨#[UInt8.ofNat (s % 256).toNat]⟩
   | 5=>x=.pointer (some (Ab w.heap.size 1))
   | 6=>x=.pointer (some (Ab w.heap.size 1))
   | 7=>x=A0 t
   | 8=>x=.string ⟨(AO t).toArray⟩
   | 9=>x=.string ⟨(UInt8.ofNat (s % 256).toNat::AO t).toArray⟩
   | 10=>x=.pointer (some (Ab w.heap.size 1))
   | 11=>x=.pointer (some (Ab w.heap.size 2))
   | 12=>x=A0 v
   | 13=>x=.string ⟨(AO v).toArray⟩
   | 14=>x=.string ⟨(Bb s t v).toArray⟩
   | _=>True)
  (by kernel_rfl) (by kernel_rfl) rfl ?_ ?_ ?_ ?_
 ·exact⟨(by show (w.heap.push _)[w.heap.size]?=_;rw[Ip]),((A3.I _ _).aj _).af⟩
 ·intro j x w1 w2 hR hS' Y;split at Y<;>first|exact Y|(obtain⟨g,e,h1,h2⟩:=Y;exact⟨g,e,h1,hR.ak h2 (by simp)⟩)
 ·simp only[EX,EL,Fy,Hv]
  repeat' (with_reducible apply And.intro)
  all_goals refine⟨?_,(by intro y d _ _ h;exact Bool.noConfusion h),λy x=>rfl⟩
  all_goals
   intro y d hS H hw K hK;obtain⟨E,L⟩:=hS;simp[G8,Region.binds,F6,List.filter_cons]at H;(have hc0:A6 d w.heap.size 0 (A0 s):=by simp[A6,World.cell?,E]);(have hc1:A6 d w.heap.size 1 (A0 t):=by simp[A6,World.cell?,E]);(have hc2:A6 d w.heap.size 2 (A0 v):=by simp[A6,World.cell?,E]);(have hw8:IntKind.u8.wrap s=s:=by simp[IntKind.wrap,IntKind.bits,IntKind.signed];omega);have hlt:=CJ t;have hlv:=CJ v;have I:=A1 E;have z:=A1 L;have aA:=A1 hK;have ap1:(ByteArray.mk #[UInt8.ofNat (s % 256).toNat])++(ByteArray.mk (AO t).toArray)=⟨(UInt8.ofNat (s % 256).toNat::AO t).toArray⟩:=JJ [_] _;have ap2:(ByteArray.mk (UInt8.ofNat (s % 256).toNat::AO t).toArray)++(ByteArray.mk (AO v).toArray)=⟨(Bb s t v).toArray⟩:=JJ _ _
   try
    (have aB:∃g,y 3=AJ g 1 1/\∃e,d.heap[g]?=some (.cells #[.int .u8 s] e (0,0)):=by with_reducible exact H);obtain⟨g,H,e,hg⟩:=aB;(have aF:A6 d g 0 (.int .u8 s):=by simp[A6,World.cell?,hg])
    have cv:(convert 66 9 (AJ g 1 1)).run Tryz.prog d=.ok (.string ⟨#[UInt8.ofNat (s % 256).toNat]⟩) d:=Np (P:=Tryz.prog) d 66 9 5 (Ab g 0) 1 [UInt8.ofNat (s % 256).toNat] underlying66 underlying5 underlying9 (by
     intro j hj;(have aE:j=0:=by simpa using hj);subst aE;(have W:((Ab g 0):Addr).add 0=(Ab g 0):=by unfold Addr.add;split<;>simp_all);(have aD:((UInt8.ofNat (s % 256).toNat).toNat:Int)=s:=by simp;omega);rw[W,aF]
     simp only[JU,aD])
  all_goals dsimp only
  all_goals try go_simp
  all_goals try with_reducible exact aA.o _ _ _ rfl (by simp[Act.put,H]) (A3.I _ _) ⟨I.o,z.o⟩
  all_goals try
   (have hd7:y 7=A0 t:=by with_reducible exact H);refine(KA d t ht).mono ?_;rintro e w2⟨rfl,O⟩;exact aA.o _ _ _ rfl (by simp[Act.put,H]) O ⟨O.ak I.o (by simp),z.o.Av O (by simp)⟩
  all_goals try
   (have hd12:y 12=A0 v:=by with_reducible exact H.1);refine(KA d v hv).mono ?_;rintro e w2⟨rfl,O⟩;exact aA.o _ _ _ rfl (by simp[Act.put,H]) O ⟨O.ak I.o (by simp),z.o.Av O (by simp)⟩
  ·exact aA.o _ _ _ ⟨d.heap.size,_,rfl,(by show (d.heap.push _)[d.heap.size]?=_;rw[Ip])⟩ (by simp[Act.put,H]) ((A3.I _ _).aj _) ⟨((A3.I Aa d).aj _).ak I.o (by simp),z.o.aj _⟩
 ·intro y d hS Y;obtain⟨E,L⟩:=hS;have h14:y 14=.string ⟨(Bb s t v).toArray⟩:=Y 14 (by omega);have z:=A1 L;go_wp2;go_ret;exact⟨rfl,z.o⟩
end
end Go.Proofs.YtodcnkbblippnabGreatDoor
