/- Part 1 of a proof: walks of the program. -/
import Derived.Below
import Derived.Calls
import Derived.ChangeArms
import Derived.Conc.MuLone
import Derived.Deep.AppendSrc
import Derived.Deep.RegionHeld
import Derived.Defers
import Derived.FnData
import Derived.Laws.Append
import Derived.Laws.AppendOwn
import Derived.Laws.BitsLemmas
import Derived.Laws.Entries
import Derived.Laws.Externs
import Derived.Laws.IdiomStrings
import Derived.Laws.Rows
import Derived.Laws.Tables
import Derived.Laws.World
import Derived.Lib.Builder
import Derived.Lib.ItoaNum
import Derived.Lib.Strings
import Derived.LoopN
import Derived.OneCell
import Derived.Orders
import Derived.OwnWalk
import Derived.Still
import Derived.StillTail
import Derived.Tactics
import Derived.WideShapes
import Derived.Test.YtodcnkbblippnaaGreatDoorRows
import Derived.WalkKit
import Derived.WalkSpells
import Derived.WalkLawsBesides
import Derived.Deep.AppendLies
import Derived.RegionTactic
import Derived.Laws.BitsAllLaws
import Derived.Laws.BytesString
import Derived.OrdersHeld
namespace Go.Proofs.YtodcnkbblippnaaGreatDoor
set_option maxRecDepth 100000
set_option maxHeartbeats 32000000
set_option linter.defProp false
open Go.Proofs.Tryz
section
open Go.RowKit
def Ad:=@if_neg
def Ah:=@if_pos
def As:=@Nat.le_refl
def AM:=@Nat.le_trans
def AU:=@List.mem_append
def AY:=@List.length_append
def Bk:=@Nat.lt_of_lt_of_le
def Bx:=@List.mem_cons_of_mem
def By:=@Go.lt_of_block
def BF:=@List.mem_cons_self
def BN:=@Go.heap_alloc_new
def BR:=@List.mem_cons
def BU:=@List.length_take
def BV:=@List.getElem_mem
def C4:=@if_false
def C6:=@List.take_length
def Cc:=@List.append_assoc
def Cf:=@Nat.zero_le
def Cg:=@if_true
def Ct:=@List.mem_map
def Cu:=@List.length_drop
def Cv:=@List.length_cons
def CD:=@Go.World.ownsRow_nil
def CH:=@decide_eq_true
def CZ:=@decide_eq_false
def Db:=@List.pairwise_cons
def Dc:=@Go.RowKit.Below.heap_alloc
def Dn:=@List.take_succ_eq_append_getElem
def Dp:=@List.drop_zero
def DE:=@List.drop_succ_cons
def DG:=@decide_eq_true_eq
def DK:=@List.take_append_drop
def DR:=@Go.World.cell?_of_block
def DT:=@List.mem_map_of_mem
def DU:=@List.getElem_of_mem
def E2:=@List.getElem?_eq_getElem
def E7:=@Go.info_parts
def Ei:=@congrArg
def Ek:=@List.pairwise_append
def El:=@List.map_append
def Er:=@List.take_of_length_le
def Es:=@List.nil_append
def Et:=@Int.toNat_natCast
def ER:=@Nat.le_of_lt
def ET:=@List.take_zero
def EU:=@Int.ofNat_lt
def EV:=@Go.rounds_succ
def F7:=@Nat.lt_or_ge
def F8:=@List.take_succ_cons
def F9:=@List.length_map
def Fa:=@List.getElem_append_left
def Fb:=@List.filter_cons
def Fw:=@List.drop_eq_getElem_cons
def Fx:=@List.cons_append
def FE:=@List.mem_append_left
def FF:=@List.append_nil
def FH:=@Bool.and_eq_true
def FZ:=@Nat.lt_irrefl
def Gl:=@Nat.le_succ
def Gm:=@List.getElem_append_right
def Gn:=@List.drop_length
def Gp:=@Int.natCast_nonneg
def GA:=@beq_eq_false_iff_ne
def GC:=@List.nodup_append
def GF:=@Go.RowKit.Below.heap_setCell
def GN:=@Go.World.block_lt_of_cell?
def GO:=@Nat.zero_add
def GP:=@List.take_append_of_le_length
def GQ:=@List.mem_filter
def GR:=@List.length_eq_zero_iff
def GS:=@List.filter_sublist
def Ha:=@List.mem_append_right
def Hb:=@List.map_cons
def Hq:=@Nat.mul_le_mul_right
def Hr:=@List.getElem?_eq_some_iff
def Hs:=@List.getElem?_append_right
def Hv:=@Int.le_refl
def Hz:=@Go.MuLone.unlock_deferred
def HF:=@Go.MuLone.lock_free
def HG:=@Go.leaves_cons
def HJ:=@and_true
def HL:=@Option.map_some
def HM:=@Nat.add_mul
def HP:=@List.getD_eq_getElem?_getD
def HV:=@Go.wp_loop_rounds
def I1:=@Go.run_underlying
def I9:=@Go.mem_ready
def Iz:=@Nat.le_of_not_lt
def IA:=@List.mem_singleton
def IB:=@List.mem_of_mem_take
def IC:=@List.length_nil
def ID:=@List.getElem?_drop
def IE:=@List.getElem?_append_left
def IF:=@List.filter_cons_of_pos
def IG:=@Array.getElem?_push_size
def Je:=@Go.Src.ofSlice
def Jg:=@Nat.le_antisymm
def Jh:=@List.length_set
def Ji:=@List.length_pos_iff
def Jj:=@List.length_filter_le
def Jk:=@List.flatten_cons
def Jl:=@List.drop_of_length_le
def Jm:=@List.cons_lt_cons_iff
def Jo:=@List.cons.inj
def Jr:=@Go.IntKind.wrap_i64
def Js:=@Int.add_sub_cancel
def JA:=@Go.setRow_other
def JE:=@Go.results_tmp
def JL:=@of_decide_eq_true
def JO:=@ne_eq
def JX:=@Go.getD_replicate_false
def Kb:=@Nat.pow_succ
def Kc:=@Nat.add_lt_add_left
def Kd:=@List.take_take
def Ke:=@List.take_left
def Kf:=@List.set_append_right
def Kg:=@List.pairwise_iff_getElem
def Kh:=@List.nodup_cons
def Ki:=@List.getLastD_eq_getLast?
def Kj:=@List.filter_cons_of_neg
def Kk:=@Go.Lib.toList_data
def Kl:=@Int.le_trans
def Ko:=@Go.wp_region_still_tail
def Kp:=@Go.wpStill_nil
def Kq:=@Go.wpOp_mono
def Kx:=@Go.setRow_heap
def KF:=@Go.ready_mono
def L8:=@decide_eq_decide
def Li:=@Go.World.drew_eq
def Lm:=@Option.ne_none_iff_exists'
def Ln:=@Nat.not_lt
def Lo:=@Nat.mul_comm
def Lp:=@Nat.add_le_add_left
def Lq:=@Nat.add_assoc
def Lr:=@List.size_toArray
def Ls:=@List.pairwise_map
def Lt:=@List.mem_range
def Lu:=@List.mem_of_mem_drop
def Lv:=@List.mem_of_getElem?
def Lw:=@List.mem_filterMap
def Lx:=@List.lt_irrefl
def Ly:=@List.getElem_cons_zero
def Lz:=@List.filter_append
def LA:=@List.eq_nil_or_concat
def LB:=@List.drop_append_of_le_length
def LC:=@List.drop_append
def LD:=@Int.lt_or_le
def LF:=@Int.lt_irrefl
def LG:=@Int.eq_ofNat_of_zero_le
def LH:=@Int.emod_nonneg
def LI:=@Array.length_toList
def LP:=@Go.tail_waits
def Mj:=@Go.getD_set_ne
def Mo:=@eq_false
def ME:=@Go.bodyPost_ret
def ML:=@Go.World.size_alloc
def MM:=@Go.World.cell?_alloc_some
def MO:=@Go.Src.ofString
def MR:=@Nat.zero_lt_one
def MS:=@Nat.succ_mul
def MT:=@Nat.not_lt_zero
def MU:=@Nat.mul_le_mul
def MV:=@Nat.min_eq_left
def MW:=@Nat.lt_of_lt_of_eq
def MX:=@Nat.le_succ_of_le
def MY:=@List.sublist_flatten_of_mem
def MZ:=@List.pairwise_singleton
def N0:=@List.mem_flatten
def N1:=@List.map_congr_left
def N2:=@List.length_mergeSort
def N3:=@List.getElem?_eq_none
def N4:=@List.foldl_append
def N5:=@List.flatMap_cons
def N6:=@List.eq_nil_of_length_eq_zero
def N7:=@List.drop_eq_nil_of_le
def N8:=@List.dropLast_concat_getLast
def N9:=@List.all_eq_true
def Nb:=@Int.zero_add
def Nc:=@Int.tmod_lt_of_pos
def Nd:=@Int.ofNat_le
def Nf:=@Int.neg_tmod
def Ng:=@Go.DataW.trod_int
def Nh:=@Bool.true_and
def Ni:=@Bool.eq_iff_iff
def Nj:=@Go.RowKit.Below.refl
def Nk:=@Array.getElem?_eq_none
def NO:=@Go.run_convert_bytes_back
def O8:=@Go.ownsRow_setCell_other
def Og:=@not_false_eq_true
def P4:=@dif_pos
def P5:=@dif_neg
def P6:=@decide_true
def Pr:=@Go.World.cell?_setCell_other
def Pv:=@Prod.mk.inj
def Pw:=@Option.some.inj
def Pz:=@Ne.symm
def PA:=@Nat.succ_le_succ
def PC:=@Nat.mul_one
def PE:=@Nat.mul_assoc
def PF:=@Nat.lt_trichotomy
def PG:=@Nat.le_add_right
def PH:=@Nat.add_zero
def PK:=@List.takeWhile_cons
def PM:=@List.getElem_cons_succ
def PN:=@List.getElem?_take
def PO:=@List.getElem?_map
def PQ:=@List.foldl_cons
def PR:=@List.any_eq_true
def PT:=@Go.Lib.nDigits_small
def PU:=@Go.Lib.cell_of_heap
def PW:=@Int.toNat_of_nonneg
def PX:=@Int.not_lt
def PY:=@Int.emod_lt_of_pos
def PZ:=@Decidable.em
def Q1:=@Decidable.byContradiction
def Q2:=@Bool.false_eq_true
def Q5:=@Array.toList_append
def Q6:=@Array.getElem?_eq_some_iff
def Qa:=@Go.wp_region_any
def Qb:=@Go.wpAny_of_seq
def QV:=@Go.seqB_ready
def R5:=@Go.run_firstCells_some
def Rh:=@Go.results_none
def SD:=@ne_of_beq_false
def Ur:=@beq_self_eq_true
def UO:=@Go.World.var?_cell
def UR:=@Go.Region.noSelect_spec
def US:=@Go.Region.free_spec
def V3:=@Option.or_none
def V4:=@Go.Oper.upon_value
def V5:=@Nat.xor_lt_two_pow
def V6:=@Nat.sub_self
def V7:=@Nat.one_mul
def V8:=@Nat.min_def
def V9:=@Nat.lt_succ_self
def Va:=@Nat.lt_of_le_of_lt
def Vb:=@List.set_cons_succ
def Vc:=@List.replicate_succ
def Vd:=@List.pairwise_mergeSort
def Ve:=@List.map_map
def Vf:=@List.length_singleton
def Vg:=@List.length_range
def Vh:=@List.length_dropLast
def Vi:=@List.getElem_take
def Vj:=@List.flatten_append
def Vk:=@List.flatMap_def
def Vl:=@List.flatMap_append
def Vm:=@List.filter_filter
def Vn:=@List.filter_eq_nil_iff
def Vo:=@List.drop_left'
def Vp:=@List.drop_left
def Vq:=@List.dropLast_subset
def Vr:=@List.concat_eq_append
def Vs:=@List.append_cancel_left
def Vt:=@List.Nodup.sublist
def Vu:=@Go.Lib.nDigits_big
def Vv:=@Go.Lib.decDigits_length
def Vw:=@Int.ne_of_lt
def Vx:=@Int.mul_le_mul_of_nonneg_left
def VA:=@Bool.false_and
def VC:=@Array.setIfInBounds_comm
def VD:=@Array.getElem?_setIfInBounds_ne
def Xg:=@Go.run_callFunc_extern
def A3k:=@Go.World.cell?_setCell_far
def A3l:=@Go.WideShapes.bytes_inj
def A3m:=@Option.map_eq_some_iff
def A3o:=@Nat.pow_le_pow_right
def A3p:=@Nat.lt_succ_of_lt
def A3q:=@Nat.lt_of_succ_lt_succ
def A3r:=@Nat.le_of_succ_le
def A3s:=@Nat.le_of_lt_succ
def A3t:=@Nat.eq_zero_or_pos
def A3u:=@Nat.div_le_div_right
def A3v:=@Nat.add_sub_cancel_left
def A3w:=@Nat.add_sub_cancel
def A3x:=@List.setIfInBounds_toArray
def A3y:=@List.mergeSort_perm
def A3z:=@List.mergeSort_nil
def A3A:=@List.mem_of_find?_eq_some
def A3B:=@List.mem_mergeSort
def A3C:=@List.mem_erase_of_ne
def A3D:=@List.map_mergeSort
def A3E:=@List.length_pos_of_mem
def A3F:=@List.length_erase_of_mem
def A3G:=@List.length_eq_one_iff
def A3H:=@List.getLast?_eq_some_getLast
def A3I:=@List.getElem_set_ne
def A3J:=@List.getElem?_cons_succ
def A3K:=@List.find?_append
def A3L:=@List.exists_mem_of_ne_nil
def A3N:=@List.Sublist.refl
def A3O:=@List.Pairwise.sublist
def A3P:=@List.Pairwise.imp_of_mem
def A3R:=@Int.tmod_eq_emod_of_nonneg
def A3S:=@Int.mul_tdiv_add_tmod
def A3T:=@Int.lt_or_eq_of_le
def A3U:=@Classical.byContradiction
def A3V:=@ByteArray.data_extract
def A3W:=@Array.getElem?_eq_getElem
def A3X:=@Array.ext_getElem?
def A3Y:=@Array.all_eq_true_iff_forall_mem
abbrev A5(b:Nat):Value:=.pointer (some ⟨b,0,none⟩)
abbrev Aa(b o:Nat):Addr:=⟨b,o,none⟩
abbrev A7(w:World)(b o:Nat)(v:Value):Prop:=w.cell? ⟨b,o,none⟩=some v
abbrev A0(n:Int):Value:=.int .i64 n
abbrev AJ(b n c:Nat):Value:=.slice (some ⟨b,0,none⟩) n c
abbrev Ab:Nat->Prop:=λ_=>False
abbrev Ag:=Calls Tryz.prog
abbrev Al(v:Value)(Q:World->Prop)(e:Ending)(w:World):Prop:=e=.returned v/\Q w
abbrev _root_.Go.World.aC(w:World)(x:Array Value)(t:TypeId):World:=w.alloc (.cells x t)
abbrev _root_.Go.World.sC(w:World)(b o:Nat)(v:Value):World:=w.setCell ⟨b,o,none⟩ v
abbrev _root_.Go.Value.oB(v:Value)(b:Nat):Prop:=v.ownBlock=some b
def _root_.Go.RowKit.Hid.o{p:Prop}(h:Hid p):p:=h
def _root_.Go.RowKit.Hid.m{P:Program}{f:FuncId}{a:Array Value}{w:World}{R Q:Ending->World->Prop}(h:Hid (Calls P f a w R))(k:∀e w',R e w'->Q e w'):Calls P f a w Q:=Calls.mono h k
def C3(k:Nat):(0:Int)<=(k:Int):=Gp _
def Gg{w:World}{b o:Nat}{x:Array Value}{t:TypeId}{f:Nat×Nat}{v:Value}(h:w.heap[b]?=some (.cells x t f))(k:x[o]?=some v:=by rfl):A7 w b o v:=by
 show w.cell? ⟨b,o,none⟩=some v;simp only[World.cell?,h];exact k
def Bq:List Nat->List Nat->List (Nat×Bool)
 | [],_=>[]
 | i::r,x=>(i,!x.elem i):: Bq r x
def An:(∀(a:Act) (v:Value) (d:Tmp),a.put (some d) v=⟨a.tmps.setIfInBounds d v,a.defers⟩)/\(∀(a:Act) (v:Value),a.put none v=a)/\(∀ {α:Type} {l:List α} {i:Nat} {a:α},l.toArray.setIfInBounds i a=(l.set i a).toArray)/\(∀ {α:Type} {x a:α} {xs:List α},(x::xs).set 0 a=a::xs)/\
 (∀ {α:Type} {x a:α} {xs:List α} {n:Nat},(x::xs).set (n+1) a=x::xs.set n a)/\(∀ {α:Type} {l:List α} {i:Nat} (h:i<l.toArray.size),l.toArray[i]=l[i]'(by simpa using h))/\(∀ {α:Type} {a:α} {l:List α} (h:0<(a::l).length),(a::l)[0]=a)/\
 (∀ {α:Type} {a:α} {l:List α} {i:Nat} (h:i+1<(a::l).length),(a::l)[i+1]=l[i]'(A3q h)):=
 ⟨λ_ _ _=>rfl,λ_ _=>rfl,A3x _ _ _,rfl,rfl,λ_=>rfl,λ_=>rfl,λ_=>rfl⟩
structure A3 (S:Nat->Prop) (w w':World):Prop where
 os:w'.os=w.os
 FK:w'.tape=w.tape
 FM:w'.output=w.output
 Ak:w.heap.size<=w'.heap.size
 Ao:∀k,k<w.heap.size->¬S k->w'.heap[k]?=w.heap[k]?
def A3.I(S:Nat->Prop)(w:World):A3 S w w:=⟨rfl,rfl,rfl,As _,λ_ _ _=>rfl⟩
def A3.Ap{S S':Nat->Prop}{a b c:World}(h:A3 S a b)(k:A3 S' b c)(E:∀x,S' x->x<a.heap.size->S x):A3 S a c:=
 ⟨k.os.trans h.os,k.FK.trans h.FK,k.FM.trans h.FM,AM h.Ak k.Ak,λi d z=>
  (k.Ao i (Bk d h.Ak) (λH=>z (E i H d))).trans (h.Ao i d z)⟩
def A3.aa{S S':Nat->Prop}{a b:World}(h:A3 S a b)(z:∀x,x<a.heap.size->S x->S' x):A3 S' a b:=
 ⟨h.os,h.FK,h.FM,h.Ak,λk d H=>h.Ao k d (λE=>H (z k d E))⟩
def A3.af{S:Nat->Prop}{a w:World}(h:A3 S a w):A3 S a w.drew:=⟨h.os,h.FK,h.FM,h.Ak,h.Ao⟩
def A3.ba{S:Nat->Prop}{a w:World}(h:A3 S a w)(n:Nat):A3 S a (w.drewN n):=⟨h.os,h.FK,h.FM,h.Ak,h.Ao⟩
def A3.ak{S:Nat->Prop}{a w:World}(h:A3 S a w)(o:Obj):A3 S a (w.alloc o):=
 ⟨h.os,h.FK,h.FM,by have:=h.Ak;simp;omega,λk d z=>(Dc _ _ _ (Bk d h.Ak)).trans (h.Ao k d z)⟩
def A3.tr{S:Nat->Prop}{a b c:World}(h:A3 S a b)(k:A3 S b c):A3 S a c:=h.Ap k λ_ h _=>h
def A3.aC{S:Nat->Prop}{a w:World}(h:A3 S a w)(x:Array Value)(t:TypeId):A3 S a (w.alloc (.cells x t)):=h.ak _
def A3.bt{S:Nat->Prop}{a w:World}(h:A3 S a w){p:Addr}(E:p.block<a.heap.size->S p.block)(u:Value):A3 S a (w.setCell p u):=
 ⟨h.os,h.FK,h.FM,by simpa using h.Ak,λk d z=>(GF _ _ _ _ (λe=>by subst e;exact z (E d))).trans (h.Ao k d z)⟩
def A3.Cy{S:Nat->Prop}{a w w':World}{row:Option Nat}(h:A3 S a w)(d:w.grownBy w' row)(H:∀k,row=some k->k<a.heap.size->S k):A3 S a w':=
 ⟨d.os.trans h.os,d.tape.trans h.FK,d.output.trans h.FM,AM h.Ak d.size,λk z E=>
  (d.block k (Bk z h.Ak) (λe=>E (H k e.symm z))).trans (h.Ao k z E)⟩
def A3.dW{S:Nat->Prop}{a b:World}{B:Nat}(h:A3 S a b)(z:B<=a.heap.size)(E:∀k,k<B->¬S k):Below B a b:=
 ⟨h.os,h.FK,h.FM,h.Ak,λk d=>h.Ao k (Bk d z) (E k d)⟩
def A3.aj{S:Nat->Prop}{a b:World}(h:A3 S a b){k:Nat}{o:Obj}(d:a.heap[k]?=some o)(z:¬S k):b.heap[k]?=some o:=
 (h.Ao k (By d) z).trans d
def One(b:Nat):Nat->Prop:=λk=>k=b
def A3.ao{S:Nat->Prop}{a w:World}(h:A3 S a w){b:Nat}(d:S b)(o:Nat)(u:Value):A3 S a (w.setCell (Aa b o) u):=h.bt (p:=(Aa b o)) (λ_=>d) u
def A1{p:Prop}(h:p):Hid p:=h
def FW(S:Nat->Prop)(w w':World):Prop:=∀k,S k->w'.heap[k]?=w.heap[k]?
def FW.aa{S S':Nat->Prop}{w w':World}(h:FW S w w')(z:∀k,S' k->S k):FW S' w w':=λk d=>h k (z k d)
def A3.aH{S T:Nat->Prop}{w w':World}(h:A3 S w w')(E:∀k,T k->k<w.heap.size)(z:∀k,T k->¬S k):FW T w w':=λk d=>h.Ao k (E k d) (z k d)
def Ay{w w':World}{d e size n:Nat}{v:Value}{xs:List Value}(h:w.ownsRow d e size v n xs)(L:∀g,v.ownBlock=some g->w'.heap[g]?=w.heap[g]?):w'.ownsRow d e size v n xs:=by
 refine⟨h.1,?_⟩;rcases h.2 with E|⟨g,cap,z,rfl,I,H,r⟩
 ·exact .inl E
 ·exact .inr ⟨g,cap,z,rfl,I,by rw[L g rfl];exact H,r⟩
def AB{w:World}{d e size n:Nat}{v:Value}{xs:List Value}(h:w.ownsRow d e size v n xs){g:Nat}(z:v.ownBlock=some g):g<w.heap.size:=(h.lt g z).2
def Be{w:World}{z e size n:Nat}{v:Value}{xs:List Value}(h:w.ownsRow z e size v n xs){g:Nat}(E:v.ownBlock=some g):∃d,w.heap[g]?=some (.cells d e (0,0)):=by
 rcases h.2 with⟨rfl,_⟩|⟨g',cap,d,rfl,_,H,_⟩
 ·simp[Value.ownBlock]at E
 ·simp[Value.ownBlock]at E;subst E;exact⟨d,H⟩
def BC{w:World}{d e size n:Nat}{v:Value}{xs:List Value}(h:w.ownsRow d e size v n xs){g:Nat}(z:v.ownBlock=some g){j:Nat}{u:Value}(hu:xs[j]?=some u):A7 w g j u:=by
 have:=h.cells z j u hu;unfold Addr.add at this;split at this
 ·rename_i E;rw[E];exact this
 ·simpa using this
def G6{w:World}{d e size n:Nat}{v:Value}{xs:List Value}(h:w.ownsRow d e size v n xs){g:Nat}(E:v.ownBlock=some g)(j:Nat):w.frozen? (Aa g j)=false:=by
 obtain⟨cur,z⟩:=Be h E;simp[World.frozen?,z]
def B8{w:World}{d e size n:Nat}{v:Value}{xs:List Value}(h:w.ownsRow d e size v n xs):
 ∃a cap,v=.slice a n cap/\n<=cap/\cap<=maxLen/\(0<n->∃g,a=some (Aa g 0))/\(a=none->n=0/\cap=0)/\(∀x,a=some x->∃g,x=(Aa g 0)):=by
 rcases h.2 with⟨rfl,H⟩|⟨g,cap,cur,rfl,_,hg,z,I,hs,_⟩
 ·exact⟨none,0,by rw[H],by omega,by decide,by omega,λ_=>⟨H,rfl⟩,λx E=>by cases E⟩
 ·exact⟨_,cap,rfl,z,I,λ_=>⟨g,rfl⟩,by simp,λx E=>⟨g,by cases E;rfl⟩⟩
def S3{w:World}{d e size n cap:Nat}{a:Option Addr}{xs:List Value}(h:w.ownsRow d e size (.slice a n cap) n xs){m:Nat}(hm:m<=n):w.ownsRow d e size (.slice a m cap) m (xs.take (m*size)):=by
 have I:m*size<=n*size:=Hq _ hm;refine⟨by rw[BU,h.1];omega,?_⟩;rcases h.2 with⟨z,L⟩|⟨g,cap',H,z,W,X,hcap,E,Y,O⟩
 ·subst L;cases z;obtain rfl:m=0:=by omega
  exact .inl ⟨rfl,rfl⟩
 ·cases z;exact .inr ⟨g,cap,H,rfl,W,X,by omega,E,Y,by rw[<-O,Kd,MV I]⟩
def Ph(a b:ByteArray):(a.toList==b.toList)=true↔a=b:=by
 rw[beq_iff_eq,Kk,Kk];exact⟨λh=>A3l h,λh=>by rw[h]⟩
def Ul(a b:ByteArray):(a.toList==b.toList)=false↔a≠b:=by
 have:=Ph a b;constructor
 ·intro h e;rw[this.2 e]at h;cases h
 ·intro h;cases hx:(a.toList==b.toList) with
  | false=>rfl
  | true=>exact absurd (this.1 hx) h
abbrev AL:=ByteArray×Nat
def BX:List AL->List Value
 | []=>[]
 | (n,f):: r=>.string n::(A5 f):: BX r
def A00(es:List AL):(BX es).length=es.length*2:=by
 induction es with
 | nil=>rfl
 | cons e r ih=>obtain⟨n,f⟩:=e;simp only[BX,Cv,ih];omega
def L6(a b:List AL):BX (a++b)=BX a++BX b:=by
 induction a with
 | nil=>rfl
 | cons e r ih=>obtain⟨n,f⟩:=e;simp[BX,ih]
def A0Z(es:List AL)(k:Nat):(BX es).take (k*2)=BX (es.take k):=by
 induction es generalizing k with
 | nil=>simp[BX]
 | cons e r ih=>
  obtain⟨n,f⟩:=e
  match k with
  | 0=>simp[BX]
  | k+1=>rw[show (k+1)*2=k*2+1+1 from by omega];simp[BX,ih]
def A01(es:List AL)(k:Nat):(BX es).drop (k*2)=BX (es.drop k):=by
 induction es generalizing k with
 | nil=>simp[BX]
 | cons e r ih=>
  obtain⟨n,f⟩:=e
  match k with
  | 0=>simp[BX]
  | k+1=>rw[show (k+1)*2=k*2+1+1 from by omega];simp[BX,ih]
def OU(es:List AL)(k:Nat)(h:k<es.length):(BX es)[k*2]?=some (.string (es[k]'h).1):=by
 induction es generalizing k with
 | nil=>simp at h
 | cons e r ih=>
  obtain⟨n,f⟩:=e
  match k with
  | 0=>simp[BX]
  | k+1=>
   have:=ih k (by simpa using h);rw[show (k+1)*2=k*2+1+1 from by omega];simpa[BX] using this
def OS(es:List AL)(k:Nat)(h:k<es.length):(BX es)[k*2+1]?=some (A5 ((es[k]'h).2)):=by
 induction es generalizing k with
 | nil=>simp at h
 | cons e r ih=>
  obtain⟨n,f⟩:=e
  match k with
  | 0=>simp[BX]
  | k+1=>
   have:=ih k (by simpa using h);rw[show (k+1)*2+1=k*2+1+1+1 from by omega];simpa[BX] using this
def OT(es:List AL):∀u∈BX es,u.oneCell'=true:=by
 induction es with
 | nil=>simp[BX]
 | cons e r ih=>
  obtain⟨n,f⟩:=e;intro u hu;simp only[BX,BR]at hu;rcases hu with rfl|rfl|hu
  ·rfl
  ·rfl
  ·exact ih u hu
def D2(w:World)(v:Value)(es:List AL):Prop:=w.ownsRow 0 125 2 v es.length (BX es)
def D2.Ce{w:World}{v:Value}{es:List AL}(h:D2 w v es):
 ∃a cap,v=.slice a es.length cap/\es.length<=cap/\cap<=maxLen/\∀k (d:k<es.length),∃g,a=some (Aa g 0)/\A7 w g (k*2) (.string (es[k]'d).1)/\A7 w g (k*2+1) (A5 ((es[k]'d).2)):=by
 rcases B8 h with⟨a,cap,rfl,E,z,H,_,_⟩;refine⟨a,cap,rfl,E,z,λk d=>?_⟩;obtain⟨g,rfl⟩:=H (by omega);exact⟨g,rfl,BC h rfl (OU es k d),BC h rfl (OS es k d)⟩
def B2:List AL->ByteArray->Int
 | [],_=>-1
 | e::r,name=>if e.1=name then 0 else if B2 r name<0 then -1 else B2 r name+1
def A0V(es:List AL)(name:ByteArray)(k:Nat)(z:k<es.length)(h:(es[k]'z).1=name)(d:∀m (H:m<k),(es[m]'(by omega)).1≠name):B2 es name=k:=by
 induction es generalizing k with
 | nil=>simp at z
 | cons e r ih=>
  match k with
  | 0=>simp only[Ly]at h;simp[B2,h]
  | k+1=>
   have E:=d 0 (by omega);simp only[Ly]at E;have:=ih k (by simpa using z) (by simpa using h) (λm H=>by simpa using d (m+1) (by omega));simp only[B2,E,C4,this];rw[Ad (by omega)];omega
def A0T(es:List AL)(name:ByteArray)(d:∀m (h:m<es.length),(es[m]'h).1≠name):B2 es name = -1:=by
 induction es with
 | nil=>rfl
 | cons e r ih=>
  have z:=d 0 (by simp);simp only[Ly]at z;have:=ih (λm h=>by have:=d (m+1) (by simp;omega);simpa using this);simp[B2,z,this]
def TL(es:List AL)(name:ByteArray): -1<=B2 es name/\B2 es name<es.length:=by
 induction es with
 | nil=>simp[B2]
 | cons e r ih=>
  simp only[B2,Cv];split
  ·omega
  ·split<;>omega
def OQ(es:List AL)(name:ByteArray):(B2 es name = -1/\∀e∈es,e.1≠name)\/∃k,∃d:k<es.length,B2 es name=(k:Int)/\(es[k]'d).1=name:=by
 induction es with
 | nil=>exact .inl ⟨rfl,by simp⟩
 | cons e r ih=>
  by_cases h:e.1=name
  ·exact .inr ⟨0,by simp,by simp[B2,h],by simpa using h⟩
  ·rcases ih with⟨E,z⟩|⟨k,d,E,z⟩
   ·exact .inl ⟨by simp[B2,h,E],λx H=>by rcases BR.1 H with rfl|H;exact h;exact z x H⟩
   ·exact .inr ⟨k+1,by simpa using d,by simp only[B2,h,C4,E];rw[Ad (by omega)];omega,by simpa using z⟩
structure DN where
 AH:Int
 AZ:Int
 Cb:Int
 Cr:Int
 BJ:Int
 Bt:Int
 fulls:Int
 AX:Bool
def GJ(vd vs vc:Value)(n:DN):Array Value:=
 #[vd,vs,vc,A0 n.AH,A0 n.AZ,A0 n.Cb,A0 n.Cr,A0 n.BJ,A0 n.Bt,A0 n.fulls,.bool n.AX]
def AK(w:World)(b:Nat)(vd vs vc:Value)(n:DN):Prop:=w.heap[b]?=some (.cells (GJ vd vs vc n) 95 (0,0))
section
variable {w:World} {b:Nat} {vd vs vc:Value} {n:DN}
def AK.c0(h:AK w b vd vs vc n):A7 w b 0 vd:=by unfold AK at h;simp[A7,World.cell?,h,GJ]
def AK.c1(h:AK w b vd vs vc n):A7 w b 1 vs:=by unfold AK at h;simp[A7,World.cell?,h,GJ]
def AK.c2(h:AK w b vd vs vc n):A7 w b 2 vc:=by unfold AK at h;simp[A7,World.cell?,h,GJ]
def AK.c3(h:AK w b vd vs vc n):A7 w b 3 (A0 n.AH):=by unfold AK at h;simp[A7,World.cell?,h,GJ]
def AK.c4(h:AK w b vd vs vc n):A7 w b 4 (A0 n.AZ):=by unfold AK at h;simp[A7,World.cell?,h,GJ]
def AK.c5(h:AK w b vd vs vc n):A7 w b 5 (A0 n.Cb):=by unfold AK at h;simp[A7,World.cell?,h,GJ]
def AK.c6(h:AK w b vd vs vc n):A7 w b 6 (A0 n.Cr):=by unfold AK at h;simp[A7,World.cell?,h,GJ]
def AK.c7(h:AK w b vd vs vc n):A7 w b 7 (A0 n.BJ):=by unfold AK at h;simp[A7,World.cell?,h,GJ]
def AK.c8(h:AK w b vd vs vc n):A7 w b 8 (A0 n.Bt):=by unfold AK at h;simp[A7,World.cell?,h,GJ]
def AK.c9(h:AK w b vd vs vc n):A7 w b 9 (A0 n.fulls):=by unfold AK at h;simp[A7,World.cell?,h,GJ]
def AK.bY(h:AK w b vd vs vc n):A7 w b 10 (.bool n.AX):=by unfold AK at h;simp[A7,World.cell?,h,GJ]
def AK.fz(h:AK w b vd vs vc n)(o:Nat):w.frozen? (Aa b o)=false:=by unfold AK at h;simp[World.frozen?,h]
def AK.lt(h:AK w b vd vs vc n):b<w.heap.size:=By h
def Cq{w:World}{b:Nat}{c:Array Value}{e:Nat}{o:Nat}{v:Value}(h:w.heap[b]?=some (.cells c e (0,0))):(w.setCell (Aa b o) v).heap[b]?=some (.cells (c.setIfInBounds o v) e (0,0)):=by
 simp[World.setCell,Array.getElem?_modify,h]
def AK.aH{w':World}(h:AK w b vd vs vc n)(d:w'.heap[b]?=w.heap[b]?):AK w' b vd vs vc n:=d.trans h
def AK.ak(h:AK w b vd vs vc n)(o:Obj):AK (w.alloc o) b vd vs vc n:=h.aH (Dc _ _ _ h.lt)
def AK.Cy{w':World}{row:Option Nat}(h:AK w b vd vs vc n)(z:w.grownBy w' row)(d:row≠some b):AK w' b vd vs vc n:=h.aH (z.block b h.lt (λe=>d e.symm))
def AK.Aj{S:Nat->Prop}{w':World}(h:AK w b vd vs vc n)(z:A3 S w w')(d:¬S b):AK w' b vd vs vc n:=h.aH (z.Ao b h.lt d)
def AK.s0(h:AK w b vd vs vc n)(v:Value):AK (w.setCell (Aa b 0) v) b v vs vc n:=Cq h
def AK.s1(h:AK w b vd vs vc n)(v:Value):AK (w.setCell (Aa b 1) v) b vd v vc n:=Cq h
def AK.s2(h:AK w b vd vs vc n)(v:Value):AK (w.setCell (Aa b 2) v) b vd vs v n:=Cq h
def AK.s4(h:AK w b vd vs vc n)(x:Int):AK (w.setCell (Aa b 4) (A0 x)) b vd vs vc {n with AZ:=x}:=Cq h
def AK.s5(h:AK w b vd vs vc n)(x:Int):AK (w.setCell (Aa b 5) (A0 x)) b vd vs vc {n with Cb:=x}:=Cq h
def AK.s6(h:AK w b vd vs vc n)(x:Int):AK (w.setCell (Aa b 6) (A0 x)) b vd vs vc {n with Cr:=x}:=Cq h
def AK.s7(h:AK w b vd vs vc n)(x:Int):AK (w.setCell (Aa b 7) (A0 x)) b vd vs vc {n with BJ:=x}:=Cq h
def AK.s8(h:AK w b vd vs vc n)(x:Int):AK (w.setCell (Aa b 8) (A0 x)) b vd vs vc {n with Bt:=x}:=Cq h
def AK.s9(h:AK w b vd vs vc n)(x:Int):AK (w.setCell (Aa b 9) (A0 x)) b vd vs vc {n with fulls:=x}:=Cq h
def AK.ep(h:AK w b vd vs vc n)(x:Bool):AK (w.setCell (Aa b 10) (.bool x)) b vd vs vc {n with AX:=x}:=Cq h
end
def CY(w:World)(f:Nat)(vb:Value)(Ac:Int):Prop:=w.heap[f]?=some (.cells #[vb,A0 Ac] 129 (0,0))
section
variable {w:World} {f:Nat} {vb:Value} {Ac:Int}
def CY.c0(h:CY w f vb Ac):A7 w f 0 vb:=by unfold CY at h;simp[A7,World.cell?,h]
def CY.c1(h:CY w f vb Ac):A7 w f 1 (A0 Ac):=by unfold CY at h;simp[A7,World.cell?,h]
def CY.fz(h:CY w f vb Ac)(o:Nat):w.frozen? (Aa f o)=false:=by unfold CY at h;simp[World.frozen?,h]
def CY.s0(h:CY w f vb Ac)(v:Value):CY (w.setCell (Aa f 0) v) f v Ac:=Cq h
def CY.s1(h:CY w f vb Ac)(x:Int):CY (w.setCell (Aa f 1) (A0 x)) f vb x:=Cq h
end
def E0(bs:List UInt8):List Value:=bs.map λb=>.int .u8 b.toNat
def FI(w:World)(v:Value)(bs:List UInt8):Prop:=w.ownsRow 0 5 1 v bs.length (E0 bs)
def A18(a b:List UInt8):E0 (a++b)=E0 a++E0 b:=El
def A3.cT{S:Nat->Prop}{w w':World}(h:Below w.heap.size w w'):A3 S w w':=⟨h.os,h.tape,h.output,h.size,λk d _=>h.block k d⟩
def A3.al{w w':World}(h:A3 Ab w w'){p:Addr}{v:Value}(d:w.cell? p=some v):w'.cell? p=some v:=by
 have z:p.block<w.heap.size:=by
  rcases F7 p.block w.heap.size with h|h
  ·exact h
  ·unfold World.cell? at d;rw[Nk h]at d;simp at d
 unfold World.cell? at d ⊢;rw[h.Ao _ z (λh=>h)];exact d
structure App (w w':World) (e size:Nat) (v v':Value) (n:Nat) (xs:List Value):Prop where
 AA:w'.ownsRow 0 e size v' n xs
 Cy:w.grownBy w' v.ownBlock
 Cj:v'.ownBlock=v.ownBlock\/v'.ownBlock=some w.heap.size
 Ce:∃a cap,v'=.slice a n cap
def Xi{P:Program}(w:World)(t tx ty e:TypeId)(i:TypeInfo)(z:Value)(size bytes:Nat)(ht:P.underlying t=some (.slice e))(hi:P.info? e=some i)(hz:i.zero=some z)(W:i.size=size)(aJ:i.bytes=bytes)(aL:z.cells.size=size)(aI:0<bytes)(v:Value)(n:Nat)(xs:List Value)(d:w.ownsRow 0 e size v n xs)(x:Value)(m:Nat)(news:List Value)(L:Src P size tx x m news w)(H:(n+m)*bytes<=140737488355328):
 ∃v' w',(Builtin.append_ #[t,tx] ty #[v,x]).run P w=.ok v' w'/\App w w' e size v v' (n+m) (xs++news):=by
 subst W;subst aJ;have hnm:=AM (Nat.le_mul_of_pos_right _ aI) H;have h:(xs++news).length=(n+m)*i.size:=by rw[AY,d.1,L.newsLen,HM]
 obtain⟨a,cap,rfl,hnc,aG,_,aD,X⟩:=B8 d;by_cases E:n+m<=cap
 ·rcases d.2 with⟨h1,h2⟩|⟨g,cap',I,h1,_,hg,_,_,aK,Y⟩
  ·cases h1;(obtain rfl:m=0:=by omega);have hn:=N6 (by simpa using L.newsLen);subst hn;have hx:=N6 (by simpa using d.1);subst hx;refine⟨.slice none 0 0,w,?_,⟨CD w 0 e i.size,⟨rfl,rfl,rfl,As _,λ_ _ _=>rfl⟩,.inl rfl,⟨none,0,rfl⟩⟩⟩;rcases L.kind with⟨e',O⟩|O<;>simp[Builtin.append_,run_underlying ht,run_underlying O,sizeOf,typeInfo,hi,L.len,L.cells]
  ·cases h1;(have aE:n*i.size+news.length<=I.size:=by rw[L.newsLen,aK,<-HM];exact Hq _ E);have aA:=run_storeCells_at P g (n*i.size) e news 0 I w hg (by simpa using aE) L.one;simp only[PH]at aA;have hr:(Builtin.append_ #[t,tx] ty #[AJ g n cap,x]).run P w=.ok (AJ g (n+m) cap) (w.setRow g (I.toList.take (n*i.size)++news++I.toList.drop (n*i.size+news.length)).toArray):=by
    rcases L.kind with⟨e',O⟩|O<;>simp[Builtin.append_,run_underlying ht,run_underlying O,sizeOf,typeInfo,hi,L.len,E,L.cells,Addr.add_lit,aA]
   refine⟨_,_,hr,⟨⟨h,.inr ⟨g,cap,_,rfl,Cf _,Kx w g I _ e _ hg,E,aG,?_,?_⟩⟩,⟨rfl,rfl,rfl,by simp,λk _ O=>JA w g k _ (λe=>O (by simp[Value.ownBlock,e]))⟩,.inl rfl,⟨_,_,rfl⟩⟩⟩
   ·simp only[Lr,AY,BU,Cu,LI];omega
   ·rw[Y,<-h];exact Ke
 ·have aB:(Builtin.firstCells i.size n (.slice a n cap)).run P w.drew=.ok xs.toArray w.drew:=by
   cases a with
   | none=>
    obtain⟨rfl,_⟩:=aD rfl;have hx:=N6 (by simpa using d.1);subst hx;exact run_firstCells_none w.drew i.size 0 0 cap
   | some ad=>
    obtain⟨g,rfl⟩:=X ad rfl;exact R5 w.drew i.size n _ n cap xs d.1 (by simpa using d.cells (g:=g) rfl)
  have hr:=run_append_grow_src (P:=P) w t tx ty e i z ht hi hz a n cap xs aB x m news L (by omega) (by omega) (growslice_fits (by omega) H);have aF:=grownCap_ge w (n+m) cap e;have aH:=grownCap_le_maxLen w (n+m) cap e (by unfold maxLen;omega);refine⟨_,_,hr,⟨⟨h,.inr ⟨w.heap.size,_,_,rfl,Cf _,BN w.drew _,aF,aH,?_,?_⟩⟩,⟨rfl,rfl,rfl,by simp,λk O _=>Dc w.drew _ k O⟩,.inr rfl,⟨_,_,rfl⟩⟩⟩
  ·simp only[Array.size_append,Lr,size_zeroCells,aL,h,<-HM]
   congr 1
   omega
  ·simp only[Q5];rw[<-h];exact Ke
section
variable {P:Program} {w:World}
def HW{o:Oper}{a:Act}{K:Act->World->Prop}{Q:Exit->Act->World->Prop}(s x:Operand)(t W:TypeId)(ho:o.op=.call {callee:=.builtin .append,args:=#[s,x],argTypes:=#[t,W]})(e:TypeId)(i:TypeInfo)(z:Value)(size bytes:Nat)(Y:P.underlying t=some (.slice e))(hi:P.info? e=some i)(hz:i.zero=some z)(E:i.size=size)(L:i.bytes=bytes)(O:z.cells.size=size)(I:0<bytes)(v:Value)(n:Nat)(xs:List Value)(hv:a.eval s=v)(H:w.ownsRow 0 e size v n xs)(sv:Value)(m:Nat)(news:List Value)(hx:a.eval x=sv)(hs:Src P size W sv m news w)(d:(n+m)*bytes<=140737488355328)(h:∀b cap w',App w w' e size v (.slice b (n+m) cap) (n+m) (xs++news)->K (a.put o.dst (.slice b (n+m) cap)) w'):o.wp P a w K Q:=by
 obtain⟨v',w',hr,X⟩:=Xi (P:=P) w t W o.type e i z size bytes Y hi hz E L O I v n xs H sv m news hs d;obtain⟨b,cap,rfl⟩:=X.Ce;unfold Oper.wp execOp;simp only[ho,resolve,invoke,builtin,Sem.run_bind,Sem.run_pure,Result.andThen_ok,List.map_toArray,Hb,List.map_nil,hv,hx,hr];exact h b cap w' X
def D4{ops:Array Oper}{rest:List Oper}{o:Oper}{a:Act}{Q:Exit->Act->World->Prop}(I:o.guard=none)(s x:Operand)(t X:TypeId)(ho:o.op=.call {callee:=.builtin .append,args:=#[s,x],argTypes:=#[t,X]})(e:TypeId)(i:TypeInfo)(z:Value)(size bytes:Nat)(Y:P.underlying t=some (.slice e))(hi:P.info? e=some i)(hz:i.zero=some z)(E:i.size=size)(O:i.bytes=bytes)(W:z.cells.size=size)(L:0<bytes)(v:Value)(n:Nat)(xs:List Value)(hv:a.eval s=v)(H:w.ownsRow 0 e size v n xs)(sv:Value)(m:Nat)(news:List Value)(hx:a.eval x=sv)(hs:Src P size X sv m news w)(d:(n+m)*bytes<=140737488355328)(h:∀b cap w',App w w' e size v (.slice b (n+m) cap) (n+m) (xs++news)->wpList P ops Q rest (a.put o.dst (.slice b (n+m) cap)) w'):wpList P ops Q (o::rest) a w:=
 wpList_plain I λ_ hK=>HW s x t X ho e i z size bytes Y hi hz E O W L v n xs hv H sv m news hx hs d λb cap w' hA=>hK _ _ (h b cap w' hA)
def Jy{y:Nat->Option Bool}{o:Oper}{a:Act}{K:Act->World->Prop}{Q:Exit->Act->World->Prop}{E:Prop}(L:o.guard=none)(s x:Operand)(t Y:TypeId)(ho:o.op=.call {callee:=.builtin .append,args:=#[s,x],argTypes:=#[t,Y]})(e:TypeId)(i:TypeInfo)(z:Value)(size bytes:Nat)(ht:P.underlying t=some (.slice e))(hi:P.info? e=some i)(hz:i.zero=some z)(H:i.size=size)(W:i.bytes=bytes)(X:z.cells.size=size)(O:0<bytes)(v:Value)(n:Nat)(xs:List Value)(hv:a.eval s=v)(I:w.ownsRow 0 e size v n xs)(sv:Value)(m:Nat)(news:List Value)(hx:a.eval x=sv)(hs:Src P size Y sv m news w)(d:(n+m)*bytes<=140737488355328)(h:∀b cap w',App w w' e size v (.slice b (n+m) cap) (n+m) (xs++news)->K (a.put o.dst (.slice b (n+m) cap)) w'):
 if Region.wanted o y=true then Oper.wp P o a w K Q else E:=by
 have hw:Region.wanted o y=true:=by simp[Region.wanted,L]
 rw[Ah hw];exact HW s x t Y ho e i z size bytes ht hi hz H W X O v n xs hv I sv m news hx hs d h
def Src.cA{size:Nat}{h I:TypeId}(z:P.underlying h=some (.slice I)){B:Nat}{d:Array Value}{t:TypeId}{O:Nat×Nat}(L:w.heap[B]?=some (.cells d t O))(m c:Nat)(E:d.size=m*size)(H:∀u∈d.toList,u.oneCell'=true):Src P size h (.slice (some ⟨B,0,none⟩) m c) m d.toList w:=
 Je w z _ m c _ (by simpa using E) (World.news_of_block L) H
def Src.bb{size:Nat}{h L:TypeId}(z:P.underlying h=some (.slice L))(w:World)(d:Array Value)(t B:Nat)(I:w.heap.size=B)(m c:Nat)(E:d.size=m*size)(H:∀u∈d.toList,u.oneCell'=true):Src P size h (.slice (some ⟨B,0,none⟩) m c) m d.toList (w.alloc (.cells d t)):=by
 subst I;exact Src.cA z (BN _ _) m c E H
def Src.bO{size:Nat}{H L e:TypeId}(E:P.underlying H=some (.slice L)){v:Value}{m:Nat}{news:List Value}(h:w.ownsRow 0 e size v m news)(I:∀u∈news,u.oneCell'=true):Src P size H v m news w:=by
 obtain⟨a,cap,rfl,_,_,_,z,d⟩:=B8 h;cases a with
 | none=>
  obtain⟨rfl,rfl⟩:=z rfl;have O:=N6 (by simpa using h.1);subst O;exact Src.ofNil w E 0
 | some ad=>
  obtain⟨g,rfl⟩:=d ad rfl;exact Je w E _ m cap news h.1 (h.cells rfl) I
end
def Jw(s:Nat):Nat:=(s/2) ^^^ (3988292384*(s &&& 1))
def Jv(s:Nat):Nat->Nat
 | 0=>s
 | n+1=>Jw (Jv s n)
def LS(s:Nat)(b:UInt8):Nat:=Jv (s ^^^ b.toNat) 8
def AT(s:Nat)(bs:List UInt8):Nat:=bs.foldl LS s
def UE(s:Nat):s &&& 1<=1:=Nat.and_le_right
def QL(s:Nat)(h:s<4294967296):Jw s<4294967296:=by
 unfold Jw;have:=UE s;exact V5 (n:=32) (by omega) (by omega)
def WC(s n:Nat)(h:s<4294967296):Jv s n<4294967296:=by
 induction n with
 | zero=>exact h
 | succ n ih=>exact QL _ ih
def WB(s:Nat)(b:UInt8)(h:s<4294967296):LS s b<4294967296:=by
 have:=b.toNat_lt;exact WC _ _ (V5 (n:=32) (by omega) (by omega))
def Ju(s:Nat)(bs:List UInt8)(h:s<4294967296):AT s bs<4294967296:=by
 unfold AT
 induction bs generalizing s with
 | nil=>exact h
 | cons b t ih=>exact ih _ (WB s b h)
def Wy(s:Nat)(a b:List UInt8):AT s (a++b)=AT (AT s a) b:=N4
def Wx(s:Nat)(bs:List UInt8)(k:Nat)(d:k<bs.length):AT s (bs.take (k+1))=LS (AT s (bs.take k)) (bs[k]'d):=by
 rw[Dn d,Wy];rfl
def A3e(w:World)(s:Nat)(text:ByteArray)(hs:s<4294967296)(hl:text.size<=9223372036854775807):
 Ag 165 #[.int .u32 s,.string text] w (Al (.int .u32 (AT s text.data.toList)) λw'=>w=w'):=by
 go_enter func165,ntmps165
 go_wp2;go_loop [0,8] (λc i=>∃k x:Nat,k<=text.size/\i=A0 k/\c=.int .u32 x/\x<4294967296/\Hid (x=AT s (text.data.toList.take k))) (λ_ i=>text.size-(intOf i).toNat)
 case atStart=>exact⟨0,s,Cf _,rfl,rfl,hs,rfl⟩
 case round=>
  obtain⟨k,x,hk,rfl,rfl,hx,I⟩:=hrel;by_cases d:k<text.size
  ·have Y:=(text[k]'d).toNat_lt;have e0:bits .xor .u32 (x:Int) (((text[k]'d).toNat:Int) % 4294967296)=((x ^^^ (text[k]'d).toNat:Nat):Int):=by
    rw[show (((text[k]'d).toNat:Int) % 4294967296)=(((text[k]'d).toNat:Nat):Int) by omega];exact u32_xor_nat _ _ hx (by omega)
   have X:x ^^^ (text[k]'d).toNat<4294967296:=V5 (n:=32) (by omega) (by omega);have H:Hid (Jv (x ^^^ (text[k]'d).toNat) 8=AT s (text.data.toList.take (k+1))):=by
    unfold Hid;rw[Wx s _ k (by simpa using d),<-I.o];simp[LS];rfl
   generalize L:x ^^^ (text[k]'d).toNat=y at e0 X H;clear L Y I;go_wp2;clear e0;go_loop [0,17] (λc i=>∃j z:Nat,j<=8/\i=A0 j/\c=.int .u32 z/\z<4294967296/\Hid (z=Jv y j)) (λ_ i=>8-(intOf i).toNat)
   case atStart=>exact⟨0,y,Cf _,rfl,rfl,X,rfl⟩
   case round=>
    obtain⟨j,z,hj,rfl,rfl,O,E⟩:=hrel;by_cases hj8:j<8
    ·have e1:bits .xor .u32 ((z:Int)/2) (3988292384*bits .and .u32 (z:Int) 1 % 4294967296)=((Jw z:Nat):Int):=by
      rw[show (1:Int)=((1:Nat):Int) from rfl,u32_and_nat z 1 O (by omega)];have:=UE z;(have e2:(3988292384:Int)*((z &&& 1:Nat):Int) % 4294967296=((3988292384*(z &&& 1):Nat):Int):=by omega);rw[e2,show ((z:Int)/2)=((z/2:Nat):Int) by omega];exact u32_xor_nat _ _ (by omega) (by omega)
     have W:=QL z O;(have h:Hid (Jw z=Jv y (j+1)):=by unfold Hid;rw[E.o];rfl);go_wp2;exact⟨⟨j+1,Jw z,by omega,by go_num,rfl,W,h⟩,by simp[intOf];omega⟩
    ·(obtain rfl:j=8:=by omega);(have h:Hid (z=AT s (text.data.toList.take (k+1))):=by unfold Hid;rw[E.o];exact H.o);go_wp2;exact⟨⟨k+1,z,by omega,by go_num,rfl,O,h⟩,by simp[intOf];omega⟩
  ·have h:Hid (x=AT s text.data.toList):=by
    unfold Hid;rw[I.o,Er];simpa using by omega
   go_wp2;go_ret;rw[h.o];exact⟨rfl,rfl⟩
def extract_mk(l:List UInt8)(i j:Nat):(ByteArray.mk l.toArray).extract i j=⟨((l.drop i).take (j-i)).toArray⟩:=by
 apply ByteArray.ext;simp[ByteArray.data_extract]
def K7(a b:List UInt8):(ByteArray.mk a.toArray)++(ByteArray.mk b.toArray)=⟨(a++b).toArray⟩:=by
 apply ByteArray.ext;simp[ByteArray.data_append]
def EK:List UInt8->Nat
 | []=>0
 | b::t=>b.toNat+256*EK t
def Zw(a b:List UInt8):EK (a++b)=EK a+256 ^ a.length*EK b:=by
 induction a with
 | nil=>simp[EK]
 | cons c t ih=>simp only[Fx,EK,ih,Cv,Kb];rw[Nat.mul_add,<-PE,Lo (256 ^ t.length) 256];omega
def Zu(bs:List UInt8)(k:Nat)(d:k<bs.length):EK (bs.take (k+1))=EK (bs.take k)+(bs[k]'d).toNat*256 ^ k:=by
 rw[Dn d,Zw];simp[EK,Nat.min_eq_left (Nat.le_of_lt d),Nat.mul_comm]
def A0e(w:World)(text:ByteArray)(hl:8<=text.size/\text.size<=9223372036854775807):
 Ag 168 #[.string text] w (Al (A0 (wrap64 (EK (text.data.toList.take 8):Nat))) λw'=>w=w'):=by
 obtain⟨hl1,hl2⟩:=hl
 go_enter func168,ntmps168
 go_wp2;go_loop [3,5] (λc i=>∃k x:Nat,k<=8/\i=A0 k/\c=.int .u64 x/\x<18446744073709551616/\Hid (x<256 ^ k)/\Hid (x=EK (text.data.toList.take k))) (λ_ i=>8-(intOf i).toNat)
 case atStart=>exact⟨0,0,Cf _,rfl,rfl,by omega,(by unfold Hid;decide),rfl⟩
 case round=>
  obtain⟨k,x,hk,rfl,rfl,hx,H,W⟩:=hrel;by_cases hlt:k<8
  ·(have d:k<text.size:=by omega);have hb:=(text[k]'d).toNat_lt;have hb0:=hb;have h:Hid (x+(text[k]'d).toNat*256 ^ k=EK (text.data.toList.take (k+1))):=by
    unfold Hid;rw[Zu _ k (by simpa using d),<-W.o];rfl
   generalize E:(text[k]'d).toNat=b at hb h;obtain⟨y,I,z,e1⟩:∃y,y=x+b*256 ^ k/\y<256 ^ (k+1)/\bits .or .u64 (x:Int) (IntKind.u64.wrap (((text[k]'d).toNat:Int)*2 ^ (8*k)))=((y:Nat):Int):=by
    have h1:=H.o;(have L:(256:Nat) ^ k=2 ^ (8*k):=by rw[Nat.pow_mul]);have h3:b*256 ^ k<=255*256 ^ k:=Hq _ (by omega);have h5:(256:Nat) ^ (k+1)<=256 ^ 8:=A3o (by omega) (by omega);refine⟨_,rfl,by omega,?_⟩;rw[E,IntKind.wrap_u64,show ((b:Int)*2 ^ (8*k))=((b*2 ^ (8*k):Nat):Int) by push_cast;rfl];rw[<-L,show ((b*256 ^ k:Nat):Int) % 18446744073709551616=((b*256 ^ k:Nat):Int) by omega];rw[u64_or_nat _ _ hx (by omega)]
    congr 1
    have h7:=Nat.shiftLeft_add_eq_or_of_lt (i:=8*k) (b:=x) (by rw[<-L];exact h1) b;rw[Nat.shiftLeft_eq,<-L]at h7;rw[Nat.or_comm,<-h7];omega
   have O:y<18446744073709551616:=by
    have h5:(256:Nat) ^ (k+1)<=256 ^ 8:=A3o (by omega) (by omega);omega
   (have Y:Hid (y=EK (text.data.toList.take (k+1))):=by unfold Hid;rw[I];exact h.o);have X:=A1 <| z;clear I E z h W H;go_wp2;exact⟨⟨k+1,y,by omega,by go_num,rfl,O,X,Y⟩,by simp[intOf];omega⟩
  ·(obtain rfl:k=8:=by omega);go_wp2;go_ret;rw[W.o];exact⟨rfl,rfl⟩
def GI(n:Nat)(k:Nat):List UInt8:=(List.range k).map λi=>UInt8.ofNat (n/256 ^ i)
def Zy(n k:Nat):(GI n k).length=k:=by simp[GI]
def Zx(n k:Nat):GI n (k+1)=UInt8.ofNat n::GI (n/256) k:=by
 simp only[GI,List.range_succ_eq_map,Hb,Ve,Nat.pow_zero,Nat.div_one]
 congr 1
 apply N1;intro i _;simp only[Function.comp,Nat.succ_eq_add_one,Kb,Nat.div_div_eq_div_mul];rw[Lo (256 ^ i) 256]
def Zv(n k:Nat):EK (GI n k)=n % 256 ^ k:=by
 induction k generalizing n with
 | zero=>simp[GI,EK,Nat.mod_one]
 | succ k ih=>
  rw[Zx,EK,ih,Kb,Lo (256 ^ k) 256,Nat.mod_mul];simp
def EO(n:Int):Nat:=(n % 18446744073709551616).toNat
def A2o(n:Int):EO n<18446744073709551616:=by unfold EO;omega
def Uu(n:Int):n % 18446744073709551616=(EO n:Int):=by unfold EO;omega
def AQ(n:Int):List UInt8:=GI (EO n) 8
def CL(n:Int):(AQ n).length=8:=Zy _ _
def VJ(n:Int)(h : -9223372036854775808<=n/\n<=9223372036854775807):wrap64 (EK (AQ n):Nat)=n:=by
 have d:EK (AQ n)=EO n:=by
  unfold AQ;rw[Zv];have:=A2o n;have z:(256:Nat) ^ 8=18446744073709551616:=by decide
  rw[z];omega
 rw[d];have:=Uu n;unfold wrap64;omega
def Ir(n:Nat)(k:Nat):List Value:=E0 (GI n k)++List.replicate (8-k) (.int .u8 0)
def L0(w:World)(n:Int)(hn : -9223372036854775808<=n/\n<=9223372036854775807):
 Ag 239 #[A0 n] w (Al (.string ⟨(AQ n).toArray⟩) λw'=>A3 Ab w w'):=by
 obtain⟨n1,n2⟩:=hn;have eu:IntKind.u64.wrap n=(EO n:Int):=by rw[IntKind.wrap_u64];exact Uu n
 go_enter func239,ntmps239
 go_wp2;go_loopw [5] (λi wr=>∃k:Nat,k<=8/\i=A0 k/\Hid (A3 Ab w wr)/\Hid (wr.heap[w.heap.size]?=some (.cells (Ir (EO n) k).toArray 318 (0,0)))) (λi _=>8-(intOf i).toNat)
 case atStart=>exact⟨0,Cf _,rfl,(A3.I _ _).ak _,by unfold Hid;show (w.heap.push _)[w.heap.size]?=_;rw[IG];rfl⟩
 case round=>
  obtain⟨k,hk,rfl,W,H⟩:=hrel;by_cases hlt:k<8
  ·(have hfz:wr.frozen? (Aa w.heap.size k)=false:=by have:=H.o;simp[World.frozen?,this]);have hce:wr.cell? (Aa w.heap.size k)=some (.int .u8 0):=by
    have:=H.o;have L:(Ir (EO n) k)[k]?=some (.int .u8 0):=by
     (have X:(E0 (GI (EO n) k)).length=k:=by simp[E0,GI]);unfold Ir;rw[Hs (by omega),X,List.getElem?_replicate];simp;omega
    simp[World.cell?,this,L]
   have d:=A1 (Cq (o:=k) (v:=.int .u8 (EO n/2 ^ (8*k) % 256:Nat)) H.o);have E:Hid (A3 Ab w (wr.sC w.heap.size k (.int .u8 (EO n/2 ^ (8*k) % 256:Nat)))):=A3.bt W.o (by simp) _;have I:Hid ((Ir (EO n) k).toArray.setIfInBounds k (.int .u8 (EO n/2 ^ (8*k) % 256:Nat))=(Ir (EO n) (k+1)).toArray):=by
    unfold Hid;rcases(show k=0\/k=1\/k=2\/k=3\/k=4\/k=5\/k=6\/k=7 by omega) with rfl|rfl|rfl|rfl|rfl|rfl|rfl|rfl<;>simp[Ir,E0,GI,List.range_succ,List.replicate]
   (have e1:(EO n:Int)/2 ^ (8*k) % 256=((EO n/2 ^ (8*k) % 256:Nat):Int):=by push_cast;rfl);unfold Hid at d;rw[I.o]at d;have h:=A1 d;generalize hq:EO n/2 ^ (8*k) % 256=q at h E e1;go_wp2;exact⟨⟨k+1,by omega,by go_num,E,h⟩,by simp[intOf];omega⟩
  ·(obtain rfl:k=8:=by omega);have cv:(convert 127 9 (AJ w.heap.size 8 8)).run Tryz.prog wr=.ok (.string ⟨(AQ n).toArray⟩) wr:=by
    have L:=CL n
    have:=NO (P:=Tryz.prog) wr 127 9 5 (Aa w.heap.size 0) 8 (AQ n) underlying127 underlying5 underlying9 (by
     intro j hj;(have z:((Aa w.heap.size 0):Addr).add j=(Aa w.heap.size j):=by unfold Addr.add;split<;>simp_all);rw[z];have O:=H.o;(have Y:(Ir (EO n) 8)=E0 (AQ n):=by simp[Ir,AQ]);rw[Y]at O
     simp[World.cell?,O,E0,List.getElem?_eq_getElem hj])
    rw[L]at this;exact this
   go_wp2;go_ret;exact⟨rfl,W.o⟩
def Ca(s:Nat):List UInt8:=(AQ s).take 4
def Hd(s:Nat):(Ca s).length=4:=by simp[Ca,CL]
def WA(w:World)(s:Nat)(hs:s<4294967296):
 Ag 250 #[.int .u32 s] w (Al (.string ⟨(Ca s).toArray⟩) λw'=>A3 Ab w w'):=by
 have h : -9223372036854775808<=(s:Int)/\(s:Int)<=9223372036854775807:=by omega
 have hl:=CL s
 go_enter func250,ntmps250
 go_wp2_with (go_at_call 239;refine(L0 _ _ h).mono ?_;rintro e w'⟨rfl,d⟩);go_ret;exact⟨by rw[extract_mk];simp[Ca],d⟩
end
section
open Go
section
variable {P:Program} {Q:Exit->Act->World->Prop}
def Qs(y:Nat->Value)(i:Nat)(v:Value):Nat->Value:=λj=>if j=i then v else y j
def Gd(o:Oper):List Nat:=(o.after.toList.filter (Region.binds .any)).map (·.on)
def Fc(G:Nat->Value->World->Prop)(y:Nat->Value)(w:World):List Nat->Prop
 | []=>True
 | j::r=>G j (y j) w/\Fc G y w r
def Fc.of{G:Nat->Value->World->Prop}{y:Nat->Value}{w:World}:∀(l:List Nat),(∀j∈l,G j (y j) w)->Fc G y w l
 | [],_=>trivial
 | j::r,h=>⟨h j (by simp),Fc.of r λk d=>h k (by simp[d])⟩
def Vy(P:Program)(ops:Array Oper)(A:(Nat->Value)->Act)(S:World->Prop)(R:World->World->Prop)(G:Nat->Value->World->Prop)(Q:Exit->Act->World->Prop)(i:Nat)(o:Oper):Prop:=
 (∀y w,S w->Fc G y w (Gd o)->Region.wanted o (yielded ops (A y).tmps)=true->∀K:Act->World->Prop,(∀v a' w',G i v w'->a'=(A y).put o.dst v->R w w'->S w'->K a' w')->o.wp P (A y) w K Q)/\
 (∀y w,S w->Fc G y w (Gd o)->Region.wanted o (yielded ops (A y).tmps)=false->G i undef w)/\
 (∀y v,(A y).put o.dst v=A (Qs y i v))
def FG(P:Program)(ops:Array Oper)(A:(Nat->Value)->Act)(S:World->Prop)(R:World->World->Prop)(G:Nat->Value->World->Prop)(Q:Exit->Act->World->Prop):Nat->List Oper->Prop
 | _,[]=>True
 | i,o::r=>Vy P ops A S R G Q i o/\FG P ops A S R G Q (i+1) r
def FG.eI{ops:Array Oper}{A:(Nat->Value)->Act}{S:World->Prop}{R:World->World->Prop}{G:Nat->Value->World->Prop}:∀ {k:Nat} {l:List Oper},FG P ops A S R G Q k l->∀(i:Nat) (o:Oper),l[i]?=some o->Vy P ops A S R G Q (k+i) o
 | _,[],_,i,o,h=>by simp at h
 | k,o'::r,hh,0,o,h=>by
  have:o'=o:=by simpa using h
  subst this;exact hh.1
 | k,o'::r,hh,i+1,o,h=>by
  have:=FG.eI hh.2 i o (by simpa using h)
  rwa [show k+1+i=k+(i+1) by omega]at this
def Ge(listed:Array Bool):Nat->Nat
 | 0=>0
 | k+1=>Ge listed k+(if listed.getD k true then 0 else 1)
def Ug(listed:Array Bool)(i:Nat):∀n,n<=i->Ge (listed.setIfInBounds i true) n=Ge listed n
 | 0,_=>rfl
 | n+1,h=>by
  unfold Ge;rw[Ug listed i n (by omega),Mj true (by omega)]
def Ue(listed:Array Bool)(i:Nat)(E:listed.getD i true=false):∀n,i<n->Ge listed n=Ge (listed.setIfInBounds i true) n+1
 | 0,h=>by omega
 | n+1,h=>by
  unfold Ge;by_cases d:i=n
  ·subst d;have H:i<listed.size:=by
    rcases F7 i listed.size with z | z
    ·exact z
    ·simp[Array.getElem?_eq_none z]at E
   rw[Ug listed i i (As _),E];simp[H]
  ·rw[Ue listed i E n (by omega),Mj true d];omega
def Uc(listed:Array Bool):∀n,Ge listed n=0->∀j,j<n->listed.getD j true=true
 | 0,_,j,h=>by omega
 | n+1,h,j,hj=>by
  unfold Ge at h;rcases F7 j n with d | d
  ·exact Uc listed n (by omega) j d
  ·(obtain rfl:j=n:=by omega);cases hg:listed.getD j true with
   | true=>rfl
   | false=>rw[hg]at h;simp at h
def Uf(listed:Array Bool):∀n,Ge listed n≠0->∃j,j<n/\listed.getD j true=false
 | 0,h=>absurd rfl h
 | n+1,h=>by
  cases hg:listed.getD n true with
  | false=>exact⟨n,by omega,hg⟩
  | true=>
   unfold Ge at h;rw[hg]at h;obtain⟨j,hj,d⟩:=Uf listed n (by simpa using h);exact⟨j,by omega,d⟩
def Ud(m:Nat):∀n,n<=m->Ge (Array.replicate m false) n=n
 | 0,_=>rfl
 | n+1,h=>by
  unfold Ge;rw[Ud m n (by omega)];have d:n<m:=by omega
  have:(Array.replicate m false).getD n true=false:=by simp[d]
  rw[this];simp
def Mq(ops:Array Oper)(n:Nat):Bool:=
 decide (n<ops.size)&&Region.sinkB .any ops n&&Region.chainB .any ops n &&
  ((List.range n).all λi=>((ops[i]?).map λo=>o.after.all λe=>!Region.binds .any e||decide (e.on<i)).getD false) &&
  Region.seqB .any ops (ops.size-n) n (List.replicate n true++List.replicate (ops.size-n) false).toArray
def XT{ops:Array Oper}{n:Nat}{listed:Array Bool}(H:HeadInv .any ops n listed)(hn:n<ops.size)(d:((List.range n).all λi=>((ops[i]?).map λo=>o.after.all λe=>!Region.binds .any e||decide (e.on<i)).getD false)=true):
 ∀(i:Nat),i<n->listed.getD i true=false->∃k,k∈Region.ready .any ops listed:=by
 intro i
 induction i using Nat.strongRecOn with
 | _ i ih=>
  intro Y L;have z:ops[i]?=some (ops[i]'(by omega)):=A3W (by omega);obtain⟨o,z⟩:∃o,ops[i]?=some o:=⟨_,z⟩;by_cases hall:∀e∈o.after,Region.binds .any e=true->listed.getD e.on false=true
  ·exact⟨i,I9.2 ⟨L,o,z,hall⟩⟩
  ·simp only[Classical.not_forall]at hall;obtain⟨e,he,W,E⟩:=hall;have I:=(N9.1 d) i (Lt.2 Y);rw[z]at I;simp only[HL,Option.getD_some,A3Y]at I;have O:=I e he;rw[W]at O;(have X:e.on<i:=by simpa using O);refine ih e.on X (by omega) (getD_in (by rw[H.size];omega) ?_);cases h:listed.getD e.on false with
   | true=>exact absurd h E
   | false=>rfl
def A03{l:List Oper}{n:Nat}{A:(Nat->Value)->Act}{S:World->Prop}{R:World->World->Prop}{G:Nat->Value->World->Prop}(hB:Mq l.toArray n=true)(aM:FG P l.toArray A S R G Q 0 (l.take n))(aK:∀j v w w',R w w'->S w'->G j v w->G j v w')(aG:∀y w,S w->(∀j,j<n->G j (y j) w)->wpList P l.toArray Q (l.drop n) (A y) w):
 ∀(f:Nat) (listed:Array Bool) (y:Nat->Value) (w:World),HeadInv .any l.toArray n listed->Ge listed n=f->S w->(∀j,j<n->listed.getD j false=true->G j (y j) w)->
  wpAny P .any l.toArray Q (f+(l.toArray.size-n)) listed (A y) w:=by
 simp only[Mq,FH,DG]at hB;obtain⟨⟨⟨⟨hn,hs⟩,hc⟩,Y⟩,aF⟩:=hB;intro f
 induction f with
 | zero=>
  intro listed y w d X hS hG;have hall:=Uc listed n X;have aN:=d.size;have z:∀j,j<n->listed.getD j false=true:=λj I=>by
   have L:=hall j I;(have h2:j<listed.size:=by omega);simp[h2]at L ⊢;exact L
  have hL:listed=(List.replicate n true++List.replicate (l.toArray.size-n) false).toArray:=by
   refine Array.ext (by (simp[aN];have:n<l.length:=by simpa using hn);omega) λi L h2=>?_;rcases F7 i n with h|h
   ·have:=z i h;simp[L]at this;simp[this,h]
   ·have:=d.tail i h (by omega);simp[L]at this;simp[this,List.getElem_append,Nat.not_lt.2 h]
  rw[GO];have aJ:(l.drop n).length=l.toArray.size-n:=by simp
  have:=Qb (P:=P) (md:=.any) (ops:=l.toArray) (Q':=Q) (l.drop n) n listed (A y) w (λj=>by simp[List.getElem?_drop]) (by rw[aJ,hL];exact aF) (aG y w hS λj I=>hG j I (z j I))
  rwa [aJ]at this
 | succ f ih=>
  intro listed y w d X hS hG;obtain⟨i0,aH,aA⟩:=Uf listed n (by omega);have aD:f+1+(l.toArray.size-n)=(f+(l.toArray.size-n))+1:=by omega
  rw[aD];refine⟨λh0=>?_,λi hi=>?_⟩
  ·obtain⟨k,hk⟩:=XT d hn Y i0 aH aA;rw[h0]at hk;cases hk
  ·have O:i<n:=by
    rcases F7 i n with h|h
    ·exact h
    ·exact absurd hi (LP hs hc hn d _ i0 rfl aH aA i h)
   obtain⟨aO,o,ho,hall⟩:=I9.1 hi;have aL:(l.take n)[i]?=some o:=by
    rw[List.getElem?_take_of_lt O];simpa using ho
   have L:=(N9.1 Y) i (Lt.2 O);rw[ho]at L;simp only[HL,Option.getD_some,A3Y]at L;have ob:=aM.eI i o aL;rw[GO]at ob;have H:Fc G y w (Gd o):=by
    refine Fc.of _ λj I=>?_;unfold Gd at I;rw[Ct]at I;obtain⟨e,he,rfl⟩:=I;rw[GQ]at he;(have aI:e∈o.after:=by simpa using he.1);have h2:=L e aI;rw[he.2]at h2;(have h3:e.on<i:=by simpa using h2);exact hG e.on (by omega) (hall e aI he.2)
   have E:∀v w',S w'->(R w w'\/w'=w)->G i v w'->wpAny P .any l.toArray Q (f+(l.toArray.size-n)) (listed.setIfInBounds i true) ((A y).put o.dst v) w':=by
    intro v w' W hR aE;rw[ob.2.2 y v];refine ih _ _ _ (d.set hi O) (by have:=Ue listed i aO n O;omega) W λj I hl=>?_;unfold Qs;by_cases aB:j=i
    ·subst aB;simpa using aE
    ·rw[Ad aB];rw[Mj false (Pz aB)]at hl;rcases hR with hR|rfl
     ·exact aK j _ w w' hR W (hG j I hl)
     ·exact hG j I hl
   unfold wpOp;simp only[ho];split
   ·rename_i hw;exact .inl (ob.1 y w hS H hw _ λv a' w' aE aP hR W=>aP ▸ E v w' W (.inl hR) aE)
   ·rename_i hw;exact E _ w hS (.inr rfl) (ob.2.1 y w hS H (by simpa using hw))
def Hc{id:Nat}{a:Act}{w:World}{l:List Oper}(n:Nat)(A:(Nat->Value)->Act)(O:Nat->Value)(S:World->Prop)(R:World->World->Prop)(G:Nat->Value->World->Prop)(X:P.follows .mixedOrders=true)(L:Mq l.toArray n=true)(Y:a=A O)(hS:S w.drew)(E:∀j v w w',R w w'->S w'->G j v w->G j v w')(I:FG P l.toArray A S R G Q 0 (l.take n))(d:∀y w,S w->(∀j,j<n->G j (y j) w)->wpList P l.toArray Q (l.drop n) (A y) w):(Code.region id l.toArray true).wp P Q a w:=by
 have hn:n<l.toArray.size:=by
  simp only[Mq,FH,DG]at L;exact L.1.1.1.1
 refine Qa X ?_;have h:HeadInv .any l.toArray n (Array.replicate l.toArray.size false):=
  ⟨by simp,λj oj _ z=>(by rw[JX]at z;cases z),λt _ W=>getD_in (by simpa using W) (JX _ _)⟩
 have H:=A03 L I E d n _ O w.drew h (Ud _ n (by omega)) hS (λj _ z=>by rw[JX]at z;cases z);rw[show n+(l.toArray.size-n)=l.toArray.size by omega]at H;rw[Y];exact H
end
end
section
open Go.RowKit
def Bc(s t v:Int):List UInt8:=UInt8.ofNat (s % 256).toNat::(AQ t++AQ v)
def RQ(w:World)(s t v:Int)(hs:0<=s/\s<256)(ht : -9223372036854775808<=t/\t<=9223372036854775807)(hv : -9223372036854775808<=v/\v<=9223372036854775807):
 Ag 195 #[.agg #[A0 s,A0 t,A0 v]] w (Al (.string ⟨(Bc s t v).toArray⟩) λw'=>A3 Ab w w'):=by
 go_enter func195,ntmps195
 go_wp2;refine Hc 15 (λy=>{tmps:=#[.agg #[A0 s,A0 t,A0 v],A5 w.heap.size,.string ⟨#[]⟩,y 0,y 1,y 2,y 3,y 4,y 5,y 6,y 7,y 8,y 9,y 10,y 11,y 12,y 13,y 14],defers:=[]}) (λ_=>undef)
  (λw'=>w'.heap[w.heap.size]?=some (.cells #[A0 s,A0 t,A0 v] 113 (0,0))/\A3 Ab w w') (A3 Ab)
  (λj x w'=>match j with
   | 0=>x=(A5 w.heap.size)
   | 1=>x=A0 s
   | 2=>x=.int .u8 s
   | 3=>∃g e,x=AJ g 1 1/\w'.heap[g]?=some (.cells #[.int .u8 s] e (0,0))
   | 4=>x=.string ⟨#[UInt8.ofNat (s % 256).toNat]⟩
   | 5=>x=.pointer (some (Aa w.heap.size 1))
   | 6=>x=.pointer (some (Aa w.heap.size 1))
   | 7=>x=A0 t
   | 8=>x=.string ⟨(AQ t).toArray⟩
   | 9=>x=.string ⟨(UInt8.ofNat (s % 256).toNat::AQ t).toArray⟩
   | 10=>x=.pointer (some (Aa w.heap.size 1))
   | 11=>x=.pointer (some (Aa w.heap.size 2))
   | 12=>x=A0 v
   | 13=>x=.string ⟨(AQ v).toArray⟩
   | 14=>x=.string ⟨(Bc s t v).toArray⟩
   | _=>True)
  (by kernel_rfl) (by kernel_rfl) rfl ?_ ?_ ?_ ?_
 ·exact⟨(by show (w.heap.push _)[w.heap.size]?=_;rw[IG]),((A3.I _ _).ak _).af⟩
 ·intro j x w1 w2 hR hS' X;split at X<;>first|exact X|(obtain⟨g,e,h1,h2⟩:=X;exact⟨g,e,h1,hR.aj h2 (by simp)⟩)
 ·simp only[F8,ET,FG,HJ]
  repeat' (with_reducible apply And.intro)
  all_goals refine⟨?_,(by intro y d _ _ h;exact Bool.noConfusion h),λy x=>rfl⟩
  all_goals
   intro y d hS H hw K hK;obtain⟨E,L⟩:=hS;simp[Gd,Region.binds,Fc,List.filter_cons]at H;(have hc0:A7 d w.heap.size 0 (A0 s):=by simp[A7,World.cell?,E]);(have hc1:A7 d w.heap.size 1 (A0 t):=by simp[A7,World.cell?,E]);(have hc2:A7 d w.heap.size 2 (A0 v):=by simp[A7,World.cell?,E]);(have hw8:IntKind.u8.wrap s=s:=by simp[IntKind.wrap,IntKind.bits,IntKind.signed];omega);have hlt:=CL t;have hlv:=CL v;have I:=A1 E;have z:=A1 L;have Y:=A1 hK;have ap1:(ByteArray.mk #[UInt8.ofNat (s % 256).toNat])++(ByteArray.mk (AQ t).toArray)=⟨(UInt8.ofNat (s % 256).toNat::AQ t).toArray⟩:=K7 [_] _;have ap2:(ByteArray.mk (UInt8.ofNat (s % 256).toNat::AQ t).toArray)++(ByteArray.mk (AQ v).toArray)=⟨(Bc s t v).toArray⟩:=K7 _ _
   try
    (have aA:∃g,y 3=AJ g 1 1/\∃e,d.heap[g]?=some (.cells #[.int .u8 s] e (0,0)):=by with_reducible exact H);obtain⟨g,H,e,hg⟩:=aA;(have aE:A7 d g 0 (.int .u8 s):=by simp[A7,World.cell?,hg])
    have cv:(convert 127 9 (AJ g 1 1)).run Tryz.prog d=.ok (.string ⟨#[UInt8.ofNat (s % 256).toNat]⟩) d:=NO (P:=Tryz.prog) d 127 9 5 (Aa g 0) 1 [UInt8.ofNat (s % 256).toNat] underlying127 underlying5 underlying9 (by
     intro j hj;(have aD:j=0:=by simpa using hj);subst aD;(have W:((Aa g 0):Addr).add 0=(Aa g 0):=by unfold Addr.add;split<;>simp_all);(have aB:((UInt8.ofNat (s % 256).toNat).toNat:Int)=s:=by simp;omega);rw[W,aE]
     simp only[Ly,aB])
  all_goals dsimp only
  all_goals try go_simp
  all_goals try with_reducible exact Y.o _ _ _ rfl (by simp[Act.put,H]) (A3.I _ _) ⟨I.o,z.o⟩
  all_goals try
   (have hd7:y 7=A0 t:=by with_reducible exact H);refine(L0 d t ht).mono ?_;rintro e w2⟨rfl,O⟩;exact Y.o _ _ _ rfl (by simp[Act.put,H]) O ⟨O.aj I.o (by simp),z.o.Ap O (by simp)⟩
  all_goals try
   (have hd12:y 12=A0 v:=by with_reducible exact H.1);refine(L0 d v hv).mono ?_;rintro e w2⟨rfl,O⟩;exact Y.o _ _ _ rfl (by simp[Act.put,H]) O ⟨O.aj I.o (by simp),z.o.Ap O (by simp)⟩
  ·exact Y.o _ _ _ ⟨d.heap.size,_,rfl,(by show (d.heap.push _)[d.heap.size]?=_;rw[IG])⟩ (by simp[Act.put,H]) ((A3.I _ _).ak _) ⟨((A3.I Ab d).ak _).aj I.o (by simp),z.o.ak _⟩
 ·intro y d hS X;obtain⟨E,L⟩:=hS;have h14:y 14=.string ⟨(Bc s t v).toArray⟩:=X 14 (by omega);have z:=A1 L;go_wp2;go_ret;exact⟨rfl,z.o⟩
end
end Go.Proofs.YtodcnkbblippnaaGreatDoor
