/- Part 1 of a proof: walks of the program. -/
import Derived.Below
import Derived.Calls
import Derived.ChangeArms
import Derived.Conc.MuLone
import Derived.Deep.AppendSrc
import Derived.Deep.RegionHeld
import Derived.Defers
import Derived.FnData
import Derived.Laws.Append
import Derived.Laws.AppendOwn
import Derived.Laws.BitsLemmas
import Derived.Laws.Entries
import Derived.Laws.Externs
import Derived.Laws.IdiomStrings
import Derived.Laws.Rows
import Derived.Laws.Tables
import Derived.Laws.World
import Derived.Lib.Builder
import Derived.Lib.ItoaNum
import Derived.Lib.Strings
import Derived.LoopN
import Derived.OneCell
import Derived.Orders
import Derived.OwnWalk
import Derived.Still
import Derived.StillTail
import Derived.Tactics
import Derived.WideShapes
import Derived.Test.YtodcnkbblippnaaGreatDoorRows
import Derived.WalkKit
import Derived.WalkSpells
import Derived.WalkLawsBesides
import Derived.Deep.AppendLies
import Derived.RegionTactic
import Derived.Laws.BitsAllLaws
import Derived.Laws.BytesString
import Derived.OrdersHeld
namespace Go.Proofs.YtodcnkbblippnaaGreatDoor
set_option maxRecDepth 100000
set_option maxHeartbeats 32000000
set_option linter.defProp false
open Go.Proofs.Tryz
section
open Go.RowKit
def Ae:=@if_neg
def Ai:=@if_pos
def As:=@Nat.le_refl
def AR:=@Nat.le_trans
def AV:=@List.mem_append
def B1:=@List.length_append
def Bq:=@Nat.lt_of_lt_of_le
def Bw:=@List.mem_cons_of_mem
def Bz:=@Go.lt_of_block
def BC:=@List.mem_cons_self
def BO:=@Go.heap_alloc_new
def BQ:=@List.mem_cons
def BW:=@List.length_take
def BY:=@List.getElem_mem
def C7:=@if_false
def Cc:=@List.append_assoc
def Ch:=@if_true
def Cl:=@List.take_length
def Cq:=@Nat.zero_le
def Cr:=@List.mem_map
def Cw:=@List.length_drop
def Cx:=@List.length_cons
def CE:=@decide_eq_true
def CL:=@Go.World.ownsRow_nil
def D2:=@decide_eq_false
def Dc:=@List.pairwise_cons
def Dd:=@Go.RowKit.Below.heap_alloc
def Dn:=@decide_eq_true_eq
def Dq:=@List.drop_zero
def DB:=@List.take_succ_eq_append_getElem
def DJ:=@List.drop_succ_cons
def DM:=@List.take_append_drop
def DT:=@Go.World.cell?_of_block
def DV:=@List.mem_map_of_mem
def DW:=@List.getElem_of_mem
def E5:=@List.getElem?_eq_getElem
def E9:=@Go.info_parts
def Ea:=@beq_eq_false_iff_ne
def Eg:=@List.map_append
def Ep:=@Nat.le_succ
def Er:=@List.take_of_length_le
def Es:=@List.pairwise_append
def Et:=@List.nil_append
def Ez:=@Int.toNat_natCast
def EK:=@congrArg
def EL:=@Nat.le_of_lt
def EV:=@List.take_zero
def EW:=@Int.ofNat_lt
def EX:=@Go.rounds_succ
def F9:=@Nat.lt_or_ge
def Fa:=@List.take_succ_cons
def Fb:=@List.getElem_append_left
def Fc:=@List.filter_cons
def Fx:=@List.length_map
def Fy:=@List.drop_eq_getElem_cons
def Fz:=@List.cons_append
def FA:=@List.append_nil
def FE:=@Bool.and_eq_true
def FN:=@List.mem_append_left
def G6:=@Nat.lt_irrefl
def Gt:=@List.getElem_append_right
def Gu:=@List.drop_length
def Gv:=@Int.natCast_nonneg
def GH:=@Nat.zero_add
def GI:=@List.nodup_append
def GK:=@Go.RowKit.Below.heap_setCell
def GV:=@Go.World.block_lt_of_cell?
def GW:=@List.take_append_of_le_length
def GX:=@List.mem_filter
def GY:=@List.length_eq_zero_iff
def GZ:=@List.filter_sublist
def Hd:=@List.mem_append_right
def He:=@List.map_cons
def Hv:=@Nat.mul_le_mul_right
def Hw:=@List.getElem?_eq_some_iff
def Hx:=@List.getElem?_append_right
def HC:=@Int.le_refl
def HK:=@and_true
def HM:=@Option.map_some
def HN:=@Nat.add_mul
def HQ:=@List.mem_of_mem_take
def HR:=@List.getD_eq_getElem?_getD
def HW:=@Go.wp_loop_rounds
def I3:=@Go.run_underlying
def I8:=@of_decide_eq_true
def Ie:=@Go.mem_ready
def Iu:=@Nat.le_of_not_lt
def Iv:=@List.mem_singleton
def Iw:=@List.length_nil
def Iy:=@List.getElem?_drop
def Iz:=@List.getElem?_append_left
def IA:=@List.filter_cons_of_pos
def IB:=@Array.getElem?_push_size
def IC:=@Go.MuLone.unlock_deferred
def J0:=@Go.MuLone.lock_free
def J2:=@Go.leaves_cons
def Jb:=@Go.Src.ofSlice
def Je:=@List.length_set
def Jf:=@List.length_pos_iff
def Jg:=@List.length_filter_le
def Jh:=@List.flatten_cons
def Ji:=@List.drop_of_length_le
def Jj:=@List.cons_lt_cons_iff
def Jk:=@List.cons.inj
def Jo:=@Go.IntKind.wrap_i64
def Jp:=@Int.add_sub_cancel
def Jx:=@Go.setRow_other
def JJ:=@ne_eq
def JS:=@Go.getD_replicate_false
def JZ:=@decide_eq_decide
def K9:=@Nat.pow_succ
def Ka:=@Nat.add_lt_add_left
def Kb:=@List.take_take
def Kc:=@List.take_left
def Kd:=@List.set_append_right
def Ke:=@List.pairwise_iff_getElem
def Kf:=@List.nodup_cons
def Kg:=@List.mem_range
def Kh:=@List.getLastD_eq_getLast?
def Ki:=@List.getElem_cons_zero
def Kj:=@List.foldl_append
def Kk:=@List.filter_cons_of_neg
def Kl:=@Go.Lib.toList_data
def Kn:=@Int.le_trans
def Kr:=@Go.wp_region_still_tail
def Ks:=@Go.wpStill_nil
def Kt:=@Go.wpOp_mono
def KA:=@Go.setRow_heap
def KK:=@Go.ready_mono
def Ln:=@Go.World.drew_eq
def Lr:=@Option.some.inj
def Ls:=@Option.ne_none_iff_exists'
def Lt:=@Nat.not_lt_zero
def Lu:=@Nat.mul_comm
def Lv:=@Nat.min_eq_left
def Lw:=@Nat.le_antisymm
def Lx:=@Nat.add_le_add_left
def Ly:=@Nat.add_assoc
def Lz:=@List.size_toArray
def LA:=@List.pairwise_map
def LB:=@List.mem_of_mem_drop
def LC:=@List.mem_of_getElem?
def LD:=@List.mem_filterMap
def LF:=@List.lt_irrefl
def LG:=@List.foldl_cons
def LH:=@List.filter_append
def LI:=@List.eq_nil_or_concat
def LJ:=@List.eq_nil_of_length_eq_zero
def LK:=@List.drop_append_of_le_length
def LL:=@List.drop_append
def LM:=@Int.lt_or_le
def LN:=@Int.eq_ofNat_of_zero_le
def LO:=@Int.emod_nonneg
def LP:=@Bool.true_and
def LQ:=@Array.length_toList
def LY:=@Go.tail_waits
def M8:=@Go.results_tmp
def Mw:=@Go.getD_set_ne
def MC:=@eq_false
def MG:=@decide_true
def MU:=@Go.bodyPost_ret
def N1:=@Go.World.size_alloc
def N2:=@Go.World.cell?_alloc_some
def N4:=@Go.Src.ofString
def N7:=@Nat.zero_lt_one
def N8:=@Nat.succ_mul
def N9:=@Nat.mul_le_mul
def Na:=@Nat.lt_of_lt_of_eq
def Nb:=@Nat.le_succ_of_le
def Nc:=@List.sublist_flatten_of_mem
def Nd:=@List.pairwise_singleton
def Nf:=@List.mem_flatten
def Ng:=@List.map_congr_left
def Nh:=@List.length_mergeSort
def Ni:=@List.getElem?_eq_none
def Nj:=@List.flatMap_cons
def Nk:=@List.drop_eq_nil_of_le
def Nl:=@List.dropLast_concat_getLast
def Nn:=@List.all_eq_true
def Nq:=@Int.zero_add
def Nr:=@Int.ofNat_le
def Ns:=@Int.lt_irrefl
def Nt:=@Go.DataW.trod_int
def Nu:=@Bool.eq_iff_iff
def Nv:=@Go.RowKit.Below.refl
def Nw:=@Array.getElem?_eq_none
def O2:=@Go.run_convert_bytes_back
def Ou:=@Go.ownsRow_setCell_other
def OC:=@not_false_eq_true
def Pp:=@dif_pos
def Pq:=@dif_neg
def PK:=@Go.World.cell?_setCell_other
def PO:=@Prod.mk.inj
def PT:=@Ne.symm
def PU:=@Nat.succ_le_succ
def PV:=@Nat.mul_one
def PW:=@Nat.mul_assoc
def PX:=@Nat.lt_trichotomy
def PY:=@Nat.add_zero
def PZ:=@List.takeWhile_cons
def Q1:=@List.length_singleton
def Q2:=@List.getElem_cons_succ
def Q3:=@List.getElem?_take
def Q4:=@List.getElem?_map
def Q5:=@List.any_eq_true
def Q6:=@Go.Lib.nDigits_small
def Q7:=@Go.Lib.cell_of_heap
def Q8:=@Int.toNat_of_nonneg
def Q9:=@Int.not_lt
def Qa:=@Int.neg_tmod
def Qb:=@Int.emod_lt_of_pos
def Qc:=@Decidable.em
def Qd:=@Decidable.byContradiction
def Qe:=@Bool.false_eq_true
def Qh:=@Array.toList_append
def Qi:=@Array.getElem?_eq_some_iff
def Qm:=@Go.wp_region_any
def Qn:=@Go.wpAny_of_seq
def Rf:=@Go.seqB_ready
def Rl:=@Go.run_firstCells_some
def Rx:=@Go.results_none
def T0:=@ne_of_beq_false
def Uf:=@decide_eq_false_iff_not
def UN:=@beq_self_eq_true
def V9:=@Go.World.var?_cell
def Va:=@Go.Region.noSelect_spec
def Vb:=@Go.Region.free_spec
def Vj:=@Option.or_none
def Vk:=@Go.Oper.upon_value
def Vl:=@Nat.xor_lt_two_pow
def Vm:=@Nat.sub_self
def Vn:=@Nat.one_mul
def Vo:=@Nat.not_lt
def Vp:=@Nat.min_def
def Vq:=@Nat.lt_succ_self
def Vr:=@Nat.le_add_right
def Vs:=@List.set_cons_succ
def Vt:=@List.replicate_succ
def Vu:=@List.pairwise_mergeSort
def Vv:=@List.map_map
def Vw:=@List.length_eq_one_iff
def Vx:=@List.length_dropLast
def Vy:=@List.getElem_take
def Vz:=@List.flatten_append
def VA:=@List.flatMap_def
def VC:=@List.flatMap_append
def VD:=@List.filter_filter
def VE:=@List.filter_eq_nil_iff
def VF:=@List.drop_left'
def VG:=@List.drop_left
def VH:=@List.dropLast_subset
def VI:=@List.concat_eq_append
def VJ:=@List.append_cancel_left
def VK:=@List.Nodup.sublist
def VL:=@Go.Lib.nDigits_big
def VM:=@Go.Lib.decDigits_length
def VO:=@Int.tmod_lt_of_pos
def VP:=@Int.ne_of_lt
def VQ:=@Int.mul_le_mul_of_nonneg_left
def VT:=@Bool.false_and
def VU:=@Array.setIfInBounds_comm
def VV:=@Array.getElem?_setIfInBounds_ne
def XM:=@Go.run_callFunc_extern
def A3Y:=@Go.World.cell?_setCell_far
def A3Z:=@Go.WideShapes.bytes_inj
def A32:=@Option.map_eq_some_iff
def A34:=@Nat.pow_le_pow_right
def A35:=@Nat.lt_succ_of_lt
def A36:=@Nat.lt_of_succ_lt_succ
def A37:=@Nat.lt_of_le_of_lt
def A38:=@Nat.le_of_lt_succ
def A39:=@Nat.eq_zero_or_pos
def A4a:=@Nat.div_le_div_right
def A4b:=@Nat.add_sub_cancel_left
def A4c:=@Nat.add_sub_cancel
def A4e:=@List.setIfInBounds_toArray
def A4f:=@List.not_mem_nil
def A4g:=@List.mergeSort_perm
def A4h:=@List.mergeSort_nil
def A4i:=@List.mem_of_find?_eq_some
def A4j:=@List.mem_mergeSort
def A4k:=@List.mem_erase_of_ne
def A4l:=@List.map_mergeSort
def A4m:=@List.length_range
def A4n:=@List.length_pos_of_mem
def A4o:=@List.length_erase_of_mem
def A4p:=@List.getLast?_eq_some_getLast
def A4q:=@List.getElem_set_ne
def A4r:=@List.getElem?_cons_succ
def A4s:=@List.find?_append
def A4t:=@List.exists_mem_of_ne_nil
def A4v:=@List.Sublist.refl
def A4w:=@List.Pairwise.sublist
def A4x:=@List.Pairwise.imp_of_mem
def A4z:=@Int.tmod_eq_emod_of_nonneg
def A4A:=@Int.mul_tdiv_add_tmod
def A4B:=@Int.lt_or_eq_of_le
def A4C:=@Classical.byContradiction
def A4D:=@ByteArray.data_extract
def A4E:=@Array.getElem?_eq_getElem
def A4F:=@Array.ext_getElem?
def A4G:=@Array.all_eq_true_iff_forall_mem
abbrev A5(b:Nat):Value:=.pointer (some ⟨b,0,none⟩)
abbrev Ac(b o:Nat):Addr:=⟨b,o,none⟩
abbrev A7(w:World)(b o:Nat)(v:Value):Prop:=w.cell? ⟨b,o,none⟩=some v
abbrev A0(n:Int):Value:=.int .i64 n
abbrev AM(b n c:Nat):Value:=.slice (some ⟨b,0,none⟩) n c
abbrev Ab:Nat->Prop:=λ_=>False
abbrev Af:=Calls Tryz.prog
abbrev Aj(v:Value)(Q:World->Prop)(e:Ending)(w:World):Prop:=e=.returned v/\Q w
abbrev _root_.Go.World.aC(w:World)(x:Array Value)(t:TypeId):World:=w.alloc (.cells x t)
abbrev _root_.Go.World.sC(w:World)(b o:Nat)(v:Value):World:=w.setCell ⟨b,o,none⟩ v
abbrev _root_.Go.Value.oB(v:Value)(b:Nat):Prop:=v.ownBlock=some b
def _root_.Go.RowKit.Hid.o{p:Prop}(h:Hid p):p:=h
def _root_.Go.RowKit.Hid.m{P:Program}{f:FuncId}{a:Array Value}{w:World}{R Q:Ending->World->Prop}(h:Hid (Calls P f a w R))(k:∀e w',R e w'->Q e w'):Calls P f a w Q:=Calls.mono h k
def C2(k:Nat):(0:Int)<=(k:Int):=Gv _
def Gn{w:World}{b o:Nat}{x:Array Value}{t:TypeId}{f:Nat×Nat}{v:Value}(h:w.heap[b]?=some (.cells x t f))(k:x[o]?=some v:=by rfl):A7 w b o v:=by
 show w.cell? ⟨b,o,none⟩=some v;simp only[World.cell?,h];exact k
def Br:List Nat->List Nat->List (Nat×Bool)
 | [],_=>[]
 | i::r,x=>(i,!x.elem i):: Br r x
def An:(∀(a:Act) (v:Value) (d:Tmp),a.put (some d) v=⟨a.tmps.setIfInBounds d v,a.defers⟩)/\(∀(a:Act) (v:Value),a.put none v=a)/\(∀ {α:Type} {l:List α} {i:Nat} {a:α},l.toArray.setIfInBounds i a=(l.set i a).toArray)/\(∀ {α:Type} {x a:α} {xs:List α},(x::xs).set 0 a=a::xs)/\
 (∀ {α:Type} {x a:α} {xs:List α} {n:Nat},(x::xs).set (n+1) a=x::xs.set n a)/\(∀ {α:Type} {l:List α} {i:Nat} (h:i<l.toArray.size),l.toArray[i]=l[i]'(by simpa using h))/\(∀ {α:Type} {a:α} {l:List α} (h:0<(a::l).length),(a::l)[0]=a)/\
 (∀ {α:Type} {a:α} {l:List α} {i:Nat} (h:i+1<(a::l).length),(a::l)[i+1]=l[i]'(A36 h)):=
 ⟨λ_ _ _=>rfl,λ_ _=>rfl,A4e _ _ _,rfl,rfl,λ_=>rfl,λ_=>rfl,λ_=>rfl⟩
structure A3 (S:Nat->Prop) (w w':World):Prop where
 os:w'.os=w.os
 Fg:w'.tape=w.tape
 Fk:w'.output=w.output
 Ao:w.heap.size<=w'.heap.size
 Ap:∀k,k<w.heap.size->¬S k->w'.heap[k]?=w.heap[k]?
def A3.I(S:Nat->Prop)(w:World):A3 S w w:=⟨rfl,rfl,rfl,As _,λ_ _ _=>rfl⟩
def A3.Aw{S S':Nat->Prop}{a b c:World}(h:A3 S a b)(k:A3 S' b c)(E:∀x,S' x->x<a.heap.size->S x):A3 S a c:=
 ⟨k.os.trans h.os,k.Fg.trans h.Fg,k.Fk.trans h.Fk,AR h.Ao k.Ao,λi d z=>
  (k.Ap i (Bq d h.Ao) (λH=>z (E i H d))).trans (h.Ap i d z)⟩
def A3.aa{S S':Nat->Prop}{a b:World}(h:A3 S a b)(z:∀x,x<a.heap.size->S x->S' x):A3 S' a b:=
 ⟨h.os,h.Fg,h.Fk,h.Ao,λk d H=>h.Ap k d (λE=>H (z k d E))⟩
def A3.af{S:Nat->Prop}{a w:World}(h:A3 S a w):A3 S a w.drew:=⟨h.os,h.Fg,h.Fk,h.Ao,h.Ap⟩
def A3.ba{S:Nat->Prop}{a w:World}(h:A3 S a w)(n:Nat):A3 S a (w.drewN n):=⟨h.os,h.Fg,h.Fk,h.Ao,h.Ap⟩
def A3.ai{S:Nat->Prop}{a w:World}(h:A3 S a w)(o:Obj):A3 S a (w.alloc o):=
 ⟨h.os,h.Fg,h.Fk,by have:=h.Ao;simp;omega,λk d z=>(Dd _ _ _ (Bq d h.Ao)).trans (h.Ap k d z)⟩
def A3.tr{S:Nat->Prop}{a b c:World}(h:A3 S a b)(k:A3 S b c):A3 S a c:=h.Aw k λ_ h _=>h
def A3.aC{S:Nat->Prop}{a w:World}(h:A3 S a w)(x:Array Value)(t:TypeId):A3 S a (w.alloc (.cells x t)):=h.ai _
def A3.bq{S:Nat->Prop}{a w:World}(h:A3 S a w){p:Addr}(E:p.block<a.heap.size->S p.block)(u:Value):A3 S a (w.setCell p u):=
 ⟨h.os,h.Fg,h.Fk,by simpa using h.Ao,λk d z=>(GK _ _ _ _ (λe=>by subst e;exact z (E d))).trans (h.Ap k d z)⟩
def A3.CC{S:Nat->Prop}{a w w':World}{row:Option Nat}(h:A3 S a w)(d:w.grownBy w' row)(H:∀k,row=some k->k<a.heap.size->S k):A3 S a w':=
 ⟨d.os.trans h.os,d.tape.trans h.Fg,d.output.trans h.Fk,AR h.Ao d.size,λk z E=>
  (d.block k (Bq z h.Ao) (λe=>E (H k e.symm z))).trans (h.Ap k z E)⟩
def A3.de{S:Nat->Prop}{a b:World}{B:Nat}(h:A3 S a b)(z:B<=a.heap.size)(E:∀k,k<B->¬S k):Below B a b:=
 ⟨h.os,h.Fg,h.Fk,h.Ao,λk d=>h.Ap k (Bq d z) (E k d)⟩
def A3.aj{S:Nat->Prop}{a b:World}(h:A3 S a b){k:Nat}{o:Obj}(d:a.heap[k]?=some o)(z:¬S k):b.heap[k]?=some o:=
 (h.Ap k (Bz d) z).trans d
def One(b:Nat):Nat->Prop:=λk=>k=b
def A3.aq{S:Nat->Prop}{a w:World}(h:A3 S a w){b:Nat}(d:S b)(o:Nat)(u:Value):A3 S a (w.setCell (Ac b o) u):=h.bq (p:=(Ac b o)) (λ_=>d) u
def A1{p:Prop}(h:p):Hid p:=h
def G4(S:Nat->Prop)(w w':World):Prop:=∀k,S k->w'.heap[k]?=w.heap[k]?
def G4.aa{S S':Nat->Prop}{w w':World}(h:G4 S w w')(z:∀k,S' k->S k):G4 S' w w':=λk d=>h k (z k d)
def A3.ay{S T:Nat->Prop}{w w':World}(h:A3 S w w')(E:∀k,T k->k<w.heap.size)(z:∀k,T k->¬S k):G4 T w w':=λk d=>h.Ap k (E k d) (z k d)
def Az{w w':World}{d e size n:Nat}{v:Value}{xs:List Value}(h:w.ownsRow d e size v n xs)(L:∀g,v.ownBlock=some g->w'.heap[g]?=w.heap[g]?):w'.ownsRow d e size v n xs:=by
 refine⟨h.1,?_⟩;rcases h.2 with E|⟨g,cap,z,rfl,I,H,r⟩
 ·exact .inl E
 ·exact .inr ⟨g,cap,z,rfl,I,by rw[L g rfl];exact H,r⟩
def AI{w:World}{d e size n:Nat}{v:Value}{xs:List Value}(h:w.ownsRow d e size v n xs){g:Nat}(z:v.ownBlock=some g):g<w.heap.size:=(h.lt g z).2
def Be{w:World}{z e size n:Nat}{v:Value}{xs:List Value}(h:w.ownsRow z e size v n xs){g:Nat}(E:v.ownBlock=some g):∃d,w.heap[g]?=some (.cells d e (0,0)):=by
 rcases h.2 with⟨rfl,_⟩|⟨g',cap,d,rfl,_,H,_⟩
 ·simp[Value.ownBlock]at E
 ·simp[Value.ownBlock]at E;subst E;exact⟨d,H⟩
def BF{w:World}{d e size n:Nat}{v:Value}{xs:List Value}(h:w.ownsRow d e size v n xs){g:Nat}(z:v.ownBlock=some g){j:Nat}{u:Value}(hu:xs[j]?=some u):A7 w g j u:=by
 have:=h.cells z j u hu;unfold Addr.add at this;split at this
 ·rename_i E;rw[E];exact this
 ·simpa using this
def Gc{w:World}{d e size n:Nat}{v:Value}{xs:List Value}(h:w.ownsRow d e size v n xs){g:Nat}(E:v.ownBlock=some g)(j:Nat):w.frozen? (Ac g j)=false:=by
 obtain⟨cur,z⟩:=Be h E;simp[World.frozen?,z]
def B9{w:World}{d e size n:Nat}{v:Value}{xs:List Value}(h:w.ownsRow d e size v n xs):
 ∃a cap,v=.slice a n cap/\n<=cap/\cap<=maxLen/\(0<n->∃g,a=some (Ac g 0))/\(a=none->n=0/\cap=0)/\(∀x,a=some x->∃g,x=(Ac g 0)):=by
 rcases h.2 with⟨rfl,H⟩|⟨g,cap,cur,rfl,_,hg,z,I,hs,_⟩
 ·exact⟨none,0,by rw[H],by omega,by decide,by omega,λ_=>⟨H,rfl⟩,λx E=>by cases E⟩
 ·exact⟨_,cap,rfl,z,I,λ_=>⟨g,rfl⟩,by simp,λx E=>⟨g,by cases E;rfl⟩⟩
def Sl{w:World}{d e size n cap:Nat}{a:Option Addr}{xs:List Value}(h:w.ownsRow d e size (.slice a n cap) n xs){m:Nat}(hm:m<=n):w.ownsRow d e size (.slice a m cap) m (xs.take (m*size)):=by
 have I:m*size<=n*size:=Hv _ hm;refine⟨by rw[BW,h.1];omega,?_⟩;rcases h.2 with⟨z,L⟩|⟨g,cap',H,z,W,Y,hcap,E,hs,O⟩
 ·subst L;cases z;obtain rfl:m=0:=by omega
  exact .inl ⟨rfl,rfl⟩
 ·cases z;exact .inr ⟨g,cap,H,rfl,W,Y,by omega,E,hs,by rw[<-O,Kb,Lv I]⟩
def PF(a b:ByteArray):(a.toList==b.toList)=true↔a=b:=by
 rw[beq_iff_eq,Kl,Kl];exact⟨λh=>A3Z h,λh=>by rw[h]⟩
def UH(a b:ByteArray):(a.toList==b.toList)=false↔a≠b:=by
 have:=PF a b;constructor
 ·intro h e;rw[this.2 e]at h;cases h
 ·intro h;cases hx:(a.toList==b.toList) with
  | false=>rfl
  | true=>exact absurd (this.1 hx) h
abbrev AO:=ByteArray×Nat
def C3:List AO->List Value
 | []=>[]
 | (n,f):: r=>.string n::(A5 f):: C3 r
def A1W(es:List AO):(C3 es).length=es.length*2:=by
 induction es with
 | nil=>rfl
 | cons e r ih=>obtain⟨n,f⟩:=e;simp only[C3,Cx,ih];omega
def Lb(a b:List AO):C3 (a++b)=C3 a++C3 b:=by
 induction a with
 | nil=>rfl
 | cons e r ih=>obtain⟨n,f⟩:=e;simp[C3,ih]
def A1V(es:List AO)(k:Nat):(C3 es).take (k*2)=C3 (es.take k):=by
 induction es generalizing k with
 | nil=>simp[C3]
 | cons e r ih=>
  obtain⟨n,f⟩:=e
  match k with
  | 0=>simp[C3]
  | k+1=>rw[show (k+1)*2=k*2+1+1 from by omega];simp[C3,ih]
def A1X(es:List AO)(k:Nat):(C3 es).drop (k*2)=C3 (es.drop k):=by
 induction es generalizing k with
 | nil=>simp[C3]
 | cons e r ih=>
  obtain⟨n,f⟩:=e
  match k with
  | 0=>simp[C3]
  | k+1=>rw[show (k+1)*2=k*2+1+1 from by omega];simp[C3,ih]
def Pg(es:List AO)(k:Nat)(h:k<es.length):(C3 es)[k*2]?=some (.string (es[k]'h).1):=by
 induction es generalizing k with
 | nil=>simp at h
 | cons e r ih=>
  obtain⟨n,f⟩:=e
  match k with
  | 0=>simp[C3]
  | k+1=>
   have:=ih k (by simpa using h);rw[show (k+1)*2=k*2+1+1 from by omega];simpa[C3] using this
def Pe(es:List AO)(k:Nat)(h:k<es.length):(C3 es)[k*2+1]?=some (A5 ((es[k]'h).2)):=by
 induction es generalizing k with
 | nil=>simp at h
 | cons e r ih=>
  obtain⟨n,f⟩:=e
  match k with
  | 0=>simp[C3]
  | k+1=>
   have:=ih k (by simpa using h);rw[show (k+1)*2+1=k*2+1+1+1 from by omega];simpa[C3] using this
def Pf(es:List AO):∀u∈C3 es,u.oneCell'=true:=by
 induction es with
 | nil=>simp[C3]
 | cons e r ih=>
  obtain⟨n,f⟩:=e;intro u hu;simp only[C3,BQ]at hu;rcases hu with rfl|rfl|hu
  ·rfl
  ·rfl
  ·exact ih u hu
def D3(w:World)(v:Value)(es:List AO):Prop:=w.ownsRow 0 125 2 v es.length (C3 es)
def D3.Cg{w:World}{v:Value}{es:List AO}(h:D3 w v es):
 ∃a cap,v=.slice a es.length cap/\es.length<=cap/\cap<=maxLen/\∀k (d:k<es.length),∃g,a=some (Ac g 0)/\A7 w g (k*2) (.string (es[k]'d).1)/\A7 w g (k*2+1) (A5 ((es[k]'d).2)):=by
 rcases B9 h with⟨a,cap,rfl,E,z,H,_,_⟩;refine⟨a,cap,rfl,E,z,λk d=>?_⟩;obtain⟨g,rfl⟩:=H (by omega);exact⟨g,rfl,BF h rfl (Pg es k d),BF h rfl (Pe es k d)⟩
def B4:List AO->ByteArray->Int
 | [],_=>-1
 | e::r,name=>if e.1=name then 0 else if B4 r name<0 then -1 else B4 r name+1
def A1R(es:List AO)(name:ByteArray)(k:Nat)(z:k<es.length)(h:(es[k]'z).1=name)(d:∀m (H:m<k),(es[m]'(by omega)).1≠name):B4 es name=k:=by
 induction es generalizing k with
 | nil=>simp at z
 | cons e r ih=>
  match k with
  | 0=>simp only[Ki]at h;simp[B4,h]
  | k+1=>
   have E:=d 0 (by omega);simp only[Ki]at E;have:=ih k (by simpa using z) (by simpa using h) (λm H=>by simpa using d (m+1) (by omega));simp only[B4,E,C7,this];rw[Ae (by omega)];omega
def A1P(es:List AO)(name:ByteArray)(d:∀m (h:m<es.length),(es[m]'h).1≠name):B4 es name = -1:=by
 induction es with
 | nil=>rfl
 | cons e r ih=>
  have z:=d 0 (by simp);simp only[Ki]at z;have:=ih (λm h=>by have:=d (m+1) (by simp;omega);simpa using this);simp[B4,z,this]
def U9(es:List AO)(name:ByteArray): -1<=B4 es name/\B4 es name<es.length:=by
 induction es with
 | nil=>simp[B4]
 | cons e r ih=>
  simp only[B4,Cx];split
  ·omega
  ·split<;>omega
def Pd(es:List AO)(name:ByteArray):(B4 es name = -1/\∀e∈es,e.1≠name)\/∃k,∃d:k<es.length,B4 es name=(k:Int)/\(es[k]'d).1=name:=by
 induction es with
 | nil=>exact .inl ⟨rfl,by simp⟩
 | cons e r ih=>
  by_cases h:e.1=name
  ·exact .inr ⟨0,by simp,by simp[B4,h],by simpa using h⟩
  ·rcases ih with⟨E,z⟩|⟨k,d,E,z⟩
   ·exact .inl ⟨by simp[B4,h,E],λx H=>by rcases BQ.1 H with rfl|H;exact h;exact z x H⟩
   ·exact .inr ⟨k+1,by simpa using d,by simp only[B4,h,C7,E];rw[Ae (by omega)];omega,by simpa using z⟩
structure DN where
 AG:Int
 AY:Int
 BX:Int
 BV:Int
 Bv:Int
 Bm:Int
 fulls:Int
 AF:Bool
def GQ(vd vs vc:Value)(n:DN):Array Value:=
 #[vd,vs,vc,A0 n.AG,A0 n.AY,A0 n.BX,A0 n.BV,A0 n.Bv,A0 n.Bm,A0 n.fulls,.bool n.AF]
def AN(w:World)(b:Nat)(vd vs vc:Value)(n:DN):Prop:=w.heap[b]?=some (.cells (GQ vd vs vc n) 95 (0,0))
section
variable {w:World} {b:Nat} {vd vs vc:Value} {n:DN}
def AN.c0(h:AN w b vd vs vc n):A7 w b 0 vd:=by unfold AN at h;simp[A7,World.cell?,h,GQ]
def AN.c1(h:AN w b vd vs vc n):A7 w b 1 vs:=by unfold AN at h;simp[A7,World.cell?,h,GQ]
def AN.c2(h:AN w b vd vs vc n):A7 w b 2 vc:=by unfold AN at h;simp[A7,World.cell?,h,GQ]
def AN.c3(h:AN w b vd vs vc n):A7 w b 3 (A0 n.AG):=by unfold AN at h;simp[A7,World.cell?,h,GQ]
def AN.c4(h:AN w b vd vs vc n):A7 w b 4 (A0 n.AY):=by unfold AN at h;simp[A7,World.cell?,h,GQ]
def AN.c5(h:AN w b vd vs vc n):A7 w b 5 (A0 n.BX):=by unfold AN at h;simp[A7,World.cell?,h,GQ]
def AN.c6(h:AN w b vd vs vc n):A7 w b 6 (A0 n.BV):=by unfold AN at h;simp[A7,World.cell?,h,GQ]
def AN.c7(h:AN w b vd vs vc n):A7 w b 7 (A0 n.Bv):=by unfold AN at h;simp[A7,World.cell?,h,GQ]
def AN.c8(h:AN w b vd vs vc n):A7 w b 8 (A0 n.Bm):=by unfold AN at h;simp[A7,World.cell?,h,GQ]
def AN.c9(h:AN w b vd vs vc n):A7 w b 9 (A0 n.fulls):=by unfold AN at h;simp[A7,World.cell?,h,GQ]
def AN.bY(h:AN w b vd vs vc n):A7 w b 10 (.bool n.AF):=by unfold AN at h;simp[A7,World.cell?,h,GQ]
def AN.fz(h:AN w b vd vs vc n)(o:Nat):w.frozen? (Ac b o)=false:=by unfold AN at h;simp[World.frozen?,h]
def AN.lt(h:AN w b vd vs vc n):b<w.heap.size:=Bz h
def Ct{w:World}{b:Nat}{c:Array Value}{e:Nat}{o:Nat}{v:Value}(h:w.heap[b]?=some (.cells c e (0,0))):(w.setCell (Ac b o) v).heap[b]?=some (.cells (c.setIfInBounds o v) e (0,0)):=by
 simp[World.setCell,Array.getElem?_modify,h]
def AN.ay{w':World}(h:AN w b vd vs vc n)(d:w'.heap[b]?=w.heap[b]?):AN w' b vd vs vc n:=d.trans h
def AN.ai(h:AN w b vd vs vc n)(o:Obj):AN (w.alloc o) b vd vs vc n:=h.ay (Dd _ _ _ h.lt)
def AN.CC{w':World}{row:Option Nat}(h:AN w b vd vs vc n)(z:w.grownBy w' row)(d:row≠some b):AN w' b vd vs vc n:=h.ay (z.block b h.lt (λe=>d e.symm))
def AN.Ak{S:Nat->Prop}{w':World}(h:AN w b vd vs vc n)(z:A3 S w w')(d:¬S b):AN w' b vd vs vc n:=h.ay (z.Ap b h.lt d)
def AN.s0(h:AN w b vd vs vc n)(v:Value):AN (w.setCell (Ac b 0) v) b v vs vc n:=Ct h
def AN.s1(h:AN w b vd vs vc n)(v:Value):AN (w.setCell (Ac b 1) v) b vd v vc n:=Ct h
def AN.s2(h:AN w b vd vs vc n)(v:Value):AN (w.setCell (Ac b 2) v) b vd vs v n:=Ct h
def AN.s4(h:AN w b vd vs vc n)(x:Int):AN (w.setCell (Ac b 4) (A0 x)) b vd vs vc {n with AY:=x}:=Ct h
def AN.s5(h:AN w b vd vs vc n)(x:Int):AN (w.setCell (Ac b 5) (A0 x)) b vd vs vc {n with BX:=x}:=Ct h
def AN.s6(h:AN w b vd vs vc n)(x:Int):AN (w.setCell (Ac b 6) (A0 x)) b vd vs vc {n with BV:=x}:=Ct h
def AN.s7(h:AN w b vd vs vc n)(x:Int):AN (w.setCell (Ac b 7) (A0 x)) b vd vs vc {n with Bv:=x}:=Ct h
def AN.s8(h:AN w b vd vs vc n)(x:Int):AN (w.setCell (Ac b 8) (A0 x)) b vd vs vc {n with Bm:=x}:=Ct h
def AN.s9(h:AN w b vd vs vc n)(x:Int):AN (w.setCell (Ac b 9) (A0 x)) b vd vs vc {n with fulls:=x}:=Ct h
def AN.et(h:AN w b vd vs vc n)(x:Bool):AN (w.setCell (Ac b 10) (.bool x)) b vd vs vc {n with AF:=x}:=Ct h
end
def CZ(w:World)(f:Nat)(vb:Value)(A8:Int):Prop:=w.heap[f]?=some (.cells #[vb,A0 A8] 129 (0,0))
section
variable {w:World} {f:Nat} {vb:Value} {A8:Int}
def CZ.c0(h:CZ w f vb A8):A7 w f 0 vb:=by unfold CZ at h;simp[A7,World.cell?,h]
def CZ.c1(h:CZ w f vb A8):A7 w f 1 (A0 A8):=by unfold CZ at h;simp[A7,World.cell?,h]
def CZ.fz(h:CZ w f vb A8)(o:Nat):w.frozen? (Ac f o)=false:=by unfold CZ at h;simp[World.frozen?,h]
def CZ.s0(h:CZ w f vb A8)(v:Value):CZ (w.setCell (Ac f 0) v) f v A8:=Ct h
def CZ.s1(h:CZ w f vb A8)(x:Int):CZ (w.setCell (Ac f 1) (A0 x)) f vb x:=Ct h
end
def E3(bs:List UInt8):List Value:=bs.map λb=>.int .u8 b.toNat
def FP(w:World)(v:Value)(bs:List UInt8):Prop:=w.ownsRow 0 5 1 v bs.length (E3 bs)
def A25(a b:List UInt8):E3 (a++b)=E3 a++E3 b:=Eg
def A3.cP{S:Nat->Prop}{w w':World}(h:Below w.heap.size w w'):A3 S w w':=⟨h.os,h.tape,h.output,h.size,λk d _=>h.block k d⟩
def A3.ao{w w':World}(h:A3 Ab w w'){p:Addr}{v:Value}(d:w.cell? p=some v):w'.cell? p=some v:=by
 have z:p.block<w.heap.size:=by
  rcases F9 p.block w.heap.size with h|h
  ·exact h
  ·unfold World.cell? at d;rw[Nw h]at d;simp at d
 unfold World.cell? at d ⊢;rw[h.Ap _ z (λh=>h)];exact d
structure App (w w':World) (e size:Nat) (v v':Value) (n:Nat) (xs:List Value):Prop where
 AB:w'.ownsRow 0 e size v' n xs
 CC:w.grownBy w' v.ownBlock
 Ck:v'.ownBlock=v.ownBlock\/v'.ownBlock=some w.heap.size
 Cg:∃a cap,v'=.slice a n cap
def XO{P:Program}(w:World)(t tx ty e:TypeId)(i:TypeInfo)(z:Value)(size bytes:Nat)(ht:P.underlying t=some (.slice e))(hi:P.info? e=some i)(hz:i.zero=some z)(W:i.size=size)(aK:i.bytes=bytes)(aM:z.cells.size=size)(aJ:0<bytes)(v:Value)(n:Nat)(xs:List Value)(d:w.ownsRow 0 e size v n xs)(x:Value)(m:Nat)(news:List Value)(L:Src P size tx x m news w)(H:(n+m)*bytes<=140737488355328):
 ∃v' w',(Builtin.append_ #[t,tx] ty #[v,x]).run P w=.ok v' w'/\App w w' e size v v' (n+m) (xs++news):=by
 subst W;subst aK;have hnm:=AR (Nat.le_mul_of_pos_right _ aJ) H;have h:(xs++news).length=(n+m)*i.size:=by rw[B1,d.1,L.newsLen,HN]
 obtain⟨a,cap,rfl,hnc,aH,_,aE,Y⟩:=B9 d;by_cases E:n+m<=cap
 ·rcases d.2 with⟨h1,h2⟩|⟨g,cap',I,h1,_,hg,_,_,aL,aA⟩
  ·cases h1;(obtain rfl:m=0:=by omega);have hn:=LJ (by simpa using L.newsLen);subst hn;have hx:=LJ (by simpa using d.1);subst hx;refine⟨.slice none 0 0,w,?_,⟨CL w 0 e i.size,⟨rfl,rfl,rfl,As _,λ_ _ _=>rfl⟩,.inl rfl,⟨none,0,rfl⟩⟩⟩;rcases L.kind with⟨e',O⟩|O<;>simp[Builtin.append_,run_underlying ht,run_underlying O,sizeOf,typeInfo,hi,L.len,L.cells]
  ·cases h1;(have aF:n*i.size+news.length<=I.size:=by rw[L.newsLen,aL,<-HN];exact Hv _ E);have aB:=run_storeCells_at P g (n*i.size) e news 0 I w hg (by simpa using aF) L.one;simp only[PY]at aB;have hr:(Builtin.append_ #[t,tx] ty #[AM g n cap,x]).run P w=.ok (AM g (n+m) cap) (w.setRow g (I.toList.take (n*i.size)++news++I.toList.drop (n*i.size+news.length)).toArray):=by
    rcases L.kind with⟨e',O⟩|O<;>simp[Builtin.append_,run_underlying ht,run_underlying O,sizeOf,typeInfo,hi,L.len,E,L.cells,Addr.add_lit,aB]
   refine⟨_,_,hr,⟨⟨h,.inr ⟨g,cap,_,rfl,Cq _,KA w g I _ e _ hg,E,aH,?_,?_⟩⟩,⟨rfl,rfl,rfl,by simp,λk _ O=>Jx w g k _ (λe=>O (by simp[Value.ownBlock,e]))⟩,.inl rfl,⟨_,_,rfl⟩⟩⟩
   ·simp only[Lz,B1,BW,Cw,LQ];omega
   ·rw[aA,<-h];exact Kc
 ·have aD:(Builtin.firstCells i.size n (.slice a n cap)).run P w.drew=.ok xs.toArray w.drew:=by
   cases a with
   | none=>
    obtain⟨rfl,_⟩:=aE rfl;have hx:=LJ (by simpa using d.1);subst hx;exact run_firstCells_none w.drew i.size 0 0 cap
   | some ad=>
    obtain⟨g,rfl⟩:=Y ad rfl;exact Rl w.drew i.size n _ n cap xs d.1 (by simpa using d.cells (g:=g) rfl)
  have hr:=run_append_grow_src (P:=P) w t tx ty e i z ht hi hz a n cap xs aD x m news L (by omega) (by omega) (growslice_fits (by omega) H);have aG:=grownCap_ge w (n+m) cap e;have aI:=grownCap_le_maxLen w (n+m) cap e (by unfold maxLen;omega);refine⟨_,_,hr,⟨⟨h,.inr ⟨w.heap.size,_,_,rfl,Cq _,BO w.drew _,aG,aI,?_,?_⟩⟩,⟨rfl,rfl,rfl,by simp,λk O _=>Dd w.drew _ k O⟩,.inr rfl,⟨_,_,rfl⟩⟩⟩
  ·simp only[Array.size_append,Lz,size_zeroCells,aM,h,<-HN]
   congr 1
   omega
  ·simp only[Qh];rw[<-h];exact Kc
section
variable {P:Program} {w:World}
def HY{o:Oper}{a:Act}{K:Act->World->Prop}{Q:Exit->Act->World->Prop}(s x:Operand)(t W:TypeId)(ho:o.op=.call {callee:=.builtin .append,args:=#[s,x],argTypes:=#[t,W]})(e:TypeId)(i:TypeInfo)(z:Value)(size bytes:Nat)(ht:P.underlying t=some (.slice e))(hi:P.info? e=some i)(hz:i.zero=some z)(E:i.size=size)(L:i.bytes=bytes)(O:z.cells.size=size)(I:0<bytes)(v:Value)(n:Nat)(xs:List Value)(hv:a.eval s=v)(H:w.ownsRow 0 e size v n xs)(sv:Value)(m:Nat)(news:List Value)(hx:a.eval x=sv)(hs:Src P size W sv m news w)(d:(n+m)*bytes<=140737488355328)(h:∀b cap w',App w w' e size v (.slice b (n+m) cap) (n+m) (xs++news)->K (a.put o.dst (.slice b (n+m) cap)) w'):o.wp P a w K Q:=by
 obtain⟨v',w',hr,Y⟩:=XO (P:=P) w t W o.type e i z size bytes ht hi hz E L O I v n xs H sv m news hs d;obtain⟨b,cap,rfl⟩:=Y.Cg;unfold Oper.wp execOp;simp only[ho,resolve,invoke,builtin,Sem.run_bind,Sem.run_pure,Result.andThen_ok,List.map_toArray,He,List.map_nil,hv,hx,hr];exact h b cap w' Y
def D5{ops:Array Oper}{rest:List Oper}{o:Oper}{a:Act}{Q:Exit->Act->World->Prop}(I:o.guard=none)(s x:Operand)(t Y:TypeId)(ho:o.op=.call {callee:=.builtin .append,args:=#[s,x],argTypes:=#[t,Y]})(e:TypeId)(i:TypeInfo)(z:Value)(size bytes:Nat)(ht:P.underlying t=some (.slice e))(hi:P.info? e=some i)(hz:i.zero=some z)(E:i.size=size)(O:i.bytes=bytes)(W:z.cells.size=size)(L:0<bytes)(v:Value)(n:Nat)(xs:List Value)(hv:a.eval s=v)(H:w.ownsRow 0 e size v n xs)(sv:Value)(m:Nat)(news:List Value)(hx:a.eval x=sv)(hs:Src P size Y sv m news w)(d:(n+m)*bytes<=140737488355328)(h:∀b cap w',App w w' e size v (.slice b (n+m) cap) (n+m) (xs++news)->wpList P ops Q rest (a.put o.dst (.slice b (n+m) cap)) w'):wpList P ops Q (o::rest) a w:=
 wpList_plain I λ_ hK=>HY s x t Y ho e i z size bytes ht hi hz E O W L v n xs hv H sv m news hx hs d λb cap w' hA=>hK _ _ (h b cap w' hA)
def Ju{y:Nat->Option Bool}{o:Oper}{a:Act}{K:Act->World->Prop}{Q:Exit->Act->World->Prop}{E:Prop}(L:o.guard=none)(s x:Operand)(t tx:TypeId)(ho:o.op=.call {callee:=.builtin .append,args:=#[s,x],argTypes:=#[t,tx]})(e:TypeId)(i:TypeInfo)(z:Value)(size bytes:Nat)(ht:P.underlying t=some (.slice e))(hi:P.info? e=some i)(hz:i.zero=some z)(H:i.size=size)(W:i.bytes=bytes)(Y:z.cells.size=size)(O:0<bytes)(v:Value)(n:Nat)(xs:List Value)(hv:a.eval s=v)(I:w.ownsRow 0 e size v n xs)(sv:Value)(m:Nat)(news:List Value)(hx:a.eval x=sv)(hs:Src P size tx sv m news w)(d:(n+m)*bytes<=140737488355328)(h:∀b cap w',App w w' e size v (.slice b (n+m) cap) (n+m) (xs++news)->K (a.put o.dst (.slice b (n+m) cap)) w'):
 if Region.wanted o y=true then Oper.wp P o a w K Q else E:=by
 have hw:Region.wanted o y=true:=by simp[Region.wanted,L]
 rw[Ai hw];exact HY s x t tx ho e i z size bytes ht hi hz H W Y O v n xs hv I sv m news hx hs d h
def Src.cx{size:Nat}{h I:TypeId}(z:P.underlying h=some (.slice I)){B:Nat}{d:Array Value}{t:TypeId}{O:Nat×Nat}(L:w.heap[B]?=some (.cells d t O))(m c:Nat)(E:d.size=m*size)(H:∀u∈d.toList,u.oneCell'=true):Src P size h (.slice (some ⟨B,0,none⟩) m c) m d.toList w:=
 Jb w z _ m c _ (by simpa using E) (World.news_of_block L) H
def Src.bb{size:Nat}{h L:TypeId}(z:P.underlying h=some (.slice L))(w:World)(d:Array Value)(t B:Nat)(I:w.heap.size=B)(m c:Nat)(E:d.size=m*size)(H:∀u∈d.toList,u.oneCell'=true):Src P size h (.slice (some ⟨B,0,none⟩) m c) m d.toList (w.alloc (.cells d t)):=by
 subst I;exact Src.cx z (BO _ _) m c E H
def Src.bO{size:Nat}{H L e:TypeId}(E:P.underlying H=some (.slice L)){v:Value}{m:Nat}{news:List Value}(h:w.ownsRow 0 e size v m news)(I:∀u∈news,u.oneCell'=true):Src P size H v m news w:=by
 obtain⟨a,cap,rfl,_,_,_,z,d⟩:=B9 h;cases a with
 | none=>
  obtain⟨rfl,rfl⟩:=z rfl;have O:=LJ (by simpa using h.1);subst O;exact Src.ofNil w E 0
 | some ad=>
  obtain⟨g,rfl⟩:=d ad rfl;exact Jb w E _ m cap news h.1 (h.cells rfl) I
end
def Js(s:Nat):Nat:=(s/2) ^^^ (3988292384*(s &&& 1))
def Jr(s:Nat):Nat->Nat
 | 0=>s
 | n+1=>Js (Jr s n)
def M1(s:Nat)(b:UInt8):Nat:=Jr (s ^^^ b.toNat) 8
def AW(s:Nat)(bs:List UInt8):Nat:=bs.foldl M1 s
def V3(s:Nat):s &&& 1<=1:=Nat.and_le_right
def QX(s:Nat)(h:s<4294967296):Js s<4294967296:=by
 unfold Js;have:=V3 s;exact Vl (n:=32) (by omega) (by omega)
def Xe(s n:Nat)(h:s<4294967296):Jr s n<4294967296:=by
 induction n with
 | zero=>exact h
 | succ n ih=>exact QX _ ih
def Xd(s:Nat)(b:UInt8)(h:s<4294967296):M1 s b<4294967296:=by
 have:=b.toNat_lt;exact Xe _ _ (Vl (n:=32) (by omega) (by omega))
def Jq(s:Nat)(bs:List UInt8)(h:s<4294967296):AW s bs<4294967296:=by
 unfold AW
 induction bs generalizing s with
 | nil=>exact h
 | cons b t ih=>exact ih _ (Xd s b h)
def Xa(s:Nat)(a b:List UInt8):AW s (a++b)=AW (AW s a) b:=Kj
def X9(s:Nat)(bs:List UInt8)(k:Nat)(d:k<bs.length):AW s (bs.take (k+1))=M1 (AW s (bs.take k)) (bs[k]'d):=by
 rw[DB d,Xa];rfl
def A3S(w:World)(s:Nat)(text:ByteArray)(hs:s<4294967296)(hl:text.size<=9223372036854775807):
 Af 165 #[.int .u32 s,.string text] w (Aj (.int .u32 (AW s text.data.toList)) λw'=>w=w'):=by
 go_enter func165,ntmps165
 go_wp2;go_loop [0,8] (λc i=>∃k x:Nat,k<=text.size/\i=A0 k/\c=.int .u32 x/\x<4294967296/\Hid (x=AW s (text.data.toList.take k))) (λ_ i=>text.size-(intOf i).toNat)
 case atStart=>exact⟨0,s,Cq _,rfl,rfl,hs,rfl⟩
 case round=>
  obtain⟨k,x,hk,rfl,rfl,hx,I⟩:=hrel;by_cases d:k<text.size
  ·have hb:=(text[k]'d).toNat_lt;have Y:bits .xor .u32 (x:Int) (((text[k]'d).toNat:Int) % 4294967296)=((x ^^^ (text[k]'d).toNat:Nat):Int):=by
    rw[show (((text[k]'d).toNat:Int) % 4294967296)=(((text[k]'d).toNat:Nat):Int) by omega];exact u32_xor_nat _ _ hx (by omega)
   have hy:x ^^^ (text[k]'d).toNat<4294967296:=Vl (n:=32) (by omega) (by omega);have H:Hid (Jr (x ^^^ (text[k]'d).toNat) 8=AW s (text.data.toList.take (k+1))):=by
    unfold Hid;rw[X9 s _ k (by simpa using d),<-I.o];simp[M1];rfl
   generalize L:x ^^^ (text[k]'d).toNat=y at Y hy H;clear L hb I;go_wp2;clear Y;go_loop [0,17] (λc i=>∃j z:Nat,j<=8/\i=A0 j/\c=.int .u32 z/\z<4294967296/\Hid (z=Jr y j)) (λ_ i=>8-(intOf i).toNat)
   case atStart=>exact⟨0,y,Cq _,rfl,rfl,hy,rfl⟩
   case round=>
    obtain⟨j,z,hj,rfl,rfl,O,E⟩:=hrel;by_cases hj8:j<8
    ·have e1:bits .xor .u32 ((z:Int)/2) (3988292384*bits .and .u32 (z:Int) 1 % 4294967296)=((Js z:Nat):Int):=by
      rw[show (1:Int)=((1:Nat):Int) from rfl,u32_and_nat z 1 O (by omega)];have:=V3 z;(have e2:(3988292384:Int)*((z &&& 1:Nat):Int) % 4294967296=((3988292384*(z &&& 1):Nat):Int):=by omega);rw[e2,show ((z:Int)/2)=((z/2:Nat):Int) by omega];exact u32_xor_nat _ _ (by omega) (by omega)
     have W:=QX z O;(have h:Hid (Js z=Jr y (j+1)):=by unfold Hid;rw[E.o];rfl);go_wp2;exact⟨⟨j+1,Js z,by omega,by go_num,rfl,W,h⟩,by simp[intOf];omega⟩
    ·(obtain rfl:j=8:=by omega);(have h:Hid (z=AW s (text.data.toList.take (k+1))):=by unfold Hid;rw[E.o];exact H.o);go_wp2;exact⟨⟨k+1,z,by omega,by go_num,rfl,O,h⟩,by simp[intOf];omega⟩
  ·have h:Hid (x=AW s text.data.toList):=by
    unfold Hid;rw[I.o,Er];simpa using by omega
   go_wp2;go_ret;rw[h.o];exact⟨rfl,rfl⟩
def extract_mk(l:List UInt8)(i j:Nat):(ByteArray.mk l.toArray).extract i j=⟨((l.drop i).take (j-i)).toArray⟩:=by
 apply ByteArray.ext;simp[ByteArray.data_extract]
def K5(a b:List UInt8):(ByteArray.mk a.toArray)++(ByteArray.mk b.toArray)=⟨(a++b).toArray⟩:=by
 apply ByteArray.ext;simp[ByteArray.data_append]
def EO:List UInt8->Nat
 | []=>0
 | b::t=>b.toNat+256*EO t
def A0i(a b:List UInt8):EO (a++b)=EO a+256 ^ a.length*EO b:=by
 induction a with
 | nil=>simp[EO]
 | cons c t ih=>simp only[Fz,EO,ih,Cx,K9];rw[Nat.mul_add,<-PW,Lu (256 ^ t.length) 256];omega
def A0g(bs:List UInt8)(k:Nat)(d:k<bs.length):EO (bs.take (k+1))=EO (bs.take k)+(bs[k]'d).toNat*256 ^ k:=by
 rw[DB d,A0i];simp[EO,Nat.min_eq_left (Nat.le_of_lt d),Nat.mul_comm]
def A1b(w:World)(text:ByteArray)(hl:8<=text.size/\text.size<=9223372036854775807):
 Af 168 #[.string text] w (Aj (A0 (wrap64 (EO (text.data.toList.take 8):Nat))) λw'=>w=w'):=by
 obtain⟨hl1,hl2⟩:=hl
 go_enter func168,ntmps168
 go_wp2;go_loop [3,5] (λc i=>∃k x:Nat,k<=8/\i=A0 k/\c=.int .u64 x/\x<18446744073709551616/\Hid (x<256 ^ k)/\Hid (x=EO (text.data.toList.take k))) (λ_ i=>8-(intOf i).toNat)
 case atStart=>exact⟨0,0,Cq _,rfl,rfl,by omega,(by unfold Hid;decide),rfl⟩
 case round=>
  obtain⟨k,x,hk,rfl,rfl,hx,H,W⟩:=hrel;by_cases hlt:k<8
  ·(have d:k<text.size:=by omega);have hb:=(text[k]'d).toNat_lt;have hb0:=hb;have h:Hid (x+(text[k]'d).toNat*256 ^ k=EO (text.data.toList.take (k+1))):=by
    unfold Hid;rw[A0g _ k (by simpa using d),<-W.o];rfl
   generalize E:(text[k]'d).toNat=b at hb h;obtain⟨y,I,z,e1⟩:∃y,y=x+b*256 ^ k/\y<256 ^ (k+1)/\bits .or .u64 (x:Int) (IntKind.u64.wrap (((text[k]'d).toNat:Int)*2 ^ (8*k)))=((y:Nat):Int):=by
    have h1:=H.o;(have L:(256:Nat) ^ k=2 ^ (8*k):=by rw[Nat.pow_mul]);have h3:b*256 ^ k<=255*256 ^ k:=Hv _ (by omega);have h5:(256:Nat) ^ (k+1)<=256 ^ 8:=A34 (by omega) (by omega);refine⟨_,rfl,by omega,?_⟩;rw[E,IntKind.wrap_u64,show ((b:Int)*2 ^ (8*k))=((b*2 ^ (8*k):Nat):Int) by push_cast;rfl];rw[<-L,show ((b*256 ^ k:Nat):Int) % 18446744073709551616=((b*256 ^ k:Nat):Int) by omega];rw[u64_or_nat _ _ hx (by omega)]
    congr 1
    have h7:=Nat.shiftLeft_add_eq_or_of_lt (i:=8*k) (b:=x) (by rw[<-L];exact h1) b;rw[Nat.shiftLeft_eq,<-L]at h7;rw[Nat.or_comm,<-h7];omega
   have O:y<18446744073709551616:=by
    have h5:(256:Nat) ^ (k+1)<=256 ^ 8:=A34 (by omega) (by omega);omega
   (have aA:Hid (y=EO (text.data.toList.take (k+1))):=by unfold Hid;rw[I];exact h.o);have Y:=A1 <| z;clear I E z h W H;go_wp2;exact⟨⟨k+1,y,by omega,by go_num,rfl,O,Y,aA⟩,by simp[intOf];omega⟩
  ·(obtain rfl:k=8:=by omega);go_wp2;go_ret;rw[W.o];exact⟨rfl,rfl⟩
def GO(n:Nat)(k:Nat):List UInt8:=(List.range k).map λi=>UInt8.ofNat (n/256 ^ i)
def A0k(n k:Nat):(GO n k).length=k:=by simp[GO]
def A0j(n k:Nat):GO n (k+1)=UInt8.ofNat n::GO (n/256) k:=by
 simp only[GO,List.range_succ_eq_map,He,Vv,Nat.pow_zero,Nat.div_one]
 congr 1
 apply Ng;intro i _;simp only[Function.comp,Nat.succ_eq_add_one,K9,Nat.div_div_eq_div_mul];rw[Lu (256 ^ i) 256]
def A0h(n k:Nat):EO (GO n k)=n % 256 ^ k:=by
 induction k generalizing n with
 | zero=>simp[GO,EO,Nat.mod_one]
 | succ k ih=>
  rw[A0j,EO,ih,K9,Lu (256 ^ k) 256,Nat.mod_mul];simp
def ES(n:Int):Nat:=(n % 18446744073709551616).toNat
def A3n(n:Int):ES n<18446744073709551616:=by unfold ES;omega
def UQ(n:Int):n % 18446744073709551616=(ES n:Int):=by unfold ES;omega
def AS(n:Int):List UInt8:=GO (ES n) 8
def CP(n:Int):(AS n).length=8:=A0k _ _
def VZ(n:Int)(h : -9223372036854775808<=n/\n<=9223372036854775807):wrap64 (EO (AS n):Nat)=n:=by
 have d:EO (AS n)=ES n:=by
  unfold AS;rw[A0h];have:=A3n n;have z:(256:Nat) ^ 8=18446744073709551616:=by decide
  rw[z];omega
 rw[d];have:=UQ n;unfold wrap64;omega
def Ir(n:Nat)(k:Nat):List Value:=E3 (GO n k)++List.replicate (8-k) (.int .u8 0)
def L7(w:World)(n:Int)(hn : -9223372036854775808<=n/\n<=9223372036854775807):
 Af 239 #[A0 n] w (Aj (.string ⟨(AS n).toArray⟩) λw'=>A3 Ab w w'):=by
 obtain⟨n1,n2⟩:=hn;have eu:IntKind.u64.wrap n=(ES n:Int):=by rw[IntKind.wrap_u64];exact UQ n
 go_enter func239,ntmps239
 go_wp2;go_loopw [5] (λi wr=>∃k:Nat,k<=8/\i=A0 k/\Hid (A3 Ab w wr)/\Hid (wr.heap[w.heap.size]?=some (.cells (Ir (ES n) k).toArray 318 (0,0)))) (λi _=>8-(intOf i).toNat)
 case atStart=>exact⟨0,Cq _,rfl,(A3.I _ _).ai _,by unfold Hid;show (w.heap.push _)[w.heap.size]?=_;rw[IB];rfl⟩
 case round=>
  obtain⟨k,hk,rfl,W,H⟩:=hrel;by_cases hlt:k<8
  ·(have hfz:wr.frozen? (Ac w.heap.size k)=false:=by have:=H.o;simp[World.frozen?,this]);have hce:wr.cell? (Ac w.heap.size k)=some (.int .u8 0):=by
    have:=H.o;have L:(Ir (ES n) k)[k]?=some (.int .u8 0):=by
     (have Y:(E3 (GO (ES n) k)).length=k:=by simp[E3,GO]);unfold Ir;rw[Hx (by omega),Y,List.getElem?_replicate];simp;omega
    simp[World.cell?,this,L]
   have d:=A1 (Ct (o:=k) (v:=.int .u8 (ES n/2 ^ (8*k) % 256:Nat)) H.o);have E:Hid (A3 Ab w (wr.sC w.heap.size k (.int .u8 (ES n/2 ^ (8*k) % 256:Nat)))):=A3.bq W.o (by simp) _;have I:Hid ((Ir (ES n) k).toArray.setIfInBounds k (.int .u8 (ES n/2 ^ (8*k) % 256:Nat))=(Ir (ES n) (k+1)).toArray):=by
    unfold Hid;rcases(show k=0\/k=1\/k=2\/k=3\/k=4\/k=5\/k=6\/k=7 by omega) with rfl|rfl|rfl|rfl|rfl|rfl|rfl|rfl<;>simp[Ir,E3,GO,List.range_succ,List.replicate]
   (have e1:(ES n:Int)/2 ^ (8*k) % 256=((ES n/2 ^ (8*k) % 256:Nat):Int):=by push_cast;rfl);unfold Hid at d;rw[I.o]at d;have h:=A1 d;generalize hq:ES n/2 ^ (8*k) % 256=q at h E e1;go_wp2;exact⟨⟨k+1,by omega,by go_num,E,h⟩,by simp[intOf];omega⟩
  ·(obtain rfl:k=8:=by omega);have cv:(convert 127 9 (AM w.heap.size 8 8)).run Tryz.prog wr=.ok (.string ⟨(AS n).toArray⟩) wr:=by
    have L:=CP n
    have:=O2 (P:=Tryz.prog) wr 127 9 5 (Ac w.heap.size 0) 8 (AS n) underlying127 underlying5 underlying9 (by
     intro j hj;(have z:((Ac w.heap.size 0):Addr).add j=(Ac w.heap.size j):=by unfold Addr.add;split<;>simp_all);rw[z];have O:=H.o;(have h3:(Ir (ES n) 8)=E3 (AS n):=by simp[Ir,AS]);rw[h3]at O
     simp[World.cell?,O,E3,List.getElem?_eq_getElem hj])
    rw[L]at this;exact this
   go_wp2;go_ret;exact⟨rfl,W.o⟩
def Cd(s:Nat):List UInt8:=(AS s).take 4
def Hh(s:Nat):(Cd s).length=4:=by simp[Cd,CP]
def Xc(w:World)(s:Nat)(hs:s<4294967296):
 Af 250 #[.int .u32 s] w (Aj (.string ⟨(Cd s).toArray⟩) λw'=>A3 Ab w w'):=by
 have h : -9223372036854775808<=(s:Int)/\(s:Int)<=9223372036854775807:=by omega
 have hl:=CP s
 go_enter func250,ntmps250
 go_wp2_with (go_at_call 239;refine(L7 _ _ h).mono ?_;rintro e w'⟨rfl,d⟩);go_ret;exact⟨by rw[extract_mk];simp[Cd],d⟩
end
section
open Go
section
variable {P:Program} {Q:Exit->Act->World->Prop}
def QF(y:Nat->Value)(i:Nat)(v:Value):Nat->Value:=λj=>if j=i then v else y j
def Gk(o:Oper):List Nat:=(o.after.toList.filter (Region.binds .any)).map (·.on)
def Fe(G:Nat->Value->World->Prop)(y:Nat->Value)(w:World):List Nat->Prop
 | []=>True
 | j::r=>G j (y j) w/\Fe G y w r
def Fe.of{G:Nat->Value->World->Prop}{y:Nat->Value}{w:World}:∀(l:List Nat),(∀j∈l,G j (y j) w)->Fe G y w l
 | [],_=>trivial
 | j::r,h=>⟨h j (by simp),Fe.of r λk d=>h k (by simp[d])⟩
def VR(P:Program)(ops:Array Oper)(A:(Nat->Value)->Act)(S:World->Prop)(R:World->World->Prop)(G:Nat->Value->World->Prop)(Q:Exit->Act->World->Prop)(i:Nat)(o:Oper):Prop:=
 (∀y w,S w->Fe G y w (Gk o)->Region.wanted o (yielded ops (A y).tmps)=true->∀K:Act->World->Prop,(∀v a' w',G i v w'->a'=(A y).put o.dst v->R w w'->S w'->K a' w')->o.wp P (A y) w K Q)/\
 (∀y w,S w->Fe G y w (Gk o)->Region.wanted o (yielded ops (A y).tmps)=false->G i undef w)/\
 (∀y v,(A y).put o.dst v=A (QF y i v))
def FO(P:Program)(ops:Array Oper)(A:(Nat->Value)->Act)(S:World->Prop)(R:World->World->Prop)(G:Nat->Value->World->Prop)(Q:Exit->Act->World->Prop):Nat->List Oper->Prop
 | _,[]=>True
 | i,o::r=>VR P ops A S R G Q i o/\FO P ops A S R G Q (i+1) r
def FO.eK{ops:Array Oper}{A:(Nat->Value)->Act}{S:World->Prop}{R:World->World->Prop}{G:Nat->Value->World->Prop}:∀ {k:Nat} {l:List Oper},FO P ops A S R G Q k l->∀(i:Nat) (o:Oper),l[i]?=some o->VR P ops A S R G Q (k+i) o
 | _,[],_,i,o,h=>by simp at h
 | k,o'::r,hh,0,o,h=>by
  have:o'=o:=by simpa using h
  subst this;exact hh.1
 | k,o'::r,hh,i+1,o,h=>by
  have:=FO.eK hh.2 i o (by simpa using h)
  rwa [show k+1+i=k+(i+1) by omega]at this
def Gl(listed:Array Bool):Nat->Nat
 | 0=>0
 | k+1=>Gl listed k+(if listed.getD k true then 0 else 1)
def UC(listed:Array Bool)(i:Nat):∀n,n<=i->Gl (listed.setIfInBounds i true) n=Gl listed n
 | 0,_=>rfl
 | n+1,h=>by
  unfold Gl;rw[UC listed i n (by omega),Mw true (by omega)]
def UA(listed:Array Bool)(i:Nat)(E:listed.getD i true=false):∀n,i<n->Gl listed n=Gl (listed.setIfInBounds i true) n+1
 | 0,h=>by omega
 | n+1,h=>by
  unfold Gl;by_cases d:i=n
  ·subst d;have H:i<listed.size:=by
    rcases F9 i listed.size with z | z
    ·exact z
    ·simp[Array.getElem?_eq_none z]at E
   rw[UC listed i i (As _),E];simp[H]
  ·rw[UA listed i E n (by omega),Mw true d];omega
def Uy(listed:Array Bool):∀n,Gl listed n=0->∀j,j<n->listed.getD j true=true
 | 0,_,j,h=>by omega
 | n+1,h,j,hj=>by
  unfold Gl at h;rcases F9 j n with d | d
  ·exact Uy listed n (by omega) j d
  ·(obtain rfl:j=n:=by omega);cases hg:listed.getD j true with
   | true=>rfl
   | false=>rw[hg]at h;simp at h
def UB(listed:Array Bool):∀n,Gl listed n≠0->∃j,j<n/\listed.getD j true=false
 | 0,h=>absurd rfl h
 | n+1,h=>by
  cases hg:listed.getD n true with
  | false=>exact⟨n,by omega,hg⟩
  | true=>
   unfold Gl at h;rw[hg]at h;obtain⟨j,hj,d⟩:=UB listed n (by simpa using h);exact⟨j,by omega,d⟩
def Uz(m:Nat):∀n,n<=m->Gl (Array.replicate m false) n=n
 | 0,_=>rfl
 | n+1,h=>by
  unfold Gl;rw[Uz m n (by omega)];have d:n<m:=by omega
  have:(Array.replicate m false).getD n true=false:=by simp[d]
  rw[this];simp
def ME(ops:Array Oper)(n:Nat):Bool:=
 decide (n<ops.size)&&Region.sinkB .any ops n&&Region.chainB .any ops n &&
  ((List.range n).all λi=>((ops[i]?).map λo=>o.after.all λe=>!Region.binds .any e||decide (e.on<i)).getD false) &&
  Region.seqB .any ops (ops.size-n) n (List.replicate n true++List.replicate (ops.size-n) false).toArray
def Yy{ops:Array Oper}{n:Nat}{listed:Array Bool}(H:HeadInv .any ops n listed)(hn:n<ops.size)(d:((List.range n).all λi=>((ops[i]?).map λo=>o.after.all λe=>!Region.binds .any e||decide (e.on<i)).getD false)=true):
 ∀(i:Nat),i<n->listed.getD i true=false->∃k,k∈Region.ready .any ops listed:=by
 intro i
 induction i using Nat.strongRecOn with
 | _ i ih=>
  intro hi L;have z:ops[i]?=some (ops[i]'(by omega)):=A4E (by omega);obtain⟨o,z⟩:∃o,ops[i]?=some o:=⟨_,z⟩;by_cases hall:∀e∈o.after,Region.binds .any e=true->listed.getD e.on false=true
  ·exact⟨i,Ie.2 ⟨L,o,z,hall⟩⟩
  ·simp only[Classical.not_forall]at hall;obtain⟨e,he,W,E⟩:=hall;have I:=(Nn.1 d) i (Kg.2 hi);rw[z]at I;simp only[HM,Option.getD_some,A4G]at I;have O:=I e he;rw[W]at O;(have Y:e.on<i:=by simpa using O);refine ih e.on Y (by omega) (getD_in (by rw[H.size];omega) ?_);cases h:listed.getD e.on false with
   | true=>exact absurd h E
   | false=>rfl
def A1Z{l:List Oper}{n:Nat}{A:(Nat->Value)->Act}{S:World->Prop}{R:World->World->Prop}{G:Nat->Value->World->Prop}(hB:ME l.toArray n=true)(aN:FO P l.toArray A S R G Q 0 (l.take n))(aL:∀j v w w',R w w'->S w'->G j v w->G j v w')(aH:∀y w,S w->(∀j,j<n->G j (y j) w)->wpList P l.toArray Q (l.drop n) (A y) w):
 ∀(f:Nat) (listed:Array Bool) (y:Nat->Value) (w:World),HeadInv .any l.toArray n listed->Gl listed n=f->S w->(∀j,j<n->listed.getD j false=true->G j (y j) w)->
  wpAny P .any l.toArray Q (f+(l.toArray.size-n)) listed (A y) w:=by
 simp only[ME,FE,Dn]at hB;obtain⟨⟨⟨⟨hn,hs⟩,hc⟩,aA⟩,aG⟩:=hB;intro f
 induction f with
 | zero=>
  intro listed y w d Y hS hG;have hall:=Uy listed n Y;have aO:=d.size;have z:∀j,j<n->listed.getD j false=true:=λj I=>by
   have L:=hall j I;(have h2:j<listed.size:=by omega);simp[h2]at L ⊢;exact L
  have hL:listed=(List.replicate n true++List.replicate (l.toArray.size-n) false).toArray:=by
   refine Array.ext (by (simp[aO];have:n<l.length:=by simpa using hn);omega) λi L h2=>?_;rcases F9 i n with h|h
   ·have:=z i h;simp[L]at this;simp[this,h]
   ·have:=d.tail i h (by omega);simp[L]at this;simp[this,List.getElem_append,Nat.not_lt.2 h]
  rw[GH];have aK:(l.drop n).length=l.toArray.size-n:=by simp
  have:=Qn (P:=P) (md:=.any) (ops:=l.toArray) (Q':=Q) (l.drop n) n listed (A y) w (λj=>by simp[List.getElem?_drop]) (by rw[aK,hL];exact aG) (aH y w hS λj I=>hG j I (z j I))
  rwa [aK]at this
 | succ f ih=>
  intro listed y w d Y hS hG;obtain⟨i0,aI,aB⟩:=UB listed n (by omega);have aE:f+1+(l.toArray.size-n)=(f+(l.toArray.size-n))+1:=by omega
  rw[aE];refine⟨λh0=>?_,λi hi=>?_⟩
  ·obtain⟨k,hk⟩:=Yy d hn aA i0 aI aB;rw[h0]at hk;cases hk
  ·have O:i<n:=by
    rcases F9 i n with h|h
    ·exact h
    ·exact absurd hi (LY hs hc hn d _ i0 rfl aI aB i h)
   obtain⟨aP,o,ho,hall⟩:=Ie.1 hi;have aM:(l.take n)[i]?=some o:=by
    rw[List.getElem?_take_of_lt O];simpa using ho
   have L:=(Nn.1 aA) i (Kg.2 O);rw[ho]at L;simp only[HM,Option.getD_some,A4G]at L;have ob:=aN.eK i o aM;rw[GH]at ob;have H:Fe G y w (Gk o):=by
    refine Fe.of _ λj I=>?_;unfold Gk at I;rw[Cr]at I;obtain⟨e,he,rfl⟩:=I;rw[GX]at he;(have aJ:e∈o.after:=by simpa using he.1);have h2:=L e aJ;rw[he.2]at h2;(have h3:e.on<i:=by simpa using h2);exact hG e.on (by omega) (hall e aJ he.2)
   have E:∀v w',S w'->(R w w'\/w'=w)->G i v w'->wpAny P .any l.toArray Q (f+(l.toArray.size-n)) (listed.setIfInBounds i true) ((A y).put o.dst v) w':=by
    intro v w' W hR aF;rw[ob.2.2 y v];refine ih _ _ _ (d.set hi O) (by have:=UA listed i aP n O;omega) W λj I hl=>?_;unfold QF;by_cases aD:j=i
    ·subst aD;simpa using aF
    ·rw[Ae aD];rw[Mw false (PT aD)]at hl;rcases hR with hR|rfl
     ·exact aL j _ w w' hR W (hG j I hl)
     ·exact hG j I hl
   unfold wpOp;simp only[ho];split
   ·rename_i hw;exact .inl (ob.1 y w hS H hw _ λv a' w' aF aQ hR W=>aQ ▸ E v w' W (.inl hR) aF)
   ·rename_i hw;exact E _ w hS (.inr rfl) (ob.2.1 y w hS H (by simpa using hw))
def Hf{id:Nat}{a:Act}{w:World}{l:List Oper}(n:Nat)(A:(Nat->Value)->Act)(O:Nat->Value)(S:World->Prop)(R:World->World->Prop)(G:Nat->Value->World->Prop)(Y:P.follows .mixedOrders=true)(L:ME l.toArray n=true)(ha:a=A O)(hS:S w.drew)(E:∀j v w w',R w w'->S w'->G j v w->G j v w')(I:FO P l.toArray A S R G Q 0 (l.take n))(d:∀y w,S w->(∀j,j<n->G j (y j) w)->wpList P l.toArray Q (l.drop n) (A y) w):(Code.region id l.toArray true).wp P Q a w:=by
 have hn:n<l.toArray.size:=by
  simp only[ME,FE,Dn]at L;exact L.1.1.1.1
 refine Qm Y ?_;have h:HeadInv .any l.toArray n (Array.replicate l.toArray.size false):=
  ⟨by simp,λj oj _ z=>(by rw[JS]at z;cases z),λt _ W=>getD_in (by simpa using W) (JS _ _)⟩
 have H:=A1Z L I E d n _ O w.drew h (Uz _ n (by omega)) hS (λj _ z=>by rw[JS]at z;cases z);rw[show n+(l.toArray.size-n)=l.toArray.size by omega]at H;rw[ha];exact H
end
end
section
open Go.RowKit
def Bb(s t v:Int):List UInt8:=UInt8.ofNat (s % 256).toNat::(AS t++AS v)
def S8(w:World)(s t v:Int)(hs:0<=s/\s<256)(ht : -9223372036854775808<=t/\t<=9223372036854775807)(hv : -9223372036854775808<=v/\v<=9223372036854775807):
 Af 195 #[.agg #[A0 s,A0 t,A0 v]] w (Aj (.string ⟨(Bb s t v).toArray⟩) λw'=>A3 Ab w w'):=by
 go_enter func195,ntmps195
 go_wp2;refine Hf 15 (λy=>{tmps:=#[.agg #[A0 s,A0 t,A0 v],A5 w.heap.size,.string ⟨#[]⟩,y 0,y 1,y 2,y 3,y 4,y 5,y 6,y 7,y 8,y 9,y 10,y 11,y 12,y 13,y 14],defers:=[]}) (λ_=>undef)
  (λw'=>w'.heap[w.heap.size]?=some (.cells #[A0 s,A0 t,A0 v] 113 (0,0))/\A3 Ab w w') (A3 Ab)
  (λj x w'=>match j with
   | 0=>x=(A5 w.heap.size)
   | 1=>x=A0 s
   | 2=>x=.int .u8 s
   | 3=>∃g e,x=AM g 1 1/\w'.heap[g]?=some (.cells #[.int .u8 s] e (0,0))
   | 4=>x=.string ⟨#[UInt8.ofNat (s % 256).toNat]⟩
   | 5=>x=.pointer (some (Ac w.heap.size 1))
   | 6=>x=.pointer (some (Ac w.heap.size 1))
   | 7=>x=A0 t
   | 8=>x=.string ⟨(AS t).toArray⟩
   | 9=>x=.string ⟨(UInt8.ofNat (s % 256).toNat::AS t).toArray⟩
   | 10=>x=.pointer (some (Ac w.heap.size 1))
   | 11=>x=.pointer (some (Ac w.heap.size 2))
   | 12=>x=A0 v
   | 13=>x=.string ⟨(AS v).toArray⟩
   | 14=>x=.string ⟨(Bb s t v).toArray⟩
   | _=>True)
  (by kernel_rfl) (by kernel_rfl) rfl ?_ ?_ ?_ ?_
 ·exact⟨(by show (w.heap.push _)[w.heap.size]?=_;rw[IB]),((A3.I _ _).ai _).af⟩
 ·intro j x w1 w2 hR hS' Y;split at Y<;>first|exact Y|(obtain⟨g,e,h1,h2⟩:=Y;exact⟨g,e,h1,hR.aj h2 (by simp)⟩)
 ·simp only[Fa,EV,FO,HK]
  repeat' (with_reducible apply And.intro)
  all_goals refine⟨?_,(by intro y d _ _ h;exact Bool.noConfusion h),λy x=>rfl⟩
  all_goals
   intro y d hS H hw K hK;obtain⟨E,L⟩:=hS;simp[Gk,Region.binds,Fe,List.filter_cons]at H;(have hc0:A7 d w.heap.size 0 (A0 s):=by simp[A7,World.cell?,E]);(have hc1:A7 d w.heap.size 1 (A0 t):=by simp[A7,World.cell?,E]);(have hc2:A7 d w.heap.size 2 (A0 v):=by simp[A7,World.cell?,E]);(have hw8:IntKind.u8.wrap s=s:=by simp[IntKind.wrap,IntKind.bits,IntKind.signed];omega);have hlt:=CP t;have hlv:=CP v;have I:=A1 E;have z:=A1 L;have aA:=A1 hK;have ap1:(ByteArray.mk #[UInt8.ofNat (s % 256).toNat])++(ByteArray.mk (AS t).toArray)=⟨(UInt8.ofNat (s % 256).toNat::AS t).toArray⟩:=K5 [_] _;have ap2:(ByteArray.mk (UInt8.ofNat (s % 256).toNat::AS t).toArray)++(ByteArray.mk (AS v).toArray)=⟨(Bb s t v).toArray⟩:=K5 _ _
   try
    (have aB:∃g,y 3=AM g 1 1/\∃e,d.heap[g]?=some (.cells #[.int .u8 s] e (0,0)):=by with_reducible exact H);obtain⟨g,H,e,hg⟩:=aB;(have aF:A7 d g 0 (.int .u8 s):=by simp[A7,World.cell?,hg])
    have cv:(convert 127 9 (AM g 1 1)).run Tryz.prog d=.ok (.string ⟨#[UInt8.ofNat (s % 256).toNat]⟩) d:=O2 (P:=Tryz.prog) d 127 9 5 (Ac g 0) 1 [UInt8.ofNat (s % 256).toNat] underlying127 underlying5 underlying9 (by
     intro j hj;(have aE:j=0:=by simpa using hj);subst aE;(have W:((Ac g 0):Addr).add 0=(Ac g 0):=by unfold Addr.add;split<;>simp_all);(have aD:((UInt8.ofNat (s % 256).toNat).toNat:Int)=s:=by simp;omega);rw[W,aF]
     simp only[Ki,aD])
  all_goals dsimp only
  all_goals try go_simp
  all_goals try with_reducible exact aA.o _ _ _ rfl (by simp[Act.put,H]) (A3.I _ _) ⟨I.o,z.o⟩
  all_goals try
   (have hd7:y 7=A0 t:=by with_reducible exact H);refine(L7 d t ht).mono ?_;rintro e w2⟨rfl,O⟩;exact aA.o _ _ _ rfl (by simp[Act.put,H]) O ⟨O.aj I.o (by simp),z.o.Aw O (by simp)⟩
  all_goals try
   (have hd12:y 12=A0 v:=by with_reducible exact H.1);refine(L7 d v hv).mono ?_;rintro e w2⟨rfl,O⟩;exact aA.o _ _ _ rfl (by simp[Act.put,H]) O ⟨O.aj I.o (by simp),z.o.Aw O (by simp)⟩
  ·exact aA.o _ _ _ ⟨d.heap.size,_,rfl,(by show (d.heap.push _)[d.heap.size]?=_;rw[IB])⟩ (by simp[Act.put,H]) ((A3.I _ _).ai _) ⟨((A3.I Ab d).ai _).aj I.o (by simp),z.o.ai _⟩
 ·intro y d hS Y;obtain⟨E,L⟩:=hS;have h14:y 14=.string ⟨(Bb s t v).toArray⟩:=Y 14 (by omega);have z:=A1 L;go_wp2;go_ret;exact⟨rfl,z.o⟩
end
end Go.Proofs.YtodcnkbblippnaaGreatDoor
