/- Part 1 of a proof: walks of the program. -/
import Derived.Below
import Derived.Calls
import Derived.Conc.MuLone
import Derived.Deep.AppendSrc
import Derived.Deep.RegionHeld
import Derived.Defers
import Derived.FnData
import Derived.Laws.Append
import Derived.Laws.AppendOwn
import Derived.Laws.BitsLemmas
import Derived.Laws.Entries
import Derived.Laws.Externs
import Derived.Laws.IdiomStrings
import Derived.Laws.Rows
import Derived.Laws.Tables
import Derived.Laws.World
import Derived.Lib.Builder
import Derived.Lib.ItoaNum
import Derived.Lib.Strings
import Derived.LoopN
import Derived.OneCell
import Derived.Orders
import Derived.OwnWalk
import Derived.Still
import Derived.StillTail
import Derived.Tactics
import Derived.WideShapes
import Derived.Test.YtodcnkbblippnabGreatDoorRows
import Derived.WalkKit
import Derived.WalkSpells
import Derived.WalkLawsBesides
import Derived.Deep.AppendLies
import Derived.Deep.RegionHeld3
import Derived.Deep.LoopGhost
import Derived.Deep.DrawnRows
namespace Go.Proofs.YtodcnkbblippnabGreatDoor
set_option maxRecDepth 100000
set_option maxHeartbeats 32000000
set_option linter.defProp false
open Go.Proofs.Tryz
section
open Go.RowKit
def Ae:=@if_neg
def Ah:=@if_pos
def Aq:=@Nat.le_refl
def AH:=@Nat.le_trans
def AU:=@List.mem_append
def AX:=@List.length_append
def Bm:=@Nat.lt_of_lt_of_le
def Bn:=@List.mem_cons_of_mem
def Bo:=@Go.lt_of_block
def Bp:=@List.mem_cons_self
def BF:=@List.mem_cons
def BM:=@List.length_cons
def BN:=@Go.heap_alloc_new
def BS:=@List.getElem_mem
def BU:=@List.length_take
def C4:=@if_false
def C6:=@List.append_assoc
def C8:=@Nat.zero_le
def C9:=@List.mem_map
def Cj:=@List.take_length
def Cn:=@if_true
def CJ:=@decide_eq_true
def CL:=@Go.World.ownsRow_nil
def CM:=@List.length_drop
def CU:=@Go.RowKit.Below.heap_alloc
def Di:=@List.pairwise_cons
def Dj:=@List.drop_zero
def Dp:=@Go.World.cell?_of_block
def Dw:=@decide_eq_false
def Dz:=@List.take_succ_eq_append_getElem
def DA:=@List.drop_succ_cons
def DD:=@List.mem_map_of_mem
def DK:=@List.take_append_drop
def DT:=@decide_eq_true_eq
def E5:=@congrArg
def Eb:=@Go.info_parts
def Ed:=@List.map_append
def Ee:=@List.getElem_of_mem
def Ef:=@List.getElem?_eq_getElem
def Eu:=@List.pairwise_append
def Ez:=@List.take_of_length_le
def EA:=@Int.toNat_natCast
def EL:=@List.take_zero
def ES:=@Nat.le_of_lt
def EU:=@List.take_succ_cons
def EW:=@Int.ofNat_lt
def F6:=@Nat.lt_or_ge
def F7:=@List.nil_append
def F8:=@List.map_cons
def F9:=@List.getElem_append_left
def Fa:=@List.filter_cons
def Fb:=@List.cons_append
def Fx:=@List.mem_append_left
def Fy:=@List.drop_eq_getElem_cons
def Fz:=@List.append_nil
def G4:=@List.length_eq_zero_iff
def G8:=@Go.rounds_succ
def Gj:=@Nat.lt_irrefl
def Gk:=@List.length_nil
def Gl:=@List.getElem_append_right
def Gm:=@List.drop_length
def Gn:=@Int.natCast_nonneg
def Gp:=@Bool.and_eq_true
def GC:=@Nat.zero_add
def GD:=@List.nodup_append
def GF:=@List.mem_filter
def GG:=@List.filter_sublist
def GW:=@List.take_append_of_le_length
def GX:=@List.mem_append_right
def GY:=@Go.RowKit.Below.heap_setCell
def H7:=@Go.World.block_lt_of_cell?
def H9:=@List.length_map
def Ha:=@Int.le_refl
def Hn:=@beq_eq_false_iff_ne
def Hq:=@Nat.add_mul
def Hr:=@List.mem_singleton
def Hs:=@List.getElem?_eq_some_iff
def Ht:=@List.getElem?_append_right
def HJ:=@and_true
def HL:=@Option.map_some
def HM:=@Nat.mul_le_mul_right
def HN:=@Nat.mul_le_mul
def HQ:=@List.mem_filterMap
def HR:=@List.getD_eq_getElem?_getD
def HS:=@List.flatten_cons
def I5:=@Go.run_underlying
def Ib:=@Go.mem_ready
def It:=@Nat.le_succ
def Iu:=@Nat.le_of_not_lt
def Iv:=@List.mem_of_mem_take
def Iw:=@List.getElem?_append_left
def Iy:=@List.filter_cons_of_pos
def IA:=@Array.getElem?_push_size
def IB:=@Go.wp_loop_rounds
def J8:=@List.nodup_cons
def J9:=@List.length_set
def Ja:=@List.length_pos_iff
def Jb:=@List.getElem?_drop
def Jc:=@List.cons_lt_cons_iff
def Jf:=@Go.IntKind.wrap_i64
def Jg:=@Int.add_sub_cancel
def Jh:=@Array.length_toList
def Ji:=@Go.wp_region_still_tail
def Jj:=@Go.wpStill_nil
def Jr:=@Go.setRow_other
def JC:=@ne_eq
def JN:=@Go.getD_replicate_false
def JY:=@Go.World.drew_eq
def K0:=@Nat.pow_succ
def K1:=@Nat.le_antisymm
def K3:=@Nat.add_lt_add_left
def K4:=@List.take_take
def K5:=@List.take_left
def K6:=@List.sum_cons
def K7:=@List.set_append_right
def K8:=@List.mem_range
def K9:=@List.map_congr_left
def Ka:=@List.getLastD_eq_getLast?
def Kb:=@List.getElem_cons_zero
def Kc:=@List.flatMap_cons
def Kd:=@List.filter_cons_of_neg
def Ke:=@List.drop_of_length_le
def Kf:=@Go.Lib.toList_data
def Kg:=@Int.lt_or_le
def Kj:=@Go.wpOp_mono
def Kr:=@Go.setRow_heap
def Kx:=@Go.ready_mono
def KE:=@of_decide_eq_true
def KV:=@decide_eq_decide
def L4:=@Go.World.cell?_alloc_some
def L9:=@Go.Src.ofSlice
def Lb:=@Nat.mul_comm
def Lc:=@Nat.add_le_add_left
def Ld:=@Nat.add_assoc
def Le:=@List.size_toArray
def Lf:=@List.pairwise_map
def Lg:=@List.pairwise_iff_getElem
def Lh:=@List.mem_of_mem_drop
def Li:=@List.mem_of_getElem?
def Lj:=@List.lt_irrefl
def Lk:=@List.eq_nil_or_concat
def Ll:=@List.drop_append_of_le_length
def Lm:=@List.drop_append
def Ln:=@List.dropLast_concat_getLast
def Lo:=@Int.lt_irrefl
def Lp:=@Int.le_trans
def Lq:=@Int.eq_ofNat_of_zero_le
def Lr:=@Int.emod_nonneg
def Lx:=@Go.MuLone.unlock_deferred
def LA:=@Go.tail_waits
def LZ:=@Go.MuLone.lock_free
def M1:=@Go.leaves_cons
def Mf:=@Go.getD_set_ne
def Mj:=@eq_false
def Mx:=@Go.bodyPost_ret
def MF:=@Go.World.size_alloc
def MH:=@Go.Src.ofString
def MJ:=@Option.some.inj
def ML:=@Nat.zero_lt_one
def MM:=@Nat.succ_mul
def MN:=@Nat.min_eq_left
def MO:=@Nat.lt_of_lt_of_eq
def MP:=@List.pairwise_singleton
def MQ:=@List.map_map
def MR:=@List.length_filter_le
def MS:=@List.getElem?_eq_none
def MT:=@List.foldl_append
def MU:=@List.filter_append
def MV:=@List.eq_nil_of_length_eq_zero
def MW:=@List.drop_eq_nil_of_le
def MX:=@List.all_eq_true
def MY:=@List.Nodup.sublist
def N1:=@Int.zero_add
def N2:=@Bool.true_and
def N3:=@Go.RowKit.Below.refl
def N4:=@Array.getElem?_eq_none
def Ns:=@Go.run_convert_bytes_back
def NM:=@Go.ownsRow_setCell_other
def NY:=@not_false_eq_true
def OK:=@dif_neg
def OL:=@decide_true
def P3:=@Go.World.cell?_setCell_other
def P6:=@Prod.mk.inj
def P7:=@Option.ne_none_iff_exists'
def P9:=@Ne.symm
def Pa:=@Nat.succ_le_succ
def Pb:=@Nat.not_lt_zero
def Pc:=@Nat.not_lt
def Pd:=@Nat.mul_one
def Pe:=@Nat.mul_assoc
def Pf:=@Nat.le_succ_of_le
def Pg:=@Nat.add_zero
def Ph:=@List.takeWhile_cons
def Pj:=@List.mem_flatten
def Pk:=@List.length_singleton
def Pm:=@List.getElem_cons_succ
def Pn:=@List.getElem?_take
def Po:=@List.getElem?_map
def Pp:=@List.foldl_cons
def Pq:=@List.cons.inj
def Pr:=@List.any_eq_true
def Ps:=@Go.Lib.nDigits_small
def Pv:=@Go.Lib.decDigits_length
def Pw:=@Go.Lib.cell_of_heap
def Px:=@Int.toNat_of_nonneg
def Py:=@Int.ofNat_le
def Pz:=@Int.not_lt
def PA:=@Int.neg_tmod
def PC:=@Int.emod_lt_of_pos
def PE:=@Decidable.em
def PF:=@Decidable.byContradiction
def PG:=@Bool.false_eq_true
def PK:=@Array.toList_append
def PQ:=@Go.wp_region_any
def PR:=@Go.wpAny_of_seq
def QE:=@Go.seqB_ready
def QR:=@Go.run_firstCells_some
def QY:=@Go.results_tmp
def QZ:=@Go.results_none
def Sy:=@ne_of_beq_false
def Um:=@beq_self_eq_true
def UH:=@Go.World.var?_cell
def UI:=@Go.World.cell?_setCell_far
def UK:=@Go.Region.noSelect_spec
def UL:=@Go.Region.free_spec
def UQ:=@Option.or_none
def UR:=@Go.Oper.upon_value
def UT:=@Nat.xor_lt_two_pow
def UU:=@Nat.sub_self
def UW:=@Nat.one_mul
def UX:=@Nat.min_def
def UY:=@Nat.lt_trichotomy
def UZ:=@Nat.lt_succ_self
def V0:=@Nat.le_add_right
def V3:=@List.set_cons_succ
def V4:=@List.replicate_succ
def V5:=@List.mem_erase_of_ne
def V6:=@List.length_range
def V7:=@List.length_mergeSort
def V8:=@List.length_eq_one_iff
def V9:=@List.length_dropLast
def Va:=@List.drop_left'
def Vb:=@List.drop_left
def Vc:=@List.dropLast_subset
def Vd:=@List.concat_eq_append
def Ve:=@List.append_cancel_left
def Vf:=@Go.Lib.nDigits_big
def Vg:=@Int.tmod_lt_of_pos
def Vh:=@Int.mul_le_mul_of_nonneg_left
def Vk:=@Bool.false_and
def Vl:=@Bool.eq_iff_iff
def Vm:=@Array.setIfInBounds_comm
def Xm:=@Go.run_callFunc_extern
def A09:=@decide_eq_false_iff_not
def A2F:=@Go.WideShapes.bytes_inj
def A2G:=@Option.map_eq_some_iff
def A2I:=@Nat.pow_le_pow_right
def A2J:=@Nat.lt_succ_of_lt
def A2K:=@Nat.le_of_lt_succ
def A2L:=@Nat.eq_zero_or_pos
def A2M:=@Nat.div_le_div_right
def A2N:=@Nat.add_sub_cancel_left
def A2O:=@Nat.add_sub_cancel
def A2Q:=@List.sublist_flatten_of_mem
def A2R:=@List.pairwise_mergeSort
def A2S:=@List.not_mem_nil
def A2T:=@List.mergeSort_nil
def A2U:=@List.mem_of_find?_eq_some
def A2V:=@List.mem_mergeSort
def A2W:=@List.length_pos_of_mem
def A2X:=@List.length_erase_of_mem
def A2Y:=@List.getLast?_eq_some_getLast
def A2Z:=@List.getElem_take
def A20:=@List.getElem_set_ne
def A21:=@List.getElem?_cons_succ
def A22:=@List.flatMap_def
def A23:=@List.flatMap_append
def A24:=@List.find?_append
def A25:=@List.filter_filter
def A26:=@List.filter_eq_nil_iff
def A28:=@List.Sublist.refl
def A3a:=@Int.tmod_eq_emod_of_nonneg
def A3b:=@Int.mul_tdiv_add_tmod
def A3c:=@Classical.byContradiction
def A3d:=@ByteArray.data_extract
def A3e:=@Array.getElem?_setIfInBounds_ne
def A3f:=@Array.getElem?_eq_some_iff
def A3g:=@Array.getElem?_eq_getElem
def A3h:=@Array.all_eq_true_iff_forall_mem
abbrev A7(b:Nat):Value:=.pointer (some ⟨b,0,none⟩)
abbrev Ad(b o:Nat):Addr:=⟨b,o,none⟩
abbrev Aa(w:World)(b o:Nat)(v:Value):Prop:=w.cell? ⟨b,o,none⟩=some v
abbrev A0(n:Int):Value:=.int .i64 n
abbrev AN(b n c:Nat):Value:=.slice (some ⟨b,0,none⟩) n c
abbrev Ab:Nat->Prop:=λ_=>False
abbrev Aj:=Calls Tryz.prog
abbrev Au(v:Value)(Q:World->Prop)(e:Ending)(w:World):Prop:=e=.returned v/\Q w
abbrev _root_.Go.World.aC(w:World)(x:Array Value)(t:TypeId):World:=w.alloc (.cells x t)
abbrev _root_.Go.World.sC(w:World)(b o:Nat)(v:Value):World:=w.setCell ⟨b,o,none⟩ v
abbrev _root_.Go.Value.oB(v:Value)(b:Nat):Prop:=v.ownBlock=some b
def _root_.Go.RowKit.Hid.o{p:Prop}(h:Hid p):p:=h
def _root_.Go.RowKit.Hid.m{P:Program}{f:FuncId}{a:Array Value}{w:World}{R Q:Ending->World->Prop}(h:Hid (Calls P f a w R))(k:∀e w',R e w'->Q e w'):Calls P f a w Q:=Calls.mono h k
def _root_.Go.Calls.k{P:Program}{f:FuncId}{a:Array Value}{w:World}{v:Ending}{R:World->Prop}{Q:Ending->World->Prop}(h:Calls P f a w λe w'=>e=v/\R w')(H:∀w',R w'->Q v w'):Calls P f a w Q:=h.mono λe w' ⟨z,I⟩=>by subst z;exact H w' I
def _root_.Go.RowKit.Hid.k{P:Program}{f:FuncId}{a:Array Value}{w:World}{v:Ending}{R:World->Prop}{Q:Ending->World->Prop}(h:Hid (Calls P f a w λe w'=>e=v/\R w'))(H:∀w',R w'->Q v w'):Calls P f a w Q:=Calls.k h H
def GN{x:Int}(h : -9223372036854775808<=x/\x<=9223372036854775807):IntKind.i64.wrap x=x:=by simp[IntKind.wrap,IntKind.bits,IntKind.signed];omega
def Cd(k:Nat):(0:Int)<=(k:Int):=Gn _
def Gg{w:World}{b o:Nat}{x:Array Value}{t:TypeId}{f:Nat×Nat}{v:Value}(h:w.heap[b]?=some (.cells x t f))(k:x[o]?=some v:=by rfl):Aa w b o v:=by
 show w.cell? ⟨b,o,none⟩=some v;simp only[World.cell?,h];exact k
def BD:List Nat->List Nat->List (Nat×Bool)
 | [],_=>[]
 | i::r,x=>(i,!x.elem i):: BD r x
def BQ:(∀(a:Act) (v:Value) (d:Tmp),a.put (some d) v=⟨a.tmps.setIfInBounds d v,a.defers⟩)/\(∀(a:Act) (v:Value),a.put none v=a)/\(∀ {α:Type} {l:List α} {i:Nat} {a:α},l.toArray.setIfInBounds i a=(l.set i a).toArray)/\(∀ {α:Type} {x a:α} {xs:List α},(x::xs).set 0 a=a::xs)/\
 (∀ {α:Type} {x a:α} {xs:List α} {n:Nat},(x::xs).set (n+1) a=x::xs.set n a)/\(∀ {α:Type} {l:List α} {i:Nat} (h:i<l.toArray.size),l.toArray[i]=l[i]'(by simpa using h))/\(∀ {α:Type} {a:α} {l:List α} (h:0<(a::l).length),(a::l)[0]=a)/\
 (∀ {α:Type} {a:α} {l:List α} {i:Nat} (h:i+1<(a::l).length),(a::l)[i+1]=l[i]'(Nat.lt_of_succ_lt_succ h)):=
 ⟨λ_ _ _=>rfl,λ_ _=>rfl,List.setIfInBounds_toArray _ _ _,rfl,rfl,λ_=>rfl,λ_=>rfl,λ_=>rfl⟩
structure A5 (S:Nat->Prop) (w w':World):Prop where
 os:w'.os=w.os
 FR:w'.tape=w.tape
 FU:w'.output=w.output
 Am:w.heap.size<=w'.heap.size
 Ao:∀k,k<w.heap.size->¬S k->w'.heap[k]?=w.heap[k]?
def A5.C(S:Nat->Prop)(w:World):A5 S w w:=⟨rfl,rfl,rfl,Aq _,λ_ _ _=>rfl⟩
def A5.AJ{S S':Nat->Prop}{a b c:World}(h:A5 S a b)(k:A5 S' b c)(I:∀x,S' x->x<a.heap.size->S x):A5 S a c:=
 ⟨k.os.trans h.os,k.FR.trans h.FR,k.FU.trans h.FU,AH h.Am k.Am,λi z H=>
  (k.Ao i (Bm z h.Am) (λO=>H (I i O z))).trans (h.Ao i z H)⟩
def A5.ae{S S':Nat->Prop}{a b:World}(h:A5 S a b)(H:∀x,x<a.heap.size->S x->S' x):A5 S' a b:=
 ⟨h.os,h.FR,h.FU,h.Am,λk z O=>h.Ao k z (λI=>O (H k z I))⟩
def A5.aZ{S:Nat->Prop}{a b:World}(h:A5 Ab a b):A5 S a b:=h.ae λ_ _ h=>h.elim
def A5.b0{S:Nat->Prop}{a b c:World}(h:A5 S a b)(k:A5 Ab b c):A5 S a c:=h.AJ k λ_ h _=>h.elim
def A5.ad{S:Nat->Prop}{a w:World}(h:A5 S a w):A5 S a w.drew:=⟨h.os,h.FR,h.FU,h.Am,h.Ao⟩
def A5.bb{S:Nat->Prop}{a w:World}(h:A5 S a w)(n:Nat):A5 S a (w.drewN n):=⟨h.os,h.FR,h.FU,h.Am,h.Ao⟩
def A5.aj{S:Nat->Prop}{a w:World}(h:A5 S a w)(o:Obj):A5 S a (w.alloc o):=
 ⟨h.os,h.FR,h.FU,by have:=h.Am;simp;omega,λk z H=>(CU _ _ _ (Bm z h.Am)).trans (h.Ao k z H)⟩
def A5.tr{S:Nat->Prop}{a b c:World}(h:A5 S a b)(k:A5 S b c):A5 S a c:=h.AJ k λ_ h _=>h
def A5.aC{S:Nat->Prop}{a w:World}(h:A5 S a w)(x:Array Value)(t:TypeId):A5 S a (w.alloc (.cells x t)):=h.aj _
def A5.bn{S:Nat->Prop}{a w:World}(h:A5 S a w){p:Addr}(I:p.block<a.heap.size->S p.block)(u:Value):A5 S a (w.setCell p u):=
 ⟨h.os,h.FR,h.FU,by simpa using h.Am,λk z H=>(GY _ _ _ _ (λe=>by subst e;exact H (I z))).trans (h.Ao k z H)⟩
def A5.Cp{S:Nat->Prop}{a w w':World}{row:Option Nat}(h:A5 S a w)(z:w.grownBy w' row)(O:∀k,row=some k->k<a.heap.size->S k):A5 S a w':=
 ⟨z.os.trans h.os,z.tape.trans h.FR,z.output.trans h.FU,AH h.Am z.size,λk H I=>
  (z.block k (Bm H h.Am) (λe=>I (O k e.symm H))).trans (h.Ao k H I)⟩
def A5.dB{S:Nat->Prop}{a b:World}{B:Nat}(h:A5 S a b)(H:B<=a.heap.size)(I:∀k,k<B->¬S k):Below B a b:=
 ⟨h.os,h.FR,h.FU,h.Am,λk z=>h.Ao k (Bm z H) (I k z)⟩
def A5.ak{S:Nat->Prop}{a b:World}(h:A5 S a b){k:Nat}{o:Obj}(z:a.heap[k]?=some o)(H:¬S k):b.heap[k]?=some o:=
 (h.Ao k (Bo z) H).trans z
def One(b:Nat):Nat->Prop:=λk=>k=b
def A5.ao{S:Nat->Prop}{a w:World}(h:A5 S a w){b:Nat}(z:S b)(o:Nat)(u:Value):A5 S a (w.setCell (Ad b o) u):=h.bn (p:=(Ad b o)) (λ_=>z) u
def A4{p:Prop}(h:p):Hid p:=h
def G3(S:Nat->Prop)(w w':World):Prop:=∀k,S k->w'.heap[k]?=w.heap[k]?
def G3.ae{S S':Nat->Prop}{w w':World}(h:G3 S w w')(H:∀k,S' k->S k):G3 S' w w':=λk z=>h k (H k z)
def A5.az{S T:Nat->Prop}{w w':World}(h:A5 S w w')(I:∀k,T k->k<w.heap.size)(H:∀k,T k->¬S k):G3 T w w':=λk z=>h.Ao k (I k z) (H k z)
def AA{w w':World}{z e size n:Nat}{v:Value}{xs:List Value}(h:w.ownsRow z e size v n xs)(X:∀g,v.ownBlock=some g->w'.heap[g]?=w.heap[g]?):w'.ownsRow z e size v n xs:=by
 refine⟨h.1,?_⟩;rcases h.2 with I|⟨g,cap,H,rfl,W,O,r⟩
 ·exact .inl I
 ·exact .inr ⟨g,cap,H,rfl,W,by rw[X g rfl];exact O,r⟩
def AG{w:World}{z e size n:Nat}{v:Value}{xs:List Value}(h:w.ownsRow z e size v n xs){g:Nat}(H:v.ownBlock=some g):g<w.heap.size:=(h.lt g H).2
def Bd{w:World}{H e size n:Nat}{v:Value}{xs:List Value}(h:w.ownsRow H e size v n xs){g:Nat}(I:v.ownBlock=some g):∃z,w.heap[g]?=some (.cells z e (0,0)):=by
 rcases h.2 with⟨rfl,_⟩|⟨g',cap,z,rfl,_,O,_⟩
 ·simp[Value.ownBlock]at I
 ·simp[Value.ownBlock]at I;subst I;exact⟨z,O⟩
def BB{w:World}{z e size n:Nat}{v:Value}{xs:List Value}(h:w.ownsRow z e size v n xs){g:Nat}(H:v.ownBlock=some g){j:Nat}{u:Value}(hu:xs[j]?=some u):Aa w g j u:=by
 have:=h.cells H j u hu;unfold Addr.add at this;split at this
 ·rename_i I;rw[I];exact this
 ·simpa using this
def Ga{w:World}{z e size n:Nat}{v:Value}{xs:List Value}(h:w.ownsRow z e size v n xs){g:Nat}(H:v.ownBlock=some g)(j:Nat):w.frozen? (Ad g j)=false:=by
 have⟨cur,hh⟩:=Bd h H;simp[World.frozen?,hh]
def Bb{w:World}{z e size n:Nat}{v:Value}{xs:List Value}(h:w.ownsRow z e size v n xs):
 ∃a cap,v=.slice a n cap/\n<=cap/\cap<=maxLen/\(0<n->∃g,a=some (Ad g 0))/\(a=none->n=0/\cap=0)/\(∀x,a=some x->∃g,x=(Ad g 0)):=by
 rcases h.2 with⟨rfl,O⟩|⟨g,cap,cur,rfl,_,hg,H,W,hs,_⟩
 ·exact⟨none,0,by rw[O],by omega,by decide,by omega,λ_=>⟨O,rfl⟩,λx I=>by cases I⟩
 ·exact⟨_,cap,rfl,H,W,λ_=>⟨g,rfl⟩,by simp,λx I=>⟨g,by cases I;rfl⟩⟩
def RT{w:World}{z e size n cap:Nat}{a:Option Addr}{xs:List Value}(h:w.ownsRow z e size (.slice a n cap) n xs){m:Nat}(hm:m<=n):w.ownsRow z e size (.slice a m cap) m (xs.take (m*size)):=by
 have W:m*size<=n*size:=HM _ hm;refine⟨by rw[BU,h.1];omega,?_⟩;rcases h.2 with⟨H,X⟩|⟨g,cap',O,H,hb,hg,hcap,I,hs,Y⟩
 ·subst X;cases H;obtain rfl:m=0:=by omega
  exact .inl ⟨rfl,rfl⟩
 ·cases H;exact .inr ⟨g,cap,O,rfl,hb,hg,by omega,I,hs,by rw[<-Y,K4,MN W]⟩
def OW(a b:ByteArray):(a.toList==b.toList)=true↔a=b:=by
 rw[beq_iff_eq,Kf,Kf];exact⟨λh=>A2F h,λh=>by rw[h]⟩
def Ug(a b:ByteArray):(a.toList==b.toList)=false↔a≠b:=by
 have:=OW a b;constructor
 ·intro h e;rw[this.2 e]at h;cases h
 ·intro h;cases hx:(a.toList==b.toList) with
  | false=>rfl
  | true=>exact absurd (this.1 hx) h
abbrev AI:=ByteArray×Nat
def BW:List AI->List Value
 | []=>[]
 | (n,f):: r=>.string n::(A7 f):: BW r
def A0Z(es:List AI):(BW es).length=es.length*2:=by
 induction es with
 | nil=>rfl
 | cons e r ih=>obtain⟨n,f⟩:=e;simp only[BW,BM,ih];omega
def KU(a b:List AI):BW (a++b)=BW a++BW b:=by
 induction a with
 | nil=>rfl
 | cons e r ih=>obtain⟨n,f⟩:=e;simp[BW,ih]
def A0Y(es:List AI)(k:Nat):(BW es).take (k*2)=BW (es.take k):=by
 induction es generalizing k with
 | nil=>simp[BW]
 | cons e r ih=>
  obtain⟨n,f⟩:=e
  match k with
  | 0=>simp[BW]
  | k+1=>rw[show (k+1)*2=k*2+1+1 from by omega];simp[BW,ih]
def A00(es:List AI)(k:Nat):(BW es).drop (k*2)=BW (es.drop k):=by
 induction es generalizing k with
 | nil=>simp[BW]
 | cons e r ih=>
  obtain⟨n,f⟩:=e
  match k with
  | 0=>simp[BW]
  | k+1=>rw[show (k+1)*2=k*2+1+1 from by omega];simp[BW,ih]
def OD(es:List AI)(k:Nat)(h:k<es.length):(BW es)[k*2]?=some (.string (es[k]'h).1):=by
 induction es generalizing k with
 | nil=>simp at h
 | cons e r ih=>
  obtain⟨n,f⟩:=e
  match k with
  | 0=>simp[BW]
  | k+1=>
   have:=ih k (by simpa using h);rw[show (k+1)*2=k*2+1+1 from by omega];simpa[BW] using this
def OB(es:List AI)(k:Nat)(h:k<es.length):(BW es)[k*2+1]?=some (A7 ((es[k]'h).2)):=by
 induction es generalizing k with
 | nil=>simp at h
 | cons e r ih=>
  obtain⟨n,f⟩:=e
  match k with
  | 0=>simp[BW]
  | k+1=>
   have:=ih k (by simpa using h);rw[show (k+1)*2+1=k*2+1+1+1 from by omega];simpa[BW] using this
def OC(es:List AI):∀u∈BW es,u.oneCell'=true:=by
 induction es with
 | nil=>simp[BW]
 | cons e r ih=>
  obtain⟨n,f⟩:=e;intro u hu;simp only[BW,BF]at hu;rcases hu with rfl|rfl|hu
  ·rfl
  ·rfl
  ·exact ih u hu
def CG(w:World)(v:Value)(es:List AI):Prop:=w.ownsRow 0 70 2 v es.length (BW es)
def CG.BV{w:World}{v:Value}{es:List AI}(h:CG w v es):
 ∃a cap,v=.slice a es.length cap/\es.length<=cap/\cap<=maxLen/\∀k (z:k<es.length),∃g,a=some (Ad g 0)/\Aa w g (k*2) (.string (es[k]'z).1)/\Aa w g (k*2+1) (A7 ((es[k]'z).2)):=by
 rcases Bb h with⟨a,cap,rfl,I,H,O,_,_⟩;refine⟨a,cap,rfl,I,H,λk z=>?_⟩;obtain⟨g,rfl⟩:=O (by omega);exact⟨g,rfl,BB h rfl (OD es k z),BB h rfl (OB es k z)⟩
def B4:List AI->ByteArray->Int
 | [],_=>-1
 | e::r,name=>if e.1=name then 0 else if B4 r name<0 then -1 else B4 r name+1
def A0U(es:List AI)(name:ByteArray)(k:Nat)(H:k<es.length)(h:(es[k]'H).1=name)(z:∀m (O:m<k),(es[m]'(by omega)).1≠name):B4 es name=k:=by
 induction es generalizing k with
 | nil=>simp at H
 | cons e r ih=>
  match k with
  | 0=>simp only[Kb]at h;simp[B4,h]
  | k+1=>
   have I:=z 0 (by omega);simp only[Kb]at I;have:=ih k (by simpa using H) (by simpa using h) (λm O=>by simpa using z (m+1) (by omega));simp only[B4,I,C4,this];rw[Ae (by omega)];omega
def A0S(es:List AI)(name:ByteArray)(h:∀m (z:m<es.length),(es[m]'z).1≠name):B4 es name = -1:=by
 induction es with
 | nil=>rfl
 | cons e r ih=>
  have H:=h 0 (by simp);simp only[Kb]at H;have:=ih (λm z=>by have:=h (m+1) (by simp;omega);simpa using this);simp[B4,H,this]
def TJ(es:List AI)(name:ByteArray): -1<=B4 es name/\B4 es name<es.length:=by
 induction es with
 | nil=>simp[B4]
 | cons e r ih=>
  simp only[B4,BM];split
  ·omega
  ·split<;>omega
def Oz(es:List AI)(name:ByteArray):(B4 es name = -1/\∀e∈es,e.1≠name)\/∃k,∃z:k<es.length,B4 es name=(k:Int)/\(es[k]'z).1=name:=by
 induction es with
 | nil=>exact .inl ⟨rfl,by simp⟩
 | cons e r ih=>
  by_cases h:e.1=name
  ·exact .inr ⟨0,by simp,by simp[B4,h],by simpa using h⟩
  ·rcases ih with⟨I,H⟩|⟨k,z,I,H⟩
   ·exact .inl ⟨by simp[B4,h,I],λx O=>by rcases BF.1 O with rfl|O;exact h;exact H x O⟩
   ·exact .inr ⟨k+1,by simpa using z,by simp only[B4,h,C4,I];rw[Ae (by omega)];omega,by simpa using H⟩
structure DN where
 B1:Int
 Bw:Int
 CP:Int
 Dn:Int
 BA:Int
 Bt:Int
 fulls:Int
 Bf:Bool
def GO(vd vs vc:Value)(n:DN):Array Value:=
 #[vd,vs,vc,A0 n.B1,A0 n.Bw,A0 n.CP,A0 n.Dn,A0 n.BA,A0 n.Bt,A0 n.fulls,.bool n.Bf]
def AO(w:World)(b:Nat)(vd vs vc:Value)(n:DN):Prop:=w.heap[b]?=some (.cells (GO vd vs vc n) 60 (0,0))
section
variable{w:World}{b:Nat}{vd vs vc:Value}{n:DN}
def AO.c0(h:AO w b vd vs vc n):Aa w b 0 vd:=by unfold AO at h;simp[Aa,World.cell?,h,GO]
def AO.c1(h:AO w b vd vs vc n):Aa w b 1 vs:=by unfold AO at h;simp[Aa,World.cell?,h,GO]
def AO.c2(h:AO w b vd vs vc n):Aa w b 2 vc:=by unfold AO at h;simp[Aa,World.cell?,h,GO]
def AO.c3(h:AO w b vd vs vc n):Aa w b 3 (A0 n.B1):=by unfold AO at h;simp[Aa,World.cell?,h,GO]
def AO.c4(h:AO w b vd vs vc n):Aa w b 4 (A0 n.Bw):=by unfold AO at h;simp[Aa,World.cell?,h,GO]
def AO.c5(h:AO w b vd vs vc n):Aa w b 5 (A0 n.CP):=by unfold AO at h;simp[Aa,World.cell?,h,GO]
def AO.c6(h:AO w b vd vs vc n):Aa w b 6 (A0 n.Dn):=by unfold AO at h;simp[Aa,World.cell?,h,GO]
def AO.c7(h:AO w b vd vs vc n):Aa w b 7 (A0 n.BA):=by unfold AO at h;simp[Aa,World.cell?,h,GO]
def AO.c8(h:AO w b vd vs vc n):Aa w b 8 (A0 n.Bt):=by unfold AO at h;simp[Aa,World.cell?,h,GO]
def AO.c9(h:AO w b vd vs vc n):Aa w b 9 (A0 n.fulls):=by unfold AO at h;simp[Aa,World.cell?,h,GO]
def AO.bO(h:AO w b vd vs vc n):Aa w b 10 (.bool n.Bf):=by unfold AO at h;simp[Aa,World.cell?,h,GO]
def AO.fz(h:AO w b vd vs vc n)(o:Nat):w.frozen? (Ad b o)=false:=by unfold AO at h;simp[World.frozen?,h]
def AO.lt(h:AO w b vd vs vc n):b<w.heap.size:=Bo h
def CE{w:World}{b:Nat}{c:Array Value}{e:Nat}{o:Nat}{v:Value}(h:w.heap[b]?=some (.cells c e (0,0))):(w.setCell (Ad b o) v).heap[b]?=some (.cells (c.setIfInBounds o v) e (0,0)):=by
 simp[World.setCell,Array.getElem?_modify,h]
def AO.az{w':World}(h:AO w b vd vs vc n)(z:w'.heap[b]?=w.heap[b]?):AO w' b vd vs vc n:=z.trans h
def AO.aj(h:AO w b vd vs vc n)(o:Obj):AO (w.alloc o) b vd vs vc n:=h.az (CU _ _ _ h.lt)
def AO.Cp{w':World}{row:Option Nat}(h:AO w b vd vs vc n)(H:w.grownBy w' row)(z:row≠some b):AO w' b vd vs vc n:=h.az (H.block b h.lt (λe=>z e.symm))
def AO.An{S:Nat->Prop}{w':World}(h:AO w b vd vs vc n)(H:A5 S w w')(z:¬S b):AO w' b vd vs vc n:=h.az (H.Ao b h.lt z)
def AO.s0(h:AO w b vd vs vc n)(v:Value):AO (w.setCell (Ad b 0) v) b v vs vc n:=CE h
def AO.s1(h:AO w b vd vs vc n)(v:Value):AO (w.setCell (Ad b 1) v) b vd v vc n:=CE h
def AO.s2(h:AO w b vd vs vc n)(v:Value):AO (w.setCell (Ad b 2) v) b vd vs v n:=CE h
def AO.s4(h:AO w b vd vs vc n)(x:Int):AO (w.setCell (Ad b 4) (A0 x)) b vd vs vc {n with Bw:=x}:=CE h
def AO.s5(h:AO w b vd vs vc n)(x:Int):AO (w.setCell (Ad b 5) (A0 x)) b vd vs vc {n with CP:=x}:=CE h
def AO.s6(h:AO w b vd vs vc n)(x:Int):AO (w.setCell (Ad b 6) (A0 x)) b vd vs vc {n with Dn:=x}:=CE h
def AO.s7(h:AO w b vd vs vc n)(x:Int):AO (w.setCell (Ad b 7) (A0 x)) b vd vs vc {n with BA:=x}:=CE h
def AO.s8(h:AO w b vd vs vc n)(x:Int):AO (w.setCell (Ad b 8) (A0 x)) b vd vs vc {n with Bt:=x}:=CE h
def AO.s9(h:AO w b vd vs vc n)(x:Int):AO (w.setCell (Ad b 9) (A0 x)) b vd vs vc {n with fulls:=x}:=CE h
def AO.ea(h:AO w b vd vs vc n)(x:Bool):AO (w.setCell (Ad b 10) (.bool x)) b vd vs vc {n with Bf:=x}:=CE h
end
def CY(w:World)(f:Nat)(vb:Value)(Ag:Int):Prop:=w.heap[f]?=some (.cells #[vb,A0 Ag] 68 (0,0))
section
variable{w:World}{f:Nat}{vb:Value}{Ag:Int}
def CY.c0(h:CY w f vb Ag):Aa w f 0 vb:=by unfold CY at h;simp[Aa,World.cell?,h]
def CY.c1(h:CY w f vb Ag):Aa w f 1 (A0 Ag):=by unfold CY at h;simp[Aa,World.cell?,h]
def CY.fz(h:CY w f vb Ag)(o:Nat):w.frozen? (Ad f o)=false:=by unfold CY at h;simp[World.frozen?,h]
def CY.s0(h:CY w f vb Ag)(v:Value):CY (w.setCell (Ad f 0) v) f v Ag:=CE h
def CY.s1(h:CY w f vb Ag)(x:Int):CY (w.setCell (Ad f 1) (A0 x)) f vb x:=CE h
end
def E6(bs:List UInt8):List Value:=bs.map λb=>.int .u8 b.toNat
def FQ(w:World)(v:Value)(bs:List UInt8):Prop:=w.ownsRow 0 5 1 v bs.length (E6 bs)
def A1V(a b:List UInt8):E6 (a++b)=E6 a++E6 b:=Ed
def A5.cF{S:Nat->Prop}{w w':World}(h:Below w.heap.size w w'):A5 S w w':=⟨h.os,h.tape,h.output,h.size,λk z _=>h.block k z⟩
def A5.an{w w':World}(h:A5 Ab w w'){p:Addr}{v:Value}(z:w.cell? p=some v):w'.cell? p=some v:=by
 have H:p.block<w.heap.size:=by
  rcases F6 p.block w.heap.size with h|h
  ·exact h
  ·unfold World.cell? at z;rw[N4 h]at z;simp at z
 unfold World.cell? at z ⊢;rw[h.Ao _ H (λh=>h)];exact z
end
section
open Go.RowKit
attribute [local go_sem ↓] Go.wp_at_zero Go.wp_at_succ
def DC(w:World)(v:Value)(es:List AI)(name:ByteArray)(h:CG w v es):
 Aj 24 #[v,.string name] w (Au (A0 (B4 es name)) λw'=>w=w'):=by
 obtain⟨a,cap,rfl,hc1,aB,H⟩:=h.BV;unfold maxLen at aB
 go_enter func24,ntmps24
 go_wp2;go_loop [5,8] (λj i=>∃k:Nat,k<=es.length/\i=A0 k/\Hid (∀m (Y:m<k) (h2:m<es.length),(es[m]'h2).1≠name)) (λ_ i=>es.length-(intOf i).toNat)
 ·exact⟨0,C8 _,rfl,λm Y=>absurd Y (by omega)⟩
 ·obtain⟨k,hk,rfl,W⟩:=hrel;by_cases X:k<es.length
  ·obtain⟨g,rfl,hn,hp⟩:=H k X;by_cases O:(es[k]'X).1=name
   ·have ht:=(OW _ _).2 O;have hf:=Hid.o W;have z:=A0U es name k X O (λm Y=>hf m Y (by omega));have I:=A4 <| z;clear z;go_wp2;go_ret;exact⟨by rw[I.o];rfl,rfl⟩
   ·have ht:=(Ug _ _).2 O;have aA:=A4 <| O;go_wp2;go_round
    ·exact⟨k+1,by omega,by go_num,λm Y h2=>by rcases F6 m k with h|h;exact W m h h2;(obtain rfl:m=k:=(by omega));exact aA.o⟩
    ·simp[intOf];omega
  ·have z:=A0S es name (λm Y=>Hid.o W m (by omega) Y);have I:=A4 <| z;clear z H;go_wp2;go_ret;exact⟨by rw[I.o];rfl,rfl⟩
def bg(n:DN):Bool×Int×DN:=
 let c:=wrap64 (n.Bw+1)
 if n.Bf then (false,5,{n with Bw:=c,Bt:=wrap64 (n.Bt+1)})
 else if c=n.CP then (true,5,{n with Bw:=c,Bt:=wrap64 (n.Bt+1),Bf:=true})
 else if c=n.Dn then (false,5,{n with Bw:=c,Bt:=wrap64 (n.Bt+1)})
 else (true,0,{n with Bw:=c})
def GU(w:World)(b:Nat)(vd Y vc:Value)(n:DN)(h:AO w b vd Y vc n):
 Aj 25 #[A7 b] w (Au (.tuple #[.bool (bg n).1,A0 (bg n).2.1]) λw'=>AO w' b vd Y vc (bg n).2.2/\A5 (One b) w w'):=by
 have h4:=h.c4;have h5:=h.c5;have h6:=h.c6;have h8:=h.c8;have h10:=h.bO;have hf:=h.fz;have e1:=(h.s4 (wrap64 (n.Bw+1)));have e2:=e1.s8 (wrap64 (n.Bt+1));have e3:=e2.ea true;have aB:=(A5.C (One b) w).ao rfl 4 (A0 (wrap64 (n.Bw+1)));have W:=aB.ao rfl 8 (A0 (wrap64 (n.Bt+1)));have aG:=W.ao rfl 10 (.bool true);have aH:=A4 e1;have aA:=A4 e2;have aE:=A4 e3;have aD:=A4 aB;have X:=A4 W;have aF:=A4 aG;by_cases O:n.Bf=true
 ·have q:Hid (bg n=(false,5,{n with Bw:=wrap64 (n.Bw+1),Bt:=wrap64 (n.Bt+1)})):=by unfold Hid;simp[bg,O]
  go_enter func25,ntmps25
  go_wp2;go_ret2;rw[q.o];exact⟨rfl,aA.o,X.o⟩
 ·have z:n.Bf=false:=by simpa using O
  by_cases hc:(wrap64 (n.Bw+1)==n.CP)=true
  ·(have q:Hid (bg n=(true,5,{n with Bw:=wrap64 (n.Bw+1),Bt:=wrap64 (n.Bt+1),Bf:=true})):=by unfold Hid;simp[bg,z,eq_of_beq hc])
   go_enter func25,ntmps25
   go_wp2;go_region_held3 (λw'=>w'.cell? ⟨b,4,none⟩=some (A0 (wrap64 (n.Bw+1)))/\w'.cell? ⟨b,5,none⟩=some (A0 n.CP)) (refine⟨?_,?_⟩<;>go_simp) (fail);go_wp2;go_ret2;rw[q.o];exact⟨rfl,aE.o,aF.o.ad⟩
  ·(have H:(wrap64 (n.Bw+1)==n.CP)=false:=by simpa using hc);by_cases hl:(wrap64 (n.Bw+1)==n.Dn)=true
   ·have q:Hid (bg n=(false,5,{n with Bw:=wrap64 (n.Bw+1),Bt:=wrap64 (n.Bt+1)})):=by
     have:=Sy H;unfold Hid bg;dsimp only;rw[Ae (by rw[z];decide),Ae this,Ah (eq_of_beq hl)]
    go_enter func25,ntmps25
    go_wp2;go_region_held3 (λw'=>w'.cell? ⟨b,4,none⟩=some (A0 (wrap64 (n.Bw+1)))/\w'.cell? ⟨b,5,none⟩=some (A0 n.CP)) (refine⟨?_,?_⟩<;>go_simp) (fail);go_wp2;go_region_held3 (λw'=>w'.cell? ⟨b,4,none⟩=some (A0 (wrap64 (n.Bw+1)))/\w'.cell? ⟨b,6,none⟩=some (A0 n.Dn)) (refine⟨?_,?_⟩<;>go_simp) (fail);go_wp2;go_ret2;rw[q.o];exact⟨rfl,aA.o,X.o.ad.ad⟩
   ·(have I:(wrap64 (n.Bw+1)==n.Dn)=false:=by simpa using hl);have q:Hid (bg n=(true,0,{n with Bw:=wrap64 (n.Bw+1)})):=by
     have:=Sy H;have h2:=Sy I;unfold Hid bg;dsimp only;rw[Ae (by rw[z];decide),Ae this,Ae h2]
    go_enter func25,ntmps25
    go_wp2;go_region_held3 (λw'=>w'.cell? ⟨b,4,none⟩=some (A0 (wrap64 (n.Bw+1)))/\w'.cell? ⟨b,5,none⟩=some (A0 n.CP)) (refine⟨?_,?_⟩<;>go_simp) (fail);go_wp2;go_region_held3 (λw'=>w'.cell? ⟨b,4,none⟩=some (A0 (wrap64 (n.Bw+1)))/\w'.cell? ⟨b,6,none⟩=some (A0 n.Dn)) (refine⟨?_,?_⟩<;>go_simp) (fail);go_wp2;go_ret2;rw[q.o];exact⟨rfl,aH.o,aD.o.ad.ad⟩
end
end Go.Proofs.YtodcnkbblippnabGreatDoor
