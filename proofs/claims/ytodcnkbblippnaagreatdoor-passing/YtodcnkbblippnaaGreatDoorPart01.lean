/- Part 1 of a proof: walks of the program. -/
import Derived.Below
import Derived.Calls
import Derived.Conc.MuLone
import Derived.Deep.AppendSrc
import Derived.Defers
import Derived.FnData
import Derived.Laws.Append
import Derived.Laws.AppendOwn
import Derived.Laws.BitsLemmas
import Derived.Laws.Entries
import Derived.Laws.Externs
import Derived.Laws.IdiomStrings
import Derived.Laws.Rows
import Derived.Laws.Tables
import Derived.Laws.World
import Derived.Lib.Builder
import Derived.Lib.ItoaNum
import Derived.Lib.Repeat
import Derived.Lib.Strings
import Derived.LoopN
import Derived.OneCell
import Derived.Orders
import Derived.OwnWalk
import Derived.Still
import Derived.StillTail
import Derived.Tactics
import Derived.WideShapes
import Derived.Test.YtodcnkbblippnaaGreatDoorRows
import Derived.WalkKit
import Derived.WalkSpells
import Derived.WalkLawsBesides
import Derived.Deep.AppendLies
import Derived.RegionTactic
import Derived.Deep.RegionHeld3
import Derived.Deep.DrawnRows
import Derived.OrdersHeld
namespace Go.Proofs.YtodcnkbblippnaaGreatDoor
set_option maxRecDepth 100000
set_option maxHeartbeats 32000000
set_option linter.defProp false
open Go.Proofs.Tryz
section
open Go.RowKit
def Ad:=@if_neg
def Am:=@if_pos
def Aw:=@Nat.le_refl
def Az:=@Nat.le_trans
def B2:=@List.length_append
def B3:=@List.mem_append
def Bc:=@Nat.lt_of_lt_of_le
def Bw:=@Go.heap_alloc_new
def BG:=@if_false
def BK:=@List.mem_cons_of_mem
def BM:=@if_true
def BW:=@Go.World.ownsRow_nil
def Cc:=@decide_eq_true
def Ce:=@List.mem_cons_self
def Cf:=@List.mem_cons
def Cj:=@decide_eq_false
def Cr:=@List.length_cons
def Cx:=@List.getElem_mem
def CD:=@Go.lt_of_block
def CL:=@Nat.zero_le
def CP:=@List.take_length
def CQ:=@List.append_assoc
def CS:=@List.length_drop
def D3:=@List.pairwise_cons
def D9:=@List.take_succ_eq_append_getElem
def Da:=@List.drop_zero
def De:=@decide_eq_true_eq
def Dg:=@List.length_take
def Dh:=@List.drop_succ_cons
def Dr:=@Go.info_parts
def DB:=@List.filter_cons
def DD:=@Go.RowKit.Below.heap_alloc
def DL:=@List.mem_map
def DU:=@List.pairwise_append
def E4:=@List.getElem?_eq_getElem
def E6:=@Go.rounds_succ
def Eg:=@Nat.lt_or_ge
def Eh:=@List.take_zero
def Ei:=@List.take_succ_cons
def Ej:=@List.nil_append
def Ek:=@Bool.and_eq_true
def ED:=@Nat.zero_add
def EE:=@Nat.lt_irrefl
def EF:=@List.take_of_length_le
def EG:=@List.take_append_drop
def EH:=@List.drop_eq_getElem_cons
def EI:=@List.append_nil
def ER:=@congrArg
def ET:=@List.map_cons
def EU:=@Int.natCast_nonneg
def EV:=@Go.RowKit.Below.heap_setCell
def F9:=@List.mem_append_left
def Fa:=@List.map_append
def Fb:=@List.getElem_append_left
def Fc:=@List.cons_append
def Fx:=@and_true
def Fy:=@List.length_eq_zero_iff
def Fz:=@List.drop_length
def FH:=@Go.mem_ready
def FO:=@Option.map_some
def FQ:=@Nat.le_of_lt
def FR:=@List.mem_map_of_mem
def FU:=@List.getElem?_drop
def FV:=@List.filter_cons_of_pos
def FW:=@Array.getElem?_push_size
def FY:=@Go.wp_loop_rounds
def Gb:=@Go.World.block_lt_of_cell?
def Gc:=@Go.Src.ofSlice
def Ge:=@List.mem_singleton
def Gf:=@List.mem_filter
def Gg:=@List.length_nil
def Gh:=@List.length_map
def Gi:=@List.flatten_cons
def Gj:=@List.filter_sublist
def Gk:=@List.drop_of_length_le
def Gs:=@Go.setRow_other
def Gt:=@Go.run_underlying
def Gz:=@ne_eq
def GK:=@Go.getD_replicate_false
def GO:=@beq_eq_false_iff_ne
def GQ:=@Go.World.cell?_of_block
def GS:=@Nat.mul_le_mul_right
def GU:=@List.take_append_of_le_length
def GV:=@List.mem_append_right
def GW:=@List.getElem_of_mem
def GX:=@List.filter_cons_of_neg
def GY:=@Int.toNat_natCast
def H3:=@Go.wpOp_mono
def H7:=@Go.setRow_heap
def Hc:=@Go.ready_mono
def Hp:=@List.take_left
def Hq:=@List.size_toArray
def Hr:=@List.set_append_right
def Hs:=@List.getElem_cons_zero
def Ht:=@List.filter_append
def Hu:=@List.eq_nil_of_length_eq_zero
def Hv:=@Int.lt_or_le
def Hw:=@Int.add_sub_cancel
def Hx:=@Array.length_toList
def HF:=@Go.tail_waits
def Ih:=@Go.getD_set_ne
def Iy:=@Go.Src.ofString
def IC:=@Nat.zero_lt_one
def ID:=@Nat.succ_mul
def IE:=@Nat.pow_succ
def IF:=@Nat.mul_le_mul
def IG:=@Nat.add_mul
def IH:=@List.pairwise_iff_getElem
def II:=@List.nodup_append
def IJ:=@List.mem_of_mem_take
def IK:=@List.getElem_append_right
def IL:=@List.getElem?_append_right
def IM:=@List.foldl_cons
def IN:=@Go.Lib.toList_data
def IP:=@Go.IntKind.wrap_i64
def IQ:=@Int.eq_ofNat_of_zero_le
def IS:=@Bool.eq_iff_iff
def IT:=@Go.RowKit.Below.refl
def IU:=@Array.getElem?_eq_none
def J1:=@Go.MuLone.unlock_deferred
def Ja:=@Go.run_convert_bytes_back
def Jo:=@Go.ownsRow_setCell_other
def Jp:=@not_false_eq_true
def Ju:=@Go.leaves_cons
def K5:=@Option.some.inj
def K6:=@Ne.symm
def K7:=@Nat.succ_le_succ
def K8:=@Nat.mul_comm
def K9:=@Nat.le_succ_of_le
def Ka:=@List.take_take
def Kb:=@List.takeWhile_cons
def Kc:=@List.pairwise_singleton
def Kd:=@List.mem_of_mem_drop
def Ke:=@List.map_congr_left
def Kf:=@List.length_set
def Kg:=@List.getLastD_eq_getLast?
def Kh:=@List.getElem?_take
def Ki:=@List.getElem?_eq_none
def Kj:=@List.flatMap_cons
def Kk:=@List.drop_append
def Kl:=@List.all_eq_true
def Km:=@Go.Lib.cell_of_heap
def Kn:=@Int.le_trans
def Ko:=@Decidable.byContradiction
def Kp:=@Bool.true_and
def Kq:=@Bool.false_eq_true
def Kt:=@Array.toList_append
def Ku:=@Array.getElem?_eq_some_iff
def Kw:=@Go.wp_region_still_tail
def Ky:=@Go.wp_region_any
def Kz:=@Go.wpStill_nil
def KC:=@Go.wpAny_of_seq
def L1:=@Go.seqB_ready
def L9:=@Go.run_firstCells_some
def Lc:=@Go.results_tmp
def LF:=@of_decide_eq_true
def LP:=@ne_of_beq_false
def MF:=@decide_true
def MV:=@Go.bodyPost_ret
def MX:=@beq_self_eq_true
def N3:=@Go.World.var?_cell
def N4:=@Go.World.drew_eq
def N5:=@Go.Region.noSelect_spec
def N6:=@Go.Region.free_spec
def Nf:=@Option.or_none
def Ng:=@Option.ne_none_iff_exists'
def Nh:=@Go.Oper.upon_value
def Ni:=@Nat.xor_lt_two_pow
def Nj:=@Nat.not_lt
def Nk:=@Nat.mul_one
def Nl:=@Nat.min_eq_left
def Nn:=@Nat.min_def
def No:=@Nat.lt_trichotomy
def Np:=@Nat.add_zero
def Nq:=@List.set_cons_succ
def Nr:=@List.replicate_succ
def Ns:=@List.pairwise_map
def Nt:=@List.nodup_cons
def Nu:=@List.mem_flatten
def Nv:=@List.lt_irrefl
def Nw:=@List.length_pos_iff
def Nx:=@List.length_mergeSort
def Ny:=@List.length_filter_le
def Nz:=@List.getElem_cons_succ
def NA:=@List.foldl_append
def NB:=@List.filter_filter
def NC:=@List.filter_eq_nil_iff
def ND:=@List.eq_nil_or_concat
def NF:=@List.drop_left
def NG:=@List.dropLast_subset
def NH:=@List.dropLast_concat_getLast
def NI:=@List.any_eq_true
def NJ:=@List.Nodup.sublist
def NK:=@Int.tmod_lt_of_pos
def NL:=@Int.neg_tmod
def NM:=@Int.mul_le_mul_of_nonneg_left
def NN:=@Int.emod_nonneg
def NO:=@Int.emod_lt_of_pos
def NQ:=@Bool.false_and
def NR:=@Array.setIfInBounds_comm
def NS:=@Array.getElem?_setIfInBounds_ne
def P3:=@Go.run_callFunc_extern
def RD:=@Go.grownCap_le_maxLen
def S0:=@decide_eq_false_iff_not
def T7:=@Go.WideShapes.bytes_inj
def T8:=@Option.map_eq_some_iff
def Ta:=@Nat.pow_le_pow_right
def Tb:=@Nat.lt_of_succ_lt_succ
def Tc:=@Nat.le_add_right
def Td:=@List.setIfInBounds_toArray
def Te:=@List.pairwise_mergeSort
def Tf:=@List.mergeSort_nil
def Tg:=@List.mem_of_getElem?
def Th:=@List.mem_of_find?_eq_some
def Ti:=@List.mem_mergeSort
def Tj:=@List.length_singleton
def Tk:=@List.length_dropLast
def Tl:=@List.getElem?_eq_some_iff
def Tm:=@List.getElem?_append_left
def Tn:=@List.getD_eq_getElem?_getD
def To:=@List.flatten_append
def Tp:=@List.flatMap_def
def Tq:=@List.flatMap_append
def Tr:=@List.find?_append
def Ts:=@List.drop_left'
def Tt:=@List.drop_append_of_le_length
def Tu:=@List.cons_lt_cons_iff
def Tv:=@List.concat_eq_append
def Tw:=@List.any_append
def Tx:=@List.Sublist.refl
def Ty:=@List.Pairwise.sublist
def Tz:=@Go.Lib.repeatL_length
def TA:=@Go.Lib.decDigits_length
def TC:=@Int.mul_tdiv_add_tmod
def TD:=@Classical.byContradiction
def TE:=@ByteArray.data_extract
def TF:=@Array.getElem?_eq_getElem
def TG:=@Array.ext_getElem?
def TH:=@Array.all_eq_true_iff_forall_mem
abbrev A4(b:Nat):Value:=.pointer (some ⟨b,0,none⟩)
abbrev A8(b o:Nat):Addr:=⟨b,o,none⟩
abbrev A5(w:World)(b o:Nat)(v:Value):Prop:=w.cell? ⟨b,o,none⟩=some v
abbrev A0(n:Int):Value:=.int .i64 n
abbrev AH(b n c:Nat):Value:=.slice (some ⟨b,0,none⟩) n c
abbrev A7:Nat->Prop:=λ_=>False
abbrev Ac:=Calls Tryz.prog
abbrev Ak(v:Value)(Q:World->Prop)(e:Ending)(w:World):Prop:=e=.returned v/\Q w
abbrev _root_.Go.World.aC(w:World)(x:Array Value)(t:TypeId):World:=w.alloc (.cells x t)
abbrev _root_.Go.World.sC(w:World)(b o:Nat)(v:Value):World:=w.setCell ⟨b,o,none⟩ v
abbrev _root_.Go.Value.oB(v:Value)(b:Nat):Prop:=v.ownBlock=some b
def _root_.Go.RowKit.Hid.o{p:Prop}(h:Hid p):p:=h
def _root_.Go.RowKit.Hid.m{P:Program}{f:FuncId}{a:Array Value}{w:World}{R Q:Ending->World->Prop}(h:Hid (Calls P f a w R))(k:∀e w',R e w'->Q e w'):Calls P f a w Q:=Calls.mono h k
def C3(k:Nat):(0:Int)<=(k:Int):=EU _
def EA{w:World}{b o:Nat}{x:Array Value}{t:TypeId}{f:Nat×Nat}{v:Value}(h:w.heap[b]?=some (.cells x t f))(k:x[o]?=some v:=by rfl):A5 w b o v:=by
 show w.cell? ⟨b,o,none⟩=some v;simp only[World.cell?,h];exact k
def Bj:List Nat->List Nat->List (Nat×Bool)
 | [],_=>[]
 | i::r,x=>(i,!x.elem i):: Bj r x
def An:(∀(a:Act) (v:Value) (d:Tmp),a.put (some d) v=⟨a.tmps.setIfInBounds d v,a.defers⟩)/\(∀(a:Act) (v:Value),a.put none v=a)/\(∀ {α:Type} {l:List α} {i:Nat} {a:α},l.toArray.setIfInBounds i a=(l.set i a).toArray)/\(∀ {α:Type} {x a:α} {xs:List α},(x::xs).set 0 a=a::xs)/\
 (∀ {α:Type} {x a:α} {xs:List α} {n:Nat},(x::xs).set (n+1) a=x::xs.set n a)/\(∀ {α:Type} {l:List α} {i:Nat} (h:i<l.toArray.size),l.toArray[i]=l[i]'(by simpa using h))/\(∀ {α:Type} {a:α} {l:List α} (h:0<(a::l).length),(a::l)[0]=a)/\
 (∀ {α:Type} {a:α} {l:List α} {i:Nat} (h:i+1<(a::l).length),(a::l)[i+1]=l[i]'(Tb h)):=
 ⟨λ_ _ _=>rfl,λ_ _=>rfl,Td _ _ _,rfl,rfl,λ_=>rfl,λ_=>rfl,λ_=>rfl⟩
structure A2 (S:Nat->Prop) (w w':World):Prop where
 os:w'.os=w.os
 E5:w'.tape=w.tape
 E9:w'.output=w.output
 Af:w.heap.size<=w'.heap.size
 Ao:∀k,k<w.heap.size->¬S k->w'.heap[k]?=w.heap[k]?
def A2.C(S:Nat->Prop)(w:World):A2 S w w:=⟨rfl,rfl,rfl,Aw _,λ_ _ _=>rfl⟩
def A2.As{S S':Nat->Prop}{a b c:World}(h:A2 S a b)(k:A2 S' b c)(z:∀x,S' x->x<a.heap.size->S x):A2 S a c:=
 ⟨k.os.trans h.os,k.E5.trans h.E5,k.E9.trans h.E9,Az h.Af k.Af,λi d y=>
  (k.Ao i (Bc d h.Af) (λE=>y (z i E d))).trans (h.Ao i d y)⟩
def A2.U{S S':Nat->Prop}{a b:World}(h:A2 S a b)(y:∀x,x<a.heap.size->S x->S' x):A2 S' a b:=
 ⟨h.os,h.E5,h.E9,h.Af,λk d E=>h.Ao k d (λz=>E (y k d z))⟩
def A2.I{S:Nat->Prop}{a w:World}(h:A2 S a w):A2 S a w.drew:=⟨h.os,h.E5,h.E9,h.Af,h.Ao⟩
def A2.aU{S:Nat->Prop}{a w:World}(h:A2 S a w)(n:Nat):A2 S a (w.drewN n):=⟨h.os,h.E5,h.E9,h.Af,h.Ao⟩
def A2.ae{S:Nat->Prop}{a w:World}(h:A2 S a w)(o:Obj):A2 S a (w.alloc o):=
 ⟨h.os,h.E5,h.E9,by have:=h.Af;simp;omega,λk d y=>(DD _ _ _ (Bc d h.Af)).trans (h.Ao k d y)⟩
def A2.tr{S:Nat->Prop}{a b c:World}(h:A2 S a b)(k:A2 S b c):A2 S a c:=h.As k λ_ h _=>h
def A2.aC{S:Nat->Prop}{a w:World}(h:A2 S a w)(x:Array Value)(t:TypeId):A2 S a (w.alloc (.cells x t)):=h.ae _
def A2.a1{S:Nat->Prop}{a w:World}(h:A2 S a w){p:Addr}(z:p.block<a.heap.size->S p.block)(u:Value):A2 S a (w.setCell p u):=
 ⟨h.os,h.E5,h.E9,by simpa using h.Af,λk d y=>(EV _ _ _ _ (λe=>by subst e;exact y (z d))).trans (h.Ao k d y)⟩
def A2.Dc{S:Nat->Prop}{a w w':World}{row:Option Nat}(h:A2 S a w)(d:w.grownBy w' row)(E:∀k,row=some k->k<a.heap.size->S k):A2 S a w':=
 ⟨d.os.trans h.os,d.tape.trans h.E5,d.output.trans h.E9,Az h.Af d.size,λk y z=>
  (d.block k (Bc y h.Af) (λe=>z (E k e.symm y))).trans (h.Ao k y z)⟩
def A2.cr{S:Nat->Prop}{a b:World}{B:Nat}(h:A2 S a b)(y:B<=a.heap.size)(z:∀k,k<B->¬S k):Below B a b:=
 ⟨h.os,h.E5,h.E9,h.Af,λk d=>h.Ao k (Bc d y) (z k d)⟩
def A2.Ap{S:Nat->Prop}{a b:World}(h:A2 S a b){k:Nat}{o:Obj}(d:a.heap[k]?=some o)(y:¬S k):b.heap[k]?=some o:=
 (h.Ao k (CD d) y).trans d
def One(b:Nat):Nat->Prop:=λk=>k=b
def A2.ak{S:Nat->Prop}{a w:World}(h:A2 S a w){b:Nat}(d:S b)(o:Nat)(u:Value):A2 S a (w.setCell (A8 b o) u):=h.a1 (p:=(A8 b o)) (λ_=>d) u
def A1{p:Prop}(h:p):Hid p:=h
def EC(S:Nat->Prop)(w w':World):Prop:=∀k,S k->w'.heap[k]?=w.heap[k]?
def EC.U{S S':Nat->Prop}{w w':World}(h:EC S w w')(y:∀k,S' k->S k):EC S' w w':=λk d=>h k (y k d)
def A2.au{S T:Nat->Prop}{w w':World}(h:A2 S w w')(z:∀k,T k->k<w.heap.size)(y:∀k,T k->¬S k):EC T w w':=λk d=>h.Ao k (z k d) (y k d)
def Aq{w w':World}{d e size n:Nat}{v:Value}{xs:List Value}(h:w.ownsRow d e size v n xs)(I:∀g,v.ownBlock=some g->w'.heap[g]?=w.heap[g]?):w'.ownsRow d e size v n xs:=by
 refine⟨h.1,?_⟩;rcases h.2 with z|⟨g,cap,y,rfl,H,E,r⟩
 ·exact .inl z
 ·exact .inr ⟨g,cap,y,rfl,H,by rw[I g rfl];exact E,r⟩
def Av{w:World}{d e size n:Nat}{v:Value}{xs:List Value}(h:w.ownsRow d e size v n xs){g:Nat}(y:v.ownBlock=some g):g<w.heap.size:=(h.lt g y).2
def BA{w:World}{y e size n:Nat}{v:Value}{xs:List Value}(h:w.ownsRow y e size v n xs){g:Nat}(z:v.ownBlock=some g):∃d,w.heap[g]?=some (.cells d e (0,0)):=by
 rcases h.2 with⟨rfl,_⟩|⟨g',cap,d,rfl,_,E,_⟩
 ·simp[Value.ownBlock]at z
 ·simp[Value.ownBlock]at z;subst z;exact⟨d,E⟩
def Be{w:World}{d e size n:Nat}{v:Value}{xs:List Value}(h:w.ownsRow d e size v n xs){g:Nat}(y:v.ownBlock=some g){j:Nat}{u:Value}(hu:xs[j]?=some u):A5 w g j u:=by
 have:=h.cells y j u hu;unfold Addr.add at this;split at this
 ·rename_i z;rw[z];exact this
 ·simpa using this
def Fm{w:World}{d e size n:Nat}{v:Value}{xs:List Value}(h:w.ownsRow d e size v n xs){g:Nat}(z:v.ownBlock=some g)(j:Nat):w.frozen? (A8 g j)=false:=by
 obtain⟨cur,y⟩:=BA h z;simp[World.frozen?,y]
def AR{w:World}{d e size n:Nat}{v:Value}{xs:List Value}(h:w.ownsRow d e size v n xs):
 ∃a cap,v=.slice a n cap/\n<=cap/\cap<=maxLen/\(0<n->∃g,a=some (A8 g 0))/\(a=none->n=0/\cap=0)/\(∀x,a=some x->∃g,x=(A8 g 0)):=by
 rcases h.2 with⟨rfl,E⟩|⟨g,cap,cur,rfl,_,hg,y,H,hs,_⟩
 ·exact⟨none,0,by rw[E],by omega,by decide,by omega,λ_=>⟨E,rfl⟩,λx z=>by cases z⟩
 ·exact⟨_,cap,rfl,y,H,λ_=>⟨g,rfl⟩,by simp,λx z=>⟨g,by cases z;rfl⟩⟩
def Q6{w:World}{d e size n cap:Nat}{a:Option Addr}{xs:List Value}(h:w.ownsRow d e size (.slice a n cap) n xs){m:Nat}(V:m<=n):w.ownsRow d e size (.slice a m cap) m (xs.take (m*size)):=by
 have H:m*size<=n*size:=GS _ V;refine⟨by rw[Dg,h.1];omega,?_⟩;rcases h.2 with⟨y,I⟩|⟨g,cap',E,y,L,O,hcap,z,U,J⟩
 ·subst I;cases y;obtain rfl:m=0:=by omega
  exact .inl ⟨rfl,rfl⟩
 ·cases y;exact .inr ⟨g,cap,E,rfl,L,O,by omega,z,U,by rw[<-J,Ka,Nl H]⟩
def K2(a b:ByteArray):(a.toList==b.toList)=true↔a=b:=by
 rw[beq_iff_eq,IN,IN];exact⟨λh=>T7 h,λh=>by rw[h]⟩
def MT(a b:ByteArray):(a.toList==b.toList)=false↔a≠b:=by
 have:=K2 a b;constructor
 ·intro h e;rw[this.2 e]at h;cases h
 ·intro h;cases hx:(a.toList==b.toList) with
  | false=>rfl
  | true=>exact absurd (this.1 hx) h
abbrev AL:=ByteArray×Nat
def Bx:List AL->List Value
 | []=>[]
 | (n,f):: r=>.string n::(A4 f):: Bx r
def RS(es:List AL):(Bx es).length=es.length*2:=by
 induction es with
 | nil=>rfl
 | cons e r ih=>obtain⟨n,f⟩:=e;simp only[Bx,Cr,ih];omega
def Im(a b:List AL):Bx (a++b)=Bx a++Bx b:=by
 induction a with
 | nil=>rfl
 | cons e r ih=>obtain⟨n,f⟩:=e;simp[Bx,ih]
def RR(es:List AL)(k:Nat):(Bx es).take (k*2)=Bx (es.take k):=by
 induction es generalizing k with
 | nil=>simp[Bx]
 | cons e r ih=>
  obtain⟨n,f⟩:=e
  match k with
  | 0=>simp[Bx]
  | k+1=>rw[show (k+1)*2=k*2+1+1 from by omega];simp[Bx,ih]
def RT(es:List AL)(k:Nat):(Bx es).drop (k*2)=Bx (es.drop k):=by
 induction es generalizing k with
 | nil=>simp[Bx]
 | cons e r ih=>
  obtain⟨n,f⟩:=e
  match k with
  | 0=>simp[Bx]
  | k+1=>rw[show (k+1)*2=k*2+1+1 from by omega];simp[Bx,ih]
def JP(es:List AL)(k:Nat)(h:k<es.length):(Bx es)[k*2]?=some (.string (es[k]'h).1):=by
 induction es generalizing k with
 | nil=>simp at h
 | cons e r ih=>
  obtain⟨n,f⟩:=e
  match k with
  | 0=>simp[Bx]
  | k+1=>
   have:=ih k (by simpa using h);rw[show (k+1)*2=k*2+1+1 from by omega];simpa[Bx] using this
def JN(es:List AL)(k:Nat)(h:k<es.length):(Bx es)[k*2+1]?=some (A4 ((es[k]'h).2)):=by
 induction es generalizing k with
 | nil=>simp at h
 | cons e r ih=>
  obtain⟨n,f⟩:=e
  match k with
  | 0=>simp[Bx]
  | k+1=>
   have:=ih k (by simpa using h);rw[show (k+1)*2+1=k*2+1+1+1 from by omega];simpa[Bx] using this
def JO(es:List AL):∀u∈Bx es,u.oneCell'=true:=by
 induction es with
 | nil=>simp[Bx]
 | cons e r ih=>
  obtain⟨n,f⟩:=e;intro u hu;simp only[Bx,Cf]at hu;rcases hu with rfl|rfl|hu
  ·rfl
  ·rfl
  ·exact ih u hu
def Dl(w:World)(v:Value)(es:List AL):Prop:=w.ownsRow 0 125 2 v es.length (Bx es)
def Dl.BU{w:World}{v:Value}{es:List AL}(h:Dl w v es):
 ∃a cap,v=.slice a es.length cap/\es.length<=cap/\cap<=maxLen/\∀k (d:k<es.length),∃g,a=some (A8 g 0)/\A5 w g (k*2) (.string (es[k]'d).1)/\A5 w g (k*2+1) (A4 ((es[k]'d).2)):=by
 rcases AR h with⟨a,cap,rfl,z,y,E,_,_⟩;refine⟨a,cap,rfl,z,y,λk d=>?_⟩;obtain⟨g,rfl⟩:=E (by omega);exact⟨g,rfl,Be h rfl (JP es k d),Be h rfl (JN es k d)⟩
def AN:List AL->ByteArray->Int
 | [],_=>-1
 | e::r,name=>if e.1=name then 0 else if AN r name<0 then -1 else AN r name+1
def RN(es:List AL)(name:ByteArray)(k:Nat)(y:k<es.length)(h:(es[k]'y).1=name)(d:∀m (E:m<k),(es[m]'(by omega)).1≠name):AN es name=k:=by
 induction es generalizing k with
 | nil=>simp at y
 | cons e r ih=>
  match k with
  | 0=>simp only[Hs]at h;simp[AN,h]
  | k+1=>
   have z:=d 0 (by omega);simp only[Hs]at z;have:=ih k (by simpa using y) (by simpa using h) (λm E=>by simpa using d (m+1) (by omega));simp only[AN,z,BG,this];rw[Ad (by omega)];omega
def RL(es:List AL)(name:ByteArray)(d:∀m (h:m<es.length),(es[m]'h).1≠name):AN es name = -1:=by
 induction es with
 | nil=>rfl
 | cons e r ih=>
  have y:=d 0 (by simp);simp only[Hs]at y;have:=ih (λm h=>by have:=d (m+1) (by simp;omega);simpa using this);simp[AN,y,this]
def RK(es:List AL)(name:ByteArray): -1<=AN es name/\AN es name<es.length:=by
 induction es with
 | nil=>simp[AN]
 | cons e r ih=>
  simp only[AN,Cr];split
  ·omega
  ·split<;>omega
def MD(es:List AL)(name:ByteArray):(AN es name = -1/\∀e∈es,e.1≠name)\/∃k,∃d:k<es.length,AN es name=(k:Int)/\(es[k]'d).1=name:=by
 induction es with
 | nil=>exact .inl ⟨rfl,by simp⟩
 | cons e r ih=>
  by_cases h:e.1=name
  ·exact .inr ⟨0,by simp,by simp[AN,h],by simpa using h⟩
  ·rcases ih with⟨z,y⟩|⟨k,d,z,y⟩
   ·exact .inl ⟨by simp[AN,h,z],λx E=>by rcases Cf.1 E with rfl|E;exact h;exact y x E⟩
   ·exact .inr ⟨k+1,by simpa using d,by simp only[AN,h,BG,z];rw[Ad (by omega)];omega,by simpa using y⟩
structure DN where
 Bl:Int
 Br:Int
 DJ:Int
 DR:Int
 BY:Int
 CG:Int
 fulls:Int
 CC:Bool
def Ey(vd vs vc:Value)(n:DN):Array Value:=
 #[vd,vs,vc,A0 n.Bl,A0 n.Br,A0 n.DJ,A0 n.DR,A0 n.BY,A0 n.CG,A0 n.fulls,.bool n.CC]
def Au(w:World)(b:Nat)(vd vs vc:Value)(n:DN):Prop:=w.heap[b]?=some (.cells (Ey vd vs vc n) 95 (0,0))
section
variable {w:World} {b:Nat} {vd vs vc:Value} {n:DN}
def Au.c0(h:Au w b vd vs vc n):A5 w b 0 vd:=by unfold Au at h;simp[A5,World.cell?,h,Ey]
def Au.c1(h:Au w b vd vs vc n):A5 w b 1 vs:=by unfold Au at h;simp[A5,World.cell?,h,Ey]
def Au.c2(h:Au w b vd vs vc n):A5 w b 2 vc:=by unfold Au at h;simp[A5,World.cell?,h,Ey]
def Au.c3(h:Au w b vd vs vc n):A5 w b 3 (A0 n.Bl):=by unfold Au at h;simp[A5,World.cell?,h,Ey]
def Au.c4(h:Au w b vd vs vc n):A5 w b 4 (A0 n.Br):=by unfold Au at h;simp[A5,World.cell?,h,Ey]
def Au.c5(h:Au w b vd vs vc n):A5 w b 5 (A0 n.DJ):=by unfold Au at h;simp[A5,World.cell?,h,Ey]
def Au.c6(h:Au w b vd vs vc n):A5 w b 6 (A0 n.DR):=by unfold Au at h;simp[A5,World.cell?,h,Ey]
def Au.c7(h:Au w b vd vs vc n):A5 w b 7 (A0 n.BY):=by unfold Au at h;simp[A5,World.cell?,h,Ey]
def Au.c8(h:Au w b vd vs vc n):A5 w b 8 (A0 n.CG):=by unfold Au at h;simp[A5,World.cell?,h,Ey]
def Au.c9(h:Au w b vd vs vc n):A5 w b 9 (A0 n.fulls):=by unfold Au at h;simp[A5,World.cell?,h,Ey]
def Au.bG(h:Au w b vd vs vc n):A5 w b 10 (.bool n.CC):=by unfold Au at h;simp[A5,World.cell?,h,Ey]
def Au.fz(h:Au w b vd vs vc n)(o:Nat):w.frozen? (A8 b o)=false:=by unfold Au at h;simp[World.frozen?,h]
def Au.lt(h:Au w b vd vs vc n):b<w.heap.size:=CD h
def Ca{w:World}{b:Nat}{c:Array Value}{e:Nat}{o:Nat}{v:Value}(h:w.heap[b]?=some (.cells c e (0,0))):(w.setCell (A8 b o) v).heap[b]?=some (.cells (c.setIfInBounds o v) e (0,0)):=by
 simp[World.setCell,Array.getElem?_modify,h]
def Au.au{w':World}(h:Au w b vd vs vc n)(d:w'.heap[b]?=w.heap[b]?):Au w' b vd vs vc n:=d.trans h
def Au.ae(h:Au w b vd vs vc n)(o:Obj):Au (w.alloc o) b vd vs vc n:=h.au (DD _ _ _ h.lt)
def Au.Dc{w':World}{row:Option Nat}(h:Au w b vd vs vc n)(y:w.grownBy w' row)(d:row≠some b):Au w' b vd vs vc n:=h.au (y.block b h.lt (λe=>d e.symm))
def Au.Aj{S:Nat->Prop}{w':World}(h:Au w b vd vs vc n)(y:A2 S w w')(d:¬S b):Au w' b vd vs vc n:=h.au (y.Ao b h.lt d)
def Au.s0(h:Au w b vd vs vc n)(v:Value):Au (w.setCell (A8 b 0) v) b v vs vc n:=Ca h
def Au.s1(h:Au w b vd vs vc n)(v:Value):Au (w.setCell (A8 b 1) v) b vd v vc n:=Ca h
def Au.s2(h:Au w b vd vs vc n)(v:Value):Au (w.setCell (A8 b 2) v) b vd vs v n:=Ca h
def Au.s4(h:Au w b vd vs vc n)(x:Int):Au (w.setCell (A8 b 4) (A0 x)) b vd vs vc {n with Br:=x}:=Ca h
def Au.s8(h:Au w b vd vs vc n)(x:Int):Au (w.setCell (A8 b 8) (A0 x)) b vd vs vc {n with CG:=x}:=Ca h
def Au.s9(h:Au w b vd vs vc n)(x:Int):Au (w.setCell (A8 b 9) (A0 x)) b vd vs vc {n with fulls:=x}:=Ca h
def Au.dH(h:Au w b vd vs vc n)(x:Bool):Au (w.setCell (A8 b 10) (.bool x)) b vd vs vc {n with CC:=x}:=Ca h
end
def Ct(w:World)(f:Nat)(vb:Value)(CZ:Int):Prop:=w.heap[f]?=some (.cells #[vb,A0 CZ] 129 (0,0))
section
variable {w:World} {f:Nat} {vb:Value} {CZ:Int}
def Ct.c0(h:Ct w f vb CZ):A5 w f 0 vb:=by unfold Ct at h;simp[A5,World.cell?,h]
def Ct.c1(h:Ct w f vb CZ):A5 w f 1 (A0 CZ):=by unfold Ct at h;simp[A5,World.cell?,h]
def Ct.fz(h:Ct w f vb CZ)(o:Nat):w.frozen? (A8 f o)=false:=by unfold Ct at h;simp[World.frozen?,h]
def Ct.s0(h:Ct w f vb CZ)(v:Value):Ct (w.setCell (A8 f 0) v) f v CZ:=Ca h
def Ct.s1(h:Ct w f vb CZ)(x:Int):Ct (w.setCell (A8 f 1) (A0 x)) f vb x:=Ca h
end
def Df(bs:List UInt8):List Value:=bs.map λb=>.int .u8 b.toNat
def Fh(w:World)(v:Value)(bs:List UInt8):Prop:=w.ownsRow 0 5 1 v bs.length (Df bs)
def Ss(a b:List UInt8):Df (a++b)=Df a++Df b:=Fa
def A2.bQ{S:Nat->Prop}{w w':World}(h:Below w.heap.size w w'):A2 S w w':=⟨h.os,h.tape,h.output,h.size,λk d _=>h.block k d⟩
def A2.af{w w':World}(h:A2 A7 w w'){p:Addr}{v:Value}(d:w.cell? p=some v):w'.cell? p=some v:=by
 have y:p.block<w.heap.size:=by
  rcases Eg p.block w.heap.size with h|h
  ·exact h
  ·unfold World.cell? at d;rw[IU h]at d;simp at d
 unfold World.cell? at d ⊢;rw[h.Ao _ y (λh=>h)];exact d
structure App (w w':World) (e size:Nat) (v v':Value) (n:Nat) (xs:List Value):Prop where
 AA:w'.ownsRow 0 e size v' n xs
 Dc:w.grownBy w' v.ownBlock
 BJ:v'.ownBlock=v.ownBlock\/v'.ownBlock=some w.heap.size
 BU:∃a cap,v'=.slice a n cap
def P5{P:Program}(w:World)(t tx ty e:TypeId)(i:TypeInfo)(z:Value)(size bytes:Nat)(ht:P.underlying t=some (.slice e))(hi:P.info? e=some i)(hz:i.zero=some z)(L:i.size=size)(aF:i.bytes=bytes)(aH:z.cells.size=size)(aE:0<bytes)(v:Value)(n:Nat)(xs:List Value)(d:w.ownsRow 0 e size v n xs)(x:Value)(m:Nat)(news:List Value)(I:Src P size tx x m news w)(E:(n+m)*bytes<=140737488355328):
 ∃v' w',(Builtin.append_ #[t,tx] ty #[v,x]).run P w=.ok v' w'/\App w w' e size v v' (n+m) (xs++news):=by
 subst L;subst aF;have hnm:=Az (Nat.le_mul_of_pos_right _ aE) E;have h:(xs++news).length=(n+m)*i.size:=by rw[B2,d.1,I.newsLen,IG]
 obtain⟨a,cap,rfl,hnc,aB,_,Y,O⟩:=AR d;by_cases y:n+m<=cap
 ·rcases d.2 with⟨h1,h2⟩|⟨g,cap',H,h1,_,hg,_,_,aG,U⟩
  ·cases h1;(obtain rfl:m=0:=by omega);have hn:=Hu (by simpa using I.newsLen);subst hn;have hx:=Hu (by simpa using d.1);subst hx;refine⟨.slice none 0 0,w,?_,⟨BW w 0 e i.size,⟨rfl,rfl,rfl,Aw _,λ_ _ _=>rfl⟩,.inl rfl,⟨none,0,rfl⟩⟩⟩;rcases I.kind with⟨e',J⟩|J<;>simp[Builtin.append_,run_underlying ht,run_underlying J,sizeOf,typeInfo,hi,I.len,I.cells]
  ·cases h1;(have Z:n*i.size+news.length<=H.size:=by rw[I.newsLen,aG,<-IG];exact GS _ y);have V:=run_storeCells_at P g (n*i.size) e news 0 H w hg (by simpa using Z) I.one;simp only[Np]at V;have hr:(Builtin.append_ #[t,tx] ty #[AH g n cap,x]).run P w=.ok (AH g (n+m) cap) (w.setRow g (H.toList.take (n*i.size)++news++H.toList.drop (n*i.size+news.length)).toArray):=by
    rcases I.kind with⟨e',J⟩|J<;>simp[Builtin.append_,run_underlying ht,run_underlying J,sizeOf,typeInfo,hi,I.len,y,I.cells,Addr.add_lit,V]
   refine⟨_,_,hr,⟨⟨h,.inr ⟨g,cap,_,rfl,CL _,H7 w g H _ e _ hg,y,aB,?_,?_⟩⟩,⟨rfl,rfl,rfl,by simp,λk _ J=>Gs w g k _ (λe=>J (by simp[Value.ownBlock,e]))⟩,.inl rfl,⟨_,_,rfl⟩⟩⟩
   ·simp only[Hq,B2,Dg,CS,Hx];omega
   ·rw[U,<-h];exact Hp
 ·have W:(Builtin.firstCells i.size n (.slice a n cap)).run P w.drew=.ok xs.toArray w.drew:=by
   cases a with
   | none=>
    obtain⟨rfl,_⟩:=Y rfl;have hx:=Hu (by simpa using d.1);subst hx;exact run_firstCells_none w.drew i.size 0 0 cap
   | some ad=>
    obtain⟨g,rfl⟩:=O ad rfl;exact L9 w.drew i.size n _ n cap xs d.1 (by simpa using d.cells (g:=g) rfl)
  have hr:=run_append_grow_src (P:=P) w t tx ty e i z ht hi hz a n cap xs W x m news I (by omega) (by omega) (growslice_fits (by omega) E);have aA:=grownCap_ge w (n+m) cap e;have aD:=RD w (n+m) cap e (by unfold maxLen;omega);refine⟨_,_,hr,⟨⟨h,.inr ⟨w.heap.size,_,_,rfl,CL _,Bw w.drew _,aA,aD,?_,?_⟩⟩,⟨rfl,rfl,rfl,by simp,λk J _=>DD w.drew _ k J⟩,.inr rfl,⟨_,_,rfl⟩⟩⟩
  ·simp only[Array.size_append,Hq,size_zeroCells,aH,h,<-IG]
   congr 1
   omega
  ·simp only[Kt];rw[<-h];exact Hp
section
variable {P:Program} {w:World}
def H0{o:Oper}{a:Act}{K:Act->World->Prop}{Q:Exit->Act->World->Prop}(s x:Operand)(t L:TypeId)(W:o.op=.call {callee:=.builtin .append,args:=#[s,x],argTypes:=#[t,L]})(e:TypeId)(i:TypeInfo)(z:Value)(size bytes:Nat)(U:P.underlying t=some (.slice e))(hi:P.info? e=some i)(V:i.zero=some z)(y:i.size=size)(I:i.bytes=bytes)(J:z.cells.size=size)(H:0<bytes)(v:Value)(n:Nat)(xs:List Value)(hv:a.eval s=v)(E:w.ownsRow 0 e size v n xs)(sv:Value)(m:Nat)(news:List Value)(hx:a.eval x=sv)(Z:Src P size L sv m news w)(d:(n+m)*bytes<=140737488355328)(h:∀b cap w',App w w' e size v (.slice b (n+m) cap) (n+m) (xs++news)->K (a.put o.dst (.slice b (n+m) cap)) w'):o.wp P a w K Q:=by
 obtain⟨v',w',Y,O⟩:=P5 (P:=P) w t L o.type e i z size bytes U hi V y I J H v n xs E sv m news Z d;obtain⟨b,cap,rfl⟩:=O.BU;unfold Oper.wp execOp;simp only[W,resolve,invoke,builtin,Sem.run_bind,Sem.run_pure,Result.andThen_ok,List.map_toArray,ET,List.map_nil,hv,hx,Y];exact h b cap w' O
def C7{ops:Array Oper}{rest:List Oper}{o:Oper}{a:Act}{Q:Exit->Act->World->Prop}(H:o.guard=none)(s x:Operand)(t O:TypeId)(Z:o.op=.call {callee:=.builtin .append,args:=#[s,x],argTypes:=#[t,O]})(e:TypeId)(i:TypeInfo)(z:Value)(size bytes:Nat)(U:P.underlying t=some (.slice e))(hi:P.info? e=some i)(Y:i.zero=some z)(y:i.size=size)(J:i.bytes=bytes)(L:z.cells.size=size)(I:0<bytes)(v:Value)(n:Nat)(xs:List Value)(hv:a.eval s=v)(E:w.ownsRow 0 e size v n xs)(sv:Value)(m:Nat)(news:List Value)(hx:a.eval x=sv)(hs:Src P size O sv m news w)(d:(n+m)*bytes<=140737488355328)(h:∀b cap w',App w w' e size v (.slice b (n+m) cap) (n+m) (xs++news)->wpList P ops Q rest (a.put o.dst (.slice b (n+m) cap)) w'):wpList P ops Q (o::rest) a w:=
 wpList_plain H λ_ V=>H0 s x t O Z e i z size bytes U hi Y y J L I v n xs hv E sv m news hx hs d λb cap w' W=>V _ _ (h b cap w' W)
def H6{y:Nat->Option Bool}{o:Oper}{a:Act}{K:Act->World->Prop}{Q:Exit->Act->World->Prop}{E:Prop}(J:o.guard=none)(s x:Operand)(t V:TypeId)(ho:o.op=.call {callee:=.builtin .append,args:=#[s,x],argTypes:=#[t,V]})(e:TypeId)(i:TypeInfo)(z:Value)(size bytes:Nat)(W:P.underlying t=some (.slice e))(hi:P.info? e=some i)(Y:i.zero=some z)(H:i.size=size)(O:i.bytes=bytes)(U:z.cells.size=size)(L:0<bytes)(v:Value)(n:Nat)(xs:List Value)(hv:a.eval s=v)(I:w.ownsRow 0 e size v n xs)(sv:Value)(m:Nat)(news:List Value)(hx:a.eval x=sv)(hs:Src P size V sv m news w)(d:(n+m)*bytes<=140737488355328)(h:∀b cap w',App w w' e size v (.slice b (n+m) cap) (n+m) (xs++news)->K (a.put o.dst (.slice b (n+m) cap)) w'):
 if Region.wanted o y=true then Oper.wp P o a w K Q else E:=by
 have Z:Region.wanted o y=true:=by simp[Region.wanted,J]
 rw[Am Z];exact H0 s x t V ho e i z size bytes W hi Y H O U L v n xs hv I sv m news hx hs d h
def Src.bJ{size:Nat}{h H:TypeId}(y:P.underlying h=some (.slice H)){B:Nat}{d:Array Value}{t:TypeId}{J:Nat×Nat}(I:w.heap[B]?=some (.cells d t J))(m c:Nat)(z:d.size=m*size)(E:∀u∈d.toList,u.oneCell'=true):Src P size h (.slice (some ⟨B,0,none⟩) m c) m d.toList w:=
 Gc w y _ m c _ (by simpa using z) (World.news_of_block I) E
def Src.aW{size:Nat}{h I:TypeId}(y:P.underlying h=some (.slice I))(w:World)(d:Array Value)(t B:Nat)(H:w.heap.size=B)(m c:Nat)(z:d.size=m*size)(E:∀u∈d.toList,u.oneCell'=true):Src P size h (.slice (some ⟨B,0,none⟩) m c) m d.toList (w.alloc (.cells d t)):=by
 subst H;exact Src.bJ y (Bw _ _) m c z E
def Src.bo{size:Nat}{E I e:TypeId}(z:P.underlying E=some (.slice I)){v:Value}{m:Nat}{news:List Value}(h:w.ownsRow 0 e size v m news)(H:∀u∈news,u.oneCell'=true):Src P size E v m news w:=by
 obtain⟨a,cap,rfl,_,_,_,y,d⟩:=AR h;cases a with
 | none=>
  obtain⟨rfl,rfl⟩:=y rfl;have J:=Hu (by simpa using h.1);subst J;exact Src.ofNil w z 0
 | some ad=>
  obtain⟨g,rfl⟩:=d ad rfl;exact Gc w z _ m cap news h.1 (h.cells rfl) H
end
end
abbrev Pt:=Int×Int
def BZ:List Pt->Int->Int->List Pt
 | [],t,v=>[(t,v)]
 | (a,b):: r,t,v=>if a<t then (a,b):: BZ r t v else if a=t then (t,v):: r else (t,v):: (a,b):: r
def Dt(l:List Pt):Prop:=l.Pairwise λx y=>x.1<y.1
def Rt{l:List Pt}{t v:Int}{x:Pt}(h:x∈BZ l t v):x=(t,v)\/x∈l:=by
 induction l with
 | nil=>simp[BZ]at h;exact .inl h
 | cons e r ih=>
  obtain⟨a,b⟩:=e;simp only[BZ]at h;split at h
  ·rcases Cf.1 h with h|h
   ·exact .inr (by simp[h])
   ·rcases ih h with h|h
    ·exact .inl h
    ·exact .inr (BK _ h)
  ·split at h
   ·rcases Cf.1 h with h|h
    ·exact .inl h
    ·exact .inr (BK _ h)
   ·rcases Cf.1 h with h|h
    ·exact .inl h
    ·exact .inr h
def JF{l:List Pt}(h:Dt l)(t v:Int):Dt (BZ l t v):=by
 induction l with
 | nil=>simp[BZ,Dt]
 | cons e r ih=>
  obtain⟨a,b⟩:=e;have y:=D3.1 h;simp only[BZ];split
  ·rename_i z;refine D3.2 ⟨λx d=>?_,ih y.2⟩;rcases Rt d with rfl|d
   ·exact z
   ·exact y.1 x d
  ·rename_i z;split
   ·rename_i E;subst E;exact D3.2 ⟨λx d=>y.1 x d,y.2⟩
   ·rename_i E;refine D3.2 ⟨λx d=>?_,h⟩;rcases Cf.1 d with rfl|d
    ·show t<a;omega
    ·have:=y.1 x d;show t<x.1;simp only at this;omega
def AZ(l:List Pt)(t:Int):Nat:=(l.takeWhile λx=>decide (x.1<t)).length
def G2(l:List Pt)(t:Int):AZ l t<=l.length:=by
 unfold AZ;exact(List.takeWhile_sublist _).length_le
def Gv{l:List Pt}{t:Int}{i:Nat}(h:i<AZ l t)(y:i<l.length):(l[i]'y).1<t:=by
 unfold AZ at h
 induction l generalizing i with
 | nil=>simp at y
 | cons e r ih=>
  by_cases d:e.1<t
  ·simp only[Kb,d,MF,BM,Cr]at h;cases i with
   | zero=>exact d
   | succ i=>simp only[Nz];exact ih (by omega) _
  ·simp[d]at h
def He{l:List Pt}(E:Dt l){t:Int}{i:Nat}(h:AZ l t<=i)(y:i<l.length):t<=(l[i]'y).1:=by
 unfold AZ at h
 induction l generalizing i with
 | nil=>simp at y
 | cons e r ih=>
  have d:=D3.1 E;by_cases z:e.1<t
  ·simp only[Kb,z,MF,BM,Cr]at h;cases i with
   | zero=>omega
   | succ i=>simp only[Nz];exact ih d.2 (by omega) _
  ·cases i with
   | zero=>simp only[Hs];omega
   | succ i=>
    have:=d.1 (r[i]'(by simpa using y)) (Cx _);simp only[Nz];omega
def Lx{l:List Pt}(H:Dt l){t:Int}{k:Nat}(hk:k<=l.length)(E:∀i (y:i<l.length),i<k->(l[i]'y).1<t)(z:∀i (y:i<l.length),k<=i->t<=(l[i]'y).1):AZ l t=k:=by
 rcases No (AZ l t) k with h|h|h
 ·have d:AZ l t<l.length:=by omega
  have:=E _ d h;have:=He H (Aw (AZ l t)) d;omega
 ·exact h
 ·have hp:=G2 l t;have d:k<l.length:=by omega
  have:=Gv h d;have:=z k d (Aw k);omega
def Ru(l:List Pt)(t v:Int):BZ l t v=l.take (AZ l t)++(t,v):: (if (l[AZ l t]?).any (λx=>x.1==t) then l.drop (AZ l t+1) else l.drop (AZ l t)):=by
 unfold AZ
 induction l with
 | nil=>simp[BZ]
 | cons e r ih=>
  obtain⟨a,b⟩:=e;simp only[BZ];by_cases h:a<t
  ·simp only[h,BM,Kb,MF,Cr,Ei,Dh,List.getElem?_cons_succ,Fc,ih]
  ·by_cases d:a=t
   ·subst d;simp
   ·simp[h,d]
def Mu{l:List Pt}(V:Dt l)(p:Int->Bool)(t v:Int):(BZ l t v).filter (λx=>p x.1)=if p t then BZ (l.filter λx=>p x.1) t v else l.filter (λx=>p x.1):=by
 induction l with
 | nil=>by_cases h:p t<;>simp[BZ,h]
 | cons e r L=>
  obtain⟨a,b⟩:=e;have E:=D3.1 V;have L:=L E.2;simp only[BZ];by_cases I:a<t
  ·simp only[I,BM,DB,L];by_cases h:p t<;>by_cases z:p a<;>simp[h,z,BZ,I]
  ·by_cases J:a=t
   ·subst J;simp only[I,BG,BM,DB];by_cases h:p a<;>simp[h,BZ]
   ·simp only[I,J,BG,DB];by_cases h:p t
    ·by_cases z:p a
     ·simp[h,z,BZ,I,J]
     ·simp only[h,z,BM];have H:∀x∈r.filter (λx=>p x.1),t<x.1:=λx W=>by
       have:=E.1 x (Gf.1 W).1;simp only at this;omega
      cases hr:r.filter (λx=>p x.1) with
      | nil=>simp[BZ]
      | cons y ys=>
       obtain⟨c,d⟩:=y;have:=H (c,d) (by rw[hr];simp);simp only at this;(have U:¬c<t:=by omega);(have O:¬c=t:=by omega);simp[BZ,U,O]
    ·by_cases z:p a<;>simp[h,z]
def Dt.dF{l:List Pt}(h:Dt l)(k:Nat):Dt (l.drop k):=Ty (List.drop_sublist k l) h
def RJ{l:List Pt}(O:Dt l)(a b:Int):l.filter (λx=>decide (a<=x.1)&&decide (x.1<b))=(l.take (AZ l b)).drop (AZ l a):=by
 unfold AZ
 induction l with
 | nil=>simp
 | cons e r h=>
  have d:=D3.1 O;have h:=h d.2;by_cases z:e.1<b
  ·by_cases H:e.1<a
   ·(have:¬a<=e.1:=by omega);simp[H,z,this,h]
   ·(have L:a<=e.1:=by omega);have J:r.takeWhile (λx=>decide (x.1<a))=[]:=by
     cases r with
     | nil=>rfl
     | cons y ys=>have:=d.1 y (by simp);rw[Kb];have:¬y.1<a:=by omega
                  simp[this]
    simp only[J,Gg,Da]at h;simp[H,z,L,h]
  ·(have I:∀x∈r,¬x.1<b:=λx E=>by have:=d.1 x E;omega);have:r.filter (λx=>decide (a<=x.1)&&decide (x.1<b))=[]:=by
    rw[NC];intro x E;have:=I x E;simp[this]
   simp[z,this]
section
open Go.RowKit
attribute [local go_sem ↓] Go.wp_at_zero Go.wp_at_succ
def D7(t d Ab:Int):Bool:=decide (t+d>Ab)
def AE(x:Int):Prop:=-9223372036854775808<=x/\x<=9223372036854775807
def D4(Ab d:Int):Int:=if Ab>9223372036854775807-d then 9223372036854775807 else Ab+d
end
section
open Go.RowKit
def AQ:List Pt->List Value
 | []=>[]
 | (t,v):: r=>A0 t::A0 v::AQ r
def E8(l:List Pt):(AQ l).length=l.length*2:=by
 induction l with
 | nil=>rfl
 | cons e r ih=>obtain⟨n,f⟩:=e;simp only[AQ,Cr,ih];omega
def Lw(a b:List Pt):AQ (a++b)=AQ a++AQ b:=by
 induction a with
 | nil=>rfl
 | cons e r ih=>obtain⟨n,f⟩:=e;simp[AQ,ih]
def Jk(l:List Pt)(k:Nat):(AQ l).take (k*2)=AQ (l.take k):=by
 induction l generalizing k with
 | nil=>simp[AQ]
 | cons e r ih=>
  obtain⟨n,f⟩:=e
  match k with
  | 0=>simp[AQ]
  | k+1=>rw[show (k+1)*2=k*2+1+1 from by omega];simp[AQ,ih]
def HT(l:List Pt)(k:Nat):(AQ l).drop (k*2)=AQ (l.drop k):=by
 induction l generalizing k with
 | nil=>simp[AQ]
 | cons e r ih=>
  obtain⟨n,f⟩:=e
  match k with
  | 0=>simp[AQ]
  | k+1=>rw[show (k+1)*2=k*2+1+1 from by omega];simp[AQ,ih]
def PH(l:List Pt)(k:Nat)(h:k<l.length):(AQ l)[k*2]?=some (A0 (l[k]'h).1):=by
 induction l generalizing k with
 | nil=>simp at h
 | cons e r ih=>
  obtain⟨n,f⟩:=e
  match k with
  | 0=>simp[AQ]
  | k+1=>
   have:=ih k (by simpa using h);rw[show (k+1)*2=k*2+1+1 from by omega];simpa[AQ] using this
def PG(l:List Pt)(k:Nat)(h:k<l.length):(AQ l)[k*2+1]?=some (A0 (l[k]'h).2):=by
 induction l generalizing k with
 | nil=>simp at h
 | cons e r ih=>
  obtain⟨n,f⟩:=e
  match k with
  | 0=>simp[AQ]
  | k+1=>
   have:=ih k (by simpa using h);rw[show (k+1)*2+1=k*2+1+1+1 from by omega];simpa[AQ] using this
def PI(l:List Pt)(k:Nat)(p:Pt)(h:k<l.length):((AQ l).set (k*2) (A0 p.1)).set (k*2+1) (A0 p.2)=AQ (l.set k p):=by
 induction l generalizing k with
 | nil=>simp at h
 | cons e r ih=>
  obtain⟨n,f⟩:=e
  match k with
  | 0=>simp[AQ]
  | k+1=>
   have:=ih k (by simpa using h);rw[show (k+1)*2=k*2+1+1 from by omega];simp only[AQ,Nq];rw[this]
def HS(l:List Pt):∀u∈AQ l,u.oneCell'=true:=by
 induction l with
 | nil=>simp[AQ]
 | cons e r ih=>
  obtain⟨n,f⟩:=e;intro u hu;simp only[AQ,Cf]at hu;rcases hu with rfl|rfl|hu
  ·rfl
  ·rfl
  ·exact ih u hu
def CR(w:World)(v:Value)(l:List Pt):Prop:=w.ownsRow 0 70 2 v l.length (AQ l)
def CR.bh{w:World}{g n cap:Nat}{l:List Pt}(h:CR w (AH g n cap) l)(k:Nat)(d:k<l.length):A5 w g (k*2) (A0 (l[k]'d).1)/\A5 w g (k*2+1) (A0 (l[k]'d).2):=by
 have y:n=l.length:=by
  obtain⟨_,_,e,_⟩:=AR h;cases e;rfl
 subst y;exact⟨Be h rfl (PH l k d),Be h rfl (PG l k d)⟩
abbrev Pu:=Int×Int×Int
def Bv:List Pu->List Value
 | []=>[]
 | (s,t,v):: r=>A0 s::A0 t::A0 v::Bv r
def G1(a b:List Pu):Bv (a++b)=Bv a++Bv b:=by
 induction a with
 | nil=>rfl
 | cons e r ih=>obtain⟨n,f,g⟩:=e;simp[Bv,ih]
def Fl(l:List Pu)(k:Nat)(h:k<l.length):(Bv l)[k*3]?=some (A0 (l[k]'h).1)/\(Bv l)[k*3+1]?=some (A0 (l[k]'h).2.1)/\(Bv l)[k*3+2]?=some (A0 (l[k]'h).2.2):=by
 induction l generalizing k with
 | nil=>simp at h
 | cons e r ih=>
  obtain⟨n,f,g⟩:=e
  match k with
  | 0=>simp[Bv]
  | k+1=>
   obtain⟨y,d,z⟩:=ih k (by simpa using h);rw[show (k+1)*3=k*3+1+1+1 from by omega];refine⟨by simpa[Bv] using y,by simpa[Bv] using d,by simpa[Bv] using z⟩
def FE(l:List Pu):∀u∈Bv l,u.oneCell'=true:=by
 induction l with
 | nil=>simp[Bv]
 | cons e r ih=>
  obtain⟨n,f,g⟩:=e;intro u hu;simp only[Bv,Cf]at hu;rcases hu with rfl|rfl|rfl|hu
  ·rfl
  ·rfl
  ·rfl
  ·exact ih u hu
end
section
open Go
def Nb{α:Type}{l:List α}{i:Nat}{a:α}:l.toArray.setIfInBounds i a=(l.set i a).toArray:=Td _ _ _
def Na{α:Type}{x a:α}{xs:List α}:(x::xs).set 0 a=a::xs:=rfl
def N9{α:Type}{x a:α}{xs:List α}{n:Nat}:(x::xs).set (n+1) a=x::xs.set n a:=rfl
def N8{α:Type}{l:List α}{i:Nat}(h:i<l.toArray.size):l.toArray[i]=l[i]'(by simpa using h):=rfl
def N7{α:Type}{a:α}{l:List α}(h:0<(a::l).length):(a::l)[0]=a:=rfl
def TI{α:Type}{a:α}{l:List α}{i:Nat}(h:i+1<(a::l).length):(a::l)[i+1]=l[i]'(Tb h):=rfl
def BD{α:Type}{a:α}{l:List α}{n:Nat}:(a::l).drop (n+1)=l.drop n:=rfl
def BC{α:Type}{l:List α}:l.drop 0=l:=rfl
section
variable {P:Program} {ops:Array Oper} {md:Region.Mode} {Q:Exit->Act->World->Prop} {S:World->Prop}
def H4(P:Program)(md:Region.Mode)(ops:Array Oper)(Q:Exit->Act->World->Prop)(S:World->Prop)(n:Nat)(L:Array Bool->Act->World->Prop):Nat->Array Bool->Act->World->Prop
 | 0,listed,a,w=>L listed a w
 | f+1,listed,a,w=>Region.ready md ops listed≠[]/\∀i∈Region.ready md ops listed,i<n/\wpOp P ops Q i (λa' w'=>S w'/\H4 P md ops Q S n L f (listed.setIfInBounds i true) a' w') a w
def KD{n g:Nat}{L:Array Bool->Act->World->Prop}(d:∀listed a w,L listed a w->wpAny P md ops Q g listed a w):
 ∀(f:Nat) (listed:Array Bool) (a:Act) (w:World),H4 P md ops Q S n L f listed a w->wpAny P md ops Q (f+g) listed a w
 | 0,listed,a,w,h=>by rw[ED];exact d _ _ _ h
 | f+1,listed,a,w,h=>by
  rw[show f+1+g=(f+g)+1 from by omega];exact⟨λE=>absurd E h.1,λi z=>H3 (λa' w' y=>KD d f _ a' w' y.2) (h.2 i z).2⟩
def O2{n i:Nat}{Y:Oper}{v:Value}{L:Array Bool->Act->World->Prop}(hi:ops[i]?=some Y)(U:∀(j:Nat) (o:Oper) cs b,ops[j]?=some o->o.op≠.select cs b)(hQ:∀c a w,Q (.panic c) (a.put Y.dst v) w->Q (.panic c) a w)(hs:Region.sinkB md ops n=true)(hc:Region.chainB md ops n=true)(hn:n<ops.size)(aD:i<n)(Z:∀listed a w,L listed a w->∀j∈Region.ready md ops listed,n<=j):
 ∀(f:Nat) (listed:Array Bool) (a:Act) (w:World),HeadInv md ops n listed->
  (∀j oj,ops[j]?=some oj->j≠i->listed.getD j true=false->(∀e∈oj.after,Region.binds md e=true->e.on≠i)->Y.apart ops oj=true)->
  i∈Region.ready md ops listed->YieldsIf P ops S Y v a->S w->
  H4 P md ops Q S n L f (listed.setIfInBounds i true) (a.put Y.dst v) w->H4 P md ops Q S n L (f+1) listed a w:=by
 intro f
 induction f with
 | zero=>
  intro listed a w I _ V hy hS H;have y:=(FH.1 V).1;refine⟨λh=>(by rw[h]at V;cases V),λj hj=>?_⟩;have J:j<n:=by
   rcases Eg j n with h|h
   ·exact h
   ·exact absurd hj (HF hs hc hn I _ i rfl aD y j h)
  refine⟨J,?_⟩;by_cases d:j=i
  ·subst d;exact hy.wpOp hi hS ⟨hS,H⟩
  ·have:=Z _ _ _ H j (Hc hj d);omega
 | succ f ih=>
  intro listed a w I z V hy hS H;have y:=(FH.1 V).1;refine⟨λh=>(by rw[h]at V;cases V),λj hj=>?_⟩;have J:j<n:=by
   rcases Eg j n with h|h
   ·exact h
   ·exact absurd hj (HF hs hc hn I _ i rfl aD y j h)
  refine⟨J,?_⟩;by_cases d:j=i
  ·subst d;exact hy.wpOp hi hS ⟨hS,H⟩
  ·have h1:=(H.2 j (Hc hj d)).2;obtain⟨O,oj,W,aE⟩:=FH.1 hj;have aB:∀e∈oj.after,Region.binds md e=true->e.on≠i:=λe he hb aH=>by
    have h1:=aE e he hb;rw[aH,getD_both y]at h1;cases h1
   have h2:=wpOp_putIf W (z j oj W d O aB) (λcs b=>U i Y cs b hi) (λcs b=>U j oj cs b W) hQ hy h1;have E:∀k ok,ops[k]?=some ok->k≠i->(listed.setIfInBounds j true).getD k true=false->
    (∀e∈ok.after,Region.binds md e=true->e.on≠i)->Y.apart ops ok=true:=λk ok hk aG y aF=>by
    refine z k ok hk aG ?_ aF;by_cases aA:j=k
    ·subst aA;exact O
    ·rw[Ih true aA]at y;exact y
   refine H3 (λa' w' h3=>⟨h3.2.1,ih (listed.setIfInBounds j true) a' w' (I.set hj J) E (Hc V (K6 d)) h3.1 h3.2.1 ?_⟩) h2;rw[NR _ _ d];exact h3.2.2
def DX(P:Program)(ops:Array Oper)(Q:Exit->Act->World->Prop)(S:World->Prop)(T:Act->World->Prop):List (Nat×Bool)->Act->World->Prop
 | [],a,w=>T a w
 | (i,true):: r,a,w=>∃o v,ops[i]?=some o/\YieldsIf P ops S o v a/\DX P ops Q S T r (a.put o.dst v) w
 | (i,false):: r,a,w=>wpOp P ops Q i (λa' w'=>S w'/\DX P ops Q S T r a' w') a w
def H9(md:Region.Mode)(ops:Array Oper)(n:Nat):List (Nat×Bool)->Array Bool->Bool
 | [],listed=>Region.seqB md ops (ops.size-n) n listed
 | (i,t):: r,listed=>decide (i<n)&&(if t then (Region.ready md ops listed).contains i&&Region.free md ops listed i else decide (Region.ready md ops listed=[i]))&&H9 md ops n r (listed.setIfInBounds i true)
def HL(ops:Array Oper)(n:Nat)(d:List (Nat×Bool)):Bool:=
 Region.noSelect ops&&decide (n<ops.size)&&decide (d.length=n)&&Region.sinkB .any ops n&&Region.chainB .any ops n&&H9 .any ops n d (Array.replicate ops.size false)
def IW{n:Nat}{T:Act->World->Prop}(y:Region.noSelect ops=true)(U:Region.sinkB md ops n=true)(W:Region.chainB md ops n=true)(V:n<ops.size)(L:∀c a t v w,Q (.panic c) (Act.put a (some t) v) w->Q (.panic c) a w):
 ∀(I:List (Nat×Bool)) (listed:Array Bool) (a:Act) (w:World),HeadInv md ops n listed->H9 md ops n I listed=true->S w->DX P ops Q S T I a w->
 H4 P md ops Q S n (λd a' w'=>Region.seqB md ops (ops.size-n) n d=true/\T a' w') I.length listed a w
 | [],listed,a,w,_,hB,_,h=>⟨hB,h⟩
 | (i,true):: r,listed,a,w,inv,hB,hS,h=>by
  simp only[H9,Ek,De,BM]at hB;obtain⟨⟨z,J,hf⟩,H⟩:=hB;obtain⟨o,v,Y,hy,hK⟩:=h;have E:i∈Region.ready md ops listed:=by simpa using J
  exact O2 Y (N5 y) (λc a w=>by cases o.dst with|none=>exact id|some t=>exact L c a t v w) U W V z (λd a' w' hL=>L1 hL.1) r.length listed a w inv (N6 Y hf) E hy hS
   (IW y U W V L r _ _ w (inv.set E z) H hS hK)
 | (i,false):: r,listed,a,w,inv,hB,hS,h=>by
  simp only[H9,Ek,De,Kq,BG]at hB;obtain⟨⟨z,J⟩,H⟩:=hB;refine⟨by rw[J];simp,λj Z=>?_⟩;have E:i∈Region.ready md ops listed:=by rw[J];simp
  rw[J]at Z;have:j=i:=by simpa using Z
  subst this;exact⟨z,H3 (λa' w' O=>⟨O.1,IW y U W V L r _ a' w' (inv.set E z) H O.1 O.2⟩) h⟩
def EJ{id:Nat}{a:Act}{w:World}{l:List Oper}(S:World->Prop)(n:Nat)(d:List (Nat×Bool))(U:P.follows .mixedOrders=true)(J:HL l.toArray n d=true)(O:∀c a t v w,Q (.panic c) (Act.put a (some t) v) w->Q (.panic c) a w)(V:S w.drew)(h:DX P l.toArray Q S (λa w=>wpList P l.toArray Q (l.drop n) a w) d a w.drew):(Code.region id l.toArray true).wp P Q a w:=by
 simp only[HL,Ek,De]at J;obtain⟨⟨⟨⟨⟨hsel,hn⟩,hsl⟩,hs⟩,hc⟩,hgo⟩:=J;have z:(l.drop n).length=l.toArray.size-n:=by simp
 have y:HeadInv .any l.toArray n (Array.replicate l.toArray.size false):=
  ⟨by simp,λj oj _ I=>(by rw[GK]at I;cases I),λt _ L=>getD_in (by simpa using L) (GK _ _)⟩
 have H:=IW (md:=.any) (T:=λa w=>wpList P l.toArray Q (l.drop n) a w) hsel hs hc hn O d _ a w.drew y hgo V h;refine Ky U ?_
 have:=KD (Q:=Q) (g:=l.toArray.size-n) (λlisted a' w' E=>by
  have:=KC (md:=.any) (Q':=Q) (l.drop n) n listed a' w' (λj=>by simp[List.getElem?_drop]) (by rw[z];exact E.1) E.2
  rwa [z]at this) _ _ _ _ H
 rw[hsl,show n+(l.toArray.size-n)=l.toArray.size from by omega]at this;exact this
def DW{i:Nat}{o:Oper}{v:Value}{r:List (Nat×Bool)}{a:Act}{w:World}{T:Act->World->Prop}(y:ops[i]?=some o)(d:Region.wanted o (yielded ops a.tmps)=true)(z:∀w,S w->(execOp a.eval o).run P w=.ok (.value v) w)(h:DX P ops Q S T r (a.put o.dst v) w):DX P ops Q S T ((i,true):: r) a w:=
 ⟨o,v,y,.inl ⟨d,z⟩,h⟩
def Bd{a:Act}{w:World}{T:Act->World->Prop}(h:T a w):DX P ops Q S T [] a w:=h
def Em{i:Nat}{o:Oper}{r:List (Nat×Bool)}{a:Act}{w:World}{T:Act->World->Prop}(E:ops[i]?=some o)(y:Region.wanted o (yielded ops a.tmps)=true)(h:∀K:Act->World->Prop,(∀a w,S w->(S w->DX P ops Q S T r a w)->K a w)->o.wp P a w K Q):DX P ops Q S T ((i,false):: r) a w:=by
 show wpOp P ops Q i _ a w;unfold wpOp;simp only[E,y,BM];exact .inl (h _ λa w d z=>⟨d,z d⟩)
def B5{i:Nat}{o:Oper}{v:Value}{r:List (Nat×Bool)}{a:Act}{w:World}{T:Act->World->Prop}(h:DX P ops Q S T r (a.put o.dst v) w)(y:ops[i]?=some o:=by rfl)(d:Region.wanted o (yielded ops a.tmps)=true:=by rfl)(z:∀w,S w->(execOp a.eval o).run P w=.ok (.value v) w:=by intro w' E;(try dsimp only at E);go_simp;try with_reducible rfl):DX P ops Q S T ((i,true):: r) a w:=DW y d z h
def B7{i:Nat}{o:Oper}{r:List (Nat×Bool)}{a:Act}{w:World}{T:Act->World->Prop}(h:∀K:Act->World->Prop,(∀a w,S w->(S w->DX P ops Q S T r a w)->K a w)->o.wp P a w K Q)(y:ops[i]?=some o:=by rfl)(d:Region.wanted o (yielded ops a.tmps)=true:=by rfl):DX P ops Q S T ((i,false):: r) a w:=Em y d h
def BH{id:Nat}{a:Act}{w:World}{l:List Oper}(S:World->Prop)(n:Nat)(d:List (Nat×Bool))(z:S w.drew)(h:DX P l.toArray Q S (λa w=>wpList P l.toArray Q (l.drop n) a w) d a w.drew)(y:P.follows .mixedOrders=true:=by kernel_rfl)(E:HL l.toArray n d=true:=by kernel_rfl)(H:∀c a t v w,Q (.panic c) (Act.put a (some t) v) w->Q (.panic c) a w:=by exact λ_ _ _ _ _ h=>h):(Code.region id l.toArray true).wp P Q a w:=EJ S n d y E H z h
end
def IB(Q:Exit->Act->World->Prop):Exit->Act->World->Prop
 | .panic _,_,_=>False
 | e,a,w=>Q e a w
def C5(Q:Exit->Act->World->Prop)(a:Act)(w:World):IB Q .normal a w=Q .normal a w:=rfl
def T9{Q:Exit->Act->World->Prop}{e:Exit}{a:Act}{w:World}(h:IB Q e a w):Q e a w:=by
 cases e with
 | panic _=>exact h.elim
 | _=>exact h
def Kx{P:Program}{Q:Exit->Act->World->Prop}{id:Nat}{a:Act}{w:World}{l:List Oper}(S:World->Prop)(n:Nat)(d:List (Nat×Bool))(y:P.follows .mixedOrders=true)(E:HL l.toArray n d=true)(z:S w.drew)(h:DX P l.toArray (IB Q) S (λa w=>wpList P l.toArray (IB Q) (l.drop n) a w) d a w.drew):(Code.region id l.toArray true).wp P Q a w:=
 Code.wp_mono (λ_ _ _ h=>T9 h) (EJ S n d y E (λ_ _ _ _ _ h=>h) z h)
end
section
open Go.RowKit
attribute [local go_sem ↓] Go.wp_at_zero Go.wp_at_succ
def Dv(c n:Int):Int:=(if c<0 then -(c+1) else c) % n
def Hh(c n:Int)(d:0<n):0<=Dv c n/\Dv c n<n:=by
 unfold Dv;exact⟨NN _ (by omega),NO _ d⟩
def Jv(w:World)(c n:Int)(H:AE c)(I:0<n/\n<=9223372036854775807):
 Ac 20 #[A0 c,A0 n] w (Ak (A0 (Dv c n)) λw'=>w=w'):=by
 obtain⟨c1,c2⟩:=H;obtain⟨E,n2⟩:=I;have y:=Hh c n E;have n0:¬n=0:=by omega
 have nm:¬n = -1:=by omega
 by_cases h:c<0
 ·have e1:IntKind.i64.wrap (c+1)=c+1:=by simp[IntKind.wrap,IntKind.bits,IntKind.signed];omega
  have e2:IntKind.i64.wrap (-(c+1)) = -(c+1):=by simp[IntKind.wrap,IntKind.bits,IntKind.signed];omega
  have d:Dv c n = -((c+1).tmod n):=by unfold Dv;rw[Am h,<-NL,Int.tmod_eq_emod_of_nonneg (by omega)]
  rw[d]at y ⊢;have z:IntKind.i64.wrap (-((c+1).tmod n)) = -((c+1).tmod n):=by simp[IntKind.wrap,IntKind.bits,IntKind.signed];omega
  go_enter func20,ntmps20
  go_wp2;go_ret;exact⟨rfl,rfl⟩
 ·have d:Dv c n=c % n:=by unfold Dv;rw[Ad h]
  rw[d]at y ⊢;have z:IntKind.i64.wrap (c % n)=c % n:=by simp[IntKind.wrap,IntKind.bits,IntKind.signed];omega
  go_enter func20,ntmps20
  go_wp2;go_ret;exact⟨rfl,rfl⟩
def SK(w:World)(sv:Value)(k t v:Int)(L:List Pt)(h:Ac 37 #[sv,A0 k,A0 t,A0 t] w λe w'=>∃x,e=.returned (.tuple #[x,A0 0])/\CR w' x L/\A2 A7 w w'):
 Ac 26 #[sv,A0 k,A0 t,A0 v] w (Ak (.bool (decide (L=[(t,v)]))) λw'=>A2 A7 w w'):=by
 have H:=A1 h;obtain⟨R,Z⟩:∃R,decide (L=[(t,v)])=R:=⟨_,rfl⟩;rw[Z];have aA:=A1 Z;clear h Z
 go_enter func26,ntmps26
 go_wp2_with (fail);refine H.m ?_;rintro e w1⟨x,rfl,I,hc⟩;have O:=A1 hc;have HX:=A1 I;obtain⟨a,cap,rfl,z,E,Y,-⟩:=AR I;unfold maxLen at E;clear hc H;by_cases h1:L.length=1
 ·obtain⟨g,rfl⟩:=Y (by omega);obtain⟨⟨V,U⟩,rfl⟩:=List.length_eq_one_iff.1 h1;obtain⟨q0,q1⟩:=I.bh 0 (by simp);simp only[Nat.zero_mul,ED,Hs]at q0 q1;have y:R=(decide (V=t)&&decide (U=v)):=by
   rw[<-aA.o];simp
  clear I Y;simp only[Tj]at z ⊢;by_cases J:V=t
  ·by_cases W:U=v
   ·subst J W;(have d:R=true:=by rw[y];simp);subst d;clear y;go_wp2;go_ret;exact⟨rfl,O.o⟩
   ·(have d:R=false:=by rw[y];simp[W]);subst d;clear y;(have hb:(U==v)=false:=by simpa using W);subst J;go_wp2;go_ret;exact⟨rfl,O.o⟩
  ·(have d:R=false:=by rw[y];simp[J]);subst d;clear y;(have hb:(V==t)=false:=by simpa using J);go_wp2;go_ret;exact⟨rfl,O.o⟩
 ·have d:R=false:=by
   rw[<-aA.o,S0];intro e;subst e;exact h1 rfl
  subst d;have hb:((L.length:Int)==1)=false:=GO.2 (by omega);clear I Y;go_wp2;go_ret;exact⟨rfl,O.o⟩
def Qh(w:World)(sv:Value)(k t:Int)(L:List Pt)(h:Ac 37 #[sv,A0 k,A0 t,A0 t] w λe w'=>∃x,e=.returned (.tuple #[x,A0 0])/\CR w' x L/\A2 A7 w w'):
 Ac 28 #[sv,A0 k,A0 t] w (Ak (.bool (decide (L=[]))) λw'=>A2 A7 w w'):=by
 have H:=A1 h;obtain⟨R,E⟩:∃R,decide (L=[])=R:=⟨_,rfl⟩;rw[E];have J:=A1 E;clear h E
 go_enter func28,ntmps28
 go_wp2_with (fail);refine H.m ?_;rintro e w1⟨x,rfl,O,U⟩;have I:=A1 U;obtain⟨a,cap,rfl,hcap,y,W,-⟩:=AR O;unfold maxLen at y;clear U H O W;by_cases z:L.length=0
 ·have d:R=true:=by rw[<-J.o,De];exact Hu z
  subst d;have V:((L.length:Int)==0)=true:=by rw[z];rfl
  go_wp2;go_ret;exact⟨rfl,I.o⟩
 ·have d:R=false:=by
   rw[<-J.o,S0];intro e;subst e;exact z rfl
  subst d;have V:((L.length:Int)==0)=false:=GO.2 (by omega);go_wp2;go_ret;exact⟨rfl,I.o⟩
end
end Go.Proofs.YtodcnkbblippnaaGreatDoor
