/- The law Faults returns true for every Set and every script of bulk at most 1048576: calls of the disk fail, or it is full (as a row, and its tied card). -/
import Derived.Test.YtodcnkbblippnaaGreatDoorPart25
namespace Go.Proofs.YtodcnkbblippnaaGreatDoor
set_option maxRecDepth 100000
set_option maxHeartbeats 32000000
set_option linter.defProp false
open Go.Proofs.Tryz
section
open Go.RowKit
attribute [local go_sem ↓] Go.wp_at_zero Go.wp_at_succ
def A1i{B g o n:Nat}(w:World)(life d room A7:Int)(cap:Nat)(hS:JV w g o n)(hn:n<=180000)(Y:n≠0->g<w.heap.size)(hL:Env B w)(hc:Ax A7)(hr:Ax room)(sv:Value)(O:sv=.slice (some (A9 g o)) n cap\/(n=0/\∃x,sv=.slice x 0 cap)):
 Ag 6 #[.agg #[A0 life,A0 d,A0 room,A0 A7],sv] w (Aj (.bool true) λw'=>A4 (Up w.heap.size) w w'):=by
 have X:=(A4.C Aa w).ah (.cells #[A0 life,A0 d,A0 room,A0 A7] 23);have W:(w.aC #[A0 life,A0 d,A0 room,A0 A7] 23).heap[w.heap.size]?=some (.cells #[A0 life,A0 d,A0 room,A0 A7] 23 (0,0)):=Bf w _;have z:A4 Aa w ((w.aC #[A0 life,A0 d,A0 room,A0 A7] 23).aC #[A0 7,A0 8] 3):=X.ah _;have hI:K5 ((w.aC #[A0 life,A0 d,A0 room,A0 A7] 23).aC #[A0 7,A0 8] 3) (w.heap.size+1) [7,8]:=by
  have hz:(w.aC #[A0 life,A0 d,A0 room,A0 A7] 23).heap.size=w.heap.size+1:=by simp
  have I:=Bf (w.aC #[A0 life,A0 d,A0 room,A0 A7] 23) (.cells #[A0 7,A0 8] 3);rw[hz]at I;intro k L;simp only[World.cell?,I]
  match k,L with
  | 0,_=>rfl
  | 1,_=>rfl
 have aB:=A1 (LX (LC 200000 (by decide)) (g:=g) (o:=o) (gw:=(w.heap.size+1)) ((w.aC #[A0 life,A0 d,A0 room,A0 A7] 23).aC #[A0 7,A0 8] 3) life d room A7 cap [7,8] (by decide) (by decide) (λk L=>⟨λe=>L (by subst e;decide),λe=>L (by subst e;decide)⟩) (λi hi=>by
  obtain⟨kd,a,b,c,tv,ia,ib,ic,s0,s1,s2,s3,s4,s5⟩:=hS i hi
  exact⟨kd,a,b,c,tv,ia,ib,ic,z.ag s0,z.ag s1,z.ag s2,z.ag s3,z.ag s4,s5.aR z⟩) hn (λh=>Bi (Y h) z.Al) hI (hL.aM z) hc hr sv O)
 have E:=A1 z;have r0:(w.aC #[A0 life,A0 d,A0 room,A0 A7] 23).cell? (A9 w.heap.size 0)=some (A0 life):=CP W
 go_enter func6,ntmps6
 go_wp2_with (go_at_call 14;refine aB.m ?_;rintro e w2⟨rfl,k2⟩;have aA:=A1 k2);go_ret;exact⟨rfl,(E.o.ad (S':=Up w.heap.size) λ_ _ h=>h.elim).Au aA.o λx hx _=>by unfold Up at hx ⊢;have:=E.o.Al;omega⟩
end
section
open Go.ChangeAt Go.ChangeShapes Go.RowKit Go.WideShapes
def A1q(H:Type)(enc:TypeId×Value->H)(W:World)(L:Nat)(args:Array Value)(ds gs:List (DataW H))(before:List MemPlace)(z:∀(j:Nat) t v,Tryz.f6.params[j]?=some t->args[j]?=some v->Value.okWide Tryz.prog W .any L t v)(hW:DataW.Whole enc Tryz.prog Tryz.f6.params.toList Rows.faultsSpec.vars false W args.toList ds gs before)(hL:laidMetH Tryz.prog Rows.faultsUptoRow.laid W)(hk:Rows.uptoSmall H (ds++gs)=true):
 Calls Tryz.prog 6 args W λe aH=>∃v,e=.returned v/\Rows.faultsSpec.post enc Tryz.prog Tryz.f6 false true false false W args v aH:=by
 have E:=hW;obtain⟨p,q,aB,hV,rfl,hfz,hnd⟩:=hW;have hA:DataW.TrodAll enc Tryz.prog W 0 (λ_=>true) true Tryz.f6.params.toList args.toList ds p:=aB;rw[Tryz.params6]at hA z;obtain⟨v0,vs0,d0,ds0,p0,q0,hargs,rfl,rfl,X,r0⟩:=trodAll_cons hA;obtain⟨v1,vs1,d1,ds1,p1,q1,rfl,rfl,rfl,h1,r1⟩:=trodAll_cons r0;obtain⟨rfl,rfl,rfl⟩:=trodAll_nil r1;obtain rfl:args = #[v0,v1]:=by cases args;simp_all
 obtain⟨rfl,rfl⟩:=trodVars_none hV;have hb:Rows.uptoBulk d1<=1048576:=by
  have h:=Fk hk;simp only[EF,Rows.uptoBulkAll]at h;omega
 have o0:=z 0 23 v0 rfl rfl;have o1:=z 1 24 v1 rfl rfl;obtain⟨cs,rfl,hcs⟩:=okWide_struct underlying23 o0;have Y:=X;have aA:=h1;obtain⟨fuel,X⟩:=X;obtain⟨life,d,room,A7,aE,aF,aG⟩:=LD X;have O:cs = #[.int .i64 life,.int .i64 d,.int .i64 room,.int .i64 A7]:=by
  apply Array.ext';simpa[Value.cells] using aE
 subst O;obtain⟨g,o,n,cap,hS,hn,hg,aD⟩:=LG (okWide_slice underlying24 o1) h1 hb;simp only[EF]at E;refine(A1i W life d room A7 cap hS hn hg (Ma hL) aF aG v1 aD).mono λe aH ⟨he,hc⟩=>?_;subst he;have I:Below W.heap.size W aH:=hc.cp (Ao _) λk hk h=>by unfold Up at h;omega
 have lt0:∀x∈p0,x.block<W.heap.size:=λx hx=>by simpa using E.lt x (by simp[hx])
 have aI:∀x∈p1,x.block<W.heap.size:=λx hx=>by simpa using E.lt x (by simp[hx])
 exact⟨_,rfl,[d0,d1],[],p0++p1,[],p0++p1,[],E,trodAll_cons_mk (shut_bool underlying4 _) trodAll_mk0,
  trodAll_mk2 (Below.trod Tryz.laidOut (by kernel_rfl) (Fk (by kernel_rfl)) Y I lt0) (Below.trod Tryz.laidOut (by kernel_rfl) (Fk (by kernel_rfl)) aA I aI),rfl,I.frame _,λh=>by cases h⟩
abbrev G1:Array Value:=#[.agg #[.int .i64 1,.int .i64 1,.int .i64 0,.int .i64 0],.slice none 0 0]
def reads(os:Os)(W:World)(h:DB os W){H:Type}(enc:TypeId×Value->H):∃places,DataW.whole enc Tryz.prog (W.forCall (λ_ _=>0) ⟨#[],G1,[]⟩).memory Tryz.f6.params.toList Rows.faultsSpec.vars false G1.toList 8=some ([.agg [.lit (.int .i64 1),.lit (.int .i64 1),.lit (.int .i64 0),.lit (.int .i64 0)],.nil],[],places):=by
 unfold DB at h;subst h;exact⟨[],by kernel_rfl⟩
def A1h(os:Os)(started:os.Started)(H:Type)(enc:TypeId×Value->H)(F:Stop.Interp):
 ReturnsInHanded {} Tryz.checked os 6 .any ((Rows.OpenSpec.upto Rows.faultsSpec).preRow enc Tryz.prog Tryz.f6 Rows.faultsUptoRow.domain false Rows.faultsUptoRow.laid) (((Rows.OpenSpec.upto Rows.faultsSpec).at F).post enc Tryz.prog Tryz.f6 false true false false):=by
 obtain⟨z,d⟩:∃z,DB os z:=⟨_,rfl⟩;obtain⟨places,hx⟩:=reads os z d enc;have hm:=M9 os z d;refine returnsInHanded_of_row (C:=Tryz.checked) (s:=Rows.OpenSpec.upto Rows.faultsSpec) Tryz.own started (by kernel_rfl) func6
  (witness_row_at (enc:=enc) (C:=Tryz.checked) false z G1 (by unfold DB at d;subst d;rfl) (by unfold DB at d;subst d;kernel_rfl) (by unfold DB at d;subst d;kernel_rfl) (by unfold DB at d;subst d;kernel_rfl)
   (OpenSpec.preRow_of_cond 8 hx (by kernel_rfl) (λk L=>by cases L;kernel_rfl) (by kernel_rfl) (hm _))) ?_
 intro W E args X gs before I O _ h _ Y _ _;exact A1q H enc W E args X gs before I O Y (h _ rfl)
def A1p:(Rows.faultsUptoRow.inPlace==Tryz.pinned.checked.prog.inPlace 6)=true:=by kernel_rfl
def A1o:(Rows.faultsUptoRow.unfollowed==Tryz.pinned.checked.prog.unfollowed 6)=true:=by kernel_rfl
def A1n:(Rows.faultsUptoRow.recurses==Tryz.pinned.checked.prog.recurses 6)=true:=by kernel_rfl
def A1m:(Rows.faultsUptoRow.named==Tryz.pinned.checked.prog.varsNamed 6)=true:=by kernel_rfl
def A1l:(Rows.faultsUptoRow.wf (OpenSpec.ofChange (Rows.OpenSpec.upto Rows.faultsSpec).bare)&&laidOutB Tryz.pinned.checked.prog&&mapsRowed Tryz.pinned.checked.prog)=true:=by kernel_rfl
def A1k:(Rows.faultsUptoRow.lifted==Tryz.pinned.checked.prog.liftsFinal)=true:=by kernel_rfl
def A1j:joinedFacts Tryz.pinned.checked.prog 6 Tryz.f6 (Rows.OpenSpec.upto Rows.faultsSpec).bare Rows.faultsUptoRow=true:=by
 unfold joinedFacts;simp only[A1l,A1p,A1o,A1n,A1m,A1k,Jl]
 kernel_rfl
def A1f:Rows.FaultsUptoSaid:=
 OpenClaim.holds_of_cond 6 Tryz.f6 rfl rfl rfl rfl rfl rfl rfl ⟨rfl,rfl,rfl,rfl,rfl⟩ rfl rfl rfl rfl rfl (by kernel_rfl) func6 A1j
  (Fk (by kernel_rfl)) (by unfold Func.isWrapper;first|(rw[Ai (by decide +kernel)];kernel_rfl)|(rw[Ae (by decide +kernel)];exact⟨rfl,rfl⟩))
  (λos started H enc _ F=>by rw[OpenClaim.pre_eq_preRow];exact A1h os started H enc F)
def A1g(f:FuncId)(fn:Func)(E:Tryz.pinned.checked.prog.funcNamed "tides/tideslaw.Faults" = some f)(d:Tryz.pinned.checked.prog.funcs[f]?=some fn):
 true=Tryz.pinned.checked.prog.looks []/\∀(j:Nat) t,fn.params[j]?=some t->Tryz.pinned.checked.prog.wantsStandIn t=false:=by
 obtain rfl:f=6:=HV ((show Tryz.prog.funcNamed "tides/tideslaw.Faults" = some 6 by kernel_rfl).symm.trans E) |>.symm;obtain rfl:fn=Tryz.f6:=(HV (func6.symm.trans d)).symm;refine⟨by kernel_rfl,λj t z=>?_⟩;rw[Tryz.params6]at z;have h:=Array.mem_of_getElem? z;simp at h;rcases h with rfl|rfl
 ·exact(show Tryz.prog.wantsStandIn 23=false by kernel_rfl)
 ·exact(show Tryz.prog.wantsStandIn 24=false by kernel_rfl)
theorem faults_holds:Rows.FaultsUptoCardSaid:=
 Claim7.holds_tied_plain_at .later [] _ _ _ _ A1f (λ_ h=>by cases h) (by kernel_rfl) (λ_ h=>by cases h) faultsUpto_row_tie rfl ⟨rfl,rfl⟩ (by kernel_rfl) rfl A1g (by kernel_rfl)
#print axioms faults_holds
end
end Go.Proofs.YtodcnkbblippnaaGreatDoor
