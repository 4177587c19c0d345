/- The law Writes returns true for every Set and every script of bulk at most 1048576: every call of a store on an empty disk (as a row, and its tied card). -/
import Derived.Test.YtodcnkbblippnaaGreatDoorPart25
namespace Go.Proofs.YtodcnkbblippnaaGreatDoor
set_option maxRecDepth 100000
set_option maxHeartbeats 32000000
set_option linter.defProp false
open Go.Proofs.Tryz
section
open Go.RowKit
attribute [local go_sem ↓] Go.wp_at_zero Go.wp_at_succ
def Vl{B g o n:Nat}(w:World)(life d room A7:Int)(cap:Nat)(hS:JV w g o n)(hn:n<=180000)(Y:n≠0->g<w.heap.size)(hL:Env B w)(hc:Ax A7)(_hr:Ax room)(sv:Value)(O:sv=.slice (some (A9 g o)) n cap\/(n=0/\∃x,sv=.slice x 0 cap)):
 Ag 3 #[.agg #[A0 life,A0 d,A0 room,A0 A7],sv] w (Aj (.bool true) λw'=>A4 (Up w.heap.size) w w'):=by
 have X:=(A4.C Aa w).ah (.cells #[A0 life,A0 d,A0 (-1),A0 A7] 23);have W:(w.aC #[A0 life,A0 d,A0 (-1),A0 A7] 23).heap[w.heap.size]?=some (.cells #[A0 life,A0 d,A0 (-1),A0 A7] 23 (0,0)):=Bf w _;have z:A4 Aa w ((w.aC #[A0 life,A0 d,A0 (-1),A0 A7] 23).aC #[A0 1,A0 6,A0 7,A0 8,A0 9,A0 10,A0 11] 3):=X.ah _;have hI:K5 ((w.aC #[A0 life,A0 d,A0 (-1),A0 A7] 23).aC #[A0 1,A0 6,A0 7,A0 8,A0 9,A0 10,A0 11] 3) (w.heap.size+1) [1,6,7,8,9,10,11]:=by
  have hz:(w.aC #[A0 life,A0 d,A0 (-1),A0 A7] 23).heap.size=w.heap.size+1:=by simp
  have I:=Bf (w.aC #[A0 life,A0 d,A0 (-1),A0 A7] 23) (.cells #[A0 1,A0 6,A0 7,A0 8,A0 9,A0 10,A0 11] 3);rw[hz]at I;intro k L;simp only[World.cell?,I]
  match k,L with
  | 0,_=>rfl
  | 1,_=>rfl
  | 2,_=>rfl
  | 3,_=>rfl
  | 4,_=>rfl
  | 5,_=>rfl
  | 6,_=>rfl
 have aB:=A1 (LX (LC 200000 (by decide)) (g:=g) (o:=o) (gw:=(w.heap.size+1)) ((w.aC #[A0 life,A0 d,A0 (-1),A0 A7] 23).aC #[A0 1,A0 6,A0 7,A0 8,A0 9,A0 10,A0 11] 3) life d (-1) A7 cap [1,6,7,8,9,10,11] (by decide) (by decide) (λk L=>⟨λe=>L (by subst e;decide),λe=>L (by subst e;decide)⟩) (λi hi=>by
  obtain⟨kd,a,b,c,tv,ia,ib,ic,s0,s1,s2,s3,s4,s5⟩:=hS i hi
  exact⟨kd,a,b,c,tv,ia,ib,ic,z.ag s0,z.ag s1,z.ag s2,z.ag s3,z.ag s4,s5.aR z⟩) hn (λh=>Bi (Y h) z.Al) hI (hL.aM z) hc (by constructor<;>omega) sv O)
 have E:=A1 z;have r0:(w.aC #[A0 life,A0 d,A0 (-1),A0 A7] 23).cell? (A9 w.heap.size 0)=some (A0 life):=CP W
 go_enter func3,ntmps3
 go_wp2_with (go_at_call 14;refine aB.m ?_;rintro e w2⟨rfl,k2⟩;have aA:=A1 k2);go_ret;exact⟨rfl,(E.o.ad (S':=Up w.heap.size) λ_ _ h=>h.elim).Au aA.o λx hx _=>by unfold Up at hx ⊢;have:=E.o.Al;omega⟩
end
section
open Go.ChangeAt Go.ChangeShapes Go.RowKit Go.WideShapes
def Vj(H:Type)(enc:TypeId×Value->H)(W:World)(L:Nat)(args:Array Value)(ds gs:List (DataW H))(before:List MemPlace)(z:∀(j:Nat) t v,Tryz.f3.params[j]?=some t->args[j]?=some v->Value.okWide Tryz.prog W .any L t v)(hW:DataW.Whole enc Tryz.prog Tryz.f3.params.toList Rows.writesSpec.vars false W args.toList ds gs before)(hL:laidMetH Tryz.prog Rows.writesUptoRow.laid W)(hk:Rows.uptoSmall H (ds++gs)=true):
 Calls Tryz.prog 3 args W λe aI=>∃v,e=.returned v/\Rows.writesSpec.post enc Tryz.prog Tryz.f3 false true false false W args v aI:=by
 have E:=hW;obtain⟨p,q,aB,hV,rfl,hfz,hnd⟩:=hW;have hA:=aB;rw[Tryz.params3]at hA z;obtain⟨v0,vs0,d0,ds0,p0,q0,hargs,rfl,rfl,X,r0⟩:=trodAll_cons hA;obtain⟨v1,vs1,d1,ds1,p1,q1,rfl,rfl,rfl,h1,r1⟩:=trodAll_cons r0;obtain⟨rfl,rfl,rfl⟩:=trodAll_nil r1;obtain rfl:args = #[v0,v1]:=by cases args;simp_all
 obtain⟨rfl,rfl⟩:=trodVars_none hV;have hb:Rows.uptoBulk d1<=1048576:=by
  have h:=Fk hk;simp only[EF,Rows.uptoBulkAll]at h;omega
 have o0:=z 0 23 v0 rfl rfl;have o1:=z 1 24 v1 rfl rfl;obtain⟨cs,rfl,hcs⟩:=okWide_struct underlying23 o0;have Y:=X;have aA:=h1;obtain⟨fuel,X⟩:=X;obtain⟨life,d,room,A7,aE,aF,aG⟩:=LD X;have O:cs = #[.int .i64 life,.int .i64 d,.int .i64 room,.int .i64 A7]:=by
  apply Array.ext';simpa[Value.cells] using aE
 subst O;obtain⟨g,o,n,cap,hS,hn,hg,aD⟩:=LG (okWide_slice underlying24 o1) h1 hb;simp only[EF]at E;refine(Vl W life d room A7 cap hS hn hg (Ma hL) aF aG v1 aD).mono λe aI ⟨he,hc⟩=>?_;subst he;have I:=hc.cp (Ao _) λk hk h=>by unfold Up at h;omega
 have lt0:∀x∈p0,x.block<W.heap.size:=λx hx=>by simpa using E.lt x (by simp[hx])
 have aH:∀x∈p1,x.block<W.heap.size:=λx hx=>by simpa using E.lt x (by simp[hx])
 exact⟨_,rfl,[d0,d1],[],p0++p1,[],p0++p1,[],E,trodAll_cons_mk (shut_bool underlying4 _) trodAll_mk0,
  trodAll_mk2 (Below.trod Tryz.laidOut (by kernel_rfl) (Fk (by kernel_rfl)) Y I lt0) (Below.trod Tryz.laidOut (by kernel_rfl) (Fk (by kernel_rfl)) aA I aH),rfl,I.frame _,λh=>by cases h⟩
abbrev G1:Array Value:=#[.agg #[.int .i64 1,.int .i64 1,.int .i64 0,.int .i64 0],.slice none 0 0]
def reads(os:Os)(W:World)(h:DB os W){H:Type}(enc:TypeId×Value->H):∃places,DataW.whole enc Tryz.prog (W.forCall (λ_ _=>0) ⟨#[],G1,[]⟩).memory Tryz.f3.params.toList Rows.writesSpec.vars false G1.toList 8=some ([.agg [.lit (.int .i64 1),.lit (.int .i64 1),.lit (.int .i64 0),.lit (.int .i64 0)],.nil],[],places):=by
 unfold DB at h;subst h;exact⟨[],by kernel_rfl⟩
def Va(os:Os)(started:os.Started)(H:Type)(enc:TypeId×Value->H)(F:Stop.Interp):
 ReturnsInHanded {} Tryz.checked os 3 .any ((Rows.OpenSpec.upto Rows.writesSpec).preRow enc Tryz.prog Tryz.f3 Rows.writesUptoRow.domain false Rows.writesUptoRow.laid) (((Rows.OpenSpec.upto Rows.writesSpec).at F).post enc Tryz.prog Tryz.f3 false true false false):=by
 obtain⟨z,d⟩:∃z,DB os z:=⟨_,rfl⟩;obtain⟨places,hx⟩:=reads os z d enc;have hm:=M9 os z d;refine returnsInHanded_of_row (C:=Tryz.checked) (s:=Rows.OpenSpec.upto Rows.writesSpec) Tryz.own started (by kernel_rfl) func3
  (witness_row_at (enc:=enc) (C:=Tryz.checked) false z G1 (by unfold DB at d;subst d;rfl) (by unfold DB at d;subst d;kernel_rfl) (by unfold DB at d;subst d;kernel_rfl) (by unfold DB at d;subst d;kernel_rfl)
   (OpenSpec.preRow_of_cond 8 hx (by kernel_rfl) (λk L=>by cases L;kernel_rfl) (by kernel_rfl) (hm _))) ?_
 intro W E args X gs before I O _ h _ Y _ _;exact Vj H enc W E args X gs before I O Y (h _ rfl)
def Vh:(Rows.writesUptoRow.inPlace==Tryz.pinned.checked.prog.inPlace 3)=true:=by kernel_rfl
def Vg:(Rows.writesUptoRow.unfollowed==Tryz.pinned.checked.prog.unfollowed 3)=true:=by kernel_rfl
def Vf:(Rows.writesUptoRow.recurses==Tryz.pinned.checked.prog.recurses 3)=true:=by kernel_rfl
def Ve:(Rows.writesUptoRow.named==Tryz.pinned.checked.prog.varsNamed 3)=true:=by kernel_rfl
def Vd:(Rows.writesUptoRow.wf (OpenSpec.ofChange (Rows.OpenSpec.upto Rows.writesSpec).bare)&&laidOutB Tryz.pinned.checked.prog&&mapsRowed Tryz.pinned.checked.prog)=true:=by kernel_rfl
def Vc:(Rows.writesUptoRow.lifted==Tryz.pinned.checked.prog.liftsFinal)=true:=by kernel_rfl
def Vb:joinedFacts Tryz.pinned.checked.prog 3 Tryz.f3 (Rows.OpenSpec.upto Rows.writesSpec).bare Rows.writesUptoRow=true:=by
 unfold joinedFacts;simp only[Vd,Vh,Vg,Vf,Ve,Vc,Jl]
 kernel_rfl
def V7:Rows.WritesUptoSaid:=
 OpenClaim.holds_of_cond 3 Tryz.f3 rfl rfl rfl rfl rfl rfl rfl ⟨rfl,rfl,rfl,rfl,rfl⟩ rfl rfl rfl rfl rfl (by kernel_rfl) func3 Vb
  (Fk (by kernel_rfl)) (by unfold Func.isWrapper;first|(rw[Ai (by decide +kernel)];kernel_rfl)|(rw[Ae (by decide +kernel)];exact⟨rfl,rfl⟩))
  (λos started H enc _ F=>by rw[OpenClaim.pre_eq_preRow];exact Va os started H enc F)
def V9(f:FuncId)(fn:Func)(E:Tryz.pinned.checked.prog.funcNamed "tides/tideslaw.Writes" = some f)(d:Tryz.pinned.checked.prog.funcs[f]?=some fn):
 true=Tryz.pinned.checked.prog.looks []/\∀(j:Nat) t,fn.params[j]?=some t->Tryz.pinned.checked.prog.wantsStandIn t=false:=by
 obtain rfl:f=3:=HV ((show Tryz.prog.funcNamed "tides/tideslaw.Writes" = some 3 by kernel_rfl).symm.trans E) |>.symm;obtain rfl:fn=Tryz.f3:=(HV (func3.symm.trans d)).symm;refine⟨by kernel_rfl,λj t z=>?_⟩;rw[Tryz.params3]at z;have h:=Array.mem_of_getElem? z;simp at h;rcases h with rfl|rfl
 ·exact(show Tryz.prog.wantsStandIn 23=false by kernel_rfl)
 ·exact(show Tryz.prog.wantsStandIn 24=false by kernel_rfl)
theorem writes_holds:Rows.WritesUptoCardSaid:=
 Claim7.holds_tied_plain_at .later [] _ _ _ _ V7 (λ_ h=>by cases h) (by kernel_rfl) (λ_ h=>by cases h) writesUpto_row_tie rfl ⟨rfl,rfl⟩ (by kernel_rfl) rfl V9 (by kernel_rfl)
#print axioms writes_holds
end
end Go.Proofs.YtodcnkbblippnaaGreatDoor
