/- The law Compacts returns true for every Set and every script of bulk at most 1048576: Flushes and Compacts among Opens and crashes (as a row, and its tied card). -/
import Derived.Test.YtodcnkbblippnaaGreatDoorPart15
namespace Go.Proofs.YtodcnkbblippnaaGreatDoor
set_option maxRecDepth 100000
set_option maxHeartbeats 32000000
set_option linter.defProp false
open Go.Proofs.Tryz
section
open Go.RowKit
attribute [local go_sem ↓] Go.wp_at_zero Go.wp_at_succ
def EA.aW{w w':gx}{v:gy}(h:EA w.heap.size w v)(d:A4 Aa w w'):EA w'.heap.size w' v:=by
 have:=h.al (d.aT);obtain⟨z,L,E,O⟩:=this;exact⟨z,L,E,λY n c x I X W=>Bn (O Y n c x I X W) d.Ak⟩
def A2U{B g o n:Nat}(w:gx)(ld wa room A7:Int)(cap:Nat)(hS:Q8 w g o n)(hn:n<=180000)(W:n≠0->g<w.heap.size)(hL:Env B w)(hc:Ay A7)(_hr:Ay room)(sv:gy)(I:sv=.slice (some (A9 g o)) n cap\/(n=0/\∃x,sv=.slice x 0 cap)):
 Ag 7 #[.agg #[A0 ld,A0 wa,A0 room,A0 A7],sv] w (Aj (.bool true) λw'=>A4 (Up w.heap.size) w w'):=by
 have O:=(A4.C Aa w).aj (.cells #[A0 ld,A0 wa,A0 (-1),A0 A7] 23);have L:(w.aC #[A0 ld,A0 wa,A0 (-1),A0 A7] 23).heap[w.heap.size]?=some (.cells #[A0 ld,A0 wa,A0 (-1),A0 A7] 23 (0,0)):=Bl w _;have d:A4 Aa w ((w.aC #[A0 ld,A0 wa,A0 (-1),A0 A7] 23).aC #[A0 11] 3):=O.aj _;have hI:Qv ((w.aC #[A0 ld,A0 wa,A0 (-1),A0 A7] 23).aC #[A0 11] 3) (w.heap.size+1) [11]:=by
  have hz:(w.aC #[A0 ld,A0 wa,A0 (-1),A0 A7] 23).heap.size=w.heap.size+1:=by simp
  have E:=Bl (w.aC #[A0 ld,A0 wa,A0 (-1),A0 A7] 23) (.cells #[A0 11] 3);rw[hz]at E;intro k Y;simp only[World.cell?,E]
  match k,Y with
  | 0,_=>rfl
 have aA:=A1 (Zx (XX 330000 (by decide)) (g:=g) (o:=o) (gw:=(w.heap.size+1)) ((w.aC #[A0 ld,A0 wa,A0 (-1),A0 A7] 23).aC #[A0 11] 3) ld wa (-1) A7 cap [11] (by decide) (by decide) (λi hi=>by
  have⟨kd,a,b,c,tv,ia,ib,ic,s0,s1,s2,s3,s4,s5⟩:=hS i hi
  exact⟨kd,a,b,c,tv,ia,ib,ic,d.ah s0,d.ah s1,d.ah s2,d.ah s3,d.ah s4,s5.aW d⟩) hn (λh=>Bn (W h) d.Ak) hI (hL.aL d) hc (by constructor<;>omega) sv I)
 have z:=A1 d;have r0:(w.aC #[A0 ld,A0 wa,A0 (-1),A0 A7] 23).cell? (A9 w.heap.size 0)=some (A0 ld):=D7 L
 go_enter func7,ntmps7
 go_wp2_with (go_at_call 14;refine aA.k ?_;rintro w2 k2;have X:=A1 k2);go_ret;exact⟨rfl,(z.o.aT (S:=Up w.heap.size)).AH X.o λx hx _=>by unfold Up at hx ⊢;have:=z.o.Ak;omega⟩
end
section
open Go.ChangeAt Go.ChangeShapes Go.RowKit Go.WideShapes
def A22(H:Type)(enc:TypeId×gy->H)(W:gx)(I:Nat)(args:Array gy)(ds gs:gD (DataW H))(before:gD MemPlace)(d:∀(j:Nat) t v,Tryz.f7.params[j]?=some t->args[j]?=some v->Value.okWide Tryz.prog W .any I t v)(hW:DataW.Whole enc Tryz.prog Tryz.f7.params.toList Rows.compactsSpec.vars false W args.toList ds gs before)(hL:laidMetH Tryz.prog Rows.compactsUptoRow.laid W)(hk:Rows.uptoSmall H (ds++gs)=true):
 Calls Tryz.prog 7 args W λe aG=>∃v,e=.returned v/\Rows.compactsSpec.post enc Tryz.prog Tryz.f7 false true false false W args v aG:=by
 have z:=hW;obtain⟨p,q,aA,hV,rfl,hfz,hnd⟩:=hW;have hA:DataW.TrodAll enc Tryz.prog W 0 (λ_=>true) true Tryz.f7.params.toList args.toList ds p:=aA;rw[Tryz.params7]at hA d;obtain⟨v0,vs0,d0,ds0,p0,q0,hargs,rfl,rfl,O,r0⟩:=trodAll_cons hA;obtain⟨v1,vs1,d1,ds1,p1,q1,rfl,rfl,rfl,h1,r1⟩:=trodAll_cons r0;obtain⟨rfl,rfl,rfl⟩:=trodAll_nil r1;obtain rfl:args = #[v0,v1]:=by cases args;simp_all
 obtain⟨rfl,rfl⟩:=trodVars_none hV;have hb:Rows.uptoBulk d1<=1048576:=by
  have h:=Ki hk;simp only[Gt,Rows.uptoBulkAll]at h;omega
 have o0:=d 0 23 v0 rfl rfl;have o1:=d 1 24 v1 rfl rfl;obtain⟨cs,rfl,hcs⟩:=okWide_struct underlying23 o0;have X:=O;have Y:=h1;obtain⟨fuel,O⟩:=O;obtain⟨ld,wa,room,A7,aD,aE,aF⟩:=Ya O;have L:cs = #[.int .i64 ld,.int .i64 wa,.int .i64 room,.int .i64 A7]:=by
  apply Array.ext';simpa[Value.cells] using aD
 subst L;obtain⟨g,o,n,cap,hS,hn,hg,aB⟩:=Yp (okWide_slice underlying24 o1) h1 hb;simp only[Gt]at z;refine(A2U W ld wa room A7 cap hS hn hg (A0Y hL) aE aF v1 aB).mono λe aG ⟨he,hc⟩=>?_;subst he;have E:Below W.heap.size W aG:=hc.ee (Ao _) λk hk h=>by unfold Up at h;omega
 have lt0:∀x∈p0,x.block<W.heap.size:=λx hx=>by simpa using z.lt x (by simp[hx])
 have aH:∀x∈p1,x.block<W.heap.size:=λx hx=>by simpa using z.lt x (by simp[hx])
 exact⟨_,rfl,[d0,d1],[],p0++p1,[],p0++p1,[],z,trodAll_cons_mk (shut_bool underlying4 _) trodAll_mk0,
  trodAll_mk2 (Below.trod Tryz.laidOut (by kernel_rfl) (Ki (by kernel_rfl)) X E lt0) (Below.trod Tryz.laidOut (by kernel_rfl) (Ki (by kernel_rfl)) Y E aH),rfl,E.frame _,λh=>by cases h⟩
abbrev NZ:Array Value:=#[.agg #[A0 1,A0 1,A0 0,A0 0],.slice none 0 0]
def reads(os:Os)(W:gx)(h:Iu os W){H:Type}(enc:TypeId×gy->H):∃places,DataW.whole enc Tryz.prog (W.forCall (λ_ _=>0) ⟨#[],NZ,[]⟩).memory Tryz.f7.params.toList Rows.compactsSpec.vars false NZ.toList 8=some ([.agg [.lit (.int .i64 1),.lit (.int .i64 1),.lit (.int .i64 0),.lit (.int .i64 0)],.nil],[],places):=by
 unfold Iu at h;subst h;exact⟨[],by kernel_rfl⟩
def A2T(os:Os)(started:os.Started)(H:Type)(enc:TypeId×gy->H)(F:Stop.Interp):
 ReturnsInHanded {} Tryz.checked os 7 .any ((Rows.OpenSpec.upto Rows.compactsSpec).preRow enc Tryz.prog Tryz.f7 Rows.compactsUptoRow.domain false Rows.compactsUptoRow.laid) (((Rows.OpenSpec.upto Rows.compactsSpec).at F).post enc Tryz.prog Tryz.f7 false true false false):=by
 obtain⟨z,d⟩:∃z,Iu os z:=⟨_,rfl⟩;obtain⟨places,hx⟩:=reads os z d enc;have hm:=A0V os z d;refine returnsInHanded_of_row (C:=Tryz.checked) (s:=Rows.OpenSpec.upto Rows.compactsSpec) Tryz.own started (by kernel_rfl) func7
  (witness_row_at (enc:=enc) (C:=Tryz.checked) false z NZ (by unfold Iu at d;subst d;rfl) (by unfold Iu at d;subst d;kernel_rfl) (by unfold Iu at d;subst d;kernel_rfl) (by unfold Iu at d;subst d;kernel_rfl)
   (OpenSpec.preRow_of_cond 8 hx (by kernel_rfl) (λk L=>by cases L;kernel_rfl) (by kernel_rfl) (hm _))) ?_
 intro W E args X gs before I O _ h _ Y _ _;exact A22 H enc W E args X gs before I O Y (h _ rfl)
def A21:(Rows.compactsUptoRow.inPlace==Tryz.pinned.checked.prog.inPlace 7)=true:=by kernel_rfl
def A20:(Rows.compactsUptoRow.unfollowed==Tryz.pinned.checked.prog.unfollowed 7)=true:=by kernel_rfl
def A2Z:(Rows.compactsUptoRow.recurses==Tryz.pinned.checked.prog.recurses 7)=true:=by kernel_rfl
def A2Y:(Rows.compactsUptoRow.named==Tryz.pinned.checked.prog.varsNamed 7)=true:=by kernel_rfl
def A2X:(Rows.compactsUptoRow.wf (OpenSpec.ofChange (Rows.OpenSpec.upto Rows.compactsSpec).bare)&&laidOutB Tryz.pinned.checked.prog&&mapsRowed Tryz.pinned.checked.prog)=true:=by kernel_rfl
def A2W:(Rows.compactsUptoRow.lifted==Tryz.pinned.checked.prog.liftsFinal)=true:=by kernel_rfl
def A2V:joinedFacts Tryz.pinned.checked.prog 7 Tryz.f7 (Rows.OpenSpec.upto Rows.compactsSpec).bare Rows.compactsUptoRow=true:=by
 unfold joinedFacts;simp only[A2X,A21,A20,A2Z,A2Y,A2W,NP]
 kernel_rfl
def A2R:Rows.CompactsUptoSaid:=
 OpenClaim.holds_of_cond 7 Tryz.f7 rfl rfl rfl rfl rfl rfl rfl ⟨rfl,rfl,rfl,rfl,rfl⟩ rfl rfl rfl rfl rfl (by kernel_rfl) func7 A2V
  (Ki (by kernel_rfl)) (by unfold Func.isWrapper;first|(rw[Ai (by decide +kernel)];kernel_rfl)|(rw[Af (by decide +kernel)];exact⟨rfl,rfl⟩))
  (λos started H enc _ F=>by rw[OpenClaim.pre_eq_preRow];exact A2T os started H enc F)
def A2S(f:FuncId)(fn:Func)(E:Tryz.pinned.checked.prog.funcNamed "tides/tideslaw.Compacts" = some f)(d:Tryz.pinned.checked.prog.funcs[f]?=some fn):
 true=Tryz.pinned.checked.prog.looks []/\∀(j:Nat) t,fn.params[j]?=some t->Tryz.pinned.checked.prog.wantsStandIn t=false:=by
 obtain rfl:f=7:=Qb ((show Tryz.prog.funcNamed "tides/tideslaw.Compacts" = some 7 by kernel_rfl).symm.trans E) |>.symm;obtain rfl:fn=Tryz.f7:=(Qb (func7.symm.trans d)).symm;refine⟨by kernel_rfl,λj t z=>?_⟩;rw[Tryz.params7]at z;have h:=Array.mem_of_getElem? z;simp at h;rcases h with rfl|rfl
 ·exact(show Tryz.prog.wantsStandIn 23=false by kernel_rfl)
 ·exact(show Tryz.prog.wantsStandIn 24=false by kernel_rfl)
theorem compacts_holds:Rows.CompactsUptoCardSaid:=
 Claim7.holds_tied_plain_at .later [] _ _ _ _ A2R (λ_ h=>by cases h) (by kernel_rfl) (λ_ h=>by cases h) compactsUpto_row_tie rfl ⟨rfl,rfl⟩ (by kernel_rfl) rfl A2S (by kernel_rfl)
#print axioms compacts_holds
end
end Go.Proofs.YtodcnkbblippnaaGreatDoor
