/- Part 15 of a proof: walks of the program. -/
import Derived.Test.YtodcnkbblippnaaGreatDoorProg
import Derived.Conc.RwLib
import Derived.KernelRfl
import Derived.Sort.OwnSorted
import Derived.Sort.OwnSortedInts
import Derived.Test.YtodcnkbblippnaaGreatDoorPart14
namespace Go.Proofs.YtodcnkbblippnaaGreatDoor
set_option maxRecDepth 100000
set_option maxHeartbeats 32000000
set_option linter.defProp false
open Go.Proofs.Tryz
abbrev Tryz.fP:Go.Conc.Locks.MuLink:={lock:=61,unlock:=62,ilock:=103,iunlock:=104,lockSlow:=144,unlockSlow:=147,disable:=140,enable:=142,acquire:=143,relMerge:=145,cas32:=141,add32:=146,tMutex:=106,tIMutex:=104,tPMutex:=167,tPIMutex:=213,tPI32:=215,tUP:=217,tNoCopy:=101,tU32:=102}
def Tryz.bl:Go.Conc.Locks.MuLib Tryz.prog Tryz.fP:=
 ⟨func61,func62,func103,func104,func140,func142,func143,func145,func141,func146,
  underlying104,Tryz.runUnderlying104,sizeOf104,isAgg104,zeroValue104,
  underlying106,Tryz.runUnderlying106,sizeOf106,isAgg106,zeroValue106,
  underlying167,Tryz.runUnderlying167,sizeOf167,isAgg167,zeroValue167,
  underlying213,Tryz.runUnderlying213,sizeOf213,isAgg213,zeroValue213,
  underlying215,Tryz.runUnderlying215,sizeOf215,isAgg215,zeroValue215,
  underlying217,Tryz.runUnderlying217,sizeOf217,isAgg217,zeroValue217,
  underlying101,Tryz.runUnderlying101,sizeOf101,isAgg101,zeroValue101,
  underlying21,Tryz.runUnderlying21,sizeOf21,isAgg21,zeroValue21,(by kernel_rfl)⟩
section
open Go.RowKit
def Fz(mu:Int)(jv:Value)(aA aB A6:Int)(ro:Bool)(lv:Nat->Value):Array Value:=
 #[.int .i32 mu,.int .u32 0,jv,.int .i64 aA,.int .i64 aB,.int .i64 A6,.bool ro,lv 0,lv 1,lv 2,lv 3,lv 4,lv 5,lv 6,lv 7]
def Bm(w:World)(sb:Nat)(mu:Int)(jv:Value)(aA aB A6:Int)(ro:Bool)(lv:Nat->Value):Prop:=
 w.heap[sb]?=some (.cells (Fz mu jv aA aB A6 ro lv) 111 (0,0))
section
variable {w:World} {sb:Nat} {mu:Int} {jv:Value} {aA aB A6:Int} {ro:Bool} {lv:Nat->Value}
def Bm.c0(h:Bm w sb mu jv aA aB A6 ro lv):A7 w sb 0 (.int .i32 mu):=by unfold Bm at h;simp[A7,World.cell?,h,Fz]
def Bm.c2(h:Bm w sb mu jv aA aB A6 ro lv):A7 w sb 2 jv:=by unfold Bm at h;simp[A7,World.cell?,h,Fz]
def Bm.c3(h:Bm w sb mu jv aA aB A6 ro lv):A7 w sb 3 (A0 aA):=by unfold Bm at h;simp[A7,World.cell?,h,Fz]
def Bm.cW(h:Bm w sb mu jv aA aB A6 ro lv):A7 w sb 4 (A0 aB):=by unfold Bm at h;simp[A7,World.cell?,h,Fz]
def Bm.cK(h:Bm w sb mu jv aA aB A6 ro lv):A7 w sb 5 (A0 A6):=by unfold Bm at h;simp[A7,World.cell?,h,Fz]
def Bm.cR(h:Bm w sb mu jv aA aB A6 ro lv):A7 w sb 6 (.bool ro):=by unfold Bm at h;simp[A7,World.cell?,h,Fz]
def Bm.fz(h:Bm w sb mu jv aA aB A6 ro lv)(o:Nat):w.frozen? (Aa sb o)=false:=by unfold Bm at h;simp[World.frozen?,h]
def Bm.lt(h:Bm w sb mu jv aA aB A6 ro lv):sb<w.heap.size:=By h
def Bm.Aj{S:Nat->Prop}{w':World}(h:Bm w sb mu jv aA aB A6 ro lv)(z:A3 S w w')(d:¬S sb):Bm w' sb mu jv aA aB A6 ro lv:=(z.Ao sb h.lt d).trans h
def Bm.s0(h:Bm w sb mu jv aA aB A6 ro lv)(x:Int):Bm (w.setCell (Aa sb 0) (.int .i32 x)) sb x jv aA aB A6 ro lv:=Cq h
def Bm.sK(h:Bm w sb mu jv aA aB A6 ro lv)(x:Int):Bm (w.setCell (Aa sb 5) (A0 x)) sb mu jv aA aB x ro lv:=Cq h
def Bm.sR(h:Bm w sb mu jv aA aB A6 ro lv)(x:Bool):Bm (w.setCell (Aa sb 6) (.bool x)) sb mu jv aA aB A6 x lv:=Cq h
def WQ{mu:Int}{jv:Value}{aA aB A6:Int}{ro:Bool}{lv:Nat->Value}{k:Nat}(d:k<8):(Fz mu jv aA aB A6 ro lv)[7+k]?=some (lv k):=by
 match k,d with
 | 0,_=>rfl
 | 1,_=>rfl
 | 2,_=>rfl
 | 3,_=>rfl
 | 4,_=>rfl
 | 5,_=>rfl
 | 6,_=>rfl
 | 7,_=>rfl
def Hx(lv:Nat->Value)(k:Nat)(v:Value):Nat->Value:=λi=>if i=k then v else lv i
def WO{mu:Int}{jv:Value}{aA aB A6:Int}{ro:Bool}{lv:Nat->Value}{k:Nat}(d:k<8)(v:Value):(Fz mu jv aA aB A6 ro lv).setIfInBounds (7+k) v=Fz mu jv aA aB A6 ro (Hx lv k v):=by
 match k,d with
 | 0,_=>rfl
 | 1,_=>rfl
 | 2,_=>rfl
 | 3,_=>rfl
 | 4,_=>rfl
 | 5,_=>rfl
 | 6,_=>rfl
 | 7,_=>rfl
end
structure E1 (w:World) (lv:Nat->Value) (L:Nat->List Pt):Prop where
 Bv:∀k,k<8->Dm w (lv k) (L k)
 FA:∀k,k<8->Dv (L k)
 CP:∀k,k<8->(L k).length<1099511627775
 Ky:∀i j,i<8->j<8->i≠j->∀g,(lv i).ownBlock=some g->(lv j).ownBlock≠some g
def Ey(lv:Nat->Value)(g:Nat):Prop:=∃k,k<8/\(lv k).ownBlock=some g
def E1.lt{w:World}{lv:Nat->Value}{L:Nat->List Pt}(h:E1 w lv L){g:Nat}(z:Ey lv g):g<w.heap.size:=by
 obtain⟨k,d,e⟩:=z;exact AB (h.Bv k d) e
def E1.Aj{S:Nat->Prop}{w w':World}{lv:Nat->Value}{L:Nat->List Pt}(h:E1 w lv L)(H:A3 S w w')(E:∀g,Ey lv g->¬S g):E1 w' lv L:=
 ⟨λk d=>Ay (h.Bv k d) λg z=>H.Ao g (AB (h.Bv k d) z) (E g ⟨k,d,z⟩),h.FA,h.CP,h.Ky⟩
def E1.dh{w:World}{lv:Nat->Value}{L:Nat->List Pt}(h:E1 w lv L){g:Nat}(z:Ey lv g):∃c,w.heap[g]?=some (.cells c 70 (0,0)):=by
 obtain⟨k,d,e⟩:=z;exact Be (h.Bv k d) e
def E1.ne{w:World}{lv:Nat->Value}{L:Nat->List Pt}(h:E1 w lv L){sb:Nat}{c:Array Value}{T:TypeId}(E:w.heap[sb]?=some (.cells c T (0,0)))(z:T≠70):¬Ey lv sb:=λH=>by
 obtain⟨c',d⟩:=h.dh H;rw[E]at d;cases d;exact z rfl
def E1.dM{w:World}{lv:Nat->Value}{L:Nat->List Pt}(h:E1 w lv L){sb:Nat}{mu:Int}{jv:Value}{aA aB A6:Int}{ro:Bool}(z:Bm w sb mu jv aA aB A6 ro lv){k:Nat}(d:k<8):
 H9 w sb (7+k) (Fz mu jv aA aB A6 ro lv) 111 (L k) (lv k):=
 ⟨z,WQ d,h.Bv k d,h.FA k d,Nat.lt_trans (h.CP k d) (by decide)⟩
def GY(L:Nat->List Pt)(k:Nat)(l:List Pt):Nat->List Pt:=λi=>if i=k then l else L i
def W0{lv:Nat->Value}{k:Nat}{v:Value}{g:Nat}(h:Ey (Hx lv k v) g):Ey lv g\/v.ownBlock=some g:=by
 obtain⟨i,d,e⟩:=h;unfold Hx at e;split at e
 ·exact .inr e
 ·exact .inl ⟨i,d,e⟩
def E1.ag{w w':World}{lv:Nat->Value}{L:Nat->List Pt}(h:E1 w lv L){sb:Nat}{mu:Int}{jv:Value}{aA aB A6:Int}{ro:Bool}(hb:Bm w sb mu jv aA aB A6 ro lv){k:Nat}(X:k<8){aD:List Pt}{lv':Value}{t:Nat}(Y:Hn w w' sb (7+k) (Fz mu jv aA aB A6 ro lv) t (lv k) aD lv')(ht:t=111)(hl:aD.length<1099511627775):
 Bm w' sb mu jv aA aB A6 ro (Hx lv k lv')/\E1 w' (Hx lv k lv') (GY L k aD)/\A3 (λx=>x=sb\/Ey lv x) w w'/\∀g,Ey (Hx lv k lv') g->Ey lv g\/w.heap.size<=g:=by
 subst ht;have W:=Y.Bv.Af;rw[WO X]at W;have I:=Y.AA;have hc:A3 (λx=>x=sb\/Ey lv x) w w':=Y.Aj.aa λx _ z=>z.imp id λe=>⟨k,X,e⟩
 have aE:=h.ne hb (by decide);refine⟨W,⟨?_,?_,?_,?_⟩,hc,λg E=>?_⟩
 ·intro i H;unfold Hx GY;by_cases e:i=k
  ·simp only[e,Cg];exact Y.Bv.Bv
  ·simp only[e,C4];exact Ay (h.Bv i H) λg E=>Y.Aj.Ao g (AB (h.Bv i H) E) λz=>by
    rcases z with rfl|z
    ·exact aE ⟨i,H,E⟩
    ·exact h.Ky k i X H (λx=>e x.symm) g z E
 ·intro i H;unfold GY;by_cases e:i=k
  ·simp only[e,Cg];exact Y.Bv.FA
  ·simp only[e,C4];exact h.FA i H
 ·intro i H;unfold GY;by_cases e:i=k
  ·simp only[e,Cg];exact hl
  ·simp only[e,C4];exact h.CP i H
 ·intro i j H hj O g E d;unfold Hx at E d;by_cases e:i=k
  ·subst e;have e2:¬j=i:=λx=>O x.symm;simp only[Cg]at E;simp only[e2,C4]at d;rcases I g E with z|z
   ·exact h.Ky i j X hj O g z d
   ·have:=AB (h.Bv j hj) d;omega
  ·simp only[e,C4]at E;by_cases e2:j=k
   ·subst e2;simp only[Cg]at d;rcases I g d with z|z
    ·exact h.Ky i j H X O g E z
    ·have:=AB (h.Bv i H) E;omega
   ·simp only[e2,C4]at d;exact h.Ky i j H hj O g E d
 ·rcases W0 E with z|z
  ·exact .inl z
  ·rcases I g z with hy|hy
   ·exact .inl ⟨k,X,hy⟩
   ·exact .inr hy
def Bm.bM{w:World}{sb:Nat}{jv:Value}{aA aB A6:Int}{ro:Bool}{lv:Nat->Value}{L:Nat->List Pt}(h:Bm w sb 0 jv aA aB A6 ro lv)(d:E1 w lv L):
 Bm (w.setCell ⟨sb,0,none⟩ (.int .i32 1)) sb 1 jv aA aB A6 ro lv/\E1 (w.setCell ⟨sb,0,none⟩ (.int .i32 1)) lv L/\A3 (One sb) w (w.setCell ⟨sb,0,none⟩ (.int .i32 1)):=
 ⟨h.s0 1,d.Aj ((A3.I (One sb) w).ao rfl 0 _) (λg z e=>d.ne h (by decide) (e ▸ z)),(A3.I (One sb) w).ao rfl 0 _⟩
def Bm.da{w w':World}{sb:Nat}{mu:Int}{jv:Value}{aA aB A6:Int}{ro:Bool}{lv:Nat->Value}(h:Bm w sb 0 jv aA aB A6 ro lv)(H:Bm w' sb mu jv aA aB A6 ro lv)(I:A3 (One sb) w w'):
 A3 (λ_=>False) w (w'.setCell ⟨sb,0,none⟩ (.int .i32 0)):=by
 have z:=H.s0 0;have d:=I.ao (b:=sb) rfl 0 (.int .i32 0);refine⟨d.os,d.FK,d.FM,d.Ak,λk E _=>?_⟩;by_cases e:k=sb
 ·subst e;unfold Bm at h z;rw[h,z]
 ·exact d.Ao k E e
end
section
open Go.MuLone Go.RowKit
attribute [local go_sem ↓] Go.wp_at_zero Go.wp_at_succ CE
section
variable {w:World} {sb:Nat} {jv:Value} {aA aB A6:Int} {ro:Bool} {lv:Nat->Value} {L:Nat->List Pt}
def QO(w:World)(h:Bm w sb 0 jv aA aB A6 ro lv):
 Calls Tryz.prog 38 #[.pointer (some ⟨sb,0,none⟩)] w λe w'=>e=.returned (.agg #[.bool ro,.int .i64 A6])/\A3 (λ_=>False) w w':=by
 have hA:∀o,Bm (w.alloc o) sb 0 jv aA aB A6 ro lv:=λo=>h.Aj ((A3.I (λ_=>False) w).ak o) (λh=>h);have aF:=A1 hA;have H:=A1 h;have hlt:=h.lt
 go_enter_defers func38,ntmps38
 go_wp2_with (go_at_call 61;refine(HF Tryz.bl ⟨sb,0,none⟩ _ (aF.o _).c0 ((aF.o _).fz 0)).mono ?_;rintro e w'⟨rfl,rfl⟩);have aD:∀o,Bm ((w.setCell ⟨sb,0,none⟩ (.int .i32 1)).alloc o) sb 1 jv aA aB A6 ro lv/\A3 (One sb) w ((w.setCell ⟨sb,0,none⟩ (.int .i32 1)).alloc o):=λo=>
  ⟨(H.o.s0 1).Aj ((A3.I (λ_=>False) _).ak o) (λh=>h),((A3.I (One sb) w).ao rfl 0 _).ak o⟩
 obtain⟨E,O⟩:=aD (.cells #[.bool false,.int .i64 0] 74);have d:((w.setCell ⟨sb,0,none⟩ (.int .i32 1)).alloc (.cells #[.bool false,.int .i64 0] 74)).heap[w.heap.size]?=some (.cells #[.bool false,.int .i64 0] 74 (0,0)):=by
  have:=BN (w.setCell ⟨sb,0,none⟩ (.int .i32 1)) (.cells #[.bool false,.int .i64 0] 74);simpa using this
 generalize ((w.setCell ⟨sb,0,none⟩ (.int .i32 1)).alloc (.cells #[.bool false,.int .i64 0] 74))=w1 at E O d ⊢;have c4:=E.cK;have c5:=E.cR;have r0:w1.cell? ⟨w.heap.size,0,none⟩=some (.bool false):=by simp[World.cell?,d]
 have r1:w1.cell? ⟨w.heap.size,1,none⟩=some (.int .i64 0):=by simp[World.cell?,d]
 have f0:w1.frozen? ⟨w.heap.size,0,none⟩=false:=by simp[World.frozen?,d]
 have f1:w1.frozen? ⟨w.heap.size,1,none⟩=false:=by simp[World.frozen?,d]
 have W:sb≠w.heap.size:=by omega
 have aE:=A1 E;have X:=A1 O;refine Nn (λw'=>w'.cell? ⟨sb,5,none⟩=some (.int .i64 A6)/\w'.cell? ⟨sb,6,none⟩=some (.bool ro)) 11
  [(0,true),(1,true),(2,true),(3,true),(4,true),(5,true),(6,true),(7,true),(8,false),(9,true),(10,false)] (by kernel_rfl) (by kernel_rfl) ⟨c4,c5⟩ ?_
 iterate 8 (refine E8 (v:=?_) rfl (by rfl) ?_ ?_;rotate_left;(· (intro w' I;(try dsimp only at I);go_simp;try with_reducible rfl));(try simp only[An]))
 refine DW rfl (by rfl) (λK Y=>?_);go_simp;refine Y _ _ ⟨by simp[World.cell?_setCell_other,c4],by simp[World.cell?_setCell_other,c5]⟩ (λI=>?_)
 (try simp only[An])
 iterate 1 (refine E8 (v:=?_) rfl (by rfl) ?_ ?_;rotate_left;(· (intro w' I;(try dsimp only at I);go_simp;try with_reducible rfl));(try simp only[An]))
 refine DW rfl (by rfl) (λK Y=>?_);go_simp;refine Y _ _ ⟨by simp[World.cell?_setCell_other,c4],by simp[World.cell?_setCell_other,c5]⟩ (λI=>?_)
 (try simp only[An])
 refine Bl ?_;simp only[DE,Dp];go_wp2;rw[CE];go_wp2;generalize hW:(((w1.setCell ⟨w.heap.size,0,none⟩ (.bool false)).setCell ⟨w.heap.size,1,none⟩ (.int .i64 0)).setCell ⟨w.heap.size,0,none⟩ (.bool ro)).setCell ⟨w.heap.size,1,none⟩ (.int .i64 A6)=w2;have z:Bm w2 sb 1 jv aA aB A6 ro lv/\A3 (One sb) w w2/\w2.heap[w.heap.size]?=some (.cells #[.bool ro,.int .i64 A6] 74 (0,0)):=by
  subst hW;refine⟨?_,?_,?_⟩
  ·exact aE.o.Aj (S:=One w.heap.size) (((((A3.I (One w.heap.size) w1).ao rfl 0 _).ao rfl 1 _).ao rfl 0 _).ao rfl 1 _) W
  ·(have n:∀(p:Addr),p.block=w.heap.size->p.block<w.heap.size->One sb p.block:=λp e h=>by omega);exact((((X.o.bt (n _ rfl) _).bt (n _ rfl) _).bt (n _ rfl) _).bt (n _ rfl) _)
  ·have:=Cq (o:=1) (v:=.int .i64 A6) (Cq (o:=0) (v:=.bool ro) (Cq (o:=1) (v:=.int .i64 0) (Cq (o:=0) (v:=.bool false) d)));simpa using this
 refine HG (f:=62) (args:=#[.pointer (some ⟨sb,0,none⟩)]) (by simp) (by simp[go_sem]) ?_;refine(Hz Tryz.bl ⟨sb,0,none⟩ .returning _ ?_ ?_).mono ?_
 ·exact z.1.c0
 ·exact z.1.fz 0
 rintro e u' w''⟨rfl,rfl,rfl⟩;have d0:w2.cell? ⟨w.heap.size,0,none⟩=some (.bool ro):=by simp[World.cell?,z.2.2]
 have d1:w2.cell? ⟨w.heap.size,1,none⟩=some (.int .i64 A6):=by simp[World.cell?,z.2.2]
 refine⟨_,?_,rfl,H.o.da (w':=w2.drew) z.1 z.2.1.af⟩;simp[results,Tryz.results38,go_sem,d0,d1]
def query_bad(w:World)(k a b:Int)(h:Bm w sb 0 jv aA aB A6 ro lv)(z:¬(0<=k/\k<8)):
 Ag 37 #[A5 sb,A0 k,A0 a,A0 b] w (Al (.tuple #[.slice none 0 0,A0 2]) λw'=>A3 Ab w w'):=by
 have H:=A1 h;have E:Hid (∀w',Ag 63 #[A0 k] w' λe d=>e=.returned (.bool false)/\w'=d):=λw'=>by
  have:=KX w' k
  rwa [CZ z]at this
 have c0:=h.c0;have f0:=h.fz 0
 go_enter_defers func37,ntmps37
 go_wp2_with (first
  | (go_at_call 61;refine(HF Tryz.bl (Aa sb 0) _ c0 f0).mono ?_;rintro e w'⟨rfl,rfl⟩)
  | (go_at_call 63;refine(E.o _).mono ?_;rintro e w'⟨rfl,rfl⟩))
 refine HG (f:=62) (args:=#[A5 sb]) (by simp) (by simp[go_sem]) ?_;refine(Hz Tryz.bl (Aa sb 0) .returning _ ?_ ?_).mono ?_
 ·exact(H.o.s0 1).c0
 ·exact(H.o.s0 1).fz 0
 rintro e u' d⟨rfl,rfl,rfl⟩;exact⟨_,results_tmp2 rfl _ _ _,rfl,H.o.da (H.o.s0 1) ((A3.I (One sb) w).ao rfl 0 _)⟩
def RJ(w:World)(k:Nat)(a b:Int)(h:Bm w sb 0 jv aA aB A6 ro lv)(hr:E1 w lv L)(hk:k<8)(hl:1<=aA/\aA<=4611686018427387904)(hc:AN A6):
 Ag 37 #[A5 sb,A0 k,A0 a,A0 b] w λe w'=>∃v,e=.returned (.tuple #[v,A0 0])/\
  Dm w' v (piece (L k) (max a (Ba A6 aA)) b)/\A3 Ab w w'/\∀g,v.ownBlock=some g->w.heap.size<=g:=by
 have aM:Hid (∀w',Ag 63 #[A0 k] w' λe Y=>e=.returned (.bool true)/\w'=Y):=λw'=>by
  have:=KX w' k
  rwa [CH (by omega)]at this
 have c0:=h.c0;have f0:=h.fz 0;obtain⟨aJ,aI,aK⟩:=h.bM hr;have aL:∀w',Bm w' sb 1 jv aA aB A6 ro lv->_:=λw' h'=>M8 w' sb A6 aA h'.c3 h'.cK hl hc;generalize ho:Ba A6 aA=o at aL ⊢;have aP:∀w',Bm w' sb 1 jv aA aB A6 ro lv->E1 w' lv L->_:=λw' h' aH=>A2i w' sb (7+k) (L k) (lv k) (max a o) b (aH.dM h' hk).bX;have hk1:=C3 k;have hk2:(k:Int)<8:=by omega
 have H:=A1 h;have aF:=A1 aL;have aG:=A1 aP;have E:=A1 aJ;have X:=A1 aI;have O:=A1 aK
 go_enter_defers func37,ntmps37
 go_wp2_with (first
  | (go_at_call 61;refine(HF Tryz.bl (Aa sb 0) _ c0 f0).mono ?_;rintro e w'⟨rfl,rfl⟩)
  | (go_at_call 63;refine(aM.o _).mono ?_;rintro e w'⟨rfl,rfl⟩))
 generalize (w.setCell (Aa sb 0) (.int .i32 1))=w1 at E X O ⊢;refine Nn (λ_=>True) 11
  (Bq [0,1,2,3,4,5,6,9,7,8,10] [7,10]) (by kernel_rfl) (by kernel_rfl) trivial ?_
 iterate 8 (refine E8 (v:=?_) rfl (by rfl) ?_ ?_;rotate_left;(· (intro w' hS;(try dsimp only at hS);go_simp;try with_reducible rfl));(try simp only[An]))
 refine DW rfl (by rfl) (λK hK=>?_);go_simp;refine(aF.o w1.drew E.o).mono ?_;rintro e w2⟨rfl,d⟩;refine hK _ _ trivial (λhS=>?_);have I:Hid (Bm w2 sb 1 jv aA aB A6 ro lv/\E1 w2 lv L/\A3 (One sb) w w2):=
  have z:A3 Ab w1 w2:=⟨d.os,d.FK,d.FM,d.Ak,d.Ao⟩
  ⟨E.o.Aj z (λh=>h),X.o.Aj z (λ_ _ h=>h),O.o.Ap z λ_ h _=>h.elim⟩
 (try simp only[An])
 (refine E8 (v:=?_) rfl (by rfl) ?_ ?_;rotate_left;(· (intro w' hS;(try dsimp only at hS);go_simp;try with_reducible rfl));(try simp only[An]))
 refine DW rfl (by rfl) (λK hK=>?_);go_simp;refine(aG.o w2 I.o.1 I.o.2.1).mono ?_;rintro e w3⟨v,rfl,hv,aD,hf⟩;refine hK _ _ trivial (λhS=>?_);have aE:Hid (Bm w3 sb 1 jv aA aB A6 ro lv/\A3 (One sb) w w3):=⟨I.o.1.Aj aD (λh=>h),I.o.2.2.Ap aD λ_ h _=>h.elim⟩;have aQ:=A1 hv;have aN:Hid (∀g,v.oB g->w.heap.size<=g):=λg W=>AM I.o.2.2.Ak (hf g W);have aO:Hid (∀g,v.oB g->g≠sb):=λg W e=>by
  have:=hf g W;have:=I.o.1.lt;omega
 (try simp only[An])
 refine Bl ?_;simp only[DE,Dp];go_wp2;rw[CE];go_wp2;refine HG (f:=62) (args:=#[A5 sb]) (by simp) (by simp[go_sem]) ?_;refine(Hz Tryz.bl (Aa sb 0) .returning _ ?_ ?_).mono ?_
 ·exact aE.o.1.c0
 ·exact aE.o.1.fz 0
 rintro e u' Y⟨rfl,rfl,rfl⟩;exact⟨_,results_tmp2 rfl _ _ _,v,rfl,Ay aQ.o λg W=>GF _ _ _ _ (λe=>aO.o g W (by simpa using e)),H.o.da aE.o.1 aE.o.2,aN.o⟩
end
def Own(sb:Nat)(lv:Nat->Value)(x:Nat):Prop:=x=sb\/Ey lv x
structure Ea (w w':World) (sb:Nat) (mu:Int) (jv:Value) (aA aB A6:Int) (ro:Bool) (lv lv':Nat->Value) (L':Nat->List Pt):Prop where
 Af:Bm w' sb mu jv aA aB A6 ro lv'
 E9:E1 w' lv' L'
 Aj:A3 (Own sb lv) w w'
 AA:∀g,Ey lv' g->Ey lv g\/w.heap.size<=g
section
variable {w w' w2:World} {sb:Nat} {mu aE:Int} {jv:Value} {aA aB A6 aD:Int} {ro aF:Bool} {lv lv' aG:Nat->Value} {L L' L2:Nat->List Pt}
def Ea.Ap(h:Ea w w' sb mu jv aA aB A6 ro lv lv' L')(z:Ea w' w2 sb aE jv aA aB aD aF lv' aG L2):Ea w w2 sb aE jv aA aB aD aF lv aG L2:=
 ⟨z.Af,z.E9,h.Aj.Ap z.Aj λx d hlt=>by
  rcases d with d|d
  ·exact .inl d
  ·rcases h.AA x d with E|E
   ·exact .inr E
   ·omega,λg H=>by
  rcases z.AA g H with d|d
  ·exact h.AA g d
  ·exact .inr (AM h.Aj.Ak d)⟩
def Ea.of(E:Bm w' sb mu jv aA aB A6 ro lv)(z:E1 w lv L)(d:A3 (One sb) w w')(I:¬Ey lv sb):Ea w w' sb mu jv aA aB A6 ro lv lv L:=
 ⟨E,z.Aj d (λg H e=>I (by cases e;exact H)),d.aa λ_ _ h=>.inl h,λ_ h=>.inl h⟩
def Ea.aH(h:Ea w w' sb mu jv aA aB A6 ro lv lv' L')(d:A3 Ab w' w2):Ea w w2 sb mu jv aA aB A6 ro lv lv' L':=
 ⟨h.Af.Aj d (λh=>h),h.E9.Aj d (λ_ _ h=>h),h.Aj.Ap d λ_ h _=>h.elim,h.AA⟩
def Ea.D9(h:Ea w w' sb mu jv aA aB A6 ro lv lv' L')(o:Nat)(u:Value)(d:Bm (w'.setCell (Aa sb o) u) sb aE jv aA aB aD aF lv'):Ea w (w'.setCell (Aa sb o) u) sb aE jv aA aB aD aF lv lv' L':=
 ⟨d,h.E9.Aj ((A3.I (One sb) w').ao rfl o u) (λg z e=>h.E9.ne h.Af (by decide) (by cases e;exact z)),h.Aj.ao (.inl rfl) o u,h.AA⟩
def HS(L L':Nat->List Pt)(o:Int):Prop:=∀i,i<8->L' i=L i\/L' i=(L i).drop (BG (L i) o)
def W9(c x:Int):min c (9223372036854775807-x)+x=G1 c x:=by
 unfold G1;split<;>omega
def Qu{c x:Int}(d:AN c)(hx:0<=x)(hx2:x<=9223372036854775807):AN (G1 c x):=by
 obtain⟨h1,h2⟩:=d;unfold G1;split<;>constructor<;>omega
def tick_bad(w:World)(x:Int)(h:Bm w sb 0 jv aA aB A6 ro lv)(hx:x<0):
 Ag 27 #[A5 sb,A0 x] w (Al (A0 3) λw'=>A3 Ab w w'):=by
 have H:=A1 h;have c0:=h.c0;have f0:=h.fz 0
 go_enter_defers func27,ntmps27
 go_wp2_with (go_at_call 61;refine(HF Tryz.bl (Aa sb 0) _ c0 f0).mono ?_;rintro e w'⟨rfl,rfl⟩);refine HG (f:=62) (args:=#[A5 sb]) (by simp) (by simp[go_sem]) ?_;refine(Hz Tryz.bl (Aa sb 0) .returning _ ?_ ?_).mono ?_
 ·exact(H.o.s0 1).c0
 ·exact(H.o.s0 1).fz 0
 rintro e u' w''⟨rfl,rfl,rfl⟩;exact⟨_,JE rfl _ _ _,rfl,H.o.da (H.o.s0 1) ((A3.I (One sb) w).ao rfl 0 _)⟩
def Wa(w:World)(x:Int)(h:Bm w sb 0 jv aA aB A6 ro lv)(hr:E1 w lv L)(hx:0<=x/\x<=9223372036854775807)(hl:1<=aA/\aA<=4611686018427387904)(hc:AN A6):
 Ag 27 #[A5 sb,A0 x] w (Al (A0 0) λw'=>
  ∃lv' L',Ea w w' sb 0 jv aA aB (G1 A6 x) ro lv lv' L'/\HS L L' (Ba (G1 A6 x) aA)):=by
 obtain⟨aJ,aH⟩:=hx;have H:=Qu hc aJ aH;have ew1:IntKind.i64.wrap (9223372036854775807-x)=9223372036854775807-x:=by simp[IntKind.wrap,IntKind.bits,IntKind.signed];omega
 have aM:IntKind.i64.wrap (min A6 (9223372036854775807-x)+x)=G1 A6 x:=by
  rw[W9];obtain⟨h1,h2⟩:=H;simp[IntKind.wrap,IntKind.bits,IntKind.signed];omega
 have c0:=h.c0;have f0:=h.fz 0;obtain⟨E,hr1,aO⟩:=h.bM hr;have hn:=hr.ne h (by decide);have d3:=E.cK;have d3f:=E.fz 5;have aK:Ea w (w.setCell (Aa sb 0) (.int .i32 1)) sb 1 jv aA aB A6 ro lv lv L:=Ea.of E hr aO hn;have aN:∀z,Hid (Ea w ((w.setCell (Aa sb 0) (.int .i32 1)).setCell (Aa sb 5) (A0 z)) sb 1 jv aA aB z ro lv lv L):=λz=>aK.D9 5 _ (E.sK z);generalize hcc:G1 A6 x=z at aM H ⊢;have aQ:=aN z;have aP:∀w' lv',Bm w' sb 1 jv aA aB z ro lv'->_:=λw' lv' h'=>M8 w' sb z aA h'.c3 h'.cK hl H;generalize ho:Ba z aA=o at aP ⊢;have aI:=A1 aP
 go_enter_defers func27,ntmps27
 go_wp2_with (go_at_call 61;refine(HF Tryz.bl (Aa sb 0) _ c0 f0).mono ?_;rintro e w'⟨rfl,rfl⟩);generalize ((w.setCell (Aa sb 0) (.int .i32 1)).setCell (Aa sb 5) (A0 z))=w1 at aQ ⊢;go_loopw [27] (λiv wr=>∃k:Nat,k<=8/\iv=A0 k/\Hid (∃lv' L',Ea w wr sb 1 jv aA aB z ro lv lv' L'/\HS L L' o/\∀i,k<=i->L' i=L i)) (λiv _=>8-(intOf iv).toNat)
 case atStart=>exact⟨0,by omega,rfl,lv,L,aQ.o,λi _=>.inl rfl,λi _=>rfl⟩
 case round=>
  obtain⟨k,hk,rfl,hH⟩:=hrel;obtain⟨w0,aL⟩:∃w0,w0=wr:=⟨_,rfl⟩;subst aL;have k0:=C3 k;by_cases I:k<8
  ·(have k1:(k:Int)<8:=by omega)
   have aU:Hid (∀w2,(∃lv' L',Ea w w2 sb 1 jv aA aB z ro lv lv' L'/\HS L L' o/\∀i,k<=i->L' i=L i)->Ag 72 #[.pointer (some (Aa sb (7+k))),A0 o] w2 (Al (.tuple #[]) λw'=>
    ∃lv' L',Ea w w' sb 1 jv aA aB z ro lv lv' L'/\HS L L' o/\∀i,k+1<=i->L' i=L i)):=λw2 ⟨lv',L',d,O,Y⟩=>by
    refine(A0N w2 sb (7+k) _ _ (by decide) _ _ o (d.E9.dM d.Af I)).mono ?_;rintro e w3⟨rfl,L2,v2,W,hR⟩;have X:L2.length<=(L' k).length:=by
     rcases W with rfl|rfl
     ·exact As _
     ·rw[Cu];omega
    obtain⟨b1,b2,b3,b4⟩:=d.E9.ag d.Af I hR rfl (Va X (d.E9.CP k I));refine⟨rfl,Hx lv' k v2,GY L' k L2,d.Ap ⟨b1,b2,b3,b4⟩,λi hi=>?_,λi hi=>?_⟩
    ·unfold GY;by_cases e:i=k
     ·subst e;simp only[Cg];rw[Y i (As _)]at W;exact W
     ·simp only[e,C4];exact O i hi
    ·unfold GY;rw[Ad (by omega)];exact Y i (by omega)
   have aS:Hid (∀w2,(∃lv' L',Ea w w2 sb 1 jv aA aB z ro lv lv' L'/\HS L L' o/\∀i,k<=i->L' i=L i)->Ag 71 #[A5 sb] w2 (Al (A0 o) λw'=>∃lv' L',Ea w w' sb 1 jv aA aB z ro lv lv' L'/\HS L L' o/\∀i,k<=i->L' i=L i)):=λw2 ⟨lv',L',d,O,Y⟩=>by
    refine(aI.o w2 lv' d.Af).mono ?_;rintro e w3⟨rfl,hc⟩;exact⟨rfl,lv',L',d.aH hc,O,Y⟩
   go_wp2;refine Nn (λ_=>True) 7
    (Bq [0,1,2,3,4,5,6] [6]) (by kernel_rfl) (by kernel_rfl) trivial ?_
   iterate 6 (refine E8 (v:=?_) rfl (by rfl) ?_ ?_;rotate_left;(· (intro w' hS;(try dsimp only at hS);go_simp;try with_reducible rfl));(try simp only[An]))
   refine DW rfl (by rfl) (λK hK=>?_);go_simp;refine(aS.o w0.drew (by obtain⟨lv',L',d,O⟩:=hH.o;exact⟨lv',L',d.aH ((A3.I _ w0).af),O⟩)).mono ?_;rintro e w2⟨rfl,h2⟩;refine hK _ _ trivial (λhS=>?_);have aT:=A1 h2
   (try simp only[An])
   refine Bl ?_;simp only[DE,Dp];go_wp2_with (go_at_call 72;refine(aU.o _ aT.o).mono ?_;rintro e w3⟨rfl,h3⟩;have aR:=A1 h3);rw[CE];go_wp2;go_roundw
   case rel=>exact⟨k+1,by omega,by go_num,aR.o⟩
   case measure=>simp[intOf];omega
  ·(obtain rfl:k=8:=by omega);go_wp2;refine HG (f:=62) (args:=#[A5 sb]) (by simp) (by simp[go_sem]) ?_;obtain⟨lv',L',d,O,-⟩:=hH.o;refine(Hz Tryz.bl (Aa sb 0) .returning _ ?_ ?_).mono ?_
   ·exact d.Af.c0
   ·exact d.Af.fz 0
   rintro e u' w''⟨rfl,rfl,rfl⟩;exact⟨_,JE rfl _ _ _,rfl,lv',L',d.D9 0 _ (d.Af.s0 0),O⟩
end
end
section
open Go.RowKit
attribute [local go_sem ↓] CE
section
variable {w:World} {ab b xb jb B:Nat} {sv ov lv jo:Value} {A:Ar} {P:PD} {Ft:Nat->Prop} {a c m:Nat}
def X2(P:PD)(n:Int)(r:List Int):P.segs (n::r)=match P.Cw n with
 | none=>none
 | some l=>(P.segs r).map λx=>(n,l):: x:=rfl
def QW(w:World)(E:List Int)(a0:A7 w ab 0 (A5 b))(a1:A7 w ab 1 (A5 xb))(x4:A7 w xb 4 sv)(a6:D5 w sv E)(aX:Bn w b P Ft)(aD:∀k,Ft k->k<w.heap.size)(hF:Fit P a c m)(hl:CN a c m)(hn:∀n∈E,CJ n)(hsl:E.length<=1073741824)(hL:Lets B w):
 Ag 98 #[A5 ab] w λe w'=>
  (P.segs E=none/\e=.returned (.tuple #[.slice none 0 0,A0 7])/\A3 Ab w w')\/
  ∃l v,P.segs E=some l/\e=.returned (.tuple #[v,A0 0])/\Gj w' w.heap.size b v l/\A3 Ab w w':=by
 obtain⟨i0,hi,a4,bA,a7⟩:=X7;have aP:=A1 a6;obtain⟨sa,scap,rfl,sc1,a5⟩:=aP.o.Ce;unfold maxLen at a5
 have bO:Hid (∀w1,A3 Ab w w1->∀n∈E,Ag 135 #[A5 b,A0 n] w1 λe w'=>
  (P.Cw n=none/\e=.returned (.tuple #[.pointer none,A0 7])/\A3 Ab w1 w')\/
  ∃l d v,P.Cw n=some l/\e=.returned (.tuple #[A5 d,A0 0])/\BZ w' d 182 b (AF n) (AE (AF n)) n v/\AW w' v l/\(∀g,v.ownBlock=some g->w1.heap.size<=g)/\w1.heap.size<=d/\A3 Ab w1 w'):=
  λw1 hc n hm=>XX w1 (B3.aH aX aD hc) (λk hk=>Bk (aD k hk) hc.Ak) hF hl (hn n hm) (hL.aS hc)
 have bJ:=A1 (X2 P);obtain⟨X,hX⟩:∃X,P.segs E=X:=⟨_,rfl⟩;have bP:=A1 hX;rw[hX]
 go_enter func98,ntmps98
 go_wp2;go_loopw [4,17] (λv iv wr=>∃(l:List (Int×List Pu)),iv=A0 l.length/\l.length<=E.length/\Hid (Gj wr w.heap.size b v l/\A3 Ab w wr/\X=(P.segs (E.drop l.length)).map λr=>l++r)) (λ_ iv _=>E.length-(intOf iv).toNat)
 case atStart=>exact⟨[],rfl,Cf _,⟨[],rfl,CD _ _ _ _,λg H=>by simp[Value.ownBlock]at H,λk I=>by simp at I⟩,A3.I _ _,by rw[IC,Dp,bP.o];cases X<;>simp⟩
 case round=>
  obtain⟨l,rfl,hk,hI⟩:=hrel;obtain⟨i1,i2,i3⟩:=hI.o;obtain⟨z,j1,j2,j3,j4⟩:=i1;obtain⟨ap,cp,rfl,hcap1,aK,-⟩:=B8 j2;unfold maxLen at aK;by_cases aB:l.length<E.length
  ·obtain⟨g,o,rfl,d1⟩:=D5.at aP.o l.length aB;have O:=BV aB;have aJ:=Fw aB;generalize aV:(E[l.length]'aB)=n at d1 O aJ;have e1:=i2.al d1;have e0:=i2.al a0;have aI:=A1 (bO.o wr i2 n O);rw[aJ,bJ.o]at i3;generalize hY:P.Cw n=Y at aI i3;have aL:=A1 i2;have bE:=A1 i3;have bC:=A1 j1;have aU:=A1 j2;have bD:=A1 j3;have bL:=A1 j4;(have a2:(l.length:Int)<(E.length:Int):=by omega);have hk0:(0:Int)<=(l.length:Int):=Gp _;clear hI i2 i3 j1 j2 j3 j4 d1 O aJ aV hY;cases Y with
   | none=>
    (have aG:X=none:=by rw[bE.o];rfl);subst aG;have aF:Hid (Ag 135 #[A5 b,A0 n] wr λe w'=>e=.returned (.tuple #[.pointer none,A0 7])/\A3 Ab wr w'):=by
     refine aI.o.mono ?_;rintro e w' (⟨_,W,h3⟩|⟨l,d,v,I,_⟩)
     ·exact⟨W,h3⟩
     ·cases I
    go_wp2_with (go_at_call 135;refine aF.o.mono ?_;rintro e L⟨rfl,aA⟩;have aZ:=A1 aA);go_ret2;exact⟨rfl,aL.o.Ap aZ.o λ_ h _=>h⟩
   | some pl=>
    have aF:Hid (Ag 135 #[A5 b,A0 n] wr λe w'=>∃d v,e=.returned (.tuple #[A5 d,A0 0])/\BZ w' d 182 b (AF n) (AE (AF n)) n v/\AW w' v pl/\(∀g,v.ownBlock=some g->wr.heap.size<=g)/\wr.heap.size<=d/\A3 Ab wr w'):=by
     refine aI.o.mono ?_;rintro e w' (⟨I,_⟩|⟨l,d,v,I,W⟩)
     ·cases I
     ·cases I;exact⟨d,v,W⟩
    have bK:Hid (X=(P.segs (E.drop (l.length+1))).map λr=>(l++[(n,pl)])++r):=by
     unfold Hid;rw[bE.o];simp only[Option.map_map]
     congr 1
     funext r
     simp
    go_wp2_with (fail);refine aF.o.mono ?_;rintro e L⟨d,v,rfl,q1,q2,q3,q4,aA⟩;have bM:=A1 q1;have bN:=A1 q2;have bF:=A1 q3;have bG:=A1 q4;have a3:=A1 aA;have aR:Hid ((L.alloc (.cells #[A5 d] 179)).ownsRow 0 179 1 (.slice ap l.length cp) l.length (Gr z)):=Ay aU.o λg H=>(aA.ak _).Ao g (AB aU.o H) (λh=>h)
    have aW:=A1 (Src.bb (size:=1) (B:=L.heap.size) underlying154 L #[A5 d] 179 (by simp) 1 1 rfl (WZ [d]));go_wp2_with (at_builtin;refine D4 rfl (.tmp 33) (.tmp 35) 154 154 rfl 179 i0 _ 1 8 underlying154 hi a4 bA a7 rfl (by decide) (.slice ap l.length cp) l.length (Gr z) (by rfl) aR.o _ 1 _ (by rfl) aW.o (by omega) ?_;intro a8 cap8 w8 hA;have bH:=A1 hA);go_roundw
    case rel=>
     have hA:=bH.o;have k7:A3 Ab L (L.alloc (.cells #[A5 d] 179)):=(A3.I _ L).ak _;have aM:=hA.Aj (S:=λk=>(Value.slice ap l.length cp).ownBlock=some k) λ_ h=>h;have aO:A3 Ab w L:=aL.o.Ap a3.o λ_ h _=>h;(have a9:A3 Ab w w8:=(aO.Ap k7 λ_ h _=>h).Ap aM λy hy aD=>by have:=bD.o y hy;omega);have aN:A3 (λk=>(Value.slice ap l.length cp).ownBlock=some k) L w8:=(k7.aa λ_ _ h=>h.elim).Ap aM λ_ h _=>h;have aS:∀(k:Nat) (c:Array Value) (e:Nat),L.heap[k]?=some (Obj.cells c e (0,0))->e≠179->¬(Value.slice ap l.length cp).ownBlock=some k:=λk c e hk he hx=>by
      obtain⟨c',aE⟩:=Be (Ay aU.o λg H=>a3.o.Ao g (AB aU.o H) (λh=>h)) hx;exact BS aE hk (λh=>he h.symm) rfl
     have aQ:∀aH x,Jf L w.heap.size b aH x->Jf w8 w.heap.size b aH x:=λaH x hx=>by
      obtain⟨pv,I,W,h3,h4⟩:=hx;refine⟨pv,I.aj aN (aS _ _ _ I (by decide)),Ay W λg H=>?_,h3,h4⟩;obtain⟨c',aE⟩:=Be W H;exact aN.Ao g (AB W H) (aS _ _ _ aE (by decide))
     refine⟨l++[(n,pl)],by simp,by simp;omega,⟨z++[d],by simp[bC.o],?_,?_,?_⟩,a9,by rw[show (l++[(n,pl)]).length=l.length+1 by simp];exact bK.o⟩
     ·(have e:(l++[(n,pl)]).length=l.length+1:=by simp);(have e2:Gr (z++[d])=Gr z++Gr [d]:=by simp[Gr]);rw[e,e2];exact hA.AA
     ·intro g H;rcases hA.Cj with h|h
      ·rw[h]at H;exact bD.o g H
      ·rw[h]at H;cases H;have:=aO.Ak;have:=k7.Ak;omega
     ·intro j I W;have aY:=bC.o;by_cases hj:j<l.length
      ·rw[Fa (show j<z.length by omega),Fa hj];exact aQ _ _ ((bL.o j (by omega) hj).aw a3.o)
      ·(have bB:j=l.length:=by simp at W;omega);subst bB;(have e1:(z++[d])[l.length]'I=d:=by simp[<-aY]);(have e2:(l++[(n,pl)])[l.length]'W=(n,pl):=by simp);rw[e1,e2];exact aQ _ _ ⟨v,bM.o,bN.o,AM aL.o.Ak bG.o,λg H=>AM aL.o.Ak (bF.o g H)⟩
    case measure=>simp[intOf];omega
  ·(have aT:l.length=E.length:=by omega);have bI:Hid (Gj wr w.heap.size b (.slice ap l.length cp) l):=⟨z,j1,j2,j3,j4⟩;have aL:=A1 i2;(have aG:X=some l:=by rw[i3,aT,Gn];simp[PD.segs]);subst aG;(have a2:¬((l.length:Int)<(E.length:Int)):=by omega);clear i2 i3 hI j1 j2 j3 j4 aT;go_wp2;go_ret2;exact⟨_,rfl,bI.o,aL.o⟩
def X3(w:World)(h:Ck w ab b xb jb sv ov lv jo A P Ft)(I:Fit P a c m)(z:CN a c m)(H:∀n∈A.ix.segs,CJ n)(d:A.ix.segs.length<=1073741824)(E:Lets B w):
 Ag 98 #[A5 ab] w λe w'=>
  (P.segs A.ix.segs=none/\e=.returned (.tuple #[.slice none 0 0,A0 7])/\A3 Ab w w')\/
  ∃l v,P.segs A.ix.segs=some l/\e=.returned (.tuple #[v,A0 0])/\Gj w' w.heap.size b v l/\A3 Ab w w':=
 QW w A.ix.segs h.Af.c0 h.Af.c1 h.ix.c4 h.segs h.dk h.lt I z H d E
def RX(w:World)(aW:Nat)(v:Value)(l:List (Int×List Pu))(h:Gj w aW b v l)(hl:l.length<=1073741824)(hq:∀x∈l,x.2.length<=m)(hm:l.length*m<=4398046511104):
 Ag 101 #[v] w λe w'=>∃v',e=.returned v'/\AW w' v' (l.flatMap (·.2))/\(∀g,v'.ownBlock=some g->w.heap.size<=g)/\A3 Ab w w':=by
 obtain⟨i0,hi,aL,aR,aP⟩:=E7 Ih;obtain⟨H,j1,j2,j3,j4⟩:=h;obtain⟨va,vcap,rfl,vc1,aK,-⟩:=B8 j2;unfold maxLen at aK;have aX:=A1 j4;have aS:=A1 j2;have aU:=A1 hq;have aY:Hid (∀k,k<=l.length->k*m<=4398046511104):=λk hk=>AM (Hq m hk) hm;clear j2 j3 j4 hq hm
 go_enter func101,ntmps101
 go_wp2;go_loopw [3,8] (λv iv wr=>∃(k:Nat) (d:List Pu),iv=A0 k/\k<=l.length/\d.length<=k*m/\Hid (AW wr v d/\(∀g,v.ownBlock=some g->w.heap.size<=g)/\A3 Ab w wr/\d=(l.take k).flatMap (·.2))) (λ_ iv _=>l.length-(intOf iv).toNat)
 case atStart=>exact⟨0,[],rfl,by omega,by simp,CD _ _ _ _,λg I=>by simp[Value.ownBlock]at I,A3.I _ _,rfl⟩
 case round=>
  obtain⟨k,d,rfl,hk,aN,hI⟩:=hrel;obtain⟨i1,i2,O,i4⟩:=hI.o;obtain⟨ap,cp,rfl,hcap1,aA,-⟩:=B8 i1;unfold maxLen at aA;by_cases z:k<l.length
  ·(have E:k<H.length:=by omega);have L:w.cell? ((Aa ((va.map (·.block)).getD 0) k):Addr)=some (A5 (H[k]'E))/\∃g,va=some (Aa g 0):=by
    obtain⟨a',c',e,-,-,hz,-⟩:=B8 aS.o;cases e;obtain⟨g,rfl⟩:=hz (by omega);exact⟨BC aS.o rfl (by simp[Gr,E]),g,rfl⟩
   obtain⟨aF,g,rfl⟩:=L;have W:A7 w g k (A5 (H[k]'E)):=aF;obtain⟨pv,s1,s2,-,-⟩:=aX.o k E z;have X:=aU.o _ (BV z);have Y:l.take (k+1)=l.take k++[l[k]'z]:=Dn z;obtain⟨gb,aE⟩:∃gb,(H[k]'E)=gb:=⟨_,rfl⟩;rw[aE]at W s1;obtain⟨⟨n,pl⟩,hx⟩:∃x,(l[k]'z)=x:=⟨_,rfl⟩;rw[hx]at s1 s2 Y X;dsimp only at s1 s2 X;obtain⟨pa,pc,rfl,pc1,aQ,-⟩:=B8 s2;unfold maxLen at aQ;have d1:=O.al W;have d2:=(s1.aj O (λh=>h)).c4;have aM:=A1 i1;have aH:=A1 i2;have aG:=A1 O;(have aO:Hid (d++pl=(l.take (k+1)).flatMap (·.2)):=by unfold Hid;rw[Y,i4];simp);have aD:=A1 (Src.bO underlying97 (Ay s2 λg I=>O.Ao g (AB s2 I) (λh=>h)) (I3 pl));have aT:=A1 (aY.o (k+1) z);(have aJ:(k:Int)<(l.length:Int):=by omega);have hk0:=C3 k;clear hI i1 i2 O i4 aF W s1 s2 Y hx aE;have aB:Hid ((d.length+pl.length)*24<=140737488355328/\d.length+pl.length<=(k+1)*m):=by
    have:=aT.o;rw[MS]at this;unfold Hid;rw[MS];omega
   clear aN X aT;go_wp2_with (at_builtin;refine D4 rfl (.tmp 12) (.tmp 16) 97 97 rfl 113 i0 _ 3 24 underlying97 hi aL aR aP rfl (by decide) (.slice ap d.length cp) d.length (B9 d) (by rfl) aM.o _ pl.length _ (by rfl) aD.o aB.o.1 ?_;intro a8 cap8 w8 hA;have aV:=A1 hA;clear hA);go_roundw
   case rel=>
    have hA:=aV.o;have aI:=hA.Aj (S:=λk=>(Value.slice ap d.length cp).ownBlock=some k) λ_ h=>h;refine⟨k+1,d++pl,by go_num,by omega,by simp only[AY];exact aB.o.2,?_,?_,?_,aO.o⟩
    ·(have e:(d++pl).length=d.length+pl.length:=by simp);unfold AW;rw[IS,e];exact hA.AA
    ·intro g I;rcases hA.Cj with h|h
     ·rw[h]at I;exact aH.o g I
     ·rw[h]at I;cases I;exact aG.o.Ak
    ·exact aG.o.Ap aI λy hy hlt=>by have:=aH.o y hy;omega
   case measure=>simp[intOf];omega
  ·(obtain rfl:k=l.length:=by omega);rw[C6]at i4;have aM:=A1 i1;have aH:=A1 i2;have aG:=A1 O;(have aJ:¬((l.length:Int)<(l.length:Int)):=by omega);have aO:=A1 i4;clear i1 i2 O i4 hI;go_wp2;go_ret;exact⟨_,rfl,by rw[<-aO.o];exact aM.o,aH.o,aG.o⟩
end
def A0D(w:World)(g W L:Nat)(Y aA:Int->World->Prop)(hb:w.heap[g]?=some (.cells #[.func (Fn.func 118) #[A5 W] #[],.func (Fn.func 150) #[A5 L] #[]] 50 (0,0)))(h1:Ag 118 #[A5 W] w λe w'=>∃n,e=.returned (A0 n)/\Y n w'/\w'.heap[g]?=w.heap[g]?)(h2:∀d,Y 0 d->d.heap[g]?=w.heap[g]?->Ag 150 #[A5 L] d λe w'=>∃n,e=.returned (A0 n)/\aA n w'):
 Ag 117 #[AJ g 2 2] w λe w'=>∃n,e=.returned (A0 n)/\((n≠0/\Y n w')\/aA n w'):=by
 have c0:A7 w g 0 (.func (Fn.func 118) #[A5 W] #[]):=by simp[A7,World.cell?,hb]
 have aD:Hid (∀d:World,d.heap[g]?=w.heap[g]?->A7 d g 1 (.func (Fn.func 150) #[A5 L] #[])):=λd h=>by simp[A7,World.cell?,h,hb]
 have aB:=A1 h1;have aE:=A1 h2
 go_enter func117,ntmps117
 go_wp2;refine HV 3 ?_;rw[EV];go_wp2_with (fail);refine aB.m ?_;rintro e d⟨n1,rfl,q1,k1⟩;have H:=A1 q1;have c1:=aD.o d k1;have O:=A1 k1;by_cases z:n1=0
 case neg=>
  have hb1:(n1 !=0)=true:=by simpa using z
  go_wp2;go_ret;exact⟨n1,rfl,.inl ⟨z,H.o⟩⟩
 case pos=>
 subst z;have X:=A1 (aE.o d H.o O.o);go_wp2;rw[EV];go_wp2_with (fail);refine X.m ?_;rintro e w2⟨n2,rfl,q2⟩;have E:=A1 q2;by_cases I:n2=0
 case neg=>
  have hb2:(n2 !=0)=true:=by simpa using I
  go_wp2;go_ret;exact⟨n2,rfl,.inr (E.o)⟩
 case pos=>
 subst I;go_wp2;rw[EV];go_wp2;go_ret;exact⟨0,rfl,.inr (E.o)⟩
def A0C(w:World)(g W L:Nat)(Y aA:Int->World->Prop)(hb:w.heap[g]?=some (.cells #[.func (Fn.func 150) #[A5 W] #[],.func (Fn.func 86) #[A5 L] #[]] 50 (0,0)))(h1:Ag 150 #[A5 W] w λe w'=>∃n,e=.returned (A0 n)/\Y n w'/\w'.heap[g]?=w.heap[g]?)(h2:∀d,Y 0 d->d.heap[g]?=w.heap[g]?->Ag 86 #[A5 L] d λe w'=>∃n,e=.returned (A0 n)/\aA n w'):
 Ag 117 #[AJ g 2 2] w λe w'=>∃n,e=.returned (A0 n)/\((n≠0/\Y n w')\/aA n w'):=by
 have c0:A7 w g 0 (.func (Fn.func 150) #[A5 W] #[]):=by simp[A7,World.cell?,hb]
 have aD:Hid (∀d:World,d.heap[g]?=w.heap[g]?->A7 d g 1 (.func (Fn.func 86) #[A5 L] #[])):=λd h=>by simp[A7,World.cell?,h,hb]
 have aB:=A1 h1;have aE:=A1 h2
 go_enter func117,ntmps117
 go_wp2;refine HV 3 ?_;rw[EV];go_wp2_with (fail);refine aB.m ?_;rintro e d⟨n1,rfl,q1,k1⟩;have H:=A1 q1;have c1:=aD.o d k1;have O:=A1 k1;by_cases z:n1=0
 case neg=>
  have hb1:(n1 !=0)=true:=by simpa using z
  go_wp2;go_ret;exact⟨n1,rfl,.inl ⟨z,H.o⟩⟩
 case pos=>
 subst z;have X:=A1 (aE.o d H.o O.o);go_wp2;rw[EV];go_wp2_with (fail);refine X.m ?_;rintro e w2⟨n2,rfl,q2⟩;have E:=A1 q2;by_cases I:n2=0
 case neg=>
  have hb2:(n2 !=0)=true:=by simpa using I
  go_wp2;go_ret;exact⟨n2,rfl,.inr (E.o)⟩
 case pos=>
 subst I;go_wp2;rw[EV];go_wp2;go_ret;exact⟨0,rfl,.inr (E.o)⟩
def A0E(w:World)(g p1 Y W:Nat)(aE aF aG:Int->World->Prop)(hb:w.heap[g]?=some (.cells #[.func (Fn.func 118) #[A5 p1] #[],.func (Fn.func 119) #[A5 Y] #[],.func (Fn.func 86) #[A5 W] #[]] 50 (0,0)))(h1:Ag 118 #[A5 p1] w λe w'=>∃n,e=.returned (A0 n)/\aE n w'/\w'.heap[g]?=w.heap[g]?)(h2:∀d,aE 0 d->d.heap[g]?=w.heap[g]?->Ag 119 #[A5 Y] d λe w'=>∃n,e=.returned (A0 n)/\aF n w'/\w'.heap[g]?=w.heap[g]?)(h3:∀d,aF 0 d->d.heap[g]?=w.heap[g]?->Ag 86 #[A5 W] d λe w'=>∃n,e=.returned (A0 n)/\aG n w'):
 Ag 117 #[AJ g 3 3] w λe w'=>∃n,e=.returned (A0 n)/\((n≠0/\aE n w')\/(n≠0/\aF n w')\/aG n w'):=by
 have c0:A7 w g 0 (.func (Fn.func 118) #[A5 p1] #[]):=by simp[A7,World.cell?,hb]
 have aK:Hid (∀d:World,d.heap[g]?=w.heap[g]?->A7 d g 1 (.func (Fn.func 119) #[A5 Y] #[])):=λd h=>by simp[A7,World.cell?,h,hb]
 have aH:Hid (∀d:World,d.heap[g]?=w.heap[g]?->A7 d g 2 (.func (Fn.func 86) #[A5 W] #[])):=λd h=>by simp[A7,World.cell?,h,hb]
 have aJ:=A1 h1;have aL:=A1 h2;have aI:=A1 h3
 go_enter func117,ntmps117
 go_wp2;refine HV 4 ?_;rw[EV];go_wp2_with (fail);refine aJ.m ?_;rintro e d⟨n1,rfl,q1,k1⟩;have L:=A1 q1;have c1:=aK.o d k1;have aA:=A1 k1;by_cases z:n1=0
 case neg=>
  have hb1:(n1 !=0)=true:=by simpa using z
  go_wp2;go_ret;exact⟨n1,rfl,.inl ⟨z,L.o⟩⟩
 case pos=>
 subst z;have aD:=A1 (aL.o d L.o aA.o);go_wp2;rw[EV];go_wp2_with (fail);refine aD.m ?_;rintro e w2⟨n2,rfl,q2,k2⟩;have H:=A1 q2;have c2:=aH.o w2 k2;have aB:=A1 k2;by_cases E:n2=0
 case neg=>
  have hb2:(n2 !=0)=true:=by simpa using E
  go_wp2;go_ret;exact⟨n2,rfl,.inr (.inl ⟨E,H.o⟩)⟩
 case pos=>
 subst E;have X:=A1 (aI.o w2 H.o aB.o);go_wp2;rw[EV];go_wp2_with (fail);refine X.m ?_;rintro e w3⟨n3,rfl,q3⟩;have I:=A1 q3;by_cases O:n3=0
 case neg=>
  have hb3:(n3 !=0)=true:=by simpa using O
  go_wp2;go_ret;exact⟨n3,rfl,.inr (.inr (I.o))⟩
 case pos=>
 subst O;go_wp2;rw[EV];go_wp2;go_ret;exact⟨0,rfl,.inr (.inr (I.o))⟩
def Aq.a7{w O X:World}{Ft d:Nat->Prop}{R:World->(Nat->Prop)->Prop}(Y:A3 Ft w O)(W:∀k,d k->Ft k\/w.heap.size<=k)(h2:Aq O d X R):Aq w Ft X R:=by
 obtain⟨I,H,E,z,L⟩:=h2;refine⟨Y.Ap I λx hx hlt=>(W x hx).resolve_right (by omega),H,E,z,λk hk=>?_⟩;rcases L k hk with h|h
 ·exact W k h
 ·exact .inr (AM Y.Ak h)
section
variable {w:World} {ab b xb jb B:Nat} {sv ov lv jo:Value} {A:Ar} {P:PD} {Ft FT:Nat->Prop} {a c m:Nat}
def A06(h:Bn w b P Ft)(nm:Bs):
 Ag 85 #[A5 b,.string ⟨nm.toArray⟩] w (Al (A0 (P.ae (A8 nm)).1) λw'=>Aq w Ft w' (λw' d=>Bn w' b (P.ae (A8 nm)).2 d)):=Qy h (A8 nm)
def QE(nm:Bs)(r:List Bs)(P:PD):PD.ax (nm::r) P=if (P.ae (A8 nm)).1≠0 then P.ae (A8 nm) else PD.ax r (P.ae (A8 nm)).2:=rfl
def QT(w:World)(h:AD w ab b A P FT):
 Ag 118 #[A5 ab] w (Al (A0 (A.C P).1) λw'=>Aq w FT w' (λw' aT=>AD w' ab b (A.C P).2.1 (A.C P).2.2 aT)/\w'.cell? (Aa ab 2)=w.cell? (Aa ab 2)):=by
 obtain⟨xb,jb,sv,ov,lv,jo,Ft,hV,aI⟩:=h;have a4:=hV.Af.c4;obtain⟨oa,L,rfl,oc1,aX⟩:=hV.AP.Ce;unfold maxLen at aX;have aK:=A1 hV;have E:=A1 aI;have aO:Hid (A.C P=if (PD.ax A.AP P).1≠0 then ((PD.ax A.AP P).1,A,(PD.ax A.AP P).2) else (0,{A with AP:=[]},(PD.ax A.AP P).2)):=rfl;have aY:=A1 QE;generalize hR:A.C P=R at aO ⊢;obtain⟨X,hX⟩:∃X,PD.ax A.AP P=X:=⟨_,rfl⟩;have aZ:=A1 hX;rw[hX]at aO
 go_enter func118,ntmps118
 go_wp2;go_loopw [11] (λiv wr=>∃(k:Nat),iv=A0 k/\k<=A.AP.length/\Hid (∃aA,Aq w Ft wr (λw' H=>Ck w' ab b xb jb sv (.slice oa A.AP.length L) lv jo A aA H)/\X=PD.ax (A.AP.drop k) aA)) (λiv _=>A.AP.length-(intOf iv).toNat)
 case atStart=>exact⟨0,rfl,by omega,P,⟨A3.I _ _,Ft,aK.o,aK.o.lt,λk z=>.inl z⟩,aZ.o.symm⟩
 case round=>
  obtain⟨k,rfl,z,hI⟩:=hrel;obtain⟨aA,hi,hx⟩:=hI.o;obtain⟨c1,aH,d,lt1,s1⟩:=hi;by_cases aE:k<A.AP.length
  ·obtain⟨g,o,rfl,d1⟩:=GB.at d.AP k aE;have aJ:=Fw aE;generalize hne:(A.AP[k]'aE)=nm at d1 aJ;rw[aJ,aY.o]at hx;have e0:=d.Af.c0;have aN:=A1 (A06 d.dk nm);generalize hY:aA.ae (A8 nm)=Y at aN hx;have aD:Hid (∀w6,Aq wr aH w6 (λw' H=>Bn w' b Y.2 H)->Aq w Ft w6 (λw' H=>Ck w' ab b xb jb sv (.slice (some (Aa g o)) A.AP.length L) lv jo A Y.2 H)):=λw6 h6=>Aq.a7 c1 s1 (d.cg h6);have aF:=A1 hx;(have aS:(k:Int)<(A.AP.length:Int):=by omega);have hk0:=C3 k;obtain⟨aL,aM⟩:=Y;dsimp only at aN aD aF;by_cases hy:aL=0
   case neg=>
    (have W:X=(aL,aM):=by rw[aF.o,Ah hy]);subst W;(have aG:R=(aL,A,aM):=by rw[aO.o,Ah hy]);subst aG;(have hyb:(aL !=0)=true:=by simpa using hy);go_wp2_with (go_at_call 85;refine aN.m ?_;rintro e w6⟨rfl,aB⟩;have I:=A1 (aD.o w6 aB));go_ret;obtain⟨_,_,aR,_⟩:=I.o;exact⟨rfl,aK.o.cH E.o I.o,aR.Af.c2.trans aK.o.Af.c2.symm⟩
   case pos=>
    subst hy;(have aW:Hid (X=PD.ax (A.AP.drop (k+1)) aM):=by unfold Hid;rw[aF.o,Ad (by simp)]);go_wp2_with (go_at_call 85;refine aN.m ?_;rintro e w6⟨rfl,aB⟩;have I:=A1 (aD.o w6 aB));go_roundw
    case rel=>exact⟨k+1,by go_num,by omega,aM,I.o,aW.o⟩
    case measure=>simp[intOf];omega
  ·(obtain rfl:k=A.AP.length:=by omega);rw[Gn]at hx;have W:X=(0,aA):=hx;subst W;(have aG:R=(0,{A with AP:=[]},aA):=by rw[aO.o,Ad (by simp)]);subst aG;(have aS:¬((A.AP.length:Int)<(A.AP.length:Int)):=by omega);have g4:=d.Af.c4;have f4:=d.Af.fz 4;have aQ:=A1 d;have aU:=A1 c1;have aP:=A1 s1;go_wp2;go_ret;have d:=aQ.o;have kz:A3 (One ab) wr (wr.sC ab 4 (.slice none 0 0)):=(A3.I (One ab) wr).ao (b:=ab) rfl 4 _;have hs:∀k,k≠ab->k<wr.heap.size->(wr.sC ab 4 (.slice none 0 0)).heap[k]?=wr.heap[k]?:=λk z hl=>kz.Ao k hl z;have aV:∀k,Dh jb lv jo k->k≠ab:=λk z=>(d.FB k z).1
   have O:Ck (wr.sC ab 4 (.slice none 0 0)) ab b xb jb sv (.slice none 0 0) lv jo {A with AP:=[]} aA aH:=
    ⟨d.Af.s4 _,(hs xb d.ne.symm d.ix.lt).trans d.ix,d.segs.aP λg hg=>hs g (d.Fg g hg).1 (d.segs.lt hg),Ds.bT,d.jn.aP λk z=>hs k (aV k z) (d.jn.lt z),
     B3.aP d.dk λk z=>hs k (λe=>by subst e;exact d.De _ (.inl rfl) z) (d.lt k z),λk z=>Bk (d.lt k z) kz.Ak,
     λk z=>d.De k (by
      rcases z with h|h|h|h|h
      ·exact .inl h
      ·exact .inr (.inl h)
      ·exact .inr (.inr (.inl h))
      ·simp[Value.ownBlock]at h
      ·exact .inr (.inr (.inr (.inr h)))),d.Fg,λg hg=>by simp[Value.ownBlock]at hg,d.FB⟩
   refine⟨rfl,?_,O.Af.c2.trans aK.o.Af.c2.symm⟩;refine(O.bN ((aU.o.aa (S':=λk=>Ft k\/k=ab) λ_ _ h=>.inl h).Ap kz λ_ h _=>.inr h) ?_ (λk z=>(aP.o k z).imp (λh=>E.o k (.inl h)) id) ?_)
   ·rintro k _ (h|rfl)
    ·exact E.o k (.inl h)
    ·exact E.o _ (.inr (.inl rfl))
   ·intro k z;refine .inl (E.o k (.inr ?_));rcases z with h|h|h|h|h
    ·exact .inl h
    ·exact .inr (.inl h)
    ·exact .inr (.inr (.inl h))
    ·simp[Value.ownBlock]at h
    ·exact .inr (.inr (.inr (.inr h)))
def QU(w:World)(h:AD w ab b A P FT):
 Ag 118 #[A5 ab] w (Al (A0 (A.C P).1) λw'=>Aq w FT w' (λw' d=>AD w' ab b (A.C P).2.1 (A.C P).2.2 d)):=
 (QT w h).mono λ_ _ ⟨E,z,_⟩=>⟨E,z⟩
end
end
section
open Go.RowKit
def A3.dm{w w':World}(h:Below w.heap.size w w'):A3 Ab w w':=⟨h.os,h.tape,h.output,h.size,λk d _=>h.block k d⟩
def O7{w:World}{d e size n:Nat}{v:Value}{xs:List Value}(h:w.ownsRow d e size v n xs):w.ownsRow 0 e size v n xs/\∀g,v.ownBlock=some g->d<=g:=by
 refine⟨⟨h.1,?_⟩,λg H=>(h.lt g H).1⟩;rcases h.2 with E|⟨g,cap,z,E,_,I⟩
 ·exact .inl E
 ·exact .inr ⟨g,cap,z,E,Cf _,I⟩
def A2e(l:List Bs):Dj l=l.map encStr:=rfl
def WS(w:World)(v:Value)(l:List Bs)(h:Dl w v l)(Y:l.length<4611686018427387904):
 Calls Tryz.prog 137 #[v] w λe w'=>e=.returned (.tuple #[])/\Dl w' v (l.mergeSort λx y=>decide (x<=y))/\A3 (λk=>v.ownBlock=some k) w w':=by
 obtain⟨h1,O⟩:=h;rcases O with⟨rfl,W⟩|⟨g,cap,H,rfl,_,E,z,hm,hs,L⟩
 ·have e:=GR.1 W;subst e;refine(Tryz.slices_Sort_string_none none 0 w).mono ?_;rintro e w'⟨rfl,rfl⟩;exact⟨rfl,by rw[A3z];exact CD _ _ _ _,A3.I _ _⟩
 ·have I:H.toList.take l.length=l.map encStr:=by rw[PC]at L;rw[L];rfl
  refine(Tryz.slices_Sort_string g 0 cap l w (holds_of_block E I) (By E) Y).mono ?_;rintro e w'⟨rfl,n,os,rfl⟩;have d:(l.mergeSort λx y=>decide (x<=y)).length=l.length:=by simp
  refine⟨rfl,?_,(A3.I _ w).Cy (grownBy_sorted _) λk X _=>by cases X;rfl⟩;unfold Dl;rw[A2e,d];exact ownsRow_sorted d (Cf _) E z hm hs
def WV(w:World)(v:Value)(l:List Int)(h:Dy w v l)(Y:l.length<4611686018427387904):
 Calls Tryz.prog 115 #[v] w λe w'=>e=.returned (.tuple #[])/\Dy w' v (l.mergeSort λx y=>decide (x<=y))/\A3 (λk=>v.ownBlock=some k) w w':=by
 obtain⟨h1,O⟩:=h;rcases O with⟨rfl,W⟩|⟨g,cap,H,rfl,_,E,z,hm,hs,L⟩
 ·have e:=GR.1 W;subst e;refine(Tryz.slices_Sort_int_none none 0 w).mono ?_;rintro e w'⟨rfl,rfl⟩;exact⟨rfl,by rw[A3z];exact CD _ _ _ _,A3.I _ _⟩
 ·have I:H.toList.take l.length=l.map (Value.int .i64):=by rw[PC]at L;rw[L];rfl
  refine(Tryz.slices_Sort_int g 0 cap l w (holds_of_blockI E I) (By E) Y).mono ?_;rintro e w'⟨rfl,n,os,rfl⟩;have d:(l.mergeSort λx y=>decide (x<=y)).length=l.length:=by simp
  refine⟨rfl,?_,(A3.I _ w).Cy (grownBy_sortedI _) λk X _=>by cases X;rfl⟩;unfold Dy;rw[d];exact ownsRow_sortedI d (Cf _) E z hm hs
def QP(x:Bs):∀(l:List Bs),(l.Pairwise λa b=>¬b<a)->∃k,k<=l.length/\(∀t (d:t<l.length),t<k->(l[t]'d)<x)/\∀t (d:t<l.length),k<=t->¬(l[t]'d)<x
 | [],_=>⟨0,As _,λt d=>by simp at d,λt d=>by simp at d⟩
 | y::r,hs=>by
  obtain⟨W,O⟩:=Db.1 hs;by_cases E:y<x
  ·obtain⟨k,k0,H,L⟩:=QP x r O;refine⟨k+1,by simp;omega,λt d z=>?_,λt d z=>?_⟩
   ·cases t with
    | zero=>exact E
    | succ t=>exact H t (by simp at d;omega) (by omega)
   ·cases t with
    | zero=>omega
    | succ t=>exact L t (by simp at d;omega) (by omega)
  ·refine⟨0,Cf _,λt _ z=>by omega,λt d _ h=>?_⟩;cases t with
   | zero=>exact E h
   | succ t=>
    have I:=W _ (BV (show t<r.length by simp at d;omega));exact E (List.lt_of_le_of_lt (show y<=_ from I) h)
def A2d(w:World)(v:Value)(l:List Bs)(x:Bs)(h:GB w v l)(hl:l.length<4611686018427387904)(hs:l.Pairwise λa b=>¬b<a):
 Calls Tryz.prog 138 #[v,.string ⟨x.toArray⟩] w λe w'=>∃i,e=.returned (.tuple #[.int .i64 i,.bool (decide (x∈l))])/\∃q,w'=w.drewN q:=by
 obtain⟨a,cap,rfl,hcap,hm⟩:=h.Ce;by_cases h0:l.length=0
 ·have e:l=[]:=GR.1 h0;subst e;refine(Any2.slices_BinarySearch_string_empty Tryz.eL a cap ⟨x.toArray⟩ w).mono ?_;rintro e w'⟨rfl,rfl⟩;exact⟨0,by simp,0,rfl⟩
 ·obtain⟨g,o,rfl,-⟩:=GB.at h 0 (by omega)
  let Sx:Nat->ByteArray:=λt=>if d:t<l.length then ⟨(l[t]'d).toArray⟩ else ⟨x.toArray⟩
  have H:∀t (d:t<l.length),Sx t=⟨(l[t]'d).toArray⟩:=λt d=>by simp only[Sx,P4 d]
  refine(Any2.slices_BinarySearch_string Tryz.eL g o l.length cap Sx ⟨x.toArray⟩ w hl (λj X=>?_)).mono ?_
  ·obtain⟨g',o',e,hc⟩:=GB.at h j X;cases e;rw[H j X];exact hc
  rintro e w'⟨O,q,rfl⟩;have E:∀t,Op.bytesLess (Sx t).toList (⟨x.toArray⟩:ByteArray).toList=decide (∃d:t<l.length,(l[t]'d)<x):=λt=>by
   rw[Um,Kk,Kk];by_cases d:t<l.length
   ·rw[H t d];by_cases I:(l[t]'d)<x
    ·have L:decide (∃d:t<l.length,(l[t]'d)<x)=true:=CH ⟨d,I⟩;rw[L];exact CH I
    ·have L:decide (∃d:t<l.length,(l[t]'d)<x)=false:=CZ λ⟨_,h⟩=>I h
     rw[L];exact CZ I
   ·(have e:Sx t=⟨x.toArray⟩:=by simp only[Sx,P5 d]);have L:decide (∃d:t<l.length,(l[t]'d)<x)=false:=CZ λ⟨h,_⟩=>d h
    rw[e,L];exact CZ (Lx _)
  have aF:∀(i j:Nat) (hi:i<l.length) (X:j<l.length),i<j->¬(l[j]'X)<(l[i]'hi):=λi j hi X aD=>Kg.1 hs i j hi X aD;obtain⟨k,hk,k1,k2⟩:=QP x l hs;have aB:Lib.bsGo (λt=>Op.bytesLess (Sx t).toList (⟨x.toArray⟩:ByteArray).toList) l.length 0 l.length=k:=by
   refine Lib.bsGo_spec _ k (λt d=>?_) (λt d=>?_) _ 0 l.length (by omega) (by omega) hk
   ·rw[E t];exact CH ⟨by omega,k1 t (by omega) d⟩
   ·rw[E t];exact CZ λ⟨L,h2⟩=>k2 t L d h2
  rw[aB]at O;have:(k<l.length/\Sx k=⟨x.toArray⟩)↔x∈l:=by
   constructor
   ·rintro⟨z,Y⟩;rw[H k z]at Y;have:(l[k]'z)=x:=by
     have:=Ei (λ(b:ByteArray)=>b.data.toList) Y;simpa using this
    rw[<-this];exact BV z
   ·intro hm;obtain⟨t,d,O⟩:=DU hm;have htk:k<=t:=by
     rcases F7 t k with W | W
     ·have:=k1 t d W;rw[O]at this;exact absurd this (Lx _)
     ·exact W
    (have z:k<l.length:=by omega);refine⟨z,?_⟩;have aE:¬x<(l[k]'z):=by
     rcases F7 k t with W | W
     ·have:=aF k t z d W;rwa [O]at this
     ·(have e:k=t:=by omega);subst e;rw[O];exact Lx _
    have aA:=k2 k z (As _);have:(l[k]'z)=x:=List.le_antisymm (show (l[k]'z)<=x from aE) (show x<=(l[k]'z) from aA);rw[H k z,this]
  have hd:decide (k<l.length/\Sx k=⟨x.toArray⟩)=decide (x∈l):=by
   by_cases I:x∈l
   ·rw[CH I];exact CH (this.2 I)
   ·rw[CZ I];exact CZ λh=>I (this.1 h)
  rw[hd]at O;exact⟨_,O,q,rfl⟩
def A10(w:World)(v:Value)(l:List Pu)(h:AW w v l)(hl:l.length*24<=140737488355328):
 Calls Tryz.prog 153 #[v] w λe w'=>∃d,e=.returned d/\AW w' d l/\(∀g,d.ownBlock=some g->w.heap.size<=g)/\A3 (λ_=>False) w w':=by
 obtain⟨Y,hi,z,E,H⟩:=E7 Ih;obtain⟨a,cap,rfl,h1,I,h3,O,X⟩:=B8 h;cases a with
 | none=>
  have e:=GR.1 (O rfl).1;subst e;refine(AnyE.slices_Clone_nil Tryz.eJ _ cap w).mono ?_;rintro e w'⟨rfl,rfl⟩;exact⟨_,rfl,CD _ _ _ _,λg L=>by simp[Value.ownBlock]at L,A3.I _ _⟩
 | some x=>
  obtain⟨g,rfl⟩:=X x rfl;unfold maxLen at I;refine(AnyE.slices_Clone Tryz.eJ Y _ 3 24 hi z E H rfl (by decide) (λw=>sizeOf113 w) g 0 l.length cap (B9 l) w h.1 (by unfold maxLen;omega) hl (λj u hj=>?_) (I3 l)).mono ?_
  ·have:=BC h rfl hj;simpa using this
  rintro e w'⟨d,rfl,h6,h7,h8⟩;obtain⟨W,q2⟩:=O7 h6;exact⟨d,rfl,W,q2,A3.dm h8⟩
def A11(w:World)(v:Value)(l:List Int)(h:D5 w v l)(hl:l.length*8<=140737488355328):
 Calls Tryz.prog 108 #[v] w λe w'=>∃d,e=.returned d/\Dy w' d l/\(∀g,d.ownBlock=some g->w.heap.size<=g)/\A3 (λ_=>False) w w':=by
 obtain⟨a,cap,rfl,h1,h2⟩:=h.Ce;by_cases O:l.length=0
 ·have e:=GR.1 O;subst e;cases a with
  | none=>
   refine(Tryz.slices_Clone_int_nil 0 cap w).mono ?_;rintro e w'⟨rfl,rfl⟩;exact⟨_,rfl,CD _ _ _ _,λg W=>by simp[Value.ownBlock]at W,A3.I _ _⟩
  | some x=>
   refine(Tryz.slices_Clone_int_zero x cap w).mono ?_;rintro e w'⟨d,rfl,z,X,H⟩;obtain⟨E,I⟩:=O7 z;exact⟨d,rfl,E,I,A3.dm H⟩
 ·obtain⟨g,o,rfl,-⟩:=D5.at h 0 (by omega);refine(Tryz.slices_Clone_int g o l.length cap l w (As _) hl (λj L=>?_)).mono ?_
  ·obtain⟨g',o',e,Y⟩:=D5.at h j L;cases e;rw[OO l j L];exact Y
  rintro e w'⟨d,rfl,z,X,H⟩;rw[C6]at z;obtain⟨E,I⟩:=O7 z;exact⟨d,rfl,E,I,A3.dm H⟩
end
end Go.Proofs.YtodcnkbblippnaaGreatDoor
