/- Part 15 of a proof: walks of the program. -/
import Derived.Test.YtodcnkbblippnaaGreatDoorProg
import Derived.Conc.RwLib
import Derived.KernelRfl
import Derived.Sort.OwnSorted
import Derived.Sort.OwnSortedInts
import Derived.Test.YtodcnkbblippnaaGreatDoorPk14
namespace Go.Proofs.YtodcnkbblippnaaGreatDoor
set_option maxRecDepth 100000
set_option maxHeartbeats 32000000
set_option linter.defProp false
open Go.Proofs.Tryz
section
open Go.RowKit
def Ht.a6{w d w':World}{b o:Nat}{z:Array Value}{T:Nat}{lv lv':Value}{E:List Pt}(h:Ht d w' b o z T lv E lv')(H:A3 Ab w d):Ht w w' b o z T lv E lv':=
 ⟨h.By,(H.aa λ_ _ h=>h.elim).tr h.Ak,λg I=>(h.AB g I).imp id λh=>AR H.Ao h⟩
def A00(w:World)(I d:Nat)(Y:Array Value)(T:Nat)(hT:T≠70)(A6 Ad t v:Int)(L:List Pt)(lv:Value)(hsr:d<8)(h:Hc w I (7+d) Y T L lv)(aH:L.length<1099511627775)(h3:Y[3]?=some (A0 Ad))(h4:Y[5]?=some (A0 A6))(hl:1<=Ad/\Ad<=4611686018427387904)(hc:AE A6):
 Af 60 #[A5 I,.agg #[A0 d,A0 t,A0 v]] w (Aj (.tuple #[]) λw'=>
  ((Bc A6 Ad<=t/\∃lv',Ht w w' I (7+d) Y T lv (CA L t v) lv')\/(t<Bc A6 Ad/\A3 Ab w w'))):=by
 have c3:A7 w I 3 (A0 Ad):=by simp[A7,World.cell?,h.Ag,h3]
 have c4:A7 w I 5 (A0 A6):=by simp[A7,World.cell?,h.Ag,h4]
 have aJ:∀w',A3 Ab w w'->_:=λw' O=>Mj w' I A6 Ad (O.ao c3) (O.ao c4) hl hc;generalize ho:Bc A6 Ad=o at aJ ⊢;have aL:∀w',A3 Ab w w'->_:=λw' O=>YN w' I (7+d) Y T hT L lv t v (h.Ak O) aH;have aB:=A1 aJ;have aD:=A1 aL
 go_enter func60,ntmps60
 go_wp2;have hb:(w.alloc (.cells #[A0 d,A0 t,A0 v] 113)).heap[w.heap.size]?=some (.cells #[A0 d,A0 t,A0 v] 113 (0,0)):=by show (w.heap.push _)[w.heap.size]?=_;rw[IB]
 have H:Hid ((w.alloc (.cells #[A0 d,A0 t,A0 v] 113)).heap[w.heap.size]?=some (.cells #[A0 d,A0 t,A0 v] 113 (0,0))/\A3 Ab w (w.alloc (.cells #[A0 d,A0 t,A0 v] 113))):=⟨hb,(A3.I _ w).ai _⟩;generalize (w.alloc (.cells #[A0 d,A0 t,A0 v] 113))=w1 at H ⊢;refine Hf 5 (λy=>{tmps:=#[A5 I,.agg #[A0 d,A0 t,A0 v],undef,A5 w.heap.size,y 0,y 1,y 2,y 3,y 4,undef,undef,undef,undef,undef,undef,undef,undef,undef,undef],defers:=[]}) (λ_=>undef)
  (λw'=>w'.heap[w.heap.size]?=some (.cells #[A0 d,A0 t,A0 v] 113 (0,0))/\A3 Ab w w') (A3 Ab)
  (λj x w'=>match j with
   | 0=>x=.pointer (some (Ac w.heap.size 1))
   | 1=>x=.pointer (some (Ac w.heap.size 1))
   | 2=>x=A0 t
   | 3=>x=(A5 I)
   | 4=>x=A0 o
   | _=>True)
  (by kernel_rfl) (by kernel_rfl) rfl ?_ ?_ ?_ ?_
 ·exact⟨H.o.1,H.o.2.af⟩
 ·intro j x w1 w2 hR hS' hG;split at hG<;>exact hG
 ·clear H;simp only[Fa,EV,FO,HK]
  repeat' (with_reducible apply And.intro)
  all_goals refine⟨?_,(by intro y z _ _ h;exact Bool.noConfusion h),λy x=>rfl⟩
  all_goals
   intro y z W hd hw K hK;obtain⟨aA,aG⟩:=W;simp[Gk,Region.binds,Fe,List.filter_cons]at hd;(have p1:A7 z w.heap.size 1 (A0 t):=by simp[A7,World.cell?,aA]);have E:Hid (z.heap[w.heap.size]?=some (.cells #[A0 d,A0 t,A0 v] 113 (0,0))/\A3 Ab w z):=⟨aA,aG⟩;have aK:=A1 hK
  all_goals dsimp only
  all_goals try go_simp
  all_goals try with_reducible exact aK.o _ _ _ rfl (by simp[Act.put,hd]) (A3.I _ _) E.o
  all_goals
   refine(aB.o z E.o.2).mono ?_;rintro e w2⟨rfl,O⟩;exact aK.o _ _ _ rfl (by simp[Act.put,hd]) O ⟨O.aj E.o.1 (by simp),E.o.2.tr O⟩
 ·intro y z W hG;have h2:y 2=A0 t:=hG 2 (by omega);have h4:y 4=A0 o:=hG 4 (by omega);have p0:A7 z w.heap.size 0 (A0 d):=by simp[A7,World.cell?,W.1]
  have p1:A7 z w.heap.size 1 (A0 t):=by simp[A7,World.cell?,W.1]
  have p2:A7 z w.heap.size 2 (A0 v):=by simp[A7,World.cell?,W.1]
  have E:=A1 W;have hsrI:(d:Int)<8:=by omega
  by_cases aE:o<=t
  ·go_wp2;refine FQ (λw'=>A7 w' w.heap.size 0 (A0 d)/\A7 w' w.heap.size 1 (A0 t)/\A7 w' w.heap.size 2 (A0 v)) 8
    (Br [0,1,2,3,4,5,6,7] []) (by kernel_rfl) (by kernel_rfl) (λ_ _ _ _ _ h=>h) ⟨p0,p1,p2⟩ ?_
   iterate 8 (refine Ec (v:=?_) rfl (by rfl) ?_ ?_;rotate_left;(· (intro w' W;(try dsimp only at W);go_simp;try with_reducible rfl));(try simp only[An]))
   refine Bl ?_;simp only[DJ,Dq];have aI:=A1 (aD.o z.drew E.o.2.af);go_wp2_with (go_at_call 102;refine aI.m ?_;rintro e w2⟨rfl,lv',hR⟩;have aF:=A1 hR);go_end0
   first|exact⟨rfl,lv',aF.o.before E.o.2.drew⟩|exact⟨rfl,.inl ⟨lv',aF.o.before E.o.2.drew⟩⟩|exact⟨rfl,.inl ⟨aE,lv',aF.o.a6 E.o.2.af⟩⟩
  ·(have hlt:t<o:=by omega);go_wp2;go_end0;exact⟨rfl,.inr E.o.2⟩
end
abbrev Tryz.fW:Go.Conc.Locks.MuLink:={lock:=61,unlock:=62,ilock:=103,iunlock:=104,lockSlow:=144,unlockSlow:=147,disable:=140,enable:=142,acquire:=143,relMerge:=145,cas32:=141,add32:=146,tMutex:=106,tIMutex:=104,tPMutex:=167,tPIMutex:=213,tPI32:=215,tUP:=217,tNoCopy:=101,tU32:=102}
def Tryz.bu:Go.Conc.Locks.MuLib Tryz.prog Tryz.fW:=
 ⟨func61,func62,func103,func104,func140,func142,func143,func145,func141,func146,
  underlying104,Tryz.runUnderlying104,sizeOf104,isAgg104,zeroValue104,
  underlying106,Tryz.runUnderlying106,sizeOf106,isAgg106,zeroValue106,
  underlying167,Tryz.runUnderlying167,sizeOf167,isAgg167,zeroValue167,
  underlying213,Tryz.runUnderlying213,sizeOf213,isAgg213,zeroValue213,
  underlying215,Tryz.runUnderlying215,sizeOf215,isAgg215,zeroValue215,
  underlying217,Tryz.runUnderlying217,sizeOf217,isAgg217,zeroValue217,
  underlying101,Tryz.runUnderlying101,sizeOf101,isAgg101,zeroValue101,
  underlying21,Tryz.runUnderlying21,sizeOf21,isAgg21,zeroValue21,(by kernel_rfl)⟩
section
open Go.RowKit
def FH(mu:Int)(jv:Value)(Ad aA A6:Int)(ro:Bool)(lv:Nat->Value):Array Value:=
 #[.int .i32 mu,.int .u32 0,jv,.int .i64 Ad,.int .i64 aA,.int .i64 A6,.bool ro,lv 0,lv 1,lv 2,lv 3,lv 4,lv 5,lv 6,lv 7]
def Bt(w:World)(sb:Nat)(mu:Int)(jv:Value)(Ad aA A6:Int)(ro:Bool)(lv:Nat->Value):Prop:=
 w.heap[sb]?=some (.cells (FH mu jv Ad aA A6 ro lv) 111 (0,0))
section
variable {w:World} {sb:Nat} {mu:Int} {jv:Value} {Ad aA A6:Int} {ro:Bool} {lv:Nat->Value}
def Bt.c0(h:Bt w sb mu jv Ad aA A6 ro lv):A7 w sb 0 (.int .i32 mu):=by unfold Bt at h;simp[A7,World.cell?,h,FH]
def Bt.c2(h:Bt w sb mu jv Ad aA A6 ro lv):A7 w sb 2 jv:=by unfold Bt at h;simp[A7,World.cell?,h,FH]
def Bt.c3(h:Bt w sb mu jv Ad aA A6 ro lv):A7 w sb 3 (A0 Ad):=by unfold Bt at h;simp[A7,World.cell?,h,FH]
def Bt.cW(h:Bt w sb mu jv Ad aA A6 ro lv):A7 w sb 4 (A0 aA):=by unfold Bt at h;simp[A7,World.cell?,h,FH]
def Bt.cK(h:Bt w sb mu jv Ad aA A6 ro lv):A7 w sb 5 (A0 A6):=by unfold Bt at h;simp[A7,World.cell?,h,FH]
def Bt.cR(h:Bt w sb mu jv Ad aA A6 ro lv):A7 w sb 6 (.bool ro):=by unfold Bt at h;simp[A7,World.cell?,h,FH]
def Bt.fz(h:Bt w sb mu jv Ad aA A6 ro lv)(o:Nat):w.frozen? (Ac sb o)=false:=by unfold Bt at h;simp[World.frozen?,h]
def Bt.lt(h:Bt w sb mu jv Ad aA A6 ro lv):sb<w.heap.size:=Bz h
def Bt.Ak{S:Nat->Prop}{w':World}(h:Bt w sb mu jv Ad aA A6 ro lv)(z:A3 S w w')(d:¬S sb):Bt w' sb mu jv Ad aA A6 ro lv:=(z.Ap sb h.lt d).trans h
def Bt.s0(h:Bt w sb mu jv Ad aA A6 ro lv)(x:Int):Bt (w.setCell (Ac sb 0) (.int .i32 x)) sb x jv Ad aA A6 ro lv:=Ct h
def Bt.sK(h:Bt w sb mu jv Ad aA A6 ro lv)(x:Int):Bt (w.setCell (Ac sb 5) (A0 x)) sb mu jv Ad aA x ro lv:=Ct h
def Bt.sR(h:Bt w sb mu jv Ad aA A6 ro lv)(x:Bool):Bt (w.setCell (Ac sb 6) (.bool x)) sb mu jv Ad aA A6 x lv:=Ct h
def Xn{mu:Int}{jv:Value}{Ad aA A6:Int}{ro:Bool}{lv:Nat->Value}{k:Nat}(d:k<8):(FH mu jv Ad aA A6 ro lv)[7+k]?=some (lv k):=by
 match k,d with
 | 0,_=>rfl
 | 1,_=>rfl
 | 2,_=>rfl
 | 3,_=>rfl
 | 4,_=>rfl
 | 5,_=>rfl
 | 6,_=>rfl
 | 7,_=>rfl
def HF(lv:Nat->Value)(k:Nat)(v:Value):Nat->Value:=λi=>if i=k then v else lv i
def Xm{mu:Int}{jv:Value}{Ad aA A6:Int}{ro:Bool}{lv:Nat->Value}{k:Nat}(d:k<8)(v:Value):(FH mu jv Ad aA A6 ro lv).setIfInBounds (7+k) v=FH mu jv Ad aA A6 ro (HF lv k v):=by
 match k,d with
 | 0,_=>rfl
 | 1,_=>rfl
 | 2,_=>rfl
 | 3,_=>rfl
 | 4,_=>rfl
 | 5,_=>rfl
 | 6,_=>rfl
 | 7,_=>rfl
end
structure Eb (w:World) (lv:Nat->Value) (L:Nat->List Pt):Prop where
 By:∀k,k<8->Du w (lv k) (L k)
 FI:∀k,k<8->Dz (L k)
 CO:∀k,k<8->(L k).length<1099511627775
 KB:∀i j,i<8->j<8->i≠j->∀g,(lv i).ownBlock=some g->(lv j).ownBlock≠some g
def ED(lv:Nat->Value)(g:Nat):Prop:=∃k,k<8/\(lv k).ownBlock=some g
def Eb.lt{w:World}{lv:Nat->Value}{L:Nat->List Pt}(h:Eb w lv L){g:Nat}(z:ED lv g):g<w.heap.size:=by
 obtain⟨k,d,e⟩:=z;exact AI (h.By k d) e
def Eb.Ak{S:Nat->Prop}{w w':World}{lv:Nat->Value}{L:Nat->List Pt}(h:Eb w lv L)(H:A3 S w w')(E:∀g,ED lv g->¬S g):Eb w' lv L:=
 ⟨λk d=>Az (h.By k d) λg z=>H.Ap g (AI (h.By k d) z) (E g ⟨k,d,z⟩),h.FI,h.CO,h.KB⟩
def Eb.db{w:World}{lv:Nat->Value}{L:Nat->List Pt}(h:Eb w lv L){g:Nat}(z:ED lv g):∃c,w.heap[g]?=some (.cells c 70 (0,0)):=by
 obtain⟨k,d,e⟩:=z;exact Be (h.By k d) e
def Eb.ne{w:World}{lv:Nat->Value}{L:Nat->List Pt}(h:Eb w lv L){sb:Nat}{c:Array Value}{T:TypeId}(E:w.heap[sb]?=some (.cells c T (0,0)))(z:T≠70):¬ED lv sb:=λH=>by
 obtain⟨c',d⟩:=h.db H;rw[E]at d;cases d;exact z rfl
def Eb.dO{w:World}{lv:Nat->Value}{L:Nat->List Pt}(h:Eb w lv L){sb:Nat}{mu:Int}{jv:Value}{Ad aA A6:Int}{ro:Bool}(z:Bt w sb mu jv Ad aA A6 ro lv){k:Nat}(d:k<8):
 Hc w sb (7+k) (FH mu jv Ad aA A6 ro lv) 111 (L k) (lv k):=
 ⟨z,Xn d,h.By k d,h.FI k d,Nat.lt_trans (h.CO k d) (by decide)⟩
def H3(L:Nat->List Pt)(k:Nat)(l:List Pt):Nat->List Pt:=λi=>if i=k then l else L i
def WC{lv:Nat->Value}{k:Nat}{v:Value}{g:Nat}(h:ED (HF lv k v) g):ED lv g\/v.ownBlock=some g:=by
 obtain⟨i,d,e⟩:=h;unfold HF at e;split at e
 ·exact .inr e
 ·exact .inl ⟨i,d,e⟩
def Eb.ag{w w':World}{lv:Nat->Value}{L:Nat->List Pt}(h:Eb w lv L){sb:Nat}{mu:Int}{jv:Value}{Ad aA A6:Int}{ro:Bool}(hb:Bt w sb mu jv Ad aA A6 ro lv){k:Nat}(Y:k<8){aB:List Pt}{lv':Value}{t:Nat}(hR:Ht w w' sb (7+k) (FH mu jv Ad aA A6 ro lv) t (lv k) aB lv')(ht:t=111)(hl:aB.length<1099511627775):
 Bt w' sb mu jv Ad aA A6 ro (HF lv k lv')/\Eb w' (HF lv k lv') (H3 L k aB)/\A3 (λx=>x=sb\/ED lv x) w w'/\∀g,ED (HF lv k lv') g->ED lv g\/w.heap.size<=g:=by
 subst ht;have W:=hR.By.Ag;rw[Xm Y]at W;have I:=hR.AB;have hc:A3 (λx=>x=sb\/ED lv x) w w':=hR.Ak.aa λx _ z=>z.imp id λe=>⟨k,Y,e⟩
 have aD:=h.ne hb (by decide);refine⟨W,⟨?_,?_,?_,?_⟩,hc,λg E=>?_⟩
 ·intro i H;unfold HF H3;by_cases e:i=k
  ·simp only[e,Ch];exact hR.By.By
  ·simp only[e,C7];exact Az (h.By i H) λg E=>hR.Ak.Ap g (AI (h.By i H) E) λz=>by
    rcases z with rfl|z
    ·exact aD ⟨i,H,E⟩
    ·exact h.KB k i Y H (λx=>e x.symm) g z E
 ·intro i H;unfold H3;by_cases e:i=k
  ·simp only[e,Ch];exact hR.By.FI
  ·simp only[e,C7];exact h.FI i H
 ·intro i H;unfold H3;by_cases e:i=k
  ·simp only[e,Ch];exact hl
  ·simp only[e,C7];exact h.CO i H
 ·intro i j H hj O g E d;unfold HF at E d;by_cases e:i=k
  ·subst e;have e2:¬j=i:=λx=>O x.symm;simp only[Ch]at E;simp only[e2,C7]at d;rcases I g E with z|z
   ·exact h.KB i j Y hj O g z d
   ·have:=AI (h.By j hj) d;omega
  ·simp only[e,C7]at E;by_cases e2:j=k
   ·subst e2;simp only[Ch]at d;rcases I g d with z|z
    ·exact h.KB i j H Y O g E z
    ·have:=AI (h.By i H) E;omega
   ·simp only[e2,C7]at d;exact h.KB i j H hj O g E d
 ·rcases WC E with z|z
  ·exact .inl z
  ·rcases I g z with hy|hy
   ·exact .inl ⟨k,Y,hy⟩
   ·exact .inr hy
def Bt.bM{w:World}{sb:Nat}{jv:Value}{Ad aA A6:Int}{ro:Bool}{lv:Nat->Value}{L:Nat->List Pt}(h:Bt w sb 0 jv Ad aA A6 ro lv)(d:Eb w lv L):
 Bt (w.setCell ⟨sb,0,none⟩ (.int .i32 1)) sb 1 jv Ad aA A6 ro lv/\Eb (w.setCell ⟨sb,0,none⟩ (.int .i32 1)) lv L/\A3 (One sb) w (w.setCell ⟨sb,0,none⟩ (.int .i32 1)):=
 ⟨h.s0 1,d.Ak ((A3.I (One sb) w).aq rfl 0 _) (λg z e=>d.ne h (by decide) (e ▸ z)),(A3.I (One sb) w).aq rfl 0 _⟩
def Bt.dH{w w':World}{sb:Nat}{mu:Int}{jv:Value}{Ad aA A6:Int}{ro:Bool}{lv:Nat->Value}(h:Bt w sb 0 jv Ad aA A6 ro lv)(H:Bt w' sb mu jv Ad aA A6 ro lv)(I:A3 (One sb) w w'):
 A3 (λ_=>False) w (w'.setCell ⟨sb,0,none⟩ (.int .i32 0)):=by
 have z:=H.s0 0;have d:=I.aq (b:=sb) rfl 0 (.int .i32 0);refine⟨d.os,d.Fg,d.Fk,d.Ao,λk E _=>?_⟩;by_cases e:k=sb
 ·subst e;unfold Bt at h z;rw[h,z]
 ·exact d.Ap k E e
end
section
open Go.MuLone Go.RowKit
attribute [local go_sem ↓] Go.wp_at_zero Go.wp_at_succ CJ
section
variable {w:World} {sb:Nat} {jv:Value} {Ad aA A6:Int} {ro:Bool} {lv:Nat->Value} {L:Nat->List Pt}
def R6(w:World)(h:Bt w sb 0 jv Ad aA A6 ro lv):
 Calls Tryz.prog 38 #[.pointer (some ⟨sb,0,none⟩)] w λe w'=>e=.returned (.agg #[.bool ro,.int .i64 A6])/\A3 (λ_=>False) w w':=by
 have hA:∀o,Bt (w.alloc o) sb 0 jv Ad aA A6 ro lv:=λo=>h.Ak ((A3.I (λ_=>False) w).ai o) (λh=>h);have aE:=A1 hA;have H:=A1 h;have hlt:=h.lt
 go_enter_defers func38,ntmps38
 go_wp2_with (go_at_call 61;refine(J0 Tryz.bu ⟨sb,0,none⟩ _ (aE.o _).c0 ((aE.o _).fz 0)).mono ?_;rintro e w'⟨rfl,rfl⟩);have aB:∀o,Bt ((w.setCell ⟨sb,0,none⟩ (.int .i32 1)).alloc o) sb 1 jv Ad aA A6 ro lv/\A3 (One sb) w ((w.setCell ⟨sb,0,none⟩ (.int .i32 1)).alloc o):=λo=>
  ⟨(H.o.s0 1).Ak ((A3.I (λ_=>False) _).ai o) (λh=>h),((A3.I (One sb) w).aq rfl 0 _).ai o⟩
 obtain⟨E,O⟩:=aB (.cells #[.bool false,.int .i64 0] 74);have d:((w.setCell ⟨sb,0,none⟩ (.int .i32 1)).alloc (.cells #[.bool false,.int .i64 0] 74)).heap[w.heap.size]?=some (.cells #[.bool false,.int .i64 0] 74 (0,0)):=by
  have:=BO (w.setCell ⟨sb,0,none⟩ (.int .i32 1)) (.cells #[.bool false,.int .i64 0] 74);simpa using this
 generalize ((w.setCell ⟨sb,0,none⟩ (.int .i32 1)).alloc (.cells #[.bool false,.int .i64 0] 74))=w1 at E O d ⊢;have c4:=E.cK;have c5:=E.cR;have r0:w1.cell? ⟨w.heap.size,0,none⟩=some (.bool false):=by simp[World.cell?,d]
 have r1:w1.cell? ⟨w.heap.size,1,none⟩=some (.int .i64 0):=by simp[World.cell?,d]
 have f0:w1.frozen? ⟨w.heap.size,0,none⟩=false:=by simp[World.frozen?,d]
 have f1:w1.frozen? ⟨w.heap.size,1,none⟩=false:=by simp[World.frozen?,d]
 have W:sb≠w.heap.size:=by omega
 have aD:=A1 E;have Y:=A1 O;refine Ny (λw'=>w'.cell? ⟨sb,5,none⟩=some (.int .i64 A6)/\w'.cell? ⟨sb,6,none⟩=some (.bool ro)) 11
  [(0,true),(1,true),(2,true),(3,true),(4,true),(5,true),(6,true),(7,true),(8,false),(9,true),(10,false)] (by kernel_rfl) (by kernel_rfl) ⟨c4,c5⟩ ?_
 iterate 8 (refine Ec (v:=?_) rfl (by rfl) ?_ ?_;rotate_left;(· (intro w' I;(try dsimp only at I);go_simp;try with_reducible rfl));(try simp only[An]))
 refine DY rfl (by rfl) (λK hK=>?_);go_simp;refine hK _ _ ⟨by simp[World.cell?_setCell_other,c4],by simp[World.cell?_setCell_other,c5]⟩ (λI=>?_)
 (try simp only[An])
 iterate 1 (refine Ec (v:=?_) rfl (by rfl) ?_ ?_;rotate_left;(· (intro w' I;(try dsimp only at I);go_simp;try with_reducible rfl));(try simp only[An]))
 refine DY rfl (by rfl) (λK hK=>?_);go_simp;refine hK _ _ ⟨by simp[World.cell?_setCell_other,c4],by simp[World.cell?_setCell_other,c5]⟩ (λI=>?_)
 (try simp only[An])
 refine Bl ?_;simp only[DJ,Dq];go_wp2;rw[CJ];go_wp2;generalize hW:(((w1.setCell ⟨w.heap.size,0,none⟩ (.bool false)).setCell ⟨w.heap.size,1,none⟩ (.int .i64 0)).setCell ⟨w.heap.size,0,none⟩ (.bool ro)).setCell ⟨w.heap.size,1,none⟩ (.int .i64 A6)=w2;have z:Bt w2 sb 1 jv Ad aA A6 ro lv/\A3 (One sb) w w2/\w2.heap[w.heap.size]?=some (.cells #[.bool ro,.int .i64 A6] 74 (0,0)):=by
  subst hW;refine⟨?_,?_,?_⟩
  ·exact aD.o.Ak (S:=One w.heap.size) (((((A3.I (One w.heap.size) w1).aq rfl 0 _).aq rfl 1 _).aq rfl 0 _).aq rfl 1 _) W
  ·(have n:∀(p:Addr),p.block=w.heap.size->p.block<w.heap.size->One sb p.block:=λp e h=>by omega);exact((((Y.o.bq (n _ rfl) _).bq (n _ rfl) _).bq (n _ rfl) _).bq (n _ rfl) _)
  ·have:=Ct (o:=1) (v:=.int .i64 A6) (Ct (o:=0) (v:=.bool ro) (Ct (o:=1) (v:=.int .i64 0) (Ct (o:=0) (v:=.bool false) d)));simpa using this
 refine J2 (f:=62) (args:=#[.pointer (some ⟨sb,0,none⟩)]) (by simp) (by simp[go_sem]) ?_;refine(IC Tryz.bu ⟨sb,0,none⟩ .returning _ ?_ ?_).mono ?_
 ·exact z.1.c0
 ·exact z.1.fz 0
 rintro e u' w''⟨rfl,rfl,rfl⟩;have d0:w2.cell? ⟨w.heap.size,0,none⟩=some (.bool ro):=by simp[World.cell?,z.2.2]
 have d1:w2.cell? ⟨w.heap.size,1,none⟩=some (.int .i64 A6):=by simp[World.cell?,z.2.2]
 refine⟨_,?_,rfl,H.o.dH (w':=w2.drew) z.1 z.2.1.af⟩;simp[results,Tryz.results38,go_sem,d0,d1]
def YJ(w:World)(k a b:Int)(h:Bt w sb 0 jv Ad aA A6 ro lv)(z:¬(0<=k/\k<8)):
 Af 37 #[A5 sb,A0 k,A0 a,A0 b] w (Aj (.tuple #[.slice none 0 0,A0 2]) λw'=>A3 Ab w w'):=by
 have H:=A1 h;have E:Hid (∀w',Af 63 #[A0 k] w' λe d=>e=.returned (.bool false)/\w'=d):=λw'=>by
  have:=Ms w' k
  rwa [D2 z]at this
 have c0:=h.c0;have f0:=h.fz 0
 go_enter_defers func37,ntmps37
 go_wp2_with (first
  | (go_at_call 61;refine(J0 Tryz.bu (Ac sb 0) _ c0 f0).mono ?_;rintro e w'⟨rfl,rfl⟩)
  | (go_at_call 63;refine(E.o _).mono ?_;rintro e w'⟨rfl,rfl⟩))
 refine J2 (f:=62) (args:=#[A5 sb]) (by simp) (by simp[go_sem]) ?_;refine(IC Tryz.bu (Ac sb 0) .returning _ ?_ ?_).mono ?_
 ·exact(H.o.s0 1).c0
 ·exact(H.o.s0 1).fz 0
 rintro e u' d⟨rfl,rfl,rfl⟩;exact⟨_,results_tmp2 rfl _ _ _,rfl,H.o.dH (H.o.s0 1) ((A3.I (One sb) w).aq rfl 0 _)⟩
def YI(w:World)(k:Nat)(a b:Int)(h:Bt w sb 0 jv Ad aA A6 ro lv)(hr:Eb w lv L)(hk:k<8)(hl:1<=Ad/\Ad<=4611686018427387904)(hc:AE A6):
 Af 37 #[A5 sb,A0 k,A0 a,A0 b] w λe w'=>∃v,e=.returned (.tuple #[v,A0 0])/\
  Du w' v (piece (L k) (max a (Bc A6 Ad)) b)/\A3 Ab w w'/\∀g,v.ownBlock=some g->w.heap.size<=g:=by
 have aM:Hid (∀w',Af 63 #[A0 k] w' λe aB=>e=.returned (.bool true)/\w'=aB):=λw'=>by
  have:=Ms w' k
  rwa [CE (by omega)]at this
 have c0:=h.c0;have f0:=h.fz 0;obtain⟨aJ,aI,aK⟩:=h.bM hr;have aL:∀w',Bt w' sb 1 jv Ad aA A6 ro lv->_:=λw' h'=>Mj w' sb A6 Ad h'.c3 h'.cK hl hc;generalize ho:Bc A6 Ad=o at aL ⊢;have aP:∀w',Bt w' sb 1 jv Ad aA A6 ro lv->Eb w' lv L->_:=λw' h' aH=>A3g w' sb (7+k) (L k) (lv k) (max a o) b (aH.dO h' hk).bX;have hk1:=C2 k;have hk2:(k:Int)<8:=by omega
 have H:=A1 h;have aF:=A1 aL;have aG:=A1 aP;have E:=A1 aJ;have Y:=A1 aI;have O:=A1 aK
 go_enter_defers func37,ntmps37
 go_wp2_with (first
  | (go_at_call 61;refine(J0 Tryz.bu (Ac sb 0) _ c0 f0).mono ?_;rintro e w'⟨rfl,rfl⟩)
  | (go_at_call 63;refine(aM.o _).mono ?_;rintro e w'⟨rfl,rfl⟩))
 generalize (w.setCell (Ac sb 0) (.int .i32 1))=w1 at E Y O ⊢;refine Ny (λ_=>True) 11
  (Br [0,1,2,3,4,5,6,9,7,8,10] [7,10]) (by kernel_rfl) (by kernel_rfl) trivial ?_
 iterate 8 (refine Ec (v:=?_) rfl (by rfl) ?_ ?_;rotate_left;(· (intro w' hS;(try dsimp only at hS);go_simp;try with_reducible rfl));(try simp only[An]))
 refine DY rfl (by rfl) (λK hK=>?_);go_simp;refine(aF.o w1.drew E.o).mono ?_;rintro e w2⟨rfl,d⟩;refine hK _ _ trivial (λhS=>?_);have I:Hid (Bt w2 sb 1 jv Ad aA A6 ro lv/\Eb w2 lv L/\A3 (One sb) w w2):=
  have z:A3 Ab w1 w2:=⟨d.os,d.Fg,d.Fk,d.Ao,d.Ap⟩
  ⟨E.o.Ak z (λh=>h),Y.o.Ak z (λ_ _ h=>h),O.o.Aw z λ_ h _=>h.elim⟩
 (try simp only[An])
 (refine Ec (v:=?_) rfl (by rfl) ?_ ?_;rotate_left;(· (intro w' hS;(try dsimp only at hS);go_simp;try with_reducible rfl));(try simp only[An]))
 refine DY rfl (by rfl) (λK hK=>?_);go_simp;refine(aG.o w2 I.o.1 I.o.2.1).mono ?_;rintro e w3⟨v,rfl,hv,aD,hf⟩;refine hK _ _ trivial (λhS=>?_);have aE:Hid (Bt w3 sb 1 jv Ad aA A6 ro lv/\A3 (One sb) w w3):=⟨I.o.1.Ak aD (λh=>h),I.o.2.2.Aw aD λ_ h _=>h.elim⟩;have aQ:=A1 hv;have aN:Hid (∀g,v.oB g->w.heap.size<=g):=λg W=>AR I.o.2.2.Ao (hf g W);have aO:Hid (∀g,v.oB g->g≠sb):=λg W e=>by
  have:=hf g W;have:=I.o.1.lt;omega
 (try simp only[An])
 refine Bl ?_;simp only[DJ,Dq];go_wp2;rw[CJ];go_wp2;refine J2 (f:=62) (args:=#[A5 sb]) (by simp) (by simp[go_sem]) ?_;refine(IC Tryz.bu (Ac sb 0) .returning _ ?_ ?_).mono ?_
 ·exact aE.o.1.c0
 ·exact aE.o.1.fz 0
 rintro e u' aB⟨rfl,rfl,rfl⟩;exact⟨_,results_tmp2 rfl _ _ _,v,rfl,Az aQ.o λg W=>GK _ _ _ _ (λe=>aO.o g W (by simpa using e)),H.o.dH aE.o.1 aE.o.2,aN.o⟩
end
def Own(sb:Nat)(lv:Nat->Value)(x:Nat):Prop:=x=sb\/ED lv x
structure Ef (w w':World) (sb:Nat) (mu:Int) (jv:Value) (Ad aA A6:Int) (ro:Bool) (lv lv':Nat->Value) (L':Nat->List Pt):Prop where
 Ag:Bt w' sb mu jv Ad aA A6 ro lv'
 Ej:Eb w' lv' L'
 Ak:A3 (Own sb lv) w w'
 AB:∀g,ED lv' g->ED lv g\/w.heap.size<=g
section
variable {w w' w2:World} {sb:Nat} {mu aD:Int} {jv:Value} {Ad aA A6 aB:Int} {ro aE:Bool} {lv lv' aF:Nat->Value} {L L' L2:Nat->List Pt}
def Ef.Aw(h:Ef w w' sb mu jv Ad aA A6 ro lv lv' L')(z:Ef w' w2 sb aD jv Ad aA aB aE lv' aF L2):Ef w w2 sb aD jv Ad aA aB aE lv aF L2:=
 ⟨z.Ag,z.Ej,h.Ak.Aw z.Ak λx d hlt=>by
  rcases d with d|d
  ·exact .inl d
  ·rcases h.AB x d with E|E
   ·exact .inr E
   ·omega,λg H=>by
  rcases z.AB g H with d|d
  ·exact h.AB g d
  ·exact .inr (AR h.Ak.Ao d)⟩
def Ef.of(E:Bt w' sb mu jv Ad aA A6 ro lv)(z:Eb w lv L)(d:A3 (One sb) w w')(I:¬ED lv sb):Ef w w' sb mu jv Ad aA A6 ro lv lv L:=
 ⟨E,z.Ak d (λg H e=>I (by cases e;exact H)),d.aa λ_ _ h=>.inl h,λ_ h=>.inl h⟩
def Ef.ay(h:Ef w w' sb mu jv Ad aA A6 ro lv lv' L')(d:A3 Ab w' w2):Ef w w2 sb mu jv Ad aA A6 ro lv lv' L':=
 ⟨h.Ag.Ak d (λh=>h),h.Ej.Ak d (λ_ _ h=>h),h.Ak.Aw d λ_ h _=>h.elim,h.AB⟩
def Ef.Di(h:Ef w w' sb mu jv Ad aA A6 ro lv lv' L')(o:Nat)(u:Value)(d:Bt (w'.setCell (Ac sb o) u) sb aD jv Ad aA aB aE lv'):Ef w (w'.setCell (Ac sb o) u) sb aD jv Ad aA aB aE lv lv' L':=
 ⟨d,h.Ej.Ak ((A3.I (One sb) w').aq rfl o u) (λg z e=>h.Ej.ne h.Ag (by decide) (by cases e;exact z)),h.Ak.aq (.inl rfl) o u,h.AB⟩
def HT(L L':Nat->List Pt)(o:Int):Prop:=∀i,i<8->L' i=L i\/L' i=(L i).drop (BH (L i) o)
def WJ(c x:Int):min c (9223372036854775807-x)+x=FF c x:=by
 unfold FF;split<;>omega
def QH{c x:Int}(d:AE c)(hx:0<=x)(hx2:x<=9223372036854775807):AE (FF c x):=by
 obtain⟨h1,h2⟩:=d;unfold FF;split<;>constructor<;>omega
def WK(w:World)(x:Int)(h:Bt w sb 0 jv Ad aA A6 ro lv)(hr:Eb w lv L)(hx:0<=x/\x<=9223372036854775807)(hl:1<=Ad/\Ad<=4611686018427387904)(hc:AE A6):
 Af 27 #[A5 sb,A0 x] w (Aj (A0 0) λw'=>
  ∃lv' L',Ef w w' sb 0 jv Ad aA (FF A6 x) ro lv lv' L'/\HT L L' (Bc (FF A6 x) Ad)):=by
 obtain⟨aI,aG⟩:=hx;have H:=QH hc aI aG;have ew1:IntKind.i64.wrap (9223372036854775807-x)=9223372036854775807-x:=by simp[IntKind.wrap,IntKind.bits,IntKind.signed];omega
 have aL:IntKind.i64.wrap (min A6 (9223372036854775807-x)+x)=FF A6 x:=by
  rw[WJ];obtain⟨h1,h2⟩:=H;simp[IntKind.wrap,IntKind.bits,IntKind.signed];omega
 have c0:=h.c0;have f0:=h.fz 0;obtain⟨E,hr1,aN⟩:=h.bM hr;have hn:=hr.ne h (by decide);have d3:=E.cK;have d3f:=E.fz 5;have aJ:Ef w (w.setCell (Ac sb 0) (.int .i32 1)) sb 1 jv Ad aA A6 ro lv lv L:=Ef.of E hr aN hn;have aM:∀z,Hid (Ef w ((w.setCell (Ac sb 0) (.int .i32 1)).setCell (Ac sb 5) (A0 z)) sb 1 jv Ad aA z ro lv lv L):=λz=>aJ.Di 5 _ (E.sK z);generalize hcc:FF A6 x=z at aL H ⊢;have aP:=aM z;have aO:∀w' lv',Bt w' sb 1 jv Ad aA z ro lv'->_:=λw' lv' h'=>Mj w' sb z Ad h'.c3 h'.cK hl H;generalize ho:Bc z Ad=o at aO ⊢;have aH:=A1 aO
 go_enter_defers func27,ntmps27
 go_wp2_with (go_at_call 61;refine(J0 Tryz.bu (Ac sb 0) _ c0 f0).mono ?_;rintro e w'⟨rfl,rfl⟩);generalize ((w.setCell (Ac sb 0) (.int .i32 1)).setCell (Ac sb 5) (A0 z))=w1 at aP ⊢;go_loopw [27] (λiv wr=>∃k:Nat,k<=8/\iv=A0 k/\Hid (∃lv' L',Ef w wr sb 1 jv Ad aA z ro lv lv' L'/\HT L L' o/\∀i,k<=i->L' i=L i)) (λiv _=>8-(intOf iv).toNat)
 case atStart=>exact⟨0,by omega,rfl,lv,L,aP.o,λi _=>.inl rfl,λi _=>rfl⟩
 case round=>
  obtain⟨k,hk,rfl,hH⟩:=hrel;obtain⟨w0,aK⟩:∃w0,w0=wr:=⟨_,rfl⟩;subst aK;have k0:=C2 k;by_cases I:k<8
  ·(have k1:(k:Int)<8:=by omega)
   have aT:Hid (∀w2,(∃lv' L',Ef w w2 sb 1 jv Ad aA z ro lv lv' L'/\HT L L' o/\∀i,k<=i->L' i=L i)->Af 72 #[.pointer (some (Ac sb (7+k))),A0 o] w2 (Aj (.tuple #[]) λw'=>
    ∃lv' L',Ef w w' sb 1 jv Ad aA z ro lv lv' L'/\HT L L' o/\∀i,k+1<=i->L' i=L i)):=λw2 ⟨lv',L',d,O,a3⟩=>by
    refine(A1K w2 sb (7+k) _ _ (by decide) _ _ o (d.Ej.dO d.Ag I)).mono ?_;rintro e w3⟨rfl,L2,v2,W,hR⟩;have Y:L2.length<=(L' k).length:=by
     rcases W with rfl|rfl
     ·exact As _
     ·rw[Cw];omega
    obtain⟨b1,b2,b3,b4⟩:=d.Ej.ag d.Ag I hR rfl (A37 Y (d.Ej.CO k I));refine⟨rfl,HF lv' k v2,H3 L' k L2,d.Aw ⟨b1,b2,b3,b4⟩,λi hi=>?_,λi hi=>?_⟩
    ·unfold H3;by_cases e:i=k
     ·subst e;simp only[Ch];rw[a3 i (As _)]at W;exact W
     ·simp only[e,C7];exact O i hi
    ·unfold H3;rw[Ae (by omega)];exact a3 i (by omega)
   have aR:Hid (∀w2,(∃lv' L',Ef w w2 sb 1 jv Ad aA z ro lv lv' L'/\HT L L' o/\∀i,k<=i->L' i=L i)->Af 71 #[A5 sb] w2 (Aj (A0 o) λw'=>∃lv' L',Ef w w' sb 1 jv Ad aA z ro lv lv' L'/\HT L L' o/\∀i,k<=i->L' i=L i)):=λw2 ⟨lv',L',d,O,a3⟩=>by
    refine(aH.o w2 lv' d.Ag).mono ?_;rintro e w3⟨rfl,hc⟩;exact⟨rfl,lv',L',d.ay hc,O,a3⟩
   go_wp2;refine Ny (λ_=>True) 7
    (Br [0,1,2,3,4,5,6] [6]) (by kernel_rfl) (by kernel_rfl) trivial ?_
   iterate 6 (refine Ec (v:=?_) rfl (by rfl) ?_ ?_;rotate_left;(· (intro w' hS;(try dsimp only at hS);go_simp;try with_reducible rfl));(try simp only[An]))
   refine DY rfl (by rfl) (λK hK=>?_);go_simp;refine(aR.o w0.drew (by obtain⟨lv',L',d,O⟩:=hH.o;exact⟨lv',L',d.ay ((A3.I _ w0).af),O⟩)).mono ?_;rintro e w2⟨rfl,h2⟩;refine hK _ _ trivial (λhS=>?_);have aS:=A1 h2
   (try simp only[An])
   refine Bl ?_;simp only[DJ,Dq];go_wp2_with (go_at_call 72;refine(aT.o _ aS.o).mono ?_;rintro e w3⟨rfl,h3⟩;have aQ:=A1 h3);rw[CJ];go_wp2;go_roundw
   case rel=>exact⟨k+1,by omega,by go_num,aQ.o⟩
   case measure=>simp[intOf];omega
  ·(obtain rfl:k=8:=by omega);go_wp2;refine J2 (f:=62) (args:=#[A5 sb]) (by simp) (by simp[go_sem]) ?_;obtain⟨lv',L',d,O,-⟩:=hH.o;refine(IC Tryz.bu (Ac sb 0) .returning _ ?_ ?_).mono ?_
   ·exact d.Ag.c0
   ·exact d.Ag.fz 0
   rintro e u' w''⟨rfl,rfl,rfl⟩;exact⟨_,M8 rfl _ _ _,rfl,lv',L',d.Di 0 _ (d.Ag.s0 0),O⟩
end
end
section
open Go.RowKit
attribute [local go_sem ↓] CJ
section
variable {w:World} {ab b xb jb B:Nat} {sv ov lv jo:Value} {A:Ar} {P:PD} {Ft:Nat->Prop} {a c m:Nat}
def Xy(P:PD)(n:Int)(r:List Int):P.segs (n::r)=match P.Cy n with
 | none=>none
 | some l=>(P.segs r).map λx=>(n,l):: x:=rfl
def Rg(w:World)(E:List Int)(a0:A7 w ab 0 (A5 b))(a1:A7 w ab 1 (A5 xb))(x4:A7 w xb 4 sv)(a6:D7 w sv E)(aX:Bk w b P Ft)(aD:∀k,Ft k->k<w.heap.size)(hF:Fit P a c m)(hl:CU a c m)(hn:∀n∈E,CM n)(hsl:E.length<=1073741824)(hL:Lets B w):
 Af 98 #[A5 ab] w λe w'=>
  (P.segs E=none/\e=.returned (.tuple #[.slice none 0 0,A0 7])/\A3 Ab w w')\/
  ∃l v,P.segs E=some l/\e=.returned (.tuple #[v,A0 0])/\Gr w' w.heap.size b v l/\A3 Ab w w':=by
 obtain⟨i0,hi,a4,bA,a7⟩:=XD;have aP:=A1 a6;obtain⟨sa,scap,rfl,sc1,a5⟩:=aP.o.Cg;unfold maxLen at a5
 have bO:Hid (∀w1,A3 Ab w w1->∀n∈E,Af 135 #[A5 b,A0 n] w1 λe w'=>
  (P.Cy n=none/\e=.returned (.tuple #[.pointer none,A0 7])/\A3 Ab w1 w')\/
  ∃l d v,P.Cy n=some l/\e=.returned (.tuple #[A5 d,A0 0])/\C5 w' d 182 b (AJ n) (AH (AJ n)) n v/\AZ w' v l/\(∀g,v.ownBlock=some g->w1.heap.size<=g)/\w1.heap.size<=d/\A3 Ab w1 w'):=
  λw1 hc n hm=>YC w1 (B3.ay aX aD hc) (λk hk=>Bq (aD k hk) hc.Ao) hF hl (hn n hm) (hL.aM hc)
 have bJ:=A1 (Xy P);obtain⟨X,hX⟩:∃X,P.segs E=X:=⟨_,rfl⟩;have bP:=A1 hX;rw[hX]
 go_enter func98,ntmps98
 go_wp2;go_loopw [4,17] (λv iv wr=>∃(l:List (Int×List Pu)),iv=A0 l.length/\l.length<=E.length/\Hid (Gr wr w.heap.size b v l/\A3 Ab w wr/\X=(P.segs (E.drop l.length)).map λr=>l++r)) (λ_ iv _=>E.length-(intOf iv).toNat)
 case atStart=>exact⟨[],rfl,Cq _,⟨[],rfl,CL _ _ _ _,λg H=>by simp[Value.ownBlock]at H,λk I=>by simp at I⟩,A3.I _ _,by rw[Iw,Dq,bP.o];cases X<;>simp⟩
 case round=>
  obtain⟨l,rfl,hk,hI⟩:=hrel;obtain⟨i1,i2,i3⟩:=hI.o;obtain⟨z,j1,j2,j3,j4⟩:=i1;obtain⟨ap,cp,rfl,hcap1,aK,-⟩:=B9 j2;unfold maxLen at aK;by_cases aB:l.length<E.length
  ·obtain⟨g,o,rfl,d1⟩:=D7.at aP.o l.length aB;have O:=BY aB;have aJ:=Fy aB;generalize aV:(E[l.length]'aB)=n at d1 O aJ;have e1:=i2.ao d1;have e0:=i2.ao a0;have aI:=A1 (bO.o wr i2 n O);rw[aJ,bJ.o]at i3;generalize hY:P.Cy n=Y at aI i3;have aL:=A1 i2;have bE:=A1 i3;have bC:=A1 j1;have aU:=A1 j2;have bD:=A1 j3;have bL:=A1 j4;(have a2:(l.length:Int)<(E.length:Int):=by omega);have hk0:(0:Int)<=(l.length:Int):=Gv _;clear hI i2 i3 j1 j2 j3 j4 d1 O aJ aV hY;cases Y with
   | none=>
    (have aG:X=none:=by rw[bE.o];rfl);subst aG;have aF:Hid (Af 135 #[A5 b,A0 n] wr λe w'=>e=.returned (.tuple #[.pointer none,A0 7])/\A3 Ab wr w'):=by
     refine aI.o.mono ?_;rintro e w' (⟨_,W,h3⟩|⟨l,d,v,I,_⟩)
     ·exact⟨W,h3⟩
     ·cases I
    go_wp2_with (go_at_call 135;refine aF.o.mono ?_;rintro e L⟨rfl,aA⟩;have aZ:=A1 aA);go_ret2;exact⟨rfl,aL.o.Aw aZ.o λ_ h _=>h⟩
   | some pl=>
    have aF:Hid (Af 135 #[A5 b,A0 n] wr λe w'=>∃d v,e=.returned (.tuple #[A5 d,A0 0])/\C5 w' d 182 b (AJ n) (AH (AJ n)) n v/\AZ w' v pl/\(∀g,v.ownBlock=some g->wr.heap.size<=g)/\wr.heap.size<=d/\A3 Ab wr w'):=by
     refine aI.o.mono ?_;rintro e w' (⟨I,_⟩|⟨l,d,v,I,W⟩)
     ·cases I
     ·cases I;exact⟨d,v,W⟩
    have bK:Hid (X=(P.segs (E.drop (l.length+1))).map λr=>(l++[(n,pl)])++r):=by
     unfold Hid;rw[bE.o];simp only[Option.map_map]
     congr 1
     funext r
     simp
    go_wp2_with (fail);refine aF.o.mono ?_;rintro e L⟨d,v,rfl,q1,q2,q3,q4,aA⟩;have bM:=A1 q1;have bN:=A1 q2;have bF:=A1 q3;have bG:=A1 q4;have a3:=A1 aA;have aR:Hid ((L.alloc (.cells #[A5 d] 179)).ownsRow 0 179 1 (.slice ap l.length cp) l.length (Gy z)):=Az aU.o λg H=>(aA.ai _).Ap g (AI aU.o H) (λh=>h)
    have aW:=A1 (Src.bb (size:=1) (B:=L.heap.size) underlying154 L #[A5 d] 179 (by simp) 1 1 rfl (Xv [d]));go_wp2_with (at_builtin;refine D5 rfl (.tmp 33) (.tmp 35) 154 154 rfl 179 i0 _ 1 8 underlying154 hi a4 bA a7 rfl (by decide) (.slice ap l.length cp) l.length (Gy z) (by rfl) aR.o _ 1 _ (by rfl) aW.o (by omega) ?_;intro a8 cap8 w8 hA;have bH:=A1 hA);go_roundw
    case rel=>
     have hA:=bH.o;have k7:A3 Ab L (L.alloc (.cells #[A5 d] 179)):=(A3.I _ L).ai _;have aM:=hA.Ak (S:=λk=>(Value.slice ap l.length cp).ownBlock=some k) λ_ h=>h;have aO:A3 Ab w L:=aL.o.Aw a3.o λ_ h _=>h;(have a9:A3 Ab w w8:=(aO.Aw k7 λ_ h _=>h).Aw aM λy hy aD=>by have:=bD.o y hy;omega);have aN:A3 (λk=>(Value.slice ap l.length cp).ownBlock=some k) L w8:=(k7.aa λ_ _ h=>h.elim).Aw aM λ_ h _=>h;have aS:∀(k:Nat) (c:Array Value) (e:Nat),L.heap[k]?=some (Obj.cells c e (0,0))->e≠179->¬(Value.slice ap l.length cp).ownBlock=some k:=λk c e hk he hx=>by
      obtain⟨c',aE⟩:=Be (Az aU.o λg H=>a3.o.Ap g (AI aU.o H) (λh=>h)) hx;exact BT aE hk (λh=>he h.symm) rfl
     have aQ:∀aH x,Jc L w.heap.size b aH x->Jc w8 w.heap.size b aH x:=λaH x hx=>by
      obtain⟨pv,I,W,h3,h4⟩:=hx;refine⟨pv,I.aj aN (aS _ _ _ I (by decide)),Az W λg H=>?_,h3,h4⟩;obtain⟨c',aE⟩:=Be W H;exact aN.Ap g (AI W H) (aS _ _ _ aE (by decide))
     refine⟨l++[(n,pl)],by simp,by simp;omega,⟨z++[d],by simp[bC.o],?_,?_,?_⟩,a9,by rw[show (l++[(n,pl)]).length=l.length+1 by simp];exact bK.o⟩
     ·(have e:(l++[(n,pl)]).length=l.length+1:=by simp);(have e2:Gy (z++[d])=Gy z++Gy [d]:=by simp[Gy]);rw[e,e2];exact hA.AB
     ·intro g H;rcases hA.Ck with h|h
      ·rw[h]at H;exact bD.o g H
      ·rw[h]at H;cases H;have:=aO.Ao;have:=k7.Ao;omega
     ·intro j I W;have aY:=bC.o;by_cases hj:j<l.length
      ·rw[Fb (show j<z.length by omega),Fb hj];exact aQ _ _ ((bL.o j (by omega) hj).au a3.o)
      ·(have bB:j=l.length:=by simp at W;omega);subst bB;(have e1:(z++[d])[l.length]'I=d:=by simp[<-aY]);(have e2:(l++[(n,pl)])[l.length]'W=(n,pl):=by simp);rw[e1,e2];exact aQ _ _ ⟨v,bM.o,bN.o,AR aL.o.Ao bG.o,λg H=>AR aL.o.Ao (bF.o g H)⟩
    case measure=>simp[intOf];omega
  ·(have aT:l.length=E.length:=by omega);have bI:Hid (Gr wr w.heap.size b (.slice ap l.length cp) l):=⟨z,j1,j2,j3,j4⟩;have aL:=A1 i2;(have aG:X=some l:=by rw[i3,aT,Gu];simp[PD.segs]);subst aG;(have a2:¬((l.length:Int)<(E.length:Int)):=by omega);clear i2 i3 hI j1 j2 j3 j4 aT;go_wp2;go_ret2;exact⟨_,rfl,bI.o,aL.o⟩
def Xz(w:World)(h:Cn w ab b xb jb sv ov lv jo A P Ft)(I:Fit P a c m)(z:CU a c m)(H:∀n∈A.ix.segs,CM n)(d:A.ix.segs.length<=1073741824)(E:Lets B w):
 Af 98 #[A5 ab] w λe w'=>
  (P.segs A.ix.segs=none/\e=.returned (.tuple #[.slice none 0 0,A0 7])/\A3 Ab w w')\/
  ∃l v,P.segs A.ix.segs=some l/\e=.returned (.tuple #[v,A0 0])/\Gr w' w.heap.size b v l/\A3 Ab w w':=
 Rg w A.ix.segs h.Ag.c0 h.Ag.c1 h.ix.c4 h.segs h.dk h.lt I z H d E
def Sf(w:World)(aX:Nat)(v:Value)(l:List (Int×List Pu))(h:Gr w aX b v l)(hl:l.length<=1073741824)(hq:∀x∈l,x.2.length<=m)(hm:l.length*m<=4398046511104):
 Af 101 #[v] w λe w'=>∃v',e=.returned v'/\AZ w' v' (l.flatMap (·.2))/\(∀g,v'.ownBlock=some g->w.heap.size<=g)/\A3 Ab w w':=by
 obtain⟨i0,hi,aM,aS,aQ⟩:=E9 Ij;obtain⟨H,j1,j2,j3,j4⟩:=h;obtain⟨va,vcap,rfl,vc1,aL,-⟩:=B9 j2;unfold maxLen at aL;have aY:=A1 j4;have aT:=A1 j2;have aV:=A1 hq;have aZ:Hid (∀k,k<=l.length->k*m<=4398046511104):=λk hk=>AR (Hv m hk) hm;clear j2 j3 j4 hq hm
 go_enter func101,ntmps101
 go_wp2;go_loopw [3,8] (λv iv wr=>∃(k:Nat) (d:List Pu),iv=A0 k/\k<=l.length/\d.length<=k*m/\Hid (AZ wr v d/\(∀g,v.ownBlock=some g->w.heap.size<=g)/\A3 Ab w wr/\d=(l.take k).flatMap (·.2))) (λ_ iv _=>l.length-(intOf iv).toNat)
 case atStart=>exact⟨0,[],rfl,by omega,by simp,CL _ _ _ _,λg I=>by simp[Value.ownBlock]at I,A3.I _ _,rfl⟩
 case round=>
  obtain⟨k,d,rfl,hk,aO,hI⟩:=hrel;obtain⟨i1,i2,O,i4⟩:=hI.o;obtain⟨ap,cp,rfl,hcap1,aB,-⟩:=B9 i1;unfold maxLen at aB;by_cases z:k<l.length
  ·(have E:k<H.length:=by omega);have L:w.cell? ((Ac ((va.map (·.block)).getD 0) k):Addr)=some (A5 (H[k]'E))/\∃g,va=some (Ac g 0):=by
    obtain⟨a',c',e,-,-,hz,-⟩:=B9 aT.o;cases e;obtain⟨g,rfl⟩:=hz (by omega);exact⟨BF aT.o rfl (by simp[Gy,E]),g,rfl⟩
   obtain⟨aG,g,rfl⟩:=L;have W:A7 w g k (A5 (H[k]'E)):=aG;obtain⟨pv,s1,s2,-,-⟩:=aY.o k E z;have Y:=aV.o _ (BY z);have aA:l.take (k+1)=l.take k++[l[k]'z]:=DB z;obtain⟨gb,aF⟩:∃gb,(H[k]'E)=gb:=⟨_,rfl⟩;rw[aF]at W s1;obtain⟨⟨n,pl⟩,hx⟩:∃x,(l[k]'z)=x:=⟨_,rfl⟩;rw[hx]at s1 s2 aA Y;dsimp only at s1 s2 Y;obtain⟨pa,pc,rfl,pc1,aR,-⟩:=B9 s2;unfold maxLen at aR;have d1:=O.ao W;have d2:=(s1.aj O (λh=>h)).c4;have aN:=A1 i1;have aI:=A1 i2;have aH:=A1 O;(have aP:Hid (d++pl=(l.take (k+1)).flatMap (·.2)):=by unfold Hid;rw[aA,i4];simp);have aE:=A1 (Src.bO underlying97 (Az s2 λg I=>O.Ap g (AI s2 I) (λh=>h)) (I6 pl));have aU:=A1 (aZ.o (k+1) z);(have aK:(k:Int)<(l.length:Int):=by omega);have hk0:=C2 k;clear hI i1 i2 O i4 aG W s1 s2 aA hx aF;have aD:Hid ((d.length+pl.length)*24<=140737488355328/\d.length+pl.length<=(k+1)*m):=by
    have:=aU.o;rw[N8]at this;unfold Hid;rw[N8];omega
   clear aO Y aU;go_wp2_with (at_builtin;refine D5 rfl (.tmp 12) (.tmp 16) 97 97 rfl 113 i0 _ 3 24 underlying97 hi aM aS aQ rfl (by decide) (.slice ap d.length cp) d.length (Ba d) (by rfl) aN.o _ pl.length _ (by rfl) aE.o aD.o.1 ?_;intro a8 cap8 w8 hA;have aW:=A1 hA;clear hA);go_roundw
   case rel=>
    have hA:=aW.o;have aJ:=hA.Ak (S:=λk=>(Value.slice ap d.length cp).ownBlock=some k) λ_ h=>h;refine⟨k+1,d++pl,by go_num,by omega,by simp only[B1];exact aD.o.2,?_,?_,?_,aP.o⟩
    ·(have e:(d++pl).length=d.length+pl.length:=by simp);unfold AZ;rw[IL,e];exact hA.AB
    ·intro g I;rcases hA.Ck with h|h
     ·rw[h]at I;exact aI.o g I
     ·rw[h]at I;cases I;exact aH.o.Ao
    ·exact aH.o.Aw aJ λy hy hlt=>by have:=aI.o y hy;omega
   case measure=>simp[intOf];omega
  ·(obtain rfl:k=l.length:=by omega);rw[Cl]at i4;have aN:=A1 i1;have aI:=A1 i2;have aH:=A1 O;(have aK:¬((l.length:Int)<(l.length:Int)):=by omega);have aP:=A1 i4;clear i1 i2 O i4 hI;go_wp2;go_ret;exact⟨_,rfl,by rw[<-aP.o];exact aN.o,aI.o,aH.o⟩
end
def A1A(w:World)(g W L:Nat)(aA aB:Int->World->Prop)(hb:w.heap[g]?=some (.cells #[.func (Fn.func 118) #[A5 W] #[],.func (Fn.func 150) #[A5 L] #[]] 50 (0,0)))(h1:Af 118 #[A5 W] w λe w'=>∃n,e=.returned (A0 n)/\aA n w'/\w'.heap[g]?=w.heap[g]?)(h2:∀d,aA 0 d->d.heap[g]?=w.heap[g]?->Af 150 #[A5 L] d λe w'=>∃n,e=.returned (A0 n)/\aB n w'):
 Af 117 #[AM g 2 2] w λe w'=>∃n,e=.returned (A0 n)/\((n≠0/\aA n w')\/aB n w'):=by
 have c0:A7 w g 0 (.func (Fn.func 118) #[A5 W] #[]):=by simp[A7,World.cell?,hb]
 have aE:Hid (∀d:World,d.heap[g]?=w.heap[g]?->A7 d g 1 (.func (Fn.func 150) #[A5 L] #[])):=λd h=>by simp[A7,World.cell?,h,hb]
 have aD:=A1 h1;have aF:=A1 h2
 go_enter func117,ntmps117
 go_wp2;refine HW 3 ?_;rw[EX];go_wp2_with (fail);refine aD.m ?_;rintro e d⟨n1,rfl,q1,k1⟩;have H:=A1 q1;have c1:=aE.o d k1;have O:=A1 k1;by_cases z:n1=0
 case neg=>
  have hb1:(n1 !=0)=true:=by simpa using z
  go_wp2;go_ret;exact⟨n1,rfl,.inl ⟨z,H.o⟩⟩
 case pos=>
 subst z;have Y:=A1 (aF.o d H.o O.o);go_wp2;rw[EX];go_wp2_with (fail);refine Y.m ?_;rintro e w2⟨n2,rfl,q2⟩;have E:=A1 q2;by_cases I:n2=0
 case neg=>
  have hb2:(n2 !=0)=true:=by simpa using I
  go_wp2;go_ret;exact⟨n2,rfl,.inr (E.o)⟩
 case pos=>
 subst I;go_wp2;rw[EX];go_wp2;go_ret;exact⟨0,rfl,.inr (E.o)⟩
def A1z(w:World)(g W L:Nat)(aA aB:Int->World->Prop)(hb:w.heap[g]?=some (.cells #[.func (Fn.func 150) #[A5 W] #[],.func (Fn.func 86) #[A5 L] #[]] 50 (0,0)))(h1:Af 150 #[A5 W] w λe w'=>∃n,e=.returned (A0 n)/\aA n w'/\w'.heap[g]?=w.heap[g]?)(h2:∀d,aA 0 d->d.heap[g]?=w.heap[g]?->Af 86 #[A5 L] d λe w'=>∃n,e=.returned (A0 n)/\aB n w'):
 Af 117 #[AM g 2 2] w λe w'=>∃n,e=.returned (A0 n)/\((n≠0/\aA n w')\/aB n w'):=by
 have c0:A7 w g 0 (.func (Fn.func 150) #[A5 W] #[]):=by simp[A7,World.cell?,hb]
 have aE:Hid (∀d:World,d.heap[g]?=w.heap[g]?->A7 d g 1 (.func (Fn.func 86) #[A5 L] #[])):=λd h=>by simp[A7,World.cell?,h,hb]
 have aD:=A1 h1;have aF:=A1 h2
 go_enter func117,ntmps117
 go_wp2;refine HW 3 ?_;rw[EX];go_wp2_with (fail);refine aD.m ?_;rintro e d⟨n1,rfl,q1,k1⟩;have H:=A1 q1;have c1:=aE.o d k1;have O:=A1 k1;by_cases z:n1=0
 case neg=>
  have hb1:(n1 !=0)=true:=by simpa using z
  go_wp2;go_ret;exact⟨n1,rfl,.inl ⟨z,H.o⟩⟩
 case pos=>
 subst z;have Y:=A1 (aF.o d H.o O.o);go_wp2;rw[EX];go_wp2_with (fail);refine Y.m ?_;rintro e w2⟨n2,rfl,q2⟩;have E:=A1 q2;by_cases I:n2=0
 case neg=>
  have hb2:(n2 !=0)=true:=by simpa using I
  go_wp2;go_ret;exact⟨n2,rfl,.inr (E.o)⟩
 case pos=>
 subst I;go_wp2;rw[EX];go_wp2;go_ret;exact⟨0,rfl,.inr (E.o)⟩
def A1B(w:World)(g p1 p2 W:Nat)(aE aF aG:Int->World->Prop)(hb:w.heap[g]?=some (.cells #[.func (Fn.func 118) #[A5 p1] #[],.func (Fn.func 119) #[A5 p2] #[],.func (Fn.func 86) #[A5 W] #[]] 50 (0,0)))(h1:Af 118 #[A5 p1] w λe w'=>∃n,e=.returned (A0 n)/\aE n w'/\w'.heap[g]?=w.heap[g]?)(h2:∀d,aE 0 d->d.heap[g]?=w.heap[g]?->Af 119 #[A5 p2] d λe w'=>∃n,e=.returned (A0 n)/\aF n w'/\w'.heap[g]?=w.heap[g]?)(h3:∀d,aF 0 d->d.heap[g]?=w.heap[g]?->Af 86 #[A5 W] d λe w'=>∃n,e=.returned (A0 n)/\aG n w'):
 Af 117 #[AM g 3 3] w λe w'=>∃n,e=.returned (A0 n)/\((n≠0/\aE n w')\/(n≠0/\aF n w')\/aG n w'):=by
 have c0:A7 w g 0 (.func (Fn.func 118) #[A5 p1] #[]):=by simp[A7,World.cell?,hb]
 have aK:Hid (∀d:World,d.heap[g]?=w.heap[g]?->A7 d g 1 (.func (Fn.func 119) #[A5 p2] #[])):=λd h=>by simp[A7,World.cell?,h,hb]
 have aH:Hid (∀d:World,d.heap[g]?=w.heap[g]?->A7 d g 2 (.func (Fn.func 86) #[A5 W] #[])):=λd h=>by simp[A7,World.cell?,h,hb]
 have aJ:=A1 h1;have aL:=A1 h2;have aI:=A1 h3
 go_enter func117,ntmps117
 go_wp2;refine HW 4 ?_;rw[EX];go_wp2_with (fail);refine aJ.m ?_;rintro e d⟨n1,rfl,q1,k1⟩;have L:=A1 q1;have c1:=aK.o d k1;have aA:=A1 k1;by_cases z:n1=0
 case neg=>
  have hb1:(n1 !=0)=true:=by simpa using z
  go_wp2;go_ret;exact⟨n1,rfl,.inl ⟨z,L.o⟩⟩
 case pos=>
 subst z;have aD:=A1 (aL.o d L.o aA.o);go_wp2;rw[EX];go_wp2_with (fail);refine aD.m ?_;rintro e w2⟨n2,rfl,q2,k2⟩;have H:=A1 q2;have c2:=aH.o w2 k2;have aB:=A1 k2;by_cases E:n2=0
 case neg=>
  have hb2:(n2 !=0)=true:=by simpa using E
  go_wp2;go_ret;exact⟨n2,rfl,.inr (.inl ⟨E,H.o⟩)⟩
 case pos=>
 subst E;have Y:=A1 (aI.o w2 H.o aB.o);go_wp2;rw[EX];go_wp2_with (fail);refine Y.m ?_;rintro e w3⟨n3,rfl,q3⟩;have I:=A1 q3;by_cases O:n3=0
 case neg=>
  have hb3:(n3 !=0)=true:=by simpa using O
  go_wp2;go_ret;exact⟨n3,rfl,.inr (.inr (I.o))⟩
 case pos=>
 subst O;go_wp2;rw[EX];go_wp2;go_ret;exact⟨0,rfl,.inr (.inr (I.o))⟩
def Aq.a7{w O Y:World}{Ft d:Nat->Prop}{R:World->(Nat->Prop)->Prop}(hc:A3 Ft w O)(W:∀k,d k->Ft k\/w.heap.size<=k)(h2:Aq O d Y R):Aq w Ft Y R:=by
 obtain⟨I,H,E,z,L⟩:=h2;refine⟨hc.Aw I λx hx hlt=>(W x hx).resolve_right (by omega),H,E,z,λk hk=>?_⟩;rcases L k hk with h|h
 ·exact W k h
 ·exact .inr (AR hc.Ao h)
section
variable {w:World} {ab b xb jb B:Nat} {sv ov lv jo:Value} {A:Ar} {P:PD} {Ft FT:Nat->Prop} {a c m:Nat}
def A12(h:Bk w b P Ft)(nm:Bs):
 Af 85 #[A5 b,.string ⟨nm.toArray⟩] w (Aj (A0 (P.ae (A9 nm)).1) λw'=>Aq w Ft w' (λw' d=>Bk w' b (P.ae (A9 nm)).2 d)):=QL h (A9 nm)
def QR(nm:Bs)(r:List Bs)(P:PD):PD.az (nm::r) P=if (P.ae (A9 nm)).1≠0 then P.ae (A9 nm) else PD.az r (P.ae (A9 nm)).2:=rfl
def Rc(w:World)(h:AD w ab b A P FT):
 Af 118 #[A5 ab] w (Aj (A0 (A.C P).1) λw'=>Aq w FT w' (λw' aT=>AD w' ab b (A.C P).2.1 (A.C P).2.2 aT)/\w'.cell? (Ac ab 2)=w.cell? (Ac ab 2)):=by
 obtain⟨xb,jb,sv,ov,lv,jo,Ft,hV,aI⟩:=h;have a4:=hV.Ag.c4;obtain⟨oa,L,rfl,oc1,aX⟩:=hV.AQ.Cg;unfold maxLen at aX;have aK:=A1 hV;have E:=A1 aI;have aO:Hid (A.C P=if (PD.az A.AQ P).1≠0 then ((PD.az A.AQ P).1,A,(PD.az A.AQ P).2) else (0,{A with AQ:=[]},(PD.az A.AQ P).2)):=rfl;have aY:=A1 QR;generalize hR:A.C P=R at aO ⊢;obtain⟨X,hX⟩:∃X,PD.az A.AQ P=X:=⟨_,rfl⟩;have aZ:=A1 hX;rw[hX]at aO
 go_enter func118,ntmps118
 go_wp2;go_loopw [11] (λiv wr=>∃(k:Nat),iv=A0 k/\k<=A.AQ.length/\Hid (∃aA,Aq w Ft wr (λw' H=>Cn w' ab b xb jb sv (.slice oa A.AQ.length L) lv jo A aA H)/\X=PD.az (A.AQ.drop k) aA)) (λiv _=>A.AQ.length-(intOf iv).toNat)
 case atStart=>exact⟨0,rfl,by omega,P,⟨A3.I _ _,Ft,aK.o,aK.o.lt,λk z=>.inl z⟩,aZ.o.symm⟩
 case round=>
  obtain⟨k,rfl,z,hI⟩:=hrel;obtain⟨aA,hi,hx⟩:=hI.o;obtain⟨c1,aH,d,lt1,s1⟩:=hi;by_cases aE:k<A.AQ.length
  ·obtain⟨g,o,rfl,d1⟩:=GG.at d.AQ k aE;have aJ:=Fy aE;generalize hne:(A.AQ[k]'aE)=nm at d1 aJ;rw[aJ,aY.o]at hx;have e0:=d.Ag.c0;have aN:=A1 (A12 d.dk nm);generalize hY:aA.ae (A9 nm)=Y at aN hx;have aD:Hid (∀w6,Aq wr aH w6 (λw' H=>Bk w' b Y.2 H)->Aq w Ft w6 (λw' H=>Cn w' ab b xb jb sv (.slice (some (Ac g o)) A.AQ.length L) lv jo A Y.2 H)):=λw6 h6=>Aq.a7 c1 s1 (d.b2 h6);have aF:=A1 hx;(have aS:(k:Int)<(A.AQ.length:Int):=by omega);have hk0:=C2 k;obtain⟨aL,aM⟩:=Y;dsimp only at aN aD aF;by_cases hy:aL=0
   case neg=>
    (have W:X=(aL,aM):=by rw[aF.o,Ai hy]);subst W;(have aG:R=(aL,A,aM):=by rw[aO.o,Ai hy]);subst aG;(have hyb:(aL !=0)=true:=by simpa using hy);go_wp2_with (go_at_call 85;refine aN.m ?_;rintro e w6⟨rfl,aB⟩;have I:=A1 (aD.o w6 aB));go_ret;obtain⟨_,_,aR,_⟩:=I.o;exact⟨rfl,aK.o.cE E.o I.o,aR.Ag.c2.trans aK.o.Ag.c2.symm⟩
   case pos=>
    subst hy;(have aW:Hid (X=PD.az (A.AQ.drop (k+1)) aM):=by unfold Hid;rw[aF.o,Ae (by simp)]);go_wp2_with (go_at_call 85;refine aN.m ?_;rintro e w6⟨rfl,aB⟩;have I:=A1 (aD.o w6 aB));go_roundw
    case rel=>exact⟨k+1,by go_num,by omega,aM,I.o,aW.o⟩
    case measure=>simp[intOf];omega
  ·(obtain rfl:k=A.AQ.length:=by omega);rw[Gu]at hx;have W:X=(0,aA):=hx;subst W;(have aG:R=(0,{A with AQ:=[]},aA):=by rw[aO.o,Ae (by simp)]);subst aG;(have aS:¬((A.AQ.length:Int)<(A.AQ.length:Int)):=by omega);have g4:=d.Ag.c4;have f4:=d.Ag.fz 4;have aQ:=A1 d;have aU:=A1 c1;have aP:=A1 s1;go_wp2;go_ret;have d:=aQ.o;have kz:A3 (One ab) wr (wr.sC ab 4 (.slice none 0 0)):=(A3.I (One ab) wr).aq (b:=ab) rfl 4 _;have hs:∀k,k≠ab->k<wr.heap.size->(wr.sC ab 4 (.slice none 0 0)).heap[k]?=wr.heap[k]?:=λk z hl=>kz.Ap k hl z;have aV:∀k,Dj jb lv jo k->k≠ab:=λk z=>(d.FJ k z).1
   have O:Cn (wr.sC ab 4 (.slice none 0 0)) ab b xb jb sv (.slice none 0 0) lv jo {A with AQ:=[]} aA aH:=
    ⟨d.Ag.s4 _,(hs xb d.ne.symm d.ix.lt).trans d.ix,d.segs.aP λg hg=>hs g (d.Fi g hg).1 (d.segs.lt hg),Dt.bT,d.jn.aP λk z=>hs k (aV k z) (d.jn.lt z),
     B3.aP d.dk λk z=>hs k (λe=>by subst e;exact d.Df _ (.inl rfl) z) (d.lt k z),λk z=>Bq (d.lt k z) kz.Ao,
     λk z=>d.Df k (by
      rcases z with h|h|h|h|h
      ·exact .inl h
      ·exact .inr (.inl h)
      ·exact .inr (.inr (.inl h))
      ·simp[Value.ownBlock]at h
      ·exact .inr (.inr (.inr (.inr h)))),d.Fi,λg hg=>by simp[Value.ownBlock]at hg,d.FJ⟩
   refine⟨rfl,?_,O.Ag.c2.trans aK.o.Ag.c2.symm⟩;refine(O.bN ((aU.o.aa (S':=λk=>Ft k\/k=ab) λ_ _ h=>.inl h).Aw kz λ_ h _=>.inr h) ?_ (λk z=>(aP.o k z).imp (λh=>E.o k (.inl h)) id) ?_)
   ·rintro k _ (h|rfl)
    ·exact E.o k (.inl h)
    ·exact E.o _ (.inr (.inl rfl))
   ·intro k z;refine .inl (E.o k (.inr ?_));rcases z with h|h|h|h|h
    ·exact .inl h
    ·exact .inr (.inl h)
    ·exact .inr (.inr (.inl h))
    ·simp[Value.ownBlock]at h
    ·exact .inr (.inr (.inr (.inr h)))
def Re(w:World)(h:AD w ab b A P FT):
 Af 118 #[A5 ab] w (Aj (A0 (A.C P).1) λw'=>Aq w FT w' (λw' d=>AD w' ab b (A.C P).2.1 (A.C P).2.2 d)):=
 (Rc w h).mono λ_ _ ⟨E,z,_⟩=>⟨E,z⟩
end
end
section
open Go.RowKit
def A3.dh{w w':World}(h:Below w.heap.size w w'):A3 Ab w w':=⟨h.os,h.tape,h.output,h.size,λk d _=>h.block k d⟩
def Ot{w:World}{d e size n:Nat}{v:Value}{xs:List Value}(h:w.ownsRow d e size v n xs):w.ownsRow 0 e size v n xs/\∀g,v.ownBlock=some g->d<=g:=by
 refine⟨⟨h.1,?_⟩,λg H=>(h.lt g H).1⟩;rcases h.2 with E|⟨g,cap,z,E,_,I⟩
 ·exact .inl E
 ·exact .inr ⟨g,cap,z,E,Cq _,I⟩
def A3c(l:List Bs):Dl l=l.map encStr:=rfl
def Xp(w:World)(v:Value)(l:List Bs)(h:Dp w v l)(hl:l.length<4611686018427387904):
 Calls Tryz.prog 137 #[v] w λe w'=>e=.returned (.tuple #[])/\Dp w' v (l.mergeSort λx y=>decide (x<=y))/\A3 (λk=>v.ownBlock=some k) w w':=by
 obtain⟨h1,O⟩:=h;rcases O with⟨rfl,W⟩|⟨g,cap,H,rfl,_,E,z,hm,hs,L⟩
 ·have e:=GY.1 W;subst e;refine(Tryz.slices_Sort_string_none none 0 w).mono ?_;rintro e w'⟨rfl,rfl⟩;exact⟨rfl,by rw[A4h];exact CL _ _ _ _,A3.I _ _⟩
 ·have I:H.toList.take l.length=l.map encStr:=by rw[PV]at L;rw[L];rfl
  refine(Tryz.slices_Sort_string g 0 cap l w (holds_of_block E I) (Bz E) hl).mono ?_;rintro e w'⟨rfl,n,os,rfl⟩;have d:(l.mergeSort λx y=>decide (x<=y)).length=l.length:=by simp
  refine⟨rfl,?_,(A3.I _ w).CC (grownBy_sorted _) λk Y _=>by cases Y;rfl⟩;unfold Dp;rw[A3c,d];exact ownsRow_sorted d (Cq _) E z hm hs
def Xr(w:World)(v:Value)(l:List Int)(h:DD w v l)(hl:l.length<4611686018427387904):
 Calls Tryz.prog 115 #[v] w λe w'=>e=.returned (.tuple #[])/\DD w' v (l.mergeSort λx y=>decide (x<=y))/\A3 (λk=>v.ownBlock=some k) w w':=by
 obtain⟨h1,O⟩:=h;rcases O with⟨rfl,W⟩|⟨g,cap,H,rfl,_,E,z,hm,hs,L⟩
 ·have e:=GY.1 W;subst e;refine(Tryz.slices_Sort_int_none none 0 w).mono ?_;rintro e w'⟨rfl,rfl⟩;exact⟨rfl,by rw[A4h];exact CL _ _ _ _,A3.I _ _⟩
 ·have I:H.toList.take l.length=l.map (Value.int .i64):=by rw[PV]at L;rw[L];rfl
  refine(Tryz.slices_Sort_int g 0 cap l w (holds_of_blockI E I) (Bz E) hl).mono ?_;rintro e w'⟨rfl,n,os,rfl⟩;have d:(l.mergeSort λx y=>decide (x<=y)).length=l.length:=by simp
  refine⟨rfl,?_,(A3.I _ w).CC (grownBy_sortedI _) λk Y _=>by cases Y;rfl⟩;unfold DD;rw[d];exact ownsRow_sortedI d (Cq _) E z hm hs
def R7(x:Bs):∀(l:List Bs),(l.Pairwise λa b=>¬b<a)->∃k,k<=l.length/\(∀t (d:t<l.length),t<k->(l[t]'d)<x)/\∀t (d:t<l.length),k<=t->¬(l[t]'d)<x
 | [],_=>⟨0,As _,λt d=>by simp at d,λt d=>by simp at d⟩
 | y::r,hs=>by
  obtain⟨W,O⟩:=Dc.1 hs;by_cases E:y<x
  ·obtain⟨k,k0,H,L⟩:=R7 x r O;refine⟨k+1,by simp;omega,λt d z=>?_,λt d z=>?_⟩
   ·cases t with
    | zero=>exact E
    | succ t=>exact H t (by simp at d;omega) (by omega)
   ·cases t with
    | zero=>omega
    | succ t=>exact L t (by simp at d;omega) (by omega)
  ·refine⟨0,Cq _,λt _ z=>by omega,λt d _ h=>?_⟩;cases t with
   | zero=>exact E h
   | succ t=>
    have I:=W _ (BY (show t<r.length by simp at d;omega));exact E (List.lt_of_le_of_lt (show y<=_ from I) h)
def A3b(w:World)(v:Value)(l:List Bs)(x:Bs)(h:GG w v l)(hl:l.length<4611686018427387904)(hs:l.Pairwise λa b=>¬b<a):
 Calls Tryz.prog 138 #[v,.string ⟨x.toArray⟩] w λe w'=>∃i,e=.returned (.tuple #[.int .i64 i,.bool (decide (x∈l))])/\∃q,w'=w.drewN q:=by
 obtain⟨a,cap,rfl,hcap,hm⟩:=h.Cg;by_cases h0:l.length=0
 ·have e:l=[]:=GY.1 h0;subst e;refine(Any2.slices_BinarySearch_string_empty Tryz.eN a cap ⟨x.toArray⟩ w).mono ?_;rintro e w'⟨rfl,rfl⟩;exact⟨0,by simp,0,rfl⟩
 ·obtain⟨g,o,rfl,-⟩:=GG.at h 0 (by omega)
  let Sx:Nat->ByteArray:=λt=>if d:t<l.length then ⟨(l[t]'d).toArray⟩ else ⟨x.toArray⟩
  have H:∀t (d:t<l.length),Sx t=⟨(l[t]'d).toArray⟩:=λt d=>by simp only[Sx,Pp d]
  refine(Any2.slices_BinarySearch_string Tryz.eN g o l.length cap Sx ⟨x.toArray⟩ w hl (λj Y=>?_)).mono ?_
  ·obtain⟨g',o',e,hc⟩:=GG.at h j Y;cases e;rw[H j Y];exact hc
  rintro e w'⟨O,q,rfl⟩;have E:∀t,Op.bytesLess (Sx t).toList (⟨x.toArray⟩:ByteArray).toList=decide (∃d:t<l.length,(l[t]'d)<x):=λt=>by
   rw[UI,Kl,Kl];by_cases d:t<l.length
   ·rw[H t d];by_cases I:(l[t]'d)<x
    ·have L:decide (∃d:t<l.length,(l[t]'d)<x)=true:=CE ⟨d,I⟩;rw[L];exact CE I
    ·have L:decide (∃d:t<l.length,(l[t]'d)<x)=false:=D2 λ⟨_,h⟩=>I h
     rw[L];exact D2 I
   ·(have e:Sx t=⟨x.toArray⟩:=by simp only[Sx,Pq d]);have L:decide (∃d:t<l.length,(l[t]'d)<x)=false:=D2 λ⟨h,_⟩=>d h
    rw[e,L];exact D2 (LF _)
  have aG:∀(i j:Nat) (hi:i<l.length) (Y:j<l.length),i<j->¬(l[j]'Y)<(l[i]'hi):=λi j hi Y aE=>Ke.1 hs i j hi Y aE;obtain⟨k,hk,k1,k2⟩:=R7 x l hs;have aD:Lib.bsGo (λt=>Op.bytesLess (Sx t).toList (⟨x.toArray⟩:ByteArray).toList) l.length 0 l.length=k:=by
   refine Lib.bsGo_spec _ k (λt d=>?_) (λt d=>?_) _ 0 l.length (by omega) (by omega) hk
   ·rw[E t];exact CE ⟨by omega,k1 t (by omega) d⟩
   ·rw[E t];exact D2 λ⟨L,h2⟩=>k2 t L d h2
  rw[aD]at O;have:(k<l.length/\Sx k=⟨x.toArray⟩)↔x∈l:=by
   constructor
   ·rintro⟨z,aA⟩;rw[H k z]at aA;have:(l[k]'z)=x:=by
     have:=EK (λ(b:ByteArray)=>b.data.toList) aA;simpa using this
    rw[<-this];exact BY z
   ·intro hm;obtain⟨t,d,O⟩:=DW hm;have htk:k<=t:=by
     rcases F9 t k with W | W
     ·have:=k1 t d W;rw[O]at this;exact absurd this (LF _)
     ·exact W
    (have z:k<l.length:=by omega);refine⟨z,?_⟩;have aF:¬x<(l[k]'z):=by
     rcases F9 k t with W | W
     ·have:=aG k t z d W;rwa [O]at this
     ·(have e:k=t:=by omega);subst e;rw[O];exact LF _
    have aB:=k2 k z (As _);have:(l[k]'z)=x:=List.le_antisymm (show (l[k]'z)<=x from aF) (show x<=(l[k]'z) from aB);rw[H k z,this]
  have hd:decide (k<l.length/\Sx k=⟨x.toArray⟩)=decide (x∈l):=by
   by_cases I:x∈l
   ·rw[CE I];exact CE (this.2 I)
   ·rw[D2 I];exact D2 λh=>I (this.1 h)
  rw[hd]at O;exact⟨_,O,q,rfl⟩
def A2X(w:World)(v:Value)(l:List Pu)(h:AZ w v l)(hl:l.length*24<=140737488355328):
 Calls Tryz.prog 153 #[v] w λe w'=>∃d,e=.returned d/\AZ w' d l/\(∀g,d.ownBlock=some g->w.heap.size<=g)/\A3 (λ_=>False) w w':=by
 obtain⟨i0,hi,z,E,H⟩:=E9 Ij;obtain⟨a,cap,rfl,h1,I,h3,O,Y⟩:=B9 h;cases a with
 | none=>
  have e:=GY.1 (O rfl).1;subst e;refine(AnyE.slices_Clone_nil Tryz.eL _ cap w).mono ?_;rintro e w'⟨rfl,rfl⟩;exact⟨_,rfl,CL _ _ _ _,λg L=>by simp[Value.ownBlock]at L,A3.I _ _⟩
 | some x=>
  obtain⟨g,rfl⟩:=Y x rfl;unfold maxLen at I;refine(AnyE.slices_Clone Tryz.eL i0 _ 3 24 hi z E H rfl (by decide) (λw=>sizeOf113 w) g 0 l.length cap (Ba l) w h.1 (by unfold maxLen;omega) hl (λj u hj=>?_) (I6 l)).mono ?_
  ·have:=BF h rfl hj;simpa using this
  rintro e w'⟨d,rfl,h6,h7,h8⟩;obtain⟨W,q2⟩:=Ot h6;exact⟨d,rfl,W,q2,A3.dh h8⟩
def A2Y(w:World)(v:Value)(l:List Int)(h:D7 w v l)(hl:l.length*8<=140737488355328):
 Calls Tryz.prog 108 #[v] w λe w'=>∃d,e=.returned d/\DD w' d l/\(∀g,d.ownBlock=some g->w.heap.size<=g)/\A3 (λ_=>False) w w':=by
 obtain⟨a,cap,rfl,h1,h2⟩:=h.Cg;by_cases O:l.length=0
 ·have e:=GY.1 O;subst e;cases a with
  | none=>
   refine(Tryz.slices_Clone_int_nil 0 cap w).mono ?_;rintro e w'⟨rfl,rfl⟩;exact⟨_,rfl,CL _ _ _ _,λg W=>by simp[Value.ownBlock]at W,A3.I _ _⟩
  | some x=>
   refine(Tryz.slices_Clone_int_zero x cap w).mono ?_;rintro e w'⟨d,rfl,z,Y,H⟩;obtain⟨E,I⟩:=Ot z;exact⟨d,rfl,E,I,A3.dh H⟩
 ·obtain⟨g,o,rfl,-⟩:=D7.at h 0 (by omega);refine(Tryz.slices_Clone_int g o l.length cap l w (As _) hl (λj L=>?_)).mono ?_
  ·obtain⟨g',o',e,hc⟩:=D7.at h j L;cases e;rw[Pb l j L];exact hc
  rintro e w'⟨d,rfl,z,Y,H⟩;rw[Cl]at z;obtain⟨E,I⟩:=Ot z;exact⟨d,rfl,E,I,A3.dh H⟩
end
end Go.Proofs.YtodcnkbblippnaaGreatDoor
