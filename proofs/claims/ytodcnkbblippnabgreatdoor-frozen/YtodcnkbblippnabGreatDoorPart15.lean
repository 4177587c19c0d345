/- Part 15 of a proof: walks of the program. -/
import Derived.Test.YtodcnkbblippnabGreatDoorProg
import Derived.Conc.RwLib
import Derived.KernelRfl
import Derived.Sort.OwnSorted
import Derived.Sort.OwnSortedInts
import Derived.Test.YtodcnkbblippnabGreatDoorPart14
namespace Go.Proofs.YtodcnkbblippnabGreatDoor
set_option maxRecDepth 100000
set_option maxHeartbeats 32000000
set_option linter.defProp false
open Go.Proofs.Tryz
section
open Go.RowKit
def Ig.a7{w d w':World}{b o:Nat}{z:Array Value}{T:Nat}{lv lv':Value}{E:List Pt}(h:Ig d w' b o z T lv E lv')(H:A3 Aa w d):Ig w w' b o z T lv E lv':=
 ⟨h.Bu,(H.ad λ_ _ h=>h.elim).tr h.An,λg I=>(h.AF g I).imp id λh=>AQ H.Ak h⟩
def Zp(w:World)(O z:Nat)(cs:Array Value)(T:Nat)(hT:T≠88)(A9 d t v:Int)(L:List Pt)(lv:Value)(hsr:z<8)(h:Hg w O (7+z) cs T L lv)(aH:L.length<1099511627775)(h3:cs[3]?=some (A0 d))(h4:cs[5]?=some (A0 A9))(hl:1<=d/\d<=4611686018427387904)(hc:AW A9):
 Ah 30 #[A5 O,.agg #[A0 z,A0 t,A0 v]] w (Am (.tuple #[]) λw'=>
  ((Bv A9 d<=t/\∃lv',Ig w w' O (7+z) cs T lv (Cs L t v) lv')\/(t<Bv A9 d/\A3 Aa w w'))):=by
 have c3:A6 w O 3 (A0 d):=by simp[A6,World.cell?,h.Ag,h3]
 have c4:A6 w O 5 (A0 A9):=by simp[A6,World.cell?,h.Ag,h4]
 have aJ:∀w',A3 Aa w w'->_:=λw' W=>NT w' O A9 d (W.ao c3) (W.ao c4) hl hc;generalize ho:Bv A9 d=o at aJ ⊢;have aL:∀w',A3 Aa w w'->_:=λw' W=>XJ w' O (7+z) cs T hT L lv t v (h.An W) aH;have aB:=A1 aJ;have aD:=A1 aL
 go_enter func30,ntmps30
 go_wp2;have hb:(w.alloc (.cells #[A0 z,A0 t,A0 v] 90)).heap[w.heap.size]?=some (.cells #[A0 z,A0 t,A0 v] 90 (0,0)):=by show (w.heap.push _)[w.heap.size]?=_;rw[Ip]
 have I:Hid ((w.alloc (.cells #[A0 z,A0 t,A0 v] 90)).heap[w.heap.size]?=some (.cells #[A0 z,A0 t,A0 v] 90 (0,0))/\A3 Aa w (w.alloc (.cells #[A0 z,A0 t,A0 v] 90))):=⟨hb,(A3.I _ w).aj _⟩;generalize (w.alloc (.cells #[A0 z,A0 t,A0 v] 90))=w1 at I ⊢;refine H0 5 (λy=>{tmps:=#[A5 O,.agg #[A0 z,A0 t,A0 v],undef,A5 w.heap.size,y 0,y 1,y 2,y 3,y 4,undef,undef,undef,undef,undef,undef,undef,undef,undef,undef],defers:=[]}) (λ_=>undef)
  (λw'=>w'.heap[w.heap.size]?=some (.cells #[A0 z,A0 t,A0 v] 90 (0,0))/\A3 Aa w w') (A3 Aa)
  (λj x w'=>match j with
   | 0=>x=.pointer (some (Ab w.heap.size 1))
   | 1=>x=.pointer (some (Ab w.heap.size 1))
   | 2=>x=A0 t
   | 3=>x=(A5 O)
   | 4=>x=A0 o
   | _=>True)
  (by kernel_rfl) (by kernel_rfl) rfl ?_ ?_ ?_ ?_
 ·exact⟨I.o.1,I.o.2.af⟩
 ·intro j x w1 w2 hR hS' hG;split at hG<;>exact hG
 ·clear I;simp only[EX,EL,Fy,Hv]
  repeat' (with_reducible apply And.intro)
  all_goals refine⟨?_,(by intro y E _ _ h;exact Bool.noConfusion h),λy x=>rfl⟩
  all_goals
   intro y E Y hd hw K hK;obtain⟨aA,aG⟩:=Y;simp[G8,Region.binds,F6,List.filter_cons]at hd;(have p1:A6 E w.heap.size 1 (A0 t):=by simp[A6,World.cell?,aA]);have H:Hid (E.heap[w.heap.size]?=some (.cells #[A0 z,A0 t,A0 v] 90 (0,0))/\A3 Aa w E):=⟨aA,aG⟩;have aK:=A1 hK
  all_goals dsimp only
  all_goals try go_simp
  all_goals try with_reducible exact aK.o _ _ _ rfl (by simp[Act.put,hd]) (A3.I _ _) H.o
  all_goals
   refine(aB.o E H.o.2).mono ?_;rintro e w2⟨rfl,W⟩;exact aK.o _ _ _ rfl (by simp[Act.put,hd]) W ⟨W.ak H.o.1 (by simp),H.o.2.tr W⟩
 ·intro y E Y hG;have h2:y 2=A0 t:=hG 2 (by omega);have h4:y 4=A0 o:=hG 4 (by omega);have p0:A6 E w.heap.size 0 (A0 z):=by simp[A6,World.cell?,Y.1]
  have p1:A6 E w.heap.size 1 (A0 t):=by simp[A6,World.cell?,Y.1]
  have p2:A6 E w.heap.size 2 (A0 v):=by simp[A6,World.cell?,Y.1]
  have H:=A1 Y;have hsrI:(z:Int)<8:=by omega
  by_cases aE:o<=t
  ·go_wp2;refine FA (λw'=>A6 w' w.heap.size 0 (A0 z)/\A6 w' w.heap.size 1 (A0 t)/\A6 w' w.heap.size 2 (A0 v)) 8
    (Bz [0,1,2,3,4,5,6,7] []) (by kernel_rfl) (by kernel_rfl) (λ_ _ _ _ _ h=>h) ⟨p0,p1,p2⟩ ?_
   iterate 8 (refine E8 (v:=?_) rfl (by rfl) ?_ ?_;rotate_left;(· (intro w' Y;(try dsimp only at Y);go_simp;try with_reducible rfl));(try simp only[Ao]))
   refine Bo ?_;simp only[DE,Dq];have aI:=A1 (aD.o E.drew H.o.2.af);go_wp2_with (go_at_call 54;refine aI.m ?_;rintro e w2⟨rfl,lv',hR⟩;have aF:=A1 hR);go_end0
   first|exact⟨rfl,lv',aF.o.before H.o.2.drew⟩|exact⟨rfl,.inl ⟨lv',aF.o.before H.o.2.drew⟩⟩|exact⟨rfl,.inl ⟨aE,lv',aF.o.a7 H.o.2.af⟩⟩
  ·(have hlt:t<o:=by omega);go_wp2;go_end0;exact⟨rfl,.inr H.o.2⟩
end
abbrev Tryz.fG:Go.Conc.Locks.MuLink:={lock:=31,unlock:=32,ilock:=55,iunlock:=56,lockSlow:=95,unlockSlow:=98,disable:=91,enable:=93,acquire:=94,relMerge:=96,cas32:=92,add32:=97,tMutex:=81,tIMutex:=79,tPMutex:=127,tPIMutex:=172,tPI32:=174,tUP:=176,tNoCopy:=76,tU32:=77}
def Tryz.bD:Go.Conc.Locks.MuLib Tryz.prog Tryz.fG:=
 ⟨func31,func32,func55,func56,func91,func93,func94,func96,func92,func97,
  underlying79,Tryz.runUnderlying79,sizeOf79,isAgg79,zeroValue79,
  underlying81,Tryz.runUnderlying81,sizeOf81,isAgg81,zeroValue81,
  underlying127,Tryz.runUnderlying127,sizeOf127,isAgg127,zeroValue127,
  underlying172,Tryz.runUnderlying172,sizeOf172,isAgg172,zeroValue172,
  underlying174,Tryz.runUnderlying174,sizeOf174,isAgg174,zeroValue174,
  underlying176,Tryz.runUnderlying176,sizeOf176,isAgg176,zeroValue176,
  underlying76,Tryz.runUnderlying76,sizeOf76,isAgg76,zeroValue76,
  underlying21,Tryz.runUnderlying21,sizeOf21,isAgg21,zeroValue21,(by kernel_rfl)⟩
section
open Go.RowKit
def Fq(mu:Int)(jv:Value)(aA aB A9:Int)(ro:Bool)(lv:Nat->Value):Array Value:=
 #[.int .i32 mu,.int .u32 0,jv,.int .i64 aA,.int .i64 aB,.int .i64 A9,.bool ro,lv 0,lv 1,lv 2,lv 3,lv 4,lv 5,lv 6,lv 7]
def BB(w:World)(sb:Nat)(mu:Int)(jv:Value)(aA aB A9:Int)(ro:Bool)(lv:Nat->Value):Prop:=
 w.heap[sb]?=some (.cells (Fq mu jv aA aB A9 ro lv) 86 (0,0))
section
variable {w:World} {sb:Nat} {mu:Int} {jv:Value} {aA aB A9:Int} {ro:Bool} {lv:Nat->Value}
def BB.c0(h:BB w sb mu jv aA aB A9 ro lv):A6 w sb 0 (.int .i32 mu):=by unfold BB at h;simp[A6,World.cell?,h,Fq]
def BB.c2(h:BB w sb mu jv aA aB A9 ro lv):A6 w sb 2 jv:=by unfold BB at h;simp[A6,World.cell?,h,Fq]
def BB.c3(h:BB w sb mu jv aA aB A9 ro lv):A6 w sb 3 (A0 aA):=by unfold BB at h;simp[A6,World.cell?,h,Fq]
def BB.cW(h:BB w sb mu jv aA aB A9 ro lv):A6 w sb 4 (A0 aB):=by unfold BB at h;simp[A6,World.cell?,h,Fq]
def BB.cK(h:BB w sb mu jv aA aB A9 ro lv):A6 w sb 5 (A0 A9):=by unfold BB at h;simp[A6,World.cell?,h,Fq]
def BB.cR(h:BB w sb mu jv aA aB A9 ro lv):A6 w sb 6 (.bool ro):=by unfold BB at h;simp[A6,World.cell?,h,Fq]
def BB.fz(h:BB w sb mu jv aA aB A9 ro lv)(o:Nat):w.frozen? (Ab sb o)=false:=by unfold BB at h;simp[World.frozen?,h]
def BB.lt(h:BB w sb mu jv aA aB A9 ro lv):sb<w.heap.size:=Bw h
def BB.An{S:Nat->Prop}{w':World}(h:BB w sb mu jv aA aB A9 ro lv)(z:A3 S w w')(d:¬S sb):BB w' sb mu jv aA aB A9 ro lv:=(z.Al sb h.lt d).trans h
def BB.s0(h:BB w sb mu jv aA aB A9 ro lv)(x:Int):BB (w.setCell (Ab sb 0) (.int .i32 x)) sb x jv aA aB A9 ro lv:=CH h
def BB.sR(h:BB w sb mu jv aA aB A9 ro lv)(x:Bool):BB (w.setCell (Ab sb 6) (.bool x)) sb mu jv aA aB A9 x lv:=CH h
def Wm{mu:Int}{jv:Value}{aA aB A9:Int}{ro:Bool}{lv:Nat->Value}{k:Nat}(d:k<8):(Fq mu jv aA aB A9 ro lv)[7+k]?=some (lv k):=by
 match k,d with
 | 0,_=>rfl
 | 1,_=>rfl
 | 2,_=>rfl
 | 3,_=>rfl
 | 4,_=>rfl
 | 5,_=>rfl
 | 6,_=>rfl
 | 7,_=>rfl
def HM(lv:Nat->Value)(k:Nat)(v:Value):Nat->Value:=λi=>if i=k then v else lv i
def Wl{mu:Int}{jv:Value}{aA aB A9:Int}{ro:Bool}{lv:Nat->Value}{k:Nat}(d:k<8)(v:Value):(Fq mu jv aA aB A9 ro lv).setIfInBounds (7+k) v=Fq mu jv aA aB A9 ro (HM lv k v):=by
 match k,d with
 | 0,_=>rfl
 | 1,_=>rfl
 | 2,_=>rfl
 | 3,_=>rfl
 | 4,_=>rfl
 | 5,_=>rfl
 | 6,_=>rfl
 | 7,_=>rfl
end
structure E5 (w:World) (lv:Nat->Value) (L:Nat->List Pt):Prop where
 Bu:∀k,k<8->CX w (lv k) (L k)
 FD:∀k,k<8->DM (L k)
 CQ:∀k,k<8->(L k).length<1099511627775
 Kc:∀i j,i<8->j<8->i≠j->∀g,(lv i).ownBlock=some g->(lv j).ownBlock≠some g
def Et(lv:Nat->Value)(g:Nat):Prop:=∃k,k<8/\(lv k).ownBlock=some g
def E5.lt{w:World}{lv:Nat->Value}{L:Nat->List Pt}(h:E5 w lv L){g:Nat}(z:Et lv g):g<w.heap.size:=by
 obtain⟨k,d,e⟩:=z;exact Az (h.Bu k d) e
def E5.An{S:Nat->Prop}{w w':World}{lv:Nat->Value}{L:Nat->List Pt}(h:E5 w lv L)(H:A3 S w w')(E:∀g,Et lv g->¬S g):E5 w' lv L:=
 ⟨λk d=>Ay (h.Bu k d) λg z=>H.Al g (Az (h.Bu k d) z) (E g ⟨k,d,z⟩),h.FD,h.CQ,h.Kc⟩
def E5.da{w:World}{lv:Nat->Value}{L:Nat->List Pt}(h:E5 w lv L){g:Nat}(z:Et lv g):∃c,w.heap[g]?=some (.cells c 88 (0,0)):=by
 obtain⟨k,d,e⟩:=z;exact Bd (h.Bu k d) e
def E5.ne{w:World}{lv:Nat->Value}{L:Nat->List Pt}(h:E5 w lv L){sb:Nat}{c:Array Value}{T:TypeId}(E:w.heap[sb]?=some (.cells c T (0,0)))(z:T≠88):¬Et lv sb:=λH=>by
 obtain⟨c',d⟩:=h.da H;rw[E]at d;cases d;exact z rfl
def E5.eE{w:World}{lv:Nat->Value}{L:Nat->List Pt}(h:E5 w lv L){sb:Nat}{mu:Int}{jv:Value}{aA aB A9:Int}{ro:Bool}(z:BB w sb mu jv aA aB A9 ro lv){k:Nat}(d:k<8):
 Hg w sb (7+k) (Fq mu jv aA aB A9 ro lv) 86 (L k) (lv k):=
 ⟨z,Wm d,h.Bu k d,h.FD k d,Nat.lt_trans (h.CQ k d) (by decide)⟩
def HN(L:Nat->List Pt)(k:Nat)(l:List Pt):Nat->List Pt:=λi=>if i=k then l else L i
def VC{lv:Nat->Value}{k:Nat}{v:Value}{g:Nat}(h:Et (HM lv k v) g):Et lv g\/v.ownBlock=some g:=by
 obtain⟨i,d,e⟩:=h;unfold HM at e;split at e
 ·exact .inr e
 ·exact .inl ⟨i,d,e⟩
def E5.ag{w w':World}{lv:Nat->Value}{L:Nat->List Pt}(h:E5 w lv L){sb:Nat}{mu:Int}{jv:Value}{aA aB A9:Int}{ro:Bool}(hb:BB w sb mu jv aA aB A9 ro lv){k:Nat}(Y:k<8){aD:List Pt}{lv':Value}{t:Nat}(hR:Ig w w' sb (7+k) (Fq mu jv aA aB A9 ro lv) t (lv k) aD lv')(ht:t=86)(hl:aD.length<1099511627775):
 BB w' sb mu jv aA aB A9 ro (HM lv k lv')/\E5 w' (HM lv k lv') (HN L k aD)/\A3 (λx=>x=sb\/Et lv x) w w'/\∀g,Et (HM lv k lv') g->Et lv g\/w.heap.size<=g:=by
 subst ht;have W:=hR.Bu.Ag;rw[Wl Y]at W;have I:=hR.AF;have hc:A3 (λx=>x=sb\/Et lv x) w w':=hR.An.ad λx _ z=>z.imp id λe=>⟨k,Y,e⟩
 have aE:=h.ne hb (by decide);refine⟨W,⟨?_,?_,?_,?_⟩,hc,λg E=>?_⟩
 ·intro i H;unfold HM HN;by_cases e:i=k
  ·simp only[e,Cg];exact hR.Bu.Bu
  ·simp only[e,C4];exact Ay (h.Bu i H) λg E=>hR.An.Al g (Az (h.Bu i H) E) λz=>by
    rcases z with rfl|z
    ·exact aE ⟨i,H,E⟩
    ·exact h.Kc k i Y H (λx=>e x.symm) g z E
 ·intro i H;unfold HN;by_cases e:i=k
  ·simp only[e,Cg];exact hR.Bu.FD
  ·simp only[e,C4];exact h.FD i H
 ·intro i H;unfold HN;by_cases e:i=k
  ·simp only[e,Cg];exact hl
  ·simp only[e,C4];exact h.CQ i H
 ·intro i j H hj O g E d;unfold HM at E d;by_cases e:i=k
  ·subst e;have e2:¬j=i:=λx=>O x.symm;simp only[Cg]at E;simp only[e2,C4]at d;rcases I g E with z|z
   ·exact h.Kc i j Y hj O g z d
   ·have:=Az (h.Bu j hj) d;omega
  ·simp only[e,C4]at E;by_cases e2:j=k
   ·subst e2;simp only[Cg]at d;rcases I g d with z|z
    ·exact h.Kc i j H Y O g E z
    ·have:=Az (h.Bu i H) E;omega
   ·simp only[e2,C4]at d;exact h.Kc i j H hj O g E d
 ·rcases VC E with z|z
  ·exact .inl z
  ·rcases I g z with hy|hy
   ·exact .inl ⟨k,Y,hy⟩
   ·exact .inr hy
def BB.bP{w:World}{sb:Nat}{jv:Value}{aA aB A9:Int}{ro:Bool}{lv:Nat->Value}{L:Nat->List Pt}(h:BB w sb 0 jv aA aB A9 ro lv)(d:E5 w lv L):
 BB (w.setCell ⟨sb,0,none⟩ (.int .i32 1)) sb 1 jv aA aB A9 ro lv/\E5 (w.setCell ⟨sb,0,none⟩ (.int .i32 1)) lv L/\A3 (One sb) w (w.setCell ⟨sb,0,none⟩ (.int .i32 1)):=
 ⟨h.s0 1,d.An ((A3.I (One sb) w).aq rfl 0 _) (λg z e=>d.ne h (by decide) (e ▸ z)),(A3.I (One sb) w).aq rfl 0 _⟩
def BB.er{w w':World}{sb:Nat}{mu:Int}{jv:Value}{aA aB A9:Int}{ro:Bool}{lv:Nat->Value}(h:BB w sb 0 jv aA aB A9 ro lv)(H:BB w' sb mu jv aA aB A9 ro lv)(I:A3 (One sb) w w'):
 A3 (λ_=>False) w (w'.setCell ⟨sb,0,none⟩ (.int .i32 0)):=by
 have z:=H.s0 0;have d:=I.aq (b:=sb) rfl 0 (.int .i32 0);refine⟨d.os,d.FB,d.FF,d.Ak,λk E _=>?_⟩;by_cases e:k=sb
 ·subst e;unfold BB at h z;rw[h,z]
 ·exact d.Al k E e
end
section
open Go.MuLone Go.RowKit
attribute [local go_sem ↓] Go.wp_at_zero Go.wp_at_succ CE
section
variable {w:World} {sb:Nat} {jv:Value} {aA aB A9:Int} {ro:Bool} {lv:Nat->Value} {L:Nat->List Pt}
def Wh(w:World)(h:BB w sb 0 jv aA aB A9 ro lv):
 Calls Tryz.prog 20 #[.pointer (some ⟨sb,0,none⟩)] w λe w'=>e=.returned (.agg #[.bool ro,.int .i64 A9])/\A3 (λ_=>False) w w':=by
 have hA:∀o,BB (w.alloc o) sb 0 jv aA aB A9 ro lv:=λo=>h.An ((A3.I (λ_=>False) w).aj o) (λh=>h);have aF:=A1 hA;have H:=A1 h;have hlt:=h.lt
 go_enter_defers func20,ntmps20
 go_wp2_with (go_at_call 31;refine(Kv Tryz.bD ⟨sb,0,none⟩ _ (aF.o _).c0 ((aF.o _).fz 0)).mono ?_;rintro e w'⟨rfl,rfl⟩);have aD:∀o,BB ((w.setCell ⟨sb,0,none⟩ (.int .i32 1)).alloc o) sb 1 jv aA aB A9 ro lv/\A3 (One sb) w ((w.setCell ⟨sb,0,none⟩ (.int .i32 1)).alloc o):=λo=>
  ⟨(H.o.s0 1).An ((A3.I (λ_=>False) _).aj o) (λh=>h),((A3.I (One sb) w).aq rfl 0 _).aj o⟩
 obtain⟨E,O⟩:=aD (.cells #[.bool false,.int .i64 0] 51);have d:((w.setCell ⟨sb,0,none⟩ (.int .i32 1)).alloc (.cells #[.bool false,.int .i64 0] 51)).heap[w.heap.size]?=some (.cells #[.bool false,.int .i64 0] 51 (0,0)):=by
  have:=BK (w.setCell ⟨sb,0,none⟩ (.int .i32 1)) (.cells #[.bool false,.int .i64 0] 51);simpa using this
 generalize ((w.setCell ⟨sb,0,none⟩ (.int .i32 1)).alloc (.cells #[.bool false,.int .i64 0] 51))=w1 at E O d ⊢;have c4:=E.cK;have c5:=E.cR;have r0:w1.cell? ⟨w.heap.size,0,none⟩=some (.bool false):=by simp[World.cell?,d]
 have r1:w1.cell? ⟨w.heap.size,1,none⟩=some (.int .i64 0):=by simp[World.cell?,d]
 have f0:w1.frozen? ⟨w.heap.size,0,none⟩=false:=by simp[World.frozen?,d]
 have f1:w1.frozen? ⟨w.heap.size,1,none⟩=false:=by simp[World.frozen?,d]
 have W:sb≠w.heap.size:=by omega
 have aE:=A1 E;have Y:=A1 O;refine PJ (λw'=>w'.cell? ⟨sb,5,none⟩=some (.int .i64 A9)/\w'.cell? ⟨sb,6,none⟩=some (.bool ro)) 11
  [(0,true),(1,true),(2,true),(3,true),(4,true),(5,true),(6,true),(7,true),(8,false),(9,true),(10,false)] (by kernel_rfl) (by kernel_rfl) ⟨c4,c5⟩ ?_
 iterate 8 (refine E8 (v:=?_) rfl (by rfl) ?_ ?_;rotate_left;(· (intro w' I;(try dsimp only at I);go_simp;try with_reducible rfl));(try simp only[Ao]))
 refine DY rfl (by rfl) (λK hK=>?_);go_simp;refine hK _ _ ⟨by simp[World.cell?_setCell_other,c4],by simp[World.cell?_setCell_other,c5]⟩ (λI=>?_)
 (try simp only[Ao])
 iterate 1 (refine E8 (v:=?_) rfl (by rfl) ?_ ?_;rotate_left;(· (intro w' I;(try dsimp only at I);go_simp;try with_reducible rfl));(try simp only[Ao]))
 refine DY rfl (by rfl) (λK hK=>?_);go_simp;refine hK _ _ ⟨by simp[World.cell?_setCell_other,c4],by simp[World.cell?_setCell_other,c5]⟩ (λI=>?_)
 (try simp only[Ao])
 refine Bo ?_;simp only[DE,Dq];go_wp2;rw[CE];go_wp2;generalize hW:(((w1.setCell ⟨w.heap.size,0,none⟩ (.bool false)).setCell ⟨w.heap.size,1,none⟩ (.int .i64 0)).setCell ⟨w.heap.size,0,none⟩ (.bool ro)).setCell ⟨w.heap.size,1,none⟩ (.int .i64 A9)=w2;have z:BB w2 sb 1 jv aA aB A9 ro lv/\A3 (One sb) w w2/\w2.heap[w.heap.size]?=some (.cells #[.bool ro,.int .i64 A9] 51 (0,0)):=by
  subst hW;refine⟨?_,?_,?_⟩
  ·exact aE.o.An (S:=One w.heap.size) (((((A3.I (One w.heap.size) w1).aq rfl 0 _).aq rfl 1 _).aq rfl 0 _).aq rfl 1 _) W
  ·(have n:∀(p:Addr),p.block=w.heap.size->p.block<w.heap.size->One sb p.block:=λp e h=>by omega);exact((((Y.o.bp (n _ rfl) _).bp (n _ rfl) _).bp (n _ rfl) _).bp (n _ rfl) _)
  ·have:=CH (o:=1) (v:=.int .i64 A9) (CH (o:=0) (v:=.bool ro) (CH (o:=1) (v:=.int .i64 0) (CH (o:=0) (v:=.bool false) d)));simpa using this
 refine Kw (f:=32) (args:=#[.pointer (some ⟨sb,0,none⟩)]) (by simp) (by simp[go_sem]) ?_;refine(Ka Tryz.bD ⟨sb,0,none⟩ .returning _ ?_ ?_).mono ?_
 ·exact z.1.c0
 ·exact z.1.fz 0
 rintro e u' w''⟨rfl,rfl,rfl⟩;have d0:w2.cell? ⟨w.heap.size,0,none⟩=some (.bool ro):=by simp[World.cell?,z.2.2]
 have d1:w2.cell? ⟨w.heap.size,1,none⟩=some (.int .i64 A9):=by simp[World.cell?,z.2.2]
 refine⟨_,?_,rfl,H.o.er (w':=w2.drew) z.1 z.2.1.af⟩;simp[results,Tryz.results20,go_sem,d0,d1]
def Rk(w:World)(k:Nat)(a b:Int)(h:BB w sb 0 jv aA aB A9 ro lv)(hr:E5 w lv L)(hk:k<8)(hl:1<=aA/\aA<=4611686018427387904)(hc:AW A9):
 Ah 16 #[A5 sb,A0 k,A0 a,A0 b] w λe w'=>∃v,e=.returned (.tuple #[v,A0 0])/\
  CX w' v (piece (L k) (max a (Bv A9 aA)) b)/\A3 Aa w w'/\∀g,v.ownBlock=some g->w.heap.size<=g:=by
 have aN:Hid (∀w',Ah 33 #[A0 k] w' λe aD=>e=.returned (.bool true)/\w'=aD):=λw'=>by
  have:=Of w' k
  rwa [Cv (by omega)]at this
 have c0:=h.c0;have f0:=h.fz 0;obtain⟨aK,aJ,aL⟩:=h.bP hr;have aM:∀w',BB w' sb 1 jv aA aB A9 ro lv->_:=λw' h'=>NT w' sb A9 aA h'.c3 h'.cK hl hc;generalize ho:Bv A9 aA=o at aM ⊢;have aQ:∀w',BB w' sb 1 jv aA aB A9 ro lv->E5 w' lv L->_:=λw' h' aI=>A12 w' sb (7+k) (L k) (lv k) (max a o) b (aI.eE h' hk).cH;have hk1:=Ce k;have hk2:(k:Int)<8:=by omega
 have H:=A1 h;have aG:=A1 aM;have aH:=A1 aQ;have E:=A1 aK;have Y:=A1 aJ;have O:=A1 aL
 go_enter_defers func16,ntmps16
 go_wp2_with (first
  | (go_at_call 31;refine(Kv Tryz.bD (Ab sb 0) _ c0 f0).mono ?_;rintro e w'⟨rfl,rfl⟩)
  | (go_at_call 33;refine(aN.o _).mono ?_;rintro e w'⟨rfl,rfl⟩))
 generalize (w.setCell (Ab sb 0) (.int .i32 1))=w1 at E Y O ⊢;refine PJ (λ_=>True) 11
  (Bz [0,1,2,3,4,5,6,9,7,8,10] [7,10]) (by kernel_rfl) (by kernel_rfl) trivial ?_
 iterate 8 (refine E8 (v:=?_) rfl (by rfl) ?_ ?_;rotate_left;(· (intro w' hS;(try dsimp only at hS);go_simp;try with_reducible rfl));(try simp only[Ao]))
 refine DY rfl (by rfl) (λK hK=>?_);go_simp;refine(aG.o w1.drew E.o).mono ?_;rintro e w2⟨rfl,d⟩;refine hK _ _ trivial (λhS=>?_);have I:Hid (BB w2 sb 1 jv aA aB A9 ro lv/\E5 w2 lv L/\A3 (One sb) w w2):=
  have z:A3 Aa w1 w2:=⟨d.os,d.FB,d.FF,d.Ak,d.Al⟩
  ⟨E.o.An z (λh=>h),Y.o.An z (λ_ _ h=>h),O.o.Av z λ_ h _=>h.elim⟩
 (try simp only[Ao])
 (refine E8 (v:=?_) rfl (by rfl) ?_ ?_;rotate_left;(· (intro w' hS;(try dsimp only at hS);go_simp;try with_reducible rfl));(try simp only[Ao]))
 refine DY rfl (by rfl) (λK hK=>?_);go_simp;refine(aH.o w2 I.o.1 I.o.2.1).mono ?_;rintro e w3⟨v,rfl,hv,aE,hf⟩;refine hK _ _ trivial (λhS=>?_);have aF:Hid (BB w3 sb 1 jv aA aB A9 ro lv/\A3 (One sb) w w3):=⟨I.o.1.An aE (λh=>h),I.o.2.2.Av aE λ_ h _=>h.elim⟩;have aR:=A1 hv;have aO:Hid (∀g,v.oB g->w.heap.size<=g):=λg W=>AQ I.o.2.2.Ak (hf g W);have aP:Hid (∀g,v.oB g->g≠sb):=λg W e=>by
  have:=hf g W;have:=I.o.1.lt;omega
 (try simp only[Ao])
 refine Bo ?_;simp only[DE,Dq];go_wp2;rw[CE];go_wp2;refine Kw (f:=32) (args:=#[A5 sb]) (by simp) (by simp[go_sem]) ?_;refine(Ka Tryz.bD (Ab sb 0) .returning _ ?_ ?_).mono ?_
 ·exact aF.o.1.c0
 ·exact aF.o.1.fz 0
 rintro e u' aD⟨rfl,rfl,rfl⟩;exact⟨_,results_tmp2 rfl _ _ _,v,rfl,Ay aR.o λg W=>GN _ _ _ _ (λe=>aP.o g W (by simpa using e)),H.o.er aF.o.1 aF.o.2,aO.o⟩
end
def Own(sb:Nat)(lv:Nat->Value)(x:Nat):Prop:=x=sb\/Et lv x
structure KZ (w w':World) (sb:Nat) (mu:Int) (jv:Value) (aA aB A9:Int) (ro:Bool) (lv lv':Nat->Value) (L':Nat->List Pt):Prop where
 Ag:BB w' sb mu jv aA aB A9 ro lv'
 Fu:E5 w' lv' L'
 An:A3 (Own sb lv) w w'
 AF:∀g,Et lv' g->Et lv g\/w.heap.size<=g
section
variable {w w' w2:World} {sb:Nat} {mu aE:Int} {jv:Value} {aA aB A9 aD:Int} {ro aF:Bool} {lv lv' aG:Nat->Value} {L L' L2:Nat->List Pt}
def KZ.of(E:BB w' sb mu jv aA aB A9 ro lv)(z:E5 w lv L)(d:A3 (One sb) w w')(I:¬Et lv sb):KZ w w' sb mu jv aA aB A9 ro lv lv L:=
 ⟨E,z.An d (λg H e=>I (by cases e;exact H)),d.ad λ_ _ h=>.inl h,λ_ h=>.inl h⟩
end
end
section
open Go.RowKit
attribute [local go_sem ↓] CE
section
variable {w:World} {ab b xb jb B:Nat} {sv ov lv jo:Value} {A:Ar} {P:PD} {Ft:Nat->Prop} {a c m:Nat}
def Wy(P:PD)(n:Int)(r:List Int):P.segs (n::r)=match P.Cq n with
 | none=>none
 | some l=>(P.segs r).map λx=>(n,l):: x:=rfl
def Qx(w:World)(E:List Int)(a0:A6 w ab 0 (A5 b))(a1:A6 w ab 1 (A5 xb))(x4:A6 w xb 4 sv)(a6:D2 w sv E)(aX:Bh w b P Ft)(aD:∀k,Ft k->k<w.heap.size)(hF:Fit P a c m)(hl:CM a c m)(hn:∀n∈E,CD n)(hsl:E.length<=1073741824)(hL:Lets B w):
 Ah 50 #[A5 ab] w λe w'=>
  (P.segs E=none/\e=.returned (.tuple #[.slice none 0 0,A0 7])/\A3 Aa w w')\/
  ∃l v,P.segs E=some l/\e=.returned (.tuple #[v,A0 0])/\Gd w' w.heap.size b v l/\A3 Aa w w':=by
 obtain⟨i0,hi,a4,bA,a7⟩:=WD;have aP:=A1 a6;obtain⟨sa,scap,rfl,sc1,a5⟩:=aP.o.Cf;unfold maxLen at a5
 have bO:Hid (∀w1,A3 Aa w w1->∀n∈E,Ah 86 #[A5 b,A0 n] w1 λe w'=>
  (P.Cq n=none/\e=.returned (.tuple #[.pointer none,A0 7])/\A3 Aa w1 w')\/
  ∃l d v,P.Cq n=some l/\e=.returned (.tuple #[A5 d,A0 0])/\BZ w' d 139 b (AG n) (AE (AG n)) n v/\AY w' v l/\(∀g,v.ownBlock=some g->w1.heap.size<=g)/\w1.heap.size<=d/\A3 Aa w1 w'):=
  λw1 hc n hm=>XA w1 (B3.aI aX aD hc) (λk hk=>Bm (aD k hk) hc.Ak) hF hl (hn n hm) (hL.aS hc)
 have bJ:=A1 (Wy P);obtain⟨X,hX⟩:∃X,P.segs E=X:=⟨_,rfl⟩;have bP:=A1 hX;rw[hX]
 go_enter func50,ntmps50
 go_wp2;go_loopw [4,17] (λv iv wr=>∃(l:List (Int×List Pu)),iv=A0 l.length/\l.length<=E.length/\Hid (Gd wr w.heap.size b v l/\A3 Aa w wr/\X=(P.segs (E.drop l.length)).map λr=>l++r)) (λ_ iv _=>E.length-(intOf iv).toNat)
 case atStart=>exact⟨[],rfl,Cz _,⟨[],rfl,CL _ _ _ _,λg H=>by simp[Value.ownBlock]at H,λk I=>by simp at I⟩,A3.I _ _,by rw[Il,Dq,bP.o];cases X<;>simp⟩
 case round=>
  obtain⟨l,rfl,hk,hI⟩:=hrel;obtain⟨i1,i2,i3⟩:=hI.o;obtain⟨z,j1,j2,j3,j4⟩:=i1;obtain⟨ap,cp,rfl,hcap1,aK,-⟩:=B9 j2;unfold maxLen at aK;by_cases aB:l.length<E.length
  ·obtain⟨g,o,rfl,d1⟩:=D2.at aP.o l.length aB;have O:=BV aB;have aJ:=Fm aB;generalize aV:(E[l.length]'aB)=n at d1 O aJ;have e1:=i2.ao d1;have e0:=i2.ao a0;have aI:=A1 (bO.o wr i2 n O);rw[aJ,bJ.o]at i3;generalize hY:P.Cq n=Y at aI i3;have aL:=A1 i2;have bE:=A1 i3;have bC:=A1 j1;have aU:=A1 j2;have bD:=A1 j3;have bL:=A1 j4;(have a2:(l.length:Int)<(E.length:Int):=by omega);have hk0:(0:Int)<=(l.length:Int):=Gi _;clear hI i2 i3 j1 j2 j3 j4 d1 O aJ aV hY;cases Y with
   | none=>
    (have aG:X=none:=by rw[bE.o];rfl);subst aG;have aF:Hid (Ah 86 #[A5 b,A0 n] wr λe w'=>e=.returned (.tuple #[.pointer none,A0 7])/\A3 Aa wr w'):=by
     refine aI.o.mono ?_;rintro e w' (⟨_,W,h3⟩|⟨l,d,v,I,_⟩)
     ·exact⟨W,h3⟩
     ·cases I
    go_wp2_with (go_at_call 86;refine aF.o.mono ?_;rintro e L⟨rfl,aA⟩;have aZ:=A1 aA);go_ret2;exact⟨rfl,aL.o.Av aZ.o λ_ h _=>h⟩
   | some pl=>
    have aF:Hid (Ah 86 #[A5 b,A0 n] wr λe w'=>∃d v,e=.returned (.tuple #[A5 d,A0 0])/\BZ w' d 139 b (AG n) (AE (AG n)) n v/\AY w' v pl/\(∀g,v.ownBlock=some g->wr.heap.size<=g)/\wr.heap.size<=d/\A3 Aa wr w'):=by
     refine aI.o.mono ?_;rintro e w' (⟨I,_⟩|⟨l,d,v,I,W⟩)
     ·cases I
     ·cases I;exact⟨d,v,W⟩
    have bK:Hid (X=(P.segs (E.drop (l.length+1))).map λr=>(l++[(n,pl)])++r):=by
     unfold Hid;rw[bE.o];simp only[Option.map_map]
     congr 1
     funext r
     simp
    go_wp2_with (fail);refine aF.o.mono ?_;rintro e L⟨d,v,rfl,q1,q2,q3,q4,aA⟩;have bM:=A1 q1;have bN:=A1 q2;have bF:=A1 q3;have bG:=A1 q4;have a3:=A1 aA;have aR:Hid ((L.alloc (.cells #[A5 d] 136)).ownsRow 0 136 1 (.slice ap l.length cp) l.length (Gl z)):=Ay aU.o λg H=>(aA.aj _).Al g (Az aU.o H) (λh=>h)
    have aW:=A1 (Src.bc (size:=1) (B:=L.heap.size) underlying113 L #[A5 d] 136 (by simp) 1 1 rfl (Wv [d]));go_wp2_with (at_builtin;refine D9 rfl (.tmp 33) (.tmp 35) 113 113 rfl 136 i0 _ 1 8 underlying113 hi a4 bA a7 rfl (by decide) (.slice ap l.length cp) l.length (Gl z) (by rfl) aR.o _ 1 _ (by rfl) aW.o (by omega) ?_;intro a8 cap8 w8 hA;have bH:=A1 hA);go_roundw
    case rel=>
     have hA:=bH.o;have k7:A3 Aa L (L.alloc (.cells #[A5 d] 136)):=(A3.I _ L).aj _;have aM:=hA.An (S:=λk=>(Value.slice ap l.length cp).ownBlock=some k) λ_ h=>h;have aO:A3 Aa w L:=aL.o.Av a3.o λ_ h _=>h;(have a9:A3 Aa w w8:=(aO.Av k7 λ_ h _=>h).Av aM λy hy aD=>by have:=bD.o y hy;omega);have aN:A3 (λk=>(Value.slice ap l.length cp).ownBlock=some k) L w8:=(k7.ad λ_ _ h=>h.elim).Av aM λ_ h _=>h;have aS:∀(k:Nat) (c:Array Value) (e:Nat),L.heap[k]?=some (Obj.cells c e (0,0))->e≠136->¬(Value.slice ap l.length cp).ownBlock=some k:=λk c e hk he hx=>by
      obtain⟨c',aE⟩:=Bd (Ay aU.o λg H=>a3.o.Al g (Az aU.o H) (λh=>h)) hx;exact BR aE hk (λh=>he h.symm) rfl
     have aQ:∀aH x,IX L w.heap.size b aH x->IX w8 w.heap.size b aH x:=λaH x hx=>by
      obtain⟨pv,I,W,h3,h4⟩:=hx;refine⟨pv,I.ak aN (aS _ _ _ I (by decide)),Ay W λg H=>?_,h3,h4⟩;obtain⟨c',aE⟩:=Bd W H;exact aN.Al g (Az W H) (aS _ _ _ aE (by decide))
     refine⟨l++[(n,pl)],by simp,by simp;omega,⟨z++[d],by simp[bC.o],?_,?_,?_⟩,a9,by rw[show (l++[(n,pl)]).length=l.length+1 by simp];exact bK.o⟩
     ·(have e:(l++[(n,pl)]).length=l.length+1:=by simp);(have e2:Gl (z++[d])=Gl z++Gl [d]:=by simp[Gl]);rw[e,e2];exact hA.AF
     ·intro g H;rcases hA.Cy with h|h
      ·rw[h]at H;exact bD.o g H
      ·rw[h]at H;cases H;have:=aO.Ak;have:=k7.Ak;omega
     ·intro j I W;have aY:=bC.o;by_cases hj:j<l.length
      ·rw[EZ (show j<z.length by omega),EZ hj];exact aQ _ _ ((bL.o j (by omega) hj).aJ a3.o)
      ·(have bB:j=l.length:=by simp at W;omega);subst bB;(have e1:(z++[d])[l.length]'I=d:=by simp[<-aY]);(have e2:(l++[(n,pl)])[l.length]'W=(n,pl):=by simp);rw[e1,e2];exact aQ _ _ ⟨v,bM.o,bN.o,AQ aL.o.Ak bG.o,λg H=>AQ aL.o.Ak (bF.o g H)⟩
    case measure=>simp[intOf];omega
  ·(have aT:l.length=E.length:=by omega);have bI:Hid (Gd wr w.heap.size b (.slice ap l.length cp) l):=⟨z,j1,j2,j3,j4⟩;have aL:=A1 i2;(have aG:X=some l:=by rw[i3,aT,Gg];simp[PD.segs]);subst aG;(have a2:¬((l.length:Int)<(E.length:Int)):=by omega);clear i2 i3 hI j1 j2 j3 j4 aT;go_wp2;go_ret2;exact⟨_,rfl,bI.o,aL.o⟩
def Wz(w:World)(h:Cj w ab b xb jb sv ov lv jo A P Ft)(I:Fit P a c m)(z:CM a c m)(H:∀n∈A.ix.segs,CD n)(d:A.ix.segs.length<=1073741824)(E:Lets B w):
 Ah 50 #[A5 ab] w λe w'=>
  (P.segs A.ix.segs=none/\e=.returned (.tuple #[.slice none 0 0,A0 7])/\A3 Aa w w')\/
  ∃l v,P.segs A.ix.segs=some l/\e=.returned (.tuple #[v,A0 0])/\Gd w' w.heap.size b v l/\A3 Aa w w':=
 Qx w A.ix.segs h.Ag.c0 h.Ag.c1 h.ix.c4 h.segs h.dk h.lt I z H d E
def RA(w:World)(aX:Nat)(v:Value)(l:List (Int×List Pu))(h:Gd w aX b v l)(hl:l.length<=1073741824)(hq:∀x∈l,x.2.length<=m)(hm:l.length*m<=4398046511104):
 Ah 53 #[v] w λe w'=>∃v',e=.returned v'/\AY w' v' (l.flatMap (·.2))/\(∀g,v'.ownBlock=some g->w.heap.size<=g)/\A3 Aa w w':=by
 obtain⟨i0,hi,aM,aS,aQ⟩:=E4 I4;obtain⟨H,j1,j2,j3,j4⟩:=h;obtain⟨va,vcap,rfl,vc1,aL,-⟩:=B9 j2;unfold maxLen at aL;have aY:=A1 j4;have aT:=A1 j2;have aV:=A1 hq;have aZ:Hid (∀k,k<=l.length->k*m<=4398046511104):=λk hk=>AQ (Hi m hk) hm;clear j2 j3 j4 hq hm
 go_enter func53,ntmps53
 go_wp2;go_loopw [3,8] (λv iv wr=>∃(k:Nat) (d:List Pu),iv=A0 k/\k<=l.length/\d.length<=k*m/\Hid (AY wr v d/\(∀g,v.ownBlock=some g->w.heap.size<=g)/\A3 Aa w wr/\d=(l.take k).flatMap (·.2))) (λ_ iv _=>l.length-(intOf iv).toNat)
 case atStart=>exact⟨0,[],rfl,by omega,by simp,CL _ _ _ _,λg I=>by simp[Value.ownBlock]at I,A3.I _ _,rfl⟩
 case round=>
  obtain⟨k,d,rfl,hk,aO,hI⟩:=hrel;obtain⟨i1,i2,O,i4⟩:=hI.o;obtain⟨ap,cp,rfl,hcap1,aB,-⟩:=B9 i1;unfold maxLen at aB;by_cases z:k<l.length
  ·(have E:k<H.length:=by omega);have L:w.cell? ((Ab ((va.map (·.block)).getD 0) k):Addr)=some (A5 (H[k]'E))/\∃g,va=some (Ab g 0):=by
    obtain⟨a',c',e,-,-,hz,-⟩:=B9 aT.o;cases e;obtain⟨g,rfl⟩:=hz (by omega);exact⟨BF aT.o rfl (by simp[Gl,E]),g,rfl⟩
   obtain⟨aG,g,rfl⟩:=L;have W:A6 w g k (A5 (H[k]'E)):=aG;obtain⟨pv,s1,s2,-,-⟩:=aY.o k E z;have Y:=aV.o _ (BV z);have aA:l.take (k+1)=l.take k++[l[k]'z]:=Dl z;obtain⟨gb,aF⟩:∃gb,(H[k]'E)=gb:=⟨_,rfl⟩;rw[aF]at W s1;obtain⟨⟨n,pl⟩,hx⟩:∃x,(l[k]'z)=x:=⟨_,rfl⟩;rw[hx]at s1 s2 aA Y;dsimp only at s1 s2 Y;obtain⟨pa,pc,rfl,pc1,aR,-⟩:=B9 s2;unfold maxLen at aR;have d1:=O.ao W;have d2:=(s1.ak O (λh=>h)).c4;have aN:=A1 i1;have aI:=A1 i2;have aH:=A1 O;(have aP:Hid (d++pl=(l.take (k+1)).flatMap (·.2)):=by unfold Hid;rw[aA,i4];simp);have aE:=A1 (Src.bN underlying72 (Ay s2 λg I=>O.Al g (Az s2 I) (λh=>h)) (HS pl));have aU:=A1 (aZ.o (k+1) z);(have aK:(k:Int)<(l.length:Int):=by omega);have hk0:=Ce k;clear hI i1 i2 O i4 aG W s1 s2 aA hx aF;have aD:Hid ((d.length+pl.length)*24<=140737488355328/\d.length+pl.length<=(k+1)*m):=by
    have:=aU.o;rw[Mu]at this;unfold Hid;rw[Mu];omega
   clear aO Y aU;go_wp2_with (at_builtin;refine D9 rfl (.tmp 12) (.tmp 16) 72 72 rfl 90 i0 _ 3 24 underlying72 hi aM aS aQ rfl (by decide) (.slice ap d.length cp) d.length (Ba d) (by rfl) aN.o _ pl.length _ (by rfl) aE.o aD.o.1 ?_;intro a8 cap8 w8 hA;have aW:=A1 hA;clear hA);go_roundw
   case rel=>
    have hA:=aW.o;have aJ:=hA.An (S:=λk=>(Value.slice ap d.length cp).ownBlock=some k) λ_ h=>h;refine⟨k+1,d++pl,by go_num,by omega,by simp only[AZ];exact aD.o.2,?_,?_,?_,aP.o⟩
    ·(have e:(d++pl).length=d.length+pl.length:=by simp);unfold AY;rw[Iz,e];exact hA.AF
    ·intro g I;rcases hA.Cy with h|h
     ·rw[h]at I;exact aI.o g I
     ·rw[h]at I;cases I;exact aH.o.Ak
    ·exact aH.o.Av aJ λy hy hlt=>by have:=aI.o y hy;omega
   case measure=>simp[intOf];omega
  ·(obtain rfl:k=l.length:=by omega);rw[C9]at i4;have aN:=A1 i1;have aI:=A1 i2;have aH:=A1 O;(have aK:¬((l.length:Int)<(l.length:Int)):=by omega);have aP:=A1 i4;clear i1 i2 O i4 hI;go_wp2;go_ret;exact⟨_,rfl,by rw[<-aP.o];exact aN.o,aI.o,aH.o⟩
end
def ZZ(w:World)(g W L:Nat)(aA aB:Int->World->Prop)(hb:w.heap[g]?=some (.cells #[.func (Fn.func 69) #[A5 W] #[],.func (Fn.func 110) #[A5 L] #[]] 41 (0,0)))(h1:Ah 69 #[A5 W] w λe w'=>∃n,e=.returned (A0 n)/\aA n w'/\w'.heap[g]?=w.heap[g]?)(h2:∀d,aA 0 d->d.heap[g]?=w.heap[g]?->Ah 110 #[A5 L] d λe w'=>∃n,e=.returned (A0 n)/\aB n w'):
 Ah 68 #[AJ g 2 2] w λe w'=>∃n,e=.returned (A0 n)/\((n≠0/\aA n w')\/aB n w'):=by
 have c0:A6 w g 0 (.func (Fn.func 69) #[A5 W] #[]):=by simp[A6,World.cell?,hb]
 have aE:Hid (∀d:World,d.heap[g]?=w.heap[g]?->A6 d g 1 (.func (Fn.func 110) #[A5 L] #[])):=λd h=>by simp[A6,World.cell?,h,hb]
 have aD:=A1 h1;have aF:=A1 h2
 go_enter func68,ntmps68
 go_wp2;refine HH 3 ?_;rw[EO];go_wp2_with (fail);refine aD.m ?_;rintro e d⟨n1,rfl,q1,k1⟩;have H:=A1 q1;have c1:=aE.o d k1;have O:=A1 k1;by_cases z:n1=0
 case neg=>
  have hb1:(n1 !=0)=true:=by simpa using z
  go_wp2;go_ret;exact⟨n1,rfl,.inl ⟨z,H.o⟩⟩
 case pos=>
 subst z;have Y:=A1 (aF.o d H.o O.o);go_wp2;rw[EO];go_wp2_with (fail);refine Y.m ?_;rintro e w2⟨n2,rfl,q2⟩;have E:=A1 q2;by_cases I:n2=0
 case neg=>
  have hb2:(n2 !=0)=true:=by simpa using I
  go_wp2;go_ret;exact⟨n2,rfl,.inr (E.o)⟩
 case pos=>
 subst I;go_wp2;rw[EO];go_wp2;go_ret;exact⟨0,rfl,.inr (E.o)⟩
def ZY(w:World)(g W L:Nat)(aA aB:Int->World->Prop)(hb:w.heap[g]?=some (.cells #[.func (Fn.func 110) #[A5 W] #[],.func (Fn.func 71) #[A5 L] #[]] 41 (0,0)))(h1:Ah 110 #[A5 W] w λe w'=>∃n,e=.returned (A0 n)/\aA n w'/\w'.heap[g]?=w.heap[g]?)(h2:∀d,aA 0 d->d.heap[g]?=w.heap[g]?->Ah 71 #[A5 L] d λe w'=>∃n,e=.returned (A0 n)/\aB n w'):
 Ah 68 #[AJ g 2 2] w λe w'=>∃n,e=.returned (A0 n)/\((n≠0/\aA n w')\/aB n w'):=by
 have c0:A6 w g 0 (.func (Fn.func 110) #[A5 W] #[]):=by simp[A6,World.cell?,hb]
 have aE:Hid (∀d:World,d.heap[g]?=w.heap[g]?->A6 d g 1 (.func (Fn.func 71) #[A5 L] #[])):=λd h=>by simp[A6,World.cell?,h,hb]
 have aD:=A1 h1;have aF:=A1 h2
 go_enter func68,ntmps68
 go_wp2;refine HH 3 ?_;rw[EO];go_wp2_with (fail);refine aD.m ?_;rintro e d⟨n1,rfl,q1,k1⟩;have H:=A1 q1;have c1:=aE.o d k1;have O:=A1 k1;by_cases z:n1=0
 case neg=>
  have hb1:(n1 !=0)=true:=by simpa using z
  go_wp2;go_ret;exact⟨n1,rfl,.inl ⟨z,H.o⟩⟩
 case pos=>
 subst z;have Y:=A1 (aF.o d H.o O.o);go_wp2;rw[EO];go_wp2_with (fail);refine Y.m ?_;rintro e w2⟨n2,rfl,q2⟩;have E:=A1 q2;by_cases I:n2=0
 case neg=>
  have hb2:(n2 !=0)=true:=by simpa using I
  go_wp2;go_ret;exact⟨n2,rfl,.inr (E.o)⟩
 case pos=>
 subst I;go_wp2;rw[EO];go_wp2;go_ret;exact⟨0,rfl,.inr (E.o)⟩
def A0a(w:World)(g p1 p2 W:Nat)(aE aF aG:Int->World->Prop)(hb:w.heap[g]?=some (.cells #[.func (Fn.func 69) #[A5 p1] #[],.func (Fn.func 70) #[A5 p2] #[],.func (Fn.func 71) #[A5 W] #[]] 41 (0,0)))(h1:Ah 69 #[A5 p1] w λe w'=>∃n,e=.returned (A0 n)/\aE n w'/\w'.heap[g]?=w.heap[g]?)(h2:∀d,aE 0 d->d.heap[g]?=w.heap[g]?->Ah 70 #[A5 p2] d λe w'=>∃n,e=.returned (A0 n)/\aF n w'/\w'.heap[g]?=w.heap[g]?)(h3:∀d,aF 0 d->d.heap[g]?=w.heap[g]?->Ah 71 #[A5 W] d λe w'=>∃n,e=.returned (A0 n)/\aG n w'):
 Ah 68 #[AJ g 3 3] w λe w'=>∃n,e=.returned (A0 n)/\((n≠0/\aE n w')\/(n≠0/\aF n w')\/aG n w'):=by
 have c0:A6 w g 0 (.func (Fn.func 69) #[A5 p1] #[]):=by simp[A6,World.cell?,hb]
 have aK:Hid (∀d:World,d.heap[g]?=w.heap[g]?->A6 d g 1 (.func (Fn.func 70) #[A5 p2] #[])):=λd h=>by simp[A6,World.cell?,h,hb]
 have aH:Hid (∀d:World,d.heap[g]?=w.heap[g]?->A6 d g 2 (.func (Fn.func 71) #[A5 W] #[])):=λd h=>by simp[A6,World.cell?,h,hb]
 have aJ:=A1 h1;have aL:=A1 h2;have aI:=A1 h3
 go_enter func68,ntmps68
 go_wp2;refine HH 4 ?_;rw[EO];go_wp2_with (fail);refine aJ.m ?_;rintro e d⟨n1,rfl,q1,k1⟩;have L:=A1 q1;have c1:=aK.o d k1;have aA:=A1 k1;by_cases z:n1=0
 case neg=>
  have hb1:(n1 !=0)=true:=by simpa using z
  go_wp2;go_ret;exact⟨n1,rfl,.inl ⟨z,L.o⟩⟩
 case pos=>
 subst z;have aD:=A1 (aL.o d L.o aA.o);go_wp2;rw[EO];go_wp2_with (fail);refine aD.m ?_;rintro e w2⟨n2,rfl,q2,k2⟩;have H:=A1 q2;have c2:=aH.o w2 k2;have aB:=A1 k2;by_cases E:n2=0
 case neg=>
  have hb2:(n2 !=0)=true:=by simpa using E
  go_wp2;go_ret;exact⟨n2,rfl,.inr (.inl ⟨E,H.o⟩)⟩
 case pos=>
 subst E;have Y:=A1 (aI.o w2 H.o aB.o);go_wp2;rw[EO];go_wp2_with (fail);refine Y.m ?_;rintro e w3⟨n3,rfl,q3⟩;have I:=A1 q3;by_cases O:n3=0
 case neg=>
  have hb3:(n3 !=0)=true:=by simpa using O
  go_wp2;go_ret;exact⟨n3,rfl,.inr (.inr (I.o))⟩
 case pos=>
 subst O;go_wp2;rw[EO];go_wp2;go_ret;exact⟨0,rfl,.inr (.inr (I.o))⟩
def Ap.a8{w O Y:World}{Ft d:Nat->Prop}{R:World->(Nat->Prop)->Prop}(hc:A3 Ft w O)(W:∀k,d k->Ft k\/w.heap.size<=k)(h2:Ap O d Y R):Ap w Ft Y R:=by
 obtain⟨I,H,E,z,L⟩:=h2;refine⟨hc.Av I λx hx hlt=>(W x hx).resolve_right (by omega),H,E,z,λk hk=>?_⟩;rcases L k hk with h|h
 ·exact W k h
 ·exact .inr (AQ hc.Ak h)
section
variable {w:World} {ab b xb jb B:Nat} {sv ov lv jo:Value} {A:Ar} {P:PD} {Ft FT:Nat->Prop} {a c m:Nat}
def A0P(h:Bh w b P Ft)(nm:Bs):
 Ah 115 #[A5 b,.string ⟨nm.toArray⟩] w (Am (A0 (P.ae (A7 nm)).1) λw'=>Ap w Ft w' (λw' d=>Bh w' b (P.ae (A7 nm)).2 d)):=Q9 h (A7 nm)
def Qf(nm:Bs)(r:List Bs)(P:PD):PD.ax (nm::r) P=if (P.ae (A7 nm)).1≠0 then P.ae (A7 nm) else PD.ax r (P.ae (A7 nm)).2:=rfl
def Qu(w:World)(h:AD w ab b A P FT):
 Ah 69 #[A5 ab] w (Am (A0 (A.C P).1) λw'=>Ap w FT w' (λw' aT=>AD w' ab b (A.C P).2.1 (A.C P).2.2 aT)/\w'.cell? (Ab ab 2)=w.cell? (Ab ab 2)):=by
 obtain⟨xb,jb,sv,ov,lv,jo,Ft,hV,aI⟩:=h;have a4:=hV.Ag.c4;obtain⟨oa,L,rfl,oc1,aX⟩:=hV.AN.Cf;unfold maxLen at aX;have aK:=A1 hV;have E:=A1 aI;have aO:Hid (A.C P=if (PD.ax A.AN P).1≠0 then ((PD.ax A.AN P).1,A,(PD.ax A.AN P).2) else (0,{A with AN:=[]},(PD.ax A.AN P).2)):=rfl;have aY:=A1 Qf;generalize hR:A.C P=R at aO ⊢;obtain⟨X,hX⟩:∃X,PD.ax A.AN P=X:=⟨_,rfl⟩;have aZ:=A1 hX;rw[hX]at aO
 go_enter func69,ntmps69
 go_wp2;go_loopw [11] (λiv wr=>∃(k:Nat),iv=A0 k/\k<=A.AN.length/\Hid (∃aA,Ap w Ft wr (λw' H=>Cj w' ab b xb jb sv (.slice oa A.AN.length L) lv jo A aA H)/\X=PD.ax (A.AN.drop k) aA)) (λiv _=>A.AN.length-(intOf iv).toNat)
 case atStart=>exact⟨0,rfl,by omega,P,⟨A3.I _ _,Ft,aK.o,aK.o.lt,λk z=>.inl z⟩,aZ.o.symm⟩
 case round=>
  obtain⟨k,rfl,z,hI⟩:=hrel;obtain⟨aA,hi,hx⟩:=hI.o;obtain⟨c1,aH,d,lt1,s1⟩:=hi;by_cases aE:k<A.AN.length
  ·obtain⟨g,o,rfl,d1⟩:=Gw.at d.AN k aE;have aJ:=Fm aE;generalize hne:(A.AN[k]'aE)=nm at d1 aJ;rw[aJ,aY.o]at hx;have e0:=d.Ag.c0;have aN:=A1 (A0P d.dk nm);generalize hY:aA.ae (A7 nm)=Y at aN hx;have aD:Hid (∀w6,Ap wr aH w6 (λw' H=>Bh w' b Y.2 H)->Ap w Ft w6 (λw' H=>Cj w' ab b xb jb sv (.slice (some (Ab g o)) A.AN.length L) lv jo A Y.2 H)):=λw6 h6=>Ap.a8 c1 s1 (d.bW h6);have aF:=A1 hx;(have aS:(k:Int)<(A.AN.length:Int):=by omega);have hk0:=Ce k;obtain⟨aL,aM⟩:=Y;dsimp only at aN aD aF;by_cases hy:aL=0
   case neg=>
    (have W:X=(aL,aM):=by rw[aF.o,Af hy]);subst W;(have aG:R=(aL,A,aM):=by rw[aO.o,Af hy]);subst aG;(have hyb:(aL !=0)=true:=by simpa using hy);go_wp2_with (go_at_call 115;refine aN.m ?_;rintro e w6⟨rfl,aB⟩;have I:=A1 (aD.o w6 aB));go_ret;obtain⟨_,_,aR,_⟩:=I.o;exact⟨rfl,aK.o.cz E.o I.o,aR.Ag.c2.trans aK.o.Ag.c2.symm⟩
   case pos=>
    subst hy;(have aW:Hid (X=PD.ax (A.AN.drop (k+1)) aM):=by unfold Hid;rw[aF.o,Ac (by simp)]);go_wp2_with (go_at_call 115;refine aN.m ?_;rintro e w6⟨rfl,aB⟩;have I:=A1 (aD.o w6 aB));go_roundw
    case rel=>exact⟨k+1,by go_num,by omega,aM,I.o,aW.o⟩
    case measure=>simp[intOf];omega
  ·(obtain rfl:k=A.AN.length:=by omega);rw[Gg]at hx;have W:X=(0,aA):=hx;subst W;(have aG:R=(0,{A with AN:=[]},aA):=by rw[aO.o,Ac (by simp)]);subst aG;(have aS:¬((A.AN.length:Int)<(A.AN.length:Int)):=by omega);have g4:=d.Ag.c4;have f4:=d.Ag.fz 4;have aQ:=A1 d;have aU:=A1 c1;have aP:=A1 s1;go_wp2;go_ret;have d:=aQ.o;have kz:A3 (One ab) wr (wr.sC ab 4 (.slice none 0 0)):=(A3.I (One ab) wr).aq (b:=ab) rfl 4 _;have hs:∀k,k≠ab->k<wr.heap.size->(wr.sC ab 4 (.slice none 0 0)).heap[k]?=wr.heap[k]?:=λk z hl=>kz.Al k hl z;have aV:∀k,Df jb lv jo k->k≠ab:=λk z=>(d.Fs k z).1
   have O:Cj (wr.sC ab 4 (.slice none 0 0)) ab b xb jb sv (.slice none 0 0) lv jo {A with AN:=[]} aA aH:=
    ⟨d.Ag.s4 _,(hs xb d.ne.symm d.ix.lt).trans d.ix,d.segs.aP λg hg=>hs g (d.F9 g hg).1 (d.segs.lt hg),Dp.b9,d.jn.aP λk z=>hs k (aV k z) (d.jn.lt z),
     B3.aP d.dk λk z=>hs k (λe=>by subst e;exact d.Db _ (.inl rfl) z) (d.lt k z),λk z=>Bm (d.lt k z) kz.Ak,
     λk z=>d.Db k (by
      rcases z with h|h|h|h|h
      ·exact .inl h
      ·exact .inr (.inl h)
      ·exact .inr (.inr (.inl h))
      ·simp[Value.ownBlock]at h
      ·exact .inr (.inr (.inr (.inr h)))),d.F9,λg hg=>by simp[Value.ownBlock]at hg,d.Fs⟩
   refine⟨rfl,?_,O.Ag.c2.trans aK.o.Ag.c2.symm⟩;refine(O.bL ((aU.o.ad (S':=λk=>Ft k\/k=ab) λ_ _ h=>.inl h).Av kz λ_ h _=>.inr h) ?_ (λk z=>(aP.o k z).imp (λh=>E.o k (.inl h)) id) ?_)
   ·rintro k _ (h|rfl)
    ·exact E.o k (.inl h)
    ·exact E.o _ (.inr (.inl rfl))
   ·intro k z;refine .inl (E.o k (.inr ?_));rcases z with h|h|h|h|h
    ·exact .inl h
    ·exact .inr (.inl h)
    ·exact .inr (.inr (.inl h))
    ·simp[Value.ownBlock]at h
    ·exact .inr (.inr (.inr (.inr h)))
def Qv(w:World)(h:AD w ab b A P FT):
 Ah 69 #[A5 ab] w (Am (A0 (A.C P).1) λw'=>Ap w FT w' (λw' d=>AD w' ab b (A.C P).2.1 (A.C P).2.2 d)):=
 (Qu w h).mono λ_ _ ⟨E,z,_⟩=>⟨E,z⟩
end
end
section
open Go.RowKit
def A3.dc{w w':World}(h:Below w.heap.size w w'):A3 Aa w w':=⟨h.os,h.tape,h.output,h.size,λk d _=>h.block k d⟩
def NN{w:World}{d e size n:Nat}{v:Value}{xs:List Value}(h:w.ownsRow d e size v n xs):w.ownsRow 0 e size v n xs/\∀g,v.ownBlock=some g->d<=g:=by
 refine⟨⟨h.1,?_⟩,λg H=>(h.lt g H).1⟩;rcases h.2 with E|⟨g,cap,z,E,_,I⟩
 ·exact .inl E
 ·exact .inr ⟨g,cap,z,E,Cz _,I⟩
def A1Y(l:List Bs):Dh l=l.map encStr:=rfl
def Wo(w:World)(v:Value)(l:List Bs)(h:Dk w v l)(hl:l.length<4611686018427387904):
 Calls Tryz.prog 88 #[v] w λe w'=>e=.returned (.tuple #[])/\Dk w' v (l.mergeSort λx y=>decide (x<=y))/\A3 (λk=>v.ownBlock=some k) w w':=by
 obtain⟨h1,O⟩:=h;rcases O with⟨rfl,W⟩|⟨g,cap,H,rfl,_,E,z,hm,hs,L⟩
 ·have e:=GK.1 W;subst e;refine(Tryz.slices_Sort_string_none none 0 w).mono ?_;rintro e w'⟨rfl,rfl⟩;exact⟨rfl,by rw[A2Z];exact CL _ _ _ _,A3.I _ _⟩
 ·have I:H.toList.take l.length=l.map encStr:=by rw[Pf]at L;rw[L];rfl
  refine(Tryz.slices_Sort_string g 0 cap l w (holds_of_block E I) (Bw E) hl).mono ?_;rintro e w'⟨rfl,n,os,rfl⟩;have d:(l.mergeSort λx y=>decide (x<=y)).length=l.length:=by simp
  refine⟨rfl,?_,(A3.I _ w).Ct (grownBy_sorted _) λk Y _=>by cases Y;rfl⟩;unfold Dk;rw[A1Y,d];exact ownsRow_sorted d (Cz _) E z hm hs
def Wr(w:World)(v:Value)(l:List Int)(h:Dw w v l)(hl:l.length<4611686018427387904):
 Calls Tryz.prog 65 #[v] w λe w'=>e=.returned (.tuple #[])/\Dw w' v (l.mergeSort λx y=>decide (x<=y))/\A3 (λk=>v.ownBlock=some k) w w':=by
 obtain⟨h1,O⟩:=h;rcases O with⟨rfl,W⟩|⟨g,cap,H,rfl,_,E,z,hm,hs,L⟩
 ·have e:=GK.1 W;subst e;refine(Tryz.slices_Sort_int_none none 0 w).mono ?_;rintro e w'⟨rfl,rfl⟩;exact⟨rfl,by rw[A2Z];exact CL _ _ _ _,A3.I _ _⟩
 ·have I:H.toList.take l.length=l.map (Value.int .i64):=by rw[Pf]at L;rw[L];rfl
  refine(Tryz.slices_Sort_int g 0 cap l w (holds_of_blockI E I) (Bw E) hl).mono ?_;rintro e w'⟨rfl,n,os,rfl⟩;have d:(l.mergeSort λx y=>decide (x<=y)).length=l.length:=by simp
  refine⟨rfl,?_,(A3.I _ w).Ct (grownBy_sortedI _) λk Y _=>by cases Y;rfl⟩;unfold Dw;rw[d];exact ownsRow_sortedI d (Cz _) E z hm hs
def Qq(x:Bs):∀(l:List Bs),(l.Pairwise λa b=>¬b<a)->∃k,k<=l.length/\(∀t (d:t<l.length),t<k->(l[t]'d)<x)/\∀t (d:t<l.length),k<=t->¬(l[t]'d)<x
 | [],_=>⟨0,Au _,λt d=>by simp at d,λt d=>by simp at d⟩
 | y::r,hs=>by
  obtain⟨W,O⟩:=D7.1 hs;by_cases E:y<x
  ·obtain⟨k,k0,H,L⟩:=Qq x r O;refine⟨k+1,by simp;omega,λt d z=>?_,λt d z=>?_⟩
   ·cases t with
    | zero=>exact E
    | succ t=>exact H t (by simp at d;omega) (by omega)
   ·cases t with
    | zero=>omega
    | succ t=>exact L t (by simp at d;omega) (by omega)
  ·refine⟨0,Cz _,λt _ z=>by omega,λt d _ h=>?_⟩;cases t with
   | zero=>exact E h
   | succ t=>
    have I:=W _ (BV (show t<r.length by simp at d;omega));exact E (List.lt_of_le_of_lt (show y<=_ from I) h)
def A1X(w:World)(v:Value)(l:List Bs)(x:Bs)(h:Gw w v l)(hl:l.length<4611686018427387904)(hs:l.Pairwise λa b=>¬b<a):
 Calls Tryz.prog 89 #[v,.string ⟨x.toArray⟩] w λe w'=>∃i,e=.returned (.tuple #[.int .i64 i,.bool (decide (x∈l))])/\∃q,w'=w.drewN q:=by
 obtain⟨a,cap,rfl,hcap,hm⟩:=h.Cf;by_cases h0:l.length=0
 ·have e:l=[]:=GK.1 h0;subst e;refine(Any2.slices_BinarySearch_string_empty Tryz.eD a cap ⟨x.toArray⟩ w).mono ?_;rintro e w'⟨rfl,rfl⟩;exact⟨0,by simp,0,rfl⟩
 ·obtain⟨g,o,rfl,-⟩:=Gw.at h 0 (by omega)
  let Sx:Nat->ByteArray:=λt=>if d:t<l.length then ⟨(l[t]'d).toArray⟩ else ⟨x.toArray⟩
  have H:∀t (d:t<l.length),Sx t=⟨(l[t]'d).toArray⟩:=λt d=>by simp only[Sx,dif_pos d]
  refine(Any2.slices_BinarySearch_string Tryz.eD g o l.length cap Sx ⟨x.toArray⟩ w hl (λj Y=>?_)).mono ?_
  ·obtain⟨g',o',e,hc⟩:=Gw.at h j Y;cases e;rw[H j Y];exact hc
  rintro e w'⟨O,q,rfl⟩;have E:∀t,Op.bytesLess (Sx t).toList (⟨x.toArray⟩:ByteArray).toList=decide (∃d:t<l.length,(l[t]'d)<x):=λt=>by
   rw[U5,JX,JX];by_cases d:t<l.length
   ·rw[H t d];by_cases I:(l[t]'d)<x
    ·have L:decide (∃d:t<l.length,(l[t]'d)<x)=true:=Cv ⟨d,I⟩;rw[L];exact Cv I
    ·have L:decide (∃d:t<l.length,(l[t]'d)<x)=false:=D4 λ⟨_,h⟩=>I h
     rw[L];exact D4 I
   ·(have e:Sx t=⟨x.toArray⟩:=by simp only[Sx,OK d]);have L:decide (∃d:t<l.length,(l[t]'d)<x)=false:=D4 λ⟨h,_⟩=>d h
    rw[e,L];exact D4 (Le _)
  have aG:∀(i j:Nat) (hi:i<l.length) (Y:j<l.length),i<j->¬(l[j]'Y)<(l[i]'hi):=λi j hi Y aE=>JR.1 hs i j hi Y aE;obtain⟨k,hk,k1,k2⟩:=Qq x l hs;have aD:Lib.bsGo (λt=>Op.bytesLess (Sx t).toList (⟨x.toArray⟩:ByteArray).toList) l.length 0 l.length=k:=by
   refine Lib.bsGo_spec _ k (λt d=>?_) (λt d=>?_) _ 0 l.length (by omega) (by omega) hk
   ·rw[E t];exact Cv ⟨by omega,k1 t (by omega) d⟩
   ·rw[E t];exact D4 λ⟨L,h2⟩=>k2 t L d h2
  rw[aD]at O;have:(k<l.length/\Sx k=⟨x.toArray⟩)↔x∈l:=by
   constructor
   ·rintro⟨z,aA⟩;rw[H k z]at aA;have:(l[k]'z)=x:=by
     have:=EB (λ(b:ByteArray)=>b.data.toList) aA;simpa using this
    rw[<-this];exact BV z
   ·intro hm;obtain⟨t,d,O⟩:=DQ hm;have htk:k<=t:=by
     rcases EW t k with W | W
     ·have:=k1 t d W;rw[O]at this;exact absurd this (Le _)
     ·exact W
    (have z:k<l.length:=by omega);refine⟨z,?_⟩;have aF:¬x<(l[k]'z):=by
     rcases EW k t with W | W
     ·have:=aG k t z d W;rwa [O]at this
     ·(have e:k=t:=by omega);subst e;rw[O];exact Le _
    have aB:=k2 k z (Au _);have:(l[k]'z)=x:=List.le_antisymm (show (l[k]'z)<=x from aF) (show x<=(l[k]'z) from aB);rw[H k z,this]
  have hd:decide (k<l.length/\Sx k=⟨x.toArray⟩)=decide (x∈l):=by
   by_cases I:x∈l
   ·rw[Cv I];exact Cv (this.2 I)
   ·rw[D4 I];exact D4 λh=>I (this.1 h)
  rw[hd]at O;exact⟨_,O,q,rfl⟩
def A1L(w:World)(v:Value)(l:List Pu)(h:AY w v l)(hl:l.length*24<=140737488355328):
 Calls Tryz.prog 101 #[v] w λe w'=>∃d,e=.returned d/\AY w' d l/\(∀g,d.ownBlock=some g->w.heap.size<=g)/\A3 (λ_=>False) w w':=by
 obtain⟨i0,hi,z,E,H⟩:=E4 I4;obtain⟨a,cap,rfl,h1,I,h3,O,Y⟩:=B9 h;cases a with
 | none=>
  have e:=GK.1 (O rfl).1;subst e;refine(AnyE.slices_Clone_nil Tryz.eB _ cap w).mono ?_;rintro e w'⟨rfl,rfl⟩;exact⟨_,rfl,CL _ _ _ _,λg L=>by simp[Value.ownBlock]at L,A3.I _ _⟩
 | some x=>
  obtain⟨g,rfl⟩:=Y x rfl;unfold maxLen at I;refine(AnyE.slices_Clone Tryz.eB i0 _ 3 24 hi z E H rfl (by decide) (λw=>sizeOf90 w) g 0 l.length cap (Ba l) w h.1 (by unfold maxLen;omega) hl (λj u hj=>?_) (HS l)).mono ?_
  ·have:=BF h rfl hj;simpa using this
  rintro e w'⟨d,rfl,h6,h7,h8⟩;obtain⟨W,q2⟩:=NN h6;exact⟨d,rfl,W,q2,A3.dc h8⟩
def A1M(w:World)(v:Value)(l:List Int)(h:D2 w v l)(hl:l.length*8<=140737488355328):
 Calls Tryz.prog 72 #[v] w λe w'=>∃d,e=.returned d/\Dw w' d l/\(∀g,d.ownBlock=some g->w.heap.size<=g)/\A3 (λ_=>False) w w':=by
 obtain⟨a,cap,rfl,h1,h2⟩:=h.Cf;by_cases O:l.length=0
 ·have e:=GK.1 O;subst e;cases a with
  | none=>
   refine(Tryz.slices_Clone_int_nil 0 cap w).mono ?_;rintro e w'⟨rfl,rfl⟩;exact⟨_,rfl,CL _ _ _ _,λg W=>by simp[Value.ownBlock]at W,A3.I _ _⟩
  | some x=>
   refine(Tryz.slices_Clone_int_zero x cap w).mono ?_;rintro e w'⟨d,rfl,z,Y,H⟩;obtain⟨E,I⟩:=NN z;exact⟨d,rfl,E,I,A3.dc H⟩
 ·obtain⟨g,o,rfl,-⟩:=D2.at h 0 (by omega);refine(Tryz.slices_Clone_int g o l.length cap l w (Au _) hl (λj L=>?_)).mono ?_
  ·obtain⟨g',o',e,hc⟩:=D2.at h j L;cases e;rw[Ov l j L];exact hc
  rintro e w'⟨d,rfl,z,Y,H⟩;rw[C9]at z;obtain⟨E,I⟩:=NN z;exact⟨d,rfl,E,I,A3.dc H⟩
end
end Go.Proofs.YtodcnkbblippnabGreatDoor
