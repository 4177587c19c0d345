/- Part 6 of a proof: walks of the program. -/
import Derived.Test.YtodcnkbblippnaaGreatDoorProg
import Derived.Conc.RwLib
import Derived.KernelRfl
import Derived.Test.YtodcnkbblippnaaGreatDoorPart16
namespace Go.Proofs.YtodcnkbblippnaaGreatDoor
set_option maxRecDepth 100000
set_option maxHeartbeats 32000000
set_option linter.defProp false
open Go.Proofs.Tryz
section
open Go.RowKit
def F7.aN{w d w':World}{b o:Nat}{y:Array Value}{T:Nat}{lv lv':Value}{z:List Pt}(h:F7 d w' b o y T lv z lv')(E:A2 A7 w d):F7 w w' b o y T lv z lv':=
 ⟨h.AU,(E.U λ_ _ h=>h.elim).tr h.Aj,λg H=>(h.AA g H).imp id λh=>Az E.Af h⟩
def R0(w:World)(J z:Nat)(V:Array Value)(T:Nat)(hT:T≠70)(Ab d t v:Int)(L:List Pt)(lv:Value)(hsr:z<8)(h:ES w J (7+z) V T L lv)(aG:L.length<1099511627775)(h3:V[3]?=some (A0 d))(h4:V[5]?=some (A0 Ab))(hl:1<=d/\d<=4611686018427387904)(hc:AE Ab):
 Ac 60 #[A4 J,.agg #[A0 z,A0 t,A0 v]] w (Ak (.tuple #[]) λw'=>
  ((B8 Ab d<=t/\∃lv',F7 w w' J (7+z) V T lv (BZ L t v) lv')\/(t<B8 Ab d/\A2 A7 w w'))):=by
 have c3:A5 w J 3 (A0 d):=by simp[A5,World.cell?,h.Ae,h3]
 have c4:A5 w J 5 (A0 Ab):=by simp[A5,World.cell?,h.Ae,h4]
 have aI:∀w',A2 A7 w w'->_:=λw' O=>HV w' J Ab d (O.af c3) (O.af c4) hl hc;generalize ho:B8 Ab d=o at aI ⊢;have aK:∀w',A2 A7 w w'->_:=λw' O=>PE w' J (7+z) V T hT L lv t v (h.Aj O) aG;have aA:=A1 aI;have aB:=A1 aK
 go_enter func60,ntmps60
 go_wp2;have hb:(w.alloc (.cells #[A0 z,A0 t,A0 v] 113)).heap[w.heap.size]?=some (.cells #[A0 z,A0 t,A0 v] 113 (0,0)):=by show (w.heap.push _)[w.heap.size]?=_;rw[FW]
 have I:Hid ((w.alloc (.cells #[A0 z,A0 t,A0 v] 113)).heap[w.heap.size]?=some (.cells #[A0 z,A0 t,A0 v] 113 (0,0))/\A2 A7 w (w.alloc (.cells #[A0 z,A0 t,A0 v] 113))):=⟨hb,(A2.C _ w).ae _⟩;generalize (w.alloc (.cells #[A0 z,A0 t,A0 v] 113))=w1 at I ⊢;refine EW 5 (λy=>{tmps:=#[A4 J,.agg #[A0 z,A0 t,A0 v],undef,A4 w.heap.size,y 0,y 1,y 2,y 3,y 4,undef,undef,undef,undef,undef,undef,undef,undef,undef,undef],defers:=[]}) (λ_=>undef)
  (λw'=>w'.heap[w.heap.size]?=some (.cells #[A0 z,A0 t,A0 v] 113 (0,0))/\A2 A7 w w') (A2 A7)
  (λj x w'=>match j with
   | 0=>x=.pointer (some (A8 w.heap.size 1))
   | 1=>x=.pointer (some (A8 w.heap.size 1))
   | 2=>x=A0 t
   | 3=>x=(A4 J)
   | 4=>x=A0 o
   | _=>True)
  (by kernel_rfl) (by kernel_rfl) rfl ?_ ?_ ?_ ?_
 ·exact⟨I.o.1,I.o.2.I⟩
 ·intro j x w1 w2 hR hS' Y;split at Y<;>exact Y
 ·clear I;simp only[Ei,Eh,DV,Fx]
  repeat' (with_reducible apply And.intro)
  all_goals refine⟨?_,(by intro y E _ _ h;exact Bool.noConfusion h),λy x=>rfl⟩
  all_goals
   intro y E U Z hw K hK;obtain⟨W,aF⟩:=U;simp[Ec,Region.binds,DC,List.filter_cons]at Z;(have p1:A5 E w.heap.size 1 (A0 t):=by simp[A5,World.cell?,W]);have H:Hid (E.heap[w.heap.size]?=some (.cells #[A0 z,A0 t,A0 v] 113 (0,0))/\A2 A7 w E):=⟨W,aF⟩;have aJ:=A1 hK
  all_goals dsimp only
  all_goals try go_simp
  all_goals try with_reducible exact aJ.o _ _ _ rfl (by simp[Act.put,Z]) (A2.C _ _) H.o
  all_goals
   refine(aA.o E H.o.2).mono ?_;rintro e w2⟨rfl,O⟩;exact aJ.o _ _ _ rfl (by simp[Act.put,Z]) O ⟨O.Ap H.o.1 (by simp),H.o.2.tr O⟩
 ·intro y E U Y;have h2:y 2=A0 t:=Y 2 (by omega);have h4:y 4=A0 o:=Y 4 (by omega);have p0:A5 E w.heap.size 0 (A0 z):=by simp[A5,World.cell?,U.1]
  have p1:A5 E w.heap.size 1 (A0 t):=by simp[A5,World.cell?,U.1]
  have p2:A5 E w.heap.size 2 (A0 v):=by simp[A5,World.cell?,U.1]
  have H:=A1 U;have hsrI:(z:Int)<8:=by omega
  by_cases aD:o<=t
  ·go_wp2;refine EJ (λw'=>A5 w' w.heap.size 0 (A0 z)/\A5 w' w.heap.size 1 (A0 t)/\A5 w' w.heap.size 2 (A0 v)) 8
    (Bj [0,1,2,3,4,5,6,7] []) (by kernel_rfl) (by kernel_rfl) (λ_ _ _ _ _ h=>h) ⟨p0,p1,p2⟩ ?_
   iterate 8 (refine DW (v:=?_) rfl (by rfl) ?_ ?_;rotate_left;(· (intro w' U;(try dsimp only at U);go_simp;try with_reducible rfl));(try simp only[An]))
   refine Bd ?_;simp only[Dh,Da];have aH:=A1 (aB.o E.drew H.o.2.I);go_wp2_with (go_at_call 102;refine aH.m ?_;rintro e w2⟨rfl,lv',hR⟩;have aE:=A1 hR);go_end0
   first|exact⟨rfl,lv',aE.o.before H.o.2.drew⟩|exact⟨rfl,.inl ⟨lv',aE.o.before H.o.2.drew⟩⟩|exact⟨rfl,.inl ⟨aD,lv',aE.o.aN H.o.2.I⟩⟩
  ·(have hlt:t<o:=by omega);go_wp2;go_end0;exact⟨rfl,.inr H.o.2⟩
end
abbrev Tryz.dY:Go.Conc.Locks.MuLink:={lock:=61,unlock:=62,ilock:=103,iunlock:=104,lockSlow:=144,unlockSlow:=147,disable:=140,enable:=142,acquire:=143,relMerge:=145,cas32:=141,add32:=146,tMutex:=106,tIMutex:=104,tPMutex:=167,tPIMutex:=213,tPI32:=215,tUP:=217,tNoCopy:=101,tU32:=102}
def Tryz.br:Go.Conc.Locks.MuLib Tryz.prog Tryz.dY:=
 ⟨func61,func62,func103,func104,func140,func142,func143,func145,func141,func146,
  underlying104,Tryz.runUnderlying104,sizeOf104,isAgg104,zeroValue104,
  underlying106,Tryz.runUnderlying106,sizeOf106,isAgg106,zeroValue106,
  underlying167,Tryz.runUnderlying167,sizeOf167,isAgg167,zeroValue167,
  underlying213,Tryz.runUnderlying213,sizeOf213,isAgg213,zeroValue213,
  underlying215,Tryz.runUnderlying215,sizeOf215,isAgg215,zeroValue215,
  underlying217,Tryz.runUnderlying217,sizeOf217,isAgg217,zeroValue217,
  underlying101,Tryz.runUnderlying101,sizeOf101,isAgg101,zeroValue101,
  underlying21,Tryz.runUnderlying21,sizeOf21,isAgg21,zeroValue21,(by kernel_rfl)⟩
section
open Go.RowKit
def DO(mu:Int)(jv:Value)(aA aB Ab:Int)(ro:Bool)(lv:Nat->Value):Array Value:=
 #[.int .i32 mu,.int .u32 0,jv,.int .i64 aA,.int .i64 aB,.int .i64 Ab,.bool ro,lv 0,lv 1,lv 2,lv 3,lv 4,lv 5,lv 6,lv 7]
def AX(w:World)(sb:Nat)(mu:Int)(jv:Value)(aA aB Ab:Int)(ro:Bool)(lv:Nat->Value):Prop:=
 w.heap[sb]?=some (.cells (DO mu jv aA aB Ab ro lv) 111 (0,0))
section
variable {w:World} {sb:Nat} {mu:Int} {jv:Value} {aA aB Ab:Int} {ro:Bool} {lv:Nat->Value}
def AX.c0(h:AX w sb mu jv aA aB Ab ro lv):A5 w sb 0 (.int .i32 mu):=by unfold AX at h;simp[A5,World.cell?,h,DO]
def AX.c2(h:AX w sb mu jv aA aB Ab ro lv):A5 w sb 2 jv:=by unfold AX at h;simp[A5,World.cell?,h,DO]
def AX.c3(h:AX w sb mu jv aA aB Ab ro lv):A5 w sb 3 (A0 aA):=by unfold AX at h;simp[A5,World.cell?,h,DO]
def AX.cW(h:AX w sb mu jv aA aB Ab ro lv):A5 w sb 4 (A0 aB):=by unfold AX at h;simp[A5,World.cell?,h,DO]
def AX.cK(h:AX w sb mu jv aA aB Ab ro lv):A5 w sb 5 (A0 Ab):=by unfold AX at h;simp[A5,World.cell?,h,DO]
def AX.cR(h:AX w sb mu jv aA aB Ab ro lv):A5 w sb 6 (.bool ro):=by unfold AX at h;simp[A5,World.cell?,h,DO]
def AX.fz(h:AX w sb mu jv aA aB Ab ro lv)(o:Nat):w.frozen? (A8 sb o)=false:=by unfold AX at h;simp[World.frozen?,h]
def AX.lt(h:AX w sb mu jv aA aB Ab ro lv):sb<w.heap.size:=CD h
def AX.Aj{S:Nat->Prop}{w':World}(h:AX w sb mu jv aA aB Ab ro lv)(y:A2 S w w')(d:¬S sb):AX w' sb mu jv aA aB Ab ro lv:=(y.Ao sb h.lt d).trans h
def AX.s0(h:AX w sb mu jv aA aB Ab ro lv)(x:Int):AX (w.setCell (A8 sb 0) (.int .i32 x)) sb x jv aA aB Ab ro lv:=Ca h
def AX.sK(h:AX w sb mu jv aA aB Ab ro lv)(x:Int):AX (w.setCell (A8 sb 5) (A0 x)) sb mu jv aA aB x ro lv:=Ca h
def AX.sR(h:AX w sb mu jv aA aB Ab ro lv)(x:Bool):AX (w.setCell (A8 sb 6) (.bool x)) sb mu jv aA aB Ab x lv:=Ca h
def OG{mu:Int}{jv:Value}{aA aB Ab:Int}{ro:Bool}{lv:Nat->Value}{k:Nat}(d:k<8):(DO mu jv aA aB Ab ro lv)[7+k]?=some (lv k):=by
 match k,d with
 | 0,_=>rfl
 | 1,_=>rfl
 | 2,_=>rfl
 | 3,_=>rfl
 | 4,_=>rfl
 | 5,_=>rfl
 | 6,_=>rfl
 | 7,_=>rfl
def Fi(lv:Nat->Value)(k:Nat)(v:Value):Nat->Value:=λi=>if i=k then v else lv i
def OF{mu:Int}{jv:Value}{aA aB Ab:Int}{ro:Bool}{lv:Nat->Value}{k:Nat}(d:k<8)(v:Value):(DO mu jv aA aB Ab ro lv).setIfInBounds (7+k) v=DO mu jv aA aB Ab ro (Fi lv k v):=by
 match k,d with
 | 0,_=>rfl
 | 1,_=>rfl
 | 2,_=>rfl
 | 3,_=>rfl
 | 4,_=>rfl
 | 5,_=>rfl
 | 6,_=>rfl
 | 7,_=>rfl
end
structure CW (w:World) (lv:Nat->Value) (L:Nat->List Pt):Prop where
 AU:∀k,k<8->CR w (lv k) (L k)
 DZ:∀k,k<8->Dt (L k)
 En:∀k,k<8->(L k).length<1099511627775
 H8:∀i j,i<8->j<8->i≠j->∀g,(lv i).ownBlock=some g->(lv j).ownBlock≠some g
def DQ(lv:Nat->Value)(g:Nat):Prop:=∃k,k<8/\(lv k).ownBlock=some g
def CW.lt{w:World}{lv:Nat->Value}{L:Nat->List Pt}(h:CW w lv L){g:Nat}(y:DQ lv g):g<w.heap.size:=by
 obtain⟨k,d,e⟩:=y;exact Av (h.AU k d) e
def CW.Aj{S:Nat->Prop}{w w':World}{lv:Nat->Value}{L:Nat->List Pt}(h:CW w lv L)(E:A2 S w w')(z:∀g,DQ lv g->¬S g):CW w' lv L:=
 ⟨λk d=>Aq (h.AU k d) λg y=>E.Ao g (Av (h.AU k d) y) (z g ⟨k,d,y⟩),h.DZ,h.En,h.H8⟩
def CW.cZ{w:World}{lv:Nat->Value}{L:Nat->List Pt}(h:CW w lv L){g:Nat}(y:DQ lv g):∃c,w.heap[g]?=some (.cells c 70 (0,0)):=by
 obtain⟨k,d,e⟩:=y;exact BA (h.AU k d) e
def CW.ne{w:World}{lv:Nat->Value}{L:Nat->List Pt}(h:CW w lv L){sb:Nat}{c:Array Value}{T:TypeId}(z:w.heap[sb]?=some (.cells c T (0,0)))(y:T≠70):¬DQ lv sb:=λE=>by
 obtain⟨c',d⟩:=h.cZ E;rw[z]at d;cases d;exact y rfl
def CW.cb{w:World}{lv:Nat->Value}{L:Nat->List Pt}(h:CW w lv L){sb:Nat}{mu:Int}{jv:Value}{aA aB Ab:Int}{ro:Bool}(y:AX w sb mu jv aA aB Ab ro lv){k:Nat}(d:k<8):
 ES w sb (7+k) (DO mu jv aA aB Ab ro lv) 111 (L k) (lv k):=
 ⟨y,OG d,h.AU k d,h.DZ k d,Nat.lt_trans (h.En k d) (by decide)⟩
def EX(L:Nat->List Pt)(k:Nat)(l:List Pt):Nat->List Pt:=λi=>if i=k then l else L i
def Oa{lv:Nat->Value}{k:Nat}{v:Value}{g:Nat}(h:DQ (Fi lv k v) g):DQ lv g\/v.ownBlock=some g:=by
 obtain⟨i,d,e⟩:=h;unfold Fi at e;split at e
 ·exact .inr e
 ·exact .inl ⟨i,d,e⟩
def CW.ag{w w':World}{lv:Nat->Value}{L:Nat->List Pt}(h:CW w lv L){sb:Nat}{mu:Int}{jv:Value}{aA aB Ab:Int}{ro:Bool}(hb:AX w sb mu jv aA aB Ab ro lv){k:Nat}(O:k<8){W:List Pt}{lv':Value}{t:Nat}(U:F7 w w' sb (7+k) (DO mu jv aA aB Ab ro lv) t (lv k) W lv')(ht:t=111)(hl:W.length<1099511627775):
 AX w' sb mu jv aA aB Ab ro (Fi lv k lv')/\CW w' (Fi lv k lv') (EX L k W)/\A2 (λx=>x=sb\/DQ lv x) w w'/\∀g,DQ (Fi lv k lv') g->DQ lv g\/w.heap.size<=g:=by
 subst ht;have J:=U.AU.Ae;rw[OF O]at J;have H:=U.AA;have hc:A2 (λx=>x=sb\/DQ lv x) w w':=U.Aj.U λx _ y=>y.imp id λe=>⟨k,O,e⟩
 have aD:=h.ne hb (by decide);refine⟨J,⟨?_,?_,?_,?_⟩,hc,λg z=>?_⟩
 ·intro i E;unfold Fi EX;by_cases e:i=k
  ·simp only[e,BM];exact U.AU.AU
  ·simp only[e,BG];exact Aq (h.AU i E) λg z=>U.Aj.Ao g (Av (h.AU i E) z) λy=>by
    rcases y with rfl|y
    ·exact aD ⟨i,E,z⟩
    ·exact h.H8 k i O E (λx=>e x.symm) g y z
 ·intro i E;unfold EX;by_cases e:i=k
  ·simp only[e,BM];exact U.AU.DZ
  ·simp only[e,BG];exact h.DZ i E
 ·intro i E;unfold EX;by_cases e:i=k
  ·simp only[e,BM];exact hl
  ·simp only[e,BG];exact h.En i E
 ·intro i j E Z I g z d;unfold Fi at z d;by_cases e:i=k
  ·subst e;have V:¬j=i:=λx=>I x.symm;simp only[BM]at z;simp only[V,BG]at d;rcases H g z with y|y
   ·exact h.H8 i j O Z I g y d
   ·have:=Av (h.AU j Z) d;omega
  ·simp only[e,BG]at z;by_cases V:j=k
   ·subst V;simp only[BM]at d;rcases H g d with y|y
    ·exact h.H8 i j E O I g z y
    ·have:=Av (h.AU i E) z;omega
   ·simp only[V,BG]at d;exact h.H8 i j E Z I g z d
 ·rcases Oa z with y|y
  ·exact .inl y
  ·rcases H g y with Y|Y
   ·exact .inl ⟨k,O,Y⟩
   ·exact .inr Y
def AX.bz{w:World}{sb:Nat}{jv:Value}{aA aB Ab:Int}{ro:Bool}{lv:Nat->Value}{L:Nat->List Pt}(h:AX w sb 0 jv aA aB Ab ro lv)(d:CW w lv L):
 AX (w.setCell ⟨sb,0,none⟩ (.int .i32 1)) sb 1 jv aA aB Ab ro lv/\CW (w.setCell ⟨sb,0,none⟩ (.int .i32 1)) lv L/\A2 (One sb) w (w.setCell ⟨sb,0,none⟩ (.int .i32 1)):=
 ⟨h.s0 1,d.Aj ((A2.C (One sb) w).ak rfl 0 _) (λg y e=>d.ne h (by decide) (e ▸ y)),(A2.C (One sb) w).ak rfl 0 _⟩
def AX.dR{w w':World}{sb:Nat}{mu:Int}{jv:Value}{aA aB Ab:Int}{ro:Bool}{lv:Nat->Value}(h:AX w sb 0 jv aA aB Ab ro lv)(E:AX w' sb mu jv aA aB Ab ro lv)(H:A2 (One sb) w w'):
 A2 (λ_=>False) w (w'.setCell ⟨sb,0,none⟩ (.int .i32 0)):=by
 have y:=E.s0 0;have d:=H.ak (b:=sb) rfl 0 (.int .i32 0);refine⟨d.os,d.E5,d.E9,d.Af,λk z _=>?_⟩;by_cases e:k=sb
 ·subst e;unfold AX at h y;rw[h,y]
 ·exact d.Ao k z e
end
section
open Go.MuLone Go.RowKit
attribute [local go_sem ↓] Go.wp_at_zero Go.wp_at_succ C5
section
variable {w:World} {sb:Nat} {jv:Value} {aA aB Ab:Int} {ro:Bool} {lv:Nat->Value} {L:Nat->List Pt}
def PA(w:World)(k:Nat)(a b:Int)(h:AX w sb 0 jv aA aB Ab ro lv)(hr:CW w lv L)(hk:k<8)(hl:1<=aA/\aA<=4611686018427387904)(hc:AE Ab):
 Ac 37 #[A4 sb,A0 k,A0 a,A0 b] w λe w'=>∃v,e=.returned (.tuple #[v,A0 0])/\
  CR w' v (piece (L k) (max a (B8 Ab aA)) b)/\A2 A7 w w'/\∀g,v.ownBlock=some g->w.heap.size<=g:=by
 have aK:Hid (∀w',Ac 63 #[A0 k] w' λe U=>e=.returned (.bool true)/\w'=U):=λw'=>by
  have:=Mk w' k
  rwa [Cc (by omega)]at this
 have c0:=h.c0;have f0:=h.fz 0;obtain⟨aH,aG,aI⟩:=h.bz hr;have aJ:∀w',AX w' sb 1 jv aA aB Ab ro lv->_:=λw' h'=>HV w' sb Ab aA h'.c3 h'.cK hl hc;generalize ho:B8 Ab aA=o at aJ ⊢;have aN:∀w',AX w' sb 1 jv aA aB Ab ro lv->CW w' lv L->_:=λw' h' aF=>SG w' sb (7+k) (L k) (lv k) (max a o) b (aF.cb h' hk).bp;have hk1:=C3 k;have hk2:(k:Int)<8:=by omega
 have H:=A1 h;have aD:=A1 aJ;have aE:=A1 aN;have z:=A1 aH;have O:=A1 aG;have I:=A1 aI
 go_enter_defers func37,ntmps37
 go_wp2_with (first
  | (go_at_call 61;refine(lock_free Tryz.br (A8 sb 0) _ c0 f0).mono ?_;rintro e w'⟨rfl,rfl⟩)
  | (go_at_call 63;refine(aK.o _).mono ?_;rintro e w'⟨rfl,rfl⟩))
 generalize (w.setCell (A8 sb 0) (.int .i32 1))=w1 at z O I ⊢;refine Kx (λ_=>True) 11
  (Bj [0,1,2,3,4,5,6,9,7,8,10] [7,10]) (by kernel_rfl) (by kernel_rfl) trivial ?_
 iterate 8 (refine DW (v:=?_) rfl (by rfl) ?_ ?_;rotate_left;(· (intro w' V;(try dsimp only at V);go_simp;try with_reducible rfl));(try simp only[An]))
 refine Em rfl (by rfl) (λK hK=>?_);go_simp;refine(aD.o w1.drew z.o).mono ?_;rintro e W⟨rfl,d⟩;refine hK _ _ trivial (λV=>?_);have E:Hid (AX W sb 1 jv aA aB Ab ro lv/\CW W lv L/\A2 (One sb) w W):=
  have y:A2 A7 w1 W:=⟨d.os,d.E5,d.E9,d.Af,d.Ao⟩
  ⟨z.o.Aj y (λh=>h),O.o.Aj y (λ_ _ h=>h),I.o.As y λ_ h _=>h.elim⟩
 (try simp only[An])
 (refine DW (v:=?_) rfl (by rfl) ?_ ?_;rotate_left;(· (intro w' V;(try dsimp only at V);go_simp;try with_reducible rfl));(try simp only[An]))
 refine Em rfl (by rfl) (λK hK=>?_);go_simp;refine(aE.o W E.o.1 E.o.2.1).mono ?_;rintro e w3⟨v,rfl,hv,Y,hf⟩;refine hK _ _ trivial (λV=>?_);have Z:Hid (AX w3 sb 1 jv aA aB Ab ro lv/\A2 (One sb) w w3):=⟨E.o.1.Aj Y (λh=>h),E.o.2.2.As Y λ_ h _=>h.elim⟩;have aO:=A1 hv;have aL:Hid (∀g,v.oB g->w.heap.size<=g):=λg J=>Az E.o.2.2.Af (hf g J);have aM:Hid (∀g,v.oB g->g≠sb):=λg J e=>by
  have:=hf g J;have:=E.o.1.lt;omega
 (try simp only[An])
 refine Bd ?_;simp only[Dh,Da];go_wp2;rw[C5];go_wp2;refine Ju (f:=62) (args:=#[A4 sb]) (by simp) (by simp[go_sem]) ?_;refine(J1 Tryz.br (A8 sb 0) .returning _ ?_ ?_).mono ?_
 ·exact Z.o.1.c0
 ·exact Z.o.1.fz 0
 rintro e u' U⟨rfl,rfl,rfl⟩;exact⟨_,results_tmp2 rfl _ _ _,v,rfl,Aq aO.o λg J=>EV _ _ _ _ (λe=>aM.o g J (by simpa using e)),H.o.dR Z.o.1 Z.o.2,aL.o⟩
end
def Own(sb:Nat)(lv:Nat->Value)(x:Nat):Prop:=x=sb\/DQ lv x
structure CV (w w':World) (sb:Nat) (mu:Int) (jv:Value) (aA aB Ab:Int) (ro:Bool) (lv lv':Nat->Value) (L':Nat->List Pt):Prop where
 Ae:AX w' sb mu jv aA aB Ab ro lv'
 Dn:CW w' lv' L'
 Aj:A2 (Own sb lv) w w'
 AA:∀g,DQ lv' g->DQ lv g\/w.heap.size<=g
section
variable {w w' w2:World} {sb:Nat} {mu aE:Int} {jv:Value} {aA aB Ab aD:Int} {ro aF:Bool} {lv lv' aG:Nat->Value} {L L' L2:Nat->List Pt}
def CV.As(h:CV w w' sb mu jv aA aB Ab ro lv lv' L')(y:CV w' w2 sb aE jv aA aB aD aF lv' aG L2):CV w w2 sb aE jv aA aB aD aF lv aG L2:=
 ⟨y.Ae,y.Dn,h.Aj.As y.Aj λx d hlt=>by
  rcases d with d|d
  ·exact .inl d
  ·rcases h.AA x d with z|z
   ·exact .inr z
   ·omega,λg E=>by
  rcases y.AA g E with d|d
  ·exact h.AA g d
  ·exact .inr (Az h.Aj.Af d)⟩
def CV.of(z:AX w' sb mu jv aA aB Ab ro lv)(y:CW w lv L)(d:A2 (One sb) w w')(H:¬DQ lv sb):CV w w' sb mu jv aA aB Ab ro lv lv L:=
 ⟨z,y.Aj d (λg E e=>H (by cases e;exact E)),d.U λ_ _ h=>.inl h,λ_ h=>.inl h⟩
def CV.au(h:CV w w' sb mu jv aA aB Ab ro lv lv' L')(d:A2 A7 w' w2):CV w w2 sb mu jv aA aB Ab ro lv lv' L':=
 ⟨h.Ae.Aj d (λh=>h),h.Dn.Aj d (λ_ _ h=>h),h.Aj.As d λ_ h _=>h.elim,h.AA⟩
def CV.CK(h:CV w w' sb mu jv aA aB Ab ro lv lv' L')(o:Nat)(u:Value)(d:AX (w'.setCell (A8 sb o) u) sb aE jv aA aB aD aF lv'):CV w (w'.setCell (A8 sb o) u) sb aE jv aA aB aD aF lv lv' L':=
 ⟨d,h.Dn.Aj ((A2.C (One sb) w').ak rfl o u) (λg y e=>h.Dn.ne h.Ae (by decide) (by cases e;exact y)),h.Aj.ak (.inl rfl) o u,h.AA⟩
def Gm(L L':Nat->List Pt)(o:Int):Prop:=∀i,i<8->L' i=L i\/L' i=(L i).drop (AZ (L i) o)
def Of(c x:Int):min c (9223372036854775807-x)+x=D4 c x:=by
 unfold D4;split<;>omega
def KQ{c x:Int}(d:AE c)(hx:0<=x)(hx2:x<=9223372036854775807):AE (D4 c x):=by
 obtain⟨h1,h2⟩:=d;unfold D4;split<;>constructor<;>omega
def Og(w:World)(x:Int)(h:AX w sb 0 jv aA aB Ab ro lv)(hr:CW w lv L)(hx:0<=x/\x<=9223372036854775807)(hl:1<=aA/\aA<=4611686018427387904)(hc:AE Ab):
 Ac 27 #[A4 sb,A0 x] w (Ak (A0 0) λw'=>
  ∃lv' L',CV w w' sb 0 jv aA aB (D4 Ab x) ro lv lv' L'/\Gm L L' (B8 (D4 Ab x) aA)):=by
 obtain⟨Z,W⟩:=hx;have E:=KQ hc Z W;have ew1:IntKind.i64.wrap (9223372036854775807-x)=9223372036854775807-x:=by simp[IntKind.wrap,IntKind.bits,IntKind.signed];omega
 have aJ:IntKind.i64.wrap (min Ab (9223372036854775807-x)+x)=D4 Ab x:=by
  rw[Of];obtain⟨h1,h2⟩:=E;simp[IntKind.wrap,IntKind.bits,IntKind.signed];omega
 have c0:=h.c0;have f0:=h.fz 0;obtain⟨z,hr1,aL⟩:=h.bz hr;have hn:=hr.ne h (by decide);have d3:=z.cK;have d3f:=z.fz 5;have aH:CV w (w.setCell (A8 sb 0) (.int .i32 1)) sb 1 jv aA aB Ab ro lv lv L:=CV.of z hr aL hn;have aK:∀y,Hid (CV w ((w.setCell (A8 sb 0) (.int .i32 1)).setCell (A8 sb 5) (A0 y)) sb 1 jv aA aB y ro lv lv L):=λy=>aH.CK 5 _ (z.sK y);generalize hcc:D4 Ab x=y at aJ E ⊢;have aN:=aK y;have aM:∀w' lv',AX w' sb 1 jv aA aB y ro lv'->_:=λw' lv' h'=>HV w' sb y aA h'.c3 h'.cK hl E;generalize ho:B8 y aA=o at aM ⊢;have Y:=A1 aM
 go_enter_defers func27,ntmps27
 go_wp2_with (go_at_call 61;refine(lock_free Tryz.br (A8 sb 0) _ c0 f0).mono ?_;rintro e w'⟨rfl,rfl⟩);generalize ((w.setCell (A8 sb 0) (.int .i32 1)).setCell (A8 sb 5) (A0 y))=w1 at aN ⊢;go_loopw [27] (λiv wr=>∃k:Nat,k<=8/\iv=A0 k/\Hid (∃lv' L',CV w wr sb 1 jv aA aB y ro lv lv' L'/\Gm L L' o/\∀i,k<=i->L' i=L i)) (λiv _=>8-(intOf iv).toNat)
 case atStart=>exact⟨0,by omega,rfl,lv,L,aN.o,λi _=>.inl rfl,λi _=>rfl⟩
 case round=>
  obtain⟨k,hk,rfl,hH⟩:=hrel;obtain⟨V,aI⟩:∃V,V=wr:=⟨_,rfl⟩;subst aI;have k0:=C3 k;by_cases H:k<8
  ·(have k1:(k:Int)<8:=by omega)
   have aR:Hid (∀w2,(∃lv' L',CV w w2 sb 1 jv aA aB y ro lv lv' L'/\Gm L L' o/\∀i,k<=i->L' i=L i)->Ac 72 #[.pointer (some (A8 sb (7+k))),A0 o] w2 (Ak (.tuple #[]) λw'=>
    ∃lv' L',CV w w' sb 1 jv aA aB y ro lv lv' L'/\Gm L L' o/\∀i,k+1<=i->L' i=L i)):=λw2 ⟨lv',L',d,I,U⟩=>by
    refine(RE w2 sb (7+k) _ _ (by decide) _ _ o (d.Dn.cb d.Ae H)).mono ?_;rintro e w3⟨rfl,L2,v2,J,hR⟩;have O:L2.length<=(L' k).length:=by
     rcases J with rfl|rfl
     ·exact Aw _
     ·rw[CS];omega
    obtain⟨b1,b2,b3,b4⟩:=d.Dn.ag d.Ae H hR rfl (Nat.lt_of_le_of_lt O (d.Dn.En k H));refine⟨rfl,Fi lv' k v2,EX L' k L2,d.As ⟨b1,b2,b3,b4⟩,λi hi=>?_,λi hi=>?_⟩
    ·unfold EX;by_cases e:i=k
     ·subst e;simp only[BM];rw[U i (Aw _)]at J;exact J
     ·simp only[e,BG];exact I i hi
    ·unfold EX;rw[Ad (by omega)];exact U i (by omega)
   have aP:Hid (∀w2,(∃lv' L',CV w w2 sb 1 jv aA aB y ro lv lv' L'/\Gm L L' o/\∀i,k<=i->L' i=L i)->Ac 71 #[A4 sb] w2 (Ak (A0 o) λw'=>∃lv' L',CV w w' sb 1 jv aA aB y ro lv lv' L'/\Gm L L' o/\∀i,k<=i->L' i=L i)):=λw2 ⟨lv',L',d,I,U⟩=>by
    refine(Y.o w2 lv' d.Ae).mono ?_;rintro e w3⟨rfl,hc⟩;exact⟨rfl,lv',L',d.au hc,I,U⟩
   go_wp2;refine Kx (λ_=>True) 7
    (Bj [0,1,2,3,4,5,6] [6]) (by kernel_rfl) (by kernel_rfl) trivial ?_
   iterate 6 (refine DW (v:=?_) rfl (by rfl) ?_ ?_;rotate_left;(· (intro w' hS;(try dsimp only at hS);go_simp;try with_reducible rfl));(try simp only[An]))
   refine Em rfl (by rfl) (λK hK=>?_);go_simp;refine(aP.o V.drew (by obtain⟨lv',L',d,I⟩:=hH.o;exact⟨lv',L',d.au ((A2.C _ V).I),I⟩)).mono ?_;rintro e w2⟨rfl,h2⟩;refine hK _ _ trivial (λhS=>?_);have aQ:=A1 h2
   (try simp only[An])
   refine Bd ?_;simp only[Dh,Da];go_wp2_with (go_at_call 72;refine(aR.o _ aQ.o).mono ?_;rintro e w3⟨rfl,h3⟩;have aO:=A1 h3);rw[C5];go_wp2;go_roundw
   case rel=>exact⟨k+1,by omega,by go_num,aO.o⟩
   case measure=>simp[intOf];omega
  ·(obtain rfl:k=8:=by omega);go_wp2;refine Ju (f:=62) (args:=#[A4 sb]) (by simp) (by simp[go_sem]) ?_;obtain⟨lv',L',d,I,-⟩:=hH.o;refine(J1 Tryz.br (A8 sb 0) .returning _ ?_ ?_).mono ?_
   ·exact d.Ae.c0
   ·exact d.Ae.fz 0
   rintro e u' w''⟨rfl,rfl,rfl⟩;exact⟨_,Lc rfl _ _ _,rfl,lv',L',d.CK 0 _ (d.Ae.s0 0),I⟩
end
end
section
open Go.RowKit
def GZ(w:World)(Ft:Nat->Prop)(fb:Nat)(w':World)(b:Nat)(h:DS)(F':Nat->FC):Prop:=
 A2 (λk=>Ft k\/k=fb) w w'/\∃d,AP w' b h F' d/\(∀k,d k->k<w'.heap.size)/\∀k,d k->Ft k\/w.heap.size<=k
def FN(D:DS)(F:Nat->FC)(name:ByteArray)(d:List UInt8):Bool:=
 decide ((BV (B6 D F name ⟨d.toArray⟩).2.1 (B6 D F name ⟨d.toArray⟩).2.2 name).1-(BV D F name).1=d.length)
def MG(D:DS)(F:Nat->FC)(name:ByteArray):0<=(BV D F name).1:=by
 unfold BV;cases lookup D.A3 name<;>simp
section
variable {w:World} {b fb:Nat} {D:DS} {F:Nat->FC} {Ft:Nat->Prop} {T:TypeId} {name:ByteArray} {s:Nat}
def addF(hf:AK w fb T (A4 b) name s)(hs:s<4294967296)(h:AP w b D F Ft)(aQ:∀k,Ft k->k<w.heap.size)(hn:¬Ft fb)(l:List UInt8)(hroom : -4611686018427387904<=D.n.Bl/\D.n.Bl<=9223372036854775807)(hu:AT F D.A3<=4611686018427387904)(hp:0<=D.n.BY/\D.n.BY<=9223372036854775807)(hl:∀f,lookup D.A3 name=some f->(F f).1.length+(l.length+4)<=70368744177664)(hll:l.length<=4611686018427387904)(hz:(BV (B6 D F name ⟨(l++Bm (Ay s l)).toArray⟩).2.1 (B6 D F name ⟨(l++Bm (Ay s l)).toArray⟩).2.2 name).1<=70368744177664/\(BV D F name).1<=70368744177664):
 Ac 237 #[A4 fb,.string ⟨l.toArray⟩] w (Ak (.tuple #[.bool (FN D F name (l++Bm (Ay s l))),A0 (B6 D F name ⟨(l++Bm (Ay s l)).toArray⟩).1]) λw'=>AK w' fb T (A4 b) name (Ay s l)/\GZ w Ft fb w' b (B6 D F name ⟨(l++Bm (Ay s l)).toArray⟩).2.1 (B6 D F name ⟨(l++Bm (Ay s l)).toArray⟩).2.2):=by
 obtain⟨W,aZ⟩:=hz;have aN:=A1 (L8 w fb T _ name s l hf hs (by omega));have aE:(l++Bm (Ay s l)).length=l.length+4:=by simp[EY]
 generalize hs1:Ay s l=s1 at aN aE W ⊢;generalize hpc:l++Bm s1=pc at aN aE W ⊢;have bB:∀w',AP w' b D F Ft->_:=λw' h'=>SX h' name ⟨pc.toArray⟩ hroom hu hp (λf hf=>by have:=hl f hf;show _+pc.length<=_;omega);have r1:=MG D F name;have r2:=MG (B6 D F name ⟨pc.toArray⟩).2.1 (B6 D F name ⟨pc.toArray⟩).2.2 name;have L:FN D F name pc=decide ((BV (B6 D F name ⟨pc.toArray⟩).2.1 (B6 D F name ⟨pc.toArray⟩).2.2 name).1-(BV D F name).1=pc.length):=rfl;obtain⟨Y,aL⟩:∃Y,(B6 D F name ⟨pc.toArray⟩).2.1=Y:=⟨_,rfl⟩;obtain⟨F',aH⟩:∃F',(B6 D F name ⟨pc.toArray⟩).2.2=F':=⟨_,rfl⟩;obtain⟨er,aJ⟩:∃er,(B6 D F name ⟨pc.toArray⟩).1=er:=⟨_,rfl⟩;rw[aL,aH]at L r2 W ⊢;rw[aJ];rw[aL,aH,aJ]at bB;have bD:∀w',AP w' b D F Ft->_:=λw' h'=>J5 h' name;have bA:∀w' d,AP w' b Y F' d->_:=λw' d h'=>J5 h' name;obtain⟨zn,aD⟩:∃zn,(BV D F name).1=zn:=⟨_,rfl⟩;obtain⟨ze,aY⟩:∃ze,(BV D F name).2=ze:=⟨_,rfl⟩;obtain⟨V,aG⟩:∃V,(BV Y F' name).1=V:=⟨_,rfl⟩;obtain⟨ye,aP⟩:∃ye,(BV Y F' name).2=ye:=⟨_,rfl⟩;rw[aD,aG]at L;rw[aD]at r1 aZ;rw[aG]at r2 W;rw[aD,aY]at bD;rw[aG,aP]at bA;rw[L];obtain⟨ok,L⟩:∃ok,decide (V-zn=(pc.length:Int))=ok:=⟨_,rfl⟩;rw[L];have aX:=A1 L;have a7:=A1 bB;have aO:=A1 bD;have a4:=A1 bA;have H:=A1 h;have aR:=A1 aQ;have bC:=A1 hn
 go_enter func237,ntmps237
 go_wp2_with (go_at_call 214;refine aN.m ?_;rintro e w1⟨rfl,a8,a9⟩;have a0:=A1 a8;have aB:=A1 a9);have E:Hid (AK w1 fb T (A4 b) name s1/\AP w1 b D F Ft):=⟨a0.o,H.o.aq λk hk=>aB.o.Ao k (aR.o k hk) (λe=>bC.o (e ▸ hk))⟩;refine EW 13 (λy=>{tmps:=#[A4 fb,.string ⟨l.toArray⟩,undef,undef,.bool false,A0 0,.string ⟨pc.toArray⟩,y 12,undef,undef,undef,undef,A4 fb,.string ⟨l.toArray⟩,.string ⟨pc.toArray⟩,y 9,y 0,y 1,y 2,y 3,y 4,y 5,y 6,y 7,y 8,y 10,y 11,undef,undef,undef,undef,undef,undef,undef,undef,undef,undef,undef,undef,undef,undef,undef,undef,undef,undef,undef,undef,undef,undef,undef,undef,undef,undef,undef,undef,undef],defers:=[]}) (λ_=>undef)
  (λw'=>AK w' fb T (A4 b) name s1/\AP w' b D F Ft/\A2 A7 w1 w') (A2 A7)
  (λj x w'=>match j with
   | 0=>x=(A4 fb)
   | 1=>x=(A4 fb)
   | 2=>x=(A4 fb)
   | 3=>x=(A4 b)
   | 4=>x=(A4 fb)
   | 5=>x=(A4 fb)
   | 6=>x=.pointer (some (A8 fb 1))
   | 7=>x=.string name
   | 8=>x=.tuple #[A0 zn,A0 ze]
   | 9=>x=.tuple #[A0 zn,A0 ze]
   | 10=>x=A0 zn
   | 11=>x=A0 ze
   | 12=>x=A0 zn
   | _=>True)
  (by kernel_rfl) (by kernel_rfl) rfl ?_ ?_ ?_ ?_
 ·exact⟨E.o.1,E.o.2.I,(A2.C _ _).I⟩
 ·intro j x w1 w2 hR a5 U;split at U<;>exact U
 ·clear E;simp only[Ei,Eh,DV,Fx]
  repeat' (with_reducible apply And.intro)
  all_goals refine⟨?_,(by intro y J _ _ h;exact Bool.noConfusion h),λy x=>rfl⟩
  all_goals
   intro zz J Z hd hw K hK;obtain⟨I,aF,aA⟩:=Z;simp[Ec,Region.binds,DC,List.filter_cons]at hd;have c0:=I.c0;have c1:=I.c1;have O:Hid (AK J fb T (A4 b) name s1/\AP J b D F Ft/\A2 A7 w1 J):=⟨I,aF,aA⟩;have aI:=A1 hK
  all_goals dsimp only
  all_goals try go_simp
  all_goals try with_reducible exact aI.o _ _ _ rfl (by simp[Act.put,hd]) (A2.C _ _) O.o
  all_goals
   refine(aO.o J O.o.2.1).mono ?_;rintro e w2⟨rfl,rfl⟩;exact aI.o _ _ _ rfl (by simp[Act.put,hd]) (A2.C _ _) O.o
 intro y J Z U;have h11:=U 11 (by omega);have h12:=U 12 (by omega);have c0:=Z.1.c0;have c1:=Z.1.c1;have O:=A1 Z;go_wp2;refine EJ (λw'=>A5 w' fb 0 (A4 b)/\A5 w' fb 1 (.string name)) 9
  (Bj [0,1,2,3,4,5,6,7,8] []) (by kernel_rfl) (by kernel_rfl) (λ_ _ _ _ _ h=>h) ⟨c0,c1⟩ ?_
 iterate 9 (refine DW (v:=?_) rfl (by rfl) ?_ ?_;rotate_left;(· (intro w' Z;(try dsimp only at Z);go_simp;try with_reducible rfl));(try simp only[An]))
 refine Bd ?_;simp only[Dh,Da];have aW:=A1 (a7.o J.drew O.o.2.1.I);go_wp2_with (go_at_call 84;refine aW.m ?_;rintro e w3⟨rfl,hA⟩;have bE:=A1 hA);have aV:=bE.o.cd;obtain⟨aK,d,aU,aT,aS⟩:=aV;have hsz:=O.o.1.lt;have E:Hid (AK w3 fb T (A4 b) name s1/\AP w3 b Y F' d):=⟨O.o.1.Ap aK bC.o,aU⟩;have a1:=A1 aK;have a2:=A1 aT;have a6:=A1 aS;have a3:Hid (∀w',AP w' b Y F' d->_):=λw' h'=>a4.o w' d h';refine EW 13 (λz=>{tmps:=#[A4 fb,.string ⟨l.toArray⟩,undef,undef,.bool false,A0 0,.string ⟨pc.toArray⟩,A0 zn,A0 ze,A0 er,z 12,undef,A4 fb,.string ⟨l.toArray⟩,.string ⟨pc.toArray⟩,y 9,y 0,y 1,y 2,y 3,y 4,y 5,y 6,y 7,y 8,y 10,A0 ze,A4 fb,A4 fb,A4 fb,A4 b,A4 fb,A4 fb,.pointer (some (A8 fb 1)),.string name,.string ⟨pc.toArray⟩,A0 er,z 9,z 0,z 1,z 2,z 3,z 4,z 5,z 6,z 7,z 8,z 10,z 11,undef,undef,undef,undef,undef,undef,undef],defers:=[]}) (λ_=>undef)
  (λw'=>AK w' fb T (A4 b) name s1/\AP w' b Y F' d/\A2 A7 w3 w') (A2 A7)
  (λj x w'=>match j with
   | 0=>x=(A4 fb)
   | 1=>x=(A4 fb)
   | 2=>x=(A4 fb)
   | 3=>x=(A4 b)
   | 4=>x=(A4 fb)
   | 5=>x=(A4 fb)
   | 6=>x=.pointer (some (A8 fb 1))
   | 7=>x=.string name
   | 8=>x=.tuple #[A0 V,A0 ye]
   | 9=>x=.tuple #[A0 V,A0 ye]
   | 10=>x=A0 V
   | 11=>x=A0 ye
   | 12=>x=A0 V
   | _=>True)
  (by kernel_rfl) (by kernel_rfl) rfl ?_ ?_ ?_ ?_
 ·exact⟨E.o.1,E.o.2.I,(A2.C _ _).I⟩
 ·intro j x w1 w2 hR a5 U;split at U<;>exact U
 ·clear E;simp only[Ei,Eh,DV,Fx]
  repeat' (with_reducible apply And.intro)
  all_goals refine⟨?_,(by intro y J _ _ h;exact Bool.noConfusion h),λy x=>rfl⟩
  all_goals
   intro zz J Z hd hw K hK;obtain⟨I,aF,aA⟩:=Z;simp[Ec,Region.binds,DC,List.filter_cons]at hd;have c0:=I.c0;have c1:=I.c1;have O:Hid (AK J fb T (A4 b) name s1/\AP J b Y F' d/\A2 A7 w3 J):=⟨I,aF,aA⟩;have aI:=A1 hK
  all_goals dsimp only
  all_goals try go_simp
  all_goals try with_reducible exact aI.o _ _ _ rfl (by simp[Act.put,hd]) (A2.C _ _) O.o
  all_goals
   refine(a3.o J O.o.2.1).mono ?_;rintro e w2⟨rfl,rfl⟩;exact aI.o _ _ _ rfl (by simp[Act.put,hd]) (A2.C _ _) O.o
 intro z wz hZ U;have z11:=U 11 (by omega);have z12:z 12=A0 V:=U 12 (by omega);have aM:=A1 hZ;have hbe:(V-zn==(l.length:Int)+4)=ok:=by
  rw[<-aX.o,aE,IS];simp
 go_wp2;go_ret2
 exact⟨rfl,aM.o.1,(((aB.o.U (λ_ _ h=>.inr h)).As O.o.2.2 (λ_ h _=>h.elim)).As a1.o (λ_ h _=>.inl h)).As aM.o.2.2 (λ_ h _=>h.elim),
  d,aM.o.2.1,λk hk=>Bc (a2.o k hk) aM.o.2.2.Af,λk hk=>(a6.o k hk).imp id λh=>Az (Az aB.o.Af O.o.2.2.Af) h⟩
end
def AB(name:List UInt8):Nat:=Ay 4294967295 name
def Lets(B:Nat)(w:World):Prop:=
 B<=w.heap.size/\∀w',Below B w w'->(∀k:Nat,1<=k->k<=4->w'.cell? ⟨0,k,none⟩=some (.string ⟨(C6 k).toArray⟩))/\Lib.TabIs Tryz.prog w' "internal/strconv.uint64pow10" .u64 Lib.pow10Tab
def Lets.Ap{B:Nat}{w w':World}{S:Nat->Prop}(h:Lets B w)(d:A2 S w w')(z:∀k,S k->B<=k):Lets B w':=
 ⟨Az h.1 d.Af,λE y=>h.2 E ((d.cr h.1 λk hk H=>by have:=z k H;omega).trans y)⟩
def Lets.ao{B:Nat}{w w':World}(h:Lets B w)(d:A2 A7 w w'):Lets B w':=h.Ap d λ_ h=>h.elim
def M5(s:Int):(C6 s).length<=1:=by
 unfold C6;split
 ·simp
 ·split
  ·simp
  ·split
   ·simp
   ·split<;>simp
def Qu(lt:List UInt8)(n:Int):(D0 lt n).length=lt.length+(19-(Lib.itoa n).length)+(Lib.itoa n).length:=by
 unfold D0;have:=Tz [48] (19-(Lib.itoa n).length);simp only[B2,this];simp
def LK{s n:Int}(h:(Lib.itoa n).length<=19):(B9 s n).length<=100:=by
 have h1:=M5 s;unfold B9;split
 ·rw[Qu];omega
 ·omega
def I5{B:Nat}{n:Int}(w:World)(k:Nat)(d:1<=k/\k<=4)(hn : -9223372036854775808<=n/\n<=9223372036854775807)(z:(Lib.itoa n).length<=19)(I:Lets B w):
 Calls Tryz.prog 134 #[.int .i64 k,.int .i64 n] w λe w'=>e=.returned (.string ⟨(B9 k n).toArray⟩)/\A2 (λ_=>False) w w':=by
 obtain⟨H,E⟩:=I.2 w (IT _ _);have y:=H k d.1 d.2;by_cases h:k=1\/k=2
 ·have e:B9 k n=D0 (C6 k) n:=by unfold B9;rw[Am (by omega)]
  rw[e];exact Qt w k k ⟨rfl,h⟩ (C6 k) n hn (by have:=M5 k;omega) z y E
 ·have e:B9 k n=C6 k:=by unfold B9;rw[Ad (by omega)]
  rw[e];refine(M1 w k (by omega) (C6 k) n y).mono ?_;rintro e w'⟨rfl,rfl⟩;exact⟨rfl,A2.C _ _⟩
def By(n:Int):Prop:=0<=n/\n<=9223372036854775807/\(Lib.itoa n).length<=19
section
variable {B:Nat} {n:Int} {p:Value}
def JL(w:World)(y k:Nat)(hk:1<=k/\k<=4)(hn:By n)(hL:Lets B w):
 Ac 125 #[A4 y,A0 k,A0 n] w (Ak (.agg #[A4 y,.string ⟨(B9 k n).toArray⟩,.int .u32 (AB (B9 k n))]) λw'=>A2 A7 w w'):=by
 obtain⟨hn1,V,W⟩:=hn;have aA:∀w',A2 A7 w w'->_:=λw' hc=>I5 (n:=n) w' k hk ⟨by omega,V⟩ W (hL.ao hc);have E:(B9 k n).length<=9223372036854775807:=by
  have:=LK (s:=k) W;omega
 generalize hnm:B9 k n=nm at aA E ⊢;have aB:∀w',_:=λw'=>N2 w' 4294967295 nm (by omega) E;obtain⟨s0,z⟩:∃s0,AB nm=s0:=⟨_,rfl⟩;have L:∀w',Ac 165 #[.int .u32 4294967295,.string ⟨nm.toArray⟩] w' λe U=>e=.returned (.int .u32 s0)/\w'=U:=by rw[<-z];exact aB
 rw[z];have J:=A1 aA;have O:=A1 L
 go_enter func125,ntmps125
 go_wp2_with (fail);refine(J.o _ ((A2.C _ _).ae _)).mono ?_;rintro e d⟨rfl,I⟩;have h:d.heap[w.heap.size]?=some (.cells #[.pointer none,.string ⟨#[]⟩,.int .u32 0] 160 (0,0)):=I.Ap (by show (w.heap.push _)[w.heap.size]?=_;rw[FW]) (by simp);have c0:A5 d w.heap.size 0 (.pointer none):=by simp[A5,World.cell?,h]
 have c1:A5 d w.heap.size 1 (.string ⟨#[]⟩):=by simp[A5,World.cell?,h]
 have c2:A5 d w.heap.size 2 (.int .u32 0):=by simp[A5,World.cell?,h]
 have f0:d.frozen? (A8 w.heap.size 0)=false:=by simp[World.frozen?,h]
 have f1:d.frozen? (A8 w.heap.size 1)=false:=by simp[World.frozen?,h]
 have f2:d.frozen? (A8 w.heap.size 2)=false:=by simp[World.frozen?,h]
 have H:=Ca (o:=2) (v:=.int .u32 s0) (Ca (o:=1) (v:=.string ⟨nm.toArray⟩) (Ca (o:=0) (v:=(A4 y)) h));have k1:A2 A7 w d:=((A2.C A7 w).ae _).tr I;have k3:A2 A7 w (((d.setCell (A8 w.heap.size 0) (A4 y)).setCell (A8 w.heap.size 1) (.string ⟨nm.toArray⟩)).setCell (A8 w.heap.size 2) (.int .u32 s0)):=((k1.a1 (by simp) _).a1 (by simp) _).a1 (by simp) _;have Y:=A1 H;have Z:=A1 k3;go_wp2_with (go_at_call 165;refine(O.o _).mono ?_;rintro e w'⟨rfl,rfl⟩);generalize (((d.setCell (A8 w.heap.size 0) (A4 y)).setCell (A8 w.heap.size 1) (.string ⟨nm.toArray⟩)).setCell (A8 w.heap.size 2) (.int .u32 s0))=w3 at Y Z ⊢;have H:=Y.o;have r0:A5 w3 w.heap.size 0 (A4 y):=by simp[A5,World.cell?,H]
 have r1:A5 w3 w.heap.size 1 (.string ⟨nm.toArray⟩):=by simp[A5,World.cell?,H]
 have r2:A5 w3 w.heap.size 2 (.int .u32 s0):=by simp[A5,World.cell?,H]
 refine MV (v:=.agg #[A4 y,.string ⟨nm.toArray⟩,.int .u32 s0]) (by simp[results,Tryz.results125,go_sem,r0,r1,r2]) rfl ?_;exact⟨rfl,Z.o⟩
def Mb(w:World)(y:Nat)(J:By n)(I:Lets B w):
 Ac 192 #[A4 y,A0 n] w λe w'=>∃z,e=.returned (A4 z)/\AK w' z 237 (A4 y) ⟨(B9 1 n).toArray⟩ (AB (B9 1 n))/\A2 A7 w w'/\w.heap.size<=z:=by
 have d:=A1 (JL w y 1 (by omega) J I);rw[show ((1:Nat):Int)=1 from rfl]at d;generalize hnm:B9 1 n=nm at d ⊢;generalize hs0:AB nm=s0 at d ⊢
 go_enter func192,ntmps192
 go_wp2_with (go_at_call 125;refine d.m ?_;rintro e h⟨rfl,H⟩;have E:=A1 H);go_ret;exact⟨h.heap.size,rfl,(by show (h.heap.push _)[h.heap.size]?=_;rw[FW]),E.o.ae _,E.o.Af⟩
def Bh(w:World)(xb:Nat)(T:TypeId)(b:Nat)(name:List UInt8)(s:Nat)(n:Int)(v:Value):Prop:=w.heap[xb]?=some (.cells #[.pointer (some ⟨b,0,none⟩),.string ⟨name.toArray⟩,.int .u32 s,.int .i64 n,v] T (0,0))
section
variable {w w':World} {xb:Nat} {T:TypeId} {b:Nat} {name:List UInt8} {s:Nat} {v:Value}
def Bh.c0(h:Bh w xb T b name s n v):A5 w xb 0 (A4 b):=by unfold Bh at h;simp[A5,World.cell?,h]
def Bh.c1(h:Bh w xb T b name s n v):A5 w xb 1 (.string ⟨name.toArray⟩):=by unfold Bh at h;simp[A5,World.cell?,h]
def Bh.c2(h:Bh w xb T b name s n v):A5 w xb 2 (.int .u32 s):=by unfold Bh at h;simp[A5,World.cell?,h]
def Bh.c3(h:Bh w xb T b name s n v):A5 w xb 3 (A0 n):=by unfold Bh at h;simp[A5,World.cell?,h]
def Bh.c4(h:Bh w xb T b name s n v):A5 w xb 4 v:=by unfold Bh at h;simp[A5,World.cell?,h]
def Bh.fz(h:Bh w xb T b name s n v)(o:Nat):w.frozen? (A8 xb o)=false:=by unfold Bh at h;simp[World.frozen?,h]
def Bh.lt(h:Bh w xb T b name s n v):xb<w.heap.size:=CD h
def Bh.s3(h:Bh w xb T b name s n v)(x:Int):Bh (w.setCell (A8 xb 3) (A0 x)) xb T b name s x v:=Ca h
def Bh.s4(h:Bh w xb T b name s n v)(x:Value):Bh (w.setCell (A8 xb 4) x) xb T b name s n x:=Ca h
def Bh.I(h:Bh w xb T b name s n v):Bh w.drew xb T b name s n v:=by unfold Bh at h ⊢;exact h
def Bh.Ap{S:Nat->Prop}(h:Bh w xb T b name s n v)(d:A2 S w w')(y:¬S xb):Bh w' xb T b name s n v:=d.Ap h y
end
def L4(w:World)(y:Nat)(J:By n)(I:Lets B w):
 Ac 175 #[A4 y,A0 n] w λe w'=>∃z,e=.returned (A4 z)/\Bh w' z 182 y (B9 2 n) (AB (B9 2 n)) n (.slice none 0 0)/\A2 A7 w w'/\w.heap.size<=z:=by
 have d:=A1 (JL w y 2 (by omega) J I);rw[show ((2:Nat):Int)=2 from rfl]at d;generalize hnm:B9 2 n=nm at d ⊢;generalize hs0:AB nm=s0 at d ⊢
 go_enter func175,ntmps175
 go_wp2_with (go_at_call 125;refine d.m ?_;rintro e h⟨rfl,H⟩;have E:=A1 H);go_ret;exact⟨h.heap.size,rfl,(by show (h.heap.push _)[h.heap.size]?=_;rw[FW]),E.o.ae _,E.o.Af⟩
end
def DM.aN{w y w':World}{b:Nat}{D:DS}{F:Nat->FC}{Ft:Nat->Prop}(h:DM y Ft w' b D F)(z:A2 A7 w y):DM w Ft w' b D F:=by
 obtain⟨J,d,H,L,I⟩:=h;exact⟨(z.U λ_ _ h=>h.elim).tr J,d,H,L,λk E=>(I k E).imp id λh=>Az z.Af h⟩
section
variable {B b:Nat} {D:DS} {F:Nat->FC} {Ft:Nat->Prop} {n:Int}
def GZ.aN{w y w':World}{z:Nat}(h:GZ y Ft z w' b D F)(E:A2 A7 w y):GZ w Ft z w' b D F:=by
 obtain⟨L,d,I,O,J⟩:=h;exact⟨(E.U λ_ _ h=>h.elim).tr L,d,I,O,λk H=>(J k H).imp id λh=>Az E.Af h⟩
def T2(w:World)(E:Nat)(name:ByteArray)(s:Nat)(d t v:Int)(aB:0<=d/\d<256)(ht : -9223372036854775808<=t/\t<=9223372036854775807)(hv : -9223372036854775808<=v/\v<=9223372036854775807)(U:AK w E 237 (A4 b) name s)(hs:s<4294967296)(h:AP w b D F Ft)(z:∀k,Ft k->k<w.heap.size)(hn:¬Ft E)(hroom : -4611686018427387904<=D.n.Bl/\D.n.Bl<=9223372036854775807)(hu:AT F D.A3<=4611686018427387904)(hp:0<=D.n.BY/\D.n.BY<=9223372036854775807)(hl:∀f,lookup D.A3 name=some f->(F f).1.length+21<=70368744177664)(hz:(BV (B6 D F name ⟨(AW d t v++Bm (Ay s (AW d t v))).toArray⟩).2.1 (B6 D F name ⟨(AW d t v++Bm (Ay s (AW d t v))).toArray⟩).2.2 name).1<=70368744177664/\(BV D F name).1<=70368744177664):
 Ac 191 #[A4 E,.agg #[A0 d,A0 t,A0 v]] w (Ak (.tuple #[.bool (FN D F name (AW d t v++Bm (Ay s (AW d t v)))),A0 (B6 D F name ⟨(AW d t v++Bm (Ay s (AW d t v))).toArray⟩).1]) λw'=>
  AK w' E 237 (A4 b) name (Ay s (AW d t v))/\GZ w Ft E w' b (B6 D F name ⟨(AW d t v++Bm (Ay s (AW d t v))).toArray⟩).2.1 (B6 D F name ⟨(AW d t v++Bm (Ay s (AW d t v))).toArray⟩).2.2):=by
 have aK:∀w',_:=λw'=>Lu w' d t v aB ht hv;have W:(AW d t v).length=17:=by simp[AW,CO]
 generalize hle:AW d t v=l at aK W hz ⊢;have AD:∀w',A2 A7 w w'->_:=λw' hc=>addF (U.Ap hc (by simp)) hs (h.au z hc) (λk hk=>Bc (z k hk) hc.Af) hn l hroom hu hp (λf U=>by have:=hl f U;omega) (by omega) hz;obtain⟨ok,aH⟩:∃ok,FN D F name (l++Bm (Ay s l))=ok:=⟨_,rfl⟩;obtain⟨er,aA⟩:∃er,(B6 D F name ⟨(l++Bm (Ay s l)).toArray⟩).1=er:=⟨_,rfl⟩;rw[aH,aA]at AD ⊢;have hlb:=U.lt;have aE:=A1 aK;have aF:=A1 AD;have V:=A1 z
 go_enter func191,ntmps191
 go_wp2;have hb:(w.alloc (.cells #[A0 d,A0 t,A0 v] 113)).heap[w.heap.size]?=some (.cells #[A0 d,A0 t,A0 v] 113 (0,0)):=by show (w.heap.push _)[w.heap.size]?=_;rw[FW]
 have p0:(w.alloc (.cells #[A0 d,A0 t,A0 v] 113)).drew.cell? (A8 w.heap.size 0)=some (A0 d):=by show (w.alloc _).cell? _=_;simp only[World.cell?,hb];rfl
 have p1:(w.alloc (.cells #[A0 d,A0 t,A0 v] 113)).drew.cell? (A8 w.heap.size 1)=some (A0 t):=by show (w.alloc _).cell? _=_;simp only[World.cell?,hb];rfl
 have Z:(w.alloc (.cells #[A0 d,A0 t,A0 v] 113)).drew.cell? (A8 w.heap.size 2)=some (A0 v):=by show (w.alloc _).cell? _=_;simp only[World.cell?,hb];rfl
 have J:Hid (A2 A7 w (w.alloc (.cells #[A0 d,A0 t,A0 v] 113)).drew):=((A2.C _ w).ae _).I;refine EJ (λw'=>w'.cell? (A8 w.heap.size 0)=some (A0 d)/\w'.cell? (A8 w.heap.size 1)=some (A0 t)/\w'.cell? (A8 w.heap.size 2)=some (A0 v)) 8
  (Bj [0,1,2,3,4,5,6,7] [4,5]) (by kernel_rfl) (by kernel_rfl) (λ_ _ _ _ _ h=>h) ⟨p0,p1,Z⟩ ?_
 generalize (w.alloc (.cells #[A0 d,A0 t,A0 v] 113)).drew=w1 at p0 p1 Z J ⊢
 iterate 4 (refine DW (v:=?_) rfl (by rfl) ?_ ?_;rotate_left;(· (intro w' L;(try dsimp only at L);go_simp;try with_reducible rfl));(try simp only[An]))
 refine Em rfl (by rfl) (λK hK=>?_);go_simp;refine(aE.o w1).mono ?_;rintro e O⟨rfl,y⟩;have q0:=y.af p0;have q1:=y.af p1;have q2:=y.af Z;refine hK _ _ ⟨q0,q1,q2⟩ (λL=>?_);have I:Hid (A2 A7 w O):=J.o.tr y
 (try simp only[An])
 refine Em rfl (by rfl) (λK hK=>?_);go_simp;refine(aF.o O I.o).mono ?_;rintro e w3⟨rfl,aJ,H⟩;have k3:=H.1;have aI:¬((λk=>Ft k\/k=E) w.heap.size):=by
  rintro (h|h)
  ·have:=V.o _ h;omega
  ·omega
 have kc:∀o u,O.cell? (A8 w.heap.size o)=some u->w3.cell? (A8 w.heap.size o)=some u:=by
  intro o u hu;have aG:w.heap.size<O.heap.size:=by
   rcases Eg w.heap.size O.heap.size with h|h
   ·exact h
   ·unfold World.cell? at hu;rw[IU h]at hu;simp at hu
  unfold World.cell? at hu ⊢;rw[k3.Ao _ aG aI];exact hu
 refine hK _ _ ⟨kc 0 _ q0,kc 1 _ q1,kc 2 _ q2⟩ (λL=>?_);have aD:=A1 aJ;have Y:=A1 (H.aN I.o)
 (try simp only[An])
 iterate 2 (refine DW (v:=?_) rfl (by rfl) ?_ ?_;rotate_left;(· (intro w' L;(try dsimp only at L);go_simp;try with_reducible rfl));(try simp only[An]))
 refine Bd ?_;simp only[Dh,Da];go_wp2;go_ret2;exact⟨rfl,aD.o,Y.o⟩
end
section
variable {B b:Nat} {D:DS} {F:Nat->FC} {Ft:Nat->Prop} {n:Int}
def Hk(nm:List UInt8)(ahead:Int):List UInt8:=AG ahead++Bm (Ay (AB nm) (AG ahead))
def Gr(nm:List UInt8):AB nm<4294967296:=Gn _ _ (by omega)
def Qm(w:World)(ahead:Int)(k:Nat)(y aN:DS)(I aL:Nat->FC)(e1 e2:Int)(h:AP w b D F Ft)(W:∀k,Ft k->k<w.heap.size)(hn:By n)(hL:Lets B w)(ha : -9223372036854775808<=ahead/\ahead<=9223372036854775807)(hk:¬D.AM k)(hs:D.A3.length<1099511627776/\D.AI.length<1099511627776)(h1:Ck D ⟨(B9 1 n).toArray⟩ k=(e1,y))(a7:upd F k ([],0)=I)(h2:B6 y I ⟨(B9 1 n).toArray⟩ ⟨(Hk (B9 1 n) ahead).toArray⟩=(e2,aN,aL))(hroom : -4611686018427387904<=y.n.Bl/\y.n.Bl<=9223372036854775807)(hu:AT I y.A3<=4611686018427387904)(hp:0<=y.n.BY/\y.n.BY<=9223372036854775807)(hl:∀f,lookup y.A3 ⟨(B9 1 n).toArray⟩=some f->(I f).1.length+12<=70368744177664)(hz:(BV aN aL ⟨(B9 1 n).toArray⟩).1<=70368744177664/\(BV y I ⟨(B9 1 n).toArray⟩).1<=70368744177664):
 Ac 236 #[A4 b,A0 n,A0 ahead] w λe w'=>
  (e1≠0/\e=.returned (.tuple #[.pointer none,A0 e1])/\DM w Ft w' b y I)\/
  (e1=0/\e2≠0/\e=.returned (.tuple #[.pointer none,A0 e2])/\DM w Ft w' b aN aL)\/
  (e1=0/\e2=0/\∃d,e=.returned (.tuple #[A4 d,A0 0])/\w.heap.size<=d/\AK w' d 237 (A4 b) ⟨(B9 1 n).toArray⟩ (Ay (AB (B9 1 n)) (AG ahead))/\
   A2 Ft w w'/\∃J,AP w' b aN aL J/\(∀k,J k->k<w'.heap.size)/\(∀k,J k->Ft k\/w.heap.size<=k)/\¬J d):=by
 have bD:=A1 (Mb w b hn hL);have aG:=Gr (B9 1 n);generalize hnm:B9 1 n=nm at bD aG h1 h2 hl hz ⊢;have bG:∀w' d,A2 A7 w w'->AK w' d 237 (A4 b) ⟨nm.toArray⟩ (AB nm)->_:=λw' d hc hf=>ML hf (h.au W hc) k hk hs;rw[h1,a7]at bG;have AD:∀w' d U,AK w' d 237 (A4 b) ⟨nm.toArray⟩ (AB nm)->AP w' b y I U->(∀k,U k->k<w'.heap.size)->¬U d->_:=
  λw' d U hf hr aF aU=>addF hf aG hr aF aU (AG ahead) hroom hu hp (λf hf=>by have:=hl f hf;rw[CO];exact this) (by rw[CO];omega) (by
   show (BV (B6 y I _ ⟨(Hk nm ahead).toArray⟩).2.1 (B6 y I _ ⟨(Hk nm ahead).toArray⟩).2.2 _).1<=_/\_
   rw[h2];exact hz)
 have e0:AG ahead++Bm (Ay (AB nm) (AG ahead))=Hk nm ahead:=rfl;rw[e0,h2]at AD;have bJ:∀w',_:=λw'=>Hj w' ahead ha;generalize hle:AG ahead=l at AD bJ ⊢;generalize hok:FN y I ⟨nm.toArray⟩ (Hk nm ahead)=ok at AD;dsimp only at bG AD;have aS:=A1 bG;have bE:=A1 AD;have aY:=A1 bJ;have aX:=A1 W;rcases Decidable.em (e1=0) with V|V
 ·subst V
  go_enter func236,ntmps236
  go_wp2_with (first
   | (go_at_call 192;refine bD.m ?_;rintro e w1⟨d,rfl,hb,hc,Z⟩;have aO:=A1 hb;have aP:=A1 hc;have O:=A1 Z)
   | (go_at_call 240;refine(aS.o _ _ aP.o aO.o).mono ?_;rintro e w2⟨rfl,hA⟩;have aV:=A1 hA))
  obtain⟨Y,aI,aT,a6,aK⟩:=aV.o;have bI:=aO.o.lt;have aD:¬Ft d:=λh=>by have:=aX.o d h;have:=O.o;omega
  have aB:¬aI d:=λh=>by rcases aK d h with h|h;exact aD h;omega
  have a0:=aO.o.Ap Y aD;have aJ:=Y.Af;refine EJ (λ_=>True) 10
   (Bj [0,1,2,3,4,5,6,7,8,9] [4,5]) (by kernel_rfl) (by kernel_rfl) (λ_ _ _ _ _ h=>h) trivial ?_
  have a1:=A1 a0;have aZ:=A1 aT;have aM:=A1 a6;have aQ:=A1 aK;have a8:=A1 Y;have aE:=A1 aB;have aW:=A1 bI;have bA:=A1 aJ
  iterate 4 (refine DW (v:=?_) rfl (by rfl) ?_ ?_;rotate_left;(· (intro w' hS;(try dsimp only at hS);go_simp;try with_reducible rfl));(try simp only[An]))
  refine Em rfl (by rfl) (λK hK=>?_);go_simp;refine(aY.o w2.drew).mono ?_;rintro e w3⟨rfl,H⟩;refine hK _ _ trivial (λhS=>?_);have aR:A2 A7 w2 w3:=⟨H.os,H.E5,H.E9,H.Af,H.Ao⟩;have E:=A1 aR
  (try simp only[An])
  refine Em rfl (by rfl) (λK hK=>?_);go_simp;refine(bE.o w3 d aI (a1.o.Ap E.o (by simp)) (aZ.o.au aM.o E.o) (λk hk=>Bc (aM.o k hk) E.o.Af) aE.o).mono ?_;rintro e w4⟨rfl,bH,bF,z,bC,a9,aH⟩;refine hK _ _ trivial (λhS=>?_);have bB:=A1 bH;have L:Hid (A2 Ft w w4/\AP w4 b aN aL z/\(∀k,z k->k<w4.heap.size)/\(∀k,z k->Ft k\/w.heap.size<=k)/\¬z d):=by
   have a2:=bA.o;have a3:=E.o.Af;have a4:=aW.o;have a5:=O.o;refine⟨((((aP.o.U λ_ _ h=>h.elim).tr a8.o).As E.o (λ_ h _=>h.elim)).As bF (λx hx W=>?_)),bC,a9,λk hk=>?_,λhx=>?_⟩
   ·rcases hx with hx|rfl
    ·exact(aQ.o x hx).resolve_right (by omega)
    ·omega
   ·rcases aH k hk with h|h
    ·exact(aQ.o k h).imp id (λh=>by omega)
    ·exact .inr (by omega)
   ·rcases aH d hx with h|h
    ·exact aE.o h
    ·omega
  (try simp only[An])
  iterate 4 (refine DW (v:=?_) rfl (by rfl) ?_ ?_;rotate_left;(· (intro w' hS;(try dsimp only at hS);go_simp;try with_reducible rfl));(try simp only[An]))
  refine Bd ?_;simp only[Dh,Da];rcases Decidable.em (e2=0) with aA|aA
  ·subst aA;go_wp2;go_ret2;exact⟨d,rfl,O.o,bB.o,L.o.1,z,L.o.2.1,L.o.2.2.1,L.o.2.2.2.1,L.o.2.2.2.2⟩
  ·go_wp2;go_ret2;exact .inr (.inl ⟨trivial,aA,rfl,L.o.1,z,L.o.2.1,L.o.2.2.1,L.o.2.2.2.1⟩)
 ·go_enter func236,ntmps236
  go_wp2_with (first
   | (go_at_call 192;refine bD.m ?_;rintro e w1⟨d,rfl,hb,hc,Z⟩;have aO:=A1 hb;have aP:=A1 hc;have O:=A1 Z)
   | (go_at_call 240;refine(aS.o _ _ aP.o aO.o).mono ?_;rintro e w2⟨rfl,hA⟩;have aV:=A1 hA))
  go_ret2;exact .inl ⟨V,rfl,aV.o.aN aP.o⟩
end
end
section
open Go.RowKit
attribute [local go_sem ↓] Go.wp_at_zero Go.wp_at_succ
def CN:Nat->Nat->List UInt8->List Pu×Bool
 | 0,_,_=>([],true)
 | k+1,s,l=>if l.length<21 then ([],true) else
  if Bm (Ay s (l.take 17))=(l.drop 17).take 4/\(l.headD 0).toNat<8 then
   ((((l.headD 0).toNat:Int),B1 (l.drop 1),B1 (l.drop 9)):: (CN k (Ay s (l.take 17)) (l.drop 21)).1,(CN k (Ay s (l.take 17)) (l.drop 21)).2)
  else ([],false)
def Ll{k s:Nat}{l:List UInt8}(h:l.length<21):CN k s l=([],true):=by cases k<;>simp[CN,h]
def Lo{k s:Nat}{b:UInt8}{d t r:List UInt8}(y:d.length=16)(z:t.length=4)(h:Bm (Ay s (b::d))=t)(L:b.toNat<8):
 CN (k+1) s (b::d++t++r)=(((b.toNat:Int),B1 d,B1 (d.drop 8)):: (CN k (Ay s (b::d)) r).1,(CN k (Ay s (b::d)) r).2):=by
 have H:(b::d++t++r).take 17=b::d:=by simp[y]
 have O:((b::d++t++r).drop 17).take 4=t:=by simp[y,z]
 have I:(b::d++t++r).drop 21=r:=by
  rw[Kk,Gk (by simp[y,z])];simp[y,z]
 have J:B1 ((b::d++t++r).drop 1)=B1 d:=by
  have e:(b::d++t++r).drop 1=d++(t++r):=by simp
  unfold B1;rw[e,GU (by omega)]
 have E:B1 ((b::d++t++r).drop 9)=B1 (d.drop 8):=by
  have e:(b::d++t++r).drop 9=d.drop 8++(t++r):=by
   simp only[Fc,CQ,Dh];rw[Tt (by omega)]
  unfold B1;rw[e,GU (by simp;omega)]
 simp only[CN,H,O,I,J,E];rw[Ad (by simp[y,z];omega),Am (by simpa using⟨h,L⟩)];rfl
def Pv{k s:Nat}{b:UInt8}{d t r:List UInt8}(y:d.length=16)(z:t.length=4)(h:¬(Bm (Ay s (b::d))=t/\b.toNat<8)):
 CN (k+1) s (b::d++t++r)=([],false):=by
 have E:(b::d++t++r).take 17=b::d:=by simp[y]
 have H:((b::d++t++r).drop 17).take 4=t:=by simp[y,z]
 simp only[CN,E,H];rw[Ad (by simp[y,z];omega),Ad (by simpa using h)]
def Qy{l:List UInt8}(h:21<=l.length):∃(b:UInt8) (d t r:List UInt8),l=b::d++t++r/\d.length=16/\t.length=4:=by
 cases l with
 | nil=>simp at h
 | cons b l=>
  simp at h;refine⟨b,l.take 16,(l.drop 16).take 4,l.drop 20,?_,by simp;omega,by simp;omega⟩;simp only[Fc,CQ,List.cons.injEq,true_and];rw[show l.drop 20=(l.drop 16).drop 4 by simp,EG,EG]
def RC{l:List UInt8}(h:12<=l.length):∃(d t r:List UInt8),l=d++t++r/\d.length=8/\t.length=4:=by
 refine⟨l.take 8,(l.drop 8).take 4,l.drop 12,?_,by simp;omega,by simp;omega⟩;rw[CQ,show l.drop 12=(l.drop 8).drop 4 by simp,EG,EG]
def FD(s:Nat)(ahead:Int)(l:List UInt8):List Pu×Int:=
 if l.length<12 then ([],0) else
 if Bm (Ay s (l.take 8))=(l.drop 8).take 4/\B1 l=ahead then
  (if (CN l.length (Ay s (l.take 8)) (l.drop 12)).2=true then ((CN l.length (Ay s (l.take 8)) (l.drop 12)).1,0) else ([],7))
 else ([],7)
def Lp{s:Nat}{ahead:Int}{d t r:List UInt8}(h:d.length=8)(y:t.length=4):
 FD s ahead (d++t++r)=if Bm (Ay s d)=t/\B1 d=ahead then (if (CN (r.length+12) (Ay s d) r).2=true then ((CN (r.length+12) (Ay s d) r).1,0) else ([],7)) else ([],7):=by
 have E:(d++t++r).take 8=d:=by simp[h]
 have J:((d++t++r).drop 8).take 4=t:=by simp[h,y]
 have H:(d++t++r).drop 12=r:=by
  rw[Kk,Gk (by simp[h,y])];simp[h,y]
 have I:B1 (d++t++r)=B1 d:=by unfold B1;rw[CQ,GU (by omega)]
 have z:(d++t++r).length=r.length+12:=by simp[h,y];omega
 unfold FD;rw[Ad (by simp[h,y];omega),E,J,H,I,z]
def AO(w:World)(v:Value)(l:List Pu):Prop:=w.ownsRow 0 113 3 v l.length (Bv l)
def FK:(Tryz.prog.info? 113).map (λi=>(i.zero,i.size,i.bytes))=some (some (.agg #[A0 0,A0 0,A0 0]),3,24):=by kernel_rfl
section
variable {w:World} {b B:Nat} {D:DS} {F:Nat->FC} {Ft:Nat->Prop} {n:Int}
def Fk(D:DS)(F:Nat->FC)(nm:List UInt8)(ahead:Int):List Pu×Int:=
 if (D6 D F ⟨nm.toArray⟩).2≠0 then ([],(D6 D F ⟨nm.toArray⟩).2) else FD (AB nm) ahead (D6 D F ⟨nm.toArray⟩).1
def Py(w:World)(ahead:Int)(h:AP w b D F Ft)(aG:∀k,Ft k->k<w.heap.size)(hn:By n)(hL:Lets B w)(aF:(D6 D F ⟨(B9 1 n).toArray⟩).1.length<=70368744177664):
 Ac 149 #[A4 b,A0 n,A0 ahead] w λe w'=>∃v,e=.returned (.tuple #[v,A0 (Fk D F (B9 1 n) ahead).2])/\AO w' v (Fk D F (B9 1 n) ahead).1/\(∀g,v.ownBlock=some g->w.heap.size<=g)/\A2 A7 w w':=by
 have cD:=A1 (Mb w b hn hL);generalize hnm:B9 1 n=nm at cD aF ⊢;have aR:Hid (AB nm<4294967296):=Gr nm;have H:=A1 h;have bY:=A1 aG;obtain⟨R,hR⟩:∃R,Fk D F nm ahead=R:=⟨_,rfl⟩;rw[hR];unfold Fk at hR;obtain⟨al,aP⟩:∃al,(D6 D F ⟨nm.toArray⟩).1=al:=⟨_,rfl⟩;obtain⟨ae,bM⟩:∃ae,(D6 D F ⟨nm.toArray⟩).2=ae:=⟨_,rfl⟩
 have cN:Hid (∀w1 lb,A2 A7 w w1->AK w1 lb 237 (A4 b) ⟨nm.toArray⟩ (AB nm)->
  Ac 166 #[A4 lb] w1 (Ak (.tuple #[.string ⟨al.toArray⟩,A0 ae]) λw'=>A2 A7 w1 w')):=λw1 lb k1 hf=>by
  have:=N1 hf (H.o.au bY.o k1)
  rwa [aP,bM]at this
 rw[aP,bM]at hR;rw[aP]at aF;generalize hs:AB nm=s0 at cD aR hR cN;have cH:=A1 hR;obtain⟨i0,hi,bZ,cF,b9⟩:=Dr FK
 go_enter func149,ntmps149
 go_wp2_with (go_at_call 192;refine cD.m ?_;rintro e w1⟨lb,rfl,bO,a9,cJ⟩;have cA:=A1 (cN.o w1 lb a9 bO);have bW:=A1 bO;have b0:=A1 a9;have a4:=A1 cJ);refine cA.m ?_;rintro e w2⟨rfl,bA⟩;have cI:=A1 (bW.o.Ap bA (λh=>h));have aU:Hid (A2 A7 w w2):=b0.o.tr bA;have V:Hid (∀x:Int,R=([],x)->∀w3,A2 A7 w w3->∃v,(Ending.returned (.tuple #[.slice none 0 0,A0 x]):Ending)=.returned (.tuple #[v,A0 R.2])/\AO w3 v R.1/\(∀g,v.ownBlock=some g->w.heap.size<=g)/\A2 A7 w w3):=λx hx w3 h3=>by
  subst hx;exact⟨_,rfl,BW _ _ _ _,λg hg=>by simp[Value.ownBlock]at hg,h3⟩
 by_cases he:ae=0
 case neg=>
  have I:R=([],ae):=by rw[<-cH.o,Am he]
  go_wp2;go_ret2;exact V.o _ I _ aU.o
 case pos=>
 subst he;have z:(ByteArray.mk al.toArray).size=al.length:=by show al.toArray.size=_;simp
 by_cases aV:al.length<12
 case pos=>
  have I:R=([],0):=by rw[<-cH.o,Ad (by simp)];unfold FD;rw[Am aV]
  go_wp2;go_ret2;exact V.o _ I _ aU.o
 case neg=>
 obtain⟨hd,t4,r,rfl,aA,y⟩:=RC (l:=al) (by omega);have cL:R=if Bm (Ay s0 hd)=t4/\B1 hd=ahead then (if (CN (r.length+12) (Ay s0 hd) r).2=true then ((CN (r.length+12) (Ay s0 hd) r).1,0) else ([],7)) else ([],7):=by
  rw[<-cH.o,Ad (by simp),Lp aA y]
 have aE:=A1 cL;have bR:=A1 (J0 w2.drew lb 237 _ _ s0 hd t4 cI.o aR.o y (by omega));have e1:(ByteArray.mk (hd++t4++r).toArray).extract 0 12=⟨(hd++t4).toArray⟩:=by
  rw[extract_mk,Da,GU (by simp[aA,y]),EF (by simp[aA,y])]
 obtain⟨tx,a2⟩:∃tx,ByteArray.mk (hd++t4++r).toArray=tx:=⟨_,rfl⟩;have bB:tx.extract 12 (r.length+12)=⟨r.toArray⟩:=by
  rw[<-a2,extract_mk]
  congr 2
  rw[Kk,Gk (by simp[aA,y]),Ej,show 12-(hd++t4).length=0 by simp[aA,y],Da,EF (by omega)]
 have aN:(hd++t4++r).length=r.length+12:=by simp[aA,y];omega
 rw[a2]at e1 z ⊢;rw[aN]at z aF aV;have bK:(0:Int)<=(r.length:Int):=EU _;generalize b5:r.length=rl at z aF aV bB bK;have aQ:=A1 b5;go_wp2;refine BH (λ_=>True) 10
  (Bj [0,1,2,3,4,5,6,7,8,9] [5]) trivial ?_
 iterate 5 (refine B5 ?_;(try simp only[An]))
 refine B7 λK hK=>?_;go_simp;refine bR.m ?_;rintro e w3⟨rfl,b2,b6⟩;refine hK _ _ trivial (λhS=>?_);have a0:=A1 b2;have aD:Hid (A2 A7 w w3):=aU.o.I.As b6 λk hk aG=>by cases hk;have:=a4.o;omega
 (try simp only[An])
 iterate 4 (refine B5 ?_;(try simp only[An]))
 refine Bd ?_;simp only[BD,BC];by_cases U:Bm (Ay s0 hd)=t4
 case neg=>
  have I:R=([],7):=by rw[aE.o,Ad (λh=>U h.1)]
  have aM:decide (Bm (Ay s0 hd)=t4)=false:=Cj U;go_wp2;go_ret2;exact V.o _ I _ aD.o
 case pos=>
 have aM:decide (Bm (Ay s0 hd)=t4)=true:=Cc U;have aS:=A1 (Ic w3 hd (by omega));have cE:Hid (-9223372036854775808<=B1 hd/\B1 hd<=9223372036854775807):=by unfold Hid B1 wrap64;omega
 generalize hih2:B1 hd=ih at aS aE cE;obtain⟨s1,bH⟩:∃s1,Ay s0 hd=s1:=⟨_,rfl⟩;have a7:Hid (s1<4294967296):=by rw[<-bH];exact Gn _ _ aR.o
 rw[bH]at aE a0 aM U ⊢;have bU:=A1 U;rw[aM];by_cases Z:ih=ahead
 case neg=>
  have I:R=([],7):=by rw[aE.o,Ad (λh=>Z h.2)]
  have bE:(ih !=ahead)=true:=by simpa using Z
  go_wp2_with (go_at_call 168;refine aS.m ?_;rintro e w4⟨rfl,rfl⟩);go_ret2;exact V.o _ I _ aD.o
 case pos=>
 have aT:Hid (R=if (CN (rl+12) s1 r).2=true then ((CN (rl+12) s1 r).1,0) else ([],7)):=by
  have:=aE.o;rw[Am ⟨bU.o,Z⟩]at this
  rwa [aQ.o]at this
 generalize hP:CN (rl+12) s1 r=P at aT;have cT:=A1 hP;have bE:(ih !=ahead)=false:=by simpa using Z
 go_wp2_with (go_at_call 168;refine aS.m ?_;rintro e w4⟨rfl,rfl⟩);go_loopw [9,13] (λtv v wr=>∃(l:List UInt8) (k:Nat) (L:List Pu),tv=.string ⟨l.toArray⟩/\L.length*21+l.length<=rl/\Hid (∃s,s<4294967296/\AK wr lb 237 (A4 b) ⟨nm.toArray⟩ s/\AO wr v L/\(∀g,v.ownBlock=some g->w3.heap.size<=g)/\(A2 A7 w wr/\w3.heap.size<=wr.heap.size)/\l.length<=k/\P=(L++(CN k s l).1,(CN k s l).2))) (λtv _ _=>match tv with | .string x=>x.size|_=>0)
 case atStart=>exact⟨r,rl+12,[],rfl,by simp[aQ.o],s1,a7.o,a0.o,BW _ _ _ _,λg hg=>by simp[Value.ownBlock]at hg,⟨aD.o,Aw _⟩,by have:=aQ.o;omega,by rw[cT.o];simp⟩
 case round=>
  obtain⟨l,k,L,rfl,bD,hI⟩:=hrel;have z:(ByteArray.mk l.toArray).size=l.length:=by show l.toArray.size=_;simp
  by_cases aX:l.length<21
  case pos=>
   obtain⟨s,-,-,i3,i4,⟨i5,-⟩,-,i7⟩:=hI.o;rw[Ll aX]at i7;simp only[EI]at i7;have bT:R=(L,0):=by
    have:=aT.o;rw[i7]at this;simpa using this
   subst bT;go_wp2;go_ret2;exact⟨_,rfl,i3,λg hg=>Az aD.o.Af (i4 g hg),i5⟩
  case neg=>
   obtain⟨c,d,t,q,rfl,J,y⟩:=Qy (l:=l) (by omega);obtain⟨s,i1,i2,i3,i4,⟨i5,b7⟩,i6,i7⟩:=hI.o;obtain⟨k,rfl⟩:∃k',k=k'+1:=⟨k-1,by simp at i6;omega⟩;obtain⟨ap,cp,rfl,hcap1,a1,-⟩:=AR i3;unfold maxLen at a1;have bR:=A1 (J0 wr.drew lb 237 _ _ s (c::d) t i2 i1 y (by simp;omega));have e1:(ByteArray.mk (c::d++t++q).toArray).extract 0 21=⟨(c::d++t).toArray⟩:=by
    rw[extract_mk,Da,GU (by simp[J,y]),EF (by simp[J,y])]
   (have aN:(c::d++t++q).length=q.length+21:=by simp[J,y];omega);obtain⟨ty,a3⟩:∃ty,ByteArray.mk (c::d++t++q).toArray=ty:=⟨_,rfl⟩;have e2:ty.extract 21 (q.length+21)=⟨q.toArray⟩:=by
    rw[<-a3,extract_mk]
    congr 2
    rw[Kk,Gk (by simp[J,y]),Ej,show 21-(c::d++t).length=0 by simp[J,y],Da,EF (by omega)]
   rw[a3]at e1 z ⊢;rw[aN]at z bD aX i6;have aI:=λh1 h2=>@Lo k s c d t q J y h1 h2;have bG:=λh=>@Pv k s c d t q J y h;generalize hRP:CN (k+1) s (c::d++t++q)=RP at i7 aI bG;have b8:=A1 aI;have a6:=A1 bG;have a5:=A1 i7;have H2:=A1 i2;have cO:=A1 i3;have bQ:=A1 i4;have cP:=A1 i5;have bV:=A1 b7;have cM:=A1 i6;have cS:=A1 (λw5=>Ls w5 c d (by omega));obtain⟨s',bC⟩:∃s',Ay s (c::d)=s':=⟨_,rfl⟩;(have bP:Hid (s'<4294967296):=by rw[<-bC];exact Gn _ _ i1);rw[bC]at bR b8 a6;generalize cC:q.length=ql at z bD aX cM e2;have aL:=A1 cC;have hq0:=C3 ql;go_wp2;refine BH (λ_=>True) 10
    (Bj [0,1,2,3,4,5,6,7,8,9] [5]) trivial ?_
   iterate 5 (refine B5 ?_;(try simp only[An]))
   refine B7 λK hK=>?_;go_simp;refine bR.m ?_;rintro e w5⟨rfl,b3,aZ⟩;refine hK _ _ trivial (λhS=>?_);have cB:=A1 b3;have bF:Hid (lb<w3.heap.size):=a0.o.lt;(have aW:Hid (A2 A7 w w5):=cP.o.I.As aZ λx hx aG=>by cases hx;have:=a4.o;omega);have bL:Hid (AO w5 (.slice ap L.length cp) L):=Aq cO.o λg hg=>aZ.Ao g (Av cO.o hg) (λe=>by cases e;have:=bQ.o _ hg;have:=bF.o;omega);have b4:Hid (w3.heap.size<=w5.heap.size):=Az bV.o aZ.Af
   (try simp only[An])
   iterate 4 (refine B5 ?_;(try simp only[An]))
   refine Bd ?_;simp only[BD,BC];have aB:=A1 (cS.o w5);have aK:Hid (¬(Bm s'=t/\c.toNat<8)->R=([],7)):=λh=>by
    have h1:=a5.o;rw[a6.o h]at h1;have h2:=aT.o;rw[h1]at h2;simpa using h2
   obtain⟨x1,cG⟩:∃x1,B1 d=x1:=⟨_,rfl⟩;obtain⟨Y,bS⟩:∃Y,B1 (d.drop 8)=Y:=⟨_,rfl⟩;rw[cG,bS]at aB b8;have aH:Hid (∀E,A2 A7 w5 E->Bk (E.alloc (.cells #[A0 c.toNat,A0 x1,A0 Y] 113)) E.heap.size c.toNat x1 Y/\A2 A7 w5 (E.alloc (.cells #[A0 c.toNat,A0 x1,A0 Y] 113))):=λE O=>
    ⟨Bw E _,O.ae _⟩
   by_cases U:Bm s'=t
   case neg=>
    have I:=aK.o (λh=>U h.1);rw[show decide (Bm s'=t)=false from Cj U];go_wp2_with (go_at_call 176;refine aB.m ?_;rintro e E⟨rfl,O⟩;obtain⟨b1,k7⟩:=aH.o E O;have q0:=b1.c0;have q1:=b1.c1;have q2:=b1.c2;have aY:=A1 k7);go_ret2;exact V.o _ I _ (aW.o.tr aY.o)
   case pos=>
   rw[show decide (Bm s'=t)=true from Cc U];by_cases Z:c.toNat<8
   case neg=>
    have I:=aK.o (λh=>Z h.2);rw[show decide (c.toNat<8)=false from Cj Z]at aB;go_wp2_with (go_at_call 176;refine aB.m ?_;rintro e E⟨rfl,O⟩;obtain⟨b1,k7⟩:=aH.o E O;have q0:=b1.c0;have q1:=b1.c1;have q2:=b1.c2;have aY:=A1 k7);go_ret2;exact V.o _ I _ (aW.o.tr aY.o)
   case pos=>
    have bI:Hid (∀E,A2 A7 w5 E->
     (((E.alloc (.cells #[A0 c.toNat,A0 x1,A0 Y] 113)).alloc (.cells #[A0 c.toNat,A0 x1,A0 Y] 113)).ownsRow 0 113 3 (.slice ap L.length cp) L.length (Bv L))/\
     ∀w8 a8 W,App ((E.alloc (.cells #[A0 c.toNat,A0 x1,A0 Y] 113)).alloc (.cells #[A0 c.toNat,A0 x1,A0 Y] 113)) w8 113 3 (.slice ap L.length cp) (.slice a8 (L.length+1) W) (L.length+1) (Bv L++Bv [((c.toNat:Int),x1,Y)])->
      AK w8 lb 237 (A4 b) ⟨nm.toArray⟩ s'/\AO w8 (.slice a8 (L.length+1) W) (L++[((c.toNat:Int),x1,Y)])/\(∀g,(Value.slice a8 (L.length+1) W).ownBlock=some g->w3.heap.size<=g)/\A2 A7 w w8/\w3.heap.size<=w8.heap.size):=λE O=>by
     have k9:A2 A7 w5 ((E.alloc (.cells #[A0 c.toNat,A0 x1,A0 Y] 113)).alloc (.cells #[A0 c.toNat,A0 x1,A0 Y] 113)):=(aH.o E O).2.ae _;generalize ((E.alloc (.cells #[A0 c.toNat,A0 x1,A0 Y] 113)).alloc (.cells #[A0 c.toNat,A0 x1,A0 Y] 113))=w9 at k9 ⊢;refine⟨Aq bL.o λg hg=>k9.Ao g (Av bL.o hg) (λh=>h),λw8 a8 W hA=>?_⟩;have aO:=hA.Aj (S:=λk=>(Value.slice ap L.length cp).ownBlock=some k) λ_ h=>h;have bN:w3.heap.size<=w9.heap.size:=Az b4.o k9.Af;refine⟨(cB.o.Ap k9 (λh=>h)).Ap aO (λhg=>by have:=bQ.o _ hg;have:=bF.o;omega),?_,?_,?_,?_⟩
     ·have:=hA.AA;unfold AO;rw[G1];simpa using this
     ·intro g hg;rcases hA.BJ with h|h
      ·rw[h]at hg;exact bQ.o g hg
      ·rw[h]at hg;cases hg;exact bN
     ·exact(aW.o.tr k9).As aO λx hx aG=>by have:=bQ.o x hx;have:=aD.o.Af;omega
     ·exact Az bN aO.Af
    rw[show decide (c.toNat<8)=true from Cc Z]at aB
    go_wp2_with (first
     | (go_at_call 176;refine aB.m ?_;rintro e E⟨rfl,O⟩;obtain⟨b1,k7⟩:=aH.o E O;have q0:=b1.c0;have q1:=b1.c1;have q2:=b1.c2;have bX:=A1 O)
     | (at_builtin
        have aJ:=A1 (bI.o E bX.o);have bJ:=A1 (Src.aW (size:=3) (B:=E.heap.size+1) underlying97 (E.alloc (.cells #[A0 c.toNat,A0 x1,A0 Y] 113)) #[A0 c.toNat,A0 x1,A0 Y] 113 (by simp) 1 1 rfl (FE [((c.toNat:Int),x1,Y)]));refine C7 rfl (.tmp 80) (.tmp 82) 97 97 rfl 113 i0 _ 3 24 underlying97 hi bZ cF b9 rfl (by decide) (.slice ap L.length cp) L.length (Bv L) (by rfl) aJ.o.1 _ 1 _ (by rfl) bJ.o (by omega) ?_;intro a8 W w8 hA;have cQ:=A1 (aJ.o.2 w8 a8 W hA)
        clear hA))
    go_roundw
    case rel=>
     obtain⟨r1,r2,r3,r4,r5⟩:=cQ.o;refine⟨q,k,L++[((c.toNat:Int),x1,Y)],rfl,by have:=aL.o;simp;omega,s',bP.o,r1,r2,r3,⟨r4,r5⟩,by have:=cM.o;have:=aL.o;omega,?_⟩;rw[a5.o,b8.o U Z];simp
    case measure=>
     (have e:(ByteArray.mk q.toArray).size=q.length:=by show q.toArray.size=_;simp);have:=aL.o;simp only[e,z];omega
end
end
end Go.Proofs.YtodcnkbblippnaaGreatDoor
