/- Part 7 of a proof: walks of the program. -/
import Derived.Test.YtodcnkbblippnaaGreatDoorPart06
namespace Go.Proofs.YtodcnkbblippnaaGreatDoor
set_option maxRecDepth 100000
set_option maxHeartbeats 32000000
set_option linter.defProp false
open Go.Proofs.Tryz
section
open Go.RowKit
def FO(mu:Int)(jv:Value)(life win A7:Int)(ro:Bool)(lv:Nat->Value):Array Value:=
 #[.int .i32 mu,.int .u32 0,jv,.int .i64 life,.int .i64 win,.int .i64 A7,.bool ro,lv 0,lv 1,lv 2,lv 3,lv 4,lv 5,lv 6,lv 7]
def Bw(w:World)(sb:Nat)(mu:Int)(jv:Value)(life win A7:Int)(ro:Bool)(lv:Nat->Value):Prop:=
 w.heap[sb]?=some (.cells (FO mu jv life win A7 ro lv) 111 (0,0))
section
variable {w:World} {sb:Nat} {mu:Int} {jv:Value} {life win A7:Int} {ro:Bool} {lv:Nat->Value}
def Bw.c0(h:Bw w sb mu jv life win A7 ro lv):A8 w sb 0 (.int .i32 mu):=by unfold Bw at h;simp[A8,World.cell?,h,FO]
def Bw.c2(h:Bw w sb mu jv life win A7 ro lv):A8 w sb 2 jv:=by unfold Bw at h;simp[A8,World.cell?,h,FO]
def Bw.c3(h:Bw w sb mu jv life win A7 ro lv):A8 w sb 3 (A0 life):=by unfold Bw at h;simp[A8,World.cell?,h,FO]
def Bw.cW(h:Bw w sb mu jv life win A7 ro lv):A8 w sb 4 (A0 win):=by unfold Bw at h;simp[A8,World.cell?,h,FO]
def Bw.cK(h:Bw w sb mu jv life win A7 ro lv):A8 w sb 5 (A0 A7):=by unfold Bw at h;simp[A8,World.cell?,h,FO]
def Bw.cR(h:Bw w sb mu jv life win A7 ro lv):A8 w sb 6 (.bool ro):=by unfold Bw at h;simp[A8,World.cell?,h,FO]
def Bw.fz(h:Bw w sb mu jv life win A7 ro lv)(o:Nat):w.frozen? (A9 sb o)=false:=by unfold Bw at h;simp[World.frozen?,h]
def Bw.lt(h:Bw w sb mu jv life win A7 ro lv):sb<w.heap.size:=By h
def Bw.An{S:Nat->Prop}{w':World}(h:Bw w sb mu jv life win A7 ro lv)(z:A4 S w w')(d:¬S sb):Bw w' sb mu jv life win A7 ro lv:=(z.Am sb h.lt d).trans h
def Bw.s0(h:Bw w sb mu jv life win A7 ro lv)(x:Int):Bw (w.setCell (A9 sb 0) (.int .i32 x)) sb x jv life win A7 ro lv:=BL h
def Bw.sK(h:Bw w sb mu jv life win A7 ro lv)(x:Int):Bw (w.setCell (A9 sb 5) (A0 x)) sb mu jv life win x ro lv:=BL h
def Bw.sR(h:Bw w sb mu jv life win A7 ro lv)(x:Bool):Bw (w.setCell (A9 sb 6) (.bool x)) sb mu jv life win A7 x lv:=BL h
def X3{mu:Int}{jv:Value}{life win A7:Int}{ro:Bool}{lv:Nat->Value}{k:Nat}(d:k<8):(FO mu jv life win A7 ro lv)[7+k]?=some (lv k):=by
 match k,d with
 | 0,_=>rfl
 | 1,_=>rfl
 | 2,_=>rfl
 | 3,_=>rfl
 | 4,_=>rfl
 | 5,_=>rfl
 | 6,_=>rfl
 | 7,_=>rfl
def HJ(lv:Nat->Value)(k:Nat)(v:Value):Nat->Value:=λi=>if i=k then v else lv i
def X2{mu:Int}{jv:Value}{life win A7:Int}{ro:Bool}{lv:Nat->Value}{k:Nat}(d:k<8)(v:Value):(FO mu jv life win A7 ro lv).setIfInBounds (7+k) v=FO mu jv life win A7 ro (HJ lv k v):=by
 match k,d with
 | 0,_=>rfl
 | 1,_=>rfl
 | 2,_=>rfl
 | 3,_=>rfl
 | 4,_=>rfl
 | 5,_=>rfl
 | 6,_=>rfl
 | 7,_=>rfl
end
structure Eb (w:World) (lv:Nat->Value) (L:Nat->List Pt):Prop where
 Bp:∀k,k<8->Cb w (lv k) (L k)
 FP:∀k,k<8->Dz (L k)
 CK:∀k,k<8->(L k).length<1099511627775
 Ki:∀i j,i<8->j<8->i≠j->∀g,(lv i).ownBlock=some g->(lv j).ownBlock≠some g
def EK(lv:Nat->Value)(g:Nat):Prop:=∃k,k<8/\(lv k).ownBlock=some g
def Eb.lt{w:World}{lv:Nat->Value}{L:Nat->List Pt}(h:Eb w lv L){g:Nat}(z:EK lv g):g<w.heap.size:=by
 obtain⟨k,d,e⟩:=z;exact Ay (h.Bp k d) e
def Eb.An{S:Nat->Prop}{w w':World}{lv:Nat->Value}{L:Nat->List Pt}(h:Eb w lv L)(I:A4 S w w')(E:∀g,EK lv g->¬S g):Eb w' lv L:=
 ⟨λk d=>Aw (h.Bp k d) λg z=>I.Am g (Ay (h.Bp k d) z) (E g ⟨k,d,z⟩),h.FP,h.CK,h.Ki⟩
def Eb.db{w:World}{lv:Nat->Value}{L:Nat->List Pt}(h:Eb w lv L){g:Nat}(z:EK lv g):∃c,w.heap[g]?=some (.cells c 70 (0,0)):=by
 obtain⟨k,d,e⟩:=z;exact B7 (h.Bp k d) e
def Eb.ne{w:World}{lv:Nat->Value}{L:Nat->List Pt}(h:Eb w lv L){sb:Nat}{c:Array Value}{T:TypeId}(E:w.heap[sb]?=some (.cells c T (0,0)))(z:T≠70):¬EK lv sb:=λI=>by
 obtain⟨c',d⟩:=h.db I;rw[E]at d;cases d;exact z rfl
def Eb.dK{w:World}{lv:Nat->Value}{L:Nat->List Pt}(h:Eb w lv L){sb:Nat}{mu:Int}{jv:Value}{life win A7:Int}{ro:Bool}(z:Bw w sb mu jv life win A7 ro lv){k:Nat}(d:k<8):
 He w sb (7+k) (FO mu jv life win A7 ro lv) 111 (L k) (lv k):=
 ⟨z,X3 d,h.Bp k d,h.FP k d,Nat.lt_trans (h.CK k d) (by decide)⟩
def H5(L:Nat->List Pt)(k:Nat)(l:List Pt):Nat->List Pt:=λi=>if i=k then l else L i
def VO{lv:Nat->Value}{k:Nat}{v:Value}{g:Nat}(h:EK (HJ lv k v) g):EK lv g\/v.ownBlock=some g:=by
 obtain⟨i,d,e⟩:=h;unfold HJ at e;split at e
 ·exact .inr e
 ·exact .inl ⟨i,d,e⟩
def Eb.ak{w w':World}{lv:Nat->Value}{L:Nat->List Pt}(h:Eb w lv L){sb:Nat}{mu:Int}{jv:Value}{life win A7:Int}{ro:Bool}(hb:Bw w sb mu jv life win A7 ro lv){k:Nat}(Y:k<8){aA:List Pt}{lv':Value}{t:Nat}(hR:Hw w w' sb (7+k) (FO mu jv life win A7 ro lv) t (lv k) aA lv')(ht:t=111)(hl:aA.length<1099511627775):
 Bw w' sb mu jv life win A7 ro (HJ lv k lv')/\Eb w' (HJ lv k lv') (H5 L k aA)/\A4 (λx=>x=sb\/EK lv x) w w'/\∀g,EK (HJ lv k lv') g->EK lv g\/w.heap.size<=g:=by
 subst ht;have X:=hR.Bp.Af;rw[X2 Y]at X;have O:=hR.AE;have hc:A4 (λx=>x=sb\/EK lv x) w w':=hR.An.ad λx _ z=>z.imp id λe=>⟨k,Y,e⟩
 have aB:=h.ne hb (by decide);refine⟨X,⟨?_,?_,?_,?_⟩,hc,λg E=>?_⟩
 ·intro i I;unfold HJ H5;by_cases e:i=k
  ·simp only[e,Ci];exact hR.Bp.Bp
  ·simp only[e,C3];exact Aw (h.Bp i I) λg E=>hR.An.Am g (Ay (h.Bp i I) E) λz=>by
    rcases z with rfl|z
    ·exact aB ⟨i,I,E⟩
    ·exact h.Ki k i Y I (λx=>e x.symm) g z E
 ·intro i I;unfold H5;by_cases e:i=k
  ·simp only[e,Ci];exact hR.Bp.FP
  ·simp only[e,C3];exact h.FP i I
 ·intro i I;unfold H5;by_cases e:i=k
  ·simp only[e,Ci];exact hl
  ·simp only[e,C3];exact h.CK i I
 ·intro i j I hj W g E d;unfold HJ at E d;by_cases e:i=k
  ·subst e;have e2:¬j=i:=λx=>W x.symm;simp only[Ci]at E;simp only[e2,C3]at d;rcases O g E with z|z
   ·exact h.Ki i j Y hj W g z d
   ·have:=Ay (h.Bp j hj) d;omega
  ·simp only[e,C3]at E;by_cases e2:j=k
   ·subst e2;simp only[Ci]at d;rcases O g d with z|z
    ·exact h.Ki i j I Y W g E z
    ·have:=Ay (h.Bp i I) E;omega
   ·simp only[e2,C3]at d;exact h.Ki i j I hj W g E d
 ·rcases VO E with z|z
  ·exact .inl z
  ·rcases O g z with hy|hy
   ·exact .inl ⟨k,Y,hy⟩
   ·exact .inr hy
def Bw.bJ{w:World}{sb:Nat}{jv:Value}{life win A7:Int}{ro:Bool}{lv:Nat->Value}{L:Nat->List Pt}(h:Bw w sb 0 jv life win A7 ro lv)(d:Eb w lv L):
 Bw (w.setCell ⟨sb,0,none⟩ (.int .i32 1)) sb 1 jv life win A7 ro lv/\Eb (w.setCell ⟨sb,0,none⟩ (.int .i32 1)) lv L/\A4 (One sb) w (w.setCell ⟨sb,0,none⟩ (.int .i32 1)):=
 ⟨h.s0 1,d.An ((A4.C (One sb) w).aj rfl 0 _) (λg z e=>d.ne h (by decide) (e ▸ z)),(A4.C (One sb) w).aj rfl 0 _⟩
def Bw.cV{w w':World}{sb:Nat}{mu:Int}{jv:Value}{life win A7:Int}{ro:Bool}{lv:Nat->Value}(h:Bw w sb 0 jv life win A7 ro lv)(I:Bw w' sb mu jv life win A7 ro lv)(L:A4 (One sb) w w'):
 A4 (λ_=>False) w (w'.setCell ⟨sb,0,none⟩ (.int .i32 0)):=by
 have z:=I.s0 0;have d:=L.aj (b:=sb) rfl 0 (.int .i32 0);refine⟨d.os,d.DC,d.DE,d.Al,λk E _=>?_⟩;by_cases e:k=sb
 ·subst e;unfold Bw at h z;rw[h,z]
 ·exact d.Am k E e
end
section
open Go.MuLone Go.RowKit
attribute [local go_sem ↓] Go.wp_at_zero Go.wp_at_succ Cw
section
variable {w:World} {sb:Nat} {jv:Value} {life win A7:Int} {ro:Bool} {lv:Nat->Value} {L:Nat->List Pt}
def Qu(w:World)(h:Bw w sb 0 jv life win A7 ro lv):
 Calls Tryz.prog 38 #[.pointer (some ⟨sb,0,none⟩)] w λe w'=>e=.returned (.agg #[.bool ro,.int .i64 A7])/\A4 (λ_=>False) w w':=by
 have hA:∀o,Bw (w.alloc o) sb 0 jv life win A7 ro lv:=λo=>h.An ((A4.C (λ_=>False) w).ah o) (λh=>h);have aD:=A1 hA;have H:=A1 h;have hlt:=h.lt
 go_enter_defers func38,ntmps38
 go_wp2_with (go_at_call 61;refine(HM Tryz.bc ⟨sb,0,none⟩ _ (aD.o _).c0 ((aD.o _).fz 0)).mono ?_;rintro e w'⟨rfl,rfl⟩);have aA:∀o,Bw ((w.setCell ⟨sb,0,none⟩ (.int .i32 1)).alloc o) sb 1 jv life win A7 ro lv/\A4 (One sb) w ((w.setCell ⟨sb,0,none⟩ (.int .i32 1)).alloc o):=λo=>
  ⟨(H.o.s0 1).An ((A4.C (λ_=>False) _).ah o) (λh=>h),((A4.C (One sb) w).aj rfl 0 _).ah o⟩
 obtain⟨E,O⟩:=aA (.cells #[.bool false,.int .i64 0] 74);have d:((w.setCell ⟨sb,0,none⟩ (.int .i32 1)).alloc (.cells #[.bool false,.int .i64 0] 74)).heap[w.heap.size]?=some (.cells #[.bool false,.int .i64 0] 74 (0,0)):=by
  have:=Bf (w.setCell ⟨sb,0,none⟩ (.int .i32 1)) (.cells #[.bool false,.int .i64 0] 74);simpa using this
 generalize ((w.setCell ⟨sb,0,none⟩ (.int .i32 1)).alloc (.cells #[.bool false,.int .i64 0] 74))=w1 at E O d ⊢;have c4:=E.cK;have c5:=E.cR;have r0:w1.cell? ⟨w.heap.size,0,none⟩=some (.bool false):=by simp[World.cell?,d]
 have r1:w1.cell? ⟨w.heap.size,1,none⟩=some (.int .i64 0):=by simp[World.cell?,d]
 have f0:w1.frozen? ⟨w.heap.size,0,none⟩=false:=by simp[World.frozen?,d]
 have f1:w1.frozen? ⟨w.heap.size,1,none⟩=false:=by simp[World.frozen?,d]
 have W:sb≠w.heap.size:=by omega
 have aB:=A1 E;have X:=A1 O;refine Nc (λw'=>w'.cell? ⟨sb,5,none⟩=some (.int .i64 A7)/\w'.cell? ⟨sb,6,none⟩=some (.bool ro)) 11
  [(0,true),(1,true),(2,true),(3,true),(4,true),(5,true),(6,true),(7,true),(8,false),(9,true),(10,false)] (by kernel_rfl) (by kernel_rfl) ⟨c4,c5⟩ ?_
 iterate 8 (refine DM (v:=?_) rfl (by rfl) ?_ ?_;rotate_left;(· (intro w' I;(try dsimp only at I);go_simp;try with_reducible rfl));(try simp only[Ak]))
 refine Di rfl (by rfl) (λK Y=>?_);go_simp;refine Y _ _ ⟨by simp[World.cell?_setCell_other,c4],by simp[World.cell?_setCell_other,c5]⟩ (λI=>?_)
 (try simp only[Ak])
 iterate 1 (refine DM (v:=?_) rfl (by rfl) ?_ ?_;rotate_left;(· (intro w' I;(try dsimp only at I);go_simp;try with_reducible rfl));(try simp only[Ak]))
 refine Di rfl (by rfl) (λK Y=>?_);go_simp;refine Y _ _ ⟨by simp[World.cell?_setCell_other,c4],by simp[World.cell?_setCell_other,c5]⟩ (λI=>?_)
 (try simp only[Ak])
 refine B4 ?_;simp only[Du,Db];go_wp2;rw[Cw];go_wp2;generalize hW:(((w1.setCell ⟨w.heap.size,0,none⟩ (.bool false)).setCell ⟨w.heap.size,1,none⟩ (.int .i64 0)).setCell ⟨w.heap.size,0,none⟩ (.bool ro)).setCell ⟨w.heap.size,1,none⟩ (.int .i64 A7)=w2;have z:Bw w2 sb 1 jv life win A7 ro lv/\A4 (One sb) w w2/\w2.heap[w.heap.size]?=some (.cells #[.bool ro,.int .i64 A7] 74 (0,0)):=by
  subst hW;refine⟨?_,?_,?_⟩
  ·exact aB.o.An (S:=One w.heap.size) (((((A4.C (One w.heap.size) w1).aj rfl 0 _).aj rfl 1 _).aj rfl 0 _).aj rfl 1 _) W
  ·(have n:∀(p:Addr),p.block=w.heap.size->p.block<w.heap.size->One sb p.block:=λp e h=>by omega);exact((((X.o.a1 (n _ rfl) _).a1 (n _ rfl) _).a1 (n _ rfl) _).a1 (n _ rfl) _)
  ·have:=BL (o:=1) (v:=.int .i64 A7) (BL (o:=0) (v:=.bool ro) (BL (o:=1) (v:=.int .i64 0) (BL (o:=0) (v:=.bool false) d)));simpa using this
 refine HN (f:=62) (args:=#[.pointer (some ⟨sb,0,none⟩)]) (by simp) (by simp[go_sem]) ?_;refine(HL Tryz.bc ⟨sb,0,none⟩ .returning _ ?_ ?_).mono ?_
 ·exact z.1.c0
 ·exact z.1.fz 0
 rintro e u' w''⟨rfl,rfl,rfl⟩;have d0:w2.cell? ⟨w.heap.size,0,none⟩=some (.bool ro):=by simp[World.cell?,z.2.2]
 have d1:w2.cell? ⟨w.heap.size,1,none⟩=some (.int .i64 A7):=by simp[World.cell?,z.2.2]
 refine⟨_,?_,rfl,H.o.cV (w':=w2.drew) z.1 z.2.1.aa⟩;simp[results,Tryz.results38,go_sem,d0,d1]
def Yo(w:World)(k a b:Int)(h:Bw w sb 0 jv life win A7 ro lv)(z:¬(0<=k/\k<8)):
 Ag 37 #[A6 sb,A0 k,A0 a,A0 b] w (Aj (.tuple #[.slice none 0 0,A0 2]) λw'=>A4 Aa w w'):=by
 have H:=A1 h;have E:Hid (∀w',Ag 63 #[A0 k] w' λe d=>e=.returned (.bool false)/\w'=d):=λw'=>by
  have:=KG w' k
  rwa [Cu z]at this
 have c0:=h.c0;have f0:=h.fz 0
 go_enter_defers func37,ntmps37
 go_wp2_with (first
  | (go_at_call 61;refine(HM Tryz.bc (A9 sb 0) _ c0 f0).mono ?_;rintro e w'⟨rfl,rfl⟩)
  | (go_at_call 63;refine(E.o _).mono ?_;rintro e w'⟨rfl,rfl⟩))
 refine HN (f:=62) (args:=#[A6 sb]) (by simp) (by simp[go_sem]) ?_;refine(HL Tryz.bc (A9 sb 0) .returning _ ?_ ?_).mono ?_
 ·exact(H.o.s0 1).c0
 ·exact(H.o.s0 1).fz 0
 rintro e u' d⟨rfl,rfl,rfl⟩;exact⟨_,results_tmp2 rfl _ _ _,rfl,H.o.cV (H.o.s0 1) ((A4.C (One sb) w).aj rfl 0 _)⟩
def LP(w:World)(k:Nat)(a b:Int)(h:Bw w sb 0 jv life win A7 ro lv)(hr:Eb w lv L)(hk:k<8)(hl:1<=life/\life<=4611686018427387904)(hc:Ax A7):
 Ag 37 #[A6 sb,A0 k,A0 a,A0 b] w λe w'=>∃v,e=.returned (.tuple #[v,A0 0])/\
  Cb w' v (piece (L k) (max a (AT A7 life)) b)/\A4 Aa w w'/\∀g,v.ownBlock=some g->w.heap.size<=g:=by
 have aK:Hid (∀w',Ag 63 #[A0 k] w' λe Y=>e=.returned (.bool true)/\w'=Y):=λw'=>by
  have:=KG w' k
  rwa [Ct (by omega)]at this
 have c0:=h.c0;have f0:=h.fz 0;obtain⟨aH,aG,aI⟩:=h.bJ hr;have aJ:∀w',Bw w' sb 1 jv life win A7 ro lv->_:=λw' h'=>O0 w' sb A7 life h'.c3 h'.cK hl hc;generalize ho:AT A7 life=o at aJ ⊢;have aN:∀w',Bw w' sb 1 jv life win A7 ro lv->Eb w' lv L->_:=λw' h' aF=>A2G w' sb (7+k) (L k) (lv k) (max a o) b (aF.dK h' hk).bX;have hk1:=BR k;have hk2:(k:Int)<8:=by omega
 have H:=A1 h;have aD:=A1 aJ;have aE:=A1 aN;have E:=A1 aH;have X:=A1 aG;have O:=A1 aI
 go_enter_defers func37,ntmps37
 go_wp2_with (first
  | (go_at_call 61;refine(HM Tryz.bc (A9 sb 0) _ c0 f0).mono ?_;rintro e w'⟨rfl,rfl⟩)
  | (go_at_call 63;refine(aK.o _).mono ?_;rintro e w'⟨rfl,rfl⟩))
 generalize (w.setCell (A9 sb 0) (.int .i32 1))=w1 at E X O ⊢;refine Nc (λ_=>True) 11
  (Bb [0,1,2,3,4,5,6,9,7,8,10] [7,10]) (by kernel_rfl) (by kernel_rfl) trivial ?_
 iterate 8 (refine DM (v:=?_) rfl (by rfl) ?_ ?_;rotate_left;(· (intro w' hS;(try dsimp only at hS);go_simp;try with_reducible rfl));(try simp only[Ak]))
 refine Di rfl (by rfl) (λK hK=>?_);go_simp;refine(aD.o w1.drew E.o).mono ?_;rintro e w2⟨rfl,d⟩;refine hK _ _ trivial (λhS=>?_);have I:Hid (Bw w2 sb 1 jv life win A7 ro lv/\Eb w2 lv L/\A4 (One sb) w w2):=
  have z:A4 Aa w1 w2:=⟨d.os,d.DC,d.DE,d.Al,d.Am⟩
  ⟨E.o.An z (λh=>h),X.o.An z (λ_ _ h=>h),O.o.Au z λ_ h _=>h.elim⟩
 (try simp only[Ak])
 (refine DM (v:=?_) rfl (by rfl) ?_ ?_;rotate_left;(· (intro w' hS;(try dsimp only at hS);go_simp;try with_reducible rfl));(try simp only[Ak]))
 refine Di rfl (by rfl) (λK hK=>?_);go_simp;refine(aE.o w2 I.o.1 I.o.2.1).mono ?_;rintro e w3⟨v,rfl,hv,aA,hf⟩;refine hK _ _ trivial (λhS=>?_);have aB:Hid (Bw w3 sb 1 jv life win A7 ro lv/\A4 (One sb) w w3):=⟨I.o.1.An aA (λh=>h),I.o.2.2.Au aA λ_ h _=>h.elim⟩;have aO:=A1 hv;have aL:Hid (∀g,v.oB g->w.heap.size<=g):=λg W=>AQ I.o.2.2.Al (hf g W);have aM:Hid (∀g,v.oB g->g≠sb):=λg W e=>by
  have:=hf g W;have:=I.o.1.lt;omega
 (try simp only[Ak])
 refine B4 ?_;simp only[Du,Db];go_wp2;rw[Cw];go_wp2;refine HN (f:=62) (args:=#[A6 sb]) (by simp) (by simp[go_sem]) ?_;refine(HL Tryz.bc (A9 sb 0) .returning _ ?_ ?_).mono ?_
 ·exact aB.o.1.c0
 ·exact aB.o.1.fz 0
 rintro e u' Y⟨rfl,rfl,rfl⟩;exact⟨_,results_tmp2 rfl _ _ _,v,rfl,Aw aO.o λg W=>Fg _ _ _ _ (λe=>aM.o g W (by simpa using e)),H.o.cV aB.o.1 aB.o.2,aL.o⟩
end
def Own(sb:Nat)(lv:Nat->Value)(x:Nat):Prop:=x=sb\/EK lv x
structure Ei (w w':World) (sb:Nat) (mu:Int) (jv:Value) (life win A7:Int) (ro:Bool) (lv lv':Nat->Value) (L':Nat->List Pt):Prop where
 Af:Bw w' sb mu jv life win A7 ro lv'
 DT:Eb w' lv' L'
 An:A4 (Own sb lv) w w'
 AE:∀g,EK lv' g->EK lv g\/w.heap.size<=g
section
variable {w w' w2:World} {sb:Nat} {mu aB:Int} {jv:Value} {life win A7 aA:Int} {ro aD:Bool} {lv lv' aE:Nat->Value} {L L' L2:Nat->List Pt}
def Ei.Au(h:Ei w w' sb mu jv life win A7 ro lv lv' L')(z:Ei w' w2 sb aB jv life win aA aD lv' aE L2):Ei w w2 sb aB jv life win aA aD lv aE L2:=
 ⟨z.Af,z.DT,h.An.Au z.An λx d hlt=>by
  rcases d with d|d
  ·exact .inl d
  ·rcases h.AE x d with E|E
   ·exact .inr E
   ·omega,λg I=>by
  rcases z.AE g I with d|d
  ·exact h.AE g d
  ·exact .inr (AQ h.An.Al d)⟩
def Ei.of(E:Bw w' sb mu jv life win A7 ro lv)(z:Eb w lv L)(d:A4 (One sb) w w')(O:¬EK lv sb):Ei w w' sb mu jv life win A7 ro lv lv L:=
 ⟨E,z.An d (λg I e=>O (by cases e;exact I)),d.ad λ_ _ h=>.inl h,λ_ h=>.inl h⟩
def Ei.au(h:Ei w w' sb mu jv life win A7 ro lv lv' L')(d:A4 Aa w' w2):Ei w w2 sb mu jv life win A7 ro lv lv' L':=
 ⟨h.Af.An d (λh=>h),h.DT.An d (λ_ _ h=>h),h.An.Au d λ_ h _=>h.elim,h.AE⟩
def Ei.CT(h:Ei w w' sb mu jv life win A7 ro lv lv' L')(o:Nat)(u:Value)(d:Bw (w'.setCell (A9 sb o) u) sb aB jv life win aA aD lv'):Ei w (w'.setCell (A9 sb o) u) sb aB jv life win aA aD lv lv' L':=
 ⟨d,h.DT.An ((A4.C (One sb) w').aj rfl o u) (λg z e=>h.DT.ne h.Af (by decide) (by cases e;exact z)),h.An.aj (.inl rfl) o u,h.AE⟩
def H4(L L':Nat->List Pt)(o:Int):Prop:=∀i,i<8->L' i=L i\/L' i=(L i).drop (BB (L i) o)
def VX(c x:Int):min c (9223372036854775807-x)+x=Dv c x:=by
 unfold Dv;split<;>omega
def Lx{c x:Int}(d:Ax c)(hx:0<=x)(hx2:x<=9223372036854775807):Ax (Dv c x):=by
 obtain⟨h1,h2⟩:=d;unfold Dv;split<;>constructor<;>omega
def VY(w:World)(x:Int)(h:Bw w sb 0 jv life win A7 ro lv)(hx:x<0):
 Ag 27 #[A6 sb,A0 x] w (Aj (A0 3) λw'=>A4 Aa w w'):=by
 have H:=A1 h;have c0:=h.c0;have f0:=h.fz 0
 go_enter_defers func27,ntmps27
 go_wp2_with (go_at_call 61;refine(HM Tryz.bc (A9 sb 0) _ c0 f0).mono ?_;rintro e w'⟨rfl,rfl⟩);refine HN (f:=62) (args:=#[A6 sb]) (by simp) (by simp[go_sem]) ?_;refine(HL Tryz.bc (A9 sb 0) .returning _ ?_ ?_).mono ?_
 ·exact(H.o.s0 1).c0
 ·exact(H.o.s0 1).fz 0
 rintro e u' w''⟨rfl,rfl,rfl⟩;exact⟨_,Jx rfl _ _ _,rfl,H.o.cV (H.o.s0 1) ((A4.C (One sb) w).aj rfl 0 _)⟩
def Qc(w:World)(x:Int)(h:Bw w sb 0 jv life win A7 ro lv)(hr:Eb w lv L)(hx:0<=x/\x<=9223372036854775807)(hl:1<=life/\life<=4611686018427387904)(hc:Ax A7):
 Ag 27 #[A6 sb,A0 x] w (Aj (A0 0) λw'=>
  ∃lv' L',Ei w w' sb 0 jv life win (Dv A7 x) ro lv lv' L'/\H4 L L' (AT (Dv A7 x) life)):=by
 obtain⟨aH,aF⟩:=hx;have I:=Lx hc aH aF;have ew1:IntKind.i64.wrap (9223372036854775807-x)=9223372036854775807-x:=by simp[IntKind.wrap,IntKind.bits,IntKind.signed];omega
 have aK:IntKind.i64.wrap (min A7 (9223372036854775807-x)+x)=Dv A7 x:=by
  rw[VX];obtain⟨h1,h2⟩:=I;simp[IntKind.wrap,IntKind.bits,IntKind.signed];omega
 have c0:=h.c0;have f0:=h.fz 0;obtain⟨E,hr1,aM⟩:=h.bJ hr;have hn:=hr.ne h (by decide);have d3:=E.cK;have d3f:=E.fz 5;have aI:Ei w (w.setCell (A9 sb 0) (.int .i32 1)) sb 1 jv life win A7 ro lv lv L:=Ei.of E hr aM hn;have aL:∀z,Hid (Ei w ((w.setCell (A9 sb 0) (.int .i32 1)).setCell (A9 sb 5) (A0 z)) sb 1 jv life win z ro lv lv L):=λz=>aI.CT 5 _ (E.sK z);generalize hcc:Dv A7 x=z at aK I ⊢;have aO:=aL z;have aN:∀w' lv',Bw w' sb 1 jv life win z ro lv'->_:=λw' lv' h'=>O0 w' sb z life h'.c3 h'.cK hl I;generalize ho:AT z life=o at aN ⊢;have aG:=A1 aN
 go_enter_defers func27,ntmps27
 go_wp2_with (go_at_call 61;refine(HM Tryz.bc (A9 sb 0) _ c0 f0).mono ?_;rintro e w'⟨rfl,rfl⟩);generalize ((w.setCell (A9 sb 0) (.int .i32 1)).setCell (A9 sb 5) (A0 z))=w1 at aO ⊢;go_loopw [27] (λiv wr=>∃k:Nat,k<=8/\iv=A0 k/\Hid (∃lv' L',Ei w wr sb 1 jv life win z ro lv lv' L'/\H4 L L' o/\∀i,k<=i->L' i=L i)) (λiv _=>8-(intOf iv).toNat)
 case atStart=>exact⟨0,by omega,rfl,lv,L,aO.o,λi _=>.inl rfl,λi _=>rfl⟩
 case round=>
  obtain⟨k,hk,rfl,hH⟩:=hrel;obtain⟨w0,aJ⟩:∃w0,w0=wr:=⟨_,rfl⟩;subst aJ;have k0:=BR k;by_cases O:k<8
  ·(have k1:(k:Int)<8:=by omega)
   have aS:Hid (∀w2,(∃lv' L',Ei w w2 sb 1 jv life win z ro lv lv' L'/\H4 L L' o/\∀i,k<=i->L' i=L i)->Ag 72 #[.pointer (some (A9 sb (7+k))),A0 o] w2 (Aj (.tuple #[]) λw'=>
    ∃lv' L',Ei w w' sb 1 jv life win z ro lv lv' L'/\H4 L L' o/\∀i,k+1<=i->L' i=L i)):=λw2 ⟨lv',L',d,W,a3⟩=>by
    refine(A05 w2 sb (7+k) _ _ (by decide) _ _ o (d.DT.dK d.Af O)).mono ?_;rintro e w3⟨rfl,L2,v2,X,hR⟩;have Y:L2.length<=(L' k).length:=by
     rcases X with rfl|rfl
     ·exact Ao _
     ·rw[Cl];omega
    obtain⟨b1,b2,b3,b4⟩:=d.DT.ak d.Af O hR rfl (Pk Y (d.DT.CK k O));refine⟨rfl,HJ lv' k v2,H5 L' k L2,d.Au ⟨b1,b2,b3,b4⟩,λi hi=>?_,λi hi=>?_⟩
    ·unfold H5;by_cases e:i=k
     ·subst e;simp only[Ci];rw[a3 i (Ao _)]at X;exact X
     ·simp only[e,C3];exact W i hi
    ·unfold H5;rw[Ae (by omega)];exact a3 i (by omega)
   have aQ:Hid (∀w2,(∃lv' L',Ei w w2 sb 1 jv life win z ro lv lv' L'/\H4 L L' o/\∀i,k<=i->L' i=L i)->Ag 71 #[A6 sb] w2 (Aj (A0 o) λw'=>∃lv' L',Ei w w' sb 1 jv life win z ro lv lv' L'/\H4 L L' o/\∀i,k<=i->L' i=L i)):=λw2 ⟨lv',L',d,W,a3⟩=>by
    refine(aG.o w2 lv' d.Af).mono ?_;rintro e w3⟨rfl,hc⟩;exact⟨rfl,lv',L',d.au hc,W,a3⟩
   go_wp2;refine Nc (λ_=>True) 7
    (Bb [0,1,2,3,4,5,6] [6]) (by kernel_rfl) (by kernel_rfl) trivial ?_
   iterate 6 (refine DM (v:=?_) rfl (by rfl) ?_ ?_;rotate_left;(· (intro w' hS;(try dsimp only at hS);go_simp;try with_reducible rfl));(try simp only[Ak]))
   refine Di rfl (by rfl) (λK hK=>?_);go_simp;refine(aQ.o w0.drew (by obtain⟨lv',L',d,W⟩:=hH.o;exact⟨lv',L',d.au ((A4.C _ w0).aa),W⟩)).mono ?_;rintro e w2⟨rfl,h2⟩;refine hK _ _ trivial (λhS=>?_);have aR:=A1 h2
   (try simp only[Ak])
   refine B4 ?_;simp only[Du,Db];go_wp2_with (go_at_call 72;refine(aS.o _ aR.o).mono ?_;rintro e w3⟨rfl,h3⟩;have aP:=A1 h3);rw[Cw];go_wp2;go_roundw
   case rel=>exact⟨k+1,by omega,by go_num,aP.o⟩
   case measure=>simp[intOf];omega
  ·(obtain rfl:k=8:=by omega);go_wp2;refine HN (f:=62) (args:=#[A6 sb]) (by simp) (by simp[go_sem]) ?_;obtain⟨lv',L',d,W,-⟩:=hH.o;refine(HL Tryz.bc (A9 sb 0) .returning _ ?_ ?_).mono ?_
   ·exact d.Af.c0
   ·exact d.Af.fz 0
   rintro e u' w''⟨rfl,rfl,rfl⟩;exact⟨_,Jx rfl _ _ _,rfl,lv',L',d.CT 0 _ (d.Af.s0 0),W⟩
end
end
section
open Go.RowKit
def K8(w:World)(Ft:Nat->Prop)(fb:Nat)(w':World)(b:Nat)(D':DS)(F':Nat->FC):Prop:=
 A4 (λk=>Ft k\/k=fb) w w'/\∃d,AU w' b D' F' d/\(∀k,d k->k<w'.heap.size)/\∀k,d k->Ft k\/w.heap.size<=k
def Hd(D:DS)(F:Nat->FC)(name:ByteArray)(pc:List UInt8):Bool:=
 decide ((Cv (Bx D F name ⟨pc.toArray⟩).2.1 (Bx D F name ⟨pc.toArray⟩).2.2 name).1-(Cv D F name).1=pc.length)
def Tt(D:DS)(F:Nat->FC)(name:ByteArray):0<=(Cv D F name).1:=by
 unfold Cv;cases lookup D.A5 name<;>simp
section
variable {w:World} {b fb:Nat} {D:DS} {F:Nat->FC} {Ft:Nat->Prop} {T:TypeId} {name:ByteArray} {s:Nat}
def Pc(hf:Bg w fb T (A6 b) name s)(hs:s<4294967296)(h:AU w b D F Ft)(aR:∀k,Ft k->k<w.heap.size)(hn:¬Ft fb)(l:List UInt8)(hroom : -4611686018427387904<=D.n.AA/\D.n.AA<=9223372036854775807)(hu:AX F D.A5<=4611686018427387904)(hp:0<=D.n.BC/\D.n.BC<=9223372036854775807)(hl:∀f,lookup D.A5 name=some f->(F f).1.length+(l.length+4)<=70368744177664)(hll:l.length<=4611686018427387904)(hz:(Cv (Bx D F name ⟨(l++C9 (AW s l)).toArray⟩).2.1 (Bx D F name ⟨(l++C9 (AW s l)).toArray⟩).2.2 name).1<=70368744177664/\(Cv D F name).1<=70368744177664):
 Ag 237 #[A6 fb,.string ⟨l.toArray⟩] w (Aj (.tuple #[.bool (Hd D F name (l++C9 (AW s l))),A0 (Bx D F name ⟨(l++C9 (AW s l)).toArray⟩).1]) λw'=>Bg w' fb T (A6 b) name (AW s l)/\K8 w Ft fb w' b (Bx D F name ⟨(l++C9 (AW s l)).toArray⟩).2.1 (Bx D F name ⟨(l++C9 (AW s l)).toArray⟩).2.2):=by
 obtain⟨aA,a0⟩:=hz;have aO:=A1 (QH w fb T _ name s l hf hs (by omega));have aF:(l++C9 (AW s l)).length=l.length+4:=by simp[Hn]
 generalize hs1:AW s l=s1 at aO aF aA ⊢;generalize hpc:l++C9 s1=pc at aO aF aA ⊢;have bC:∀w',AU w' b D F Ft->_:=λw' h'=>A25 h' name ⟨pc.toArray⟩ hroom hu hp (λf hf=>by have:=hl f hf;show _+pc.length<=_;omega);have r1:=Tt D F name;have r2:=Tt (Bx D F name ⟨pc.toArray⟩).2.1 (Bx D F name ⟨pc.toArray⟩).2.2 name;have O:Hd D F name pc=decide ((Cv (Bx D F name ⟨pc.toArray⟩).2.1 (Bx D F name ⟨pc.toArray⟩).2.2 name).1-(Cv D F name).1=pc.length):=rfl;obtain⟨D',aM⟩:∃D',(Bx D F name ⟨pc.toArray⟩).2.1=D':=⟨_,rfl⟩;obtain⟨F',aI⟩:∃F',(Bx D F name ⟨pc.toArray⟩).2.2=F':=⟨_,rfl⟩;obtain⟨er,aK⟩:∃er,(Bx D F name ⟨pc.toArray⟩).1=er:=⟨_,rfl⟩;rw[aM,aI]at O r2 aA ⊢;rw[aK];rw[aM,aI,aK]at bC;have bE:∀w',AU w' b D F Ft->_:=λw' h'=>Ns h' name;have bB:∀w' d,AU w' b D' F' d->_:=λw' d h'=>Ns h' name;obtain⟨zn,aE⟩:∃zn,(Cv D F name).1=zn:=⟨_,rfl⟩;obtain⟨ze,aZ⟩:∃ze,(Cv D F name).2=ze:=⟨_,rfl⟩;obtain⟨Y,aH⟩:∃Y,(Cv D' F' name).1=Y:=⟨_,rfl⟩;obtain⟨ye,aQ⟩:∃ye,(Cv D' F' name).2=ye:=⟨_,rfl⟩;rw[aE,aH]at O;rw[aE]at r1 a0;rw[aH]at r2 aA;rw[aE,aZ]at bE;rw[aH,aQ]at bB;rw[O];obtain⟨ok,O⟩:∃ok,decide (Y-zn=(pc.length:Int))=ok:=⟨_,rfl⟩;rw[O];have aY:=A1 O;have a8:=A1 bC;have aP:=A1 bE;have a5:=A1 bB;have H:=A1 h;have aS:=A1 aR;have bD:=A1 hn
 go_enter func237,ntmps237
 go_wp2_with (go_at_call 214;refine aO.m ?_;rintro e w1⟨rfl,a9,bA⟩;have a1:=A1 a9;have aD:=A1 bA);have E:Hid (Bg w1 fb T (A6 b) name s1/\AU w1 b D F Ft):=⟨a1.o,H.o.aI λk hk=>aD.o.Am k (aS.o k hk) (λe=>bD.o (e ▸ hk))⟩;refine Hl 13 (λy=>{tmps:=#[A6 fb,.string ⟨l.toArray⟩,undef,undef,.bool false,A0 0,.string ⟨pc.toArray⟩,y 12,undef,undef,undef,undef,A6 fb,.string ⟨l.toArray⟩,.string ⟨pc.toArray⟩,y 9,y 0,y 1,y 2,y 3,y 4,y 5,y 6,y 7,y 8,y 10,y 11,undef,undef,undef,undef,undef,undef,undef,undef,undef,undef,undef,undef,undef,undef,undef,undef,undef,undef,undef,undef,undef,undef,undef,undef,undef,undef,undef,undef,undef],defers:=[]}) (λ_=>undef)
  (λw'=>Bg w' fb T (A6 b) name s1/\AU w' b D F Ft/\A4 Aa w1 w') (A4 Aa)
  (λj x w'=>match j with
   | 0=>x=(A6 fb)
   | 1=>x=(A6 fb)
   | 2=>x=(A6 fb)
   | 3=>x=(A6 b)
   | 4=>x=(A6 fb)
   | 5=>x=(A6 fb)
   | 6=>x=.pointer (some (A9 fb 1))
   | 7=>x=.string name
   | 8=>x=.tuple #[A0 zn,A0 ze]
   | 9=>x=.tuple #[A0 zn,A0 ze]
   | 10=>x=A0 zn
   | 11=>x=A0 ze
   | 12=>x=A0 zn
   | _=>True)
  (by kernel_rfl) (by kernel_rfl) rfl ?_ ?_ ?_ ?_
 ·exact⟨E.o.1,E.o.2.aa,(A4.C _ _).aa⟩
 ·intro j x w1 w2 hR a6 X;split at X<;>exact X
 ·clear E;simp only[Fs,Fe,FY,HR]
  repeat' (with_reducible apply And.intro)
  all_goals refine⟨?_,(by intro y L _ _ h;exact Bool.noConfusion h),λy x=>rfl⟩
  all_goals
   intro zz L hS hd hw K hK;obtain⟨I,aG,aB⟩:=hS;simp[Gt,Region.binds,Fu,List.filter_cons]at hd;have c0:=I.c0;have c1:=I.c1;have W:Hid (Bg L fb T (A6 b) name s1/\AU L b D F Ft/\A4 Aa w1 L):=⟨I,aG,aB⟩;have aJ:=A1 hK
  all_goals dsimp only
  all_goals try go_simp
  all_goals try with_reducible exact aJ.o _ _ _ rfl (by simp[Act.put,hd]) (A4.C _ _) W.o
  all_goals
   refine(aP.o L W.o.2.1).mono ?_;rintro e w2⟨rfl,rfl⟩;exact aJ.o _ _ _ rfl (by simp[Act.put,hd]) (A4.C _ _) W.o
 intro y L hS X;have h11:=X 11 (by omega);have h12:=X 12 (by omega);have c0:=hS.1.c0;have c1:=hS.1.c1;have W:=A1 hS;go_wp2;refine Fw (λw'=>A8 w' fb 0 (A6 b)/\A8 w' fb 1 (.string name)) 9
  (Bb [0,1,2,3,4,5,6,7,8] []) (by kernel_rfl) (by kernel_rfl) (λ_ _ _ _ _ h=>h) ⟨c0,c1⟩ ?_
 iterate 9 (refine DM (v:=?_) rfl (by rfl) ?_ ?_;rotate_left;(· (intro w' hS;(try dsimp only at hS);go_simp;try with_reducible rfl));(try simp only[Ak]))
 refine B4 ?_;simp only[Du,Db];have aX:=A1 (a8.o L.drew W.o.2.1.aa);go_wp2_with (go_at_call 84;refine aX.m ?_;rintro e w3⟨rfl,hA⟩;have bF:=A1 hA);have aW:=bF.o.dM;obtain⟨aL,d,aV,aU,aT⟩:=aW;have hsz:=W.o.1.lt;have E:Hid (Bg w3 fb T (A6 b) name s1/\AU w3 b D' F' d):=⟨W.o.1.ai aL bD.o,aV⟩;have a2:=A1 aL;have a3:=A1 aU;have a7:=A1 aT;have a4:Hid (∀w',AU w' b D' F' d->_):=λw' h'=>a5.o w' d h';refine Hl 13 (λz=>{tmps:=#[A6 fb,.string ⟨l.toArray⟩,undef,undef,.bool false,A0 0,.string ⟨pc.toArray⟩,A0 zn,A0 ze,A0 er,z 12,undef,A6 fb,.string ⟨l.toArray⟩,.string ⟨pc.toArray⟩,y 9,y 0,y 1,y 2,y 3,y 4,y 5,y 6,y 7,y 8,y 10,A0 ze,A6 fb,A6 fb,A6 fb,A6 b,A6 fb,A6 fb,.pointer (some (A9 fb 1)),.string name,.string ⟨pc.toArray⟩,A0 er,z 9,z 0,z 1,z 2,z 3,z 4,z 5,z 6,z 7,z 8,z 10,z 11,undef,undef,undef,undef,undef,undef,undef],defers:=[]}) (λ_=>undef)
  (λw'=>Bg w' fb T (A6 b) name s1/\AU w' b D' F' d/\A4 Aa w3 w') (A4 Aa)
  (λj x w'=>match j with
   | 0=>x=(A6 fb)
   | 1=>x=(A6 fb)
   | 2=>x=(A6 fb)
   | 3=>x=(A6 b)
   | 4=>x=(A6 fb)
   | 5=>x=(A6 fb)
   | 6=>x=.pointer (some (A9 fb 1))
   | 7=>x=.string name
   | 8=>x=.tuple #[A0 Y,A0 ye]
   | 9=>x=.tuple #[A0 Y,A0 ye]
   | 10=>x=A0 Y
   | 11=>x=A0 ye
   | 12=>x=A0 Y
   | _=>True)
  (by kernel_rfl) (by kernel_rfl) rfl ?_ ?_ ?_ ?_
 ·exact⟨E.o.1,E.o.2.aa,(A4.C _ _).aa⟩
 ·intro j x w1 w2 hR a6 X;split at X<;>exact X
 ·clear E;simp only[Fs,Fe,FY,HR]
  repeat' (with_reducible apply And.intro)
  all_goals refine⟨?_,(by intro y L _ _ h;exact Bool.noConfusion h),λy x=>rfl⟩
  all_goals
   intro zz L hS hd hw K hK;obtain⟨I,aG,aB⟩:=hS;simp[Gt,Region.binds,Fu,List.filter_cons]at hd;have c0:=I.c0;have c1:=I.c1;have W:Hid (Bg L fb T (A6 b) name s1/\AU L b D' F' d/\A4 Aa w3 L):=⟨I,aG,aB⟩;have aJ:=A1 hK
  all_goals dsimp only
  all_goals try go_simp
  all_goals try with_reducible exact aJ.o _ _ _ rfl (by simp[Act.put,hd]) (A4.C _ _) W.o
  all_goals
   refine(a4.o L W.o.2.1).mono ?_;rintro e w2⟨rfl,rfl⟩;exact aJ.o _ _ _ rfl (by simp[Act.put,hd]) (A4.C _ _) W.o
 intro z wz hZ X;have z11:=X 11 (by omega);have z12:z 12=A0 Y:=X 12 (by omega);have aN:=A1 hZ;have hbe:(Y-zn==(l.length:Int)+4)=ok:=by
  rw[<-aY.o,aF,N8];simp
 go_wp2;go_ret2
 exact⟨rfl,aN.o.1,(((aD.o.ad (λ_ _ h=>.inr h)).Au W.o.2.2 (λ_ h _=>h.elim)).Au a2.o (λ_ h _=>.inl h)).Au aN.o.2.2 (λ_ h _=>h.elim),
  d,aN.o.2.1,λk hk=>Bi (a3.o k hk) aN.o.2.2.Al,λk hk=>(a7.o k hk).imp id λh=>AQ (AQ aD.o.Al W.o.2.2.Al) h⟩
end
def AI(name:List UInt8):Nat:=AW 4294967295 name
def Lets(B:Nat)(w:World):Prop:=
 B<=w.heap.size/\∀w',Below B w w'->(∀k:Nat,1<=k->k<=4->w'.cell? ⟨0,k,none⟩=some (.string ⟨(D7 k).toArray⟩))/\Lib.TabIs Tryz.prog w' "internal/strconv.uint64pow10" .u64 Lib.pow10Tab
def Lets.ai{B:Nat}{w w':World}{S:Nat->Prop}(h:Lets B w)(d:A4 S w w')(E:∀k,S k->B<=k):Lets B w':=
 ⟨AQ h.1 d.Al,λI z=>h.2 I ((d.cp h.1 λk hk L=>by have:=E k L;omega).trans z)⟩
def Lets.aM{B:Nat}{w w':World}(h:Lets B w)(d:A4 Aa w w'):Lets B w':=h.ai d λ_ h=>h.elim
def Sv(s:Int):(D7 s).length<=1:=by
 unfold D7;split
 ·simp
 ·split
  ·simp
  ·split
   ·simp
   ·split<;>simp
def Zv(lt:List UInt8)(n:Int):(Em lt n).length=lt.length+(19-(Lib.itoa n).length)+(Lib.itoa n).length:=by
 unfold Em;have:=Lib.repeatL_length [48] (19-(Lib.itoa n).length);simp only[Ba,this];simp
def S3{s n:Int}(h:(Lib.itoa n).length<=19):(BN s n).length<=100:=by
 have h1:=Sv s;unfold BN;split
 ·rw[Zv];omega
 ·omega
def M4{B:Nat}{n:Int}(w:World)(k:Nat)(d:1<=k/\k<=4)(hn : -9223372036854775808<=n/\n<=9223372036854775807)(E:(Lib.itoa n).length<=19)(O:Lets B w):
 Calls Tryz.prog 134 #[.int .i64 k,.int .i64 n] w λe w'=>e=.returned (.string ⟨(BN k n).toArray⟩)/\A4 (λ_=>False) w w':=by
 obtain⟨L,I⟩:=O.2 w (N9 _ _);have z:=L k d.1 d.2;by_cases h:k=1\/k=2
 ·have e:BN k n=Em (D7 k) n:=by unfold BN;rw[Ai (by omega)]
  rw[e];exact Zu w k k ⟨rfl,h⟩ (D7 k) n hn (by have:=Sv k;omega) E z I
 ·have e:BN k n=D7 k:=by unfold BN;rw[Ae (by omega)]
  rw[e];refine(Sn w k (by omega) (D7 k) n z).mono ?_;rintro e w'⟨rfl,rfl⟩;exact⟨rfl,A4.C _ _⟩
def CJ(n:Int):Prop:=0<=n/\n<=9223372036854775807/\(Lib.itoa n).length<=19
section
variable {B:Nat} {n:Int} {p:Value}
def OD(w:World)(z k:Nat)(hk:1<=k/\k<=4)(hn:CJ n)(hL:Lets B w):
 Ag 125 #[A6 z,A0 k,A0 n] w (Aj (.agg #[A6 z,.string ⟨(BN k n).toArray⟩,.int .u32 (AI (BN k n))]) λw'=>A4 Aa w w'):=by
 obtain⟨hn1,aB,hd⟩:=hn;have aF:∀w',A4 Aa w w'->_:=λw' hc=>M4 (n:=n) w' k hk ⟨by omega,aB⟩ hd (hL.aM hc);have I:(BN k n).length<=9223372036854775807:=by
  have:=S3 (s:=k) hd;omega
 generalize hnm:BN k n=nm at aF I ⊢;have aG:∀w',_:=λw'=>Ug w' 4294967295 nm (by omega) I;obtain⟨s0,E⟩:∃s0,AI nm=s0:=⟨_,rfl⟩;have X:∀w',Ag 165 #[.int .u32 4294967295,.string ⟨nm.toArray⟩] w' λe aA=>e=.returned (.int .u32 s0)/\w'=aA:=by rw[<-E];exact aG
 rw[E];have W:=A1 aF;have Y:=A1 X
 go_enter func125,ntmps125
 go_wp2_with (fail);refine(W.o _ ((A4.C _ _).ah _)).mono ?_;rintro e d⟨rfl,O⟩;have h:d.heap[w.heap.size]?=some (.cells #[.pointer none,.string ⟨#[]⟩,.int .u32 0] 160 (0,0)):=O.ai (by show (w.heap.push _)[w.heap.size]?=_;rw[IG]) (by simp);have c0:A8 d w.heap.size 0 (.pointer none):=by simp[A8,World.cell?,h]
 have c1:A8 d w.heap.size 1 (.string ⟨#[]⟩):=by simp[A8,World.cell?,h]
 have c2:A8 d w.heap.size 2 (.int .u32 0):=by simp[A8,World.cell?,h]
 have f0:d.frozen? (A9 w.heap.size 0)=false:=by simp[World.frozen?,h]
 have f1:d.frozen? (A9 w.heap.size 1)=false:=by simp[World.frozen?,h]
 have f2:d.frozen? (A9 w.heap.size 2)=false:=by simp[World.frozen?,h]
 have L:=BL (o:=2) (v:=.int .u32 s0) (BL (o:=1) (v:=.string ⟨nm.toArray⟩) (BL (o:=0) (v:=(A6 z)) h));have k1:A4 Aa w d:=((A4.C Aa w).ah _).tr O;have k3:A4 Aa w (((d.setCell (A9 w.heap.size 0) (A6 z)).setCell (A9 w.heap.size 1) (.string ⟨nm.toArray⟩)).setCell (A9 w.heap.size 2) (.int .u32 s0)):=((k1.a1 (by simp) _).a1 (by simp) _).a1 (by simp) _;have aD:=A1 L;have aE:=A1 k3;go_wp2_with (go_at_call 165;refine(Y.o _).mono ?_;rintro e w'⟨rfl,rfl⟩);generalize (((d.setCell (A9 w.heap.size 0) (A6 z)).setCell (A9 w.heap.size 1) (.string ⟨nm.toArray⟩)).setCell (A9 w.heap.size 2) (.int .u32 s0))=w3 at aD aE ⊢;have L:=aD.o;have r0:A8 w3 w.heap.size 0 (A6 z):=by simp[A8,World.cell?,L]
 have r1:A8 w3 w.heap.size 1 (.string ⟨nm.toArray⟩):=by simp[A8,World.cell?,L]
 have r2:A8 w3 w.heap.size 2 (.int .u32 s0):=by simp[A8,World.cell?,L]
 refine Jb (v:=.agg #[A6 z,.string ⟨nm.toArray⟩,.int .u32 s0]) (by simp[results,Tryz.results125,go_sem,r0,r1,r2]) rfl ?_;exact⟨rfl,aE.o⟩
def SE(w:World)(z:Nat)(W:CJ n)(O:Lets B w):
 Ag 192 #[A6 z,A0 n] w λe w'=>∃E,e=.returned (A6 E)/\Bg w' E 237 (A6 z) ⟨(BN 1 n).toArray⟩ (AI (BN 1 n))/\A4 Aa w w'/\w.heap.size<=E:=by
 have d:=A1 (OD w z 1 (by omega) W O);rw[show ((1:Nat):Int)=1 from rfl]at d;generalize hnm:BN 1 n=nm at d ⊢;generalize hs0:AI nm=s0 at d ⊢
 go_enter func192,ntmps192
 go_wp2_with (go_at_call 125;refine d.m ?_;rintro e h⟨rfl,L⟩;have I:=A1 L);go_ret;exact⟨h.heap.size,rfl,(by show (h.heap.push _)[h.heap.size]?=_;rw[IG]),I.o.ah _,I.o.Al⟩
def BY(w:World)(xb:Nat)(T:TypeId)(b:Nat)(name:List UInt8)(s:Nat)(n:Int)(v:Value):Prop:=w.heap[xb]?=some (.cells #[.pointer (some ⟨b,0,none⟩),.string ⟨name.toArray⟩,.int .u32 s,.int .i64 n,v] T (0,0))
section
variable {w w':World} {xb:Nat} {T:TypeId} {b:Nat} {name:List UInt8} {s:Nat} {v:Value}
def BY.c0(h:BY w xb T b name s n v):A8 w xb 0 (A6 b):=by unfold BY at h;simp[A8,World.cell?,h]
def BY.c1(h:BY w xb T b name s n v):A8 w xb 1 (.string ⟨name.toArray⟩):=by unfold BY at h;simp[A8,World.cell?,h]
def BY.c2(h:BY w xb T b name s n v):A8 w xb 2 (.int .u32 s):=by unfold BY at h;simp[A8,World.cell?,h]
def BY.c3(h:BY w xb T b name s n v):A8 w xb 3 (A0 n):=by unfold BY at h;simp[A8,World.cell?,h]
def BY.c4(h:BY w xb T b name s n v):A8 w xb 4 v:=by unfold BY at h;simp[A8,World.cell?,h]
def BY.fz(h:BY w xb T b name s n v)(o:Nat):w.frozen? (A9 xb o)=false:=by unfold BY at h;simp[World.frozen?,h]
def BY.lt(h:BY w xb T b name s n v):xb<w.heap.size:=By h
def BY.s3(h:BY w xb T b name s n v)(x:Int):BY (w.setCell (A9 xb 3) (A0 x)) xb T b name s x v:=BL h
def BY.s4(h:BY w xb T b name s n v)(x:Value):BY (w.setCell (A9 xb 4) x) xb T b name s n x:=BL h
def BY.aa(h:BY w xb T b name s n v):BY w.drew xb T b name s n v:=by unfold BY at h ⊢;exact h
def BY.ai{S:Nat->Prop}(h:BY w xb T b name s n v)(d:A4 S w w')(z:¬S xb):BY w' xb T b name s n v:=d.ai h z
end
def QE(w:World)(z:Nat)(W:CJ n)(O:Lets B w):
 Ag 175 #[A6 z,A0 n] w λe w'=>∃E,e=.returned (A6 E)/\BY w' E 182 z (BN 2 n) (AI (BN 2 n)) n (.slice none 0 0)/\A4 Aa w w'/\w.heap.size<=E:=by
 have d:=A1 (OD w z 2 (by omega) W O);rw[show ((2:Nat):Int)=2 from rfl]at d;generalize hnm:BN 2 n=nm at d ⊢;generalize hs0:AI nm=s0 at d ⊢
 go_enter func175,ntmps175
 go_wp2_with (go_at_call 125;refine d.m ?_;rintro e h⟨rfl,L⟩;have I:=A1 L);go_ret;exact⟨h.heap.size,rfl,(by show (h.heap.push _)[h.heap.size]?=_;rw[IG]),I.o.ah _,I.o.Al⟩
end
def Ej.aY{w z w':World}{b:Nat}{D:DS}{F:Nat->FC}{Ft:Nat->Prop}(h:Ej z Ft w' b D F)(E:A4 Aa w z):Ej w Ft w' b D F:=by
 obtain⟨W,d,L,X,O⟩:=h;exact⟨(E.ad λ_ _ h=>h.elim).tr W,d,L,X,λk I=>(O k I).imp id λh=>AQ E.Al h⟩
section
variable {B b:Nat} {D:DS} {F:Nat->FC} {Ft:Nat->Prop} {n:Int}
def K8.aY{w z w':World}{E:Nat}(h:K8 z Ft E w' b D F)(I:A4 Aa w z):K8 w Ft E w' b D F:=by
 obtain⟨X,d,O,Y,W⟩:=h;exact⟨(I.ad λ_ _ h=>h.elim).tr X,d,O,Y,λk L=>(W k L).imp id λh=>AQ I.Al h⟩
def A3l(w:World)(I:Nat)(name:ByteArray)(s:Nat)(d t v:Int)(aF:0<=d/\d<256)(ht : -9223372036854775808<=t/\t<=9223372036854775807)(hv : -9223372036854775808<=v/\v<=9223372036854775807)(hf:Bg w I 237 (A6 b) name s)(hs:s<4294967296)(h:AU w b D F Ft)(E:∀k,Ft k->k<w.heap.size)(hn:¬Ft I)(hroom : -4611686018427387904<=D.n.AA/\D.n.AA<=9223372036854775807)(hu:AX F D.A5<=4611686018427387904)(hp:0<=D.n.BC/\D.n.BC<=9223372036854775807)(hl:∀f,lookup D.A5 name=some f->(F f).1.length+21<=70368744177664)(hz:(Cv (Bx D F name ⟨(Be d t v++C9 (AW s (Be d t v))).toArray⟩).2.1 (Bx D F name ⟨(Be d t v++C9 (AW s (Be d t v))).toArray⟩).2.2 name).1<=70368744177664/\(Cv D F name).1<=70368744177664):
 Ag 191 #[A6 I,.agg #[A0 d,A0 t,A0 v]] w (Aj (.tuple #[.bool (Hd D F name (Be d t v++C9 (AW s (Be d t v)))),A0 (Bx D F name ⟨(Be d t v++C9 (AW s (Be d t v))).toArray⟩).1]) λw'=>
  Bg w' I 237 (A6 b) name (AW s (Be d t v))/\K8 w Ft I w' b (Bx D F name ⟨(Be d t v++C9 (AW s (Be d t v))).toArray⟩).2.1 (Bx D F name ⟨(Be d t v++C9 (AW s (Be d t v))).toArray⟩).2.2):=by
 have PB:∀w',_:=λw'=>Rw w' d t v aF ht hv;have aB:(Be d t v).length=17:=by simp[Be,CL]
 generalize hle:Be d t v=l at PB aB hz ⊢;have AD:∀w',A4 Aa w w'->_:=λw' hc=>Pc (hf.ai hc (by simp)) hs (h.au E hc) (λk hk=>Bi (E k hk) hc.Al) hn l hroom hu hp (λf hf=>by have:=hl f hf;omega) (by omega) hz;obtain⟨ok,aK⟩:∃ok,Hd D F name (l++C9 (AW s l))=ok:=⟨_,rfl⟩;obtain⟨er,aE⟩:∃er,(Bx D F name ⟨(l++C9 (AW s l)).toArray⟩).1=er:=⟨_,rfl⟩;rw[aK,aE]at AD ⊢;have hlb:=hf.lt;have aH:=A1 PB;have aI:=A1 AD;have aA:=A1 E
 go_enter func191,ntmps191
 go_wp2;have hb:(w.alloc (.cells #[A0 d,A0 t,A0 v] 113)).heap[w.heap.size]?=some (.cells #[A0 d,A0 t,A0 v] 113 (0,0)):=by show (w.heap.push _)[w.heap.size]?=_;rw[IG]
 have p0:(w.alloc (.cells #[A0 d,A0 t,A0 v] 113)).drew.cell? (A9 w.heap.size 0)=some (A0 d):=by show (w.alloc _).cell? _=_;simp only[World.cell?,hb];rfl
 have p1:(w.alloc (.cells #[A0 d,A0 t,A0 v] 113)).drew.cell? (A9 w.heap.size 1)=some (A0 t):=by show (w.alloc _).cell? _=_;simp only[World.cell?,hb];rfl
 have p2:(w.alloc (.cells #[A0 d,A0 t,A0 v] 113)).drew.cell? (A9 w.heap.size 2)=some (A0 v):=by show (w.alloc _).cell? _=_;simp only[World.cell?,hb];rfl
 have W:Hid (A4 Aa w (w.alloc (.cells #[A0 d,A0 t,A0 v] 113)).drew):=((A4.C _ w).ah _).aa;refine Fw (λw'=>w'.cell? (A9 w.heap.size 0)=some (A0 d)/\w'.cell? (A9 w.heap.size 1)=some (A0 t)/\w'.cell? (A9 w.heap.size 2)=some (A0 v)) 8
  (Bb [0,1,2,3,4,5,6,7] [4,5]) (by kernel_rfl) (by kernel_rfl) (λ_ _ _ _ _ h=>h) ⟨p0,p1,p2⟩ ?_
 generalize (w.alloc (.cells #[A0 d,A0 t,A0 v] 113)).drew=w1 at p0 p1 p2 W ⊢
 iterate 4 (refine DM (v:=?_) rfl (by rfl) ?_ ?_;rotate_left;(· (intro w' X;(try dsimp only at X);go_simp;try with_reducible rfl));(try simp only[Ak]))
 refine Di rfl (by rfl) (λK hK=>?_);go_simp;refine(aH.o w1).mono ?_;rintro e Y⟨rfl,z⟩;have q0:=z.ag p0;have q1:=z.ag p1;have q2:=z.ag p2;refine hK _ _ ⟨q0,q1,q2⟩ (λX=>?_);have O:Hid (A4 Aa w Y):=W.o.tr z
 (try simp only[Ak])
 refine Di rfl (by rfl) (λK hK=>?_);go_simp;refine(aI.o Y O.o).mono ?_;rintro e w3⟨rfl,aM,L⟩;have k3:=L.1;have aL:¬((λk=>Ft k\/k=I) w.heap.size):=by
  rintro (h|h)
  ·have:=aA.o _ h;omega
  ·omega
 have kc:∀o u,Y.cell? (A9 w.heap.size o)=some u->w3.cell? (A9 w.heap.size o)=some u:=by
  intro o u hu;have aJ:w.heap.size<Y.heap.size:=by
   rcases F9 w.heap.size Y.heap.size with h|h
   ·exact h
   ·unfold World.cell? at hu;rw[Na h]at hu;simp at hu
  unfold World.cell? at hu ⊢;rw[k3.Am _ aJ aL];exact hu
 refine hK _ _ ⟨kc 0 _ q0,kc 1 _ q1,kc 2 _ q2⟩ (λX=>?_);have aG:=A1 aM;have aD:=A1 (L.aY O.o)
 (try simp only[Ak])
 iterate 2 (refine DM (v:=?_) rfl (by rfl) ?_ ?_;rotate_left;(· (intro w' X;(try dsimp only at X);go_simp;try with_reducible rfl));(try simp only[Ak]))
 refine B4 ?_;simp only[Du,Db];go_wp2;go_ret2;exact⟨rfl,aG.o,aD.o⟩
end
section
variable {B b:Nat} {D:DS} {F:Nat->FC} {Ft:Nat->Prop} {n:Int}
def KK(nm:List UInt8)(ahead:Int):List UInt8:=AO ahead++C9 (AW (AI nm) (AO ahead))
def Js(nm:List UInt8):AI nm<4294967296:=Jp _ _ (by omega)
def Zp(w:World)(ahead:Int)(k:Nat)(z aS:DS)(O aQ:Nat->FC)(e1 e2:Int)(h:AU w b D F Ft)(aD:∀k,Ft k->k<w.heap.size)(hn:CJ n)(hL:Lets B w)(ha : -9223372036854775808<=ahead/\ahead<=9223372036854775807)(hk:¬D.Ap k)(hs:D.A5.length<1099511627776/\D.Aq.length<1099511627776)(h1:CM D ⟨(BN 1 n).toArray⟩ k=(e1,z))(bC:upd F k ([],0)=O)(h2:Bx z O ⟨(BN 1 n).toArray⟩ ⟨(KK (BN 1 n) ahead).toArray⟩=(e2,aS,aQ))(hroom : -4611686018427387904<=z.n.AA/\z.n.AA<=9223372036854775807)(hu:AX O z.A5<=4611686018427387904)(hp:0<=z.n.BC/\z.n.BC<=9223372036854775807)(hl:∀f,lookup z.A5 ⟨(BN 1 n).toArray⟩=some f->(O f).1.length+12<=70368744177664)(hz:(Cv aS aQ ⟨(BN 1 n).toArray⟩).1<=70368744177664/\(Cv z O ⟨(BN 1 n).toArray⟩).1<=70368744177664):
 Ag 236 #[A6 b,A0 n,A0 ahead] w λe w'=>
  (e1≠0/\e=.returned (.tuple #[.pointer none,A0 e1])/\Ej w Ft w' b z O)\/
  (e1=0/\e2≠0/\e=.returned (.tuple #[.pointer none,A0 e2])/\Ej w Ft w' b aS aQ)\/
  (e1=0/\e2=0/\∃d,e=.returned (.tuple #[A6 d,A0 0])/\w.heap.size<=d/\Bg w' d 237 (A6 b) ⟨(BN 1 n).toArray⟩ (AW (AI (BN 1 n)) (AO ahead))/\
   A4 Ft w w'/\∃W,AU w' b aS aQ W/\(∀k,W k->k<w'.heap.size)/\(∀k,W k->Ft k\/w.heap.size<=k)/\¬W d):=by
 have bI:=A1 (SE w b hn hL);have aL:=Js (BN 1 n);generalize hnm:BN 1 n=nm at bI aL h1 h2 hl hz ⊢;have CR:∀w' d,A4 Aa w w'->Bg w' d 237 (A6 b) ⟨nm.toArray⟩ (AI nm)->_:=λw' d hc hf=>Tz hf (h.au aD hc) k hk hs;rw[h1,bC]at CR;have AD:∀w' d aA,Bg w' d 237 (A6 b) ⟨nm.toArray⟩ (AI nm)->AU w' b z O aA->(∀k,aA k->k<w'.heap.size)->¬aA d->_:=
  λw' d aA hf hr aK aZ=>Pc hf aL hr aK aZ (AO ahead) hroom hu hp (λf hf=>by have:=hl f hf;rw[CL];exact this) (by rw[CL];omega) (by
   show (Cv (Bx z O _ ⟨(KK nm ahead).toArray⟩).2.1 (Bx z O _ ⟨(KK nm ahead).toArray⟩).2.2 _).1<=_/\_
   rw[h2];exact hz)
 have e0:AO ahead++C9 (AW (AI nm) (AO ahead))=KK nm ahead:=rfl;rw[e0,h2]at AD;have bN:∀w',_:=λw'=>KI w' ahead ha;generalize hle:AO ahead=l at AD bN ⊢;generalize hok:Hd z O ⟨nm.toArray⟩ (KK nm ahead)=ok at AD;dsimp only at CR AD;have aX:=A1 CR;have bJ:=A1 AD;have a7:=A1 bN;have a6:=A1 aD;rcases PE (e1=0) with aB|aB
 ·subst aB
  go_enter func236,ntmps236
  go_wp2_with (first
   | (go_at_call 192;refine bI.m ?_;rintro e w1⟨d,rfl,hb,hc,aF⟩;have aT:=A1 hb;have aU:=A1 hc;have Y:=A1 aF)
   | (go_at_call 240;refine(aX.o _ _ aU.o aT.o).mono ?_;rintro e w2⟨rfl,hA⟩;have a0:=A1 hA))
  obtain⟨aE,aN,aY,bB,aP⟩:=a0.o;have bM:=aT.o.lt;have aI:¬Ft d:=λh=>by have:=a6.o d h;have:=Y.o;omega
  have aH:¬aN d:=λh=>by rcases aP d h with h|h;exact aI h;omega
  have a9:=aT.o.ai aE aI;have aO:=aE.Al;refine Fw (λ_=>True) 10
   (Bb [0,1,2,3,4,5,6,7,8,9] [4,5]) (by kernel_rfl) (by kernel_rfl) (λ_ _ _ _ _ h=>h) trivial ?_
  have bA:=A1 a9;have a8:=A1 aY;have aR:=A1 bB;have aV:=A1 aP;have bD:=A1 aE;have aJ:=A1 aH;have a1:=A1 bM;have bF:=A1 aO
  iterate 4 (refine DM (v:=?_) rfl (by rfl) ?_ ?_;rotate_left;(· (intro w' hS;(try dsimp only at hS);go_simp;try with_reducible rfl));(try simp only[Ak]))
  refine Di rfl (by rfl) (λK hK=>?_);go_simp;refine(a7.o w2.drew).mono ?_;rintro e w3⟨rfl,L⟩;refine hK _ _ trivial (λhS=>?_);have aW:A4 Aa w2 w3:=⟨L.os,L.DC,L.DE,L.Al,L.Am⟩;have I:=A1 aW
  (try simp only[Ak])
  refine Di rfl (by rfl) (λK hK=>?_);go_simp;refine(bJ.o w3 d aN (bA.o.ai I.o (by simp)) (a8.o.au aR.o I.o) (λk hk=>Bi (aR.o k hk) I.o.Al) aJ.o).mono ?_;rintro e w4⟨rfl,bL,bK,E,bH,bE,aM⟩;refine hK _ _ trivial (λhS=>?_);have bG:=A1 bL;have X:Hid (A4 Ft w w4/\AU w4 b aS aQ E/\(∀k,E k->k<w4.heap.size)/\(∀k,E k->Ft k\/w.heap.size<=k)/\¬E d):=by
   have a2:=bF.o;have a3:=I.o.Al;have a4:=a1.o;have a5:=Y.o;refine⟨((((aU.o.ad λ_ _ h=>h.elim).tr bD.o).Au I.o (λ_ h _=>h.elim)).Au bK (λx hx aD=>?_)),bH,bE,λk hk=>?_,λhx=>?_⟩
   ·rcases hx with hx|rfl
    ·exact(aV.o x hx).resolve_right (by omega)
    ·omega
   ·rcases aM k hk with h|h
    ·exact(aV.o k h).imp id (λh=>by omega)
    ·exact .inr (by omega)
   ·rcases aM d hx with h|h
    ·exact aJ.o h
    ·omega
  (try simp only[Ak])
  iterate 4 (refine DM (v:=?_) rfl (by rfl) ?_ ?_;rotate_left;(· (intro w' hS;(try dsimp only at hS);go_simp;try with_reducible rfl));(try simp only[Ak]))
  refine B4 ?_;simp only[Du,Db];rcases PE (e2=0) with aG|aG
  ·subst aG;go_wp2;go_ret2;exact⟨d,rfl,Y.o,bG.o,X.o.1,E,X.o.2.1,X.o.2.2.1,X.o.2.2.2.1,X.o.2.2.2.2⟩
  ·go_wp2;go_ret2;exact .inr (.inl ⟨trivial,aG,rfl,X.o.1,E,X.o.2.1,X.o.2.2.1,X.o.2.2.2.1⟩)
 ·go_enter func236,ntmps236
  go_wp2_with (first
   | (go_at_call 192;refine bI.m ?_;rintro e w1⟨d,rfl,hb,hc,aF⟩;have aT:=A1 hb;have aU:=A1 hc;have Y:=A1 aF)
   | (go_at_call 240;refine(aX.o _ _ aU.o aT.o).mono ?_;rintro e w2⟨rfl,hA⟩;have a0:=A1 hA))
  go_ret2;exact .inl ⟨aB,rfl,a0.o.aY aU.o⟩
end
end
section
open Go.RowKit
attribute [local go_sem ↓] Go.wp_at_zero Go.wp_at_succ
def DD:Nat->Nat->List UInt8->List Pu×Bool
 | 0,_,_=>([],true)
 | k+1,s,l=>if l.length<21 then ([],true) else
  if C9 (AW s (l.take 17))=(l.drop 17).take 4/\(l.headD 0).toNat<8 then
   ((((l.headD 0).toNat:Int),BG (l.drop 1),BG (l.drop 9)):: (DD k (AW s (l.take 17)) (l.drop 21)).1,(DD k (AW s (l.take 17)) (l.drop 21)).2)
  else ([],false)
def Ri{k s:Nat}{l:List UInt8}(h:l.length<21):DD k s l=([],true):=by cases k<;>simp[DD,h]
def Rl{k s:Nat}{b:UInt8}{d t r:List UInt8}(z:d.length=16)(E:t.length=4)(h:C9 (AW s (b::d))=t)(X:b.toNat<8):
 DD (k+1) s (b::d++t++r)=(((b.toNat:Int),BG d,BG (d.drop 8)):: (DD k (AW s (b::d)) r).1,(DD k (AW s (b::d)) r).2):=by
 have L:(b::d++t++r).take 17=b::d:=by simp[z]
 have Y:((b::d++t++r).drop 17).take 4=t:=by simp[z,E]
 have O:(b::d++t++r).drop 21=r:=by
  rw[Ll,I0 (by simp[z,E])];simp[z,E]
 have W:BG ((b::d++t++r).drop 1)=BG d:=by
  have e:(b::d++t++r).drop 1=d++(t++r):=by simp
  unfold BG;rw[e,H0 (by omega)]
 have I:BG ((b::d++t++r).drop 9)=BG (d.drop 8):=by
  have e:(b::d++t++r).drop 9=d.drop 8++(t++r):=by
   simp only[FL,C8,Du];rw[Lk (by omega)]
  unfold BG;rw[e,H0 (by simp;omega)]
 simp only[DD,L,Y,O,W,I];rw[Ae (by simp[z,E];omega),Ai (by simpa using⟨h,X⟩)];rfl
def Yj{k s:Nat}{b:UInt8}{d t r:List UInt8}(z:d.length=16)(E:t.length=4)(h:¬(C9 (AW s (b::d))=t/\b.toNat<8)):
 DD (k+1) s (b::d++t++r)=([],false):=by
 have I:(b::d++t++r).take 17=b::d:=by simp[z]
 have L:((b::d++t++r).drop 17).take 4=t:=by simp[z,E]
 simp only[DD,I,L];rw[Ae (by simp[z,E];omega),Ae (by simpa using h)]
def ZG{l:List UInt8}(h:21<=l.length):∃(b:UInt8) (d t r:List UInt8),l=b::d++t++r/\d.length=16/\t.length=4:=by
 cases l with
 | nil=>simp at h
 | cons b l=>
  simp at h;refine⟨b,l.take 16,(l.drop 16).take 4,l.drop 20,?_,by simp;omega,by simp;omega⟩;simp only[FL,C8,List.cons.injEq,true_and];rw[show l.drop 20=(l.drop 16).drop 4 by simp,E0,E0]
def A00{l:List UInt8}(h:12<=l.length):∃(d t r:List UInt8),l=d++t++r/\d.length=8/\t.length=4:=by
 refine⟨l.take 8,(l.drop 8).take 4,l.drop 12,?_,by simp;omega,by simp;omega⟩;rw[C8,show l.drop 12=(l.drop 8).drop 4 by simp,E0,E0]
def Gh(s:Nat)(ahead:Int)(l:List UInt8):List Pu×Int:=
 if l.length<12 then ([],0) else
 if C9 (AW s (l.take 8))=(l.drop 8).take 4/\BG l=ahead then
  (if (DD l.length (AW s (l.take 8)) (l.drop 12)).2=true then ((DD l.length (AW s (l.take 8)) (l.drop 12)).1,0) else ([],7))
 else ([],7)
def Rm{s:Nat}{ahead:Int}{d t r:List UInt8}(h:d.length=8)(z:t.length=4):
 Gh s ahead (d++t++r)=if C9 (AW s d)=t/\BG d=ahead then (if (DD (r.length+12) (AW s d) r).2=true then ((DD (r.length+12) (AW s d) r).1,0) else ([],7)) else ([],7):=by
 have I:(d++t++r).take 8=d:=by simp[h]
 have W:((d++t++r).drop 8).take 4=t:=by simp[h,z]
 have L:(d++t++r).drop 12=r:=by
  rw[Ll,I0 (by simp[h,z])];simp[h,z]
 have O:BG (d++t++r)=BG d:=by unfold BG;rw[C8,H0 (by omega)]
 have E:(d++t++r).length=r.length+12:=by simp[h,z];omega
 unfold Gh;rw[Ae (by simp[h,z];omega),I,W,L,O,E]
def B5(w:World)(v:Value)(l:List Pu):Prop:=w.ownsRow 0 113 3 v l.length (AZ l)
def J2:(Tryz.prog.info? 113).map (λi=>(i.zero,i.size,i.bytes))=some (some (.agg #[A0 0,A0 0,A0 0]),3,24):=by kernel_rfl
section
variable {w:World} {b B:Nat} {D:DS} {F:Nat->FC} {Ft:Nat->Prop} {n:Int}
def GD(D:DS)(F:Nat->FC)(nm:List UInt8)(ahead:Int):List Pu×Int:=
 if (DZ D F ⟨nm.toArray⟩).2≠0 then ([],(DZ D F ⟨nm.toArray⟩).2) else Gh (AI nm) ahead (DZ D F ⟨nm.toArray⟩).1
def Ym(w:World)(ahead:Int)(h:AU w b D F Ft)(aJ:∀k,Ft k->k<w.heap.size)(hn:CJ n)(hL:Lets B w)(aI:(DZ D F ⟨(BN 1 n).toArray⟩).1.length<=70368744177664):
 Ag 149 #[A6 b,A0 n,A0 ahead] w λe w'=>∃v,e=.returned (.tuple #[v,A0 (GD D F (BN 1 n) ahead).2])/\B5 w' v (GD D F (BN 1 n) ahead).1/\(∀g,v.ownBlock=some g->w.heap.size<=g)/\A4 Aa w w':=by
 have cG:=A1 (SE w b hn hL);generalize hnm:BN 1 n=nm at cG aI ⊢;have aU:Hid (AI nm<4294967296):=Js nm;have H:=A1 h;have b2:=A1 aJ;obtain⟨R,hR⟩:∃R,GD D F nm ahead=R:=⟨_,rfl⟩;rw[hR];unfold GD at hR;obtain⟨al,aS⟩:∃al,(DZ D F ⟨nm.toArray⟩).1=al:=⟨_,rfl⟩;obtain⟨ae,bP⟩:∃ae,(DZ D F ⟨nm.toArray⟩).2=ae:=⟨_,rfl⟩
 have cQ:Hid (∀w1 lb,A4 Aa w w1->Bg w1 lb 237 (A6 b) ⟨nm.toArray⟩ (AI nm)->
  Ag 166 #[A6 lb] w1 (Aj (.tuple #[.string ⟨al.toArray⟩,A0 ae]) λw'=>A4 Aa w1 w')):=λw1 lb k1 hf=>by
  have:=Uf hf (H.o.au b2.o k1)
  rwa [aS,bP]at this
 rw[aS,bP]at hR;rw[aS]at aI;generalize hs:AI nm=s0 at cG aU hR cQ;have cL:=A1 hR;obtain⟨i0,hi,b3,cI,cC⟩:=DG J2
 go_enter func149,ntmps149
 go_wp2_with (go_at_call 192;refine cG.m ?_;rintro e w1⟨lb,rfl,bR,bC,cN⟩;have cD:=A1 (cQ.o w1 lb bC bR);have bZ:=A1 bR;have b4:=A1 bC;have a7:=A1 cN);refine cD.m ?_;rintro e w2⟨rfl,bD⟩;have cM:=A1 (bZ.o.ai bD (λh=>h));have aX:Hid (A4 Aa w w2):=b4.o.tr bD;have aA:Hid (∀x:Int,R=([],x)->∀w3,A4 Aa w w3->∃v,(Ending.returned (.tuple #[.slice none 0 0,A0 x]):Ending)=.returned (.tuple #[v,A0 R.2])/\B5 w3 v R.1/\(∀g,v.ownBlock=some g->w.heap.size<=g)/\A4 Aa w w3):=λx hx w3 h3=>by
  subst hx;exact⟨_,rfl,Cp _ _ _ _,λg hg=>by simp[Value.ownBlock]at hg,h3⟩
 by_cases he:ae=0
 case neg=>
  have L:R=([],ae):=by rw[<-cL.o,Ai he]
  go_wp2;go_ret2;exact aA.o _ L _ aX.o
 case pos=>
 subst he;have E:(ByteArray.mk al.toArray).size=al.length:=by show al.toArray.size=_;simp
 by_cases aY:al.length<12
 case pos=>
  have L:R=([],0):=by rw[<-cL.o,Ae (by simp)];unfold Gh;rw[Ai aY]
  go_wp2;go_ret2;exact aA.o _ L _ aX.o
 case neg=>
 obtain⟨hd,t4,r,rfl,aE,z⟩:=A00 (l:=al) (by omega);have cO:R=if C9 (AW s0 hd)=t4/\BG hd=ahead then (if (DD (r.length+12) (AW s0 hd) r).2=true then ((DD (r.length+12) (AW s0 hd) r).1,0) else ([],7)) else ([],7):=by
  rw[<-cL.o,Ae (by simp),Rm aE z]
 have aH:=A1 cO;have bU:=A1 (Nl w2.drew lb 237 _ _ s0 hd t4 cM.o aU.o z (by omega));have e1:(ByteArray.mk (hd++t4++r).toArray).extract 0 12=⟨(hd++t4).toArray⟩:=by
  rw[extract_mk,Db,H0 (by simp[aE,z]),Ec (by simp[aE,z])]
 obtain⟨tx,a5⟩:∃tx,ByteArray.mk (hd++t4++r).toArray=tx:=⟨_,rfl⟩;have bE:tx.extract 12 (r.length+12)=⟨r.toArray⟩:=by
  rw[<-a5,extract_mk]
  congr 2
  rw[Ll,I0 (by simp[aE,z]),EU,show 12-(hd++t4).length=0 by simp[aE,z],Db,Ec (by omega)]
 have aQ:(hd++t4++r).length=r.length+12:=by simp[aE,z];omega
 rw[a5]at e1 E ⊢;rw[aQ]at E aI aY;have bN:(0:Int)<=(r.length:Int):=Ge _;generalize b8:r.length=rl at E aI aY bE bN;have aT:=A1 b8;go_wp2;refine Bt (λ_=>True) 10
  (Bb [0,1,2,3,4,5,6,7,8,9] [5]) trivial ?_
 iterate 5 (refine B1 ?_;(try simp only[Ak]))
 refine Bd λK hK=>?_;go_simp;refine bU.m ?_;rintro e w3⟨rfl,b5,b9⟩;refine hK _ _ trivial (λhS=>?_);have a3:=A1 b5;have aG:Hid (A4 Aa w w3):=aX.o.aa.Au b9 λk hk aJ=>by cases hk;have:=a7.o;omega
 (try simp only[Ak])
 iterate 4 (refine B1 ?_;(try simp only[Ak]))
 refine B4 ?_;simp only[Bm,Bl];by_cases Y:C9 (AW s0 hd)=t4
 case neg=>
  have L:R=([],7):=by rw[aH.o,Ae (λh=>Y h.1)]
  have aP:decide (C9 (AW s0 hd)=t4)=false:=Cu Y;go_wp2;go_ret2;exact aA.o _ L _ aG.o
 case pos=>
 have aP:decide (C9 (AW s0 hd)=t4)=true:=Ct Y;have aV:=A1 (Me w3 hd (by omega));have cH:Hid (-9223372036854775808<=BG hd/\BG hd<=9223372036854775807):=by unfold Hid BG wrap64;omega
 generalize hih2:BG hd=ih at aV aH cH;obtain⟨s1,bK⟩:∃s1,AW s0 hd=s1:=⟨_,rfl⟩;have bB:Hid (s1<4294967296):=by rw[<-bK];exact Jp _ _ aU.o
 rw[bK]at aH a3 aP Y ⊢;have bX:=A1 Y;rw[aP];by_cases aD:ih=ahead
 case neg=>
  have L:R=([],7):=by rw[aH.o,Ae (λh=>aD h.2)]
  have bH:(ih !=ahead)=true:=by simpa using aD
  go_wp2_with (go_at_call 168;refine aV.m ?_;rintro e w4⟨rfl,rfl⟩);go_ret2;exact aA.o _ L _ aG.o
 case pos=>
 have aW:Hid (R=if (DD (rl+12) s1 r).2=true then ((DD (rl+12) s1 r).1,0) else ([],7)):=by
  have:=aH.o;rw[Ai ⟨bX.o,aD⟩]at this
  rwa [aT.o]at this
 generalize hP:DD (rl+12) s1 r=P at aW;have cX:=A1 hP;have bH:(ih !=ahead)=false:=by simpa using aD
 go_wp2_with (go_at_call 168;refine aV.m ?_;rintro e w4⟨rfl,rfl⟩);go_loopw [9,13] (λtv v wr=>∃(l:List UInt8) (k:Nat) (W:List Pu),tv=.string ⟨l.toArray⟩/\W.length*21+l.length<=rl/\Hid (∃s,s<4294967296/\Bg wr lb 237 (A6 b) ⟨nm.toArray⟩ s/\B5 wr v W/\(∀g,v.ownBlock=some g->w3.heap.size<=g)/\(A4 Aa w wr/\w3.heap.size<=wr.heap.size)/\l.length<=k/\P=(W++(DD k s l).1,(DD k s l).2))) (λtv _ _=>match tv with | .string x=>x.size|_=>0)
 case atStart=>exact⟨r,rl+12,[],rfl,by simp[aT.o],s1,bB.o,a3.o,Cp _ _ _ _,λg hg=>by simp[Value.ownBlock]at hg,⟨aG.o,Ao _⟩,by have:=aT.o;omega,by rw[cX.o];simp⟩
 case round=>
  obtain⟨l,k,W,rfl,bG,hI⟩:=hrel;have E:(ByteArray.mk l.toArray).size=l.length:=by show l.toArray.size=_;simp
  by_cases a0:l.length<21
  case pos=>
   obtain⟨s,-,-,i3,i4,⟨i5,-⟩,-,i7⟩:=hI.o;rw[Ri a0]at i7;simp only[EF]at i7;have bW:R=(W,0):=by
    have:=aW.o;rw[i7]at this;simpa using this
   subst bW;go_wp2;go_ret2;exact⟨_,rfl,i3,λg hg=>AQ aG.o.Al (i4 g hg),i5⟩
  case neg=>
   obtain⟨c,d,t,q,rfl,O,z⟩:=ZG (l:=l) (by omega);obtain⟨s,i1,i2,i3,i4,⟨i5,cA⟩,i6,i7⟩:=hI.o;obtain⟨k,rfl⟩:∃k',k=k'+1:=⟨k-1,by simp at i6;omega⟩;obtain⟨ap,cp,rfl,hcap1,a4,-⟩:=Bk i3;unfold maxLen at a4;have bU:=A1 (Nl wr.drew lb 237 _ _ s (c::d) t i2 i1 z (by simp;omega));have e1:(ByteArray.mk (c::d++t++q).toArray).extract 0 21=⟨(c::d++t).toArray⟩:=by
    rw[extract_mk,Db,H0 (by simp[O,z]),Ec (by simp[O,z])]
   (have aQ:(c::d++t++q).length=q.length+21:=by simp[O,z];omega);obtain⟨ty,a6⟩:∃ty,ByteArray.mk (c::d++t++q).toArray=ty:=⟨_,rfl⟩;have e2:ty.extract 21 (q.length+21)=⟨q.toArray⟩:=by
    rw[<-a6,extract_mk]
    congr 2
    rw[Ll,I0 (by simp[O,z]),EU,show 21-(c::d++t).length=0 by simp[O,z],Db,Ec (by omega)]
   rw[a6]at e1 E ⊢;rw[aQ]at E bG a0 i6;have aL:=λh1 h2=>@Rl k s c d t q O z h1 h2;have bJ:=λh=>@Yj k s c d t q O z h;generalize hRP:DD (k+1) s (c::d++t++q)=RP at i7 aL bJ;have cB:=A1 aL;have bA:=A1 bJ;have a9:=A1 i7;have H2:=A1 i2;have cS:=A1 i3;have bT:=A1 i4;have cT:=A1 i5;have bY:=A1 cA;have cP:=A1 i6;have cV:=A1 (λw5=>Ru w5 c d (by omega));obtain⟨s',bF⟩:∃s',AW s (c::d)=s':=⟨_,rfl⟩;(have bS:Hid (s'<4294967296):=by rw[<-bF];exact Jp _ _ i1);rw[bF]at bU cB bA;generalize cF:q.length=ql at E bG a0 cP e2;have aO:=A1 cF;have hq0:=BR ql;go_wp2;refine Bt (λ_=>True) 10
    (Bb [0,1,2,3,4,5,6,7,8,9] [5]) trivial ?_
   iterate 5 (refine B1 ?_;(try simp only[Ak]))
   refine Bd λK hK=>?_;go_simp;refine bU.m ?_;rintro e w5⟨rfl,b6,a2⟩;refine hK _ _ trivial (λhS=>?_);have cE:=A1 b6;have bI:Hid (lb<w3.heap.size):=a3.o.lt;(have aZ:Hid (A4 Aa w w5):=cT.o.aa.Au a2 λx hx aJ=>by cases hx;have:=a7.o;omega);have bO:Hid (B5 w5 (.slice ap W.length cp) W):=Aw cS.o λg hg=>a2.Am g (Ay cS.o hg) (λe=>by cases e;have:=bT.o _ hg;have:=bI.o;omega);have b7:Hid (w3.heap.size<=w5.heap.size):=AQ bY.o a2.Al
   (try simp only[Ak])
   iterate 4 (refine B1 ?_;(try simp only[Ak]))
   refine B4 ?_;simp only[Bm,Bl];have aF:=A1 (cV.o w5);have aN:Hid (¬(C9 s'=t/\c.toNat<8)->R=([],7)):=λh=>by
    have h1:=a9.o;rw[bA.o h]at h1;have h2:=aW.o;rw[h1]at h2;simpa using h2
   obtain⟨x1,cJ⟩:∃x1,BG d=x1:=⟨_,rfl⟩;obtain⟨x2,bV⟩:∃x2,BG (d.drop 8)=x2:=⟨_,rfl⟩;rw[cJ,bV]at aF cB;have aK:Hid (∀I,A4 Aa w5 I->C7 (I.alloc (.cells #[A0 c.toNat,A0 x1,A0 x2] 113)) I.heap.size c.toNat x1 x2/\A4 Aa w5 (I.alloc (.cells #[A0 c.toNat,A0 x1,A0 x2] 113))):=λI X=>
    ⟨Bf I _,X.ah _⟩
   by_cases Y:C9 s'=t
   case neg=>
    have L:=aN.o (λh=>Y h.1);rw[show decide (C9 s'=t)=false from Cu Y];go_wp2_with (go_at_call 176;refine aF.m ?_;rintro e I⟨rfl,X⟩;obtain⟨b1,k7⟩:=aK.o I X;have q0:=b1.c0;have q1:=b1.c1;have q2:=b1.c2;have a1:=A1 k7);go_ret2;exact aA.o _ L _ (aZ.o.tr a1.o)
   case pos=>
   rw[show decide (C9 s'=t)=true from Ct Y];by_cases aD:c.toNat<8
   case neg=>
    have L:=aN.o (λh=>aD h.2);rw[show decide (c.toNat<8)=false from Cu aD]at aF;go_wp2_with (go_at_call 176;refine aF.m ?_;rintro e I⟨rfl,X⟩;obtain⟨b1,k7⟩:=aK.o I X;have q0:=b1.c0;have q1:=b1.c1;have q2:=b1.c2;have a1:=A1 k7);go_ret2;exact aA.o _ L _ (aZ.o.tr a1.o)
   case pos=>
    have bL:Hid (∀I,A4 Aa w5 I->
     (((I.alloc (.cells #[A0 c.toNat,A0 x1,A0 x2] 113)).alloc (.cells #[A0 c.toNat,A0 x1,A0 x2] 113)).ownsRow 0 113 3 (.slice ap W.length cp) W.length (AZ W))/\
     ∀w8 a8 aB,App ((I.alloc (.cells #[A0 c.toNat,A0 x1,A0 x2] 113)).alloc (.cells #[A0 c.toNat,A0 x1,A0 x2] 113)) w8 113 3 (.slice ap W.length cp) (.slice a8 (W.length+1) aB) (W.length+1) (AZ W++AZ [((c.toNat:Int),x1,x2)])->
      Bg w8 lb 237 (A6 b) ⟨nm.toArray⟩ s'/\B5 w8 (.slice a8 (W.length+1) aB) (W++[((c.toNat:Int),x1,x2)])/\(∀g,(Value.slice a8 (W.length+1) aB).ownBlock=some g->w3.heap.size<=g)/\A4 Aa w w8/\w3.heap.size<=w8.heap.size):=λI X=>by
     have k9:A4 Aa w5 ((I.alloc (.cells #[A0 c.toNat,A0 x1,A0 x2] 113)).alloc (.cells #[A0 c.toNat,A0 x1,A0 x2] 113)):=(aK.o I X).2.ah _;generalize ((I.alloc (.cells #[A0 c.toNat,A0 x1,A0 x2] 113)).alloc (.cells #[A0 c.toNat,A0 x1,A0 x2] 113))=w9 at k9 ⊢;refine⟨Aw bO.o λg hg=>k9.Am g (Ay bO.o hg) (λh=>h),λw8 a8 aB hA=>?_⟩;have aR:=hA.An (S:=λk=>(Value.slice ap W.length cp).ownBlock=some k) λ_ h=>h;have bQ:w3.heap.size<=w9.heap.size:=AQ b7.o k9.Al;refine⟨(cE.o.ai k9 (λh=>h)).ai aR (λhg=>by have:=bT.o _ hg;have:=bI.o;omega),?_,?_,?_,?_⟩
     ·have:=hA.AE;unfold B5;rw[Ib];simpa using this
     ·intro g hg;rcases hA.BS with h|h
      ·rw[h]at hg;exact bT.o g hg
      ·rw[h]at hg;cases hg;exact bQ
     ·exact(aZ.o.tr k9).Au aR λx hx aJ=>by have:=bT.o x hx;have:=aG.o.Al;omega
     ·exact AQ bQ aR.Al
    rw[show decide (c.toNat<8)=true from Ct aD]at aF
    go_wp2_with (first
     | (go_at_call 176;refine aF.m ?_;rintro e I⟨rfl,X⟩;obtain⟨b1,k7⟩:=aK.o I X;have q0:=b1.c0;have q1:=b1.c1;have q2:=b1.c2;have b0:=A1 X)
     | (at_builtin
        have aM:=A1 (bL.o I b0.o);have bM:=A1 (Src.a8 (size:=3) (B:=I.heap.size+1) underlying97 (I.alloc (.cells #[A0 c.toNat,A0 x1,A0 x2] 113)) #[A0 c.toNat,A0 x1,A0 x2] 113 (by simp) 1 1 rfl (Hp [((c.toNat:Int),x1,x2)]));refine CZ rfl (.tmp 80) (.tmp 82) 97 97 rfl 113 i0 _ 3 24 underlying97 hi b3 cI cC rfl (by decide) (.slice ap W.length cp) W.length (AZ W) (by rfl) aM.o.1 _ 1 _ (by rfl) bM.o (by omega) ?_;intro a8 aB w8 hA;have cU:=A1 (aM.o.2 w8 a8 aB hA)
        clear hA))
    go_roundw
    case rel=>
     obtain⟨r1,r2,r3,r4,r5⟩:=cU.o;refine⟨q,k,W++[((c.toNat:Int),x1,x2)],rfl,by have:=aO.o;simp;omega,s',bS.o,r1,r2,r3,⟨r4,r5⟩,by have:=cP.o;have:=aO.o;omega,?_⟩;rw[a9.o,cB.o Y aD];simp
    case measure=>
     (have e:(ByteArray.mk q.toArray).size=q.length:=by show q.toArray.size=_;simp);have:=aO.o;simp only[e,E];omega
end
end
end Go.Proofs.YtodcnkbblippnaaGreatDoor
