/- Part 7 of a proof: walks of the program. -/
import Derived.Lib.AtoiAllCases
import Derived.Test.YtodcnkbblippnaaGreatDoorCards
import Derived.Test.YtodcnkbblippnaaGreatDoorTie
import Derived.ProofKit
import Derived.OpenShut
import Derived.Carry
import Derived.Deep.DeepHandedRow
import Derived.Deep.DeepWitnessRowRef
import Derived.Deep.Slices
import Derived.Lib.LaidTab
import Derived.Stop.LaidErr
import Derived.Shelf.Strings.BuilderK
import Derived.Test.YtodcnkbblippnaaGreatDoorPart06
namespace Go.Proofs.YtodcnkbblippnaaGreatDoor
set_option maxRecDepth 100000
set_option maxHeartbeats 32000000
set_option linter.defProp false
open Go.Proofs.Tryz
section
open Go.RowKit
attribute [local go_sem ↓] Go.wp_at_zero Go.wp_at_succ
def T6:∀(m u d:Nat) (r:gF UInt8),u<m->d*10 ^ Lib.nDigits u+u<18446744073709551616->Lib.parseUint10 d (Lib.decDigits u++r)=Lib.parseUint10 (d*10 ^ Lib.nDigits u+u) r
 | 0,u,d,r,h,_=>iC
 | m+1,u,d,r,h,hb=>by
  have one:∀(a x:Nat) (r:gF UInt8),x<10->a*10+x<18446744073709551616->Lib.parseUint10 a (UInt8.ofNat (48+x):: r)=Lib.parseUint10 (a*10+x) r:=λa x r hx ha=>by
   (have e:(UInt8.ofNat (48+x)).toNat=48+x:=by simp;omega);simp only[Lib.parseUint10,e];rw[Ai iC,Af iC,Af iC]
   congr 1;omega
  by_cases z:u<10
  ·rw[Lib.decDigits_one z,QD z]at *;simp only[Ga,Fh,Nat.pow_one];exact one d u r z (by simpa using hb)
  ·rw[Wy z,KO]at *;have e:d*(10 ^ Lib.nDigits (u/10)*10)+u=(d*10 ^ Lib.nDigits (u/10)+u/10)*10+u % 10:=by
    rw[<-Qs,Ii];omega
   rw[e]at hb ⊢;have E:Lib.decDigits u=Lib.decDigits (u/10)++[UInt8.ofNat (48+u % 10)]:=by
    rw[Lib.decDigits,Q4 z]
   rw[E,Ci,T6 m (u/10) d _ iC iC];exact one _ _ r iC hb
def ZR(c:Nat)(r:gF UInt8):Lib.parseUint10 0 (List.replicate c 48++r)=Lib.parseUint10 0 r:=by
 induction c with
 | zero=>rfl
 | succ c ih=>simp only[Wg,Ga,Lib.parseUint10];exact ih
def TR(k:Nat):∀u,u<10 ^ k->1<=k->Lib.nDigits u<=k:=by
 induction k with
 | zero=>intro u _ h;omega
 | succ k ih=>
  intro u hu _;by_cases h:u<10
  ·rw[QD h];omega
  ·rw[Wy h];rw[KO]at hu;cases k with
   | zero=>simp at hu;omega
   | succ k=>have:=ih (u/10) iC iC;omega
def N5{n:Int}(h:0<=n):Lib.itoa n=Lib.decDigits n.toNat:=by unfold Lib.itoa;rw[Af iC]
def I3{n:Int}(d:0<=n)(h1:n<=4611686018427387904):CK n:=by
 refine⟨d,iC,?_⟩;rw[N5 d,Wz];exact TR 19 _ iC iC
def Si(c:Nat):Lib.repeatL [48] c=List.replicate c 48:=by
 induction c with
 | zero=>rfl
 | succ c ih=>simp[Lib.repeatL,ih,List.replicate_succ]
def A2x(u:Nat):∃b r,Lib.decDigits u=b::r/\48<=b.toNat/\b.toNat<=57:=by
 induction u using Nat.strongRecOn with
 | ind u ih=>
  by_cases h:u<10
  ·exact⟨_,_,Lib.decDigits_one h,by simp;omega,by simp;omega⟩
  ·have⟨b,r,h1,h2,h3⟩:=ih (u/10) iC;refine⟨b,r++[UInt8.ofNat (48+u % 10)],?_,h2,h3⟩;rw[Lib.decDigits,Q4 h,h1];rfl
def A3H{n:Int}(E:0<=n)(h1:n<=9223372036854775807)(c:Nat):Lib.atoiAll (Lib.repeatL [48] c++Lib.itoa n)=.ok n:=by
 rw[Si,N5 E];have⟨b,r,hb,hb1,hb2⟩:=A2x n.toNat;have d:Lib.parseMag (List.replicate c 48++Lib.decDigits n.toNat)=.ok n.toNat:=by
  unfold Lib.parseMag;rw[Af (by rw[hb];simp),ZR];have:=T6 (n.toNat+1) n.toNat 0 [] iC iC;rw[Gk]at this;rw[this];simp[Lib.parseUint10]
 have I:∃b r,List.replicate c 48++Lib.decDigits n.toNat=b::r/\b.toNat≠43/\b.toNat≠45:=by
  cases c with
  | zero=>exact⟨b,r,by simpa using hb,iC,iC⟩
  | succ c=>exact⟨48,List.replicate c 48++Lib.decDigits n.toNat,by simp[List.replicate_succ],iF,iF⟩
 obtain⟨b2,r2,e,h,z⟩:=I;rw[e]at d ⊢;rw[Lib.atoiAll_plain _ _ h z,d];unfold Lib.signless;dsimp only
 rw[Af iC]
 congr 1
 omega
def UF(a b:gF UInt8):Lib.hasPrefix (a++b) a=true:=by
 unfold Lib.hasPrefix;simp
def Xo(lt:gF UInt8)(n:Int):Lib.trimPrefix (EF lt n) lt=Lib.repeatL [48] (19-(Lib.itoa n).length)++Lib.itoa n:=by
 unfold Lib.trimPrefix EF;rw[Ci,Ai (UF _ _),Ws]
def Ew(lt nm:gF UInt8):Option Int:=match Lib.atoiAll (Lib.trimPrefix nm lt) with
 | .ok v=>if 0<v/\v<=4611686018427387904/\EF lt v=nm then some v else none
 | _=>none
def N0(lt:gF UInt8){n:Int}(h:0<n)(d:n<=4611686018427387904):Ew lt (EF lt n)=some n:=by
 unfold Ew;rw[Xo,A3H iC iC];dsimp only
 rw[Ai ⟨h,d,rfl⟩]
def Ah(n:Int):gF UInt8:=BU 1 n
def AH(n:Int):gF UInt8:=BU 2 n
def AJ:gF UInt8:=[105]
def Bx:gF UInt8:=[100]
def isNum(n:Int):Bool:=decide (1<=n/\n<=4611686018427387904)
def IZ(nm:gF UInt8):Int×Int:=if nm=Bx then (4,0) else (0,0)
def HM(nm:gF UInt8):Int×Int:=if nm=AJ then (3,0) else IZ nm
def HN(nm:gF UInt8):Int×Int:=match Ew [115] nm with
 | some v=>(2,v)
 | none=>HM nm
def Br(nm:gF UInt8):Int×Int:=match Ew [108] nm with
 | some v=>(1,v)
 | none=>HN nm
def Gs(nm:gF UInt8)(k:Nat):Int×Int:=if k=1 then Br nm else if k=2 then HN nm else if k=3 then HM nm else if k=4 then IZ nm else (0,0)
def QQ(s:gF UInt8)(v:Int):Prop:=Lib.atoiAll s=.ok v\/(∀x,Lib.atoiAll s≠.ok x)/\isNum v=false/\(s=[]->v=0)
def Vu:∀x,Lib.atoiAll []≠.ok x:=by
 intro x;have:Lib.atoiAll []=.syntax:=by decide +kernel
 rw[this];intro h;cases h
def Rk(l:gF UInt8):Lib.trimPrefix l l=[]:=by
 unfold Lib.trimPrefix;have:Lib.hasPrefix l l=true:=by simpa using UF l []
 rw[Ai this];simp
def TI{lt nm:gF UInt8}{v:Int}(h:QQ (Lib.trimPrefix nm lt) v):Ew lt nm=if isNum v=true/\EF lt v=nm then some v else none:=by
 unfold Ew;rcases h with h|⟨h,z,-⟩
 ·rw[h];dsimp only
  by_cases d:0<v/\v<=4611686018427387904/\EF lt v=nm
  ·rw[Ai d,Ai ⟨by unfold isNum;exact CN ⟨iC,d.2.1⟩,d.2.2⟩]
  ·rw[Af d,Af];rintro⟨E,z⟩;unfold isNum at E;have:=Jz E;exact d ⟨iC,this.2,z⟩
 ·rw[z,Af iE];cases hx:Lib.atoiAll (Lib.trimPrefix nm lt) with
  | ok x=>exact absurd hx (h x)
  | «syntax»=>rfl
  | range=>rfl
def TN(nm:gF UInt8):Gs nm 1=Br nm:=by simp[Gs]
def TM(nm:gF UInt8):Gs nm 2=HN nm:=by simp[Gs]
def TL(nm:gF UInt8):Gs nm 3=HM nm:=by simp[Gs]
def TK(nm:gF UInt8):Gs nm 4=IZ nm:=by simp[Gs]
def TJ(nm:gF UInt8):Gs nm 5=(0,0):=by simp[Gs]
def A0C{nm:gF UInt8}{k:Nat}{v:Int}(hk:1<=k/\k<=4)(h:QQ (Lib.trimPrefix nm (Di k)) v):
 Gs nm k=if isNum v=decide ((k:Int)=1\/(k:Int)=2)/\BU k v=nm then ((k:Int),v) else Gs nm (k+1):=by
 have O:k=1\/k=2\/k=3\/k=4:=iC
 rcases O with rfl|rfl|rfl|rfl
 ·have e:BU ((1:Nat):Int) v=EF [108] v:=rfl;have z:decide (((1:Nat):Int)=1\/((1:Nat):Int)=2)=true:=iF
  have:=TI h;rw[show Di ((1:Nat):Int)=[108] from rfl]at this;rw[TN,TM,e,z,Br,this];by_cases d:isNum v=true/\EF [108] v=nm
  ·rw[Ai d,Ai d];rfl
  ·rw[Af d,Af d]
 ·have e:BU ((2:Nat):Int) v=EF [115] v:=rfl;have z:decide (((2:Nat):Int)=1\/((2:Nat):Int)=2)=true:=iF
  have:=TI h;rw[show Di ((2:Nat):Int)=[115] from rfl]at this;rw[TM,TL,e,z,HN,this];by_cases d:isNum v=true/\EF [115] v=nm
  ·rw[Ai d,Ai d];rfl
  ·rw[Af d,Af d]
 ·have e:BU ((3:Nat):Int) v=AJ:=rfl;have z:decide (((3:Nat):Int)=1\/((3:Nat):Int)=2)=false:=iF
  rw[TL,TK,e,z,HM];by_cases d:nm=AJ
  ·subst d;have E:isNum v=false/\v=0:=by
    rw[show Di ((3:Nat):Int)=AJ from rfl,Rk]at h;rcases h with h|⟨_,L,I⟩
    ·exact absurd h (Vu v)
    ·exact⟨L,I rfl⟩
   rw[Ai rfl,Ai ⟨E.1,rfl⟩,E.2];rfl
  ·rw[Af d,Af (λh=>d h.2.symm)]
 ·have e:BU ((4:Nat):Int) v=Bx:=rfl;have z:decide (((4:Nat):Int)=1\/((4:Nat):Int)=2)=false:=iF
  rw[TK,TJ,e,z,IZ];by_cases d:nm=Bx
  ·subst d;have E:isNum v=false/\v=0:=by
    rw[show Di ((4:Nat):Int)=Bx from rfl,Rk]at h;rcases h with h|⟨_,L,I⟩
    ·exact absurd h (Vu v)
    ·exact⟨L,I rfl⟩
   rw[Ai rfl,Ai ⟨E.1,rfl⟩,E.2];rfl
  ·rw[Af d,Af (λh=>d h.2.symm)]
end
section
open Go.MuLone Go.RowKit
attribute [local go_sem ↓] Go.wp_at_zero Go.wp_at_succ CL
section
variable{w:gC}{sb:Nat}{jv:gD}{ld wc A8:Int}{ro:Bool}{lv:Nat->gD}{L:Nat->gF Pt}
def RH(w:gC)(h:By w sb 0 jv ld wc A8 ro lv):
 Calls Tryz.prog 38 #[.pointer (some ⟨sb,0,none⟩)] w λe w'=>e=.returned (.agg #[.bool ro,.int .i64 A8])/\A4 (λ_=>False) w w':=by
 have hA:∀o,By (w.alloc o) sb 0 jv ld wc A8 ro lv:=λo=>h.Am ((A4.C (λ_=>False) w).ai o) (λh=>h);have aB:=A1 hA;have H:=A1 h;have hlt:=h.lt
 go_enter_defers func38,ntmps38
 go_wp2_with (go_at_call 61;refine(Iu Tryz.bn ⟨sb,0,none⟩ _ (aB.o _).c0 ((aB.o _).fz 0)).k ?_;rintro w' rfl);have Y:∀o,By ((w.setCell ⟨sb,0,none⟩ (.int .i32 1)).alloc o) sb 1 jv ld wc A8 ro lv/\A4 (One sb) w ((w.setCell ⟨sb,0,none⟩ (.int .i32 1)).alloc o):=λo=>
  ⟨(H.o.s0 1).Am ((A4.C (λ_=>False) _).ai o) (λh=>h),((A4.C (One sb) w).an rfl 0 _).ai o⟩
 have⟨hb1,hc1⟩:=Y (.cells #[.bool false,.int .i64 0] 74);have d:((w.setCell ⟨sb,0,none⟩ (.int .i32 1)).alloc (.cells #[.bool false,.int .i64 0] 74)).heap[w.heap.size]?=some (.cells #[.bool false,.int .i64 0] 74 (0,0)):=by
  have:=Bn (w.setCell ⟨sb,0,none⟩ (.int .i32 1)) (.cells #[.bool false,.int .i64 0] 74);simpa using this
 generalize ((w.setCell ⟨sb,0,none⟩ (.int .i32 1)).alloc (.cells #[.bool false,.int .i64 0] 74))=w1 at hb1 hc1 d ⊢;have c4:=hb1.cK;have c5:=hb1.cR;have r0:w1.cell? ⟨w.heap.size,0,none⟩=some (.bool false):=by simp[World.cell?,d]
 have r1:w1.cell? ⟨w.heap.size,1,none⟩=some (.int .i64 0):=by simp[World.cell?,d]
 have f0:w1.frozen? ⟨w.heap.size,0,none⟩=false:=by simp[World.frozen?,d]
 have f1:w1.frozen? ⟨w.heap.size,1,none⟩=false:=by simp[World.frozen?,d]
 have I:sb≠w.heap.size:=iC
 have aA:=A1 hb1;have O:=A1 hc1;refine O9 (λw'=>w'.cell? ⟨sb,5,none⟩=some (.int .i64 A8)/\w'.cell? ⟨sb,6,none⟩=some (.bool ro)) 11
  [(0,true),(1,true),(2,true),(3,true),(4,true),(5,true),(6,true),(7,true),(8,false),(9,true),(10,false)] (by kernel_rfl) (by kernel_rfl) ⟨c4,c5⟩ ?_
 iterate 8 (refine E8 (v:=?_) rfl (by rfl) ?_ ?_;rotate_left;(· (intro w' E;(try dsimp only at E);go_simp;try with_reducible rfl));(try simp only[BO]))
 refine Dy rfl (by rfl) (λK X=>?_);go_simp;refine X _ _ ⟨by simp[World.cell?_setCell_other,c4],by simp[World.cell?_setCell_other,c5]⟩ (λE=>?_)
 (try simp only[BO])
 iterate 1 (refine E8 (v:=?_) rfl (by rfl) ?_ ?_;rotate_left;(· (intro w' E;(try dsimp only at E);go_simp;try with_reducible rfl));(try simp only[BO]))
 refine Dy rfl (by rfl) (λK X=>?_);go_simp;refine X _ _ ⟨by simp[World.cell?_setCell_other,c4],by simp[World.cell?_setCell_other,c5]⟩ (λE=>?_)
 (try simp only[BO])
 refine FD ?_;simp only[DK,Dm];go_wp2;rw[CL];go_wp2;generalize hW:(((w1.setCell ⟨w.heap.size,0,none⟩ (.bool false)).setCell ⟨w.heap.size,1,none⟩ (.int .i64 0)).setCell ⟨w.heap.size,0,none⟩ (.bool ro)).setCell ⟨w.heap.size,1,none⟩ (.int .i64 A8)=w2;have z:By w2 sb 1 jv ld wc A8 ro lv/\A4 (One sb) w w2/\w2.heap[w.heap.size]?=some (.cells #[.bool ro,.int .i64 A8] 74 (0,0)):=by
  subst hW;refine⟨?_,?_,?_⟩
  ·exact aA.o.Am (S:=One w.heap.size) (((((A4.C (One w.heap.size) w1).an rfl 0 _).an rfl 1 _).an rfl 0 _).an rfl 1 _) I
  ·(have n:∀(p:Addr),p.block=w.heap.size->p.block<w.heap.size->One sb p.block:=λp e h=>iC);exact((((O.o.bc (n _ rfl) _).bc (n _ rfl) _).bc (n _ rfl) _).bc (n _ rfl) _)
  ·have:=BQ (o:=1) (v:=.int .i64 A8) (BQ (o:=0) (v:=.bool ro) (BQ (o:=1) (v:=.int .i64 0) (BQ (o:=0) (v:=.bool false) d)));simpa using this
 refine Iv (f:=62) (args:=#[.pointer (some ⟨sb,0,none⟩)]) iE (by simp[go_sem]) ?_;refine(Is Tryz.bn ⟨sb,0,none⟩ .returning _ ?_ ?_).mono ?_
 ·exact z.1.c0
 ·exact z.1.fz 0
 rintro e u' w''⟨rfl,rfl,rfl⟩;have d0:w2.cell? ⟨w.heap.size,0,none⟩=some (.bool ro):=by simp[World.cell?,z.2.2]
 have d1:w2.cell? ⟨w.heap.size,1,none⟩=some (.int .i64 A8):=by simp[World.cell?,z.2.2]
 refine⟨_,?_,rfl,H.o.dn (w':=w2.drew) z.1 z.2.1.aa⟩;simp[results,Tryz.results38,go_sem,d0,d1]
def Zv(w:gC)(k a b:Int)(h:By w sb 0 jv ld wc A8 ro lv)(z:¬(0<=k/\k<8)):
 Ag 37 #[A5 sb,A0 k,A0 a,A0 b] w (Aj (.tuple #[.slice none 0 0,A0 2]) λw'=>A4 Aa w w'):=by
 have H:=A1 h;have E:Hid (∀w',Ag 63 #[A0 k] w' λe d=>e=.returned (.bool false)/\w'=d):=λw'=>by
  have:=LH w' k
  rwa [CO z]at this
 have c0:=h.c0;have f0:=h.fz 0
 go_enter_defers func37,ntmps37
 go_wp2_with (first
  | (go_at_call 61;refine(Iu Tryz.bn (A9 sb 0) _ c0 f0).k ?_;rintro w' rfl)
  | (go_at_call 63;refine(E.o _).k ?_;rintro w' rfl))
 refine Iv (f:=62) (args:=#[A5 sb]) iE (by simp[go_sem]) ?_;refine(Is Tryz.bn (A9 sb 0) .returning _ ?_ ?_).mono ?_
 ·exact(H.o.s0 1).c0
 ·exact(H.o.s0 1).fz 0
 rintro e u' d⟨rfl,rfl,rfl⟩;exact⟨_,results_tmp2 rfl _ _ _,rfl,H.o.dn (H.o.s0 1) ((A4.C (One sb) w).an rfl 0 _)⟩
def MP(w:gC)(k:Nat)(a b:Int)(h:By w sb 0 jv ld wc A8 ro lv)(hr:EA w lv L)(hk:k<8)(hl:1<=ld/\ld<=4611686018427387904)(hc:Ay A8):
 Ag 37 #[A5 sb,A0 k,A0 a,A0 b] w λe w'=>∃v,e=.returned (.tuple #[v,A0 0])/\
  Ch w' v (piece (L k) (max a (AN A8 ld)) b)/\A4 Aa w w'/\∀g,v.ownBlock=some g->w.heap.size<=g:=by
 have aI:Hid (∀w',Ag 63 #[A0 k] w' λe aA=>e=.returned (.bool true)/\w'=aA):=λw'=>by
  have:=LH w' k
  rwa [CN iC]at this
 have c0:=h.c0;have f0:=h.fz 0;have⟨hb1,hr1,hc1⟩:=h.bG hr;have aH:∀w',By w' sb 1 jv ld wc A8 ro lv->_:=λw' h'=>MY w' sb A8 ld h'.c3 h'.cK hl hc;generalize ho:AN A8 ld=o at aH ⊢;have aL:∀w',By w' sb 1 jv ld wc A8 ro lv->EA w' lv L->_:=λw' h' aG=>A3C w' sb (7+k) (L k) (lv k) (max a o) b (aG.dZ h' hk).b3;have hk1:=BJ k;have hk2:(k:Int)<8:=iC
 have H:=A1 h;have aE:=A1 aH;have aF:=A1 aL;have E:=A1 hb1;have Y:=A1 hr1;have O:=A1 hc1
 go_enter_defers func37,ntmps37
 go_wp2_with (first
  | (go_at_call 61;refine(Iu Tryz.bn (A9 sb 0) _ c0 f0).k ?_;rintro w' rfl)
  | (go_at_call 63;refine(aI.o _).k ?_;rintro w' rfl))
 generalize (w.setCell (A9 sb 0) (.int .i32 1))=w1 at E Y O ⊢;refine O9 (λ_=>True) 11
  (Ba [0,1,2,3,4,5,6,9,7,8,10] [7,10]) (by kernel_rfl) (by kernel_rfl) trivial ?_
 iterate 8 (refine E8 (v:=?_) rfl (by rfl) ?_ ?_;rotate_left;(· (intro w' hS;(try dsimp only at hS);go_simp;try with_reducible rfl));(try simp only[BO]))
 refine Dy rfl (by rfl) (λK hK=>?_);go_simp;refine(aE.o w1.drew E.o).k ?_;rintro w2 d;refine hK _ _ trivial (λhS=>?_);have I:Hid (By w2 sb 1 jv ld wc A8 ro lv/\EA w2 lv L/\A4 (One sb) w w2):=
  have z:A4 Aa w1 w2:=⟨d.os,d.DZ,d.E3,d.Ak,d.Al⟩
  ⟨E.o.Am z (λh=>h),Y.o.Am z (λ_ _ h=>h),O.o.bk z⟩
 (try simp only[BO])
 (refine E8 (v:=?_) rfl (by rfl) ?_ ?_;rotate_left;(· (intro w' hS;(try dsimp only at hS);go_simp;try with_reducible rfl));(try simp only[BO]))
 refine Dy rfl (by rfl) (λK hK=>?_);go_simp;refine(aF.o w2 I.o.1 I.o.2.1).mono ?_;rintro e w3⟨v,rfl,hv,aB,hf⟩;refine hK _ _ trivial (λhS=>?_);have aD:Hid (By w3 sb 1 jv ld wc A8 ro lv/\A4 (One sb) w w3):=⟨I.o.1.Am aB (λh=>h),I.o.2.2.bk aB⟩;have aM:=A1 hv;have aJ:Hid (∀g,v.oB g->w.heap.size<=g):=λg X=>AO I.o.2.2.Ak (hf g X);have aK:Hid (∀g,v.oB g->g≠sb):=λg X e=>by
  have:=hf g X;have:=I.o.1.lt;omega
 (try simp only[BO])
 refine FD ?_;simp only[DK,Dm];go_wp2;rw[CL];go_wp2;refine Iv (f:=62) (args:=#[A5 sb]) iE (by simp[go_sem]) ?_;refine(Is Tryz.bn (A9 sb 0) .returning _ ?_ ?_).mono ?_
 ·exact aD.o.1.c0
 ·exact aD.o.1.fz 0
 rintro e u' aA⟨rfl,rfl,rfl⟩;exact⟨_,results_tmp2 rfl _ _ _,v,rfl,Au aM.o λg X=>FB _ _ _ _ (λe=>aK.o g X (by simpa using e)),H.o.dn aD.o.1 aD.o.2,aJ.o⟩
end
end
section
open Go.RowKit
attribute [local go_sem ↓] Go.wp_at_zero Go.wp_at_succ
def IK(w:gC):Prop:=
 (∃d,w.cell? ⟨1,0,none⟩=some d/\(d=.nilIface\/∃z h,d=.iface z h))/\∃d,w.cell? ⟨2,0,none⟩=some d/\(d=.nilIface\/∃z h,d=.iface z h)
def IK.aL{w w':gC}(h:IK w)(d:A4 Aa w w'):IK w':=by
 obtain⟨⟨I,O,z⟩,X,L,E⟩:=h;exact⟨⟨I,d.ad O,z⟩,X,d.ad L,E⟩
def A1r(s:gF UInt8):isNum (Lib.atoiSat s)=false:=by
 unfold Lib.atoiSat;split<;>rfl
def A3I(w:gC)(s:gF UInt8)(hl:s.length<=281474976710656)(he:IK w):
 Ag 131 #[.string ⟨s.toArray⟩] w λe w'=>∃v L,e=.returned (.tuple #[A0 v,L])/\QQ s v/\A4 Aa w w':=by
 obtain⟨⟨e1,O,E⟩,X,I,k2⟩:=he;have hs:(ByteArray.mk s.toArray).size=s.length:=by show s.toArray.size=_;simp
 have d:(ByteArray.mk s.toArray).data.toList=s:=iE
 cases hr:Lib.atoiAll s with
 | ok v=>
  refine(Tryz.strconv_Atoi_ok ⟨s.toArray⟩ iC v (by rw[d];exact hr) w).k ?_;rintro w' Y;refine⟨v,_,rfl,.inl hr,?_⟩;rcases Y with rfl|⟨t,rfl⟩
  ·exact A4.C _ _
  ·exact A4.dd (Lib.bytesWorld_below _ _ _)
 | «syntax»=>
  refine(Tryz.strconv_Atoi_syntax ⟨s.toArray⟩ iC (by rw[d];exact hr) e1 w O E).mono ?_;rintro e w'⟨N,rfl,-,-,z⟩;exact⟨0,_,rfl,.inr ⟨λx h=>(by rw[hr]at h;cases h),rfl,λ_=>rfl⟩,A4.dd z⟩
 | range=>
  refine(Tryz.strconv_Atoi_range ⟨s.toArray⟩ iC (by rw[d];exact hr) X w I k2).mono ?_;rintro e w'⟨N,rfl,-,-,z⟩;have hn:s≠[]:=by
   rintro rfl;(have:Lib.atoiAll []=.syntax:=by decide +kernel);rw[this]at hr;cases hr
  exact⟨Lib.atoiSat s,_,(by rw[d]),.inr ⟨λx h=>(by rw[hr]at h;cases h),A1r s,λh=>absurd h hn⟩,A4.dd z⟩
def Ui(w:gC)(v:Int):Ag 128 #[A0 v] w (Aj (.bool (isNum v)) λw'=>w=w'):=by
 unfold isNum
 go_enter func128,ntmps128
 by_cases z:1<=v
 ·by_cases d:v<=4611686018427387904
  ·go_wp2;go_ret;exact⟨by simp[z,d],rfl⟩
  ·go_wp2;go_ret;exact⟨by simp[d],rfl⟩
 ·have e:decide (1<=v/\v<=4611686018427387904)=false:=CO λh=>z h.1;rw[e];go_wp2;go_ret;exact⟨rfl,rfl⟩
section
variable{w:gC}{B:Nat}
def TF(w:gC)(nm:gF UInt8)(hl:nm.length<=281474976710656)(he:IK w)(hL:Lets B w):
 Ag 97 #[.string ⟨nm.toArray⟩] w (Aj (.tuple #[A0 (Br nm).1,A0 (Br nm).2]) λw'=>A4 Aa w w'):=by
 have aS:Hid (∀(wr:gC) (k:Nat),Ag 132 #[.string ⟨nm.toArray⟩,.string ⟨(Di k).toArray⟩] wr (Aj (.string ⟨(Lib.trimPrefix nm (Di k)).toArray⟩) λw'=>w'=wr)):=λwr k=>by
  have:=Tryz.strings_TrimPrefix ⟨nm.toArray⟩ ⟨(Di k).toArray⟩ wr;simpa using this
 have aV:Hid (∀wr:gC,A4 Aa w wr->∀k:Nat,1<=k->k<=4->A7 wr 0 k (.string ⟨(Di k).toArray⟩)):=λwr d k h1 h2=>((hL.aL d).2 wr (O6 _ _)).1 k h1 h2
 have aU:Hid (∀wr:gC,A4 Aa w wr->∀k:Nat,_):=λwr d k=>A3I wr (Lib.trimPrefix nm (Di k)) (AO (Lib.trimPrefix_le _ _) hl) (he.aL d);have aT:Hid (∀(wr:gC) (k:Nat) (v:Int),A4 Aa w wr->1<=k->k<=4->isNum v=decide ((k:Int)=1\/(k:Int)=2)->Ag 134 #[A0 k,A0 v] wr λe aQ=>e=.returned (.string ⟨(BU k v).toArray⟩)/\A4 Aa wr aQ):=λwr k v d h1 h2 h3=>by
  by_cases hk:k=1\/k=2
  ·rw[CN iC]at h3;unfold isNum at h3;have hv:=Jz h3;have hn:=I3 (n:=v) iC hv.2;exact N1 wr k ⟨h1,h2⟩ ⟨iC,iC⟩ hn.2.2 (hL.aL d)
  ·(have e:BU k v=Di k:=by unfold BU;rw[Af iC]);rw[e];refine(TP wr k iC (Di k) v (((hL.aL d).2 wr (O6 _ _)).1 k h1 h2)).k ?_;rintro w' rfl;exact⟨rfl,A4.C _ _⟩
 obtain⟨R,hR⟩:=iG (Br nm);have aO:Hid (Gs nm 1=R):=by rw[TN];exact hR
 rw[hR]
 go_enter func97,ntmps97
 go_wp2;go_loopw [4,5,6] (λiv _ _ wr=>∃k:Nat,1<=k/\k<=5/\iv=A0 k/\Hid (A4 Aa w wr)/\Hid (Gs nm k=R)) (λiv _ _ _=>5-(intOf iv).toNat)
 ·exact⟨1,iC,iC,rfl,A4.C _ _,aO.o⟩
 ·obtain⟨k,L,hk2,rfl,d,Y⟩:=hrel;by_cases hk:k<5
  ·have ck:=aV.o wr d.o k L iC;have aJ:=A1 (aS.o wr k);have aE:=A1 (aU.o wr d.o k);have hk0:=BJ k;have hk5:(k:Int)<5:=iC;obtain⟨tr,aG⟩:=iG (Lib.trimPrefix nm (Di k));have aP:=A1 aG;rw[aG]at aJ aE;go_wp2_with (first|(go_at_call 132;refine aJ.k ?_;rintro w1 rfl)|(go_at_call 131;fail));refine aE.m ?_;rintro e w1⟨v,er,rfl,hv,aL⟩;have O:=A0C (k:=k) ⟨L,iC⟩ (by rw[aP.o];exact hv);have z:Hid (A4 Aa w w1):=d.o.tr aL;have X:=A1 (aT.o w1 k v z.o L iC);obtain⟨nb,aI⟩:=iG (isNum v);obtain⟨kb,aH⟩:=iG (decide ((k:Int)=1\/(k:Int)=2));rw[aI,aH]at O X;(have aR:Hid (∀wr,Ag 128 #[A0 v] wr (Aj (.bool nb) λw'=>wr=w')):=λwr=>by rw[<-aI];exact Ui wr v);(have aK:Hid (∀wr,Ag 133 #[A0 k] wr (Aj (.bool kb) λw'=>wr=w')):=λwr=>by rw[<-aH];exact Ps wr k);generalize hn2:BU k v=n2 at O X;have I:=A1 O;(have E:Hid (¬(nb=kb/\n2=nm)->Gs nm (k+1)=R):=λh=>by have:=I.o;rw[Af h]at this;rw[<-this];exact Y.o);(have aM:Hid (nb=kb/\n2=nm->R=((k:Int),v)):=λh=>by have:=I.o;rw[Ai h]at this;rw[<-Y.o];exact this);by_cases hb:nb=kb
   ·subst hb;have aN:(nb==nb)=true:=Vr nb;have aF:=A1 (X.o rfl);by_cases h3:n2=nm
    ·subst h3;have aD:=aM.o ⟨rfl,rfl⟩;subst aD;have hb:=Vr n2;go_wp2_with (first|(go_at_call 128;refine(aR.o _).k ?_;rintro w2 rfl)|(go_at_call 133;refine(aK.o _).k ?_;rintro w2 rfl)|(go_at_call 134;refine aF.k ?_;rintro w2 aB;have aA:=A1 aB));go_ret2;exact⟨rfl,z.o.tr aA.o⟩
    ·have hb:(n2==nm)=false:=I8.2 h3;have hN:=A1 (E.o λh=>h3 h.2);go_wp2_with (first|(go_at_call 128;refine(aR.o _).k ?_;rintro w2 rfl)|(go_at_call 133;refine(aK.o _).k ?_;rintro w2 rfl)|(go_at_call 134;refine aF.k ?_;rintro w2 aB;have aA:=A1 aB));go_roundw
     ·exact⟨k+1,iC,iC,by go_num,z.o.tr aA.o,hN.o⟩
     ·simp[intOf];omega
   ·have hN:=A1 (E.o λh=>hb h.1);have aN:(nb==kb)=false:=I8.2 hb;go_wp2_with (first|(go_at_call 128;refine(aR.o _).k ?_;rintro w2 rfl)|(go_at_call 133;refine(aK.o _).k ?_;rintro w2 rfl));go_roundw
    ·exact⟨k+1,iC,iC,by go_num,z.o,hN.o⟩
    ·simp[intOf];omega
  ·(obtain rfl:k=5:=iC);(have aD:R=(0,0):=by rw[<-Y.o,TJ]);subst aD;go_wp2;go_ret2;exact⟨rfl,d.o⟩
end
end
section
open Go.MuLone Go.RowKit
attribute [local go_sem ↓] Go.wp_at_zero Go.wp_at_succ CL
def Own(sb:Nat)(lv:Nat->gD)(x:Nat):Prop:=x=sb\/F6 lv x
structure EB (w w':gC) (sb:Nat) (mu:Int) (jv:gD) (ld wc A8:Int) (ro:Bool) (lv lv':Nat->gD) (L':Nat->gF Pt):Prop where
 Ae:By w' sb mu jv ld wc A8 ro lv'
 Ed:EA w' lv' L'
 Am:A4 (Own sb lv) w w'
 AB:∀g,F6 lv' g->F6 lv g\/w.heap.size<=g
section
variable{w w' w2:gC}{sb:Nat}{mu aB:Int}{jv:gD}{ld wc A8 aA:Int}{ro aD:Bool}{lv lv' aE:Nat->gD}{L L' L2:Nat->gF Pt}
def EB.AF(h:EB w w' sb mu jv ld wc A8 ro lv lv' L')(z:EB w' w2 sb aB jv ld wc aA aD lv' aE L2):EB w w2 sb aB jv ld wc aA aD lv aE L2:=
 ⟨z.Ae,z.Ed,h.Am.AF z.Am λx d hlt=>by
  rcases d with d|d
  ·exact .inl d
  ·rcases h.AB x d with E|E
   ·exact .inr E
   ·omega,λg I=>by
  rcases z.AB g I with d|d
  ·exact h.AB g d
  ·exact .inr (AO h.Am.Ak d)⟩
def EB.of(E:By w' sb mu jv ld wc A8 ro lv)(z:EA w lv L)(d:A4 (One sb) w w')(O:¬F6 lv sb):EB w w' sb mu jv ld wc A8 ro lv lv L:=
 ⟨E,z.Am d (λg I e=>O (by cases e;exact I)),d.ah λ_ _ h=>.inl h,λ_ h=>.inl h⟩
def EB.av(h:EB w w' sb mu jv ld wc A8 ro lv lv' L')(d:A4 Aa w' w2):EB w w2 sb mu jv ld wc A8 ro lv lv' L':=
 ⟨h.Ae.Am d (λh=>h),h.Ed.Am d (λ_ _ h=>h),h.Am.bk d,h.AB⟩
def EB.CQ(h:EB w w' sb mu jv ld wc A8 ro lv lv' L')(o:Nat)(u:gD)(d:By (w'.setCell (A9 sb o) u) sb aB jv ld wc aA aD lv'):EB w (w'.setCell (A9 sb o) u) sb aB jv ld wc aA aD lv lv' L':=
 ⟨d,h.Ed.Am ((A4.C (One sb) w').an rfl o u) (λg z e=>h.Ed.ne h.Ae iF (by cases e;exact z)),h.Am.an (.inl rfl) o u,h.AB⟩
def HG(L L':Nat->gF Pt)(o:Int):Prop:=∀i,i<8->L' i=L i\/L' i=(L i).drop (BF (L i) o)
def Xt(c x:Int):min c (9223372036854775807-x)+x=DL c x:=by
 unfold DL;split<;>omega
def Mz{c x:Int}(d:Ay c)(hx:0<=x)(hx2:x<=9223372036854775807):Ay (DL c x):=by
 obtain⟨h1,h2⟩:=d;unfold DL;split<;>constructor<;>omega
def Xu(w:gC)(x:Int)(h:By w sb 0 jv ld wc A8 ro lv)(hx:x<0):
 Ag 27 #[A5 sb,A0 x] w (Aj (A0 3) λw'=>A4 Aa w w'):=by
 have H:=A1 h;have c0:=h.c0;have f0:=h.fz 0
 go_enter_defers func27,ntmps27
 go_wp2_with (go_at_call 61;refine(Iu Tryz.bn (A9 sb 0) _ c0 f0).k ?_;rintro w' rfl);refine Iv (f:=62) (args:=#[A5 sb]) iE (by simp[go_sem]) ?_;refine(Is Tryz.bn (A9 sb 0) .returning _ ?_ ?_).mono ?_
 ·exact(H.o.s0 1).c0
 ·exact(H.o.s0 1).fz 0
 rintro e u' w''⟨rfl,rfl,rfl⟩;exact⟨_,Ko rfl _ _ _,rfl,H.o.dn (H.o.s0 1) ((A4.C (One sb) w).an rfl 0 _)⟩
def Rm(w:gC)(x:Int)(h:By w sb 0 jv ld wc A8 ro lv)(hr:EA w lv L)(hx:0<=x/\x<=9223372036854775807)(hl:1<=ld/\ld<=4611686018427387904)(hc:Ay A8):
 Ag 27 #[A5 sb,A0 x] w (Aj (A0 0) λw'=>
  ∃lv' L',EB w w' sb 0 jv ld wc (DL A8 x) ro lv lv' L'/\HG L L' (AN (DL A8 x) ld)):=by
 obtain⟨aH,aF⟩:=hx;have E:=Mz hc aH aF;have ew1:IntKind.i64.wrap (9223372036854775807-x)=9223372036854775807-x:=E9 iC;have aK:IntKind.i64.wrap (min A8 (9223372036854775807-x)+x)=DL A8 x:=by
  rw[Xt];obtain⟨h1,h2⟩:=E;simp[IntKind.wrap,IntKind.bits,IntKind.signed];omega
 have c0:=h.c0;have f0:=h.fz 0;have⟨hb1,hr1,hc1⟩:=h.bG hr;have hn:=hr.ne h iF;have d3:=hb1.cK;have d3f:=hb1.fz 5;have aI:EB w (w.setCell (A9 sb 0) (.int .i32 1)) sb 1 jv ld wc A8 ro lv lv L:=EB.of hb1 hr hc1 hn;have aL:∀z,Hid (EB w ((w.setCell (A9 sb 0) (.int .i32 1)).setCell (A9 sb 5) (A0 z)) sb 1 jv ld wc z ro lv lv L):=λz=>aI.CQ 5 _ (hb1.sK z);generalize hcc:DL A8 x=z at aK E ⊢;have aN:=aL z;have aM:∀w' lv',By w' sb 1 jv ld wc z ro lv'->_:=λw' lv' h'=>MY w' sb z ld h'.c3 h'.cK hl E;generalize ho:AN z ld=o at aM ⊢;have aG:=A1 aM
 go_enter_defers func27,ntmps27
 go_wp2_with (go_at_call 61;refine(Iu Tryz.bn (A9 sb 0) _ c0 f0).k ?_;rintro w' rfl);generalize ((w.setCell (A9 sb 0) (.int .i32 1)).setCell (A9 sb 5) (A0 z))=w1 at aN ⊢;go_loopw [27] (λiv wr=>∃k:Nat,k<=8/\iv=A0 k/\Hid (∃lv' L',EB w wr sb 1 jv ld wc z ro lv lv' L'/\HG L L' o/\∀i,k<=i->L' i=L i)) (λiv _=>8-(intOf iv).toNat)
 ·exact⟨0,iC,rfl,lv,L,aN.o,λi _=>.inl rfl,λi _=>rfl⟩
 ·obtain⟨k,hk,rfl,hH⟩:=hrel;obtain⟨w0,aJ⟩:=iH wr;subst aJ;have k0:=BJ k;by_cases I:k<8
  ·have k1:(k:Int)<8:=iC
   have aR:Hid (∀w2,(∃lv' L',EB w w2 sb 1 jv ld wc z ro lv lv' L'/\HG L L' o/\∀i,k<=i->L' i=L i)->Ag 72 #[.pointer (some (A9 sb (7+k))),A0 o] w2 (Aj (.tuple #[]) λw'=>
    ∃lv' L',EB w w' sb 1 jv ld wc z ro lv lv' L'/\HG L L' o/\∀i,k+1<=i->L' i=L i)):=λw2 ⟨lv',L',d,O,a3⟩=>by
    refine(A18 w2 sb (7+k) _ _ iF _ _ o (d.Ed.dZ d.Ae I)).k ?_;rintro w3⟨L2,v2,X,hR⟩;have Y:L2.length<=(L' k).length:=by
     rcases X with rfl|rfl
     ·exact An _
     ·rw[Cz];omega
    have⟨b1,b2,b3,b4⟩:=d.Ed.al d.Ae I hR rfl (NO Y (d.Ed.Cw k I));refine⟨rfl,Iq lv' k v2,HH L' k L2,d.AF ⟨b1,b2,b3,b4⟩,λi hi=>?_,λi hi=>?_⟩
    ·unfold HH;by_cases e:i=k
     ·subst e;simp only[Cs];rw[a3 i (An _)]at X;exact X
     ·simp only[e,Cf];exact O i hi
    ·unfold HH;rw[Af iC];exact a3 i iC
   have aP:Hid (∀w2,(∃lv' L',EB w w2 sb 1 jv ld wc z ro lv lv' L'/\HG L L' o/\∀i,k<=i->L' i=L i)->Ag 71 #[A5 sb] w2 (Aj (A0 o) λw'=>∃lv' L',EB w w' sb 1 jv ld wc z ro lv lv' L'/\HG L L' o/\∀i,k<=i->L' i=L i)):=λw2 ⟨lv',L',d,O,a3⟩=>by
    refine(aG.o w2 lv' d.Ae).k ?_;rintro w3 hc;exact⟨rfl,lv',L',d.av hc,O,a3⟩
   go_wp2;refine O9 (λ_=>True) 7
    (Ba [0,1,2,3,4,5,6] [6]) (by kernel_rfl) (by kernel_rfl) trivial ?_
   iterate 6 (refine E8 (v:=?_) rfl (by rfl) ?_ ?_;rotate_left;(· (intro w' hS;(try dsimp only at hS);go_simp;try with_reducible rfl));(try simp only[BO]))
   refine Dy rfl (by rfl) (λK hK=>?_);go_simp;refine(aP.o w0.drew (by have⟨lv',L',d,O⟩:=hH.o;exact⟨lv',L',d.av ((A4.C _ w0).aa),O⟩)).k ?_;rintro w2 h2;refine hK _ _ trivial (λhS=>?_);have aQ:=A1 h2
   (try simp only[BO])
   refine FD ?_;simp only[DK,Dm];go_wp2_with (go_at_call 72;refine(aR.o _ aQ.o).k ?_;rintro w3 h3;have aO:=A1 h3);rw[CL];go_wp2;go_roundw
   ·exact⟨k+1,iC,by go_num,aO.o⟩
   ·simp[intOf];omega
  ·(obtain rfl:k=8:=iC);go_wp2;refine Iv (f:=62) (args:=#[A5 sb]) iE (by simp[go_sem]) ?_;obtain⟨lv',L',d,O,-⟩:=hH.o;refine(Is Tryz.bn (A9 sb 0) .returning _ ?_ ?_).mono ?_
   ·exact d.Ae.c0
   ·exact d.Ae.fz 0
   rintro e u' w''⟨rfl,rfl,rfl⟩;exact⟨_,Ko rfl _ _ _,rfl,lv',L',d.CQ 0 _ (d.Ae.s0 0),O⟩
end
end
section
open Go.RowKit
attribute [local go_sem ↓] Go.wp_at_zero Go.wp_at_succ
section
variable{w:gC}{b B:Nat}{D:DS}{F:Nat->FC}{Ft:Nat->Prop}{n:Int}
def H8(D:DS)(F:Nat->FC)(nm:gF UInt8)(d:Int):gF Pu×Int:=
 if (Eh D F ⟨nm.toArray⟩).2≠0 then ([],(Eh D F ⟨nm.toArray⟩).2) else GF (AI nm) d (Eh D F ⟨nm.toArray⟩).1
def Zt(w:gC)(ag:Int)(h:AU w b D F Ft)(aK:∀k,Ft k->k<w.heap.size)(hn:CK n)(hL:Lets B w)(aJ:(Eh D F ⟨(BU 1 n).toArray⟩).1.length<=70368744177664):
 Ag 149 #[A5 b,A0 n,A0 ag] w λe w'=>∃v,e=.returned (.tuple #[v,A0 (H8 D F (BU 1 n) ag).2])/\B1 w' v (H8 D F (BU 1 n) ag).1/\(∀g,v.ownBlock=some g->w.heap.size<=g)/\A4 Aa w w':=by
 have cE:=A1 (U5 w b hn hL);generalize hnm:BU 1 n=nm at cE aJ ⊢;have aV:Hid (AI nm<4294967296):=Kg nm;have H:=A1 h;have b3:=A1 aK;obtain⟨R,hR⟩:=iG (H8 D F nm ag);rw[hR];unfold H8 at hR;obtain⟨al,aT⟩:=iG ((Eh D F ⟨nm.toArray⟩).1);obtain⟨ae,bQ⟩:=iG ((Eh D F ⟨nm.toArray⟩).2)
 have cN:Hid (∀w1 lb,A4 Aa w w1->Bi w1 lb 237 (A5 b) ⟨nm.toArray⟩ (AI nm)->
  Ag 166 #[A5 lb] w1 (Aj (.tuple #[.string ⟨al.toArray⟩,A0 ae]) λw'=>A4 Aa w1 w')):=λw1 lb k1 hf=>by
  have:=VN hf (H.o.av b3.o k1)
  rwa [aT,bQ]at this
 rw[aT,bQ]at hR;rw[aT]at aJ;generalize hs:AI nm=s0 at cE aV hR cN;have cH:=A1 hR;have⟨i0,hi,hz0,hz1,hz2⟩:=DQ J5
 go_enter func149,ntmps149
 go_wp2_with (go_at_call 192;refine cE.m ?_;rintro e w1⟨lb,rfl,bS,bD,cJ⟩;have cB:=A1 (cN.o w1 lb bD bS);have b0:=A1 bS;have b4:=A1 bD;have a9:=A1 cJ);refine cB.k ?_;rintro w2 bE;have cI:=A1 (b0.o.aj bE (λh=>h));have aY:Hid (A4 Aa w w2):=b4.o.tr bE;have aB:Hid (∀x:Int,R=([],x)->∀w3,A4 Aa w w3->∃v,(Ending.returned (.tuple #[.slice none 0 0,A0 x]):Ending)=.returned (.tuple #[v,A0 R.2])/\B1 w3 v R.1/\(∀g,v.ownBlock=some g->w.heap.size<=g)/\A4 Aa w w3):=λx hx w3 h3=>by
  subst hx;exact⟨_,rfl,Cq _ _ _ _,λg hg=>by simp[Value.ownBlock]at hg,h3⟩
 by_cases he:ae=0
 case neg=>
  have L:R=([],ae):=by rw[<-cH.o,Ai he]
  go_wp2;go_ret2;exact aB.o _ L _ aY.o
 case pos=>
 subst he;have E:(ByteArray.mk al.toArray).size=al.length:=by show al.toArray.size=_;simp
 by_cases aZ:al.length<12
 case pos=>
  have L:R=([],0):=by rw[<-cH.o,Af iE];unfold GF;rw[Ai aZ]
  go_wp2;go_ret2;exact aB.o _ L _ aY.o
 case neg=>
 obtain⟨hd,t4,r,rfl,aF,z⟩:=A13 (l:=al) iC;have cL:R=if Cl (AY s0 hd)=t4/\BM hd=ag then (if (E2 (r.length+12) (AY s0 hd) r).2=true then ((E2 (r.length+12) (AY s0 hd) r).1,0) else ([],7)) else ([],7):=by
  rw[<-cH.o,Af iE,SJ aF z]
 have aI:=A1 cL;have bV:=A1 (Oi w2.drew lb 237 _ _ s0 hd t4 cI.o aV.o z iC);have e1:(ByteArray.mk (hd++t4++r).toArray).extract 0 12=⟨(hd++t4).toArray⟩:=by
  rw[extract_mk,Dm,HC (by simp[aF,z]),Eu (by simp[aF,z])]
 obtain⟨tx,a6⟩:=iG (ByteArray.mk (hd++t4++r).toArray);have bF:tx.extract 12 (r.length+12)=⟨r.toArray⟩:=by
  rw[<-a6,extract_mk]
  congr 2
  rw[Mm,IG (by simp[aF,z]),Fh,show 12-(hd++t4).length=0 by simp[aF,z],Dm,Eu iC]
 have aR:(hd++t4++r).length=r.length+12:=by simp[aF,z];omega
 rw[a6]at e1 E ⊢;rw[aR]at E aJ aZ;have bO:(0:Int)<=(r.length:Int):=GA _;generalize b8:r.length=rl at E aJ aZ bF bO;have aU:=A1 b8;go_wp2;refine Bq (λ_=>True) 10
  (Ba [0,1,2,3,4,5,6,7,8,9] [5]) trivial ?_
 iterate 5 refine B4 ?_
 refine Bf λK hK=>?_;go_simp;refine bV.k ?_;rintro w3⟨b5,b9⟩;refine hK _ _ trivial (λhS=>?_);have a4:=A1 b5;have aH:Hid (A4 Aa w w3):=aY.o.aa.AF b9 λk hk aK=>by cases hk;have:=a9.o;omega
 iterate 4 refine B4 ?_
 refine Bl ?_;by_cases aA:Cl (AY s0 hd)=t4
 case neg=>
  have L:R=([],7):=by rw[aI.o,Af (λh=>aA h.1)]
  have aQ:decide (Cl (AY s0 hd)=t4)=false:=CO aA;go_wp2;go_ret2;exact aB.o _ L _ aH.o
 case pos=>
 have aQ:decide (Cl (AY s0 hd)=t4)=true:=CN aA;have aW:=A1 (N6 w3 hd iC);have cF:Hid (-9223372036854775808<=BM hd/\BM hd<=9223372036854775807):=by unfold Hid BM wrap64;omega
 generalize hih2:BM hd=ih at aW aI cF;obtain⟨s1,bL⟩:=iG (AY s0 hd);have bC:Hid (s1<4294967296):=by rw[<-bL];exact Kd _ _ aV.o
 rw[bL]at aI a4 aQ aA ⊢;have bY:=A1 aA;rw[aQ];by_cases aE:ih=ag
 case neg=>
  have L:R=([],7):=by rw[aI.o,Af (λh=>aE h.2)]
  have bI:(ih !=ag)=true:=by simpa using aE
  go_wp2_with (go_at_call 168;refine aW.k ?_;rintro w4 rfl);go_ret2;exact aB.o _ L _ aH.o
 case pos=>
 have aX:Hid (R=if (E2 (rl+12) s1 r).2=true then ((E2 (rl+12) s1 r).1,0) else ([],7)):=by
  have:=aI.o;rw[Ai ⟨bY.o,aE⟩]at this
  rwa [aU.o]at this
 generalize hP:E2 (rl+12) s1 r=P at aX;have cT:=A1 hP;have bI:(ih !=ag)=false:=by simpa using aE
 go_wp2_with (go_at_call 168;refine aW.k ?_;rintro w4 rfl);go_loopw [9,13] (λtv v wr=>∃(l:gF UInt8) (k:Nat) (X:gF Pu),tv=.string ⟨l.toArray⟩/\X.length*21+l.length<=rl/\Hid (∃s,s<4294967296/\Bi wr lb 237 (A5 b) ⟨nm.toArray⟩ s/\B1 wr v X/\(∀g,v.ownBlock=some g->w3.heap.size<=g)/\(A4 Aa w wr/\w3.heap.size<=wr.heap.size)/\l.length<=k/\P=(X++(E2 k s l).1,(E2 k s l).2))) (λtv _ _=>match tv with | .string x=>x.size|_=>0)
 ·exact⟨r,rl+12,[],rfl,by simp[aU.o],s1,bC.o,a4.o,Cq _ _ _ _,λg hg=>by simp[Value.ownBlock]at hg,⟨aH.o,An _⟩,by have:=aU.o;omega,by rw[cT.o];simp⟩
 ·obtain⟨l,k,X,rfl,bH,hI⟩:=hrel;have E:(ByteArray.mk l.toArray).size=l.length:=by show l.toArray.size=_;simp
  by_cases a1:l.length<21
  case pos=>
   obtain⟨s,-,-,i3,i4,⟨i5,-⟩,-,i7⟩:=hI.o;rw[SD a1]at i7;simp only[Gk]at i7;have bX:R=(X,0):=by
    have:=aX.o;rw[i7]at this;simpa using this
   subst bX;go_wp2;go_ret2;exact⟨_,rfl,i3,λg hg=>AO aH.o.Ak (i4 g hg),i5⟩
  case neg=>
   obtain⟨c,d,t,q,rfl,O,z⟩:=A0Q (l:=l) iC;have⟨s,i1,i2,i3,i4,⟨i5,i5b⟩,i6,i7⟩:=hI.o;obtain⟨k,rfl⟩:∃k',k=k'+1:=⟨k-1,by simp at i6;omega⟩;obtain⟨ap,cp,rfl,hcap1,a5,-⟩:=B8 i3;unfold maxLen at a5;have bV:=A1 (Oi wr.drew lb 237 _ _ s (c::d) t i2 i1 z (by simp;omega));have e1:(ByteArray.mk (c::d++t++q).toArray).extract 0 21=⟨(c::d++t).toArray⟩:=by
    rw[extract_mk,Dm,HC (by simp[O,z]),Eu (by simp[O,z])]
   (have aR:(c::d++t++q).length=q.length+21:=by simp[O,z];omega);obtain⟨ty,a7⟩:=iG (ByteArray.mk (c::d++t++q).toArray);have e2:ty.extract 21 (q.length+21)=⟨q.toArray⟩:=by
    rw[<-a7,extract_mk]
    congr 2
    rw[Mm,IG (by simp[O,z]),Fh,show 21-(c::d++t).length=0 by simp[O,z],Dm,Eu iC]
   rw[a7]at e1 E ⊢;rw[aR]at E bH a1 i6;have aM:=λh1 h2=>@SH k s c d t q O z h1 h2;have bK:=λh=>@Zq k s c d t q O z h;generalize hRP:E2 (k+1) s (c::d++t++q)=RP at i7 aM bK;have cA:=A1 aM;have bB:=A1 bK;have bA:=A1 i7;have H2:=A1 i2;have cO:=A1 i3;have bU:=A1 i4;have cP:=A1 i5;have bZ:=A1 i5b;have cM:=A1 i6;have cS:=A1 (λw5=>SS w5 c d iC);obtain⟨s',bG⟩:=iG (AY s (c::d));(have bT:Hid (s'<4294967296):=by rw[<-bG];exact Kd _ _ i1);rw[bG]at bV cA bB;generalize cD:q.length=ql at E bH a1 cM e2;have aP:=A1 cD;have hq0:=BJ ql;go_wp2;refine Bq (λ_=>True) 10
    (Ba [0,1,2,3,4,5,6,7,8,9] [5]) trivial ?_
   iterate 5 refine B4 ?_
   refine Bf λK hK=>?_;go_simp;refine bV.k ?_;rintro w5⟨b6,a3⟩;refine hK _ _ trivial (λhS=>?_);have cC:=A1 b6;have bJ:Hid (lb<w3.heap.size):=a4.o.lt;(have a0:Hid (A4 Aa w w5):=cP.o.aa.AF a3 λx hx aK=>by cases hx;have:=a9.o;omega);have bP:Hid (B1 w5 (.slice ap X.length cp) X):=Au cO.o λg hg=>a3.Al g (Aw cO.o hg) (λe=>by cases e;have:=bU.o _ hg;have:=bJ.o;omega);have b7:Hid (w3.heap.size<=w5.heap.size):=AO bZ.o a3.Ak
   iterate 4 refine B4 ?_
   refine Bl ?_;have aG:=A1 (cS.o w5);have aO:Hid (¬(Cl s'=t/\c.toNat<8)->R=([],7)):=λh=>by
    have h1:=bA.o;rw[bB.o h]at h1;have h2:=aX.o;rw[h1]at h2;simpa using h2
   obtain⟨x1,cG⟩:=iG (BM d);obtain⟨x2,bW⟩:=iG (BM (d.drop 8));rw[cG,bW]at aG cA;have aL:Hid (∀I,A4 Aa w5 I->Cg (I.alloc (.cells #[A0 c.toNat,A0 x1,A0 x2] 113)) I.heap.size c.toNat x1 x2/\A4 Aa w5 (I.alloc (.cells #[A0 c.toNat,A0 x1,A0 x2] 113))):=λI Y=>
    ⟨Bn I _,Y.ai _⟩
   by_cases aA:Cl s'=t
   case neg=>
    have L:=aO.o (λh=>aA h.1);rw[show decide (Cl s'=t)=false from CO aA];go_wp2_with (go_at_call 176;refine aG.k ?_;rintro I Y;have⟨b1,k7⟩:=aL.o I Y;have q0:=b1.c0;have q1:=b1.c1;have q2:=b1.c2;have a2:=A1 k7);go_ret2;exact aB.o _ L _ (a0.o.tr a2.o)
   case pos=>
   rw[show decide (Cl s'=t)=true from CN aA];by_cases aE:c.toNat<8
   case neg=>
    have L:=aO.o (λh=>aE h.2);rw[show decide (c.toNat<8)=false from CO aE]at aG;go_wp2_with (go_at_call 176;refine aG.k ?_;rintro I Y;have⟨b1,k7⟩:=aL.o I Y;have q0:=b1.c0;have q1:=b1.c1;have q2:=b1.c2;have a2:=A1 k7);go_ret2;exact aB.o _ L _ (a0.o.tr a2.o)
   case pos=>
    have bM:Hid (∀I,A4 Aa w5 I->
     (((I.alloc (.cells #[A0 c.toNat,A0 x1,A0 x2] 113)).alloc (.cells #[A0 c.toNat,A0 x1,A0 x2] 113)).ownsRow 0 113 3 (.slice ap X.length cp) X.length (B5 X))/\
     ∀w8 a8 aD,App ((I.alloc (.cells #[A0 c.toNat,A0 x1,A0 x2] 113)).alloc (.cells #[A0 c.toNat,A0 x1,A0 x2] 113)) w8 113 3 (.slice ap X.length cp) (.slice a8 (X.length+1) aD) (X.length+1) (B5 X++B5 [((c.toNat:Int),x1,x2)])->
      Bi w8 lb 237 (A5 b) ⟨nm.toArray⟩ s'/\B1 w8 (.slice a8 (X.length+1) aD) (X++[((c.toNat:Int),x1,x2)])/\(∀g,(Value.slice a8 (X.length+1) aD).ownBlock=some g->w3.heap.size<=g)/\A4 Aa w w8/\w3.heap.size<=w8.heap.size):=λI Y=>by
     have k9:A4 Aa w5 ((I.alloc (.cells #[A0 c.toNat,A0 x1,A0 x2] 113)).alloc (.cells #[A0 c.toNat,A0 x1,A0 x2] 113)):=(aL.o I Y).2.ai _;generalize ((I.alloc (.cells #[A0 c.toNat,A0 x1,A0 x2] 113)).alloc (.cells #[A0 c.toNat,A0 x1,A0 x2] 113))=w9 at k9 ⊢;refine⟨Au bP.o λg hg=>k9.Al g (Aw bP.o hg) (λh=>h),λw8 a8 aD hA=>?_⟩;have aS:=hA.Am (S:=λk=>(Value.slice ap X.length cp).ownBlock=some k) λ_ h=>h;have bR:w3.heap.size<=w9.heap.size:=AO b7.o k9.Ak;refine⟨(cC.o.aj k9 (λh=>h)).aj aS (λhg=>by have:=bU.o _ hg;have:=bJ.o;omega),?_,?_,?_,?_⟩
     ·have:=hA.AB;unfold B1;rw[It];simpa using this
     ·intro g hg;rcases hA.BX with h|h
      ·rw[h]at hg;exact bU.o g hg
      ·rw[h]at hg;cases hg;exact bR
     ·exact(a0.o.tr k9).AF aS λx hx aK=>by have:=bU.o x hx;have:=aH.o.Ak;omega
     ·exact AO bR aS.Ak
    rw[show decide (c.toNat<8)=true from CN aE]at aG
    go_wp2_with (first
     | (go_at_call 176;refine aG.k ?_;rintro I Y;have⟨b1,k7⟩:=aL.o I Y;have q0:=b1.c0;have q1:=b1.c1;have q2:=b1.c2;have b2:=A1 Y)
     | (at_builtin
        have aN:=A1 (bM.o I b2.o);have bN:=A1 (Src.bb (size:=3) (B:=I.heap.size+1) GW (I.alloc (.cells #[A0 c.toNat,A0 x1,A0 x2] 113)) #[A0 c.toNat,A0 x1,A0 x2] 113 iE 1 1 rfl (HJ [((c.toNat:Int),x1,x2)]));refine CX rfl (.tmp 80) (.tmp 82) 97 97 rfl 113 i0 _ 3 24 GW hi hz0 hz1 hz2 rfl iF (.slice ap X.length cp) X.length (B5 X) (by rfl) aN.o.1 _ 1 _ (by rfl) bN.o iC ?_;intro a8 aD w8 hA;have cQ:=A1 (aN.o.2 w8 a8 aD hA)
        clear hA))
    go_roundw
    ·have⟨r1,r2,r3,r4,r5⟩:=cQ.o;refine⟨q,k,X++[((c.toNat:Int),x1,x2)],rfl,by have:=aP.o;simp;omega,s',bT.o,r1,r2,r3,⟨r4,r5⟩,by have:=cM.o;have:=aP.o;omega,?_⟩;rw[bA.o,cA.o aA aE];simp
    ·(have e:(ByteArray.mk q.toArray).size=q.length:=by show q.toArray.size=_;simp);have:=aP.o;simp only[e,E];omega
end
end
section
open Go.RowKit
structure PD where
 D:DS
 F:Nat->FC
def J9:gF AP->Nat
 | []=>0
 | e::r=>max (e.2+1) (J9 r)
def PW{es:gF AP}{f:Nat}(h:Dr f es):f<J9 es:=by
 induction es with
 | nil=>obtain⟨e,d,_⟩:=h;cases d
 | cons x t ih=>
  obtain⟨e,d,rfl⟩:=h;unfold J9;rcases BS.1 d with rfl|d
  ·omega
  ·have:=ih ⟨e,d,rfl⟩;omega
def KI:gF (gF AP)->Nat
 | []=>0
 | c::r=>max (J9 c) (KI r)
def A3k{l:gF (gF AP)}{c:gF AP}{f:Nat}(d:c∈l)(h:Dr f c):f<KI l:=by
 induction l with
 | nil=>cases d
 | cons x t ih=>
  unfold KI;rcases BS.1 d with rfl|d
  ·have:=PW h;omega
  ·have:=ih d;omega
def DS.AW(D:DS):Nat:=max (J9 D.A6) (max (J9 D.AG) (KI D.As))
def DS.cI(D:DS):¬D.Aq D.AW:=by
 intro h;have:D.AW<D.AW:=by
  rcases h with h|h|⟨c,d,h⟩
  ·have:=PW h;unfold DS.AW at *;omega
  ·have:=PW h;unfold DS.AW at *;omega
  ·have:=A3k d h;unfold DS.AW at *;omega
 omega
abbrev Bs:=gF UInt8
def Ab(l:Bs):ByteArray:=⟨l.toArray⟩
def Gr{a b:Bs}:Ab a=Ab b↔a=b:=by
 constructor
 ·intro h;have:=Ex (λx=>x.data.toList) h;simpa[Ab] using this
 ·rintro rfl;rfl
def G4(b:gE):Ab b.data.toList=b:=by simp[Ab]
def PD.aq(P:PD)(nm:gE):Int×PD:=((CY P.D nm P.D.AW).1,⟨(CY P.D nm P.D.AW).2,upd P.F P.D.AW ([],0)⟩)
def PD.au(P:PD)(nm:gE)(l:Bs):Int×PD:=((BA P.D P.F nm (Ab l)).1,⟨(BA P.D P.F nm (Ab l)).2.1,(BA P.D P.F nm (Ab l)).2.2⟩)
def PD.ae(P:PD)(nm:gE):Int×PD:=((CP P.D P.F nm).1,⟨(CP P.D P.F nm).2.1,(CP P.D P.F nm).2.2⟩)
def PD.aI(P:PD):Int×PD:=((Ef P.D).1,⟨(Ef P.D).2,P.F⟩)
def PD.aF(P:PD)(nm:gE):Int×PD:=((DB P.D nm).1,⟨(DB P.D nm).2,P.F⟩)
def PD.aQ(P:PD)(oe nm:gE):Int×PD:=((Da P.D oe nm).1,⟨(Da P.D oe nm).2,P.F⟩)
structure Fit (P:PD) (a c m:Nat):Prop where
 A6:P.D.A6.length<=a
 AG:P.D.AG.length<=a
 G6:∀l∈P.D.As,l.length<=a
 Am:P.D.As.length<=c
 Be:∀f,P.D.Aq f->(P.F f).1.length<=m
 Av : -4611686018427387904<=P.D.n.Av/\P.D.n.Av<=9223372036854775807
 BG:0<=P.D.n.BG/\P.D.n.BG<=9223372036854775807
def Fit.ah{P:PD}{a c m a' z m':Nat}(h:Fit P a c m)(d:a<=a')(O:c<=z)(E:m<=m'):Fit P a' z m':=
 ⟨AO h.A6 d,AO h.AG d,λl L=>AO (h.G6 l L) d,AO h.Am O,λf I=>AO (h.Be f I) E,h.Av,h.BG⟩
def Ri{F:Nat->FC}{m:Nat}:∀(es:gF AP),(∀f,Dr f es->(F f).1.length<=m)->AV F es<=es.length*m
 | [],_=>by simp[AV]
 | e::r,h=>by
  have h1:=h e.2 ⟨e,BI ..,rfl⟩;have h2:=Ri r λf d=>h f (by obtain⟨x,E,z⟩:=d;exact⟨x,BC _ E,z⟩);simp only[AV,CA,Ii,W6];omega
def Fit.bA{P:PD}{a c m:Nat}(h:Fit P a c m):AV P.F P.D.A6<=a*m:=
 AO (Ri _ λf d=>h.Be f (.inl d)) (Ih _ h.A6)
def Vq(n:DN):(bg n).2.2.Av=n.Av/\(bg n).2.2.BG=n.BG:=by
 unfold bg;dsimp only
 split
 ·exact⟨rfl,rfl⟩
 ·split
  ·exact⟨rfl,rfl⟩
  ·split<;>exact⟨rfl,rfl⟩
def Fit.bK{P:PD}{a c m:Nat}(h:Fit P a c m):Fit ⟨{P.D with n:=(bg P.D.n).2.2},P.F⟩ a c m:=
 ⟨h.A6,h.AG,h.G6,h.Am,h.Be,by have:=(Vq P.D.n).1;show _<=(Go.Proofs.YtodcnkbblippnaaGreatDoor.bg P.D.n).2.2.Av/\(Go.Proofs.YtodcnkbblippnaaGreatDoor.bg P.D.n).2.2.Av<=_;rw[this];exact h.Av,by have:=(Vq P.D.n).2;show _<=(Go.Proofs.YtodcnkbblippnaaGreatDoor.bg P.D.n).2.2.BG/\(Go.Proofs.YtodcnkbblippnaaGreatDoor.bg P.D.n).2.2.BG<=_;rw[this];exact h.BG⟩
def A2e{es:gF AP}{nm:gE}(h:¬Bb es nm<0):(Bb es nm).toNat<es.length:=by
 have:=UO es nm;omega
def Fit.al{P:PD}{a c m a':Nat}(h:Fit P a c m){es:gF AP}(L:es.length<=a')(O:a<=a')(I:∀f,Dr f es->(P.F f).1.length<=m):Fit ⟨{P.D with A6:=es,As:=P.D.As++[es],n:=(Go.Proofs.YtodcnkbblippnaaGreatDoor.bg P.D.n).2.2},P.F⟩ a' (c+1) m:=by
 have X:=h.bK;refine⟨L,AO h.AG O,λl z=>?_,?_,λf d=>?_,X.Av,X.BG⟩
 ·rcases AX.1 z with z|z
  ·exact AO (h.G6 l z) O
  ·simp at z;subst z;exact L
 ·have:=h.Am;simp;omega
 ·rcases d with d|d|⟨x,E,d⟩
  ·exact I f d
  ·exact h.Be f (.inr (.inl d))
  ·rcases AX.1 E with E|E
   ·exact h.Be f (.inr (.inr ⟨x,E,d⟩))
   ·simp at E;subst E;exact I f d
def Fit.aq{P:PD}{a c m:Nat}(h:Fit P a c m)(nm:gE):Fit (P.aq nm).2 (a+1) (c+1) m:=by
 have z:Fit ⟨P.D,upd P.F P.D.AW ([],0)⟩ a c m:=⟨h.A6,h.AG,h.G6,h.Am,λf I=>by
  unfold upd;by_cases E:f=P.D.AW
  ·simp[E]
  ·simp only[E,Cf];exact h.Be f I,h.Av,h.BG⟩
 unfold PD.aq CY;split
 ·exact z.ah iC iC (An _)
 ·dsimp only
  split
  ·refine z.al (a':=a+1) ?_ iC ?_
   ·have:=h.A6;simp;omega
   ·rintro f⟨x,d,rfl⟩;rcases AX.1 d with d|d
    ·exact z.Be _ (.inl ⟨x,d,rfl⟩)
    ·simp at d;subst d;simp[upd]
  ·exact z.bK.ah iC iC (An _)
def Fit.cY{P:PD}{a c m:Nat}(h:Fit P a c m)(f:Nat)(x:FC)(E:x.1.length<=m):Fit ⟨P.D,Go.Proofs.YtodcnkbblippnaaGreatDoor.upd P.F f x⟩ a c m:=⟨h.A6,h.AG,h.G6,h.Am,λg z=>by
 unfold Go.Proofs.YtodcnkbblippnaaGreatDoor.upd;by_cases d:g=f
 ·simp[d];exact E
 ·simp only[d,Cf];exact h.Be g z,h.Av,h.BG⟩
def Fit.eh{P:PD}{a c m:Nat}(h:Fit P a c m){f:Nat}(E:P.D.Aq f)(l:Bs)(n0 e:Int):Fit ⟨(BP P.D P.F f (Ab l) n0 e).2.1,(BP P.D P.F f (Ab l) n0 e).2.2⟩ a c (m+l.length):=by
 have d:=h.ah (An a) (An c) (Wc m l.length);have hl:=h.Be f E;have hu:∀k:Nat,((P.F f).1++(Ab l).data.toList.take k).length<=m+l.length:=λk=>by
  simp only[B3,BK,Ab];omega
 unfold BP;split
 ·by_cases z:e=0
  ·simp only[z,Cs];have:=d.cY f ((P.F f).1++(Ab l).data.toList.take (Gw P.D P.F).toNat,(P.F f).2) (hu _);exact⟨this.A6,this.AG,this.G6,this.Am,this.Be,this.Av,this.BG⟩
  ·simp only[z,Cf];exact d.cY f _ (hu _)
 ·exact d.cY f _ (hu _)
def Fit.au{P:PD}{a c m:Nat}(h:Fit P a c m)(nm:gE)(l:Bs):Fit (P.au nm l).2 a c (m+l.length):=by
 unfold PD.au BA;cases hx:lookup P.D.A6 nm with
 | none=>exact h.ah (An _) (An _) iC
 | some f=>
  have d:=Gu hx;dsimp only
  split
  ·exact h.bK.eh (P:=⟨{P.D with n:=(bg P.D.n).2.2},P.F⟩) d l _ _
  ·split
   ·exact h.bK.eh (P:=⟨{P.D with n:=(bg P.D.n).2.2},P.F⟩) d l _ _
   ·exact h.bK.ah (An _) (An _) iC
def Fit.ae{P:PD}{a c m:Nat}(h:Fit P a c m)(nm:gE):Fit (P.ae nm).2 a c m:=by
 unfold PD.ae CP;cases hx:lookup P.D.A6 nm with
 | none=>exact h
 | some f=>
  have d:=Gu hx;dsimp only
  split
  ·exact h.bK.cY (P:=⟨{P.D with n:=(bg P.D.n).2.2},P.F⟩) f _ (h.Be f d)
  ·exact h.bK
def Fit.aI{P:PD}{a c m:Nat}(h:Fit P a c m):Fit P.aI.2 a c m:=by
 unfold PD.aI Ef;dsimp only
 split
 ·have z:=h.bK;refine⟨h.A6,h.A6,λl E=>(by cases E),Cb _,λf d=>h.Be f ?_,z.Av,z.BG⟩;rcases d with d|d|⟨x,I,_⟩
  ·exact .inl d
  ·exact .inl d
  ·cases I
 ·exact h.bK
def Fit.aF{P:PD}{a c m:Nat}(h:Fit P a c m)(nm:gE):Fit (P.aF nm).2 a (c+1) m:=by
 unfold PD.aF DB;split
 ·exact h.ah (An _) iC (An _)
 ·rename_i d;have hl:=A2e d;dsimp only
  split
  ·refine h.al (a':=a) ?_ (An _) ?_
   ·have:=h.A6;simp;omega
   ·rintro f⟨x,d,rfl⟩;rcases AX.1 d with d|d
    ·exact h.Be _ (.inl ⟨x,HD d,rfl⟩)
    ·exact h.Be _ (.inl ⟨x,KU d,rfl⟩)
  ·exact h.bK.ah (An _) iC (An _)
def Zc(es:gF AP)(i:Nat)(nm:gE)(k:Nat):(DA es i nm k).length<=k:=by
 induction k with
 | zero=>simp[DA]
 | succ k ih=>
  simp only[DA,B3];cases es[k]? with
  | none=>simp;omega
  | some e=>
   dsimp only
   split
   ·simp;omega
   ·simp;omega
def Fit.aQ{P:PD}{a c m:Nat}(h:Fit P a c m)(oe nm:gE):Fit (P.aQ oe nm).2 (a+1) (c+1) m:=by
 unfold PD.aQ Da;cases hx:lookup P.D.A6 oe with
 | none=>exact h.ah iC iC (An _)
 | some f=>
  dsimp only
  split
  ·exact h.ah iC iC (An _)
  ·dsimp only
   split
   ·refine h.al (a':=a+1) ?_ iC ?_
    ·have h1:=h.A6;have h2:=Zc P.D.A6 (Bb P.D.A6 oe).toNat nm P.D.A6.length;simp;omega
    ·rintro g⟨x,d,rfl⟩;rcases AX.1 d with d | d
     ·exact h.Be _ (.inl ⟨x,ML _ _ _ _ x d,rfl⟩)
     ·simp at d;subst d;exact h.Be _ (Gu hx)
   ·exact h.bK.ah iC iC (An _)
def AT(s:Nat)(l:Bs):Bs:=l++Cl (AY s l)
def PD.af(P:PD)(nm:gE)(s:Nat)(l:Bs):Bool×Int×PD:=
 (HT P.D P.F nm (AT s l),(P.au nm (AT s l)).1,(P.au nm (AT s l)).2)
def PD.aH(P:PD)(nm:Bs)(s:Nat)(l:Bs):Int×PD:=
 if (P.aq (Ab nm)).1≠0 then P.aq (Ab nm) else
 if ((P.aq (Ab nm)).2.af (Ab nm) s l).2.1≠0 then ((P.aq (Ab nm)).2.af (Ab nm) s l).2 else
 ((P.aq (Ab nm)).2.af (Ab nm) s l).2.2.ae (Ab nm)
def PD.C9(P:PD)(nm:Bs):Bs×Int:=Eh P.D P.F (Ab nm)
def Ir(s:Nat)(t:Bs):Option Bs:=
 if t.length<4 then none else if Cl (AY s (t.take (t.length-4)))=t.drop (t.length-4) then some (t.take (t.length-4)) else none
def PD.aY(P:PD)(nm:Bs):Bs×Int:=
 if (P.C9 nm).2≠0 then ([],(P.C9 nm).2) else match Ir (AI nm) (P.C9 nm).1 with
 | some d=>(d,0)
 | none=>([],7)
def GK:Nat->Bs->gF Int
 | 0,_=>[]
 | k+1,l=>if l.length<8 then [] else BM l::GK k (l.drop 8)
def ES(l:Bs):gF Int:=GK l.length l
def CE{α:Type}(cmp:α->α->Int):gF α->Bool
 | []=>true
 | [_]=>true
 | x::y::r=>decide (cmp x y<0)&&CE cmp (y::r)
def Ct(x y:Int):Int:=if x<y then -1 else if y<x then 1 else 0
structure Ix where
 Bd:Int
 sd:gF Int
def indexOf(d:Bs×Int):Option Ix:=
 if d.2=8 then some ⟨1,[]⟩ else
 if d.2≠0\/ES d.1=[]\/d.1.length≠(ES d.1).length*8 then none else
 if (ES d.1).all isNum=false then none else
 if CE Ct (ES d.1).tail then some ⟨(ES d.1).headD 0,(ES d.1).tail⟩ else none
def PD.ba(P:PD):Option Ix:=indexOf (P.aY AJ)
def Cp(d:Int)(sd:gF Int):Bs:=AQ d++sd.flatMap AQ
def PD.al(P:PD)(d:Int)(sd:gF Int):Int×PD:=
 if (P.aH Bx (AI AJ) (Cp d sd)).1≠0 then P.aH Bx (AI AJ) (Cp d sd) else
 (P.aH Bx (AI AJ) (Cp d sd)).2.aQ (Ab Bx) (Ab AJ)
def Cr(l:gF Pu):Bs:=l.flatMap λp=>Bg p.1 p.2.1 p.2.2
def PD.aJ(P:PD)(n:Int)(l:gF Pu):Int×PD:=P.aH (AH n) (AI (AH n)) (Cr l)
def Cx(p q:Pu):Int:=if Ct p.1 q.1≠0 then Ct p.1 q.1 else Ct p.2.1 q.2.1
def MQ(l:Bs):Pu:=(((l.headD 0).toNat:Int),BM (l.drop 1),BM (l.drop 9))
def F5:Nat->Bs->Option (gF Pu×Bs)
 | 0,l=>some ([],l)
 | k+1,l=>if l.length<17 then some ([],l) else
  if (l.headD 0).toNat<8 then (F5 k (l.drop 17)).map λr=>(MQ l::r.1,r.2) else none
def Jt(d:Bs×Int):Option (gF Pu):=
 if d.2≠0 then none else match F5 d.1.length d.1 with
 | none=>none
 | some (l,r)=>if r=[]/\CE Cx l=true then some l else none
def PD.CD(P:PD)(n:Int):Option (gF Pu):=Jt (P.aY (AH n))
def PD.sd(P:PD):gF Int->Option (gF (Int×gF Pu))
 | []=>some []
 | n::r=>match P.CD n with
  | none=>none
  | some l=>(P.sd r).map λx=>(n,l):: x
structure Jn where
 Ao:gF Int
 Ac:Int
 pd:Int
 AB:Option (Int×Nat)
def PD.aW(P:PD)(n:Int)(d:Int):gF Pu×Int:=H8 P.D P.F (Ah n) d
def PD.bp(P:PD):gF Int->gF Pu->gF Pu×Int
 | [],acc=>(acc,0)
 | n::r,acc=>if (P.aW n acc.length).2≠0 then ([],(P.aW n acc.length).2) else P.bp r (acc++(P.aW n acc.length).1)
def PD.pd(P:PD)(d:gF Int):gF Pu×Int:=P.bp d []
def PD.Az(P:PD):gF Bs:=(dList P.D.A6).map λb=>b.data.toList
def BV(d:Int)(l:gF Bs):gF Int:=l.filterMap λnm=>if (Br nm).1=1/\d<=(Br nm).2 then some (Br nm).2 else none
def PD.bV(P:PD)(d:Int):Jn:=⟨BV d P.Az,(BV d P.Az).getLastD (d-1),(P.pd (BV d P.Az)).1.length,none⟩
def Jn.aw(J:Jn)(P:PD):Int×Jn×PD:=
 if (P.aq (Ab (Ah (J.Ac+1)))).1≠0 then ((P.aq (Ab (Ah (J.Ac+1)))).1,J,(P.aq (Ab (Ah (J.Ac+1)))).2) else
 let a:=(P.aq (Ab (Ah (J.Ac+1)))).2.af (Ab (Ah (J.Ac+1))) (AI (Ah (J.Ac+1))) (AQ J.pd)
 if a.2.1≠0 then (a.2.1,J,a.2.2) else
 (0,⟨J.Ao++[J.Ac+1],J.Ac+1,J.pd,some (J.Ac+1,AY (AI (Ah (J.Ac+1))) (AQ J.pd))⟩,a.2.2)
def Jn.az(J:Jn)(P:PD)(p:Pu):Bool×Int×Jn×PD:=match J.AB with
 | none=>(false,0,J,P)
 | some (n,s)=>
  let a:=P.af (Ab (Ah n)) s (Bg p.1 p.2.1 p.2.2)
  (a.1,a.2.1,{J with AB:=some (n,AY s (Bg p.1 p.2.1 p.2.2))},a.2.2)
def Jn.af(J:Jn)(P:PD)(p:Pu):Bool×Int×Jn×PD:=
 if J.AB=none then
  (if (J.aw P).1≠0 then (false,(J.aw P).1,(J.aw P).2.1,(J.aw P).2.2) else (J.aw P).2.1.az (J.aw P).2.2 p)
 else J.az P p
def Jn.ae(J:Jn)(P:PD):Int×PD:=match J.AB with
 | none=>(0,P)
 | some (n,_)=>P.ae (Ab (Ah n))
structure Ar where
 ix:Ix
 j:Jn
 Ac:Int
 AS:gF Bs
def Ar.Az(A:Ar):gF Bs:=AJ::A.j.Ao.map Ah++A.ix.sd.map AH
def Ar.aX(A:Ar)(P:PD):gF Bs:=P.Az.filter λnm=>decide (nm∈A.Az)
def Ar.aU(A:Ar)(P:PD):gF Bs:=P.Az.filter λnm=>!decide (nm∈A.Az)
def PD.ax:gF Bs->PD->Int×PD
 | [],P=>(0,P)
 | nm::r,P=>if (P.ae (Ab nm)).1≠0 then P.ae (Ab nm) else PD.ax r (P.ae (Ab nm)).2
def PD.aN:gF Bs->PD->Int×PD
 | [],P=>(0,P)
 | nm::r,P=>if (P.aF (Ab nm)).1≠0 then P.aF (Ab nm) else PD.aN r (P.aF (Ab nm)).2
def Ar.I(A:Ar)(P:PD):Int×Ar×PD:=
 if (P.ax A.AS).1≠0 then ((P.ax A.AS).1,A,(P.ax A.AS).2) else (0,{A with AS:=[]},(P.ax A.AS).2)
def Ar.ay(A:Ar)(P:PD):Int×PD:=P.aN (A.aU P)
def Ar.af(A:Ar)(P:PD)(p:Pu):Bool×Int×Ar×PD:=
 if (A.I P).1≠0 then (false,(A.I P).1,(A.I P).2.1,(A.I P).2.2) else
 let r:=(A.I P).2.1.j.af (A.I P).2.2 p
 (r.1,r.2.1,{ (A.I P).2.1 with j:=r.2.2.1},r.2.2.2)
def Ar.ae(A:Ar)(P:PD):Int×Ar×PD:=
 if (A.I P).1≠0 then A.I P else
 if ((A.I P).2.1.j.ae (A.I P).2.2).1≠0 then (((A.I P).2.1.j.ae (A.I P).2.2).1,(A.I P).2.1,((A.I P).2.1.j.ae (A.I P).2.2).2) else
 ((((A.I P).2.1.j.ae (A.I P).2.2).2.aI).1,(A.I P).2.1,(((A.I P).2.1.j.ae (A.I P).2.2).2.aI).2)
def PD.ao:gF (gF Pu)->Int->gF Int->PD->Int×Int×gF Int×PD
 | [],lh,ke,P=>(0,lh,ke,P)
 | l::r,lh,ke,P=>if (P.aJ (lh+1) l).1≠0 then ((P.aJ (lh+1) l).1,lh+1,ke,(P.aJ (lh+1) l).2) else
  PD.ao r (lh+1) (ke++[lh+1]) (P.aJ (lh+1) l).2
def Ar.al(A:Ar)(P:PD)(sd:gF Int):Int×Ar×PD:=
 if A.ix.Bd=A.j.Ac+1/\A.ix.sd=sd then (0,A,P) else
 if (P.al (A.j.Ac+1) sd).1≠0 then ((P.al (A.j.Ac+1) sd).1,A,(P.al (A.j.Ac+1) sd).2) else
 (0,{A with ix:=⟨A.j.Ac+1,sd⟩,j:=⟨[],A.j.Ac,0,none⟩},(P.al (A.j.Ac+1) sd).2)
def Ar.a8(A:Ar)(P:PD):Int×Ar×PD:=
 if (A.ay P).1≠0 then ((A.ay P).1,A,(A.ay P).2) else ((A.ay P).2.aI.1,A,(A.ay P).2.aI.2)
def Ar.aG(A:Ar)(P:PD)(z:gF Int)(h:gF (gF Pu)):Int×Ar×PD:=
 let a:=A.I P
 if a.1≠0 then a else
 let b:=a.2.1.ay a.2.2
 if b.1≠0 then (b.1,a.2.1,b.2) else
 let c:=PD.ao h a.2.1.Ac z b.2
 if c.1≠0 then (c.1,{a.2.1 with Ac:=c.2.1},c.2.2.2) else
 let d:=({a.2.1 with Ac:=c.2.1}:Ar).al c.2.2.2 c.2.2.1
 if d.1≠0 then d else d.2.1.a8 d.2.2
def BH(t len:Int):Int:=t/len
def AE(len:Int)(p q:Pu):Bool:=
 decide (BH p.2.1 len<BH q.2.1 len\/BH p.2.1 len=BH q.2.1 len/\(p.1<q.1\/p.1=q.1/\p.2.1<q.2.1))
def FN{α:Type}(lt:α->α->Bool)(x:α):gF α->gF α
 | []=>[x]
 | y::r=>if lt x y then x::y::r else y::FN lt x r
def Ev{α:Type}(lt:α->α->Bool)(l:gF α):gF α:=l.foldl (λs x=>FN lt x s) []
def EZ(len:Int)(ws:gF (gF Pu))(d:Bool)(h p:Pu):gF (gF Pu):=
 let ws1:=if d\/BH p.2.1 len≠BH h.2.1 len then ws++[[]] else ws
 let lh:=ws1.getLastD []
 if lh≠[]/\Cx p (lh.getLastD (0,0,0))=0 then ws1.dropLast++[lh.dropLast++[p]] else ws1.dropLast++[lh++[p]]
def ED(len:Int):gF Pu->Bool->Pu->gF (gF Pu)->gF (gF Pu)
 | [],_,_,ws=>ws
 | p::r,first,prev,ws=>ED len r false p (EZ len ws first prev p)
def C3(len:Int)(l:gF Pu):gF (gF Pu):=ED len (Ev (AE len) l) true (0,0,0) []
def Ar.aR(A:Ar)(P:PD)(wa:Int):Int×Ar×PD:=
 if (P.pd A.j.Ao).2≠0 then ((P.pd A.j.Ao).2,A,P) else A.aG P A.ix.sd (C3 wa (P.pd A.j.Ao).1)
def BY(sd:gF (Int×gF Pu))(od:Int):gF (gF Pu)->gF Int×gF (gF Pu)
 | []=>([],[])
 | l::r=>if l.any (λp=>decide (od<=p.2.1))=false then BY sd od r else
  match sd.find? λs=>decide (s.2=l) with
  | none=>((BY sd od r).1,l::(BY sd od r).2)
  | some s=>(s.1::(BY sd od r).1,(BY sd od r).2)
def Ar.aM(A:Ar)(P:PD)(wa od:Int):Int×Ar×PD:=match P.sd A.ix.sd with
 | none=>(7,A,P)
 | some sd=>if (P.pd A.j.Ao).2≠0 then ((P.pd A.j.Ao).2,A,P) else
  let k:=BY sd od (C3 wa (sd.flatMap (·.2)++(P.pd A.j.Ao).1))
  A.aG P (k.1.mergeSort λx y=>decide (x<=y)) k.2
def Ar.aT(P:PD):Except Int (Ar×gF Pu):=match P.ba with
 | none=>.error 7
 | some ix=>if P.Az.any (λnm=>decide ((Br nm).1=0)) then .error 7 else
  match P.sd ix.sd with
  | none=>.error 7
  | some sd=>if (P.pd (BV ix.Bd P.Az)).2≠0 then .error (P.pd (BV ix.Bd P.Az)).2 else
   let A:Ar:=⟨ix,P.bV ix.Bd,(P.Az.filterMap λnm=>if (Br nm).1=2 then some (Br nm).2 else none).getLastD 0,[]⟩
   .ok ({A with AS:=A.aX P},sd.flatMap (·.2)++(P.pd (BV ix.Bd P.Az)).1)
def Ap(w:gC)(Ft:Nat->Prop)(w':gC)(R:gC->(Nat->Prop)->Prop):Prop:=
 A4 Ft w w'/\∃d,R w' d/\(∀k,d k->k<w'.heap.size)/\∀k,d k->Ft k\/w.heap.size<=k
def Ap.AF{w E O:gC}{Ft:Nat->Prop}{R L:gC->(Nat->Prop)->Prop}(h:Ap w Ft E R)(h2:∀d,R E d->(∀k,d k->k<E.heap.size)->(∀k,d k->Ft k\/w.heap.size<=k)->Ap E d O L):Ap w Ft O L:=by
 obtain⟨X,d,hr,z,I⟩:=h;have⟨hc2,Ft2,hr2,hlt2,hs2⟩:=h2 d hr z I;refine⟨X.AF hc2 λx hx z=>(I x hx).resolve_right iC,Ft2,hr2,hlt2,λk Y=>?_⟩;rcases hs2 k Y with h|h
 ·exact I k h
 ·exact .inr (AO X.Ak h)
def Ap.a1{w z w':gC}{Ft:Nat->Prop}{R:gC->(Nat->Prop)->Prop}(h:Ap z Ft w' R)(E:A4 Aa w z):Ap w Ft w' R:=by
 obtain⟨X,d,L,Y,O⟩:=h;exact⟨(E.aS).tr X,d,L,Y,λk I=>(O k I).imp id λh=>AO E.Ak h⟩
def Ap.fQ{w w':gC}{Ft:Nat->Prop}{R z:gC->(Nat->Prop)->Prop}(h:Ap w Ft w' R)(X:∀d,(∀k,d k->k<w'.heap.size)->R w' d->z w' d):Ap w Ft w' z:=by
 obtain⟨O,d,I,E,L⟩:=h;exact⟨O,d,X d E I,E,L⟩
def Ap.aV{w w':gC}{Ft d:Nat->Prop}{R:gC->(Nat->Prop)->Prop}(h:Ap w Ft w' R)(E:∀k,Ft k->d k):Ap w d w' R:=by
 obtain⟨X,z,L,Y,O⟩:=h;exact⟨X.ah λx _ hx=>E x hx,z,L,Y,λk I=>(O k I).imp (E k) id⟩
def Bw(w:gC)(b:Nat)(P:PD)(Ft:Nat->Prop):Prop:=AU w b P.D P.F Ft
def Bw.aK{w w':gC}{b:Nat}{P:PD}{Ft:Nat->Prop}(h:Bw w b P Ft)(d:Gz Ft w w'):Bw w' b P Ft:=AU.aK h d
def DJ(w:gC)(size:Nat)(v:gD)(n:Nat)(xs:gF gD):Prop:=
 xs.length=n*size/\∃a cap,v=.slice a n cap/\n<=cap/\cap<=maxLen/\(∀g,v.ownBlock=some g->g<w.heap.size)/\
  ∀j u,xs[j]?=some u->∃g o,a=some ⟨g,o,none⟩/\w.cell? ⟨g,o+j,none⟩=some u
def DJ.aK{w w':gC}{size n:Nat}{v:gD}{xs:gF gD}(h:DJ w size v n xs)(z:∀g,v.ownBlock=some g->w'.heap[g]?=w.heap[g]?):DJ w' size v n xs:=by
 obtain⟨O,a,cap,rfl,I,h3,L,X⟩:=h;refine⟨O,a,cap,rfl,I,h3,λg d=>?_,λj u hj=>?_⟩
 ·have:=z g d;have Y:=L g d;rcases Fg g w'.heap.size with h|h
  ·exact h
  ·rw[O7 h]at this;rw[A46 Y]at this;cases this
 ·obtain⟨g,o,rfl,E⟩:=X j u hj;refine⟨g,o,rfl,?_⟩;have:=z g rfl;unfold World.cell? at E ⊢;rw[this];exact E
def DJ.Am{S:Nat->Prop}{w w':gC}{size n:Nat}{v:gD}{xs:gF gD}(h:DJ w size v n xs)(I:A4 S w w')(E:∀g,v.ownBlock=some g->¬S g):DJ w' size v n xs:=by
 refine h.aK λg d=>I.Al g ?_ (E g d);obtain⟨_,a,cap,rfl,_,_,z,_⟩:=h;exact z g d
def DJ.lt{w:gC}{size n:Nat}{v:gD}{xs:gF gD}(h:DJ w size v n xs){g:Nat}(z:v.ownBlock=some g):g<w.heap.size:=by
 obtain⟨_,a,cap,rfl,_,_,d,_⟩:=h;exact d g z
def DJ.dJ{w:gC}{d e size n:Nat}{v:gD}{xs:gF gD}(h:w.ownsRow d e size v n xs):DJ w size v n xs:=by
 obtain⟨a,cap,rfl,Y,I,h3,X,h5⟩:=B8 h;refine⟨h.1,a,cap,rfl,Y,I,λg O=>Aw h O,λj u z=>?_⟩;cases ha:a with
 | none=>
  subst ha;have L:=(X rfl).1;have E:=h.1;rw[L]at E;have:xs=[]:=by simpa using E
  rw[this]at z;simp at z
 | some x=>
  subst ha;obtain⟨g,rfl⟩:=h5 x rfl;exact⟨g,0,rfl,by simpa using Bu h rfl z⟩
def DJ.BW{w:gC}{size n:Nat}{v:gD}{xs:gF gD}(h:DJ w size v n xs):∃a cap,v=.slice a n cap/\n<=cap/\cap<=maxLen:=by
 obtain⟨_,a,cap,z,d,E,_⟩:=h;exact⟨a,cap,z,d,E⟩
def DJ.bS{w:gC}{size:Nat}:DJ w size (.slice none 0 0) 0 []:=
 ⟨iE,none,0,rfl,An _,iF,λg h=>by simp[Value.ownBlock]at h,λj u d=>by simp at d⟩
def Ee(l:gF Int):gF Value:=l.map λn=>A0 n
def Um(l:gF Int):(Ee l).length=l.length:=by simp[Ee]
def LK(a b:gF Int):Ee (a++b)=Ee a++Ee b:=by simp[Ee]
def Pw(l:gF Int)(k:Nat)(h:k<l.length):(Ee l)[k]?=some (A0 (l[k]'h)):=by simp[Ee,h]
def KA(l:gF Int):∀u∈Ee l,u.oneCell'=true:=by
 intro u hu;simp[Ee]at hu;obtain⟨x,_,rfl⟩:=hu;rfl
def Dh(w:gC)(v:gD)(l:gF Int):Prop:=DJ w 1 v l.length (Ee l)
def DY(w:gC)(v:gD)(l:gF Int):Prop:=w.ownsRow 0 3 1 v l.length (Ee l)
def DY.rd{w:gC}{v:gD}{l:gF Int}(h:DY w v l):Dh w v l:=DJ.dJ h
def Dw(l:gF Bs):gF Value:=l.map λx=>.string ⟨x.toArray⟩
def Nt(a b:gF Bs):Dw (a++b)=Dw a++Dw b:=by simp[Dw]
def A3y(l:gF Bs)(k:Nat)(h:k<l.length):(Dw l)[k]?=some (.string ⟨(l[k]'h).toArray⟩):=by simp[Dw,h]
def Ns(l:gF Bs):∀u∈Dw l,u.oneCell'=true:=by
 intro u hu;simp[Dw]at hu;obtain⟨x,_,rfl⟩:=hu;rfl
def Y4(l:gF gE):Gd l=Dw (l.map λb=>b.data.toList):=by simp[Gd,Dw]
def Hi(w:gC)(v:gD)(l:gF Bs):Prop:=DJ w 1 v l.length (Dw l)
def DC(w:gC)(v:gD)(l:gF Bs):Prop:=w.ownsRow 0 9 1 v l.length (Dw l)
def DC.rd{w:gC}{v:gD}{l:gF Bs}(h:DC w v l):Hi w v l:=DJ.dJ h
def Ie(w:gC)(v:gD)(l:gF Pu):Prop:=DJ w 3 v l.length (B5 l)
def B1.rd{w:gC}{v:gD}{l:gF Pu}(h:B1 w v l):Ie w v l:=DJ.dJ h
def Dh.at{w:gC}{a:Option Addr}{n cap:Nat}{l:gF Int}(h:Dh w (.slice a n cap) l)(k:Nat)(d:k<l.length):∃g o,a=some (A9 g o)/\A7 w g (o+k) (A0 (l[k]'d)):=by
 obtain⟨_,a',cap',e,_,_,_,z⟩:=h;cases e;exact z k _ (Pw l k d)
def Ie.at{w:gC}{a:Option Addr}{n cap:Nat}{l:gF Pu}(h:Ie w (.slice a n cap) l)(k:Nat)(d:k<l.length):∃g o,a=some (A9 g o)/\g<w.heap.size/\A7 w g (o+k*3) (A0 (l[k]'d).1)/\A7 w g (o+k*3+1) (A0 (l[k]'d).2.1)/\A7 w g (o+k*3+2) (A0 (l[k]'d).2.2):=by
 obtain⟨_,a',cap',e,_,_,E,z⟩:=h;cases e;have⟨q1,q2,q3⟩:=HK l k d;obtain⟨g,o,rfl,c1⟩:=z _ _ q1;have⟨g',o',e,c2⟩:=z _ _ q2;cases e;have⟨g',o',e,c3⟩:=z _ _ q3;cases e;exact⟨g,o,rfl,E g rfl,c1,c2,c3⟩
def Hi.at{w:gC}{a:Option Addr}{n cap:Nat}{l:gF Bs}(h:Hi w (.slice a n cap) l)(k:Nat)(d:k<l.length):∃g o,a=some (A9 g o)/\A7 w g (o+k) (.string ⟨(l[k]'d).toArray⟩):=by
 obtain⟨_,a',cap',e,_,_,_,z⟩:=h;cases e;exact z k _ (A3y l k d)
end
section
open Go.ChangeAt Go.ChangeShapes Go.RowKit Go.WideShapes
def Tryz.own:ownKnob Tryz.prog.godebug=none:=by kernel_rfl
def Tryz.ee:Tryz.prog.globalNamed "tides/files.letters" = some 0:=by kernel_rfl
def Tryz.ea:Tryz.prog.globalNamed "internal/strconv.uint64pow10" = some 3:=by kernel_rfl
def Tryz.eo:Tryz.prog.globalNamed "strconv.ErrRange" = some 2:=by kernel_rfl
def Tryz.eJ:Tryz.prog.globalNamed "strconv.ErrSyntax" = some 1:=by kernel_rfl
def Tryz.fx:(Tryz.prog.globals[0]?).map (·.type)=some 201:=by kernel_rfl
def Tryz.fa:(Tryz.prog.globals[3]?).map (·.type)=some 333:=by kernel_rfl
def Tryz.e5:(Tryz.prog.globals[2]?).map (·.type)=some 197:=by kernel_rfl
def Tryz.fB:(Tryz.prog.globals[1]?).map (·.type)=some 197:=by kernel_rfl
def Tryz.fc:Tryz.prog.cellsOf 201=5:=by kernel_rfl
def Tryz.dQ:Tryz.prog.cellsOf 9=1:=by kernel_rfl
def Tryz.fT:Tryz.prog.cellsOf 333=20:=by kernel_rfl
def Tryz.fK:Tryz.prog.cellsOf 275=1:=by kernel_rfl
def Tryz.dS:Tryz.prog.cellsOf 3=1:=by kernel_rfl
def Tryz.ei:Tryz.prog.cellsOf 325=1:=by kernel_rfl
def Tryz.laidOut:laidOutB Tryz.prog=true:=by kernel_rfl
def Tryz.star: "*" ++ "errors.errorString" = "*errors.errorString":=iF
def Tryz.eP(u:TypeId)(h:Tryz.prog.typeName? 3 u=some "*errors.errorString"):u=323:=
 typeName_ptr_named (nm:= "errors.errorString") (by rw[Tryz.star];kernel_rfl) (by kernel_rfl) iF u (by rw[Tryz.star];exact h)
def A00{d:Nat}{w:gC}{cs:gF gD}{s:gF (gF UInt8)}{p:gF MemPlace}(h:DataW.trod (λ_=>()) Tryz.prog w 0 (λ_=>true) false d 201 cs=some (.agg (s.map λx=>.lit (.string x)),p))(k:Nat)(I:k<5)(x:gF UInt8)(X:s[k]?=some x):cs[k]?=some (.string ⟨x.toArray⟩):=by
 cases d with
 | zero=>simp[DataW.trod]at h
 | succ d=>
  simp only[DataW.trod,underlying201,Tryz.dQ,Tryz.fc,Qr]at h;split at h
  ·have⟨xs,hm,hq⟩:=A4x.1 h;have E:xs.map (·.1)=s.map λx=>DataW.lit (.string x):=by
    have:=Ex Prod.fst hq;simpa using this
   have⟨b,hb,hf⟩:=Lib.mapM_at hm k k (by simp[I]);obtain⟨s',O,rfl,_⟩:=DataW.trod_string GX hf;have L:cs[k]?=some (.string s'):=by
    have:=Ex (·[0]?) O;simpa[List.getElem?_take,List.getElem?_drop] using this
   (have z:(xs.map (·.1))[k]?=some (DataW.lit (.string s'.data.toList)):=by simp[hb]);rw[E]at z;simp[X]at z;rw[L,z]
  ·cases h
def A1c{W:gC}(h:laidMetH Tryz.prog Rows.writesUptoRow.laid W):Lets W.heap.size W:=by
 have h0:=h;have h3:laidMet Tryz.prog (("internal/strconv.uint64pow10",Lib.tabData .u64 Lib.pow10Tab):: [("strconv.ErrRange",Rows.laid_strconv_ErrRange),("strconv.ErrSyntax",Rows.laid_strconv_ErrSyntax),("tides/files.letters",Rows.laid_tides_files_letters)]) W:=laidMet.tail (laidMet.tail h0);have X:Lib.TabIs Tryz.prog W "internal/strconv.uint64pow10" .u64 Lib.pow10Tab:=Lib.tabIs_of_head Tryz.ea Tryz.fa underlying333 underlying275 Tryz.fK Tryz.fT h3;have h6:=laidMet.tail (laidMet.tail (laidMet.tail h3));obtain⟨ps,⟨g',t',cs,fuel,p,q,L,O,d,hd,_,_⟩,_⟩:=h6;obtain rfl:=NI (Tryz.ee.symm.trans L);obtain rfl:=NI (Tryz.fx.symm.trans O);have E:=A00 (s:=[[],[108],[115],[105],[100]]) hd;have z:∀k:Nat,1<=k->k<=4->W.cell? ⟨0,k,none⟩=some (.string ⟨(Di k).toArray⟩):=λk h1 h2=>by
  rw[VR Tryz.ee d k];have:k=1\/k=2\/k=3\/k=4:=iC
  rcases this with rfl|rfl|rfl|rfl
  ·simpa[Di] using E 1 iC _ rfl
  ·simpa[Di] using E 2 iC _ rfl
  ·simpa[Di] using E 3 iC _ rfl
  ·simpa[Di] using E 4 iC _ rfl
 have aA:=GV W _ (z 1 iC iC);have Y:=X.cell Tryz.ea 0 iF;have I:=GV W _ Y;refine⟨An _,λw' hb=>⟨λk h1 h2=>?_,?_⟩⟩
 ·rw[<-z k h1 h2];exact hb.cell aA
 ·unfold Lib.TabIs at X ⊢;rw[<-X];unfold World.var?;rw[Tryz.ea];simp only[Option.bind_some];rw[hb.block _ I]
def A1d{W:gC}(h:laidMetH Tryz.prog Rows.writesUptoRow.laid W):IK W:=by
 have E:=h;have d:=laidMet.tail (laidMet.tail (laidMet.tail E));have z:=laidMet.tail d;have⟨a0,_,hva,_⟩:=laid_sentinel d Tryz.eo Tryz.e5 underlying197 Tryz.eP underlying323 underlying325 rfl rfl GX Tryz.ei Tryz.dQ;have⟨b0,_,hvb,_⟩:=laid_sentinel z Tryz.eJ Tryz.fB underlying197 Tryz.eP underlying323 underlying325 rfl rfl GX Tryz.ei Tryz.dQ;exact⟨⟨_,by simpa using VR Tryz.eJ hvb 0,.inr ⟨_,_,rfl⟩⟩,_,by simpa using VR Tryz.eo hva 0,.inr ⟨_,_,rfl⟩⟩
def Kb{z:Int}(h:(Lit.int .i64 z).wf=true):Ay z:=by
 simp[Lit.wf]at h;have e:IntKind.i64.min = -9223372036854775808:=rfl;rw[e]at h;exact h
abbrev XG:ByteArray:={data:=#[105,110,118,97,108,105,100,32,115,121,110,116,97,120]}
abbrev YX:ByteArray:={data:=#[118,97,108,117,101,32,111,117,116,32,111,102,32,114,97,110,103,101]}
def Kq(v:Array gD):Obj->Obj
 | .cells _ t frozen=>.cells v t frozen
 | o=>o
def IH(os:Os)(W:gC):Prop:=W =
 let w0:=World.holding Tryz.prog os ⟨#[.cells #[.string XG] 325,.cells #[.string YX] 325],#[],[]⟩
 let h0:=w0.heap
 let h1:=h0.modify 0 (Kq #[.string ⟨#[]⟩,.string ⟨#[108]⟩,.string ⟨#[115]⟩,.string ⟨#[105]⟩,.string ⟨#[100]⟩])
 let h2:=h1.modify 1 (Kq #[.iface 323 (A5 ((World.holding Tryz.prog default ⟨#[],#[],[]⟩).heap.size))])
 let h3:=h2.modify 2 (Kq #[.iface 323 (A5 ((World.holding Tryz.prog default ⟨#[],#[],[]⟩).heap.size+1))])
 let h4:=h3.modify 3 (Kq #[.int .u64 1,.int .u64 10,.int .u64 100,.int .u64 1000,.int .u64 10000,.int .u64 100000,.int .u64 1000000,.int .u64 10000000,.int .u64 100000000,.int .u64 1000000000,.int .u64 10000000000,.int .u64 100000000000,.int .u64 1000000000000,.int .u64 10000000000000,.int .u64 100000000000000,.int .u64 1000000000000000,.int .u64 10000000000000000,.int .u64 100000000000000000,.int .u64 1000000000000000000,.int .u64 10000000000000000000])
 let h5:=h4.modify 5 (Kq #[.int .u8 0,.int .u8 1,.int .u8 28,.int .u8 2,.int .u8 29,.int .u8 14,.int .u8 24,.int .u8 3,.int .u8 30,.int .u8 22,.int .u8 20,.int .u8 15,.int .u8 25,.int .u8 17,.int .u8 4,.int .u8 8,.int .u8 31,.int .u8 27,.int .u8 13,.int .u8 23,.int .u8 21,.int .u8 19,.int .u8 16,.int .u8 7,.int .u8 26,.int .u8 12,.int .u8 18,.int .u8 6,.int .u8 11,.int .u8 5,.int .u8 10,.int .u8 9])
 let h6:=h5.modify 6 (Kq #[.int .u8 0,.int .u8 1,.int .u8 56,.int .u8 2,.int .u8 57,.int .u8 49,.int .u8 28,.int .u8 3,.int .u8 61,.int .u8 58,.int .u8 42,.int .u8 50,.int .u8 38,.int .u8 29,.int .u8 17,.int .u8 4,.int .u8 62,.int .u8 47,.int .u8 59,.int .u8 36,.int .u8 45,.int .u8 43,.int .u8 51,.int .u8 22,.int .u8 53,.int .u8 39,.int .u8 33,.int .u8 30,.int .u8 24,.int .u8 18,.int .u8 12,.int .u8 5,.int .u8 63,.int .u8 55,.int .u8 48,.int .u8 27,.int .u8 60,.int .u8 41,.int .u8 37,.int .u8 16,.int .u8 46,.int .u8 35,.int .u8 44,.int .u8 21,.int .u8 52,.int .u8 32,.int .u8 23,.int .u8 11,.int .u8 54,.int .u8 26,.int .u8 40,.int .u8 15,.int .u8 34,.int .u8 20,.int .u8 31,.int .u8 10,.int .u8 25,.int .u8 14,.int .u8 19,.int .u8 9,.int .u8 13,.int .u8 8,.int .u8 7,.int .u8 6])
 {w0 with heap:=h6}
def A1b(os:Os)(W:gC)(h:IH os W)(args:Array gD):laidMet Tryz.prog Rows.writesUptoRow.laid (W.forCall (λ_ _=>0) ⟨#[],args,[]⟩).memory:=by
 unfold IH at h;subst h;exact laidMet_of_run' 8 (by kernel_rfl) (by kernel_rfl)
end
section
open Go.RowKit
section
variable{α:Type}(lt:α->α->Bool)
structure BZ:Prop where
 J4:∀x,lt x x=false
 AF:∀x y z,lt x y=true->lt y z=true->lt x z=true
 Lr:∀x y z,lt x z=true->lt x y=true\/lt y z=true
def eqv(x y:α):Bool:=!lt x y && !lt y x
def Bt(l l':gF α):Prop:=∀x,l.filter (eqv lt x)=l'.filter (eqv lt x)
def B6(l:gF α):Prop:=l.Pairwise λx y=>lt y x=false
variable{lt}
def Bt.C(l:gF α):Bt lt l l:=λ_=>rfl
def Bt.bH{l l':gF α}(h:Bt lt l l'):Bt lt l' l:=λx=>(h x).symm
def Bt.AF{l l' d:gF α}(h:Bt lt l l')(z:Bt lt l' d):Bt lt l d:=λx=>(h x).trans (z x)
def Bt.au{a a' b d:gF α}(h:Bt lt a a')(z:Bt lt b d):Bt lt (a++b) (a'++d):=λx=>by
 rw[L1,L1,h x,z x]
def BZ.e0(h:BZ lt)(x:α):eqv lt x x=true:=by simp[eqv,h.J4]
def BZ.cw(h:BZ lt){x y:α}(d:lt x y=true):lt y x=false:=by
 cases hyx:lt y x with
 | false=>rfl
 | true=>have:=h.AF _ _ _ d hyx;rw[h.J4]at this;cases this
def BZ.dE(h:BZ lt){x y z:α}(I:lt y x=false)(E:lt z y=false):lt z x=false:=by
 cases hzx:lt z x with
 | false=>rfl
 | true=>rcases h.Lr z y x hzx with d|d
         ·rw[E]at d;cases d
         ·rw[I]at d;cases d
def BZ.gg(h:BZ lt){x y z:α}(E:lt y z=true)(I:eqv lt x y=true):eqv lt x z=false:=by
 cases hz:eqv lt x z with
 | false=>rfl
 | true=>
  simp[eqv]at I hz;rcases h.Lr y x z E with d|d
  ·rw[I.2]at d;cases d
  ·rw[hz.1]at d;cases d
def BZ.b6(h:BZ lt){x y:α}(d:lt y x=true):Bt lt [x,y] [y,x]:=λz=>by
 simp only[Fz,List.filter_nil];cases h1:eqv lt z y with
 | false=>cases eqv lt z x<;>rfl
 | true=>rw[h.gg d h1];rfl
def BZ.ep(h:BZ lt){x:α}{ys:gF α}(d:∀y∈ys,lt y x=true):Bt lt (x::ys) (ys++[x]):=by
 induction ys with
 | nil=>exact Bt.C _
 | cons y r ih=>
  have I:Bt lt (x::y::r) (y::x::r):=by
   have:=(h.b6 (d y (BI ..))).au (Bt.C (lt:=lt) r);simpa using this
  have E:Bt lt (y::x::r) (y::(r++[x])):=by
   have:=(Bt.C (lt:=lt) [y]).au (ih λz L=>d z (BC _ L));simpa using this
  exact I.AF E
def BZ.b7(h:BZ lt){xs ys:gF α}(d:∀x∈xs,∀y∈ys,lt y x=true):Bt lt (xs++ys) (ys++xs):=by
 induction xs with
 | nil=>simpa using Bt.C (lt:=lt) ys
 | cons x r ih=>
  have I:=ih λz O=>d z (BC _ O);have E:Bt lt (x::(r++ys)) (x::(ys++r)):=by simpa using(Bt.C (lt:=lt) [x]).au I
  have L:=(h.ep (d x (BI ..))).au (Bt.C r);have:=E.AF L;simpa using this
def BZ.dt(h:BZ lt){y:α}{xs:gF α}(E:∀x∈xs,lt y x=true):Bt lt (xs++[y]) (y::xs):=by
 simpa using h.b7 (xs:=xs) (ys:=[y]) λx I z d=>by simp at d;subst d;exact E x I
def Bt.DG{l l':gF α}(d:BZ lt)(h:Bt lt l l'){x:α}(z:x∈l):x∈l':=by
 have:x∈l.filter (eqv lt x):=H3.2 ⟨z,d.e0 x⟩;rw[h x]at this;exact(H3.1 this).1
def BZ.eO(d:BZ lt):∀ {l l':gF α},B6 lt l->B6 lt l'->Bt lt l l'->l=l'
 | [],[],_,_,_=>rfl
 | [],b::r',_,_,h=>by have:=(h.bH).DG d (BI (a:=b) (l:=r'));cases this
 | a::r,[],_,_,h=>by have:=h.DG d (BI (a:=a) (l:=r));cases this
 | a::r,b::r',h1,h2,h=>by
  have X:=Dl.1 h1;have Y:=Dl.1 h2;have L:lt a b=false:=by
   rcases BS.1 (h.DG d (BI (a:=a) (l:=r))) with rfl|E
   ·exact d.J4 _
   ·exact Y.1 a E
  have I:lt b a=false:=by
   rcases BS.1 (h.bH.DG d (BI (a:=b) (l:=r'))) with rfl|E
   ·exact d.J4 _
   ·exact X.1 b E
  have he:eqv lt a b=true:=by simp[eqv,L,I]
  have O:=h a;rw[Jm (d.e0 a),Jm he]at O;obtain rfl:a=b:=(HZ O).1;refine Ex (a :: ·) (d.eO X.2 Y.2 λx=>?_);have z:=h x;cases hc:eqv lt x a with
  | true=>rw[Jm hc,Jm hc]at z;exact(HZ z).2
  | false=>rw[KZ (by rw[hc];decide),KZ (by rw[hc];decide)]at z;exact z
def A1J{x y:α}{l:gF α}:y∈FN lt x l↔y=x\/y∈l:=by
 induction l with
 | nil=>simp[FN]
 | cons z r ih=>
  unfold FN;split
  ·simp
  ·simp only[BS,ih];constructor
   ·rintro (h|h|h)
    ·exact .inr (.inl h)
    ·exact .inl h
    ·exact .inr (.inr h)
   ·rintro (h|h|h)
    ·exact .inr (.inl h)
    ·exact .inl h
    ·exact .inr (.inr h)
def BZ.fr(I:BZ lt){x:α}{l:gF α}(h:B6 lt l):B6 lt (FN lt x l):=by
 induction l with
 | nil=>simp[FN,B6]
 | cons z r ih=>
  have L:=Dl.1 h;unfold FN;split
  ·rename_i E;refine Dl.2 ⟨λy d=>?_,h⟩;rcases BS.1 d with rfl|d
   ·exact I.cw E
   ·exact I.dE (I.cw E) (L.1 y d)
  ·rename_i E;refine Dl.2 ⟨λy d=>?_,ih L.2⟩;rcases A1J.1 d with rfl|d
   ·simpa using E
   ·exact L.1 y d
def BZ.e7(I:BZ lt){x:α}{l:gF α}(h:B6 lt l):Bt lt (l++[x]) (FN lt x l):=by
 induction l with
 | nil=>exact Bt.C _
 | cons z r ih=>
  have O:=Dl.1 h;unfold FN;split
  ·rename_i L;refine I.dt λy E=>?_;rcases BS.1 E with rfl|E
   ·exact L
   ·rcases I.Lr x y z L with d|d
    ·exact d
    ·rw[O.1 y E]at d;cases d
  ·simpa using(Bt.C (lt:=lt) [z]).au (ih O.2)
def BZ.dF(d:BZ lt):∀(l s:gF α),B6 lt s->B6 lt (l.foldl (λs x=>FN lt x s) s)/\Bt lt (s++l) (l.foldl (λs x=>FN lt x s) s)
 | [],s,h=>⟨h,by simpa using Bt.C (lt:=lt) s⟩
 | x::r,s,h=>by
  have⟨h1,h2⟩:=d.dF r _ (d.fr (x:=x) h);refine⟨h1,Bt.AF ?_ h2⟩;have:=(d.e7 (x:=x) h).au (Bt.C (lt:=lt) r);simpa using this
def BZ.eW(d:BZ lt)(l:gF α):B6 lt (Ev lt l):=(d.dF l [] List.Pairwise.nil).1
def BZ.cH(d:BZ lt)(l:gF α):Bt lt l (Ev lt l):=by
 have:=(d.dF l [] List.Pairwise.nil).2;rw[Fh]at this;exact this
def BZ.eT(d:BZ lt){l l':gF α}(h:B6 lt l')(z:Bt lt l l'):l'=Ev lt l:=
 d.eO h (d.eW l) (z.bH.AF (d.cH l))
def B6.au{a b:gF α}(h:B6 lt (a++b)):B6 lt a/\B6 lt b/\∀x∈a,∀y∈b,lt y x=false:=by
 have:=EL.1 h;exact⟨this.1,this.2.1,this.2.2⟩
def B6.cQ{a b:gF α}(d:B6 lt a)(z:B6 lt b)(h:∀x∈a,∀y∈b,lt y x=false):B6 lt (a++b):=EL.2 ⟨d,z,h⟩
def BZ.fu(O:BZ lt){d E z h s1 s2:gF α}(hA:B6 lt (d++E))(hB:B6 lt (z++h))(h1:∀x∈d,∀y∈h,lt y x=false)(X:∀x∈E,∀y∈z,lt y x=true)(k1:B6 lt s1)(k2:B6 lt s2)(e1:Bt lt (d++z) s1)(Y:Bt lt (E++h) s2):B6 lt (s1++s2)/\Bt lt (d++E++(z++h)) (s1++s2):=by
 have⟨a1,a2,a3⟩:=hA.au;have⟨b1,b2,b3⟩:=hB.au;refine⟨B6.cQ k1 k2 λx L y I=>?_,?_⟩
 ·rcases AX.1 (e1.bH.DG O L) with L|L<;>rcases AX.1 (Y.bH.DG O I) with I|I
  ·exact a3 x L y I
  ·exact h1 x L y I
  ·exact O.cw (X y I x L)
  ·exact b3 x L y I
 ·have m:=((Bt.C (lt:=lt) d).au (O.b7 X)).au (Bt.C h);have e:d++E++(z++h)=d++(E++z)++h:=iE
  have e':d++(z++E)++h=d++z++(E++h):=iE
  rw[e];refine m.AF ?_;rw[e'];exact e1.au Y
def BZ.cT(d:BZ lt){a b:gF α}(ha:B6 lt a)(hb:B6 lt b)(h:∀x y,a.getLast?=some x->b.head?=some y->lt y x=false):∀x∈a,∀y∈b,lt y x=false:=by
 intro x Y y X;rcases Mk a with rfl|⟨a',z,rfl⟩
 ·cases Y
 cases b with
 | nil=>cases X
 | cons y0 b'=>
  have h0:=h z y0 iE rfl;have L:lt z x=false:=by
   (have E:x∈a'\/x=z:=by simpa using Y);rcases E with I|rfl
   ·exact(B6.au (by simpa using ha)).2.2 x I z iE
   ·exact d.J4 _
  have O:lt y y0=false:=by
   rcases BS.1 X with rfl|I
   ·exact d.J4 _
   ·exact(Dl.1 hb).1 y I
  exact d.dE (d.dE L h0) O
def BZ.dM(E:BZ lt){a b:gF α}(ha:B6 lt a)(hb:B6 lt b)(h:∀x y,a.getLast?=some y->b.head?=some x->lt y x=true):∀x∈b,∀y∈a,lt y x=true:=by
 intro x hx y Y;rcases Mk a with rfl|⟨a',z,rfl⟩
 ·cases Y
 cases b with
 | nil=>cases hx
 | cons x0 b'=>
  have h0:=h x0 z iE rfl;have X:lt z y=false:=by
   (have I:y∈a'\/y=z:=by simpa using Y);rcases I with L|rfl
   ·exact(B6.au (by simpa using ha)).2.2 y L z iE
   ·exact E.J4 _
  have O:lt x x0=false:=by
   rcases BS.1 hx with rfl|L
   ·exact E.J4 _
   ·exact(Dl.1 hb).1 x L
  have h1:lt y x0=true:=by
   rcases E.Lr z y x0 h0 with d|d
   ·rw[X]at d;cases d
   ·exact d
  rcases E.Lr y x x0 h1 with d|d
  ·exact d
  ·rw[O]at d;cases d
end
section
variable{α:Type}{lt:α->α->Bool}
def B6.cg{l:gF α}(h:B6 lt l)(k:Nat):B6 lt (l.take k):=(B6.au (by rw[Ec];exact h)).1
def B6.ct{l:gF α}(h:B6 lt l)(k:Nat):B6 lt (l.drop k):=(B6.au (a:=l.take k) (by rw[Ec];exact h)).2.1
def B6.CZ{l:gF α}(h:B6 lt l)(k:Nat):∀x∈l.take k,∀y∈l.drop k,lt y x=false:=(B6.au (a:=l.take k) (by rw[Ec];exact h)).2.2
def B6.Gp(x:α):B6 lt [x]:=NQ _ x
def BZ.fm(z:BZ lt){x:α}{V:gF α}(h:B6 lt V)(k:Nat)(O:∀y,(V.take k).getLast?=some y->lt y x=true)(L:∀y,(V.drop k).head?=some y->lt y x=false):
 B6 lt (V.take k++x::V.drop k)/\Bt lt (x::V) (V.take k++x::V.drop k):=by
 have b1:=z.dM (h.cg k) (B6.Gp x) λa y d I=>by cases I;exact O y d
 have b2:=z.cT (B6.Gp x) (h.ct k) λa y I d=>by cases I;exact L y d
 refine⟨B6.cQ (h.cg k) (Dl.2 ⟨λy d=>b2 x iE y d,h.ct k⟩) λu hu v E=>?_,?_⟩
 ·rcases BS.1 E with rfl|E
  ·exact z.cw (b1 v iE u hu)
  ·exact h.CZ k u hu v E
 ·have m:=(z.ep (x:=x) (ys:=V.take k) λy d=>b1 x iE y d).au (Bt.C (lt:=lt) (V.drop k));have Y:x::V.take k++V.drop k=x::V:=by rw[Ga,Ec]
  have X:V.take k++[x]++V.drop k=V.take k++x::V.drop k:=iE
  rw[Y,X]at m;exact m
def BZ.gu(z:BZ lt){y:α}{U:gF α}(h:B6 lt U)(k:Nat)(O:∀x,(U.take k).getLast?=some x->lt y x=false)(L:∀x,(U.drop k).head?=some x->lt y x=true):
 B6 lt (U.take k++y::U.drop k)/\Bt lt (U++[y]) (U.take k++y::U.drop k):=by
 have b1:=z.cT (h.cg k) (B6.Gp y) λx a d I=>by cases I;exact O x d
 have b2:=z.dM (B6.Gp y) (h.ct k) λx a I d=>by cases I;exact L x d
 refine⟨B6.cQ (h.cg k) (Dl.2 ⟨λx d=>z.cw (b2 x d y iE),h.ct k⟩) λu hu v E=>?_,?_⟩
 ·rcases BS.1 E with rfl|E
  ·exact b1 u hu v iE
  ·exact h.CZ k u hu v E
 ·have m:=(Bt.C (lt:=lt) (U.take k)).au (z.dt (y:=y) (xs:=U.drop k) λx d=>b2 x d y iE);have X:U.take k++(U.drop k++[y])=U++[y]:=by rw[<-Ci,Ec]
  rw[X]at m;exact m
def N3{l:gF α}{k:Nat}(d:k+1<=l.length):(l.take (k+1)).getLast?=some (l[k]'d):=by
 rw[Ds d];exact List.getLast?_concat
def head_drop{l:gF α}{k:Nat}(d:k<l.length):(l.drop k).head?=some (l[k]'d):=by
 rw[FY d];rfl
end
section
variable{α:Type}{lt:α->α->Bool}
def GB(lt:α->α->Bool)(D:gF α)(n s0 d s r:Nat):Prop:=
 s0<=s/\s<=r/\r<=d/\(s0<s->∀x y,D[s-1]?=some x->D[n-s]?=some y->lt y x=false)/\(r<d->∀x y,D[r]?=some x->D[n-1-r]?=some y->lt y x=true)
def A2D{A U V Z D:gF α}{n s0 r0 s:Nat}(hD:D=A++U++V++Z)(hU:2<=U.length)(hV:2<=V.length)(hn:n=(A.length+(A.length+U.length+V.length))/2+(A.length+U.length))(X:if (A.length+(A.length+U.length+V.length))/2<A.length+U.length then s0=n-(A.length+U.length+V.length)/\r0=(A.length+(A.length+U.length+V.length))/2 else s0=A.length/\r0=A.length+U.length)(h:GB lt D n s0 r0 s s):∃U1 U2 V1 V2,U=U1++U2/\V=V1++V2/\A.length+U1.length=s/\n-s=A.length+U.length+V1.length/\U1.length+V1.length=(A.length+(A.length+U.length+V.length))/2-A.length/\
  (∀x y,U1.getLast?=some x->V2.head?=some y->lt y x=false)/\(∀x y,V1.getLast?=some y->U2.head?=some x->lt y x=true):=by
 obtain⟨h1,-,h3,h4,h5⟩:=h;generalize hmid:(A.length+(A.length+U.length+V.length))/2=mid at hn X ⊢;have hsa:A.length<=s/\s<=A.length+U.length/\A.length+U.length<=n-s/\n-s<=A.length+U.length+V.length:=by
  split at X<;>omega
 obtain⟨k,hk⟩:∃k,s=A.length+k:=⟨s-A.length,iC⟩;obtain⟨j,hj⟩:∃j,n-s=A.length+U.length+j:=⟨n-s-(A.length+U.length),iC⟩;have aA:k<=U.length:=iC
 have Y:j<=V.length:=iC
 have l1:(U.take k).length=k:=by rw[BK];omega
 have l2:(V.take j).length=j:=by rw[BK];omega
 have L:∀i (I:i<U.length),D[A.length+i]?=some (U[i]'I):=λi I=>by
  rw[hD,Jl (by simp;omega),Jl (by simp;omega),Il iC];simp[I]
 have O:∀i (I:i<V.length),D[A.length+U.length+i]?=some (V[i]'I):=λi I=>by
  rw[hD,Jl (by simp;omega),Il iE];simp[I]
 refine⟨U.take k,U.drop k,V.take j,V.drop j,(Ec ..).symm,(Ec ..).symm,iC,iC,iC,λx y E z=>?_,λx y z E=>?_⟩
 ·rcases A4C k with h|h
  ·subst h;simp at E
  ·obtain⟨k,rfl⟩:∃q,k=q+1:=⟨k-1,iC⟩;rw[N3 aA]at E;rcases Fg j V.length with d|d
   ·rw[head_drop d]at z;refine h4 (by split at X<;>omega) x y ?_ ?_
    ·rw[show s-1=A.length+k by omega,L k iC];exact E
    ·rw[hj,O j d];exact z
   ·rw[NY d]at z;cases z
 ·rcases A4C j with h|h
  ·subst h;simp at z
  ·obtain⟨j,rfl⟩:∃q,j=q+1:=⟨j-1,iC⟩;rw[N3 Y]at z;rcases Fg k U.length with d|d
   ·rw[head_drop d]at E;refine h5 (by split at X<;>omega) x y ?_ ?_
    ·rw[hk,L k d];exact E
    ·rw[show n-1-s=A.length+U.length+j by omega,O j iC];exact z
   ·rw[NY d]at E;cases E
def GB.up{D:gF α}{n s0 z s r c:Nat}{x y:α}(h:GB lt D n s0 z s r)(hc:s<=c/\c<r)(Y:D[c]?=some x)(O:D[n-1-c]?=some y)(L:lt y x=false):GB lt D n s0 z (c+1) r:=by
 obtain⟨h1,h2,X,h4,I⟩:=h;refine⟨iC,iC,X,λ_ a b E d=>?_,I⟩;rw[A4F,Y]at E;rw[show n-(c+1)=n-1-c by omega,O]at d;cases E;cases d;exact L
def GB.e8{D:gF α}{n s0 z s r c:Nat}{x y:α}(h:GB lt D n s0 z s r)(hc:s<=c/\c<r)(Y:D[c]?=some x)(X:D[n-1-c]?=some y)(O:lt y x=true):GB lt D n s0 z s c:=by
 obtain⟨L,h2,h3,I,h5⟩:=h;refine⟨L,iC,iC,I,λ_ a b E d=>?_⟩;rw[Y]at E;rw[X]at d;cases E;cases d;exact O
def GB.fP(D:gF α)(n:Nat){s0 d:Nat}(h:s0<=d):GB lt D n s0 d s0 d:=⟨An _,h,An _,λh=>absurd h (FV _),λh=>absurd h (FV _)⟩
def EY(lt:α->α->Bool)(B:Nat)(P:Nat->Prop)(l:gF α):Prop:=∀i,P i->B6 lt ((l.drop (i*B)).take B)
def A2E{A M M' Z:gF α}(h:M.length=M'.length)(p q:Nat)(d:p+q<=A.length\/A.length+M.length<=p):((A++M++Z).drop p).take q=((A++M'++Z).drop p).take q:=by
 rcases d with d|d
 ·have e:∀X:gF α,((A++X++Z).drop p).take q=(A.drop p).take q:=λX=>by
   rw[Ci,Ml iC,HC (by rw[Cz];omega)]
  rw[e,e]
 ·have e:∀X:gF α,A.length+X.length<=p->((A++X++Z).drop p).take q=(Z.drop (p-(A.length+X.length))).take q:=λX z=>by
   rw[Mm,NY (by simpa using z),Fh,B3]
  rw[e M d,e M' iC,h]
def A2F{A M Z:gF α}{p q:Nat}(hp:A.length=p)(d:M.length<=q)(z:M.length<q->Z=[]):((A++M++Z).drop p).take q=M:=by
 rw[Ci,Mm,NY iC,Fh,show p-A.length=0 by omega,Dm];rcases Fg M.length q with h|h
 ·rw[z h,Gk,Eu d]
 ·rw[show q=M.length by omega,K0]
def EY.C9{l:gF α}{B:Nat}(h:EY lt B (λ_=>True) l)(d:l.length<=B):B6 lt l:=by
 have:=h 0 trivial
 rwa [Nat.zero_mul,Dm,Eu d]at this
def RJ(l:gF α){a b c:Nat}(h1:a<=b)(h2:b<=c):l=l.take a++(l.drop a).take (b-a)++(l.drop b).take (c-b)++l.drop c:=by
 have d:(l.drop a).take (b-a)++l.drop b=l.drop a:=by
  have:=Ec (b-a) (l.drop a)
  rwa [List.drop_drop,show a+(b-a)=b by omega]at this
 have h:(l.drop b).take (c-b)++l.drop c=l.drop b:=by
  have:=Ec (c-b) (l.drop b)
  rwa [List.drop_drop,show b+(c-b)=c by omega]at this
 rw[Ci,Ci,h,d,Ec]
end
structure CV (a c m:Nat):Prop where
 a:a<=1073741824
 c:c<=1000000000000
 m:m<=4294967296
def Fit.eK{P:PD}{a c m:Nat}(h:Fit P a c m)(d:CV a c m):AV P.F P.D.A6<=4611686018427387904:=
 AO h.bA (AO (W9 d.a d.m) iF)
def KH{P:PD}{a c m:Nat}(h:Fit P a c m)(nm:gE):(CH P.D P.F nm).1<=m:=by
 unfold CH;cases hx:lookup P.D.A6 nm with
 | none=>simp
 | some f=>have:=h.Be f (Gu hx);simp;omega
section
variable{w:gC}{b fb:Nat}{P:PD}{Ft:Nat->Prop}{T:TypeId}{nd:gE}{s a c m:Nat}
def A2M(I:Bi w fb T (A5 b) nd s)(h:Bw w b P Ft)(E:Fit P a c m)(z:CV a c m):
 Ag 240 #[A5 fb] w (Aj (A0 (P.aq nd).1) λw'=>Ap w Ft w' (λw' d=>Bw w' b (P.aq nd).2 d)):=
 V6 I h P.D.AW P.D.cI (by have:=E.A6;have:=E.Am;have:=z.a;have:=z.c;omega)
def Rt(z:Bi w fb T (A5 b) nd s)(h:Bw w b P Ft):
 Ag 164 #[A5 fb] w (Aj (A0 (P.ae nd).1) λw'=>Ap w Ft w' (λw' d=>Bw w' b (P.ae nd).2 d)):=XB z h
def K7(w:gC)(Ft:Nat->Prop)(fb:Nat)(w':gC)(b:Nat)(P:PD):Prop:=L9 w Ft fb w' b P.D P.F
def A4t(z:Bi w fb T (A5 b) nd s)(L:s<4294967296)(h:Bw w b P Ft)(E:∀k,Ft k->k<w.heap.size)(X:¬Ft fb)(l:Bs)(hll:l.length<=4294967296)(d:Fit P a c m)(I:CV a c m):
 Ag 237 #[A5 fb,.string ⟨l.toArray⟩] w (Aj (.tuple #[.bool (P.af nd s l).1,A0 (P.af nd s l).2.1]) λw'=>Bi w' fb T (A5 b) nd (AY s l)/\K7 w Ft fb w' b (P.af nd s l).2.2):=by
 have hm:=I.m;have hp:(AT s l).length=l.length+4:=by simp[AT,I2]
 have O:=d.au nd (AT s l);have hz:=KH O nd;have hz2:=KH d nd
 exact addF z L h E X l d.Av (d.eK I) d.BG (λf z=>by have:=d.Be f (Gu z);omega) iC ⟨by
  show (CH (P.au nd (AT s l)).2.D (P.au nd (AT s l)).2.F nd).1<=_;omega,iC⟩
def QV(nm l:Bs)(hs:s<4294967296)(h:Bw w b P Ft)(aA:∀k,Ft k->k<w.heap.size)(aL:l.length<=4294967296)(hF:Fit P a c m)(hl:CV (a+1) (c+1) m):
 Ag 196 #[.agg #[A5 b,.string ⟨nm.toArray⟩,.int .u32 s],.string ⟨l.toArray⟩] w (Aj (A0 (P.aH nm s l).1) λw'=>Ap w Ft w' (λw' aD=>Bw w' b (P.aH nm s l).2 aD)):=by
 have aM:CV a c m:=⟨by have:=hl.a;omega,by have:=hl.c;omega,hl.m⟩;have aH:Bi (w.aC #[A5 b,.string (Ab nm),.int .u32 s] 160) w.heap.size 160 (A5 b) (Ab nm) s:=Bn w _;have k0:A4 Aa w (w.aC #[A5 b,.string (Ab nm),.int .u32 s] 160):=(A4.C _ w).ai _;have h0:Bw (w.aC #[A5 b,.string (Ab nm),.int .u32 s] 160) b P Ft:=AU.av h aA k0;have CR:=A1 (A2M aH h0 hF aM);have AD:Hid (∀I,Bi I w.heap.size 160 (A5 b) (Ab nm) s->∀d,Bw I b (P.aq (Ab nm)).2 d->(∀k,d k->k<I.heap.size)->¬d w.heap.size->_):=λI q1 d q2 q3 q4=>A4t q1 hs q2 q3 q4 l aL (hF.aq (Ab nm)) hl;have aE:Hid (∀I,Bi I w.heap.size 160 (A5 b) (Ab nm) (AY s l)->∀d,Bw I b ((P.aq (Ab nm)).2.af (Ab nm) s l).2.2 d->_):=λI q1 d q2=>Rt q1 q2;have aS:=A1 aH;have a1:=A1 k0;have aG:=A1 aA
 have W:Hid (P.aH nm s l=if (P.aq (Ab nm)).1≠0 then P.aq (Ab nm) else
  if ((P.aq (Ab nm)).2.af (Ab nm) s l).2.1≠0 then ((P.aq (Ab nm)).2.af (Ab nm) s l).2 else
  ((P.aq (Ab nm)).2.af (Ab nm) s l).2.2.ae (Ab nm)):=rfl
 generalize hR:P.aH nm s l=R at W ⊢;generalize hC:P.aq (Ab nm)=C at W CR AD aE;generalize hD:C.2.af (Ab nm) s l=D at W AD aE;generalize hE:D.2.2.ae (Ab nm)=E at W aE
 go_enter func196,ntmps196
 go_wp2_with (fail);refine CR.k ?_;rintro I⟨aI,d,q2,q3,q4⟩;have aJ:=A1 (aS.o.aj aI λh=>FV _ (aG.o _ h));have aV:Hid (A4 (λk=>Ft k) w I):=(a1.o.aS).tr aI;have aQ:Hid (w.heap.size<I.heap.size):=aJ.o.lt;have a5:=A1 q2;have a0:=A1 q3;have aK:Hid (∀k,d k->Ft k\/w.heap.size<k):=λk O=>(q4 k O).imp id λh=>by simp at h;omega
 have aZ:Hid (¬d w.heap.size):=λO=>(aK.o _ O).elim (λh=>FV _ (aG.o _ h)) λh=>FV _ h
 have aF:=A1 (AD.o I aJ.o d q2 q3 aZ.o);by_cases hc:C.1=0
 case neg=>
  have hR:R=C:=by rw[W.o,Ai hc]
  have hb:(C.1 !=0)=true:=by simpa using hc
  go_wp2;go_ret;subst hR;exact⟨rfl,aV.o,d,a5.o,a0.o,λk O=>(aK.o k O).imp id Fu⟩
 case pos=>
 have hb:(C.1 !=0)=false:=by simpa using hc
 have aW:Hid (R=if D.2.1≠0 then D.2 else E):=by rw[W.o,Af (by simpa using hc)];rfl
 have aN:∀L,(Bi L w.heap.size 160 (A5 b) (Ab nm) (AY s l)/\K7 I d w.heap.size L b D.2.2)->Hid (A4 (λk=>Ft k) w L/\∃z,Bw L b D.2.2 z/\(∀k,z k->k<L.heap.size)/\(∀k,z k->Ft k\/w.heap.size<k)/\Ag 164 #[A5 w.heap.size] L (Aj (A0 E.1) λw'=>Ap L z w' (λw' aD=>Bw w' b E.2 aD))):=by
  rintro L⟨Y,X,z,p2,p3,p4⟩;refine⟨aV.o.AF X λx hx aA=>hx.elim (λh=>(aK.o x h).resolve_right iC) λh=>iC,z,p2,p3,λk O=>(p4 k O).elim (λh=>aK.o k h) λh=>.inr (by have:=aQ.o;omega),aE.o L Y z p2⟩
 have aB:=A1 aN;by_cases hd:D.2.1=0
 case neg=>
  have hR:R=D.2:=by rw[aW.o,Ai hd]
  have aR:(D.2.1 !=0)=true:=by simpa using hd
  go_wp2_with (go_at_call 237;refine aF.k ?_;rintro L⟨Y,X⟩;have a3:=aB.o L ⟨Y,X⟩);go_ret;subst hR;obtain⟨k2,z,p2,p3,p5,-⟩:=a3.o;exact⟨rfl,k2,z,p2,p3,λk O=>(p5 k O).imp id Fu⟩
 case pos=>
 have aR:(D.2.1 !=0)=false:=by simpa using hd
 have hR:R=E:=by rw[aW.o,Af (by simpa using hd)]
 subst hR;go_wp2_with (fail);refine aF.k ?_;rintro L⟨Y,X⟩;have⟨k2,z,p2,p3,p5,sy⟩:=(aB.o L ⟨Y,X⟩).o;have aU:=A1 k2;have aX:=A1 p5;have aE:=A1 sy;go_wp2_with (go_at_call 164;refine aE.k ?_;rintro w3⟨aT,aO,r2,r3,r4⟩;have aP:=A1 aT;have a2:=A1 r2;have aY:=A1 r3;have a4:=A1 r4);go_ret;exact⟨rfl,aU.o.AF aP.o λx hx aA=>(aX.o x hx).resolve_right iC,aO,a2.o,aY.o,λk O=>(a4.o k O).elim (λh=>(aX.o k h).imp id Fu) λh=>.inr (by have:=aU.o.Ak;omega)⟩
end
def M0{P:PD}{a c m:Nat}(h:Fit P a c m)(nm:Bs):(P.C9 nm).1.length<=m:=by
 unfold PD.C9 Eh;cases hx:lookup P.D.A6 (Ab nm) with
 | none=>simp
 | some f=>exact h.Be f (Gu hx)
section
variable{w:gC}{b:Nat}{P:PD}{Ft:Nat->Prop}{a c m:Nat}
def SL(nm:Bs)(h:Bw w b P Ft)(I:∀k,Ft k->k<w.heap.size)(hF:Fit P a c m)(hl:CV a c m):
 Ag 126 #[.agg #[A5 b,.string ⟨nm.toArray⟩,.int .u32 (AI nm)]] w (Aj (.tuple #[.string ⟨(P.aY nm).1.toArray⟩,A0 (P.aY nm).2]) λw'=>A4 Aa w w'):=by
 have aF:=M0 hF nm;have hm:=hl.m;have aD:=Kg nm;obtain⟨s,hs⟩:=iG (AI nm)
 have aE:Hid (P.aY nm=if (P.C9 nm).2≠0 then ([],(P.C9 nm).2) else match Ir s (P.C9 nm).1 with
  | some d=>(d,0)
  | none=>([],7)):=by rw[<-hs];rfl
 generalize Y:P.aY nm=R at aE ⊢;rw[hs]at aD ⊢;have aA:Bi (w.aC #[A5 b,.string (Ab nm),.int .u32 s] 160) w.heap.size 160 (A5 b) (Ab nm) s:=Bn w _;have k0:A4 Aa w (w.aC #[A5 b,.string (Ab nm),.int .u32 s] 160):=(A4.C _ w).ai _;have aN:=A1 (VN aA (AU.av h I k0));obtain⟨x,hx⟩:=iG (P.C9 nm);have L:Hid (Ag 166 #[A5 w.heap.size] (w.aC #[A5 b,.string (Ab nm),.int .u32 s] 160) (Aj (.tuple #[.string ⟨x.1.toArray⟩,A0 x.2]) λw'=>A4 Aa (w.aC #[A5 b,.string (Ab nm),.int .u32 s] 160) w')):=by
  rw[<-hx];exact aN.o
 rw[hx]at aE aF;obtain⟨t,ae⟩:=x;dsimp only at aE aF L;have aJ:=A1 aA;have aL:=A1 k0;have aI:=A1 aD
 go_enter func126,ntmps126
 by_cases he:ae=0
 case neg=>
  have hb:(ae !=0)=true:=by simpa using he
  have Y:R=([],ae):=by rw[aE.o,Ai he]
  subst Y;go_wp2_with (go_at_call 166;refine L.k ?_;rintro z E;have aH:=A1 E);go_ret2;exact⟨rfl,aL.o.tr aH.o⟩
 case pos=>
 subst he
 have aG:Hid (R=match Ir s t with
  | some d=>(d,0)
  | none=>([],7)):=by rw[aE.o,Af iE];rfl
 have aO:Hid (∀z,Bi z w.heap.size 160 (A5 b) (Ab nm) s->∃(d:Bs) (ok:Bool),R=(if ok then (d,0) else ([],7))/\Ag 167 #[A5 w.heap.size,.string ⟨t.toArray⟩] z (Aj (.tuple #[.string ⟨d.toArray⟩,.bool ok]) λw'=>A4 (One w.heap.size) z w')):=λz aK=>by
  by_cases h4:t.length<4
  ·refine⟨[],false,?_,?_⟩
   ·rw[aG.o];unfold Ir;rw[Ai h4];rfl
   ·refine(Xk z w.heap.size t h4).k ?_;rintro w' rfl;exact⟨rfl,A4.C _ _⟩
  ·refine⟨t.take (t.length-4),decide (Cl (AY s (t.take (t.length-4)))=t.drop (t.length-4)),?_,?_⟩
   ·rw[aG.o];unfold Ir;rw[Af h4];by_cases hq:Cl (AY s (t.take (t.length-4)))=t.drop (t.length-4)
    ·rw[Ai hq,CN hq];rfl
    ·rw[Af hq,CO hq];rfl
   ·have:=Oi z w.heap.size 160 (A5 b) (Ab nm) s (t.take (t.length-4)) (t.drop (t.length-4)) aK aI.o (by rw[Cz];omega) (by rw[BK];omega);rw[Ec]at this;refine this.mono ?_;rintro e w'⟨h1,h2,h3⟩;exact⟨h1,h3⟩
 go_wp2_with (fail);refine L.k ?_;rintro z E;have⟨d,ok,Y,hun⟩:=aO.o z (aJ.o.aj E (λh=>h));have aM:Hid (A4 Aa w z):=aL.o.tr E;have aB:=A1 hun;cases ok with
 | false=>
  simp only[QP,Cf]at Y;subst Y;go_wp2_with (go_at_call 167;refine aB.k ?_;rintro w2 O;have X:=A1 O);go_ret2;exact⟨rfl,aM.o.AF X.o λx hx I=>by cases hx;omega⟩
 | true=>
  simp only[Cs]at Y;subst Y;go_wp2_with (go_at_call 167;refine aB.k ?_;rintro w2 O;have X:=A1 O);go_ret2;exact⟨rfl,aM.o.AF X.o λx hx I=>by cases hx;omega⟩
end
def Tryz.dq:(Tryz.prog.info? 3).map (λi=>(i.zero,i.size,i.bytes))=some (some (A0 0),1,8):=by kernel_rfl
def A1v{k:Nat}{l:Bs}(h:l.length<8):GK k l=[]:=by cases k<;>simp[GK,h]
def A1x(l:Bs): -9223372036854775808<=BM l/\BM l<=9223372036854775807:=by unfold BM wrap64;omega
def A1t(w:gC)(E:Bs)(hl0:E.length<=4294967296):
 Calls Tryz.prog 127 #[.string ⟨E.toArray⟩] w λe w'=>∃v,e=.returned v/\DY w' v (ES E)/\(∀g,v.ownBlock=some g->w.heap.size<=g)/\A4 (λ_=>False) w w':=by
 obtain⟨R,hR⟩:=iG (ES E);have aT:Hid (GK E.length E=R):=hR;rw[hR];obtain⟨i0,hi,aF,aI,aJ⟩:∃i0,Tryz.prog.info? 3=some i0/\i0.zero=some (.int .i64 0)/\i0.size=1/\i0.bytes=8:=by
  have h:=Tryz.dq;cases hx:Tryz.prog.info? 3 with
  | none=>rw[hx]at h;cases h
  | some i=>rw[hx]at h;simp at h;exact⟨i,rfl,h.1,h.2.1,h.2.2⟩
 go_enter func127,ntmps127
 go_wp2;go_loopw [0,3] (λtv v wr=>∃(l:Bs) (k:Nat) (d:gF Int),tv=.string ⟨l.toArray⟩/\d.length*8+l.length<=E.length/\Hid (DY wr v d/\(∀g,v.ownBlock=some g->w.heap.size<=g)/\A4 (λ_=>False) w wr/\l.length<=k/\R=d++GK k l)) (λtv _ _=>match tv with | .string x=>x.size|_=>0)
 ·exact⟨E,E.length,[],rfl,iE,Cq _ _ _ _,λg I=>by simp[Value.ownBlock]at I,A4.C _ _,An _,by rw[aT.o];rfl⟩
 ·obtain⟨l,k,d,rfl,aA,hI⟩:=hrel;have z:(ByteArray.mk l.toArray).size=l.length:=by show l.toArray.size=_;simp
  by_cases h8:l.length<8
  case pos=>
   obtain⟨i1,i2,i3,-,i5⟩:=hI.o;rw[A1v h8,Gk]at i5;subst i5;(have aE:¬(8<=(l.length:Int)):=iC);have aO:=A1 i1;have aS:=A1 i2;have aP:=A1 i3;go_wp2;go_ret;exact⟨_,rfl,aO.o,aS.o,aP.o⟩
  case neg=>
   have⟨i1,i2,i3,i4,i5⟩:=hI.o;obtain⟨k,rfl⟩:∃k',k=k'+1:=⟨k-1,iC⟩;have aH:Hid (R=(d++[BM l])++GK k (l.drop 8)):=by
    unfold Hid;rw[i5];simp[GK,h8]
   have O:=A1 (N6 wr l iC);have hx:=A1x l;generalize hxe:BM l=x at aH O hx;obtain⟨ap,cp,rfl,hcap1,Y,-⟩:=B8 i1;unfold maxLen at Y;have e2:(ByteArray.mk l.toArray).extract 8 l.length=⟨(l.drop 8).toArray⟩:=by
    rw[extract_mk,Eu (by rw[Cz];omega)]
   have X:(l.drop 8).length=l.length-8:=Cz;generalize hq:l.drop 8=q at e2 aH X;generalize htx:ByteArray.mk l.toArray=tx at e2 z O ⊢;generalize hll:l.length=ll at e2 z X aA h8 i4;have h8i:(8:Int)<=(ll:Int):=iC;have aM:=A1 i1;have aN:=A1 i2;have aL:=A1 i3;have aQ:=A1 i4;have L:=A1 X;have aD:=A1 aA
   go_wp2_with (first
    | (go_at_call 168;refine O.k ?_;rintro w4 rfl)
    | (at_builtin
       have aB:Hid ((wr.alloc (.cells #[.int .i64 x] 3)).ownsRow 0 3 1 (.slice ap d.length cp) d.length (Ee d)):=Au aM.o λg I=>CW _ _ _ (Aw aM.o I);have aG:=A1 (Src.bb (size:=1) (B:=wr.heap.size) Hw wr #[.int .i64 x] 3 iE 1 1 rfl (KA [x]));refine CX rfl (.tmp 9) (.tmp 12) 26 26 rfl 3 i0 _ 1 8 Hw hi aF aI aJ rfl iF (.slice ap d.length cp) d.length (Ee d) (by rfl) aB.o _ 1 _ (by rfl) aG.o (by have:=aD.o;omega) ?_;intro a8 cap8 w8 hA;have aR:=A1 hA
       clear hA))
   go_roundw
   ·have hA:=aR.o;have aK:=hA.Am (S:=λk=>(Value.slice ap d.length cp).ownBlock=some k) λ_ h=>h;have k9:A4 (λ_=>False) wr (wr.alloc (.cells #[.int .i64 x] 3)):=(A4.C _ wr).ai _;refine⟨q,k,d++[x],rfl,by have:=aD.o;have:=L.o;simp;omega,?_,?_,?_,by have:=aQ.o;have:=L.o;omega,aH.o⟩
    ·have e:(d++[x]).length=d.length+1:=iE;unfold DY;rw[LK,e];exact hA.AB
    ·intro g I;rcases hA.BX with h|h
     ·rw[h]at I;exact aN.o g I
     ·rw[h]at I;cases I;exact AO aL.o.Ak k9.Ak
    ·exact(aL.o.tr k9).AF aK λy hy aE=>by have:=aN.o y hy;omega
   ·(have e:(ByteArray.mk q.toArray).size=q.length:=by show q.toArray.size=_;simp);have:=L.o;simp only[e,z];omega
def Tryz.fU:(Tryz.prog.info? 260).map (·.size)=some 2:=by kernel_rfl
def Tryz.gA:liesAt Tryz.prog Tryz.prog.depth 260 (2/Tryz.prog.cellsOf 260) 0 260 1=true:=by kernel_rfl
def Hm(B b:Nat)(l:gF UInt8)(w:gC):Prop:=Lib.IsBuilder 260 5 B b (Lib.byteCells l) w
def A21(B b:Nat)(bs:gF gD)(w:gC)(h:Lib.IsBuilder 260 5 B b bs w):
 Ag 238 #[A5 b] w (Aj (.tuple #[]) λw'=>(Lib.BuilderAt 260 5 B b (A5 b) bs w'/\Below B w w')):=by
 have⟨j,hj,hjs⟩:=A4x.1 Tryz.fU;rcases h with h|h
 ·have z:=h.cell0;have d:=h.shape;have hfz:=h.frozen0;have H:=A1 h
  go_enter func238,ntmps238
  go_wp2;rw[Lib.run_to_unsafe w (A9 b 0) underlying258 underlying217 hj (by rw[hjs];decide) d (Nat.zero_lt_succ 1)];simp only[Result.andThen];rw[VZ];go_wp2;rw[YK func262 (by kernel_rfl) (by kernel_rfl) (by kernel_rfl) (e:=Extern.AbiNoEscape.same) (by kernel_rfl)];rw[Lib.run_noEscape];simp only[Result.andThen];rw[VZ];go_wp2;rw[Lib.run_from_unsafe w (A9 b 0) underlying217 underlying258 hj d Tryz.gA];simp only[Result.andThen];rw[VZ];go_wp2;go_end0;exact⟨rfl,H.o.used _,(O6 B w).setCell (p:=(A9 b 0)) H.o.1 _⟩
 ·have z:=h.cell0;have H:=A1 h
  go_enter func238,ntmps238
  go_wp2;rw[Lib.run_neq_ptr_same w _ underlying258 hj];go_wp2;go_end0;exact⟨rfl,H.o,O6 B _⟩
def WT(B b:Nat)(bs:gF gD)(s:gE)(w:gC)(h:Lib.IsBuilder 260 5 B b bs w)(hlen:bs.length+s.size<=140737488355328)(hBw:B<=w.heap.size):
 Ag 194 #[A5 b,.string s] w (Aj (.tuple #[A0 s.size,.nilIface]) λw'=>(Lib.BuilderAt 260 5 B b (A5 b) (bs++Lib.strCells s) w'/\Below B w w')):=by
 have⟨i0,hi,hz0,hz1,hz2⟩:=DQ Tryz.infoByte
 go_enter func194,ntmps194
 go_wp2_with (go_at_call 238;refine(A21 B b bs _ h).mono ?_);rintro e X⟨rfl,h1,O⟩;obtain⟨hB,v,E,L,aB⟩:=h1;have c0:X.cell? (A9 b 0)=some (A5 b):=by rw[QE E];rfl
 have c1:X.cell? (A9 b 1)=some v:=by rw[QE E];rfl
 go_wp2_with (at_builtin;refine Lib.wpList_append_own_string _ rfl _ _ 127 9 rfl B 5 i0 Hx GX hi hz0 hz1 hz2 _ _ _ rfl L s rfl ?c3 ?c4 ?c5 ?_)
 case c3=>unfold maxLen;omega
 case c4=>omega
 case c5=>have:=O.size;omega
 intro v' Y d z _;have aA:b<X.heap.size:=by
  rcases Fg b X.heap.size with h' | h'
  ·exact h'
  ·simp[Array.getElem?_eq_none h']at E
 have I:Y.heap[b]?=some (.cells #[A5 b,v] 260 (0,0)):=by
  rw[z.block b aA (λe=>aB e.symm)];exact E
 have d0:Y.cell? (A9 b 0)=some (A5 b):=by rw[QE I];rfl
 have d1:Y.cell? (A9 b 1)=some v:=by rw[QE I];rfl
 have f1:Y.frozen? (A9 b 1)=false:=Lib.frozen_of_heap I 1;obtain⟨ao,n',cap,rfl⟩:∃ao n' cap,v'=.slice ao n' cap:=by
  rcases d.2 with⟨hv,_⟩|⟨g,cap,cur,hv,_⟩
  ·exact⟨_,_,_,hv⟩
  ·exact⟨_,_,_,hv⟩
 go_wp2;go_ret2;exact⟨rfl,Lib.BuilderAt.put (T:=260) (e:=5) hB I (bs':=bs++Lib.strCells s) (by simpa[Lib.strCells_length] using d) iF,(O.grown z (by have:=O.size;omega) (λk hk=>(L.lt k hk).1)).setCell (p:=(A9 b 1)) hB _⟩
def Y6(l:gF UInt8):Lib.strCells ⟨l.toArray⟩=Lib.byteCells l:=by
 simp[Lib.strCells,Lib.byteCells]
def O8{B b:Nat}{l t:gF UInt8}(w:gC)(h:Hm B b l w)(d:l.length+t.length<=140737488355328)(z:B<=w.heap.size):
 Calls Tryz.prog 194 #[.pointer (some ⟨b,0,none⟩),.string ⟨t.toArray⟩] w λe w'=>e=.returned (.tuple #[.int .i64 t.length,.nilIface])/\Hm B b (l++t) w'/\Below B w w':=by
 have I:(ByteArray.mk t.toArray).size=t.length:=by show t.toArray.size=_;simp
 refine(WT B b (Lib.byteCells l) ⟨t.toArray⟩ w h (by rw[Lib.byteCells_length,I];exact d) z).k ?_;rintro w'⟨E,L⟩;refine⟨by rw[I],.inr ?_,L⟩;rw[Y6]at E;have:Lib.byteCells (l++t)=Lib.byteCells l++Lib.byteCells t:=by simp[Lib.byteCells]
 rw[this];exact E
def A3v{B b:Nat}{l:gF UInt8}(w:gC)(h:Hm B b l w)(d:B<=w.heap.size):
 Ag 197 #[A5 b] w (Aj (.string ⟨l.toArray⟩) λw'=>Below B w w'):=Tryz.Builder_String_any B b l w h d
def Vo(w:gC):Hm w.heap.size w.heap.size [] (w.alloc (.cells #[.pointer none,.slice none 0 0] 260)):=
 .inl ⟨An _,_,Bn w _,Cq _ _ _ _,by simp[Value.ownBlock]⟩
def Hm.aj{B b:Nat}{l:gF UInt8}{w w':gC}{S:Nat->Prop}(h:Hm B b l w)(I:A4 S w w')(E:∀k,S k->k<B):Hm B b l w':=by
 have key:∀p,Lib.BuilderAt 260 5 B b p (Lib.byteCells l) w->Lib.BuilderAt 260 5 B b p (Lib.byteCells l) w':=by
  rintro p⟨X,v,L,d,O⟩;refine⟨X,v,I.aj L (λh=>by have:=E _ h;omega),?_,O⟩;exact Au d λg z=>I.Al g (Aw d z) (λh=>by have:=E _ h;have:=(d.lt g z).1;omega)
 exact h.imp (key _) (key _)
end
section
open Go.RowKit
attribute [local go_sem ↓] CL
def A1s(w:gC)(x:Int):Ag 169 #[A0 x] w (Aj (.bool false) λw'=>w=w'):=by
 go_enter func169,ntmps169
 go_wp2;go_ret;exact⟨rfl,rfl⟩
def Q9(w:gC)(x y:Int):Ag 130 #[A0 x,A0 y] w (Aj (A0 (Ct x y)) λw'=>w=w'):=by
 have d:=A1 (A1s);unfold Ct
 go_enter func130,ntmps130
 by_cases h:x<y
 ·rw[Ai h];go_wp2_with (go_at_call 169;refine(d.o _ _).k ?_;rintro w' rfl);go_ret;exact⟨rfl,rfl⟩
 ·by_cases z:y<x
  ·rw[Af h,Ai z];go_wp2_with (go_at_call 169;refine(d.o _ _).k ?_;rintro w' rfl);go_ret;exact⟨rfl,rfl⟩
  ·rw[Af h,Af z];go_wp2_with (go_at_call 169;refine(d.o _ _).k ?_;rintro w' rfl);go_ret;exact⟨rfl,rfl⟩
def Ku(a b:Int):Int:=if a≠0 then a else b
def Tk(w:gC)(g:Nat)(a b:Int)(h0:A7 w g 0 (A0 a))(h1:A7 w g 1 (A0 b)):
 Ag 156 #[AA g 2 2] w (Aj (A0 (Ku a b)) λw'=>w=w'):=by
 unfold Ku
 go_enter func156,ntmps156
 by_cases d:a=0
 ·subst d;rw[Af iE];by_cases h:b=0
  ·subst h;go_wp2;refine IM 3 ?_;rw[FF];go_wp2;rw[FF];go_wp2;rw[FF];go_wp2;go_ret;exact⟨rfl,rfl⟩
  ·(have hb':(b !=0)=true:=by simpa using h);go_wp2;refine IM 2 ?_;rw[FF];go_wp2;rw[FF];go_wp2;go_ret;exact⟨rfl,rfl⟩
 ·rw[Ai d];have ha':(a !=0)=true:=by simpa using d
  go_wp2;refine IM 1 ?_;rw[FF];go_wp2;go_ret;exact⟨rfl,rfl⟩
def A3c(p q:Pu):Cx p q=Ku (Ct p.1 q.1) (Ct p.2.1 q.2.1):=rfl
def DO(p:Pu):Value:=.agg #[A0 p.1,A0 p.2.1,A0 p.2.2]
def OQ(w:gC)(p q:Pu):Ag 158 #[DO p,DO q] w (Aj (A0 (Cx p q)) λw'=>A4 Aa w w'):=by
 obtain⟨E,d,L⟩:=p;obtain⟨z,I,X⟩:=q;rw[A3c];unfold DO;dsimp only
 have aH:=A1 (Q9);have OR:=A1 (Tk);obtain⟨x,hx⟩:=iG (Ct E z);obtain⟨y,hy⟩:=iG (Ct d I);rw[hx,hy];have b1:Cg ((w.alloc (.cells #[A0 E,A0 d,A0 L] 113)).alloc (.cells #[A0 z,A0 I,A0 X] 113)) w.heap.size E d L:=(CW _ _ _ iE).trans (Bn w _);have b2:Cg ((w.alloc (.cells #[A0 E,A0 d,A0 L] 113)).alloc (.cells #[A0 z,A0 I,A0 X] 113)) (w.heap.size+1) z I X:=by
  have:=Bn (w.alloc (.cells #[A0 E,A0 d,A0 L] 113)) (.cells #[A0 z,A0 I,A0 X] 113);simpa[Cg] using this
 have k2:A4 Aa w ((w.alloc (.cells #[A0 E,A0 d,A0 L] 113)).alloc (.cells #[A0 z,A0 I,A0 X] 113)):=((A4.C _ w).ai _).ai _;have sz:((w.alloc (.cells #[A0 E,A0 d,A0 L] 113)).alloc (.cells #[A0 z,A0 I,A0 X] 113)).heap.size=w.heap.size+2:=iE
 have aA:=A1 b1;have Y:=A1 b2;have aG:=A1 k2;have aJ:=A1 sz
 go_enter func158,ntmps158
 go_wp2;generalize ((w.alloc (.cells #[A0 E,A0 d,A0 L] 113)).alloc (.cells #[A0 z,A0 I,A0 X] 113))=w2 at aA Y aG aJ ⊢;refine Bq (λw'=>A7 w' w.heap.size 0 (A0 E)/\A7 w' w.heap.size 1 (A0 d)/\A7 w' (w.heap.size+1) 0 (A0 z)/\A7 w' (w.heap.size+1) 1 (A0 I)) 14
  (Ba [0,1,2,3,5,6,7,8,9,10,4,11,12,13] [4,11,12,13]) ⟨aA.o.c0,aA.o.c1,Y.o.c0,Y.o.c1⟩ ?_
 iterate 10 refine B4 ?_
 refine Bf λK O=>?_;go_simp;have aB:=A1 aA.o.aa;have aE:=A1 Y.o.aa;refine(aH.o _ _ _).k ?_;rintro w3 rfl;rw[hx];refine O _ _ ⟨aB.o.c0,aB.o.c1,aE.o.c0,aE.o.c1⟩ (λhS=>?_);refine Bf λK O=>?_;go_simp;refine(aH.o _ _ _).k ?_;rintro w4 rfl;rw[hy];refine O _ _ ⟨aB.o.c0,aB.o.c1,aE.o.c0,aE.o.c1⟩ (λhS=>?_);refine Bf λK O=>?_;go_simp;have ka:A4 Aa w2 (w2.alloc (.cells #[A0 x,A0 y] 3)).drew:=((A4.C _ _).ai _).aa;have aF:=aA.o.aj ka (λh=>h);have aD:=Y.o.aj ka (λh=>h);have hb:(w2.alloc (.cells #[A0 x,A0 y] 3)).drew.heap[w2.heap.size]?=some (.cells #[A0 x,A0 y] 3):=Bn w2 _;refine O _ _ ⟨aF.c0,aF.c1,aD.c0,aD.c1⟩ (λhS=>?_);refine Bf λK O=>?_;go_simp;refine(OR.o _ _ x y (by simp only[A7,World.cell?,hb];rfl) (by simp only[A7,World.cell?,hb];rfl)).k ?_;rintro w5 rfl;refine O _ _ ⟨aF.c0,aF.c1,aD.c0,aD.c1⟩ (λhS=>?_);have aI:Hid (A4 Aa w (w2.alloc (.cells #[A0 x,A0 y] 3)).drew):=aG.o.tr ka;refine Bl ?_;go_wp2;go_ret;exact⟨rfl,aI.o⟩
def X6{t len:Int}(h:1<=len):BH t len=if t.tmod len<0 then t.tdiv len-1 else t.tdiv len:=by
 unfold BH;have e1:=Int.mul_ediv_add_emod t len;have e2:=O3 t (b:=len) iC;have e3:=WD t (b:=len) iC;have f1:=A41 t len;have f3:t.tmod len<len:=QH t iC;have f4 : -len<t.tmod len:=by
  by_cases h0:0<=t
  ·have:=Int.tmod_nonneg len h0;omega
  ·have:=QH (-t) (b:=len) iC;rw[QL]at this;omega
 obtain⟨q,L⟩:=iG (t/len);obtain⟨r,O⟩:=iG (t % len);obtain⟨d,E⟩:=iG (t.tdiv len);obtain⟨I,z⟩:=iG (t.tmod len);rw[L,O]at e1;rw[O]at e2 e3;rw[E,z]at f1;rw[z]at f3 f4;rw[L,E,z];have key:len*(q-d)=I-r:=by
  have:len*(q-d)=len*q-len*d:=WB ..;omega
 by_cases X:I<0
 ·rw[Ai X];have h1 : -(2*len)<len*(q-d):=iC
  have h2:len*(q-d)<0:=iC
  have Y:q-d<0:=by
   rcases Mp (q-d) 0 with h|h
   ·exact h
   ·have:=Int.mul_nonneg (a:=len) iC h;omega
  have k2 : -2<q-d:=by
   rcases Mp (-2) (q-d) with h|h
   ·exact h
   ·have:len*(q-d)<=len*(-2):=WC h iC;omega
  omega
 ·rw[Af X];have h1 : -len<len*(q-d):=iC
  have h2:len*(q-d)<len:=iC
  have Y:q-d<1:=by
   rcases Mp (q-d) 1 with h|h
   ·exact h
   ·have:len*1<=len*(q-d):=WC h iC;omega
  have k2 : -1<q-d:=by
   rcases Mp (-1) (q-d) with h|h
   ·exact h
   ·have:len*(q-d)<=len*(-1):=WC h iC;omega
  omega
def Xv{t len:Int}(L:Ay t)(z:1<=len)(I:t.tmod len<0):Ay (t.tdiv len-1):=by
 obtain⟨t1,t2⟩:=L;have f1:=A41 t len;have f4 : -len<t.tmod len:=by
  by_cases O:0<=t
  ·have:=Int.tmod_nonneg len O;omega
  ·have:=QH (-t) (b:=len) iC;rw[QL]at this;omega
 obtain⟨q,E⟩:=iG (t.tdiv len);obtain⟨r,d⟩:=iG (t.tmod len);rw[E,d]at f1;rw[d]at f4 I;rw[E];constructor
 ·rcases Mp 0 q with h|h
  ·omega
  ·have:len*q<=1*q:=Int.mul_le_mul_of_nonpos_right z h;omega
 ·rcases Mp (q-1) 0 with h|h
  ·omega
  ·have h2:1*(q-1)<=len*(q-1):=Int.mul_le_mul_of_nonneg_right z h;have h3:len*(q-1)=len*q-len*1:=WB ..;omega
def Ob(w:gC)(t len:Int)(E:Ay t)(h:1<=len/\len<=4611686018427387904):
 Ag 157 #[A0 t,A0 len] w (Aj (A0 (BH t len)) λw'=>w=w'):=by
 obtain⟨t1,t2⟩:=E;have hl0:¬len=0:=iC
 rw[X6 h.1]
 go_enter func157,ntmps157
 by_cases d:t.tmod len<0
 ·rw[Ai d];have z:wrap64 (t.tdiv len-1)=t.tdiv len-1:=by
   have:=Xv ⟨t1,t2⟩ h.1 d;unfold Ay at this;unfold wrap64;omega
  go_wp2
  all_goals first|(exfalso;omega)|skip
  go_ret;refine⟨?_,rfl⟩;show Ending.returned (A0 (wrap64 (t.tdiv len-1)))=_;rw[z]
 ·rw[Af d];go_wp2
  all_goals first|(exfalso;omega)|skip
  go_ret;exact⟨rfl,rfl⟩
def Sf{α:Type}(cmp:α->α->Int):∀(l:gF α) (k:Nat) (h:k+1<l.length),CE cmp (l.drop k)=(decide (cmp (l[k]' iC) (l[k+1]'h)<0)&&CE cmp (l.drop (k+1))):=by
 intro l k h;rw[FY (by omega:k<l.length),FY h];rfl
def Se{α:Type}(cmp:α->α->Int)(l:gF α)(k:Nat)(h:l.length<=k+1):CE cmp (l.drop k)=true:=by
 have:(l.drop k).length<=1:=by rw[Cz];omega
 match hx:l.drop k with
 | []=>rfl
 | [x]=>rfl
 | x::y::r=>rw[hx]at this;simp at this
def Qb(x y:Int):Ct x y = -1\/Ct x y=0\/Ct x y=1:=by
 unfold Ct;split
 ·exact .inl rfl
 ·split
  ·exact .inr (.inr rfl)
  ·exact .inr (.inl rfl)
def YZ(w:gC)(v:gD)(l:gF Int)(h:Dh w v l)(hl:l.length<1099511627776):
 Ag 129 #[v,.func (.func 130) #[] #[]] w (Aj (.bool (CE Ct l)) λw'=>∃n,w'=w.drewN n):=by
 obtain⟨a,cap,rfl,h1,h2⟩:=h.BW;unfold maxLen at h2;have aF:Hid (CE Ct l=CE Ct (l.drop 0)):=rfl;generalize hR:CE Ct l=R at aF ⊢;have H:=A1 h
 go_enter func129,ntmps129
 go_wp2;go_loopw [5] (λiv wr=>∃k:Nat,iv=A0 ((k:Int)+1)/\k<=l.length/\(∃n,wr=w.drewN n)/\Hid (R=CE Ct (l.drop k))) (λiv _=>l.length+1-(intOf iv).toNat)
 ·exact⟨0,rfl,iC,⟨0,rfl⟩,aF.o⟩
 ·obtain⟨k,rfl,hk,⟨n,rfl⟩,O⟩:=hrel;by_cases z:k+1<l.length
  ·obtain⟨g,o,rfl,c1⟩:=Dh.at H.o k iC;have⟨g',o',e,c2⟩:=Dh.at H.o (k+1) z;cases e;have d:=O.o;rw[Sf Ct l k z]at d;have L:=Qb (l[k]' iC) (l[k+1]'z);have X:=A1 (λn=>Q9 (w.drewN n) (l[k]' iC) (l[k+1]'z));obtain⟨x,hx⟩:=iG ((l[k]' iC));obtain⟨y,hy⟩:=iG ((l[k+1]'z));rw[hx]at c1 d L X;rw[hy]at c2 d L X;generalize aD:Ct x y=cc at d L X;have d1:∀n,A7 (w.drewN n) g (o+k) (A0 x):=λn=>c1;have d2:∀n,A7 (w.drewN n) g (o+(k+1)) (A0 y):=λn=>c2;have I:=A1 d;clear c1 c2 hx hy aD d O;have aB:(k:Int)+1<(l.length:Int):=iC;have hk0:=BJ k;have hki2:(k:Int)<(l.length:Int):=iC;have aE:IntKind.i64.wrap (k:Int)=k:=E9 iC;(have ew1:IntKind.i64.wrap ((k:Int)+1-1)=k:=by rw[K9];exact aE);(have tk:((k:Int)+1).toNat=k+1:=iC);have pk:(0:Int)<=(k:Int)+1:=iC;by_cases hc:cc<0
   ·have E:Hid (R=CE Ct (l.drop (k+1))):=by
     have:=I.o;rw[CN hc,O4]at this;exact this
    clear I;have aA:¬(0<=cc):=iC;go_wp2;refine Bq (λw'=>A7 w' g (o+k) (A0 x)/\A7 w' g (o+(k+1)) (A0 y)) 11
     (Ba [0,1,2,3,4,5,6,7,8,9,10] [10]) ⟨d1 (n+1),d2 (n+1)⟩ ?_
    iterate 10 refine B4 ?_
    refine Bf λK Y=>?_;go_simp;refine(X.o (n+1)).k ?_;rintro w3 rfl;refine Y _ _ ⟨d1 (n+1),d2 (n+1)⟩ (λhS=>?_);clear Y K hS;refine Bl ?_;go_wp2;go_roundw
    ·exact⟨k+1,by go_num,iC,⟨n+1,rfl⟩,E.o⟩
    ·simp[intOf];omega
   ·have E:R=false:=by
     have:=I.o;rw[CO hc,WH]at this;exact this
    clear I;subst E;have aA:0<=cc:=iC;go_wp2;refine Bq (λw'=>A7 w' g (o+k) (A0 x)/\A7 w' g (o+(k+1)) (A0 y)) 11
     (Ba [0,1,2,3,4,5,6,7,8,9,10] [10]) ⟨d1 (n+1),d2 (n+1)⟩ ?_
    iterate 10 refine B4 ?_
    refine Bf λK Y=>?_;go_simp;refine(X.o (n+1)).k ?_;rintro w3 rfl;refine Y _ _ ⟨d1 (n+1),d2 (n+1)⟩ (λhS=>?_);refine Bl ?_;go_wp2;go_ret;exact⟨rfl,_,rfl⟩
  ·(have E:R=true:=by rw[O.o,Se Ct l k iC]);subst E;(have aB:¬((k:Int)+1<(l.length:Int)):=iC);go_wp2;go_ret;exact⟨rfl,_,rfl⟩
def Vi(p q:Pu):Cx p q = -1\/Cx p q=0\/Cx p q=1:=by
 unfold Cx;split<;>exact Qb _ _
def YY(w:gC)(v:gD)(l:gF Pu)(h:Ie w v l)(hl:l.length<1099511627776):
 Ag 177 #[v,.func (.func 158) #[] #[]] w (Aj (.bool (CE Cx l)) λw'=>A4 Aa w w'):=by
 obtain⟨a,cap,rfl,h1,h2⟩:=h.BW;unfold maxLen at h2;have aQ:Hid (CE Cx l=CE Cx (l.drop 0)):=rfl;generalize hR:CE Cx l=R at aQ ⊢;have H:=A1 h
 go_enter func177,ntmps177
 go_wp2;go_loopw [5] (λiv wr=>∃k:Nat,iv=A0 ((k:Int)+1)/\k<=l.length/\Hid (A4 Aa w wr)/\Hid (R=CE Cx (l.drop k))) (λiv _=>l.length+1-(intOf iv).toNat)
 ·exact⟨0,rfl,iC,A4.C _ _,aQ.o⟩
 ·obtain⟨k,rfl,hk,z,aD⟩:=hrel;by_cases O:k+1<l.length
  ·obtain⟨g,o,rfl,-,c1,c2,c3⟩:=Ie.at H.o k iC;obtain⟨g',o',e,-,c4,c5,c6⟩:=Ie.at H.o (k+1) O;cases e;have d:=aD.o;rw[Sf Cx l k O]at d;have aA:=Vi (l[k]' iC) (l[k+1]'O);have aE:=A1 (λE=>OQ E (l[k]' iC) (l[k+1]'O));obtain⟨x,X⟩:=iG ((l[k]' iC));obtain⟨y,hy⟩:=iG ((l[k+1]'O));rw[X]at c1 c2 c3 d aA aE;rw[hy]at c4 c5 c6 d aA aE;obtain⟨x1,x2,x3⟩:=x;obtain⟨y1,y2,y3⟩:=y;generalize hcc:Cx (x1,x2,x3) (y1,y2,y3)=cc at d aA aE;dsimp only at c1 c2 c3 c4 c5 c6;have d1:=z.o.aa.ad c1;have d2:=z.o.aa.ad c2;have d3:=z.o.aa.ad c3;have d4:=z.o.aa.ad c4;have d5:=z.o.aa.ad c5;have d6:=z.o.aa.ad c6;have aF:=A1 d;have aJ:=A1 c1;have aM:=A1 c2;have aL:=A1 c3;have aG:=A1 c4;have aN:=A1 c5;have aH:=A1 c6;have aI:(k:Int)+1<(l.length:Int):=iC;have hk0:=BJ k;have hki2:(k:Int)<(l.length:Int):=iC;have aK:IntKind.i64.wrap (k:Int)=k:=E9 iC;(have ew1:IntKind.i64.wrap ((k:Int)+1-1)=k:=by rw[K9];exact aK);(have tk:((k:Int)+1).toNat=k+1:=iC);have pk:(0:Int)<=(k:Int)+1:=iC;have Y:Hid (∀E,A4 Aa wr.drew E->(A7 E g (o+k*3) (A0 x1)/\A7 E g (o+k*3+1) (A0 x2)/\A7 E g (o+k*3+2) (A0 x3)/\A7 E g (o+(k+1)*3) (A0 y1)/\A7 E g (o+(k+1)*3+1) (A0 y2)/\A7 E g (o+(k+1)*3+2) (A0 y3))/\A4 Aa w E):=λE X=>
    ⟨⟨X.ad (z.o.aa.ad aJ.o),X.ad (z.o.aa.ad aM.o),X.ad (z.o.aa.ad aL.o),X.ad (z.o.aa.ad aG.o),X.ad (z.o.aa.ad aN.o),X.ad (z.o.aa.ad aH.o)⟩,z.o.aa.tr X⟩
   by_cases aB:cc<0
   ·have I:Hid (R=CE Cx (l.drop (k+1))):=by
     have:=aF.o;rw[CN aB,O4]at this;exact this
    have aO:¬(0<=cc):=iC;go_wp2;refine Bq (λw'=>A7 w' g (o+k*3) (A0 x1)/\A7 w' g (o+k*3+1) (A0 x2)/\A7 w' g (o+k*3+2) (A0 x3)/\A7 w' g (o+(k+1)*3) (A0 y1)/\A7 w' g (o+(k+1)*3+1) (A0 y2)/\A7 w' g (o+(k+1)*3+2) (A0 y3)) 11
     (Ba [0,1,2,3,4,5,6,7,8,9,10] [10]) ⟨d1,d2,d3,d4,d5,d6⟩ ?_
    iterate 10 refine B4 ?_
    refine Bf λK hK=>?_;go_simp;refine(aE.o _).k ?_;rintro w3 L;refine hK _ _ (Y.o w3 L).1 (λhS=>?_);have aP:=A1 (Y.o w3 L).2;refine Bl ?_;go_wp2;go_roundw
    ·exact⟨k+1,by go_num,iC,aP.o,I.o⟩
    ·simp[intOf];omega
   ·have I:R=false:=by
     have:=aF.o;rw[CO aB,WH]at this;exact this
    subst I;have aO:0<=cc:=iC;go_wp2;refine Bq (λw'=>A7 w' g (o+k*3) (A0 x1)/\A7 w' g (o+k*3+1) (A0 x2)/\A7 w' g (o+k*3+2) (A0 x3)/\A7 w' g (o+(k+1)*3) (A0 y1)/\A7 w' g (o+(k+1)*3+1) (A0 y2)/\A7 w' g (o+(k+1)*3+2) (A0 y3)) 11
     (Ba [0,1,2,3,4,5,6,7,8,9,10] [10]) ⟨d1,d2,d3,d4,d5,d6⟩ ?_
    iterate 10 refine B4 ?_
    refine Bf λK hK=>?_;go_simp;refine(aE.o _).k ?_;rintro w3 L;refine hK _ _ (Y.o w3 L).1 (λhS=>?_);have aP:=A1 (Y.o w3 L).2;refine Bl ?_;go_wp2;go_ret;exact⟨rfl,aP.o⟩
  ·(have I:R=true:=by rw[aD.o,Se Cx l k iC]);subst I;(have aI:¬((k:Int)+1<(l.length:Int)):=iC);go_wp2;go_ret;exact⟨rfl,z.o⟩
def YD{k:Nat}{l:Bs}(h:l.length<17):F5 k l=some ([],l):=by cases k<;>simp[F5,h]
def YE{k:Nat}{c:UInt8}{d:Bs}(h:16<=d.length):F5 (k+1) (c::d)=if c.toNat<8 then (F5 k (d.drop 16)).map λr=>(((c.toNat:Int),BM d,BM (d.drop 8)):: r.1,r.2) else none:=by
 have z:¬(c::d).length<17:=by simp;omega
 simp only[F5,Af z];rfl
section
variable{w:gC}{b B:Nat}{P:PD}{Ft:Nat->Prop}{a c m:Nat}{n:Int}
def Zp(w:gC)(h:Bw w b P Ft)(aP:∀k,Ft k->k<w.heap.size)(hF:Fit P a c m)(hl:CV a c m)(hn:CK n)(hL:Lets B w):
 Ag 135 #[A5 b,A0 n] w λe w'=>
  (P.CD n=none/\e=.returned (.tuple #[.pointer none,A0 7])/\A4 Aa w w')\/
  ∃l gb v,P.CD n=some l/\e=.returned (.tuple #[A5 gb,A0 0])/\Cc w' gb 182 b (AH n) (AI (AH n)) n v/\B1 w' v l/\(∀g,v.ownBlock=some g->w.heap.size<=g)/\w.heap.size<=gb/\A4 Aa w w':=by
 have⟨i0,hi,hz0,hz1,hz2⟩:=DQ J5;have bH:=A1 (RT w b hn hL);have bA:Hid (∀w1,A4 Aa w w1->_):=λw1 hc=>SL (AH n) (AU.av h aP hc) (λk hk=>Bp (aP k hk) hc.Ak) hF hl;have aQ:(P.aY (AH n)).1.length<=4294967296:=by
  have h1:=M0 hF (AH n);have:=hl.m;unfold PD.aY;split
  ·simp
  ·split
   ·rename_i d hd;unfold Ir at hd;split at hd
    ·cases hd
    ·split at hd
     ·cases hd;simp only[BK];omega
     ·cases hd
   ·simp
 obtain⟨X,hX⟩:=iG (P.CD n);have bI:Hid (Jt (P.aY (AH n))=X):=hX;rw[hX];have bL:AH n=BU 2 n:=rfl;rw[<-bL]at bH;generalize hnme:AH n=nm at bH bA bI aQ ⊢;generalize hs0:AI nm=s0 at bH bA ⊢;obtain⟨⟨dt,de⟩,bP⟩:∃x,P.aY nm=x:=⟨_,rfl⟩;rw[bP]at bA bI aQ;dsimp only at bA aQ
 go_enter func135,ntmps135
 go_wp2_with (fail);refine bH.m ?_;rintro e w1⟨gb,rfl,aN,bE,bV⟩;have a3:=A1 (bA.o w1 bE);have a1:=A1 aN;have a2:=A1 bE;have a0:=A1 bV;have g0:=aN.c0;have g1:=aN.c1;have g2:=aN.c2;by_cases he:de=0
 case neg=>
  have hb:(de !=0)=true:=by simpa using he
  have O:Hid (X=none):=by unfold Hid;rw[<-bI.o];unfold Jt;rw[Ai he]
  go_wp2_with (go_at_call 126;refine a3.k ?_;rintro w2 aE;have aF:=A1 aE);go_ret2;exact .inl ⟨O.o,rfl,a2.o.tr aF.o⟩
 case pos=>
 subst he
 have aH:Hid ((match F5 dt.length dt with
  | none=>none
  | some (l,r)=>if r=[]/\CE Cx l=true then some l else none)=X):=by
  rw[<-bI.o];unfold Jt;rw[Af iE];rfl
 generalize hY:F5 dt.length dt=Y at aH;have cB:=A1 hY;go_wp2_with (fail);refine a3.k ?_;rintro w2 aE;have bT:=A1 (a1.o.aj aE (λh=>h));have aF:Hid (A4 Aa w w2):=a2.o.tr aE;have bQ:=A1 a1.o.lt;have a6:=A1 aE.Ak;go_wp2;go_loopw [7] (λtv wr=>∃(l:Bs) (k:Nat) (z:gF Pu),tv=.string ⟨l.toArray⟩/\z.length*17+l.length<=dt.length/\Hid (∃v,Cc wr gb 182 b nm s0 n v/\B1 wr v z/\(∀g,v.ownBlock=some g->w2.heap.size<=g)/\(A4 Aa w wr/\w2.heap.size<=wr.heap.size)/\l.length<=k/\Y=(F5 k l).map λr=>(z++r.1,r.2))) (λtv _=>match tv with | .string x=>x.size|_=>0)
 ·exact⟨dt,dt.length,[],rfl,iE,_,bT.o,Cq _ _ _ _,λg hg=>by simp[Value.ownBlock]at hg,⟨aF.o,An _⟩,An _,by rw[<-cB.o];simp⟩
 ·obtain⟨l,k,z,rfl,aL,hI⟩:=hrel;have aA:(ByteArray.mk l.toArray).size=l.length:=by show l.toArray.size=_;simp
  by_cases aT:l.length<17
  case pos=>
   obtain⟨v,i1,i2,i3,⟨i4,a7⟩,-,i6⟩:=hI.o;rw[YD aT]at i6;simp only[ID,Gk]at i6;subst i6;(have hlt17:¬(17<=(l.length:Int)):=iC);have bN:=A1 i1;have aU:=A1 i2;have a9:=A1 i3;have aY:=A1 i4;have g4:=i1.c4;by_cases aB:l=[]
   case neg=>
    (have O:Hid (X=none):=by unfold Hid;rw[<-aH.o];simp only;rw[Af (λh=>aB h.1)]);have hbl:(l==[])=false:=I8.2 aB;go_wp2;go_ret2;exact .inl ⟨O.o,rfl,aY.o⟩
   case pos=>
   subst aB;have bF:=A1 (YY wr v z aU.o.rd (by simp at aL;omega));by_cases hr:CE Cx z=true
   case neg=>
    (have bR:CE Cx z=false:=by simpa using hr);(have O:Hid (X=none):=by unfold Hid;rw[<-aH.o];simp only;rw[Af (λh=>hr h.2)]);rw[bR]at bF;go_wp2_with (go_at_call 177;refine bF.k ?_;rintro w3 aS;have aD:=A1 aS);go_ret2;exact .inl ⟨O.o,rfl,aY.o.tr aD.o⟩
   case pos=>
    (have O:Hid (X=some z):=by unfold Hid;rw[<-aH.o];simp only;rw[Ai ⟨by first|trivial|rfl,hr⟩]);rw[hr]at bF;go_wp2_with (go_at_call 177;refine bF.k ?_;rintro w3 aS;have aD:=A1 aS);go_ret2;exact .inr ⟨z,gb,v,O.o,rfl,bN.o.aj aD.o (λh=>h),Au aU.o λg hg=>aD.o.Al g (Aw aU.o hg) (λh=>h),λg hg=>AO aF.o.Ak (a9.o g hg),a0.o,aY.o.tr aD.o⟩
  case neg=>
   have⟨v,i1,i2,i3,⟨i4,a7⟩,i5,i6⟩:=hI.o;obtain⟨k,rfl⟩:∃k',k=k'+1:=⟨k-1,iC⟩;obtain⟨c0,d,rfl⟩:∃c0 d,l=c0::d:=by
    cases l with
    | nil=>simp at aT
    | cons c0 d=>exact⟨c0,d,rfl⟩
   (have aG:16<=d.length:=by simp at aT;omega);rw[YE aG]at i6;obtain⟨ap,cp,rfl,hcap1,aW,-⟩:=B8 i2;unfold maxLen at aW;have aZ:=A1 (λw5=>SS w5 c0 d ⟨aG,by simp at aL;omega⟩);have e2:(ByteArray.mk (c0::d).toArray).extract 17 (d.length+1)=⟨(d.drop 16).toArray⟩:=by
    rw[extract_mk,DK,Eu (by rw[Cz];omega)]
   obtain⟨I,bS⟩:=iG (BM d);obtain⟨E,bJ⟩:=iG (BM (d.drop 8));rw[bS,bJ]at aZ i6;obtain⟨q,hq⟩:=iG (d.drop 16);(have bB:q.length+16=d.length:=by rw[<-hq,Cz];omega);rw[hq]at e2 i6;obtain⟨ll,bC⟩:=iG d.length;(have bO:(c0::d).length=ll+1:=by simp[bC]);rw[bO]at aA aL i5;rw[bC]at e2 aG bB;have hge:17<=(ll:Int)+1:=iC;generalize hty:ByteArray.mk (c0::d).toArray=ty at e2 aA aZ ⊢;have g4:=i1.c4;have f4:=i1.fz 4;have bN:=A1 i1;have aU:=A1 i2;have a9:=A1 i3;have aY:=A1 i4;have bK:=A1 a7;have b9:=A1 i5;have bY:=A1 i6;have aO:=A1 bB;have a5:=A1 aL;by_cases aK:c0.toNat<8
   case neg=>
    (have O:Hid (X=none):=by unfold Hid;rw[<-aH.o,bY.o,Af aK];rfl);rw[show decide (c0.toNat<8)=false from CO aK]at aZ;go_wp2_with (go_at_call 176;refine(aZ.o _).k ?_;rintro w6 aR;have aJ:=A1 aR);go_ret2;exact .inl ⟨O.o,rfl,(aY.o.tr aJ.o).ai _⟩
   case pos=>
    rw[show decide (c0.toNat<8)=true from CN aK]at aZ;have cA:Hid (Y=(F5 k q).map λr=>((z++[((c0.toNat:Int),I,E)])++r.1,r.2)):=by
     unfold Hid;rw[bY.o,Ai aK];cases F5 k q<;>simp
    go_wp2_with (go_at_call 176;refine(aZ.o _).k ?_;rintro w6 aR;have bM:=A1 (Bn w6 (.cells #[A0 c0.toNat,A0 I,A0 E] 113));have aJ:=A1 aR);have bU:A4 Aa wr (w6.alloc (.cells #[A0 c0.toNat,A0 I,A0 E] 113)):=aJ.o.ai _;have aX:Hid (Cg (w6.alloc (.cells #[A0 c0.toNat,A0 I,A0 E] 113)) w6.heap.size c0.toNat I E):=bM.o;have a4:=A1 bU;have bW:Hid (∀g,(Value.slice ap z.length cp).ownBlock=some g->g<w6.heap.size):=λg hg=>Bp (Aw aU.o hg) aJ.o.Ak;generalize (w6.alloc (.cells #[A0 c0.toNat,A0 I,A0 E] 113))=w7 at aX a4 ⊢;generalize w6.heap.size=pb at aX bW ⊢;have bZ:=A1 (bN.o.aj a4.o (λh=>h));have b0:Hid (B1 w7 (.slice ap z.length cp) z):=Au aU.o λg hg=>a4.o.Al g (Aw aU.o hg) (λh=>h);have b3:Hid (w2.heap.size<=w7.heap.size):=AO bK.o a4.o.Ak;have cD:Hid (A4 Aa w w7):=aY.o.tr a4.o;refine Bq (λw'=>A7 w' pb 0 (A0 c0.toNat)/\A7 w' pb 1 (A0 I)/\A7 w' pb 2 (A0 E)/\A7 w' gb 4 (.slice ap z.length cp)) 8
     (Ba [0,1,2,3,4,5,6,7] [6,7]) ⟨aX.o.aa.c0,aX.o.aa.c1,aX.o.aa.c2,bZ.o.aa.c4⟩ ?_
    iterate 6 refine B4 ?_
    refine Bf λK hK=>?_;go_simp;have ka:A4 Aa w7 (w7.alloc (.cells #[A0 c0.toNat,A0 I,A0 E] 113)).drew:=((A4.C _ _).ai _).aa;have bG:=aX.o.aj ka (λh=>h);have bX:=bZ.o.aj ka (λh=>h);have b8:Hid (B1 (w7.alloc (.cells #[A0 c0.toNat,A0 I,A0 E] 113)).drew (.slice ap z.length cp) z):=Au b0.o λg hg=>ka.Al g (Aw b0.o hg) (λh=>h);have bD:Hid (Src Tryz.prog 3 97 (AA w7.heap.size 1 1) 1 #[A0 c0.toNat,A0 I,A0 E].toList (w7.alloc (.cells #[A0 c0.toNat,A0 I,A0 E] 113)).drew):=by
     have hb:(w7.alloc (.cells #[A0 c0.toNat,A0 I,A0 E] 113)).drew.heap[w7.heap.size]?=some (.cells #[A0 c0.toNat,A0 I,A0 E] 113 (0,0)):=Bn w7 _;exact Src.cj GW hb 1 1 rfl (HJ [((c0.toNat:Int),I,E)])
    refine hK _ _ ⟨bG.c0,bG.c1,bG.c2,bX.c4⟩ (λhS=>?_);refine Dy rfl (by rfl) (λK hK=>?_);refine I1 (.tmp 40) (.tmp 42) 97 97 rfl 113 i0 _ 3 24 GW hi hz0 hz1 hz2 rfl iF (.slice ap z.length cp) z.length (B5 z) (by rfl) b8.o _ 1 _ (by rfl) bD.o (by have:=a5.o;omega) ?_;intro a8 L w8 hA;have aI:=hA.Am (S:=λk=>(Value.slice ap z.length cp).ownBlock=some k) λ_ h=>h;have b2:Hid (gb<w2.heap.size):=Bp bQ.o a6.o;have aV:=bG.aj aI (λh=>FV _ (bW.o _ h));have aM:=bX.aj aI (λh=>by have:=a9.o _ h;have:=b2.o;omega);have b7:Hid (B1 w8 (.slice a8 (z.length+1) L) (z++[((c0.toNat:Int),I,E)])):=by
     (have e:(z++[((c0.toNat:Int),I,E)]).length=z.length+1:=iE);unfold Hid B1;rw[It,e];exact hA.AB
    have b1:Hid (∀g,(Value.slice a8 (z.length+1) L).ownBlock=some g->w2.heap.size<=g):=λg hg=>by
     rcases hA.BX with h|h
     ·rw[h]at hg;exact a9.o g hg
     ·rw[h]at hg;cases hg;have:=b3.o;have:=ka.Ak;omega
    (have cC:Hid (A4 Aa w w8):=(cD.o.tr ka).AF aI λy hy aP=>by have:=a9.o y hy;have:=aF.o.Ak;omega);have cE:Hid (w2.heap.size<=w8.heap.size):=AO b3.o (AO ka.Ak aI.Ak);refine hK _ _ ⟨aV.c0,aV.c1,aV.c2,aM.c4⟩ (λhS=>?_);have g4:=aM.c4;have f4:=aM.fz 4;have b6:=A1 (aM.s4 (.slice a8 (z.length+1) L));have b5:Hid (A4 Aa w (w8.sC gb 4 (.slice a8 (z.length+1) L))):=cC.o.bc (p:=(A9 gb 4)) (λh=>by have h':gb<w.heap.size:=h;have:=a0.o;omega) _;have b4:Hid (B1 (w8.sC gb 4 (.slice a8 (z.length+1) L)) (.slice a8 (z.length+1) L) (z++[((c0.toNat:Int),I,E)])):=Au b7.o λg hg=>FB _ _ _ _ (λe=>by have e':g=gb:=e;have:=b1.o g hg;have:=b2.o;omega);refine Bl ?_;go_wp2;go_roundw
    ·exact⟨q,k,z++[((c0.toNat:Int),I,E)],rfl,by have:=a5.o;have:=aO.o;simp;omega,_,b6.o,by have:=b4.o;simpa using this,by have:=b1.o;simpa using this,⟨b5.o,by have:=cE.o;simpa using this⟩,by have:=b9.o;have:=aO.o;omega,cA.o⟩
    ·(have e:(ByteArray.mk q.toArray).size=q.length:=by show q.toArray.size=_;simp);have:=aO.o;simp only[e,aA];omega
end
def Bo(p:Pu):Prop:=(0<=p.1/\p.1<8)/\Ay p.2.1/\Ay p.2.2
def Zx(a b:gF Pu):Cr (a++b)=Cr a++Cr b:=by simp[Cr]
def OS(s t v:Int):(Bg s t v).length=17:=by simp[Bg,CT]
def OP(l:gF Pu):(Cr l).length=17*l.length:=by
 induction l with
 | nil=>rfl
 | cons p r ih=>
  have:Cr (p::r)=Bg p.1 p.2.1 p.2.2++Cr r:=rfl;rw[this,B3,ih,OS,CA];omega
def A4.cr{B:Nat}{w w':gC}(h:Below B w w'):A4 (λk=>B<=k) w w':=⟨h.os,h.tape,h.output,h.size,λk _ hn=>h.block k iC⟩
section
variable{w:gC}{b B:Nat}{P:PD}{Ft:Nat->Prop}{a c m:Nat}{n:Int}
def A0y(w:gC)(pv:gD)(l:gF Pu)(h:Bw w b P Ft)(aA:∀k,Ft k->k<w.heap.size)(hF:Fit P a c m)(hl:CV (a+1) (c+1) m)(hn:CK n)(hL:Lets B w)(hp:Ie w pv l)(bC:∀p∈l,Bo p)(hpl:l.length<=134217728):
 Ag 151 #[A5 b,A0 n,pv] w λe w'=>
  ((P.aJ n l).1≠0/\e=.returned (.tuple #[.pointer none,A0 (P.aJ n l).1])\/(P.aJ n l).1=0/\∃d,e=.returned (.tuple #[A5 d,A0 0]))/\Ap w Ft w' (λw' Y=>Bw w' b (P.aJ n l).2 Y):=by
 have aW:=A1 (RT w b hn hL);have aN:Hid (∀w1,A4 Aa w w1->_):=λw1 hc=>QV (AH n) (Cr l) (Kg (AH n)) (AU.av h aA hc) (λk hk=>Bp (aA k hk) hc.Ak) (by rw[OP];omega) hF hl;obtain⟨X,hX⟩:=iG (P.aJ n l);have aY:P.aH (AH n) (AI (AH n)) (Cr l)=X:=hX;rw[hX];rw[aY]at aN;have a3:AH n=BU 2 n:=rfl;rw[<-a3]at aW;generalize hnme:AH n=nm at aW aN;generalize hs0:AI nm=s0 at aW aN;obtain⟨pa,I,rfl,hcap1,aM⟩:=hp.BW;unfold maxLen at aM;have bR:=A1 hp;have a5:=A1 aA
 go_enter func151,ntmps151
 go_wp2_with (fail);refine aW.o.mono ?_;rintro e w1⟨d,rfl,aH,aP,bI⟩;have a4:=A1 aH;have HC1:=A1 aP;have a1:=A1 bI;have f4:=aH.fz 4;have g4:=aH.c4;have bE:=A1 (aH.s4 (.slice pa l.length I));have a7:Hid (A4 Aa w (w1.setCell (A9 d 4) (.slice pa l.length I))):=aP.bc (p:=(A9 d 4)) (λh=>by have h':d<w.heap.size:=h;omega) _;have HG1:=A1 a4.o.lt;obtain⟨O,aO⟩:=iG (w1.setCell (A9 d 4) (.slice pa l.length I));have hw2s:w1.heap.size=O.heap.size:=by rw[<-aO];simp
 rw[aO]at bE a7;have aG:Hid (d<O.heap.size):=bE.o.lt;have bJ:=A1 (Vo O);have bP:=A1 (bE.o.aj ((A4.C Aa O).ai (.cells #[.pointer none,.slice none 0 0] 260)) (λh=>h));have bN:Hid (A4 Aa w (O.alloc (.cells #[.pointer none,.slice none 0 0] 260))):=a7.o.ai _;have aK:Hid (w.heap.size<=O.heap.size):=a7.o.Ak;go_wp2;generalize bD:O.alloc (.cells #[.pointer none,.slice none 0 0] 260)=w3 at bJ bP bN ⊢;have aQ:Hid (O.heap.size<=w3.heap.size):=by rw[<-bD];show O.heap.size<=_;simp
 generalize O.heap.size=bb at bJ aG aK aQ ⊢;go_loopw [22] (λiv wr=>∃k:Nat,iv=A0 k/\k<=l.length/\Hid (Hm bb bb (Cr (l.take k)) wr/\Cc wr d 182 b nm s0 n (.slice pa l.length I)/\A4 Aa w wr/\bb<=wr.heap.size)) (λiv _=>l.length-(intOf iv).toNat)
 ·exact⟨0,rfl,iC,by simpa[Cr] using bJ.o,bP.o,bN.o,aQ.o⟩
 ·obtain⟨k,rfl,hk,hI⟩:=hrel;by_cases aF:k<l.length
  ·have⟨i1,i2,i3,i4⟩:=hI.o;obtain⟨g,o,rfl,-,c1,c2,c3⟩:=Ie.at bR.o k aF;have L:=bC _ (BT aF);have aT:l.take (k+1)=l.take k++[l[k]'aF]:=Ds aF;generalize hxe:(l[k]'aF)=x at c1 c2 c3 L aT;obtain⟨x1,x2,x3⟩:=x;dsimp only at c1 c2 c3;have d1:=i3.ad c1;have d2:=i3.ad c2;have d3:=i3.ad c3;obtain⟨⟨aS,aZ⟩,ht,hv⟩:=L;dsimp only at aS aZ ht hv;have PB:=A1 (λz=>SX z x1 x2 x3 ⟨aS,iC⟩ ht hv);(have aI:Hid (Cr (l.take (k+1))=Cr (l.take k)++Bg x1 x2 x3):=by unfold Hid;rw[aT,Zx];simp[Cr]);(have a0:(Cr (l.take k)).length<=17*l.length:=by rw[OP,BK];omega);generalize hpk:Cr (l.take k)=pk at i1 aI a0;have aX:=OS x1 x2 x3;generalize hpbe:Bg x1 x2 x3=pb at PB aI aX;have a8:=A1 i1;have aL:=A1 i2;have bF:=A1 i3;have aV:=A1 i4;have bQ:Hid (∀w6,A4 Aa wr w6->_):=λw6 h6=>O8 (t:=pb) w6 (a8.o.aj h6 (λ_ h=>h.elim)) iC (AO aV.o h6.Ak);have a6:(k:Int)<(l.length:Int):=iC;have hk0:(0:Int)<=(k:Int):=GA _;go_wp2_with (fail);refine(PB.o _).k ?_;rintro w6 bA;have aU:Hid (A4 Aa wr w6):=((A4.C Aa wr).ai _).tr bA;have a9:=A1 (bQ.o w6 aU.o);go_wp2_with (go_at_call 194;refine a9.k ?_;rintro w7⟨bG,bH⟩;have a2:=A1 bG;have aR:=A1 bH);go_roundw
   ·have c7:A4 (λk=>bb<=k) w6 w7:=A4.cr aR.o;refine⟨k+1,by go_num,iC,by rw[aI.o];exact a2.o,(aL.o.aj aU.o (λh=>h)).aj c7 (λh=>by have:=aG.o;omega),?_,?_⟩
    ·exact(bF.o.tr aU.o).AF c7 λx L aA=>by have:=aK.o;omega
    ·exact AO aV.o (AO aU.o.Ak aR.o.size)
   ·simp[intOf];omega
  ·have⟨i1,i2,i3,i4⟩:=hI.o;(obtain rfl:k=l.length:=iC);rw[C5]at i1;have a8:=A1 i1;have aL:=A1 i2;have bF:=A1 i3;have aV:=A1 i4;have bM:=A1 (A3v wr.drew (a8.o.aj ((A4.C Aa _).aa) (λ_ h=>h.elim)) aV.o);(have a6:¬((l.length:Int)<(l.length:Int)):=iC);have aD:Hid (∀z,Below bb wr.drew z->(A7 z d 0 (A5 b)/\A7 z d 1 (.string ⟨nm.toArray⟩)/\A7 z d 2 (.int .u32 s0))/\A4 Aa w z):=λz L=>by
    have cx:A4 (λk=>bb<=k) wr.drew z:=A4.cr L;have fx:=aL.o.aa.aj cx (λh=>by have:=aG.o;omega);exact⟨⟨fx.c0,fx.c1,fx.c2⟩,bF.o.aa.AF cx λx L aA=>by have:=aK.o;omega⟩
   have e0:=aL.o.aa.c0;have e1:=aL.o.aa.c1;have e2:=aL.o.aa.c2;obtain⟨bK,bL⟩:=X;dsimp only at aN;have bO:Hid (∀z,Below bb wr.drew z->∀wy,Ap z Ft wy (λw' Y=>Bw w' b bL Y)->(A7 wy d 0 (A5 b)/\A7 wy d 1 (.string ⟨nm.toArray⟩)/\A7 wy d 2 (.int .u32 s0))/\Ap w Ft wy (λw' Y=>Bw w' b bL Y)):=λz L wy hy=>by
    have cx:A4 (λk=>bb<=k) wr.drew z:=A4.cr L;have fx:=(aL.o.aa.aj cx (λh=>by have:=aG.o;omega)).aj hy.1 (λh=>by have:=a5.o _ h;have:=a1.o;omega);exact⟨⟨fx.c0,fx.c1,fx.c2⟩,hy.a1 (aD.o z L).2⟩
   by_cases L:bK=0
   case neg=>
    (have hxb:(bK !=0)=true:=by simpa using L);go_wp2;refine Bq (λw'=>A7 w' d 0 (A5 b)/\A7 w' d 1 (.string ⟨nm.toArray⟩)/\A7 w' d 2 (.int .u32 s0)) 6
     (Ba [0,1,2,3,4,5] [4,5]) ⟨e0,e1,e2⟩ ?_
    iterate 4 refine B4 ?_
    refine Bf λK hK=>?_;go_simp;refine bM.k ?_;rintro w9 E;refine hK _ _ (aD.o w9 E).1 (λhS=>?_);have aJ:=A1 (aN.o w9 (aD.o w9 E).2);have aB:=A1 (bO.o w9 E);refine Bf λK hK=>?_;go_simp;refine aJ.k ?_;rintro aE hI;refine hK _ _ (aB.o aE hI).1 (λhS=>?_);have bB:=A1 (aB.o aE hI).2;refine Bl ?_;go_wp2;go_ret2;exact⟨rfl,bB.o⟩
   case pos=>
    subst L;go_wp2;refine Bq (λw'=>A7 w' d 0 (A5 b)/\A7 w' d 1 (.string ⟨nm.toArray⟩)/\A7 w' d 2 (.int .u32 s0)) 6
     (Ba [0,1,2,3,4,5] [4,5]) ⟨e0,e1,e2⟩ ?_
    iterate 4 refine B4 ?_
    refine Bf λK hK=>?_;go_simp;refine bM.k ?_;rintro w9 E;refine hK _ _ (aD.o w9 E).1 (λhS=>?_);have aJ:=A1 (aN.o w9 (aD.o w9 E).2);have aB:=A1 (bO.o w9 E);refine Bf λK hK=>?_;go_simp;refine aJ.k ?_;rintro aE hI;refine hK _ _ (aB.o aE hI).1 (λhS=>?_);have bB:=A1 (aB.o aE hI).2;refine Bl ?_;go_wp2;go_ret2;exact⟨⟨_,rfl⟩,bB.o⟩
end
def SC{P:PD}{a c m:Nat}(h:Fit P a c m)(nm:Bs):(P.aY nm).1.length<=m:=by
 have h1:=M0 h nm;unfold PD.aY;split
 ·simp
 ·split
  ·rename_i d z;unfold Ir at z;split at z
   ·cases z
   ·split at z
    ·cases z;simp only[BK];omega
    ·cases z
  ·simp
def Uk:∀(k:Nat) (l:Bs),(GK k l).length*8<=l.length
 | 0,l=>by simp[GK]
 | k+1,l=>by
  unfold GK;split
  ·simp
  ·have:=Uk k (l.drop 8);simp only[CA,Cz]at this ⊢;omega
def A4.bI{S:Nat->Prop}{w w':gC}(h:A4 S w w'){p:Addr}{v:gD}(d:w.cell? p=some v)(E:¬S p.block):w'.cell? p=some v:=by
 have z:=GV w _ d;have:=h.Al p.block z E;unfold World.cell? at d ⊢;rw[this];exact d
def Dh.fD{w:gC}{g o n cap:Nat}{l:gF Int}(h:Dh w (.slice (some (A9 g o)) n cap) l)(Y:0<l.length)(a':Option Addr)(ha:1<l.length->a'=some (A9 g (o+1)))(L:∀x,a'=some x->x.block=g):Dh w (.slice a' (n-1) (cap-1)) l.tail:=by
 obtain⟨h1,a,c,e,h2,h3,O,X⟩:=h;cases e;have E:l.tail.length=l.length-1:=List.length_tail;refine⟨by rw[Um];omega,a',cap-1,by rw[E],iC,iC,λx z=>?_,λj u hj=>?_⟩
 ·unfold Value.ownBlock at z;cases a' with
  | none=>simp at z
  | some y=>
   simp only at z;have:=L y rfl;cases z;rw[this];exact O g rfl
 ·have d:(Ee l)[j+1]?=some u:=by
   cases l with
   | nil=>simp at Y
   | cons x r=>simpa[Ee] using hj
  have⟨g',o',e,hc⟩:=X _ _ d;cases e;have I:j+1<(Ee l).length:=(Ik.1 d).1;rw[Um]at I;exact⟨g,o+1,ha iC,by rw[show o+1+j=o+(j+1) by omega];exact hc⟩
section
variable{w:gC}{b B:Nat}{P:PD}{Ft:Nat->Prop}{a c m:Nat}{n:Int}
def Zu(w:gC)(h:Bw w b P Ft)(aJ:∀k,Ft k->k<w.heap.size)(hF:Fit P a c m)(hl:CV a c m)(hL:Lets B w):
 Ag 96 #[A5 b] w λe w'=>
  (P.ba=none/\e=.returned (.tuple #[.pointer none,A0 7])/\A4 Aa w w')\/
  ∃ix xb v,P.ba=some ix/\e=.returned (.tuple #[A5 xb,A0 0])/\Cc w' xb 162 b AJ (AI AJ) ix.Bd v/\Dh w' v ix.sd/\(∀g,v.ownBlock=some g->xb<g)/\w.heap.size<=xb/\A4 Aa w w':=by
 have a8:=A1 (PQ w b 3 iC (I3 (n:=0) iC iC) hL);have aZ:Hid (∀w1,A4 Aa w w1->_):=λw1 hc=>SL AJ (AU.av h aJ hc) (λk hk=>Bp (aJ k hk) hc.Ak) hF hl;have aF:(P.aY AJ).1.length<=4294967296:=AO (SC hF AJ) hl.m;obtain⟨X,hX⟩:=iG P.ba;have bA:Hid (indexOf (P.aY AJ)=X):=hX;rw[hX];have bF:BU 3 0=AJ:=rfl;rw[show ((3:Nat):Int)=3 from rfl,bF]at a8;generalize hnme:AJ=nm at a8 aZ bA aF ⊢;generalize hs0:AI nm=s0 at a8 aZ ⊢;obtain⟨⟨O,de⟩,bO⟩:∃x,P.aY nm=x:=⟨_,rfl⟩;rw[bO]at aZ bA aF;dsimp only at aZ aF
 go_enter func96,ntmps96
 go_wp2_with (fail);refine a8.k ?_;rintro w1 a5;have aG:Cc (w1.aC #[A5 b,.string ⟨nm.toArray⟩,.int .u32 s0,A0 1,.slice none 0 0] 162) w1.heap.size 162 b nm s0 1 (.slice none 0 0):=Bn w1 _;have bU:Hid (A4 Aa w (w1.aC #[A5 b,.string ⟨nm.toArray⟩,.int .u32 s0,A0 1,.slice none 0 0] 162)):=a5.ai _;have aP:Hid (w.heap.size<=w1.heap.size):=a5.Ak;have bK:=A1 (aZ.o _ bU.o);have bG:=A1 aG;have g0:=aG.c0;have g1:=aG.c1;have g2:=aG.c2;go_wp2_with (fail);refine bK.k ?_;rintro w2 aT;have aO:=A1 (bG.o.aj aT (λh=>h));have aU:Hid (A4 Aa w w2):=bU.o.tr aT;have aI:Hid (w1.heap.size<w2.heap.size):=aO.o.lt;generalize w1.heap.size=xb at *;by_cases h8:de=8
 case pos=>
  subst h8;have z:Hid (X=some ⟨1,[]⟩):=by unfold Hid;rw[<-bA.o];unfold indexOf;rw[Ai rfl]
  go_wp2;go_ret2;exact .inr ⟨⟨1,[]⟩,xb,_,z.o,rfl,aO.o,DJ.bS,λg hg=>by simp[Value.ownBlock]at hg,aP.o,aU.o⟩
 case neg=>
 have h8b:(de==8)=false:=by simpa using h8
 have aS:=A1 (A1t w2 O aF);have aY:Hid ((ES O).length*8<=O.length):=Uk _ _
 have aM:Hid ((if de≠0\/ES O=[]\/O.length≠(ES O).length*8 then none else
  if (ES O).all isNum=false then none else
  if CE Ct (ES O).tail then some ⟨(ES O).headD 0,(ES O).tail⟩ else none)=X):=by
  rw[<-bA.o];unfold indexOf;rw[Af h8];rfl
 generalize hns:ES O=ns at aS aY aM;go_wp2_with (fail);refine aS.m ?_;rintro e w3⟨v,rfl,hv,bQ,aK⟩;have aE:=A1 (aO.o.aj aK (λh=>h));have aB:Hid (A4 Aa w w3):=aU.o.tr aK;obtain⟨ap,cp,rfl,hcap1,aQ,bC,-⟩:=B8 hv;unfold maxLen at aQ;have bT:=A1 hv;have bH:Hid (∀g,(Value.slice ap ns.length cp).ownBlock=some g->w2.heap.size<=g):=bQ;have HW3:=A1 aK.Ak;by_cases E:de≠0\/ns=[]\/O.length≠ns.length*8
 case pos=>
  have z:Hid (X=none):=by unfold Hid;rw[<-aM.o,Ai E]
  by_cases h0:de=0
  ·subst h0;by_cases aD:ns=[]
   ·subst aD;go_wp2;go_ret2;exact .inl ⟨z.o,rfl,aB.o⟩
   ·have bB:((ns.length:Int)==0)=false:=by
     have:ns.length≠0:=λe=>aD (HE.1 e);simp;omega
    have hd:((O.length:Int)!=wrap64 ((ns.length:Int)*8))=true:=by
     (have:O.length≠ns.length*8:=by rcases E with h|h|h;exact absurd rfl h;exact absurd h aD;exact h);have:=aY.o;(have ew:wrap64 ((ns.length:Int)*8)=(ns.length:Int)*8:=by unfold wrap64;omega);rw[ew];simp;omega
    go_wp2;go_ret2;exact .inl ⟨z.o,rfl,aB.o⟩
  ·(have hb:(de !=0)=true:=by simpa using h0);go_wp2;go_ret2;exact .inl ⟨z.o,rfl,aB.o⟩
 case neg=>
  have hz:de=0/\ns≠[]/\O.length=ns.length*8:=⟨A44 λh=>E (.inl h),λh=>E (.inr (.inl h)),A44 λh=>E (.inr (.inr h))⟩;obtain⟨rfl,aD,hd0⟩:=hz;have aX:Hid ((if ns.all isNum=false then none else if CE Ct ns.tail then some ⟨ns.headD 0,ns.tail⟩ else none)=X):=by rw[<-aM.o,Af E];rfl
  have I:0<ns.length:=K4.2 aD;have bB:((ns.length:Int)==0)=false:=by simp;omega
  have hd:((O.length:Int)!=wrap64 ((ns.length:Int)*8))=false:=by
   (have ew:wrap64 ((ns.length:Int)*8)=(ns.length:Int)*8:=by unfold wrap64;omega);rw[ew];simp;omega
  obtain⟨g,rfl⟩:=bC I;have bM:Hid (ns.length<=1099511627776):=by unfold Hid;omega
  go_wp2;go_loopw [44] (λiv wr=>∃k:Nat,iv=A0 k/\k<=ns.length/\wr=w3/\Hid ((ns.take k).all isNum=true)) (λiv _=>ns.length-(intOf iv).toNat)
  ·exact⟨0,rfl,iC,rfl,by unfold Hid;rfl⟩
  ·obtain⟨k,rfl,hk,rfl,hI⟩:=hrel;by_cases Y:k<ns.length
   ·have d:A7 wr g k (A0 (ns[k]'Y)):=Bu bT.o rfl (Pw ns k Y);have a2:ns.take (k+1)=ns.take k++[ns[k]'Y]:=Ds Y;have aH:(ns[k]'Y)∈ns:=BT Y;generalize L:(ns[k]'Y)=x at d a2 aH;have a9:=A1 (Ui wr x);have bI:(k:Int)<(ns.length:Int):=iC;have hk0:=BJ k;have bE:=A1 a2;have aW:=A1 aH;by_cases hn:isNum x=true
    ·(have bN:Hid ((ns.take (k+1)).all isNum=true):=by unfold Hid;rw[bE.o,List.all_append,hI.o];simp[hn]);rw[hn]at a9;go_wp2_with (go_at_call 128;refine a9.k ?_;rintro w4 rfl);go_roundw
     ·exact⟨k+1,by go_num,iC,trivial,bN.o⟩
     ·simp[intOf];omega
    ·(have bJ:isNum x=false:=by simpa using hn);have z:Hid (X=none):=by
      unfold Hid;rw[<-aX.o,Ai];have:¬ns.all isNum=true:=λh=>hn (O0.1 h x aW.o);simpa using this
     rw[bJ]at a9;go_wp2_with (go_at_call 128;refine a9.k ?_;rintro w4 rfl);go_ret2;exact .inl ⟨z.o,rfl,aB.o⟩
   ·(obtain rfl:k=ns.length:=iC);(have hall:ns.all isNum=true:=by have:=hI.o;rwa [C5]at this);(have aL:Hid ((if CE Ct ns.tail then some (Ix.mk (ns.headD 0) ns.tail) else none)=X):=by have:=aX.o;rwa [Af (by simp[hall])]at this);have d:A7 wr.drew g 0 (A0 (ns.headD 0)):=by
     have h0:=Pw ns 0 I;have:(ns[0]'I)=ns.headD 0:=by cases ns with
      | nil=>simp at I
      | cons x r=>rfl
     rw[this]at h0;exact Bu bT.o rfl h0
    (have bI:¬((ns.length:Int)<(ns.length:Int)):=iC);have f3:=aE.o.aa.fz 3;have f4:=aE.o.aa.fz 4;have g3:=aE.o.aa.c3;have g4:=aE.o.aa.c4;generalize hh0:ns.headD 0=h0 at d aL;have hn1:(1:Int)<=(ns.length:Int):=iC;obtain⟨a',aR⟩:∃a':Option Addr,(if cp=1 then some ((A9 g 0):Addr) else some (A9 g 1))=a':=⟨_,rfl⟩;have bW:=A1 (Dh.fD (DY.rd bT.o) I a' (λh=>by rw[<-aR,Af iC]) (λx L=>by rw[<-aR]at L;split at L<;>cases L<;>rfl));(have bS:∀x,a'=some x->x.block=g:=λx L=>by rw[<-aR]at L;split at L<;>cases L<;>rfl);have bD:∀g',(Value.slice a' (ns.length-1) (cp-1)).ownBlock=some g'->g'=g:=λg' hg=>by
     unfold Value.ownBlock at hg;cases L:a' with
     | none=>rw[L]at hg;simp at hg
     | some y=>rw[L]at hg;have:=bS y L;simp at hg;omega
    have aV:=A1 bD;have aN:Hid (w2.heap.size<=g):=bH.o g rfl;have bR:Cc (wr.setCell (A9 xb 3) (A0 h0)).drew xb 162 b nm s0 h0 (.slice none 0 0):=(aE.o.s3 h0).aa;have k9:A4 (One xb) wr (wr.setCell (A9 xb 3) (A0 h0)).drew:=((A4.C (One xb) wr).an (b:=xb) rfl 3 _).aa;have aA:(wr.setCell (A9 xb 3) (A0 h0)).drew.cell? (A9 g 0)=some (A0 h0):=k9.bI d (λh=>by have h':g=xb:=h;have:=aN.o;have:=aI.o;omega);have a7:=A1 bR;have bV:=A1 k9;go_wp2;refine Bq (λw'=>A7 w' g 0 (A0 h0)) 10
     (Ba [0,1,2,3,4,5,6,7,8,9] [9]) d ?_
    iterate 9 refine B4 ?_
    refine Bf λK hK=>?_;go_simp;refine hK _ _ aA (λhS=>?_);refine Bl ?_;generalize (wr.setCell (A9 xb 3) (A0 h0)).drew=w9 at a7 bV aA ⊢;have f94:=a7.o.fz 4;have g94:=a7.o.c4;have a3:=A1 (a7.o.s4 (.slice a' (ns.length-1) (cp-1)));have c104:=a3.o.c4;have a1:A4 (One xb) wr (w9.setCell (A9 xb 4) (.slice a' (ns.length-1) (cp-1))):=bV.o.an rfl 4 _;(have a0:Hid (A4 Aa w (w9.setCell (A9 xb 4) (.slice a' (ns.length-1) (cp-1)))):=aB.o.AF a1 λx L aJ=>by have bL:x=xb:=L;have:=aP.o;omega);have a4:Hid (Dh (w9.setCell (A9 xb 4) (.slice a' (ns.length-1) (cp-1))) (.slice a' (ns.length-1) (cp-1)) ns.tail):=DJ.Am bW.o a1 λg' hg L=>by
     have bL:g'=xb:=L;have:=aV.o g' hg;have:=aN.o;have:=aI.o;omega
    have a6:=A1 (YZ _ _ _ a4.o (by rw[List.length_tail];have:=bM.o;omega));by_cases hr:CE Ct ns.tail=true
    ·rw[hr]at a6;(have z:Hid (X=some ⟨h0,ns.tail⟩):=by unfold Hid;rw[<-aL.o,Ai hr]);go_wp2_with (go_at_call 129;refine a6.k ?_;rintro w5⟨nn,rfl⟩);go_ret2;have kk:=(A4.C Aa (w9.setCell (A9 xb 4) (.slice a' (ns.length-1) (cp-1)))).a7 nn;exact .inr ⟨_,xb,_,z.o,rfl,a3.o.aj kk (λh=>h),DJ.Am a4.o kk (λ_ _ h=>h),λg' hg=>by have:=aV.o g' hg;have:=aN.o;have:=aI.o;omega,aP.o,a0.o.tr kk⟩
    ·(have bP:CE Ct ns.tail=false:=by simpa using hr);rw[bP]at a6;(have z:Hid (X=none):=by unfold Hid;rw[<-aL.o,Af hr]);go_wp2_with (go_at_call 129;refine a6.k ?_;rintro w5⟨nn,rfl⟩);go_ret2;exact .inl ⟨z.o,rfl,a0.o.a7 nn⟩
end
def A3u{B b:Nat}{l:gF UInt8}(w:gC)(h:Hm B b l w)(d:B<=w.heap.size):
 Calls Tryz.prog 197 #[.pointer (some ⟨b,0,none⟩)] w λe w'=>e=.returned (.string ⟨l.toArray⟩)/\Below B w w'/\∀k o,w.heap[k]?=some o->k≠b->(∀c fz,o≠.cells c 5 fz)->w'.heap[k]?=some o:=by
 refine(Any.Builder_String_any_k Tryz.lays169 Tryz.Builder_Extra_169 B b l w (h.imp Lib.BuilderAtF.of Lib.BuilderAtF.of) d).mono ?_;rintro e w'⟨L,_,z,X⟩;exact⟨L,z,λk o I E O=>X k o I (λe=>E (by simpa using e)) O⟩
def Bi.s1{w:gC}{d:Nat}{T:TypeId}{p:gD}{z:gE}{s:Nat}(h:Bi w d T p z s)(nm:gE):Bi (w.setCell (A9 d 1) (.string nm)) d T p nm s:=BQ h
def A4.fG{Ft:Nat->Prop}{x:Nat}{w d z:gC}(h:A4 Ft w d)(k:A4 (One x) d z):A4 (λk=>Ft k\/k=x) w z:=
 (h.ah λ_ _ h=>.inl h).AF k λ_ h _=>.inr h
def Bi.aa{w:gC}{z:Nat}{T:TypeId}{p:gD}{d:gE}{s:Nat}(h:Bi w z T p d s):Bi w.drew z T p d s:=by unfold Bi at h ⊢;exact h
section
variable{w:gC}{b B xb:Nat}{P:PD}{Ft:Nat->Prop}{a c m:Nat}{n:Int}
def Z7(h:Bw w b P Ft)(oe nm:gE)(E:Fit P a c m)(z:CV a c m):
 Ag 242 #[A5 b,.string oe,.string nm] w (Aj (A0 (P.aQ oe nm).1) λw'=>Ap w Ft w' (λw' d=>Bw w' b (P.aQ oe nm).2 d)):=
 Z6 h oe nm (by have:=E.A6;have:=E.Am;have:=z.a;have:=z.c;omega)
def PG(d:Int)(sd:gF Int):(Cp d sd).length=8+8*sd.length:=by
 unfold Cp;rw[B3,CT]
 congr 1
 induction sd with
 | nil=>rfl
 | cons x r ih=>simp only[Mj,B3,ih,CT,CA];omega
def Fit.aH{P:PD}{a c m:Nat}(h:Fit P a c m)(nm:Bs)(s:Nat)(l:Bs):Fit (P.aH nm s l).2 (a+1) (c+1) (m+l.length+4):=by
 have z:=h.aq (Ab nm);have E:(AT s l).length=l.length+4:=by simp[AT,I2]
 have d:=z.au (Ab nm) (AT s l);rw[E]at d;unfold PD.aH;split
 ·exact z.ah (An _) (An _) iC
 ·split
  ·exact d.ah (An _) (An _) iC
  ·exact(d.ae (Ab nm)).ah (An _) (An _) iC
def Fit.eF{P:PD}{a c m:Nat}(h:Fit P a c m)(d:Int)(sd:gF Int):Fit (P.al d sd).2 (a+2) (c+2) (m+12+8*sd.length):=by
 have z:=h.aH Bx (AI AJ) (Cp d sd);rw[PG]at z;unfold PD.al;split
 ·exact z.ah iC iC iC
 ·exact(z.aQ (Ab Bx) (Ab AJ)).ah iC iC iC
def Xn(w:gC)(d f0:Int)(sv v0:gD)(sd:gF Int)(hX:Cc w xb 162 b AJ (AI AJ) f0 v0)(h:Bw w b P Ft)(I:∀k,Ft k->k<w.heap.size)(hn:¬Ft xb)(hF:Fit P a c m)(hl:CV (a+2) (c+2) (m+12+8*sd.length))(hL:Lets B w)(hs:Dh w sv sd)(hf:Ay d)(bL:∀x∈sd,Ay x)(hsl:sd.length<=134217728):
 Ag 200 #[A5 xb,A0 d,sv] w λe w'=>
  e=.returned (A0 (P.al d sd).1)/\Cc w' xb 162 b AJ (AI AJ) (if (P.al d sd).1=0 then d else f0) (if (P.al d sd).1=0 then sv else v0)/\K7 w Ft xb w' b (P.al d sd).2:=by
 have aE:=hX.lt;have bE:BU 4 0=Bx:=rfl;have b6:Hid (∀X,A4 Aa w X->Ag 134 #[A0 4,A0 0] X (Aj (.string ⟨Bx.toArray⟩) λw'=>A4 Aa X w')):=λX hc=>by
  have:=N1 (n:=0) X 4 iC iC (by decide +kernel) (hL.aL hc);rw[show ((4:Nat):Int)=4 from rfl,bE]at this;exact this
 have hi:=PG d sd;have bG:CV (a+1) (c+1) m:=⟨by have:=hl.a;omega,by have:=hl.c;omega,by have:=hl.m;omega⟩;have aO:Hid (∀X,A4 Aa w X->_):=λX hc=>QV Bx (Cp d sd) (Kg AJ) (AU.av h I hc) (λk hk=>Bp (I k hk) hc.Ak) (by rw[hi];omega) hF bG;have aV:Hid (∀X L,Bw X b (P.aH Bx (AI AJ) (Cp d sd)).2 L->_):=λX L h1=>Z7 h1 (Ab Bx) (Ab AJ) (hF.aH _ _ _) ⟨by have:=hl.a;omega,by have:=hl.c;omega,by rw[hi];have:=hl.m;omega⟩;have aN:Hid (P.al d sd=if (P.aH Bx (AI AJ) (Cp d sd)).1≠0 then P.aH Bx (AI AJ) (Cp d sd) else (P.aH Bx (AI AJ) (Cp d sd)).2.aQ (Ab Bx) (Ab AJ)):=rfl;obtain⟨R,hR⟩:=iG (P.al d sd);rw[hR]at aN ⊢;have cS:Hid (∀wx x,Ay x->_):=λwx x E=>LL wx x E;have aB:Cp d sd=AQ d++sd.flatMap AQ:=rfl;obtain⟨dn,bB⟩:=iG Bx;obtain⟨nm,aY⟩:=iG AJ;rw[aY]at hX aO aV aN ⊢;rw[bB]at b6 aO aV aN;obtain⟨s0,bM⟩:=iG (AI nm);rw[bM]at hX aO aV aN ⊢;obtain⟨W,hW⟩:=iG (P.aH dn s0 (Cp d sd));rw[hW]at aO aV aN;obtain⟨Q,hQ⟩:=iG (W.2.aQ (Ab dn) (Ab nm));rw[hQ]at aV aN;obtain⟨il,b1⟩:=iG (Cp d sd);rw[b1]at aO aB hi;have bK:=A1 aB;have dG:=A1 hi;obtain⟨pa,aA,rfl,hcap1,a6⟩:=hs.BW;unfold maxLen at a6;have dF:=A1 hs;have bI:=A1 I;have cE:=A1 hn;have cX:=A1 hX;have HFI:=A1 hf;have cG:=A1 bL;have bA:=A1 aE;have cZ:=A1 (Vo w);have cV:Hid (A4 Aa w (w.aC #[.pointer none,.slice none 0 0] 260)):=(A4.C _ w).ai _;have bU:=A1 (cS.o (w.aC #[.pointer none,.slice none 0 0] 260) d hf);clear hR bE aB aY bB bM hW hQ b1 hi bG h I hn hF hl hL hs hX hf bL aE
 go_enter func200,ntmps200
 go_wp2_with (fail);refine bU.k ?_;rintro X aU;have bD:Hid (Hm w.heap.size w.heap.size [] X):=cZ.o.aj aU (λ_ h=>h.elim);have cD:Hid (A4 Aa w X):=cV.o.tr aU;have cP:Hid (w.heap.size<X.heap.size):=Bp iE aU.Ak;have bF:=A1 (O8 (t:=AQ d) X bD.o (by rw[CT];simp) cD.o.Ak);clear aU bU cZ cV;go_wp2_with (fail);refine bF.k ?_;rintro w2⟨aJ,a0⟩;have bR:Hid (Hm w.heap.size w.heap.size (AQ d) w2):=aJ;have dH:Hid (A4 Aa w w2):=cD.o.AF (A4.cr a0) λx E I=>iC
 have cY:Hid (w.heap.size<w2.heap.size):=Bp cP.o a0.size;clear aJ a0 bF bD cD cP;go_wp2;obtain⟨bb,aZ⟩:=iG w.heap.size;rw[aZ]at bR cY ⊢;have bX:=A1 aZ;clear aZ;go_loopw [18] (λiv wr=>∃k:Nat,iv=A0 k/\k<=sd.length/\Hid (Hm bb bb (AQ d++(sd.take k).flatMap AQ) wr/\A4 Aa w wr/\bb<wr.heap.size)) (λiv _=>sd.length-(intOf iv).toNat)
 ·exact⟨0,rfl,iC,by simpa using bR.o,dH.o,cY.o⟩
 ·obtain⟨k,rfl,hk,Y⟩:=hrel;by_cases aK:k<sd.length
  ·have⟨i1,i2,i3⟩:=Y.o;obtain⟨g,o,rfl,c1⟩:=Dh.at dF.o k aK;have E:=cG.o _ (BT aK);have a2:sd.take (k+1)=sd.take k++[sd[k]'aK]:=Ds aK;obtain⟨x,bJ⟩:=iG ((sd[k]'aK));rw[bJ]at c1 E a2;have d1:=i2.ad c1;have a4:=A1 (cS.o wr x E);(have a9:Hid ((sd.take (k+1)).flatMap AQ=(sd.take k).flatMap AQ++AQ x):=by unfold Hid;rw[a2];simp);have bC:(AQ d++(sd.take k).flatMap AQ).length<=8+8*sd.length:=by
    have:=PG d (sd.take k);unfold Cp at this;rw[this,BK];omega
   obtain⟨pk,a5⟩:=iG (AQ d++(sd.take k).flatMap AQ);(have aX:Hid (AQ d++(sd.take (k+1)).flatMap AQ=pk++AQ x):=by unfold Hid;rw[a9.o,<-Ci,a5]);rw[a5]at i1 bC;have aE:=CT x;obtain⟨ib,aB⟩:=iG (AQ x);rw[aB]at a4 aX aE;have cA:=A1 i1;have bY:=A1 i2;have bQ:=A1 i3;have cM:Hid (∀w6,A4 Aa wr w6->_):=λw6 h6=>O8 (t:=ib) w6 (cA.o.aj h6 (λ_ h=>h.elim)) iC (AO (Fu bQ.o) h6.Ak);have b9:(k:Int)<(sd.length:Int):=iC;have hk0:=BJ k;clear i1 i2 i3 Y c1 bJ a2 a5 aB E bC aE a9;go_wp2_with (fail);refine a4.k ?_;rintro w6 a1;have cQ:=A1 a1;have cB:=A1 (cM.o w6 a1);clear a1 a4 cM;go_wp2_with (go_at_call 194;refine cB.k ?_;rintro w7⟨aJ,b2⟩;have b8:=A1 aJ;have bS:=A1 b2;clear aJ b2);go_roundw
   ·have c7:A4 (λk=>bb<=k) w6 w7:=A4.cr bS.o;refine⟨k+1,by go_num,iC,by rw[aX.o];exact b8.o,?_,?_⟩
    ·exact(bY.o.tr cQ.o).AF c7 λx E I=>by have:=bX.o;omega
    ·exact Bp bQ.o (AO cQ.o.Ak bS.o.size)
   ·simp[intOf];omega
  ·have⟨i1,i2,i3⟩:=Y.o;(obtain rfl:k=sd.length:=iC);rw[C5,<-bK.o]at i1;(have b9:¬((sd.length:Int)<(sd.length:Int)):=iC);have fx:=cX.o.aj i2 (λh=>h);have g0:=fx.c0;have g1:=fx.c1;have g2:=fx.c2;have bV:Bi (wr.aC #[A5 b,.string (Ab nm),.int .u32 s0] 160) wr.heap.size 160 (A5 b) (Ab nm) s0:=Bn wr _;have ka:A4 Aa wr (wr.aC #[A5 b,.string (Ab nm),.int .u32 s0] 160):=(A4.C _ wr).ai _;have bN:=A1 (b6.o _ (i2.tr ka));have cU:=A1 ka;have cO:=A1 bV;have cA:=A1 i1;have bY:=A1 i2;have bQ:=A1 i3;have FX:=A1 fx;clear i1 i2 i3 ka bV b6 Y fx;go_wp2_with (fail);refine bN.k ?_;rintro w5 a3;have aT:=cO.o.aj a3 (λh=>h);have cT:A4 Aa wr w5:=cU.o.tr a3;have b7:=aT.c1;have bZ:=aT.fz 1;have aH:=A1 (aT.s1 ⟨dn.toArray⟩);have b5:Hid (A4 Aa wr (w5.setCell (A9 wr.heap.size 1) (.string ⟨dn.toArray⟩))):=cT.bc (p:=(A9 wr.heap.size 1)) (λh=>by have h':wr.heap.size<wr.heap.size:=h;omega) _;clear a3 aT cT bN cO cU;generalize bH:wr.heap.size=db at *;have aQ:=A1 bH;clear bH;go_wp2;generalize w5.setCell (A9 db 1) (.string ⟨dn.toArray⟩)=w6 at aH b5 ⊢;have cJ:Hid (Hm bb bb il w6.drew):=cA.o.aj b5.o.aa (λ_ h=>h.elim);have b4:=A1 (A3u w6.drew cJ.o (by have:=bQ.o;have:=aQ.o;have:=b5.o.Ak;show bb<=w6.heap.size;omega));have aS:Hid (∀wx,Below bb w6.drew wx->(∀k o,w6.drew.heap[k]?=some o->k≠bb->(∀c fz,o≠.cells c 5 fz)->wx.heap[k]?=some o)->Bi wx db 160 (A5 b) ⟨dn.toArray⟩ s0/\A4 Aa w wx):=λwx E ho=>
    ⟨ho db _ aH.o.aa (by have:=bQ.o;have:=aQ.o;omega) (λc fz e=>by cases e),(bY.o.tr b5.o.aa).AF (A4.cr E) λx E I=>by have:=bX.o;omega⟩
   have bT:Hid (∀wx,Bi wx db 160 (A5 b) ⟨dn.toArray⟩ s0->A4 Aa w wx->∀wy,Ap wx Ft wy (λw' z=>Bw w' b W.2 z)->Bi wy db 160 (A5 b) ⟨dn.toArray⟩ s0/\Cc wy xb 162 b nm s0 f0 v0/\Ap w Ft wy (λw' z=>Bw w' b W.2 z)):=λwx hf E wy hy=>
    ⟨hf.aj hy.1 (λh=>by have:=bI.o _ h;have:=bY.o.Ak;have:=aQ.o;omega),(cX.o.aj E (λh=>h)).aj hy.1 cE.o,hy.a1 E⟩
   have e0:=aH.o.aa.c0;have e1:=aH.o.aa.c1;have e2:=aH.o.aa.c2;obtain⟨cH,dC⟩:=W;dsimp only at aO aV bT aN;clear b7 bZ g0 g1 g2 dG bK;by_cases hw:cH=0
   case neg=>
    (have a8:R=(cH,dC):=by rw[aN.o,Ai hw]);subst a8;(have hwb:(cH !=0)=true:=by simpa using hw);refine Bq (λw'=>A7 w' db 0 (A5 b)/\A7 w' db 1 (.string ⟨dn.toArray⟩)/\A7 w' db 2 (.int .u32 s0)) 3
     [(0,true),(1,false),(2,false)] ⟨e0,e1,e2⟩ ?_
    refine B4 ?_;refine Bf λK O=>?_;go_simp;refine b4.k ?_;rintro w9⟨aF,aI⟩;have⟨q1,q2⟩:=aS.o w9 aF aI;refine O _ _ ⟨q1.c0,q1.c1,q1.c2⟩ (λhS=>?_);have aG:=A1 (aO.o w9 q2);have aM:=A1 (bT.o w9 q1 q2);clear O K hS aF aI q1 q2 b4 aS aO bT;refine Bf λK O=>?_;go_simp;refine aG.k ?_;rintro aD Y;have⟨q1,q2,q3⟩:=aM.o aD Y;refine O _ _ ⟨q1.c0,q1.c1,q1.c2⟩ (λhS=>?_);have dJ:=A1 q2;have dA:=A1 q3;clear O K hS Y aG aM q1 q2 q3;refine Bl ?_;go_wp2;go_ret;dsimp only
    have⟨r1,z,r2,r3,r4⟩:=dA.o;exact⟨rfl,dJ.o,r1.ah λ_ _ h=>.inl h,z,r2,r3,r4⟩
   case pos=>
    subst hw;(have a8:R=Q:=by rw[aN.o,Af iE]);subst a8;clear aN;refine Bq (λw'=>A7 w' db 0 (A5 b)/\A7 w' db 1 (.string ⟨dn.toArray⟩)/\A7 w' db 2 (.int .u32 s0)) 3
     [(0,true),(1,false),(2,false)] ⟨e0,e1,e2⟩ ?_
    refine B4 ?_;refine Bf λK O=>?_;go_simp;refine b4.k ?_;rintro w9⟨aF,aI⟩;have⟨q1,q2⟩:=aS.o w9 aF aI;refine O _ _ ⟨q1.c0,q1.c1,q1.c2⟩ (λhS=>?_);have aG:=A1 (aO.o w9 q2);have aM:=A1 (bT.o w9 q1 q2);have b0:=A1 q1;have b3:=A1 q2;clear O K hS aF aI q1 q2 b4 aS aO bT;refine Bf λK O=>?_;go_simp;refine aG.k ?_;rintro aD Y;have⟨q1,q2,q3⟩:=aM.o aD Y;refine O _ _ ⟨q1.c0,q1.c1,q1.c2⟩ (λhS=>?_);obtain⟨r1,-⟩:=q3;obtain⟨-,L,r2,r3,r5⟩:=Y;have dD:=A1 b0.o.lt;have dI:=A1 b3.o.Ak;have cL:Hid (∀k,L k->Ft k\/w.heap.size<=k):=λk hk=>(r5 k hk).imp id λh=>AO dI.o h
    have cN:=A1 r1;have aL:=A1 (aV.o aD.drew L (AU.av r2 r3 (A4.C _ aD).aa));have x0:=q2.aa.c0;have x1:=q2.aa.c1;have x2:=q1.aa.c1;(have cF:Hid (¬L xb):=λh=>by rcases cL.o _ h with h|h;exact cE.o h;have:=bA.o;omega);have cC:Hid (¬L db):=λh=>by
     rcases r5 _ h with h|h
     ·have:=bI.o _ h;have:=bY.o.Ak;have:=aQ.o;omega
     ·have:=dD.o;omega
    have bW:Hid (∀wz,Ap aD.drew L wz (λw' z=>Bw w' b R.2 z)->(Cc wz xb 162 b nm s0 f0 v0/\Bi wz db 160 (A5 b) ⟨dn.toArray⟩ s0)/\Ap w Ft wz (λw' z=>Bw w' b R.2 z)):=λwz hz=>
     ⟨⟨q2.aa.aj hz.1 cF.o,q1.aa.aj hz.1 cC.o⟩,by
      obtain⟨z1,aP,z2,z3,z4⟩:=hz
      exact⟨(cN.o.aa).AF z1 λx E I=>(cL.o x E).resolve_right iC,aP,z2,z3,λk hk=>(z4 k hk).elim (λh=>cL.o k h) λh=>.inr (AO cN.o.Ak h)⟩⟩
    clear O K hS aG aM q1 q2 r1 r2 r3 r5 aV b0 b3;refine Bl ?_;obtain⟨bO,a7⟩:=R;dsimp only at aL bW;have aW:Hid (∀wz,Cc wz xb 162 b nm s0 f0 v0->Ap w Ft wz (λw' z=>Bw w' b a7 z)->Cc ((wz.setCell (A9 xb 3) (A0 d)).setCell (A9 xb 4) (.slice pa sd.length aA)) xb 162 b nm s0 d (.slice pa sd.length aA)/\K7 w Ft xb ((wz.setCell (A9 xb 3) (A0 d)).setCell (A9 xb 4) (.slice pa sd.length aA)) b ⟨a7.D,a7.F⟩):=λwz E hz=>by
     obtain⟨z1,aP,z2,z3,z4⟩:=hz;have kz:A4 (One xb) wz ((wz.setCell (A9 xb 3) (A0 d)).setCell (A9 xb 4) (.slice pa sd.length aA)):=((A4.C (One xb) wz).an (b:=xb) rfl 3 _).an rfl 4 _;(have cI:¬aP xb:=λh=>by rcases z4 _ h with h|h;exact cE.o h;have:=bA.o;omega);exact⟨(E.s3 d).s4 _,z1.fG kz,aP,AU.aK z2 (kz.av z3 λk hk e=>by have e':k=xb:=e;subst e';exact cI hk),λk hk=>Bp (z3 k hk) kz.Ak,z4⟩
    by_cases hr:bO=0
    case neg=>
     (have hrb:(bO !=0)=true:=by simpa using hr);go_wp2;refine Bq (λw'=>A7 w' xb 0 (A5 b)/\A7 w' xb 1 (.string ⟨nm.toArray⟩)/\A7 w' db 1 (.string ⟨dn.toArray⟩)) 13
      (Ba [0,1,2,3,4,5,6,7,8,9,10,11,12] [12]) ⟨x0,x1,x2⟩ ?_
     iterate 12 refine B4 ?_
     refine Bf λK O=>?_;go_simp;refine aL.k ?_;rintro aR Y;have⟨⟨y1,y2⟩,y3⟩:=bW.o aR Y;refine O _ _ ⟨y1.c0,y1.c1,y2.c1⟩ (λhS=>?_);have dB:=A1 y1;have dE:=A1 y3;clear O K hS Y aL bW y1 y2 y3;refine Bl ?_;go_wp2;go_ret;dsimp only
     have⟨r1,z,r2,r3,r4⟩:=dE.o;exact⟨rfl,dB.o,r1.ah λ_ _ h=>.inl h,z,r2,r3,r4⟩
    case pos=>
     subst hr;go_wp2;refine Bq (λw'=>A7 w' xb 0 (A5 b)/\A7 w' xb 1 (.string ⟨nm.toArray⟩)/\A7 w' db 1 (.string ⟨dn.toArray⟩)) 13
      (Ba [0,1,2,3,4,5,6,7,8,9,10,11,12] [12]) ⟨x0,x1,x2⟩ ?_
     iterate 12 refine B4 ?_
     refine Bf λK O=>?_;go_simp;refine aL.k ?_;rintro aR Y;have⟨⟨y1,y2⟩,y3⟩:=bW.o aR Y;refine O _ _ ⟨y1.c0,y1.c1,y2.c1⟩ (λhS=>?_);have bP:=A1 (aW.o aR y1 y3);have g3:=y1.c3;have z3:=y1.fz 3;have g4:=(y1.s3 d).c4;have z4:=(y1.s3 d).fz 4;clear O K hS Y aL bW y1 y2 y3 aW;refine Bl ?_;go_wp2;go_ret;exact⟨rfl,bP.o.1,bP.o.2⟩
end
end
section
open Go.RowKit
def CM(w:gC)(jb b:Nat)(lv:gD)(lh pd:Int)(ov:gD):Prop:=w.heap[jb]?=some (.cells #[.pointer (some ⟨b,0,none⟩),lv,.int .i64 lh,.int .i64 pd,ov] 208 (0,0))
section
variable{w w':gC}{jb b:Nat}{lv ov:gD}{lh pd:Int}
def CM.c0(h:CM w jb b lv lh pd ov):A7 w jb 0 (A5 b):=by unfold CM at h;simp[A7,World.cell?,h]
def CM.c1(h:CM w jb b lv lh pd ov):A7 w jb 1 lv:=by unfold CM at h;simp[A7,World.cell?,h]
def CM.c2(h:CM w jb b lv lh pd ov):A7 w jb 2 (A0 lh):=by unfold CM at h;simp[A7,World.cell?,h]
def CM.c3(h:CM w jb b lv lh pd ov):A7 w jb 3 (A0 pd):=by unfold CM at h;simp[A7,World.cell?,h]
def CM.c4(h:CM w jb b lv lh pd ov):A7 w jb 4 ov:=by unfold CM at h;simp[A7,World.cell?,h]
def CM.fz(h:CM w jb b lv lh pd ov)(o:Nat):w.frozen? (A9 jb o)=false:=by unfold CM at h;simp[World.frozen?,h]
def CM.lt(h:CM w jb b lv lh pd ov):jb<w.heap.size:=Bv h
def CM.s1(h:CM w jb b lv lh pd ov)(x:gD):CM (w.setCell (A9 jb 1) x) jb b x lh pd ov:=BQ h
def CM.s2(h:CM w jb b lv lh pd ov)(x:Int):CM (w.setCell (A9 jb 2) (A0 x)) jb b lv x pd ov:=BQ h
def CM.s3(h:CM w jb b lv lh pd ov)(x:Int):CM (w.setCell (A9 jb 3) (A0 x)) jb b lv lh x ov:=BQ h
def CM.s4(h:CM w jb b lv lh pd ov)(x:gD):CM (w.setCell (A9 jb 4) x) jb b lv lh pd x:=BQ h
def CM.aa(h:CM w jb b lv lh pd ov):CM w.drew jb b lv lh pd ov:=by unfold CM at h ⊢;exact h
def CM.aj{S:Nat->Prop}(h:CM w jb b lv lh pd ov)(d:A4 S w w')(z:¬S jb):CM w' jb b lv lh pd ov:=d.aj h z
end
structure DX (w:gC) (jb b:Nat) (lv ov:gD) (J:Jn):Prop where
 Ae:CM w jb b lv J.Ac J.pd ov
 Ao:DY w lv J.Ao
 AB:(J.AB=none/\ov=.pointer none)\/∃n s lb,J.AB=some (n,s)/\ov=.pointer (some ⟨lb,0,none⟩)/\Bi w lb 237 (.pointer (some ⟨b,0,none⟩)) ⟨(Ah n).toArray⟩ s/\s<4294967296
def Dt(jb:Nat)(lv ov:gD)(k:Nat):Prop:=k=jb\/lv.ownBlock=some k\/ov=.pointer (some ⟨k,0,none⟩)
section
variable{w w':gC}{jb b:Nat}{lv ov:gD}{J:Jn}
def DX.aK(h:DX w jb b lv ov J)(z:Gz (Dt jb lv ov) w w'):DX w' jb b lv ov J:=by
 refine⟨(z jb (.inl rfl)).trans h.Ae,Au h.Ao λg O=>z g (.inr (.inl O)),?_⟩;rcases h.AB with d|⟨n,s,E,d,rfl,L,I⟩
 ·exact .inl d
 ·exact .inr ⟨n,s,E,d,rfl,(z E (.inr (.inr rfl))).trans L,I⟩
def DX.lt(h:DX w jb b lv ov J){k:Nat}(d:Dt jb lv ov k):k<w.heap.size:=by
 rcases d with rfl|d|rfl
 ·exact h.Ae.lt
 ·exact Aw h.Ao d
 ·rcases h.AB with⟨_,z⟩|⟨n,s,lb,_,z,E,_⟩
  ·cases z
  ·cases z;exact E.lt
def DX.Am{S:Nat->Prop}(h:DX w jb b lv ov J)(z:A4 S w w')(E:∀k,Dt jb lv ov k->¬S k):DX w' jb b lv ov J:=
 h.aK (z.av (λ_ d=>h.lt d) E)
def DX.ak(h:DX w jb b lv ov J)(d:A4 Aa w w'):DX w' jb b lv ov J:=h.Am d λ_ _ h=>h
end
def PN(l:gF Int)(j:Nat)(d:j<l.length):l.getD j 0=l[j]'d:=by simp[List.getD,d]
def A2j(w:gC)(X v2:gD)(d h:gF Int)(O:Dh w X d)(L:Dh w v2 h):
 Ag 241 #[X,v2] w (Aj (.bool (decide (d=h))) λw'=>∃q,w'=w.drewN q):=by
 obtain⟨a1,c1,rfl,p1,p2⟩:=O.BW;obtain⟨a2,c2,rfl,q1,q2⟩:=L.BW;unfold maxLen at p2 q2;by_cases Y:d.length=h.length
 case neg=>
  have I:¬d=h:=λe=>Y (by rw[e]);refine(Tryz.slices_Equal_int_lens a1 a2 _ c1 _ c2 w Y).k ?_;rintro w' rfl;exact⟨by rw[CO I],0,rfl⟩
 case pos=>
 by_cases h0:d.length=0
 ·have e1:d=[]:=HE.1 h0;have e2:h=[]:=HE.1 iC;subst e1;subst e2;refine(Tryz.slices_Equal_int_empty a1 a2 c1 0 c2 w iC).k ?_;rintro w' rfl;exact⟨iE,0,rfl⟩
 ·obtain⟨g1,o1,rfl,-⟩:=Dh.at O 0 iC;obtain⟨g2,o2,rfl,-⟩:=Dh.at L 0 iC;refine(Tryz.slices_Equal_int g1 o1 _ c1 g2 o2 _ c2 d h w (An _) (An _) iC iC (λj z=>?_) (λj z=>?_)).mono ?_
  ·have⟨g,o,e,hc⟩:=Dh.at O j z;cases e;rw[PN d j z];exact hc
  ·have⟨g,o,e,hc⟩:=Dh.at L j z;cases e;rw[PN h j z];exact hc
  rintro e w'⟨rfl,q,rfl⟩;refine⟨?_,q,rfl⟩;rw[C5,C5];by_cases E:d=h
  ·rw[CN E,E];simp
  ·rw[CO E,I8.2 E]
def SE:∀(k s:Nat) (l:Bs),(E2 k s l).1.length*21<=l.length
 | 0,_,l=>by simp[E2]
 | k+1,s,l=>by
  unfold E2;split
  ·simp
  ·rename_i h;split
   ·have:=SE k (AY s (l.take 17)) (l.drop 21);rw[Cz]at this;simp only[CA];omega
   ·simp
def Zs(s:Nat)(d:Int)(l:Bs):(GF s d l).1.length*21<=l.length:=by
 unfold GF;split
 ·simp
 ·split
  ·split
   ·have:=SE l.length (AY s (l.take 8)) (l.drop 12);rw[Cz]at this;simp only;omega
   ·simp
  ·simp
def A0T{P:PD}{a c m:Nat}(z:Fit P a c m)(n h:Int):(P.aW n h).1.length*21<=m:=by
 have d:=M0 z (Ah n);unfold PD.aW H8;split
 ·simp
 ·exact AO (Zs _ _ _) d
end
section
open Go.RowKit
attribute [local go_sem ↓] CL
section
variable{w:gC}{b B jb:Nat}{P:PD}{Ft:Nat->Prop}{a c m:Nat}{lv ov:gD}{J:Jn}
def ON(w:gC)(h:Bw w b P Ft)(aE:∀k,Ft k->k<w.heap.size)(hJ:DX w jb b lv ov J)(hF:Fit P a c m)(hl:CV a c m)(hm:J.Ao.length*m<=70368744177664)(hn:∀n∈J.Ao,CK n)(hL:Lets B w):
 Ag 106 #[A5 jb] w λe w'=>∃v,e=.returned (.tuple #[v,A0 (P.pd J.Ao).2])/\B1 w' v (P.pd J.Ao).1/\(∀g,v.ownBlock=some g->w.heap.size<=g)/\A4 Aa w w':=by
 have⟨i0,hi,hz0,hz1,hz2⟩:=DQ J5;have c0:=hJ.Ae.c0;have c1:=hJ.Ae.c1;have aL:=A1 (DY.rd hJ.Ao);obtain⟨la,lcap,rfl,lc1,aR⟩:=aL.o.BW;unfold maxLen at aR;have aX:Hid (P.pd J.Ao=P.bp J.Ao []):=rfl;generalize hR:P.pd J.Ao=R at aX ⊢;have a1:Hid (∀w1,A4 Aa w w1->∀n∈J.Ao,∀Y,Ag 149 #[A5 b,A0 n,A0 Y] w1 λe w'=>∃v,e=.returned (.tuple #[v,A0 (P.aW n Y).2])/\B1 w' v (P.aW n Y).1/\(∀g,v.ownBlock=some g->w1.heap.size<=g)/\A4 Aa w1 w'):=λw1 hc n aV Y=>
  Zt w1 Y (AU.av h aE hc) (λk hk=>Bp (aE k hk) hc.Ak) (hn n aV) (hL.aL hc) (by have h1:(Eh P.D P.F ⟨(BU 1 n).toArray⟩).1.length<=m:=M0 hF (Ah n);have:=hl.m;omega)
 have a2:Hid (∀n Y,(P.aW n Y).1.length*21<=m):=λn Y=>A0T hF n Y;have aY:=A1 hm;generalize J.Ao=Ao at *;have a3:∀k,k<=Ao.length->k*m<=70368744177664:=λk hk=>AO (Ih m hk) aY.o;have aU:=A1 a3
 go_enter func106,ntmps106
 go_wp2;go_loopw [4,14] (λv iv wr=>∃(k:Nat) (d:gF Pu),iv=A0 k/\k<=Ao.length/\Hid (B1 wr v d/\(∀g,v.ownBlock=some g->w.heap.size<=g)/\A4 Aa w wr/\d.length*21<=k*m/\R=P.bp (Ao.drop k) d)) (λ_ iv _=>Ao.length-(intOf iv).toNat)
 ·exact⟨0,[],rfl,iC,Cq _ _ _ _,λg E=>by simp[Value.ownBlock]at E,A4.C _ _,iE,aX.o⟩
 ·obtain⟨k,d,rfl,hk,hI⟩:=hrel;have⟨i1,i2,i3,i4,i5⟩:=hI.o;obtain⟨ap,cp,rfl,hcap1,aF,-⟩:=B8 i1;unfold maxLen at aF;by_cases z:k<Ao.length
  ·obtain⟨g,o,rfl,d1⟩:=Dh.at aL.o k z;have aB:=BT z;have aM:=FY z;generalize hne:(Ao[k]'z)=n at d1 aB aM;have e1:=i3.ad d1;have e0:=i3.ad c0;have L:=A1 (a1.o wr i3 n aB d.length);have aA:=A1 (a2.o n d.length);rw[aM]at i5;have aO:Hid (R=if (P.aW n d.length).2≠0 then ([],(P.aW n d.length).2) else P.bp (Ao.drop (k+1)) (d++(P.aW n d.length).1)):=i5;generalize hX:P.aW n d.length=X at L aA aO;obtain⟨aH,aS⟩:=X;dsimp only at L aA aO;have aN:=A1 i1;have aP:=A1 i2;have aI:=A1 i3;have aW:=A1 i4;have aT:(k:Int)<(Ao.length:Int):=iC;have hk0:=BJ k;by_cases hx:aS=0
   case neg=>
    (have hxb:(aS !=0)=true:=by simpa using hx);(have aG:R=([],aS):=by rw[aO.o,Ai hx]);subst aG;go_wp2_with (go_at_call 149;refine L.m ?_;rintro e w6⟨v,rfl,-,-,O⟩;have I:=A1 O);go_ret2;exact⟨_,rfl,Cq _ _ _ _,λg E=>by simp[Value.ownBlock]at E,aI.o.tr I.o⟩
   case pos=>
    subst hx;(have a0:Hid (R=P.bp (Ao.drop (k+1)) (d++aH)):=by unfold Hid;rw[aO.o,Af iE]);have a4:=A1 (aU.o (k+1) z);go_wp2_with (fail);refine L.m ?_;rintro e w6⟨v,rfl,hv,hvo,O⟩;obtain⟨ap2,cp2,rfl,-,aD,-⟩:=B8 hv;unfold maxLen at aD;have I:=A1 O;have aJ:Hid (w6.ownsRow 0 113 3 (.slice ap d.length cp) d.length (B5 d)):=Au aN.o λg E=>O.Al g (Aw aN.o E) (λh=>h);have aK:=A1 (Src.bN GW hv (HJ aH));go_wp2_with (at_builtin;refine CX rfl (.tmp 32) (.tmp 33) 97 97 rfl 113 i0 _ 3 24 GW hi hz0 hz1 hz2 rfl iF (.slice ap d.length cp) d.length (B5 d) (by rfl) aJ.o _ aH.length _ (by rfl) aK.o (by have:=aA.o;have:=aW.o;have:=a4.o;rw[NL]at this;omega) ?_;intro a8 cap8 w8 hA;have aZ:=A1 hA);go_roundw
    ·have hA:=aZ.o;have aQ:=hA.Am (S:=λk=>(Value.slice ap d.length cp).ownBlock=some k) λ_ h=>h;refine⟨k+1,d++aH,by go_num,iC,?_,?_,?_,?_,a0.o⟩
     ·have e:(d++aH).length=d.length+aH.length:=iE;unfold B1;rw[It,e];exact hA.AB
     ·intro g E;rcases hA.BX with h|h
      ·rw[h]at E;exact aP.o g E
      ·rw[h]at E;cases E;have:=aI.o.Ak;have:=I.o.Ak;omega
     ·exact(aI.o.tr I.o).AF aQ λy hy aE=>by have:=aP.o y hy;omega
     ·have:=aA.o;have:=aW.o;rw[NL];simp only[B3];omega
    ·simp[intOf];omega
  ·(obtain rfl:k=Ao.length:=iC);have aN:=A1 i1;have aP:=A1 i2;have aI:=A1 i3;(have aG:R=(d,0):=by rw[i5,H5];rfl);subst aG;(have aT:¬((Ao.length:Int)<(Ao.length:Int)):=iC);go_wp2;go_ret2;exact⟨_,rfl,aN.o,aP.o,aI.o⟩
end
def Ly{lt nm:Bs}{v:Int}(h:Ew lt nm=some v):(1<=v/\v<=4611686018427387904)/\EF lt v=nm:=by
 unfold Ew at h;cases hx:Lib.atoiAll (Lib.trimPrefix nm lt) with
 | ok x=>
  rw[hx]at h;dsimp only at h;split at h
  ·rename_i d;cases h;exact⟨⟨iC,d.2.1⟩,d.2.2⟩
  ·cases h
 | «syntax»=>rw[hx]at h;cases h
 | range=>rw[hx]at h;cases h
def TO{nm:Bs}:(HM nm).1≠1/\(HM nm).1≠2:=by
 unfold HM IZ;split
 ·simp
 ·split<;>simp
def Pe{nm:Bs}(h:(Br nm).1=1):(1<=(Br nm).2/\(Br nm).2<=4611686018427387904)/\Ah (Br nm).2=nm:=by
 unfold Br at h ⊢;cases hx:Ew [108] nm with
 | some v=>exact Ly hx
 | none=>
  rw[hx]at h;dsimp only at h;unfold HN at h;cases hy:Ew [115] nm with
  | some v=>rw[hy]at h;cases h
  | none=>rw[hy]at h;exact absurd h TO.1
def Pc{nm:Bs}(h:(Br nm).1=2):(1<=(Br nm).2/\(Br nm).2<=4611686018427387904)/\AH (Br nm).2=nm:=by
 unfold Br at h ⊢;cases hx:Ew [108] nm with
 | some v=>rw[hx]at h;cases h
 | none=>
  rw[hx]at h;dsimp only at h ⊢;unfold HN at h ⊢;cases hy:Ew [115] nm with
  | some v=>exact Ly hy
  | none=>rw[hy]at h;exact absurd h TO.2
def TG(nm:Bs):Ay (Br nm).2:=by
 unfold Br;cases hx:Ew [108] nm with
 | some v=>have:=(Ly hx).1;unfold Ay;dsimp only;omega
 | none=>
  dsimp only
  unfold HN;cases hy:Ew [115] nm with
  | some v=>have:=(Ly hy).1;unfold Ay;dsimp only;omega
  | none=>dsimp only;unfold HM IZ Ay;split<;>(try split)<;>simp
def A0P(aA:Int)(l l':gF Bs):BV aA (l++l')=BV aA l++BV aA l':=by simp[BV]
def N2(aA:Int)(l:gF Bs):(BV aA l).length<=l.length:=List.length_filterMap_le _ _
def Ph{aA n:Int}{l:gF Bs}(h:n∈BV aA l):aA<=n/\(1<=n/\n<=4611686018427387904)/\Ah n∈l:=by
 have⟨nm,h1,h2⟩:=Mg.1 h;split at h2
 ·rename_i d;cases h2;have⟨k1,k2⟩:=Pe d.1;exact⟨d.2,k1,by rw[k2];exact h1⟩
 ·cases h2
def Lw(P:PD):P.Az.length=P.D.A6.length:=by
 unfold PD.Az dList;rw[Fx,Nl _ _ (An _)]
def UH(l:gF Int)(x d:Int):(l++[x]).getLastD d=x:=by
 rw[KX];simp
def Pm{w:gC}{b:Nat}{P:PD}{Ft:Nat->Prop}{a c m:Nat}(h:Bw w b P Ft)(I:Fit P a c m)(L:CV a c m):
 Calls Tryz.prog 76 #[.pointer (some ⟨b,0,none⟩)] w λe w'=>∃v,e=.returned v/\DC w' v P.Az/\A4 (λ_=>False) w w'/\(∀g,v.ownBlock=some g->w.heap.size<=g):=by
 refine(A0Z h (by have:=I.A6;have:=L.a;omega)).mono ?_;rintro e w'⟨v,E,d,O,z⟩;refine⟨v,E,?_,O,z⟩;have X:=Lw P;unfold DC;rw[X];rw[Y4]at d;exact d
section
variable{w:gC}{b B:Nat}{P:PD}{Ft:Nat->Prop}{a c m:Nat}{aA:Int}
def A1n(w:gC)(h:Bw w b P Ft)(aE:∀k,Ft k->k<w.heap.size)(hF:Fit P a c m)(hl:CV a c m)(bJ:a*m<=70368744177664)(hf:1<=aA/\aA<=4611686018427387904)(hL:Lets B w)(hE:IK w)(bQ:∀nm∈P.Az,nm.length<=281474976710656):
 Ag 99 #[A5 b,A0 aA] w λe w'=>
  ((P.pd (BV aA P.Az)).2≠0/\e=.returned (.tuple #[.pointer none,.slice none 0 0,A0 (P.pd (BV aA P.Az)).2])/\A4 Aa w w')\/
  ((P.pd (BV aA P.Az)).2=0/\∃d lv v,e=.returned (.tuple #[A5 d,v,A0 0])/\DX w' d b lv (.pointer none) (P.bV aA)/\B1 w' v (P.pd (BV aA P.Az)).1/\(∀k,Dt d lv (.pointer none) k->w.heap.size<=k)/\(∀g,v.ownBlock=some g->w.heap.size<=g)/\A4 Aa w w'):=by
 obtain⟨i0,hi,bH,bP,bM⟩:∃i0,Tryz.prog.info? 3=some i0/\i0.zero=some (A0 0)/\i0.size=1/\i0.bytes=8:=by
  have h:=Tryz.dq;cases Y:Tryz.prog.info? 3 with
  | none=>rw[Y]at h;cases h
  | some i=>rw[Y]at h;simp at h;exact⟨i,rfl,h.1,h.2.1,h.2.2⟩
 have LI:Hid (∀L,A4 Aa w L->Ag 76 #[A5 b] L λe w'=>∃v,e=.returned v/\DC w' v P.Az/\A4 Aa L w'/\(∀g,v.ownBlock=some g->L.heap.size<=g)):=λL hc=>Pm (AU.av h aE hc) hF hl;have bZ:Hid (∀L,A4 Aa w L->∀nm∈P.Az,Ag 97 #[.string ⟨nm.toArray⟩] L λe w'=>e=.returned (.tuple #[A0 (Br nm).1,A0 (Br nm).2])/\A4 Aa L w'):=λL hc nm hm=>TF L nm (bQ nm hm) (hE.aL hc) (hL.aL hc);have aH:P.Az.length<=a:=by rw[Lw];exact hF.A6
 have bW:Hid (∀L d lv lh,A4 Aa w L->DX L d b lv (.pointer none) ⟨BV aA P.Az,lh,0,none⟩->Ag 106 #[A5 d] L λe w'=>∃v,e=.returned (.tuple #[v,A0 (P.pd (BV aA P.Az)).2])/\B1 w' v (P.pd (BV aA P.Az)).1/\(∀g,v.ownBlock=some g->L.heap.size<=g)/\A4 Aa L w'):=λL d lv lh hc hJ=>
  ON L (AU.av h aE hc) (λk hk=>Bp (aE k hk) hc.Ak) hJ hF hl (AO (Ih m (AO (N2 aA P.Az) aH)) bJ) (λn hn=>by have⟨_,h2,_⟩:=Ph hn;exact I3 iC h2.2) (hL.aL hc)
 have hnl2:P.Az.length<=1073741824:=AO aH hl.a;have a9:Hid (P.bV aA=⟨BV aA P.Az,(BV aA P.Az).getLastD (aA-1),(P.pd (BV aA P.Az)).1.length,none⟩):=rfl;generalize hZ:P.bV aA=Z at a9 ⊢;generalize hR:P.pd (BV aA P.Az)=R at bW a9 ⊢;generalize P.Az=ns at *;obtain⟨f1,f2⟩:=hf;have ew:IntKind.i64.wrap (aA-1)=aA-1:=E9 iC;have aQ:CM (w.alloc (.cells #[A5 b,.slice none 0 0,A0 (aA-1),A0 0,.pointer none] 208)) w.heap.size b (.slice none 0 0) (aA-1) 0 (.pointer none):=Bn w _;have bY:Hid (A4 Aa w (w.alloc (.cells #[A5 b,.slice none 0 0,A0 (aA-1),A0 0,.pointer none] 208))):=(A4.C _ w).ai _;have bO:=A1 (LI.o _ bY.o);have bA:=A1 aQ;have bX:Hid (w.heap.size<(w.alloc (.cells #[A5 b,.slice none 0 0,A0 (aA-1),A0 0,.pointer none] 208)).heap.size):=by unfold Hid;simp
 go_enter func99,ntmps99
 go_wp2_with (fail);refine bO.o.mono ?_;rintro e L⟨v,rfl,hv,aW,aS⟩;obtain⟨na,a6,rfl,nc1,bC⟩:=(DC.rd hv).BW;unfold maxLen at bC;have b1:=A1 (DC.rd hv);have bU:=A1 (bA.o.aj aW (λh=>h));have b0:Hid (A4 Aa w L):=bY.o.tr aW;have aB:Hid (w.heap.size<L.heap.size):=Bp bX.o aW.Ak;have bE:Hid (∀g,(Value.slice na ns.length a6).ownBlock=some g->w.heap.size<g):=λg E=>Bp bX.o (aS g E);generalize aQ:w.heap.size=d at bU aB ⊢;have aU:=A1 aQ;go_wp2;go_loopw [22] (λiv wr=>∃k:Nat,iv=A0 k/\k<=ns.length/\Hid (∃lv,CM wr d b lv ((BV aA (ns.take k)).getLastD (aA-1)) 0 (.pointer none)/\DY wr lv (BV aA (ns.take k))/\(∀g,lv.ownBlock=some g->L.heap.size<=g)/\A4 Aa w wr/\A4 (One d) L wr)) (λiv _=>ns.length-(intOf iv).toNat)
 ·exact⟨0,rfl,iC,_,bU.o,Cq _ _ _ _,λg E=>by simp[Value.ownBlock]at E,b0.o,A4.C _ _⟩
 ·obtain⟨k,rfl,hk,hI⟩:=hrel;have⟨lv,i1,i2,i3,i4,i5⟩:=hI.o;by_cases aG:k<ns.length
  ·obtain⟨g,o,rfl,d1⟩:=Hi.at b1.o k aG;have aM:=BT aG;have a5:ns.take (k+1)=ns.take k++[ns[k]'aG]:=Ds aG;generalize hne:(ns[k]'aG)=nm at d1 aM a5;(have hgj:d<g:=by have:=bE.o g rfl;have:=aU.o;omega);have e1:=i5.bI d1 (λh=>by have h':g=d:=h;omega);have aJ:=A1 (bZ.o wr i4 nm aM);have aT:=TG nm;have aF:Hid (BV aA (ns.take (k+1))=BV aA (ns.take k)++(if (Br nm).1=1/\aA<=(Br nm).2 then [(Br nm).2] else [])):=by
    unfold Hid;rw[a5,A0P]
    congr 1
    unfold BV;by_cases hc:(Br nm).1=1/\aA<=(Br nm).2<;>simp[hc]
   generalize hX:Br nm=X at aJ aF aT;obtain⟨s,n⟩:=X;dsimp only at aJ aF aT;obtain⟨r1,r2⟩:=aT;have aO:Hid ((BV aA (ns.take k)).length<=ns.length):=AO (N2 _ _) (by rw[BK];omega);have aX:=A1 i1;have aI:=A1 i2;have aK:=A1 i3;have aN:=A1 i4;have aY:=A1 i5;have bF:(k:Int)<(ns.length:Int):=iC;have hk0:(0:Int)<=(k:Int):=GA _;generalize hlg:BV aA (ns.take k)=lg at aF aO aX aI;by_cases hc:s=1/\aA<=n
   case neg=>
    (have O:Hid (BV aA (ns.take (k+1))=lg):=by rw[aF.o,Af hc,Gk];rfl);by_cases hs:s=1
    ·subst hs;have bN:¬aA<=n:=λh=>hc ⟨rfl,h⟩;go_wp2_with (go_at_call 97;refine aJ.k ?_;rintro w6 I;have z:=A1 I);go_roundw
     ·exact⟨k+1,by go_num,iC,lv,by rw[O.o];exact aX.o.aj z.o (λh=>h),by rw[O.o];exact Au aI.o λg E=>z.o.Al g (Aw aI.o E) (λh=>h),aK.o,aN.o.tr z.o,aY.o.bk z.o⟩
     ·simp[intOf];omega
    ·(have hsb:(s==1)=false:=by simpa using hs);go_wp2_with (go_at_call 97;refine aJ.k ?_;rintro w6 I;have z:=A1 I);go_roundw
     ·exact⟨k+1,by go_num,iC,lv,by rw[O.o];exact aX.o.aj z.o (λh=>h),by rw[O.o];exact Au aI.o λg E=>z.o.Al g (Aw aI.o E) (λh=>h),aK.o,aN.o.tr z.o,aY.o.bk z.o⟩
     ·simp[intOf];omega
   case pos=>
    (have O:Hid (BV aA (ns.take (k+1))=lg++[n]):=by rw[aF.o,Ai hc];rfl);obtain⟨rfl,bN⟩:=hc;obtain⟨ap,cp,rfl,hcap1,aV,-⟩:=B8 aI.o;unfold maxLen at aV;go_wp2_with (fail);refine aJ.k ?_;rintro w6 I;have aZ:=aX.o.aj I (λh=>h);have g1:=aZ.c1;have a1:Hid ((w6.alloc (.cells #[A0 n] 3)).ownsRow 0 3 1 (.slice ap lg.length cp) lg.length (Ee lg)):=Au aI.o λg E=>(I.ai _).Al g (Aw aI.o E) (λh=>h)
    have bB:=A1 (Src.bb (size:=1) (B:=w6.heap.size) Hw w6 #[A0 n] 3 iE 1 1 rfl (KA [n]));have a7:=A1 (aZ.aj ((A4.C Aa w6).ai (.cells #[A0 n] 3)) (λh=>h));have bV:Hid (A4 Aa wr (w6.alloc (.cells #[A0 n] 3))):=I.ai _;have c71:=a7.o.c1;go_wp2_with (at_builtin;refine CX rfl (.tmp 42) (.tmp 44) 26 26 rfl 3 i0 _ 1 8 Hw hi bH bP bM rfl iF (.slice ap lg.length cp) lg.length (Ee lg) (by rfl) a1.o _ 1 _ (by rfl) bB.o (by have:=aO.o;omega) ?_;intro a8 aD w8 hA;have a0:=A1 (hA.Am (S:=λk=>(Value.slice ap lg.length cp).ownBlock=some k) λ_ h=>h);have bL:=a7.o.aj a0.o (λh=>by have:=aK.o _ h;have:=aB.o;omega);have g81:=bL.c1;have f81:=bL.fz 1;have bK:=bL.s1 (.slice a8 (lg.length+1) aD);have g82:=bK.c2;have f82:=bK.fz 2;have a4:=A1 (bK.s2 n);have a2:=A1 hA.AB;have bI:=A1 hA.BX);go_roundw
    ·have e:(lg++[n]).length=lg.length+1:=iE;have aP:∀g,(Value.slice a8 (lg.length+1) aD).ownBlock=some g->L.heap.size<=g:=λg E=>by
      rcases bI.o with h|h
      ·rw[h]at E;exact aK.o g E
      ·rw[h]at E;cases E;have:=aY.o.Ak;have:=bV.o.Ak;omega
     have k8:A4 (λk=>(Value.slice ap lg.length cp).ownBlock=some k) wr w8:=(bV.o.aS).tr a0.o;have a3:A4 (λk=>k=d\/(Value.slice ap lg.length cp).ownBlock=some k) wr ((w8.setCell (A9 d 1) (.slice a8 (lg.length+1) aD)).setCell (A9 d 2) (A0 n)):=
      ((k8.ah λ_ _ h=>.inr h).an (b:=d) (.inl rfl) 1 _).an (b:=d) (.inl rfl) 2 _
     refine⟨k+1,by go_num,iC,.slice a8 (lg.length+1) aD,by rw[O.o,UH];exact a4.o,?_,aP,?_,?_⟩
     ·rw[O.o];unfold DY;rw[LK,e];exact Au a2.o λg E=>by
       have h1:=aP g E;have h2:=aB.o;rw[FB _ _ _ _ (λe=>by have e':g=d:=e;omega),FB _ _ _ _ (λe=>by have e':g=d:=e;omega)]
     ·exact aN.o.AF a3 λx Y aE=>by
       have h2:=aU.o;rcases Y with rfl|Y
       ·omega
       ·have:=aK.o x Y;have:=aB.o;omega
     ·exact aY.o.AF a3 λx Y aE=>by
       rcases Y with rfl|Y
       ·rfl
       ·have:=aK.o x Y;omega
    ·simp[intOf];omega
  ·(obtain rfl:k=ns.length:=iC);rw[C5]at i1 i2;(have bF:¬((ns.length:Int)<(ns.length:Int)):=iC);have aR:=A1 (bW.o wr d lv _ i4 ⟨i1,i2,.inl ⟨rfl,rfl⟩⟩);obtain⟨bT,bS⟩:=R;dsimp only at aR a9;have aX:=A1 i1;have aI:=A1 i2;have aK:=A1 i3;have aN:=A1 i4;have aY:=A1 i5;by_cases hr:bS=0
   case neg=>
    (have hrb:(bS !=0)=true:=by simpa using hr);go_wp2_with (go_at_call 106;refine aR.o.mono ?_;rintro e w6⟨v,rfl,-,-,I⟩;have z:=A1 I);go_ret3;exact⟨rfl,aN.o.tr z.o⟩
   case pos=>
    subst hr;go_wp2_with (fail);refine aR.o.mono ?_;rintro e w6⟨v,rfl,hv,aS,I⟩;obtain⟨va,vcap,rfl,vc1,bG,-⟩:=B8 hv;unfold maxLen at bG;have aZ:=aX.o.aj I (λh=>h);have g63:=aZ.c3;have f63:=aZ.fz 3;have a7:=A1 (aZ.s3 bT.length);have bD:=A1 hv;have aL:=A1 aS;have z:=A1 I;go_wp2;go_ret3;(have bR:∀g,lv.ownBlock=some g->g≠d:=λg E e=>by have:=aK.o g E;have:=aB.o;omega);have h2:=aU.o;have k7:A4 (One d) wr (w6.setCell (A9 d 3) (A0 bT.length)):=(z.o.aS (S:=One d)).an (b:=d) rfl 3 _;refine⟨d,lv,_,rfl,?_,?_,λx Y=>?_,λg E=>?_,?_⟩
    ·rw[a9.o];exact⟨a7.o,Au aI.o λg E=>k7.Al g (Aw aI.o E) (bR g E),.inl ⟨rfl,rfl⟩⟩
    ·exact Au bD.o λg E=>FB _ _ _ _ (λe=>by
      have e':g=d:=e;have:=aL.o g E;have:=aN.o.Ak;have:=aY.o.Ak;have:=aB.o
      omega)
    ·rcases Y with rfl|Y|Y
     ·omega
     ·have:=aK.o x Y;have:=aB.o;omega
     ·cases Y
    ·have:=aL.o g E;have:=aN.o.Ak;omega
    ·exact aN.o.AF k7 λx Y aE=>by have e':x=d:=Y;omega
end
end
end Go.Proofs.YtodcnkbblippnaaGreatDoor
