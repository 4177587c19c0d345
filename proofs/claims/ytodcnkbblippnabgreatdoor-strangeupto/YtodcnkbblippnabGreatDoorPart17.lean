/- Part 17 of a proof: walks of the program. -/
import Derived.Lib.AtoiAllCases
import Derived.Test.YtodcnkbblippnabGreatDoorCards
import Derived.Test.YtodcnkbblippnabGreatDoorTie
import Derived.ProofKit
import Derived.OpenShut
import Derived.Carry
import Derived.Deep.DeepHandedRow
import Derived.Deep.DeepWitnessRowRef
import Derived.Deep.Slices
import Derived.Lib.LaidTab
import Derived.Stop.LaidErr
import Derived.Test.YtodcnkbblippnabGreatDoorPart16
namespace Go.Proofs.YtodcnkbblippnabGreatDoor
set_option maxRecDepth 100000
set_option maxHeartbeats 32000000
set_option linter.defProp false
open Go.Proofs.Tryz
section
open Go.RowKit
attribute [local go_sem ↓] Go.wp_at_zero Go.wp_at_succ
def RQ:∀(m u z:Nat) (r:List UInt8),u<m->z*10 ^ Lib.nDigits u+u<18446744073709551616->Lib.parseUint10 z (Lib.decDigits u++r)=Lib.parseUint10 (z*10 ^ Lib.nDigits u+u) r
 | 0,u,z,r,h,_=>by omega
 | m+1,u,z,r,h,hb=>by
  have one:∀(a x:Nat) (r:List UInt8),x<10->a*10+x<18446744073709551616->Lib.parseUint10 a (UInt8.ofNat (48+x):: r)=Lib.parseUint10 (a*10+x) r:=λa x r hx ha=>by
   (have e:(UInt8.ofNat (48+x)).toNat=48+x:=by simp;omega);simp only[Lib.parseUint10,e];rw[Ah (by omega),Ae (by omega),Ae (by omega)]
   congr 1;omega
  by_cases H:u<10
  ·rw[Lib.decDigits_one H,Ps H]at *;simp only[Fb,F7,Nat.pow_one];exact one z u r H (by simpa using hb)
  ·rw[Vf H,K0]at *;have e:z*(10 ^ Lib.nDigits (u/10)*10)+u=(z*10 ^ Lib.nDigits (u/10)+u/10)*10+u % 10:=by
    rw[<-Pe,Hq];omega
   rw[e]at hb ⊢;have I:Lib.decDigits u=Lib.decDigits (u/10)++[UInt8.ofNat (48+u % 10)]:=by
    rw[Lib.decDigits,OK H]
   rw[I,C6,RQ m (u/10) z _ (by omega) (by omega)];exact one _ _ r (by omega) hb
def Yu(c:Nat)(r:List UInt8):Lib.parseUint10 0 (List.replicate c 48++r)=Lib.parseUint10 0 r:=by
 induction c with
 | zero=>rfl
 | succ c ih=>simp only[V4,Fb,Lib.parseUint10];exact ih
def O2(k:Nat):∀u,u<10 ^ k->1<=k->Lib.nDigits u<=k:=by
 induction k with
 | zero=>intro u _ h;omega
 | succ k ih=>
  intro u hu _;by_cases h:u<10
  ·rw[Ps h];omega
  ·rw[Vf h];rw[K0]at hu;cases k with
   | zero=>simp at hu;omega
   | succ k=>have:=ih (u/10) (by omega) (by omega);omega
def KJ{n:Int}(h:0<=n):Lib.itoa n=Lib.decDigits n.toNat:=by unfold Lib.itoa;rw[Ae (by omega)]
def HF{n:Int}(h:0<=n)(h1:n<=4611686018427387904):Cv n:=by
 refine⟨h,by omega,?_⟩;rw[KJ h,Pv];exact O2 19 _ (by omega) (by omega)
def LI(c:Nat):Lib.repeatL [48] c=List.replicate c 48:=by
 induction c with
 | zero=>rfl
 | succ c ih=>simp[Lib.repeatL,ih,List.replicate_succ]
def A1a(u:Nat):∃b r,Lib.decDigits u=b::r/\48<=b.toNat/\b.toNat<=57:=by
 induction u using Nat.strongRecOn with
 | ind u ih=>
  by_cases h:u<10
  ·exact⟨_,_,Lib.decDigits_one h,by simp;omega,by simp;omega⟩
  ·have⟨b,r,h1,h2,h3⟩:=ih (u/10) (by omega);refine⟨b,r++[UInt8.ofNat (48+u % 10)],?_,h2,h3⟩;rw[Lib.decDigits,OK h,h1];rfl
def Mz{n:Int}(I:0<=n)(h1:n<=9223372036854775807)(c:Nat):Lib.atoiAll (Lib.repeatL [48] c++Lib.itoa n)=.ok n:=by
 rw[LI,KJ I];have⟨b,r,hb,hb1,hb2⟩:=A1a n.toNat;have h:Lib.parseMag (List.replicate c 48++Lib.decDigits n.toNat)=.ok n.toNat:=by
  unfold Lib.parseMag;rw[Ae (by rw[hb];simp),Yu];have:=RQ (n.toNat+1) n.toNat 0 [] (by omega) (by omega);rw[Fz]at this;rw[this];simp[Lib.parseUint10]
 have O:∃b r,List.replicate c 48++Lib.decDigits n.toNat=b::r/\b.toNat≠43/\b.toNat≠45:=by
  cases c with
  | zero=>exact⟨b,r,by simpa using hb,by omega,by omega⟩
  | succ c=>exact⟨48,List.replicate c 48++Lib.decDigits n.toNat,by simp[List.replicate_succ],by decide,by decide⟩
 obtain⟨b2,r2,e,z,H⟩:=O;rw[e]at h ⊢;rw[Lib.atoiAll_plain _ _ z H,h];unfold Lib.signless;dsimp only
 rw[Ae (by omega)]
 congr 1
 omega
def TB(a b:List UInt8):Lib.hasPrefix (a++b) a=true:=by
 unfold Lib.hasPrefix;simp
def Lz(lt:List UInt8)(n:Int):Lib.trimPrefix (E0 lt n) lt=Lib.repeatL [48] (19-(Lib.itoa n).length)++Lib.itoa n:=by
 unfold Lib.trimPrefix E0;rw[C6,Ah (TB _ _),Vb]
def Du(lt nm:List UInt8):Option Int:=match Lib.atoiAll (Lib.trimPrefix nm lt) with
 | .ok v=>if 0<v/\v<=4611686018427387904/\E0 lt v=nm then some v else none
 | _=>none
def LV(lt:List UInt8){n:Int}(z:0<n)(h:n<=4611686018427387904):Du lt (E0 lt n)=some n:=by
 unfold Du;rw[Lz,Mz (by omega) (by omega)];dsimp only
 rw[Ah ⟨z,h,rfl⟩]
def Af(n:Int):List UInt8:=BJ 1 n
def Aw(n:Int):List UInt8:=BJ 2 n
def AF:List UInt8:=[105]
def Bl:List UInt8:=[100]
def isNum(n:Int):Bool:=decide (1<=n/\n<=4611686018427387904)
def Hg(nm:List UInt8):Int×Int:=if nm=Bl then (4,0) else (0,0)
def Gx(nm:List UInt8):Int×Int:=if nm=AF then (3,0) else Hg nm
def Gy(nm:List UInt8):Int×Int:=match Du [115] nm with
 | some v=>(2,v)
 | none=>Gx nm
def Bc(nm:List UInt8):Int×Int:=match Du [108] nm with
 | some v=>(1,v)
 | none=>Gy nm
def FW(nm:List UInt8)(k:Nat):Int×Int:=if k=1 then Bc nm else if k=2 then Gy nm else if k=3 then Gx nm else if k=4 then Hg nm else (0,0)
def PH(s:List UInt8)(v:Int):Prop:=Lib.atoiAll s=.ok v\/(∀x,Lib.atoiAll s≠.ok x)/\isNum v=false/\(s=[]->v=0)
def Uq:∀x,Lib.atoiAll []≠.ok x:=by
 intro x;have:Lib.atoiAll []=.syntax:=by decide +kernel
 rw[this];intro h;cases h
def Qe(l:List UInt8):Lib.trimPrefix l l=[]:=by
 unfold Lib.trimPrefix;have:Lib.hasPrefix l l=true:=by simpa using TB l []
 rw[Ah this];simp
def SD{lt nm:List UInt8}{v:Int}(h:PH (Lib.trimPrefix nm lt) v):Du lt nm=if isNum v=true/\E0 lt v=nm then some v else none:=by
 unfold Du;rcases h with h|⟨h,H,-⟩
 ·rw[h];dsimp only
  by_cases z:0<v/\v<=4611686018427387904/\E0 lt v=nm
  ·rw[Ah z,Ah ⟨by unfold isNum;exact CJ ⟨by omega,z.2.1⟩,z.2.2⟩]
  ·rw[Ae z,Ae];rintro⟨I,H⟩;unfold isNum at I;have:=KE I;exact z ⟨by omega,this.2,H⟩
 ·rw[H,Ae (by simp)];cases hx:Lib.atoiAll (Lib.trimPrefix nm lt) with
  | ok x=>exact absurd hx (h x)
  | «syntax»=>rfl
  | range=>rfl
def SL(nm:List UInt8):FW nm 1=Bc nm:=by simp[FW]
def SK(nm:List UInt8):FW nm 2=Gy nm:=by simp[FW]
def SJ(nm:List UInt8):FW nm 3=Gx nm:=by simp[FW]
def SH(nm:List UInt8):FW nm 4=Hg nm:=by simp[FW]
def SG(nm:List UInt8):FW nm 5=(0,0):=by simp[FW]
def YZ{nm:List UInt8}{k:Nat}{v:Int}(hk:1<=k/\k<=4)(h:PH (Lib.trimPrefix nm (CO k)) v):
 FW nm k=if isNum v=decide ((k:Int)=1\/(k:Int)=2)/\BJ k v=nm then ((k:Int),v) else FW nm (k+1):=by
 have X:k=1\/k=2\/k=3\/k=4:=by omega
 rcases X with rfl|rfl|rfl|rfl
 ·have e:BJ ((1:Nat):Int) v=E0 [108] v:=rfl;have H:decide (((1:Nat):Int)=1\/((1:Nat):Int)=2)=true:=by decide
  have:=SD h;rw[show CO ((1:Nat):Int)=[108] from rfl]at this;rw[SL,SK,e,H,Bc,this];by_cases z:isNum v=true/\E0 [108] v=nm
  ·rw[Ah z,Ah z];rfl
  ·rw[Ae z,Ae z]
 ·have e:BJ ((2:Nat):Int) v=E0 [115] v:=rfl;have H:decide (((2:Nat):Int)=1\/((2:Nat):Int)=2)=true:=by decide
  have:=SD h;rw[show CO ((2:Nat):Int)=[115] from rfl]at this;rw[SK,SJ,e,H,Gy,this];by_cases z:isNum v=true/\E0 [115] v=nm
  ·rw[Ah z,Ah z];rfl
  ·rw[Ae z,Ae z]
 ·have e:BJ ((3:Nat):Int) v=AF:=rfl;have H:decide (((3:Nat):Int)=1\/((3:Nat):Int)=2)=false:=by decide
  rw[SJ,SH,e,H,Gx];by_cases z:nm=AF
  ·subst z;have I:isNum v=false/\v=0:=by
    rw[show CO ((3:Nat):Int)=AF from rfl,Qe]at h;rcases h with h|⟨_,W,O⟩
    ·exact absurd h (Uq v)
    ·exact⟨W,O rfl⟩
   rw[Ah rfl,Ah ⟨I.1,rfl⟩,I.2];rfl
  ·rw[Ae z,Ae (λh=>z h.2.symm)]
 ·have e:BJ ((4:Nat):Int) v=Bl:=rfl;have H:decide (((4:Nat):Int)=1\/((4:Nat):Int)=2)=false:=by decide
  rw[SH,SG,e,H,Hg];by_cases z:nm=Bl
  ·subst z;have I:isNum v=false/\v=0:=by
    rw[show CO ((4:Nat):Int)=Bl from rfl,Qe]at h;rcases h with h|⟨_,W,O⟩
    ·exact absurd h (Uq v)
    ·exact⟨W,O rfl⟩
   rw[Ah rfl,Ah ⟨I.1,rfl⟩,I.2];rfl
  ·rw[Ae z,Ae (λh=>z h.2.symm)]
end
section
open Go.MuLone Go.RowKit
attribute [local go_sem ↓] Go.wp_at_zero Go.wp_at_succ Cz
section
variable{w:World}{sb:Nat}{jv:Value}{aA Ak Ac:Int}{ro:Bool}{lv:Nat->Value}{L:Nat->List Pt}
def WM(w:World)(h:Bz w sb 0 jv aA Ak Ac ro lv):
 Calls Tryz.prog 20 #[.pointer (some ⟨sb,0,none⟩)] w λe w'=>e=.returned (.agg #[.bool ro,.int .i64 Ac])/\A5 (λ_=>False) w w':=by
 have hA:∀o,Bz (w.alloc o) sb 0 jv aA Ak Ac ro lv:=λo=>h.An ((A5.C (λ_=>False) w).aj o) (λh=>h);have aE:=A4 hA;have H:=A4 h;have hlt:=h.lt
 go_enter_defers func20,ntmps20
 go_wp2_with (go_at_call 31;refine(LZ Tryz.bK ⟨sb,0,none⟩ _ (aE.o _).c0 ((aE.o _).fz 0)).k ?_;rintro w' rfl);have aB:∀o,Bz ((w.setCell ⟨sb,0,none⟩ (.int .i32 1)).alloc o) sb 1 jv aA Ak Ac ro lv/\A5 (One sb) w ((w.setCell ⟨sb,0,none⟩ (.int .i32 1)).alloc o):=λo=>
  ⟨(H.o.s0 1).An ((A5.C (λ_=>False) _).aj o) (λh=>h),((A5.C (One sb) w).ao rfl 0 _).aj o⟩
 have⟨hb1,hc1⟩:=aB (.cells #[.bool false,.int .i64 0] 51);have z:((w.setCell ⟨sb,0,none⟩ (.int .i32 1)).alloc (.cells #[.bool false,.int .i64 0] 51)).heap[w.heap.size]?=some (.cells #[.bool false,.int .i64 0] 51 (0,0)):=by
  have:=BN (w.setCell ⟨sb,0,none⟩ (.int .i32 1)) (.cells #[.bool false,.int .i64 0] 51);simpa using this
 generalize ((w.setCell ⟨sb,0,none⟩ (.int .i32 1)).alloc (.cells #[.bool false,.int .i64 0] 51))=w1 at hb1 hc1 z ⊢;have c4:=hb1.cK;have c5:=hb1.cR;have r0:w1.cell? ⟨w.heap.size,0,none⟩=some (.bool false):=by simp[World.cell?,z]
 have r1:w1.cell? ⟨w.heap.size,1,none⟩=some (.int .i64 0):=by simp[World.cell?,z]
 have f0:w1.frozen? ⟨w.heap.size,0,none⟩=false:=by simp[World.frozen?,z]
 have f1:w1.frozen? ⟨w.heap.size,1,none⟩=false:=by simp[World.frozen?,z]
 have W:sb≠w.heap.size:=by omega
 have aD:=A4 hb1;have X:=A4 hc1;refine PO (λw'=>w'.cell? ⟨sb,5,none⟩=some (.int .i64 Ac)/\w'.cell? ⟨sb,6,none⟩=some (.bool ro)) 11
  [(0,true),(1,true),(2,true),(3,true),(4,true),(5,true),(6,true),(7,true),(8,false),(9,true),(10,false)] (by kernel_rfl) (by kernel_rfl) ⟨c4,c5⟩ ?_
 iterate 8 (refine DO (v:=?_) rfl (by rfl) ?_ ?_;rotate_left;(· (intro w' O;(try dsimp only at O);go_simp;try with_reducible rfl));(try simp only[BQ]))
 refine Dt rfl (by rfl) (λK Y=>?_);go_simp;refine Y _ _ ⟨by simp[World.cell?_setCell_other,c4],by simp[World.cell?_setCell_other,c5]⟩ (λO=>?_)
 (try simp only[BQ])
 iterate 1 (refine DO (v:=?_) rfl (by rfl) ?_ ?_;rotate_left;(· (intro w' O;(try dsimp only at O);go_simp;try with_reducible rfl));(try simp only[BQ]))
 refine Dt rfl (by rfl) (λK Y=>?_);go_simp;refine Y _ _ ⟨by simp[World.cell?_setCell_other,c4],by simp[World.cell?_setCell_other,c5]⟩ (λO=>?_)
 (try simp only[BQ])
 refine Fg ?_;simp only[DA,Dj];go_wp2;rw[Cz];go_wp2;generalize hW:(((w1.setCell ⟨w.heap.size,0,none⟩ (.bool false)).setCell ⟨w.heap.size,1,none⟩ (.int .i64 0)).setCell ⟨w.heap.size,0,none⟩ (.bool ro)).setCell ⟨w.heap.size,1,none⟩ (.int .i64 Ac)=w2;have I:Bz w2 sb 1 jv aA Ak Ac ro lv/\A5 (One sb) w w2/\w2.heap[w.heap.size]?=some (.cells #[.bool ro,.int .i64 Ac] 51 (0,0)):=by
  subst hW;refine⟨?_,?_,?_⟩
  ·exact aD.o.An (S:=One w.heap.size) (((((A5.C (One w.heap.size) w1).ao rfl 0 _).ao rfl 1 _).ao rfl 0 _).ao rfl 1 _) W
  ·(have n:∀(p:Addr),p.block=w.heap.size->p.block<w.heap.size->One sb p.block:=λp e h=>by omega);exact((((X.o.bn (n _ rfl) _).bn (n _ rfl) _).bn (n _ rfl) _).bn (n _ rfl) _)
  ·have:=CE (o:=1) (v:=.int .i64 Ac) (CE (o:=0) (v:=.bool ro) (CE (o:=1) (v:=.int .i64 0) (CE (o:=0) (v:=.bool false) z)));simpa using this
 refine M1 (f:=32) (args:=#[.pointer (some ⟨sb,0,none⟩)]) (by simp) (by simp[go_sem]) ?_;refine(Lx Tryz.bK ⟨sb,0,none⟩ .returning _ ?_ ?_).mono ?_
 ·exact I.1.c0
 ·exact I.1.fz 0
 rintro e u' w''⟨rfl,rfl,rfl⟩;have d0:w2.cell? ⟨w.heap.size,0,none⟩=some (.bool ro):=by simp[World.cell?,I.2.2]
 have d1:w2.cell? ⟨w.heap.size,1,none⟩=some (.int .i64 Ac):=by simp[World.cell?,I.2.2]
 refine⟨_,?_,rfl,H.o.ej (w':=w2.drew) I.1 I.2.1.ad⟩;simp[results,Tryz.results20,go_sem,d0,d1]
def NA(w:World)(k:Nat)(a b:Int)(h:Bz w sb 0 jv aA Ak Ac ro lv)(hr:Ei w lv L)(hk:k<8)(hl:1<=aA/\aA<=4611686018427387904)(hc:AY Ac):
 Aj 16 #[A7 sb,A0 k,A0 a,A0 b] w λe w'=>∃v,e=.returned (.tuple #[v,A0 0])/\
  El w' v (piece (L k) (max a (Bu Ac aA)) b)/\A5 Ab w w'/\∀g,v.ownBlock=some g->w.heap.size<=g:=by
 have aK:Hid (∀w',Aj 33 #[A0 k] w' λe aD=>e=.returned (.bool true)/\w'=aD):=λw'=>by
  have:=Oe w' k
  rwa [CJ (by omega)]at this
 have c0:=h.c0;have f0:=h.fz 0;have⟨hb1,hr1,hc1⟩:=h.bX hr;have aJ:∀w',Bz w' sb 1 jv aA Ak Ac ro lv->_:=λw' h'=>NU w' sb Ac aA h'.c3 h'.cK hl hc;generalize ho:Bu Ac aA=o at aJ ⊢;have aN:∀w',Bz w' sb 1 jv aA Ak Ac ro lv->Ei w' lv L->_:=λw' h' aI=>A14 w' sb (7+k) (L k) (lv k) (max a o) b (aI.ez h' hk).cE;have hk1:=Cd k;have hk2:(k:Int)<8:=by omega
 have H:=A4 h;have aG:=A4 aJ;have aH:=A4 aN;have O:=A4 hb1;have aB:=A4 hr1;have X:=A4 hc1
 go_enter_defers func16,ntmps16
 go_wp2_with (first
  | (go_at_call 31;refine(LZ Tryz.bK (Ad sb 0) _ c0 f0).k ?_;rintro w' rfl)
  | (go_at_call 33;refine(aK.o _).k ?_;rintro w' rfl))
 generalize (w.setCell (Ad sb 0) (.int .i32 1))=w1 at O aB X ⊢;refine PO (λ_=>True) 11
  (BD [0,1,2,3,4,5,6,9,7,8,10] [7,10]) (by kernel_rfl) (by kernel_rfl) trivial ?_
 iterate 8 (refine DO (v:=?_) rfl (by rfl) ?_ ?_;rotate_left;(· (intro w' hS;(try dsimp only at hS);go_simp;try with_reducible rfl));(try simp only[BQ]))
 refine Dt rfl (by rfl) (λK hK=>?_);go_simp;refine(aG.o w1.drew O.o).k ?_;rintro w2 z;refine hK _ _ trivial (λhS=>?_);have W:Hid (Bz w2 sb 1 jv aA Ak Ac ro lv/\Ei w2 lv L/\A5 (One sb) w w2):=
  have I:A5 Ab w1 w2:=⟨z.os,z.FR,z.FU,z.Am,z.Ao⟩
  ⟨O.o.An I (λh=>h),aB.o.An I (λ_ _ h=>h),X.o.b0 I⟩
 (try simp only[BQ])
 (refine DO (v:=?_) rfl (by rfl) ?_ ?_;rotate_left;(· (intro w' hS;(try dsimp only at hS);go_simp;try with_reducible rfl));(try simp only[BQ]))
 refine Dt rfl (by rfl) (λK hK=>?_);go_simp;refine(aH.o w2 W.o.1 W.o.2.1).mono ?_;rintro e w3⟨v,rfl,hv,aE,hf⟩;refine hK _ _ trivial (λhS=>?_);have aF:Hid (Bz w3 sb 1 jv aA Ak Ac ro lv/\A5 (One sb) w w3):=⟨W.o.1.An aE (λh=>h),W.o.2.2.b0 aE⟩;have aO:=A4 hv;have aL:Hid (∀g,v.oB g->w.heap.size<=g):=λg Y=>AH W.o.2.2.Am (hf g Y);have aM:Hid (∀g,v.oB g->g≠sb):=λg Y e=>by
  have:=hf g Y;have:=W.o.1.lt;omega
 (try simp only[BQ])
 refine Fg ?_;simp only[DA,Dj];go_wp2;rw[Cz];go_wp2;refine M1 (f:=32) (args:=#[A7 sb]) (by simp) (by simp[go_sem]) ?_;refine(Lx Tryz.bK (Ad sb 0) .returning _ ?_ ?_).mono ?_
 ·exact aF.o.1.c0
 ·exact aF.o.1.fz 0
 rintro e u' aD⟨rfl,rfl,rfl⟩;exact⟨_,results_tmp2 rfl _ _ _,v,rfl,AA aO.o λg Y=>GY _ _ _ _ (λe=>aM.o g Y (by simpa using e)),H.o.ej aF.o.1 aF.o.2,aL.o⟩
end
def Own(sb:Nat)(lv:Nat->Value)(x:Nat):Prop:=x=sb\/ED lv x
structure L8 (w w':World) (sb:Nat) (mu:Int) (jv:Value) (aA Ak Ac:Int) (ro:Bool) (lv lv':Nat->Value) (L':Nat->List Pt):Prop where
 Ai:Bz w' sb mu jv aA Ak Ac ro lv'
 FH:Ei w' lv' L'
 An:A5 (Own sb lv) w w'
 AP:∀g,ED lv' g->ED lv g\/w.heap.size<=g
section
variable{w w' w2:World}{sb:Nat}{mu aD:Int}{jv:Value}{aA Ak Ac aB:Int}{ro aE:Bool}{lv lv' aF:Nat->Value}{L L' L2:Nat->List Pt}
def L8.of(I:Bz w' sb mu jv aA Ak Ac ro lv)(H:Ei w lv L)(z:A5 (One sb) w w')(W:¬ED lv sb):L8 w w' sb mu jv aA Ak Ac ro lv lv L:=
 ⟨I,H.An z (λg O e=>W (by cases e;exact O)),z.ae λ_ _ h=>.inl h,λ_ h=>.inl h⟩
end
end
section
open Go.RowKit
attribute [local go_sem ↓] Go.wp_at_zero Go.wp_at_succ
def HV(w:World):Prop:=
 (∃h,w.cell? ⟨1,0,none⟩=some h/\(h=.nilIface\/∃H z,h=.iface H z))/\∃h,w.cell? ⟨2,0,none⟩=some h/\(h=.nilIface\/∃H z,h=.iface H z)
def HV.aP{w w':World}(h:HV w)(z:A5 Ab w w'):HV w':=by
 obtain⟨⟨O,X,H⟩,Y,W,I⟩:=h;exact⟨⟨O,z.an X,H⟩,Y,z.an W,I⟩
def ZY(s:List UInt8):isNum (Lib.atoiSat s)=false:=by
 unfold Lib.atoiSat;split<;>rfl
def A18(w:World)(s:List UInt8)(hl:s.length<=281474976710656)(he:HV w):
 Aj 82 #[.string ⟨s.toArray⟩] w λe w'=>∃v W,e=.returned (.tuple #[A0 v,W])/\PH s v/\A5 Ab w w':=by
 obtain⟨⟨e1,X,I⟩,Y,O,k2⟩:=he;have hs:(ByteArray.mk s.toArray).size=s.length:=by show s.toArray.size=_;simp
 have z:(ByteArray.mk s.toArray).data.toList=s:=by simp
 cases hr:Lib.atoiAll s with
 | ok v=>
  refine(Tryz.strconv_Atoi_ok ⟨s.toArray⟩ (by omega) v (by rw[z];exact hr) w).k ?_;rintro w' hw;refine⟨v,_,rfl,.inl hr,?_⟩;rcases hw with rfl|⟨t,rfl⟩
  ·exact A5.C _ _
  ·exact A5.cF (Lib.bytesWorld_below _ _ _)
 | «syntax»=>
  refine(Tryz.strconv_Atoi_syntax ⟨s.toArray⟩ (by omega) (by rw[z];exact hr) e1 w X I).mono ?_;rintro e w'⟨N,rfl,-,-,H⟩;exact⟨0,_,rfl,.inr ⟨λx h=>(by rw[hr]at h;cases h),rfl,λ_=>rfl⟩,A5.cF H⟩
 | range=>
  refine(Tryz.strconv_Atoi_range ⟨s.toArray⟩ (by omega) (by rw[z];exact hr) Y w O k2).mono ?_;rintro e w'⟨N,rfl,-,-,H⟩;have hn:s≠[]:=by
   rintro rfl;(have:Lib.atoiAll []=.syntax:=by decide +kernel);rw[this]at hr;cases hr
  exact⟨Lib.atoiSat s,_,(by rw[z]),.inr ⟨λx h=>(by rw[hr]at h;cases h),ZY s,λh=>absurd h hn⟩,A5.cF H⟩
def Tg(w:World)(v:Int):Aj 79 #[A0 v] w (Au (.bool (isNum v)) λw'=>w=w'):=by
 unfold isNum
 go_enter func79,ntmps79
 by_cases H:1<=v
 ·by_cases z:v<=4611686018427387904
  ·go_wp2;go_ret;exact⟨by simp[H,z],rfl⟩
  ·go_wp2;go_ret;exact⟨by simp[z],rfl⟩
 ·have e:decide (1<=v/\v<=4611686018427387904)=false:=Dw λh=>H h.1;rw[e];go_wp2;go_ret;exact⟨rfl,rfl⟩
section
variable{w:World}{B:Nat}
def Sz(w:World)(nm:List UInt8)(hl:nm.length<=281474976710656)(he:HV w)(hL:Lets B w):
 Aj 49 #[.string ⟨nm.toArray⟩] w (Au (.tuple #[A0 (Bc nm).1,A0 (Bc nm).2]) λw'=>A5 Ab w w'):=by
 have aT:Hid (∀(wr:World) (k:Nat),Aj 83 #[.string ⟨nm.toArray⟩,.string ⟨(CO k).toArray⟩] wr (Au (.string ⟨(Lib.trimPrefix nm (CO k)).toArray⟩) λw'=>w'=wr)):=λwr k=>by
  have:=Tryz.strings_TrimPrefix ⟨nm.toArray⟩ ⟨(CO k).toArray⟩ wr;simpa using this
 have aW:Hid (∀wr:World,A5 Ab w wr->∀k:Nat,1<=k->k<=4->Aa wr 0 k (.string ⟨(CO k).toArray⟩)):=λwr z k h1 h2=>((hL.aP z).2 wr (N3 _ _)).1 k h1 h2
 have aV:Hid (∀wr:World,A5 Ab w wr->∀k:Nat,_):=λwr z k=>A18 wr (Lib.trimPrefix nm (CO k)) (AH (Lib.trimPrefix_le _ _) hl) (he.aP z);have aU:Hid (∀(wr:World) (k:Nat) (v:Int),A5 Ab w wr->1<=k->k<=4->isNum v=decide ((k:Int)=1\/(k:Int)=2)->Aj 85 #[A0 k,A0 v] wr λe aR=>e=.returned (.string ⟨(BJ k v).toArray⟩)/\A5 Ab wr aR):=λwr k v z h1 h2 h3=>by
  by_cases hk:k=1\/k=2
  ·rw[CJ (by omega)]at h3;unfold isNum at h3;have hv:=KE h3;have hn:=HF (n:=v) (by omega) hv.2;exact LW wr k ⟨h1,h2⟩ ⟨by omega,by omega⟩ hn.2.2 (hL.aP z)
  ·(have e:BJ k v=CO k:=by unfold BJ;rw[Ae (by omega)]);rw[e];refine(SO wr k (by omega) (CO k) v (((hL.aP z).2 wr (N3 _ _)).1 k h1 h2)).k ?_;rintro w' rfl;exact⟨rfl,A5.C _ _⟩
 obtain⟨R,hR⟩:∃R,Bc nm=R:=⟨_,rfl⟩;have aP:Hid (FW nm 1=R):=by rw[SL];exact hR
 rw[hR]
 go_enter func49,ntmps49
 go_wp2;go_loopw [4,5,6] (λiv _ _ wr=>∃k:Nat,1<=k/\k<=5/\iv=A0 k/\Hid (A5 Ab w wr)/\Hid (FW nm k=R)) (λiv _ _ _=>5-(intOf iv).toNat)
 ·exact⟨1,by omega,by omega,rfl,A5.C _ _,aP.o⟩
 ·obtain⟨k,W,hk2,rfl,z,aA⟩:=hrel;by_cases hk:k<5
  ·have ck:=aW.o wr z.o k W (by omega);have aK:=A4 (aT.o wr k);have aF:=A4 (aV.o wr z.o k);have hk0:=Cd k;(have hk5:(k:Int)<5:=by omega);obtain⟨tr,aH⟩:∃tr,Lib.trimPrefix nm (CO k)=tr:=⟨_,rfl⟩;have aQ:=A4 aH;rw[aH]at aK aF;go_wp2_with (first|(go_at_call 83;refine aK.k ?_;rintro w1 rfl)|(go_at_call 82;fail));refine aF.m ?_;rintro e w1⟨v,er,rfl,hv,aM⟩;have X:=YZ (k:=k) ⟨W,by omega⟩ (by rw[aQ.o];exact hv);have H:Hid (A5 Ab w w1):=z.o.tr aM;have Y:=A4 (aU.o w1 k v H.o W (by omega));obtain⟨nb,aJ⟩:∃nb,isNum v=nb:=⟨_,rfl⟩;obtain⟨kb,aI⟩:∃kb,decide ((k:Int)=1\/(k:Int)=2)=kb:=⟨_,rfl⟩;rw[aJ,aI]at X Y;(have aS:Hid (∀wr,Aj 79 #[A0 v] wr (Au (.bool nb) λw'=>wr=w')):=λwr=>by rw[<-aJ];exact Tg wr v);(have aL:Hid (∀wr,Aj 84 #[A0 k] wr (Au (.bool kb) λw'=>wr=w')):=λwr=>by rw[<-aI];exact Of wr k);generalize hn2:BJ k v=n2 at X Y;have O:=A4 X;(have I:Hid (¬(nb=kb/\n2=nm)->FW nm (k+1)=R):=λh=>by have:=O.o;rw[Ae h]at this;rw[<-this];exact aA.o);(have aN:Hid (nb=kb/\n2=nm->R=((k:Int),v)):=λh=>by have:=O.o;rw[Ah h]at this;rw[<-aA.o];exact this);by_cases hb:nb=kb
   ·subst hb;have aO:(nb==nb)=true:=Um nb;have aG:=A4 (Y.o rfl);by_cases h3:n2=nm
    ·subst h3;have aE:=aN.o ⟨rfl,rfl⟩;subst aE;have hb:=Um n2;go_wp2_with (first|(go_at_call 79;refine(aS.o _).k ?_;rintro w2 rfl)|(go_at_call 84;refine(aL.o _).k ?_;rintro w2 rfl)|(go_at_call 85;refine aG.k ?_;rintro w2 aD;have aB:=A4 aD));go_ret2;exact⟨rfl,H.o.tr aB.o⟩
    ·have hb:(n2==nm)=false:=Hn.2 h3;have hN:=A4 (I.o λh=>h3 h.2);go_wp2_with (first|(go_at_call 79;refine(aS.o _).k ?_;rintro w2 rfl)|(go_at_call 84;refine(aL.o _).k ?_;rintro w2 rfl)|(go_at_call 85;refine aG.k ?_;rintro w2 aD;have aB:=A4 aD));go_roundw
     ·exact⟨k+1,by omega,by omega,by go_num,H.o.tr aB.o,hN.o⟩
     ·simp[intOf];omega
   ·have hN:=A4 (I.o λh=>hb h.1);have aO:(nb==kb)=false:=Hn.2 hb;go_wp2_with (first|(go_at_call 79;refine(aS.o _).k ?_;rintro w2 rfl)|(go_at_call 84;refine(aL.o _).k ?_;rintro w2 rfl));go_roundw
    ·exact⟨k+1,by omega,by omega,by go_num,H.o,hN.o⟩
    ·simp[intOf];omega
  ·(obtain rfl:k=5:=by omega);(have aE:R=(0,0):=by rw[<-aA.o,SG]);subst aE;go_wp2;go_ret2;exact⟨rfl,z.o⟩
end
end
section
open Go.ChangeAt Go.ChangeShapes Go.RowKit Go.WideShapes
def Tryz.own:ownKnob Tryz.prog.godebug=none:=by kernel_rfl
def Tryz.dw:Tryz.prog.globalNamed "tides/files.letters" = some 0:=by kernel_rfl
def Tryz.dr:Tryz.prog.globalNamed "internal/strconv.uint64pow10" = some 3:=by kernel_rfl
def Tryz.dE:Tryz.prog.globalNamed "strconv.ErrRange" = some 2:=by kernel_rfl
def Tryz.eb:Tryz.prog.globalNamed "strconv.ErrSyntax" = some 1:=by kernel_rfl
def Tryz.eV:(Tryz.prog.globals[0]?).map (·.type)=some 160:=by kernel_rfl
def Tryz.eG:(Tryz.prog.globals[3]?).map (·.type)=some 297:=by kernel_rfl
def Tryz.eC:(Tryz.prog.globals[2]?).map (·.type)=some 156:=by kernel_rfl
def Tryz.eX:(Tryz.prog.globals[1]?).map (·.type)=some 156:=by kernel_rfl
def Tryz.eH:Tryz.prog.cellsOf 160=5:=by kernel_rfl
def Tryz.df:Tryz.prog.cellsOf 9=1:=by kernel_rfl
def Tryz.fk:Tryz.prog.cellsOf 297=20:=by kernel_rfl
def Tryz.e5:Tryz.prog.cellsOf 228=1:=by kernel_rfl
def Tryz.dA:Tryz.prog.cellsOf 289=1:=by kernel_rfl
def Tryz.laidOut:laidOutB Tryz.prog=true:=by kernel_rfl
def Tryz.star: "*" ++ "errors.errorString" = "*errors.errorString":=by decide
def Tryz.eg(u:TypeId)(h:Tryz.prog.typeName? 3 u=some "*errors.errorString"):u=287:=
 typeName_ptr_named (nm:= "errors.errorString") (by rw[Tryz.star];kernel_rfl) (by kernel_rfl) (by decide) u (by rw[Tryz.star];exact h)
def Zq{z:Nat}{w:World}{I:List Value}{s:List (List UInt8)}{p:List MemPlace}(h:DataW.trod (λ_=>()) Tryz.prog w 0 (λ_=>true) false z 160 I=some (.agg (s.map λx=>.lit (.string x)),p))(k:Nat)(W:k<5)(x:List UInt8)(hx:s[k]?=some x):I[k]?=some (.string ⟨x.toArray⟩):=by
 cases z with
 | zero=>simp[DataW.trod]at h
 | succ z=>
  simp only[DataW.trod,underlying160,Tryz.df,Tryz.eH,Pd]at h;split at h
  ·have⟨xs,hm,hq⟩:=A2G.1 h;have O:xs.map (·.1)=s.map λx=>DataW.lit (.string x):=by
    have:=E5 Prod.fst hq;simpa using this
   have⟨b,hb,hf⟩:=Lib.mapM_at hm k k (by simp[W]);obtain⟨s',Y,rfl,_⟩:=DataW.trod_string underlying9 hf;have X:I[k]?=some (.string s'):=by
    have:=E5 (·[0]?) Y;simpa[List.getElem?_take,List.getElem?_drop] using this
   (have H:(xs.map (·.1))[k]?=some (DataW.lit (.string s'.data.toList)):=by simp[hb]);rw[O]at H;simp[hx]at H;rw[X,H]
  ·cases h
def ZD{W:World}(h:laidMetH Tryz.prog Rows.frozenUptoRow.laid W):Lets W.heap.size W:=by
 have h0:=h;have h3:laidMet Tryz.prog (("internal/strconv.uint64pow10",Lib.tabData .u64 Lib.pow10Tab):: [("strconv.ErrRange",Rows.laid_strconv_ErrRange),("strconv.ErrSyntax",Rows.laid_strconv_ErrSyntax),("tides/files.letters",Rows.laid_tides_files_letters)]) W:=laidMet.tail (laidMet.tail h0);have hp:Lib.TabIs Tryz.prog W "internal/strconv.uint64pow10" .u64 Lib.pow10Tab:=Lib.tabIs_of_head Tryz.dr Tryz.eG underlying297 underlying228 Tryz.e5 Tryz.fk h3;have h6:=laidMet.tail (laidMet.tail (laidMet.tail h3));obtain⟨ps,⟨g',t',cs,fuel,p,q,X,Y,z,hd,_,_⟩,_⟩:=h6;obtain rfl:=MJ (Tryz.dw.symm.trans X);obtain rfl:=MJ (Tryz.eV.symm.trans Y);have I:=Zq (s:=[[],[108],[115],[105],[100]]) hd;have H:∀k:Nat,1<=k->k<=4->W.cell? ⟨0,k,none⟩=some (.string ⟨(CO k).toArray⟩):=λk h1 h2=>by
  rw[UH Tryz.dw z k];have:k=1\/k=2\/k=3\/k=4:=by omega
  rcases this with rfl|rfl|rfl|rfl
  ·simpa[CO] using I 1 (by omega) _ rfl
  ·simpa[CO] using I 2 (by omega) _ rfl
  ·simpa[CO] using I 3 (by omega) _ rfl
  ·simpa[CO] using I 4 (by omega) _ rfl
 have aB:=H7 W _ (H 1 (by omega) (by omega));have aA:=hp.cell Tryz.dr 0 (by decide);have O:=H7 W _ aA;refine⟨Aq _,λw' hb=>⟨λk h1 h2=>?_,?_⟩⟩
 ·rw[<-H k h1 h2];exact hb.cell aB
 ·unfold Lib.TabIs at hp ⊢;rw[<-hp];unfold World.var?;rw[Tryz.dr];simp only[Option.bind_some];rw[hb.block _ O]
def ZE{W:World}(h:laidMetH Tryz.prog Rows.frozenUptoRow.laid W):HV W:=by
 have I:=h;have z:=laidMet.tail (laidMet.tail (laidMet.tail I));have H:=laidMet.tail z;have⟨a0,_,hva,_⟩:=laid_sentinel z Tryz.dE Tryz.eC underlying156 Tryz.eg underlying287 underlying289 rfl rfl underlying9 Tryz.dA Tryz.df;have⟨b0,_,hvb,_⟩:=laid_sentinel H Tryz.eb Tryz.eX underlying156 Tryz.eg underlying287 underlying289 rfl rfl underlying9 Tryz.dA Tryz.df;exact⟨⟨_,by simpa using UH Tryz.eb hvb 0,.inr ⟨_,_,rfl⟩⟩,_,by simpa using UH Tryz.dE hva 0,.inr ⟨_,_,rfl⟩⟩
def PY{z:Int}(h:(Lit.int .i64 z).wf=true):AY z:=by
 simp[Lit.wf]at h;have e:IntKind.i64.min = -9223372036854775808:=rfl;rw[e]at h;exact h
abbrev VW:ByteArray:={data:=#[105,110,118,97,108,105,100,32,115,121,110,116,97,120]}
abbrev Xu:ByteArray:={data:=#[118,97,108,117,101,32,111,117,116,32,111,102,32,114,97,110,103,101]}
def Ju(v:Array Value):Obj->Obj
 | .cells _ t frozen=>.cells v t frozen
 | o=>o
def HT(os:Os)(W:World):Prop:=W =
 let w0:=World.holding Tryz.prog os ⟨#[.cells #[.string VW] 289,.cells #[.string Xu] 289],#[],[]⟩
 let h0:=w0.heap
 let h1:=h0.modify 0 (Ju #[.string ⟨#[]⟩,.string ⟨#[108]⟩,.string ⟨#[115]⟩,.string ⟨#[105]⟩,.string ⟨#[100]⟩])
 let h2:=h1.modify 1 (Ju #[.iface 287 (A7 ((World.holding Tryz.prog default ⟨#[],#[],[]⟩).heap.size))])
 let h3:=h2.modify 2 (Ju #[.iface 287 (A7 ((World.holding Tryz.prog default ⟨#[],#[],[]⟩).heap.size+1))])
 let h4:=h3.modify 3 (Ju #[.int .u64 1,.int .u64 10,.int .u64 100,.int .u64 1000,.int .u64 10000,.int .u64 100000,.int .u64 1000000,.int .u64 10000000,.int .u64 100000000,.int .u64 1000000000,.int .u64 10000000000,.int .u64 100000000000,.int .u64 1000000000000,.int .u64 10000000000000,.int .u64 100000000000000,.int .u64 1000000000000000,.int .u64 10000000000000000,.int .u64 100000000000000000,.int .u64 1000000000000000000,.int .u64 10000000000000000000])
 let h5:=h4.modify 5 (Ju #[.int .u8 0,.int .u8 1,.int .u8 28,.int .u8 2,.int .u8 29,.int .u8 14,.int .u8 24,.int .u8 3,.int .u8 30,.int .u8 22,.int .u8 20,.int .u8 15,.int .u8 25,.int .u8 17,.int .u8 4,.int .u8 8,.int .u8 31,.int .u8 27,.int .u8 13,.int .u8 23,.int .u8 21,.int .u8 19,.int .u8 16,.int .u8 7,.int .u8 26,.int .u8 12,.int .u8 18,.int .u8 6,.int .u8 11,.int .u8 5,.int .u8 10,.int .u8 9])
 let h6:=h5.modify 6 (Ju #[.int .u8 0,.int .u8 1,.int .u8 56,.int .u8 2,.int .u8 57,.int .u8 49,.int .u8 28,.int .u8 3,.int .u8 61,.int .u8 58,.int .u8 42,.int .u8 50,.int .u8 38,.int .u8 29,.int .u8 17,.int .u8 4,.int .u8 62,.int .u8 47,.int .u8 59,.int .u8 36,.int .u8 45,.int .u8 43,.int .u8 51,.int .u8 22,.int .u8 53,.int .u8 39,.int .u8 33,.int .u8 30,.int .u8 24,.int .u8 18,.int .u8 12,.int .u8 5,.int .u8 63,.int .u8 55,.int .u8 48,.int .u8 27,.int .u8 60,.int .u8 41,.int .u8 37,.int .u8 16,.int .u8 46,.int .u8 35,.int .u8 44,.int .u8 21,.int .u8 52,.int .u8 32,.int .u8 23,.int .u8 11,.int .u8 54,.int .u8 26,.int .u8 40,.int .u8 15,.int .u8 34,.int .u8 20,.int .u8 31,.int .u8 10,.int .u8 25,.int .u8 14,.int .u8 19,.int .u8 9,.int .u8 13,.int .u8 8,.int .u8 7,.int .u8 6])
 {w0 with heap:=h6}
def ZC(os:Os)(W:World)(h:HT os W)(args:Array Value):laidMet Tryz.prog Rows.frozenUptoRow.laid (W.forCall (λ_ _=>0) ⟨#[],args,[]⟩).memory:=by
 unfold HT at h;subst h;exact laidMet_of_run' 8 (by kernel_rfl) (by kernel_rfl)
end
end Go.Proofs.YtodcnkbblippnabGreatDoor
