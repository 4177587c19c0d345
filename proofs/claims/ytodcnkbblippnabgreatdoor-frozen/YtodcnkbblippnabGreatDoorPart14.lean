/- Part 14 of a proof: walks of the program. -/
import Derived.Lib.AppendZeros
import Derived.Lib.Overlaps
import Derived.Lib.SliceRun
import Derived.Test.YtodcnkbblippnabGreatDoorPart13
namespace Go.Proofs.YtodcnkbblippnabGreatDoor
set_option maxRecDepth 100000
set_option maxHeartbeats 32000000
set_option linter.defProp false
open Go.Proofs.Tryz
section
open Go.RowKit
def Ht(n:DN):(bg n).2.2.AB=n.AB:=by
 unfold bg;dsimp only
 split
 ·rfl
 ·split
  ·rfl
  ·split<;>rfl
def N3{F G:Nat->FC}:∀ {es:List AL},(∀e∈es,(G e.2).1.length=(F e.2).1.length)->B4 G es=B4 F es
 | [],_=>rfl
 | e::r,h=>by
  simp only[B4];rw[h e (BD ..),N3 λx d=>h x (Br _ d)]
section
variable {P P':PD} {A:Ar} {J:Jn} {nm:Bs}
def PZ(d:Extra P nm P'):B4 P'.F P'.D.A4<=B4 P.F P.D.A4+(P'.F P.D.AT).1.length:=by
 have old:B4 P'.F P.D.A4=B4 P.F P.D.A4:=N3 λe z=>by
  rw[d.Ee _ λh=>P.D.cv (h ▸ .inl ⟨e,z,rfl⟩)]
 rcases d.Hb with⟨d1,_⟩|⟨_,d1,_⟩
 ·rw[d1,old];omega
 ·rw[d1,K9,old];simp[B4]
def PY(P:PD)(x:ByteArray):B4 (P.ae x).2.F (P.ae x).2.D.A4=B4 P.F P.D.A4:=by
 unfold PD.ae Cw;split
 ·rfl
 ·dsimp only
  refine N3 λe _=>?_;split
  ·unfold upd;split
   ·rename_i h;rw[h]
   ·rfl
  ·rfl
def PX:∀(l:List Bs) (P:PD),B4 (PD.ax l P).2.F (PD.ax l P).2.D.A4=B4 P.F P.D.A4
 | [],_=>rfl
 | nm::r,P=>by
  unfold PD.ax;split
  ·exact PY P _
  ·rw[PX r,PY]
def Vz(A:Ar)(P:PD):B4 (A.C P).2.2.F (A.C P).2.2.D.A4=B4 P.F P.D.A4:=by
 unfold Ar.C;split<;>exact PX _ P
def LB(P:PD)(x:ByteArray):(P.ae x).2.D.n.AB=P.D.n.AB:=by
 unfold PD.ae Cw;split
 ·rfl
 ·exact Ht _
def QG:∀(l:List Bs) (P:PD),(PD.ax l P).2.D.n.AB=P.D.n.AB
 | [],_=>rfl
 | nm::r,P=>by
  unfold PD.ax;split
  ·exact LB P _
  ·rw[QG r,LB]
def Iu(A:Ar)(P:PD):(A.C P).2.2.D.n.AB=P.D.n.AB:=by
 unfold Ar.C;split<;>exact QG _ P
def Iv(P:PD)(x:ByteArray):(P.ai x).2.D.n.AB=P.D.n.AB:=by
 unfold PD.ai CK;split
 ·rfl
 ·dsimp only
  split<;>exact Ht _
def QL(P:PD)(x:ByteArray)(l:Bs):(P.an x l).2.D.n.AB=P.D.n.AB:=by
 have d:∀D F f y h e,(By D F f y h e).2.1.n.AB=D.n.AB:=λD F f y h e=>by
  unfold By;split
  ·dsimp only;split<;>rfl
  ·rfl
 unfold PD.an Bl;split
 ·rfl
 ·dsimp only
  split
  ·rw[d];exact Ht _
  ·split
   ·rw[d];exact Ht _
   ·exact Ht _
def Ns(J:Jn)(P:PD):(J.av P).2.2.D.n.AB=P.D.n.AB:=by
 unfold Jn.av;split
 ·exact Iv P _
 ·dsimp only
  have h:((P.ai (A7 (Ae (J.A8+1)))).2.aa (A7 (Ae (J.A8+1))) (AE (Ae (J.A8+1))) (AO J.puts)).2.2.D.n.AB=P.D.n.AB:=(QL _ _ _).trans (Iv P _);split<;>exact h
def P6{x:ByteArray}{l:Bs}(h:(P.an x l).1=6):P.D.n.AB-B4 P.F P.D.A4<l.length:=by
 have L:=Gb P.D.n;have d:∀D z,∀e:Int,e=0\/e=5->(By D P.F 0 (A7 l) z e).1=6->e=0/\z>FL D P.F:=λD z e he h=>by
  unfold By at h;split at h
  ·rename_i E;dsimp only at h;split at h
   ·rename_i W;exact⟨W,E⟩
   ·omega
  ·dsimp only at h;omega
 have O:∀D f z e,(By D P.F f (A7 l) z e).1=(By D P.F 0 (A7 l) z e).1:=λD f z e=>by unfold By;split<;>rfl
 have I:((A7 l).size:Int)=l.length:=by rw[Ko]
 unfold PD.an Bl at h;split at h
 ·cases h
 ·rename_i f hf;dsimp only at h;split at h
  ·rw[O]at h;obtain⟨_,E⟩:=d _ _ _ L h;unfold FL at E;dsimp only at E;rw[Ht,I]at E;omega
  ·rename_i H;split at h
   ·rw[O]at h;obtain⟨Y,_⟩:=d _ _ _ L h;exact absurd (GG Y) H
   ·omega
def TG(P:PD)(x:ByteArray):(P.ai x).1≠6:=by
 have:=Gb P.D.n;unfold PD.ai CK;split
 ·simp
 ·dsimp only;omega
def A14(h:(J.av P).1=6):P.D.n.AB-B4 P.F P.D.A4<12:=by
 obtain⟨d,e2⟩:=JB P (Ae (J.A8+1));have z:(P.ai (A7 (Ae (J.A8+1)))).2.F P.D.AT=([],0):=by unfold PD.ai;simp[upd]
 have hu:=PZ d;rw[z]at hu;unfold Jn.av at h;split at h
 ·exact absurd h (TG P _)
 ·dsimp only at h;split at h
  ·have:=P6 (P:=(P.ai (A7 (Ae (J.A8+1)))).2) (x:=A7 (Ae (J.A8+1))) (l:=AR (AE (Ae (J.A8+1))) (AO J.puts)) h;rw[Eu,CJ,Iv]at this;simp only[Il]at hu;omega
  ·cases h
def Ru{p:Pu}(h:(J.aw P p).2.1=6):P.D.n.AB-B4 P.F P.D.A4<21:=by
 unfold Jn.aw at h;split at h
 ·cases h
 ·rename_i n s _;have:=P6 (P:=P) (x:=A7 (Ae n)) (l:=AR s (Bb p.1 p.2.1 p.2.2)) h;rw[Eu,EP]at this;omega
def Zt{p:Pu}(h:(J.aa P p).2.1=6):P.D.n.AB-B4 P.F P.D.A4<33:=by
 unfold Jn.aa at h;split at h
 ·split at h
  ·have:=A14 h;omega
  ·have z:=Ru h;obtain⟨d,⟨j,E⟩,_⟩:=Mi P J;have hu:=PZ d;rw[E]at hu;dsimp only at hu;rw[BU,Eu,CJ]at hu;rw[Ns]at z;omega
 ·have:=Ru h;omega
def A2m{p:Pu}(h:(A.aa P p).2.1=6):P.D.n.AB-B4 P.F P.D.A4<200:=by
 unfold Ar.aa at h;split at h
 ·exact absurd h (Nh A P)
 ·have:=Zt h;rw[Iu,Vz]at this;omega
end
end
section
open Go.RowKit
attribute [local go_sem ↓] Go.wp_at_zero Go.wp_at_succ
def G0(d a b h A9:Int)(p:Pu):Bool:=decide (p.1=d)&&decide (a<=p.2.1)&&decide (p.2.1<=b)&&Gv p.2.1 h A9
def Ea(d a b h A9:Int)(l:List Pt)(p:Pu):List Pt:=if G0 d a b h A9 p then Cs l p.2.1 p.2.2 else l
def refQ(puts:List Pu)(d a b h A9:Int):List Pt:=puts.foldl (Ea d a b h A9) []
def Ol(l:List Pt)(t v:Int):l.length<=(Cs l t v).length/\(Cs l t v).length<=l.length+1:=by
 induction l with
 | nil=>simp[Cs]
 | cons e r ih=>
  obtain⟨a,b⟩:=e;simp only[Cs];split
  ·simp only[CG];omega
  ·split<;>simp only[CG]<;>omega
def Xp(puts:List Pu)(k:Nat)(z:k<puts.length)(d a b h A9:Int):refQ (puts.take (k+1)) d a b h A9=Ea d a b h A9 (refQ (puts.take k) d a b h A9) (puts[k]'z):=by
 unfold refQ;rw[Dl z,Lf];rfl
def Xv(puts:List Pu)(d a b h A9:Int)(k:Nat)(hk:k<=puts.length):DM (refQ (puts.take k) d a b h A9)/\(refQ (puts.take k) d a b h A9).length<=k:=by
 induction k with
 | zero=>simp[refQ,DM]
 | succ k ih=>
  obtain⟨z,h2⟩:=ih (by omega);rw[Xp puts k (by omega)];unfold Ea;split
  ·have:=(Ol (refQ (puts.take k) d a b h A9) (puts[k]'(by omega)).2.1 (puts[k]'(by omega)).2.2).2;exact⟨KB z _ _,by omega⟩
  ·exact⟨z,by omega⟩
end
section
open Go.RowKit
def ZQ{l:List Pt}(h:DM l)(t v:Int)(x:Pt):x∈Cs l t v↔x=(t,v)\/(x∈l/\x.1≠t):=by
 induction l with
 | nil=>simp[Cs]
 | cons e r ih=>
  obtain⟨a,b⟩:=e;have z:=D7.1 h;have E:=ih z.2;simp only[Cs];by_cases H:a<t
  ·rw[Af H];simp only[BP,E];constructor
   ·rintro (rfl|h|⟨h,d⟩)
    ·exact .inr ⟨.inl rfl,by simp only;omega⟩
    ·exact .inl h
    ·exact .inr ⟨.inr h,d⟩
   ·rintro (h|⟨h|h,d⟩)
    ·exact .inr (.inl h)
    ·exact .inl h
    ·exact .inr (.inr ⟨h,d⟩)
  ·rw[Ac H];by_cases d:a=t
   ·subst d;rw[Af rfl];simp only[BP];constructor
    ·rintro (h|h)
     ·exact .inl h
     ·exact .inr ⟨.inr h,λe=>by have:=z.1 x h;simp only at this;omega⟩
    ·rintro (h|⟨h|h,d⟩)
     ·exact .inl h
     ·subst h;exact absurd rfl d
     ·exact .inr h
   ·rw[Ac d];simp only[BP];constructor
    ·rintro (h|h|h)
     ·exact .inl h
     ·subst h;exact .inr ⟨.inl rfl,d⟩
     ·exact .inr ⟨.inr h,λe=>by have:=z.1 x h;simp only at this;omega⟩
    ·rintro (h|⟨h|h,_⟩)
     ·exact .inl h
     ·exact .inr (.inl h)
     ·exact .inr (.inr h)
def Xr(l:List Pu)(p:Pu)(k a b d A9:Int):refQ (l++[p]) k a b d A9=Ea k a b d A9 (refQ l k a b d A9) p:=by unfold refQ;rw[Lf];rfl
def NC(l:List Pu)(k a b d A9:Int):DM (refQ l k a b d A9):=by
 have:=(Xv l k a b d A9 l.length (Au _)).1
 rwa [C9]at this
def R9(k a b d A9:Int)(x:Pt):∀n (l:List Pu),l.length=n->(x∈refQ l k a b d A9↔(a<=x.1/\x.1<=b/\Gv x.1 d A9=true)/\BC l k x.1=some x.2):=by
 intro n
 induction n with
 | zero=>
  intro l O;obtain rfl:l=[]:=GK.1 O;simp[refQ,BC]
 | succ n ih=>
  intro l O;have I:l≠[]:=λh=>by subst h;simp at O
  obtain⟨p,hp⟩:∃p,l=l.dropLast++[p]:=⟨l.getLast I,(ML I).symm⟩;have Y:l.dropLast.length=n:=by rw[UU,O];rfl
  have z:=ih l.dropLast Y;rw[hp,Xr,I1];generalize l.dropLast=m at z;unfold Ea;by_cases H:G0 k a b d A9 p=true
  ·rw[Af H,ZQ (NC _ _ _ _ _ _),z];unfold G0 at H;simp only[FV,DG]at H;obtain⟨⟨⟨q1,q2⟩,q3⟩,q4⟩:=H;by_cases E:p.2.1=x.1
   ·rw[Af ⟨q1,E⟩];constructor
    ·rintro (h|⟨_,h⟩)
     ·subst h;exact⟨⟨q2,q3,q4⟩,rfl⟩
     ·exact absurd E.symm h
    ·rintro⟨_,h⟩;refine .inl ?_;(have:p.2.2=x.2:=by simpa using h);rw[E,this]
   ·rw[Ac λh=>E h.2];constructor
    ·rintro (h|⟨h,_⟩)
     ·subst h;exact absurd rfl E
     ·exact h
    ·intro h;exact .inr ⟨h,λe=>E e.symm⟩
  ·rw[Ac H,z];by_cases L:p.1=k/\p.2.1=x.1
   ·rw[Af L]
    have W:¬(a<=x.1/\x.1<=b/\Gv x.1 d A9=true):=λh=>H (by
     unfold G0;rw[L.1,L.2];simp only[OL,MT,FV,DG]
     exact⟨⟨h.1,h.2.1⟩,h.2.2⟩)
    simp only[W,false_and]
   ·rw[Ac L]
def Qs:∀ {l l':List Pt},DM l->DM l'->(∀x,x∈l↔x∈l')->l=l'
 | [],[],_,_,_=>rfl
 | [],y::r,_,_,h=>by have:=(h y).2 (BD ..);cases this
 | x::r,[],_,_,h=>by have:=(h x).1 (BD ..);cases this
 | x::r,y::s,h1,h2,h=>by
  have E:=D7.1 h1;have d:=D7.1 h2;have I:x=y:=by
   rcases BP.1 ((h x).1 (BD ..)) with e|e
   ·exact e
   ·rcases BP.1 ((h y).2 (BD ..)) with L|L
    ·exact L.symm
    ·have a:=d.1 x e;have b:=E.1 y L;omega
  subst I
  congr 1
  refine Qs E.2 d.2 λz=>⟨λH=>?_,λH=>?_⟩
  ·rcases BP.1 ((h z).1 (Br _ H)) with e|e
   ·subst e;have:=E.1 z H;omega
   ·exact e
  ·rcases BP.1 ((h z).2 (Br _ H)) with e|e
   ·subst e;have:=d.1 z H;omega
   ·exact e
def Xs{l l':List Pu}{k a b d A9:Int}(h:∀t,a<=t->t<=b->Gv t d A9=true->BC l k t=BC l' k t):refQ l k a b d A9=refQ l' k a b d A9:=by
 refine Qs (NC _ _ _ _ _ _) (NC _ _ _ _ _ _) λx=>?_;rw[R9 k a b d A9 x _ l rfl,R9 k a b d A9 x _ l' rfl];constructor
 ·rintro⟨z,E⟩;exact⟨z,by rw[<-h x.1 z.1 z.2.1 z.2.2];exact E⟩
 ·rintro⟨z,E⟩;exact⟨z,by rw[h x.1 z.1 z.2.1 z.2.2];exact E⟩

end
section
open Go.RowKit
attribute [local go_sem ↓] Go.wp_at_zero Go.wp_at_succ

end
section
open Go.RowKit
def Of(w:World)(x:Int):Ah 33 #[A0 x] w (Am (.bool (decide (0<=x/\x<8))) λw'=>w=w'):=by
 obtain⟨q,d⟩:∃q,decide (0<=x/\x<8)=q:=⟨_,rfl⟩;rw[d];have h:=A1 d;by_cases h1:0<=x<;>by_cases h2:x<8
 all_goals try (exfalso;omega)
 all_goals
  go_enter func33,ntmps33
  go_wp2;go_ret;refine⟨?_,rfl⟩;rw[<-h.o];simp
  try omega
def T1(w:World)(x:Int):Ah 28 #[A0 x] w (Am (.bool (decide (1<=x/\x<=4611686018427387904))) λw'=>w=w'):=by
 obtain⟨q,d⟩:∃q,decide (1<=x/\x<=4611686018427387904)=q:=⟨_,rfl⟩;rw[d];have h:=A1 d;by_cases h1:1<=x<;>by_cases h2:x<=4611686018427387904
 all_goals try (exfalso;omega)
 all_goals
  go_enter func28,ntmps28
  go_wp2;go_ret;refine⟨?_,rfl⟩;rw[<-h.o];simp
  try omega
def Bv(A9 d:Int):Int:=if A9 < -9223372036854775808+d then -9223372036854775808 else A9-d+1
def Yq(A9 d t:Int)(h:AW t):decide (Bv A9 d<=t)=Gv t d A9:=by
 obtain⟨t1,t2⟩:=h;unfold Bv Gv;split<;>simp<;>omega
def NT(w:World)(z:Nat)(A9 d:Int)(c3:A6 w z 3 (A0 d))(c4:A6 w z 5 (A0 A9))(L:1<=d/\d<=4611686018427387904)(O:AW A9):
 Ah 39 #[A5 z] w (Am (A0 (Bv A9 d)) λw'=>A3 Aa w w'):=by
 obtain⟨l1,l2⟩:=L;obtain⟨k1,k2⟩:=O;have ew:IntKind.i64.wrap (-9223372036854775808+d) = -9223372036854775808+d:=by simp[IntKind.wrap,IntKind.bits,IntKind.signed];omega
 go_enter func39,ntmps39
 go_wp2;refine FA (λw'=>A6 w' z 3 (A0 d)/\A6 w' z 5 (A0 A9)) 9
  (Bz [0,1,2,3,4,5,6,7,8] []) (by kernel_rfl) (by kernel_rfl) (λ_ _ _ _ _ h=>h) ⟨c3,c4⟩ ?_
 iterate 9 (refine E8 (v:=?_) rfl (by rfl) ?_ ?_;rotate_left;(· (intro w' I;(try dsimp only at I);go_simp;try with_reducible rfl));(try simp only[Ao]))
 refine Bo ?_;simp only[DE,Dq];have d3:A6 w.drew z 3 (A0 d):=c3;have d4:A6 w.drew z 5 (A0 A9):=c4;have H:Hid (A3 Aa w w.drew):=(A3.I _ w).af;generalize w.drew=w1 at d3 d4 H ⊢;by_cases h:A9 < -9223372036854775808+d
 ·have E:Hid (Bv A9 d = -9223372036854775808):=by unfold Hid Bv;rw[Af h]
  go_wp2;go_ret;rw[E.o];exact⟨rfl,H.o⟩
 ·have E:Hid (Bv A9 d=A9-d+1):=by unfold Hid Bv;rw[Ac h]
  have ew2:IntKind.i64.wrap (A9-d)=A9-d:=by simp[IntKind.wrap,IntKind.bits,IntKind.signed];omega
  have ew3:IntKind.i64.wrap (A9-d+1)=A9-d+1:=by simp[IntKind.wrap,IntKind.bits,IntKind.signed];omega
  go_wp2;refine FA (λw'=>A6 w' z 3 (A0 d)/\A6 w' z 5 (A0 A9)) 10
   (Bz [0,1,2,3,4,5,6,7,8,9] []) (by kernel_rfl) (by kernel_rfl) (λ_ _ _ _ _ h=>h) ⟨d3,d4⟩ ?_
  iterate 10 (refine E8 (v:=?_) rfl (by rfl) ?_ ?_;rotate_left;(· (intro w' I;(try dsimp only at I);go_simp;try with_reducible rfl));(try simp only[Ao]))
  refine Bo ?_;simp only[DE,Dq];go_wp2;go_ret;rw[E.o];exact⟨rfl,H.o.af⟩
section
variable {P:Program}
def LA(w:World)(dT sT ty elem:TypeId)(i:TypeInfo)(size:Nat)(g o E L:Nat)(a:Addr)(h H k:Nat)(d:Array Value)(t:TypeId)(z:List Value)(hu:P.underlying dT=some (.slice elem))(hi:P.info? elem=some i)(I:i.size=size)(hg:w.heap[g]?=some (.cells d t (0,0)))(hn:Nat.min h E=k)(aA:z.length=k*size)(Y:∀j v,z[j]?=some v->w.cell? (a.add j)=some v)(W:o+z.length<=d.size)(h1:∀v∈z,v.oneCell'=true):
 (Builtin.copy_ #[dT,sT] ty #[.slice (some (Ab g o)) E L,.slice (some a) h H]).run P w =
  .ok (goInt k) (w.setRow g (d.toList.take o++z++d.toList.drop (o+z.length)).toArray):=by
 subst I;have hf:=QC (P:=P) w i.size k a h H z aA Y;have O:=run_storeCells_at P g o t z 0 d w hg (by simpa using W) h1;simp only[Pj]at O;simp[Builtin.copy_,run_underlying hu,Builtin.lenOf,sizeOf,typeInfo,hi,hn,hf,O]
def WO(w:World)(t tn ty e:TypeId)(i:TypeInfo)(z:Value)(kn:IntKind)(ht:P.underlying t=some (.slice e))(Y:P.underlying tn=some (.int kn))(hi:P.info? e=some i)(hz:i.zero=some z)(hs0:0<i.size)(h:Option Addr)(len cap:Nat)(d:List Value)(O:(Builtin.firstCells i.size len (.slice h len cap)).run P w.drew=.ok d.toArray w.drew)(n:Nat)(h0:0<n)(hgrow:cap<len+n)(h63:((len+n:Nat):Int)<=9223372036854775807)(h48:n*i.bytes<=281474976710656)(hcap:Builtin.nextslicecap (len+n) cap*i.bytes<=281474976710656):
 (Builtin.append_ #[t,tn] ty #[.slice h len cap,.int .i64 n]).run P w =
  .ok (.slice (some ⟨w.heap.size,0,none⟩) (len+n) (grownCap w (len+n) cap e)) (w.drew.alloc (.cells (d.toArray++Builtin.zeroCells z.cells n++Builtin.zeroCells z.cells (grownCap w (len+n) cap e-(len+n))) e)):=by
 have hw:IntKind.i64.wrap (n:Int)=n:=by rw[J6];omega
 have W:¬((n:Int)<0):=by omega
 have L:¬(281474976710656<(n:Int)*(i.bytes:Int)):=by rw[<-Int.natCast_mul];omega
 have aA:¬(n*i.size=0):=Nat.mul_ne_zero (by omega) (by omega);have E:¬(len+n<=cap):=by omega
 have H:¬(281474976710656<Builtin.nextslicecap (len+n) cap*i.bytes):=by omega
 have I:¬(9223372036854775807<(len:Int)+(n:Int)):=by omega
 simp[Builtin.append_,run_underlying ht,run_underlying Y,sizeOf,typeInfo,zeroValue,hi,hz,asInt,asIntOf,hw,W,aA,L,E,H,I,Question.forced,O,newRow,grownCap]
def RJ{w:World}{z e size n g cap:Nat}{xs:List Value}(h:w.ownsRow z e size (.slice (some ⟨g,0,none⟩) n cap) n xs):∃d:Array Value,w.heap[g]?=some (.cells d e (0,0))/\d.size=cap*size/\d.toList.take (n*size)=xs/\n<=cap/\cap<=maxLen:=by
 rcases h.2 with⟨H,_⟩|⟨g',cap',d,H,_,W,I,E,L,O⟩
 ·cases H
 ·cases H;exact⟨d,W,L,O,I,E⟩
end
end
section
open Go.RowKit
attribute [local go_sem ↓] Go.wp_at_zero Go.wp_at_succ
def Ga(x y:Int):Int:=if x<y then -1 else if y<x then 1 else 0
def A1p(x y:Int)(w:World):Ah 81 #[A0 x,A0 y] w (Am (A0 (Ga x y)) λw'=>w=w'):=by
 by_cases h:x<y
 ·have q:Hid (Ga x y = -1):=by unfold Hid Ga;rw[Af h]
  go_enter func81,ntmps81
  go_wp2;go_ret;rw[q.o];exact⟨rfl,rfl⟩
 ·by_cases d:y<x
  ·(have q:Hid (Ga x y=1):=by unfold Hid Ga;rw[Ac h,Af d])
   go_enter func81,ntmps81
   go_wp2;go_ret;rw[q.o];exact⟨rfl,rfl⟩
  ·(obtain rfl:x=y:=by omega);(have q:Hid (Ga x x=0):=by unfold Hid Ga;rw[Ac h,Ac d])
   go_enter func81,ntmps81
   go_wp2;go_ret;rw[q.o];exact⟨rfl,rfl⟩
def OS(t v y:Int)(w:World):Ah 114 #[.agg #[A0 t,A0 v],A0 y] w (Am (A0 (Ga t y)) λw'=>A3 Aa w w'):=by
 go_enter func114,ntmps114
 go_wp2_with (go_at_call 81;refine(A1p _ _ _).mono ?_;rintro e w'⟨rfl,rfl⟩);go_ret;exact⟨rfl,(A3.I _ w).aj _⟩
def Ex(l:List Pt)(t:Int):Bool:=(l[BQ l t]?).any λx=>x.1==t
def WM(w:World)(lv:Value)(L:List Pt)(t:Int)(hL:CX w lv L)(hs:DM L)(hl:L.length<1099511627776):
 Ah 113 #[lv,A0 t,.func (.func 114) #[] #[]] w (Am (.tuple #[A0 (BQ L t),.bool (Ex L t)]) λw'=>A3 Aa w w'):=by
 obtain⟨a,cap,rfl,h1,h2,h3,_,_⟩:=B9 hL;unfold maxLen at h2;have aK:=A1 hL;have aM:=A1 hs;have aL:=A1 h3;have aE:=Jk L t;have aJ:Hid (∀W,A3 Aa w W->∀k (hk:k<L.length),∃g,a=some (Ab g 0)/\A6 W g (k*2) (A0 (L[k]'hk).1)/\A6 W g (k*2+1) (A0 (L[k]'hk).2)):=by
  intro W hc k hk;obtain⟨g,rfl⟩:=aL.o (by omega);have hW:CX W (AJ g L.length cap) L:=Ay aK.o λg hg=>hc.Al g (Az aK.o hg) (λh=>h);exact⟨g,rfl,hW.bw k hk⟩
 go_enter func113,ntmps113
 go_wp2;go_loopw [9,10] (λiv jv wq=>∃i j:Nat,i<=j/\j<=L.length/\iv=A0 i/\jv=A0 j/\Hid (i<=BQ L t/\BQ L t<=j)/\Hid (A3 Aa w wq)) (λiv jv _=>(intOf jv).toNat-(intOf iv).toNat)
 case atStart=>exact⟨0,L.length,Cz _,Au _,rfl,rfl,⟨Cz _,aE⟩,A3.I _ _⟩
 case round=>
  obtain⟨i,j,hij,hj,rfl,rfl,E,d⟩:=hrel;by_cases hlt:i<j
  ·obtain⟨m,hm⟩:∃m,(i+j)/2=m:=⟨_,rfl⟩;(have aH:i<=m:=by omega);(have hmj:m<j:=by omega);(have I:m<L.length:=by omega);obtain⟨g,rfl,c1,c2⟩:=aJ.o _ d.o m I;obtain⟨⟨tm,vm⟩,aD⟩:∃x,L[m]'I=x:=⟨_,rfl⟩;rw[aD]at c1 c2;have aB:=A1 aD;have i0:=Ce i;(have hsum:(i:Int)+(j:Int)<=9223372036854775807:=by omega);(have hlt':(i:Int)<(j:Int):=by omega);by_cases aF:tm<t
   ·(have hc:Ga tm t<0:=by unfold Ga;rw[Af aF];omega);have hp:Hid (m+1<=BQ L t):=by
     unfold Hid;apply Pz;intro hn;have:=Kj aM.o (show BQ L t<=m by omega) I;rw[aB.o]at this;simp only at this;omega
    go_wp2_with (go_at_call 114;refine(OS _ _ _ _).mono ?_;rintro e w'⟨rfl,z⟩;have H:=A1 z);go_roundw
    case rel=>exact⟨m+1,j,by omega,hj,by rw[show ((i:Int)+(j:Int))/2+1=((m+1:Nat):Int) from by omega],rfl,⟨hp.o,E.o.2⟩,d.o.tr H.o⟩
    case measure=>simp[intOf];omega
   ·have hc:0<=Ga tm t:=by
     unfold Ga;rw[Ac aF];split<;>omega
    have hp:Hid (BQ L t<=m):=by
     unfold Hid;apply Pz;intro hn;have:=Ki (show m<BQ L t by omega) I;rw[aB.o]at this;simp only at this;omega
    go_wp2_with (go_at_call 114;refine(OS _ _ _ _).mono ?_;rintro e w'⟨rfl,z⟩;have H:=A1 z);go_roundw
    case rel=>exact⟨i,m,aH,by omega,rfl,by rw[show ((i:Int)+(j:Int))/2=(m:Int) from by omega],⟨E.o.1,hp.o⟩,d.o.tr H.o⟩
    case measure=>simp[intOf];omega
  ·(obtain rfl:i=j:=by omega);(have aG:Hid (BQ L t=i):=by have:=E.o;unfold Hid;omega);by_cases O:i<L.length
   ·obtain⟨g,rfl,c1,c2⟩:=aJ.o _ d.o i O;obtain⟨⟨Y,vi⟩,aA⟩:∃x,L[i]'O=x:=⟨_,rfl⟩;rw[aA]at c1 c2;have i0:=Ce i;(have i1:(i:Int)<(L.length:Int):=by omega);have aI:Hid (Ex L t=(Ga Y t==0)):=by
     unfold Hid Ex;rw[aG.o,E2 O,aA];simp only[Option.any_some];unfold Ga;by_cases e1:Y<t
     ·rw[Af e1];have:Y≠t:=by omega
      simp[this]
     ·rw[Ac e1];by_cases e2:t<Y
      ·rw[Af e2];have:Y≠t:=by omega
       simp[this]
      ·rw[Ac e2];have:Y=t:=by omega
       simp[this]
    go_wp2_with (go_at_call 114;refine(OS _ _ _ _).mono ?_;rintro e w'⟨rfl,z⟩;have H:=A1 z);go_ret2;rw[aG.o,aI.o];exact⟨rfl,d.o.tr H.o⟩
   ·(have hil':(L.length:Int)<=(i:Int):=by omega);have aI:Hid (Ex L t=false):=by
     unfold Hid Ex;rw[aG.o,MF (by omega)];rfl
    go_wp2;go_ret2;rw[aG.o,aI.o];exact⟨rfl,d.o⟩
structure Mr (w:World) (b o:Nat) (L:List Pt) (lv:Value):Prop where
 DW:w.cell? ⟨b,o,none⟩=some lv
 Bu:CX w lv L
 FD:DM L
 CQ:L.length<1099511627776
def Ox(w:World)(b o:Nat)(L:List Pt)(lv:Value)(t:Int)(h:Mr w b o L lv):
 Ah 67 #[.pointer (some (Ab b o)),A0 t] w (Am (.tuple #[A0 (BQ L t),.bool (Ex L t)]) λw'=>A3 Aa w w'):=by
 have hc:=h.DW;obtain⟨a,cap,rfl,_⟩:=B9 h.Bu;have H:=A1 h
 go_enter func67,ntmps67
 go_wp2_with (go_at_call 113;refine(WM _ _ _ _ H.o.Bu H.o.FD H.o.CQ).mono ?_;rintro e w'⟨rfl,d⟩;have z:=A1 d);go_ret2;exact⟨rfl,z.o⟩
def Tryz.cT:(Tryz.prog.info? 88).map (λi=>(i.zero,i.size,i.bytes))=some (some (.agg #[A0 0,A0 0]),2,16):=by kernel_rfl
def XW{l:List Pt}(z:DM l)(t:Int):BQ l (t+1)=BQ l t+(if Ex l t then 1 else 0):=by
 have I:=Jk l t;by_cases h:Ex l t=true
 ·rw[Af h];unfold Ex at h;by_cases L:BQ l t<l.length
  ·rw[E2 L]at h;simp at h;refine Rz z (by omega) (λi d H=>?_) λi d E=>?_
   ·by_cases e:i=BQ l t
    ·subst e;omega
    ·have:=Ki (show i<BQ l t by omega) d;omega
   ·have:=JR.1 z (BQ l t) i L d (by omega);rw[h]at this;omega
  ·rw[MF (by omega)]at h;cases h
 ·rw[Ac h,Pj];refine Rz z I (λi d H=>?_) λi d E=>?_
  ·have:=Ki H d;omega
  ·have h2:=Kj z E d;by_cases e:(l[i]'d).1=t
   ·exfalso;apply h;by_cases O:i=BQ l t
    ·subst O;unfold Ex;rw[E2 d];simpa using e
    ·have:=JR.1 z (BQ l t) i (by omega) d (by omega);have:=Kj z (Au (BQ l t)) (show BQ l t<l.length by omega);omega
   ·omega
def XX{l:List Pt}(d:DM l){a b:Int}(h:a<=b):BQ l a<=BQ l b:=by
 apply Pz;intro hn;have hl:=Jk l a;have h1:=Ki (show BQ l b<BQ l a by omega) (by omega);have h2:=Kj d (Au (BQ l b)) (by omega);omega
def piece(l:List Pt)(a b:Int):List Pt:=l.filter λx=>decide (a<=x.1)&&decide (x.1<=b)
def XY{l:List Pt}(d:DM l)(a b:Int):piece l a b=(l.take (BQ l b+(if Ex l b then 1 else 0))).drop (BQ l a):=by
 rw[<-XW d b,<-A0B d a (b+1)];unfold piece
 congr 1
 funext x
 have:decide (x.1<=b)=decide (x.1<b+1):=by
  apply Vf.2;simp;omega
 rw[this]
def A12(w:World)(rb ro:Nat)(L:List Pt)(lv:Value)(a b:Int)(h:Mr w rb ro L lv):
 Ah 41 #[.pointer (some (Ab rb ro)),A0 a,A0 b] w λe w'=>∃v,e=.returned v/\CX w' v (piece L a b)/\A3 Aa w w'/\∀g,v.ownBlock=some g->w.heap.size<=g:=by
 have H:=A1 h;have hc:=h.DW;obtain⟨ad,cap,rfl,h1,h2,h3,h4,h5⟩:=B9 h.Bu;unfold maxLen at h2;have HA:=A1 h3;have aU:=Hd w _ hc;have aM:Hid (∀W,A3 Aa w W->Mr W rb ro L (.slice ad L.length cap)):=λW I=>
  ⟨(DL (I.Al rb aU (λh=>h))).trans H.o.DW,Ay H.o.Bu λg hg=>I.Al g (Az H.o.Bu hg) (λh=>h),H.o.FD,H.o.CQ⟩
 obtain⟨i0,hi,aG,aL,aJ⟩:=E4 Tryz.cT;have hsm:=h.CQ;have aY:=A1 h4;have aX:=A1 h5;by_cases hab:b<a
 ·have q:Hid (piece L a b=[]):=by
   unfold Hid piece;rw[A3c];intro x _;simp;omega
  go_enter func41,ntmps41
  go_wp2;go_ret;exact⟨_,rfl,by rw[q.o];exact CL _ _ _ _,A3.I _ _,by simp[Value.ownBlock]⟩
 ·have aO:a<=b:=by omega
  have aK:=XY H.o.FD a b;have hm:=XX H.o.FD aO;have aT:=Jk L b;have Y:Ex L b=true->BQ L b<L.length:=λhh=>by
   unfold Ex at hh;apply Pz;intro hn;rw[MF (by omega)]at hh;cases hh
  obtain⟨i,aI⟩:∃i,BQ L a=i:=⟨_,rfl⟩;obtain⟨j,aA⟩:∃j,BQ L b=j:=⟨_,rfl⟩;obtain⟨hs,aF⟩:∃hs,Ex L b=hs:=⟨_,rfl⟩;rw[aI,aA]at hm;rw[aA]at aT;rw[aF,aA]at Y;rw[aI,aA,aF]at aK;have aS:Hid (∀W,A3 Aa w W->Ah 67 #[.pointer (some (Ab rb ro)),A0 a] W λe w'=>∃x,e=.returned (.tuple #[A0 i,.bool x])/\A3 Aa W w'):=λW I=>
   (Ox W rb ro L _ a (aM.o W I)).mono (by rintro e w'⟨rfl,h⟩;rw[aI];exact⟨_,rfl,h⟩)
  have aW:Hid (∀W,A3 Aa w W->Ah 67 #[.pointer (some (Ab rb ro)),A0 b] W (Am (.tuple #[A0 j,.bool hs]) λw'=>A3 Aa W w')):=λW I=>
   (Ox W rb ro L _ b (aM.o W I)).mono (by rintro e w'⟨rfl,h⟩;rw[aA,aF];exact⟨rfl,h⟩)
  have aR:=A1 aK;have O:Hid (∀W (n:Nat),A3 Aa w W->i<=n->n<=L.length->n=j+(if hs then 1 else 0)->∀v,(v=.slice (Option.map (λx=>x.add (i*2)) ad) (n-i) (cap-i)\/(n=i/\∃x c,v=.slice x 0 c))->Src Tryz.prog 2 43 v (n-i) (Bi (piece L a b)) W/\(piece L a b).length=n-i):=by
   intro W n I hin hnl hn v hv;(have aB:(piece L a b).length=n-i:=by rw[aR.o,<-hn,CP,BU];omega);have aQ:=(aM.o W I).Bu;refine⟨?_,aB⟩;have aV:∀g,ad=some (Ab g 0)->∀(k:Nat) u,(Bi (piece L a b))[k]?=some u->A6 W g (i*2+k) u:=by
    intro g hg k u hk;subst hg;refine BF aQ (g:=g) rfl ?_;rw[aR.o,<-hn,<-NL,<-NJ,J2,Pn]at hk;split at hk
    ·exact hk
    ·cases hk
   have aD:n-i=0->∀x c,Src Tryz.prog 2 43 (.slice x 0 c) 0 (Bi (piece L a b)) W:=by
    intro h0 x c;have:piece L a b=[]:=MJ (by omega);rw[this];cases x with
    | none=>exact Src.ofNil W underlying43 c
    | some y=>exact L0 W underlying43 _ 0 c [] rfl (by simp) (by simp)
   rcases hv with rfl|⟨hni,x,c,rfl⟩
   ·cases ad with
    | none=>
     have:=(aY.o rfl).1;(have h0:n-i=0:=by omega);rw[h0];exact aD h0 _ _
    | some x=>
     obtain⟨g,rfl⟩:=aX.o x rfl;refine L0 W underlying43 _ _ _ _ (by rw[Gn,aB]) (λk u hk=>?_) (NK _);have hx:Addr.add (Addr.add (Ab g 0) (i*2)) k=(Ab g (i*2+k)):=by
      unfold Addr.add;by_cases h1:i*2=0<;>by_cases h2:k=0<;>simp[h1,h2]
     rw[hx];exact aV g rfl k u hk
   ·(have h0:n-i=0:=by omega);rw[h0];exact aD h0 x c
  have HLEN:Hid ((piece L a b).length=j+(if hs then 1 else 0)-i):=by
   unfold Hid;rw[aK,CP,BU];cases hs with
   | true=>have:=Y rfl;simp;omega
   | false=>simp;omega
  have j0:=Ce j;have iz:=Ce i;have hij:(i:Int)<=(j:Int):=by omega
  have hjc:(j:Int)<=(cap:Int):=by omega
  have hic:(i:Int)<=(cap:Int):=by omega
  have hbyt:(0+(j+1-i))*16<=140737488355328:=by omega
  have aH:Hid (∀(W w3:World) (n:Nat) (b3:Option Addr) (d:Nat),A3 Aa w W->(piece L a b).length=n->App W w3 88 2 (.slice none 0 0) (.slice b3 (0+n) d) (0+n) ([]++Bi (piece L a b))->CX w3 (.slice b3 n d) (piece L a b)/\A3 Aa w w3/\∀g,(Value.slice b3 n d).ownBlock=some g->w.heap.size<=g):=by
   intro W w3 n b3 d I hn hA;refine⟨?_,I.tr hA.bM,λg hg=>?_⟩
   ·have:=hA.AF;unfold CX;rw[hn];simpa using this
   ·have:=hA.AT g (by simpa using hg);have:=I.Ak;omega
  cases hs with
  | false=>
   by_cases aP:cap=i
   ·obtain rfl:i=cap:=aP.symm;(obtain rfl:j=i:=by omega);have aN:Hid (∀W x c,A3 Aa w W->Src Tryz.prog 2 43 (.slice x 0 c) 0 (Bi (piece L a b)) W/\(piece L a b).length=0):=λW x c I=>by
     have:=O.o W j I (Au _) (by omega) (by simp) (.slice x 0 c) (.inr ⟨rfl,x,c,rfl⟩)
     rwa [UI]at this
    go_enter func41,ntmps41
    go_wp2_with (fail);refine(aS.o _ (A3.I _ _)).mono ?_;rintro e w1⟨x,rfl,k1⟩;have aE:=A1 k1;go_wp2_with (fail);refine(aW.o _ aE.o).mono ?_;rintro e w2⟨rfl,k2⟩;have E:=A1 <| aE.o.tr k2;have c2:=(aM.o _ E.o).DW;go_wp2_with (at_builtin;refine D9 rfl (.const (.slice none 0 0)) (.tmp 35) 43 43 rfl 88 i0 _ 2 16 underlying43 hi aG aL aJ rfl (by decide) (.slice none 0 0) 0 [] (by rfl) (CL _ 0 88 2) _ 0 _ (by rfl) (aN.o _ _ _ E.o).1 (by omega) ?_;intro b3 d w3 hA;have z:=A1 (aH.o _ w3 _ b3 d E.o (aN.o _ none 0 E.o).2 hA));go_ret;exact⟨_,rfl,z.o.1,z.o.2.1,z.o.2.2⟩
   ·skip
    go_enter func41,ntmps41
    go_wp2_with (fail);refine(aS.o _ (A3.I _ _)).mono ?_;rintro e w1⟨x,rfl,k1⟩;have aE:=A1 k1;go_wp2_with (fail);refine(aW.o _ aE.o).mono ?_;rintro e w2⟨rfl,k2⟩;have E:=A1 <| aE.o.tr k2;have c2:=(aM.o _ E.o).DW;go_wp2_with (at_builtin;refine D9 rfl (.const (.slice none 0 0)) (.tmp 35) 43 43 rfl 88 i0 _ 2 16 underlying43 hi aG aL aJ rfl (by decide) (.slice none 0 0) 0 [] (by rfl) (CL _ 0 88 2) _ (j-i) _ (by rfl) (O.o _ j E.o (by omega) (by omega) (by simp) _ (.inl rfl)).1 (by omega) ?_;intro b3 d w3 hA;have z:=A1 (aH.o _ w3 _ b3 d E.o (O.o _ j E.o (by omega) (by omega) (by simp) _ (.inl rfl)).2 hA));go_ret;exact⟨_,rfl,z.o.1,z.o.2.1,z.o.2.2⟩
  | true=>
   have hjl:=Y rfl;(have hjc':(j:Int)+1<=(cap:Int):=by omega);(have hij':(i:Int)<=(j:Int)+1:=by omega);(have hjt:((j:Int)+1).toNat=j+1:=by omega);by_cases aP:cap=i
   ·exfalso;omega
   ·skip
    go_enter func41,ntmps41
    go_wp2_with (fail);refine(aS.o _ (A3.I _ _)).mono ?_;rintro e w1⟨x,rfl,k1⟩;have aE:=A1 k1;go_wp2_with (fail);refine(aW.o _ aE.o).mono ?_;rintro e w2⟨rfl,k2⟩;have E:=A1 <| aE.o.tr k2;have c2:=(aM.o _ E.o).DW;go_wp2_with (at_builtin;refine D9 rfl (.const (.slice none 0 0)) (.tmp 35) 43 43 rfl 88 i0 _ 2 16 underlying43 hi aG aL aJ rfl (by decide) (.slice none 0 0) 0 [] (by rfl) (CL _ 0 88 2) _ ((j+1)-i) _ (by rfl) (O.o _ (j+1) E.o (by omega) (by omega) (by simp) _ (.inl rfl)).1 (by omega) ?_;intro b3 d w3 hA;have z:=A1 (aH.o _ w3 _ b3 d E.o (O.o _ (j+1) E.o (by omega) (by omega) (by simp) _ (.inl rfl)).2 hA));go_ret;exact⟨_,rfl,z.o.1,z.o.2.1,z.o.2.2⟩
structure Hg (w:World) (b o:Nat) (cs:Array Value) (T:Nat) (L:List Pt) (lv:Value):Prop where
 Ag:w.heap[b]?=some (.cells cs T (0,0))
 Cy:cs[o]?=some lv
 Bu:CX w lv L
 FD:DM L
 CQ:L.length<1099511627776
def Hg.cH{w:World}{b o:Nat}{d:Array Value}{T:Nat}{L:List Pt}{lv:Value}(h:Hg w b o d T L lv):Mr w b o L lv:=
 ⟨by simp[World.cell?,h.Ag,h.Cy],h.Bu,h.FD,h.CQ⟩
def Hg.An{w w':World}{b o:Nat}{d:Array Value}{T:Nat}{L:List Pt}{lv:Value}(h:Hg w b o d T L lv)(z:A3 Aa w w'):Hg w' b o d T L lv:=
 ⟨(z.Al b (Bw h.Ag) (λh=>h)).trans h.Ag,h.Cy,Ay h.Bu λg E=>z.Al g (Az h.Bu E) (λh=>h),h.FD,h.CQ⟩
structure Ig (w w':World) (b o:Nat) (cs:Array Value) (T:Nat) (lv:Value) (L':List Pt) (lv':Value):Prop where
 Bu:Hg w' b o (cs.setIfInBounds o lv') T L' lv'
 An:A3 (λk=>k=b\/lv.ownBlock=some k) w w'
 AF:∀g,lv'.ownBlock=some g->lv.ownBlock=some g\/w.heap.size<=g
def Lq{P:Program}(w:World){ops:Array Oper}{rest:List Oper}{o:Oper}{a:Act}{Q:Exit->Act->World->Prop}(z:o.guard=none)(d s:Operand)(t H:TypeId)(O:o.op=.call {callee:=.builtin .copy,args:=#[d,s],argTypes:=#[t,H]})(v u:Value)(I:a.eval d=v)(Y:a.eval s=u){E:Value}{w':World}(W:(Builtin.copy_ #[t,H] o.type #[v,u]).run P w=.ok E w')(h:wpList P ops Q rest (a.put o.dst E) w'):wpList P ops Q (o::rest) a w:=
 wpList_plain z λ_ L=>by
  unfold Oper.wp execOp;simp only[O,resolve,invoke,builtin,Sem.run_bind,Sem.run_pure,Result.andThen_ok,List.map_toArray,GY,List.map_nil,I,Y,W];exact L _ _ h
def Dn(d:List Value)(L:List Pt)(i:Nat):List Value:=d.take ((i+1)*2)++Bi (L.drop i)++d.drop ((i+1)*2+(Bi (L.drop i)).length)
def DA(c:List Value)(i:Nat)(t v:Int):List Value:=c.take (i*2)++[A0 t,A0 v]++c.drop (i*2+2)
def T7(L:List Pt)(i:Nat)(t v:Int):Bi (L.take i++(t,v):: L.drop i)=Bi (L.take i)++[A0 t,A0 v]++Bi (L.drop i):=by
 rw[Ry];simp[Bi]
def Th(d:List Value)(L:List Pt)(i:Nat)(hi:i<=L.length)(hlen:(L.length+1)*2<=d.length):(Dn d L i).length=d.length:=by
 have h:(Bi (L.drop i)).length=(L.length-i)*2:=by rw[Gn,CP]
 unfold Dn;simp only[AZ,BU,CP,h];omega
def Om(c:List Value)(i:Nat)(t v:Int)(h:i*2+2<=c.length):(DA c i t v).length=c.length:=by
 unfold DA;simp only[AZ,BU,CP,CG,Il];omega
def ZM(L:List Pt)(i:Nat)(hi:i<=L.length)(t v:Int)(d:List Value)(h:d.take (i*2)=Bi (L.take i))(hlen:(L.length+1)*2<=d.length):
 (DA (Dn d L i) i t v).take ((L.length+1)*2)=Bi (L.take i++(t,v):: L.drop i):=by
 have z:(Bi (L.drop i)).length=(L.length-i)*2:=by rw[Gn,CP]
 have H:(d.take ((i+1)*2)).length=(i+1)*2:=by rw[BU];omega
 have I:(Dn d L i).take (i*2)=Bi (L.take i):=by
  unfold Dn;rw[Cc,GI (by rw[H];omega),JO,show min (i*2) ((i+1)*2)=i*2 from by omega,h]
 have O:(Dn d L i).drop (i*2+2)=Bi (L.drop i)++d.drop ((i+1)*2+(Bi (L.drop i)).length):=by
  unfold Dn;rw[Cc]
  conv=>lhs;rw[show i*2+2=(d.take ((i+1)*2)).length from by rw[H];omega]
  rw[V0]
 have E:(Bi (L.take i)++[A0 t,A0 v]++Bi (L.drop i)).length=(L.length+1)*2:=by
  simp only[AZ,Gn,z,BU,CG,Il];omega
 unfold DA;rw[I,O,T7,<-Cc,<-E,JP]
structure HD (w w':World) (lv:Value) (L':List Pt) (lv':Value):Prop where
 Bu:CX w' lv' L'
 An:A3 (λk=>lv.ownBlock=some k) w w'
 AF:∀g,lv'.ownBlock=some g->lv.ownBlock=some g\/w.heap.size<=g
def ZC(w:World)(g cap:Nat)(L:List Pt)(i E:Nat)(t v:Int)(hL:CX w (AJ g L.length cap) L)(hi:i<L.length)(O:L.length+1<=cap)(hsm:L.length<1099511627776)(hv:w.heap[E]?=some (.cells #[A0 t,A0 v] 88 (0,0)))(aG:E≠g):
 Ah 90 #[AJ g L.length cap,A0 i,AJ E 1 1] w λe w'=>∃lv',e=.returned lv'/\HD w w' (AJ g L.length cap) (L.take i++(t,v):: L.drop i) lv':=by
 obtain⟨d,hg,aD,aB,_,aL⟩:=RJ hL;unfold maxLen at aL;obtain⟨i0,W,hz0,Y,hz2⟩:=E4 Tryz.cT;have aO:∀lb cb,(callFunc 134 #[AJ E 1 1,.slice (some (Ab g ((i+1)*2))) lb cb]).run Tryz.prog w=.ok (.value (.bool false)) w:=λlb cb=>by
  have aQ:∀w,(Go.sizeOf 88).run Tryz.prog w=.ok 2 w:=λw=>by simp[sizeOf,typeInfo,W,Y]
  rw[WN func134 (by kernel_rfl) (by kernel_rfl) (by kernel_rfl) (e:=Extern.SlicesOverlaps.overlaps #[43,43] #[4]) (by kernel_rfl),
   Lib.run_overlaps_apart w 43 4 88 underlying43 2 aQ (Ab E 0) (Ab g ((i+1)*2)) 1 1 lb cb aG 88 88 2 d.size (by simp[World.shape?,hv]) (by simp[World.shape?,hg]) (by rw[aD];omega) (by simp[World.frozen?,hv]) (by simp[World.frozen?,hv])]
  rfl
 have aK:(L.length+1)*2<=d.toList.length:=by have:=Lm (xs:=d);omega
 have z:(Dn d.toList L i).length=cap*2:=by rw[Th _ _ _ (by omega) aK,Lm,aD]
 have aJ:(Bi (L.drop i)).length=(L.length-i)*2:=by rw[Gn,CP]
 have aN:d.toList.take (i*2)=Bi (L.take i):=by
  rw[show i*2=min (i*2) (L.length*2) from by omega,<-JO,aB,NJ]
 have aR:∀(x y:Nat),Addr.add (Ab g x) y=(Ab g (x+y)):=λx y=>by unfold Addr.add;by_cases h:y=0<;>simp[h]
 have aS:∀(y:Nat),Addr.add (Ab E 0) y=(Ab E y):=λy=>by unfold Addr.add;by_cases h:y=0<;>simp[h]
 have aH:Hid (∀ty I sc,(Builtin.copy_ #[43,43] ty #[.slice (some (Ab g ((i+1)*2))) (L.length-i) I,.slice (some (Ab g (i*2))) (L.length+1-i) sc]).run Tryz.prog w.drew=.ok (goInt ((L.length-i:Nat):Int)) (w.drew.setRow g (Dn d.toList L i).toArray)):=λty I sc=>
  LA w.drew _ _ ty 88 i0 2 g ((i+1)*2) _ I (Ab g (i*2)) _ sc (L.length-i) d 88 (Bi (L.drop i)) underlying43 W Y hg (by simp only[UM];split<;>omega) aJ
   (λj u H=>by
    rw[aR];refine BF (w:=w) hL (g:=g) rfl ?_
    rw[<-NL,J2]at H;exact H)
   (by rw[aJ,aD];omega) (NK _)
 have aF:Hid (∀ty I,(Builtin.copy_ #[43,43] ty #[.slice (some (Ab g (i*2))) (L.length+1-i) I,AJ E 1 1]).run Tryz.prog (w.drew.setRow g (Dn d.toList L i).toArray)=.ok (goInt ((1:Nat):Int)) ((w.drew.setRow g (Dn d.toList L i).toArray).setRow g (DA (Dn d.toList L i) i t v).toArray)):=λty I=>by
  have aA:(w.drew.setRow g (Dn d.toList L i).toArray).heap[g]?=some (.cells (Dn d.toList L i).toArray 88 (0,0)):=Kb w.drew g d _ 88 _ hg;have:=LA (P:=Tryz.prog) (w.drew.setRow g (Dn d.toList L i).toArray) 43 43 ty 88 i0 2 g (i*2) (L.length+1-i) I (Ab E 0) 1 1 1 (Dn d.toList L i).toArray 88 [A0 t,A0 v] underlying43 W Y aA (by simp only[UM];split<;>omega) rfl
   (λj u H=>by
    rw[aS];have aM:(w.drew.setRow g (Dn d.toList L i).toArray).heap[E]?=some (.cells #[A0 t,A0 v] 88 (0,0)):=(Je w.drew g E _ aG).trans hv;unfold World.cell?;rw[aM]
    match j,H with
    | 0,H=>simpa using H
    | 1,H=>simpa using H
    | j+2,H=>simp at H)
   (by simp only[L9,z,CG,Il];omega) (by simp[Value.oneCell'])
  simpa[DA] using this
 have aT:Hid (HD w ((w.drew.setRow g (Dn d.toList L i).toArray).setRow g (DA (Dn d.toList L i) i t v).toArray) (AJ g L.length cap) (L.take i++(t,v):: L.drop i) (AJ g (L.length+1) cap)):=by
  have aA:(w.drew.setRow g (Dn d.toList L i).toArray).heap[g]?=some (.cells (Dn d.toList L i).toArray 88 (0,0)):=Kb w.drew g d _ 88 _ hg;have aP:((w.drew.setRow g (Dn d.toList L i).toArray).setRow g (DA (Dn d.toList L i) i t v).toArray).heap[g]?=some (.cells (DA (Dn d.toList L i) i t v).toArray 88 (0,0)):=Kb _ g _ _ 88 _ aA;have aE:(L.take i++(t,v):: L.drop i).length=L.length+1:=by simp;omega
  refine⟨?_,?_,λg' h'=>.inl h'⟩
  ·unfold CX;rw[aE];refine⟨by rw[Gn,aE],.inr ⟨g,cap,_,rfl,Cz _,aP,O,by unfold maxLen;omega,?_,?_⟩⟩
   ·rw[L9,Om _ _ _ _ (by rw[z];omega),z]
   ·exact ZM L i (by omega) t v d.toList aN aK
  ·refine⟨rfl,rfl,rfl,by simp,λk hk hn=>?_⟩;have aI:k≠g:=λe=>hn (by simp[Value.ownBlock,e]);rw[Je _ g k _ aI,Je _ g k _ aI];rfl
 have q1:((i:Int)==(L.length:Int))=false:=by simp;omega
 have q2:¬(cap=i):=by omega
 have q3:¬(cap=i+1):=by omega
 have q4:(i:Int)<=(L.length:Int):=by omega
 have q7:((L.length:Int)+1).toNat=L.length+1:=by omega
 have q8:((i:Int)+1).toNat=i+1:=by omega
 have q9:(i:Int)+1<=(L.length:Int)+1:=by omega
 have q10:=Ce i;have q11:(i:Int)<=(L.length:Int)+1:=by omega
 have q13:(0:Int)<=(i:Int)+1:=by omega
 have q12:IntKind.i64.wrap ((i:Int)+1)=(i:Int)+1:=by simp only[J6];omega
 go_enter func90,ntmps90
 go_wp2_with (simp only[aO]);refine K1 8 (by kernel_rfl) (by kernel_rfl) ?_;simp only[KV,EX,EL,DE,Dq]
 repeat still_step
 refine K2 ?_;refine Lq _ rfl (.tmp 73) (.tmp 76) 43 43 rfl _ _ (by rfl) (by rfl) (aH.o _ _ _) ?_;go_wp2_with (refine Lq _ rfl (.tmp 80) (.tmp 81) 43 43 rfl _ _ (by rfl) (by rfl) (aF.o _ _) ?_);go_ret;exact⟨_,rfl,aT.o⟩
def ZE(w:World)(Y:Option Addr)(cap:Nat)(L:List Pt)(vb:Nat)(t v:Int)(hL:CX w (.slice Y L.length cap) L)(hsm:L.length<1099511627776)(hv:w.heap[vb]?=some (.cells #[A0 t,A0 v] 88 (0,0))):
 Ah 90 #[.slice Y L.length cap,A0 L.length,AJ vb 1 1] w λe w'=>∃lv',e=.returned lv'/\HD w w' (.slice Y L.length cap) (L.take L.length++(t,v):: L.drop L.length) lv':=by
 obtain⟨i0,aD,I,W,aA⟩:=E4 Tryz.cT;obtain⟨_,_,he,h1,h2,_,h4,h5⟩:=B9 hL;cases he;unfold maxLen at h2;have O:Hid (Src Tryz.prog 2 43 (AJ vb 1 1) 1 [A0 t,A0 v] w):=Src.ct underlying43 hv 1 1 rfl (by simp[Value.oneCell']);have aE:Hid (∀z d h,App w h 88 2 (.slice Y L.length cap) (.slice z (L.length+1) d) (L.length+1) (Bi L++[A0 t,A0 v])->HD w h (.slice Y L.length cap) (L.take L.length++(t,v):: L.drop L.length) (.slice z (L.length+1) d)):=by
  intro z d h E;refine⟨?_,E.An λk hk=>hk,λg hg=>?_⟩
  ·have:=E.AF;unfold CX;rw[Em (Au _),JW (Au _),Ry,AZ];exact this
  ·rcases E.Cy with e|e
   ·rw[e]at hg;exact .inl hg
   ·rw[e]at hg;cases hg;exact .inr (Au _)
 have aF:=A1 hL;have q4:(0:Int)<=(L.length:Int):=Gi _;have aB:(L.length+1)*16<=140737488355328:=by omega
 by_cases hc:cap=L.length
 ·subst hc
  go_enter func90,ntmps90
  go_wp2_with (at_builtin;refine D9 rfl (.tmp 23) (.tmp 24) 43 43 rfl 88 i0 _ 2 16 underlying43 aD I W aA rfl (by decide) _ L.length (Bi L) (by rfl) aF.o _ 1 _ (by rfl) O.o aB ?_;intro z d h E;have H:=A1 (aE.o z d h E));go_ret;exact⟨_,rfl,H.o⟩
 ·go_enter func90,ntmps90
  go_wp2_with (at_builtin;refine D9 rfl (.tmp 23) (.tmp 24) 43 43 rfl 88 i0 _ 2 16 underlying43 aD I W aA rfl (by decide) _ L.length (Bi L) (by rfl) aF.o _ 1 _ (by rfl) O.o aB ?_;intro z d h E;have H:=A1 (aE.o z d h E));go_ret;exact⟨_,rfl,H.o⟩
def ZL(L:List Pt)(i:Nat)(O:i<=L.length)(t v:Int)(c:List Value)(d:c.take (i*2)=Bi (L.take i))(hlen:(L.length+1)*2<=c.length):
 (Dn (DA c i t v) L i).take ((L.length+1)*2)=Bi (L.take i++(t,v):: L.drop i)/\(Dn (DA c i t v) L i).length=c.length:=by
 have z:(Bi (L.drop i)).length=(L.length-i)*2:=by rw[Gn,CP]
 have h:(DA c i t v).length=c.length:=Om c i t v (by omega);refine⟨?_,by rw[Th _ _ _ O (by omega),h]⟩;have H:(Bi (L.take i)++[A0 t,A0 v]).length=(i+1)*2:=by
  simp only[AZ,Gn,BU,CG,Il];omega
 have I:(DA c i t v).take ((i+1)*2)=Bi (L.take i)++[A0 t,A0 v]:=by
  unfold DA;rw[d,<-H,JP]
 have E:(Bi (L.take i)++[A0 t,A0 v]++Bi (L.drop i)).length=(L.length+1)*2:=by
  rw[AZ,H,z];omega
 unfold Dn;rw[I,T7,<-E,JP]
def ZD(w:World)(g cap:Nat)(L:List Pt)(i vb:Nat)(t v:Int)(hL:CX w (AJ g L.length cap) L)(hi:i<L.length)(hroom:cap<L.length+1)(hsm:L.length<1099511627776)(hv:w.heap[vb]?=some (.cells #[A0 t,A0 v] 88 (0,0))):
 Ah 90 #[AJ g L.length cap,A0 i,AJ vb 1 1] w λe w'=>∃lv',e=.returned lv'/\HD w w' (AJ g L.length cap) (L.take i++(t,v):: L.drop i) lv':=by
 obtain⟨cur,hg,hcs,htake,hnc,aX⟩:=RJ hL;unfold maxLen at aX;obtain rfl:cap=L.length:=by omega
 obtain⟨i0,Y,aU,aA,aL⟩:=E4 Tryz.cT;have aJ:(Bi (L.drop i)).length=(L.length-i)*2:=by rw[Gn,CP]
 have aB:∀(b x y:Nat),Addr.add (Ab b x) y=(Ab b (x+y)):=λb x y=>by unfold Addr.add;by_cases h:y=0<;>simp[h]
 have aQ:(Builtin.firstCells i0.size i (AJ g i L.length)).run Tryz.prog w.drew=.ok (Bi (L.take i)).toArray w.drew:=
  QC w.drew i0.size i (Ab g 0) i L.length (Bi (L.take i)) (by rw[aA,Gn,BU];omega) (λj u d=>by
   rw[aB,Gx];refine BF (w:=w) hL (g:=g) rfl ?_;rw[<-NJ,Pn]at d;split at d
   ·exact d
   ·cases d)
 have z:=WO (P:=Tryz.prog) w 43 3 43 88 i0 _ .i64 underlying43 underlying3 Y aU (by omega) (some (Ab g 0)) i L.length (Bi (L.take i)) aQ (L.length+1-i) (by omega) (by omega) (by omega) (by rw[aL];omega) (by rw[aL];exact growslice_fits (by omega) (by omega));rw[show i+(L.length+1-i)=L.length+1 from by omega,show ((L.length+1-i:Nat):Int)=(L.length:Int)+1-(i:Int) from by omega]at z;obtain⟨H,aG⟩:∃H,grownCap w (L.length+1) L.length 88=H:=⟨_,rfl⟩;have aN:=grownCap_ge w (L.length+1) L.length 88;have aK:grownCap w (L.length+1) L.length 88<=maxLen:=grownCap_le_maxLen w (L.length+1) L.length 88 (by unfold maxLen;omega);rw[aG]at z aN aK;obtain⟨c0,O⟩:∃c0,(Bi (L.take i)).toArray++Builtin.zeroCells (Value.agg #[A0 0,A0 0]).cells (L.length+1-i)++Builtin.zeroCells (Value.agg #[A0 0,A0 0]).cells (H-(L.length+1))=c0:=⟨_,rfl⟩;have E:c0.toList.length=H*2:=by
  rw[<-O];have e1:(Value.agg #[A0 0,A0 0]).cells.size=2:=rfl;simp only[PE,AZ,Lm,size_zeroCells,e1,Gn,BU];omega
 have aF:c0.toList.take (i*2)=Bi (L.take i):=by
  rw[<-O,PE,PE,Cc];have:(Bi (L.take i)).length=i*2:=by rw[Gn,BU];omega
  rw[<-this,JP]
 rw[O]at z;unfold maxLen at aK;have aI:((w.drew.aC c0 88)).heap[w.heap.size]?=some (.cells c0 88 (0,0)):=BK w.drew _;have aY:=Bw hv;have aS:=Bw hg;have aT:((w.drew.aC c0 88)).heap[vb]?=some (.cells #[A0 t,A0 v] 88 (0,0)):=(D8 w.drew _ _ aY).trans hv;have aP:Hid (∀I W,(Builtin.copy_ #[43,43] I #[.slice (some (Ab w.heap.size (i*2))) (L.length+1-i) W,AJ vb 1 1]).run Tryz.prog (w.drew.aC c0 88)=.ok (goInt ((1:Nat):Int)) ((w.drew.aC c0 88).setRow w.heap.size (DA c0.toList i t v).toArray)):=λI W=>by
  have:=LA (P:=Tryz.prog) (w.drew.aC c0 88) 43 43 I 88 i0 2 w.heap.size (i*2) (L.length+1-i) W (Ab vb 0) 1 1 1 c0 88 [A0 t,A0 v] underlying43 Y aA aI (by simp only[UM];split<;>omega) rfl
   (λj u d=>by
    rw[aB,Gx];unfold World.cell?;rw[aT]
    match j,d with
    | 0,d=>simpa using d
    | 1,d=>simpa using d
    | j+2,d=>simp at d)
   (by rw[<-Lm,E];simp only[CG,Il];omega) (by simp[Value.oneCell'])
  simpa[DA] using this
 have aM:(DA c0.toList i t v).length=H*2:=by rw[Om _ _ _ _ (by omega),E]
 have aR:((w.drew.aC c0 88).setRow w.heap.size (DA c0.toList i t v).toArray).heap[w.heap.size]?=some (.cells (DA c0.toList i t v).toArray 88 (0,0)):=Kb _ w.heap.size c0 _ 88 _ aI;have aD:Hid (∀I W sc,(Builtin.copy_ #[43,43] I #[.slice (some (Ab w.heap.size ((i+1)*2))) (L.length-i) W,.slice (some (Ab g (i*2))) (L.length-i) sc]).run Tryz.prog ((w.drew.aC c0 88).setRow w.heap.size (DA c0.toList i t v).toArray).drew=.ok (goInt ((L.length-i:Nat):Int)) (((w.drew.aC c0 88).setRow w.heap.size (DA c0.toList i t v).toArray).drew.setRow w.heap.size (Dn (DA c0.toList i t v) L i).toArray)):=λI W sc=>
  LA (P:=Tryz.prog) ((w.drew.aC c0 88).setRow w.heap.size (DA c0.toList i t v).toArray).drew 43 43 I 88 i0 2 w.heap.size ((i+1)*2) (L.length-i) W (Ab g (i*2)) (L.length-i) sc (L.length-i) (DA c0.toList i t v).toArray 88 (Bi (L.drop i)) underlying43 Y aA aR (by simp) aJ
   (λj u d=>by
    rw[aB];have h0:w.cell? (Ab g (i*2+j))=some u:=by
     refine BF (w:=w) hL (g:=g) rfl ?_;rw[<-NL,J2]at d;exact d
    refine(DL ?_).trans h0
    exact(Je _ w.heap.size g _ (by omega)).trans (D8 w.drew _ _ aS))
   (by rw[aJ,L9,aM];omega) (NK _)
 have aW:Hid (HD w (((w.drew.aC c0 88).setRow w.heap.size (DA c0.toList i t v).toArray).drew.setRow w.heap.size (Dn (DA c0.toList i t v) L i).toArray) (AJ g L.length L.length) (L.take i++(t,v):: L.drop i) (AJ w.heap.size (L.length+1) H)):=by
  have aV:(((w.drew.aC c0 88).setRow w.heap.size (DA c0.toList i t v).toArray).drew.setRow w.heap.size (Dn (DA c0.toList i t v) L i).toArray).heap[w.heap.size]?=some (.cells (Dn (DA c0.toList i t v) L i).toArray 88 (0,0)):=Kb _ w.heap.size _ _ 88 _ aR;have aO:(L.take i++(t,v):: L.drop i).length=L.length+1:=by simp;omega
  obtain⟨k1,k2⟩:=ZL L i (by omega) t v c0.toList aF (by omega);refine⟨?_,?_,λg' h'=>by simp[Value.ownBlock]at h';exact .inr (by omega)⟩
  ·unfold CX;rw[aO];refine⟨by rw[Gn,aO],.inr ⟨w.heap.size,H,_,rfl,Cz _,aV,aN,by unfold maxLen;omega,?_,k1⟩⟩;rw[L9,k2,E]
  ·refine⟨rfl,rfl,rfl,by simp,λk hk hn=>?_⟩;(have aE:k≠w.heap.size:=by omega);rw[Je _ _ k _ aE];exact(Je _ _ k _ aE).trans (D8 w.drew _ _ hk)
 have q1:((i:Int)==(L.length:Int))=false:=by simp;omega
 have q2:¬(H=i):=by omega
 have q3:¬(H=i+1):=by omega
 have q3':¬(L.length=i):=by omega
 have q4:(i:Int)<=(L.length:Int):=by omega
 have q8:((i:Int)+1).toNat=i+1:=by omega
 have q9:(i:Int)+1<=(L.length:Int)+1:=by omega
 have q10:=Ce i;have q11:(i:Int)<=(L.length:Int)+1:=by omega
 have q13:(0:Int)<=(i:Int)+1:=by omega
 have q12:IntKind.i64.wrap ((i:Int)+1)=(i:Int)+1:=by simp only[J6];omega
 have q14:IntKind.i64.wrap ((L.length:Int)+1-(i:Int))=(L.length:Int)+1-(i:Int):=by simp only[J6];omega
 have aH:=A1 z
 go_enter func90,ntmps90
 go_wp2_with (first
  | (at_builtin;refine Lib.wpList_append_run _ rfl (.tmp 34) (.tmp 39) 43 3 rfl _ _ (by rfl) (by rfl) _ _ aH.o ?_)
  | (refine Lq _ rfl (.tmp 43) (.tmp 44) 43 43 rfl _ _ (by rfl) (by rfl) (aP.o _ _) ?_))
 refine K1 8 (by kernel_rfl) (by kernel_rfl) ?_;simp only[KV,EX,EL,DE,Dq]
 repeat still_step
 refine K2 ?_;refine Lq _ rfl (.tmp 50) (.tmp 53) 43 43 rfl _ _ (by rfl) (by rfl) (aD.o _ _ _) ?_;go_wp2;go_ret;exact⟨_,rfl,aW.o⟩
def ZF(w:World)(E:Option Addr)(cap:Nat)(L:List Pt)(i h:Nat)(t v:Int)(H:CX w (.slice E L.length cap) L)(hi:i<=L.length)(z:L.length<1099511627776)(Y:w.heap[h]?=some (.cells #[.int .i64 t,.int .i64 v] 88 (0,0)))(O:(Value.slice E L.length cap).ownBlock≠some h):
 Calls Tryz.prog 90 #[.slice E L.length cap,.int .i64 i,.slice (some ⟨h,0,none⟩) 1 1] w λe w'=>∃lv',e=.returned lv'/\HD w w' (.slice E L.length cap) (L.take i++(t,v):: L.drop i) lv':=by
 by_cases W:i=L.length
 ·subst W;exact ZE w E cap L h t v H z Y
 ·obtain⟨_,_,he,h1,h2,h3,h4,h5⟩:=B9 H;cases he;obtain⟨g,rfl⟩:=h3 (by omega);have I:h≠g:=λe=>O (by simp[Value.ownBlock,e]);by_cases d:L.length+1<=cap
  ·exact ZC w g cap L i h t v H (by omega) d z Y I
  ·exact ZD w g cap L i h t v H (by omega) (by omega) z Y
def To{l:List Pt}{t:Int}(h:Ex l t=true):∃d:BQ l t<l.length,(l[BQ l t]'d).1=t:=by
 unfold Ex at h;by_cases d:BQ l t<l.length
 ·rw[E2 d]at h;exact⟨d,by simpa using h⟩
 ·rw[MF (by omega)]at h;cases h
def Te(l:List Pt)(t v:Int):Cs l t v=if Ex l t then l.set (BQ l t) (t,v) else l.take (BQ l t)++(t,v):: l.drop (BQ l t):=by
 rw[ZR];show _++_::(if Ex l t then _ else _)=_;by_cases h:Ex l t=true
 ·obtain⟨d,_⟩:=To h;rw[Af h,Af h,List.set_eq_take_append_cons_drop,Af d]
 ·rw[Ac h,Ac h]
def Td{l:List Pt}{t v:Int}(h:l.length<1099511627775):(Cs l t v).length<1099511627776:=by
 have:(Cs l t v).length<=l.length+1:=by
  rw[Te];split
  ·simp
  ·simp;omega
 omega
def XJ(w:World)(z E:Nat)(cs:Array Value)(T:Nat)(hT:T≠88)(L:List Pt)(lv:Value)(t v:Int)(h:Hg w z E cs T L lv)(aJ:L.length<1099511627775):
 Ah 54 #[.pointer (some (Ab z E)),.agg #[A0 t,A0 v]] w (Am (.tuple #[]) λw'=>∃lv',Ig w w' z E cs T lv (Cs L t v) lv'):=by
 have H:=A1 h;obtain⟨Y,cap,rfl,h1,h2,h3,h4,h5⟩:=B9 h.Bu;unfold maxLen at h2;have aY:=A1 h3;have aK:=Te L t v;have aM:=Jk L t;obtain⟨i,aD⟩:∃i,BQ L t=i:=⟨_,rfl⟩;obtain⟨hs,aF⟩:∃hs,Ex L t=hs:=⟨_,rfl⟩;have a1:Hid (hs=true->i<L.length):=λe=>by
  obtain⟨q,_⟩:=To (aF.trans e);rw[aD]at q;exact q
 have aX:Hid (∀W,A3 Aa w W->Ah 67 #[.pointer (some (Ab z E)),A0 t] W (Am (.tuple #[A0 i,.bool hs]) λw'=>A3 Aa W w')):=λW hW=>
  (Ox W z E L _ t (H.o.An hW).cH).mono (by rintro e w'⟨rfl,h⟩;rw[aD,aF];exact⟨rfl,h⟩)
 rw[aD,aF]at aK;rw[aD]at aM;have aP:=A1 aK;have aS:=BK w (.cells #[A0 t,A0 v] 88);have a0:=A1 aS;have hbl:=Bw h.Ag;have aR:L.length<1099511627776:=h.CQ;have iz:=Ce i;have aL:Hid (∀W,A3 Aa (w.aC #[A0 t,A0 v] 88) W->A3 Aa w W/\W.heap[w.heap.size]?=some (.cells #[A0 t,A0 v] 88 (0,0))/\Hg W z E cs T L (.slice Y L.length cap)):=λW hW=>by
  have h1:A3 Aa w W:=((A3.I _ w).aj _).tr hW;exact⟨h1,(hW.Al _ (by simp) (λh=>h)).trans a0.o,H.o.An h1⟩
 cases hs with
 | true=>
  have aO:=a1.o rfl;obtain⟨g,rfl⟩:=aY.o (by omega);have i1:(i:Int)<(L.length:Int):=by omega
  have aH:Hid (∀W n,A3 Aa (w.aC #[A0 t,A0 v] 88) W->Ig w (((W.drewN n).sC g (i*2) (A0 t)).sC g (i*2+1) (A0 v)) z E cs T (AJ g L.length cap) (Cs L t v) (AJ g L.length cap)):=by
   intro W n hW;obtain⟨k1,k2,d⟩:=aL.o W hW;have s1:=((Ay d.Bu (w':=W.drewN n) λ_ _=>rfl).stored (i*2) (A0 t)).1;have s2:=(s1.stored (i*2+1) (A0 v)).1;have e:=XT L i (t,v) aO;simp only at e;rw[e]at s2;obtain⟨ce,aN⟩:=Bd d.Bu (g:=g) rfl;(have aA:z≠g:=λe=>by subst e;rw[d.Ag]at aN;cases aN;exact hT rfl);have O:Cs L t v=L.set i (t,v):=aP.o;have aE:cs.setIfInBounds E (AJ g L.length cap)=cs:=by
    obtain⟨aG,he⟩:=A3o.1 H.o.Cy;apply Array.ext_getElem?;intro k;by_cases hk:E=k
    ·subst hk;simp[aG,he]
    ·rw[A3n hk]
   refine⟨⟨?_,by rw[aE];exact H.o.Cy,?_,KB H.o.FD t v,Td aJ⟩,?_,λg hg=>.inl hg⟩
   ·rw[aE,GN _ _ _ _ aA,GN _ _ _ _ aA];exact d.Ag
   ·rw[O];unfold CX;rw[IZ];exact s2
   ·exact(((k1.bb n).ad (S':=λk=>k=z\/(AJ g L.length cap).oB k) (λ_ _ h=>h.elim)).aq (b:=g) (.inr rfl) (i*2) _).aq (b:=g) (.inr rfl) (i*2+1) _
  go_enter func54,ntmps54
  go_wp2_with (fail);refine(aX.o _ ((A3.I _ w).aj _)).mono ?_;rintro e w1⟨rfl,k1⟩;have aQ:=A1 k1;obtain⟨k2,d,k4⟩:=aL.o w1 k1;have c0:=k4.cH.DW;have p0:w1.cell? (Ab w.heap.size 0)=some (A0 t):=by simp[World.cell?,d]
  have p1:w1.cell? (Ab w.heap.size 1)=some (A0 v):=by simp[World.cell?,d]
  obtain⟨o0,o1⟩:=k4.Bu.bw i aO;have z0:=G1 k4.Bu (g:=g) rfl (i*2);have z1:=G1 k4.Bu (g:=g) rfl (i*2+1);go_wp2;refine K1 7 (by kernel_rfl) (by kernel_rfl) ?_;simp only[KV,EX,EL,DE,Dq]
  repeat still_step
  refine K2 ?_;go_wp2;refine Mh (QP rfl _ _ _) rfl ?_;exact⟨rfl,_,aH.o w1 1 aQ.o⟩
 | false=>
  have aW:Hid (∀W,A3 Aa (w.aC #[A0 t,A0 v] 88) W->Ah 90 #[.slice Y L.length cap,A0 i,AJ W.heap.size 1 1] (W.aC #[A0 t,A0 v] 88) λe w'=>∃lv',e=.returned lv'/\HD (W.aC #[A0 t,A0 v] 88) w' (.slice Y L.length cap) (L.take i++(t,v):: L.drop i) lv'):=λW hW=>by
   obtain⟨k1,k2,d⟩:=aL.o W hW;exact ZF _ Y cap L i W.heap.size t v (Ay d.Bu λg hg=>D8 _ _ _ (Az d.Bu hg)) aM aR (BK W _) (λe=>by have:=Az d.Bu e;omega)
  have aH:Hid (∀W I lv',A3 Aa (w.aC #[A0 t,A0 v] 88) W->HD (W.aC #[A0 t,A0 v] 88) I (.slice Y L.length cap) (L.take i++(t,v):: L.drop i) lv'->
   (I.cell? (Ab z E)=some (.slice Y L.length cap)/\I.cell? (Ab w.heap.size 0)=some (A0 t)/\I.cell? (Ab w.heap.size 1)=some (A0 v))/\I.frozen? (Ab z E)=false/\Ig w (I.sC z E lv') z E cs T (.slice Y L.length cap) (Cs L t v) lv'/\∃a c,lv'=.slice a (L.length+1) c):=by
   intro W I lv' hW hI;obtain⟨k1,k2,d⟩:=aL.o W hW;have aT:(Value.slice Y L.length cap).ownBlock≠some z:=λe=>by
    obtain⟨c,hh⟩:=Bd d.Bu e;rw[d.Ag]at hh;cases hh;exact hT rfl
   have aU:(Value.slice Y L.length cap).ownBlock≠some w.heap.size:=λe=>by
    have:=Az H.o.Bu e;omega
   have aB:I.heap[z]?=some (.cells cs T (0,0)):=(hI.An.Al z (by have:=Bw d.Ag;simp;omega) aT).trans ((D8 _ _ _ (Bw d.Ag)).trans d.Ag);have aI:I.heap[w.heap.size]?=some (.cells #[A0 t,A0 v] 88 (0,0)):=(hI.An.Al _ (by have:=Bw k2;simp;omega) aU).trans ((D8 _ _ _ (Bw k2)).trans k2);(have aV:(L.take i++(t,v):: L.drop i).length=L.length+1:=by simp;omega);(have O:Cs L t v=L.take i++(t,v):: L.drop i:=by have:=aP.o;simpa using this);refine⟨⟨by simp[World.cell?,aB,H.o.Cy],by simp[World.cell?,aI],by simp[World.cell?,aI]⟩,by simp[World.frozen?,aB],⟨⟨CH aB,?_,?_,KB H.o.FD t v,Td aJ⟩,?_,?_⟩,?_⟩
   ·have aG:E<cs.size:=(A3o.1 H.o.Cy).1;simp[aG]
   ·rw[O];refine Ay hI.Bu λg hg=>?_;have aA:g≠z:=λe=>by
     obtain⟨c,hh⟩:=Bd hI.Bu hg;subst e;rw[aB]at hh;cases hh;exact hT rfl
    exact GN _ _ _ _ (λe=>aA (by simpa using e))
   ·have c1:A3 (λk=>k=z\/(Value.slice Y L.length cap).oB k) w I:=((k1.aj (.cells #[A0 t,A0 v] 88)).ad (λ_ _ h=>h.elim)).Av hI.An (λx hx _=>.inr hx);exact c1.aq (.inl rfl) E _
   ·intro g hg;rcases hI.AF g hg with h|h
    ·exact .inl h
    ·right;have:=k1.Ak;simp at h;omega
   ·obtain⟨a,c,e,_⟩:=B9 hI.Bu;rw[aV]at e;exact⟨a,c,e⟩
  go_enter func54,ntmps54
  go_wp2_with (fail);refine(aX.o _ ((A3.I _ w).aj _)).mono ?_;rintro e w1⟨rfl,k1⟩;have aQ:=A1 k1;obtain⟨k2,d,k4⟩:=aL.o w1 k1;have c0:=k4.cH.DW;have p0:w1.cell? (Ab w.heap.size 0)=some (A0 t):=by simp[World.cell?,d]
  have p1:w1.cell? (Ab w.heap.size 1)=some (A0 v):=by simp[World.cell?,d]
  go_wp2;refine FA (λw'=>w'.cell? (Ab z E)=some (.slice Y L.length cap)/\w'.cell? (Ab w.heap.size 0)=some (A0 t)/\w'.cell? (Ab w.heap.size 1)=some (A0 v)) 9
   (Bz [0,1,2,3,4,5,6,7,8] [7,8]) (by kernel_rfl) (by kernel_rfl) (λ_ _ _ _ _ h=>h) ⟨c0,p0,p1⟩ ?_
  iterate 7 (refine E8 (v:=?_) rfl (by rfl) ?_ ?_;rotate_left;(· (intro w' hS;(try dsimp only at hS);go_simp;try with_reducible rfl));(try simp only[Ao]))
  refine DY rfl (by rfl) (λK hK=>?_);go_simp;refine hK _ _ ?_ (λhS=>?_)
  ·simp[World.cell?_alloc_some,c0,p0,p1]
  (try simp only[Ao])
  refine DY rfl (by rfl) (λK hK=>?_);go_simp;refine(aW.o w1.drew aQ.o.af).mono ?_;rintro e I⟨lv',rfl,hI⟩;obtain⟨f1,f2,f3,a3,d3,rfl⟩:=aH.o w1.drew I lv' aQ.o.af hI;have aZ:=A1 f3;refine hK _ _ f1 (λhS=>?_);obtain⟨f1,-,-⟩:=f1
  (try simp only[Ao])
  refine Bo ?_;simp only[DE,Dq];go_wp2;go_end0;exact⟨rfl,_,aZ.o⟩
end
end Go.Proofs.YtodcnkbblippnabGreatDoor
