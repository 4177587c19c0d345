/- Part 14 of a proof: walks of the program. -/
import Derived.Lib.AppendZeros
import Derived.Lib.Overlaps
import Derived.Lib.SliceRun
import Derived.Test.YtodcnkbblippnaaGreatDoorPart13
namespace Go.Proofs.YtodcnkbblippnaaGreatDoor
set_option maxRecDepth 100000
set_option maxHeartbeats 32000000
set_option linter.defProp false
open Go.Proofs.Tryz
section
open Go.RowKit
def HH(n:DN):(bg n).2.2.AH=n.AH:=by
 unfold bg;dsimp only
 split
 ·rfl
 ·split
  ·rfl
  ·split<;>rfl
def Nt{F G:Nat->FC}:∀ {es:List AL},(∀e∈es,(G e.2).1.length=(F e.2).1.length)->B4 G es=B4 F es
 | [],_=>rfl
 | e::r,h=>by
  simp only[B4];rw[h e (BF ..),Nt λx d=>h x (Bx _ d)]
section
variable {P P':PD} {A:Ar} {J:Jn} {nm:Bs}
def Qn(d:Extra P nm P'):B4 P'.F P'.D.A4<=B4 P.F P.D.A4+(P'.F P.D.AS).1.length:=by
 have old:B4 P'.F P.D.A4=B4 P.F P.D.A4:=Nt λe z=>by
  rw[d.Eg _ λh=>P.D.cB (h ▸ .inl ⟨e,z,rfl⟩)]
 rcases d.Hl with⟨d1,_⟩|⟨_,d1,_⟩
 ·rw[d1,old];omega
 ·rw[d1,Kw,old];simp[B4]
def Qm(P:PD)(x:ByteArray):B4 (P.ae x).2.F (P.ae x).2.D.A4=B4 P.F P.D.A4:=by
 unfold PD.ae CA;split
 ·rfl
 ·dsimp only
  refine Nt λe _=>?_;split
  ·unfold upd;split
   ·rename_i h;rw[h]
   ·rfl
  ·rfl
def Ql:∀(l:List Bs) (P:PD),B4 (PD.ax l P).2.F (PD.ax l P).2.D.A4=B4 P.F P.D.A4
 | [],_=>rfl
 | nm::r,P=>by
  unfold PD.ax;split
  ·exact Qm P _
  ·rw[Ql r,Qm]
def VY(A:Ar)(P:PD):B4 (A.C P).2.2.F (A.C P).2.2.D.A4=B4 P.F P.D.A4:=by
 unfold Ar.C;split<;>exact Ql _ P
def LX(P:PD)(x:ByteArray):(P.ae x).2.D.n.AH=P.D.n.AH:=by
 unfold PD.ae CA;split
 ·rfl
 ·exact HH _
def R8:∀(l:List Bs) (P:PD),(PD.ax l P).2.D.n.AH=P.D.n.AH
 | [],_=>rfl
 | nm::r,P=>by
  unfold PD.ax;split
  ·exact LX P _
  ·rw[R8 r,LX]
def IM(A:Ar)(P:PD):(A.C P).2.2.D.n.AH=P.D.n.AH:=by
 unfold Ar.C;split<;>exact R8 _ P
def IN(P:PD)(x:ByteArray):(P.ai x).2.D.n.AH=P.D.n.AH:=by
 unfold PD.ai CM;split
 ·rfl
 ·dsimp only
  split<;>exact HH _
def Rc(P:PD)(x:ByteArray)(l:Bs):(P.an x l).2.D.n.AH=P.D.n.AH:=by
 have d:∀D F f y h e,(BA D F f y h e).2.1.n.AH=D.n.AH:=λD F f y h e=>by
  unfold BA;split
  ·dsimp only;split<;>rfl
  ·rfl
 unfold PD.an Bp;split
 ·rfl
 ·dsimp only
  split
  ·rw[d];exact HH _
  ·split
   ·rw[d];exact HH _
   ·exact HH _
def NR(J:Jn)(P:PD):(J.au P).2.2.D.n.AH=P.D.n.AH:=by
 unfold Jn.au;split
 ·exact IN P _
 ·dsimp only
  have h:((P.ai (A8 (Ae (J.A9+1)))).2.ad (A8 (Ae (J.A9+1))) (AE (Ae (J.A9+1))) (AQ J.puts)).2.2.D.n.AH=P.D.n.AH:=(Rc _ _ _).trans (IN P _);split<;>exact h
def Po{x:ByteArray}{l:Bs}(h:(P.an x l).1=6):P.D.n.AH-B4 P.F P.D.A4<l.length:=by
 have L:=Gh P.D.n;have d:∀D z,∀e:Int,e=0\/e=5->(BA D P.F 0 (A8 l) z e).1=6->e=0/\z>FU D P.F:=λD z e he h=>by
  unfold BA at h;split at h
  ·rename_i E;dsimp only at h;split at h
   ·rename_i W;exact⟨W,E⟩
   ·omega
  ·dsimp only at h;omega
 have O:∀D f z e,(BA D P.F f (A8 l) z e).1=(BA D P.F 0 (A8 l) z e).1:=λD f z e=>by unfold BA;split<;>rfl
 have I:((A8 l).size:Int)=l.length:=by rw[KL]
 unfold PD.an Bp at h;split at h
 ·cases h
 ·rename_i f hf;dsimp only at h;split at h
  ·rw[O]at h;obtain⟨_,E⟩:=d _ _ _ L h;unfold FU at E;dsimp only at E;rw[HH,I]at E;omega
  ·rename_i H;split at h
   ·rw[O]at h;obtain⟨X,_⟩:=d _ _ _ L h;exact absurd (GL X) H
   ·omega
def TY(P:PD)(x:ByteArray):(P.ai x).1≠6:=by
 have:=Gh P.D.n;unfold PD.ai CM;split
 ·simp
 ·dsimp only;omega
def A2k(h:(J.au P).1=6):P.D.n.AH-B4 P.F P.D.A4<12:=by
 obtain⟨d,e2⟩:=K0 P (Ae (J.A9+1));have z:(P.ai (A8 (Ae (J.A9+1)))).2.F P.D.AS=([],0):=by unfold PD.ai;simp[upd]
 have hu:=Qn d;rw[z]at hu;unfold Jn.au at h;split at h
 ·exact absurd h (TY P _)
 ·dsimp only at h;split at h
  ·have:=Po (P:=(P.ai (A8 (Ae (J.A9+1)))).2) (x:=A8 (Ae (J.A9+1))) (l:=AR (AE (Ae (J.A9+1))) (AQ J.puts)) h;rw[Ez,CL,IN]at this;simp only[IC]at hu;omega
  ·cases h
def RR{p:Pu}(h:(J.av P p).2.1=6):P.D.n.AH-B4 P.F P.D.A4<21:=by
 unfold Jn.av at h;split at h
 ·cases h
 ·rename_i n s _;have:=Po (P:=P) (x:=A8 (Ae n)) (l:=AR s (Bc p.1 p.2.1 p.2.2)) h;rw[Ez,EW]at this;omega
def ZW{p:Pu}(h:(J.ad P p).2.1=6):P.D.n.AH-B4 P.F P.D.A4<33:=by
 unfold Jn.ad at h;split at h
 ·split at h
  ·have:=A2k h;omega
  ·have z:=RR h;obtain⟨d,⟨j,E⟩,_⟩:=MF P J;have hu:=Qn d;rw[E]at hu;dsimp only at hu;rw[BU,Ez,CL]at hu;rw[NR]at z;omega
 ·have:=RR h;omega
def A2B{p:Pu}(h:(A.ad P p).2.1=6):P.D.n.AH-B4 P.F P.D.A4<200:=by
 unfold Ar.ad at h;split at h
 ·exact absurd h (NH A P)
 ·have:=ZW h;rw[IM,VY]at this;omega
end
end
section
open Go.RowKit
attribute [local go_sem ↓] Go.wp_at_zero Go.wp_at_succ
def Gt(d a b h A6:Int)(p:Pu):Bool:=decide (p.1=d)&&decide (a<=p.2.1)&&decide (p.2.1<=b)&&It p.2.1 h A6
def Fh(d a b h A6:Int)(l:List Pt)(p:Pu):List Pt:=if Gt d a b h A6 p then CU l p.2.1 p.2.2 else l
def refQ(puts:List Pu)(d a b h A6:Int):List Pt:=puts.foldl (Fh d a b h A6) []
def OH(l:List Pt)(t v:Int):l.length<=(CU l t v).length/\(CU l t v).length<=l.length+1:=by
 induction l with
 | nil=>simp[CU]
 | cons e r ih=>
  obtain⟨a,b⟩:=e;simp only[CU];split
  ·simp only[Cv];omega
  ·split<;>simp only[Cv]<;>omega
def XP(puts:List Pu)(k:Nat)(z:k<puts.length)(d a b h A6:Int):refQ (puts.take (k+1)) d a b h A6=Fh d a b h A6 (refQ (puts.take k) d a b h A6) (puts[k]'z):=by
 unfold refQ;rw[Dn z,N4];rfl
def Ry(puts:List Pu)(d a b h A6:Int)(k:Nat)(hk:k<=puts.length):Dv (refQ (puts.take k) d a b h A6)/\(refQ (puts.take k) d a b h A6).length<=k:=by
 induction k with
 | zero=>simp[refQ,Dv]
 | succ k ih=>
  obtain⟨z,h2⟩:=ih (by omega);rw[XP puts k (by omega)];unfold Fh;split
  ·have:=(OH (refQ (puts.take k) d a b h A6) (puts[k]'(by omega)).2.1 (puts[k]'(by omega)).2.2).2;exact⟨L1 z _ _,by omega⟩
  ·exact⟨z,by omega⟩
end
section
open Go.RowKit
def A0u{l:List Pt}(h:Dv l)(t v:Int)(x:Pt):x∈CU l t v↔x=(t,v)\/(x∈l/\x.1≠t):=by
 induction l with
 | nil=>simp[CU]
 | cons e r ih=>
  obtain⟨a,b⟩:=e;have z:=Db.1 h;have E:=ih z.2;simp only[CU];by_cases H:a<t
  ·rw[Ah H];simp only[BR,E];constructor
   ·rintro (rfl|h|⟨h,d⟩)
    ·exact .inr ⟨.inl rfl,by simp only;omega⟩
    ·exact .inl h
    ·exact .inr ⟨.inr h,d⟩
   ·rintro (h|⟨h|h,d⟩)
    ·exact .inr (.inl h)
    ·exact .inl h
    ·exact .inr (.inr ⟨h,d⟩)
  ·rw[Ad H];by_cases d:a=t
   ·subst d;rw[Ah rfl];simp only[BR];constructor
    ·rintro (h|h)
     ·exact .inl h
     ·exact .inr ⟨.inr h,λe=>by have:=z.1 x h;simp only at this;omega⟩
    ·rintro (h|⟨h|h,d⟩)
     ·exact .inl h
     ·subst h;exact absurd rfl d
     ·exact .inr h
   ·rw[Ad d];simp only[BR];constructor
    ·rintro (h|h|h)
     ·exact .inl h
     ·subst h;exact .inr ⟨.inl rfl,d⟩
     ·exact .inr ⟨.inr h,λe=>by have:=z.1 x h;simp only at this;omega⟩
    ·rintro (h|⟨h|h,_⟩)
     ·exact .inl h
     ·exact .inr (.inl h)
     ·exact .inr (.inr h)
def XQ(l:List Pu)(p:Pu)(k a b d A6:Int):refQ (l++[p]) k a b d A6=Fh k a b d A6 (refQ l k a b d A6) p:=by unfold refQ;rw[N4];rfl
def NZ(l:List Pu)(k a b d A6:Int):Dv (refQ l k a b d A6):=by
 have:=(Ry l k a b d A6 l.length (As _)).1
 rwa [C6]at this
def Rz(k a b d A6:Int)(x:Pt):∀n (l:List Pu),l.length=n->(x∈refQ l k a b d A6↔(a<=x.1/\x.1<=b/\It x.1 d A6=true)/\BD l k x.1=some x.2):=by
 intro n
 induction n with
 | zero=>
  intro l O;obtain rfl:l=[]:=GR.1 O;simp[refQ,BD]
 | succ n ih=>
  intro l O;have I:l≠[]:=λh=>by subst h;simp at O
  obtain⟨p,hp⟩:∃p,l=l.dropLast++[p]:=⟨l.getLast I,(N8 I).symm⟩;have X:l.dropLast.length=n:=by rw[Vh,O];rfl
  have z:=ih l.dropLast X;rw[hp,XQ,Ib];generalize l.dropLast=m at z;unfold Fh;by_cases H:Gt k a b d A6 p=true
  ·rw[Ah H,A0u (NZ _ _ _ _ _ _),z];unfold Gt at H;simp only[FH,DG]at H;obtain⟨⟨⟨Y,q2⟩,q3⟩,q4⟩:=H;by_cases E:p.2.1=x.1
   ·rw[Ah ⟨Y,E⟩];constructor
    ·rintro (h|⟨_,h⟩)
     ·subst h;exact⟨⟨q2,q3,q4⟩,rfl⟩
     ·exact absurd E.symm h
    ·rintro⟨_,h⟩;refine .inl ?_;(have:p.2.2=x.2:=by simpa using h);rw[E,this]
   ·rw[Ad λh=>E h.2];constructor
    ·rintro (h|⟨h,_⟩)
     ·subst h;exact absurd rfl E
     ·exact h
    ·intro h;exact .inr ⟨h,λe=>E e.symm⟩
  ·rw[Ad H,z];by_cases L:p.1=k/\p.2.1=x.1
   ·rw[Ah L]
    have W:¬(a<=x.1/\x.1<=b/\It x.1 d A6=true):=λh=>H (by
     unfold Gt;rw[L.1,L.2];simp only[P6,Nh,FH,DG]
     exact⟨⟨h.1,h.2.1⟩,h.2.2⟩)
    simp only[W,false_and]
   ·rw[Ad L]
def QR:∀ {l l':List Pt},Dv l->Dv l'->(∀x,x∈l↔x∈l')->l=l'
 | [],[],_,_,_=>rfl
 | [],y::r,_,_,h=>by have:=(h y).2 (BF ..);cases this
 | x::r,[],_,_,h=>by have:=(h x).1 (BF ..);cases this
 | x::r,y::s,h1,h2,h=>by
  have E:=Db.1 h1;have d:=Db.1 h2;have I:x=y:=by
   rcases BR.1 ((h x).1 (BF ..)) with e|e
   ·exact e
   ·rcases BR.1 ((h y).2 (BF ..)) with L|L
    ·exact L.symm
    ·have a:=d.1 x e;have b:=E.1 y L;omega
  subst I
  congr 1
  refine QR E.2 d.2 λz=>⟨λH=>?_,λH=>?_⟩
  ·rcases BR.1 ((h z).1 (Bx _ H)) with e|e
   ·subst e;have:=E.1 z H;omega
   ·exact e
  ·rcases BR.1 ((h z).2 (Bx _ H)) with e|e
   ·subst e;have:=d.1 z H;omega
   ·exact e
def XR{l l':List Pu}{k a b d A6:Int}(h:∀t,a<=t->t<=b->It t d A6=true->BD l k t=BD l' k t):refQ l k a b d A6=refQ l' k a b d A6:=by
 refine QR (NZ _ _ _ _ _ _) (NZ _ _ _ _ _ _) λx=>?_;rw[Rz k a b d A6 x _ l rfl,Rz k a b d A6 x _ l' rfl];constructor
 ·rintro⟨z,E⟩;exact⟨z,by rw[<-h x.1 z.1 z.2.1 z.2.2];exact E⟩
 ·rintro⟨z,E⟩;exact⟨z,by rw[h x.1 z.1 z.2.1 z.2.2];exact E⟩

end
section
open Go.RowKit
attribute [local go_sem ↓] Go.wp_at_zero Go.wp_at_succ

end
section
open Go.RowKit
def KX(w:World)(x:Int):Ag 63 #[A0 x] w (Al (.bool (decide (0<=x/\x<8))) λw'=>w=w'):=by
 obtain⟨q,d⟩:∃q,decide (0<=x/\x<8)=q:=⟨_,rfl⟩;rw[d];have h:=A1 d;by_cases h1:0<=x<;>by_cases h2:x<8
 all_goals try (exfalso;omega)
 all_goals
  go_enter func63,ntmps63
  go_wp2;go_ret;refine⟨?_,rfl⟩;rw[<-h.o];simp
  try omega
def Tk(w:World)(x:Int):Ag 58 #[A0 x] w (Al (.bool (decide (1<=x/\x<=4611686018427387904))) λw'=>w=w'):=by
 obtain⟨q,d⟩:∃q,decide (1<=x/\x<=4611686018427387904)=q:=⟨_,rfl⟩;rw[d];have h:=A1 d;by_cases h1:1<=x<;>by_cases h2:x<=4611686018427387904
 all_goals try (exfalso;omega)
 all_goals
  go_enter func58,ntmps58
  go_wp2;go_ret;refine⟨?_,rfl⟩;rw[<-h.o];simp
  try omega
def Ba(A6 d:Int):Int:=if A6 < -9223372036854775808+d then -9223372036854775808 else A6-d+1
def YQ(A6 d t:Int)(h:AN t):decide (Ba A6 d<=t)=It t d A6:=by
 obtain⟨t1,t2⟩:=h;unfold Ba It;split<;>simp<;>omega
def M8(w:World)(z:Nat)(A6 d:Int)(c3:A7 w z 3 (A0 d))(c4:A7 w z 5 (A0 A6))(L:1<=d/\d<=4611686018427387904)(O:AN A6):
 Ag 71 #[A5 z] w (Al (A0 (Ba A6 d)) λw'=>A3 Ab w w'):=by
 obtain⟨l1,l2⟩:=L;obtain⟨k1,k2⟩:=O;have ew:IntKind.i64.wrap (-9223372036854775808+d) = -9223372036854775808+d:=by simp[IntKind.wrap,IntKind.bits,IntKind.signed];omega
 go_enter func71,ntmps71
 go_wp2;refine FJ (λw'=>A7 w' z 3 (A0 d)/\A7 w' z 5 (A0 A6)) 9
  (Bq [0,1,2,3,4,5,6,7,8] []) (by kernel_rfl) (by kernel_rfl) (λ_ _ _ _ _ h=>h) ⟨c3,c4⟩ ?_
 iterate 9 (refine E8 (v:=?_) rfl (by rfl) ?_ ?_;rotate_left;(· (intro w' I;(try dsimp only at I);go_simp;try with_reducible rfl));(try simp only[An]))
 refine Bl ?_;simp only[DE,Dp];have d3:A7 w.drew z 3 (A0 d):=c3;have d4:A7 w.drew z 5 (A0 A6):=c4;have H:Hid (A3 Ab w w.drew):=(A3.I _ w).af;generalize w.drew=w1 at d3 d4 H ⊢;by_cases h:A6 < -9223372036854775808+d
 ·have E:Hid (Ba A6 d = -9223372036854775808):=by unfold Hid Ba;rw[Ah h]
  go_wp2;go_ret;rw[E.o];exact⟨rfl,H.o⟩
 ·have E:Hid (Ba A6 d=A6-d+1):=by unfold Hid Ba;rw[Ad h]
  have ew2:IntKind.i64.wrap (A6-d)=A6-d:=by simp[IntKind.wrap,IntKind.bits,IntKind.signed];omega
  have ew3:IntKind.i64.wrap (A6-d+1)=A6-d+1:=by simp[IntKind.wrap,IntKind.bits,IntKind.signed];omega
  go_wp2;refine FJ (λw'=>A7 w' z 3 (A0 d)/\A7 w' z 5 (A0 A6)) 10
   (Bq [0,1,2,3,4,5,6,7,8,9] []) (by kernel_rfl) (by kernel_rfl) (λ_ _ _ _ _ h=>h) ⟨d3,d4⟩ ?_
  iterate 10 (refine E8 (v:=?_) rfl (by rfl) ?_ ?_;rotate_left;(· (intro w' I;(try dsimp only at I);go_simp;try with_reducible rfl));(try simp only[An]))
  refine Bl ?_;simp only[DE,Dp];go_wp2;go_ret;rw[E.o];exact⟨rfl,H.o.af⟩
section
variable {P:Program}
def LW(w:World)(dT sT ty elem:TypeId)(i:TypeInfo)(size:Nat)(g o E L:Nat)(a:Addr)(h H k:Nat)(d:Array Value)(t:TypeId)(z:List Value)(hu:P.underlying dT=some (.slice elem))(hi:P.info? elem=some i)(I:i.size=size)(hg:w.heap[g]?=some (.cells d t (0,0)))(hn:Nat.min h E=k)(Y:z.length=k*size)(X:∀j v,z[j]?=some v->w.cell? (a.add j)=some v)(W:o+z.length<=d.size)(h1:∀v∈z,v.oneCell'=true):
 (Builtin.copy_ #[dT,sT] ty #[.slice (some (Aa g o)) E L,.slice (some a) h H]).run P w =
  .ok (goInt k) (w.setRow g (d.toList.take o++z++d.toList.drop (o+z.length)).toArray):=by
 subst I;have hf:=R5 (P:=P) w i.size k a h H z Y X;have O:=run_storeCells_at P g o t z 0 d w hg (by simpa using W) h1;simp only[PH]at O;simp[Builtin.copy_,run_underlying hu,Builtin.lenOf,sizeOf,typeInfo,hi,hn,hf,O]
def Xh(w:World)(t tn ty e:TypeId)(i:TypeInfo)(z:Value)(kn:IntKind)(ht:P.underlying t=some (.slice e))(X:P.underlying tn=some (.int kn))(hi:P.info? e=some i)(hz:i.zero=some z)(hs0:0<i.size)(h:Option Addr)(len cap:Nat)(d:List Value)(O:(Builtin.firstCells i.size len (.slice h len cap)).run P w.drew=.ok d.toArray w.drew)(n:Nat)(h0:0<n)(hgrow:cap<len+n)(h63:((len+n:Nat):Int)<=9223372036854775807)(h48:n*i.bytes<=281474976710656)(hcap:Builtin.nextslicecap (len+n) cap*i.bytes<=281474976710656):
 (Builtin.append_ #[t,tn] ty #[.slice h len cap,.int .i64 n]).run P w =
  .ok (.slice (some ⟨w.heap.size,0,none⟩) (len+n) (grownCap w (len+n) cap e)) (w.drew.alloc (.cells (d.toArray++Builtin.zeroCells z.cells n++Builtin.zeroCells z.cells (grownCap w (len+n) cap e-(len+n))) e)):=by
 have hw:IntKind.i64.wrap (n:Int)=n:=by rw[Jr];omega
 have W:¬((n:Int)<0):=by omega
 have L:¬(281474976710656<(n:Int)*(i.bytes:Int)):=by rw[<-Int.natCast_mul];omega
 have Y:¬(n*i.size=0):=Nat.mul_ne_zero (by omega) (by omega);have E:¬(len+n<=cap):=by omega
 have H:¬(281474976710656<Builtin.nextslicecap (len+n) cap*i.bytes):=by omega
 have I:¬(9223372036854775807<(len:Int)+(n:Int)):=by omega
 simp[Builtin.append_,run_underlying ht,run_underlying X,sizeOf,typeInfo,zeroValue,hi,hz,asInt,asIntOf,hw,W,Y,L,E,H,I,Question.forced,O,newRow,grownCap]
def S4{w:World}{z e size n g cap:Nat}{xs:List Value}(h:w.ownsRow z e size (.slice (some ⟨g,0,none⟩) n cap) n xs):∃d:Array Value,w.heap[g]?=some (.cells d e (0,0))/\d.size=cap*size/\d.toList.take (n*size)=xs/\n<=cap/\cap<=maxLen:=by
 rcases h.2 with⟨H,_⟩|⟨g',cap',d,H,_,W,I,E,L,O⟩
 ·cases H
 ·cases H;exact⟨d,W,L,O,I,E⟩
end
end
section
open Go.RowKit
attribute [local go_sem ↓] Go.wp_at_zero Go.wp_at_succ
def Gf(x y:Int):Int:=if x<y then -1 else if y<x then 1 else 0
def A1F(x y:Int)(w:World):Ag 130 #[A0 x,A0 y] w (Al (A0 (Gf x y)) λw'=>w=w'):=by
 by_cases h:x<y
 ·have q:Hid (Gf x y = -1):=by unfold Hid Gf;rw[Ah h]
  go_enter func130,ntmps130
  go_wp2;go_ret;rw[q.o];exact⟨rfl,rfl⟩
 ·by_cases d:y<x
  ·(have q:Hid (Gf x y=1):=by unfold Hid Gf;rw[Ad h,Ah d])
   go_enter func130,ntmps130
   go_wp2;go_ret;rw[q.o];exact⟨rfl,rfl⟩
  ·(obtain rfl:x=y:=by omega);(have q:Hid (Gf x x=0):=by unfold Hid Gf;rw[Ad h,Ad d])
   go_enter func130,ntmps130
   go_wp2;go_ret;rw[q.o];exact⟨rfl,rfl⟩
def Pc(t v y:Int)(w:World):Ag 163 #[.agg #[A0 t,A0 v],A0 y] w (Al (A0 (Gf t y)) λw'=>A3 Ab w w'):=by
 go_enter func163,ntmps163
 go_wp2_with (go_at_call 130;refine(A1F _ _ _).mono ?_;rintro e w'⟨rfl,rfl⟩);go_ret;exact⟨rfl,(A3.I _ w).ak _⟩
def EC(l:List Pt)(t:Int):Bool:=(l[BG l t]?).any λx=>x.1==t
def Xe(w:World)(lv:Value)(L:List Pt)(t:Int)(hL:Dm w lv L)(hs:Dv L)(hl:L.length<1099511627776):
 Ag 162 #[lv,A0 t,.func (.func 163) #[] #[]] w (Al (.tuple #[A0 (BG L t),.bool (EC L t)]) λw'=>A3 Ab w w'):=by
 obtain⟨a,cap,rfl,h1,h2,h3,_,_⟩:=B8 hL;unfold maxLen at h2;have aJ:=A1 hL;have aL:=A1 hs;have aK:=A1 h3;have aD:=IT L t;have aI:Hid (∀W,A3 Ab w W->∀k (hk:k<L.length),∃g,a=some (Aa g 0)/\A7 W g (k*2) (A0 (L[k]'hk).1)/\A7 W g (k*2+1) (A0 (L[k]'hk).2)):=by
  intro W hc k hk;obtain⟨g,rfl⟩:=aK.o (by omega);have hW:Dm W (AJ g L.length cap) L:=Ay aJ.o λg hg=>hc.Ao g (AB aJ.o hg) (λh=>h);exact⟨g,rfl,hW.bz k hk⟩
 go_enter func162,ntmps162
 go_wp2;go_loopw [9,10] (λiv jv wq=>∃i j:Nat,i<=j/\j<=L.length/\iv=A0 i/\jv=A0 j/\Hid (i<=BG L t/\BG L t<=j)/\Hid (A3 Ab w wq)) (λiv jv _=>(intOf jv).toNat-(intOf iv).toNat)
 case atStart=>exact⟨0,L.length,Cf _,As _,rfl,rfl,⟨Cf _,aD⟩,A3.I _ _⟩
 case round=>
  obtain⟨i,j,hij,hj,rfl,rfl,E,d⟩:=hrel;by_cases hlt:i<j
  ·obtain⟨m,hm⟩:∃m,(i+j)/2=m:=⟨_,rfl⟩;(have aG:i<=m:=by omega);(have hmj:m<j:=by omega);(have I:m<L.length:=by omega);obtain⟨g,rfl,c1,c2⟩:=aI.o _ d.o m I;obtain⟨⟨tm,vm⟩,aB⟩:∃x,L[m]'I=x:=⟨_,rfl⟩;rw[aB]at c1 c2;have aA:=A1 aB;have i0:=C3 i;(have hsum:(i:Int)+(j:Int)<=9223372036854775807:=by omega);(have hlt':(i:Int)<(j:Int):=by omega);by_cases aE:tm<t
   ·(have hc:Gf tm t<0:=by unfold Gf;rw[Ah aE];omega);have hp:Hid (m+1<=BG L t):=by
     unfold Hid;apply Q1;intro hn;have:=KG aL.o (show BG L t<=m by omega) I;rw[aA.o]at this;simp only at this;omega
    go_wp2_with (go_at_call 163;refine(Pc _ _ _ _).mono ?_;rintro e w'⟨rfl,z⟩;have H:=A1 z);go_roundw
    case rel=>exact⟨m+1,j,by omega,hj,by rw[show ((i:Int)+(j:Int))/2+1=((m+1:Nat):Int) from by omega],rfl,⟨hp.o,E.o.2⟩,d.o.tr H.o⟩
    case measure=>simp[intOf];omega
   ·have hc:0<=Gf tm t:=by
     unfold Gf;rw[Ad aE];split<;>omega
    have hp:Hid (BG L t<=m):=by
     unfold Hid;apply Q1;intro hn;have:=JI (show m<BG L t by omega) I;rw[aA.o]at this;simp only at this;omega
    go_wp2_with (go_at_call 163;refine(Pc _ _ _ _).mono ?_;rintro e w'⟨rfl,z⟩;have H:=A1 z);go_roundw
    case rel=>exact⟨i,m,aG,by omega,rfl,by rw[show ((i:Int)+(j:Int))/2=(m:Int) from by omega],⟨E.o.1,hp.o⟩,d.o.tr H.o⟩
    case measure=>simp[intOf];omega
  ·(obtain rfl:i=j:=by omega);(have aF:Hid (BG L t=i):=by have:=E.o;unfold Hid;omega);by_cases O:i<L.length
   ·obtain⟨g,rfl,c1,c2⟩:=aI.o _ d.o i O;obtain⟨⟨X,vi⟩,Y⟩:∃x,L[i]'O=x:=⟨_,rfl⟩;rw[Y]at c1 c2;have i0:=C3 i;(have i1:(i:Int)<(L.length:Int):=by omega);have aH:Hid (EC L t=(Gf X t==0)):=by
     unfold Hid EC;rw[aF.o,E2 O,Y];simp only[Option.any_some];unfold Gf;by_cases e1:X<t
     ·rw[Ah e1];have:X≠t:=by omega
      simp[this]
     ·rw[Ad e1];by_cases e2:t<X
      ·rw[Ah e2];have:X≠t:=by omega
       simp[this]
      ·rw[Ad e2];have:X=t:=by omega
       simp[this]
    go_wp2_with (go_at_call 163;refine(Pc _ _ _ _).mono ?_;rintro e w'⟨rfl,z⟩;have H:=A1 z);go_ret2;rw[aF.o,aH.o];exact⟨rfl,d.o.tr H.o⟩
   ·(have hil':(L.length:Int)<=(i:Int):=by omega);have aH:Hid (EC L t=false):=by
     unfold Hid EC;rw[aF.o,N3 (by omega)];rfl
    go_wp2;go_ret2;rw[aF.o,aH.o];exact⟨rfl,d.o⟩
structure MP (w:World) (b o:Nat) (L:List Pt) (lv:Value):Prop where
 D9:w.cell? ⟨b,o,none⟩=some lv
 Bv:Dm w lv L
 FA:Dv L
 CP:L.length<1099511627776
def Mm(w:World)(b o:Nat)(L:List Pt)(lv:Value)(t:Int)(h:MP w b o L lv):
 Ag 116 #[.pointer (some (Aa b o)),A0 t] w (Al (.tuple #[A0 (BG L t),.bool (EC L t)]) λw'=>A3 Ab w w'):=by
 have hc:=h.D9;obtain⟨a,cap,rfl,_⟩:=B8 h.Bv;have H:=A1 h
 go_enter func116,ntmps116
 go_wp2_with (go_at_call 162;refine(Xe _ _ _ _ H.o.Bv H.o.FA H.o.CP).mono ?_;rintro e w'⟨rfl,d⟩;have z:=A1 d);go_ret2;exact⟨rfl,z.o⟩
def Tryz.cC:(Tryz.prog.info? 70).map (λi=>(i.zero,i.size,i.bytes))=some (some (.agg #[A0 0,A0 0]),2,16):=by kernel_rfl
def Yo{l:List Pt}(z:Dv l)(t:Int):BG l (t+1)=BG l t+(if EC l t then 1 else 0):=by
 have I:=IT l t;by_cases h:EC l t=true
 ·rw[Ah h];unfold EC at h;by_cases L:BG l t<l.length
  ·rw[E2 L]at h;simp at h;refine RW z (by omega) (λi d H=>?_) λi d E=>?_
   ·by_cases e:i=BG l t
    ·subst e;omega
    ·have:=JI (show i<BG l t by omega) d;omega
   ·have:=Kg.1 z (BG l t) i L d (by omega);rw[h]at this;omega
  ·rw[N3 (by omega)]at h;cases h
 ·rw[Ad h,PH];refine RW z I (λi d H=>?_) λi d E=>?_
  ·have:=JI H d;omega
  ·have h2:=KG z E d;by_cases e:(l[i]'d).1=t
   ·exfalso;apply h;by_cases O:i=BG l t
    ·subst O;unfold EC;rw[E2 d];simpa using e
    ·have:=Kg.1 z (BG l t) i (by omega) d (by omega);have:=KG z (As (BG l t)) (show BG l t<l.length by omega);omega
   ·omega
def Yp{l:List Pt}(d:Dv l){a b:Int}(h:a<=b):BG l a<=BG l b:=by
 apply Q1;intro hn;have hl:=IT l a;have h1:=JI (show BG l b<BG l a by omega) (by omega);have h2:=KG d (As (BG l b)) (by omega);omega
def piece(l:List Pt)(a b:Int):List Pt:=l.filter λx=>decide (a<=x.1)&&decide (x.1<=b)
def Yq{l:List Pt}(d:Dv l)(a b:Int):piece l a b=(l.take (BG l b+(if EC l b then 1 else 0))).drop (BG l a):=by
 rw[<-Yo d b,<-A0S d a (b+1)];unfold piece
 congr 1
 funext x
 have:decide (x.1<=b)=decide (x.1<b+1):=by
  apply Ni.2;simp;omega
 rw[this]
def A2i(w:World)(rb ro:Nat)(L:List Pt)(lv:Value)(a b:Int)(h:MP w rb ro L lv):
 Ag 80 #[.pointer (some (Aa rb ro)),A0 a,A0 b] w λe w'=>∃v,e=.returned v/\Dm w' v (piece L a b)/\A3 Ab w w'/\∀g,v.ownBlock=some g->w.heap.size<=g:=by
 have H:=A1 h;have hc:=h.D9;obtain⟨ad,cap,rfl,h1,h2,h3,h4,h5⟩:=B8 h.Bv;unfold maxLen at h2;have HA:=A1 h3;have aT:=GN w _ hc;have aL:Hid (∀W,A3 Ab w W->MP W rb ro L (.slice ad L.length cap)):=λW I=>
  ⟨(DR (I.Ao rb aT (λh=>h))).trans H.o.D9,Ay H.o.Bv λg hg=>I.Ao g (AB H.o.Bv hg) (λh=>h),H.o.FA,H.o.CP⟩
 obtain⟨i0,hi,aF,aK,aI⟩:=E7 Tryz.cC;have hsm:=h.CP;have aX:=A1 h4;have aW:=A1 h5;by_cases hab:b<a
 ·have q:Hid (piece L a b=[]):=by
   unfold Hid piece;rw[Vn];intro x _;simp;omega
  go_enter func80,ntmps80
  go_wp2;go_ret;exact⟨_,rfl,by rw[q.o];exact CD _ _ _ _,A3.I _ _,by simp[Value.ownBlock]⟩
 ·have aN:a<=b:=by omega
  have aJ:=Yq H.o.FA a b;have hm:=Yp H.o.FA aN;have aS:=IT L b;have X:EC L b=true->BG L b<L.length:=λhh=>by
   unfold EC at hh;apply Q1;intro hn;rw[N3 (by omega)]at hh;cases hh
  obtain⟨i,aH⟩:∃i,BG L a=i:=⟨_,rfl⟩;obtain⟨j,Y⟩:∃j,BG L b=j:=⟨_,rfl⟩;obtain⟨hs,aE⟩:∃hs,EC L b=hs:=⟨_,rfl⟩;rw[aH,Y]at hm;rw[Y]at aS;rw[aE,Y]at X;rw[aH,Y,aE]at aJ;have aR:Hid (∀W,A3 Ab w W->Ag 116 #[.pointer (some (Aa rb ro)),A0 a] W λe w'=>∃x,e=.returned (.tuple #[A0 i,.bool x])/\A3 Ab W w'):=λW I=>
   (Mm W rb ro L _ a (aL.o W I)).mono (by rintro e w'⟨rfl,h⟩;rw[aH];exact⟨_,rfl,h⟩)
  have aV:Hid (∀W,A3 Ab w W->Ag 116 #[.pointer (some (Aa rb ro)),A0 b] W (Al (.tuple #[A0 j,.bool hs]) λw'=>A3 Ab W w')):=λW I=>
   (Mm W rb ro L _ b (aL.o W I)).mono (by rintro e w'⟨rfl,h⟩;rw[Y,aE];exact⟨rfl,h⟩)
  have aQ:=A1 aJ;have O:Hid (∀W (n:Nat),A3 Ab w W->i<=n->n<=L.length->n=j+(if hs then 1 else 0)->∀v,(v=.slice (Option.map (λx=>x.add (i*2)) ad) (n-i) (cap-i)\/(n=i/\∃x c,v=.slice x 0 c))->Src Tryz.prog 2 66 v (n-i) (Bj (piece L a b)) W/\(piece L a b).length=n-i):=by
   intro W n I hin hnl hn v hv;(have aA:(piece L a b).length=n-i:=by rw[aQ.o,<-hn,Cu,BU];omega);have aP:=(aL.o W I).Bv;refine⟨?_,aA⟩;have aU:∀g,ad=some (Aa g 0)->∀(k:Nat) u,(Bj (piece L a b))[k]?=some u->A7 W g (i*2+k) u:=by
    intro g hg k u hk;subst hg;refine BC aP (g:=g) rfl ?_;rw[aQ.o,<-hn,<-M4,<-O5,ID,PN]at hk;split at hk
    ·exact hk
    ·cases hk
   have aB:n-i=0->∀x c,Src Tryz.prog 2 66 (.slice x 0 c) 0 (Bj (piece L a b)) W:=by
    intro h0 x c;have:piece L a b=[]:=N6 (by omega);rw[this];cases x with
    | none=>exact Src.ofNil W underlying66 c
    | some y=>exact Je W underlying66 _ 0 c [] rfl (by simp) (by simp)
   rcases hv with rfl|⟨hni,x,c,rfl⟩
   ·cases ad with
    | none=>
     have:=(aX.o rfl).1;(have h0:n-i=0:=by omega);rw[h0];exact aB h0 _ _
    | some x=>
     obtain⟨g,rfl⟩:=aW.o x rfl;refine Je W underlying66 _ _ _ _ (by rw[G5,aA]) (λk u hk=>?_) (M3 _);have hx:Addr.add (Addr.add (Aa g 0) (i*2)) k=(Aa g (i*2+k)):=by
      unfold Addr.add;by_cases h1:i*2=0<;>by_cases h2:k=0<;>simp[h1,h2]
     rw[hx];exact aU g rfl k u hk
   ·(have h0:n-i=0:=by omega);rw[h0];exact aB h0 x c
  have HLEN:Hid ((piece L a b).length=j+(if hs then 1 else 0)-i):=by
   unfold Hid;rw[aJ,Cu,BU];cases hs with
   | true=>have:=X rfl;simp;omega
   | false=>simp;omega
  have j0:=C3 j;have iz:=C3 i;have hij:(i:Int)<=(j:Int):=by omega
  have hjc:(j:Int)<=(cap:Int):=by omega
  have hic:(i:Int)<=(cap:Int):=by omega
  have hbyt:(0+(j+1-i))*16<=140737488355328:=by omega
  have aG:Hid (∀(W w3:World) (n:Nat) (b3:Option Addr) (d:Nat),A3 Ab w W->(piece L a b).length=n->App W w3 70 2 (.slice none 0 0) (.slice b3 (0+n) d) (0+n) ([]++Bj (piece L a b))->Dm w3 (.slice b3 n d) (piece L a b)/\A3 Ab w w3/\∀g,(Value.slice b3 n d).ownBlock=some g->w.heap.size<=g):=by
   intro W w3 n b3 d I hn hA;refine⟨?_,I.tr hA.bE,λg hg=>?_⟩
   ·have:=hA.AA;unfold Dm;rw[hn];simpa using this
   ·have:=hA.AS g (by simpa using hg);have:=I.Ak;omega
  cases hs with
  | false=>
   by_cases aO:cap=i
   ·obtain rfl:i=cap:=aO.symm;(obtain rfl:j=i:=by omega);have aM:Hid (∀W x c,A3 Ab w W->Src Tryz.prog 2 66 (.slice x 0 c) 0 (Bj (piece L a b)) W/\(piece L a b).length=0):=λW x c I=>by
     have:=O.o W j I (As _) (by omega) (by simp) (.slice x 0 c) (.inr ⟨rfl,x,c,rfl⟩)
     rwa [V6]at this
    go_enter func80,ntmps80
    go_wp2_with (fail);refine(aR.o _ (A3.I _ _)).mono ?_;rintro e w1⟨x,rfl,k1⟩;have aD:=A1 k1;go_wp2_with (fail);refine(aV.o _ aD.o).mono ?_;rintro e w2⟨rfl,k2⟩;have E:=A1 <| aD.o.tr k2;have c2:=(aL.o _ E.o).D9;go_wp2_with (at_builtin;refine D4 rfl (.const (.slice none 0 0)) (.tmp 35) 66 66 rfl 70 i0 _ 2 16 underlying66 hi aF aK aI rfl (by decide) (.slice none 0 0) 0 [] (by rfl) (CD _ 0 70 2) _ 0 _ (by rfl) (aM.o _ _ _ E.o).1 (by omega) ?_;intro b3 d w3 hA;have z:=A1 (aG.o _ w3 _ b3 d E.o (aM.o _ none 0 E.o).2 hA));go_ret;exact⟨_,rfl,z.o.1,z.o.2.1,z.o.2.2⟩
   ·skip
    go_enter func80,ntmps80
    go_wp2_with (fail);refine(aR.o _ (A3.I _ _)).mono ?_;rintro e w1⟨x,rfl,k1⟩;have aD:=A1 k1;go_wp2_with (fail);refine(aV.o _ aD.o).mono ?_;rintro e w2⟨rfl,k2⟩;have E:=A1 <| aD.o.tr k2;have c2:=(aL.o _ E.o).D9;go_wp2_with (at_builtin;refine D4 rfl (.const (.slice none 0 0)) (.tmp 35) 66 66 rfl 70 i0 _ 2 16 underlying66 hi aF aK aI rfl (by decide) (.slice none 0 0) 0 [] (by rfl) (CD _ 0 70 2) _ (j-i) _ (by rfl) (O.o _ j E.o (by omega) (by omega) (by simp) _ (.inl rfl)).1 (by omega) ?_;intro b3 d w3 hA;have z:=A1 (aG.o _ w3 _ b3 d E.o (O.o _ j E.o (by omega) (by omega) (by simp) _ (.inl rfl)).2 hA));go_ret;exact⟨_,rfl,z.o.1,z.o.2.1,z.o.2.2⟩
  | true=>
   have hjl:=X rfl;(have hjc':(j:Int)+1<=(cap:Int):=by omega);(have hij':(i:Int)<=(j:Int)+1:=by omega);(have hjt:((j:Int)+1).toNat=j+1:=by omega);by_cases aO:cap=i
   ·exfalso;omega
   ·skip
    go_enter func80,ntmps80
    go_wp2_with (fail);refine(aR.o _ (A3.I _ _)).mono ?_;rintro e w1⟨x,rfl,k1⟩;have aD:=A1 k1;go_wp2_with (fail);refine(aV.o _ aD.o).mono ?_;rintro e w2⟨rfl,k2⟩;have E:=A1 <| aD.o.tr k2;have c2:=(aL.o _ E.o).D9;go_wp2_with (at_builtin;refine D4 rfl (.const (.slice none 0 0)) (.tmp 35) 66 66 rfl 70 i0 _ 2 16 underlying66 hi aF aK aI rfl (by decide) (.slice none 0 0) 0 [] (by rfl) (CD _ 0 70 2) _ ((j+1)-i) _ (by rfl) (O.o _ (j+1) E.o (by omega) (by omega) (by simp) _ (.inl rfl)).1 (by omega) ?_;intro b3 d w3 hA;have z:=A1 (aG.o _ w3 _ b3 d E.o (O.o _ (j+1) E.o (by omega) (by omega) (by simp) _ (.inl rfl)).2 hA));go_ret;exact⟨_,rfl,z.o.1,z.o.2.1,z.o.2.2⟩
structure H9 (w:World) (b o:Nat) (cs:Array Value) (T:Nat) (L:List Pt) (lv:Value):Prop where
 Af:w.heap[b]?=some (.cells cs T (0,0))
 Cj:cs[o]?=some lv
 Bv:Dm w lv L
 FA:Dv L
 CP:L.length<1099511627776
def H9.bX{w:World}{b o:Nat}{d:Array Value}{T:Nat}{L:List Pt}{lv:Value}(h:H9 w b o d T L lv):MP w b o L lv:=
 ⟨by simp[World.cell?,h.Af,h.Cj],h.Bv,h.FA,h.CP⟩
def H9.Aj{w w':World}{b o:Nat}{d:Array Value}{T:Nat}{L:List Pt}{lv:Value}(h:H9 w b o d T L lv)(z:A3 Ab w w'):H9 w' b o d T L lv:=
 ⟨(z.Ao b (By h.Af) (λh=>h)).trans h.Af,h.Cj,Ay h.Bv λg E=>z.Ao g (AB h.Bv E) (λh=>h),h.FA,h.CP⟩
structure Hn (w w':World) (b o:Nat) (cs:Array Value) (T:Nat) (lv:Value) (L':List Pt) (lv':Value):Prop where
 Bv:H9 w' b o (cs.setIfInBounds o lv') T L' lv'
 Aj:A3 (λk=>k=b\/lv.ownBlock=some k) w w'
 AA:∀g,lv'.ownBlock=some g->lv.ownBlock=some g\/w.heap.size<=g
def A0N(w:World)(X I:Nat)(cs:Array Value)(T:Nat)(hT:T≠70)(L:List Pt)(lv:Value)(t:Int)(h:H9 w X I cs T L lv):
 Ag 72 #[.pointer (some (Aa X I)),A0 t] w (Al (.tuple #[]) λw'=>∃aT lv',(aT=L\/aT=L.drop (BG L t))/\Hn w w' X I cs T lv aT lv'):=by
 have H:=A1 h;obtain⟨ad,cap,rfl,h1,h2,h3,h4,h5⟩:=B8 h.Bv;unfold maxLen at h2;have HA:=A1 h3;have aW:=A1 h4;have aV:=A1 h5;obtain⟨i0,hi,aH,aN,aL⟩:=E7 Tryz.cC;have hsm:=h.CP;have aS:=IT L t;obtain⟨i,aB⟩:∃i,BG L t=i:=⟨_,rfl⟩;rw[aB]at aS;have aQ:Hid (Ag 116 #[.pointer (some (Aa X I)),A0 t] w λe w'=>∃x,e=.returned (.tuple #[A0 i,.bool x])/\A3 Ab w w'):=
  (Mm w X I L _ t h.bX).mono (by rintro e w'⟨rfl,h⟩;rw[aB];exact⟨_,rfl,h⟩)
 have aO:=A1 aB;clear h h3 h4 h5 aB;have iz:=C3 i;have hic:(i:Int)<=(L.length:Int):=by omega
 have hlc:(L.length:Int)<=(cap:Int):=by omega
 by_cases hgt:((L.length:Int)/2<(i:Int))
 ·
  have aI:Hid (∀W,A3 Ab w W->∀v m,(v=.slice (Option.map (λx=>x.add (i*2)) ad) m (cap-i)/\m=L.length-i\/(L.length=i/\m=0/\∃x c,v=.slice x 0 c))->Src Tryz.prog 2 66 v m (Bj (L.drop i)) W):=by
   intro W hW v m hv;have E:=(H.o.Aj hW).Bv;have aD:L.length-i=0->∀x c,Src Tryz.prog 2 66 (.slice x 0 c) 0 (Bj (L.drop i)) W:=by
    intro h0 x c;have:L.drop i=[]:=Jl (by omega);rw[this];cases x with
    | none=>exact Src.ofNil W underlying66 c
    | some y=>exact Je W underlying66 _ 0 c [] rfl (by simp) (by simp)
   rcases hv with⟨rfl,rfl⟩|⟨hni,rfl,x,c,rfl⟩
   ·cases ad with
    | none=>
     have:=(aW.o rfl).1;(have h0:L.length-i=0:=by omega);rw[h0];exact aD h0 _ _
    | some x=>
     obtain⟨g,rfl⟩:=aV.o x rfl;refine Je W underlying66 _ _ _ _ (by rw[G5,Cu]) (λk u hk=>?_) (M3 _);have hx:Addr.add (Addr.add (Aa g 0) (i*2)) k=(Aa g (i*2+k)):=by
      unfold Addr.add;by_cases h1:i*2=0<;>by_cases h2:k=0<;>simp[h1,h2]
     rw[hx];refine BC E (g:=g) rfl ?_;rw[<-M4,ID]at hk;exact hk
   ·exact aD (by omega) x c
  have aK:Hid (∀(W Y:World) (m:Nat) (O:Option Addr) (d:Nat),A3 Ab w W->m=L.length-i->App W Y 70 2 (.slice none 0 0) (.slice O (0+m) d) (0+m) ([]++Bj (L.drop i))->
   Y.cell? (Aa X I)=some (.slice ad L.length cap)/\Y.frozen? (Aa X I)=false/\Hn w (Y.sC X I (.slice O m d)) X I cs T (.slice ad L.length cap) (L.drop i) (.slice O m d)):=by
   intro W Y m O d hW hm hA;subst hm;have aA:=(hA.bE.Ao X (By (H.o.Aj hW).Af) (λh=>h)).trans (H.o.Aj hW).Af;have E:Dm Y (.slice O (L.length-i) d) (L.drop i):=by
    have:=hA.AA;unfold Dm;rw[Cu];simpa using this
   have aU:=hW.tr hA.bE;refine⟨by simp[World.cell?,aA,H.o.Cj],by simp[World.frozen?,aA],⟨⟨Cq aA,?_,?_,H.o.FA.ck i,by rw[Cu];omega⟩,?_,?_⟩⟩
   ·have aF:=(Q6.1 H.o.Cj).1;simp[aF]
   ·refine Ay E λg hg=>?_;have aP:g≠X:=λe=>by
     obtain⟨c,hh⟩:=Be E hg;subst e;rw[aA]at hh;cases hh;exact hT rfl
    exact GF _ _ _ _ (λe=>aP (by simpa using e))
   ·exact(aU.aa (λ_ _ h=>h.elim)).ao (.inl rfl) I _
   ·intro g hg;right;have:=hA.AS g (by simpa using hg);have:=hW.Ak;omega
  by_cases aR:cap=i
  ·obtain rfl:i=cap:=aR.symm;(have aM:L.length=i:=by omega);have aG:=A1 aM;clear aM
   go_enter func72,ntmps72
   go_wp2_with (fail);refine aQ.m ?_;rintro e w1⟨x,rfl,k1⟩;have aE:=A1 k1;have c2:=(H.o.Aj k1).bX.D9;clear k1;go_wp2_with (at_builtin;refine D4 rfl (.const (.slice none 0 0)) (.tmp 26) 66 66 rfl 70 i0 _ 2 16 underlying66 hi aH aN aL rfl (by decide) (.slice none 0 0) 0 [] (by rfl) (CD _ 0 70 2) _ 0 _ (by rfl) (aI.o _ aE.o _ 0 (.inr ⟨aG.o,rfl,_,_,rfl⟩)) (by omega) ?_;intro O d Y hA;have z:=A1 (aK.o _ Y 0 O d aE.o (by have:=aG.o;omega) hA);have y1:=z.o.1;have y2:=z.o.2.1;clear hA);go_end0;refine⟨rfl,_,.slice O 0 d,.inr rfl,?_⟩;rw[aO.o];have:=z.o.2.2;simpa using this
  ·go_enter func72,ntmps72
   go_wp2_with (fail);refine aQ.m ?_;rintro e w1⟨x,rfl,k1⟩;have aE:=A1 k1;have c2:=(H.o.Aj k1).bX.D9;go_wp2_with (at_builtin;refine D4 rfl (.const (.slice none 0 0)) (.tmp 26) 66 66 rfl 70 i0 _ 2 16 underlying66 hi aH aN aL rfl (by decide) (.slice none 0 0) 0 [] (by rfl) (CD _ 0 70 2) _ (L.length-i) _ (by rfl) (aI.o _ aE.o _ _ (.inl ⟨rfl,rfl⟩)) (by omega) ?_;intro O d Y hA;have z:=A1 (aK.o _ Y _ O d aE.o rfl hA);have y1:=z.o.1;have y2:=z.o.2.1);go_end0;refine⟨rfl,_,.slice O (L.length-i) d,.inr rfl,?_⟩;rw[aO.o];have:=z.o.2.2;simpa using this
 ·have hgt':(i:Int)<=(L.length:Int)/2:=by omega
  go_enter func72,ntmps72
  go_wp2_with (fail);refine aQ.m ?_;rintro e w1⟨x,rfl,k1⟩;have aE:=A1 k1;have c2:=(H.o.Aj k1).bX.D9;go_wp2;go_end0;have hR:=H.o.Aj aE.o;refine⟨rfl,L,_,.inl rfl,⟨?_,aE.o.aa (λ_ _ h=>h.elim),λg hg=>.inl hg⟩⟩;have aJ:cs.setIfInBounds I (.slice ad L.length cap)=cs:=by
   obtain⟨aF,he⟩:=Q6.1 H.o.Cj;apply A3X;intro k;by_cases hk:I=k
   ·subst hk;simp[aF,he]
   ·rw[VD hk]
  rw[aJ];exact hR
def LM{P:Program}(w:World){ops:Array Oper}{rest:List Oper}{o:Oper}{a:Act}{Q:Exit->Act->World->Prop}(z:o.guard=none)(d s:Operand)(t t':TypeId)(L:o.op=.call {callee:=.builtin .copy,args:=#[d,s],argTypes:=#[t,t']})(v u:Value)(H:a.eval d=v)(W:a.eval s=u){E:Value}{w':World}(O:(Builtin.copy_ #[t,t'] o.type #[v,u]).run P w=.ok E w')(h:wpList P ops Q rest (a.put o.dst E) w'):wpList P ops Q (o::rest) a w:=
 wpList_plain z λ_ I=>by
  unfold Oper.wp execOp;simp only[L,resolve,invoke,builtin,Sem.run_bind,Sem.run_pure,Result.andThen_ok,List.map_toArray,Hb,List.map_nil,H,W,O];exact I _ _ h
def Dr(d:List Value)(L:List Pt)(i:Nat):List Value:=d.take ((i+1)*2)++Bj (L.drop i)++d.drop ((i+1)*2+(Bj (L.drop i)).length)
def DD(c:List Value)(i:Nat)(t v:Int):List Value:=c.take (i*2)++[A0 t,A0 v]++c.drop (i*2+2)
def Tq(L:List Pt)(i:Nat)(t v:Int):Bj (L.take i++(t,v):: L.drop i)=Bj (L.take i)++[A0 t,A0 v]++Bj (L.drop i):=by
 rw[RV];simp[Bj]
def Tz(d:List Value)(L:List Pt)(i:Nat)(hi:i<=L.length)(hlen:(L.length+1)*2<=d.length):(Dr d L i).length=d.length:=by
 have h:(Bj (L.drop i)).length=(L.length-i)*2:=by rw[G5,Cu]
 unfold Dr;simp only[AY,BU,Cu,h];omega
def OI(c:List Value)(i:Nat)(t v:Int)(h:i*2+2<=c.length):(DD c i t v).length=c.length:=by
 unfold DD;simp only[AY,BU,Cu,Cv,IC];omega
def A0q(L:List Pt)(i:Nat)(hi:i<=L.length)(t v:Int)(d:List Value)(h:d.take (i*2)=Bj (L.take i))(hlen:(L.length+1)*2<=d.length):
 (DD (Dr d L i) i t v).take ((L.length+1)*2)=Bj (L.take i++(t,v):: L.drop i):=by
 have z:(Bj (L.drop i)).length=(L.length-i)*2:=by rw[G5,Cu]
 have H:(d.take ((i+1)*2)).length=(i+1)*2:=by rw[BU];omega
 have I:(Dr d L i).take (i*2)=Bj (L.take i):=by
  unfold Dr;rw[Cc,GP (by rw[H];omega),Kd,show min (i*2) ((i+1)*2)=i*2 from by omega,h]
 have O:(Dr d L i).drop (i*2+2)=Bj (L.drop i)++d.drop ((i+1)*2+(Bj (L.drop i)).length):=by
  unfold Dr;rw[Cc]
  conv=>lhs;rw[show i*2+2=(d.take ((i+1)*2)).length from by rw[H];omega]
  rw[Vp]
 have E:(Bj (L.take i)++[A0 t,A0 v]++Bj (L.drop i)).length=(L.length+1)*2:=by
  simp only[AY,G5,z,BU,Cv,IC];omega
 unfold DD;rw[I,O,Tq,<-Cc,<-E,Ke]
structure HR (w w':World) (lv:Value) (L':List Pt) (lv':Value):Prop where
 Bv:Dm w' lv' L'
 Aj:A3 (λk=>lv.ownBlock=some k) w w'
 AA:∀g,lv'.ownBlock=some g->lv.ownBlock=some g\/w.heap.size<=g
def A0g(w:World)(g cap:Nat)(L:List Pt)(i E:Nat)(t v:Int)(hL:Dm w (AJ g L.length cap) L)(hi:i<L.length)(O:L.length+1<=cap)(hsm:L.length<1099511627776)(hv:w.heap[E]?=some (.cells #[A0 t,A0 v] 70 (0,0)))(aF:E≠g):
 Ag 139 #[AJ g L.length cap,A0 i,AJ E 1 1] w λe w'=>∃lv',e=.returned lv'/\HR w w' (AJ g L.length cap) (L.take i++(t,v):: L.drop i) lv':=by
 obtain⟨d,hg,aB,aA,_,aK⟩:=S4 hL;unfold maxLen at aK;obtain⟨i0,W,hz0,X,hz2⟩:=E7 Tryz.cC;have aN:∀lb cb,(callFunc 181 #[AJ E 1 1,.slice (some (Aa g ((i+1)*2))) lb cb]).run Tryz.prog w=.ok (.value (.bool false)) w:=λlb cb=>by
  have aP:∀w,(Go.sizeOf 70).run Tryz.prog w=.ok 2 w:=λw=>by simp[sizeOf,typeInfo,W,X]
  rw[Xg func181 (by kernel_rfl) (by kernel_rfl) (by kernel_rfl) (e:=Extern.SlicesOverlaps.overlaps #[66,66] #[4]) (by kernel_rfl),
   Lib.run_overlaps_apart w 66 4 70 underlying66 2 aP (Aa E 0) (Aa g ((i+1)*2)) 1 1 lb cb aF 70 70 2 d.size (by simp[World.shape?,hv]) (by simp[World.shape?,hg]) (by rw[aB];omega) (by simp[World.frozen?,hv]) (by simp[World.frozen?,hv])]
  rfl
 have aJ:(L.length+1)*2<=d.toList.length:=by have:=LI (xs:=d);omega
 have z:(Dr d.toList L i).length=cap*2:=by rw[Tz _ _ _ (by omega) aJ,LI,aB]
 have aI:(Bj (L.drop i)).length=(L.length-i)*2:=by rw[G5,Cu]
 have aM:d.toList.take (i*2)=Bj (L.take i):=by
  rw[show i*2=min (i*2) (L.length*2) from by omega,<-Kd,aA,O5]
 have aQ:∀(x y:Nat),Addr.add (Aa g x) y=(Aa g (x+y)):=λx y=>by unfold Addr.add;by_cases h:y=0<;>simp[h]
 have aR:∀(y:Nat),Addr.add (Aa E 0) y=(Aa E y):=λy=>by unfold Addr.add;by_cases h:y=0<;>simp[h]
 have aG:Hid (∀ty I sc,(Builtin.copy_ #[66,66] ty #[.slice (some (Aa g ((i+1)*2))) (L.length-i) I,.slice (some (Aa g (i*2))) (L.length+1-i) sc]).run Tryz.prog w.drew=.ok (goInt ((L.length-i:Nat):Int)) (w.drew.setRow g (Dr d.toList L i).toArray)):=λty I sc=>
  LW w.drew _ _ ty 70 i0 2 g ((i+1)*2) _ I (Aa g (i*2)) _ sc (L.length-i) d 70 (Bj (L.drop i)) underlying66 W X hg (by simp only[V8];split<;>omega) aI
   (λj u H=>by
    rw[aQ];refine BC (w:=w) hL (g:=g) rfl ?_
    rw[<-M4,ID]at H;exact H)
   (by rw[aI,aB];omega) (M3 _)
 have aE:Hid (∀ty I,(Builtin.copy_ #[66,66] ty #[.slice (some (Aa g (i*2))) (L.length+1-i) I,AJ E 1 1]).run Tryz.prog (w.drew.setRow g (Dr d.toList L i).toArray)=.ok (goInt ((1:Nat):Int)) ((w.drew.setRow g (Dr d.toList L i).toArray).setRow g (DD (Dr d.toList L i) i t v).toArray)):=λty I=>by
  have Y:(w.drew.setRow g (Dr d.toList L i).toArray).heap[g]?=some (.cells (Dr d.toList L i).toArray 70 (0,0)):=Kx w.drew g d _ 70 _ hg;have:=LW (P:=Tryz.prog) (w.drew.setRow g (Dr d.toList L i).toArray) 66 66 ty 70 i0 2 g (i*2) (L.length+1-i) I (Aa E 0) 1 1 1 (Dr d.toList L i).toArray 70 [A0 t,A0 v] underlying66 W X Y (by simp only[V8];split<;>omega) rfl
   (λj u H=>by
    rw[aR];have aL:(w.drew.setRow g (Dr d.toList L i).toArray).heap[E]?=some (.cells #[A0 t,A0 v] 70 (0,0)):=(JA w.drew g E _ aF).trans hv;unfold World.cell?;rw[aL]
    match j,H with
    | 0,H=>simpa using H
    | 1,H=>simpa using H
    | j+2,H=>simp at H)
   (by simp only[Lr,z,Cv,IC];omega) (by simp[Value.oneCell'])
  simpa[DD] using this
 have aS:Hid (HR w ((w.drew.setRow g (Dr d.toList L i).toArray).setRow g (DD (Dr d.toList L i) i t v).toArray) (AJ g L.length cap) (L.take i++(t,v):: L.drop i) (AJ g (L.length+1) cap)):=by
  have Y:(w.drew.setRow g (Dr d.toList L i).toArray).heap[g]?=some (.cells (Dr d.toList L i).toArray 70 (0,0)):=Kx w.drew g d _ 70 _ hg;have aO:((w.drew.setRow g (Dr d.toList L i).toArray).setRow g (DD (Dr d.toList L i) i t v).toArray).heap[g]?=some (.cells (DD (Dr d.toList L i) i t v).toArray 70 (0,0)):=Kx _ g _ _ 70 _ Y;have aD:(L.take i++(t,v):: L.drop i).length=L.length+1:=by simp;omega
  refine⟨?_,?_,λg' h'=>.inl h'⟩
  ·unfold Dm;rw[aD];refine⟨by rw[G5,aD],.inr ⟨g,cap,_,rfl,Cf _,aO,O,by unfold maxLen;omega,?_,?_⟩⟩
   ·rw[Lr,OI _ _ _ _ (by rw[z];omega),z]
   ·exact A0q L i (by omega) t v d.toList aM aJ
  ·refine⟨rfl,rfl,rfl,by simp,λk hk hn=>?_⟩;have aH:k≠g:=λe=>hn (by simp[Value.ownBlock,e]);rw[JA _ g k _ aH,JA _ g k _ aH];rfl
 have q1:((i:Int)==(L.length:Int))=false:=by simp;omega
 have q2:¬(cap=i):=by omega
 have q3:¬(cap=i+1):=by omega
 have q4:(i:Int)<=(L.length:Int):=by omega
 have q7:((L.length:Int)+1).toNat=L.length+1:=by omega
 have q8:((i:Int)+1).toNat=i+1:=by omega
 have q9:(i:Int)+1<=(L.length:Int)+1:=by omega
 have q10:=C3 i;have q11:(i:Int)<=(L.length:Int)+1:=by omega
 have q13:(0:Int)<=(i:Int)+1:=by omega
 have q12:IntKind.i64.wrap ((i:Int)+1)=(i:Int)+1:=by simp only[Jr];omega
 go_enter func139,ntmps139
 go_wp2_with (simp only[aN]);refine Ko 8 (by kernel_rfl) (by kernel_rfl) ?_;simp only[Li,F8,ET,DE,Dp]
 repeat still_step
 refine Kp ?_;refine LM _ rfl (.tmp 73) (.tmp 76) 66 66 rfl _ _ (by rfl) (by rfl) (aG.o _ _ _) ?_;go_wp2_with (refine LM _ rfl (.tmp 80) (.tmp 81) 66 66 rfl _ _ (by rfl) (by rfl) (aE.o _ _) ?_);go_ret;exact⟨_,rfl,aS.o⟩
def A0i(w:World)(X:Option Addr)(cap:Nat)(L:List Pt)(vb:Nat)(t v:Int)(hL:Dm w (.slice X L.length cap) L)(hsm:L.length<1099511627776)(hv:w.heap[vb]?=some (.cells #[A0 t,A0 v] 70 (0,0))):
 Ag 139 #[.slice X L.length cap,A0 L.length,AJ vb 1 1] w λe w'=>∃lv',e=.returned lv'/\HR w w' (.slice X L.length cap) (L.take L.length++(t,v):: L.drop L.length) lv':=by
 obtain⟨i0,aB,I,W,Y⟩:=E7 Tryz.cC;obtain⟨_,_,he,h1,h2,_,h4,h5⟩:=B8 hL;cases he;unfold maxLen at h2;have O:Hid (Src Tryz.prog 2 66 (AJ vb 1 1) 1 [A0 t,A0 v] w):=Src.cA underlying66 hv 1 1 rfl (by simp[Value.oneCell']);have aD:Hid (∀z d h,App w h 70 2 (.slice X L.length cap) (.slice z (L.length+1) d) (L.length+1) (Bj L++[A0 t,A0 v])->HR w h (.slice X L.length cap) (L.take L.length++(t,v):: L.drop L.length) (.slice z (L.length+1) d)):=by
  intro z d h E;refine⟨?_,E.Aj λk hk=>hk,λg hg=>?_⟩
  ·have:=E.AA;unfold Dm;rw[Er (As _),Jl (As _),RV,AY];exact this
  ·rcases E.Cj with e|e
   ·rw[e]at hg;exact .inl hg
   ·rw[e]at hg;cases hg;exact .inr (As _)
 have aE:=A1 hL;have q4:(0:Int)<=(L.length:Int):=Gp _;have aA:(L.length+1)*16<=140737488355328:=by omega
 by_cases hc:cap=L.length
 ·subst hc
  go_enter func139,ntmps139
  go_wp2_with (at_builtin;refine D4 rfl (.tmp 23) (.tmp 24) 66 66 rfl 70 i0 _ 2 16 underlying66 aB I W Y rfl (by decide) _ L.length (Bj L) (by rfl) aE.o _ 1 _ (by rfl) O.o aA ?_;intro z d h E;have H:=A1 (aD.o z d h E));go_ret;exact⟨_,rfl,H.o⟩
 ·go_enter func139,ntmps139
  go_wp2_with (at_builtin;refine D4 rfl (.tmp 23) (.tmp 24) 66 66 rfl 70 i0 _ 2 16 underlying66 aB I W Y rfl (by decide) _ L.length (Bj L) (by rfl) aE.o _ 1 _ (by rfl) O.o aA ?_;intro z d h E;have H:=A1 (aD.o z d h E));go_ret;exact⟨_,rfl,H.o⟩
def A0p(L:List Pt)(i:Nat)(O:i<=L.length)(t v:Int)(c:List Value)(d:c.take (i*2)=Bj (L.take i))(hlen:(L.length+1)*2<=c.length):
 (Dr (DD c i t v) L i).take ((L.length+1)*2)=Bj (L.take i++(t,v):: L.drop i)/\(Dr (DD c i t v) L i).length=c.length:=by
 have z:(Bj (L.drop i)).length=(L.length-i)*2:=by rw[G5,Cu]
 have h:(DD c i t v).length=c.length:=OI c i t v (by omega);refine⟨?_,by rw[Tz _ _ _ O (by omega),h]⟩;have H:(Bj (L.take i)++[A0 t,A0 v]).length=(i+1)*2:=by
  simp only[AY,G5,BU,Cv,IC];omega
 have I:(DD c i t v).take ((i+1)*2)=Bj (L.take i)++[A0 t,A0 v]:=by
  unfold DD;rw[d,<-H,Ke]
 have E:(Bj (L.take i)++[A0 t,A0 v]++Bj (L.drop i)).length=(L.length+1)*2:=by
  rw[AY,H,z];omega
 unfold Dr;rw[I,Tq,<-E,Ke]
def A0h(w:World)(g cap:Nat)(L:List Pt)(i vb:Nat)(t v:Int)(hL:Dm w (AJ g L.length cap) L)(hi:i<L.length)(hroom:cap<L.length+1)(hsm:L.length<1099511627776)(hv:w.heap[vb]?=some (.cells #[A0 t,A0 v] 70 (0,0))):
 Ag 139 #[AJ g L.length cap,A0 i,AJ vb 1 1] w λe w'=>∃lv',e=.returned lv'/\HR w w' (AJ g L.length cap) (L.take i++(t,v):: L.drop i) lv':=by
 obtain⟨cur,hg,hcs,htake,hnc,aW⟩:=S4 hL;unfold maxLen at aW;obtain rfl:cap=L.length:=by omega
 obtain⟨i0,X,aT,Y,aK⟩:=E7 Tryz.cC;have aI:(Bj (L.drop i)).length=(L.length-i)*2:=by rw[G5,Cu]
 have aA:∀(b x y:Nat),Addr.add (Aa b x) y=(Aa b (x+y)):=λb x y=>by unfold Addr.add;by_cases h:y=0<;>simp[h]
 have aP:(Builtin.firstCells i0.size i (AJ g i L.length)).run Tryz.prog w.drew=.ok (Bj (L.take i)).toArray w.drew:=
  R5 w.drew i0.size i (Aa g 0) i L.length (Bj (L.take i)) (by rw[Y,G5,BU];omega) (λj u d=>by
   rw[aA,GO];refine BC (w:=w) hL (g:=g) rfl ?_;rw[<-O5,PN]at d;split at d
   ·exact d
   ·cases d)
 have z:=Xh (P:=Tryz.prog) w 66 3 66 70 i0 _ .i64 underlying66 underlying3 X aT (by omega) (some (Aa g 0)) i L.length (Bj (L.take i)) aP (L.length+1-i) (by omega) (by omega) (by omega) (by rw[aK];omega) (by rw[aK];exact growslice_fits (by omega) (by omega));rw[show i+(L.length+1-i)=L.length+1 from by omega,show ((L.length+1-i:Nat):Int)=(L.length:Int)+1-(i:Int) from by omega]at z;obtain⟨H,aF⟩:∃H,grownCap w (L.length+1) L.length 70=H:=⟨_,rfl⟩;have aM:=grownCap_ge w (L.length+1) L.length 70;have aJ:grownCap w (L.length+1) L.length 70<=maxLen:=grownCap_le_maxLen w (L.length+1) L.length 70 (by unfold maxLen;omega);rw[aF]at z aM aJ;obtain⟨c0,O⟩:∃c0,(Bj (L.take i)).toArray++Builtin.zeroCells (Value.agg #[A0 0,A0 0]).cells (L.length+1-i)++Builtin.zeroCells (Value.agg #[A0 0,A0 0]).cells (H-(L.length+1))=c0:=⟨_,rfl⟩;have E:c0.toList.length=H*2:=by
  rw[<-O];have e1:(Value.agg #[A0 0,A0 0]).cells.size=2:=rfl;simp only[Q5,AY,LI,size_zeroCells,e1,G5,BU];omega
 have aE:c0.toList.take (i*2)=Bj (L.take i):=by
  rw[<-O,Q5,Q5,Cc];have:(Bj (L.take i)).length=i*2:=by rw[G5,BU];omega
  rw[<-this,Ke]
 rw[O]at z;unfold maxLen at aJ;have aH:((w.drew.aC c0 70)).heap[w.heap.size]?=some (.cells c0 70 (0,0)):=BN w.drew _;have aX:=By hv;have aR:=By hg;have aS:((w.drew.aC c0 70)).heap[vb]?=some (.cells #[A0 t,A0 v] 70 (0,0)):=(Dc w.drew _ _ aX).trans hv;have aO:Hid (∀I W,(Builtin.copy_ #[66,66] I #[.slice (some (Aa w.heap.size (i*2))) (L.length+1-i) W,AJ vb 1 1]).run Tryz.prog (w.drew.aC c0 70)=.ok (goInt ((1:Nat):Int)) ((w.drew.aC c0 70).setRow w.heap.size (DD c0.toList i t v).toArray)):=λI W=>by
  have:=LW (P:=Tryz.prog) (w.drew.aC c0 70) 66 66 I 70 i0 2 w.heap.size (i*2) (L.length+1-i) W (Aa vb 0) 1 1 1 c0 70 [A0 t,A0 v] underlying66 X Y aH (by simp only[V8];split<;>omega) rfl
   (λj u d=>by
    rw[aA,GO];unfold World.cell?;rw[aS]
    match j,d with
    | 0,d=>simpa using d
    | 1,d=>simpa using d
    | j+2,d=>simp at d)
   (by rw[<-LI,E];simp only[Cv,IC];omega) (by simp[Value.oneCell'])
  simpa[DD] using this
 have aL:(DD c0.toList i t v).length=H*2:=by rw[OI _ _ _ _ (by omega),E]
 have aQ:((w.drew.aC c0 70).setRow w.heap.size (DD c0.toList i t v).toArray).heap[w.heap.size]?=some (.cells (DD c0.toList i t v).toArray 70 (0,0)):=Kx _ w.heap.size c0 _ 70 _ aH;have aB:Hid (∀I W sc,(Builtin.copy_ #[66,66] I #[.slice (some (Aa w.heap.size ((i+1)*2))) (L.length-i) W,.slice (some (Aa g (i*2))) (L.length-i) sc]).run Tryz.prog ((w.drew.aC c0 70).setRow w.heap.size (DD c0.toList i t v).toArray).drew=.ok (goInt ((L.length-i:Nat):Int)) (((w.drew.aC c0 70).setRow w.heap.size (DD c0.toList i t v).toArray).drew.setRow w.heap.size (Dr (DD c0.toList i t v) L i).toArray)):=λI W sc=>
  LW (P:=Tryz.prog) ((w.drew.aC c0 70).setRow w.heap.size (DD c0.toList i t v).toArray).drew 66 66 I 70 i0 2 w.heap.size ((i+1)*2) (L.length-i) W (Aa g (i*2)) (L.length-i) sc (L.length-i) (DD c0.toList i t v).toArray 70 (Bj (L.drop i)) underlying66 X Y aQ (by simp) aI
   (λj u d=>by
    rw[aA];have h0:w.cell? (Aa g (i*2+j))=some u:=by
     refine BC (w:=w) hL (g:=g) rfl ?_;rw[<-M4,ID]at d;exact d
    refine(DR ?_).trans h0
    exact(JA _ w.heap.size g _ (by omega)).trans (Dc w.drew _ _ aR))
   (by rw[aI,Lr,aL];omega) (M3 _)
 have aV:Hid (HR w (((w.drew.aC c0 70).setRow w.heap.size (DD c0.toList i t v).toArray).drew.setRow w.heap.size (Dr (DD c0.toList i t v) L i).toArray) (AJ g L.length L.length) (L.take i++(t,v):: L.drop i) (AJ w.heap.size (L.length+1) H)):=by
  have aU:(((w.drew.aC c0 70).setRow w.heap.size (DD c0.toList i t v).toArray).drew.setRow w.heap.size (Dr (DD c0.toList i t v) L i).toArray).heap[w.heap.size]?=some (.cells (Dr (DD c0.toList i t v) L i).toArray 70 (0,0)):=Kx _ w.heap.size _ _ 70 _ aQ;have aN:(L.take i++(t,v):: L.drop i).length=L.length+1:=by simp;omega
  obtain⟨k1,k2⟩:=A0p L i (by omega) t v c0.toList aE (by omega);refine⟨?_,?_,λg' h'=>by simp[Value.ownBlock]at h';exact .inr (by omega)⟩
  ·unfold Dm;rw[aN];refine⟨by rw[G5,aN],.inr ⟨w.heap.size,H,_,rfl,Cf _,aU,aM,by unfold maxLen;omega,?_,k1⟩⟩;rw[Lr,k2,E]
  ·refine⟨rfl,rfl,rfl,by simp,λk hk hn=>?_⟩;(have aD:k≠w.heap.size:=by omega);rw[JA _ _ k _ aD];exact(JA _ _ k _ aD).trans (Dc w.drew _ _ hk)
 have q1:((i:Int)==(L.length:Int))=false:=by simp;omega
 have q2:¬(H=i):=by omega
 have q3:¬(H=i+1):=by omega
 have q3':¬(L.length=i):=by omega
 have q4:(i:Int)<=(L.length:Int):=by omega
 have q8:((i:Int)+1).toNat=i+1:=by omega
 have q9:(i:Int)+1<=(L.length:Int)+1:=by omega
 have q10:=C3 i;have q11:(i:Int)<=(L.length:Int)+1:=by omega
 have q13:(0:Int)<=(i:Int)+1:=by omega
 have q12:IntKind.i64.wrap ((i:Int)+1)=(i:Int)+1:=by simp only[Jr];omega
 have q14:IntKind.i64.wrap ((L.length:Int)+1-(i:Int))=(L.length:Int)+1-(i:Int):=by simp only[Jr];omega
 have aG:=A1 z
 go_enter func139,ntmps139
 go_wp2_with (first
  | (at_builtin;refine Lib.wpList_append_run _ rfl (.tmp 34) (.tmp 39) 66 3 rfl _ _ (by rfl) (by rfl) _ _ aG.o ?_)
  | (refine LM _ rfl (.tmp 43) (.tmp 44) 66 66 rfl _ _ (by rfl) (by rfl) (aO.o _ _) ?_))
 refine Ko 8 (by kernel_rfl) (by kernel_rfl) ?_;simp only[Li,F8,ET,DE,Dp]
 repeat still_step
 refine Kp ?_;refine LM _ rfl (.tmp 50) (.tmp 53) 66 66 rfl _ _ (by rfl) (by rfl) (aB.o _ _ _) ?_;go_wp2;go_ret;exact⟨_,rfl,aV.o⟩
def A0j(w:World)(E:Option Addr)(cap:Nat)(L:List Pt)(i h:Nat)(t v:Int)(H:Dm w (.slice E L.length cap) L)(hi:i<=L.length)(z:L.length<1099511627776)(X:w.heap[h]?=some (.cells #[.int .i64 t,.int .i64 v] 70 (0,0)))(O:(Value.slice E L.length cap).ownBlock≠some h):
 Calls Tryz.prog 139 #[.slice E L.length cap,.int .i64 i,.slice (some ⟨h,0,none⟩) 1 1] w λe w'=>∃lv',e=.returned lv'/\HR w w' (.slice E L.length cap) (L.take i++(t,v):: L.drop i) lv':=by
 by_cases W:i=L.length
 ·subst W;exact A0i w E cap L h t v H z X
 ·obtain⟨_,_,he,h1,h2,Y,h4,h5⟩:=B8 H;cases he;obtain⟨g,rfl⟩:=Y (by omega);have I:h≠g:=λe=>O (by simp[Value.ownBlock,e]);by_cases d:L.length+1<=cap
  ·exact A0g w g cap L i h t v H (by omega) d z X I
  ·exact A0h w g cap L i h t v H (by omega) (by omega) z X
def TG{l:List Pt}{t:Int}(h:EC l t=true):∃d:BG l t<l.length,(l[BG l t]'d).1=t:=by
 unfold EC at h;by_cases d:BG l t<l.length
 ·rw[E2 d]at h;exact⟨d,by simpa using h⟩
 ·rw[N3 (by omega)]at h;cases h
def Tx(l:List Pt)(t v:Int):CU l t v=if EC l t then l.set (BG l t) (t,v) else l.take (BG l t)++(t,v):: l.drop (BG l t):=by
 rw[A0v];show _++_::(if EC l t then _ else _)=_;by_cases h:EC l t=true
 ·obtain⟨d,_⟩:=TG h;rw[Ah h,Ah h,List.set_eq_take_append_cons_drop,Ah d]
 ·rw[Ad h,Ad h]
def Tw{l:List Pt}{t v:Int}(h:l.length<1099511627775):(CU l t v).length<1099511627776:=by
 have:(CU l t v).length<=l.length+1:=by
  rw[Tx];split
  ·simp
  ·simp;omega
 omega
def Ya(w:World)(z E:Nat)(cs:Array Value)(T:Nat)(hT:T≠70)(L:List Pt)(lv:Value)(t v:Int)(h:H9 w z E cs T L lv)(aJ:L.length<1099511627775):
 Ag 102 #[.pointer (some (Aa z E)),.agg #[A0 t,A0 v]] w (Al (.tuple #[]) λw'=>∃lv',Hn w w' z E cs T lv (CU L t v) lv'):=by
 have H:=A1 h;obtain⟨X,cap,rfl,h1,h2,h3,h4,h5⟩:=B8 h.Bv;unfold maxLen at h2;have aY:=A1 h3;have aK:=Tx L t v;have aM:=IT L t;obtain⟨i,aD⟩:∃i,BG L t=i:=⟨_,rfl⟩;obtain⟨hs,aF⟩:∃hs,EC L t=hs:=⟨_,rfl⟩;have a1:Hid (hs=true->i<L.length):=λe=>by
  obtain⟨q,_⟩:=TG (aF.trans e);rw[aD]at q;exact q
 have aX:Hid (∀W,A3 Ab w W->Ag 116 #[.pointer (some (Aa z E)),A0 t] W (Al (.tuple #[A0 i,.bool hs]) λw'=>A3 Ab W w')):=λW hW=>
  (Mm W z E L _ t (H.o.Aj hW).bX).mono (by rintro e w'⟨rfl,h⟩;rw[aD,aF];exact⟨rfl,h⟩)
 rw[aD,aF]at aK;rw[aD]at aM;have aP:=A1 aK;have aS:=BN w (.cells #[A0 t,A0 v] 70);have a0:=A1 aS;have hbl:=By h.Af;have aR:L.length<1099511627776:=h.CP;have iz:=C3 i;have aL:Hid (∀W,A3 Ab (w.aC #[A0 t,A0 v] 70) W->A3 Ab w W/\W.heap[w.heap.size]?=some (.cells #[A0 t,A0 v] 70 (0,0))/\H9 W z E cs T L (.slice X L.length cap)):=λW hW=>by
  have h1:A3 Ab w W:=((A3.I _ w).ak _).tr hW;exact⟨h1,(hW.Ao _ (by simp) (λh=>h)).trans a0.o,H.o.Aj h1⟩
 cases hs with
 | true=>
  have aO:=a1.o rfl;obtain⟨g,rfl⟩:=aY.o (by omega);have i1:(i:Int)<(L.length:Int):=by omega
  have aH:Hid (∀W n,A3 Ab (w.aC #[A0 t,A0 v] 70) W->Hn w (((W.drewN n).sC g (i*2) (A0 t)).sC g (i*2+1) (A0 v)) z E cs T (AJ g L.length cap) (CU L t v) (AJ g L.length cap)):=by
   intro W n hW;obtain⟨Y,k2,d⟩:=aL.o W hW;have s1:=((Ay d.Bv (w':=W.drewN n) λ_ _=>rfl).stored (i*2) (A0 t)).1;have s2:=(s1.stored (i*2+1) (A0 v)).1;have e:=Yl L i (t,v) aO;simp only at e;rw[e]at s2;obtain⟨ce,aN⟩:=Be d.Bv (g:=g) rfl;(have aA:z≠g:=λe=>by subst e;rw[d.Af]at aN;cases aN;exact hT rfl);have O:CU L t v=L.set i (t,v):=aP.o;have aE:cs.setIfInBounds E (AJ g L.length cap)=cs:=by
    obtain⟨aG,he⟩:=Q6.1 H.o.Cj;apply A3X;intro k;by_cases hk:E=k
    ·subst hk;simp[aG,he]
    ·rw[VD hk]
   refine⟨⟨?_,by rw[aE];exact H.o.Cj,?_,L1 H.o.FA t v,Tw aJ⟩,?_,λg hg=>.inl hg⟩
   ·rw[aE,GF _ _ _ _ aA,GF _ _ _ _ aA];exact d.Af
   ·rw[O];unfold Dm;rw[Jh];exact s2
   ·exact(((Y.ba n).aa (S':=λk=>k=z\/(AJ g L.length cap).oB k) (λ_ _ h=>h.elim)).ao (b:=g) (.inr rfl) (i*2) _).ao (b:=g) (.inr rfl) (i*2+1) _
  go_enter func102,ntmps102
  go_wp2_with (fail);refine(aX.o _ ((A3.I _ w).ak _)).mono ?_;rintro e w1⟨rfl,Y⟩;have aQ:=A1 Y;obtain⟨k2,d,k4⟩:=aL.o w1 Y;have c0:=k4.bX.D9;have p0:w1.cell? (Aa w.heap.size 0)=some (A0 t):=by simp[World.cell?,d]
  have p1:w1.cell? (Aa w.heap.size 1)=some (A0 v):=by simp[World.cell?,d]
  obtain⟨o0,o1⟩:=k4.Bv.bz i aO;have z0:=G6 k4.Bv (g:=g) rfl (i*2);have z1:=G6 k4.Bv (g:=g) rfl (i*2+1);go_wp2;refine Ko 7 (by kernel_rfl) (by kernel_rfl) ?_;simp only[Li,F8,ET,DE,Dp]
  repeat still_step
  refine Kp ?_;go_wp2;refine ME (Rh rfl _ _ _) rfl ?_;exact⟨rfl,_,aH.o w1 1 aQ.o⟩
 | false=>
  have aW:Hid (∀W,A3 Ab (w.aC #[A0 t,A0 v] 70) W->Ag 139 #[.slice X L.length cap,A0 i,AJ W.heap.size 1 1] (W.aC #[A0 t,A0 v] 70) λe w'=>∃lv',e=.returned lv'/\HR (W.aC #[A0 t,A0 v] 70) w' (.slice X L.length cap) (L.take i++(t,v):: L.drop i) lv'):=λW hW=>by
   obtain⟨Y,k2,d⟩:=aL.o W hW;exact A0j _ X cap L i W.heap.size t v (Ay d.Bv λg hg=>Dc _ _ _ (AB d.Bv hg)) aM aR (BN W _) (λe=>by have:=AB d.Bv e;omega)
  have aH:Hid (∀W I lv',A3 Ab (w.aC #[A0 t,A0 v] 70) W->HR (W.aC #[A0 t,A0 v] 70) I (.slice X L.length cap) (L.take i++(t,v):: L.drop i) lv'->
   (I.cell? (Aa z E)=some (.slice X L.length cap)/\I.cell? (Aa w.heap.size 0)=some (A0 t)/\I.cell? (Aa w.heap.size 1)=some (A0 v))/\I.frozen? (Aa z E)=false/\Hn w (I.sC z E lv') z E cs T (.slice X L.length cap) (CU L t v) lv'/\∃a c,lv'=.slice a (L.length+1) c):=by
   intro W I lv' hW hI;obtain⟨Y,k2,d⟩:=aL.o W hW;have aT:(Value.slice X L.length cap).ownBlock≠some z:=λe=>by
    obtain⟨c,hh⟩:=Be d.Bv e;rw[d.Af]at hh;cases hh;exact hT rfl
   have aU:(Value.slice X L.length cap).ownBlock≠some w.heap.size:=λe=>by
    have:=AB H.o.Bv e;omega
   have aB:I.heap[z]?=some (.cells cs T (0,0)):=(hI.Aj.Ao z (by have:=By d.Af;simp;omega) aT).trans ((Dc _ _ _ (By d.Af)).trans d.Af);have aI:I.heap[w.heap.size]?=some (.cells #[A0 t,A0 v] 70 (0,0)):=(hI.Aj.Ao _ (by have:=By k2;simp;omega) aU).trans ((Dc _ _ _ (By k2)).trans k2);(have aV:(L.take i++(t,v):: L.drop i).length=L.length+1:=by simp;omega);(have O:CU L t v=L.take i++(t,v):: L.drop i:=by have:=aP.o;simpa using this);refine⟨⟨by simp[World.cell?,aB,H.o.Cj],by simp[World.cell?,aI],by simp[World.cell?,aI]⟩,by simp[World.frozen?,aB],⟨⟨Cq aB,?_,?_,L1 H.o.FA t v,Tw aJ⟩,?_,?_⟩,?_⟩
   ·have aG:E<cs.size:=(Q6.1 H.o.Cj).1;simp[aG]
   ·rw[O];refine Ay hI.Bv λg hg=>?_;have aA:g≠z:=λe=>by
     obtain⟨c,hh⟩:=Be hI.Bv hg;subst e;rw[aB]at hh;cases hh;exact hT rfl
    exact GF _ _ _ _ (λe=>aA (by simpa using e))
   ·have c1:A3 (λk=>k=z\/(Value.slice X L.length cap).oB k) w I:=((Y.ak (.cells #[A0 t,A0 v] 70)).aa (λ_ _ h=>h.elim)).Ap hI.Aj (λx hx _=>.inr hx);exact c1.ao (.inl rfl) E _
   ·intro g hg;rcases hI.AA g hg with h|h
    ·exact .inl h
    ·right;have:=Y.Ak;simp at h;omega
   ·obtain⟨a,c,e,_⟩:=B8 hI.Bv;rw[aV]at e;exact⟨a,c,e⟩
  go_enter func102,ntmps102
  go_wp2_with (fail);refine(aX.o _ ((A3.I _ w).ak _)).mono ?_;rintro e w1⟨rfl,Y⟩;have aQ:=A1 Y;obtain⟨k2,d,k4⟩:=aL.o w1 Y;have c0:=k4.bX.D9;have p0:w1.cell? (Aa w.heap.size 0)=some (A0 t):=by simp[World.cell?,d]
  have p1:w1.cell? (Aa w.heap.size 1)=some (A0 v):=by simp[World.cell?,d]
  go_wp2;refine FJ (λw'=>w'.cell? (Aa z E)=some (.slice X L.length cap)/\w'.cell? (Aa w.heap.size 0)=some (A0 t)/\w'.cell? (Aa w.heap.size 1)=some (A0 v)) 9
   (Bq [0,1,2,3,4,5,6,7,8] [7,8]) (by kernel_rfl) (by kernel_rfl) (λ_ _ _ _ _ h=>h) ⟨c0,p0,p1⟩ ?_
  iterate 7 (refine E8 (v:=?_) rfl (by rfl) ?_ ?_;rotate_left;(· (intro w' hS;(try dsimp only at hS);go_simp;try with_reducible rfl));(try simp only[An]))
  refine DW rfl (by rfl) (λK hK=>?_);go_simp;refine hK _ _ ?_ (λhS=>?_)
  ·simp[World.cell?_alloc_some,c0,p0,p1]
  (try simp only[An])
  refine DW rfl (by rfl) (λK hK=>?_);go_simp;refine(aW.o w1.drew aQ.o.af).mono ?_;rintro e I⟨lv',rfl,hI⟩;obtain⟨f1,f2,f3,a3,d3,rfl⟩:=aH.o w1.drew I lv' aQ.o.af hI;have aZ:=A1 f3;refine hK _ _ f1 (λhS=>?_);obtain⟨f1,-,-⟩:=f1
  (try simp only[An])
  refine Bl ?_;simp only[DE,Dp];go_wp2;go_end0;exact⟨rfl,_,aZ.o⟩
end
section
open Go.RowKit
def Hn.a6{w d w':World}{b o:Nat}{z:Array Value}{T:Nat}{lv lv':Value}{E:List Pt}(h:Hn d w' b o z T lv E lv')(H:A3 Ab w d):Hn w w' b o z T lv E lv':=
 ⟨h.Bv,(H.aa λ_ _ h=>h.elim).tr h.Aj,λg I=>(h.AA g I).imp id λh=>AM H.Ak h⟩
def ZR(w:World)(O z:Nat)(Y:Array Value)(T:Nat)(hT:T≠70)(A6 d t v:Int)(L:List Pt)(lv:Value)(hsr:z<8)(h:H9 w O (7+z) Y T L lv)(aH:L.length<1099511627775)(h3:Y[3]?=some (A0 d))(h4:Y[5]?=some (A0 A6))(hl:1<=d/\d<=4611686018427387904)(hc:AN A6):
 Ag 60 #[A5 O,.agg #[A0 z,A0 t,A0 v]] w (Al (.tuple #[]) λw'=>
  ((Ba A6 d<=t/\∃lv',Hn w w' O (7+z) Y T lv (CU L t v) lv')\/(t<Ba A6 d/\A3 Ab w w'))):=by
 have c3:A7 w O 3 (A0 d):=by simp[A7,World.cell?,h.Af,h3]
 have c4:A7 w O 5 (A0 A6):=by simp[A7,World.cell?,h.Af,h4]
 have aJ:∀w',A3 Ab w w'->_:=λw' W=>M8 w' O A6 d (W.al c3) (W.al c4) hl hc;generalize ho:Ba A6 d=o at aJ ⊢;have aL:∀w',A3 Ab w w'->_:=λw' W=>Ya w' O (7+z) Y T hT L lv t v (h.Aj W) aH;have aB:=A1 aJ;have aD:=A1 aL
 go_enter func60,ntmps60
 go_wp2;have hb:(w.alloc (.cells #[A0 z,A0 t,A0 v] 113)).heap[w.heap.size]?=some (.cells #[A0 z,A0 t,A0 v] 113 (0,0)):=by show (w.heap.push _)[w.heap.size]?=_;rw[IG]
 have I:Hid ((w.alloc (.cells #[A0 z,A0 t,A0 v] 113)).heap[w.heap.size]?=some (.cells #[A0 z,A0 t,A0 v] 113 (0,0))/\A3 Ab w (w.alloc (.cells #[A0 z,A0 t,A0 v] 113))):=⟨hb,(A3.I _ w).ak _⟩;generalize (w.alloc (.cells #[A0 z,A0 t,A0 v] 113))=w1 at I ⊢;refine Hc 5 (λy=>{tmps:=#[A5 O,.agg #[A0 z,A0 t,A0 v],undef,A5 w.heap.size,y 0,y 1,y 2,y 3,y 4,undef,undef,undef,undef,undef,undef,undef,undef,undef,undef],defers:=[]}) (λ_=>undef)
  (λw'=>w'.heap[w.heap.size]?=some (.cells #[A0 z,A0 t,A0 v] 113 (0,0))/\A3 Ab w w') (A3 Ab)
  (λj x w'=>match j with
   | 0=>x=.pointer (some (Aa w.heap.size 1))
   | 1=>x=.pointer (some (Aa w.heap.size 1))
   | 2=>x=A0 t
   | 3=>x=(A5 O)
   | 4=>x=A0 o
   | _=>True)
  (by kernel_rfl) (by kernel_rfl) rfl ?_ ?_ ?_ ?_
 ·exact⟨I.o.1,I.o.2.af⟩
 ·intro j x w1 w2 hR hS' hG;split at hG<;>exact hG
 ·clear I;simp only[F8,ET,FG,HJ]
  repeat' (with_reducible apply And.intro)
  all_goals refine⟨?_,(by intro y E _ _ h;exact Bool.noConfusion h),λy x=>rfl⟩
  all_goals
   intro y E X hd hw K hK;obtain⟨aA,aG⟩:=X;simp[Gd,Region.binds,Fc,List.filter_cons]at hd;(have p1:A7 E w.heap.size 1 (A0 t):=by simp[A7,World.cell?,aA]);have H:Hid (E.heap[w.heap.size]?=some (.cells #[A0 z,A0 t,A0 v] 113 (0,0))/\A3 Ab w E):=⟨aA,aG⟩;have aK:=A1 hK
  all_goals dsimp only
  all_goals try go_simp
  all_goals try with_reducible exact aK.o _ _ _ rfl (by simp[Act.put,hd]) (A3.I _ _) H.o
  all_goals
   refine(aB.o E H.o.2).mono ?_;rintro e w2⟨rfl,W⟩;exact aK.o _ _ _ rfl (by simp[Act.put,hd]) W ⟨W.aj H.o.1 (by simp),H.o.2.tr W⟩
 ·intro y E X hG;have h2:y 2=A0 t:=hG 2 (by omega);have h4:y 4=A0 o:=hG 4 (by omega);have p0:A7 E w.heap.size 0 (A0 z):=by simp[A7,World.cell?,X.1]
  have p1:A7 E w.heap.size 1 (A0 t):=by simp[A7,World.cell?,X.1]
  have p2:A7 E w.heap.size 2 (A0 v):=by simp[A7,World.cell?,X.1]
  have H:=A1 X;have hsrI:(z:Int)<8:=by omega
  by_cases aE:o<=t
  ·go_wp2;refine FJ (λw'=>A7 w' w.heap.size 0 (A0 z)/\A7 w' w.heap.size 1 (A0 t)/\A7 w' w.heap.size 2 (A0 v)) 8
    (Bq [0,1,2,3,4,5,6,7] []) (by kernel_rfl) (by kernel_rfl) (λ_ _ _ _ _ h=>h) ⟨p0,p1,p2⟩ ?_
   iterate 8 (refine E8 (v:=?_) rfl (by rfl) ?_ ?_;rotate_left;(· (intro w' X;(try dsimp only at X);go_simp;try with_reducible rfl));(try simp only[An]))
   refine Bl ?_;simp only[DE,Dp];have aI:=A1 (aD.o E.drew H.o.2.af);go_wp2_with (go_at_call 102;refine aI.m ?_;rintro e w2⟨rfl,lv',hR⟩;have aF:=A1 hR);go_end0
   first|exact⟨rfl,lv',aF.o.before H.o.2.drew⟩|exact⟨rfl,.inl ⟨lv',aF.o.before H.o.2.drew⟩⟩|exact⟨rfl,.inl ⟨aE,lv',aF.o.a6 H.o.2.af⟩⟩
  ·(have hlt:t<o:=by omega);go_wp2;go_end0;exact⟨rfl,.inr H.o.2⟩
end
end Go.Proofs.YtodcnkbblippnaaGreatDoor
