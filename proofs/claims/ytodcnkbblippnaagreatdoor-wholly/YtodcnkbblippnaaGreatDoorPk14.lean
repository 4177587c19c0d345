/- Part 14 of a proof: walks of the program. -/
import Derived.Lib.AppendZeros
import Derived.Lib.Overlaps
import Derived.Lib.SliceRun
import Derived.Test.YtodcnkbblippnaaGreatDoorPk13
namespace Go.Proofs.YtodcnkbblippnaaGreatDoor
set_option maxRecDepth 100000
set_option maxHeartbeats 32000000
set_option linter.defProp false
open Go.Proofs.Tryz
section
open Go.RowKit
def HJ(n:DN):(bg n).2.2.AG=n.AG:=by
 unfold bg;dsimp only
 split
 ·rfl
 ·split
  ·rfl
  ·split<;>rfl
def NG{F G:Nat->FC}:∀ {es:List AO},(∀e∈es,(G e.2).1.length=(F e.2).1.length)->B6 G es=B6 F es
 | [],_=>rfl
 | e::r,h=>by
  simp only[B6];rw[h e (BC ..),NG λx d=>h x (Bw _ d)]
section
variable {P P':PD} {A:Ar} {J:Jn} {nm:Bs}
def QA(d:Extra P nm P'):B6 P'.F P'.D.A4<=B6 P.F P.D.A4+(P'.F P.D.AU).1.length:=by
 have old:B6 P'.F P.D.A4=B6 P.F P.D.A4:=NG λe z=>by
  rw[d.En _ λh=>P.D.cz (h ▸ .inl ⟨e,z,rfl⟩)]
 rcases d.Hp with⟨d1,_⟩|⟨_,d1,_⟩
 ·rw[d1,old];omega
 ·rw[d1,Kz,old];simp[B6]
def Qz(P:PD)(x:ByteArray):B6 (P.ae x).2.F (P.ae x).2.D.A4=B6 P.F P.D.A4:=by
 unfold PD.ae CG;split
 ·rfl
 ·dsimp only
  refine NG λe _=>?_;split
  ·unfold upd;split
   ·rename_i h;rw[h]
   ·rfl
  ·rfl
def Qy:∀(l:List Bs) (P:PD),B6 (PD.az l P).2.F (PD.az l P).2.D.A4=B6 P.F P.D.A4
 | [],_=>rfl
 | nm::r,P=>by
  unfold PD.az;split
  ·exact Qz P _
  ·rw[Qy r,Qz]
def WA(A:Ar)(P:PD):B6 (A.C P).2.2.F (A.C P).2.2.D.A4=B6 P.F P.D.A4:=by
 unfold Ar.C;split<;>exact Qy _ P
def M7(P:PD)(x:ByteArray):(P.ae x).2.D.n.AG=P.D.n.AG:=by
 unfold PD.ae CG;split
 ·rfl
 ·exact HJ _
def Rp:∀(l:List Bs) (P:PD),(PD.az l P).2.D.n.AG=P.D.n.AG
 | [],_=>rfl
 | nm::r,P=>by
  unfold PD.az;split
  ·exact M7 P _
  ·rw[Rp r,M7]
def IH(A:Ar)(P:PD):(A.C P).2.2.D.n.AG=P.D.n.AG:=by
 unfold Ar.C;split<;>exact Rp _ P
def II(P:PD)(x:ByteArray):(P.ak x).2.D.n.AG=P.D.n.AG:=by
 unfold PD.ak CT;split
 ·rfl
 ·dsimp only
  split<;>exact HJ _
def Rt(P:PD)(x:ByteArray)(l:Bs):(P.an x l).2.D.n.AG=P.D.n.AG:=by
 have d:∀D F f y h e,(BB D F f y h e).2.1.n.AG=D.n.AG:=λD F f y h e=>by
  unfold BB;split
  ·dsimp only;split<;>rfl
  ·rfl
 unfold PD.an Bp;split
 ·rfl
 ·dsimp only
  split
  ·rw[d];exact HJ _
  ·split
   ·rw[d];exact HJ _
   ·exact HJ _
def O6(J:Jn)(P:PD):(J.ax P).2.2.D.n.AG=P.D.n.AG:=by
 unfold Jn.ax;split
 ·exact II P _
 ·dsimp only
  have h:((P.ak (A9 (Ah (J.Aa+1)))).2.ad (A9 (Ah (J.Aa+1))) (AH (Ah (J.Aa+1))) (AS J.puts)).2.2.D.n.AG=P.D.n.AG:=(Rt _ _ _).trans (II P _);split<;>exact h
def PJ{x:ByteArray}{l:Bs}(h:(P.an x l).1=6):P.D.n.AG-B6 P.F P.D.A4<l.length:=by
 have L:=Gp P.D.n;have d:∀D z,∀e:Int,e=0\/e=5->(BB D P.F 0 (A9 l) z e).1=6->e=0/\z>G2 D P.F:=λD z e he h=>by
  unfold BB at h;split at h
  ·rename_i E;dsimp only at h;split at h
   ·rename_i W;exact⟨W,E⟩
   ·omega
  ·dsimp only at h;omega
 have O:∀D f z e,(BB D P.F f (A9 l) z e).1=(BB D P.F 0 (A9 l) z e).1:=λD f z e=>by unfold BB;split<;>rfl
 have I:((A9 l).size:Int)=l.length:=by rw[KU]
 unfold PD.an Bp at h;split at h
 ·cases h
 ·rename_i f hf;dsimp only at h;split at h
  ·rw[O]at h;obtain⟨_,E⟩:=d _ _ _ L h;unfold G2 at E;dsimp only at E;rw[HJ,I]at E;omega
  ·rename_i H;split at h
   ·rw[O]at h;obtain⟨Y,_⟩:=d _ _ _ L h;exact absurd (GS Y) H
   ·omega
def Ul(P:PD)(x:ByteArray):(P.ak x).1≠6:=by
 have:=Gp P.D.n;unfold PD.ak CT;split
 ·simp
 ·dsimp only;omega
def A3i(h:(J.ax P).1=6):P.D.n.AG-B6 P.F P.D.A4<12:=by
 obtain⟨d,e2⟩:=JV P (Ah (J.Aa+1));have z:(P.ak (A9 (Ah (J.Aa+1)))).2.F P.D.AU=([],0):=by unfold PD.ak;simp[upd]
 have hu:=QA d;rw[z]at hu;unfold Jn.ax at h;split at h
 ·exact absurd h (Ul P _)
 ·dsimp only at h;split at h
  ·have:=PJ (P:=(P.ak (A9 (Ah (J.Aa+1)))).2) (x:=A9 (Ah (J.Aa+1))) (l:=AT (AH (Ah (J.Aa+1))) (AS J.puts)) h;rw[EE,CP,II]at this;simp only[Iw]at hu;omega
  ·cases h
def S9{p:Pu}(h:(J.aw P p).2.1=6):P.D.n.AG-B6 P.F P.D.A4<21:=by
 unfold Jn.aw at h;split at h
 ·cases h
 ·rename_i n s _;have:=PJ (P:=P) (x:=A9 (Ah n)) (l:=AT s (Bb p.1 p.2.1 p.2.2)) h;rw[EE,EY]at this;omega
def A04{p:Pu}(h:(J.ad P p).2.1=6):P.D.n.AG-B6 P.F P.D.A4<33:=by
 unfold Jn.ad at h;split at h
 ·split at h
  ·have:=A3i h;omega
  ·have z:=S9 h;obtain⟨d,⟨j,E⟩,_⟩:=MV P J;have hu:=QA d;rw[E]at hu;dsimp only at hu;rw[BW,EE,CP]at hu;rw[O6]at z;omega
 ·have:=S9 h;omega
def A3A{p:Pu}(h:(A.ad P p).2.1=6):P.D.n.AG-B6 P.F P.D.A4<200:=by
 unfold Ar.ad at h;split at h
 ·exact absurd h (NV A P)
 ·have:=A04 h;rw[IH,WA]at this;omega
end
end
section
open Go.RowKit
attribute [local go_sem ↓] Go.wp_at_zero Go.wp_at_succ
def FV(d a b Ad A6:Int)(p:Pu):Bool:=decide (p.1=d)&&decide (a<=p.2.1)&&decide (p.2.1<=b)&&FM p.2.1 Ad A6
def E0(d a b Ad A6:Int)(l:List Pt)(p:Pu):List Pt:=if FV d a b Ad A6 p then CA l p.2.1 p.2.2 else l
def refQ(puts:List Pu)(d a b Ad A6:Int):List Pt:=puts.foldl (E0 d a b Ad A6) []
def OZ(l:List Pt)(t v:Int):l.length<=(CA l t v).length/\(CA l t v).length<=l.length+1:=by
 induction l with
 | nil=>simp[CA]
 | cons e r ih=>
  obtain⟨a,b⟩:=e;simp only[CA];split
  ·simp only[Cx];omega
  ·split<;>simp only[Cx]<;>omega
def Ys(puts:List Pu)(k:Nat)(h:k<puts.length)(d a b Ad A6:Int):refQ (puts.take (k+1)) d a b Ad A6=E0 d a b Ad A6 (refQ (puts.take k) d a b Ad A6) (puts[k]'h):=by
 unfold refQ;rw[DB h,Kj];rfl
def Yx(puts:List Pu)(d a b Ad A6:Int)(k:Nat)(hk:k<=puts.length):Dz (refQ (puts.take k) d a b Ad A6)/\(refQ (puts.take k) d a b Ad A6).length<=k:=by
 induction k with
 | zero=>simp[refQ,Dz]
 | succ k ih=>
  obtain⟨h,h2⟩:=ih (by omega);rw[Ys puts k (by omega)];unfold E0;split
  ·have:=(OZ (refQ (puts.take k) d a b Ad A6) (puts[k]'(by omega)).2.1 (puts[k]'(by omega)).2.2).2;exact⟨L8 h _ _,by omega⟩
  ·exact⟨h,by omega⟩
end
section
open Go.RowKit
def A1r{l:List Pt}(h:Dz l)(t v:Int)(x:Pt):x∈CA l t v↔x=(t,v)\/(x∈l/\x.1≠t):=by
 induction l with
 | nil=>simp[CA]
 | cons e r ih=>
  obtain⟨a,b⟩:=e;have z:=Dc.1 h;have E:=ih z.2;simp only[CA];by_cases H:a<t
  ·rw[Ai H];simp only[BQ,E];constructor
   ·rintro (rfl|h|⟨h,d⟩)
    ·exact .inr ⟨.inl rfl,by simp only;omega⟩
    ·exact .inl h
    ·exact .inr ⟨.inr h,d⟩
   ·rintro (h|⟨h|h,d⟩)
    ·exact .inr (.inl h)
    ·exact .inl h
    ·exact .inr (.inr ⟨h,d⟩)
  ·rw[Ae H];by_cases d:a=t
   ·subst d;rw[Ai rfl];simp only[BQ];constructor
    ·rintro (h|h)
     ·exact .inl h
     ·exact .inr ⟨.inr h,λe=>by have:=z.1 x h;simp only at this;omega⟩
    ·rintro (h|⟨h|h,d⟩)
     ·exact .inl h
     ·subst h;exact absurd rfl d
     ·exact .inr h
   ·rw[Ae d];simp only[BQ];constructor
    ·rintro (h|h|h)
     ·exact .inl h
     ·subst h;exact .inr ⟨.inl rfl,d⟩
     ·exact .inr ⟨.inr h,λe=>by have:=z.1 x h;simp only at this;omega⟩
    ·rintro (h|⟨h|h,_⟩)
     ·exact .inl h
     ·exact .inr (.inl h)
     ·exact .inr (.inr h)
def Yt(l:List Pu)(p:Pu)(k a b Ad A6:Int):refQ (l++[p]) k a b Ad A6=E0 k a b Ad A6 (refQ l k a b Ad A6) p:=by unfold refQ;rw[Kj];rfl
def Oe(l:List Pu)(k a b Ad A6:Int):Dz (refQ l k a b Ad A6):=by
 have:=(Yx l k a b Ad A6 l.length (As _)).1
 rwa [Cl]at this
def RO(k a b Ad A6:Int)(x:Pt):∀n (l:List Pu),l.length=n->(x∈refQ l k a b Ad A6↔(a<=x.1/\x.1<=b/\FM x.1 Ad A6=true)/\BG l k x.1=some x.2):=by
 intro n
 induction n with
 | zero=>
  intro l L;obtain rfl:l=[]:=GY.1 L;simp[refQ,BG]
 | succ n ih=>
  intro l L;have H:l≠[]:=λh=>by subst h;simp at L
  obtain⟨p,hp⟩:∃p,l=l.dropLast++[p]:=⟨l.getLast H,(Nl H).symm⟩;have W:l.dropLast.length=n:=by rw[Vx,L];rfl
  have d:=ih l.dropLast W;rw[hp,Yt,Ig];generalize l.dropLast=m at d;unfold E0;by_cases E:FV k a b Ad A6 p=true
  ·rw[Ai E,A1r (Oe _ _ _ _ _ _),d];unfold FV at E;simp only[FE,Dn]at E;obtain⟨⟨⟨Y,q2⟩,q3⟩,q4⟩:=E;by_cases z:p.2.1=x.1
   ·rw[Ai ⟨Y,z⟩];constructor
    ·rintro (h|⟨_,h⟩)
     ·subst h;exact⟨⟨q2,q3,q4⟩,rfl⟩
     ·exact absurd z.symm h
    ·rintro⟨_,h⟩;refine .inl ?_;(have:p.2.2=x.2:=by simpa using h);rw[z,this]
   ·rw[Ae λh=>z h.2];constructor
    ·rintro (h|⟨h,_⟩)
     ·subst h;exact absurd rfl z
     ·exact h
    ·intro h;exact .inr ⟨h,λe=>z e.symm⟩
  ·rw[Ae E,d];by_cases I:p.1=k/\p.2.1=x.1
   ·rw[Ai I]
    have O:¬(a<=x.1/\x.1<=b/\FM x.1 Ad A6=true):=λh=>E (by
     unfold FV;rw[I.1,I.2];simp only[MG,LP,FE,Dn]
     exact⟨⟨h.1,h.2.1⟩,h.2.2⟩)
    simp only[O,false_and]
   ·rw[Ae I]
def R9:∀ {l l':List Pt},Dz l->Dz l'->(∀x,x∈l↔x∈l')->l=l'
 | [],[],_,_,_=>rfl
 | [],y::r,_,_,h=>by have:=(h y).2 (BC ..);cases this
 | x::r,[],_,_,h=>by have:=(h x).1 (BC ..);cases this
 | x::r,y::s,h1,h2,h=>by
  have E:=Dc.1 h1;have d:=Dc.1 h2;have I:x=y:=by
   rcases BQ.1 ((h x).1 (BC ..)) with e|e
   ·exact e
   ·rcases BQ.1 ((h y).2 (BC ..)) with L|L
    ·exact L.symm
    ·have a:=d.1 x e;have b:=E.1 y L;omega
  subst I
  congr 1
  refine R9 E.2 d.2 λz=>⟨λH=>?_,λH=>?_⟩
  ·rcases BQ.1 ((h z).1 (Bw _ H)) with e|e
   ·subst e;have:=E.1 z H;omega
   ·exact e
  ·rcases BQ.1 ((h z).2 (Bw _ H)) with e|e
   ·subst e;have:=d.1 z H;omega
   ·exact e
def Yu{l l':List Pu}{k a b Ad A6:Int}(h:∀t,a<=t->t<=b->FM t Ad A6=true->BG l k t=BG l' k t):refQ l k a b Ad A6=refQ l' k a b Ad A6:=by
 refine R9 (Oe _ _ _ _ _ _) (Oe _ _ _ _ _ _) λx=>?_;rw[RO k a b Ad A6 x _ l rfl,RO k a b Ad A6 x _ l' rfl];constructor
 ·rintro⟨d,z⟩;exact⟨d,by rw[<-h x.1 d.1 d.2.1 d.2.2];exact z⟩
 ·rintro⟨d,z⟩;exact⟨d,by rw[h x.1 d.1 d.2.1 d.2.2];exact z⟩

end
section
open Go.RowKit
attribute [local go_sem ↓] Go.wp_at_zero Go.wp_at_succ

end
section
open Go.RowKit
def Ms(w:World)(x:Int):Af 63 #[A0 x] w (Aj (.bool (decide (0<=x/\x<8))) λw'=>w=w'):=by
 obtain⟨q,d⟩:∃q,decide (0<=x/\x<8)=q:=⟨_,rfl⟩;rw[d];have h:=A1 d;by_cases h1:0<=x<;>by_cases h2:x<8
 all_goals try (exfalso;omega)
 all_goals
  go_enter func63,ntmps63
  go_wp2;go_ret;refine⟨?_,rfl⟩;rw[<-h.o];simp
  try omega
def TE(w:World)(x:Int):Af 58 #[A0 x] w (Aj (.bool (decide (1<=x/\x<=4611686018427387904))) λw'=>w=w'):=by
 obtain⟨q,d⟩:∃q,decide (1<=x/\x<=4611686018427387904)=q:=⟨_,rfl⟩;rw[d];have h:=A1 d;by_cases h1:1<=x<;>by_cases h2:x<=4611686018427387904
 all_goals try (exfalso;omega)
 all_goals
  go_enter func58,ntmps58
  go_wp2;go_ret;refine⟨?_,rfl⟩;rw[<-h.o];simp
  try omega
def Bc(A6 Ad:Int):Int:=if A6 < -9223372036854775808+Ad then -9223372036854775808 else A6-Ad+1
def Zu(A6 Ad t:Int)(d:AE t):decide (Bc A6 Ad<=t)=FM t Ad A6:=by
 obtain⟨t1,t2⟩:=d;unfold Bc FM;split<;>simp<;>omega
def Mj(w:World)(d:Nat)(A6 Ad:Int)(c3:A7 w d 3 (A0 Ad))(c4:A7 w d 5 (A0 A6))(I:1<=Ad/\Ad<=4611686018427387904)(L:AE A6):
 Af 71 #[A5 d] w (Aj (A0 (Bc A6 Ad)) λw'=>A3 Ab w w'):=by
 obtain⟨l1,l2⟩:=I;obtain⟨k1,k2⟩:=L;have ew:IntKind.i64.wrap (-9223372036854775808+Ad) = -9223372036854775808+Ad:=by simp[IntKind.wrap,IntKind.bits,IntKind.signed];omega
 go_enter func71,ntmps71
 go_wp2;refine FQ (λw'=>A7 w' d 3 (A0 Ad)/\A7 w' d 5 (A0 A6)) 9
  (Br [0,1,2,3,4,5,6,7,8] []) (by kernel_rfl) (by kernel_rfl) (λ_ _ _ _ _ h=>h) ⟨c3,c4⟩ ?_
 iterate 9 (refine Ec (v:=?_) rfl (by rfl) ?_ ?_;rotate_left;(· (intro w' H;(try dsimp only at H);go_simp;try with_reducible rfl));(try simp only[An]))
 refine Bl ?_;simp only[DJ,Dq];have d3:A7 w.drew d 3 (A0 Ad):=c3;have d4:A7 w.drew d 5 (A0 A6):=c4;have E:Hid (A3 Ab w w.drew):=(A3.I _ w).af;generalize w.drew=w1 at d3 d4 E ⊢;by_cases h:A6 < -9223372036854775808+Ad
 ·have z:Hid (Bc A6 Ad = -9223372036854775808):=by unfold Hid Bc;rw[Ai h]
  go_wp2;go_ret;rw[z.o];exact⟨rfl,E.o⟩
 ·have z:Hid (Bc A6 Ad=A6-Ad+1):=by unfold Hid Bc;rw[Ae h]
  have ew2:IntKind.i64.wrap (A6-Ad)=A6-Ad:=by simp[IntKind.wrap,IntKind.bits,IntKind.signed];omega
  have ew3:IntKind.i64.wrap (A6-Ad+1)=A6-Ad+1:=by simp[IntKind.wrap,IntKind.bits,IntKind.signed];omega
  go_wp2;refine FQ (λw'=>A7 w' d 3 (A0 Ad)/\A7 w' d 5 (A0 A6)) 10
   (Br [0,1,2,3,4,5,6,7,8,9] []) (by kernel_rfl) (by kernel_rfl) (λ_ _ _ _ _ h=>h) ⟨d3,d4⟩ ?_
  iterate 10 (refine Ec (v:=?_) rfl (by rfl) ?_ ?_;rotate_left;(· (intro w' H;(try dsimp only at H);go_simp;try with_reducible rfl));(try simp only[An]))
  refine Bl ?_;simp only[DJ,Dq];go_wp2;go_ret;rw[z.o];exact⟨rfl,E.o.af⟩
section
variable {P:Program}
def M6(w:World)(dT sT ty elem:TypeId)(i:TypeInfo)(size:Nat)(g o E L:Nat)(a:Addr)(h H k:Nat)(d:Array Value)(t:TypeId)(z:List Value)(hu:P.underlying dT=some (.slice elem))(hi:P.info? elem=some i)(I:i.size=size)(hg:w.heap[g]?=some (.cells d t (0,0)))(hn:Nat.min h E=k)(aA:z.length=k*size)(Y:∀j v,z[j]?=some v->w.cell? (a.add j)=some v)(W:o+z.length<=d.size)(h1:∀v∈z,v.oneCell'=true):
 (Builtin.copy_ #[dT,sT] ty #[.slice (some (Ac g o)) E L,.slice (some a) h H]).run P w =
  .ok (goInt k) (w.setRow g (d.toList.take o++z++d.toList.drop (o+z.length)).toArray):=by
 subst I;have hf:=Rl (P:=P) w i.size k a h H z aA Y;have O:=run_storeCells_at P g o t z 0 d w hg (by simpa using W) h1;simp only[PY]at O;simp[Builtin.copy_,run_underlying hu,Builtin.lenOf,sizeOf,typeInfo,hi,hn,hf,O]
def XN(w:World)(t tn ty e:TypeId)(i:TypeInfo)(z:Value)(kn:IntKind)(ht:P.underlying t=some (.slice e))(Y:P.underlying tn=some (.int kn))(hi:P.info? e=some i)(hz:i.zero=some z)(hs0:0<i.size)(h:Option Addr)(len cap:Nat)(d:List Value)(O:(Builtin.firstCells i.size len (.slice h len cap)).run P w.drew=.ok d.toArray w.drew)(n:Nat)(h0:0<n)(hgrow:cap<len+n)(h63:((len+n:Nat):Int)<=9223372036854775807)(h48:n*i.bytes<=281474976710656)(hcap:Builtin.nextslicecap (len+n) cap*i.bytes<=281474976710656):
 (Builtin.append_ #[t,tn] ty #[.slice h len cap,.int .i64 n]).run P w =
  .ok (.slice (some ⟨w.heap.size,0,none⟩) (len+n) (grownCap w (len+n) cap e)) (w.drew.alloc (.cells (d.toArray++Builtin.zeroCells z.cells n++Builtin.zeroCells z.cells (grownCap w (len+n) cap e-(len+n))) e)):=by
 have hw:IntKind.i64.wrap (n:Int)=n:=by rw[Jo];omega
 have W:¬((n:Int)<0):=by omega
 have L:¬(281474976710656<(n:Int)*(i.bytes:Int)):=by rw[<-Int.natCast_mul];omega
 have aA:¬(n*i.size=0):=Nat.mul_ne_zero (by omega) (by omega);have E:¬(len+n<=cap):=by omega
 have H:¬(281474976710656<Builtin.nextslicecap (len+n) cap*i.bytes):=by omega
 have I:¬(9223372036854775807<(len:Int)+(n:Int)):=by omega
 simp[Builtin.append_,run_underlying ht,run_underlying Y,sizeOf,typeInfo,zeroValue,hi,hz,asInt,asIntOf,hw,W,aA,L,E,H,I,Question.forced,O,newRow,grownCap]
def Sm{w:World}{z e size n g cap:Nat}{xs:List Value}(h:w.ownsRow z e size (.slice (some ⟨g,0,none⟩) n cap) n xs):∃d:Array Value,w.heap[g]?=some (.cells d e (0,0))/\d.size=cap*size/\d.toList.take (n*size)=xs/\n<=cap/\cap<=maxLen:=by
 rcases h.2 with⟨H,_⟩|⟨g',cap',d,H,_,W,I,E,L,O⟩
 ·cases H
 ·cases H;exact⟨d,W,L,O,I,E⟩
end
end
section
open Go.RowKit
attribute [local go_sem ↓] Go.wp_at_zero Go.wp_at_succ
def Gm(x y:Int):Int:=if x<y then -1 else if y<x then 1 else 0
def A2B(x y:Int)(w:World):Af 130 #[A0 x,A0 y] w (Aj (A0 (Gm x y)) λw'=>w=w'):=by
 by_cases h:x<y
 ·have q:Hid (Gm x y = -1):=by unfold Hid Gm;rw[Ai h]
  go_enter func130,ntmps130
  go_wp2;go_ret;rw[q.o];exact⟨rfl,rfl⟩
 ·by_cases d:y<x
  ·(have q:Hid (Gm x y=1):=by unfold Hid Gm;rw[Ae h,Ai d])
   go_enter func130,ntmps130
   go_wp2;go_ret;rw[q.o];exact⟨rfl,rfl⟩
  ·(obtain rfl:x=y:=by omega);(have q:Hid (Gm x x=0):=by unfold Hid Gm;rw[Ae h,Ae d])
   go_enter func130,ntmps130
   go_wp2;go_ret;rw[q.o];exact⟨rfl,rfl⟩
def Py(t v y:Int)(w:World):Af 163 #[.agg #[A0 t,A0 v],A0 y] w (Aj (A0 (Gm t y)) λw'=>A3 Ab w w'):=by
 go_enter func163,ntmps163
 go_wp2_with (go_at_call 130;refine(A2B _ _ _).mono ?_;rintro e w'⟨rfl,rfl⟩);go_ret;exact⟨rfl,(A3.I _ w).ai _⟩
def EH(l:List Pt)(t:Int):Bool:=(l[BH l t]?).any λx=>x.1==t
def XK(w:World)(lv:Value)(L:List Pt)(t:Int)(hL:Du w lv L)(hs:Dz L)(hl:L.length<1099511627776):
 Af 162 #[lv,A0 t,.func (.func 163) #[] #[]] w (Aj (.tuple #[A0 (BH L t),.bool (EH L t)]) λw'=>A3 Ab w w'):=by
 obtain⟨a,cap,rfl,h1,h2,h3,_,_⟩:=B9 hL;unfold maxLen at h2;have aK:=A1 hL;have aM:=A1 hs;have aL:=A1 h3;have aE:=IM L t;have aJ:Hid (∀W,A3 Ab w W->∀k (hk:k<L.length),∃g,a=some (Ac g 0)/\A7 W g (k*2) (A0 (L[k]'hk).1)/\A7 W g (k*2+1) (A0 (L[k]'hk).2)):=by
  intro W hc k hk;obtain⟨g,rfl⟩:=aL.o (by omega);have hW:Du W (AM g L.length cap) L:=Az aK.o λg hg=>hc.Ap g (AI aK.o hg) (λh=>h);exact⟨g,rfl,hW.bz k hk⟩
 go_enter func162,ntmps162
 go_wp2;go_loopw [9,10] (λiv jv wq=>∃i j:Nat,i<=j/\j<=L.length/\iv=A0 i/\jv=A0 j/\Hid (i<=BH L t/\BH L t<=j)/\Hid (A3 Ab w wq)) (λiv jv _=>(intOf jv).toNat-(intOf iv).toNat)
 case atStart=>exact⟨0,L.length,Cq _,As _,rfl,rfl,⟨Cq _,aE⟩,A3.I _ _⟩
 case round=>
  obtain⟨i,j,hij,hj,rfl,rfl,E,d⟩:=hrel;by_cases hlt:i<j
  ·obtain⟨m,hm⟩:∃m,(i+j)/2=m:=⟨_,rfl⟩;(have aH:i<=m:=by omega);(have hmj:m<j:=by omega);(have I:m<L.length:=by omega);obtain⟨g,rfl,c1,c2⟩:=aJ.o _ d.o m I;obtain⟨⟨tm,vm⟩,aD⟩:∃x,L[m]'I=x:=⟨_,rfl⟩;rw[aD]at c1 c2;have aB:=A1 aD;have i0:=C2 i;(have hsum:(i:Int)+(j:Int)<=9223372036854775807:=by omega);(have hlt':(i:Int)<(j:Int):=by omega);by_cases aF:tm<t
   ·(have hc:Gm tm t<0:=by unfold Gm;rw[Ai aF];omega);have hp:Hid (m+1<=BH L t):=by
     unfold Hid;apply Qd;intro hn;have:=KL aM.o (show BH L t<=m by omega) I;rw[aB.o]at this;simp only at this;omega
    go_wp2_with (go_at_call 163;refine(Py _ _ _ _).mono ?_;rintro e w'⟨rfl,z⟩;have H:=A1 z);go_roundw
    case rel=>exact⟨m+1,j,by omega,hj,by rw[show ((i:Int)+(j:Int))/2+1=((m+1:Nat):Int) from by omega],rfl,⟨hp.o,E.o.2⟩,d.o.tr H.o⟩
    case measure=>simp[intOf];omega
   ·have hc:0<=Gm tm t:=by
     unfold Gm;rw[Ae aF];split<;>omega
    have hp:Hid (BH L t<=m):=by
     unfold Hid;apply Qd;intro hn;have:=JE (show m<BH L t by omega) I;rw[aB.o]at this;simp only at this;omega
    go_wp2_with (go_at_call 163;refine(Py _ _ _ _).mono ?_;rintro e w'⟨rfl,z⟩;have H:=A1 z);go_roundw
    case rel=>exact⟨i,m,aH,by omega,rfl,by rw[show ((i:Int)+(j:Int))/2=(m:Int) from by omega],⟨E.o.1,hp.o⟩,d.o.tr H.o⟩
    case measure=>simp[intOf];omega
  ·(obtain rfl:i=j:=by omega);(have aG:Hid (BH L t=i):=by have:=E.o;unfold Hid;omega);by_cases O:i<L.length
   ·obtain⟨g,rfl,c1,c2⟩:=aJ.o _ d.o i O;obtain⟨⟨Y,vi⟩,aA⟩:∃x,L[i]'O=x:=⟨_,rfl⟩;rw[aA]at c1 c2;have i0:=C2 i;(have i1:(i:Int)<(L.length:Int):=by omega);have aI:Hid (EH L t=(Gm Y t==0)):=by
     unfold Hid EH;rw[aG.o,E5 O,aA];simp only[Option.any_some];unfold Gm;by_cases e1:Y<t
     ·rw[Ai e1];have:Y≠t:=by omega
      simp[this]
     ·rw[Ae e1];by_cases e2:t<Y
      ·rw[Ai e2];have:Y≠t:=by omega
       simp[this]
      ·rw[Ae e2];have:Y=t:=by omega
       simp[this]
    go_wp2_with (go_at_call 163;refine(Py _ _ _ _).mono ?_;rintro e w'⟨rfl,z⟩;have H:=A1 z);go_ret2;rw[aG.o,aI.o];exact⟨rfl,d.o.tr H.o⟩
   ·(have hil':(L.length:Int)<=(i:Int):=by omega);have aI:Hid (EH L t=false):=by
     unfold Hid EH;rw[aG.o,Ni (by omega)];rfl
    go_wp2;go_ret2;rw[aG.o,aI.o];exact⟨rfl,d.o⟩
structure N5 (w:World) (b o:Nat) (L:List Pt) (lv:Value):Prop where
 Di:w.cell? ⟨b,o,none⟩=some lv
 By:Du w lv L
 FI:Dz L
 CO:L.length<1099511627776
def Mz(w:World)(b o:Nat)(L:List Pt)(lv:Value)(t:Int)(h:N5 w b o L lv):
 Af 116 #[.pointer (some (Ac b o)),A0 t] w (Aj (.tuple #[A0 (BH L t),.bool (EH L t)]) λw'=>A3 Ab w w'):=by
 have hc:=h.Di;obtain⟨a,cap,rfl,_⟩:=B9 h.By;have H:=A1 h
 go_enter func116,ntmps116
 go_wp2_with (go_at_call 162;refine(XK _ _ _ _ H.o.By H.o.FI H.o.CO).mono ?_;rintro e w'⟨rfl,d⟩;have z:=A1 d);go_ret2;exact⟨rfl,z.o⟩
def Tryz.cA:(Tryz.prog.info? 70).map (λi=>(i.zero,i.size,i.bytes))=some (some (.agg #[A0 0,A0 0]),2,16):=by kernel_rfl
def Z4{l:List Pt}(z:Dz l)(t:Int):BH l (t+1)=BH l t+(if EH l t then 1 else 0):=by
 have I:=IM l t;by_cases h:EH l t=true
 ·rw[Ai h];unfold EH at h;by_cases L:BH l t<l.length
  ·rw[E5 L]at h;simp at h;refine Se z (by omega) (λi d H=>?_) λi d E=>?_
   ·by_cases e:i=BH l t
    ·subst e;omega
    ·have:=JE (show i<BH l t by omega) d;omega
   ·have:=Ke.1 z (BH l t) i L d (by omega);rw[h]at this;omega
  ·rw[Ni (by omega)]at h;cases h
 ·rw[Ae h,PY];refine Se z I (λi d H=>?_) λi d E=>?_
  ·have:=JE H d;omega
  ·have h2:=KL z E d;by_cases e:(l[i]'d).1=t
   ·exfalso;apply h;by_cases O:i=BH l t
    ·subst O;unfold EH;rw[E5 d];simpa using e
    ·have:=Ke.1 z (BH l t) i (by omega) d (by omega);have:=KL z (As (BH l t)) (show BH l t<l.length by omega);omega
   ·omega
def Z5{l:List Pt}(d:Dz l){a b:Int}(h:a<=b):BH l a<=BH l b:=by
 apply Qd;intro hn;have hl:=IM l a;have h1:=JE (show BH l b<BH l a by omega) (by omega);have h2:=KL d (As (BH l b)) (by omega);omega
def piece(l:List Pt)(a b:Int):List Pt:=l.filter λx=>decide (a<=x.1)&&decide (x.1<=b)
def Z6{l:List Pt}(d:Dz l)(a b:Int):piece l a b=(l.take (BH l b+(if EH l b then 1 else 0))).drop (BH l a):=by
 rw[<-Z4 d b,<-A1O d a (b+1)];unfold piece
 congr 1
 funext x
 have:decide (x.1<=b)=decide (x.1<b+1):=by
  apply Nu.2;simp;omega
 rw[this]
def A3g(w:World)(rb ro:Nat)(L:List Pt)(lv:Value)(a b:Int)(h:N5 w rb ro L lv):
 Af 80 #[.pointer (some (Ac rb ro)),A0 a,A0 b] w λe w'=>∃v,e=.returned v/\Du w' v (piece L a b)/\A3 Ab w w'/\∀g,v.ownBlock=some g->w.heap.size<=g:=by
 have H:=A1 h;have hc:=h.Di;obtain⟨ad,cap,rfl,h1,h2,h3,h4,h5⟩:=B9 h.By;unfold maxLen at h2;have HA:=A1 h3;have aU:=GV w _ hc;have aM:Hid (∀W,A3 Ab w W->N5 W rb ro L (.slice ad L.length cap)):=λW I=>
  ⟨(DT (I.Ap rb aU (λh=>h))).trans H.o.Di,Az H.o.By λg hg=>I.Ap g (AI H.o.By hg) (λh=>h),H.o.FI,H.o.CO⟩
 obtain⟨i0,hi,aG,aL,aJ⟩:=E9 Tryz.cA;have hsm:=h.CO;have aY:=A1 h4;have aX:=A1 h5;by_cases hab:b<a
 ·have q:Hid (piece L a b=[]):=by
   unfold Hid piece;rw[VE];intro x _;simp;omega
  go_enter func80,ntmps80
  go_wp2;go_ret;exact⟨_,rfl,by rw[q.o];exact CL _ _ _ _,A3.I _ _,by simp[Value.ownBlock]⟩
 ·have aO:a<=b:=by omega
  have aK:=Z6 H.o.FI a b;have hm:=Z5 H.o.FI aO;have aT:=IM L b;have Y:EH L b=true->BH L b<L.length:=λhh=>by
   unfold EH at hh;apply Qd;intro hn;rw[Ni (by omega)]at hh;cases hh
  obtain⟨i,aI⟩:∃i,BH L a=i:=⟨_,rfl⟩;obtain⟨j,aA⟩:∃j,BH L b=j:=⟨_,rfl⟩;obtain⟨hs,aF⟩:∃hs,EH L b=hs:=⟨_,rfl⟩;rw[aI,aA]at hm;rw[aA]at aT;rw[aF,aA]at Y;rw[aI,aA,aF]at aK;have aS:Hid (∀W,A3 Ab w W->Af 116 #[.pointer (some (Ac rb ro)),A0 a] W λe w'=>∃x,e=.returned (.tuple #[A0 i,.bool x])/\A3 Ab W w'):=λW I=>
   (Mz W rb ro L _ a (aM.o W I)).mono (by rintro e w'⟨rfl,h⟩;rw[aI];exact⟨_,rfl,h⟩)
  have aW:Hid (∀W,A3 Ab w W->Af 116 #[.pointer (some (Ac rb ro)),A0 b] W (Aj (.tuple #[A0 j,.bool hs]) λw'=>A3 Ab W w')):=λW I=>
   (Mz W rb ro L _ b (aM.o W I)).mono (by rintro e w'⟨rfl,h⟩;rw[aA,aF];exact⟨rfl,h⟩)
  have aR:=A1 aK;have O:Hid (∀W (n:Nat),A3 Ab w W->i<=n->n<=L.length->n=j+(if hs then 1 else 0)->∀v,(v=.slice (Option.map (λx=>x.add (i*2)) ad) (n-i) (cap-i)\/(n=i/\∃x c,v=.slice x 0 c))->Src Tryz.prog 2 66 v (n-i) (Bj (piece L a b)) W/\(piece L a b).length=n-i):=by
   intro W n I hin hnl hn v hv;(have aB:(piece L a b).length=n-i:=by rw[aR.o,<-hn,Cw,BW];omega);have aQ:=(aM.o W I).By;refine⟨?_,aB⟩;have aV:∀g,ad=some (Ac g 0)->∀(k:Nat) u,(Bj (piece L a b))[k]?=some u->A7 W g (i*2+k) u:=by
    intro g hg k u hk;subst hg;refine BF aQ (g:=g) rfl ?_;rw[aR.o,<-hn,<-Mg,<-On,Iy,Q3]at hk;split at hk
    ·exact hk
    ·cases hk
   have aD:n-i=0->∀x c,Src Tryz.prog 2 66 (.slice x 0 c) 0 (Bj (piece L a b)) W:=by
    intro h0 x c;have:piece L a b=[]:=LJ (by omega);rw[this];cases x with
    | none=>exact Src.ofNil W underlying66 c
    | some y=>exact Jb W underlying66 _ 0 c [] rfl (by simp) (by simp)
   rcases hv with rfl|⟨hni,x,c,rfl⟩
   ·cases ad with
    | none=>
     have:=(aY.o rfl).1;(have h0:n-i=0:=by omega);rw[h0];exact aD h0 _ _
    | some x=>
     obtain⟨g,rfl⟩:=aX.o x rfl;refine Jb W underlying66 _ _ _ _ (by rw[Gb,aB]) (λk u hk=>?_) (Mf _);have hx:Addr.add (Addr.add (Ac g 0) (i*2)) k=(Ac g (i*2+k)):=by
      unfold Addr.add;by_cases h1:i*2=0<;>by_cases h2:k=0<;>simp[h1,h2]
     rw[hx];exact aV g rfl k u hk
   ·(have h0:n-i=0:=by omega);rw[h0];exact aD h0 x c
  have HLEN:Hid ((piece L a b).length=j+(if hs then 1 else 0)-i):=by
   unfold Hid;rw[aK,Cw,BW];cases hs with
   | true=>have:=Y rfl;simp;omega
   | false=>simp;omega
  have j0:=C2 j;have iz:=C2 i;have hij:(i:Int)<=(j:Int):=by omega
  have hjc:(j:Int)<=(cap:Int):=by omega
  have hic:(i:Int)<=(cap:Int):=by omega
  have hbyt:(0+(j+1-i))*16<=140737488355328:=by omega
  have aH:Hid (∀(W w3:World) (n:Nat) (b3:Option Addr) (d:Nat),A3 Ab w W->(piece L a b).length=n->App W w3 70 2 (.slice none 0 0) (.slice b3 (0+n) d) (0+n) ([]++Bj (piece L a b))->Du w3 (.slice b3 n d) (piece L a b)/\A3 Ab w w3/\∀g,(Value.slice b3 n d).ownBlock=some g->w.heap.size<=g):=by
   intro W w3 n b3 d I hn hA;refine⟨?_,I.tr hA.bE,λg hg=>?_⟩
   ·have:=hA.AB;unfold Du;rw[hn];simpa using this
   ·have:=hA.AU g (by simpa using hg);have:=I.Ao;omega
  cases hs with
  | false=>
   by_cases aP:cap=i
   ·obtain rfl:i=cap:=aP.symm;(obtain rfl:j=i:=by omega);have aN:Hid (∀W x c,A3 Ab w W->Src Tryz.prog 2 66 (.slice x 0 c) 0 (Bj (piece L a b)) W/\(piece L a b).length=0):=λW x c I=>by
     have:=O.o W j I (As _) (by omega) (by simp) (.slice x 0 c) (.inr ⟨rfl,x,c,rfl⟩)
     rwa [Vm]at this
    go_enter func80,ntmps80
    go_wp2_with (fail);refine(aS.o _ (A3.I _ _)).mono ?_;rintro e w1⟨x,rfl,k1⟩;have aE:=A1 k1;go_wp2_with (fail);refine(aW.o _ aE.o).mono ?_;rintro e w2⟨rfl,k2⟩;have E:=A1 <| aE.o.tr k2;have c2:=(aM.o _ E.o).Di;go_wp2_with (at_builtin;refine D5 rfl (.const (.slice none 0 0)) (.tmp 35) 66 66 rfl 70 i0 _ 2 16 underlying66 hi aG aL aJ rfl (by decide) (.slice none 0 0) 0 [] (by rfl) (CL _ 0 70 2) _ 0 _ (by rfl) (aN.o _ _ _ E.o).1 (by omega) ?_;intro b3 d w3 hA;have z:=A1 (aH.o _ w3 _ b3 d E.o (aN.o _ none 0 E.o).2 hA));go_ret;exact⟨_,rfl,z.o.1,z.o.2.1,z.o.2.2⟩
   ·skip
    go_enter func80,ntmps80
    go_wp2_with (fail);refine(aS.o _ (A3.I _ _)).mono ?_;rintro e w1⟨x,rfl,k1⟩;have aE:=A1 k1;go_wp2_with (fail);refine(aW.o _ aE.o).mono ?_;rintro e w2⟨rfl,k2⟩;have E:=A1 <| aE.o.tr k2;have c2:=(aM.o _ E.o).Di;go_wp2_with (at_builtin;refine D5 rfl (.const (.slice none 0 0)) (.tmp 35) 66 66 rfl 70 i0 _ 2 16 underlying66 hi aG aL aJ rfl (by decide) (.slice none 0 0) 0 [] (by rfl) (CL _ 0 70 2) _ (j-i) _ (by rfl) (O.o _ j E.o (by omega) (by omega) (by simp) _ (.inl rfl)).1 (by omega) ?_;intro b3 d w3 hA;have z:=A1 (aH.o _ w3 _ b3 d E.o (O.o _ j E.o (by omega) (by omega) (by simp) _ (.inl rfl)).2 hA));go_ret;exact⟨_,rfl,z.o.1,z.o.2.1,z.o.2.2⟩
  | true=>
   have hjl:=Y rfl;(have hjc':(j:Int)+1<=(cap:Int):=by omega);(have hij':(i:Int)<=(j:Int)+1:=by omega);(have hjt:((j:Int)+1).toNat=j+1:=by omega);by_cases aP:cap=i
   ·exfalso;omega
   ·skip
    go_enter func80,ntmps80
    go_wp2_with (fail);refine(aS.o _ (A3.I _ _)).mono ?_;rintro e w1⟨x,rfl,k1⟩;have aE:=A1 k1;go_wp2_with (fail);refine(aW.o _ aE.o).mono ?_;rintro e w2⟨rfl,k2⟩;have E:=A1 <| aE.o.tr k2;have c2:=(aM.o _ E.o).Di;go_wp2_with (at_builtin;refine D5 rfl (.const (.slice none 0 0)) (.tmp 35) 66 66 rfl 70 i0 _ 2 16 underlying66 hi aG aL aJ rfl (by decide) (.slice none 0 0) 0 [] (by rfl) (CL _ 0 70 2) _ ((j+1)-i) _ (by rfl) (O.o _ (j+1) E.o (by omega) (by omega) (by simp) _ (.inl rfl)).1 (by omega) ?_;intro b3 d w3 hA;have z:=A1 (aH.o _ w3 _ b3 d E.o (O.o _ (j+1) E.o (by omega) (by omega) (by simp) _ (.inl rfl)).2 hA));go_ret;exact⟨_,rfl,z.o.1,z.o.2.1,z.o.2.2⟩
structure Hc (w:World) (b o:Nat) (cs:Array Value) (T:Nat) (L:List Pt) (lv:Value):Prop where
 Ag:w.heap[b]?=some (.cells cs T (0,0))
 Ck:cs[o]?=some lv
 By:Du w lv L
 FI:Dz L
 CO:L.length<1099511627776
def Hc.bX{w:World}{b o:Nat}{d:Array Value}{T:Nat}{L:List Pt}{lv:Value}(h:Hc w b o d T L lv):N5 w b o L lv:=
 ⟨by simp[World.cell?,h.Ag,h.Ck],h.By,h.FI,h.CO⟩
def Hc.Ak{w w':World}{b o:Nat}{d:Array Value}{T:Nat}{L:List Pt}{lv:Value}(h:Hc w b o d T L lv)(z:A3 Ab w w'):Hc w' b o d T L lv:=
 ⟨(z.Ap b (Bz h.Ag) (λh=>h)).trans h.Ag,h.Ck,Az h.By λg E=>z.Ap g (AI h.By E) (λh=>h),h.FI,h.CO⟩
structure Ht (w w':World) (b o:Nat) (cs:Array Value) (T:Nat) (lv:Value) (L':List Pt) (lv':Value):Prop where
 By:Hc w' b o (cs.setIfInBounds o lv') T L' lv'
 Ak:A3 (λk=>k=b\/lv.ownBlock=some k) w w'
 AB:∀g,lv'.ownBlock=some g->lv.ownBlock=some g\/w.heap.size<=g
def A1K(w:World)(Y I:Nat)(cs:Array Value)(T:Nat)(hT:T≠70)(L:List Pt)(lv:Value)(t:Int)(h:Hc w Y I cs T L lv):
 Af 72 #[.pointer (some (Ac Y I)),A0 t] w (Aj (.tuple #[]) λw'=>∃aT lv',(aT=L\/aT=L.drop (BH L t))/\Ht w w' Y I cs T lv aT lv'):=by
 have H:=A1 h;obtain⟨ad,cap,rfl,h1,h2,h3,h4,h5⟩:=B9 h.By;unfold maxLen at h2;have HA:=A1 h3;have aW:=A1 h4;have aV:=A1 h5;obtain⟨i0,hi,aH,aN,aL⟩:=E9 Tryz.cA;have hsm:=h.CO;have aS:=IM L t;obtain⟨i,aB⟩:∃i,BH L t=i:=⟨_,rfl⟩;rw[aB]at aS;have aQ:Hid (Af 116 #[.pointer (some (Ac Y I)),A0 t] w λe w'=>∃x,e=.returned (.tuple #[A0 i,.bool x])/\A3 Ab w w'):=
  (Mz w Y I L _ t h.bX).mono (by rintro e w'⟨rfl,h⟩;rw[aB];exact⟨_,rfl,h⟩)
 have aO:=A1 aB;clear h h3 h4 h5 aB;have iz:=C2 i;have hic:(i:Int)<=(L.length:Int):=by omega
 have hlc:(L.length:Int)<=(cap:Int):=by omega
 by_cases hgt:((L.length:Int)/2<(i:Int))
 ·
  have aI:Hid (∀W,A3 Ab w W->∀v m,(v=.slice (Option.map (λx=>x.add (i*2)) ad) m (cap-i)/\m=L.length-i\/(L.length=i/\m=0/\∃x c,v=.slice x 0 c))->Src Tryz.prog 2 66 v m (Bj (L.drop i)) W):=by
   intro W hW v m hv;have E:=(H.o.Ak hW).By;have aD:L.length-i=0->∀x c,Src Tryz.prog 2 66 (.slice x 0 c) 0 (Bj (L.drop i)) W:=by
    intro h0 x c;have:L.drop i=[]:=Ji (by omega);rw[this];cases x with
    | none=>exact Src.ofNil W underlying66 c
    | some y=>exact Jb W underlying66 _ 0 c [] rfl (by simp) (by simp)
   rcases hv with⟨rfl,rfl⟩|⟨hni,rfl,x,c,rfl⟩
   ·cases ad with
    | none=>
     have:=(aW.o rfl).1;(have h0:L.length-i=0:=by omega);rw[h0];exact aD h0 _ _
    | some x=>
     obtain⟨g,rfl⟩:=aV.o x rfl;refine Jb W underlying66 _ _ _ _ (by rw[Gb,Cw]) (λk u hk=>?_) (Mf _);have hx:Addr.add (Addr.add (Ac g 0) (i*2)) k=(Ac g (i*2+k)):=by
      unfold Addr.add;by_cases h1:i*2=0<;>by_cases h2:k=0<;>simp[h1,h2]
     rw[hx];refine BF E (g:=g) rfl ?_;rw[<-Mg,Iy]at hk;exact hk
   ·exact aD (by omega) x c
  have aK:Hid (∀(W w3:World) (m:Nat) (O:Option Addr) (d:Nat),A3 Ab w W->m=L.length-i->App W w3 70 2 (.slice none 0 0) (.slice O (0+m) d) (0+m) ([]++Bj (L.drop i))->
   w3.cell? (Ac Y I)=some (.slice ad L.length cap)/\w3.frozen? (Ac Y I)=false/\Ht w (w3.sC Y I (.slice O m d)) Y I cs T (.slice ad L.length cap) (L.drop i) (.slice O m d)):=by
   intro W w3 m O d hW hm hA;subst hm;have aA:=(hA.bE.Ap Y (Bz (H.o.Ak hW).Ag) (λh=>h)).trans (H.o.Ak hW).Ag;have E:Du w3 (.slice O (L.length-i) d) (L.drop i):=by
    have:=hA.AB;unfold Du;rw[Cw];simpa using this
   have aU:=hW.tr hA.bE;refine⟨by simp[World.cell?,aA,H.o.Ck],by simp[World.frozen?,aA],⟨⟨Ct aA,?_,?_,H.o.FI.cf i,by rw[Cw];omega⟩,?_,?_⟩⟩
   ·have aF:=(Qi.1 H.o.Ck).1;simp[aF]
   ·refine Az E λg hg=>?_;have aP:g≠Y:=λe=>by
     obtain⟨c,hh⟩:=Be E hg;subst e;rw[aA]at hh;cases hh;exact hT rfl
    exact GK _ _ _ _ (λe=>aP (by simpa using e))
   ·exact(aU.aa (λ_ _ h=>h.elim)).aq (.inl rfl) I _
   ·intro g hg;right;have:=hA.AU g (by simpa using hg);have:=hW.Ao;omega
  by_cases aR:cap=i
  ·obtain rfl:i=cap:=aR.symm;(have aM:L.length=i:=by omega);have aG:=A1 aM;clear aM
   go_enter func72,ntmps72
   go_wp2_with (fail);refine aQ.m ?_;rintro e w1⟨x,rfl,k1⟩;have aE:=A1 k1;have c2:=(H.o.Ak k1).bX.Di;clear k1;go_wp2_with (at_builtin;refine D5 rfl (.const (.slice none 0 0)) (.tmp 26) 66 66 rfl 70 i0 _ 2 16 underlying66 hi aH aN aL rfl (by decide) (.slice none 0 0) 0 [] (by rfl) (CL _ 0 70 2) _ 0 _ (by rfl) (aI.o _ aE.o _ 0 (.inr ⟨aG.o,rfl,_,_,rfl⟩)) (by omega) ?_;intro O d w3 hA;have z:=A1 (aK.o _ w3 0 O d aE.o (by have:=aG.o;omega) hA);have y1:=z.o.1;have y2:=z.o.2.1;clear hA);go_end0;refine⟨rfl,_,.slice O 0 d,.inr rfl,?_⟩;rw[aO.o];have:=z.o.2.2;simpa using this
  ·go_enter func72,ntmps72
   go_wp2_with (fail);refine aQ.m ?_;rintro e w1⟨x,rfl,k1⟩;have aE:=A1 k1;have c2:=(H.o.Ak k1).bX.Di;go_wp2_with (at_builtin;refine D5 rfl (.const (.slice none 0 0)) (.tmp 26) 66 66 rfl 70 i0 _ 2 16 underlying66 hi aH aN aL rfl (by decide) (.slice none 0 0) 0 [] (by rfl) (CL _ 0 70 2) _ (L.length-i) _ (by rfl) (aI.o _ aE.o _ _ (.inl ⟨rfl,rfl⟩)) (by omega) ?_;intro O d w3 hA;have z:=A1 (aK.o _ w3 _ O d aE.o rfl hA);have y1:=z.o.1;have y2:=z.o.2.1);go_end0;refine⟨rfl,_,.slice O (L.length-i) d,.inr rfl,?_⟩;rw[aO.o];have:=z.o.2.2;simpa using this
 ·have hgt':(i:Int)<=(L.length:Int)/2:=by omega
  go_enter func72,ntmps72
  go_wp2_with (fail);refine aQ.m ?_;rintro e w1⟨x,rfl,k1⟩;have aE:=A1 k1;have c2:=(H.o.Ak k1).bX.Di;go_wp2;go_end0;have hR:=H.o.Ak aE.o;refine⟨rfl,L,_,.inl rfl,⟨?_,aE.o.aa (λ_ _ h=>h.elim),λg hg=>.inl hg⟩⟩;have aJ:cs.setIfInBounds I (.slice ad L.length cap)=cs:=by
   obtain⟨aF,he⟩:=Qi.1 H.o.Ck;apply A4F;intro k;by_cases hk:I=k
   ·subst hk;simp[aF,he]
   ·rw[VV hk]
  rw[aJ];exact hR
def LV{P:Program}(w:World){ops:Array Oper}{rest:List Oper}{o:Oper}{a:Act}{Q:Exit->Act->World->Prop}(z:o.guard=none)(d s:Operand)(t H:TypeId)(O:o.op=.call {callee:=.builtin .copy,args:=#[d,s],argTypes:=#[t,H]})(v u:Value)(I:a.eval d=v)(Y:a.eval s=u){E:Value}{w':World}(W:(Builtin.copy_ #[t,H] o.type #[v,u]).run P w=.ok E w')(h:wpList P ops Q rest (a.put o.dst E) w'):wpList P ops Q (o::rest) a w:=
 wpList_plain z λ_ L=>by
  unfold Oper.wp execOp;simp only[O,resolve,invoke,builtin,Sem.run_bind,Sem.run_pure,Result.andThen_ok,List.map_toArray,He,List.map_nil,I,Y,W];exact L _ _ h
def Ds(d:List Value)(L:List Pt)(i:Nat):List Value:=d.take ((i+1)*2)++Bj (L.drop i)++d.drop ((i+1)*2+(Bj (L.drop i)).length)
def DH(c:List Value)(i:Nat)(t v:Int):List Value:=c.take (i*2)++[A0 t,A0 v]++c.drop (i*2+2)
def TK(L:List Pt)(i:Nat)(t v:Int):Bj (L.take i++(t,v):: L.drop i)=Bj (L.take i)++[A0 t,A0 v]++Bj (L.drop i):=by
 rw[Sd];simp[Bj]
def TU(d:List Value)(L:List Pt)(i:Nat)(hi:i<=L.length)(hlen:(L.length+1)*2<=d.length):(Ds d L i).length=d.length:=by
 have h:(Bj (L.drop i)).length=(L.length-i)*2:=by rw[Gb,Cw]
 unfold Ds;simp only[B1,BW,Cw,h];omega
def P3(c:List Value)(i:Nat)(t v:Int)(h:i*2+2<=c.length):(DH c i t v).length=c.length:=by
 unfold DH;simp only[B1,BW,Cw,Cx,Iw];omega
def A1n(L:List Pt)(i:Nat)(hi:i<=L.length)(t v:Int)(d:List Value)(h:d.take (i*2)=Bj (L.take i))(hlen:(L.length+1)*2<=d.length):
 (DH (Ds d L i) i t v).take ((L.length+1)*2)=Bj (L.take i++(t,v):: L.drop i):=by
 have z:(Bj (L.drop i)).length=(L.length-i)*2:=by rw[Gb,Cw]
 have H:(d.take ((i+1)*2)).length=(i+1)*2:=by rw[BW];omega
 have I:(Ds d L i).take (i*2)=Bj (L.take i):=by
  unfold Ds;rw[Cc,GW (by rw[H];omega),Kb,show min (i*2) ((i+1)*2)=i*2 from by omega,h]
 have O:(Ds d L i).drop (i*2+2)=Bj (L.drop i)++d.drop ((i+1)*2+(Bj (L.drop i)).length):=by
  unfold Ds;rw[Cc]
  conv=>lhs;rw[show i*2+2=(d.take ((i+1)*2)).length from by rw[H];omega]
  rw[VG]
 have E:(Bj (L.take i)++[A0 t,A0 v]++Bj (L.drop i)).length=(L.length+1)*2:=by
  simp only[B1,Gb,z,BW,Cx,Iw];omega
 unfold DH;rw[I,O,TK,<-Cc,<-E,Kc]
structure HS (w w':World) (lv:Value) (L':List Pt) (lv':Value):Prop where
 By:Du w' lv' L'
 Ak:A3 (λk=>lv.ownBlock=some k) w w'
 AB:∀g,lv'.ownBlock=some g->lv.ownBlock=some g\/w.heap.size<=g
def A1d(w:World)(g cap:Nat)(L:List Pt)(i E:Nat)(t v:Int)(hL:Du w (AM g L.length cap) L)(hi:i<L.length)(O:L.length+1<=cap)(hsm:L.length<1099511627776)(hv:w.heap[E]?=some (.cells #[A0 t,A0 v] 70 (0,0)))(aG:E≠g):
 Af 139 #[AM g L.length cap,A0 i,AM E 1 1] w λe w'=>∃lv',e=.returned lv'/\HS w w' (AM g L.length cap) (L.take i++(t,v):: L.drop i) lv':=by
 obtain⟨d,hg,aD,aB,_,aL⟩:=Sm hL;unfold maxLen at aL;obtain⟨i0,W,hz0,Y,hz2⟩:=E9 Tryz.cA;have aO:∀lb cb,(callFunc 181 #[AM E 1 1,.slice (some (Ac g ((i+1)*2))) lb cb]).run Tryz.prog w=.ok (.value (.bool false)) w:=λlb cb=>by
  have aQ:∀w,(Go.sizeOf 70).run Tryz.prog w=.ok 2 w:=λw=>by simp[sizeOf,typeInfo,W,Y]
  rw[XM func181 (by kernel_rfl) (by kernel_rfl) (by kernel_rfl) (e:=Extern.SlicesOverlaps.overlaps #[66,66] #[4]) (by kernel_rfl),
   Lib.run_overlaps_apart w 66 4 70 underlying66 2 aQ (Ac E 0) (Ac g ((i+1)*2)) 1 1 lb cb aG 70 70 2 d.size (by simp[World.shape?,hv]) (by simp[World.shape?,hg]) (by rw[aD];omega) (by simp[World.frozen?,hv]) (by simp[World.frozen?,hv])]
  rfl
 have aK:(L.length+1)*2<=d.toList.length:=by have:=LQ (xs:=d);omega
 have z:(Ds d.toList L i).length=cap*2:=by rw[TU _ _ _ (by omega) aK,LQ,aD]
 have aJ:(Bj (L.drop i)).length=(L.length-i)*2:=by rw[Gb,Cw]
 have aN:d.toList.take (i*2)=Bj (L.take i):=by
  rw[show i*2=min (i*2) (L.length*2) from by omega,<-Kb,aB,On]
 have aR:∀(x y:Nat),Addr.add (Ac g x) y=(Ac g (x+y)):=λx y=>by unfold Addr.add;by_cases h:y=0<;>simp[h]
 have aS:∀(y:Nat),Addr.add (Ac E 0) y=(Ac E y):=λy=>by unfold Addr.add;by_cases h:y=0<;>simp[h]
 have aH:Hid (∀ty I sc,(Builtin.copy_ #[66,66] ty #[.slice (some (Ac g ((i+1)*2))) (L.length-i) I,.slice (some (Ac g (i*2))) (L.length+1-i) sc]).run Tryz.prog w.drew=.ok (goInt ((L.length-i:Nat):Int)) (w.drew.setRow g (Ds d.toList L i).toArray)):=λty I sc=>
  M6 w.drew _ _ ty 70 i0 2 g ((i+1)*2) _ I (Ac g (i*2)) _ sc (L.length-i) d 70 (Bj (L.drop i)) underlying66 W Y hg (by simp only[Vp];split<;>omega) aJ
   (λj u H=>by
    rw[aR];refine BF (w:=w) hL (g:=g) rfl ?_
    rw[<-Mg,Iy]at H;exact H)
   (by rw[aJ,aD];omega) (Mf _)
 have aF:Hid (∀ty I,(Builtin.copy_ #[66,66] ty #[.slice (some (Ac g (i*2))) (L.length+1-i) I,AM E 1 1]).run Tryz.prog (w.drew.setRow g (Ds d.toList L i).toArray)=.ok (goInt ((1:Nat):Int)) ((w.drew.setRow g (Ds d.toList L i).toArray).setRow g (DH (Ds d.toList L i) i t v).toArray)):=λty I=>by
  have aA:(w.drew.setRow g (Ds d.toList L i).toArray).heap[g]?=some (.cells (Ds d.toList L i).toArray 70 (0,0)):=KA w.drew g d _ 70 _ hg;have:=M6 (P:=Tryz.prog) (w.drew.setRow g (Ds d.toList L i).toArray) 66 66 ty 70 i0 2 g (i*2) (L.length+1-i) I (Ac E 0) 1 1 1 (Ds d.toList L i).toArray 70 [A0 t,A0 v] underlying66 W Y aA (by simp only[Vp];split<;>omega) rfl
   (λj u H=>by
    rw[aS];have aM:(w.drew.setRow g (Ds d.toList L i).toArray).heap[E]?=some (.cells #[A0 t,A0 v] 70 (0,0)):=(Jx w.drew g E _ aG).trans hv;unfold World.cell?;rw[aM]
    match j,H with
    | 0,H=>simpa using H
    | 1,H=>simpa using H
    | j+2,H=>simp at H)
   (by simp only[Lz,z,Cx,Iw];omega) (by simp[Value.oneCell'])
  simpa[DH] using this
 have aT:Hid (HS w ((w.drew.setRow g (Ds d.toList L i).toArray).setRow g (DH (Ds d.toList L i) i t v).toArray) (AM g L.length cap) (L.take i++(t,v):: L.drop i) (AM g (L.length+1) cap)):=by
  have aA:(w.drew.setRow g (Ds d.toList L i).toArray).heap[g]?=some (.cells (Ds d.toList L i).toArray 70 (0,0)):=KA w.drew g d _ 70 _ hg;have aP:((w.drew.setRow g (Ds d.toList L i).toArray).setRow g (DH (Ds d.toList L i) i t v).toArray).heap[g]?=some (.cells (DH (Ds d.toList L i) i t v).toArray 70 (0,0)):=KA _ g _ _ 70 _ aA;have aE:(L.take i++(t,v):: L.drop i).length=L.length+1:=by simp;omega
  refine⟨?_,?_,λg' h'=>.inl h'⟩
  ·unfold Du;rw[aE];refine⟨by rw[Gb,aE],.inr ⟨g,cap,_,rfl,Cq _,aP,O,by unfold maxLen;omega,?_,?_⟩⟩
   ·rw[Lz,P3 _ _ _ _ (by rw[z];omega),z]
   ·exact A1n L i (by omega) t v d.toList aN aK
  ·refine⟨rfl,rfl,rfl,by simp,λk hk hn=>?_⟩;have aI:k≠g:=λe=>hn (by simp[Value.ownBlock,e]);rw[Jx _ g k _ aI,Jx _ g k _ aI];rfl
 have q1:((i:Int)==(L.length:Int))=false:=by simp;omega
 have q2:¬(cap=i):=by omega
 have q3:¬(cap=i+1):=by omega
 have q4:(i:Int)<=(L.length:Int):=by omega
 have q7:((L.length:Int)+1).toNat=L.length+1:=by omega
 have q8:((i:Int)+1).toNat=i+1:=by omega
 have q9:(i:Int)+1<=(L.length:Int)+1:=by omega
 have q10:=C2 i;have q11:(i:Int)<=(L.length:Int)+1:=by omega
 have q13:(0:Int)<=(i:Int)+1:=by omega
 have q12:IntKind.i64.wrap ((i:Int)+1)=(i:Int)+1:=by simp only[Jo];omega
 go_enter func139,ntmps139
 go_wp2_with (simp only[aO]);refine Kr 8 (by kernel_rfl) (by kernel_rfl) ?_;simp only[Ln,Fa,EV,DJ,Dq]
 repeat still_step
 refine Ks ?_;refine LV _ rfl (.tmp 73) (.tmp 76) 66 66 rfl _ _ (by rfl) (by rfl) (aH.o _ _ _) ?_;go_wp2_with (refine LV _ rfl (.tmp 80) (.tmp 81) 66 66 rfl _ _ (by rfl) (by rfl) (aF.o _ _) ?_);go_ret;exact⟨_,rfl,aT.o⟩
def A1f(w:World)(Y:Option Addr)(cap:Nat)(L:List Pt)(vb:Nat)(t v:Int)(hL:Du w (.slice Y L.length cap) L)(hsm:L.length<1099511627776)(hv:w.heap[vb]?=some (.cells #[A0 t,A0 v] 70 (0,0))):
 Af 139 #[.slice Y L.length cap,A0 L.length,AM vb 1 1] w λe w'=>∃lv',e=.returned lv'/\HS w w' (.slice Y L.length cap) (L.take L.length++(t,v):: L.drop L.length) lv':=by
 obtain⟨i0,aD,I,W,aA⟩:=E9 Tryz.cA;obtain⟨_,_,he,h1,h2,_,h4,h5⟩:=B9 hL;cases he;unfold maxLen at h2;have O:Hid (Src Tryz.prog 2 66 (AM vb 1 1) 1 [A0 t,A0 v] w):=Src.cx underlying66 hv 1 1 rfl (by simp[Value.oneCell']);have aE:Hid (∀z d h,App w h 70 2 (.slice Y L.length cap) (.slice z (L.length+1) d) (L.length+1) (Bj L++[A0 t,A0 v])->HS w h (.slice Y L.length cap) (L.take L.length++(t,v):: L.drop L.length) (.slice z (L.length+1) d)):=by
  intro z d h E;refine⟨?_,E.Ak λk hk=>hk,λg hg=>?_⟩
  ·have:=E.AB;unfold Du;rw[Er (As _),Ji (As _),Sd,B1];exact this
  ·rcases E.Ck with e|e
   ·rw[e]at hg;exact .inl hg
   ·rw[e]at hg;cases hg;exact .inr (As _)
 have aF:=A1 hL;have q4:(0:Int)<=(L.length:Int):=Gv _;have aB:(L.length+1)*16<=140737488355328:=by omega
 by_cases hc:cap=L.length
 ·subst hc
  go_enter func139,ntmps139
  go_wp2_with (at_builtin;refine D5 rfl (.tmp 23) (.tmp 24) 66 66 rfl 70 i0 _ 2 16 underlying66 aD I W aA rfl (by decide) _ L.length (Bj L) (by rfl) aF.o _ 1 _ (by rfl) O.o aB ?_;intro z d h E;have H:=A1 (aE.o z d h E));go_ret;exact⟨_,rfl,H.o⟩
 ·go_enter func139,ntmps139
  go_wp2_with (at_builtin;refine D5 rfl (.tmp 23) (.tmp 24) 66 66 rfl 70 i0 _ 2 16 underlying66 aD I W aA rfl (by decide) _ L.length (Bj L) (by rfl) aF.o _ 1 _ (by rfl) O.o aB ?_;intro z d h E;have H:=A1 (aE.o z d h E));go_ret;exact⟨_,rfl,H.o⟩
def A1m(L:List Pt)(i:Nat)(O:i<=L.length)(t v:Int)(c:List Value)(d:c.take (i*2)=Bj (L.take i))(hlen:(L.length+1)*2<=c.length):
 (Ds (DH c i t v) L i).take ((L.length+1)*2)=Bj (L.take i++(t,v):: L.drop i)/\(Ds (DH c i t v) L i).length=c.length:=by
 have z:(Bj (L.drop i)).length=(L.length-i)*2:=by rw[Gb,Cw]
 have h:(DH c i t v).length=c.length:=P3 c i t v (by omega);refine⟨?_,by rw[TU _ _ _ O (by omega),h]⟩;have H:(Bj (L.take i)++[A0 t,A0 v]).length=(i+1)*2:=by
  simp only[B1,Gb,BW,Cx,Iw];omega
 have I:(DH c i t v).take ((i+1)*2)=Bj (L.take i)++[A0 t,A0 v]:=by
  unfold DH;rw[d,<-H,Kc]
 have E:(Bj (L.take i)++[A0 t,A0 v]++Bj (L.drop i)).length=(L.length+1)*2:=by
  rw[B1,H,z];omega
 unfold Ds;rw[I,TK,<-E,Kc]
def A1e(w:World)(g cap:Nat)(L:List Pt)(i vb:Nat)(t v:Int)(hL:Du w (AM g L.length cap) L)(hi:i<L.length)(hroom:cap<L.length+1)(hsm:L.length<1099511627776)(hv:w.heap[vb]?=some (.cells #[A0 t,A0 v] 70 (0,0))):
 Af 139 #[AM g L.length cap,A0 i,AM vb 1 1] w λe w'=>∃lv',e=.returned lv'/\HS w w' (AM g L.length cap) (L.take i++(t,v):: L.drop i) lv':=by
 obtain⟨cur,hg,hcs,htake,hnc,aX⟩:=Sm hL;unfold maxLen at aX;obtain rfl:cap=L.length:=by omega
 obtain⟨i0,Y,aU,aA,aL⟩:=E9 Tryz.cA;have aJ:(Bj (L.drop i)).length=(L.length-i)*2:=by rw[Gb,Cw]
 have aB:∀(b x y:Nat),Addr.add (Ac b x) y=(Ac b (x+y)):=λb x y=>by unfold Addr.add;by_cases h:y=0<;>simp[h]
 have aQ:(Builtin.firstCells i0.size i (AM g i L.length)).run Tryz.prog w.drew=.ok (Bj (L.take i)).toArray w.drew:=
  Rl w.drew i0.size i (Ac g 0) i L.length (Bj (L.take i)) (by rw[aA,Gb,BW];omega) (λj u d=>by
   rw[aB,GH];refine BF (w:=w) hL (g:=g) rfl ?_;rw[<-On,Q3]at d;split at d
   ·exact d
   ·cases d)
 have z:=XN (P:=Tryz.prog) w 66 3 66 70 i0 _ .i64 underlying66 underlying3 Y aU (by omega) (some (Ac g 0)) i L.length (Bj (L.take i)) aQ (L.length+1-i) (by omega) (by omega) (by omega) (by rw[aL];omega) (by rw[aL];exact growslice_fits (by omega) (by omega));rw[show i+(L.length+1-i)=L.length+1 from by omega,show ((L.length+1-i:Nat):Int)=(L.length:Int)+1-(i:Int) from by omega]at z;obtain⟨H,aG⟩:∃H,grownCap w (L.length+1) L.length 70=H:=⟨_,rfl⟩;have aN:=grownCap_ge w (L.length+1) L.length 70;have aK:grownCap w (L.length+1) L.length 70<=maxLen:=grownCap_le_maxLen w (L.length+1) L.length 70 (by unfold maxLen;omega);rw[aG]at z aN aK;obtain⟨c0,O⟩:∃c0,(Bj (L.take i)).toArray++Builtin.zeroCells (Value.agg #[A0 0,A0 0]).cells (L.length+1-i)++Builtin.zeroCells (Value.agg #[A0 0,A0 0]).cells (H-(L.length+1))=c0:=⟨_,rfl⟩;have E:c0.toList.length=H*2:=by
  rw[<-O];have e1:(Value.agg #[A0 0,A0 0]).cells.size=2:=rfl;simp only[Qh,B1,LQ,size_zeroCells,e1,Gb,BW];omega
 have aF:c0.toList.take (i*2)=Bj (L.take i):=by
  rw[<-O,Qh,Qh,Cc];have:(Bj (L.take i)).length=i*2:=by rw[Gb,BW];omega
  rw[<-this,Kc]
 rw[O]at z;unfold maxLen at aK;have aI:((w.drew.aC c0 70)).heap[w.heap.size]?=some (.cells c0 70 (0,0)):=BO w.drew _;have aY:=Bz hv;have aS:=Bz hg;have aT:((w.drew.aC c0 70)).heap[vb]?=some (.cells #[A0 t,A0 v] 70 (0,0)):=(Dd w.drew _ _ aY).trans hv;have aP:Hid (∀I W,(Builtin.copy_ #[66,66] I #[.slice (some (Ac w.heap.size (i*2))) (L.length+1-i) W,AM vb 1 1]).run Tryz.prog (w.drew.aC c0 70)=.ok (goInt ((1:Nat):Int)) ((w.drew.aC c0 70).setRow w.heap.size (DH c0.toList i t v).toArray)):=λI W=>by
  have:=M6 (P:=Tryz.prog) (w.drew.aC c0 70) 66 66 I 70 i0 2 w.heap.size (i*2) (L.length+1-i) W (Ac vb 0) 1 1 1 c0 70 [A0 t,A0 v] underlying66 Y aA aI (by simp only[Vp];split<;>omega) rfl
   (λj u d=>by
    rw[aB,GH];unfold World.cell?;rw[aT]
    match j,d with
    | 0,d=>simpa using d
    | 1,d=>simpa using d
    | j+2,d=>simp at d)
   (by rw[<-LQ,E];simp only[Cx,Iw];omega) (by simp[Value.oneCell'])
  simpa[DH] using this
 have aM:(DH c0.toList i t v).length=H*2:=by rw[P3 _ _ _ _ (by omega),E]
 have aR:((w.drew.aC c0 70).setRow w.heap.size (DH c0.toList i t v).toArray).heap[w.heap.size]?=some (.cells (DH c0.toList i t v).toArray 70 (0,0)):=KA _ w.heap.size c0 _ 70 _ aI;have aD:Hid (∀I W sc,(Builtin.copy_ #[66,66] I #[.slice (some (Ac w.heap.size ((i+1)*2))) (L.length-i) W,.slice (some (Ac g (i*2))) (L.length-i) sc]).run Tryz.prog ((w.drew.aC c0 70).setRow w.heap.size (DH c0.toList i t v).toArray).drew=.ok (goInt ((L.length-i:Nat):Int)) (((w.drew.aC c0 70).setRow w.heap.size (DH c0.toList i t v).toArray).drew.setRow w.heap.size (Ds (DH c0.toList i t v) L i).toArray)):=λI W sc=>
  M6 (P:=Tryz.prog) ((w.drew.aC c0 70).setRow w.heap.size (DH c0.toList i t v).toArray).drew 66 66 I 70 i0 2 w.heap.size ((i+1)*2) (L.length-i) W (Ac g (i*2)) (L.length-i) sc (L.length-i) (DH c0.toList i t v).toArray 70 (Bj (L.drop i)) underlying66 Y aA aR (by simp) aJ
   (λj u d=>by
    rw[aB];have h0:w.cell? (Ac g (i*2+j))=some u:=by
     refine BF (w:=w) hL (g:=g) rfl ?_;rw[<-Mg,Iy]at d;exact d
    refine(DT ?_).trans h0
    exact(Jx _ w.heap.size g _ (by omega)).trans (Dd w.drew _ _ aS))
   (by rw[aJ,Lz,aM];omega) (Mf _)
 have aW:Hid (HS w (((w.drew.aC c0 70).setRow w.heap.size (DH c0.toList i t v).toArray).drew.setRow w.heap.size (Ds (DH c0.toList i t v) L i).toArray) (AM g L.length L.length) (L.take i++(t,v):: L.drop i) (AM w.heap.size (L.length+1) H)):=by
  have aV:(((w.drew.aC c0 70).setRow w.heap.size (DH c0.toList i t v).toArray).drew.setRow w.heap.size (Ds (DH c0.toList i t v) L i).toArray).heap[w.heap.size]?=some (.cells (Ds (DH c0.toList i t v) L i).toArray 70 (0,0)):=KA _ w.heap.size _ _ 70 _ aR;have aO:(L.take i++(t,v):: L.drop i).length=L.length+1:=by simp;omega
  obtain⟨k1,k2⟩:=A1m L i (by omega) t v c0.toList aF (by omega);refine⟨?_,?_,λg' h'=>by simp[Value.ownBlock]at h';exact .inr (by omega)⟩
  ·unfold Du;rw[aO];refine⟨by rw[Gb,aO],.inr ⟨w.heap.size,H,_,rfl,Cq _,aV,aN,by unfold maxLen;omega,?_,k1⟩⟩;rw[Lz,k2,E]
  ·refine⟨rfl,rfl,rfl,by simp,λk hk hn=>?_⟩;(have aE:k≠w.heap.size:=by omega);rw[Jx _ _ k _ aE];exact(Jx _ _ k _ aE).trans (Dd w.drew _ _ hk)
 have q1:((i:Int)==(L.length:Int))=false:=by simp;omega
 have q2:¬(H=i):=by omega
 have q3:¬(H=i+1):=by omega
 have q3':¬(L.length=i):=by omega
 have q4:(i:Int)<=(L.length:Int):=by omega
 have q8:((i:Int)+1).toNat=i+1:=by omega
 have q9:(i:Int)+1<=(L.length:Int)+1:=by omega
 have q10:=C2 i;have q11:(i:Int)<=(L.length:Int)+1:=by omega
 have q13:(0:Int)<=(i:Int)+1:=by omega
 have q12:IntKind.i64.wrap ((i:Int)+1)=(i:Int)+1:=by simp only[Jo];omega
 have q14:IntKind.i64.wrap ((L.length:Int)+1-(i:Int))=(L.length:Int)+1-(i:Int):=by simp only[Jo];omega
 have aH:=A1 z
 go_enter func139,ntmps139
 go_wp2_with (first
  | (at_builtin;refine Lib.wpList_append_run _ rfl (.tmp 34) (.tmp 39) 66 3 rfl _ _ (by rfl) (by rfl) _ _ aH.o ?_)
  | (refine LV _ rfl (.tmp 43) (.tmp 44) 66 66 rfl _ _ (by rfl) (by rfl) (aP.o _ _) ?_))
 refine Kr 8 (by kernel_rfl) (by kernel_rfl) ?_;simp only[Ln,Fa,EV,DJ,Dq]
 repeat still_step
 refine Ks ?_;refine LV _ rfl (.tmp 50) (.tmp 53) 66 66 rfl _ _ (by rfl) (by rfl) (aD.o _ _ _) ?_;go_wp2;go_ret;exact⟨_,rfl,aW.o⟩
def A1g(w:World)(E:Option Addr)(cap:Nat)(L:List Pt)(i h:Nat)(t v:Int)(H:Du w (.slice E L.length cap) L)(hi:i<=L.length)(z:L.length<1099511627776)(Y:w.heap[h]?=some (.cells #[.int .i64 t,.int .i64 v] 70 (0,0)))(O:(Value.slice E L.length cap).ownBlock≠some h):
 Calls Tryz.prog 139 #[.slice E L.length cap,.int .i64 i,.slice (some ⟨h,0,none⟩) 1 1] w λe w'=>∃lv',e=.returned lv'/\HS w w' (.slice E L.length cap) (L.take i++(t,v):: L.drop i) lv':=by
 by_cases W:i=L.length
 ·subst W;exact A1f w E cap L h t v H z Y
 ·obtain⟨_,_,he,h1,h2,h3,h4,h5⟩:=B9 H;cases he;obtain⟨g,rfl⟩:=h3 (by omega);have I:h≠g:=λe=>O (by simp[Value.ownBlock,e]);by_cases d:L.length+1<=cap
  ·exact A1d w g cap L i h t v H (by omega) d z Y I
  ·exact A1e w g cap L i h t v H (by omega) (by omega) z Y
def U3{l:List Pt}{t:Int}(h:EH l t=true):∃d:BH l t<l.length,(l[BH l t]'d).1=t:=by
 unfold EH at h;by_cases d:BH l t<l.length
 ·rw[E5 d]at h;exact⟨d,by simpa using h⟩
 ·rw[Ni (by omega)]at h;cases h
def TR(l:List Pt)(t v:Int):CA l t v=if EH l t then l.set (BH l t) (t,v) else l.take (BH l t)++(t,v):: l.drop (BH l t):=by
 rw[A1s];show _++_::(if EH l t then _ else _)=_;by_cases h:EH l t=true
 ·obtain⟨d,_⟩:=U3 h;rw[Ai h,Ai h,List.set_eq_take_append_cons_drop,Ai d]
 ·rw[Ae h,Ae h]
def TQ{l:List Pt}{t v:Int}(h:l.length<1099511627775):(CA l t v).length<1099511627776:=by
 have:(CA l t v).length<=l.length+1:=by
  rw[TR];split
  ·simp
  ·simp;omega
 omega
def YN(w:World)(z E:Nat)(cs:Array Value)(T:Nat)(hT:T≠70)(L:List Pt)(lv:Value)(t v:Int)(h:Hc w z E cs T L lv)(aJ:L.length<1099511627775):
 Af 102 #[.pointer (some (Ac z E)),.agg #[A0 t,A0 v]] w (Aj (.tuple #[]) λw'=>∃lv',Ht w w' z E cs T lv (CA L t v) lv'):=by
 have H:=A1 h;obtain⟨Y,cap,rfl,h1,h2,h3,h4,h5⟩:=B9 h.By;unfold maxLen at h2;have aY:=A1 h3;have aK:=TR L t v;have aM:=IM L t;obtain⟨i,aD⟩:∃i,BH L t=i:=⟨_,rfl⟩;obtain⟨hs,aF⟩:∃hs,EH L t=hs:=⟨_,rfl⟩;have a1:Hid (hs=true->i<L.length):=λe=>by
  obtain⟨q,_⟩:=U3 (aF.trans e);rw[aD]at q;exact q
 have aX:Hid (∀W,A3 Ab w W->Af 116 #[.pointer (some (Ac z E)),A0 t] W (Aj (.tuple #[A0 i,.bool hs]) λw'=>A3 Ab W w')):=λW hW=>
  (Mz W z E L _ t (H.o.Ak hW).bX).mono (by rintro e w'⟨rfl,h⟩;rw[aD,aF];exact⟨rfl,h⟩)
 rw[aD,aF]at aK;rw[aD]at aM;have aP:=A1 aK;have aS:=BO w (.cells #[A0 t,A0 v] 70);have a0:=A1 aS;have hbl:=Bz h.Ag;have aR:L.length<1099511627776:=h.CO;have iz:=C2 i;have aL:Hid (∀W,A3 Ab (w.aC #[A0 t,A0 v] 70) W->A3 Ab w W/\W.heap[w.heap.size]?=some (.cells #[A0 t,A0 v] 70 (0,0))/\Hc W z E cs T L (.slice Y L.length cap)):=λW hW=>by
  have h1:A3 Ab w W:=((A3.I _ w).ai _).tr hW;exact⟨h1,(hW.Ap _ (by simp) (λh=>h)).trans a0.o,H.o.Ak h1⟩
 cases hs with
 | true=>
  have aO:=a1.o rfl;obtain⟨g,rfl⟩:=aY.o (by omega);have i1:(i:Int)<(L.length:Int):=by omega
  have aH:Hid (∀W n,A3 Ab (w.aC #[A0 t,A0 v] 70) W->Ht w (((W.drewN n).sC g (i*2) (A0 t)).sC g (i*2+1) (A0 v)) z E cs T (AM g L.length cap) (CA L t v) (AM g L.length cap)):=by
   intro W n hW;obtain⟨k1,k2,d⟩:=aL.o W hW;have s1:=((Az d.By (w':=W.drewN n) λ_ _=>rfl).stored (i*2) (A0 t)).1;have s2:=(s1.stored (i*2+1) (A0 v)).1;have e:=YX L i (t,v) aO;simp only at e;rw[e]at s2;obtain⟨ce,aN⟩:=Be d.By (g:=g) rfl;(have aA:z≠g:=λe=>by subst e;rw[d.Ag]at aN;cases aN;exact hT rfl);have O:CA L t v=L.set i (t,v):=aP.o;have aE:cs.setIfInBounds E (AM g L.length cap)=cs:=by
    obtain⟨aG,he⟩:=Qi.1 H.o.Ck;apply A4F;intro k;by_cases hk:E=k
    ·subst hk;simp[aG,he]
    ·rw[VV hk]
   refine⟨⟨?_,by rw[aE];exact H.o.Ck,?_,L8 H.o.FI t v,TQ aJ⟩,?_,λg hg=>.inl hg⟩
   ·rw[aE,GK _ _ _ _ aA,GK _ _ _ _ aA];exact d.Ag
   ·rw[O];unfold Du;rw[Je];exact s2
   ·exact(((k1.ba n).aa (S':=λk=>k=z\/(AM g L.length cap).oB k) (λ_ _ h=>h.elim)).aq (b:=g) (.inr rfl) (i*2) _).aq (b:=g) (.inr rfl) (i*2+1) _
  go_enter func102,ntmps102
  go_wp2_with (fail);refine(aX.o _ ((A3.I _ w).ai _)).mono ?_;rintro e w1⟨rfl,k1⟩;have aQ:=A1 k1;obtain⟨k2,d,k4⟩:=aL.o w1 k1;have c0:=k4.bX.Di;have p0:w1.cell? (Ac w.heap.size 0)=some (A0 t):=by simp[World.cell?,d]
  have p1:w1.cell? (Ac w.heap.size 1)=some (A0 v):=by simp[World.cell?,d]
  obtain⟨o0,o1⟩:=k4.By.bz i aO;have z0:=Gc k4.By (g:=g) rfl (i*2);have z1:=Gc k4.By (g:=g) rfl (i*2+1);go_wp2;refine Kr 7 (by kernel_rfl) (by kernel_rfl) ?_;simp only[Ln,Fa,EV,DJ,Dq]
  repeat still_step
  refine Ks ?_;go_wp2;refine MU (Rx rfl _ _ _) rfl ?_;exact⟨rfl,_,aH.o w1 1 aQ.o⟩
 | false=>
  have aW:Hid (∀W,A3 Ab (w.aC #[A0 t,A0 v] 70) W->Af 139 #[.slice Y L.length cap,A0 i,AM W.heap.size 1 1] (W.aC #[A0 t,A0 v] 70) λe w'=>∃lv',e=.returned lv'/\HS (W.aC #[A0 t,A0 v] 70) w' (.slice Y L.length cap) (L.take i++(t,v):: L.drop i) lv'):=λW hW=>by
   obtain⟨k1,k2,d⟩:=aL.o W hW;exact A1g _ Y cap L i W.heap.size t v (Az d.By λg hg=>Dd _ _ _ (AI d.By hg)) aM aR (BO W _) (λe=>by have:=AI d.By e;omega)
  have aH:Hid (∀W I lv',A3 Ab (w.aC #[A0 t,A0 v] 70) W->HS (W.aC #[A0 t,A0 v] 70) I (.slice Y L.length cap) (L.take i++(t,v):: L.drop i) lv'->
   (I.cell? (Ac z E)=some (.slice Y L.length cap)/\I.cell? (Ac w.heap.size 0)=some (A0 t)/\I.cell? (Ac w.heap.size 1)=some (A0 v))/\I.frozen? (Ac z E)=false/\Ht w (I.sC z E lv') z E cs T (.slice Y L.length cap) (CA L t v) lv'/\∃a c,lv'=.slice a (L.length+1) c):=by
   intro W I lv' hW hI;obtain⟨k1,k2,d⟩:=aL.o W hW;have aT:(Value.slice Y L.length cap).ownBlock≠some z:=λe=>by
    obtain⟨c,hh⟩:=Be d.By e;rw[d.Ag]at hh;cases hh;exact hT rfl
   have aU:(Value.slice Y L.length cap).ownBlock≠some w.heap.size:=λe=>by
    have:=AI H.o.By e;omega
   have aB:I.heap[z]?=some (.cells cs T (0,0)):=(hI.Ak.Ap z (by have:=Bz d.Ag;simp;omega) aT).trans ((Dd _ _ _ (Bz d.Ag)).trans d.Ag);have aI:I.heap[w.heap.size]?=some (.cells #[A0 t,A0 v] 70 (0,0)):=(hI.Ak.Ap _ (by have:=Bz k2;simp;omega) aU).trans ((Dd _ _ _ (Bz k2)).trans k2);(have aV:(L.take i++(t,v):: L.drop i).length=L.length+1:=by simp;omega);(have O:CA L t v=L.take i++(t,v):: L.drop i:=by have:=aP.o;simpa using this);refine⟨⟨by simp[World.cell?,aB,H.o.Ck],by simp[World.cell?,aI],by simp[World.cell?,aI]⟩,by simp[World.frozen?,aB],⟨⟨Ct aB,?_,?_,L8 H.o.FI t v,TQ aJ⟩,?_,?_⟩,?_⟩
   ·have aG:E<cs.size:=(Qi.1 H.o.Ck).1;simp[aG]
   ·rw[O];refine Az hI.By λg hg=>?_;have aA:g≠z:=λe=>by
     obtain⟨c,hh⟩:=Be hI.By hg;subst e;rw[aB]at hh;cases hh;exact hT rfl
    exact GK _ _ _ _ (λe=>aA (by simpa using e))
   ·have c1:A3 (λk=>k=z\/(Value.slice Y L.length cap).oB k) w I:=((k1.ai (.cells #[A0 t,A0 v] 70)).aa (λ_ _ h=>h.elim)).Aw hI.Ak (λx hx _=>.inr hx);exact c1.aq (.inl rfl) E _
   ·intro g hg;rcases hI.AB g hg with h|h
    ·exact .inl h
    ·right;have:=k1.Ao;simp at h;omega
   ·obtain⟨a,c,e,_⟩:=B9 hI.By;rw[aV]at e;exact⟨a,c,e⟩
  go_enter func102,ntmps102
  go_wp2_with (fail);refine(aX.o _ ((A3.I _ w).ai _)).mono ?_;rintro e w1⟨rfl,k1⟩;have aQ:=A1 k1;obtain⟨k2,d,k4⟩:=aL.o w1 k1;have c0:=k4.bX.Di;have p0:w1.cell? (Ac w.heap.size 0)=some (A0 t):=by simp[World.cell?,d]
  have p1:w1.cell? (Ac w.heap.size 1)=some (A0 v):=by simp[World.cell?,d]
  go_wp2;refine FQ (λw'=>w'.cell? (Ac z E)=some (.slice Y L.length cap)/\w'.cell? (Ac w.heap.size 0)=some (A0 t)/\w'.cell? (Ac w.heap.size 1)=some (A0 v)) 9
   (Br [0,1,2,3,4,5,6,7,8] [7,8]) (by kernel_rfl) (by kernel_rfl) (λ_ _ _ _ _ h=>h) ⟨c0,p0,p1⟩ ?_
  iterate 7 (refine Ec (v:=?_) rfl (by rfl) ?_ ?_;rotate_left;(· (intro w' hS;(try dsimp only at hS);go_simp;try with_reducible rfl));(try simp only[An]))
  refine DY rfl (by rfl) (λK hK=>?_);go_simp;refine hK _ _ ?_ (λhS=>?_)
  ·simp[World.cell?_alloc_some,c0,p0,p1]
  (try simp only[An])
  refine DY rfl (by rfl) (λK hK=>?_);go_simp;refine(aW.o w1.drew aQ.o.af).mono ?_;rintro e I⟨lv',rfl,hI⟩;obtain⟨f1,f2,f3,a3,d3,rfl⟩:=aH.o w1.drew I lv' aQ.o.af hI;have aZ:=A1 f3;refine hK _ _ f1 (λhS=>?_);obtain⟨f1,-,-⟩:=f1
  (try simp only[An])
  refine Bl ?_;simp only[DJ,Dq];go_wp2;go_end0;exact⟨rfl,_,aZ.o⟩
end
end Go.Proofs.YtodcnkbblippnaaGreatDoor
