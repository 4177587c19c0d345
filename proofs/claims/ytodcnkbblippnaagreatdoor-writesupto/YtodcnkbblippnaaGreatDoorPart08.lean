/- Part 8 of a proof: walks of the program. -/
import Derived.Lib.AtoiAllCases
import Derived.Test.YtodcnkbblippnaaGreatDoorPart07
namespace Go.Proofs.YtodcnkbblippnaaGreatDoor
set_option maxRecDepth 100000
set_option maxHeartbeats 32000000
set_option linter.defProp false
open Go.Proofs.Tryz
section
open Go.RowKit
structure PD where
 D:DS
 F:Nat->FC
def Ir:List AN->Nat
 | []=>0
 | e::r=>max (e.2+1) (Ir r)
def OI{es:List AN}{f:Nat}(h:Dd f es):f<Ir es:=by
 induction es with
 | nil=>obtain⟨e,d,_⟩:=h;cases d
 | cons x t ih=>
  obtain⟨e,d,rfl⟩:=h;unfold Ir;rcases BX.1 d with rfl|d
  ·omega
  ·have:=ih ⟨e,d,rfl⟩;omega
def JP:List (List AN)->Nat
 | []=>0
 | c::r=>max (Ir c) (JP r)
def A2p{l:List (List AN)}{c:List AN}{f:Nat}(d:c∈l)(h:Dd f c):f<JP l:=by
 induction l with
 | nil=>cases d
 | cons x t ih=>
  unfold JP;rcases BX.1 d with rfl|d
  ·have:=OI h;omega
  ·have:=ih d;omega
def DS.AV(D:DS):Nat:=max (Ir D.A5) (max (Ir D.AF) (JP D.Aq))
def DS.cx(D:DS):¬D.Ap D.AV:=by
 intro h;have:D.AV<D.AV:=by
  rcases h with h|h|⟨c,d,h⟩
  ·have:=OI h;unfold DS.AV at *;omega
  ·have:=OI h;unfold DS.AV at *;omega
  ·have:=A2p d h;unfold DS.AV at *;omega
 omega
abbrev Bs:=List UInt8
def Ab(l:Bs):ByteArray:=⟨l.toArray⟩
def G5{a b:Bs}:Ab a=Ab b↔a=b:=by
 constructor
 ·intro h;have:=Eu (λx=>x.data.toList) h;simpa[Ab] using this
 ·rintro rfl;rfl
def Gm(b:ByteArray):Ab b.data.toList=b:=by simp[Ab]
def PD.ao(P:PD)(nm:ByteArray):Int×PD:=((CM P.D nm P.D.AV).1,⟨(CM P.D nm P.D.AV).2,upd P.F P.D.AV ([],0)⟩)
def PD.aq(P:PD)(nm:ByteArray)(l:Bs):Int×PD:=((Bx P.D P.F nm (Ab l)).1,⟨(Bx P.D P.F nm (Ab l)).2.1,(Bx P.D P.F nm (Ab l)).2.2⟩)
def PD.ae(P:PD)(nm:ByteArray):Int×PD:=((Cz P.D P.F nm).1,⟨(Cz P.D P.F nm).2.1,(Cz P.D P.F nm).2.2⟩)
def PD.aF(P:PD):Int×PD:=((DW P.D).1,⟨(DW P.D).2,P.F⟩)
def PD.az(P:PD)(nm:ByteArray):Int×PD:=((Ds P.D nm).1,⟨(Ds P.D nm).2,P.F⟩)
def PD.aN(P:PD)(old nm:ByteArray):Int×PD:=((D3 P.D old nm).1,⟨(D3 P.D old nm).2,P.F⟩)
structure Fit (P:PD) (a c m:Nat):Prop where
 A5:P.D.A5.length<=a
 AF:P.D.AF.length<=a
 FE:∀l∈P.D.Aq,l.length<=a
 An:P.D.Aq.length<=c
 Bo:∀f,P.D.Ap f->(P.F f).1.length<=m
 AA : -4611686018427387904<=P.D.n.AA/\P.D.n.AA<=9223372036854775807
 BC:0<=P.D.n.BC/\P.D.n.BC<=9223372036854775807
def Fit.ad{P:PD}{a c m a' z m':Nat}(h:Fit P a c m)(d:a<=a')(O:c<=z)(E:m<=m'):Fit P a' z m':=
 ⟨AQ h.A5 d,AQ h.AF d,λl L=>AQ (h.FE l L) d,AQ h.An O,λf I=>AQ (h.Bo f I) E,h.AA,h.BC⟩
def Q8{F:Nat->FC}{m:Nat}:∀(es:List AN),(∀f,Dd f es->(F f).1.length<=m)->AX F es<=es.length*m
 | [],_=>by simp[AX]
 | e::r,h=>by
  have h1:=h e.2 ⟨e,BQ ..,rfl⟩;have h2:=Q8 r λf d=>h f (by obtain⟨x,E,z⟩:=d;exact⟨x,BW _ E,z⟩);simp only[AX,Cq,Hz,Ux];omega
def Fit.bB{P:PD}{a c m:Nat}(h:Fit P a c m):AX P.F P.D.A5<=a*m:=
 AQ (Q8 _ λf d=>h.Bo f (.inl d)) (Hy _ h.A5)
def TT(n:DN):(bg n).2.2.AA=n.AA/\(bg n).2.2.BC=n.BC:=by
 unfold bg;dsimp only
 split
 ·exact⟨rfl,rfl⟩
 ·split
  ·exact⟨rfl,rfl⟩
  ·split<;>exact⟨rfl,rfl⟩
def Fit.bG{P:PD}{a c m:Nat}(h:Fit P a c m):Fit ⟨{P.D with n:=(bg P.D.n).2.2},P.F⟩ a c m:=
 ⟨h.A5,h.AF,h.FE,h.An,h.Bo,by have:=(TT P.D.n).1;show _<=(Go.Proofs.YtodcnkbblippnaaGreatDoor.bg P.D.n).2.2.AA/\(Go.Proofs.YtodcnkbblippnaaGreatDoor.bg P.D.n).2.2.AA<=_;rw[this];exact h.AA,by have:=(TT P.D.n).2;show _<=(Go.Proofs.YtodcnkbblippnaaGreatDoor.bg P.D.n).2.2.BC/\(Go.Proofs.YtodcnkbblippnaaGreatDoor.bg P.D.n).2.2.BC<=_;rw[this];exact h.BC⟩
def A1d{es:List AN}{nm:ByteArray}(h:¬B6 es nm<0):(B6 es nm).toNat<es.length:=by
 have:=Tk es nm;omega
def Fit.ak{P:PD}{a c m a':Nat}(h:Fit P a c m){es:List AN}(L:es.length<=a')(O:a<=a')(I:∀f,Dd f es->(P.F f).1.length<=m):Fit ⟨{P.D with A5:=es,Aq:=P.D.Aq++[es],n:=(Go.Proofs.YtodcnkbblippnaaGreatDoor.bg P.D.n).2.2},P.F⟩ a' (c+1) m:=by
 have W:=h.bG;refine⟨L,AQ h.AF O,λl z=>?_,?_,λf d=>?_,W.AA,W.BC⟩
 ·rcases AY.1 z with z|z
  ·exact AQ (h.FE l z) O
  ·simp at z;subst z;exact L
 ·have:=h.An;simp;omega
 ·rcases d with d|d|⟨x,E,d⟩
  ·exact I f d
  ·exact h.Bo f (.inr (.inl d))
  ·rcases AY.1 E with E|E
   ·exact h.Bo f (.inr (.inr ⟨x,E,d⟩))
   ·simp at E;subst E;exact I f d
def Fit.ao{P:PD}{a c m:Nat}(h:Fit P a c m)(nm:ByteArray):Fit (P.ao nm).2 (a+1) (c+1) m:=by
 have z:Fit ⟨P.D,upd P.F P.D.AV ([],0)⟩ a c m:=⟨h.A5,h.AF,h.FE,h.An,λf I=>by
  unfold upd;by_cases E:f=P.D.AV
  ·simp[E]
  ·simp only[E,C3];exact h.Bo f I,h.AA,h.BC⟩
 unfold PD.ao CM;split
 ·exact z.ad (by omega) (by omega) (Ao _)
 ·dsimp only
  split
  ·refine z.ak (a':=a+1) ?_ (by omega) ?_
   ·have:=h.A5;simp;omega
   ·rintro f⟨x,d,rfl⟩;rcases AY.1 d with d|d
    ·exact z.Bo _ (.inl ⟨x,d,rfl⟩)
    ·simp at d;subst d;simp[upd]
  ·exact z.bG.ad (by omega) (by omega) (Ao _)
def Fit.cJ{P:PD}{a c m:Nat}(h:Fit P a c m)(f:Nat)(x:FC)(E:x.1.length<=m):Fit ⟨P.D,Go.Proofs.YtodcnkbblippnaaGreatDoor.upd P.F f x⟩ a c m:=⟨h.A5,h.AF,h.FE,h.An,λg z=>by
 unfold Go.Proofs.YtodcnkbblippnaaGreatDoor.upd;by_cases d:g=f
 ·simp[d];exact E
 ·simp only[d,C3];exact h.Bo g z,h.AA,h.BC⟩
def Fit.dS{P:PD}{a c m:Nat}(h:Fit P a c m){f:Nat}(E:P.D.Ap f)(l:Bs)(n0 e:Int):Fit ⟨(BK P.D P.F f (Ab l) n0 e).2.1,(BK P.D P.F f (Ab l) n0 e).2.2⟩ a c (m+l.length):=by
 have d:=h.ad (Ao a) (Ao c) (UD m l.length);have hl:=h.Bo f E;have hu:∀k:Nat,((P.F f).1++(Ab l).data.toList.take k).length<=m+l.length:=λk=>by
  simp only[Ba,BI,Ab];omega
 unfold BK;split
 ·by_cases z:e=0
  ·simp only[z,Ci];have:=d.cJ f ((P.F f).1++(Ab l).data.toList.take (G9 P.D P.F).toNat,(P.F f).2) (hu _);exact⟨this.A5,this.AF,this.FE,this.An,this.Bo,this.AA,this.BC⟩
  ·simp only[z,C3];exact d.cJ f _ (hu _)
 ·exact d.cJ f _ (hu _)
def Fit.aq{P:PD}{a c m:Nat}(h:Fit P a c m)(nm:ByteArray)(l:Bs):Fit (P.aq nm l).2 a c (m+l.length):=by
 unfold PD.aq Bx;cases hx:lookup P.D.A5 nm with
 | none=>exact h.ad (Ao _) (Ao _) (by omega)
 | some f=>
  have d:=G7 hx;dsimp only
  split
  ·exact h.bG.dS (P:=⟨{P.D with n:=(bg P.D.n).2.2},P.F⟩) d l _ _
  ·split
   ·exact h.bG.dS (P:=⟨{P.D with n:=(bg P.D.n).2.2},P.F⟩) d l _ _
   ·exact h.bG.ad (Ao _) (Ao _) (by omega)
def Fit.ae{P:PD}{a c m:Nat}(h:Fit P a c m)(nm:ByteArray):Fit (P.ae nm).2 a c m:=by
 unfold PD.ae Cz;cases hx:lookup P.D.A5 nm with
 | none=>exact h
 | some f=>
  have d:=G7 hx;dsimp only
  split
  ·exact h.bG.cJ (P:=⟨{P.D with n:=(bg P.D.n).2.2},P.F⟩) f _ (h.Bo f d)
  ·exact h.bG
def Fit.aF{P:PD}{a c m:Nat}(h:Fit P a c m):Fit P.aF.2 a c m:=by
 unfold PD.aF DW;dsimp only
 split
 ·have z:=h.bG;refine⟨h.A5,h.A5,λl E=>(by cases E),Ce _,λf d=>h.Bo f ?_,z.AA,z.BC⟩;rcases d with d|d|⟨x,I,_⟩
  ·exact .inl d
  ·exact .inl d
  ·cases I
 ·exact h.bG
def Fit.az{P:PD}{a c m:Nat}(h:Fit P a c m)(nm:ByteArray):Fit (P.az nm).2 a (c+1) m:=by
 unfold PD.az Ds;split
 ·exact h.ad (Ao _) (by omega) (Ao _)
 ·rename_i d;have hl:=A1d d;dsimp only
  split
  ·refine h.ak (a':=a) ?_ (Ao _) ?_
   ·have:=h.A5;simp;omega
   ·rintro f⟨x,d,rfl⟩;rcases AY.1 d with d|d
    ·exact h.Bo _ (.inl ⟨x,H3 d,rfl⟩)
    ·exact h.Bo _ (.inl ⟨x,K1 d,rfl⟩)
  ·exact h.bG.ad (Ao _) (by omega) (Ao _)
def Y5(es:List AN)(i:Nat)(nm:ByteArray)(k:Nat):(Dk es i nm k).length<=k:=by
 induction k with
 | zero=>simp[Dk]
 | succ k ih=>
  simp only[Dk,Ba];cases es[k]? with
  | none=>simp;omega
  | some e=>
   dsimp only
   split
   ·simp;omega
   ·simp;omega
def Fit.aN{P:PD}{a c m:Nat}(h:Fit P a c m)(old nm:ByteArray):Fit (P.aN old nm).2 (a+1) (c+1) m:=by
 unfold PD.aN D3;cases hx:lookup P.D.A5 old with
 | none=>exact h.ad (by omega) (by omega) (Ao _)
 | some f=>
  dsimp only
  split
  ·exact h.ad (by omega) (by omega) (Ao _)
  ·dsimp only
   split
   ·refine h.ak (a':=a+1) ?_ (by omega) ?_
    ·have h1:=h.A5;have h2:=Y5 P.D.A5 (B6 P.D.A5 old).toNat nm P.D.A5.length;simp;omega
    ·rintro g⟨x,d,rfl⟩;rcases AY.1 d with d | d
     ·exact h.Bo _ (.inl ⟨x,LL _ _ _ _ x d,rfl⟩)
     ·simp at d;subst d;exact h.Bo _ (G7 hx)
   ·exact h.bG.ad (by omega) (by omega) (Ao _)
end
section
open Go.RowKit
attribute [local go_sem ↓] Go.wp_at_zero Go.wp_at_succ
def RE:∀(m u d:Nat) (r:List UInt8),u<m->d*10 ^ Lib.nDigits u+u<18446744073709551616->Lib.parseUint10 d (Lib.decDigits u++r)=Lib.parseUint10 (d*10 ^ Lib.nDigits u+u) r
 | 0,u,d,r,h,_=>by omega
 | m+1,u,d,r,h,hb=>by
  have one:∀(a x:Nat) (r:List UInt8),x<10->a*10+x<18446744073709551616->Lib.parseUint10 a (UInt8.ofNat (48+x):: r)=Lib.parseUint10 (a*10+x) r:=λa x r hx ha=>by
   (have e:(UInt8.ofNat (48+x)).toNat=48+x:=by simp;omega);simp only[Lib.parseUint10,e];rw[Ai (by omega),Ae (by omega),Ae (by omega)]
   congr 1;omega
  by_cases z:u<10
  ·rw[Lib.decDigits_one z,Ps z]at *;simp only[FL,EU,Nat.pow_one];exact one d u r z (by simpa using hb)
  ·rw[UT z,JW]at *;have e:d*(10 ^ Lib.nDigits (u/10)*10)+u=(d*10 ^ Lib.nDigits (u/10)+u/10)*10+u % 10:=by
    rw[<-Pj,Hz];omega
   rw[e]at hb ⊢;have E:Lib.decDigits u=Lib.decDigits (u/10)++[UInt8.ofNat (48+u % 10)]:=by
    rw[Lib.decDigits,OP z]
   rw[E,C8,RE m (u/10) d _ (by omega) (by omega)];exact one _ _ r (by omega) hb
def YM(c:Nat)(r:List UInt8):Lib.parseUint10 0 (List.replicate c 48++r)=Lib.parseUint10 0 r:=by
 induction c with
 | zero=>rfl
 | succ c ih=>simp only[UF,FL,Lib.parseUint10];exact ih
def Sq(k:Nat):∀u,u<10 ^ k->1<=k->Lib.nDigits u<=k:=by
 induction k with
 | zero=>intro u _ h;omega
 | succ k ih=>
  intro u hu _;by_cases h:u<10
  ·rw[Ps h];omega
  ·rw[UT h];rw[JW]at hu;cases k with
   | zero=>simp at hu;omega
   | succ k=>have:=ih (u/10) (by omega) (by omega);omega
def Mb{n:Int}(h:0<=n):Lib.itoa n=Lib.decDigits n.toNat:=by unfold Lib.itoa;rw[Ae (by omega)]
def Hq{n:Int}(d:0<=n)(h1:n<=4611686018427387904):CJ n:=by
 refine⟨d,by omega,?_⟩;rw[Mb d,UU];exact Sq 19 _ (by omega) (by omega)
def QW(c:Nat):Lib.repeatL [48] c=List.replicate c 48:=by
 induction c with
 | zero=>rfl
 | succ c ih=>simp[Lib.repeatL,ih,List.replicate_succ]
def A1H(u:Nat):∃b r,Lib.decDigits u=b::r/\48<=b.toNat/\b.toNat<=57:=by
 induction u using Nat.strongRecOn with
 | ind u ih=>
  by_cases h:u<10
  ·exact⟨_,_,Lib.decDigits_one h,by simp;omega,by simp;omega⟩
  ·obtain⟨b,r,z,d,E⟩:=ih (u/10) (by omega);refine⟨b,r++[UInt8.ofNat (48+u % 10)],?_,d,E⟩;rw[Lib.decDigits,OP h,z];rfl
def A2M{n:Int}(I:0<=n)(h1:n<=9223372036854775807)(c:Nat):Lib.atoiAll (Lib.repeatL [48] c++Lib.itoa n)=.ok n:=by
 rw[QW,Mb I];obtain⟨b,r,h,hb1,hb2⟩:=A1H n.toNat;have d:Lib.parseMag (List.replicate c 48++Lib.decDigits n.toNat)=.ok n.toNat:=by
  unfold Lib.parseMag;rw[Ae (by rw[h];simp),YM];have:=RE (n.toNat+1) n.toNat 0 [] (by omega) (by omega);rw[EF]at this;rw[this];simp[Lib.parseUint10]
 have L:∃b r,List.replicate c 48++Lib.decDigits n.toNat=b::r/\b.toNat≠43/\b.toNat≠45:=by
  cases c with
  | zero=>exact⟨b,r,by simpa using h,by omega,by omega⟩
  | succ c=>exact⟨48,List.replicate c 48++Lib.decDigits n.toNat,by simp[List.replicate_succ],by decide,by decide⟩
 obtain⟨b2,r2,e,z,E⟩:=L;rw[e]at d ⊢;rw[Lib.atoiAll_plain _ _ z E,d];unfold Lib.signless;dsimp only
 rw[Ae (by omega)]
 congr 1
 omega
def Te(a b:List UInt8):Lib.hasPrefix (a++b) a=true:=by
 unfold Lib.hasPrefix;simp
def VS(lt:List UInt8)(n:Int):Lib.trimPrefix (Em lt n) lt=Lib.repeatL [48] (19-(Lib.itoa n).length)++Lib.itoa n:=by
 unfold Lib.trimPrefix Em;rw[C8,Ai (Te _ _),UO]
def E8(lt nm:List UInt8):Option Int:=match Lib.atoiAll (Lib.trimPrefix nm lt) with
 | .ok v=>if 0<v/\v<=4611686018427387904/\Em lt v=nm then some v else none
 | _=>none
def M3(lt:List UInt8){n:Int}(h:0<n)(d:n<=4611686018427387904):E8 lt (Em lt n)=some n:=by
 unfold E8;rw[VS,A2M (by omega) (by omega)];dsimp only
 rw[Ai ⟨h,d,rfl⟩]
def Ah(n:Int):List UInt8:=BN 1 n
def AJ(n:Int):List UInt8:=BN 2 n
def AK:List UInt8:=[105]
def Bv:List UInt8:=[100]
def isNum(n:Int):Bool:=decide (1<=n/\n<=4611686018427387904)
def Ii(nm:List UInt8):Int×Int:=if nm=Bv then (4,0) else (0,0)
def H7(nm:List UInt8):Int×Int:=if nm=AK then (3,0) else Ii nm
def H8(nm:List UInt8):Int×Int:=match E8 [115] nm with
 | some v=>(2,v)
 | none=>H7 nm
def Bn(nm:List UInt8):Int×Int:=match E8 [108] nm with
 | some v=>(1,v)
 | none=>H8 nm
def G6(nm:List UInt8)(k:Nat):Int×Int:=if k=1 then Bn nm else if k=2 then H8 nm else if k=3 then H7 nm else if k=4 then Ii nm else (0,0)
def PH(s:List UInt8)(v:Int):Prop:=Lib.atoiAll s=.ok v\/(∀x,Lib.atoiAll s≠.ok x)/\isNum v=false/\(s=[]->v=0)
def TW:∀x,Lib.atoiAll []≠.ok x:=by
 intro x;have:Lib.atoiAll []=.syntax:=by decide +kernel
 rw[this];intro h;cases h
def Qa(l:List UInt8):Lib.trimPrefix l l=[]:=by
 unfold Lib.trimPrefix;have:Lib.hasPrefix l l=true:=by simpa using Te l []
 rw[Ai this];simp
def Sg{lt nm:List UInt8}{v:Int}(h:PH (Lib.trimPrefix nm lt) v):E8 lt nm=if isNum v=true/\Em lt v=nm then some v else none:=by
 unfold E8;rcases h with h|⟨h,z,-⟩
 ·rw[h];dsimp only
  by_cases d:0<v/\v<=4611686018427387904/\Em lt v=nm
  ·rw[Ai d,Ai ⟨by unfold isNum;exact Ct ⟨by omega,d.2.1⟩,d.2.2⟩]
  ·rw[Ae d,Ae];rintro⟨E,z⟩;unfold isNum at E;have:=Fk E;exact d ⟨by omega,this.2,z⟩
 ·rw[z,Ae (by simp)];cases hx:Lib.atoiAll (Lib.trimPrefix nm lt) with
  | ok x=>exact absurd hx (h x)
  | «syntax»=>rfl
  | range=>rfl
def Sl(nm:List UInt8):G6 nm 1=Bn nm:=by simp[G6]
def Sk(nm:List UInt8):G6 nm 2=H8 nm:=by simp[G6]
def Sj(nm:List UInt8):G6 nm 3=H7 nm:=by simp[G6]
def Si(nm:List UInt8):G6 nm 4=Ii nm:=by simp[G6]
def Sh(nm:List UInt8):G6 nm 5=(0,0):=by simp[G6]
def Zs{nm:List UInt8}{k:Nat}{v:Int}(hk:1<=k/\k<=4)(h:PH (Lib.trimPrefix nm (D7 k)) v):
 G6 nm k=if isNum v=decide ((k:Int)=1\/(k:Int)=2)/\BN k v=nm then ((k:Int),v) else G6 nm (k+1):=by
 have O:k=1\/k=2\/k=3\/k=4:=by omega
 rcases O with rfl|rfl|rfl|rfl
 ·have e:BN ((1:Nat):Int) v=Em [108] v:=rfl;have z:decide (((1:Nat):Int)=1\/((1:Nat):Int)=2)=true:=by decide
  have:=Sg h;rw[show D7 ((1:Nat):Int)=[108] from rfl]at this;rw[Sl,Sk,e,z,Bn,this];by_cases d:isNum v=true/\Em [108] v=nm
  ·rw[Ai d,Ai d];rfl
  ·rw[Ae d,Ae d]
 ·have e:BN ((2:Nat):Int) v=Em [115] v:=rfl;have z:decide (((2:Nat):Int)=1\/((2:Nat):Int)=2)=true:=by decide
  have:=Sg h;rw[show D7 ((2:Nat):Int)=[115] from rfl]at this;rw[Sk,Sj,e,z,H8,this];by_cases d:isNum v=true/\Em [115] v=nm
  ·rw[Ai d,Ai d];rfl
  ·rw[Ae d,Ae d]
 ·have e:BN ((3:Nat):Int) v=AK:=rfl;have z:decide (((3:Nat):Int)=1\/((3:Nat):Int)=2)=false:=by decide
  rw[Sj,Si,e,z,H7];by_cases d:nm=AK
  ·subst d;have E:isNum v=false/\v=0:=by
    rw[show D7 ((3:Nat):Int)=AK from rfl,Qa]at h;rcases h with h|⟨_,L,I⟩
    ·exact absurd h (TW v)
    ·exact⟨L,I rfl⟩
   rw[Ai rfl,Ai ⟨E.1,rfl⟩,E.2];rfl
  ·rw[Ae d,Ae (λh=>d h.2.symm)]
 ·have e:BN ((4:Nat):Int) v=Bv:=rfl;have z:decide (((4:Nat):Int)=1\/((4:Nat):Int)=2)=false:=by decide
  rw[Si,Sh,e,z,Ii];by_cases d:nm=Bv
  ·subst d;have E:isNum v=false/\v=0:=by
    rw[show D7 ((4:Nat):Int)=Bv from rfl,Qa]at h;rcases h with h|⟨_,L,I⟩
    ·exact absurd h (TW v)
    ·exact⟨L,I rfl⟩
   rw[Ai rfl,Ai ⟨E.1,rfl⟩,E.2];rfl
  ·rw[Ae d,Ae (λh=>d h.2.symm)]
def I3(w:World):Prop:=
 (∃d,w.cell? ⟨1,0,none⟩=some d/\(d=.nilIface\/∃z h,d=.iface z h))/\∃d,w.cell? ⟨2,0,none⟩=some d/\(d=.nilIface\/∃z h,d=.iface z h)
def I3.aM{w w':World}(h:I3 w)(d:A4 Aa w w'):I3 w':=by
 obtain⟨⟨I,O,z⟩,W,L,E⟩:=h;exact⟨⟨I,d.ag O,z⟩,W,d.ag L,E⟩
def A0o(s:List UInt8):isNum (Lib.atoiSat s)=false:=by
 unfold Lib.atoiSat;split<;>rfl
def A2N(w:World)(s:List UInt8)(hl:s.length<=281474976710656)(he:I3 w):
 Ag 131 #[.string ⟨s.toArray⟩] w λe w'=>∃v L,e=.returned (.tuple #[A0 v,L])/\PH s v/\A4 Aa w w':=by
 obtain⟨⟨e1,O,E⟩,W,I,k2⟩:=he;have hs:(ByteArray.mk s.toArray).size=s.length:=by show s.toArray.size=_;simp
 have d:(ByteArray.mk s.toArray).data.toList=s:=by simp
 cases hr:Lib.atoiAll s with
 | ok v=>
  refine(Tryz.strconv_Atoi_ok ⟨s.toArray⟩ (by omega) v (by rw[d];exact hr) w).mono ?_;rintro e w'⟨rfl,X⟩;refine⟨v,_,rfl,.inl hr,?_⟩;rcases X with rfl|⟨t,rfl⟩
  ·exact A4.C _ _
  ·exact A4.cP (Lib.bytesWorld_below _ _ _)
 | «syntax»=>
  refine(Tryz.strconv_Atoi_syntax ⟨s.toArray⟩ (by omega) (by rw[d];exact hr) e1 w O E).mono ?_;rintro e w'⟨N,rfl,-,-,z⟩;exact⟨0,_,rfl,.inr ⟨λx h=>(by rw[hr]at h;cases h),rfl,λ_=>rfl⟩,A4.cP z⟩
 | range=>
  refine(Tryz.strconv_Atoi_range ⟨s.toArray⟩ (by omega) (by rw[d];exact hr) W w I k2).mono ?_;rintro e w'⟨N,rfl,-,-,z⟩;have Y:s≠[]:=by
   rintro rfl;(have:Lib.atoiAll []=.syntax:=by decide +kernel);rw[this]at hr;cases hr
  exact⟨Lib.atoiSat s,_,(by rw[d]),.inr ⟨λx h=>(by rw[hr]at h;cases h),A0o s,λh=>absurd h Y⟩,A4.cP z⟩
def SO(w:World)(v:Int):Ag 128 #[A0 v] w (Aj (.bool (isNum v)) λw'=>w=w'):=by
 unfold isNum
 go_enter func128,ntmps128
 by_cases z:1<=v
 ·by_cases d:v<=4611686018427387904
  ·go_wp2;go_ret;exact⟨by simp[z,d],rfl⟩
  ·go_wp2;go_ret;exact⟨by simp[d],rfl⟩
 ·have e:decide (1<=v/\v<=4611686018427387904)=false:=Cu λh=>z h.1;rw[e];go_wp2;go_ret;exact⟨rfl,rfl⟩
section
variable {w:World} {B:Nat}
def Sd(w:World)(nm:List UInt8)(hl:nm.length<=281474976710656)(he:I3 w)(hL:Lets B w):
 Ag 97 #[.string ⟨nm.toArray⟩] w (Aj (.tuple #[A0 (Bn nm).1,A0 (Bn nm).2]) λw'=>A4 Aa w w'):=by
 have aR:Hid (∀(wr:World) (k:Nat),Ag 132 #[.string ⟨nm.toArray⟩,.string ⟨(D7 k).toArray⟩] wr (Aj (.string ⟨(Lib.trimPrefix nm (D7 k)).toArray⟩) λw'=>w'=wr)):=λwr k=>by
  have:=Tryz.strings_TrimPrefix ⟨nm.toArray⟩ ⟨(D7 k).toArray⟩ wr;simpa using this
 have aU:Hid (∀wr:World,A4 Aa w wr->∀k:Nat,1<=k->k<=4->A8 wr 0 k (.string ⟨(D7 k).toArray⟩)):=λwr d k h1 h2=>((hL.aM d).2 wr (N9 _ _)).1 k h1 h2
 have aT:Hid (∀wr:World,A4 Aa w wr->∀k:Nat,_):=λwr d k=>A2N wr (Lib.trimPrefix nm (D7 k)) (AQ (Lib.trimPrefix_le _ _) hl) (he.aM d);have aS:Hid (∀(wr:World) (k:Nat) (v:Int),A4 Aa w wr->1<=k->k<=4->isNum v=decide ((k:Int)=1\/(k:Int)=2)->Ag 134 #[A0 k,A0 v] wr λe aP=>e=.returned (.string ⟨(BN k v).toArray⟩)/\A4 Aa wr aP):=λwr k v d h1 h2 h3=>by
  by_cases hk:k=1\/k=2
  ·rw[Ct (by omega)]at h3;unfold isNum at h3;have hv:=Fk h3;have hn:=Hq (n:=v) (by omega) hv.2;exact M4 wr k ⟨h1,h2⟩ ⟨by omega,by omega⟩ hn.2.2 (hL.aM d)
  ·(have e:BN k v=D7 k:=by unfold BN;rw[Ae (by omega)]);rw[e];refine(Sn wr k (by omega) (D7 k) v (((hL.aM d).2 wr (N9 _ _)).1 k h1 h2)).mono ?_;rintro e w'⟨rfl,rfl⟩;exact⟨rfl,A4.C _ _⟩
 obtain⟨R,hR⟩:∃R,Bn nm=R:=⟨_,rfl⟩;have aN:Hid (G6 nm 1=R):=by rw[Sl];exact hR
 rw[hR]
 go_enter func97,ntmps97
 go_wp2;go_loopw [4,5,6] (λiv _ _ wr=>∃k:Nat,1<=k/\k<=5/\iv=A0 k/\Hid (A4 Aa w wr)/\Hid (G6 nm k=R)) (λiv _ _ _=>5-(intOf iv).toNat)
 case atStart=>exact⟨1,by omega,by omega,rfl,A4.C _ _,aN.o⟩
 case round=>
  obtain⟨k,L,hk2,rfl,d,X⟩:=hrel;by_cases hk:k<5
  ·have ck:=aU.o wr d.o k L (by omega);have aI:=A1 (aR.o wr k);have aD:=A1 (aT.o wr d.o k);have hk0:=BR k;(have hk5:(k:Int)<5:=by omega);obtain⟨tr,aF⟩:∃tr,Lib.trimPrefix nm (D7 k)=tr:=⟨_,rfl⟩;have aO:=A1 aF;rw[aF]at aI aD;go_wp2_with (first|(go_at_call 132;refine aI.m ?_;rintro e w1⟨rfl,rfl⟩)|(go_at_call 131;fail));refine aD.m ?_;rintro e w1⟨v,er,rfl,hv,aK⟩;have O:=Zs (k:=k) ⟨L,by omega⟩ (by rw[aO.o];exact hv);have z:Hid (A4 Aa w w1):=d.o.tr aK;have W:=A1 (aS.o w1 k v z.o L (by omega));obtain⟨nb,aH⟩:∃nb,isNum v=nb:=⟨_,rfl⟩;obtain⟨kb,aG⟩:∃kb,decide ((k:Int)=1\/(k:Int)=2)=kb:=⟨_,rfl⟩;rw[aH,aG]at O W;(have aQ:Hid (∀wr,Ag 128 #[A0 v] wr (Aj (.bool nb) λw'=>wr=w')):=λwr=>by rw[<-aH];exact SO wr v);(have aJ:Hid (∀wr,Ag 133 #[A0 k] wr (Aj (.bool kb) λw'=>wr=w')):=λwr=>by rw[<-aG];exact Om wr k);generalize hn2:BN k v=n2 at O W;have I:=A1 O;(have E:Hid (¬(nb=kb/\n2=nm)->G6 nm (k+1)=R):=λh=>by have:=I.o;rw[Ae h]at this;rw[<-this];exact X.o);(have aL:Hid (nb=kb/\n2=nm->R=((k:Int),v)):=λh=>by have:=I.o;rw[Ai h]at this;rw[<-X.o];exact this);by_cases hb:nb=kb
   ·subst hb;have aM:(nb==nb)=true:=TU nb;have aE:=A1 (W.o rfl);by_cases h3:n2=nm
    ·subst h3;have aB:=aL.o ⟨rfl,rfl⟩;subst aB;have hb:=TU n2;go_wp2_with (first|(go_at_call 128;refine(aQ.o _).mono ?_;rintro e w2⟨rfl,rfl⟩)|(go_at_call 133;refine(aJ.o _).mono ?_;rintro e w2⟨rfl,rfl⟩)|(go_at_call 134;refine aE.m ?_;rintro e w2⟨rfl,aA⟩;have Y:=A1 aA));go_ret2;exact⟨rfl,z.o.tr Y.o⟩
    ·have hb:(n2==nm)=false:=Hu.2 h3;have hN:=A1 (E.o λh=>h3 h.2);go_wp2_with (first|(go_at_call 128;refine(aQ.o _).mono ?_;rintro e w2⟨rfl,rfl⟩)|(go_at_call 133;refine(aJ.o _).mono ?_;rintro e w2⟨rfl,rfl⟩)|(go_at_call 134;refine aE.m ?_;rintro e w2⟨rfl,aA⟩;have Y:=A1 aA));go_roundw
     case rel=>exact⟨k+1,by omega,by omega,by go_num,z.o.tr Y.o,hN.o⟩
     case measure=>simp[intOf];omega
   ·have hN:=A1 (E.o λh=>hb h.1);have aM:(nb==kb)=false:=Hu.2 hb;go_wp2_with (first|(go_at_call 128;refine(aQ.o _).mono ?_;rintro e w2⟨rfl,rfl⟩)|(go_at_call 133;refine(aJ.o _).mono ?_;rintro e w2⟨rfl,rfl⟩));go_roundw
    case rel=>exact⟨k+1,by omega,by omega,by go_num,z.o,hN.o⟩
    case measure=>simp[intOf];omega
  ·(obtain rfl:k=5:=by omega);(have aB:R=(0,0):=by rw[<-X.o,Sh]);subst aB;go_wp2;go_ret2;exact⟨rfl,d.o⟩
end
end
section
open Go.RowKit
def AS(s:Nat)(l:Bs):Bs:=l++C9 (AW s l)
def PD.af(P:PD)(nm:ByteArray)(s:Nat)(l:Bs):Bool×Int×PD:=
 (Hd P.D P.F nm (AS s l),(P.aq nm (AS s l)).1,(P.aq nm (AS s l)).2)
def PD.aG(P:PD)(nm:Bs)(s:Nat)(l:Bs):Int×PD:=
 if (P.ao (Ab nm)).1≠0 then P.ao (Ab nm) else
 if ((P.ao (Ab nm)).2.af (Ab nm) s l).2.1≠0 then ((P.ao (Ab nm)).2.af (Ab nm) s l).2 else
 ((P.ao (Ab nm)).2.af (Ab nm) s l).2.2.ae (Ab nm)
def PD.CH(P:PD)(nm:Bs):Bs×Int:=DZ P.D P.F (Ab nm)
def HK(s:Nat)(t:Bs):Option Bs:=
 if t.length<4 then none else if C9 (AW s (t.take (t.length-4)))=t.drop (t.length-4) then some (t.take (t.length-4)) else none
def PD.aV(P:PD)(nm:Bs):Bs×Int:=
 if (P.CH nm).2≠0 then ([],(P.CH nm).2) else match HK (AI nm) (P.CH nm).1 with
 | some d=>(d,0)
 | none=>([],7)
def Gq:Nat->Bs->List Int
 | 0,_=>[]
 | k+1,l=>if l.length<8 then [] else BG l::Gq k (l.drop 8)
def EB(l:Bs):List Int:=Gq l.length l
def Cr{α:Type}(cmp:α->α->Int):List α->Bool
 | []=>true
 | [_]=>true
 | x::y::r=>decide (cmp x y<0)&&Cr cmp (y::r)
def Ch(x y:Int):Int:=if x<y then -1 else if y<x then 1 else 0
structure Ix where
 B9:Int
 segs:List Int
def indexOf(d:Bs×Int):Option Ix:=
 if d.2=8 then some ⟨1,[]⟩ else
 if d.2≠0\/EB d.1=[]\/d.1.length≠(EB d.1).length*8 then none else
 if (EB d.1).all isNum=false then none else
 if Cr Ch (EB d.1).tail then some ⟨(EB d.1).headD 0,(EB d.1).tail⟩ else none
def PD.aZ(P:PD):Option Ix:=indexOf (P.aV AK)
def Cj(d:Int)(segs:List Int):Bs:=AO d++segs.flatMap AO
def PD.ak(P:PD)(d:Int)(segs:List Int):Int×PD:=
 if (P.aG Bv (AI AK) (Cj d segs)).1≠0 then P.aG Bv (AI AK) (Cj d segs) else
 (P.aG Bv (AI AK) (Cj d segs)).2.aN (Ab Bv) (Ab AK)
def Cf(l:List Pu):Bs:=l.flatMap λp=>Be p.1 p.2.1 p.2.2
def PD.aH(P:PD)(n:Int)(l:List Pu):Int×PD:=P.aG (AJ n) (AI (AJ n)) (Cf l)
def Ck(p q:Pu):Int:=if Ch p.1 q.1≠0 then Ch p.1 q.1 else Ch p.2.1 q.2.1
def LQ(l:Bs):Pu:=(((l.headD 0).toNat:Int),BG (l.drop 1),BG (l.drop 9))
def EJ:Nat->Bs->Option (List Pu×Bs)
 | 0,l=>some ([],l)
 | k+1,l=>if l.length<17 then some ([],l) else
  if (l.headD 0).toNat<8 then (EJ k (l.drop 17)).map λr=>(LQ l::r.1,r.2) else none
def IK(d:Bs×Int):Option (List Pu):=
 if d.2≠0 then none else match EJ d.1.length d.1 with
 | none=>none
 | some (l,r)=>if r=[]/\Cr Ck l=true then some l else none
def PD.Cy(P:PD)(n:Int):Option (List Pu):=IK (P.aV (AJ n))
def PD.segs(P:PD):List Int->Option (List (Int×List Pu))
 | []=>some []
 | n::r=>match P.Cy n with
  | none=>none
  | some l=>(P.segs r).map λx=>(n,l):: x
structure Jn where
 Av:List Int
 Ac:Int
 puts:Int
 AE:Option (Int×Nat)
def PD.aT(P:PD)(n:Int)(ahead:Int):List Pu×Int:=GD P.D P.F (Ah n) ahead
def PD.bh(P:PD):List Int->List Pu->List Pu×Int
 | [],acc=>(acc,0)
 | n::r,acc=>if (P.aT n acc.length).2≠0 then ([],(P.aT n acc.length).2) else P.bh r (acc++(P.aT n acc.length).1)
def PD.puts(P:PD)(d:List Int):List Pu×Int:=P.bh d []
def PD.Az(P:PD):List Bs:=(dList P.D.A5).map λb=>b.data.toList
def BO(d:Int)(l:List Bs):List Int:=l.filterMap λnm=>if (Bn nm).1=1/\d<=(Bn nm).2 then some (Bn nm).2 else none
def PD.bR(P:PD)(d:Int):Jn:=⟨BO d P.Az,(BO d P.Az).getLastD (d-1),(P.puts (BO d P.Az)).1.length,none⟩
def Jn.av(J:Jn)(P:PD):Int×Jn×PD:=
 if (P.ao (Ab (Ah (J.Ac+1)))).1≠0 then ((P.ao (Ab (Ah (J.Ac+1)))).1,J,(P.ao (Ab (Ah (J.Ac+1)))).2) else
 let a:=(P.ao (Ab (Ah (J.Ac+1)))).2.af (Ab (Ah (J.Ac+1))) (AI (Ah (J.Ac+1))) (AO J.puts)
 if a.2.1≠0 then (a.2.1,J,a.2.2) else
 (0,⟨J.Av++[J.Ac+1],J.Ac+1,J.puts,some (J.Ac+1,AW (AI (Ah (J.Ac+1))) (AO J.puts))⟩,a.2.2)
def Jn.ay(J:Jn)(P:PD)(p:Pu):Bool×Int×Jn×PD:=match J.AE with
 | none=>(false,0,J,P)
 | some (n,s)=>
  let a:=P.af (Ab (Ah n)) s (Be p.1 p.2.1 p.2.2)
  (a.1,a.2.1,{J with AE:=some (n,AW s (Be p.1 p.2.1 p.2.2))},a.2.2)
def Jn.af(J:Jn)(P:PD)(p:Pu):Bool×Int×Jn×PD:=
 if J.AE=none then
  (if (J.av P).1≠0 then (false,(J.av P).1,(J.av P).2.1,(J.av P).2.2) else (J.av P).2.1.ay (J.av P).2.2 p)
 else J.ay P p
def Jn.ae(J:Jn)(P:PD):Int×PD:=match J.AE with
 | none=>(0,P)
 | some (n,_)=>P.ae (Ab (Ah n))
structure Ar where
 ix:Ix
 j:Jn
 Ac:Int
 AR:List Bs
def Ar.Az(A:Ar):List Bs:=AK::A.j.Av.map Ah++A.ix.segs.map AJ
def Ar.aU(A:Ar)(P:PD):List Bs:=P.Az.filter λnm=>decide (nm∈A.Az)
def Ar.aS(A:Ar)(P:PD):List Bs:=P.Az.filter λnm=>!decide (nm∈A.Az)
def PD.aw:List Bs->PD->Int×PD
 | [],P=>(0,P)
 | nm::r,P=>if (P.ae (Ab nm)).1≠0 then P.ae (Ab nm) else PD.aw r (P.ae (Ab nm)).2
def PD.aL:List Bs->PD->Int×PD
 | [],P=>(0,P)
 | nm::r,P=>if (P.az (Ab nm)).1≠0 then P.az (Ab nm) else PD.aL r (P.az (Ab nm)).2
def Ar.I(A:Ar)(P:PD):Int×Ar×PD:=
 if (P.aw A.AR).1≠0 then ((P.aw A.AR).1,A,(P.aw A.AR).2) else (0,{A with AR:=[]},(P.aw A.AR).2)
def Ar.ax(A:Ar)(P:PD):Int×PD:=P.aL (A.aS P)
def Ar.af(A:Ar)(P:PD)(p:Pu):Bool×Int×Ar×PD:=
 if (A.I P).1≠0 then (false,(A.I P).1,(A.I P).2.1,(A.I P).2.2) else
 let r:=(A.I P).2.1.j.af (A.I P).2.2 p
 (r.1,r.2.1,{ (A.I P).2.1 with j:=r.2.2.1},r.2.2.2)
def Ar.ae(A:Ar)(P:PD):Int×Ar×PD:=
 if (A.I P).1≠0 then A.I P else
 if ((A.I P).2.1.j.ae (A.I P).2.2).1≠0 then (((A.I P).2.1.j.ae (A.I P).2.2).1,(A.I P).2.1,((A.I P).2.1.j.ae (A.I P).2.2).2) else
 ((((A.I P).2.1.j.ae (A.I P).2.2).2.aF).1,(A.I P).2.1,(((A.I P).2.1.j.ae (A.I P).2.2).2.aF).2)
def PD.an:List (List Pu)->Int->List Int->PD->Int×Int×List Int×PD
 | [],last,kept,P=>(0,last,kept,P)
 | l::r,last,kept,P=>if (P.aH (last+1) l).1≠0 then ((P.aH (last+1) l).1,last+1,kept,(P.aH (last+1) l).2) else
  PD.an r (last+1) (kept++[last+1]) (P.aH (last+1) l).2
def Ar.ak(A:Ar)(P:PD)(segs:List Int):Int×Ar×PD:=
 if A.ix.B9=A.j.Ac+1/\A.ix.segs=segs then (0,A,P) else
 if (P.ak (A.j.Ac+1) segs).1≠0 then ((P.ak (A.j.Ac+1) segs).1,A,(P.ak (A.j.Ac+1) segs).2) else
 (0,{A with ix:=⟨A.j.Ac+1,segs⟩,j:=⟨[],A.j.Ac,0,none⟩},(P.ak (A.j.Ac+1) segs).2)
def Ar.a6(A:Ar)(P:PD):Int×Ar×PD:=
 if (A.ax P).1≠0 then ((A.ax P).1,A,(A.ax P).2) else ((A.ax P).2.aF.1,A,(A.ax P).2.aF.2)
def Ar.aJ(A:Ar)(P:PD)(kept:List Int)(fresh:List (List Pu)):Int×Ar×PD:=
 let a:=A.I P
 if a.1≠0 then a else
 let b:=a.2.1.ax a.2.2
 if b.1≠0 then (b.1,a.2.1,b.2) else
 let c:=PD.an fresh a.2.1.Ac kept b.2
 if c.1≠0 then (c.1,{a.2.1 with Ac:=c.2.1},c.2.2.2) else
 let d:=({a.2.1 with Ac:=c.2.1}:Ar).ak c.2.2.2 c.2.2.1
 if d.1≠0 then d else d.2.1.a6 d.2.2
def BJ(t len:Int):Int:=t/len
def AH(len:Int)(p q:Pu):Bool:=
 decide (BJ p.2.1 len<BJ q.2.1 len\/BJ p.2.1 len=BJ q.2.1 len/\(p.1<q.1\/p.1=q.1/\p.2.1<q.2.1))
def Fo{α:Type}(lt:α->α->Bool)(x:α):List α->List α
 | []=>[x]
 | y::r=>if lt x y then x::y::r else y::Fo lt x r
def E7{α:Type}(lt:α->α->Bool)(l:List α):List α:=l.foldl (λs x=>Fo lt x s) []
def EI(len:Int)(ws:List (List Pu))(d:Bool)(h p:Pu):List (List Pu):=
 let ws1:=if d\/BJ p.2.1 len≠BJ h.2.1 len then ws++[[]] else ws
 let last:=ws1.getLastD []
 if last≠[]/\Ck p (last.getLastD (0,0,0))=0 then ws1.dropLast++[last.dropLast++[p]] else ws1.dropLast++[last++[p]]
def Ek(len:Int):List Pu->Bool->Pu->List (List Pu)->List (List Pu)
 | [],_,_,ws=>ws
 | p::r,first,prev,ws=>Ek len r false p (EI len ws first prev p)
def EO(len:Int)(l:List Pu):List (List Pu):=Ek len (E7 (AH len) l) true (0,0,0) []
def Ar.aO(A:Ar)(P:PD)(d:Int):Int×Ar×PD:=
 if (P.puts A.j.Av).2≠0 then ((P.puts A.j.Av).2,A,P) else A.aJ P A.ix.segs (EO d (P.puts A.j.Av).1)
def Ar.aQ(P:PD):Except Int (Ar×List Pu):=match P.aZ with
 | none=>.error 7
 | some ix=>if P.Az.any (λnm=>decide ((Bn nm).1=0)) then .error 7 else
  match P.segs ix.segs with
  | none=>.error 7
  | some segs=>if (P.puts (BO ix.B9 P.Az)).2≠0 then .error (P.puts (BO ix.B9 P.Az)).2 else
   let A:Ar:=⟨ix,P.bR ix.B9,(P.Az.filterMap λnm=>if (Bn nm).1=2 then some (Bn nm).2 else none).getLastD 0,[]⟩
   .ok ({A with AR:=A.aU P},segs.flatMap (·.2)++(P.puts (BO ix.B9 P.Az)).1)
def As(w:World)(Ft:Nat->Prop)(w':World)(R:World->(Nat->Prop)->Prop):Prop:=
 A4 Ft w w'/\∃d,R w' d/\(∀k,d k->k<w'.heap.size)/\∀k,d k->Ft k\/w.heap.size<=k
def As.Au{w I w2:World}{Ft:Nat->Prop}{R aA:World->(Nat->Prop)->Prop}(h:As w Ft I R)(h2:∀d,R I d->(∀k,d k->k<I.heap.size)->(∀k,d k->Ft k\/w.heap.size<=k)->As I d w2 aA):As w Ft w2 aA:=by
 obtain⟨hc,d,hr,z,Y⟩:=h;obtain⟨W,O,L,E,X⟩:=h2 d hr z Y;refine⟨hc.Au W λx hx z=>(Y x hx).resolve_right (by omega),O,L,E,λk hk=>?_⟩;rcases X k hk with h|h
 ·exact Y k h
 ·exact .inr (AQ hc.Al h)
def As.aY{w z w':World}{Ft:Nat->Prop}{R:World->(Nat->Prop)->Prop}(h:As z Ft w' R)(E:A4 Aa w z):As w Ft w' R:=by
 obtain⟨W,d,L,X,O⟩:=h;exact⟨(E.ad λ_ _ h=>h.elim).tr W,d,L,X,λk I=>(O k I).imp id λh=>AQ E.Al h⟩
def As.fy{w w':World}{Ft:Nat->Prop}{R z:World->(Nat->Prop)->Prop}(h:As w Ft w' R)(W:∀d,(∀k,d k->k<w'.heap.size)->R w' d->z w' d):As w Ft w' z:=by
 obtain⟨O,d,I,E,L⟩:=h;exact⟨O,d,W d E I,E,L⟩
def As.aR{w w':World}{Ft d:Nat->Prop}{R:World->(Nat->Prop)->Prop}(h:As w Ft w' R)(E:∀k,Ft k->d k):As w d w' R:=by
 obtain⟨W,z,L,X,O⟩:=h;exact⟨W.ad λx _ Y=>E x Y,z,L,X,λk I=>(O k I).imp (E k) id⟩
def Bu(w:World)(b:Nat)(P:PD)(Ft:Nat->Prop):Prop:=AU w b P.D P.F Ft
def Bu.aI{w w':World}{b:Nat}{P:PD}{Ft:Nat->Prop}(h:Bu w b P Ft)(d:Gc Ft w w'):Bu w' b P Ft:=AU.aI h d
def Dt(w:World)(size:Nat)(v:Value)(n:Nat)(xs:List Value):Prop:=
 xs.length=n*size/\∃a cap,v=.slice a n cap/\n<=cap/\cap<=maxLen/\(∀g,v.ownBlock=some g->g<w.heap.size)/\
  ∀j u,xs[j]?=some u->∃g o,a=some ⟨g,o,none⟩/\w.cell? ⟨g,o+j,none⟩=some u
def Dt.aI{w w':World}{size n:Nat}{v:Value}{xs:List Value}(h:Dt w size v n xs)(z:∀g,v.ownBlock=some g->w'.heap[g]?=w.heap[g]?):Dt w' size v n xs:=by
 obtain⟨O,a,cap,rfl,I,Y,L,W⟩:=h;refine⟨O,a,cap,rfl,I,Y,λg d=>?_,λj u hj=>?_⟩
 ·have:=z g d;have X:=L g d;rcases F9 g w'.heap.size with h|h
  ·exact h
  ·rw[Na h]at this;rw[A30 X]at this;cases this
 ·obtain⟨g,o,rfl,E⟩:=W j u hj;refine⟨g,o,rfl,?_⟩;have:=z g rfl;unfold World.cell? at E ⊢;rw[this];exact E
def Dt.An{S:Nat->Prop}{w w':World}{size n:Nat}{v:Value}{xs:List Value}(h:Dt w size v n xs)(I:A4 S w w')(E:∀g,v.ownBlock=some g->¬S g):Dt w' size v n xs:=by
 refine h.aI λg d=>I.Am g ?_ (E g d);obtain⟨_,a,cap,rfl,_,_,z,_⟩:=h;exact z g d
def Dt.lt{w:World}{size n:Nat}{v:Value}{xs:List Value}(h:Dt w size v n xs){g:Nat}(z:v.ownBlock=some g):g<w.heap.size:=by
 obtain⟨_,a,cap,rfl,_,_,d,_⟩:=h;exact d g z
def Dt.dw{w:World}{d e size n:Nat}{v:Value}{xs:List Value}(h:w.ownsRow d e size v n xs):Dt w size v n xs:=by
 obtain⟨a,cap,rfl,X,I,h3,W,Y⟩:=Bk h;refine⟨h.1,a,cap,rfl,X,I,λg O=>Ay h O,λj u z=>?_⟩;cases ha:a with
 | none=>
  subst ha;have L:=(W rfl).1;have E:=h.1;rw[L]at E;have:xs=[]:=by simpa using E
  rw[this]at z;simp at z
 | some x=>
  subst ha;obtain⟨g,rfl⟩:=Y x rfl;exact⟨g,0,rfl,by simpa using BD h rfl z⟩
def Dt.BP{w:World}{size n:Nat}{v:Value}{xs:List Value}(h:Dt w size v n xs):∃a cap,v=.slice a n cap/\n<=cap/\cap<=maxLen:=by
 obtain⟨_,a,cap,z,d,E,_⟩:=h;exact⟨a,cap,z,d,E⟩
def Dt.bN{w:World}{size:Nat}:Dt w size (.slice none 0 0) 0 []:=
 ⟨by simp,none,0,rfl,Ao _,by decide,λg h=>by simp[Value.ownBlock]at h,λj u d=>by simp at d⟩
def Ef(l:List Int):List Value:=l.map λn=>A0 n
def SU(l:List Int):(Ef l).length=l.length:=by simp[Ef]
def Md(a b:List Int):Ef (a++b)=Ef a++Ef b:=by simp[Ef]
def On(l:List Int)(k:Nat)(h:k<l.length):(Ef l)[k]?=some (A0 (l[k]'h)):=by simp[Ef,h]
def KH(l:List Int):∀u∈Ef l,u.oneCell'=true:=by
 intro u hu;simp[Ef]at hu;obtain⟨x,_,rfl⟩:=hu;rfl
def D6(w:World)(v:Value)(l:List Int):Prop:=Dt w 1 v l.length (Ef l)
def Ee(w:World)(v:Value)(l:List Int):Prop:=w.ownsRow 0 3 1 v l.length (Ef l)
def Ee.rd{w:World}{v:Value}{l:List Int}(h:Ee w v l):D6 w v l:=Dt.dw h
def Dh(l:List Bs):List Value:=l.map λx=>.string ⟨x.toArray⟩
def MA(a b:List Bs):Dh (a++b)=Dh a++Dh b:=by simp[Dh]
def A2C(l:List Bs)(k:Nat)(h:k<l.length):(Dh l)[k]?=some (.string ⟨(l[k]'h).toArray⟩):=by simp[Dh,h]
def Mz(l:List Bs):∀u∈Dh l,u.oneCell'=true:=by
 intro u hu;simp[Dh]at hu;obtain⟨x,_,rfl⟩:=hu;rfl
def WQ(l:List ByteArray):FN l=Dh (l.map λb=>b.data.toList):=by simp[FN,Dh]
def GK(w:World)(v:Value)(l:List Bs):Prop:=Dt w 1 v l.length (Dh l)
def Dm(w:World)(v:Value)(l:List Bs):Prop:=w.ownsRow 0 9 1 v l.length (Dh l)
def Dm.rd{w:World}{v:Value}{l:List Bs}(h:Dm w v l):GK w v l:=Dt.dw h
def Hx(w:World)(v:Value)(l:List Pu):Prop:=Dt w 3 v l.length (AZ l)
def B5.rd{w:World}{v:Value}{l:List Pu}(h:B5 w v l):Hx w v l:=Dt.dw h
def D6.at{w:World}{a:Option Addr}{n cap:Nat}{l:List Int}(h:D6 w (.slice a n cap) l)(k:Nat)(d:k<l.length):∃g o,a=some (A9 g o)/\A8 w g (o+k) (A0 (l[k]'d)):=by
 obtain⟨_,a',cap',e,_,_,_,z⟩:=h;cases e;exact z k _ (On l k d)
def Hx.at{w:World}{a:Option Addr}{n cap:Nat}{l:List Pu}(h:Hx w (.slice a n cap) l)(k:Nat)(d:k<l.length):∃g o,a=some (A9 g o)/\g<w.heap.size/\A8 w g (o+k*3) (A0 (l[k]'d).1)/\A8 w g (o+k*3+1) (A0 (l[k]'d).2.1)/\A8 w g (o+k*3+2) (A0 (l[k]'d).2.2):=by
 obtain⟨_,a',cap',e,_,_,E,z⟩:=h;cases e;obtain⟨I,X,L⟩:=Ia l k d;obtain⟨g,o,rfl,c1⟩:=z _ _ I;obtain⟨O,W,e,c2⟩:=z _ _ X;cases e;obtain⟨O,W,e,c3⟩:=z _ _ L;cases e;exact⟨g,o,rfl,E g rfl,c1,c2,c3⟩
def GK.at{w:World}{a:Option Addr}{n cap:Nat}{l:List Bs}(h:GK w (.slice a n cap) l)(k:Nat)(d:k<l.length):∃g o,a=some (A9 g o)/\A8 w g (o+k) (.string ⟨(l[k]'d).toArray⟩):=by
 obtain⟨_,a',cap',e,_,_,_,z⟩:=h;cases e;exact z k _ (A2C l k d)
structure CV (a c m:Nat):Prop where
 a:a<=1073741824
 c:c<=1000000000000
 m:m<=4294967296
def Fit.et{P:PD}{a c m:Nat}(h:Fit P a c m)(d:CV a c m):AX P.F P.D.A5<=4611686018427387904:=
 AQ h.bB (AQ (UA d.a d.m) (by decide))
def JO{P:PD}{a c m:Nat}(h:Fit P a c m)(nm:ByteArray):(Cv P.D P.F nm).1<=m:=by
 unfold Cv;cases hx:lookup P.D.A5 nm with
 | none=>simp
 | some f=>have:=h.Bo f (G7 hx);simp;omega
section
variable {w:World} {b fb:Nat} {P:PD} {Ft:Nat->Prop} {T:TypeId} {name:ByteArray} {s a c m:Nat}
def A1W(I:Bg w fb T (A6 b) name s)(h:Bu w b P Ft)(E:Fit P a c m)(z:CV a c m):
 Ag 240 #[A6 fb] w (Aj (A0 (P.ao name).1) λw'=>As w Ft w' (λw' d=>Bu w' b (P.ao name).2 d)):=
 Tz I h P.D.AV P.D.cx (by have:=E.A5;have:=E.An;have:=z.a;have:=z.c;omega)
def Qj(z:Bg w fb T (A6 b) name s)(h:Bu w b P Ft):
 Ag 164 #[A6 fb] w (Aj (A0 (P.ae name).1) λw'=>As w Ft w' (λw' d=>Bu w' b (P.ae name).2 d)):=W9 z h
def Ji(w:World)(Ft:Nat->Prop)(fb:Nat)(w':World)(b:Nat)(P:PD):Prop:=K8 w Ft fb w' b P.D P.F
def A3n(z:Bg w fb T (A6 b) name s)(L:s<4294967296)(h:Bu w b P Ft)(E:∀k,Ft k->k<w.heap.size)(W:¬Ft fb)(l:Bs)(hll:l.length<=4294967296)(d:Fit P a c m)(I:CV a c m):
 Ag 237 #[A6 fb,.string ⟨l.toArray⟩] w (Aj (.tuple #[.bool (P.af name s l).1,A0 (P.af name s l).2.1]) λw'=>Bg w' fb T (A6 b) name (AW s l)/\Ji w Ft fb w' b (P.af name s l).2.2):=by
 have hm:=I.m;have hp:(AS s l).length=l.length+4:=by simp[AS,Hn]
 have O:=d.aq name (AS s l);have hz:=JO O name;have hz2:=JO d name
 exact Pc z L h E W l d.AA (d.et I) d.BC (λf z=>by have:=d.Bo f (G7 z);omega) (by omega) ⟨by
  show (Cv (P.aq name (AS s l)).2.D (P.aq name (AS s l)).2.F name).1<=_;omega,by omega⟩
def PO(nm l:Bs)(hs:s<4294967296)(h:Bu w b P Ft)(aA:∀k,Ft k->k<w.heap.size)(aS:l.length<=4294967296)(hF:Fit P a c m)(hl:CV (a+1) (c+1) m):
 Ag 196 #[.agg #[A6 b,.string ⟨nm.toArray⟩,.int .u32 s],.string ⟨l.toArray⟩] w (Aj (A0 (P.aG nm s l).1) λw'=>As w Ft w' (λw' aD=>Bu w' b (P.aG nm s l).2 aD)):=by
 have aL:CV a c m:=⟨by have:=hl.a;omega,by have:=hl.c;omega,hl.m⟩;have aH:Bg (w.aC #[A6 b,.string (Ab nm),.int .u32 s] 160) w.heap.size 160 (A6 b) (Ab nm) s:=Bf w _;have k0:A4 Aa w (w.aC #[A6 b,.string (Ab nm),.int .u32 s] 160):=(A4.C _ w).ah _;have h0:Bu (w.aC #[A6 b,.string (Ab nm),.int .u32 s] 160) b P Ft:=AU.au h aA k0;have CR:=A1 (A1W aH h0 hF aL);have AD:Hid (∀I,Bg I w.heap.size 160 (A6 b) (Ab nm) s->∀d,Bu I b (P.ao (Ab nm)).2 d->(∀k,d k->k<I.heap.size)->¬d w.heap.size->_):=λI q1 d q2 q3 q4=>A3n q1 hs q2 q3 q4 l aS (hF.ao (Ab nm)) hl;have aE:Hid (∀I,Bg I w.heap.size 160 (A6 b) (Ab nm) (AW s l)->∀d,Bu I b ((P.ao (Ab nm)).2.af (Ab nm) s l).2.2 d->_):=λI q1 d q2=>Qj q1 q2;have aR:=A1 aH;have a0:=A1 k0;have aG:=A1 aA
 have W:Hid (P.aG nm s l=if (P.ao (Ab nm)).1≠0 then P.ao (Ab nm) else
  if ((P.ao (Ab nm)).2.af (Ab nm) s l).2.1≠0 then ((P.ao (Ab nm)).2.af (Ab nm) s l).2 else
  ((P.ao (Ab nm)).2.af (Ab nm) s l).2.2.ae (Ab nm)):=rfl
 generalize hR:P.aG nm s l=R at W ⊢;generalize hC:P.ao (Ab nm)=C at W CR AD aE;generalize hD:C.2.af (Ab nm) s l=D at W AD aE;generalize hE:D.2.2.ae (Ab nm)=E at W aE
 go_enter func196,ntmps196
 go_wp2_with (fail);refine CR.m ?_;rintro e I⟨rfl,aJ,d,q2,q3,q4⟩;have aI:=A1 (aR.o.ai aJ λh=>GB _ (aG.o _ h));have aV:Hid (A4 (λk=>Ft k) w I):=(a0.o.ad λ_ _ h=>h.elim).tr aJ;have aQ:Hid (w.heap.size<I.heap.size):=aI.o.lt;have a5:=A1 q2;have aZ:=A1 q3;have aK:Hid (∀k,d k->Ft k\/w.heap.size<k):=λk O=>(q4 k O).imp id λh=>by simp at h;omega
 have aY:Hid (¬d w.heap.size):=λO=>(aK.o _ O).elim (λh=>GB _ (aG.o _ h)) λh=>GB _ h
 have aF:=A1 (AD.o I aI.o d q2 q3 aY.o);by_cases hc:C.1=0
 case neg=>
  have hR:R=C:=by rw[W.o,Ai hc]
  have hb:(C.1 !=0)=true:=by simpa using hc
  go_wp2;go_ret;subst hR;exact⟨rfl,aV.o,d,a5.o,aZ.o,λk O=>(aK.o k O).imp id Fb⟩
 case pos=>
 have hb:(C.1 !=0)=false:=by simpa using hc
 have aW:Hid (R=if D.2.1≠0 then D.2 else E):=by rw[W.o,Ae (by simpa using hc)];rfl
 have aT:∀L,(Bg L w.heap.size 160 (A6 b) (Ab nm) (AW s l)/\Ji I d w.heap.size L b D.2.2)->Hid (A4 (λk=>Ft k) w L/\∃z,Bu L b D.2.2 z/\(∀k,z k->k<L.heap.size)/\(∀k,z k->Ft k\/w.heap.size<k)/\Ag 164 #[A6 w.heap.size] L (Aj (A0 E.1) λw'=>As L z w' (λw' aD=>Bu w' b E.2 aD))):=by
  rintro L⟨Y,X,z,p2,p3,p4⟩;refine⟨aV.o.Au X λx hx aA=>hx.elim (λh=>(aK.o x h).resolve_right (by omega)) λh=>by omega,z,p2,p3,λk O=>(p4 k O).elim (λh=>aK.o k h) λh=>.inr (by have:=aQ.o;omega),aE.o L Y z p2⟩
 have aB:=A1 aT;by_cases hd:D.2.1=0
 case neg=>
  have hR:R=D.2:=by rw[aW.o,Ai hd]
  have aO:(D.2.1 !=0)=true:=by simpa using hd
  go_wp2_with (go_at_call 237;refine aF.m ?_;rintro e L⟨rfl,Y,X⟩;have a3:=aB.o L ⟨Y,X⟩);go_ret;subst hR;obtain⟨k2,z,p2,p3,p5,-⟩:=a3.o;exact⟨rfl,k2,z,p2,p3,λk O=>(p5 k O).imp id Fb⟩
 case pos=>
 have aO:(D.2.1 !=0)=false:=by simpa using hd
 have hR:R=E:=by rw[aW.o,Ae (by simpa using hd)]
 subst hR;go_wp2_with (fail);refine aF.m ?_;rintro e L⟨rfl,Y,X⟩;obtain⟨k2,z,p2,p3,p5,sy⟩:=(aB.o L ⟨Y,X⟩).o;have aU:=A1 k2;have aX:=A1 p5;have aE:=A1 sy;go_wp2_with (go_at_call 164;refine aE.m ?_;rintro e w3⟨rfl,aP,aM,r2,r3,r4⟩;have aN:=A1 aP;have a1:=A1 r2;have a2:=A1 r3;have a4:=A1 r4);go_ret;exact⟨rfl,aU.o.Au aN.o λx hx aA=>(aX.o x hx).resolve_right (by omega),aM,a1.o,a2.o,λk O=>(a4.o k O).elim (λh=>(aX.o k h).imp id Fb) λh=>.inr (by have:=aU.o.Al;omega)⟩
end
def KW{P:PD}{a c m:Nat}(h:Fit P a c m)(nm:Bs):(P.CH nm).1.length<=m:=by
 unfold PD.CH DZ;cases hx:lookup P.D.A5 (Ab nm) with
 | none=>simp
 | some f=>exact h.Bo f (G7 hx)
section
variable {w:World} {b:Nat} {P:PD} {Ft:Nat->Prop} {a c m:Nat}
def Ro(nm:Bs)(h:Bu w b P Ft)(I:∀k,Ft k->k<w.heap.size)(hF:Fit P a c m)(hl:CV a c m):
 Ag 126 #[.agg #[A6 b,.string ⟨nm.toArray⟩,.int .u32 (AI nm)]] w (Aj (.tuple #[.string ⟨(P.aV nm).1.toArray⟩,A0 (P.aV nm).2]) λw'=>A4 Aa w w'):=by
 have aF:=KW hF nm;have hm:=hl.m;have aD:=Js nm;obtain⟨s,hs⟩:∃s,AI nm=s:=⟨_,rfl⟩
 have aE:Hid (P.aV nm=if (P.CH nm).2≠0 then ([],(P.CH nm).2) else match HK s (P.CH nm).1 with
  | some d=>(d,0)
  | none=>([],7)):=by rw[<-hs];rfl
 generalize X:P.aV nm=R at aE ⊢;rw[hs]at aD ⊢;have aA:Bg (w.aC #[A6 b,.string (Ab nm),.int .u32 s] 160) w.heap.size 160 (A6 b) (Ab nm) s:=Bf w _;have k0:A4 Aa w (w.aC #[A6 b,.string (Ab nm),.int .u32 s] 160):=(A4.C _ w).ah _;have aO:=A1 (Uf aA (AU.au h I k0));obtain⟨x,Y⟩:∃x,P.CH nm=x:=⟨_,rfl⟩;have L:Hid (Ag 166 #[A6 w.heap.size] (w.aC #[A6 b,.string (Ab nm),.int .u32 s] 160) (Aj (.tuple #[.string ⟨x.1.toArray⟩,A0 x.2]) λw'=>A4 Aa (w.aC #[A6 b,.string (Ab nm),.int .u32 s] 160) w')):=by
  rw[<-Y];exact aO.o
 rw[Y]at aE aF;obtain⟨t,ae⟩:=x;dsimp only at aE aF L;have aK:=A1 aA;have aM:=A1 k0;have aI:=A1 aD
 go_enter func126,ntmps126
 by_cases he:ae=0
 case neg=>
  have hb:(ae !=0)=true:=by simpa using he
  have X:R=([],ae):=by rw[aE.o,Ai he]
  subst X;go_wp2_with (go_at_call 166;refine L.m ?_;rintro e z⟨rfl,E⟩;have aH:=A1 E);go_ret2;exact⟨rfl,aM.o.tr aH.o⟩
 case pos=>
 subst he
 have aG:Hid (R=match HK s t with
  | some d=>(d,0)
  | none=>([],7)):=by rw[aE.o,Ae (by simp)];rfl
 have aP:Hid (∀z,Bg z w.heap.size 160 (A6 b) (Ab nm) s->∃(d:Bs) (ok:Bool),R=(if ok then (d,0) else ([],7))/\Ag 167 #[A6 w.heap.size,.string ⟨t.toArray⟩] z (Aj (.tuple #[.string ⟨d.toArray⟩,.bool ok]) λw'=>A4 (One w.heap.size) z w')):=λz aL=>by
  by_cases h4:t.length<4
  ·refine⟨[],false,?_,?_⟩
   ·rw[aG.o];unfold HK;rw[Ai h4];rfl
   ·refine(VP z w.heap.size t h4).mono ?_;rintro e w'⟨rfl,rfl⟩;exact⟨rfl,A4.C _ _⟩
  ·refine⟨t.take (t.length-4),decide (C9 (AW s (t.take (t.length-4)))=t.drop (t.length-4)),?_,?_⟩
   ·rw[aG.o];unfold HK;rw[Ae h4];by_cases hq:C9 (AW s (t.take (t.length-4)))=t.drop (t.length-4)
    ·rw[Ai hq,Ct hq];rfl
    ·rw[Ae hq,Cu hq];rfl
   ·have:=Nl z w.heap.size 160 (A6 b) (Ab nm) s (t.take (t.length-4)) (t.drop (t.length-4)) aL aI.o (by rw[Cl];omega) (by rw[BI];omega);rw[E0]at this;refine this.mono ?_;rintro e w'⟨h1,h2,h3⟩;exact⟨h1,h3⟩
 go_wp2_with (fail);refine L.m ?_;rintro e z⟨rfl,E⟩;obtain⟨d,ok,X,aJ⟩:=aP.o z (aK.o.ai E (λh=>h));have aN:Hid (A4 Aa w z):=aM.o.tr E;have aB:=A1 aJ;cases ok with
 | false=>
  simp only[PG,C3]at X;subst X;go_wp2_with (go_at_call 167;refine aB.m ?_;rintro e w2⟨rfl,O⟩;have W:=A1 O);go_ret2;exact⟨rfl,aN.o.Au W.o λx Y I=>by cases Y;omega⟩
 | true=>
  simp only[Ci]at X;subst X;go_wp2_with (go_at_call 167;refine aB.m ?_;rintro e w2⟨rfl,O⟩;have W:=A1 O);go_ret2;exact⟨rfl,aN.o.Au W.o λx Y I=>by cases Y;omega⟩
end
def Tryz.cY:(Tryz.prog.info? 3).map (λi=>(i.zero,i.size,i.bytes))=some (some (A0 0),1,8):=by kernel_rfl
def A0s{k:Nat}{l:Bs}(h:l.length<8):Gq k l=[]:=by cases k<;>simp[Gq,h]
def A0u(l:Bs): -9223372036854775808<=BG l/\BG l<=9223372036854775807:=by unfold BG wrap64;omega
def A0q(w:World)(E:Bs)(hl0:E.length<=4294967296):
 Calls Tryz.prog 127 #[.string ⟨E.toArray⟩] w λe w'=>∃v,e=.returned v/\Ee w' v (EB E)/\(∀g,v.ownBlock=some g->w.heap.size<=g)/\A4 (λ_=>False) w w':=by
 obtain⟨R,hR⟩:∃R,EB E=R:=⟨_,rfl⟩;have aT:Hid (Gq E.length E=R):=hR;rw[hR];obtain⟨i0,hi,aF,aI,aJ⟩:∃i0,Tryz.prog.info? 3=some i0/\i0.zero=some (.int .i64 0)/\i0.size=1/\i0.bytes=8:=by
  have h:=Tryz.cY;cases hx:Tryz.prog.info? 3 with
  | none=>rw[hx]at h;cases h
  | some i=>rw[hx]at h;simp at h;exact⟨i,rfl,h.1,h.2.1,h.2.2⟩
 go_enter func127,ntmps127
 go_wp2;go_loopw [0,3] (λtv v wr=>∃(l:Bs) (k:Nat) (d:List Int),tv=.string ⟨l.toArray⟩/\d.length*8+l.length<=E.length/\Hid (Ee wr v d/\(∀g,v.ownBlock=some g->w.heap.size<=g)/\A4 (λ_=>False) w wr/\l.length<=k/\R=d++Gq k l)) (λtv _ _=>match tv with | .string x=>x.size|_=>0)
 case atStart=>exact⟨E,E.length,[],rfl,by simp,Cp _ _ _ _,λg I=>by simp[Value.ownBlock]at I,A4.C _ _,Ao _,by rw[aT.o];rfl⟩
 case round=>
  obtain⟨l,k,d,rfl,aA,hI⟩:=hrel;have z:(ByteArray.mk l.toArray).size=l.length:=by show l.toArray.size=_;simp
  by_cases h8:l.length<8
  case pos=>
   obtain⟨i1,i2,i3,-,i5⟩:=hI.o;rw[A0s h8,EF]at i5;subst i5;(have aE:¬(8<=(l.length:Int)):=by omega);have aO:=A1 i1;have aS:=A1 i2;have aP:=A1 i3;go_wp2;go_ret;exact⟨_,rfl,aO.o,aS.o,aP.o⟩
  case neg=>
   obtain⟨i1,i2,i3,i4,i5⟩:=hI.o;obtain⟨k,rfl⟩:∃k',k=k'+1:=⟨k-1,by omega⟩;have aH:Hid (R=(d++[BG l])++Gq k (l.drop 8)):=by
    unfold Hid;rw[i5];simp[Gq,h8]
   have O:=A1 (Me wr l (by omega));have hx:=A0u l;generalize hxe:BG l=x at aH O hx;obtain⟨ap,cp,rfl,hcap1,X,-⟩:=Bk i1;unfold maxLen at X;have e2:(ByteArray.mk l.toArray).extract 8 l.length=⟨(l.drop 8).toArray⟩:=by
    rw[extract_mk,Ec (by rw[Cl];omega)]
   have W:(l.drop 8).length=l.length-8:=Cl;generalize hq:l.drop 8=q at e2 aH W;generalize htx:ByteArray.mk l.toArray=tx at e2 z O ⊢;generalize hll:l.length=ll at e2 z W aA h8 i4;(have h8i:(8:Int)<=(ll:Int):=by omega);have aM:=A1 i1;have aN:=A1 i2;have aL:=A1 i3;have aQ:=A1 i4;have L:=A1 W;have aD:=A1 aA
   go_wp2_with (first
    | (go_at_call 168;refine O.o.mono ?_;rintro e w4⟨rfl,rfl⟩)
    | (at_builtin
       have aB:Hid ((wr.alloc (.cells #[.int .i64 x] 3)).ownsRow 0 3 1 (.slice ap d.length cp) d.length (Ef d)):=Aw aM.o λg I=>CQ _ _ _ (Ay aM.o I);have aG:=A1 (Src.a8 (size:=1) (B:=wr.heap.size) underlying26 wr #[.int .i64 x] 3 (by simp) 1 1 rfl (KH [x]));refine CZ rfl (.tmp 9) (.tmp 12) 26 26 rfl 3 i0 _ 1 8 underlying26 hi aF aI aJ rfl (by decide) (.slice ap d.length cp) d.length (Ef d) (by rfl) aB.o _ 1 _ (by rfl) aG.o (by have:=aD.o;omega) ?_;intro a8 cap8 w8 Y;have aR:=A1 Y
       clear Y))
   go_roundw
   case rel=>
    have Y:=aR.o;have aK:=Y.An (S:=λk=>(Value.slice ap d.length cp).ownBlock=some k) λ_ h=>h;have k9:A4 (λ_=>False) wr (wr.alloc (.cells #[.int .i64 x] 3)):=(A4.C _ wr).ah _;refine⟨q,k,d++[x],rfl,by have:=aD.o;have:=L.o;simp;omega,?_,?_,?_,by have:=aQ.o;have:=L.o;omega,aH.o⟩
    ·(have e:(d++[x]).length=d.length+1:=by simp);unfold Ee;rw[Md,e];exact Y.AE
    ·intro g I;rcases Y.BS with h|h
     ·rw[h]at I;exact aN.o g I
     ·rw[h]at I;cases I;exact AQ aL.o.Al k9.Al
    ·exact(aL.o.Au k9 λ_ h _=>h).Au aK λy hy aE=>by have:=aN.o y hy;omega
   case measure=>
    (have e:(ByteArray.mk q.toArray).size=q.length:=by show q.toArray.size=_;simp);have:=L.o;simp only[e,z];omega
def Tryz.fD:(Tryz.prog.info? 260).map (·.size)=some 2:=by kernel_rfl
def Tryz.gh:liesAt Tryz.prog Tryz.prog.depth 260 (2/Tryz.prog.cellsOf 260) 0 260 1=true:=by kernel_rfl
def GO(B b:Nat)(l:List UInt8)(w:World):Prop:=Lib.IsBuilder 260 5 B b (Lib.byteCells l) w
def A2b(B b:Nat)(bs:List Value)(w:World)(h:Lib.IsBuilder 260 5 B b bs w):
 Ag 238 #[A6 b] w (Aj (.tuple #[]) λw'=>(Lib.BuilderAt 260 5 B b (A6 b) bs w'/\Below B w w')):=by
 obtain⟨j,z,E⟩:=A3r.1 Tryz.fD;rcases h with h|h
 ·have I:=h.cell0;have d:=h.shape;have hfz:=h.frozen0;have H:=A1 h
  go_enter func238,ntmps238
  go_wp2;rw[Lib.run_to_unsafe w (A9 b 0) underlying258 underlying217 z (by rw[E];decide) d (Nat.zero_lt_succ 1)];simp only[Result.andThen];rw[Ut];go_wp2;rw[Xs func262 (by kernel_rfl) (by kernel_rfl) (by kernel_rfl) (e:=Extern.AbiNoEscape.same) (by kernel_rfl)];rw[Lib.run_noEscape];simp only[Result.andThen];rw[Ut];go_wp2;rw[Lib.run_from_unsafe w (A9 b 0) underlying217 underlying258 z d Tryz.gh];simp only[Result.andThen];rw[Ut];go_wp2;go_end0;exact⟨rfl,H.o.used _,(N9 B w).setCell (p:=(A9 b 0)) H.o.1 _⟩
 ·have I:=h.cell0;have H:=A1 h
  go_enter func238,ntmps238
  go_wp2;rw[Lib.run_neq_ptr_same w _ underlying258 z];go_wp2;go_end0;exact⟨rfl,H.o,N9 B _⟩
def Vo(B b:Nat)(bs:List Value)(s:ByteArray)(w:World)(h:Lib.IsBuilder 260 5 B b bs w)(hlen:bs.length+s.size<=140737488355328)(hBw:B<=w.heap.size):
 Ag 194 #[A6 b,.string s] w (Aj (.tuple #[A0 s.size,.nilIface]) λw'=>(Lib.BuilderAt 260 5 B b (A6 b) (bs++Lib.strCells s) w'/\Below B w w')):=by
 obtain⟨i0,hi,aB,aD,aE⟩:=DG Tryz.infoByte
 go_enter func194,ntmps194
 go_wp2_with (go_at_call 238;refine(A2b B b bs _ h).mono ?_);rintro e W⟨rfl,h1,O⟩;obtain⟨hB,v,E,L,aA⟩:=h1;have c0:W.cell? (A9 b 0)=some (A6 b):=by rw[Pv E];rfl
 have c1:W.cell? (A9 b 1)=some v:=by rw[Pv E];rfl
 go_wp2_with (at_builtin;refine Lib.wpList_append_own_string _ rfl _ _ 127 9 rfl B 5 i0 underlying127 underlying9 hi aB aD aE _ _ _ rfl L s rfl ?c3 ?c4 ?c5 ?_)
 case c3=>unfold maxLen;omega
 case c4=>omega
 case c5=>have:=O.size;omega
 intro v' X d z _;have Y:b<W.heap.size:=by
  rcases F9 b W.heap.size with h' | h'
  ·exact h'
  ·simp[Array.getElem?_eq_none h']at E
 have I:X.heap[b]?=some (.cells #[A6 b,v] 260 (0,0)):=by
  rw[z.block b Y (λe=>aA e.symm)];exact E
 have d0:X.cell? (A9 b 0)=some (A6 b):=by rw[Pv I];rfl
 have d1:X.cell? (A9 b 1)=some v:=by rw[Pv I];rfl
 have f1:X.frozen? (A9 b 1)=false:=Lib.frozen_of_heap I 1;obtain⟨ao,n',cap,rfl⟩:∃ao n' cap,v'=.slice ao n' cap:=by
  rcases d.2 with⟨hv,_⟩|⟨g,cap,cur,hv,_⟩
  ·exact⟨_,_,_,hv⟩
  ·exact⟨_,_,_,hv⟩
 go_wp2;go_ret2;refine⟨rfl,?_,?_⟩
 ·exact Lib.BuilderAt.put (T:=260) (e:=5) hB I (bs':=bs++Lib.strCells s) (by simpa[Lib.strCells_length] using d) (by decide)
 ·exact(O.grown z (by have:=O.size;omega) (λk hk=>(L.lt k hk).1)).setCell (p:=(A9 b 1)) hB _
def WS(l:List UInt8):Lib.strCells ⟨l.toArray⟩=Lib.byteCells l:=by
 simp[Lib.strCells,Lib.byteCells]
def Nb{B b:Nat}{l t:List UInt8}(w:World)(h:GO B b l w)(d:l.length+t.length<=140737488355328)(z:B<=w.heap.size):
 Calls Tryz.prog 194 #[.pointer (some ⟨b,0,none⟩),.string ⟨t.toArray⟩] w λe w'=>e=.returned (.tuple #[.int .i64 t.length,.nilIface])/\GO B b (l++t) w'/\Below B w w':=by
 have I:(ByteArray.mk t.toArray).size=t.length:=by show t.toArray.size=_;simp
 refine(Vo B b (Lib.byteCells l) ⟨t.toArray⟩ w h (by rw[Lib.byteCells_length,I];exact d) z).mono ?_;rintro e w'⟨rfl,E,L⟩;refine⟨by rw[I],.inr ?_,L⟩;rw[WS]at E;have:Lib.byteCells (l++t)=Lib.byteCells l++Lib.byteCells t:=by simp[Lib.byteCells]
 rw[this];exact E
def A2z{B b:Nat}{l:List UInt8}(w:World)(h:GO B b l w)(d:B<=w.heap.size):
 Ag 197 #[A6 b] w (Aj (.string ⟨l.toArray⟩) λw'=>Below B w w'):=Tryz.Builder_String_any B b l w h d
def TR(w:World):GO w.heap.size w.heap.size [] (w.alloc (.cells #[.pointer none,.slice none 0 0] 260)):=
 .inl ⟨Ao _,_,Bf w _,Cp _ _ _ _,by simp[Value.ownBlock]⟩
def GO.ai{B b:Nat}{l:List UInt8}{w w':World}{S:Nat->Prop}(h:GO B b l w)(I:A4 S w w')(E:∀k,S k->k<B):GO B b l w':=by
 have key:∀p,Lib.BuilderAt 260 5 B b p (Lib.byteCells l) w->Lib.BuilderAt 260 5 B b p (Lib.byteCells l) w':=by
  rintro p⟨W,v,L,d,O⟩;refine⟨W,v,I.ai L (λh=>by have:=E _ h;omega),?_,O⟩;exact Aw d λg z=>I.Am g (Ay d z) (λh=>by have:=E _ h;have:=(d.lt g z).1;omega)
 exact h.imp (key _) (key _)
section
variable {α:Type} (lt:α->α->Bool)
structure Ca:Prop where
 Im:∀x,lt x x=false
 Au:∀x y z,lt x y=true->lt y z=true->lt x z=true
 Ks:∀x y z,lt x z=true->lt x y=true\/lt y z=true
def eqv(x y:α):Bool:=!lt x y && !lt y x
def Br(l l':List α):Prop:=∀x,l.filter (eqv lt x)=l'.filter (eqv lt x)
def B2(l:List α):Prop:=l.Pairwise λx y=>lt y x=false
variable {lt}
def Br.C(l:List α):Br lt l l:=λ_=>rfl
def Br.bC{l l':List α}(h:Br lt l l'):Br lt l' l:=λx=>(h x).symm
def Br.Au{l l' d:List α}(h:Br lt l l')(z:Br lt l' d):Br lt l d:=λx=>(h x).trans (z x)
def Br.aq{a a' b d:List α}(h:Br lt a a')(z:Br lt b d):Br lt (a++b) (a'++d):=λx=>by
 rw[Li,Li,h x,z x]
def Ca.eJ(h:Ca lt)(x:α):eqv lt x x=true:=by simp[eqv,h.Im]
def Ca.cc(h:Ca lt){x y:α}(d:lt x y=true):lt y x=false:=by
 cases hyx:lt y x with
 | false=>rfl
 | true=>have:=h.Au _ _ _ d hyx;rw[h.Im]at this;cases this
def Ca.dq(h:Ca lt){x y z:α}(I:lt y x=false)(E:lt z y=false):lt z x=false:=by
 cases hzx:lt z x with
 | false=>rfl
 | true=>rcases h.Ks z y x hzx with d|d
         ·rw[E]at d;cases d
         ·rw[I]at d;cases d
def Ca.fO(h:Ca lt){x y z:α}(E:lt y z=true)(I:eqv lt x y=true):eqv lt x z=false:=by
 cases hz:eqv lt x z with
 | false=>rfl
 | true=>
  simp[eqv]at I hz;rcases h.Ks y x z E with d|d
  ·rw[I.2]at d;cases d
  ·rw[hz.1]at d;cases d
def Ca.fR(h:Ca lt){x y:α}(d:lt y x=true):Br lt [x,y] [y,x]:=λz=>by
 simp only[Gd,List.filter_nil];cases h1:eqv lt z y with
 | false=>cases eqv lt z x<;>rfl
 | true=>rw[h.fO d h1];rfl
def Ca.dX(h:Ca lt){x:α}{ys:List α}(d:∀y∈ys,lt y x=true):Br lt (x::ys) (ys++[x]):=by
 induction ys with
 | nil=>exact Br.C _
 | cons y r ih=>
  have I:Br lt (x::y::r) (y::x::r):=by
   have:=(h.fR (d y (BQ ..))).aq (Br.C (lt:=lt) r);simpa using this
  have E:Br lt (y::x::r) (y::(r++[x])):=by
   have:=(Br.C (lt:=lt) [y]).aq (ih λz L=>d z (BW _ L));simpa using this
  exact I.Au E
def Ca.eG(h:Ca lt){xs ys:List α}(d:∀x∈xs,∀y∈ys,lt y x=true):Br lt (xs++ys) (ys++xs):=by
 induction xs with
 | nil=>simpa using Br.C (lt:=lt) ys
 | cons x r ih=>
  have I:=ih λz O=>d z (BW _ O);have E:Br lt (x::(r++ys)) (x::(ys++r)):=by simpa using(Br.C (lt:=lt) [x]).aq I
  have L:=(h.dX (d x (BQ ..))).aq (Br.C r);have:=E.Au L;simpa using this
def Ca.da(h:Ca lt){y:α}{xs:List α}(E:∀x∈xs,lt y x=true):Br lt (xs++[y]) (y::xs):=by
 simpa using h.eG (xs:=xs) (ys:=[y]) λx I z d=>by simp at d;subst d;exact E x I
def Br.E4{l l':List α}(d:Ca lt)(h:Br lt l l'){x:α}(z:x∈l):x∈l':=by
 have:x∈l.filter (eqv lt x):=Hg.2 ⟨z,d.eJ x⟩;rw[h x]at this;exact(Hg.1 this).1
def Ca.ew(d:Ca lt):∀ {l l':List α},B2 lt l->B2 lt l'->Br lt l l'->l=l'
 | [],[],_,_,_=>rfl
 | [],b::r',_,_,h=>by have:=(h.bC).E4 d (BQ (a:=b) (l:=r'));cases this
 | a::r,[],_,_,h=>by have:=h.E4 d (BQ (a:=a) (l:=r));cases this
 | a::r,b::r',h1,h2,h=>by
  have W:=Dn.1 h1;have X:=Dn.1 h2;have L:lt a b=false:=by
   rcases BX.1 (h.E4 d (BQ (a:=a) (l:=r))) with rfl|E
   ·exact d.Im _
   ·exact X.1 a E
  have I:lt b a=false:=by
   rcases BX.1 (h.bC.E4 d (BQ (a:=b) (l:=r'))) with rfl|E
   ·exact d.Im _
   ·exact W.1 b E
  have Y:eqv lt a b=true:=by simp[eqv,L,I]
  have O:=h a;rw[Jg (d.eJ a),Jg Y]at O;obtain rfl:a=b:=(Hk O).1;refine Eu (a :: ·) (d.ew W.2 X.2 λx=>?_);have z:=h x;cases hc:eqv lt x a with
  | true=>rw[Jg hc,Jg hc]at z;exact(Hk z).2
  | false=>rw[Lh (by rw[hc];decide),Lh (by rw[hc];decide)]at z;exact z
def A0G{x y:α}{l:List α}:y∈Fo lt x l↔y=x\/y∈l:=by
 induction l with
 | nil=>simp[Fo]
 | cons z r ih=>
  unfold Fo;split
  ·simp
  ·simp only[BX,ih];constructor
   ·rintro (h|h|h)
    ·exact .inr (.inl h)
    ·exact .inl h
    ·exact .inr (.inr h)
   ·rintro (h|h|h)
    ·exact .inr (.inl h)
    ·exact .inl h
    ·exact .inr (.inr h)
def Ca.e4(I:Ca lt){x:α}{l:List α}(h:B2 lt l):B2 lt (Fo lt x l):=by
 induction l with
 | nil=>simp[Fo,B2]
 | cons z r ih=>
  have L:=Dn.1 h;unfold Fo;split
  ·rename_i E;refine Dn.2 ⟨λy d=>?_,h⟩;rcases BX.1 d with rfl|d
   ·exact I.cc E
   ·exact I.dq (I.cc E) (L.1 y d)
  ·rename_i E;refine Dn.2 ⟨λy d=>?_,ih L.2⟩;rcases A0G.1 d with rfl|d
   ·simpa using E
   ·exact L.1 y d
def Ca.eP(I:Ca lt){x:α}{l:List α}(h:B2 lt l):Br lt (l++[x]) (Fo lt x l):=by
 induction l with
 | nil=>exact Br.C _
 | cons z r ih=>
  have O:=Dn.1 h;unfold Fo;split
  ·rename_i L;refine I.da λy E=>?_;rcases BX.1 E with rfl|E
   ·exact L
   ·rcases I.Ks x y z L with d|d
    ·exact d
    ·rw[O.1 y E]at d;cases d
  ·simpa using(Br.C (lt:=lt) [z]).aq (ih O.2)
def Ca.dr(d:Ca lt):∀(l s:List α),B2 lt s->B2 lt (l.foldl (λs x=>Fo lt x s) s)/\Br lt (s++l) (l.foldl (λs x=>Fo lt x s) s)
 | [],s,h=>⟨h,by simpa using Br.C (lt:=lt) s⟩
 | x::r,s,h=>by
  obtain⟨E,z⟩:=d.dr r _ (d.e4 (x:=x) h);refine⟨E,Br.Au ?_ z⟩;have:=(d.eP (x:=x) h).aq (Br.C (lt:=lt) r);simpa using this
def Ca.eF(d:Ca lt)(l:List α):B2 lt (E7 lt l):=(d.dr l [] List.Pairwise.nil).1
def Ca.cv(d:Ca lt)(l:List α):Br lt l (E7 lt l):=by
 have:=(d.dr l [] List.Pairwise.nil).2;rw[EU]at this;exact this
def Ca.eC(d:Ca lt){l l':List α}(h:B2 lt l')(z:Br lt l l'):l'=E7 lt l:=
 d.ew h (d.eF l) (z.bC.Au (d.cv l))
def B2.aq{a b:List α}(h:B2 lt (a++b)):B2 lt a/\B2 lt b/\∀x∈a,∀y∈b,lt y x=false:=by
 have:=Ew.1 h;exact⟨this.1,this.2.1,this.2.2⟩
def B2.cE{a b:List α}(d:B2 lt a)(z:B2 lt b)(h:∀x∈a,∀y∈b,lt y x=false):B2 lt (a++b):=Ew.2 ⟨d,z,h⟩
def Ca.e7(O:Ca lt){d E z h s1 s2:List α}(hA:B2 lt (d++E))(hB:B2 lt (z++h))(h1:∀x∈d,∀y∈h,lt y x=false)(W:∀x∈E,∀y∈z,lt y x=true)(k1:B2 lt s1)(k2:B2 lt s2)(Y:Br lt (d++z) s1)(X:Br lt (E++h) s2):B2 lt (s1++s2)/\Br lt (d++E++(z++h)) (s1++s2):=by
 obtain⟨a1,a2,a3⟩:=hA.aq;obtain⟨b1,b2,b3⟩:=hB.aq;refine⟨B2.cE k1 k2 λx L y I=>?_,?_⟩
 ·rcases AY.1 (Y.bC.E4 O L) with L|L<;>rcases AY.1 (X.bC.E4 O I) with I|I
  ·exact a3 x L y I
  ·exact h1 x L y I
  ·exact O.cc (W y I x L)
  ·exact b3 x L y I
 ·have m:=((Br.C (lt:=lt) d).aq (O.eG W)).aq (Br.C h);have e:d++E++(z++h)=d++(E++z)++h:=by simp
  have e':d++(z++E)++h=d++z++(E++h):=by simp
  rw[e];refine m.Au ?_;rw[e'];exact Y.aq X
def Ca.cH(d:Ca lt){a b:List α}(Y:B2 lt a)(hb:B2 lt b)(h:∀x y,a.getLast?=some x->b.head?=some y->lt y x=false):∀x∈a,∀y∈b,lt y x=false:=by
 intro x X y W;rcases Lj a with rfl|⟨a',z,rfl⟩
 ·cases X
 cases b with
 | nil=>cases W
 | cons y0 b'=>
  have h0:=h z y0 (by simp) rfl;have L:lt z x=false:=by
   (have E:x∈a'\/x=z:=by simpa using X);rcases E with I|rfl
   ·exact(B2.aq (by simpa using Y)).2.2 x I z (by simp)
   ·exact d.Im _
  have O:lt y y0=false:=by
   rcases BX.1 W with rfl|I
   ·exact d.Im _
   ·exact(Dn.1 hb).1 y I
  exact d.dq (d.dq L h0) O
def Ca.dy(E:Ca lt){a b:List α}(ha:B2 lt a)(hb:B2 lt b)(h:∀x y,a.getLast?=some y->b.head?=some x->lt y x=true):∀x∈b,∀y∈a,lt y x=true:=by
 intro x Y y X;rcases Lj a with rfl|⟨a',z,rfl⟩
 ·cases X
 cases b with
 | nil=>cases Y
 | cons x0 b'=>
  have h0:=h x0 z (by simp) rfl;have W:lt z y=false:=by
   (have I:y∈a'\/y=z:=by simpa using X);rcases I with L|rfl
   ·exact(B2.aq (by simpa using ha)).2.2 y L z (by simp)
   ·exact E.Im _
  have O:lt x x0=false:=by
   rcases BX.1 Y with rfl|L
   ·exact E.Im _
   ·exact(Dn.1 hb).1 x L
  have h1:lt y x0=true:=by
   rcases E.Ks z y x0 h0 with d|d
   ·rw[W]at d;cases d
   ·exact d
  rcases E.Ks y x x0 h1 with d|d
  ·exact d
  ·rw[O]at d;cases d
end
end
end Go.Proofs.YtodcnkbblippnaaGreatDoor
