/- Part 7 of a proof: walks of the program. -/
import Derived.Lib.AtoiAllCases
import Derived.Test.YtodcnkbblippnaaGreatDoorPart06
namespace Go.Proofs.YtodcnkbblippnaaGreatDoor
set_option maxRecDepth 100000
set_option maxHeartbeats 32000000
set_option linter.defProp false
open Go.Proofs.Tryz
section
open Go.RowKit
structure PD where
 D:DS
 F:Nat->FC
def GL:List AL->Nat
 | []=>0
 | e::r=>max (e.2+1) (GL r)
def JQ{es:List AL}{f:Nat}(h:Dy f es):f<GL es:=by
 induction es with
 | nil=>obtain⟨e,d,_⟩:=h;cases d
 | cons x t ih=>
  obtain⟨e,d,rfl⟩:=h;unfold GL;rcases Cf.1 d with rfl|d
  ·omega
  ·have:=ih ⟨e,d,rfl⟩;omega
def Is:List (List AL)->Nat
 | []=>0
 | c::r=>max (GL c) (Is r)
def Sm{l:List (List AL)}{c:List AL}{f:Nat}(d:c∈l)(h:Dy f c):f<Is l:=by
 induction l with
 | nil=>cases d
 | cons x t ih=>
  unfold Is;rcases Cf.1 d with rfl|d
  ·have:=JQ h;omega
  ·have:=ih d;omega
def DS.Bq(D:DS):Nat:=max (GL D.A3) (max (GL D.BT) (Is D.AI))
def DS.b8(D:DS):¬D.AM D.Bq:=by
 intro h;have:D.Bq<D.Bq:=by
  rcases h with h|h|⟨c,d,h⟩
  ·have:=JQ h;unfold DS.Bq at *;omega
  ·have:=JQ h;unfold DS.Bq at *;omega
  ·have:=Sm d h;unfold DS.Bq at *;omega
 omega
abbrev Bs:=List UInt8
def Aa(l:Bs):ByteArray:=⟨l.toArray⟩
def G3{a b:Bs}:Aa a=Aa b↔a=b:=by
 constructor
 ·intro h;have:=ER (λx=>x.data.toList) h;simpa[Aa] using this
 ·rintro rfl;rfl
def Jq(b:ByteArray):Aa b.data.toList=b:=by simp[Aa]
def PD.al(P:PD)(nm:ByteArray):Int×PD:=((Ck P.D nm P.D.Bq).1,⟨(Ck P.D nm P.D.Bq).2,upd P.F P.D.Bq ([],0)⟩)
def PD.aw(P:PD)(nm:ByteArray)(l:Bs):Int×PD:=((B6 P.D P.F nm (Aa l)).1,⟨(B6 P.D P.F nm (Aa l)).2.1,(B6 P.D P.F nm (Aa l)).2.2⟩)
def PD.az(P:PD)(nm:ByteArray):Int×PD:=((CJ P.D P.F nm).1,⟨(CJ P.D P.F nm).2.1,(CJ P.D P.F nm).2.2⟩)
def PD.aM(P:PD):Int×PD:=((DI P.D).1,⟨(DI P.D).2,P.F⟩)
def PD.aL(P:PD)(nm:ByteArray):Int×PD:=((CU P.D nm).1,⟨(CU P.D nm).2,P.F⟩)
def PD.aV(P:PD)(d nm:ByteArray):Int×PD:=((Cv P.D d nm).1,⟨(Cv P.D d nm).2,P.F⟩)
structure Fit (P:PD) (a c m:Nat):Prop where
 A3:P.D.A3.length<=a
 BT:P.D.BT.length<=a
 GN:∀l∈P.D.AI,l.length<=a
 Aj:P.D.AI.length<=c
 BF:∀f,P.D.AM f->(P.F f).1.length<=m
 Bl : -4611686018427387904<=P.D.n.Bl/\P.D.n.Bl<=9223372036854775807
 BY:0<=P.D.n.BY/\P.D.n.BY<=9223372036854775807
def Fit.U{P:PD}{a c m a' y z:Nat}(h:Fit P a c m)(d:a<=a')(J:c<=y)(E:m<=z):Fit P a' y z:=
 ⟨Az h.A3 d,Az h.BT d,λl I=>Az (h.GN l I) d,Az h.Aj J,λf H=>Az (h.BF f H) E,h.Bl,h.BY⟩
def KM{F:Nat->FC}{m:Nat}:∀(es:List AL),(∀f,Dy f es->(F f).1.length<=m)->AT F es<=es.length*m
 | [],_=>by simp[AT]
 | e::r,h=>by
  have h1:=h e.2 ⟨e,Ce ..,rfl⟩;have h2:=KM r λf d=>h f (by obtain⟨x,z,y⟩:=d;exact⟨x,BK _ z,y⟩);simp only[AT,Cr,IG,Nat.one_mul];omega
def Fit.cT{P:PD}{a c m:Nat}(h:Fit P a c m):AT P.F P.D.A3<=a*m:=
 Az (KM _ λf d=>h.BF f (.inl d)) (GS _ h.A3)
def MW(n:DN):(bg n).2.2.Bl=n.Bl/\(bg n).2.2.BY=n.BY:=by
 unfold bg;dsimp only
 split
 ·exact⟨rfl,rfl⟩
 ·split
  ·exact⟨rfl,rfl⟩
  ·split<;>exact⟨rfl,rfl⟩
def Fit.bc{P:PD}{a c m:Nat}(h:Fit P a c m):Fit ⟨{P.D with n:=(bg P.D.n).2.2},P.F⟩ a c m:=
 ⟨h.A3,h.BT,h.GN,h.Aj,h.BF,by have:=(MW P.D.n).1;show _<=(Go.Proofs.YtodcnkbblippnaaGreatDoor.bg P.D.n).2.2.Bl/\(Go.Proofs.YtodcnkbblippnaaGreatDoor.bg P.D.n).2.2.Bl<=_;rw[this];exact h.Bl,by have:=(MW P.D.n).2;show _<=(Go.Proofs.YtodcnkbblippnaaGreatDoor.bg P.D.n).2.2.BY/\(Go.Proofs.YtodcnkbblippnaaGreatDoor.bg P.D.n).2.2.BY<=_;rw[this];exact h.BY⟩
def RM{es:List AL}{nm:ByteArray}(h:¬AN es nm<0):(AN es nm).toNat<es.length:=by
 have:=RK es nm;omega
def Fit.ag{P:PD}{a c m a':Nat}(h:Fit P a c m){es:List AL}(H:es.length<=a')(I:a<=a')(E:∀f,Dy f es->(P.F f).1.length<=m):Fit ⟨{P.D with A3:=es,AI:=P.D.AI++[es],n:=(Go.Proofs.YtodcnkbblippnaaGreatDoor.bg P.D.n).2.2},P.F⟩ a' (c+1) m:=by
 have J:=h.bc;refine⟨H,Az h.BT I,λl y=>?_,?_,λf d=>?_,J.Bl,J.BY⟩
 ·rcases B3.1 y with y|y
  ·exact Az (h.GN l y) I
  ·simp at y;subst y;exact H
 ·have:=h.Aj;simp;omega
 ·rcases d with d|d|⟨x,z,d⟩
  ·exact E f d
  ·exact h.BF f (.inr (.inl d))
  ·rcases B3.1 z with z|z
   ·exact h.BF f (.inr (.inr ⟨x,z,d⟩))
   ·simp at z;subst z;exact E f d
def Fit.al{P:PD}{a c m:Nat}(h:Fit P a c m)(nm:ByteArray):Fit (P.al nm).2 (a+1) (c+1) m:=by
 have y:Fit ⟨P.D,upd P.F P.D.Bq ([],0)⟩ a c m:=⟨h.A3,h.BT,h.GN,h.Aj,λf E=>by
  unfold upd;by_cases z:f=P.D.Bq
  ·simp[z]
  ·simp only[z,BG];exact h.BF f E,h.Bl,h.BY⟩
 unfold PD.al Ck;split
 ·exact y.U (by omega) (by omega) (Aw _)
 ·dsimp only
  split
  ·refine y.ag (a':=a+1) ?_ (by omega) ?_
   ·have:=h.A3;simp;omega
   ·rintro f⟨x,d,rfl⟩;rcases B3.1 d with d|d
    ·exact y.BF _ (.inl ⟨x,d,rfl⟩)
    ·simp at d;subst d;simp[upd]
  ·exact y.bc.U (by omega) (by omega) (Aw _)
def Fit.bP{P:PD}{a c m:Nat}(h:Fit P a c m)(f:Nat)(x:FC)(z:x.1.length<=m):Fit ⟨P.D,Go.Proofs.YtodcnkbblippnaaGreatDoor.upd P.F f x⟩ a c m:=⟨h.A3,h.BT,h.GN,h.Aj,λg y=>by
 unfold Go.Proofs.YtodcnkbblippnaaGreatDoor.upd;by_cases d:g=f
 ·simp[d];exact z
 ·simp only[d,BG];exact h.BF g y,h.Bl,h.BY⟩
def Fit.cp{P:PD}{a c m:Nat}(h:Fit P a c m){f:Nat}(E:P.D.AM f)(l:Bs)(z e:Int):Fit ⟨(Cp P.D P.F f (Aa l) z e).2.1,(Cp P.D P.F f (Aa l) z e).2.2⟩ a c (m+l.length):=by
 have d:=h.U (Aw a) (Aw c) (Tc m l.length);have hl:=h.BF f E;have hu:∀k:Nat,((P.F f).1++(Aa l).data.toList.take k).length<=m+l.length:=λk=>by
  simp only[B2,Dg,Aa];omega
 unfold Cp;split
 ·by_cases y:e=0
  ·simp only[y,BM];have:=d.bP f ((P.F f).1++(Aa l).data.toList.take (EP P.D P.F).toNat,(P.F f).2) (hu _);exact⟨this.A3,this.BT,this.GN,this.Aj,this.BF,this.Bl,this.BY⟩
  ·simp only[y,BG];exact d.bP f _ (hu _)
 ·exact d.bP f _ (hu _)
def Fit.aw{P:PD}{a c m:Nat}(h:Fit P a c m)(nm:ByteArray)(l:Bs):Fit (P.aw nm l).2 a c (m+l.length):=by
 unfold PD.aw B6;cases hx:lookup P.D.A3 nm with
 | none=>exact h.U (Aw _) (Aw _) (by omega)
 | some f=>
  have d:=Ea hx;dsimp only
  split
  ·exact h.bc.cp (P:=⟨{P.D with n:=(bg P.D.n).2.2},P.F⟩) d l _ _
  ·split
   ·exact h.bc.cp (P:=⟨{P.D with n:=(bg P.D.n).2.2},P.F⟩) d l _ _
   ·exact h.bc.U (Aw _) (Aw _) (by omega)
def Fit.az{P:PD}{a c m:Nat}(h:Fit P a c m)(nm:ByteArray):Fit (P.az nm).2 a c m:=by
 unfold PD.az CJ;cases hx:lookup P.D.A3 nm with
 | none=>exact h
 | some f=>
  have d:=Ea hx;dsimp only
  split
  ·exact h.bc.bP (P:=⟨{P.D with n:=(bg P.D.n).2.2},P.F⟩) f _ (h.BF f d)
  ·exact h.bc
def Fit.aM{P:PD}{a c m:Nat}(h:Fit P a c m):Fit P.aM.2 a c m:=by
 unfold PD.aM DI;dsimp only
 split
 ·have y:=h.bc;refine⟨h.A3,h.A3,λl z=>(by cases z),CL _,λf d=>h.BF f ?_,y.Bl,y.BY⟩;rcases d with d|d|⟨x,E,_⟩
  ·exact .inl d
  ·exact .inl d
  ·cases E
 ·exact h.bc
def Fit.aL{P:PD}{a c m:Nat}(h:Fit P a c m)(nm:ByteArray):Fit (P.aL nm).2 a (c+1) m:=by
 unfold PD.aL CU;split
 ·exact h.U (Aw _) (by omega) (Aw _)
 ·rename_i d;have hl:=RM d;dsimp only
  split
  ·refine h.ag (a':=a) ?_ (Aw _) ?_
   ·have:=h.A3;simp;omega
   ·rintro f⟨x,d,rfl⟩;rcases B3.1 d with d|d
    ·exact h.BF _ (.inl ⟨x,IJ d,rfl⟩)
    ·exact h.BF _ (.inl ⟨x,Kd d,rfl⟩)
  ·exact h.bc.U (Aw _) (by omega) (Aw _)
def Pj(es:List AL)(i:Nat)(nm:ByteArray)(k:Nat):(Ch es i nm k).length<=k:=by
 induction k with
 | zero=>simp[Ch]
 | succ k ih=>
  simp only[Ch,B2];cases es[k]? with
  | none=>simp;omega
  | some e=>
   dsimp only
   split
   ·simp;omega
   ·simp;omega
def Fit.aV{P:PD}{a c m:Nat}(h:Fit P a c m)(y nm:ByteArray):Fit (P.aV y nm).2 (a+1) (c+1) m:=by
 unfold PD.aV Cv;cases hx:lookup P.D.A3 y with
 | none=>exact h.U (by omega) (by omega) (Aw _)
 | some f=>
  dsimp only
  split
  ·exact h.U (by omega) (by omega) (Aw _)
  ·dsimp only
   split
   ·refine h.ag (a':=a+1) ?_ (by omega) ?_
    ·have h1:=h.A3;have h2:=Pj P.D.A3 (AN P.D.A3 y).toNat nm P.D.A3.length;simp;omega
    ·rintro g⟨x,d,rfl⟩;rcases B3.1 d with d | d
     ·exact h.BF _ (.inl ⟨x,Jc _ _ _ _ x d,rfl⟩)
     ·simp at d;subst d;exact h.BF _ (Ea hx)
   ·exact h.bc.U (by omega) (by omega) (Aw _)
end
section
open Go.RowKit
attribute [local go_sem ↓] Go.wp_at_zero Go.wp_at_succ
def LA:∀(m u d:Nat) (r:List UInt8),u<m->d*10 ^ Lib.nDigits u+u<18446744073709551616->Lib.parseUint10 d (Lib.decDigits u++r)=Lib.parseUint10 (d*10 ^ Lib.nDigits u+u) r
 | 0,u,d,r,h,_=>by omega
 | m+1,u,d,r,h,hb=>by
  have one:∀(a x:Nat) (r:List UInt8),x<10->a*10+x<18446744073709551616->Lib.parseUint10 a (UInt8.ofNat (48+x):: r)=Lib.parseUint10 (a*10+x) r:=λa x r hx ha=>by
   (have e:(UInt8.ofNat (48+x)).toNat=48+x:=by simp;omega);simp only[Lib.parseUint10,e];rw[Am (by omega),Ad (by omega),Ad (by omega)]
   congr 1;omega
  by_cases y:u<10
  ·rw[Lib.decDigits_one y,Lib.nDigits_small y]at *;simp only[Fc,Ej,Nat.pow_one];exact one d u r y (by simpa using hb)
  ·rw[Lib.nDigits_big y,IE]at *;have e:d*(10 ^ Lib.nDigits (u/10)*10)+u=(d*10 ^ Lib.nDigits (u/10)+u/10)*10+u % 10:=by
    rw[<-Nat.mul_assoc,IG];omega
   rw[e]at hb ⊢;have z:Lib.decDigits u=Lib.decDigits (u/10)++[UInt8.ofNat (48+u % 10)]:=by
    rw[Lib.decDigits,dif_neg y]
   rw[z,CQ,LA m (u/10) d _ (by omega) (by omega)];exact one _ _ r (by omega) hb
def Q5(c:Nat)(r:List UInt8):Lib.parseUint10 0 (List.replicate c 48++r)=Lib.parseUint10 0 r:=by
 induction c with
 | zero=>rfl
 | succ c ih=>simp only[Nr,Fc,Lib.parseUint10];exact ih
def M4(k:Nat):∀u,u<10 ^ k->1<=k->Lib.nDigits u<=k:=by
 induction k with
 | zero=>intro u _ h;omega
 | succ k ih=>
  intro u hu _;by_cases h:u<10
  ·rw[Lib.nDigits_small h];omega
  ·rw[Lib.nDigits_big h];rw[IE]at hu;cases k with
   | zero=>simp at hu;omega
   | succ k=>have:=ih (u/10) (by omega) (by omega);omega
def Jz{n:Int}(h:0<=n):Lib.itoa n=Lib.decDigits n.toNat:=by unfold Lib.itoa;rw[Ad (by omega)]
def Fo{n:Int}(d:0<=n)(h1:n<=4611686018427387904):By n:=by
 refine⟨d,by omega,?_⟩;rw[Jz d,TA];exact M4 19 _ (by omega) (by omega)
def P9(c:Nat):Lib.repeatL [48] c=List.replicate c 48:=by
 induction c with
 | zero=>rfl
 | succ c ih=>simp[Lib.repeatL,ih,List.replicate_succ]
def S1(u:Nat):∃b r,Lib.decDigits u=b::r/\48<=b.toNat/\b.toNat<=57:=by
 induction u using Nat.strongRecOn with
 | ind u ih=>
  by_cases h:u<10
  ·exact⟨_,_,Lib.decDigits_one h,by simp;omega,by simp;omega⟩
  ·obtain⟨b,r,y,d,z⟩:=ih (u/10) (by omega);refine⟨b,r++[UInt8.ofNat (48+u % 10)],?_,d,z⟩;rw[Lib.decDigits,dif_neg h,y];rfl
def SI{n:Int}(E:0<=n)(h1:n<=9223372036854775807)(c:Nat):Lib.atoiAll (Lib.repeatL [48] c++Lib.itoa n)=.ok n:=by
 rw[P9,Jz E];obtain⟨b,r,h,hb1,hb2⟩:=S1 n.toNat;have d:Lib.parseMag (List.replicate c 48++Lib.decDigits n.toNat)=.ok n.toNat:=by
  unfold Lib.parseMag;rw[Ad (by rw[h];simp),Q5];have:=LA (n.toNat+1) n.toNat 0 [] (by omega) (by omega);rw[EI]at this;rw[this];simp[Lib.parseUint10]
 have H:∃b r,List.replicate c 48++Lib.decDigits n.toNat=b::r/\b.toNat≠43/\b.toNat≠45:=by
  cases c with
  | zero=>exact⟨b,r,by simpa using h,by omega,by omega⟩
  | succ c=>exact⟨48,List.replicate c 48++Lib.decDigits n.toNat,by simp[List.replicate_succ],by decide,by decide⟩
 obtain⟨b2,r2,e,y,z⟩:=H;rw[e]at d ⊢;rw[Lib.atoiAll_plain _ _ y z,d];unfold Lib.signless;dsimp only
 rw[Ad (by omega)]
 congr 1
 omega
def MA(a b:List UInt8):Lib.hasPrefix (a++b) a=true:=by
 unfold Lib.hasPrefix;simp
def Oe(lt:List UInt8)(n:Int):Lib.trimPrefix (D0 lt n) lt=Lib.repeatL [48] (19-(Lib.itoa n).length)++Lib.itoa n:=by
 unfold Lib.trimPrefix D0;rw[CQ,Am (MA _ _),NF]
def Dp(lt nm:List UInt8):Option Int:=match Lib.atoiAll (Lib.trimPrefix nm lt) with
 | .ok v=>if 0<v/\v<=4611686018427387904/\D0 lt v=nm then some v else none
 | _=>none
def I4(lt:List UInt8){n:Int}(h:0<n)(d:n<=4611686018427387904):Dp lt (D0 lt n)=some n:=by
 unfold Dp;rw[Oe,SI (by omega) (by omega)];dsimp only
 rw[Am ⟨h,d,rfl⟩]
def Ai(n:Int):List UInt8:=B9 1 n
def AJ(n:Int):List UInt8:=B9 2 n
def AF:List UInt8:=[105]
def Cu:List UInt8:=[100]
def isNum(n:Int):Bool:=decide (1<=n/\n<=4611686018427387904)
def GB(nm:List UInt8):Int×Int:=if nm=Cu then (4,0) else (0,0)
def Fp(nm:List UInt8):Int×Int:=if nm=AF then (3,0) else GB nm
def FG(nm:List UInt8):Int×Int:=match Dp [115] nm with
 | some v=>(2,v)
 | none=>Fp nm
def Bg(nm:List UInt8):Int×Int:=match Dp [108] nm with
 | some v=>(1,v)
 | none=>FG nm
def E2(nm:List UInt8)(k:Nat):Int×Int:=if k=1 then Bg nm else if k=2 then FG nm else if k=3 then Fp nm else if k=4 then GB nm else (0,0)
def Kr(s:List UInt8)(v:Int):Prop:=Lib.atoiAll s=.ok v\/(∀x,Lib.atoiAll s≠.ok x)/\isNum v=false/\(s=[]->v=0)
def MY:∀x,Lib.atoiAll []≠.ok x:=by
 intro x;have:Lib.atoiAll []=.syntax:=by decide +kernel
 rw[this];intro h;cases h
def KP(l:List UInt8):Lib.trimPrefix l l=[]:=by
 unfold Lib.trimPrefix;have:Lib.hasPrefix l l=true:=by simpa using MA l []
 rw[Am this];simp
def LV{lt nm:List UInt8}{v:Int}(h:Kr (Lib.trimPrefix nm lt) v):Dp lt nm=if isNum v=true/\D0 lt v=nm then some v else none:=by
 unfold Dp;rcases h with h|⟨h,y,-⟩
 ·rw[h];dsimp only
  by_cases d:0<v/\v<=4611686018427387904/\D0 lt v=nm
  ·rw[Am d,Am ⟨by unfold isNum;exact Cc ⟨by omega,d.2.1⟩,d.2.2⟩]
  ·rw[Ad d,Ad];rintro⟨z,y⟩;unfold isNum at z;have:=LF z;exact d ⟨by omega,this.2,y⟩
 ·rw[y,Ad (by simp)];cases hx:Lib.atoiAll (Lib.trimPrefix nm lt) with
  | ok x=>exact absurd hx (h x)
  | «syntax»=>rfl
  | range=>rfl
def M0(nm:List UInt8):E2 nm 1=Bg nm:=by simp[E2]
def LZ(nm:List UInt8):E2 nm 2=FG nm:=by simp[E2]
def LY(nm:List UInt8):E2 nm 3=Fp nm:=by simp[E2]
def LX(nm:List UInt8):E2 nm 4=GB nm:=by simp[E2]
def LW(nm:List UInt8):E2 nm 5=(0,0):=by simp[E2]
def Qo{nm:List UInt8}{k:Nat}{v:Int}(hk:1<=k/\k<=4)(h:Kr (Lib.trimPrefix nm (C6 k)) v):
 E2 nm k=if isNum v=decide ((k:Int)=1\/(k:Int)=2)/\B9 k v=nm then ((k:Int),v) else E2 nm (k+1):=by
 have I:k=1\/k=2\/k=3\/k=4:=by omega
 rcases I with rfl|rfl|rfl|rfl
 ·have e:B9 ((1:Nat):Int) v=D0 [108] v:=rfl;have y:decide (((1:Nat):Int)=1\/((1:Nat):Int)=2)=true:=by decide
  have:=LV h;rw[show C6 ((1:Nat):Int)=[108] from rfl]at this;rw[M0,LZ,e,y,Bg,this];by_cases d:isNum v=true/\D0 [108] v=nm
  ·rw[Am d,Am d];rfl
  ·rw[Ad d,Ad d]
 ·have e:B9 ((2:Nat):Int) v=D0 [115] v:=rfl;have y:decide (((2:Nat):Int)=1\/((2:Nat):Int)=2)=true:=by decide
  have:=LV h;rw[show C6 ((2:Nat):Int)=[115] from rfl]at this;rw[LZ,LY,e,y,FG,this];by_cases d:isNum v=true/\D0 [115] v=nm
  ·rw[Am d,Am d];rfl
  ·rw[Ad d,Ad d]
 ·have e:B9 ((3:Nat):Int) v=AF:=rfl;have y:decide (((3:Nat):Int)=1\/((3:Nat):Int)=2)=false:=by decide
  rw[LY,LX,e,y,Fp];by_cases d:nm=AF
  ·subst d;have z:isNum v=false/\v=0:=by
    rw[show C6 ((3:Nat):Int)=AF from rfl,KP]at h;rcases h with h|⟨_,H,E⟩
    ·exact absurd h (MY v)
    ·exact⟨H,E rfl⟩
   rw[Am rfl,Am ⟨z.1,rfl⟩,z.2];rfl
  ·rw[Ad d,Ad (λh=>d h.2.symm)]
 ·have e:B9 ((4:Nat):Int) v=Cu:=rfl;have y:decide (((4:Nat):Int)=1\/((4:Nat):Int)=2)=false:=by decide
  rw[LX,LW,e,y,GB];by_cases d:nm=Cu
  ·subst d;have z:isNum v=false/\v=0:=by
    rw[show C6 ((4:Nat):Int)=Cu from rfl,KP]at h;rcases h with h|⟨_,H,E⟩
    ·exact absurd h (MY v)
    ·exact⟨H,E rfl⟩
   rw[Am rfl,Am ⟨z.1,rfl⟩,z.2];rfl
  ·rw[Ad d,Ad (λh=>d h.2.symm)]
def Fg(w:World):Prop:=
 (∃d,w.cell? ⟨1,0,none⟩=some d/\(d=.nilIface\/∃y h,d=.iface y h))/\∃d,w.cell? ⟨2,0,none⟩=some d/\(d=.nilIface\/∃y h,d=.iface y h)
def Fg.ao{w w':World}(h:Fg w)(d:A2 A7 w w'):Fg w':=by
 obtain⟨⟨E,I,y⟩,J,H,z⟩:=h;exact⟨⟨E,d.af I,y⟩,J,d.af H,z⟩
def R7(s:List UInt8):isNum (Lib.atoiSat s)=false:=by
 unfold Lib.atoiSat;split<;>rfl
def SJ(w:World)(s:List UInt8)(hl:s.length<=281474976710656)(W:Fg w):
 Ac 131 #[.string ⟨s.toArray⟩] w λe w'=>∃v H,e=.returned (.tuple #[A0 v,H])/\Kr s v/\A2 A7 w w':=by
 obtain⟨⟨V,I,z⟩,J,E,U⟩:=W;have hs:(ByteArray.mk s.toArray).size=s.length:=by show s.toArray.size=_;simp
 have d:(ByteArray.mk s.toArray).data.toList=s:=by simp
 cases hr:Lib.atoiAll s with
 | ok v=>
  refine(Tryz.strconv_Atoi_ok ⟨s.toArray⟩ (by omega) v (by rw[d];exact hr) w).mono ?_;rintro e w'⟨rfl,L⟩;refine⟨v,_,rfl,.inl hr,?_⟩;rcases L with rfl|⟨t,rfl⟩
  ·exact A2.C _ _
  ·exact A2.bQ (Lib.bytesWorld_below _ _ _)
 | «syntax»=>
  refine(Tryz.strconv_Atoi_syntax ⟨s.toArray⟩ (by omega) (by rw[d];exact hr) V w I z).mono ?_;rintro e w'⟨N,rfl,-,-,y⟩;exact⟨0,_,rfl,.inr ⟨λx h=>(by rw[hr]at h;cases h),rfl,λ_=>rfl⟩,A2.bQ y⟩
 | range=>
  refine(Tryz.strconv_Atoi_range ⟨s.toArray⟩ (by omega) (by rw[d];exact hr) J w E U).mono ?_;rintro e w'⟨N,rfl,-,-,y⟩;have O:s≠[]:=by
   rintro rfl;(have:Lib.atoiAll []=.syntax:=by decide +kernel);rw[this]at hr;cases hr
  exact⟨Lib.atoiSat s,_,(by rw[d]),.inr ⟨λx h=>(by rw[hr]at h;cases h),R7 s,λh=>absurd h O⟩,A2.bQ y⟩
def Ml(w:World)(v:Int):Ac 128 #[A0 v] w (Ak (.bool (isNum v)) λw'=>w=w'):=by
 unfold isNum
 go_enter func128,ntmps128
 by_cases y:1<=v
 ·by_cases d:v<=4611686018427387904
  ·go_wp2;go_ret;exact⟨by simp[y,d],rfl⟩
  ·go_wp2;go_ret;exact⟨by simp[d],rfl⟩
 ·have e:decide (1<=v/\v<=4611686018427387904)=false:=Cj λh=>y h.1;rw[e];go_wp2;go_ret;exact⟨rfl,rfl⟩
section
variable {w:World} {B:Nat}
def LR(w:World)(nm:List UInt8)(hl:nm.length<=281474976710656)(he:Fg w)(hL:Lets B w):
 Ac 97 #[.string ⟨nm.toArray⟩] w (Ak (.tuple #[A0 (Bg nm).1,A0 (Bg nm).2]) λw'=>A2 A7 w w'):=by
 have aP:Hid (∀(wr:World) (k:Nat),Ac 132 #[.string ⟨nm.toArray⟩,.string ⟨(C6 k).toArray⟩] wr (Ak (.string ⟨(Lib.trimPrefix nm (C6 k)).toArray⟩) λw'=>w'=wr)):=λwr k=>by
  have:=Tryz.strings_TrimPrefix ⟨nm.toArray⟩ ⟨(C6 k).toArray⟩ wr;simpa using this
 have aS:Hid (∀wr:World,A2 A7 w wr->∀k:Nat,1<=k->k<=4->A5 wr 0 k (.string ⟨(C6 k).toArray⟩)):=λwr d k h1 h2=>((hL.ao d).2 wr (IT _ _)).1 k h1 h2
 have aR:Hid (∀wr:World,A2 A7 w wr->∀k:Nat,_):=λwr d k=>SJ wr (Lib.trimPrefix nm (C6 k)) (Az (Lib.trimPrefix_le _ _) hl) (he.ao d);have aQ:Hid (∀(wr:World) (k:Nat) (v:Int),A2 A7 w wr->1<=k->k<=4->isNum v=decide ((k:Int)=1\/(k:Int)=2)->Ac 134 #[A0 k,A0 v] wr λe aN=>e=.returned (.string ⟨(B9 k v).toArray⟩)/\A2 A7 wr aN):=λwr k v d h1 h2 V=>by
  by_cases hk:k=1\/k=2
  ·rw[Cc (by omega)]at V;unfold isNum at V;have hv:=LF V;have hn:=Fo (n:=v) (by omega) hv.2;exact I5 wr k ⟨h1,h2⟩ ⟨by omega,by omega⟩ hn.2.2 (hL.ao d)
  ·(have e:B9 k v=C6 k:=by unfold B9;rw[Ad (by omega)]);rw[e];refine(M1 wr k (by omega) (C6 k) v (((hL.ao d).2 wr (IT _ _)).1 k h1 h2)).mono ?_;rintro e w'⟨rfl,rfl⟩;exact⟨rfl,A2.C _ _⟩
 obtain⟨R,hR⟩:∃R,Bg nm=R:=⟨_,rfl⟩;have aL:Hid (E2 nm 1=R):=by rw[M0];exact hR
 rw[hR]
 go_enter func97,ntmps97
 go_wp2;go_loopw [4,5,6] (λiv _ _ wr=>∃k:Nat,1<=k/\k<=5/\iv=A0 k/\Hid (A2 A7 w wr)/\Hid (E2 nm k=R)) (λiv _ _ _=>5-(intOf iv).toNat)
 case atStart=>exact⟨1,by omega,by omega,rfl,A2.C _ _,aL.o⟩
 case round=>
  obtain⟨k,H,hk2,rfl,d,L⟩:=hrel;by_cases hk:k<5
  ·have ck:=aS.o wr d.o k H (by omega);have aG:=A1 (aP.o wr k);have aA:=A1 (aR.o wr d.o k);have hk0:=C3 k;(have hk5:(k:Int)<5:=by omega);obtain⟨tr,aD⟩:∃tr,Lib.trimPrefix nm (C6 k)=tr:=⟨_,rfl⟩;have aM:=A1 aD;rw[aD]at aG aA;go_wp2_with (first|(go_at_call 132;refine aG.m ?_;rintro e w1⟨rfl,rfl⟩)|(go_at_call 131;fail));refine aA.m ?_;rintro e w1⟨v,er,rfl,hv,aI⟩;have I:=Qo (k:=k) ⟨H,by omega⟩ (by rw[aM.o];exact hv);have y:Hid (A2 A7 w w1):=d.o.tr aI;have J:=A1 (aQ.o w1 k v y.o H (by omega));obtain⟨nb,aF⟩:∃nb,isNum v=nb:=⟨_,rfl⟩;obtain⟨W,aE⟩:∃W,decide ((k:Int)=1\/(k:Int)=2)=W:=⟨_,rfl⟩;rw[aF,aE]at I J;(have aO:Hid (∀wr,Ac 128 #[A0 v] wr (Ak (.bool nb) λw'=>wr=w')):=λwr=>by rw[<-aF];exact Ml wr v);(have aH:Hid (∀wr,Ac 133 #[A0 k] wr (Ak (.bool W) λw'=>wr=w')):=λwr=>by rw[<-aE];exact JA wr k);generalize hn2:B9 k v=n2 at I J;have E:=A1 I;(have z:Hid (¬(nb=W/\n2=nm)->E2 nm (k+1)=R):=λh=>by have:=E.o;rw[Ad h]at this;rw[<-this];exact L.o);(have aJ:Hid (nb=W/\n2=nm->R=((k:Int),v)):=λh=>by have:=E.o;rw[Am h]at this;rw[<-L.o];exact this);by_cases hb:nb=W
   ·subst hb;have aK:(nb==nb)=true:=MX nb;have aB:=A1 (J.o rfl);by_cases V:n2=nm
    ·subst V;have Y:=aJ.o ⟨rfl,rfl⟩;subst Y;have hb:=MX n2;go_wp2_with (first|(go_at_call 128;refine(aO.o _).mono ?_;rintro e Z⟨rfl,rfl⟩)|(go_at_call 133;refine(aH.o _).mono ?_;rintro e Z⟨rfl,rfl⟩)|(go_at_call 134;refine aB.m ?_;rintro e Z⟨rfl,U⟩;have O:=A1 U));go_ret2;exact⟨rfl,y.o.tr O.o⟩
    ·have hb:(n2==nm)=false:=GO.2 V;have hN:=A1 (z.o λh=>V h.2);go_wp2_with (first|(go_at_call 128;refine(aO.o _).mono ?_;rintro e Z⟨rfl,rfl⟩)|(go_at_call 133;refine(aH.o _).mono ?_;rintro e Z⟨rfl,rfl⟩)|(go_at_call 134;refine aB.m ?_;rintro e Z⟨rfl,U⟩;have O:=A1 U));go_roundw
     case rel=>exact⟨k+1,by omega,by omega,by go_num,y.o.tr O.o,hN.o⟩
     case measure=>simp[intOf];omega
   ·have hN:=A1 (z.o λh=>hb h.1);have aK:(nb==W)=false:=GO.2 hb;go_wp2_with (first|(go_at_call 128;refine(aO.o _).mono ?_;rintro e Z⟨rfl,rfl⟩)|(go_at_call 133;refine(aH.o _).mono ?_;rintro e Z⟨rfl,rfl⟩));go_roundw
    case rel=>exact⟨k+1,by omega,by omega,by go_num,y.o,hN.o⟩
    case measure=>simp[intOf];omega
  ·(obtain rfl:k=5:=by omega);(have Y:R=(0,0):=by rw[<-L.o,LW]);subst Y;go_wp2;go_ret2;exact⟨rfl,d.o⟩
end
end
section
open Go.RowKit
def Ba(s:Nat)(l:Bs):Bs:=l++Bm (Ay s l)
def PD.aa(P:PD)(nm:ByteArray)(s:Nat)(l:Bs):Bool×Int×PD:=
 (FN P.D P.F nm (Ba s l),(P.aw nm (Ba s l)).1,(P.aw nm (Ba s l)).2)
def PD.aI(P:PD)(nm:Bs)(s:Nat)(l:Bs):Int×PD:=
 if (P.al (Aa nm)).1≠0 then P.al (Aa nm) else
 if ((P.al (Aa nm)).2.aa (Aa nm) s l).2.1≠0 then ((P.al (Aa nm)).2.aa (Aa nm) s l).2 else
 ((P.al (Aa nm)).2.aa (Aa nm) s l).2.2.az (Aa nm)
def PD.DA(P:PD)(nm:Bs):Bs×Int:=D6 P.D P.F (Aa nm)
def Fj(s:Nat)(t:Bs):Option Bs:=
 if t.length<4 then none else if Bm (Ay s (t.take (t.length-4)))=t.drop (t.length-4) then some (t.take (t.length-4)) else none
def PD.aO(P:PD)(nm:Bs):Bs×Int:=
 if (P.DA nm).2≠0 then ([],(P.DA nm).2) else match Fj (AB nm) (P.DA nm).1 with
 | some d=>(d,0)
 | none=>([],7)
def EO:Nat->Bs->List Int
 | 0,_=>[]
 | k+1,l=>if l.length<8 then [] else B1 l::EO k (l.drop 8)
def Dw(l:Bs):List Int:=EO l.length l
def BQ{α:Type}(cmp:α->α->Int):List α->Bool
 | []=>true
 | [_]=>true
 | x::y::r=>decide (cmp x y<0)&&BQ cmp (y::r)
def Bo(x y:Int):Int:=if x<y then -1 else if y<x then 1 else 0
structure Ix where
 BR:Int
 A6:List Int
def indexOf(d:Bs×Int):Option Ix:=
 if d.2=8 then some ⟨1,[]⟩ else
 if d.2≠0\/Dw d.1=[]\/d.1.length≠(Dw d.1).length*8 then none else
 if (Dw d.1).all isNum=false then none else
 if BQ Bo (Dw d.1).tail then some ⟨(Dw d.1).headD 0,(Dw d.1).tail⟩ else none
def PD.aT(P:PD):Option Ix:=indexOf (P.aO AF)
def Db(d:Int)(A6:List Int):Bs:=AG d++A6.flatMap AG
def PD.ag(P:PD)(d:Int)(A6:List Int):Int×PD:=
 if (P.aI Cu (AB AF) (Db d A6)).1≠0 then P.aI Cu (AB AF) (Db d A6) else
 (P.aI Cu (AB AF) (Db d A6)).2.aV (Aa Cu) (Aa AF)
def BX(l:List Pu):Bs:=l.flatMap λp=>AW p.1 p.2.1 p.2.2
def PD.aK(P:PD)(n:Int)(l:List Pu):Int×PD:=P.aI (AJ n) (AB (AJ n)) (BX l)
def BI(p q:Pu):Int:=if Bo p.1 q.1≠0 then Bo p.1 q.1 else Bo p.2.1 q.2.1
def HR(l:Bs):Pu:=(((l.headD 0).toNat:Int),B1 (l.drop 1),B1 (l.drop 9))
def Dj:Nat->Bs->Option (List Pu×Bs)
 | 0,l=>some ([],l)
 | k+1,l=>if l.length<17 then some ([],l) else
  if (l.headD 0).toNat<8 then (Dj k (l.drop 17)).map λr=>(HR l::r.1,r.2) else none
def FZ(d:Bs×Int):Option (List Pu):=
 if d.2≠0 then none else match Dj d.1.length d.1 with
 | none=>none
 | some (l,r)=>if r=[]/\BQ BI l=true then some l else none
def PD.CY(P:PD)(n:Int):Option (List Pu):=FZ (P.aO (AJ n))
def PD.A6(P:PD):List Int->Option (List (Int×List Pu))
 | []=>some []
 | n::r=>match P.CY n with
  | none=>none
  | some l=>(P.A6 r).map λx=>(n,l):: x
structure Jn where
 Ah:List Int
 A9:Int
 Ag:Int
 AA:Option (Int×Nat)
def PD.aR(P:PD)(n:Int)(ahead:Int):List Pu×Int:=Fk P.D P.F (Ai n) ahead
def PD.bd(P:PD):List Int->List Pu->List Pu×Int
 | [],acc=>(acc,0)
 | n::r,acc=>if (P.aR n acc.length).2≠0 then ([],(P.aR n acc.length).2) else P.bd r (acc++(P.aR n acc.length).1)
def PD.Ag(P:PD)(d:List Int):List Pu×Int:=P.bd d []
def PD.ad(P:PD):List Bs:=(dList P.D.A3).map λb=>b.data.toList
def Bn(d:Int)(l:List Bs):List Int:=l.filterMap λnm=>if (Bg nm).1=1/\d<=(Bg nm).2 then some (Bg nm).2 else none
def PD.bC(P:PD)(d:Int):Jn:=⟨Bn d P.ad,(Bn d P.ad).getLastD (d-1),(P.Ag (Bn d P.ad)).1.length,none⟩
def Jn.av(J:Jn)(P:PD):Int×Jn×PD:=
 if (P.al (Aa (Ai (J.A9+1)))).1≠0 then ((P.al (Aa (Ai (J.A9+1)))).1,J,(P.al (Aa (Ai (J.A9+1)))).2) else
 let a:=(P.al (Aa (Ai (J.A9+1)))).2.aa (Aa (Ai (J.A9+1))) (AB (Ai (J.A9+1))) (AG J.Ag)
 if a.2.1≠0 then (a.2.1,J,a.2.2) else
 (0,⟨J.Ah++[J.A9+1],J.A9+1,J.Ag,some (J.A9+1,Ay (AB (Ai (J.A9+1))) (AG J.Ag))⟩,a.2.2)
def Jn.aH(J:Jn)(P:PD)(p:Pu):Bool×Int×Jn×PD:=match J.AA with
 | none=>(false,0,J,P)
 | some (n,s)=>
  let a:=P.aa (Aa (Ai n)) s (AW p.1 p.2.1 p.2.2)
  (a.1,a.2.1,{J with AA:=some (n,Ay s (AW p.1 p.2.1 p.2.2))},a.2.2)
def Jn.aa(J:Jn)(P:PD)(p:Pu):Bool×Int×Jn×PD:=
 if J.AA=none then
  (if (J.av P).1≠0 then (false,(J.av P).1,(J.av P).2.1,(J.av P).2.2) else (J.av P).2.1.aH (J.av P).2.2 p)
 else J.aH P p
structure Ar where
 ix:Ix
 j:Jn
 A9:Int
 AS:List Bs
def Ar.ad(A:Ar):List Bs:=AF::A.j.Ah.map Ai++A.ix.A6.map AJ
def Ar.aQ(A:Ar)(P:PD):List Bs:=P.ad.filter λnm=>decide (nm∈A.ad)
def Ar.aY(A:Ar)(P:PD):List Bs:=P.ad.filter λnm=>!decide (nm∈A.ad)
def PD.aJ:List Bs->PD->Int×PD
 | [],P=>(0,P)
 | nm::r,P=>if (P.az (Aa nm)).1≠0 then P.az (Aa nm) else PD.aJ r (P.az (Aa nm)).2
def PD.aS:List Bs->PD->Int×PD
 | [],P=>(0,P)
 | nm::r,P=>if (P.aL (Aa nm)).1≠0 then P.aL (Aa nm) else PD.aS r (P.aL (Aa nm)).2
def Ar.ah(A:Ar)(P:PD):Int×Ar×PD:=
 if (P.aJ A.AS).1≠0 then ((P.aJ A.AS).1,A,(P.aJ A.AS).2) else (0,{A with AS:=[]},(P.aJ A.AS).2)
def Ar.ax(A:Ar)(P:PD):Int×PD:=P.aS (A.aY P)
def Ar.aa(A:Ar)(P:PD)(p:Pu):Bool×Int×Ar×PD:=
 if (A.ah P).1≠0 then (false,(A.ah P).1,(A.ah P).2.1,(A.ah P).2.2) else
 let r:=(A.ah P).2.1.j.aa (A.ah P).2.2 p
 (r.1,r.2.1,{ (A.ah P).2.1 with j:=r.2.2.1},r.2.2.2)
def PD.aj:List (List Pu)->Int->List Int->PD->Int×Int×List Int×PD
 | [],last,kept,P=>(0,last,kept,P)
 | l::r,last,kept,P=>if (P.aK (last+1) l).1≠0 then ((P.aK (last+1) l).1,last+1,kept,(P.aK (last+1) l).2) else
  PD.aj r (last+1) (kept++[last+1]) (P.aK (last+1) l).2
def Ar.ag(A:Ar)(P:PD)(A6:List Int):Int×Ar×PD:=
 if A.ix.BR=A.j.A9+1/\A.ix.A6=A6 then (0,A,P) else
 if (P.ag (A.j.A9+1) A6).1≠0 then ((P.ag (A.j.A9+1) A6).1,A,(P.ag (A.j.A9+1) A6).2) else
 (0,{A with ix:=⟨A.j.A9+1,A6⟩,j:=⟨[],A.j.A9,0,none⟩},(P.ag (A.j.A9+1) A6).2)
def Ar.ba(A:Ar)(P:PD):Int×Ar×PD:=
 if (A.ax P).1≠0 then ((A.ax P).1,A,(A.ax P).2) else ((A.ax P).2.aM.1,A,(A.ax P).2.aM.2)
def Ar.ay(A:Ar)(P:PD)(kept:List Int)(fresh:List (List Pu)):Int×Ar×PD:=
 let a:=A.ah P
 if a.1≠0 then a else
 let b:=a.2.1.ax a.2.2
 if b.1≠0 then (b.1,a.2.1,b.2) else
 let c:=PD.aj fresh a.2.1.A9 kept b.2
 if c.1≠0 then (c.1,{a.2.1 with A9:=c.2.1},c.2.2.2) else
 let d:=({a.2.1 with A9:=c.2.1}:Ar).ag c.2.2.2 c.2.2.1
 if d.1≠0 then d else d.2.1.ba d.2.2
def AY(t len:Int):Int:=t/len
def AV(len:Int)(p q:Pu):Bool:=
 decide (AY p.2.1 len<AY q.2.1 len\/AY p.2.1 len=AY q.2.1 len/\(p.1<q.1\/p.1=q.1/\p.2.1<q.2.1))
def Dx{α:Type}(lt:α->α->Bool)(x:α):List α->List α
 | []=>[x]
 | y::r=>if lt x y then x::y::r else y::Dx lt x r
def D5{α:Type}(lt:α->α->Bool)(l:List α):List α:=l.foldl (λs x=>Dx lt x s) []
def Di(len:Int)(y:List (List Pu))(d:Bool)(h p:Pu):List (List Pu):=
 let ws1:=if d\/AY p.2.1 len≠AY h.2.1 len then y++[[]] else y
 let last:=ws1.getLastD []
 if last≠[]/\BI p (last.getLastD (0,0,0))=0 then ws1.dropLast++[last.dropLast++[p]] else ws1.dropLast++[last++[p]]
def CX(len:Int):List Pu->Bool->Pu->List (List Pu)->List (List Pu)
 | [],_,_,ws=>ws
 | p::r,first,prev,ws=>CX len r false p (Di len ws first prev p)
def BB(len:Int)(l:List Pu):List (List Pu):=CX len (D5 (AV len) l) true (0,0,0) []
def Ar.CB(A:Ar)(P:PD)(Ax:Int):Int×Ar×PD:=
 if (P.Ag A.j.Ah).2≠0 then ((P.Ag A.j.Ah).2,A,P) else A.ay P A.ix.A6 (BB Ax (P.Ag A.j.Ah).1)
def Bi(A6:List (Int×List Pu))(oldest:Int):List (List Pu)->List Int×List (List Pu)
 | []=>([],[])
 | l::r=>if l.any (λp=>decide (oldest<=p.2.1))=false then Bi A6 oldest r else
  match A6.find? λs=>decide (s.2=l) with
  | none=>((Bi A6 oldest r).1,l::(Bi A6 oldest r).2)
  | some s=>(s.1::(Bi A6 oldest r).1,(Bi A6 oldest r).2)
def Ar.BO(A:Ar)(P:PD)(Ax oldest:Int):Int×Ar×PD:=match P.A6 A.ix.A6 with
 | none=>(7,A,P)
 | some A6=>if (P.Ag A.j.Ah).2≠0 then ((P.Ag A.j.Ah).2,A,P) else
  let k:=Bi A6 oldest (BB Ax (A6.flatMap (·.2)++(P.Ag A.j.Ah).1))
  A.ay P (k.1.mergeSort λx y=>decide (x<=y)) k.2
def Ar.aP(P:PD):Except Int (Ar×List Pu):=match P.aT with
 | none=>.error 7
 | some ix=>if P.ad.any (λnm=>decide ((Bg nm).1=0)) then .error 7 else
  match P.A6 ix.A6 with
  | none=>.error 7
  | some A6=>if (P.Ag (Bn ix.BR P.ad)).2≠0 then .error (P.Ag (Bn ix.BR P.ad)).2 else
   let A:Ar:=⟨ix,P.bC ix.BR,(P.ad.filterMap λnm=>if (Bg nm).1=2 then some (Bg nm).2 else none).getLastD 0,[]⟩
   .ok ({A with AS:=A.aQ P},A6.flatMap (·.2)++(P.Ag (Bn ix.BR P.ad)).1)
def Al(w:World)(Ft:Nat->Prop)(w':World)(R:World->(Nat->Prop)->Prop):Prop:=
 A2 Ft w w'/\∃d,R w' d/\(∀k,d k->k<w'.heap.size)/\∀k,d k->Ft k\/w.heap.size<=k
def Al.As{w E V:World}{Ft:Nat->Prop}{R U:World->(Nat->Prop)->Prop}(h:Al w Ft E R)(Y:∀d,R E d->(∀k,d k->k<E.heap.size)->(∀k,d k->Ft k\/w.heap.size<=k)->Al E d V U):Al w Ft V U:=by
 obtain⟨W,d,hr,y,O⟩:=h;obtain⟨J,I,H,z,L⟩:=Y d hr y O;refine⟨W.As J λx hx y=>(O x hx).resolve_right (by omega),I,H,z,λk Z=>?_⟩;rcases L k Z with h|h
 ·exact O k h
 ·exact .inr (Az W.Af h)
def Al.aN{w y w':World}{Ft:Nat->Prop}{R:World->(Nat->Prop)->Prop}(h:Al y Ft w' R)(z:A2 A7 w y):Al w Ft w' R:=by
 obtain⟨J,d,H,L,I⟩:=h;exact⟨(z.U λ_ _ h=>h.elim).tr J,d,H,L,λk E=>(I k E).imp id λh=>Az z.Af h⟩
def Al.dG{w w':World}{Ft:Nat->Prop}{R y:World->(Nat->Prop)->Prop}(h:Al w Ft w' R)(J:∀d,(∀k,d k->k<w'.heap.size)->R w' d->y w' d):Al w Ft w' y:=by
 obtain⟨I,d,E,z,H⟩:=h;exact⟨I,d,J d z E,z,H⟩
def Al.bV{w w':World}{Ft d:Nat->Prop}{R:World->(Nat->Prop)->Prop}(h:Al w Ft w' R)(z:∀k,Ft k->d k):Al w d w' R:=by
 obtain⟨J,y,H,L,I⟩:=h;exact⟨J.U λx _ O=>z x O,y,H,L,λk E=>(I k E).imp (z k) id⟩
def B4(w:World)(b:Nat)(P:PD)(Ft:Nat->Prop):Prop:=AP w b P.D P.F Ft
def B4.aq{w w':World}{b:Nat}{P:PD}{Ft:Nat->Prop}(h:B4 w b P Ft)(d:EC Ft w w'):B4 w' b P Ft:=AP.aq h d
def Cq(w:World)(size:Nat)(v:Value)(n:Nat)(xs:List Value):Prop:=
 xs.length=n*size/\∃a cap,v=.slice a n cap/\n<=cap/\cap<=maxLen/\(∀g,v.ownBlock=some g->g<w.heap.size)/\
  ∀j u,xs[j]?=some u->∃g o,a=some ⟨g,o,none⟩/\w.cell? ⟨g,o+j,none⟩=some u
def Cq.aq{w w':World}{size n:Nat}{v:Value}{xs:List Value}(h:Cq w size v n xs)(y:∀g,v.ownBlock=some g->w'.heap[g]?=w.heap[g]?):Cq w' size v n xs:=by
 obtain⟨I,a,cap,rfl,E,O,H,J⟩:=h;refine⟨I,a,cap,rfl,E,O,λg d=>?_,λj u U=>?_⟩
 ·have:=y g d;have L:=H g d;rcases Eg g w'.heap.size with h|h
  ·exact h
  ·rw[IU h]at this;rw[TF L]at this;cases this
 ·obtain⟨g,o,rfl,z⟩:=J j u U;refine⟨g,o,rfl,?_⟩;have:=y g rfl;unfold World.cell? at z ⊢;rw[this];exact z
def Cq.Aj{S:Nat->Prop}{w w':World}{size n:Nat}{v:Value}{xs:List Value}(h:Cq w size v n xs)(E:A2 S w w')(z:∀g,v.ownBlock=some g->¬S g):Cq w' size v n xs:=by
 refine h.aq λg d=>E.Ao g ?_ (z g d);obtain⟨_,a,cap,rfl,_,_,y,_⟩:=h;exact y g d
def Cq.lt{w:World}{size n:Nat}{v:Value}{xs:List Value}(h:Cq w size v n xs){g:Nat}(y:v.ownBlock=some g):g<w.heap.size:=by
 obtain⟨_,a,cap,rfl,_,_,d,_⟩:=h;exact d g y
def Cq.b0{w:World}{d e size n:Nat}{v:Value}{xs:List Value}(h:w.ownsRow d e size v n xs):Cq w size v n xs:=by
 obtain⟨a,cap,rfl,L,E,h3,J,O⟩:=AR h;refine⟨h.1,a,cap,rfl,L,E,λg I=>Av h I,λj u y=>?_⟩;cases ha:a with
 | none=>
  subst ha;have H:=(J rfl).1;have z:=h.1;rw[H]at z;have:xs=[]:=by simpa using z
  rw[this]at y;simp at y
 | some x=>
  subst ha;obtain⟨g,rfl⟩:=O x rfl;exact⟨g,0,rfl,by simpa using Be h rfl y⟩
def Cq.BU{w:World}{size n:Nat}{v:Value}{xs:List Value}(h:Cq w size v n xs):∃a cap,v=.slice a n cap/\n<=cap/\cap<=maxLen:=by
 obtain⟨_,a,cap,y,d,z,_⟩:=h;exact⟨a,cap,y,d,z⟩
def Cq.bx{w:World}{size:Nat}:Cq w size (.slice none 0 0) 0 []:=
 ⟨by simp,none,0,rfl,Aw _,by decide,λg h=>by simp[Value.ownBlock]at h,λj u d=>by simp at d⟩
def CI(l:List Int):List Value:=l.map λn=>A0 n
def Mp(l:List Int):(CI l).length=l.length:=by simp[CI]
def Hi(a b:List Int):CI (a++b)=CI a++CI b:=by simp[CI]
def JB(l:List Int)(k:Nat)(h:k<l.length):(CI l)[k]?=some (A0 (l[k]'h)):=by simp[CI,h]
def GH(l:List Int):∀u∈CI l,u.oneCell'=true:=by
 intro u hu;simp[CI]at hu;obtain⟨x,_,rfl⟩:=hu;rfl
def C4(w:World)(v:Value)(l:List Int):Prop:=Cq w 1 v l.length (CI l)
def Cs(w:World)(v:Value)(l:List Int):Prop:=w.ownsRow 0 3 1 v l.length (CI l)
def Cs.rd{w:World}{v:Value}{l:List Int}(h:Cs w v l):C4 w v l:=Cq.b0 h
def Cd(l:List Bs):List Value:=l.map λx=>.string ⟨x.toArray⟩
def Iv(a b:List Bs):Cd (a++b)=Cd a++Cd b:=by simp[Cd]
def SA(l:List Bs)(k:Nat)(h:k<l.length):(Cd l)[k]?=some (.string ⟨(l[k]'h).toArray⟩):=by simp[Cd,h]
def Iu(l:List Bs):∀u∈Cd l,u.oneCell'=true:=by
 intro u hu;simp[Cd]at hu;obtain⟨x,_,rfl⟩:=hu;rfl
def Oz(l:List ByteArray):DY l=Cd (l.map λb=>b.data.toList):=by simp[DY,Cd]
def Es(w:World)(v:Value)(l:List Bs):Prop:=Cq w 1 v l.length (Cd l)
def Cl(w:World)(v:Value)(l:List Bs):Prop:=w.ownsRow 0 9 1 v l.length (Cd l)
def Cl.rd{w:World}{v:Value}{l:List Bs}(h:Cl w v l):Es w v l:=Cq.b0 h
def F8(w:World)(v:Value)(l:List Pu):Prop:=Cq w 3 v l.length (Bv l)
def AO.rd{w:World}{v:Value}{l:List Pu}(h:AO w v l):F8 w v l:=Cq.b0 h
def C4.at{w:World}{a:Option Addr}{n cap:Nat}{l:List Int}(h:C4 w (.slice a n cap) l)(k:Nat)(d:k<l.length):∃g o,a=some (A8 g o)/\A5 w g (o+k) (A0 (l[k]'d)):=by
 obtain⟨_,a',cap',e,_,_,_,y⟩:=h;cases e;exact y k _ (JB l k d)
def F8.at{w:World}{a:Option Addr}{n cap:Nat}{l:List Pu}(h:F8 w (.slice a n cap) l)(k:Nat)(d:k<l.length):∃g o,a=some (A8 g o)/\g<w.heap.size/\A5 w g (o+k*3) (A0 (l[k]'d).1)/\A5 w g (o+k*3+1) (A0 (l[k]'d).2.1)/\A5 w g (o+k*3+2) (A0 (l[k]'d).2.2):=by
 obtain⟨_,a',cap',e,_,_,z,y⟩:=h;cases e;obtain⟨E,L,H⟩:=Fl l k d;obtain⟨g,o,rfl,c1⟩:=y _ _ E;obtain⟨I,J,e,c2⟩:=y _ _ L;cases e;obtain⟨I,J,e,c3⟩:=y _ _ H;cases e;exact⟨g,o,rfl,z g rfl,c1,c2,c3⟩
def Es.at{w:World}{a:Option Addr}{n cap:Nat}{l:List Bs}(h:Es w (.slice a n cap) l)(k:Nat)(d:k<l.length):∃g o,a=some (A8 g o)/\A5 w g (o+k) (.string ⟨(l[k]'d).toArray⟩):=by
 obtain⟨_,a',cap',e,_,_,_,y⟩:=h;cases e;exact y k _ (SA l k d)
structure BL (a c m:Nat):Prop where
 a:a<=1073741824
 c:c<=1000000000000
 m:m<=4294967296
def Fit.cH{P:PD}{a c m:Nat}(h:Fit P a c m)(d:BL a c m):AT P.F P.D.A3<=4611686018427387904:=
 Az h.cT (Az (IF d.a d.m) (by decide))
def GM{P:PD}{a c m:Nat}(h:Fit P a c m)(nm:ByteArray):(BV P.D P.F nm).1<=m:=by
 unfold BV;cases hx:lookup P.D.A3 nm with
 | none=>simp
 | some f=>have:=h.BF f (Ea hx);simp;omega
section
variable {w:World} {b fb:Nat} {P:PD} {Ft:Nat->Prop} {T:TypeId} {name:ByteArray} {s a c m:Nat}
def S7(E:AK w fb T (A4 b) name s)(h:B4 w b P Ft)(z:Fit P a c m)(y:BL a c m):
 Ac 240 #[A4 fb] w (Ak (A0 (P.al name).1) λw'=>Al w Ft w' (λw' d=>B4 w' b (P.al name).2 d)):=
 ML E h P.D.Bq P.D.b8 (by have:=z.A3;have:=z.Aj;have:=y.a;have:=y.c;omega)
def On(y:AK w fb T (A4 b) name s)(h:B4 w b P Ft):
 Ac 164 #[A4 fb] w (Ak (A0 (P.az name).1) λw'=>Al w Ft w' (λw' d=>B4 w' b (P.az name).2 d)):=Oj y h
def Gl(w:World)(Ft:Nat->Prop)(fb:Nat)(w':World)(b:Nat)(P:PD):Prop:=GZ w Ft fb w' b P.D P.F
def T4(y:AK w fb T (A4 b) name s)(H:s<4294967296)(h:B4 w b P Ft)(z:∀k,Ft k->k<w.heap.size)(J:¬Ft fb)(l:Bs)(hll:l.length<=4294967296)(d:Fit P a c m)(E:BL a c m):
 Ac 237 #[A4 fb,.string ⟨l.toArray⟩] w (Ak (.tuple #[.bool (P.aa name s l).1,A0 (P.aa name s l).2.1]) λw'=>AK w' fb T (A4 b) name (Ay s l)/\Gl w Ft fb w' b (P.aa name s l).2.2):=by
 have hm:=E.m;have hp:(Ba s l).length=l.length+4:=by simp[Ba,EY]
 have I:=d.aw name (Ba s l);have hz:=GM I name;have hz2:=GM d name
 exact addF y H h z J l d.Bl (d.cH E) d.BY (λf y=>by have:=d.BF f (Ea y);omega) (by omega) ⟨by
  show (BV (P.aw name (Ba s l)).2.D (P.aw name (Ba s l)).2.F name).1<=_;omega,by omega⟩
def Kv(nm l:Bs)(hs:s<4294967296)(h:B4 w b P Ft)(O:∀k,Ft k->k<w.heap.size)(aO:l.length<=4294967296)(hF:Fit P a c m)(hl:BL (a+1) (c+1) m):
 Ac 196 #[.agg #[A4 b,.string ⟨nm.toArray⟩,.int .u32 s],.string ⟨l.toArray⟩] w (Ak (A0 (P.aI nm s l).1) λw'=>Al w Ft w' (λw' V=>B4 w' b (P.aI nm s l).2 V)):=by
 have aH:BL a c m:=⟨by have:=hl.a;omega,by have:=hl.c;omega,hl.m⟩;have aD:AK (w.aC #[A4 b,.string (Aa nm),.int .u32 s] 160) w.heap.size 160 (A4 b) (Aa nm) s:=Bw w _;have k0:A2 A7 w (w.aC #[A4 b,.string (Aa nm),.int .u32 s] 160):=(A2.C _ w).ae _;have h0:B4 (w.aC #[A4 b,.string (Aa nm),.int .u32 s] 160) b P Ft:=AP.au h O k0;have aU:=A1 (S7 aD h0 hF aH);have AD:Hid (∀z,AK z w.heap.size 160 (A4 b) (Aa nm) s->∀d,B4 z b (P.al (Aa nm)).2 d->(∀k,d k->k<z.heap.size)->¬d w.heap.size->_):=λz q1 d Z q3 q4=>T4 q1 hs Z q3 q4 l aO (hF.al (Aa nm)) hl;have Y:Hid (∀z,AK z w.heap.size 160 (A4 b) (Aa nm) (Ay s l)->∀d,B4 z b ((P.al (Aa nm)).2.aa (Aa nm) s l).2.2 d->_):=λz q1 d Z=>On q1 Z;have aN:=A1 aD;have aX:=A1 k0;have aB:=A1 O
 have W:Hid (P.aI nm s l=if (P.al (Aa nm)).1≠0 then P.al (Aa nm) else
  if ((P.al (Aa nm)).2.aa (Aa nm) s l).2.1≠0 then ((P.al (Aa nm)).2.aa (Aa nm) s l).2 else
  ((P.al (Aa nm)).2.aa (Aa nm) s l).2.2.az (Aa nm)):=rfl
 generalize hR:P.aI nm s l=R at W ⊢;generalize hC:P.al (Aa nm)=C at W aU AD Y;generalize hD:C.2.aa (Aa nm) s l=D at W AD Y;generalize hE:D.2.2.az (Aa nm)=E at W Y
 go_enter func196,ntmps196
 go_wp2_with (fail);refine aU.m ?_;rintro e z⟨rfl,aF,d,Z,q3,q4⟩;have aE:=A1 (aN.o.Ap aF λh=>EE _ (aB.o _ h));have aR:Hid (A2 (λk=>Ft k) w z):=(aX.o.U λ_ _ h=>h.elim).tr aF;have aM:Hid (w.heap.size<z.heap.size):=aE.o.lt;have a2:=A1 Z;have aW:=A1 q3;have aG:Hid (∀k,d k->Ft k\/w.heap.size<k):=λk I=>(q4 k I).imp id λh=>by simp at h;omega
 have aV:Hid (¬d w.heap.size):=λI=>(aG.o _ I).elim (λh=>EE _ (aB.o _ h)) λh=>EE _ h
 have aA:=A1 (AD.o z aE.o d Z q3 aV.o);by_cases hc:C.1=0
 case neg=>
  have hR:R=C:=by rw[W.o,Am hc]
  have hb:(C.1 !=0)=true:=by simpa using hc
  go_wp2;go_ret;subst hR;exact⟨rfl,aR.o,d,a2.o,aW.o,λk I=>(aG.o k I).imp id FQ⟩
 case pos=>
 have hb:(C.1 !=0)=false:=by simpa using hc
 have aS:Hid (R=if D.2.1≠0 then D.2 else E):=by rw[W.o,Ad (by simpa using hc)];rfl
 have aP:∀H,(AK H w.heap.size 160 (A4 b) (Aa nm) (Ay s l)/\Gl z d w.heap.size H b D.2.2)->Hid (A2 (λk=>Ft k) w H/\∃y,B4 H b D.2.2 y/\(∀k,y k->k<H.heap.size)/\(∀k,y k->Ft k\/w.heap.size<k)/\Ac 164 #[A4 w.heap.size] H (Ak (A0 E.1) λw'=>Al H y w' (λw' V=>B4 w' b E.2 V))):=by
  rintro H⟨L,J,y,p2,p3,p4⟩;refine⟨aR.o.As J λx hx O=>hx.elim (λh=>(aG.o x h).resolve_right (by omega)) λh=>by omega,y,p2,p3,λk I=>(p4 k I).elim (λh=>aG.o k h) λh=>.inr (by have:=aM.o;omega),Y.o H L y p2⟩
 have U:=A1 aP;by_cases hd:D.2.1=0
 case neg=>
  have hR:R=D.2:=by rw[aS.o,Am hd]
  have aK:(D.2.1 !=0)=true:=by simpa using hd
  go_wp2_with (go_at_call 237;refine aA.m ?_;rintro e H⟨rfl,L,J⟩;have a0:=U.o H ⟨L,J⟩);go_ret;subst hR;obtain⟨k2,y,p2,p3,p5,-⟩:=a0.o;exact⟨rfl,k2,y,p2,p3,λk I=>(p5 k I).imp id FQ⟩
 case pos=>
 have aK:(D.2.1 !=0)=false:=by simpa using hd
 have hR:R=E:=by rw[aS.o,Ad (by simpa using hd)]
 subst hR;go_wp2_with (fail);refine aA.m ?_;rintro e H⟨rfl,L,J⟩;obtain⟨k2,y,p2,p3,p5,sy⟩:=(U.o H ⟨L,J⟩).o;have aQ:=A1 k2;have aT:=A1 p5;have Y:=A1 sy;go_wp2_with (go_at_call 164;refine Y.m ?_;rintro e w3⟨rfl,aL,aI,r2,r3,r4⟩;have aJ:=A1 aL;have aY:=A1 r2;have aZ:=A1 r3;have a1:=A1 r4);go_ret;exact⟨rfl,aQ.o.As aJ.o λx hx O=>(aT.o x hx).resolve_right (by omega),aI,aY.o,aZ.o,λk I=>(a1.o k I).elim (λh=>(aT.o k h).imp id FQ) λh=>.inr (by have:=aQ.o.Af;omega)⟩
end
def Ho{P:PD}{a c m:Nat}(h:Fit P a c m)(nm:Bs):(P.DA nm).1.length<=m:=by
 unfold PD.DA D6;cases hx:lookup P.D.A3 (Aa nm) with
 | none=>simp
 | some f=>exact h.BF f (Ea hx)
section
variable {w:World} {b:Nat} {P:PD} {Ft:Nat->Prop} {a c m:Nat}
def Lq(nm:Bs)(h:B4 w b P Ft)(E:∀k,Ft k->k<w.heap.size)(hF:Fit P a c m)(hl:BL a c m):
 Ac 126 #[.agg #[A4 b,.string ⟨nm.toArray⟩,.int .u32 (AB nm)]] w (Ak (.tuple #[.string ⟨(P.aO nm).1.toArray⟩,A0 (P.aO nm).2]) λw'=>A2 A7 w w'):=by
 have Z:=Ho hF nm;have hm:=hl.m;have W:=Gr nm;obtain⟨s,hs⟩:∃s,AB nm=s:=⟨_,rfl⟩
 have Y:Hid (P.aO nm=if (P.DA nm).2≠0 then ([],(P.DA nm).2) else match Fj s (P.DA nm).1 with
  | some d=>(d,0)
  | none=>([],7)):=by rw[<-hs];rfl
 generalize L:P.aO nm=R at Y ⊢;rw[hs]at W ⊢;have U:AK (w.aC #[A4 b,.string (Aa nm),.int .u32 s] 160) w.heap.size 160 (A4 b) (Aa nm) s:=Bw w _;have k0:A2 A7 w (w.aC #[A4 b,.string (Aa nm),.int .u32 s] 160):=(A2.C _ w).ae _;have aJ:=A1 (N1 U (AP.au h E k0));obtain⟨x,O⟩:∃x,P.DA nm=x:=⟨_,rfl⟩;have H:Hid (Ac 166 #[A4 w.heap.size] (w.aC #[A4 b,.string (Aa nm),.int .u32 s] 160) (Ak (.tuple #[.string ⟨x.1.toArray⟩,A0 x.2]) λw'=>A2 A7 (w.aC #[A4 b,.string (Aa nm),.int .u32 s] 160) w')):=by
  rw[<-O];exact aJ.o
 rw[O]at Y Z;obtain⟨t,ae⟩:=x;dsimp only at Y Z H;have aF:=A1 U;have aH:=A1 k0;have aD:=A1 W
 go_enter func126,ntmps126
 by_cases he:ae=0
 case neg=>
  have hb:(ae !=0)=true:=by simpa using he
  have L:R=([],ae):=by rw[Y.o,Am he]
  subst L;go_wp2_with (go_at_call 166;refine H.m ?_;rintro e y⟨rfl,z⟩;have aB:=A1 z);go_ret2;exact⟨rfl,aH.o.tr aB.o⟩
 case pos=>
 subst he
 have aA:Hid (R=match Fj s t with
  | some d=>(d,0)
  | none=>([],7)):=by rw[Y.o,Ad (by simp)];rfl
 have aK:Hid (∀y,AK y w.heap.size 160 (A4 b) (Aa nm) s->∃(d:Bs) (ok:Bool),R=(if ok then (d,0) else ([],7))/\Ac 167 #[A4 w.heap.size,.string ⟨t.toArray⟩] y (Ak (.tuple #[.string ⟨d.toArray⟩,.bool ok]) λw'=>A2 (One w.heap.size) y w')):=λy aG=>by
  by_cases h4:t.length<4
  ·refine⟨[],false,?_,?_⟩
   ·rw[aA.o];unfold Fj;rw[Am h4];rfl
   ·refine(Ob y w.heap.size t h4).mono ?_;rintro e w'⟨rfl,rfl⟩;exact⟨rfl,A2.C _ _⟩
  ·refine⟨t.take (t.length-4),decide (Bm (Ay s (t.take (t.length-4)))=t.drop (t.length-4)),?_,?_⟩
   ·rw[aA.o];unfold Fj;rw[Ad h4];by_cases hq:Bm (Ay s (t.take (t.length-4)))=t.drop (t.length-4)
    ·rw[Am hq,Cc hq];rfl
    ·rw[Ad hq,Cj hq];rfl
   ·have:=J0 y w.heap.size 160 (A4 b) (Aa nm) s (t.take (t.length-4)) (t.drop (t.length-4)) aG aD.o (by rw[CS];omega) (by rw[Dg];omega);rw[EG]at this;refine this.mono ?_;rintro e w'⟨h1,h2,h3⟩;exact⟨h1,h3⟩
 go_wp2_with (fail);refine H.m ?_;rintro e y⟨rfl,z⟩;obtain⟨d,ok,L,aE⟩:=aK.o y (aF.o.Ap z (λh=>h));have aI:Hid (A2 A7 w y):=aH.o.tr z;have V:=A1 aE;cases ok with
 | false=>
  simp only[Kq,BG]at L;subst L;go_wp2_with (go_at_call 167;refine V.m ?_;rintro e w2⟨rfl,I⟩;have J:=A1 I);go_ret2;exact⟨rfl,aI.o.As J.o λx O E=>by cases O;omega⟩
 | true=>
  simp only[BM]at L;subst L;go_wp2_with (go_at_call 167;refine V.m ?_;rintro e w2⟨rfl,I⟩;have J:=A1 I);go_ret2;exact⟨rfl,aI.o.As J.o λx O E=>by cases O;omega⟩
end
def Tryz.bS:(Tryz.prog.info? 3).map (λi=>(i.zero,i.size,i.bytes))=some (some (A0 0),1,8):=by kernel_rfl
def Ra{k:Nat}{l:Bs}(h:l.length<8):EO k l=[]:=by cases k<;>simp[EO,h]
def Rc(l:Bs): -9223372036854775808<=B1 l/\B1 l<=9223372036854775807:=by unfold B1 wrap64;omega
def R9(w:World)(E:Bs)(hl0:E.length<=4294967296):
 Calls Tryz.prog 127 #[.string ⟨E.toArray⟩] w λe w'=>∃v,e=.returned v/\Cs w' v (Dw E)/\(∀g,v.ownBlock=some g->w.heap.size<=g)/\A2 (λ_=>False) w w':=by
 obtain⟨R,hR⟩:∃R,Dw E=R:=⟨_,rfl⟩;have aQ:Hid (EO E.length E=R):=hR;rw[hR];obtain⟨V,hi,aB,aF,aG⟩:∃V,Tryz.prog.info? 3=some V/\V.zero=some (.int .i64 0)/\V.size=1/\V.bytes=8:=by
  have h:=Tryz.bS;cases hx:Tryz.prog.info? 3 with
  | none=>rw[hx]at h;cases h
  | some i=>rw[hx]at h;simp at h;exact⟨i,rfl,h.1,h.2.1,h.2.2⟩
 go_enter func127,ntmps127
 go_wp2;go_loopw [0,3] (λtv v wr=>∃(l:Bs) (k:Nat) (d:List Int),tv=.string ⟨l.toArray⟩/\d.length*8+l.length<=E.length/\Hid (Cs wr v d/\(∀g,v.ownBlock=some g->w.heap.size<=g)/\A2 (λ_=>False) w wr/\l.length<=k/\R=d++EO k l)) (λtv _ _=>match tv with | .string x=>x.size|_=>0)
 case atStart=>exact⟨E,E.length,[],rfl,by simp,BW _ _ _ _,λg H=>by simp[Value.ownBlock]at H,A2.C _ _,Aw _,by rw[aQ.o];rfl⟩
 case round=>
  obtain⟨l,k,d,rfl,W,hI⟩:=hrel;have z:(ByteArray.mk l.toArray).size=l.length:=by show l.toArray.size=_;simp
  by_cases h8:l.length<8
  case pos=>
   obtain⟨i1,i2,i3,-,i5⟩:=hI.o;rw[Ra h8,EI]at i5;subst i5;(have aA:¬(8<=(l.length:Int)):=by omega);have aL:=A1 i1;have aP:=A1 i2;have aM:=A1 i3;go_wp2;go_ret;exact⟨_,rfl,aL.o,aP.o,aM.o⟩
  case neg=>
   obtain⟨i1,i2,i3,i4,i5⟩:=hI.o;obtain⟨k,rfl⟩:∃k',k=k'+1:=⟨k-1,by omega⟩;have aE:Hid (R=(d++[B1 l])++EO k (l.drop 8)):=by
    unfold Hid;rw[i5];simp[EO,h8]
   have J:=A1 (Ic wr l (by omega));have hx:=Rc l;generalize hxe:B1 l=x at aE J hx;obtain⟨ap,cp,rfl,hcap1,O,-⟩:=AR i1;unfold maxLen at O;have e2:(ByteArray.mk l.toArray).extract 8 l.length=⟨(l.drop 8).toArray⟩:=by
    rw[extract_mk,EF (by rw[CS];omega)]
   have L:(l.drop 8).length=l.length-8:=CS;generalize hq:l.drop 8=q at e2 aE L;generalize htx:ByteArray.mk l.toArray=tx at e2 z J ⊢;generalize hll:l.length=ll at e2 z L W h8 i4;(have h8i:(8:Int)<=(ll:Int):=by omega);have aJ:=A1 i1;have aK:=A1 i2;have aI:=A1 i3;have aN:=A1 i4;have I:=A1 L;have Z:=A1 W
   go_wp2_with (first
    | (go_at_call 168;refine J.o.mono ?_;rintro e w4⟨rfl,rfl⟩)
    | (at_builtin
       have Y:Hid ((wr.alloc (.cells #[.int .i64 x] 3)).ownsRow 0 3 1 (.slice ap d.length cp) d.length (CI d)):=Aq aJ.o λg H=>DD _ _ _ (Av aJ.o H);have aD:=A1 (Src.aW (size:=1) (B:=wr.heap.size) underlying26 wr #[.int .i64 x] 3 (by simp) 1 1 rfl (GH [x]));refine C7 rfl (.tmp 9) (.tmp 12) 26 26 rfl 3 V _ 1 8 underlying26 hi aB aF aG rfl (by decide) (.slice ap d.length cp) d.length (CI d) (by rfl) Y.o _ 1 _ (by rfl) aD.o (by have:=Z.o;omega) ?_;intro a8 cap8 w8 U;have aO:=A1 U
       clear U))
   go_roundw
   case rel=>
    have U:=aO.o;have aH:=U.Aj (S:=λk=>(Value.slice ap d.length cp).ownBlock=some k) λ_ h=>h;have k9:A2 (λ_=>False) wr (wr.alloc (.cells #[.int .i64 x] 3)):=(A2.C _ wr).ae _;refine⟨q,k,d++[x],rfl,by have:=Z.o;have:=I.o;simp;omega,?_,?_,?_,by have:=aN.o;have:=I.o;omega,aE.o⟩
    ·(have e:(d++[x]).length=d.length+1:=by simp);unfold Cs;rw[Hi,e];exact U.AA
    ·intro g H;rcases U.BJ with h|h
     ·rw[h]at H;exact aK.o g H
     ·rw[h]at H;cases H;exact Az aI.o.Af k9.Af
    ·exact(aI.o.As k9 λ_ h _=>h).As aH λy hy aA=>by have:=aK.o y hy;omega
   case measure=>
    (have e:(ByteArray.mk q.toArray).size=q.length:=by show q.toArray.size=_;simp);have:=I.o;simp only[e,z];omega
def Tryz.dK:(Tryz.prog.info? 260).map (·.size)=some 2:=by kernel_rfl
def Tryz.eh:liesAt Tryz.prog Tryz.prog.depth 260 (2/Tryz.prog.cellsOf 260) 0 260 1=true:=by kernel_rfl
def Eu(B b:Nat)(l:List UInt8)(w:World):Prop:=Lib.IsBuilder 260 5 B b (Lib.byteCells l) w
def S8(B b:Nat)(bs:List Value)(w:World)(h:Lib.IsBuilder 260 5 B b bs w):
 Ac 238 #[A4 b] w (Ak (.tuple #[]) λw'=>(Lib.BuilderAt 260 5 B b (A4 b) bs w'/\Below B w w')):=by
 obtain⟨j,y,z⟩:=T8.1 Tryz.dK;rcases h with h|h
 ·have E:=h.cell0;have d:=h.shape;have hfz:=h.frozen0;have H:=A1 h
  go_enter func238,ntmps238
  go_wp2;rw[Lib.run_to_unsafe w (A8 b 0) underlying258 underlying217 y (by rw[z];decide) d (Nat.zero_lt_succ 1)];simp only[Result.andThen];rw[Nh];go_wp2;rw[P3 func262 (by kernel_rfl) (by kernel_rfl) (by kernel_rfl) (e:=Extern.AbiNoEscape.same) (by kernel_rfl)];rw[Lib.run_noEscape];simp only[Result.andThen];rw[Nh];go_wp2;rw[Lib.run_from_unsafe w (A8 b 0) underlying217 underlying258 y d Tryz.eh];simp only[Result.andThen];rw[Nh];go_wp2;go_end0;exact⟨rfl,H.o.used _,(IT B w).setCell (p:=(A8 b 0)) H.o.1 _⟩
 ·have E:=h.cell0;have H:=A1 h
  go_enter func238,ntmps238
  go_wp2;rw[Lib.run_neq_ptr_same w _ underlying258 y];go_wp2;go_end0;exact⟨rfl,H.o,IT B _⟩
def NT(B b:Nat)(bs:List Value)(s:ByteArray)(w:World)(h:Lib.IsBuilder 260 5 B b bs w)(hlen:bs.length+s.size<=140737488355328)(hBw:B<=w.heap.size):
 Ac 194 #[A4 b,.string s] w (Ak (.tuple #[A0 s.size,.nilIface]) λw'=>(Lib.BuilderAt 260 5 B b (A4 b) (bs++Lib.strCells s) w'/\Below B w w')):=by
 obtain⟨i0,hi,V,Y,Z⟩:=Dr Tryz.infoByte
 go_enter func194,ntmps194
 go_wp2_with (go_at_call 238;refine(S8 B b bs _ h).mono ?_);rintro e J⟨rfl,h1,I⟩;obtain⟨hB,v,z,H,U⟩:=h1;have c0:J.cell? (A8 b 0)=some (A4 b):=by rw[Km z];rfl
 have c1:J.cell? (A8 b 1)=some v:=by rw[Km z];rfl
 go_wp2_with (at_builtin;refine Lib.wpList_append_own_string _ rfl _ _ 127 9 rfl B 5 i0 underlying127 underlying9 hi V Y Z _ _ _ rfl H s rfl ?c3 ?c4 ?c5 ?_)
 case c3=>unfold maxLen;omega
 case c4=>omega
 case c5=>have:=I.size;omega
 intro v' L d y _;have O:b<J.heap.size:=by
  rcases Eg b J.heap.size with W | W
  ·exact W
  ·simp[Array.getElem?_eq_none W]at z
 have E:L.heap[b]?=some (.cells #[A4 b,v] 260 (0,0)):=by
  rw[y.block b O (λe=>U e.symm)];exact z
 have d0:L.cell? (A8 b 0)=some (A4 b):=by rw[Km E];rfl
 have d1:L.cell? (A8 b 1)=some v:=by rw[Km E];rfl
 have f1:L.frozen? (A8 b 1)=false:=Lib.frozen_of_heap E 1;obtain⟨ao,n',cap,rfl⟩:∃ao n' cap,v'=.slice ao n' cap:=by
  rcases d.2 with⟨hv,_⟩|⟨g,cap,cur,hv,_⟩
  ·exact⟨_,_,_,hv⟩
  ·exact⟨_,_,_,hv⟩
 go_wp2;go_ret2;refine⟨rfl,?_,?_⟩
 ·exact Lib.BuilderAt.put (T:=260) (e:=5) hB E (bs':=bs++Lib.strCells s) (by simpa[Lib.strCells_length] using d) (by decide)
 ·exact(I.grown y (by have:=I.size;omega) (λk hk=>(H.lt k hk).1)).setCell (p:=(A8 b 1)) hB _
def OB(l:List UInt8):Lib.strCells ⟨l.toArray⟩=Lib.byteCells l:=by
 simp[Lib.strCells,Lib.byteCells]
def IV{B b:Nat}{l t:List UInt8}(w:World)(h:Eu B b l w)(d:l.length+t.length<=140737488355328)(y:B<=w.heap.size):
 Calls Tryz.prog 194 #[.pointer (some ⟨b,0,none⟩),.string ⟨t.toArray⟩] w λe w'=>e=.returned (.tuple #[.int .i64 t.length,.nilIface])/\Eu B b (l++t) w'/\Below B w w':=by
 have E:(ByteArray.mk t.toArray).size=t.length:=by show t.toArray.size=_;simp
 refine(NT B b (Lib.byteCells l) ⟨t.toArray⟩ w h (by rw[Lib.byteCells_length,E];exact d) y).mono ?_;rintro e w'⟨rfl,z,H⟩;refine⟨by rw[E],.inr ?_,H⟩;rw[OB]at z;have:Lib.byteCells (l++t)=Lib.byteCells l++Lib.byteCells t:=by simp[Lib.byteCells]
 rw[this];exact z
def Sv{B b:Nat}{l:List UInt8}(w:World)(h:Eu B b l w)(d:B<=w.heap.size):
 Ac 197 #[A4 b] w (Ak (.string ⟨l.toArray⟩) λw'=>Below B w w'):=Tryz.Builder_String_any B b l w h d
def MU(w:World):Eu w.heap.size w.heap.size [] (w.alloc (.cells #[.pointer none,.slice none 0 0] 260)):=
 .inl ⟨Aw _,_,Bw w _,BW _ _ _ _,by simp[Value.ownBlock]⟩
def Eu.Ap{B b:Nat}{l:List UInt8}{w w':World}{S:Nat->Prop}(h:Eu B b l w)(E:A2 S w w')(z:∀k,S k->k<B):Eu B b l w':=by
 have key:∀p,Lib.BuilderAt 260 5 B b p (Lib.byteCells l) w->Lib.BuilderAt 260 5 B b p (Lib.byteCells l) w':=by
  rintro p⟨J,v,H,d,I⟩;refine⟨J,v,E.Ap H (λh=>by have:=z _ h;omega),?_,I⟩;exact Aq d λg y=>E.Ao g (Av d y) (λh=>by have:=z _ h;have:=(d.lt g y).1;omega)
 exact h.imp (key _) (key _)
section
variable {α:Type} (lt:α->α->Bool)
structure BS:Prop where
 GG:∀x,lt x x=false
 As:∀x y z,lt x y=true->lt y z=true->lt x z=true
 Jl:∀x y z,lt x z=true->lt x y=true\/lt y z=true
def eqv(x y:α):Bool:=!lt x y && !lt y x
def Bp(l l':List α):Prop:=∀x,l.filter (eqv lt x)=l'.filter (eqv lt x)
def Cn(l:List α):Prop:=l.Pairwise λx y=>lt y x=false
variable {lt}
def Bp.C(l:List α):Bp lt l l:=λ_=>rfl
def Bp.bw{l l':List α}(h:Bp lt l l'):Bp lt l' l:=λx=>(h x).symm
def Bp.As{l l' d:List α}(h:Bp lt l l')(y:Bp lt l' d):Bp lt l d:=λx=>(h x).trans (y x)
def Bp.aw{a a' b d:List α}(h:Bp lt a a')(y:Bp lt b d):Bp lt (a++b) (a'++d):=λx=>by
 rw[Ht,Ht,h x,y x]
def BS.cX(h:BS lt)(x:α):eqv lt x x=true:=by simp[eqv,h.GG]
def BS.b6(h:BS lt){x y:α}(d:lt x y=true):lt y x=false:=by
 cases hyx:lt y x with
 | false=>rfl
 | true=>have:=h.As _ _ _ d hyx;rw[h.GG]at this;cases this
def BS.bX(h:BS lt){x y z:α}(H:lt y x=false)(E:lt z y=false):lt z x=false:=by
 cases hzx:lt z x with
 | false=>rfl
 | true=>rcases h.Jl z y x hzx with d|d
         ·rw[E]at d;cases d
         ·rw[H]at d;cases d
def BS.dU(h:BS lt){x y z:α}(E:lt y z=true)(H:eqv lt x y=true):eqv lt x z=false:=by
 cases hz:eqv lt x z with
 | false=>rfl
 | true=>
  simp[eqv]at H hz;rcases h.Jl y x z E with d|d
  ·rw[H.2]at d;cases d
  ·rw[hz.1]at d;cases d
def BS.dX(h:BS lt){x y:α}(d:lt y x=true):Bp lt [x,y] [y,x]:=λz=>by
 simp only[DB,List.filter_nil];cases h1:eqv lt z y with
 | false=>cases eqv lt z x<;>rfl
 | true=>rw[h.dU d h1];rfl
def BS.dj(h:BS lt){x:α}{ys:List α}(d:∀y∈ys,lt y x=true):Bp lt (x::ys) (ys++[x]):=by
 induction ys with
 | nil=>exact Bp.C _
 | cons y r ih=>
  have H:Bp lt (x::y::r) (y::x::r):=by
   have:=(h.dX (d y (Ce ..))).aw (Bp.C (lt:=lt) r);simpa using this
  have E:Bp lt (y::x::r) (y::(r++[x])):=by
   have:=(Bp.C (lt:=lt) [y]).aw (ih λz I=>d z (BK _ I));simpa using this
  exact H.As E
def BS.eb(h:BS lt){xs ys:List α}(d:∀x∈xs,∀y∈ys,lt y x=true):Bp lt (xs++ys) (ys++xs):=by
 induction xs with
 | nil=>simpa using Bp.C (lt:=lt) ys
 | cons x r ih=>
  have H:=ih λz J=>d z (BK _ J);have E:Bp lt (x::(r++ys)) (x::(ys++r)):=by simpa using(Bp.C (lt:=lt) [x]).aw H
  have I:=(h.dj (d x (Ce ..))).aw (Bp.C r);have:=E.As I;simpa using this
def BS.cg(h:BS lt){y:α}{xs:List α}(E:∀x∈xs,lt y x=true):Bp lt (xs++[y]) (y::xs):=by
 simpa using h.eb (xs:=xs) (ys:=[y]) λx H z d=>by simp at d;subst d;exact E x H
def Bp.DG{l l':List α}(d:BS lt)(h:Bp lt l l'){x:α}(y:x∈l):x∈l':=by
 have:x∈l.filter (eqv lt x):=Gf.2 ⟨y,d.cX x⟩;rw[h x]at this;exact(Gf.1 this).1
def BS.cJ(d:BS lt):∀ {l l':List α},Cn lt l->Cn lt l'->Bp lt l l'->l=l'
 | [],[],_,_,_=>rfl
 | [],b::r',_,_,h=>by have:=(h.bw).DG d (Ce (a:=b) (l:=r'));cases this
 | a::r,[],_,_,h=>by have:=h.DG d (Ce (a:=a) (l:=r));cases this
 | a::r,b::r',h1,h2,h=>by
  have J:=D3.1 h1;have L:=D3.1 h2;have H:lt a b=false:=by
   rcases Cf.1 (h.DG d (Ce (a:=a) (l:=r))) with rfl|z
   ·exact d.GG _
   ·exact L.1 a z
  have E:lt b a=false:=by
   rcases Cf.1 (h.bw.DG d (Ce (a:=b) (l:=r'))) with rfl|z
   ·exact d.GG _
   ·exact J.1 b z
  have O:eqv lt a b=true:=by simp[eqv,H,E]
  have I:=h a;rw[FV (d.cX a),FV O]at I;obtain rfl:a=b:=(List.cons.inj I).1;refine ER (a :: ·) (d.cJ J.2 L.2 λx=>?_);have y:=h x;cases hc:eqv lt x a with
  | true=>rw[FV hc,FV hc]at y;exact(List.cons.inj y).2
  | false=>rw[GX (by rw[hc];decide),GX (by rw[hc];decide)]at y;exact y
def Rn{x y:α}{l:List α}:y∈Dx lt x l↔y=x\/y∈l:=by
 induction l with
 | nil=>simp[Dx]
 | cons z r ih=>
  unfold Dx;split
  ·simp
  ·simp only[Cf,ih];constructor
   ·rintro (h|h|h)
    ·exact .inr (.inl h)
    ·exact .inl h
    ·exact .inr (.inr h)
   ·rintro (h|h|h)
    ·exact .inr (.inl h)
    ·exact .inl h
    ·exact .inr (.inr h)
def BS.dq(H:BS lt){x:α}{l:List α}(h:Cn lt l):Cn lt (Dx lt x l):=by
 induction l with
 | nil=>simp[Dx,Cn]
 | cons z r ih=>
  have I:=D3.1 h;unfold Dx;split
  ·rename_i E;refine D3.2 ⟨λy d=>?_,h⟩;rcases Cf.1 d with rfl|d
   ·exact H.b6 E
   ·exact H.bX (H.b6 E) (I.1 y d)
  ·rename_i E;refine D3.2 ⟨λy d=>?_,ih I.2⟩;rcases Rn.1 d with rfl|d
   ·simpa using E
   ·exact I.1 y d
def BS.de(H:BS lt){x:α}{l:List α}(h:Cn lt l):Bp lt (l++[x]) (Dx lt x l):=by
 induction l with
 | nil=>exact Bp.C _
 | cons z r ih=>
  have J:=D3.1 h;unfold Dx;split
  ·rename_i I;refine H.cg λy E=>?_;rcases Cf.1 E with rfl|E
   ·exact I
   ·rcases H.Jl x y z I with d|d
    ·exact d
    ·rw[J.1 y E]at d;cases d
  ·simpa using(Bp.C (lt:=lt) [z]).aw (ih J.2)
def BS.bY(d:BS lt):∀(l s:List α),Cn lt s->Cn lt (l.foldl (λs x=>Dx lt x s) s)/\Bp lt (s++l) (l.foldl (λs x=>Dx lt x s) s)
 | [],s,h=>⟨h,by simpa using Bp.C (lt:=lt) s⟩
 | x::r,s,h=>by
  obtain⟨z,y⟩:=d.bY r _ (d.dq (x:=x) h);refine⟨z,Bp.As ?_ y⟩;have:=(d.de (x:=x) h).aw (Bp.C (lt:=lt) r);simpa using this
def BS.cO(d:BS lt)(l:List α):Cn lt (D5 lt l):=(d.bY l [] List.Pairwise.nil).1
def BS.bI(d:BS lt)(l:List α):Bp lt l (D5 lt l):=by
 have:=(d.bY l [] List.Pairwise.nil).2;rw[Ej]at this;exact this
def BS.dS(d:BS lt){l l':List α}(h:Cn lt l')(y:Bp lt l l'):l'=D5 lt l:=
 d.cJ h (d.cO l) (y.bw.As (d.bI l))
def Cn.aw{a b:List α}(h:Cn lt (a++b)):Cn lt a/\Cn lt b/\∀x∈a,∀y∈b,lt y x=false:=by
 have:=DU.1 h;exact⟨this.1,this.2.1,this.2.2⟩
def Cn.dd{a b:List α}(d:Cn lt a)(z:Cn lt b)(h:∀x∈a,∀y∈b,lt y x=false):Cn lt (a++b):=DU.2 ⟨d,z,h⟩
def BS.dm(d:BS lt){a b:List α}(U:Cn lt a)(W:Cn lt b)(h:∀x y,a.getLast?=some x->b.head?=some y->lt y x=false):∀x∈a,∀y∈b,lt y x=false:=by
 intro x O y L;rcases ND a with rfl|⟨a',z,rfl⟩
 ·cases O
 cases b with
 | nil=>cases L
 | cons y0 b'=>
  have V:=h z y0 (by simp) rfl;have I:lt z x=false:=by
   (have E:x∈a'\/x=z:=by simpa using O);rcases E with H|rfl
   ·exact(Cn.aw (by simpa using U)).2.2 x H z (by simp)
   ·exact d.GG _
  have J:lt y y0=false:=by
   rcases Cf.1 L with rfl|H
   ·exact d.GG _
   ·exact(D3.1 W).1 y H
  exact d.bX (d.bX I V) J
end
end
end Go.Proofs.YtodcnkbblippnaaGreatDoor
