/- Part 15 of a proof: walks of the program. -/
import Derived.Lib.AtoiAllCases
import Derived.Test.YtodcnkbblippnaaGreatDoorCards
import Derived.Test.YtodcnkbblippnaaGreatDoorTie
import Derived.ProofKit
import Derived.OpenShut
import Derived.Carry
import Derived.Deep.DeepHandedRow
import Derived.Deep.DeepWitnessRowRef
import Derived.Deep.Slices
import Derived.Lib.LaidTab
import Derived.Stop.LaidErr
import Derived.Test.YtodcnkbblippnaaGreatDoorPart14
namespace Go.Proofs.YtodcnkbblippnaaGreatDoor
set_option maxRecDepth 100000
set_option maxHeartbeats 32000000
set_option linter.defProp false
open Go.Proofs.Tryz
section
open Go.RowKit
attribute [local go_sem ↓] Go.wp_at_zero Go.wp_at_succ
def Ts:∀(m u d:Nat) (r:gh UInt8),u<m->d*10 ^ Lib.nDigits u+u<18446744073709551616->Lib.parseUint10 d (Lib.decDigits u++r)=Lib.parseUint10 (d*10 ^ Lib.nDigits u+u) r
 | 0,u,d,r,h,_=>by omega
 | m+1,u,d,r,h,hb=>by
  have one:∀(a x:Nat) (r:gh UInt8),x<10->a*10+x<18446744073709551616->Lib.parseUint10 a (UInt8.ofNat (48+x):: r)=Lib.parseUint10 (a*10+x) r:=λa x r hx ha=>by
   (have e:(UInt8.ofNat (48+x)).toNat=48+x:=by simp;omega);simp only[Lib.parseUint10,e];rw[Ae (by omega),Aa (by omega),Aa (by omega)]
   congr 1;omega
  by_cases z:u<10
  ·rw[Lib.decDigits_one z,QO z]at *;simp only[FD,Ff,Nat.pow_one];exact one d u r z (by simpa using hb)
  ·rw[X1 z,J4]at *;have e:d*(10 ^ Lib.nDigits (u/10)*10)+u=(d*10 ^ Lib.nDigits (u/10)+u/10)*10+u % 10:=by
    rw[<-J5,HT];omega
   rw[e]at hb ⊢;have E:Lib.decDigits u=Lib.decDigits (u/10)++[UInt8.ofNat (48+u % 10)]:=by
    rw[Lib.decDigits,Qe z]
   rw[E,Ch,Ts m (u/10) d _ (by omega) (by omega)];exact one _ _ r (by omega) hb
def A0t(c:Nat)(r:gh UInt8):Lib.parseUint10 0 (List.replicate c 48++r)=Lib.parseUint10 0 r:=by
 induction c with
 | zero=>rfl
 | succ c ih=>simp only[WM,FD,Lib.parseUint10];exact ih
def Uh(k:Nat):∀u,u<10 ^ k->1<=k->Lib.nDigits u<=k:=by
 induction k with
 | zero=>intro u _ h;omega
 | succ k ih=>
  intro u hu _;by_cases h:u<10
  ·rw[QO h];omega
  ·rw[X1 h];rw[J4]at hu;cases k with
   | zero=>simp at hu;omega
   | succ k=>have:=ih (u/10) (by omega) (by omega);omega
def N3{n:Int}(h:0<=n):Lib.itoa n=Lib.decDigits n.toNat:=by unfold Lib.itoa;rw[Aa (by omega)]
def I7{n:Int}(d:0<=n)(h1:n<=4611686018427387904):CH n:=by
 refine⟨d,by omega,?_⟩;rw[N3 d,X2];exact Uh 19 _ (by omega) (by omega)
def Sy(c:Nat):Lib.repeatL [48] c=List.replicate c 48:=by
 induction c with
 | zero=>rfl
 | succ c ih=>simp[Lib.repeatL,ih,List.replicate_succ]
def A2P(u:Nat):∃b r,Lib.decDigits u=b::r/\48<=b.toNat/\b.toNat<=57:=by
 induction u using Nat.strongRecOn with
 | ind u ih=>
  by_cases h:u<10
  ·exact⟨_,_,Lib.decDigits_one h,by simp;omega,by simp;omega⟩
  ·have⟨b,r,h1,h2,h3⟩:=ih (u/10) (by omega);refine⟨b,r++[UInt8.ofNat (48+u % 10)],?_,h2,h3⟩;rw[Lib.decDigits,Qe h,h1];rfl
def A39{n:Int}(E:0<=n)(h1:n<=9223372036854775807)(c:Nat):Lib.atoiAll (Lib.repeatL [48] c++Lib.itoa n)=.ok n:=by
 rw[Sy,N3 E];have⟨b,r,hb,hb1,hb2⟩:=A2P n.toNat;have d:Lib.parseMag (List.replicate c 48++Lib.decDigits n.toNat)=.ok n.toNat:=by
  unfold Lib.parseMag;rw[Aa (by rw[hb];simp),A0t];have:=Ts (n.toNat+1) n.toNat 0 [] (by omega) (by omega);rw[GJ]at this;rw[this];simp[Lib.parseUint10]
 have H:∃b r,List.replicate c 48++Lib.decDigits n.toNat=b::r/\b.toNat≠43/\b.toNat≠45:=by
  cases c with
  | zero=>exact⟨b,r,by simpa using hb,by omega,by omega⟩
  | succ c=>exact⟨48,List.replicate c 48++Lib.decDigits n.toNat,by simp[List.replicate_succ],by decide,by decide⟩
 obtain⟨b2,r2,e,h,z⟩:=H;rw[e]at d ⊢;rw[Lib.atoiAll_plain _ _ h z,d];unfold Lib.signless;dsimp only
 rw[Aa (by omega)]
 congr 1
 omega
def Va(a b:gh UInt8):Lib.hasPrefix (a++b) a=true:=by
 unfold Lib.hasPrefix;simp
def XF(lt:gh UInt8)(n:Int):Lib.trimPrefix (Em lt n) lt=Lib.repeatL [48] (19-(Lib.itoa n).length)++Lib.itoa n:=by
 unfold Lib.trimPrefix Em;rw[Ch,Ae (Va _ _),WW]
def DX(lt nm:gh UInt8):Option Int:=match Lib.atoiAll (Lib.trimPrefix nm lt) with
 | .ok v=>if 0<v/\v<=4611686018427387904/\Em lt v=nm then some v else none
 | _=>none
def MW(lt:gh UInt8){n:Int}(h:0<n)(d:n<=4611686018427387904):DX lt (Em lt n)=some n:=by
 unfold DX;rw[XF,A39 (by omega) (by omega)];dsimp only
 rw[Ae ⟨h,d,rfl⟩]
def Af(n:Int):gh UInt8:=BO 1 n
def Aw(n:Int):gh UInt8:=BO 2 n
def Ay:gh UInt8:=[105]
def Bm:gh UInt8:=[100]
def isNum(n:Int):Bool:=decide (1<=n/\n<=4611686018427387904)
def I9(nm:gh UInt8):Int×Int:=if nm=Bm then (4,0) else (0,0)
def H4(nm:gh UInt8):Int×Int:=if nm=Ay then (3,0) else I9 nm
def H5(nm:gh UInt8):Int×Int:=match DX [115] nm with
 | some v=>(2,v)
 | none=>H4 nm
def Ba(nm:gh UInt8):Int×Int:=match DX [108] nm with
 | some v=>(1,v)
 | none=>H5 nm
def G7(nm:gh UInt8)(k:Nat):Int×Int:=if k=1 then Ba nm else if k=2 then H5 nm else if k=3 then H4 nm else if k=4 then I9 nm else (0,0)
def QX(s:gh UInt8)(v:Int):Prop:=Lib.atoiAll s=.ok v\/(∀x,Lib.atoiAll s≠.ok x)/\isNum v=false/\(s=[]->v=0)
def W6:∀x,Lib.atoiAll []≠.ok x:=by
 intro x;have:Lib.atoiAll []=.syntax:=by decide +kernel
 rw[this];intro h;cases h
def Rv(l:gh UInt8):Lib.trimPrefix l l=[]:=by
 unfold Lib.trimPrefix;have:Lib.hasPrefix l l=true:=by simpa using Va l []
 rw[Ae this];simp
def U8{lt nm:gh UInt8}{v:Int}(h:QX (Lib.trimPrefix nm lt) v):DX lt nm=if isNum v=true/\Em lt v=nm then some v else none:=by
 unfold DX;rcases h with h|⟨h,z,-⟩
 ·rw[h];dsimp only
  by_cases d:0<v/\v<=4611686018427387904/\Em lt v=nm
  ·rw[Ae d,Ae ⟨by unfold isNum;exact CM ⟨by omega,d.2.1⟩,d.2.2⟩]
  ·rw[Aa d,Aa];rintro⟨E,z⟩;unfold isNum at E;have:=Ph E;exact d ⟨by omega,this.2,z⟩
 ·rw[z,Aa (by simp)];cases hx:Lib.atoiAll (Lib.trimPrefix nm lt) with
  | ok x=>exact absurd hx (h x)
  | «syntax»=>rfl
  | range=>rfl
def Ud(nm:gh UInt8):G7 nm 1=Ba nm:=by simp[G7]
def Uc(nm:gh UInt8):G7 nm 2=H5 nm:=by simp[G7]
def Ub(nm:gh UInt8):G7 nm 3=H4 nm:=by simp[G7]
def Ua(nm:gh UInt8):G7 nm 4=I9 nm:=by simp[G7]
def U9(nm:gh UInt8):G7 nm 5=(0,0):=by simp[G7]
def A0Z{nm:gh UInt8}{k:Nat}{v:Int}(hk:1<=k/\k<=4)(h:QX (Lib.trimPrefix nm (Dd k)) v):
 G7 nm k=if isNum v=decide ((k:Int)=1\/(k:Int)=2)/\BO k v=nm then ((k:Int),v) else G7 nm (k+1):=by
 have L:k=1\/k=2\/k=3\/k=4:=by omega
 rcases L with rfl|rfl|rfl|rfl
 ·have e:BO ((1:Nat):Int) v=Em [108] v:=rfl;have z:decide (((1:Nat):Int)=1\/((1:Nat):Int)=2)=true:=by decide
  have:=U8 h;rw[show Dd ((1:Nat):Int)=[108] from rfl]at this;rw[Ud,Uc,e,z,Ba,this];by_cases d:isNum v=true/\Em [108] v=nm
  ·rw[Ae d,Ae d];rfl
  ·rw[Aa d,Aa d]
 ·have e:BO ((2:Nat):Int) v=Em [115] v:=rfl;have z:decide (((2:Nat):Int)=1\/((2:Nat):Int)=2)=true:=by decide
  have:=U8 h;rw[show Dd ((2:Nat):Int)=[115] from rfl]at this;rw[Uc,Ub,e,z,H5,this];by_cases d:isNum v=true/\Em [115] v=nm
  ·rw[Ae d,Ae d];rfl
  ·rw[Aa d,Aa d]
 ·have e:BO ((3:Nat):Int) v=Ay:=rfl;have z:decide (((3:Nat):Int)=1\/((3:Nat):Int)=2)=false:=by decide
  rw[Ub,Ua,e,z,H4];by_cases d:nm=Ay
  ·subst d;have E:isNum v=false/\v=0:=by
    rw[show Dd ((3:Nat):Int)=Ay from rfl,Rv]at h;rcases h with h|⟨_,I,H⟩
    ·exact absurd h (W6 v)
    ·exact⟨I,H rfl⟩
   rw[Ae rfl,Ae ⟨E.1,rfl⟩,E.2];rfl
  ·rw[Aa d,Aa (λh=>d h.2.symm)]
 ·have e:BO ((4:Nat):Int) v=Bm:=rfl;have z:decide (((4:Nat):Int)=1\/((4:Nat):Int)=2)=false:=by decide
  rw[Ua,U9,e,z,I9];by_cases d:nm=Bm
  ·subst d;have E:isNum v=false/\v=0:=by
    rw[show Dd ((4:Nat):Int)=Bm from rfl,Rv]at h;rcases h with h|⟨_,I,H⟩
    ·exact absurd h (W6 v)
    ·exact⟨I,H rfl⟩
   rw[Ae rfl,Ae ⟨E.1,rfl⟩,E.2];rfl
  ·rw[Aa d,Aa (λh=>d h.2.symm)]
def Il(w:ga):Prop:=
 (∃d,w.cell? ⟨1,0,none⟩=some d/\(d=.nilIface\/∃z h,d=.iface z h))/\∃d,w.cell? ⟨2,0,none⟩=some d/\(d=.nilIface\/∃z h,d=.iface z h)
def Il.aO{w w':ga}(h:Il w)(d:A3 Ab w w'):Il w':=by
 obtain⟨⟨H,L,z⟩,O,I,E⟩:=h;exact⟨⟨H,d.ao L,z⟩,O,d.ao I,E⟩
def A1O(s:gh UInt8):isNum (Lib.atoiSat s)=false:=by
 unfold Lib.atoiSat;split<;>rfl
def A4a(w:ga)(s:gh UInt8)(hl:s.length<=281474976710656)(he:Il w):
 Ag 131 #[.string ⟨s.toArray⟩] w λe w'=>∃v I,e=.returned (.tuple #[A0 v,I])/\QX s v/\A3 Ab w w':=by
 obtain⟨⟨e1,L,E⟩,O,H,k2⟩:=he;have hs:(ByteArray.mk s.toArray).size=s.length:=by show s.toArray.size=_;simp
 have d:(ByteArray.mk s.toArray).data.toList=s:=by simp
 cases hr:Lib.atoiAll s with
 | ok v=>
  refine(Tryz.strconv_Atoi_ok ⟨s.toArray⟩ (by omega) v (by rw[d];exact hr) w).k ?_;rintro w' W;refine⟨v,_,rfl,.inl hr,?_⟩;rcases W with rfl|⟨t,rfl⟩
  ·exact A3.I _ _
  ·exact A3.cI (Lib.bytesWorld_below _ _ _)
 | «syntax»=>
  refine(Tryz.strconv_Atoi_syntax ⟨s.toArray⟩ (by omega) (by rw[d];exact hr) e1 w L E).mono ?_;rintro e w'⟨N,rfl,-,-,z⟩;exact⟨0,_,rfl,.inr ⟨λx h=>(by rw[hr]at h;cases h),rfl,λ_=>rfl⟩,A3.cI z⟩
 | range=>
  refine(Tryz.strconv_Atoi_range ⟨s.toArray⟩ (by omega) (by rw[d];exact hr) O w H k2).mono ?_;rintro e w'⟨N,rfl,-,-,z⟩;have Y:s≠[]:=by
   rintro rfl;(have:Lib.atoiAll []=.syntax:=by decide +kernel);rw[this]at hr;cases hr
  exact⟨Lib.atoiSat s,_,(by rw[d]),.inr ⟨λx h=>(by rw[hr]at h;cases h),A1O s,λh=>absurd h Y⟩,A3.cI z⟩
def UL(w:ga)(v:Int):Ag 128 #[A0 v] w (Am (.bool (isNum v)) λw'=>w=w'):=by
 unfold isNum
 go_enter func128,ntmps128
 by_cases z:1<=v
 ·by_cases d:v<=4611686018427387904
  ·go_wp2;go_ret;exact⟨by simp[z,d],rfl⟩
  ·go_wp2;go_ret;exact⟨by simp[d],rfl⟩
 ·have e:decide (1<=v/\v<=4611686018427387904)=false:=De λh=>z h.1;rw[e];go_wp2;go_ret;exact⟨rfl,rfl⟩
section
variable{w:ga}{B:Nat}
def U5(w:ga)(nm:gh UInt8)(hl:nm.length<=281474976710656)(he:Il w)(hL:Lets B w):
 Ag 97 #[.string ⟨nm.toArray⟩] w (Am (.tuple #[A0 (Ba nm).1,A0 (Ba nm).2]) λw'=>A3 Ab w w'):=by
 have aR:Hid (∀(wr:ga) (k:Nat),Ag 132 #[.string ⟨nm.toArray⟩,.string ⟨(Dd k).toArray⟩] wr (Am (.string ⟨(Lib.trimPrefix nm (Dd k)).toArray⟩) λw'=>w'=wr)):=λwr k=>by
  have:=Tryz.strings_TrimPrefix ⟨nm.toArray⟩ ⟨(Dd k).toArray⟩ wr;simpa using this
 have aU:Hid (∀wr:ga,A3 Ab w wr->∀k:Nat,1<=k->k<=4->A7 wr 0 k (.string ⟨(Dd k).toArray⟩)):=λwr d k h1 h2=>((hL.aO d).2 wr (O4 _ _)).1 k h1 h2
 have aT:Hid (∀wr:ga,A3 Ab w wr->∀k:Nat,_):=λwr d k=>A4a wr (Lib.trimPrefix nm (Dd k)) (AJ (Lib.trimPrefix_le _ _) hl) (he.aO d);have aS:Hid (∀(wr:ga) (k:Nat) (v:Int),A3 Ab w wr->1<=k->k<=4->isNum v=decide ((k:Int)=1\/(k:Int)=2)->Ag 134 #[A0 k,A0 v] wr λe aP=>e=.returned (.string ⟨(BO k v).toArray⟩)/\A3 Ab wr aP):=λwr k v d h1 h2 h3=>by
  by_cases hk:k=1\/k=2
  ·rw[CM (by omega)]at h3;unfold isNum at h3;have hv:=Ph h3;have hn:=I7 (n:=v) (by omega) hv.2;exact MX wr k ⟨h1,h2⟩ ⟨by omega,by omega⟩ hn.2.2 (hL.aO d)
  ·(have e:BO k v=Dd k:=by unfold BO;rw[Aa (by omega)]);rw[e];refine(Uf wr k (by omega) (Dd k) v (((hL.aO d).2 wr (O4 _ _)).1 k h1 h2)).k ?_;rintro w' rfl;exact⟨rfl,A3.I _ _⟩
 obtain⟨R,hR⟩:∃R,Ba nm=R:=⟨_,rfl⟩;have aN:Hid (G7 nm 1=R):=by rw[Ud];exact hR
 rw[hR]
 go_enter func97,ntmps97
 go_wp2;go_loopw [4,5,6] (λiv _ _ wr=>∃k:Nat,1<=k/\k<=5/\iv=A0 k/\Hid (A3 Ab w wr)/\Hid (G7 nm k=R)) (λiv _ _ _=>5-(intOf iv).toNat)
 ·exact⟨1,by omega,by omega,rfl,A3.I _ _,aN.o⟩
 ·obtain⟨k,I,hk2,rfl,d,W⟩:=hrel;by_cases hk:k<5
  ·have ck:=aU.o wr d.o k I (by omega);have aI:=A1 (aR.o wr k);have aD:=A1 (aT.o wr d.o k);have hk0:=C3 k;(have hk5:(k:Int)<5:=by omega);obtain⟨tr,aF⟩:∃tr,Lib.trimPrefix nm (Dd k)=tr:=⟨_,rfl⟩;have aO:=A1 aF;rw[aF]at aI aD;go_wp2_with (first|(go_at_call 132;refine aI.k ?_;rintro w1 rfl)|(go_at_call 131;fail));refine aD.m ?_;rintro e w1⟨v,er,rfl,hv,aK⟩;have L:=A0Z (k:=k) ⟨I,by omega⟩ (by rw[aO.o];exact hv);have z:Hid (A3 Ab w w1):=d.o.tr aK;have O:=A1 (aS.o w1 k v z.o I (by omega));obtain⟨nb,aH⟩:∃nb,isNum v=nb:=⟨_,rfl⟩;obtain⟨kb,aG⟩:∃kb,decide ((k:Int)=1\/(k:Int)=2)=kb:=⟨_,rfl⟩;rw[aH,aG]at L O;(have aQ:Hid (∀wr,Ag 128 #[A0 v] wr (Am (.bool nb) λw'=>wr=w')):=λwr=>by rw[<-aH];exact UL wr v);(have aJ:Hid (∀wr,Ag 133 #[A0 k] wr (Am (.bool kb) λw'=>wr=w')):=λwr=>by rw[<-aG];exact PJ wr k);generalize hn2:BO k v=n2 at L O;have H:=A1 L;(have E:Hid (¬(nb=kb/\n2=nm)->G7 nm (k+1)=R):=λh=>by have:=H.o;rw[Aa h]at this;rw[<-this];exact W.o);(have aL:Hid (nb=kb/\n2=nm->R=((k:Int),v)):=λh=>by have:=H.o;rw[Ae h]at this;rw[<-W.o];exact this);by_cases hb:nb=kb
   ·subst hb;have aM:(nb==nb)=true:=W2 nb;have aE:=A1 (O.o rfl);by_cases h3:n2=nm
    ·subst h3;have aB:=aL.o ⟨rfl,rfl⟩;subst aB;have hb:=W2 n2;go_wp2_with (first|(go_at_call 128;refine(aQ.o _).k ?_;rintro w2 rfl)|(go_at_call 133;refine(aJ.o _).k ?_;rintro w2 rfl)|(go_at_call 134;refine aE.k ?_;rintro w2 aA;have Y:=A1 aA));go_ret2;exact⟨rfl,z.o.tr Y.o⟩
    ·have hb:(n2==nm)=false:=Ic.2 h3;have hN:=A1 (E.o λh=>h3 h.2);go_wp2_with (first|(go_at_call 128;refine(aQ.o _).k ?_;rintro w2 rfl)|(go_at_call 133;refine(aJ.o _).k ?_;rintro w2 rfl)|(go_at_call 134;refine aE.k ?_;rintro w2 aA;have Y:=A1 aA));go_roundw
     ·exact⟨k+1,by omega,by omega,by go_num,z.o.tr Y.o,hN.o⟩
     ·simp[intOf];omega
   ·have hN:=A1 (E.o λh=>hb h.1);have aM:(nb==kb)=false:=Ic.2 hb;go_wp2_with (first|(go_at_call 128;refine(aQ.o _).k ?_;rintro w2 rfl)|(go_at_call 133;refine(aJ.o _).k ?_;rintro w2 rfl));go_roundw
    ·exact⟨k+1,by omega,by omega,by go_num,z.o,hN.o⟩
    ·simp[intOf];omega
  ·(obtain rfl:k=5:=by omega);(have aB:R=(0,0):=by rw[<-W.o,U9]);subst aB;go_wp2;go_ret2;exact⟨rfl,d.o⟩
end
end
section
open Go.MuLone Go.RowKit
attribute [local go_sem ↓] Go.wp_at_zero Go.wp_at_succ CJ
section
variable{w:ga}{sb:Nat}{jv:gd}{ld wc A9:Int}{ro:Bool}{lv:Nat->gd}{L:Nat->gh Pt}
def Yh(w:ga)(h:BA w sb 0 jv ld wc A9 ro lv):
 Calls Tryz.prog 38 #[.pointer (some ⟨sb,0,none⟩)] w λe w'=>e=.returned (.agg #[.bool ro,.int .i64 A9])/\A3 (λ_=>False) w w':=by
 have hA:∀o,BA (w.alloc o) sb 0 jv ld wc A9 ro lv:=λo=>h.Al ((A3.I (λ_=>False) w).al o) (λh=>h);have aB:=A1 hA;have H:=A1 h;have hlt:=h.lt
 go_enter_defers func38,ntmps38
 go_wp2_with (go_at_call 61;refine(LI Tryz.bC ⟨sb,0,none⟩ _ (aB.o _).c0 ((aB.o _).fz 0)).k ?_;rintro w' rfl);have Y:∀o,BA ((w.setCell ⟨sb,0,none⟩ (.int .i32 1)).alloc o) sb 1 jv ld wc A9 ro lv/\A3 (One sb) w ((w.setCell ⟨sb,0,none⟩ (.int .i32 1)).alloc o):=λo=>
  ⟨(H.o.s0 1).Al ((A3.I (λ_=>False) _).al o) (λh=>h),((A3.I (One sb) w).aq rfl 0 _).al o⟩
 have⟨hb1,hc1⟩:=Y (.cells #[.bool false,.int .i64 0] 74);have d:((w.setCell ⟨sb,0,none⟩ (.int .i32 1)).alloc (.cells #[.bool false,.int .i64 0] 74)).heap[w.heap.size]?=some (.cells #[.bool false,.int .i64 0] 74 (0,0)):=by
  have:=BL (w.setCell ⟨sb,0,none⟩ (.int .i32 1)) (.cells #[.bool false,.int .i64 0] 74);simpa using this
 generalize ((w.setCell ⟨sb,0,none⟩ (.int .i32 1)).alloc (.cells #[.bool false,.int .i64 0] 74))=w1 at hb1 hc1 d ⊢;have c4:=hb1.cK;have c5:=hb1.cR;have r0:w1.cell? ⟨w.heap.size,0,none⟩=some (.bool false):=by simp[World.cell?,d]
 have r1:w1.cell? ⟨w.heap.size,1,none⟩=some (.int .i64 0):=by simp[World.cell?,d]
 have f0:w1.frozen? ⟨w.heap.size,0,none⟩=false:=by simp[World.frozen?,d]
 have f1:w1.frozen? ⟨w.heap.size,1,none⟩=false:=by simp[World.frozen?,d]
 have I:sb≠w.heap.size:=by omega
 have aA:=A1 hb1;have O:=A1 hc1;refine R9 (λw'=>w'.cell? ⟨sb,5,none⟩=some (.int .i64 A9)/\w'.cell? ⟨sb,6,none⟩=some (.bool ro)) 11
  [(0,true),(1,true),(2,true),(3,true),(4,true),(5,true),(6,true),(7,true),(8,false),(9,true),(10,false)] (by kernel_rfl) (by kernel_rfl) ⟨c4,c5⟩ ?_
 iterate 8 (refine Ek (v:=?_) rfl (by rfl) ?_ ?_;rotate_left;(· (intro w' E;(try dsimp only at E);go_simp;try with_reducible rfl));(try simp only[Cs]))
 refine Eb rfl (by rfl) (λK W=>?_);go_simp;refine W _ _ ⟨by simp[World.cell?_setCell_other,c4],by simp[World.cell?_setCell_other,c5]⟩ (λE=>?_)
 (try simp only[Cs])
 iterate 1 (refine Ek (v:=?_) rfl (by rfl) ?_ ?_;rotate_left;(· (intro w' E;(try dsimp only at E);go_simp;try with_reducible rfl));(try simp only[Cs]))
 refine Eb rfl (by rfl) (λK W=>?_);go_simp;refine W _ _ ⟨by simp[World.cell?_setCell_other,c4],by simp[World.cell?_setCell_other,c5]⟩ (λE=>?_)
 (try simp only[Cs])
 refine G1 ?_;simp only[DW,Dz];go_wp2;rw[CJ];go_wp2;generalize hW:(((w1.setCell ⟨w.heap.size,0,none⟩ (.bool false)).setCell ⟨w.heap.size,1,none⟩ (.int .i64 0)).setCell ⟨w.heap.size,0,none⟩ (.bool ro)).setCell ⟨w.heap.size,1,none⟩ (.int .i64 A9)=w2;have z:BA w2 sb 1 jv ld wc A9 ro lv/\A3 (One sb) w w2/\w2.heap[w.heap.size]?=some (.cells #[.bool ro,.int .i64 A9] 74 (0,0)):=by
  subst hW;refine⟨?_,?_,?_⟩
  ·exact aA.o.Al (S:=One w.heap.size) (((((A3.I (One w.heap.size) w1).aq rfl 0 _).aq rfl 1 _).aq rfl 0 _).aq rfl 1 _) I
  ·(have n:∀(p:Addr),p.block=w.heap.size->p.block<w.heap.size->One sb p.block:=λp e h=>by omega);exact((((O.o.bn (n _ rfl) _).bn (n _ rfl) _).bn (n _ rfl) _).bn (n _ rfl) _)
  ·have:=CL (o:=1) (v:=.int .i64 A9) (CL (o:=0) (v:=.bool ro) (CL (o:=1) (v:=.int .i64 0) (CL (o:=0) (v:=.bool false) d)));simpa using this
 refine LJ (f:=62) (args:=#[.pointer (some ⟨sb,0,none⟩)]) (by simp) (by simp[go_sem]) ?_;refine(Lf Tryz.bC ⟨sb,0,none⟩ .returning _ ?_ ?_).mono ?_
 ·exact z.1.c0
 ·exact z.1.fz 0
 rintro e u' w''⟨rfl,rfl,rfl⟩;have d0:w2.cell? ⟨w.heap.size,0,none⟩=some (.bool ro):=by simp[World.cell?,z.2.2]
 have d1:w2.cell? ⟨w.heap.size,1,none⟩=some (.int .i64 A9):=by simp[World.cell?,z.2.2]
 refine⟨_,?_,rfl,H.o.er (w':=w2.drew) z.1 z.2.1.ag⟩;simp[results,Tryz.results38,go_sem,d0,d1]
def T4(w:ga)(k:Nat)(a b:Int)(h:BA w sb 0 jv ld wc A9 ro lv)(hr:Eh w lv L)(hk:k<8)(hl:1<=ld/\ld<=4611686018427387904)(hc:AT A9):
 Ag 37 #[A5 sb,A0 k,A0 a,A0 b] w λe w'=>∃v,e=.returned (.tuple #[v,A0 0])/\
  DT w' v (piece (L k) (max a (Bo A9 ld)) b)/\A3 Ab w w'/\∀g,v.ownBlock=some g->w.heap.size<=g:=by
 have aI:Hid (∀w',Ag 63 #[A0 k] w' λe aA=>e=.returned (.bool true)/\w'=aA):=λw'=>by
  have:=PH w' k
  rwa [CM (by omega)]at this
 have c0:=h.c0;have f0:=h.fz 0;have⟨hb1,hr1,hc1⟩:=h.bU hr;have aH:∀w',BA w' sb 1 jv ld wc A9 ro lv->_:=λw' h'=>Pg w' sb A9 ld h'.c3 h'.cK hl hc;generalize ho:Bo A9 ld=o at aH ⊢;have aL:∀w',BA w' sb 1 jv ld wc A9 ro lv->Eh w' lv L->_:=λw' h' aG=>A35 w' sb (7+k) (L k) (lv k) (max a o) b (aG.eG h' hk).cF;have hk1:=C3 k;have hk2:(k:Int)<8:=by omega
 have H:=A1 h;have aE:=A1 aH;have aF:=A1 aL;have E:=A1 hb1;have Y:=A1 hr1;have O:=A1 hc1
 go_enter_defers func37,ntmps37
 go_wp2_with (first
  | (go_at_call 61;refine(LI Tryz.bC (Ac sb 0) _ c0 f0).k ?_;rintro w' rfl)
  | (go_at_call 63;refine(aI.o _).k ?_;rintro w' rfl))
 generalize (w.setCell (Ac sb 0) (.int .i32 1))=w1 at E Y O ⊢;refine R9 (λ_=>True) 11
  (BG [0,1,2,3,4,5,6,9,7,8,10] [7,10]) (by kernel_rfl) (by kernel_rfl) trivial ?_
 iterate 8 (refine Ek (v:=?_) rfl (by rfl) ?_ ?_;rotate_left;(· (intro w' hS;(try dsimp only at hS);go_simp;try with_reducible rfl));(try simp only[Cs]))
 refine Eb rfl (by rfl) (λK hK=>?_);go_simp;refine(aE.o w1.drew E.o).k ?_;rintro w2 d;refine hK _ _ trivial (λhS=>?_);have I:Hid (BA w2 sb 1 jv ld wc A9 ro lv/\Eh w2 lv L/\A3 (One sb) w w2):=
  have z:A3 Ab w1 w2:=⟨d.os,d.G3,d.G5,d.Aj,d.An⟩
  ⟨E.o.Al z (λh=>h),Y.o.Al z (λ_ _ h=>h),O.o.b5 z⟩
 (try simp only[Cs])
 (refine Ek (v:=?_) rfl (by rfl) ?_ ?_;rotate_left;(· (intro w' hS;(try dsimp only at hS);go_simp;try with_reducible rfl));(try simp only[Cs]))
 refine Eb rfl (by rfl) (λK hK=>?_);go_simp;refine(aF.o w2 I.o.1 I.o.2.1).mono ?_;rintro e w3⟨v,rfl,hv,aB,hf⟩;refine hK _ _ trivial (λhS=>?_);have aD:Hid (BA w3 sb 1 jv ld wc A9 ro lv/\A3 (One sb) w w3):=⟨I.o.1.Al aB (λh=>h),I.o.2.2.b5 aB⟩;have aM:=A1 hv;have aJ:Hid (∀g,v.oB g->w.heap.size<=g):=λg W=>AJ I.o.2.2.Aj (hf g W);have aK:Hid (∀g,v.oB g->g≠sb):=λg W e=>by
  have:=hf g W;have:=I.o.1.lt;omega
 (try simp only[Cs])
 refine G1 ?_;simp only[DW,Dz];go_wp2;rw[CJ];go_wp2;refine LJ (f:=62) (args:=#[A5 sb]) (by simp) (by simp[go_sem]) ?_;refine(Lf Tryz.bC (Ac sb 0) .returning _ ?_ ?_).mono ?_
 ·exact aD.o.1.c0
 ·exact aD.o.1.fz 0
 rintro e u' aA⟨rfl,rfl,rfl⟩;exact⟨_,results_tmp2 rfl _ _ _,v,rfl,Ax aM.o λg W=>Hg _ _ _ _ (λe=>aK.o g W (by simpa using e)),H.o.er aD.o.1 aD.o.2,aJ.o⟩
end
def Own(sb:Nat)(lv:Nat->gd)(x:Nat):Prop:=x=sb\/EK lv x
structure Mb (w w':ga) (sb:Nat) (mu:Int) (jv:gd) (ld wc A9:Int) (ro:Bool) (lv lv':Nat->gd) (L':Nat->gh Pt):Prop where
 Ah:BA w' sb mu jv ld wc A9 ro lv'
 FK:Eh w' lv' L'
 Al:A3 (Own sb lv) w w'
 AE:∀g,EK lv' g->EK lv g\/w.heap.size<=g
section
variable{w w' w2:ga}{sb:Nat}{mu aB:Int}{jv:gd}{ld wc A9 aA:Int}{ro aD:Bool}{lv lv' aE:Nat->gd}{L L' L2:Nat->gh Pt}
def Mb.of(E:BA w' sb mu jv ld wc A9 ro lv)(z:Eh w lv L)(d:A3 (One sb) w w')(I:¬EK lv sb):Mb w w' sb mu jv ld wc A9 ro lv lv L:=
 ⟨E,z.Al d (λg H e=>I (by cases e;exact H)),d.af λ_ _ h=>.inl h,λ_ h=>.inl h⟩
end
end
section
open Go.ChangeAt Go.ChangeShapes Go.RowKit Go.WideShapes
def Tryz.own:ownKnob Tryz.prog.godebug=none:=by kernel_rfl
def Tryz.dI:Tryz.prog.globalNamed "tides/files.letters" = some 0:=by kernel_rfl
def Tryz.dE:Tryz.prog.globalNamed "internal/strconv.uint64pow10" = some 3:=by kernel_rfl
def Tryz.dP:Tryz.prog.globalNamed "strconv.ErrRange" = some 2:=by kernel_rfl
def Tryz.eh:Tryz.prog.globalNamed "strconv.ErrSyntax" = some 1:=by kernel_rfl
def Tryz.e1:(Tryz.prog.globals[0]?).map (·.type)=some 201:=by kernel_rfl
def Tryz.eM:(Tryz.prog.globals[3]?).map (·.type)=some 333:=by kernel_rfl
def Tryz.eH:(Tryz.prog.globals[2]?).map (·.type)=some 197:=by kernel_rfl
def Tryz.e5:(Tryz.prog.globals[1]?).map (·.type)=some 197:=by kernel_rfl
def Tryz.eN:Tryz.prog.cellsOf 201=5:=by kernel_rfl
def Tryz.dy:Tryz.prog.cellsOf 9=1:=by kernel_rfl
def Tryz.fu:Tryz.prog.cellsOf 333=20:=by kernel_rfl
def Tryz.ff:Tryz.prog.cellsOf 275=1:=by kernel_rfl
def Tryz.dL:Tryz.prog.cellsOf 325=1:=by kernel_rfl
def Tryz.star: "*" ++ "errors.errorString" = "*errors.errorString":=by decide
def Tryz.en(u:TypeId)(h:Tryz.prog.typeName? 3 u=some "*errors.errorString"):u=323:=
 typeName_ptr_named (nm:= "errors.errorString") (by rw[Tryz.star];kernel_rfl) (by kernel_rfl) (by decide) u (by rw[Tryz.star];exact h)
def A1l{d:Nat}{w:ga}{E:gh gd}{s:gh (gh UInt8)}{p:gh MemPlace}(h:DataW.trod (λ_=>()) Tryz.prog w 0 (λ_=>true) false d 201 E=some (.agg (s.map λx=>.lit (.string x)),p))(k:Nat)(I:k<5)(x:gh UInt8)(W:s[k]?=some x):E[k]?=some (.string ⟨x.toArray⟩):=by
 cases d with
 | zero=>simp[DataW.trod]at h
 | succ d=>
  simp only[DataW.trod,underlying201,Tryz.dy,Tryz.eN,KF]at h;split at h
  ·have⟨xs,hm,hq⟩:=A4O.1 h;have H:xs.map (·.1)=s.map λx=>DataW.lit (.string x):=by
    have:=ES Prod.fst hq;simpa using this
   have⟨b,hb,hf⟩:=Lib.mapM_at hm k k (by simp[I]);obtain⟨s',O,rfl,_⟩:=DataW.trod_string FR hf;have L:E[k]?=some (.string s'):=by
    have:=ES (·[0]?) O;simpa[List.getElem?_take,List.getElem?_drop] using this
   (have z:(xs.map (·.1))[k]?=some (DataW.lit (.string s'.data.toList)):=by simp[hb]);rw[H]at z;simp[W]at z;rw[L,z]
  ·cases h
def A1v{W:ga}(h:laidMetH Tryz.prog Rows.writesUptoRow.laid W):Lets W.heap.size W:=by
 have h0:=h;have h3:laidMet Tryz.prog (("internal/strconv.uint64pow10",Lib.tabData .u64 Lib.pow10Tab):: [("strconv.ErrRange",Rows.laid_strconv_ErrRange),("strconv.ErrSyntax",Rows.laid_strconv_ErrSyntax),("tides/files.letters",Rows.laid_tides_files_letters)]) W:=laidMet.tail (laidMet.tail h0);have O:Lib.TabIs Tryz.prog W "internal/strconv.uint64pow10" .u64 Lib.pow10Tab:=Lib.tabIs_of_head Tryz.dE Tryz.eM underlying333 underlying275 Tryz.ff Tryz.fu h3;have h6:=laidMet.tail (laidMet.tail (laidMet.tail h3));obtain⟨ps,⟨g',t',cs,fuel,p,q,I,L,d,hd,_,_⟩,_⟩:=h6;obtain rfl:=KB (Tryz.dI.symm.trans I);obtain rfl:=KB (Tryz.e1.symm.trans L);have E:=A1l (s:=[[],[108],[115],[105],[100]]) hd;have z:∀k:Nat,1<=k->k<=4->W.cell? ⟨0,k,none⟩=some (.string ⟨(Dd k).toArray⟩):=λk h1 h2=>by
  rw[Wr Tryz.dI d k];have:k=1\/k=2\/k=3\/k=4:=by omega
  rcases this with rfl|rfl|rfl|rfl
  ·simpa[Dd] using E 1 (by omega) _ rfl
  ·simpa[Dd] using E 2 (by omega) _ rfl
  ·simpa[Dd] using E 3 (by omega) _ rfl
  ·simpa[Dd] using E 4 (by omega) _ rfl
 have aA:=HL W _ (z 1 (by omega) (by omega));have Y:=O.cell Tryz.dE 0 (by decide);have H:=HL W _ Y;refine⟨Ao _,λw' hb=>⟨λk h1 h2=>?_,?_⟩⟩
 ·rw[<-z k h1 h2];exact hb.cell aA
 ·unfold Lib.TabIs at O ⊢;rw[<-O];unfold World.var?;rw[Tryz.dE];simp only[Option.bind_some];rw[hb.block _ H]
def A1w{W:ga}(h:laidMetH Tryz.prog Rows.writesUptoRow.laid W):Il W:=by
 have E:=h;have d:=laidMet.tail (laidMet.tail (laidMet.tail E));have z:=laidMet.tail d;have⟨a0,_,hva,_⟩:=laid_sentinel d Tryz.dP Tryz.eH underlying197 Tryz.en underlying323 underlying325 rfl rfl FR Tryz.dL Tryz.dy;have⟨b0,_,hvb,_⟩:=laid_sentinel z Tryz.eh Tryz.e5 underlying197 Tryz.en underlying323 underlying325 rfl rfl FR Tryz.dL Tryz.dy;exact⟨⟨_,by simpa using Wr Tryz.eh hvb 0,.inr ⟨_,_,rfl⟩⟩,_,by simpa using Wr Tryz.dP hva 0,.inr ⟨_,_,rfl⟩⟩
def JT{z:Int}(h:(Lit.int .i64 z).wf=true):AT z:=by
 simp[Lit.wf]at h;have e:IntKind.i64.min = -9223372036854775808:=rfl;rw[e]at h;exact h
abbrev XO:ByteArray:={data:=#[105,110,118,97,108,105,100,32,115,121,110,116,97,120]}
abbrev Zn:ByteArray:={data:=#[118,97,108,117,101,32,111,117,116,32,111,102,32,114,97,110,103,101]}
def K4(v:Array gd):Obj->Obj
 | .cells _ t frozen=>.cells v t frozen
 | o=>o
def HY(os:Os)(W:ga):Prop:=W =
 let w0:=World.holding Tryz.prog os ⟨#[.cells #[.string XO] 325,.cells #[.string Zn] 325],#[],[]⟩
 let h0:=w0.heap
 let h1:=h0.modify 0 (K4 #[.string ⟨#[]⟩,.string ⟨#[108]⟩,.string ⟨#[115]⟩,.string ⟨#[105]⟩,.string ⟨#[100]⟩])
 let h2:=h1.modify 1 (K4 #[.iface 323 (A5 ((World.holding Tryz.prog default ⟨#[],#[],[]⟩).heap.size))])
 let h3:=h2.modify 2 (K4 #[.iface 323 (A5 ((World.holding Tryz.prog default ⟨#[],#[],[]⟩).heap.size+1))])
 let h4:=h3.modify 3 (K4 #[.int .u64 1,.int .u64 10,.int .u64 100,.int .u64 1000,.int .u64 10000,.int .u64 100000,.int .u64 1000000,.int .u64 10000000,.int .u64 100000000,.int .u64 1000000000,.int .u64 10000000000,.int .u64 100000000000,.int .u64 1000000000000,.int .u64 10000000000000,.int .u64 100000000000000,.int .u64 1000000000000000,.int .u64 10000000000000000,.int .u64 100000000000000000,.int .u64 1000000000000000000,.int .u64 10000000000000000000])
 let h5:=h4.modify 5 (K4 #[.int .u8 0,.int .u8 1,.int .u8 28,.int .u8 2,.int .u8 29,.int .u8 14,.int .u8 24,.int .u8 3,.int .u8 30,.int .u8 22,.int .u8 20,.int .u8 15,.int .u8 25,.int .u8 17,.int .u8 4,.int .u8 8,.int .u8 31,.int .u8 27,.int .u8 13,.int .u8 23,.int .u8 21,.int .u8 19,.int .u8 16,.int .u8 7,.int .u8 26,.int .u8 12,.int .u8 18,.int .u8 6,.int .u8 11,.int .u8 5,.int .u8 10,.int .u8 9])
 let h6:=h5.modify 6 (K4 #[.int .u8 0,.int .u8 1,.int .u8 56,.int .u8 2,.int .u8 57,.int .u8 49,.int .u8 28,.int .u8 3,.int .u8 61,.int .u8 58,.int .u8 42,.int .u8 50,.int .u8 38,.int .u8 29,.int .u8 17,.int .u8 4,.int .u8 62,.int .u8 47,.int .u8 59,.int .u8 36,.int .u8 45,.int .u8 43,.int .u8 51,.int .u8 22,.int .u8 53,.int .u8 39,.int .u8 33,.int .u8 30,.int .u8 24,.int .u8 18,.int .u8 12,.int .u8 5,.int .u8 63,.int .u8 55,.int .u8 48,.int .u8 27,.int .u8 60,.int .u8 41,.int .u8 37,.int .u8 16,.int .u8 46,.int .u8 35,.int .u8 44,.int .u8 21,.int .u8 52,.int .u8 32,.int .u8 23,.int .u8 11,.int .u8 54,.int .u8 26,.int .u8 40,.int .u8 15,.int .u8 34,.int .u8 20,.int .u8 31,.int .u8 10,.int .u8 25,.int .u8 14,.int .u8 19,.int .u8 9,.int .u8 13,.int .u8 8,.int .u8 7,.int .u8 6])
 {w0 with heap:=h6}
def A1u(os:Os)(W:ga)(h:HY os W)(args:Array gd):laidMet Tryz.prog Rows.writesUptoRow.laid (W.forCall (λ_ _=>0) ⟨#[],args,[]⟩).memory:=by
 unfold HY at h;subst h;exact laidMet_of_run' 8 (by kernel_rfl) (by kernel_rfl)
end
end Go.Proofs.YtodcnkbblippnaaGreatDoor
