/- Part 7 of a proof: walks of the program. -/
import Derived.Test.YtodcnkbblippnaaGreatDoorPk06
namespace Go.Proofs.YtodcnkbblippnaaGreatDoor
set_option maxRecDepth 100000
set_option maxHeartbeats 32000000
set_option linter.defProp false
open Go.Proofs.Tryz
section
open Go.RowKit
attribute [local go_sem ↓] Go.wp_at_zero Go.wp_at_succ
def HU(w:World):Prop:=
 (∃d,w.cell? ⟨1,0,none⟩=some d/\(d=.nilIface\/∃z h,d=.iface z h))/\∃d,w.cell? ⟨2,0,none⟩=some d/\(d=.nilIface\/∃z h,d=.iface z h)
def HU.aM{w w':World}(h:HU w)(d:A3 Ab w w'):HU w':=by
 obtain⟨⟨H,L,z⟩,O,I,E⟩:=h;exact⟨⟨H,d.ao L,z⟩,O,d.ao I,E⟩
def A06(s:List UInt8):isNum (Lib.atoiSat s)=false:=by
 unfold Lib.atoiSat;split<;>rfl
def A3l(w:World)(s:List UInt8)(hl:s.length<=281474976710656)(he:HU w):
 Af 131 #[.string ⟨s.toArray⟩] w λe w'=>∃v I,e=.returned (.tuple #[A0 v,I])/\Qf s v/\A3 Ab w w':=by
 obtain⟨⟨e1,L,E⟩,O,H,k2⟩:=he;have hs:(ByteArray.mk s.toArray).size=s.length:=by show s.toArray.size=_;simp
 have d:(ByteArray.mk s.toArray).data.toList=s:=by simp
 cases hr:Lib.atoiAll s with
 | ok v=>
  refine(Tryz.strconv_Atoi_ok ⟨s.toArray⟩ (by omega) v (by rw[d];exact hr) w).mono ?_;rintro e w'⟨rfl,W⟩;refine⟨v,_,rfl,.inl hr,?_⟩;rcases W with rfl|⟨t,rfl⟩
  ·exact A3.I _ _
  ·exact A3.cP (Lib.bytesWorld_below _ _ _)
 | «syntax»=>
  refine(Tryz.strconv_Atoi_syntax ⟨s.toArray⟩ (by omega) (by rw[d];exact hr) e1 w L E).mono ?_;rintro e w'⟨N,rfl,-,-,z⟩;exact⟨0,_,rfl,.inr ⟨λx h=>(by rw[hr]at h;cases h),rfl,λ_=>rfl⟩,A3.cP z⟩
 | range=>
  refine(Tryz.strconv_Atoi_range ⟨s.toArray⟩ (by omega) (by rw[d];exact hr) O w H k2).mono ?_;rintro e w'⟨N,rfl,-,-,z⟩;have Y:s≠[]:=by
   rintro rfl;(have:Lib.atoiAll []=.syntax:=by decide +kernel);rw[this]at hr;cases hr
  exact⟨Lib.atoiSat s,_,(by rw[d]),.inr ⟨λx h=>(by rw[hr]at h;cases h),A06 s,λh=>absurd h Y⟩,A3.cP z⟩
def TF(w:World)(v:Int):Af 128 #[A0 v] w (Aj (.bool (isNum v)) λw'=>w=w'):=by
 unfold isNum
 go_enter func128,ntmps128
 by_cases z:1<=v
 ·by_cases d:v<=4611686018427387904
  ·go_wp2;go_ret;exact⟨by simp[z,d],rfl⟩
  ·go_wp2;go_ret;exact⟨by simp[d],rfl⟩
 ·have e:decide (1<=v/\v<=4611686018427387904)=false:=D2 λh=>z h.1;rw[e];go_wp2;go_ret;exact⟨rfl,rfl⟩
section
variable {w:World} {B:Nat}
def T1(w:World)(nm:List UInt8)(hl:nm.length<=281474976710656)(he:HU w)(hL:Lets B w):
 Af 97 #[.string ⟨nm.toArray⟩] w (Aj (.tuple #[A0 (Bg nm).1,A0 (Bg nm).2]) λw'=>A3 Ab w w'):=by
 have aR:Hid (∀(wr:World) (k:Nat),Af 132 #[.string ⟨nm.toArray⟩,.string ⟨(D9 k).toArray⟩] wr (Aj (.string ⟨(Lib.trimPrefix nm (D9 k)).toArray⟩) λw'=>w'=wr)):=λwr k=>by
  have:=Tryz.strings_TrimPrefix ⟨nm.toArray⟩ ⟨(D9 k).toArray⟩ wr;simpa using this
 have aU:Hid (∀wr:World,A3 Ab w wr->∀k:Nat,1<=k->k<=4->A7 wr 0 k (.string ⟨(D9 k).toArray⟩)):=λwr d k h1 h2=>((hL.aM d).2 wr (Nv _ _)).1 k h1 h2
 have aT:Hid (∀wr:World,A3 Ab w wr->∀k:Nat,_):=λwr d k=>A3l wr (Lib.trimPrefix nm (D9 k)) (AR (Lib.trimPrefix_le _ _) hl) (he.aM d);have aS:Hid (∀(wr:World) (k:Nat) (v:Int),A3 Ab w wr->1<=k->k<=4->isNum v=decide ((k:Int)=1\/(k:Int)=2)->Af 134 #[A0 k,A0 v] wr λe aP=>e=.returned (.string ⟨(BP k v).toArray⟩)/\A3 Ab wr aP):=λwr k v d h1 h2 h3=>by
  by_cases hk:k=1\/k=2
  ·rw[CE (by omega)]at h3;unfold isNum at h3;have hv:=I8 h3;have hn:=HH (n:=v) (by omega) hv.2;exact Mm wr k ⟨h1,h2⟩ ⟨by omega,by omega⟩ hn.2.2 (hL.aM d)
  ·(have e:BP k v=D9 k:=by unfold BP;rw[Ae (by omega)]);rw[e];refine(Tb wr k (by omega) (D9 k) v (((hL.aM d).2 wr (Nv _ _)).1 k h1 h2)).mono ?_;rintro e w'⟨rfl,rfl⟩;exact⟨rfl,A3.I _ _⟩
 obtain⟨R,hR⟩:∃R,Bg nm=R:=⟨_,rfl⟩;have aN:Hid (FZ nm 1=R):=by rw[T9];exact hR
 rw[hR]
 go_enter func97,ntmps97
 go_wp2;go_loopw [4,5,6] (λiv _ _ wr=>∃k:Nat,1<=k/\k<=5/\iv=A0 k/\Hid (A3 Ab w wr)/\Hid (FZ nm k=R)) (λiv _ _ _=>5-(intOf iv).toNat)
 case atStart=>exact⟨1,by omega,by omega,rfl,A3.I _ _,aN.o⟩
 case round=>
  obtain⟨k,I,hk2,rfl,d,W⟩:=hrel;by_cases hk:k<5
  ·have ck:=aU.o wr d.o k I (by omega);have aI:=A1 (aR.o wr k);have aD:=A1 (aT.o wr d.o k);have hk0:=C2 k;(have hk5:(k:Int)<5:=by omega);obtain⟨tr,aF⟩:∃tr,Lib.trimPrefix nm (D9 k)=tr:=⟨_,rfl⟩;have aO:=A1 aF;rw[aF]at aI aD;go_wp2_with (first|(go_at_call 132;refine aI.m ?_;rintro e w1⟨rfl,rfl⟩)|(go_at_call 131;fail));refine aD.m ?_;rintro e w1⟨v,er,rfl,hv,aK⟩;have L:=ZH (k:=k) ⟨I,by omega⟩ (by rw[aO.o];exact hv);have z:Hid (A3 Ab w w1):=d.o.tr aK;have O:=A1 (aS.o w1 k v z.o I (by omega));obtain⟨nb,aH⟩:∃nb,isNum v=nb:=⟨_,rfl⟩;obtain⟨kb,aG⟩:∃kb,decide ((k:Int)=1\/(k:Int)=2)=kb:=⟨_,rfl⟩;rw[aH,aG]at L O;(have aQ:Hid (∀wr,Af 128 #[A0 v] wr (Aj (.bool nb) λw'=>wr=w')):=λwr=>by rw[<-aH];exact TF wr v);(have aJ:Hid (∀wr,Af 133 #[A0 k] wr (Aj (.bool kb) λw'=>wr=w')):=λwr=>by rw[<-aG];exact OV wr k);generalize hn2:BP k v=n2 at L O;have H:=A1 L;(have E:Hid (¬(nb=kb/\n2=nm)->FZ nm (k+1)=R):=λh=>by have:=H.o;rw[Ae h]at this;rw[<-this];exact W.o);(have aL:Hid (nb=kb/\n2=nm->R=((k:Int),v)):=λh=>by have:=H.o;rw[Ai h]at this;rw[<-W.o];exact this);by_cases hb:nb=kb
   ·subst hb;have aM:(nb==nb)=true:=UN nb;have aE:=A1 (O.o rfl);by_cases h3:n2=nm
    ·subst h3;have aB:=aL.o ⟨rfl,rfl⟩;subst aB;have hb:=UN n2;go_wp2_with (first|(go_at_call 128;refine(aQ.o _).mono ?_;rintro e w2⟨rfl,rfl⟩)|(go_at_call 133;refine(aJ.o _).mono ?_;rintro e w2⟨rfl,rfl⟩)|(go_at_call 134;refine aE.m ?_;rintro e w2⟨rfl,aA⟩;have Y:=A1 aA));go_ret2;exact⟨rfl,z.o.tr Y.o⟩
    ·have hb:(n2==nm)=false:=Ea.2 h3;have hN:=A1 (E.o λh=>h3 h.2);go_wp2_with (first|(go_at_call 128;refine(aQ.o _).mono ?_;rintro e w2⟨rfl,rfl⟩)|(go_at_call 133;refine(aJ.o _).mono ?_;rintro e w2⟨rfl,rfl⟩)|(go_at_call 134;refine aE.m ?_;rintro e w2⟨rfl,aA⟩;have Y:=A1 aA));go_roundw
     case rel=>exact⟨k+1,by omega,by omega,by go_num,z.o.tr Y.o,hN.o⟩
     case measure=>simp[intOf];omega
   ·have hN:=A1 (E.o λh=>hb h.1);have aM:(nb==kb)=false:=Ea.2 hb;go_wp2_with (first|(go_at_call 128;refine(aQ.o _).mono ?_;rintro e w2⟨rfl,rfl⟩)|(go_at_call 133;refine(aJ.o _).mono ?_;rintro e w2⟨rfl,rfl⟩));go_roundw
    case rel=>exact⟨k+1,by omega,by omega,by go_num,z.o,hN.o⟩
    case measure=>simp[intOf];omega
  ·(obtain rfl:k=5:=by omega);(have aB:R=(0,0):=by rw[<-W.o,T5]);subst aB;go_wp2;go_ret2;exact⟨rfl,d.o⟩
end
end
section
open Go.RowKit
def AT(s:Nat)(l:Bs):Bs:=l++Cd (AW s l)
def PD.ad(P:PD)(nm:ByteArray)(s:Nat)(l:Bs):Bool×Int×PD:=
 (Hb P.D P.F nm (AT s l),(P.an nm (AT s l)).1,(P.an nm (AT s l)).2)
def PD.aI(P:PD)(nm:Bs)(s:Nat)(l:Bs):Int×PD:=
 if (P.ak (A9 nm)).1≠0 then P.ak (A9 nm) else
 if ((P.ak (A9 nm)).2.ad (A9 nm) s l).2.1≠0 then ((P.ak (A9 nm)).2.ad (A9 nm) s l).2 else
 ((P.ak (A9 nm)).2.ad (A9 nm) s l).2.2.ae (A9 nm)
def PD.Cp(P:PD)(nm:Bs):Bs×Int:=DQ P.D P.F (A9 nm)
def HG(s:Nat)(t:Bs):Option Bs:=
 if t.length<4 then none else if Cd (AW s (t.take (t.length-4)))=t.drop (t.length-4) then some (t.take (t.length-4)) else none
def PD.a1(P:PD)(nm:Bs):Bs×Int:=
 if (P.Cp nm).2≠0 then ([],(P.Cp nm).2) else match HG (AH nm) (P.Cp nm).1 with
 | some d=>(d,0)
 | none=>([],7)
def Gh:Nat->Bs->List Int
 | 0,_=>[]
 | k+1,l=>if l.length<8 then [] else BM l::Gh k (l.drop 8)
def Ew(l:Bs):List Int:=Gh l.length l
def Cz{α:Type}(cmp:α->α->Int):List α->Bool
 | []=>true
 | [_]=>true
 | x::y::r=>decide (cmp x y<0)&&Cz cmp (y::r)
def Cj(x y:Int):Int:=if x<y then -1 else if y<x then 1 else 0
structure Ix where
 B8:Int
 segs:List Int
def indexOf(d:Bs×Int):Option Ix:=
 if d.2=8 then some ⟨1,[]⟩ else
 if d.2≠0\/Ew d.1=[]\/d.1.length≠(Ew d.1).length*8 then none else
 if (Ew d.1).all isNum=false then none else
 if Cz Cj (Ew d.1).tail then some ⟨(Ew d.1).headD 0,(Ew d.1).tail⟩ else none
def PD.a8(P:PD):Option Ix:=indexOf (P.a1 AL)
def Ci(d:Int)(segs:List Int):Bs:=AS d++segs.flatMap AS
def PD.ag(P:PD)(d:Int)(segs:List Int):Int×PD:=
 if (P.aI Bo (AH AL) (Ci d segs)).1≠0 then P.aI Bo (AH AL) (Ci d segs) else
 (P.aI Bo (AH AL) (Ci d segs)).2.aO (A9 Bo) (A9 AL)
def Cf(l:List Pu):Bs:=l.flatMap λp=>Bb p.1 p.2.1 p.2.2
def PD.aK(P:PD)(n:Int)(l:List Pu):Int×PD:=P.aI (AJ n) (AH (AJ n)) (Cf l)
def Co(p q:Pu):Int:=if Cj p.1 q.1≠0 then Cj p.1 q.1 else Cj p.2.1 q.2.1
def Me(l:Bs):Pu:=(((l.headD 0).toNat:Int),BM (l.drop 1),BM (l.drop 9))
def EC:Nat->Bs->Option (List Pu×Bs)
 | 0,l=>some ([],l)
 | k+1,l=>if l.length<17 then some ([],l) else
  if (l.headD 0).toNat<8 then (EC k (l.drop 17)).map λr=>(Me l::r.1,r.2) else none
def IG(d:Bs×Int):Option (List Pu):=
 if d.2≠0 then none else match EC d.1.length d.1 with
 | none=>none
 | some (l,r)=>if r=[]/\Cz Co l=true then some l else none
def PD.Cy(P:PD)(n:Int):Option (List Pu):=IG (P.a1 (AJ n))
def PD.segs(P:PD):List Int->Option (List (Int×List Pu))
 | []=>some []
 | n::r=>match P.Cy n with
  | none=>none
  | some l=>(P.segs r).map λx=>(n,l):: x
structure Jn where
 Am:List Int
 Aa:Int
 puts:Int
 AB:Option (Int×Nat)
def PD.aX(P:PD)(n:Int)(ahead:Int):List Pu×Int:=Gz P.D P.F (Ah n) ahead
def PD.bp(P:PD):List Int->List Pu->List Pu×Int
 | [],acc=>(acc,0)
 | n::r,acc=>if (P.aX n acc.length).2≠0 then ([],(P.aX n acc.length).2) else P.bp r (acc++(P.aX n acc.length).1)
def PD.puts(P:PD)(d:List Int):List Pu×Int:=P.bp d []
def PD.Ay(P:PD):List Bs:=(dList P.D.A4).map λb=>b.data.toList
def BS(d:Int)(l:List Bs):List Int:=l.filterMap λnm=>if (Bg nm).1=1/\d<=(Bg nm).2 then some (Bg nm).2 else none
def PD.bQ(P:PD)(d:Int):Jn:=⟨BS d P.Ay,(BS d P.Ay).getLastD (d-1),(P.puts (BS d P.Ay)).1.length,none⟩
def Jn.ax(J:Jn)(P:PD):Int×Jn×PD:=
 if (P.ak (A9 (Ah (J.Aa+1)))).1≠0 then ((P.ak (A9 (Ah (J.Aa+1)))).1,J,(P.ak (A9 (Ah (J.Aa+1)))).2) else
 let a:=(P.ak (A9 (Ah (J.Aa+1)))).2.ad (A9 (Ah (J.Aa+1))) (AH (Ah (J.Aa+1))) (AS J.puts)
 if a.2.1≠0 then (a.2.1,J,a.2.2) else
 (0,⟨J.Am++[J.Aa+1],J.Aa+1,J.puts,some (J.Aa+1,AW (AH (Ah (J.Aa+1))) (AS J.puts))⟩,a.2.2)
def Jn.aw(J:Jn)(P:PD)(p:Pu):Bool×Int×Jn×PD:=match J.AB with
 | none=>(false,0,J,P)
 | some (n,s)=>
  let a:=P.ad (A9 (Ah n)) s (Bb p.1 p.2.1 p.2.2)
  (a.1,a.2.1,{J with AB:=some (n,AW s (Bb p.1 p.2.1 p.2.2))},a.2.2)
def Jn.ad(J:Jn)(P:PD)(p:Pu):Bool×Int×Jn×PD:=
 if J.AB=none then
  (if (J.ax P).1≠0 then (false,(J.ax P).1,(J.ax P).2.1,(J.ax P).2.2) else (J.ax P).2.1.aw (J.ax P).2.2 p)
 else J.aw P p
def Jn.ae(J:Jn)(P:PD):Int×PD:=match J.AB with
 | none=>(0,P)
 | some (n,_)=>P.ae (A9 (Ah n))
structure Ar where
 ix:Ix
 j:Jn
 Aa:Int
 AQ:List Bs
def Ar.Ay(A:Ar):List Bs:=AL::A.j.Am.map Ah++A.ix.segs.map AJ
def Ar.aY(A:Ar)(P:PD):List Bs:=P.Ay.filter λnm=>decide (nm∈A.Ay)
def Ar.aV(A:Ar)(P:PD):List Bs:=P.Ay.filter λnm=>!decide (nm∈A.Ay)
def PD.az:List Bs->PD->Int×PD
 | [],P=>(0,P)
 | nm::r,P=>if (P.ae (A9 nm)).1≠0 then P.ae (A9 nm) else PD.az r (P.ae (A9 nm)).2
def PD.aL:List Bs->PD->Int×PD
 | [],P=>(0,P)
 | nm::r,P=>if (P.aH (A9 nm)).1≠0 then P.aH (A9 nm) else PD.aL r (P.aH (A9 nm)).2
def Ar.C(A:Ar)(P:PD):Int×Ar×PD:=
 if (P.az A.AQ).1≠0 then ((P.az A.AQ).1,A,(P.az A.AQ).2) else (0,{A with AQ:=[]},(P.az A.AQ).2)
def Ar.av(A:Ar)(P:PD):Int×PD:=P.aL (A.aV P)
def Ar.ad(A:Ar)(P:PD)(p:Pu):Bool×Int×Ar×PD:=
 if (A.C P).1≠0 then (false,(A.C P).1,(A.C P).2.1,(A.C P).2.2) else
 let r:=(A.C P).2.1.j.ad (A.C P).2.2 p
 (r.1,r.2.1,{ (A.C P).2.1 with j:=r.2.2.1},r.2.2.2)
def Ar.ae(A:Ar)(P:PD):Int×Ar×PD:=
 if (A.C P).1≠0 then A.C P else
 if ((A.C P).2.1.j.ae (A.C P).2.2).1≠0 then (((A.C P).2.1.j.ae (A.C P).2.2).1,(A.C P).2.1,((A.C P).2.1.j.ae (A.C P).2.2).2) else
 ((((A.C P).2.1.j.ae (A.C P).2.2).2.aJ).1,(A.C P).2.1,(((A.C P).2.1.j.ae (A.C P).2.2).2.aJ).2)
def PD.ah:List (List Pu)->Int->List Int->PD->Int×Int×List Int×PD
 | [],last,kept,P=>(0,last,kept,P)
 | l::r,last,kept,P=>if (P.aK (last+1) l).1≠0 then ((P.aK (last+1) l).1,last+1,kept,(P.aK (last+1) l).2) else
  PD.ah r (last+1) (kept++[last+1]) (P.aK (last+1) l).2
def Ar.ag(A:Ar)(P:PD)(segs:List Int):Int×Ar×PD:=
 if A.ix.B8=A.j.Aa+1/\A.ix.segs=segs then (0,A,P) else
 if (P.ag (A.j.Aa+1) segs).1≠0 then ((P.ag (A.j.Aa+1) segs).1,A,(P.ag (A.j.Aa+1) segs).2) else
 (0,{A with ix:=⟨A.j.Aa+1,segs⟩,j:=⟨[],A.j.Aa,0,none⟩},(P.ag (A.j.Aa+1) segs).2)
def Ar.aZ(A:Ar)(P:PD):Int×Ar×PD:=
 if (A.av P).1≠0 then ((A.av P).1,A,(A.av P).2) else ((A.av P).2.aJ.1,A,(A.av P).2.aJ.2)
def Ar.aG(A:Ar)(P:PD)(kept:List Int)(fresh:List (List Pu)):Int×Ar×PD:=
 let a:=A.C P
 if a.1≠0 then a else
 let b:=a.2.1.av a.2.2
 if b.1≠0 then (b.1,a.2.1,b.2) else
 let c:=PD.ah fresh a.2.1.Aa kept b.2
 if c.1≠0 then (c.1,{a.2.1 with Aa:=c.2.1},c.2.2.2) else
 let d:=({a.2.1 with Aa:=c.2.1}:Ar).ag c.2.2.2 c.2.2.1
 if d.1≠0 then d else d.2.1.aZ d.2.2
def BD(t len:Int):Int:=t/len
def AA(len:Int)(p q:Pu):Bool:=
 decide (BD p.2.1 len<BD q.2.1 len\/BD p.2.1 len=BD q.2.1 len/\(p.1<q.1\/p.1=q.1/\p.2.1<q.2.1))
def F5{α:Type}(lt:α->α->Bool)(x:α):List α->List α
 | []=>[x]
 | y::r=>if lt x y then x::y::r else y::F5 lt x r
def E6{α:Type}(lt:α->α->Bool)(l:List α):List α:=l.foldl (λs x=>F5 lt x s) []
def EB(len:Int)(ws:List (List Pu))(d:Bool)(h p:Pu):List (List Pu):=
 let ws1:=if d\/BD p.2.1 len≠BD h.2.1 len then ws++[[]] else ws
 let last:=ws1.getLastD []
 if last≠[]/\Co p (last.getLastD (0,0,0))=0 then ws1.dropLast++[last.dropLast++[p]] else ws1.dropLast++[last++[p]]
def Ei(len:Int):List Pu->Bool->Pu->List (List Pu)->List (List Pu)
 | [],_,_,ws=>ws
 | p::r,first,prev,ws=>Ei len r false p (EB len ws first prev p)
def BA(len:Int)(l:List Pu):List (List Pu):=Ei len (E6 (AA len) l) true (0,0,0) []
def Ar.aS(A:Ar)(P:PD)(Al:Int):Int×Ar×PD:=
 if (P.puts A.j.Am).2≠0 then ((P.puts A.j.Am).2,A,P) else A.aG P A.ix.segs (BA Al (P.puts A.j.Am).1)
def BL(segs:List (Int×List Pu))(oldest:Int):List (List Pu)->List Int×List (List Pu)
 | []=>([],[])
 | l::r=>if l.any (λp=>decide (oldest<=p.2.1))=false then BL segs oldest r else
  match segs.find? λs=>decide (s.2=l) with
  | none=>((BL segs oldest r).1,l::(BL segs oldest r).2)
  | some s=>(s.1::(BL segs oldest r).1,(BL segs oldest r).2)
def Ar.aQ(A:Ar)(P:PD)(Al oldest:Int):Int×Ar×PD:=match P.segs A.ix.segs with
 | none=>(7,A,P)
 | some segs=>if (P.puts A.j.Am).2≠0 then ((P.puts A.j.Am).2,A,P) else
  let k:=BL segs oldest (BA Al (segs.flatMap (·.2)++(P.puts A.j.Am).1))
  A.aG P (k.1.mergeSort λx y=>decide (x<=y)) k.2
def Ar.aU(P:PD):Except Int (Ar×List Pu):=match P.a8 with
 | none=>.error 7
 | some ix=>if P.Ay.any (λnm=>decide ((Bg nm).1=0)) then .error 7 else
  match P.segs ix.segs with
  | none=>.error 7
  | some segs=>if (P.puts (BS ix.B8 P.Ay)).2≠0 then .error (P.puts (BS ix.B8 P.Ay)).2 else
   let A:Ar:=⟨ix,P.bQ ix.B8,(P.Ay.filterMap λnm=>if (Bg nm).1=2 then some (Bg nm).2 else none).getLastD 0,[]⟩
   .ok ({A with AQ:=A.aY P},segs.flatMap (·.2)++(P.puts (BS ix.B8 P.Ay)).1)
def Aq(w:World)(Ft:Nat->Prop)(w':World)(R:World->(Nat->Prop)->Prop):Prop:=
 A3 Ft w w'/\∃d,R w' d/\(∀k,d k->k<w'.heap.size)/\∀k,d k->Ft k\/w.heap.size<=k
def Aq.Aw{w H w2:World}{Ft:Nat->Prop}{R aA:World->(Nat->Prop)->Prop}(h:Aq w Ft H R)(h2:∀d,R H d->(∀k,d k->k<H.heap.size)->(∀k,d k->Ft k\/w.heap.size<=k)->Aq H d w2 aA):Aq w Ft w2 aA:=by
 obtain⟨hc,d,hr,z,Y⟩:=h;obtain⟨O,L,I,E,W⟩:=h2 d hr z Y;refine⟨hc.Aw O λx hx z=>(Y x hx).resolve_right (by omega),L,I,E,λk hk=>?_⟩;rcases W k hk with h|h
 ·exact Y k h
 ·exact .inr (AR hc.Ao h)
def Aq.a6{w z w':World}{Ft:Nat->Prop}{R:World->(Nat->Prop)->Prop}(h:Aq z Ft w' R)(E:A3 Ab w z):Aq w Ft w' R:=by
 obtain⟨O,d,I,W,L⟩:=h;exact⟨(E.aa λ_ _ h=>h.elim).tr O,d,I,W,λk H=>(L k H).imp id λh=>AR E.Ao h⟩
def Aq.fA{w w':World}{Ft:Nat->Prop}{R z:World->(Nat->Prop)->Prop}(h:Aq w Ft w' R)(O:∀d,(∀k,d k->k<w'.heap.size)->R w' d->z w' d):Aq w Ft w' z:=by
 obtain⟨L,d,H,E,I⟩:=h;exact⟨L,d,O d E H,E,I⟩
def Aq.aW{w w':World}{Ft d:Nat->Prop}{R:World->(Nat->Prop)->Prop}(h:Aq w Ft w' R)(E:∀k,Ft k->d k):Aq w d w' R:=by
 obtain⟨O,z,I,W,L⟩:=h;exact⟨O.aa λx _ Y=>E x Y,z,I,W,λk H=>(L k H).imp (E k) id⟩
def Bk(w:World)(b:Nat)(P:PD)(Ft:Nat->Prop):Prop:=B3 w b P.D P.F Ft
def Bk.aP{w w':World}{b:Nat}{P:PD}{Ft:Nat->Prop}(h:Bk w b P Ft)(d:G4 Ft w w'):Bk w' b P Ft:=B3.aP h d
def Dt(w:World)(size:Nat)(v:Value)(n:Nat)(xs:List Value):Prop:=
 xs.length=n*size/\∃a cap,v=.slice a n cap/\n<=cap/\cap<=maxLen/\(∀g,v.ownBlock=some g->g<w.heap.size)/\
  ∀j u,xs[j]?=some u->∃g o,a=some ⟨g,o,none⟩/\w.cell? ⟨g,o+j,none⟩=some u
def Dt.aP{w w':World}{size n:Nat}{v:Value}{xs:List Value}(h:Dt w size v n xs)(z:∀g,v.ownBlock=some g->w'.heap[g]?=w.heap[g]?):Dt w' size v n xs:=by
 obtain⟨L,a,cap,rfl,H,Y,I,O⟩:=h;refine⟨L,a,cap,rfl,H,Y,λg d=>?_,λj u hj=>?_⟩
 ·have:=z g d;have W:=I g d;rcases F9 g w'.heap.size with h|h
  ·exact h
  ·rw[Nw h]at this;rw[A4E W]at this;cases this
 ·obtain⟨g,o,rfl,E⟩:=O j u hj;refine⟨g,o,rfl,?_⟩;have:=z g rfl;unfold World.cell? at E ⊢;rw[this];exact E
def Dt.Ak{S:Nat->Prop}{w w':World}{size n:Nat}{v:Value}{xs:List Value}(h:Dt w size v n xs)(H:A3 S w w')(E:∀g,v.ownBlock=some g->¬S g):Dt w' size v n xs:=by
 refine h.aP λg d=>H.Ap g ?_ (E g d);obtain⟨_,a,cap,rfl,_,_,z,_⟩:=h;exact z g d
def Dt.lt{w:World}{size n:Nat}{v:Value}{xs:List Value}(h:Dt w size v n xs){g:Nat}(z:v.ownBlock=some g):g<w.heap.size:=by
 obtain⟨_,a,cap,rfl,_,_,d,_⟩:=h;exact d g z
def Dt.dx{w:World}{d e size n:Nat}{v:Value}{xs:List Value}(h:w.ownsRow d e size v n xs):Dt w size v n xs:=by
 obtain⟨a,cap,rfl,W,H,h3,O,Y⟩:=B9 h;refine⟨h.1,a,cap,rfl,W,H,λg L=>AI h L,λj u z=>?_⟩;cases ha:a with
 | none=>
  subst ha;have I:=(O rfl).1;have E:=h.1;rw[I]at E;have:xs=[]:=by simpa using E
  rw[this]at z;simp at z
 | some x=>
  subst ha;obtain⟨g,rfl⟩:=Y x rfl;exact⟨g,0,rfl,by simpa using BF h rfl z⟩
def Dt.Cg{w:World}{size n:Nat}{v:Value}{xs:List Value}(h:Dt w size v n xs):∃a cap,v=.slice a n cap/\n<=cap/\cap<=maxLen:=by
 obtain⟨_,a,cap,z,d,E,_⟩:=h;exact⟨a,cap,z,d,E⟩
def Dt.bT{w:World}{size:Nat}:Dt w size (.slice none 0 0) 0 []:=
 ⟨by simp,none,0,rfl,As _,by decide,λg h=>by simp[Value.ownBlock]at h,λj u d=>by simp at d⟩
def DO(l:List Int):List Value:=l.map λn=>A0 n
def TJ(l:List Int):(DO l).length=l.length:=by simp[DO]
def L6(a b:List Int):DO (a++b)=DO a++DO b:=by simp[DO]
def OX(l:List Int)(k:Nat)(h:k<l.length):(DO l)[k]?=some (A0 (l[k]'h)):=by simp[DO,h]
def JP(l:List Int):∀u∈DO l,u.oneCell'=true:=by
 intro u hu;simp[DO]at hu;obtain⟨x,_,rfl⟩:=hu;rfl
def D7(w:World)(v:Value)(l:List Int):Prop:=Dt w 1 v l.length (DO l)
def DD(w:World)(v:Value)(l:List Int):Prop:=w.ownsRow 0 3 1 v l.length (DO l)
def DD.rd{w:World}{v:Value}{l:List Int}(h:DD w v l):D7 w v l:=Dt.dx h
def Dl(l:List Bs):List Value:=l.map λx=>.string ⟨x.toArray⟩
def MT(a b:List Bs):Dl (a++b)=Dl a++Dl b:=by simp[Dl]
def A3d(l:List Bs)(k:Nat)(h:k<l.length):(Dl l)[k]?=some (.string ⟨(l[k]'h).toArray⟩):=by simp[Dl,h]
def MS(l:List Bs):∀u∈Dl l,u.oneCell'=true:=by
 intro u hu;simp[Dl]at hu;obtain⟨x,_,rfl⟩:=hu;rfl
def Xf(l:List ByteArray):FG l=Dl (l.map λb=>b.data.toList):=by simp[FG,Dl]
def GG(w:World)(v:Value)(l:List Bs):Prop:=Dt w 1 v l.length (Dl l)
def Dp(w:World)(v:Value)(l:List Bs):Prop:=w.ownsRow 0 9 1 v l.length (Dl l)
def Dp.rd{w:World}{v:Value}{l:List Bs}(h:Dp w v l):GG w v l:=Dt.dx h
def Hu(w:World)(v:Value)(l:List Pu):Prop:=Dt w 3 v l.length (Ba l)
def AZ.rd{w:World}{v:Value}{l:List Pu}(h:AZ w v l):Hu w v l:=Dt.dx h
def D7.at{w:World}{a:Option Addr}{n cap:Nat}{l:List Int}(h:D7 w (.slice a n cap) l)(k:Nat)(d:k<l.length):∃g o,a=some (Ac g o)/\A7 w g (o+k) (A0 (l[k]'d)):=by
 obtain⟨_,a',cap',e,_,_,_,z⟩:=h;cases e;exact z k _ (OX l k d)
def Hu.at{w:World}{a:Option Addr}{n cap:Nat}{l:List Pu}(h:Hu w (.slice a n cap) l)(k:Nat)(d:k<l.length):∃g o,a=some (Ac g o)/\g<w.heap.size/\A7 w g (o+k*3) (A0 (l[k]'d).1)/\A7 w g (o+k*3+1) (A0 (l[k]'d).2.1)/\A7 w g (o+k*3+2) (A0 (l[k]'d).2.2):=by
 obtain⟨_,a',cap',e,_,_,E,z⟩:=h;cases e;obtain⟨H,W,I⟩:=Hi l k d;obtain⟨g,o,rfl,c1⟩:=z _ _ H;obtain⟨L,O,e,c2⟩:=z _ _ W;cases e;obtain⟨L,O,e,c3⟩:=z _ _ I;cases e;exact⟨g,o,rfl,E g rfl,c1,c2,c3⟩
def GG.at{w:World}{a:Option Addr}{n cap:Nat}{l:List Bs}(h:GG w (.slice a n cap) l)(k:Nat)(d:k<l.length):∃g o,a=some (Ac g o)/\A7 w g (o+k) (.string ⟨(l[k]'d).toArray⟩):=by
 obtain⟨_,a',cap',e,_,_,_,z⟩:=h;cases e;exact z k _ (A3d l k d)
structure CU (a c m:Nat):Prop where
 a:a<=1073741824
 c:c<=1000000000000
 m:m<=4294967296
def Fit.ew{P:PD}{a c m:Nat}(h:Fit P a c m)(d:CU a c m):B6 P.F P.D.A4<=4611686018427387904:=
 AR h.dM (AR (N9 d.a d.m) (by decide))
def K0{P:PD}{a c m:Nat}(h:Fit P a c m)(nm:ByteArray):(CH P.D P.F nm).1<=m:=by
 unfold CH;cases hx:lookup P.D.A4 nm with
 | none=>simp
 | some f=>have:=h.B5 f (G0 hx);simp;omega
section
variable {w:World} {b fb:Nat} {P:PD} {Ft:Nat->Prop} {T:TypeId} {name:ByteArray} {s a c m:Nat}
def A2l(H:Bd w fb T (A5 b) name s)(h:Bk w b P Ft)(E:Fit P a c m)(z:CU a c m):
 Af 240 #[A5 fb] w (Aj (A0 (P.ak name).1) λw'=>Aq w Ft w' (λw' d=>Bk w' b (P.ak name).2 d)):=
 Um H h P.D.AU P.D.cz (by have:=E.A4;have:=E.Ak;have:=z.a;have:=z.c;omega)
def QO(z:Bd w fb T (A5 b) name s)(h:Bk w b P Ft):
 Af 164 #[A5 fb] w (Aj (A0 (P.ae name).1) λw'=>Aq w Ft w' (λw' d=>Bk w' b (P.ae name).2 d)):=WS z h
def Jm(w:World)(Ft:Nat->Prop)(fb:Nat)(w':World)(b:Nat)(P:PD):Prop:=Kq w Ft fb w' b P.D P.F
def A3W(z:Bd w fb T (A5 b) name s)(I:s<4294967296)(h:Bk w b P Ft)(E:∀k,Ft k->k<w.heap.size)(O:¬Ft fb)(l:Bs)(hll:l.length<=4294967296)(d:Fit P a c m)(H:CU a c m):
 Af 237 #[A5 fb,.string ⟨l.toArray⟩] w (Aj (.tuple #[.bool (P.ad name s l).1,A0 (P.ad name s l).2.1]) λw'=>Bd w' fb T (A5 b) name (AW s l)/\Jm w Ft fb w' b (P.ad name s l).2.2):=by
 have hm:=H.m;have hp:(AT s l).length=l.length+4:=by simp[AT,Hh]
 have L:=d.an name (AT s l);have hz:=K0 L name;have hz2:=K0 d name
 exact addF z I h E O l d.AG (d.ew H) d.Bv (λf z=>by have:=d.B5 f (G0 z);omega) (by omega) ⟨by
  show (CH (P.an name (AT s l)).2.D (P.an name (AT s l)).2.F name).1<=_;omega,by omega⟩
def Qk(nm l:Bs)(hs:s<4294967296)(h:Bk w b P Ft)(aA:∀k,Ft k->k<w.heap.size)(aS:l.length<=4294967296)(hF:Fit P a c m)(hl:CU (a+1) (c+1) m):
 Af 196 #[.agg #[A5 b,.string ⟨nm.toArray⟩,.int .u32 s],.string ⟨l.toArray⟩] w (Aj (A0 (P.aI nm s l).1) λw'=>Aq w Ft w' (λw' aD=>Bk w' b (P.aI nm s l).2 aD)):=by
 have aL:CU a c m:=⟨by have:=hl.a;omega,by have:=hl.c;omega,hl.m⟩;have aH:Bd (w.aC #[A5 b,.string (A9 nm),.int .u32 s] 160) w.heap.size 160 (A5 b) (A9 nm) s:=BO w _;have k0:A3 Ab w (w.aC #[A5 b,.string (A9 nm),.int .u32 s] 160):=(A3.I _ w).ai _;have h0:Bk (w.aC #[A5 b,.string (A9 nm),.int .u32 s] 160) b P Ft:=B3.ay h aA k0;have CR:=A1 (A2l aH h0 hF aL);have AD:Hid (∀H,Bd H w.heap.size 160 (A5 b) (A9 nm) s->∀d,Bk H b (P.ak (A9 nm)).2 d->(∀k,d k->k<H.heap.size)->¬d w.heap.size->_):=λH q1 d q2 q3 q4=>A3W q1 hs q2 q3 q4 l aS (hF.ak (A9 nm)) hl;have aE:Hid (∀H,Bd H w.heap.size 160 (A5 b) (A9 nm) (AW s l)->∀d,Bk H b ((P.ak (A9 nm)).2.ad (A9 nm) s l).2.2 d->_):=λH q1 d q2=>QO q1 q2;have aR:=A1 aH;have a0:=A1 k0;have aG:=A1 aA
 have W:Hid (P.aI nm s l=if (P.ak (A9 nm)).1≠0 then P.ak (A9 nm) else
  if ((P.ak (A9 nm)).2.ad (A9 nm) s l).2.1≠0 then ((P.ak (A9 nm)).2.ad (A9 nm) s l).2 else
  ((P.ak (A9 nm)).2.ad (A9 nm) s l).2.2.ae (A9 nm)):=rfl
 generalize hR:P.aI nm s l=R at W ⊢;generalize hC:P.ak (A9 nm)=C at W CR AD aE;generalize hD:C.2.ad (A9 nm) s l=D at W AD aE;generalize hE:D.2.2.ae (A9 nm)=E at W aE
 go_enter func196,ntmps196
 go_wp2_with (fail);refine CR.m ?_;rintro e H⟨rfl,aJ,d,q2,q3,q4⟩;have aI:=A1 (aR.o.aj aJ λh=>G6 _ (aG.o _ h));have aV:Hid (A3 (λk=>Ft k) w H):=(a0.o.aa λ_ _ h=>h.elim).tr aJ;have aQ:Hid (w.heap.size<H.heap.size):=aI.o.lt;have a5:=A1 q2;have aZ:=A1 q3;have aK:Hid (∀k,d k->Ft k\/w.heap.size<k):=λk L=>(q4 k L).imp id λh=>by simp at h;omega
 have aY:Hid (¬d w.heap.size):=λL=>(aK.o _ L).elim (λh=>G6 _ (aG.o _ h)) λh=>G6 _ h
 have aF:=A1 (AD.o H aI.o d q2 q3 aY.o);by_cases hc:C.1=0
 case neg=>
  have hR:R=C:=by rw[W.o,Ai hc]
  have hb:(C.1 !=0)=true:=by simpa using hc
  go_wp2;go_ret;subst hR;exact⟨rfl,aV.o,d,a5.o,aZ.o,λk L=>(aK.o k L).imp id EL⟩
 case pos=>
 have hb:(C.1 !=0)=false:=by simpa using hc
 have aW:Hid (R=if D.2.1≠0 then D.2 else E):=by rw[W.o,Ae (by simpa using hc)];rfl
 have aT:∀I,(Bd I w.heap.size 160 (A5 b) (A9 nm) (AW s l)/\Jm H d w.heap.size I b D.2.2)->Hid (A3 (λk=>Ft k) w I/\∃z,Bk I b D.2.2 z/\(∀k,z k->k<I.heap.size)/\(∀k,z k->Ft k\/w.heap.size<k)/\Af 164 #[A5 w.heap.size] I (Aj (A0 E.1) λw'=>Aq I z w' (λw' aD=>Bk w' b E.2 aD))):=by
  rintro I⟨Y,O,z,p2,p3,p4⟩;refine⟨aV.o.Aw O λx hx aA=>hx.elim (λh=>(aK.o x h).resolve_right (by omega)) λh=>by omega,z,p2,p3,λk L=>(p4 k L).elim (λh=>aK.o k h) λh=>.inr (by have:=aQ.o;omega),aE.o I Y z p2⟩
 have aB:=A1 aT;by_cases hd:D.2.1=0
 case neg=>
  have hR:R=D.2:=by rw[aW.o,Ai hd]
  have aO:(D.2.1 !=0)=true:=by simpa using hd
  go_wp2_with (go_at_call 237;refine aF.m ?_;rintro e I⟨rfl,Y,O⟩;have a3:=aB.o I ⟨Y,O⟩);go_ret;subst hR;obtain⟨k2,z,p2,p3,p5,-⟩:=a3.o;exact⟨rfl,k2,z,p2,p3,λk L=>(p5 k L).imp id EL⟩
 case pos=>
 have aO:(D.2.1 !=0)=false:=by simpa using hd
 have hR:R=E:=by rw[aW.o,Ae (by simpa using hd)]
 subst hR;go_wp2_with (fail);refine aF.m ?_;rintro e I⟨rfl,Y,O⟩;obtain⟨k2,z,p2,p3,p5,sy⟩:=(aB.o I ⟨Y,O⟩).o;have aU:=A1 k2;have aX:=A1 p5;have aE:=A1 sy;go_wp2_with (go_at_call 164;refine aE.m ?_;rintro e w3⟨rfl,aP,aM,r2,r3,r4⟩;have aN:=A1 aP;have a1:=A1 r2;have a2:=A1 r3;have a4:=A1 r4);go_ret;exact⟨rfl,aU.o.Aw aN.o λx hx aA=>(aX.o x hx).resolve_right (by omega),aM,a1.o,a2.o,λk L=>(a4.o k L).elim (λh=>(aX.o k h).imp id EL) λh=>.inr (by have:=aU.o.Ao;omega)⟩
end
def Lm{P:PD}{a c m:Nat}(h:Fit P a c m)(nm:Bs):(P.Cp nm).1.length<=m:=by
 unfold PD.Cp DQ;cases hx:lookup P.D.A4 (A9 nm) with
 | none=>simp
 | some f=>exact h.B5 f (G0 hx)
section
variable {w:World} {b:Nat} {P:PD} {Ft:Nat->Prop} {a c m:Nat}
def RZ(nm:Bs)(h:Bk w b P Ft)(H:∀k,Ft k->k<w.heap.size)(hF:Fit P a c m)(hl:CU a c m):
 Af 126 #[.agg #[A5 b,.string ⟨nm.toArray⟩,.int .u32 (AH nm)]] w (Aj (.tuple #[.string ⟨(P.a1 nm).1.toArray⟩,A0 (P.a1 nm).2]) λw'=>A3 Ab w w'):=by
 have aF:=Lm hF nm;have hm:=hl.m;have aD:=Jt nm;obtain⟨s,hs⟩:∃s,AH nm=s:=⟨_,rfl⟩
 have aE:Hid (P.a1 nm=if (P.Cp nm).2≠0 then ([],(P.Cp nm).2) else match HG s (P.Cp nm).1 with
  | some d=>(d,0)
  | none=>([],7)):=by rw[<-hs];rfl
 generalize W:P.a1 nm=R at aE ⊢;rw[hs]at aD ⊢;have aA:Bd (w.aC #[A5 b,.string (A9 nm),.int .u32 s] 160) w.heap.size 160 (A5 b) (A9 nm) s:=BO w _;have k0:A3 Ab w (w.aC #[A5 b,.string (A9 nm),.int .u32 s] 160):=(A3.I _ w).ai _;have aO:=A1 (V4 aA (B3.ay h H k0));obtain⟨x,Y⟩:∃x,P.Cp nm=x:=⟨_,rfl⟩;have I:Hid (Af 166 #[A5 w.heap.size] (w.aC #[A5 b,.string (A9 nm),.int .u32 s] 160) (Aj (.tuple #[.string ⟨x.1.toArray⟩,A0 x.2]) λw'=>A3 Ab (w.aC #[A5 b,.string (A9 nm),.int .u32 s] 160) w')):=by
  rw[<-Y];exact aO.o
 rw[Y]at aE aF;obtain⟨t,ae⟩:=x;dsimp only at aE aF I;have aK:=A1 aA;have aM:=A1 k0;have aI:=A1 aD
 go_enter func126,ntmps126
 by_cases he:ae=0
 case neg=>
  have hb:(ae !=0)=true:=by simpa using he
  have W:R=([],ae):=by rw[aE.o,Ai he]
  subst W;go_wp2_with (go_at_call 166;refine I.m ?_;rintro e z⟨rfl,E⟩;have aH:=A1 E);go_ret2;exact⟨rfl,aM.o.tr aH.o⟩
 case pos=>
 subst he
 have aG:Hid (R=match HG s t with
  | some d=>(d,0)
  | none=>([],7)):=by rw[aE.o,Ae (by simp)];rfl
 have aP:Hid (∀z,Bd z w.heap.size 160 (A5 b) (A9 nm) s->∃(d:Bs) (ok:Bool),R=(if ok then (d,0) else ([],7))/\Af 167 #[A5 w.heap.size,.string ⟨t.toArray⟩] z (Aj (.tuple #[.string ⟨d.toArray⟩,.bool ok]) λw'=>A3 (One w.heap.size) z w')):=λz aL=>by
  by_cases h4:t.length<4
  ·refine⟨[],false,?_,?_⟩
   ·rw[aG.o];unfold HG;rw[Ai h4];rfl
   ·refine(WD z w.heap.size t h4).mono ?_;rintro e w'⟨rfl,rfl⟩;exact⟨rfl,A3.I _ _⟩
  ·refine⟨t.take (t.length-4),decide (Cd (AW s (t.take (t.length-4)))=t.drop (t.length-4)),?_,?_⟩
   ·rw[aG.o];unfold HG;rw[Ae h4];by_cases hq:Cd (AW s (t.take (t.length-4)))=t.drop (t.length-4)
    ·rw[Ai hq,CE hq];rfl
    ·rw[Ae hq,D2 hq];rfl
   ·have:=NI z w.heap.size 160 (A5 b) (A9 nm) s (t.take (t.length-4)) (t.drop (t.length-4)) aL aI.o (by rw[Cw];omega) (by rw[BW];omega);rw[DM]at this;refine this.mono ?_;rintro e w'⟨h1,h2,h3⟩;exact⟨h1,h3⟩
 go_wp2_with (fail);refine I.m ?_;rintro e z⟨rfl,E⟩;obtain⟨d,ok,W,aJ⟩:=aP.o z (aK.o.aj E (λh=>h));have aN:Hid (A3 Ab w z):=aM.o.tr E;have aB:=A1 aJ;cases ok with
 | false=>
  simp only[Qe,C7]at W;subst W;go_wp2_with (go_at_call 167;refine aB.m ?_;rintro e w2⟨rfl,L⟩;have O:=A1 L);go_ret2;exact⟨rfl,aN.o.Aw O.o λx Y H=>by cases Y;omega⟩
 | true=>
  simp only[Ch]at W;subst W;go_wp2_with (go_at_call 167;refine aB.m ?_;rintro e w2⟨rfl,L⟩;have O:=A1 L);go_ret2;exact⟨rfl,aN.o.Aw O.o λx Y H=>by cases Y;omega⟩
end
def Tryz.cY:(Tryz.prog.info? 3).map (λi=>(i.zero,i.size,i.bytes))=some (some (A0 0),1,8):=by kernel_rfl
def A1a{k:Nat}{l:Bs}(h:l.length<8):Gh k l=[]:=by cases k<;>simp[Gh,h]
def A1c(l:Bs): -9223372036854775808<=BM l/\BM l<=9223372036854775807:=by unfold BM wrap64;omega
def A08(w:World)(E:Bs)(hl0:E.length<=4294967296):
 Calls Tryz.prog 127 #[.string ⟨E.toArray⟩] w λe w'=>∃v,e=.returned v/\DD w' v (Ew E)/\(∀g,v.ownBlock=some g->w.heap.size<=g)/\A3 (λ_=>False) w w':=by
 obtain⟨R,hR⟩:∃R,Ew E=R:=⟨_,rfl⟩;have aT:Hid (Gh E.length E=R):=hR;rw[hR];obtain⟨i0,hi,aF,aI,aJ⟩:∃i0,Tryz.prog.info? 3=some i0/\i0.zero=some (.int .i64 0)/\i0.size=1/\i0.bytes=8:=by
  have h:=Tryz.cY;cases hx:Tryz.prog.info? 3 with
  | none=>rw[hx]at h;cases h
  | some i=>rw[hx]at h;simp at h;exact⟨i,rfl,h.1,h.2.1,h.2.2⟩
 go_enter func127,ntmps127
 go_wp2;go_loopw [0,3] (λtv v wr=>∃(l:Bs) (k:Nat) (d:List Int),tv=.string ⟨l.toArray⟩/\d.length*8+l.length<=E.length/\Hid (DD wr v d/\(∀g,v.ownBlock=some g->w.heap.size<=g)/\A3 (λ_=>False) w wr/\l.length<=k/\R=d++Gh k l)) (λtv _ _=>match tv with | .string x=>x.size|_=>0)
 case atStart=>exact⟨E,E.length,[],rfl,by simp,CL _ _ _ _,λg H=>by simp[Value.ownBlock]at H,A3.I _ _,As _,by rw[aT.o];rfl⟩
 case round=>
  obtain⟨l,k,d,rfl,aA,hI⟩:=hrel;have z:(ByteArray.mk l.toArray).size=l.length:=by show l.toArray.size=_;simp
  by_cases h8:l.length<8
  case pos=>
   obtain⟨i1,i2,i3,-,i5⟩:=hI.o;rw[A1a h8,FA]at i5;subst i5;(have aE:¬(8<=(l.length:Int)):=by omega);have aO:=A1 i1;have aS:=A1 i2;have aP:=A1 i3;go_wp2;go_ret;exact⟨_,rfl,aO.o,aS.o,aP.o⟩
  case neg=>
   obtain⟨i1,i2,i3,i4,i5⟩:=hI.o;obtain⟨k,rfl⟩:∃k',k=k'+1:=⟨k-1,by omega⟩;have aH:Hid (R=(d++[BM l])++Gh k (l.drop 8)):=by
    unfold Hid;rw[i5];simp[Gh,h8]
   have L:=A1 (Mt wr l (by omega));have hx:=A1c l;generalize hxe:BM l=x at aH L hx;obtain⟨ap,cp,rfl,hcap1,W,-⟩:=B9 i1;unfold maxLen at W;have e2:(ByteArray.mk l.toArray).extract 8 l.length=⟨(l.drop 8).toArray⟩:=by
    rw[extract_mk,Er (by rw[Cw];omega)]
   have O:(l.drop 8).length=l.length-8:=Cw;generalize hq:l.drop 8=q at e2 aH O;generalize htx:ByteArray.mk l.toArray=tx at e2 z L ⊢;generalize hll:l.length=ll at e2 z O aA h8 i4;(have h8i:(8:Int)<=(ll:Int):=by omega);have aM:=A1 i1;have aN:=A1 i2;have aL:=A1 i3;have aQ:=A1 i4;have I:=A1 O;have aD:=A1 aA
   go_wp2_with (first
    | (go_at_call 168;refine L.o.mono ?_;rintro e w4⟨rfl,rfl⟩)
    | (at_builtin
       have aB:Hid ((wr.alloc (.cells #[.int .i64 x] 3)).ownsRow 0 3 1 (.slice ap d.length cp) d.length (DO d)):=Az aM.o λg H=>Dd _ _ _ (AI aM.o H);have aG:=A1 (Src.bb (size:=1) (B:=wr.heap.size) underlying26 wr #[.int .i64 x] 3 (by simp) 1 1 rfl (JP [x]));refine D5 rfl (.tmp 9) (.tmp 12) 26 26 rfl 3 i0 _ 1 8 underlying26 hi aF aI aJ rfl (by decide) (.slice ap d.length cp) d.length (DO d) (by rfl) aB.o _ 1 _ (by rfl) aG.o (by have:=aD.o;omega) ?_;intro a8 cap8 w8 Y;have aR:=A1 Y
       clear Y))
   go_roundw
   case rel=>
    have Y:=aR.o;have aK:=Y.Ak (S:=λk=>(Value.slice ap d.length cp).ownBlock=some k) λ_ h=>h;have k9:A3 (λ_=>False) wr (wr.alloc (.cells #[.int .i64 x] 3)):=(A3.I _ wr).ai _;refine⟨q,k,d++[x],rfl,by have:=aD.o;have:=I.o;simp;omega,?_,?_,?_,by have:=aQ.o;have:=I.o;omega,aH.o⟩
    ·(have e:(d++[x]).length=d.length+1:=by simp);unfold DD;rw[L6,e];exact Y.AB
    ·intro g H;rcases Y.Ck with h|h
     ·rw[h]at H;exact aN.o g H
     ·rw[h]at H;cases H;exact AR aL.o.Ao k9.Ao
    ·exact(aL.o.Aw k9 λ_ h _=>h).Aw aK λy hy aE=>by have:=aN.o y hy;omega
   case measure=>
    (have e:(ByteArray.mk q.toArray).size=q.length:=by show q.toArray.size=_;simp);have:=I.o;simp only[e,z];omega
def Tryz.fE:(Tryz.prog.info? 260).map (·.size)=some 2:=by kernel_rfl
def Tryz.gk:liesAt Tryz.prog Tryz.prog.depth 260 (2/Tryz.prog.cellsOf 260) 0 260 1=true:=by kernel_rfl
def GJ(B b:Nat)(l:List UInt8)(w:World):Prop:=Lib.IsBuilder 260 5 B b (Lib.byteCells l) w
def A2z(B b:Nat)(bs:List Value)(w:World)(h:Lib.IsBuilder 260 5 B b bs w):
 Af 238 #[A5 b] w (Aj (.tuple #[]) λw'=>(Lib.BuilderAt 260 5 B b (A5 b) bs w'/\Below B w w')):=by
 obtain⟨j,z,E⟩:=A32.1 Tryz.fE;rcases h with h|h
 ·have I:=h.cell0;have d:=h.shape;have hfz:=h.frozen0;have H:=A1 h
  go_enter func238,ntmps238
  go_wp2;rw[Lib.run_to_unsafe w (Ac b 0) underlying258 underlying217 z (by rw[E];decide) d (Nat.zero_lt_succ 1)];simp only[Result.andThen];rw[Vk];go_wp2;rw[XM func262 (by kernel_rfl) (by kernel_rfl) (by kernel_rfl) (e:=Extern.AbiNoEscape.same) (by kernel_rfl)];rw[Lib.run_noEscape];simp only[Result.andThen];rw[Vk];go_wp2;rw[Lib.run_from_unsafe w (Ac b 0) underlying217 underlying258 z d Tryz.gk];simp only[Result.andThen];rw[Vk];go_wp2;go_end0;exact⟨rfl,H.o.used _,(Nv B w).setCell (p:=(Ac b 0)) H.o.1 _⟩
 ·have I:=h.cell0;have H:=A1 h
  go_enter func238,ntmps238
  go_wp2;rw[Lib.run_neq_ptr_same w _ underlying258 z];go_wp2;go_end0;exact⟨rfl,H.o,Nv B _⟩
def VY(B b:Nat)(bs:List Value)(s:ByteArray)(w:World)(h:Lib.IsBuilder 260 5 B b bs w)(hlen:bs.length+s.size<=140737488355328)(hBw:B<=w.heap.size):
 Af 194 #[A5 b,.string s] w (Aj (.tuple #[A0 s.size,.nilIface]) λw'=>(Lib.BuilderAt 260 5 B b (A5 b) (bs++Lib.strCells s) w'/\Below B w w')):=by
 obtain⟨i0,hi,aB,aD,aE⟩:=E9 Tryz.infoByte
 go_enter func194,ntmps194
 go_wp2_with (go_at_call 238;refine(A2z B b bs _ h).mono ?_);rintro e O⟨rfl,h1,L⟩;obtain⟨hB,v,E,I,aA⟩:=h1;have c0:O.cell? (Ac b 0)=some (A5 b):=by rw[Q7 E];rfl
 have c1:O.cell? (Ac b 1)=some v:=by rw[Q7 E];rfl
 go_wp2_with (at_builtin;refine Lib.wpList_append_own_string _ rfl _ _ 127 9 rfl B 5 i0 underlying127 underlying9 hi aB aD aE _ _ _ rfl I s rfl ?c3 ?c4 ?c5 ?_)
 case c3=>unfold maxLen;omega
 case c4=>omega
 case c5=>have:=L.size;omega
 intro v' W d z _;have Y:b<O.heap.size:=by
  rcases F9 b O.heap.size with h' | h'
  ·exact h'
  ·simp[Array.getElem?_eq_none h']at E
 have H:W.heap[b]?=some (.cells #[A5 b,v] 260 (0,0)):=by
  rw[z.block b Y (λe=>aA e.symm)];exact E
 have d0:W.cell? (Ac b 0)=some (A5 b):=by rw[Q7 H];rfl
 have d1:W.cell? (Ac b 1)=some v:=by rw[Q7 H];rfl
 have f1:W.frozen? (Ac b 1)=false:=Lib.frozen_of_heap H 1;obtain⟨ao,n',cap,rfl⟩:∃ao n' cap,v'=.slice ao n' cap:=by
  rcases d.2 with⟨hv,_⟩|⟨g,cap,cur,hv,_⟩
  ·exact⟨_,_,_,hv⟩
  ·exact⟨_,_,_,hv⟩
 go_wp2;go_ret2;refine⟨rfl,?_,?_⟩
 ·exact Lib.BuilderAt.put (T:=260) (e:=5) hB H (bs':=bs++Lib.strCells s) (by simpa[Lib.strCells_length] using d) (by decide)
 ·exact(L.grown z (by have:=L.size;omega) (λk hk=>(I.lt k hk).1)).setCell (p:=(Ac b 1)) hB _
def Xh(l:List UInt8):Lib.strCells ⟨l.toArray⟩=Lib.byteCells l:=by
 simp[Lib.strCells,Lib.byteCells]
def Nx{B b:Nat}{l t:List UInt8}(w:World)(h:GJ B b l w)(d:l.length+t.length<=140737488355328)(z:B<=w.heap.size):
 Calls Tryz.prog 194 #[.pointer (some ⟨b,0,none⟩),.string ⟨t.toArray⟩] w λe w'=>e=.returned (.tuple #[.int .i64 t.length,.nilIface])/\GJ B b (l++t) w'/\Below B w w':=by
 have H:(ByteArray.mk t.toArray).size=t.length:=by show t.toArray.size=_;simp
 refine(VY B b (Lib.byteCells l) ⟨t.toArray⟩ w h (by rw[Lib.byteCells_length,H];exact d) z).mono ?_;rintro e w'⟨rfl,E,I⟩;refine⟨by rw[H],.inr ?_,I⟩;rw[Xh]at E;have:Lib.byteCells (l++t)=Lib.byteCells l++Lib.byteCells t:=by simp[Lib.byteCells]
 rw[this];exact E
def A3a{B b:Nat}{l:List UInt8}(w:World)(h:GJ B b l w)(d:B<=w.heap.size):
 Af 197 #[A5 b] w (Aj (.string ⟨l.toArray⟩) λw'=>Below B w w'):=Tryz.Builder_String_any B b l w h d
def UJ(w:World):GJ w.heap.size w.heap.size [] (w.alloc (.cells #[.pointer none,.slice none 0 0] 260)):=
 .inl ⟨As _,_,BO w _,CL _ _ _ _,by simp[Value.ownBlock]⟩
def GJ.aj{B b:Nat}{l:List UInt8}{w w':World}{S:Nat->Prop}(h:GJ B b l w)(H:A3 S w w')(E:∀k,S k->k<B):GJ B b l w':=by
 have key:∀p,Lib.BuilderAt 260 5 B b p (Lib.byteCells l) w->Lib.BuilderAt 260 5 B b p (Lib.byteCells l) w':=by
  rintro p⟨O,v,I,d,L⟩;refine⟨O,v,H.aj I (λh=>by have:=E _ h;omega),?_,L⟩;exact Az d λg z=>H.Ap g (AI d z) (λh=>by have:=E _ h;have:=(d.lt g z).1;omega)
 exact h.imp (key _) (key _)
section
variable {α:Type} (lt:α->α->Bool)
structure BU:Prop where
 Ii:∀x,lt x x=false
 Aw:∀x y z,lt x y=true->lt y z=true->lt x z=true
 KP:∀x y z,lt x z=true->lt x y=true\/lt y z=true
def eqv(x y:α):Bool:=!lt x y && !lt y x
def Bi(l l':List α):Prop:=∀x,l.filter (eqv lt x)=l'.filter (eqv lt x)
def B2(l:List α):Prop:=l.Pairwise λx y=>lt y x=false
variable {lt}
def Bi.I(l:List α):Bi lt l l:=λ_=>rfl
def Bi.bG{l l':List α}(h:Bi lt l l'):Bi lt l' l:=λx=>(h x).symm
def Bi.Aw{l l' d:List α}(h:Bi lt l l')(z:Bi lt l' d):Bi lt l d:=λx=>(h x).trans (z x)
def Bi.an{a a' b d:List α}(h:Bi lt a a')(z:Bi lt b d):Bi lt (a++b) (a'++d):=λx=>by
 rw[LH,LH,h x,z x]
def BU.eM(h:BU lt)(x:α):eqv lt x x=true:=by simp[eqv,h.Ii]
def BU.cg(h:BU lt){x y:α}(d:lt x y=true):lt y x=false:=by
 cases hyx:lt y x with
 | false=>rfl
 | true=>have:=h.Aw _ _ _ d hyx;rw[h.Ii]at this;cases this
def BU.ds(h:BU lt){x y z:α}(H:lt y x=false)(E:lt z y=false):lt z x=false:=by
 cases hzx:lt z x with
 | false=>rfl
 | true=>rcases h.KP z y x hzx with d|d
         ·rw[E]at d;cases d
         ·rw[H]at d;cases d
def BU.fQ(h:BU lt){x y z:α}(E:lt y z=true)(H:eqv lt x y=true):eqv lt x z=false:=by
 cases hz:eqv lt x z with
 | false=>rfl
 | true=>
  simp[eqv]at H hz;rcases h.KP y x z E with d|d
  ·rw[H.2]at d;cases d
  ·rw[hz.1]at d;cases d
def BU.fU(h:BU lt){x y:α}(d:lt y x=true):Bi lt [x,y] [y,x]:=λz=>by
 simp only[Fc,List.filter_nil];cases h1:eqv lt z y with
 | false=>cases eqv lt z x<;>rfl
 | true=>rw[h.fQ d h1];rfl
def BU.ed(h:BU lt){x:α}{ys:List α}(d:∀y∈ys,lt y x=true):Bi lt (x::ys) (ys++[x]):=by
 induction ys with
 | nil=>exact Bi.I _
 | cons y r ih=>
  have H:Bi lt (x::y::r) (y::x::r):=by
   have:=(h.fU (d y (BC ..))).an (Bi.I (lt:=lt) r);simpa using this
  have E:Bi lt (y::x::r) (y::(r++[x])):=by
   have:=(Bi.I (lt:=lt) [y]).an (ih λz I=>d z (Bw _ I));simpa using this
  exact H.Aw E
def BU.eJ(h:BU lt){xs ys:List α}(d:∀x∈xs,∀y∈ys,lt y x=true):Bi lt (xs++ys) (ys++xs):=by
 induction xs with
 | nil=>simpa using Bi.I (lt:=lt) ys
 | cons x r ih=>
  have H:=ih λz L=>d z (Bw _ L);have E:Bi lt (x::(r++ys)) (x::(ys++r)):=by simpa using(Bi.I (lt:=lt) [x]).an H
  have I:=(h.ed (d x (BC ..))).an (Bi.I r);have:=E.Aw I;simpa using this
def BU.da(h:BU lt){y:α}{xs:List α}(E:∀x∈xs,lt y x=true):Bi lt (xs++[y]) (y::xs):=by
 simpa using h.eJ (xs:=xs) (ys:=[y]) λx H z d=>by simp at d;subst d;exact E x H
def Bi.DF{l l':List α}(d:BU lt)(h:Bi lt l l'){x:α}(z:x∈l):x∈l':=by
 have:x∈l.filter (eqv lt x):=GX.2 ⟨z,d.eM x⟩;rw[h x]at this;exact(GX.1 this).1
def BU.eA(d:BU lt):∀ {l l':List α},B2 lt l->B2 lt l'->Bi lt l l'->l=l'
 | [],[],_,_,_=>rfl
 | [],b::r',_,_,h=>by have:=(h.bG).DF d (BC (a:=b) (l:=r'));cases this
 | a::r,[],_,_,h=>by have:=h.DF d (BC (a:=a) (l:=r));cases this
 | a::r,b::r',h1,h2,h=>by
  have O:=Dc.1 h1;have W:=Dc.1 h2;have I:lt a b=false:=by
   rcases BQ.1 (h.DF d (BC (a:=a) (l:=r))) with rfl|E
   ·exact d.Ii _
   ·exact W.1 a E
  have H:lt b a=false:=by
   rcases BQ.1 (h.bG.DF d (BC (a:=b) (l:=r'))) with rfl|E
   ·exact d.Ii _
   ·exact O.1 b E
  have Y:eqv lt a b=true:=by simp[eqv,I,H]
  have L:=h a;rw[IA (d.eM a),IA Y]at L;obtain rfl:a=b:=(Jk L).1;refine EK (a :: ·) (d.eA O.2 W.2 λx=>?_);have z:=h x;cases hc:eqv lt x a with
  | true=>rw[IA hc,IA hc]at z;exact(Jk z).2
  | false=>rw[Kk (by rw[hc];decide),Kk (by rw[hc];decide)]at z;exact z
def A1o{x y:α}{l:List α}:y∈F5 lt x l↔y=x\/y∈l:=by
 induction l with
 | nil=>simp[F5]
 | cons z r ih=>
  unfold F5;split
  ·simp
  ·simp only[BQ,ih];constructor
   ·rintro (h|h|h)
    ·exact .inr (.inl h)
    ·exact .inl h
    ·exact .inr (.inr h)
   ·rintro (h|h|h)
    ·exact .inr (.inl h)
    ·exact .inl h
    ·exact .inr (.inr h)
def BU.e5(H:BU lt){x:α}{l:List α}(h:B2 lt l):B2 lt (F5 lt x l):=by
 induction l with
 | nil=>simp[F5,B2]
 | cons z r ih=>
  have I:=Dc.1 h;unfold F5;split
  ·rename_i E;refine Dc.2 ⟨λy d=>?_,h⟩;rcases BQ.1 d with rfl|d
   ·exact H.cg E
   ·exact H.ds (H.cg E) (I.1 y d)
  ·rename_i E;refine Dc.2 ⟨λy d=>?_,ih I.2⟩;rcases A1o.1 d with rfl|d
   ·simpa using E
   ·exact I.1 y d
def BU.eR(H:BU lt){x:α}{l:List α}(h:B2 lt l):Bi lt (l++[x]) (F5 lt x l):=by
 induction l with
 | nil=>exact Bi.I _
 | cons z r ih=>
  have L:=Dc.1 h;unfold F5;split
  ·rename_i I;refine H.da λy E=>?_;rcases BQ.1 E with rfl|E
   ·exact I
   ·rcases H.KP x y z I with d|d
    ·exact d
    ·rw[L.1 y E]at d;cases d
  ·simpa using(Bi.I (lt:=lt) [z]).an (ih L.2)
def BU.dt(d:BU lt):∀(l s:List α),B2 lt s->B2 lt (l.foldl (λs x=>F5 lt x s) s)/\Bi lt (s++l) (l.foldl (λs x=>F5 lt x s) s)
 | [],s,h=>⟨h,by simpa using Bi.I (lt:=lt) s⟩
 | x::r,s,h=>by
  obtain⟨E,z⟩:=d.dt r _ (d.e5 (x:=x) h);refine⟨E,Bi.Aw ?_ z⟩;have:=(d.eR (x:=x) h).an (Bi.I (lt:=lt) r);simpa using this
def BU.eH(d:BU lt)(l:List α):B2 lt (E6 lt l):=(d.dt l [] List.Pairwise.nil).1
def BU.cw(d:BU lt)(l:List α):Bi lt l (E6 lt l):=by
 have:=(d.dt l [] List.Pairwise.nil).2;rw[Et]at this;exact this
def BU.eE(d:BU lt){l l':List α}(h:B2 lt l')(z:Bi lt l l'):l'=E6 lt l:=
 d.eA h (d.eH l) (z.bG.Aw (d.cw l))
def B2.an{a b:List α}(h:B2 lt (a++b)):B2 lt a/\B2 lt b/\∀x∈a,∀y∈b,lt y x=false:=by
 have:=Es.1 h;exact⟨this.1,this.2.1,this.2.2⟩
def B2.cG{a b:List α}(d:B2 lt a)(z:B2 lt b)(h:∀x∈a,∀y∈b,lt y x=false):B2 lt (a++b):=Es.2 ⟨d,z,h⟩
def BU.e8(I:BU lt){d A2 z h s1 s2:List α}(hA:B2 lt (d++A2))(hB:B2 lt (z++h))(h1:∀x∈d,∀y∈h,lt y x=false)(L:∀x∈A2,∀y∈z,lt y x=true)(Y:B2 lt s1)(k2:B2 lt s2)(W:Bi lt (d++z) s1)(O:Bi lt (A2++h) s2):B2 lt (s1++s2)/\Bi lt (d++A2++(z++h)) (s1++s2):=by
 obtain⟨a1,a2,a3⟩:=hA.an;obtain⟨b1,b2,b3⟩:=hB.an;refine⟨B2.cG Y k2 λx H y E=>?_,?_⟩
 ·rcases AV.1 (W.bG.DF I H) with H|H<;>rcases AV.1 (O.bG.DF I E) with E|E
  ·exact a3 x H y E
  ·exact h1 x H y E
  ·exact I.cg (L y E x H)
  ·exact b3 x H y E
 ·have m:=((Bi.I (lt:=lt) d).an (I.eJ L)).an (Bi.I h);have e:d++A2++(z++h)=d++(A2++z)++h:=by simp
  have e':d++(z++A2)++h=d++z++(A2++h):=by simp
  rw[e];refine m.Aw ?_;rw[e'];exact W.an O
def BU.cL(d:BU lt){a b:List α}(Y:B2 lt a)(hb:B2 lt b)(h:∀x y,a.getLast?=some x->b.head?=some y->lt y x=false):∀x∈a,∀y∈b,lt y x=false:=by
 intro x W y O;rcases LI a with rfl|⟨a',z,rfl⟩
 ·cases W
 cases b with
 | nil=>cases O
 | cons y0 b'=>
  have h0:=h z y0 (by simp) rfl;have I:lt z x=false:=by
   (have E:x∈a'\/x=z:=by simpa using W);rcases E with H|rfl
   ·exact(B2.an (by simpa using Y)).2.2 x H z (by simp)
   ·exact d.Ii _
  have L:lt y y0=false:=by
   rcases BQ.1 O with rfl|H
   ·exact d.Ii _
   ·exact(Dc.1 hb).1 y H
  exact d.ds (d.ds I h0) L
def BU.dz(E:BU lt){a b:List α}(ha:B2 lt a)(hb:B2 lt b)(h:∀x y,a.getLast?=some y->b.head?=some x->lt y x=true):∀x∈b,∀y∈a,lt y x=true:=by
 intro x Y y W;rcases LI a with rfl|⟨a',z,rfl⟩
 ·cases W
 cases b with
 | nil=>cases Y
 | cons x0 b'=>
  have h0:=h x0 z (by simp) rfl;have O:lt z y=false:=by
   (have H:y∈a'\/y=z:=by simpa using W);rcases H with I|rfl
   ·exact(B2.an (by simpa using ha)).2.2 y I z (by simp)
   ·exact E.Ii _
  have L:lt x x0=false:=by
   rcases BQ.1 Y with rfl|I
   ·exact E.Ii _
   ·exact(Dc.1 hb).1 x I
  have h1:lt y x0=true:=by
   rcases E.KP z y x0 h0 with d|d
   ·rw[O]at d;cases d
   ·exact d
  rcases E.KP y x x0 h1 with d|d
  ·exact d
  ·rw[L]at d;cases d
end
end
section
open Go.RowKit
attribute [local go_sem ↓] CJ
def A07(w:World)(x:Int):Af 169 #[A0 x] w (Aj (.bool false) λw'=>w=w'):=by
 go_enter func169,ntmps169
 go_wp2;go_ret;exact⟨rfl,rfl⟩
def Pv(w:World)(x y:Int):Af 130 #[A0 x,A0 y] w (Aj (A0 (Cj x y)) λw'=>w=w'):=by
 have d:=A1 (A07);unfold Cj
 go_enter func130,ntmps130
 by_cases h:x<y
 ·rw[Ai h];go_wp2_with (go_at_call 169;refine(d.o _ _).mono ?_;rintro e w'⟨rfl,rfl⟩);go_ret;exact⟨rfl,rfl⟩
 ·by_cases z:y<x
  ·rw[Ae h,Ai z];go_wp2_with (go_at_call 169;refine(d.o _ _).mono ?_;rintro e w'⟨rfl,rfl⟩);go_ret;exact⟨rfl,rfl⟩
  ·rw[Ae h,Ae z];go_wp2_with (go_at_call 169;refine(d.o _ _).mono ?_;rintro e w'⟨rfl,rfl⟩);go_ret;exact⟨rfl,rfl⟩
def JG(a b:Int):Int:=if a≠0 then a else b
def SC(w:World)(g:Nat)(a b:Int)(h0:A7 w g 0 (A0 a))(h1:A7 w g 1 (A0 b)):
 Af 156 #[AM g 2 2] w (Aj (A0 (JG a b)) λw'=>w=w'):=by
 unfold JG
 go_enter func156,ntmps156
 by_cases d:a=0
 ·subst d;rw[Ae (by simp)];by_cases h:b=0
  ·subst h;go_wp2;refine HW 3 ?_;rw[EX];go_wp2;rw[EX];go_wp2;rw[EX];go_wp2;go_ret;exact⟨rfl,rfl⟩
  ·(have hb':(b !=0)=true:=by simpa using h);go_wp2;refine HW 2 ?_;rw[EX];go_wp2;rw[EX];go_wp2;go_ret;exact⟨rfl,rfl⟩
 ·rw[Ai d];have ha':(a !=0)=true:=by simpa using d
  go_wp2;refine HW 1 ?_;rw[EX];go_wp2;go_ret;exact⟨rfl,rfl⟩
def A2R(p q:Pu):Co p q=JG (Cj p.1 q.1) (Cj p.2.1 q.2.1):=rfl
def Dv(p:Pu):Value:=.agg #[A0 p.1,A0 p.2.1,A0 p.2.2]
def Ol(w:World)(p q:Pu):Af 158 #[Dv p,Dv q] w (Aj (A0 (Co p q)) λw'=>A3 Ab w w'):=by
 obtain⟨E,d,I⟩:=p;obtain⟨z,H,O⟩:=q;rw[A2R];unfold Dv;dsimp only
 have aG:=A1 (Pv);have OR:=A1 (SC);obtain⟨x,hx⟩:∃x,Cj E z=x:=⟨_,rfl⟩;obtain⟨y,hy⟩:∃y,Cj d H=y:=⟨_,rfl⟩;rw[hx,hy];have b1:C8 ((w.alloc (.cells #[A0 E,A0 d,A0 I] 113)).alloc (.cells #[A0 z,A0 H,A0 O] 113)) w.heap.size E d I:=(Dd _ _ _ (by simp)).trans (BO w _);have b2:C8 ((w.alloc (.cells #[A0 E,A0 d,A0 I] 113)).alloc (.cells #[A0 z,A0 H,A0 O] 113)) (w.heap.size+1) z H O:=by
  have:=BO (w.alloc (.cells #[A0 E,A0 d,A0 I] 113)) (.cells #[A0 z,A0 H,A0 O] 113);simpa[C8] using this
 have k2:A3 Ab w ((w.alloc (.cells #[A0 E,A0 d,A0 I] 113)).alloc (.cells #[A0 z,A0 H,A0 O] 113)):=((A3.I _ w).ai _).ai _;have sz:((w.alloc (.cells #[A0 E,A0 d,A0 I] 113)).alloc (.cells #[A0 z,A0 H,A0 O] 113)).heap.size=w.heap.size+2:=by simp
 have Y:=A1 b1;have W:=A1 b2;have aF:=A1 k2;have aI:=A1 sz
 go_enter func158,ntmps158
 go_wp2;generalize ((w.alloc (.cells #[A0 E,A0 d,A0 I] 113)).alloc (.cells #[A0 z,A0 H,A0 O] 113))=w2 at Y W aF aI ⊢;refine BR (λw'=>A7 w' w.heap.size 0 (A0 E)/\A7 w' w.heap.size 1 (A0 d)/\A7 w' (w.heap.size+1) 0 (A0 z)/\A7 w' (w.heap.size+1) 1 (A0 H)) 14
  (Br [0,1,2,3,5,6,7,8,9,10,4,11,12,13] [4,11,12,13]) ⟨Y.o.c0,Y.o.c1,W.o.c0,W.o.c1⟩ ?_
 iterate 10 (refine Bf ?_;(try simp only[An]))
 refine Bn λK L=>?_;go_simp;have aA:=A1 Y.o.af;have aD:=A1 W.o.af;refine(aG.o _ _ _).mono ?_;rintro e w3⟨rfl,rfl⟩;rw[hx];refine L _ _ ⟨aA.o.c0,aA.o.c1,aD.o.c0,aD.o.c1⟩ (λhS=>?_)
 (try simp only[An])
 refine Bn λK L=>?_;go_simp;refine(aG.o _ _ _).mono ?_;rintro e w4⟨rfl,rfl⟩;rw[hy];refine L _ _ ⟨aA.o.c0,aA.o.c1,aD.o.c0,aD.o.c1⟩ (λhS=>?_)
 (try simp only[An])
 refine Bn λK L=>?_;go_simp;have ka:A3 Ab w2 (w2.alloc (.cells #[A0 x,A0 y] 3)).drew:=((A3.I _ _).ai _).af;have aE:=Y.o.aj ka (λh=>h);have aB:=W.o.aj ka (λh=>h);have hb:(w2.alloc (.cells #[A0 x,A0 y] 3)).drew.heap[w2.heap.size]?=some (.cells #[A0 x,A0 y] 3):=BO w2 _;refine L _ _ ⟨aE.c0,aE.c1,aB.c0,aB.c1⟩ (λhS=>?_)
 (try simp only[An])
 refine Bn λK L=>?_;go_simp;refine(OR.o _ _ x y (by simp only[A7,World.cell?,hb];rfl) (by simp only[A7,World.cell?,hb];rfl)).mono ?_;rintro e w5⟨rfl,rfl⟩;refine L _ _ ⟨aE.c0,aE.c1,aB.c0,aB.c1⟩ (λhS=>?_);have aH:Hid (A3 Ab w (w2.alloc (.cells #[A0 x,A0 y] 3)).drew):=aF.o.tr ka
 (try simp only[An])
 refine Bl ?_;simp only[BK,BJ];go_wp2;go_ret;exact⟨rfl,aH.o⟩
end
section
open Go.RowKit
attribute [local go_sem ↓] Go.wp_at_zero Go.wp_at_succ
def FM(t Ad A6:Int):Bool:=decide (t+Ad>A6)
def AE(x:Int):Prop:=-9223372036854775808<=x/\x<=9223372036854775807
def FF(A6 d:Int):Int:=if A6>9223372036854775807-d then 9223372036854775807 else A6+d
end
section
open Go.RowKit
attribute [local go_sem ↓] CJ
def We{t len:Int}(h:1<=len):BD t len=if t.tmod len<0 then t.tdiv len-1 else t.tdiv len:=by
 unfold BD;have e1:=Int.mul_ediv_add_emod t len;have e2:=LO t (b:=len) (by omega);have e3:=Qb t (b:=len) (by omega);have f1:=A4A t len;have f3:t.tmod len<len:=VO t (by omega);have f4 : -len<t.tmod len:=by
  by_cases h0:0<=t
  ·have:=Int.tmod_nonneg len h0;omega
  ·have:=VO (-t) (b:=len) (by omega);rw[Qa]at this;omega
 obtain⟨q,I⟩:∃q,t/len=q:=⟨_,rfl⟩;obtain⟨r,L⟩:∃r,t % len=r:=⟨_,rfl⟩;obtain⟨d,E⟩:∃d,t.tdiv len=d:=⟨_,rfl⟩;obtain⟨H,z⟩:∃H,t.tmod len=H:=⟨_,rfl⟩;rw[I,L]at e1;rw[L]at e2 e3;rw[E,z]at f1;rw[z]at f3 f4;rw[I,E,z];have key:len*(q-d)=H-r:=by
  have:len*(q-d)=len*q-len*d:=Int.mul_sub ..;omega
 by_cases O:H<0
 ·rw[Ai O];have h1 : -(2*len)<len*(q-d):=by omega
  have Y:len*(q-d)<0:=by omega
  have W:q-d<0:=by
   rcases LM (q-d) 0 with h|h
   ·exact h
   ·have:=Int.mul_nonneg (a:=len) (by omega) h;omega
  have k2 : -2<q-d:=by
   rcases LM (-2) (q-d) with h|h
   ·exact h
   ·have:len*(q-d)<=len*(-2):=VQ h (by omega);omega
  omega
 ·rw[Ae O];have h1 : -len<len*(q-d):=by omega
  have Y:len*(q-d)<len:=by omega
  have W:q-d<1:=by
   rcases LM (q-d) 1 with h|h
   ·exact h
   ·have:len*1<=len*(q-d):=VQ h (by omega);omega
  have k2 : -1<q-d:=by
   rcases LM (-1) (q-d) with h|h
   ·exact h
   ·have:len*(q-d)<=len*(-1):=VQ h (by omega);omega
  omega
def WL{t len:Int}(I:AE t)(z:1<=len)(H:t.tmod len<0):AE (t.tdiv len-1):=by
 obtain⟨t1,t2⟩:=I;have f1:=A4A t len;have f4 : -len<t.tmod len:=by
  by_cases L:0<=t
  ·have:=Int.tmod_nonneg len L;omega
  ·have:=VO (-t) (b:=len) (by omega);rw[Qa]at this;omega
 obtain⟨q,E⟩:∃q,t.tdiv len=q:=⟨_,rfl⟩;obtain⟨r,d⟩:∃r,t.tmod len=r:=⟨_,rfl⟩;rw[E,d]at f1;rw[d]at f4 H;rw[E];constructor
 ·rcases LM 0 q with h|h
  ·omega
  ·have:len*q<=1*q:=Int.mul_le_mul_of_nonpos_right z h;omega
 ·rcases LM (q-1) 0 with h|h
  ·omega
  ·have h2:1*(q-1)<=len*(q-1):=Int.mul_le_mul_of_nonneg_right z h;have h3:len*(q-1)=len*q-len*1:=Int.mul_sub ..;omega
def NA(w:World)(t len:Int)(E:AE t)(h:1<=len/\len<=4611686018427387904):
 Af 157 #[A0 t,A0 len] w (Aj (A0 (BD t len)) λw'=>w=w'):=by
 obtain⟨t1,t2⟩:=E;have hl0:¬len=0:=by omega
 rw[We h.1]
 go_enter func157,ntmps157
 by_cases d:t.tmod len<0
 ·rw[Ai d];have z:wrap64 (t.tdiv len-1)=t.tdiv len-1:=by
   have:=WL ⟨t1,t2⟩ h.1 d;unfold AE at this;unfold wrap64;omega
  go_wp2
  all_goals first|(exfalso;omega)|skip
  go_ret;refine⟨?_,rfl⟩;show Ending.returned (A0 (wrap64 (t.tdiv len-1)))=_;rw[z]
 ·rw[Ae d];go_wp2
  all_goals first|(exfalso;omega)|skip
  go_ret;exact⟨rfl,rfl⟩
def Rw{α:Type}(cmp:α->α->Int):∀(l:List α) (k:Nat) (h:k+1<l.length),Cz cmp (l.drop k)=(decide (cmp (l[k]'(by omega)) (l[k+1]'h)<0)&&Cz cmp (l.drop (k+1))):=by
 intro l k h;rw[Fy (by omega:k<l.length),Fy h];rfl
def Rv{α:Type}(cmp:α->α->Int)(l:List α)(k:Nat)(h:l.length<=k+1):Cz cmp (l.drop k)=true:=by
 have:(l.drop k).length<=1:=by rw[Cw];omega
 match hx:l.drop k with
 | []=>rfl
 | [x]=>rfl
 | x::y::r=>rw[hx]at this;simp at this
def Pz(x y:Int):Cj x y = -1\/Cj x y=0\/Cj x y=1:=by
 unfold Cj;split
 ·exact .inl rfl
 ·split
  ·exact .inr (.inr rfl)
  ·exact .inr (.inl rfl)
def Y8(w:World)(v:Value)(l:List Int)(h:D7 w v l)(hl:l.length<1099511627776):
 Af 129 #[v,.func (.func 130) #[] #[]] w (Aj (.bool (Cz Cj l)) λw'=>∃n,w'=w.drewN n):=by
 obtain⟨a,cap,rfl,h1,h2⟩:=h.Cg;unfold maxLen at h2;have aF:Hid (Cz Cj l=Cz Cj (l.drop 0)):=rfl;generalize hR:Cz Cj l=R at aF ⊢;have H:=A1 h
 go_enter func129,ntmps129
 go_wp2;go_loopw [5] (λiv wr=>∃k:Nat,iv=A0 ((k:Int)+1)/\k<=l.length/\(∃n,wr=w.drewN n)/\Hid (R=Cz Cj (l.drop k))) (λiv _=>l.length+1-(intOf iv).toNat)
 case atStart=>exact⟨0,rfl,by omega,⟨0,rfl⟩,aF.o⟩
 case round=>
  obtain⟨k,rfl,hk,⟨n,rfl⟩,O⟩:=hrel;by_cases z:k+1<l.length
  ·obtain⟨g,o,rfl,c1⟩:=D7.at H.o k (by omega);obtain⟨g',o',e,c2⟩:=D7.at H.o (k+1) z;cases e;have d:=O.o;rw[Rw Cj l k z]at d;have L:=Pz (l[k]'(by omega)) (l[k+1]'z);have W:=A1 (λn=>Pv (w.drewN n) (l[k]'(by omega)) (l[k+1]'z));obtain⟨x,hx⟩:∃x,(l[k]'(by omega))=x:=⟨_,rfl⟩;obtain⟨y,hy⟩:∃y,(l[k+1]'z)=y:=⟨_,rfl⟩;rw[hx]at c1 d L W;rw[hy]at c2 d L W;generalize aD:Cj x y=cc at d L W;have d1:∀n,A7 (w.drewN n) g (o+k) (A0 x):=λn=>c1;have d2:∀n,A7 (w.drewN n) g (o+(k+1)) (A0 y):=λn=>c2;have I:=A1 d;clear c1 c2 hx hy aD d O;(have aB:(k:Int)+1<(l.length:Int):=by omega);have hk0:=C2 k;(have hki2:(k:Int)<(l.length:Int):=by omega);(have aE:IntKind.i64.wrap (k:Int)=k:=by simp[IntKind.wrap,IntKind.bits,IntKind.signed];omega);(have ew1:IntKind.i64.wrap ((k:Int)+1-1)=k:=by rw[Jp];exact aE);(have tk:((k:Int)+1).toNat=k+1:=by omega);(have pk:(0:Int)<=(k:Int)+1:=by omega);by_cases hc:cc<0
   ·have E:Hid (R=Cz Cj (l.drop (k+1))):=by
     have:=I.o;rw[CE hc,LP]at this;exact this
    clear I;(have aA:¬(0<=cc):=by omega);go_wp2;refine BR (λw'=>A7 w' g (o+k) (A0 x)/\A7 w' g (o+(k+1)) (A0 y)) 11
     (Br [0,1,2,3,4,5,6,7,8,9,10] [10]) ⟨d1 (n+1),d2 (n+1)⟩ ?_
    iterate 10 (refine Bf ?_;(try simp only[An]))
    refine Bn λK Y=>?_;go_simp;refine(W.o (n+1)).mono ?_;rintro e w3⟨rfl,rfl⟩;refine Y _ _ ⟨d1 (n+1),d2 (n+1)⟩ (λhS=>?_);clear Y K hS
    (try simp only[An])
    refine Bl ?_;simp only[BK,BJ];go_wp2;go_roundw
    case rel=>exact⟨k+1,by go_num,by omega,⟨n+1,rfl⟩,E.o⟩
    case measure=>simp[intOf];omega
   ·have E:R=false:=by
     have:=I.o;rw[D2 hc,VT]at this;exact this
    clear I;subst E;(have aA:0<=cc:=by omega);go_wp2;refine BR (λw'=>A7 w' g (o+k) (A0 x)/\A7 w' g (o+(k+1)) (A0 y)) 11
     (Br [0,1,2,3,4,5,6,7,8,9,10] [10]) ⟨d1 (n+1),d2 (n+1)⟩ ?_
    iterate 10 (refine Bf ?_;(try simp only[An]))
    refine Bn λK Y=>?_;go_simp;refine(W.o (n+1)).mono ?_;rintro e w3⟨rfl,rfl⟩;refine Y _ _ ⟨d1 (n+1),d2 (n+1)⟩ (λhS=>?_)
    (try simp only[An])
    refine Bl ?_;simp only[BK,BJ];go_wp2;go_ret;exact⟨rfl,_,rfl⟩
  ·(have E:R=true:=by rw[O.o,Rv Cj l k (by omega)]);subst E;(have aB:¬((k:Int)+1<(l.length:Int)):=by omega);go_wp2;go_ret;exact⟨rfl,_,rfl⟩
def UE(p q:Pu):Co p q = -1\/Co p q=0\/Co p q=1:=by
 unfold Co;split<;>exact Pz _ _
def Y7(w:World)(v:Value)(l:List Pu)(h:Hu w v l)(hl:l.length<1099511627776):
 Af 177 #[v,.func (.func 158) #[] #[]] w (Aj (.bool (Cz Co l)) λw'=>A3 Ab w w'):=by
 obtain⟨a,cap,rfl,h1,h2⟩:=h.Cg;unfold maxLen at h2;have aQ:Hid (Cz Co l=Cz Co (l.drop 0)):=rfl;generalize hR:Cz Co l=R at aQ ⊢;have H:=A1 h
 go_enter func177,ntmps177
 go_wp2;go_loopw [5] (λiv wr=>∃k:Nat,iv=A0 ((k:Int)+1)/\k<=l.length/\Hid (A3 Ab w wr)/\Hid (R=Cz Co (l.drop k))) (λiv _=>l.length+1-(intOf iv).toNat)
 case atStart=>exact⟨0,rfl,by omega,A3.I _ _,aQ.o⟩
 case round=>
  obtain⟨k,rfl,hk,z,aD⟩:=hrel;by_cases O:k+1<l.length
  ·obtain⟨g,o,rfl,-,c1,c2,c3⟩:=Hu.at H.o k (by omega);obtain⟨g',o',e,-,c4,c5,c6⟩:=Hu.at H.o (k+1) O;cases e;have d:=aD.o;rw[Rw Co l k O]at d;have aA:=UE (l[k]'(by omega)) (l[k+1]'O);have aE:=A1 (λE=>Ol E (l[k]'(by omega)) (l[k+1]'O));obtain⟨x,W⟩:∃x,(l[k]'(by omega))=x:=⟨_,rfl⟩;obtain⟨y,hy⟩:∃y,(l[k+1]'O)=y:=⟨_,rfl⟩;rw[W]at c1 c2 c3 d aA aE;rw[hy]at c4 c5 c6 d aA aE;obtain⟨x1,x2,x3⟩:=x;obtain⟨y1,y2,y3⟩:=y;generalize hcc:Co (x1,x2,x3) (y1,y2,y3)=cc at d aA aE;dsimp only at c1 c2 c3 c4 c5 c6;have d1:=z.o.af.ao c1;have d2:=z.o.af.ao c2;have d3:=z.o.af.ao c3;have d4:=z.o.af.ao c4;have d5:=z.o.af.ao c5;have d6:=z.o.af.ao c6;have aF:=A1 d;have aJ:=A1 c1;have aM:=A1 c2;have aL:=A1 c3;have aG:=A1 c4;have aN:=A1 c5;have aH:=A1 c6;(have aI:(k:Int)+1<(l.length:Int):=by omega);have hk0:=C2 k;(have hki2:(k:Int)<(l.length:Int):=by omega);(have aK:IntKind.i64.wrap (k:Int)=k:=by simp[IntKind.wrap,IntKind.bits,IntKind.signed];omega);(have ew1:IntKind.i64.wrap ((k:Int)+1-1)=k:=by rw[Jp];exact aK);(have tk:((k:Int)+1).toNat=k+1:=by omega);(have pk:(0:Int)<=(k:Int)+1:=by omega);have Y:Hid (∀E,A3 Ab wr.drew E->(A7 E g (o+k*3) (A0 x1)/\A7 E g (o+k*3+1) (A0 x2)/\A7 E g (o+k*3+2) (A0 x3)/\A7 E g (o+(k+1)*3) (A0 y1)/\A7 E g (o+(k+1)*3+1) (A0 y2)/\A7 E g (o+(k+1)*3+2) (A0 y3))/\A3 Ab w E):=λE W=>
    ⟨⟨W.ao (z.o.af.ao aJ.o),W.ao (z.o.af.ao aM.o),W.ao (z.o.af.ao aL.o),W.ao (z.o.af.ao aG.o),W.ao (z.o.af.ao aN.o),W.ao (z.o.af.ao aH.o)⟩,z.o.af.tr W⟩
   by_cases aB:cc<0
   ·have I:Hid (R=Cz Co (l.drop (k+1))):=by
     have:=aF.o;rw[CE aB,LP]at this;exact this
    (have aO:¬(0<=cc):=by omega);go_wp2;refine BR (λw'=>A7 w' g (o+k*3) (A0 x1)/\A7 w' g (o+k*3+1) (A0 x2)/\A7 w' g (o+k*3+2) (A0 x3)/\A7 w' g (o+(k+1)*3) (A0 y1)/\A7 w' g (o+(k+1)*3+1) (A0 y2)/\A7 w' g (o+(k+1)*3+2) (A0 y3)) 11
     (Br [0,1,2,3,4,5,6,7,8,9,10] [10]) ⟨d1,d2,d3,d4,d5,d6⟩ ?_
    iterate 10 (refine Bf ?_;(try simp only[An]))
    refine Bn λK hK=>?_;go_simp;refine(aE.o _).mono ?_;rintro e w3⟨rfl,L⟩;refine hK _ _ (Y.o w3 L).1 (λhS=>?_);have aP:=A1 (Y.o w3 L).2
    (try simp only[An])
    refine Bl ?_;simp only[BK,BJ];go_wp2;go_roundw
    case rel=>exact⟨k+1,by go_num,by omega,aP.o,I.o⟩
    case measure=>simp[intOf];omega
   ·have I:R=false:=by
     have:=aF.o;rw[D2 aB,VT]at this;exact this
    subst I;(have aO:0<=cc:=by omega);go_wp2;refine BR (λw'=>A7 w' g (o+k*3) (A0 x1)/\A7 w' g (o+k*3+1) (A0 x2)/\A7 w' g (o+k*3+2) (A0 x3)/\A7 w' g (o+(k+1)*3) (A0 y1)/\A7 w' g (o+(k+1)*3+1) (A0 y2)/\A7 w' g (o+(k+1)*3+2) (A0 y3)) 11
     (Br [0,1,2,3,4,5,6,7,8,9,10] [10]) ⟨d1,d2,d3,d4,d5,d6⟩ ?_
    iterate 10 (refine Bf ?_;(try simp only[An]))
    refine Bn λK hK=>?_;go_simp;refine(aE.o _).mono ?_;rintro e w3⟨rfl,L⟩;refine hK _ _ (Y.o w3 L).1 (λhS=>?_);have aP:=A1 (Y.o w3 L).2
    (try simp only[An])
    refine Bl ?_;simp only[BK,BJ];go_wp2;go_ret;exact⟨rfl,aP.o⟩
  ·(have I:R=true:=by rw[aD.o,Rv Co l k (by omega)]);subst I;(have aI:¬((k:Int)+1<(l.length:Int)):=by omega);go_wp2;go_ret;exact⟨rfl,z.o⟩
end
end Go.Proofs.YtodcnkbblippnaaGreatDoor
