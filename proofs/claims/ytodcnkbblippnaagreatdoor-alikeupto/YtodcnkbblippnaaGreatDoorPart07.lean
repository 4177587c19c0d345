/- Part 7 of a proof: walks of the program. -/
import Derived.Test.YtodcnkbblippnaaGreatDoorPart06
namespace Go.Proofs.YtodcnkbblippnaaGreatDoor
set_option maxRecDepth 100000
set_option maxHeartbeats 32000000
set_option linter.defProp false
open Go.Proofs.Tryz
section
open Go.RowKit
attribute [local go_sem ↓] Go.wp_at_zero Go.wp_at_succ
def HT(w:World):Prop:=
 (∃d,w.cell? ⟨1,0,none⟩=some d/\(d=.nilIface\/∃z h,d=.iface z h))/\∃d,w.cell? ⟨2,0,none⟩=some d/\(d=.nilIface\/∃z h,d=.iface z h)
def HT.aS{w w':World}(h:HT w)(d:A3 Ab w w'):HT w':=by
 obtain⟨⟨H,L,z⟩,O,I,E⟩:=h;exact⟨⟨H,d.al L,z⟩,O,d.al I,E⟩
def ZY(s:List UInt8):isNum (Lib.atoiSat s)=false:=by
 unfold Lib.atoiSat;split<;>rfl
def A2n(w:World)(s:List UInt8)(hl:s.length<=281474976710656)(he:HT w):
 Ag 131 #[.string ⟨s.toArray⟩] w λe w'=>∃v I,e=.returned (.tuple #[A0 v,I])/\Q3 s v/\A3 Ab w w':=by
 obtain⟨⟨e1,L,E⟩,O,H,Y⟩:=he;have hs:(ByteArray.mk s.toArray).size=s.length:=by show s.toArray.size=_;simp
 have d:(ByteArray.mk s.toArray).data.toList=s:=by simp
 cases hr:Lib.atoiAll s with
 | ok v=>
  refine(Tryz.strconv_Atoi_ok ⟨s.toArray⟩ (by omega) v (by rw[d];exact hr) w).mono ?_;rintro e w'⟨rfl,W⟩;refine⟨v,_,rfl,.inl hr,?_⟩;rcases W with rfl|⟨t,rfl⟩
  ·exact A3.I _ _
  ·exact A3.cT (Lib.bytesWorld_below _ _ _)
 | «syntax»=>
  refine(Tryz.strconv_Atoi_syntax ⟨s.toArray⟩ (by omega) (by rw[d];exact hr) e1 w L E).mono ?_;rintro e w'⟨N,rfl,-,-,z⟩;exact⟨0,_,rfl,.inr ⟨λx h=>(by rw[hr]at h;cases h),rfl,λ_=>rfl⟩,A3.cT z⟩
 | range=>
  refine(Tryz.strconv_Atoi_range ⟨s.toArray⟩ (by omega) (by rw[d];exact hr) O w H Y).mono ?_;rintro e w'⟨N,rfl,-,-,z⟩;have X:s≠[]:=by
   rintro rfl;(have:Lib.atoiAll []=.syntax:=by decide +kernel);rw[this]at hr;cases hr
  exact⟨Lib.atoiSat s,_,(by rw[d]),.inr ⟨λx h=>(by rw[hr]at h;cases h),ZY s,λh=>absurd h X⟩,A3.cT z⟩
def Tl(w:World)(v:Int):Ag 128 #[A0 v] w (Al (.bool (isNum v)) λw'=>w=w'):=by
 unfold isNum
 go_enter func128,ntmps128
 by_cases z:1<=v
 ·by_cases d:v<=4611686018427387904
  ·go_wp2;go_ret;exact⟨by simp[z,d],rfl⟩
  ·go_wp2;go_ret;exact⟨by simp[d],rfl⟩
 ·have e:decide (1<=v/\v<=4611686018427387904)=false:=CZ λh=>z h.1;rw[e];go_wp2;go_ret;exact⟨rfl,rfl⟩
section
variable {w:World} {B:Nat}
def SE(w:World)(nm:List UInt8)(hl:nm.length<=281474976710656)(he:HT w)(hL:Lets B w):
 Ag 97 #[.string ⟨nm.toArray⟩] w (Al (.tuple #[A0 (Bf nm).1,A0 (Bf nm).2]) λw'=>A3 Ab w w'):=by
 have aQ:Hid (∀(wr:World) (k:Nat),Ag 132 #[.string ⟨nm.toArray⟩,.string ⟨(D7 k).toArray⟩] wr (Al (.string ⟨(Lib.trimPrefix nm (D7 k)).toArray⟩) λw'=>w'=wr)):=λwr k=>by
  have:=Tryz.strings_TrimPrefix ⟨nm.toArray⟩ ⟨(D7 k).toArray⟩ wr;simpa using this
 have aT:Hid (∀wr:World,A3 Ab w wr->∀k:Nat,1<=k->k<=4->A7 wr 0 k (.string ⟨(D7 k).toArray⟩)):=λwr d k h1 h2=>((hL.aS d).2 wr (Nj _ _)).1 k h1 h2
 have aS:Hid (∀wr:World,A3 Ab w wr->∀k:Nat,_):=λwr d k=>A2n wr (Lib.trimPrefix nm (D7 k)) (AM (Lib.trimPrefix_le _ _) hl) (he.aS d);have aR:Hid (∀(wr:World) (k:Nat) (v:Int),A3 Ab w wr->1<=k->k<=4->isNum v=decide ((k:Int)=1\/(k:Int)=2)->Ag 134 #[A0 k,A0 v] wr λe aO=>e=.returned (.string ⟨(BO k v).toArray⟩)/\A3 Ab wr aO):=λwr k v d h1 h2 h3=>by
  by_cases hk:k=1\/k=2
  ·rw[CH (by omega)]at h3;unfold isNum at h3;have hv:=JL h3;have hn:=HD (n:=v) (by omega) hv.2;exact Mb wr k ⟨h1,h2⟩ ⟨by omega,by omega⟩ hn.2.2 (hL.aS d)
  ·(have e:BO k v=D7 k:=by unfold BO;rw[Ad (by omega)]);rw[e];refine(SR wr k (by omega) (D7 k) v (((hL.aS d).2 wr (Nj _ _)).1 k h1 h2)).mono ?_;rintro e w'⟨rfl,rfl⟩;exact⟨rfl,A3.I _ _⟩
 obtain⟨R,hR⟩:∃R,Bf nm=R:=⟨_,rfl⟩;have aM:Hid (FP nm 1=R):=by rw[SP];exact hR
 rw[hR]
 go_enter func97,ntmps97
 go_wp2;go_loopw [4,5,6] (λiv _ _ wr=>∃k:Nat,1<=k/\k<=5/\iv=A0 k/\Hid (A3 Ab w wr)/\Hid (FP nm k=R)) (λiv _ _ _=>5-(intOf iv).toNat)
 case atStart=>exact⟨1,by omega,by omega,rfl,A3.I _ _,aM.o⟩
 case round=>
  obtain⟨k,I,hk2,rfl,d,W⟩:=hrel;by_cases hk:k<5
  ·have ck:=aT.o wr d.o k I (by omega);have aH:=A1 (aQ.o wr k);have aB:=A1 (aS.o wr d.o k);have hk0:=C3 k;(have hk5:(k:Int)<5:=by omega);obtain⟨tr,aE⟩:∃tr,Lib.trimPrefix nm (D7 k)=tr:=⟨_,rfl⟩;have aN:=A1 aE;rw[aE]at aH aB;go_wp2_with (first|(go_at_call 132;refine aH.m ?_;rintro e w1⟨rfl,rfl⟩)|(go_at_call 131;fail));refine aB.m ?_;rintro e w1⟨v,er,rfl,hv,aJ⟩;have L:=Z5 (k:=k) ⟨I,by omega⟩ (by rw[aN.o];exact hv);have z:Hid (A3 Ab w w1):=d.o.tr aJ;have O:=A1 (aR.o w1 k v z.o I (by omega));obtain⟨nb,aG⟩:∃nb,isNum v=nb:=⟨_,rfl⟩;obtain⟨kb,aF⟩:∃kb,decide ((k:Int)=1\/(k:Int)=2)=kb:=⟨_,rfl⟩;rw[aG,aF]at L O;(have aP:Hid (∀wr,Ag 128 #[A0 v] wr (Al (.bool nb) λw'=>wr=w')):=λwr=>by rw[<-aG];exact Tl wr v);(have aI:Hid (∀wr,Ag 133 #[A0 k] wr (Al (.bool kb) λw'=>wr=w')):=λwr=>by rw[<-aF];exact OD wr k);generalize hn2:BO k v=n2 at L O;have H:=A1 L;(have E:Hid (¬(nb=kb/\n2=nm)->FP nm (k+1)=R):=λh=>by have:=H.o;rw[Ad h]at this;rw[<-this];exact W.o);(have aK:Hid (nb=kb/\n2=nm->R=((k:Int),v)):=λh=>by have:=H.o;rw[Ah h]at this;rw[<-W.o];exact this);by_cases hb:nb=kb
   ·subst hb;have aL:(nb==nb)=true:=Ur nb;have aD:=A1 (O.o rfl);by_cases h3:n2=nm
    ·subst h3;have aA:=aK.o ⟨rfl,rfl⟩;subst aA;have hb:=Ur n2;go_wp2_with (first|(go_at_call 128;refine(aP.o _).mono ?_;rintro e w2⟨rfl,rfl⟩)|(go_at_call 133;refine(aI.o _).mono ?_;rintro e w2⟨rfl,rfl⟩)|(go_at_call 134;refine aD.m ?_;rintro e w2⟨rfl,Y⟩;have X:=A1 Y));go_ret2;exact⟨rfl,z.o.tr X.o⟩
    ·have hb:(n2==nm)=false:=GA.2 h3;have hN:=A1 (E.o λh=>h3 h.2);go_wp2_with (first|(go_at_call 128;refine(aP.o _).mono ?_;rintro e w2⟨rfl,rfl⟩)|(go_at_call 133;refine(aI.o _).mono ?_;rintro e w2⟨rfl,rfl⟩)|(go_at_call 134;refine aD.m ?_;rintro e w2⟨rfl,Y⟩;have X:=A1 Y));go_roundw
     case rel=>exact⟨k+1,by omega,by omega,by go_num,z.o.tr X.o,hN.o⟩
     case measure=>simp[intOf];omega
   ·have hN:=A1 (E.o λh=>hb h.1);have aL:(nb==kb)=false:=GA.2 hb;go_wp2_with (first|(go_at_call 128;refine(aP.o _).mono ?_;rintro e w2⟨rfl,rfl⟩)|(go_at_call 133;refine(aI.o _).mono ?_;rintro e w2⟨rfl,rfl⟩));go_roundw
    case rel=>exact⟨k+1,by omega,by omega,by go_num,z.o,hN.o⟩
    case measure=>simp[intOf];omega
  ·(obtain rfl:k=5:=by omega);(have aA:R=(0,0):=by rw[<-W.o,SK]);subst aA;go_wp2;go_ret2;exact⟨rfl,d.o⟩
end
end
section
open Go.RowKit
def AR(s:Nat)(l:Bs):Bs:=l++Ca (AT s l)
def PD.ad(P:PD)(nm:ByteArray)(s:Nat)(l:Bs):Bool×Int×PD:=
 (H7 P.D P.F nm (AR s l),(P.an nm (AR s l)).1,(P.an nm (AR s l)).2)
def PD.aI(P:PD)(nm:Bs)(s:Nat)(l:Bs):Int×PD:=
 if (P.ai (A8 nm)).1≠0 then P.ai (A8 nm) else
 if ((P.ai (A8 nm)).2.ad (A8 nm) s l).2.1≠0 then ((P.ai (A8 nm)).2.ad (A8 nm) s l).2 else
 ((P.ai (A8 nm)).2.ad (A8 nm) s l).2.2.ae (A8 nm)
def PD.Co(P:PD)(nm:Bs):Bs×Int:=DP P.D P.F (A8 nm)
def Hy(s:Nat)(t:Bs):Option Bs:=
 if t.length<4 then none else if Ca (AT s (t.take (t.length-4)))=t.drop (t.length-4) then some (t.take (t.length-4)) else none
def PD.aZ(P:PD)(nm:Bs):Bs×Int:=
 if (P.Co nm).2≠0 then ([],(P.Co nm).2) else match Hy (AE nm) (P.Co nm).1 with
 | some d=>(d,0)
 | none=>([],7)
def Gb:Nat->Bs->List Int
 | 0,_=>[]
 | k+1,l=>if l.length<8 then [] else BL l::Gb k (l.drop 8)
def En(l:Bs):List Int:=Gb l.length l
def Cx{α:Type}(cmp:α->α->Int):List α->Bool
 | []=>true
 | [_]=>true
 | x::y::r=>decide (cmp x y<0)&&Cx cmp (y::r)
def Ci(x y:Int):Int:=if x<y then -1 else if y<x then 1 else 0
structure Ix where
 B7:Int
 segs:List Int
def indexOf(d:Bs×Int):Option Ix:=
 if d.2=8 then some ⟨1,[]⟩ else
 if d.2≠0\/En d.1=[]\/d.1.length≠(En d.1).length*8 then none else
 if (En d.1).all isNum=false then none else
 if Cx Ci (En d.1).tail then some ⟨(En d.1).headD 0,(En d.1).tail⟩ else none
def PD.a8(P:PD):Option Ix:=indexOf (P.aZ AI)
def Ch(d:Int)(segs:List Int):Bs:=AQ d++segs.flatMap AQ
def PD.ag(P:PD)(d:Int)(segs:List Int):Int×PD:=
 if (P.aI Bo (AE AI) (Ch d segs)).1≠0 then P.aI Bo (AE AI) (Ch d segs) else
 (P.aI Bo (AE AI) (Ch d segs)).2.aO (A8 Bo) (A8 AI)
def Cd(l:List Pu):Bs:=l.flatMap λp=>Bc p.1 p.2.1 p.2.2
def PD.aK(P:PD)(n:Int)(l:List Pu):Int×PD:=P.aI (AF n) (AE (AF n)) (Cd l)
def Cn(p q:Pu):Int:=if Ci p.1 q.1≠0 then Ci p.1 q.1 else Ci p.2.1 q.2.1
def M1(l:Bs):Pu:=(((l.headD 0).toNat:Int),BL (l.drop 1),BL (l.drop 9))
def Ex:Nat->Bs->Option (List Pu×Bs)
 | 0,l=>some ([],l)
 | k+1,l=>if l.length<17 then some ([],l) else
  if (l.headD 0).toNat<8 then (Ex k (l.drop 17)).map λr=>(M1 l::r.1,r.2) else none
def IL(d:Bs×Int):Option (List Pu):=
 if d.2≠0 then none else match Ex d.1.length d.1 with
 | none=>none
 | some (l,r)=>if r=[]/\Cx Cn l=true then some l else none
def PD.Cw(P:PD)(n:Int):Option (List Pu):=IL (P.aZ (AF n))
def PD.segs(P:PD):List Int->Option (List (Int×List Pu))
 | []=>some []
 | n::r=>match P.Cw n with
  | none=>none
  | some l=>(P.segs r).map λx=>(n,l):: x
structure Jn where
 Am:List Int
 A9:Int
 puts:Int
 AA:Option (Int×Nat)
def PD.aW(P:PD)(n:Int)(ahead:Int):List Pu×Int:=Gs P.D P.F (Ae n) ahead
def PD.bq(P:PD):List Int->List Pu->List Pu×Int
 | [],acc=>(acc,0)
 | n::r,acc=>if (P.aW n acc.length).2≠0 then ([],(P.aW n acc.length).2) else P.bq r (acc++(P.aW n acc.length).1)
def PD.puts(P:PD)(d:List Int):List Pu×Int:=P.bq d []
def PD.Ax(P:PD):List Bs:=(dList P.D.A4).map λb=>b.data.toList
def BQ(d:Int)(l:List Bs):List Int:=l.filterMap λnm=>if (Bf nm).1=1/\d<=(Bf nm).2 then some (Bf nm).2 else none
def PD.bQ(P:PD)(d:Int):Jn:=⟨BQ d P.Ax,(BQ d P.Ax).getLastD (d-1),(P.puts (BQ d P.Ax)).1.length,none⟩
def Jn.au(J:Jn)(P:PD):Int×Jn×PD:=
 if (P.ai (A8 (Ae (J.A9+1)))).1≠0 then ((P.ai (A8 (Ae (J.A9+1)))).1,J,(P.ai (A8 (Ae (J.A9+1)))).2) else
 let a:=(P.ai (A8 (Ae (J.A9+1)))).2.ad (A8 (Ae (J.A9+1))) (AE (Ae (J.A9+1))) (AQ J.puts)
 if a.2.1≠0 then (a.2.1,J,a.2.2) else
 (0,⟨J.Am++[J.A9+1],J.A9+1,J.puts,some (J.A9+1,AT (AE (Ae (J.A9+1))) (AQ J.puts))⟩,a.2.2)
def Jn.av(J:Jn)(P:PD)(p:Pu):Bool×Int×Jn×PD:=match J.AA with
 | none=>(false,0,J,P)
 | some (n,s)=>
  let a:=P.ad (A8 (Ae n)) s (Bc p.1 p.2.1 p.2.2)
  (a.1,a.2.1,{J with AA:=some (n,AT s (Bc p.1 p.2.1 p.2.2))},a.2.2)
def Jn.ad(J:Jn)(P:PD)(p:Pu):Bool×Int×Jn×PD:=
 if J.AA=none then
  (if (J.au P).1≠0 then (false,(J.au P).1,(J.au P).2.1,(J.au P).2.2) else (J.au P).2.1.av (J.au P).2.2 p)
 else J.av P p
def Jn.ae(J:Jn)(P:PD):Int×PD:=match J.AA with
 | none=>(0,P)
 | some (n,_)=>P.ae (A8 (Ae n))
structure Ar where
 ix:Ix
 j:Jn
 A9:Int
 AP:List Bs
def Ar.Ax(A:Ar):List Bs:=AI::A.j.Am.map Ae++A.ix.segs.map AF
def Ar.aX(A:Ar)(P:PD):List Bs:=P.Ax.filter λnm=>decide (nm∈A.Ax)
def Ar.aU(A:Ar)(P:PD):List Bs:=P.Ax.filter λnm=>!decide (nm∈A.Ax)
def PD.ax:List Bs->PD->Int×PD
 | [],P=>(0,P)
 | nm::r,P=>if (P.ae (A8 nm)).1≠0 then P.ae (A8 nm) else PD.ax r (P.ae (A8 nm)).2
def PD.aL:List Bs->PD->Int×PD
 | [],P=>(0,P)
 | nm::r,P=>if (P.az (A8 nm)).1≠0 then P.az (A8 nm) else PD.aL r (P.az (A8 nm)).2
def Ar.C(A:Ar)(P:PD):Int×Ar×PD:=
 if (P.ax A.AP).1≠0 then ((P.ax A.AP).1,A,(P.ax A.AP).2) else (0,{A with AP:=[]},(P.ax A.AP).2)
def Ar.aq(A:Ar)(P:PD):Int×PD:=P.aL (A.aU P)
def Ar.ad(A:Ar)(P:PD)(p:Pu):Bool×Int×Ar×PD:=
 if (A.C P).1≠0 then (false,(A.C P).1,(A.C P).2.1,(A.C P).2.2) else
 let r:=(A.C P).2.1.j.ad (A.C P).2.2 p
 (r.1,r.2.1,{ (A.C P).2.1 with j:=r.2.2.1},r.2.2.2)
def Ar.ae(A:Ar)(P:PD):Int×Ar×PD:=
 if (A.C P).1≠0 then A.C P else
 if ((A.C P).2.1.j.ae (A.C P).2.2).1≠0 then (((A.C P).2.1.j.ae (A.C P).2.2).1,(A.C P).2.1,((A.C P).2.1.j.ae (A.C P).2.2).2) else
 ((((A.C P).2.1.j.ae (A.C P).2.2).2.aJ).1,(A.C P).2.1,(((A.C P).2.1.j.ae (A.C P).2.2).2.aJ).2)
def PD.ah:List (List Pu)->Int->List Int->PD->Int×Int×List Int×PD
 | [],last,kept,P=>(0,last,kept,P)
 | l::r,last,kept,P=>if (P.aK (last+1) l).1≠0 then ((P.aK (last+1) l).1,last+1,kept,(P.aK (last+1) l).2) else
  PD.ah r (last+1) (kept++[last+1]) (P.aK (last+1) l).2
def Ar.ag(A:Ar)(P:PD)(segs:List Int):Int×Ar×PD:=
 if A.ix.B7=A.j.A9+1/\A.ix.segs=segs then (0,A,P) else
 if (P.ag (A.j.A9+1) segs).1≠0 then ((P.ag (A.j.A9+1) segs).1,A,(P.ag (A.j.A9+1) segs).2) else
 (0,{A with ix:=⟨A.j.A9+1,segs⟩,j:=⟨[],A.j.A9,0,none⟩},(P.ag (A.j.A9+1) segs).2)
def Ar.aY(A:Ar)(P:PD):Int×Ar×PD:=
 if (A.aq P).1≠0 then ((A.aq P).1,A,(A.aq P).2) else ((A.aq P).2.aJ.1,A,(A.aq P).2.aJ.2)
def Ar.ay(A:Ar)(P:PD)(kept:List Int)(fresh:List (List Pu)):Int×Ar×PD:=
 let a:=A.C P
 if a.1≠0 then a else
 let b:=a.2.1.aq a.2.2
 if b.1≠0 then (b.1,a.2.1,b.2) else
 let c:=PD.ah fresh a.2.1.A9 kept b.2
 if c.1≠0 then (c.1,{a.2.1 with A9:=c.2.1},c.2.2.2) else
 let d:=({a.2.1 with A9:=c.2.1}:Ar).ag c.2.2.2 c.2.2.1
 if d.1≠0 then d else d.2.1.aY d.2.2
def BB(t len:Int):Int:=t/len
def Az(len:Int)(p q:Pu):Bool:=
 decide (BB p.2.1 len<BB q.2.1 len\/BB p.2.1 len=BB q.2.1 len/\(p.1<q.1\/p.1=q.1/\p.2.1<q.2.1))
def EZ{α:Type}(lt:α->α->Bool)(x:α):List α->List α
 | []=>[x]
 | y::r=>if lt x y then x::y::r else y::EZ lt x r
def E4{α:Type}(lt:α->α->Bool)(l:List α):List α:=l.foldl (λs x=>EZ lt x s) []
def Ew(len:Int)(ws:List (List Pu))(d:Bool)(h p:Pu):List (List Pu):=
 let ws1:=if d\/BB p.2.1 len≠BB h.2.1 len then ws++[[]] else ws
 let last:=ws1.getLastD []
 if last≠[]/\Cn p (last.getLastD (0,0,0))=0 then ws1.dropLast++[last.dropLast++[p]] else ws1.dropLast++[last++[p]]
def Ec(len:Int):List Pu->Bool->Pu->List (List Pu)->List (List Pu)
 | [],_,_,ws=>ws
 | p::r,first,prev,ws=>Ec len r false p (Ew len ws first prev p)
def Bz(len:Int)(l:List Pu):List (List Pu):=Ec len (E4 (Az len) l) true (0,0,0) []
def Ar.aR(A:Ar)(P:PD)(Ai:Int):Int×Ar×PD:=
 if (P.puts A.j.Am).2≠0 then ((P.puts A.j.Am).2,A,P) else A.ay P A.ix.segs (Bz Ai (P.puts A.j.Am).1)
def BK(segs:List (Int×List Pu))(oldest:Int):List (List Pu)->List Int×List (List Pu)
 | []=>([],[])
 | l::r=>if l.any (λp=>decide (oldest<=p.2.1))=false then BK segs oldest r else
  match segs.find? λs=>decide (s.2=l) with
  | none=>((BK segs oldest r).1,l::(BK segs oldest r).2)
  | some s=>(s.1::(BK segs oldest r).1,(BK segs oldest r).2)
def Ar.aQ(A:Ar)(P:PD)(Ai oldest:Int):Int×Ar×PD:=match P.segs A.ix.segs with
 | none=>(7,A,P)
 | some segs=>if (P.puts A.j.Am).2≠0 then ((P.puts A.j.Am).2,A,P) else
  let k:=BK segs oldest (Bz Ai (segs.flatMap (·.2)++(P.puts A.j.Am).1))
  A.ay P (k.1.mergeSort λx y=>decide (x<=y)) k.2
def Ar.aT(P:PD):Except Int (Ar×List Pu):=match P.a8 with
 | none=>.error 7
 | some ix=>if P.Ax.any (λnm=>decide ((Bf nm).1=0)) then .error 7 else
  match P.segs ix.segs with
  | none=>.error 7
  | some segs=>if (P.puts (BQ ix.B7 P.Ax)).2≠0 then .error (P.puts (BQ ix.B7 P.Ax)).2 else
   let A:Ar:=⟨ix,P.bQ ix.B7,(P.Ax.filterMap λnm=>if (Bf nm).1=2 then some (Bf nm).2 else none).getLastD 0,[]⟩
   .ok ({A with AP:=A.aX P},segs.flatMap (·.2)++(P.puts (BQ ix.B7 P.Ax)).1)
def Aq(w:World)(Ft:Nat->Prop)(w':World)(R:World->(Nat->Prop)->Prop):Prop:=
 A3 Ft w w'/\∃d,R w' d/\(∀k,d k->k<w'.heap.size)/\∀k,d k->Ft k\/w.heap.size<=k
def Aq.Ap{w H w2:World}{Ft:Nat->Prop}{R Y:World->(Nat->Prop)->Prop}(h:Aq w Ft H R)(h2:∀d,R H d->(∀k,d k->k<H.heap.size)->(∀k,d k->Ft k\/w.heap.size<=k)->Aq H d w2 Y):Aq w Ft w2 Y:=by
 obtain⟨hc,d,hr,z,X⟩:=h;obtain⟨O,L,I,E,W⟩:=h2 d hr z X;refine⟨hc.Ap O λx hx z=>(X x hx).resolve_right (by omega),L,I,E,λk hk=>?_⟩;rcases W k hk with h|h
 ·exact X k h
 ·exact .inr (AM hc.Ak h)
def Aq.a6{w z w':World}{Ft:Nat->Prop}{R:World->(Nat->Prop)->Prop}(h:Aq z Ft w' R)(E:A3 Ab w z):Aq w Ft w' R:=by
 obtain⟨O,d,I,W,L⟩:=h;exact⟨(E.aa λ_ _ h=>h.elim).tr O,d,I,W,λk H=>(L k H).imp id λh=>AM E.Ak h⟩
def Aq.fr{w w':World}{Ft:Nat->Prop}{R z:World->(Nat->Prop)->Prop}(h:Aq w Ft w' R)(O:∀d,(∀k,d k->k<w'.heap.size)->R w' d->z w' d):Aq w Ft w' z:=by
 obtain⟨L,d,H,E,I⟩:=h;exact⟨L,d,O d E H,E,I⟩
def Aq.a1{w w':World}{Ft d:Nat->Prop}{R:World->(Nat->Prop)->Prop}(h:Aq w Ft w' R)(E:∀k,Ft k->d k):Aq w d w' R:=by
 obtain⟨O,z,I,W,L⟩:=h;exact⟨O.aa λx _ X=>E x X,z,I,W,λk H=>(L k H).imp (E k) id⟩
def Bn(w:World)(b:Nat)(P:PD)(Ft:Nat->Prop):Prop:=B3 w b P.D P.F Ft
def Bn.aP{w w':World}{b:Nat}{P:PD}{Ft:Nat->Prop}(h:Bn w b P Ft)(d:FW Ft w w'):Bn w' b P Ft:=B3.aP h d
def Ds(w:World)(size:Nat)(v:Value)(n:Nat)(xs:List Value):Prop:=
 xs.length=n*size/\∃a cap,v=.slice a n cap/\n<=cap/\cap<=maxLen/\(∀g,v.ownBlock=some g->g<w.heap.size)/\
  ∀j u,xs[j]?=some u->∃g o,a=some ⟨g,o,none⟩/\w.cell? ⟨g,o+j,none⟩=some u
def Ds.aP{w w':World}{size n:Nat}{v:Value}{xs:List Value}(h:Ds w size v n xs)(z:∀g,v.ownBlock=some g->w'.heap[g]?=w.heap[g]?):Ds w' size v n xs:=by
 obtain⟨L,a,cap,rfl,H,X,I,O⟩:=h;refine⟨L,a,cap,rfl,H,X,λg d=>?_,λj u Y=>?_⟩
 ·have:=z g d;have W:=I g d;rcases F7 g w'.heap.size with h|h
  ·exact h
  ·rw[Nk h]at this;rw[A3W W]at this;cases this
 ·obtain⟨g,o,rfl,E⟩:=O j u Y;refine⟨g,o,rfl,?_⟩;have:=z g rfl;unfold World.cell? at E ⊢;rw[this];exact E
def Ds.Aj{S:Nat->Prop}{w w':World}{size n:Nat}{v:Value}{xs:List Value}(h:Ds w size v n xs)(H:A3 S w w')(E:∀g,v.ownBlock=some g->¬S g):Ds w' size v n xs:=by
 refine h.aP λg d=>H.Ao g ?_ (E g d);obtain⟨_,a,cap,rfl,_,_,z,_⟩:=h;exact z g d
def Ds.lt{w:World}{size n:Nat}{v:Value}{xs:List Value}(h:Ds w size v n xs){g:Nat}(z:v.ownBlock=some g):g<w.heap.size:=by
 obtain⟨_,a,cap,rfl,_,_,d,_⟩:=h;exact d g z
def Ds.dy{w:World}{d e size n:Nat}{v:Value}{xs:List Value}(h:w.ownsRow d e size v n xs):Ds w size v n xs:=by
 obtain⟨a,cap,rfl,W,H,h3,O,X⟩:=B8 h;refine⟨h.1,a,cap,rfl,W,H,λg L=>AB h L,λj u z=>?_⟩;cases ha:a with
 | none=>
  subst ha;have I:=(O rfl).1;have E:=h.1;rw[I]at E;have:xs=[]:=by simpa using E
  rw[this]at z;simp at z
 | some x=>
  subst ha;obtain⟨g,rfl⟩:=X x rfl;exact⟨g,0,rfl,by simpa using BC h rfl z⟩
def Ds.Ce{w:World}{size n:Nat}{v:Value}{xs:List Value}(h:Ds w size v n xs):∃a cap,v=.slice a n cap/\n<=cap/\cap<=maxLen:=by
 obtain⟨_,a,cap,z,d,E,_⟩:=h;exact⟨a,cap,z,d,E⟩
def Ds.bT{w:World}{size:Nat}:Ds w size (.slice none 0 0) 0 []:=
 ⟨by simp,none,0,rfl,As _,by decide,λg h=>by simp[Value.ownBlock]at h,λj u d=>by simp at d⟩
def DL(l:List Int):List Value:=l.map λn=>A0 n
def Tp(l:List Int):(DL l).length=l.length:=by simp[DL]
def KZ(a b:List Int):DL (a++b)=DL a++DL b:=by simp[DL]
def OF(l:List Int)(k:Nat)(h:k<l.length):(DL l)[k]?=some (A0 (l[k]'h)):=by simp[DL,h]
def JU(l:List Int):∀u∈DL l,u.oneCell'=true:=by
 intro u hu;simp[DL]at hu;obtain⟨x,_,rfl⟩:=hu;rfl
def D5(w:World)(v:Value)(l:List Int):Prop:=Ds w 1 v l.length (DL l)
def Dy(w:World)(v:Value)(l:List Int):Prop:=w.ownsRow 0 3 1 v l.length (DL l)
def Dy.rd{w:World}{v:Value}{l:List Int}(h:Dy w v l):D5 w v l:=Ds.dy h
def Dj(l:List Bs):List Value:=l.map λx=>.string ⟨x.toArray⟩
def MD(a b:List Bs):Dj (a++b)=Dj a++Dj b:=by simp[Dj]
def A2f(l:List Bs)(k:Nat)(h:k<l.length):(Dj l)[k]?=some (.string ⟨(l[k]'h).toArray⟩):=by simp[Dj,h]
def MC(l:List Bs):∀u∈Dj l,u.oneCell'=true:=by
 intro u hu;simp[Dj]at hu;obtain⟨x,_,rfl⟩:=hu;rfl
def WD(l:List ByteArray):Fy l=Dj (l.map λb=>b.data.toList):=by simp[Fy,Dj]
def GB(w:World)(v:Value)(l:List Bs):Prop:=Ds w 1 v l.length (Dj l)
def Dl(w:World)(v:Value)(l:List Bs):Prop:=w.ownsRow 0 9 1 v l.length (Dj l)
def Dl.rd{w:World}{v:Value}{l:List Bs}(h:Dl w v l):GB w v l:=Ds.dy h
def Ho(w:World)(v:Value)(l:List Pu):Prop:=Ds w 3 v l.length (B9 l)
def AW.rd{w:World}{v:Value}{l:List Pu}(h:AW w v l):Ho w v l:=Ds.dy h
def D5.at{w:World}{a:Option Addr}{n cap:Nat}{l:List Int}(h:D5 w (.slice a n cap) l)(k:Nat)(d:k<l.length):∃g o,a=some (Aa g o)/\A7 w g (o+k) (A0 (l[k]'d)):=by
 obtain⟨_,a',cap',e,_,_,_,z⟩:=h;cases e;exact z k _ (OF l k d)
def Ho.at{w:World}{a:Option Addr}{n cap:Nat}{l:List Pu}(h:Ho w (.slice a n cap) l)(k:Nat)(d:k<l.length):∃g o,a=some (Aa g o)/\g<w.heap.size/\A7 w g (o+k*3) (A0 (l[k]'d).1)/\A7 w g (o+k*3+1) (A0 (l[k]'d).2.1)/\A7 w g (o+k*3+2) (A0 (l[k]'d).2.2):=by
 obtain⟨_,a',cap',e,_,_,E,z⟩:=h;cases e;obtain⟨H,W,I⟩:=He l k d;obtain⟨g,o,rfl,c1⟩:=z _ _ H;obtain⟨L,O,e,c2⟩:=z _ _ W;cases e;obtain⟨L,O,e,c3⟩:=z _ _ I;cases e;exact⟨g,o,rfl,E g rfl,c1,c2,c3⟩
def GB.at{w:World}{a:Option Addr}{n cap:Nat}{l:List Bs}(h:GB w (.slice a n cap) l)(k:Nat)(d:k<l.length):∃g o,a=some (Aa g o)/\A7 w g (o+k) (.string ⟨(l[k]'d).toArray⟩):=by
 obtain⟨_,a',cap',e,_,_,_,z⟩:=h;cases e;exact z k _ (A2f l k d)
structure CN (a c m:Nat):Prop where
 a:a<=1073741824
 c:c<=1000000000000
 m:m<=4294967296
def Fit.eu{P:PD}{a c m:Nat}(h:Fit P a c m)(d:CN a c m):B4 P.F P.D.A4<=4611686018427387904:=
 AM h.dK (AM (MU d.a d.m) (by decide))
def K3{P:PD}{a c m:Nat}(h:Fit P a c m)(nm:ByteArray):(CC P.D P.F nm).1<=m:=by
 unfold CC;cases hx:lookup P.D.A4 nm with
 | none=>simp
 | some f=>have:=h.B5 f (FQ hx);simp;omega
section
variable {w:World} {b fb:Nat} {P:PD} {Ft:Nat->Prop} {T:TypeId} {name:ByteArray} {s a c m:Nat}
def A1p(H:Bd w fb T (A5 b) name s)(h:Bn w b P Ft)(E:Fit P a c m)(z:CN a c m):
 Ag 240 #[A5 fb] w (Al (A0 (P.ai name).1) λw'=>Aq w Ft w' (λw' d=>Bn w' b (P.ai name).2 d)):=
 TZ H h P.D.AS P.D.cB (by have:=E.A4;have:=E.Aj;have:=z.a;have:=z.c;omega)
def QB(z:Bd w fb T (A5 b) name s)(h:Bn w b P Ft):
 Ag 164 #[A5 fb] w (Al (A0 (P.ae name).1) λw'=>Aq w Ft w' (λw' d=>Bn w' b (P.ae name).2 d)):=Wg z h
def Jp(w:World)(Ft:Nat->Prop)(fb:Nat)(w':World)(b:Nat)(P:PD):Prop:=Kn w Ft fb w' b P.D P.F
def A3i(z:Bd w fb T (A5 b) name s)(I:s<4294967296)(h:Bn w b P Ft)(E:∀k,Ft k->k<w.heap.size)(O:¬Ft fb)(l:Bs)(hll:l.length<=4294967296)(d:Fit P a c m)(H:CN a c m):
 Ag 237 #[A5 fb,.string ⟨l.toArray⟩] w (Al (.tuple #[.bool (P.ad name s l).1,A0 (P.ad name s l).2.1]) λw'=>Bd w' fb T (A5 b) name (AT s l)/\Jp w Ft fb w' b (P.ad name s l).2.2):=by
 have hm:=H.m;have hp:(AR s l).length=l.length+4:=by simp[AR,Hd]
 have L:=d.an name (AR s l);have hz:=K3 L name;have hz2:=K3 d name
 exact addF z I h E O l d.AH (d.eu H) d.BJ (λf z=>by have:=d.B5 f (FQ z);omega) (by omega) ⟨by
  show (CC (P.an name (AR s l)).2.D (P.an name (AR s l)).2.F name).1<=_;omega,by omega⟩
def Q8(nm l:Bs)(hs:s<4294967296)(h:Bn w b P Ft)(Y:∀k,Ft k->k<w.heap.size)(aR:l.length<=4294967296)(hF:Fit P a c m)(hl:CN (a+1) (c+1) m):
 Ag 196 #[.agg #[A5 b,.string ⟨nm.toArray⟩,.int .u32 s],.string ⟨l.toArray⟩] w (Al (A0 (P.aI nm s l).1) λw'=>Aq w Ft w' (λw' aB=>Bn w' b (P.aI nm s l).2 aB)):=by
 have aK:CN a c m:=⟨by have:=hl.a;omega,by have:=hl.c;omega,hl.m⟩;have aG:Bd (w.aC #[A5 b,.string (A8 nm),.int .u32 s] 160) w.heap.size 160 (A5 b) (A8 nm) s:=BN w _;have k0:A3 Ab w (w.aC #[A5 b,.string (A8 nm),.int .u32 s] 160):=(A3.I _ w).ak _;have h0:Bn (w.aC #[A5 b,.string (A8 nm),.int .u32 s] 160) b P Ft:=B3.aH h Y k0;have CR:=A1 (A1p aG h0 hF aK);have AD:Hid (∀H,Bd H w.heap.size 160 (A5 b) (A8 nm) s->∀d,Bn H b (P.ai (A8 nm)).2 d->(∀k,d k->k<H.heap.size)->¬d w.heap.size->_):=λH q1 d q2 q3 q4=>A3i q1 hs q2 q3 q4 l aR (hF.ai (A8 nm)) hl;have aD:Hid (∀H,Bd H w.heap.size 160 (A5 b) (A8 nm) (AT s l)->∀d,Bn H b ((P.ai (A8 nm)).2.ad (A8 nm) s l).2.2 d->_):=λH q1 d q2=>QB q1 q2;have aQ:=A1 aG;have aZ:=A1 k0;have aF:=A1 Y
 have W:Hid (P.aI nm s l=if (P.ai (A8 nm)).1≠0 then P.ai (A8 nm) else
  if ((P.ai (A8 nm)).2.ad (A8 nm) s l).2.1≠0 then ((P.ai (A8 nm)).2.ad (A8 nm) s l).2 else
  ((P.ai (A8 nm)).2.ad (A8 nm) s l).2.2.ae (A8 nm)):=rfl
 generalize hR:P.aI nm s l=R at W ⊢;generalize hC:P.ai (A8 nm)=C at W CR AD aD;generalize hD:C.2.ad (A8 nm) s l=D at W AD aD;generalize hE:D.2.2.ae (A8 nm)=E at W aD
 go_enter func196,ntmps196
 go_wp2_with (fail);refine CR.m ?_;rintro e H⟨rfl,aI,d,q2,q3,q4⟩;have aH:=A1 (aQ.o.aj aI λh=>FZ _ (aF.o _ h));have aU:Hid (A3 (λk=>Ft k) w H):=(aZ.o.aa λ_ _ h=>h.elim).tr aI;have aP:Hid (w.heap.size<H.heap.size):=aH.o.lt;have a4:=A1 q2;have aY:=A1 q3;have aJ:Hid (∀k,d k->Ft k\/w.heap.size<k):=λk L=>(q4 k L).imp id λh=>by simp at h;omega
 have aX:Hid (¬d w.heap.size):=λL=>(aJ.o _ L).elim (λh=>FZ _ (aF.o _ h)) λh=>FZ _ h
 have aE:=A1 (AD.o H aH.o d q2 q3 aX.o);by_cases hc:C.1=0
 case neg=>
  have hR:R=C:=by rw[W.o,Ah hc]
  have hb:(C.1 !=0)=true:=by simpa using hc
  go_wp2;go_ret;subst hR;exact⟨rfl,aU.o,d,a4.o,aY.o,λk L=>(aJ.o k L).imp id ER⟩
 case pos=>
 have hb:(C.1 !=0)=false:=by simpa using hc
 have aV:Hid (R=if D.2.1≠0 then D.2 else E):=by rw[W.o,Ad (by simpa using hc)];rfl
 have aS:∀I,(Bd I w.heap.size 160 (A5 b) (A8 nm) (AT s l)/\Jp H d w.heap.size I b D.2.2)->Hid (A3 (λk=>Ft k) w I/\∃z,Bn I b D.2.2 z/\(∀k,z k->k<I.heap.size)/\(∀k,z k->Ft k\/w.heap.size<k)/\Ag 164 #[A5 w.heap.size] I (Al (A0 E.1) λw'=>Aq I z w' (λw' aB=>Bn w' b E.2 aB))):=by
  rintro I⟨X,O,z,p2,p3,p4⟩;refine⟨aU.o.Ap O λx hx Y=>hx.elim (λh=>(aJ.o x h).resolve_right (by omega)) λh=>by omega,z,p2,p3,λk L=>(p4 k L).elim (λh=>aJ.o k h) λh=>.inr (by have:=aP.o;omega),aD.o I X z p2⟩
 have aA:=A1 aS;by_cases hd:D.2.1=0
 case neg=>
  have hR:R=D.2:=by rw[aV.o,Ah hd]
  have aN:(D.2.1 !=0)=true:=by simpa using hd
  go_wp2_with (go_at_call 237;refine aE.m ?_;rintro e I⟨rfl,X,O⟩;have a2:=aA.o I ⟨X,O⟩);go_ret;subst hR;obtain⟨k2,z,p2,p3,p5,-⟩:=a2.o;exact⟨rfl,k2,z,p2,p3,λk L=>(p5 k L).imp id ER⟩
 case pos=>
 have aN:(D.2.1 !=0)=false:=by simpa using hd
 have hR:R=E:=by rw[aV.o,Ad (by simpa using hd)]
 subst hR;go_wp2_with (fail);refine aE.m ?_;rintro e I⟨rfl,X,O⟩;obtain⟨k2,z,p2,p3,p5,sy⟩:=(aA.o I ⟨X,O⟩).o;have aT:=A1 k2;have aW:=A1 p5;have aD:=A1 sy;go_wp2_with (go_at_call 164;refine aD.m ?_;rintro e w3⟨rfl,aO,aL,r2,r3,r4⟩;have aM:=A1 aO;have a0:=A1 r2;have a1:=A1 r3;have a3:=A1 r4);go_ret;exact⟨rfl,aT.o.Ap aM.o λx hx Y=>(aW.o x hx).resolve_right (by omega),aL,a0.o,a1.o,λk L=>(a3.o k L).elim (λh=>(aW.o k h).imp id ER) λh=>.inr (by have:=aT.o.Ak;omega)⟩
end
def Lh{P:PD}{a c m:Nat}(h:Fit P a c m)(nm:Bs):(P.Co nm).1.length<=m:=by
 unfold PD.Co DP;cases hx:lookup P.D.A4 (A8 nm) with
 | none=>simp
 | some f=>exact h.B5 f (FQ hx)
section
variable {w:World} {b:Nat} {P:PD} {Ft:Nat->Prop} {a c m:Nat}
def RI(nm:Bs)(h:Bn w b P Ft)(H:∀k,Ft k->k<w.heap.size)(hF:Fit P a c m)(hl:CN a c m):
 Ag 126 #[.agg #[A5 b,.string ⟨nm.toArray⟩,.int .u32 (AE nm)]] w (Al (.tuple #[.string ⟨(P.aZ nm).1.toArray⟩,A0 (P.aZ nm).2]) λw'=>A3 Ab w w'):=by
 have aE:=Lh hF nm;have hm:=hl.m;have aB:=Jx nm;obtain⟨s,hs⟩:∃s,AE nm=s:=⟨_,rfl⟩
 have aD:Hid (P.aZ nm=if (P.Co nm).2≠0 then ([],(P.Co nm).2) else match Hy s (P.Co nm).1 with
  | some d=>(d,0)
  | none=>([],7)):=by rw[<-hs];rfl
 generalize W:P.aZ nm=R at aD ⊢;rw[hs]at aB ⊢;have Y:Bd (w.aC #[A5 b,.string (A8 nm),.int .u32 s] 160) w.heap.size 160 (A5 b) (A8 nm) s:=BN w _;have k0:A3 Ab w (w.aC #[A5 b,.string (A8 nm),.int .u32 s] 160):=(A3.I _ w).ak _;have aN:=A1 (UF Y (B3.aH h H k0));obtain⟨x,X⟩:∃x,P.Co nm=x:=⟨_,rfl⟩;have I:Hid (Ag 166 #[A5 w.heap.size] (w.aC #[A5 b,.string (A8 nm),.int .u32 s] 160) (Al (.tuple #[.string ⟨x.1.toArray⟩,A0 x.2]) λw'=>A3 Ab (w.aC #[A5 b,.string (A8 nm),.int .u32 s] 160) w')):=by
  rw[<-X];exact aN.o
 rw[X]at aD aE;obtain⟨t,ae⟩:=x;dsimp only at aD aE I;have aJ:=A1 Y;have aL:=A1 k0;have aH:=A1 aB
 go_enter func126,ntmps126
 by_cases he:ae=0
 case neg=>
  have hb:(ae !=0)=true:=by simpa using he
  have W:R=([],ae):=by rw[aD.o,Ah he]
  subst W;go_wp2_with (go_at_call 166;refine I.m ?_;rintro e z⟨rfl,E⟩;have aG:=A1 E);go_ret2;exact⟨rfl,aL.o.tr aG.o⟩
 case pos=>
 subst he
 have aF:Hid (R=match Hy s t with
  | some d=>(d,0)
  | none=>([],7)):=by rw[aD.o,Ad (by simp)];rfl
 have aO:Hid (∀z,Bd z w.heap.size 160 (A5 b) (A8 nm) s->∃(d:Bs) (ok:Bool),R=(if ok then (d,0) else ([],7))/\Ag 167 #[A5 w.heap.size,.string ⟨t.toArray⟩] z (Al (.tuple #[.string ⟨d.toArray⟩,.bool ok]) λw'=>A3 (One w.heap.size) z w')):=λz aK=>by
  by_cases h4:t.length<4
  ·refine⟨[],false,?_,?_⟩
   ·rw[aF.o];unfold Hy;rw[Ah h4];rfl
   ·refine(W2 z w.heap.size t h4).mono ?_;rintro e w'⟨rfl,rfl⟩;exact⟨rfl,A3.I _ _⟩
  ·refine⟨t.take (t.length-4),decide (Ca (AT s (t.take (t.length-4)))=t.drop (t.length-4)),?_,?_⟩
   ·rw[aF.o];unfold Hy;rw[Ad h4];by_cases hq:Ca (AT s (t.take (t.length-4)))=t.drop (t.length-4)
    ·rw[Ah hq,CH hq];rfl
    ·rw[Ad hq,CZ hq];rfl
   ·have:=Nv z w.heap.size 160 (A5 b) (A8 nm) s (t.take (t.length-4)) (t.drop (t.length-4)) aK aH.o (by rw[Cu];omega) (by rw[BU];omega);rw[DK]at this;refine this.mono ?_;rintro e w'⟨h1,h2,h3⟩;exact⟨h1,h3⟩
 go_wp2_with (fail);refine I.m ?_;rintro e z⟨rfl,E⟩;obtain⟨d,ok,W,aI⟩:=aO.o z (aJ.o.aj E (λh=>h));have aM:Hid (A3 Ab w z):=aL.o.tr E;have aA:=A1 aI;cases ok with
 | false=>
  simp only[Q2,C4]at W;subst W;go_wp2_with (go_at_call 167;refine aA.m ?_;rintro e w2⟨rfl,L⟩;have O:=A1 L);go_ret2;exact⟨rfl,aM.o.Ap O.o λx X H=>by cases X;omega⟩
 | true=>
  simp only[Cg]at W;subst W;go_wp2_with (go_at_call 167;refine aA.m ?_;rintro e w2⟨rfl,L⟩;have O:=A1 L);go_ret2;exact⟨rfl,aM.o.Ap O.o λx X H=>by cases X;omega⟩
end
def Tryz.dc:(Tryz.prog.info? 3).map (λi=>(i.zero,i.size,i.bytes))=some (some (A0 0),1,8):=by kernel_rfl
def A0d{k:Nat}{l:Bs}(h:l.length<8):Gb k l=[]:=by cases k<;>simp[Gb,h]
def A0f(l:Bs): -9223372036854775808<=BL l/\BL l<=9223372036854775807:=by unfold BL wrap64;omega
def A0b(w:World)(E:Bs)(hl0:E.length<=4294967296):
 Calls Tryz.prog 127 #[.string ⟨E.toArray⟩] w λe w'=>∃v,e=.returned v/\Dy w' v (En E)/\(∀g,v.ownBlock=some g->w.heap.size<=g)/\A3 (λ_=>False) w w':=by
 obtain⟨R,hR⟩:∃R,En E=R:=⟨_,rfl⟩;have aT:Hid (Gb E.length E=R):=hR;rw[hR];obtain⟨Y,hi,aF,aI,aJ⟩:∃Y,Tryz.prog.info? 3=some Y/\Y.zero=some (.int .i64 0)/\Y.size=1/\Y.bytes=8:=by
  have h:=Tryz.dc;cases hx:Tryz.prog.info? 3 with
  | none=>rw[hx]at h;cases h
  | some i=>rw[hx]at h;simp at h;exact⟨i,rfl,h.1,h.2.1,h.2.2⟩
 go_enter func127,ntmps127
 go_wp2;go_loopw [0,3] (λtv v wr=>∃(l:Bs) (k:Nat) (d:List Int),tv=.string ⟨l.toArray⟩/\d.length*8+l.length<=E.length/\Hid (Dy wr v d/\(∀g,v.ownBlock=some g->w.heap.size<=g)/\A3 (λ_=>False) w wr/\l.length<=k/\R=d++Gb k l)) (λtv _ _=>match tv with | .string x=>x.size|_=>0)
 case atStart=>exact⟨E,E.length,[],rfl,by simp,CD _ _ _ _,λg H=>by simp[Value.ownBlock]at H,A3.I _ _,As _,by rw[aT.o];rfl⟩
 case round=>
  obtain⟨l,k,d,rfl,aA,hI⟩:=hrel;have z:(ByteArray.mk l.toArray).size=l.length:=by show l.toArray.size=_;simp
  by_cases h8:l.length<8
  case pos=>
   obtain⟨i1,i2,i3,-,i5⟩:=hI.o;rw[A0d h8,FF]at i5;subst i5;(have aE:¬(8<=(l.length:Int)):=by omega);have aO:=A1 i1;have aS:=A1 i2;have aP:=A1 i3;go_wp2;go_ret;exact⟨_,rfl,aO.o,aS.o,aP.o⟩
  case neg=>
   obtain⟨i1,i2,i3,i4,i5⟩:=hI.o;obtain⟨k,rfl⟩:∃k',k=k'+1:=⟨k-1,by omega⟩;have aH:Hid (R=(d++[BL l])++Gb k (l.drop 8)):=by
    unfold Hid;rw[i5];simp[Gb,h8]
   have L:=A1 (Mg wr l (by omega));have hx:=A0f l;generalize hxe:BL l=x at aH L hx;obtain⟨ap,cp,rfl,hcap1,W,-⟩:=B8 i1;unfold maxLen at W;have e2:(ByteArray.mk l.toArray).extract 8 l.length=⟨(l.drop 8).toArray⟩:=by
    rw[extract_mk,Er (by rw[Cu];omega)]
   have O:(l.drop 8).length=l.length-8:=Cu;generalize hq:l.drop 8=q at e2 aH O;generalize htx:ByteArray.mk l.toArray=tx at e2 z L ⊢;generalize hll:l.length=ll at e2 z O aA h8 i4;(have h8i:(8:Int)<=(ll:Int):=by omega);have aM:=A1 i1;have aN:=A1 i2;have aL:=A1 i3;have aQ:=A1 i4;have I:=A1 O;have aD:=A1 aA
   go_wp2_with (first
    | (go_at_call 168;refine L.o.mono ?_;rintro e w4⟨rfl,rfl⟩)
    | (at_builtin
       have aB:Hid ((wr.alloc (.cells #[.int .i64 x] 3)).ownsRow 0 3 1 (.slice ap d.length cp) d.length (DL d)):=Ay aM.o λg H=>Dc _ _ _ (AB aM.o H);have aG:=A1 (Src.bb (size:=1) (B:=wr.heap.size) underlying26 wr #[.int .i64 x] 3 (by simp) 1 1 rfl (JU [x]));refine D4 rfl (.tmp 9) (.tmp 12) 26 26 rfl 3 Y _ 1 8 underlying26 hi aF aI aJ rfl (by decide) (.slice ap d.length cp) d.length (DL d) (by rfl) aB.o _ 1 _ (by rfl) aG.o (by have:=aD.o;omega) ?_;intro a8 cap8 w8 X;have aR:=A1 X
       clear X))
   go_roundw
   case rel=>
    have X:=aR.o;have aK:=X.Aj (S:=λk=>(Value.slice ap d.length cp).ownBlock=some k) λ_ h=>h;have k9:A3 (λ_=>False) wr (wr.alloc (.cells #[.int .i64 x] 3)):=(A3.I _ wr).ak _;refine⟨q,k,d++[x],rfl,by have:=aD.o;have:=I.o;simp;omega,?_,?_,?_,by have:=aQ.o;have:=I.o;omega,aH.o⟩
    ·(have e:(d++[x]).length=d.length+1:=by simp);unfold Dy;rw[KZ,e];exact X.AA
    ·intro g H;rcases X.Cj with h|h
     ·rw[h]at H;exact aN.o g H
     ·rw[h]at H;cases H;exact AM aL.o.Ak k9.Ak
    ·exact(aL.o.Ap k9 λ_ h _=>h).Ap aK λy hy aE=>by have:=aN.o y hy;omega
   case measure=>
    (have e:(ByteArray.mk q.toArray).size=q.length:=by show q.toArray.size=_;simp);have:=I.o;simp only[e,z];omega
def Tryz.fw:(Tryz.prog.info? 260).map (·.size)=some 2:=by kernel_rfl
def Tryz.ga:liesAt Tryz.prog Tryz.prog.depth 260 (2/Tryz.prog.cellsOf 260) 0 260 1=true:=by kernel_rfl
def GD(B b:Nat)(l:List UInt8)(w:World):Prop:=Lib.IsBuilder 260 5 B b (Lib.byteCells l) w
def A1D(B b:Nat)(bs:List Value)(w:World)(h:Lib.IsBuilder 260 5 B b bs w):
 Ag 238 #[A5 b] w (Al (.tuple #[]) λw'=>(Lib.BuilderAt 260 5 B b (A5 b) bs w'/\Below B w w')):=by
 obtain⟨j,z,E⟩:=A3m.1 Tryz.fw;rcases h with h|h
 ·have I:=h.cell0;have d:=h.shape;have hfz:=h.frozen0;have H:=A1 h
  go_enter func238,ntmps238
  go_wp2;rw[Lib.run_to_unsafe w (Aa b 0) underlying258 underlying217 z (by rw[E];decide) d (Nat.zero_lt_succ 1)];simp only[Result.andThen];rw[V4];go_wp2;rw[Xg func262 (by kernel_rfl) (by kernel_rfl) (by kernel_rfl) (e:=Extern.AbiNoEscape.same) (by kernel_rfl)];rw[Lib.run_noEscape];simp only[Result.andThen];rw[V4];go_wp2;rw[Lib.run_from_unsafe w (Aa b 0) underlying217 underlying258 z d Tryz.ga];simp only[Result.andThen];rw[V4];go_wp2;go_end0;exact⟨rfl,H.o.used _,(Nj B w).setCell (p:=(Aa b 0)) H.o.1 _⟩
 ·have I:=h.cell0;have H:=A1 h
  go_enter func238,ntmps238
  go_wp2;rw[Lib.run_neq_ptr_same w _ underlying258 z];go_wp2;go_end0;exact⟨rfl,H.o,Nj B _⟩
def VI(B b:Nat)(bs:List Value)(s:ByteArray)(w:World)(h:Lib.IsBuilder 260 5 B b bs w)(hlen:bs.length+s.size<=140737488355328)(hBw:B<=w.heap.size):
 Ag 194 #[A5 b,.string s] w (Al (.tuple #[A0 s.size,.nilIface]) λw'=>(Lib.BuilderAt 260 5 B b (A5 b) (bs++Lib.strCells s) w'/\Below B w w')):=by
 obtain⟨i0,hi,aA,aB,aD⟩:=E7 Tryz.infoByte
 go_enter func194,ntmps194
 go_wp2_with (go_at_call 238;refine(A1D B b bs _ h).mono ?_);rintro e O⟨rfl,h1,L⟩;obtain⟨hB,v,E,I,Y⟩:=h1;have c0:O.cell? (Aa b 0)=some (A5 b):=by rw[PU E];rfl
 have c1:O.cell? (Aa b 1)=some v:=by rw[PU E];rfl
 go_wp2_with (at_builtin;refine Lib.wpList_append_own_string _ rfl _ _ 127 9 rfl B 5 i0 underlying127 underlying9 hi aA aB aD _ _ _ rfl I s rfl ?c3 ?c4 ?c5 ?_)
 case c3=>unfold maxLen;omega
 case c4=>omega
 case c5=>have:=L.size;omega
 intro v' W d z _;have X:b<O.heap.size:=by
  rcases F7 b O.heap.size with h' | h'
  ·exact h'
  ·simp[Array.getElem?_eq_none h']at E
 have H:W.heap[b]?=some (.cells #[A5 b,v] 260 (0,0)):=by
  rw[z.block b X (λe=>Y e.symm)];exact E
 have d0:W.cell? (Aa b 0)=some (A5 b):=by rw[PU H];rfl
 have d1:W.cell? (Aa b 1)=some v:=by rw[PU H];rfl
 have f1:W.frozen? (Aa b 1)=false:=Lib.frozen_of_heap H 1;obtain⟨ao,n',cap,rfl⟩:∃ao n' cap,v'=.slice ao n' cap:=by
  rcases d.2 with⟨hv,_⟩|⟨g,cap,cur,hv,_⟩
  ·exact⟨_,_,_,hv⟩
  ·exact⟨_,_,_,hv⟩
 go_wp2;go_ret2;refine⟨rfl,?_,?_⟩
 ·exact Lib.BuilderAt.put (T:=260) (e:=5) hB H (bs':=bs++Lib.strCells s) (by simpa[Lib.strCells_length] using d) (by decide)
 ·exact(L.grown z (by have:=L.size;omega) (λk hk=>(I.lt k hk).1)).setCell (p:=(Aa b 1)) hB _
def WG(l:List UInt8):Lib.strCells ⟨l.toArray⟩=Lib.byteCells l:=by
 simp[Lib.strCells,Lib.byteCells]
def Nl{B b:Nat}{l t:List UInt8}(w:World)(h:GD B b l w)(d:l.length+t.length<=140737488355328)(z:B<=w.heap.size):
 Calls Tryz.prog 194 #[.pointer (some ⟨b,0,none⟩),.string ⟨t.toArray⟩] w λe w'=>e=.returned (.tuple #[.int .i64 t.length,.nilIface])/\GD B b (l++t) w'/\Below B w w':=by
 have H:(ByteArray.mk t.toArray).size=t.length:=by show t.toArray.size=_;simp
 refine(VI B b (Lib.byteCells l) ⟨t.toArray⟩ w h (by rw[Lib.byteCells_length,H];exact d) z).mono ?_;rintro e w'⟨rfl,E,I⟩;refine⟨by rw[H],.inr ?_,I⟩;rw[WG]at E;have:Lib.byteCells (l++t)=Lib.byteCells l++Lib.byteCells t:=by simp[Lib.byteCells]
 rw[this];exact E
def A2c{B b:Nat}{l:List UInt8}(w:World)(h:GD B b l w)(d:B<=w.heap.size):
 Ag 197 #[A5 b] w (Al (.string ⟨l.toArray⟩) λw'=>Below B w w'):=Tryz.Builder_String_any B b l w h d
def Uo(w:World):GD w.heap.size w.heap.size [] (w.alloc (.cells #[.pointer none,.slice none 0 0] 260)):=
 .inl ⟨As _,_,BN w _,CD _ _ _ _,by simp[Value.ownBlock]⟩
def GD.aj{B b:Nat}{l:List UInt8}{w w':World}{S:Nat->Prop}(h:GD B b l w)(H:A3 S w w')(E:∀k,S k->k<B):GD B b l w':=by
 have key:∀p,Lib.BuilderAt 260 5 B b p (Lib.byteCells l) w->Lib.BuilderAt 260 5 B b p (Lib.byteCells l) w':=by
  rintro p⟨O,v,I,d,L⟩;refine⟨O,v,H.aj I (λh=>by have:=E _ h;omega),?_,L⟩;exact Ay d λg z=>H.Ao g (AB d z) (λh=>by have:=E _ h;have:=(d.lt g z).1;omega)
 exact h.imp (key _) (key _)
section
variable {α:Type} (lt:α->α->Bool)
structure BT:Prop where
 Ig:∀x,lt x x=false
 Ap:∀x y z,lt x y=true->lt y z=true->lt x z=true
 KH:∀x y z,lt x z=true->lt x y=true\/lt y z=true
def eqv(x y:α):Bool:=!lt x y && !lt y x
def Bh(l l':List α):Prop:=∀x,l.filter (eqv lt x)=l'.filter (eqv lt x)
def B1(l:List α):Prop:=l.Pairwise λx y=>lt y x=false
variable {lt}
def Bh.I(l:List α):Bh lt l l:=λ_=>rfl
def Bh.bG{l l':List α}(h:Bh lt l l'):Bh lt l' l:=λx=>(h x).symm
def Bh.Ap{l l' d:List α}(h:Bh lt l l')(z:Bh lt l' d):Bh lt l d:=λx=>(h x).trans (z x)
def Bh.an{a a' b d:List α}(h:Bh lt a a')(z:Bh lt b d):Bh lt (a++b) (a'++d):=λx=>by
 rw[Lz,Lz,h x,z x]
def BT.eK(h:BT lt)(x:α):eqv lt x x=true:=by simp[eqv,h.Ig]
def BT.cm(h:BT lt){x y:α}(d:lt x y=true):lt y x=false:=by
 cases hyx:lt y x with
 | false=>rfl
 | true=>have:=h.Ap _ _ _ d hyx;rw[h.Ig]at this;cases this
def BT.dt(h:BT lt){x y z:α}(H:lt y x=false)(E:lt z y=false):lt z x=false:=by
 cases hzx:lt z x with
 | false=>rfl
 | true=>rcases h.KH z y x hzx with d|d
         ·rw[E]at d;cases d
         ·rw[H]at d;cases d
def BT.fJ(h:BT lt){x y z:α}(E:lt y z=true)(H:eqv lt x y=true):eqv lt x z=false:=by
 cases hz:eqv lt x z with
 | false=>rfl
 | true=>
  simp[eqv]at H hz;rcases h.KH y x z E with d|d
  ·rw[H.2]at d;cases d
  ·rw[hz.1]at d;cases d
def BT.bn(h:BT lt){x y:α}(d:lt y x=true):Bh lt [x,y] [y,x]:=λz=>by
 simp only[Fb,List.filter_nil];cases h1:eqv lt z y with
 | false=>cases eqv lt z x<;>rfl
 | true=>rw[h.fJ d h1];rfl
def BT.eb(h:BT lt){x:α}{ys:List α}(d:∀y∈ys,lt y x=true):Bh lt (x::ys) (ys++[x]):=by
 induction ys with
 | nil=>exact Bh.I _
 | cons y r ih=>
  have H:Bh lt (x::y::r) (y::x::r):=by
   have:=(h.bn (d y (BF ..))).an (Bh.I (lt:=lt) r);simpa using this
  have E:Bh lt (y::x::r) (y::(r++[x])):=by
   have:=(Bh.I (lt:=lt) [y]).an (ih λz I=>d z (Bx _ I));simpa using this
  exact H.Ap E
def BT.eH(h:BT lt){xs ys:List α}(d:∀x∈xs,∀y∈ys,lt y x=true):Bh lt (xs++ys) (ys++xs):=by
 induction xs with
 | nil=>simpa using Bh.I (lt:=lt) ys
 | cons x r ih=>
  have H:=ih λz L=>d z (Bx _ L);have E:Bh lt (x::(r++ys)) (x::(ys++r)):=by simpa using(Bh.I (lt:=lt) [x]).an H
  have I:=(h.eb (d x (BF ..))).an (Bh.I r);have:=E.Ap I;simpa using this
def BT.df(h:BT lt){y:α}{xs:List α}(E:∀x∈xs,lt y x=true):Bh lt (xs++[y]) (y::xs):=by
 simpa using h.eH (xs:=xs) (ys:=[y]) λx H z d=>by simp at d;subst d;exact E x H
def Bh.DB{l l':List α}(d:BT lt)(h:Bh lt l l'){x:α}(z:x∈l):x∈l':=by
 have:x∈l.filter (eqv lt x):=GQ.2 ⟨z,d.eK x⟩;rw[h x]at this;exact(GQ.1 this).1
def BT.ey(d:BT lt):∀ {l l':List α},B1 lt l->B1 lt l'->Bh lt l l'->l=l'
 | [],[],_,_,_=>rfl
 | [],b::r',_,_,h=>by have:=(h.bG).DB d (BF (a:=b) (l:=r'));cases this
 | a::r,[],_,_,h=>by have:=h.DB d (BF (a:=a) (l:=r));cases this
 | a::r,b::r',h1,h2,h=>by
  have O:=Db.1 h1;have W:=Db.1 h2;have I:lt a b=false:=by
   rcases BR.1 (h.DB d (BF (a:=a) (l:=r))) with rfl|E
   ·exact d.Ig _
   ·exact W.1 a E
  have H:lt b a=false:=by
   rcases BR.1 (h.bG.DB d (BF (a:=b) (l:=r'))) with rfl|E
   ·exact d.Ig _
   ·exact O.1 b E
  have X:eqv lt a b=true:=by simp[eqv,I,H]
  have L:=h a;rw[IF (d.eK a),IF X]at L;obtain rfl:a=b:=(Jo L).1;refine Ei (a :: ·) (d.ey O.2 W.2 λx=>?_);have z:=h x;cases hc:eqv lt x a with
  | true=>rw[IF hc,IF hc]at z;exact(Jo z).2
  | false=>rw[Kj (by rw[hc];decide),Kj (by rw[hc];decide)]at z;exact z
def A0r{x y:α}{l:List α}:y∈EZ lt x l↔y=x\/y∈l:=by
 induction l with
 | nil=>simp[EZ]
 | cons z r ih=>
  unfold EZ;split
  ·simp
  ·simp only[BR,ih];constructor
   ·rintro (h|h|h)
    ·exact .inr (.inl h)
    ·exact .inl h
    ·exact .inr (.inr h)
   ·rintro (h|h|h)
    ·exact .inr (.inl h)
    ·exact .inl h
    ·exact .inr (.inr h)
def BT.eZ(H:BT lt){x:α}{l:List α}(h:B1 lt l):B1 lt (EZ lt x l):=by
 induction l with
 | nil=>simp[EZ,B1]
 | cons z r ih=>
  have I:=Db.1 h;unfold EZ;split
  ·rename_i E;refine Db.2 ⟨λy d=>?_,h⟩;rcases BR.1 d with rfl|d
   ·exact H.cm E
   ·exact H.dt (H.cm E) (I.1 y d)
  ·rename_i E;refine Db.2 ⟨λy d=>?_,ih I.2⟩;rcases A0r.1 d with rfl|d
   ·simpa using E
   ·exact I.1 y d
def BT.eN(H:BT lt){x:α}{l:List α}(h:B1 lt l):Bh lt (l++[x]) (EZ lt x l):=by
 induction l with
 | nil=>exact Bh.I _
 | cons z r ih=>
  have L:=Db.1 h;unfold EZ;split
  ·rename_i I;refine H.df λy E=>?_;rcases BR.1 E with rfl|E
   ·exact I
   ·rcases H.KH x y z I with d|d
    ·exact d
    ·rw[L.1 y E]at d;cases d
  ·simpa using(Bh.I (lt:=lt) [z]).an (ih L.2)
def BT.du(d:BT lt):∀(l s:List α),B1 lt s->B1 lt (l.foldl (λs x=>EZ lt x s) s)/\Bh lt (s++l) (l.foldl (λs x=>EZ lt x s) s)
 | [],s,h=>⟨h,by simpa using Bh.I (lt:=lt) s⟩
 | x::r,s,h=>by
  obtain⟨E,z⟩:=d.du r _ (d.eZ (x:=x) h);refine⟨E,Bh.Ap ?_ z⟩;have:=(d.eN (x:=x) h).an (Bh.I (lt:=lt) r);simpa using this
def BT.eF(d:BT lt)(l:List α):B1 lt (E4 lt l):=(d.du l [] List.Pairwise.nil).1
def BT.cz(d:BT lt)(l:List α):Bh lt l (E4 lt l):=by
 have:=(d.du l [] List.Pairwise.nil).2;rw[Es]at this;exact this
def BT.eC(d:BT lt){l l':List α}(h:B1 lt l')(z:Bh lt l l'):l'=E4 lt l:=
 d.ey h (d.eF l) (z.bG.Ap (d.cz l))
def B1.an{a b:List α}(h:B1 lt (a++b)):B1 lt a/\B1 lt b/\∀x∈a,∀y∈b,lt y x=false:=by
 have:=Ek.1 h;exact⟨this.1,this.2.1,this.2.2⟩
def B1.cJ{a b:List α}(d:B1 lt a)(z:B1 lt b)(h:∀x∈a,∀y∈b,lt y x=false):B1 lt (a++b):=Ek.2 ⟨d,z,h⟩
def BT.e2(I:BT lt){d A2 z h s1 s2:List α}(hA:B1 lt (d++A2))(hB:B1 lt (z++h))(h1:∀x∈d,∀y∈h,lt y x=false)(L:∀x∈A2,∀y∈z,lt y x=true)(X:B1 lt s1)(k2:B1 lt s2)(W:Bh lt (d++z) s1)(O:Bh lt (A2++h) s2):B1 lt (s1++s2)/\Bh lt (d++A2++(z++h)) (s1++s2):=by
 obtain⟨a1,a2,a3⟩:=hA.an;obtain⟨b1,b2,Y⟩:=hB.an;refine⟨B1.cJ X k2 λx H y E=>?_,?_⟩
 ·rcases AU.1 (W.bG.DB I H) with H|H<;>rcases AU.1 (O.bG.DB I E) with E|E
  ·exact a3 x H y E
  ·exact h1 x H y E
  ·exact I.cm (L y E x H)
  ·exact Y x H y E
 ·have m:=((Bh.I (lt:=lt) d).an (I.eH L)).an (Bh.I h);have e:d++A2++(z++h)=d++(A2++z)++h:=by simp
  have e':d++(z++A2)++h=d++z++(A2++h):=by simp
  rw[e];refine m.Ap ?_;rw[e'];exact W.an O
def BT.cO(d:BT lt){a b:List α}(X:B1 lt a)(hb:B1 lt b)(h:∀x y,a.getLast?=some x->b.head?=some y->lt y x=false):∀x∈a,∀y∈b,lt y x=false:=by
 intro x W y O;rcases LA a with rfl|⟨a',z,rfl⟩
 ·cases W
 cases b with
 | nil=>cases O
 | cons y0 b'=>
  have Y:=h z y0 (by simp) rfl;have I:lt z x=false:=by
   (have E:x∈a'\/x=z:=by simpa using W);rcases E with H|rfl
   ·exact(B1.an (by simpa using X)).2.2 x H z (by simp)
   ·exact d.Ig _
  have L:lt y y0=false:=by
   rcases BR.1 O with rfl|H
   ·exact d.Ig _
   ·exact(Db.1 hb).1 y H
  exact d.dt (d.dt I Y) L
def BT.dA(E:BT lt){a b:List α}(ha:B1 lt a)(hb:B1 lt b)(h:∀x y,a.getLast?=some y->b.head?=some x->lt y x=true):∀x∈b,∀y∈a,lt y x=true:=by
 intro x X y W;rcases LA a with rfl|⟨a',z,rfl⟩
 ·cases W
 cases b with
 | nil=>cases X
 | cons x0 b'=>
  have Y:=h x0 z (by simp) rfl;have O:lt z y=false:=by
   (have H:y∈a'\/y=z:=by simpa using W);rcases H with I|rfl
   ·exact(B1.an (by simpa using ha)).2.2 y I z (by simp)
   ·exact E.Ig _
  have L:lt x x0=false:=by
   rcases BR.1 X with rfl|I
   ·exact E.Ig _
   ·exact(Db.1 hb).1 x I
  have h1:lt y x0=true:=by
   rcases E.KH z y x0 Y with d|d
   ·rw[O]at d;cases d
   ·exact d
  rcases E.KH y x x0 h1 with d|d
  ·exact d
  ·rw[L]at d;cases d
end
end
section
open Go.RowKit
attribute [local go_sem ↓] CE
def ZZ(w:World)(x:Int):Ag 169 #[A0 x] w (Al (.bool false) λw'=>w=w'):=by
 go_enter func169,ntmps169
 go_wp2;go_ret;exact⟨rfl,rfl⟩
def P9(w:World)(x y:Int):Ag 130 #[A0 x,A0 y] w (Al (A0 (Ci x y)) λw'=>w=w'):=by
 have d:=A1 (ZZ);unfold Ci
 go_enter func130,ntmps130
 by_cases h:x<y
 ·rw[Ah h];go_wp2_with (go_at_call 169;refine(d.o _ _).mono ?_;rintro e w'⟨rfl,rfl⟩);go_ret;exact⟨rfl,rfl⟩
 ·by_cases z:y<x
  ·rw[Ad h,Ah z];go_wp2_with (go_at_call 169;refine(d.o _ _).mono ?_;rintro e w'⟨rfl,rfl⟩);go_ret;exact⟨rfl,rfl⟩
  ·rw[Ad h,Ad z];go_wp2_with (go_at_call 169;refine(d.o _ _).mono ?_;rintro e w'⟨rfl,rfl⟩);go_ret;exact⟨rfl,rfl⟩
def JK(a b:Int):Int:=if a≠0 then a else b
def Sh(w:World)(g:Nat)(a b:Int)(h0:A7 w g 0 (A0 a))(h1:A7 w g 1 (A0 b)):
 Ag 156 #[AJ g 2 2] w (Al (A0 (JK a b)) λw'=>w=w'):=by
 unfold JK
 go_enter func156,ntmps156
 by_cases d:a=0
 ·subst d;rw[Ad (by simp)];by_cases h:b=0
  ·subst h;go_wp2;refine HV 3 ?_;rw[EV];go_wp2;rw[EV];go_wp2;rw[EV];go_wp2;go_ret;exact⟨rfl,rfl⟩
  ·(have hb':(b !=0)=true:=by simpa using h);go_wp2;refine HV 2 ?_;rw[EV];go_wp2;rw[EV];go_wp2;go_ret;exact⟨rfl,rfl⟩
 ·rw[Ah d];have ha':(a !=0)=true:=by simpa using d
  go_wp2;refine HV 1 ?_;rw[EV];go_wp2;go_ret;exact⟨rfl,rfl⟩
def A1U(p q:Pu):Cn p q=JK (Ci p.1 q.1) (Ci p.2.1 q.2.1):=rfl
def Dt(p:Pu):Value:=.agg #[A0 p.1,A0 p.2.1,A0 p.2.2]
def O3(w:World)(p q:Pu):Ag 158 #[Dt p,Dt q] w (Al (A0 (Cn p q)) λw'=>A3 Ab w w'):=by
 obtain⟨E,d,I⟩:=p;obtain⟨z,H,O⟩:=q;rw[A1U];unfold Dt;dsimp only
 have aF:=A1 (P9);have OR:=A1 (Sh);obtain⟨x,hx⟩:∃x,Ci E z=x:=⟨_,rfl⟩;obtain⟨y,hy⟩:∃y,Ci d H=y:=⟨_,rfl⟩;rw[hx,hy];have b1:C5 ((w.alloc (.cells #[A0 E,A0 d,A0 I] 113)).alloc (.cells #[A0 z,A0 H,A0 O] 113)) w.heap.size E d I:=(Dc _ _ _ (by simp)).trans (BN w _);have b2:C5 ((w.alloc (.cells #[A0 E,A0 d,A0 I] 113)).alloc (.cells #[A0 z,A0 H,A0 O] 113)) (w.heap.size+1) z H O:=by
  have:=BN (w.alloc (.cells #[A0 E,A0 d,A0 I] 113)) (.cells #[A0 z,A0 H,A0 O] 113);simpa[C5] using this
 have k2:A3 Ab w ((w.alloc (.cells #[A0 E,A0 d,A0 I] 113)).alloc (.cells #[A0 z,A0 H,A0 O] 113)):=((A3.I _ w).ak _).ak _;have sz:((w.alloc (.cells #[A0 E,A0 d,A0 I] 113)).alloc (.cells #[A0 z,A0 H,A0 O] 113)).heap.size=w.heap.size+2:=by simp
 have X:=A1 b1;have W:=A1 b2;have aE:=A1 k2;have aH:=A1 sz
 go_enter func158,ntmps158
 go_wp2;generalize ((w.alloc (.cells #[A0 E,A0 d,A0 I] 113)).alloc (.cells #[A0 z,A0 H,A0 O] 113))=w2 at X W aE aH ⊢;refine BP (λw'=>A7 w' w.heap.size 0 (A0 E)/\A7 w' w.heap.size 1 (A0 d)/\A7 w' (w.heap.size+1) 0 (A0 z)/\A7 w' (w.heap.size+1) 1 (A0 H)) 14
  (Bq [0,1,2,3,5,6,7,8,9,10,4,11,12,13] [4,11,12,13]) ⟨X.o.c0,X.o.c1,W.o.c0,W.o.c1⟩ ?_
 iterate 10 (refine Bg ?_;(try simp only[An]))
 refine Bw λK L=>?_;go_simp;have Y:=A1 X.o.af;have aB:=A1 W.o.af;refine(aF.o _ _ _).mono ?_;rintro e w3⟨rfl,rfl⟩;rw[hx];refine L _ _ ⟨Y.o.c0,Y.o.c1,aB.o.c0,aB.o.c1⟩ (λhS=>?_)
 (try simp only[An])
 refine Bw λK L=>?_;go_simp;refine(aF.o _ _ _).mono ?_;rintro e w4⟨rfl,rfl⟩;rw[hy];refine L _ _ ⟨Y.o.c0,Y.o.c1,aB.o.c0,aB.o.c1⟩ (λhS=>?_)
 (try simp only[An])
 refine Bw λK L=>?_;go_simp;have ka:A3 Ab w2 (w2.alloc (.cells #[A0 x,A0 y] 3)).drew:=((A3.I _ _).ak _).af;have aD:=X.o.aj ka (λh=>h);have aA:=W.o.aj ka (λh=>h);have hb:(w2.alloc (.cells #[A0 x,A0 y] 3)).drew.heap[w2.heap.size]?=some (.cells #[A0 x,A0 y] 3):=BN w2 _;refine L _ _ ⟨aD.c0,aD.c1,aA.c0,aA.c1⟩ (λhS=>?_)
 (try simp only[An])
 refine Bw λK L=>?_;go_simp;refine(OR.o _ _ x y (by simp only[A7,World.cell?,hb];rfl) (by simp only[A7,World.cell?,hb];rfl)).mono ?_;rintro e w5⟨rfl,rfl⟩;refine L _ _ ⟨aD.c0,aD.c1,aA.c0,aA.c1⟩ (λhS=>?_);have aG:Hid (A3 Ab w (w2.alloc (.cells #[A0 x,A0 y] 3)).drew):=aE.o.tr ka
 (try simp only[An])
 refine Bl ?_;simp only[BI,BH];go_wp2;go_ret;exact⟨rfl,aG.o⟩
end
section
open Go.RowKit
attribute [local go_sem ↓] Go.wp_at_zero Go.wp_at_succ
def It(t d A6:Int):Bool:=decide (t+d>A6)
def AN(x:Int):Prop:=-9223372036854775808<=x/\x<=9223372036854775807
def G1(A6 d:Int):Int:=if A6>9223372036854775807-d then 9223372036854775807 else A6+d
end
section
open Go.RowKit
attribute [local go_sem ↓] CE
def VU{t len:Int}(h:1<=len):BB t len=if t.tmod len<0 then t.tdiv len-1 else t.tdiv len:=by
 unfold BB;have e1:=Int.mul_ediv_add_emod t len;have e2:=LH t (b:=len) (by omega);have e3:=PY t (b:=len) (by omega);have f1:=A3S t len;have f3:t.tmod len<len:=Nc t (by omega);have f4 : -len<t.tmod len:=by
  by_cases X:0<=t
  ·have:=Int.tmod_nonneg len X;omega
  ·have:=Nc (-t) (b:=len) (by omega);rw[Nf]at this;omega
 obtain⟨q,H⟩:∃q,t/len=q:=⟨_,rfl⟩;obtain⟨r,I⟩:∃r,t % len=r:=⟨_,rfl⟩;obtain⟨q',z⟩:∃q',t.tdiv len=q':=⟨_,rfl⟩;obtain⟨E,d⟩:∃E,t.tmod len=E:=⟨_,rfl⟩;rw[H,I]at e1;rw[I]at e2 e3;rw[z,d]at f1;rw[d]at f3 f4;rw[H,z,d];have key:len*(q-q')=E-r:=by
  have:len*(q-q')=len*q-len*q':=Int.mul_sub ..;omega
 by_cases L:E<0
 ·rw[Ah L];have Y : -(2*len)<len*(q-q'):=by omega
  have W:len*(q-q')<0:=by omega
  have O:q-q'<0:=by
   rcases LD (q-q') 0 with h|h
   ·exact h
   ·have:=Int.mul_nonneg (a:=len) (by omega) h;omega
  have k2 : -2<q-q':=by
   rcases LD (-2) (q-q') with h|h
   ·exact h
   ·have:len*(q-q')<=len*(-2):=Vx h (by omega);omega
  omega
 ·rw[Ad L];have Y : -len<len*(q-q'):=by omega
  have W:len*(q-q')<len:=by omega
  have O:q-q'<1:=by
   rcases LD (q-q') 1 with h|h
   ·exact h
   ·have:len*1<=len*(q-q'):=Vx h (by omega);omega
  have k2 : -1<q-q':=by
   rcases LD (-1) (q-q') with h|h
   ·exact h
   ·have:len*(q-q')<=len*(-1):=Vx h (by omega);omega
  omega
def Wb{t len:Int}(I:AN t)(z:1<=len)(H:t.tmod len<0):AN (t.tdiv len-1):=by
 obtain⟨t1,t2⟩:=I;have f1:=A3S t len;have f4 : -len<t.tmod len:=by
  by_cases L:0<=t
  ·have:=Int.tmod_nonneg len L;omega
  ·have:=Nc (-t) (b:=len) (by omega);rw[Nf]at this;omega
 obtain⟨q,E⟩:∃q,t.tdiv len=q:=⟨_,rfl⟩;obtain⟨r,d⟩:∃r,t.tmod len=r:=⟨_,rfl⟩;rw[E,d]at f1;rw[d]at f4 H;rw[E];constructor
 ·rcases LD 0 q with h|h
  ·omega
  ·have:len*q<=1*q:=Int.mul_le_mul_of_nonpos_right z h;omega
 ·rcases LD (q-1) 0 with h|h
  ·omega
  ·have h2:1*(q-1)<=len*(q-1):=Int.mul_le_mul_of_nonneg_right z h;have h3:len*(q-1)=len*q-len*1:=Int.mul_sub ..;omega
def Np(w:World)(t len:Int)(E:AN t)(h:1<=len/\len<=4611686018427387904):
 Ag 157 #[A0 t,A0 len] w (Al (A0 (BB t len)) λw'=>w=w'):=by
 obtain⟨t1,t2⟩:=E;have hl0:¬len=0:=by omega
 rw[VU h.1]
 go_enter func157,ntmps157
 by_cases d:t.tmod len<0
 ·rw[Ah d];have z:wrap64 (t.tdiv len-1)=t.tdiv len-1:=by
   have:=Wb ⟨t1,t2⟩ h.1 d;unfold AN at this;unfold wrap64;omega
  go_wp2
  all_goals first|(exfalso;omega)|skip
  go_ret;refine⟨?_,rfl⟩;show Ending.returned (A0 (wrap64 (t.tdiv len-1)))=_;rw[z]
 ·rw[Ad d];go_wp2
  all_goals first|(exfalso;omega)|skip
  go_ret;exact⟨rfl,rfl⟩
def Rg{α:Type}(cmp:α->α->Int):∀(l:List α) (k:Nat) (h:k+1<l.length),Cx cmp (l.drop k)=(decide (cmp (l[k]'(by omega)) (l[k+1]'h)<0)&&Cx cmp (l.drop (k+1))):=by
 intro l k h;rw[Fw (by omega:k<l.length),Fw h];rfl
def Rf{α:Type}(cmp:α->α->Int)(l:List α)(k:Nat)(h:l.length<=k+1):Cx cmp (l.drop k)=true:=by
 have:(l.drop k).length<=1:=by rw[Cu];omega
 match hx:l.drop k with
 | []=>rfl
 | [x]=>rfl
 | x::y::r=>rw[hx]at this;simp at this
def Pd(x y:Int):Ci x y = -1\/Ci x y=0\/Ci x y=1:=by
 unfold Ci;split
 ·exact .inl rfl
 ·split
  ·exact .inr (.inr rfl)
  ·exact .inr (.inl rfl)
def Xv(w:World)(v:Value)(l:List Int)(h:D5 w v l)(hl:l.length<1099511627776):
 Ag 129 #[v,.func (.func 130) #[] #[]] w (Al (.bool (Cx Ci l)) λw'=>∃n,w'=w.drewN n):=by
 obtain⟨a,cap,rfl,h1,h2⟩:=h.Ce;unfold maxLen at h2;have aE:Hid (Cx Ci l=Cx Ci (l.drop 0)):=rfl;generalize hR:Cx Ci l=R at aE ⊢;have H:=A1 h
 go_enter func129,ntmps129
 go_wp2;go_loopw [5] (λiv wr=>∃k:Nat,iv=A0 ((k:Int)+1)/\k<=l.length/\(∃n,wr=w.drewN n)/\Hid (R=Cx Ci (l.drop k))) (λiv _=>l.length+1-(intOf iv).toNat)
 case atStart=>exact⟨0,rfl,by omega,⟨0,rfl⟩,aE.o⟩
 case round=>
  obtain⟨k,rfl,hk,⟨n,rfl⟩,O⟩:=hrel;by_cases z:k+1<l.length
  ·obtain⟨g,o,rfl,c1⟩:=D5.at H.o k (by omega);obtain⟨g',o',e,c2⟩:=D5.at H.o (k+1) z;cases e;have d:=O.o;rw[Rg Ci l k z]at d;have L:=Pd (l[k]'(by omega)) (l[k+1]'z);have W:=A1 (λn=>P9 (w.drewN n) (l[k]'(by omega)) (l[k+1]'z));obtain⟨x,hx⟩:∃x,(l[k]'(by omega))=x:=⟨_,rfl⟩;obtain⟨y,hy⟩:∃y,(l[k+1]'z)=y:=⟨_,rfl⟩;rw[hx]at c1 d L W;rw[hy]at c2 d L W;generalize aB:Ci x y=cc at d L W;have d1:∀n,A7 (w.drewN n) g (o+k) (A0 x):=λn=>c1;have d2:∀n,A7 (w.drewN n) g (o+(k+1)) (A0 y):=λn=>c2;have I:=A1 d;clear c1 c2 hx hy aB d O;(have aA:(k:Int)+1<(l.length:Int):=by omega);have hk0:=C3 k;(have hki2:(k:Int)<(l.length:Int):=by omega);(have aD:IntKind.i64.wrap (k:Int)=k:=by simp[IntKind.wrap,IntKind.bits,IntKind.signed];omega);(have ew1:IntKind.i64.wrap ((k:Int)+1-1)=k:=by rw[Js];exact aD);(have tk:((k:Int)+1).toNat=k+1:=by omega);(have pk:(0:Int)<=(k:Int)+1:=by omega);by_cases hc:cc<0
   ·have E:Hid (R=Cx Ci (l.drop (k+1))):=by
     have:=I.o;rw[CH hc,Nh]at this;exact this
    clear I;(have Y:¬(0<=cc):=by omega);go_wp2;refine BP (λw'=>A7 w' g (o+k) (A0 x)/\A7 w' g (o+(k+1)) (A0 y)) 11
     (Bq [0,1,2,3,4,5,6,7,8,9,10] [10]) ⟨d1 (n+1),d2 (n+1)⟩ ?_
    iterate 10 (refine Bg ?_;(try simp only[An]))
    refine Bw λK X=>?_;go_simp;refine(W.o (n+1)).mono ?_;rintro e w3⟨rfl,rfl⟩;refine X _ _ ⟨d1 (n+1),d2 (n+1)⟩ (λhS=>?_);clear X K hS
    (try simp only[An])
    refine Bl ?_;simp only[BI,BH];go_wp2;go_roundw
    case rel=>exact⟨k+1,by go_num,by omega,⟨n+1,rfl⟩,E.o⟩
    case measure=>simp[intOf];omega
   ·have E:R=false:=by
     have:=I.o;rw[CZ hc,VA]at this;exact this
    clear I;subst E;(have Y:0<=cc:=by omega);go_wp2;refine BP (λw'=>A7 w' g (o+k) (A0 x)/\A7 w' g (o+(k+1)) (A0 y)) 11
     (Bq [0,1,2,3,4,5,6,7,8,9,10] [10]) ⟨d1 (n+1),d2 (n+1)⟩ ?_
    iterate 10 (refine Bg ?_;(try simp only[An]))
    refine Bw λK X=>?_;go_simp;refine(W.o (n+1)).mono ?_;rintro e w3⟨rfl,rfl⟩;refine X _ _ ⟨d1 (n+1),d2 (n+1)⟩ (λhS=>?_)
    (try simp only[An])
    refine Bl ?_;simp only[BI,BH];go_wp2;go_ret;exact⟨rfl,_,rfl⟩
  ·(have E:R=true:=by rw[O.o,Rf Ci l k (by omega)]);subst E;(have aA:¬((k:Int)+1<(l.length:Int)):=by omega);go_wp2;go_ret;exact⟨rfl,_,rfl⟩
def Ui(p q:Pu):Cn p q = -1\/Cn p q=0\/Cn p q=1:=by
 unfold Cn;split<;>exact Pd _ _
def Xu(w:World)(v:Value)(l:List Pu)(h:Ho w v l)(hl:l.length<1099511627776):
 Ag 177 #[v,.func (.func 158) #[] #[]] w (Al (.bool (Cx Cn l)) λw'=>A3 Ab w w'):=by
 obtain⟨a,cap,rfl,h1,h2⟩:=h.Ce;unfold maxLen at h2;have aP:Hid (Cx Cn l=Cx Cn (l.drop 0)):=rfl;generalize hR:Cx Cn l=R at aP ⊢;have H:=A1 h
 go_enter func177,ntmps177
 go_wp2;go_loopw [5] (λiv wr=>∃k:Nat,iv=A0 ((k:Int)+1)/\k<=l.length/\Hid (A3 Ab w wr)/\Hid (R=Cx Cn (l.drop k))) (λiv _=>l.length+1-(intOf iv).toNat)
 case atStart=>exact⟨0,rfl,by omega,A3.I _ _,aP.o⟩
 case round=>
  obtain⟨k,rfl,hk,z,aB⟩:=hrel;by_cases O:k+1<l.length
  ·obtain⟨g,o,rfl,-,c1,c2,c3⟩:=Ho.at H.o k (by omega);obtain⟨g',o',e,-,c4,c5,c6⟩:=Ho.at H.o (k+1) O;cases e;have d:=aB.o;rw[Rg Cn l k O]at d;have Y:=Ui (l[k]'(by omega)) (l[k+1]'O);have aD:=A1 (λE=>O3 E (l[k]'(by omega)) (l[k+1]'O));obtain⟨x,W⟩:∃x,(l[k]'(by omega))=x:=⟨_,rfl⟩;obtain⟨y,hy⟩:∃y,(l[k+1]'O)=y:=⟨_,rfl⟩;rw[W]at c1 c2 c3 d Y aD;rw[hy]at c4 c5 c6 d Y aD;obtain⟨x1,x2,x3⟩:=x;obtain⟨y1,y2,y3⟩:=y;generalize hcc:Cn (x1,x2,x3) (y1,y2,y3)=cc at d Y aD;dsimp only at c1 c2 c3 c4 c5 c6;have d1:=z.o.af.al c1;have d2:=z.o.af.al c2;have d3:=z.o.af.al c3;have d4:=z.o.af.al c4;have d5:=z.o.af.al c5;have d6:=z.o.af.al c6;have aE:=A1 d;have aI:=A1 c1;have aL:=A1 c2;have aK:=A1 c3;have aF:=A1 c4;have aM:=A1 c5;have aG:=A1 c6;(have aH:(k:Int)+1<(l.length:Int):=by omega);have hk0:=C3 k;(have hki2:(k:Int)<(l.length:Int):=by omega);(have aJ:IntKind.i64.wrap (k:Int)=k:=by simp[IntKind.wrap,IntKind.bits,IntKind.signed];omega);(have ew1:IntKind.i64.wrap ((k:Int)+1-1)=k:=by rw[Js];exact aJ);(have tk:((k:Int)+1).toNat=k+1:=by omega);(have pk:(0:Int)<=(k:Int)+1:=by omega);have X:Hid (∀E,A3 Ab wr.drew E->(A7 E g (o+k*3) (A0 x1)/\A7 E g (o+k*3+1) (A0 x2)/\A7 E g (o+k*3+2) (A0 x3)/\A7 E g (o+(k+1)*3) (A0 y1)/\A7 E g (o+(k+1)*3+1) (A0 y2)/\A7 E g (o+(k+1)*3+2) (A0 y3))/\A3 Ab w E):=λE W=>
    ⟨⟨W.al (z.o.af.al aI.o),W.al (z.o.af.al aL.o),W.al (z.o.af.al aK.o),W.al (z.o.af.al aF.o),W.al (z.o.af.al aM.o),W.al (z.o.af.al aG.o)⟩,z.o.af.tr W⟩
   by_cases aA:cc<0
   ·have I:Hid (R=Cx Cn (l.drop (k+1))):=by
     have:=aE.o;rw[CH aA,Nh]at this;exact this
    (have aN:¬(0<=cc):=by omega);go_wp2;refine BP (λw'=>A7 w' g (o+k*3) (A0 x1)/\A7 w' g (o+k*3+1) (A0 x2)/\A7 w' g (o+k*3+2) (A0 x3)/\A7 w' g (o+(k+1)*3) (A0 y1)/\A7 w' g (o+(k+1)*3+1) (A0 y2)/\A7 w' g (o+(k+1)*3+2) (A0 y3)) 11
     (Bq [0,1,2,3,4,5,6,7,8,9,10] [10]) ⟨d1,d2,d3,d4,d5,d6⟩ ?_
    iterate 10 (refine Bg ?_;(try simp only[An]))
    refine Bw λK hK=>?_;go_simp;refine(aD.o _).mono ?_;rintro e w3⟨rfl,L⟩;refine hK _ _ (X.o w3 L).1 (λhS=>?_);have aO:=A1 (X.o w3 L).2
    (try simp only[An])
    refine Bl ?_;simp only[BI,BH];go_wp2;go_roundw
    case rel=>exact⟨k+1,by go_num,by omega,aO.o,I.o⟩
    case measure=>simp[intOf];omega
   ·have I:R=false:=by
     have:=aE.o;rw[CZ aA,VA]at this;exact this
    subst I;(have aN:0<=cc:=by omega);go_wp2;refine BP (λw'=>A7 w' g (o+k*3) (A0 x1)/\A7 w' g (o+k*3+1) (A0 x2)/\A7 w' g (o+k*3+2) (A0 x3)/\A7 w' g (o+(k+1)*3) (A0 y1)/\A7 w' g (o+(k+1)*3+1) (A0 y2)/\A7 w' g (o+(k+1)*3+2) (A0 y3)) 11
     (Bq [0,1,2,3,4,5,6,7,8,9,10] [10]) ⟨d1,d2,d3,d4,d5,d6⟩ ?_
    iterate 10 (refine Bg ?_;(try simp only[An]))
    refine Bw λK hK=>?_;go_simp;refine(aD.o _).mono ?_;rintro e w3⟨rfl,L⟩;refine hK _ _ (X.o w3 L).1 (λhS=>?_);have aO:=A1 (X.o w3 L).2
    (try simp only[An])
    refine Bl ?_;simp only[BI,BH];go_wp2;go_ret;exact⟨rfl,aO.o⟩
  ·(have I:R=true:=by rw[aB.o,Rf Cn l k (by omega)]);subst I;(have aH:¬((k:Int)+1<(l.length:Int)):=by omega);go_wp2;go_ret;exact⟨rfl,z.o⟩
end
end Go.Proofs.YtodcnkbblippnaaGreatDoor
