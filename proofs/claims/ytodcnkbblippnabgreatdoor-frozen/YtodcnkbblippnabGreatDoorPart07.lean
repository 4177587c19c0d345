/- Part 7 of a proof: walks of the program. -/
import Derived.Test.YtodcnkbblippnabGreatDoorPart06
namespace Go.Proofs.YtodcnkbblippnabGreatDoor
set_option maxRecDepth 100000
set_option maxHeartbeats 32000000
set_option linter.defProp false
open Go.Proofs.Tryz
section
open Go.RowKit
attribute [local go_sem ↓] Go.wp_at_zero Go.wp_at_succ
def HF(w:World):Prop:=
 (∃d,w.cell? ⟨1,0,none⟩=some d/\(d=.nilIface\/∃z h,d=.iface z h))/\∃d,w.cell? ⟨2,0,none⟩=some d/\(d=.nilIface\/∃z h,d=.iface z h)
def HF.aS{w w':World}(h:HF w)(d:A3 Aa w w'):HF w':=by
 obtain⟨⟨H,L,z⟩,O,I,E⟩:=h;exact⟨⟨H,d.ao L,z⟩,O,d.ao I,E⟩
def Zv(s:List UInt8):isNum (Lib.atoiSat s)=false:=by
 unfold Lib.atoiSat;split<;>rfl
def A17(w:World)(s:List UInt8)(hl:s.length<=281474976710656)(he:HF w):
 Ah 82 #[.string ⟨s.toArray⟩] w λe w'=>∃v I,e=.returned (.tuple #[A0 v,I])/\PA s v/\A3 Aa w w':=by
 obtain⟨⟨e1,L,E⟩,O,H,k2⟩:=he;have hs:(ByteArray.mk s.toArray).size=s.length:=by show s.toArray.size=_;simp
 have d:(ByteArray.mk s.toArray).data.toList=s:=by simp
 cases hr:Lib.atoiAll s with
 | ok v=>
  refine(Tryz.strconv_Atoi_ok ⟨s.toArray⟩ (by omega) v (by rw[d];exact hr) w).mono ?_;rintro e w'⟨rfl,W⟩;refine⟨v,_,rfl,.inl hr,?_⟩;rcases W with rfl|⟨t,rfl⟩
  ·exact A3.I _ _
  ·exact A3.cL (Lib.bytesWorld_below _ _ _)
 | «syntax»=>
  refine(Tryz.strconv_Atoi_syntax ⟨s.toArray⟩ (by omega) (by rw[d];exact hr) e1 w L E).mono ?_;rintro e w'⟨N,rfl,-,-,z⟩;exact⟨0,_,rfl,.inr ⟨λx h=>(by rw[hr]at h;cases h),rfl,λ_=>rfl⟩,A3.cL z⟩
 | range=>
  refine(Tryz.strconv_Atoi_range ⟨s.toArray⟩ (by omega) (by rw[d];exact hr) O w H k2).mono ?_;rintro e w'⟨N,rfl,-,-,z⟩;have Y:s≠[]:=by
   rintro rfl;(have:Lib.atoiAll []=.syntax:=by decide +kernel);rw[this]at hr;cases hr
  exact⟨Lib.atoiSat s,_,(by rw[d]),.inr ⟨λx h=>(by rw[hr]at h;cases h),Zv s,λh=>absurd h Y⟩,A3.cL z⟩
def T2(w:World)(v:Int):Ah 79 #[A0 v] w (Am (.bool (isNum v)) λw'=>w=w'):=by
 unfold isNum
 go_enter func79,ntmps79
 by_cases z:1<=v
 ·by_cases d:v<=4611686018427387904
  ·go_wp2;go_ret;exact⟨by simp[z,d],rfl⟩
  ·go_wp2;go_ret;exact⟨by simp[d],rfl⟩
 ·have e:decide (1<=v/\v<=4611686018427387904)=false:=D4 λh=>z h.1;rw[e];go_wp2;go_ret;exact⟨rfl,rfl⟩
section
variable {w:World} {B:Nat}
def Sf(w:World)(nm:List UInt8)(hl:nm.length<=281474976710656)(he:HF w)(hL:Lets B w):
 Ah 49 #[.string ⟨nm.toArray⟩] w (Am (.tuple #[A0 (Be nm).1,A0 (Be nm).2]) λw'=>A3 Aa w w'):=by
 have aR:Hid (∀(wr:World) (k:Nat),Ah 83 #[.string ⟨nm.toArray⟩,.string ⟨(D3 k).toArray⟩] wr (Am (.string ⟨(Lib.trimPrefix nm (D3 k)).toArray⟩) λw'=>w'=wr)):=λwr k=>by
  have:=Tryz.strings_TrimPrefix ⟨nm.toArray⟩ ⟨(D3 k).toArray⟩ wr;simpa using this
 have aU:Hid (∀wr:World,A3 Aa w wr->∀k:Nat,1<=k->k<=4->A6 wr 0 k (.string ⟨(D3 k).toArray⟩)):=λwr d k h1 h2=>((hL.aS d).2 wr (MV _ _)).1 k h1 h2
 have aT:Hid (∀wr:World,A3 Aa w wr->∀k:Nat,_):=λwr d k=>A17 wr (Lib.trimPrefix nm (D3 k)) (AQ (Lib.trimPrefix_le _ _) hl) (he.aS d);have aS:Hid (∀(wr:World) (k:Nat) (v:Int),A3 Aa w wr->1<=k->k<=4->isNum v=decide ((k:Int)=1\/(k:Int)=2)->Ah 85 #[A0 k,A0 v] wr λe aP=>e=.returned (.string ⟨(BL k v).toArray⟩)/\A3 Aa wr aP):=λwr k v d h1 h2 h3=>by
  by_cases hk:k=1\/k=2
  ·rw[Cv (by omega)]at h3;unfold isNum at h3;have hv:=NU h3;have hn:=Hs (n:=v) (by omega) hv.2;exact LL wr k ⟨h1,h2⟩ ⟨by omega,by omega⟩ hn.2.2 (hL.aS d)
  ·(have e:BL k v=D3 k:=by unfold BL;rw[Ac (by omega)]);rw[e];refine(Sq wr k (by omega) (D3 k) v (((hL.aS d).2 wr (MV _ _)).1 k h1 h2)).mono ?_;rintro e w'⟨rfl,rfl⟩;exact⟨rfl,A3.I _ _⟩
 obtain⟨R,hR⟩:∃R,Be nm=R:=⟨_,rfl⟩;have aN:Hid (FI nm 1=R):=by rw[Sn];exact hR
 rw[hR]
 go_enter func49,ntmps49
 go_wp2;go_loopw [4,5,6] (λiv _ _ wr=>∃k:Nat,1<=k/\k<=5/\iv=A0 k/\Hid (A3 Aa w wr)/\Hid (FI nm k=R)) (λiv _ _ _=>5-(intOf iv).toNat)
 case atStart=>exact⟨1,by omega,by omega,rfl,A3.I _ _,aN.o⟩
 case round=>
  obtain⟨k,I,hk2,rfl,d,W⟩:=hrel;by_cases hk:k<5
  ·have ck:=aU.o wr d.o k I (by omega);have aI:=A1 (aR.o wr k);have aD:=A1 (aT.o wr d.o k);have hk0:=Ce k;(have hk5:(k:Int)<5:=by omega);obtain⟨tr,aF⟩:∃tr,Lib.trimPrefix nm (D3 k)=tr:=⟨_,rfl⟩;have aO:=A1 aF;rw[aF]at aI aD;go_wp2_with (first|(go_at_call 83;refine aI.m ?_;rintro e w1⟨rfl,rfl⟩)|(go_at_call 82;fail));refine aD.m ?_;rintro e w1⟨v,er,rfl,hv,aK⟩;have L:=YC (k:=k) ⟨I,by omega⟩ (by rw[aO.o];exact hv);have z:Hid (A3 Aa w w1):=d.o.tr aK;have O:=A1 (aS.o w1 k v z.o I (by omega));obtain⟨nb,aH⟩:∃nb,isNum v=nb:=⟨_,rfl⟩;obtain⟨kb,aG⟩:∃kb,decide ((k:Int)=1\/(k:Int)=2)=kb:=⟨_,rfl⟩;rw[aH,aG]at L O;(have aQ:Hid (∀wr,Ah 79 #[A0 v] wr (Am (.bool nb) λw'=>wr=w')):=λwr=>by rw[<-aH];exact T2 wr v);(have aJ:Hid (∀wr,Ah 84 #[A0 k] wr (Am (.bool kb) λw'=>wr=w')):=λwr=>by rw[<-aG];exact Og wr k);generalize hn2:BL k v=n2 at L O;have H:=A1 L;(have E:Hid (¬(nb=kb/\n2=nm)->FI nm (k+1)=R):=λh=>by have:=H.o;rw[Ac h]at this;rw[<-this];exact W.o);(have aL:Hid (nb=kb/\n2=nm->R=((k:Int),v)):=λh=>by have:=H.o;rw[Af h]at this;rw[<-W.o];exact this);by_cases hb:nb=kb
   ·subst hb;have aM:(nb==nb)=true:=Ua nb;have aE:=A1 (O.o rfl);by_cases h3:n2=nm
    ·subst h3;have aB:=aL.o ⟨rfl,rfl⟩;subst aB;have hb:=Ua n2;go_wp2_with (first|(go_at_call 79;refine(aQ.o _).mono ?_;rintro e w2⟨rfl,rfl⟩)|(go_at_call 84;refine(aJ.o _).mono ?_;rintro e w2⟨rfl,rfl⟩)|(go_at_call 85;refine aE.m ?_;rintro e w2⟨rfl,aA⟩;have Y:=A1 aA));go_ret2;exact⟨rfl,z.o.tr Y.o⟩
    ·have hb:(n2==nm)=false:=Hc.2 h3;have hN:=A1 (E.o λh=>h3 h.2);go_wp2_with (first|(go_at_call 79;refine(aQ.o _).mono ?_;rintro e w2⟨rfl,rfl⟩)|(go_at_call 84;refine(aJ.o _).mono ?_;rintro e w2⟨rfl,rfl⟩)|(go_at_call 85;refine aE.m ?_;rintro e w2⟨rfl,aA⟩;have Y:=A1 aA));go_roundw
     case rel=>exact⟨k+1,by omega,by omega,by go_num,z.o.tr Y.o,hN.o⟩
     case measure=>simp[intOf];omega
   ·have hN:=A1 (E.o λh=>hb h.1);have aM:(nb==kb)=false:=Hc.2 hb;go_wp2_with (first|(go_at_call 79;refine(aQ.o _).mono ?_;rintro e w2⟨rfl,rfl⟩)|(go_at_call 84;refine(aJ.o _).mono ?_;rintro e w2⟨rfl,rfl⟩));go_roundw
    case rel=>exact⟨k+1,by omega,by omega,by go_num,z.o,hN.o⟩
    case measure=>simp[intOf];omega
  ·(obtain rfl:k=5:=by omega);(have aB:R=(0,0):=by rw[<-W.o,Sj]);subst aB;go_wp2;go_ret2;exact⟨rfl,d.o⟩
end
end
section
open Go.RowKit
def AR(s:Nat)(l:Bs):Bs:=l++Ca (AU s l)
def PD.aa(P:PD)(nm:ByteArray)(s:Nat)(l:Bs):Bool×Int×PD:=
 (GW P.D P.F nm (AR s l),(P.an nm (AR s l)).1,(P.an nm (AR s l)).2)
def PD.aH(P:PD)(nm:Bs)(s:Nat)(l:Bs):Int×PD:=
 if (P.ai (A7 nm)).1≠0 then P.ai (A7 nm) else
 if ((P.ai (A7 nm)).2.aa (A7 nm) s l).2.1≠0 then ((P.ai (A7 nm)).2.aa (A7 nm) s l).2 else
 ((P.ai (A7 nm)).2.aa (A7 nm) s l).2.2.ae (A7 nm)
def PD.Cl(P:PD)(nm:Bs):Bs×Int:=DJ P.D P.F (A7 nm)
def Hr(s:Nat)(t:Bs):Option Bs:=
 if t.length<4 then none else if Ca (AU s (t.take (t.length-4)))=t.drop (t.length-4) then some (t.take (t.length-4)) else none
def PD.a1(P:PD)(nm:Bs):Bs×Int:=
 if (P.Cl nm).2≠0 then ([],(P.Cl nm).2) else match Hr (AE nm) (P.Cl nm).1 with
 | some d=>(d,0)
 | none=>([],7)
def G6:Nat->Bs->List Int
 | 0,_=>[]
 | k+1,l=>if l.length<8 then [] else BH l::G6 k (l.drop 8)
def Ej(l:Bs):List Int:=G6 l.length l
def Cr{α:Type}(cmp:α->α->Int):List α->Bool
 | []=>true
 | [_]=>true
 | x::y::r=>decide (cmp x y<0)&&Cr cmp (y::r)
def Ci(x y:Int):Int:=if x<y then -1 else if y<x then 1 else 0
structure Ix where
 B7:Int
 segs:List Int
def indexOf(d:Bs×Int):Option Ix:=
 if d.2=8 then some ⟨1,[]⟩ else
 if d.2≠0\/Ej d.1=[]\/d.1.length≠(Ej d.1).length*8 then none else
 if (Ej d.1).all isNum=false then none else
 if Cr Ci (Ej d.1).tail then some ⟨(Ej d.1).headD 0,(Ej d.1).tail⟩ else none
def PD.ba(P:PD):Option Ix:=indexOf (P.a1 AI)
def Ch(d:Int)(segs:List Int):Bs:=AO d++segs.flatMap AO
def PD.ag(P:PD)(d:Int)(segs:List Int):Int×PD:=
 if (P.aH Bk (AE AI) (Ch d segs)).1≠0 then P.aH Bk (AE AI) (Ch d segs) else
 (P.aH Bk (AE AI) (Ch d segs)).2.aO (A7 Bk) (A7 AI)
def Cd(l:List Pu):Bs:=l.flatMap λp=>Bb p.1 p.2.1 p.2.2
def PD.aL(P:PD)(n:Int)(l:List Pu):Int×PD:=P.aH (AG n) (AE (AG n)) (Cd l)
def Ck(p q:Pu):Int:=if Ci p.1 q.1≠0 then Ci p.1 q.1 else Ci p.2.1 q.2.1
def LG(l:Bs):Pu:=(((l.headD 0).toNat:Int),BH (l.drop 1),BH (l.drop 9))
def Es:Nat->Bs->Option (List Pu×Bs)
 | 0,l=>some ([],l)
 | k+1,l=>if l.length<17 then some ([],l) else
  if (l.headD 0).toNat<8 then (Es k (l.drop 17)).map λr=>(LG l::r.1,r.2) else none
def It(d:Bs×Int):Option (List Pu):=
 if d.2≠0 then none else match Es d.1.length d.1 with
 | none=>none
 | some (l,r)=>if r=[]/\Cr Ck l=true then some l else none
def PD.Cq(P:PD)(n:Int):Option (List Pu):=It (P.a1 (AG n))
def PD.segs(P:PD):List Int->Option (List (Int×List Pu))
 | []=>some []
 | n::r=>match P.Cq n with
  | none=>none
  | some l=>(P.segs r).map λx=>(n,l):: x
structure Jn where
 Aj:List Int
 A8:Int
 puts:Int
 AF:Option (Int×Nat)
def PD.aX(P:PD)(n:Int)(ahead:Int):List Pu×Int:=Gm P.D P.F (Ae n) ahead
def PD.bl(P:PD):List Int->List Pu->List Pu×Int
 | [],acc=>(acc,0)
 | n::r,acc=>if (P.aX n acc.length).2≠0 then ([],(P.aX n acc.length).2) else P.bl r (acc++(P.aX n acc.length).1)
def PD.puts(P:PD)(d:List Int):List Pu×Int:=P.bl d []
def PD.Ax(P:PD):List Bs:=(dList P.D.A4).map λb=>b.data.toList
def BM(d:Int)(l:List Bs):List Int:=l.filterMap λnm=>if (Be nm).1=1/\d<=(Be nm).2 then some (Be nm).2 else none
def PD.bS(P:PD)(d:Int):Jn:=⟨BM d P.Ax,(BM d P.Ax).getLastD (d-1),(P.puts (BM d P.Ax)).1.length,none⟩
def Jn.av(J:Jn)(P:PD):Int×Jn×PD:=
 if (P.ai (A7 (Ae (J.A8+1)))).1≠0 then ((P.ai (A7 (Ae (J.A8+1)))).1,J,(P.ai (A7 (Ae (J.A8+1)))).2) else
 let a:=(P.ai (A7 (Ae (J.A8+1)))).2.aa (A7 (Ae (J.A8+1))) (AE (Ae (J.A8+1))) (AO J.puts)
 if a.2.1≠0 then (a.2.1,J,a.2.2) else
 (0,⟨J.Aj++[J.A8+1],J.A8+1,J.puts,some (J.A8+1,AU (AE (Ae (J.A8+1))) (AO J.puts))⟩,a.2.2)
def Jn.aw(J:Jn)(P:PD)(p:Pu):Bool×Int×Jn×PD:=match J.AF with
 | none=>(false,0,J,P)
 | some (n,s)=>
  let a:=P.aa (A7 (Ae n)) s (Bb p.1 p.2.1 p.2.2)
  (a.1,a.2.1,{J with AF:=some (n,AU s (Bb p.1 p.2.1 p.2.2))},a.2.2)
def Jn.aa(J:Jn)(P:PD)(p:Pu):Bool×Int×Jn×PD:=
 if J.AF=none then
  (if (J.av P).1≠0 then (false,(J.av P).1,(J.av P).2.1,(J.av P).2.2) else (J.av P).2.1.aw (J.av P).2.2 p)
 else J.aw P p
def Jn.ae(J:Jn)(P:PD):Int×PD:=match J.AF with
 | none=>(0,P)
 | some (n,_)=>P.ae (A7 (Ae n))
structure Ar where
 ix:Ix
 j:Jn
 A8:Int
 AN:List Bs
def Ar.Ax(A:Ar):List Bs:=AI::A.j.Aj.map Ae++A.ix.segs.map AG
def Ar.aY(A:Ar)(P:PD):List Bs:=P.Ax.filter λnm=>decide (nm∈A.Ax)
def Ar.aV(A:Ar)(P:PD):List Bs:=P.Ax.filter λnm=>!decide (nm∈A.Ax)
def PD.ax:List Bs->PD->Int×PD
 | [],P=>(0,P)
 | nm::r,P=>if (P.ae (A7 nm)).1≠0 then P.ae (A7 nm) else PD.ax r (P.ae (A7 nm)).2
def PD.aM:List Bs->PD->Int×PD
 | [],P=>(0,P)
 | nm::r,P=>if (P.az (A7 nm)).1≠0 then P.az (A7 nm) else PD.aM r (P.az (A7 nm)).2
def Ar.C(A:Ar)(P:PD):Int×Ar×PD:=
 if (P.ax A.AN).1≠0 then ((P.ax A.AN).1,A,(P.ax A.AN).2) else (0,{A with AN:=[]},(P.ax A.AN).2)
def Ar.au(A:Ar)(P:PD):Int×PD:=P.aM (A.aV P)
def Ar.aa(A:Ar)(P:PD)(p:Pu):Bool×Int×Ar×PD:=
 if (A.C P).1≠0 then (false,(A.C P).1,(A.C P).2.1,(A.C P).2.2) else
 let r:=(A.C P).2.1.j.aa (A.C P).2.2 p
 (r.1,r.2.1,{ (A.C P).2.1 with j:=r.2.2.1},r.2.2.2)
def Ar.ae(A:Ar)(P:PD):Int×Ar×PD:=
 if (A.C P).1≠0 then A.C P else
 if ((A.C P).2.1.j.ae (A.C P).2.2).1≠0 then (((A.C P).2.1.j.ae (A.C P).2.2).1,(A.C P).2.1,((A.C P).2.1.j.ae (A.C P).2.2).2) else
 ((((A.C P).2.1.j.ae (A.C P).2.2).2.aK).1,(A.C P).2.1,(((A.C P).2.1.j.ae (A.C P).2.2).2.aK).2)
def PD.ah:List (List Pu)->Int->List Int->PD->Int×Int×List Int×PD
 | [],last,kept,P=>(0,last,kept,P)
 | l::r,last,kept,P=>if (P.aL (last+1) l).1≠0 then ((P.aL (last+1) l).1,last+1,kept,(P.aL (last+1) l).2) else
  PD.ah r (last+1) (kept++[last+1]) (P.aL (last+1) l).2
def Ar.ag(A:Ar)(P:PD)(segs:List Int):Int×Ar×PD:=
 if A.ix.B7=A.j.A8+1/\A.ix.segs=segs then (0,A,P) else
 if (P.ag (A.j.A8+1) segs).1≠0 then ((P.ag (A.j.A8+1) segs).1,A,(P.ag (A.j.A8+1) segs).2) else
 (0,{A with ix:=⟨A.j.A8+1,segs⟩,j:=⟨[],A.j.A8,0,none⟩},(P.ag (A.j.A8+1) segs).2)
def Ar.aZ(A:Ar)(P:PD):Int×Ar×PD:=
 if (A.au P).1≠0 then ((A.au P).1,A,(A.au P).2) else ((A.au P).2.aK.1,A,(A.au P).2.aK.2)
def Ar.ay(A:Ar)(P:PD)(kept:List Int)(fresh:List (List Pu)):Int×Ar×PD:=
 let a:=A.C P
 if a.1≠0 then a else
 let b:=a.2.1.au a.2.2
 if b.1≠0 then (b.1,a.2.1,b.2) else
 let c:=PD.ah fresh a.2.1.A8 kept b.2
 if c.1≠0 then (c.1,{a.2.1 with A8:=c.2.1},c.2.2.2) else
 let d:=({a.2.1 with A8:=c.2.1}:Ar).ag c.2.2.2 c.2.2.1
 if d.1≠0 then d else d.2.1.aZ d.2.2
def BA(t len:Int):Int:=t/len
def AA(len:Int)(p q:Pu):Bool:=
 decide (BA p.2.1 len<BA q.2.1 len\/BA p.2.1 len=BA q.2.1 len/\(p.1<q.1\/p.1=q.1/\p.2.1<q.2.1))
def ET{α:Type}(lt:α->α->Bool)(x:α):List α->List α
 | []=>[x]
 | y::r=>if lt x y then x::y::r else y::ET lt x r
def DZ{α:Type}(lt:α->α->Bool)(l:List α):List α:=l.foldl (λs x=>ET lt x s) []
def Er(len:Int)(ws:List (List Pu))(d:Bool)(h p:Pu):List (List Pu):=
 let ws1:=if d\/BA p.2.1 len≠BA h.2.1 len then ws++[[]] else ws
 let last:=ws1.getLastD []
 if last≠[]/\Ck p (last.getLastD (0,0,0))=0 then ws1.dropLast++[last.dropLast++[p]] else ws1.dropLast++[last++[p]]
def E9(len:Int):List Pu->Bool->Pu->List (List Pu)->List (List Pu)
 | [],_,_,ws=>ws
 | p::r,first,prev,ws=>E9 len r false p (Er len ws first prev p)
def Bx(len:Int)(l:List Pu):List (List Pu):=E9 len (DZ (AA len) l) true (0,0,0) []
def Ar.aT(A:Ar)(P:PD)(Ai:Int):Int×Ar×PD:=
 if (P.puts A.j.Aj).2≠0 then ((P.puts A.j.Aj).2,A,P) else A.ay P A.ix.segs (Bx Ai (P.puts A.j.Aj).1)
def BG(segs:List (Int×List Pu))(oldest:Int):List (List Pu)->List Int×List (List Pu)
 | []=>([],[])
 | l::r=>if l.any (λp=>decide (oldest<=p.2.1))=false then BG segs oldest r else
  match segs.find? λs=>decide (s.2=l) with
  | none=>((BG segs oldest r).1,l::(BG segs oldest r).2)
  | some s=>(s.1::(BG segs oldest r).1,(BG segs oldest r).2)
def Ar.aQ(A:Ar)(P:PD)(Ai oldest:Int):Int×Ar×PD:=match P.segs A.ix.segs with
 | none=>(7,A,P)
 | some segs=>if (P.puts A.j.Aj).2≠0 then ((P.puts A.j.Aj).2,A,P) else
  let k:=BG segs oldest (Bx Ai (segs.flatMap (·.2)++(P.puts A.j.Aj).1))
  A.ay P (k.1.mergeSort λx y=>decide (x<=y)) k.2
def Ar.aU(P:PD):Except Int (Ar×List Pu):=match P.ba with
 | none=>.error 7
 | some ix=>if P.Ax.any (λnm=>decide ((Be nm).1=0)) then .error 7 else
  match P.segs ix.segs with
  | none=>.error 7
  | some segs=>if (P.puts (BM ix.B7 P.Ax)).2≠0 then .error (P.puts (BM ix.B7 P.Ax)).2 else
   let A:Ar:=⟨ix,P.bS ix.B7,(P.Ax.filterMap λnm=>if (Be nm).1=2 then some (Be nm).2 else none).getLastD 0,[]⟩
   .ok ({A with AN:=A.aY P},segs.flatMap (·.2)++(P.puts (BM ix.B7 P.Ax)).1)
def Ap(w:World)(Ft:Nat->Prop)(w':World)(R:World->(Nat->Prop)->Prop):Prop:=
 A3 Ft w w'/\∃d,R w' d/\(∀k,d k->k<w'.heap.size)/\∀k,d k->Ft k\/w.heap.size<=k
def Ap.Av{w H w2:World}{Ft:Nat->Prop}{R aA:World->(Nat->Prop)->Prop}(h:Ap w Ft H R)(h2:∀d,R H d->(∀k,d k->k<H.heap.size)->(∀k,d k->Ft k\/w.heap.size<=k)->Ap H d w2 aA):Ap w Ft w2 aA:=by
 obtain⟨hc,d,hr,z,Y⟩:=h;obtain⟨O,L,I,E,W⟩:=h2 d hr z Y;refine⟨hc.Av O λx hx z=>(Y x hx).resolve_right (by omega),L,I,E,λk hk=>?_⟩;rcases W k hk with h|h
 ·exact Y k h
 ·exact .inr (AQ hc.Ak h)
def Ap.a7{w z w':World}{Ft:Nat->Prop}{R:World->(Nat->Prop)->Prop}(h:Ap z Ft w' R)(E:A3 Aa w z):Ap w Ft w' R:=by
 obtain⟨O,d,I,W,L⟩:=h;exact⟨(E.ad λ_ _ h=>h.elim).tr O,d,I,W,λk H=>(L k H).imp id λh=>AQ E.Ak h⟩
def Ap.fi{w w':World}{Ft:Nat->Prop}{R z:World->(Nat->Prop)->Prop}(h:Ap w Ft w' R)(O:∀d,(∀k,d k->k<w'.heap.size)->R w' d->z w' d):Ap w Ft w' z:=by
 obtain⟨L,d,H,E,I⟩:=h;exact⟨L,d,O d E H,E,I⟩
def Ap.a6{w w':World}{Ft d:Nat->Prop}{R:World->(Nat->Prop)->Prop}(h:Ap w Ft w' R)(E:∀k,Ft k->d k):Ap w d w' R:=by
 obtain⟨O,z,I,W,L⟩:=h;exact⟨O.ad λx _ Y=>E x Y,z,I,W,λk H=>(L k H).imp (E k) id⟩
def Bh(w:World)(b:Nat)(P:PD)(Ft:Nat->Prop):Prop:=B3 w b P.D P.F Ft
def Bh.aP{w w':World}{b:Nat}{P:PD}{Ft:Nat->Prop}(h:Bh w b P Ft)(d:FO Ft w w'):Bh w' b P Ft:=B3.aP h d
def Dp(w:World)(size:Nat)(v:Value)(n:Nat)(xs:List Value):Prop:=
 xs.length=n*size/\∃a cap,v=.slice a n cap/\n<=cap/\cap<=maxLen/\(∀g,v.ownBlock=some g->g<w.heap.size)/\
  ∀j u,xs[j]?=some u->∃g o,a=some ⟨g,o,none⟩/\w.cell? ⟨g,o+j,none⟩=some u
def Dp.aP{w w':World}{size n:Nat}{v:Value}{xs:List Value}(h:Dp w size v n xs)(z:∀g,v.ownBlock=some g->w'.heap[g]?=w.heap[g]?):Dp w' size v n xs:=by
 obtain⟨L,a,cap,rfl,H,Y,I,O⟩:=h;refine⟨L,a,cap,rfl,H,Y,λg d=>?_,λj u hj=>?_⟩
 ·have:=z g d;have W:=I g d;rcases EW g w'.heap.size with h|h
  ·exact h
  ·rw[MW h]at this;rw[A3p W]at this;cases this
 ·obtain⟨g,o,rfl,E⟩:=O j u hj;refine⟨g,o,rfl,?_⟩;have:=z g rfl;unfold World.cell? at E ⊢;rw[this];exact E
def Dp.An{S:Nat->Prop}{w w':World}{size n:Nat}{v:Value}{xs:List Value}(h:Dp w size v n xs)(H:A3 S w w')(E:∀g,v.ownBlock=some g->¬S g):Dp w' size v n xs:=by
 refine h.aP λg d=>H.Al g ?_ (E g d);obtain⟨_,a,cap,rfl,_,_,z,_⟩:=h;exact z g d
def Dp.lt{w:World}{size n:Nat}{v:Value}{xs:List Value}(h:Dp w size v n xs){g:Nat}(z:v.ownBlock=some g):g<w.heap.size:=by
 obtain⟨_,a,cap,rfl,_,_,d,_⟩:=h;exact d g z
def Dp.dp{w:World}{d e size n:Nat}{v:Value}{xs:List Value}(h:w.ownsRow d e size v n xs):Dp w size v n xs:=by
 obtain⟨a,cap,rfl,W,H,h3,O,Y⟩:=B9 h;refine⟨h.1,a,cap,rfl,W,H,λg L=>Az h L,λj u z=>?_⟩;cases ha:a with
 | none=>
  subst ha;have I:=(O rfl).1;have E:=h.1;rw[I]at E;have:xs=[]:=by simpa using E
  rw[this]at z;simp at z
 | some x=>
  subst ha;obtain⟨g,rfl⟩:=Y x rfl;exact⟨g,0,rfl,by simpa using BF h rfl z⟩
def Dp.Cf{w:World}{size n:Nat}{v:Value}{xs:List Value}(h:Dp w size v n xs):∃a cap,v=.slice a n cap/\n<=cap/\cap<=maxLen:=by
 obtain⟨_,a,cap,z,d,E,_⟩:=h;exact⟨a,cap,z,d,E⟩
def Dp.b9{w:World}{size:Nat}:Dp w size (.slice none 0 0) 0 []:=
 ⟨by simp,none,0,rfl,Au _,by decide,λg h=>by simp[Value.ownBlock]at h,λj u d=>by simp at d⟩
def DF(l:List Int):List Value:=l.map λn=>A0 n
def T6(l:List Int):(DF l).length=l.length:=by simp[DF]
def Kz(a b:List Int):DF (a++b)=DF a++DF b:=by simp[DF]
def Oi(l:List Int)(k:Nat)(h:k<l.length):(DF l)[k]?=some (A0 (l[k]'h)):=by simp[DF,h]
def Jv(l:List Int):∀u∈DF l,u.oneCell'=true:=by
 intro u hu;simp[DF]at hu;obtain⟨x,_,rfl⟩:=hu;rfl
def D2(w:World)(v:Value)(l:List Int):Prop:=Dp w 1 v l.length (DF l)
def Dw(w:World)(v:Value)(l:List Int):Prop:=w.ownsRow 0 3 1 v l.length (DF l)
def Dw.rd{w:World}{v:Value}{l:List Int}(h:Dw w v l):D2 w v l:=Dp.dp h
def Dh(l:List Bs):List Value:=l.map λx=>.string ⟨x.toArray⟩
def Mg(a b:List Bs):Dh (a++b)=Dh a++Dh b:=by simp[Dh]
def A1Z(l:List Bs)(k:Nat)(h:k<l.length):(Dh l)[k]?=some (.string ⟨(l[k]'h).toArray⟩):=by simp[Dh,h]
def Mf(l:List Bs):∀u∈Dh l,u.oneCell'=true:=by
 intro u hu;simp[Dh]at hu;obtain⟨x,_,rfl⟩:=hu;rfl
def We(l:List ByteArray):Fp l=Dh (l.map λb=>b.data.toList):=by simp[Fp,Dh]
def Gw(w:World)(v:Value)(l:List Bs):Prop:=Dp w 1 v l.length (Dh l)
def Dk(w:World)(v:Value)(l:List Bs):Prop:=w.ownsRow 0 9 1 v l.length (Dh l)
def Dk.rd{w:World}{v:Value}{l:List Bs}(h:Dk w v l):Gw w v l:=Dp.dp h
def Hh(w:World)(v:Value)(l:List Pu):Prop:=Dp w 3 v l.length (Ba l)
def AY.rd{w:World}{v:Value}{l:List Pu}(h:AY w v l):Hh w v l:=Dp.dp h
def D2.at{w:World}{a:Option Addr}{n cap:Nat}{l:List Int}(h:D2 w (.slice a n cap) l)(k:Nat)(d:k<l.length):∃g o,a=some (Ab g o)/\A6 w g (o+k) (A0 (l[k]'d)):=by
 obtain⟨_,a',cap',e,_,_,_,z⟩:=h;cases e;exact z k _ (Oi l k d)
def Hh.at{w:World}{a:Option Addr}{n cap:Nat}{l:List Pu}(h:Hh w (.slice a n cap) l)(k:Nat)(d:k<l.length):∃g o,a=some (Ab g o)/\g<w.heap.size/\A6 w g (o+k*3) (A0 (l[k]'d).1)/\A6 w g (o+k*3+1) (A0 (l[k]'d).2.1)/\A6 w g (o+k*3+2) (A0 (l[k]'d).2.2):=by
 obtain⟨_,a',cap',e,_,_,E,z⟩:=h;cases e;obtain⟨H,W,I⟩:=H4 l k d;obtain⟨g,o,rfl,c1⟩:=z _ _ H;obtain⟨L,O,e,c2⟩:=z _ _ W;cases e;obtain⟨L,O,e,c3⟩:=z _ _ I;cases e;exact⟨g,o,rfl,E g rfl,c1,c2,c3⟩
def Gw.at{w:World}{a:Option Addr}{n cap:Nat}{l:List Bs}(h:Gw w (.slice a n cap) l)(k:Nat)(d:k<l.length):∃g o,a=some (Ab g o)/\A6 w g (o+k) (.string ⟨(l[k]'d).toArray⟩):=by
 obtain⟨_,a',cap',e,_,_,_,z⟩:=h;cases e;exact z k _ (A1Z l k d)
structure CM (a c m:Nat):Prop where
 a:a<=1073741824
 c:c<=1000000000000
 m:m<=4294967296
def Fit.ei{P:PD}{a c m:Nat}(h:Fit P a c m)(d:CM a c m):B4 P.F P.D.A4<=4611686018427387904:=
 AQ h.dB (AQ (Mv d.a d.m) (by decide))
def JF{P:PD}{a c m:Nat}(h:Fit P a c m)(nm:ByteArray):(Cx P.D P.F nm).1<=m:=by
 unfold Cx;cases hx:lookup P.D.A4 nm with
 | none=>simp
 | some f=>have:=h.B8 f (FJ hx);simp;omega
section
variable {w:World} {b fb:Nat} {P:PD} {Ft:Nat->Prop} {T:TypeId} {name:ByteArray} {s a c m:Nat}
def A09(H:Bc w fb T (A5 b) name s)(h:Bh w b P Ft)(E:Fit P a c m)(z:CM a c m):
 Ah 202 #[A5 fb] w (Am (A0 (P.ai name).1) λw'=>Ap w Ft w' (λw' d=>Bh w' b (P.ai name).2 d)):=
 TH H h P.D.AT P.D.cv (by have:=E.A4;have:=E.An;have:=z.a;have:=z.c;omega)
def Qc(z:Bc w fb T (A5 b) name s)(h:Bh w b P Ft):
 Ah 116 #[A5 fb] w (Am (A0 (P.ae name).1) λw'=>Ap w Ft w' (λw' d=>Bh w' b (P.ae name).2 d)):=VM z h
def J5(w:World)(Ft:Nat->Prop)(fb:Nat)(w':World)(b:Nat)(P:PD):Prop:=K0 w Ft fb w' b P.D P.F
def A2I(z:Bc w fb T (A5 b) name s)(I:s<4294967296)(h:Bh w b P Ft)(E:∀k,Ft k->k<w.heap.size)(O:¬Ft fb)(l:Bs)(hll:l.length<=4294967296)(d:Fit P a c m)(H:CM a c m):
 Ah 192 #[A5 fb,.string ⟨l.toArray⟩] w (Am (.tuple #[.bool (P.aa name s l).1,A0 (P.aa name s l).2.1]) λw'=>Bc w' fb T (A5 b) name (AU s l)/\J5 w Ft fb w' b (P.aa name s l).2.2):=by
 have hm:=H.m;have hp:(AR s l).length=l.length+4:=by simp[AR,H3]
 have L:=d.an name (AR s l);have hz:=JF L name;have hz2:=JF d name
 exact addF z I h E O l d.AB (d.ei H) d.Bq (λf z=>by have:=d.B8 f (FJ z);omega) (by omega) ⟨by
  show (Cx (P.an name (AR s l)).2.D (P.an name (AR s l)).2.F name).1<=_;omega,by omega⟩
def PG(nm l:Bs)(hs:s<4294967296)(h:Bh w b P Ft)(aA:∀k,Ft k->k<w.heap.size)(aS:l.length<=4294967296)(hF:Fit P a c m)(hl:CM (a+1) (c+1) m):
 Ah 161 #[.agg #[A5 b,.string ⟨nm.toArray⟩,.int .u32 s],.string ⟨l.toArray⟩] w (Am (A0 (P.aH nm s l).1) λw'=>Ap w Ft w' (λw' aD=>Bh w' b (P.aH nm s l).2 aD)):=by
 have aL:CM a c m:=⟨by have:=hl.a;omega,by have:=hl.c;omega,hl.m⟩;have aH:Bc (w.aC #[A5 b,.string (A7 nm),.int .u32 s] 119) w.heap.size 119 (A5 b) (A7 nm) s:=BK w _;have k0:A3 Aa w (w.aC #[A5 b,.string (A7 nm),.int .u32 s] 119):=(A3.I _ w).aj _;have h0:Bh (w.aC #[A5 b,.string (A7 nm),.int .u32 s] 119) b P Ft:=B3.aI h aA k0;have CR:=A1 (A09 aH h0 hF aL);have AD:Hid (∀H,Bc H w.heap.size 119 (A5 b) (A7 nm) s->∀d,Bh H b (P.ai (A7 nm)).2 d->(∀k,d k->k<H.heap.size)->¬d w.heap.size->_):=λH q1 d q2 q3 q4=>A2I q1 hs q2 q3 q4 l aS (hF.ai (A7 nm)) hl;have aE:Hid (∀H,Bc H w.heap.size 119 (A5 b) (A7 nm) (AU s l)->∀d,Bh H b ((P.ai (A7 nm)).2.aa (A7 nm) s l).2.2 d->_):=λH q1 d q2=>Qc q1 q2;have aR:=A1 aH;have a0:=A1 k0;have aG:=A1 aA
 have W:Hid (P.aH nm s l=if (P.ai (A7 nm)).1≠0 then P.ai (A7 nm) else
  if ((P.ai (A7 nm)).2.aa (A7 nm) s l).2.1≠0 then ((P.ai (A7 nm)).2.aa (A7 nm) s l).2 else
  ((P.ai (A7 nm)).2.aa (A7 nm) s l).2.2.ae (A7 nm)):=rfl
 generalize hR:P.aH nm s l=R at W ⊢;generalize hC:P.ai (A7 nm)=C at W CR AD aE;generalize hD:C.2.aa (A7 nm) s l=D at W AD aE;generalize hE:D.2.2.ae (A7 nm)=E at W aE
 go_enter func161,ntmps161
 go_wp2_with (fail);refine CR.m ?_;rintro e H⟨rfl,aJ,d,q2,q3,q4⟩;have aI:=A1 (aR.o.ak aJ λh=>FQ _ (aG.o _ h));have aV:Hid (A3 (λk=>Ft k) w H):=(a0.o.ad λ_ _ h=>h.elim).tr aJ;have aQ:Hid (w.heap.size<H.heap.size):=aI.o.lt;have a5:=A1 q2;have aZ:=A1 q3;have aK:Hid (∀k,d k->Ft k\/w.heap.size<k):=λk L=>(q4 k L).imp id λh=>by simp at h;omega
 have aY:Hid (¬d w.heap.size):=λL=>(aK.o _ L).elim (λh=>FQ _ (aG.o _ h)) λh=>FQ _ h
 have aF:=A1 (AD.o H aI.o d q2 q3 aY.o);by_cases hc:C.1=0
 case neg=>
  have hR:R=C:=by rw[W.o,Af hc]
  have hb:(C.1 !=0)=true:=by simpa using hc
  go_wp2;go_ret;subst hR;exact⟨rfl,aV.o,d,a5.o,aZ.o,λk L=>(aK.o k L).imp id EJ⟩
 case pos=>
 have hb:(C.1 !=0)=false:=by simpa using hc
 have aW:Hid (R=if D.2.1≠0 then D.2 else E):=by rw[W.o,Ac (by simpa using hc)];rfl
 have aT:∀I,(Bc I w.heap.size 119 (A5 b) (A7 nm) (AU s l)/\J5 H d w.heap.size I b D.2.2)->Hid (A3 (λk=>Ft k) w I/\∃z,Bh I b D.2.2 z/\(∀k,z k->k<I.heap.size)/\(∀k,z k->Ft k\/w.heap.size<k)/\Ah 116 #[A5 w.heap.size] I (Am (A0 E.1) λw'=>Ap I z w' (λw' aD=>Bh w' b E.2 aD))):=by
  rintro I⟨Y,O,z,p2,p3,p4⟩;refine⟨aV.o.Av O λx hx aA=>hx.elim (λh=>(aK.o x h).resolve_right (by omega)) λh=>by omega,z,p2,p3,λk L=>(p4 k L).elim (λh=>aK.o k h) λh=>.inr (by have:=aQ.o;omega),aE.o I Y z p2⟩
 have aB:=A1 aT;by_cases hd:D.2.1=0
 case neg=>
  have hR:R=D.2:=by rw[aW.o,Af hd]
  have aO:(D.2.1 !=0)=true:=by simpa using hd
  go_wp2_with (go_at_call 192;refine aF.m ?_;rintro e I⟨rfl,Y,O⟩;have a3:=aB.o I ⟨Y,O⟩);go_ret;subst hR;obtain⟨k2,z,p2,p3,p5,-⟩:=a3.o;exact⟨rfl,k2,z,p2,p3,λk L=>(p5 k L).imp id EJ⟩
 case pos=>
 have aO:(D.2.1 !=0)=false:=by simpa using hd
 have hR:R=E:=by rw[aW.o,Ac (by simpa using hd)]
 subst hR;go_wp2_with (fail);refine aF.m ?_;rintro e I⟨rfl,Y,O⟩;obtain⟨k2,z,p2,p3,p5,sy⟩:=(aB.o I ⟨Y,O⟩).o;have aU:=A1 k2;have aX:=A1 p5;have aE:=A1 sy;go_wp2_with (go_at_call 116;refine aE.m ?_;rintro e w3⟨rfl,aP,aM,r2,r3,r4⟩;have aN:=A1 aP;have a1:=A1 r2;have a2:=A1 r3;have a4:=A1 r4);go_ret;exact⟨rfl,aU.o.Av aN.o λx hx aA=>(aX.o x hx).resolve_right (by omega),aM,a1.o,a2.o,λk L=>(a4.o k L).elim (λh=>(aX.o k h).imp id EJ) λh=>.inr (by have:=aU.o.Ak;omega)⟩
end
def KU{P:PD}{a c m:Nat}(h:Fit P a c m)(nm:Bs):(P.Cl nm).1.length<=m:=by
 unfold PD.Cl DJ;cases hx:lookup P.D.A4 (A7 nm) with
 | none=>simp
 | some f=>exact h.B8 f (FJ hx)
section
variable {w:World} {b:Nat} {P:PD} {Ft:Nat->Prop} {a c m:Nat}
def Rj(nm:Bs)(h:Bh w b P Ft)(H:∀k,Ft k->k<w.heap.size)(hF:Fit P a c m)(hl:CM a c m):
 Ah 77 #[.agg #[A5 b,.string ⟨nm.toArray⟩,.int .u32 (AE nm)]] w (Am (.tuple #[.string ⟨(P.a1 nm).1.toArray⟩,A0 (P.a1 nm).2]) λw'=>A3 Aa w w'):=by
 have aF:=KU hF nm;have hm:=hl.m;have aD:=Jb nm;obtain⟨s,hs⟩:∃s,AE nm=s:=⟨_,rfl⟩
 have aE:Hid (P.a1 nm=if (P.Cl nm).2≠0 then ([],(P.Cl nm).2) else match Hr s (P.Cl nm).1 with
  | some d=>(d,0)
  | none=>([],7)):=by rw[<-hs];rfl
 generalize W:P.a1 nm=R at aE ⊢;rw[hs]at aD ⊢;have aA:Bc (w.aC #[A5 b,.string (A7 nm),.int .u32 s] 119) w.heap.size 119 (A5 b) (A7 nm) s:=BK w _;have k0:A3 Aa w (w.aC #[A5 b,.string (A7 nm),.int .u32 s] 119):=(A3.I _ w).aj _;have aO:=A1 (Uo aA (B3.aI h H k0));obtain⟨x,Y⟩:∃x,P.Cl nm=x:=⟨_,rfl⟩;have I:Hid (Ah 119 #[A5 w.heap.size] (w.aC #[A5 b,.string (A7 nm),.int .u32 s] 119) (Am (.tuple #[.string ⟨x.1.toArray⟩,A0 x.2]) λw'=>A3 Aa (w.aC #[A5 b,.string (A7 nm),.int .u32 s] 119) w')):=by
  rw[<-Y];exact aO.o
 rw[Y]at aE aF;obtain⟨t,ae⟩:=x;dsimp only at aE aF I;have aK:=A1 aA;have aM:=A1 k0;have aI:=A1 aD
 go_enter func77,ntmps77
 by_cases he:ae=0
 case neg=>
  have hb:(ae !=0)=true:=by simpa using he
  have W:R=([],ae):=by rw[aE.o,Af he]
  subst W;go_wp2_with (go_at_call 119;refine I.m ?_;rintro e z⟨rfl,E⟩;have aH:=A1 E);go_ret2;exact⟨rfl,aM.o.tr aH.o⟩
 case pos=>
 subst he
 have aG:Hid (R=match Hr s t with
  | some d=>(d,0)
  | none=>([],7)):=by rw[aE.o,Ac (by simp)];rfl
 have aP:Hid (∀z,Bc z w.heap.size 119 (A5 b) (A7 nm) s->∃(d:Bs) (ok:Bool),R=(if ok then (d,0) else ([],7))/\Ah 120 #[A5 w.heap.size,.string ⟨t.toArray⟩] z (Am (.tuple #[.string ⟨d.toArray⟩,.bool ok]) λw'=>A3 (One w.heap.size) z w')):=λz aL=>by
  by_cases h4:t.length<4
  ·refine⟨[],false,?_,?_⟩
   ·rw[aG.o];unfold Hr;rw[Af h4];rfl
   ·refine(VD z w.heap.size t h4).mono ?_;rintro e w'⟨rfl,rfl⟩;exact⟨rfl,A3.I _ _⟩
  ·refine⟨t.take (t.length-4),decide (Ca (AU s (t.take (t.length-4)))=t.drop (t.length-4)),?_,?_⟩
   ·rw[aG.o];unfold Hr;rw[Ac h4];by_cases hq:Ca (AU s (t.take (t.length-4)))=t.drop (t.length-4)
    ·rw[Af hq,Cv hq];rfl
    ·rw[Ac hq,D4 hq];rfl
   ·have:=N5 z w.heap.size 119 (A5 b) (A7 nm) s (t.take (t.length-4)) (t.drop (t.length-4)) aL aI.o (by rw[CP];omega) (by rw[BU];omega);rw[DO]at this;refine this.mono ?_;rintro e w'⟨h1,h2,h3⟩;exact⟨h1,h3⟩
 go_wp2_with (fail);refine I.m ?_;rintro e z⟨rfl,E⟩;obtain⟨d,ok,W,aJ⟩:=aP.o z (aK.o.ak E (λh=>h));have aN:Hid (A3 Aa w z):=aM.o.tr E;have aB:=A1 aJ;cases ok with
 | false=>
  simp only[MU,C4]at W;subst W;go_wp2_with (go_at_call 120;refine aB.m ?_;rintro e w2⟨rfl,L⟩;have O:=A1 L);go_ret2;exact⟨rfl,aN.o.Av O.o λx Y H=>by cases Y;omega⟩
 | true=>
  simp only[Cg]at W;subst W;go_wp2_with (go_at_call 120;refine aB.m ?_;rintro e w2⟨rfl,L⟩;have O:=A1 L);go_ret2;exact⟨rfl,aN.o.Av O.o λx Y H=>by cases Y;omega⟩
end
def Tryz.cV:(Tryz.prog.info? 3).map (λi=>(i.zero,i.size,i.bytes))=some (some (A0 0),1,8):=by kernel_rfl
def Zz{k:Nat}{l:Bs}(h:l.length<8):G6 k l=[]:=by cases k<;>simp[G6,h]
def ZB(l:Bs): -9223372036854775808<=BH l/\BH l<=9223372036854775807:=by unfold BH wrap64;omega
def Zx(w:World)(E:Bs)(hl0:E.length<=4294967296):
 Calls Tryz.prog 78 #[.string ⟨E.toArray⟩] w λe w'=>∃v,e=.returned v/\Dw w' v (Ej E)/\(∀g,v.ownBlock=some g->w.heap.size<=g)/\A3 (λ_=>False) w w':=by
 obtain⟨R,hR⟩:∃R,Ej E=R:=⟨_,rfl⟩;have aT:Hid (G6 E.length E=R):=hR;rw[hR];obtain⟨i0,hi,aF,aI,aJ⟩:∃i0,Tryz.prog.info? 3=some i0/\i0.zero=some (.int .i64 0)/\i0.size=1/\i0.bytes=8:=by
  have h:=Tryz.cV;cases hx:Tryz.prog.info? 3 with
  | none=>rw[hx]at h;cases h
  | some i=>rw[hx]at h;simp at h;exact⟨i,rfl,h.1,h.2.1,h.2.2⟩
 go_enter func78,ntmps78
 go_wp2;go_loopw [0,3] (λtv v wr=>∃(l:Bs) (k:Nat) (d:List Int),tv=.string ⟨l.toArray⟩/\d.length*8+l.length<=E.length/\Hid (Dw wr v d/\(∀g,v.ownBlock=some g->w.heap.size<=g)/\A3 (λ_=>False) w wr/\l.length<=k/\R=d++G6 k l)) (λtv _ _=>match tv with | .string x=>x.size|_=>0)
 case atStart=>exact⟨E,E.length,[],rfl,by simp,CL _ _ _ _,λg H=>by simp[Value.ownBlock]at H,A3.I _ _,Au _,by rw[aT.o];rfl⟩
 case round=>
  obtain⟨l,k,d,rfl,aA,hI⟩:=hrel;have z:(ByteArray.mk l.toArray).size=l.length:=by show l.toArray.size=_;simp
  by_cases h8:l.length<8
  case pos=>
   obtain⟨i1,i2,i3,-,i5⟩:=hI.o;rw[Zz h8,Gh]at i5;subst i5;(have aE:¬(8<=(l.length:Int)):=by omega);have aO:=A1 i1;have aS:=A1 i2;have aP:=A1 i3;go_wp2;go_ret;exact⟨_,rfl,aO.o,aS.o,aP.o⟩
  case neg=>
   obtain⟨i1,i2,i3,i4,i5⟩:=hI.o;obtain⟨k,rfl⟩:∃k',k=k'+1:=⟨k-1,by omega⟩;have aH:Hid (R=(d++[BH l])++G6 k (l.drop 8)):=by
    unfold Hid;rw[i5];simp[G6,h8]
   have L:=A1 (LR wr l (by omega));have hx:=ZB l;generalize hxe:BH l=x at aH L hx;obtain⟨ap,cp,rfl,hcap1,W,-⟩:=B9 i1;unfold maxLen at W;have e2:(ByteArray.mk l.toArray).extract 8 l.length=⟨(l.drop 8).toArray⟩:=by
    rw[extract_mk,Em (by rw[CP];omega)]
   have O:(l.drop 8).length=l.length-8:=CP;generalize hq:l.drop 8=q at e2 aH O;generalize htx:ByteArray.mk l.toArray=tx at e2 z L ⊢;generalize hll:l.length=ll at e2 z O aA h8 i4;(have h8i:(8:Int)<=(ll:Int):=by omega);have aM:=A1 i1;have aN:=A1 i2;have aL:=A1 i3;have aQ:=A1 i4;have I:=A1 O;have aD:=A1 aA
   go_wp2_with (first
    | (go_at_call 121;refine L.o.mono ?_;rintro e w4⟨rfl,rfl⟩)
    | (at_builtin
       have aB:Hid ((wr.alloc (.cells #[.int .i64 x] 3)).ownsRow 0 3 1 (.slice ap d.length cp) d.length (DF d)):=Ay aM.o λg H=>D8 _ _ _ (Az aM.o H);have aG:=A1 (Src.bc (size:=1) (B:=wr.heap.size) underlying120 wr #[.int .i64 x] 3 (by simp) 1 1 rfl (Jv [x]));refine D9 rfl (.tmp 9) (.tmp 12) 120 120 rfl 3 i0 _ 1 8 underlying120 hi aF aI aJ rfl (by decide) (.slice ap d.length cp) d.length (DF d) (by rfl) aB.o _ 1 _ (by rfl) aG.o (by have:=aD.o;omega) ?_;intro a8 cap8 w8 Y;have aR:=A1 Y
       clear Y))
   go_roundw
   case rel=>
    have Y:=aR.o;have aK:=Y.An (S:=λk=>(Value.slice ap d.length cp).ownBlock=some k) λ_ h=>h;have k9:A3 (λ_=>False) wr (wr.alloc (.cells #[.int .i64 x] 3)):=(A3.I _ wr).aj _;refine⟨q,k,d++[x],rfl,by have:=aD.o;have:=I.o;simp;omega,?_,?_,?_,by have:=aQ.o;have:=I.o;omega,aH.o⟩
    ·(have e:(d++[x]).length=d.length+1:=by simp);unfold Dw;rw[Kz,e];exact Y.AF
    ·intro g H;rcases Y.Cy with h|h
     ·rw[h]at H;exact aN.o g H
     ·rw[h]at H;cases H;exact AQ aL.o.Ak k9.Ak
    ·exact(aL.o.Av k9 λ_ h _=>h).Av aK λy hy aE=>by have:=aN.o y hy;omega
   case measure=>
    (have e:(ByteArray.mk q.toArray).size=q.length:=by show q.toArray.size=_;simp);have:=I.o;simp only[e,z];omega
def Tryz.fo:(Tryz.prog.info? 231).map (·.size)=some 2:=by kernel_rfl
def Tryz.fU:liesAt Tryz.prog Tryz.prog.depth 231 (2/Tryz.prog.cellsOf 231) 0 231 1=true:=by kernel_rfl
def Gz(B b:Nat)(l:List UInt8)(w:World):Prop:=Lib.IsBuilder 231 5 B b (Lib.byteCells l) w
def A1n(B b:Nat)(bs:List Value)(w:World)(h:Lib.IsBuilder 231 5 B b bs w):
 Ah 200 #[A5 b] w (Am (.tuple #[]) λw'=>(Lib.BuilderAt 231 5 B b (A5 b) bs w'/\Below B w w')):=by
 obtain⟨j,z,E⟩:=A2M.1 Tryz.fo;rcases h with h|h
 ·have I:=h.cell0;have d:=h.shape;have hfz:=h.frozen0;have H:=A1 h
  go_enter func200,ntmps200
  go_wp2;rw[Lib.run_to_unsafe w (Ab b 0) underlying229 underlying176 z (by rw[E];decide) d (Nat.zero_lt_succ 1)];simp only[Result.andThen];rw[UG];go_wp2;rw[WN func219 (by kernel_rfl) (by kernel_rfl) (by kernel_rfl) (e:=Extern.AbiNoEscape.same) (by kernel_rfl)];rw[Lib.run_noEscape];simp only[Result.andThen];rw[UG];go_wp2;rw[Lib.run_from_unsafe w (Ab b 0) underlying176 underlying229 z d Tryz.fU];simp only[Result.andThen];rw[UG];go_wp2;go_end0;exact⟨rfl,H.o.used _,(MV B w).setCell (p:=(Ab b 0)) H.o.1 _⟩
 ·have I:=h.cell0;have H:=A1 h
  go_enter func200,ntmps200
  go_wp2;rw[Lib.run_neq_ptr_same w _ underlying229 z];go_wp2;go_end0;exact⟨rfl,H.o,MV B _⟩
def Vj(B b:Nat)(bs:List Value)(s:ByteArray)(w:World)(h:Lib.IsBuilder 231 5 B b bs w)(hlen:bs.length+s.size<=140737488355328)(hBw:B<=w.heap.size):
 Ah 159 #[A5 b,.string s] w (Am (.tuple #[A0 s.size,.nilIface]) λw'=>(Lib.BuilderAt 231 5 B b (A5 b) (bs++Lib.strCells s) w'/\Below B w w')):=by
 obtain⟨i0,hi,aB,aD,aE⟩:=E4 Tryz.infoByte
 go_enter func159,ntmps159
 go_wp2_with (go_at_call 200;refine(A1n B b bs _ h).mono ?_);rintro e O⟨rfl,h1,L⟩;obtain⟨hB,v,E,I,aA⟩:=h1;have c0:O.cell? (Ab b 0)=some (A5 b):=by rw[Pr E];rfl
 have c1:O.cell? (Ab b 1)=some v:=by rw[Pr E];rfl
 go_wp2_with (at_builtin;refine Lib.wpList_append_own_string _ rfl _ _ 66 9 rfl B 5 i0 underlying66 underlying9 hi aB aD aE _ _ _ rfl I s rfl ?c3 ?c4 ?c5 ?_)
 case c3=>unfold maxLen;omega
 case c4=>omega
 case c5=>have:=L.size;omega
 intro v' W d z _;have Y:b<O.heap.size:=by
  rcases EW b O.heap.size with h' | h'
  ·exact h'
  ·simp[Array.getElem?_eq_none h']at E
 have H:W.heap[b]?=some (.cells #[A5 b,v] 231 (0,0)):=by
  rw[z.block b Y (λe=>aA e.symm)];exact E
 have d0:W.cell? (Ab b 0)=some (A5 b):=by rw[Pr H];rfl
 have d1:W.cell? (Ab b 1)=some v:=by rw[Pr H];rfl
 have f1:W.frozen? (Ab b 1)=false:=Lib.frozen_of_heap H 1;obtain⟨ao,n',cap,rfl⟩:∃ao n' cap,v'=.slice ao n' cap:=by
  rcases d.2 with⟨hv,_⟩|⟨g,cap,cur,hv,_⟩
  ·exact⟨_,_,_,hv⟩
  ·exact⟨_,_,_,hv⟩
 go_wp2;go_ret2;refine⟨rfl,?_,?_⟩
 ·exact Lib.BuilderAt.put (T:=231) (e:=5) hB H (bs':=bs++Lib.strCells s) (by simpa[Lib.strCells_length] using d) (by decide)
 ·exact(L.grown z (by have:=L.size;omega) (λk hk=>(I.lt k hk).1)).setCell (p:=(Ab b 1)) hB _
def Wg(l:List UInt8):Lib.strCells ⟨l.toArray⟩=Lib.byteCells l:=by
 simp[Lib.strCells,Lib.byteCells]
def MX{B b:Nat}{l t:List UInt8}(w:World)(h:Gz B b l w)(d:l.length+t.length<=140737488355328)(z:B<=w.heap.size):
 Calls Tryz.prog 159 #[.pointer (some ⟨b,0,none⟩),.string ⟨t.toArray⟩] w λe w'=>e=.returned (.tuple #[.int .i64 t.length,.nilIface])/\Gz B b (l++t) w'/\Below B w w':=by
 have H:(ByteArray.mk t.toArray).size=t.length:=by show t.toArray.size=_;simp
 refine(Vj B b (Lib.byteCells l) ⟨t.toArray⟩ w h (by rw[Lib.byteCells_length,H];exact d) z).mono ?_;rintro e w'⟨rfl,E,I⟩;refine⟨by rw[H],.inr ?_,I⟩;rw[Wg]at E;have:Lib.byteCells (l++t)=Lib.byteCells l++Lib.byteCells t:=by simp[Lib.byteCells]
 rw[this];exact E
def A1W{B b:Nat}{l:List UInt8}(w:World)(h:Gz B b l w)(d:B<=w.heap.size):
 Ah 162 #[A5 b] w (Am (.string ⟨l.toArray⟩) λw'=>Below B w w'):=Tryz.Builder_String_any B b l w h d
def U6(w:World):Gz w.heap.size w.heap.size [] (w.alloc (.cells #[.pointer none,.slice none 0 0] 231)):=
 .inl ⟨Au _,_,BK w _,CL _ _ _ _,by simp[Value.ownBlock]⟩
def Gz.ak{B b:Nat}{l:List UInt8}{w w':World}{S:Nat->Prop}(h:Gz B b l w)(H:A3 S w w')(E:∀k,S k->k<B):Gz B b l w':=by
 have key:∀p,Lib.BuilderAt 231 5 B b p (Lib.byteCells l) w->Lib.BuilderAt 231 5 B b p (Lib.byteCells l) w':=by
  rintro p⟨O,v,I,d,L⟩;refine⟨O,v,H.ak I (λh=>by have:=E _ h;omega),?_,L⟩;exact Ay d λg z=>H.Al g (Az d z) (λh=>by have:=E _ h;have:=(d.lt g z).1;omega)
 exact h.imp (key _) (key _)
section
variable {α:Type} (lt:α->α->Bool)
structure BS:Prop where
 I3:∀x,lt x x=false
 Av:∀x y z,lt x y=true->lt y z=true->lt x z=true
 Kk:∀x y z,lt x z=true->lt x y=true\/lt y z=true
def eqv(x y:α):Bool:=!lt x y && !lt y x
def Bf(l l':List α):Prop:=∀x,l.filter (eqv lt x)=l'.filter (eqv lt x)
def B1(l:List α):Prop:=l.Pairwise λx y=>lt y x=false
variable {lt}
def Bf.I(l:List α):Bf lt l l:=λ_=>rfl
def Bf.bF{l l':List α}(h:Bf lt l l'):Bf lt l' l:=λx=>(h x).symm
def Bf.Av{l l' d:List α}(h:Bf lt l l')(z:Bf lt l' d):Bf lt l d:=λx=>(h x).trans (z x)
def Bf.an{a a' b d:List α}(h:Bf lt a a')(z:Bf lt b d):Bf lt (a++b) (a'++d):=λx=>by
 rw[MI,MI,h x,z x]
def BS.eC(h:BS lt)(x:α):eqv lt x x=true:=by simp[eqv,h.I3]
def BS.cd(h:BS lt){x y:α}(d:lt x y=true):lt y x=false:=by
 cases hyx:lt y x with
 | false=>rfl
 | true=>have:=h.Av _ _ _ d hyx;rw[h.I3]at this;cases this
def BS.dh(h:BS lt){x y z:α}(H:lt y x=false)(E:lt z y=false):lt z x=false:=by
 cases hzx:lt z x with
 | false=>rfl
 | true=>rcases h.Kk z y x hzx with d|d
         ·rw[E]at d;cases d
         ·rw[H]at d;cases d
def BS.fA(h:BS lt){x y z:α}(E:lt y z=true)(H:eqv lt x y=true):eqv lt x z=false:=by
 cases hz:eqv lt x z with
 | false=>rfl
 | true=>
  simp[eqv]at H hz;rcases h.Kk y x z E with d|d
  ·rw[H.2]at d;cases d
  ·rw[hz.1]at d;cases d
def BS.fE(h:BS lt){x y:α}(d:lt y x=true):Bf lt [x,y] [y,x]:=λz=>by
 simp only[F4,List.filter_nil];cases h1:eqv lt z y with
 | false=>cases eqv lt z x<;>rfl
 | true=>rw[h.fA d h1];rfl
def BS.dS(h:BS lt){x:α}{ys:List α}(d:∀y∈ys,lt y x=true):Bf lt (x::ys) (ys++[x]):=by
 induction ys with
 | nil=>exact Bf.I _
 | cons y r ih=>
  have H:Bf lt (x::y::r) (y::x::r):=by
   have:=(h.fE (d y (BD ..))).an (Bf.I (lt:=lt) r);simpa using this
  have E:Bf lt (y::x::r) (y::(r++[x])):=by
   have:=(Bf.I (lt:=lt) [y]).an (ih λz I=>d z (Br _ I));simpa using this
  exact H.Av E
def BS.ez(h:BS lt){xs ys:List α}(d:∀x∈xs,∀y∈ys,lt y x=true):Bf lt (xs++ys) (ys++xs):=by
 induction xs with
 | nil=>simpa using Bf.I (lt:=lt) ys
 | cons x r ih=>
  have H:=ih λz L=>d z (Br _ L);have E:Bf lt (x::(r++ys)) (x::(ys++r)):=by simpa using(Bf.I (lt:=lt) [x]).an H
  have I:=(h.dS (d x (BD ..))).an (Bf.I r);have:=E.Av I;simpa using this
def BS.cZ(h:BS lt){y:α}{xs:List α}(E:∀x∈xs,lt y x=true):Bf lt (xs++[y]) (y::xs):=by
 simpa using h.ez (xs:=xs) (ys:=[y]) λx H z d=>by simp at d;subst d;exact E x H
def Bf.Dy{l l':List α}(d:BS lt)(h:Bf lt l l'){x:α}(z:x∈l):x∈l':=by
 have:x∈l.filter (eqv lt x):=GJ.2 ⟨z,d.eC x⟩;rw[h x]at this;exact(GJ.1 this).1
def BS.ek(d:BS lt):∀ {l l':List α},B1 lt l->B1 lt l'->Bf lt l l'->l=l'
 | [],[],_,_,_=>rfl
 | [],b::r',_,_,h=>by have:=(h.bF).Dy d (BD (a:=b) (l:=r'));cases this
 | a::r,[],_,_,h=>by have:=h.Dy d (BD (a:=a) (l:=r));cases this
 | a::r,b::r',h1,h2,h=>by
  have O:=D7.1 h1;have W:=D7.1 h2;have I:lt a b=false:=by
   rcases BP.1 (h.Dy d (BD (a:=a) (l:=r))) with rfl|E
   ·exact d.I3 _
   ·exact W.1 a E
  have H:lt b a=false:=by
   rcases BP.1 (h.bF.Dy d (BD (a:=b) (l:=r'))) with rfl|E
   ·exact d.I3 _
   ·exact O.1 b E
  have Y:eqv lt a b=true:=by simp[eqv,I,H]
  have L:=h a;rw[Io (d.eC a),Io Y]at L;obtain rfl:a=b:=(List.cons.inj L).1;refine EB (a :: ·) (d.ek O.2 W.2 λx=>?_);have z:=h x;cases hc:eqv lt x a with
  | true=>rw[Io hc,Io hc]at z;exact(List.cons.inj z).2
  | false=>rw[JV (by rw[hc];decide),JV (by rw[hc];decide)]at z;exact z
def ZN{x y:α}{l:List α}:y∈ET lt x l↔y=x\/y∈l:=by
 induction l with
 | nil=>simp[ET]
 | cons z r ih=>
  unfold ET;split
  ·simp
  ·simp only[BP,ih];constructor
   ·rintro (h|h|h)
    ·exact .inr (.inl h)
    ·exact .inl h
    ·exact .inr (.inr h)
   ·rintro (h|h|h)
    ·exact .inr (.inl h)
    ·exact .inl h
    ·exact .inr (.inr h)
def BS.eS(H:BS lt){x:α}{l:List α}(h:B1 lt l):B1 lt (ET lt x l):=by
 induction l with
 | nil=>simp[ET,B1]
 | cons z r ih=>
  have I:=D7.1 h;unfold ET;split
  ·rename_i E;refine D7.2 ⟨λy d=>?_,h⟩;rcases BP.1 d with rfl|d
   ·exact H.cd E
   ·exact H.dh (H.cd E) (I.1 y d)
  ·rename_i E;refine D7.2 ⟨λy d=>?_,ih I.2⟩;rcases ZN.1 d with rfl|d
   ·simpa using E
   ·exact I.1 y d
def BS.eG(H:BS lt){x:α}{l:List α}(h:B1 lt l):Bf lt (l++[x]) (ET lt x l):=by
 induction l with
 | nil=>exact Bf.I _
 | cons z r ih=>
  have L:=D7.1 h;unfold ET;split
  ·rename_i I;refine H.cZ λy E=>?_;rcases BP.1 E with rfl|E
   ·exact I
   ·rcases H.Kk x y z I with d|d
    ·exact d
    ·rw[L.1 y E]at d;cases d
  ·simpa using(Bf.I (lt:=lt) [z]).an (ih L.2)
def BS.dj(d:BS lt):∀(l s:List α),B1 lt s->B1 lt (l.foldl (λs x=>ET lt x s) s)/\Bf lt (s++l) (l.foldl (λs x=>ET lt x s) s)
 | [],s,h=>⟨h,by simpa using Bf.I (lt:=lt) s⟩
 | x::r,s,h=>by
  obtain⟨E,z⟩:=d.dj r _ (d.eS (x:=x) h);refine⟨E,Bf.Av ?_ z⟩;have:=(d.eG (x:=x) h).an (Bf.I (lt:=lt) r);simpa using this
def BS.ew(d:BS lt)(l:List α):B1 lt (DZ lt l):=(d.dj l [] List.Pairwise.nil).1
def BS.cr(d:BS lt)(l:List α):Bf lt l (DZ lt l):=by
 have:=(d.dj l [] List.Pairwise.nil).2;rw[EY]at this;exact this
def BS.et(d:BS lt){l l':List α}(h:B1 lt l')(z:Bf lt l l'):l'=DZ lt l:=
 d.ek h (d.ew l) (z.bF.Av (d.cr l))
def B1.an{a b:List α}(h:B1 lt (a++b)):B1 lt a/\B1 lt b/\∀x∈a,∀y∈b,lt y x=false:=by
 have:=Eg.1 h;exact⟨this.1,this.2.1,this.2.2⟩
def B1.cB{a b:List α}(d:B1 lt a)(z:B1 lt b)(h:∀x∈a,∀y∈b,lt y x=false):B1 lt (a++b):=Eg.2 ⟨d,z,h⟩
def BS.eV(I:BS lt){d A2 z h s1 s2:List α}(hA:B1 lt (d++A2))(hB:B1 lt (z++h))(h1:∀x∈d,∀y∈h,lt y x=false)(L:∀x∈A2,∀y∈z,lt y x=true)(Y:B1 lt s1)(k2:B1 lt s2)(W:Bf lt (d++z) s1)(O:Bf lt (A2++h) s2):B1 lt (s1++s2)/\Bf lt (d++A2++(z++h)) (s1++s2):=by
 obtain⟨a1,a2,a3⟩:=hA.an;obtain⟨b1,b2,b3⟩:=hB.an;refine⟨B1.cB Y k2 λx H y E=>?_,?_⟩
 ·rcases AV.1 (W.bF.Dy I H) with H|H<;>rcases AV.1 (O.bF.Dy I E) with E|E
  ·exact a3 x H y E
  ·exact h1 x H y E
  ·exact I.cd (L y E x H)
  ·exact b3 x H y E
 ·have m:=((Bf.I (lt:=lt) d).an (I.ez L)).an (Bf.I h);have e:d++A2++(z++h)=d++(A2++z)++h:=by simp
  have e':d++(z++A2)++h=d++z++(A2++h):=by simp
  rw[e];refine m.Av ?_;rw[e'];exact W.an O
def BS.cF(d:BS lt){a b:List α}(Y:B1 lt a)(hb:B1 lt b)(h:∀x y,a.getLast?=some x->b.head?=some y->lt y x=false):∀x∈a,∀y∈b,lt y x=false:=by
 intro x W y O;rcases Lg a with rfl|⟨a',z,rfl⟩
 ·cases W
 cases b with
 | nil=>cases O
 | cons y0 b'=>
  have h0:=h z y0 (by simp) rfl;have I:lt z x=false:=by
   (have E:x∈a'\/x=z:=by simpa using W);rcases E with H|rfl
   ·exact(B1.an (by simpa using Y)).2.2 x H z (by simp)
   ·exact d.I3 _
  have L:lt y y0=false:=by
   rcases BP.1 O with rfl|H
   ·exact d.I3 _
   ·exact(D7.1 hb).1 y H
  exact d.dh (d.dh I h0) L
def BS.dr(E:BS lt){a b:List α}(ha:B1 lt a)(hb:B1 lt b)(h:∀x y,a.getLast?=some y->b.head?=some x->lt y x=true):∀x∈b,∀y∈a,lt y x=true:=by
 intro x Y y W;rcases Lg a with rfl|⟨a',z,rfl⟩
 ·cases W
 cases b with
 | nil=>cases Y
 | cons x0 b'=>
  have h0:=h x0 z (by simp) rfl;have O:lt z y=false:=by
   (have H:y∈a'\/y=z:=by simpa using W);rcases H with I|rfl
   ·exact(B1.an (by simpa using ha)).2.2 y I z (by simp)
   ·exact E.I3 _
  have L:lt x x0=false:=by
   rcases BP.1 Y with rfl|I
   ·exact E.I3 _
   ·exact(D7.1 hb).1 x I
  have h1:lt y x0=true:=by
   rcases E.Kk z y x0 h0 with d|d
   ·rw[O]at d;cases d
   ·exact d
  rcases E.Kk y x x0 h1 with d|d
  ·exact d
  ·rw[L]at d;cases d
end
end
section
open Go.RowKit
attribute [local go_sem ↓] CE
def Zw(w:World)(x:Int):Ah 122 #[A0 x] w (Am (.bool false) λw'=>w=w'):=by
 go_enter func122,ntmps122
 go_wp2;go_ret;exact⟨rfl,rfl⟩
def OO(w:World)(x y:Int):Ah 81 #[A0 x,A0 y] w (Am (A0 (Ci x y)) λw'=>w=w'):=by
 have d:=A1 (Zw);unfold Ci
 go_enter func81,ntmps81
 by_cases h:x<y
 ·rw[Af h];go_wp2_with (go_at_call 122;refine(d.o _ _).mono ?_;rintro e w'⟨rfl,rfl⟩);go_ret;exact⟨rfl,rfl⟩
 ·by_cases z:y<x
  ·rw[Ac h,Af z];go_wp2_with (go_at_call 122;refine(d.o _ _).mono ?_;rintro e w'⟨rfl,rfl⟩);go_ret;exact⟨rfl,rfl⟩
  ·rw[Ac h,Ac z];go_wp2_with (go_at_call 122;refine(d.o _ _).mono ?_;rintro e w'⟨rfl,rfl⟩);go_ret;exact⟨rfl,rfl⟩
def Jm(a b:Int):Int:=if a≠0 then a else b
def RW(w:World)(g:Nat)(a b:Int)(h0:A6 w g 0 (A0 a))(h1:A6 w g 1 (A0 b)):
 Ah 104 #[AJ g 2 2] w (Am (A0 (Jm a b)) λw'=>w=w'):=by
 unfold Jm
 go_enter func104,ntmps104
 by_cases d:a=0
 ·subst d;rw[Ac (by simp)];by_cases h:b=0
  ·subst h;go_wp2;refine HH 3 ?_;rw[EO];go_wp2;rw[EO];go_wp2;rw[EO];go_wp2;go_ret;exact⟨rfl,rfl⟩
  ·(have hb':(b !=0)=true:=by simpa using h);go_wp2;refine HH 2 ?_;rw[EO];go_wp2;rw[EO];go_wp2;go_ret;exact⟨rfl,rfl⟩
 ·rw[Af d];have ha':(a !=0)=true:=by simpa using d
  go_wp2;refine HH 1 ?_;rw[EO];go_wp2;go_ret;exact⟨rfl,rfl⟩
def A1F(p q:Pu):Ck p q=Jm (Ci p.1 q.1) (Ci p.2.1 q.2.1):=rfl
def Dr(p:Pu):Value:=.agg #[A0 p.1,A0 p.2.1,A0 p.2.2]
def NH(w:World)(p q:Pu):Ah 106 #[Dr p,Dr q] w (Am (A0 (Ck p q)) λw'=>A3 Aa w w'):=by
 obtain⟨E,d,I⟩:=p;obtain⟨z,H,O⟩:=q;rw[A1F];unfold Dr;dsimp only
 have aG:=A1 (OO);have OR:=A1 (RW);obtain⟨x,hx⟩:∃x,Ci E z=x:=⟨_,rfl⟩;obtain⟨y,hy⟩:∃y,Ci d H=y:=⟨_,rfl⟩;rw[hx,hy];have b1:C5 ((w.alloc (.cells #[A0 E,A0 d,A0 I] 90)).alloc (.cells #[A0 z,A0 H,A0 O] 90)) w.heap.size E d I:=(D8 _ _ _ (by simp)).trans (BK w _);have b2:C5 ((w.alloc (.cells #[A0 E,A0 d,A0 I] 90)).alloc (.cells #[A0 z,A0 H,A0 O] 90)) (w.heap.size+1) z H O:=by
  have:=BK (w.alloc (.cells #[A0 E,A0 d,A0 I] 90)) (.cells #[A0 z,A0 H,A0 O] 90);simpa[C5] using this
 have k2:A3 Aa w ((w.alloc (.cells #[A0 E,A0 d,A0 I] 90)).alloc (.cells #[A0 z,A0 H,A0 O] 90)):=((A3.I _ w).aj _).aj _;have sz:((w.alloc (.cells #[A0 E,A0 d,A0 I] 90)).alloc (.cells #[A0 z,A0 H,A0 O] 90)).heap.size=w.heap.size+2:=by simp
 have Y:=A1 b1;have W:=A1 b2;have aF:=A1 k2;have aI:=A1 sz
 go_enter func106,ntmps106
 go_wp2;generalize ((w.alloc (.cells #[A0 E,A0 d,A0 I] 90)).alloc (.cells #[A0 z,A0 H,A0 O] 90))=w2 at Y W aF aI ⊢;refine C3 (λw'=>A6 w' w.heap.size 0 (A0 E)/\A6 w' w.heap.size 1 (A0 d)/\A6 w' (w.heap.size+1) 0 (A0 z)/\A6 w' (w.heap.size+1) 1 (A0 H)) 14
  (Bz [0,1,2,3,5,6,7,8,9,10,4,11,12,13] [4,11,12,13]) ⟨Y.o.c0,Y.o.c1,W.o.c0,W.o.c1⟩ ?_
 iterate 10 (refine Bj ?_;(try simp only[Ao]))
 refine Bt λK L=>?_;go_simp;have aA:=A1 Y.o.af;have aD:=A1 W.o.af;refine(aG.o _ _ _).mono ?_;rintro e w3⟨rfl,rfl⟩;rw[hx];refine L _ _ ⟨aA.o.c0,aA.o.c1,aD.o.c0,aD.o.c1⟩ (λhS=>?_)
 (try simp only[Ao])
 refine Bt λK L=>?_;go_simp;refine(aG.o _ _ _).mono ?_;rintro e w4⟨rfl,rfl⟩;rw[hy];refine L _ _ ⟨aA.o.c0,aA.o.c1,aD.o.c0,aD.o.c1⟩ (λhS=>?_)
 (try simp only[Ao])
 refine Bt λK L=>?_;go_simp;have ka:A3 Aa w2 (w2.alloc (.cells #[A0 x,A0 y] 3)).drew:=((A3.I _ _).aj _).af;have aE:=Y.o.ak ka (λh=>h);have aB:=W.o.ak ka (λh=>h);have hb:(w2.alloc (.cells #[A0 x,A0 y] 3)).drew.heap[w2.heap.size]?=some (.cells #[A0 x,A0 y] 3):=BK w2 _;refine L _ _ ⟨aE.c0,aE.c1,aB.c0,aB.c1⟩ (λhS=>?_)
 (try simp only[Ao])
 refine Bt λK L=>?_;go_simp;refine(OR.o _ _ x y (by simp only[A6,World.cell?,hb];rfl) (by simp only[A6,World.cell?,hb];rfl)).mono ?_;rintro e w5⟨rfl,rfl⟩;refine L _ _ ⟨aE.c0,aE.c1,aB.c0,aB.c1⟩ (λhS=>?_);have aH:Hid (A3 Aa w (w2.alloc (.cells #[A0 x,A0 y] 3)).drew):=aF.o.tr ka
 (try simp only[Ao])
 refine Bo ?_;simp only[BO,BN];go_wp2;go_ret;exact⟨rfl,aH.o⟩
end
section
open Go.RowKit
attribute [local go_sem ↓] Go.wp_at_zero Go.wp_at_succ
def Gv(t d A9:Int):Bool:=decide (t+d>A9)
def AW(x:Int):Prop:=-9223372036854775808<=x/\x<=9223372036854775807
end
section
open Go.RowKit
attribute [local go_sem ↓] CE
def Vv{t len:Int}(h:1<=len):BA t len=if t.tmod len<0 then t.tdiv len-1 else t.tdiv len:=by
 unfold BA;have e1:=Int.mul_ediv_add_emod t len;have e2:=Ll t (b:=len) (by omega);have e3:=Px t (b:=len) (by omega);have f1:=A3j t len;have f3:t.tmod len<len:=V9 t (by omega);have f4 : -len<t.tmod len:=by
  by_cases h0:0<=t
  ·have:=Int.tmod_nonneg len h0;omega
  ·have:=V9 (-t) (b:=len) (by omega);rw[Pw]at this;omega
 obtain⟨q,I⟩:∃q,t/len=q:=⟨_,rfl⟩;obtain⟨r,L⟩:∃r,t % len=r:=⟨_,rfl⟩;obtain⟨d,E⟩:∃d,t.tdiv len=d:=⟨_,rfl⟩;obtain⟨H,z⟩:∃H,t.tmod len=H:=⟨_,rfl⟩;rw[I,L]at e1;rw[L]at e2 e3;rw[E,z]at f1;rw[z]at f3 f4;rw[I,E,z];have key:len*(q-d)=H-r:=by
  have:len*(q-d)=len*q-len*d:=Int.mul_sub ..;omega
 by_cases O:H<0
 ·rw[Af O];have h1 : -(2*len)<len*(q-d):=by omega
  have Y:len*(q-d)<0:=by omega
  have W:q-d<0:=by
   rcases Lj (q-d) 0 with h|h
   ·exact h
   ·have:=Int.mul_nonneg (a:=len) (by omega) h;omega
  have k2 : -2<q-d:=by
   rcases Lj (-2) (q-d) with h|h
   ·exact h
   ·have:len*(q-d)<=len*(-2):=Vb h (by omega);omega
  omega
 ·rw[Ac O];have h1 : -len<len*(q-d):=by omega
  have Y:len*(q-d)<len:=by omega
  have W:q-d<1:=by
   rcases Lj (q-d) 1 with h|h
   ·exact h
   ·have:len*1<=len*(q-d):=Vb h (by omega);omega
  have k2 : -1<q-d:=by
   rcases Lj (-1) (q-d) with h|h
   ·exact h
   ·have:len*(q-d)<=len*(-1):=Vb h (by omega);omega
  omega
def VH{t len:Int}(I:AW t)(z:1<=len)(H:t.tmod len<0):AW (t.tdiv len-1):=by
 obtain⟨t1,t2⟩:=I;have f1:=A3j t len;have f4 : -len<t.tmod len:=by
  by_cases L:0<=t
  ·have:=Int.tmod_nonneg len L;omega
  ·have:=V9 (-t) (b:=len) (by omega);rw[Pw]at this;omega
 obtain⟨q,E⟩:∃q,t.tdiv len=q:=⟨_,rfl⟩;obtain⟨r,d⟩:∃r,t.tmod len=r:=⟨_,rfl⟩;rw[E,d]at f1;rw[d]at f4 H;rw[E];constructor
 ·rcases Lj 0 q with h|h
  ·omega
  ·have:len*q<=1*q:=Int.mul_le_mul_of_nonpos_right z h;omega
 ·rcases Lj (q-1) 0 with h|h
  ·omega
  ·have h2:1*(q-1)<=len*(q-1):=Int.mul_le_mul_of_nonneg_right z h;have h3:len*(q-1)=len*q-len*1:=Int.mul_sub ..;omega
def MZ(w:World)(t len:Int)(E:AW t)(h:1<=len/\len<=4611686018427387904):
 Ah 105 #[A0 t,A0 len] w (Am (A0 (BA t len)) λw'=>w=w'):=by
 obtain⟨t1,t2⟩:=E;have hl0:¬len=0:=by omega
 rw[Vv h.1]
 go_enter func105,ntmps105
 by_cases d:t.tmod len<0
 ·rw[Af d];have z:wrap64 (t.tdiv len-1)=t.tdiv len-1:=by
   have:=VH ⟨t1,t2⟩ h.1 d;unfold AW at this;unfold wrap64;omega
  go_wp2
  all_goals first|(exfalso;omega)|skip
  go_ret;refine⟨?_,rfl⟩;show Ending.returned (A0 (wrap64 (t.tdiv len-1)))=_;rw[z]
 ·rw[Ac d];go_wp2
  all_goals first|(exfalso;omega)|skip
  go_ret;exact⟨rfl,rfl⟩
def QO{α:Type}(cmp:α->α->Int):∀(l:List α) (k:Nat) (h:k+1<l.length),Cr cmp (l.drop k)=(decide (cmp (l[k]'(by omega)) (l[k+1]'h)<0)&&Cr cmp (l.drop (k+1))):=by
 intro l k h;rw[Fm (by omega:k<l.length),Fm h];rfl
def QN{α:Type}(cmp:α->α->Int)(l:List α)(k:Nat)(h:l.length<=k+1):Cr cmp (l.drop k)=true:=by
 have:(l.drop k).length<=1:=by rw[CP];omega
 match hx:l.drop k with
 | []=>rfl
 | [x]=>rfl
 | x::y::r=>rw[hx]at this;simp at this
def OT(x y:Int):Ci x y = -1\/Ci x y=0\/Ci x y=1:=by
 unfold Ci;split
 ·exact .inl rfl
 ·split
  ·exact .inr (.inr rfl)
  ·exact .inr (.inl rfl)
def X5(w:World)(v:Value)(l:List Int)(h:D2 w v l)(hl:l.length<1099511627776):
 Ah 80 #[v,.func (.func 81) #[] #[]] w (Am (.bool (Cr Ci l)) λw'=>∃n,w'=w.drewN n):=by
 obtain⟨a,cap,rfl,h1,h2⟩:=h.Cf;unfold maxLen at h2;have aF:Hid (Cr Ci l=Cr Ci (l.drop 0)):=rfl;generalize hR:Cr Ci l=R at aF ⊢;have H:=A1 h
 go_enter func80,ntmps80
 go_wp2;go_loopw [5] (λiv wr=>∃k:Nat,iv=A0 ((k:Int)+1)/\k<=l.length/\(∃n,wr=w.drewN n)/\Hid (R=Cr Ci (l.drop k))) (λiv _=>l.length+1-(intOf iv).toNat)
 case atStart=>exact⟨0,rfl,by omega,⟨0,rfl⟩,aF.o⟩
 case round=>
  obtain⟨k,rfl,hk,⟨n,rfl⟩,O⟩:=hrel;by_cases z:k+1<l.length
  ·obtain⟨g,o,rfl,c1⟩:=D2.at H.o k (by omega);obtain⟨g',o',e,c2⟩:=D2.at H.o (k+1) z;cases e;have d:=O.o;rw[QO Ci l k z]at d;have L:=OT (l[k]'(by omega)) (l[k+1]'z);have W:=A1 (λn=>OO (w.drewN n) (l[k]'(by omega)) (l[k+1]'z));obtain⟨x,hx⟩:∃x,(l[k]'(by omega))=x:=⟨_,rfl⟩;obtain⟨y,hy⟩:∃y,(l[k+1]'z)=y:=⟨_,rfl⟩;rw[hx]at c1 d L W;rw[hy]at c2 d L W;generalize aD:Ci x y=cc at d L W;have d1:∀n,A6 (w.drewN n) g (o+k) (A0 x):=λn=>c1;have d2:∀n,A6 (w.drewN n) g (o+(k+1)) (A0 y):=λn=>c2;have I:=A1 d;clear c1 c2 hx hy aD d O;(have aB:(k:Int)+1<(l.length:Int):=by omega);have hk0:=Ce k;(have hki2:(k:Int)<(l.length:Int):=by omega);(have aE:IntKind.i64.wrap (k:Int)=k:=by simp[IntKind.wrap,IntKind.bits,IntKind.signed];omega);(have ew1:IntKind.i64.wrap ((k:Int)+1-1)=k:=by rw[J7];exact aE);(have tk:((k:Int)+1).toNat=k+1:=by omega);(have pk:(0:Int)<=(k:Int)+1:=by omega);by_cases hc:cc<0
   ·have E:Hid (R=Cr Ci (l.drop (k+1))):=by
     have:=I.o;rw[Cv hc,MT]at this;exact this
    clear I;(have aA:¬(0<=cc):=by omega);go_wp2;refine C3 (λw'=>A6 w' g (o+k) (A0 x)/\A6 w' g (o+(k+1)) (A0 y)) 11
     (Bz [0,1,2,3,4,5,6,7,8,9,10] [10]) ⟨d1 (n+1),d2 (n+1)⟩ ?_
    iterate 10 (refine Bj ?_;(try simp only[Ao]))
    refine Bt λK Y=>?_;go_simp;refine(W.o (n+1)).mono ?_;rintro e w3⟨rfl,rfl⟩;refine Y _ _ ⟨d1 (n+1),d2 (n+1)⟩ (λhS=>?_);clear Y K hS
    (try simp only[Ao])
    refine Bo ?_;simp only[BO,BN];go_wp2;go_roundw
    case rel=>exact⟨k+1,by go_num,by omega,⟨n+1,rfl⟩,E.o⟩
    case measure=>simp[intOf];omega
   ·have E:R=false:=by
     have:=I.o;rw[D4 hc,Ve]at this;exact this
    clear I;subst E;(have aA:0<=cc:=by omega);go_wp2;refine C3 (λw'=>A6 w' g (o+k) (A0 x)/\A6 w' g (o+(k+1)) (A0 y)) 11
     (Bz [0,1,2,3,4,5,6,7,8,9,10] [10]) ⟨d1 (n+1),d2 (n+1)⟩ ?_
    iterate 10 (refine Bj ?_;(try simp only[Ao]))
    refine Bt λK Y=>?_;go_simp;refine(W.o (n+1)).mono ?_;rintro e w3⟨rfl,rfl⟩;refine Y _ _ ⟨d1 (n+1),d2 (n+1)⟩ (λhS=>?_)
    (try simp only[Ao])
    refine Bo ?_;simp only[BO,BN];go_wp2;go_ret;exact⟨rfl,_,rfl⟩
  ·(have E:R=true:=by rw[O.o,QN Ci l k (by omega)]);subst E;(have aB:¬((k:Int)+1<(l.length:Int)):=by omega);go_wp2;go_ret;exact⟨rfl,_,rfl⟩
def TY(p q:Pu):Ck p q = -1\/Ck p q=0\/Ck p q=1:=by
 unfold Ck;split<;>exact OT _ _
def X4(w:World)(v:Value)(l:List Pu)(h:Hh w v l)(hl:l.length<1099511627776):
 Ah 130 #[v,.func (.func 106) #[] #[]] w (Am (.bool (Cr Ck l)) λw'=>A3 Aa w w'):=by
 obtain⟨a,cap,rfl,h1,h2⟩:=h.Cf;unfold maxLen at h2;have aQ:Hid (Cr Ck l=Cr Ck (l.drop 0)):=rfl;generalize hR:Cr Ck l=R at aQ ⊢;have H:=A1 h
 go_enter func130,ntmps130
 go_wp2;go_loopw [5] (λiv wr=>∃k:Nat,iv=A0 ((k:Int)+1)/\k<=l.length/\Hid (A3 Aa w wr)/\Hid (R=Cr Ck (l.drop k))) (λiv _=>l.length+1-(intOf iv).toNat)
 case atStart=>exact⟨0,rfl,by omega,A3.I _ _,aQ.o⟩
 case round=>
  obtain⟨k,rfl,hk,z,aD⟩:=hrel;by_cases O:k+1<l.length
  ·obtain⟨g,o,rfl,-,c1,c2,c3⟩:=Hh.at H.o k (by omega);obtain⟨g',o',e,-,c4,c5,c6⟩:=Hh.at H.o (k+1) O;cases e;have d:=aD.o;rw[QO Ck l k O]at d;have aA:=TY (l[k]'(by omega)) (l[k+1]'O);have aE:=A1 (λE=>NH E (l[k]'(by omega)) (l[k+1]'O));obtain⟨x,W⟩:∃x,(l[k]'(by omega))=x:=⟨_,rfl⟩;obtain⟨y,hy⟩:∃y,(l[k+1]'O)=y:=⟨_,rfl⟩;rw[W]at c1 c2 c3 d aA aE;rw[hy]at c4 c5 c6 d aA aE;obtain⟨x1,x2,x3⟩:=x;obtain⟨y1,y2,y3⟩:=y;generalize hcc:Ck (x1,x2,x3) (y1,y2,y3)=cc at d aA aE;dsimp only at c1 c2 c3 c4 c5 c6;have d1:=z.o.af.ao c1;have d2:=z.o.af.ao c2;have d3:=z.o.af.ao c3;have d4:=z.o.af.ao c4;have d5:=z.o.af.ao c5;have d6:=z.o.af.ao c6;have aF:=A1 d;have aJ:=A1 c1;have aM:=A1 c2;have aL:=A1 c3;have aG:=A1 c4;have aN:=A1 c5;have aH:=A1 c6;(have aI:(k:Int)+1<(l.length:Int):=by omega);have hk0:=Ce k;(have hki2:(k:Int)<(l.length:Int):=by omega);(have aK:IntKind.i64.wrap (k:Int)=k:=by simp[IntKind.wrap,IntKind.bits,IntKind.signed];omega);(have ew1:IntKind.i64.wrap ((k:Int)+1-1)=k:=by rw[J7];exact aK);(have tk:((k:Int)+1).toNat=k+1:=by omega);(have pk:(0:Int)<=(k:Int)+1:=by omega);have Y:Hid (∀E,A3 Aa wr.drew E->(A6 E g (o+k*3) (A0 x1)/\A6 E g (o+k*3+1) (A0 x2)/\A6 E g (o+k*3+2) (A0 x3)/\A6 E g (o+(k+1)*3) (A0 y1)/\A6 E g (o+(k+1)*3+1) (A0 y2)/\A6 E g (o+(k+1)*3+2) (A0 y3))/\A3 Aa w E):=λE W=>
    ⟨⟨W.ao (z.o.af.ao aJ.o),W.ao (z.o.af.ao aM.o),W.ao (z.o.af.ao aL.o),W.ao (z.o.af.ao aG.o),W.ao (z.o.af.ao aN.o),W.ao (z.o.af.ao aH.o)⟩,z.o.af.tr W⟩
   by_cases aB:cc<0
   ·have I:Hid (R=Cr Ck (l.drop (k+1))):=by
     have:=aF.o;rw[Cv aB,MT]at this;exact this
    (have aO:¬(0<=cc):=by omega);go_wp2;refine C3 (λw'=>A6 w' g (o+k*3) (A0 x1)/\A6 w' g (o+k*3+1) (A0 x2)/\A6 w' g (o+k*3+2) (A0 x3)/\A6 w' g (o+(k+1)*3) (A0 y1)/\A6 w' g (o+(k+1)*3+1) (A0 y2)/\A6 w' g (o+(k+1)*3+2) (A0 y3)) 11
     (Bz [0,1,2,3,4,5,6,7,8,9,10] [10]) ⟨d1,d2,d3,d4,d5,d6⟩ ?_
    iterate 10 (refine Bj ?_;(try simp only[Ao]))
    refine Bt λK hK=>?_;go_simp;refine(aE.o _).mono ?_;rintro e w3⟨rfl,L⟩;refine hK _ _ (Y.o w3 L).1 (λhS=>?_);have aP:=A1 (Y.o w3 L).2
    (try simp only[Ao])
    refine Bo ?_;simp only[BO,BN];go_wp2;go_roundw
    case rel=>exact⟨k+1,by go_num,by omega,aP.o,I.o⟩
    case measure=>simp[intOf];omega
   ·have I:R=false:=by
     have:=aF.o;rw[D4 aB,Ve]at this;exact this
    subst I;(have aO:0<=cc:=by omega);go_wp2;refine C3 (λw'=>A6 w' g (o+k*3) (A0 x1)/\A6 w' g (o+k*3+1) (A0 x2)/\A6 w' g (o+k*3+2) (A0 x3)/\A6 w' g (o+(k+1)*3) (A0 y1)/\A6 w' g (o+(k+1)*3+1) (A0 y2)/\A6 w' g (o+(k+1)*3+2) (A0 y3)) 11
     (Bz [0,1,2,3,4,5,6,7,8,9,10] [10]) ⟨d1,d2,d3,d4,d5,d6⟩ ?_
    iterate 10 (refine Bj ?_;(try simp only[Ao]))
    refine Bt λK hK=>?_;go_simp;refine(aE.o _).mono ?_;rintro e w3⟨rfl,L⟩;refine hK _ _ (Y.o w3 L).1 (λhS=>?_);have aP:=A1 (Y.o w3 L).2
    (try simp only[Ao])
    refine Bo ?_;simp only[BO,BN];go_wp2;go_ret;exact⟨rfl,aP.o⟩
  ·(have I:R=true:=by rw[aD.o,QN Ck l k (by omega)]);subst I;(have aI:¬((k:Int)+1<(l.length:Int)):=by omega);go_wp2;go_ret;exact⟨rfl,z.o⟩
end
end Go.Proofs.YtodcnkbblippnabGreatDoor
