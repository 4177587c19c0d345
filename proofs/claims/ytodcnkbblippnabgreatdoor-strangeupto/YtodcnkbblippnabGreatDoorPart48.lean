/- Part 48 of a proof: walks of the program. -/
import Derived.Test.YtodcnkbblippnabGreatDoorPart18
import Derived.Test.YtodcnkbblippnabGreatDoorPart47
namespace Go.Proofs.YtodcnkbblippnabGreatDoor
set_option maxRecDepth 100000
set_option maxHeartbeats 32000000
set_option linter.defProp false
open Go.Proofs.Tryz
section
open Go.RowKit
attribute [local go_sem ↓] Go.wp_at_zero Go.wp_at_succ
def PB.dD{P:PD}{t:Nat}(h:PB P t)(ht:t<=330000):Vj P.D P.F:=
 ⟨700000*(t+1),by omega,h.As,by have:=h.BO.A6;omega,by have:=h.BO.AK;omega,λl H=>by have:=h.BO.Fu l H;omega,by have:=h.BO.An;omega,λf z=>by have:=h.BO.Bi f z;omega⟩
def JT{S:Nat->Prop}{w w':World}(I:A5 S w w'){x o:Nat}{u:Value}(h:Aa w x o u)(z:¬S x):Aa w' x o u:=by
 have H:=H7 w _ h;exact(Dp (I.Ao x H z)).trans h
def Ax.bV{w w':World}{Ft:Nat->Prop}{R H:World->(Nat->Prop)->Prop}(h:Ax w Ft w' R)(W:∀z,R w' z->H w' z):Ax w Ft w' H:=by
 obtain⟨O,F,I,X⟩:=h;exact⟨O,F,W F I,X⟩
def Live(t M sb ab b:Nat)(aA Ak Ac:Int):Kind:=λw FT=>∃h L A P q Ag,SF w sb ab b 0 aA Ak Ac h L A P FT/\(h=false->St t A P q Ag (Bu Ac aA) false/\(∀k,k<8->(L k).length<=t)/\q.length<=M)
section
variable{w:World}{t M N B sb ab b:Nat}{aA Ak Ac:Int}{FT:Nat->Prop}
def Zn(w:World)(p:Pu)(h:Live t M sb ab b aA Ak Ac w FT)(z:∀k,FT k->k<w.heap.size)(ht:t+1<=330000)(W:B8 p)(hL:Lets B w)(X:∀k,FT k->B<=k)(hl:1<=aA/\aA<=4611686018427387904)(hc:AY Ac):
 Aj 12 #[A7 sb,A0 p.1,A0 p.2.1,A0 p.2.2] w λe w'=>(∃c,e=.returned (A0 c))/\Ax w FT w' (Live (t+1) (M+1) sb ab b aA Ak Ac):=by
 obtain⟨ro,L,A,P,q,Ag,h1,h2⟩:=h;cases ro with
 | true=>
  refine(Yd w p.1 p.2.1 p.2.2 h1 z W.1).k ?_;rintro w' Y;exact⟨⟨_,rfl⟩,Y.bV λF I=>⟨true,L,A,P,q,Ag,I,λe=>by cases e⟩⟩
 | false=>
  have⟨hS,hk,hq⟩:=h2 rfl;obtain⟨-,-,-,-,-,a6,-⟩:=hS.I ht p W;refine(Yb w p h1 z hS ht W hL X hk hl hc).k ?_;rintro w' Y;refine⟨⟨_,rfl⟩,Y.bV λF I=>⟨_,_,_,_,q++[p],Ag,I,λe=>?_⟩⟩;have H:(A.I P p).2.1=0:=by
   by_cases H:(A.I P p).2.1=0
   ·exact H
   ·rw[CJ H]at e;cases e
  have⟨b1,b2⟩:=a6 H;refine⟨b2,λk O=>?_,by simp;omega⟩;rw[Ah b1];have:=Td L (Bu Ac aA) p.1.toNat p.2.1 p.2.2 k;have:=hk k O;omega
def Zo(W:FN N)(hN:N<=330000)(w:World)(h:Live t M sb ab b aA Ak Ac w FT)(z:∀k,FT k->k<w.heap.size)(ht:t+1<=330000)(hM:M<=N)(hw:1<=Ak/\Ak<=4611686018427387904)(hL:Lets B w)(X:∀k,FT k->B<=k):
 Aj 19 #[A7 sb] w λe w'=>(∃c,e=.returned (A0 c))/\Ax w FT w' (Live (t+1) M sb ab b aA Ak Ac):=by
 obtain⟨ro,L,A,P,q,Ag,h1,h2⟩:=h;cases ro with
 | true=>
  refine(A0N w h1 z).k ?_;rintro w' Y;exact⟨⟨_,rfl⟩,Y.bV λF I=>⟨true,L,A,P,q,Ag,I,λe=>by cases e⟩⟩
 | false=>
  have⟨hS,hk,hq⟩:=h2 rfl;obtain⟨-,-,-,-,a5⟩:=hS.aQ (FY Ak) ht;refine(A0L W hN w h1 z hS ht (by omega) hw hL X).k ?_;rintro w' Y;refine⟨⟨_,rfl⟩,Y.bV λF I=>⟨_,_,_,_,q,q.length,I,λe=>?_⟩⟩;have H:(A.aQ P Ak).1=0:=by
   by_cases H:(A.aQ P Ak).1=0
   ·exact H
   ·rw[CJ H]at e;cases e
  exact⟨a5 H,λk O=>by have:=hk k O;omega,hq⟩
end
def PD.bY(P:PD):PD:=⟨{P.D with n:=Es {P.D.n with CP:=if (0:Int)>0 then wrap64 (P.D.n.Bw+0) else 0} 0 0},P.F⟩




end
section
open Go.RowKit

end
section
open Go.RowKit
attribute [local go_sem ↓] Go.wp_at_zero Go.wp_at_succ





section
variable{w w':World}{sb ab b t:Nat}{mu aA Ak Ac o:Int}{ro:Bool}{L:Nat->List Pt}{A:Ar}{P:PD}{FT:Nat->Prop}{puts:List Pu}{Ag:Nat}
def DI.ei{I:Int×Int}(h:DI I P puts Ag o)(f:Nat)(O:P.D.As f):0<=(P.F f).2/\(P.F f).2<=(P.F f).1.length:=by
 have key:∀s∈Br P,∀e∈s,0<=(P.F e.2).2/\(P.F e.2).2<=(P.F e.2).1.length:=λs H e z=>by
  have⟨ix,sg,cl,lo,nb,hL,_⟩:=h.E3 s H;have W:vw P.F s e.1.data.toList=some (P.F e.2):=by
   unfold vw;rw[Fm];cases hk:lookup s e.1 with
   | none=>exact absurd rfl (IP.1 hk e z)
   | some g=>
    have⟨i,hi,e1⟩:=Ee (Ea hk);have⟨j,hj,e2⟩:=Ee z;have:i=j:=JB (h.Cg s H) (by simpa using hi) (by simpa using hj) (by simp[e1,e2]);subst this;rw[e1]at e2;rw[<-e2];rfl
  exact hL.E9 _ _ W
 rcases O with⟨e,z,rfl⟩|⟨e,z,rfl⟩|⟨l,X,e,z,rfl⟩
 ·exact key _ h.CH e z
 ·exact key _ (Bp ..) e z
 ·exact key _ (Bn _ X) e z
def SF.b7(h:SF w sb ab b mu aA Ak Ac ro L A P FT):∃Ft,Bh w b P Ft/\(∀k,Ft k->k<w.heap.size)/\(∀k,Ft k->FT k)/\∀(S H:Nat->Prop) (w':World) (P':PD),A5 S w w'->(∀k,FT k->S k->Ft k)->Bh w' b P' H->(∀k,H k->k<w'.heap.size)->(∀k,H k->Ft k\/w.heap.size<=k)->
 ∃X,SF w' sb ab b mu aA Ak Ac ro L A P' X/\(∀k,X k->k<w'.heap.size)/\∀k,X k->FT k\/w.heap.size<=k:=by
 obtain⟨lv,F0,O,W⟩:=h;have⟨xb,jb,sv,ov,l,jo,Ft,h3,h4⟩:=O.ar;refine⟨Ft,h3.dk,h3.lt,λk z=>W k (.inl (h4 k (.inl z))),λS H w' P' hc hS d1 d2 d3=>?_⟩;have hs:G3 (Fe ab xb jb sv ov l jo) w w':=hc.az (λ_ z=>h3.bC z) λk z I=>h3.Dg k z (hS k (W k (.inl (h4 k (.inr z)))) I)
 have hA:Ck w' ab b xb jb sv ov l jo A P' H:=⟨(hs ab (.inl rfl)).trans h3.Ai,(hs xb (.inr (.inl rfl))).trans h3.ix,h3.segs.aM λg Y=>hs g (.inr (.inr (.inl Y))),h3.AM.aM λg Y=>hs g (.inr (.inr (.inr (.inl Y)))),
  h3.jn.aM λk z=>hs k (.inr (.inr (.inr (.inr z)))),d1,d2,λk z I=>(d3 k I).elim (h3.Dg k z) λh'=>by have:=h3.bC z;omega,h3.Fi,h3.G7,h3.FG⟩
 have nF:∀k,(k=sb\/ED lv k)->¬F0 k:=λk z=>by
  rcases z with rfl|z
  ·exact O.ns
  ·exact O.nr k z
 have oF:∀k,(k=sb\/ED lv k)->FT k/\k<w.heap.size:=λk z=>by
  rcases z with rfl|z
  ·exact⟨W _ (.inr (.inl rfl)),O.Ai.lt⟩
  ·exact⟨W _ (.inr (.inr z)),O.FH.lt z⟩
 have nS:∀k,(k=sb\/ED lv k)->¬S k:=λk z I=>nF k z (h4 k (.inl (hS k (oF k z).1 I)));have nN:∀k,(k=sb\/ED lv k)->¬(H k\/Fe ab xb jb sv ov l jo k):=λk z I=>by
  rcases I with I|I
  ·rcases d3 k I with h' | h'
   ·exact nF k z (h4 k (.inl h'))
   ·have:=(oF k z).2;omega
  ·exact nF k z (h4 k (.inr I))
 refine⟨λk=>(H k\/Fe ab xb jb sv ov l jo k)\/Own sb lv k,⟨lv,λk=>H k\/Fe ab xb jb sv ov l jo k,⟨O.Ai.An hc (nS sb (.inl rfl)),O.FH.An hc λg Y=>nS g (.inr Y),⟨xb,jb,sv,ov,l,jo,H,hA,λk z=>z⟩,λk z=>hA.bT z,nN sb (.inl rfl),λk z=>nN k (.inr z)⟩,λk z=>z⟩,λk z=>?_,λk z=>?_⟩
 ·rcases z with z|rfl|z
  ·exact hA.bT z
  ·exact Bm O.Ai.lt hc.Am
  ·exact Bm (O.FH.lt z) hc.Am
 ·rcases z with (z|z)|rfl|z
  ·exact(d3 k z).imp (λh'=>W k (.inl (h4 k (.inl h')))) id
  ·exact .inl (W k (.inl (h4 k (.inr z))))
  ·exact .inl (W _ (.inr (.inl rfl)))
  ·exact .inl (W _ (.inr (.inr z)))
end
end
section
open Go.RowKit
section
variable{w w':World}{H wb b t:Nat}{aA o:Int}{R R':Kind}{P:PD}{FT aB:Nat->Prop}{puts:List Pu}{ls:List (Value×Int)}{Ag:Nat}
def WZ(h:PB P t)(ht:t<=330000):P.D.A6.length<1099511627776/\P.D.AK.length<1099511627776/\P.D.Ap.length<1099511627776/\∀c∈P.D.Ap,c.length<1099511627776:=by
 have h1:=h.BO.A6;have h2:=h.BO.AK;have h3:=h.BO.An;exact⟨by omega,by omega,by omega,λc z=>by have:=h.BO.Fu c z;omega⟩
end
section
variable{w w':World}{H wb t:Nat}{aA:Int}{puts:List Pu}{ls:List (Value×Int)}
def Yt{p:Int}{h:DN}{k:Int}(z:AY p):0<=(Es h k p).BA/\(Es h k p).BA<=9223372036854775807:=by
 obtain⟨p1,p2⟩:=z;unfold Es wrap64;dsimp only
 split<;>omega
end
end
end Go.Proofs.YtodcnkbblippnabGreatDoor
