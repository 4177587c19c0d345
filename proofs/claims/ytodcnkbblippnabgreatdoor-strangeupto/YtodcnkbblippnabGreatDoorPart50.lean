/- Part 50 of a proof: walks of the program. -/
import Derived.Test.YtodcnkbblippnabGreatDoorPart49
namespace Go.Proofs.YtodcnkbblippnabGreatDoor
set_option maxRecDepth 100000
set_option maxHeartbeats 32000000
set_option linter.defProp false
open Go.Proofs.Tryz
section
open Go.RowKit
structure KN where
 dv:Value
 sv:Value
 OU:Int
def M6(n:KN):Array Value:=#[n.dv,n.sv,A0 n.OU]
def Dr(w:World)(xb:Nat)(n:KN):Prop:=w.heap[xb]?=some (.cells (M6 n) 48 (0,0))
section
variable{w w':World}{xb:Nat}{n:KN}
def Dr.c0(h:Dr w xb n):Aa w xb 0 n.dv:=by unfold Dr at h;simp[Aa,World.cell?,h,M6]
def Dr.s0(h:Dr w xb n)(x:Value):Dr (w.setCell (Ad xb 0) x) xb {n with dv:=x}:=CE h
def Dr.c1(h:Dr w xb n):Aa w xb 1 n.sv:=by unfold Dr at h;simp[Aa,World.cell?,h,M6]
def Dr.s1(h:Dr w xb n)(x:Value):Dr (w.setCell (Ad xb 1) x) xb {n with sv:=x}:=CE h
def Dr.c2(h:Dr w xb n):Aa w xb 2 (A0 n.OU):=by unfold Dr at h;simp[Aa,World.cell?,h,M6]
def Dr.fz(h:Dr w xb n)(o:Nat):w.frozen? (Ad xb o)=false:=by unfold Dr at h;simp[World.frozen?,h]
def Dr.lt(h:Dr w xb n):xb<w.heap.size:=Bo h
def Dr.An{S:Nat->Prop}(h:Dr w xb n)(z:A5 S w w')(I:¬S xb):Dr w' xb n:=(z.Ao xb h.lt I).trans h
def Dr.aJ(h:Dr w xb n)(z:A5 Ab w w'):Dr w' xb n:=h.An z (λh=>h)
end
structure KW (w:World) (H xb:Nat) (n:KN) (R:Kind) (FT:Nat->Prop):Prop where
 Ai:Dr w xb n
 Hy:L7 R
 HI:R w FT
 lt:∀k,FT k->k<w.heap.size
 nw:¬FT xb
 up:H<=xb
 IC:∀k,FT k->H<=k
section
variable{w w':World}{H xb:Nat}{n n':KN}{R R':Kind}{FT:Nat->Prop}
def KW.bx{S:Nat->Prop}(h:KW w H xb n R FT)(z:A5 S w w')(W:¬S xb)(O:∀k,FT k->¬S k):KW w' H xb n R FT:=
 ⟨h.Ai.An z W,h.Hy,h.Hy _ _ _ _ h.HI h.lt z O,λk I=>Bm (h.lt k I) z.Am,h.nw,h.up,h.IC⟩
def KW.aJ(h:KW w H xb n R FT)(z:A5 Ab w w'):KW w' H xb n R FT:=h.bx z (λh=>h) λ_ _ h=>h
def KW.Am(h:KW w H xb n R FT):H<=w.heap.size:=by have:=h.up;have:=h.Ai.lt;omega
def KW.dG(h:KW w H xb n R FT)(hs:L7 R')(hI:Ax w FT w' R'):A5 (Up H) w w'/\A5 FT w w'/\∃z,KW w' H xb n R' z/\∀k,z k->FT k\/w.heap.size<=k:=by
 obtain⟨W,z,h1,h2,O⟩:=hI;have hz:=h.Am;have hl:=h.Ai.lt;refine⟨W.ae λx _ X=>h.IC x X,W,z,⟨h.Ai.An W h.nw,hs,h1,h2,λX=>?_,h.up,λk Y=>(O k Y).elim (h.IC k) λI=>AH hz I⟩,O⟩;rcases O xb X with I|I
 ·exact h.nw I
 ·omega
end
def Jd(t H xb sb ab b:Nat)(Ak Ac:Int)(puts:List Pu)(Ag:Nat)(ro:Bool)(P:PD)(w:World)(FT:Nat->Prop):Prop:=
 ∃L A,KW w H xb ⟨.pointer (some ⟨b,0,none⟩),.pointer (some ⟨sb,0,none⟩),Ac⟩ (KS sb ab b 1000 Ak Ac ro L A P) FT/\PM t A P puts Ag (Bu Ac 1000) ro/\Rel L puts 1000 Ac/\(∀k,k<8->(L k).length<=t)/\Iz P t/\(1<=Ak/\Ak<=4611686018427387904)/\AY Ac
def EV(t H xb b:Nat)(sv:Value)(Ac:Int)(puts:List Pu)(Ag:Nat)(aA:Bool)(P:PD)(w:World)(FT:Nat->Prop):Prop:=
 KW w H xb ⟨.pointer (some ⟨b,0,none⟩),sv,Ac⟩ (KD b P) FT/\Hw t P puts Ag (Bu Ac 1000) aA/\Iz P t/\AY Ac
def KO(t H xb sb ab b:Nat)(Ak Ac:Int)(puts:List Pu)(Ag:Nat)(ro:Bool)(P:PD)(w:World):Prop:=
 ∃L A FT,KW w H xb ⟨.pointer (some ⟨b,0,none⟩),.pointer (some ⟨sb,0,none⟩),Ac⟩ (KS sb ab b 1000 Ak Ac ro L A P) FT/\PM t A P puts Ag (Bu Ac 1000) ro/\Rel L puts 1000 Ac/\(∀k,k<8->(L k).length<=t)/\Iz P t/\(1<=Ak/\Ak<=4611686018427387904)/\AY Ac
def KC(t H xb b:Nat)(sv:Value)(Ac:Int)(puts:List Pu)(Ag:Nat)(aA:Bool)(P:PD)(w:World):Prop:=∃FT,EV t H xb b sv Ac puts Ag aA P w FT
def FA(xb:Nat)(FT:Nat->Prop)(k:Nat):Prop:=k=xb\/FT k
def M0:(1:Int)<=1000/\(1000:Int)<=4611686018427387904:=⟨by decide,by decide⟩
section
variable{w w':World}{t t' H xb sb ab b B N:Nat}{Ak Ac:Int}{puts:List Pu}{Ag:Nat}{ro aA:Bool}{P:PD}{sv:Value}
def KO.aJ(h:KO t H xb sb ab b Ak Ac puts Ag ro P w)(O:A5 Ab w w'):KO t H xb sb ab b Ak Ac puts Ag ro P w':=by
 obtain⟨L,A,FT,I,z⟩:=h;exact⟨L,A,FT,I.aJ O,z⟩
def KO.Ai(h:KO t H xb sb ab b Ak Ac puts Ag ro P w):Dr w xb ⟨A7 b,A7 sb,Ac⟩:=by obtain⟨L,A,FT,z,-⟩:=h;exact z.Ai
def KO.pu(h:KO t H xb sb ab b Ak Ac puts Ag ro P w):(∀p∈puts,B8 p)/\puts.length<=t/\Ag<=puts.length/\Iz P t/\AY Ac:=by
 obtain⟨L,A,FT,h1,z,h3,h4,I,h6,O⟩:=h;exact⟨z.1.2.2.1,z.1.2.2.2.1,z.1.2.2.2.2,I,O⟩
def KO.dt(h:KO t H xb sb ab b Ak Ac puts Ag ro P w):∃lv L,Bz w sb 0 (A7 ab) 1000 Ak Ac ro lv/\Ei w lv L/\Rel L puts 1000 Ac:=by
 obtain⟨L,A,FT,z,h2,I,-⟩:=h;obtain⟨lv,F0,q,-⟩:=z.HI;exact⟨lv,L,q.Ai,q.FH,I⟩
def KO.cG(h:KO t H xb sb ab b Ak Ac puts Ag ro P w)(k:Nat)(z:k<8)(a c:Int):
 Aj 16 #[A7 sb,A0 k,A0 a,A0 c] w λe w'=>∃x,e=.returned (.tuple #[x,A0 0])/\El w' x (refQ puts k a c 1000 Ac)/\A5 Ab w w':=by
 obtain⟨lv,L,X,O,h3⟩:=h.dt;obtain⟨p1,-,-,-,W⟩:=h.pu;refine(NA w k a c X O z M0 W).mono ?_;rintro e w'⟨x,rfl,I,hc,-⟩;rw[h3.cG (λp Y=>(p1 p Y).2.1) z]at I;exact⟨x,rfl,I,hc⟩
def KO.eE(h:KO t H xb sb ab b Ak Ac puts Ag ro P w):
 Aj 20 #[A7 sb] w (Au (.agg #[.bool ro,A0 Ac]) λw'=>A5 Ab w w'):=by
 obtain⟨lv,L,z,-⟩:=h.dt;exact WM w z
def J2(n:DN)(c:Int):DN:={n with CP:=if c>0 then wrap64 (n.Bw+c) else 0}
def EV.aW{w0:World}{FT:Nat->Prop}(h:EV t H xb b sv Ac puts Ag aA P w0 FT)(aD:A5 (λ_=>False) w0 w)(ht:t<=330000)(z:Int)(Y:Value)(O:List Int)(aF:AY z)(k1:N0 w Y O)(k2:∀x∈O,AY x)(k3:∀X n c x,n≠0->Y=.slice X n c->X=some x->x.block<H\/w0.heap.size<=x.block):
 Calls Tryz.prog 74 #[.pointer (some ⟨b,0,none⟩),.int .i64 z,Y] w λe w'=>e=.returned (.tuple #[])/\A5 FT w w'/\∃aE I,EV t H xb b sv Ac puts Ag true aE w' I/\(∀k,I k->FT k\/w.heap.size<=k)/\Still aE/\aE.D.n.Bf=false:=by
 obtain⟨h0,h2,h3,h4⟩:=h;have h1:=h0.aJ aD;obtain⟨hp,hd,hq,hl,aG⟩:=h2.cy;have W:=hp.BO.Bi
 refine(A1u h1.HI z Y O k1 (λX m c x e0 e1 e2 hx=>by
  rcases k3 X m c x e0 e1 e2 with h5|h5
  ·have:=h1.IC _ hx;omega
  ·have:=h0.lt _ hx;omega) (WZ hp ht) aF k2 (λf hf=>⟨(hd.ei f hf).1,(hd.ei f hf).2,by have:=W f hf;omega⟩)).mono ?_
 rintro e w'⟨rfl,hc,aB,q3,q4,q5⟩;obtain⟨c1,c2⟩:=Hw.aW hp hd hq hl aG ht z O;obtain⟨-,x1,I,x2,x3⟩:=h1.dG (R':=KD b (P.aW z O)) (KD.Hy _ _) ⟨hc,aB,q3,q4,q5⟩;exact⟨rfl,x1,P.aW z O,I,⟨x2,c1,(h3.aW z O).1,h4⟩,x3,(h3.aW z O).2,c2⟩
end
end
section
open Go.RowKit
attribute [local go_sem ↓] Go.wp_at_zero Go.wp_at_succ
section
variable{w:World}{t H xb b B N:Nat}{n:KN}{Ac:Int}{P:PD}{Ft:Nat->Prop}{q:List Pu}{puts:List Pu}{Ag:Nat}{aA:Bool}{sv:Value}
def ZH(b4:FN N)(hN:N<=330000)(w:World)(h:Dr w xb n)(bW:n.dv=(A7 b))(aK:n.OU=Ac)(hd:Bh w b P Ft)(hp:PB P t)(aB:DI (Db t) P q Ag (Bu Ac 1000))(hr:Reads (Db t) P q (Bu Ac 1000))(hq:∀p∈q,B8 p)(bR:q.length<=t)(bN:Ag<=q.length)(aJ:P.D.n.Bf=false)(ht:t+3<=330000)(bO:q.length+2<=N)(hE:Env B w)(hc:AY Ac):
 Aj 75 #[A7 xb] w (Au (.tuple #[]) λw'=>A5 Ab w w'):=by
 have c0:=h.c0;rw[bW]at c0;have cC:=A4 (U6 hd (hp.dD (by omega)));have H:=A4 h;have aW:=A4 hE
 have bF:Hid (∀(O:World) (W:Nat) (I:Nat->Prop),Bh O W P.bY I->(∀k,I k->k<O.heap.size)->Env B O->Aj 10 #[A7 W,.agg #[A0 1000,A0 7],A0 Ac] O λe w'=>
  ∃ab X,e=.returned (.tuple #[A7 X,A0 0])/\O.heap.size<=X/\Ax O I w' (Live t q.length X ab W 1000 7 Ac)):=λO W I g1 g2 g3=>by
  have b0:PB P.bY t:=hp.b2 _ rfl ⟨by simp[Es],by simp[Es]⟩ rfl rfl;refine(Sb (t:=t) (puts:=q) (Ag:=Ag) O I g1 g2 b0 ⟨aB.E3,aB.As,aB.Cg,aB.CH⟩ (hr.az λ_=>rfl) hq bR bN aJ (by omega) g3 M0 (by omega) hc).mono ?_;rintro e w'⟨A,ab,X,L,rfl,k1,-,k2,k3,k4,k5⟩;exact⟨ab,X,rfl,k1,k5.bV λF k6=>⟨false,L,A,_,q,Ag,k6,λ_=>⟨k2,k4,Aq _⟩⟩⟩
 have a7:Hid (∀(Y:World) (X ab W t' M:Nat) (FT:Nat->Prop) (p:Pu),B8 p->t'+1<=330000->Live t' M X ab W 1000 7 Ac Y FT->(∀k,FT k->k<Y.heap.size)->Lets B Y->(∀k,FT k->B<=k)->
  Aj 12 #[A7 X,A0 p.1,A0 p.2.1,A0 p.2.2] Y λe w'=>(∃c,e=.returned (A0 c))/\Ax Y FT w' (Live (t'+1) (M+1) X ab W 1000 7 Ac)):=λY X ab W t' M FT p g1 g2 g3 g4 g5 g6=>Zn Y p g3 g4 g2 g1 g5 g6 M0 hc
 have b6:B8 ((0:Int),Ac,(4626322:Int)):=⟨⟨by simp,by simp⟩,hc,(show AY 4626322 from ⟨by decide,by decide⟩)⟩;have a9:B8 ((1:Int),Ac,(4626322:Int)):=⟨⟨by simp,by simp⟩,hc,(show AY 4626322 from ⟨by decide,by decide⟩)⟩;have b7:=A4 b6;have bS:=A4 a9;have bZ:=A4 ht;have b8:=A4 bO;have bH:=A4 hN;have HZ:=A4 h.lt
 go_enter func75,ntmps75
 go_wp2_with (first
  | (go_at_call 15;refine cC.m ?_;rintro e w1⟨W,Ft2,rfl,bQ,aR,bK⟩;have bA:=A4 bQ;have aG:=A4 aR;have aU:=A4 bK)
  | (go_at_call 45;refine(TW bA.o 0).mono ?_;rintro e w2⟨rfl,aX,bB,aP,aV,aM⟩
     have bG:=A4 aP;have a8:Hid (∀k,bB k->w.heap.size<=k/\k<w2.heap.size):=λk z=>⟨(aM k z).elim (λh=>(aG.o k h).1) (λh=>AH aU.o.Am h),aV k z⟩
     have aS:Hid (A5 Ab w w2):=aU.o.bH aX (λx hx=>(aG.o x hx).1)
     clear aX aP aV aM)
  | (go_at_call 17;refine(TK bG.o 0 0).mono ?_;rintro e O⟨rfl,aT,I,a5,a1,a0⟩
     have bE:Hid (Bh O W P.bY I):=a5;have aZ:Hid (∀k,I k->w.heap.size<=k/\k<O.heap.size):=λk z=>⟨(a0 k z).elim (λh=>(a8.o k h).1) (λh=>AH aS.o.Am h),a1 k z⟩
     have aD:Hid (A5 Ab w O):=aS.o.bH aT (λx hx=>(a8.o x hx).1);have d2:=(H.o.aJ aD.o).c2;rw[aK]at d2
     clear aT a5 a1 a0)
  | (go_at_call 10;refine(bF.o O W I bE.o (λk z=>(aZ.o k z).2) (aW.o.aP aD.o)).mono ?_))
 rintro e Y⟨ab,X,rfl,hsb,b1,a2,bI,a4,bJ⟩;have aL:B<=w.heap.size:=aW.o.1.1;have a3:Hid (∀k,I k->w.heap.size<=k):=λk z=>(aZ.o k z).1
 have aI:Hid (∀k,a2 k->w.heap.size<=k):=λk z=>(bJ k z).elim (a3.o k) λh=>AH aD.o.Am h
 have aF:Hid (A5 Ab w Y):=aD.o.bH b1 a3.o;have e2:=(H.o.aJ aF.o).c2;rw[aK]at e2;have bT:Hid (Env B Y):=aW.o.aP aF.o;have cA:=A4 (a7.o Y X ab W t q.length a2 _ b7.o (by have:=bZ.o;omega) bI a4 bT.o.1 λk z=>AH aL (aI.o k z));go_wp2_with (fail);refine cA.m ?_;rintro e w5⟨⟨c1,rfl⟩,bM,a6,b5,aY,bC⟩;have aH:Hid (∀k,a6 k->w.heap.size<=k):=λk z=>(bC k z).elim (aI.o k) λh=>AH aF.o.Am h
 have aE:Hid (A5 Ab w w5):=aF.o.bH bM aI.o;have bV:Hid (Env B w5):=aW.o.aP aE.o;have f2:=(H.o.aJ aE.o).c2;rw[aK]at f2;have cB:=A4 (a7.o w5 X ab W (t+1) (q.length+1) a6 _ bS.o (by have:=bZ.o;omega) b5 aY bV.o.1 λk z=>AH aL (aH.o k z));go_wp2_with (fail);refine cB.m ?_;rintro e w6⟨⟨c2,rfl⟩,bD,bP,b3,aQ,bX⟩;have aN:Hid (∀k,bP k->w.heap.size<=k):=λk z=>(bX k z).elim (aH.o k) λh=>AH aE.o.Am h
 have aO:Hid (A5 Ab w w6):=aE.o.bH bD aH.o;have bU:Hid (Env B w6):=aW.o.aP aO.o;have b9:=A4 (Zo b4 bH.o w6 b3 aQ (by have:=bZ.o;omega) (by have:=b8.o;omega) (by omega) bU.o.1 λk z=>AH aL (aN.o k z));go_wp2_with (fail);refine b9.m ?_;rintro e w7⟨⟨c3,rfl⟩,bL,-⟩;have bY:Hid (A5 Ab w w7):=aO.o.bH bL aN.o;go_wp2;go_end0;exact⟨rfl,bY.o⟩
def P8(t H xb:Nat)(Ay Ac:Int)(puts:List Pu)(Ag:Nat)(aA:Bool)(P:PD)(w:World)(FT:Nat->Prop):Prop:=
 ∃I ab z m h,Jd t H xb I ab z (1+E1 Ay 300) Ac (puts.take m) Ag false h w FT/\Ag<=m/\m<=puts.length/\h.D.n.Bf=false/\(P.D.n.Bf=false->h=P/\(aA=false->m=puts.length))/\(P.D.n.Bf=true->Still h)
def EV.fp{FT:Nat->Prop}(h:EV t H xb b sv Ac puts Ag aA P w FT)(W:P.D.n.Bf=false):∃m,PB P t/\DI (Db t) P (puts.take m) Ag (Bu Ac 1000)/\Reads (Db t) P (puts.take m) (Bu Ac 1000)/\(∀p∈puts.take m,B8 p)/\(puts.take m).length<=t/\Ag<=(puts.take m).length/\
 Ag<=m/\m<=puts.length/\(aA=false->m=puts.length)/\Iz P t/\AY Ac:=by
 obtain⟨h1,⟨Y,h3,h4,h5,h6,z⟩,h8,h9⟩:=h;rcases z with z|⟨I,g1,O,g3,g4⟩
 ·rw[W]at z;cases z
 ·obtain⟨g5,X⟩:=g4 _ I (Ha _) (Aq _) O (Ci.C _ _);have hlen:(puts.take I).length=I:=by rw[BU];omega
  exact⟨I,Y,g5,X,λp hp=>h4 p (Iv hp),by omega,by omega,g1,O,g3,h8,h9⟩
end
section
variable{w:World}{t H xb b B N:Nat}{Ac:Int}{P:PD}{puts:List Pu}{Ag:Nat}{aA:Bool}{sv:Value}
def UM(t H xb b B:Nat)(Ak Ac:Int)(puts:List Pu)(Ag:Nat)(P:PD)(m:Nat)(w:World):Prop:=
 (∃sv,Dr w xb ⟨.pointer (some ⟨b,0,none⟩),sv,Ac⟩)/\H<=xb/\Env B w/\(Calls Tryz.prog 75 #[.pointer (some ⟨xb,0,none⟩)] w λe w'=>e=.returned (.tuple #[])/\A5 (λ_=>False) w w')/\
 (∀W,A5 (λ_=>False) w W->Calls Tryz.prog 15 #[.pointer (some ⟨b,0,none⟩)] W λe w'=>∃z h,e=.returned (.pointer (some ⟨z,0,none⟩))/\Bh w' z P h/\(∀k,h k->W.heap.size<=k/\k<w'.heap.size)/\A5 (λ_=>False) W w')/\
 (∀I z h,Bh I z P h->(∀k,h k->k<I.heap.size)->Env B I->Calls Tryz.prog 10 #[.pointer (some ⟨z,0,none⟩),.agg #[.int .i64 1000,.int .i64 Ak],.int .i64 Ac] I λe w'=>
  ∃ab O,e=.returned (.tuple #[.pointer (some ⟨O,0,none⟩),.int .i64 0])/\∃L A,Ax I h w' (KS O ab z 1000 Ak Ac false L A P)/\
   ∀X FT,KW X H xb ⟨.pointer (some ⟨z,0,none⟩),.pointer (some ⟨O,0,none⟩),Ac⟩ (KS O ab z 1000 Ak Ac false L A P) FT->Jd t H xb O ab z Ak Ac (puts.take m) Ag false P X FT)
def EV.eY{FT:Nat->Prop}(Y:FN N)(hN:N<=330000)(h:EV t H xb b sv Ac puts Ag aA P w FT)(O:P.D.n.Bf=false)(Ay:Int)(ht:t+3<=330000)(htN:t+2<=N)(hE:Env B w):
 ∃m,UM t H xb b B (1+E1 Ay 300) Ac puts Ag P m w/\Ag<=m/\m<=puts.length/\(aA=false->m=puts.length):=by
 obtain⟨m,W,h3,h4,h5,h6,h7,h8,h9,X,aB,z⟩:=h.fp O;have I:=h.1;have hpk:=JH Ay 300 (by decide);refine⟨m,⟨⟨sv,I.Ai⟩,I.up,hE,?_,λw2 hc=>?_,λw3 b2 aD g1 g2 g3=>?_⟩,h8,h9,X⟩
 ·exact ZH Y hN w I.Ai rfl rfl I.HI W h3 h4 h5 h6 h7 O ht (by omega) hE z
 ·exact U6 (B5.az I.HI I.lt hc) (W.dD (by omega))
 ·refine(Sb (t:=t) w3 aD g1 g2 W h3 h4 h5 h6 h7 O (by omega) g3 M0 (by omega) z).mono ?_;rintro e w'⟨A,ab,sb,L,rfl,-,-,k2,k3,k4,k5⟩;exact⟨ab,sb,rfl,L,A,k5,λw4 FT' hk=>⟨L,A,hk,k2.eI,k3,k4,aB,by omega,z⟩⟩
def ZG{w':World}{O:KN}{R':Kind}{h:Nat->Prop}(hb:Dr w' xb O)(z:H<=xb)(hs:L7 R')(X:R' w' h)(I:∀k,h k->k<w'.heap.size)(W:∀k,h k->xb<k):KW w' H xb O R' h:=
 ⟨hb,hs,X,I,λhx=>by have:=W xb hx;omega,z,λk Y=>by have:=W k Y;omega⟩
def ZL{FT:Nat->Prop}(bX:FN N)(hN:N<=330000)(w:World)(Ay:Int)(aF:AY Ay)(h:EV t H xb b sv Ac puts Ag aA P w FT)(ht:t+3<=330000)(a3:t+2<=N)(hE:Env B w)(a2:B<=H):
 Aj 46 #[A7 xb,A0 Ay] w (Au (.bool true) λw'=>A5 (FA xb FT) w w'/\∃W,P8 t H xb Ay Ac puts Ag aA P w' W/\∀k,W k->w.heap.size<=k):=by
 have bH:Hid (Aj 73 #[A7 b] w (Au (.bool P.D.n.Bf) λw'=>w=w')):=A1c h.1.HI;have bT:Hid (∀k,FA xb FT k->H<=k):=λk I=>I.elim (λe=>by rw[e];exact h.1.up) (h.1.IC k);have XLT:=A4 h.1.Ai.lt;have cB:=A4 (λw'=>Ob w' Ay 300 aF (by decide));have hpk:=JH Ay 300 (by decide);have ew:IntKind.i64.wrap (1+E1 Ay 300)=1+E1 Ay 300:=by simp[IntKind.wrap,IntKind.bits,IntKind.signed];omega
 have c0:=h.1.Ai.c0;have aV:=A4 aF;have hA:A5 Ab w (w.aC #[A0 Ay,A0 Ay,A0 Ay] 3):=(A5.C _ w).aj _;have hI:N0 (w.aC #[A0 Ay,A0 Ay,A0 Ay] 3) (AN w.heap.size 3 3) [Ay,Ay,Ay]:=by
  have bM:=BN w (.cells #[A0 Ay,A0 Ay,A0 Ay] 3);refine⟨_,_,rfl,by simp,λj hj=>⟨w.heap.size,0,rfl,by simp,?_⟩⟩;simp only[World.cell?,bM]
  match j,hj with
  | 0,_=>rfl
  | 1,_=>rfl
  | 2,_=>rfl
 have CR:=A4 (h.aW hA (by omega) Ay _ _ aF hI (by simp;exact aF) (λad n c x _ e1 e2=>by cases e1;cases e2;exact .inr (Aq _)));have aJ:Hid (∀w1 aH aB aM,EV t H xb b sv Ac puts Ag aB aH w1 aM->aH.D.n.Bf=false->Env B w1->∃m,UM t H xb b B (1+E1 Ay 300) Ac puts Ag aH m w1/\Ag<=m/\m<=puts.length/\(aB=false->m=puts.length)):=λw1 aH aB aM I hd bL=>I.eY bX hN hd Ay ht a3 bL;have b5:=A4 hE;have bZ:=A4 h;have a4:=A4 a2;clear h hE aF ht a3 a2 hA hI;generalize aI:E1 Ay 300=pk at *;rcases Bool.eq_false_or_eq_true P.D.n.Bf with X|X;rotate_left
 focus
  obtain⟨m,hr,m1,m2,m3⟩:=aJ.o w P aA FT bZ.o X b5.o;have bB:=A4 hr;have a5:Hid (∀w' W,(∃Y ab z,Jd t H xb Y ab z (1+pk) Ac (puts.take m) Ag false P w' W)->P8 t H xb Ay Ac puts Ag aA P w' W):=λw' W ⟨Y,ab,z,I⟩=>⟨Y,ab,z,m,P,by rw[aI];exact I,m1,m2,X,λ_=>⟨rfl,m3⟩,λe=>by rw[X]at e;cases e⟩
  rw[X]at bH;have bU:Hid (∀w' z O,Bh w' z P O->Aj 21 #[A7 z] w' λe aQ=>e=.returned (A0 P.D.n.Bt)/\w'=aQ):=λw' z O hd=>Rh hd;have bF:Hid (A5 (FA xb FT) w w):=A5.C _ _;have b8:=A4 bB.o.2.2.1;clear hr m1 m2 m3 aJ CR aI bZ aV
  go_enter func46,ntmps46
  go_wp2_with (go_at_call 73;refine bH.m ?_;rintro e w'⟨rfl,rfl⟩)
 rotate_left
 focus
  rw[X]at bH
  go_enter func46,ntmps46
  go_wp2_with (go_at_call 73;refine bH.m ?_;rintro e w'⟨rfl,rfl⟩);refine CR.m ?_;rintro e w1⟨rfl,k1,aH,aM,a0,-,aW,aP⟩;have bF:Hid (A5 (FA xb FT) w w1):=((A5.C (FA xb FT) w).aj _).AJ k1 λ_ h _=>.inr h;obtain⟨m,hr,m1,m2,m3⟩:=aJ.o w1 aH true aM a0 aP (b5.o.ak bF.o λk I=>AH a4.o (bT.o k I));have bB:=A4 hr;have a5:Hid (∀w' W,(∃Y ab z,Jd t H xb Y ab z (1+pk) Ac (puts.take m) Ag false aH w' W)->P8 t H xb Ay Ac puts Ag aA P w' W):=λw' W ⟨Y,ab,z,I⟩=>⟨Y,ab,z,m,aH,by rw[aI];exact I,m1,m2,aP,λe=>(by rw[X]at e;cases e),λ_=>aW⟩
  have bU:Hid (∀w' z O,Bh w' z aH O->Aj 21 #[A7 z] w' λe aQ=>e=.returned (A0 aH.D.n.Bt)/\w'=aQ):=λw' z O hd=>Rh hd;have b8:=A4 bB.o.2.2.1;clear hr m1 m2 m3 aJ CR aI bZ aV k1 a0 aW aP;go_wp2_with (fail)
 all_goals
  obtain⟨⟨sv1,bD⟩,bA,-,a9,aT,aU⟩:=bB.o;have a8:=A4 bD;have aY:=A4 bA;have b6:=A4 aT;have aX:=A4 aU;clear bB bD bA aT aU;refine a9.mono ?_;rintro e w2⟨rfl,k2⟩;have bS:=A4 (a8.o.aJ k2);have a6:=A4 (b6.o w2 k2);have b9:Hid (Env B w2):=b8.o.aP k2;have bQ:Hid (A5 (FA xb FT) w w2):=bF.o.AJ k2 λ_ h _=>h.elim;have z0:=bS.o.c0;clear a9 k2 b6 bF a8;go_wp2_with (fail);refine a6.m ?_;rintro e w3⟨z,O,rfl,aS,aE,k3⟩;have bG:=bS.o.aJ k3;have f3:=bG.fz 0;have y0:=bG.c0;have aD:A5 (One xb) w3 (w3.setCell (Ad xb 0) (A7 z)):=(A5.C (One xb) w3).ao (b:=xb) rfl 0 _;have bE:=A4 (bG.s0 (A7 z));have aZ:=bS.o.lt;have bJ:Hid (Bh (w3.setCell (Ad xb 0) (A7 z)) z _ O):=B5.aM aS λk I=>aD.Ao k (aE k I).2 (λe=>by cases e;have:=(aE _ I).1;omega);have aR:Hid (∀k,O k->w2.heap.size<=k/\k<(w3.setCell (Ad xb 0) (A7 z)).heap.size):=λk I=>⟨(aE k I).1,Bm (aE k I).2 aD.Am⟩
  have b1:Hid (A5 (FA xb FT) w (w3.setCell (Ad xb 0) (A7 z))):=(bQ.o.AJ k3 λ_ h _=>h.elim).AJ aD λ_ e _=>.inl e;have b0:Hid (Env B (w3.setCell (Ad xb 0) (A7 z))):=(b9.o.aP k3).ak aD λk e=>by cases e;exact AH a4.o aY.o
  have bK:=A4 aZ;have bV:Hid (w2.heap.size<=(w3.setCell (Ad xb 0) (A7 z)).heap.size):=AH k3.Am aD.Am;clear aS aE k3 bG aD aZ;go_wp2_with (fail);generalize w3.setCell (Ad xb 0) (A7 z)=w4 at bE bJ aR b1 b0 bV ⊢;have bN:=A4 (bU.o w4 z O bJ.o);refine bN.m ?_;rintro e w'⟨rfl,rfl⟩;have q0:=bE.o.c0;have q2:=bE.o.c2;have a7:=A4 (aX.o w4.drew z O (B5.ad bJ.o) (λk I=>(aR.o k I).2) (b0.o.aP (A5.C Ab w4).ad));clear aX a6;go_wp2;refine Ce (λw'=>Aa w' xb 0 (A7 z)/\Aa w' xb 2 (A0 Ac)) 17
   (BD [0,1,2,3,4,8,9,10,11,5,6,7,12,13,14,15,16] [5,12]) ⟨q0,q2⟩ ?_
  iterate 9 refine Bq ?_
  refine By λK hK=>?_;go_simp;refine(cB.o _).mono ?_;rintro e w'⟨rfl,rfl⟩;refine hK _ _ ⟨q0,q2⟩ (λhS=>?_)
  iterate 2 refine Bq ?_
  refine By λK hK=>?_;go_simp;refine a7.m ?_;rintro e w5⟨ab,Y,rfl,L,A,hI,bC⟩;obtain⟨aG,aL,a1,aN,aO⟩:=hI;have nx:¬O xb:=λhx=>by have:=(aR.o _ hx).1;have:=bK.o;omega
  refine hK _ _ ⟨JT aG q0 nx,JT aG q2 nx⟩ (λhS=>?_);have bY:=A4 ((bE.o.aJ (A5.C Ab w4).ad).An aG nx);have cA:Hid (∀k,aL k->w.heap.size<=k):=λk I=>AH bQ.o.Am ((aO k I).elim (λh=>(aR.o k h).1) λh=>AH bV.o h);have b4:Hid (∀k,aL k->xb<k):=λk I=>(aO k I).elim (λh=>Bm bK.o (aR.o k h).1) λh=>Bm bK.o (AH bV.o h)
  have cC:Hid (A5 (FA xb FT) w w5):=(b1.o.ad).AJ aG λx hx hlt=>by have h1:=(aR.o x hx).1;have h2:=bQ.o.Am;omega
  have b3:=A4 a1;have bP:=A4 aN;have bO:=A4 bC;clear bC aG a1 aN aO nx a7
  iterate 4 refine Bq ?_
  refine Cc ?_;have y1:=bY.o.c1;have f1:=bY.o.fz 1;have aK:A5 (One xb) w5 (w5.setCell (Ad xb 1) (A7 Y)):=(A5.C (One xb) w5).ao (b:=xb) rfl 1 _;have bR:Hid (KW (w5.setCell (Ad xb 1) (A7 Y)) H xb ⟨A7 z,A7 Y,Ac⟩ (KS Y ab z 1000 (1+pk) Ac false L A _) aL):=
   ZG (bY.o.s1 _) aY.o (KS.Hy _ _ _ _ _ _ _ _ _ _) (KS.Hy _ _ _ _ _ _ _ _ _ _ _ _ _ _ b3.o bP.o aK λk I e=>by cases e;have:=b4.o _ I;omega) (λk I=>Bm (bP.o k I) aK.Am) b4.o
  have b7:Hid (A5 (FA xb FT) w (w5.setCell (Ad xb 1) (A7 Y))):=cC.o.AJ aK λ_ e _=>.inl e;clear aK b3 bP;go_wp2_with (fail);generalize w5.setCell (Ad xb 1) (A7 Y)=w6 at bR b7 ⊢;obtain⟨bW,bI,-⟩:=SF.dk bR.o.HI;refine(bU.o w6 z bW bI).mono ?_;rintro e w'⟨rfl,rfl⟩;go_wp2;go_ret;exact⟨rfl,b7.o,aL,a5.o _ _ ⟨Y,ab,z,bO.o _ _ bR.o⟩,cA.o⟩
def Jd.ko{I ab:Nat}{Ak:Int}{z:Bool}{FT:Nat->Prop}(h:Jd t H xb I ab b Ak Ac puts Ag z P w FT):KO t H xb I ab b Ak Ac puts Ag z P w:=by
 obtain⟨L,A,O⟩:=h;exact⟨L,A,FT,O⟩
def ZN{FT:Nat->Prop}{w':World}(h:EV t H xb b sv Ac puts Ag aA P w FT)(I:A5 (FA xb FT) w w'):A5 (Up H) w w':=I.ae λk _ z=>z.elim (λe=>by rw[e];exact h.1.up) (h.1.IC k)
end
section
variable{w:World}{t H xb b B N:Nat}{Ac:Int}{P:PD}{puts:List Pu}{Ag:Nat}{aA:Bool}{sv:Value}
def UJ(t H xb:Nat)(Ay Ac:Int)(puts:List Pu)(Ag:Nat)(aA:Bool)(P:PD)(w:World)(FT:Nat->Prop):Prop:=
 ∃I ab z m h,Jd t H xb I ab z (1+E1 Ay 300) Ac (puts.take m) Ag false h w FT/\Ag<=m/\m<=puts.length/\h.D.n.Bf=false/\Still h/\(P.D.n.Bf=false->h.D.n.Bt=P.D.n.Bt/\(aA=false->m=puts.length))
def Std(t H xb:Nat)(Ay Ac:Int)(puts:List Pu)(Ag:Nat)(aA:Bool)(P:PD)(w:World):Prop:=
 ∃I ab z m h,KO t H xb I ab z (1+E1 Ay 300) Ac (puts.take m) Ag false h w/\Ag<=m/\m<=puts.length/\h.D.n.Bf=false/\Still h/\(P.D.n.Bf=false->h.D.n.Bt=P.D.n.Bt/\(aA=false->m=puts.length))
def EV.b2{FT:Nat->Prop}(h:EV t H xb b sv Ac puts Ag aA P w FT)(z:DN)(w':World)(Y:z.B1=P.D.n.B1)(e2:0<=z.BA/\z.BA<=9223372036854775807)(e3:z.Bt=P.D.n.Bt)(e4:z.fulls=P.D.n.fulls)(e5:z.Bf=P.D.n.Bf)(e6:z.Bw=P.D.n.Bw)(hA:Ev w FT w' b {P.D with n:=z} P.F):A5 FT w w'/\∃I,EV t H xb b sv Ac puts Ag aA ⟨{P.D with n:=z},P.F⟩ w' I/\∀k,I k->FT k\/w.heap.size<=k:=by
 obtain⟨h1,h2,X,h4⟩:=h;obtain⟨hc,O,q1,q2,q3⟩:=hA;obtain⟨-,c2,W,k1,k2⟩:=h1.dG (R':=KD b ⟨{P.D with n:=z},P.F⟩) (KD.Hy _ _) ⟨hc,O,q1,q2,q3⟩;exact⟨c2,W,⟨k1,h2.b2 z Y e2 e3 e4 e5,⟨Y.trans X.1,by dsimp only;rw[e6];exact X.2⟩,h4⟩,k2⟩
def ZI{FT:Nat->Prop}(aK:FN N)(hN:N<=330000)(w:World)(Ay:Int)(Y:AY Ay)(h:EV t H xb b sv Ac puts Ag aA P w FT)(ht:t+3<=330000)(aF:t+2<=N)(hE:Env B w)(aE:B<=H):
 Aj 23 #[A7 xb,A0 Ay] w (Au (.bool true) λw'=>A5 (FA xb FT) w w'/\∃z,UJ t H xb Ay Ac puts Ag aA P w' z/\∀k,z k->w.heap.size<=k):=by
 have aP:Hid (Aj 45 #[A7 b,A0 0] w (Au (.tuple #[]) λw'=>A5 FT w w'/\∃z,EV t H xb b sv Ac puts Ag aA ⟨{P.D with n:=J2 P.D.n 0},P.F⟩ w' z/\∀k,z k->FT k\/w.heap.size<=k)):=by
  refine(TW h.1.HI 0).mono ?_;rintro e w'⟨rfl,hA⟩;exact⟨rfl,h.b2 (J2 P.D.n 0) w' rfl h.2.1.1.BO.BA rfl rfl rfl rfl hA⟩
 have c0:=h.1.Ai.c0;have aO:Hid (∀O I,EV t H xb b sv Ac puts Ag aA ⟨{P.D with n:=J2 P.D.n 0},P.F⟩ O I->Aj 17 #[A7 b,A0 0,A0 0] O (Au (.tuple #[]) λw'=>A5 I O w'/\∃z,EV t H xb b sv Ac puts Ag aA ⟨{P.D with n:=Es (J2 P.D.n 0) 0 0},P.F⟩ w' z/\∀k,z k->I k\/O.heap.size<=k)):=λO I W=>by
  refine(TK W.1.HI 0 0).mono ?_;rintro e w'⟨rfl,hA⟩;exact⟨rfl,W.b2 (Es (J2 P.D.n 0) 0 0) w' rfl (Yt ⟨by decide,by decide⟩) rfl rfl rfl rfl hA⟩
 have aI:Hid (∀k,FA xb FT k->H<=k):=λk X=>X.elim (λe=>by rw[e];exact h.1.up) (h.1.IC k);have aG:Hid (∀O I,EV t H xb b sv Ac puts Ag aA ⟨{P.D with n:=Es (J2 P.D.n 0) 0 0},P.F⟩ O I->A5 (FA xb FT) w O->Aj 46 #[A7 xb,A0 Ay] O (Au (.bool true) λw'=>A5 (FA xb I) O w'/\(∃sb b2,Dr w' xb ⟨A7 b2,A7 sb,Ac⟩)/\∃z,UJ t H xb Ay Ac puts Ag aA P w' z/\∀k,z k->O.heap.size<=k)):=λO I W hc=>by
  refine(ZL aK hN O Ay Y W ht aF (hE.ak hc λk X=>AH aE (aI.o k X)) aE).mono ?_;rintro e w'⟨rfl,k1,z,⟨sb,ab,b2,m,aU,k2,k3,k4,k5,k6,k7⟩,k8⟩;refine⟨rfl,k1,⟨sb,b2,k2.ko.Ai⟩,z,⟨sb,ab,b2,m,aU,k2,k3,k4,k5,?_,λhd=>?_⟩,k8⟩
  ·cases hd:P.D.n.Bf with
   | false=>rw[(k6 hd).1];exact⟨by simp[Es,J2],by simp[Es]⟩
   | true=>exact k7 hd
  ·obtain⟨e1,e2⟩:=k6 hd;exact⟨by rw[e1];rfl,e2⟩
 clear hE Y ht aF h
 go_enter func23,ntmps23
 go_wp2_with (fail);refine aP.m ?_;rintro e O⟨rfl,k1,I,W,s1⟩;have z0:=W.1.Ai.c0;have aM:=A4 k1;have aQ:=A4 s1;have aL:=A4 (aO.o O I W);clear aP aO W k1 s1;go_wp2_with (fail);refine aL.m ?_;rintro e w2⟨rfl,k2,aD,h2,s2⟩;have aT:Hid (∀k,aD k->FT k\/w.heap.size<=k):=λk X=>(s2 k X).elim (λh=>aQ.o k h) λh=>.inr (AH aM.o.Am h)
 have aJ:Hid (A5 (FA xb FT) w w2):=(aM.o.ae (S':=FA xb FT) λ_ _ h=>.inr h).AJ k2 λx hx aH=>.inr ((aQ.o x hx).elim id λh=>by omega);have aN:=A4 (aG.o w2 aD h2 aJ.o);clear aG h2 k2 s2;go_wp2_with (fail);refine aN.m ?_;rintro e w3⟨rfl,k3,⟨sb,b2,hb⟩,aB,h3,s3⟩;have y1:=hb.c1;have aR:=A4 h3;have aV:Hid (∀k,aB k->w.heap.size<=k):=λk X=>AH aJ.o.Am (s3 k X);have aS:Hid (A5 (FA xb FT) w w3):=aJ.o.AJ k3 λx hx aH=>hx.elim .inl λh=>(aT.o x h).elim .inr λh=>by omega
 clear hb h3 k3 aN s3;go_wp2;go_ret;exact⟨rfl,aS.o,aB,aR.o,aV.o⟩
def ZJ(I:FN N)(hN:N<=330000)(w:World)(Ay:Int)(z:AY Ay)(h:KC t H xb b sv Ac puts Ag aA P w)(Y:t+3<=330000)(W:t+2<=N)(hE:Env B w)(O:B<=H):
 Aj 23 #[A7 xb,A0 Ay] w (Au (.bool true) λw'=>A5 (Up H) w w'/\Std t H xb Ay Ac puts Ag aA P w'):=by
 obtain⟨FT,h⟩:=h;refine(ZI I hN w Ay z h Y W hE O).mono ?_;rintro e w'⟨rfl,X,FT',⟨sb,ab,b2,m,aB,k2,k3⟩,-⟩;exact⟨rfl,ZN h X,sb,ab,b2,m,aB,k2.ko,k3⟩
def Ys(a n:Int)(O:AY a)(z:0<n/\n<=9223372036854775806):(∀w',Aj 11 #[A0 a,A0 n] w' λe h=>e=.returned (A0 (E1 a n))/\w'=h)/\(0<=E1 a n/\E1 a n<n)/\IntKind.i64.wrap (1+E1 a n)=1+E1 a n:=by
 have I:=JH a n z.1;exact⟨λw'=>Ob w' a n O ⟨z.1,by omega⟩,I,by simp[IntKind.wrap,IntKind.bits,IntKind.signed];omega⟩
def Mde(Ac:Int)(w:World)(xb:Nat)(w':World):Prop:=A5 (λ_=>False) w w'/\∃h ab b P,KO 0 w.heap.size xb h ab b (1+E1 9 300) Ac [] 0 false P w'/\P.D.n.Bf=false/\Still P/\P.D.n.Bt=0
def ZM(aE:FN N)(hN:10<=N/\N<=330000)(w:World)(Ac:Int)(hc:AY Ac)(hE:Env B w):
 Aj 5 #[A0 Ac] w λe w'=>∃xb,e=.returned (A7 xb)/\Mde Ac w xb w':=by
 have aO:=A4 (Sq (F:=λ_=>([],0)) 1152921504606846976 w);have aP:=A4 hc;have HE:=A4 hE
 have ST:Hid (∀z xb b,KC 0 w.heap.size xb b (.pointer none) Ac [] 0 false (hollow 1152921504606846976) z->A5 Ab w z->Aj 23 #[A7 xb,A0 9] z (Au (.bool true) λw'=>A5 Ab w w'/\
  ∃X ab b2 P,KO 0 w.heap.size xb X ab b2 (1+E1 9 300) Ac [] 0 false P w'/\P.D.n.Bf=false/\Still P/\P.D.n.Bt=0)):=λz xb b h1 Y=>by
  refine(ZJ (B:=B) aE hN.2 z 9 ⟨by decide,by decide⟩ h1 (by omega) (by omega) (hE.aP Y) hE.1.1).mono ?_;rintro e w'⟨rfl,k2,X,ab,b2,m,aR,q1,-,-,q4,q5,q6⟩;rw[List.take_nil]at q1;exact⟨rfl,Y.bH k2 λ_ h=>h,X,ab,b2,aR,q1,q4,q5,(q6 rfl).1⟩
 clear hE
 go_enter func5,ntmps5
 go_wp2_with (fail);refine aO.m ?_;rintro e z⟨rfl,hd,Y,hz⟩;have hA:=(A5.C Ab z).aj (.cells #[A7 w.heap.size,.pointer none,A0 Ac] 48);have hK:Hid (KC 0 w.heap.size z.heap.size w.heap.size (.pointer none) Ac [] 0 false (hollow 1152921504606846976) (z.alloc (.cells #[A7 w.heap.size,.pointer none,A0 Ac] 48))):=
  ⟨One w.heap.size,⟨BN z _,KD.Hy _ _,hd.az (λk hk=>by cases hk;omega) hA,λk hk=>by cases hk;have:=hA.Am;omega,λe=>by unfold One at e;omega,by omega,λk hk=>by cases hk;exact Aq _⟩,A0G (by omega),⟨rfl,by simp[hollow,Io],by simp[hollow,Io]⟩,aP.o⟩
 have aF:Hid (A5 Ab w (z.alloc (.cells #[A7 w.heap.size,.pointer none,A0 Ac] 48))):=Y.tr hA;have aK:=A4 (ST.o _ _ _ hK.o aF.o);clear ST hd Y hA hz;go_wp2_with (fail);refine aK.m ?_;rintro e w2⟨rfl,k2,X,ab,b2,P,h2,hd,hs,hr⟩;have y1:=h2.Ai.c1;have aJ:=A4 h2;have aS:=A4 (And.intro hd (And.intro hs hr));have aI:=A4 h2.eE;have aG:=A4 k2;clear h2 hd hs hr k2 aK hK aF;go_wp2_with (fail);refine aI.m ?_;rintro e I⟨rfl,k3⟩;have aQ:Hid (A5 Ab w I):=aG.o.tr k3;have aL:=A4 (aJ.o.aJ k3);have O:=(A5.C Ab I).aj (.cells #[.bool false,A0 Ac] 51);have W:=BN I (.cells #[.bool false,A0 Ac] 51);have aB:=A4 (aL.o.aJ O);have aH:Hid (A5 Ab w (I.alloc (.cells #[.bool false,A0 Ac] 51))):=aQ.o.tr O;have z1:=aB.o.Ai.c1;have x0:Aa (I.alloc (.cells #[.bool false,A0 Ac] 51)) I.heap.size 0 (.bool false):=Gg W;have x1:Aa (I.alloc (.cells #[.bool false,A0 Ac] 51)) I.heap.size 1 (A0 Ac):=Gg W;have aD:Hid (Aj 16 #[A7 X,A0 0,A0 (-9223372036854775808),A0 9223372036854775807] (I.alloc (.cells #[.bool false,A0 Ac] 51)) λe w'=>∃x,e=.returned (.tuple #[x,A0 0])/\El w' x []/\A5 Ab (I.alloc (.cells #[.bool false,A0 Ac] 51)) w'):=aB.o.cG 0 (by decide) _ _;clear O W k3 aI aJ aG;go_wp2_with (fail);generalize I.alloc (.cells #[.bool false,A0 Ac] 51)=w4 at aB aH x0 x1 aD ⊢;refine aD.m ?_;rintro e w5⟨x,rfl,hx,k6⟩;have x0':=k6.an x0;have x1':=k6.an x1;obtain⟨ad,cap,rfl,-⟩:=Bb hx;have aM:=A4 (aB.o.aJ k6);have aN:Hid (A5 Ab w w5):=aH.o.tr k6;clear hx k6 aD;go_wp2;go_ret;exact⟨z.heap.size,rfl,aN.o,X,ab,b2,P,aM.o,aS.o⟩
end
end
end Go.Proofs.YtodcnkbblippnabGreatDoor
