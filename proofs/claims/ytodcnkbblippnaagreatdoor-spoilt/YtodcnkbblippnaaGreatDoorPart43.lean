/- Part 43 of a proof: walks of the program. -/
import Derived.Test.YtodcnkbblippnaaGreatDoorPart42
namespace Go.Proofs.YtodcnkbblippnaaGreatDoor
set_option maxRecDepth 100000
set_option maxHeartbeats 32000000
set_option linter.defProp false
open Go.Proofs.Tryz
section
open Go.RowKit
structure KN where
 dv:gd
 sv:gd
 Qr:Int
def N1(n:KN):Array Value:=#[n.dv,n.sv,A0 n.Qr]
def Dp(w:ga)(xb:Nat)(n:KN):Prop:=w.heap[xb]?=some (.cells (N1 n) 60 (0,0))
section
variable{w w':ga}{xb:Nat}{n:KN}
def Dp.c0(h:Dp w xb n):A7 w xb 0 n.dv:=by unfold Dp at h;simp[A7,World.cell?,h,N1]
def Dp.s0(h:Dp w xb n)(x:gd):Dp (w.setCell (Ac xb 0) x) xb {n with dv:=x}:=CL h
def Dp.c1(h:Dp w xb n):A7 w xb 1 n.sv:=by unfold Dp at h;simp[A7,World.cell?,h,N1]
def Dp.s1(h:Dp w xb n)(x:gd):Dp (w.setCell (Ac xb 1) x) xb {n with sv:=x}:=CL h
def Dp.c2(h:Dp w xb n):A7 w xb 2 (A0 n.Qr):=by unfold Dp at h;simp[A7,World.cell?,h,N1]
def Dp.fz(h:Dp w xb n)(o:Nat):w.frozen? (Ac xb o)=false:=by unfold Dp at h;simp[World.frozen?,h]
def Dp.lt(h:Dp w xb n):xb<w.heap.size:=Bv h
def Dp.Al{S:Nat->Prop}(h:Dp w xb n)(d:A3 S w w')(z:¬S xb):Dp w' xb n:=(d.An xb h.lt z).trans h
def Dp.aJ(h:Dp w xb n)(d:A3 Ab w w'):Dp w' xb n:=h.Al d (λh=>h)
end
structure KW (w:ga) (H xb:Nat) (n:KN) (R:Kind) (FT:Nat->Prop):Prop where
 Ah:Dp w xb n
 Hi:Ma R
 G9:R w FT
 lt:∀k,FT k->k<w.heap.size
 nw:¬FT xb
 up:H<=xb
 I4:∀k,FT k->H<=k
section
variable{w w':ga}{H xb:Nat}{n n':KN}{R R':Kind}{FT:Nat->Prop}
def KW.FM{S:Nat->Prop}(h:KW w H xb n R FT)(d:A3 S w w')(I:¬S xb)(E:∀k,FT k->¬S k):KW w' H xb n R FT:=
 ⟨h.Ah.Al d I,h.Hi,h.Hi _ _ _ _ h.G9 h.lt d E,λk z=>Bi (h.lt k z) d.Aj,h.nw,h.up,h.I4⟩
def KW.aJ(h:KW w H xb n R FT)(d:A3 Ab w w'):KW w' H xb n R FT:=h.FM d (λh=>h) λ_ _ h=>h
def KW.Aj(h:KW w H xb n R FT):H<=w.heap.size:=by have:=h.up;have:=h.Ah.lt;omega
def KW.de(h:KW w H xb n R FT)(hs:Ma R')(O:Aq w FT w' R'):A3 (Up H) w w'/\A3 FT w w'/\∃d,KW w' H xb n R' d/\∀k,d k->FT k\/w.heap.size<=k:=by
 obtain⟨E,d,Y,W,z⟩:=O;have hz:=h.Aj;have hl:=h.Ah.lt;refine⟨E.af λx _ I=>h.I4 x I,E,d,⟨h.Ah.Al E h.nw,hs,Y,W,λI=>?_,h.up,λk L=>(z k L).elim (h.I4 k) λhy=>AJ hz hy⟩,z⟩;rcases z xb I with hy|hy
 ·exact h.nw hy
 ·omega
end
def JQ(t H xb sb ab b:Nat)(wc A9:Int)(pd:gh Pu)(Ad:Nat)(ro:Bool)(P:PD)(w:ga)(FT:Nat->Prop):Prop:=
 ∃L A,KW w H xb ⟨.pointer (some ⟨b,0,none⟩),.pointer (some ⟨sb,0,none⟩),A9⟩ (KS sb ab b 1000 wc A9 ro L A P) FT/\Ip t A P pd Ad (Bo A9 1000) ro/\Rel L pd 1000 A9/\(∀k,k<8->(L k).length<=t)/\DM P t/\(1<=wc/\wc<=4611686018427387904)/\AT A9
def F4(t H xb b:Nat)(sv:gd)(A9:Int)(pd:gh Pu)(Ad:Nat)(aA:Bool)(P:PD)(w:ga)(FT:Nat->Prop):Prop:=
 KW w H xb ⟨.pointer (some ⟨b,0,none⟩),sv,A9⟩ (KD b P) FT/\Hu t P pd Ad (Bo A9 1000) aA/\DM P t/\AT A9
def KO(t H xb sb ab b:Nat)(wc A9:Int)(pd:gh Pu)(Ad:Nat)(ro:Bool)(P:PD)(w:ga):Prop:=
 ∃L A FT,KW w H xb ⟨.pointer (some ⟨b,0,none⟩),.pointer (some ⟨sb,0,none⟩),A9⟩ (KS sb ab b 1000 wc A9 ro L A P) FT/\Ip t A P pd Ad (Bo A9 1000) ro/\Rel L pd 1000 A9/\(∀k,k<8->(L k).length<=t)/\DM P t/\(1<=wc/\wc<=4611686018427387904)/\AT A9
def KC(t H xb b:Nat)(sv:gd)(A9:Int)(pd:gh Pu)(Ad:Nat)(aA:Bool)(P:PD)(w:ga):Prop:=∃FT,F4 t H xb b sv A9 pd Ad aA P w FT
def FE(xb:Nat)(FT:Nat->Prop)(k:Nat):Prop:=k=xb\/FT k
def Kf:(1:Int)<=1000/\(1000:Int)<=4611686018427387904:=⟨by decide,by decide⟩
section
variable{w w':ga}{t t' H xb sb ab b B N:Nat}{wc A9:Int}{pd:gh Pu}{Ad:Nat}{ro aA:Bool}{P:PD}{sv:gd}
def KO.aJ(h:KO t H xb sb ab b wc A9 pd Ad ro P w)(E:A3 Ab w w'):KO t H xb sb ab b wc A9 pd Ad ro P w':=by
 obtain⟨L,A,FT,z,d⟩:=h;exact⟨L,A,FT,z.aJ E,d⟩
def KO.af(h:KO t H xb sb ab b wc A9 pd Ad ro P w)(d:t<=t'):KO t' H xb sb ab b wc A9 pd Ad ro P w:=by
 obtain⟨L,A,FT,W,I,h3,O,Y,E⟩:=h;exact⟨L,A,FT,W,I.af d,h3,λk z=>AJ (O k z) d,Y.af d,E⟩
def KO.Ah(h:KO t H xb sb ab b wc A9 pd Ad ro P w):Dp w xb ⟨A5 b,A5 sb,A9⟩:=by obtain⟨L,A,FT,d,-⟩:=h;exact d.Ah
def KO.Aj(h:KO t H xb sb ab b wc A9 pd Ad ro P w):H<=w.heap.size:=by obtain⟨L,A,FT,d,-⟩:=h;exact d.Aj
def KO.pu(h:KO t H xb sb ab b wc A9 pd Ad ro P w):(∀p∈pd,B8 p)/\pd.length<=t/\Ad<=pd.length/\DM P t/\AT A9:=by
 obtain⟨L,A,FT,h1,d,h3,h4,z,h6,E⟩:=h;exact⟨d.1.2.2.1,d.1.2.2.2.1,d.1.2.2.2.2,z,E⟩
def KO.dG(h:KO t H xb sb ab b wc A9 pd Ad ro P w):∃lv L,BA w sb 0 (A5 ab) 1000 wc A9 ro lv/\Eh w lv L/\Rel L pd 1000 A9:=by
 obtain⟨L,A,FT,d,h2,z,-⟩:=h;obtain⟨lv,F0,q,-⟩:=d.G9;exact⟨lv,L,q.Ah,q.FK,z⟩
def KO.cq(h:KO t H xb sb ab b wc A9 pd Ad ro P w)(k:Nat)(d:k<8)(a c:Int):
 Ag 37 #[A5 sb,A0 k,A0 a,A0 c] w λe w'=>∃x,e=.returned (.tuple #[x,A0 0])/\DT w' x (refQ pd k a c 1000 A9)/\A3 Ab w w':=by
 obtain⟨lv,L,O,E,h3⟩:=h.dG;obtain⟨Y,-,-,-,I⟩:=h.pu;refine(T4 w k a c O E d Kf I).mono ?_;rintro e w'⟨x,rfl,z,hc,-⟩;rw[h3.cq (λp W=>(Y p W).2.1) d]at z;exact⟨x,rfl,z,hc⟩
def KO.eK(h:KO t H xb sb ab b wc A9 pd Ad ro P w):
 Ag 38 #[A5 sb] w (Am (.agg #[.bool ro,A0 A9]) λw'=>A3 Ab w w'):=by
 obtain⟨lv,L,d,-⟩:=h.dG;exact Yh w d
def KO.ah{f:Nat}{args:Array gd}{cd:Int}{h:Bool}{L A FT}{E:Nat->gh Pt}{A2:Ar}{P2:PD}{q:gh Pu}{s2:Nat}{d:Int}(h1:KW w H xb ⟨.pointer (some ⟨b,0,none⟩),.pointer (some ⟨sb,0,none⟩),A9⟩ (KS sb ab b 1000 wc A9 ro L A P) FT)(W:Calls Tryz.prog f args w λe w'=>e=.returned (.int .i64 cd)/\Aq w FT w' (λw' z=>SF w' sb ab b 0 1000 wc d h E A2 P2 z))(Y:Ip t' A2 P2 q s2 (Bo d 1000) h)(h3:Rel E q 1000 d)(h4:∀k,k<8->(E k).length<=t')(h5:DM P2 t')(h6:1<=wc/\wc<=4611686018427387904)(h7:AT d)(I:d=A9):
 Calls Tryz.prog f args w λe w'=>e=.returned (.int .i64 cd)/\A3 FT w w'/\A3 (Up H) w w'/\KO t' H xb sb ab b wc d q s2 h P2 w':=by
 subst I;refine W.mono ?_;rintro e w'⟨rfl,hI⟩;obtain⟨c1,c2,z,O,-⟩:=h1.de (KS.Hi sb ab b 1000 wc d h E A2 P2) hI;exact⟨rfl,c2,c1,E,A2,z,O,Y,h3,h4,h5,h6,h7⟩
def KO.ax(h:KO t H xb sb ab b wc A9 pd Ad false P w)(hd:P.D.n.AW=false)(I:t+1<=330000)(hL:Lets B w)(W:B<=H)(p:Pu)(O:B8 p):
 Ag 23 #[A5 sb,A0 p.1,A0 p.2.1,A0 p.2.2] w λe w'=>∃cd P2 q,e=.returned (A0 cd)/\A3 (Up H) w w'/\(q=pd++[p]\/(q=pd/\cd≠0))/\
  KO (t+1) H xb sb ab b wc A9 q Ad (decide (cd≠0)) P2 w'/\HM P cd P2/\(cd=0->P.D.n.AQ+1<=P2.D.n.AQ):=by
 obtain⟨L,A,FT,z,h2,h3,h4,h5,h6,h7⟩:=h;have Y:=h2.2 hd;obtain⟨c1,c2,c3⟩:=Y.fm h5 I p O;have d:∀k,k<8->E4 (L k):=by obtain⟨lv,F0,q,-⟩:=z.G9;exact q.FK.G4
 obtain⟨q,q1,q2,q3,q4⟩:=A0c Y I p O h3 d (bo:=(A.ae P p).1) (cd:=(A.ae P p).2.1) (A2:=(A.ae P p).2.2.1) (P2:=(A.ae P p).2.2.2) rfl rfl;refine(KO.ah z (Tb w p z.G9 z.lt Y I O hL (λk E=>AJ W (z.I4 k E)) h4 Kf h7) q2 q3 (λk E=>q4 k E (h4 k E)) c2 h6 h7 rfl).mono ?_;rintro e w'⟨rfl,-,k1,k2⟩;exact⟨_,_,q,rfl,k1,q1,k2,c1,c3⟩
def X3(f:Nat):Prop:=f=31\/f=24\/f=25
def KO.cQ(aB:Fy N)(hN:N<=330000)(f:Nat)(hf:X3 f)(h:KO t H xb sb ab b wc A9 pd Ad false P w)(hd:P.D.n.AW=false)(I:t+1<=330000)(aE:t<=N)(hL:Lets B w)(aD:B<=H):
 Ag f #[A5 sb] w λe w'=>∃cd P2,e=.returned (A0 cd)/\A3 (Up H) w w'/\KO (t+1) H xb sb ab b wc A9 pd (if cd=0 then pd.length else Ad) (decide (cd≠0)) P2 w'/\HM P cd P2:=by
 obtain⟨L,A,FT,E,h2,h3,h4,h5,h6,h7⟩:=h;have d:=h2.2 hd;have z:∀k,FT k->B<=k:=λk hk=>AJ aD (E.I4 k hk);have O:∀k,k<8->(L k).length<=t+1:=λk hk=>NK (h4 k hk);have Y:=AJ d.B4 aE;rcases hf with rfl|rfl|rfl
 ·obtain⟨a1,-,a3,a4,a5,-⟩:=d.ad I;obtain⟨c1,c2⟩:=d.fD h5 I;refine(KO.ah E (XH w E.G9 E.lt hL z) (OI d a1 a3 a4 a5) h3 O c2 h6 h7 rfl).mono ?_;rintro e w'⟨rfl,-,W,k2⟩;exact⟨_,_,rfl,W,k2,c1⟩
 ·obtain⟨a1,-,a3,a4,a5⟩:=d.aR (wa:=wc) (Fp _) I;obtain⟨c1,c2⟩:=d.fy (wa:=wc) (Fp _) h5 I;refine(KO.ah E (Ve aB hN w E.G9 E.lt d I Y h6 hL z) (OI d a1 a3 a4 a5) h3 O c2 h6 h7 rfl).mono ?_;rintro e w'⟨rfl,-,W,k2⟩;exact⟨_,_,rfl,W,k2,c1⟩
 ·obtain⟨a1,-,a3,a4,a5⟩:=d.aP (wa:=wc) (Fp _) I;obtain⟨c1,c2⟩:=d.eY (wa:=wc) (Fp _) h5 I;refine(KO.ah E (A3s aB hN w E.G9 E.lt d I Y h6 hL z Kf h7) (OI d a1 a3 a4 a5) h3 O c2 h6 h7 rfl).mono ?_;rintro e w'⟨rfl,-,W,k2⟩;exact⟨_,_,rfl,W,k2,c1⟩
def JF(n:DN)(c:Int):DN:={n with Ce:=if c>0 then wrap64 (n.AQ+c) else 0}
def F4.aW{w0:ga}{FT:Nat->Prop}(h:F4 t H xb b sv A9 pd Ad aA P w0 FT)(aB:A3 (λ_=>False) w0 w)(ht:t<=330000)(z:Int)(O:gd)(E:gh Int)(aD:AT z)(k1:O0 w O E)(k2:∀x∈E,AT x)(k3:∀L n c x,n≠0->O=.slice L n c->L=some x->x.block<H\/w0.heap.size<=x.block):
 Calls Tryz.prog 32 #[.pointer (some ⟨b,0,none⟩),.int .i64 z,O] w λe w'=>e=.returned (.tuple #[])/\A3 FT w w'/\∃P2 d,F4 t H xb b sv A9 pd Ad true P2 w' d/\(∀k,d k->FT k\/w.heap.size<=k)/\Still P2/\P2.D.n.AW=false:=by
 obtain⟨h0,h2,h3,h4⟩:=h;have h1:=h0.aJ aB;obtain⟨hp,W,hq,hl,aE⟩:=h2.cx;have I:=hp.BQ.B4
 refine(A3c h1.G9 z O E k1 (λL m c x e0 e1 e2 hx=>by
  rcases k3 L m c x e0 e1 e2 with h5|h5
  ·have:=h1.I4 _ hx;omega
  ·have:=h0.lt _ hx;omega) (YK hp ht) aD k2 (λf hf=>⟨(W.ep f hf).1,(W.ep f hf).2,by have:=I f hf;omega⟩)).mono ?_
 rintro e w'⟨rfl,hc,Y,q3,q4,q5⟩;obtain⟨c1,c2⟩:=Hu.aW hp W hq hl aE ht z E;obtain⟨-,x1,d,x2,x3⟩:=h1.de (R':=KD b (P.aW z E)) (KD.Hi _ _) ⟨hc,Y,q3,q4,q5⟩;exact⟨rfl,x1,P.aW z E,d,⟨x2,c1,(h3.aW z E).1,h4⟩,x3,(h3.aW z E).2,c2⟩
end
end
section
open Go.RowKit
attribute [local go_sem ↓] Go.wp_at_zero Go.wp_at_succ
section
variable{w:ga}{t H xb b B N:Nat}{n:KN}{A9:Int}{P:PD}{Ft:Nat->Prop}{q:gh Pu}{pd:gh Pu}{Ad:Nat}{aA:Bool}{sv:gd}
def A1z(b3:Fy N)(hN:N<=330000)(w:ga)(h:Dp w xb n)(bV:n.dv=(A5 b))(aJ:n.Qr=A9)(hd:Bf w b P Ft)(hp:PB P t)(Y:DI (Ca t) P q Ad (Bo A9 1000))(hr:Reads (Ca t) P q (Bo A9 1000))(hq:∀p∈q,B8 p)(bQ:q.length<=t)(bM:Ad<=q.length)(aI:P.D.n.AW=false)(ht:t+3<=330000)(bN:q.length+2<=N)(hE:Env B w)(hc:AT A9):
 Ag 120 #[A5 xb] w (Am (.tuple #[]) λw'=>A3 Ab w w'):=by
 have c0:=h.c0;rw[bV]at c0;have cA:=A1 (VC hd (hp.dO (by omega)));have H:=A1 h;have aV:=A1 hE
 have bE:Hid (∀(E:ga) (I:Nat) (z:Nat->Prop),Bf E I P.b0 z->(∀k,z k->k<E.heap.size)->Env B E->Ag 22 #[A5 I,.agg #[A0 1000,A0 7],A0 A9] E λe w'=>
  ∃ab O,e=.returned (.tuple #[A5 O,A0 0])/\E.heap.size<=O/\Aq E z w' (Live t q.length O ab I 1000 7 A9)):=λE I z g1 g2 g3=>by
  have bZ:PB P.b0 t:=hp.b8 _ rfl ⟨by simp[Ev],by simp[Ev]⟩ rfl rfl;refine(TJ (t:=t) (pd:=q) (Ad:=Ad) E z g1 g2 bZ ⟨Y.DP,Y.Ap,Y.Cj,Y.CG⟩ (hr.ay λ_=>rfl) hq bQ bM aI (by omega) g3 Kf (by omega) hc).mono ?_;rintro e w'⟨A,ab,O,L,rfl,k1,-,k2,k3,k4,k5⟩;exact⟨ab,O,rfl,k1,k5.bY λF k6=>⟨false,L,A,_,q,Ad,k6,λ_=>⟨k2,k4,Ao _⟩⟩⟩
 have a6:Hid (∀(W:ga) (O ab I t' M:Nat) (FT:Nat->Prop) (p:Pu),B8 p->t'+1<=330000->Live t' M O ab I 1000 7 A9 W FT->(∀k,FT k->k<W.heap.size)->Lets B W->(∀k,FT k->B<=k)->
  Ag 23 #[A5 O,A0 p.1,A0 p.2.1,A0 p.2.2] W λe w'=>(∃c,e=.returned (A0 c))/\Aq W FT w' (Live (t'+1) (M+1) O ab I 1000 7 A9)):=λW O ab I t' M FT p g1 g2 g3 g4 g5 g6=>A1i W p g3 g4 g2 g1 g5 g6 Kf hc
 have b5:B8 ((0:Int),A9,(4626322:Int)):=⟨⟨by simp,by simp⟩,hc,(show AT 4626322 from ⟨by decide,by decide⟩)⟩;have a8:B8 ((1:Int),A9,(4626322:Int)):=⟨⟨by simp,by simp⟩,hc,(show AT 4626322 from ⟨by decide,by decide⟩)⟩;have b6:=A1 b5;have bR:=A1 a8;have bY:=A1 ht;have b7:=A1 bN;have bG:=A1 hN;have HZ:=A1 h.lt
 go_enter func120,ntmps120
 go_wp2_with (first
  | (go_at_call 47;refine cA.m ?_;rintro e w1⟨I,Ft2,rfl,bP,aQ,bJ⟩;have a9:=A1 bP;have aF:=A1 aQ;have aT:=A1 bJ)
  | (go_at_call 35;refine(Vt a9.o 0).mono ?_;rintro e w2⟨rfl,aW,bA,aO,aU,aL⟩
     have bF:=A1 aO;have a7:Hid (∀k,bA k->w.heap.size<=k/\k<w2.heap.size):=λk d=>⟨(aL k d).elim (λh=>(aF.o k h).1) (λh=>AJ aT.o.Aj h),aU k d⟩
     have aR:Hid (A3 Ab w w2):=aT.o.br aW (λx hx=>(aF.o x hx).1)
     clear aW aO aU aL)
  | (go_at_call 78;refine(Vj bF.o 0 0).mono ?_;rintro e E⟨rfl,aS,z,a4,a0,aZ⟩
     have bD:Hid (Bf E I P.b0 z):=a4;have aY:Hid (∀k,z k->w.heap.size<=k/\k<E.heap.size):=λk d=>⟨(aZ k d).elim (λh=>(a7.o k h).1) (λh=>AJ aR.o.Aj h),a0 k d⟩
     have aB:Hid (A3 Ab w E):=aR.o.br aS (λx hx=>(a7.o x hx).1);have d2:=(H.o.aJ aB.o).c2;rw[aJ]at d2
     clear aS a4 a0 aZ)
  | (go_at_call 22;refine(bE.o E I z bD.o (λk d=>(aY.o k d).2) (aV.o.aO aB.o)).mono ?_))
 rintro e W⟨ab,O,rfl,hsb,b0,a1,bH,a3,bI⟩;have aK:B<=w.heap.size:=aV.o.1.1;have a2:Hid (∀k,z k->w.heap.size<=k):=λk d=>(aY.o k d).1
 have aH:Hid (∀k,a1 k->w.heap.size<=k):=λk d=>(bI k d).elim (a2.o k) λh=>AJ aB.o.Aj h
 have aE:Hid (A3 Ab w W):=aB.o.br b0 a2.o;have e2:=(H.o.aJ aE.o).c2;rw[aJ]at e2;have bS:Hid (Env B W):=aV.o.aO aE.o;have b9:=A1 (a6.o W O ab I t q.length a1 _ b6.o (by have:=bY.o;omega) bH a3 bS.o.1 λk d=>AJ aK (aH.o k d));go_wp2_with (fail);refine b9.m ?_;rintro e w5⟨⟨c1,rfl⟩,bL,a5,b4,aX,bB⟩;have aG:Hid (∀k,a5 k->w.heap.size<=k):=λk d=>(bB k d).elim (aH.o k) λh=>AJ aE.o.Aj h
 have aD:Hid (A3 Ab w w5):=aE.o.br bL aH.o;have bU:Hid (Env B w5):=aV.o.aO aD.o;have f2:=(H.o.aJ aD.o).c2;rw[aJ]at f2;have P2:=A1 (a6.o w5 O ab I (t+1) (q.length+1) a5 _ bR.o (by have:=bY.o;omega) b4 aX bU.o.1 λk d=>AJ aK (aG.o k d));go_wp2_with (fail);refine P2.m ?_;rintro e w6⟨⟨c2,rfl⟩,bC,bO,b1,aP,bW⟩;have aM:Hid (∀k,bO k->w.heap.size<=k):=λk d=>(bW k d).elim (aG.o k) λh=>AJ aD.o.Aj h
 have aN:Hid (A3 Ab w w6):=aD.o.br bC aG.o;have bT:Hid (Env B w6):=aV.o.aO aN.o;have b8:=A1 (A1j b3 bG.o w6 b1 aP (by have:=bY.o;omega) (by have:=b7.o;omega) (by omega) bT.o.1 λk d=>AJ aK (aM.o k d));go_wp2_with (fail);refine b8.m ?_;rintro e w7⟨⟨c3,rfl⟩,bK,-⟩;have bX:Hid (A3 Ab w w7):=aN.o.br bK aM.o;go_wp2;go_end0;exact⟨rfl,bX.o⟩
def Qz(t H xb:Nat)(wa A9:Int)(pd:gh Pu)(Ad:Nat)(aA:Bool)(P:PD)(w:ga)(FT:Nat->Prop):Prop:=
 ∃h ab d m P2,JQ t H xb h ab d (1+Du wa 300) A9 (pd.take m) Ad false P2 w FT/\Ad<=m/\m<=pd.length/\P2.D.n.AW=false/\(P.D.n.AW=false->P2=P/\(aA=false->m=pd.length))/\(P.D.n.AW=true->Still P2)
def F4.fx{FT:Nat->Prop}(h:F4 t H xb b sv A9 pd Ad aA P w FT)(I:P.D.n.AW=false):∃m,PB P t/\DI (Ca t) P (pd.take m) Ad (Bo A9 1000)/\Reads (Ca t) P (pd.take m) (Bo A9 1000)/\(∀p∈pd.take m,B8 p)/\(pd.take m).length<=t/\Ad<=(pd.take m).length/\
 Ad<=m/\m<=pd.length/\(aA=false->m=pd.length)/\DM P t/\AT A9:=by
 obtain⟨h1,⟨O,h3,W,h5,h6,d⟩,h8,h9⟩:=h;rcases d with d|⟨z,g1,E,g3,g4⟩
 ·rw[I]at d;cases d
 ·obtain⟨g5,L⟩:=g4 _ z (I0 _) (Ao _) E (C4.I _ _);have hlen:(pd.take z).length=z:=by rw[BT];omega
  exact⟨z,O,g5,L,λp Y=>W p (J6 Y),by omega,by omega,g1,E,g3,h8,h9⟩
end
section
variable{w:ga}{t H xb b B N:Nat}{A9:Int}{P:PD}{pd:gh Pu}{Ad:Nat}{aA:Bool}{sv:gd}
def Ww(t H xb b B:Nat)(I A9:Int)(pd:gh Pu)(Ad:Nat)(P:PD)(m:Nat)(w:ga):Prop:=
 (∃sv,Dp w xb ⟨.pointer (some ⟨b,0,none⟩),sv,A9⟩)/\H<=xb/\Env B w/\(Calls Tryz.prog 120 #[.pointer (some ⟨xb,0,none⟩)] w λe w'=>e=.returned (.tuple #[])/\A3 (λ_=>False) w w')/\
 (∀O,A3 (λ_=>False) w O->Calls Tryz.prog 47 #[.pointer (some ⟨b,0,none⟩)] O λe w'=>∃h d,e=.returned (.pointer (some ⟨h,0,none⟩))/\Bf w' h P d/\(∀k,d k->O.heap.size<=k/\k<w'.heap.size)/\A3 (λ_=>False) O w')/\
 (∀z h d,Bf z h P d->(∀k,d k->k<z.heap.size)->Env B z->Calls Tryz.prog 22 #[.pointer (some ⟨h,0,none⟩),.agg #[.int .i64 1000,.int .i64 I],.int .i64 A9] z λe w'=>
  ∃ab E,e=.returned (.tuple #[.pointer (some ⟨E,0,none⟩),.int .i64 0])/\∃L A,Aq z d w' (KS E ab h 1000 I A9 false L A P)/\
   ∀W FT,KW W H xb ⟨.pointer (some ⟨h,0,none⟩),.pointer (some ⟨E,0,none⟩),A9⟩ (KS E ab h 1000 I A9 false L A P) FT->JQ t H xb E ab h I A9 (pd.take m) Ad false P W FT)
def F4.e6{FT:Nat->Prop}(W:Fy N)(hN:N<=330000)(h:F4 t H xb b sv A9 pd Ad aA P w FT)(E:P.D.n.AW=false)(wa:Int)(ht:t+3<=330000)(htN:t+2<=N)(hE:Env B w):
 ∃m,Ww t H xb b B (1+Du wa 300) A9 pd Ad P m w/\Ad<=m/\m<=pd.length/\(aA=false->m=pd.length):=by
 obtain⟨m,I,h3,h4,h5,h6,h7,h8,h9,O,Y,d⟩:=h.fx E;have z:=h.1;have hpk:=Ia wa 300 (by decide);refine⟨m,⟨⟨sv,z.Ah⟩,z.up,hE,?_,λw2 hc=>?_,λw3 b2 aB g1 g2 g3=>?_⟩,h8,h9,O⟩
 ·exact A1z W hN w z.Ah rfl rfl z.G9 I h3 h4 h5 h6 h7 E ht (by omega) hE d
 ·exact VC (B1.ay z.G9 z.lt hc) (I.dO (by omega))
 ·refine(TJ (t:=t) w3 aB g1 g2 I h3 h4 h5 h6 h7 E (by omega) g3 Kf (by omega) d).mono ?_;rintro e w'⟨A,ab,sb,L,rfl,-,-,k2,k3,k4,k5⟩;exact⟨ab,sb,rfl,L,A,k5,λw4 FT' hk=>⟨L,A,hk,k2.dQ,k3,k4,Y,by omega,d⟩⟩
def A1y{w':ga}{E:KN}{R':Kind}{d:Nat->Prop}(W:Dp w' xb E)(h:H<=xb)(Y:Ma R')(L:R' w' d)(z:∀k,d k->k<w'.heap.size)(I:∀k,d k->xb<k):KW w' H xb E R' d:=
 ⟨W,Y,L,z,λhx=>by have:=I xb hx;omega,h,λk O=>by have:=I k O;omega⟩
def A1B{FT:Nat->Prop}(bV:Fy N)(hN:N<=330000)(w:ga)(wa:Int)(aE:AT wa)(h:F4 t H xb b sv A9 pd Ad aA P w FT)(ht:t+3<=330000)(a1:t+2<=N)(hE:Env B w)(a0:B<=H):
 Ag 79 #[A5 xb,A0 wa] w (Am (.bool true) λw'=>A3 (FE xb FT) w w'/\∃I,Qz t H xb wa A9 pd Ad aA P w' I/\∀k,I k->w.heap.size<=k):=by
 have bF:Hid (Ag 36 #[A5 b] w (Am (.bool P.D.n.AW) λw'=>w=w')):=A2R h.1.G9;have bR:Hid (∀k,FE xb FT k->H<=k):=λk z=>z.elim (λe=>by rw[e];exact h.1.up) (h.1.I4 k);have XLT:=A1 h.1.Ah.lt;have b9:=A1 (λw'=>Jy w' wa 300 aE (by decide));have hpk:=Ia wa 300 (by decide);have ew:IntKind.i64.wrap (1+Du wa 300)=1+Du wa 300:=by simp[IntKind.wrap,IntKind.bits,IntKind.signed];omega
 have c0:=h.1.Ah.c0;have aT:=A1 aE;have hA:A3 Ab w (w.aC #[A0 wa,A0 wa,A0 wa] 3):=(A3.I _ w).al _;have hI:O0 (w.aC #[A0 wa,A0 wa,A0 wa] 3) (AH w.heap.size 3 3) [wa,wa,wa]:=by
  have bK:=BL w (.cells #[A0 wa,A0 wa,A0 wa] 3);refine⟨_,_,rfl,by simp,λj hj=>⟨w.heap.size,0,rfl,by simp,?_⟩⟩;simp only[World.cell?,bK]
  match j,hj with
  | 0,_=>rfl
  | 1,_=>rfl
  | 2,_=>rfl
 have CR:=A1 (h.aW hA (by omega) wa _ _ aE hI (by simp;exact aE) (λad n c x _ e1 e2=>by cases e1;cases e2;exact .inr (Ao _)));have aH:Hid (∀w1 P2 Y aK,F4 t H xb b sv A9 pd Ad Y P2 w1 aK->P2.D.n.AW=false->Env B w1->∃m,Ww t H xb b B (1+Du wa 300) A9 pd Ad P2 m w1/\Ad<=m/\m<=pd.length/\(Y=false->m=pd.length)):=λw1 P2 Y aK z hd bJ=>z.e6 bV hN hd wa ht a1 bJ;have b3:=A1 hE;have bX:=A1 h;have a2:=A1 a0;clear h hE aE ht a1 a0 hA hI;generalize aG:Du wa 300=pk at *;rcases Bool.eq_false_or_eq_true P.D.n.AW with O|O;rotate_left
 focus
  obtain⟨m,hr,m1,m2,m3⟩:=aH.o w P aA FT bX.o O b3.o;have a9:=A1 hr;have a3:Hid (∀w' I,(∃W ab d,JQ t H xb W ab d (1+pk) A9 (pd.take m) Ad false P w' I)->Qz t H xb wa A9 pd Ad aA P w' I):=λw' I ⟨W,ab,d,z⟩=>⟨W,ab,d,m,P,by rw[aG];exact z,m1,m2,O,λ_=>⟨rfl,m3⟩,λe=>by rw[O]at e;cases e⟩
  rw[O]at bF;have bS:Hid (∀w' d E,Bf w' d P E->Ag 50 #[A5 d] w' λe aO=>e=.returned (A0 P.D.n.Bl)/\w'=aO):=λw' d E hd=>SP hd;have bD:Hid (A3 (FE xb FT) w w):=A3.I _ _;have b6:=A1 a9.o.2.2.1;clear hr m1 m2 m3 aH CR aG bX aT
  go_enter func79,ntmps79
  go_wp2_with (go_at_call 36;refine bF.m ?_;rintro e w'⟨rfl,rfl⟩)
 rotate_left
 focus
  rw[O]at bF
  go_enter func79,ntmps79
  go_wp2_with (go_at_call 36;refine bF.m ?_;rintro e w'⟨rfl,rfl⟩);refine CR.m ?_;rintro e w1⟨rfl,k1,P2,aK,aY,-,aU,aN⟩;have bD:Hid (A3 (FE xb FT) w w1):=((A3.I (FE xb FT) w).al _).Av k1 λ_ h _=>.inr h;obtain⟨m,hr,m1,m2,m3⟩:=aH.o w1 P2 true aK aY aN (b3.o.an bD.o λk z=>AJ a2.o (bR.o k z));have a9:=A1 hr;have a3:Hid (∀w' I,(∃W ab d,JQ t H xb W ab d (1+pk) A9 (pd.take m) Ad false P2 w' I)->Qz t H xb wa A9 pd Ad aA P w' I):=λw' I ⟨W,ab,d,z⟩=>⟨W,ab,d,m,P2,by rw[aG];exact z,m1,m2,aN,λe=>(by rw[O]at e;cases e),λ_=>aU⟩
  have bS:Hid (∀w' d E,Bf w' d P2 E->Ag 50 #[A5 d] w' λe aO=>e=.returned (A0 P2.D.n.Bl)/\w'=aO):=λw' d E hd=>SP hd;have b6:=A1 a9.o.2.2.1;clear hr m1 m2 m3 aH CR aG bX aT k1 aY aU aN;go_wp2_with (fail)
 all_goals
  obtain⟨⟨sv1,bB⟩,a8,-,a7,aR,aS⟩:=a9.o;have a6:=A1 bB;have aW:=A1 a8;have b4:=A1 aR;have aV:=A1 aS;clear a9 bB a8 aR aS;refine a7.mono ?_;rintro e w2⟨rfl,k2⟩;have bQ:=A1 (a6.o.aJ k2);have a4:=A1 (b4.o w2 k2);have b7:Hid (Env B w2):=b6.o.aO k2;have bO:Hid (A3 (FE xb FT) w w2):=bD.o.Av k2 λ_ h _=>h.elim;have z0:=bQ.o.c0;clear a7 k2 b4 bD a6;go_wp2_with (fail);refine a4.m ?_;rintro e w3⟨d,E,rfl,aQ,aD,k3⟩;have bE:=bQ.o.aJ k3;have f3:=bE.fz 0;have y0:=bE.c0;have aB:A3 (One xb) w3 (w3.setCell (Ac xb 0) (A5 d)):=(A3.I (One xb) w3).aq (b:=xb) rfl 0 _;have bC:=A1 (bE.s0 (A5 d));have aX:=bQ.o.lt;have bH:Hid (Bf (w3.setCell (Ac xb 0) (A5 d)) d _ E):=B1.aN aQ λk z=>aB.An k (aD k z).2 (λe=>by cases e;have:=(aD _ z).1;omega);have aP:Hid (∀k,E k->w2.heap.size<=k/\k<(w3.setCell (Ac xb 0) (A5 d)).heap.size):=λk z=>⟨(aD k z).1,Bi (aD k z).2 aB.Aj⟩
  have bZ:Hid (A3 (FE xb FT) w (w3.setCell (Ac xb 0) (A5 d))):=(bO.o.Av k3 λ_ h _=>h.elim).Av aB λ_ e _=>.inl e;have bY:Hid (Env B (w3.setCell (Ac xb 0) (A5 d))):=(b7.o.aO k3).an aB λk e=>by cases e;exact AJ a2.o aW.o
  have bI:=A1 aX;have bT:Hid (w2.heap.size<=(w3.setCell (Ac xb 0) (A5 d)).heap.size):=AJ k3.Aj aB.Aj;clear aQ aD k3 bE aB aX;go_wp2_with (fail);generalize w3.setCell (Ac xb 0) (A5 d)=w4 at bC bH aP bZ bY bT ⊢;have bL:=A1 (bS.o w4 d E bH.o);refine bL.m ?_;rintro e w'⟨rfl,rfl⟩;have q0:=bC.o.c0;have q2:=bC.o.c2;have a5:=A1 (aV.o w4.drew d E (B1.ag bH.o) (λk z=>(aP.o k z).2) (bY.o.aO (A3.I Ab w4).ag));clear aV a4;go_wp2;refine Cc (λw'=>A7 w' xb 0 (A5 d)/\A7 w' xb 2 (A0 A9)) 17
   (BG [0,1,2,3,4,8,9,10,11,5,6,7,12,13,14,15,16] [5,12]) ⟨q0,q2⟩ ?_
  iterate 9 refine Bq ?_
  refine Bx λK hK=>?_;go_simp;refine(b9.o _).mono ?_;rintro e w'⟨rfl,rfl⟩;refine hK _ _ ⟨q0,q2⟩ (λhS=>?_)
  iterate 2 refine Bq ?_
  refine Bx λK hK=>?_;go_simp;refine a5.m ?_;rintro e w5⟨ab,W,rfl,L,A,hI,bA⟩;obtain⟨aF,aJ,aZ,aL,aM⟩:=hI;have nx:¬E xb:=λhx=>by have:=(aP.o _ hx).1;have:=bI.o;omega
  refine hK _ _ ⟨VS aF q0 nx,VS aF q2 nx⟩ (λhS=>?_);have bW:=A1 ((bC.o.aJ (A3.I Ab w4).ag).Al aF nx);have b8:Hid (∀k,aJ k->w.heap.size<=k):=λk z=>AJ bO.o.Aj ((aM k z).elim (λh=>(aP.o k h).1) λh=>AJ bT.o h);have b1:Hid (∀k,aJ k->xb<k):=λk z=>(aM k z).elim (λh=>Bi bI.o (aP.o k h).1) λh=>Bi bI.o (AJ bT.o h)
  have cA:Hid (A3 (FE xb FT) w w5):=(bZ.o.ag).Av aF λx hx hlt=>by have h1:=(aP.o x hx).1;have h2:=bO.o.Aj;omega
  have b0:=A1 aZ;have bN:=A1 aL;have bM:=A1 bA;clear bA aF aZ aL aM nx a5
  iterate 4 refine Bq ?_
  refine C8 ?_;have y1:=bW.o.c1;have f1:=bW.o.fz 1;have aI:A3 (One xb) w5 (w5.setCell (Ac xb 1) (A5 W)):=(A3.I (One xb) w5).aq (b:=xb) rfl 1 _;have bP:Hid (KW (w5.setCell (Ac xb 1) (A5 W)) H xb ⟨A5 d,A5 W,A9⟩ (KS W ab d 1000 (1+pk) A9 false L A _) aJ):=
   A1y (bW.o.s1 _) aW.o (KS.Hi _ _ _ _ _ _ _ _ _ _) (KS.Hi _ _ _ _ _ _ _ _ _ _ _ _ _ _ b0.o bN.o aI λk z e=>by cases e;have:=b1.o _ z;omega) (λk z=>Bi (bN.o k z) aI.Aj) b1.o
  have b5:Hid (A3 (FE xb FT) w (w5.setCell (Ac xb 1) (A5 W))):=cA.o.Av aI λ_ e _=>.inl e;clear aI b0 bN;go_wp2_with (fail);generalize w5.setCell (Ac xb 1) (A5 W)=w6 at bP b5 ⊢;obtain⟨bU,bG,-⟩:=SF.dk bP.o.G9;refine(bS.o w6 d bU bG).mono ?_;rintro e w'⟨rfl,rfl⟩;go_wp2;go_ret;exact⟨rfl,b5.o,aJ,a3.o _ _ ⟨W,ab,d,bM.o _ _ bP.o⟩,b8.o⟩
def JQ.ko{z ab:Nat}{E:Int}{d:Bool}{FT:Nat->Prop}(h:JQ t H xb z ab b E A9 pd Ad d P w FT):KO t H xb z ab b E A9 pd Ad d P w:=by
 obtain⟨L,A,I⟩:=h;exact⟨L,A,FT,I⟩
def A1D{FT:Nat->Prop}{w':ga}(h:F4 t H xb b sv A9 pd Ad aA P w FT)(z:A3 (FE xb FT) w w'):A3 (Up H) w w':=z.af λk _ d=>d.elim (λe=>by rw[e];exact h.1.up) (h.1.I4 k)
end
section
variable{w:ga}{t H xb b B N:Nat}{A9:Int}{P:PD}{pd:gh Pu}{Ad:Nat}{aA:Bool}{sv:gd}
def Ws(t H xb:Nat)(wa A9:Int)(pd:gh Pu)(Ad:Nat)(aA:Bool)(P:PD)(w:ga)(FT:Nat->Prop):Prop:=
 ∃h ab d m P2,JQ t H xb h ab d (1+Du wa 300) A9 (pd.take m) Ad false P2 w FT/\Ad<=m/\m<=pd.length/\P2.D.n.AW=false/\Still P2/\(P.D.n.AW=false->P2.D.n.Bl=P.D.n.Bl/\(aA=false->m=pd.length))
def Std(t H xb:Nat)(wa A9:Int)(pd:gh Pu)(Ad:Nat)(aA:Bool)(P:PD)(w:ga):Prop:=
 ∃h ab d m P2,KO t H xb h ab d (1+Du wa 300) A9 (pd.take m) Ad false P2 w/\Ad<=m/\m<=pd.length/\P2.D.n.AW=false/\Still P2/\(P.D.n.AW=false->P2.D.n.Bl=P.D.n.Bl/\(aA=false->m=pd.length))
def F4.b8{FT:Nat->Prop}(h:F4 t H xb b sv A9 pd Ad aA P w FT)(d:DN)(w':ga)(O:d.AA=P.D.n.AA)(e2:0<=d.BC/\d.BC<=9223372036854775807)(e3:d.Bl=P.D.n.Bl)(e4:d.fulls=P.D.n.fulls)(Y:d.AW=P.D.n.AW)(e6:d.AQ=P.D.n.AQ)(hA:EA w FT w' b {P.D with n:=d} P.F):A3 FT w w'/\∃z,F4 t H xb b sv A9 pd Ad aA ⟨{P.D with n:=d},P.F⟩ w' z/\∀k,z k->FT k\/w.heap.size<=k:=by
 obtain⟨h1,h2,L,h4⟩:=h;obtain⟨hc,E,q1,q2,q3⟩:=hA;obtain⟨-,c2,I,W,k2⟩:=h1.de (R':=KD b ⟨{P.D with n:=d},P.F⟩) (KD.Hi _ _) ⟨hc,E,q1,q2,q3⟩;exact⟨c2,I,⟨W,h2.b8 d O e2 e3 e4 Y,⟨O.trans L.1,by dsimp only;rw[e6];exact L.2⟩,h4⟩,k2⟩
def A1A{FT:Nat->Prop}(aJ:Fy N)(hN:N<=330000)(w:ga)(wa:Int)(O:AT wa)(h:F4 t H xb b sv A9 pd Ad aA P w FT)(ht:t+3<=330000)(aE:t+2<=N)(hE:Env B w)(aD:B<=H):
 Ag 33 #[A5 xb,A0 wa] w (Am (.bool true) λw'=>A3 (FE xb FT) w w'/\∃d,Ws t H xb wa A9 pd Ad aA P w' d/\∀k,d k->w.heap.size<=k):=by
 have aO:Hid (Ag 35 #[A5 b,A0 0] w (Am (.tuple #[]) λw'=>A3 FT w w'/\∃d,F4 t H xb b sv A9 pd Ad aA ⟨{P.D with n:=JF P.D.n 0},P.F⟩ w' d/\∀k,d k->FT k\/w.heap.size<=k)):=by
  refine(Vt h.1.G9 0).mono ?_;rintro e w'⟨rfl,hA⟩;exact⟨rfl,h.b8 (JF P.D.n 0) w' rfl h.2.1.1.BQ.BC rfl rfl rfl rfl hA⟩
 have c0:=h.1.Ah.c0;have aN:Hid (∀E z,F4 t H xb b sv A9 pd Ad aA ⟨{P.D with n:=JF P.D.n 0},P.F⟩ E z->Ag 78 #[A5 b,A0 0,A0 0] E (Am (.tuple #[]) λw'=>A3 z E w'/\∃d,F4 t H xb b sv A9 pd Ad aA ⟨{P.D with n:=Ev (JF P.D.n 0) 0 0},P.F⟩ w' d/\∀k,d k->z k\/E.heap.size<=k)):=λE z I=>by
  refine(Vj I.1.G9 0 0).mono ?_;rintro e w'⟨rfl,hA⟩;exact⟨rfl,I.b8 (Ev (JF P.D.n 0) 0 0) w' rfl (A0s ⟨by decide,by decide⟩) rfl rfl rfl rfl hA⟩
 have aH:Hid (∀k,FE xb FT k->H<=k):=λk L=>L.elim (λe=>by rw[e];exact h.1.up) (h.1.I4 k);have aF:Hid (∀E z,F4 t H xb b sv A9 pd Ad aA ⟨{P.D with n:=Ev (JF P.D.n 0) 0 0},P.F⟩ E z->A3 (FE xb FT) w E->Ag 79 #[A5 xb,A0 wa] E (Am (.bool true) λw'=>A3 (FE xb z) E w'/\(∃sb Y,Dp w' xb ⟨A5 Y,A5 sb,A9⟩)/\∃d,Ws t H xb wa A9 pd Ad aA P w' d/\∀k,d k->E.heap.size<=k)):=λE z I hc=>by
  refine(A1B aJ hN E wa O I ht aE (hE.an hc λk L=>AJ aD (aH.o k L)) aD).mono ?_;rintro e w'⟨rfl,k1,d,⟨sb,ab,Y,m,P2,k2,k3,k4,k5,k6,k7⟩,k8⟩;refine⟨rfl,k1,⟨sb,Y,k2.ko.Ah⟩,d,⟨sb,ab,Y,m,P2,k2,k3,k4,k5,?_,λhd=>?_⟩,k8⟩
  ·cases hd:P.D.n.AW with
   | false=>rw[(k6 hd).1];exact⟨by simp[Ev,JF],by simp[Ev]⟩
   | true=>exact k7 hd
  ·obtain⟨e1,e2⟩:=k6 hd;exact⟨by rw[e1];rfl,e2⟩
 clear hE O ht aE h
 go_enter func33,ntmps33
 go_wp2_with (fail);refine aO.m ?_;rintro e E⟨rfl,k1,z,I,s1⟩;have z0:=I.1.Ah.c0;have aL:=A1 k1;have aP:=A1 s1;have aK:=A1 (aN.o E z I);clear aO aN I k1 s1;go_wp2_with (fail);refine aK.m ?_;rintro e w2⟨rfl,k2,aB,h2,s2⟩;have aS:Hid (∀k,aB k->FT k\/w.heap.size<=k):=λk L=>(s2 k L).elim (λh=>aP.o k h) λh=>.inr (AJ aL.o.Aj h)
 have aI:Hid (A3 (FE xb FT) w w2):=(aL.o.af (S':=FE xb FT) λ_ _ h=>.inr h).Av k2 λx hx aG=>.inr ((aP.o x hx).elim id λh=>by omega);have aM:=A1 (aF.o w2 aB h2 aI.o);clear aF h2 k2 s2;go_wp2_with (fail);refine aM.m ?_;rintro e w3⟨rfl,k3,⟨sb,Y,hb⟩,W,h3,s3⟩;have y1:=hb.c1;have aQ:=A1 h3;have aT:Hid (∀k,W k->w.heap.size<=k):=λk L=>AJ aI.o.Aj (s3 k L);have aR:Hid (A3 (FE xb FT) w w3):=aI.o.Av k3 λx hx aG=>hx.elim .inl λh=>(aS.o x h).elim .inr λh=>by omega
 clear hb h3 k3 aM s3;go_wp2;go_ret;exact⟨rfl,aR.o,W,aQ.o,aT.o⟩
def UG(z:Fy N)(hN:N<=330000)(w:ga)(wa:Int)(d:AT wa)(h:KC t H xb b sv A9 pd Ad aA P w)(O:t+3<=330000)(I:t+2<=N)(Y:Env B w)(E:B<=H):
 Ag 33 #[A5 xb,A0 wa] w (Am (.bool true) λw'=>A3 (Up H) w w'/\Std t H xb wa A9 pd Ad aA P w'):=by
 obtain⟨FT,h⟩:=h;refine(A1A z hN w wa d h O I Y E).mono ?_;rintro e w'⟨rfl,L,FT',⟨sb,ab,b2,m,P2,k2,W⟩,-⟩;exact⟨rfl,A1D h L,sb,ab,b2,m,P2,k2.ko,W⟩
def Mde(A9:Int)(w:ga)(xb:Nat)(w':ga):Prop:=A3 (λ_=>False) w w'/\∃d ab b P,KO 0 w.heap.size xb d ab b (1+Du 9 300) A9 [] 0 false P w'/\P.D.n.AW=false/\Still P/\P.D.n.Bl=0
def A1C(aE:Fy N)(hN:10<=N/\N<=330000)(w:ga)(A9:Int)(hc:AT A9)(hE:Env B w):
 Ag 34 #[A0 A9] w λe w'=>∃xb,e=.returned (A5 xb)/\Mde A9 w xb w':=by
 have aO:=A1 (TW (F:=λ_=>([],0)) 1152921504606846976 w);have aP:=A1 hc;have HE:=A1 hE
 have ST:Hid (∀d xb b,KC 0 w.heap.size xb b (.pointer none) A9 [] 0 false (hollow 1152921504606846976) d->A3 Ab w d->Ag 33 #[A5 xb,A0 9] d (Am (.bool true) λw'=>A3 Ab w w'/\
  ∃L ab b2 P,KO 0 w.heap.size xb L ab b2 (1+Du 9 300) A9 [] 0 false P w'/\P.D.n.AW=false/\Still P/\P.D.n.Bl=0)):=λd xb b h1 O=>by
  refine(UG (B:=B) aE hN.2 d 9 ⟨by decide,by decide⟩ h1 (by omega) (by omega) (hE.aO O) hE.1.1).mono ?_;rintro e w'⟨rfl,k2,L,ab,b2,m,P2,q1,-,-,q4,q5,q6⟩;rw[List.take_nil]at q1;exact⟨rfl,O.br k2 λ_ h=>h,L,ab,b2,P2,q1,q4,q5,(q6 rfl).1⟩
 clear hE
 go_enter func34,ntmps34
 go_wp2_with (fail);refine aO.m ?_;rintro e d⟨rfl,W,O,hz⟩;have hA:=(A3.I Ab d).al (.cells #[A5 w.heap.size,.pointer none,A0 A9] 60);have hK:Hid (KC 0 w.heap.size d.heap.size w.heap.size (.pointer none) A9 [] 0 false (hollow 1152921504606846976) (d.alloc (.cells #[A5 w.heap.size,.pointer none,A0 A9] 60))):=
  ⟨One w.heap.size,⟨BL d _,KD.Hi _ _,W.ay (λk Y=>by cases Y;omega) hA,λk Y=>by cases Y;have:=hA.Aj;omega,λe=>by unfold One at e;omega,by omega,λk Y=>by cases Y;exact Ao _⟩,A2p (by omega),⟨rfl,by simp[hollow,IW],by simp[hollow,IW]⟩,aP.o⟩
 have aF:Hid (A3 Ab w (d.alloc (.cells #[A5 w.heap.size,.pointer none,A0 A9] 60))):=O.tr hA;have aK:=A1 (ST.o _ _ _ hK.o aF.o);clear ST W O hA hz;go_wp2_with (fail);refine aK.m ?_;rintro e w2⟨rfl,k2,L,ab,b2,P,h2,W,hs,hr⟩;have y1:=h2.Ah.c1;have aJ:=A1 h2;have aR:=A1 (And.intro W (And.intro hs hr));have aI:=A1 h2.eK;have aG:=A1 k2;clear h2 W hs hr k2 aK hK aF;go_wp2_with (fail);refine aI.m ?_;rintro e z⟨rfl,k3⟩;have aQ:Hid (A3 Ab w z):=aG.o.tr k3;have aL:=A1 (aJ.o.aJ k3);have E:=(A3.I Ab z).al (.cells #[.bool false,A0 A9] 74);have I:=BL z (.cells #[.bool false,A0 A9] 74);have aB:=A1 (aL.o.aJ E);have aH:Hid (A3 Ab w (z.alloc (.cells #[.bool false,A0 A9] 74))):=aQ.o.tr E;have z1:=aB.o.Ah.c1;have x0:A7 (z.alloc (.cells #[.bool false,A0 A9] 74)) z.heap.size 0 (.bool false):=Gu I;have x1:A7 (z.alloc (.cells #[.bool false,A0 A9] 74)) z.heap.size 1 (A0 A9):=Gu I;have aD:Hid (Ag 37 #[A5 L,A0 0,A0 (-9223372036854775808),A0 9223372036854775807] (z.alloc (.cells #[.bool false,A0 A9] 74)) λe w'=>∃x,e=.returned (.tuple #[x,A0 0])/\DT w' x []/\A3 Ab (z.alloc (.cells #[.bool false,A0 A9] 74)) w'):=aB.o.cq 0 (by decide) _ _;clear E I k3 aI aJ aG;go_wp2_with (fail);generalize z.alloc (.cells #[.bool false,A0 A9] 74)=w4 at aB aH x0 x1 aD ⊢;refine aD.m ?_;rintro e w5⟨x,rfl,hx,k6⟩;have x0':=k6.ao x0;have x1':=k6.ao x1;obtain⟨ad,cap,rfl,-⟩:=B9 hx;have aM:=A1 (aB.o.aJ k6);have aN:Hid (A3 Ab w w5):=aH.o.tr k6;clear hx k6 aD;go_wp2;go_ret;exact⟨d.heap.size,rfl,aN.o,L,ab,b2,P,aM.o,aR.o⟩
end
end
end Go.Proofs.YtodcnkbblippnaaGreatDoor
