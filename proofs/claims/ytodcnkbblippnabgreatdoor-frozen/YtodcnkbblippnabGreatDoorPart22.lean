/- Part 22 of a proof: walks of the program. -/
import Derived.Test.YtodcnkbblippnabGreatDoorCards
import Derived.Test.YtodcnkbblippnabGreatDoorTie
import Derived.ProofKit
import Derived.OpenShut
import Derived.Carry
import Derived.Deep.DeepHandedRow
import Derived.Deep.DeepWitnessRowRef
import Derived.Deep.Slices
import Derived.Lib.LaidTab
import Derived.Stop.LaidErr
import Derived.Test.YtodcnkbblippnabGreatDoorPart21
namespace Go.Proofs.YtodcnkbblippnabGreatDoor
set_option maxRecDepth 100000
set_option maxHeartbeats 32000000
set_option linter.defProp false
open Go.Proofs.Tryz
section
open Go.RowKit
structure KN where
 dv:Value
 sv:Value
 OW:Int
def LP(n:KN):Array Value:=#[n.dv,n.sv,A0 n.OW]
def De(w:World)(xb:Nat)(n:KN):Prop:=w.heap[xb]?=some (.cells (LP n) 48 (0,0))
section
variable {w w':World} {xb:Nat} {n:KN}
def De.c0(h:De w xb n):A6 w xb 0 n.dv:=by unfold De at h;simp[A6,World.cell?,h,LP]
def De.s0(h:De w xb n)(x:Value):De (w.setCell (Ab xb 0) x) xb {n with dv:=x}:=CH h
def De.c1(h:De w xb n):A6 w xb 1 n.sv:=by unfold De at h;simp[A6,World.cell?,h,LP]
def De.s1(h:De w xb n)(x:Value):De (w.setCell (Ab xb 1) x) xb {n with sv:=x}:=CH h
def De.c2(h:De w xb n):A6 w xb 2 (A0 n.OW):=by unfold De at h;simp[A6,World.cell?,h,LP]
def De.fz(h:De w xb n)(o:Nat):w.frozen? (Ab xb o)=false:=by unfold De at h;simp[World.frozen?,h]
def De.lt(h:De w xb n):xb<w.heap.size:=Bw h
def De.An{S:Nat->Prop}(h:De w xb n)(d:A3 S w w')(z:¬S xb):De w' xb n:=(d.Al xb h.lt z).trans h
def De.aJ(h:De w xb n)(d:A3 Aa w w'):De w' xb n:=h.An d (λh=>h)
end
structure KW (w:World) (H xb:Nat) (n:KN) (R:Kind) (FT:Nat->Prop):Prop where
 Ag:De w xb n
 FW:KY R
 Ez:R w FT
 lt:∀k,FT k->k<w.heap.size
 nw:¬FT xb
 up:H<=xb
 GB:∀k,FT k->H<=k
section
variable {w w':World} {H xb:Nat} {n n':KN} {R R':Kind} {FT:Nat->Prop}
def KW.bC{S:Nat->Prop}(h:KW w H xb n R FT)(d:A3 S w w')(I:¬S xb)(E:∀k,FT k->¬S k):KW w' H xb n R FT:=
 ⟨h.Ag.An d I,h.FW,h.FW _ _ _ _ h.Ez h.lt d E,λk z=>Bm (h.lt k z) d.Ak,h.nw,h.up,h.GB⟩
def KW.aJ(h:KW w H xb n R FT)(d:A3 Aa w w'):KW w' H xb n R FT:=h.bC d (λh=>h) λ_ _ h=>h
def KW.Ak(h:KW w H xb n R FT):H<=w.heap.size:=by have:=h.up;have:=h.Ag.lt;omega
def KW.cj(h:KW w H xb n R FT)(hs:KY R')(W:Ap w FT w' R'):A3 (Up H) w w'/\A3 FT w w'/\∃d,KW w' H xb n R' d/\∀k,d k->FT k\/w.heap.size<=k:=by
 obtain⟨I,d,h1,Y,E⟩:=W;have hz:=h.Ak;have hl:=h.Ag.lt;refine⟨I.ad λx _ L=>h.GB x L,I,d,⟨h.Ag.An I h.nw,hs,h1,Y,λL=>?_,h.up,λk O=>(E k O).elim (h.GB k) λz=>AQ hz z⟩,E⟩;rcases E xb L with z|z
 ·exact h.nw z
 ·omega
end
def GZ(t H xb sb ab b:Nat)(aA A9:Int)(puts:List Pu)(Ad:Nat)(ro:Bool)(P:PD)(w:World)(FT:Nat->Prop):Prop:=
 ∃L A,KW w H xb ⟨.pointer (some ⟨b,0,none⟩),.pointer (some ⟨sb,0,none⟩),A9⟩ (KS sb ab b 1000 aA A9 ro L A P) FT/\Gj t A P puts Ad (Bv A9 1000) ro/\Rel L puts 1000 A9/\(∀k,k<8->(L k).length<=t)/\E3 P t/\(1<=aA/\aA<=4611686018427387904)/\AW A9
def EC(t H xb b:Nat)(sv:Value)(A9:Int)(puts:List Pu)(Ad:Nat)(aB:Bool)(P:PD)(w:World)(FT:Nat->Prop):Prop:=
 KW w H xb ⟨.pointer (some ⟨b,0,none⟩),sv,A9⟩ (KD b P) FT/\GM t P puts Ad (Bv A9 1000) aB/\E3 P t/\AW A9
def KO(t H xb sb ab b:Nat)(aA A9:Int)(puts:List Pu)(Ad:Nat)(ro:Bool)(P:PD)(w:World):Prop:=
 ∃L A FT,KW w H xb ⟨.pointer (some ⟨b,0,none⟩),.pointer (some ⟨sb,0,none⟩),A9⟩ (KS sb ab b 1000 aA A9 ro L A P) FT/\Gj t A P puts Ad (Bv A9 1000) ro/\Rel L puts 1000 A9/\(∀k,k<8->(L k).length<=t)/\E3 P t/\(1<=aA/\aA<=4611686018427387904)/\AW A9
def KC(t H xb b:Nat)(sv:Value)(A9:Int)(puts:List Pu)(Ad:Nat)(aB:Bool)(P:PD)(w:World):Prop:=∃FT,EC t H xb b sv A9 puts Ad aB P w FT
def F5(xb:Nat)(FT:Nat->Prop)(k:Nat):Prop:=k=xb\/FT k
def IL:(1:Int)<=1000/\(1000:Int)<=4611686018427387904:=⟨by decide,by decide⟩
section
variable {w w':World} {t t' H xb sb ab b B N:Nat} {aA A9:Int} {puts:List Pu} {Ad:Nat} {ro aB:Bool} {P:PD} {sv:Value}
def KO.aJ(h:KO t H xb sb ab b aA A9 puts Ad ro P w)(E:A3 Aa w w'):KO t H xb sb ab b aA A9 puts Ad ro P w':=by
 obtain⟨L,A,FT,z,d⟩:=h;exact⟨L,A,FT,z.aJ E,d⟩
def KO.ad(h:KO t H xb sb ab b aA A9 puts Ad ro P w)(d:t<=t'):KO t' H xb sb ab b aA A9 puts Ad ro P w:=by
 obtain⟨L,A,FT,W,I,h3,O,Y,E⟩:=h;exact⟨L,A,FT,W,I.ad d,h3,λk z=>AQ (O k z) d,Y.ad d,E⟩
def KO.Ag(h:KO t H xb sb ab b aA A9 puts Ad ro P w):De w xb ⟨A5 b,A5 sb,A9⟩:=by obtain⟨L,A,FT,d,-⟩:=h;exact d.Ag
def KO.pu(h:KO t H xb sb ab b aA A9 puts Ad ro P w):(∀p∈puts,Bg p)/\puts.length<=t/\Ad<=puts.length/\E3 P t/\AW A9:=by
 obtain⟨L,A,FT,h1,d,h3,h4,z,h6,E⟩:=h;exact⟨d.1.2.2.1,d.1.2.2.2.1,d.1.2.2.2.2,z,E⟩
def KO.fR(h:KO t H xb sb ab b aA A9 puts Ad ro P w)(aB:Bool):KC t H xb b (.pointer (some ⟨sb,0,none⟩)) A9 puts Ad aB P w:=by
 obtain⟨L,A,FT,d,z,h3,h4,O,h6,I⟩:=h;obtain⟨Ft,d1,d2,d3,-⟩:=SF.bW d.Ez;exact⟨Ft,⟨d.Ag,KD.FW _ _,d1,d2,λW=>d.nw (d3 _ W),d.up,λk E=>d.GB k (d3 k E)⟩,z.cX aB,O,I⟩
def KO.dG(h:KO t H xb sb ab b aA A9 puts Ad ro P w):∃lv L,BB w sb 0 (A5 ab) 1000 aA A9 ro lv/\E5 w lv L/\Rel L puts 1000 A9:=by
 obtain⟨L,A,FT,d,h2,z,-⟩:=h;obtain⟨lv,F0,q,-⟩:=d.Ez;exact⟨lv,L,q.Ag,q.Fu,z⟩
def KO.bR(h:KO t H xb sb ab b aA A9 puts Ad ro P w)(k:Nat)(d:k<8)(a c:Int):
 Ah 16 #[A5 sb,A0 k,A0 a,A0 c] w λe w'=>∃x,e=.returned (.tuple #[x,A0 0])/\CX w' x (refQ puts k a c 1000 A9)/\A3 Aa w w':=by
 obtain⟨lv,L,O,E,h3⟩:=h.dG;obtain⟨Y,-,-,-,I⟩:=h.pu;refine(Rk w k a c O E d IL I).mono ?_;rintro e w'⟨x,rfl,z,hc,-⟩;rw[h3.bR (λp W=>(Y p W).2.1) d]at z;exact⟨x,rfl,z,hc⟩
def KO.fL(h:KO t H xb sb ab b aA A9 puts Ad ro P w)(k:Nat)(d:k<8)(a v:Int):
 Ah 13 #[A5 sb,A0 k,A0 a,A0 v] w (Am (.bool (decide (refQ puts k a a 1000 A9=[(a,v)]))) λw'=>A3 Aa w w'):=A18 w _ k a v _ (h.bR k d a a)
def KO.cD(h:KO t H xb sb ab b aA A9 puts Ad ro P w):
 Ah 20 #[A5 sb] w (Am (.agg #[.bool ro,A0 A9]) λw'=>A3 Aa w w'):=by
 obtain⟨lv,L,d,-⟩:=h.dG;exact Wh w d
def KC.B5(h:KC t H xb b sv A9 puts Ad aB P w):Ah 21 #[A5 b] w (Am (A0 P.D.n.B5) λw'=>w=w'):=by
 obtain⟨FT,d,-⟩:=h;exact NB d.Ez
def KO.B5(h:KO t H xb sb ab b aA A9 puts Ad ro P w):Ah 21 #[A5 b] w (Am (A0 P.D.n.B5) λw'=>w=w'):=(h.fR false).B5
def KO.ag{f:Nat}{args:Array Value}{cd:Int}{h:Bool}{L A FT}{E:Nat->List Pt}{A2:Ar}{P2:PD}{q:List Pu}{s2:Nat}{d:Int}(h1:KW w H xb ⟨.pointer (some ⟨b,0,none⟩),.pointer (some ⟨sb,0,none⟩),A9⟩ (KS sb ab b 1000 aA A9 ro L A P) FT)(W:Calls Tryz.prog f args w λe w'=>e=.returned (.int .i64 cd)/\Ap w FT w' (λw' z=>SF w' sb ab b 0 1000 aA d h E A2 P2 z))(Y:Gj t' A2 P2 q s2 (Bv d 1000) h)(h3:Rel E q 1000 d)(h4:∀k,k<8->(E k).length<=t')(h5:E3 P2 t')(h6:1<=aA/\aA<=4611686018427387904)(h7:AW d)(I:d=A9):
 Calls Tryz.prog f args w λe w'=>e=.returned (.int .i64 cd)/\A3 FT w w'/\A3 (Up H) w w'/\KO t' H xb sb ab b aA d q s2 h P2 w':=by
 subst I;refine W.mono ?_;rintro e w'⟨rfl,hI⟩;obtain⟨c1,c2,z,O,-⟩:=h1.cj (KS.FW sb ab b 1000 aA d h E A2 P2) hI;exact⟨rfl,c2,c1,E,A2,z,O,Y,h3,h4,h5,h6,h7⟩
def KO.aw(h:KO t H xb sb ab b aA A9 puts Ad false P w)(hd:P.D.n.AS=false)(I:t+1<=200000)(hL:Lets B w)(W:B<=H)(p:Pu)(O:Bg p):
 Ah 12 #[A5 sb,A0 p.1,A0 p.2.1,A0 p.2.2] w λe w'=>∃cd P2 q,e=.returned (A0 cd)/\A3 (Up H) w w'/\(q=puts++[p]\/(q=puts/\cd≠0))/\
  KO (t+1) H xb sb ab b aA A9 q Ad (decide (cd≠0)) P2 w'/\He P cd P2/\(cd=0->P.D.n.AP+1<=P2.D.n.AP):=by
 obtain⟨L,A,FT,z,h2,h3,h4,h5,h6,h7⟩:=h;have Y:=h2.2 hd;obtain⟨c1,c2,c3⟩:=Y.fe h5 I p O;have d:∀k,k<8->DM (L k):=by obtain⟨lv,F0,q,-⟩:=z.Ez;exact q.Fu.FD
 obtain⟨q,q1,q2,q3,q4⟩:=XK Y I p O h3 d (bo:=(A.aa P p).1) (cd:=(A.aa P p).2.1) (A2:=(A.aa P p).2.2.1) (P2:=(A.aa P p).2.2.2) rfl rfl;refine(KO.ag z (Rn w p z.Ez z.lt Y I O hL (λk E=>AQ W (z.GB k E)) h4 IL h7) q2 q3 (λk E=>q4 k E (h4 k E)) c2 h6 h7 rfl).mono ?_;rintro e w'⟨rfl,-,k1,k2⟩;exact⟨_,_,q,rfl,k1,q1,k2,c1,c3⟩
def MO(f:Nat):Prop:=f=18\/f=19\/f=14
def KO.cu(aD:Fj N)(hN:N<=200000)(f:Nat)(hf:MO f)(h:KO t H xb sb ab b aA A9 puts Ad false P w)(hd:P.D.n.AS=false)(I:t+1<=200000)(aF:t<=N)(hL:Lets B w)(aE:B<=H):
 Ah f #[A5 sb] w λe w'=>∃cd P2,e=.returned (A0 cd)/\A3 (Up H) w w'/\KO (t+1) H xb sb ab b aA A9 puts (if cd=0 then puts.length else Ad) (decide (cd≠0)) P2 w'/\He P cd P2:=by
 obtain⟨L,A,FT,E,h2,h3,h4,h5,h6,h7⟩:=h;have d:=h2.2 hd;have z:∀k,FT k->B<=k:=λk hk=>AQ aE (E.GB k hk);have O:∀k,k<8->(L k).length<=t+1:=λk hk=>My (h4 k hk);have Y:=AQ d.B8 aF;rcases hf with rfl|rfl|rfl
 ·obtain⟨a1,-,a3,a4,a5,-⟩:=d.ae I;obtain⟨c1,c2⟩:=d.fw h5 I;refine(KO.ag E (VI w E.Ez E.lt hL z) (No d a1 a3 a4 a5) h3 O c2 h6 h7 rfl).mono ?_;rintro e w'⟨rfl,-,W,k2⟩;exact⟨_,_,rfl,W,k2,c1⟩
 ·obtain⟨a1,-,a3,a4,a5⟩:=d.aT (Ai:=aA) (Fb _) I;obtain⟨c1,c2⟩:=d.fr (Ai:=aA) (Fb _) h5 I;refine(KO.ag E (Tr aD hN w E.Ez E.lt d I Y h6 hL z) (No d a1 a3 a4 a5) h3 O c2 h6 h7 rfl).mono ?_;rintro e w'⟨rfl,-,W,k2⟩;exact⟨_,_,rfl,W,k2,c1⟩
 ·obtain⟨a1,-,a3,a4,a5⟩:=d.aQ (Ai:=aA) (Fb _) I;obtain⟨c1,c2⟩:=d.eU (Ai:=aA) (Fb _) h5 I;refine(KO.ag E (A1q aD hN w E.Ez E.lt d I Y h6 hL z IL h7) (No d a1 a3 a4 a5) h3 O c2 h6 h7 rfl).mono ?_;rintro e w'⟨rfl,-,W,k2⟩;exact⟨_,_,rfl,W,k2,c1⟩
def KO.bt(h:KO t H xb sb ab b aA A9 puts Ad ro P w):∃Ft,Bh w b P Ft/\(∀k,Ft k->k<w.heap.size)/\(∀k,Ft k->H<=k)/\∀(d:DN) (w':World),d.AB=P.D.n.AB->(0<=d.Bq/\d.Bq<=9223372036854775807)->d.B5=P.D.n.B5->d.fulls=P.D.n.fulls->d.AS=P.D.n.AS->d.AP=P.D.n.AP->
 Eh w Ft w' b {P.D with n:=d} P.F->A3 (Up H) w w'/\KO t H xb sb ab b aA A9 puts Ad ro ⟨{P.D with n:=d},P.F⟩ w':=by
 obtain⟨L,A,FT,I,h2,h3,h4,Y,h6,h7⟩:=h;obtain⟨Ft,d1,d2,d3,d4⟩:=SF.bW I.Ez;refine⟨Ft,d1,d2,λk hk=>I.GB k (d3 k hk),λd w' e1 e2 e3 e4 e5 e6 hA=>?_⟩;obtain⟨hc,z,q1,q2,q3⟩:=hA;obtain⟨E,r1,r2,r3⟩:=d4 Ft z w' ⟨{P.D with n:=d},P.F⟩ hc (λk _ W=>W) q1 q2 q3;obtain⟨c1,c2,O,k1,-⟩:=I.cj (KS.FW sb ab b 1000 aA A9 ro L A ⟨{P.D with n:=d},P.F⟩) ⟨hc.ad λk _ W=>d3 k W,E,r1,r2,r3⟩;exact⟨c1,L,A,O,k1,h2.bt d e1 e2 e3 e4 e5,h3,h4,⟨e1.trans Y.1,by dsimp only;rw[e6];exact Y.2⟩,h6,h7⟩
def IT(n:DN)(c:Int):DN:={n with BT:=if c>0 then wrap64 (n.AP+c) else 0}
def KO.BJ(h:KO t H xb sb ab b aA A9 puts Ad ro P w)(c p:Int)(d:AW p):
 Ah 17 #[A5 b,A0 c,A0 p] w (Am (.tuple #[]) λw'=>A3 (Up H) w w'/\KO t H xb sb ab b aA A9 puts Ad ro ⟨{P.D with n:=Dj P.D.n c p},P.F⟩ w'):=by
 obtain⟨Ft,d1,-,-,d4⟩:=h.bt;refine(OA d1 c p).mono ?_;rintro e w'⟨rfl,z⟩;exact⟨rfl,d4 (Dj P.D.n c p) w' rfl (RE d) rfl rfl rfl rfl z⟩
def EC.aW{w0:World}{FT:Nat->Prop}(h:EC t H xb b sv A9 puts Ad aB P w0 FT)(aD:A3 (λ_=>False) w0 w)(ht:t<=200000)(d:Int)(O:Value)(E:List Int)(aE:AW d)(k1:MP w O E)(k2:∀x∈E,AW x)(k3:∀L n c x,n≠0->O=.slice L n c->L=some x->x.block<H\/w0.heap.size<=x.block):
 Calls Tryz.prog 74 #[.pointer (some ⟨b,0,none⟩),.int .i64 d,O] w λe w'=>e=.returned (.tuple #[])/\A3 FT w w'/\∃P2 z,EC t H xb b sv A9 puts Ad true P2 w' z/\(∀k,z k->FT k\/w.heap.size<=k)/\Still P2/\P2.D.n.AS=false:=by
 obtain⟨h0,h2,h3,h4⟩:=h;have h1:=h0.aJ aD;obtain⟨hp,W,hq,hl,aF⟩:=h2.cx;have I:=hp.CT.B8
 refine(A1e h1.Ez d O E k1 (λL m c x e0 e1 e2 hx=>by
  rcases k3 L m c x e0 e1 e2 with h5|h5
  ·have:=h1.GB _ hx;omega
  ·have:=h0.lt _ hx;omega) (Ws hp ht) aE k2 (λf hf=>⟨(W.ep f hf).1,(W.ep f hf).2,by have:=I f hf;omega⟩)).mono ?_
 rintro e w'⟨rfl,hc,Y,q3,q4,q5⟩;obtain⟨c1,c2⟩:=GM.aW hp W hq hl aF ht d E;obtain⟨-,x1,z,x2,x3⟩:=h1.cj (R':=KD b (P.aW d E)) (KD.FW _ _) ⟨hc,Y,q3,q4,q5⟩;exact⟨rfl,x1,P.aW d E,z,⟨x2,c1,(h3.aW d E).1,h4⟩,x3,(h3.aW d E).2,c2⟩
end
end
section
open Go.RowKit
attribute [local go_sem ↓] Go.wp_at_zero Go.wp_at_succ
section
variable {w:World} {t H xb b B N:Nat} {n:KN} {A9:Int} {P:PD} {Ft:Nat->Prop} {q:List Pu} {puts:List Pu} {Ad:Nat} {aA:Bool} {sv:Value}
def Zh(b3:Fj N)(hN:N<=200000)(w:World)(h:De w xb n)(bV:n.dv=(A5 b))(aJ:n.OW=A9)(hd:Bh w b P Ft)(hp:PB P t)(Y:DI (Cp t) P q Ad (Bv A9 1000))(hr:Reads (Cp t) P q (Bv A9 1000))(hq:∀p∈q,Bg p)(bQ:q.length<=t)(bM:Ad<=q.length)(aI:P.D.n.AS=false)(ht:t+3<=200000)(bN:q.length+2<=N)(hE:Env B w)(hc:AW A9):
 Ah 75 #[A5 xb] w (Am (.tuple #[]) λw'=>A3 Aa w w'):=by
 have c0:=h.c0;rw[bV]at c0;have cA:=A1 (TL hd (hp.dP (by omega)));have H:=A1 h;have aV:=A1 hE
 have bE:Hid (∀(E:World) (I:Nat) (z:Nat->Prop),Bh E I P.b3 z->(∀k,z k->k<E.heap.size)->Env B E->Ah 10 #[A5 I,.agg #[A0 1000,A0 7],A0 A9] E λe w'=>
  ∃ab O,e=.returned (.tuple #[A5 O,A0 0])/\E.heap.size<=O/\Ap E z w' (Live t q.length O ab I 1000 7 A9)):=λE I z g1 g2 g3=>by
  have bZ:PB P.b3 t:=hp.bt _ rfl ⟨by simp[Dj],by simp[Dj]⟩ rfl rfl;refine(RX (t:=t) (puts:=q) (Ad:=Ad) E z g1 g2 bZ ⟨Y.Ds,Y.Aq,Y.Cb,Y.Co⟩ (hr.aI λ_=>rfl) hq bQ bM aI (by omega) g3 IL (by omega) hc).mono ?_;rintro e w'⟨A,ab,O,L,rfl,k1,-,k2,k3,k4,k5⟩;exact⟨ab,O,rfl,k1,k5.b1 λF k6=>⟨false,L,A,_,q,Ad,k6,λ_=>⟨k2,k4,Au _⟩⟩⟩
 have a6:Hid (∀(W:World) (O ab I t' M:Nat) (FT:Nat->Prop) (p:Pu),Bg p->t'+1<=200000->Live t' M O ab I 1000 7 A9 W FT->(∀k,FT k->k<W.heap.size)->Lets B W->(∀k,FT k->B<=k)->
  Ah 12 #[A5 O,A0 p.1,A0 p.2.1,A0 p.2.2] W λe w'=>(∃c,e=.returned (A0 c))/\Ap W FT w' (Live (t'+1) (M+1) O ab I 1000 7 A9)):=λW O ab I t' M FT p g1 g2 g3 g4 g5 g6=>YW W p g3 g4 g2 g1 g5 g6 IL hc
 have b5:Bg ((0:Int),A9,(4626322:Int)):=⟨⟨by simp,by simp⟩,hc,(show AW 4626322 from ⟨by decide,by decide⟩)⟩;have a8:Bg ((1:Int),A9,(4626322:Int)):=⟨⟨by simp,by simp⟩,hc,(show AW 4626322 from ⟨by decide,by decide⟩)⟩;have b6:=A1 b5;have bR:=A1 a8;have bY:=A1 ht;have b7:=A1 bN;have bG:=A1 hN;have HZ:=A1 h.lt
 go_enter func75,ntmps75
 go_wp2_with (first
  | (go_at_call 15;refine cA.m ?_;rintro e w1⟨I,Ft2,rfl,bP,aQ,bJ⟩;have a9:=A1 bP;have aF:=A1 aQ;have aT:=A1 bJ)
  | (go_at_call 45;refine(TF a9.o 0).mono ?_;rintro e w2⟨rfl,aW,bA,aO,aU,aL⟩
     have bF:=A1 aO;have a7:Hid (∀k,bA k->w.heap.size<=k/\k<w2.heap.size):=λk d=>⟨(aL k d).elim (λh=>(aF.o k h).1) (λh=>AQ aT.o.Ak h),aU k d⟩
     have aR:Hid (A3 Aa w w2):=aT.o.bn aW (λx hx=>(aF.o x hx).1)
     clear aW aO aU aL)
  | (go_at_call 17;refine(OA bF.o 0 0).mono ?_;rintro e E⟨rfl,aS,z,a4,a0,aZ⟩
     have bD:Hid (Bh E I P.b3 z):=a4;have aY:Hid (∀k,z k->w.heap.size<=k/\k<E.heap.size):=λk d=>⟨(aZ k d).elim (λh=>(a7.o k h).1) (λh=>AQ aR.o.Ak h),a0 k d⟩
     have aB:Hid (A3 Aa w E):=aR.o.bn aS (λx hx=>(a7.o x hx).1);have d2:=(H.o.aJ aB.o).c2;rw[aJ]at d2
     clear aS a4 a0 aZ)
  | (go_at_call 10;refine(bE.o E I z bD.o (λk d=>(aY.o k d).2) (aV.o.aS aB.o)).mono ?_))
 rintro e W⟨ab,O,rfl,hsb,b0,a1,bH,a3,bI⟩;have aK:B<=w.heap.size:=aV.o.1.1;have a2:Hid (∀k,z k->w.heap.size<=k):=λk d=>(aY.o k d).1
 have aH:Hid (∀k,a1 k->w.heap.size<=k):=λk d=>(bI k d).elim (a2.o k) λh=>AQ aB.o.Ak h
 have aE:Hid (A3 Aa w W):=aB.o.bn b0 a2.o;have e2:=(H.o.aJ aE.o).c2;rw[aJ]at e2;have bS:Hid (Env B W):=aV.o.aS aE.o;have b9:=A1 (a6.o W O ab I t q.length a1 _ b6.o (by have:=bY.o;omega) bH a3 bS.o.1 λk d=>AQ aK (aH.o k d));go_wp2_with (fail);refine b9.m ?_;rintro e w5⟨⟨c1,rfl⟩,bL,a5,b4,aX,bB⟩;have aG:Hid (∀k,a5 k->w.heap.size<=k):=λk d=>(bB k d).elim (aH.o k) λh=>AQ aE.o.Ak h
 have aD:Hid (A3 Aa w w5):=aE.o.bn bL aH.o;have bU:Hid (Env B w5):=aV.o.aS aD.o;have f2:=(H.o.aJ aD.o).c2;rw[aJ]at f2;have P2:=A1 (a6.o w5 O ab I (t+1) (q.length+1) a5 _ bR.o (by have:=bY.o;omega) b4 aX bU.o.1 λk d=>AQ aK (aG.o k d));go_wp2_with (fail);refine P2.m ?_;rintro e w6⟨⟨c2,rfl⟩,bC,bO,b1,aP,bW⟩;have aM:Hid (∀k,bO k->w.heap.size<=k):=λk d=>(bW k d).elim (aG.o k) λh=>AQ aD.o.Ak h
 have aN:Hid (A3 Aa w w6):=aD.o.bn bC aG.o;have bT:Hid (Env B w6):=aV.o.aS aN.o;have b8:=A1 (YX b3 bG.o w6 b1 aP (by have:=bY.o;omega) (by have:=b7.o;omega) (by omega) bT.o.1 λk d=>AQ aK (aM.o k d));go_wp2_with (fail);refine b8.m ?_;rintro e w7⟨⟨c3,rfl⟩,bK,-⟩;have bX:Hid (A3 Aa w w7):=aN.o.bn bK aM.o;go_wp2;go_end0;exact⟨rfl,bX.o⟩
def Pb(t H xb:Nat)(Ai A9:Int)(puts:List Pu)(Ad:Nat)(aA:Bool)(P:PD)(w:World)(FT:Nat->Prop):Prop:=
 ∃h ab d m P2,GZ t H xb h ab d (1+DB Ai 300) A9 (puts.take m) Ad false P2 w FT/\Ad<=m/\m<=puts.length/\P2.D.n.AS=false/\(P.D.n.AS=false->P2=P/\(aA=false->m=puts.length))/\(P.D.n.AS=true->Still P2)
def EC.fq{FT:Nat->Prop}(h:EC t H xb b sv A9 puts Ad aA P w FT)(I:P.D.n.AS=false):∃m,PB P t/\DI (Cp t) P (puts.take m) Ad (Bv A9 1000)/\Reads (Cp t) P (puts.take m) (Bv A9 1000)/\(∀p∈puts.take m,Bg p)/\(puts.take m).length<=t/\Ad<=(puts.take m).length/\
 Ad<=m/\m<=puts.length/\(aA=false->m=puts.length)/\E3 P t/\AW A9:=by
 obtain⟨h1,⟨O,h3,W,h5,h6,d⟩,h8,h9⟩:=h;rcases d with d|⟨z,g1,E,g3,g4⟩
 ·rw[I]at d;cases d
 ·obtain⟨g5,L⟩:=g4 _ z (Hp _) (Au _) E (C8.I _ _);have hlen:(puts.take z).length=z:=by rw[BU];omega
  exact⟨z,O,g5,L,λp Y=>W p (Ik Y),by omega,by omega,g1,E,g3,h8,h9⟩
end
end
def Fe(room:Int):PD:=⟨⟨[],[],[],JG room⟩,λ_=>([],0)⟩
section
variable {room:Int} {o:Int}
def Tk:CU (Cp 0) (vw (Fe room).F []) ⟨1,[]⟩ [] [] none:=by
 have d:∀nm,vw (Fe room).F [] nm=none:=λnm=>rfl;refine⟨⟨⟨by decide,by simp,by decide⟩,by simp[Cp],by simp⟩,.inl ⟨rfl,rfl⟩,rfl,by simp,by simp,trivial,?_,by simp,?_,?_,?_⟩
 ·intro n l h;cases h
 ·intro n _ _ h;exact absurd (d _) h
 ·intro nm h;exact absurd (d nm) h
 ·intro nm c h;rw[d]at h;cases h
def Tl(f:Nat):¬(Fe room).D.Aq f:=λh=>by
 simp[DS.Aq,Fe,Dc]at h
def A0e(hr : -4611686018427387904<=room/\room<=9223372036854775807):PB (Fe room) 0:=by
 refine⟨⟨Cz _,Cz _,?_,Cz _,λf d=>absurd d (Tl f),hr,⟨Hp _,by simp[Fe,JG]⟩⟩,λf d=>absurd d (Tl f),⟨Hp _,Hp _⟩,⟨Hp _,Hp _⟩⟩;intro l h;cases h
def Tm:DI (Cp 0) (Fe room) [] 0 o:=by
 have d:∀s∈Bp (Fe room),s=[]:=λs d=>by simpa[Bp,Fe] using d
 refine⟨λs h=>?_,λs h=>?_,λs h=>?_,by simp[Bp,Fe]⟩
 ·rw[d s h];refine⟨⟨1,[]⟩,[],[],none,0,Tk,Au _,C8.I _ _,?_,λ_=>Au _⟩;intro n l e;cases e
 ·rw[d s h];exact List.Pairwise.nil
 ·rw[d s h];exact List.Pairwise.nil
def A0d:Reads (Cp 0) (Fe room) [] o:=Whole.bu (P:=Fe room) ⟨⟨1,[]⟩,[],[],none,Tk,Cz _,C8.I _ _⟩
def A0f(hr : -4611686018427387904<=room/\room<=9223372036854775807):GM 0 (Fe room) [] 0 o false:=by
 refine⟨A0e hr,Tm,?_,Au _,Au _,.inr ⟨0,Au _,Au _,λ_=>rfl,?_⟩⟩
 ·intro p d;cases d
 ·intro o' n _ _ h _;obtain rfl:n=0:=by simpa using h
  exact⟨Tm,A0d⟩
end
section
open Go.RowKit
attribute [local go_sem ↓] Go.wp_at_zero Go.wp_at_succ
section
variable {w:World} {t H xb b B N:Nat} {A9:Int} {P:PD} {puts:List Pu} {Ad:Nat} {aA:Bool} {sv:Value}
def Uy(t H xb b B:Nat)(h A9:Int)(puts:List Pu)(Ad:Nat)(P:PD)(m:Nat)(w:World):Prop:=
 (∃sv,De w xb ⟨.pointer (some ⟨b,0,none⟩),sv,A9⟩)/\H<=xb/\Env B w/\(Calls Tryz.prog 75 #[.pointer (some ⟨xb,0,none⟩)] w λe w'=>e=.returned (.tuple #[])/\A3 (λ_=>False) w w')/\
 (∀O,A3 (λ_=>False) w O->Calls Tryz.prog 15 #[.pointer (some ⟨b,0,none⟩)] O λe w'=>∃z d,e=.returned (.pointer (some ⟨z,0,none⟩))/\Bh w' z P d/\(∀k,d k->O.heap.size<=k/\k<w'.heap.size)/\A3 (λ_=>False) O w')/\
 (∀E z d,Bh E z P d->(∀k,d k->k<E.heap.size)->Env B E->Calls Tryz.prog 10 #[.pointer (some ⟨z,0,none⟩),.agg #[.int .i64 1000,.int .i64 h],.int .i64 A9] E λe w'=>
  ∃ab I,e=.returned (.tuple #[.pointer (some ⟨I,0,none⟩),.int .i64 0])/\∃L A,Ap E d w' (KS I ab z 1000 h A9 false L A P)/\
   ∀W FT,KW W H xb ⟨.pointer (some ⟨z,0,none⟩),.pointer (some ⟨I,0,none⟩),A9⟩ (KS I ab z 1000 h A9 false L A P) FT->GZ t H xb I ab z h A9 (puts.take m) Ad false P W FT)
def EC.e0{FT:Nat->Prop}(W:Fj N)(hN:N<=200000)(h:EC t H xb b sv A9 puts Ad aA P w FT)(E:P.D.n.AS=false)(Ai:Int)(ht:t+3<=200000)(htN:t+2<=N)(hE:Env B w):
 ∃m,Uy t H xb b B (1+DB Ai 300) A9 puts Ad P m w/\Ad<=m/\m<=puts.length/\(aA=false->m=puts.length):=by
 obtain⟨m,I,h3,h4,h5,h6,h7,h8,h9,O,Y,d⟩:=h.fq E;have z:=h.1;have hpk:=LO Ai 300 (by decide);refine⟨m,⟨⟨sv,z.Ag⟩,z.up,hE,?_,λw2 hc=>?_,λw3 b2 aB g1 g2 g3=>?_⟩,h8,h9,O⟩
 ·exact Zh W hN w z.Ag rfl rfl z.Ez I h3 h4 h5 h6 h7 E ht (by omega) hE d
 ·exact TL (B3.aI z.Ez z.lt hc) (I.dP (by omega))
 ·refine(RX (t:=t) w3 aB g1 g2 I h3 h4 h5 h6 h7 E (by omega) g3 IL (by omega) d).mono ?_;rintro e w'⟨A,ab,sb,L,rfl,-,-,k2,k3,k4,k5⟩;exact⟨ab,sb,rfl,L,A,k5,λw4 FT' hk=>⟨L,A,hk,k2.dR,k3,k4,Y,by omega,d⟩⟩
def Zg{w':World}{E:KN}{R':Kind}{d:Nat->Prop}(W:De w' xb E)(h:H<=xb)(Y:KY R')(L:R' w' d)(z:∀k,d k->k<w'.heap.size)(I:∀k,d k->xb<k):KW w' H xb E R' d:=
 ⟨W,Y,L,z,λhx=>by have:=I xb hx;omega,h,λk O=>by have:=I k O;omega⟩
def Zj{FT:Nat->Prop}(bV:Fj N)(hN:N<=200000)(w:World)(Ai:Int)(aE:AW Ai)(h:EC t H xb b sv A9 puts Ad aA P w FT)(ht:t+3<=200000)(a1:t+2<=N)(hE:Env B w)(a0:B<=H):
 Ah 46 #[A5 xb,A0 Ai] w (Am (.bool true) λw'=>A3 (F5 xb FT) w w'/\∃I,Pb t H xb Ai A9 puts Ad aA P w' I/\∀k,I k->w.heap.size<=k):=by
 have bF:Hid (Ah 73 #[A5 b] w (Am (.bool P.D.n.AS) λw'=>w=w')):=A0X h.1.Ez;have bR:Hid (∀k,F5 xb FT k->H<=k):=λk z=>z.elim (λe=>by rw[e];exact h.1.up) (h.1.GB k);have XLT:=A1 h.1.Ag.lt;have b9:=A1 (λw'=>SU w' Ai 300 aE (by decide));have hpk:=LO Ai 300 (by decide);have ew:IntKind.i64.wrap (1+DB Ai 300)=1+DB Ai 300:=by simp[IntKind.wrap,IntKind.bits,IntKind.signed];omega
 have c0:=h.1.Ag.c0;have aT:=A1 aE;have hA:A3 Aa w (w.aC #[A0 Ai,A0 Ai,A0 Ai] 3):=(A3.I _ w).aj _;have hI:MP (w.aC #[A0 Ai,A0 Ai,A0 Ai] 3) (AJ w.heap.size 3 3) [Ai,Ai,Ai]:=by
  have bK:=BK w (.cells #[A0 Ai,A0 Ai,A0 Ai] 3);refine⟨_,_,rfl,by simp,λj hj=>⟨w.heap.size,0,rfl,by simp,?_⟩⟩;simp only[World.cell?,bK]
  match j,hj with
  | 0,_=>rfl
  | 1,_=>rfl
  | 2,_=>rfl
 have CR:=A1 (h.aW hA (by omega) Ai _ _ aE hI (by simp;exact aE) (λad n c x _ e1 e2=>by cases e1;cases e2;exact .inr (Au _)));have aH:Hid (∀w1 P2 Y aK,EC t H xb b sv A9 puts Ad Y P2 w1 aK->P2.D.n.AS=false->Env B w1->∃m,Uy t H xb b B (1+DB Ai 300) A9 puts Ad P2 m w1/\Ad<=m/\m<=puts.length/\(Y=false->m=puts.length)):=λw1 P2 Y aK z hd bJ=>z.e0 bV hN hd Ai ht a1 bJ;have b3:=A1 hE;have bX:=A1 h;have a2:=A1 a0;clear h hE aE ht a1 a0 hA hI;generalize aG:DB Ai 300=pk at *;rcases Bool.eq_false_or_eq_true P.D.n.AS with O|O;rotate_left
 focus
  obtain⟨m,hr,m1,m2,m3⟩:=aH.o w P aA FT bX.o O b3.o;have a9:=A1 hr;have a3:Hid (∀w' I,(∃W ab d,GZ t H xb W ab d (1+pk) A9 (puts.take m) Ad false P w' I)->Pb t H xb Ai A9 puts Ad aA P w' I):=λw' I ⟨W,ab,d,z⟩=>⟨W,ab,d,m,P,by rw[aG];exact z,m1,m2,O,λ_=>⟨rfl,m3⟩,λe=>by rw[O]at e;cases e⟩
  rw[O]at bF;have bS:Hid (∀w' d E,Bh w' d P E->Ah 21 #[A5 d] w' λe aO=>e=.returned (A0 P.D.n.B5)/\w'=aO):=λw' d E hd=>NB hd;have bD:Hid (A3 (F5 xb FT) w w):=A3.I _ _;have b6:=A1 a9.o.2.2.1;clear hr m1 m2 m3 aH CR aG bX aT
  go_enter func46,ntmps46
  go_wp2_with (go_at_call 73;refine bF.m ?_;rintro e w'⟨rfl,rfl⟩)
 rotate_left
 focus
  rw[O]at bF
  go_enter func46,ntmps46
  go_wp2_with (go_at_call 73;refine bF.m ?_;rintro e w'⟨rfl,rfl⟩);refine CR.m ?_;rintro e w1⟨rfl,k1,P2,aK,aY,-,aU,aN⟩;have bD:Hid (A3 (F5 xb FT) w w1):=((A3.I (F5 xb FT) w).aj _).Av k1 λ_ h _=>.inr h;obtain⟨m,hr,m1,m2,m3⟩:=aH.o w1 P2 true aK aY aN (b3.o.ak bD.o λk z=>AQ a2.o (bR.o k z));have a9:=A1 hr;have a3:Hid (∀w' I,(∃W ab d,GZ t H xb W ab d (1+pk) A9 (puts.take m) Ad false P2 w' I)->Pb t H xb Ai A9 puts Ad aA P w' I):=λw' I ⟨W,ab,d,z⟩=>⟨W,ab,d,m,P2,by rw[aG];exact z,m1,m2,aN,λe=>(by rw[O]at e;cases e),λ_=>aU⟩
  have bS:Hid (∀w' d E,Bh w' d P2 E->Ah 21 #[A5 d] w' λe aO=>e=.returned (A0 P2.D.n.B5)/\w'=aO):=λw' d E hd=>NB hd;have b6:=A1 a9.o.2.2.1;clear hr m1 m2 m3 aH CR aG bX aT k1 aY aU aN;go_wp2_with (fail)
 all_goals
  obtain⟨⟨sv1,bB⟩,a8,-,a7,aR,aS⟩:=a9.o;have a6:=A1 bB;have aW:=A1 a8;have b4:=A1 aR;have aV:=A1 aS;clear a9 bB a8 aR aS;refine a7.mono ?_;rintro e w2⟨rfl,k2⟩;have bQ:=A1 (a6.o.aJ k2);have a4:=A1 (b4.o w2 k2);have b7:Hid (Env B w2):=b6.o.aS k2;have bO:Hid (A3 (F5 xb FT) w w2):=bD.o.Av k2 λ_ h _=>h.elim;have z0:=bQ.o.c0;clear a7 k2 b4 bD a6;go_wp2_with (fail);refine a4.m ?_;rintro e w3⟨d,E,rfl,aQ,aD,k3⟩;have bE:=bQ.o.aJ k3;have f3:=bE.fz 0;have y0:=bE.c0;have aB:A3 (One xb) w3 (w3.setCell (Ab xb 0) (A5 d)):=(A3.I (One xb) w3).aq (b:=xb) rfl 0 _;have bC:=A1 (bE.s0 (A5 d));have aX:=bQ.o.lt;have bH:Hid (Bh (w3.setCell (Ab xb 0) (A5 d)) d _ E):=B3.aP aQ λk z=>aB.Al k (aD k z).2 (λe=>by cases e;have:=(aD _ z).1;omega);have aP:Hid (∀k,E k->w2.heap.size<=k/\k<(w3.setCell (Ab xb 0) (A5 d)).heap.size):=λk z=>⟨(aD k z).1,Bm (aD k z).2 aB.Ak⟩
  have bZ:Hid (A3 (F5 xb FT) w (w3.setCell (Ab xb 0) (A5 d))):=(bO.o.Av k3 λ_ h _=>h.elim).Av aB λ_ e _=>.inl e;have bY:Hid (Env B (w3.setCell (Ab xb 0) (A5 d))):=(b7.o.aS k3).ak aB λk e=>by cases e;exact AQ a2.o aW.o
  have bI:=A1 aX;have bT:Hid (w2.heap.size<=(w3.setCell (Ab xb 0) (A5 d)).heap.size):=AQ k3.Ak aB.Ak;clear aQ aD k3 bE aB aX;go_wp2_with (fail);generalize w3.setCell (Ab xb 0) (A5 d)=w4 at bC bH aP bZ bY bT ⊢;have bL:=A1 (bS.o w4 d E bH.o);refine bL.m ?_;rintro e w'⟨rfl,rfl⟩;have q0:=bC.o.c0;have q2:=bC.o.c2;have a5:=A1 (aV.o w4.drew d E (B3.af bH.o) (λk z=>(aP.o k z).2) (bY.o.aS (A3.I Aa w4).af));clear aV a4;go_wp2;refine C3 (λw'=>A6 w' xb 0 (A5 d)/\A6 w' xb 2 (A0 A9)) 17
   (Bz [0,1,2,3,4,8,9,10,11,5,6,7,12,13,14,15,16] [5,12]) ⟨q0,q2⟩ ?_
  iterate 9 (refine Bj ?_;(try simp only[Ao]))
  refine Bt λK hK=>?_;go_simp;refine(b9.o _).mono ?_;rintro e w'⟨rfl,rfl⟩;refine hK _ _ ⟨q0,q2⟩ (λhS=>?_)
  (try simp only[Ao])
  iterate 2 (refine Bj ?_;(try simp only[Ao]))
  refine Bt λK hK=>?_;go_simp;refine a5.m ?_;rintro e w5⟨ab,W,rfl,L,A,hI,bA⟩;obtain⟨aF,aJ,aZ,aL,aM⟩:=hI;have nx:¬E xb:=λhx=>by have:=(aP.o _ hx).1;have:=bI.o;omega
  refine hK _ _ ⟨U3 aF q0 nx,U3 aF q2 nx⟩ (λhS=>?_);have bW:=A1 ((bC.o.aJ (A3.I Aa w4).af).An aF nx);have b8:Hid (∀k,aJ k->w.heap.size<=k):=λk z=>AQ bO.o.Ak ((aM k z).elim (λh=>(aP.o k h).1) λh=>AQ bT.o h);have b1:Hid (∀k,aJ k->xb<k):=λk z=>(aM k z).elim (λh=>Bm bI.o (aP.o k h).1) λh=>Bm bI.o (AQ bT.o h)
  have cA:Hid (A3 (F5 xb FT) w w5):=(bZ.o.af).Av aF λx hx hlt=>by have h1:=(aP.o x hx).1;have h2:=bO.o.Ak;omega
  have b0:=A1 aZ;have bN:=A1 aL;have bM:=A1 bA;clear bA aF aZ aL aM nx a5
  (try simp only[Ao])
  iterate 4 (refine Bj ?_;(try simp only[Ao]))
  refine Bo ?_;simp only[BO,BN];have y1:=bW.o.c1;have f1:=bW.o.fz 1;have aI:A3 (One xb) w5 (w5.setCell (Ab xb 1) (A5 W)):=(A3.I (One xb) w5).aq (b:=xb) rfl 1 _;have bP:Hid (KW (w5.setCell (Ab xb 1) (A5 W)) H xb ⟨A5 d,A5 W,A9⟩ (KS W ab d 1000 (1+pk) A9 false L A _) aJ):=
   Zg (bW.o.s1 _) aW.o (KS.FW _ _ _ _ _ _ _ _ _ _) (KS.FW _ _ _ _ _ _ _ _ _ _ _ _ _ _ b0.o bN.o aI λk z e=>by cases e;have:=b1.o _ z;omega) (λk z=>Bm (bN.o k z) aI.Ak) b1.o
  have b5:Hid (A3 (F5 xb FT) w (w5.setCell (Ab xb 1) (A5 W))):=cA.o.Av aI λ_ e _=>.inl e;clear aI b0 bN;go_wp2_with (fail);generalize w5.setCell (Ab xb 1) (A5 W)=w6 at bP b5 ⊢;obtain⟨bU,bG,-⟩:=SF.dk bP.o.Ez;refine(bS.o w6 d bU bG).mono ?_;rintro e w'⟨rfl,rfl⟩;go_wp2;go_ret;exact⟨rfl,b5.o,aJ,a3.o _ _ ⟨W,ab,d,bM.o _ _ bP.o⟩,b8.o⟩
def GZ.ko{E ab:Nat}{d:Int}{z:Bool}{FT:Nat->Prop}(h:GZ t H xb E ab b d A9 puts Ad z P w FT):KO t H xb E ab b d A9 puts Ad z P w:=by
 obtain⟨L,A,I⟩:=h;exact⟨L,A,FT,I⟩
def SX{FT:Nat->Prop}{w':World}(h:EC t H xb b sv A9 puts Ad aA P w FT)(z:A3 (F5 xb FT) w w'):A3 (Up H) w w':=z.ad λk _ d=>d.elim (λe=>by rw[e];exact h.1.up) (h.1.GB k)
end
section
variable {w:World} {t H xb b B N:Nat} {A9:Int} {P:PD} {puts:List Pu} {Ad:Nat} {aA:Bool} {sv:Value}
def Uv(t H xb:Nat)(Ai A9:Int)(puts:List Pu)(Ad:Nat)(aA:Bool)(P:PD)(w:World)(FT:Nat->Prop):Prop:=
 ∃h ab d m P2,GZ t H xb h ab d (1+DB Ai 300) A9 (puts.take m) Ad false P2 w FT/\Ad<=m/\m<=puts.length/\P2.D.n.AS=false/\Still P2/\(P.D.n.AS=false->P2.D.n.B5=P.D.n.B5/\(aA=false->m=puts.length))
def Std(t H xb:Nat)(Ai A9:Int)(puts:List Pu)(Ad:Nat)(aA:Bool)(P:PD)(w:World):Prop:=
 ∃h ab d m P2,KO t H xb h ab d (1+DB Ai 300) A9 (puts.take m) Ad false P2 w/\Ad<=m/\m<=puts.length/\P2.D.n.AS=false/\Still P2/\(P.D.n.AS=false->P2.D.n.B5=P.D.n.B5/\(aA=false->m=puts.length))
def EC.bt{FT:Nat->Prop}(h:EC t H xb b sv A9 puts Ad aA P w FT)(d:DN)(w':World)(O:d.AB=P.D.n.AB)(e2:0<=d.Bq/\d.Bq<=9223372036854775807)(e3:d.B5=P.D.n.B5)(e4:d.fulls=P.D.n.fulls)(Y:d.AS=P.D.n.AS)(e6:d.AP=P.D.n.AP)(hA:Eh w FT w' b {P.D with n:=d} P.F):A3 FT w w'/\∃z,EC t H xb b sv A9 puts Ad aA ⟨{P.D with n:=d},P.F⟩ w' z/\∀k,z k->FT k\/w.heap.size<=k:=by
 obtain⟨h1,h2,L,h4⟩:=h;obtain⟨hc,E,q1,q2,q3⟩:=hA;obtain⟨-,c2,I,W,k2⟩:=h1.cj (R':=KD b ⟨{P.D with n:=d},P.F⟩) (KD.FW _ _) ⟨hc,E,q1,q2,q3⟩;exact⟨c2,I,⟨W,h2.bt d O e2 e3 e4 Y,⟨O.trans L.1,by dsimp only;rw[e6];exact L.2⟩,h4⟩,k2⟩
def SR{FT:Nat->Prop}(aJ:Fj N)(hN:N<=200000)(w:World)(Ai:Int)(O:AW Ai)(h:EC t H xb b sv A9 puts Ad aA P w FT)(ht:t+3<=200000)(aE:t+2<=N)(hE:Env B w)(aD:B<=H):
 Ah 23 #[A5 xb,A0 Ai] w (Am (.bool true) λw'=>A3 (F5 xb FT) w w'/\∃d,Uv t H xb Ai A9 puts Ad aA P w' d/\∀k,d k->w.heap.size<=k):=by
 have aO:Hid (Ah 45 #[A5 b,A0 0] w (Am (.tuple #[]) λw'=>A3 FT w w'/\∃d,EC t H xb b sv A9 puts Ad aA ⟨{P.D with n:=IT P.D.n 0},P.F⟩ w' d/\∀k,d k->FT k\/w.heap.size<=k)):=by
  refine(TF h.1.Ez 0).mono ?_;rintro e w'⟨rfl,hA⟩;exact⟨rfl,h.bt (IT P.D.n 0) w' rfl h.2.1.1.CT.Bq rfl rfl rfl rfl hA⟩
 have c0:=h.1.Ag.c0;have aN:Hid (∀E z,EC t H xb b sv A9 puts Ad aA ⟨{P.D with n:=IT P.D.n 0},P.F⟩ E z->Ah 17 #[A5 b,A0 0,A0 0] E (Am (.tuple #[]) λw'=>A3 z E w'/\∃d,EC t H xb b sv A9 puts Ad aA ⟨{P.D with n:=Dj (IT P.D.n 0) 0 0},P.F⟩ w' d/\∀k,d k->z k\/E.heap.size<=k)):=λE z I=>by
  refine(OA I.1.Ez 0 0).mono ?_;rintro e w'⟨rfl,hA⟩;exact⟨rfl,I.bt (Dj (IT P.D.n 0) 0 0) w' rfl (RE ⟨by decide,by decide⟩) rfl rfl rfl rfl hA⟩
 have aH:Hid (∀k,F5 xb FT k->H<=k):=λk L=>L.elim (λe=>by rw[e];exact h.1.up) (h.1.GB k);have aF:Hid (∀E z,EC t H xb b sv A9 puts Ad aA ⟨{P.D with n:=Dj (IT P.D.n 0) 0 0},P.F⟩ E z->A3 (F5 xb FT) w E->Ah 46 #[A5 xb,A0 Ai] E (Am (.bool true) λw'=>A3 (F5 xb z) E w'/\(∃sb Y,De w' xb ⟨A5 Y,A5 sb,A9⟩)/\∃d,Uv t H xb Ai A9 puts Ad aA P w' d/\∀k,d k->E.heap.size<=k)):=λE z I hc=>by
  refine(Zj aJ hN E Ai O I ht aE (hE.ak hc λk L=>AQ aD (aH.o k L)) aD).mono ?_;rintro e w'⟨rfl,k1,d,⟨sb,ab,Y,m,P2,k2,k3,k4,k5,k6,k7⟩,k8⟩;refine⟨rfl,k1,⟨sb,Y,k2.ko.Ag⟩,d,⟨sb,ab,Y,m,P2,k2,k3,k4,k5,?_,λhd=>?_⟩,k8⟩
  ·cases hd:P.D.n.AS with
   | false=>rw[(k6 hd).1];exact⟨by simp[Dj,IT],by simp[Dj]⟩
   | true=>exact k7 hd
  ·obtain⟨e1,e2⟩:=k6 hd;exact⟨by rw[e1];rfl,e2⟩
 clear hE O ht aE h
 go_enter func23,ntmps23
 go_wp2_with (fail);refine aO.m ?_;rintro e E⟨rfl,k1,z,I,s1⟩;have z0:=I.1.Ag.c0;have aL:=A1 k1;have aP:=A1 s1;have aK:=A1 (aN.o E z I);clear aO aN I k1 s1;go_wp2_with (fail);refine aK.m ?_;rintro e w2⟨rfl,k2,aB,h2,s2⟩;have aS:Hid (∀k,aB k->FT k\/w.heap.size<=k):=λk L=>(s2 k L).elim (λh=>aP.o k h) λh=>.inr (AQ aL.o.Ak h)
 have aI:Hid (A3 (F5 xb FT) w w2):=(aL.o.ad (S':=F5 xb FT) λ_ _ h=>.inr h).Av k2 λx hx aG=>.inr ((aP.o x hx).elim id λh=>by omega);have aM:=A1 (aF.o w2 aB h2 aI.o);clear aF h2 k2 s2;go_wp2_with (fail);refine aM.m ?_;rintro e w3⟨rfl,k3,⟨sb,Y,hb⟩,W,h3,s3⟩;have y1:=hb.c1;have aQ:=A1 h3;have aT:Hid (∀k,W k->w.heap.size<=k):=λk L=>AQ aI.o.Ak (s3 k L);have aR:Hid (A3 (F5 xb FT) w w3):=aI.o.Av k3 λx hx aG=>hx.elim .inl λh=>(aS.o x h).elim .inr λh=>by omega
 clear hb h3 k3 aM s3;go_wp2;go_ret;exact⟨rfl,aR.o,W,aQ.o,aT.o⟩
def Zi(z:Fj N)(hN:N<=200000)(w:World)(Ai:Int)(d:AW Ai)(h:KC t H xb b sv A9 puts Ad aA P w)(O:t+3<=200000)(I:t+2<=N)(Y:Env B w)(E:B<=H):
 Ah 23 #[A5 xb,A0 Ai] w (Am (.bool true) λw'=>A3 (Up H) w w'/\Std t H xb Ai A9 puts Ad aA P w'):=by
 obtain⟨FT,h⟩:=h;refine(SR z hN w Ai d h O I Y E).mono ?_;rintro e w'⟨rfl,L,FT',⟨sb,ab,b2,m,P2,k2,W⟩,-⟩;exact⟨rfl,SX h L,sb,ab,b2,m,P2,k2.ko,W⟩
def RB(a n:Int)(E:AW a)(h:0<n/\n<=9223372036854775806):(∀w',Ah 11 #[A0 a,A0 n] w' λe d=>e=.returned (A0 (DB a n))/\w'=d)/\(0<=DB a n/\DB a n<n)/\IntKind.i64.wrap (1+DB a n)=1+DB a n:=by
 have z:=LO a n h.1;exact⟨λw'=>SU w' a n E ⟨h.1,by omega⟩,z,by simp[IntKind.wrap,IntKind.bits,IntKind.signed];omega⟩
def Mde(A9:Int)(w:World)(xb:Nat)(w':World):Prop:=A3 (λ_=>False) w w'/\∃d ab b P,KO 0 w.heap.size xb d ab b (1+DB 9 300) A9 [] 0 false P w'/\P.D.n.AS=false/\Still P/\P.D.n.B5=0
def Zk(aE:Fj N)(hN:10<=N/\N<=200000)(w:World)(A9:Int)(hc:AW A9)(hE:Env B w):
 Ah 5 #[A0 A9] w λe w'=>∃xb,e=.returned (A5 xb)/\Mde A9 w xb w':=by
 have aO:=A1 (Yy (F:=λ_=>([],0)) 1152921504606846976 w);have aP:=A1 hc;have HE:=A1 hE
 have ST:Hid (∀d xb b,KC 0 w.heap.size xb b (.pointer none) A9 [] 0 false (Fe 1152921504606846976) d->A3 Aa w d->Ah 23 #[A5 xb,A0 9] d (Am (.bool true) λw'=>A3 Aa w w'/\
  ∃L ab b2 P,KO 0 w.heap.size xb L ab b2 (1+DB 9 300) A9 [] 0 false P w'/\P.D.n.AS=false/\Still P/\P.D.n.B5=0)):=λd xb b h1 O=>by
  refine(Zi (B:=B) aE hN.2 d 9 ⟨by decide,by decide⟩ h1 (by omega) (by omega) (hE.aS O) hE.1.1).mono ?_;rintro e w'⟨rfl,k2,L,ab,b2,m,P2,q1,-,-,q4,q5,q6⟩;rw[List.take_nil]at q1;exact⟨rfl,O.bn k2 λ_ h=>h,L,ab,b2,P2,q1,q4,q5,(q6 rfl).1⟩
 clear hE
 go_enter func5,ntmps5
 go_wp2_with (fail);refine aO.m ?_;rintro e d⟨rfl,W,O,hz⟩;have hA:=(A3.I Aa d).aj (.cells #[A5 w.heap.size,.pointer none,A0 A9] 48);have hK:Hid (KC 0 w.heap.size d.heap.size w.heap.size (.pointer none) A9 [] 0 false (Fe 1152921504606846976) (d.alloc (.cells #[A5 w.heap.size,.pointer none,A0 A9] 48))):=
  ⟨One w.heap.size,⟨BK d _,KD.FW _ _,W.aI (λk Y=>by cases Y;omega) hA,λk Y=>by cases Y;have:=hA.Ak;omega,λe=>by unfold One at e;omega,by omega,λk Y=>by cases Y;exact Au _⟩,A0f (by omega),⟨rfl,by simp[Fe,JG],by simp[Fe,JG]⟩,aP.o⟩
 have aF:Hid (A3 Aa w (d.alloc (.cells #[A5 w.heap.size,.pointer none,A0 A9] 48))):=O.tr hA;have aK:=A1 (ST.o _ _ _ hK.o aF.o);clear ST W O hA hz;go_wp2_with (fail);refine aK.m ?_;rintro e w2⟨rfl,k2,L,ab,b2,P,h2,W,hs,hr⟩;have y1:=h2.Ag.c1;have aJ:=A1 h2;have aR:=A1 (And.intro W (And.intro hs hr));have aI:=A1 h2.cD;have aG:=A1 k2;clear h2 W hs hr k2 aK hK aF;go_wp2_with (fail);refine aI.m ?_;rintro e z⟨rfl,k3⟩;have aQ:Hid (A3 Aa w z):=aG.o.tr k3;have aL:=A1 (aJ.o.aJ k3);have E:=(A3.I Aa z).aj (.cells #[.bool false,A0 A9] 51);have I:=BK z (.cells #[.bool false,A0 A9] 51);have aB:=A1 (aL.o.aJ E);have aH:Hid (A3 Aa w (z.alloc (.cells #[.bool false,A0 A9] 51))):=aQ.o.tr E;have z1:=aB.o.Ag.c1;have x0:A6 (z.alloc (.cells #[.bool false,A0 A9] 51)) z.heap.size 0 (.bool false):=FN I;have x1:A6 (z.alloc (.cells #[.bool false,A0 A9] 51)) z.heap.size 1 (A0 A9):=FN I;have aD:Hid (Ah 16 #[A5 L,A0 0,A0 (-9223372036854775808),A0 9223372036854775807] (z.alloc (.cells #[.bool false,A0 A9] 51)) λe w'=>∃x,e=.returned (.tuple #[x,A0 0])/\CX w' x []/\A3 Aa (z.alloc (.cells #[.bool false,A0 A9] 51)) w'):=aB.o.bR 0 (by decide) _ _;clear E I k3 aI aJ aG;go_wp2_with (fail);generalize z.alloc (.cells #[.bool false,A0 A9] 51)=w4 at aB aH x0 x1 aD ⊢;refine aD.m ?_;rintro e w5⟨x,rfl,hx,k6⟩;have x0':=k6.ao x0;have x1':=k6.ao x1;obtain⟨ad,cap,rfl,-⟩:=B9 hx;have aM:=A1 (aB.o.aJ k6);have aN:Hid (A3 Aa w w5):=aH.o.tr k6;clear hx k6 aD;go_wp2;go_ret;exact⟨d.heap.size,rfl,aN.o,L,ab,b2,P,aM.o,aR.o⟩
end
end
section
open Go.RowKit
def R8(l:List Pu)(p:Pu)(k a b d A9:Int):refQ (l++[p]) k a b d A9=Ea k a b d A9 (refQ l k a b d A9) p:=by unfold refQ;rw[Lf];rfl
def Rm{k a b d A9:Int}{p:Pu}:G0 k a b d A9 p=true↔((p.1=k/\a<=p.2.1)/\p.2.1<=b)/\Gv p.2.1 d A9=true:=by
 unfold G0;simp only[FV,DG]
def Rl{k a b d A9:Int}{l:List Pt}{p:Pu}(h:p.1=k)(E:a<=p.2.1)(z:p.2.1<=b)(H:Gv p.2.1 d A9=true):Ea k a b d A9 l p=Cs l p.2.1 p.2.2:=by
 unfold Ea;rw[Af (Rm.2 ⟨⟨⟨h,E⟩,z⟩,H⟩)]
def Tg(t v:Int):∀l:List Pt,(∀x∈l,x.1<t)->Cs l t v=l++[(t,v)]
 | [],_=>rfl
 | (a,b):: r,h=>by
  have d:=h (a,b) (BD ..);unfold Cs;rw[Af d,Tg t v r λx z=>h x (Br _ z)];rfl
def Xu(l:List Pu)(k t d A9:Int):refQ l k t t d A9=[]\/∃v,refQ l k t t d A9=[(t,v)]:=by
 unfold refQ;have key:∀(l:List Pu) (z:List Pt),(z=[]\/∃v,z=[(t,v)])->(l.foldl (Ea k t t d A9) z=[]\/∃v,l.foldl (Ea k t t d A9) z=[(t,v)]):=by
  intro l
  induction l with
  | nil=>intro z h;exact h
  | cons p r ih=>
   intro z h;simp only[MG];refine ih _ ?_;unfold Ea;split
   ·rename_i E;obtain⟨⟨⟨-,h1⟩,h2⟩,-⟩:=Rm.1 E;(obtain rfl:p.2.1=t:=by omega);right;rcases h with rfl|⟨v,rfl⟩
    ·exact⟨p.2.2,rfl⟩
    ·refine⟨p.2.2,?_⟩;unfold Cs;rw[Ac (by omega),Af rfl]
   ·exact h
 exact key l [] (.inl rfl)
def Xt{k t v d A9:Int}(l:List Pu)(h:Gv t d A9=true):refQ (l++[(k,t,v)]) k t t d A9=[(t,v)]:=by
 rw[R8,Rl (k:=k) (p:=(k,t,v)) rfl (by simp) (by simp) h];rcases Xu l k t d A9 with e|⟨x,e⟩
 ·rw[e];rfl
 ·rw[e];unfold Cs;rw[Ac (by dsimp only;omega),Af rfl]
def EN(f:Nat->Pt)(n:Nat):List Pt:=(List.range n).map f
def WR(f:Nat->Pt)(n:Nat):EN f (n+1)=EN f n++[f n]:=by unfold EN;rw[List.range_succ,E6];rfl
def WT(f:Nat->Pt)(n:Nat):(EN f n).length=n:=by unfold EN;simp
def WS{f:Nat->Pt}{n:Nat}(h:∀i,i<n->(f i).1<(f n).1):∀x∈EN f n,x.1<(f n).1:=λx d=>by
 unfold EN at d;obtain⟨i,z,rfl⟩:=CA.1 d;exact h i (MB.1 z)
def GO(f:Nat->Pu)(n:Nat):List Pu:=(List.range n).map f
def QE(f:Nat->Pu)(n:Nat):GO f (n+1)=GO f n++[f n]:=by unfold GO;rw[List.range_succ,E6];rfl
def Ff(c:Int)(i:Nat):Pu:=(0,(i:Int),c)
def Ow(c:Int):∀n:Nat,n<=1000->refQ (GO (Ff c) n) 0 (-9223372036854775808) 9223372036854775807 1000 0=EN (λi=>((i:Int),c)) n
 | 0,_=>rfl
 | n+1,h=>by
  rw[QE,R8,Ow c n (by omega),WR,Rl (k:=0) (p:=Ff c n) rfl (by simp only[Ff];omega) (by simp only[Ff];omega) (by simp only[Ff,Gv];simp;omega)];exact Tg _ _ _ (WS λi hi=>by dsimp only;omega)
end
section
open Go.ChangeAt Go.ChangeShapes Go.RowKit Go.WideShapes
def Tryz.own:ownKnob Tryz.prog.godebug=none:=by kernel_rfl
def Tryz.dJ:Tryz.prog.globalNamed "tides/files.letters" = some 0:=by kernel_rfl
def Tryz.dD:Tryz.prog.globalNamed "internal/strconv.uint64pow10" = some 3:=by kernel_rfl
def Tryz.dQ:Tryz.prog.globalNamed "strconv.ErrRange" = some 2:=by kernel_rfl
def Tryz.eh:Tryz.prog.globalNamed "strconv.ErrSyntax" = some 1:=by kernel_rfl
def Tryz.eW:(Tryz.prog.globals[0]?).map (·.type)=some 160:=by kernel_rfl
def Tryz.eI:(Tryz.prog.globals[3]?).map (·.type)=some 297:=by kernel_rfl
def Tryz.eF:(Tryz.prog.globals[2]?).map (·.type)=some 156:=by kernel_rfl
def Tryz.eZ:(Tryz.prog.globals[1]?).map (·.type)=some 156:=by kernel_rfl
def Tryz.eJ:Tryz.prog.cellsOf 160=5:=by kernel_rfl
def Tryz.dw:Tryz.prog.cellsOf 9=1:=by kernel_rfl
def Tryz.fm:Tryz.prog.cellsOf 297=20:=by kernel_rfl
def Tryz.e8:Tryz.prog.cellsOf 228=1:=by kernel_rfl
def Tryz.dM:Tryz.prog.cellsOf 289=1:=by kernel_rfl
def Tryz.star: "*" ++ "errors.errorString" = "*errors.errorString":=by decide
def Tryz.en(u:TypeId)(h:Tryz.prog.typeName? 3 u=some "*errors.errorString"):u=287:=
 typeName_ptr_named (nm:= "errors.errorString") (by rw[Tryz.star];kernel_rfl) (by kernel_rfl) (by decide) u (by rw[Tryz.star];exact h)
def YZ{d:Nat}{w:World}{H:List Value}{s:List (List UInt8)}{p:List MemPlace}(h:DataW.trod (λ_=>()) Tryz.prog w 0 (λ_=>true) false d 160 H=some (.agg (s.map λx=>.lit (.string x)),p))(k:Nat)(L:k<5)(x:List UInt8)(hx:s[k]?=some x):H[k]?=some (.string ⟨x.toArray⟩):=by
 cases d with
 | zero=>simp[DataW.trod]at h
 | succ d=>
  simp only[DataW.trod,underlying160,Tryz.dw,Tryz.eJ,Pf]at h;split at h
  ·obtain⟨xs,hm,O⟩:=A2M.1 h;have E:xs.map (·.1)=s.map λx=>DataW.lit (.string x):=by
    have:=EB Prod.fst O;simpa using this
   obtain⟨b,I,Y⟩:=Lib.mapM_at hm k k (by simp[L]);obtain⟨s',hc,rfl,_⟩:=DataW.trod_string underlying9 Y;have W:H[k]?=some (.string s'):=by
    have:=EB (·[0]?) hc;simpa[List.getElem?_take,List.getElem?_drop] using this
   (have z:(xs.map (·.1))[k]?=some (DataW.lit (.string s'.data.toList)):=by simp[I]);rw[E]at z;simp[hx]at z;rw[W,z]
  ·cases h
def Zd{W:World}(h:laidMetH Tryz.prog Rows.frozenUptoRow.laid W):Lets W.heap.size W:=by
 have h0:=h;have h3:laidMet Tryz.prog (("internal/strconv.uint64pow10",Lib.tabData .u64 Lib.pow10Tab):: [("strconv.ErrRange",Rows.laid_strconv_ErrRange),("strconv.ErrSyntax",Rows.laid_strconv_ErrSyntax),("tides/files.letters",Rows.laid_tides_files_letters)]) W:=laidMet.tail (laidMet.tail h0);have O:Lib.TabIs Tryz.prog W "internal/strconv.uint64pow10" .u64 Lib.pow10Tab:=Lib.tabIs_of_head Tryz.dD Tryz.eI underlying297 underlying228 Tryz.e8 Tryz.fm h3;have h6:=laidMet.tail (laidMet.tail (laidMet.tail h3));obtain⟨ps,⟨g',t',cs,fuel,p,q,I,L,d,hd,_,_⟩,_⟩:=h6;obtain rfl:=Pa (Tryz.dJ.symm.trans I);obtain rfl:=Pa (Tryz.eW.symm.trans L);have E:=YZ (s:=[[],[108],[115],[105],[100]]) hd;have z:∀k:Nat,1<=k->k<=4->W.cell? ⟨0,k,none⟩=some (.string ⟨(D3 k).toArray⟩):=λk h1 h2=>by
  rw[Uu Tryz.dJ d k];have:k=1\/k=2\/k=3\/k=4:=by omega
  rcases this with rfl|rfl|rfl|rfl
  ·simpa[D3] using E 1 (by omega) _ rfl
  ·simpa[D3] using E 2 (by omega) _ rfl
  ·simpa[D3] using E 3 (by omega) _ rfl
  ·simpa[D3] using E 4 (by omega) _ rfl
 have aA:=Hd W _ (z 1 (by omega) (by omega));have Y:=O.cell Tryz.dD 0 (by decide);have H:=Hd W _ Y;refine⟨Au _,λw' hb=>⟨λk h1 h2=>?_,?_⟩⟩
 ·rw[<-z k h1 h2];exact hb.cell aA
 ·unfold Lib.TabIs at O ⊢;rw[<-O];unfold World.var?;rw[Tryz.dD];simp only[Option.bind_some];rw[hb.block _ H]
def Ze{W:World}(h:laidMetH Tryz.prog Rows.frozenUptoRow.laid W):HF W:=by
 have I:=h;have E:=laidMet.tail (laidMet.tail (laidMet.tail I));have H:=laidMet.tail E;obtain⟨a0,_,z,_⟩:=laid_sentinel E Tryz.dQ Tryz.eF underlying156 Tryz.en underlying287 underlying289 rfl rfl underlying9 Tryz.dM Tryz.dw;obtain⟨b0,_,d,_⟩:=laid_sentinel H Tryz.eh Tryz.eZ underlying156 Tryz.en underlying287 underlying289 rfl rfl underlying9 Tryz.dM Tryz.dw;exact⟨⟨_,by simpa using Uu Tryz.eh d 0,.inr ⟨_,_,rfl⟩⟩,_,by simpa using Uu Tryz.dQ z 0,.inr ⟨_,_,rfl⟩⟩
def Ls{z:Int}(h:(Lit.int .i64 z).wf=true):AW z:=by
 simp[Lit.wf]at h;have e:IntKind.i64.min = -9223372036854775808:=rfl;rw[e]at h;exact h
abbrev VQ:ByteArray:={data:=#[105,110,118,97,108,105,100,32,115,121,110,116,97,120]}
abbrev X3:ByteArray:={data:=#[118,97,108,117,101,32,111,117,116,32,111,102,32,114,97,110,103,101]}
def Ji(v:Array Value):Obj->Obj
 | .cells _ t frozen=>.cells v t frozen
 | o=>o
def Ho(os:Os)(W:World):Prop:=W =
 let w0:=World.holding Tryz.prog os ⟨#[.cells #[.string VQ] 289,.cells #[.string X3] 289],#[],[]⟩
 let h0:=w0.heap
 let h1:=h0.modify 0 (Ji #[.string ⟨#[]⟩,.string ⟨#[108]⟩,.string ⟨#[115]⟩,.string ⟨#[105]⟩,.string ⟨#[100]⟩])
 let h2:=h1.modify 1 (Ji #[.iface 287 (A5 ((World.holding Tryz.prog default ⟨#[],#[],[]⟩).heap.size))])
 let h3:=h2.modify 2 (Ji #[.iface 287 (A5 ((World.holding Tryz.prog default ⟨#[],#[],[]⟩).heap.size+1))])
 let h4:=h3.modify 3 (Ji #[.int .u64 1,.int .u64 10,.int .u64 100,.int .u64 1000,.int .u64 10000,.int .u64 100000,.int .u64 1000000,.int .u64 10000000,.int .u64 100000000,.int .u64 1000000000,.int .u64 10000000000,.int .u64 100000000000,.int .u64 1000000000000,.int .u64 10000000000000,.int .u64 100000000000000,.int .u64 1000000000000000,.int .u64 10000000000000000,.int .u64 100000000000000000,.int .u64 1000000000000000000,.int .u64 10000000000000000000])
 let h5:=h4.modify 5 (Ji #[.int .u8 0,.int .u8 1,.int .u8 28,.int .u8 2,.int .u8 29,.int .u8 14,.int .u8 24,.int .u8 3,.int .u8 30,.int .u8 22,.int .u8 20,.int .u8 15,.int .u8 25,.int .u8 17,.int .u8 4,.int .u8 8,.int .u8 31,.int .u8 27,.int .u8 13,.int .u8 23,.int .u8 21,.int .u8 19,.int .u8 16,.int .u8 7,.int .u8 26,.int .u8 12,.int .u8 18,.int .u8 6,.int .u8 11,.int .u8 5,.int .u8 10,.int .u8 9])
 let h6:=h5.modify 6 (Ji #[.int .u8 0,.int .u8 1,.int .u8 56,.int .u8 2,.int .u8 57,.int .u8 49,.int .u8 28,.int .u8 3,.int .u8 61,.int .u8 58,.int .u8 42,.int .u8 50,.int .u8 38,.int .u8 29,.int .u8 17,.int .u8 4,.int .u8 62,.int .u8 47,.int .u8 59,.int .u8 36,.int .u8 45,.int .u8 43,.int .u8 51,.int .u8 22,.int .u8 53,.int .u8 39,.int .u8 33,.int .u8 30,.int .u8 24,.int .u8 18,.int .u8 12,.int .u8 5,.int .u8 63,.int .u8 55,.int .u8 48,.int .u8 27,.int .u8 60,.int .u8 41,.int .u8 37,.int .u8 16,.int .u8 46,.int .u8 35,.int .u8 44,.int .u8 21,.int .u8 52,.int .u8 32,.int .u8 23,.int .u8 11,.int .u8 54,.int .u8 26,.int .u8 40,.int .u8 15,.int .u8 34,.int .u8 20,.int .u8 31,.int .u8 10,.int .u8 25,.int .u8 14,.int .u8 19,.int .u8 9,.int .u8 13,.int .u8 8,.int .u8 7,.int .u8 6])
 {w0 with heap:=h6}
def Zc(os:Os)(W:World)(h:Ho os W)(args:Array Value):laidMet Tryz.prog Rows.frozenUptoRow.laid (W.forCall (λ_ _=>0) ⟨#[],args,[]⟩).memory:=by
 unfold Ho at h;subst h;exact laidMet_of_run' 8 (by kernel_rfl) (by kernel_rfl)
end
section
open Go.RowKit

end
section
open Go.RowKit
attribute [local go_sem ↓] Go.wp_at_zero Go.wp_at_succ


end
section
open Go.ChangeAt Go.ChangeShapes Go.RowKit Go.WideShapes
def Zf{W:World}(h:laidMetH Tryz.prog Rows.frozenUptoRow.laid W):Env W.heap.size W:=by
 have O:=Zd h;have E:=Ze h;obtain⟨⟨I,d,H⟩,Y,z,L⟩:=E;exact⟨O,⟨⟨I,d,H⟩,Y,z,L⟩,Hd W _ d,Hd W _ z⟩
end
section
open Go.RowKit
attribute [local go_sem ↓] Go.wp_at_zero Go.wp_at_succ
def SS(w:World)(va vb:Value)(l m:List Pt)(ha:CX w va l)(hb:CX w vb m)(hl:l.length<1099511627776)(_hm:m.length<1099511627776):
 Ah 22 #[va,vb] w (Am (.bool (decide (l=m))) λw'=>A3 Aa w w'):=by
 obtain⟨aa,ca,rfl,-,-,aE,-,-⟩:=B9 ha;obtain⟨ab,cb,rfl,-,-,aJ,-,-⟩:=B9 hb;by_cases d:l.length=m.length
 ·have aN:=A1 ha;have aM:=A1 hb;have aB:=A1 aE;have aG:=A1 aJ;have L:=A1 d;obtain⟨q,hq⟩:∃q,decide (l=m)=q:=⟨_,rfl⟩;rw[hq,<-d];have aL:=A1 hq;clear ha hb aE aJ d hq _hm
  go_enter func22,ntmps22
  go_wp2;go_loopw [5] (λiv wr=>∃k:Nat,k<=l.length/\iv=A0 k/\Hid (A3 Aa w wr)/\Hid (l.take k=m.take k)) (λiv _=>l.length-(intOf iv).toNat)
  case atStart=>exact⟨0,by omega,rfl,A3.I _ _,rfl⟩
  case round=>
   obtain⟨k,hk,rfl,hc,hE⟩:=hrel;obtain⟨w0,aO⟩:∃w0,w0=wr:=⟨_,rfl⟩;subst aO;have k0:=Ce k;by_cases z:k<l.length
   ·(have E:k<m.length:=by have:=L.o;omega);(have k1:(k:Int)<(l.length:Int):=by omega);obtain⟨W,rfl⟩:=aB.o (by omega);obtain⟨Y,rfl⟩:=aG.o (by omega);have aD:CX w0 _ l:=Ay aN.o λg hg=>hc.o.Al g (Az aN.o hg) (λh=>h);obtain⟨a0,a1⟩:=aD.bw k z;clear aD;have aI:CX w0 _ m:=Ay aM.o λg hg=>hc.o.Al g (Az aM.o hg) (λh=>h);obtain⟨b0,b1⟩:=aI.bw k E;clear aI;obtain⟨p,hx⟩:∃p,l[k]'z=p:=⟨_,rfl⟩;obtain⟨r,hy⟩:∃r,m[k]'E=r:=⟨_,rfl⟩;have aH:Hid (p=r->l.take (k+1)=m.take (k+1)):=λe=>by
     rw[Dl z,Dl E,hE.o,hx,hy,e]
    have I:Hid (p≠r->q=false):=λaK=>by
     rw[<-aL.o];refine D4 λe=>aK ?_;subst e;rw[<-hx,<-hy]
    obtain⟨t,v⟩:=p;obtain⟨t2,v2⟩:=r;rw[hx]at a0 a1;rw[hy]at b0 b1;have aP:=A1 z;clear hx hy aN aM aB aG hE L aL E z;by_cases e1:t=t2
    ·subst e1;by_cases e2:v=v2
     ·subst e2;have aQ:=A1 (aH.o rfl);clear aH I;go_wp2;refine C3 (λw'=>A6 w' W (k*2) (A0 t)/\A6 w' W (k*2+1) (A0 v)/\A6 w' Y (k*2) (A0 t)/\A6 w' Y (k*2+1) (A0 v)) 23
       (Bz [0,1,2,3,4,5,6,7,8,9,10,11,12,13,14,15,16,17,18,19,20,21,22] []) ⟨a0,a1,b0,b1⟩ ?_
      iterate 23 (refine Bj ?_;(try simp only[Ao]))
      refine Bo ?_;simp only[BO,BN];go_wp2;go_roundw
      case rel=>exact⟨k+1,by have:=aP.o;omega,by go_num,hc.o.af,aQ.o⟩
      case measure=>have:=aP.o;simp[intOf];omega
     ·have aF:=I.o (by simp[e2]);(have e3:(v !=v2)=true:=by simpa using e2);have O:=A1 aF;go_wp2;refine C3 (λw'=>A6 w' W (k*2) (A0 t)/\A6 w' W (k*2+1) (A0 v)/\A6 w' Y (k*2) (A0 t)/\A6 w' Y (k*2+1) (A0 v2)) 23
       (Bz [0,1,2,3,4,5,6,7,8,9,10,11,12,13,14,15,16,17,18,19,20,21,22] []) ⟨a0,a1,b0,b1⟩ ?_
      iterate 23 (refine Bj ?_;(try simp only[Ao]))
      refine Bo ?_;simp only[BO,BN];go_wp2;go_ret;rw[O.o];exact⟨rfl,hc.o.af⟩
    ·have aF:=I.o (by simp[e1]);(have e3:(t !=t2)=true:=by simpa using e1);have O:=A1 aF;go_wp2;refine C3 (λw'=>A6 w' W (k*2) (A0 t)/\A6 w' W (k*2+1) (A0 v)/\A6 w' Y (k*2) (A0 t2)/\A6 w' Y (k*2+1) (A0 v2)) 23
      (Bz [0,1,2,3,4,5,6,7,8,9,10,11,12,13,14,15,16,17,18,19,20,21,22] []) ⟨a0,a1,b0,b1⟩ ?_
     iterate 12 (refine Bj ?_;(try simp only[Ao]))
     iterate 11 (refine Vm rfl (by rfl) ?_;(try simp only[Ao]))
     refine Bo ?_;simp only[BO,BN];go_wp2;go_ret;rw[O.o];exact⟨rfl,hc.o.af⟩
   ·(obtain rfl:k=l.length:=by omega);have aF:Hid (q=true):=by
     have h2:=hE.o;rw[C9,L.o,C9]at h2;rw[<-aL.o];exact Cv h2
    go_wp2;go_ret;rw[aF.o];exact⟨rfl,hc.o⟩
 ·have e:decide (l=m)=false:=D4 λe=>d (EB List.length e);have e2:((l.length:Int)!=(m.length:Int))=true:=by simp;omega
  rw[e]
  go_enter func22,ntmps22
  go_wp2;go_ret;exact⟨rfl,A3.I _ _⟩
def Eo(c:Int)(H xb sb ab b:Nat)(aA k0:Int)(al:Bool)(i nn mm:Nat)(w:World):Prop:=
 ∃P q s2,KO (2*i) H xb sb ab b aA 0 q s2 (!al) P w/\P.D.n.AS=false/\P.D.n.BT=0/\
  (al=true->q=GO (Ff c) i/\k0+i<=P.D.n.AP/\P.D.n.AP<P.D.n.BJ/\P.D.n.BJ<=k0+60/\P.D.n.B5=0)/\
  (al=false->P.D.n.B5=1/\∃m,q=GO (Ff c) m/\(m=nn\/m=nn+mm)/\m<=100)
section
variable {w:World} {H xb sb ab b B N i nn mm:Nat} {c aA k0:Int} {al:Bool}
def Eo.Ag(h:Eo c H xb sb ab b aA k0 al i nn mm w):De w xb ⟨A5 b,A5 sb,0⟩:=by obtain⟨P,q,s2,d,-⟩:=h;exact d.Ag
def Eo.dW(h:Eo c H xb sb ab b aA k0 true i nn mm w):i<60:=by
 obtain⟨P,q,s2,h1,h2,h3,d,-⟩:=h;obtain⟨-,a,b,c,-⟩:=d rfl;omega
def A0x(d:AW c)(hi:i<=1000):Bg (Ff c i):=⟨⟨by simp[Ff],by simp[Ff]⟩,by constructor<;>(simp only[Ff];omega),d⟩
def Eo.aw(h:Eo c H xb sb ab b aA k0 true i nn mm w)(hc:AW c)(hL:Lets B w)(z:B<=H):
 Calls Tryz.prog 12 #[.pointer (some ⟨sb,0,none⟩),.int .i64 0,.int .i64 (i:Int),.int .i64 c] w λe w'=>A3 (Up H) w w'/\
  ((e=.returned (.int .i64 0)/\∃P s2,KO (2*i+1) H xb sb ab b aA 0 (GO (Ff c) (i+1)) s2 false P w'/\P.D.n.AS=false/\P.D.n.BT=0/\k0+(i+1:Nat)<=P.D.n.AP/\P.D.n.AP<P.D.n.BJ/\P.D.n.BJ<=k0+60/\P.D.n.B5=0)\/
   (e=.returned (.int .i64 5)/\Eo c H xb sb ab b aA k0 false (i+1) i 1 w')):=by
 have hi:=h.dW;obtain⟨P,q,s2,L,W,d,Y,-⟩:=h;obtain⟨rfl,h5,h6,h7,h8⟩:=Y rfl;have hp:=L.aw W (by omega) hL z (Ff c i) (A0x hc (by omega));refine hp.mono ?_;rintro e w'⟨cd,P2,q,rfl,O,E,I,⟨t1,t2,t3,t4⟩,k5⟩;refine⟨O,?_⟩;have h0:=L.pu.2.2.2.1.2.1;rw[<-QE]at E;rcases t4 with⟨rfl,t5,t6,t7⟩|⟨rfl,t7,⟨-,t5⟩|⟨t5,t6⟩⟩
 ·obtain rfl:q=_:=E.elim id λh=>absurd rfl h.2;have:=k5 rfl;exact .inl ⟨rfl,P2,s2,I,t5,t1.trans d,by omega,by omega,by omega,by omega⟩
 ·rw[d]at t5;omega
 ·refine .inr ⟨rfl,P2,q,s2,I.ad (by omega),t5,t1.trans d,λe=>(by cases e),λ_=>⟨by omega,?_⟩⟩;rcases E with rfl|⟨rfl,-⟩
  ·exact⟨i+1,rfl,.inr rfl,by omega⟩
  ·exact⟨i,rfl,.inl rfl,by omega⟩
def A0w{P:PD}{s2:Nat}(h:KO (2*i+1) H xb sb ab b aA 0 (GO (Ff c) (i+1)) s2 false P w)(z:P.D.n.AS=false)(d:P.D.n.BT=0)(O:k0+(i+1:Nat)<=P.D.n.AP)(E:P.D.n.AP<P.D.n.BJ)(L:P.D.n.BJ<=k0+60)(I:P.D.n.B5=0)(nn mm:Nat):
 Eo c H xb sb ab b aA k0 true (i+1) nn mm w:=⟨P,_,s2,h.ad (by omega),z,d,λ_=>⟨rfl,O,E,L,I⟩,λe=>by cases e⟩
def A0v{P:PD}{s2:Nat}(z:Fj N)(hN:300<=N/\N<=200000)(f:Nat)(Y:MO f)(hi:i<=100)(h:KO (2*i+1) H xb sb ab b aA 0 (GO (Ff c) (i+1)) s2 false P w)(L:P.D.n.AS=false)(d:P.D.n.BT=0)(h5:k0+(i+1:Nat)<=P.D.n.AP)(h6:P.D.n.AP<P.D.n.BJ)(h7:P.D.n.BJ<=k0+60)(h8:P.D.n.B5=0)(W:Lets B w)(E:B<=H):
 Calls Tryz.prog f #[.pointer (some ⟨sb,0,none⟩)] w λe w'=>A3 (Up H) w w'/\((e=.returned (.int .i64 0)/\Eo c H xb sb ab b aA k0 true (i+1) (i+1) 0 w')\/(e=.returned (.int .i64 5)/\Eo c H xb sb ab b aA k0 false (i+1) (i+1) 0 w')):=by
 refine(h.cu z hN.2 f Y L (by omega) (by omega) W E).mono ?_;rintro e w'⟨cd,P2,rfl,O,I,⟨t1,t2,t3,t4⟩⟩;refine⟨O,?_⟩;have h0:=h.pu.2.2.2.1.2.1;rcases t4 with⟨rfl,t5,t6,t7⟩|⟨rfl,t7,⟨-,t5⟩|⟨t5,t6⟩⟩
 ·exact .inl ⟨rfl,P2,_,_,I.ad (by omega),t5,t1.trans d,λ_=>⟨rfl,by omega,by omega,by omega,by omega⟩,λe=>by cases e⟩
 ·rw[d]at t5;omega
 ·exact .inr ⟨rfl,P2,_,_,I.ad (by omega),t5,t1.trans d,λe=>(by cases e),λ_=>⟨by omega,i+1,rfl,.inl rfl,by omega⟩⟩
end
def E7(c:Int)(H xb sb ab b:Nat)(aA:Int)(t m:Nat)(X:Nat->Prop)(w:World):Prop:=∃P s2 FT,GZ t H xb sb ab b aA 0 (GO (Ff c) m) s2 true P w FT/\P.D.n.AS=false/\P.D.n.B5=1/\∀k,X k->¬F5 xb FT k/\k<w.heap.size
section
variable {w w':World} {t H xb sb ab b B N m:Nat} {c aA:Int} {X:Nat->Prop}
def GZ.aJ{aA A9:Int}{puts:List Pu}{Ad:Nat}{d:Bool}{P:PD}{FT:Nat->Prop}(h:GZ t H xb sb ab b aA A9 puts Ad d P w FT)(I:A3 Aa w w'):GZ t H xb sb ab b aA A9 puts Ad d P w' FT:=by
 obtain⟨L,A,E,z⟩:=h;exact⟨L,A,E.aJ I,z⟩
def E7.aJ(h:E7 c H xb sb ab b aA t m X w)(E:A3 Aa w w'):E7 c H xb sb ab b aA t m X w':=by
 obtain⟨P,s2,FT,L,I,O,z⟩:=h;exact⟨P,s2,FT,L.aJ E,I,O,λk d=>⟨(z k d).1,Bm (z k d).2 E.Ak⟩⟩
def E7.Ag(h:E7 c H xb sb ab b aA t m X w):De w xb ⟨A5 b,A5 sb,0⟩:=by obtain⟨P,s2,FT,d,-⟩:=h;exact d.ko.Ag
def Eo.fu{i nn mm:Nat}{k0:Int}(h:Eo c H xb sb ab b aA k0 false i nn mm w):∃m,E7 c H xb sb ab b aA (2*i) m Aa w/\(m=nn\/m=nn+mm)/\m<=100:=by
 obtain⟨P,q,s2,⟨L,A,FT,E⟩,d,-,-,z⟩:=h;obtain⟨O,m,rfl,W,I⟩:=z rfl;exact⟨m,⟨P,s2,FT,⟨L,A,E⟩,d,O,λ_ h=>h.elim⟩,W,I⟩
def E7.bR(h:E7 c H xb sb ab b aA t m X w)(hm:m<=1000):Calls Tryz.prog 16 #[.pointer (some ⟨sb,0,none⟩),.int .i64 0,.int .i64 (-9223372036854775808),.int .i64 9223372036854775807] w λe w'=>∃x,e=.returned (.tuple #[x,.int .i64 0])/\CX w' x (EN (λi=>((i:Int),c)) m)/\A3 (λ_=>False) w w'/\
 E7 c H xb sb ab b aA t m (λk=>X k\/x.ownBlock=some k) w':=by
 obtain⟨P,s2,FT,h1,h2,h3,h4⟩:=h;have d:=h1.ko;obtain⟨L,A,z,k2,Y,k4,k5,k6,W⟩:=h1;obtain⟨lv,F0,q,-⟩:=z.Ez;refine(Rk w 0 (-9223372036854775808) 9223372036854775807 q.Ag q.Fu (by decide) IL W).mono ?_;rintro e w'⟨x,rfl,I,O,hn⟩;rw[Y.bR (λp hp=>(d.pu.1 p hp).2.1) (by decide),show (((0:Nat):Int))=0 from rfl,Ow c m hm]at I;refine⟨x,rfl,I,O,P,s2,FT,⟨L,A,z.aJ O,k2,Y,k4,k5,k6,W⟩,h2,h3,λk d=>?_⟩;rcases d with d|d
 ·exact⟨(h4 k d).1,Bm (h4 k d).2 O.Ak⟩
 ·have hz:=hn k d;refine⟨λE=>?_,Az I d⟩;rcases E with rfl|E
  ·have:=z.Ag.lt;omega
  ·have:=z.lt k E;omega
def E7.cD(h:E7 c H xb sb ab b aA t m X w):Ah 20 #[A5 sb] w (Am (.agg #[.bool true,A0 0]) λw'=>A3 Aa w w'):=by
 obtain⟨P,s2,FT,d,-⟩:=h;exact d.ko.cD
def E7.B5(h:E7 c H xb sb ab b aA t m X w):Ah 21 #[A5 b] w (Am (A0 1) λw'=>w=w'):=by
 obtain⟨P,s2,FT,d,-,z,-⟩:=h;have:=d.ko.B5
 rwa [z]at this
def E7.no{f:Nat}{args:Array Value}(h:E7 c H xb sb ab b aA t m X w)(Y:∀L A P FT,SF w sb ab b 0 1000 aA 0 true L A P FT->(∀k,FT k->k<w.heap.size)->Calls Tryz.prog f args w λe w'=>e=.returned (.int .i64 4)/\Ap w FT w' (λw' z=>SF w' sb ab b 0 1000 aA 0 true L A P z)):
 Calls Tryz.prog f args w λe w'=>e=.returned (.int .i64 4)/\A3 (Up H) w w'/\A3 (λk=>¬X k) w w'/\E7 c H xb sb ab b aA t m X w':=by
 obtain⟨P,s2,FT,⟨L,A,I,k2⟩,h2,h3,O⟩:=h;refine(Y L A P FT I.Ez I.lt).mono ?_;rintro e w'⟨rfl,hI⟩;obtain⟨c1,c2,z,g1,g2⟩:=I.cj (KS.FW sb ab b 1000 aA 0 true L A P) hI;refine⟨rfl,c1,c2.ad λk _ E hx=>(O k hx).1 (.inr E),P,s2,z,⟨L,A,g1,k2⟩,h2,h3,λk E=>⟨λd=>?_,Bm (O k E).2 c2.Ak⟩⟩;obtain⟨W,n2⟩:=O k E;rcases d with d|d
 ·exact W (.inl d)
 ·rcases g2 k d with d|d
  ·exact W (.inr d)
  ·omega
def E7.aw(h:E7 c H xb sb ab b aA t m X w)(k a v:Int)(d:0<=k/\k<8):Ah 12 #[A5 sb,A0 k,A0 a,A0 v] w (Am (A0 4) λw'=>A3 (Up H) w w'/\A3 (λk=>¬X k) w w'/\E7 c H xb sb ab b aA t m X w'):=
 h.no λ_ _ _ _ E z=>Ro w k a v E z d
def E7.cu(f:Nat)(E:MO f)(h:E7 c H xb sb ab b aA t m X w):Ah f #[A5 sb] w (Am (A0 4) λw'=>A3 (Up H) w w'/\A3 (λk=>¬X k) w w'/\E7 c H xb sb ab b aA t m X w'):=
 h.no λ_ _ _ _ d z=>by
  rcases E with rfl|rfl|rfl
  ·exact VK w d
  ·exact Ts w d z
  ·exact A1s w d z
def E7.eM(h:E7 c H xb sb ab b aA t m X w)(aD:Fj N)(hN:N<=200000)(ht:t+3<=190000)(aE:t+2<=N)(hm:m<=1000)(hc:AW c)(hE:Env B w)(d:B<=H):
 Calls Tryz.prog 23 #[.pointer (some ⟨xb,0,none⟩),.int .i64 c] w λe w'=>e=.returned (.bool true)/\A3 (Up H) w w'/\A3 (λk=>¬X k) w w'/\∃sb,w'.cell? ⟨xb,1,none⟩=some (.pointer (some ⟨sb,0,none⟩))/\Calls Tryz.prog 16 #[.pointer (some ⟨sb,0,none⟩),.int .i64 0,.int .i64 (-9223372036854775808),.int .i64 9223372036854775807] w' λe w2=>∃x,e=.returned (.tuple #[x,.int .i64 0])/\CX w2 x (EN (λi=>((i:Int),c)) m)/\A3 (λ_=>False) w' w2/\
  ∀w3,A3 (λ_=>False) w2 w3->Calls Tryz.prog 12 #[.pointer (some ⟨sb,0,none⟩),.int .i64 0,.int .i64 500,.int .i64 c] w3 λe I=>e=.returned (.int .i64 0)/\A3 (Up H) w3 I/\I.cell? ⟨xb,1,none⟩=some (.pointer (some ⟨sb,0,none⟩))/\
   Calls Tryz.prog 13 #[.pointer (some ⟨sb,0,none⟩),.int .i64 0,.int .i64 500,.int .i64 c] I λe w5=>e=.returned (.bool true)/\A3 (λ_=>False) I w5:=by
 obtain⟨P,s2,FT,⟨L,A,E,k2,k3,k4,k5,k6,k7⟩,h2,h3,h4⟩:=h;obtain⟨Ft,d1,d2,d3,-⟩:=SF.bW E.Ez;have hK:EC t H xb b (.pointer (some ⟨sb,0,none⟩)) 0 (GO (Ff c) m) s2 false P w Ft:=⟨⟨E.Ag,KD.FW _ _,d1,d2,λY=>E.nw (d3 _ Y),E.up,λk W=>E.GB k (d3 k W)⟩,k2.cX false,k5,k7⟩;refine(SR aD hN w c hc hK (by omega) aE hE d).mono ?_;rintro e w'⟨rfl,g1,FT',⟨aB,ab2,b2,m2,P2,z,-,-,q4,q5,q6⟩,-⟩;obtain⟨-,q7⟩:=q6 h2;rw[q7 rfl,C9]at z;have z:=z.ko;have gu:=SX hK g1;refine⟨rfl,gu,g1.ad λk _ W Y=>(h4 k Y).1 (W.imp id (d3 k)),aB,z.Ag.c1,?_⟩;have hq:=z.bR 0 (by decide) (-9223372036854775808) 9223372036854775807;rw[show (((0:Nat):Int))=0 from rfl,Ow c m hm]at hq;refine hq.mono ?_;rintro e w2⟨x,rfl,Y,k2⟩;refine⟨x,rfl,Y,k2,λw3 k3=>?_⟩;have O:=(z.aJ k2).aJ k3;refine(O.aw q4 (by omega) (((hE.ak gu λk W=>AQ d W).aS k2).aS k3).1 d (0,500,c) ⟨⟨by simp,by simp⟩,(show AW 500 from ⟨by decide,by decide⟩),hc⟩).mono ?_;rintro e I⟨cd,P4,q,rfl,g1,g2,g3,g4,-⟩;obtain⟨rfl,-,-⟩:=g4.fO q5 O.pu.2.2.2.1;obtain rfl:q=_:=g2.elim id λh=>absurd rfl h.2;have ha:=g3.fL 0 (by decide) 500 c;rw[show (((0:Nat):Int))=0 from rfl,Xt _ (by unfold Gv;decide)]at ha;exact⟨rfl,g1,g3.Ag.c1,by simpa using ha⟩
end
end
end Go.Proofs.YtodcnkbblippnabGreatDoor
