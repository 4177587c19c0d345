/- Part 22 of a proof: walks of the program. -/
import Derived.Test.YtodcnkbblippnaaGreatDoorCards
import Derived.Test.YtodcnkbblippnaaGreatDoorTie
import Derived.ProofKit
import Derived.OpenShut
import Derived.Carry
import Derived.Deep.DeepHandedRow
import Derived.Deep.DeepWitnessRowRef
import Derived.Deep.Slices
import Derived.Lib.LaidTab
import Derived.Stop.LaidErr
import Derived.Test.YtodcnkbblippnaaGreatDoorPk21
namespace Go.Proofs.YtodcnkbblippnaaGreatDoor
set_option maxRecDepth 100000
set_option maxHeartbeats 32000000
set_option linter.defProp false
open Go.Proofs.Tryz
section
open Go.RowKit
structure KN where
 dv:Value
 sv:Value
 MQ:Int
def Mq(n:KN):Array Value:=#[n.dv,n.sv,A0 n.MQ]
def CN(w:World)(xb:Nat)(n:KN):Prop:=w.heap[xb]?=some (.cells (Mq n) 60 (0,0))
section
variable {w w':World} {xb:Nat} {n:KN}
def CN.c0(h:CN w xb n):A7 w xb 0 n.dv:=by unfold CN at h;simp[A7,World.cell?,h,Mq]
def CN.s0(h:CN w xb n)(x:Value):CN (w.setCell (Ac xb 0) x) xb {n with dv:=x}:=Ct h
def CN.c1(h:CN w xb n):A7 w xb 1 n.sv:=by unfold CN at h;simp[A7,World.cell?,h,Mq]
def CN.s1(h:CN w xb n)(x:Value):CN (w.setCell (Ac xb 1) x) xb {n with sv:=x}:=Ct h
def CN.c2(h:CN w xb n):A7 w xb 2 (A0 n.MQ):=by unfold CN at h;simp[A7,World.cell?,h,Mq]
def CN.s2(h:CN w xb n)(x:Int):CN (w.setCell (Ac xb 2) (A0 x)) xb {n with MQ:=x}:=Ct h
def CN.fz(h:CN w xb n)(o:Nat):w.frozen? (Ac xb o)=false:=by unfold CN at h;simp[World.frozen?,h]
def CN.lt(h:CN w xb n):xb<w.heap.size:=Bz h
def CN.Ak{S:Nat->Prop}(h:CN w xb n)(d:A3 S w w')(z:¬S xb):CN w' xb n:=(d.Ap xb h.lt z).trans h
def CN.au(h:CN w xb n)(d:A3 Ab w w'):CN w' xb n:=h.Ak d (λh=>h)
end
structure KW (w:World) (H xb:Nat) (n:KN) (R:Kind) (FT:Nat->Prop):Prop where
 Ag:CN w xb n
 Fh:Lp R
 Em:R w FT
 lt:∀k,FT k->k<w.heap.size
 nw:¬FT xb
 up:H<=xb
 H0:∀k,FT k->H<=k
section
variable {w w':World} {H xb:Nat} {n n':KN} {R R':Kind} {FT:Nat->Prop}
def KW.bD{S:Nat->Prop}(h:KW w H xb n R FT)(d:A3 S w w')(I:¬S xb)(E:∀k,FT k->¬S k):KW w' H xb n R FT:=
 ⟨h.Ag.Ak d I,h.Fh,h.Fh _ _ _ _ h.Em h.lt d E,λk z=>Bq (h.lt k z) d.Ao,h.nw,h.up,h.H0⟩
def KW.au(h:KW w H xb n R FT)(d:A3 Ab w w'):KW w' H xb n R FT:=h.bD d (λh=>h) λ_ _ h=>h
def KW.Ao(h:KW w H xb n R FT):H<=w.heap.size:=by have:=h.up;have:=h.Ag.lt;omega
def KW.cp(h:KW w H xb n R FT)(hs:Lp R')(W:Aq w FT w' R'):A3 (Up H) w w'/\A3 FT w w'/\∃d,KW w' H xb n R' d/\∀k,d k->FT k\/w.heap.size<=k:=by
 obtain⟨I,d,h1,Y,E⟩:=W;have hz:=h.Ao;have hl:=h.Ag.lt;refine⟨I.aa λx _ L=>h.H0 x L,I,d,⟨h.Ag.Ak I h.nw,hs,h1,Y,λL=>?_,h.up,λk O=>(E k O).elim (h.H0 k) λz=>AR hz z⟩,E⟩;rcases E xb L with z|z
 ·exact h.nw z
 ·omega
def KW.Di(h:KW w H xb n R FT)(o:Nat)(u:Value)(E:CN (w.setCell ⟨xb,o,none⟩ u) xb n'):A3 (One xb) w (w.setCell ⟨xb,o,none⟩ u)/\KW (w.setCell ⟨xb,o,none⟩ u) H xb n' R FT:=by
 have z:=(A3.I (One xb) w).aq (b:=xb) rfl o u;exact⟨z,E,h.Fh,h.Fh _ _ _ _ h.Em h.lt z λk d e=>h.nw (by cases e;exact d),λk d=>Bq (h.lt k d) z.Ao,h.nw,h.up,h.H0⟩
end
def KO(t H xb sb ab b:Nat)(aA A6:Int)(puts:List Pu)(A8:Nat)(ro:Bool)(P:PD)(w:World):Prop:=
 ∃L A FT,KW w H xb ⟨.pointer (some ⟨b,0,none⟩),.pointer (some ⟨sb,0,none⟩),A6⟩ (KS sb ab b 1000 aA A6 ro L A P) FT/\GL t A P puts A8 (Bc A6 1000) ro/\Rel L puts 1000 A6/\(∀k,k<8->(L k).length<=t)/\Eh P t/\(1<=aA/\aA<=4611686018427387904)/\AE A6
def KC(t H xb b:Nat)(sv:Value)(A6:Int)(puts:List Pu)(A8:Nat)(aB:Bool)(P:PD)(w:World):Prop:=
 ∃FT,KW w H xb ⟨.pointer (some ⟨b,0,none⟩),sv,A6⟩ (KD b P) FT/\G8 t P puts A8 (Bc A6 1000) aB/\Eh P t/\AE A6
def J1:(1:Int)<=1000/\(1000:Int)<=4611686018427387904:=⟨by decide,by decide⟩
section
variable {w w':World} {t t' H xb sb ab b B N:Nat} {aA A6:Int} {puts:List Pu} {A8:Nat} {ro aB:Bool} {P:PD} {sv:Value}
def KO.au(h:KO t H xb sb ab b aA A6 puts A8 ro P w)(E:A3 Ab w w'):KO t H xb sb ab b aA A6 puts A8 ro P w':=by
 obtain⟨L,A,FT,z,d⟩:=h;exact⟨L,A,FT,z.au E,d⟩
def KC.au(h:KC t H xb b sv A6 puts A8 aB P w)(E:A3 Ab w w'):KC t H xb b sv A6 puts A8 aB P w':=by
 obtain⟨FT,z,d⟩:=h;exact⟨FT,z.au E,d⟩
def KO.aa(h:KO t H xb sb ab b aA A6 puts A8 ro P w)(d:t<=t'):KO t' H xb sb ab b aA A6 puts A8 ro P w:=by
 obtain⟨L,A,FT,W,I,h3,O,Y,E⟩:=h;exact⟨L,A,FT,W,I.aa d,h3,λk z=>AR (O k z) d,Y.aa d,E⟩
def KC.aa(h:KC t H xb b sv A6 puts A8 aB P w)(d:t<=t'):KC t' H xb b sv A6 puts A8 aB P w:=by
 obtain⟨FT,I,z,L,E⟩:=h;exact⟨FT,I,z.aa d,L.aa d,E⟩
def KO.Ag(h:KO t H xb sb ab b aA A6 puts A8 ro P w):CN w xb ⟨A5 b,A5 sb,A6⟩:=by obtain⟨L,A,FT,d,-⟩:=h;exact d.Ag
def KC.Ag(h:KC t H xb b sv A6 puts A8 aB P w):CN w xb ⟨A5 b,sv,A6⟩:=by obtain⟨FT,d,-⟩:=h;exact d.Ag
def KO.pu(h:KO t H xb sb ab b aA A6 puts A8 ro P w):(∀p∈puts,Bh p)/\puts.length<=t/\A8<=puts.length/\Eh P t/\AE A6:=by
 obtain⟨L,A,FT,h1,d,h3,h4,z,h6,E⟩:=h;exact⟨d.1.2.2.1,d.1.2.2.2.1,d.1.2.2.2.2,z,E⟩
def KO.ca(h:KO t H xb sb ab b aA A6 puts A8 ro P w)(aB:Bool):KC t H xb b (.pointer (some ⟨sb,0,none⟩)) A6 puts A8 aB P w:=by
 obtain⟨L,A,FT,d,z,h3,h4,O,h6,I⟩:=h;obtain⟨Ft,d1,d2,d3,-⟩:=SF.b2 d.Em;exact⟨Ft,⟨d.Ag,KD.Fh _ _,d1,d2,λW=>d.nw (d3 _ W),d.up,λk E=>d.H0 k (d3 k E)⟩,z.dK aB,O,I⟩
def KC.eb(h:KC t H xb b sv A6 puts A8 aB P w)(u:Value):A3 (One xb) w (w.setCell (Ac xb 1) u)/\KC t H xb b u A6 puts A8 aB P (w.setCell (Ac xb 1) u):=by
 obtain⟨FT,d,z⟩:=h;obtain⟨c,k⟩:=d.Di (n':=⟨A5 b,u,A6⟩) 1 u (d.Ag.s1 u);exact⟨c,FT,k,z⟩
def KO.dc(h:KO t H xb sb ab b aA A6 puts A8 ro P w):∃lv L,Bt w sb 0 (A5 ab) 1000 aA A6 ro lv/\Eb w lv L/\Rel L puts 1000 A6:=by
 obtain⟨L,A,FT,d,h2,z,-⟩:=h;obtain⟨lv,F0,q,-⟩:=d.Em;exact⟨lv,L,q.Ag,q.Ej,z⟩
def KO.b6(h:KO t H xb sb ab b aA A6 puts A8 ro P w)(k:Nat)(d:k<8)(a c:Int):
 Af 37 #[A5 sb,A0 k,A0 a,A0 c] w λe w'=>∃x,e=.returned (.tuple #[x,A0 0])/\Du w' x (refQ puts k a c 1000 A6)/\A3 Ab w w':=by
 obtain⟨lv,L,O,E,h3⟩:=h.dc;obtain⟨Y,-,-,-,I⟩:=h.pu;refine(YI w k a c O E d J1 I).mono ?_;rintro e w'⟨x,rfl,z,hc,-⟩;rw[h3.b6 (λp W=>(Y p W).2.1) d]at z;exact⟨x,rfl,z,hc⟩
def KO.dL(h:KO t H xb sb ab b aA A6 puts A8 ro P w)(k:Nat)(d:k<8)(a v:Int):
 Af 26 #[A5 sb,A0 k,A0 a,A0 v] w (Aj (.bool (decide (refQ puts k a a 1000 A6=[(a,v)]))) λw'=>A3 Ab w w'):=A3m w _ k a v _ (h.b6 k d a a)
def KO.e2(h:KO t H xb sb ab b aA A6 puts A8 ro P w)(k:Nat)(d:k<8)(a:Int):
 Af 28 #[A5 sb,A0 k,A0 a] w (Aj (.bool (decide (refQ puts k a a 1000 A6=[]))) λw'=>A3 Ab w w'):=Zv w _ k a _ (h.b6 k d a a)
def KO.eS(h:KO t H xb sb ab b aA A6 puts A8 ro P w):
 Af 38 #[A5 sb] w (Aj (.agg #[.bool ro,A0 A6]) λw'=>A3 Ab w w'):=by
 obtain⟨lv,L,d,-⟩:=h.dc;exact R6 w d
def KC.AF(h:KC t H xb b sv A6 puts A8 aB P w):Af 36 #[A5 b] w (Aj (.bool P.D.n.AF) λw'=>w=w'):=by
 obtain⟨FT,d,-⟩:=h;exact A19 d.Em
def KO.AF(h:KO t H xb sb ab b aA A6 puts A8 ro P w):Af 36 #[A5 b] w (Aj (.bool P.D.n.AF) λw'=>w=w'):=(h.ca false).AF
def KO.ag{f:Nat}{args:Array Value}{cd:Int}{h:Bool}{L A FT}{E:Nat->List Pt}{A2:Ar}{P2:PD}{q:List Pu}{s2:Nat}{d:Int}(h1:KW w H xb ⟨.pointer (some ⟨b,0,none⟩),.pointer (some ⟨sb,0,none⟩),A6⟩ (KS sb ab b 1000 aA A6 ro L A P) FT)(W:Calls Tryz.prog f args w λe w'=>e=.returned (.int .i64 cd)/\Aq w FT w' (λw' z=>SF w' sb ab b 0 1000 aA d h E A2 P2 z))(Y:GL t' A2 P2 q s2 (Bc d 1000) h)(h3:Rel E q 1000 d)(h4:∀k,k<8->(E k).length<=t')(h5:Eh P2 t')(h6:1<=aA/\aA<=4611686018427387904)(h7:AE d)(I:d=A6):
 Calls Tryz.prog f args w λe w'=>e=.returned (.int .i64 cd)/\A3 FT w w'/\A3 (Up H) w w'/\KO t' H xb sb ab b aA d q s2 h P2 w':=by
 subst I;refine W.mono ?_;rintro e w'⟨rfl,hI⟩;obtain⟨c1,c2,z,O,-⟩:=h1.cp (KS.Fh sb ab b 1000 aA d h E A2 P2) hI;exact⟨rfl,c2,c1,E,A2,z,O,Y,h3,h4,h5,h6,h7⟩
def KO.aw(h:KO t H xb sb ab b aA A6 puts A8 false P w)(hd:P.D.n.AF=false)(I:t+1<=200000)(hL:Lets B w)(W:B<=H)(p:Pu)(O:Bh p):
 Af 23 #[A5 sb,A0 p.1,A0 p.2.1,A0 p.2.2] w λe w'=>∃cd P2 q,e=.returned (A0 cd)/\A3 (Up H) w w'/\(q=puts++[p]\/(q=puts/\cd≠0))/\
  KO (t+1) H xb sb ab b aA A6 q A8 (decide (cd≠0)) P2 w'/\Hr P cd P2/\(cd=0->P.D.n.AY+1<=P2.D.n.AY):=by
 obtain⟨L,A,FT,z,h2,h3,h4,h5,h6,h7⟩:=h;have Y:=h2.2 hd;obtain⟨c1,c2,c3⟩:=Y.fv h5 I p O;have d:∀k,k<8->Dz (L k):=by obtain⟨lv,F0,q,-⟩:=z.Em;exact q.Ej.FI
 obtain⟨q,q1,q2,q3,q4⟩:=YO Y I p O h3 d (bo:=(A.ad P p).1) (cd:=(A.ad P p).2.1) (A2:=(A.ad P p).2.2.1) (P2:=(A.ad P p).2.2.2) rfl rfl;refine(KO.ag z (S1 w p z.Em z.lt Y I O hL (λk E=>AR W (z.H0 k E)) h4 J1 h7) q2 q3 (λk E=>q4 k E (h4 k E)) c2 h6 h7 rfl).mono ?_;rintro e w'⟨rfl,-,k1,k2⟩;exact⟨_,_,q,rfl,k1,q1,k2,c1,c3⟩
def Jl(f:Nat):Prop:=f=31\/f=24\/f=25
def KO.cy(aD:DU N)(hN:N<=200000)(f:Nat)(hf:Jl f)(h:KO t H xb sb ab b aA A6 puts A8 false P w)(hd:P.D.n.AF=false)(I:t+1<=200000)(aF:t<=N)(hL:Lets B w)(aE:B<=H):
 Af f #[A5 sb] w λe w'=>∃cd P2,e=.returned (A0 cd)/\A3 (Up H) w w'/\KO (t+1) H xb sb ab b aA A6 puts (if cd=0 then puts.length else A8) (decide (cd≠0)) P2 w'/\Hr P cd P2:=by
 obtain⟨L,A,FT,E,h2,h3,h4,h5,h6,h7⟩:=h;have d:=h2.2 hd;have z:∀k,FT k->B<=k:=λk hk=>AR aE (E.H0 k hk);have O:∀k,k<8->(L k).length<=t+1:=λk hk=>Nb (h4 k hk);have Y:=AR d.B5 aF;rcases hf with rfl|rfl|rfl
 ·obtain⟨a1,-,a3,a4,a5,-⟩:=d.ae I;obtain⟨c1,c2⟩:=d.fN h5 I;refine(KO.ag E (WM w E.Em E.lt hL z) (O1 d a1 a3 a4 a5) h3 O c2 h6 h7 rfl).mono ?_;rintro e w'⟨rfl,-,W,k2⟩;exact⟨_,_,rfl,W,k2,c1⟩
 ·obtain⟨a1,-,a3,a4,a5⟩:=d.aS (Al:=aA) (Fl _) I;obtain⟨c1,c2⟩:=d.fJ (Al:=aA) (Fl _) h5 I;refine(KO.ag E (U6 aD hN w E.Em E.lt d I Y h6 hL z) (O1 d a1 a3 a4 a5) h3 O c2 h6 h7 rfl).mono ?_;rintro e w'⟨rfl,-,W,k2⟩;exact⟨_,_,rfl,W,k2,c1⟩
 ·obtain⟨a1,-,a3,a4,a5⟩:=d.aQ (Al:=aA) (Fl _) I;obtain⟨c1,c2⟩:=d.e7 (Al:=aA) (Fl _) h5 I;refine(KO.ag E (A2C aD hN w E.Em E.lt d I Y h6 hL z J1 h7) (O1 d a1 a3 a4 a5) h3 O c2 h6 h7 rfl).mono ?_;rintro e w'⟨rfl,-,W,k2⟩;exact⟨_,_,rfl,W,k2,c1⟩
def KO.fk(h:KO t H xb sb ab b aA A6 puts A8 true P w)(k a v:Int)(I:0<=k/\k<8):
 Calls Tryz.prog 23 #[.pointer (some ⟨sb,0,none⟩),.int .i64 k,.int .i64 a,.int .i64 v] w λe w'=>e=.returned (.int .i64 4)/\A3 (Up H) w w'/\KO t H xb sb ab b aA A6 puts A8 true P w':=by
 obtain⟨L,A,FT,d,E,h3,O,Y,h6,W⟩:=h;refine(KO.ag d (S2 w k a v d.Em d.lt I) E h3 O Y h6 W rfl).mono ?_;rintro e w'⟨rfl,-,z,k2⟩;exact⟨rfl,z,k2⟩
def KO.fF(f:Nat)(hf:Jl f)(h:KO t H xb sb ab b aA A6 puts A8 true P w):
 Af f #[A5 sb] w (Aj (A0 4) λw'=>A3 (Up H) w w'/\KO t H xb sb ab b aA A6 puts A8 true P w'):=by
 obtain⟨L,A,FT,d,I,h3,O,Y,h6,W⟩:=h;have key:Af f #[A5 sb] w (Aj (A0 4) λw'=>Aq w FT w' (λw' z=>SF w' sb ab b 0 1000 aA A6 true L A P z)):=by
  rcases hf with rfl|rfl|rfl
  ·exact WQ w d.Em
  ·exact U7 w d.Em d.lt
  ·exact A2E w d.Em d.lt
 refine(KO.ag d key I h3 O Y h6 W rfl).mono ?_;rintro e w'⟨rfl,-,E,k2⟩;exact⟨rfl,E,k2⟩
def KO.dd(h:KO t H xb sb ab b aA A6 puts A8 ro P w)(x:Int)(hx:0<=x/\x<=9223372036854775807):
 Calls Tryz.prog 27 #[.pointer (some ⟨sb,0,none⟩),.int .i64 x] w λe w'=>e=.returned (.int .i64 0)/\A3 (Up H) w w'/\∃L A FT,KW w' H xb ⟨.pointer (some ⟨b,0,none⟩),.pointer (some ⟨sb,0,none⟩),A6⟩ (KS sb ab b 1000 aA (FF A6 x) ro L A P) FT/\
  ∀W,CN W xb ⟨.pointer (some ⟨b,0,none⟩),.pointer (some ⟨sb,0,none⟩),FF A6 x⟩->A3 (One xb) w' W->KO t H xb sb ab b aA (FF A6 x) puts A8 ro P W:=by
 obtain⟨L,A,FT,h1,h2,h3,h4,h5,h6,h7⟩:=h;obtain⟨lv,F0,q,O⟩:=h1.Em;refine(WK w x q.Ag q.Ej hx J1 h7).mono ?_;rintro e w'⟨rfl,lv',Y,hS,hG⟩;obtain⟨c1,c2,I,d,k3⟩:=h1.cp (R':=KS sb ab b 1000 aA (FF A6 x) ro Y A P) (KS.Fh _ _ _ _ _ _ _ _ _ _) (q.dm O hS);have z:A6<=FF A6 x:=by
  obtain⟨x1,x2⟩:=h7;unfold FF;split<;>omega
 refine⟨rfl,c1,Y,A,I,d,λW hb hc=>⟨Y,A,I,⟨hb,d.Fh,d.Fh _ _ _ _ d.Em d.lt hc λk E e=>d.nw (by cases e;exact E),λk E=>Bq (d.lt k E) hc.Ao,d.nw,d.up,d.H0⟩,?_,h3.dd (λp hp=>(h2.1.2.2.1 p hp).2.1) z hG,λk E=>AR (hG.B5 E) (h4 k E),h5,h6,QH h7 hx.1 hx.2⟩⟩;obtain⟨⟨r1,r2,r3⟩,r4⟩:=h2;exact⟨⟨r1,r2.bc (Oy z),r3⟩,λhd=>(r4 hd).bc (Oy z)⟩
def KO.bl(h:KO t H xb sb ab b aA A6 puts A8 ro P w):∃Ft,Bk w b P Ft/\(∀k,Ft k->k<w.heap.size)/\(∀k,Ft k->H<=k)/\∀(d:DN) (w':World),d.AG=P.D.n.AG->(0<=d.Bv/\d.Bv<=9223372036854775807)->d.Bm=P.D.n.Bm->d.fulls=P.D.n.fulls->d.AF=P.D.n.AF->d.AY=P.D.n.AY->
 Eu w Ft w' b {P.D with n:=d} P.F->A3 (Up H) w w'/\KO t H xb sb ab b aA A6 puts A8 ro ⟨{P.D with n:=d},P.F⟩ w':=by
 obtain⟨L,A,FT,I,h2,h3,h4,Y,h6,h7⟩:=h;obtain⟨Ft,d1,d2,d3,d4⟩:=SF.b2 I.Em;refine⟨Ft,d1,d2,λk hk=>I.H0 k (d3 k hk),λd w' e1 e2 e3 e4 e5 e6 hA=>?_⟩;obtain⟨hc,z,q1,q2,q3⟩:=hA;obtain⟨E,r1,r2,r3⟩:=d4 Ft z w' ⟨{P.D with n:=d},P.F⟩ hc (λk _ W=>W) q1 q2 q3;obtain⟨c1,c2,O,k1,-⟩:=I.cp (KS.Fh sb ab b 1000 aA A6 ro L A ⟨{P.D with n:=d},P.F⟩) ⟨hc.aa λk _ W=>d3 k W,E,r1,r2,r3⟩;exact⟨c1,L,A,O,k1,h2.bl d e1 e2 e3 e4 e5,h3,h4,⟨e1.trans Y.1,by dsimp only;rw[e6];exact Y.2⟩,h6,h7⟩
def KC.bl(h:KC t H xb b sv A6 puts A8 aB P w):∃Ft,Bk w b P Ft/\(∀k,Ft k->k<w.heap.size)/\(∀k,Ft k->H<=k)/\∀(d:DN) (w':World),d.AG=P.D.n.AG->(0<=d.Bv/\d.Bv<=9223372036854775807)->d.Bm=P.D.n.Bm->d.fulls=P.D.n.fulls->d.AF=P.D.n.AF->d.AY=P.D.n.AY->
 Eu w Ft w' b {P.D with n:=d} P.F->A3 (Up H) w w'/\KC t H xb b sv A6 puts A8 aB ⟨{P.D with n:=d},P.F⟩ w':=by
 obtain⟨FT,z,h2,L,h4⟩:=h;refine⟨FT,z.Em,z.lt,z.H0,λd w' O e2 e3 e4 Y e6 hA=>?_⟩;obtain⟨hc,E,q1,q2,q3⟩:=hA;obtain⟨c1,c2,I,W,-⟩:=z.cp (R':=KD b ⟨{P.D with n:=d},P.F⟩) (KD.Fh _ _) ⟨hc,E,q1,q2,q3⟩;exact⟨c1,I,W,h2.bl d O e2 e3 e4 Y,⟨O.trans L.1,by dsimp only;rw[e6];exact L.2⟩,h4⟩
def FL(n:DN)(c:Int):DN:={n with BX:=if c>0 then wrap64 (n.AY+c) else 0}
def KO.BX(h:KO t H xb sb ab b aA A6 puts A8 ro P w)(c:Int):
 Af 35 #[A5 b,A0 c] w (Aj (.tuple #[]) λw'=>A3 (Up H) w w'/\KO t H xb sb ab b aA A6 puts A8 ro ⟨{P.D with n:=FL P.D.n c},P.F⟩ w'):=by
 obtain⟨L,A,FT,-,⟨⟨d,-⟩,-⟩,-⟩:=id h;obtain⟨Ft,d1,-,-,d4⟩:=h.bl;refine(Le d1 c).mono ?_;rintro e w'⟨rfl,z⟩;exact⟨rfl,d4 (FL P.D.n c) w' rfl d.CQ.Bv rfl rfl rfl rfl z⟩
def KC.BX(h:KC t H xb b sv A6 puts A8 aB P w)(c:Int):
 Af 35 #[A5 b,A0 c] w (Aj (.tuple #[]) λw'=>A3 (Up H) w w'/\KC t H xb b sv A6 puts A8 aB ⟨{P.D with n:=FL P.D.n c},P.F⟩ w'):=by
 obtain⟨FT,-,⟨d,-⟩,-⟩:=id h;obtain⟨Ft,d1,-,-,d4⟩:=h.bl;refine(Le d1 c).mono ?_;rintro e w'⟨rfl,z⟩;exact⟨rfl,d4 (FL P.D.n c) w' rfl d.CQ.Bv rfl rfl rfl rfl z⟩
def KC.BV(h:KC t H xb b sv A6 puts A8 aB P w)(c p:Int)(d:AE p):
 Af 78 #[A5 b,A0 c,A0 p] w (Aj (.tuple #[]) λw'=>A3 (Up H) w w'/\KC t H xb b sv A6 puts A8 aB ⟨{P.D with n:=Dy P.D.n c p},P.F⟩ w'):=by
 obtain⟨Ft,d1,-,-,d4⟩:=h.bl;refine(MA d1 c p).mono ?_;rintro e w'⟨rfl,z⟩;exact⟨rfl,d4 (Dy P.D.n c p) w' rfl (Oo d) rfl rfl rfl rfl z⟩
def KC.aT{w0:World}(h:KC t H xb b sv A6 puts A8 aB P w0)(aD:A3 (λ_=>False) w0 w)(ht:t<=200000)(d:Int)(L:Value)(z:List Int)(aE:AE d)(k1:Km w L z)(k2:∀x∈z,AE x)(k3:∀I n c x,n≠0->L=.slice I n c->I=some x->x.block<H\/w0.heap.size<=x.block):
 Calls Tryz.prog 32 #[.pointer (some ⟨b,0,none⟩),.int .i64 d,L] w λe w'=>e=.returned (.tuple #[])/\A3 (Up H) w w'/\∃P2,KC t H xb b sv A6 puts A8 true P2 w'/\Still P2/\P2.D.n.AF=false:=by
 obtain⟨FT,h0,h2,h3,h4⟩:=h;have h1:=h0.au aD;obtain⟨hp,O,hq,hl,aF⟩:=h2.cC;have E:=hp.CQ.B5
 refine(A2q h1.Em d L z k1 (λI m c x e0 e1 e2 hx=>by
  rcases k3 I m c x e0 e1 e2 with h5|h5
  ·have:=h1.H0 _ hx;omega
  ·have:=h0.lt _ hx;omega) (Xs hp ht) aE k2 (λf hf=>⟨(O.eD f hf).1,(O.eD f hf).2,by have:=E f hf;omega⟩)).mono ?_
 rintro e w'⟨rfl,hc,W,q3,q4,q5⟩;obtain⟨c1,c2⟩:=G8.aT hp O hq hl aF ht d z;obtain⟨x1,-,Y,x2,-⟩:=h1.cp (R':=KD b (P.aT d z)) (KD.Fh _ _) ⟨hc,W,q3,q4,q5⟩;exact⟨rfl,x1,P.aT d z,⟨Y,x2,c1,(h3.aT d z).1,h4⟩,(h3.aT d z).2,c2⟩
end
end
section
open Go.RowKit
attribute [local go_sem ↓] Go.wp_at_zero Go.wp_at_succ
section
variable {w:World} {t H xb b B N:Nat} {n:KN} {A6:Int} {P:PD} {Ft:Nat->Prop} {q:List Pu} {puts:List Pu} {A8:Nat} {aA:Bool} {sv:Value}
def A0s(b3:DU N)(hN:N<=200000)(w:World)(h:CN w xb n)(bV:n.dv=(A5 b))(aJ:n.MQ=A6)(hd:Bk w b P Ft)(hp:PB P t)(Y:DI (Cv t) P q A8 (Bc A6 1000))(hr:Reads (Cv t) P q (Bc A6 1000))(hq:∀p∈q,Bh p)(bQ:q.length<=t)(bM:A8<=q.length)(aI:P.D.n.AF=false)(ht:t+3<=200000)(bN:q.length+2<=N)(hE:Env B w)(hc:AE A6):
 Af 120 #[A5 xb] w (Aj (.tuple #[]) λw'=>A3 Ab w w'):=by
 have c0:=h.c0;rw[bV]at c0;have cA:=A1 (Ur hd (hp.dZ (by omega)));have H:=A1 h;have aV:=A1 hE
 have bE:Hid (∀(E:World) (I:Nat) (z:Nat->Prop),Bk E I P.b3 z->(∀k,z k->k<E.heap.size)->Env B E->Af 22 #[A5 I,.agg #[A0 1000,A0 7],A0 A6] E λe w'=>
  ∃ab O,e=.returned (.tuple #[A5 O,A0 0])/\E.heap.size<=O/\Aq E z w' (Live t q.length O ab I 1000 7 A6)):=λE I z g1 g2 g3=>by
  have bZ:PB P.b3 t:=hp.bl _ rfl ⟨by simp[Dy],by simp[Dy]⟩ rfl rfl;refine(SE (t:=t) (puts:=q) (A8:=A8) E z g1 g2 bZ ⟨Y.Dw,Y.Au,Y.Ce,Y.Cu⟩ (hr.ay λ_=>rfl) hq bQ bM aI (by omega) g3 J1 (by omega) hc).mono ?_;rintro e w'⟨A,ab,O,L,rfl,k1,-,k2,k3,k4,k5⟩;exact⟨ab,O,rfl,k1,k5.b0 λF k6=>⟨false,L,A,_,q,A8,k6,λ_=>⟨k2,k4,As _⟩⟩⟩
 have a6:Hid (∀(W:World) (O ab I t' M:Nat) (FT:Nat->Prop) (p:Pu),Bh p->t'+1<=200000->Live t' M O ab I 1000 7 A6 W FT->(∀k,FT k->k<W.heap.size)->Lets B W->(∀k,FT k->B<=k)->
  Af 23 #[A5 O,A0 p.1,A0 p.2.1,A0 p.2.2] W λe w'=>(∃c,e=.returned (A0 c))/\Aq W FT w' (Live (t'+1) (M+1) O ab I 1000 7 A6)):=λW O ab I t' M FT p g1 g2 g3 g4 g5 g6=>A0b W p g3 g4 g2 g1 g5 g6 J1 hc
 have b5:Bh ((0:Int),A6,(4626322:Int)):=⟨⟨by simp,by simp⟩,hc,(show AE 4626322 from ⟨by decide,by decide⟩)⟩;have a8:Bh ((1:Int),A6,(4626322:Int)):=⟨⟨by simp,by simp⟩,hc,(show AE 4626322 from ⟨by decide,by decide⟩)⟩;have b6:=A1 b5;have bR:=A1 a8;have bY:=A1 ht;have b7:=A1 bN;have bG:=A1 hN;have HZ:=A1 h.lt
 go_enter func120,ntmps120
 go_wp2_with (first
  | (go_at_call 47;refine cA.m ?_;rintro e w1⟨I,Ft2,rfl,bP,aQ,bJ⟩;have a9:=A1 bP;have aF:=A1 aQ;have aT:=A1 bJ)
  | (go_at_call 35;refine(Le a9.o 0).mono ?_;rintro e w2⟨rfl,aW,bA,aO,aU,aL⟩
     have bF:=A1 aO;have a7:Hid (∀k,bA k->w.heap.size<=k/\k<w2.heap.size):=λk d=>⟨(aL k d).elim (λh=>(aF.o k h).1) (λh=>AR aT.o.Ao h),aU k d⟩
     have aR:Hid (A3 Ab w w2):=aT.o.bj aW (λx hx=>(aF.o x hx).1)
     clear aW aO aU aL)
  | (go_at_call 78;refine(MA bF.o 0 0).mono ?_;rintro e E⟨rfl,aS,z,a4,a0,aZ⟩
     have bD:Hid (Bk E I P.b3 z):=a4;have aY:Hid (∀k,z k->w.heap.size<=k/\k<E.heap.size):=λk d=>⟨(aZ k d).elim (λh=>(a7.o k h).1) (λh=>AR aR.o.Ao h),a0 k d⟩
     have aB:Hid (A3 Ab w E):=aR.o.bj aS (λx hx=>(a7.o x hx).1);have d2:=(H.o.au aB.o).c2;rw[aJ]at d2
     clear aS a4 a0 aZ)
  | (go_at_call 22;refine(bE.o E I z bD.o (λk d=>(aY.o k d).2) (aV.o.aM aB.o)).mono ?_))
 rintro e W⟨ab,O,rfl,hsb,b0,a1,bH,a3,bI⟩;have aK:B<=w.heap.size:=aV.o.1.1;have a2:Hid (∀k,z k->w.heap.size<=k):=λk d=>(aY.o k d).1
 have aH:Hid (∀k,a1 k->w.heap.size<=k):=λk d=>(bI k d).elim (a2.o k) λh=>AR aB.o.Ao h
 have aE:Hid (A3 Ab w W):=aB.o.bj b0 a2.o;have e2:=(H.o.au aE.o).c2;rw[aJ]at e2;have bS:Hid (Env B W):=aV.o.aM aE.o;have b9:=A1 (a6.o W O ab I t q.length a1 _ b6.o (by have:=bY.o;omega) bH a3 bS.o.1 λk d=>AR aK (aH.o k d));go_wp2_with (fail);refine b9.m ?_;rintro e w5⟨⟨c1,rfl⟩,bL,a5,b4,aX,bB⟩;have aG:Hid (∀k,a5 k->w.heap.size<=k):=λk d=>(bB k d).elim (aH.o k) λh=>AR aE.o.Ao h
 have aD:Hid (A3 Ab w w5):=aE.o.bj bL aH.o;have bU:Hid (Env B w5):=aV.o.aM aD.o;have f2:=(H.o.au aD.o).c2;rw[aJ]at f2;have P2:=A1 (a6.o w5 O ab I (t+1) (q.length+1) a5 _ bR.o (by have:=bY.o;omega) b4 aX bU.o.1 λk d=>AR aK (aG.o k d));go_wp2_with (fail);refine P2.m ?_;rintro e w6⟨⟨c2,rfl⟩,bC,bO,b1,aP,bW⟩;have aM:Hid (∀k,bO k->w.heap.size<=k):=λk d=>(bW k d).elim (aG.o k) λh=>AR aD.o.Ao h
 have aN:Hid (A3 Ab w w6):=aD.o.bj bC aG.o;have bT:Hid (Env B w6):=aV.o.aM aN.o;have b8:=A1 (A0c b3 bG.o w6 b1 aP (by have:=bY.o;omega) (by have:=b7.o;omega) (by omega) bT.o.1 λk d=>AR aK (aM.o k d));go_wp2_with (fail);refine b8.m ?_;rintro e w7⟨⟨c3,rfl⟩,bK,-⟩;have bX:Hid (A3 Ab w w7):=aN.o.bj bK aM.o;go_wp2;go_end0;exact⟨rfl,bX.o⟩
def PQ(t H xb:Nat)(Al A6:Int)(puts:List Pu)(A8:Nat)(aA:Bool)(P:PD)(w:World):Prop:=
 ∃h ab d m P2,KO t H xb h ab d (1+D6 Al 300) A6 (puts.take m) A8 false P2 w/\A8<=m/\m<=puts.length/\P2.D.n.AF=false/\(P.D.n.AF=false->P2=P/\(aA=false->m=puts.length))/\(P.D.n.AF=true->Still P2)
def KC.fI(h:KC t H xb b sv A6 puts A8 aA P w)(I:P.D.n.AF=false):∃m FT,KW w H xb ⟨.pointer (some ⟨b,0,none⟩),sv,A6⟩ (KD b P) FT/\PB P t/\DI (Cv t) P (puts.take m) A8 (Bc A6 1000)/\Reads (Cv t) P (puts.take m) (Bc A6 1000)/\(∀p∈puts.take m,Bh p)/\(puts.take m).length<=t/\A8<=(puts.take m).length/\
 A8<=m/\m<=puts.length/\(aA=false->m=puts.length)/\Eh P t/\AE A6:=by
 obtain⟨FT,Y,⟨O,h3,W,h5,h6,d⟩,h8,h9⟩:=h;rcases d with d|⟨z,g1,E,g3,g4⟩
 ·rw[I]at d;cases d
 ·obtain⟨g5,L⟩:=g4 _ z (HC _) (As _) E (Cb.I _ _);have hlen:(puts.take z).length=z:=by rw[BW];omega
  exact⟨z,FT,Y,O,g5,L,λp hp=>W p (HQ hp),by omega,by omega,g1,E,g3,h8,h9⟩
end
end
def Fo(room:Int):PD:=⟨⟨[],[],[],K1 room⟩,λ_=>([],0)⟩
section
variable {room:Int} {o:Int}
def TX:CX (Cv 0) (vw (Fo room).F []) ⟨1,[]⟩ [] [] none:=by
 have d:∀nm,vw (Fo room).F [] nm=none:=λnm=>rfl;refine⟨⟨⟨by decide,by simp,by decide⟩,by simp[Cv],by simp⟩,.inl ⟨rfl,rfl⟩,rfl,by simp,by simp,trivial,?_,by simp,?_,?_,?_⟩
 ·intro n l h;cases h
 ·intro n _ _ h;exact absurd (d _) h
 ·intro nm h;exact absurd (d nm) h
 ·intro nm c h;rw[d]at h;cases h
def TY(f:Nat):¬(Fo room).D.Au f:=λh=>by
 simp[DS.Au,Fo,Dg]at h
def A1F(hr : -4611686018427387904<=room/\room<=9223372036854775807):PB (Fo room) 0:=by
 refine⟨⟨Cq _,Cq _,?_,Cq _,λf d=>absurd d (TY f),hr,⟨HC _,by simp[Fo,K1]⟩⟩,λf d=>absurd d (TY f),⟨HC _,HC _⟩,⟨HC _,HC _⟩⟩;intro l h;cases h
def TZ:DI (Cv 0) (Fo room) [] 0 o:=by
 have d:∀s∈Bx (Fo room),s=[]:=λs d=>by simpa[Bx,Fo] using d
 refine⟨λs h=>?_,λs h=>?_,λs h=>?_,by simp[Bx,Fo]⟩
 ·rw[d s h];refine⟨⟨1,[]⟩,[],[],none,0,TX,As _,Cb.I _ _,?_,λ_=>As _⟩;intro n l e;cases e
 ·rw[d s h];exact List.Pairwise.nil
 ·rw[d s h];exact List.Pairwise.nil
def A1E:Reads (Cv 0) (Fo room) [] o:=Whole.bw (P:=Fo room) ⟨⟨1,[]⟩,[],[],none,TX,Cq _,Cb.I _ _⟩
def A1G(hr : -4611686018427387904<=room/\room<=9223372036854775807):G8 0 (Fo room) [] 0 o false:=by
 refine⟨A1F hr,TZ,?_,As _,As _,.inr ⟨0,As _,As _,λ_=>rfl,?_⟩⟩
 ·intro p d;cases d
 ·intro o' n _ _ h _;obtain rfl:n=0:=by simpa using h
  exact⟨TZ,A1E⟩
end
section
open Go.RowKit
attribute [local go_sem ↓] Go.wp_at_zero Go.wp_at_succ
section
variable {w:World} {t H xb b B N:Nat} {A6:Int} {P:PD} {puts:List Pu} {A8:Nat} {aA:Bool} {sv:Value}
def Vc(t H xb b B:Nat)(h A6:Int)(puts:List Pu)(A8:Nat)(P:PD)(m:Nat)(w:World):Prop:=
 (∃sv,CN w xb ⟨.pointer (some ⟨b,0,none⟩),sv,A6⟩)/\H<=xb/\Env B w/\(Calls Tryz.prog 120 #[.pointer (some ⟨xb,0,none⟩)] w λe w'=>e=.returned (.tuple #[])/\A3 (λ_=>False) w w')/\
 (∀O,A3 (λ_=>False) w O->Calls Tryz.prog 47 #[.pointer (some ⟨b,0,none⟩)] O λe w'=>∃z d,e=.returned (.pointer (some ⟨z,0,none⟩))/\Bk w' z P d/\(∀k,d k->O.heap.size<=k/\k<w'.heap.size)/\A3 (λ_=>False) O w')/\
 (∀E z d,Bk E z P d->(∀k,d k->k<E.heap.size)->Env B E->Calls Tryz.prog 22 #[.pointer (some ⟨z,0,none⟩),.agg #[.int .i64 1000,.int .i64 h],.int .i64 A6] E λe w'=>
  ∃ab I,e=.returned (.tuple #[.pointer (some ⟨I,0,none⟩),.int .i64 0])/\∃L A,Aq E d w' (KS I ab z 1000 h A6 false L A P)/\
   ∀W FT,KW W H xb ⟨.pointer (some ⟨z,0,none⟩),.pointer (some ⟨I,0,none⟩),A6⟩ (KS I ab z 1000 h A6 false L A P) FT->KO t H xb I ab z h A6 (puts.take m) A8 false P W)
def KC.ff(Y:DU N)(hN:N<=200000)(h:KC t H xb b sv A6 puts A8 aA P w)(E:P.D.n.AF=false)(Al:Int)(ht:t+3<=200000)(htN:t+2<=N)(hE:Env B w):
 ∃m,Vc t H xb b B (1+D6 Al 300) A6 puts A8 P m w/\A8<=m/\m<=puts.length/\(aA=false->m=puts.length):=by
 obtain⟨m,FT,z,I,h3,h4,h5,h6,h7,h8,h9,W,aB,d⟩:=h.fI E;have hpk:=HI Al 300 (by decide);refine⟨m,⟨⟨sv,z.Ag⟩,z.up,hE,?_,λw2 hc=>?_,λw3 b2 aD g1 g2 g3=>?_⟩,h8,h9,W⟩
 ·exact A0s Y hN w z.Ag rfl rfl z.Em I h3 h4 h5 h6 h7 E ht (by omega) hE d
 ·exact Ur (B3.ay z.Em z.lt hc) (I.dZ (by omega))
 ·refine(SE (t:=t) w3 aD g1 g2 I h3 h4 h5 h6 h7 E (by omega) g3 J1 (by omega) d).mono ?_;rintro e w'⟨A,ab,sb,L,rfl,-,-,k2,k3,k4,k5⟩;exact⟨ab,sb,rfl,L,A,k5,λw4 O hk=>⟨L,A,O,hk,k2.ec,k3,k4,aB,by omega,d⟩⟩
def A0q{w':World}{n':KN}{R':Kind}{d:Nat->Prop}(O:CN w' xb n')(h:H<=xb)(W:Lp R')(I:R' w' d)(z:∀k,d k->k<w'.heap.size)(E:∀k,d k->xb<k):KW w' H xb n' R' d:=
 ⟨O,W,I,z,λY=>by have:=E xb Y;omega,h,λk L=>by have:=E k L;omega⟩
def Tz(bQ:DU N)(hN:N<=200000)(w:World)(Al:Int)(aE:AE Al)(h:KC t H xb b sv A6 puts A8 aA P w)(ht:t+3<=200000)(aY:t+2<=N)(hE:Env B w)(aX:B<=H):
 Af 79 #[A5 xb,A0 Al] w (Aj (.bool true) λw'=>A3 (Up H) w w'/\PQ t H xb Al A6 puts A8 aA P w'):=by
 have bE:=A1 h.AF;have b5:=A1 (λw'=>JL w' Al 300 aE (by decide));have hpk:=HI Al 300 (by decide);have ew:IntKind.i64.wrap (1+D6 Al 300)=1+D6 Al 300:=by simp[IntKind.wrap,IntKind.bits,IntKind.signed];omega
 have c0:=h.Ag.c0;have aQ:=A1 aE;have hA:A3 Ab w (w.aC #[A0 Al,A0 Al,A0 Al] 3):=(A3.I _ w).ai _;have hI:Km (w.aC #[A0 Al,A0 Al,A0 Al] 3) (AM w.heap.size 3 3) [Al,Al,Al]:=by
  have bI:=BO w (.cells #[A0 Al,A0 Al,A0 Al] 3);refine⟨_,_,rfl,by simp,λj hj=>⟨w.heap.size,0,rfl,by simp,?_⟩⟩;simp only[World.cell?,bI]
  match j,hj with
  | 0,_=>rfl
  | 1,_=>rfl
  | 2,_=>rfl
 have CR:=A1 (h.aT hA (by omega) Al _ _ aE hI (by simp;exact aE) (λad n c x _ e1 e2=>by cases e1;cases e2;exact .inr (As _)));have aH:Hid (∀w1 P2 W,KC t H xb b sv A6 puts A8 W P2 w1->P2.D.n.AF=false->Env B w1->∃m,Vc t H xb b B (1+D6 Al 300) A6 puts A8 P2 m w1/\A8<=m/\m<=puts.length/\(W=false->m=puts.length)):=λw1 P2 W E hd bH=>E.ff bQ hN hd Al ht aY bH;have bX:=A1 hE;have bS:=A1 h;have aZ:=A1 aX;clear h hE aE ht aY aX hA hI;generalize aG:D6 Al 300=pk at *;rcases Bool.eq_false_or_eq_true P.D.n.AF with I|I;rotate_left
 focus
  obtain⟨m,hr,m1,m2,m3⟩:=aH.o w P aA bS.o I bX.o;have a7:=A1 hr;have a0:Hid (∀w',(∃O ab d,KO t H xb O ab d (1+pk) A6 (puts.take m) A8 false P w')->PQ t H xb Al A6 puts A8 aA P w'):=λw' ⟨O,ab,d,E⟩=>⟨O,ab,d,m,P,by rw[aG];exact E,m1,m2,I,λ_=>⟨rfl,m3⟩,λe=>by rw[I]at e;cases e⟩
  rw[I]at bE;have bO:Hid (∀w' d z,Bk w' d P z->Af 50 #[A5 d] w' λe aL=>e=.returned (A0 P.D.n.Bm)/\w'=aL):=λw' d z hd=>RM hd;have bC:Hid (A3 (Up H) w w):=A3.I _ _;have b0:=A1 a7.o.2.2.1;clear hr m1 m2 m3 aH CR aG bS aQ
  go_enter func79,ntmps79
  go_wp2_with (go_at_call 36;refine bE.m ?_;rintro e w'⟨rfl,rfl⟩)
 rotate_left
 focus
  rw[I]at bE
  go_enter func79,ntmps79
  go_wp2_with (go_at_call 36;refine bE.m ?_;rintro e w'⟨rfl,rfl⟩);refine CR.m ?_;rintro e w1⟨rfl,k1,P2,aU,aR,aK⟩;have bC:Hid (A3 (Up H) w w1):=((A3.I (Up H) w).ai _).tr k1;obtain⟨m,hr,m1,m2,m3⟩:=aH.o w1 P2 true aU aK (bX.o.aj bC.o λk E=>AR aZ.o E);have a7:=A1 hr;have a0:Hid (∀w',(∃O ab d,KO t H xb O ab d (1+pk) A6 (puts.take m) A8 false P2 w')->PQ t H xb Al A6 puts A8 aA P w'):=λw' ⟨O,ab,d,E⟩=>⟨O,ab,d,m,P2,by rw[aG];exact E,m1,m2,aK,λe=>(by rw[I]at e;cases e),λ_=>aR⟩
  have bO:Hid (∀w' d z,Bk w' d P2 z->Af 50 #[A5 d] w' λe aL=>e=.returned (A0 P2.D.n.Bm)/\w'=aL):=λw' d z hd=>RM hd;have b0:=A1 a7.o.2.2.1;clear hr m1 m2 m3 aH CR aG bS aQ k1 aU aR aK;go_wp2_with (fail)
 all_goals
  obtain⟨⟨sv1,a9⟩,a6,-,a5,aO,aP⟩:=a7.o;have a4:=A1 a9;have aB:=A1 a6;have bY:=A1 aO;have aS:=A1 aP;clear a7 a9 a6 aO aP;refine a5.mono ?_;rintro e w2⟨rfl,k2⟩;have bN:=A1 (a4.o.au k2);have a1:=A1 (bY.o w2 k2);have b3:Hid (Env B w2):=b0.o.aM k2;have b4:Hid (A3 (Up H) w w2):=bC.o.Aw k2 λ_ h _=>h.elim;have z0:=bN.o.c0;clear a5 k2 bY bC a4;go_wp2_with (fail);refine a1.m ?_;rintro e w3⟨d,z,rfl,aN,aD,k3⟩;have bD:=bN.o.au k3;have f3:=bD.fz 0;have y0:=bD.c0;have Y:A3 (One xb) w3 (w3.setCell (Ac xb 0) (A5 d)):=(A3.I (One xb) w3).aq (b:=xb) rfl 0 _;have bB:=A1 (bD.s0 (A5 d));have aT:=bN.o.lt;have bG:Hid (Bk (w3.setCell (Ac xb 0) (A5 d)) d _ z):=B3.aP aN λk E=>Y.Ap k (aD k E).2 (λe=>by cases e;have:=(aD _ E).1;omega);have aM:Hid (∀k,z k->w2.heap.size<=k/\k<(w3.setCell (Ac xb 0) (A5 d)).heap.size):=λk E=>⟨(aD k E).1,Bq (aD k E).2 Y.Ao⟩
  have bU:Hid (A3 (Up H) w (w3.setCell (Ac xb 0) (A5 d))):=(b4.o.Aw k3 λ_ h _=>h.elim).Aw Y λ_ e _=>by cases e;exact aB.o
  have bT:Hid (Env B (w3.setCell (Ac xb 0) (A5 d))):=(b3.o.aM k3).aj Y λk e=>by cases e;exact AR aZ.o aB.o
  have bA:=A1 aT;have b1:Hid (w2.heap.size<=(w3.setCell (Ac xb 0) (A5 d)).heap.size):=AR k3.Ao Y.Ao;clear aN aD k3 bD Y aT;go_wp2_with (fail);generalize w3.setCell (Ac xb 0) (A5 d)=w4 at bB bG aM bU bT b1 ⊢;have bJ:=A1 (bO.o w4 d z bG.o);refine bJ.m ?_;rintro e w'⟨rfl,rfl⟩;have q0:=bB.o.c0;have q2:=bB.o.c2;have a2:=A1 (aS.o w4.drew d z (B3.af bG.o) (λk E=>(aM.o k E).2) (bT.o.aM (A3.I Ab w4).af));clear aS a1;go_wp2;refine BR (λw'=>A7 w' xb 0 (A5 d)/\A7 w' xb 2 (A0 A6)) 17
   (Br [0,1,2,3,4,8,9,10,11,5,6,7,12,13,14,15,16] [5,12]) ⟨q0,q2⟩ ?_
  iterate 9 (refine Bf ?_;(try simp only[An]))
  refine Bn λK hK=>?_;go_simp;refine(b5.o _).mono ?_;rintro e w'⟨rfl,rfl⟩;refine hK _ _ ⟨q0,q2⟩ (λhS=>?_)
  (try simp only[An])
  iterate 2 (refine Bf ?_;(try simp only[An]))
  refine Bn λK hK=>?_;go_simp;refine a2.m ?_;rintro e w5⟨ab,O,rfl,L,A,hI,a8⟩;obtain⟨aF,a3,aV,aJ,aW⟩:=hI;have nx:¬z xb:=λhx=>by have:=(aM.o _ hx).1;have:=bA.o;omega
  refine hK _ _ ⟨K4 aF q0 nx,K4 aF q2 nx⟩ (λhS=>?_);have bR:=A1 ((bB.o.au (A3.I Ab w4).af).Ak aF nx);have bW:Hid (∀k,a3 k->xb<k):=λk E=>(aW k E).elim (λh=>Bq bA.o (aM.o k h).1) λh=>Bq bA.o (AR b1.o h)
  have b6:Hid (A3 (Up H) w w5):=(bU.o.af).Aw aF λx hx _=>AR (AR aB.o (EL bA.o)) (aM.o x hx).1;have bV:=A1 aV;have bL:=A1 aJ;have bK:=A1 a8;clear a8 aF aV aJ aW nx a2
  (try simp only[An])
  iterate 4 (refine Bf ?_;(try simp only[An]))
  refine Bl ?_;simp only[BK,BJ];have y1:=bR.o.c1;have f1:=bR.o.fz 1;have aI:A3 (One xb) w5 (w5.setCell (Ac xb 1) (A5 O)):=(A3.I (One xb) w5).aq (b:=xb) rfl 1 _;have bM:Hid (KW (w5.setCell (Ac xb 1) (A5 O)) H xb ⟨A5 d,A5 O,A6⟩ (KS O ab d 1000 (1+pk) A6 false L A _) a3):=
   A0q (bR.o.s1 _) aB.o (KS.Fh _ _ _ _ _ _ _ _ _ _) (KS.Fh _ _ _ _ _ _ _ _ _ _ _ _ _ _ bV.o bL.o aI λk E e=>by cases e;have:=bW.o _ E;omega) (λk E=>Bq (bL.o k E) aI.Ao) bW.o
  have bZ:Hid (A3 (Up H) w (w5.setCell (Ac xb 1) (A5 O))):=b6.o.Aw aI λ_ e _=>by cases e;exact aB.o
  clear aI bV bL;go_wp2_with (fail);generalize w5.setCell (Ac xb 1) (A5 O)=w6 at bM bZ ⊢;obtain⟨bP,bF,-⟩:=SF.dk bM.o.Em;refine(bO.o w6 d bP bF).mono ?_;rintro e w'⟨rfl,rfl⟩;go_wp2;go_ret;exact⟨rfl,bZ.o,a0.o _ ⟨O,ab,d,bK.o _ _ bM.o⟩⟩
end
section
variable {w:World} {t H xb b B N:Nat} {A6:Int} {P:PD} {puts:List Pu} {A8:Nat} {aA:Bool} {sv:Value}
def Std(t H xb:Nat)(Al A6:Int)(puts:List Pu)(A8:Nat)(aA:Bool)(P:PD)(w:World):Prop:=
 ∃h ab d m P2,KO t H xb h ab d (1+D6 Al 300) A6 (puts.take m) A8 false P2 w/\A8<=m/\m<=puts.length/\P2.D.n.AF=false/\Still P2/\(P.D.n.AF=false->P2.D.n.Bm=P.D.n.Bm/\(aA=false->m=puts.length))
def Mp(aB:DU N)(hN:N<=200000)(w:World)(Al:Int)(E:AE Al)(h:KC t H xb b sv A6 puts A8 aA P w)(ht:t+3<=200000)(W:t+2<=N)(hE:Env B w)(L:B<=H):
 Af 33 #[A5 xb,A0 Al] w (Aj (.bool true) λw'=>A3 (Up H) w w'/\Std t H xb Al A6 puts A8 aA P w'):=by
 have aH:=A1 (h.BX 0);have c0:=h.Ag.c0;have aG:Hid (∀d,KC t H xb b sv A6 puts A8 aA ⟨{P.D with n:=FL P.D.n 0},P.F⟩ d->Af 78 #[A5 b,A0 0,A0 0] d (Aj (.tuple #[]) λw'=>A3 (Up H) d w'/\KC t H xb b sv A6 puts A8 aA ⟨{P.D with n:=Dy (FL P.D.n 0) 0 0},P.F⟩ w')):=λd z=>z.BV 0 0 ⟨by decide,by decide⟩;have Y:Hid (∀d,KC t H xb b sv A6 puts A8 aA ⟨{P.D with n:=Dy (FL P.D.n 0) 0 0},P.F⟩ d->A3 (Up H) w d->Af 79 #[A5 xb,A0 Al] d (Aj (.bool true) λw'=>A3 (Up H) d w'/\(∃sb I,CN w' xb ⟨A5 I,A5 sb,A6⟩)/\Std t H xb Al A6 puts A8 aA P w')):=λd z hc=>by
  refine(Tz aB hN d Al E z ht W (hE.aj hc λk hk=>AR L hk) L).mono ?_;rintro e w'⟨rfl,k1,sb,ab,I,m,P2,O,k3,k4,k5,k6,k7⟩;refine⟨rfl,k1,⟨sb,I,O.Ag⟩,sb,ab,I,m,P2,O,k3,k4,k5,?_,λhd=>?_⟩
  ·cases hd:P.D.n.AF with
   | false=>rw[(k6 hd).1];exact⟨by simp[Dy,FL],by simp[Dy]⟩
   | true=>exact k7 hd
  ·obtain⟨e1,e2⟩:=k6 hd;exact⟨by rw[e1];rfl,e2⟩
 clear hE E ht W h
 go_enter func33,ntmps33
 go_wp2_with (fail);refine aH.m ?_;rintro e d⟨rfl,k1,z⟩;have z0:=z.Ag.c0;have aJ:=A1 k1;have aD:=A1 (aG.o d z);clear aH aG z k1;go_wp2_with (fail);refine aD.m ?_;rintro e w2⟨rfl,O,h2⟩;have aE:Hid (A3 (Up H) w w2):=aJ.o.tr O;have aF:=A1 (Y.o w2 h2 aE.o);clear Y h2 O;go_wp2_with (fail);refine aF.m ?_;rintro e w3⟨rfl,k3,⟨sb,I,hb⟩,h3⟩;have y1:=hb.c1;have aI:=A1 h3;have aK:Hid (A3 (Up H) w w3):=aE.o.tr k3;clear hb h3 k3 aF;go_wp2;go_ret;exact⟨rfl,aK.o,aI.o⟩
def KM(a n:Int)(E:AE a)(h:0<n/\n<=9223372036854775806):(∀w',Af 20 #[A0 a,A0 n] w' λe d=>e=.returned (A0 (D6 a n))/\w'=d)/\(0<=D6 a n/\D6 a n<n)/\IntKind.i64.wrap (1+D6 a n)=1+D6 a n:=by
 have z:=HI a n h.1;exact⟨λw'=>JL w' a n E ⟨h.1,by omega⟩,z,by simp[IntKind.wrap,IntKind.bits,IntKind.signed];omega⟩
def Mde(A6:Int)(w:World)(xb:Nat)(w':World):Prop:=A3 (λ_=>False) w w'/\∃d ab b P,KO 0 w.heap.size xb d ab b (1+D6 9 300) A6 [] 0 false P w'/\P.D.n.AF=false/\Still P/\P.D.n.Bm=0
def TA(aE:DU N)(hN:10<=N/\N<=200000)(w:World)(A6:Int)(hc:AE A6)(hE:Env B w):
 Af 34 #[A0 A6] w λe w'=>∃xb,e=.returned (A5 xb)/\Mde A6 w xb w':=by
 have aO:=A1 (ZD (F:=λ_=>([],0)) 1152921504606846976 w);have aP:=A1 hc;have HE:=A1 hE
 have ST:Hid (∀d xb b,KC 0 w.heap.size xb b (.pointer none) A6 [] 0 false (Fo 1152921504606846976) d->A3 Ab w d->Af 33 #[A5 xb,A0 9] d (Aj (.bool true) λw'=>A3 Ab w w'/\
  ∃L ab b2 P,KO 0 w.heap.size xb L ab b2 (1+D6 9 300) A6 [] 0 false P w'/\P.D.n.AF=false/\Still P/\P.D.n.Bm=0)):=λd xb b h1 O=>by
  refine(Mp (B:=B) aE hN.2 d 9 ⟨by decide,by decide⟩ h1 (by omega) (by omega) (hE.aM O) hE.1.1).mono ?_;rintro e w'⟨rfl,k2,L,ab,b2,m,P2,q1,-,-,q4,q5,q6⟩;rw[List.take_nil]at q1;exact⟨rfl,O.bj k2 λ_ h=>h,L,ab,b2,P2,q1,q4,q5,(q6 rfl).1⟩
 clear hE
 go_enter func34,ntmps34
 go_wp2_with (fail);refine aO.m ?_;rintro e d⟨rfl,W,O,hz⟩;have hA:=(A3.I Ab d).ai (.cells #[A5 w.heap.size,.pointer none,A0 A6] 60);have hK:Hid (KC 0 w.heap.size d.heap.size w.heap.size (.pointer none) A6 [] 0 false (Fo 1152921504606846976) (d.alloc (.cells #[A5 w.heap.size,.pointer none,A0 A6] 60))):=
  ⟨One w.heap.size,⟨BO d _,KD.Fh _ _,W.ay (λk Y=>by cases Y;omega) hA,λk Y=>by cases Y;have:=hA.Ao;omega,λe=>by unfold One at e;omega,by omega,λk Y=>by cases Y;exact As _⟩,A1G (by omega),⟨rfl,by simp[Fo,K1],by simp[Fo,K1]⟩,aP.o⟩
 have aF:Hid (A3 Ab w (d.alloc (.cells #[A5 w.heap.size,.pointer none,A0 A6] 60))):=O.tr hA;have aK:=A1 (ST.o _ _ _ hK.o aF.o);clear ST W O hA hz;go_wp2_with (fail);refine aK.m ?_;rintro e w2⟨rfl,k2,L,ab,b2,P,h2,W,hs,hr⟩;have y1:=h2.Ag.c1;have aJ:=A1 h2;have aR:=A1 (And.intro W (And.intro hs hr));have aI:=A1 h2.eS;have aG:=A1 k2;clear h2 W hs hr k2 aK hK aF;go_wp2_with (fail);refine aI.m ?_;rintro e z⟨rfl,k3⟩;have aQ:Hid (A3 Ab w z):=aG.o.tr k3;have aL:=A1 (aJ.o.au k3);have E:=(A3.I Ab z).ai (.cells #[.bool false,A0 A6] 74);have I:=BO z (.cells #[.bool false,A0 A6] 74);have aB:=A1 (aL.o.au E);have aH:Hid (A3 Ab w (z.alloc (.cells #[.bool false,A0 A6] 74))):=aQ.o.tr E;have z1:=aB.o.Ag.c1;have x0:A7 (z.alloc (.cells #[.bool false,A0 A6] 74)) z.heap.size 0 (.bool false):=Gn I;have x1:A7 (z.alloc (.cells #[.bool false,A0 A6] 74)) z.heap.size 1 (A0 A6):=Gn I;have aD:Hid (Af 37 #[A5 L,A0 0,A0 (-9223372036854775808),A0 9223372036854775807] (z.alloc (.cells #[.bool false,A0 A6] 74)) λe w'=>∃x,e=.returned (.tuple #[x,A0 0])/\Du w' x []/\A3 Ab (z.alloc (.cells #[.bool false,A0 A6] 74)) w'):=aB.o.b6 0 (by decide) _ _;clear E I k3 aI aJ aG;go_wp2_with (fail);generalize z.alloc (.cells #[.bool false,A0 A6] 74)=w4 at aB aH x0 x1 aD ⊢;refine aD.m ?_;rintro e w5⟨x,rfl,hx,k6⟩;have x0':=k6.ao x0;have x1':=k6.ao x1;obtain⟨ad,cap,rfl,-⟩:=B9 hx;have aM:=A1 (aB.o.au k6);have aN:Hid (A3 Ab w w5):=aH.o.tr k6;clear hx k6 aD;go_wp2;go_ret;exact⟨d.heap.size,rfl,aN.o,L,ab,b2,P,aM.o,aR.o⟩
end
end
section
open Go.RowKit
def Mb(l:List Pu)(p:Pu)(k a b Ad A6:Int):refQ (l++[p]) k a b Ad A6=E0 k a b Ad A6 (refQ l k a b Ad A6) p:=by unfold refQ;rw[Kj];rfl
def Og{k a b Ad A6:Int}{p:Pu}:FV k a b Ad A6 p=true↔((p.1=k/\a<=p.2.1)/\p.2.1<=b)/\FM p.2.1 Ad A6=true:=by
 unfold FV;simp only[FE,Dn]
def Md{k a b Ad A6:Int}{l:List Pt}{p:Pu}(h:p.1≠k\/p.2.1<a\/b<p.2.1):E0 k a b Ad A6 l p=l:=by
 unfold E0;rw[Ae];intro e;have:=Og.1 e;omega
def S0{k a b Ad A6:Int}{l:List Pt}{p:Pu}(h:p.1=k)(z:a<=p.2.1)(d:p.2.1<=b)(E:FM p.2.1 Ad A6=true):E0 k a b Ad A6 l p=CA l p.2.1 p.2.2:=by
 unfold E0;rw[Ai (Og.2 ⟨⟨⟨h,z⟩,d⟩,E⟩)]
def TT(t v:Int):∀l:List Pt,(∀x∈l,x.1<t)->CA l t v=l++[(t,v)]
 | [],_=>rfl
 | (a,b):: r,h=>by
  have d:=h (a,b) (BC ..);unfold CA;rw[Ai d,TT t v r λx z=>h x (Bw _ z)];rfl
def RQ{k a b Ad A6:Int}(r:List Pu)(h:∀p∈r,p.1≠k)(l:List Pu):refQ (l++r) k a b Ad A6=refQ l k a b Ad A6:=by
 unfold refQ;rw[Kj];generalize l.foldl (E0 k a b Ad A6) []=acc
 induction r generalizing acc with
 | nil=>rfl
 | cons p r ih=>
  simp only[LG];rw[Md (.inl (h p (BC ..)))];exact ih (λq d=>h q (Bw _ d)) acc
def Yw(l:List Pu)(k t Ad A6:Int):refQ l k t t Ad A6=[]\/∃v,refQ l k t t Ad A6=[(t,v)]:=by
 unfold refQ;have key:∀(l:List Pu) (d:List Pt),(d=[]\/∃v,d=[(t,v)])->(l.foldl (E0 k t t Ad A6) d=[]\/∃v,l.foldl (E0 k t t Ad A6) d=[(t,v)]):=by
  intro l
  induction l with
  | nil=>intro d h;exact h
  | cons p r ih=>
   intro d h;simp only[LG];refine ih _ ?_;unfold E0;split
   ·rename_i z;obtain⟨⟨⟨-,h1⟩,h2⟩,-⟩:=Og.1 z;(obtain rfl:p.2.1=t:=by omega);right;rcases h with rfl|⟨v,rfl⟩
    ·exact⟨p.2.2,rfl⟩
    ·refine⟨p.2.2,?_⟩;unfold CA;rw[Ae (by omega),Ai rfl]
   ·exact h
 exact key l [] (.inl rfl)
def Of{k t v Ad A6:Int}(l:List Pu)(h:FM t Ad A6=true):refQ (l++[(k,t,v)]) k t t Ad A6=[(t,v)]:=by
 rw[Mb,S0 (k:=k) (p:=(k,t,v)) rfl (by simp) (by simp) h];rcases Yw l k t Ad A6 with e|⟨x,e⟩
 ·rw[e];rfl
 ·rw[e];unfold CA;rw[Ae (by dsimp only;omega),Ai rfl]
def Yv{k t u v Ad A6:Int}(l:List Pu)(h:u≠t):refQ (l++[(k,u,v)]) k t t Ad A6=refQ l k t t Ad A6:=by
 rw[Mb,Md];right;dsimp only;omega
def A0Z{now v v2 Ad:Int}(l r:List Pu)(z:∀p∈r,p.1=3)(H:FM now Ad now=true)(E:FM (now+5) Ad now=true):
 refQ (((l++[(2,now,v)])++[(2,now+5,v)])++[(2,now,v2)]++r) 2 now now Ad now=[(now,v2)]/\refQ (((l++[(2,now,v)])++[(2,now+5,v)])++[(2,now,v2)]++r) 2 (now+5) (now+5) Ad now=[(now+5,v)]:=by
 have d:∀p∈r,p.1≠2:=λp h=>by rw[z p h];decide
 rw[RQ r d,RQ r d];refine⟨Of _ H,?_⟩;rw[Yv _ (by omega)];exact Of _ E
def GN(f:Nat->Pt)(n:Nat):List Pt:=(List.range n).map f
def XP(f:Nat->Pt)(n:Nat):GN f (n+1)=GN f n++[f n]:=by unfold GN;rw[List.range_succ,Eg];rfl
def XR(f:Nat->Pt)(n:Nat):(GN f n).length=n:=by unfold GN;simp
def XQ{f:Nat->Pt}{n:Nat}(h:∀i,i<n->(f i).1<(f n).1):∀x∈GN f n,x.1<(f n).1:=λx d=>by
 unfold GN at d;obtain⟨i,z,rfl⟩:=Cr.1 d;exact h i (Kg.1 z)
def Ed(f:Nat->Pu)(n:Nat):List Pu:=(List.range n).map f
def O3(f:Nat->Pu)(n:Nat):Ed f (n+1)=Ed f n++[f n]:=by unfold Ed;rw[List.range_succ,Eg];rfl
def KF(f:Nat->Pu)(n:Nat):(Ed f n).length=n:=by unfold Ed;simp
def Rn(f:Nat->Pu){n m:Nat}(h:m<=n):(Ed f n).take m=Ed f m:=by
 unfold Ed;rw[<-List.map_take,List.take_range,Lv h]
def D8(c:Int)(i:Nat):Pu:=if i % 2=0 then (0,5,((i/2+1:Nat):Int)) else (1,((i/2+1:Nat):Int),c)
def Qt(c:Int):∀n:Nat,n<=1000->refQ (Ed (D8 c) n) 1 (-9223372036854775808) 9223372036854775807 1000 0=GN (λi=>(((i+1:Nat):Int),c)) (n/2)
 | 0,_=>rfl
 | n+1,h=>by
  rw[O3,Mb,Qt c n (by omega)];by_cases e:n % 2=0
  ·(have d:(n+1)/2=n/2:=by omega);rw[d,Md (.inl (by unfold D8;rw[Ai e];simp))]
  ·(have d:(n+1)/2=n/2+1:=by omega);(have z:D8 c n=(1,((n/2+1:Nat):Int),c):=by unfold D8;rw[Ae e]);rw[d,XP,z,S0 (k:=1) (p:=(1,((n/2+1:Nat):Int),c)) rfl (by dsimp only;omega) (by dsimp only;omega) (by simp only[FM];simp;omega)];exact TT _ _ _ (XQ (f:=λi=>(((i+1:Nat):Int),c)) λi hi=>by dsimp only;omega)
def NB(c:Int):∀n:Nat,refQ (Ed (D8 c) n) 0 5 5 1000 0=if n=0 then [] else [(5,(((n+1)/2:Nat):Int))]
 | 0=>rfl
 | n+1=>by
  rw[Ae (by omega),O3];by_cases e:n % 2=0
  ·(have d:D8 c n=(0,5,((n/2+1:Nat):Int)):=by unfold D8;rw[Ai e]);rw[d,Of _ (by decide)]
   congr 3;omega
  ·(have d:D8 c n=(1,((n/2+1:Nat):Int),c):=by unfold D8;rw[Ae e]);rw[d,Mb,Md (.inl (by simp)),NB c n,Ae (by omega)]
   congr 3;omega
end
section
open Go.RowKit
attribute [local go_sem ↓] Go.wp_at_zero Go.wp_at_succ
def JW:Value->Nat
 | .int _ k=>if k=5 then 0 else 1
 | _=>1
def Fu(c:Int)(H xb sb ab b:Nat)(aA:Int)(al:Bool)(d s:Nat)(w:World):Prop:=
 ∃P q s2 ro,KO (2*d+if al then 0 else 2) H xb sb ab b aA 0 q s2 ro P w/\P.D.n.AF = !al/\P.D.n.BV=0/\s<=s2/\(al=true->ro=false/\q=Ed (D8 c) d)/\(q=Ed (D8 c) d\/q=Ed (D8 c) (d+1))
section
variable {w:World} {H xb sb ab b B N d s:Nat} {c aA:Int} {al:Bool}
def Fu.Ag(h:Fu c H xb sb ab b aA al d s w):CN w xb ⟨A5 b,A5 sb,0⟩:=by obtain⟨P,q,s2,ro,z,-⟩:=h;exact z.Ag
def Fu.AF(h:Fu c H xb sb ab b aA al d s w):Af 36 #[A5 b] w (Aj (.bool (!al)) λw'=>w=w'):=by
 obtain⟨P,q,s2,ro,E,z,-⟩:=h;rw[<-z];exact E.AF
def Ww(h:AE c)(hd:d<=200):Bh (D8 c d):=by
 unfold D8;split
 ·exact⟨⟨by simp,by simp⟩,(show AE 5 from ⟨by decide,by decide⟩),by constructor<;>(dsimp only;omega)⟩
 ·exact⟨⟨by simp,by simp⟩,by constructor<;>(dsimp only;omega),h⟩
def Fu.aw(h:Fu c H xb sb ab b aA true d s w)(hc:AE c)(hd:d<100)(hL:Lets B w)(z:B<=H):
 Calls Tryz.prog 23 #[.pointer (some ⟨sb,0,none⟩),.int .i64 (D8 c d).1,.int .i64 (D8 c d).2.1,.int .i64 (D8 c d).2.2] w λe w'=>A3 (Up H) w w'/\
  ((e=.returned (.int .i64 0)/\∃P s2,KO (2*d+1) H xb sb ab b aA 0 (Ed (D8 c) (d+1)) s2 false P w'/\P.D.n.AF=false/\P.D.n.BV=0/\s<=s2)\/(e=.returned (.int .i64 5)/\Fu c H xb sb ab b aA false d s w')):=by
 obtain⟨P,q,s2,ro,O,h2,Y,L,h5,h6⟩:=h;obtain⟨rfl,rfl⟩:=h5 rfl;refine(O.aw h2 (by simp;omega) hL z _ (Ww hc (by omega))).mono ?_;rintro e w'⟨cd,P2,q,rfl,k1,E,I,⟨t1,t2,t3,t4⟩,-⟩;refine⟨k1,?_⟩;have W:P2.D.n.BV=0:=t2.trans Y;have h0:=O.pu.2.2.2.1.2.1;rw[<-O3]at E;rcases t4 with⟨rfl,t5,-⟩|⟨rfl,-,⟨t5,-⟩|⟨-,t5⟩⟩
 ·obtain rfl:q=_:=E.elim id λh=>absurd rfl h.2;exact .inl ⟨rfl,P2,s2,I,t5,W,L⟩
 ·exact .inr ⟨rfl,P2,q,s2,_,I.aa (by simp),t5,W,L,λe=>(by cases e),E.elim .inr λh=>.inl h.1⟩
 ·rw[Y]at t5;omega
def Wr{P:PD}{s2:Nat}(L:DU N)(hN:300<=N/\N<=200000)(f:Nat)(E:Jl f)(h:KO (2*d+1) H xb sb ab b aA 0 (Ed (D8 c) (d+1)) s2 false P w)(Y:P.D.n.AF=false)(z:P.D.n.BV=0)(hs:s<=s2)(hd1:d<100)(hL:Lets B w)(O:B<=H):
 Calls Tryz.prog f #[.pointer (some ⟨sb,0,none⟩)] w λe w'=>A3 (Up H) w w'/\((e=.returned (.int .i64 0)/\Fu c H xb sb ab b aA true (d+1) (d+1) w')\/(e=.returned (.int .i64 5)/\Fu c H xb sb ab b aA false (d+1) s w')):=by
 refine(h.cy L hN.2 f E Y (by omega) (by omega) hL O).mono ?_;rintro e w'⟨cd,P2,rfl,W,I,⟨t1,t2,t3,t4⟩⟩;have E:P2.D.n.BV=0:=t2.trans z;have h0:=h.pu.2.2.2.1.2.1;rcases t4 with⟨rfl,t5,-⟩|⟨rfl,-,⟨t5,-⟩|⟨-,t5⟩⟩
 ·rw[Ai rfl,KF]at I;exact⟨W,.inl ⟨rfl,P2,_,d+1,_,I,t5,E,As _,λ_=>⟨rfl,rfl⟩,.inl rfl⟩⟩
 ·exact⟨W,.inr ⟨rfl,P2,_,_,_,I.aa (by simp;omega),t5,E,hs,λe=>(by cases e),.inl rfl⟩⟩
 ·rw[z]at t5;omega
def Wt{P:PD}{s2:Nat}(h:KO (2*d+1) H xb sb ab b aA 0 (Ed (D8 c) (d+1)) s2 false P w)(E:P.D.n.AF=false)(z:P.D.n.BV=0)(I:s<=s2):Fu c H xb sb ab b aA true (d+1) s w:=
 ⟨P,_,s2,_,h.aa (by simp;omega),E,z,I,λ_=>⟨rfl,rfl⟩,.inl rfl⟩
end
def YY{w w':World}{v:Value}{l:List Pt}(h:Du w v l)(E:A3 Ab w w'):Du w' v l:=Az h λg z=>E.Ap g (AI h z) id
def XS(f:Nat->Pt)(n i:Nat)(h:i<(GN f n).length):(GN f n)[i]'h=f i:=by
 have:∀(l:List Pt) (z:l=(List.range n).map f) (E:i<l.length),l[i]'E=f i:=λl z E=>by subst z;simp
 exact this _ rfl h
section
variable {w:World} {H xb sb ab b B N d s:Nat} {c aA:Int} {al:Bool}
def WhE(c:Int)(H xb d s:Nat)(w:World):Prop:=∃t sb ab b aA m sf P,KO t H xb sb ab b aA 0 (Ed (D8 c) m) sf false P w/\s<=m/\m<=d+1
def Fu.aT(h:Fu c H xb sb ab b aA al d s w)(Y:DU N)(hN:300<=N/\N<=200000)(hd:d<=100)(hc:AE c)(z:Int)(L:Value)(aD:AE z)(O:F7 H w L)(hE:Env B w)(I:B<=H):
 Calls Tryz.prog 32 #[.pointer (some ⟨b,0,none⟩),.int .i64 z,L] w λe w'=>e=.returned (.tuple #[])/\A3 (Up H) w w'/\
  Calls Tryz.prog 33 #[.pointer (some ⟨xb,0,none⟩),.int .i64 c] w' λe w2=>e=.returned (.bool true)/\A3 (Up H) w' w2/\WhE c H xb d s w2:=by
 obtain⟨P,q,s2,ro,h1,-,-,h4,-,h6⟩:=h;obtain⟨ts,k1,k2,k3⟩:=O;refine((h1.ca true).aT (A3.I _ w) (by split<;>omega) z L ts aD k1 k2 (λad n c x e0 e1 e2=>.inl (k3 ad n c x e0 e1 e2))).mono ?_;rintro e w1⟨rfl,g1,P2,g2,-,-⟩;refine⟨rfl,g1,(Mp Y hN.2 w1 c hc g2 (by split<;>omega) (by split<;>omega) (hE.aj g1 λk hk=>AR I hk) I).mono ?_⟩;rintro e w2⟨rfl,g3,W,aB,b2,m,aE,q1,q2,E,-⟩;have e1:q.take m=Ed (D8 c) m:=by
  rcases h6 with rfl|rfl
  ·rw[KF]at E;exact Rn _ E
  ·rw[KF]at E;exact Rn _ E
 rw[e1]at q1;refine⟨rfl,g3,_,W,aB,b2,_,m,s2,aE,q1,by omega,?_⟩;rcases h6 with rfl|rfl
 ·rw[KF]at E;omega
 ·rw[KF]at E;omega
end
def Wv{m n2:Nat}{h E L:Bool}(I:h=decide (m≠0/\(n2:Int)+1=(((m+1)/2:Nat):Int)))(O:E=decide (m≠0/\(n2:Int)=(((m+1)/2:Nat):Int)))(W:L=decide (m=0))(hn:m/2=n2):
 (h=true/\m=2*n2+1)\/(h=false/\E=true/\m=2*n2)\/(h=false/\E=false/\L=true/\m=0/\n2=0):=by
 by_cases z:m=0
 ·right;right;refine⟨?_,?_,?_,z,by omega⟩
  ·rw[I];exact D2 (by omega)
  ·rw[O];exact D2 (by omega)
  ·rw[W];exact CE z
 ·by_cases hp:m % 2=1
  ·left;exact⟨by rw[I];exact CE ⟨z,by omega⟩,by omega⟩
  ·right;left;exact⟨by rw[I];exact D2 (by omega),by rw[O];exact CE ⟨z,by omega⟩,by omega⟩
section
variable {w:World} {t H xb sb ab b m sf:Nat} {c aA A6:Int} {ro:Bool} {P:PD}
def Ws(h:KO t H xb sb ab b aA 0 (Ed (D8 c) m) sf ro P w)(z:m<=1000):
 Af 37 #[A5 sb,A0 1,A0 (-9223372036854775808),A0 9223372036854775807] w λe w'=>∃x,e=.returned (.tuple #[x,A0 0])/\Du w' x (GN (λi=>(((i+1:Nat):Int),c)) (m/2))/\A3 Ab w w':=by
 rw[<-Qt c m z];exact h.b6 1 (by decide) _ _
def Qu(h:KO t H xb sb ab b aA 0 (Ed (D8 c) m) sf ro P w)(v:Int)(r:Bool)(I:r=decide (m≠0/\v=(((m+1)/2:Nat):Int))):
 Af 26 #[A5 sb,A0 0,A0 5,A0 v] w (Aj (.bool r) λw'=>A3 Ab w w'):=by
 have e:=NB c m;have:decide (refQ (Ed (D8 c) m) 0 5 5 1000 0=[(5,v)])=r:=by
  rw[e,I];by_cases z:m=0
  ·rw[Ai z];simp[z]
  ·rw[Ae z];have E:([(5,(((m+1)/2:Nat):Int))]=([(5,v)]:List Pt))↔v=(((m+1)/2:Nat):Int):=by
    constructor
    ·intro e;injection e with e _;injection e with _ e;exact e.symm
    ·intro e;rw[e]
   rw[JZ];exact⟨λh=>⟨z,E.1 h⟩,λh=>E.2 h.2⟩
 rw[<-this];exact h.dL 0 (by decide) 5 v
def Wu(h:KO t H xb sb ab b aA 0 (Ed (D8 c) m) sf ro P w)(r:Bool)(E:r=decide (m=0)):
 Af 28 #[A5 sb,A0 0,A0 5] w (Aj (.bool r) λw'=>A3 Ab w w'):=by
 have e:=NB c m;have:decide (refQ (Ed (D8 c) m) 0 5 5 1000 0=[])=r:=by
  rw[e,E];by_cases z:m=0
  ·rw[Ai z];simp[z]
  ·rw[Ae z];simp[z]
 rw[<-this];exact h.e2 0 (by decide) 5
end
end
section
open Go.ChangeAt Go.ChangeShapes Go.RowKit Go.WideShapes
def Tryz.own:ownKnob Tryz.prog.godebug=none:=by kernel_rfl
def Tryz.dU:Tryz.prog.globalNamed "tides/files.letters" = some 0:=by kernel_rfl
def Tryz.dP:Tryz.prog.globalNamed "internal/strconv.uint64pow10" = some 3:=by kernel_rfl
def Tryz.ea:Tryz.prog.globalNamed "strconv.ErrRange" = some 2:=by kernel_rfl
def Tryz.eu:Tryz.prog.globalNamed "strconv.ErrSyntax" = some 1:=by kernel_rfl
def Tryz.e9:(Tryz.prog.globals[0]?).map (·.type)=some 201:=by kernel_rfl
def Tryz.eU:(Tryz.prog.globals[3]?).map (·.type)=some 333:=by kernel_rfl
def Tryz.eP:(Tryz.prog.globals[2]?).map (·.type)=some 197:=by kernel_rfl
def Tryz.fe:(Tryz.prog.globals[1]?).map (·.type)=some 197:=by kernel_rfl
def Tryz.eV:Tryz.prog.cellsOf 201=5:=by kernel_rfl
def Tryz.dD:Tryz.prog.cellsOf 9=1:=by kernel_rfl
def Tryz.fD:Tryz.prog.cellsOf 333=20:=by kernel_rfl
def Tryz.fr:Tryz.prog.cellsOf 275=1:=by kernel_rfl
def Tryz.ez:Tryz.prog.cellsOf 3=1:=by kernel_rfl
def Tryz.dX:Tryz.prog.cellsOf 325=1:=by kernel_rfl
def Tryz.laidOut:laidOutB Tryz.prog=true:=by kernel_rfl
def Tryz.star: "*" ++ "errors.errorString" = "*errors.errorString":=by decide
def Tryz.eB(u:TypeId)(h:Tryz.prog.typeName? 3 u=some "*errors.errorString"):u=323:=
 typeName_ptr_named (nm:= "errors.errorString") (by rw[Tryz.star];kernel_rfl) (by kernel_rfl) (by decide) u (by rw[Tryz.star];exact h)
def A0e{d:Nat}{w:World}{H:List Value}{s:List (List UInt8)}{p:List MemPlace}(h:DataW.trod (λ_=>()) Tryz.prog w 0 (λ_=>true) false d 201 H=some (.agg (s.map λx=>.lit (.string x)),p))(k:Nat)(L:k<5)(x:List UInt8)(hx:s[k]?=some x):H[k]?=some (.string ⟨x.toArray⟩):=by
 cases d with
 | zero=>simp[DataW.trod]at h
 | succ d=>
  simp only[DataW.trod,underlying201,Tryz.dD,Tryz.eV,PV]at h;split at h
  ·obtain⟨xs,hm,O⟩:=A32.1 h;have E:xs.map (·.1)=s.map λx=>DataW.lit (.string x):=by
    have:=EK Prod.fst O;simpa using this
   obtain⟨b,I,Y⟩:=Lib.mapM_at hm k k (by simp[L]);obtain⟨s',hc,rfl,_⟩:=DataW.trod_string underlying9 Y;have W:H[k]?=some (.string s'):=by
    have:=EK (·[0]?) hc;simpa[List.getElem?_take,List.getElem?_drop] using this
   (have z:(xs.map (·.1))[k]?=some (DataW.lit (.string s'.data.toList)):=by simp[I]);rw[E]at z;simp[hx]at z;rw[W,z]
  ·cases h
def A0o{W:World}(h:laidMetH Tryz.prog Rows.writesUptoRow.laid W):Lets W.heap.size W:=by
 have h0:=h;have h3:laidMet Tryz.prog (("internal/strconv.uint64pow10",Lib.tabData .u64 Lib.pow10Tab):: [("strconv.ErrRange",Rows.laid_strconv_ErrRange),("strconv.ErrSyntax",Rows.laid_strconv_ErrSyntax),("tides/files.letters",Rows.laid_tides_files_letters)]) W:=laidMet.tail (laidMet.tail h0);have O:Lib.TabIs Tryz.prog W "internal/strconv.uint64pow10" .u64 Lib.pow10Tab:=Lib.tabIs_of_head Tryz.dP Tryz.eU underlying333 underlying275 Tryz.fr Tryz.fD h3;have h6:=laidMet.tail (laidMet.tail (laidMet.tail h3));obtain⟨ps,⟨g',t',cs,fuel,p,q,I,L,d,hd,_,_⟩,_⟩:=h6;obtain rfl:=Lr (Tryz.dU.symm.trans I);obtain rfl:=Lr (Tryz.e9.symm.trans L);have E:=A0e (s:=[[],[108],[115],[105],[100]]) hd;have z:∀k:Nat,1<=k->k<=4->W.cell? ⟨0,k,none⟩=some (.string ⟨(D9 k).toArray⟩):=λk h1 h2=>by
  rw[V9 Tryz.dU d k];have:k=1\/k=2\/k=3\/k=4:=by omega
  rcases this with rfl|rfl|rfl|rfl
  ·simpa[D9] using E 1 (by omega) _ rfl
  ·simpa[D9] using E 2 (by omega) _ rfl
  ·simpa[D9] using E 3 (by omega) _ rfl
  ·simpa[D9] using E 4 (by omega) _ rfl
 have aA:=GV W _ (z 1 (by omega) (by omega));have Y:=O.cell Tryz.dP 0 (by decide);have H:=GV W _ Y;refine⟨As _,λw' hb=>⟨λk h1 h2=>?_,?_⟩⟩
 ·rw[<-z k h1 h2];exact hb.cell aA
 ·unfold Lib.TabIs at O ⊢;rw[<-O];unfold World.var?;rw[Tryz.dP];simp only[Option.bind_some];rw[hb.block _ H]
def A0p{W:World}(h:laidMetH Tryz.prog Rows.writesUptoRow.laid W):HU W:=by
 have I:=h;have E:=laidMet.tail (laidMet.tail (laidMet.tail I));have H:=laidMet.tail E;obtain⟨a0,_,z,_⟩:=laid_sentinel E Tryz.ea Tryz.eP underlying197 Tryz.eB underlying323 underlying325 rfl rfl underlying9 Tryz.dX Tryz.dD;obtain⟨b0,_,d,_⟩:=laid_sentinel H Tryz.eu Tryz.fe underlying197 Tryz.eB underlying323 underlying325 rfl rfl underlying9 Tryz.dX Tryz.dD;exact⟨⟨_,by simpa using V9 Tryz.eu d 0,.inr ⟨_,_,rfl⟩⟩,_,by simpa using V9 Tryz.ea z 0,.inr ⟨_,_,rfl⟩⟩
def Gx{z:Int}(h:(Lit.int .i64 z).wf=true):AE z:=by
 simp[Lit.wf]at h;have e:IntKind.i64.min = -9223372036854775808:=rfl;rw[e]at h;exact h
abbrev WW:ByteArray:={data:=#[105,110,118,97,108,105,100,32,115,121,110,116,97,120]}
abbrev Y6:ByteArray:={data:=#[118,97,108,117,101,32,111,117,116,32,111,102,32,114,97,110,103,101]}
def JB(v:Array Value):Obj->Obj
 | .cells _ t frozen=>.cells v t frozen
 | o=>o
def FB(os:Os)(W:World):Prop:=W =
 let w0:=World.holding Tryz.prog os ⟨#[.cells #[.string WW] 325,.cells #[.string Y6] 325],#[],[]⟩
 let h0:=w0.heap
 let h1:=h0.modify 0 (JB #[.string ⟨#[]⟩,.string ⟨#[108]⟩,.string ⟨#[115]⟩,.string ⟨#[105]⟩,.string ⟨#[100]⟩])
 let h2:=h1.modify 1 (JB #[.iface 323 (A5 ((World.holding Tryz.prog default ⟨#[],#[],[]⟩).heap.size))])
 let h3:=h2.modify 2 (JB #[.iface 323 (A5 ((World.holding Tryz.prog default ⟨#[],#[],[]⟩).heap.size+1))])
 let h4:=h3.modify 3 (JB #[.int .u64 1,.int .u64 10,.int .u64 100,.int .u64 1000,.int .u64 10000,.int .u64 100000,.int .u64 1000000,.int .u64 10000000,.int .u64 100000000,.int .u64 1000000000,.int .u64 10000000000,.int .u64 100000000000,.int .u64 1000000000000,.int .u64 10000000000000,.int .u64 100000000000000,.int .u64 1000000000000000,.int .u64 10000000000000000,.int .u64 100000000000000000,.int .u64 1000000000000000000,.int .u64 10000000000000000000])
 let h5:=h4.modify 5 (JB #[.int .u8 0,.int .u8 1,.int .u8 28,.int .u8 2,.int .u8 29,.int .u8 14,.int .u8 24,.int .u8 3,.int .u8 30,.int .u8 22,.int .u8 20,.int .u8 15,.int .u8 25,.int .u8 17,.int .u8 4,.int .u8 8,.int .u8 31,.int .u8 27,.int .u8 13,.int .u8 23,.int .u8 21,.int .u8 19,.int .u8 16,.int .u8 7,.int .u8 26,.int .u8 12,.int .u8 18,.int .u8 6,.int .u8 11,.int .u8 5,.int .u8 10,.int .u8 9])
 let h6:=h5.modify 6 (JB #[.int .u8 0,.int .u8 1,.int .u8 56,.int .u8 2,.int .u8 57,.int .u8 49,.int .u8 28,.int .u8 3,.int .u8 61,.int .u8 58,.int .u8 42,.int .u8 50,.int .u8 38,.int .u8 29,.int .u8 17,.int .u8 4,.int .u8 62,.int .u8 47,.int .u8 59,.int .u8 36,.int .u8 45,.int .u8 43,.int .u8 51,.int .u8 22,.int .u8 53,.int .u8 39,.int .u8 33,.int .u8 30,.int .u8 24,.int .u8 18,.int .u8 12,.int .u8 5,.int .u8 63,.int .u8 55,.int .u8 48,.int .u8 27,.int .u8 60,.int .u8 41,.int .u8 37,.int .u8 16,.int .u8 46,.int .u8 35,.int .u8 44,.int .u8 21,.int .u8 52,.int .u8 32,.int .u8 23,.int .u8 11,.int .u8 54,.int .u8 26,.int .u8 40,.int .u8 15,.int .u8 34,.int .u8 20,.int .u8 31,.int .u8 10,.int .u8 25,.int .u8 14,.int .u8 19,.int .u8 9,.int .u8 13,.int .u8 8,.int .u8 7,.int .u8 6])
 {w0 with heap:=h6}
def Tw(os:Os)(W:World)(h:FB os W)(args:Array Value):laidMet Tryz.prog Rows.writesUptoRow.laid (W.forCall (λ_ _=>0) ⟨#[],args,[]⟩).memory:=by
 unfold FB at h;subst h;exact laidMet_of_run' 8 (by kernel_rfl) (by kernel_rfl)
end
section
open Go.RowKit

end
section
open Go.RowKit
attribute [local go_sem ↓] Go.wp_at_zero Go.wp_at_succ


end
section
open Go.ChangeAt Go.ChangeShapes Go.RowKit Go.WideShapes
def Tx{W:World}(h:laidMetH Tryz.prog Rows.writesUptoRow.laid W):Env W.heap.size W:=by
 have Y:=A0o h;have E:=A0p h;obtain⟨⟨L,d,I⟩,e2,z,O⟩:=E;exact⟨Y,⟨⟨L,d,I⟩,e2,z,O⟩,GV W _ d,GV W _ z⟩
def A28{H:Type}(l:List (DataW H)):l.length<=Rows.uptoBulkAll l:=by
 induction l with
 | nil=>simp
 | cons x r ih=>
  have:1<=Rows.uptoBulk x:=by
   cases x with
   | lit l=>cases l<;>simp[Rows.uptoBulk]
   | nil=>simp[Rows.uptoBulk]
   | ptr d=>simp[Rows.uptoBulk]
   | slice elems spare=>simp[Rows.uptoBulk]
   | agg parts=>simp[Rows.uptoBulk]
   | iface t d=>simp[Rows.uptoBulk]
   | map entries=>simp[Rows.uptoBulk]
   | held h=>simp[Rows.uptoBulk]
  simp only[Rows.uptoBulkAll,Cx];omega
section
variable {H:Type} {enc:TypeId×Value->H} {W:World} {sp:Nat->Bool} {aA:Nat}
def A27(l:List (DataW H))(h:∀x∈l,6<=Rows.uptoBulk x):l.length*6<=Rows.uptoBulkAll l:=by
 induction l with
 | nil=>simp
 | cons x r ih=>
  have h1:=h x (BC ..);have h2:=ih λy d=>h y (Bw _ d);simp only[Rows.uptoBulkAll,Cx];omega
end
end
section
open Go.RowKit
attribute [local go_sem ↓] Go.wp_at_zero Go.wp_at_succ


end
section
open Go.RowKit

end
section
open Go.RowKit
attribute [local go_sem ↓] Go.wp_at_zero Go.wp_at_succ

def PN(w:World)(g o n:Nat):Prop:=∀i,i<n->∃h a b c d,AE a/\AE b/\AE c/\w.cell? ⟨g,o+i*5,none⟩=some (.int .i64 h)/\w.cell? ⟨g,o+i*5+1,none⟩=some (.int .i64 a)/\w.cell? ⟨g,o+i*5+2,none⟩=some (.int .i64 b)/\w.cell? ⟨g,o+i*5+3,none⟩=some (.int .i64 c)/\w.cell? ⟨g,o+i*5+4,none⟩=some d/\F7 w.heap.size w d
end
section
open Go.ChangeAt Go.ChangeShapes Go.RowKit Go.WideShapes
def Tryz.fG:Tryz.prog.cellsOf 26=1:=by kernel_rfl
section
variable {H:Type} {enc:TypeId×Value->H} {W:World} {sp:Nat->Bool} {aA:Nat}
def NL{c:Value}{x:DataW H×List MemPlace}(h:DataW.trod enc Tryz.prog W 0 sp true aA 26 [c]=some x):F7 W.heap.size W c:=by
 rcases Deep.open_slice underlying26 h with⟨I,-⟩|⟨a,len,cap,m,n,E,Pl,I,-,hlc,aB,hm,-,Y⟩
 ·obtain rfl:c=.slice none 0 0:=(Jk I).1;exact F7.bT _ _ ⟨none,0,rfl,by simp,λj O=>by simp at O⟩
 ·obtain rfl:c=.slice (some a) len cap:=(Jk I).1;rw[Tryz.ez]at Y;by_cases h0:len=0
  ·subst h0;exact⟨[],⟨some a,cap,rfl,by simp,λj O=>by simp at O⟩,by simp,λad n c x hn e _=>absurd (by cases e;rfl) hn⟩
  ·have key:∀i,i<len->∃k,W.cell? (a.add (i*1))=some (.int .i64 k)/\AE k:=λi L=>by
    obtain⟨aD,hc,ht⟩:=Y i (by rw[hm];split<;>omega);obtain⟨k,e1,-,w1⟩:=Nt underlying3 ht;obtain⟨hl,-,z⟩:=World.cells?_some hc;obtain rfl:aD=[.int .i64 k]:=e1;have:=z 0 (by decide);exact⟨k,by simpa[Addr.add] using this,Gx w1⟩
   obtain⟨g,o,spot⟩:=a;obtain⟨k0,d,-⟩:=key 0 (by omega);have aE:spot=none:=by
    cases spot with
    | none=>rfl
    | some s=>
     simp[Addr.add,World.cell?]at d;split at d<;>cases d
   subst aE;have hg:g<W.heap.size:=by
    have:=GV W _ d;simpa[Addr.add] using this
   have ha:∀i,(⟨g,o,none⟩:Addr).add (i*1)=⟨g,o+i,none⟩:=λi=>by
    unfold Addr.add;by_cases h1:i=0<;>simp[h1]
   obtain⟨f,hf⟩:∃f:Nat->Int,∀i,i<len->W.cell? ⟨g,o+i,none⟩=some (.int .i64 (f i))/\AE (f i):=by
    refine⟨λi=>if L:i<len then (key i L).choose else 0,λi L=>?_⟩;have h2:=(key i L).choose_spec;simp only[L,Pp];exact⟨by rw[<-ha];exact h2.1,h2.2⟩
   (have hl:((List.range len).map f).length=len:=by simp);refine⟨(List.range len).map f,⟨some ⟨g,o,none⟩,cap,by rw[hl],by rw[hl];unfold maxLen at aB;omega,λj O=>⟨g,o,rfl,hg,?_⟩⟩,λt ht=>?_,λad n c x _ e1 e2=>by cases e1;cases e2;exact hg⟩
   ·rw[hl]at O;simpa using(hf j O).1
   ·obtain⟨i,L,rfl⟩:=Cr.1 ht;exact(hf i (Kg.1 L)).2
end
end
end Go.Proofs.YtodcnkbblippnaaGreatDoor
