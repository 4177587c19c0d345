/- Part 14 of a proof: walks of the program. -/
import Derived.Test.YtodcnkbblippnaaGreatDoorPart13
namespace Go.Proofs.YtodcnkbblippnaaGreatDoor
set_option maxRecDepth 100000
set_option maxHeartbeats 32000000
set_option linter.defProp false
open Go.Proofs.Tryz
section
open Go.RowKit
attribute [local go_sem ↓] Go.wp_at_zero Go.wp_at_succ
section
variable{w:gx}{wb b:Nat}{n:WN}{D:DS}{F:Nat->FC}{Ft:Nat->Prop}
def KR(wb:Nat)(Ft:Nat->Prop)(k:Nat):Prop:=k=wb\/Ft k
def WR(w:gx)(h:AS w wb n)(aE:n.dv=(A5 b))(hd:AW w b D F Ft)(aF:¬Ft wb)(da:Int)(vt:gy)(ts:gD Int)(ht:Mb w vt ts)(aH:∀ad n c x,n≠0->vt=.slice ad n c->ad=some x->¬Ft x.block)(hs:D.A6.length<1099511627776/\D.AF.length<1099511627776/\D.As.length<1099511627776/\∀c∈D.As,c.length<1099511627776)(hdi : -9223372036854775808<=da/\da<=9223372036854775807)(aG:∀t∈ts,-9223372036854775808<=t/\t<=9223372036854775807)(hF:∀f,D.Aq f->0<=(F f).2/\(F f).2<=(F f).1.length/\(F f).1.length<=1099511627776):
 Ag 43 #[A5 wb,A0 da,vt] w (Aj (.tuple #[]) λw'=>AS w' wb {n with sv:=.pointer none,fell:=true}/\A4 (KR wb Ft) w w'/\
  ∃d,AW w' b (Fh D F da ts).1 (Fh D F da ts).2 d/\(∀k,d k->k<w'.heap.size)/\∀k,d k->Ft k\/w.heap.size<=k):=by
 have CR:=A1 (A2C hd da vt ts ht aH hs hdi aG hF);have c4:=h.c4;rw[aE]at c4;have H:=A1 h;have aK:=A1 aF
 go_enter func43,ntmps43
 go_wp2_with (fail);refine CR.k ?_;rintro w1⟨O,E,aB,aI,aD⟩;have I:=A1 (H.o.Am O aK.o);have e5:=I.o.fz 5;have e8:=I.o.fz 8;have s5:=I.o.c5;have s8:=I.o.c8;have aA:=A1 O;have aJ:=A1 aB;have Y:=A1 aI;have z:=A1 aD;go_wp2;have X:A4 (One wb) w1 ((w1.sC wb 5 (.pointer none)).sC wb 8 (.bool true)):=((A4.C (One wb) w1).ao rfl 5 _).ao rfl 8 _;have W:¬E wb:=λhx=>(z.o wb hx).elim aK.o λh=>by have:=H.o.lt;omega
 refine Vb (Jk rfl _ _ _) rfl ?_;refine⟨rfl,(I.o.s5 (.pointer none)).s8 true,(aA.o.ai (S':=KR wb Ft) λ_ _ h=>.inr h).AH X (λx hx _=>.inl hx),E,aJ.o.aM λk hk=>X.Al k (Y.o k hk) (λe=>W (by cases e;exact hk)),λk hk=>by simpa using Y.o k hk,z.o⟩
def F8(a:Int):Int:=if a<0 then 1 + -((a+1).tmod 40) else 1+a % 40
def PQ(a:Int):1<=F8 a/\F8 a<=40:=by
 unfold F8;split
 ·rw[<-QA,A4N (by omega)];omega
 ·omega
def WO(w:gx)(h:AS w wb n)(Y:n.dv=(A5 b))(hd:AW w b D F Ft)(E:∀k,Ft k->k<w.heap.size)(a p c:Int)(tv:gy)(ha : -9223372036854775808<=a/\a<=9223372036854775807):
 Ag 53 #[A5 wb,.agg #[A0 11,A0 a,A0 p,A0 c,tv]] w (Aj (.tuple #[]) λw'=>Ev w Ft w' b {D with n:=EO D.n (F8 a) p} F):=by
 obtain⟨a1,a2⟩:=ha;have z:=(A4.C Aa w).aj (BL 11 a p c tv);obtain⟨o0,o1,W,-⟩:=GB w 11 a p c tv;have d:=hd.aw E z;have c4:=(h.ak z).c4;rw[Y]at c4;generalize aA:w.alloc (BL 11 a p c tv)=w0 at z o0 o1 W d c4;unfold BL at aA;have aB:=A1 (λx=>UB d.aa x p);have K:Hid (∀w',Ev w0.drew Ft w' b {D with n:=EO D.n (F8 a) p} F->Ev w Ft w' b {D with n:=EO D.n (F8 a) p} F):=λw' h=>h.a1 z.aa;have hb:=PQ a;by_cases hn:a<0
 ·have e1:IntKind.i64.wrap (a+1)=a+1:=Eo (by omega);have e2:IntKind.i64.wrap (-(a+1)) = -(a+1):=Eo (by omega);have O:F8 a=1 + -((a+1).tmod 40):=by unfold F8;rw[Ai hn]
  rw[O]at hb K ⊢;have e3:IntKind.i64.wrap (1 + -((a+1).tmod 40))=1 + -((a+1).tmod 40):=Eo (by omega);have e4:IntKind.i64.wrap (-((a+1).tmod 40)) = -((a+1).tmod 40):=Eo (by omega)
  go_enter func53,ntmps53
  go_wp2;refine Br (λw'=>A8 w' wb 4 (A5 b)/\A8 w' w.heap.size 2 (A0 p)) 9
   (Ba [0,1,2,3,4,5,6,7,8] []) ⟨c4,W⟩ ?_
  iterate 9 refine B4 ?_
  refine Bo ?_;go_wp2_with (fail);refine(aB.o _).k ?_;rintro w1 X;have I:=A1 (K.o _ X);go_wp2;refine JK (Jk rfl _ _ _) rfl ?_;exact⟨rfl,I.o⟩
 ·have O:F8 a=1+a % 40:=by unfold F8;rw[Af hn]
  rw[O]at hb K ⊢;have e3:IntKind.i64.wrap (1+a % 40)=1+a % 40:=Eo (by omega);have e4:IntKind.i64.wrap (a % 40)=a % 40:=Eo (by omega)
  go_enter func53,ntmps53
  go_wp2;refine Br (λw'=>A8 w' wb 4 (A5 b)/\A8 w' w.heap.size 2 (A0 p)) 9
   (Ba [0,1,2,3,4,5,6,7,8] []) ⟨c4,W⟩ ?_
  iterate 9 refine B4 ?_
  refine Bo ?_;go_wp2_with (fail);refine(aB.o _).k ?_;rintro w1 X;have I:=A1 (K.o _ X);go_wp2;refine JK (Jk rfl _ _ _) rfl ?_;exact⟨rfl,I.o⟩
def WQ(w:gx)(h:AS w wb n)(aO:n.dv=(A5 b))(hd:AW w b D F Ft)(aD:∀k,Ft k->k<w.heap.size)(aH:¬Ft wb)(O a p c:Int)(E:Option Addr)(I z:Nat)(aM:O≠11){oa:Option Addr}{ol oc:Nat}(aE:n.tv=.slice oa ol oc)(ha : -9223372036854775808<=a/\a<=9223372036854775807):
 Ag 53 #[A5 wb,.agg #[A0 O,A0 a,A0 p,A0 c,.slice E I z]] w (Aj (.tuple #[]) λw'=>AS w' wb {n with da:=p,tv:=.slice E I z}/\A4 (KR wb Ft) w w'/\
  ∃d,AW w' b {D with n:={D.n with CW:=wrap64 (D.n.Bc+F8 a)}} F d/\(∀k,d k->k<w'.heap.size)/\∀k,d k->Ft k\/w.heap.size<=k):=by
 obtain⟨a1,a2⟩:=ha;have hA:=(A4.C Aa w).aj (BL O a p c (.slice E I z));have hbk:(O==11)=false:=HX.2 aM;have aK:=Bl w (BL O a p c (.slice E I z));obtain⟨o0,o1,o2,-⟩:=GB w O a p c (.slice E I z);have aF:=hd.aw aD hA;have c4:=(h.ak hA).c4;rw[aO]at c4;have hW:=h.ak hA;have hwl:wb<w.heap.size:=h.lt;have o4:A8 (w.alloc (BL O a p c (.slice E I z))) w.heap.size 4 (.slice E I z):=D7 aK;have aN:(w.alloc (BL O a p c (.slice E I z))).heap.size=w.heap.size+1:=by simp
 generalize aP:w.alloc (BL O a p c (.slice E I z))=w0 at hA o0 o1 o2 o4 aF c4 hW aN;unfold BL at aP;have aQ:=A1 (λx=>UO aF x)
 have K:Hid (∀w',Ev w0 Ft w' b {D with n:={D.n with CW:=if F8 a>0 then wrap64 (D.n.Bc+F8 a) else 0}} F->
  (A8 w' w.heap.size 2 (A0 p)/\A8 w' w.heap.size 4 (.slice E I z)/\AS w' wb n)/\
  (∀u,AS (u:gx) wb {n with da:=p,tv:=.slice E I z}->A4 (One wb) w' u->(AS u wb {n with da:=p,tv:=.slice E I z}/\A4 (KR wb Ft) w u/\
  ∃d,AW u b {D with n:={D.n with CW:=wrap64 (D.n.Bc+F8 a)}} F d/\(∀k,d k->k<u.heap.size)/\∀k,d k->Ft k\/w.heap.size<=k))):=λw' hf=>by
  obtain⟨aA,aL,aB,aI,aG⟩:=hf;rw[Ai (by have:=PQ a;omega)]at aB;have hx:¬Ft w.heap.size:=λhx=>by have:=aD _ hx;omega
  have keep:∀(o:Nat) (v:gy),A8 w0 w.heap.size o v->A8 w' w.heap.size o v:=λo v hv=>Dt aA hv hx;refine⟨⟨keep 2 _ o2,keep 4 _ o4,hW.Am aA aH⟩,λu hu Y=>⟨hu,?_,aL,aB.aM λk hk=>Y.Al k (aI k hk) (λe=>?_),λk hk=>Bn (aI k hk) Y.Ak,λk hk=>(aG k hk).imp id λh=>by omega⟩⟩
  ·exact((hA.aT (S:=KR wb Ft)).AH aA (λ_ h _=>.inr h)).AH Y λx hx _=>.inl hx
  ·cases e;(exact(aG _ hk).elim aH λh=>by omega)
 have hb:=PQ a;by_cases hn:a<0
 ·have e1:IntKind.i64.wrap (a+1)=a+1:=Eo (by omega);have e2:IntKind.i64.wrap (-(a+1)) = -(a+1):=Eo (by omega);have hq:F8 a=1 + -((a+1).tmod 40):=by unfold F8;rw[Ai hn]
  rw[hq]at hb K ⊢;have e3:IntKind.i64.wrap (1 + -((a+1).tmod 40))=1 + -((a+1).tmod 40):=Eo (by omega);have e4:IntKind.i64.wrap (-((a+1).tmod 40)) = -((a+1).tmod 40):=Eo (by omega)
  go_enter func53,ntmps53
  go_wp2_with (fail);refine(aQ.o _).k ?_;rintro w1 hf;have⟨⟨p2,p4,hw1⟩,hfin⟩:=K.o _ hf;have W:=A1 hfin;have X:=A1 hw1;have s9:=hw1.ds;have s10:=hw1.dT;rw[aE]at s10;have z9:=hw1.fz 12;have aJ:=hw1.fz 13;go_wp2;refine Vb (Jk rfl _ _ _) rfl ?_;exact⟨rfl,W.o _ ((X.o.eK p).eH (.slice E I z)) (((A4.C (One wb) w1).ao rfl 12 _).ao rfl 13 _)⟩
 ·have hq:F8 a=1+a % 40:=by unfold F8;rw[Af hn]
  rw[hq]at hb K ⊢;have e3:IntKind.i64.wrap (1+a % 40)=1+a % 40:=Eo (by omega);have e4:IntKind.i64.wrap (a % 40)=a % 40:=Eo (by omega)
  go_enter func53,ntmps53
  go_wp2_with (fail);refine(aQ.o _).k ?_;rintro w1 hf;have⟨⟨p2,p4,hw1⟩,hfin⟩:=K.o _ hf;have W:=A1 hfin;have X:=A1 hw1;have s9:=hw1.ds;have s10:=hw1.dT;rw[aE]at s10;have z9:=hw1.fz 12;have aJ:=hw1.fz 13;go_wp2;refine Vb (Jk rfl _ _ _) rfl ?_;exact⟨rfl,W.o _ ((X.o.eK p).eH (.slice E I z)) (((A4.C (One wb) w1).ao rfl 12 _).ao rfl 13 _)⟩
end
section
variable{w w':gx}{sb ab b t:Nat}{mu ld wc A7 o:Int}{ro:Bool}{L:Nat->gD Pt}{A:Ar}{P:PD}{FT:Nat->Prop}{pd:gD Pu}{Ad:Nat}
def DI.eM{E:Int×Int}(h:DI E P pd Ad o)(f:Nat)(I:P.D.Aq f):0<=(P.F f).2/\(P.F f).2<=(P.F f).1.length:=by
 have key:∀s∈BB P,∀e∈s,0<=(P.F e.2).2/\(P.F e.2).2<=(P.F e.2).1.length:=λs z e d=>by
  have⟨ix,sg,cl,lo,nb,hL,_⟩:=h.DZ s z;have O:vw P.F s e.1.data.toList=some (P.F e.2):=by
   unfold vw;rw[FR];cases hk:lookup s e.1 with
   | none=>exact absurd rfl (IN.1 hk e d)
   | some g=>
    have⟨i,hi,e1⟩:=DG (Eh hk);have⟨j,hj,e2⟩:=DG d;have:i=j:=Jr (h.Cg s z) (by simpa using hi) (by simpa using hj) (by simp[e1,e2]);subst this;rw[e1]at e2;rw[<-e2];rfl
  exact hL.Eg _ _ O
 rcases I with⟨e,d,rfl⟩|⟨e,d,rfl⟩|⟨l,W,e,d,rfl⟩
 ·exact key _ h.CH e d
 ·exact key _ (BI ..) e d
 ·exact key _ (BC _ W) e d
def SF.bQ(h:SF w sb ab b mu ld wc A7 ro L A P FT):∃Ft,Bu w b P Ft/\(∀k,Ft k->k<w.heap.size)/\(∀k,Ft k->FT k)/\∀(S z:Nat->Prop) (w':gx) (P':PD),A4 S w w'->(∀k,FT k->S k->Ft k)->Bu w' b P' z->(∀k,z k->k<w'.heap.size)->(∀k,z k->Ft k\/w.heap.size<=k)->
 ∃W,SF w' sb ab b mu ld wc A7 ro L A P' W/\(∀k,W k->k<w'.heap.size)/\∀k,W k->FT k\/w.heap.size<=k:=by
 obtain⟨lv,F0,I,O⟩:=h;have⟨xb,jb,sv,ov,l,jo,Ft,h3,h4⟩:=I.ar;refine⟨Ft,h3.dk,h3.lt,λk d=>O k (.inl (h4 k (.inl d))),λS z w' P' hc hS d1 d2 d3=>?_⟩;have hs:Gr (FM ab xb jb sv ov l jo) w w':=hc.aw (λ_ d=>h3.bK d) λk d E=>h3.Dn k d (hS k (O k (.inl (h4 k (.inr d)))) E)
 have hA:Ct w' ab b xb jb sv ov l jo A P' z:=⟨(hs ab (.inl rfl)).trans h3.Ae,(hs xb (.inr (.inl rfl))).trans h3.ix,h3.sd.aM λg X=>hs g (.inr (.inr (.inl X))),h3.AR.aM λg X=>hs g (.inr (.inr (.inr (.inl X)))),
  h3.jn.aM λk d=>hs k (.inr (.inr (.inr (.inr d)))),d1,d2,λk d E=>(d3 k E).elim (h3.Dn k d) λY=>by have:=h3.bK d;omega,h3.FP,h3.Gx,h3.G8⟩
 have nF:∀k,(k=sb\/EW lv k)->¬F0 k:=λk d=>by
  rcases d with rfl|d
  ·exact I.ns
  ·exact I.nr k d
 have oF:∀k,(k=sb\/EW lv k)->FT k/\k<w.heap.size:=λk d=>by
  rcases d with rfl|d
  ·exact⟨O _ (.inr (.inl rfl)),I.Ae.lt⟩
  ·exact⟨O _ (.inr (.inr d)),I.E6.lt d⟩
 have nS:∀k,(k=sb\/EW lv k)->¬S k:=λk d E=>nF k d (h4 k (.inl (hS k (oF k d).1 E)));have nN:∀k,(k=sb\/EW lv k)->¬(z k\/FM ab xb jb sv ov l jo k):=λk d E=>by
  rcases E with E|E
  ·rcases d3 k E with Y | Y
   ·exact nF k d (h4 k (.inl Y))
   ·have:=(oF k d).2;omega
  ·exact nF k d (h4 k (.inr E))
 refine⟨λk=>(z k\/FM ab xb jb sv ov l jo k)\/Own sb lv k,⟨lv,λk=>z k\/FM ab xb jb sv ov l jo k,⟨I.Ae.Am hc (nS sb (.inl rfl)),I.E6.Am hc λg X=>nS g (.inr X),⟨xb,jb,sv,ov,l,jo,z,hA,λk d=>d⟩,λk d=>hA.b0 d,nN sb (.inl rfl),λk d=>nN k (.inr d)⟩,λk d=>d⟩,λk d=>?_,λk d=>?_⟩
 ·rcases d with d|rfl|d
  ·exact hA.b0 d
  ·exact Bn I.Ae.lt hc.Ak
  ·exact Bn (I.E6.lt d) hc.Ak
 ·rcases d with (d|d)|rfl|d
  ·exact(d3 k d).imp (λY=>O k (.inl (h4 k (.inl Y)))) id
  ·exact .inl (O k (.inl (h4 k (.inr d))))
  ·exact .inl (O _ (.inr (.inl rfl)))
  ·exact .inl (O _ (.inr (.inr d)))
end
end
section
open Go.RowKit
section
variable{w w':gx}{H wb b t:Nat}{n n':WN}{ld o:Int}{R R':Kind}{P:PD}{FT aA:Nat->Prop}{pd:gD Pu}{ls:gD (gy×Int)}{Ad:Nat}
def LW.dt{S:Nat->Prop}(h:LW w H wb n b ld R FT pd ls)(W:A4 S w w')(O:∀k,S k->k=wb\/FT k)(hb:AS w' wb n')(e1:n'.dv=n.dv)(e2:n'.ld=n.ld)(Y:n'.pv=n.pv)(e4:n'.lv=n.lv)(hs:J3 R')(hd:R' w' aA)(I:∀k,aA k->k<w'.heap.size)(X:∀k,aA k->FT k\/w.heap.size<=k):A4 (Up H) w w'/\LW w' H wb n' b ld R' aA pd ls:=by
 have L:∀k,FY wb n' k->FY wb n k:=λk E=>by unfold FY at E ⊢;rwa [Y,e4]at E
 have hz:=h.Ak;have nP:∀g,n.pv.ownBlock=some g->¬S g:=λg z d=>(O g d).elim (λe=>h.cv (by rw[<-e];exact z)) (h.nw g (.inr (.inl z)))
 have nL:∀g,n.lv.ownBlock=some g->¬S g:=λg z d=>(O g d).elim (λe=>h.b9 (by rw[<-e];exact z)) (h.nw g (.inr (.inr z)))
 refine⟨W.ai λk _ d=>(O k d).elim (λe=>by rw[e];exact h.Ef wb (.inl rfl)) (h.FO k),hb,e1.trans h.Df,e2.trans h.Gb,hs,hd,I,?_,?_,λk E d=>?_,λk E=>h.Ef k (L k E),λk E=>(X k E).elim (h.FO k) λd=>AP hz d⟩
 ·rw[Y];exact Au h.DC λg z=>W.Al g (Aw h.DC z) (nP g z)
 ·rw[e4];exact Au h.EL λg z=>W.Al g (Aw h.EL z) (nL g z)
 ·rcases X k d with d|d
  ·exact h.nw k (L k E) d
  ·have:=h.ct (L k E);omega
def XZ(d:PB P t)(ht:t<=330000):P.D.A6.length<1099511627776/\P.D.AF.length<1099511627776/\P.D.As.length<1099511627776/\∀c∈P.D.As,c.length<1099511627776:=by
 have h1:=d.CZ.A6;have h2:=d.CZ.AF;have h3:=d.CZ.Am;exact⟨by omega,by omega,by omega,λc h=>by have:=d.CZ.FW c h;omega⟩
def UQ(h:LW w H wb n b ld (KD b P) FT pd ls)(I:PB P t)(z:DI (Cs t) P pd Ad o)(hq:∀p∈pd,Bm p)(hl:pd.length<=t)(Y:Ad<=pd.length)(ht:t<=330000)(da:Int)(W:gy)(O:Ay da)(E:EA H w W):
 Calls Tryz.prog 43 #[.pointer (some ⟨wb,0,none⟩),.int .i64 da,W] w λe w'=>e=.returned (.tuple #[])/\A4 (Up H) w w'/\∃aA P',LW w' H wb {n with sv:=.pointer none,fell:=true} b ld (KD b P') aA pd ls/\EH t P' pd Ad o true/\P'.D.n.Bh=false/\P'.D.n.Av=P.D.n.Av:=by
 obtain⟨X,k1,k2,k3⟩:=E;have d:=I.CZ.Be;refine(WR w h.Ae h.Df h.Et (h.nw wb (.inl rfl)) da W X k1 (λad m c x e0 e1 e2 hx=>by have h1:=k3 ad m c x e0 e1 e2;have h2:=h.FO _ hx;omega) (XZ I ht) O k2 (λf L=>⟨(z.eM f L).1,(z.eM f L).2,by have:=d f L;omega⟩)).k ?_;rintro w'⟨q1,q2,aA,q3,q4,q5⟩;have⟨c1,c2⟩:=EH.a6 I z hq hl Y ht da X;have⟨r1,r2⟩:=h.dt (n':={n with sv:=.pointer none,fell:=true}) (R':=KD b (P.a6 da X)) q2 (λk hk=>hk) q1 rfl rfl rfl rfl (KD.E5 _ _) q3 q4 q5;exact⟨rfl,r1,aA,_,r2,c1,c2,rfl⟩
end
section
variable{w w':gx}{H wb t:Nat}{n:WN}{ld:Int}{pd:gD Pu}{ls:gD (gy×Int)}
def DA.eX(h:DA t H wb ld w n pd ls):∃(b Ad:Nat) (P:PD) (FT:Nat->Prop),n.AF=(Ad:Int)/\P.D.n.Av=E7 n.Av/\LW w H wb n b ld (KD b P) FT pd ls/\EH t P pd Ad (AN n.Cx ld) n.fell:=by
 obtain⟨-,-,-,-,b,Ad,P,FT,z,E,W⟩:=h;rcases W with⟨sb,ab,ro,L,A,Y,d,I,g4,g5,O,X,-⟩|⟨Y,d,I⟩
 ·have⟨Ft,g8⟩:=O.bQ;exact⟨b,Ad,P,Ft,z,E,g8,X.gk _⟩
 ·exact⟨b,Ad,P,FT,z,E,d,I⟩
def A2x(w:gx)(da:Int)(E:gy)(h:DA t H wb ld w n pd ls)(O:t<=330000)(z:Ay da)(d:EA H w E):
 Ag 43 #[A5 wb,A0 da,E] w (Aj (.tuple #[]) λw'=>A4 (Up H) w w'/\LI w' H wb ld t):=by
 have hh:=h;obtain⟨X,L,h3,W,-⟩:=h;obtain⟨b,Ad,P,FT,s1,s2,s3,s4,s5,s6,s7,s8,-⟩:=hh.eX;refine(UQ s3 s4 s5 s6 s7 s8 O da E z d).k ?_;rintro w'⟨I,aA,P',q2,Y,q4,q5⟩;exact⟨rfl,I,{n with sv:=.pointer none,fell:=true},pd,ls,X,L,h3.al I,W,b,Ad,P',aA,s1,q5.trans s2,.inr ⟨rfl,q2,Y⟩⟩
end
section
variable{w w':gx}{H wb t:Nat}{n:WN}{ld:Int}{pd:gD Pu}{ls:gD (gy×Int)}
def DA.bT{n':WN}(h:DA t H wb ld w n pd ls)(aD:n'.dv=n.dv)(aG:n'.ld=n.ld)(aE:n'.pv=n.pv)(aA:n'.lv=n.lv)(aB:n'.sv=n.sv)(aI:n'.CQ=n.CQ)(aF:n'.fell=n.fell)(I:n'.Cx=n.Cx)(aH:n'.wc=n.wc)(W:n'.AF=n.AF)(Y:n'.Av=n.Av)(X:Ay n'.da):
 ∃b P Ft,LW w H wb n b ld (λ_ _=>True) Ft pd ls/\Bu w b P Ft/\(∀k,Ft k->k<w.heap.size)/\(0<=P.D.n.BG/\P.D.n.BG<=9223372036854775807)/\∀(S:Nat->Prop) (z:DN) (w':gx) (d:Nat->Prop),z.Av=P.D.n.Av->(0<=z.BG/\z.BG<=9223372036854775807)->z.Bk=P.D.n.Bk->z.fulls=P.D.n.fulls->z.Bh=P.D.n.Bh->
  A4 S w w'->(∀k,S k->k=wb\/Ft k)->AS w' wb n'->EA H w' n'.tv->Bu w' b ⟨{P.D with n:=z},P.F⟩ d->(∀k,d k->k<w'.heap.size)->(∀k,d k->Ft k\/w.heap.size<=k)->A4 (Up H) w w'/\LI w' H wb ld t:=by
 obtain⟨h1,h2,h3,h4,b,Ad,P,FT,h5,h6,h7⟩:=h;rcases h7 with⟨sb,ab,ro,L,A,g1,E,g3,g4,g5,O,g7,g8,g9⟩|⟨g1,E,g3⟩
 ·have⟨Ft,d1,d2,d3,d4⟩:=SF.bQ O.Et;have hT:J3 (λ_ _=>True):=λ_ _ _ _ _ _ _ _=>trivial;refine⟨b,P,Ft,⟨O.Ae,O.Df,O.Gb,hT,trivial,d2,O.DC,O.EL,λk hk hx=>O.nw k hk (d3 k hx),O.Ef,λk hk=>O.FO k (d3 k hk)⟩,d1,d2,g7.pb.CZ.BG,λS z w' d e1 e2 e3 e4 e5 hc hS hb ht q1 q2 q3=>?_⟩;have⟨FT',r1,r2,r3⟩:=d4 S d w' _ hc (λk hk hx=>(hS k hx).elim (λe=>by rw[e]at hk;exact absurd hk (O.nw wb (.inl rfl))) id) q1 q2 q3;have⟨c1,c2⟩:=O.dt (n':=n') hc (λk hx=>(hS k hx).imp id (d3 k)) hb aD aG aE aA (KS.E5 sb ab b ld n.wc n.Cx ro L A ⟨{P.D with n:=z},P.F⟩) r1 r2 r3;refine⟨c1,n',pd,ls,by rw[I];exact h1,X,ht,h4,b,Ad,⟨{P.D with n:=z},P.F⟩,FT',by rw[W];exact h5,by rw[Y,<-h6];exact e1,.inl ⟨sb,ab,ro,L,A,by rw[aB];exact g1,by rw[aI];exact E,by rw[aF];exact g3,g4,by rw[aH];exact g5,by rw[aH,I];exact c2,by rw[I];exact g7.bT z e1 e2 e3 e4 e5,by rw[I];exact g8,g9⟩⟩
 ·have hT:J3 (λ_ _=>True):=λ_ _ _ _ _ _ _ _=>trivial;refine⟨b,P,FT,⟨E.Ae,E.Df,E.Gb,hT,trivial,E.lt,E.DC,E.EL,E.nw,E.Ef,E.FO⟩,E.Et,E.lt,g3.1.CZ.BG,λS z w' d e1 e2 e3 e4 e5 hc hS hb ht q1 q2 q3=>?_⟩;have⟨c1,c2⟩:=E.dt (n':=n') (R':=KD b ⟨{P.D with n:=z},P.F⟩) hc hS hb aD aG aE aA (KD.E5 _ _) q1 q2 q3;exact⟨c1,n',pd,ls,by rw[I];exact h1,X,ht,h4,b,Ad,⟨{P.D with n:=z},P.F⟩,d,by rw[W];exact h5,by rw[Y,<-h6];exact e1,.inr ⟨by rw[aB];exact g1,c2,by rw[I,aF];exact g3.bT z e1 e2 e3 e4 e5⟩⟩
def Zz{p:Int}{d:DN}{k:Int}(h:Ay p):0<=(EO d k p).BG/\(EO d k p).BG<=9223372036854775807:=by
 obtain⟨p1,p2⟩:=h;unfold EO wrap64;dsimp only
 split<;>omega
def A10(w:gx)(a p c:Int)(tv:gy)(h:DA t H wb ld w n pd ls)(ha:Ay a)(X:Ay p):
 Ag 53 #[A5 wb,.agg #[A0 11,A0 a,A0 p,A0 c,tv]] w (Aj (.tuple #[]) λw'=>A4 (Up H) w w'/\LI w' H wb ld t):=by
 have hh:=h;obtain⟨-,I,h3,-⟩:=h;obtain⟨b,P,Ft,d,k2,O,-,k4⟩:=hh.bT (n':=n) rfl rfl rfl rfl rfl rfl rfl rfl rfl rfl rfl I;refine(WO w d.Ae d.Df k2 O a p c tv ha).k ?_;rintro w'⟨E,z,q2,W,Y⟩;have⟨r1,r2⟩:=k4 Ft (EO P.D.n (F8 a) p) w' z rfl (Zz X) rfl rfl rfl E (λk L=>.inr L) (d.Ae.Am E (d.nw wb (.inl rfl))) (h3.al (E.ai λk _ hx=>d.FO k hx)) q2 W Y;exact⟨rfl,r1,r2⟩
def A2m(w:gx)(z a p c:Int)(tv:gy)(h:DA t H wb ld w n pd ls)(E:z≠11)(ha:Ay a)(hp:Ay p)(L:EA H w tv):
 Ag 53 #[A5 wb,.agg #[A0 z,A0 a,A0 p,A0 c,tv]] w (Aj (.tuple #[]) λw'=>A4 (Up H) w w'/\LI w' H wb ld t):=by
 have hh:=h;obtain⟨-,h2,⟨ts0,⟨a0,c0,Y,-⟩,-⟩,-⟩:=h;have I:=L;obtain⟨X,⟨W,cap,rfl,-⟩,-⟩:=L;have⟨b,P,Ft,k1,k2,k3,k5,k4⟩:=hh.bT (n':={n with da:=p,tv:=.slice W X.length cap}) rfl rfl rfl rfl rfl rfl rfl rfl rfl rfl rfl hp;refine(WQ w k1.Ae k1.Df k2 k3 (k1.nw wb (.inl rfl)) z a p c W X.length cap E Y ha).k ?_;rintro w'⟨q0,O,d,q2,q3,q4⟩;have⟨r1,r2⟩:=k4 (KR wb Ft) {P.D.n with CW:=wrap64 (P.D.n.Bc+F8 a)} w' d rfl k5 rfl rfl rfl O (λk hk=>hk) q0 (I.al (O.ai λk _ hx=>hx.elim (λe=>by rw[e];exact k1.Ef wb (.inl rfl)) (k1.FO k))) q2 q3 q4;exact⟨rfl,r1,r2⟩
end
end
def Dc(room:Int):PD:=⟨⟨[],[],[],HD room⟩,λ_=>([],0)⟩
section
variable{room:Int}{o:Int}
def Um:D9 (Cs 0) (vw (Dc room).F []) ⟨1,[]⟩ [] [] none:=by
 have d:∀nm,vw (Dc room).F [] nm=none:=λnm=>rfl;refine⟨⟨⟨by decide,by simp,by decide⟩,by simp[Cs],by simp⟩,.inl ⟨rfl,rfl⟩,rfl,by simp,by simp,trivial,?_,by simp,?_,?_,?_⟩
 ·intro n l h;cases h
 ·intro n _ _ h;exact absurd (d _) h
 ·intro nm h;exact absurd (d nm) h
 ·intro nm c h;rw[d]at h;cases h
def Un(f:Nat):¬(Dc room).D.Aq f:=λh=>by
 simp[DS.Aq,Dc,Dp]at h
def A1K(hr : -4611686018427387904<=room/\room<=9223372036854775807):PB (Dc room) 0:=by
 refine⟨⟨Ch _,Ch _,?_,Ch _,λf d=>absurd d (Un f),hr,⟨Iv _,by simp[Dc,HD]⟩⟩,λf d=>absurd d (Un f),⟨Iv _,Iv _⟩,⟨Iv _,Iv _⟩⟩;intro l h;cases h
def Uq:DI (Cs 0) (Dc room) [] 0 o:=by
 have d:∀s∈BB (Dc room),s=[]:=λs d=>by simpa[BB,Dc] using d
 refine⟨λs h=>?_,λs h=>?_,λs h=>?_,by simp[BB,Dc]⟩
 ·rw[d s h];refine⟨⟨1,[]⟩,[],[],none,0,Um,Ao _,C4.C _ _,?_,λ_=>Ao _⟩;intro n l e;cases e
 ·rw[d s h];exact List.Pairwise.nil
 ·rw[d s h];exact List.Pairwise.nil
def A1J:Reads (Cs 0) (Dc room) [] o:=Whole.bA (P:=Dc room) ⟨⟨1,[]⟩,[],[],none,Um,Ch _,C4.C _ _⟩
def A1M(hr : -4611686018427387904<=room/\room<=9223372036854775807):EH 0 (Dc room) [] 0 o false:=by
 refine⟨A1K hr,Uq,?_,Ao _,Ao _,.inr ⟨0,Ao _,Ao _,λ_=>rfl,?_⟩⟩
 ·intro p d;cases d
 ·intro o' n _ _ h _;obtain rfl:n=0:=by simpa using h
  exact⟨Uq,A1J⟩
def Pr(room:Int)(nm:Bs):(Dc room).bs nm=none:=rfl
def Uo{room:Int}(h:0<=room/\room<=9223372036854775807):Fit (Dc room) 1 1 1:=
 ⟨by simp[Dc],by simp[Dc],λl d=>by simp[Dc]at d,by simp[Dc],λf _=>by simp[Dc],by simp only[Dc,HD];omega,by simp[Dc,HD]⟩
def A1L{room:Int}{N R:Nat}(hN:N<=4611686018427387904)(hR:(R:Int)<=room):Cm (Dc room) N R:=
 ⟨rfl,rfl,rfl,by simp only[Dc,HD];omega,by simp only[Dc,HD,AU];omega,by simp[Dc],by simp[Dc]⟩
def Pq(room:Int):Ar.aU (Dc room)=.ok (⟨⟨1,[]⟩,⟨[],0,0,none⟩,0,[]⟩,[]):=by
 unfold Ar.aU;rw[Pk (Pr room AJ)];rfl
end
section
open Go.RowKit

end
section
open Go.RowKit
attribute [local go_sem ↓] Go.wp_at_zero Go.wp_at_succ
def LQ(t H wb b Ad:Nat)(ld A7:Int)(pd:gD Pu)(ls:gD (gy×Int))(d w:gx):Prop:=∃n P FT,LW w H wb n b ld (KD b P) FT pd ls/\n.Cx=A7/\Ay n.da/\EA H w n.tv/\n.AF=(Ad:Int)/\P.D.n.Av=E7 n.Av/\P.D.n.Bh=false/\EH t P pd Ad (AN A7 ld) n.fell/\A4 (Up H) d w
section
variable{w w':gx}{H wb b t N B:Nat}{ld A7 wa:Int}{pd:gD Pu}{ls:gD (gy×Int)}{Ad:Nat}
def ZP(dN:Gc N)(hN:N<=330000)(w0:gx)(E da:Int)(dd:Bool)(ta:Option Addr)(tn tc:Nat)(cX:A8 w0 wb 4 (A5 b))(aX:A8 w0 wb 12 (A0 da))(aW:A8 w0 wb 13 (.slice ta tn tc))(cG:Ag 36 #[A5 b] w0 (Aj (.bool dd) λw'=>w0=w'))(bQ:dd=true->Ag 43 #[A5 wb,A0 da,.slice ta tn tc] w0.drew (Aj (.tuple #[]) λw'=>LQ t H wb b Ad ld A7 pd ls w0 w'))(bT:dd=false->LQ t H wb b Ad ld A7 pd ls w0 w0)(h4:ls.length<=4*t)(ht:t+3<=330000)(hqN:pd.length+2<=N)(a6:Env B w0)(dB:B<=H)(hc:Ay A7)(aF:Ay E):
 Ag 17 #[A5 wb,A0 wa,A0 E] w0 (Aj (.bool true) λw'=>A4 (Up H) w0 w'/\LI w' H wb ld t):=by
 have bB:=A1 cG;have b8:=A1 bQ;have bU:=A1 bT;clear cG bQ bT
 go_enter func17,ntmps17
 cases dd
 focus
  go_wp2_with (fail);refine bB.k ?_;rintro w hw;have cL:Hid (LQ t H wb b Ad ld A7 pd ls w0 w):=hw ▸ bU.o (by trivial);clear hw
 rotate_left
 focus
  go_wp2_with (fail);refine bB.k ?_;rintro w1 rfl;go_wp2_with (fail);refine Br (λw'=>A8 w' wb 12 (A0 da)/\A8 w' wb 13 (.slice ta tn tc)) 9
   (Ba [0,1,2,3,4,5,6,7,8] []) ⟨aX,aW⟩ ?_
  iterate 9 refine B4 ?_
  refine Bo ?_;go_wp2_with (fail);refine(b8.o (by trivial)).k ?_;rintro w hr;have cL:=A1 hr;clear hr
 rotate_left
 all_goals
  clear bB b8 bU cX aX aW;have⟨n,P,FT,h,hck,h2,h3,hsafe,hroom,hdead,hcl0,k0⟩:=cL.o;have eB:=A1 k0;have hE:Env B w:=a6.al k0 λk z=>AP dB z;by_cases bP:(1<=ld/\ld<=4611686018427387904)/\(1<=wa/\wa<=4611686018427387904)
  focus
   obtain⟨hl,hw⟩:=bP;obtain⟨hp,-,hq,hpl,-,hx⟩:=hcl0;obtain⟨n0,cB,aM,hall⟩:∃n0,(Ad<=n0/\n0<=pd.length)/\(n.fell=false->n0=pd.length)/\∀o' m,AN A7 ld<=o'->n0<=m->m<=pd.length->C4 o' (pd.take n0) (pd.take m)->DI (Cs t) P (pd.take m) Ad o'/\Reads (Cs t) P (pd.take m) o':=by
    rcases hx with hx|⟨n0,q1,q2,q3,q4⟩
    ·rw[hdead]at hx;cases hx
    ·exact⟨n0,⟨q1,q2⟩,q3,q4⟩
   have h0:=cB;have⟨hc',hcle⟩:=V5 hc aF;have aG:AN A7 ld<=AN (GL A7 E) ld:=MK hcle
  rotate_left
  focus
   have aU:=bP;have hp:=hcl0.1;have⟨hc',hcle⟩:=V5 hc aF
  rotate_left
  all_goals
   have⟨w1,hc1,hsz,hw1,aH,hB1,hB2⟩:=A3w w wb n A7 E ld wa h.Ae hck;have cU:Hid (0<=E->Ag 44 #[A0 A7,A0 E] w (Aj (A0 (GL A7 E)) λw'=>w=w')):=λh0=>by
    have:=Ra A7 E w hc ⟨h0,aF.2⟩;(have e:GL A7 E=DJ A7 E:=by unfold GL;rw[Ai h0]);rw[e];exact this
   obtain⟨O,cF⟩:∃O,GL A7 E=O:=⟨_,rfl⟩
  focus
   rw[cF]at hc' aG hw1 hB1 cU;have⟨d0,r0⟩:=hall (AN O ld) n0 aG (Ao _) h0.2 (C4.C _ _);have aL:∀p∈pd.take n0,Bm p:=λp hp=>hq p (Ho hp);(have cN:(pd.take n0).length=n0:=by rw[BK];omega)
  rotate_left
  focus
   rw[cF]at hc' hcle hw1 hB1 cU
  rotate_left
  all_goals
   have hd:AW w b P.D P.F FT:=h.Et;have aK:=h.lt;have a4:¬FT wb:=h.nw wb (.inl rfl);have bH:=h.Ae.lt;have a8:H<=wb:=h.Ef wb (.inl rfl);have c4:=h.Ae.c4;rw[h.Df]at c4;have c0:=h.Ae.c0;rw[h.Gb]at c0;have c10:=h.Ae.bt;rw[hck]at c10;have f10:=h.Ae.fz 10;have e0:=(h.Ae.cm O).c0;rw[h.Gb]at e0;have aR:AW w1 b P.D P.F FT:=hd.aM λk z=>hc1.Al k (aK k z) (λe=>a4 (by cases e;exact z));have q0:A8 w1 w.heap.size 0 (A0 ld):=D7 aH;have q1:A8 w1 w.heap.size 1 (A0 wa):=D7 aH;(have aD:∀k,FT k->k<w1.heap.size:=λk z=>by have:=aK k z;omega);have CF:=A1 (A2N w1 ld wa)
  focus
   rw[A2O hl hw]at CF;(have a7:Env B w1:=hE.al hc1 λk e=>by cases e;omega);have eE:Hid (∀w2,A4 Aa w1 w2->Ag 46 #[A5 wb,.agg #[A0 ld,A0 wa]] w2 (Aj (.tuple #[]) λw'=>A4 Aa w1 w')):=λw2 k2=>by
    refine(X6 (t:=t) (q:=pd.take n0) (Ad:=Ad) dN hN w2 (hw1.ak k2) h.Df rfl (aR.aw aD k2) (λk z=>Bn (aD k z) k2.Ak) hp d0 r0 aL (by omega) (by omega) hdead ht (by omega) (a7.aL k2) hl hw hc').k ?_;rintro w' h2;exact⟨rfl,k2.tr h2⟩
  rotate_left
  focus
   rw[A2P aU]at CF
  rotate_left
  all_goals
   have dU:Hid (∀w3,A4 Aa w1 w3->Ag 47 #[A5 b] w3 λe w'=>∃d I,e=.returned (A5 d)/\AW w' d P.D P.F I/\(∀k,I k->w1.heap.size<=k/\k<w'.heap.size)/\A4 Aa w1 w'):=λw3 k3=>by
    refine(UU (aR.aw aD k3) (hp.eg (by omega))).mono ?_;rintro e w'⟨d,I,rfl,a1,a2,a3⟩;exact⟨d,I,rfl,a1,λk z=>⟨AP k3.Ak (a2 k z).1,(a2 k z).2⟩,k3.tr a3⟩
  focus
   have cS:Hid (∀(w3:gx) (d:Nat) (aO:Nat->Prop),Bu w3 d P aO->(∀k,aO k->k<w3.heap.size)->Env B w3->Ag 22 #[A5 d,.agg #[A0 ld,A0 wa],A0 O] w3 λe w'=>
    ∃A ab Y L,e=.returned (.tuple #[A5 Y,A0 0])/\w3.heap.size<=Y/\(∃ps,Ar.aU P=.ok (A,ps))/\Rel L (pd.take n0) ld O/\(∀k,k<8->(L k).length<=t)/\Ap w3 aO w' (KS Y ab d ld wa O false L A P)):=λw3 d aO g1 g2 g3=>by
    refine(T9 (t:=t) (pd:=pd.take n0) (Ad:=Ad) w3 aO g1 g2 hp d0 r0 aL (by omega) (by omega) hdead (by omega) g3 hl hw hc').mono ?_;rintro e w'⟨A,ab,Y,L,rfl,k1,k2,-,k3,k4,k5⟩;exact⟨A,ab,Y,L,rfl,k1,k2,k3,k4,k5⟩
   have cA:Hid (∀(A:Ar) (L:Nat->gD Pt) (m:Nat),(∃ps,Ar.aU P=.ok (A,ps))->Rel L (pd.take n0) ld O->n0<=m->m<=pd.length->Fk L (pd.take m) ld O->
    Ad<=m/\m<=pd.length/\St t A P (pd.take m) Ad (AN O ld) false/\Rel L (pd.take m) ld O):=λA L m hA hR h1 h2 hT=>by
    obtain⟨ps,hA⟩:=hA;have cP:=hR.cG λp hp=>(aL p hp).2.1
    have hs:=RL hq h1 λk z=>(cP k z).symm.trans (hT k z)
    have⟨dm,rm⟩:=hall (AN O ld) m aG h1 h2 hs;have bO:∀p∈pd.take m,Bm p:=λp hp=>hq p (Ho hp);(have hlm:(pd.take m).length=m:=by rw[BK];omega);obtain⟨A2,ps2,g1,g2,-,-⟩:=St.aU hp dm rm bO (by omega) (by omega) hdead (by omega);rw[hA]at g1;cases g1;exact⟨by omega,h2,g2,Sh hR bO hs⟩
   have dG:Hid (∀(X:gx) (d Y ab:Nat) (A:Ar) (L:Nat->gD Pt) (aA:Nat->Prop),(∃ps,Ar.aU P=.ok (A,ps))->Rel L (pd.take n0) ld O->(∀k,k<8->(L k).length<=t)->A4 (One wb) w X->
    AS X wb {n with Cx:=O,dv:=(A5 d),sv:=(A5 Y),CQ:=false,wc:=wa}->KS Y ab d ld wa O false L A P X aA->(∀k,aA k->k<X.heap.size)->(∀k,aA k->w.heap.size<=k)->
    Ag 52 #[A5 wb] X (Aj (.bool true) λw'=>A4 (Up H) X w'/\∃m pv,LW w' H wb {n with Cx:=O,dv:=(A5 d),sv:=(A5 Y),CQ:=false,wc:=wa,fell:=false,pv:=pv} d ld (KS Y ab d ld wa O false L A P) aA (pd.take m) ls/\
     Ad<=m/\m<=pd.length/\St t A P (pd.take m) Ad (AN O ld) false/\Rel L (pd.take m) ld O)):=λX d Y ab A L aA hA hR bL bI hb bJ aJ bK=>by
    have cT:=h.ep (n':={n with Cx:=O,dv:=(A5 d),sv:=(A5 Y),CQ:=false,wc:=wa}) bI hb rfl rfl rfl rfl (KS.E5 Y ab d ld wa O false L A P) bJ aJ bK;refine(A1R X cT rfl rfl rfl hsafe h0 aM (hR.cG λp hp=>(aL p hp).2.1) (by omega) (λp hp=>(hq p hp).2.1) (λk z=>by have:=bL k z;omega) hl hc').k ?_;rintro w'⟨g1,m,pv,g2,g3,g4,g5⟩;exact⟨rfl,g1,m,pv,g5,cA.o A L m hA hR g2 g3 g4⟩
  rotate_left
  focus
   have dI:Hid (∀(X:gx) (d:Nat) (aA:Nat->Prop),A4 (One wb) w X->AS X wb {n with Cx:=O,dv:=(A5 d),sv:=.pointer none}->KD d P X aA->(∀k,aA k->k<X.heap.size)->(∀k,aA k->w.heap.size<=k)->
    LW X H wb {n with Cx:=O,dv:=(A5 d),sv:=.pointer none} d ld (KD d P) aA pd ls):=λX d aA bI hb bJ aJ bK=>h.ep bI hb rfl rfl rfl rfl (KD.E5 d P) bJ aJ bK
  rotate_left
  all_goals
   obtain⟨rf,bC⟩:∃rf,P.D.n.Bk=rf:=⟨_,rfl⟩;obtain⟨fu,bA⟩:∃fu,P.D.n.fulls=fu:=⟨_,rfl⟩;have bS:=A1 bC;have dS:=A1 bA;have b4:=h.Df;have bD:=A1 hw1;have bR:=A1 hc1
  focus
   have dJ:=A1 a7
  rotate_left;rotate_left
  all_goals
   have aB:Hid (w1.heap.size=w.heap.size+1/\wb<w.heap.size/\H<=wb):=⟨hsz,bH,a8⟩;have dF:=A1 hB1;have dA:=A1 hB2;have b1:Hid (A4 (Up H) w0 w/\Ay n.da/\EA H w n.tv/\ls.length<=4*t/\n.AF=(Ad:Int)/\P.D.n.Av=E7 n.Av):=⟨k0,h2,h3,h4,hsafe,hroom⟩;have dZ:=A1 hc'
  focus
   clear hall aL cN hd aK aR aD a4 d0 r0 h hp hE hsz bH a8 hw1 hc1 a7 aH hB1 hB2 hq aM h0 cA hdead bC bA aG hcle eB cL a6 k0 h2 h3 hsafe hroom hck hx cB h4
  rotate_left
  focus
   have dQ:=A1 (hcl0.bj (MK hcle));clear hd aK aR aD a4 h hp hsz bH a8 hw1 hc1 aH hB1 hB2 hdead bC bA hcle hE a6 k0 h2 h3 hsafe hroom hck h4 cL hcl0
  rotate_left
  all_goals
   by_cases aF:0<=E
   focus
    have dO:=cU.o aF;go_wp2_with (go_at_call 44;refine dO.k ?_;rintro w1 rfl);rw[dF.o aF]
   rotate_left
   focus
    go_wp2_with (fail);rw[dA.o aF]
  all_goals
   refine CF.k ?_;rintro w2 k2
  iterate 2
   focus
    have cM:=A1 (eE.o w2 k2);have r0:=k2.ah q0;have r1:=k2.ah q1;go_wp2_with (fail);refine cM.k ?_;rintro w3 k3;have t4:=(bD.o.ak k3).c4;dsimp only at t4;rw[b4]at t4;have cD:=A1 (dU.o w3 k3)
   rotate_left
  iterate 2
   focus
    have t4:=(bD.o.ak k2).c4;dsimp only at t4;rw[b4]at t4;have cD:=A1 (dU.o w2 k2)
   rotate_left
  all_goals
   go_wp2_with (fail);refine cD.m ?_;rintro e w4⟨d,I,rfl,dH,aQ,k4⟩;have aY:=bD.o.ak k4;have t4':=aY.c4;have z4:=aY.fz 4;(have b7:¬I wb:=λhx=>by have:=(aQ wb hx).1;have:=aB.o;omega);have b9:=(A4.C (One wb) w4).ao (b:=wb) rfl 4 (A5 d);have bW:=aY.s4 (A5 d);(have aV:∀k,I k->k<(w4.setCell (A9 wb 4) (A5 d)).heap.size:=λk z=>by simpa using(aQ k z).2);have bM:AW (w4.setCell (A9 wb 4) (A5 d)) d P.D P.F I:=dH.aM λk z=>b9.Al k (aQ k z).2 (λe=>b7 (by cases e;exact z));have dY:Hid (A4 (One wb) w1 (w4.setCell (A9 wb 4) (A5 d))):=(k4.aT (S:=One wb)).tr b9;have cC:=A1 (TH _ bW rfl bM aV);have bG:=A1 bW;have bY:=A1 bM;have b5:Hid (∀k,I k->w1.heap.size<=k):=λk z=>(aQ k z).1
   have aS:=A1 aV;have x0:=k4.ah q0;have x1:=k4.ah q1;(have hwne:wb≠w.heap.size:=by have:=aB.o;omega);have y0:A8 (w4.setCell (A9 wb 4) (A5 d)) w.heap.size 0 (A0 ld):=(GN _ _ _ _ (by simp;try omega)).trans x0;have y1:A8 (w4.setCell (A9 wb 4) (A5 d)) w.heap.size 1 (A0 wa):=(GN _ _ _ _ (by simp;try omega)).trans x1;rw[bS.o,dS.o]at cC;go_wp2_with (fail);generalize (w4.setCell (A9 wb 4) (A5 d))=w5 at dY cC bG bY aS y0 y1 ⊢;refine cC.k ?_;rintro w6 k6;have v4:A8 (w6.alloc (.cells #[A0 rf,A0 fu] 85)) wb 4 (A5 d):=(bG.o.ak (k6.aj _)).c4;go_wp2_with (fail);have k7:A4 Aa w5 (w6.alloc (.cells #[A0 rf,A0 fu] 85)):=k6.aj _;have aH:=Bl w6 (.cells #[A0 rf,A0 fu] 85);have m0:A8 (w6.alloc (.cells #[A0 rf,A0 fu] 85)) w6.heap.size 0 (A0 rf):=D7 aH;(have b3:Hid ((w6.alloc (.cells #[A0 rf,A0 fu] 85)).heap.size=w6.heap.size+1):=by simp[Hid]);generalize w6.alloc (.cells #[A0 rf,A0 fu] 85)=w7 at k7 m0 b3 ⊢;have cJ:=A1 (bG.o.ak k7);have cZ:=A1 (bY.o.aw aS.o k7);have dL:Hid (∀k,I k->k<w7.heap.size):=λk z=>Bn (aS.o k z) k7.Ak;have cH:Hid (A4 (One wb) w1 w7):=dY.o.bl k7;have eC:Hid (∀k,I k->k<w6.heap.size):=λk z=>Bn (aS.o k z) k6.Ak;have p0:=k7.ah y0;have p1:=k7.ah y1;have p4:A8 w7 wb 4 (A5 d):=cJ.o.c4;have a0:A8 w7 wb 10 (A0 O):=cJ.o.bt;have bF:=A1 (Q1 cZ.o)
  iterate 2
   focus
    generalize aZ:P.D.n.Bc=cn at bF;refine bF.k ?_;rintro w8 rfl;go_wp2_with (fail);have dW:=A1 (cS.o w7.drew d I cZ.o.aa dL.o ((dJ.o.al cH.o λk e=>by cases e;have:=aB.o;omega).aL (A4.C Aa w7).aa))
   rotate_left
  iterate 2
   focus
    obtain⟨cn,aZ⟩:∃cn,P.D.n.Bc=cn:=⟨_,rfl⟩;rw[aZ]at bF;have cY:=A1 aZ;refine bF.k ?_;rintro w8 rfl;go_wp2_with (fail)
    have dW:=A1 (ZQ w7.drew ld wa O (some (A9 d 0)) (by
     by_cases h1:1<=ld/\ld<=4611686018427387904
     ·exact .inr λh2=>aU ⟨h1,h2⟩
     ·exact .inl h1))
   rotate_left
  all_goals
   refine Br (λw'=>A8 w' wb 4 (A5 d)/\A8 w' w.heap.size 0 (A0 ld)/\A8 w' w.heap.size 1 (A0 wa)/\A8 w' wb 10 (A0 O)) 14
    (Ba [0,1,2,3,4,5,6,7,8,9,10,11,12,13] [9]) ⟨p4,p0,p1,a0⟩ ?_
   iterate 9 refine B4 ?_
   refine Bf λK hK=>?_;go_simp;refine dW.m ?_
  iterate 2
   focus
    rintro e w8⟨A,ab,Y,L,rfl,hsb,hA,hR,bL,W,aE,hV,cE,cV⟩;have dM:=cH.o.Ak;have hz7:=b3.o;have aT:∀k,I k->w1.heap.size<=k:=b5.o;(have a5:¬I wb:=λhx=>by have:=aT wb hx;have:=aB.o;omega);(have bV:¬I w.heap.size:=λhx=>by have:=aT _ hx;have:=aB.o;omega);(have cQ:¬I w6.heap.size:=λhx=>by have:=eC.o _ hx;omega);refine hK _ _ ⟨Dt W p4 a5,Dt W p0 bV,Dt W p1 bV,Dt W a0 a5⟩ (λhS=>?_);have k8:A4 I w7 w8:=(A4.C I w7).aa.tr W;have aI:=A1 (cJ.o.Am k8 a5);(have dE:Hid (A4 (One wb) w1 w8):=cH.o.AH k8 λx hx aK=>by have:=aT x hx;omega);have m8:=Dt k8 m0 cQ;have dX:Hid (∀k,aE k->w1.heap.size<=k):=λk z=>(cV k z).elim (aT k) λh=>AP dM h
    have cC:Hid (wb≠w6.heap.size):=λe=>by
     have:=aB.o;omega
    have s4:A8 w8 wb 4 (A5 d):=aI.o.c4;have s5:=aI.o.c5;have s9:=aI.o.c9;have s11:=aI.o.cQ;have z5:=aI.o.fz 5;have z9:=aI.o.fz 9;have dR:=aI.o.fz 11;have mk:=cC.o;have eH:=A1 hV;have bX:=A1 cE;have eD:=A1 hA;have eJ:=A1 hR;have b0:=A1 bL
    iterate 4 refine B4 ?_
    refine Bo ?_;go_wp2_with (fail);have aN:=A1 (aI.o.s5 (.pointer none));have a9:=(A4.C (One wb) w8).ao (b:=wb) rfl 5 (.pointer none);(have dV:Hid (¬aE wb):=λhx=>by have:=dX.o wb hx;have:=aB.o;omega);have dP:=A1 (KS.E5 Y ab d ld wa O false L A P _ _ _ _ eH.o bX.o a9 λk z e=>dV.o (by cases e;exact z));(have bN:Hid (∀k,aE k->k<(w8.setCell (A9 wb 5) (.pointer none)).heap.size):=λk z=>by simpa using bX.o k z);have cI:Hid (A4 (One wb) w1 (w8.setCell (A9 wb 5) (.pointer none))):=dE.o.ao rfl 5 _;have g4:A8 (w8.setCell (A9 wb 5) (.pointer none)) wb 4 (A5 d):=aN.o.c4;have gm:A8 (w8.setCell (A9 wb 5) (.pointer none)) w6.heap.size 0 (A0 rf):=(GN _ _ _ _ (by simp;try omega)).trans m8;generalize w8.setCell (A9 wb 5) (.pointer none)=w9 at aN dP cI bN g4 gm ⊢;have eI:Hid (Ag 50 #[A5 d] w9.drew (Aj (A0 rf) λw'=>w9.drew=w')):=by
     obtain⟨Ft9,dD,-⟩:=SF.dk dP.o;have:=Ow (AW.aa dD)
     rwa [bS.o]at this
    refine Br (λw'=>A8 w' wb 4 (A5 d)/\A8 w' w6.heap.size 0 (A0 rf)) 7
     (Ba [0,1,2,3,5,6,4] [4]) ⟨g4,gm⟩ ?_
    iterate 6 refine B4 ?_
    refine Bf λK hK=>?_;go_simp;refine eI.k ?_;rintro w10 rfl;refine hK _ _ ⟨g4,gm⟩ (λhS=>?_);refine Bo ?_;have s5:=aN.o.c5;have s9:=aN.o.c9;have s11:=aN.o.cQ;have z5:=aN.o.fz 5;have z9:=aN.o.fz 9;have dR:=aN.o.fz 11;go_wp2_with (fail);have dK:=((aN.o.s5 (A5 Y)).s9 false).e0 wa;have aP:A4 (One wb) w9 (((w9.setCell (A9 wb 5) (A5 Y)).setCell (A9 wb 9) (.bool false)).setCell (A9 wb 11) (A0 wa)).drew:=((((A4.C (One wb) w9).ao rfl 5 _).ao rfl 9 _).ao rfl 11 _).aa;have cO:=KS.E5 Y ab d ld wa O false L A P _ _ _ _ dP.o bN.o aP λk z e=>dV.o (by cases e;exact z);have bE:∀k,aE k->k<(((w9.setCell (A9 wb 5) (A5 Y)).setCell (A9 wb 9) (.bool false)).setCell (A9 wb 11) (A0 wa)).drew.heap.size:=λk z=>Bn (bN.o k z) aP.Ak;have bZ:Hid (A4 (One wb) w (((w9.setCell (A9 wb 5) (A5 Y)).setCell (A9 wb 9) (.bool false)).setCell (A9 wb 11) (A0 wa)).drew):=(bR.o.tr cI.o).tr aP;have eG:=A1 (dG.o _ d Y ab A L aE eD.o eJ.o b0.o bZ.o dK cO bE λk z=>by have:=dX.o k z;have:=aB.o;omega);refine eG.k ?_;rintro b6⟨h1,m,pv,h2,h3,h4,h5,h6⟩
    have dC:Hid (A4 (Up H) w b6/\LW b6 H wb {n with Cx:=O,dv:=(A5 d),sv:=(A5 Y),CQ:=false,wc:=wa,fell:=false,pv:=pv} d ld (KS Y ab d ld wa O false L A P) aE (pd.take m) ls/\
     Ad<=m/\m<=pd.length/\St t A P (pd.take m) Ad (AN O ld) false/\Rel L (pd.take m) ld O):=
     ⟨(bZ.o.ai (S':=Up H) λx _ e=>by cases e;exact aB.o.2.2).tr h1,h2,h3,h4,h5,h6⟩
    go_wp2;go_ret;have⟨f1,f2,f3,f4,f5,f6⟩:=dC.o;have⟨l1,l2,l3,l4,l5,l6⟩:=b1.o;exact⟨rfl,l1.tr f1,{n with Cx:=O,dv:=(A5 d),sv:=(A5 Y),CQ:=false,wc:=wa,fell:=false,pv:=pv},pd.take m,ls,dZ.o,l2,l3.al f1,l4,d,Ad,P,aE,l5,l6,.inl ⟨Y,ab,false,L,A,rfl,rfl,rfl,hl,hw,f2,f5,f6,b0.o⟩⟩
  iterate 2
   focus
    rintro e w8⟨rfl,W⟩;refine hK _ _ ⟨W.ah p4,W.ah p0,W.ah p1,W.ah a0⟩ (λhS=>?_);have k8:A4 Aa w7 w8:=⟨W.os,W.DU,W.DW,W.Ak,W.Al⟩;have aI:=A1 (cJ.o.ak k8);have dE:Hid (A4 (One wb) w1 w8):=cH.o.bl k8;have eF:=A1 (cZ.o.aw dL.o k8);have eA:Hid (¬I wb):=b7;have bX:Hid (∀k,I k->k<w8.heap.size):=λk z=>Bn (dL.o k z) k8.Ak;have s4:A8 w8 wb 4 (A5 d):=aI.o.c4;have s5:=aI.o.c5;have z5:=aI.o.fz 5
    iterate 4 refine B4 ?_
    refine Bo ?_;have a9:=(A4.C (One wb) w8).ao (b:=wb) rfl 5 (.pointer none);have aN:=A1 (aI.o.s5 (.pointer none));have dT:Hid (AW (w8.setCell (A9 wb 5) (.pointer none)) d P.D P.F I):=eF.o.aM λk z=>a9.Al k (bX.o k z) (λe=>eA.o (by cases e;exact z));(have bN:Hid (∀k,I k->k<(w8.setCell (A9 wb 5) (.pointer none)).heap.size):=λk z=>by simpa using bX.o k z);have cI:Hid (A4 (One wb) w1 (w8.setCell (A9 wb 5) (.pointer none))):=dE.o.ao rfl 5 _;have bF:=A1 (Q1 dT.o);rw[cY.o]at bF;go_wp2_with (go_at_call 49;refine bF.k ?_;rintro w8 rfl);go_ret;have z:A4 (One wb) w (w8.setCell (A9 wb 5) (.pointer none)):=bR.o.tr cI.o;have⟨l1,l2,l3,l4,l5,l6⟩:=b1.o;(have f1:A4 (Up H) w (w8.setCell (A9 wb 5) (.pointer none)):=z.ai λx _ e=>by cases e;exact aB.o.2.2);exact⟨rfl,l1.tr f1,{n with Cx:=O,dv:=(A5 d),sv:=.pointer none},pd,ls,dZ.o,l2,l3.al f1,l4,d,Ad,P,I,l5,l6,.inr ⟨rfl,dI.o _ d I z aN.o dT.o bN.o (λk z=>by have:=b5.o k z;have:=aB.o;omega),dQ.o⟩⟩
end
section
variable{w:gx}{H wb t N B:Nat}{ld:Int}{n:WN}{pd:gD Pu}{ls:gD (gy×Int)}
def OM(aA:Gc N)(hN:N<=330000)(w:gx)(wa d:Int)(h:DA t H wb ld w n pd ls)(ht:t+3<=330000)(htN:t+2<=N)(hE:Env B w)(aB:B<=H)(W:Ay d):
 Ag 17 #[A5 wb,A0 wa,A0 d] w (Aj (.bool true) λw'=>A4 (Up H) w w'/\LI w' H wb ld t):=by
 have hh:=h;obtain⟨h1,L,h3,h4,-⟩:=h;have⟨b,Ad,P,FT,s1,s2,s3,s4⟩:=hh.eX;have aD:=s4;obtain⟨k1,k2,k3,k4,k5,-⟩:=s4;have z:=h3;obtain⟨ts,⟨Y,X,et,-⟩,-⟩:=h3;have c4:=s3.Ae.c4;rw[s3.Df]at c4;have c13:=s3.Ae.dT;rw[et]at c13;have E:A4 Aa w w.drew:=(A4.C Aa w).aa;have CR:P.D.n.Bh=true->Ag 43 #[A5 wb,A0 n.da,.slice Y ts.length X] w.drew (Aj (.tuple #[]) λw'=>LQ t H wb b Ad ld n.Cx pd ls w w'):=λ_=>by
  refine(UQ (s3.ak E) k1 k2 k3 k4 k5 (by omega) n.da (.slice Y ts.length X) L (by rw[<-et];exact z.al (E.aT))).k ?_;rintro w'⟨q1,O,P',q2,q3,q4,q5⟩;have I:A4 (Up H) w w':=(E.aT (S:=Up H)).tr q1;exact⟨rfl,{n with sv:=.pointer none,fell:=true},P',O,q2,rfl,L,z.al I,s1,q5.trans s2,q4,q3,I⟩
 have aE:P.D.n.Bh=false->LQ t H wb b Ad ld n.Cx pd ls w w:=λhd=>⟨n,P,FT,s3,rfl,L,z,s1,s2,hd,aD,A4.C _ _⟩
 exact ZP aA hN w d n.da P.D.n.Bh Y ts.length X c4 s3.Ae.ds c13 (UI s3.Et) CR aE h4 ht (by omega) hE aB h1 W
end
def WY{d u:Nat}(h:d<=330000)(hu:u<=300+150*d):IntKind.i64.wrap (150*(d:Int))=150*(d:Int)/\IntKind.i64.wrap (300+150*(d:Int))=300+150*(d:Int)/\(u:Int)<=300+150*(d:Int):=by
 refine⟨?_,?_,by omega⟩
 ·simp[IntKind.wrap,IntKind.bits,IntKind.signed];omega
 ·simp[IntKind.wrap,IntKind.bits,IntKind.signed];omega
section
variable{w w':gx}{H wb sb ab b t B:Nat}{n:WN}{ld wc A7:Int}{ro:Bool}{L:Nat->gD Pt}{A:Ar}{P:PD}{FT:Nat->Prop}{pd:gD Pu}{ls:gD (gy×Int)}{Ad:Nat}
def LO(t H wb sb ab b Ad:Nat)(ld wc A7:Int)(L:Nat->gD Pt)(w':gx)(n:WN)(pd:gD Pu)(ls:gD (gy×Int)):Prop:=
 ∃d z h,h.D.n.Av=E7 n.Av/\((∃ro s2,LW w' H wb {n with AF:=((s2:Nat):Int),CQ:=ro} b ld (KS sb ab b ld wc A7 ro L z h) d pd ls/\St (t+1) z h pd s2 (AN A7 ld) ro)\/
  (LW w' H wb {n with CQ:=true,sv:=.pointer none} b ld (KD b h) d pd ls/\EH (t+1) h pd Ad (AN A7 ld) n.fell))
def JM(f:Nat)(H B sb ab b:Nat)(ld wc A7:Int)(ro:Bool)(L:Nat->gD Pt)(A:Ar)(P:PD)(I:Int)(z:Bool)(O:Ar)(E:PD):Prop:=
 ∀h d,KS sb ab b ld wc A7 ro L A P h d->(∀k,d k->k<h.heap.size)->Lets B h->(∀k,d k->H<=k)->Calls Tryz.prog f #[.pointer (some ⟨sb,0,none⟩)] h λe w'=>e=.returned (.int .i64 I)/\Ap h d w' (KS sb ab b ld wc A7 z L O E)
def Q9(t:Nat)(I:Int)(ld wc A7:Int)(ro:Bool)(A:Ar)(P:PD)(pd:gD Pu)(Ad:Nat)(h:Int)(z:Bool)(E:Ar)(d:PD):Prop:=
 (ro=true/\z=true/\h=4/\E=A/\d=P/\St t A P pd Ad (AN A7 ld) true)\/
 (ro=false/\z=decide (h≠0)/\PB d (t+1)/\I0 P h d/\DI (Cs (t+1)) d pd Ad (AN A7 ld)/\Reads (Cs (t+1)) d pd (AN A7 ld)/\(h=0->St (t+1) E d pd pd.length (AN A7 ld) false)/\d.D.n.Av=P.D.n.Av/\(I=6->h≠6)/\
  (I=8->h=0->AU d.F d.D.A6<=300+150*EZ ld wc A7 pd pd.length))
def Yr(w:gx)(kd k tt v cd:Int)(tv:gy)(aA:Bool)(aE:Ar)(E:PD)(h:LW w H wb n b ld (KS sb ab b ld wc A7 ro L A P) FT pd ls)(a9:n.sv=(A5 sb))(aP:n.CQ=ro)(bX:n.Cx=A7)(b0:n.wc=wc)(cG:n.AF=(Ad:Int))(hp:PB P t)(b3:pd.length<=t)(b2:Ad<=pd.length)(cH:∀p∈pd,Bm p)(z:(kd=6/\JM 31 H B sb ab b ld wc A7 ro L A P cd aA aE E)\/(kd=7/\JM 24 H B sb ab b ld wc A7 ro L A P cd aA aE E)\/(kd=8/\JM 25 H B sb ab b ld wc A7 ro L A P cd aA aE E))(bD:Q9 t kd ld wc A7 ro A P pd Ad cd aA aE E)(b8:t+1<=330000)(aM:P.D.n.Av=E7 n.Av)(hl:1<=ld/\ld<=4611686018427387904)(hw:1<=wc/\wc<=4611686018427387904)(hc:Ay A7)(hL:Lets B w):
 Ag 57 #[A5 wb,.agg #[A0 kd,A0 k,A0 tt,A0 v,tv]] w (Aj (.bool true) λw'=>A4 (Up H) w w'/\
  LO t H wb sb ab b Ad ld wc A7 L w' n pd ls):=by
 have ht:t<=330000:=by omega
 have bH:=A1 bD;have aT:=A1 cH;have aD:=A1 (And.intro b3 b2);have bQ:=A1 hL;have aX:=A1 (And.intro hl (And.intro hw hc));have aS:=A1 (And.intro bX (And.intro b0 (And.intro cG h.Gb)));have a7:Hid (0<=P.D.n.Bk/\P.D.n.Bk<=330000):=by have:=hp.refQ;exact⟨by omega,by omega⟩
 have aW:Hid (0<=P.D.n.fulls/\P.D.n.fulls<=330000):=by have:=hp.JB;exact⟨by omega,by omega⟩
 have cD:=A1 (And.intro ht b8);have hA:=(A4.C Aa w).aj (BL kd k tt v tv);obtain⟨o0,-,-,-⟩:=GB w kd k tt v tv;have h1:=h.ak hA;have cB:=h.lt;have aR:w.heap.size<(w.alloc (BL kd k tt v tv)).heap.size:=by simp
 generalize bV:w.alloc (BL kd k tt v tv)=w1 at hA o0 h1 aR;unfold BL at bV;obtain⟨O,a4⟩:∃O,P.D.n.Bk=O:=⟨_,rfl⟩;obtain⟨fu,aZ⟩:∃fu,P.D.n.fulls=fu:=⟨_,rfl⟩;obtain⟨cn,bO⟩:∃cn,P.D.n.Bc=cn:=⟨_,rfl⟩;obtain⟨rm,aJ⟩:∃rm,P.D.n.Av=rm:=⟨_,rfl⟩;obtain⟨us,aI⟩:∃us,AU P.F P.D.A6=us:=⟨_,rfl⟩;have cE:=Pw hp ht;have cX:=A1 h1.dR;rw[a4,aZ]at cX;rw[aJ,aI]at cE;rw[aJ]at aM;have aG:=A1 a4;have bK:=A1 aZ;have bE:=A1 bO;have bC:=A1 aJ;have a2:Hid (AU P.F P.D.A6=us/\us<=4611686018427387904):=⟨aI,by rw[<-aI];exact hp.bB ht⟩;have dB:=A1 hA;have bS:=A1 h1;have b7:=A1 cB;have bB:=A1 h.Ae.lt;rw[a4]at a7;rw[aZ]at aW;rcases z with⟨rfl,z⟩|⟨rfl,z⟩|⟨rfl,z⟩
 all_goals
  have a6:=A1 z
  go_enter func57,ntmps57
  go_wp2_with (fail);refine cX.k ?_;rintro I k2;have v4:A8 (I.alloc (.cells #[A0 O,A0 fu] 85)) wb 4 (A5 b):=((bS.o.ak (k2.aj _)).Ae.c4).trans (by rw[bS.o.Df]);go_wp2_with (fail);have k3:A4 Aa w1 (I.alloc (.cells #[A0 O,A0 fu] 85)):=k2.aj _;have bF:=Bl I (.cells #[A0 O,A0 fu] 85);have m0:A8 (I.alloc (.cells #[A0 O,A0 fu] 85)) I.heap.size 0 (A0 O):=D7 bF;have m1:A8 (I.alloc (.cells #[A0 O,A0 fu] 85)) I.heap.size 1 (A0 fu):=D7 bF;have cJ:Hid (w1.heap.size<=I.heap.size/\w.heap.size<w1.heap.size):=⟨k2.Ak,aR⟩;generalize I.alloc (.cells #[A0 O,A0 fu] 85)=w3 at k3 m0 m1 v4 ⊢;have bL:=A1 (bS.o.ak k3);have dA:Hid (A4 Aa w w3):=dB.o.tr k3;have p0:=k3.ah o0;have bI:=A1 bL.o.Bc;rw[bE.o]at bI;refine bI.k ?_;rintro w4 rfl;have c2:=bL.o.Ae.c2;have dD:=A1 (Ol w3.drew aM);have dE:Hid (Ag 90 #[A5 b] w3.drew (Aj (A0 us) λw'=>A4 Aa w3.drew w')):=by
   have:=(bL.o.ak (A4.C Aa w3).aa).bB (by rw[a2.o.1];exact a2.o.2);rw[a2.o.1]at this;exact this
  go_wp2;refine Br (λw'=>A8 w' wb 2 (A0 n.Av)/\A8 w' wb 4 (A5 b)) 12
   (Ba [0,1,2,3,4,6,7,8,9,5,10,11] [5,10]) ⟨c2,v4⟩ ?_
  iterate 9 refine B4 ?_
  refine Bf λK hK=>?_;go_simp;refine dD.k ?_;rintro w4 rfl;refine hK _ _ ⟨c2,v4⟩ (λhS=>?_);refine Bf λK hK=>?_;go_simp;refine dE.k ?_;rintro w4 k4;have aB:A4 Aa w3 w4:=⟨k4.os,k4.DU,k4.DW,k4.Ak,k4.Al⟩;refine hK _ _ ⟨aB.ah c2,aB.ah v4⟩ (λhS=>?_);have cL:=A1 (bL.o.ak aB);have cM:Hid (A4 Aa w w4):=dA.o.tr aB;have q0:=aB.ah p0;have n0:=aB.ah m0;have n1:=aB.ah m1;refine B4 ?_;refine Bo ?_;have c5:A8 w4 wb 5 n.sv:=cL.o.Ae.c5;rw[a9]at c5
  have SV:Hid (∀f,JM f H B sb ab b ld wc A7 ro L A P cd aA aE E->Ag f #[A5 sb] w4 (Aj (A0 cd) λw'=>A4 (Up H) w4 w'/\(∀o u,A8 w4 w.heap.size o u->A8 w' w.heap.size o u)/\
   w'.cell? (A9 I.heap.size 0)=some (A0 O)/\A8 w' I.heap.size 1 (A0 fu)/\∃bZ,LW w' H wb n b ld (KS sb ab b ld wc A7 aA L aE E) bZ pd ls)):=λf hf=>by
   have aO:=cL.o;have h4:=cM.o;refine(hf w4 FT aO.Et aO.lt (bQ.o.aL h4) aO.FO).k ?_;rintro w' hS;have⟨r1,FT2,r2⟩:=aO.cM (KS.E5 sb ab b ld wc A7 aA L aE E) hS;(have nb:∀x,w.heap.size<=x->¬FT x:=λx hx hy=>by have:=b7.o x hy;omega);(have hm:w.heap.size<=I.heap.size:=by have:=cJ.o;omega);exact⟨rfl,r1,λo u hu=>Dt (w:=w4) hS.1 hu (nb _ (Ao _)),Dt (w:=w4) hS.1 n0 (nb _ hm),Dt (w:=w4) hS.1 n1 (nb _ hm),FT2,r2⟩
  have bW:=A1 (SV.o _ a6.o);go_wp2_with (fail);refine bW.k ?_;rintro w5⟨k5,cI,m5,m6,aQ,hR⟩;have q5:=cI 0 _ q0;have cV:Hid (A4 (Up H) w w5):=(cM.o.aT (S:=Up H)).tr k5;have bA:=A1 hR;have d9:=hR.Ae.c9;have d4:=hR.Ae.c4;rw[hR.Df]at d4;obtain⟨ap,cp,aU,hp1,hp2,-⟩:=bA.o.DC.BW;rcases bH.o with⟨rfl,rfl,rfl,rfl,rfl,hS⟩|⟨rfl,rfl,z1,z2,z3,z4,z5,z6,z7,z8⟩
  ·rw[aP]at d9;have bI:=A1 bA.o.Bc;rw[bE.o]at bI;have d:Hid (A4 (Up H) w w5/\LO t H wb sb ab b Ad ld wc A7 L w5 n pd ls):=by
    refine⟨cV.o,aQ,_,_,bC.o.trans aM,.inl ⟨true,Ad,?_,hS.ai (ER t)⟩⟩;(have en:({n with AF:=(Ad:Int),CQ:=true}:WN)=n:=by rw[<-aS.o.2.2.1,<-aP]);rw[en];exact bA.o
   go_wp2_with (go_at_call 49;refine bI.k ?_;rintro w6 rfl);go_ret;exact⟨rfl,d.o⟩
  rw[aP]at d9;have b5:Hid (E.D.n.Bh=true->EH (t+1) E pd Ad (AN A7 ld) n.fell):=λhd=>⟨z1,z3,aT.o,JO aD.o.1,aD.o.2,.inl hd⟩
  have bR:Hid (E.D.n.Bh=false->St (t+1) aE E pd Ad (AN A7 ld) true):=λhd=>St.cV z1 z3 z4 aT.o (JO aD.o.1) aD.o.2 hd;have cA:=A1 z2;have bY:=A1 z5;have aV:Hid (E.D.n.Av=E7 n.Av):=z6.trans (bC.o.trans aM);have cT:=A1 z7;have dC:=A1 z8;have dF:=A1 z1;have b4:=A1 aT.o;have cU:=A1 (bA.o.ak (A4.C Aa w5).aa).Bk;generalize aH:E.D.n.Bk=rf2 at cU;have bT:(cd=0/\rf2=O)\/((cd=5\/cd=6)/\rf2=O+1):=by
   rcases z2 with⟨q1,q2,-⟩|⟨q1,q2,-⟩|⟨q1,q2,-⟩
   ·exact .inl ⟨q1,by rw[<-aH,q2,aG.o]⟩
   ·exact .inr ⟨.inl q1,by rw[<-aH,q2,aG.o]⟩
   ·exact .inr ⟨.inr q1,by rw[<-aH,q2,aG.o]⟩
  go_wp2;refine Br (λw'=>A8 w' wb 4 (A5 b)/\A8 w' I.heap.size 0 (A0 O)) 7
   (Ba [0,1,2,3,5,6,4] [4]) ⟨d4,m5⟩ ?_
  iterate 6 refine B4 ?_
  refine Bf λK hK=>?_;go_simp;refine cU.k ?_;rintro w9 rfl;refine hK _ _ ⟨d4,m5⟩ (λhS=>?_);refine Bo ?_;have aF:=A1 (bA.o.ak (A4.C Aa w5).aa);have b6:Hid (A4 (Up H) w w5.drew):=cV.o.aa;have t0:w5.drew.cell? (A9 w.heap.size 0)=_:=q5;have t5:w5.drew.cell? (A9 I.heap.size 0)=_:=m5;have t6:w5.drew.cell? (A9 I.heap.size 1)=_:=m6;generalize w5.drew=w6 at aF b6 t0 t5 t6 ⊢;have bU:wb≠w.heap.size:=by have:=aF.o.Ae;intro e;have:=bB.o;omega
  rcases bT with⟨rfl,rfl⟩|⟨aL,rfl⟩
  ·have z7:=aF.o.Ae.fz 7;have s7:=aF.o.Ae.c7;have d6:A8 w6 wb 6 n.pv:=aF.o.Ae.c6;rw[aU]at d6;have⟨k7,h7⟩:=aF.o.CO (n':={n with AF:=((pd.length:Nat):Int)}) 7 (A0 pd.length) (aF.o.Ae.s7 _) rfl rfl rfl rfl;have cQ:Hid (A4 (Up H) w (w6.setCell (A9 wb 7) (A0 pd.length))):=b6.o.tr k7;have aK:=A1 h7;have u0:=(GN w6 (A9 wb 7) (A9 w.heap.size 0) (A0 pd.length) (by simp;try omega)).trans t0;have aY:Hid (∀w',A4 Aa (w6.setCell (A9 wb 7) (A0 pd.length)) w'->A4 (Up H) w w'/\LO t H wb sb ab b Ad ld wc A7 L w' n pd ls):=λw' aN=>by
    refine⟨cQ.o.bl aN,aQ,aE,E,aV.o,.inl ⟨false,pd.length,?_,bY.o rfl⟩⟩;(have en:({n with AF:=((pd.length:Nat):Int),CQ:=false}:WN) = {n with AF:=((pd.length:Nat):Int)}:=by rw[<-aP]);rw[en];exact aK.o.ak aN
   have dH:=A1 λh8=>dC.o h8 rfl;go_wp2_with (fail);generalize (w6.setCell (A9 wb 7) (A0 pd.length))=w7 at aK cQ u0 aY ⊢
   first
    | (go_ret;exact⟨rfl,aY.o w7 (A4.C _ _)⟩)
    | skip
   all_goals
    have e6:A8 w7 wb 6 n.pv:=aK.o.Ae.c6;have e0:A8 w7 wb 0 (A0 n.ld):=aK.o.Ae.c0;have a5:A8 w7 wb 11 (A0 n.wc):=aK.o.Ae.cQ;have a3:A8 w7 wb 10 (A0 n.Cx):=aK.o.Ae.bt;have e4:A8 w7 wb 4 (A5 b):=aK.o.Ae.c4.trans (Ep some aK.o.Df);obtain⟨q1,q2,-,q4⟩:=aS.o;rw[aU]at e6;rw[q4]at e0;rw[q2]at a5;rw[q1]at a3;have cZ:Hid (Ag 95 #[.slice ap pd.length cp,A0 ld,A0 wc,A0 A7] w7.drew (Aj (A0 (EZ ld wc A7 pd pd.length)) λw'=>A4 Aa w7.drew w')):=by
     have:=A04 w7.drew n.pv pd ld wc A7 (aK.o.ak (A4.C Aa w7).aa).DC (by have:=aD.o.1;have:=cD.o.1;omega) (λp hp=>(b4.o p hp).2.1) aX.o.1 aX.o.2.1 aX.o.2.2
     rwa [aU]at this
    have cO:Hid (EZ ld wc A7 pd pd.length<=330000):=AP (TX ..) (by have:=aD.o.1;have:=cD.o.1;omega);have b1:=A1 (dH.o (by trivial));have cF:Hid (∀w',A4 Aa w7 w'->Ag 90 #[A5 b] w' (Aj (A0 (AU E.F E.D.A6)) λI=>A4 Aa w' I)):=λw' aN=>(aK.o.ak aN).bB (dF.o.bB cD.o.2)
    refine Br (λw'=>A8 w' wb 6 (.slice ap pd.length cp)/\A8 w' wb 0 (A0 ld)/\A8 w' wb 11 (A0 wc)/\A8 w' wb 10 (A0 A7)) 18
     (Ba [0,1,2,3,4,5,6,7,8,9,10,11,12,13,14,15,16,17] [17]) ⟨e6,e0,a5,a3⟩ ?_
    iterate 17 refine B4 ?_
    refine Bf λK hK=>?_;go_simp;refine cZ.k ?_;rintro w8 k8;have Y:A4 Aa w7 w8:=((A4.C Aa w7).aa).tr k8;refine hK _ _ ⟨Y.ah e6,Y.ah e0,Y.ah a5,Y.ah a3⟩ (λhS=>?_);have dG:=A1 Y;have e4':=Y.ah e4;have bJ:=A1 (cF.o w8 Y);refine Bo ?_;obtain⟨kn,bN⟩:∃kn,EZ ld wc A7 pd pd.length=kn:=⟨_,rfl⟩;obtain⟨u2,bP⟩:∃u2,AU E.F E.D.A6=u2:=⟨_,rfl⟩;rw[bN]at cO b1 ⊢;rw[bP]at b1 bJ;have⟨y1,y2,y3⟩:=WY cO.o b1.o;go_wp2_with (fail);refine bJ.k ?_;rintro w9 k9;have d:=A1 (aY.o w9 (dG.o.tr k9));go_wp2;go_ret;exact⟨rfl,d.o⟩
  ·have hgt:O<O+1:=Int.lt_succ O;have z9:=aF.o.Ae.fz 9;have s9:A8 w6 wb 9 (.bool n.CQ):=aF.o.Ae.c9;have cY:Hid (∀w',LW w' H wb {n with CQ:=true} b ld (KS sb ab b ld wc A7 (decide (cd≠0)) L aE E) aQ pd ls->Ag 51 #[A5 wb,A0 cd,.agg #[A0 O,A0 fu]] w' λe cC=>e=.returned (.bool true)/\A4 Aa w' cC):=λw' hw=>by
    rcases cA.o with⟨q1,-⟩|⟨q1,q2,q3⟩|⟨q1,q2,q3,-⟩
    ·exact absurd q1 (by rcases aL with h|h<;>(rw[h];decide))
    ·subst q1;exact Vj w' O fu hw (by rw[q2,aG.o]) (by rw[q3,bK.o]) a7.o aW.o
    ·subst q1;exact Vh w' O fu hw (by rw[q2,aG.o]) (by rw[q3,bK.o]) a7.o aW.o
   have⟨k9,h9⟩:=aF.o.CO (n':={n with CQ:=true}) 9 (.bool true) (aF.o.Ae.s9 true) rfl rfl rfl rfl;(have mb8:wb≠I.heap.size:=by have h1:=cJ.o;have h2:=bB.o;omega);have u0:=(GN w6 (A9 wb 9) (A9 w.heap.size 0) (.bool true) (by simp;try omega)).trans t0;have u5:=(GN w6 (A9 wb 9) (A9 I.heap.size 0) (.bool true) (by simp;try omega)).trans t5;have u6:=(GN w6 (A9 wb 9) (A9 I.heap.size 1) (.bool true) (by simp;try omega)).trans t6;have cN:=A1 h9;have cS:Hid (A4 (Up H) w (w6.setCell (A9 wb 9) (.bool true))):=b6.o.tr k9;have cP:=A1 (cY.o _ h9);have bM:=A1 bU;(have b9:Hid (decide (cd≠0)=true):=by rcases aL with h|h<;>(rw[h];rfl));go_wp2_with (fail);generalize (w6.setCell (A9 wb 9) (.bool true))=w9 at cN cS cP u0 u5 u6 ⊢;refine cP.k ?_;rintro X a1;have W:=A1 (cN.o.ak a1);have bG:Hid (A4 (Up H) w X):=cS.o.bl a1;have v0:=a1.ah u0;have e4:A8 X wb 4 (A5 b):=W.o.Ae.c4.trans (Ep some W.o.Df);have a8:=A1 W.o.Bh;have y5:=W.o.Ae.fz 5;have s5:A8 X wb 5 n.sv:=W.o.Ae.c5;rw[a9]at s5;cases hdd:E.D.n.Bh with
   | true=>
    rw[hdd]at a8;have d:Hid (A4 (Up H) w (X.setCell (A9 wb 5) (.pointer none))/\LO t H wb sb ab b Ad ld wc A7 L (X.setCell (A9 wb 5) (.pointer none)) n pd ls):=by
     have⟨k11,h11⟩:=W.o.CO (n':={n with CQ:=true,sv:=.pointer none}) 5 (.pointer none) (W.o.Ae.s5 _) rfl rfl rfl rfl;have⟨Ft,h12⟩:=h11.bQ;exact⟨bG.o.tr k11,Ft,aE,E,aV.o,.inr ⟨h12,b5.o hdd⟩⟩
    have x0:=(GN X (A9 wb 5) (A9 w.heap.size 0) (.pointer none) (by have:=bM.o;simp;try omega)).trans v0;rcases aL with rfl|rfl
    ·go_wp2_with (go_at_call 36;refine a8.k ?_;rintro a0 rfl);go_ret;exact⟨rfl,d.o⟩
    ·first
      | (exfalso;have h:=cT.o;simp at h;done)
      | (go_wp2_with (go_at_call 36;refine a8.k ?_;rintro a0 rfl)
         go_ret
         exact⟨rfl,d.o⟩)
   | false=>
    rw[hdd]at a8;have d:Hid (A4 (Up H) w X/\LO t H wb sb ab b Ad ld wc A7 L X n pd ls):=by
     refine⟨bG.o,aQ,aE,E,aV.o,.inl ⟨true,Ad,?_,bR.o hdd⟩⟩;(have en:({n with AF:=(Ad:Int),CQ:=true}:WN) = {n with CQ:=true}:=by rw[<-aS.o.2.2.1]);rw[en];have:=W.o
     rwa [b9.o]at this
    rcases aL with rfl|rfl
    ·go_wp2_with (go_at_call 36;refine a8.k ?_;rintro a0 rfl);go_ret;exact⟨rfl,d.o⟩
    ·first
      | (exfalso;have h:=cT.o;simp at h;done)
      | (go_wp2_with (go_at_call 36;refine a8.k ?_;rintro a0 rfl)
         go_ret
         exact⟨rfl,d.o⟩)
end
end
section
open Go.RowKit
section
variable{w w':gx}{H wb t N B:Nat}{ld:Int}{n:WN}{pd:gD Pu}{ls:gD (gy×Int)}
def Yq(aH:Gc N)(hN:N<=330000)(w:gx)(O a b3 c3:Int)(tv:gy)(aF:O=6\/O=7\/O=8)(h:DA t H wb ld w n pd ls)(aJ:n.sv≠.pointer none)(hL:Lets B w)(aD:B<=H)(ht:t+1<=330000)(aK:t<=N):
 Ag 57 #[A5 wb,.agg #[A0 O,A0 a,A0 b3,A0 c3,tv]] w (Aj (.bool true) λw'=>A4 (Up H) w w'/\LI w' H wb ld (t+1)):=by
 obtain⟨h1,h2,h3,h4,b,Ad,P,FT,h5,h6,h7⟩:=h;rcases h7 with⟨sb,ab,ro,L,A,g1,g2,g3,g4,g5,g6,E,g8,g9⟩|⟨g1,-⟩
 ·have key:∀cd z aB aA,((O=6/\JM 31 H B sb ab b ld n.wc n.Cx ro L A P cd z aB aA)\/(O=7/\JM 24 H B sb ab b ld n.wc n.Cx ro L A P cd z aB aA)\/(O=8/\JM 25 H B sb ab b ld n.wc n.Cx ro L A P cd z aB aA))->
   Q9 t O ld n.wc n.Cx ro A P pd Ad cd z aB aA->
   Ag 57 #[A5 wb,.agg #[A0 O,A0 a,A0 b3,A0 c3,tv]] w (Aj (.bool true) λw'=>A4 (Up H) w w'/\LI w' H wb ld (t+1)):=λcd z aB aA k1 k2=>by
   refine(Yr w O a b3 c3 cd tv z aB aA g6 g1 g2 rfl rfl h5 E.pb E.Be E.le E.pu k1 k2 ht h6 g4 g5 h1 hL).k ?_;rintro w'⟨hc,aE,aB,aA,d,Y⟩;rcases Y with⟨aI,s2,r1,r2⟩|⟨r1,r2⟩
   ·exact⟨rfl,hc,{n with AF:=((s2:Nat):Int),CQ:=aI},pd,ls,h1,h2,h3.al hc,by omega,b,s2,aA,aE,rfl,d,.inl ⟨sb,ab,aI,L,aB,g1,rfl,g3,g4,g5,r1,r2,g8,λk hk=>JO (g9 k hk)⟩⟩
   ·exact⟨rfl,hc,{n with CQ:=true,sv:=.pointer none},pd,ls,h1,h2,h3.al hc,by omega,b,Ad,aA,aE,h5,d,.inr ⟨rfl,r1,r2⟩⟩
  cases ro with
  | true=>
   have X:Q9 t O ld n.wc n.Cx true A P pd Ad 4 true A P:=.inl ⟨rfl,rfl,rfl,rfl,rfl,E⟩;rcases aF with rfl|rfl|rfl
   ·exact key 4 true A P (.inl ⟨rfl,λI W d _ _ _=>Xg I d⟩) X
   ·exact key 4 true A P (.inr (.inl ⟨rfl,λI W d Y _ _=>Ux I d Y⟩)) X
   ·exact key 4 true A P (.inr (.inr ⟨rfl,λI W d Y _ _=>A25 I d Y⟩)) X
  | false=>
   have aG:=AP E.Be aK;rcases aF with rfl|rfl|rfl
   ·have⟨a1,a2,a3,a4,a5,a6⟩:=E.ad ht;exact key _ _ _ _ (.inl ⟨rfl,λI W d Y q3 q4=>Xe I d Y q3 λk hk=>AP aD (q4 k hk)⟩) (.inr ⟨rfl,rfl,a1,a2,a3,a4,a5,YD A P,λ_=>a6,λe=>by cases e⟩)
   ·have⟨a1,a2,a3,a4,a5⟩:=E.aS (wa:=n.wc) (Ga _) ht;exact key _ _ _ _ (.inr (.inl ⟨rfl,λI W d Y q3 q4=>Uw aH hN I d Y E ht aG g5 q3 λk hk=>AP aD (q4 k hk)⟩)) (.inr ⟨rfl,rfl,a1,a2,a3,a4,a5,YA A P n.wc,λe=>(by cases e),λe=>by cases e⟩)
   ·have⟨a1,a2,a3,a4,a5⟩:=E.aN (wa:=n.wc) (Ga _) ht;exact key _ _ _ _ (.inr (.inr ⟨rfl,λI W d Y q3 q4=>A23 aH hN I d Y E ht aG g5 q3 (λk hk=>AP aD (q4 k hk)) g4 h1⟩)) (.inr ⟨rfl,rfl,a1,a2,a3,a4,a5,YB A P n.wc _,λe=>(by cases e),λ_=>E.dq (wa:=n.wc) (Ga _) ht⟩)
 ·exact absurd g1 aJ
end
end
section
open Go.RowKit
attribute [local go_sem ↓] Go.wp_at_zero Go.wp_at_succ
section
variable{w w':gx}{H wb t N B:Nat}{ld:Int}{n:WN}{pd:gD Pu}{ls:gD (gy×Int)}
def LI.cX{d:Nat}(h:LI w H wb ld t)(z:t<=d):LI w H wb ld d:=by
 obtain⟨n,pd,ls,h⟩:=h;exact⟨n,pd,ls,h.ai z⟩
def XO(aE:Gc N)(hN:N<=330000)(w:gx)(E a z c3:Int)(tv:gy)(aD:E=1\/E=9\/E=10\/E=11)(h:DA t H wb ld w n pd ls)(hE:Env B w)(aG:B<=H)(ht:t+3<=330000)(aI:t+2<=N)(ha:Ay a)(hb:Ay z)(Y:EA H w tv):
 Ag 18 #[A5 wb,.agg #[A0 E,A0 a,A0 z,A0 c3,tv]] w (Aj (.bool true) λw'=>A4 (Up H) w w'/\LI w' H wb ld (t+1)):=by
 have hA:=(A4.C Aa w).aj (BL E a z c3 tv);have⟨o0,o1,o2,o3⟩:=GB w E a z c3 tv;have o4:A8 (w.alloc (BL E a z c3 tv)) w.heap.size 4 tv:=by
  have aA:=Bl w (BL E a z c3 tv);unfold BL at aA ⊢;simp only[A8,World.cell?,aA];rfl
 have h1:=h.ak hA;have X:=hE.aL hA;have d:=Y.al (hA.aT (S:=Up H));generalize aF:w.alloc (BL E a z c3 tv)=w1 at hA o0 o1 o2 o3 o4 h1 X d;unfold BL at aF;have aB:Hid (A4 (Up H) w w1):=hA.aT;obtain⟨ts,⟨ta,tc,rfl,-⟩,-⟩:=Y;rcases aD with rfl|rfl|rfl|rfl
 ·have aJ:=A1 (OM aE hN w1 a z h1 ht aI X aG hb)
  go_enter func18,ntmps18
  go_wp2_with (fail);refine aJ.k ?_;rintro w2⟨W,O⟩;have I:=A1 W;have L:=A1 O;go_wp2;go_ret;exact⟨rfl,aB.o.tr I.o,L.o.cX (ER t)⟩
 ·have CR:=A1 (A2x w1 a (.slice ta ts.length tc) h1 (by omega) ha d)
  go_enter func18,ntmps18
  go_wp2_with (fail);refine CR.k ?_;rintro w2⟨W,O⟩;have I:=A1 W;have L:=A1 O;go_wp2;go_ret;exact⟨rfl,aB.o.tr I.o,L.o.cX (ER t)⟩
 ·have aH:=A1 (A2m w1 10 a z c3 (.slice ta ts.length tc) h1 (by decide) ha hb d)
  go_enter func18,ntmps18
  go_wp2_with (fail);refine aH.k ?_;rintro w2⟨W,O⟩;have I:=A1 W;have L:=A1 O;go_wp2;go_ret;exact⟨rfl,aB.o.tr I.o,L.o.cX (ER t)⟩
 ·have aH:=A1 (A10 w1 a z c3 (.slice ta ts.length tc) h1 ha hb)
  go_enter func18,ntmps18
  go_wp2_with (fail);refine aH.k ?_;rintro w2⟨W,O⟩;have I:=A1 W;have L:=A1 O;go_wp2;go_ret;exact⟨rfl,aB.o.tr I.o,L.o.cX (ER t)⟩
def XL(aB:Gc N)(hN:N<=330000)(w:gx)(z a E c3:Int)(tv:gy)(I:z=6\/z=7\/z=8)(h:DA t H wb ld w n pd ls)(hL:Lets B w)(aE:B<=H)(ht:t+1<=330000)(aF:t<=N):
 Ag 18 #[A5 wb,.agg #[A0 z,A0 a,A0 E,A0 c3,tv]] w (Aj (.bool true) λw'=>A4 (Up H) w w'/\LI w' H wb ld (t+1)):=by
 have Y:=(A4.C Aa w).aj (BL z a E c3 tv);have⟨o0,o1,o2,o3⟩:=GB w z a E c3 tv;have o4:A8 (w.alloc (BL z a E c3 tv)) w.heap.size 4 tv:=by
  have O:=Bl w (BL z a E c3 tv);unfold BL at O ⊢;simp only[A8,World.cell?,O];rfl
 have W:=h.ak Y;have X:=hL.aL Y;generalize aD:w.alloc (BL z a E c3 tv)=w1 at Y o0 o1 o2 o3 o4 W X;unfold BL at aD;have aG:Hid (A4 (Up H) w w1):=Y.aT;have aA:Hid (LI w1 H wb ld (t+1)):=⟨n,pd,ls,W.ai (ER t)⟩;have aI:Hid (n.sv≠.pointer none->_):=λd=>Yq aB hN w1 z a E c3 tv I W d X aE ht aF;have c5:A8 w1 wb 5 n.sv:=W.Ae.c5;have d:n.sv=.pointer none\/∃sb,n.sv=(A5 sb):=by
  obtain⟨-,-,-,-,b,Ad,P,FT,-,-,h7⟩:=W;rcases h7 with⟨sb,ab,ro,L,A,g1,-⟩|⟨g1,-⟩
  ·exact .inr ⟨sb,g1⟩
  ·exact .inl g1
 rcases d with d|⟨sb,d⟩
 ·rw[d]at c5;rcases I with rfl|rfl|rfl
  all_goals
   go_enter func18,ntmps18
   go_wp2;go_ret;exact⟨rfl,aG.o,aA.o⟩
 ·have SB:=A1 (aI.o (by rw[d];simp));rw[d]at c5;rcases I with rfl|rfl|rfl
  all_goals
   go_enter func18,ntmps18
   go_wp2_with (fail);refine SB.k ?_;rintro w2⟨k2,hI⟩;have aH:=A1 k2;have aA:=A1 hI;go_wp2;go_ret;exact⟨rfl,aG.o.tr aH.o,aA.o⟩
def XN(O:Gc N)(hN:N<=330000)(w:gx)(d a E c3:Int)(tv:gy)(h:LI w H wb ld t)(X:Env B w)(z:B<=H)(ht:t+3<=330000)(Y:t+2<=N)(ha:Ay a)(hb:Ay E)(aA:Ay c3)(W:EA H w tv):
 Calls Tryz.prog 18 #[.pointer (some ⟨wb,0,none⟩),.agg #[.int .i64 d,.int .i64 a,.int .i64 E,.int .i64 c3,tv]] w λe w'=>e=.returned (.bool true)/\A4 (Up H) w w'/\LI w' H wb ld (t+1):=by
 obtain⟨n,pd,ls,L⟩:=h;by_cases k1:d=1\/d=9\/d=10\/d=11
 ·exact XO O hN w d a E c3 tv k1 L X z ht Y ha hb W
 ·by_cases k2:d=6\/d=7\/d=8
  ·exact XL O hN w d a E c3 tv k2 L X.1 z (by omega) (by omega)
  ·(have hk:d∉[1,6,7,8,9,10,11]:=by simp;omega);by_cases I:n.sv=.pointer none
   ·refine(XM w d a E c3 tv L.Ae I hk).k ?_;rintro w' q1;exact⟨rfl,q1.aT,n,pd,ls,(L.ak q1).ai (ER t)⟩
   ·exact XK w d a E c3 tv L I X.1 z (by omega) ha hb aA hk
end
def WU:piece (EB (λ_=>[]) (AN 0 5) 1 2 3 1) (max 0 (AN 0 5)) 9=[(2,3)]:=by decide +kernel
def WV{d:Nat->gD Pt}(h:Hr (EB (λ_=>[]) (AN 0 5) 1 2 3) d (AN (DJ 0 7) 5)):piece (d 1) (max 0 (AN (DJ 0 7) 5)) 9=[]:=by
 rcases h 1 (by omega) with e|e
 ·rw[e];decide +kernel
 ·rw[e];decide +kernel
def ZV{B:Nat}(w:gx)(room:Int)(b:Nat)(Ft:Nat->Prop)(h:Bu w b (Dc room) Ft)(d:∀k,Ft k->k<w.heap.size)(hr:0<=room/\room<=9223372036854775807)(O:Env B w)(ld wc A7:Int)(hl:1<=ld/\ld<=4611686018427387904)(hw:1<=wc/\wc<=4611686018427387904)(hc:Ay A7):
 Ag 22 #[A5 b,.agg #[A0 ld,A0 wc],A0 A7] w λe w'=>
  ∃ab z,e=.returned (.tuple #[A5 z,A0 0])/\w.heap.size<=z/\Ap w Ft w' (λw' L=>SF w' z ab b 0 ld wc A7 false (λ_=>[]) ⟨⟨1,[]⟩,⟨[],0,0,none⟩,0,[]⟩ (Dc room) L):=by
 refine(Ta w ld wc A7 hl hw hc d (P:=Dc room) (Ft:=Ft) (b:=b) (λA Y h=>by rw[Pq]at h;cases h;simp) λX E=>?_).mono ?_
 ·refine Vk X (AW.aw h d E) (λk I=>Bn (d k I) E.Ak) (Uo hr) ⟨by omega,by omega,by omega⟩ (by omega) (O.1.aL E) (O.2.1.aL E) (λnm hm=>by cases hm) (λix W=>?_) (λfirst=>?_)
  ·rw[Pk (Pr room AJ)]at W;cases W;simp
  ·rw[show (Dc room).Az=[] from rfl];simp[BU,PD.pd,PD.bq]
 ·rintro e w' (⟨n,h1,-⟩|⟨A,Y,ab,z,h1,rfl,h2,h3⟩)
  ·rw[Pq]at h1;cases h1
  ·rw[Pq]at h1;cases h1;exact⟨ab,z,rfl,h2,h3⟩
def Zi{B W ab b:Nat}{FT:Nat->Prop}{ld wc A7:Int}(w:gx)(room:Int)(p:Pu)(h:SF w W ab b 0 ld wc A7 false (λ_=>[]) ⟨⟨1,[]⟩,⟨[],0,0,none⟩,0,[]⟩ (Dc room) FT)(I:∀k,FT k->k<w.heap.size)(hr:1000<=room/\room<=9223372036854775807)(X:Bm p)(Y:Lets B w)(O:∀k,FT k->B<=k)(hl:1<=ld/\ld<=4611686018427387904)(hc:Ay A7):
 Calls Tryz.prog 23 #[.pointer (some ⟨W,0,none⟩),.int .i64 p.1,.int .i64 p.2.1,.int .i64 p.2.2] w λe w'=>e=.returned (.int .i64 0)/\
  ∃A' P',Ap w FT w' (λw' z=>SF w' W ab b 0 ld wc A7 false (EB (λ_=>[]) (AN A7 ld) p.1.toNat p.2.1 p.2.2) A' P' z):=by
 have d:Cm (Dc room) (3+0+3) 33:=A1L (by omega) (by omega);obtain⟨a1,a2,-,-,-⟩:=(Lay.gw (Pr room)).af (N:=3) (by simpa using d) (λ_=>rfl) p X (by omega);have E:CK (0+1)/\Ay (0+1)/\Ay 0:=⟨HR (by omega) (by omega),by constructor<;>omega,by constructor<;>omega⟩;refine(Sz w p h I X (λ_=>E) (by simp) Y O (Uo (by omega)) ⟨by omega,by omega,by omega⟩ (λ_ _=>by simp) hl hc).k ?_;rintro w' L;rw[a2]at L ⊢;rw[a1]at L;exact⟨rfl,_,_,L⟩
def A3D{B:Nat}(w:gx)(hE:Env B w):
 Ag 15 #[] w (Aj (.bool true) λw'=>A4 Aa w w'):=by
 have a3:Hid (Ag 21 #[A0 100000] w λe w'=>∃b,e=.returned (A5 b)/\Bu w' b (Dc 100000) (One w.heap.size)/\A4 Aa w w'/\w'.heap.size=w.heap.size+1):=by
  refine(Tm (F:=λ_=>([],0)) 100000 w).k ?_;rintro w'⟨h1,h2,h3⟩;exact⟨_,rfl,h1,h2,h3⟩
 have aK:=A1 hE
 go_enter func15,ntmps15
 go_wp2_with (fail);refine a3.m ?_;rintro e w1⟨b,rfl,aP,k1,hz1⟩;have a4:=A1 (ZV w1 100000 b (One w.heap.size) aP (λk d=>by cases d;omega) (by omega) (aK.o.aL k1) 5 5 0 (by omega) (by omega) (by constructor<;>omega));have aU:=A1 k1;go_wp2_with (fail);refine a4.m ?_;rintro e w2⟨ab,sb,rfl,hsb,k2,X,hV,aD,aG⟩;have aN:Hid (A4 Aa w w2):=aU.o.bW k2 λk d=>by cases d;omega
 have aL:Hid (∀k,X k->w.heap.size<=k):=λk d=>(aG k d).elim (λh=>by cases h;exact Ao _) λh=>AP aU.o.Ak h
 have a1:Hid (Ag 23 #[A5 sb,A0 1,A0 2,A0 3] w2 (Aj (A0 0) λw'=>∃A' P',Ap w2 X w' (λw' aI=>SF w' sb ab b 0 5 5 0 false (EB (λ_=>[]) (AN 0 5) 1 2 3) A' P' aI))):=
  Zi w2 100000 (1,2,3) hV aD (by omega) ⟨by simp,(show Ay 2 by constructor<;>omega),(show Ay 3 by constructor<;>omega)⟩ (aK.o.aL aN.o).1 (λk d=>AP aK.o.1.1 (aL.o k d)) (by omega) (by constructor<;>omega)
 go_wp2_with (fail);refine a1.k ?_;rintro O⟨A3,P3,k3,W,aO,aA,aE⟩;have aW:Hid (A4 Aa w O):=aN.o.bW k3 aL.o;have aM:Hid (∀k,W k->w.heap.size<=k):=λk d=>(aE k d).elim (aL.o k) (λh=>AP aN.o.Ak h)
 obtain⟨lv3,F03,I,E⟩:=aO;have a0:Hid (Ag 37 #[A5 sb,A0 1,A0 0,A0 9] O λe w'=>∃v,e=.returned (.tuple #[v,A0 0])/\Ck w' v [(2,3)]/\A4 Aa O w'/\∀g,v.oB g->O.heap.size<=g):=by
  have:=MC O 1 0 9 I.Ae I.E6 (by omega) (by omega) (by constructor<;>omega);rw[WU]at this;exact this
 have aF:=A1 I;have aJ:=A1 E;have aR:=A1 aA;go_wp2_with (fail);refine a0.m ?_;rintro e w4⟨v,rfl,hv,k4,aB⟩;obtain⟨ad,cap,rfl,-,-,hg,-,-⟩:=B8 hv;obtain⟨g,rfl⟩:=hg (by decide);have aQ:=A1 (aF.o.ak k4);have aX:Hid (A4 Aa w w4):=aW.o.tr k4;have aV:=A1 hv;have aY:Hid (¬W g):=λz=>by have:=aR.o g z;have:=aB g rfl;omega
 have aZ:=A1 (Rb w4 7 aQ.o.Ae aQ.o.E6 (by omega) (by omega) (by constructor<;>omega));go_wp2_with (fail);refine aZ.k ?_;rintro L⟨lv5,L5,hS,hF⟩;obtain⟨k5,FT6,⟨lv6,F06,aT,-⟩,-,s6⟩:=aQ.o.cO aJ.o hS;have a5:Hid (A4 Aa w L):=aX.o.bW k5 aM.o;have Y:Hid (Ck L (AA g 1 cap) [(2,3)]):=Au aV.o λx z=>k5.Al x (Aw aV.o z) (by simp[Value.ownBlock]at z;subst z;exact aY.o);have a6:Hid (Ag 37 #[A5 sb,A0 1,A0 0,A0 9] L λe w'=>∃v,e=.returned (.tuple #[v,A0 0])/\Ck w' v []/\A4 Aa L w'/\∀g,v.oB g->L.heap.size<=g):=by
  have aS:Ay (DJ 0 7):=Mm (by constructor<;>omega) (by omega) (by omega);have:=MC L 1 0 9 aT.Ae aT.E6 (by omega) (by omega) aS;rw[WV hF]at this;exact this
 go_wp2_with (fail);refine a6.m ?_;rintro e w6⟨v,rfl,hv,k6,aB⟩;obtain⟨ad,cap2,rfl,-⟩:=B8 hv;have aH:Ck w6 (AA g 1 cap) [(2,3)]:=Au Y.o λx z=>k6.Al x (Aw Y.o z) (λh=>h);have⟨t0,t1⟩:=aH.bu 0 (by decide);have a2:Hid (A4 Aa w w6):=a5.o.tr k6;simp only[KM]at t0 t1;go_wp2;go_ret;exact⟨rfl,a2.o⟩
section
variable{w w':gx}{H wb t t' B:Nat}{ld:Int}
def LI.bL(h:LI w H wb ld t)(z:t<=t'):LI w H wb ld t':=by
 obtain⟨n,pd,E,d⟩:=h;exact⟨n,pd,E,d.ai z⟩
end
def Q8(w:gx)(g o n:Nat):Prop:=∀i,i<n->∃d a b c tv,Ay a/\Ay b/\Ay c/\w.cell? ⟨g,o+i*5,none⟩=some (.int .i64 d)/\w.cell? ⟨g,o+i*5+1,none⟩=some (.int .i64 a)/\w.cell? ⟨g,o+i*5+2,none⟩=some (.int .i64 b)/\w.cell? ⟨g,o+i*5+3,none⟩=some (.int .i64 c)/\w.cell? ⟨g,o+i*5+4,none⟩=some tv/\EA w.heap.size w tv
section
variable{w:gx}{H wb b B:Nat}{ld:Int}
def ZO{wa room A7 count:Int}(I:Gc 330000)(w:gx)(h:AS w wb ⟨ld,wa,room,A7,.pointer (some ⟨b,0,none⟩),.pointer none,.slice none 0 0,0,false,false,A7,wa,0,.slice none 0 0,.slice none 0 0,count⟩)(W:AW w b ⟨[],[],[],HD (E7 room)⟩ (λ_=>([],0)) (One b))(hbw:b<wb)(d:H<=b)(Y:Env B w)(L:B<=H)(hc:Ay A7)(hr:Ay room):
 Calls Tryz.prog 17 #[.pointer (some ⟨wb,0,none⟩),.int .i64 wa,.int .i64 0] w λe w'=>e=.returned (.bool true)/\A4 (Up H) w w'/\LI w' H wb ld 0:=by
 have hwl:=h.lt;have z : -4611686018427387904<=E7 room/\E7 room<=9223372036854775807:=by
  obtain⟨r1,r2⟩:=hr;unfold E7;split<;>omega
 have O:LW w H wb ⟨ld,wa,room,A7,.pointer (some ⟨b,0,none⟩),.pointer none,.slice none 0 0,0,false,false,A7,wa,0,.slice none 0 0,.slice none 0 0,count⟩ b ld (KD b (Dc (E7 room))) (One b) [] []:=by
  refine⟨h,rfl,rfl,KD.E5 _ _,W,λk E=>by cases E;omega,Co _ _ _ _,Co _ _ _ _,?_,?_,λk E=>by cases E;exact d⟩
  ·rintro k (rfl|e|e) hx
   ·cases hx;omega
   ·simp[Value.ownBlock]at e
   ·simp[Value.ownBlock]at e
  ·rintro k (rfl|e|e)
   ·omega
   ·simp[Value.ownBlock]at e
   ·simp[Value.ownBlock]at e
 have X:DA 0 H wb ld w ⟨ld,wa,room,A7,.pointer (some ⟨b,0,none⟩),.pointer none,.slice none 0 0,0,false,false,A7,wa,0,.slice none 0 0,.slice none 0 0,count⟩ [] []:=
  ⟨hc,by constructor<;>simp,EA.bU _ _ ⟨none,0,rfl,by simp,λj hj=>by simp at hj⟩,by simp,b,0,Dc (E7 room),One b,rfl,rfl,.inr ⟨rfl,O,A1M z⟩⟩
 exact OM I (by decide) w wa 0 X (by omega) (by omega) Y L (by constructor<;>simp)
end
def Zx{B g o n gw:Nat}(Y:Gc 330000)(w:gx)(ld wa room A7:Int)(cap:Nat)(W:gD Int)(aN:W≠[])(aT:W.length<1000)(hS:Q8 w g o n)(hn:n<=180000)(hg:n≠0->g<w.heap.size)(hW:Qv w gw W)(hL:Env B w)(hc:Ay A7)(hr:Ay room)(sv:gy)(aE:sv=.slice (some (A9 g o)) n cap\/(n=0/\∃x,sv=.slice x 0 cap)):
 Ag 14 #[.agg #[A0 ld,A0 wa,A0 room,A0 A7],sv,AA gw W.length W.length] w (Aj (.bool true) λw'=>A4 (Up w.heap.size) w w'):=by
 have X:∃a,sv=.slice a n cap/\(n≠0->a=some (A9 g o)):=by
  rcases aE with rfl|⟨rfl,x,rfl⟩
  ·exact⟨_,rfl,λ_=>rfl⟩
  ·exact⟨x,rfl,λh=>absurd rfl h⟩
 obtain⟨ad,rfl,aJ⟩:=X;have hA:=(A4.C Aa w).aj (.cells #[A0 ld,A0 wa,A0 room,A0 A7] 23);have E:=Bl w (.cells #[A0 ld,A0 wa,A0 room,A0 A7] 23);generalize hw0:(w.alloc (.cells #[A0 ld,A0 wa,A0 room,A0 A7] 23))=w0 at hA E;have q0:A8 w0 w.heap.size 0 (A0 ld):=D7 E;have q1:A8 w0 w.heap.size 1 (A0 wa):=D7 E;have q2:A8 w0 w.heap.size 2 (A0 room):=D7 E;have q3:A8 w0 w.heap.size 3 (A0 A7):=D7 E;have aZ:=A1 hA;have a1:=A1 hS;have a3:=A1 hg;have aR:=A1 aJ;have aU:=A1 hW;have O:=A1 hL;have a4:=A1 (A3D w0 (hL.aL hA))
 go_enter func14,ntmps14
 go_wp2_with (fail);refine a4.k ?_;rintro w1 k1;have aW:Hid (A4 Aa w w1):=aZ.o.tr k1;have p0:=k1.ah q0;have p1:=k1.ah q1;have p2:=k1.ah q2;have p3:=k1.ah q3;have a0:=A1 (A3z (F:=λ_=>([],0)) w1 ld wa room A7 0);go_wp2_with (fail);refine a0.m ?_;rintro e w2⟨wb,b,rfl,aK,aL,aH,aM,k2⟩;have aV:Hid (A4 Aa w w2):=aW.o.tr k2;have r1:=k2.ah p1;have aO:=A1 (ZO (H:=w.heap.size) Y w2 aK aL aM (AP aW.o.Ak aH) (O.o.aL aV.o) O.o.1.1 hc hr);go_wp2_with (fail);refine aO.k ?_;rintro w3⟨k3,hI⟩;have aY:Hid (A4 (Up w.heap.size) w w3):=(aV.o.aT (S:=Up w.heap.size)).tr k3;have a2:=A1 hI;have hnI:(n:Int)<=180000:=by omega
 go_wp2;have aF:Hid (gw<w.heap.size):=GO w _ (aU.o 0 (J9.2 aN));have aX:Hid (∀w' x,A4 (Up w.heap.size) w w'->Ag 41 #[AA gw W.length W.length,A0 x] w' (Aj (.bool (decide (x∈W))) λw2=>w'=w2)):=λw' x hk=>
  A39 w' gw W x (λk aG=>Dt hk (aU.o k aG) λe=>by unfold Up at e;have:=aF.o;omega) aT
 go_loopw [9,10] (λokv iv wr=>∃k:Nat,k<=n/\okv=.bool true/\iv=A0 k/\Hid (A4 (Up w.heap.size) w wr/\LI wr w.heap.size wb ld k)) (λ_ iv _=>n-(intOf iv).toNat)
 ·exact⟨0,Ch _,rfl,rfl,aY.o,a2.o⟩
 ·obtain⟨k,hk,rfl,rfl,z⟩:=hrel;obtain⟨L,aD⟩:∃L,L=wr:=⟨_,rfl⟩;subst aD;have k0:=BJ k;by_cases aI:k<n
  ·(have i1:(k:Int)<(n:Int):=by omega);obtain rfl:=aR.o (by omega);have hgl:=a3.o (by omega);have⟨kd,a,b3,c3,tv,ia,ib,ic,s0,s1,s2,s3,s4,htl⟩:=a1.o k aI;(have up:∀x u,A8 w g x u->A8 L g x u:=λx u hu=>Dt z.o.1 hu λe=>by unfold Up at e;omega);have s0:=up _ _ s0;have s1:=up _ _ s1;have s2:=up _ _ s2;have s3:=up _ _ s3;have s4:=up _ _ s4;have d:=A1 (aX.o L kd z.o.1);by_cases I:kd∈W
   ·rw[Cu I]at d;have aP:Hid (LI L w.heap.size wb ld (k+1)):=z.o.2.bL (ER k);go_wp2_with (go_at_call 41;refine d.k ?_;rintro w5 rfl);go_roundw
    ·exact⟨k+1,by omega,rfl,by go_num,z.o.1,aP.o⟩
    ·simp[intOf];omega
   ·rw[Cv I]at d;have ST:=A1 (XN Y (by decide) L kd a b3 c3 tv z.o.2 (O.o.al z.o.1 λx e=>by unfold Up at e;have:=O.o.1.1;omega) O.o.1.1 (by omega) (by omega) ia ib ic (htl.al z.o.1))
    go_wp2_with (first
     | (go_at_call 41;refine d.k ?_;rintro w5 rfl)
     | (go_at_call 18;refine ST.k ?_;rintro w5⟨k5,aA⟩;have aQ:=A1 k5;have aS:=A1 aA))
    go_roundw
    ·exact⟨k+1,by omega,rfl,by go_num,z.o.1.tr aQ.o,aS.o⟩
    ·simp[intOf];omega
  ·(obtain rfl:k=n:=by omega);have d:=A1 (aX.o L 1 z.o.1);have⟨n4,puts4,ls4,hl4⟩:=z.o.2;have aO:=A1 (OM Y (by decide) L n4.wc 0 hl4 (by omega) (by omega) (O.o.al z.o.1 λx e=>by unfold Up at e;have:=O.o.1.1;omega) O.o.1.1 (by constructor<;>omega));have c11:=hl4.Ae.cQ;have aB:=A1 z.o.1;by_cases I:(1:Int)∈W
   ·rw[Cu I]at d;go_wp2_with (go_at_call 41;refine d.k ?_;rintro w5 rfl);go_ret;exact⟨rfl,aB.o⟩
   ·rw[Cv I]at d
    go_wp2_with (first
     | (go_at_call 41;refine d.k ?_;rintro w5 rfl)
     | (go_at_call 17;refine aO.k ?_;rintro w5⟨k5,aA⟩;have aQ:=A1 k5))
    go_ret;exact⟨rfl,aB.o.tr aQ.o⟩
end
section
open Go.RowKit
attribute [local go_sem ↓] CL
def B1.bD{w:gx}{g n cap:Nat}{l:gD Pu}(h:w.ownsRow 0 113 3 (AA g n cap) n (B5 l))(k:Nat)(d:k<l.length)(p:Pu)(z:l[k]'d=p):
 w.cell? (A9 g (k*3))=some (A0 p.1)/\A8 w g (k*3+1) (A0 p.2.1)/\A8 w g (k*3+2) (A0 p.2.2):=by
 have⟨q1,q2,q3⟩:=Hv l k d;rw[z]at q1 q2 q3;exact⟨Bv h rfl q1,Bv h rfl q2,Bv h rfl q3⟩
def Ps{α:Type}(A C:gD α)(x:α)(h:A.length<(A++x::C).length):(A++x::C)[A.length]'h=x:=by
 rw[Gd (Ao _)];simp
def K5{α:Type}(A C:gD α)(x y:α):(A++x::C).set A.length y=A++y::C:=by
 rw[J7 _ _ (Ao _)];simp
def Xx{a b c n:Nat}(hn:n<=9223372036854775807)(hbn:b+c<=n)(hab:a+c<=b)(i:Nat)(hi:i<c):
 a+i<n/\b+i<n/\IntKind.i64.wrap ((a:Int)+(i:Int))=((a+i:Nat):Int)/\IntKind.i64.wrap ((b:Int)+(i:Int))=((b+i:Nat):Int)/\wrap64 ((a:Int)+(i:Int))=((a+i:Nat):Int)/\wrap64 ((b:Int)+(i:Int))=((b+i:Nat):Int)/\((a+i:Nat):Int)<(n:Int)/\((b+i:Nat):Int)<(n:Int):=by
 refine⟨by omega,by omega,?_,?_,by unfold wrap64;omega,by unfold wrap64;omega,by omega,by omega⟩
 ·simp[IntKind.wrap,IntKind.bits,IntKind.signed];omega
 ·simp[IntKind.wrap,IntKind.bits,IntKind.signed];omega
section
variable{w w':gx}{g cap n:Nat}
def Xz(w:gx)(g cap n:Nat)(A X M Y Z:gD Pu)(cv:gy)(aD:X.length=Y.length)(hn:n=(A++X++M++Y++Z).length)(h:w.ownsRow 0 113 3 (AA g n cap) n (B5 (A++X++M++Y++Z))):
 Ag 273 #[AA g n cap,A0 A.length,A0 ((A.length+X.length+M.length:Nat):Int),A0 X.length,cv] w (Aj (.tuple #[]) λw'=>
  w'.ownsRow 0 113 3 (AA g n cap) n (B5 (A++Y++M++X++Z))/\A4 (One g) w w'):=by
 obtain⟨a,ha⟩:∃a,A.length=a:=⟨_,rfl⟩;obtain⟨b,hb⟩:∃b,A.length+X.length+M.length=b:=⟨_,rfl⟩;obtain⟨c,hc⟩:∃c,X.length=c:=⟨_,rfl⟩;have aB:n<=cap/\cap<=9223372036854775807:=by
  have⟨a',c',e,h1,h2,_⟩:=B8 h;cases e;unfold maxLen at h2;omega
 obtain⟨aQ,aL⟩:=aB;have aO:b+c<=n:=by rw[hn];simp only[B3];omega
 have aN:a+c<=b:=by omega
 obtain⟨d,E⟩:∃d:Nat->gD Pu,d=λi=>A++(Y.take i++X.drop i)++M++(X.take i++Y.drop i)++Z:=⟨_,rfl⟩;have aA:Hid (∀i,i<c->∃x y,(∀hk,(d i)[a+i]'hk=x)/\(∀hk,(d i)[b+i]'hk=y)/\(d i).length=n/\(∀hk,((d i).set (a+i) y)[b+i]'hk=y)/\((d i).set (a+i) y).set (b+i) x=d (i+1)):=λi hi=>by
  have I:i<X.length:=by omega
  have O:i<Y.length:=by omega
  have dx:X.drop i=X[i]'I::X.drop (i+1):=FK I;have dy:Y.drop i=Y[i]'O::Y.drop (i+1):=FK O;have tx:X.take (i+1)=X.take i++[X[i]'I]:=Dq I;have ty:Y.take (i+1)=Y.take i++[Y[i]'O]:=Dq O;obtain⟨x,hx⟩:∃x,X[i]'I=x:=⟨_,rfl⟩;obtain⟨y,hy⟩:∃y,Y[i]'O=y:=⟨_,rfl⟩;rw[hx]at dx tx;rw[hy]at dy ty;have e1:d i=(A++Y.take i)++x::((X.drop (i+1)++M++X.take i)++y::(Y.drop (i+1)++Z)):=by
   rw[E];dsimp only;rw[dx,dy];simp
  have e2:d (i+1)=(A++Y.take i)++y::((X.drop (i+1)++M++X.take i)++x::(Y.drop (i+1)++Z)):=by
   rw[E];dsimp only;rw[tx,ty];simp
  have l1:(A++Y.take i).length=a+i:=by simp;omega
  have e3:∀z:Pu,(A++Y.take i)++z::((X.drop (i+1)++M++X.take i)++y::(Y.drop (i+1)++Z))=((A++Y.take i)++z::(X.drop (i+1)++M++X.take i))++y::(Y.drop (i+1)++Z):=λz=>by simp
  have l2:∀z:Pu,((A++Y.take i)++z::(X.drop (i+1)++M++X.take i)).length=b+i:=λz=>by simp;omega
  have s1:(d i).set (a+i) y=((A++Y.take i)++y::(X.drop (i+1)++M++X.take i))++y::(Y.drop (i+1)++Z):=by
   rw[e1,<-l1,K5,e3]
  refine⟨x,y,λhk=>?_,λhk=>?_,?_,λhk=>?_,?_⟩
  ·have:=Ps (A++Y.take i) ((X.drop (i+1)++M++X.take i)++y::(Y.drop (i+1)++Z)) x (by simp);simp only[e1,<-l1];exact this
  ·have:=Ps ((A++Y.take i)++x::(X.drop (i+1)++M++X.take i)) (Y.drop (i+1)++Z) y (by simp);simp only[e1,e3,<-l2 x];exact this
  ·rw[e1,hn];simp;omega
  ·have:=Ps ((A++Y.take i)++y::(X.drop (i+1)++M++X.take i)) (Y.drop (i+1)++Z) y (by simp);simp only[s1,<-l2 y];exact this
  ·rw[s1,<-l2 y,K5,e2];simp
 have aK:Hid (∀i,i<c->_):=Xx (AP aQ aL) aO aN;have aR:Hid (w.ownsRow 0 113 3 (AA g n cap) n (B5 (d 0))):=by
  unfold Hid;rw[E];simpa using h
 have aS:Hid (d c=A++Y++M++X++Z):=by
  unfold Hid;rw[E];dsimp only;rw[<-hc,C5,GX,aD,C5,GX];simp
 rw[hb,ha,hc];clear E h hn hb ha hc aD
 go_enter func273,ntmps273
 go_wp2;go_loopw [10] (λiv wr=>∃i:Nat,iv=A0 (i:Int)/\i<=c/\Hid (wr.ownsRow 0 113 3 (AA g n cap) n (B5 (d i))/\A4 (One g) w wr)) (λiv _=>c-(intOf iv).toNat)
 ·exact⟨0,by go_num,by omega,aR.o,A4.C _ _⟩
 ·obtain⟨i,rfl,hic,hI⟩:=hrel;by_cases L:i<c
  ·have hltI:(i:Int)<(c:Int):=Fv.2 L;have⟨hPn,hQn,ew1,ew2,eu1,eu2,PI,QI⟩:=aK.o i L;have⟨i1,i2⟩:=hI.o;have⟨x,y,sx,sy,sl,sb,sn⟩:=aA.o i L;obtain⟨P,hP⟩:∃P,a+i=P:=⟨_,rfl⟩;obtain⟨Q,hQ⟩:∃Q,b+i=Q:=⟨_,rfl⟩;rw[hP]at sx sb sn hPn ew1 eu1 PI;rw[hQ]at sy sb sn hQn ew2 eu2 QI;have⟨x1,x2,x3⟩:=B1.bD i1 P (Ny hPn sl.symm) x (sx _);have⟨y1,y2,y3⟩:=B1.bD i1 Q (Ny hQn sl.symm) y (sy _);have P0:=BJ P;have Q0:=BJ Q;have tP:(P:Int).toNat=P:=ES P;have tQ:(Q:Int).toNat=Q:=ES Q;have aF:=B1.bx i1 P (Ny hPn sl.symm) y;have aH:=B1.bx aF Q (Ny hQn ((HK ..).trans sl).symm) x;rw[sn]at aH;have fz:∀o,wr.frozen? (A9 g o)=false:=λo=>EK i1 rfl o;obtain⟨xa,xb,xc⟩:=x;obtain⟨ya,yb,W⟩:=y;dsimp only at x1 x2 x3 y1 y2 y3 aF aH;have aP:∀o,((((wr.setCell (A9 g (P*3)) (A0 ya)).setCell (A9 g (P*3+1)) (A0 yb)).setCell (A9 g (P*3+2)) (A0 W))).drew.frozen? (A9 g o)=false:=λo=>EK aF rfl o;have z:=B1.bD aF Q (Ny hQn ((HK ..).trans sl).symm) _ (sb _);obtain⟨z1,z2,z3⟩:=z;dsimp only at z1 z2 z3;have aJ:((((wr.setCell (A9 g (P*3)) (A0 ya)).setCell (A9 g (P*3+1)) (A0 yb)).setCell (A9 g (P*3+2)) (A0 W))).drew.cell? (A9 g (Q*3))=some (A0 ya):=z1;have aM:((((wr.setCell (A9 g (P*3)) (A0 ya)).setCell (A9 g (P*3+1)) (A0 yb)).setCell (A9 g (P*3+2)) (A0 W))).drew.cell? (A9 g (Q*3+1))=some (A0 yb):=z2;have aI:((((wr.setCell (A9 g (P*3)) (A0 ya)).setCell (A9 g (P*3+1)) (A0 yb)).setCell (A9 g (P*3+2)) (A0 W))).drew.cell? (A9 g (Q*3+2))=some (A0 W):=z3;have aU:Hid (A4 (One g) w (((((((wr.setCell (A9 g (P*3)) (A0 ya)).setCell (A9 g (P*3+1)) (A0 yb)).setCell (A9 g (P*3+2)) (A0 W)).drew.setCell (A9 g (Q*3)) (A0 xa)).setCell (A9 g (Q*3+1)) (A0 xb)).setCell (A9 g (Q*3+2)) (A0 xc)))):=
    (((((i2.ao (b:=g) rfl _ _).ao (b:=g) rfl _ _).ao (b:=g) rfl _ _).aa.ao (b:=g) rfl _ _).ao (b:=g) rfl _ _).ao (b:=g) rfl _ _
   have aG:Hid ((((((((wr.setCell (A9 g (P*3)) (A0 ya)).setCell (A9 g (P*3+1)) (A0 yb)).setCell (A9 g (P*3+2)) (A0 W)).drew.setCell (A9 g (Q*3)) (A0 xa)).setCell (A9 g (Q*3+1)) (A0 xb)).setCell (A9 g (Q*3+2)) (A0 xc))).ownsRow 0 113 3 (AA g n cap) n (B5 (d (i+1)))):=aH;have aE:=A1 L;clear aF aH z1 z2 z3 i1 i2 sx sy sl sb sn hI aA aR aS hP hQ L hPn hQn;go_wp2;refine Mg 21 (λw'=>A8 w' g (P*3) (A0 xa)/\A8 w' g (P*3+1) (A0 xb)/\A8 w' g (P*3+2) (A0 xc)/\A8 w' g (Q*3) (A0 ya)/\A8 w' g (Q*3+1) (A0 yb)/\A8 w' g (Q*3+2) (A0 W)) 22
    [(0,1),(1,1),(2,1),(3,1),(8,1),(9,1),(10,1),(11,1),(12,1),(13,1),(14,2),(15,2),(16,2),(17,2),(18,2),(19,1),(20,1),(4,2),(5,2),(6,2),(7,2),(21,0)] ⟨x1,x2,x3,y1,y2,y3⟩ ?_
   iterate 10 refine IB ?_
   iterate 5 refine IC ?_
   iterate 2 refine IB ?_
   iterate 4 refine IC ?_
   refine Mi λK hK=>?_;go_simp;refine hK _ _ ?_;refine Mh ?_;generalize (((wr.setCell (A9 g (P*3)) (A0 ya)).setCell (A9 g (P*3+1)) (A0 yb)).setCell (A9 g (P*3+2)) (A0 W)).drew=w7 at aP aU aG aJ aM aI ⊢;go_wp2;go_roundw
   ·exact⟨i+1,by go_num,aE.o,Au aG.o λ_ _=>rfl,aU.o⟩
   ·have h:=aE.o;simp[intOf];omega
  ·(obtain rfl:i=c:=by omega);have aT:=A1 hI.o;(have hno:¬((i:Int)<(i:Int)):=by omega);go_wp2;go_end0;exact⟨rfl,by have h:=aT.o.1;rw[aS.o]at h;simpa using h,aT.o.2⟩
end
def FZ(n m:Nat)(T d:gD Pu)(i j:Nat):Prop:=∃L U V R:gD Pu,d=L++U++V++R/\T=L++V++U++R/\U.length=i/\V.length=j/\L.length+i=m/\0<i/\0<j/\d.length=n
def LP(n:Nat)(d h:gD Pu)(p q c:Nat):Prop:=∃A X M Y Z:gD Pu,d=A++X++M++Y++Z/\h=A++Y++M++X++Z/\X.length=Y.length/\A.length=p/\A.length+X.length+M.length=q/\X.length=c/\n=d.length
def FZ.gt{n m i j:Nat}{T E:gD Pu}(h:FZ n m T E i j)(hij:j<i):∃d,LP n E d (m-i) m j/\FZ n m T d (i-j) j:=by
 obtain⟨L,U,V,R,X,e2,h1,h2,h3,h4,Y,W⟩:=h;have O:U=U.take j++U.drop j:=(E4 j U).symm;obtain⟨U1,z⟩:∃U1,U.take j=U1:=⟨_,rfl⟩;obtain⟨U2,I⟩:∃U2,U.drop j=U2:=⟨_,rfl⟩;have l1:U1.length=j:=by rw[<-z,BK];omega
 have l2:U2.length=i-j:=by rw[<-I,Cz];omega
 rw[z,I]at O;subst O;refine⟨L++V++U2++U1++R,⟨L,U1,U2,V,R,by rw[X];simp,rfl,by omega,by omega,by omega,by omega,W.symm⟩,L++V,U2,U1,R,rfl,by rw[e2];simp,l2,l1,by simp;omega,by omega,Y,?_⟩;rw[<-W,X];simp;omega
def FZ.lt{n m i j:Nat}{T E:gD Pu}(h:FZ n m T E i j)(hij:i<j):∃z,LP n E z (m-i) (m+j-i) i/\FZ n m T z i (j-i):=by
 obtain⟨L,U,V,R,W,e2,h1,h2,h3,Y,h5,O⟩:=h;have X:V=V.take (j-i)++V.drop (j-i):=(E4 _ V).symm;obtain⟨V1,d⟩:∃V1,V.take (j-i)=V1:=⟨_,rfl⟩;obtain⟨V2,I⟩:∃V2,V.drop (j-i)=V2:=⟨_,rfl⟩;have l1:V1.length=j-i:=by rw[<-d,BK];omega
 have l2:V2.length=i:=by rw[<-I,Cz];omega
 rw[d,I]at X;subst X;refine⟨L++V2++V1++U++R,⟨L,U,V1,V2,R,by rw[W];simp,rfl,by omega,by omega,by omega,by omega,O.symm⟩,L,V2,V1,U++R,by simp,by rw[e2];simp,l2,l1,by omega,Y,by omega,?_⟩;rw[<-O,W];simp;omega
def FZ.eq{n m i:Nat}{T d:gD Pu}(h:FZ n m T d i i):LP n d T (m-i) m i:=by
 obtain⟨L,U,V,R,E,O,I,h2,h3,h4,h5,z⟩:=h;exact⟨L,U,[],V,R,by rw[E];simp,by rw[O];simp,by omega,by omega,by simp;omega,I,z.symm⟩
def FZ.bO{n m i j:Nat}{T z:gD Pu}(hn:n<=9223372036854775807)(h:FZ n m T z i j):
 i<=n/\j<=n/\IntKind.i64.wrap ((m:Int)-(i:Int))=((m-i:Nat):Int)/\wrap64 ((m:Int)-(i:Int))=((m-i:Nat):Int)/\IntKind.i64.wrap ((m:Int)+(j:Int))=((m+j:Nat):Int)/\wrap64 ((m:Int)+(j:Int))=((m+j:Nat):Int)/\
 IntKind.i64.wrap (((m+j:Nat):Int)-(i:Int))=((m+j-i:Nat):Int)/\wrap64 (((m+j:Nat):Int)-(i:Int))=((m+j-i:Nat):Int)/\
 (j<i->IntKind.i64.wrap ((i:Int)-(j:Int))=((i-j:Nat):Int)/\wrap64 ((i:Int)-(j:Int))=((i-j:Nat):Int))/\(i<j->IntKind.i64.wrap ((j:Int)-(i:Int))=((j-i:Nat):Int)/\wrap64 ((j:Int)-(i:Int))=((j-i:Nat):Int)):=by
 obtain⟨L,U,V,R,X,e2,h1,h2,h3,h4,h5,I⟩:=h;have hl:L.length+i+j<=n:=by rw[<-I,X];simp;omega
 clear X e2 I h1 h2;have W:∀x:Int,-9223372036854775808<=x->x<=9223372036854775807->IntKind.i64.wrap x=x/\wrap64 x=x:=λx a b=>by
  refine⟨?_,by unfold wrap64;omega⟩;simp[IntKind.wrap,IntKind.bits,IntKind.signed];omega
 have d:∀(x:Int) (k:Nat),x=(k:Int)->k<=9223372036854775807->IntKind.i64.wrap x=(k:Int)/\wrap64 x=(k:Int):=λx k e hk=>by
  subst e;exact W _ (by omega) (by omega)
 have E:=d ((m:Int)-i) (m-i) (by omega) (by omega);have Y:=d ((m:Int)+j) (m+j) (by omega) (by omega);have O:=d (((m+j:Nat):Int)-i) (m+j-i) (by omega) (by omega);exact⟨by omega,by omega,E.1,E.2,Y.1,Y.2,O.1,O.2,λh=>d _ _ (by omega) (by omega),λh=>d _ _ (by omega) (by omega)⟩
section
variable{w w':gx}{g cap n:Nat}
def LP.b8{d z:gD Pu}{p q c:Nat}(h:LP n d z p q c)(E:gy)(I:w.ownsRow 0 113 3 (AA g n cap) n (B5 d)):
 Ag 273 #[AA g n cap,A0 (p:Int),A0 (q:Int),A0 (c:Int),E] w (Aj (.tuple #[]) λw'=>
  w'.ownsRow 0 113 3 (AA g n cap) n (B5 z)/\A4 (One g) w w'):=by
 obtain⟨A,X,M,Y,Z,rfl,rfl,e,rfl,rfl,rfl,L⟩:=h;exact Xz w g cap n A X M Y Z E e L I
def Yv(w:gx)(g cap n:Nat)(A U V Z:gD Pu)(cv:gy)(hu:U≠[])(hv:V≠[])(hn:n=(A++U++V++Z).length)(h:w.ownsRow 0 113 3 (AA g n cap) n (B5 (A++U++V++Z))):
 Ag 263 #[AA g n cap,A0 A.length,A0 ((A.length+U.length:Nat):Int),A0 ((A.length+U.length+V.length:Nat):Int),cv] w (Aj (.tuple #[]) λw'=>
  w'.ownsRow 0 113 3 (AA g n cap) n (B5 (A++V++U++Z))/\A4 (One g) w w'):=by
 have L:n<=9223372036854775807:=by
  have⟨a',c',e,h1,h2,_⟩:=B8 h;cases e;unfold maxLen at h2;omega
 have aL:=J9.2 hu;have aQ:=J9.2 hv;have aE:A.length+U.length+V.length<=n:=by rw[hn];simp;omega
 obtain⟨T,hT⟩:∃T,A++V++U++Z=T:=⟨_,rfl⟩;obtain⟨C,hC⟩:∃C,A++U++V++Z=C:=⟨_,rfl⟩;obtain⟨a,ha⟩:∃a,A.length=a:=⟨_,rfl⟩;obtain⟨m,hm⟩:∃m,A.length+U.length=m:=⟨_,rfl⟩;obtain⟨b,hb⟩:∃b,A.length+U.length+V.length=b:=⟨_,rfl⟩;obtain⟨i0,aH⟩:∃i0,U.length=i0:=⟨_,rfl⟩;obtain⟨j0,aF⟩:∃j0,V.length=j0:=⟨_,rfl⟩;have aI:Hid (FZ n m T C i0 j0):=⟨A,U,V,Z,hC.symm,hT.symm,aH,aF,by omega,by omega,by omega,by rw[hn,hC]⟩;have ei:IntKind.i64.wrap ((m:Int)-(a:Int))=(i0:Int)/\wrap64 ((m:Int)-(a:Int))=(i0:Int):=by
  refine⟨?_,by unfold wrap64;omega⟩;simp[IntKind.wrap,IntKind.bits,IntKind.signed];omega
 have ej:IntKind.i64.wrap ((b:Int)-(m:Int))=(j0:Int)/\wrap64 ((b:Int)-(m:Int))=(j0:Int):=by
  refine⟨?_,by unfold wrap64;omega⟩;simp[IntKind.wrap,IntKind.bits,IntKind.signed];omega
 obtain⟨Y,aD⟩:=ei;obtain⟨aA,aB⟩:=ej;have I:Hid (∀z i j,FZ n m T z i j->_):=λz i j h=>FZ.bO L h;rw[hC]at h;rw[hT,hb,hm,ha];have aJ:=A1 h;clear h hn hu hv aL aQ aE hT hC ha hm hb aH aF L
 go_enter func263,ntmps263
 go_wp2;go_loopw [10,11] (λiv jv wr=>∃(i j:Nat) (z:gD Pu),iv=A0 (i:Int)/\jv=A0 (j:Int)/\Hid (FZ n m T z i j/\wr.ownsRow 0 113 3 (AA g n cap) n (B5 z)/\A4 (One g) w wr)) (λiv jv _=>(intOf iv).toNat+(intOf jv).toNat)
 ·exact⟨i0,j0,C,by go_num,by go_num,aI.o,aJ.o,A4.C _ _⟩
 ·obtain⟨i,j,z,rfl,rfl,hI⟩:=hrel;have⟨i1,i2,i3⟩:=hI.o;have⟨z1,z2,z3,z4,z5,z6,z7,z8,z9,z10⟩:=I.o _ _ _ i1;obtain⟨p,hp⟩:∃p,m-i=p:=⟨_,rfl⟩;obtain⟨q,hq⟩:∃q,m+j-i=q:=⟨_,rfl⟩;obtain⟨mj,E⟩:∃mj,m+j=mj:=⟨_,rfl⟩;rw[hp]at z3 z4;rw[hq,E]at z7 z8;rw[E]at z5 z6;have aM:=A1 i3;by_cases he:i=j
  ·subst he;have S:=A1 ((FZ.eq i1).b8 cv i2);rw[hp]at S;clear hI i1 i2 i3 z1 z2 z5 z6 z7 z8 z9 z10 hp hq E I aI aJ Y aD aA aB;go_wp2_with (go_at_call 273;refine(S.o).k ?_;rintro w5⟨W,X⟩;have R:=A1 (And.intro W (aM.o.tr X));clear W X);go_end0;exact⟨rfl,R.o⟩
  ·have hne:((i:Int)=(j:Int))=False:=N1 λh=>he (Int.ofNat_inj.1 h);by_cases O:j<i
   ·have⟨nxt,S1,S2⟩:=FZ.gt i1 O;have S:=A1 (S1.b8 cv i2);rw[hp]at S;have⟨y1,y2⟩:=z9 O;have aK:(j:Int)<(i:Int):=Fv.2 O;have aG:=A1 S2;have aP:=A1 O;obtain⟨d,hd⟩:∃d,i-j=d:=⟨_,rfl⟩;rw[hd]at y1 y2 aG;have aO:=A1 hd;(have aN:Hid (0<j):=by obtain⟨_,_,_,_,_,_,_,_,_,_,h5,_⟩:=i1;exact h5);clear hI i1 i2 i3 z1 z2 z5 z6 z7 z8 z9 z10 hp hq E I aI aJ Y aD aA aB S1 S2 O hd;go_wp2_with (go_at_call 273;refine(S.o).k ?_;rintro w5⟨W,X⟩;have R:=A1 (And.intro W (aM.o.tr X));clear W X);go_roundw
    ·exact⟨d,j,nxt,by go_num,by go_num,aG.o,R.o⟩
    ·have h1:=aP.o;have h2:=aO.o;have h3:=aN.o;simp[intOf];omega
   ·have hl:i<j:=Nat.lt_of_le_of_ne (J6 O) he;have⟨nxt,S1,S2⟩:=FZ.lt i1 hl;have S:=A1 (S1.b8 cv i2);rw[hp,hq]at S;have⟨y1,y2⟩:=z10 hl;(have aK:((j:Int)<(i:Int))=False:=by simp;exact J6 O);have aG:=A1 S2;have aP:=A1 hl;obtain⟨d,hd⟩:∃d,j-i=d:=⟨_,rfl⟩;rw[hd]at y1 y2 aG;have aO:=A1 hd;(have aN:Hid (0<i):=by obtain⟨_,_,_,_,_,_,_,_,_,h5,_,_⟩:=i1;exact h5);clear hI i1 i2 i3 z1 z2 z9 z10 hp hq E I aI aJ Y aD aA aB S1 S2 O hl hd;go_wp2_with (go_at_call 273;refine(S.o).k ?_;rintro w5⟨W,X⟩;have R:=A1 (And.intro W (aM.o.tr X));clear W X);go_roundw
    ·exact⟨i,d,nxt,by go_num,by go_num,aG.o,R.o⟩
    ·have h1:=aP.o;have h2:=aO.o;have h3:=aN.o;simp[intOf];omega
end
end
section
open Go.RowKit
section
variable{α:Type}{lt:α->α->Bool}
def B6.cb{l:gD α}(h:B6 lt l)(k:Nat):B6 lt (l.take k):=(B6.av (by rw[E4];exact h)).1
def B6.cj{l:gD α}(h:B6 lt l)(k:Nat):B6 lt (l.drop k):=(B6.av (a:=l.take k) (by rw[E4];exact h)).2.1
def B6.CW{l:gD α}(h:B6 lt l)(k:Nat):∀x∈l.take k,∀y∈l.drop k,lt y x=false:=(B6.av (a:=l.take k) (by rw[E4];exact h)).2.2
def B6.Gh(x:α):B6 lt [x]:=NA _ x
def BZ.fe(z:BZ lt){x:α}{V:gD α}(h:B6 lt V)(k:Nat)(W:∀y,(V.take k).getLast?=some y->lt y x=true)(O:∀y,(V.drop k).head?=some y->lt y x=false):
 B6 lt (V.take k++x::V.drop k)/\Bt lt (x::V) (V.take k++x::V.drop k):=by
 have L:=z.dH (h.cb k) (B6.Gh x) λa y d I=>by cases I;exact W y d
 have Y:=z.cN (B6.Gh x) (h.cj k) λa y I d=>by cases I;exact O y d
 refine⟨B6.cJ (h.cb k) (Dk.2 ⟨λy d=>Y x (by simp) y d,h.cj k⟩) λu hu v E=>?_,?_⟩
 ·rcases BS.1 E with rfl|E
  ·exact z.cp (L v (by simp) u hu)
  ·exact h.CW k u hu v E
 ·have m:=(z.ei (x:=x) (ys:=V.take k) λy d=>L x (by simp) y d).av (Bt.C (lt:=lt) (V.drop k));have e1:x::V.take k++V.drop k=x::V:=by rw[G2,E4]
  have X:V.take k++[x]++V.drop k=V.take k++x::V.drop k:=by simp
  rw[e1,X]at m;exact m
def BZ.gm(z:BZ lt){y:α}{U:gD α}(h:B6 lt U)(k:Nat)(X:∀x,(U.take k).getLast?=some x->lt y x=false)(W:∀x,(U.drop k).head?=some x->lt y x=true):
 B6 lt (U.take k++y::U.drop k)/\Bt lt (U++[y]) (U.take k++y::U.drop k):=by
 have O:=z.cN (h.cb k) (B6.Gh y) λx a d I=>by cases I;exact X x d
 have L:=z.dH (B6.Gh y) (h.cj k) λx a I d=>by cases I;exact W x d
 refine⟨B6.cJ (h.cb k) (Dk.2 ⟨λx d=>z.cp (L x d y (by simp)),h.cj k⟩) λu hu v E=>?_,?_⟩
 ·rcases BS.1 E with rfl|E
  ·exact O u hu v (by simp)
  ·exact h.CW k u hu v E
 ·have m:=(Bt.C (lt:=lt) (U.take k)).av (z.dn (y:=y) (xs:=U.drop k) λx d=>L x d y (by simp));have Y:U.take k++(U.drop k++[y])=U++[y]:=by rw[<-Ci,E4]
  rw[Y]at m;exact m
def MQ{l:gD α}{k:Nat}(d:k+1<=l.length):(l.take (k+1)).getLast?=some (l[k]'d):=by
 rw[Dq d];exact List.getLast?_concat
def head_drop{l:gD α}{k:Nat}(d:k<l.length):(l.drop k).head?=some (l[k]'d):=by
 rw[FK d];rfl
end
section
variable{α:Type}{lt:α->α->Bool}
def Gv(lt:α->α->Bool)(D:gD α)(n s0 d s r:Nat):Prop:=
 s0<=s/\s<=r/\r<=d/\(s0<s->∀x y,D[s-1]?=some x->D[n-s]?=some y->lt y x=false)/\(r<d->∀x y,D[r]?=some x->D[n-1-r]?=some y->lt y x=true)
def A2n{A U V Z D:gD α}{n s0 Y s:Nat}(hD:D=A++U++V++Z)(hU:2<=U.length)(hV:2<=V.length)(hn:n=(A.length+(A.length+U.length+V.length))/2+(A.length+U.length))(W:if (A.length+(A.length+U.length+V.length))/2<A.length+U.length then s0=n-(A.length+U.length+V.length)/\Y=(A.length+(A.length+U.length+V.length))/2 else s0=A.length/\Y=A.length+U.length)(h:Gv lt D n s0 Y s s):∃U1 U2 V1 V2,U=U1++U2/\V=V1++V2/\A.length+U1.length=s/\n-s=A.length+U.length+V1.length/\U1.length+V1.length=(A.length+(A.length+U.length+V.length))/2-A.length/\
  (∀x y,U1.getLast?=some x->V2.head?=some y->lt y x=false)/\(∀x y,V1.getLast?=some y->U2.head?=some x->lt y x=true):=by
 obtain⟨h1,-,h3,h4,h5⟩:=h;generalize hmid:(A.length+(A.length+U.length+V.length))/2=mid at hn W ⊢;have hsa:A.length<=s/\s<=A.length+U.length/\A.length+U.length<=n-s/\n-s<=A.length+U.length+V.length:=by
  split at W<;>omega
 obtain⟨k,hk⟩:∃k,s=A.length+k:=⟨s-A.length,by omega⟩;obtain⟨j,hj⟩:∃j,n-s=A.length+U.length+j:=⟨n-s-(A.length+U.length),by omega⟩;have aA:k<=U.length:=by omega
 have X:j<=V.length:=by omega
 have l1:(U.take k).length=k:=by rw[BK];omega
 have l2:(V.take j).length=j:=by rw[BK];omega
 have L:∀i (I:i<U.length),D[A.length+i]?=some (U[i]'I):=λi I=>by
  rw[hD,Jb (by simp;omega),Jb (by simp;omega),I7 (by omega)];simp[I]
 have O:∀i (I:i<V.length),D[A.length+U.length+i]?=some (V[i]'I):=λi I=>by
  rw[hD,Jb (by simp;omega),I7 (by simp)];simp[I]
 refine⟨U.take k,U.drop k,V.take j,V.drop j,(E4 ..).symm,(E4 ..).symm,by omega,by omega,by omega,λx y E z=>?_,λx y z E=>?_⟩
 ·rcases A4o k with h|h
  ·subst h;simp at E
  ·obtain⟨k,rfl⟩:∃q,k=q+1:=⟨k-1,by omega⟩;rw[MQ aA]at E;rcases F9 j V.length with d|d
   ·rw[head_drop d]at z;refine h4 (by split at W<;>omega) x y ?_ ?_
    ·rw[show s-1=A.length+k by omega,L k (by omega)];exact E
    ·rw[hj,O j d];exact z
   ·rw[NI d]at z;cases z
 ·rcases A4o j with h|h
  ·subst h;simp at z
  ·obtain⟨j,rfl⟩:∃q,j=q+1:=⟨j-1,by omega⟩;rw[MQ X]at z;rcases F9 k U.length with d|d
   ·rw[head_drop d]at E;refine h5 (by split at W<;>omega) x y ?_ ?_
    ·rw[hk,L k d];exact E
    ·rw[show n-1-s=A.length+U.length+j by omega,O j (by omega)];exact z
   ·rw[NI d]at E;cases E
def Gv.up{D:gD α}{n s0 z s r c:Nat}{x y:α}(h:Gv lt D n s0 z s r)(hc:s<=c/\c<r)(X:D[c]?=some x)(O:D[n-1-c]?=some y)(L:lt y x=false):Gv lt D n s0 z (c+1) r:=by
 obtain⟨h1,h2,W,h4,I⟩:=h;refine⟨by omega,by omega,W,λ_ a b E d=>?_,I⟩;rw[A4r,X]at E;rw[show n-(c+1)=n-1-c by omega,O]at d;cases E;cases d;exact L
def Gv.e2{D:gD α}{n s0 z s r c:Nat}{x y:α}(h:Gv lt D n s0 z s r)(hc:s<=c/\c<r)(X:D[c]?=some x)(W:D[n-1-c]?=some y)(O:lt y x=true):Gv lt D n s0 z s c:=by
 obtain⟨L,h2,h3,I,h5⟩:=h;refine⟨L,by omega,by omega,I,λ_ a b E d=>?_⟩;rw[X]at E;rw[W]at d;cases E;cases d;exact O
def Gv.fJ(D:gD α)(n:Nat){s0 d:Nat}(h:s0<=d):Gv lt D n s0 d s0 d:=⟨Ao _,h,Ao _,λh=>absurd h (Gs _),λh=>absurd h (Gs _)⟩
def ET(lt:α->α->Bool)(B:Nat)(P:Nat->Prop)(l:gD α):Prop:=∀i,P i->B6 lt ((l.drop (i*B)).take B)
def A2o{A M M' Z:gD α}(h:M.length=M'.length)(p q:Nat)(d:p+q<=A.length\/A.length+M.length<=p):((A++M++Z).drop p).take q=((A++M'++Z).drop p).take q:=by
 rcases d with d|d
 ·have e:∀X:gD α,((A++X++Z).drop p).take q=(A.drop p).take q:=λX=>by
   rw[Ci,M8 (by omega),Hn (by rw[Cz];omega)]
  rw[e,e]
 ·have e:∀X:gD α,A.length+X.length<=p->((A++X++Z).drop p).take q=(Z.drop (p-(A.length+X.length))).take q:=λX z=>by
   rw[M9,NI (by simpa using z),Fa,B3]
  rw[e M d,e M' (by omega),h]
def A2p{A M Z:gD α}{p q:Nat}(hp:A.length=p)(d:M.length<=q)(z:M.length<q->Z=[]):((A++M++Z).drop p).take q=M:=by
 rw[Ci,M9,NI (by omega),Fa,show p-A.length=0 by omega,Dl];rcases F9 M.length q with h|h
 ·rw[z h,Gt,El d]
 ·rw[show q=M.length by omega,JP]
def ET.Cy{l:gD α}{B:Nat}(h:ET lt B (λ_=>True) l)(d:l.length<=B):B6 lt l:=by
 have:=h 0 trivial
 rwa [Nat.zero_mul,Dl,El d]at this
def Ry(l:gD α){a b c:Nat}(h1:a<=b)(h2:b<=c):l=l.take a++(l.drop a).take (b-a)++(l.drop b).take (c-b)++l.drop c:=by
 have d:(l.drop a).take (b-a)++l.drop b=l.drop a:=by
  have:=E4 (b-a) (l.drop a)
  rwa [List.drop_drop,show a+(b-a)=b by omega]at this
 have h:(l.drop b).take (c-b)++l.drop c=l.drop b:=by
  have:=E4 (c-b) (l.drop b)
  rwa [List.drop_drop,show b+(c-b)=c by omega]at this
 rw[Ci,Ci,h,d,E4]
end
end
end Go.Proofs.YtodcnkbblippnaaGreatDoor
