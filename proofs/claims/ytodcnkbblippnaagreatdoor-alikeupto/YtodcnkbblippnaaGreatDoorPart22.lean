/- Part 22 of a proof: walks of the program. -/
import Derived.Test.YtodcnkbblippnaaGreatDoorCards
import Derived.Test.YtodcnkbblippnaaGreatDoorTie
import Derived.ProofKit
import Derived.OpenShut
import Derived.Carry
import Derived.Deep.DeepHandedRow
import Derived.Deep.DeepWitnessRowRef
import Derived.Deep.Slices
import Derived.Lib.LaidTab
import Derived.Stop.LaidErr
import Derived.Test.YtodcnkbblippnaaGreatDoorPart21
namespace Go.Proofs.YtodcnkbblippnaaGreatDoor
set_option maxRecDepth 100000
set_option maxHeartbeats 32000000
set_option linter.defProp false
open Go.Proofs.Tryz
section
open Go.RowKit
attribute [local go_sem ↓] Go.wp_at_zero Go.wp_at_succ
section
variable {w:World} {t H xb b B N:Nat} {n:KN} {A6:Int} {P:PD} {Ft:Nat->Prop} {q:List Pu} {puts:List Pu} {Ac:Nat} {aA:Bool} {sv:Value}
def ZH(b1:F5 N)(hN:N<=330000)(w:World)(h:CO w xb n)(bU:n.dv=(A5 b))(aI:n.EF=A6)(hd:Bn w b P Ft)(hp:PB P t)(X:DI (Cs t) P q Ac (Ba A6 1000))(hr:Reads (Cs t) P q (Ba A6 1000))(hq:∀p∈q,Bi p)(bP:q.length<=t)(bL:Ac<=q.length)(aH:P.D.n.AX=false)(ht:t+3<=330000)(bM:q.length+2<=N)(hE:Env B w)(hc:AN A6):
 Ag 120 #[A5 xb] w (Al (.tuple #[]) λw'=>A3 Ab w w'):=by
 have c0:=h.c0;rw[bU]at c0;have b9:=A1 (U5 hd (hp.dY (by omega)));have H:=A1 h;have aU:=A1 hE
 have bD:Hid (∀(E:World) (I:Nat) (z:Nat->Prop),Bn E I P.b4 z->(∀k,z k->k<E.heap.size)->Env B E->Ag 22 #[A5 I,.agg #[A0 1000,A0 7],A0 A6] E λe w'=>
  ∃ab O,e=.returned (.tuple #[A5 O,A0 0])/\E.heap.size<=O/\Aq E z w' (Live t q.length O ab I 1000 7 A6)):=λE I z g1 g2 g3=>by
  have bY:PB P.b4 t:=hp.ca _ rfl ⟨by simp[Eh],by simp[Eh]⟩ rfl rfl;refine(Sj (t:=t) (puts:=q) (Ac:=Ac) E z g1 g2 bY ⟨X.DM,X.Au,X.Cl,X.CK⟩ (hr.aH λ_=>rfl) hq bP bL aH (by omega) g3 Ia (by omega) hc).mono ?_;rintro e w'⟨A,ab,O,L,rfl,k1,-,k2,k3,k4,k5⟩;exact⟨ab,O,rfl,k1,k5.b1 λF k6=>⟨false,L,A,_,q,Ac,k6,λ_=>⟨k2,k4,As _⟩⟩⟩
 have a5:Hid (∀(W:World) (O ab I t' M:Nat) (FT:Nat->Prop) (p:Pu),Bi p->t'+1<=330000->Live t' M O ab I 1000 7 A6 W FT->(∀k,FT k->k<W.heap.size)->Lets B W->(∀k,FT k->B<=k)->
  Ag 23 #[A5 O,A0 p.1,A0 p.2.1,A0 p.2.2] W λe w'=>(∃c,e=.returned (A0 c))/\Aq W FT w' (Live (t'+1) (M+1) O ab I 1000 7 A6)):=λW O ab I t' M FT p g1 g2 g3 g4 g5 g6=>Zp W p g3 g4 g2 g1 g5 g6 Ia hc
 have b4:Bi ((0:Int),A6,(4626322:Int)):=⟨⟨by simp,by simp⟩,hc,(show AN 4626322 from ⟨by decide,by decide⟩)⟩;have a7:Bi ((1:Int),A6,(4626322:Int)):=⟨⟨by simp,by simp⟩,hc,(show AN 4626322 from ⟨by decide,by decide⟩)⟩;have b5:=A1 b4;have bQ:=A1 a7;have bX:=A1 ht;have b6:=A1 bM;have bF:=A1 hN;have HZ:=A1 h.lt
 go_enter func120,ntmps120
 go_wp2_with (first
  | (go_at_call 47;refine b9.m ?_;rintro e w1⟨I,Ft2,rfl,bO,aP,bI⟩;have a8:=A1 bO;have aE:=A1 aP;have aS:=A1 bI)
  | (go_at_call 35;refine(TX a8.o 0).mono ?_;rintro e w2⟨rfl,aV,a9,aN,aT,aK⟩
     have bE:=A1 aN;have a6:Hid (∀k,a9 k->w.heap.size<=k/\k<w2.heap.size):=λk d=>⟨(aK k d).elim (λh=>(aE.o k h).1) (λh=>AM aS.o.Ak h),aT k d⟩
     have aQ:Hid (A3 Ab w w2):=aS.o.bZ aV (λx hx=>(aE.o x hx).1)
     clear aV aN aT aK)
  | (go_at_call 78;refine(TM bE.o 0 0).mono ?_;rintro e E⟨rfl,aR,z,a3,aZ,aY⟩
     have bC:Hid (Bn E I P.b4 z):=a3;have aX:Hid (∀k,z k->w.heap.size<=k/\k<E.heap.size):=λk d=>⟨(aY k d).elim (λh=>(a6.o k h).1) (λh=>AM aQ.o.Ak h),aZ k d⟩
     have Y:Hid (A3 Ab w E):=aQ.o.bZ aR (λx hx=>(a6.o x hx).1);have d2:=(H.o.aw Y.o).c2;rw[aI]at d2
     clear aR a3 aZ aY)
  | (go_at_call 22;refine(bD.o E I z bC.o (λk d=>(aX.o k d).2) (aU.o.aS Y.o)).mono ?_))
 rintro e W⟨ab,O,rfl,hsb,bZ,a0,bG,a2,bH⟩;have aJ:B<=w.heap.size:=aU.o.1.1;have a1:Hid (∀k,z k->w.heap.size<=k):=λk d=>(aX.o k d).1
 have aG:Hid (∀k,a0 k->w.heap.size<=k):=λk d=>(bH k d).elim (a1.o k) λh=>AM Y.o.Ak h
 have aD:Hid (A3 Ab w W):=Y.o.bZ bZ a1.o;have e2:=(H.o.aw aD.o).c2;rw[aI]at e2;have bR:Hid (Env B W):=aU.o.aS aD.o;have b8:=A1 (a5.o W O ab I t q.length a0 _ b5.o (by have:=bX.o;omega) bG a2 bR.o.1 λk d=>AM aJ (aG.o k d));go_wp2_with (fail);refine b8.m ?_;rintro e w5⟨⟨c1,rfl⟩,bK,a4,b3,aW,bA⟩;have aF:Hid (∀k,a4 k->w.heap.size<=k):=λk d=>(bA k d).elim (aG.o k) λh=>AM aD.o.Ak h
 have aB:Hid (A3 Ab w w5):=aD.o.bZ bK aG.o;have bT:Hid (Env B w5):=aU.o.aS aB.o;have f2:=(H.o.aw aB.o).c2;rw[aI]at f2;have P2:=A1 (a5.o w5 O ab I (t+1) (q.length+1) a4 _ bQ.o (by have:=bX.o;omega) b3 aW bT.o.1 λk d=>AM aJ (aF.o k d));go_wp2_with (fail);refine P2.m ?_;rintro e w6⟨⟨c2,rfl⟩,bB,bN,b0,aO,bV⟩;have aL:Hid (∀k,bN k->w.heap.size<=k):=λk d=>(bV k d).elim (aF.o k) λh=>AM aB.o.Ak h
 have aM:Hid (A3 Ab w w6):=aB.o.bZ bB aF.o;have bS:Hid (Env B w6):=aU.o.aS aM.o;have b7:=A1 (Zq b1 bF.o w6 b0 aO (by have:=bX.o;omega) (by have:=b6.o;omega) (by omega) bS.o.1 λk d=>AM aJ (aL.o k d));go_wp2_with (fail);refine b7.m ?_;rintro e w7⟨⟨c3,rfl⟩,bJ,-⟩;have bW:Hid (A3 Ab w w7):=aM.o.bZ bJ aL.o;go_wp2;go_end0;exact⟨rfl,bW.o⟩
def Px(t H xb:Nat)(Ai A6:Int)(puts:List Pu)(Ac:Nat)(aA:Bool)(P:PD)(w:World)(FT:Nat->Prop):Prop:=
 ∃h ab d m P2,GU t H xb h ab d (1+DF Ai 300) A6 (puts.take m) Ac false P2 w FT/\Ac<=m/\m<=puts.length/\P2.D.n.AX=false/\(P.D.n.AX=false->P2=P/\(aA=false->m=puts.length))/\(P.D.n.AX=true->Still P2)
def EH.fA{FT:Nat->Prop}(h:EH t H xb b sv A6 puts Ac aA P w FT)(I:P.D.n.AX=false):∃m,PB P t/\DI (Cs t) P (puts.take m) Ac (Ba A6 1000)/\Reads (Cs t) P (puts.take m) (Ba A6 1000)/\(∀p∈puts.take m,Bi p)/\(puts.take m).length<=t/\Ac<=(puts.take m).length/\
 Ac<=m/\m<=puts.length/\(aA=false->m=puts.length)/\E3 P t/\AN A6:=by
 obtain⟨h1,⟨O,h3,W,h5,h6,d⟩,h8,h9⟩:=h;rcases d with d|⟨z,g1,E,g3,Y⟩
 ·rw[I]at d;cases d
 ·obtain⟨g5,L⟩:=Y _ z (Hv _) (As _) E (C9.I _ _);have hlen:(puts.take z).length=z:=by rw[BU];omega
  exact⟨z,O,g5,L,λp X=>W p (IB X),by omega,by omega,g1,E,g3,h8,h9⟩
end
end
def Fl(room:Int):PD:=⟨⟨[],[],[],K4 room⟩,λ_=>([],0)⟩
section
variable {room:Int} {o:Int}
def TC:CW (Cs 0) (vw (Fl room).F []) ⟨1,[]⟩ [] [] none:=by
 have d:∀nm,vw (Fl room).F [] nm=none:=λnm=>rfl;refine⟨⟨⟨by decide,by simp,by decide⟩,by simp[Cs],by simp⟩,.inl ⟨rfl,rfl⟩,rfl,by simp,by simp,trivial,?_,by simp,?_,?_,?_⟩
 ·intro n l h;cases h
 ·intro n _ _ h;exact absurd (d _) h
 ·intro nm h;exact absurd (d nm) h
 ·intro nm c h;rw[d]at h;cases h
def TD(f:Nat):¬(Fl room).D.Au f:=λh=>by
 simp[DS.Au,Fl,Df]at h
def A0I(hr : -4611686018427387904<=room/\room<=9223372036854775807):PB (Fl room) 0:=by
 refine⟨⟨Cf _,Cf _,?_,Cf _,λf d=>absurd d (TD f),hr,⟨Hv _,by simp[Fl,K4]⟩⟩,λf d=>absurd d (TD f),⟨Hv _,Hv _⟩,⟨Hv _,Hv _⟩⟩;intro l h;cases h
def TE:DI (Cs 0) (Fl room) [] 0 o:=by
 have d:∀s∈Bu (Fl room),s=[]:=λs d=>by simpa[Bu,Fl] using d
 refine⟨λs h=>?_,λs h=>?_,λs h=>?_,by simp[Bu,Fl]⟩
 ·rw[d s h];refine⟨⟨1,[]⟩,[],[],none,0,TC,As _,C9.I _ _,?_,λ_=>As _⟩;intro n l e;cases e
 ·rw[d s h];exact List.Pairwise.nil
 ·rw[d s h];exact List.Pairwise.nil
def A0H:Reads (Cs 0) (Fl room) [] o:=Whole.bw (P:=Fl room) ⟨⟨1,[]⟩,[],[],none,TC,Cf _,C9.I _ _⟩
def A0J(hr : -4611686018427387904<=room/\room<=9223372036854775807):GW 0 (Fl room) [] 0 o false:=by
 refine⟨A0I hr,TE,?_,As _,As _,.inr ⟨0,As _,As _,λ_=>rfl,?_⟩⟩
 ·intro p d;cases d
 ·intro o' n _ _ h _;obtain rfl:n=0:=by simpa using h
  exact⟨TE,A0H⟩
end
section
open Go.RowKit
attribute [local go_sem ↓] Go.wp_at_zero Go.wp_at_succ
section
variable {w:World} {t H xb b B N:Nat} {A6:Int} {P:PD} {puts:List Pu} {Ac:Nat} {aA:Bool} {sv:Value}
def UT(t H xb b B:Nat)(h A6:Int)(puts:List Pu)(Ac:Nat)(P:PD)(m:Nat)(w:World):Prop:=
 (∃sv,CO w xb ⟨.pointer (some ⟨b,0,none⟩),sv,A6⟩)/\H<=xb/\Env B w/\(Calls Tryz.prog 120 #[.pointer (some ⟨xb,0,none⟩)] w λe w'=>e=.returned (.tuple #[])/\A3 (λ_=>False) w w')/\
 (∀O,A3 (λ_=>False) w O->Calls Tryz.prog 47 #[.pointer (some ⟨b,0,none⟩)] O λe w'=>∃z d,e=.returned (.pointer (some ⟨z,0,none⟩))/\Bn w' z P d/\(∀k,d k->O.heap.size<=k/\k<w'.heap.size)/\A3 (λ_=>False) O w')/\
 (∀E z d,Bn E z P d->(∀k,d k->k<E.heap.size)->Env B E->Calls Tryz.prog 22 #[.pointer (some ⟨z,0,none⟩),.agg #[.int .i64 1000,.int .i64 h],.int .i64 A6] E λe w'=>
  ∃ab I,e=.returned (.tuple #[.pointer (some ⟨I,0,none⟩),.int .i64 0])/\∃L A,Aq E d w' (KS I ab z 1000 h A6 false L A P)/\
   ∀W FT,KW W H xb ⟨.pointer (some ⟨z,0,none⟩),.pointer (some ⟨I,0,none⟩),A6⟩ (KS I ab z 1000 h A6 false L A P) FT->GU t H xb I ab z h A6 (puts.take m) Ac false P W FT)
def EH.e7{FT:Nat->Prop}(W:F5 N)(hN:N<=330000)(h:EH t H xb b sv A6 puts Ac aA P w FT)(E:P.D.n.AX=false)(Ai:Int)(ht:t+3<=330000)(htN:t+2<=N)(hE:Env B w):
 ∃m,UT t H xb b B (1+DF Ai 300) A6 puts Ac P m w/\Ac<=m/\m<=puts.length/\(aA=false->m=puts.length):=by
 obtain⟨m,I,h3,h4,h5,h6,h7,h8,h9,O,X,d⟩:=h.fA E;have z:=h.1;have hpk:=JQ Ai 300 (by decide);refine⟨m,⟨⟨sv,z.Af⟩,z.up,hE,?_,λw2 hc=>?_,λw3 b2 Y g1 g2 g3=>?_⟩,h8,h9,O⟩
 ·exact ZH W hN w z.Af rfl rfl z.EN I h3 h4 h5 h6 h7 E ht (by omega) hE d
 ·exact U5 (B3.aH z.EN z.lt hc) (I.dY (by omega))
 ·refine(Sj (t:=t) w3 Y g1 g2 I h3 h4 h5 h6 h7 E (by omega) g3 Ia (by omega) d).mono ?_;rintro e w'⟨A,ab,sb,L,rfl,-,-,k2,k3,k4,k5⟩;exact⟨ab,sb,rfl,L,A,k5,λw4 FT' hk=>⟨L,A,hk,k2.ea,k3,k4,X,by omega,d⟩⟩
def ZG{w':World}{E:KN}{R':Kind}{d:Nat->Prop}(W:CO w' xb E)(h:H<=xb)(X:Lk R')(L:R' w' d)(z:∀k,d k->k<w'.heap.size)(I:∀k,d k->xb<k):KW w' H xb E R' d:=
 ⟨W,X,L,z,λY=>by have:=I xb Y;omega,h,λk O=>by have:=I k O;omega⟩
def ZL{FT:Nat->Prop}(bU:F5 N)(hN:N<=330000)(w:World)(Ai:Int)(aD:AN Ai)(h:EH t H xb b sv A6 puts Ac aA P w FT)(ht:t+3<=330000)(a0:t+2<=N)(hE:Env B w)(aZ:B<=H):
 Ag 79 #[A5 xb,A0 Ai] w (Al (.bool true) λw'=>A3 (Eb xb FT) w w'/\∃I,Px t H xb Ai A6 puts Ac aA P w' I/\∀k,I k->w.heap.size<=k):=by
 have bE:Hid (Ag 36 #[A5 b] w (Al (.bool P.D.n.AX) λw'=>w=w')):=A1d h.1.EN;have bQ:Hid (∀k,Eb xb FT k->H<=k):=λk z=>z.elim (λe=>by rw[e];exact h.1.up) (h.1.GH k);have XLT:=A1 h.1.Af.lt;have b8:=A1 (λw'=>Oy w' Ai 300 aD (by decide));have hpk:=JQ Ai 300 (by decide);have ew:IntKind.i64.wrap (1+DF Ai 300)=1+DF Ai 300:=by simp[IntKind.wrap,IntKind.bits,IntKind.signed];omega
 have c0:=h.1.Af.c0;have aS:=A1 aD;have hA:A3 Ab w (w.aC #[A0 Ai,A0 Ai,A0 Ai] 3):=(A3.I _ w).ak _;have hI:Jq (w.aC #[A0 Ai,A0 Ai,A0 Ai] 3) (AJ w.heap.size 3 3) [Ai,Ai,Ai]:=by
  have bJ:=BN w (.cells #[A0 Ai,A0 Ai,A0 Ai] 3);refine⟨_,_,rfl,by simp,λj hj=>⟨w.heap.size,0,rfl,by simp,?_⟩⟩;simp only[World.cell?,bJ]
  match j,hj with
  | 0,_=>rfl
  | 1,_=>rfl
  | 2,_=>rfl
 have CR:=A1 (h.aV hA (by omega) Ai _ _ aD hI (by simp;exact aD) (λad n c x _ e1 e2=>by cases e1;cases e2;exact .inr (As _)));have aG:Hid (∀w1 P2 X aJ,EH t H xb b sv A6 puts Ac X P2 w1 aJ->P2.D.n.AX=false->Env B w1->∃m,UT t H xb b B (1+DF Ai 300) A6 puts Ac P2 m w1/\Ac<=m/\m<=puts.length/\(X=false->m=puts.length)):=λw1 P2 X aJ z hd bI=>z.e7 bU hN hd Ai ht a0 bI;have b1:=A1 hE;have bW:=A1 h;have a1:=A1 aZ;clear h hE aD ht a0 aZ hA hI;generalize aF:DF Ai 300=pk at *;rcases Bool.eq_false_or_eq_true P.D.n.AX with O|O;rotate_left
 focus
  obtain⟨m,hr,m1,m2,m3⟩:=aG.o w P aA FT bW.o O b1.o;have a8:=A1 hr;have a2:Hid (∀w' I,(∃W ab d,GU t H xb W ab d (1+pk) A6 (puts.take m) Ac false P w' I)->Px t H xb Ai A6 puts Ac aA P w' I):=λw' I ⟨W,ab,d,z⟩=>⟨W,ab,d,m,P,by rw[aF];exact z,m1,m2,O,λ_=>⟨rfl,m3⟩,λe=>by rw[O]at e;cases e⟩
  rw[O]at bE;have bR:Hid (∀w' d E,Bn w' d P E->Ag 50 #[A5 d] w' λe aN=>e=.returned (A0 P.D.n.Bt)/\w'=aN):=λw' d E hd=>Rw hd;have bC:Hid (A3 (Eb xb FT) w w):=A3.I _ _;have b5:=A1 a8.o.2.2.1;clear hr m1 m2 m3 aG CR aF bW aS
  go_enter func79,ntmps79
  go_wp2_with (go_at_call 36;refine bE.m ?_;rintro e w'⟨rfl,rfl⟩)
 rotate_left
 focus
  rw[O]at bE
  go_enter func79,ntmps79
  go_wp2_with (go_at_call 36;refine bE.m ?_;rintro e w'⟨rfl,rfl⟩);refine CR.m ?_;rintro e w1⟨rfl,k1,P2,aJ,aX,-,aT,aM⟩;have bC:Hid (A3 (Eb xb FT) w w1):=((A3.I (Eb xb FT) w).ak _).Ap k1 λ_ h _=>.inr h;obtain⟨m,hr,m1,m2,m3⟩:=aG.o w1 P2 true aJ aX aM (b1.o.aj bC.o λk z=>AM a1.o (bQ.o k z));have a8:=A1 hr;have a2:Hid (∀w' I,(∃W ab d,GU t H xb W ab d (1+pk) A6 (puts.take m) Ac false P2 w' I)->Px t H xb Ai A6 puts Ac aA P w' I):=λw' I ⟨W,ab,d,z⟩=>⟨W,ab,d,m,P2,by rw[aF];exact z,m1,m2,aM,λe=>(by rw[O]at e;cases e),λ_=>aT⟩
  have bR:Hid (∀w' d E,Bn w' d P2 E->Ag 50 #[A5 d] w' λe aN=>e=.returned (A0 P2.D.n.Bt)/\w'=aN):=λw' d E hd=>Rw hd;have b5:=A1 a8.o.2.2.1;clear hr m1 m2 m3 aG CR aF bW aS k1 aX aT aM;go_wp2_with (fail)
 all_goals
  obtain⟨⟨sv1,bA⟩,a7,-,a6,aQ,aR⟩:=a8.o;have a5:=A1 bA;have aV:=A1 a7;have b3:=A1 aQ;have aU:=A1 aR;clear a8 bA a7 aQ aR;refine a6.mono ?_;rintro e w2⟨rfl,k2⟩;have bP:=A1 (a5.o.aw k2);have a3:=A1 (b3.o w2 k2);have b6:Hid (Env B w2):=b5.o.aS k2;have bN:Hid (A3 (Eb xb FT) w w2):=bC.o.Ap k2 λ_ h _=>h.elim;have z0:=bP.o.c0;clear a6 k2 b3 bC a5;go_wp2_with (fail);refine a3.m ?_;rintro e w3⟨d,E,rfl,aP,aB,k3⟩;have bD:=bP.o.aw k3;have f3:=bD.fz 0;have y0:=bD.c0;have Y:A3 (One xb) w3 (w3.setCell (Aa xb 0) (A5 d)):=(A3.I (One xb) w3).ao (b:=xb) rfl 0 _;have bB:=A1 (bD.s0 (A5 d));have aW:=bP.o.lt;have bG:Hid (Bn (w3.setCell (Aa xb 0) (A5 d)) d _ E):=B3.aP aP λk z=>Y.Ao k (aB k z).2 (λe=>by cases e;have:=(aB _ z).1;omega);have aO:Hid (∀k,E k->w2.heap.size<=k/\k<(w3.setCell (Aa xb 0) (A5 d)).heap.size):=λk z=>⟨(aB k z).1,Bk (aB k z).2 Y.Ak⟩
  have bY:Hid (A3 (Eb xb FT) w (w3.setCell (Aa xb 0) (A5 d))):=(bN.o.Ap k3 λ_ h _=>h.elim).Ap Y λ_ e _=>.inl e;have bX:Hid (Env B (w3.setCell (Aa xb 0) (A5 d))):=(b6.o.aS k3).aj Y λk e=>by cases e;exact AM a1.o aV.o
  have bH:=A1 aW;have bS:Hid (w2.heap.size<=(w3.setCell (Aa xb 0) (A5 d)).heap.size):=AM k3.Ak Y.Ak;clear aP aB k3 bD Y aW;go_wp2_with (fail);generalize w3.setCell (Aa xb 0) (A5 d)=w4 at bB bG aO bY bX bS ⊢;have bK:=A1 (bR.o w4 d E bG.o);refine bK.m ?_;rintro e w'⟨rfl,rfl⟩;have q0:=bB.o.c0;have q2:=bB.o.c2;have a4:=A1 (aU.o w4.drew d E (B3.af bG.o) (λk z=>(aO.o k z).2) (bX.o.aS (A3.I Ab w4).af));clear aU a3;go_wp2;refine BP (λw'=>A7 w' xb 0 (A5 d)/\A7 w' xb 2 (A0 A6)) 17
   (Bq [0,1,2,3,4,8,9,10,11,5,6,7,12,13,14,15,16] [5,12]) ⟨q0,q2⟩ ?_
  iterate 9 (refine Bg ?_;(try simp only[An]))
  refine Bw λK hK=>?_;go_simp;refine(b8.o _).mono ?_;rintro e w'⟨rfl,rfl⟩;refine hK _ _ ⟨q0,q2⟩ (λhS=>?_)
  (try simp only[An])
  iterate 2 (refine Bg ?_;(try simp only[An]))
  refine Bw λK hK=>?_;go_simp;refine a4.m ?_;rintro e w5⟨ab,W,rfl,L,A,hI,a9⟩;obtain⟨aE,aI,aY,aK,aL⟩:=hI;have nx:¬E xb:=λhx=>by have:=(aO.o _ hx).1;have:=bH.o;omega
  refine hK _ _ ⟨Io aE q0 nx,Io aE q2 nx⟩ (λhS=>?_);have bV:=A1 ((bB.o.aw (A3.I Ab w4).af).Aj aE nx);have b7:Hid (∀k,aI k->w.heap.size<=k):=λk z=>AM bN.o.Ak ((aL k z).elim (λh=>(aO.o k h).1) λh=>AM bS.o h);have b0:Hid (∀k,aI k->xb<k):=λk z=>(aL k z).elim (λh=>Bk bH.o (aO.o k h).1) λh=>Bk bH.o (AM bS.o h)
  have b9:Hid (A3 (Eb xb FT) w w5):=(bY.o.af).Ap aE λx hx hlt=>by have h1:=(aO.o x hx).1;have h2:=bN.o.Ak;omega
  have bZ:=A1 aY;have bM:=A1 aK;have bL:=A1 a9;clear a9 aE aY aK aL nx a4
  (try simp only[An])
  iterate 4 (refine Bg ?_;(try simp only[An]))
  refine Bl ?_;simp only[BI,BH];have y1:=bV.o.c1;have f1:=bV.o.fz 1;have aH:A3 (One xb) w5 (w5.setCell (Aa xb 1) (A5 W)):=(A3.I (One xb) w5).ao (b:=xb) rfl 1 _;have bO:Hid (KW (w5.setCell (Aa xb 1) (A5 W)) H xb ⟨A5 d,A5 W,A6⟩ (KS W ab d 1000 (1+pk) A6 false L A _) aI):=
   ZG (bV.o.s1 _) aV.o (KS.G2 _ _ _ _ _ _ _ _ _ _) (KS.G2 _ _ _ _ _ _ _ _ _ _ _ _ _ _ bZ.o bM.o aH λk z e=>by cases e;have:=b0.o _ z;omega) (λk z=>Bk (bM.o k z) aH.Ak) b0.o
  have b4:Hid (A3 (Eb xb FT) w (w5.setCell (Aa xb 1) (A5 W))):=b9.o.Ap aH λ_ e _=>.inl e;clear aH bZ bM;go_wp2_with (fail);generalize w5.setCell (Aa xb 1) (A5 W)=w6 at bO b4 ⊢;obtain⟨bT,bF,-⟩:=SF.dk bO.o.EN;refine(bR.o w6 d bT bF).mono ?_;rintro e w'⟨rfl,rfl⟩;go_wp2;go_ret;exact⟨rfl,b4.o,aI,a2.o _ _ ⟨W,ab,d,bL.o _ _ bO.o⟩,b7.o⟩
def GU.ko{E ab:Nat}{d:Int}{z:Bool}{FT:Nat->Prop}(h:GU t H xb E ab b d A6 puts Ac z P w FT):KO t H xb E ab b d A6 puts Ac z P w:=by
 obtain⟨L,A,I⟩:=h;exact⟨L,A,FT,I⟩
def ZM{FT:Nat->Prop}{w':World}(h:EH t H xb b sv A6 puts Ac aA P w FT)(z:A3 (Eb xb FT) w w'):A3 (Up H) w w':=z.aa λk _ d=>d.elim (λe=>by rw[e];exact h.1.up) (h.1.GH k)
end
section
variable {w:World} {t H xb b B N:Nat} {A6:Int} {P:PD} {puts:List Pu} {Ac:Nat} {aA:Bool} {sv:Value}
def UP(t H xb:Nat)(Ai A6:Int)(puts:List Pu)(Ac:Nat)(aA:Bool)(P:PD)(w:World)(FT:Nat->Prop):Prop:=
 ∃h ab d m P2,GU t H xb h ab d (1+DF Ai 300) A6 (puts.take m) Ac false P2 w FT/\Ac<=m/\m<=puts.length/\P2.D.n.AX=false/\Still P2/\(P.D.n.AX=false->P2.D.n.Bt=P.D.n.Bt/\(aA=false->m=puts.length))
def Std(t H xb:Nat)(Ai A6:Int)(puts:List Pu)(Ac:Nat)(aA:Bool)(P:PD)(w:World):Prop:=
 ∃h ab d m P2,KO t H xb h ab d (1+DF Ai 300) A6 (puts.take m) Ac false P2 w/\Ac<=m/\m<=puts.length/\P2.D.n.AX=false/\Still P2/\(P.D.n.AX=false->P2.D.n.Bt=P.D.n.Bt/\(aA=false->m=puts.length))
def EH.ca{FT:Nat->Prop}(h:EH t H xb b sv A6 puts Ac aA P w FT)(d:DN)(w':World)(O:d.AH=P.D.n.AH)(e2:0<=d.BJ/\d.BJ<=9223372036854775807)(e3:d.Bt=P.D.n.Bt)(e4:d.fulls=P.D.n.fulls)(X:d.AX=P.D.n.AX)(e6:d.AZ=P.D.n.AZ)(hA:Ev w FT w' b {P.D with n:=d} P.F):A3 FT w w'/\∃z,EH t H xb b sv A6 puts Ac aA ⟨{P.D with n:=d},P.F⟩ w' z/\∀k,z k->FT k\/w.heap.size<=k:=by
 obtain⟨h1,Y,L,h4⟩:=h;obtain⟨hc,E,q1,q2,q3⟩:=hA;obtain⟨-,c2,I,W,k2⟩:=h1.cN (R':=KD b ⟨{P.D with n:=d},P.F⟩) (KD.G2 _ _) ⟨hc,E,q1,q2,q3⟩;exact⟨c2,I,⟨W,Y.ca d O e2 e3 e4 X,⟨O.trans L.1,by dsimp only;rw[e6];exact L.2⟩,h4⟩,k2⟩
def Tf{FT:Nat->Prop}(aI:F5 N)(hN:N<=330000)(w:World)(Ai:Int)(O:AN Ai)(h:EH t H xb b sv A6 puts Ac aA P w FT)(ht:t+3<=330000)(aD:t+2<=N)(hE:Env B w)(aB:B<=H):
 Ag 33 #[A5 xb,A0 Ai] w (Al (.bool true) λw'=>A3 (Eb xb FT) w w'/\∃d,UP t H xb Ai A6 puts Ac aA P w' d/\∀k,d k->w.heap.size<=k):=by
 have aN:Hid (Ag 35 #[A5 b,A0 0] w (Al (.tuple #[]) λw'=>A3 FT w w'/\∃d,EH t H xb b sv A6 puts Ac aA ⟨{P.D with n:=Ja P.D.n 0},P.F⟩ w' d/\∀k,d k->FT k\/w.heap.size<=k)):=by
  refine(TX h.1.EN 0).mono ?_;rintro e w'⟨rfl,hA⟩;exact⟨rfl,h.ca (Ja P.D.n 0) w' rfl h.2.1.1.CV.BJ rfl rfl rfl rfl hA⟩
 have c0:=h.1.Af.c0;have aM:Hid (∀E z,EH t H xb b sv A6 puts Ac aA ⟨{P.D with n:=Ja P.D.n 0},P.F⟩ E z->Ag 78 #[A5 b,A0 0,A0 0] E (Al (.tuple #[]) λw'=>A3 z E w'/\∃d,EH t H xb b sv A6 puts Ac aA ⟨{P.D with n:=Eh (Ja P.D.n 0) 0 0},P.F⟩ w' d/\∀k,d k->z k\/E.heap.size<=k)):=λE z I=>by
  refine(TM I.1.EN 0 0).mono ?_;rintro e w'⟨rfl,hA⟩;exact⟨rfl,I.ca (Eh (Ja P.D.n 0) 0 0) w' rfl (Ys ⟨by decide,by decide⟩) rfl rfl rfl rfl hA⟩
 have aG:Hid (∀k,Eb xb FT k->H<=k):=λk L=>L.elim (λe=>by rw[e];exact h.1.up) (h.1.GH k);have aE:Hid (∀E z,EH t H xb b sv A6 puts Ac aA ⟨{P.D with n:=Eh (Ja P.D.n 0) 0 0},P.F⟩ E z->A3 (Eb xb FT) w E->Ag 79 #[A5 xb,A0 Ai] E (Al (.bool true) λw'=>A3 (Eb xb z) E w'/\(∃sb X,CO w' xb ⟨A5 X,A5 sb,A6⟩)/\∃d,UP t H xb Ai A6 puts Ac aA P w' d/\∀k,d k->E.heap.size<=k)):=λE z I hc=>by
  refine(ZL aI hN E Ai O I ht aD (hE.aj hc λk L=>AM aB (aG.o k L)) aB).mono ?_;rintro e w'⟨rfl,k1,d,⟨sb,ab,X,m,P2,k2,k3,k4,k5,k6,k7⟩,k8⟩;refine⟨rfl,k1,⟨sb,X,k2.ko.Af⟩,d,⟨sb,ab,X,m,P2,k2,k3,k4,k5,?_,λhd=>?_⟩,k8⟩
  ·cases hd:P.D.n.AX with
   | false=>rw[(k6 hd).1];exact⟨by simp[Eh,Ja],by simp[Eh]⟩
   | true=>exact k7 hd
  ·obtain⟨e1,e2⟩:=k6 hd;exact⟨by rw[e1];rfl,e2⟩
 clear hE O ht aD h
 go_enter func33,ntmps33
 go_wp2_with (fail);refine aN.m ?_;rintro e E⟨rfl,k1,z,I,s1⟩;have z0:=I.1.Af.c0;have aK:=A1 k1;have aO:=A1 s1;have aJ:=A1 (aM.o E z I);clear aN aM I k1 s1;go_wp2_with (fail);refine aJ.m ?_;rintro e w2⟨rfl,k2,Y,h2,s2⟩;have aR:Hid (∀k,Y k->FT k\/w.heap.size<=k):=λk L=>(s2 k L).elim (λh=>aO.o k h) λh=>.inr (AM aK.o.Ak h)
 have aH:Hid (A3 (Eb xb FT) w w2):=(aK.o.aa (S':=Eb xb FT) λ_ _ h=>.inr h).Ap k2 λx hx aF=>.inr ((aO.o x hx).elim id λh=>by omega);have aL:=A1 (aE.o w2 Y h2 aH.o);clear aE h2 k2 s2;go_wp2_with (fail);refine aL.m ?_;rintro e w3⟨rfl,k3,⟨sb,X,hb⟩,W,h3,s3⟩;have y1:=hb.c1;have aP:=A1 h3;have aS:Hid (∀k,W k->w.heap.size<=k):=λk L=>AM aH.o.Ak (s3 k L);have aQ:Hid (A3 (Eb xb FT) w w3):=aH.o.Ap k3 λx hx aF=>hx.elim .inl λh=>(aR.o x h).elim .inr λh=>by omega
 clear hb h3 k3 aL s3;go_wp2;go_ret;exact⟨rfl,aQ.o,W,aP.o,aS.o⟩
def ZI(z:F5 N)(hN:N<=330000)(w:World)(Ai:Int)(d:AN Ai)(h:KC t H xb b sv A6 puts Ac aA P w)(O:t+3<=330000)(I:t+2<=N)(X:Env B w)(E:B<=H):
 Ag 33 #[A5 xb,A0 Ai] w (Al (.bool true) λw'=>A3 (Up H) w w'/\Std t H xb Ai A6 puts Ac aA P w'):=by
 obtain⟨FT,h⟩:=h;refine(Tf z hN w Ai d h O I X E).mono ?_;rintro e w'⟨rfl,L,FT',⟨sb,ab,Y,m,P2,k2,W⟩,-⟩;exact⟨rfl,ZM h L,sb,ab,Y,m,P2,k2.ko,W⟩
def Yr(a n:Int)(E:AN a)(h:0<n/\n<=9223372036854775806):(∀w',Ag 20 #[A0 a,A0 n] w' λe d=>e=.returned (A0 (DF a n))/\w'=d)/\(0<=DF a n/\DF a n<n)/\IntKind.i64.wrap (1+DF a n)=1+DF a n:=by
 have z:=JQ a n h.1;exact⟨λw'=>Oy w' a n E ⟨h.1,by omega⟩,z,by simp[IntKind.wrap,IntKind.bits,IntKind.signed];omega⟩
def PJ(A6:Int)(w:World)(xb:Nat)(w':World):Prop:=A3 (λ_=>False) w w'/\∃d ab b P,KO 0 w.heap.size xb d ab b (1+DF 9 300) A6 [] 0 false P w'/\P.D.n.AX=false/\Still P/\P.D.n.Bt=0
def Tg(aE:F5 N)(hN:10<=N/\N<=330000)(w:World)(A6:Int)(hc:AN A6)(hE:Env B w):
 Ag 34 #[A0 A6] w λe w'=>∃xb,e=.returned (A5 xb)/\PJ A6 w xb w':=by
 have aO:=A1 (YY (F:=λ_=>([],0)) 1152921504606846976 w);have aP:=A1 hc;have HE:=A1 hE
 have ST:Hid (∀d xb b,KC 0 w.heap.size xb b (.pointer none) A6 [] 0 false (Fl 1152921504606846976) d->A3 Ab w d->Ag 33 #[A5 xb,A0 9] d (Al (.bool true) λw'=>A3 Ab w w'/\
  ∃L ab b2 P,KO 0 w.heap.size xb L ab b2 (1+DF 9 300) A6 [] 0 false P w'/\P.D.n.AX=false/\Still P/\P.D.n.Bt=0)):=λd xb b h1 O=>by
  refine(ZI (B:=B) aE hN.2 d 9 ⟨by decide,by decide⟩ h1 (by omega) (by omega) (hE.aS O) hE.1.1).mono ?_;rintro e w'⟨rfl,k2,L,ab,b2,m,P2,q1,-,-,q4,q5,q6⟩;rw[List.take_nil]at q1;exact⟨rfl,O.bZ k2 λ_ h=>h,L,ab,b2,P2,q1,q4,q5,(q6 rfl).1⟩
 clear hE
 go_enter func34,ntmps34
 go_wp2_with (fail);refine aO.m ?_;rintro e d⟨rfl,W,O,hz⟩;have hA:=(A3.I Ab d).ak (.cells #[A5 w.heap.size,.pointer none,A0 A6] 60);have hK:Hid (KC 0 w.heap.size d.heap.size w.heap.size (.pointer none) A6 [] 0 false (Fl 1152921504606846976) (d.alloc (.cells #[A5 w.heap.size,.pointer none,A0 A6] 60))):=
  ⟨One w.heap.size,⟨BN d _,KD.G2 _ _,W.aH (λk X=>by cases X;omega) hA,λk X=>by cases X;have:=hA.Ak;omega,λe=>by unfold One at e;omega,by omega,λk X=>by cases X;exact As _⟩,A0J (by omega),⟨rfl,by simp[Fl,K4],by simp[Fl,K4]⟩,aP.o⟩
 have aF:Hid (A3 Ab w (d.alloc (.cells #[A5 w.heap.size,.pointer none,A0 A6] 60))):=O.tr hA;have aK:=A1 (ST.o _ _ _ hK.o aF.o);clear ST W O hA hz;go_wp2_with (fail);refine aK.m ?_;rintro e w2⟨rfl,k2,L,ab,b2,P,h2,W,hs,hr⟩;have y1:=h2.Af.c1;have aJ:=A1 h2;have aR:=A1 (And.intro W (And.intro hs hr));have aI:=A1 h2.ct;have aG:=A1 k2;clear h2 W hs hr k2 aK hK aF;go_wp2_with (fail);refine aI.m ?_;rintro e z⟨rfl,k3⟩;have aQ:Hid (A3 Ab w z):=aG.o.tr k3;have aL:=A1 (aJ.o.aw k3);have E:=(A3.I Ab z).ak (.cells #[.bool false,A0 A6] 74);have I:=BN z (.cells #[.bool false,A0 A6] 74);have aB:=A1 (aL.o.aw E);have aH:Hid (A3 Ab w (z.alloc (.cells #[.bool false,A0 A6] 74))):=aQ.o.tr E;have z1:=aB.o.Af.c1;have x0:A7 (z.alloc (.cells #[.bool false,A0 A6] 74)) z.heap.size 0 (.bool false):=Gg I;have x1:A7 (z.alloc (.cells #[.bool false,A0 A6] 74)) z.heap.size 1 (A0 A6):=Gg I;have aD:Hid (Ag 37 #[A5 L,A0 0,A0 (-9223372036854775808),A0 9223372036854775807] (z.alloc (.cells #[.bool false,A0 A6] 74)) λe w'=>∃x,e=.returned (.tuple #[x,A0 0])/\Dm w' x []/\A3 Ab (z.alloc (.cells #[.bool false,A0 A6] 74)) w'):=aB.o.bD 0 (by decide) _ _;clear E I k3 aI aJ aG;go_wp2_with (fail);generalize z.alloc (.cells #[.bool false,A0 A6] 74)=w4 at aB aH x0 x1 aD ⊢;refine aD.m ?_;rintro e w5⟨x,rfl,hx,Y⟩;have x0':=Y.al x0;have x1':=Y.al x1;obtain⟨ad,cap,rfl,-⟩:=B8 hx;have aM:=A1 (aB.o.aw Y);have aN:Hid (A3 Ab w w5):=aH.o.tr Y;clear hx Y aD;go_wp2;go_ret;exact⟨d.heap.size,rfl,aN.o,L,ab,b2,P,aM.o,aR.o⟩
end
end
section
open Go.RowKit

end
section
open Go.RowKit
attribute [local go_sem ↓] Go.wp_at_zero Go.wp_at_succ
def ZK(w:World)(va vb:Value)(l m:List Pt)(ha:Dm w va l)(hb:Dm w vb m)(hl:l.length<1099511627776)(_hm:m.length<1099511627776):
 Ag 39 #[va,vb] w (Al (.bool (decide (l=m))) λw'=>A3 Ab w w'):=by
 obtain⟨aa,ca,rfl,-,-,aB,-,-⟩:=B8 ha;obtain⟨ab,cb,rfl,-,-,aH,-,-⟩:=B8 hb;by_cases d:l.length=m.length
 ·have aL:=A1 ha;have aK:=A1 hb;have Y:=A1 aB;have aE:=A1 aH;have I:=A1 d;obtain⟨q,hq⟩:∃q,decide (l=m)=q:=⟨_,rfl⟩;rw[hq,<-d];have aJ:=A1 hq;clear ha hb aB aH d hq _hm
  go_enter func39,ntmps39
  go_wp2;go_loopw [5] (λiv wr=>∃k:Nat,k<=l.length/\iv=A0 k/\Hid (A3 Ab w wr)/\Hid (l.take k=m.take k)) (λiv _=>l.length-(intOf iv).toNat)
  case atStart=>exact⟨0,by omega,rfl,A3.I _ _,rfl⟩
  case round=>
   obtain⟨k,hk,rfl,X,hE⟩:=hrel;obtain⟨w0,aM⟩:∃w0,w0=wr:=⟨_,rfl⟩;subst aM;have k0:=C3 k;by_cases z:k<l.length
   ·(have E:k<m.length:=by have:=I.o;omega);(have k1:(k:Int)<(l.length:Int):=by omega);obtain⟨O,rfl⟩:=Y.o (by omega);obtain⟨W,rfl⟩:=aE.o (by omega);have aA:Dm w0 _ l:=Ay aL.o λg hg=>X.o.Ao g (AB aL.o hg) (λh=>h);obtain⟨a0,a1⟩:=aA.bz k z;clear aA;have aG:Dm w0 _ m:=Ay aK.o λg hg=>X.o.Ao g (AB aK.o hg) (λh=>h);obtain⟨b0,b1⟩:=aG.bz k E;clear aG;obtain⟨p,hx⟩:∃p,l[k]'z=p:=⟨_,rfl⟩;obtain⟨r,hy⟩:∃r,m[k]'E=r:=⟨_,rfl⟩;have aF:Hid (p=r->l.take (k+1)=m.take (k+1)):=λe=>by
     rw[Dn z,Dn E,hE.o,hx,hy,e]
    have H:Hid (p≠r->q=false):=λaI=>by
     rw[<-aJ.o];refine CZ λe=>aI ?_;subst e;rw[<-hx,<-hy]
    obtain⟨t,v⟩:=p;obtain⟨t2,v2⟩:=r;rw[hx]at a0 a1;rw[hy]at b0 b1;have aN:=A1 z;clear hx hy aL aK Y aE hE I aJ E z;by_cases e1:t=t2
    ·subst e1;by_cases e2:v=v2
     ·subst e2;have aO:=A1 (aF.o rfl);clear aF H;go_wp2;refine BP (λw'=>A7 w' O (k*2) (A0 t)/\A7 w' O (k*2+1) (A0 v)/\A7 w' W (k*2) (A0 t)/\A7 w' W (k*2+1) (A0 v)) 23
       (Bq [0,1,2,3,4,5,6,7,8,9,10,11,12,13,14,15,16,17,18,19,20,21,22] []) ⟨a0,a1,b0,b1⟩ ?_
      iterate 23 (refine Bg ?_;(try simp only[An]))
      refine Bl ?_;simp only[BI,BH];go_wp2;go_roundw
      case rel=>exact⟨k+1,by have:=aN.o;omega,by go_num,X.o.af,aO.o⟩
      case measure=>have:=aN.o;simp[intOf];omega
     ·have aD:=H.o (by simp[e2]);(have e3:(v !=v2)=true:=by simpa using e2);have L:=A1 aD;go_wp2;refine BP (λw'=>A7 w' O (k*2) (A0 t)/\A7 w' O (k*2+1) (A0 v)/\A7 w' W (k*2) (A0 t)/\A7 w' W (k*2+1) (A0 v2)) 23
       (Bq [0,1,2,3,4,5,6,7,8,9,10,11,12,13,14,15,16,17,18,19,20,21,22] []) ⟨a0,a1,b0,b1⟩ ?_
      iterate 23 (refine Bg ?_;(try simp only[An]))
      refine Bl ?_;simp only[BI,BH];go_wp2;go_ret;rw[L.o];exact⟨rfl,X.o.af⟩
    ·have aD:=H.o (by simp[e1]);(have e3:(t !=t2)=true:=by simpa using e1);have L:=A1 aD;go_wp2;refine BP (λw'=>A7 w' O (k*2) (A0 t)/\A7 w' O (k*2+1) (A0 v)/\A7 w' W (k*2) (A0 t2)/\A7 w' W (k*2+1) (A0 v2)) 23
      (Bq [0,1,2,3,4,5,6,7,8,9,10,11,12,13,14,15,16,17,18,19,20,21,22] []) ⟨a0,a1,b0,b1⟩ ?_
     iterate 12 (refine Bg ?_;(try simp only[An]))
     iterate 11 (refine VL rfl (by rfl) ?_;(try simp only[An]))
     refine Bl ?_;simp only[BI,BH];go_wp2;go_ret;rw[L.o];exact⟨rfl,X.o.af⟩
   ·(obtain rfl:k=l.length:=by omega);have aD:Hid (q=true):=by
     have h2:=hE.o;rw[C6,I.o,C6]at h2;rw[<-aJ.o];exact CH h2
    go_wp2;go_ret;rw[aD.o];exact⟨rfl,X.o⟩
 ·have e:decide (l=m)=false:=CZ λe=>d (Ei List.length e);have e2:((l.length:Int)!=(m.length:Int))=true:=by simp;omega
  rw[e]
  go_enter func39,ntmps39
  go_wp2;go_ret;exact⟨rfl,A3.I _ _⟩
end
section
open Go.RowKit
section
variable {w w':World} {t t' N B H xb sb ab b:Nat} {aA cb A6:Int} {puts:List Pu} {Ac:Nat} {FT:Nat->Prop}
def Bb(t H xb sb ab b:Nat)(aA cb A6:Int)(puts:List Pu)(w:World)(FT:Nat->Prop):Prop:=
 ∃Ac P L A,KW w H xb ⟨.pointer (some ⟨b,0,none⟩),.pointer (some ⟨sb,0,none⟩),cb⟩ (KS sb ab b 1000 aA A6 false L A P) FT/\GX t A P puts Ac (Ba A6 1000) false/\Rel L puts 1000 A6/\(∀k,k<8->(L k).length<=t)/\E3 P t/\(1<=aA/\aA<=4611686018427387904)/\AN A6/\P.D.n.AX=false/\Still P
def GU.aN{P:PD}(h:GU t H xb sb ab b aA A6 puts Ac false P w FT)(d:P.D.n.AX=false)(hs:Still P):Bb t H xb sb ab b aA A6 A6 puts w FT:=by
 obtain⟨L,A,O,E,Y,I,W,z,X⟩:=h;exact⟨Ac,P,L,A,O,E,Y,I,W,z,X,d,hs⟩
def Bb.fB(h:Bb t H xb sb ab b aA A6 A6 puts w FT):∃Ac P,GU t H xb sb ab b aA A6 puts Ac false P w FT/\P.D.n.AX=false/\Still P:=by
 obtain⟨Ac,P,L,A,O,E,Y,I,W,z,X,d,hs⟩:=h;exact⟨Ac,P,⟨L,A,O,E,Y,I,W,z,X⟩,d,hs⟩
def Bb.br{S:Nat->Prop}(h:Bb t H xb sb ab b aA cb A6 puts w FT)(O:A3 S w w')(d:∀k,Eb xb FT k->¬S k):Bb t H xb sb ab b aA cb A6 puts w' FT:=by
 obtain⟨Ac,P,L,A,I,E⟩:=h;exact⟨Ac,P,L,A,I.br O (d xb (.inl rfl)) (λk z=>d k (.inr z)),E⟩
def Bb.aw(h:Bb t H xb sb ab b aA cb A6 puts w FT)(d:A3 Ab w w'):Bb t H xb sb ab b aA cb A6 puts w' FT:=h.br d λ_ _ h=>h
def Bb.aa(h:Bb t H xb sb ab b aA cb A6 puts w FT)(d:t<=t'):Bb t' H xb sb ab b aA cb A6 puts w FT:=by
 obtain⟨Ac,P,L,A,W,I,Y,O,X,E⟩:=h;exact⟨Ac,P,L,A,W,I.aa d,Y,λk z=>AM (O k z) d,X.aa d,E⟩
def Bb.Af(h:Bb t H xb sb ab b aA cb A6 puts w FT):CO w xb ⟨A5 b,A5 sb,cb⟩:=by obtain⟨_,_,_,_,d,-⟩:=h;exact d.Af
def Bb.lt(h:Bb t H xb sb ab b aA cb A6 puts w FT)(k:Nat)(d:Eb xb FT k):H<=k/\k<w.heap.size:=by
 obtain⟨_,_,_,_,z,-⟩:=h;rcases d with rfl|d
 ·exact⟨z.up,z.Af.lt⟩
 ·exact⟨z.GH k d,z.lt k d⟩
def Bb.cy(h:Bb t H xb sb ab b aA cb A6 puts w FT):AN A6/\(∀p∈puts,Bi p)/\puts.length<=t:=by
 obtain⟨_,_,_,_,-,d,-,-,-,-,z,-⟩:=h;exact⟨z,d.1.2.2.1,d.1.2.2.2.1⟩
def Bb.bh(h:Bb t H xb sb ab b aA cb A6 puts w FT)(x:Int):A3 (One xb) w (w.setCell ⟨xb,2,none⟩ (.int .i64 x))/\Bb t H xb sb ab b aA x A6 puts (w.setCell ⟨xb,2,none⟩ (.int .i64 x)) FT:=by
 obtain⟨Ac,P,L,A,d,I⟩:=h;obtain⟨z,E⟩:=d.D9 2 (.int .i64 x) (d.Af.s2 x);exact⟨z,Ac,P,L,A,E,I⟩
def H8(FT:Nat->Prop)(w w':World)(R:(Nat->Prop)->Prop):Prop:=A3 FT w w'/\∃d,R d/\∀k,d k->FT k\/w.heap.size<=k
def Bb.ag{f:Nat}{args:Array Value}{cd:Int}{z:Bool}{L:Nat->List Pt}{A:Ar}{P:PD}{E:Nat->List Pt}{A2:Ar}{P2:PD}{q:List Pu}{s2:Nat}{d:Int}(h1:KW w H xb ⟨A5 b,A5 sb,cb⟩ (KS sb ab b 1000 aA A6 false L A P) FT)(W:Ag f args w (Al (A0 cd) λw'=>Aq w FT w' (λw' h=>SF w' sb ab b 0 1000 aA d z E A2 P2 h)))(X:GX t' A2 P2 q s2 (Ba d 1000) z)(h3:Rel E q 1000 d)(Y:∀k,k<8->(E k).length<=t')(h5:E3 P2 t')(h6:1<=aA/\aA<=4611686018427387904)(h7:AN d)(I:z=false)(e1:Still P2)(e2:P2.D.n.AX=false):
 Ag f args w (Al (A0 cd) λw'=>H8 FT w w' (Bb t' H xb sb ab b aA cb d q w')):=by
 subst I;refine W.mono ?_;rintro e w'⟨rfl,hI⟩;obtain⟨-,c2,h,O,k2⟩:=h1.cN (KS.G2 sb ab b 1000 aA d false E A2 P2) hI;exact⟨rfl,c2,h,⟨s2,P2,E,A2,O,X,h3,Y,h5,h6,h7,e2,e1⟩,k2⟩
def Bb.av(h:Bb t H xb sb ab b aA cb A6 puts w FT)(I:t+1<=330000)(hL:Lets B w)(W:B<=H)(p:Pu)(O:Bi p):
 Ag 23 #[A5 sb,A0 p.1,A0 p.2.1,A0 p.2.2] w (Al (A0 0) λw'=>H8 FT w w' (Bb (t+1) H xb sb ab b aA cb A6 (puts++[p]) w')):=by
 obtain⟨Ac,P,L,A,z,h2,h3,Y,h5,h6,h7,hd,hs⟩:=h;have X:=h2.2 hd;obtain⟨c1,c2,-⟩:=X.fo h5 I p O;have d:∀k,k<8->Dv (L k):=by obtain⟨lv,F0,q,-⟩:=z.EN;exact q.E9.FA
 obtain⟨q,q1,q2,q3,q4⟩:=Yc X I p O h3 d (bo:=(A.ad P p).1) (cd:=(A.ad P p).2.1) (A2:=(A.ad P p).2.2.1) (P2:=(A.ad P p).2.2.2) rfl rfl;obtain⟨e0,e1,e2⟩:=c1.de hs h5;obtain rfl:q=_:=q1.elim id λh=>absurd e0 h.2;have:=Bb.ag z (RK w p z.EN z.lt X I O hL (λk E=>AM W (z.GH k E)) Y Ia h7) q2 q3 (λk E=>q4 k E (Y k E)) c2 h6 h7 (by simp[e0]) e1 e2
 rwa [e0]at this
def Bb.put_bad(h:Bb t H xb sb ab b aA cb A6 puts w FT)(k a v:Int)(I:¬(0<=k/\k<8)):
 Ag 23 #[A5 sb,A0 k,A0 a,A0 v] w (Al (A0 2) λw'=>H8 FT w w' (Bb t H xb sb ab b aA cb A6 puts w')):=by
 obtain⟨Ac,P,L,A,d,E,Y,O,X,h6,W,z,hs⟩:=h;exact Bb.ag d (Go.Proofs.YtodcnkbblippnaaGreatDoor.put_bad w k a v d.EN d.lt I) E Y O X h6 W rfl hs z
def Bb.cq(Y:F5 N)(hN:N<=330000)(f:Nat)(hf:PV f)(h:Bb t H xb sb ab b aA cb A6 puts w FT)(I:t+1<=330000)(aB:puts.length<=N)(hL:Lets B w)(aD:B<=H):
 Calls Tryz.prog f #[.pointer (some ⟨sb,0,none⟩)] w λe w'=>e=.returned (.int .i64 0)/\H8 FT w w' (Bb (t+1) H xb sb ab b aA cb A6 puts w'):=by
 obtain⟨Ac,P,L,A,E,h2,h3,h4,W,h6,h7,hd,hs⟩:=h;have z:=h2.2 hd;have d:∀k,FT k->B<=k:=λk hk=>AM aD (E.GH k hk);have O:∀k,k<8->(L k).length<=t+1:=λk hk=>MX (h4 k hk);rcases hf with rfl|rfl|rfl
 ·obtain⟨a1,-,X,a4,a5,-⟩:=z.ae I;obtain⟨c1,c2⟩:=z.fG W I;obtain⟨e0,e1,e2⟩:=c1.de hs W;have:=Bb.ag E (Wc w E.EN E.lt hL d) (NN z a1 X a4 a5) h3 O c2 h6 h7 (by simp[e0]) e1 e2
  rwa [e0]at this
 ·obtain⟨a1,-,X,a4,a5⟩:=z.aR (Ai:=aA) (Fj _) I;obtain⟨c1,c2⟩:=z.fC (Ai:=aA) (Fj _) W I;obtain⟨e0,e1,e2⟩:=c1.de hs W;have:=Bb.ag E (TJ Y hN w E.EN E.lt z I aB h6 hL d) (NN z a1 X a4 a5) h3 O c2 h6 h7 (by simp[e0]) e1 e2
  rwa [e0]at this
 ·obtain⟨a1,-,X,a4,a5⟩:=z.aQ (Ai:=aA) (Fj _) I;obtain⟨c1,c2⟩:=z.e1 (Ai:=aA) (Fj _) W I;obtain⟨e0,e1,e2⟩:=c1.de hs W;have:=Bb.ag E (A1G Y hN w E.EN E.lt z I aB h6 hL d Ia h7) (NN z a1 X a4 a5) h3 O c2 h6 h7 (by simp[e0]) e1 e2
  rwa [e0]at this
def Bb.cf(h:Bb t H xb sb ab b aA cb A6 puts w FT)(x:Int)(W:0<=x/\x<=9223372036854775807):
 Calls Tryz.prog 27 #[.pointer (some ⟨sb,0,none⟩),.int .i64 x] w λe w'=>e=.returned (.int .i64 0)/\H8 FT w w' (Bb t H xb sb ab b aA cb (G1 A6 x) puts w'):=by
 obtain⟨Ac,P,L,A,h1,X,h3,h4,h5,h6,O,E,hs⟩:=h;obtain⟨lv,F0,q,z⟩:=h1.EN;refine(Wa w x q.Af q.E9 W Ia O).mono ?_;rintro e w'⟨rfl,lv',Y,hS,hG⟩;obtain⟨-,c2,I,k1,k3⟩:=h1.cN (R':=KS sb ab b 1000 aA (G1 A6 x) false Y A P) (KS.G2 _ _ _ _ _ _ _ _ _ _) (q.dp z hS);have d:A6<=G1 A6 x:=by
  obtain⟨x1,x2⟩:=O;unfold G1;split<;>omega
 refine⟨rfl,c2,I,⟨Ac,P,Y,A,k1,?_,h3.cf (λp hp=>(X.1.2.2.1 p hp).2.1) d hG,λk hk=>AM (hG.B5 hk) (h4 k hk),h5,h6,Qu O W.1 W.2,E,hs⟩,k3⟩;obtain⟨⟨r1,r2,r3⟩,r4⟩:=X;exact⟨⟨r1,r2.bc (Oc d),r3⟩,λE=>(r4 E).bc (Oc d)⟩
def Bb.b2(h:Bb t H xb sb ab b aA cb A6 puts w FT):∃lv L,Bm w sb 0 (A5 ab) 1000 aA A6 false lv/\E1 w lv L/\Rel L puts 1000 A6:=by
 obtain⟨Ac,P,L,A,d,h2,z,-⟩:=h;obtain⟨lv,F0,q,-⟩:=d.EN;exact⟨lv,L,q.Af,q.E9,z⟩
def Bb.tick_bad(h:Bb t H xb sb ab b aA cb A6 puts w FT)(x:Int)(z:x<0):
 Ag 27 #[A5 sb,A0 x] w (Al (A0 3) λw'=>A3 Ab w w'):=by
 obtain⟨lv,L,d,-⟩:=h.b2;exact Go.Proofs.YtodcnkbblippnaaGreatDoor.tick_bad w x d z
def Bb.ct(h:Bb t H xb sb ab b aA cb A6 puts w FT):
 Ag 38 #[A5 sb] w (Al (.agg #[.bool false,A0 A6]) λw'=>A3 Ab w w'):=by
 obtain⟨lv,L,d,-⟩:=h.b2;exact QO w d
def Bb.bD(h:Bb t H xb sb ab b aA cb A6 puts w FT)(k:Nat)(d:k<8)(a c:Int):
 Ag 37 #[A5 sb,A0 k,A0 a,A0 c] w λe w'=>∃x,e=.returned (.tuple #[x,A0 0])/\Dm w' x (refQ puts k a c 1000 A6)/\A3 Ab w w':=by
 obtain⟨lv,L,O,E,Y⟩:=h.b2;obtain⟨I,X,-⟩:=h.cy;refine(RJ w k a c O E d Ia I).mono ?_;rintro e w'⟨x,rfl,z,hc,-⟩;rw[Y.bD (λp W=>(X p W).2.1) d]at z;exact⟨x,rfl,z,hc⟩
def Bb.query_bad(h:Bb t H xb sb ab b aA cb A6 puts w FT)(k a c:Int)(d:¬(0<=k/\k<8)):
 Ag 37 #[A5 sb,A0 k,A0 a,A0 c] w (Al (.tuple #[.slice none 0 0,A0 2]) λw'=>A3 Ab w w'):=by
 obtain⟨lv,L,z,-⟩:=h.b2;exact Go.Proofs.YtodcnkbblippnaaGreatDoor.query_bad w k a c z d
end
def A3Z(I:Nat)(E:Nat->Prop)(d:Nat)(h:Nat->Prop):Prop:=∀k,Eb I E k->¬Eb d h k
structure Hp where
 x:Nat
 s:Nat
 a:Nat
 b:Nat
 Qh:Int
 cb:Int
 EF:Int
 puts:List Pu
def Hp.At(o:Hp)(t H:Nat)(w:World)(FT:Nat->Prop):Prop:=Bb t H o.x o.s o.a o.b o.Qh o.cb o.EF o.puts w FT
def EG(H z k:Nat):Prop:=H<=k/\k≠z
def D6(t s H z:Nat)(p q:Hp)(w:World):Prop:=z<w.heap.size/\∃d h,p.At t H w d/\q.At s H w h/\A3Z p.x d q.x h/\¬Eb p.x d z/\¬Eb q.x h z
section
variable {w w':World} {t t' s s' N B H z:Nat} {p q p' q':Hp}
def D6.bn(h:D6 t s H z p q w):D6 s t H z q p w:=by
 obtain⟨Y,L,O,W,I,X,d,E⟩:=h;exact⟨Y,O,L,I,W,λk d E=>X k E d,E,d⟩
def D6.aw(h:D6 t s H z p q w)(d:A3 Ab w w'):D6 t s H z p q w':=by
 obtain⟨X,L,I,O,E,W⟩:=h;exact⟨Bk X d.Ak,L,I,Bb.aw O d,Bb.aw E d,W⟩
def D6.aa(h:D6 t s H z p q w)(O:t<=t'):D6 t' s H z p q w:=by
 obtain⟨X,I,E,L,d,W⟩:=h;exact⟨X,I,E,Bb.aa L O,d,W⟩
def D6.Af(h:D6 t s H z p q w):CO w p.x ⟨A5 p.b,A5 p.s,p.cb⟩:=by
 obtain⟨-,Fp,Fq,d,-⟩:=h;exact Bb.Af d
def D6.cy(h:D6 t s H z p q w):AN p.EF/\(∀x∈p.puts,Bi x)/\p.puts.length<=t:=by
 obtain⟨-,Fp,Fq,d,-⟩:=h;exact Bb.cy d
def D6.ag{f:Nat}{args:Array Value}{e0:Ending}{Q:Hp->Prop}(h:D6 t s H z p q w)(hC:∀FT,p.At t H w FT->Calls Tryz.prog f args w λe w'=>e=e0/\A3 (Eb p.x FT) w w'/\∃p' E,Q p'/\p'.x=p.x/\p'.At t' H w' E/\∀k,E k->FT k\/w.heap.size<=k):
 Calls Tryz.prog f args w λe w'=>e=e0/\A3 (EG H z) w w'/\∃p',Q p'/\p'.x=p.x/\D6 t' s H z p' q w':=by
 obtain⟨hz,aA,aB,h1,X,O,L,h5⟩:=h;refine(hC aA h1).mono ?_;rintro e w'⟨rfl,c1,p',F',g0,W,g1,Y⟩;refine⟨rfl,c1.aa λk _ d=>⟨(Bb.lt h1 k d).1,λe=>L (e ▸ d)⟩,p',g0,W,Bk hz c1.Ak,F',aB,g1,Bb.br X c1 λk d hf=>O k hf d,λk d I=>?_,λd=>?_,h5⟩
 ·rw[W]at d;rcases d with d|d
  ·exact O _ (.inl d) I
  ·rcases Y k d with d|d
   ·exact O k (.inr d) I
   ·have:=(Bb.lt X k I).2;omega
 ·rw[W]at d;rcases d with d|d
  ·exact L (.inl d)
  ·rcases Y z d with d|d
   ·exact L (.inr d)
   ·omega
def D6.dn{f:Nat}{args:Array Value}{e0:Ending}(h:D6 t s H z p q w)(W:p'.x=p.x)(d:∀FT,p.At t H w FT->Ag f args w λe w'=>e=e0/\H8 FT w w' (p'.At t' H w')):
 Ag f args w λe w'=>e=e0/\A3 (EG H z) w w'/\D6 t' s H z p' q w':=by
 refine(h.ag (Q:=λx=>x=p') (e0:=e0) (t':=t') λFT O=>(d FT O).mono ?_).mono ?_
 ·rintro e w'⟨rfl,c1,F',E,I⟩;exact⟨rfl,c1.aa λ_ _ h=>.inr h,p',F',rfl,W,E,I⟩
 ·rintro e w'⟨rfl,c1,_,rfl,-,L⟩;exact⟨rfl,c1,L⟩
def D6.cq(h:D6 t s H z p q w)(E:F5 N)(X:N<=330000)(f:Nat)(L:PV f)(W:t+1<=330000)(d:t<=N)(Y:Lets B w)(I:B<=H):
 Ag f #[A5 p.s] w (Al (A0 0) λw'=>A3 (EG H z) w w'/\D6 (t+1) s H z p q w'):=
 h.dn rfl λ_ O=>Bb.cq E X f L O W (AM h.cy.2.2 d) Y I
def D6.ct(h:D6 t s H z p q w):
 Ag 38 #[A5 p.s] w (Al (.agg #[.bool false,A0 p.EF]) λw'=>A3 Ab w w'):=by
 obtain⟨-,Fp,Fq,d,-⟩:=h;exact Bb.ct d
def Ka(k:Int):Int:=if 0<=k/\k<8 then 0 else 2
def D6.bD(h:D6 t s H z p q w)(k a c:Int):
 Ag 37 #[A5 p.s,A0 k,A0 a,A0 c] w λe w'=>∃x,e=.returned (.tuple #[x,A0 (Ka k)])/\Dm w' x (if 0<=k/\k<8 then refQ p.puts k a c 1000 p.EF else [])/\A3 Ab w w':=by
 obtain⟨-,Fp,Fq,E,-⟩:=h;unfold Ka;by_cases d:0<=k/\k<8
 ·rw[Ah d,Ah d];obtain⟨n,rfl⟩:∃n:Nat,k=n:=⟨k.toNat,by omega⟩;exact Bb.bD E n (by omega) a c
 ·rw[Ad d,Ad d];refine(Bb.query_bad E k a c d).mono ?_;rintro e w'⟨rfl,c1⟩;exact⟨_,rfl,CD _ _ _ _,c1⟩
def D6.bh(h:D6 t s H z p q w)(x:Int):A3 (EG H z) w (w.setCell ⟨p.x,2,none⟩ (.int .i64 x))/\D6 t s H z {p with cb:=x} q (w.setCell ⟨p.x,2,none⟩ (.int .i64 x)):=by
 obtain⟨hz,aA,aB,L,Y,O,I,h5⟩:=h;obtain⟨d,X⟩:=Bb.bh L x;exact⟨d.aa λk _ E=>by cases E;exact⟨(Bb.lt L _ (.inl rfl)).1,λe=>I (.inl e.symm)⟩,Bk hz d.Ak,aA,aB,X,Bb.br Y d λk E W=>by cases W;exact O _ (.inl rfl) E,O,I,h5⟩
def D6.eT(h:D6 t s H z p q w)(E:p.cb=p.EF)(W:F5 N)(hN:N<=330000)(Ai:Int)(O:AN Ai)(ht:t+3<=330000)(Y:t+2<=N)(hE:Env B w)(X:B<=H):
 Calls Tryz.prog 33 #[.pointer (some ⟨p.x,0,none⟩),.int .i64 Ai] w λe w'=>e=.returned (.bool true)/\A3 (EG H z) w w'/\∃p',(p'.cb=p.cb/\p'.EF=p.EF/\p'.puts=p.puts)/\p'.x=p.x/\D6 t s H z p' q w':=by
 refine h.ag λFT h1=>?_;obtain⟨x,sb,a,b,Qh,cb,A6,puts⟩:=p;dsimp only at E;subst E;obtain⟨Ac,P,⟨L,A,d,k2,k3,k4,k5,k6,k7⟩,hd,hs⟩:=Bb.fB h1;obtain⟨Ft,d1,d2,d3,-⟩:=SF.cg d.EN;have hK:EH t H x b (.pointer (some ⟨sb,0,none⟩)) cb puts Ac false P w Ft:=⟨⟨d.Af,KD.G2 _ _,d1,d2,λhx=>d.nw (d3 _ hx),d.up,λk I=>d.GH k (d3 k I)⟩,k2.dJ false,k5,k7⟩;refine(Tf W hN w Ai O hK ht Y hE X).mono ?_;rintro e w'⟨rfl,g1,F',⟨s2,a2,b2,m2,P2,q1,-,-,q4,q5,q6⟩,q7⟩;obtain⟨-,q8⟩:=q6 hd;rw[q8 rfl,C6]at q1;exact⟨rfl,g1.aa λk _ I=>I.imp id (d3 k),⟨x,s2,a2,b2,_,cb,cb,puts⟩,F',⟨rfl,rfl,rfl⟩,rfl,q1.aN q4 q5,λk I=>.inr (q7 k I)⟩
def D6.cF{f:Nat}{args:Nat->Array Value}{cd:Int}{W:World}(h:D6 t s H z p q w)(I:p'.x=p.x/\p'.b=p.b/\p'.s=p.s/\p'.cb=p.cb)(hq:q'.x=q.x)(aB:∀w FT,Env B w->p.At t H w FT->Calls Tryz.prog f (args p.s) w λe w'=>e=.returned (.int .i64 cd)/\H8 FT w w' (p'.At t' H w'))(aA:∀w FT,Env B w->q.At s H w FT->Calls Tryz.prog f (args q.s) w λe w'=>e=.returned (.int .i64 cd)/\H8 FT w w' (q'.At s' H w'))(hE:Env B w)(X:B<=H)(c0:A3 (λ_=>False) w W):
 Calls Tryz.prog f (args p.s) W λe d=>e=.returned (.int .i64 cd)/\A3 (EG H z) w d/\CO d p.x ⟨.pointer (some ⟨p.b,0,none⟩),.pointer (some ⟨p.s,0,none⟩),p.cb⟩/\CO d q.x ⟨.pointer (some ⟨q.b,0,none⟩),.pointer (some ⟨q.s,0,none⟩),q.cb⟩/\
  ∀L,A3 (λ_=>False) d L->Calls Tryz.prog f (args q.s) L λe O=>e=.returned (.int .i64 cd)/\A3 (EG H z) w O/\D6 t' s' H z p' q' O:=by
 refine((h.aw c0).dn I.1 λFT E=>aB W FT (hE.aS c0) E).mono ?_;rintro e d⟨rfl,c1,E⟩;have c1:A3 (EG H z) w d:=(c0.aa λ_ _ h=>h.elim).Ap c1 λ_ h _=>h;have Y:=E.Af;rw[I.1,I.2.1,I.2.2.1,I.2.2.2]at Y;refine⟨rfl,c1,Y,E.bn.Af,λL c2=>?_⟩;have c3:A3 (EG H z) w L:=c1.Ap c2 λ_ h _=>h.elim;refine((E.bn.aw c2).dn hq λFT h2=>aA L FT (hE.aj c3 λk hk=>AM X hk.1) h2).mono ?_;rintro e O⟨rfl,c4,h4⟩;exact⟨rfl,c3.Ap c4 λ_ h _=>h,h4.bn⟩
end
def Bb.fL{w:World}{t H I xb O ab b:Nat}{d cb A6:Int}{puts:List Pu}{FT:Nat->Prop}(h:Bb t H xb O ab b d cb A6 puts w FT)(E:I<=H):Bb t I xb O ab b d cb A6 puts w FT:=by
 obtain⟨Ac,P,L,A,⟨g1,g2,g3,g4,g5,W,g7⟩,X⟩:=h;exact⟨Ac,P,L,A,⟨g1,g2,g3,g4,g5,AM E W,λk Y=>AM E (g7 k Y)⟩,X⟩
def Dz(t s H z h d:Nat)(A6:Int)(puts:List Pu)(w:World):Prop:=
 ∃p q:Hp,D6 t s H z p q w/\(p.x=h/\p.cb=A6/\p.EF=A6/\p.puts=puts)/\(q.x=d/\q.cb=A6/\q.EF=A6/\q.puts=puts)
def Dz.fX{t s H z O L:Nat}{A6:Int}{puts:List Pu}{w w':World}(h:Dz t s H z O L A6 puts w)(W:A3 Ab w w')(hl:w.heap.size<w'.heap.size):Dz t s H w.heap.size O L A6 puts w':=by
 obtain⟨p,q,⟨-,X,aA,I,E,h3,-⟩,Y⟩:=h;exact⟨p,q,⟨hl,X,aA,Bb.aw I W,Bb.aw E W,h3,λd=>by have:=(Bb.lt I _ d).2;omega,λd=>by have:=(Bb.lt E _ d).2;omega⟩,Y⟩
def A2S{A6:Int}{I E z:Nat}{w h L:World}(h1:PJ A6 w I h)(h2:PJ A6 h E L)(hz:z<w.heap.size):A3 Ab w L/\Dz 0 0 w.heap.size z I E A6 [] L:=by
 obtain⟨c1,s1,a1,X,aD,k1,d1,t1,-⟩:=h1;obtain⟨c2,s2,a2,b2,P2,k2,d2,t2,-⟩:=h2;obtain⟨aF,aB,aA,g1⟩:=k1;obtain⟨aE,A2,Y,g2⟩:=k2;have W:Bb 0 w.heap.size I s1 a1 X (1+DF 9 300) A6 A6 [] h aA:=GU.aN (Ac:=0) (P:=aD) ⟨aF,aB,g1⟩ d1 t1;have O:Bb 0 h.heap.size E s2 a2 b2 (1+DF 9 300) A6 A6 [] L Y:=GU.aN (Ac:=0) (P:=P2) ⟨aE,A2,g2⟩ d2 t2;refine⟨c1.tr c2,⟨I,s1,a1,X,_,A6,A6,[]⟩,⟨E,s2,a2,b2,_,A6,A6,[]⟩,⟨Bk hz (AM c1.Ak c2.Ak),aA,Y,W.aw c2,O.fL c1.Ak,λk d hq=>?_,λd=>?_,λd=>?_⟩,⟨rfl,rfl,rfl,rfl⟩,rfl,rfl,rfl,rfl⟩
 ·have:=(W.lt k d).2;have:=(O.lt k hq).1;omega
 ·have:=(W.lt z d).1;omega
 ·have:=(O.lt z d).1;have:=c1.Ak;omega
end
section
open Go.RowKit
attribute [local go_sem ↓] Go.wp_at_zero Go.wp_at_succ
section
variable {w w':World} {t t' H xb sb ab b B N:Nat} {aB A6:Int} {puts:List Pu} {Ac:Nat} {ro aA:Bool} {P:PD} {sv:Value}
def Ie(h a b c:Int)(d:Value):Obj:=.cells #[.int .i64 h,.int .i64 a,.int .i64 b,.int .i64 c,d] 72
def ZS(w:World)(h a b c:Int)(d:Value):A7 (w.alloc (Ie h a b c d)) w.heap.size 0 (A0 h)/\A7 (w.alloc (Ie h a b c d)) w.heap.size 1 (A0 a)/\A7 (w.alloc (Ie h a b c d)) w.heap.size 2 (A0 b)/\
 (w.alloc (Ie h a b c d)).cell? (Aa w.heap.size 3)=some (A0 c)/\A7 (w.alloc (Ie h a b c d)) w.heap.size 4 d:=by
 have z:=BN w (Ie h a b c d);refine⟨?_,?_,?_,?_,?_⟩<;>(simp only[A7,World.cell?,z];rfl)
end




end
section
open Go.RowKit

end
section
open Go.RowKit
attribute [local go_sem ↓] Go.wp_at_zero Go.wp_at_succ


end
section
open Go.RowKit

end
section
open Go.RowKit
attribute [local go_sem ↓] Go.wp_at_zero Go.wp_at_succ



def UQ(w:World)(g o n:Nat):Prop:=∀i,i<n->∃h a b c d,AN a/\AN b/\AN c/\w.cell? ⟨g,o+i*5,none⟩=some (.int .i64 h)/\w.cell? ⟨g,o+i*5+1,none⟩=some (.int .i64 a)/\w.cell? ⟨g,o+i*5+2,none⟩=some (.int .i64 b)/\w.cell? ⟨g,o+i*5+3,none⟩=some (.int .i64 c)/\w.cell? ⟨g,o+i*5+4,none⟩=some d/\Iv w.heap.size w d
section
variable {w w':World} {t H xb B N g o n:Nat} {A6:Int}
def HC(c:Int):Int:=DF c 1099511627776-549755813888
def WK(c:Int): -549755813888<=HC c/\HC c<549755813888:=by
 have:=JQ c 1099511627776 (by decide);unfold HC;omega
def ZJ(w:World)(c:Int)(z:AN c):Ag 30 #[A0 c] w (Al (A0 (HC c)) λw'=>w=w'):=by
 have d:=A1 (Oy w c 1099511627776 z (by decide));have h:=JQ c 1099511627776 (by decide);unfold HC;generalize DF c 1099511627776=pc at d h ⊢;have ew:IntKind.i64.wrap (pc-549755813888)=pc-549755813888:=by simp[IntKind.wrap,IntKind.bits,IntKind.signed];omega
 go_enter func30,ntmps30
 go_wp2_with (go_at_call 20;refine d.m ?_;rintro e w'⟨rfl,rfl⟩);go_ret;exact⟨rfl,rfl⟩
end
end
section
open Go.RowKit
section
variable {w:World} {t s H z xp xq B N:Nat} {A6:Int} {puts:List Pu}
abbrev GV(w:World)(x b s:Nat)(A6:Int):Prop:=CO w x ⟨.pointer (some ⟨b,0,none⟩),.pointer (some ⟨s,0,none⟩),A6⟩
def Dz.av(h:Dz t s H z xp xq A6 puts w)(X:Env B w)(L:B<=H)(ht:t+1<=330000)(hs:s+1<=330000)(k a v:Int)(ha:AN a)(hv:AN v):
 ∃bp sp bq sq cd,GV w xp bp sp A6/\∀w0,A3 (λ_=>False) w w0->Calls Tryz.prog 23 #[.pointer (some ⟨sp,0,none⟩),.int .i64 k,.int .i64 a,.int .i64 v] w0 λe W=>e=.returned (.int .i64 cd)/\A3 (EG H z) w W/\GV W xp bp sp A6/\GV W xq bq sq A6/\
  ∀Y,A3 (λ_=>False) W Y->Calls Tryz.prog 23 #[.pointer (some ⟨sq,0,none⟩),.int .i64 k,.int .i64 a,.int .i64 v] Y λe w3=>e=.returned (.int .i64 cd)/\A3 (EG H z) w w3/\∃O,Dz (t+1) (s+1) H z xp xq A6 O w3:=by
 obtain⟨p,q,h1,⟨rfl,E,aD,aB⟩,rfl,I,aA,aE⟩:=h;have hb:=h1.Af;rw[E]at hb;by_cases hk:0<=k/\k<8
 ·refine⟨p.b,p.s,q.b,q.s,0,hb,λw0 c0=>(h1.cF (t':=t+1) (s':=s+1) (args:=λs=>#[.pointer (some ⟨s,0,none⟩),.int .i64 k,.int .i64 a,.int .i64 v]) (p':={p with puts:=p.puts++[(k,a,v)]}) (q':={q with puts:=q.puts++[(k,a,v)]}) ⟨rfl,rfl,rfl,rfl⟩ rfl
   (λw FT X d=>Bb.av d ht X.1 L (k,a,v) ⟨hk,ha,hv⟩) (λw FT X d=>Bb.av d hs X.1 L (k,a,v) ⟨hk,ha,hv⟩) X L c0).mono ?_⟩
  rintro e W⟨rfl,c1,b1,b2,d⟩;rw[E]at b1;rw[I]at b2;refine⟨rfl,c1,b1,b2,λY c2=>(d Y c2).mono ?_⟩;rintro e w3⟨rfl,c3,h3⟩;exact⟨rfl,c3,puts++[(k,a,v)],_,_,h3,⟨rfl,E,aD,by rw[<-aB]⟩,rfl,I,aA,by rw[<-aE]⟩
 ·refine⟨p.b,p.s,q.b,q.s,2,hb,λw0 c0=>(h1.cF (t':=t) (s':=s) (args:=λs=>#[.pointer (some ⟨s,0,none⟩),.int .i64 k,.int .i64 a,.int .i64 v]) (p':=p) (q':=q) ⟨rfl,rfl,rfl,rfl⟩ rfl
   (λw FT _ d=>Bb.put_bad d k a v hk) (λw FT _ d=>Bb.put_bad d k a v hk) X L c0).mono ?_⟩
  rintro e W⟨rfl,c1,b1,b2,d⟩;rw[E]at b1;rw[I]at b2;refine⟨rfl,c1,b1,b2,λY c2=>(d Y c2).mono ?_⟩;rintro e w3⟨rfl,c3,h3⟩;exact⟨rfl,c3,puts,p,q,((h3.aa (Gl t)).bn.aa (Gl s)).bn,⟨rfl,E,aD,aB⟩,rfl,I,aA,aE⟩
def VE(t s H z xp xq:Nat)(A6:Int)(puts:List Pu)(x:Int)(w:World):Prop:=
 ∃E d X O cd c2,(A6<=c2/\c2<=A6+500)/\GV w xp E d A6/\∀Y,A3 (λ_=>False) w Y->Calls Tryz.prog 27 #[.pointer (some ⟨d,0,none⟩),.int .i64 x] Y λe I=>e=.returned (.int .i64 cd)/\A3 (EG H z) w I/\GV I xq X O A6/\
  ∀w2,A3 (λ_=>False) I w2->Calls Tryz.prog 27 #[.pointer (some ⟨O,0,none⟩),.int .i64 x] w2 λe L=>e=.returned (.int .i64 cd)/\A3 (EG H z) w L/\GV L xp E d A6/\
   ∀W,A3 (λ_=>False) L W->Calls Tryz.prog 38 #[.pointer (some ⟨d,0,none⟩)] W λe h=>e=.returned (.agg #[.bool false,.int .i64 c2])/\GV h xp E d A6/\GV (h.setCell ⟨xp,2,none⟩ (.int .i64 c2)) xp E d c2/\GV (h.setCell ⟨xp,2,none⟩ (.int .i64 c2)) xq X O A6/\
    A3 (EG H z) w ((h.setCell ⟨xp,2,none⟩ (.int .i64 c2)).setCell ⟨xq,2,none⟩ (.int .i64 c2))/\Dz t s H z xp xq c2 puts ((h.setCell ⟨xp,2,none⟩ (.int .i64 c2)).setCell ⟨xq,2,none⟩ (.int .i64 c2))
def Dz.cf(h:Dz t s H z xp xq A6 puts w)(hE:Env B w)(aD:B<=H)(x:Int)(hx : -500<x/\x<500)(hcl : -549755813888<=A6/\A6<=549755813888+500*330000):VE t s H z xp xq A6 puts x w:=by
 obtain⟨p,q,h1,⟨rfl,E,W,aA⟩,rfl,O,I,aE⟩:=h;have hb:=h1.Af;rw[E]at hb;have key:∀(cd c2:Int),(A6<=c2/\c2<=A6+500)->(∀w FT,p.At t H w FT->Ag 27 #[A5 p.s,A0 x] w (Al (A0 cd) λw'=>H8 FT w w' (Hp.At {p with EF:=c2} t H w')))->
  (∀w FT,q.At s H w FT->Ag 27 #[A5 q.s,A0 x] w (Al (A0 cd) λw'=>H8 FT w w' (Hp.At {q with EF:=c2} s H w')))->VE t s H z p.x q.x A6 puts x w:=λcd c2 aB aG aF=>
  ⟨p.b,p.s,q.b,q.s,cd,c2,aB,hb,λw0 c0=>(h1.cF (args:=λs=>#[A5 s,A0 x]) (p':={p with EF:=c2}) (q':={q with EF:=c2}) ⟨rfl,rfl,rfl,rfl⟩ rfl (λw FT _ d=>aG w FT d) (λw FT _ d=>aF w FT d) hE aD c0).mono λe w1 d=>by
   obtain⟨rfl,c1,b1,b2,d⟩:=d;rw[O]at b2;refine⟨rfl,c1,b2,λw2 k2=>(d w2 k2).mono ?_⟩;rintro e w3⟨rfl,c3,h3⟩;have b3:=h3.Af;dsimp only at b3;rw[E]at b3;refine⟨rfl,c3,b3,λw4 k4=>(h3.aw k4).ct.mono ?_⟩;rintro e w5⟨rfl,k5⟩;have h5:=(h3.aw k4).aw k5;have Y:=h5.Af;dsimp only at Y;rw[E]at Y;obtain⟨c6,X⟩:=h5.bh c2;have b6:=X.Af;have b7:=X.bn.Af;dsimp only at c6 X b6 b7;rw[O]at b7;obtain⟨c8,h8⟩:=X.bn.bh c2;dsimp only at c8 h8
   exact⟨rfl,Y,b6,b7,(((c3.Ap k4 λ_ h _=>h.elim).Ap k5 λ_ h _=>h.elim).tr c6).tr c8,_,_,h8.bn,⟨rfl,rfl,rfl,aA⟩,rfl,rfl,rfl,aE⟩⟩
 by_cases h0:0<=x
 ·have L:G1 A6 x=A6+x:=by unfold G1;split<;>omega
  refine key 0 (A6+x) (by omega) (λw FT d=>?_) (λw FT d=>?_)
  ·have:=Bb.cf d x ⟨h0,by omega⟩
   rwa [W,L]at this
  ·have:=Bb.cf d x ⟨h0,by omega⟩
   rwa [I,L]at this
 ·have tb:∀ {o:Hp} {u:Nat} {w:World} {FT:Nat->Prop},o.EF=A6->o.At u H w FT->Ag 27 #[A5 o.s,A0 x] w (Al (A0 3) λw'=>H8 FT w w' (Hp.At {o with EF:=A6} u H w')):=λ{o u w FT} ho d=>by
   refine(Bb.tick_bad d x (by omega)).mono ?_;rintro e w'⟨rfl,c1⟩;subst ho;exact⟨rfl,c1.aa λ_ _ h=>h.elim,FT,Bb.aw d c1,λ_ h=>.inl h⟩
  exact key 3 A6 (by omega) (λw FT d=>tb W d) (λw FT d=>tb I d)
def Dz.bD(h:Dz t s H z xp xq A6 puts w)(ht:t<=330000)(k a c:Int):
 ∃bp sp bq sq,GV w xp bp sp A6/\∀w0,A3 (λ_=>False) w w0->Calls Tryz.prog 37 #[.pointer (some ⟨sp,0,none⟩),.int .i64 k,.int .i64 a,.int .i64 c] w0 λe w1=>∃ad n cp,e=.returned (.tuple #[.slice ad n cp,.int .i64 (Ka k)])/\A3 (λ_=>False) w w1/\GV w1 xq bq sq A6/\
  ∀w2,A3 (λ_=>False) w1 w2->Calls Tryz.prog 37 #[.pointer (some ⟨sq,0,none⟩),.int .i64 k,.int .i64 a,.int .i64 c] w2 λe w3=>∃d n' E,e=.returned (.tuple #[.slice d n' E,.int .i64 (Ka k)])/\A3 (λ_=>False) w2 w3/\
   ∀w4,A3 (λ_=>False) w3 w4->Calls Tryz.prog 39 #[.slice ad n cp,.slice d n' E] w4 λe w5=>e=.returned (.bool true)/\A3 (λ_=>False) w w5/\Dz t s H z xp xq A6 puts w5:=by
 obtain⟨p,q,h1,⟨rfl,Y,aA,I⟩,rfl,W,O,aB⟩:=h;have hb:=h1.Af;rw[Y]at hb;have X:(if 0<=k/\k<8 then refQ puts k a c 1000 A6 else []).length<1099511627776:=by
  split
  ·have:=XS puts k a c 1000 A6;have:=h1.cy.2.2;rw[I]at this;omega
  ·decide
 refine⟨p.b,p.s,q.b,q.s,hb,λw0 c0=>((h1.aw c0).bD k a c).mono ?_⟩;rintro e w1⟨x,rfl,L,c1⟩;rw[aA,I]at L;obtain⟨ad,cp,rfl,-⟩:=B8 L;have h2:=(h1.aw c0).aw c1;have b2:=h2.bn.Af;rw[W]at b2;refine⟨ad,_,cp,rfl,c0.Ap c1 λ_ h _=>h,b2,λw2 c2=>((h2.aw c2).bn.bD k a c).mono ?_⟩;rintro e w3⟨y,rfl,hy,c3⟩;rw[O,aB]at hy;obtain⟨d,E,rfl,-⟩:=B8 hy;refine⟨d,_,E,rfl,c3,λw4 c4=>?_⟩;have kp:∀ {w w':World} {v:Value} {l:List Pt},Dm w v l->A3 (λ_=>False) w w'->Dm w' v l:=λL hc=>Ay L λg hg=>hc.Ao g (AB L hg) (λh=>h);have aD:=ZK w4 _ _ _ _ (kp (kp (kp L c2) c3) c4) (kp hy c4) X X;rw[CH rfl]at aD;refine aD.mono ?_;rintro e w5⟨rfl,c5⟩;exact⟨rfl,(((((c0.Ap c1 λ_ h _=>h).Ap c2 λ_ h _=>h).Ap c3 λ_ h _=>h).Ap c4 λ_ h _=>h).Ap c5 λ_ h _=>h),p,q,(((h2.aw c2).aw c3).aw c4).aw c5,⟨rfl,Y,aA,I⟩,rfl,W,O,aB⟩
def Dz.cq(h:Dz t s H z xp xq A6 puts w)(I:F5 N)(hN:N<=330000)(hs:s+3<=330000)(Y:s+2<=N)(hE:Env B w)(L:B<=H):
 ∃bq sq,GV w xq bq sq A6/\(∀f,PV f->Calls Tryz.prog f #[.pointer (some ⟨sq,0,none⟩)] w λe w'=>e=.returned (.int .i64 0)/\A3 (EG H z) w w'/\Dz t (s+1) H z xp xq A6 puts w')/\
  ∀Ai,AN Ai->Calls Tryz.prog 33 #[.pointer (some ⟨xq,0,none⟩),.int .i64 Ai] w λe w'=>e=.returned (.bool true)/\A3 (EG H z) w w'/\Dz t s H z xp xq A6 puts w':=by
 obtain⟨p,q,X,hp,rfl,d,E,O⟩:=h;have hb:=X.bn.Af;rw[d]at hb;refine⟨q.b,q.s,hb,λf hf=>(X.bn.cq I hN f hf (by omega) (by omega) hE.1 L).mono ?_,λAi hw=>(X.bn.eT (d.trans E.symm) I hN Ai hw hs Y hE L).mono ?_⟩
 ·rintro e w'⟨rfl,c1,W⟩;exact⟨rfl,c1,p,q,W.bn,hp,rfl,d,E,O⟩
 ·rintro e w'⟨rfl,c1,q2,⟨e1,e2,e3⟩,ex,W⟩;exact⟨rfl,c1,p,q2,W.bn,hp,ex,e1.trans d,e2.trans E,e3.trans O⟩
def Dz.up(h:Dz t s H z xp xq A6 puts w){t' s':Nat}(I:t<=t')(L:s<=s'):Dz t' s' H z xp xq A6 puts w:=by
 obtain⟨p,q,E,d⟩:=h;exact⟨p,q,((E.aa I).bn.aa L).bn,d⟩
def Dz.dH(h:Dz t s H z xp xq A6 puts w):Dz (t+1) (s+1) H z xp xq A6 puts w:=h.up (Gl t) (Gl s)
end
end
section
open Go.ChangeAt Go.ChangeShapes Go.RowKit Go.WideShapes
def Tryz.own:ownKnob Tryz.prog.godebug=none:=by kernel_rfl
def Tryz.dS:Tryz.prog.globalNamed "tides/files.letters" = some 0:=by kernel_rfl
def Tryz.dN:Tryz.prog.globalNamed "internal/strconv.uint64pow10" = some 3:=by kernel_rfl
def Tryz.dZ:Tryz.prog.globalNamed "strconv.ErrRange" = some 2:=by kernel_rfl
def Tryz.er:Tryz.prog.globalNamed "strconv.ErrSyntax" = some 1:=by kernel_rfl
def Tryz.e3:(Tryz.prog.globals[0]?).map (·.type)=some 201:=by kernel_rfl
def Tryz.eP:(Tryz.prog.globals[3]?).map (·.type)=some 333:=by kernel_rfl
def Tryz.eM:(Tryz.prog.globals[2]?).map (·.type)=some 197:=by kernel_rfl
def Tryz.e6:(Tryz.prog.globals[1]?).map (·.type)=some 197:=by kernel_rfl
def Tryz.eQ:Tryz.prog.cellsOf 201=5:=by kernel_rfl
def Tryz.dD:Tryz.prog.cellsOf 9=1:=by kernel_rfl
def Tryz.fv:Tryz.prog.cellsOf 333=20:=by kernel_rfl
def Tryz.fi:Tryz.prog.cellsOf 275=1:=by kernel_rfl
def Tryz.ew:Tryz.prog.cellsOf 3=1:=by kernel_rfl
def Tryz.dV:Tryz.prog.cellsOf 325=1:=by kernel_rfl
def Tryz.laidOut:laidOutB Tryz.prog=true:=by kernel_rfl
def Tryz.star: "*" ++ "errors.errorString" = "*errors.errorString":=by decide
def Tryz.ez(u:TypeId)(h:Tryz.prog.typeName? 3 u=some "*errors.errorString"):u=323:=
 typeName_ptr_named (nm:= "errors.errorString") (by rw[Tryz.star];kernel_rfl) (by kernel_rfl) (by decide) u (by rw[Tryz.star];exact h)
def Zs{d:Nat}{w:World}{H:List Value}{s:List (List UInt8)}{p:List MemPlace}(h:DataW.trod (λ_=>()) Tryz.prog w 0 (λ_=>true) false d 201 H=some (.agg (s.map λx=>.lit (.string x)),p))(k:Nat)(L:k<5)(x:List UInt8)(Y:s[k]?=some x):H[k]?=some (.string ⟨x.toArray⟩):=by
 cases d with
 | zero=>simp[DataW.trod]at h
 | succ d=>
  simp only[DataW.trod,underlying201,Tryz.dD,Tryz.eQ,PC]at h;split at h
  ·obtain⟨xs,hm,O⟩:=A3m.1 h;have E:xs.map (·.1)=s.map λx=>DataW.lit (.string x):=by
    have:=Ei Prod.fst O;simpa using this
   obtain⟨b,I,X⟩:=Lib.mapM_at hm k k (by simp[L]);obtain⟨s',hc,rfl,_⟩:=DataW.trod_string underlying9 X;have W:H[k]?=some (.string s'):=by
    have:=Ei (·[0]?) hc;simpa[List.getElem?_take,List.getElem?_drop] using this
   (have z:(xs.map (·.1))[k]?=some (DataW.lit (.string s'.data.toList)):=by simp[I]);rw[E]at z;simp[Y]at z;rw[W,z]
  ·cases h
def ZD{W:World}(h:laidMetH Tryz.prog Rows.writesUptoRow.laid W):Lets W.heap.size W:=by
 have h0:=h;have h3:laidMet Tryz.prog (("internal/strconv.uint64pow10",Lib.tabData .u64 Lib.pow10Tab):: [("strconv.ErrRange",Rows.laid_strconv_ErrRange),("strconv.ErrSyntax",Rows.laid_strconv_ErrSyntax),("tides/files.letters",Rows.laid_tides_files_letters)]) W:=laidMet.tail (laidMet.tail h0);have O:Lib.TabIs Tryz.prog W "internal/strconv.uint64pow10" .u64 Lib.pow10Tab:=Lib.tabIs_of_head Tryz.dN Tryz.eP underlying333 underlying275 Tryz.fi Tryz.fv h3;have h6:=laidMet.tail (laidMet.tail (laidMet.tail h3));obtain⟨ps,⟨g',t',cs,fuel,p,q,I,L,d,hd,_,_⟩,_⟩:=h6;obtain rfl:=Pw (Tryz.dS.symm.trans I);obtain rfl:=Pw (Tryz.e3.symm.trans L);have E:=Zs (s:=[[],[108],[115],[105],[100]]) hd;have z:∀k:Nat,1<=k->k<=4->W.cell? ⟨0,k,none⟩=some (.string ⟨(D7 k).toArray⟩):=λk h1 h2=>by
  rw[UO Tryz.dS d k];have:k=1\/k=2\/k=3\/k=4:=by omega
  rcases this with rfl|rfl|rfl|rfl
  ·simpa[D7] using E 1 (by omega) _ rfl
  ·simpa[D7] using E 2 (by omega) _ rfl
  ·simpa[D7] using E 3 (by omega) _ rfl
  ·simpa[D7] using E 4 (by omega) _ rfl
 have Y:=GN W _ (z 1 (by omega) (by omega));have X:=O.cell Tryz.dN 0 (by decide);have H:=GN W _ X;refine⟨As _,λw' hb=>⟨λk h1 h2=>?_,?_⟩⟩
 ·rw[<-z k h1 h2];exact hb.cell Y
 ·unfold Lib.TabIs at O ⊢;rw[<-O];unfold World.var?;rw[Tryz.dN];simp only[Option.bind_some];rw[hb.block _ H]
def ZE{W:World}(h:laidMetH Tryz.prog Rows.writesUptoRow.laid W):HT W:=by
 have I:=h;have E:=laidMet.tail (laidMet.tail (laidMet.tail I));have H:=laidMet.tail E;obtain⟨a0,_,z,_⟩:=laid_sentinel E Tryz.dZ Tryz.eM underlying197 Tryz.ez underlying323 underlying325 rfl rfl underlying9 Tryz.dV Tryz.dD;obtain⟨b0,_,d,_⟩:=laid_sentinel H Tryz.er Tryz.e6 underlying197 Tryz.ez underlying323 underlying325 rfl rfl underlying9 Tryz.dV Tryz.dD;exact⟨⟨_,by simpa using UO Tryz.er d 0,.inr ⟨_,_,rfl⟩⟩,_,by simpa using UO Tryz.dZ z 0,.inr ⟨_,_,rfl⟩⟩
def Jt{z:Int}(h:(Lit.int .i64 z).wf=true):AN z:=by
 simp[Lit.wf]at h;have e:IntKind.i64.min = -9223372036854775808:=rfl;rw[e]at h;exact h
abbrev Wk:ByteArray:={data:=#[105,110,118,97,108,105,100,32,115,121,110,116,97,120]}
abbrev Xt:ByteArray:={data:=#[118,97,108,117,101,32,111,117,116,32,111,102,32,114,97,110,103,101]}
def JG(v:Array Value):Obj->Obj
 | .cells _ t frozen=>.cells v t frozen
 | o=>o
def HQ(os:Os)(W:World):Prop:=W =
 let w0:=World.holding Tryz.prog os ⟨#[.cells #[.string Wk] 325,.cells #[.string Xt] 325],#[],[]⟩
 let h0:=w0.heap
 let h1:=h0.modify 0 (JG #[.string ⟨#[]⟩,.string ⟨#[108]⟩,.string ⟨#[115]⟩,.string ⟨#[105]⟩,.string ⟨#[100]⟩])
 let h2:=h1.modify 1 (JG #[.iface 323 (A5 ((World.holding Tryz.prog default ⟨#[],#[],[]⟩).heap.size))])
 let h3:=h2.modify 2 (JG #[.iface 323 (A5 ((World.holding Tryz.prog default ⟨#[],#[],[]⟩).heap.size+1))])
 let h4:=h3.modify 3 (JG #[.int .u64 1,.int .u64 10,.int .u64 100,.int .u64 1000,.int .u64 10000,.int .u64 100000,.int .u64 1000000,.int .u64 10000000,.int .u64 100000000,.int .u64 1000000000,.int .u64 10000000000,.int .u64 100000000000,.int .u64 1000000000000,.int .u64 10000000000000,.int .u64 100000000000000,.int .u64 1000000000000000,.int .u64 10000000000000000,.int .u64 100000000000000000,.int .u64 1000000000000000000,.int .u64 10000000000000000000])
 let h5:=h4.modify 5 (JG #[.int .u8 0,.int .u8 1,.int .u8 28,.int .u8 2,.int .u8 29,.int .u8 14,.int .u8 24,.int .u8 3,.int .u8 30,.int .u8 22,.int .u8 20,.int .u8 15,.int .u8 25,.int .u8 17,.int .u8 4,.int .u8 8,.int .u8 31,.int .u8 27,.int .u8 13,.int .u8 23,.int .u8 21,.int .u8 19,.int .u8 16,.int .u8 7,.int .u8 26,.int .u8 12,.int .u8 18,.int .u8 6,.int .u8 11,.int .u8 5,.int .u8 10,.int .u8 9])
 let h6:=h5.modify 6 (JG #[.int .u8 0,.int .u8 1,.int .u8 56,.int .u8 2,.int .u8 57,.int .u8 49,.int .u8 28,.int .u8 3,.int .u8 61,.int .u8 58,.int .u8 42,.int .u8 50,.int .u8 38,.int .u8 29,.int .u8 17,.int .u8 4,.int .u8 62,.int .u8 47,.int .u8 59,.int .u8 36,.int .u8 45,.int .u8 43,.int .u8 51,.int .u8 22,.int .u8 53,.int .u8 39,.int .u8 33,.int .u8 30,.int .u8 24,.int .u8 18,.int .u8 12,.int .u8 5,.int .u8 63,.int .u8 55,.int .u8 48,.int .u8 27,.int .u8 60,.int .u8 41,.int .u8 37,.int .u8 16,.int .u8 46,.int .u8 35,.int .u8 44,.int .u8 21,.int .u8 52,.int .u8 32,.int .u8 23,.int .u8 11,.int .u8 54,.int .u8 26,.int .u8 40,.int .u8 15,.int .u8 34,.int .u8 20,.int .u8 31,.int .u8 10,.int .u8 25,.int .u8 14,.int .u8 19,.int .u8 9,.int .u8 13,.int .u8 8,.int .u8 7,.int .u8 6])
 {w0 with heap:=h6}
def ZC(os:Os)(W:World)(h:HQ os W)(args:Array Value):laidMet Tryz.prog Rows.writesUptoRow.laid (W.forCall (λ_ _=>0) ⟨#[],args,[]⟩).memory:=by
 unfold HQ at h;subst h;exact laidMet_of_run' 8 (by kernel_rfl) (by kernel_rfl)
def ZF{W:World}(h:laidMetH Tryz.prog Rows.writesUptoRow.laid W):Env W.heap.size W:=by
 have X:=ZD h;have E:=ZE h;obtain⟨⟨L,d,I⟩,Y,z,O⟩:=E;exact⟨X,⟨⟨L,d,I⟩,Y,z,O⟩,GN W _ d,GN W _ z⟩
def Un{H:Type}(l:List (DataW H)):l.length<=Rows.uptoBulkAll l:=by
 induction l with
 | nil=>simp
 | cons x r ih=>
  have:1<=Rows.uptoBulk x:=by
   cases x with
   | lit l=>cases l<;>simp[Rows.uptoBulk]
   | nil=>simp[Rows.uptoBulk]
   | ptr d=>simp[Rows.uptoBulk]
   | slice elems spare=>simp[Rows.uptoBulk]
   | agg parts=>simp[Rows.uptoBulk]
   | iface t d=>simp[Rows.uptoBulk]
   | map entries=>simp[Rows.uptoBulk]
   | held h=>simp[Rows.uptoBulk]
  simp only[Rows.uptoBulkAll,Cv];omega
section
variable {H:Type} {enc:TypeId×Value->H} {W:World} {sp:Nat->Bool} {aA:Nat}
def A2a(l:List (DataW H))(h:∀x∈l,6<=Rows.uptoBulk x):l.length*6<=Rows.uptoBulkAll l:=by
 induction l with
 | nil=>simp
 | cons x r ih=>
  have h1:=h x (BF ..);have h2:=ih λy d=>h y (Bx _ d);simp only[Rows.uptoBulkAll,Cv];omega
end
end
end Go.Proofs.YtodcnkbblippnaaGreatDoor
