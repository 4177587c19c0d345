/- Part 41 of a proof: walks of the program. -/
import Derived.Test.YtodcnkbblippnaaGreatDoorPart16
import Derived.Test.YtodcnkbblippnaaGreatDoorPart38
namespace Go.Proofs.YtodcnkbblippnaaGreatDoor
set_option maxRecDepth 100000
set_option maxHeartbeats 32000000
set_option linter.defProp false
open Go.Proofs.Tryz
section
open Go.MuLone Go.RowKit
attribute [local go_sem ↓] Go.wp_at_zero Go.wp_at_succ CJ
section
variable{w w' w2:ga}{sb ab b:Nat}{mu ld wc A9:Int}{ro:Bool}{lv:Nat->gd}{L:Nat->gh Pt}{A:Ar}{P:PD}{F0 FT:Nat->Prop}
def A0b(w:ga)(k t v:Int)(h:SF w sb ab b 0 ld wc A9 true L A P FT)(aA:∀k,FT k->k<w.heap.size)(hk:0<=k/\k<8):
 Ag 23 #[A5 sb,A0 k,A0 t,A0 v] w (Am (A0 4) λw'=>Aq w FT w' (λw' z=>SF w' sb ab b 0 ld wc A9 true L A P z)):=by
 have aE:Hid (∀w',Ag 63 #[A0 k] w' λe E=>e=.returned (.bool true)/\w'=E):=λw'=>by
  have:=PH w' k
  rwa [CM hk]at this
 have Y:=VY w sb k t v;have O:=VZ w sb k t v;generalize aD:boxed w sb k t v=w0 at Y O;unfold boxed at aD;have hV:=h.aJ Y;have H:=hV.bU;have I:JK (w0.sC sb 0 (.int .i32 1)) w.heap.size sb k t v:=O.Al H.1 λi _ hx=>by have:=aA _ hx;omega
 have d:Hid (Aq w FT (w0.sC sb 0 (.int .i32 1)) (λw' z=>SF w' sb ab b 1 ld wc A9 true L A P z)):=H.a8 Y;have aG:Hid (∀W,Ag 64 #[A5 sb,W] (w0.sC sb 0 (.int .i32 1)) (Am (A0 4) λw'=>(w0.sC sb 0 (.int .i32 1))=w')):=λW=>by
  have⟨k1,F1,s1,s2,s3⟩:=d.o;obtain⟨lv,F0,q,-⟩:=s1;exact VR _ W q.Ah
 have c0:A7 w0 sb 0 (.int .i32 0):=by obtain⟨lv,F0,q,-⟩:=hV;exact q.Ah.c0
 have f0:w0.frozen? (Ac sb 0)=false:=by obtain⟨lv,F0,q,-⟩:=hV;exact q.Ah.fz 0
 obtain⟨x0,x1,x2,x3⟩:=O;obtain⟨y0,y1,y2,y3⟩:=I
 go_enter_defers func23,ntmps23
 go_wp2_with (fail);refine(LI Tryz.bC (Ac sb 0) _ c0 f0).k ?_;rintro w' rfl;go_wp2_with (go_at_call 63;refine(aE.o _).k ?_;rintro w' rfl);refine(aG.o _).k ?_;rintro w2 rfl;go_wp2;refine LJ (f:=62) (args:=#[A5 sb]) (by simp) (by simp[go_sem]) ?_;refine(Lf Tryz.bC (Ac sb 0) .returning _ ?_ ?_).mono ?_
 ·obtain⟨-,aF,⟨aB,aH,a1,-⟩,-,-⟩:=d.o;exact a1.Ah.c0
 ·obtain⟨-,aF,⟨aB,aH,a1,-⟩,-,-⟩:=d.o;exact a1.Ah.fz 0
 rintro e u' E⟨rfl,rfl,rfl⟩;exact⟨_,OP rfl _ _ _,rfl,SFto.DK d.o 0 _ λlv h=>h.s0 0⟩
def SF.ft{n:Int}{w2:ga}(h:Aq w FT w2 (λw' d=>SF w' sb ab b 1 ld wc A9 ro L A P d)):Aq w FT (w2.setCell (Ac sb 0) (.int .i32 n)) (λw' d=>SF w' sb ab b n ld wc A9 ro L A P d):=SFto.DK h 0 _ λ_ h=>h.s0 n
def Zm(z:ga)(h:SF z sb ab b 0 ld wc A9 true L A P FT)(E:gd):
 Calls Tryz.prog 64 #[.pointer (some ⟨sb,0,none⟩),E] (z.setCell ⟨sb,0,none⟩ (.int .i32 1)) λe w'=>e=.returned (.int .i64 4)/\w'.cell? ⟨sb,0,none⟩=some (.int .i32 1)/\w'.frozen? ⟨sb,0,none⟩=false/\Aq z FT w' (λw' d=>SF w' sb ab b 1 ld wc A9 true L A P d):=by
 have I:=h.bU;obtain⟨H,W,s1,s2,s3⟩:=I;obtain⟨lv,F0,q,O⟩:=s1;refine(VR _ E q.Ah).k ?_;rintro w' rfl;exact⟨rfl,q.Ah.c0,q.Ah.fz 0,H,W,⟨lv,F0,q,O⟩,s2,s3⟩
def A2t(w:ga)(h:SF w sb ab b 0 ld wc A9 true L A P FT)(_hFT:∀k,FT k->k<w.heap.size):
 Ag 24 #[A5 sb] w (Am (A0 4) λw'=>Aq w FT w' (λw' d=>SF w' sb ab b 0 ld wc A9 true L A P d)):=by
 obtain⟨c0,f0,W,-⟩:=h.c0;refine(RO w 4 (λw'=>Aq w FT w' (λw' d=>SF w' sb ab b 1 ld wc A9 true L A P d)) c0 f0 W λw1 E=>?_).mono ?_
 ·subst E;have H:=(A3.I Ab w).al (.cells #[A5 sb] 36);refine(Zm _ (h.aJ H) _).k ?_;rintro w'⟨I,z,O⟩;exact⟨rfl,I,z,O.a8 H⟩
 ·rintro e w'⟨rfl,w2,z,rfl⟩;exact⟨rfl,SF.ft z⟩
end
end
section
open Go.RowKit
def Env(B:Nat)(w:ga):Prop:=Lets B w/\Il w/\1<B/\2<B
def Env.an{B:Nat}{w w':ga}{S:Nat->Prop}(h:Env B w)(H:A3 S w w')(z:∀k,S k->B<=k):Env B w':=by
 obtain⟨E,⟨⟨Y,a1,W⟩,e2,a2,b2⟩,O,I⟩:=h;refine⟨E.an H z,⟨⟨Y,?_,W⟩,e2,?_,b2⟩,O,I⟩
 ·rw[<-a1];have:=H.An 1 (Bi O E.1) λd=>by have:=z _ d;omega
  simp only[World.cell?,this]
 ·rw[<-a2];have:=H.An 2 (Bi I E.1) λd=>by have:=z _ d;omega
  simp only[World.cell?,this]
def Env.aO{B:Nat}{w w':ga}(h:Env B w)(d:A3 Ab w w'):Env B w':=h.an d λ_ h=>h.elim
def LM{n:Int}(h:isNum n=true):CH n:=by
 unfold isNum at h;simp at h;exact I7 (by omega) h.2
def A0P{I:Int×Int}{nm:Bs}(h:EF I nm):nm.length<=281474976710656:=by
 have H:∀(c:UInt8) (n:Int),1<=n->n<=4611686018427387904->(c::(Lib.repeatL [48] (19-(Lib.itoa n).length)++Lib.itoa n)).length<=281474976710656:=λc n d E=>by
  rw[K9 d E,Cg,Lt];omega
 by_cases E:(Ba nm).1=1
 ·have⟨⟨a,b⟩,e⟩:=LB E;rw[<-e,II];exact H _ _ a b
 ·by_cases z:(Ba nm).1=2
  ·have⟨⟨a,b⟩,e⟩:=MV z;rw[<-e,I8];exact H _ _ a b
  ·have d:=h.1;unfold Ba at d E z;cases hx:DX [108] nm with
   | some v=>rw[hx]at E;exact absurd rfl E
   | none=>
    rw[hx]at d z;dsimp only at d z;unfold H5 at d z;cases hy:DX [115] nm with
    | some v=>rw[hy]at z;exact absurd rfl z
    | none=>
     rw[hy]at d;dsimp only at d;unfold H4 I9 at d;split at d
     ·rename_i e;subst e;decide
     ·split at d
      ·rename_i e;subst e;decide
      ·exact absurd rfl d
def T1:∀(k s:Nat) (l:gh UInt8),(Da k s l).1.length*21<=l.length
 | 0,_,_=>by simp[Da]
 | k+1,s,l=>by
  unfold Da;split
  ·simp
  ·rename_i hl;split
   ·have:=T1 k (AP s (l.take 17)) (l.drop 21);rw[CO]at this;simp only[Cg];omega
   ·simp
def A1f{P:PD}{a c m:Nat}(z:Fit P a c m)(n d:Int):(P.aU n d).1.length*21<=m:=by
 have key:∀l:gh UInt8,l.length<=m->∀s,(Ee s d l).1.length*21<=m:=λl hl s=>by
  unfold Ee;split
  ·simp
  ·split
   ·split
    ·have:=T1 l.length (AP s (l.take 8)) (l.drop 12);rw[CO]at this;dsimp only;omega
    ·simp
   ·simp
 unfold PD.aU Gi;split
 ·simp
 ·refine key _ ?_ _;unfold DQ;split
  ·rename_i f h;exact z.B4 f (FP h)
  ·exact Cb _
def T8{P:PD}{a c m:Nat}(z:Fit P a c m)(l:gh Int):(P.pd l).1.length*21<=l.length*m:=by
 have key:∀(l:gh Int) (d:gh Pu),(P.a1 l d).1.length*21<=d.length*21+l.length*m:=by
  intro l
  induction l with
  | nil=>intro d;simp[PD.a1]
  | cons n r ih=>
   intro d;unfold PD.a1;split
   ·simp
   ·have h:=ih (d++(P.aU n d.length).1);have h2:=A1f z n d.length;rw[AY]at h;rw[Cg,HT];omega
 have:=key l [];simpa[PD.pd] using this
section
variable{w:ga}{B sb ab b:Nat}{ld wc A9:Int}{L:Nat->gh Pt}{A:Ar}{P:PD}{FT:Nat->Prop}{pd:gh Pu}{Ad t N:Nat}{o:Int}
def Tb(w:ga)(p:Pu)(h:SF w sb ab b 0 ld wc A9 false L A P FT)(E:∀k,FT k->k<w.heap.size)(d:St t A P pd Ad o false)(ht:t+1<=330000)(hp:B8 p)(Y:Lets B w)(H:∀k,FT k->B<=k)(I:∀k,k<8->(L k).length<=t)(hl:1<=ld/\ld<=4611686018427387904)(hc:AT A9):
 Ag 23 #[A5 sb,A0 p.1,A0 p.2.1,A0 p.2.2] w (Am (A0 (A.ae P p).2.1) λw'=>
  Aq w FT w' (λw' z=>SF w' sb ab b 0 ld wc A9 (decide ((A.ae P p).2.1≠0)) (if (A.ae P p).1=true then Fq L (Bo A9 ld) p.1.toNat p.2.1 p.2.2 else L) (A.ae P p).2.2.1 (A.ae P p).2.2.2 z)):=by
 have⟨sg,cl,ol,hI,_⟩:=d.si rfl;have O:=hI.bD d.pb d.B4 (by omega);have hj:=O.j;exact ZZ w p h E hp (λ_=>⟨I7 (by omega) (by omega),by constructor<;>omega,hI.AV.dr hI.CZ⟩) (by have:=O.Ak;omega) Y H d.pb.BQ ⟨by omega,by omega,by omega⟩ (λk W=>by have:=I k W;omega) hl hc
def XH(w:ga)(h:SF w sb ab b 0 ld wc A9 false L A P FT)(_hFT:∀k,FT k->k<w.heap.size)(O:Lets B w)(d:∀k,FT k->B<=k):
 Ag 31 #[A5 sb] w (Am (A0 (A.ad P).1) λw'=>Aq w FT w' (λw' z=>SF w' sb ab b 0 ld wc A9 (decide ((A.ad P).1≠0)) L (A.ad P).2.1 (A.ad P).2.2 z)):=
 XI w (A.ad P).1 h O d (A':=(A.ad P).2.1) (P':=(A.ad P).2.2) λE _ I H _ _=>A4d E I H
def YF{L:Nat->gh Pt}(h:∀k,E4 (L k))(o:Int)(k:Nat)(t v:Int):∀i,E4 (Fq L o k t v i):=λi=>by
 unfold Fq;split
 ·unfold Iv;split
  ·exact LP (h k) _ _
  ·exact h i
 ·exact h i
def SO(ld A9:Int)(h:gh Pu)(Y:∀p∈h,B8 p):Rel (Gp (Bo A9 ld) h) h ld A9:=by
 have key:∀n (l:gh Pu),l.length=n->(∀p∈l,B8 p)->Rel (Gp (Bo A9 ld) l) l ld A9/\∀k,E4 (Gp (Bo A9 ld) l k):=by
  intro n
  induction n with
  | zero=>
   intro l d _;obtain rfl:=GG.1 d;exact⟨Rel.bI ld A9,λ_=>List.Pairwise.nil⟩
  | succ n ih=>
   intro l d z;rcases Mn l with rfl|⟨r,p,rfl⟩
   ·cases d
   ·rw[WY]at d z ⊢;have⟨i1,i2⟩:=ih r (by simpa using d) λx hx=>z x (FV _ hx);have E:=z p (by simp);rw[PE];obtain⟨k,t,v⟩:=p;obtain⟨⟨W,O⟩,H,_⟩:=E;dsimp only at W O H ⊢;obtain⟨I,rfl⟩:∃I:Nat,k=I:=⟨k.toNat,by omega⟩;exact⟨i1.ax (λj _=>i2 j) (by omega) H,YF i2 _ _ _ _⟩
 exact(key _ h rfl Y).1
def UC{I H:gh (Int×gh Pu)}{E:Option (gh Pu)}(h:Lay P A I H E):∀n∈A.j.Ak,CH n:=λn z=>by
 rw[h.bQ]at z;obtain⟨x,d,rfl⟩:=CC.1 z;cases E with
 | none=>exact LM (h.CV x d).1.1
 | some l=>
  rcases AU.1 d with d|d
  ·exact LM (h.CV x d).1.1
  ·simp at d;subst d;exact LM h.AE.2.2.2.2
def Ke{x y a b:Nat}(h:x<=a)(d:y<=b){c:Nat}(z:a*b<=c):x*y<=c:=AJ (Ih h d) z
def Ve(O:Fy N)(hN:N<=330000)(w:ga)(h:SF w sb ab b 0 ld wc A9 false L A P FT)(W:∀k,FT k->k<w.heap.size)(z:St t A P pd Ad o false)(ht:t+1<=330000)(hpN:pd.length<=N)(hw:1<=wc/\wc<=4611686018427387904)(hL:Lets B w)(Y:∀k,FT k->B<=k):
 Ag 24 #[A5 sb] w (Am (A0 (A.aR P wc).1) λw'=>Aq w FT w' (λw' H=>SF w' sb ab b 0 ld wc A9 (decide ((A.aR P wc).1≠0)) L (A.aR P wc).2.1 (A.aR P wc).2.2 H)):=by
 have⟨sg,cl,ol,hI,_⟩:=z.si rfl;have d:=hI.bD z.pb z.B4 (by omega);have hj:=d.j;have hs:=d.s;have hsg:=d.sd;have hlg:=d.Ak;have hall:=hI.Ck.2.2;have hl0:(B7 sg cl ol).length=(Au sg).length+(Au cl++ol.getD []).length:=by unfold B7;rw[AY]
 have hp:=hI.AV.pd hI.CZ;refine A2s w (A.aR P wc).1 h W hL Y (A':=(A.aR P wc).2.1) (P':=(A.aR P wc).2.2) λw1 F0 hA h0 I E=>?_;exact A4e O (by omega) w1 hA h0 wc hw (by rw[hp];dsimp only;omega) (by rw[hp];exact hI.AV.bX) ⟨hs.1,by omega⟩ (by constructor<;>omega) (λx hx=>PK (hI.AV.DH.sd x hx)) z.pb.BQ ⟨by omega,by omega,by omega⟩
  (Ke (a:=330000) (b:=13201000) (by omega) (by omega) (by decide)) (by omega) (λn hn=>LM (hI.AV.DH.sd n hn)) (UC hI.AV) (by omega) I E
def A3s(Y:Fy N)(hN:N<=330000)(w:ga)(h:SF w sb ab b 0 ld wc A9 false L A P FT)(aA:∀k,FT k->k<w.heap.size)(H:St t A P pd Ad (Bo A9 ld) false)(ht:t+1<=330000)(hpN:pd.length<=N)(hw:1<=wc/\wc<=4611686018427387904)(hL:Lets B w)(aB:∀k,FT k->B<=k)(hl:1<=ld/\ld<=4611686018427387904)(hc:AT A9):
 Ag 25 #[A5 sb] w (Am (A0 (A.aP P wc (Bo A9 ld)).1) λw'=>
  Aq w FT w' (λw' O=>SF w' sb ab b 0 ld wc A9 (decide ((A.aP P wc (Bo A9 ld)).1≠0)) L (A.aP P wc (Bo A9 ld)).2.1 (A.aP P wc (Bo A9 ld)).2.2 O)):=by
 have⟨sg,cl,ol,hI,_⟩:=H.si rfl;have d:=hI.bD H.pb H.B4 (by omega);have hj:=d.j;have hs:=d.s;have hsg:=d.sd;have hlg:=d.Ak;have hall:=hI.Ck.2.2;have E:=hI.AV.pd hI.CZ;refine A3t w (A.aP P wc (Bo A9 ld)).1 h aA hL aB hl hc (A':=(A.aP P wc (Bo A9 ld)).2.1) (P':=(A.aP P wc (Bo A9 ld)).2.2) λw1 F0 hA h0 W I=>?_;refine A4f Y (by omega) w1 hA h0 wc (Bo A9 ld) hw (λsd z=>?_) ⟨by omega,Ke (a:=330000) (b:=13201000) (by omega) (by omega) (by decide)⟩ ⟨hs.1,by omega⟩ (by constructor<;>omega) (λx hx=>PK (hI.AV.DH.sd x hx)) H.pb.BQ ⟨by omega,by omega,by omega⟩
  (Ke (a:=330000) (b:=13201000) (by omega) (by omega) (by decide)) (λn hn=>LM (hI.AV.DH.sd n hn)) (UC hI.AV) (by omega) W I
 rw[hI.AV.b4]at z;cases z;have e:sg.flatMap (·.2)++(P.pd A.j.Ak).1=B7 sg cl ol:=by rw[E];rfl
 rw[e];refine⟨by omega,λp E=>?_⟩;rcases AU.1 E with E|E
 ·exact hI.AV.cN p E
 ·exact hI.AV.bX p E
def TJ(w:ga)(Ft:Nat->Prop)(hd:Bf w b P Ft)(d:∀k,Ft k->k<w.heap.size)(E:PB P t)(Y:DI (Ca t) P pd Ad (Bo A9 ld))(hr:Reads (Ca t) P pd (Bo A9 ld))(hq:∀p∈pd,B8 p)(W:pd.length<=t)(aE:Ad<=pd.length)(z:P.D.n.AW=false)(ht:t<=330000)(hE:Env B w)(hl:1<=ld/\ld<=4611686018427387904)(hw:1<=wc/\wc<=4611686018427387904)(hc:AT A9):
 Calls Tryz.prog 22 #[.pointer (some ⟨b,0,none⟩),.agg #[.int .i64 ld,.int .i64 wc],.int .i64 A9] w λe w'=>
  ∃A ab sb L,e=.returned (.tuple #[.pointer (some ⟨sb,0,none⟩),.int .i64 0])/\w.heap.size<=sb/\(∃ps,Ar.aT P=.ok (A,ps))/\St t A P pd Ad (Bo A9 ld) false/\Rel L pd ld A9/\(∀k,k<8->(L k).length<=t)/\Aq w Ft w' (λw' aB=>SF w' sb ab b 0 ld wc A9 false L A P aB):=by
 have⟨A,ps,h1,h2,h3,h4⟩:=St.aT E Y hr hq W aE z ht;have⟨sg,cl,ol,hI,_⟩:=h2.si rfl;have H:=hI.bD E W (by omega);have hpl:=h3.2.2;have I:=hI.AV.CK;refine(TK w ld wc A9 hl hw hc d (P:=P) (Ft:=Ft) (b:=b) (λA' aD h=>by rw[h1]at h;cases h;exact⟨by omega,λp E=>(h4 p E).1⟩) λw1 hk=>?_).mono ?_
 ·have O:=hE.aO hk;refine W9 w1 (B1.ay hd d hk) (λk aA=>Bi (d k aA) hk.Aj) E.BQ ⟨by omega,by omega,by omega⟩ (Ke (a:=990020) (b:=13201000) (by omega) (by omega) (by decide)) O.1 O.2.1 (λnm hm=>A0P (Y.Ai nm λe=>Es.1 hm (Gv.2 e))) (λix hx=>?_) (λfirst=>?_)
  ·rw[I]at hx;cases hx;have:=H.sd;exact⟨by omega,Ke (a:=330000) (b:=13201000) (by omega) (by omega) (by decide)⟩
  ·have h5:=T8 E.BQ (Br first P.Ai);have h6:=LG first P.Ai
   have h7:=H.Ai;have h8:(Br first P.Ai).length*(40*t+1000)<=13069254020000:=Ke (a:=990020) (b:=13201000) (by omega) (by omega) (by decide);omega
 ·rintro e w' (⟨n,q1,-⟩|⟨A',aD,ab,sb,q1,rfl,q2,q3⟩)
  ·rw[h1]at q1;cases q1
  ·rw[h1]at q1;cases q1;refine⟨A,ab,sb,_,rfl,q2,⟨_,h1⟩,h2,?_,λk hk=>AJ (PF _ k _ ps rfl) (by omega),q3⟩;exact SM (SO ld A9 ps h4) hq h3
end
end
section
open Go.RowKit
attribute [local go_sem ↓] Go.wp_at_zero Go.wp_at_succ
def PB.dO{P:PD}{t:Nat}(h:PB P t)(ht:t<=330000):Xb P.D P.F:=
 ⟨700000*(t+1),by omega,h.Ap,by have:=h.BQ.A4;omega,by have:=h.BQ.AI;omega,λl z=>by have:=h.BQ.Fb l z;omega,by have:=h.BQ.Al;omega,λf d=>by have:=h.BQ.B4 f d;omega⟩
def VS{S:Nat->Prop}{w w':ga}(E:A3 S w w'){x o:Nat}{u:gd}(h:A7 w x o u)(d:¬S x):A7 w' x o u:=by
 have z:=HL w _ h;exact(E3 (E.An x z d)).trans h
def Aq.bY{w w':ga}{Ft:Nat->Prop}{R z:ga->(Nat->Prop)->Prop}(h:Aq w Ft w' R)(I:∀d,R w' d->z w' d):Aq w Ft w' z:=by
 obtain⟨H,F,E,L⟩:=h;exact⟨H,F,I F E,L⟩
def Live(t M sb ab b:Nat)(ld wc A9:Int):Kind:=λw FT=>∃d L A P q Ad,SF w sb ab b 0 ld wc A9 d L A P FT/\(d=false->St t A P q Ad (Bo A9 ld) false/\(∀k,k<8->(L k).length<=t)/\q.length<=M)
section
variable{w:ga}{t M N B sb ab b:Nat}{ld wc A9:Int}{FT:Nat->Prop}
def A1i(w:ga)(p:Pu)(h:Live t M sb ab b ld wc A9 w FT)(d:∀k,FT k->k<w.heap.size)(Y:t+1<=330000)(I:B8 p)(hL:Lets B w)(O:∀k,FT k->B<=k)(hl:1<=ld/\ld<=4611686018427387904)(hc:AT A9):
 Ag 23 #[A5 sb,A0 p.1,A0 p.2.1,A0 p.2.2] w λe w'=>(∃c,e=.returned (A0 c))/\Aq w FT w' (Live (t+1) (M+1) sb ab b ld wc A9):=by
 obtain⟨ro,L,A,P,q,Ad,h1,h2⟩:=h;cases ro with
 | true=>
  refine(A0b w p.1 p.2.1 p.2.2 h1 d I.1).k ?_;rintro w' W;exact⟨⟨_,rfl⟩,W.bY λF E=>⟨true,L,A,P,q,Ad,E,λe=>by cases e⟩⟩
 | false=>
  have⟨hS,hk,hq⟩:=h2 rfl;obtain⟨-,-,-,-,-,a6,-⟩:=hS.ae Y p I;refine(Tb w p h1 d hS Y I hL O hk hl hc).k ?_;rintro w' W;refine⟨⟨_,rfl⟩,W.bY λF E=>⟨_,_,_,_,q++[p],Ad,E,λe=>?_⟩⟩;have z:(A.ae P p).2.1=0:=by
   by_cases z:(A.ae P p).2.1=0
   ·exact z
   ·rw[CM z]at e;cases e
  have⟨b1,b2⟩:=a6 z;refine⟨b2,λk H=>?_,by simp;omega⟩;rw[Ae b1];have:=PC L (Bo A9 ld) p.1.toNat p.2.1 p.2.2 k;have:=hk k H;omega
def A1j(I:Fy N)(hN:N<=330000)(w:ga)(h:Live t M sb ab b ld wc A9 w FT)(d:∀k,FT k->k<w.heap.size)(Y:t+1<=330000)(hM:M<=N)(hw:1<=wc/\wc<=4611686018427387904)(hL:Lets B w)(O:∀k,FT k->B<=k):
 Ag 24 #[A5 sb] w λe w'=>(∃c,e=.returned (A0 c))/\Aq w FT w' (Live (t+1) M sb ab b ld wc A9):=by
 obtain⟨ro,L,A,P,q,Ad,h1,h2⟩:=h;cases ro with
 | true=>
  refine(A2t w h1 d).k ?_;rintro w' W;exact⟨⟨_,rfl⟩,W.bY λF E=>⟨true,L,A,P,q,Ad,E,λe=>by cases e⟩⟩
 | false=>
  have⟨hS,hk,hq⟩:=h2 rfl;obtain⟨-,-,-,-,a5⟩:=hS.aR (Fp wc) Y;refine(Ve I hN w h1 d hS Y (by omega) hw hL O).k ?_;rintro w' W;refine⟨⟨_,rfl⟩,W.bY λF E=>⟨_,_,_,_,q,q.length,E,λe=>?_⟩⟩;have z:(A.aR P wc).1=0:=by
   by_cases z:(A.aR P wc).1=0
   ·exact z
   ·rw[CM z]at e;cases e
  exact⟨a5 z,λk H=>by have:=hk k H;omega,hq⟩
end
def PD.b0(P:PD):PD:=⟨{P.D with n:=Ev {P.D.n with Ce:=if (0:Int)>0 then wrap64 (P.D.n.AQ+0) else 0} 0 0},P.F⟩




end
section
open Go.RowKit

end
section
open Go.RowKit
attribute [local go_sem ↓] Go.wp_at_zero Go.wp_at_succ





section
variable{w w':ga}{sb ab b t:Nat}{mu ld wc A9 o:Int}{ro:Bool}{L:Nat->gh Pt}{A:Ar}{P:PD}{FT:Nat->Prop}{pd:gh Pu}{Ad:Nat}
def DI.ep{E:Int×Int}(h:DI E P pd Ad o)(f:Nat)(H:P.D.Ap f):0<=(P.F f).2/\(P.F f).2<=(P.F f).1.length:=by
 have key:∀s∈Bn P,∀e∈s,0<=(P.F e.2).2/\(P.F e.2).2<=(P.F e.2).1.length:=λs z e d=>by
  have⟨ix,sg,cl,lo,nb,hL,_⟩:=h.DP s z;have I:vw P.F s e.1.data.toList=some (P.F e.2):=by
   unfold vw;rw[FO];cases hk:lookup s e.1 with
   | none=>exact absurd rfl (Jt.1 hk e d)
   | some g=>
    have⟨i,hi,e1⟩:=DV (DY hk);have⟨j,hj,e2⟩:=DV d;have:i=j:=Kb (h.Cj s z) (by simpa using hi) (by simpa using hj) (by simp[e1,e2]);subst this;rw[e1]at e2;rw[<-e2];rfl
  exact hL.E7 _ _ I
 rcases H with⟨e,d,rfl⟩|⟨e,d,rfl⟩|⟨l,O,e,d,rfl⟩
 ·exact key _ h.CG e d
 ·exact key _ (Bt ..) e d
 ·exact key _ (Bp _ O) e d
def SF.cb(h:SF w sb ab b mu ld wc A9 ro L A P FT):∃Ft,Bf w b P Ft/\(∀k,Ft k->k<w.heap.size)/\(∀k,Ft k->FT k)/\∀(S z:Nat->Prop) (w':ga) (P':PD),A3 S w w'->(∀k,FT k->S k->Ft k)->Bf w' b P' z->(∀k,z k->k<w'.heap.size)->(∀k,z k->Ft k\/w.heap.size<=k)->
 ∃O,SF w' sb ab b mu ld wc A9 ro L A P' O/\(∀k,O k->k<w'.heap.size)/\∀k,O k->FT k\/w.heap.size<=k:=by
 obtain⟨lv,F0,H,I⟩:=h;have⟨xb,jb,sv,ov,l,jo,Ft,h3,h4⟩:=H.ar;refine⟨Ft,h3.dk,h3.lt,λk d=>I k (.inl (h4 k (.inl d))),λS z w' P' hc hS d1 d2 d3=>?_⟩;have hs:Gb (Fk ab xb jb sv ov l jo) w w':=hc.ay (λ_ d=>h3.bF d) λk d E=>h3.Dl k d (hS k (I k (.inl (h4 k (.inr d)))) E)
 have hA:Co w' ab b xb jb sv ov l jo A P' z:=⟨(hs ab (.inl rfl)).trans h3.Ah,(hs xb (.inr (.inl rfl))).trans h3.ix,h3.sd.aN λg W=>hs g (.inr (.inr (.inl W))),h3.AN.aN λg W=>hs g (.inr (.inr (.inr (.inl W)))),
  h3.jn.aN λk d=>hs k (.inr (.inr (.inr (.inr d)))),d1,d2,λk d E=>(d3 k E).elim (h3.Dl k d) λY=>by have:=h3.bF d;omega,h3.Fm,h3.Gh,h3.FI⟩
 have nF:∀k,(k=sb\/EK lv k)->¬F0 k:=λk d=>by
  rcases d with rfl|d
  ·exact H.ns
  ·exact H.nr k d
 have oF:∀k,(k=sb\/EK lv k)->FT k/\k<w.heap.size:=λk d=>by
  rcases d with rfl|d
  ·exact⟨I _ (.inr (.inl rfl)),H.Ah.lt⟩
  ·exact⟨I _ (.inr (.inr d)),H.FK.lt d⟩
 have nS:∀k,(k=sb\/EK lv k)->¬S k:=λk d E=>nF k d (h4 k (.inl (hS k (oF k d).1 E)));have nN:∀k,(k=sb\/EK lv k)->¬(z k\/Fk ab xb jb sv ov l jo k):=λk d E=>by
  rcases E with E|E
  ·rcases d3 k E with Y | Y
   ·exact nF k d (h4 k (.inl Y))
   ·have:=(oF k d).2;omega
  ·exact nF k d (h4 k (.inr E))
 refine⟨λk=>(z k\/Fk ab xb jb sv ov l jo k)\/Own sb lv k,⟨lv,λk=>z k\/Fk ab xb jb sv ov l jo k,⟨H.Ah.Al hc (nS sb (.inl rfl)),H.FK.Al hc λg W=>nS g (.inr W),⟨xb,jb,sv,ov,l,jo,z,hA,λk d=>d⟩,λk d=>hA.bT d,nN sb (.inl rfl),λk d=>nN k (.inr d)⟩,λk d=>d⟩,λk d=>?_,λk d=>?_⟩
 ·rcases d with d|rfl|d
  ·exact hA.bT d
  ·exact Bi H.Ah.lt hc.Aj
  ·exact Bi (H.FK.lt d) hc.Aj
 ·rcases d with (d|d)|rfl|d
  ·exact(d3 k d).imp (λY=>I k (.inl (h4 k (.inl Y)))) id
  ·exact .inl (I k (.inl (h4 k (.inr d))))
  ·exact .inl (I _ (.inr (.inl rfl)))
  ·exact .inl (I _ (.inr (.inr d)))
end
end
section
open Go.RowKit
section
variable{w w':ga}{H wb b t:Nat}{ld o:Int}{R R':Kind}{P:PD}{FT aA:Nat->Prop}{pd:gh Pu}{ls:gh (gd×Int)}{Ad:Nat}
def YK(d:PB P t)(ht:t<=330000):P.D.A4.length<1099511627776/\P.D.AI.length<1099511627776/\P.D.As.length<1099511627776/\∀c∈P.D.As,c.length<1099511627776:=by
 have h1:=d.BQ.A4;have h2:=d.BQ.AI;have h3:=d.BQ.Al;exact⟨by omega,by omega,by omega,λc h=>by have:=d.BQ.Fb c h;omega⟩
end
section
variable{w w':ga}{H wb t:Nat}{ld:Int}{pd:gh Pu}{ls:gh (gd×Int)}
def A0s{p:Int}{d:DN}{k:Int}(h:AT p):0<=(Ev d k p).BC/\(Ev d k p).BC<=9223372036854775807:=by
 obtain⟨p1,p2⟩:=h;unfold Ev wrap64;dsimp only
 split<;>omega
end
end
end Go.Proofs.YtodcnkbblippnaaGreatDoor
