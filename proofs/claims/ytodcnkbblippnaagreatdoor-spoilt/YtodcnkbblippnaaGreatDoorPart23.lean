/- Part 23 of a proof: walks of the program. -/
import Derived.Test.YtodcnkbblippnaaGreatDoorPart20
namespace Go.Proofs.YtodcnkbblippnaaGreatDoor
set_option maxRecDepth 100000
set_option maxHeartbeats 32000000
set_option linter.defProp false
open Go.Proofs.Tryz
section
open Go.RowKit
attribute [local go_sem ↓] CJ
def PG{w:ga}{jb b:Nat}{lv ov:gd}{J:Jn}(h:DE w jb b lv ov J){n:Int}{s:Nat}(z:J.AE=some (n,s)):∃lb,ov=(A5 lb)/\Bd w lb 237 (A5 b) ⟨(Af n).toArray⟩ s/\s<4294967296:=by
 rcases h.AE with⟨d,_⟩|⟨n',s',lb,d,E,I,H⟩
 ·rw[z]at d;cases d
 ·rw[z]at d;cases d;exact⟨lb,E,I,H⟩
section
variable{w w' w1 w2:ga}{b B jb lb pb:Nat}{P:PD}{Ft FT:Nat->Prop}{a c m:Nat}{lv ov:gd}{J:Jn}{n:Int}{s:Nat}
def DE.e9{P':PD}(E:DE w jb b lv (.pointer (some ⟨lb,0,none⟩)) J)(ho:J.AE=some (n,s))(_hlt:∀k,Ft k->k<w.heap.size)(z:∀k,Dq jb lv (.pointer (some ⟨lb,0,none⟩)) k->¬Ft k)(d:∀k,Ft k\/Dq jb lv (.pointer (some ⟨lb,0,none⟩)) k->FT k){s':Nat}(L:s'<4294967296)(hf:Bd w' lb 237 (.pointer (some ⟨b,0,none⟩)) ⟨(Af n).toArray⟩ s')(hI:JR w Ft lb w' b P'):
 Aq w FT w' (λw' W=>JD w' jb b {J with AE:=some (n,s')} P' W):=by
 have⟨lb',e,h3,_⟩:=PG E ho;cases e;obtain⟨O,Ft',r2,r3,Y⟩:=hI;have n1:lb≠jb:=h3.dA E.Ah;have n2:∀g,lv.ownBlock=some g->g≠lb:=λg I=>h3.cT E.Ak I;refine Aq.jd O ?_ ⟨E.Ah.an O ?_,?_,.inr ⟨n,s',lb,rfl,rfl,hf,L⟩⟩ r2 r3 ?_ ?_ ?_
 ·rintro k _ (h|rfl)
  ·exact d k (.inl h)
  ·exact d _ (.inr (.inr (.inr rfl)))
 ·rintro (h|h)
  ·exact z _ (.inl rfl) h
  ·exact n1 h.symm
 ·exact Ax E.Ak λg I=>O.An g (AF E.Ak I) λh=>by
   rcases h with h|h
   ·exact z g (.inr (.inl I)) h
   ·exact n2 g I h
 ·exact λk H hx=>by
   rcases Y k hx with h|h
   ·exact z k H h
   ·have:=E.lt H;omega
 ·exact λk H=>(Y k H).imp (λh=>d k (.inl h)) id
 ·exact λk H=>.inl (d k (.inr H))
def A1L(w:ga)(p:Pu)(h:JD w jb b J P FT)(hp:B8 p)(hn:J.AE=none->CH (J.A8+1)/\AT (J.A8+1)/\AT J.pd)(bH:J.Ak.length<=1073741824)(hL:Lets B w)(hF:Fit P a c m)(hl:CP (a+1) (c+1) (m+33)):
 Ag 148 #[A5 jb,DA p] w (Am (.tuple #[.bool (J.ae P p).1,A0 (J.ae P p).2.1]) λw'=>Aq w FT w' (λw' H=>JD w' jb b (J.ae P p).2.2.1 (J.ae P p).2.2.2 H)):=by
 obtain⟨E,z,d⟩:=p;unfold DA;dsimp only
 obtain⟨L,I,O,aD,bF,aL,aM,aG⟩:=h;have a5:CP (a+1) (c+1) (m+12):=⟨hl.a,hl.c,by have:=hl.m;omega⟩;have bG:C5 (w.aC #[A0 E,A0 z,A0 d] 113) w.heap.size E z d:=BL w _;have k0:A3 Ab w (w.aC #[A0 E,A0 z,A0 d] 113):=(A3.I _ w).al _;have sz:w.heap.size<(w.aC #[A0 E,A0 z,A0 d] 113).heap.size:=by simp
 have hex:JD w jb b J P (λk=>O k\/Dq jb L I k):=⟨L,I,O,aD,bF,aL,aM,λ_ h=>h⟩;have aN:∀k,(O k\/Dq jb L I k)->k<w.heap.size:=λk hk=>hk.elim (aL k) λh=>aD.lt h;have h1:JD (w.aC #[A0 E,A0 z,A0 d] 113) jb b J P (λk=>O k\/Dq jb L I k):=hex.aN (k0.ay aN λ_ _ h=>h) k0.Aj;have a8:=hL.aO k0
 have AD:Hid (∀(w1:ga) (aA:Jn) (aB:PD) (W:Nat->Prop) (n:Int) (s:Nat),A3 (λk=>O k\/Dq jb L I k) (w.aC #[A0 E,A0 z,A0 d] 113) w1->(∀k,W k->(O k\/Dq jb L I k)\/(w.aC #[A0 E,A0 z,A0 d] 113).heap.size<=k)->JD w1 jb b aA aB W->aA.AE=some (n,s)->Fit aB (a+1) (c+1) (m+12)->
  ∃lb,A7 w1 jb 4 (A5 lb)/\C5 w1 w.heap.size E z d/\Ag 191 #[A5 lb,.agg #[A0 E,A0 z,A0 d]] w1.drew (Am (.tuple #[.bool (aA.ax aB (E,z,d)).1,A0 (aA.ax aB (E,z,d)).2.1]) λw'=>
   w'.cell? (Ac jb 4)=some (A5 lb)/\C5 w' w.heap.size E z d/\Aq w FT w' (λw' H=>JD w' jb b (aA.ax aB (E,z,d)).2.2.1 (aA.ax aB (E,z,d)).2.2.2 H))):=λw1 aA aB W n s aU aQ bE aR bC=>by
  obtain⟨lv,ov,Ft,hJ,hD,aO,aE,aF⟩:=bE;obtain⟨lb,rfl,h3,h4⟩:=PG hJ aR;have aJ:=bG.an aU (λhx=>by have:=aN _ hx;omega);have aY:¬W w.heap.size:=λhx=>by
   rcases aQ _ hx with h|h
   ·have:=aN _ h;omega
   ·omega
  have kd:A3 Ab w1 w1.drew:=(A3.I _ w1).ag;have a1:=hJ.aJ kd;have aK:∀k,Ft k->k<w1.drew.heap.size:=aO;refine⟨lb,hJ.Ah.c4,aJ,(A4J (E,z,d) _ s (h3.an kd (λh=>h)) h4 (B1.ay hD aO kd) aK (λhx=>aE _ (.inr (.inr rfl)) hx) hp bC ⟨hl.a,hl.c,by have:=hl.m;omega⟩).mono ?_⟩;rintro e w'⟨rfl,hf,Y⟩;have he:aA.ax aB (E,z,d)=((aB.ae (A6 (Af n)) s (Bc E z d)).1,(aB.ae (A6 (Af n)) s (Bc E z d)).2.1,{aA with AE:=some (n,AP s (Bc E z d))},(aB.ae (A6 (Af n)) s (Bc E z d)).2.2):=by unfold Jn.ax;rw[aR]
  rw[he];have a9:=DE.e9 a1 aR aK aE aF (I5 s (Bc E z d) h4) hf Y
  have a7:CD w' jb b lv aA.A8 aA.pd (A5 lb):=a1.Ah.an Y.1 (by
   rintro (h|h)
   ·exact aE _ (.inl rfl) h
   ·exact h3.dA hJ.Ah h.symm)
  refine⟨rfl,a7.c4,aJ.ag.an Y.1 (by
   rintro (h|h)
   ·exact aY (aF _ (.inl h))
   ·exact aY (aF _ (.inr (.inr (.inr (by rw[h])))))),?_⟩
  have hall:Aq (w.aC #[A0 E,A0 z,A0 d] 113) (λk=>O k\/Dq jb L I k) w' (λw' H=>JD w' jb b {aA with AE:=some (n,AP s (Bc E z d))} (aB.ae (A6 (Af n)) s (Bc E z d)).2.2 H):=by
   have⟨q1,Ft',q2,q3,q4⟩:=a9.a8 kd;exact⟨aU.Av q1 λx hx aO=>(aQ x hx).resolve_right (by omega),Ft',q2,q3,λk hk=>(q4 k hk).elim (λh=>aQ k h) λh=>.inr (AJ aU.Aj h)⟩
  exact(hall.a8 k0).aZ aG
 by_cases ho:J.AE=none
 case pos=>
  have aV:I=.pointer none:=by
   rcases aD.AE with⟨_,h⟩|⟨n,s,lb,h,_⟩
   ·exact h
   ·rw[ho]at h;cases h
  have⟨n1,n2,n3⟩:=hn ho;have a2:=A1 (A36 _ h1 ho n1 n2 n3 bH a8 hF a5);have c4:=(aD.aJ k0).Ah.c4;rw[aV]at c4;have aW:Hid (J.ae P (E,z,d)=if (J.aw P).1≠0 then (false,(J.aw P).1,(J.aw P).2.1,(J.aw P).2.2) else (J.aw P).2.1.ax (J.aw P).2.2 (E,z,d)):=by unfold Hid Jn.ae;rw[Ae ho]
  have aT:Hid (Fit (J.aw P).2.2 (a+1) (c+1) (m+12)):=by
   (have hp:(AS (AB (Af (J.A8+1))) (AO J.pd)).length=12:=by simp[AS,Hh,CQ]);have a0:=hF.ai (A6 (Af (J.A8+1)));have aP:=a0.ak (A6 (Af (J.A8+1))) (AS (AB (Af (J.A8+1))) (AO J.pd));rw[hp]at aP;unfold Hid Jn.aw;split
   ·exact a0.af (Ao _) (Ao _) (by omega)
   ·dsimp only
    split
    ·exact aP
    ·exact aP
  have bA:Hid ((J.aw P).1=0->∃n s,(J.aw P).2.1.AE=some (n,s)):=λh0=>by
   unfold Jn.aw at h0 ⊢;split
   ·rename_i hc;rw[Ae hc]at h0;exact absurd h0 hc
   ·rename_i hc;rw[Aa hc]at h0;dsimp only at h0 ⊢;split
    ·rename_i hd;rw[Ae hd]at h0;exact absurd h0 hd
    ·exact⟨_,_,rfl⟩
  have bD:Hid (∀wx bB bI,Aq (w.aC #[A0 E,A0 z,A0 d] 113) (λk=>O k\/Dq jb L I k) wx (λw' H=>JD w' jb b bB bI H)->Aq w FT wx (λw' H=>JD w' jb b bB bI H)):=λwx bB bI hx=>(hx.a8 k0).aZ aG
  generalize hR:J.ae P (E,z,d)=R at aW ⊢;generalize hG:J.aw P=G at a2 aW aT bA;obtain⟨a6,a4,a3⟩:=G;dsimp only at a2 aW aT bA;by_cases hg:a6=0
  case neg=>
   (have aH:R=(false,a6,a4,a3):=by rw[aW.o,Ae hg]);subst aH;(have hgb:(a6 !=0)=true:=by simpa using hg)
   go_enter func148,ntmps148
   go_wp2_with (go_at_call 190;refine a2.k ?_;rintro w2 Y;have aX:=A1 (bD.o _ _ _ Y));go_ret2;exact⟨rfl,aX.o⟩
  case pos=>
   subst hg;(have aH:R=a4.ax a3 (E,z,d):=by rw[aW.o,Aa (by simp)]);have⟨n,s,aI⟩:=bA.o rfl
   have aZ:Hid (∀w2,Aq (w.aC #[A0 E,A0 z,A0 d] 113) (λk=>O k\/Dq jb L I k) w2 (λw' H=>JD w' jb b a4 a3 H)->∃lb,A7 w2 jb 4 (A5 lb)/\C5 w2 w.heap.size E z d/\Ag 191 #[A5 lb,.agg #[A0 E,A0 z,A0 d]] w2.drew (Am (.tuple #[.bool R.1,A0 R.2.1]) λw'=>
    w'.cell? (Ac jb 4)=some (A5 lb)/\C5 w' w.heap.size E z d/\Aq w FT w' (λw' H=>JD w' jb b R.2.2.1 R.2.2.2 H))):=λw2 Y=>by
    obtain⟨q1,W,q2,q3,q4⟩:=Y;rw[aH];exact AD.o w2 a4 a3 W n s q1 q4 q2 aI aT.o
   obtain⟨bL,bK,bJ,bM⟩:=R;dsimp only at aZ
   go_enter func148,ntmps148
   go_wp2_with (fail);refine a2.k ?_;rintro w2 Y;have⟨lb,c24,pb2,AL⟩:=aZ.o w2 Y;have aS:=A1 AL;have d4:A7 w2.drew jb 4 (A5 lb):=c24;have d0:=pb2.ag.c0;have d1:=pb2.ag.c1;have d2:=pb2.ag.c2;go_wp2;refine Cc (λw'=>A7 w' jb 4 (A5 lb)/\A7 w' w.heap.size 0 (A0 E)/\A7 w' w.heap.size 1 (A0 z)/\A7 w' w.heap.size 2 (A0 d)) 8
    (BG [0,1,2,3,4,5,6,7] [5]) ⟨d4,d0,d1,d2⟩ ?_
   iterate 5 refine Bq ?_
   refine Bx λK hK=>?_;go_simp;refine aS.k ?_;rintro w3⟨e4,eb,Y⟩;refine hK _ _ ⟨e4,eb.c0,eb.c1,eb.c2⟩ (λhS=>?_);have aX:=A1 Y
   iterate 2 refine Bq ?_
   refine C8 ?_;go_wp2;go_ret2;exact⟨rfl,aX.o⟩
 case neg=>
  obtain⟨⟨n,s⟩,aI⟩:∃x,J.AE=some x:=JL.1 ho;obtain⟨lb0,aV,-,-⟩:=PG aD aI;have aH:J.ae P (E,z,d)=J.ax P (E,z,d):=by unfold Jn.ae;rw[Aa ho]
  have⟨lb,c24,pb2,AL⟩:=AD.o _ J P _ n s (A3.I _ _) (λk hk=>.inl hk) h1 aI (hF.af (by omega) (by omega) (by omega));rw[<-aH]at AL;generalize hR:J.ae P (E,z,d)=R at AL ⊢;obtain⟨bL,bK,bJ,bM⟩:=R;dsimp only at AL ⊢;have aS:=A1 AL;have d4:(w.aC #[A0 E,A0 z,A0 d] 113).drew.cell? (Ac jb 4)=some (A5 lb):=c24;have d0:=pb2.ag.c0;have d1:=pb2.ag.c1;have d2:=pb2.ag.c2
  go_enter func148,ntmps148
  go_wp2;refine Cc (λw'=>A7 w' jb 4 (A5 lb)/\A7 w' w.heap.size 0 (A0 E)/\A7 w' w.heap.size 1 (A0 z)/\A7 w' w.heap.size 2 (A0 d)) 8
   (BG [0,1,2,3,4,5,6,7] [5]) ⟨d4,d0,d1,d2⟩ ?_
  iterate 5 refine Bq ?_
  refine Bx λK hK=>?_;go_simp;refine aS.k ?_;rintro w3⟨e4,eb,Y⟩;refine hK _ _ ⟨e4,eb.c0,eb.c1,eb.c2⟩ (λhS=>?_);have aX:=A1 Y
  iterate 2 refine Bq ?_
  refine C8 ?_;go_wp2;go_ret2;exact⟨rfl,aX.o⟩
end
end
section
open Go.RowKit
def D9(w:ga)(ab b xb jb:Nat)(lh:Int)(ov:gd):Prop:=w.heap[ab]?=some (.cells #[.pointer (some ⟨b,0,none⟩),.pointer (some ⟨xb,0,none⟩),.pointer (some ⟨jb,0,none⟩),.int .i64 lh,ov] 150 (0,0))
section
variable{w w':ga}{ab b xb jb:Nat}{lh:Int}{ov:gd}
def D9.c0(h:D9 w ab b xb jb lh ov):A7 w ab 0 (A5 b):=by unfold D9 at h;simp[A7,World.cell?,h]
def D9.c1(h:D9 w ab b xb jb lh ov):A7 w ab 1 (A5 xb):=by unfold D9 at h;simp[A7,World.cell?,h]
def D9.c2(h:D9 w ab b xb jb lh ov):A7 w ab 2 (A5 jb):=by unfold D9 at h;simp[A7,World.cell?,h]
def D9.c3(h:D9 w ab b xb jb lh ov):A7 w ab 3 (A0 lh):=by unfold D9 at h;simp[A7,World.cell?,h]
def D9.c4(h:D9 w ab b xb jb lh ov):A7 w ab 4 ov:=by unfold D9 at h;simp[A7,World.cell?,h]
def D9.fz(h:D9 w ab b xb jb lh ov)(o:Nat):w.frozen? (Ac ab o)=false:=by unfold D9 at h;simp[World.frozen?,h]
def D9.lt(h:D9 w ab b xb jb lh ov):ab<w.heap.size:=Bv h
def D9.s3(h:D9 w ab b xb jb lh ov)(x:Int):D9 (w.setCell (Ac ab 3) (A0 x)) ab b xb jb x ov:=CL h
def D9.s4(h:D9 w ab b xb jb lh ov)(x:gd):D9 (w.setCell (Ac ab 4) x) ab b xb jb lh x:=CL h
def D9.ag(h:D9 w ab b xb jb lh ov):D9 w.drew ab b xb jb lh ov:=by unfold D9 at h ⊢;exact h
def D9.an{S:Nat->Prop}(h:D9 w ab b xb jb lh ov)(d:A3 S w w')(z:¬S ab):D9 w' ab b xb jb lh ov:=d.an h z
end
def Fk(ab xb jb:Nat)(sv ov lv jo:gd)(k:Nat):Prop:=k=ab\/k=xb\/sv.ownBlock=some k\/ov.ownBlock=some k\/Dq jb lv jo k
structure Co (w:ga) (ab b xb jb:Nat) (sv ov lv jo:gd) (A:Ar) (P:PD) (Ft:Nat->Prop):Prop where
 Ah:D9 w ab b xb jb A.A8 ov
 ix:BZ w xb 162 b Ay (AB Ay) A.ix.AZ sv
 sd:Db w sv A.ix.sd
 AN:GC w ov A.AN
 jn:DE w jb b lv jo A.j
 dk:Bf w b P Ft
 lt:∀k,Ft k->k<w.heap.size
 Dl:∀k,Fk ab xb jb sv ov lv jo k->¬Ft k
 Fm:∀g,sv.ownBlock=some g->g≠ab/\g≠xb/\¬Dq jb lv jo g
 Gh:∀g,ov.ownBlock=some g->g≠ab/\g≠xb/\¬Dq jb lv jo g
 FI:∀k,Dq jb lv jo k->k≠ab/\k≠xb
def AD(w:ga)(ab b:Nat)(A:Ar)(P:PD)(FT:Nat->Prop):Prop:=
 ∃xb jb sv ov lv jo Ft,Co w ab b xb jb sv ov lv jo A P Ft/\∀k,Ft k\/Fk ab xb jb sv ov lv jo k->FT k
section
variable{w w':ga}{ab b xb jb:Nat}{sv ov lv jo:gd}{A:Ar}{P P':PD}{Ft FT:Nat->Prop}
def Co.bF(h:Co w ab b xb jb sv ov lv jo A P Ft){k:Nat}(d:Fk ab xb jb sv ov lv jo k):k<w.heap.size:=by
 rcases d with rfl|rfl|d|d|d
 ·exact h.Ah.lt
 ·exact h.ix.lt
 ·exact h.sd.lt d
 ·exact h.AN.lt d
 ·exact h.jn.lt d
def Co.bT(h:Co w ab b xb jb sv ov lv jo A P Ft){k:Nat}(d:Ft k\/Fk ab xb jb sv ov lv jo k):k<w.heap.size:=d.elim (h.lt k) h.bF
def Co.ne(h:Co w ab b xb jb sv ov lv jo A P Ft):ab≠xb:=BR h.Ah h.ix (by decide)
def Co.aN(h:Co w ab b xb jb sv ov lv jo A P Ft)(d:Gb (λk=>Ft k\/Fk ab xb jb sv ov lv jo k) w w')(H:w.heap.size<=w'.heap.size):Co w' ab b xb jb sv ov lv jo A P Ft:=
 ⟨(d ab (.inr (.inl rfl))).trans h.Ah,(d xb (.inr (.inr (.inl rfl)))).trans h.ix,h.sd.aN λg E=>d g (.inr (.inr (.inr (.inl E)))),h.AN.aN λg E=>d g (.inr (.inr (.inr (.inr (.inl E))))),
   h.jn.aN λk z=>d k (.inr (.inr (.inr (.inr (.inr z))))),B1.aN h.dk λk z=>d k (.inl z),λk z=>Bi (h.lt k z) H,h.Dl,h.Fm,h.Gh,h.FI⟩
def Co.aJ(h:Co w ab b xb jb sv ov lv jo A P Ft)(d:A3 Ab w w'):Co w' ab b xb jb sv ov lv jo A P Ft:=h.aN (d.ay (λ_ z=>h.bT z) λ_ _ h=>h) d.Aj
def Co.cb(h:Co w ab b xb jb sv ov lv jo A P Ft)(W:Aq w Ft w' (λw' d=>Bf w' b P' d)):Aq w Ft w' (λw' d=>Co w' ab b xb jb sv ov lv jo A P' d):=by
 obtain⟨O,d,Y,L,I⟩:=W;have E:=O.ay (λ_ z=>h.bF z) h.Dl
 exact⟨O,d,⟨(E ab (.inl rfl)).trans h.Ah,(E xb (.inr (.inl rfl))).trans h.ix,h.sd.aN λg H=>E g (.inr (.inr (.inl H))),h.AN.aN λg H=>E g (.inr (.inr (.inr (.inl H)))),
  h.jn.aN λk z=>E k (.inr (.inr (.inr (.inr z)))),Y,L,λk z hx=>(I k hx).elim (h.Dl k z) λh'=>by have:=h.bF z;omega,h.Fm,h.Gh,h.FI⟩,L,I⟩
def Co.bK{S:Nat->Prop}{E L:Nat}{z H lv' I:gd}{A':Ar}{d:Nat->Prop}(Y:Co w' ab b E L z H lv' I A' P' d)(hc:A3 S w w')(hS:∀k,k<w.heap.size->S k->FT k)(h1:∀k,d k->FT k\/w.heap.size<=k)(h2:∀k,Fk ab E L z H lv' I k->FT k\/w.heap.size<=k):
 Aq w FT w' (λw' O=>AD w' ab b A' P' O):=
 ⟨hc.af hS,λk=>d k\/Fk ab E L z H lv' I k,⟨E,L,z,H,lv',I,d,Y,λ_ h=>h⟩,λ_ W=>Y.bT W,λk W=>W.elim (h1 k) (h2 k)⟩
def Co.cy(_h:Co w ab b xb jb sv ov lv jo A P Ft)(d:∀k,Ft k\/Fk ab xb jb sv ov lv jo k->FT k)(I:Aq w Ft w' (λw' E=>Co w' ab b xb jb sv ov lv jo A P' E)):Aq w FT w' (λw' H=>AD w' ab b A P' H):=by
 obtain⟨W,E,L,h3,O⟩:=I;exact L.bK W (λk _ z=>d k (.inl z)) (λk z=>(O k z).imp (λh=>d k (.inl h)) id) λk z=>.inl (d k (.inr z))
def AD.aN(h:AD w ab b A P FT)(H:Gb FT w w')(I:w.heap.size<=w'.heap.size):AD w' ab b A P FT:=by
 obtain⟨xb,jb,sv,ov,lv,jo,Ft,E,d⟩:=h;exact⟨xb,jb,sv,ov,lv,jo,Ft,E.aN (H.af λk z=>d k z) I,d⟩
def AD.aJ(h:AD w ab b A P FT)(E:A3 Ab w w'):AD w' ab b A P FT:=by
 obtain⟨xb,jb,sv,ov,lv,jo,Ft,z,d⟩:=h;exact⟨xb,jb,sv,ov,lv,jo,Ft,z.aJ E,d⟩
end
def JJ(w:ga)(h b z:Nat)(x:Int×gh Pu):Prop:=∃d,BZ w z 182 b (Aw x.1) (AB (Aw x.1)) x.1 d/\AX w d x.2/\h<=z/\∀g,d.ownBlock=some g->h<=g
def GM(d:gh Nat):gh Value:=d.map λg=>(A5 g)
def YN(d:gh Nat):∀u∈GM d,u.oneCell'=true:=by
 intro u hu;simp[GM]at hu;obtain⟨x,_,rfl⟩:=hu;rfl
def GB(w:ga)(h b:Nat)(v:gd)(l:gh (Int×gh Pu)):Prop:=
 ∃d:gh Nat,d.length=l.length/\w.ownsRow 0 179 1 v l.length (GM d)/\(∀g,v.ownBlock=some g->h<=g)/\∀k (E:k<d.length) (z:k<l.length),JJ w h b (d[k]'E) (l[k]'z)
def JJ.aJ{w w':ga}{d b E:Nat}{x:Int×gh Pu}(h:JJ w d b E x)(H:A3 Ab w w'):JJ w' d b E x:=by
 obtain⟨Y,L,z,O,I⟩:=h;exact⟨Y,L.an H (λh=>h),Ax z λg W=>H.An g (AF z W) (λh=>h),O,I⟩
def GB.aJ{w w':ga}{z b:Nat}{v:gd}{l:gh (Int×gh Pu)}(h:GB w z b v l)(H:A3 Ab w w'):GB w' z b v l:=by
 obtain⟨d,O,E,W,I⟩:=h;exact⟨d,O,Ax E λg Y=>H.An g (AF E Y) (λh=>h),W,λk L q2=>(I k L q2).aJ H⟩
def Tryz.eO:(Tryz.prog.info? 179).map (λi=>(i.zero,i.size,i.bytes))=some (some (.pointer none),1,8):=by kernel_rfl
def YX:∃d,Tryz.prog.info? 179=some d/\d.zero=some (.pointer none)/\d.size=1/\d.bytes=8:=by
 have h:=Tryz.eO;cases hx:Tryz.prog.info? 179 with
 | none=>rw[hx]at h;cases h
 | some i=>rw[hx]at h;simp at h;exact⟨i,rfl,h.1,h.2.1,h.2.2⟩
end
section
open Go.RowKit
attribute [local go_sem ↓] CJ
section
variable{w:ga}{ab b xb jb B:Nat}{sv ov lv jo:gd}{A:Ar}{P:PD}{Ft:Nat->Prop}{a c m:Nat}
def YQ(P:PD)(n:Int)(r:gh Int):P.sd (n::r)=match P.BN n with
 | none=>none
 | some l=>(P.sd r).map λx=>(n,l):: x:=rfl
def S8(w:ga)(E:gh Int)(a0:A7 w ab 0 (A5 b))(a1:A7 w ab 1 (A5 xb))(x4:A7 w xb 4 sv)(a5:Db w sv E)(aW:Bf w b P Ft)(aD:∀k,Ft k->k<w.heap.size)(hF:Fit P a c m)(hl:CP a c m)(hn:∀n∈E,CH n)(hsl:E.length<=1073741824)(hL:Lets B w):
 Ag 98 #[A5 ab] w λe w'=>
  (P.sd E=none/\e=.returned (.tuple #[.slice none 0 0,A0 7])/\A3 Ab w w')\/
  ∃l v,P.sd E=some l/\e=.returned (.tuple #[v,A0 0])/\GB w' w.heap.size b v l/\A3 Ab w w':=by
 obtain⟨i0,hi,a3,a9,a6⟩:=YX;have aO:=A1 a5;obtain⟨sa,scap,rfl,sc1,a4⟩:=aO.o.Cd;unfold maxLen at a4
 have bN:Hid (∀w1,A3 Ab w w1->∀n∈E,Ag 135 #[A5 b,A0 n] w1 λe w'=>
  (P.BN n=none/\e=.returned (.tuple #[.pointer none,A0 7])/\A3 Ab w1 w')\/
  ∃l d v,P.BN n=some l/\e=.returned (.tuple #[A5 d,A0 0])/\BZ w' d 182 b (Aw n) (AB (Aw n)) n v/\AX w' v l/\(∀g,v.ownBlock=some g->w1.heap.size<=g)/\w1.heap.size<=d/\A3 Ab w1 w'):=
  λw1 hc n hm=>ZQ w1 (B1.ay aW aD hc) (λk hk=>Bi (aD k hk) hc.Aj) hF hl (hn n hm) (hL.aO hc)
 have bI:=A1 (YQ P);obtain⟨X,hX⟩:∃X,P.sd E=X:=⟨_,rfl⟩;have bO:=A1 hX;rw[hX]
 go_enter func98,ntmps98
 go_wp2;go_loopw [4,17] (λv iv wr=>∃(l:gh (Int×gh Pu)),iv=A0 l.length/\l.length<=E.length/\Hid (GB wr w.heap.size b v l/\A3 Ab w wr/\X=(P.sd (E.drop l.length)).map λr=>l++r)) (λ_ iv _=>E.length-(intOf iv).toNat)
 ·exact⟨[],rfl,Cb _,⟨[],rfl,CT _ _ _ _,λg H=>by simp[Value.ownBlock]at H,λk I=>by simp at I⟩,A3.I _ _,by rw[J7,Dz,bO.o];cases X<;>simp⟩
 ·obtain⟨l,rfl,hk,hI⟩:=hrel;have⟨i1,i2,i3⟩:=hI.o;obtain⟨z,j1,j2,j3,j4⟩:=i1;obtain⟨ap,cp,rfl,hcap1,aJ,-⟩:=B9 j2;unfold maxLen at aJ;by_cases aB:l.length<E.length
  ·obtain⟨g,o,rfl,d1⟩:=Db.at aO.o l.length aB;have O:=BU aB;have aI:=FB aB;generalize aU:(E[l.length]'aB)=n at d1 O aI;have e1:=i2.ao d1;have e0:=i2.ao a0;have aH:=A1 (bN.o wr i2 n O);rw[aI,bI.o]at i3;generalize hY:P.BN n=Y at aH i3;have aK:=A1 i2;have bD:=A1 i3;have bB:=A1 j1;have aT:=A1 j2;have bC:=A1 j3;have bK:=A1 j4;(have aZ:(l.length:Int)<(E.length:Int):=by omega);have hk0:(0:Int)<=(l.length:Int):=GK _;clear hI i2 i3 j1 j2 j3 j4 d1 O aI aU hY;cases Y with
   | none=>
    (have aF:X=none:=by rw[bD.o];rfl);subst aF;have aE:Hid (Ag 135 #[A5 b,A0 n] wr λe w'=>e=.returned (.tuple #[.pointer none,A0 7])/\A3 Ab wr w'):=by
     refine aH.o.mono ?_;rintro e w' (⟨_,W,h3⟩|⟨l,d,v,I,_⟩)
     ·exact⟨W,h3⟩
     ·cases I
    go_wp2_with (go_at_call 135;refine aE.k ?_;rintro L aA;have aY:=A1 aA);go_ret2;exact⟨rfl,aK.o.tr aY.o⟩
   | some pl=>
    have aE:Hid (Ag 135 #[A5 b,A0 n] wr λe w'=>∃d v,e=.returned (.tuple #[A5 d,A0 0])/\BZ w' d 182 b (Aw n) (AB (Aw n)) n v/\AX w' v pl/\(∀g,v.ownBlock=some g->wr.heap.size<=g)/\wr.heap.size<=d/\A3 Ab wr w'):=by
     refine aH.o.mono ?_;rintro e w' (⟨I,_⟩|⟨l,d,v,I,W⟩)
     ·cases I
     ·cases I;exact⟨d,v,W⟩
    have bJ:Hid (X=(P.sd (E.drop (l.length+1))).map λr=>(l++[(n,pl)])++r):=by
     unfold Hid;rw[bD.o];simp only[Option.map_map]
     congr 1
     funext r
     simp
    go_wp2_with (fail);refine aE.o.mono ?_;rintro e L⟨d,v,rfl,q1,q2,q3,q4,aA⟩;have bL:=A1 q1;have bM:=A1 q2;have bE:=A1 q3;have bF:=A1 q4;have a2:=A1 aA;have aQ:Hid ((L.alloc (.cells #[A5 d] 179)).ownsRow 0 179 1 (.slice ap l.length cp) l.length (GM z)):=Ax aT.o λg H=>(aA.al _).An g (AF aT.o H) (λh=>h)
    have aV:=A1 (Src.bh (size:=1) (B:=L.heap.size) underlying154 L #[A5 d] 179 (by simp) 1 1 rfl (YN [d]));go_wp2_with (at_builtin;refine Dj rfl (.tmp 33) (.tmp 35) 154 154 rfl 179 i0 _ 1 8 underlying154 hi a3 a9 a6 rfl (by decide) (.slice ap l.length cp) l.length (GM z) (by rfl) aQ.o _ 1 _ (by rfl) aV.o (by omega) ?_;intro a8 cap8 w8 hA;have bG:=A1 hA);go_roundw
    ·have hA:=bG.o;have k7:A3 Ab L (L.alloc (.cells #[A5 d] 179)):=(A3.I _ L).al _;have aL:=hA.Al (S:=λk=>(Value.slice ap l.length cp).ownBlock=some k) λ_ h=>h;have aN:A3 Ab w L:=aK.o.tr a2.o;(have a7:A3 Ab w w8:=(aN.tr k7).Av aL λy hy aD=>by have:=bC.o y hy;omega);have aM:A3 (λk=>(Value.slice ap l.length cp).ownBlock=some k) L w8:=(k7.aY).tr aL;have aR:∀(k:Nat) (c:Array gd) (e:Nat),L.heap[k]?=some (Obj.cells c e (0,0))->e≠179->¬(Value.slice ap l.length cp).ownBlock=some k:=λk c e hk he hx=>by
      have⟨c',hc'⟩:=Be (Ax aT.o λg H=>a2.o.An g (AF aT.o H) (λh=>h)) hx;exact BR hc' hk (λh=>he h.symm) rfl
     have aP:∀aG x,JJ L w.heap.size b aG x->JJ w8 w.heap.size b aG x:=λaG x hx=>by
      obtain⟨pv,I,W,h3,h4⟩:=hx;refine⟨pv,I.an aM (aR _ _ _ I (by decide)),Ax W λg H=>?_,h3,h4⟩;have⟨c',hc'⟩:=Be W H;exact aM.An g (AF W H) (aR _ _ _ hc' (by decide))
     refine⟨l++[(n,pl)],by simp,by simp;omega,⟨z++[d],by simp[bB.o],?_,?_,?_⟩,a7,by rw[show (l++[(n,pl)]).length=l.length+1 by simp];exact bJ.o⟩
     ·(have e:(l++[(n,pl)]).length=l.length+1:=by simp);(have e2:GM (z++[d])=GM z++GM [d]:=by simp[GM]);rw[e,e2];exact hA.AE
     ·intro g H;rcases hA.CA with h|h
      ·rw[h]at H;exact bC.o g H
      ·rw[h]at H;cases H;have:=aN.Aj;have:=k7.Aj;omega
     ·intro j I W;have aX:=bB.o;by_cases hj:j<l.length
      ·rw[Fg (show j<z.length by omega),Fg hj];exact aP _ _ ((bK.o j (by omega) hj).aJ a2.o)
      ·(have bA:j=l.length:=by simp at W;omega);subst bA;(have e1:(z++[d])[l.length]'I=d:=by simp[<-aX]);(have e2:(l++[(n,pl)])[l.length]'W=(n,pl):=by simp);rw[e1,e2];exact aP _ _ ⟨v,bL.o,bM.o,AJ aK.o.Aj bF.o,λg H=>AJ aK.o.Aj (bE.o g H)⟩
    ·simp[intOf];omega
  ·(have aS:l.length=E.length:=by omega);have bH:Hid (GB wr w.heap.size b (.slice ap l.length cp) l):=⟨z,j1,j2,j3,j4⟩;have aK:=A1 i2;(have aF:X=some l:=by rw[i3,aS,GI];simp[PD.sd]);subst aF;(have aZ:¬((l.length:Int)<(E.length:Int)):=by omega);clear i2 i3 hI j1 j2 j3 j4 aS;go_wp2;go_ret2;exact⟨_,rfl,bH.o,aK.o⟩
def YR(w:ga)(h:Co w ab b xb jb sv ov lv jo A P Ft)(I:Fit P a c m)(z:CP a c m)(H:∀n∈A.ix.sd,CH n)(d:A.ix.sd.length<=1073741824)(E:Lets B w):
 Ag 98 #[A5 ab] w λe w'=>
  (P.sd A.ix.sd=none/\e=.returned (.tuple #[.slice none 0 0,A0 7])/\A3 Ab w w')\/
  ∃l v,P.sd A.ix.sd=some l/\e=.returned (.tuple #[v,A0 0])/\GB w' w.heap.size b v l/\A3 Ab w w':=
 S8 w A.ix.sd h.Ah.c0 h.Ah.c1 h.ix.c4 h.sd h.dk h.lt I z H d E
def To(w:ga)(aT:Nat)(v:gd)(l:gh (Int×gh Pu))(h:GB w aT b v l)(hl:l.length<=1073741824)(hq:∀x∈l,x.2.length<=m)(hm:l.length*m<=4398046511104):
 Ag 101 #[v] w λe w'=>∃v',e=.returned v'/\AX w' v' (l.flatMap (·.2))/\(∀g,v'.ownBlock=some g->w.heap.size<=g)/\A3 Ab w w':=by
 have⟨i0,hi,hz0,hz1,hz2⟩:=Eg IN;obtain⟨H,j1,j2,j3,j4⟩:=h;obtain⟨va,vcap,rfl,vc1,aK,-⟩:=B9 j2;unfold maxLen at aK;have aU:=A1 j4;have aP:=A1 j2;have aR:=A1 hq;have aV:Hid (∀k,k<=l.length->k*m<=4398046511104):=λk hk=>AJ (Gd m hk) hm;clear j2 j3 j4 hq hm
 go_enter func101,ntmps101
 go_wp2;go_loopw [3,8] (λv iv wr=>∃(k:Nat) (d:gh Pu),iv=A0 k/\k<=l.length/\d.length<=k*m/\Hid (AX wr v d/\(∀g,v.ownBlock=some g->w.heap.size<=g)/\A3 Ab w wr/\d=(l.take k).flatMap (·.2))) (λ_ iv _=>l.length-(intOf iv).toNat)
 ·exact⟨0,[],rfl,by omega,by simp,CT _ _ _ _,λg I=>by simp[Value.ownBlock]at I,A3.I _ _,rfl⟩
 ·obtain⟨k,d,rfl,hk,aM,hI⟩:=hrel;have⟨i1,i2,i3,i4⟩:=hI.o;obtain⟨ap,cp,rfl,hcap1,aA,-⟩:=B9 i1;unfold maxLen at aA;by_cases z:k<l.length
  ·(have E:k<H.length:=by omega);have L:w.cell? ((Ac ((va.map (·.block)).getD 0) k):Addr)=some (A5 (H[k]'E))/\∃g,va=some (Ac g 0):=by
    obtain⟨a',c',e,-,-,hz,-⟩:=B9 aP.o;cases e;obtain⟨g,rfl⟩:=hz (by omega);exact⟨BH aP.o rfl (by simp[GM,E]),g,rfl⟩
   obtain⟨aF,g,rfl⟩:=L;have O:A7 w g k (A5 (H[k]'E)):=aF;obtain⟨pv,s1,s2,-,-⟩:=aU.o k E z;have W:=aR.o _ (BU z);have Y:l.take (k+1)=l.take k++[l[k]'z]:=Dy z;obtain⟨gb,aE⟩:∃gb,(H[k]'E)=gb:=⟨_,rfl⟩;rw[aE]at O s1;obtain⟨⟨n,pl⟩,hx⟩:∃x,(l[k]'z)=x:=⟨_,rfl⟩;rw[hx]at s1 s2 Y W;dsimp only at s1 s2 W;obtain⟨pa,pc,rfl,pc1,aO,-⟩:=B9 s2;unfold maxLen at aO;have d1:=i3.ao O;have d2:=(s1.an i3 (λh=>h)).c4;have aL:=A1 i1;have aH:=A1 i2;have aG:=A1 i3;(have aN:Hid (d++pl=(l.take (k+1)).flatMap (·.2)):=by unfold Hid;rw[Y,i4];simp);have aD:=A1 (Src.bN Gy (Ax s2 λg I=>i3.An g (AF s2 I) (λh=>h)) (IE pl));have aQ:=A1 (aV.o (k+1) z);(have aJ:(k:Int)<(l.length:Int):=by omega);have hk0:=C3 k;clear hI i1 i2 i3 i4 aF O s1 s2 Y hx aE;have aB:Hid ((d.length+pl.length)*24<=140737488355328/\d.length+pl.length<=(k+1)*m):=by
    have:=aQ.o;rw[KE]at this;unfold Hid;rw[KE];omega
   clear aM W aQ;go_wp2_with (at_builtin;refine Dj rfl (.tmp 12) (.tmp 16) 97 97 rfl 113 i0 _ 3 24 Gy hi hz0 hz1 hz2 rfl (by decide) (.slice ap d.length cp) d.length (Bb d) (by rfl) aL.o _ pl.length _ (by rfl) aD.o aB.o.1 ?_;intro a8 cap8 w8 hA;have aS:=A1 hA;clear hA);go_roundw
   ·have hA:=aS.o;have aI:=hA.Al (S:=λk=>(Value.slice ap d.length cp).ownBlock=some k) λ_ h=>h;refine⟨k+1,d++pl,by go_num,by omega,by simp only[AY];exact aB.o.2,?_,?_,?_,aN.o⟩
    ·(have e:(d++pl).length=d.length+pl.length:=by simp);unfold AX;rw[Jk,e];exact hA.AE
    ·intro g I;rcases hA.CA with h|h
     ·rw[h]at I;exact aH.o g I
     ·rw[h]at I;cases I;exact aG.o.Aj
    ·exact aG.o.Av aI λy hy hlt=>by have:=aH.o y hy;omega
   ·simp[intOf];omega
  ·(obtain rfl:k=l.length:=by omega);rw[Cf]at i4;have aL:=A1 i1;have aH:=A1 i2;have aG:=A1 i3;(have aJ:¬((l.length:Int)<(l.length:Int)):=by omega);have aN:=A1 i4;clear i1 i2 i3 i4 hI;go_wp2;go_ret;exact⟨_,rfl,by rw[<-aN.o];exact aL.o,aH.o,aG.o⟩
end
def A2i(w:ga)(g W L:Nat)(aA aB:Int->ga->Prop)(hb:w.heap[g]?=some (.cells #[.func (Fn.func 118) #[A5 W] #[],.func (Fn.func 150) #[A5 L] #[]] 50 (0,0)))(h1:Ag 118 #[A5 W] w λe w'=>∃n,e=.returned (A0 n)/\aA n w'/\w'.heap[g]?=w.heap[g]?)(h2:∀d,aA 0 d->d.heap[g]?=w.heap[g]?->Ag 150 #[A5 L] d λe w'=>∃n,e=.returned (A0 n)/\aB n w'):
 Ag 117 #[AH g 2 2] w λe w'=>∃n,e=.returned (A0 n)/\((n≠0/\aA n w')\/aB n w'):=by
 have c0:A7 w g 0 (.func (Fn.func 118) #[A5 W] #[]):=by simp[A7,World.cell?,hb]
 have aE:Hid (∀d:ga,d.heap[g]?=w.heap[g]?->A7 d g 1 (.func (Fn.func 150) #[A5 L] #[])):=λd h=>by simp[A7,World.cell?,h,hb]
 have aD:=A1 h1;have aF:=A1 h2
 go_enter func117,ntmps117
 go_wp2;refine Iq 3 ?_;rw[F6];go_wp2_with (fail);refine aD.m ?_;rintro e d⟨n1,rfl,q1,k1⟩;have H:=A1 q1;have c1:=aE.o d k1;have O:=A1 k1;by_cases z:n1=0
 case neg=>
  have hb1:(n1 !=0)=true:=by simpa using z
  go_wp2;go_ret;exact⟨n1,rfl,.inl ⟨z,H.o⟩⟩
 case pos=>
 subst z;have Y:=A1 (aF.o d H.o O.o);go_wp2;rw[F6];go_wp2_with (fail);refine Y.m ?_;rintro e w2⟨n2,rfl,q2⟩;have E:=A1 q2;by_cases I:n2=0
 case neg=>
  have hb2:(n2 !=0)=true:=by simpa using I
  go_wp2;go_ret;exact⟨n2,rfl,.inr (E.o)⟩
 case pos=>
 subst I;go_wp2;rw[F6];go_wp2;go_ret;exact⟨0,rfl,.inr (E.o)⟩
def A2h(w:ga)(g W L:Nat)(aA aB:Int->ga->Prop)(hb:w.heap[g]?=some (.cells #[.func (Fn.func 150) #[A5 W] #[],.func (Fn.func 86) #[A5 L] #[]] 50 (0,0)))(h1:Ag 150 #[A5 W] w λe w'=>∃n,e=.returned (A0 n)/\aA n w'/\w'.heap[g]?=w.heap[g]?)(h2:∀d,aA 0 d->d.heap[g]?=w.heap[g]?->Ag 86 #[A5 L] d λe w'=>∃n,e=.returned (A0 n)/\aB n w'):
 Ag 117 #[AH g 2 2] w λe w'=>∃n,e=.returned (A0 n)/\((n≠0/\aA n w')\/aB n w'):=by
 have c0:A7 w g 0 (.func (Fn.func 150) #[A5 W] #[]):=by simp[A7,World.cell?,hb]
 have aE:Hid (∀d:ga,d.heap[g]?=w.heap[g]?->A7 d g 1 (.func (Fn.func 86) #[A5 L] #[])):=λd h=>by simp[A7,World.cell?,h,hb]
 have aD:=A1 h1;have aF:=A1 h2
 go_enter func117,ntmps117
 go_wp2;refine Iq 3 ?_;rw[F6];go_wp2_with (fail);refine aD.m ?_;rintro e d⟨n1,rfl,q1,k1⟩;have H:=A1 q1;have c1:=aE.o d k1;have O:=A1 k1;by_cases z:n1=0
 case neg=>
  have hb1:(n1 !=0)=true:=by simpa using z
  go_wp2;go_ret;exact⟨n1,rfl,.inl ⟨z,H.o⟩⟩
 case pos=>
 subst z;have Y:=A1 (aF.o d H.o O.o);go_wp2;rw[F6];go_wp2_with (fail);refine Y.m ?_;rintro e w2⟨n2,rfl,q2⟩;have E:=A1 q2;by_cases I:n2=0
 case neg=>
  have hb2:(n2 !=0)=true:=by simpa using I
  go_wp2;go_ret;exact⟨n2,rfl,.inr (E.o)⟩
 case pos=>
 subst I;go_wp2;rw[F6];go_wp2;go_ret;exact⟨0,rfl,.inr (E.o)⟩
def A2j(w:ga)(g p1 p2 W:Nat)(aE aF aG:Int->ga->Prop)(hb:w.heap[g]?=some (.cells #[.func (Fn.func 118) #[A5 p1] #[],.func (Fn.func 119) #[A5 p2] #[],.func (Fn.func 86) #[A5 W] #[]] 50 (0,0)))(h1:Ag 118 #[A5 p1] w λe w'=>∃n,e=.returned (A0 n)/\aE n w'/\w'.heap[g]?=w.heap[g]?)(h2:∀d,aE 0 d->d.heap[g]?=w.heap[g]?->Ag 119 #[A5 p2] d λe w'=>∃n,e=.returned (A0 n)/\aF n w'/\w'.heap[g]?=w.heap[g]?)(h3:∀d,aF 0 d->d.heap[g]?=w.heap[g]?->Ag 86 #[A5 W] d λe w'=>∃n,e=.returned (A0 n)/\aG n w'):
 Ag 117 #[AH g 3 3] w λe w'=>∃n,e=.returned (A0 n)/\((n≠0/\aE n w')\/(n≠0/\aF n w')\/aG n w'):=by
 have c0:A7 w g 0 (.func (Fn.func 118) #[A5 p1] #[]):=by simp[A7,World.cell?,hb]
 have aK:Hid (∀d:ga,d.heap[g]?=w.heap[g]?->A7 d g 1 (.func (Fn.func 119) #[A5 p2] #[])):=λd h=>by simp[A7,World.cell?,h,hb]
 have aH:Hid (∀d:ga,d.heap[g]?=w.heap[g]?->A7 d g 2 (.func (Fn.func 86) #[A5 W] #[])):=λd h=>by simp[A7,World.cell?,h,hb]
 have aJ:=A1 h1;have aL:=A1 h2;have aI:=A1 h3
 go_enter func117,ntmps117
 go_wp2;refine Iq 4 ?_;rw[F6];go_wp2_with (fail);refine aJ.m ?_;rintro e d⟨n1,rfl,q1,k1⟩;have L:=A1 q1;have c1:=aK.o d k1;have aA:=A1 k1;by_cases z:n1=0
 case neg=>
  have hb1:(n1 !=0)=true:=by simpa using z
  go_wp2;go_ret;exact⟨n1,rfl,.inl ⟨z,L.o⟩⟩
 case pos=>
 subst z;have aD:=A1 (aL.o d L.o aA.o);go_wp2;rw[F6];go_wp2_with (fail);refine aD.m ?_;rintro e w2⟨n2,rfl,q2,k2⟩;have H:=A1 q2;have c2:=aH.o w2 k2;have aB:=A1 k2;by_cases E:n2=0
 case neg=>
  have hb2:(n2 !=0)=true:=by simpa using E
  go_wp2;go_ret;exact⟨n2,rfl,.inr (.inl ⟨E,H.o⟩)⟩
 case pos=>
 subst E;have Y:=A1 (aI.o w2 H.o aB.o);go_wp2;rw[F6];go_wp2_with (fail);refine Y.m ?_;rintro e w3⟨n3,rfl,q3⟩;have I:=A1 q3;by_cases O:n3=0
 case neg=>
  have hb3:(n3 !=0)=true:=by simpa using O
  go_wp2;go_ret;exact⟨n3,rfl,.inr (.inr (I.o))⟩
 case pos=>
 subst O;go_wp2;rw[F6];go_wp2;go_ret;exact⟨0,rfl,.inr (.inr (I.o))⟩
end
end Go.Proofs.YtodcnkbblippnaaGreatDoor
