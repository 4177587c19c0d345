/- Part 11 of a proof: walks of the program. -/
import Derived.Shelf.Spec.SearchS
import Derived.Shelf.SlicesE.Clone
import Derived.Test.YtodcnkbblippnaaGreatDoorPk10
namespace Go.Proofs.YtodcnkbblippnaaGreatDoor
set_option maxRecDepth 100000
set_option maxHeartbeats 32000000
set_option linter.defProp false
open Go.Proofs.Tryz
section
open Go.RowKit
attribute [local go_sem ↓] CJ
def OU{w:World}{jb b:Nat}{lv ov:Value}{J:Jn}(h:DC w jb b lv ov J){n:Int}{s:Nat}(z:J.AB=some (n,s)):∃lb,ov=(A5 lb)/\Bd w lb 237 (A5 b) ⟨(Ah n).toArray⟩ s/\s<4294967296:=by
 rcases h.AB with⟨d,_⟩|⟨n',s',lb,d,E,I,H⟩
 ·rw[z]at d;cases d
 ·rw[z]at d;cases d;exact⟨lb,E,I,H⟩
section
variable {w w' w1 w2:World} {b B jb lb pb:Nat} {P:PD} {Ft FT:Nat->Prop} {a c m:Nat} {lv ov:Value} {J:Jn} {n:Int} {s:Nat}
def DC.fj{P':PD}(E:DC w jb b lv (.pointer (some ⟨lb,0,none⟩)) J)(ho:J.AB=some (n,s))(_hlt:∀k,Ft k->k<w.heap.size)(z:∀k,Dj jb lv (.pointer (some ⟨lb,0,none⟩)) k->¬Ft k)(d:∀k,Ft k\/Dj jb lv (.pointer (some ⟨lb,0,none⟩)) k->FT k){s':Nat}(L:s'<4294967296)(hf:Bd w' lb 237 (.pointer (some ⟨b,0,none⟩)) ⟨(Ah n).toArray⟩ s')(hI:Jm w Ft lb w' b P'):
 Aq w FT w' (λw' W=>JD w' jb b {J with AB:=some (n,s')} P' W):=by
 obtain⟨lb',e,h3,_⟩:=OU E ho;cases e;obtain⟨O,Ft',r2,r3,Y⟩:=hI;have n1:lb≠jb:=h3.dI E.Ag;have n2:∀g,lv.ownBlock=some g->g≠lb:=λg I=>h3.cX E.Am I;refine Aq.jd O ?_ ⟨E.Ag.aj O ?_,?_,.inr ⟨n,s',lb,rfl,rfl,hf,L⟩⟩ r2 r3 ?_ ?_ ?_
 ·rintro k _ (h|rfl)
  ·exact d k (.inl h)
  ·exact d _ (.inr (.inr (.inr rfl)))
 ·rintro (h|h)
  ·exact z _ (.inl rfl) h
  ·exact n1 h.symm
 ·exact Az E.Am λg I=>O.Ap g (AI E.Am I) λh=>by
   rcases h with h|h
   ·exact z g (.inr (.inl I)) h
   ·exact n2 g I h
 ·exact λk H hx=>by
   rcases Y k hx with h|h
   ·exact z k H h
   ·have:=E.lt H;omega
 ·exact λk H=>(Y k H).imp (λh=>d k (.inl h)) id
 ·exact λk H=>.inl (d k (.inr H))
def A03(w:World)(p:Pu)(h:JD w jb b J P FT)(hp:Bh p)(hn:J.AB=none->CM (J.Aa+1)/\AE (J.Aa+1)/\AE J.puts)(bK:J.Am.length<=1073741824)(hL:Lets B w)(hF:Fit P a c m)(hl:CU (a+1) (c+1) (m+33)):
 Af 148 #[A5 jb,Dv p] w (Aj (.tuple #[.bool (J.ad P p).1,A0 (J.ad P p).2.1]) λw'=>Aq w FT w' (λw' H=>JD w' jb b (J.ad P p).2.2.1 (J.ad P p).2.2.2 H)):=by
 obtain⟨E,z,d⟩:=p;unfold Dv;dsimp only
 obtain⟨L,I,O,aD,bI,aL,aM,aG⟩:=h;have a8:CU (a+1) (c+1) (m+12):=⟨hl.a,hl.c,by have:=hl.m;omega⟩;have bJ:C8 (w.aC #[A0 E,A0 z,A0 d] 113) w.heap.size E z d:=BO w _;have k0:A3 Ab w (w.aC #[A0 E,A0 z,A0 d] 113):=(A3.I _ w).ai _;have sz:w.heap.size<(w.aC #[A0 E,A0 z,A0 d] 113).heap.size:=by simp
 have hex:JD w jb b J P (λk=>O k\/Dj jb L I k):=⟨L,I,O,aD,bI,aL,aM,λ_ h=>h⟩;have aN:∀k,(O k\/Dj jb L I k)->k<w.heap.size:=λk hk=>hk.elim (aL k) λh=>aD.lt h;have h1:JD (w.aC #[A0 E,A0 z,A0 d] 113) jb b J P (λk=>O k\/Dj jb L I k):=hex.aP (k0.ay aN λ_ _ h=>h) k0.Ao;have bB:=hL.aM k0
 have AD:Hid (∀(w1:World) (aA:Jn) (aB:PD) (Y:Nat->Prop) (n:Int) (s:Nat),A3 (λk=>O k\/Dj jb L I k) (w.aC #[A0 E,A0 z,A0 d] 113) w1->(∀k,Y k->(O k\/Dj jb L I k)\/(w.aC #[A0 E,A0 z,A0 d] 113).heap.size<=k)->JD w1 jb b aA aB Y->aA.AB=some (n,s)->Fit aB (a+1) (c+1) (m+12)->
  ∃lb,A7 w1 jb 4 (A5 lb)/\C8 w1 w.heap.size E z d/\Af 191 #[A5 lb,.agg #[A0 E,A0 z,A0 d]] w1.drew (Aj (.tuple #[.bool (aA.aw aB (E,z,d)).1,A0 (aA.aw aB (E,z,d)).2.1]) λw'=>
   w'.cell? (Ac jb 4)=some (A5 lb)/\C8 w' w.heap.size E z d/\Aq w FT w' (λw' H=>JD w' jb b (aA.aw aB (E,z,d)).2.2.1 (aA.aw aB (E,z,d)).2.2.2 H))):=λw1 aA aB Y n s aV aQ bH aR bF=>by
  obtain⟨lv,ov,Ft,hJ,hD,aO,aE,aF⟩:=bH;obtain⟨lb,rfl,h3,h4⟩:=OU hJ aR;have aJ:=bJ.aj aV (λhx=>by have:=aN _ hx;omega);have a0:¬Y w.heap.size:=λhx=>by
   rcases aQ _ hx with h|h
   ·have:=aN _ h;omega
   ·omega
  have kd:A3 Ab w1 w1.drew:=(A3.I _ w1).af;have a3:=hJ.au kd;have aK:∀k,Ft k->k<w1.drew.heap.size:=aO;refine⟨lb,hJ.Ag.c4,aJ,(A3V (E,z,d) _ s (h3.aj kd (λh=>h)) h4 (B3.ay hD aO kd) aK (λhx=>aE _ (.inr (.inr rfl)) hx) hp bF ⟨hl.a,hl.c,by have:=hl.m;omega⟩).mono ?_⟩;rintro e w'⟨rfl,hf,hI⟩;have he:aA.aw aB (E,z,d)=((aB.ad (A9 (Ah n)) s (Bb E z d)).1,(aB.ad (A9 (Ah n)) s (Bb E z d)).2.1,{aA with AB:=some (n,AW s (Bb E z d))},(aB.ad (A9 (Ah n)) s (Bb E z d)).2.2):=by unfold Jn.aw;rw[aR]
  rw[he];have bC:=DC.fj a3 aR aK aE aF (Jq s (Bb E z d) h4) hf hI
  have bA:CK w' jb b lv aA.Aa aA.puts (A5 lb):=a3.Ag.aj hI.1 (by
   rintro (h|h)
   ·exact aE _ (.inl rfl) h
   ·exact h3.dI hJ.Ag h.symm)
  refine⟨rfl,bA.c4,aJ.af.aj hI.1 (by
   rintro (h|h)
   ·exact a0 (aF _ (.inl h))
   ·exact a0 (aF _ (.inr (.inr (.inr (by rw[h])))))),?_⟩
  have hall:Aq (w.aC #[A0 E,A0 z,A0 d] 113) (λk=>O k\/Dj jb L I k) w' (λw' H=>JD w' jb b {aA with AB:=some (n,AW s (Bb E z d))} (aB.ad (A9 (Ah n)) s (Bb E z d)).2.2 H):=by
   obtain⟨q1,a7,q2,q3,q4⟩:=bC.a6 kd;exact⟨aV.Aw q1 λx hx aO=>(aQ x hx).resolve_right (by omega),a7,q2,q3,λk hk=>(q4 k hk).elim (λh=>aQ k h) λh=>.inr (AR aV.Ao h)⟩
  exact(hall.a6 k0).aW aG
 by_cases ho:J.AB=none
 case pos=>
  have aX:I=.pointer none:=by
   rcases aD.AB with⟨_,h⟩|⟨n,s,lb,h,_⟩
   ·exact h
   ·rw[ho]at h;cases h
  obtain⟨n1,n2,n3⟩:=hn ho;have a4:=A1 (A3h _ h1 ho n1 n2 n3 bK bB hF a8);have c4:=(aD.au k0).Ag.c4;rw[aX]at c4;have aY:Hid (J.ad P (E,z,d)=if (J.ax P).1≠0 then (false,(J.ax P).1,(J.ax P).2.1,(J.ax P).2.2) else (J.ax P).2.1.aw (J.ax P).2.2 (E,z,d)):=by unfold Hid Jn.ad;rw[Ai ho]
  have aT:Hid (Fit (J.ax P).2.2 (a+1) (c+1) (m+12)):=by
   (have hp:(AT (AH (Ah (J.Aa+1))) (AS J.puts)).length=12:=by simp[AT,Hh,CP]);have a2:=hF.ak (A9 (Ah (J.Aa+1)));have aP:=a2.an (A9 (Ah (J.Aa+1))) (AT (AH (Ah (J.Aa+1))) (AS J.puts));rw[hp]at aP;unfold Hid Jn.ax;split
   ·exact a2.aa (As _) (As _) (by omega)
   ·dsimp only
    split
    ·exact aP
    ·exact aP
  have bD:Hid ((J.ax P).1=0->∃n s,(J.ax P).2.1.AB=some (n,s)):=λh0=>by
   unfold Jn.ax at h0 ⊢;split
   ·rename_i hc;rw[Ai hc]at h0;exact absurd h0 hc
   ·rename_i hc;rw[Ae hc]at h0;dsimp only at h0 ⊢;split
    ·rename_i hd;rw[Ai hd]at h0;exact absurd h0 hd
    ·exact⟨_,_,rfl⟩
  have bG:Hid (∀wx bE bL,Aq (w.aC #[A0 E,A0 z,A0 d] 113) (λk=>O k\/Dj jb L I k) wx (λw' H=>JD w' jb b bE bL H)->Aq w FT wx (λw' H=>JD w' jb b bE bL H)):=λwx bE bL hx=>(hx.a6 k0).aW aG
  generalize hR:J.ad P (E,z,d)=R at aY ⊢;generalize hG:J.ax P=G at a4 aY aT bD;obtain⟨a9,a6,a5⟩:=G;dsimp only at a4 aY aT bD;by_cases hg:a9=0
  case neg=>
   (have aH:R=(false,a9,a6,a5):=by rw[aY.o,Ai hg]);subst aH;(have hgb:(a9 !=0)=true:=by simpa using hg)
   go_enter func148,ntmps148
   go_wp2_with (go_at_call 190;refine a4.m ?_;rintro e w2⟨rfl,hI⟩;have aZ:=A1 (bG.o _ _ _ hI));go_ret2;exact⟨rfl,aZ.o⟩
  case pos=>
   subst hg;(have aH:R=a6.aw a5 (E,z,d):=by rw[aY.o,Ae (by simp)]);obtain⟨n,s,aI⟩:=bD.o rfl
   have a1:Hid (∀w2,Aq (w.aC #[A0 E,A0 z,A0 d] 113) (λk=>O k\/Dj jb L I k) w2 (λw' H=>JD w' jb b a6 a5 H)->∃lb,A7 w2 jb 4 (A5 lb)/\C8 w2 w.heap.size E z d/\Af 191 #[A5 lb,.agg #[A0 E,A0 z,A0 d]] w2.drew (Aj (.tuple #[.bool R.1,A0 R.2.1]) λw'=>
    w'.cell? (Ac jb 4)=some (A5 lb)/\C8 w' w.heap.size E z d/\Aq w FT w' (λw' H=>JD w' jb b R.2.2.1 R.2.2.2 H))):=λw2 hI=>by
    obtain⟨q1,Y,q2,q3,q4⟩:=hI;rw[aH];exact AD.o w2 a6 a5 Y n s q1 q4 q2 aI aT.o
   obtain⟨bO,bN,bM,bP⟩:=R;dsimp only at a1
   go_enter func148,ntmps148
   go_wp2_with (fail);refine a4.m ?_;rintro e w2⟨rfl,hI⟩;obtain⟨lb,aU,W,aW⟩:=a1.o w2 hI;have aS:=A1 aW;have d4:A7 w2.drew jb 4 (A5 lb):=aU;have d0:=W.af.c0;have d1:=W.af.c1;have d2:=W.af.c2;go_wp2;refine BR (λw'=>A7 w' jb 4 (A5 lb)/\A7 w' w.heap.size 0 (A0 E)/\A7 w' w.heap.size 1 (A0 z)/\A7 w' w.heap.size 2 (A0 d)) 8
    (Br [0,1,2,3,4,5,6,7] [5]) ⟨d4,d0,d1,d2⟩ ?_
   iterate 5 (refine Bf ?_;(try simp only[An]))
   refine Bn λK hK=>?_;go_simp;refine aS.m ?_;rintro e w3⟨rfl,e4,eb,hI⟩;refine hK _ _ ⟨e4,eb.c0,eb.c1,eb.c2⟩ (λhS=>?_);have aZ:=A1 hI
   (try simp only[An])
   iterate 2 (refine Bf ?_;(try simp only[An]))
   refine Bl ?_;simp only[BK,BJ];go_wp2;go_ret2;exact⟨rfl,aZ.o⟩
 case neg=>
  obtain⟨⟨n,s⟩,aI⟩:∃x,J.AB=some x:=Ls.1 ho;obtain⟨lb0,aX,-,-⟩:=OU aD aI;have aH:J.ad P (E,z,d)=J.aw P (E,z,d):=by unfold Jn.ad;rw[Ae ho]
  obtain⟨lb,aU,W,aW⟩:=AD.o _ J P _ n s (A3.I _ _) (λk hk=>.inl hk) h1 aI (hF.aa (by omega) (by omega) (by omega));rw[<-aH]at aW;generalize hR:J.ad P (E,z,d)=R at aW ⊢;obtain⟨bO,bN,bM,bP⟩:=R;dsimp only at aW ⊢;have aS:=A1 aW;have d4:(w.aC #[A0 E,A0 z,A0 d] 113).drew.cell? (Ac jb 4)=some (A5 lb):=aU;have d0:=W.af.c0;have d1:=W.af.c1;have d2:=W.af.c2
  go_enter func148,ntmps148
  go_wp2;refine BR (λw'=>A7 w' jb 4 (A5 lb)/\A7 w' w.heap.size 0 (A0 E)/\A7 w' w.heap.size 1 (A0 z)/\A7 w' w.heap.size 2 (A0 d)) 8
   (Br [0,1,2,3,4,5,6,7] [5]) ⟨d4,d0,d1,d2⟩ ?_
  iterate 5 (refine Bf ?_;(try simp only[An]))
  refine Bn λK hK=>?_;go_simp;refine aS.m ?_;rintro e w3⟨rfl,e4,eb,hI⟩;refine hK _ _ ⟨e4,eb.c0,eb.c1,eb.c2⟩ (λhS=>?_);have aZ:=A1 hI
  (try simp only[An])
  iterate 2 (refine Bf ?_;(try simp only[An]))
  refine Bl ?_;simp only[BK,BJ];go_wp2;go_ret2;exact⟨rfl,aZ.o⟩
end
end
section
open Go.RowKit
def D4(w:World)(ab b xb jb:Nat)(last:Int)(ov:Value):Prop:=w.heap[ab]?=some (.cells #[.pointer (some ⟨b,0,none⟩),.pointer (some ⟨xb,0,none⟩),.pointer (some ⟨jb,0,none⟩),.int .i64 last,ov] 150 (0,0))
section
variable {w w':World} {ab b xb jb:Nat} {last:Int} {ov:Value}
def D4.c0(h:D4 w ab b xb jb last ov):A7 w ab 0 (A5 b):=by unfold D4 at h;simp[A7,World.cell?,h]
def D4.c1(h:D4 w ab b xb jb last ov):A7 w ab 1 (A5 xb):=by unfold D4 at h;simp[A7,World.cell?,h]
def D4.c2(h:D4 w ab b xb jb last ov):A7 w ab 2 (A5 jb):=by unfold D4 at h;simp[A7,World.cell?,h]
def D4.c3(h:D4 w ab b xb jb last ov):A7 w ab 3 (A0 last):=by unfold D4 at h;simp[A7,World.cell?,h]
def D4.c4(h:D4 w ab b xb jb last ov):A7 w ab 4 ov:=by unfold D4 at h;simp[A7,World.cell?,h]
def D4.fz(h:D4 w ab b xb jb last ov)(o:Nat):w.frozen? (Ac ab o)=false:=by unfold D4 at h;simp[World.frozen?,h]
def D4.lt(h:D4 w ab b xb jb last ov):ab<w.heap.size:=Bz h
def D4.s3(h:D4 w ab b xb jb last ov)(x:Int):D4 (w.setCell (Ac ab 3) (A0 x)) ab b xb jb x ov:=Ct h
def D4.s4(h:D4 w ab b xb jb last ov)(x:Value):D4 (w.setCell (Ac ab 4) x) ab b xb jb last x:=Ct h
def D4.af(h:D4 w ab b xb jb last ov):D4 w.drew ab b xb jb last ov:=by unfold D4 at h ⊢;exact h
def D4.aj{S:Nat->Prop}(h:D4 w ab b xb jb last ov)(d:A3 S w w')(z:¬S ab):D4 w' ab b xb jb last ov:=d.aj h z
end
def Ff(ab xb jb:Nat)(sv ov lv jo:Value)(k:Nat):Prop:=k=ab\/k=xb\/sv.ownBlock=some k\/ov.ownBlock=some k\/Dj jb lv jo k
structure Cn (w:World) (ab b xb jb:Nat) (sv ov lv jo:Value) (A:Ar) (P:PD) (Ft:Nat->Prop):Prop where
 Ag:D4 w ab b xb jb A.Aa ov
 ix:C5 w xb 162 b AL (AH AL) A.ix.B8 sv
 segs:D7 w sv A.ix.segs
 AQ:GG w ov A.AQ
 jn:DC w jb b lv jo A.j
 dk:Bk w b P Ft
 lt:∀k,Ft k->k<w.heap.size
 Df:∀k,Ff ab xb jb sv ov lv jo k->¬Ft k
 Fi:∀g,sv.ownBlock=some g->g≠ab/\g≠xb/\¬Dj jb lv jo g
 G9:∀g,ov.ownBlock=some g->g≠ab/\g≠xb/\¬Dj jb lv jo g
 FJ:∀k,Dj jb lv jo k->k≠ab/\k≠xb
def AD(w:World)(ab b:Nat)(A:Ar)(P:PD)(FT:Nat->Prop):Prop:=
 ∃xb jb sv ov lv jo Ft,Cn w ab b xb jb sv ov lv jo A P Ft/\∀k,Ft k\/Ff ab xb jb sv ov lv jo k->FT k
section
variable {w w':World} {ab b xb jb:Nat} {sv ov lv jo:Value} {A:Ar} {P P':PD} {Ft FT:Nat->Prop}
def Cn.bI(h:Cn w ab b xb jb sv ov lv jo A P Ft){k:Nat}(d:Ff ab xb jb sv ov lv jo k):k<w.heap.size:=by
 rcases d with rfl|rfl|d|d|d
 ·exact h.Ag.lt
 ·exact h.ix.lt
 ·exact h.segs.lt d
 ·exact h.AQ.lt d
 ·exact h.jn.lt d
def Cn.bV(h:Cn w ab b xb jb sv ov lv jo A P Ft){k:Nat}(d:Ft k\/Ff ab xb jb sv ov lv jo k):k<w.heap.size:=d.elim (h.lt k) h.bI
def Cn.ne(h:Cn w ab b xb jb sv ov lv jo A P Ft):ab≠xb:=BT h.Ag h.ix (by decide)
def Cn.aP(h:Cn w ab b xb jb sv ov lv jo A P Ft)(d:G4 (λk=>Ft k\/Ff ab xb jb sv ov lv jo k) w w')(H:w.heap.size<=w'.heap.size):Cn w' ab b xb jb sv ov lv jo A P Ft:=
 ⟨(d ab (.inr (.inl rfl))).trans h.Ag,(d xb (.inr (.inr (.inl rfl)))).trans h.ix,h.segs.aP λg E=>d g (.inr (.inr (.inr (.inl E)))),h.AQ.aP λg E=>d g (.inr (.inr (.inr (.inr (.inl E))))),
   h.jn.aP λk z=>d k (.inr (.inr (.inr (.inr (.inr z))))),B3.aP h.dk λk z=>d k (.inl z),λk z=>Bq (h.lt k z) H,h.Df,h.Fi,h.G9,h.FJ⟩
def Cn.au(h:Cn w ab b xb jb sv ov lv jo A P Ft)(d:A3 Ab w w'):Cn w' ab b xb jb sv ov lv jo A P Ft:=h.aP (d.ay (λ_ z=>h.bV z) λ_ _ h=>h) d.Ao
def Cn.b2(h:Cn w ab b xb jb sv ov lv jo A P Ft)(W:Aq w Ft w' (λw' d=>Bk w' b P' d)):Aq w Ft w' (λw' d=>Cn w' ab b xb jb sv ov lv jo A P' d):=by
 obtain⟨O,d,Y,L,I⟩:=W;have E:=O.ay (λ_ z=>h.bI z) h.Df
 exact⟨O,d,⟨(E ab (.inl rfl)).trans h.Ag,(E xb (.inr (.inl rfl))).trans h.ix,h.segs.aP λg H=>E g (.inr (.inr (.inl H))),h.AQ.aP λg H=>E g (.inr (.inr (.inr (.inl H)))),
  h.jn.aP λk z=>E k (.inr (.inr (.inr (.inr z)))),Y,L,λk z hx=>(I k hx).elim (h.Df k z) λh'=>by have:=h.bI z;omega,h.Fi,h.G9,h.FJ⟩,L,I⟩
def Cn.bN{S:Nat->Prop}{E L:Nat}{z H lv' I:Value}{A':Ar}{d:Nat->Prop}(Y:Cn w' ab b E L z H lv' I A' P' d)(hc:A3 S w w')(hS:∀k,k<w.heap.size->S k->FT k)(h1:∀k,d k->FT k\/w.heap.size<=k)(h2:∀k,Ff ab E L z H lv' I k->FT k\/w.heap.size<=k):
 Aq w FT w' (λw' O=>AD w' ab b A' P' O):=
 ⟨hc.aa hS,λk=>d k\/Ff ab E L z H lv' I k,⟨E,L,z,H,lv',I,d,Y,λ_ h=>h⟩,λ_ W=>Y.bV W,λk W=>W.elim (h1 k) (h2 k)⟩
def Cn.cE(_h:Cn w ab b xb jb sv ov lv jo A P Ft)(d:∀k,Ft k\/Ff ab xb jb sv ov lv jo k->FT k)(I:Aq w Ft w' (λw' E=>Cn w' ab b xb jb sv ov lv jo A P' E)):Aq w FT w' (λw' H=>AD w' ab b A P' H):=by
 obtain⟨W,E,L,h3,O⟩:=I;exact L.bN W (λk _ z=>d k (.inl z)) (λk z=>(O k z).imp (λh=>d k (.inl h)) id) λk z=>.inl (d k (.inr z))
def AD.aP(h:AD w ab b A P FT)(H:G4 FT w w')(I:w.heap.size<=w'.heap.size):AD w' ab b A P FT:=by
 obtain⟨xb,jb,sv,ov,lv,jo,Ft,E,d⟩:=h;exact⟨xb,jb,sv,ov,lv,jo,Ft,E.aP (H.aa λk z=>d k z) I,d⟩
def AD.au(h:AD w ab b A P FT)(E:A3 Ab w w'):AD w' ab b A P FT:=by
 obtain⟨xb,jb,sv,ov,lv,jo,Ft,z,d⟩:=h;exact⟨xb,jb,sv,ov,lv,jo,Ft,z.au E,d⟩
end
def Jc(w:World)(h b z:Nat)(x:Int×List Pu):Prop:=∃d,C5 w z 182 b (AJ x.1) (AH (AJ x.1)) x.1 d/\AZ w d x.2/\h<=z/\∀g,d.ownBlock=some g->h<=g
def Gy(d:List Nat):List Value:=d.map λg=>(A5 g)
def Xv(d:List Nat):∀u∈Gy d,u.oneCell'=true:=by
 intro u hu;simp[Gy]at hu;obtain⟨x,_,rfl⟩:=hu;rfl
def Gr(w:World)(h b:Nat)(v:Value)(l:List (Int×List Pu)):Prop:=
 ∃d:List Nat,d.length=l.length/\w.ownsRow 0 179 1 v l.length (Gy d)/\(∀g,v.ownBlock=some g->h<=g)/\∀k (E:k<d.length) (z:k<l.length),Jc w h b (d[k]'E) (l[k]'z)
def Jc.au{w w':World}{d b E:Nat}{x:Int×List Pu}(h:Jc w d b E x)(H:A3 Ab w w'):Jc w' d b E x:=by
 obtain⟨Y,L,z,O,I⟩:=h;exact⟨Y,L.aj H (λh=>h),Az z λg W=>H.Ap g (AI z W) (λh=>h),O,I⟩
def Gr.au{w w':World}{z b:Nat}{v:Value}{l:List (Int×List Pu)}(h:Gr w z b v l)(H:A3 Ab w w'):Gr w' z b v l:=by
 obtain⟨d,O,E,W,I⟩:=h;exact⟨d,O,Az E λg Y=>H.Ap g (AI E Y) (λh=>h),W,λk L q2=>(I k L q2).au H⟩
def Tryz.eW:(Tryz.prog.info? 179).map (λi=>(i.zero,i.size,i.bytes))=some (some (.pointer none),1,8):=by kernel_rfl
def XD:∃d,Tryz.prog.info? 179=some d/\d.zero=some (.pointer none)/\d.size=1/\d.bytes=8:=by
 have h:=Tryz.eW;cases hx:Tryz.prog.info? 179 with
 | none=>rw[hx]at h;cases h
 | some i=>rw[hx]at h;simp at h;exact⟨i,rfl,h.1,h.2.1,h.2.2⟩
def Tryz.fC:Go.Shelf.Ren:=⟨fun|26=>138|33=>179|34=>180|38=>234|n=>n,fun|0=>0|3=>3|4=>4|9=>9|24=>121|40=>232|n=>n,fun|n=>n⟩
def Tryz.eN:Go.Proofs.Lays2.n26 Tryz.prog Tryz.fC:={
 mixed:=by kernel_rfl
 f26:=func138.trans (EK some (by kernel_rfl))
 f33:=func179.trans (EK some (by kernel_rfl))
 f34:=func180.trans (EK some (by kernel_rfl))
 f38:=func234.trans (EK some (by kernel_rfl))
 t0:=underlying0
 a0:=isAgg0
 z0:=sizeOf0
 v0:=zeroValue0
 t3:=underlying3
 a3:=isAgg3
 z3:=sizeOf3
 v3:=zeroValue3
 t4:=underlying4
 a4:=isAgg4
 z4:=sizeOf4
 v4:=zeroValue4
 t9:=underlying9
 a9:=isAgg9
 z9:=sizeOf9
 v9:=zeroValue9
 t24:=underlying121
 a24:=isAgg121
 z24:=sizeOf121
 v24:=zeroValue121
 t40:=underlying232
 a40:=isAgg232
 z40:=sizeOf232
 v40:=zeroValue232}
def Tryz.fL:Go.Shelf.Ren:=⟨fun|41=>153|n=>n,fun|22=>97|23=>113|4=>4|n=>n,fun|n=>n⟩
def Tryz.eL:Go.Proofs.SlLaysE0.n41 Tryz.prog Tryz.fL:={
 mixed:=by kernel_rfl
 f41:=⟨Tryz.f153.name,by decide,func153.trans (EK some (by kernel_rfl))⟩
 t4:=underlying4
 a4:=isAgg4
 z4:=sizeOf4
 v4:=zeroValue4
 t22:=underlying97
 a22:=isAgg97
 z22:=sizeOf97
 v22:=zeroValue97}
def UI(a b:List UInt8):Op.bytesLess a b=decide (a<b):=by
 induction a generalizing b with
 | nil=>cases b with
  | nil=>simp[Op.bytesLess]
  | cons y r=>simp[Op.bytesLess]
 | cons x a ih=>
  cases b with
  | nil=>simp[Op.bytesLess]
  | cons y r=>
   unfold Op.bytesLess;rw[ih r];by_cases h:x<y
   ·simp[h,List.cons_lt_cons_iff]
   ·by_cases d:x=y
    ·subst d;simp
    ·(have:¬(x::a<y::r):=by rw[Jj];simp[h,d]);simp[h,d,this]
def Tq(a b:ByteArray):less a b=true↔a.data.toList<b.data.toList:=by
 unfold less;rw[UI,Kl,Kl,Dn]
def A1p(l:List ByteArray)(x:ByteArray):∀k,k<=l.length->(∀i (z:i<l.length),Ex l x k<=i->i<k->less x (l[i]'z)=true)/\∀(_:0<Ex l x k) (z:Ex l x k-1<l.length),less x (l[Ex l x k-1]'z)=false:=by
 intro k
 induction k with
 | zero=>intro _;exact⟨λi z E H=>by omega,λh=>by simp[Ex]at h⟩
 | succ k ih=>
  intro hk;have d:k<l.length:=by omega
  obtain⟨I,L⟩:=ih (by omega);by_cases h:less x (l[k]'d)=true
  ·rw[TO l x k d h];refine⟨λi z E H=>?_,L⟩;by_cases e:i=k
   ·subst e;exact h
   ·exact I i z E (by omega)
  ·rw[TN l x k d (by simpa using h)];exact⟨λi z E H=>by omega,λ_ _=>by simpa using h⟩
def Lo(l:List ByteArray):Prop:=l.Pairwise λa b=>a.data.toList<b.data.toList
def A1h{l:List ByteArray}(h:Lo l){x:ByteArray}(hx:x∉l):Lo (ins l x):=by
 obtain⟨h1,h2⟩:=A1p l x l.length (As _);have aA:=TP l x l.length;unfold ins;generalize Ex l x l.length=k at h1 h2 aA;have hp:Lo (l.take k++l.drop k):=by rw[DM];exact h
 have E:=Es.1 hp;refine Es.2 ⟨E.1,Dc.2 ⟨λy hy=>?_,E.2.1⟩,λa ha b Y=>?_⟩
 ·obtain⟨i,hi,rfl⟩:=DW hy;rw[Cw]at hi;rw[List.getElem_drop];exact(Tq _ _).1 (h1 (k+i) (by omega) (by omega) (by omega))
 ·rcases BQ.1 Y with rfl|Y
  ·obtain⟨i,hi,rfl⟩:=DW ha;rw[BW]at hi;(have z:k-1<l.length:=by omega);have L:=h2 (by omega) z;have d:(l[k-1]'z).data.toList<b.data.toList:=by
    (have O:¬b.data.toList<(l[k-1]'z).data.toList:=λW=>by rw[(Tq _ _).2 W]at L;cases L);have I:=List.not_lt.1 O;by_cases H:(l[k-1]'z).data.toList<b.data.toList
    ·exact H
    ·refine absurd ?_ hx;have e:=List.le_antisymm I (List.not_lt.1 H);(have:l[k-1]'z=b:=by rw[<-Ge (l[k-1]'z),<-Ge b,e]);rw[<-this];exact BY _
   rw[Vy];by_cases e:i=k-1
   ·subst e;exact d
   ·have:=Ke.1 h i (k-1) (by omega) z (by omega);exact List.lt_trans this d
  ·exact E.2.2 a ha b Y
def A2b(es:List AO)(I:(es.map (·.1)).Nodup):∀k,k<=es.length->Lo (EJ es k):=by
 intro k
 induction k with
 | zero=>intro _;simp[EJ,Lo]
 | succ k ih=>
  intro hk;have d:k<es.length:=by omega
  rw[MH es k d];refine A1h (ih (by omega)) λz=>?_;have:=(Ui es k (by omega)).mem_iff.1 z;obtain⟨e,E,h⟩:=Cr.1 this;obtain⟨i,H,rfl⟩:=DW E;rw[BW]at H;rw[Vy]at h;have:i=k:=JI I (by simp;omega) (by simpa using d) (by simpa using h);omega
def Cm.up{P:PD}{N R:Nat}(h:Cm P N R):P.Ay.Pairwise (· < ·):=by
 unfold PD.Ay;rw[LA];exact A2b P.D.A4 h.Ce _ (As _)
def GB:Nat->Nat->Bs
 | 0,_=>[]
 | k+1,u=>GB k (u/10)++[UInt8.ofNat (48+u % 10)]
def Mh:∀k u,(GB k u).length=k
 | 0,_=>rfl
 | k+1,u=>by simp[GB,Mh k]
def Sj:∀k,GB k 0=List.replicate k 48
 | 0=>rfl
 | k+1=>by
  unfold GB;rw[Nat.zero_div,Sj k,List.replicate_succ'];rfl
def Sk:∀k u,u<10 ^ (k+1)->List.replicate (k+1-Lib.nDigits u) 48++Lib.decDigits u=GB (k+1) u
 | 0,u,h=>by
  have d:u<10:=by simpa using h
  rw[Q6 d,Lib.decDigits,Pp d];simp[GB,Nat.mod_eq_of_lt d]
 | k+1,u,h=>by
  by_cases d:u<10
  ·rw[Q6 d,Lib.decDigits,Pp d];unfold GB;rw[Nat.div_eq_of_lt d,Sj,Nat.mod_eq_of_lt d];rfl
  ·have z:=Sk k (u/10) (by rw[K9]at h;omega);rw[VL d,Lib.decDigits,Pq d,<-Cc];(have e:k+1+1-(Lib.nDigits (u/10)+1)=k+1-Lib.nDigits (u/10):=by omega);rw[e,z]
   conv=>rhs;unfold GB
def Ti:∀ {a b x y:Bs},a.length=b.length->a<b->a++x<b++y
 | [],b,x,y,hl,h=>by
  have:b=[]:=GY.1 hl.symm;subst this;exact absurd h (LF _)
 | c::a,[],x,y,hl,h=>by simp at hl
 | c::a,d::b,x,y,hl,h=>by
  rw[Fz,Fz,Jj];rw[Jj]at h;rcases h with h|⟨E,z⟩
  ·exact .inl h
  ·exact .inr ⟨E,Ti (by simpa using hl) z⟩
def Th:∀ {a x y:Bs},x<y->a++x<a++y
 | [],x,y,h=>h
 | c::a,x,y,h=>by rw[Fz,Fz,Jj];exact .inr ⟨rfl,Th h⟩
def Oq:∀k {u v:Nat},v<10 ^ k->u<v->GB k u<GB k v
 | 0,u,v,hv,h=>by simp at hv;omega
 | k+1,u,v,hv,h=>by
  have d:v/10<10 ^ k:=by rw[K9]at hv;omega
  unfold GB;by_cases z:u/10<v/10
  ·exact Ti (by rw[Mh,Mh]) (Oq k d z)
  ·(have e:u/10=v/10:=by omega);rw[e];refine Th ?_;rw[Jj];refine .inl ?_;rw[UInt8.lt_iff_toNat_lt];simp;omega
def KQ{n:Int}(h0:1<=n)(h1:n<=4611686018427387904):Lib.repeatL [48] (19-(Lib.itoa n).length)++Lib.itoa n=GB 19 n.toNat:=by
 rw[Mr (by omega),VM,RB];exact Sk 18 n.toNat (by (have:(10:Nat) ^ 19=10000000000000000000:=by decide);omega)
def ZB{a b:Int}(d:isNum a=true)(z:isNum b=true)(h:a<b):Ah a<Ah b:=by
 unfold isNum at d z;simp at d z;rw[IU,IU,KQ d.1 d.2,KQ z.1 z.2,Jj];exact .inr ⟨rfl,Oq 19 (by (have:(10:Nat) ^ 19=10000000000000000000:=by decide);omega) (by omega)⟩
def Zx{a b:Int}(d:isNum a=true)(z:isNum b=true)(h:a<b):AJ a<AJ b:=by
 unfold isNum at d z;simp at d z;rw[Ib,Ib,KQ d.1 d.2,KQ z.1 z.2,Jj];exact .inr ⟨rfl,Oq 19 (by (have:(10:Nat) ^ 19=10000000000000000000:=by decide);omega) (by omega)⟩
def ZQ{f:Int->Bs}(z:∀a b,isNum a=true->isNum b=true->a<b->f a<f b){a b:Int}(E:isNum a=true)(H:isNum b=true)(h:f a<f b):a<b:=by
 rcases Int.lt_trichotomy a b with d|d|d
 ·exact d
 ·subst d;exact absurd h (LF _)
 ·exact absurd (List.lt_trans h (z b a H E d)) (LF _)
def OA{f:Int->Bs}(H:∀a b,isNum a=true->isNum b=true->a<b->f a<f b)(g:Bs->Option Int)(z:∀nm n,g nm=some n->isNum n=true/\f n=nm):∀ {l:List Bs},l.Pairwise (· < ·)->(l.filterMap g).Pairwise (· < ·)
 | [],_=>by simp
 | nm::r,h=>by
  have E:=Dc.1 h;have I:=OA H g z E.2;cases hx:g nm with
  | none=>rw[List.filterMap_cons_none hx];exact I
  | some n=>
   rw[List.filterMap_cons_some hx];refine Dc.2 ⟨λm hm=>?_,I⟩;obtain⟨d,O,Y⟩:=LD.1 hm;obtain⟨a1,a2⟩:=z nm n hx;obtain⟨L,W⟩:=z d m Y;exact ZQ H a1 L (by rw[a2,W];exact E.1 d O)
def ZS{l:List Bs}(d:Int)(h:l.Pairwise (· < ·)):(BS d l).Pairwise (· < ·):=by
 unfold BS;refine OA (f:=Ah) (λa b=>ZB) _ (λnm n z=>?_) h;by_cases E:(Bg nm).1=1/\d<=(Bg nm).2
 ·rw[Ai E]at z;simp at z;subst z;have:=OI E.1;exact⟨by unfold isNum;simp;exact this.1,this.2⟩
 ·rw[Ae E]at z;cases z
def XF{l:List Bs}(h:l.Pairwise (· < ·)):(l.filterMap λnm=>if (Bg nm).1=2 then some (Bg nm).2 else none).Pairwise (· < ·):=by
 refine OA (f:=AJ) (λa b=>Zx) _ (λnm n d=>?_) h;by_cases z:(Bg nm).1=2
 ·rw[Ai z]at d;simp at d;subst d;have:=OG z;exact⟨by unfold isNum;simp;exact this.1,this.2⟩
 ·rw[Ae z]at d;cases d
def O8{l:List Int}(h:l.Pairwise (· < ·)){n:Int}(z:n∈l)(d:Int):n<=l.getLastD d:=by
 have E:l≠[]:=λe=>by subst e;cases z
 obtain⟨m,x,rfl⟩:∃m x,l=m++[x]:=⟨l.dropLast,l.getLast E,(Nl E).symm⟩;have e:(m++[x]).getLastD d=x:=by simp
 rw[e];rcases AV.1 z with z|z
 ·exact Int.le_of_lt ((Es.1 h).2.2 n z x (by simp))
 ·simp at z;omega
def Ru:∀ {l l':List Int},l.Pairwise (· < ·)->l'.Pairwise (· < ·)->(∀x,x∈l↔x∈l')->l=l'
 | [],[],_,_,_=>rfl
 | [],y::r,_,_,h=>by have:=(h y).2 (BC ..);cases this
 | x::r,[],_,_,h=>by have:=(h x).1 (BC ..);cases this
 | x::r,y::s,h1,h2,h=>by
  have E:=Dc.1 h1;have d:=Dc.1 h2;have I:x=y:=by
   rcases BQ.1 ((h x).1 (BC ..)) with e|e
   ·exact e
   ·rcases BQ.1 ((h y).2 (BC ..)) with L|L
    ·exact L.symm
    ·have a:=d.1 x e;have b:=E.1 y L;omega
  subst I
  congr 1
  refine Ru E.2 d.2 λz=>⟨λH=>?_,λH=>?_⟩
  ·rcases BQ.1 ((h z).1 (Bw _ H)) with e|e
   ·subst e;have:=E.1 z H;omega
   ·exact e
  ·rcases BQ.1 ((h z).2 (Bw _ H)) with e|e
   ·subst e;have:=d.1 z H;omega
   ·exact e
def shut(cl:List (Int×List Pu))(last:Int):Option (List Pu)->List (Int×List Pu)
 | none=>cl
 | some l=>cl++[(last,l)]
def NT(cl:List (Int×List Pu))(last:Int)(ol:Option (List Pu)):Ax (shut cl last ol)=Ax cl++ol.getD []:=by
 cases ol<;>simp[shut,Ax]
section
variable {P P':PD} {A:Ar} {sg cl:List (Int×List Pu)} {ol:Option (List Pu)} {N R:Nat}
def Lay.bS(h:Lay P A sg cl ol):A.j.Am=(shut cl A.j.Aa ol).map (·.1):=by
 have:=h.AB;cases ol with
 | none=>exact this.2
 | some l=>rw[this.2.1];simp[shut]
def Lay.dY(h:Lay P A sg cl ol)(d:(Ax cl).length<=1099511627776):EU P 0 (shut cl A.j.Aa ol):=by
 have E:=h.AB;cases ol with
 | none=>exact h.Am
 | some l=>
  obtain⟨-,h1,z,H,h4⟩:=E
  exact h.Am.bU (by
   have:=h.Gq;rw[Nq,<-this]
   exact OM (t:=[]) (h.dw d) H (by simp) (by simpa using z))
def Lay.a8(h:Lay P A sg cl ol):P.a8=some A.ix:=by
 rcases h.ix with⟨d,z⟩|d
 ·rw[A1u d,z]
 ·exact A1t h.DG d
def Lay.aU(h:Lay P A sg cl ol)(hc:Cm P N R)(hl:(Ax cl).length<=1099511627776):
 ∃A',Ar.aU P=.ok (A',B7 sg cl ol)/\Lay P A' sg (shut cl A.j.Aa ol) none/\A'.ix=A.ix/\A'.j.Aa<=max A.j.Aa (A.ix.B8-1)/\A'.Aa<=A.Aa/\A'.AQ=A'.aY P:=by
 have aF:=hc.up;have aG:BS A.ix.B8 P.Ay=A.j.Am:=by
  refine Ru (ZS _ aF) h.H8 λn=>⟨λhn=>?_,λhn=>?_⟩
  ·obtain⟨I,z,h3⟩:=OL hn;exact h.Hj n (by unfold isNum;simpa using z) I (H5.1 h3)
  ·rw[h.bS]at hn;obtain⟨x,d,rfl⟩:=Cr.1 hn;have W:isNum x.1=true/\A.ix.B8<=x.1:=by
    cases ol with
    | none=>exact⟨(h.CW x d).1.1,h.EI.1 x d⟩
    | some l=>
     rcases AV.1 d with d|d
     ·exact⟨(h.CW x d).1.1,h.EI.1 x d⟩
     ·simp at d;subst d;exact⟨h.AB.2.2.2.2,h.EI.2 (by simp)⟩
   have aH:=H5.2 ((h.dY hl).DF d);unfold BS;refine LD.2 ⟨Ah x.1,aH,?_⟩;rw[KX W.1];simp[W.2]
 have aK:P.Ay.any (λnm=>decide ((Bg nm).1=0))=false:=by
  rw[Bool.eq_false_iff];intro d;obtain⟨nm,I,z⟩:=Q5.1 d;exact h.Ek nm (H5.1 I) (by simpa using z)
 have hp:=h.puts hl;obtain⟨O,aA⟩:∃O,(P.Ay.filterMap λnm=>if (Bg nm).1=2 then some (Bg nm).2 else none)=O:=⟨_,rfl⟩;have aB:=XF aF;rw[aA]at aB;have aE:∀n,n∈O↔isNum n=true/\P.bs (AJ n)≠none:=λn=>by
  rw[<-aA,LD];constructor
  ·rintro⟨nm,I,z⟩;by_cases d:(Bg nm).1=2
   ·rw[Ai d]at z;simp at z;subst z;have:=OG d;exact⟨by unfold isNum;simp;exact this.1,by rw[this.2];exact H5.1 I⟩
   ·rw[Ae d]at z;cases z
  ·rintro⟨I,z⟩;refine⟨AJ n,H5.2 z,?_⟩;rw[OH I];simp
 obtain⟨A',H⟩:∃A':Ar,(⟨A.ix,⟨A.j.Am,A.j.Am.getLastD (A.ix.B8-1),((Ax cl++ol.getD []).length:Int),none⟩,O.getLastD 0,(⟨A.ix,⟨A.j.Am,A.j.Am.getLastD (A.ix.B8-1),((Ax cl++ol.getD []).length:Int),none⟩,O.getLastD 0,[]⟩:Ar).aY P⟩:Ar)=A':=⟨_,rfl⟩;have aD:Ar.aU P=.ok (A',B7 sg cl ol):=by
  unfold Ar.aU;rw[h.a8];dsimp only
  rw[aK,Ae (by simp),h.b8];dsimp only
  rw[aG,hp,Ae (by simp),aA];have hj:P.bQ A.ix.B8=⟨A.j.Am,A.j.Am.getLastD (A.ix.B8-1),((Ax cl++ol.getD []).length:Int),none⟩:=by
   unfold PD.bQ;rw[aG,hp]
  rw[hj,<-H];rfl
 have L:∀x∈shut cl A.j.Aa ol,(isNum x.1=true/\x.1<=A.j.Aa)/\A.ix.B8<=x.1/\∀p∈x.2,Bh p:=λx d=>by
  cases ol with
  | none=>exact⟨(h.CW x d).1,h.EI.1 x d,(h.CW x d).2⟩
  | some l=>
   rcases AV.1 d with d|d
   ·exact⟨(h.CW x d).1,h.EI.1 x d,(h.CW x d).2⟩
   ·simp at d;subst d;exact⟨⟨h.AB.2.2.2.2,HC _⟩,h.EI.2 (by simp),h.AB.2.2.2.1⟩
 have E:∀n∈A.j.Am,n<=A.j.Am.getLastD (A.ix.B8-1):=λn hn=>O8 h.H8 hn _;have hge:A.ix.B8-1<=A.j.Am.getLastD (A.ix.B8-1):=by
  cases d:A.j.Am with
  | nil=>simp
  | cons y r=>
   (have hy:y∈A.j.Am:=by rw[d];exact BC ..);have I:=E y hy;rw[d]at I;have z:A.ix.B8<=y:=by
    rw[h.bS]at hy;obtain⟨x,Y,aJ⟩:=Cr.1 hy;rw[<-aJ];exact(L x Y).2.1
   omega
 have aL:A.j.Am.getLastD (A.ix.B8-1)<=max A.j.Aa (A.ix.B8-1):=by
  cases d:A.j.Am with
  | nil=>simp;omega
  | cons y r=>
   have hm:(y::r).getLastD (A.ix.B8-1)∈A.j.Am:=by
    rw[d];(have:(y::r).getLastD (A.ix.B8-1)=(y::r).getLast (by simp):=by rw[Kh,A4p (by simp)];rfl);rw[this];exact List.getLast_mem _
   rw[h.bS]at hm;obtain⟨x,aI,Y⟩:=Cr.1 hm;have:=(L x aI).1.2;rw[Y]at this;omega
 have hfn:1<=A.ix.B8:=by have:=h.DG.B8;unfold isNum at this;simp at this;exact this.1
 refine⟨A',aD,?_,by rw[<-H],by rw[<-H];exact aL,?_,by rw[<-H];rfl⟩
 ·rw[<-H]
  refine⟨h.DG,h.ix,h.segs,h.Cy,λx d=>⟨⟨(L x d).1.1,E _ (by rw[h.bS];exact DV d)⟩,(L x d).2.2⟩,λx _ d=>absurd rfl d,⟨λx d=>(L x d).2.1,λd=>absurd rfl d⟩,h.dY hl,?_,⟨rfl,h.bS⟩,
   ⟨by dsimp only;omega,by dsimp only;omega,λn hk d=>?_⟩,⟨?_,λn hk d=>O8 aB ((aE n).2 ⟨hk,d⟩) 0⟩,λnm hm=>?_,h.H8,h.Ek,h.Hj⟩
  ·dsimp only;rw[NT]
  ·dsimp only
   by_cases hf:A.ix.B8<=n
   ·exact E n (h.Hj n hk hf d)
   ·omega
  ·dsimp only
   cases d:O with
   | nil=>simp
   | cons y r=>
    have I:=O8 aB (n:=y) (by rw[d];exact BC ..) 0;have z:=((aE y).1 (by rw[d];exact BC ..)).1;unfold isNum at z;simp at z;rw[d]at I;omega
  ·exact H5.1 (GX.1 hm).1
 ·rw[<-H];dsimp only
  cases d:O with
  | nil=>simp;exact h.Ev.1
  | cons y r=>
   have hm:(y::r).getLastD 0∈O:=by
    rw[d];(have:(y::r).getLastD 0=(y::r).getLast (by simp):=by rw[Kh,A4p (by simp)];rfl);rw[this];exact List.getLast_mem _
   have:=(aE _).1 hm;exact h.Ev.2 _ this.1 this.2
end
abbrev View:=Bs->Option FC
def vw(F:Nat->FC)(s:List AO):View:=λnm=>(lookup s (A9 nm)).map F
def C6(c:FC):Prop:=c.2=c.1.length
def IX(V:View)(n a:Int):List Pu×Int:=match V (Ah n) with
 | some c=>Ga (AH (Ah n)) a c.1
 | none=>([],8)
def A0a(P:PD)(n a:Int):P.aX n a=IX P.fl n a:=by
 unfold IX;cases hx:P.fl (Ah n) with
 | some c=>
  have d:P.bs (Ah n)=some c.1:=by unfold PD.bs;rw[hx];rfl
  exact Tk d
 | none=>
  have d:P.bs (Ah n)=none:=by unfold PD.bs;rw[hx];rfl
  unfold PD.aX Gz;have e:DQ P.D P.F ⟨(Ah n).toArray⟩=([],8):=by have:=@Ja P (Ah n);unfold PD.Cp at this;rw[d]at this;exact this
  rw[e];simp
def Fw(V:View):Int->List (Int×List Pu)->Prop
 | _,[]=>True
 | a,x::r=>IX V x.1 a=(x.2,0)/\Fw V (a+x.2.length) r
def Fw.at{P:PD}:∀ {a:Int} {l:List (Int×List Pu)},Fw P.fl a l↔EU P a l
 | _,[]=>Iff.rfl
 | a,x::r=>by
  unfold Fw EU;rw[A0a,Fw.at]
def Fw.bD{V V':View}:∀ {a:Int} {l:List (Int×List Pu)},Fw V a l->(∀x∈l,(V' (Ah x.1)).map (·.1)=(V (Ah x.1)).map (·.1))->Fw V' a l
 | _,[],_,_=>trivial
 | a,x::r,h,hb=>by
  refine⟨?_,h.2.bD λy z=>hb y (Bw _ z)⟩;rw[<-h.1];have:=hb x (BC ..);unfold IX;cases h1:V (Ah x.1) with
  | none=>rw[h1]at this;cases h2:V' (Ah x.1) with
   | none=>rfl
   | some c=>rw[h2]at this;cases this
  | some c=>rw[h1]at this;cases h2:V' (Ah x.1) with
   | none=>rw[h2]at this;cases this
   | some d=>rw[h2]at this;simp at this;dsimp only;rw[this]
def Fw.bU{V:View}:∀ {a:Int} {l:List (Int×List Pu)} {x:Int×List Pu},Fw V a l->IX V x.1 (a+(Ax l).length)=(x.2,0)->Fw V a (l++[x])
 | a,[],x,_,h=>⟨by simpa[Ax] using h,trivial⟩
 | a,y::r,x,h,h2=>⟨h.1,h.2.bU (by
  rw[<-h2];congr 1
  simp only[Ax,Nj,B1];omega)⟩
def HP(b nm:Bs)(ahead:Int)(l:List Pu):Prop:=(∃t:Bs,b=E2 nm ahead l++t/\t.length<21)\/(l=[]/\b.length<12)
def HP.a1{b nm:Bs}{ahead:Int}{l:List Pu}(h:HP b nm ahead l)(z:AE ahead)(d:∀p∈l,Bh p):Ga (AH nm) ahead b=(l,0):=by
 rcases h with⟨t,rfl,E⟩|⟨rfl,H⟩
 ·exact RY _ _ _ _ z d E
 ·exact YE _ _ _ H
def Tl:∀(l:List Pu) (s:Nat) (t:Bs) (j:Nat),t.length<21->∃d:Bs,(E1 s l++t).take j=E1 s (l.take (j/21))++d/\d.length<21
 | [],s,t,j,ht=>⟨t.take j,by simp[E1],by rw[BW];omega⟩
 | p::r,s,t,j,ht=>by
  have h:(AT s (Bb p.1 p.2.1 p.2.2)).length=21:=by rw[EE,EY]
  by_cases hj:j<21
  ·refine⟨(AT s (Bb p.1 p.2.1 p.2.2)).take j,?_,by rw[BW];omega⟩;(have e:j/21=0:=by omega);rw[e];simp only[E1,EV,Et,Cc];rw[GW (by omega)]
  ·obtain⟨d,E,z⟩:=Tl r (AW s (Bb p.1 p.2.1 p.2.2)) t (j-21) ht;refine⟨d,?_,z⟩;(have e:j/21=(j-21)/21+1:=by omega);rw[e,Fa];simp only[E1,Cc];rw[List.take_append,h,E,Er (by omega)]
def HP.b9{b nm:Bs}{ahead:Int}{l:List Pu}(h:HP b nm ahead l)(j:Nat)(hj:j<=b.length):HP (b.take j) nm ahead (l.take ((j-12)/21)):=by
 rcases h with⟨t,rfl,I⟩|⟨rfl,hb⟩
 ·by_cases h12:j<12
  ·exact .inr ⟨by (have:(j-12)/21=0:=by omega);rw[this];rfl,by rw[BW];omega⟩
  ·obtain⟨E,H,z⟩:=Tl l (AW (AH nm) (AS ahead)) t (j-12) I;refine .inl ⟨E,?_,z⟩;unfold E2;(have d:(AT (AH nm) (AS ahead)).length=12:=by rw[EE,CP]);rw[Cc,List.take_append,d,H,Er (by omega),Cc]
 ·exact .inr ⟨by simp,by rw[BW];omega⟩
def ER(c:FC)(l:List Pu):Nat:=min l.length ((c.2.toNat-12)/21)
def F8(bd:Int×Int)(nm:Bs):Prop:=(Bg nm).1≠0/\((Bg nm).1=1->(Bg nm).2<=bd.1)/\((Bg nm).1=2->(Bg nm).2<=bd.2)
def ZI:Bg Bo=(4,0):=by
 have h:E7 [108] Bo=none:=KZ (by decide);have d:E7 [115] Bo=none:=KZ (by decide);unfold Bg H7;rw[h,d];simp[H6,Ic,Bo,AL]
def Zz{bd:Int×Int}{n:Int}(h:isNum n=true)(d:n<=bd.1):F8 bd (Ah n):=by unfold F8;rw[KX h];exact⟨by simp,λ_=>d,λh=>by simp at h⟩
def SM{bd:Int×Int}{n:Int}(h:isNum n=true)(d:n<=bd.2):F8 bd (AJ n):=by unfold F8;rw[OH h];exact⟨by simp,λh=>by simp at h,λ_=>d⟩
def ZA(bd:Int×Int):F8 bd AL:=by unfold F8;rw[T3];exact⟨by decide,λh=>absurd h (by decide),λh=>absurd h (by decide)⟩
def SO(bd:Int×Int):F8 bd Bo:=by unfold F8;rw[ZI];exact⟨by decide,λh=>absurd h (by decide),λh=>absurd h (by decide)⟩
def Hz(bd:Int×Int)(ix:Ix)(sg:List (Int×List Pu)):Prop:=Np ix/\ix.B8<=bd.1+1/\∀x∈sg,x.2≠[]
def HD(bd d:Int×Int):Prop:=bd.1<=d.1/\bd.2<=d.2
def F8.aW{bd d:Int×Int}{nm:Bs}(h:F8 bd nm)(z:HD bd d):F8 d nm:=⟨h.1,λe=>Kn (h.2.1 e) z.1,λe=>Kn (h.2.2 e) z.2⟩
def Hz.aW{bd d:Int×Int}{ix:Ix}{sg:List (Int×List Pu)}(h:Hz bd ix sg)(z:HD bd d):Hz d ix sg:=⟨h.1,by have:=h.2.1;have:=z.1;omega,h.2.2⟩
structure CX (bd:Int×Int) (V:View) (ix:Ix) (sg cl:List (Int×List Pu)) (lo:Option (Int×List Pu)):Prop where
 DG:Hz bd ix sg
 Ik:(V AL=none/\ix=⟨1,[]⟩)\/∃c,V AL=some c/\C6 c/\c.1=AT (AH AL) (Ci ix.B8 ix.segs)
 segs:sg.map (·.1)=ix.segs
 Cy:∀x∈sg,((∀p∈x.2,Bh p)/\Cz Co x.2=true)/\∃c,V (AJ x.1)=some c/\C6 c/\c.1=AT (AH (AJ x.1)) (Cf x.2)
 CW:∀x∈cl,(isNum x.1=true/\ix.B8<=x.1)/\(∀p∈x.2,Bh p)/\∃c,V (Ah x.1)=some c/\C6 c
 Am:Fw V 0 cl
 Aa:∀n l,lo=some (n,l)->(isNum n=true/\ix.B8<=n)/\(∀p∈l,Bh p)/\∃c,V (Ah n)=some c/\HP c.1 (Ah n) (Ax cl).length l
 EN:(cl.map (·.1)++(lo.map (·.1)).toList).Pairwise (· < ·)
 Cp:∀n,isNum n=true->ix.B8<=n->V (Ah n)≠none->n∈cl.map (·.1)++(lo.map (·.1)).toList
 Ek:∀nm,V nm≠none->F8 bd nm
 DZ:∀nm c,V nm=some c->0<=c.2/\c.2<=c.1.length
def HV(V V':View):Prop:=∀nm,(V nm=none/\V' nm=none)\/∃c,∃j:Nat,V nm=some c/\c.2<=j/\j<=c.1.length/\V' nm=some (c.1.take j,(j:Int))
section
variable {bd:Int×Int} {V V':View} {ix:Ix} {sg cl:List (Int×List Pu)} {lo:Option (Int×List Pu)}
def HV.eo(h:HV V V'){nm:Bs}(z:V nm=none):V' nm=Option.none:=by
 rcases h nm with⟨_,E⟩|⟨c,j,d,_⟩
 ·exact E
 ·rw[z]at d;cases d
def HV.b0(h:HV V V'){nm:Bs}{c:FC}(E:V nm=some c):∃j:Nat,c.2<=j/\j<=c.1.length/\V' nm=Option.some (c.1.take j,(j:Int)):=by
 rcases h nm with⟨z,_⟩|⟨d,j,z,H⟩
 ·rw[E]at z;cases z
 ·rw[E]at z;cases z;exact⟨j,H⟩
def HV.Gj(h:HV V V'){nm:Bs}{c:FC}(z:V nm=Option.some c)(d:C6 c):V' nm=Option.some c:=by
 obtain⟨j,h1,h2,E⟩:=h.b0 z;unfold C6 at d;have e:j=c.1.length:=by omega
 rw[E,e,Cl,<-d]
def CX.BX(h:CX bd V ix sg cl lo)(Y:HV V V'):(∀nm c,V' nm=some c->C6 c)/\
 match lo with
 | none=>CX bd V' ix sg cl none
 | some (n,l)=>∃c i,V (Ah n)=some c/\ER c l<=i/\i<=l.length/\CX bd V' ix sg cl (some (n,l.take i)):=by
 have W:∀nm c,V' nm=some c->C6 c:=λnm c I=>by
  rcases Y nm with⟨_,z⟩|⟨d,j,E,z,H,O⟩
  ·rw[I]at z;cases z
  ·rw[O]at I;cases I;unfold C6;dsimp only;rw[BW];omega
 have aB:∀nm,V' nm≠none->V nm≠none:=λnm I hv=>I (Y.eo hv);have aA:Fw V' 0 cl:=h.Am.bD λx hx=>by
  obtain⟨_,_,c,E,z⟩:=h.CW x hx;rw[Y.Gj E z,E]
 have key:∀L:Option (Int×List Pu),L.map (·.1)=lo.map (·.1)->(∀n l,L=some (n,l)->(isNum n=true/\ix.B8<=n)/\(∀p∈l,Bh p)/\∃c,V' (Ah n)=some c/\HP c.1 (Ah n) (Ax cl).length l)->CX bd V' ix sg cl L:=λL e hl=>
  ⟨h.DG,by
   rcases h.Ik with⟨E,z⟩|⟨c,E,z,H⟩
   ·exact .inl ⟨Y.eo E,z⟩
   ·exact .inr ⟨c,Y.Gj E z,z,H⟩,h.segs,λx hx=>by
   obtain⟨E,c,z,H,O⟩:=h.Cy x hx
   exact⟨E,c,Y.Gj z H,H,O⟩,λx hx=>by
   obtain⟨E,z,c,H,O⟩:=h.CW x hx
   exact⟨E,z,c,Y.Gj H O,O⟩,aA,hl,by rw[e];exact h.EN,λn E z H=>by rw[e];exact h.Cp n E z (aB _ H),λnm I=>h.Ek nm (aB _ I),λnm c I=>by
   have:=W nm c I;unfold C6 at this;omega⟩
 refine⟨W,?_⟩;cases lo with
 | none=>exact key none rfl λn l e=>by cases e
 | some x=>
  obtain⟨n,l⟩:=x;obtain⟨E,z,c,H,O⟩:=h.Aa n l rfl;obtain⟨j,j1,j2,j3⟩:=Y.b0 H;refine⟨c,min l.length ((j-12)/21),H,?_,Nat.min_le_left _ _,key _ rfl λn' l' e=>?_⟩
  ·unfold ER;have:(c.2.toNat-12)/21<=(j-12)/21:=A4a (by omega);omega
  ·cases e;have ht:l.take (min l.length ((j-12)/21))=l.take ((j-12)/21):=by
    rw[List.take_eq_take_iff];omega
   rw[ht];exact⟨E,λp hp=>z p (HQ hp),_,j3,O.b9 j j2⟩
def CX.bR(h:CX bd V ix sg cl lo)(W:∀nm,nm=AL\/(∃x∈sg,nm=AJ x.1)\/(∃n,isNum n=true/\ix.B8<=n/\nm=Ah n)->(V nm=none/\V' nm=none)\/∃c d,V nm=some c/\V' nm=some d/\d.1=c.1/\(d.2=c.2\/C6 d))(h2:∀nm,V' nm≠none->F8 bd nm)(h3:∀nm c,V' nm=some c->0<=c.2/\c.2<=c.1.length):CX bd V' ix sg cl lo:=by
 have up:∀ {nm:Bs} {c:FC},(nm=AL\/(∃x∈sg,nm=AJ x.1)\/(∃n,isNum n=true/\ix.B8<=n/\nm=Ah n))->V nm=some c->∃d,V' nm=some d/\d.1=c.1/\(C6 c->C6 d):=λ{nm c} hn hv=>by
  rcases W nm hn with⟨q,_⟩|⟨c',d,z,I,H,E⟩
  ·rw[hv]at q;cases q
  ·rw[hv]at z;cases z;refine⟨d,I,H,λY=>?_⟩;rcases E with E|E
   ·unfold C6 at Y ⊢;rw[H,E];exact Y
   ·exact E
 have L:∀x∈cl,(V' (Ah x.1)).map (·.1)=(V (Ah x.1)).map (·.1):=λx O=>by
  obtain⟨z,_,c,H,_⟩:=h.CW x O;obtain⟨d,d1,d2,_⟩:=up (.inr (.inr ⟨x.1,z.1,z.2,rfl⟩)) H;rw[d1,H];simp[d2]
 refine⟨h.DG,?_,h.segs,λx O=>?_,λx O=>?_,h.Am.bD L,λn l e=>?_,h.EN,λn z I H=>h.Cp n z I λq=>?_,h2,h3⟩
 ·rcases h.Ik with⟨z,I⟩|⟨c,z,I,H⟩
  ·rcases W AL (.inl rfl) with⟨_,q⟩|⟨c',d,E,_⟩
   ·exact .inl ⟨q,I⟩
   ·rw[z]at E;cases E
  ·obtain⟨d,d1,d2,d3⟩:=up (.inl rfl) z;exact .inr ⟨d,d1,d3 I,by rw[d2];exact H⟩
 ·obtain⟨z,c,I,H,E⟩:=h.Cy x O;obtain⟨d,d1,d2,d3⟩:=up (.inr (.inl ⟨x,O,rfl⟩)) I;exact⟨z,d,d1,d3 H,by rw[d2];exact E⟩
 ·obtain⟨z,I,c,H,E⟩:=h.CW x O;obtain⟨d,d1,d2,d3⟩:=up (.inr (.inr ⟨x.1,z.1,z.2,rfl⟩)) H;exact⟨z,I,d,d1,d3 E⟩
 ·obtain⟨z,I,c,H,E⟩:=h.Aa n l e;obtain⟨d,d1,d2,d3⟩:=up (.inr (.inr ⟨n,z.1,z.2,rfl⟩)) H;exact⟨z,I,d,d1,by rw[d2];exact E⟩
 ·rcases W (Ah n) (.inr (.inr ⟨n,z,I,rfl⟩)) with⟨_,E⟩|⟨c,d,E,_⟩
  ·exact H E
  ·rw[q]at E;cases E
def CX.aW{d:Int×Int}(h:CX bd V ix sg cl lo)(z:HD bd d):CX d V ix sg cl lo:=
 ⟨h.DG.aW z,h.Ik,h.segs,h.Cy,h.CW,h.Am,h.Aa,h.EN,h.Cp,λnm E=>(h.Ek nm E).aW z,h.DZ⟩
end
def Cb.I(o:Int)(a:List Pu):Cb o a a:=⟨λ_ _ _=>rfl,λp d=>⟨p,d,rfl,rfl⟩,As _⟩
def Cb.Aw{o:Int}{a b c:List Pu}(h:Cb o a b)(d:Cb o b c):Cb o a c:=⟨λk t z=>(h.1 k t z).trans (d.1 k t z),λp I=>by
 obtain⟨q,E,O,H⟩:=h.2.1 p I;obtain⟨r,L,W,Y⟩:=d.2.1 q E
 exact⟨r,L,W.trans O,Y.trans H⟩,AR h.2.2 d.2.2⟩
def Cb.bc{o d:Int}{a b:List Pu}(h:Cb o a b)(ho:o<=d):Cb d a b:=⟨λk t ht=>h.1 k t (by omega),h.2⟩
def Cb.dE{o:Int}{a b:List Pu}(h:Cb o a b)(c:List Pu):Cb o (a++c) (b++c):=⟨λk t E=>by rw[GD,GD,h.1 k t E],λp d=>by
 rcases AV.1 d with d|d
 ·obtain⟨q,z,e⟩:=h.2.1 p d;exact⟨q,FN _ z,e⟩
 ·exact⟨p,Hd _ d,rfl,rfl⟩,by have:=h.2.2;rw[B1,B1];omega⟩
def Cb.eI{o:Int}{a b:List Pu}(z:∀k t,o<=t->BG a k t=BG b k t)(h:∀p∈a,p∈b)(E:a.length<=b.length):Cb o a b:=⟨z,λp d=>⟨p,h p d,rfl,rfl⟩,E⟩
def Holds(bd:Int×Int)(V:View)(puts:List Pu)(A8:Nat)(o:Int):Prop:=
 ∃ix z h d nb,CX bd V ix z h d/\nb<=puts.length/\Cb o (Ax z++Ax h) (puts.take nb)/\
  (∀n l,d=some (n,l)->∃c,V (Ah n)=some c/\A8<=nb+ER c l/\l=(puts.drop nb).take l.length)/\(d=none->A8<=nb)
def EF:Option (Int×List Pu)->List Pu
 | none=>[]
 | some x=>x.2
section
variable {bd:Int×Int} {V V':View} {puts:List Pu} {A8:Nat} {o:Int}
def Holds.BX(h:Holds bd V puts A8 o)(hc:HV V V'):∃ix z E H n,CX bd V' ix z E H/\(∀nm c,V' nm=some c->C6 c)/\A8<=n/\n<=puts.length/\Cb o (Ax z++Ax E++EF H) (puts.take n):=by
 obtain⟨ix,z,E,H,nb,hL,I,O,Y,W⟩:=h;obtain⟨L,d⟩:=hL.BX hc;cases H with
 | none=>exact⟨ix,z,E,none,nb,d,L,W rfl,I,by simpa[EF] using O⟩
 | some x=>
  obtain⟨n,l⟩:=x;obtain⟨c,i,c1,c2,c3,c4⟩:=d;obtain⟨c',d1,d2,d3⟩:=Y n l rfl;rw[c1]at d1;cases d1;have hl:l.length<=(puts.drop nb).length:=by
   have:=EK List.length d3;rw[BW]at this;omega
  rw[Cw]at hl;refine⟨ix,z,E,some (n,l.take i),nb+i,c4,L,by omega,by omega,?_⟩;have e:puts.take (nb+i)=puts.take nb++l.take i:=by
   rw[List.take_add,d3,Kb]
   congr 2;omega
  rw[e];exact O.dE _
def Holds.aW{d:Int×Int}(h:Holds bd V puts A8 o)(H:HD bd d):Holds d V puts A8 o:=by
 obtain⟨ix,L,z,I,nb,E,r⟩:=h;exact⟨ix,L,z,I,nb,E.aW H,r⟩
def Holds.bc{z:Int}(h:Holds bd V puts A8 o)(H:o<=z):Holds bd V puts A8 z:=by
 obtain⟨ix,sg,E,Y,nb,L,d,W,O,I⟩:=h;exact⟨ix,sg,E,Y,nb,L,d,W.bc H,O,I⟩
def Holds.cb(h:Holds bd V puts A8 o)(q:List Pu):Holds bd V (puts++q) A8 o:=by
 obtain⟨ix,I,W,Y,nb,H,d,O,E,z⟩:=h;refine⟨ix,I,W,Y,nb,H,by simp;omega,by rw[GW d];exact O,λn l e=>?_,z⟩;obtain⟨c,d1,d2,d3⟩:=E n l e;refine⟨c,d1,d2,?_⟩;have L:l.length<=(puts.drop nb).length:=by
  have:=EK List.length d3;rw[BW]at this;omega
 rw[LK d,GW L];exact d3
def Holds.bC{ix:Ix}{z h:List (Int×List Pu)}(H:CX bd V ix z h none)(E:Cb o (Ax z++Ax h) puts)(d:A8<=puts.length):Holds bd V puts A8 o:=
 ⟨ix,z,h,none,puts.length,H,As _,by rw[Cl];exact E,λn l e=>(by cases e),λ_=>d⟩
def Ua{c d:FC}{l:List Pu}(E:d.1=c.1)(h:d.2=c.2\/C6 d)(z:c.2<=c.1.length):ER c l<=ER d l:=by
 unfold ER;have:c.2<=d.2:=by
  rcases h with h|h
  ·omega
  ·unfold C6 at h;rw[h,E];exact z
 have:(c.2.toNat-12)/21<=(d.2.toNat-12)/21:=A4a (by omega);omega
def Holds.bR(h:Holds bd V puts A8 o)(H:∀nm,(∀c,V nm=some c->∃d,V' nm=some d/\d.1=c.1/\(d.2=c.2\/C6 d))/\(V nm=none->V' nm=none)):Holds bd V' puts A8 o:=by
 obtain⟨ix,sg,cl,lo,nb,L,O,hs,g1,W⟩:=h;have I:∀nm,V' nm≠none->V nm≠none:=λnm z E=>z ((H nm).2 E);refine⟨ix,sg,cl,lo,nb,L.bR (λnm _=>?_) (λnm z=>L.Ek nm (I nm z)) (λnm c z=>?_),O,hs,λn l e=>?_,W⟩
 ·cases E:V nm with
  | none=>exact .inl ⟨rfl,(H nm).2 E⟩
  | some c=>obtain⟨d,d1,d2,d3⟩:=(H nm).1 c E;exact .inr ⟨c,d,rfl,d1,d2,d3⟩
 ·cases E:V nm with
  | none=>rw[(H nm).2 E]at z;cases z
  | some x=>
   obtain⟨d,d1,d2,d3⟩:=(H nm).1 x E;rw[d1]at z;cases z;have:=L.DZ nm x E;rcases d3 with d3|d3
   ·rw[d2,d3];exact this
   ·unfold C6 at d3;omega
 ·obtain⟨c,d1,d2,d3⟩:=g1 n l e;obtain⟨d,e1,Y,e3⟩:=(H _).1 c d1;exact⟨d,e1,AR d2 (Lx (Ua Y e3 (L.DZ _ _ d1).2) _),d3⟩
def ET(bd:Int×Int)(V:View)(puts:List Pu)(A8:Nat)(o:Int)(n:Int)(ahead:Nat):Prop:=
 ∃ix h d l nb c,CX bd V ix h d (some (n,l))/\nb<=puts.length/\Cb o (Ax h++Ax d) (puts.take nb)/\V (Ah n)=some c/\c.1=E2 (Ah n) ahead l/\ahead=(Ax d).length/\A8<=nb+ER c l/\l=puts.drop nb
def ET.aW{d:Int×Int}{n:Int}{ahead:Nat}(h:ET bd V puts A8 o n ahead)(E:HD bd d):ET d V puts A8 o n ahead:=by
 obtain⟨ix,I,z,l,nb,c,H,r⟩:=h;exact⟨ix,I,z,l,nb,c,H.aW E,r⟩
def ET.cc{n:Int}{ahead:Nat}(h:ET bd V puts A8 o n ahead):Holds bd V puts A8 o:=by
 obtain⟨ix,L,W,l,nb,c,I,d,O,E,h2,h3,z,H⟩:=h;exact⟨ix,L,W,some (n,l),nb,I,d,O,λn' l' e=>by cases e;exact⟨c,E,z,by rw[<-H,Cl]⟩,λe=>by cases e⟩
def ET.an{n:Int}{ahead:Nat}(h:ET bd V puts A8 o n ahead)(p:Pu)(hp:Bh p)(j:Nat){s:Nat}(aE:∀l c,V (Ah n)=some c->c.1=E2 (Ah n) ahead l->s=F4 (Ah n) ahead l)(H:∀nm,nm≠Ah n->V' nm=V nm)(h2:∀c,V (Ah n)=some c->V' (Ah n)=some (c.1++(AT s (Bb p.1 p.2.1 p.2.2)).take j,c.2)):
 (21<=j->ET bd V' (puts++[p]) A8 o n ahead)/\(j<21->Holds bd V' puts A8 o):=by
 obtain⟨ix,sg,Y,l,nb,c,E,W,hs,g1,g2,g3,g4,g5⟩:=h;have aG:=aE l c g1 g2;have hv:=h2 c g1;have hpl:(AT s (Bb p.1 p.2.1 p.2.2)).length=21:=by rw[EE,EY]
 obtain⟨q1,q2,c',q3,q4⟩:=E.Aa n l rfl;rw[g1]at q3;cases q3;have I:=(Es.1 E.EN).2.2;have aA:∀x∈Y,Ah x.1≠Ah n:=λx z e=>by
  have e2:=FW (E.CW x z).1.1 q1.1 e;have:=I x.1 (DV z) n (by simp);omega
 have O:Fw V' 0 Y:=E.Am.bD λx z=>by rw[H _ (aA x z)]
 have mk:∀l',(∀p∈l',Bh p)->HP (c.1++(AT s (Bb p.1 p.2.1 p.2.2)).take j) (Ah n) (Ax Y).length l'->CX bd V' ix sg Y (some (n,l')):=λl' aD aB=>
  ⟨E.DG,by rw[H _ (Hk n).symm];exact E.Ik,E.segs,λx z=>by rw[H _ (G1 n x.1).symm];exact E.Cy x z,λx z=>by rw[H _ (aA x z)];exact E.CW x z,O,
   λn' l2 e=>by cases e;exact⟨q1,aD,_,hv,aB⟩,E.EN,λk k1 k2 k3=>by
    by_cases e:Ah k=Ah n
    ·have:=FW k1 q1.1 e;subst this;simp
    ·rw[H _ e]at k3;exact E.Cp k k1 k2 k3,λnm L=>by
    by_cases e:nm=Ah n
    ·subst e;exact E.Ek _ (by rw[g1];simp)
    ·rw[H _ e]at L;exact E.Ek nm L,λnm d L=>by
    by_cases e:nm=Ah n
    ·subst e;rw[hv]at L;cases L;have:=E.DZ _ _ g1;dsimp only;rw[B1];omega
    ·rw[H _ e]at L;exact E.DZ nm d L⟩
 constructor
 ·intro hj;have ht:(AT s (Bb p.1 p.2.1 p.2.2)).take j=AT s (Bb p.1 p.2.1 p.2.2):=Er (by omega);have hb:c.1++(AT s (Bb p.1 p.2.1 p.2.2)).take j=E2 (Ah n) ahead (l++[p]):=by rw[ht,g2,aG,(To _ _ _ _).1]
  have aF:∀x∈l++[p],Bh x:=λx z=>by
   rcases AV.1 z with z|z
   ·exact q2 x z
   ·simp at z;subst z;exact hp
  refine⟨ix,sg,Y,l++[p],nb,_,mk _ aF (.inl ⟨[],by rw[hb,g3];simp,by simp⟩),by simp;omega,by rw[GW W];exact hs,hv,hb,g3,?_,by rw[LK W,<-g5]⟩;have:ER c l<=ER (c.1++(AT s (Bb p.1 p.2.1 p.2.2)).take j,c.2) (l++[p]):=by unfold ER;simp;omega
  omega
 ·intro hj
  refine⟨ix,sg,Y,some (n,l),nb,mk l q2 (.inl ⟨_,by rw[g2,g3],by rw[BW];omega⟩),W,hs,λn' l' e=>by
   cases e
   exact⟨_,hv,by unfold ER at g4 ⊢;exact g4,by rw[<-g5,Cl]⟩,λe=>by cases e⟩
end
structure AK (P Q:PD):Prop where
 A4:P.D.A4=Q.D.A4
 AP:P.D.AP=Q.D.AP
 Av:P.D.Av=Q.D.Av
 En:P.F=Q.F
structure G5 (P:PD):Prop where
 Au:(P.D.A4.map (·.2)).Nodup
 Ce:(P.D.A4.map (·.1)).Nodup
def PD.aR(P:PD):PD:=⟨{P.D with n:=⟨(B6 P.F P.D.A4:Int)+4611686018427387904,0,0,0,0,0,0,false⟩},P.F⟩
def AK.aR(P:PD):AK P P.aR:=⟨rfl,rfl,rfl,rfl⟩
def G5.aR{P:PD}(h:G5 P):Cm P.aR 4611686018427387904 4611686018427387904:=
 ⟨rfl,rfl,rfl,⟨by simp[PD.aR],by simp[PD.aR]⟩,by simp[PD.aR],h.Au,h.Ce⟩
def GS{n:DN}(h:(bg n).2.1=0):(bg n).1=true:=by
 unfold bg at h ⊢;dsimp only at h ⊢;split at h
 ·cases h
 ·split at h
  ·cases h
  ·split at h
   ·cases h
   ·rename_i z d E;rw[Ae z,Ae d,Ae E]
section
variable {P Q:PD} {N R:Nat} {nm old:ByteArray}
def AK.AU(h:AK P Q):P.D.AU=Q.D.AU:=by unfold DS.AU;rw[h.A4,h.AP,h.Av]
def AK.fl(h:AK P Q)(m:Bs):P.fl m=Q.fl m:=by unfold PD.fl;rw[h.A4,h.En]
def AK.bs(h:AK P Q)(m:Bs):P.bs m=Q.bs m:=by unfold PD.bs;rw[h.fl]
def AK.ak(h:AK P Q)(H:Cm Q (N+1) R)(d:(P.ak nm).1=0):(Q.ak nm).1=0/\AK (P.ak nm).2 (Q.ak nm).2/\Cm (Q.ak nm).2 N R:=by
 have L:=h.AU;unfold PD.ak CT at d ⊢;rw[h.A4]at d ⊢;by_cases z:nm=ByteArray.empty\/B4 Q.D.A4 nm≥0
 ·rw[Ai z]at d;cases d
 ·rw[Ae z]at d;rw[Ae z,Ae z];dsimp only at d ⊢;rw[GS d,H.bg,L,h.En];dsimp only
  rw[Ai rfl,Ai rfl];refine⟨rfl,⟨rfl,h.AP,by dsimp only;rw[h.Av],rfl⟩,?_⟩;have E:¬nm=ByteArray.empty:=λe=>z (.inl e);have W:lookup Q.D.A4 nm=none:=(J6 _ _).1 (by (have:¬B4 Q.D.A4 nm≥0:=λe=>z (.inr e));omega);have I:=Ge nm;have O:Q.fl nm.data.toList=none:=by unfold PD.fl;rw[I,W];rfl
  have:=(Cm.ak (nm:=nm.data.toList) H O (λe=>E (by rw[<-I,e];rfl))).2.1;rw[I]at this;unfold PD.ak CT at this;rw[Ae z]at this;dsimp only at this;rw[H.bg]at this;simpa using this
def AK.ae(h:AK P Q)(z:Cm Q (N+1) R)(d:(P.ae nm).1=0):(Q.ae nm).1=0/\AK (P.ae nm).2 (Q.ae nm).2/\Cm (Q.ae nm).2 N R:=by
 have E:=Ge nm;have key:lookup Q.D.A4 nm≠none->Cm (Q.ae nm).2 N R:=λH=>by
  cases hx:lookup Q.D.A4 nm with
  | none=>exact absurd hx H
  | some f=>
   have:=(Cm.ae (nm:=nm.data.toList) (c:=Q.F f) z (by unfold PD.fl;rw[E,hx];rfl)).2.1
   rwa [E]at this
 unfold PD.ae CG at d key ⊢;rw[h.A4]at d ⊢;cases hx:lookup Q.D.A4 nm with
 | none=>rw[hx]at d;cases d
 | some f=>
  rw[hx]at d key;dsimp only at d key ⊢;rw[d,Ai rfl];rw[z.bg]at key ⊢;dsimp only at key ⊢;rw[Ai rfl]at key ⊢;exact⟨rfl,⟨rfl,h.AP,h.Av,by dsimp only;rw[h.En]⟩,key (by simp)⟩
def AK.aJ(h:AK P Q)(z:Cm Q (N+1) R)(d:P.aJ.1=0):Q.aJ.1=0/\AK P.aJ.2 Q.aJ.2/\Cm Q.aJ.2 N R:=by
 have key:=z.aJ.2.1;refine⟨z.aJ.1,?_,key⟩;unfold PD.aJ DK at d ⊢;dsimp only at d ⊢;rw[d,Ai rfl,z.bg];dsimp only
 rw[Ai rfl];exact⟨h.A4,h.A4,rfl,h.En⟩
def AK.aH(h:AK P Q)(E:Cm Q (N+1) R)(d:(P.aH nm).1=0):(Q.aH nm).1=0/\AK (P.aH nm).2 (Q.aH nm).2/\Cm (Q.aH nm).2 N R:=by
 have H:=Ge nm;have key:lookup Q.D.A4 nm≠none->(Q.aH nm).1=0/\Cm (Q.aH nm).2 N R:=λO=>by
  cases z:lookup Q.D.A4 nm with
  | none=>exact absurd z O
  | some f=>
   have:=(Cm.aH (nm:=nm.data.toList) (c:=Q.F f) E (by unfold PD.fl;rw[H,z];rfl));rw[H]at this;exact⟨this.1,this.2.1⟩
 have z:¬B4 Q.D.A4 nm<0:=λz=>by
  unfold PD.aH Dh at d;rw[h.A4,Ai z]at d;cases d
 obtain⟨I,L⟩:=key λe=>z ((J6 _ _).2 e);refine⟨I,?_,L⟩;unfold PD.aH Dh at d ⊢;rw[h.A4,Ae z]at d;rw[h.A4,Ae z,Ae z];dsimp only at d ⊢;rw[GS d,E.bg];dsimp only
 rw[Ai rfl,Ai rfl];exact⟨rfl,h.AP,by dsimp only;rw[h.Av],h.En⟩
def AK.aO(h:AK P Q)(I:Cm Q (N+1) R)(L:old≠nm)(d:(P.aO old nm).1=0):(Q.aO old nm).1=0/\AK (P.aO old nm).2 (Q.aO old nm).2/\Cm (Q.aO old nm).2 N R:=by
 have H:=Ge nm;have E:=Ge old;unfold PD.aO CV at d;rw[h.A4]at d;cases hx:lookup Q.D.A4 old with
 | none=>rw[hx]at d;cases d
 | some f=>
  rw[hx]at d;dsimp only at d;by_cases z:nm=ByteArray.empty
  ·rw[Ai z]at d;cases d
  ·rw[Ae z]at d;dsimp only at d;have key:=Cm.aO (nm:=nm.data.toList) (old:=old.data.toList) (c:=Q.F f) I (by unfold PD.fl;rw[E,hx];rfl) (λe=>z (by rw[<-H,e];rfl)) (λe=>L (by rw[<-H,<-E,e]));rw[H,E]at key;refine⟨key.1,?_,key.2.1⟩;unfold PD.aO CV;rw[h.A4,hx];dsimp only
   rw[Ae z,Ae z];dsimp only
   rw[GS d,I.bg];dsimp only
   rw[Ai rfl,Ai rfl];exact⟨rfl,h.AP,by dsimp only;rw[h.Av],h.En⟩
def AK.an{l:Bs}(h:AK P Q)(W:Cm Q (N+1) R)(hl:l.length<=R)(d:(P.an nm l).1=0):(Q.an nm l).1=0/\AK (P.an nm l).2 (Q.an nm l).2/\Cm (Q.an nm l).2 N (R-l.length):=by
 have hn:=Ge nm;have O:¬(bg P.D.n).2.1≠0:=λz=>by
  unfold PD.an Bp at d;rw[h.A4]at d;cases hx:lookup Q.D.A4 nm with
  | none=>rw[hx]at d;cases d
  | some f=>
   rw[hx]at d;dsimp only at d;have E:∀D Y,(BB D P.F f (A9 l) Y (bg P.D.n).2.1).1≠0:=λD Y=>by
    unfold BB;split
    ·dsimp only;first|exact z|(rw[Ae z];exact z)
    ·exact z
   split at d
   ·exact E _ _ d
   ·split at d
    ·exact E _ _ d
    ·exact z d
 have z:(bg P.D.n).2.1=0:=by
  by_cases e:(bg P.D.n).2.1=0
  ·exact e
  ·exact absurd e O
 cases hx:lookup Q.D.A4 nm with
 | none=>
  unfold PD.an Bp at d;rw[h.A4,hx]at d;cases d
 | some f=>
  have key:=Cm.an (nm:=nm.data.toList) (c:=Q.F f) W (by unfold PD.fl;rw[hn,hx];rfl) l hl;rw[hn]at key;refine⟨key.1,?_,key.2.1⟩;have I:∀D:DS,D.A4=Q.D.A4->D.n.AG=Q.D.n.AG->¬((A9 l).size:Int)>G2 D Q.F:=λD h1 L=>by
   have:=W.AG;unfold G2;rw[h1,L,KU];omega
  unfold PD.an Bp at d ⊢;rw[h.A4,hx]at d;rw[h.A4,hx];dsimp only at d ⊢;rw[GS z,Ai rfl,z]at d;rw[GS z,Ai rfl,z,W.bg];dsimp only
  rw[Ai rfl];unfold BB at d ⊢;split at d
  ·simp at d
  ·rename_i H;rw[Ae H];split
   ·rename_i L;exact absurd L (I _ rfl rfl)
   ·exact⟨rfl,h.AP,h.Av,by dsimp only;rw[h.En]⟩
end
def nn{x:Int}(h:x=0):¬x≠0:=λk=>k h
section
variable {P Q:PD} {N R:Nat} {nm old:Bs} {A:Ar} {J:Jn}
def AK.Ay(h:AK P Q):P.Ay=Q.Ay:=by unfold PD.Ay;rw[h.A4]
def AK.aV(h:AK P Q):A.aV P=A.aV Q:=by unfold Ar.aV;rw[h.Ay]
def AK.aX(h:AK P Q)(n a:Int):P.aX n a=Q.aX n a:=by
 unfold PD.aX Gz DQ;rw[h.A4,h.En]
def AK.bp(h:AK P Q):∀(l:List Int) (d:List Pu),P.bp l d=Q.bp l d
 | [],_=>rfl
 | n::r,d=>by simp only[PD.bp];rw[h.aX,h.bp r]
def AK.puts(h:AK P Q)(l:List Int):P.puts l=Q.puts l:=h.bp l []
def AK.Cp(h:AK P Q)(m:Bs):P.Cp m=Q.Cp m:=by unfold PD.Cp DQ;rw[h.A4,h.En]
def AK.a1(h:AK P Q)(m:Bs):P.a1 m=Q.a1 m:=by unfold PD.a1;rw[h.Cp]
def AK.Cy(h:AK P Q)(n:Int):P.Cy n=Q.Cy n:=by unfold PD.Cy;rw[h.a1]
def AK.segs(h:AK P Q):∀l:List Int,P.segs l=Q.segs l
 | []=>rfl
 | n::r=>by simp only[PD.segs];rw[h.Cy,h.segs r]
def AK.bW{s:Nat}{l:Bs}(h:AK P Q)(L:Cm Q (N+1) R)(hl:l.length+4<=R)(d:(P.ad (A9 nm) s l).2.1=0):
 (P.ad (A9 nm) s l).1=(Q.ad (A9 nm) s l).1/\(Q.ad (A9 nm) s l).2.1=0/\AK (P.ad (A9 nm) s l).2.2 (Q.ad (A9 nm) s l).2.2/\Cm (Q.ad (A9 nm) s l).2.2 N (R-(l.length+4)):=by
 have H:=EE s l;obtain⟨I,z,E⟩:=h.an (nm:=A9 nm) (l:=AT s l) L (by omega) d;rw[H]at E;refine⟨?_,I,z,E⟩;have e:∀X:PD,(X.ad (A9 nm) s l).1=decide ((CH (X.an (A9 nm) (AT s l)).2.D (X.an (A9 nm) (AT s l)).2.F (A9 nm)).1-(CH X.D X.F (A9 nm)).1=(AT s l).length):=λX=>rfl;rw[e P,e Q];unfold CH;rw[z.A4,z.En,h.A4,h.En]
def AK.aI{s:Nat}{l:Bs}(h:AK P Q)(hc:Cm Q (N+3) R)(I:l.length+4<=R)(d:(P.aI nm s l).1=0):
 (Q.aI nm s l).1=0/\AK (P.aI nm s l).2 (Q.aI nm s l).2/\Cm (Q.aI nm s l).2 N (R-(l.length+4)):=by
 unfold PD.aI at d ⊢;by_cases E:(P.ak (A9 nm)).1=0
 ·rw[Ae (nn E)]at d;obtain⟨L,O,Y⟩:=h.ak (N:=N+2) (nm:=A9 nm) hc E;by_cases z:((P.ak (A9 nm)).2.ad (A9 nm) s l).2.1=0
  ·rw[Ae (nn z)]at d;obtain⟨-,H,W,b3⟩:=O.bW (N:=N+1) (nm:=nm) Y I z;obtain⟨c1,c2,c3⟩:=W.ae (N:=N) (nm:=A9 nm) b3 d;rw[Ae (nn E),Ae (nn z),Ae (nn L),Ae (nn H)];exact⟨c1,c2,c3⟩
  ·rw[Ai z]at d;exact absurd d z
 ·rw[Ai E]at d;exact absurd d E
def AK.az:∀(l:List Bs) {P Q:PD},AK P Q->Cm Q (N+l.length) R->(PD.az l P).1=0->(PD.az l Q).1=0/\AK (PD.az l P).2 (PD.az l Q).2/\Cm (PD.az l Q).2 N R
 | [],P,Q,h,hc,_=>⟨rfl,h,hc⟩
 | x::r,P,Q,h,hc,hok=>by
  unfold PD.az at hok ⊢;by_cases d:(P.ae (A9 x)).1=0
  ·rw[Ae (nn d)]at hok;obtain⟨E,z,H⟩:=h.ae (N:=N+r.length) (nm:=A9 x) (by simpa[Nat.add_assoc] using hc) d;rw[Ae (nn d),Ae (nn E)];exact AK.az r z H hok
  ·rw[Ai d]at hok;exact absurd hok d
def AK.aL:∀(l:List Bs) {P Q:PD},AK P Q->Cm Q (N+l.length) R->(PD.aL l P).1=0->(PD.aL l Q).1=0/\AK (PD.aL l P).2 (PD.aL l Q).2/\Cm (PD.aL l Q).2 N R
 | [],P,Q,h,hc,_=>⟨rfl,h,hc⟩
 | x::r,P,Q,h,hc,hok=>by
  unfold PD.aL at hok ⊢;by_cases d:(P.aH (A9 x)).1=0
  ·rw[Ae (nn d)]at hok;obtain⟨E,z,H⟩:=h.aH (N:=N+r.length) (nm:=A9 x) (by simpa[Nat.add_assoc] using hc) d;rw[Ae (nn d),Ae (nn E)];exact AK.aL r z H hok
  ·rw[Ai d]at hok;exact absurd hok d
def AK.C(h:AK P Q)(L:Cm Q (N+A.AQ.length) R)(d:(A.C P).1=0):(A.C Q).1=0/\(A.C P).2.1=(A.C Q).2.1/\AK (A.C P).2.2 (A.C Q).2.2/\Cm (A.C Q).2.2 N R:=by
 unfold Ar.C at d ⊢;by_cases z:(P.az A.AQ).1=0
 ·obtain⟨H,E,I⟩:=AK.az A.AQ h L z;rw[Ae (nn z),Ae (nn H)];exact⟨rfl,rfl,E,I⟩
 ·rw[Ai z]at d;exact absurd d z
def AK.av(h:AK P Q)(z:Cm Q (N+(A.aV Q).length) R)(d:(A.av P).1=0):(A.av Q).1=0/\AK (A.av P).2 (A.av Q).2/\Cm (A.av Q).2 N R:=by
 unfold Ar.av at d ⊢;rw[h.aV]at d ⊢;exact AK.aL _ h z d
def AK.ax(h:AK P Q)(hc:Cm Q (N+2) R)(hR:12<=R)(d:(J.ax P).1=0):(J.ax Q).1=0/\(J.ax P).2.1=(J.ax Q).2.1/\AK (J.ax P).2.2 (J.ax Q).2.2/\Cm (J.ax Q).2.2 N (R-12):=by
 unfold Jn.ax at d ⊢;by_cases z:(P.ak (A9 (Ah (J.Aa+1)))).1=0
 ·rw[Ae (nn z)]at d;obtain⟨L,O,Y⟩:=h.ak (N:=N+1) hc z;dsimp only at d ⊢;by_cases E:((P.ak (A9 (Ah (J.Aa+1)))).2.ad (A9 (Ah (J.Aa+1))) (AH (Ah (J.Aa+1))) (AS J.puts)).2.1=0
  ·obtain⟨-,I,W,H⟩:=O.bW (N:=N) (nm:=Ah (J.Aa+1)) (s:=AH (Ah (J.Aa+1))) (l:=AS J.puts) Y (by rw[CP];omega) E;rw[CP]at H;rw[Ae (nn z),Ae (nn E),Ae (nn L),Ae (nn I)];exact⟨rfl,rfl,W,H⟩
  ·rw[Ai E]at d;exact absurd d E
 ·rw[Ai z]at d;exact absurd d z
def AK.aw(h:AK P Q)(E:Cm Q (N+1) R)(hR:21<=R)(p:Pu)(d:(J.aw P p).2.1=0):(J.aw P p).1=(J.aw Q p).1/\(J.aw Q p).2.1=0/\(J.aw P p).2.2.1=(J.aw Q p).2.2.1/\AK (J.aw P p).2.2.2 (J.aw Q p).2.2.2/\Cm (J.aw Q p).2.2.2 N (R-21):=by
 unfold Jn.aw at d ⊢;cases hx:J.AB with
 | none=>exact⟨rfl,rfl,rfl,h,E.aa (by omega) (by omega)⟩
 | some x=>
  obtain⟨n,s⟩:=x;rw[hx]at d;dsimp only at d ⊢;obtain⟨I,H,L,z⟩:=h.bW (N:=N) (nm:=Ah n) E (by rw[EY];omega) d;rw[EY]at z;exact⟨I,H,rfl,L,z⟩
def AK.e6(h:AK P Q)(z:Cm Q (N+1) R)(d:(J.ae P).1=0):(J.ae Q).1=0/\AK (J.ae P).2 (J.ae Q).2/\Cm (J.ae Q).2 N R:=by
 unfold Jn.ae at d ⊢;cases hx:J.AB with
 | none=>exact⟨rfl,h,z.aa (by omega) (As _)⟩
 | some x=>
  obtain⟨n,s⟩:=x;rw[hx]at d;exact h.ae (N:=N) z d
def AK.ah:∀(fresh:List (List Pu)) (last:Int) (kept:List Int) {P Q:PD},AK P Q->Cm Q (N+3*fresh.length) (R+Dk fresh)->(PD.ah fresh last kept P).1=0->
 (PD.ah fresh last kept Q).1=0/\(PD.ah fresh last kept P).2.1=(PD.ah fresh last kept Q).2.1/\(PD.ah fresh last kept P).2.2.1=(PD.ah fresh last kept Q).2.2.1/\AK (PD.ah fresh last kept P).2.2.2 (PD.ah fresh last kept Q).2.2.2/\Cm (PD.ah fresh last kept Q).2.2.2 N R
 | [],last,kept,P,Q,h,hc,_=>⟨rfl,rfl,rfl,h,by simpa[Dk,PD.ah] using hc⟩
 | l::r,last,kept,P,Q,h,hc,hok=>by
  have z:Dk (l::r)=(17*l.length+4)+Dk r:=by simp[Dk]
  have d:∀X:PD,PD.ah (l::r) last kept X=if (X.aK (last+1) l).1≠0 then ((X.aK (last+1) l).1,last+1,kept,(X.aK (last+1) l).2) else PD.ah r (last+1) (kept++[last+1]) (X.aK (last+1) l).2:=λ_=>rfl
  rw[d P]at hok;rw[d P,d Q];by_cases E:(P.aK (last+1) l).1=0
  ·rw[Ae (nn E)]at hok;obtain⟨L,O,H⟩:=AK.aI (N:=N+3*r.length) (R:=R+Dk (l::r)) (nm:=AJ (last+1)) (s:=AH (AJ (last+1))) (l:=Cf l) h (hc.aa (by simp;omega) (As _)) (by rw[I4,z];omega) E;rw[I4]at H;have I:(Q.aK (last+1) l).1=0:=L;rw[Ae (nn E),Ae (nn I)];exact AK.ah r (last+1) (kept++[last+1]) O (H.aa (As _) (by rw[z];omega)) hok
  ·rw[Ai E]at hok;exact absurd hok E
def AK.cU{d:Int}{segs:List Int}(h:AK P Q)(hc:Cm Q (N+4) R)(hR:12+8*segs.length<=R)(z:(P.ag d segs).1=0):(Q.ag d segs).1=0/\AK (P.ag d segs).2 (Q.ag d segs).2/\Cm (Q.ag d segs).2 N (R-(12+8*segs.length)):=by
 have L:(Ci d segs).length=8+8*segs.length:=by unfold Ci;rw[B1,CP,J5]
 unfold PD.ag at z ⊢;by_cases E:(P.aI Bo (AH AL) (Ci d segs)).1=0
 ·rw[Ae (nn E)]at z;obtain⟨O,W,a3⟩:=h.aI (N:=N+1) hc (by omega) E;obtain⟨I,Y,H⟩:=W.aO (N:=N) a3 (λe=>J4 (FY.1 e).symm) z;rw[Ae (nn E),Ae (nn O)];exact⟨I,Y,by rw[L]at H;exact H.aa (As _) (by omega)⟩
 ·rw[Ai E]at z;exact absurd z E
def AK.cB{segs:List Int}(h:AK P Q)(H:Cm Q (N+4) R)(O:12+8*segs.length<=R)(d:(A.ag P segs).1=0):(A.ag Q segs).1=0/\(A.ag P segs).2.1=(A.ag Q segs).2.1/\AK (A.ag P segs).2.2 (A.ag Q segs).2.2/\Cm (A.ag Q segs).2.2 N (R-(12+8*segs.length)):=by
 unfold Ar.ag at d ⊢;by_cases z:A.ix.B8=A.j.Aa+1/\A.ix.segs=segs
 ·rw[Ai z,Ai z];exact⟨rfl,rfl,h,H.aa (by omega) (by omega)⟩
 ·rw[Ae z]at d;rw[Ae z,Ae z];by_cases E:(P.ag (A.j.Aa+1) segs).1=0
  ·obtain⟨I,L,W⟩:=h.cU H O E;rw[Ae (nn E),Ae (nn I)];exact⟨rfl,rfl,L,W⟩
  ·rw[Ai E]at d;exact absurd d E
end
end
end Go.Proofs.YtodcnkbblippnaaGreatDoor
