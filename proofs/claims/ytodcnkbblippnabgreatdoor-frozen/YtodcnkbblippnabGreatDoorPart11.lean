/- Part 11 of a proof: walks of the program. -/
import Derived.Shelf.Spec.SearchS
import Derived.Shelf.SlicesE.Clone
import Derived.Test.YtodcnkbblippnabGreatDoorPart10
namespace Go.Proofs.YtodcnkbblippnabGreatDoor
set_option maxRecDepth 100000
set_option maxHeartbeats 32000000
set_option linter.defProp false
open Go.Proofs.Tryz
section
open Go.RowKit
attribute [local go_sem ↓] CE
def Oe{w:World}{jb b:Nat}{lv ov:Value}{J:Jn}(h:Dv w jb b lv ov J){n:Int}{s:Nat}(z:J.AF=some (n,s)):∃lb,ov=(A5 lb)/\Bc w lb 196 (A5 b) ⟨(Ae n).toArray⟩ s/\s<4294967296:=by
 rcases h.AF with⟨d,_⟩|⟨n',s',lb,d,E,I,H⟩
 ·rw[z]at d;cases d
 ·rw[z]at d;cases d;exact⟨lb,E,I,H⟩
section
variable {w w' w1 w2:World} {b B jb lb pb:Nat} {P:PD} {Ft FT:Nat->Prop} {a c m:Nat} {lv ov:Value} {J:Jn} {n:Int} {s:Nat}
def Dv.e3{P':PD}(E:Dv w jb b lv (.pointer (some ⟨lb,0,none⟩)) J)(ho:J.AF=some (n,s))(_hlt:∀k,Ft k->k<w.heap.size)(z:∀k,Df jb lv (.pointer (some ⟨lb,0,none⟩)) k->¬Ft k)(d:∀k,Ft k\/Df jb lv (.pointer (some ⟨lb,0,none⟩)) k->FT k){s':Nat}(L:s'<4294967296)(hf:Bc w' lb 196 (.pointer (some ⟨b,0,none⟩)) ⟨(Ae n).toArray⟩ s')(hI:J5 w Ft lb w' b P'):
 Ap w FT w' (λw' W=>JD w' jb b {J with AF:=some (n,s')} P' W):=by
 obtain⟨lb',e,h3,_⟩:=Oe E ho;cases e;obtain⟨O,Ft',r2,r3,Y⟩:=hI;have n1:lb≠jb:=h3.dz E.Ag;have n2:∀g,lv.ownBlock=some g->g≠lb:=λg I=>h3.cU E.Aj I;refine Ap.jd O ?_ ⟨E.Ag.ak O ?_,?_,.inr ⟨n,s',lb,rfl,rfl,hf,L⟩⟩ r2 r3 ?_ ?_ ?_
 ·rintro k _ (h|rfl)
  ·exact d k (.inl h)
  ·exact d _ (.inr (.inr (.inr rfl)))
 ·rintro (h|h)
  ·exact z _ (.inl rfl) h
  ·exact n1 h.symm
 ·exact Ay E.Aj λg I=>O.Al g (Az E.Aj I) λh=>by
   rcases h with h|h
   ·exact z g (.inr (.inl I)) h
   ·exact n2 g I h
 ·exact λk H hx=>by
   rcases Y k hx with h|h
   ·exact z k H h
   ·have:=E.lt H;omega
 ·exact λk H=>(Y k H).imp (λh=>d k (.inl h)) id
 ·exact λk H=>.inl (d k (.inr H))
def Zs(w:World)(p:Pu)(h:JD w jb b J P FT)(hp:Bg p)(hn:J.AF=none->CD (J.A8+1)/\AW (J.A8+1)/\AW J.puts)(bK:J.Aj.length<=1073741824)(hL:Lets B w)(hF:Fit P a c m)(hl:CM (a+1) (c+1) (m+33)):
 Ah 99 #[A5 jb,Dr p] w (Am (.tuple #[.bool (J.aa P p).1,A0 (J.aa P p).2.1]) λw'=>Ap w FT w' (λw' H=>JD w' jb b (J.aa P p).2.2.1 (J.aa P p).2.2.2 H)):=by
 obtain⟨E,z,d⟩:=p;unfold Dr;dsimp only
 obtain⟨L,I,O,aD,bI,aL,aM,aG⟩:=h;have a8:CM (a+1) (c+1) (m+12):=⟨hl.a,hl.c,by have:=hl.m;omega⟩;have bJ:C5 (w.aC #[A0 E,A0 z,A0 d] 90) w.heap.size E z d:=BK w _;have k0:A3 Aa w (w.aC #[A0 E,A0 z,A0 d] 90):=(A3.I _ w).aj _;have sz:w.heap.size<(w.aC #[A0 E,A0 z,A0 d] 90).heap.size:=by simp
 have hex:JD w jb b J P (λk=>O k\/Df jb L I k):=⟨L,I,O,aD,bI,aL,aM,λ_ h=>h⟩;have aN:∀k,(O k\/Df jb L I k)->k<w.heap.size:=λk hk=>hk.elim (aL k) λh=>aD.lt h;have h1:JD (w.aC #[A0 E,A0 z,A0 d] 90) jb b J P (λk=>O k\/Df jb L I k):=hex.aP (k0.aI aN λ_ _ h=>h) k0.Ak;have bB:=hL.aS k0
 have AD:Hid (∀(w1:World) (aA:Jn) (aB:PD) (Y:Nat->Prop) (n:Int) (s:Nat),A3 (λk=>O k\/Df jb L I k) (w.aC #[A0 E,A0 z,A0 d] 90) w1->(∀k,Y k->(O k\/Df jb L I k)\/(w.aC #[A0 E,A0 z,A0 d] 90).heap.size<=k)->JD w1 jb b aA aB Y->aA.AF=some (n,s)->Fit aB (a+1) (c+1) (m+12)->
  ∃lb,A6 w1 jb 4 (A5 lb)/\C5 w1 w.heap.size E z d/\Ah 144 #[A5 lb,.agg #[A0 E,A0 z,A0 d]] w1.drew (Am (.tuple #[.bool (aA.aw aB (E,z,d)).1,A0 (aA.aw aB (E,z,d)).2.1]) λw'=>
   w'.cell? (Ab jb 4)=some (A5 lb)/\C5 w' w.heap.size E z d/\Ap w FT w' (λw' H=>JD w' jb b (aA.aw aB (E,z,d)).2.2.1 (aA.aw aB (E,z,d)).2.2.2 H))):=λw1 aA aB Y n s aV aQ bH aR bF=>by
  obtain⟨lv,ov,Ft,hJ,hD,aO,aE,aF⟩:=bH;obtain⟨lb,rfl,h3,h4⟩:=Oe hJ aR;have aJ:=bJ.ak aV (λhx=>by have:=aN _ hx;omega);have a0:¬Y w.heap.size:=λhx=>by
   rcases aQ _ hx with h|h
   ·have:=aN _ h;omega
   ·omega
  have kd:A3 Aa w1 w1.drew:=(A3.I _ w1).af;have a3:=hJ.aJ kd;have aK:∀k,Ft k->k<w1.drew.heap.size:=aO;refine⟨lb,hJ.Ag.c4,aJ,(A2H (E,z,d) _ s (h3.ak kd (λh=>h)) h4 (B3.aI hD aO kd) aK (λhx=>aE _ (.inr (.inr rfl)) hx) hp bF ⟨hl.a,hl.c,by have:=hl.m;omega⟩).mono ?_⟩;rintro e w'⟨rfl,hf,hI⟩;have he:aA.aw aB (E,z,d)=((aB.aa (A7 (Ae n)) s (Bb E z d)).1,(aB.aa (A7 (Ae n)) s (Bb E z d)).2.1,{aA with AF:=some (n,AU s (Bb E z d))},(aB.aa (A7 (Ae n)) s (Bb E z d)).2.2):=by unfold Jn.aw;rw[aR]
  rw[he];have bC:=Dv.e3 a3 aR aK aE aF (J8 s (Bb E z d) h4) hf hI
  have bA:CC w' jb b lv aA.A8 aA.puts (A5 lb):=a3.Ag.ak hI.1 (by
   rintro (h|h)
   ·exact aE _ (.inl rfl) h
   ·exact h3.dz hJ.Ag h.symm)
  refine⟨rfl,bA.c4,aJ.af.ak hI.1 (by
   rintro (h|h)
   ·exact a0 (aF _ (.inl h))
   ·exact a0 (aF _ (.inr (.inr (.inr (by rw[h])))))),?_⟩
  have hall:Ap (w.aC #[A0 E,A0 z,A0 d] 90) (λk=>O k\/Df jb L I k) w' (λw' H=>JD w' jb b {aA with AF:=some (n,AU s (Bb E z d))} (aB.aa (A7 (Ae n)) s (Bb E z d)).2.2 H):=by
   obtain⟨q1,a7,q2,q3,q4⟩:=bC.a7 kd;exact⟨aV.Av q1 λx hx aO=>(aQ x hx).resolve_right (by omega),a7,q2,q3,λk hk=>(q4 k hk).elim (λh=>aQ k h) λh=>.inr (AQ aV.Ak h)⟩
  exact(hall.a7 k0).a6 aG
 by_cases ho:J.AF=none
 case pos=>
  have aX:I=.pointer none:=by
   rcases aD.AF with⟨_,h⟩|⟨n,s,lb,h,_⟩
   ·exact h
   ·rw[ho]at h;cases h
  obtain⟨n1,n2,n3⟩:=hn ho;have a4:=A1 (A13 _ h1 ho n1 n2 n3 bK bB hF a8);have c4:=(aD.aJ k0).Ag.c4;rw[aX]at c4;have aY:Hid (J.aa P (E,z,d)=if (J.av P).1≠0 then (false,(J.av P).1,(J.av P).2.1,(J.av P).2.2) else (J.av P).2.1.aw (J.av P).2.2 (E,z,d)):=by unfold Hid Jn.aa;rw[Af ho]
  have aT:Hid (Fit (J.av P).2.2 (a+1) (c+1) (m+12)):=by
   (have hp:(AR (AE (Ae (J.A8+1))) (AO J.puts)).length=12:=by simp[AR,H3,CJ]);have a2:=hF.ai (A7 (Ae (J.A8+1)));have aP:=a2.an (A7 (Ae (J.A8+1))) (AR (AE (Ae (J.A8+1))) (AO J.puts));rw[hp]at aP;unfold Hid Jn.av;split
   ·exact a2.ad (Au _) (Au _) (by omega)
   ·dsimp only
    split
    ·exact aP
    ·exact aP
  have bD:Hid ((J.av P).1=0->∃n s,(J.av P).2.1.AF=some (n,s)):=λh0=>by
   unfold Jn.av at h0 ⊢;split
   ·rename_i hc;rw[Af hc]at h0;exact absurd h0 hc
   ·rename_i hc;rw[Ac hc]at h0;dsimp only at h0 ⊢;split
    ·rename_i hd;rw[Af hd]at h0;exact absurd h0 hd
    ·exact⟨_,_,rfl⟩
  have bG:Hid (∀wx bE bL,Ap (w.aC #[A0 E,A0 z,A0 d] 90) (λk=>O k\/Df jb L I k) wx (λw' H=>JD w' jb b bE bL H)->Ap w FT wx (λw' H=>JD w' jb b bE bL H)):=λwx bE bL hx=>(hx.a7 k0).a6 aG
  generalize hR:J.aa P (E,z,d)=R at aY ⊢;generalize hG:J.av P=G at a4 aY aT bD;obtain⟨a9,a6,a5⟩:=G;dsimp only at a4 aY aT bD;by_cases hg:a9=0
  case neg=>
   (have aH:R=(false,a9,a6,a5):=by rw[aY.o,Af hg]);subst aH;(have hgb:(a9 !=0)=true:=by simpa using hg)
   go_enter func99,ntmps99
   go_wp2_with (go_at_call 143;refine a4.m ?_;rintro e w2⟨rfl,hI⟩;have aZ:=A1 (bG.o _ _ _ hI));go_ret2;exact⟨rfl,aZ.o⟩
  case pos=>
   subst hg;(have aH:R=a6.aw a5 (E,z,d):=by rw[aY.o,Ac (by simp)]);obtain⟨n,s,aI⟩:=bD.o rfl
   have a1:Hid (∀w2,Ap (w.aC #[A0 E,A0 z,A0 d] 90) (λk=>O k\/Df jb L I k) w2 (λw' H=>JD w' jb b a6 a5 H)->∃lb,A6 w2 jb 4 (A5 lb)/\C5 w2 w.heap.size E z d/\Ah 144 #[A5 lb,.agg #[A0 E,A0 z,A0 d]] w2.drew (Am (.tuple #[.bool R.1,A0 R.2.1]) λw'=>
    w'.cell? (Ab jb 4)=some (A5 lb)/\C5 w' w.heap.size E z d/\Ap w FT w' (λw' H=>JD w' jb b R.2.2.1 R.2.2.2 H))):=λw2 hI=>by
    obtain⟨q1,Y,q2,q3,q4⟩:=hI;rw[aH];exact AD.o w2 a6 a5 Y n s q1 q4 q2 aI aT.o
   obtain⟨bO,bN,bM,bP⟩:=R;dsimp only at a1
   go_enter func99,ntmps99
   go_wp2_with (fail);refine a4.m ?_;rintro e w2⟨rfl,hI⟩;obtain⟨lb,aU,W,aW⟩:=a1.o w2 hI;have aS:=A1 aW;have d4:A6 w2.drew jb 4 (A5 lb):=aU;have d0:=W.af.c0;have d1:=W.af.c1;have d2:=W.af.c2;go_wp2;refine C3 (λw'=>A6 w' jb 4 (A5 lb)/\A6 w' w.heap.size 0 (A0 E)/\A6 w' w.heap.size 1 (A0 z)/\A6 w' w.heap.size 2 (A0 d)) 8
    (Bz [0,1,2,3,4,5,6,7] [5]) ⟨d4,d0,d1,d2⟩ ?_
   iterate 5 (refine Bj ?_;(try simp only[Ao]))
   refine Bt λK hK=>?_;go_simp;refine aS.m ?_;rintro e w3⟨rfl,e4,eb,hI⟩;refine hK _ _ ⟨e4,eb.c0,eb.c1,eb.c2⟩ (λhS=>?_);have aZ:=A1 hI
   (try simp only[Ao])
   iterate 2 (refine Bj ?_;(try simp only[Ao]))
   refine Bo ?_;simp only[BO,BN];go_wp2;go_ret2;exact⟨rfl,aZ.o⟩
 case neg=>
  obtain⟨⟨n,s⟩,aI⟩:∃x,J.AF=some x:=L3.1 ho;obtain⟨lb0,aX,-,-⟩:=Oe aD aI;have aH:J.aa P (E,z,d)=J.aw P (E,z,d):=by unfold Jn.aa;rw[Ac ho]
  obtain⟨lb,aU,W,aW⟩:=AD.o _ J P _ n s (A3.I _ _) (λk hk=>.inl hk) h1 aI (hF.ad (by omega) (by omega) (by omega));rw[<-aH]at aW;generalize hR:J.aa P (E,z,d)=R at aW ⊢;obtain⟨bO,bN,bM,bP⟩:=R;dsimp only at aW ⊢;have aS:=A1 aW;have d4:(w.aC #[A0 E,A0 z,A0 d] 90).drew.cell? (Ab jb 4)=some (A5 lb):=aU;have d0:=W.af.c0;have d1:=W.af.c1;have d2:=W.af.c2
  go_enter func99,ntmps99
  go_wp2;refine C3 (λw'=>A6 w' jb 4 (A5 lb)/\A6 w' w.heap.size 0 (A0 E)/\A6 w' w.heap.size 1 (A0 z)/\A6 w' w.heap.size 2 (A0 d)) 8
   (Bz [0,1,2,3,4,5,6,7] [5]) ⟨d4,d0,d1,d2⟩ ?_
  iterate 5 (refine Bj ?_;(try simp only[Ao]))
  refine Bt λK hK=>?_;go_simp;refine aS.m ?_;rintro e w3⟨rfl,e4,eb,hI⟩;refine hK _ _ ⟨e4,eb.c0,eb.c1,eb.c2⟩ (λhS=>?_);have aZ:=A1 hI
  (try simp only[Ao])
  iterate 2 (refine Bj ?_;(try simp only[Ao]))
  refine Bo ?_;simp only[BO,BN];go_wp2;go_ret2;exact⟨rfl,aZ.o⟩
end
end
section
open Go.RowKit
def CZ(w:World)(ab b xb jb:Nat)(last:Int)(ov:Value):Prop:=w.heap[ab]?=some (.cells #[.pointer (some ⟨b,0,none⟩),.pointer (some ⟨xb,0,none⟩),.pointer (some ⟨jb,0,none⟩),.int .i64 last,ov] 108 (0,0))
section
variable {w w':World} {ab b xb jb:Nat} {last:Int} {ov:Value}
def CZ.c0(h:CZ w ab b xb jb last ov):A6 w ab 0 (A5 b):=by unfold CZ at h;simp[A6,World.cell?,h]
def CZ.c1(h:CZ w ab b xb jb last ov):A6 w ab 1 (A5 xb):=by unfold CZ at h;simp[A6,World.cell?,h]
def CZ.c2(h:CZ w ab b xb jb last ov):A6 w ab 2 (A5 jb):=by unfold CZ at h;simp[A6,World.cell?,h]
def CZ.c3(h:CZ w ab b xb jb last ov):A6 w ab 3 (A0 last):=by unfold CZ at h;simp[A6,World.cell?,h]
def CZ.c4(h:CZ w ab b xb jb last ov):A6 w ab 4 ov:=by unfold CZ at h;simp[A6,World.cell?,h]
def CZ.fz(h:CZ w ab b xb jb last ov)(o:Nat):w.frozen? (Ab ab o)=false:=by unfold CZ at h;simp[World.frozen?,h]
def CZ.lt(h:CZ w ab b xb jb last ov):ab<w.heap.size:=Bw h
def CZ.s3(h:CZ w ab b xb jb last ov)(x:Int):CZ (w.setCell (Ab ab 3) (A0 x)) ab b xb jb x ov:=CH h
def CZ.s4(h:CZ w ab b xb jb last ov)(x:Value):CZ (w.setCell (Ab ab 4) x) ab b xb jb last x:=CH h
def CZ.af(h:CZ w ab b xb jb last ov):CZ w.drew ab b xb jb last ov:=by unfold CZ at h ⊢;exact h
def CZ.ak{S:Nat->Prop}(h:CZ w ab b xb jb last ov)(d:A3 S w w')(z:¬S ab):CZ w' ab b xb jb last ov:=d.ak h z
end
def F7(ab xb jb:Nat)(sv ov lv jo:Value)(k:Nat):Prop:=k=ab\/k=xb\/sv.ownBlock=some k\/ov.ownBlock=some k\/Df jb lv jo k
structure Cj (w:World) (ab b xb jb:Nat) (sv ov lv jo:Value) (A:Ar) (P:PD) (Ft:Nat->Prop):Prop where
 Ag:CZ w ab b xb jb A.A8 ov
 ix:BZ w xb 122 b AI (AE AI) A.ix.B7 sv
 segs:D2 w sv A.ix.segs
 AN:Gw w ov A.AN
 jn:Dv w jb b lv jo A.j
 dk:Bh w b P Ft
 lt:∀k,Ft k->k<w.heap.size
 Db:∀k,F7 ab xb jb sv ov lv jo k->¬Ft k
 F9:∀g,sv.ownBlock=some g->g≠ab/\g≠xb/\¬Df jb lv jo g
 FY:∀g,ov.ownBlock=some g->g≠ab/\g≠xb/\¬Df jb lv jo g
 Fs:∀k,Df jb lv jo k->k≠ab/\k≠xb
def AD(w:World)(ab b:Nat)(A:Ar)(P:PD)(FT:Nat->Prop):Prop:=
 ∃xb jb sv ov lv jo Ft,Cj w ab b xb jb sv ov lv jo A P Ft/\∀k,Ft k\/F7 ab xb jb sv ov lv jo k->FT k
section
variable {w w':World} {ab b xb jb:Nat} {sv ov lv jo:Value} {A:Ar} {P P':PD} {Ft FT:Nat->Prop}
def Cj.bH(h:Cj w ab b xb jb sv ov lv jo A P Ft){k:Nat}(d:F7 ab xb jb sv ov lv jo k):k<w.heap.size:=by
 rcases d with rfl|rfl|d|d|d
 ·exact h.Ag.lt
 ·exact h.ix.lt
 ·exact h.segs.lt d
 ·exact h.AN.lt d
 ·exact h.jn.lt d
def Cj.bX(h:Cj w ab b xb jb sv ov lv jo A P Ft){k:Nat}(d:Ft k\/F7 ab xb jb sv ov lv jo k):k<w.heap.size:=d.elim (h.lt k) h.bH
def Cj.ne(h:Cj w ab b xb jb sv ov lv jo A P Ft):ab≠xb:=BR h.Ag h.ix (by decide)
def Cj.aP(h:Cj w ab b xb jb sv ov lv jo A P Ft)(d:FO (λk=>Ft k\/F7 ab xb jb sv ov lv jo k) w w')(H:w.heap.size<=w'.heap.size):Cj w' ab b xb jb sv ov lv jo A P Ft:=
 ⟨(d ab (.inr (.inl rfl))).trans h.Ag,(d xb (.inr (.inr (.inl rfl)))).trans h.ix,h.segs.aP λg E=>d g (.inr (.inr (.inr (.inl E)))),h.AN.aP λg E=>d g (.inr (.inr (.inr (.inr (.inl E))))),
   h.jn.aP λk z=>d k (.inr (.inr (.inr (.inr (.inr z))))),B3.aP h.dk λk z=>d k (.inl z),λk z=>Bm (h.lt k z) H,h.Db,h.F9,h.FY,h.Fs⟩
def Cj.aJ(h:Cj w ab b xb jb sv ov lv jo A P Ft)(d:A3 Aa w w'):Cj w' ab b xb jb sv ov lv jo A P Ft:=h.aP (d.aI (λ_ z=>h.bX z) λ_ _ h=>h) d.Ak
def Cj.bW(h:Cj w ab b xb jb sv ov lv jo A P Ft)(W:Ap w Ft w' (λw' d=>Bh w' b P' d)):Ap w Ft w' (λw' d=>Cj w' ab b xb jb sv ov lv jo A P' d):=by
 obtain⟨O,d,Y,L,I⟩:=W;have E:=O.aI (λ_ z=>h.bH z) h.Db
 exact⟨O,d,⟨(E ab (.inl rfl)).trans h.Ag,(E xb (.inr (.inl rfl))).trans h.ix,h.segs.aP λg H=>E g (.inr (.inr (.inl H))),h.AN.aP λg H=>E g (.inr (.inr (.inr (.inl H)))),
  h.jn.aP λk z=>E k (.inr (.inr (.inr (.inr z)))),Y,L,λk z hx=>(I k hx).elim (h.Db k z) λh'=>by have:=h.bH z;omega,h.F9,h.FY,h.Fs⟩,L,I⟩
def Cj.bL{S:Nat->Prop}{E L:Nat}{z H lv' I:Value}{A':Ar}{d:Nat->Prop}(Y:Cj w' ab b E L z H lv' I A' P' d)(hc:A3 S w w')(hS:∀k,k<w.heap.size->S k->FT k)(h1:∀k,d k->FT k\/w.heap.size<=k)(h2:∀k,F7 ab E L z H lv' I k->FT k\/w.heap.size<=k):
 Ap w FT w' (λw' O=>AD w' ab b A' P' O):=
 ⟨hc.ad hS,λk=>d k\/F7 ab E L z H lv' I k,⟨E,L,z,H,lv',I,d,Y,λ_ h=>h⟩,λ_ W=>Y.bX W,λk W=>W.elim (h1 k) (h2 k)⟩
def Cj.cz(_h:Cj w ab b xb jb sv ov lv jo A P Ft)(d:∀k,Ft k\/F7 ab xb jb sv ov lv jo k->FT k)(I:Ap w Ft w' (λw' E=>Cj w' ab b xb jb sv ov lv jo A P' E)):Ap w FT w' (λw' H=>AD w' ab b A P' H):=by
 obtain⟨W,E,L,h3,O⟩:=I;exact L.bL W (λk _ z=>d k (.inl z)) (λk z=>(O k z).imp (λh=>d k (.inl h)) id) λk z=>.inl (d k (.inr z))
def AD.aP(h:AD w ab b A P FT)(H:FO FT w w')(I:w.heap.size<=w'.heap.size):AD w' ab b A P FT:=by
 obtain⟨xb,jb,sv,ov,lv,jo,Ft,E,d⟩:=h;exact⟨xb,jb,sv,ov,lv,jo,Ft,E.aP (H.ad λk z=>d k z) I,d⟩
def AD.aJ(h:AD w ab b A P FT)(E:A3 Aa w w'):AD w' ab b A P FT:=by
 obtain⟨xb,jb,sv,ov,lv,jo,Ft,z,d⟩:=h;exact⟨xb,jb,sv,ov,lv,jo,Ft,z.aJ E,d⟩
end
def IX(w:World)(h b z:Nat)(x:Int×List Pu):Prop:=∃d,BZ w z 139 b (AG x.1) (AE (AG x.1)) x.1 d/\AY w d x.2/\h<=z/\∀g,d.ownBlock=some g->h<=g
def Gl(d:List Nat):List Value:=d.map λg=>(A5 g)
def Wv(d:List Nat):∀u∈Gl d,u.oneCell'=true:=by
 intro u hu;simp[Gl]at hu;obtain⟨x,_,rfl⟩:=hu;rfl
def Gd(w:World)(h b:Nat)(v:Value)(l:List (Int×List Pu)):Prop:=
 ∃d:List Nat,d.length=l.length/\w.ownsRow 0 136 1 v l.length (Gl d)/\(∀g,v.ownBlock=some g->h<=g)/\∀k (E:k<d.length) (z:k<l.length),IX w h b (d[k]'E) (l[k]'z)
def IX.aJ{w w':World}{d b E:Nat}{x:Int×List Pu}(h:IX w d b E x)(H:A3 Aa w w'):IX w' d b E x:=by
 obtain⟨Y,L,z,O,I⟩:=h;exact⟨Y,L.ak H (λh=>h),Ay z λg W=>H.Al g (Az z W) (λh=>h),O,I⟩
def Gd.aJ{w w':World}{z b:Nat}{v:Value}{l:List (Int×List Pu)}(h:Gd w z b v l)(H:A3 Aa w w'):Gd w' z b v l:=by
 obtain⟨d,O,E,W,I⟩:=h;exact⟨d,O,Ay E λg Y=>H.Al g (Az E Y) (λh=>h),W,λk L q2=>(I k L q2).aJ H⟩
def Tryz.eK:(Tryz.prog.info? 136).map (λi=>(i.zero,i.size,i.bytes))=some (some (.pointer none),1,8):=by kernel_rfl
def WD:∃d,Tryz.prog.info? 136=some d/\d.zero=some (.pointer none)/\d.size=1/\d.bytes=8:=by
 have h:=Tryz.eK;cases hx:Tryz.prog.info? 136 with
 | none=>rw[hx]at h;cases h
 | some i=>rw[hx]at h;simp at h;exact⟨i,rfl,h.1,h.2.1,h.2.2⟩
def Tryz.fk:Go.Shelf.Ren:=⟨fun|26=>89|33=>132|34=>133|38=>189|n=>n,fun|0=>0|3=>3|4=>4|9=>9|24=>106|40=>189|n=>n,fun|n=>n⟩
def Tryz.eD:Go.Proofs.Lays2.n26 Tryz.prog Tryz.fk:={
 mixed:=by kernel_rfl
 f26:=func89.trans (EB some (by kernel_rfl))
 f33:=func132.trans (EB some (by kernel_rfl))
 f34:=func133.trans (EB some (by kernel_rfl))
 f38:=func189.trans (EB some (by kernel_rfl))
 t0:=underlying0
 a0:=isAgg0
 z0:=sizeOf0
 v0:=zeroValue0
 t3:=underlying3
 a3:=isAgg3
 z3:=sizeOf3
 v3:=zeroValue3
 t4:=underlying4
 a4:=isAgg4
 z4:=sizeOf4
 v4:=zeroValue4
 t9:=underlying9
 a9:=isAgg9
 z9:=sizeOf9
 v9:=zeroValue9
 t24:=underlying106
 a24:=isAgg106
 z24:=sizeOf106
 v24:=zeroValue106
 t40:=underlying189
 a40:=isAgg189
 z40:=sizeOf189
 v40:=zeroValue189}
def Tryz.ft:Go.Shelf.Ren:=⟨fun|41=>101|n=>n,fun|22=>72|23=>90|4=>4|n=>n,fun|n=>n⟩
def Tryz.eB:Go.Proofs.SlLaysE0.n41 Tryz.prog Tryz.ft:={
 mixed:=by kernel_rfl
 f41:=⟨Tryz.f101.name,by decide,func101.trans (EB some (by kernel_rfl))⟩
 t4:=underlying4
 a4:=isAgg4
 z4:=sizeOf4
 v4:=zeroValue4
 t22:=underlying72
 a22:=isAgg72
 z22:=sizeOf72
 v22:=zeroValue72}
def U5(a b:List UInt8):Op.bytesLess a b=decide (a<b):=by
 induction a generalizing b with
 | nil=>cases b with
  | nil=>simp[Op.bytesLess]
  | cons y r=>simp[Op.bytesLess]
 | cons x a ih=>
  cases b with
  | nil=>simp[Op.bytesLess]
  | cons y r=>
   unfold Op.bytesLess;rw[ih r];by_cases h:x<y
   ·simp[h,List.cons_lt_cons_iff]
   ·by_cases d:x=y
    ·subst d;simp
    ·(have:¬(x::a<y::r):=by rw[J4];simp[h,d]);simp[h,d,this]
def SK(a b:ByteArray):less a b=true↔a.data.toList<b.data.toList:=by
 unfold less;rw[U5,JX,JX,DG]
def ZO(l:List ByteArray)(x:ByteArray):∀k,k<=l.length->(∀i (z:i<l.length),Ek l x k<=i->i<k->less x (l[i]'z)=true)/\∀(_:0<Ek l x k) (z:Ek l x k-1<l.length),less x (l[Ek l x k-1]'z)=false:=by
 intro k
 induction k with
 | zero=>intro _;exact⟨λi z E H=>by omega,λh=>by simp[Ek]at h⟩
 | succ k ih=>
  intro hk;have d:k<l.length:=by omega
  obtain⟨I,L⟩:=ih (by omega);by_cases h:less x (l[k]'d)=true
  ·rw[Tb l x k d h];refine⟨λi z E H=>?_,L⟩;by_cases e:i=k
   ·subst e;exact h
   ·exact I i z E (by omega)
  ·rw[Ta l x k d (by simpa using h)];exact⟨λi z E H=>by omega,λ_ _=>by simpa using h⟩
def KX(l:List ByteArray):Prop:=l.Pairwise λa b=>a.data.toList<b.data.toList
def ZG{l:List ByteArray}(h:KX l){x:ByteArray}(hx:x∉l):KX (ins l x):=by
 obtain⟨h1,h2⟩:=ZO l x l.length (Au _);have aA:=Tc l x l.length;unfold ins;generalize Ek l x l.length=k at h1 h2 aA;have hp:KX (l.take k++l.drop k):=by rw[DO];exact h
 have E:=Eg.1 hp;refine Eg.2 ⟨E.1,D7.2 ⟨λy hy=>?_,E.2.1⟩,λa ha b Y=>?_⟩
 ·obtain⟨i,hi,rfl⟩:=DQ hy;rw[CP]at hi;rw[List.getElem_drop];exact(SK _ _).1 (h1 (k+i) (by omega) (by omega) (by omega))
 ·rcases BP.1 Y with rfl|Y
  ·obtain⟨i,hi,rfl⟩:=DQ ha;rw[BU]at hi;(have z:k-1<l.length:=by omega);have L:=h2 (by omega) z;have d:(l[k-1]'z).data.toList<b.data.toList:=by
    (have O:¬b.data.toList<(l[k-1]'z).data.toList:=λW=>by rw[(SK _ _).2 W]at L;cases L);have I:=List.not_lt.1 O;by_cases H:(l[k-1]'z).data.toList<b.data.toList
    ·exact H
    ·refine absurd ?_ hx;have e:=List.le_antisymm I (List.not_lt.1 H);(have:l[k-1]'z=b:=by rw[<-G3 (l[k-1]'z),<-G3 b,e]);rw[<-this];exact BV _
   rw[A27];by_cases e:i=k-1
   ·subst e;exact d
   ·have:=JR.1 h i (k-1) (by omega) z (by omega);exact List.lt_trans this d
  ·exact E.2.2 a ha b Y
def A0Z(es:List AL)(I:(es.map (·.1)).Nodup):∀k,k<=es.length->KX (EA es k):=by
 intro k
 induction k with
 | zero=>intro _;simp[EA,KX]
 | succ k ih=>
  intro hk;have d:k<es.length:=by omega
  rw[M4 es k d];refine ZG (ih (by omega)) λz=>?_;have:=(TC es k (by omega)).mem_iff.1 z;obtain⟨e,E,h⟩:=CA.1 this;obtain⟨i,H,rfl⟩:=DQ E;rw[BU]at H;rw[A27]at h;have:i=k:=Jp I (by simp;omega) (by simpa using d) (by simpa using h);omega
def Cm.up{P:PD}{N R:Nat}(h:Cm P N R):P.Ax.Pairwise (· < ·):=by
 unfold PD.Ax;rw[La];exact A0Z P.D.A4 h.Cb _ (Au _)
def Gq:Nat->Nat->Bs
 | 0,_=>[]
 | k+1,u=>Gq k (u/10)++[UInt8.ofNat (48+u % 10)]
def LH:∀k u,(Gq k u).length=k
 | 0,_=>rfl
 | k+1,u=>by simp[Gq,LH k]
def RG:∀k,Gq k 0=List.replicate k 48
 | 0=>rfl
 | k+1=>by
  unfold Gq;rw[Nat.zero_div,RG k,List.replicate_succ'];rfl
def RH:∀k u,u<10 ^ (k+1)->List.replicate (k+1-Lib.nDigits u) 48++Lib.decDigits u=Gq (k+1) u
 | 0,u,h=>by
  have d:u<10:=by simpa using h
  rw[Pq d,Lib.decDigits,dif_pos d];simp[Gq,Nat.mod_eq_of_lt d]
 | k+1,u,h=>by
  by_cases d:u<10
  ·rw[Pq d,Lib.decDigits,dif_pos d];unfold Gq;rw[Nat.div_eq_of_lt d,RG,Nat.mod_eq_of_lt d];rfl
  ·have z:=RH k (u/10) (by rw[JM]at h;omega);rw[V7 d,Lib.decDigits,OK d,<-Cc];(have e:k+1+1-(Lib.nDigits (u/10)+1)=k+1-Lib.nDigits (u/10):=by omega);rw[e,z]
   conv=>rhs;unfold Gq
def Sz:∀ {a b x y:Bs},a.length=b.length->a<b->a++x<b++y
 | [],b,x,y,hl,h=>by
  have:b=[]:=GK.1 hl.symm;subst this;exact absurd h (Le _)
 | c::a,[],x,y,hl,h=>by simp at hl
 | c::a,d::b,x,y,hl,h=>by
  rw[Fo,Fo,J4];rw[J4]at h;rcases h with h|⟨E,z⟩
  ·exact .inl h
  ·exact .inr ⟨E,Sz (by simpa using hl) z⟩
def Sy:∀ {a x y:Bs},x<y->a++x<a++y
 | [],x,y,h=>h
 | c::a,x,y,h=>by rw[Fo,Fo,J4];exact .inr ⟨rfl,Sy h⟩
def NM:∀k {u v:Nat},v<10 ^ k->u<v->Gq k u<Gq k v
 | 0,u,v,hv,h=>by simp at hv;omega
 | k+1,u,v,hv,h=>by
  have d:v/10<10 ^ k:=by rw[JM]at hv;omega
  unfold Gq;by_cases z:u/10<v/10
  ·exact Sz (by rw[LH,LH]) (NM k d z)
  ·(have e:u/10=v/10:=by omega);rw[e];refine Sy ?_;rw[J4];refine .inl ?_;rw[UInt8.lt_iff_toNat_lt];simp;omega
def Kl{n:Int}(h0:1<=n)(h1:n<=4611686018427387904):Lib.repeatL [48] (19-(Lib.itoa n).length)++Lib.itoa n=Gq 19 n.toNat:=by
 rw[LQ (by omega),V8,QT];exact RH 18 n.toNat (by (have:(10:Nat) ^ 19=10000000000000000000:=by decide);omega)
def Yw{a b:Int}(d:isNum a=true)(z:isNum b=true)(h:a<b):Ae a<Ae b:=by
 unfold isNum at d z;simp at d z;rw[IF,IF,Kl d.1 d.2,Kl z.1 z.2,J4];exact .inr ⟨rfl,NM 19 (by (have:(10:Nat) ^ 19=10000000000000000000:=by decide);omega) (by omega)⟩
def Ys{a b:Int}(d:isNum a=true)(z:isNum b=true)(h:a<b):AG a<AG b:=by
 unfold isNum at d z;simp at d z;rw[HW,HW,Kl d.1 d.2,Kl z.1 z.2,J4];exact .inr ⟨rfl,NM 19 (by (have:(10:Nat) ^ 19=10000000000000000000:=by decide);omega) (by omega)⟩
def YL{f:Int->Bs}(z:∀a b,isNum a=true->isNum b=true->a<b->f a<f b){a b:Int}(E:isNum a=true)(H:isNum b=true)(h:f a<f b):a<b:=by
 rcases Int.lt_trichotomy a b with d|d|d
 ·exact d
 ·subst d;exact absurd h (Le _)
 ·exact absurd (List.lt_trans h (z b a H E d)) (Le _)
def NW{f:Int->Bs}(H:∀a b,isNum a=true->isNum b=true->a<b->f a<f b)(g:Bs->Option Int)(z:∀nm n,g nm=some n->isNum n=true/\f n=nm):∀ {l:List Bs},l.Pairwise (· < ·)->(l.filterMap g).Pairwise (· < ·)
 | [],_=>by simp
 | nm::r,h=>by
  have E:=D7.1 h;have I:=NW H g z E.2;cases hx:g nm with
  | none=>rw[List.filterMap_cons_none hx];exact I
  | some n=>
   rw[List.filterMap_cons_some hx];refine D7.2 ⟨λm hm=>?_,I⟩;obtain⟨d,O,Y⟩:=Ld.1 hm;obtain⟨a1,a2⟩:=z nm n hx;obtain⟨L,W⟩:=z d m Y;exact YL H a1 L (by rw[a2,W];exact E.1 d O)
def YN{l:List Bs}(d:Int)(h:l.Pairwise (· < ·)):(BM d l).Pairwise (· < ·):=by
 unfold BM;refine NW (f:=Ae) (λa b=>Yw) _ (λnm n z=>?_) h;by_cases E:(Be nm).1=1/\d<=(Be nm).2
 ·rw[Af E]at z;simp at z;subst z;have:=O4 E.1;exact⟨by unfold isNum;simp;exact this.1,this.2⟩
 ·rw[Ac E]at z;cases z
def WG{l:List Bs}(h:l.Pairwise (· < ·)):(l.filterMap λnm=>if (Be nm).1=2 then some (Be nm).2 else none).Pairwise (· < ·):=by
 refine NW (f:=AG) (λa b=>Ys) _ (λnm n d=>?_) h;by_cases z:(Be nm).1=2
 ·rw[Af z]at d;simp at d;subst d;have:=O2 z;exact⟨by unfold isNum;simp;exact this.1,this.2⟩
 ·rw[Ac z]at d;cases d
def Nu{l:List Int}(h:l.Pairwise (· < ·)){n:Int}(z:n∈l)(d:Int):n<=l.getLastD d:=by
 have E:l≠[]:=λe=>by subst e;cases z
 obtain⟨m,x,rfl⟩:∃m x,l=m++[x]:=⟨l.dropLast,l.getLast E,(ML E).symm⟩;have e:(m++[x]).getLastD d=x:=by simp
 rw[e];rcases AV.1 z with z|z
 ·exact Int.le_of_lt ((Eg.1 h).2.2 n z x (by simp))
 ·simp at z;omega
def QM:∀ {l l':List Int},l.Pairwise (· < ·)->l'.Pairwise (· < ·)->(∀x,x∈l↔x∈l')->l=l'
 | [],[],_,_,_=>rfl
 | [],y::r,_,_,h=>by have:=(h y).2 (BD ..);cases this
 | x::r,[],_,_,h=>by have:=(h x).1 (BD ..);cases this
 | x::r,y::s,h1,h2,h=>by
  have E:=D7.1 h1;have d:=D7.1 h2;have I:x=y:=by
   rcases BP.1 ((h x).1 (BD ..)) with e|e
   ·exact e
   ·rcases BP.1 ((h y).2 (BD ..)) with L|L
    ·exact L.symm
    ·have a:=d.1 x e;have b:=E.1 y L;omega
  subst I
  congr 1
  refine QM E.2 d.2 λz=>⟨λH=>?_,λH=>?_⟩
  ·rcases BP.1 ((h z).1 (Br _ H)) with e|e
   ·subst e;have:=E.1 z H;omega
   ·exact e
  ·rcases BP.1 ((h z).2 (Br _ H)) with e|e
   ·subst e;have:=d.1 z H;omega
   ·exact e
def shut(cl:List (Int×List Pu))(last:Int):Option (List Pu)->List (Int×List Pu)
 | none=>cl
 | some l=>cl++[(last,l)]
def Nf(cl:List (Int×List Pu))(last:Int)(ol:Option (List Pu)):Aw (shut cl last ol)=Aw cl++ol.getD []:=by
 cases ol<;>simp[shut,Aw]
section
variable {P P':PD} {A:Ar} {sg cl:List (Int×List Pu)} {ol:Option (List Pu)} {N R:Nat}
def Lay.bU(h:Lay P A sg cl ol):A.j.Aj=(shut cl A.j.A8 ol).map (·.1):=by
 have:=h.AF;cases ol with
 | none=>exact this.2
 | some l=>rw[this.2.1];simp[shut]
def Lay.dO(h:Lay P A sg cl ol)(d:(Aw cl).length<=1099511627776):EK P 0 (shut cl A.j.A8 ol):=by
 have E:=h.AF;cases ol with
 | none=>exact h.Aj
 | some l=>
  obtain⟨-,h1,z,H,h4⟩:=E
  exact h.Aj.bV (by
   have:=h.Gc;rw[MQ,<-this]
   exact O8 (t:=[]) (h.dn d) H (by simp) (by simpa using z))
def Lay.ba(h:Lay P A sg cl ol):P.ba=some A.ix:=by
 rcases h.ix with⟨d,z⟩|d
 ·rw[ZT d,z]
 ·exact ZS h.Dz d
def Lay.aU(h:Lay P A sg cl ol)(hc:Cm P N R)(hl:(Aw cl).length<=1099511627776):
 ∃A',Ar.aU P=.ok (A',B6 sg cl ol)/\Lay P A' sg (shut cl A.j.A8 ol) none/\A'.ix=A.ix/\A'.j.A8<=max A.j.A8 (A.ix.B7-1)/\A'.A8<=A.A8/\A'.AN=A'.aY P:=by
 have aF:=hc.up;have aG:BM A.ix.B7 P.Ax=A.j.Aj:=by
  refine QM (YN _ aF) h.GU λn=>⟨λhn=>?_,λhn=>?_⟩
  ·obtain⟨I,z,h3⟩:=O7 hn;exact h.H5 n (by unfold isNum;simpa using z) I (GQ.1 h3)
  ·rw[h.bU]at hn;obtain⟨x,d,rfl⟩:=CA.1 hn;have W:isNum x.1=true/\A.ix.B7<=x.1:=by
    cases ol with
    | none=>exact⟨(h.CO x d).1.1,h.Ey.1 x d⟩
    | some l=>
     rcases AV.1 d with d|d
     ·exact⟨(h.CO x d).1.1,h.Ey.1 x d⟩
     ·simp at d;subst d;exact⟨h.AF.2.2.2.2,h.Ey.2 (by simp)⟩
   have aH:=GQ.2 ((h.dO hl).Dy d);unfold BM;refine Ld.2 ⟨Ae x.1,aH,?_⟩;rw[Kq W.1];simp[W.2]
 have aK:P.Ax.any (λnm=>decide ((Be nm).1=0))=false:=by
  rw[Bool.eq_false_iff];intro d;obtain⟨nm,I,z⟩:=Pp.1 d;exact h.Eb nm (GQ.1 I) (by simpa using z)
 have hp:=h.puts hl;obtain⟨O,aA⟩:∃O,(P.Ax.filterMap λnm=>if (Be nm).1=2 then some (Be nm).2 else none)=O:=⟨_,rfl⟩;have aB:=WG aF;rw[aA]at aB;have aE:∀n,n∈O↔isNum n=true/\P.bs (AG n)≠none:=λn=>by
  rw[<-aA,Ld];constructor
  ·rintro⟨nm,I,z⟩;by_cases d:(Be nm).1=2
   ·rw[Af d]at z;simp at z;subst z;have:=O2 d;exact⟨by unfold isNum;simp;exact this.1,by rw[this.2];exact GQ.1 I⟩
   ·rw[Ac d]at z;cases z
  ·rintro⟨I,z⟩;refine⟨AG n,GQ.2 z,?_⟩;rw[O3 I];simp
 obtain⟨A',H⟩:∃A':Ar,(⟨A.ix,⟨A.j.Aj,A.j.Aj.getLastD (A.ix.B7-1),((Aw cl++ol.getD []).length:Int),none⟩,O.getLastD 0,(⟨A.ix,⟨A.j.Aj,A.j.Aj.getLastD (A.ix.B7-1),((Aw cl++ol.getD []).length:Int),none⟩,O.getLastD 0,[]⟩:Ar).aY P⟩:Ar)=A':=⟨_,rfl⟩;have aD:Ar.aU P=.ok (A',B6 sg cl ol):=by
  unfold Ar.aU;rw[h.ba];dsimp only
  rw[aK,Ac (by simp),h.b7];dsimp only
  rw[aG,hp,Ac (by simp),aA];have hj:P.bS A.ix.B7=⟨A.j.Aj,A.j.Aj.getLastD (A.ix.B7-1),((Aw cl++ol.getD []).length:Int),none⟩:=by
   unfold PD.bS;rw[aG,hp]
  rw[hj,<-H];rfl
 have L:∀x∈shut cl A.j.A8 ol,(isNum x.1=true/\x.1<=A.j.A8)/\A.ix.B7<=x.1/\∀p∈x.2,Bg p:=λx d=>by
  cases ol with
  | none=>exact⟨(h.CO x d).1,h.Ey.1 x d,(h.CO x d).2⟩
  | some l=>
   rcases AV.1 d with d|d
   ·exact⟨(h.CO x d).1,h.Ey.1 x d,(h.CO x d).2⟩
   ·simp at d;subst d;exact⟨⟨h.AF.2.2.2.2,Hp _⟩,h.Ey.2 (by simp),h.AF.2.2.2.1⟩
 have E:∀n∈A.j.Aj,n<=A.j.Aj.getLastD (A.ix.B7-1):=λn hn=>Nu h.GU hn _;have hge:A.ix.B7-1<=A.j.Aj.getLastD (A.ix.B7-1):=by
  cases d:A.j.Aj with
  | nil=>simp
  | cons y r=>
   (have hy:y∈A.j.Aj:=by rw[d];exact BD ..);have I:=E y hy;rw[d]at I;have z:A.ix.B7<=y:=by
    rw[h.bU]at hy;obtain⟨x,Y,aJ⟩:=CA.1 hy;rw[<-aJ];exact(L x Y).2.1
   omega
 have aL:A.j.Aj.getLastD (A.ix.B7-1)<=max A.j.A8 (A.ix.B7-1):=by
  cases d:A.j.Aj with
  | nil=>simp;omega
  | cons y r=>
   have hm:(y::r).getLastD (A.ix.B7-1)∈A.j.Aj:=by
    rw[d];(have:(y::r).getLastD (A.ix.B7-1)=(y::r).getLast (by simp):=by rw[JT,A26 (by simp)];rfl);rw[this];exact List.getLast_mem _
   rw[h.bU]at hm;obtain⟨x,aI,Y⟩:=CA.1 hm;have:=(L x aI).1.2;rw[Y]at this;omega
 have hfn:1<=A.ix.B7:=by have:=h.Dz.B7;unfold isNum at this;simp at this;exact this.1
 refine⟨A',aD,?_,by rw[<-H],by rw[<-H];exact aL,?_,by rw[<-H];rfl⟩
 ·rw[<-H]
  refine⟨h.Dz,h.ix,h.segs,h.Cq,λx d=>⟨⟨(L x d).1.1,E _ (by rw[h.bU];exact DP d)⟩,(L x d).2.2⟩,λx _ d=>absurd rfl d,⟨λx d=>(L x d).2.1,λd=>absurd rfl d⟩,h.dO hl,?_,⟨rfl,h.bU⟩,
   ⟨by dsimp only;omega,by dsimp only;omega,λn hk d=>?_⟩,⟨?_,λn hk d=>Nu aB ((aE n).2 ⟨hk,d⟩) 0⟩,λnm hm=>?_,h.GU,h.Eb,h.H5⟩
  ·dsimp only;rw[Nf]
  ·dsimp only
   by_cases hf:A.ix.B7<=n
   ·exact E n (h.H5 n hk hf d)
   ·omega
  ·dsimp only
   cases d:O with
   | nil=>simp
   | cons y r=>
    have I:=Nu aB (n:=y) (by rw[d];exact BD ..) 0;have z:=((aE y).1 (by rw[d];exact BD ..)).1;unfold isNum at z;simp at z;rw[d]at I;omega
  ·exact GQ.1 (GJ.1 hm).1
 ·rw[<-H];dsimp only
  cases d:O with
  | nil=>simp;exact h.Ei.1
  | cons y r=>
   have hm:(y::r).getLastD 0∈O:=by
    rw[d];(have:(y::r).getLastD 0=(y::r).getLast (by simp):=by rw[JT,A26 (by simp)];rfl);rw[this];exact List.getLast_mem _
   have:=(aE _).1 hm;exact h.Ei.2 _ this.1 this.2
end
abbrev View:=Bs->Option FC
def vw(F:Nat->FC)(s:List AL):View:=λnm=>(lookup s (A7 nm)).map F
def C2(c:FC):Prop:=c.2=c.1.length
def II(V:View)(n a:Int):List Pu×Int:=match V (Ae n) with
 | some c=>FZ (AE (Ae n)) a c.1
 | none=>([],8)
def YV(P:PD)(n a:Int):P.aX n a=II P.fl n a:=by
 unfold II;cases hx:P.fl (Ae n) with
 | some c=>
  have d:P.bs (Ae n)=some c.1:=by unfold PD.bs;rw[hx];rfl
  exact SC d
 | none=>
  have d:P.bs (Ae n)=none:=by unfold PD.bs;rw[hx];rfl
  unfold PD.aX Gm;have e:DJ P.D P.F ⟨(Ae n).toArray⟩=([],8):=by have:=@IW P (Ae n);unfold PD.Cl at this;rw[d]at this;exact this
  rw[e];simp
def Fl(V:View):Int->List (Int×List Pu)->Prop
 | _,[]=>True
 | a,x::r=>II V x.1 a=(x.2,0)/\Fl V (a+x.2.length) r
def Fl.at{P:PD}:∀ {a:Int} {l:List (Int×List Pu)},Fl P.fl a l↔EK P a l
 | _,[]=>Iff.rfl
 | a,x::r=>by
  unfold Fl EK;rw[YV,Fl.at]
def Fl.bC{V V':View}:∀ {a:Int} {l:List (Int×List Pu)},Fl V a l->(∀x∈l,(V' (Ae x.1)).map (·.1)=(V (Ae x.1)).map (·.1))->Fl V' a l
 | _,[],_,_=>trivial
 | a,x::r,h,hb=>by
  refine⟨?_,h.2.bC λy z=>hb y (Br _ z)⟩;rw[<-h.1];have:=hb x (BD ..);unfold II;cases h1:V (Ae x.1) with
  | none=>rw[h1]at this;cases h2:V' (Ae x.1) with
   | none=>rfl
   | some c=>rw[h2]at this;cases this
  | some c=>rw[h1]at this;cases h2:V' (Ae x.1) with
   | none=>rw[h2]at this;cases this
   | some d=>rw[h2]at this;simp at this;dsimp only;rw[this]
def Fl.bV{V:View}:∀ {a:Int} {l:List (Int×List Pu)} {x:Int×List Pu},Fl V a l->II V x.1 (a+(Aw l).length)=(x.2,0)->Fl V a (l++[x])
 | a,[],x,_,h=>⟨by simpa[Aw] using h,trivial⟩
 | a,y::r,x,h,h2=>⟨h.1,h.2.bV (by
  rw[<-h2];congr 1
  simp only[Aw,MH,AZ];omega)⟩
def Hz(b nm:Bs)(ahead:Int)(l:List Pu):Prop:=(∃t:Bs,b=DV nm ahead l++t/\t.length<21)\/(l=[]/\b.length<12)
def Hz.a1{b nm:Bs}{ahead:Int}{l:List Pu}(h:Hz b nm ahead l)(z:AW ahead)(d:∀p∈l,Bg p):FZ (AE nm) ahead b=(l,0):=by
 rcases h with⟨t,rfl,E⟩|⟨rfl,H⟩
 ·exact Ri _ _ _ _ z d E
 ·exact XC _ _ _ H
def SD:∀(l:List Pu) (s:Nat) (t:Bs) (j:Nat),t.length<21->∃d:Bs,(DU s l++t).take j=DU s (l.take (j/21))++d/\d.length<21
 | [],s,t,j,ht=>⟨t.take j,by simp[DU],by rw[BU];omega⟩
 | p::r,s,t,j,ht=>by
  have h:(AR s (Bb p.1 p.2.1 p.2.2)).length=21:=by rw[Eu,EP]
  by_cases hj:j<21
  ·refine⟨(AR s (Bb p.1 p.2.1 p.2.2)).take j,?_,by rw[BU];omega⟩;(have e:j/21=0:=by omega);rw[e];simp only[DU,EL,EY,Cc];rw[GI (by omega)]
  ·obtain⟨d,E,z⟩:=SD r (AU s (Bb p.1 p.2.1 p.2.2)) t (j-21) ht;refine⟨d,?_,z⟩;(have e:j/21=(j-21)/21+1:=by omega);rw[e,EX];simp only[DU,Cc];rw[List.take_append,h,E,Em (by omega)]
def Hz.b8{b nm:Bs}{ahead:Int}{l:List Pu}(h:Hz b nm ahead l)(j:Nat)(hj:j<=b.length):Hz (b.take j) nm ahead (l.take ((j-12)/21)):=by
 rcases h with⟨t,rfl,I⟩|⟨rfl,hb⟩
 ·by_cases h12:j<12
  ·exact .inr ⟨by (have:(j-12)/21=0:=by omega);rw[this];rfl,by rw[BU];omega⟩
  ·obtain⟨E,H,z⟩:=SD l (AU (AE nm) (AO ahead)) t (j-12) I;refine .inl ⟨E,?_,z⟩;unfold DV;(have d:(AR (AE nm) (AO ahead)).length=12:=by rw[Eu,CJ]);rw[Cc,List.take_append,d,H,Em (by omega),Cc]
 ·exact .inr ⟨by simp,by rw[BU];omega⟩
def EH(c:FC)(l:List Pu):Nat:=min l.length ((c.2.toNat-12)/21)
def EV(bd:Int×Int)(nm:Bs):Prop:=(Be nm).1≠0/\((Be nm).1=1->(Be nm).2<=bd.1)/\((Be nm).1=2->(Be nm).2<=bd.2)
def YD:Be Bk=(4,0):=by
 have h:E0 [108] Bk=none:=Ks (by decide);have d:E0 [115] Bk=none:=Ks (by decide);unfold Be GS;rw[h,d];simp[GR,HY,Bk,AI]
def Yu{bd:Int×Int}{n:Int}(h:isNum n=true)(d:n<=bd.1):EV bd (Ae n):=by unfold EV;rw[Kq h];exact⟨by simp,λ_=>d,λh=>by simp at h⟩
def S3{bd:Int×Int}{n:Int}(h:isNum n=true)(d:n<=bd.2):EV bd (AG n):=by unfold EV;rw[O3 h];exact⟨by simp,λh=>by simp at h,λ_=>d⟩
def Yv(bd:Int×Int):EV bd AI:=by unfold EV;rw[Sh];exact⟨by decide,λh=>absurd h (by decide),λh=>absurd h (by decide)⟩
def S4(bd:Int×Int):EV bd Bk:=by unfold EV;rw[YD];exact⟨by decide,λh=>absurd h (by decide),λh=>absurd h (by decide)⟩
def Hn(bd:Int×Int)(ix:Ix)(sg:List (Int×List Pu)):Prop:=MN ix/\ix.B7<=bd.1+1/\∀x∈sg,x.2≠[]
def Hq(bd d:Int×Int):Prop:=bd.1<=d.1/\bd.2<=d.2
def EV.a6{bd d:Int×Int}{nm:Bs}(h:EV bd nm)(z:Hq bd d):EV d nm:=⟨h.1,λe=>JY (h.2.1 e) z.1,λe=>JY (h.2.2 e) z.2⟩
def Hn.a6{bd d:Int×Int}{ix:Ix}{sg:List (Int×List Pu)}(h:Hn bd ix sg)(z:Hq bd d):Hn d ix sg:=⟨h.1,by have:=h.2.1;have:=z.1;omega,h.2.2⟩
structure CU (bd:Int×Int) (V:View) (ix:Ix) (sg cl:List (Int×List Pu)) (lo:Option (Int×List Pu)):Prop where
 Dz:Hn bd ix sg
 I5:(V AI=none/\ix=⟨1,[]⟩)\/∃c,V AI=some c/\C2 c/\c.1=AR (AE AI) (Ch ix.B7 ix.segs)
 segs:sg.map (·.1)=ix.segs
 Cq:∀x∈sg,((∀p∈x.2,Bg p)/\Cr Ck x.2=true)/\∃c,V (AG x.1)=some c/\C2 c/\c.1=AR (AE (AG x.1)) (Cd x.2)
 CO:∀x∈cl,(isNum x.1=true/\ix.B7<=x.1)/\(∀p∈x.2,Bg p)/\∃c,V (Ae x.1)=some c/\C2 c
 Aj:Fl V 0 cl
 A8:∀n l,lo=some (n,l)->(isNum n=true/\ix.B7<=n)/\(∀p∈l,Bg p)/\∃c,V (Ae n)=some c/\Hz c.1 (Ae n) (Aw cl).length l
 EE:(cl.map (·.1)++(lo.map (·.1)).toList).Pairwise (· < ·)
 Cl:∀n,isNum n=true->ix.B7<=n->V (Ae n)≠none->n∈cl.map (·.1)++(lo.map (·.1)).toList
 Eb:∀nm,V nm≠none->EV bd nm
 DT:∀nm c,V nm=some c->0<=c.2/\c.2<=c.1.length
def HG(V V':View):Prop:=∀nm,(V nm=none/\V' nm=none)\/∃c,∃j:Nat,V nm=some c/\c.2<=j/\j<=c.1.length/\V' nm=some (c.1.take j,(j:Int))
section
variable {bd:Int×Int} {V V':View} {ix:Ix} {sg cl:List (Int×List Pu)} {lo:Option (Int×List Pu)}
def HG.ed(h:HG V V'){nm:Bs}(z:V nm=none):V' nm=Option.none:=by
 rcases h nm with⟨_,E⟩|⟨c,j,d,_⟩
 ·exact E
 ·rw[z]at d;cases d
def HG.b1(h:HG V V'){nm:Bs}{c:FC}(E:V nm=some c):∃j:Nat,c.2<=j/\j<=c.1.length/\V' nm=Option.some (c.1.take j,(j:Int)):=by
 rcases h nm with⟨z,_⟩|⟨d,j,z,H⟩
 ·rw[E]at z;cases z
 ·rw[E]at z;cases z;exact⟨j,H⟩
def HG.Gt(h:HG V V'){nm:Bs}{c:FC}(z:V nm=Option.some c)(d:C2 c):V' nm=Option.some c:=by
 obtain⟨j,h1,h2,E⟩:=h.b1 z;unfold C2 at d;have e:j=c.1.length:=by omega
 rw[E,e,C9,<-d]
def CU.BT(h:CU bd V ix sg cl lo)(Y:HG V V'):(∀nm c,V' nm=some c->C2 c)/\
 match lo with
 | none=>CU bd V' ix sg cl none
 | some (n,l)=>∃c i,V (Ae n)=some c/\EH c l<=i/\i<=l.length/\CU bd V' ix sg cl (some (n,l.take i)):=by
 have W:∀nm c,V' nm=some c->C2 c:=λnm c I=>by
  rcases Y nm with⟨_,z⟩|⟨d,j,E,z,H,O⟩
  ·rw[I]at z;cases z
  ·rw[O]at I;cases I;unfold C2;dsimp only;rw[BU];omega
 have aB:∀nm,V' nm≠none->V nm≠none:=λnm I hv=>I (Y.ed hv);have aA:Fl V' 0 cl:=h.Aj.bC λx hx=>by
  obtain⟨_,_,c,E,z⟩:=h.CO x hx;rw[Y.Gt E z,E]
 have key:∀L:Option (Int×List Pu),L.map (·.1)=lo.map (·.1)->(∀n l,L=some (n,l)->(isNum n=true/\ix.B7<=n)/\(∀p∈l,Bg p)/\∃c,V' (Ae n)=some c/\Hz c.1 (Ae n) (Aw cl).length l)->CU bd V' ix sg cl L:=λL e hl=>
  ⟨h.Dz,by
   rcases h.I5 with⟨E,z⟩|⟨c,E,z,H⟩
   ·exact .inl ⟨Y.ed E,z⟩
   ·exact .inr ⟨c,Y.Gt E z,z,H⟩,h.segs,λx hx=>by
   obtain⟨E,c,z,H,O⟩:=h.Cq x hx
   exact⟨E,c,Y.Gt z H,H,O⟩,λx hx=>by
   obtain⟨E,z,c,H,O⟩:=h.CO x hx
   exact⟨E,z,c,Y.Gt H O,O⟩,aA,hl,by rw[e];exact h.EE,λn E z H=>by rw[e];exact h.Cl n E z (aB _ H),λnm I=>h.Eb nm (aB _ I),λnm c I=>by
   have:=W nm c I;unfold C2 at this;omega⟩
 refine⟨W,?_⟩;cases lo with
 | none=>exact key none rfl λn l e=>by cases e
 | some x=>
  obtain⟨n,l⟩:=x;obtain⟨E,z,c,H,O⟩:=h.A8 n l rfl;obtain⟨j,j1,j2,j3⟩:=Y.b1 H;refine⟨c,min l.length ((j-12)/21),H,?_,Nat.min_le_left _ _,key _ rfl λn' l' e=>?_⟩
  ·unfold EH;have:(c.2.toNat-12)/21<=(j-12)/21:=A2T (by omega);omega
  ·cases e;have ht:l.take (min l.length ((j-12)/21))=l.take ((j-12)/21):=by
    rw[List.take_eq_take_iff];omega
   rw[ht];exact⟨E,λp hp=>z p (Ik hp),_,j3,O.b8 j j2⟩
def CU.bT(h:CU bd V ix sg cl lo)(W:∀nm,nm=AI\/(∃x∈sg,nm=AG x.1)\/(∃n,isNum n=true/\ix.B7<=n/\nm=Ae n)->(V nm=none/\V' nm=none)\/∃c d,V nm=some c/\V' nm=some d/\d.1=c.1/\(d.2=c.2\/C2 d))(h2:∀nm,V' nm≠none->EV bd nm)(h3:∀nm c,V' nm=some c->0<=c.2/\c.2<=c.1.length):CU bd V' ix sg cl lo:=by
 have up:∀ {nm:Bs} {c:FC},(nm=AI\/(∃x∈sg,nm=AG x.1)\/(∃n,isNum n=true/\ix.B7<=n/\nm=Ae n))->V nm=some c->∃d,V' nm=some d/\d.1=c.1/\(C2 c->C2 d):=λ{nm c} hn hv=>by
  rcases W nm hn with⟨q,_⟩|⟨c',d,z,I,H,E⟩
  ·rw[hv]at q;cases q
  ·rw[hv]at z;cases z;refine⟨d,I,H,λY=>?_⟩;rcases E with E|E
   ·unfold C2 at Y ⊢;rw[H,E];exact Y
   ·exact E
 have L:∀x∈cl,(V' (Ae x.1)).map (·.1)=(V (Ae x.1)).map (·.1):=λx O=>by
  obtain⟨z,_,c,H,_⟩:=h.CO x O;obtain⟨d,d1,d2,_⟩:=up (.inr (.inr ⟨x.1,z.1,z.2,rfl⟩)) H;rw[d1,H];simp[d2]
 refine⟨h.Dz,?_,h.segs,λx O=>?_,λx O=>?_,h.Aj.bC L,λn l e=>?_,h.EE,λn z I H=>h.Cl n z I λq=>?_,h2,h3⟩
 ·rcases h.I5 with⟨z,I⟩|⟨c,z,I,H⟩
  ·rcases W AI (.inl rfl) with⟨_,q⟩|⟨c',d,E,_⟩
   ·exact .inl ⟨q,I⟩
   ·rw[z]at E;cases E
  ·obtain⟨d,d1,d2,d3⟩:=up (.inl rfl) z;exact .inr ⟨d,d1,d3 I,by rw[d2];exact H⟩
 ·obtain⟨z,c,I,H,E⟩:=h.Cq x O;obtain⟨d,d1,d2,d3⟩:=up (.inr (.inl ⟨x,O,rfl⟩)) I;exact⟨z,d,d1,d3 H,by rw[d2];exact E⟩
 ·obtain⟨z,I,c,H,E⟩:=h.CO x O;obtain⟨d,d1,d2,d3⟩:=up (.inr (.inr ⟨x.1,z.1,z.2,rfl⟩)) H;exact⟨z,I,d,d1,d3 E⟩
 ·obtain⟨z,I,c,H,E⟩:=h.A8 n l e;obtain⟨d,d1,d2,d3⟩:=up (.inr (.inr ⟨n,z.1,z.2,rfl⟩)) H;exact⟨z,I,d,d1,by rw[d2];exact E⟩
 ·rcases W (Ae n) (.inr (.inr ⟨n,z,I,rfl⟩)) with⟨_,E⟩|⟨c,d,E,_⟩
  ·exact H E
  ·rw[q]at E;cases E
def CU.a6{d:Int×Int}(h:CU bd V ix sg cl lo)(z:Hq bd d):CU d V ix sg cl lo:=
 ⟨h.Dz.a6 z,h.I5,h.segs,h.Cq,h.CO,h.Aj,h.A8,h.EE,h.Cl,λnm E=>(h.Eb nm E).a6 z,h.DT⟩
end
def C8.I(o:Int)(a:List Pu):C8 o a a:=⟨λ_ _ _=>rfl,λp d=>⟨p,d,rfl,rfl⟩,Au _⟩
def C8.Av{o:Int}{a b c:List Pu}(h:C8 o a b)(d:C8 o b c):C8 o a c:=⟨λk t z=>(h.1 k t z).trans (d.1 k t z),λp I=>by
 obtain⟨q,E,O,H⟩:=h.2.1 p I;obtain⟨r,L,W,Y⟩:=d.2.1 q E
 exact⟨r,L,W.trans O,Y.trans H⟩,AQ h.2.2 d.2.2⟩
def C8.bQ{o d:Int}{a b:List Pu}(h:C8 o a b)(ho:o<=d):C8 d a b:=⟨λk t ht=>h.1 k t (by omega),h.2⟩
def C8.dx{o:Int}{a b:List Pu}(h:C8 o a b)(c:List Pu):C8 o (a++c) (b++c):=⟨λk t E=>by rw[Gs,Gs,h.1 k t E],λp d=>by
 rcases AV.1 d with d|d
 ·obtain⟨q,z,e⟩:=h.2.1 p d;exact⟨q,Fx _ z,e⟩
 ·exact⟨p,GX _ d,rfl,rfl⟩,by have:=h.2.2;rw[AZ,AZ];omega⟩
def C8.ey{o:Int}{a b:List Pu}(z:∀k t,o<=t->BC a k t=BC b k t)(h:∀p∈a,p∈b)(E:a.length<=b.length):C8 o a b:=⟨z,λp d=>⟨p,h p d,rfl,rfl⟩,E⟩
def Holds(bd:Int×Int)(V:View)(puts:List Pu)(Ad:Nat)(o:Int):Prop:=
 ∃ix z h d nb,CU bd V ix z h d/\nb<=puts.length/\C8 o (Aw z++Aw h) (puts.take nb)/\
  (∀n l,d=some (n,l)->∃c,V (Ae n)=some c/\Ad<=nb+EH c l/\l=(puts.drop nb).take l.length)/\(d=none->Ad<=nb)
def Ev:Option (Int×List Pu)->List Pu
 | none=>[]
 | some x=>x.2
section
variable {bd:Int×Int} {V V':View} {puts:List Pu} {Ad:Nat} {o:Int}
def Holds.BT(h:Holds bd V puts Ad o)(hc:HG V V'):∃ix z E H n,CU bd V' ix z E H/\(∀nm c,V' nm=some c->C2 c)/\Ad<=n/\n<=puts.length/\C8 o (Aw z++Aw E++Ev H) (puts.take n):=by
 obtain⟨ix,z,E,H,nb,hL,I,O,Y,W⟩:=h;obtain⟨L,d⟩:=hL.BT hc;cases H with
 | none=>exact⟨ix,z,E,none,nb,d,L,W rfl,I,by simpa[Ev] using O⟩
 | some x=>
  obtain⟨n,l⟩:=x;obtain⟨c,i,c1,c2,c3,c4⟩:=d;obtain⟨c',d1,d2,d3⟩:=Y n l rfl;rw[c1]at d1;cases d1;have hl:l.length<=(puts.drop nb).length:=by
   have:=EB List.length d3;rw[BU]at this;omega
  rw[CP]at hl;refine⟨ix,z,E,some (n,l.take i),nb+i,c4,L,by omega,by omega,?_⟩;have e:puts.take (nb+i)=puts.take nb++l.take i:=by
   rw[List.take_add,d3,JO]
   congr 2;omega
  rw[e];exact O.dx _
def Holds.a6{d:Int×Int}(h:Holds bd V puts Ad o)(H:Hq bd d):Holds d V puts Ad o:=by
 obtain⟨ix,L,z,I,nb,E,r⟩:=h;exact⟨ix,L,z,I,nb,E.a6 H,r⟩
def Holds.bQ{z:Int}(h:Holds bd V puts Ad o)(H:o<=z):Holds bd V puts Ad z:=by
 obtain⟨ix,sg,E,Y,nb,L,d,W,O,I⟩:=h;exact⟨ix,sg,E,Y,nb,L,d,W.bQ H,O,I⟩
def Holds.ca(h:Holds bd V puts Ad o)(q:List Pu):Holds bd V (puts++q) Ad o:=by
 obtain⟨ix,I,W,Y,nb,H,d,O,E,z⟩:=h;refine⟨ix,I,W,Y,nb,H,by simp;omega,by rw[GI d];exact O,λn l e=>?_,z⟩;obtain⟨c,d1,d2,d3⟩:=E n l e;refine⟨c,d1,d2,?_⟩;have L:l.length<=(puts.drop nb).length:=by
  have:=EB List.length d3;rw[BU]at this;omega
 rw[Lh d,GI L];exact d3
def Holds.bB{ix:Ix}{z h:List (Int×List Pu)}(H:CU bd V ix z h none)(E:C8 o (Aw z++Aw h) puts)(d:Ad<=puts.length):Holds bd V puts Ad o:=
 ⟨ix,z,h,none,puts.length,H,Au _,by rw[C9];exact E,λn l e=>(by cases e),λ_=>d⟩
def Tv{c d:FC}{l:List Pu}(E:d.1=c.1)(h:d.2=c.2\/C2 d)(z:c.2<=c.1.length):EH c l<=EH d l:=by
 unfold EH;have:c.2<=d.2:=by
  rcases h with h|h
  ·omega
  ·unfold C2 at h;rw[h,E];exact z
 have:(c.2.toNat-12)/21<=(d.2.toNat-12)/21:=A2T (by omega);omega
def Holds.bT(h:Holds bd V puts Ad o)(H:∀nm,(∀c,V nm=some c->∃d,V' nm=some d/\d.1=c.1/\(d.2=c.2\/C2 d))/\(V nm=none->V' nm=none)):Holds bd V' puts Ad o:=by
 obtain⟨ix,sg,cl,lo,nb,L,O,hs,g1,W⟩:=h;have I:∀nm,V' nm≠none->V nm≠none:=λnm z E=>z ((H nm).2 E);refine⟨ix,sg,cl,lo,nb,L.bT (λnm _=>?_) (λnm z=>L.Eb nm (I nm z)) (λnm c z=>?_),O,hs,λn l e=>?_,W⟩
 ·cases E:V nm with
  | none=>exact .inl ⟨rfl,(H nm).2 E⟩
  | some c=>obtain⟨d,d1,d2,d3⟩:=(H nm).1 c E;exact .inr ⟨c,d,rfl,d1,d2,d3⟩
 ·cases E:V nm with
  | none=>rw[(H nm).2 E]at z;cases z
  | some x=>
   obtain⟨d,d1,d2,d3⟩:=(H nm).1 x E;rw[d1]at z;cases z;have:=L.DT nm x E;rcases d3 with d3|d3
   ·rw[d2,d3];exact this
   ·unfold C2 at d3;omega
 ·obtain⟨c,d1,d2,d3⟩:=g1 n l e;obtain⟨d,e1,Y,e3⟩:=(H _).1 c d1;exact⟨d,e1,AQ d2 (L7 (Tv Y e3 (L.DT _ _ d1).2) _),d3⟩
def Fw(bd:Int×Int)(V:View)(puts:List Pu)(Ad:Nat)(o:Int)(n:Int)(ahead:Nat):Prop:=
 ∃ix h d l nb c,CU bd V ix h d (some (n,l))/\nb<=puts.length/\C8 o (Aw h++Aw d) (puts.take nb)/\V (Ae n)=some c/\c.1=DV (Ae n) ahead l/\ahead=(Aw d).length/\Ad<=nb+EH c l/\l=puts.drop nb
def Fw.a6{d:Int×Int}{n:Int}{ahead:Nat}(h:Fw bd V puts Ad o n ahead)(E:Hq bd d):Fw d V puts Ad o n ahead:=by
 obtain⟨ix,I,z,l,nb,c,H,r⟩:=h;exact⟨ix,I,z,l,nb,c,H.a6 E,r⟩
def Fw.cb{n:Int}{ahead:Nat}(h:Fw bd V puts Ad o n ahead):Holds bd V puts Ad o:=by
 obtain⟨ix,L,W,l,nb,c,I,d,O,E,h2,h3,z,H⟩:=h;exact⟨ix,L,W,some (n,l),nb,I,d,O,λn' l' e=>by cases e;exact⟨c,E,z,by rw[<-H,C9]⟩,λe=>by cases e⟩
def Fw.an{n:Int}{ahead:Nat}(h:Fw bd V puts Ad o n ahead)(p:Pu)(hp:Bg p)(j:Nat){s:Nat}(aE:∀l c,V (Ae n)=some c->c.1=DV (Ae n) ahead l->s=ES (Ae n) ahead l)(H:∀nm,nm≠Ae n->V' nm=V nm)(h2:∀c,V (Ae n)=some c->V' (Ae n)=some (c.1++(AR s (Bb p.1 p.2.1 p.2.2)).take j,c.2)):
 (21<=j->Fw bd V' (puts++[p]) Ad o n ahead)/\(j<21->Holds bd V' puts Ad o):=by
 obtain⟨ix,sg,Y,l,nb,c,E,W,hs,g1,g2,g3,g4,g5⟩:=h;have aG:=aE l c g1 g2;have hv:=h2 c g1;have hpl:(AR s (Bb p.1 p.2.1 p.2.2)).length=21:=by rw[Eu,EP]
 obtain⟨q1,q2,c',q3,q4⟩:=E.A8 n l rfl;rw[g1]at q3;cases q3;have I:=(Eg.1 E.EE).2.2;have aA:∀x∈Y,Ae x.1≠Ae n:=λx z e=>by
  have e2:=FG (E.CO x z).1.1 q1.1 e;have:=I x.1 (DP z) n (by simp);omega
 have O:Fl V' 0 Y:=E.Aj.bC λx z=>by rw[H _ (aA x z)]
 have mk:∀l',(∀p∈l',Bg p)->Hz (c.1++(AR s (Bb p.1 p.2.1 p.2.2)).take j) (Ae n) (Aw Y).length l'->CU bd V' ix sg Y (some (n,l')):=λl' aD aB=>
  ⟨E.Dz,by rw[H _ (H6 n).symm];exact E.I5,E.segs,λx z=>by rw[H _ (FK n x.1).symm];exact E.Cq x z,λx z=>by rw[H _ (aA x z)];exact E.CO x z,O,
   λn' l2 e=>by cases e;exact⟨q1,aD,_,hv,aB⟩,E.EE,λk k1 k2 k3=>by
    by_cases e:Ae k=Ae n
    ·have:=FG k1 q1.1 e;subst this;simp
    ·rw[H _ e]at k3;exact E.Cl k k1 k2 k3,λnm L=>by
    by_cases e:nm=Ae n
    ·subst e;exact E.Eb _ (by rw[g1];simp)
    ·rw[H _ e]at L;exact E.Eb nm L,λnm d L=>by
    by_cases e:nm=Ae n
    ·subst e;rw[hv]at L;cases L;have:=E.DT _ _ g1;dsimp only;rw[AZ];omega
    ·rw[H _ e]at L;exact E.DT nm d L⟩
 constructor
 ·intro hj;have ht:(AR s (Bb p.1 p.2.1 p.2.2)).take j=AR s (Bb p.1 p.2.1 p.2.2):=Em (by omega);have hb:c.1++(AR s (Bb p.1 p.2.1 p.2.2)).take j=DV (Ae n) ahead (l++[p]):=by rw[ht,g2,aG,(SH _ _ _ _).1]
  have aF:∀x∈l++[p],Bg x:=λx z=>by
   rcases AV.1 z with z|z
   ·exact q2 x z
   ·simp at z;subst z;exact hp
  refine⟨ix,sg,Y,l++[p],nb,_,mk _ aF (.inl ⟨[],by rw[hb,g3];simp,by simp⟩),by simp;omega,by rw[GI W];exact hs,hv,hb,g3,?_,by rw[Lh W,<-g5]⟩;have:EH c l<=EH (c.1++(AR s (Bb p.1 p.2.1 p.2.2)).take j,c.2) (l++[p]):=by unfold EH;simp;omega
  omega
 ·intro hj
  refine⟨ix,sg,Y,some (n,l),nb,mk l q2 (.inl ⟨_,by rw[g2,g3],by rw[BU];omega⟩),W,hs,λn' l' e=>by
   cases e
   exact⟨_,hv,by unfold EH at g4 ⊢;exact g4,by rw[<-g5,C9]⟩,λe=>by cases e⟩
end
structure AH (P Q:PD):Prop where
 A4:P.D.A4=Q.D.A4
 AM:P.D.AM=Q.D.AM
 As:P.D.As=Q.D.As
 Ee:P.F=Q.F
structure FP (P:PD):Prop where
 Aq:(P.D.A4.map (·.2)).Nodup
 Cb:(P.D.A4.map (·.1)).Nodup
def PD.aR(P:PD):PD:=⟨{P.D with n:=⟨(B4 P.F P.D.A4:Int)+4611686018427387904,0,0,0,0,0,0,false⟩},P.F⟩
def AH.aR(P:PD):AH P P.aR:=⟨rfl,rfl,rfl,rfl⟩
def FP.aR{P:PD}(h:FP P):Cm P.aR 4611686018427387904 4611686018427387904:=
 ⟨rfl,rfl,rfl,⟨by simp[PD.aR],by simp[PD.aR]⟩,by simp[PD.aR],h.Aq,h.Cb⟩
def GG{n:DN}(h:(bg n).2.1=0):(bg n).1=true:=by
 unfold bg at h ⊢;dsimp only at h ⊢;split at h
 ·cases h
 ·split at h
  ·cases h
  ·split at h
   ·cases h
   ·rename_i z d E;rw[Ac z,Ac d,Ac E]
section
variable {P Q:PD} {N R:Nat} {nm old:ByteArray}
def AH.AT(h:AH P Q):P.D.AT=Q.D.AT:=by unfold DS.AT;rw[h.A4,h.AM,h.As]
def AH.fl(h:AH P Q)(m:Bs):P.fl m=Q.fl m:=by unfold PD.fl;rw[h.A4,h.Ee]
def AH.bs(h:AH P Q)(m:Bs):P.bs m=Q.bs m:=by unfold PD.bs;rw[h.fl]
def AH.ai(h:AH P Q)(H:Cm Q (N+1) R)(d:(P.ai nm).1=0):(Q.ai nm).1=0/\AH (P.ai nm).2 (Q.ai nm).2/\Cm (Q.ai nm).2 N R:=by
 have L:=h.AT;unfold PD.ai CK at d ⊢;rw[h.A4]at d ⊢;by_cases z:nm=ByteArray.empty\/B2 Q.D.A4 nm≥0
 ·rw[Af z]at d;cases d
 ·rw[Ac z]at d;rw[Ac z,Ac z];dsimp only at d ⊢;rw[GG d,H.bg,L,h.Ee];dsimp only
  rw[Af rfl,Af rfl];refine⟨rfl,⟨rfl,h.AM,by dsimp only;rw[h.As],rfl⟩,?_⟩;have E:¬nm=ByteArray.empty:=λe=>z (.inl e);have W:lookup Q.D.A4 nm=none:=(IQ _ _).1 (by (have:¬B2 Q.D.A4 nm≥0:=λe=>z (.inr e));omega);have I:=G3 nm;have O:Q.fl nm.data.toList=none:=by unfold PD.fl;rw[I,W];rfl
  have:=(Cm.ai (nm:=nm.data.toList) H O (λe=>E (by rw[<-I,e];rfl))).2.1;rw[I]at this;unfold PD.ai CK at this;rw[Ac z]at this;dsimp only at this;rw[H.bg]at this;simpa using this
def AH.ae(h:AH P Q)(z:Cm Q (N+1) R)(d:(P.ae nm).1=0):(Q.ae nm).1=0/\AH (P.ae nm).2 (Q.ae nm).2/\Cm (Q.ae nm).2 N R:=by
 have E:=G3 nm;have key:lookup Q.D.A4 nm≠none->Cm (Q.ae nm).2 N R:=λH=>by
  cases hx:lookup Q.D.A4 nm with
  | none=>exact absurd hx H
  | some f=>
   have:=(Cm.ae (nm:=nm.data.toList) (c:=Q.F f) z (by unfold PD.fl;rw[E,hx];rfl)).2.1
   rwa [E]at this
 unfold PD.ae Cw at d key ⊢;rw[h.A4]at d ⊢;cases hx:lookup Q.D.A4 nm with
 | none=>rw[hx]at d;cases d
 | some f=>
  rw[hx]at d key;dsimp only at d key ⊢;rw[d,Af rfl];rw[z.bg]at key ⊢;dsimp only at key ⊢;rw[Af rfl]at key ⊢;exact⟨rfl,⟨rfl,h.AM,h.As,by dsimp only;rw[h.Ee]⟩,key (by simp)⟩
def AH.aK(h:AH P Q)(z:Cm Q (N+1) R)(d:P.aK.1=0):Q.aK.1=0/\AH P.aK.2 Q.aK.2/\Cm Q.aK.2 N R:=by
 have key:=z.aK.2.1;refine⟨z.aK.1,?_,key⟩;unfold PD.aK DC at d ⊢;dsimp only at d ⊢;rw[d,Af rfl,z.bg];dsimp only
 rw[Af rfl];exact⟨h.A4,h.A4,rfl,h.Ee⟩
def AH.az(h:AH P Q)(E:Cm Q (N+1) R)(d:(P.az nm).1=0):(Q.az nm).1=0/\AH (P.az nm).2 (Q.az nm).2/\Cm (Q.az nm).2 N R:=by
 have H:=G3 nm;have key:lookup Q.D.A4 nm≠none->(Q.az nm).1=0/\Cm (Q.az nm).2 N R:=λO=>by
  cases z:lookup Q.D.A4 nm with
  | none=>exact absurd z O
  | some f=>
   have:=(Cm.az (nm:=nm.data.toList) (c:=Q.F f) E (by unfold PD.fl;rw[H,z];rfl));rw[H]at this;exact⟨this.1,this.2.1⟩
 have z:¬B2 Q.D.A4 nm<0:=λz=>by
  unfold PD.az Dd at d;rw[h.A4,Af z]at d;cases d
 obtain⟨I,L⟩:=key λe=>z ((IQ _ _).2 e);refine⟨I,?_,L⟩;unfold PD.az Dd at d ⊢;rw[h.A4,Ac z]at d;rw[h.A4,Ac z,Ac z];dsimp only at d ⊢;rw[GG d,E.bg];dsimp only
 rw[Af rfl,Af rfl];exact⟨rfl,h.AM,by dsimp only;rw[h.As],h.Ee⟩
def AH.aO(h:AH P Q)(I:Cm Q (N+1) R)(L:old≠nm)(d:(P.aO old nm).1=0):(Q.aO old nm).1=0/\AH (P.aO old nm).2 (Q.aO old nm).2/\Cm (Q.aO old nm).2 N R:=by
 have H:=G3 nm;have E:=G3 old;unfold PD.aO CN at d;rw[h.A4]at d;cases hx:lookup Q.D.A4 old with
 | none=>rw[hx]at d;cases d
 | some f=>
  rw[hx]at d;dsimp only at d;by_cases z:nm=ByteArray.empty
  ·rw[Af z]at d;cases d
  ·rw[Ac z]at d;dsimp only at d;have key:=Cm.aO (nm:=nm.data.toList) (old:=old.data.toList) (c:=Q.F f) I (by unfold PD.fl;rw[E,hx];rfl) (λe=>z (by rw[<-H,e];rfl)) (λe=>L (by rw[<-H,<-E,e]));rw[H,E]at key;refine⟨key.1,?_,key.2.1⟩;unfold PD.aO CN;rw[h.A4,hx];dsimp only
   rw[Ac z,Ac z];dsimp only
   rw[GG d,I.bg];dsimp only
   rw[Af rfl,Af rfl];exact⟨rfl,h.AM,by dsimp only;rw[h.As],h.Ee⟩
def AH.an{l:Bs}(h:AH P Q)(W:Cm Q (N+1) R)(hl:l.length<=R)(d:(P.an nm l).1=0):(Q.an nm l).1=0/\AH (P.an nm l).2 (Q.an nm l).2/\Cm (Q.an nm l).2 N (R-l.length):=by
 have hn:=G3 nm;have O:¬(bg P.D.n).2.1≠0:=λz=>by
  unfold PD.an Bl at d;rw[h.A4]at d;cases hx:lookup Q.D.A4 nm with
  | none=>rw[hx]at d;cases d
  | some f=>
   rw[hx]at d;dsimp only at d;have E:∀D Y,(By D P.F f (A7 l) Y (bg P.D.n).2.1).1≠0:=λD Y=>by
    unfold By;split
    ·dsimp only;first|exact z|(rw[Ac z];exact z)
    ·exact z
   split at d
   ·exact E _ _ d
   ·split at d
    ·exact E _ _ d
    ·exact z d
 have z:(bg P.D.n).2.1=0:=by
  by_cases e:(bg P.D.n).2.1=0
  ·exact e
  ·exact absurd e O
 cases hx:lookup Q.D.A4 nm with
 | none=>
  unfold PD.an Bl at d;rw[h.A4,hx]at d;cases d
 | some f=>
  have key:=Cm.an (nm:=nm.data.toList) (c:=Q.F f) W (by unfold PD.fl;rw[hn,hx];rfl) l hl;rw[hn]at key;refine⟨key.1,?_,key.2.1⟩;have I:∀D:DS,D.A4=Q.D.A4->D.n.AB=Q.D.n.AB->¬((A7 l).size:Int)>FL D Q.F:=λD h1 L=>by
   have:=W.AB;unfold FL;rw[h1,L,Ko];omega
  unfold PD.an Bl at d ⊢;rw[h.A4,hx]at d;rw[h.A4,hx];dsimp only at d ⊢;rw[GG z,Af rfl,z]at d;rw[GG z,Af rfl,z,W.bg];dsimp only
  rw[Af rfl];unfold By at d ⊢;split at d
  ·simp at d
  ·rename_i H;rw[Ac H];split
   ·rename_i L;exact absurd L (I _ rfl rfl)
   ·exact⟨rfl,h.AM,h.As,by dsimp only;rw[h.Ee]⟩
end
def nn{x:Int}(h:x=0):¬x≠0:=λk=>k h
section
variable {P Q:PD} {N R:Nat} {nm old:Bs} {A:Ar} {J:Jn}
def AH.Ax(h:AH P Q):P.Ax=Q.Ax:=by unfold PD.Ax;rw[h.A4]
def AH.aV(h:AH P Q):A.aV P=A.aV Q:=by unfold Ar.aV;rw[h.Ax]
def AH.aX(h:AH P Q)(n a:Int):P.aX n a=Q.aX n a:=by
 unfold PD.aX Gm DJ;rw[h.A4,h.Ee]
def AH.bl(h:AH P Q):∀(l:List Int) (d:List Pu),P.bl l d=Q.bl l d
 | [],_=>rfl
 | n::r,d=>by simp only[PD.bl];rw[h.aX,h.bl r]
def AH.puts(h:AH P Q)(l:List Int):P.puts l=Q.puts l:=h.bl l []
def AH.Cl(h:AH P Q)(m:Bs):P.Cl m=Q.Cl m:=by unfold PD.Cl DJ;rw[h.A4,h.Ee]
def AH.a1(h:AH P Q)(m:Bs):P.a1 m=Q.a1 m:=by unfold PD.a1;rw[h.Cl]
def AH.Cq(h:AH P Q)(n:Int):P.Cq n=Q.Cq n:=by unfold PD.Cq;rw[h.a1]
def AH.segs(h:AH P Q):∀l:List Int,P.segs l=Q.segs l
 | []=>rfl
 | n::r=>by simp only[PD.segs];rw[h.Cq,h.segs r]
def AH.bY{s:Nat}{l:Bs}(h:AH P Q)(L:Cm Q (N+1) R)(hl:l.length+4<=R)(d:(P.aa (A7 nm) s l).2.1=0):
 (P.aa (A7 nm) s l).1=(Q.aa (A7 nm) s l).1/\(Q.aa (A7 nm) s l).2.1=0/\AH (P.aa (A7 nm) s l).2.2 (Q.aa (A7 nm) s l).2.2/\Cm (Q.aa (A7 nm) s l).2.2 N (R-(l.length+4)):=by
 have H:=Eu s l;obtain⟨I,z,E⟩:=h.an (nm:=A7 nm) (l:=AR s l) L (by omega) d;rw[H]at E;refine⟨?_,I,z,E⟩;have e:∀X:PD,(X.aa (A7 nm) s l).1=decide ((Cx (X.an (A7 nm) (AR s l)).2.D (X.an (A7 nm) (AR s l)).2.F (A7 nm)).1-(Cx X.D X.F (A7 nm)).1=(AR s l).length):=λX=>rfl;rw[e P,e Q];unfold Cx;rw[z.A4,z.Ee,h.A4,h.Ee]
def AH.aH{s:Nat}{l:Bs}(h:AH P Q)(hc:Cm Q (N+3) R)(I:l.length+4<=R)(d:(P.aH nm s l).1=0):
 (Q.aH nm s l).1=0/\AH (P.aH nm s l).2 (Q.aH nm s l).2/\Cm (Q.aH nm s l).2 N (R-(l.length+4)):=by
 unfold PD.aH at d ⊢;by_cases E:(P.ai (A7 nm)).1=0
 ·rw[Ac (nn E)]at d;obtain⟨L,O,Y⟩:=h.ai (N:=N+2) (nm:=A7 nm) hc E;by_cases z:((P.ai (A7 nm)).2.aa (A7 nm) s l).2.1=0
  ·rw[Ac (nn z)]at d;obtain⟨-,H,W,b3⟩:=O.bY (N:=N+1) (nm:=nm) Y I z;obtain⟨c1,c2,c3⟩:=W.ae (N:=N) (nm:=A7 nm) b3 d;rw[Ac (nn E),Ac (nn z),Ac (nn L),Ac (nn H)];exact⟨c1,c2,c3⟩
  ·rw[Af z]at d;exact absurd d z
 ·rw[Af E]at d;exact absurd d E
def AH.ax:∀(l:List Bs) {P Q:PD},AH P Q->Cm Q (N+l.length) R->(PD.ax l P).1=0->(PD.ax l Q).1=0/\AH (PD.ax l P).2 (PD.ax l Q).2/\Cm (PD.ax l Q).2 N R
 | [],P,Q,h,hc,_=>⟨rfl,h,hc⟩
 | x::r,P,Q,h,hc,hok=>by
  unfold PD.ax at hok ⊢;by_cases d:(P.ae (A7 x)).1=0
  ·rw[Ac (nn d)]at hok;obtain⟨E,z,H⟩:=h.ae (N:=N+r.length) (nm:=A7 x) (by simpa[Nat.add_assoc] using hc) d;rw[Ac (nn d),Ac (nn E)];exact AH.ax r z H hok
  ·rw[Af d]at hok;exact absurd hok d
def AH.aM:∀(l:List Bs) {P Q:PD},AH P Q->Cm Q (N+l.length) R->(PD.aM l P).1=0->(PD.aM l Q).1=0/\AH (PD.aM l P).2 (PD.aM l Q).2/\Cm (PD.aM l Q).2 N R
 | [],P,Q,h,hc,_=>⟨rfl,h,hc⟩
 | x::r,P,Q,h,hc,hok=>by
  unfold PD.aM at hok ⊢;by_cases d:(P.az (A7 x)).1=0
  ·rw[Ac (nn d)]at hok;obtain⟨E,z,H⟩:=h.az (N:=N+r.length) (nm:=A7 x) (by simpa[Nat.add_assoc] using hc) d;rw[Ac (nn d),Ac (nn E)];exact AH.aM r z H hok
  ·rw[Af d]at hok;exact absurd hok d
def AH.C(h:AH P Q)(L:Cm Q (N+A.AN.length) R)(d:(A.C P).1=0):(A.C Q).1=0/\(A.C P).2.1=(A.C Q).2.1/\AH (A.C P).2.2 (A.C Q).2.2/\Cm (A.C Q).2.2 N R:=by
 unfold Ar.C at d ⊢;by_cases z:(P.ax A.AN).1=0
 ·obtain⟨H,E,I⟩:=AH.ax A.AN h L z;rw[Ac (nn z),Ac (nn H)];exact⟨rfl,rfl,E,I⟩
 ·rw[Af z]at d;exact absurd d z
def AH.au(h:AH P Q)(z:Cm Q (N+(A.aV Q).length) R)(d:(A.au P).1=0):(A.au Q).1=0/\AH (A.au P).2 (A.au Q).2/\Cm (A.au Q).2 N R:=by
 unfold Ar.au at d ⊢;rw[h.aV]at d ⊢;exact AH.aM _ h z d
def AH.av(h:AH P Q)(hc:Cm Q (N+2) R)(hR:12<=R)(d:(J.av P).1=0):(J.av Q).1=0/\(J.av P).2.1=(J.av Q).2.1/\AH (J.av P).2.2 (J.av Q).2.2/\Cm (J.av Q).2.2 N (R-12):=by
 unfold Jn.av at d ⊢;by_cases z:(P.ai (A7 (Ae (J.A8+1)))).1=0
 ·rw[Ac (nn z)]at d;obtain⟨L,O,Y⟩:=h.ai (N:=N+1) hc z;dsimp only at d ⊢;by_cases E:((P.ai (A7 (Ae (J.A8+1)))).2.aa (A7 (Ae (J.A8+1))) (AE (Ae (J.A8+1))) (AO J.puts)).2.1=0
  ·obtain⟨-,I,W,H⟩:=O.bY (N:=N) (nm:=Ae (J.A8+1)) (s:=AE (Ae (J.A8+1))) (l:=AO J.puts) Y (by rw[CJ];omega) E;rw[CJ]at H;rw[Ac (nn z),Ac (nn E),Ac (nn L),Ac (nn I)];exact⟨rfl,rfl,W,H⟩
  ·rw[Af E]at d;exact absurd d E
 ·rw[Af z]at d;exact absurd d z
def AH.aw(h:AH P Q)(E:Cm Q (N+1) R)(hR:21<=R)(p:Pu)(d:(J.aw P p).2.1=0):(J.aw P p).1=(J.aw Q p).1/\(J.aw Q p).2.1=0/\(J.aw P p).2.2.1=(J.aw Q p).2.2.1/\AH (J.aw P p).2.2.2 (J.aw Q p).2.2.2/\Cm (J.aw Q p).2.2.2 N (R-21):=by
 unfold Jn.aw at d ⊢;cases hx:J.AF with
 | none=>exact⟨rfl,rfl,rfl,h,E.ad (by omega) (by omega)⟩
 | some x=>
  obtain⟨n,s⟩:=x;rw[hx]at d;dsimp only at d ⊢;obtain⟨I,H,L,z⟩:=h.bY (N:=N) (nm:=Ae n) E (by rw[EP];omega) d;rw[EP]at z;exact⟨I,H,rfl,L,z⟩
def AH.eT(h:AH P Q)(z:Cm Q (N+1) R)(d:(J.ae P).1=0):(J.ae Q).1=0/\AH (J.ae P).2 (J.ae Q).2/\Cm (J.ae Q).2 N R:=by
 unfold Jn.ae at d ⊢;cases hx:J.AF with
 | none=>exact⟨rfl,h,z.ad (by omega) (Au _)⟩
 | some x=>
  obtain⟨n,s⟩:=x;rw[hx]at d;exact h.ae (N:=N) z d
def AH.ah:∀(fresh:List (List Pu)) (last:Int) (kept:List Int) {P Q:PD},AH P Q->Cm Q (N+3*fresh.length) (R+Dg fresh)->(PD.ah fresh last kept P).1=0->
 (PD.ah fresh last kept Q).1=0/\(PD.ah fresh last kept P).2.1=(PD.ah fresh last kept Q).2.1/\(PD.ah fresh last kept P).2.2.1=(PD.ah fresh last kept Q).2.2.1/\AH (PD.ah fresh last kept P).2.2.2 (PD.ah fresh last kept Q).2.2.2/\Cm (PD.ah fresh last kept Q).2.2.2 N R
 | [],last,kept,P,Q,h,hc,_=>⟨rfl,rfl,rfl,h,by simpa[Dg,PD.ah] using hc⟩
 | l::r,last,kept,P,Q,h,hc,hok=>by
  have z:Dg (l::r)=(17*l.length+4)+Dg r:=by simp[Dg]
  have d:∀X:PD,PD.ah (l::r) last kept X=if (X.aL (last+1) l).1≠0 then ((X.aL (last+1) l).1,last+1,kept,(X.aL (last+1) l).2) else PD.ah r (last+1) (kept++[last+1]) (X.aL (last+1) l).2:=λ_=>rfl
  rw[d P]at hok;rw[d P,d Q];by_cases E:(P.aL (last+1) l).1=0
  ·rw[Ac (nn E)]at hok;obtain⟨L,O,H⟩:=AH.aH (N:=N+3*r.length) (R:=R+Dg (l::r)) (nm:=AG (last+1)) (s:=AE (AG (last+1))) (l:=Cd l) h (hc.ad (by simp;omega) (Au _)) (by rw[HR,z];omega) E;rw[HR]at H;have I:(Q.aL (last+1) l).1=0:=L;rw[Ac (nn E),Ac (nn I)];exact AH.ah r (last+1) (kept++[last+1]) O (H.ad (Au _) (by rw[z];omega)) hok
  ·rw[Af E]at hok;exact absurd hok E
def AH.cQ{d:Int}{segs:List Int}(h:AH P Q)(hc:Cm Q (N+4) R)(hR:12+8*segs.length<=R)(z:(P.ag d segs).1=0):(Q.ag d segs).1=0/\AH (P.ag d segs).2 (Q.ag d segs).2/\Cm (Q.ag d segs).2 N (R-(12+8*segs.length)):=by
 have L:(Ch d segs).length=8+8*segs.length:=by unfold Ch;rw[AZ,CJ,IP]
 unfold PD.ag at z ⊢;by_cases E:(P.aH Bk (AE AI) (Ch d segs)).1=0
 ·rw[Ac (nn E)]at z;obtain⟨O,W,a3⟩:=h.aH (N:=N+1) hc (by omega) E;obtain⟨I,Y,H⟩:=W.aO (N:=N) a3 (λe=>IN (FH.1 e).symm) z;rw[Ac (nn E),Ac (nn O)];exact⟨I,Y,by rw[L]at H;exact H.ad (Au _) (by omega)⟩
 ·rw[Af E]at z;exact absurd z E
def AH.cw{segs:List Int}(h:AH P Q)(H:Cm Q (N+4) R)(O:12+8*segs.length<=R)(d:(A.ag P segs).1=0):(A.ag Q segs).1=0/\(A.ag P segs).2.1=(A.ag Q segs).2.1/\AH (A.ag P segs).2.2 (A.ag Q segs).2.2/\Cm (A.ag Q segs).2.2 N (R-(12+8*segs.length)):=by
 unfold Ar.ag at d ⊢;by_cases z:A.ix.B7=A.j.A8+1/\A.ix.segs=segs
 ·rw[Af z,Af z];exact⟨rfl,rfl,h,H.ad (by omega) (by omega)⟩
 ·rw[Ac z]at d;rw[Ac z,Ac z];by_cases E:(P.ag (A.j.A8+1) segs).1=0
  ·obtain⟨I,L,W⟩:=h.cQ H O E;rw[Ac (nn E),Ac (nn I)];exact⟨rfl,rfl,L,W⟩
  ·rw[Af E]at d;exact absurd d E
end
end
end Go.Proofs.YtodcnkbblippnabGreatDoor
