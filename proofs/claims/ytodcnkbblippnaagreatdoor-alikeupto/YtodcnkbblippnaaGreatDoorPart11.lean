/- Part 11 of a proof: walks of the program. -/
import Derived.Shelf.Spec.SearchS
import Derived.Shelf.SlicesE.Clone
import Derived.Test.YtodcnkbblippnaaGreatDoorPart10
namespace Go.Proofs.YtodcnkbblippnaaGreatDoor
set_option maxRecDepth 100000
set_option maxHeartbeats 32000000
set_option linter.defProp false
open Go.Proofs.Tryz
section
open Go.RowKit
attribute [local go_sem ↓] CE
def OC{w:World}{jb b:Nat}{lv ov:Value}{J:Jn}(h:Dx w jb b lv ov J){n:Int}{s:Nat}(z:J.AA=some (n,s)):∃lb,ov=(A5 lb)/\Bd w lb 237 (A5 b) ⟨(Ae n).toArray⟩ s/\s<4294967296:=by
 rcases h.AA with⟨d,_⟩|⟨n',s',lb,d,E,I,H⟩
 ·rw[z]at d;cases d
 ·rw[z]at d;cases d;exact⟨lb,E,I,H⟩
section
variable {w w' w1 w2:World} {b B jb lb pb:Nat} {P:PD} {Ft FT:Nat->Prop} {a c m:Nat} {lv ov:Value} {J:Jn} {n:Int} {s:Nat}
def Dx.fa{P':PD}(E:Dx w jb b lv (.pointer (some ⟨lb,0,none⟩)) J)(ho:J.AA=some (n,s))(_hlt:∀k,Ft k->k<w.heap.size)(z:∀k,Dh jb lv (.pointer (some ⟨lb,0,none⟩)) k->¬Ft k)(d:∀k,Ft k\/Dh jb lv (.pointer (some ⟨lb,0,none⟩)) k->FT k){s':Nat}(L:s'<4294967296)(hf:Bd w' lb 237 (.pointer (some ⟨b,0,none⟩)) ⟨(Ae n).toArray⟩ s')(hI:Jp w Ft lb w' b P'):
 Aq w FT w' (λw' W=>JD w' jb b {J with AA:=some (n,s')} P' W):=by
 obtain⟨lb',e,Y,_⟩:=OC E ho;cases e;obtain⟨O,Ft',r2,r3,X⟩:=hI;have n1:lb≠jb:=Y.dG E.Af;have n2:∀g,lv.ownBlock=some g->g≠lb:=λg I=>Y.db E.Am I;refine Aq.jd O ?_ ⟨E.Af.aj O ?_,?_,.inr ⟨n,s',lb,rfl,rfl,hf,L⟩⟩ r2 r3 ?_ ?_ ?_
 ·rintro k _ (h|rfl)
  ·exact d k (.inl h)
  ·exact d _ (.inr (.inr (.inr rfl)))
 ·rintro (h|h)
  ·exact z _ (.inl rfl) h
  ·exact n1 h.symm
 ·exact Ay E.Am λg I=>O.Ao g (AB E.Am I) λh=>by
   rcases h with h|h
   ·exact z g (.inr (.inl I)) h
   ·exact n2 g I h
 ·exact λk H hx=>by
   rcases X k hx with h|h
   ·exact z k H h
   ·have:=E.lt H;omega
 ·exact λk H=>(X k H).imp (λh=>d k (.inl h)) id
 ·exact λk H=>.inl (d k (.inr H))
def ZV(w:World)(p:Pu)(h:JD w jb b J P FT)(hp:Bi p)(hn:J.AA=none->CJ (J.A9+1)/\AN (J.A9+1)/\AN J.puts)(bK:J.Am.length<=1073741824)(hL:Lets B w)(hF:Fit P a c m)(hl:CN (a+1) (c+1) (m+33)):
 Ag 148 #[A5 jb,Dt p] w (Al (.tuple #[.bool (J.ad P p).1,A0 (J.ad P p).2.1]) λw'=>Aq w FT w' (λw' H=>JD w' jb b (J.ad P p).2.2.1 (J.ad P p).2.2.2 H)):=by
 obtain⟨E,z,d⟩:=p;unfold Dt;dsimp only
 obtain⟨L,I,O,aD,bI,aL,aM,aG⟩:=h;have a8:CN (a+1) (c+1) (m+12):=⟨hl.a,hl.c,by have:=hl.m;omega⟩;have bJ:C5 (w.aC #[A0 E,A0 z,A0 d] 113) w.heap.size E z d:=BN w _;have k0:A3 Ab w (w.aC #[A0 E,A0 z,A0 d] 113):=(A3.I _ w).ak _;have sz:w.heap.size<(w.aC #[A0 E,A0 z,A0 d] 113).heap.size:=by simp
 have hex:JD w jb b J P (λk=>O k\/Dh jb L I k):=⟨L,I,O,aD,bI,aL,aM,λ_ h=>h⟩;have aN:∀k,(O k\/Dh jb L I k)->k<w.heap.size:=λk hk=>hk.elim (aL k) λh=>aD.lt h;have h1:JD (w.aC #[A0 E,A0 z,A0 d] 113) jb b J P (λk=>O k\/Dh jb L I k):=hex.aP (k0.aH aN λ_ _ h=>h) k0.Ak;have bB:=hL.aS k0
 have AD:Hid (∀(w1:World) (aA:Jn) (aB:PD) (X:Nat->Prop) (n:Int) (s:Nat),A3 (λk=>O k\/Dh jb L I k) (w.aC #[A0 E,A0 z,A0 d] 113) w1->(∀k,X k->(O k\/Dh jb L I k)\/(w.aC #[A0 E,A0 z,A0 d] 113).heap.size<=k)->JD w1 jb b aA aB X->aA.AA=some (n,s)->Fit aB (a+1) (c+1) (m+12)->
  ∃lb,A7 w1 jb 4 (A5 lb)/\C5 w1 w.heap.size E z d/\Ag 191 #[A5 lb,.agg #[A0 E,A0 z,A0 d]] w1.drew (Al (.tuple #[.bool (aA.av aB (E,z,d)).1,A0 (aA.av aB (E,z,d)).2.1]) λw'=>
   w'.cell? (Aa jb 4)=some (A5 lb)/\C5 w' w.heap.size E z d/\Aq w FT w' (λw' H=>JD w' jb b (aA.av aB (E,z,d)).2.2.1 (aA.av aB (E,z,d)).2.2.2 H))):=λw1 aA aB X n s aV aQ bH aR bF=>by
  obtain⟨lv,ov,Ft,hJ,hD,aO,aE,aF⟩:=bH;obtain⟨lb,rfl,h3,h4⟩:=OC hJ aR;have aJ:=bJ.aj aV (λhx=>by have:=aN _ hx;omega);have a0:¬X w.heap.size:=λhx=>by
   rcases aQ _ hx with h|h
   ·have:=aN _ h;omega
   ·omega
  have kd:A3 Ab w1 w1.drew:=(A3.I _ w1).af;have a3:=hJ.aw kd;have aK:∀k,Ft k->k<w1.drew.heap.size:=aO;refine⟨lb,hJ.Af.c4,aJ,(A3h (E,z,d) _ s (h3.aj kd (λh=>h)) h4 (B3.aH hD aO kd) aK (λhx=>aE _ (.inr (.inr rfl)) hx) hp bF ⟨hl.a,hl.c,by have:=hl.m;omega⟩).mono ?_⟩;rintro e w'⟨rfl,hf,Y⟩;have he:aA.av aB (E,z,d)=((aB.ad (A8 (Ae n)) s (Bc E z d)).1,(aB.ad (A8 (Ae n)) s (Bc E z d)).2.1,{aA with AA:=some (n,AT s (Bc E z d))},(aB.ad (A8 (Ae n)) s (Bc E z d)).2.2):=by unfold Jn.av;rw[aR]
  rw[he];have bC:=Dx.fa a3 aR aK aE aF (Ju s (Bc E z d) h4) hf Y
  have bA:CG w' jb b lv aA.A9 aA.puts (A5 lb):=a3.Af.aj Y.1 (by
   rintro (h|h)
   ·exact aE _ (.inl rfl) h
   ·exact h3.dG hJ.Af h.symm)
  refine⟨rfl,bA.c4,aJ.af.aj Y.1 (by
   rintro (h|h)
   ·exact a0 (aF _ (.inl h))
   ·exact a0 (aF _ (.inr (.inr (.inr (by rw[h])))))),?_⟩
  have hall:Aq (w.aC #[A0 E,A0 z,A0 d] 113) (λk=>O k\/Dh jb L I k) w' (λw' H=>JD w' jb b {aA with AA:=some (n,AT s (Bc E z d))} (aB.ad (A8 (Ae n)) s (Bc E z d)).2.2 H):=by
   obtain⟨q1,a7,q2,q3,q4⟩:=bC.a6 kd;exact⟨aV.Ap q1 λx hx aO=>(aQ x hx).resolve_right (by omega),a7,q2,q3,λk hk=>(q4 k hk).elim (λh=>aQ k h) λh=>.inr (AM aV.Ak h)⟩
  exact(hall.a6 k0).a1 aG
 by_cases ho:J.AA=none
 case pos=>
  have aX:I=.pointer none:=by
   rcases aD.AA with⟨_,h⟩|⟨n,s,lb,h,_⟩
   ·exact h
   ·rw[ho]at h;cases h
  obtain⟨n1,n2,n3⟩:=hn ho;have a4:=A1 (A2j _ h1 ho n1 n2 n3 bK bB hF a8);have c4:=(aD.aw k0).Af.c4;rw[aX]at c4;have aY:Hid (J.ad P (E,z,d)=if (J.au P).1≠0 then (false,(J.au P).1,(J.au P).2.1,(J.au P).2.2) else (J.au P).2.1.av (J.au P).2.2 (E,z,d)):=by unfold Hid Jn.ad;rw[Ah ho]
  have aT:Hid (Fit (J.au P).2.2 (a+1) (c+1) (m+12)):=by
   (have hp:(AR (AE (Ae (J.A9+1))) (AQ J.puts)).length=12:=by simp[AR,Hd,CL]);have a2:=hF.ai (A8 (Ae (J.A9+1)));have aP:=a2.an (A8 (Ae (J.A9+1))) (AR (AE (Ae (J.A9+1))) (AQ J.puts));rw[hp]at aP;unfold Hid Jn.au;split
   ·exact a2.aa (As _) (As _) (by omega)
   ·dsimp only
    split
    ·exact aP
    ·exact aP
  have bD:Hid ((J.au P).1=0->∃n s,(J.au P).2.1.AA=some (n,s)):=λh0=>by
   unfold Jn.au at h0 ⊢;split
   ·rename_i hc;rw[Ah hc]at h0;exact absurd h0 hc
   ·rename_i hc;rw[Ad hc]at h0;dsimp only at h0 ⊢;split
    ·rename_i hd;rw[Ah hd]at h0;exact absurd h0 hd
    ·exact⟨_,_,rfl⟩
  have bG:Hid (∀wx bE bL,Aq (w.aC #[A0 E,A0 z,A0 d] 113) (λk=>O k\/Dh jb L I k) wx (λw' H=>JD w' jb b bE bL H)->Aq w FT wx (λw' H=>JD w' jb b bE bL H)):=λwx bE bL hx=>(hx.a6 k0).a1 aG
  generalize hR:J.ad P (E,z,d)=R at aY ⊢;generalize hG:J.au P=G at a4 aY aT bD;obtain⟨a9,a6,a5⟩:=G;dsimp only at a4 aY aT bD;by_cases hg:a9=0
  case neg=>
   (have aH:R=(false,a9,a6,a5):=by rw[aY.o,Ah hg]);subst aH;(have hgb:(a9 !=0)=true:=by simpa using hg)
   go_enter func148,ntmps148
   go_wp2_with (go_at_call 190;refine a4.m ?_;rintro e w2⟨rfl,Y⟩;have aZ:=A1 (bG.o _ _ _ Y));go_ret2;exact⟨rfl,aZ.o⟩
  case pos=>
   subst hg;(have aH:R=a6.av a5 (E,z,d):=by rw[aY.o,Ad (by simp)]);obtain⟨n,s,aI⟩:=bD.o rfl
   have a1:Hid (∀w2,Aq (w.aC #[A0 E,A0 z,A0 d] 113) (λk=>O k\/Dh jb L I k) w2 (λw' H=>JD w' jb b a6 a5 H)->∃lb,A7 w2 jb 4 (A5 lb)/\C5 w2 w.heap.size E z d/\Ag 191 #[A5 lb,.agg #[A0 E,A0 z,A0 d]] w2.drew (Al (.tuple #[.bool R.1,A0 R.2.1]) λw'=>
    w'.cell? (Aa jb 4)=some (A5 lb)/\C5 w' w.heap.size E z d/\Aq w FT w' (λw' H=>JD w' jb b R.2.2.1 R.2.2.2 H))):=λw2 Y=>by
    obtain⟨q1,X,q2,q3,q4⟩:=Y;rw[aH];exact AD.o w2 a6 a5 X n s q1 q4 q2 aI aT.o
   obtain⟨bO,bN,bM,bP⟩:=R;dsimp only at a1
   go_enter func148,ntmps148
   go_wp2_with (fail);refine a4.m ?_;rintro e w2⟨rfl,Y⟩;obtain⟨lb,aU,W,aW⟩:=a1.o w2 Y;have aS:=A1 aW;have d4:A7 w2.drew jb 4 (A5 lb):=aU;have d0:=W.af.c0;have d1:=W.af.c1;have d2:=W.af.c2;go_wp2;refine BP (λw'=>A7 w' jb 4 (A5 lb)/\A7 w' w.heap.size 0 (A0 E)/\A7 w' w.heap.size 1 (A0 z)/\A7 w' w.heap.size 2 (A0 d)) 8
    (Bq [0,1,2,3,4,5,6,7] [5]) ⟨d4,d0,d1,d2⟩ ?_
   iterate 5 (refine Bg ?_;(try simp only[An]))
   refine Bw λK hK=>?_;go_simp;refine aS.m ?_;rintro e w3⟨rfl,e4,eb,Y⟩;refine hK _ _ ⟨e4,eb.c0,eb.c1,eb.c2⟩ (λhS=>?_);have aZ:=A1 Y
   (try simp only[An])
   iterate 2 (refine Bg ?_;(try simp only[An]))
   refine Bl ?_;simp only[BI,BH];go_wp2;go_ret2;exact⟨rfl,aZ.o⟩
 case neg=>
  obtain⟨⟨n,s⟩,aI⟩:∃x,J.AA=some x:=Lm.1 ho;obtain⟨lb0,aX,-,-⟩:=OC aD aI;have aH:J.ad P (E,z,d)=J.av P (E,z,d):=by unfold Jn.ad;rw[Ad ho]
  obtain⟨lb,aU,W,aW⟩:=AD.o _ J P _ n s (A3.I _ _) (λk hk=>.inl hk) h1 aI (hF.aa (by omega) (by omega) (by omega));rw[<-aH]at aW;generalize hR:J.ad P (E,z,d)=R at aW ⊢;obtain⟨bO,bN,bM,bP⟩:=R;dsimp only at aW ⊢;have aS:=A1 aW;have d4:(w.aC #[A0 E,A0 z,A0 d] 113).drew.cell? (Aa jb 4)=some (A5 lb):=aU;have d0:=W.af.c0;have d1:=W.af.c1;have d2:=W.af.c2
  go_enter func148,ntmps148
  go_wp2;refine BP (λw'=>A7 w' jb 4 (A5 lb)/\A7 w' w.heap.size 0 (A0 E)/\A7 w' w.heap.size 1 (A0 z)/\A7 w' w.heap.size 2 (A0 d)) 8
   (Bq [0,1,2,3,4,5,6,7] [5]) ⟨d4,d0,d1,d2⟩ ?_
  iterate 5 (refine Bg ?_;(try simp only[An]))
  refine Bw λK hK=>?_;go_simp;refine aS.m ?_;rintro e w3⟨rfl,e4,eb,Y⟩;refine hK _ _ ⟨e4,eb.c0,eb.c1,eb.c2⟩ (λhS=>?_);have aZ:=A1 Y
  (try simp only[An])
  iterate 2 (refine Bg ?_;(try simp only[An]))
  refine Bl ?_;simp only[BI,BH];go_wp2;go_ret2;exact⟨rfl,aZ.o⟩
end
end
section
open Go.RowKit
def D3(w:World)(ab b xb jb:Nat)(last:Int)(ov:Value):Prop:=w.heap[ab]?=some (.cells #[.pointer (some ⟨b,0,none⟩),.pointer (some ⟨xb,0,none⟩),.pointer (some ⟨jb,0,none⟩),.int .i64 last,ov] 150 (0,0))
section
variable {w w':World} {ab b xb jb:Nat} {last:Int} {ov:Value}
def D3.c0(h:D3 w ab b xb jb last ov):A7 w ab 0 (A5 b):=by unfold D3 at h;simp[A7,World.cell?,h]
def D3.c1(h:D3 w ab b xb jb last ov):A7 w ab 1 (A5 xb):=by unfold D3 at h;simp[A7,World.cell?,h]
def D3.c2(h:D3 w ab b xb jb last ov):A7 w ab 2 (A5 jb):=by unfold D3 at h;simp[A7,World.cell?,h]
def D3.c3(h:D3 w ab b xb jb last ov):A7 w ab 3 (A0 last):=by unfold D3 at h;simp[A7,World.cell?,h]
def D3.c4(h:D3 w ab b xb jb last ov):A7 w ab 4 ov:=by unfold D3 at h;simp[A7,World.cell?,h]
def D3.fz(h:D3 w ab b xb jb last ov)(o:Nat):w.frozen? (Aa ab o)=false:=by unfold D3 at h;simp[World.frozen?,h]
def D3.lt(h:D3 w ab b xb jb last ov):ab<w.heap.size:=By h
def D3.s3(h:D3 w ab b xb jb last ov)(x:Int):D3 (w.setCell (Aa ab 3) (A0 x)) ab b xb jb x ov:=Cq h
def D3.s4(h:D3 w ab b xb jb last ov)(x:Value):D3 (w.setCell (Aa ab 4) x) ab b xb jb last x:=Cq h
def D3.af(h:D3 w ab b xb jb last ov):D3 w.drew ab b xb jb last ov:=by unfold D3 at h ⊢;exact h
def D3.aj{S:Nat->Prop}(h:D3 w ab b xb jb last ov)(d:A3 S w w')(z:¬S ab):D3 w' ab b xb jb last ov:=d.aj h z
end
def Fe(ab xb jb:Nat)(sv ov lv jo:Value)(k:Nat):Prop:=k=ab\/k=xb\/sv.ownBlock=some k\/ov.ownBlock=some k\/Dh jb lv jo k
structure Ck (w:World) (ab b xb jb:Nat) (sv ov lv jo:Value) (A:Ar) (P:PD) (Ft:Nat->Prop):Prop where
 Af:D3 w ab b xb jb A.A9 ov
 ix:BZ w xb 162 b AI (AE AI) A.ix.B7 sv
 segs:D5 w sv A.ix.segs
 AP:GB w ov A.AP
 jn:Dx w jb b lv jo A.j
 dk:Bn w b P Ft
 lt:∀k,Ft k->k<w.heap.size
 De:∀k,Fe ab xb jb sv ov lv jo k->¬Ft k
 Fg:∀g,sv.ownBlock=some g->g≠ab/\g≠xb/\¬Dh jb lv jo g
 G3:∀g,ov.ownBlock=some g->g≠ab/\g≠xb/\¬Dh jb lv jo g
 FB:∀k,Dh jb lv jo k->k≠ab/\k≠xb
def AD(w:World)(ab b:Nat)(A:Ar)(P:PD)(FT:Nat->Prop):Prop:=
 ∃xb jb sv ov lv jo Ft,Ck w ab b xb jb sv ov lv jo A P Ft/\∀k,Ft k\/Fe ab xb jb sv ov lv jo k->FT k
section
variable {w w':World} {ab b xb jb:Nat} {sv ov lv jo:Value} {A:Ar} {P P':PD} {Ft FT:Nat->Prop}
def Ck.bI(h:Ck w ab b xb jb sv ov lv jo A P Ft){k:Nat}(d:Fe ab xb jb sv ov lv jo k):k<w.heap.size:=by
 rcases d with rfl|rfl|d|d|d
 ·exact h.Af.lt
 ·exact h.ix.lt
 ·exact h.segs.lt d
 ·exact h.AP.lt d
 ·exact h.jn.lt d
def Ck.bV(h:Ck w ab b xb jb sv ov lv jo A P Ft){k:Nat}(d:Ft k\/Fe ab xb jb sv ov lv jo k):k<w.heap.size:=d.elim (h.lt k) h.bI
def Ck.ne(h:Ck w ab b xb jb sv ov lv jo A P Ft):ab≠xb:=BS h.Af h.ix (by decide)
def Ck.aP(h:Ck w ab b xb jb sv ov lv jo A P Ft)(d:FW (λk=>Ft k\/Fe ab xb jb sv ov lv jo k) w w')(H:w.heap.size<=w'.heap.size):Ck w' ab b xb jb sv ov lv jo A P Ft:=
 ⟨(d ab (.inr (.inl rfl))).trans h.Af,(d xb (.inr (.inr (.inl rfl)))).trans h.ix,h.segs.aP λg E=>d g (.inr (.inr (.inr (.inl E)))),h.AP.aP λg E=>d g (.inr (.inr (.inr (.inr (.inl E))))),
   h.jn.aP λk z=>d k (.inr (.inr (.inr (.inr (.inr z))))),B3.aP h.dk λk z=>d k (.inl z),λk z=>Bk (h.lt k z) H,h.De,h.Fg,h.G3,h.FB⟩
def Ck.aw(h:Ck w ab b xb jb sv ov lv jo A P Ft)(d:A3 Ab w w'):Ck w' ab b xb jb sv ov lv jo A P Ft:=h.aP (d.aH (λ_ z=>h.bV z) λ_ _ h=>h) d.Ak
def Ck.cg(h:Ck w ab b xb jb sv ov lv jo A P Ft)(W:Aq w Ft w' (λw' d=>Bn w' b P' d)):Aq w Ft w' (λw' d=>Ck w' ab b xb jb sv ov lv jo A P' d):=by
 obtain⟨O,d,X,L,I⟩:=W;have E:=O.aH (λ_ z=>h.bI z) h.De
 exact⟨O,d,⟨(E ab (.inl rfl)).trans h.Af,(E xb (.inr (.inl rfl))).trans h.ix,h.segs.aP λg H=>E g (.inr (.inr (.inl H))),h.AP.aP λg H=>E g (.inr (.inr (.inr (.inl H)))),
  h.jn.aP λk z=>E k (.inr (.inr (.inr (.inr z)))),X,L,λk z Y=>(I k Y).elim (h.De k z) λh'=>by have:=h.bI z;omega,h.Fg,h.G3,h.FB⟩,L,I⟩
def Ck.bN{S:Nat->Prop}{E L:Nat}{z H lv' I:Value}{A':Ar}{d:Nat->Prop}(X:Ck w' ab b E L z H lv' I A' P' d)(hc:A3 S w w')(hS:∀k,k<w.heap.size->S k->FT k)(h1:∀k,d k->FT k\/w.heap.size<=k)(Y:∀k,Fe ab E L z H lv' I k->FT k\/w.heap.size<=k):
 Aq w FT w' (λw' O=>AD w' ab b A' P' O):=
 ⟨hc.aa hS,λk=>d k\/Fe ab E L z H lv' I k,⟨E,L,z,H,lv',I,d,X,λ_ h=>h⟩,λ_ W=>X.bV W,λk W=>W.elim (h1 k) (Y k)⟩
def Ck.cH(_h:Ck w ab b xb jb sv ov lv jo A P Ft)(d:∀k,Ft k\/Fe ab xb jb sv ov lv jo k->FT k)(I:Aq w Ft w' (λw' E=>Ck w' ab b xb jb sv ov lv jo A P' E)):Aq w FT w' (λw' H=>AD w' ab b A P' H):=by
 obtain⟨W,E,L,h3,O⟩:=I;exact L.bN W (λk _ z=>d k (.inl z)) (λk z=>(O k z).imp (λh=>d k (.inl h)) id) λk z=>.inl (d k (.inr z))
def AD.aP(h:AD w ab b A P FT)(H:FW FT w w')(I:w.heap.size<=w'.heap.size):AD w' ab b A P FT:=by
 obtain⟨xb,jb,sv,ov,lv,jo,Ft,E,d⟩:=h;exact⟨xb,jb,sv,ov,lv,jo,Ft,E.aP (H.aa λk z=>d k z) I,d⟩
def AD.aw(h:AD w ab b A P FT)(E:A3 Ab w w'):AD w' ab b A P FT:=by
 obtain⟨xb,jb,sv,ov,lv,jo,Ft,z,d⟩:=h;exact⟨xb,jb,sv,ov,lv,jo,Ft,z.aw E,d⟩
end
def Jf(w:World)(h b z:Nat)(x:Int×List Pu):Prop:=∃d,BZ w z 182 b (AF x.1) (AE (AF x.1)) x.1 d/\AW w d x.2/\h<=z/\∀g,d.ownBlock=some g->h<=g
def Gr(d:List Nat):List Value:=d.map λg=>(A5 g)
def WZ(d:List Nat):∀u∈Gr d,u.oneCell'=true:=by
 intro u hu;simp[Gr]at hu;obtain⟨x,_,rfl⟩:=hu;rfl
def Gj(w:World)(h b:Nat)(v:Value)(l:List (Int×List Pu)):Prop:=
 ∃d:List Nat,d.length=l.length/\w.ownsRow 0 179 1 v l.length (Gr d)/\(∀g,v.ownBlock=some g->h<=g)/\∀k (E:k<d.length) (z:k<l.length),Jf w h b (d[k]'E) (l[k]'z)
def Jf.aw{w w':World}{d b E:Nat}{x:Int×List Pu}(h:Jf w d b E x)(H:A3 Ab w w'):Jf w' d b E x:=by
 obtain⟨X,L,z,O,I⟩:=h;exact⟨X,L.aj H (λh=>h),Ay z λg W=>H.Ao g (AB z W) (λh=>h),O,I⟩
def Gj.aw{w w':World}{z b:Nat}{v:Value}{l:List (Int×List Pu)}(h:Gj w z b v l)(H:A3 Ab w w'):Gj w' z b v l:=by
 obtain⟨d,O,E,W,I⟩:=h;exact⟨d,O,Ay E λg X=>H.Ao g (AB E X) (λh=>h),W,λk L Y=>(I k L Y).aw H⟩
def Tryz.eR:(Tryz.prog.info? 179).map (λi=>(i.zero,i.size,i.bytes))=some (some (.pointer none),1,8):=by kernel_rfl
def X7:∃d,Tryz.prog.info? 179=some d/\d.zero=some (.pointer none)/\d.size=1/\d.bytes=8:=by
 have h:=Tryz.eR;cases hx:Tryz.prog.info? 179 with
 | none=>rw[hx]at h;cases h
 | some i=>rw[hx]at h;simp at h;exact⟨i,rfl,h.1,h.2.1,h.2.2⟩
def Tryz.ft:Go.Shelf.Ren:=⟨fun|26=>138|33=>179|34=>180|38=>234|n=>n,fun|0=>0|3=>3|4=>4|9=>9|24=>121|40=>232|n=>n,fun|n=>n⟩
def Tryz.eL:Go.Proofs.Lays2.n26 Tryz.prog Tryz.ft:={
 mixed:=by kernel_rfl
 f26:=func138.trans (Ei some (by kernel_rfl))
 f33:=func179.trans (Ei some (by kernel_rfl))
 f34:=func180.trans (Ei some (by kernel_rfl))
 f38:=func234.trans (Ei some (by kernel_rfl))
 t0:=underlying0
 a0:=isAgg0
 z0:=sizeOf0
 v0:=zeroValue0
 t3:=underlying3
 a3:=isAgg3
 z3:=sizeOf3
 v3:=zeroValue3
 t4:=underlying4
 a4:=isAgg4
 z4:=sizeOf4
 v4:=zeroValue4
 t9:=underlying9
 a9:=isAgg9
 z9:=sizeOf9
 v9:=zeroValue9
 t24:=underlying121
 a24:=isAgg121
 z24:=sizeOf121
 v24:=zeroValue121
 t40:=underlying232
 a40:=isAgg232
 z40:=sizeOf232
 v40:=zeroValue232}
def Tryz.fE:Go.Shelf.Ren:=⟨fun|41=>153|n=>n,fun|22=>97|23=>113|4=>4|n=>n,fun|n=>n⟩
def Tryz.eJ:Go.Proofs.SlLaysE0.n41 Tryz.prog Tryz.fE:={
 mixed:=by kernel_rfl
 f41:=⟨Tryz.f153.name,by decide,func153.trans (Ei some (by kernel_rfl))⟩
 t4:=underlying4
 a4:=isAgg4
 z4:=sizeOf4
 v4:=zeroValue4
 t22:=underlying97
 a22:=isAgg97
 z22:=sizeOf97
 v22:=zeroValue97}
def Um(a b:List UInt8):Op.bytesLess a b=decide (a<b):=by
 induction a generalizing b with
 | nil=>cases b with
  | nil=>simp[Op.bytesLess]
  | cons y r=>simp[Op.bytesLess]
 | cons x a ih=>
  cases b with
  | nil=>simp[Op.bytesLess]
  | cons y r=>
   unfold Op.bytesLess;rw[ih r];by_cases h:x<y
   ·simp[h,List.cons_lt_cons_iff]
   ·by_cases d:x=y
    ·subst d;simp
    ·(have:¬(x::a<y::r):=by rw[Jm];simp[h,d]);simp[h,d,this]
def T9(a b:ByteArray):less a b=true↔a.data.toList<b.data.toList:=by
 unfold less;rw[Um,Kk,Kk,DG]
def A0s(l:List ByteArray)(x:ByteArray):∀k,k<=l.length->(∀i (z:i<l.length),Eo l x k<=i->i<k->less x (l[i]'z)=true)/\∀(_:0<Eo l x k) (z:Eo l x k-1<l.length),less x (l[Eo l x k-1]'z)=false:=by
 intro k
 induction k with
 | zero=>intro _;exact⟨λi z E H=>by omega,λh=>by simp[Eo]at h⟩
 | succ k ih=>
  intro hk;have d:k<l.length:=by omega
  obtain⟨I,L⟩:=ih (by omega);by_cases h:less x (l[k]'d)=true
  ·rw[Tu l x k d h];refine⟨λi z E H=>?_,L⟩;by_cases e:i=k
   ·subst e;exact h
   ·exact I i z E (by omega)
  ·rw[Tt l x k d (by simpa using h)];exact⟨λi z E H=>by omega,λ_ _=>by simpa using h⟩
def Lj(l:List ByteArray):Prop:=l.Pairwise λa b=>a.data.toList<b.data.toList
def A0k{l:List ByteArray}(h:Lj l){x:ByteArray}(hx:x∉l):Lj (ins l x):=by
 obtain⟨h1,h2⟩:=A0s l x l.length (As _);have aA:=Tv l x l.length;unfold ins;generalize Eo l x l.length=k at h1 h2 aA;have hp:Lj (l.take k++l.drop k):=by rw[DK];exact h
 have E:=Ek.1 hp;refine Ek.2 ⟨E.1,Db.2 ⟨λy hy=>?_,E.2.1⟩,λa ha b X=>?_⟩
 ·obtain⟨i,Y,rfl⟩:=DU hy;rw[Cu]at Y;rw[List.getElem_drop];exact(T9 _ _).1 (h1 (k+i) (by omega) (by omega) (by omega))
 ·rcases BR.1 X with rfl|X
  ·obtain⟨i,Y,rfl⟩:=DU ha;rw[BU]at Y;(have z:k-1<l.length:=by omega);have L:=h2 (by omega) z;have d:(l[k-1]'z).data.toList<b.data.toList:=by
    (have O:¬b.data.toList<(l[k-1]'z).data.toList:=λW=>by rw[(T9 _ _).2 W]at L;cases L);have I:=List.not_lt.1 O;by_cases H:(l[k-1]'z).data.toList<b.data.toList
    ·exact H
    ·refine absurd ?_ hx;have e:=List.le_antisymm I (List.not_lt.1 H);(have:l[k-1]'z=b:=by rw[<-G8 (l[k-1]'z),<-G8 b,e]);rw[<-this];exact BV _
   rw[Vi];by_cases e:i=k-1
   ·subst e;exact d
   ·have:=Kg.1 h i (k-1) (by omega) z (by omega);exact List.lt_trans this d
  ·exact E.2.2 a ha b X
def A1f(es:List AL)(I:(es.map (·.1)).Nodup):∀k,k<=es.length->Lj (EE es k):=by
 intro k
 induction k with
 | zero=>intro _;simp[EE,Lj]
 | succ k ih=>
  intro hk;have d:k<es.length:=by omega
  rw[Ms es k d];refine A0k (ih (by omega)) λz=>?_;have:=(TU es k (by omega)).mem_iff.1 z;obtain⟨e,E,h⟩:=Ct.1 this;obtain⟨i,H,rfl⟩:=DU E;rw[BU]at H;rw[Vi]at h;have:i=k:=JN I (by simp;omega) (by simpa using d) (by simpa using h);omega
def Cm.up{P:PD}{N R:Nat}(h:Cm P N R):P.Ax.Pairwise (· < ·):=by
 unfold PD.Ax;rw[Ls];exact A1f P.D.A4 h.Cl _ (As _)
def Gv:Nat->Nat->Bs
 | 0,_=>[]
 | k+1,u=>Gv k (u/10)++[UInt8.ofNat (48+u % 10)]
def M6:∀k u,(Gv k u).length=k
 | 0,_=>rfl
 | k+1,u=>by simp[Gv,M6 k]
def S1:∀k,Gv k 0=List.replicate k 48
 | 0=>rfl
 | k+1=>by
  unfold Gv;rw[Nat.zero_div,S1 k,List.replicate_succ'];rfl
def S2:∀k u,u<10 ^ (k+1)->List.replicate (k+1-Lib.nDigits u) 48++Lib.decDigits u=Gv (k+1) u
 | 0,u,h=>by
  have d:u<10:=by simpa using h
  rw[PT d,Lib.decDigits,P4 d];simp[Gv,Nat.mod_eq_of_lt d]
 | k+1,u,h=>by
  by_cases d:u<10
  ·rw[PT d,Lib.decDigits,P4 d];unfold Gv;rw[Nat.div_eq_of_lt d,S1,Nat.mod_eq_of_lt d];rfl
  ·have z:=S2 k (u/10) (by rw[Kb]at h;omega);rw[Vu d,Lib.decDigits,P5 d,<-Cc];(have e:k+1+1-(Lib.nDigits (u/10)+1)=k+1-Lib.nDigits (u/10):=by omega);rw[e,z]
   conv=>rhs;unfold Gv
def T1:∀ {a b x y:Bs},a.length=b.length->a<b->a++x<b++y
 | [],b,x,y,hl,h=>by
  have:b=[]:=GR.1 hl.symm;subst this;exact absurd h (Lx _)
 | c::a,[],x,y,hl,h=>by simp at hl
 | c::a,d::b,x,y,hl,h=>by
  rw[Fx,Fx,Jm];rw[Jm]at h;rcases h with h|⟨E,z⟩
  ·exact .inl h
  ·exact .inr ⟨E,T1 (by simpa using hl) z⟩
def T0:∀ {a x y:Bs},x<y->a++x<a++y
 | [],x,y,h=>h
 | c::a,x,y,h=>by rw[Fx,Fx,Jm];exact .inr ⟨rfl,T0 h⟩
def O6:∀k {u v:Nat},v<10 ^ k->u<v->Gv k u<Gv k v
 | 0,u,v,hv,h=>by simp at hv;omega
 | k+1,u,v,hv,h=>by
  have d:v/10<10 ^ k:=by rw[Kb]at hv;omega
  unfold Gv;by_cases z:u/10<v/10
  ·exact T1 (by rw[M6,M6]) (O6 k d z)
  ·(have e:u/10=v/10:=by omega);rw[e];refine T0 ?_;rw[Jm];refine .inl ?_;rw[UInt8.lt_iff_toNat_lt];simp;omega
def KI{n:Int}(h0:1<=n)(h1:n<=4611686018427387904):Lib.repeatL [48] (19-(Lib.itoa n).length)++Lib.itoa n=Gv 19 n.toNat:=by
 rw[Mf (by omega),Vv,Rl];exact S2 18 n.toNat (by (have:(10:Nat) ^ 19=10000000000000000000:=by decide);omega)
def YW{a b:Int}(d:isNum a=true)(z:isNum b=true)(h:a<b):Ae a<Ae b:=by
 unfold isNum at d z;simp at d z;rw[IZ,IZ,KI d.1 d.2,KI z.1 z.2,Jm];exact .inr ⟨rfl,O6 19 (by (have:(10:Nat) ^ 19=10000000000000000000:=by decide);omega) (by omega)⟩
def YS{a b:Int}(d:isNum a=true)(z:isNum b=true)(h:a<b):AF a<AF b:=by
 unfold isNum at d z;simp at d z;rw[I7,I7,KI d.1 d.2,KI z.1 z.2,Jm];exact .inr ⟨rfl,O6 19 (by (have:(10:Nat) ^ 19=10000000000000000000:=by decide);omega) (by omega)⟩
def Ze{f:Int->Bs}(z:∀a b,isNum a=true->isNum b=true->a<b->f a<f b){a b:Int}(E:isNum a=true)(H:isNum b=true)(h:f a<f b):a<b:=by
 rcases Int.lt_trichotomy a b with d|d|d
 ·exact d
 ·subst d;exact absurd h (Lx _)
 ·exact absurd (List.lt_trans h (z b a H E d)) (Lx _)
def Oe{f:Int->Bs}(H:∀a b,isNum a=true->isNum b=true->a<b->f a<f b)(g:Bs->Option Int)(z:∀nm n,g nm=some n->isNum n=true/\f n=nm):∀ {l:List Bs},l.Pairwise (· < ·)->(l.filterMap g).Pairwise (· < ·)
 | [],_=>by simp
 | nm::r,h=>by
  have E:=Db.1 h;have I:=Oe H g z E.2;cases hx:g nm with
  | none=>rw[List.filterMap_cons_none hx];exact I
  | some n=>
   rw[List.filterMap_cons_some hx];refine Db.2 ⟨λm Y=>?_,I⟩;obtain⟨d,O,X⟩:=Lw.1 Y;obtain⟨a1,a2⟩:=z nm n hx;obtain⟨L,W⟩:=z d m X;exact Ze H a1 L (by rw[a2,W];exact E.1 d O)
def Zg{l:List Bs}(d:Int)(h:l.Pairwise (· < ·)):(BQ d l).Pairwise (· < ·):=by
 unfold BQ;refine Oe (f:=Ae) (λa b=>YW) _ (λnm n z=>?_) h;by_cases E:(Bf nm).1=1/\d<=(Bf nm).2
 ·rw[Ah E]at z;simp at z;subst z;have:=On E.1;exact⟨by unfold isNum;simp;exact this.1,this.2⟩
 ·rw[Ad E]at z;cases z
def X9{l:List Bs}(h:l.Pairwise (· < ·)):(l.filterMap λnm=>if (Bf nm).1=2 then some (Bf nm).2 else none).Pairwise (· < ·):=by
 refine Oe (f:=AF) (λa b=>YS) _ (λnm n d=>?_) h;by_cases z:(Bf nm).1=2
 ·rw[Ah z]at d;simp at d;subst d;have:=Ol z;exact⟨by unfold isNum;simp;exact this.1,this.2⟩
 ·rw[Ad z]at d;cases d
def NT{l:List Int}(h:l.Pairwise (· < ·)){n:Int}(z:n∈l)(d:Int):n<=l.getLastD d:=by
 have E:l≠[]:=λe=>by subst e;cases z
 obtain⟨m,x,rfl⟩:∃m x,l=m++[x]:=⟨l.dropLast,l.getLast E,(N8 E).symm⟩;have e:(m++[x]).getLastD d=x:=by simp
 rw[e];rcases AU.1 z with z|z
 ·exact Int.le_of_lt ((Ek.1 h).2.2 n z x (by simp))
 ·simp at z;omega
def Re:∀ {l l':List Int},l.Pairwise (· < ·)->l'.Pairwise (· < ·)->(∀x,x∈l↔x∈l')->l=l'
 | [],[],_,_,_=>rfl
 | [],y::r,_,_,h=>by have:=(h y).2 (BF ..);cases this
 | x::r,[],_,_,h=>by have:=(h x).1 (BF ..);cases this
 | x::r,y::s,h1,h2,h=>by
  have E:=Db.1 h1;have d:=Db.1 h2;have I:x=y:=by
   rcases BR.1 ((h x).1 (BF ..)) with e|e
   ·exact e
   ·rcases BR.1 ((h y).2 (BF ..)) with L|L
    ·exact L.symm
    ·have a:=d.1 x e;have b:=E.1 y L;omega
  subst I
  congr 1
  refine Re E.2 d.2 λz=>⟨λH=>?_,λH=>?_⟩
  ·rcases BR.1 ((h z).1 (Bx _ H)) with e|e
   ·subst e;have:=E.1 z H;omega
   ·exact e
  ·rcases BR.1 ((h z).2 (Bx _ H)) with e|e
   ·subst e;have:=d.1 z H;omega
   ·exact e
def shut(cl:List (Int×List Pu))(last:Int):Option (List Pu)->List (Int×List Pu)
 | none=>cl
 | some l=>cl++[(last,l)]
def NF(cl:List (Int×List Pu))(last:Int)(ol:Option (List Pu)):Aw (shut cl last ol)=Aw cl++ol.getD []:=by
 cases ol<;>simp[shut,Aw]
section
variable {P P':PD} {A:Ar} {sg cl:List (Int×List Pu)} {ol:Option (List Pu)} {N R:Nat}
def Lay.bS(h:Lay P A sg cl ol):A.j.Am=(shut cl A.j.A9 ol).map (·.1):=by
 have:=h.AA;cases ol with
 | none=>exact this.2
 | some l=>rw[this.2.1];simp[shut]
def Lay.dX(h:Lay P A sg cl ol)(d:(Aw cl).length<=1099511627776):ES P 0 (shut cl A.j.A9 ol):=by
 have E:=h.AA;cases ol with
 | none=>exact h.Am
 | some l=>
  obtain⟨-,h1,z,H,h4⟩:=E
  exact h.Am.bU (by
   have:=h.Gi;rw[Nb,<-this]
   exact Ou (t:=[]) (h.dx d) H (by simp) (by simpa using z))
def Lay.a8(h:Lay P A sg cl ol):P.a8=some A.ix:=by
 rcases h.ix with⟨d,z⟩|d
 ·rw[A0x d,z]
 ·exact A0w h.DC d
def Lay.aT(h:Lay P A sg cl ol)(hc:Cm P N R)(hl:(Aw cl).length<=1099511627776):
 ∃A',Ar.aT P=.ok (A',B6 sg cl ol)/\Lay P A' sg (shut cl A.j.A9 ol) none/\A'.ix=A.ix/\A'.j.A9<=max A.j.A9 (A.ix.B7-1)/\A'.A9<=A.A9/\A'.AP=A'.aX P:=by
 have aE:=hc.up;have aF:BQ A.ix.B7 P.Ax=A.j.Am:=by
  refine Re (Zg _ aE) h.H5 λn=>⟨λhn=>?_,λhn=>?_⟩
  ·obtain⟨I,z,h3⟩:=Ot hn;exact h.Hf n (by unfold isNum;simpa using z) I (H0.1 h3)
  ·rw[h.bS]at hn;obtain⟨x,d,rfl⟩:=Ct.1 hn;have W:isNum x.1=true/\A.ix.B7<=x.1:=by
    cases ol with
    | none=>exact⟨(h.CT x d).1.1,h.ED.1 x d⟩
    | some l=>
     rcases AU.1 d with d|d
     ·exact⟨(h.CT x d).1.1,h.ED.1 x d⟩
     ·simp at d;subst d;exact⟨h.AA.2.2.2.2,h.ED.2 (by simp)⟩
   have aG:=H0.2 ((h.dX hl).DB d);unfold BQ;refine Lw.2 ⟨Ae x.1,aG,?_⟩;rw[KP W.1];simp[W.2]
 have aJ:P.Ax.any (λnm=>decide ((Bf nm).1=0))=false:=by
  rw[Bool.eq_false_iff];intro d;obtain⟨nm,I,z⟩:=PR.1 d;exact h.Ed nm (H0.1 I) (by simpa using z)
 have hp:=h.puts hl;obtain⟨O,Y⟩:∃O,(P.Ax.filterMap λnm=>if (Bf nm).1=2 then some (Bf nm).2 else none)=O:=⟨_,rfl⟩;have aA:=X9 aE;rw[Y]at aA;have aD:∀n,n∈O↔isNum n=true/\P.bs (AF n)≠none:=λn=>by
  rw[<-Y,Lw];constructor
  ·rintro⟨nm,I,z⟩;by_cases d:(Bf nm).1=2
   ·rw[Ah d]at z;simp at z;subst z;have:=Ol d;exact⟨by unfold isNum;simp;exact this.1,by rw[this.2];exact H0.1 I⟩
   ·rw[Ad d]at z;cases z
  ·rintro⟨I,z⟩;refine⟨AF n,H0.2 z,?_⟩;rw[Om I];simp
 obtain⟨A',H⟩:∃A':Ar,(⟨A.ix,⟨A.j.Am,A.j.Am.getLastD (A.ix.B7-1),((Aw cl++ol.getD []).length:Int),none⟩,O.getLastD 0,(⟨A.ix,⟨A.j.Am,A.j.Am.getLastD (A.ix.B7-1),((Aw cl++ol.getD []).length:Int),none⟩,O.getLastD 0,[]⟩:Ar).aX P⟩:Ar)=A':=⟨_,rfl⟩;have aB:Ar.aT P=.ok (A',B6 sg cl ol):=by
  unfold Ar.aT;rw[h.a8];dsimp only
  rw[aJ,Ad (by simp),h.b8];dsimp only
  rw[aF,hp,Ad (by simp),Y];have hj:P.bQ A.ix.B7=⟨A.j.Am,A.j.Am.getLastD (A.ix.B7-1),((Aw cl++ol.getD []).length:Int),none⟩:=by
   unfold PD.bQ;rw[aF,hp]
  rw[hj,<-H];rfl
 have L:∀x∈shut cl A.j.A9 ol,(isNum x.1=true/\x.1<=A.j.A9)/\A.ix.B7<=x.1/\∀p∈x.2,Bi p:=λx d=>by
  cases ol with
  | none=>exact⟨(h.CT x d).1,h.ED.1 x d,(h.CT x d).2⟩
  | some l=>
   rcases AU.1 d with d|d
   ·exact⟨(h.CT x d).1,h.ED.1 x d,(h.CT x d).2⟩
   ·simp at d;subst d;exact⟨⟨h.AA.2.2.2.2,Hv _⟩,h.ED.2 (by simp),h.AA.2.2.2.1⟩
 have E:∀n∈A.j.Am,n<=A.j.Am.getLastD (A.ix.B7-1):=λn hn=>NT h.H5 hn _;have hge:A.ix.B7-1<=A.j.Am.getLastD (A.ix.B7-1):=by
  cases d:A.j.Am with
  | nil=>simp
  | cons y r=>
   (have hy:y∈A.j.Am:=by rw[d];exact BF ..);have I:=E y hy;rw[d]at I;have z:A.ix.B7<=y:=by
    rw[h.bS]at hy;obtain⟨x,X,aI⟩:=Ct.1 hy;rw[<-aI];exact(L x X).2.1
   omega
 have aK:A.j.Am.getLastD (A.ix.B7-1)<=max A.j.A9 (A.ix.B7-1):=by
  cases d:A.j.Am with
  | nil=>simp;omega
  | cons y r=>
   have hm:(y::r).getLastD (A.ix.B7-1)∈A.j.Am:=by
    rw[d];(have:(y::r).getLastD (A.ix.B7-1)=(y::r).getLast (by simp):=by rw[Ki,A3H (by simp)];rfl);rw[this];exact List.getLast_mem _
   rw[h.bS]at hm;obtain⟨x,aH,X⟩:=Ct.1 hm;have:=(L x aH).1.2;rw[X]at this;omega
 have hfn:1<=A.ix.B7:=by have:=h.DC.B7;unfold isNum at this;simp at this;exact this.1
 refine⟨A',aB,?_,by rw[<-H],by rw[<-H];exact aK,?_,by rw[<-H];rfl⟩
 ·rw[<-H]
  refine⟨h.DC,h.ix,h.segs,h.Cw,λx d=>⟨⟨(L x d).1.1,E _ (by rw[h.bS];exact DT d)⟩,(L x d).2.2⟩,λx _ d=>absurd rfl d,⟨λx d=>(L x d).2.1,λd=>absurd rfl d⟩,h.dX hl,?_,⟨rfl,h.bS⟩,
   ⟨by dsimp only;omega,by dsimp only;omega,λn hk d=>?_⟩,⟨?_,λn hk d=>NT aA ((aD n).2 ⟨hk,d⟩) 0⟩,λnm hm=>?_,h.H5,h.Ed,h.Hf⟩
  ·dsimp only;rw[NF]
  ·dsimp only
   by_cases hf:A.ix.B7<=n
   ·exact E n (h.Hf n hk hf d)
   ·omega
  ·dsimp only
   cases d:O with
   | nil=>simp
   | cons y r=>
    have I:=NT aA (n:=y) (by rw[d];exact BF ..) 0;have z:=((aD y).1 (by rw[d];exact BF ..)).1;unfold isNum at z;simp at z;rw[d]at I;omega
  ·exact H0.1 (GQ.1 hm).1
 ·rw[<-H];dsimp only
  cases d:O with
  | nil=>simp;exact h.Em.1
  | cons y r=>
   have hm:(y::r).getLastD 0∈O:=by
    rw[d];(have:(y::r).getLastD 0=(y::r).getLast (by simp):=by rw[Ki,A3H (by simp)];rfl);rw[this];exact List.getLast_mem _
   have:=(aD _).1 hm;exact h.Em.2 _ this.1 this.2
end
abbrev View:=Bs->Option FC
def vw(F:Nat->FC)(s:List AL):View:=λnm=>(lookup s (A8 nm)).map F
def C2(c:FC):Prop:=c.2=c.1.length
def J2(V:View)(n a:Int):List Pu×Int:=match V (Ae n) with
 | some c=>G4 (AE (Ae n)) a c.1
 | none=>([],8)
def Zo(P:PD)(n a:Int):P.aW n a=J2 P.fl n a:=by
 unfold J2;cases hx:P.fl (Ae n) with
 | some c=>
  have d:P.bs (Ae n)=some c.1:=by unfold PD.bs;rw[hx];rfl
  exact T3 d
 | none=>
  have d:P.bs (Ae n)=none:=by unfold PD.bs;rw[hx];rfl
  unfold PD.aW Gs;have e:DP P.D P.F ⟨(Ae n).toArray⟩=([],8):=by have:=@Jd P (Ae n);unfold PD.Co at this;rw[d]at this;exact this
  rw[e];simp
def Fv(V:View):Int->List (Int×List Pu)->Prop
 | _,[]=>True
 | a,x::r=>J2 V x.1 a=(x.2,0)/\Fv V (a+x.2.length) r
def Fv.at{P:PD}:∀ {a:Int} {l:List (Int×List Pu)},Fv P.fl a l↔ES P a l
 | _,[]=>Iff.rfl
 | a,x::r=>by
  unfold Fv ES;rw[Zo,Fv.at]
def Fv.br{V V':View}:∀ {a:Int} {l:List (Int×List Pu)},Fv V a l->(∀x∈l,(V' (Ae x.1)).map (·.1)=(V (Ae x.1)).map (·.1))->Fv V' a l
 | _,[],_,_=>trivial
 | a,x::r,h,hb=>by
  refine⟨?_,h.2.br λy z=>hb y (Bx _ z)⟩;rw[<-h.1];have:=hb x (BF ..);unfold J2;cases h1:V (Ae x.1) with
  | none=>rw[h1]at this;cases h2:V' (Ae x.1) with
   | none=>rfl
   | some c=>rw[h2]at this;cases this
  | some c=>rw[h1]at this;cases h2:V' (Ae x.1) with
   | none=>rw[h2]at this;cases this
   | some d=>rw[h2]at this;simp at this;dsimp only;rw[this]
def Fv.bU{V:View}:∀ {a:Int} {l:List (Int×List Pu)} {x:Int×List Pu},Fv V a l->J2 V x.1 (a+(Aw l).length)=(x.2,0)->Fv V a (l++[x])
 | a,[],x,_,h=>⟨by simpa[Aw] using h,trivial⟩
 | a,y::r,x,h,h2=>⟨h.1,h.2.bU (by
  rw[<-h2];congr 1
  simp only[Aw,N5,AY];omega)⟩
def HN(b nm:Bs)(ahead:Int)(l:List Pu):Prop:=(∃t:Bs,b=DZ nm ahead l++t/\t.length<21)\/(l=[]/\b.length<12)
def HN.aZ{b nm:Bs}{ahead:Int}{l:List Pu}(h:HN b nm ahead l)(z:AN ahead)(d:∀p∈l,Bi p):G4 (AE nm) ahead b=(l,0):=by
 rcases h with⟨t,rfl,E⟩|⟨rfl,H⟩
 ·exact RH _ _ _ _ z d E
 ·exact XZ _ _ _ H
def T4:∀(l:List Pu) (s:Nat) (t:Bs) (j:Nat),t.length<21->∃t':Bs,(DY s l++t).take j=DY s (l.take (j/21))++t'/\t'.length<21
 | [],s,t,j,ht=>⟨t.take j,by simp[DY],by rw[BU];omega⟩
 | p::r,s,t,j,ht=>by
  have d:(AR s (Bc p.1 p.2.1 p.2.2)).length=21:=by rw[Ez,EW]
  by_cases hj:j<21
  ·refine⟨(AR s (Bc p.1 p.2.1 p.2.2)).take j,?_,by rw[BU];omega⟩;(have e:j/21=0:=by omega);rw[e];simp only[DY,ET,Es,Cc];rw[GP (by omega)]
  ·obtain⟨t',z,h⟩:=T4 r (AT s (Bc p.1 p.2.1 p.2.2)) t (j-21) ht;refine⟨t',?_,h⟩;(have e:j/21=(j-21)/21+1:=by omega);rw[e,F8];simp only[DY,Cc];rw[List.take_append,d,z,Er (by omega)]
def HN.b9{b nm:Bs}{ahead:Int}{l:List Pu}(h:HN b nm ahead l)(j:Nat)(hj:j<=b.length):HN (b.take j) nm ahead (l.take ((j-12)/21)):=by
 rcases h with⟨t,rfl,H⟩|⟨rfl,hb⟩
 ·by_cases h12:j<12
  ·exact .inr ⟨by (have:(j-12)/21=0:=by omega);rw[this];rfl,by rw[BU];omega⟩
  ·obtain⟨t',E,z⟩:=T4 l (AT (AE nm) (AQ ahead)) t (j-12) H;refine .inl ⟨t',?_,z⟩;unfold DZ;(have d:(AR (AE nm) (AQ ahead)).length=12:=by rw[Ez,CL]);rw[Cc,List.take_append,d,E,Er (by omega),Cc]
 ·exact .inr ⟨by simp,by rw[BU];omega⟩
def EM(c:FC)(l:List Pu):Nat:=min l.length ((c.2.toNat-12)/21)
def F6(bd:Int×Int)(nm:Bs):Prop:=(Bf nm).1≠0/\((Bf nm).1=1->(Bf nm).2<=bd.1)/\((Bf nm).1=2->(Bf nm).2<=bd.2)
def Z6:Bf Bo=(4,0):=by
 have h:E5 [108] Bo=none:=KR (by decide);have d:E5 [115] Bo=none:=KR (by decide);unfold Bf H4;rw[h,d];simp[H3,I8,Bo,AI]
def YU{bd:Int×Int}{n:Int}(h:isNum n=true)(d:n<=bd.1):F6 bd (Ae n):=by unfold F6;rw[KP h];exact⟨by simp,λ_=>d,λh=>by simp at h⟩
def Sq{bd:Int×Int}{n:Int}(h:isNum n=true)(d:n<=bd.2):F6 bd (AF n):=by unfold F6;rw[Om h];exact⟨by simp,λh=>by simp at h,λ_=>d⟩
def YV(bd:Int×Int):F6 bd AI:=by unfold F6;rw[SH];exact⟨by decide,λh=>absurd h (by decide),λh=>absurd h (by decide)⟩
def Sr(bd:Int×Int):F6 bd Bo:=by unfold F6;rw[Z6];exact⟨by decide,λh=>absurd h (by decide),λh=>absurd h (by decide)⟩
def Hu(bd:Int×Int)(ix:Ix)(sg:List (Int×List Pu)):Prop:=Na ix/\ix.B7<=bd.1+1/\∀x∈sg,x.2≠[]
def Hw(bd d:Int×Int):Prop:=bd.1<=d.1/\bd.2<=d.2
def F6.a1{bd d:Int×Int}{nm:Bs}(h:F6 bd nm)(z:Hw bd d):F6 d nm:=⟨h.1,λe=>Kl (h.2.1 e) z.1,λe=>Kl (h.2.2 e) z.2⟩
def Hu.a1{bd d:Int×Int}{ix:Ix}{sg:List (Int×List Pu)}(h:Hu bd ix sg)(z:Hw bd d):Hu d ix sg:=⟨h.1,by have:=h.2.1;have:=z.1;omega,h.2.2⟩
structure CW (bd:Int×Int) (V:View) (ix:Ix) (sg cl:List (Int×List Pu)) (lo:Option (Int×List Pu)):Prop where
 DC:Hu bd ix sg
 Ii:(V AI=none/\ix=⟨1,[]⟩)\/∃c,V AI=some c/\C2 c/\c.1=AR (AE AI) (Ch ix.B7 ix.segs)
 segs:sg.map (·.1)=ix.segs
 Cw:∀x∈sg,((∀p∈x.2,Bi p)/\Cx Cn x.2=true)/\∃c,V (AF x.1)=some c/\C2 c/\c.1=AR (AE (AF x.1)) (Cd x.2)
 CT:∀x∈cl,(isNum x.1=true/\ix.B7<=x.1)/\(∀p∈x.2,Bi p)/\∃c,V (Ae x.1)=some c/\C2 c
 Am:Fv V 0 cl
 A9:∀n l,lo=some (n,l)->(isNum n=true/\ix.B7<=n)/\(∀p∈l,Bi p)/\∃c,V (Ae n)=some c/\HN c.1 (Ae n) (Aw cl).length l
 EJ:(cl.map (·.1)++(lo.map (·.1)).toList).Pairwise (· < ·)
 Co:∀n,isNum n=true->ix.B7<=n->V (Ae n)≠none->n∈cl.map (·.1)++(lo.map (·.1)).toList
 Ed:∀nm,V nm≠none->F6 bd nm
 DX:∀nm c,V nm=some c->0<=c.2/\c.2<=c.1.length
def HU(V V':View):Prop:=∀nm,(V nm=none/\V' nm=none)\/∃c,∃j:Nat,V nm=some c/\c.2<=j/\j<=c.1.length/\V' nm=some (c.1.take j,(j:Int))
section
variable {bd:Int×Int} {V V':View} {ix:Ix} {sg cl:List (Int×List Pu)} {lo:Option (Int×List Pu)}
def HU.ek(h:HU V V'){nm:Bs}(z:V nm=none):V' nm=Option.none:=by
 rcases h nm with⟨_,E⟩|⟨c,j,d,_⟩
 ·exact E
 ·rw[z]at d;cases d
def HU.b1(h:HU V V'){nm:Bs}{c:FC}(E:V nm=some c):∃j:Nat,c.2<=j/\j<=c.1.length/\V' nm=Option.some (c.1.take j,(j:Int)):=by
 rcases h nm with⟨z,_⟩|⟨d,j,z,H⟩
 ·rw[E]at z;cases z
 ·rw[E]at z;cases z;exact⟨j,H⟩
def HU.Gy(h:HU V V'){nm:Bs}{c:FC}(z:V nm=Option.some c)(d:C2 c):V' nm=Option.some c:=by
 obtain⟨j,h1,h2,E⟩:=h.b1 z;unfold C2 at d;have e:j=c.1.length:=by omega
 rw[E,e,C6,<-d]
def CW.Cb(h:CW bd V ix sg cl lo)(X:HU V V'):(∀nm c,V' nm=some c->C2 c)/\
 match lo with
 | none=>CW bd V' ix sg cl none
 | some (n,l)=>∃c i,V (Ae n)=some c/\EM c l<=i/\i<=l.length/\CW bd V' ix sg cl (some (n,l.take i)):=by
 have W:∀nm c,V' nm=some c->C2 c:=λnm c I=>by
  rcases X nm with⟨_,z⟩|⟨d,j,E,z,H,O⟩
  ·rw[I]at z;cases z
  ·rw[O]at I;cases I;unfold C2;dsimp only;rw[BU];omega
 have aA:∀nm,V' nm≠none->V nm≠none:=λnm I hv=>I (X.ek hv);have Y:Fv V' 0 cl:=h.Am.br λx hx=>by
  obtain⟨_,_,c,E,z⟩:=h.CT x hx;rw[X.Gy E z,E]
 have key:∀L:Option (Int×List Pu),L.map (·.1)=lo.map (·.1)->(∀n l,L=some (n,l)->(isNum n=true/\ix.B7<=n)/\(∀p∈l,Bi p)/\∃c,V' (Ae n)=some c/\HN c.1 (Ae n) (Aw cl).length l)->CW bd V' ix sg cl L:=λL e hl=>
  ⟨h.DC,by
   rcases h.Ii with⟨E,z⟩|⟨c,E,z,H⟩
   ·exact .inl ⟨X.ek E,z⟩
   ·exact .inr ⟨c,X.Gy E z,z,H⟩,h.segs,λx hx=>by
   obtain⟨E,c,z,H,O⟩:=h.Cw x hx
   exact⟨E,c,X.Gy z H,H,O⟩,λx hx=>by
   obtain⟨E,z,c,H,O⟩:=h.CT x hx
   exact⟨E,z,c,X.Gy H O,O⟩,Y,hl,by rw[e];exact h.EJ,λn E z H=>by rw[e];exact h.Co n E z (aA _ H),λnm I=>h.Ed nm (aA _ I),λnm c I=>by
   have:=W nm c I;unfold C2 at this;omega⟩
 refine⟨W,?_⟩;cases lo with
 | none=>exact key none rfl λn l e=>by cases e
 | some x=>
  obtain⟨n,l⟩:=x;obtain⟨E,z,c,H,O⟩:=h.A9 n l rfl;obtain⟨j,j1,j2,j3⟩:=X.b1 H;refine⟨c,min l.length ((j-12)/21),H,?_,Nat.min_le_left _ _,key _ rfl λn' l' e=>?_⟩
  ·unfold EM;have:(c.2.toNat-12)/21<=(j-12)/21:=A3u (by omega);omega
  ·cases e;have ht:l.take (min l.length ((j-12)/21))=l.take ((j-12)/21):=by
    rw[List.take_eq_take_iff];omega
   rw[ht];exact⟨E,λp hp=>z p (IB hp),_,j3,O.b9 j j2⟩
def CW.bR(h:CW bd V ix sg cl lo)(W:∀nm,nm=AI\/(∃x∈sg,nm=AF x.1)\/(∃n,isNum n=true/\ix.B7<=n/\nm=Ae n)->(V nm=none/\V' nm=none)\/∃c d,V nm=some c/\V' nm=some d/\d.1=c.1/\(d.2=c.2\/C2 d))(h2:∀nm,V' nm≠none->F6 bd nm)(h3:∀nm c,V' nm=some c->0<=c.2/\c.2<=c.1.length):CW bd V' ix sg cl lo:=by
 have up:∀ {nm:Bs} {c:FC},(nm=AI\/(∃x∈sg,nm=AF x.1)\/(∃n,isNum n=true/\ix.B7<=n/\nm=Ae n))->V nm=some c->∃d,V' nm=some d/\d.1=c.1/\(C2 c->C2 d):=λ{nm c} hn Y=>by
  rcases W nm hn with⟨q,_⟩|⟨c',d,z,I,H,E⟩
  ·rw[Y]at q;cases q
  ·rw[Y]at z;cases z;refine⟨d,I,H,λX=>?_⟩;rcases E with E|E
   ·unfold C2 at X ⊢;rw[H,E];exact X
   ·exact E
 have L:∀x∈cl,(V' (Ae x.1)).map (·.1)=(V (Ae x.1)).map (·.1):=λx O=>by
  obtain⟨z,_,c,H,_⟩:=h.CT x O;obtain⟨d,d1,d2,_⟩:=up (.inr (.inr ⟨x.1,z.1,z.2,rfl⟩)) H;rw[d1,H];simp[d2]
 refine⟨h.DC,?_,h.segs,λx O=>?_,λx O=>?_,h.Am.br L,λn l e=>?_,h.EJ,λn z I H=>h.Co n z I λq=>?_,h2,h3⟩
 ·rcases h.Ii with⟨z,I⟩|⟨c,z,I,H⟩
  ·rcases W AI (.inl rfl) with⟨_,q⟩|⟨c',d,E,_⟩
   ·exact .inl ⟨q,I⟩
   ·rw[z]at E;cases E
  ·obtain⟨d,d1,d2,d3⟩:=up (.inl rfl) z;exact .inr ⟨d,d1,d3 I,by rw[d2];exact H⟩
 ·obtain⟨z,c,I,H,E⟩:=h.Cw x O;obtain⟨d,d1,d2,d3⟩:=up (.inr (.inl ⟨x,O,rfl⟩)) I;exact⟨z,d,d1,d3 H,by rw[d2];exact E⟩
 ·obtain⟨z,I,c,H,E⟩:=h.CT x O;obtain⟨d,d1,d2,d3⟩:=up (.inr (.inr ⟨x.1,z.1,z.2,rfl⟩)) H;exact⟨z,I,d,d1,d3 E⟩
 ·obtain⟨z,I,c,H,E⟩:=h.A9 n l e;obtain⟨d,d1,d2,d3⟩:=up (.inr (.inr ⟨n,z.1,z.2,rfl⟩)) H;exact⟨z,I,d,d1,by rw[d2];exact E⟩
 ·rcases W (Ae n) (.inr (.inr ⟨n,z,I,rfl⟩)) with⟨_,E⟩|⟨c,d,E,_⟩
  ·exact H E
  ·rw[q]at E;cases E
def CW.a1{d:Int×Int}(h:CW bd V ix sg cl lo)(z:Hw bd d):CW d V ix sg cl lo:=
 ⟨h.DC.a1 z,h.Ii,h.segs,h.Cw,h.CT,h.Am,h.A9,h.EJ,h.Co,λnm E=>(h.Ed nm E).a1 z,h.DX⟩
end
def C9.I(o:Int)(a:List Pu):C9 o a a:=⟨λ_ _ _=>rfl,λp d=>⟨p,d,rfl,rfl⟩,As _⟩
def C9.Ap{o:Int}{a b c:List Pu}(h:C9 o a b)(d:C9 o b c):C9 o a c:=⟨λk t z=>(h.1 k t z).trans (d.1 k t z),λp I=>by
 obtain⟨q,E,O,H⟩:=h.2.1 p I;obtain⟨r,L,W,X⟩:=d.2.1 q E
 exact⟨r,L,W.trans O,X.trans H⟩,AM h.2.2 d.2.2⟩
def C9.bc{o d:Int}{a b:List Pu}(h:C9 o a b)(ho:o<=d):C9 d a b:=⟨λk t ht=>h.1 k t (by omega),h.2⟩
def C9.dE{o:Int}{a b:List Pu}(h:C9 o a b)(c:List Pu):C9 o (a++c) (b++c):=⟨λk t E=>by rw[Gx,Gx,h.1 k t E],λp d=>by
 rcases AU.1 d with d|d
 ·obtain⟨q,z,e⟩:=h.2.1 p d;exact⟨q,FE _ z,e⟩
 ·exact⟨p,Ha _ d,rfl,rfl⟩,by have:=h.2.2;rw[AY,AY];omega⟩
def C9.eG{o:Int}{a b:List Pu}(z:∀k t,o<=t->BD a k t=BD b k t)(h:∀p∈a,p∈b)(E:a.length<=b.length):C9 o a b:=⟨z,λp d=>⟨p,h p d,rfl,rfl⟩,E⟩
def Holds(bd:Int×Int)(V:View)(puts:List Pu)(Ac:Nat)(o:Int):Prop:=
 ∃ix z h d nb,CW bd V ix z h d/\nb<=puts.length/\C9 o (Aw z++Aw h) (puts.take nb)/\
  (∀n l,d=some (n,l)->∃c,V (Ae n)=some c/\Ac<=nb+EM c l/\l=(puts.drop nb).take l.length)/\(d=none->Ac<=nb)
def EA:Option (Int×List Pu)->List Pu
 | none=>[]
 | some x=>x.2
section
variable {bd:Int×Int} {V V':View} {puts:List Pu} {Ac:Nat} {o:Int}
def Holds.Cb(h:Holds bd V puts Ac o)(Y:HU V V'):∃ix z E H n,CW bd V' ix z E H/\(∀nm c,V' nm=some c->C2 c)/\Ac<=n/\n<=puts.length/\C9 o (Aw z++Aw E++EA H) (puts.take n):=by
 obtain⟨ix,z,E,H,nb,hL,I,O,X,W⟩:=h;obtain⟨L,d⟩:=hL.Cb Y;cases H with
 | none=>exact⟨ix,z,E,none,nb,d,L,W rfl,I,by simpa[EA] using O⟩
 | some x=>
  obtain⟨n,l⟩:=x;obtain⟨c,i,c1,c2,c3,c4⟩:=d;obtain⟨c',d1,d2,d3⟩:=X n l rfl;rw[c1]at d1;cases d1;have hl:l.length<=(puts.drop nb).length:=by
   have:=Ei List.length d3;rw[BU]at this;omega
  rw[Cu]at hl;refine⟨ix,z,E,some (n,l.take i),nb+i,c4,L,by omega,by omega,?_⟩;have e:puts.take (nb+i)=puts.take nb++l.take i:=by
   rw[List.take_add,d3,Kd]
   congr 2;omega
  rw[e];exact O.dE _
def Holds.a1{d:Int×Int}(h:Holds bd V puts Ac o)(H:Hw bd d):Holds d V puts Ac o:=by
 obtain⟨ix,L,z,I,nb,E,r⟩:=h;exact⟨ix,L,z,I,nb,E.a1 H,r⟩
def Holds.bc{z:Int}(h:Holds bd V puts Ac o)(H:o<=z):Holds bd V puts Ac z:=by
 obtain⟨ix,Y,E,X,nb,L,d,W,O,I⟩:=h;exact⟨ix,Y,E,X,nb,L,d,W.bc H,O,I⟩
def Holds.cc(h:Holds bd V puts Ac o)(q:List Pu):Holds bd V (puts++q) Ac o:=by
 obtain⟨ix,I,W,X,nb,H,d,O,E,z⟩:=h;refine⟨ix,I,W,X,nb,H,by simp;omega,by rw[GP d];exact O,λn l e=>?_,z⟩;obtain⟨c,d1,d2,d3⟩:=E n l e;refine⟨c,d1,d2,?_⟩;have L:l.length<=(puts.drop nb).length:=by
  have:=Ei List.length d3;rw[BU]at this;omega
 rw[LB d,GP L];exact d3
def Holds.bC{ix:Ix}{z h:List (Int×List Pu)}(H:CW bd V ix z h none)(E:C9 o (Aw z++Aw h) puts)(d:Ac<=puts.length):Holds bd V puts Ac o:=
 ⟨ix,z,h,none,puts.length,H,As _,by rw[C6];exact E,λn l e=>(by cases e),λ_=>d⟩
def TN{c d:FC}{l:List Pu}(E:d.1=c.1)(h:d.2=c.2\/C2 d)(z:c.2<=c.1.length):EM c l<=EM d l:=by
 unfold EM;have:c.2<=d.2:=by
  rcases h with h|h
  ·omega
  ·unfold C2 at h;rw[h,E];exact z
 have:(c.2.toNat-12)/21<=(d.2.toNat-12)/21:=A3u (by omega);omega
def Holds.bR(h:Holds bd V puts Ac o)(H:∀nm,(∀c,V nm=some c->∃d,V' nm=some d/\d.1=c.1/\(d.2=c.2\/C2 d))/\(V nm=none->V' nm=none)):Holds bd V' puts Ac o:=by
 obtain⟨ix,Y,cl,lo,nb,L,O,hs,g1,W⟩:=h;have I:∀nm,V' nm≠none->V nm≠none:=λnm z E=>z ((H nm).2 E);refine⟨ix,Y,cl,lo,nb,L.bR (λnm _=>?_) (λnm z=>L.Ed nm (I nm z)) (λnm c z=>?_),O,hs,λn l e=>?_,W⟩
 ·cases E:V nm with
  | none=>exact .inl ⟨rfl,(H nm).2 E⟩
  | some c=>obtain⟨d,d1,d2,d3⟩:=(H nm).1 c E;exact .inr ⟨c,d,rfl,d1,d2,d3⟩
 ·cases E:V nm with
  | none=>rw[(H nm).2 E]at z;cases z
  | some x=>
   obtain⟨d,d1,d2,d3⟩:=(H nm).1 x E;rw[d1]at z;cases z;have:=L.DX nm x E;rcases d3 with d3|d3
   ·rw[d2,d3];exact this
   ·unfold C2 at d3;omega
 ·obtain⟨c,d1,d2,d3⟩:=g1 n l e;obtain⟨d,e1,X,e3⟩:=(H _).1 c d1;exact⟨d,e1,AM d2 (Lp (TN X e3 (L.DX _ _ d1).2) _),d3⟩
def EP(bd:Int×Int)(V:View)(puts:List Pu)(Ac:Nat)(o:Int)(n:Int)(ahead:Nat):Prop:=
 ∃ix h d l nb c,CW bd V ix h d (some (n,l))/\nb<=puts.length/\C9 o (Aw h++Aw d) (puts.take nb)/\V (Ae n)=some c/\c.1=DZ (Ae n) ahead l/\ahead=(Aw d).length/\Ac<=nb+EM c l/\l=puts.drop nb
def EP.a1{d:Int×Int}{n:Int}{ahead:Nat}(h:EP bd V puts Ac o n ahead)(E:Hw bd d):EP d V puts Ac o n ahead:=by
 obtain⟨ix,I,z,l,nb,c,H,r⟩:=h;exact⟨ix,I,z,l,nb,c,H.a1 E,r⟩
def EP.cd{n:Int}{ahead:Nat}(h:EP bd V puts Ac o n ahead):Holds bd V puts Ac o:=by
 obtain⟨ix,L,W,l,nb,c,I,d,O,E,h2,h3,z,H⟩:=h;exact⟨ix,L,W,some (n,l),nb,I,d,O,λn' l' e=>by cases e;exact⟨c,E,z,by rw[<-H,C6]⟩,λe=>by cases e⟩
def EP.an{n:Int}{ahead:Nat}(h:EP bd V puts Ac o n ahead)(p:Pu)(hp:Bi p)(j:Nat){s:Nat}(aD:∀l c,V (Ae n)=some c->c.1=DZ (Ae n) ahead l->s=EY (Ae n) ahead l)(H:∀nm,nm≠Ae n->V' nm=V nm)(h2:∀c,V (Ae n)=some c->V' (Ae n)=some (c.1++(AR s (Bc p.1 p.2.1 p.2.2)).take j,c.2)):
 (21<=j->EP bd V' (puts++[p]) Ac o n ahead)/\(j<21->Holds bd V' puts Ac o):=by
 obtain⟨ix,sg,X,l,nb,c,E,W,hs,g1,g2,g3,g4,g5⟩:=h;have aF:=aD l c g1 g2;have hv:=h2 c g1;have hpl:(AR s (Bc p.1 p.2.1 p.2.2)).length=21:=by rw[Ez,EW]
 obtain⟨q1,q2,c',q3,q4⟩:=E.A9 n l rfl;rw[g1]at q3;cases q3;have I:=(Ek.1 E.EJ).2.2;have Y:∀x∈X,Ae x.1≠Ae n:=λx z e=>by
  have e2:=FN (E.CT x z).1.1 q1.1 e;have:=I x.1 (DT z) n (by simp);omega
 have O:Fv V' 0 X:=E.Am.br λx z=>by rw[H _ (Y x z)]
 have mk:∀l',(∀p∈l',Bi p)->HN (c.1++(AR s (Bc p.1 p.2.1 p.2.2)).take j) (Ae n) (Aw X).length l'->CW bd V' ix sg X (some (n,l')):=λl' aB aA=>
  ⟨E.DC,by rw[H _ (Hg n).symm];exact E.Ii,E.segs,λx z=>by rw[H _ (FR n x.1).symm];exact E.Cw x z,λx z=>by rw[H _ (Y x z)];exact E.CT x z,O,
   λn' l2 e=>by cases e;exact⟨q1,aB,_,hv,aA⟩,E.EJ,λk k1 k2 k3=>by
    by_cases e:Ae k=Ae n
    ·have:=FN k1 q1.1 e;subst this;simp
    ·rw[H _ e]at k3;exact E.Co k k1 k2 k3,λnm L=>by
    by_cases e:nm=Ae n
    ·subst e;exact E.Ed _ (by rw[g1];simp)
    ·rw[H _ e]at L;exact E.Ed nm L,λnm d L=>by
    by_cases e:nm=Ae n
    ·subst e;rw[hv]at L;cases L;have:=E.DX _ _ g1;dsimp only;rw[AY];omega
    ·rw[H _ e]at L;exact E.DX nm d L⟩
 constructor
 ·intro hj;have ht:(AR s (Bc p.1 p.2.1 p.2.2)).take j=AR s (Bc p.1 p.2.1 p.2.2):=Er (by omega);have hb:c.1++(AR s (Bc p.1 p.2.1 p.2.2)).take j=DZ (Ae n) ahead (l++[p]):=by rw[ht,g2,aF,(T7 _ _ _ _).1]
  have aE:∀x∈l++[p],Bi x:=λx z=>by
   rcases AU.1 z with z|z
   ·exact q2 x z
   ·simp at z;subst z;exact hp
  refine⟨ix,sg,X,l++[p],nb,_,mk _ aE (.inl ⟨[],by rw[hb,g3];simp,by simp⟩),by simp;omega,by rw[GP W];exact hs,hv,hb,g3,?_,by rw[LB W,<-g5]⟩;have:EM c l<=EM (c.1++(AR s (Bc p.1 p.2.1 p.2.2)).take j,c.2) (l++[p]):=by unfold EM;simp;omega
  omega
 ·intro hj
  refine⟨ix,sg,X,some (n,l),nb,mk l q2 (.inl ⟨_,by rw[g2,g3],by rw[BU];omega⟩),W,hs,λn' l' e=>by
   cases e
   exact⟨_,hv,by unfold EM at g4 ⊢;exact g4,by rw[<-g5,C6]⟩,λe=>by cases e⟩
end
structure AG (P Q:PD):Prop where
 A4:P.D.A4=Q.D.A4
 AO:P.D.AO=Q.D.AO
 Av:P.D.Av=Q.D.Av
 Eg:P.F=Q.F
structure FY (P:PD):Prop where
 Au:(P.D.A4.map (·.2)).Nodup
 Cl:(P.D.A4.map (·.1)).Nodup
def PD.aN(P:PD):PD:=⟨{P.D with n:=⟨(B4 P.F P.D.A4:Int)+4611686018427387904,0,0,0,0,0,0,false⟩},P.F⟩
def AG.aN(P:PD):AG P P.aN:=⟨rfl,rfl,rfl,rfl⟩
def FY.aN{P:PD}(h:FY P):Cm P.aN 4611686018427387904 4611686018427387904:=
 ⟨rfl,rfl,rfl,⟨by simp[PD.aN],by simp[PD.aN]⟩,by simp[PD.aN],h.Au,h.Cl⟩
def GL{n:DN}(h:(bg n).2.1=0):(bg n).1=true:=by
 unfold bg at h ⊢;dsimp only at h ⊢;split at h
 ·cases h
 ·split at h
  ·cases h
  ·split at h
   ·cases h
   ·rename_i z d E;rw[Ad z,Ad d,Ad E]
section
variable {P Q:PD} {N R:Nat} {nm old:ByteArray}
def AG.AS(h:AG P Q):P.D.AS=Q.D.AS:=by unfold DS.AS;rw[h.A4,h.AO,h.Av]
def AG.fl(h:AG P Q)(m:Bs):P.fl m=Q.fl m:=by unfold PD.fl;rw[h.A4,h.Eg]
def AG.bs(h:AG P Q)(m:Bs):P.bs m=Q.bs m:=by unfold PD.bs;rw[h.fl]
def AG.ai(h:AG P Q)(H:Cm Q (N+1) R)(d:(P.ai nm).1=0):(Q.ai nm).1=0/\AG (P.ai nm).2 (Q.ai nm).2/\Cm (Q.ai nm).2 N R:=by
 have L:=h.AS;unfold PD.ai CM at d ⊢;rw[h.A4]at d ⊢;by_cases z:nm=ByteArray.empty\/B2 Q.D.A4 nm≥0
 ·rw[Ah z]at d;cases d
 ·rw[Ad z]at d;rw[Ad z,Ad z];dsimp only at d ⊢;rw[GL d,H.bg,L,h.Eg];dsimp only
  rw[Ah rfl,Ah rfl];refine⟨rfl,⟨rfl,h.AO,by dsimp only;rw[h.Av],rfl⟩,?_⟩;have E:¬nm=ByteArray.empty:=λe=>z (.inl e);have W:lookup Q.D.A4 nm=none:=(J8 _ _).1 (by (have:¬B2 Q.D.A4 nm≥0:=λe=>z (.inr e));omega);have I:=G8 nm;have O:Q.fl nm.data.toList=none:=by unfold PD.fl;rw[I,W];rfl
  have:=(Cm.ai (nm:=nm.data.toList) H O (λe=>E (by rw[<-I,e];rfl))).2.1;rw[I]at this;unfold PD.ai CM at this;rw[Ad z]at this;dsimp only at this;rw[H.bg]at this;simpa using this
def AG.ae(h:AG P Q)(z:Cm Q (N+1) R)(d:(P.ae nm).1=0):(Q.ae nm).1=0/\AG (P.ae nm).2 (Q.ae nm).2/\Cm (Q.ae nm).2 N R:=by
 have E:=G8 nm;have key:lookup Q.D.A4 nm≠none->Cm (Q.ae nm).2 N R:=λH=>by
  cases hx:lookup Q.D.A4 nm with
  | none=>exact absurd hx H
  | some f=>
   have:=(Cm.ae (nm:=nm.data.toList) (c:=Q.F f) z (by unfold PD.fl;rw[E,hx];rfl)).2.1
   rwa [E]at this
 unfold PD.ae CA at d key ⊢;rw[h.A4]at d ⊢;cases hx:lookup Q.D.A4 nm with
 | none=>rw[hx]at d;cases d
 | some f=>
  rw[hx]at d key;dsimp only at d key ⊢;rw[d,Ah rfl];rw[z.bg]at key ⊢;dsimp only at key ⊢;rw[Ah rfl]at key ⊢;exact⟨rfl,⟨rfl,h.AO,h.Av,by dsimp only;rw[h.Eg]⟩,key (by simp)⟩
def AG.aJ(h:AG P Q)(z:Cm Q (N+1) R)(d:P.aJ.1=0):Q.aJ.1=0/\AG P.aJ.2 Q.aJ.2/\Cm Q.aJ.2 N R:=by
 have key:=z.aJ.2.1;refine⟨z.aJ.1,?_,key⟩;unfold PD.aJ DH at d ⊢;dsimp only at d ⊢;rw[d,Ah rfl,z.bg];dsimp only
 rw[Ah rfl];exact⟨h.A4,h.A4,rfl,h.Eg⟩
def AG.az(h:AG P Q)(E:Cm Q (N+1) R)(d:(P.az nm).1=0):(Q.az nm).1=0/\AG (P.az nm).2 (Q.az nm).2/\Cm (Q.az nm).2 N R:=by
 have H:=G8 nm;have key:lookup Q.D.A4 nm≠none->(Q.az nm).1=0/\Cm (Q.az nm).2 N R:=λO=>by
  cases z:lookup Q.D.A4 nm with
  | none=>exact absurd z O
  | some f=>
   have:=(Cm.az (nm:=nm.data.toList) (c:=Q.F f) E (by unfold PD.fl;rw[H,z];rfl));rw[H]at this;exact⟨this.1,this.2.1⟩
 have z:¬B2 Q.D.A4 nm<0:=λz=>by
  unfold PD.az Dg at d;rw[h.A4,Ah z]at d;cases d
 obtain⟨I,L⟩:=key λe=>z ((J8 _ _).2 e);refine⟨I,?_,L⟩;unfold PD.az Dg at d ⊢;rw[h.A4,Ad z]at d;rw[h.A4,Ad z,Ad z];dsimp only at d ⊢;rw[GL d,E.bg];dsimp only
 rw[Ah rfl,Ah rfl];exact⟨rfl,h.AO,by dsimp only;rw[h.Av],h.Eg⟩
def AG.aO(h:AG P Q)(I:Cm Q (N+1) R)(L:old≠nm)(d:(P.aO old nm).1=0):(Q.aO old nm).1=0/\AG (P.aO old nm).2 (Q.aO old nm).2/\Cm (Q.aO old nm).2 N R:=by
 have H:=G8 nm;have E:=G8 old;unfold PD.aO CQ at d;rw[h.A4]at d;cases hx:lookup Q.D.A4 old with
 | none=>rw[hx]at d;cases d
 | some f=>
  rw[hx]at d;dsimp only at d;by_cases z:nm=ByteArray.empty
  ·rw[Ah z]at d;cases d
  ·rw[Ad z]at d;dsimp only at d;have key:=Cm.aO (nm:=nm.data.toList) (old:=old.data.toList) (c:=Q.F f) I (by unfold PD.fl;rw[E,hx];rfl) (λe=>z (by rw[<-H,e];rfl)) (λe=>L (by rw[<-H,<-E,e]));rw[H,E]at key;refine⟨key.1,?_,key.2.1⟩;unfold PD.aO CQ;rw[h.A4,hx];dsimp only
   rw[Ad z,Ad z];dsimp only
   rw[GL d,I.bg];dsimp only
   rw[Ah rfl,Ah rfl];exact⟨rfl,h.AO,by dsimp only;rw[h.Av],h.Eg⟩
def AG.an{l:Bs}(h:AG P Q)(W:Cm Q (N+1) R)(hl:l.length<=R)(d:(P.an nm l).1=0):(Q.an nm l).1=0/\AG (P.an nm l).2 (Q.an nm l).2/\Cm (Q.an nm l).2 N (R-l.length):=by
 have Y:=G8 nm;have O:¬(bg P.D.n).2.1≠0:=λz=>by
  unfold PD.an Bp at d;rw[h.A4]at d;cases hx:lookup Q.D.A4 nm with
  | none=>rw[hx]at d;cases d
  | some f=>
   rw[hx]at d;dsimp only at d;have E:∀D X,(BA D P.F f (A8 l) X (bg P.D.n).2.1).1≠0:=λD X=>by
    unfold BA;split
    ·dsimp only;first|exact z|(rw[Ad z];exact z)
    ·exact z
   split at d
   ·exact E _ _ d
   ·split at d
    ·exact E _ _ d
    ·exact z d
 have z:(bg P.D.n).2.1=0:=by
  by_cases e:(bg P.D.n).2.1=0
  ·exact e
  ·exact absurd e O
 cases hx:lookup Q.D.A4 nm with
 | none=>
  unfold PD.an Bp at d;rw[h.A4,hx]at d;cases d
 | some f=>
  have key:=Cm.an (nm:=nm.data.toList) (c:=Q.F f) W (by unfold PD.fl;rw[Y,hx];rfl) l hl;rw[Y]at key;refine⟨key.1,?_,key.2.1⟩;have I:∀D:DS,D.A4=Q.D.A4->D.n.AH=Q.D.n.AH->¬((A8 l).size:Int)>FU D Q.F:=λD h1 L=>by
   have:=W.AH;unfold FU;rw[h1,L,KL];omega
  unfold PD.an Bp at d ⊢;rw[h.A4,hx]at d;rw[h.A4,hx];dsimp only at d ⊢;rw[GL z,Ah rfl,z]at d;rw[GL z,Ah rfl,z,W.bg];dsimp only
  rw[Ah rfl];unfold BA at d ⊢;split at d
  ·simp at d
  ·rename_i H;rw[Ad H];split
   ·rename_i L;exact absurd L (I _ rfl rfl)
   ·exact⟨rfl,h.AO,h.Av,by dsimp only;rw[h.Eg]⟩
end
def nn{x:Int}(h:x=0):¬x≠0:=λk=>k h
section
variable {P Q:PD} {N R:Nat} {nm old:Bs} {A:Ar} {J:Jn}
def AG.Ax(h:AG P Q):P.Ax=Q.Ax:=by unfold PD.Ax;rw[h.A4]
def AG.aU(h:AG P Q):A.aU P=A.aU Q:=by unfold Ar.aU;rw[h.Ax]
def AG.aW(h:AG P Q)(n a:Int):P.aW n a=Q.aW n a:=by
 unfold PD.aW Gs DP;rw[h.A4,h.Eg]
def AG.bq(h:AG P Q):∀(l:List Int) (d:List Pu),P.bq l d=Q.bq l d
 | [],_=>rfl
 | n::r,d=>by simp only[PD.bq];rw[h.aW,h.bq r]
def AG.puts(h:AG P Q)(l:List Int):P.puts l=Q.puts l:=h.bq l []
def AG.Co(h:AG P Q)(m:Bs):P.Co m=Q.Co m:=by unfold PD.Co DP;rw[h.A4,h.Eg]
def AG.aZ(h:AG P Q)(m:Bs):P.aZ m=Q.aZ m:=by unfold PD.aZ;rw[h.Co]
def AG.Cw(h:AG P Q)(n:Int):P.Cw n=Q.Cw n:=by unfold PD.Cw;rw[h.aZ]
def AG.segs(h:AG P Q):∀l:List Int,P.segs l=Q.segs l
 | []=>rfl
 | n::r=>by simp only[PD.segs];rw[h.Cw,h.segs r]
def AG.bW{s:Nat}{l:Bs}(h:AG P Q)(L:Cm Q (N+1) R)(hl:l.length+4<=R)(d:(P.ad (A8 nm) s l).2.1=0):
 (P.ad (A8 nm) s l).1=(Q.ad (A8 nm) s l).1/\(Q.ad (A8 nm) s l).2.1=0/\AG (P.ad (A8 nm) s l).2.2 (Q.ad (A8 nm) s l).2.2/\Cm (Q.ad (A8 nm) s l).2.2 N (R-(l.length+4)):=by
 have H:=Ez s l;obtain⟨I,z,E⟩:=h.an (nm:=A8 nm) (l:=AR s l) L (by omega) d;rw[H]at E;refine⟨?_,I,z,E⟩;have e:∀X:PD,(X.ad (A8 nm) s l).1=decide ((CC (X.an (A8 nm) (AR s l)).2.D (X.an (A8 nm) (AR s l)).2.F (A8 nm)).1-(CC X.D X.F (A8 nm)).1=(AR s l).length):=λX=>rfl;rw[e P,e Q];unfold CC;rw[z.A4,z.Eg,h.A4,h.Eg]
def AG.aI{s:Nat}{l:Bs}(h:AG P Q)(hc:Cm Q (N+3) R)(I:l.length+4<=R)(d:(P.aI nm s l).1=0):
 (Q.aI nm s l).1=0/\AG (P.aI nm s l).2 (Q.aI nm s l).2/\Cm (Q.aI nm s l).2 N (R-(l.length+4)):=by
 unfold PD.aI at d ⊢;by_cases E:(P.ai (A8 nm)).1=0
 ·rw[Ad (nn E)]at d;obtain⟨L,O,X⟩:=h.ai (N:=N+2) (nm:=A8 nm) hc E;by_cases z:((P.ai (A8 nm)).2.ad (A8 nm) s l).2.1=0
  ·rw[Ad (nn z)]at d;obtain⟨-,H,W,Y⟩:=O.bW (N:=N+1) (nm:=nm) X I z;obtain⟨c1,c2,c3⟩:=W.ae (N:=N) (nm:=A8 nm) Y d;rw[Ad (nn E),Ad (nn z),Ad (nn L),Ad (nn H)];exact⟨c1,c2,c3⟩
  ·rw[Ah z]at d;exact absurd d z
 ·rw[Ah E]at d;exact absurd d E
def AG.ax:∀(l:List Bs) {P Q:PD},AG P Q->Cm Q (N+l.length) R->(PD.ax l P).1=0->(PD.ax l Q).1=0/\AG (PD.ax l P).2 (PD.ax l Q).2/\Cm (PD.ax l Q).2 N R
 | [],P,Q,h,hc,_=>⟨rfl,h,hc⟩
 | x::r,P,Q,h,hc,hok=>by
  unfold PD.ax at hok ⊢;by_cases d:(P.ae (A8 x)).1=0
  ·rw[Ad (nn d)]at hok;obtain⟨E,z,H⟩:=h.ae (N:=N+r.length) (nm:=A8 x) (by simpa[Nat.add_assoc] using hc) d;rw[Ad (nn d),Ad (nn E)];exact AG.ax r z H hok
  ·rw[Ah d]at hok;exact absurd hok d
def AG.aL:∀(l:List Bs) {P Q:PD},AG P Q->Cm Q (N+l.length) R->(PD.aL l P).1=0->(PD.aL l Q).1=0/\AG (PD.aL l P).2 (PD.aL l Q).2/\Cm (PD.aL l Q).2 N R
 | [],P,Q,h,hc,_=>⟨rfl,h,hc⟩
 | x::r,P,Q,h,hc,hok=>by
  unfold PD.aL at hok ⊢;by_cases d:(P.az (A8 x)).1=0
  ·rw[Ad (nn d)]at hok;obtain⟨E,z,H⟩:=h.az (N:=N+r.length) (nm:=A8 x) (by simpa[Nat.add_assoc] using hc) d;rw[Ad (nn d),Ad (nn E)];exact AG.aL r z H hok
  ·rw[Ah d]at hok;exact absurd hok d
def AG.C(h:AG P Q)(L:Cm Q (N+A.AP.length) R)(d:(A.C P).1=0):(A.C Q).1=0/\(A.C P).2.1=(A.C Q).2.1/\AG (A.C P).2.2 (A.C Q).2.2/\Cm (A.C Q).2.2 N R:=by
 unfold Ar.C at d ⊢;by_cases z:(P.ax A.AP).1=0
 ·obtain⟨H,E,I⟩:=AG.ax A.AP h L z;rw[Ad (nn z),Ad (nn H)];exact⟨rfl,rfl,E,I⟩
 ·rw[Ah z]at d;exact absurd d z
def AG.aq(h:AG P Q)(z:Cm Q (N+(A.aU Q).length) R)(d:(A.aq P).1=0):(A.aq Q).1=0/\AG (A.aq P).2 (A.aq Q).2/\Cm (A.aq Q).2 N R:=by
 unfold Ar.aq at d ⊢;rw[h.aU]at d ⊢;exact AG.aL _ h z d
def AG.au(h:AG P Q)(Y:Cm Q (N+2) R)(hR:12<=R)(d:(J.au P).1=0):(J.au Q).1=0/\(J.au P).2.1=(J.au Q).2.1/\AG (J.au P).2.2 (J.au Q).2.2/\Cm (J.au Q).2.2 N (R-12):=by
 unfold Jn.au at d ⊢;by_cases z:(P.ai (A8 (Ae (J.A9+1)))).1=0
 ·rw[Ad (nn z)]at d;obtain⟨L,O,X⟩:=h.ai (N:=N+1) Y z;dsimp only at d ⊢;by_cases E:((P.ai (A8 (Ae (J.A9+1)))).2.ad (A8 (Ae (J.A9+1))) (AE (Ae (J.A9+1))) (AQ J.puts)).2.1=0
  ·obtain⟨-,I,W,H⟩:=O.bW (N:=N) (nm:=Ae (J.A9+1)) (s:=AE (Ae (J.A9+1))) (l:=AQ J.puts) X (by rw[CL];omega) E;rw[CL]at H;rw[Ad (nn z),Ad (nn E),Ad (nn L),Ad (nn I)];exact⟨rfl,rfl,W,H⟩
  ·rw[Ah E]at d;exact absurd d E
 ·rw[Ah z]at d;exact absurd d z
def AG.av(h:AG P Q)(E:Cm Q (N+1) R)(hR:21<=R)(p:Pu)(d:(J.av P p).2.1=0):(J.av P p).1=(J.av Q p).1/\(J.av Q p).2.1=0/\(J.av P p).2.2.1=(J.av Q p).2.2.1/\AG (J.av P p).2.2.2 (J.av Q p).2.2.2/\Cm (J.av Q p).2.2.2 N (R-21):=by
 unfold Jn.av at d ⊢;cases hx:J.AA with
 | none=>exact⟨rfl,rfl,rfl,h,E.aa (by omega) (by omega)⟩
 | some x=>
  obtain⟨n,s⟩:=x;rw[hx]at d;dsimp only at d ⊢;obtain⟨I,H,L,z⟩:=h.bW (N:=N) (nm:=Ae n) E (by rw[EW];omega) d;rw[EW]at z;exact⟨I,H,rfl,L,z⟩
def AG.e0(h:AG P Q)(z:Cm Q (N+1) R)(d:(J.ae P).1=0):(J.ae Q).1=0/\AG (J.ae P).2 (J.ae Q).2/\Cm (J.ae Q).2 N R:=by
 unfold Jn.ae at d ⊢;cases hx:J.AA with
 | none=>exact⟨rfl,h,z.aa (by omega) (As _)⟩
 | some x=>
  obtain⟨n,s⟩:=x;rw[hx]at d;exact h.ae (N:=N) z d
def AG.ah:∀(fresh:List (List Pu)) (last:Int) (kept:List Int) {P Q:PD},AG P Q->Cm Q (N+3*fresh.length) (R+Di fresh)->(PD.ah fresh last kept P).1=0->
 (PD.ah fresh last kept Q).1=0/\(PD.ah fresh last kept P).2.1=(PD.ah fresh last kept Q).2.1/\(PD.ah fresh last kept P).2.2.1=(PD.ah fresh last kept Q).2.2.1/\AG (PD.ah fresh last kept P).2.2.2 (PD.ah fresh last kept Q).2.2.2/\Cm (PD.ah fresh last kept Q).2.2.2 N R
 | [],last,kept,P,Q,h,hc,_=>⟨rfl,rfl,rfl,h,by simpa[Di,PD.ah] using hc⟩
 | l::r,last,kept,P,Q,h,hc,hok=>by
  have z:Di (l::r)=(17*l.length+4)+Di r:=by simp[Di]
  have d:∀X:PD,PD.ah (l::r) last kept X=if (X.aK (last+1) l).1≠0 then ((X.aK (last+1) l).1,last+1,kept,(X.aK (last+1) l).2) else PD.ah r (last+1) (kept++[last+1]) (X.aK (last+1) l).2:=λ_=>rfl
  rw[d P]at hok;rw[d P,d Q];by_cases E:(P.aK (last+1) l).1=0
  ·rw[Ad (nn E)]at hok;obtain⟨L,O,H⟩:=AG.aI (N:=N+3*r.length) (R:=R+Di (l::r)) (nm:=AF (last+1)) (s:=AE (AF (last+1))) (l:=Cd l) h (hc.aa (by simp;omega) (As _)) (by rw[I2,z];omega) E;rw[I2]at H;have I:(Q.aK (last+1) l).1=0:=L;rw[Ad (nn E),Ad (nn I)];exact AG.ah r (last+1) (kept++[last+1]) O (H.aa (As _) (by rw[z];omega)) hok
  ·rw[Ah E]at hok;exact absurd hok E
def AG.cY{d:Int}{segs:List Int}(h:AG P Q)(Y:Cm Q (N+4) R)(hR:12+8*segs.length<=R)(z:(P.ag d segs).1=0):(Q.ag d segs).1=0/\AG (P.ag d segs).2 (Q.ag d segs).2/\Cm (Q.ag d segs).2 N (R-(12+8*segs.length)):=by
 have L:(Ch d segs).length=8+8*segs.length:=by unfold Ch;rw[AY,CL,J7]
 unfold PD.ag at z ⊢;by_cases E:(P.aI Bo (AE AI) (Ch d segs)).1=0
 ·rw[Ad (nn E)]at z;obtain⟨O,W,a3⟩:=h.aI (N:=N+1) Y (by omega) E;obtain⟨I,X,H⟩:=W.aO (N:=N) a3 (λe=>J6 (FO.1 e).symm) z;rw[Ad (nn E),Ad (nn O)];exact⟨I,X,by rw[L]at H;exact H.aa (As _) (by omega)⟩
 ·rw[Ah E]at z;exact absurd z E
def AG.cD{segs:List Int}(h:AG P Q)(H:Cm Q (N+4) R)(O:12+8*segs.length<=R)(d:(A.ag P segs).1=0):(A.ag Q segs).1=0/\(A.ag P segs).2.1=(A.ag Q segs).2.1/\AG (A.ag P segs).2.2 (A.ag Q segs).2.2/\Cm (A.ag Q segs).2.2 N (R-(12+8*segs.length)):=by
 unfold Ar.ag at d ⊢;by_cases z:A.ix.B7=A.j.A9+1/\A.ix.segs=segs
 ·rw[Ah z,Ah z];exact⟨rfl,rfl,h,H.aa (by omega) (by omega)⟩
 ·rw[Ad z]at d;rw[Ad z,Ad z];by_cases E:(P.ag (A.j.A9+1) segs).1=0
  ·obtain⟨I,L,W⟩:=h.cY H O E;rw[Ad (nn E),Ad (nn I)];exact⟨rfl,rfl,L,W⟩
  ·rw[Ah E]at d;exact absurd d E
end
end
end Go.Proofs.YtodcnkbblippnaaGreatDoor
