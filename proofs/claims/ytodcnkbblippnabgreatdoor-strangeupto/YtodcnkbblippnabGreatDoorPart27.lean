/- Part 27 of a proof: walks of the program. -/
import Derived.Test.YtodcnkbblippnabGreatDoorPart24
namespace Go.Proofs.YtodcnkbblippnabGreatDoor
set_option maxRecDepth 100000
set_option maxHeartbeats 32000000
set_option linter.defProp false
open Go.Proofs.Tryz
section
open Go.RowKit
attribute [local go_sem ↓] Cz
def Od{w:World}{jb b:Nat}{lv ov:Value}{J:Jn}(h:DE w jb b lv ov J){n:Int}{s:Nat}(H:J.AP=some (n,s)):∃lb,ov=(A7 lb)/\Be w lb 196 (A7 b) ⟨(Af n).toArray⟩ s/\s<4294967296:=by
 rcases h.AP with⟨z,_⟩|⟨n',s',lb,z,I,W,O⟩
 ·rw[H]at z;cases z
 ·rw[H]at z;cases z;exact⟨lb,I,W,O⟩
section
variable{w w' w1 w2:World}{b B jb lb pb:Nat}{P:PD}{Ft FT:Nat->Prop}{a c m:Nat}{lv ov:Value}{J:Jn}{n:Int}{s:Nat}
def DE.e1{P':PD}(I:DE w jb b lv (.pointer (some ⟨lb,0,none⟩)) J)(ho:J.AP=some (n,s))(_hlt:∀k,Ft k->k<w.heap.size)(H:∀k,Dk jb lv (.pointer (some ⟨lb,0,none⟩)) k->¬Ft k)(z:∀k,Ft k\/Dk jb lv (.pointer (some ⟨lb,0,none⟩)) k->FT k){s':Nat}(X:s'<4294967296)(hf:Be w' lb 196 (.pointer (some ⟨b,0,none⟩)) ⟨(Af n).toArray⟩ s')(hI:Je w Ft lb w' b P'):
 Ax w FT w' (λw' aA=>JD w' jb b {J with AP:=some (n,s')} P' aA):=by
 have⟨lb',e,h3,_⟩:=Od I ho;cases e;obtain⟨Y,Ft',r2,r3,r4⟩:=hI;have n1:lb≠jb:=h3.dn I.Ai;have n2:∀g,lv.ownBlock=some g->g≠lb:=λg W=>h3.cN I.Al W;refine Ax.jd Y ?_ ⟨I.Ai.ak Y ?_,?_,.inr ⟨n,s',lb,rfl,rfl,hf,X⟩⟩ r2 r3 ?_ ?_ ?_
 ·rintro k _ (h|rfl)
  ·exact z k (.inl h)
  ·exact z _ (.inr (.inr (.inr rfl)))
 ·rintro (h|h)
  ·exact H _ (.inl rfl) h
  ·exact n1 h.symm
 ·exact AA I.Al λg W=>Y.Ao g (AG I.Al W) λh=>by
   rcases h with h|h
   ·exact H g (.inr (.inl W)) h
   ·exact n2 g W h
 ·exact λk O hx=>by
   rcases r4 k hx with h|h
   ·exact H k O h
   ·have:=I.lt O;omega
 ·exact λk O=>(r4 k O).imp (λh=>z k (.inl h)) id
 ·exact λk O=>.inl (z k (.inr O))
def ZV(w:World)(p:Pu)(h:JD w jb b J P FT)(hp:B8 p)(hn:J.AP=none->Cv (J.A8+1)/\AY (J.A8+1)/\AY J.puts)(bI:J.Al.length<=1073741824)(hL:Lets B w)(hF:Fit P a c m)(hl:CN (a+1) (c+1) (m+33)):
 Aj 99 #[A7 jb,DB p] w (Au (.tuple #[.bool (J.I P p).1,A0 (J.I P p).2.1]) λw'=>Ax w FT w' (λw' O=>JD w' jb b (J.I P p).2.2.1 (J.I P p).2.2.2 O)):=by
 obtain⟨I,H,z⟩:=p;unfold DB;dsimp only
 obtain⟨X,W,Y,aE,bG,aM,aN,aH⟩:=h;have a6:CN (a+1) (c+1) (m+12):=⟨hl.a,hl.c,by have:=hl.m;omega⟩;have bH:C5 (w.aC #[A0 I,A0 H,A0 z] 90) w.heap.size I H z:=BN w _;have k0:A5 Ab w (w.aC #[A0 I,A0 H,A0 z] 90):=(A5.C _ w).aj _;have sz:w.heap.size<(w.aC #[A0 I,A0 H,A0 z] 90).heap.size:=by simp
 have hex:JD w jb b J P (λk=>Y k\/Dk jb X W k):=⟨X,W,Y,aE,bG,aM,aN,λ_ h=>h⟩;have aO:∀k,(Y k\/Dk jb X W k)->k<w.heap.size:=λk hk=>hk.elim (aM k) λh=>aE.lt h;have h1:JD (w.aC #[A0 I,A0 H,A0 z] 90) jb b J P (λk=>Y k\/Dk jb X W k):=hex.aM (k0.az aO λ_ _ h=>h) k0.Am;have a9:=hL.aP k0
 have AD:Hid (∀(w1:World) (aB:Jn) (aD:PD) (aA:Nat->Prop) (n:Int) (s:Nat),A5 (λk=>Y k\/Dk jb X W k) (w.aC #[A0 I,A0 H,A0 z] 90) w1->(∀k,aA k->(Y k\/Dk jb X W k)\/(w.aC #[A0 I,A0 H,A0 z] 90).heap.size<=k)->JD w1 jb b aB aD aA->aB.AP=some (n,s)->Fit aD (a+1) (c+1) (m+12)->
  ∃lb,Aa w1 jb 4 (A7 lb)/\C5 w1 w.heap.size I H z/\Aj 144 #[A7 lb,.agg #[A0 I,A0 H,A0 z]] w1.drew (Au (.tuple #[.bool (aB.ax aD (I,H,z)).1,A0 (aB.ax aD (I,H,z)).2.1]) λw'=>
   w'.cell? (Ad jb 4)=some (A7 lb)/\C5 w' w.heap.size I H z/\Ax w FT w' (λw' O=>JD w' jb b (aB.ax aD (I,H,z)).2.2.1 (aB.ax aD (I,H,z)).2.2.2 O))):=λw1 aB aD aA n s aV aR bF aS bD=>by
  obtain⟨lv,ov,Ft,hJ,hD,aP,aF,aG⟩:=bF;obtain⟨lb,rfl,h3,h4⟩:=Od hJ aS;have aK:=bH.ak aV (λhx=>by have:=aO _ hx;omega);have aZ:¬aA w.heap.size:=λhx=>by
   rcases aR _ hx with h|h
   ·have:=aO _ h;omega
   ·omega
  have kd:A5 Ab w1 w1.drew:=(A5.C _ w1).ad;have a2:=hJ.aJ kd;have aL:∀k,Ft k->k<w1.drew.heap.size:=aP;refine⟨lb,hJ.Ai.c4,aK,(A2B (I,H,z) _ s (h3.ak kd (λh=>h)) h4 (B5.az hD aP kd) aL (λhx=>aF _ (.inr (.inr rfl)) hx) hp bD ⟨hl.a,hl.c,by have:=hl.m;omega⟩).mono ?_⟩;rintro e w'⟨rfl,hf,hI⟩;have he:aB.ax aD (I,H,z)=((aD.I (A9 (Af n)) s (B9 I H z)).1,(aD.I (A9 (Af n)) s (B9 I H z)).2.1,{aB with AP:=some (n,AV s (B9 I H z))},(aD.I (A9 (Af n)) s (B9 I H z)).2.2):=by unfold Jn.ax;rw[aS]
  rw[he];have bA:=DE.e1 a2 aS aL aF aG (Jk s (B9 I H z) h4) hf hI
  have a8:Cw w' jb b lv aB.A8 aB.puts (A7 lb):=a2.Ai.ak hI.1 (by
   rintro (h|h)
   ·exact aF _ (.inl rfl) h
   ·exact h3.dn hJ.Ai h.symm)
  refine⟨rfl,a8.c4,aK.ad.ak hI.1 (by
   rintro (h|h)
   ·exact aZ (aG _ (.inl h))
   ·exact aZ (aG _ (.inr (.inr (.inr (by rw[h])))))),?_⟩
  have hall:Ax (w.aC #[A0 I,A0 H,A0 z] 90) (λk=>Y k\/Dk jb X W k) w' (λw' O=>JD w' jb b {aB with AP:=some (n,AV s (B9 I H z))} (aD.I (A9 (Af n)) s (B9 I H z)).2.2 O):=by
   have⟨q1,Ft',q2,q3,q4⟩:=bA.a7 kd;exact⟨aV.AJ q1 λx hx aP=>(aR x hx).resolve_right (by omega),Ft',q2,q3,λk hk=>(q4 k hk).elim (λh=>aR k h) λh=>.inr (AH aV.Am h)⟩
  exact(hall.a7 k0).bc aH
 by_cases ho:J.AP=none
 case pos=>
  have aW:W=.pointer none:=by
   rcases aE.AP with⟨_,h⟩|⟨n,s,lb,h,_⟩
   ·exact h
   ·rw[ho]at h;cases h
  have⟨n1,n2,n3⟩:=hn ho;have a3:=A4 (A15 _ h1 ho n1 n2 n3 bI a9 hF a6);have c4:=(aE.aJ k0).Ai.c4;rw[aW]at c4;have aX:Hid (J.I P (I,H,z)=if (J.au P).1≠0 then (false,(J.au P).1,(J.au P).2.1,(J.au P).2.2) else (J.au P).2.1.ax (J.au P).2.2 (I,H,z)):=by unfold Hid Jn.I;rw[Ah ho]
  have aU:Hid (Fit (J.au P).2.2 (a+1) (c+1) (m+12)):=by
   (have hp:(AT (AB (Af (J.A8+1))) (AR J.puts)).length=12:=by simp[AT,Hd,CD]);have a1:=hF.af (A9 (Af (J.A8+1)));have aQ:=a1.al (A9 (Af (J.A8+1))) (AT (AB (Af (J.A8+1))) (AR J.puts));rw[hp]at aQ;unfold Hid Jn.au;split
   ·exact a1.ae (Aq _) (Aq _) (by omega)
   ·dsimp only
    split
    ·exact aQ
    ·exact aQ
  have bB:Hid ((J.au P).1=0->∃n s,(J.au P).2.1.AP=some (n,s)):=λh0=>by
   unfold Jn.au at h0 ⊢;split
   ·rename_i hc;rw[Ah hc]at h0;exact absurd h0 hc
   ·rename_i hc;rw[Ae hc]at h0;dsimp only at h0 ⊢;split
    ·rename_i hd;rw[Ah hd]at h0;exact absurd h0 hd
    ·exact⟨_,_,rfl⟩
  have bE:Hid (∀wx bC bJ,Ax (w.aC #[A0 I,A0 H,A0 z] 90) (λk=>Y k\/Dk jb X W k) wx (λw' O=>JD w' jb b bC bJ O)->Ax w FT wx (λw' O=>JD w' jb b bC bJ O)):=λwx bC bJ hx=>(hx.a7 k0).bc aH
  generalize hR:J.I P (I,H,z)=R at aX ⊢;generalize hG:J.au P=G at a3 aX aU bB;obtain⟨a7,a5,a4⟩:=G;dsimp only at a3 aX aU bB;by_cases hg:a7=0
  case neg=>
   (have aI:R=(false,a7,a5,a4):=by rw[aX.o,Ah hg]);subst aI;(have hgb:(a7 !=0)=true:=by simpa using hg)
   go_enter func99,ntmps99
   go_wp2_with (go_at_call 143;refine a3.k ?_;rintro w2 hI;have aY:=A4 (bE.o _ _ _ hI));go_ret2;exact⟨rfl,aY.o⟩
  case pos=>
   subst hg;(have aI:R=a5.ax a4 (I,H,z):=by rw[aX.o,Ae (by simp)]);have⟨n,s,aJ⟩:=bB.o rfl
   have a0:Hid (∀w2,Ax (w.aC #[A0 I,A0 H,A0 z] 90) (λk=>Y k\/Dk jb X W k) w2 (λw' O=>JD w' jb b a5 a4 O)->∃lb,Aa w2 jb 4 (A7 lb)/\C5 w2 w.heap.size I H z/\Aj 144 #[A7 lb,.agg #[A0 I,A0 H,A0 z]] w2.drew (Au (.tuple #[.bool R.1,A0 R.2.1]) λw'=>
    w'.cell? (Ad jb 4)=some (A7 lb)/\C5 w' w.heap.size I H z/\Ax w FT w' (λw' O=>JD w' jb b R.2.2.1 R.2.2.2 O))):=λw2 hI=>by
    obtain⟨q1,aA,q2,q3,q4⟩:=hI;rw[aI];exact AD.o w2 a5 a4 aA n s q1 q4 q2 aJ aU.o
   obtain⟨bM,bL,bK,bN⟩:=R;dsimp only at a0
   go_enter func99,ntmps99
   go_wp2_with (fail);refine a3.k ?_;rintro w2 hI;have⟨lb,c24,pb2,AL⟩:=a0.o w2 hI;have aT:=A4 AL;have d4:Aa w2.drew jb 4 (A7 lb):=c24;have d0:=pb2.ad.c0;have d1:=pb2.ad.c1;have d2:=pb2.ad.c2;go_wp2;refine Ce (λw'=>Aa w' jb 4 (A7 lb)/\Aa w' w.heap.size 0 (A0 I)/\Aa w' w.heap.size 1 (A0 H)/\Aa w' w.heap.size 2 (A0 z)) 8
    (BD [0,1,2,3,4,5,6,7] [5]) ⟨d4,d0,d1,d2⟩ ?_
   iterate 5 refine Bq ?_
   refine By λK hK=>?_;go_simp;refine aT.k ?_;rintro w3⟨e4,eb,hI⟩;refine hK _ _ ⟨e4,eb.c0,eb.c1,eb.c2⟩ (λhS=>?_);have aY:=A4 hI
   iterate 2 refine Bq ?_
   refine Cc ?_;go_wp2;go_ret2;exact⟨rfl,aY.o⟩
 case neg=>
  obtain⟨⟨n,s⟩,aJ⟩:∃x,J.AP=some x:=P7.1 ho;obtain⟨lb0,aW,-,-⟩:=Od aE aJ;have aI:J.I P (I,H,z)=J.ax P (I,H,z):=by unfold Jn.I;rw[Ae ho]
  have⟨lb,c24,pb2,AL⟩:=AD.o _ J P _ n s (A5.C _ _) (λk hk=>.inl hk) h1 aJ (hF.ae (by omega) (by omega) (by omega));rw[<-aI]at AL;generalize hR:J.I P (I,H,z)=R at AL ⊢;obtain⟨bM,bL,bK,bN⟩:=R;dsimp only at AL ⊢;have aT:=A4 AL;have d4:(w.aC #[A0 I,A0 H,A0 z] 90).drew.cell? (Ad jb 4)=some (A7 lb):=c24;have d0:=pb2.ad.c0;have d1:=pb2.ad.c1;have d2:=pb2.ad.c2
  go_enter func99,ntmps99
  go_wp2;refine Ce (λw'=>Aa w' jb 4 (A7 lb)/\Aa w' w.heap.size 0 (A0 I)/\Aa w' w.heap.size 1 (A0 H)/\Aa w' w.heap.size 2 (A0 z)) 8
   (BD [0,1,2,3,4,5,6,7] [5]) ⟨d4,d0,d1,d2⟩ ?_
  iterate 5 refine Bq ?_
  refine By λK hK=>?_;go_simp;refine aT.k ?_;rintro w3⟨e4,eb,hI⟩;refine hK _ _ ⟨e4,eb.c0,eb.c1,eb.c2⟩ (λhS=>?_);have aY:=A4 hI
  iterate 2 refine Bq ?_
  refine Cc ?_;go_wp2;go_ret2;exact⟨rfl,aY.o⟩
end
end
section
open Go.RowKit
def D8(w:World)(ab b xb jb:Nat)(last:Int)(ov:Value):Prop:=w.heap[ab]?=some (.cells #[.pointer (some ⟨b,0,none⟩),.pointer (some ⟨xb,0,none⟩),.pointer (some ⟨jb,0,none⟩),.int .i64 last,ov] 108 (0,0))
section
variable{w w':World}{ab b xb jb:Nat}{last:Int}{ov:Value}
def D8.c0(h:D8 w ab b xb jb last ov):Aa w ab 0 (A7 b):=by unfold D8 at h;simp[Aa,World.cell?,h]
def D8.c1(h:D8 w ab b xb jb last ov):Aa w ab 1 (A7 xb):=by unfold D8 at h;simp[Aa,World.cell?,h]
def D8.c2(h:D8 w ab b xb jb last ov):Aa w ab 2 (A7 jb):=by unfold D8 at h;simp[Aa,World.cell?,h]
def D8.c3(h:D8 w ab b xb jb last ov):Aa w ab 3 (A0 last):=by unfold D8 at h;simp[Aa,World.cell?,h]
def D8.c4(h:D8 w ab b xb jb last ov):Aa w ab 4 ov:=by unfold D8 at h;simp[Aa,World.cell?,h]
def D8.fz(h:D8 w ab b xb jb last ov)(o:Nat):w.frozen? (Ad ab o)=false:=by unfold D8 at h;simp[World.frozen?,h]
def D8.lt(h:D8 w ab b xb jb last ov):ab<w.heap.size:=Bo h
def D8.s3(h:D8 w ab b xb jb last ov)(x:Int):D8 (w.setCell (Ad ab 3) (A0 x)) ab b xb jb x ov:=CE h
def D8.s4(h:D8 w ab b xb jb last ov)(x:Value):D8 (w.setCell (Ad ab 4) x) ab b xb jb last x:=CE h
def D8.ad(h:D8 w ab b xb jb last ov):D8 w.drew ab b xb jb last ov:=by unfold D8 at h ⊢;exact h
def D8.ak{S:Nat->Prop}(h:D8 w ab b xb jb last ov)(z:A5 S w w')(H:¬S ab):D8 w' ab b xb jb last ov:=z.ak h H
end
def Fe(ab xb jb:Nat)(sv ov lv jo:Value)(k:Nat):Prop:=k=ab\/k=xb\/sv.ownBlock=some k\/ov.ownBlock=some k\/Dk jb lv jo k
structure Ck (w:World) (ab b xb jb:Nat) (sv ov lv jo:Value) (A:Ar) (P:PD) (Ft:Nat->Prop):Prop where
 Ai:D8 w ab b xb jb A.A8 ov
 ix:BZ w xb 122 b AF (AB AF) A.ix.AW sv
 segs:Dc w sv A.ix.segs
 AM:GB w ov A.AM
 jn:DE w jb b lv jo A.j
 dk:Bh w b P Ft
 lt:∀k,Ft k->k<w.heap.size
 Dg:∀k,Fe ab xb jb sv ov lv jo k->¬Ft k
 Fi:∀g,sv.ownBlock=some g->g≠ab/\g≠xb/\¬Dk jb lv jo g
 G7:∀g,ov.ownBlock=some g->g≠ab/\g≠xb/\¬Dk jb lv jo g
 FG:∀k,Dk jb lv jo k->k≠ab/\k≠xb
def AD(w:World)(ab b:Nat)(A:Ar)(P:PD)(FT:Nat->Prop):Prop:=
 ∃xb jb sv ov lv jo Ft,Ck w ab b xb jb sv ov lv jo A P Ft/\∀k,Ft k\/Fe ab xb jb sv ov lv jo k->FT k
section
variable{w w':World}{ab b xb jb:Nat}{sv ov lv jo:Value}{A:Ar}{P P':PD}{Ft FT:Nat->Prop}
def Ck.bC(h:Ck w ab b xb jb sv ov lv jo A P Ft){k:Nat}(z:Fe ab xb jb sv ov lv jo k):k<w.heap.size:=by
 rcases z with rfl|rfl|z|z|z
 ·exact h.Ai.lt
 ·exact h.ix.lt
 ·exact h.segs.lt z
 ·exact h.AM.lt z
 ·exact h.jn.lt z
def Ck.bT(h:Ck w ab b xb jb sv ov lv jo A P Ft){k:Nat}(z:Ft k\/Fe ab xb jb sv ov lv jo k):k<w.heap.size:=z.elim (h.lt k) h.bC
def Ck.ne(h:Ck w ab b xb jb sv ov lv jo A P Ft):ab≠xb:=BP h.Ai h.ix (by decide)
def Ck.aM(h:Ck w ab b xb jb sv ov lv jo A P Ft)(z:G3 (λk=>Ft k\/Fe ab xb jb sv ov lv jo k) w w')(O:w.heap.size<=w'.heap.size):Ck w' ab b xb jb sv ov lv jo A P Ft:=
 ⟨(z ab (.inr (.inl rfl))).trans h.Ai,(z xb (.inr (.inr (.inl rfl)))).trans h.ix,h.segs.aM λg I=>z g (.inr (.inr (.inr (.inl I)))),h.AM.aM λg I=>z g (.inr (.inr (.inr (.inr (.inl I))))),
   h.jn.aM λk H=>z k (.inr (.inr (.inr (.inr (.inr H))))),B5.aM h.dk λk H=>z k (.inl H),λk H=>Bm (h.lt k H) O,h.Dg,h.Fi,h.G7,h.FG⟩
def Ck.aJ(h:Ck w ab b xb jb sv ov lv jo A P Ft)(z:A5 Ab w w'):Ck w' ab b xb jb sv ov lv jo A P Ft:=h.aM (z.az (λ_ H=>h.bT H) λ_ _ h=>h) z.Am
def Ck.b7(h:Ck w ab b xb jb sv ov lv jo A P Ft)(hI:Ax w Ft w' (λw' z=>Bh w' b P' z)):Ax w Ft w' (λw' z=>Ck w' ab b xb jb sv ov lv jo A P' z):=by
 obtain⟨Y,z,h2,X,W⟩:=hI;have I:=Y.az (λ_ H=>h.bC H) h.Dg
 exact⟨Y,z,⟨(I ab (.inl rfl)).trans h.Ai,(I xb (.inr (.inl rfl))).trans h.ix,h.segs.aM λg O=>I g (.inr (.inr (.inl O))),h.AM.aM λg O=>I g (.inr (.inr (.inr (.inl O)))),
  h.jn.aM λk H=>I k (.inr (.inr (.inr (.inr H)))),h2,X,λk H hx=>(W k hx).elim (h.Dg k H) λh'=>by have:=h.bC H;omega,h.Fi,h.G7,h.FG⟩,X,W⟩
def Ck.bI{S:Nat->Prop}{I X:Nat}{H O lv' W:Value}{A':Ar}{z:Nat->Prop}(h':Ck w' ab b I X H O lv' W A' P' z)(hc:A5 S w w')(hS:∀k,k<w.heap.size->S k->FT k)(h1:∀k,z k->FT k\/w.heap.size<=k)(h2:∀k,Fe ab I X H O lv' W k->FT k\/w.heap.size<=k):
 Ax w FT w' (λw' Y=>AD w' ab b A' P' Y):=
 ⟨hc.ae hS,λk=>z k\/Fe ab I X H O lv' W k,⟨I,X,H,O,lv',W,z,h',λ_ h=>h⟩,λ_ hk=>h'.bT hk,λk hk=>hk.elim (h1 k) (h2 k)⟩
def Ck.cz(_h:Ck w ab b xb jb sv ov lv jo A P Ft)(z:∀k,Ft k\/Fe ab xb jb sv ov lv jo k->FT k)(W:Ax w Ft w' (λw' I=>Ck w' ab b xb jb sv ov lv jo A P' I)):Ax w FT w' (λw' O=>AD w' ab b A P' O):=by
 obtain⟨hc,I,X,h3,Y⟩:=W;exact X.bI hc (λk _ H=>z k (.inl H)) (λk H=>(Y k H).imp (λh=>z k (.inl h)) id) λk H=>.inl (z k (.inr H))
def AD.aM(h:AD w ab b A P FT)(O:G3 FT w w')(W:w.heap.size<=w'.heap.size):AD w' ab b A P FT:=by
 obtain⟨xb,jb,sv,ov,lv,jo,Ft,I,z⟩:=h;exact⟨xb,jb,sv,ov,lv,jo,Ft,I.aM (O.ae λk H=>z k H) W,z⟩
def AD.aJ(h:AD w ab b A P FT)(I:A5 Ab w w'):AD w' ab b A P FT:=by
 obtain⟨xb,jb,sv,ov,lv,jo,Ft,H,z⟩:=h;exact⟨xb,jb,sv,ov,lv,jo,Ft,H.aJ I,z⟩
end
def J6(w:World)(z b H:Nat)(x:Int×List Pu):Prop:=∃h,BZ w H 139 b (Aw x.1) (AB (Aw x.1)) x.1 h/\AZ w h x.2/\z<=H/\∀g,h.ownBlock=some g->z<=g
def Gr(h:List Nat):List Value:=h.map λg=>(A7 g)
def X2(h:List Nat):∀u∈Gr h,u.oneCell'=true:=by
 intro u hu;simp[Gr]at hu;obtain⟨x,_,rfl⟩:=hu;rfl
def Gh(w:World)(z b:Nat)(v:Value)(l:List (Int×List Pu)):Prop:=
 ∃h:List Nat,h.length=l.length/\w.ownsRow 0 136 1 v l.length (Gr h)/\(∀g,v.ownBlock=some g->z<=g)/\∀k (I:k<h.length) (H:k<l.length),J6 w z b (h[k]'I) (l[k]'H)
def J6.aJ{w w':World}{z b I:Nat}{x:Int×List Pu}(h:J6 w z b I x)(O:A5 Ab w w'):J6 w' z b I x:=by
 obtain⟨pv,X,H,Y,W⟩:=h;exact⟨pv,X.ak O (λh=>h),AA H λg hg=>O.Ao g (AG H hg) (λh=>h),Y,W⟩
def Gh.aJ{w w':World}{H b:Nat}{v:Value}{l:List (Int×List Pu)}(h:Gh w H b v l)(O:A5 Ab w w'):Gh w' H b v l:=by
 obtain⟨z,Y,I,h3,W⟩:=h;exact⟨z,Y,AA I λg hg=>O.Ao g (AG I hg) (λh=>h),h3,λk X q2=>(W k X q2).aJ O⟩
def Tryz.eK:(Tryz.prog.info? 136).map (λi=>(i.zero,i.size,i.bytes))=some (some (.pointer none),1,8):=by kernel_rfl
def Xe:∃z,Tryz.prog.info? 136=some z/\z.zero=some (.pointer none)/\z.size=1/\z.bytes=8:=by
 have h:=Tryz.eK;cases hx:Tryz.prog.info? 136 with
 | none=>rw[hx]at h;cases h
 | some i=>rw[hx]at h;simp at h;exact⟨i,rfl,h.1,h.2.1,h.2.2⟩
end
section
open Go.RowKit
attribute [local go_sem ↓] Cz
section
variable{w:World}{ab b xb jb B:Nat}{sv ov lv jo:Value}{A:Ar}{P:PD}{Ft:Nat->Prop}{a c m:Nat}
def X8(P:PD)(n:Int)(r:List Int):P.segs (n::r)=match P.BT n with
 | none=>none
 | some l=>(P.segs r).map λx=>(n,l):: x:=rfl
def QH(w:World)(I:List Int)(a0:Aa w ab 0 (A7 b))(a1:Aa w ab 1 (A7 xb))(x4:Aa w xb 4 sv)(a6:Dc w sv I)(aX:Bh w b P Ft)(aE:∀k,Ft k->k<w.heap.size)(hF:Fit P a c m)(hl:CN a c m)(hn:∀n∈I,Cv n)(hsl:I.length<=1073741824)(hL:Lets B w):
 Aj 50 #[A7 ab] w λe w'=>
  (P.segs I=none/\e=.returned (.tuple #[.slice none 0 0,A0 7])/\A5 Ab w w')\/
  ∃l v,P.segs I=some l/\e=.returned (.tuple #[v,A0 0])/\Gh w' w.heap.size b v l/\A5 Ab w w':=by
 obtain⟨i0,hi,a4,bA,a7⟩:=Xe;have aP:=A4 a6;obtain⟨sa,scap,rfl,sc1,a5⟩:=aP.o.BV;unfold maxLen at a5
 have bO:Hid (∀w1,A5 Ab w w1->∀n∈I,Aj 86 #[A7 b,A0 n] w1 λe w'=>
  (P.BT n=none/\e=.returned (.tuple #[.pointer none,A0 7])/\A5 Ab w1 w')\/
  ∃l z v,P.BT n=some l/\e=.returned (.tuple #[A7 z,A0 0])/\BZ w' z 139 b (Aw n) (AB (Aw n)) n v/\AZ w' v l/\(∀g,v.ownBlock=some g->w1.heap.size<=g)/\w1.heap.size<=z/\A5 Ab w1 w'):=
  λw1 hc n hm=>XX w1 (B5.az aX aE hc) (λk hk=>Bm (aE k hk) hc.Am) hF hl (hn n hm) (hL.aP hc)
 have bJ:=A4 (X8 P);obtain⟨X,hX⟩:∃X,P.segs I=X:=⟨_,rfl⟩;have bP:=A4 hX;rw[hX]
 go_enter func50,ntmps50
 go_wp2;go_loopw [4,17] (λv iv wr=>∃(l:List (Int×List Pu)),iv=A0 l.length/\l.length<=I.length/\Hid (Gh wr w.heap.size b v l/\A5 Ab w wr/\X=(P.segs (I.drop l.length)).map λr=>l++r)) (λ_ iv _=>I.length-(intOf iv).toNat)
 ·exact⟨[],rfl,C8 _,⟨[],rfl,CL _ _ _ _,λg O=>by simp[Value.ownBlock]at O,λk W=>by simp at W⟩,A5.C _ _,by rw[Gk,Dj,bP.o];cases X<;>simp⟩
 ·obtain⟨l,rfl,hk,hI⟩:=hrel;have⟨i1,i2,i3⟩:=hI.o;obtain⟨H,j1,j2,j3,j4⟩:=i1;obtain⟨ap,cp,rfl,hcap1,aK,-⟩:=Bb j2;unfold maxLen at aK;by_cases aD:l.length<I.length
  ·obtain⟨g,o,rfl,d1⟩:=Dc.at aP.o l.length aD;have aA:=BS aD;have aJ:=Fy aD;generalize aV:(I[l.length]'aD)=n at d1 aA aJ;have e1:=i2.an d1;have e0:=i2.an a0;have aI:=A4 (bO.o wr i2 n aA);rw[aJ,bJ.o]at i3;generalize hY:P.BT n=Y at aI i3;have aL:=A4 i2;have bE:=A4 i3;have bC:=A4 j1;have aU:=A4 j2;have bD:=A4 j3;have bL:=A4 j4;(have a2:(l.length:Int)<(I.length:Int):=by omega);have hk0:(0:Int)<=(l.length:Int):=Gn _;clear hI i2 i3 j1 j2 j3 j4 d1 aA aJ aV hY;cases Y with
   | none=>
    (have aG:X=none:=by rw[bE.o];rfl);subst aG;have aF:Hid (Aj 86 #[A7 b,A0 n] wr λe w'=>e=.returned (.tuple #[.pointer none,A0 7])/\A5 Ab wr w'):=by
     refine aI.o.mono ?_;rintro e w' (⟨_,h2,h3⟩|⟨l,z,v,W,_⟩)
     ·exact⟨h2,h3⟩
     ·cases W
    go_wp2_with (go_at_call 86;refine aF.k ?_;rintro w6 aB;have aZ:=A4 aB);go_ret2;exact⟨rfl,aL.o.tr aZ.o⟩
   | some pl=>
    have aF:Hid (Aj 86 #[A7 b,A0 n] wr λe w'=>∃z v,e=.returned (.tuple #[A7 z,A0 0])/\BZ w' z 139 b (Aw n) (AB (Aw n)) n v/\AZ w' v pl/\(∀g,v.ownBlock=some g->wr.heap.size<=g)/\wr.heap.size<=z/\A5 Ab wr w'):=by
     refine aI.o.mono ?_;rintro e w' (⟨W,_⟩|⟨l,z,v,W,h2⟩)
     ·cases W
     ·cases W;exact⟨z,v,h2⟩
    have bK:Hid (X=(P.segs (I.drop (l.length+1))).map λr=>(l++[(n,pl)])++r):=by
     unfold Hid;rw[bE.o];simp only[Option.map_map]
     congr 1
     funext r
     simp
    go_wp2_with (fail);refine aF.o.mono ?_;rintro e w6⟨z,v,rfl,q1,q2,q3,q4,aB⟩;have bM:=A4 q1;have bN:=A4 q2;have bF:=A4 q3;have bG:=A4 q4;have a3:=A4 aB;have aR:Hid ((w6.alloc (.cells #[A7 z] 136)).ownsRow 0 136 1 (.slice ap l.length cp) l.length (Gr H)):=AA aU.o λg O=>(aB.aj _).Ao g (AG aU.o O) (λh=>h)
    have aW:=A4 (Src.ba (size:=1) (B:=w6.heap.size) underlying113 w6 #[A7 z] 136 (by simp) 1 1 rfl (X2 [z]));go_wp2_with (at_builtin;refine De rfl (.tmp 33) (.tmp 35) 113 113 rfl 136 i0 _ 1 8 underlying113 hi a4 bA a7 rfl (by decide) (.slice ap l.length cp) l.length (Gr H) (by rfl) aR.o _ 1 _ (by rfl) aW.o (by omega) ?_;intro a8 cap8 w8 hA;have bH:=A4 hA);go_roundw
    ·have hA:=bH.o;have k7:A5 Ab w6 (w6.alloc (.cells #[A7 z] 136)):=(A5.C _ w6).aj _;have aM:=hA.An (S:=λk=>(Value.slice ap l.length cp).ownBlock=some k) λ_ h=>h;have aO:A5 Ab w w6:=aL.o.tr a3.o;(have a9:A5 Ab w w8:=(aO.tr k7).AJ aM λy hy aE=>by have:=bD.o y hy;omega);have aN:A5 (λk=>(Value.slice ap l.length cp).ownBlock=some k) w6 w8:=(k7.aZ).tr aM;have aS:∀(k:Nat) (c:Array Value) (e:Nat),w6.heap[k]?=some (Obj.cells c e (0,0))->e≠136->¬(Value.slice ap l.length cp).ownBlock=some k:=λk c e hk he hx=>by
      have⟨c',hc'⟩:=Bd (AA aU.o λg O=>a3.o.Ao g (AG aU.o O) (λh=>h)) hx;exact BP hc' hk (λh=>he h.symm) rfl
     have aQ:∀aH x,J6 w6 w.heap.size b aH x->J6 w8 w.heap.size b aH x:=λaH x hx=>by
      obtain⟨pv,W,h2,h3,h4⟩:=hx;refine⟨pv,W.ak aN (aS _ _ _ W (by decide)),AA h2 λg O=>?_,h3,h4⟩;have⟨c',hc'⟩:=Bd h2 O;exact aN.Ao g (AG h2 O) (aS _ _ _ hc' (by decide))
     refine⟨l++[(n,pl)],by simp,by simp;omega,⟨H++[z],by simp[bC.o],?_,?_,?_⟩,a9,by rw[show (l++[(n,pl)]).length=l.length+1 by simp];exact bK.o⟩
     ·(have e:(l++[(n,pl)]).length=l.length+1:=by simp);(have e2:Gr (H++[z])=Gr H++Gr [z]:=by simp[Gr]);rw[e,e2];exact hA.AP
     ·intro g O;rcases hA.Cu with h|h
      ·rw[h]at O;exact bD.o g O
      ·rw[h]at O;cases O;have:=aO.Am;have:=k7.Am;omega
     ·intro j W h2;have aY:=bC.o;by_cases hj:j<l.length
      ·rw[F9 (show j<H.length by omega),F9 hj];exact aQ _ _ ((bL.o j (by omega) hj).aJ a3.o)
      ·(have bB:j=l.length:=by simp at h2;omega);subst bB;(have e1:(H++[z])[l.length]'W=z:=by simp[<-aY]);(have e2:(l++[(n,pl)])[l.length]'h2=(n,pl):=by simp);rw[e1,e2];exact aQ _ _ ⟨v,bM.o,bN.o,AH aL.o.Am bG.o,λg O=>AH aL.o.Am (bF.o g O)⟩
    ·simp[intOf];omega
  ·(have aT:l.length=I.length:=by omega);have bI:Hid (Gh wr w.heap.size b (.slice ap l.length cp) l):=⟨H,j1,j2,j3,j4⟩;have aL:=A4 i2;(have aG:X=some l:=by rw[i3,aT,Gm];simp[PD.segs]);subst aG;(have a2:¬((l.length:Int)<(I.length:Int)):=by omega);clear i2 i3 hI j1 j2 j3 j4 aT;go_wp2;go_ret2;exact⟨_,rfl,bI.o,aL.o⟩
def X9(w:World)(h:Ck w ab b xb jb sv ov lv jo A P Ft)(W:Fit P a c m)(H:CN a c m)(O:∀n∈A.ix.segs,Cv n)(z:A.ix.segs.length<=1073741824)(I:Lets B w):
 Aj 50 #[A7 ab] w λe w'=>
  (P.segs A.ix.segs=none/\e=.returned (.tuple #[.slice none 0 0,A0 7])/\A5 Ab w w')\/
  ∃l v,P.segs A.ix.segs=some l/\e=.returned (.tuple #[v,A0 0])/\Gh w' w.heap.size b v l/\A5 Ab w w':=
 QH w A.ix.segs h.Ai.c0 h.Ai.c1 h.ix.c4 h.segs h.dk h.lt W H O z I
def RM(w:World)(aV:Nat)(v:Value)(l:List (Int×List Pu))(h:Gh w aV b v l)(hl:l.length<=1073741824)(hq:∀x∈l,x.2.length<=m)(hm:l.length*m<=4398046511104):
 Aj 53 #[v] w λe w'=>∃v',e=.returned v'/\AZ w' v' (l.flatMap (·.2))/\(∀g,v'.ownBlock=some g->w.heap.size<=g)/\A5 Ab w w':=by
 have⟨i0,hi,hz0,hz1,hz2⟩:=Eb Ig;obtain⟨O,j1,j2,j3,j4⟩:=h;obtain⟨va,vcap,rfl,vc1,aM,-⟩:=Bb j2;unfold maxLen at aM;have aW:=A4 j4;have aR:=A4 j2;have aT:=A4 hq;have aX:Hid (∀k,k<=l.length->k*m<=4398046511104):=λk hk=>AH (HM m hk) hm;clear j2 j3 j4 hq hm
 go_enter func53,ntmps53
 go_wp2;go_loopw [3,8] (λv iv wr=>∃(k:Nat) (z:List Pu),iv=A0 k/\k<=l.length/\z.length<=k*m/\Hid (AZ wr v z/\(∀g,v.ownBlock=some g->w.heap.size<=g)/\A5 Ab w wr/\z=(l.take k).flatMap (·.2))) (λ_ iv _=>l.length-(intOf iv).toNat)
 ·exact⟨0,[],rfl,by omega,by simp,CL _ _ _ _,λg W=>by simp[Value.ownBlock]at W,A5.C _ _,rfl⟩
 ·obtain⟨k,z,rfl,hk,aO,hI⟩:=hrel;have⟨i1,i2,i3,i4⟩:=hI.o;obtain⟨ap,cp,rfl,hcap1,aD,-⟩:=Bb i1;unfold maxLen at aD;by_cases H:k<l.length
  ·(have I:k<O.length:=by omega);have X:w.cell? ((Ad ((va.map (·.block)).getD 0) k):Addr)=some (A7 (O[k]'I))/\∃g,va=some (Ad g 0):=by
    obtain⟨a',c',e,-,-,hz,-⟩:=Bb aR.o;cases e;obtain⟨g,rfl⟩:=hz (by omega);exact⟨BB aR.o rfl (by simp[Gr,I]),g,rfl⟩
   obtain⟨aH,g,rfl⟩:=X;have Y:Aa w g k (A7 (O[k]'I)):=aH;obtain⟨pv,s1,s2,-,-⟩:=aW.o k I H;have aA:=aT.o _ (BS H);have aB:l.take (k+1)=l.take k++[l[k]'H]:=Dz H;obtain⟨gb,aG⟩:∃gb,(O[k]'I)=gb:=⟨_,rfl⟩;rw[aG]at Y s1;obtain⟨⟨n,pl⟩,hx⟩:∃x,(l[k]'H)=x:=⟨_,rfl⟩;rw[hx]at s1 s2 aB aA;dsimp only at s1 s2 aA;obtain⟨pa,pc,rfl,pc1,aQ,-⟩:=Bb s2;unfold maxLen at aQ;have d1:=i3.an Y;have d2:=(s1.ak i3 (λh=>h)).c4;have aN:=A4 i1;have aJ:=A4 i2;have aI:=A4 i3;(have aP:Hid (z++pl=(l.take (k+1)).flatMap (·.2)):=by unfold Hid;rw[aB,i4];simp);have aF:=A4 (Src.bM underlying72 (AA s2 λg W=>i3.Ao g (AG s2 W) (λh=>h)) (I6 pl));have aS:=A4 (aX.o (k+1) H);(have aL:(k:Int)<(l.length:Int):=by omega);have hk0:=Cd k;clear hI i1 i2 i3 i4 aH Y s1 s2 aB hx aG;have aE:Hid ((z.length+pl.length)*24<=140737488355328/\z.length+pl.length<=(k+1)*m):=by
    have:=aS.o;rw[MM]at this;unfold Hid;rw[MM];omega
   clear aO aA aS;go_wp2_with (at_builtin;refine De rfl (.tmp 12) (.tmp 16) 72 72 rfl 90 i0 _ 3 24 underlying72 hi hz0 hz1 hz2 rfl (by decide) (.slice ap z.length cp) z.length (Ba z) (by rfl) aN.o _ pl.length _ (by rfl) aF.o aE.o.1 ?_;intro a8 cap8 w8 hA;have aU:=A4 hA;clear hA);go_roundw
   ·have hA:=aU.o;have aK:=hA.An (S:=λk=>(Value.slice ap z.length cp).ownBlock=some k) λ_ h=>h;refine⟨k+1,z++pl,by go_num,by omega,by simp only[AX];exact aE.o.2,?_,?_,?_,aP.o⟩
    ·(have e:(z++pl).length=z.length+pl.length:=by simp);unfold AZ;rw[IJ,e];exact hA.AP
    ·intro g W;rcases hA.Cu with h|h
     ·rw[h]at W;exact aJ.o g W
     ·rw[h]at W;cases W;exact aI.o.Am
    ·exact aI.o.AJ aK λy hy hlt=>by have:=aJ.o y hy;omega
   ·simp[intOf];omega
  ·(obtain rfl:k=l.length:=by omega);rw[Cj]at i4;have aN:=A4 i1;have aJ:=A4 i2;have aI:=A4 i3;(have aL:¬((l.length:Int)<(l.length:Int)):=by omega);have aP:=A4 i4;clear i1 i2 i3 i4 hI;go_wp2;go_ret;exact⟨_,rfl,by rw[<-aP.o];exact aN.o,aJ.o,aI.o⟩
end
def A0A(w:World)(g p1 X:Nat)(aB aD:Int->World->Prop)(hb:w.heap[g]?=some (.cells #[.func (Fn.func 69) #[A7 p1] #[],.func (Fn.func 110) #[A7 X] #[]] 41 (0,0)))(h1:Aj 69 #[A7 p1] w λe w'=>∃n,e=.returned (A0 n)/\aB n w'/\w'.heap[g]?=w.heap[g]?)(h2:∀z,aB 0 z->z.heap[g]?=w.heap[g]?->Aj 110 #[A7 X] z λe w'=>∃n,e=.returned (A0 n)/\aD n w'):
 Aj 68 #[AN g 2 2] w λe w'=>∃n,e=.returned (A0 n)/\((n≠0/\aB n w')\/aD n w'):=by
 have c0:Aa w g 0 (.func (Fn.func 69) #[A7 p1] #[]):=by simp[Aa,World.cell?,hb]
 have aF:Hid (∀z:World,z.heap[g]?=w.heap[g]?->Aa z g 1 (.func (Fn.func 110) #[A7 X] #[])):=λz h=>by simp[Aa,World.cell?,h,hb]
 have aE:=A4 h1;have aG:=A4 h2
 go_enter func68,ntmps68
 go_wp2;refine IB 3 ?_;rw[G8];go_wp2_with (fail);refine aE.m ?_;rintro e z⟨n1,rfl,q1,k1⟩;have O:=A4 q1;have c1:=aF.o z k1;have Y:=A4 k1;by_cases H:n1=0
 case neg=>
  have hb1:(n1 !=0)=true:=by simpa using H
  go_wp2;go_ret;exact⟨n1,rfl,.inl ⟨H,O.o⟩⟩
 case pos=>
 subst H;have aA:=A4 (aG.o z O.o Y.o);go_wp2;rw[G8];go_wp2_with (fail);refine aA.m ?_;rintro e w2⟨n2,rfl,q2⟩;have I:=A4 q2;by_cases W:n2=0
 case neg=>
  have hb2:(n2 !=0)=true:=by simpa using W
  go_wp2;go_ret;exact⟨n2,rfl,.inr (I.o)⟩
 case pos=>
 subst W;go_wp2;rw[G8];go_wp2;go_ret;exact⟨0,rfl,.inr (I.o)⟩
def A0z(w:World)(g p1 X:Nat)(aB aD:Int->World->Prop)(hb:w.heap[g]?=some (.cells #[.func (Fn.func 110) #[A7 p1] #[],.func (Fn.func 71) #[A7 X] #[]] 41 (0,0)))(h1:Aj 110 #[A7 p1] w λe w'=>∃n,e=.returned (A0 n)/\aB n w'/\w'.heap[g]?=w.heap[g]?)(h2:∀z,aB 0 z->z.heap[g]?=w.heap[g]?->Aj 71 #[A7 X] z λe w'=>∃n,e=.returned (A0 n)/\aD n w'):
 Aj 68 #[AN g 2 2] w λe w'=>∃n,e=.returned (A0 n)/\((n≠0/\aB n w')\/aD n w'):=by
 have c0:Aa w g 0 (.func (Fn.func 110) #[A7 p1] #[]):=by simp[Aa,World.cell?,hb]
 have aF:Hid (∀z:World,z.heap[g]?=w.heap[g]?->Aa z g 1 (.func (Fn.func 71) #[A7 X] #[])):=λz h=>by simp[Aa,World.cell?,h,hb]
 have aE:=A4 h1;have aG:=A4 h2
 go_enter func68,ntmps68
 go_wp2;refine IB 3 ?_;rw[G8];go_wp2_with (fail);refine aE.m ?_;rintro e z⟨n1,rfl,q1,k1⟩;have O:=A4 q1;have c1:=aF.o z k1;have Y:=A4 k1;by_cases H:n1=0
 case neg=>
  have hb1:(n1 !=0)=true:=by simpa using H
  go_wp2;go_ret;exact⟨n1,rfl,.inl ⟨H,O.o⟩⟩
 case pos=>
 subst H;have aA:=A4 (aG.o z O.o Y.o);go_wp2;rw[G8];go_wp2_with (fail);refine aA.m ?_;rintro e w2⟨n2,rfl,q2⟩;have I:=A4 q2;by_cases W:n2=0
 case neg=>
  have hb2:(n2 !=0)=true:=by simpa using W
  go_wp2;go_ret;exact⟨n2,rfl,.inr (I.o)⟩
 case pos=>
 subst W;go_wp2;rw[G8];go_wp2;go_ret;exact⟨0,rfl,.inr (I.o)⟩
end
end Go.Proofs.YtodcnkbblippnabGreatDoor
