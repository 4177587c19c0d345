/- Part 35 of a proof: walks of the program. -/
import Derived.Test.YtodcnkbblippnabGreatDoorPart34
namespace Go.Proofs.YtodcnkbblippnabGreatDoor
set_option maxRecDepth 100000
set_option maxHeartbeats 32000000
set_option linter.defProp false
open Go.Proofs.Tryz
section
open Go.RowKit
attribute [local go_sem ↓] Cz
section
variable{w:World}{ab b xb jb B:Nat}{sv ov lv jo:Value}{A:Ar}{P:PD}{Ft FT:Nat->Prop}{a c m:Nat}
def A05(h:Bh w b P Ft)(nm:Bs)(I:Fit P a c m)(H:CN a c m):
 Aj 158 #[A7 b,.string ⟨nm.toArray⟩] w (Au (A0 (P.aG (A9 nm)).1) λw'=>Ax w Ft w' (λw' z=>Bh w' b (P.aG (A9 nm)).2 z)):=
 XL h (A9 nm) (by have:=I.A6;have:=I.An;have:=H.a;have:=H.c;omega)
def removeAll_cons(nm:Bs)(r:List Bs)(P:PD):PD.aL (nm::r) P=if (P.aG (A9 nm)).1≠0 then P.aG (A9 nm) else PD.aL r (P.aG (A9 nm)).2:=rfl
def RV(A:Ar)(P:PD)(h:Fit P a c m):(A.aV P).length<=a:=by
 unfold Ar.aV;exact AH (MR _ _) (by rw[GL];exact h.A6)
def Qp(w:World)(h:AD w ab b A P FT)(hF:Fit P a c m)(hl:CN a (c+a) m)(hn:∀n∈A.ix.segs,Cv n)(aY:∀n∈A.j.Al,Cv n)(aT:A.ix.segs.length<=1073741824)(aW:A.j.Al.length<=1073741824)(hL:Lets B w):
 Aj 110 #[A7 ab] w (Au (A0 (A.aw P).1) λw'=>Ax w FT w' (λw' aS=>AD w' ab b A (A.aw P).2 aS)):=by
 obtain⟨xb,jb,sv,ov,lv,jo,Ft,hV,aJ⟩:=h;have a6:=A4 (RO w hV hF ⟨hl.a,by have:=hl.c;omega,hl.m⟩ hn aY aT aW hL);have hol:=RV A P hF;have a2:=A4 hV;have O:=A4 aJ;have a3:Hid (A.aw P=PD.aL (A.aV P) P):=rfl;have a4:=A4 removeAll_cons;generalize hR:A.aw P=R at a3 ⊢;have a0:=A4 hF;have aF:=A4 hl;generalize A.aV P=os at *
 go_enter func110,ntmps110
 go_wp2_with (fail);refine a6.m ?_;rintro e w1⟨v1,v2,rfl,-,h2,-,aV,aL⟩;obtain⟨oa,ocap,rfl,oc1,a1⟩:=(Dq.rd h2).BV;unfold maxLen at a1;have aU:=A4 (Dq.rd h2);have aZ:=A4 aV;have aH:=A4 aL;have H:=A4 (a2.o.aJ aL);go_wp2;go_loopw [15] (λiv wr=>∃(k:Nat),iv=A0 k/\k<=os.length/\Hid (∃I,Ax w1 Ft wr (λw' z=>Ck w' ab b xb jb sv ov lv jo A I z)/\Fit I a (c+k) m/\R=PD.aL (os.drop k) I)) (λiv _=>os.length-(intOf iv).toNat)
 ·exact⟨0,rfl,by omega,P,⟨A5.C _ _,Ft,H.o,H.o.lt,λk hk=>.inl hk⟩,a0.o,a3.o⟩
 ·obtain⟨k,rfl,hk,hI⟩:=hrel;have⟨I,hi,hf,hx⟩:=hI.o;obtain⟨c1,aI,hv,aP,s1⟩:=hi;by_cases aD:k<os.length
  ·obtain⟨g,o,rfl,d0⟩:=GB.at aU.o k aD;have d1:=c1.bB d0 (λh=>by have:=a2.o.lt _ h;have:=aZ.o g rfl;have h':g<w.heap.size:=a2.o.lt _ h;omega);have aK:=Fy aD;generalize hne:(os[k]'aD)=nm at d0 d1 aK;rw[aK,a4.o]at hx;have e0:=hv.Ai.c0;have aO:CN a (c+k) m:=⟨aF.o.a,by have:=aF.o.c;omega,aF.o.m⟩;have aM:=A4 (A05 hv.dk nm hf aO);(have aG:Hid (Fit (I.aG (A9 nm)).2 a (c+(k+1)) m):=by have:=hf.aG (A9 nm);exact this);generalize hY:I.aG (A9 nm)=Y at aM hx aG;have aB:Hid (∀w6,Ax wr aI w6 (λw' z=>Bh w' b Y.2 z)->Ax w1 Ft w6 (λw' z=>Ck w' ab b xb jb sv ov lv jo A Y.2 z)):=λw6 h6=>Ax.a8 c1 s1 (hv.b7 h6);have aE:=A4 hx;(have aQ:(k:Int)<(os.length:Int):=by omega);have hk0:=Cd k;obtain⟨aN,aR⟩:=Y;dsimp only at aM aB aE aG;by_cases hy:aN=0
   case neg=>
    (have W:R=(aN,aR):=by rw[aE.o,Ah hy]);subst W;(have hyb:(aN !=0)=true:=by simpa using hy);go_wp2_with (go_at_call 158;refine aM.k ?_;rintro w6 aA;have X:=A4 (aB.o w6 aA));go_ret;exact⟨rfl,(H.o.cz O.o X.o).a7 aH.o⟩
   case pos=>
    subst hy;(have aX:Hid (R=PD.aL (os.drop (k+1)) aR):=by unfold Hid;rw[aE.o,Ae (by simp)]);go_wp2_with (go_at_call 158;refine aM.k ?_;rintro w6 aA;have X:=A4 (aB.o w6 aA));go_roundw
    ·exact⟨k+1,by go_num,by omega,aR,X.o,aG.o,aX.o⟩
    ·simp[intOf];omega
  ·(obtain rfl:k=os.length:=by omega);rw[Gm]at hx;have W:R=(0,I):=hx;subst W;(have aQ:¬((os.length:Int)<(os.length:Int)):=by omega);have a5:Hid (Ax w1 Ft wr (λw' z=>Ck w' ab b xb jb sv ov lv jo A I z)):=⟨c1,aI,hv,aP,s1⟩;go_wp2;go_ret;exact⟨rfl,(H.o.cz O.o a5.o).a7 aH.o⟩
def ZX{nm:Bs}{s:Nat}{f0:Int}{z:List Int}(w:World)(h:BZ w xb 122 b nm s f0 sv)(X:Dc w sv z)(I:Value)(l:List Int)(W:Dc w I l)(first:Int):
 Aj 163 #[A7 xb,A0 first,I] w (Au (.bool (decide (f0=first/\z=l))) λw'=>∃q,w'=w.drewN q):=by
 have c3:=h.c3;have c4:=h.c4;have O:=A4 (A0X w sv I z l X W);obtain⟨ka,kcap,rfl,k1,k2⟩:=W.BV;obtain⟨sa,scap,rfl,s1,s2⟩:=X.BV;by_cases H:f0=first
 ·subst H;have e:decide (f0=f0/\z=l)=decide (z=l):=by simp
  rw[e];generalize hd:decide (z=l)=d at O ⊢
  go_enter func163,ntmps163
  go_wp2_with (go_at_call 203;refine O.k ?_;rintro w2⟨q,rfl⟩);go_ret;exact⟨rfl,q,rfl⟩
 ·have e:decide (f0=first/\z=l)=false:=Dw λh=>H h.1;rw[e];have hb:(f0==first)=false:=by simpa using H
  go_enter func163,ntmps163
  go_wp2;go_ret;exact⟨rfl,0,rfl⟩
def Ck.eo{w':World}{P':PD}{f':Int}{I:Value}{H:List Int}(h:Ck w ab b xb jb sv ov lv jo A P Ft)(hx:BZ w' xb 122 b AF (AB AF) f' I)(hr:Dc w' I H)(hI:Je w Ft xb w' b P')(X:∀g,I.ownBlock=some g->sv.ownBlock=some g\/(g<w.heap.size/\¬Ft g/\¬Fe ab xb jb sv ov lv jo g)):
 ∃W,Ck w' ab b xb jb I ov lv jo {A with ix:=⟨f',H⟩} P' W/\A5 (λk=>Ft k\/k=xb) w w'/\∀k,W k->Ft k\/w.heap.size<=k:=by
 obtain⟨hc,W,h2,h3,h4⟩:=hI;have key:∀k,Fe ab xb jb sv ov lv jo k->k≠xb->w'.heap[k]?=w.heap[k]?:=λk z aA=>hc.Ao k (h.bC z) λhx=>hx.elim (h.Dg k z) aA;have sS:∀g,I.ownBlock=some g->g≠ab/\g≠xb/\¬Dk jb lv jo g:=λg O=>by
  rcases X g O with O|⟨_,_,O⟩
  ·exact h.Fi g O
  ·exact⟨λe=>O (.inl e),λe=>O (.inr (.inl e)),λe=>O (.inr (.inr (.inr (.inr e))))⟩
 refine⟨W,⟨(key ab (.inl rfl) h.ne).trans h.Ai,hx,hr,h.AM.aM λg O=>key g (.inr (.inr (.inr (.inl O)))) (h.G7 g O).2.1,h.jn.aM λk z=>key k (.inr (.inr (.inr (.inr z)))) (h.FG k z).2,h2,h3,?_,sS,h.G7,h.FG⟩,hc,h4⟩;intro k z hx;rcases h4 k hx with Y|Y
 ·rcases z with z|z|z|z|z
  ·exact h.Dg k (.inl z) Y
  ·exact h.Dg k (.inr (.inl z)) Y
  ·rcases X k z with z|⟨_,z,_⟩
   ·exact h.Dg k (.inr (.inr (.inl z))) Y
   ·exact z Y
  ·exact h.Dg k (.inr (.inr (.inr (.inl z)))) Y
  ·exact h.Dg k (.inr (.inr (.inr (.inr z)))) Y
 ·have:k<w.heap.size:=by
   rcases z with z|z|z|z|z
   ·exact h.bC (.inl z)
   ·exact h.bC (.inr (.inl z))
   ·rcases X k z with z|⟨z,_⟩
    ·exact h.bC (.inr (.inr (.inl z)))
    ·exact z
   ·exact h.bC (.inr (.inr (.inr (.inl z))))
   ·exact h.bC (.inr (.inr (.inr (.inr z))))
  omega
def Ck.fw{w':World}{lv' W:Value}{aA:Jn}(h:Ck w ab b xb jb sv ov lv jo A P Ft)(hj:DE w' jb b lv' W aA)(hc:A5 (One jb) w w')(X:lv'.ownBlock=none)(Y:W=.pointer none):Ck w' ab b xb jb sv ov lv' W {A with j:=aA} P Ft:=by
 have key:∀k,k≠jb->k<w.heap.size->w'.heap[k]?=w.heap[k]?:=λk z hl=>hc.Ao k hl z;have I:∀k,Dk jb lv' W k->k=jb:=λk z=>by
  rcases z with h|h|h
  ·exact h
  ·rw[X]at h;cases h
  ·rw[Y]at h;cases h
 have O:Dk jb lv jo jb:=.inl rfl
 refine⟨(key ab (λe=>(h.FG jb O).1 e.symm) h.Ai.lt).trans h.Ai,(key xb (λe=>(h.FG jb O).2 e.symm) h.ix.lt).trans h.ix,h.segs.aM λg H=>key g (λe=>(h.Fi g H).2.2 (e ▸ O)) (h.segs.lt H),h.AM.aM λg H=>key g (λe=>(h.G7 g H).2.2 (e ▸ O)) (h.AM.lt H),hj,
  B5.aM h.dk λk z=>key k (λe=>by subst e;exact h.Dg _ (.inr (.inr (.inr (.inr O)))) z) (h.lt k z),λk z=>Bm (h.lt k z) hc.Am,?_,λg H=>?_,λg H=>?_,λk z=>?_⟩
 ·intro k z;rcases z with z|z|z|z|z
  ·exact h.Dg k (.inl z)
  ·exact h.Dg k (.inr (.inl z))
  ·exact h.Dg k (.inr (.inr (.inl z)))
  ·exact h.Dg k (.inr (.inr (.inr (.inl z))))
  ·rw[I k z];exact h.Dg jb (.inr (.inr (.inr (.inr O))))
 ·exact⟨(h.Fi g H).1,(h.Fi g H).2.1,λhx=>(h.Fi g H).2.2 (by rw[I g hx];exact O)⟩
 ·exact⟨(h.G7 g H).1,(h.G7 g H).2.1,λhx=>(h.G7 g H).2.2 (by rw[I g hx];exact O)⟩
 ·rw[I k z];exact h.FG jb O
def A2b(w:World)(h:AD w ab b A P FT)(kv:Value)(l:List Int)(I:Dc w kv l)(aZ:∀g,kv.ownBlock=some g->¬FT g)(hr:AY (A.j.A8+1))(aT:∀x∈l,AY x)(aU:l.length<=134217728)(hF:Fit P a c m)(hl:CN (a+2) (c+2) (m+12+8*l.length))(hL:Lets B w):
 Aj 112 #[A7 ab,kv] w (Au (A0 (A.ai P l).1) λw'=>Ax w (λk=>FT k\/kv.ownBlock=some k) w' (λw' aS=>AD w' ab b (A.ai P l).2.1 (A.ai P l).2.2 aS)):=by
 obtain⟨xb,jb,sv,ov,lv,jo,Ft,Y,aN⟩:=h
 have aM:Hid (A.ai P l=if A.ix.AW=A.j.A8+1/\A.ix.segs=l then (0,A,P) else
  if (P.ai (A.j.A8+1) l).1≠0 then ((P.ai (A.j.A8+1) l).1,A,(P.ai (A.j.A8+1) l).2) else
  (0,{A with ix:=⟨A.j.A8+1,l⟩,j:=⟨[],A.j.A8,0,none⟩},(P.ai (A.j.A8+1) l).2)):=rfl
 have aX:Hid (∀w1,A5 Ab w w1->_):=λw1 hc=>Sp w1 (Y.jn.aJ hc) hr;have aK:Hid (∀w1,A5 Ab w w1->_):=λw1 hc=>ZX w1 (Y.ix.ak hc (λh=>h)) (Y.segs.An hc (λ_ _ h=>h)) kv l (I.An hc (λ_ _ h=>h)) (A.j.A8+1);have aR:Hid (∀w1,A5 Ab w w1->_):=λw1 hc=>VK w1 (A.j.A8+1) A.ix.AW kv sv l (Y.ix.ak hc (λh=>h)) (B5.az Y.dk Y.lt hc) (λk I=>Bm (Y.lt k I) hc.Am) (Y.Dg xb (.inr (.inl rfl))) hF hl (hL.aP hc) (I.An hc (λ_ _ h=>h)) hr aT aU;obtain⟨ka,O,rfl,k1,k2⟩:=I.BV;have a1:=A4 Y;have z:=A4 aN;have a2:=A4 I;have aL:=A4 aZ;generalize hR:A.ai P l=R at aM ⊢;generalize hT:P.ai (A.j.A8+1) l=T at aM aR;generalize hLL:A.j.A8+1=L at aM aX aK aR;have HB:=A4 Y.Ai;have d1:=Y.Ai.ad.c1;have d2:=Y.Ai.ad.c2;have aO:=A4 (aX.o w.drew (A5.C _ w).ad);by_cases H:A.ix.AW=L/\A.ix.segs=l
 case pos=>
  have aB:R=(0,A,P):=by rw[aM.o,Ah H]
  subst aB;rw[CJ H]at aK;have aG:=A4 (aK.o w.drew (A5.C _ w).ad)
  go_enter func112,ntmps112
  go_wp2;refine Ce (λw'=>Aa w' ab 1 (A7 xb)/\Aa w' ab 2 (A7 jb)) 10
   (BD [0,1,2,3,4,5,6,7,9,8] [8]) ⟨d1,d2⟩ ?_
  iterate 9 refine Bq ?_
  refine By λK hK=>?_;go_simp;refine aO.k ?_;rintro w3 rfl;refine hK _ _ ⟨d1,d2⟩ (λhS=>?_);refine Cc ?_;go_wp2_with (go_at_call 163;refine aG.k ?_;rintro w4⟨q,rfl⟩);go_ret;have kq:=(A5.C Ab w).bb (1+q);exact⟨rfl,Ck.bI (FT:=λk=>FT k\/(Value.slice ka l.length O).oB k) (a1.o.aJ kq) kq (λ_ _ h=>h.elim) (λk I=>.inl (.inl (z.o k (.inl I)))) λk I=>.inl (.inl (z.o k (.inr I)))⟩
 case neg=>
  rw[Dw H]at aK;have aG:=A4 (aK.o w.drew (A5.C _ w).ad);have aI:Hid (R=if T.1≠0 then (T.1,A,T.2) else (0,{A with ix:=⟨L,l⟩,j:=⟨[],A.j.A8,0,none⟩},T.2)):=by unfold Hid;rw[aM.o,Ae H]
  go_enter func112,ntmps112
  go_wp2;refine Ce (λw'=>Aa w' ab 1 (A7 xb)/\Aa w' ab 2 (A7 jb)) 10
   (BD [0,1,2,3,4,5,6,7,9,8] [8]) ⟨d1,d2⟩ ?_
  iterate 9 refine Bq ?_
  refine By λK hK=>?_;go_simp;refine aO.k ?_;rintro w3 rfl;refine hK _ _ ⟨d1,d2⟩ (λhS=>?_);refine Cc ?_;go_wp2_with (fail);refine aG.k ?_;rintro w4⟨q,rfl⟩;have k4:A5 Ab w (w.drewN (1+q)):=(A5.C Ab w).bb (1+q);have a3:=a1.o.aJ k4;have x1:=a3.Ai.ad.c1;have x2:=a3.Ai.ad.c2;have aA:=A4 (a1.o.aJ k4.ad);have aH:=A4 k4.ad;have aD:=A4 (aR.o _ k4.ad);have aF:=A4 (aX.o _ k4.ad);go_wp2;generalize w.drewN (1+q)=w4 at aA aH aD aF x1 x2 ⊢;obtain⟨aY,a4⟩:=T;dsimp only at aD aI;have aE:Hid (ab≠xb/\¬Ft ab):=⟨aA.o.ne,aA.o.Dg ab (.inl rfl)⟩;by_cases ht:aY=0
  case neg=>
   (have aB:R=(aY,A,a4):=by rw[aI.o,Ah ht]);subst aB;(have htb:(aY !=0)=true:=by simpa using ht);refine Ce (λw'=>Aa w' ab 1 (A7 xb)/\Aa w' ab 2 (A7 jb)) 11
    (BD [0,1,2,3,4,5,6,7,9,8,10] [8,10]) ⟨x1,x2⟩ ?_
   iterate 9 refine Bq ?_
   refine By λK hK=>?_;go_simp;refine aF.k ?_;rintro w3 rfl;refine hK _ _ ⟨x1,x2⟩ (λhS=>?_);refine By λK hK=>?_;go_simp;refine aD.k ?_;rintro w6⟨hx,hI⟩;have b6:D8 w6 ab b xb jb A.A8 ov:=aA.o.Ai.ak hI.1 λh=>h.elim aE.o.2 aE.o.1;refine hK _ _ ⟨b6.c1,b6.c2⟩ (λhS=>?_);rw[Ae ht,Ae ht]at hx;have aP:=A4 (aA.o.eo hx (aA.o.segs.aM λg W=>hI.1.Ao g (aA.o.segs.lt W) λh=>h.elim (aA.o.Dg g (.inr (.inr (.inl W)))) (aA.o.Fi g W).2.1) hI λg W=>.inl W);refine Cc ?_;go_wp2;go_ret;have⟨Ft',h1,h2,h3⟩:=aP.o;have aW:A5 (λk=>Ft k\/k=xb) w w6:=(aH.o.aZ (S:=λk=>Ft k\/k=xb)).tr h2;refine⟨rfl,Ck.bI (FT:=λk=>FT k\/(Value.slice ka l.length O).oB k) h1 aW ?_ ?_ ?_⟩
   ·rintro k _ (h|rfl)
    ·exact .inl (z.o k (.inl h))
    ·exact .inl (z.o _ (.inr (.inr (.inl rfl))))
   ·exact λk I=>(h3 k I).imp (λh=>.inl (z.o k (.inl h))) λh=>AH aH.o.Am h
   ·exact λk I=>.inl (.inl (z.o k (.inr I)))
  case pos=>
   subst ht;(have aB:R=(0,{A with ix:=⟨L,l⟩,j:=⟨[],A.j.A8,0,none⟩},a4):=by rw[aI.o,Ae (by simp)]);subst aB;have X:Hid (∀g,(Value.slice ka l.length O).oB g->g<w4.drew.heap.size/\¬Ft g/\¬Fe ab xb jb sv ov lv jo g):=λg W=>⟨Bm (a2.o.lt W) aH.o.Am,λh=>aL.o g W (z.o g (.inl h)),λh=>aL.o g W (z.o g (.inr h))⟩
   refine Ce (λw'=>Aa w' ab 1 (A7 xb)/\Aa w' ab 2 (A7 jb)) 11
    (BD [0,1,2,3,4,5,6,7,9,8,10] [8,10]) ⟨x1,x2⟩ ?_
   iterate 9 refine Bq ?_
   refine By λK hK=>?_;go_simp;refine aF.k ?_;rintro w3 rfl;refine hK _ _ ⟨x1,x2⟩ (λhS=>?_);refine By λK hK=>?_;go_simp;refine aD.k ?_;rintro w6⟨hx,hI⟩;have b6:D8 w6 ab b xb jb A.A8 ov:=aA.o.Ai.ak hI.1 λh=>h.elim aE.o.2 aE.o.1;refine hK _ _ ⟨b6.c1,b6.c2⟩ (λhS=>?_);rw[Ah rfl,Ah rfl]at hx;have aV:Dc w6 (.slice ka l.length O) l:=(a2.o.An aH.o (λ_ _ h=>h)).aM λg W=>hI.1.Ao g (X.o g W).1 λh=>h.elim (X.o g W).2.1 λe=>(X.o g W).2.2 (.inr (.inl e))
   have aP:=A4 (aA.o.eo hx aV hI λg W=>.inr (X.o g W));have d2:=b6.c2;refine Cc ?_;have⟨Ft',h1,h2,h3⟩:=aP.o;have a8:=A4 (Zr w6 h1.jn);have a7:=A4 h1;have a6:Hid (A5 (λk=>Ft k\/k=xb) w w6):=(aH.o.aZ (S:=λk=>Ft k\/k=xb)).tr h2;have a5:Hid (∀k,Ft' k->Ft k\/w.heap.size<=k):=λk I=>(h3 k I).imp id λh=>AH aH.o.Am h
   go_wp2_with (go_at_call 166;refine a8.k ?_;rintro w7⟨hj,aQ⟩;have a9:=A4 hj;have aJ:=A4 aQ);go_ret;have a0:=a7.o.fw a9.o aJ.o (by simp[Value.ownBlock]) rfl;refine⟨rfl,Ck.bI (FT:=λk=>FT k\/(Value.slice ka l.length O).oB k) (S:=λk=>(Ft k\/k=xb)\/k=jb) a0 ((a6.o.ae λ_ _ h=>.inl h).AJ aJ.o λ_ h _=>.inr h) ?_ ?_ ?_⟩
   ·rintro k _ ((h|rfl)|rfl)
    ·exact .inl (z.o k (.inl h))
    ·exact .inl (z.o _ (.inr (.inr (.inl rfl))))
    ·exact .inl (z.o _ (.inr (.inr (.inr (.inr (.inr (.inl rfl)))))))
   ·exact λk I=>(a5.o k I).imp (λh=>.inl (z.o k (.inl h))) id
   ·rintro k (h|h|h|h|h)
    ·exact .inl (.inl (z.o k (.inr (.inl h))))
    ·exact .inl (.inl (z.o k (.inr (.inr (.inl h)))))
    ·exact .inl (.inr h)
    ·exact .inl (.inl (z.o k (.inr (.inr (.inr (.inr (.inl h)))))))
    ·rcases h with h|h|h
     ·exact .inl (.inl (z.o k (.inr (.inr (.inr (.inr (.inr (.inl h))))))))
     ·simp[Value.ownBlock]at h
     ·cases h
end
def Fit.av{a c m:Nat}:∀(l:List Bs) (P:PD),Fit P a c m->Fit (PD.av l P).2 a c m
 | [],P,h=>h
 | nm::r,P,h=>by
  rw[Qm];split
  ·exact h.aq _
  ·exact Fit.av r _ (h.aq _)
def Fit.aa{A:Ar}{P:PD}{a c m:Nat}(h:Fit P a c m):Fit (A.aa P).2.2 a c m:=by
 unfold Ar.aa;split
 ·exact h.av _ _
 ·exact h.av _ _
def Fit.aL{a m:Nat}:∀(l:List Bs) (P:PD) (c:Nat),Fit P a c m->Fit (PD.aL l P).2 a (c+l.length) m
 | [],P,c,h=>h
 | nm::r,P,c,h=>by
  rw[removeAll_cons];split
  ·exact(h.aG _).ae (Aq _) (by simp) (Aq _)
  ·exact(Fit.aL r _ _ (h.aG _)).ae (Aq _) (by simp;omega) (Aq _)
def Fit.aw{A:Ar}{P:PD}{a c m:Nat}(h:Fit P a c m):Fit (A.aw P).2 a (c+a) m:=by
 have z:=Fit.aL (A.aV P) P c h;have h2:=RV A P h;exact z.ae (Aq _) (by omega) (Aq _)
def LF(A:Ar)(P:PD):(A.aa P).2.1.ix=A.ix/\(A.aa P).2.1.j=A.j/\(A.aa P).2.1.A8=A.A8:=by
 unfold Ar.aa;split<;>exact⟨rfl,rfl,rfl⟩
def Ar.aK(A:Ar)(P:PD):Int×Ar×PD:=
 if (A.aa P).1≠0 then A.aa P else (((A.aa P).2.1.aw (A.aa P).2.2).1,(A.aa P).2.1,((A.aa P).2.1.aw (A.aa P).2.2).2)
def Yn(A:Ar)(P:PD):(A.aK P).2.1.ix=A.ix/\(A.aK P).2.1.j=A.j/\(A.aK P).2.1.A8=A.A8:=by
 unfold Ar.aK;split<;>exact LF A P
def Fit.aK{A:Ar}{P:PD}{a c m:Nat}(h:Fit P a c m):Fit (A.aK P).2.2 a (c+a) m:=by
 unfold Ar.aK;split
 ·exact h.aa.ae (Aq _) (by omega) (Aq _)
 ·exact h.aa.aw
def Nu(A:Ar)(P:PD)(kept:List Int)(fresh:List (List Pu)):A.ay P kept fresh=if (A.aK P).1≠0 then A.aK P else
 if (PD.ah fresh (A.aK P).2.1.A8 kept (A.aK P).2.2).1≠0 then ((PD.ah fresh (A.aK P).2.1.A8 kept (A.aK P).2.2).1,{ (A.aK P).2.1 with A8:=(PD.ah fresh (A.aK P).2.1.A8 kept (A.aK P).2.2).2.1},(PD.ah fresh (A.aK P).2.1.A8 kept (A.aK P).2.2).2.2.2) else
 if (({ (A.aK P).2.1 with A8:=(PD.ah fresh (A.aK P).2.1.A8 kept (A.aK P).2.2).2.1}:Ar).ai (PD.ah fresh (A.aK P).2.1.A8 kept (A.aK P).2.2).2.2.2 (PD.ah fresh (A.aK P).2.1.A8 kept (A.aK P).2.2).2.2.1).1≠0 then
  ({ (A.aK P).2.1 with A8:=(PD.ah fresh (A.aK P).2.1.A8 kept (A.aK P).2.2).2.1}:Ar).ai (PD.ah fresh (A.aK P).2.1.A8 kept (A.aK P).2.2).2.2.2 (PD.ah fresh (A.aK P).2.1.A8 kept (A.aK P).2.2).2.2.1
 else (({ (A.aK P).2.1 with A8:=(PD.ah fresh (A.aK P).2.1.A8 kept (A.aK P).2.2).2.1}:Ar).ai (PD.ah fresh (A.aK P).2.1.A8 kept (A.aK P).2.2).2.2.2 (PD.ah fresh (A.aK P).2.1.A8 kept (A.aK P).2.2).2.2.1).2.1.a6
  (({ (A.aK P).2.1 with A8:=(PD.ah fresh (A.aK P).2.1.A8 kept (A.aK P).2.2).2.1}:Ar).ai (PD.ah fresh (A.aK P).2.1.A8 kept (A.aK P).2.2).2.2.2 (PD.ah fresh (A.aK P).2.1.A8 kept (A.aK P).2.2).2.2.1).2.2:=by
 unfold Ar.ay Ar.aK;dsimp only
 by_cases h:(A.aa P).1=0
 ·by_cases z:((A.aa P).2.1.aw (A.aa P).2.2).1=0
  ·simp only[h,z,JC,not_true,C4]
  ·simp only[h,z,JC,not_true,NY,C4,Cn]
 ·simp only[h,JC,NY,Cn]
section
variable{w w':World}{ab b xb jb B:Nat}{sv ov lv jo:Value}{A:Ar}{P:PD}{Ft FT:Nat->Prop}{a c m:Nat}
def AD.bF(h:AD w ab b A P FT):Aa w ab 0 (A7 b)/\Aa w ab 3 (A0 A.A8)/\w.frozen? (Ad ab 3)=false/\ab<w.heap.size/\FT ab:=by
 obtain⟨xb,jb,sv,ov,lv,jo,Ft,z,H⟩:=h;exact⟨z.Ai.c0,z.Ai.c3,z.Ai.fz 3,z.Ai.lt,H ab (.inr (.inl rfl))⟩
def AD.fJ(h:AD w ab b A P FT)(x:Int):AD (w.setCell ⟨ab,3,none⟩ (.int .i64 x)) ab b {A with A8:=x} P FT:=by
 obtain⟨xb,jb,sv,ov,lv,jo,Ft,z,X⟩:=h;have W:A5 (One ab) w (w.setCell ⟨ab,3,none⟩ (.int .i64 x)):=(A5.C (One ab) w).ao (b:=ab) rfl 3 _;have O:∀k,k≠ab->k<w.heap.size->(w.setCell ⟨ab,3,none⟩ (.int .i64 x)).heap[k]?=w.heap[k]?:=λk H Y=>W.Ao k Y H
 exact⟨xb,jb,sv,ov,lv,jo,Ft,⟨z.Ai.s3 x,(O xb z.ne.symm z.ix.lt).trans z.ix,z.segs.aM λg I=>O g (z.Fi g I).1 (z.segs.lt I),z.AM.aM λg I=>O g (z.G7 g I).1 (z.AM.lt I),z.jn.aM λk H=>O k (z.FG k H).1 (z.jn.lt H),
  B5.aM z.dk λk H=>O k (λe=>by subst e;exact z.Dg _ (.inl rfl) H) (z.lt k H),λk H=>Bm (z.lt k H) W.Am,z.Dg,z.Fi,z.G7,z.FG⟩,X⟩
def A03(h:Bh w b P Ft):
 Aj 71 #[A7 b] w (Au (A0 P.aN.1) λw'=>Ax w Ft w' (λw' z=>Bh w' b P.aN.2 z)):=VU h
def A2D(h:AD w ab b A P FT):
 Aj 71 #[A7 b] w (Au (A0 P.aN.1) λw'=>Ax w FT w' (λw' H=>AD w' ab b A P.aN.2 H)):=by
 obtain⟨xb,jb,sv,ov,lv,jo,Ft,z,I⟩:=h;refine(A03 z.dk).mono ?_;rintro e w'⟨W,O⟩;exact⟨W,z.cz I (z.b7 O)⟩
def Yo(w:World)(g:Nat)(h:AD w ab b A P FT)(_hlt:∀k,FT k->k<w.heap.size)(hg:¬FT g)(aB:g<w.heap.size)(hb:w.heap[g]?=some (.cells #[.func (Fn.func 69) #[.pointer (some ⟨ab,0,none⟩)] #[],.func (Fn.func 110) #[.pointer (some ⟨ab,0,none⟩)] #[]] 41 (0,0)))(hF:Fit P a c m)(hl:CN a (c+a) m)(hn:∀n∈A.ix.segs,Cv n)(Y:∀n∈A.j.Al,Cv n)(X:A.ix.segs.length<=1073741824)(W:A.j.Al.length<=1073741824)(hL:Lets B w)(aA:∀k,FT k->B<=k):
 Calls Tryz.prog 68 #[.slice (some ⟨g,0,none⟩) 2 2] w λe w'=>e=.returned (.int .i64 (A.aK P).1)/\Ax w FT w' (λw' z=>AD w' ab b (A.aK P).2.1 (A.aK P).2.2 z):=by
 have⟨s1,s2,s3⟩:=LF A P;refine(A0A w g ab ab (λn w'=>n=(A.aa P).1/\Ax w FT w' (λw' z=>AD w' ab b (A.aa P).2.1 (A.aa P).2.2 z)) (λn w'=>(A.aa P).1=0/\n=((A.aa P).2.1.aw (A.aa P).2.2).1/\Ax w FT w' (λw' z=>AD w' ab b (A.aa P).2.1 ((A.aa P).2.1.aw (A.aa P).2.2).2 z)) hb ?_ ?_).mono ?_
 ·refine(QD w h).mono ?_;rintro e w'⟨I,H⟩;exact⟨_,I,⟨rfl,H⟩,H.1.Ao g aB hg⟩
 ·rintro w1⟨h0,c1,F1,H,O,h4⟩ -;refine(Qp w1 H hF.aa hl (by rw[s1];exact hn) (by rw[s2];exact Y) (by rw[s1];exact X) (by rw[s2];exact W) (hL.ak c1 aA)).mono ?_;rintro e w'⟨h5,h6⟩;exact⟨_,h5,h0.symm,rfl,Ax.a8 c1 h4 h6⟩
 ·rintro e w'⟨n,rfl,⟨I,H,O⟩|⟨I,H,O⟩⟩
  ·subst H;unfold Ar.aK;rw[Ah I];exact⟨rfl,O⟩
  ·subst H;unfold Ar.aK;rw[Ae (by simp[I])];exact⟨rfl,O⟩
def A1N(w:World)(g:Nat)(h:AD w ab b A P FT)(_hlt:∀k,FT k->k<w.heap.size)(hg:¬FT g)(aA:g<w.heap.size)(hb:w.heap[g]?=some (.cells #[.func (Fn.func 110) #[.pointer (some ⟨ab,0,none⟩)] #[],.func (Fn.func 71) #[.pointer (some ⟨b,0,none⟩)] #[]] 41 (0,0)))(hF:Fit P a c m)(hl:CN a (c+a) m)(hn:∀n∈A.ix.segs,Cv n)(Y:∀n∈A.j.Al,Cv n)(X:A.ix.segs.length<=1073741824)(W:A.j.Al.length<=1073741824)(hL:Lets B w):
 Calls Tryz.prog 68 #[.slice (some ⟨g,0,none⟩) 2 2] w λe w'=>e=.returned (.int .i64 (A.a6 P).1)/\Ax w FT w' (λw' z=>AD w' ab b (A.a6 P).2.1 (A.a6 P).2.2 z):=by
 refine(A0z w g ab b (λn w'=>n=(A.aw P).1/\Ax w FT w' (λw' z=>AD w' ab b A (A.aw P).2 z)) (λn w'=>(A.aw P).1=0/\n=(A.aw P).2.aN.1/\Ax w FT w' (λw' z=>AD w' ab b A (A.aw P).2.aN.2 z)) hb ?_ ?_).mono ?_
 ·refine(Qp w h hF hl hn Y X W hL).mono ?_;rintro e w'⟨I,H⟩;exact⟨_,I,⟨rfl,H⟩,H.1.Ao g aA hg⟩
 ·rintro w1⟨h0,c1,F1,H,O,h4⟩ -;refine(A2D H).mono ?_;rintro e w'⟨h5,h6⟩;exact⟨_,h5,h0.symm,rfl,Ax.a8 c1 h4 h6⟩
 ·rintro e w'⟨n,rfl,⟨I,H,O⟩|⟨I,H,O⟩⟩
  ·subst H;unfold Ar.a6;rw[Ah I];exact⟨rfl,O⟩
  ·subst H;unfold Ar.a6;rw[Ae (by simp[I])];exact⟨rfl,O⟩
end
end
end Go.Proofs.YtodcnkbblippnabGreatDoor
