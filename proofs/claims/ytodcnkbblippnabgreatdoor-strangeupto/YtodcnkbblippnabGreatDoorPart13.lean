/- Part 13 of a proof: walks of the program. -/
import Derived.StillTailTactics
import Derived.Test.YtodcnkbblippnabGreatDoorPart06
import Derived.Test.YtodcnkbblippnabGreatDoorPart07
namespace Go.Proofs.YtodcnkbblippnabGreatDoor
set_option maxRecDepth 100000
set_option maxHeartbeats 32000000
set_option linter.defProp false
open Go.Proofs.Tryz
section
open Go.RowKit
attribute [local go_sem ↓] Go.wp_at_zero Go.wp_at_succ
def A1z(c:FC)(t:Int)(B:Nat)(h:0<=c.2/\c.2<=c.1.length/\c.1.length<=B):0<=(Fs c t).2/\(Fs c t).2<=(Fs c t).1.length/\(Fs c t).1.length<=B:=by
 unfold Fs;simp only[BU];omega
def A1x(es:List AI)(H:List Int)(names:List ByteArray)(F:Nat->FC)(B:Nat)(P:Nat->Prop)(h:∀f,P f->0<=(F f).2/\(F f).2<=(F f).1.length/\(F f).1.length<=B)(k:Nat):
 ∀f,P f->0<=(DU es H names F k f).2/\(DU es H names F k f).2<=(DU es H names F k f).1.length/\(DU es H names F k f).1.length<=B:=by
 induction k with
 | zero=>exact h
 | succ k ih=>
  intro f z;cases h1:names[k]? with
  | none=>simp only[DU,h1];exact ih f z
  | some name=>
   cases h2:lookup es name with
   | none=>simp only[DU,h1,h2];exact ih f z
   | some f0=>
    simp only[DU,h1,h2];by_cases I:f=f0
    ·subst I;simp only[upd,Cn];exact A1z _ _ B (ih f z)
    ·simp only[upd,I,C4];exact ih f z
def A1v(es:List AI)(h:List Int)(names:List ByteArray)(F:Nat->FC)(k:Nat)(name:ByteArray)(f:Nat)(H:names[k]?=some name)(z:lookup es name=some f):
 DU es h names F (k+1)=upd (DU es h names F k) f (Fs (DU es h names F k f) (h.getD k 0)):=by
 simp only[DU,H,z]
def A1q{w wr:World}{b:Nat}{D:DS}{es:List AI}{G:Nat->FC}{O:Nat->Prop}{t:Int}{vd vs vc:Value}{W:List Value}{aF:Nat->Value}(aE:∀k,C7 b {D with A6:=es} vd vs vc W aF k->O k)(hr:BY wr b {D with A6:=es} G vd vs vc W aF)(hc:A5 O w wr){k:Nat}(z:k<es.length){a':Option Addr}{H:Nat}(hv:aF (es[k]'z).2=.slice a' (G (es[k]'z).2).1.length H)(hG:0<=(G (es[k]'z).2).2/\(G (es[k]'z).2).2<=(G (es[k]'z).2).1.length)(m:Nat)(hm:m=(G (es[k]'z).2).2.toNat+Fl t ((G (es[k]'z).2).1.length-(G (es[k]'z).2).2.toNat))(w':World)(hw:w'=(wr.setCell ⟨(es[k]'z).2,0,none⟩ (.slice a' m H)).setCell ⟨(es[k]'z).2,1,none⟩ (.int .i64 m)):
 D7 w' b {D with A6:=es} (upd G (es[k]'z).2 (Fs (G (es[k]'z).2) t)) O/\A5 O w w':=by
 have I:({D with A6:=es}:DS).As (es[k]'z).2:=.inl ⟨_,BS z,rfl⟩;have⟨h1,h2⟩:=hr.BL _ I;have hpk:=Jx t ((G (es[k]'z).2).1.length-(G (es[k]'z).2).2.toNat);have aG:m<=(G (es[k]'z).2).1.length:=by omega
 have X:((G (es[k]'z).2).1.take m).length=m:=by simp;omega
 have Y:wr.ownsRow 0 5 1 (.slice a' m H) m (E6 ((G (es[k]'z).2).1.take m)):=by
  rw[hv]at h2;have:=RT h2 aG;rw[Pd]at this;unfold E6 at this ⊢;rw[List.map_take];exact this
 have aA:∀g,(Value.slice a' m H).ownBlock=some g->g≠(es[k]'z).2:=by
  intro g hg e;have⟨c,hh⟩:=Bd Y hg;exact BP hh h1 (by decide) e
 have aH:FQ w' (.slice a' m H) ((G (es[k]'z).2).1.take m):=by
  subst hw;unfold FQ;rw[X];exact AA Y λg hg=>by rw[GY _ _ _ _ (aA g hg),GY _ _ _ _ (aA g hg)]
 have aI:CY w' (es[k]'z).2 (.slice a' m H) m:=by subst hw;exact(h1.s0 _).s1 _
 have aB:A5 (One (es[k]'z).2) wr w':=by subst hw;exact((A5.C (One _) wr).ao rfl 0 _).ao rfl 1 _
 have aD:∀g,(Value.slice a' m H).ownBlock=some g->(aF (es[k]'z).2).ownBlock=some g\/wr.heap.size<=g:=by
  intro g hg;left;rw[hv];cases a' with
  | none=>simp[Value.ownBlock]at hg
  | some x=>exact hg
 have r2:=hr.bZ I aI aH aB (λk z=>.inl z) aD;have e:Fs (G (es[k]'z).2) t=((G (es[k]'z).2).1.take m,(m:Int)):=by
  unfold Fs;simp only[<-hm,X]
 rw[e];refine⟨⟨_,_,_,_,_,r2,λx hx=>?_⟩,hc.AJ aB λx hx _=>by cases hx;exact aE _ (.BL I)⟩;rcases C7.bZ (N:=wr.heap.size) I aD hx with h|h
 ·exact aE x h
 ·have:=r2.lt hx;subst hw;simp at this;omega
def A1t(w:World)(b:Nat)(D:DS)(F:Nat->FC)(Ft:Nat->Prop)(h:D7 w b D F Ft)(z:Int)(vt:Value)(Y:List Int)(ht:N0 w vt Y)(bY:∀ad n c x,n≠0->vt=.slice ad n c->ad=some x->¬Ft x.block)(hs:D.A6.length<1099511627776/\D.AK.length<1099511627776/\D.Ap.length<1099511627776/\∀c∈D.Ap,c.length<1099511627776)(hdi : -9223372036854775808<=z/\z<=9223372036854775807)(b7:∀t∈Y,-9223372036854775808<=t/\t<=9223372036854775807)(hF:∀f,D.As f->0<=(F f).2/\(F f).2<=(F f).1.length/\(F f).1.length<=1099511627776):
 Aj 74 #[A7 b,A0 z,vt] w (Au (.tuple #[]) λw'=>Ds w Ft w' b (Fq D F z Y).1 (Fq D F z Y).2):=by
 obtain⟨vd,vs,vc,aS,cJ,hr,cH⟩:=h;have aM:=A4 hr;have cG:=A4 cH;obtain⟨hs1,bP,hs3,b3⟩:=hs;have c0:=hr.Ai.c0;have c1:=hr.Ai.c1;have c2:=hr.Ai.c2;have hz:=hr.Ai.fz;obtain⟨ad,tc,rfl,htl,bU⟩:=ht;obtain⟨a1,p1,rfl,-⟩:=hr.AK.BV;have⟨a2,p2,hvc,_,_,hsome,_,_⟩:=Bb hr.An;subst hvc;have bT:=A4 bU;have bQ:=A4 bY;have cD:=A4 b3;have cO:=A4 hF;have bO:=A4 b7;have aZ:=A4 hsome;obtain⟨d1,d2⟩:=hdi;have cE:=Jx z D.Ap.length;generalize hK:Fl z D.Ap.length=K at cE;have bX:=A4 hK;have b5:Hid (∀W:World,Aj 117 #[A0 z,A0 D.Ap.length] W (Au (A0 K) λw'=>W=w')):=by
  intro W;have:=RN z D.Ap.length W ⟨d1,d2⟩ ⟨by omega,by omega⟩;simp only[EA,bX.o]at this;exact this
 have bW:=aM.o;obtain⟨bD,bB,b2,-⟩:=bW.A6.BV;subst b2;obtain⟨H,f1,f2,f3⟩:∃H:Nat->Prop,(∀k,C7 b D (.slice bD D.A6.length bB) (.slice a1 D.AK.length p1) (.slice a2 D.Ap.length p2) aS cJ k->H k)/\(∀k,H k->k<w.heap.size)/\(∀k,H k->Ft k):=
  ⟨C7 b D (.slice bD D.A6.length bB) (.slice a1 D.AK.length p1) (.slice a2 D.Ap.length p2) aS cJ,λ_ h=>h,λ_ h=>aM.o.lt h,λ_ h=>cG.o _ h⟩
 have a4:=A4 f1;have cN:=A4 f2;have b8:=A4 f3;have cA:Hid (∀wr,A5 H w wr->∀j (hj:j<Y.length),∃tb aI,ad=some (Ad tb aI)/\wr.cell? (Ad tb (aI+j))=some (A0 (Y[j]'hj))):=by
  intro wr hc j hj;have⟨tb,aI,h1,h2,h3⟩:=bT.o j hj;refine⟨tb,aI,h1,?_⟩;rw[Dp (hc.Ao tb h2 (λh=>bQ.o ad Y.length tc (Ad tb aI) (λh0=>absurd (h0 ▸ hj) (Pb _)) rfl h1 (b8.o _ h)))];exact h3
 by_cases bE:K=0
 focus
  subst bE;obtain⟨es,O⟩:∃es,D.AK=es:=⟨_,rfl⟩;have aL:es.length<1099511627776:=O ▸ bP;have bC:=aM.o.dV (.inl ⟨rfl,rfl⟩) (aM.o.Ai.s0 _) ((A5.C (One b) w).ao rfl 0 (.slice a1 D.AK.length p1));have bM:Hid (∀f,D9 f es->D.As f):=λf hf=>.inr (.inl (O ▸ hf));have aA:Hid (D7 (w.sC b 0 (.slice a1 D.AK.length p1)) b {D with A6:=es} F H):=by rw[<-O];exact⟨_,_,_,_,_,bC.1,λk hk=>a4.o k (bC.2 k hk)⟩
  have cW:Hid (A5 H w (w.sC b 0 (.slice a1 D.AK.length p1))):=(A5.C _ w).ao (a4.o _ .Ai) 0 _;have bN:Hid (G0 D z=es):=by unfold Hid G0;rw[bX.o];exact O
  clear O;rw[show ((0:Nat):Int)=0 from rfl]at b5;have cC:=A4 <| b5.o
  go_enter func74,ntmps74
  go_wp2_with (first
   | (go_at_call 117;refine(cC.o _).k ?_;rintro w' rfl)
   | (go_at_call 48;refine(O8 _ b _ F _ aA.o aL).mono ?_;rintro e w2⟨v,rfl,aN,aF,a6⟩;obtain⟨al,cl,rfl,_,aP,aD,_⟩:=Bb aN))
 rotate_left
 focus
  obtain⟨j,rfl⟩:∃j,K=j+1:=⟨K-1,by omega⟩;have aG:j<D.Ap.length:=by omega
  have⟨v0,hv1,hv2⟩:=aM.o.Da j aG;obtain⟨ak,pk,rfl,-⟩:=hv2.BV;obtain⟨es,O⟩:∃es,D.Ap[j]'aG=es:=⟨_,rfl⟩;have aL:es.length<1099511627776:=by rw[<-O];exact cD.o _ (BS aG)
  have bM:Hid (∀f,D9 f es->D.As f):=λf hf=>.inr (.inr ⟨_,BS aG,O ▸ hf⟩);have bN:Hid (G0 D z=es):=by
   unfold Hid G0;rw[bX.o];show D.Ap.getD j []=es;rw[<-O,HR,Ef aG];rfl
  rw[O]at hv1 hv2;have⟨gc,hgc⟩:=aZ.o (by omega);subst hgc;have cg:=BB aM.o.An (g:=gc) rfl hv1;have⟨cgc,cgh⟩:=Bd aM.o.An (g:=gc) rfl;have n1:¬gc=b:=λe=>BP cgh aM.o.Ai (by decide) e;have n2:¬b=gc:=λe=>n1 e.symm;have bC:=aM.o.dV (.inr ⟨j,aG,hv1,O.symm⟩) ((aM.o.Ai.s0 (.slice a1 D.AK.length p1)).s0 _) (((A5.C (One b) w).ao rfl 0 (.slice a1 D.AK.length p1)).ao rfl 0 (.slice ak es.length pk));have aA:Hid (D7 ((w.sC b 0 (.slice a1 D.AK.length p1)).sC b 0 (.slice ak es.length pk)) b {D with A6:=es} F H):=⟨_,_,_,_,_,bC.1,λk hk=>a4.o k (bC.2 k hk)⟩;have cW:Hid (A5 H w ((w.sC b 0 (.slice a1 D.AK.length p1)).sC b 0 (.slice ak es.length pk))):=((A5.C _ w).ao (a4.o _ .Ai) 0 _).ao (a4.o _ .Ai) 0 _;have k0:(0:Int)<(j:Int)+1:=by omega
  have k1:(0:Int)<=(j:Int):=by omega
  have k2:(j:Int)<(D.Ap.length:Int):=by omega
  have hwj:IntKind.i64.wrap (j:Int)=(j:Int):=by simp only[Jf];omega
  have cC:=A4 <| b5.o
  skip
  go_enter func74,ntmps74
  go_wp2_with (first
   | (go_at_call 117;refine(cC.o _).k ?_;rintro w' rfl)
   | (go_at_call 48;refine(O8 _ b _ F _ aA.o aL).mono ?_;rintro e w2⟨v,rfl,aN,aF,a6⟩;obtain⟨al,cl,rfl,_,aP,aD,_⟩:=Bb aN))
 all_goals
  have s2:w.heap.size<=w2.heap.size:=by have:=aF.Am;simp at this;omega
  have bF:=A4 aN;have b0:Hid (∀g,al.map Addr.block=some g->w.heap.size<=g):=by
   intro g hg
   have:=a6 g (by cases al with
    | none=>simp at hg
    | some x=>simp at hg;simp[Value.ownBlock,hg])
   simpa using this
  have aY:Hid (D7 w2 b {D with A6:=es} F H):=aA.o.aM λk hk=>aF.Ao k (by have:=cN.o k hk;simpa using this) (λh=>h);have bI:Hid (A5 H w w2):=cW.o.AJ aF (λx hx=>hx.elim);have bZ:=A4 aD;have cB:=A4 (Mp es es.length (Aq _));unfold maxLen at aP;go_loopw [44] (λiv wr=>∃i:Nat,i<=es.length/\iv=A0 i/\Hid (D7 wr b {D with A6:=es} (DU es Y (dList es) F i) H)/\Hid (A5 H w2 wr)) (λiv _=>es.length-(intOf iv).toNat)
  ·exact⟨0,C8 _,rfl,aY.o,A5.C _ _⟩
  ·obtain⟨i,hi,rfl,aR,aO⟩:=hrel;by_cases hli:i<es.length
   ·have aV:Hid (A5 H w wr):=bI.o.AJ aO.o (λx hx _=>hx);have⟨lb,hlb⟩:=bZ.o (by omega);(have aE:i<(dList es).length:=by have:=cB.o;unfold dList;omega);have aF:wr.cell? (Ad lb i)=some (.string ((dList es)[i]'aE)):=by
     have h1:=BB bF.o (g:=lb) (by rw[hlb];rfl) (j:=i) (u:=.string ((dList es)[i]'aE)) (by unfold FE;rw[Po,Ef aE];rfl);have h2:=b0.o lb (by rw[hlb];rfl);rw[Dp (aO.o.Ao lb (AG bF.o (by rw[hlb];rfl)) (λh=>by have:=cN.o lb h;omega))];exact h1
    subst hlb;generalize a9:(dList es)[i]'aE=nm at aF;have bG:∃e∈es,e.1=nm:=(A1d es nm).1 (by rw[<-a9];exact BS aE);(have bA:(dList es)[i]?=some nm:=by rw[<-a9];exact Ef aE);obtain⟨G,aU⟩:∃G,DU es Y (dList es) F i=G:=⟨_,rfl⟩;have X:=aR.o;rw[aU]at X;obtain⟨b4,bR,b6,a3,VB',I,aK⟩:=X;rcases IQ es nm with⟨_,h2⟩|⟨k,hk,h1,h2,h3⟩
    ·exfalso;obtain⟨e,he,h4⟩:=bG;rcases Oz es nm with⟨_,h5⟩|⟨k,hk,h5,_⟩
     ·exact h5 e he h4
     ·omega
    ·have a8:=A1x es Y (dList es) F 1099511627776 D.As cO.o i (es[k]'hk).2 (bM.o _ ⟨_,BS hk,rfl⟩);rw[aU]at a8;obtain⟨aT,a0,a5⟩:=a8;obtain⟨g,cap,a',aB,rfl,hv,z1,z2,z3,z4⟩:=I.Cu k hk;have aH:=I.dd k hk rfl hv;have bK:Hid (CG wr.drew (AN g es.length cap) es):=I.A6;have cL:=A4 h1;generalize hf:(es[k]'hk).2=f at aH
     have fin:Hid (∀(t:Int) (m:Nat) (w':World),t=Y.getD i 0->m=(G f).2.toNat+Fl t ((G f).1.length-(G f).2.toNat)->w'=(wr.sC f 0 (.slice a' m aB)).sC f 1 (A0 m)->
      D7 w' b {D with A6:=es} (DU es Y (dList es) F (i+1)) H/\A5 H w2 w'):=by
      intro t m w' ht hm hw;subst hf;have:=A1q (t:=t) aK I aO.o hk hv ⟨aT,a0⟩ m hm w' hw;rw[A1v es Y (dList es) F i nm _ bA h2,aU,<-ht];exact this
     rw[hf]at aT a0 a5 z3;have x1:=aH.d;have x2:=aH.p;have x3:=aH.f0;have x4:=aH.f1;have x5:=aH.fz;unfold maxLen at z2 z4;have bE:=Cd k;(have hk1:(k:Int)<(es.length:Int):=by omega);obtain⟨t,ht⟩:∃t,Y.getD i 0=t:=⟨_,rfl⟩;have bS : -9223372036854775808<=t/\t<=9223372036854775807:=by
      rw[<-ht,HR];cases hx:Y[i]? with
      | none=>simp
      | some y=>exact bO.o y (Li hx)
     have⟨sn,hsn⟩:=Lq aT;obtain⟨l,hl⟩:∃l,(G f).1.length=l:=⟨_,rfl⟩;obtain⟨p,hp⟩:∃p,Fl t (l-sn)=p:=⟨_,rfl⟩;have bJ:=Jx t (l-sn);rw[hp]at bJ;have aQ:Hid (∀w',w'=(wr.sC f 0 (.slice a' (sn+p) aB)).sC f 1 (A0 ((sn+p:Nat):Int))->D7 w' b {D with A6:=es} (DU es Y (dList es) F (i+1)) H/\A5 H w2 w'):=by
      intro w' hw;exact fin.o t (sn+p) w' ht.symm (by rw[hsn,hl,EA,hp]) hw
     rw[hsn,hl]at a0;rw[hl]at a5 z3 x3;rw[hsn]at x4;have cI:Hid (∀W:World,Aj 117 #[A0 t,A0 ((l:Int)-(sn:Int))] W (Au (A0 p) λw'=>W=w')):=by
      intro W;have:=RN t ((l:Int)-(sn:Int)) W bS ⟨by omega,by omega⟩;rw[show ((l:Int)-(sn:Int)).toNat=l-sn from by omega,hp]at this;exact this
     (have q1:sn+p<=aB:=by omega);(have hw1:IntKind.i64.wrap ((l:Int)-(sn:Int))=(l:Int)-(sn:Int):=by simp only[Jf];omega);(have hw2:IntKind.i64.wrap ((sn:Int)+(p:Int))=(sn:Int)+(p:Int):=by simp only[Jf];omega);(have q3:(0:Int)<=(sn:Int)+(p:Int):=by omega);(have q4:(sn:Int)+(p:Int)<=(aB:Int):=by omega);(have q5:((sn:Int)+(p:Int)).toNat=sn+p:=by omega);have cM:=A4 ht;by_cases aW:i<Y.length
     ·have⟨tb,aI,hta2,htc2⟩:=cA.o wr aV.o i aW;(have b1:Y[i]'aW=t:=by have:=cM.o;rw[HR,Ef aW]at this;exact this);rw[b1]at htc2;subst hta2;(have bH:(i:Int)<(Y.length:Int):=by omega);go_wp2;go_region_held3 (λw'=>w'.cell? ⟨b,0,none⟩=some (.slice (some ⟨g,0,none⟩) es.length cap)/\w'.cell? ⟨g,k*2+1,none⟩=some (.pointer (some ⟨f,0,none⟩))) (refine⟨?_,?_⟩<;>go_simp) ((go_at_call 24;refine(DC _ _ es nm bK.o).k ?_;rintro w' rfl;rw[cL.o]));go_wp2;refine Ji 24 (by kernel_rfl) (by kernel_rfl) ?_;simp only[JY,EU,EL,DA,Dj]
      repeat still_step
      refine wpStill_step (λK hK=>?_);go_simp;refine⟨_,(cI.o _).mono (λe w' h=>⟨h.1,h.2.symm⟩),hK _ ?_⟩
      repeat still_step
      refine Jj ?_;go_wp2;go_roundw
      ·have⟨z5,z6⟩:=aQ.o _ rfl;refine⟨i+1,by omega,by go_num,?_,?_⟩
       ·exact D7.cp z5 rfl
       ·exact A5.cp z6 rfl rfl rfl rfl
      ·simp[intOf];omega
     ·have b9:t=0:=by
       rw[<-cM.o,HR,MS (by omega)];rfl
      subst b9;(have bH:(Y.length:Int)<=(i:Int):=by omega);go_wp2;go_region_held3 (λw'=>w'.cell? ⟨b,0,none⟩=some (.slice (some ⟨g,0,none⟩) es.length cap)/\w'.cell? ⟨g,k*2+1,none⟩=some (.pointer (some ⟨f,0,none⟩))) (refine⟨?_,?_⟩<;>go_simp) ((go_at_call 24;refine(DC _ _ es nm bK.o).k ?_;rintro w' rfl;rw[cL.o]));go_wp2;refine Ji 24 (by kernel_rfl) (by kernel_rfl) ?_;simp only[JY,EU,EL,DA,Dj]
      repeat still_step
      refine wpStill_step (λK hK=>?_);go_simp;refine⟨_,(cI.o _).mono (λe w' h=>⟨h.1,h.2.symm⟩),hK _ ?_⟩
      repeat still_step
      refine Jj ?_;go_wp2;go_roundw
      ·have⟨z5,z6⟩:=aQ.o _ rfl;refine⟨i+1,by omega,by go_num,?_,?_⟩
       ·exact D7.cp z5 rfl
       ·exact A5.cp z6 rfl rfl rfl rfl
      ·simp[intOf];omega
   ·(have cF:i=es.length:=by omega);have X:=aR.o;rw[cF]at X;obtain⟨b4,bR,b6,a3,VB',I,aK⟩:=X;obtain⟨ae,ce,rfl,_⟩:=I.A6.BV;have y0:=I.Ai.c0;have y1:=I.Ai.c1;have y2:=I.Ai.c2;have y5:=I.Ai.c5;have y6:=I.Ai.c6;have y10:=I.Ai.bO;have yz:=I.Ai.fz;have a7:=A4 I;have bL:=A4 aK;go_wp2;go_end0;have r1:=a7.o.aN ((a7.o.Ai.s1 _).s2 (.slice none 0 0)) (((A5.C (One b) wr).ao rfl 1 _).ao rfl 2 (.slice none 0 0));have r2:=r1.ai (n:={D.n with Bf:=false,CP:=0,Dn:=0}) (((r1.Ai.ea false).s5 0).s6 0) ((((A5.C (One b) _).ao rfl 10 (.bool false)).ao rfl 5 (A0 0)).ao rfl 6 (A0 0));have hq:Fq D F z Y=({A6:=es,AK:=es,Ap:=[],n:={D.n with Bf:=false,CP:=0,Dn:=0}},DU es Y (dList es) F es.length):=by
     (have he:G0 D z=es:=by exact bN.o);unfold Fq;rw[he]
    rw[hq];refine⟨rfl,Ds.bt ?_ r2 ?_⟩
    ·have aV:=bI.o.AJ aO.o (λx hx _=>hx);have aJ:=a4.o _ .Ai;exact(((((aV.ao aJ 1 _).ao aJ 2 _).ao aJ 10 _).ao aJ 5 _).ao aJ 6 _).ae λk _ hk=>b8.o k hk
    ·intro k hk;have bV:=C7.n (D:={A6:=es,AK:=es,Ap:=[],n:=D.n}) hk;left;refine b8.o k (bL.o k ?_);cases bV using C7.bE with
     | Ai=>exact .Ai
     | dir e=>exact .A6 e
     | Ag e=>exact .A6 e
     | An e=>simp[Value.ownBlock]at e
     | Da hm e=>cases hm
     | BL hf=>
      rcases hf with hf|hf|⟨c,aX,_⟩
      ·exact .BL (.inl hf)
      ·exact .BL (.inl hf)
      ·cases aX
     | byt hf e=>
      rcases hf with hf|hf|⟨c,aX,_⟩
      ·exact .bw (.inl hf) e
      ·exact .bw (.inl hf) e
      ·cases aX
end
end Go.Proofs.YtodcnkbblippnabGreatDoor
