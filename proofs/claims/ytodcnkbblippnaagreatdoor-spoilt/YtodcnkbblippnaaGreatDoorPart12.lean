/- Part 12 of a proof: walks of the program. -/
import Derived.StillTailTactics
import Derived.Test.YtodcnkbblippnaaGreatDoorPart05
import Derived.Test.YtodcnkbblippnaaGreatDoorPart07
namespace Go.Proofs.YtodcnkbblippnaaGreatDoor
set_option maxRecDepth 100000
set_option maxHeartbeats 32000000
set_option linter.defProp false
open Go.Proofs.Tryz
section
open Go.RowKit
attribute [local go_sem ↓] Go.wp_at_zero Go.wp_at_succ
def A3h(c:FC)(t:Int)(B:Nat)(h:0<=c.2/\c.2<=c.1.length/\c.1.length<=B):0<=(Fx c t).2/\(Fx c t).2<=(Fx c t).1.length/\(Fx c t).1.length<=B:=by
 unfold Fx;simp only[BT];omega
def A3f(es:gh AM)(z:gh Int)(names:gh gg)(F:Nat->FC)(B:Nat)(P:Nat->Prop)(h:∀f,P f->0<=(F f).2/\(F f).2<=(F f).1.length/\(F f).1.length<=B)(k:Nat):
 ∀f,P f->0<=(E1 es z names F k f).2/\(E1 es z names F k f).2<=(E1 es z names F k f).1.length/\(E1 es z names F k f).1.length<=B:=by
 induction k with
 | zero=>exact h
 | succ k ih=>
  intro f d;cases h1:names[k]? with
  | none=>simp only[E1,h1];exact ih f d
  | some nd=>
   cases h2:lookup es nd with
   | none=>simp only[E1,h1,h2];exact ih f d
   | some f0=>
    simp only[E1,h1,h2];by_cases E:f=f0
    ·subst E;simp only[upd,Cp];exact A3h _ _ B (ih f d)
    ·simp only[upd,E,C9];exact ih f d
def A3d(es:gh AM)(d:gh Int)(names:gh gg)(F:Nat->FC)(k:Nat)(h:gg)(f:Nat)(E:names[k]?=some h)(z:lookup es h=some f):
 E1 es d names F (k+1)=upd (E1 es d names F k) f (Fx (E1 es d names F k f) (d.getD k 0)):=by
 simp only[E1,E,z]
def A28{w wr:ga}{b:Nat}{D:DS}{es:gh AM}{G:Nat->FC}{H:Nat->Prop}{t:Int}{vd vs vc:gd}{I:gh gd}{aE:Nat->gd}(aD:∀k,C6 b {D with A4:=es} vd vs vc I aE k->H k)(hr:BY wr b {D with A4:=es} G vd vs vc I aE)(hc:A3 H w wr){k:Nat}(d:k<es.length){a':Option Addr}{z:Nat}(hv:aE (es[k]'d).2=.slice a' (G (es[k]'d).2).1.length z)(hG:0<=(G (es[k]'d).2).2/\(G (es[k]'d).2).2<=(G (es[k]'d).2).1.length)(m:Nat)(hm:m=(G (es[k]'d).2).2.toNat+Fo t ((G (es[k]'d).2).1.length-(G (es[k]'d).2).2.toNat))(w':ga)(hw:w'=(wr.setCell ⟨(es[k]'d).2,0,none⟩ (.slice a' m z)).setCell ⟨(es[k]'d).2,1,none⟩ (.int .i64 m)):
 Dh w' b {D with A4:=es} (upd G (es[k]'d).2 (Fx (G (es[k]'d).2) t)) H/\A3 H w w':=by
 have E:({D with A4:=es}:DS).Ap (es[k]'d).2:=.inl ⟨_,BU d,rfl⟩;have⟨h1,h2⟩:=hr.BK _ E;have hpk:=K7 t ((G (es[k]'d).2).1.length-(G (es[k]'d).2).2.toNat);have aF:m<=(G (es[k]'d).2).1.length:=by omega
 have L:((G (es[k]'d).2).1.take m).length=m:=by simp;omega
 have O:wr.ownsRow 0 5 1 (.slice a' m z) m (Ea ((G (es[k]'d).2).1.take m)):=by
  rw[hv]at h2;have:=Tv h2 aF;rw[KF]at this;unfold Ea at this ⊢;rw[List.map_take];exact this
 have Y:∀g,(Value.slice a' m z).ownBlock=some g->g≠(es[k]'d).2:=by
  intro g W e;have⟨c,hh⟩:=Be O W;exact BR hh h1 (by decide) e
 have aG:FZ w' (.slice a' m z) ((G (es[k]'d).2).1.take m):=by
  subst hw;unfold FZ;rw[L];exact Ax O λg W=>by rw[Hg _ _ _ _ (Y g W),Hg _ _ _ _ (Y g W)]
 have aH:CY w' (es[k]'d).2 (.slice a' m z) m:=by subst hw;exact(h1.s0 _).s1 _
 have aA:A3 (One (es[k]'d).2) wr w':=by subst hw;exact((A3.I (One _) wr).aq rfl 0 _).aq rfl 1 _
 have aB:∀g,(Value.slice a' m z).ownBlock=some g->(aE (es[k]'d).2).ownBlock=some g\/wr.heap.size<=g:=by
  intro g W;left;rw[hv];cases a' with
  | none=>simp[Value.ownBlock]at W
  | some x=>exact W
 have r2:=hr.b1 E aH aG aA (λk d=>.inl d) aB;have e:Fx (G (es[k]'d).2) t=((G (es[k]'d).2).1.take m,(m:Int)):=by
  unfold Fx;simp only[<-hm,L]
 rw[e];refine⟨⟨_,_,_,_,_,r2,λx hx=>?_⟩,hc.Av aA λx hx _=>by cases hx;exact aD _ (.BK E)⟩;rcases C6.b1 (N:=wr.heap.size) E aB hx with h|h
 ·exact aD x h
 ·have:=r2.lt hx;subst hw;simp at this;omega
def A3b(w:ga)(b:Nat)(D:DS)(F:Nat->FC)(Ft:Nat->Prop)(h:Dh w b D F Ft)(da:Int)(vt:gd)(L:gh Int)(ht:O0 w vt L)(bY:∀ad n c x,n≠0->vt=.slice ad n c->ad=some x->¬Ft x.block)(hs:D.A4.length<1099511627776/\D.AI.length<1099511627776/\D.As.length<1099511627776/\∀c∈D.As,c.length<1099511627776)(hdi : -9223372036854775808<=da/\da<=9223372036854775807)(b7:∀t∈L,-9223372036854775808<=t/\t<=9223372036854775807)(hF:∀f,D.Ap f->0<=(F f).2/\(F f).2<=(F f).1.length/\(F f).1.length<=1099511627776):
 Ag 32 #[A5 b,A0 da,vt] w (Am (.tuple #[]) λw'=>Dv w Ft w' b (Fw D F da L).1 (Fw D F da L).2):=by
 obtain⟨vd,vs,vc,aS,cJ,hr,cH⟩:=h;have aM:=A1 hr;have cG:=A1 cH;obtain⟨hs1,bP,hs3,b3⟩:=hs;have c0:=hr.Ah.c0;have c1:=hr.Ah.c1;have c2:=hr.Ah.c2;have hz:=hr.Ah.fz;obtain⟨ad,tc,rfl,htl,bU⟩:=ht;obtain⟨a1,p1,rfl,-⟩:=hr.AI.Cd;have⟨a2,p2,hvc,_,_,hsome,_,_⟩:=B9 hr.Al;subst hvc;have bT:=A1 bU;have bQ:=A1 bY;have cD:=A1 b3;have cO:=A1 hF;have bO:=A1 b7;have aZ:=A1 hsome;obtain⟨d1,d2⟩:=hdi;have cE:=K7 da D.As.length;generalize hK:Fo da D.As.length=K at cE;have bX:=A1 hK;have b5:Hid (∀W:ga,Ag 75 #[A0 da,A0 D.As.length] W (Am (A0 K) λw'=>W=w')):=by
  intro W;have:=Tq da D.As.length W ⟨d1,d2⟩ ⟨by omega,by omega⟩;simp only[EH,bX.o]at this;exact this
 have bW:=aM.o;obtain⟨bD,bB,b2,-⟩:=bW.A4.Cd;subst b2;obtain⟨z,f1,f2,f3⟩:∃z:Nat->Prop,(∀k,C6 b D (.slice bD D.A4.length bB) (.slice a1 D.AI.length p1) (.slice a2 D.As.length p2) aS cJ k->z k)/\(∀k,z k->k<w.heap.size)/\(∀k,z k->Ft k):=
  ⟨C6 b D (.slice bD D.A4.length bB) (.slice a1 D.AI.length p1) (.slice a2 D.As.length p2) aS cJ,λ_ h=>h,λ_ h=>aM.o.lt h,λ_ h=>cG.o _ h⟩
 have a4:=A1 f1;have cN:=A1 f2;have b8:=A1 f3;have cA:Hid (∀wr,A3 z w wr->∀j (hj:j<L.length),∃tb aI,ad=some (Ac tb aI)/\wr.cell? (Ac tb (aI+j))=some (A0 (L[j]'hj))):=by
  intro wr hc j hj;have⟨tb,aI,h1,h2,h3⟩:=bT.o j hj;refine⟨tb,aI,h1,?_⟩;rw[E3 (hc.An tb h2 (λh=>bQ.o ad L.length tc (Ac tb aI) (λh0=>absurd (h0 ▸ hj) (WD _)) rfl h1 (b8.o _ h)))];exact h3
 by_cases bE:K=0
 focus
  subst bE;obtain⟨es,H⟩:∃es,D.AI=es:=⟨_,rfl⟩;have aL:es.length<1099511627776:=H ▸ bP;have bC:=aM.o.eb (.inl ⟨rfl,rfl⟩) (aM.o.Ah.s0 _) ((A3.I (One b) w).aq rfl 0 (.slice a1 D.AI.length p1));have bM:Hid (∀f,Dm f es->D.Ap f):=λf O=>.inr (.inl (H ▸ O));have aA:Hid (Dh (w.sC b 0 (.slice a1 D.AI.length p1)) b {D with A4:=es} F z):=by rw[<-H];exact⟨_,_,_,_,_,bC.1,λk hk=>a4.o k (bC.2 k hk)⟩
  have cW:Hid (A3 z w (w.sC b 0 (.slice a1 D.AI.length p1))):=(A3.I _ w).aq (a4.o _ .Ah) 0 _;have bN:Hid (Ga D da=es):=by unfold Hid Ga;rw[bX.o];exact H
  clear H;rw[show ((0:Nat):Int)=0 from rfl]at b5;have cC:=A1 <| b5.o
  go_enter func32,ntmps32
  go_wp2_with (first
   | (go_at_call 75;refine(cC.o _).k ?_;rintro w' rfl)
   | (go_at_call 76;refine(Py _ b _ F _ aA.o aL).mono ?_;rintro e w2⟨v,rfl,aN,aF,a6⟩;obtain⟨al,cl,rfl,_,aP,aD,_⟩:=B9 aN))
 rotate_left
 focus
  obtain⟨j,rfl⟩:∃j,K=j+1:=⟨K-1,by omega⟩;have aG:j<D.As.length:=by omega
  have⟨v0,hv1,hv2⟩:=aM.o.Df j aG;obtain⟨ak,pk,rfl,-⟩:=hv2.Cd;obtain⟨es,H⟩:∃es,D.As[j]'aG=es:=⟨_,rfl⟩;have aL:es.length<1099511627776:=by rw[<-H];exact cD.o _ (BU aG)
  have bM:Hid (∀f,Dm f es->D.Ap f):=λf O=>.inr (.inr ⟨_,BU aG,H ▸ O⟩);have bN:Hid (Ga D da=es):=by
   unfold Hid Ga;rw[bX.o];show D.As.getD j []=es;rw[<-H,He,DL aG];rfl
  rw[H]at hv1 hv2;have⟨gc,hgc⟩:=aZ.o (by omega);subst hgc;have cg:=BH aM.o.Al (g:=gc) rfl hv1;have⟨cgc,cgh⟩:=Be aM.o.Al (g:=gc) rfl;have n1:¬gc=b:=λe=>BR cgh aM.o.Ah (by decide) e;have n2:¬b=gc:=λe=>n1 e.symm;have bC:=aM.o.eb (.inr ⟨j,aG,hv1,H.symm⟩) ((aM.o.Ah.s0 (.slice a1 D.AI.length p1)).s0 _) (((A3.I (One b) w).aq rfl 0 (.slice a1 D.AI.length p1)).aq rfl 0 (.slice ak es.length pk));have aA:Hid (Dh ((w.sC b 0 (.slice a1 D.AI.length p1)).sC b 0 (.slice ak es.length pk)) b {D with A4:=es} F z):=⟨_,_,_,_,_,bC.1,λk hk=>a4.o k (bC.2 k hk)⟩;have cW:Hid (A3 z w ((w.sC b 0 (.slice a1 D.AI.length p1)).sC b 0 (.slice ak es.length pk))):=((A3.I _ w).aq (a4.o _ .Ah) 0 _).aq (a4.o _ .Ah) 0 _;have k0:(0:Int)<(j:Int)+1:=by omega
  have k1:(0:Int)<=(j:Int):=by omega
  have k2:(j:Int)<(D.As.length:Int):=by omega
  have hwj:IntKind.i64.wrap (j:Int)=(j:Int):=by simp only[Jb];omega
  have cC:=A1 <| b5.o
  skip
  go_enter func32,ntmps32
  go_wp2_with (first
   | (go_at_call 75;refine(cC.o _).k ?_;rintro w' rfl)
   | (go_at_call 76;refine(Py _ b _ F _ aA.o aL).mono ?_;rintro e w2⟨v,rfl,aN,aF,a6⟩;obtain⟨al,cl,rfl,_,aP,aD,_⟩:=B9 aN))
 all_goals
  have s2:w.heap.size<=w2.heap.size:=by have:=aF.Aj;simp at this;omega
  have bF:=A1 aN;have b0:Hid (∀g,al.map Addr.block=some g->w.heap.size<=g):=by
   intro g hg
   have:=a6 g (by cases al with
    | none=>simp at hg
    | some x=>simp at hg;simp[Value.ownBlock,hg])
   simpa using this
  have aY:Hid (Dh w2 b {D with A4:=es} F z):=aA.o.aN λk hk=>aF.An k (by have:=cN.o k hk;simpa using this) (λh=>h);have bI:Hid (A3 z w w2):=cW.o.Av aF (λx hx=>hx.elim);have bZ:=A1 aD;have cB:=A1 (Ng es es.length (Ao _));unfold maxLen at aP;go_loopw [44] (λiv wr=>∃i:Nat,i<=es.length/\iv=A0 i/\Hid (Dh wr b {D with A4:=es} (E1 es L (dList es) F i) z)/\Hid (A3 z w2 wr)) (λiv _=>es.length-(intOf iv).toNat)
  ·exact⟨0,Cb _,rfl,aY.o,A3.I _ _⟩
  ·obtain⟨i,hi,rfl,aR,aO⟩:=hrel;by_cases hli:i<es.length
   ·have aV:Hid (A3 z w wr):=bI.o.Av aO.o (λx hx _=>hx);have⟨lb,hlb⟩:=bZ.o (by omega);(have aE:i<(dList es).length:=by have:=cB.o;unfold dList;omega);have aF:wr.cell? (Ac lb i)=some (.string ((dList es)[i]'aE)):=by
     have h1:=BH bF.o (g:=lb) (by rw[hlb];rfl) (j:=i) (u:=.string ((dList es)[i]'aE)) (by unfold FG;rw[QL,DL aE];rfl);have h2:=b0.o lb (by rw[hlb];rfl);rw[E3 (aO.o.An lb (AF bF.o (by rw[hlb];rfl)) (λh=>by have:=cN.o lb h;omega))];exact h1
    subst hlb;generalize a9:(dList es)[i]'aE=nm at aF;have bG:∃e∈es,e.1=nm:=(A2S es nm).1 (by rw[<-a9];exact BU aE);(have bA:(dList es)[i]?=some nm:=by rw[<-a9];exact DL aE);obtain⟨G,aU⟩:∃G,E1 es L (dList es) F i=G:=⟨_,rfl⟩;have I:=aR.o;rw[aU]at I;obtain⟨b4,bR,b6,a3,VB',E,aK⟩:=I;rcases Ju es nm with⟨_,h2⟩|⟨k,hk,h1,h2,h3⟩
    ·exfalso;obtain⟨e,he,h4⟩:=bG;rcases Q4 es nm with⟨_,h5⟩|⟨k,hk,h5,_⟩
     ·exact h5 e he h4
     ·omega
    ·have a8:=A3f es L (dList es) F 1099511627776 D.Ap cO.o i (es[k]'hk).2 (bM.o _ ⟨_,BU hk,rfl⟩);rw[aU]at a8;obtain⟨aT,a0,a5⟩:=a8;obtain⟨g,cap,a',aB,rfl,hv,z1,z2,z3,z4⟩:=E.CA k hk;have aH:=E.dw k hk rfl hv;have bK:Hid (D8 wr.drew (AH g es.length cap) es):=E.A4;have cL:=A1 h1;generalize O:(es[k]'hk).2=f at aH
     have fin:Hid (∀(t:Int) (m:Nat) (w':ga),t=L.getD i 0->m=(G f).2.toNat+Fo t ((G f).1.length-(G f).2.toNat)->w'=(wr.sC f 0 (.slice a' m aB)).sC f 1 (A0 m)->
      Dh w' b {D with A4:=es} (E1 es L (dList es) F (i+1)) z/\A3 z w2 w'):=by
      intro t m w' ht hm hw;subst O;have:=A28 (t:=t) aK E aO.o hk hv ⟨aT,a0⟩ m hm w' hw;rw[A3d es L (dList es) F i nm _ bA h2,aU,<-ht];exact this
     rw[O]at aT a0 a5 z3;have x1:=aH.d;have x2:=aH.p;have x3:=aH.f0;have x4:=aH.f1;have x5:=aH.fz;unfold maxLen at z2 z4;have bE:=C3 k;(have hk1:(k:Int)<(es.length:Int):=by omega);obtain⟨t,ht⟩:∃t,L.getD i 0=t:=⟨_,rfl⟩;have bS : -9223372036854775808<=t/\t<=9223372036854775807:=by
      rw[<-ht,He];cases hx:L[i]? with
      | none=>simp
      | some y=>exact bO.o y (KM hx)
     have⟨Y,hsn⟩:=KY aT;obtain⟨l,hl⟩:∃l,(G f).1.length=l:=⟨_,rfl⟩;obtain⟨p,hp⟩:∃p,Fo t (l-Y)=p:=⟨_,rfl⟩;have bJ:=K7 t (l-Y);rw[hp]at bJ;have aQ:Hid (∀w',w'=(wr.sC f 0 (.slice a' (Y+p) aB)).sC f 1 (A0 ((Y+p:Nat):Int))->Dh w' b {D with A4:=es} (E1 es L (dList es) F (i+1)) z/\A3 z w2 w'):=by
      intro w' hw;exact fin.o t (Y+p) w' ht.symm (by rw[hsn,hl,EH,hp]) hw
     rw[hsn,hl]at a0;rw[hl]at a5 z3 x3;rw[hsn]at x4;have cI:Hid (∀W:ga,Ag 75 #[A0 t,A0 ((l:Int)-(Y:Int))] W (Am (A0 p) λw'=>W=w')):=by
      intro W;have:=Tq t ((l:Int)-(Y:Int)) W bS ⟨by omega,by omega⟩;rw[show ((l:Int)-(Y:Int)).toNat=l-Y from by omega,hp]at this;exact this
     (have q1:Y+p<=aB:=by omega);(have hw1:IntKind.i64.wrap ((l:Int)-(Y:Int))=(l:Int)-(Y:Int):=by simp only[Jb];omega);(have hw2:IntKind.i64.wrap ((Y:Int)+(p:Int))=(Y:Int)+(p:Int):=by simp only[Jb];omega);(have q3:(0:Int)<=(Y:Int)+(p:Int):=by omega);(have q4:(Y:Int)+(p:Int)<=(aB:Int):=by omega);(have q5:((Y:Int)+(p:Int)).toNat=Y+p:=by omega);have cM:=A1 ht;by_cases aW:i<L.length
     ·have⟨tb,aI,hta2,htc2⟩:=cA.o wr aV.o i aW;(have b1:L[i]'aW=t:=by have:=cM.o;rw[He,DL aW]at this;exact this);rw[b1]at htc2;subst hta2;(have bH:(i:Int)<(L.length:Int):=by omega);go_wp2;go_region_held3 (λw'=>w'.cell? ⟨b,0,none⟩=some (.slice (some ⟨g,0,none⟩) es.length cap)/\w'.cell? ⟨g,k*2+1,none⟩=some (.pointer (some ⟨f,0,none⟩))) (refine⟨?_,?_⟩<;>go_simp) ((go_at_call 77;refine(DB _ _ es nm bK.o).k ?_;rintro w' rfl;rw[cL.o]));go_wp2;refine L6 24 (by kernel_rfl) (by kernel_rfl) ?_;simp only[M7,Fe,EZ,DW,Dz]
      repeat still_step
      refine wpStill_step (λK hK=>?_);go_simp;refine⟨_,(cI.o _).mono (λe w' h=>⟨h.1,h.2.symm⟩),hK _ ?_⟩
      repeat still_step
      refine L7 ?_;go_wp2;go_roundw
      ·have⟨z5,z6⟩:=aQ.o _ rfl;refine⟨i+1,by omega,by go_num,?_,?_⟩
       ·exact Dh.ck z5 rfl
       ·exact A3.ck z6 rfl rfl rfl rfl
      ·simp[intOf];omega
     ·have b9:t=0:=by
       rw[<-cM.o,He,NR (by omega)];rfl
      subst b9;(have bH:(L.length:Int)<=(i:Int):=by omega);go_wp2;go_region_held3 (λw'=>w'.cell? ⟨b,0,none⟩=some (.slice (some ⟨g,0,none⟩) es.length cap)/\w'.cell? ⟨g,k*2+1,none⟩=some (.pointer (some ⟨f,0,none⟩))) (refine⟨?_,?_⟩<;>go_simp) ((go_at_call 77;refine(DB _ _ es nm bK.o).k ?_;rintro w' rfl;rw[cL.o]));go_wp2;refine L6 24 (by kernel_rfl) (by kernel_rfl) ?_;simp only[M7,Fe,EZ,DW,Dz]
      repeat still_step
      refine wpStill_step (λK hK=>?_);go_simp;refine⟨_,(cI.o _).mono (λe w' h=>⟨h.1,h.2.symm⟩),hK _ ?_⟩
      repeat still_step
      refine L7 ?_;go_wp2;go_roundw
      ·have⟨z5,z6⟩:=aQ.o _ rfl;refine⟨i+1,by omega,by go_num,?_,?_⟩
       ·exact Dh.ck z5 rfl
       ·exact A3.ck z6 rfl rfl rfl rfl
      ·simp[intOf];omega
   ·(have cF:i=es.length:=by omega);have I:=aR.o;rw[cF]at I;obtain⟨b4,bR,b6,a3,VB',E,aK⟩:=I;obtain⟨ae,ce,rfl,_⟩:=E.A4.Cd;have y0:=E.Ah.c0;have y1:=E.Ah.c1;have y2:=E.Ah.c2;have y5:=E.Ah.c5;have y6:=E.Ah.c6;have y10:=E.Ah.bW;have yz:=E.Ah.fz;have a7:=A1 E;have bL:=A1 aK;go_wp2;go_end0;have r1:=a7.o.av ((a7.o.Ah.s1 _).s2 (.slice none 0 0)) (((A3.I (One b) wr).aq rfl 1 _).aq rfl 2 (.slice none 0 0));have r2:=r1.ah (n:={D.n with AW:=false,Ce:=0,Cv:=0}) (((r1.Ah.eg false).s5 0).s6 0) ((((A3.I (One b) _).aq rfl 10 (.bool false)).aq rfl 5 (A0 0)).aq rfl 6 (A0 0));have hq:Fw D F da L=({A4:=es,AI:=es,As:=[],n:={D.n with AW:=false,Ce:=0,Cv:=0}},E1 es L (dList es) F es.length):=by
     (have he:Ga D da=es:=by exact bN.o);unfold Fw;rw[he]
    rw[hq];refine⟨rfl,Dv.bw ?_ r2 ?_⟩
    ·have aV:=bI.o.Av aO.o (λx hx _=>hx);have aJ:=a4.o _ .Ah;exact(((((aV.aq aJ 1 _).aq aJ 2 _).aq aJ 10 _).aq aJ 5 _).aq aJ 6 _).af λk _ hk=>b8.o k hk
    ·intro k hk;have bV:=C6.n (D:={A4:=es,AI:=es,As:=[],n:=D.n}) hk;left;refine b8.o k (bL.o k ?_);cases bV using C6.bJ with
     | Ah=>exact .Ah
     | dir e=>exact .A4 e
     | Ad e=>exact .A4 e
     | Al e=>simp[Value.ownBlock]at e
     | Df hm e=>cases hm
     | BK O=>
      rcases O with O|O|⟨c,aX,_⟩
      ·exact .BK (.inl O)
      ·exact .BK (.inl O)
      ·cases aX
     | byt O e=>
      rcases O with O|O|⟨c,aX,_⟩
      ·exact .bA (.inl O) e
      ·exact .bA (.inl O) e
      ·cases aX
end
end Go.Proofs.YtodcnkbblippnaaGreatDoor
