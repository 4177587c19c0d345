/- Part 5 of a proof: walks of the program. -/
import Derived.LaidEql
import Derived.Test.YtodcnkbblippnaaGreatDoorPart04
namespace Go.Proofs.YtodcnkbblippnaaGreatDoor
set_option maxRecDepth 100000
set_option maxHeartbeats 32000000
set_option linter.defProp false
open Go.Proofs.Tryz
section
open Go.RowKit
attribute [local go_sem ↓] Go.wp_at_zero Go.wp_at_succ
def A17(c:FC)(t:Int)(B:Nat)(h:0<=c.2/\c.2<=c.1.length/\c.1.length<=B):0<=(FB c t).2/\(FB c t).2<=(FB c t).1.length/\(FB c t).1.length<=B:=by
 unfold FB;simp only[BI];omega
def A15(es:List AN)(z:List Int)(names:List ByteArray)(F:Nat->FC)(B:Nat)(P:Nat->Prop)(h:∀f,P f->0<=(F f).2/\(F f).2<=(F f).1.length/\(F f).1.length<=B)(k:Nat):
 ∀f,P f->0<=(DX es z names F k f).2/\(DX es z names F k f).2<=(DX es z names F k f).1.length/\(DX es z names F k f).1.length<=B:=by
 induction k with
 | zero=>exact h
 | succ k ih=>
  intro f d;cases h1:names[k]? with
  | none=>simp only[DX,h1];exact ih f d
  | some name=>
   cases h2:lookup es name with
   | none=>simp only[DX,h1,h2];exact ih f d
   | some f0=>
    simp only[DX,h1,h2];by_cases E:f=f0
    ·subst E;simp only[upd,Ci];exact A17 _ _ B (ih f d)
    ·simp only[upd,E,C3];exact ih f d
def A13(es:List AN)(d:List Int)(names:List ByteArray)(F:Nat->FC)(k:Nat)(name:ByteArray)(f:Nat)(z:names[k]?=some name)(h:lookup es name=some f):
 DX es d names F (k+1)=upd (DX es d names F k) f (FB (DX es d names F k f) (d.getD k 0)):=by
 simp only[DX,z,h]
def A1Y{w wr:World}{b:Nat}{D:DS}{es:List AN}{G:Nat->FC}{I:Nat->Prop}{t:Int}{vd vs vc:Value}{L:List Value}{aE:Nat->Value}(aD:∀k,C5 b {D with A5:=es} vd vs vc L aE k->I k)(hr:BV wr b {D with A5:=es} G vd vs vc L aE)(hc:A4 I w wr){k:Nat}(d:k<es.length){a':Option Addr}{z:Nat}(hv:aE (es[k]'d).2=.slice a' (G (es[k]'d).2).1.length z)(hG:0<=(G (es[k]'d).2).2/\(G (es[k]'d).2).2<=(G (es[k]'d).2).1.length)(m:Nat)(hm:m=(G (es[k]'d).2).2.toNat+FA t ((G (es[k]'d).2).1.length-(G (es[k]'d).2).2.toNat))(w':World)(hw:w'=(wr.setCell ⟨(es[k]'d).2,0,none⟩ (.slice a' m z)).setCell ⟨(es[k]'d).2,1,none⟩ (.int .i64 m)):
 Da w' b {D with A5:=es} (upd G (es[k]'d).2 (FB (G (es[k]'d).2) t)) I/\A4 I w w':=by
 have E:({D with A5:=es}:DS).Ap (es[k]'d).2:=.inl ⟨_,BT d,rfl⟩;obtain⟨h1,h2⟩:=hr.BH _ E;have hpk:=JC t ((G (es[k]'d).2).1.length-(G (es[k]'d).2).2.toNat);have aF:m<=(G (es[k]'d).2).1.length:=by omega
 have O:((G (es[k]'d).2).1.take m).length=m:=by simp;omega
 have W:wr.ownsRow 0 5 1 (.slice a' m z) m (DY ((G (es[k]'d).2).1.take m)):=by
  rw[hv]at h2;have:=NV h2 aF;rw[Uz]at this;unfold DY at this ⊢;rw[List.map_take];exact this
 have Y:∀g,(Value.slice a' m z).ownBlock=some g->g≠(es[k]'d).2:=by
  intro g X e;obtain⟨c,hh⟩:=B7 W X;exact BM hh h1 (by decide) e
 have aG:G0 w' (.slice a' m z) ((G (es[k]'d).2).1.take m):=by
  subst hw;unfold G0;rw[O];exact Aw W λg X=>by rw[Fg _ _ _ _ (Y g X),Fg _ _ _ _ (Y g X)]
 have aH:CY w' (es[k]'d).2 (.slice a' m z) m:=by subst hw;exact(h1.s0 _).s1 _
 have aA:A4 (One (es[k]'d).2) wr w':=by subst hw;exact((A4.C (One _) wr).aj rfl 0 _).aj rfl 1 _
 have aB:∀g,(Value.slice a' m z).ownBlock=some g->(aE (es[k]'d).2).ownBlock=some g\/wr.heap.size<=g:=by
  intro g X;left;rw[hv];cases a' with
  | none=>simp[Value.ownBlock]at X
  | some x=>exact X
 have r2:=hr.b1 E aH aG aA (λk d=>.inl d) aB;have e:FB (G (es[k]'d).2) t=((G (es[k]'d).2).1.take m,(m:Int)):=by
  unfold FB;simp only[<-hm,O]
 rw[e];refine⟨⟨_,_,_,_,_,r2,λx hx=>?_⟩,hc.Au aA λx hx _=>by cases hx;exact aD _ (.BH E)⟩;rcases C5.b1 (N:=wr.heap.size) E aB hx with h|h
 ·exact aD x h
 ·have:=r2.lt hx;subst hw;simp at this;omega
def A11(w:World)(b:Nat)(D:DS)(F:Nat->FC)(Ft:Nat->Prop)(h:Da w b D F Ft)(dirs:Int)(vt:Value)(O:List Int)(ht:Lm w vt O)(b6:∀ad n c x,n≠0->vt=.slice ad n c->ad=some x->¬Ft x.block)(hs:D.A5.length<1099511627776/\D.AF.length<1099511627776/\D.Aq.length<1099511627776/\∀c∈D.Aq,c.length<1099511627776)(hdi : -9223372036854775808<=dirs/\dirs<=9223372036854775807)(cG:∀t∈O,-9223372036854775808<=t/\t<=9223372036854775807)(hF:∀f,D.Ap f->0<=(F f).2/\(F f).2<=(F f).1.length/\(F f).1.length<=1099511627776):
 Ag 32 #[A6 b,A0 dirs,vt] w (Aj (.tuple #[]) λw'=>Dq w Ft w' b (F5 D F dirs O).1 (F5 D F dirs O).2):=by
 obtain⟨vd,vs,vc,aT,cV,hr,cT⟩:=h;have aM:=A1 hr;have cS:=A1 cT;obtain⟨hs1,bW,hs3,cC⟩:=hs;have c0:=hr.Af.c0;have c1:=hr.Af.c1;have c2:=hr.Af.c2;have hz:=hr.Af.fz;obtain⟨ad,tc,rfl,htl,b2⟩:=ht;obtain⟨a1,p1,rfl,-⟩:=hr.AF.BP;obtain⟨a2,p2,b8,_,_,a5,_,_⟩:=Bk hr.An;subst b8;have b1:=A1 b2;have bX:=A1 b6;have cN:=A1 cC;have dA:=A1 hF;have bV:=A1 cG;have a4:=A1 a5;obtain⟨d1,d2⟩:=hdi;have cP:=JC dirs D.Aq.length;generalize hK:FA dirs D.Aq.length=K at cP;have b5:=A1 hK;have cE:Hid (∀W:World,Ag 75 #[A0 dirs,A0 D.Aq.length] W (Aj (A0 K) λw'=>W=w')):=by
  intro W;have:=RC dirs D.Aq.length W ⟨d1,d2⟩ ⟨by omega,by omega⟩;simp only[EG,b5.o]at this;exact this
 have b4:=aM.o;obtain⟨bH,bF,cB,-⟩:=b4.A5.BP;subst cB;obtain⟨z,f1,f2,f3⟩:∃z:Nat->Prop,(∀k,C5 b D (.slice bH D.A5.length bF) (.slice a1 D.AF.length p1) (.slice a2 D.Aq.length p2) aT cV k->z k)/\(∀k,z k->k<w.heap.size)/\(∀k,z k->Ft k):=
  ⟨C5 b D (.slice bH D.A5.length bF) (.slice a1 D.AF.length p1) (.slice a2 D.Aq.length p2) aT cV,λ_ h=>h,λ_ h=>aM.o.lt h,λ_ h=>cS.o _ h⟩
 have a8:=A1 f1;have cZ:=A1 f2;have cH:=A1 f3;have cJ:Hid (∀wr,A4 z w wr->∀j (hj:j<O.length),∃tb aI,ad=some (A9 tb aI)/\wr.cell? (A9 tb (aI+j))=some (A0 (O[j]'hj))):=by
  intro wr hc j hj;obtain⟨tb,aI,h1,h2,h3⟩:=b1.o j hj;refine⟨tb,aI,h1,?_⟩;rw[Dy (hc.Am tb h2 (λh=>bX.o ad O.length tc (A9 tb aI) (λh0=>absurd (h0 ▸ hj) (JX _)) rfl h1 (cH.o _ h)))];exact h3
 by_cases bI:K=0
 focus
  subst bI;obtain⟨es,I⟩:∃es,D.AF=es:=⟨_,rfl⟩;have aL:es.length<1099511627776:=I ▸ bW;have bG:=aM.o.eh (.inl ⟨rfl,rfl⟩) (aM.o.Af.s0 _) ((A4.C (One b) w).aj rfl 0 (.slice a1 D.AF.length p1));have bS:Hid (∀f,Dd f es->D.Ap f):=λf X=>.inr (.inl (I ▸ X));have aA:Hid (Da (w.sC b 0 (.slice a1 D.AF.length p1)) b {D with A5:=es} F z):=by rw[<-I];exact⟨_,_,_,_,_,bG.1,λk hk=>a8.o k (bG.2 k hk)⟩
  have cW:Hid (A4 z w (w.sC b 0 (.slice a1 D.AF.length p1))):=(A4.C _ w).aj (a8.o _ .Af) 0 _;have bU:Hid (Ga D dirs=es):=by unfold Hid Ga;rw[b5.o];exact I
  clear I;rw[show ((0:Nat):Int)=0 from rfl]at cE;have cM:=A1 <| cE.o
  go_enter func32,ntmps32
  go_wp2_with (first
   | (go_at_call 75;refine(cM.o _).mono ?_;rintro e w'⟨rfl,rfl⟩)
   | (go_at_call 76;refine(Of _ b _ F _ aA.o aL).mono ?_;rintro e w2⟨v,rfl,aN,aF,bA⟩;obtain⟨al,cl,rfl,_,aQ,aD,_⟩:=Bk aN))
 rotate_left
 focus
  obtain⟨j,rfl⟩:∃j,K=j+1:=⟨K-1,by omega⟩;have aG:j<D.Aq.length:=by omega
  obtain⟨v0,aW,bM⟩:=aM.o.D9 j aG;obtain⟨ak,pk,rfl,-⟩:=bM.BP;obtain⟨es,I⟩:∃es,D.Aq[j]'aG=es:=⟨_,rfl⟩;have aL:es.length<1099511627776:=by rw[<-I];exact cN.o _ (BT aG)
  have bS:Hid (∀f,Dd f es->D.Ap f):=λf X=>.inr (.inr ⟨_,BT aG,I ▸ X⟩);have bU:Hid (Ga D dirs=es):=by
   unfold Hid Ga;rw[b5.o];show D.Aq.getD j []=es;rw[<-I,HZ,DQ aG];rfl
  rw[I]at aW bM;obtain⟨gc,bZ⟩:=a4.o (by omega);subst bZ;have cg:=BD aM.o.An (g:=gc) rfl aW;obtain⟨cgc,cO⟩:=B7 aM.o.An (g:=gc) rfl;have n1:¬gc=b:=λe=>BM cO aM.o.Af (by decide) e;have n2:¬b=gc:=λe=>n1 e.symm;have bG:=aM.o.eh (.inr ⟨j,aG,aW,I.symm⟩) ((aM.o.Af.s0 (.slice a1 D.AF.length p1)).s0 _) (((A4.C (One b) w).aj rfl 0 (.slice a1 D.AF.length p1)).aj rfl 0 (.slice ak es.length pk));have aA:Hid (Da ((w.sC b 0 (.slice a1 D.AF.length p1)).sC b 0 (.slice ak es.length pk)) b {D with A5:=es} F z):=⟨_,_,_,_,_,bG.1,λk hk=>a8.o k (bG.2 k hk)⟩;have cW:Hid (A4 z w ((w.sC b 0 (.slice a1 D.AF.length p1)).sC b 0 (.slice ak es.length pk))):=((A4.C _ w).aj (a8.o _ .Af) 0 _).aj (a8.o _ .Af) 0 _;have k0:(0:Int)<(j:Int)+1:=by omega
  have k1:(0:Int)<=(j:Int):=by omega
  have k2:(j:Int)<(D.Aq.length:Int):=by omega
  have hwj:IntKind.i64.wrap (j:Int)=(j:Int):=by simp only[Jj];omega
  have cM:=A1 <| cE.o
  skip
  go_enter func32,ntmps32
  go_wp2_with (first
   | (go_at_call 75;refine(cM.o _).mono ?_;rintro e w'⟨rfl,rfl⟩)
   | (go_at_call 76;refine(Of _ b _ F _ aA.o aL).mono ?_;rintro e w2⟨v,rfl,aN,aF,bA⟩;obtain⟨al,cl,rfl,_,aQ,aD,_⟩:=Bk aN))
 all_goals
  have s2:w.heap.size<=w2.heap.size:=by have:=aF.Al;simp at this;omega
  have bK:=A1 aN;have b9:Hid (∀g,al.map Addr.block=some g->w.heap.size<=g):=by
   intro g hg
   have:=bA g (by cases al with
    | none=>simp at hg
    | some x=>simp at hg;simp[Value.ownBlock,hg])
   simpa using this
  have a3:Hid (Da w2 b {D with A5:=es} F z):=aA.o.aI λk hk=>aF.Am k (by have:=cZ.o k hk;simpa using this) (λh=>h);have bO:Hid (A4 z w w2):=cW.o.Au aF (λx hx=>hx.elim);have b7:=A1 aD;have cL:=A1 (Mt es es.length (Ao _));unfold maxLen at aQ;go_loopw [44] (λiv wr=>∃i:Nat,i<=es.length/\iv=A0 i/\Hid (Da wr b {D with A5:=es} (DX es O (dList es) F i) z)/\Hid (A4 z w2 wr)) (λiv _=>es.length-(intOf iv).toNat)
  case atStart=>exact⟨0,Ce _,rfl,a3.o,A4.C _ _⟩
  case round=>
   obtain⟨i,hi,rfl,aS,aO⟩:=hrel;by_cases hli:i<es.length
   ·have aX:Hid (A4 z w wr):=bO.o.Au aO.o (λx hx _=>hx);obtain⟨lb,aP⟩:=b7.o (by omega);(have aE:i<(dList es).length:=by have:=cL.o;unfold dList;omega);have aF:wr.cell? (A9 lb i)=some (.string ((dList es)[i]'aE)):=by
     have h1:=BD bK.o (g:=lb) (by rw[aP];rfl) (j:=i) (u:=.string ((dList es)[i]'aE)) (by unfold FN;rw[Pq,DQ aE];rfl);have h2:=b9.o lb (by rw[aP];rfl);rw[Dy (aO.o.Am lb (Ay bK.o (by rw[aP];rfl)) (λh=>by have:=cZ.o lb h;omega))];exact h1
    subst aP;generalize bD:(dList es)[i]'aE=nm at aF;have bL:∃e∈es,e.1=nm:=(A1J es nm).1 (by rw[<-bD];exact BT aE);(have bE:(dList es)[i]?=some nm:=by rw[<-bD];exact DQ aE);obtain⟨G,aV⟩:∃G,DX es O (dList es) F i=G:=⟨_,rfl⟩;have L:=aS.o;rw[aV]at L;obtain⟨cD,bY,cF,a7,VB',E,aK⟩:=L;rcases IX es nm with⟨_,h2⟩|⟨k,hk,h1,h2,h3⟩
    ·exfalso;obtain⟨e,he,h4⟩:=bL;rcases OE es nm with⟨_,h5⟩|⟨k,hk,h5,_⟩
     ·exact h5 e he h4
     ·omega
    ·have bC:=A15 es O (dList es) F 1099511627776 D.Ap dA.o i (es[k]'hk).2 (bS.o _ ⟨_,BT hk,rfl⟩);rw[aV]at bC;obtain⟨aU,a6,a9⟩:=bC;obtain⟨g,cap,a',aB,rfl,hv,z1,z2,z3,z4⟩:=E.BS k hk;have aH:=E.dz k hk rfl hv;have bQ:Hid (D4 wr.drew (AB g es.length cap) es):=E.A5;have cX:=A1 h1;generalize X:(es[k]'hk).2=f at aH
     have fin:Hid (∀(t:Int) (m:Nat) (w':World),t=O.getD i 0->m=(G f).2.toNat+FA t ((G f).1.length-(G f).2.toNat)->w'=(wr.sC f 0 (.slice a' m aB)).sC f 1 (A0 m)->
      Da w' b {D with A5:=es} (DX es O (dList es) F (i+1)) z/\A4 z w2 w'):=by
      intro t m w' ht hm hw;subst X;have:=A1Y (t:=t) aK E aO.o hk hv ⟨aU,a6⟩ m hm w' hw;rw[A13 es O (dList es) F i nm _ bE h2,aV,<-ht];exact this
     rw[X]at aU a6 a9 z3;have x1:=aH.d;have x2:=aH.p;have x3:=aH.f0;have x4:=aH.f1;have x5:=aH.fz;unfold maxLen at z2 z4;have bI:=BR k;(have hk1:(k:Int)<(es.length:Int):=by omega);obtain⟨t,ht⟩:∃t,O.getD i 0=t:=⟨_,rfl⟩;have b0 : -9223372036854775808<=t/\t<=9223372036854775807:=by
      rw[<-ht,HZ];cases hx:O[i]? with
      | none=>simp
      | some y=>exact bV.o y (Ld hx)
     obtain⟨Y,aY⟩:=Lp aU;obtain⟨l,hl⟩:∃l,(G f).1.length=l:=⟨_,rfl⟩;obtain⟨p,hp⟩:∃p,FA t (l-Y)=p:=⟨_,rfl⟩;have bP:=JC t (l-Y);rw[hp]at bP;have aR:Hid (∀w',w'=(wr.sC f 0 (.slice a' (Y+p) aB)).sC f 1 (A0 ((Y+p:Nat):Int))->Da w' b {D with A5:=es} (DX es O (dList es) F (i+1)) z/\A4 z w2 w'):=by
      intro w' hw;exact fin.o t (Y+p) w' ht.symm (by rw[aY,hl,EG,hp]) hw
     rw[aY,hl]at a6;rw[hl]at a9 z3 x3;rw[aY]at x4;have cU:Hid (∀W:World,Ag 75 #[A0 t,A0 ((l:Int)-(Y:Int))] W (Aj (A0 p) λw'=>W=w')):=by
      intro W;have:=RC t ((l:Int)-(Y:Int)) W b0 ⟨by omega,by omega⟩;rw[show ((l:Int)-(Y:Int)).toNat=l-Y from by omega,hp]at this;exact this
     (have q1:Y+p<=aB:=by omega);(have hw1:IntKind.i64.wrap ((l:Int)-(Y:Int))=(l:Int)-(Y:Int):=by simp only[Jj];omega);(have hw2:IntKind.i64.wrap ((Y:Int)+(p:Int))=(Y:Int)+(p:Int):=by simp only[Jj];omega);(have q3:(0:Int)<=(Y:Int)+(p:Int):=by omega);(have q4:(Y:Int)+(p:Int)<=(aB:Int):=by omega);(have q5:((Y:Int)+(p:Int)).toNat=Y+p:=by omega);have cY:=A1 ht;by_cases aZ:i<O.length
     ·obtain⟨tb,aI,bJ,bT⟩:=cJ.o wr aX.o i aZ;(have cA:O[i]'aZ=t:=by have:=cY.o;rw[HZ,DQ aZ]at this;exact this);rw[cA]at bT;subst bJ;(have bN:(i:Int)<(O.length:Int):=by omega);go_wp2;go_region_held3 (λw'=>w'.cell? ⟨b,0,none⟩=some (.slice (some ⟨g,0,none⟩) es.length cap)/\w'.cell? ⟨g,k*2+1,none⟩=some (.pointer (some ⟨f,0,none⟩))) (refine⟨?_,?_⟩<;>go_simp) ((go_at_call 77;refine(Dx _ _ es nm bQ.o).mono ?_;rintro e w'⟨rfl,rfl⟩;rw[cX.o]));go_wp2;refine K9 24 (by kernel_rfl) (by kernel_rfl) ?_;simp only[KY,Fs,Fe,Du,Db]
      repeat still_step
      refine wpStill_step (λK hK=>?_);go_simp;refine⟨_,(cU.o _).mono (λe w' h=>⟨h.1,h.2.symm⟩),hK _ ?_⟩
      repeat still_step
      refine Ka ?_;go_wp2;go_roundw
      case rel=>
       obtain⟨z5,z6⟩:=aR.o _ rfl;refine⟨i+1,by omega,by go_num,?_,?_⟩
       ·exact Da.cq z5 rfl
       ·exact A4.cq z6 rfl rfl rfl rfl
      case measure=>simp[intOf];omega
     ·have cI:t=0:=by
       rw[<-cY.o,HZ,Lg (by omega)];rfl
      subst cI;(have bN:(O.length:Int)<=(i:Int):=by omega);go_wp2;go_region_held3 (λw'=>w'.cell? ⟨b,0,none⟩=some (.slice (some ⟨g,0,none⟩) es.length cap)/\w'.cell? ⟨g,k*2+1,none⟩=some (.pointer (some ⟨f,0,none⟩))) (refine⟨?_,?_⟩<;>go_simp) ((go_at_call 77;refine(Dx _ _ es nm bQ.o).mono ?_;rintro e w'⟨rfl,rfl⟩;rw[cX.o]));go_wp2;refine K9 24 (by kernel_rfl) (by kernel_rfl) ?_;simp only[KY,Fs,Fe,Du,Db]
      repeat still_step
      refine wpStill_step (λK hK=>?_);go_simp;refine⟨_,(cU.o _).mono (λe w' h=>⟨h.1,h.2.symm⟩),hK _ ?_⟩
      repeat still_step
      refine Ka ?_;go_wp2;go_roundw
      case rel=>
       obtain⟨z5,z6⟩:=aR.o _ rfl;refine⟨i+1,by omega,by go_num,?_,?_⟩
       ·exact Da.cq z5 rfl
       ·exact A4.cq z6 rfl rfl rfl rfl
      case measure=>simp[intOf];omega
   ·(have cQ:i=es.length:=by omega);have L:=aS.o;rw[cQ]at L;obtain⟨cD,bY,cF,a7,VB',E,aK⟩:=L;obtain⟨ae,ce,rfl,_⟩:=E.A5.BP;have y0:=E.Af.c0;have y1:=E.Af.c1;have y2:=E.Af.c2;have y5:=E.Af.c5;have y6:=E.Af.c6;have y10:=E.Af.bk;have yz:=E.Af.fz;have bB:=A1 E;have bR:=A1 aK;go_wp2;go_end0;have r1:=bB.o.aF ((bB.o.Af.s1 _).s2 (.slice none 0 0)) (((A4.C (One b) wr).aj rfl 1 _).aj rfl 2 (.slice none 0 0));have r2:=r1.ak (n:={D.n with Bh:=false,CN:=0,DJ:=0}) (((r1.Af.cb false).s5 0).s6 0) ((((A4.C (One b) _).aj rfl 10 (.bool false)).aj rfl 5 (A0 0)).aj rfl 6 (A0 0));have hq:F5 D F dirs O=({A5:=es,AF:=es,Aq:=[],n:={D.n with Bh:=false,CN:=0,DJ:=0}},DX es O (dList es) F es.length):=by
     (have he:Ga D dirs=es:=by exact bU.o);unfold F5;rw[he]
    rw[hq];refine⟨rfl,Dq.bu ?_ r2 ?_⟩
    ·have aX:=bO.o.Au aO.o (λx hx _=>hx);have aJ:=a8.o _ .Af;exact(((((aX.aj aJ 1 _).aj aJ 2 _).aj aJ 10 _).aj aJ 5 _).aj aJ 6 _).ad λk _ hk=>cH.o k hk
    ·intro k hk;have b3:=C5.n (D:={A5:=es,AF:=es,Aq:=[],n:=D.n}) hk;left;refine cH.o k (bR.o k ?_);cases b3 using C5.bH with
     | Af=>exact .Af
     | dir e=>exact .A5 e
     | Ad e=>exact .A5 e
     | An e=>simp[Value.ownBlock]at e
     | D9 hm e=>cases hm
     | BH X=>
      rcases X with X|X|⟨c,a0,_⟩
      ·exact .BH (.inl X)
      ·exact .BH (.inl X)
      ·cases a0
     | byt X e=>
      rcases X with X|X|⟨c,a0,_⟩
      ·exact .bx (.inl X) e
      ·exact .bx (.inl X) e
      ·cases a0
def A2t(l:List UInt8):∀u∈DY l,u.oneCell'=true:=by
 intro u hu;obtain⟨x,_,rfl⟩:=CD.1 hu;rfl
def Er(l:List Nat):List Value:=l.map λf=>(A6 f)
structure CS (N:Nat) (w:World) (bo bm:Nat) (F:Nat->FC) (old made:List Nat) (vo vm:Value) (VB:Nat->Value):Prop where
 ob:w.heap[bo]?=some (.cells #[vo] 138 (0,0))
 mb:w.heap[bm]?=some (.cells #[vm] 138 (0,0))
 ne:bo≠bm
 ol:w.ownsRow 0 123 1 vo old.length (Er old)
 ml:w.ownsRow 0 123 1 vm old.length (Er made)
 Kf:∀g,vo.ownBlock=some g->vm.ownBlock=some g->False
 BH:∀i (h:i<made.length) (h':i<old.length),CY w (made[i]'h) (VB (made[i]'h)) (F (old[i]' h')).2/\G0 w (VB (made[i]'h)) (F (old[i]' h')).1
 Ic:∀f∈old,f<N/\∃c,w.heap[f]?=some (.cells c 129 (0,0))
 Ie:old.Nodup
 OJ:made.Nodup
 Gr:∀m m' g,m∈made->m'∈made->(VB m).ownBlock=some g->(VB m').ownBlock=some g->m=m'
 Ig:N<=bo
 IU:N<=bm
 IS:∀g,vo.ownBlock=some g->N<=g
 IT:∀g,vm.ownBlock=some g->N<=g
 O6:∀m∈made,N<=m
 O7:∀m∈made,∀g,(VB m).ownBlock=some g->N<=g
def CF(bo bm:Nat)(vo vm:Value):Nat->Prop:=λk=>k=bo\/k=bm\/vo.ownBlock=some k\/vm.ownBlock=some k
def Ren(old made:List Nat)(es aA:List AN):Prop:=
 aA.length=es.length/\∀k (h:k<es.length) (d:k<aA.length),(aA[k]'d).1=(es[k]'h).1/\∃i:Nat,old[i]?=some (es[k]'h).2/\made[i]?=some (aA[k]'d).2
def CB(bo bm:Nat)(vo vm:Value)(made:List Nat)(VB:Nat->Value):Nat->Prop:=λk=>
 k=bo\/k=bm\/vo.ownBlock=some k\/vm.ownBlock=some k\/k∈made\/∃m∈made,(VB m).ownBlock=some k
def Ren.ad{old made z d:List Nat}{es aA:List AN}(h:Ren old made es aA):Ren (old++z) (made++d) es aA:=by
 refine⟨h.1,λk I E=>⟨(h.2 k I E).1,?_⟩⟩;obtain⟨i,X,O⟩:=(h.2 k I E).2;refine⟨i,?_,?_⟩
 ·rw[IE (HE.1 X).1];exact X
 ·rw[IE (HE.1 O).1];exact O
def Ren.cj{old made:List Nat}{es aA:List AN}(h:Ren old made es aA){i f m:Nat}{n:ByteArray}(X:old[i]?=some f)(O:made[i]?=some m):Ren old made (es++[(n,f)]) (aA++[(n,m)]):=by
 refine⟨by simp[h.1],λk E hk'=>?_⟩;by_cases z:k<es.length
 ·have d:k<aA.length:=by have:=h.1;omega
  rw[FK z,FK d];exact h.2 k z d
 ·have I:k=es.length:=by simp at E;omega
  have e2:k=aA.length:=by have:=h.1;omega
  subst I;refine⟨?_,i,?_⟩
  ·rw[FV (by omega),FV (by omega)];simp
  ·rw[FV (by omega),FV (by omega)];simp[X,O]
def CS.b0{N:Nat}{w:World}{bo bm:Nat}{F:Nat->FC}{old made:List Nat}{vo vm:Value}{VB:Nat->Value}(h:CS N w bo bm F old made vo vm VB):made.length=old.length:=by
 have:=h.ml.1;simpa[Er] using this
def CS.lt{N:Nat}{w:World}{bo bm:Nat}{F:Nat->FC}{old made:List Nat}{vo vm:Value}{VB:Nat->Value}(h:CS N w bo bm F old made vo vm VB){k:Nat}(d:CB bo bm vo vm made VB k):k<w.heap.size:=by
 have hl:=h.b0;rcases d with rfl|rfl|d|d|d|⟨m,E,d⟩
 ·exact By h.ob
 ·exact By h.mb
 ·exact Ay h.ol d
 ·exact Ay h.ml d
 ·obtain⟨i,z,rfl⟩:=Ep d;exact By (h.BH i z (by omega)).1
 ·obtain⟨i,z,rfl⟩:=Ep E;exact Ay (h.BH i z (by omega)).2 d
def CS.aI{N:Nat}{w w':World}{bo bm:Nat}{F:Nat->FC}{old made:List Nat}{vo vm:Value}{VB:Nat->Value}(h:CS N w bo bm F old made vo vm VB)(d:Gc (CB bo bm vo vm made VB) w w')(ho:Gc (λk=>k∈old) w w'):CS N w' bo bm F old made vo vm VB:=by
 refine⟨(d bo (.inl rfl)).trans h.ob,(d bm (.inr (.inl rfl))).trans h.mb,h.ne,Aw h.ol λg z=>d g (.inr (.inr (.inl z))),Aw h.ml λg z=>d g (.inr (.inr (.inr (.inl z)))),h.Kf,λi O E=>?_,
  λf I=>⟨(h.Ic f I).1,?_⟩,h.Ie,h.OJ,h.Gr,h.Ig,h.IU,h.IS,h.IT,h.O6,h.O7⟩
 ·obtain⟨X,Y⟩:=h.BH i O E;refine⟨?_,Aw Y λg z=>d g (.inr (.inr (.inr (.inr (.inr ⟨_,BT O,z⟩)))))⟩;unfold CY at X ⊢;rw[d _ (.inr (.inr (.inr (.inr (.inl (BT O))))))];exact X
 ·obtain⟨c,hc⟩:=(h.Ic f I).2;exact⟨c,(ho f I).trans hc⟩
def CS.An{N:Nat}{w w':World}{bo bm:Nat}{F:Nat->FC}{old made:List Nat}{vo vm:Value}{VB:Nat->Value}{S:Nat->Prop}(h:CS N w bo bm F old made vo vm VB)(z:A4 S w w')(E:∀k,CB bo bm vo vm made VB k->¬S k)(I:∀k,k<N->¬S k):CS N w' bo bm F old made vo vm VB:=
 h.aI (λk d=>z.Am k (h.lt d) (E k d)) λk d=>z.Am k (By (h.Ic k d).2.choose_spec) (I k (h.Ic k d).1)
def Tryz.eA:(Tryz.prog.info? 129).map (λi=>(i.zero,i.size,i.bytes))=some (some (.agg #[.slice none 0 0,A0 0]),2,32):=by kernel_rfl
def Tryz.fw:(Tryz.prog.info? 123).map (λi=>(i.zero,i.size,i.bytes))=some (some (.pointer none),1,8):=by kernel_rfl
def YB(W:World)(d x f:Nat)(O X:Array Value)(Y:W.heap[x]?=some (.cells O 129 (0,0)))(E:W.heap[f]?=some (.cells X 129 (0,0)))(h:x≠f):
 (Op.equalIn (d+1) 123 (.pointer (some ⟨x,0,none⟩)) (.pointer (some ⟨f,0,none⟩))).run Tryz.prog W=.ok false W:=by
 obtain⟨j0,I,hy0,z,hy2⟩:=DG Tryz.eA;have:=run_sameAddr_other (P:=Tryz.prog) W (a:=⟨x,0,none⟩) (b:=⟨f,0,none⟩) (by simp) Y E;simp[Op.equalIn,run_underlying underlying123,typeInfo,sizeOf,I,z,this]
def YA(W:World)(d x:Nat):(Op.equalIn (d+1) 123 (A6 x) (A6 x)).run Tryz.prog W=.ok true W:=by
 obtain⟨j0,h,_,_,_⟩:=DG Tryz.eA;simp[Op.equalIn,run_underlying underlying123,typeInfo,sizeOf,h,run_sameAddr_same]
def YD(W:World)(x f:Nat)(z d:Array Value)(I:W.heap[x]?=some (.cells z 129 (0,0)))(E:W.heap[f]?=some (.cells d 129 (0,0)))(h:x≠f):
 (binOp .neq 123 (.pointer (some ⟨x,0,none⟩)) (.pointer (some ⟨f,0,none⟩))).run Tryz.prog W=.ok (.bool true) W:=by
 simp only[binOp];simp[Op.equal,Op.maxDepth,YB W 9999 x f z d I E h]
def YC(W:World)(x:Nat):(binOp .neq 123 (A6 x) (A6 x)).run Tryz.prog W=.ok (.bool false) W:=by
 simp only[binOp];simp[Op.equal,Op.maxDepth,YA W 9999 x]
structure EE (N:Nat) (w:World) (bo bm:Nat) (F:Nat->FC) (old made:List Nat) (vo vm:Value) (VB:Nat->Value) (es:List AN) (i cn:Nat) (ov:Value) (wr:World) (L M:List Nat) (aD aB:Value) (VB':Nat->Value) (aA:List AN):Prop where
 cs:CS N wr bo bm F L M aD aB VB'
 EZ:D4 wr ov aA
 ren:Ren L M (es.take i) aA
 GF:∃old',L=old++old'/\old'.length<=cn/\∀f∈old',Dd f es
 JA:∃made',M=made++made'/\∀m∈made',w.heap.size<=m
 AV:∀g,ov.ownBlock=some g->w.heap.size<=g
 An:A4 (CF bo bm vo vm) w wr
 KR:∀g,aD.ownBlock=some g->vo.ownBlock=some g\/w.heap.size<=g
 My:∀g,aB.ownBlock=some g->vm.ownBlock=some g\/w.heap.size<=g
 P7:∀m∈made,VB' m=VB m
def OR(N:Nat)(w:World)(bo bm:Nat)(F:Nat->FC)(old made:List Nat)(vo vm:Value)(VB:Nat->Value)(es:List AN)(i:Nat)(ov:Value)(wr:World):Prop:=
 ∃L M aD aB VB' aA,EE N w bo bm F old made vo vm VB es i i ov wr L M aD aB VB' aA
def CS.db{N:Nat}{w:World}{bo bm:Nat}{F:Nat->FC}{old made:List Nat}{vo vm:Value}{VB:Nat->Value}(h:CS N w bo bm F old made vo vm VB){k:Nat}(d:CB bo bm vo vm made VB k\/k∈old):∃c e,w.heap[k]?=some (.cells c e (0,0))/\e≠125:=by
 have hl:=h.b0;rcases d with (rfl|rfl|d|d|d|⟨m,I,d⟩)|d
 ·exact⟨_,_,h.ob,by decide⟩
 ·exact⟨_,_,h.mb,by decide⟩
 ·obtain⟨c,z⟩:=B7 h.ol d;exact⟨c,_,z,by decide⟩
 ·obtain⟨c,z⟩:=B7 h.ml d;exact⟨c,_,z,by decide⟩
 ·obtain⟨i,E,rfl⟩:=Ep d;exact⟨_,_,(h.BH i E (by omega)).1,by decide⟩
 ·obtain⟨i,E,rfl⟩:=Ep I;obtain⟨c,z⟩:=B7 (h.BH i E (by omega)).2 d;exact⟨c,_,z,by decide⟩
 ·obtain⟨c,z⟩:=(h.Ic k d).2;exact⟨c,_,z,by decide⟩
section
variable {N:Nat} {w wr W w3:World} {bo bm:Nat} {F:Nat->FC} {old made:List Nat} {vo vm:Value} {VB:Nat->Value} {es:List AN} {i cn:Nat} {ov:Value} {L M:List Nat} {aD aB:Value} {VB':Nat->Value} {aA:List AN}
def EE.bW(h:EE N w bo bm F old made vo vm VB es i cn ov wr L M aD aB VB' aA)(d:A4 Aa wr W):EE N w bo bm F old made vo vm VB es i cn ov W L M aD aB VB' aA:=
 ⟨h.cs.An d (λ_ _ h=>h) (λ_ _ h=>h),Aw h.EZ λg z=>d.Am g (Ay h.EZ z) (λh=>h),h.ren,h.GF,h.JA,h.AV,h.An.Au d (λ_ h _=>h.elim),h.KR,h.My,h.P7⟩
def EE.cj(h:EE N w bo bm F old made vo vm VB es i cn ov W L M aD aB VB' aA){j f mf:Nat}{nm:ByteArray}{v':Value}(I:i<es.length)(Y:(es[i]'I).1=nm)(O:(es[i]'I).2=f)(hj:L[j]?=some f)(hm:M[j]?=some mf)(hcn:cn<=i+1)(E:App W w3 125 2 ov v' (aA.length+1) (BU aA++[.string nm,.pointer (some ⟨mf,0,none⟩)])):EE N w bo bm F old made vo vm VB es (i+1) (i+1) v' w3 L M aD aB VB' (aA++[(nm,mf)]):=by
 have hs:∀k,CB bo bm aD aB M VB' k\/k∈L->w3.heap[k]?=W.heap[k]?:=by
  intro k z;obtain⟨c,e,d,h2⟩:=h.cs.db z
  exact E.C4.block k (By d) (λe=>by
   obtain⟨c',X⟩:=B7 h.EZ e.symm
   exact BM d X h2 rfl)
 refine⟨h.cs.aI (λk z=>hs k (.inl z)) (λk z=>hs k (.inr z)),?_,?_,?_,h.JA,?_,?_,h.KR,h.My,h.P7⟩
 ·have:=E.AE;unfold D4;rw[KN,Ba];exact this
 ·rw[<-List.take_append_getElem I];have:es[i]'I=(nm,f):=by rw[<-Y,<-O]
  rw[this];exact h.ren.cj hj hm
 ·obtain⟨o,d,h2,X⟩:=h.GF;exact⟨o,d,by omega,X⟩
 ·intro g hg;rcases E.BS with d|d
  ·exact h.AV g (d.symm.trans hg)
  ·rw[hg]at d;cases d;exact h.An.Al
 ·exact h.An.C4 E.C4 λk z hlt=>by have:=h.AV k z;omega
def EE.cF{w1 w2 I w6 aG:World}{f nq ne:Nat}{vb:Value}{a3 a6:Option Addr}{c3 c6:Nat}(h:EE N w bo bm F old made vo vm VB es i cn ov w1 L M aD aB VB' aA)(aV:L.length=ne)(hf:f∉L)(a4:Dd f es)(a0:f<N)(aW:∃c,w1.heap[f]?=some (.cells c 129 (0,0)))(aR:A4 (λ_=>False) w1 w2)(hA:App ((w2.drewN nq).alloc (.cells #[.pointer (some ⟨f,0,none⟩)] 123)) w3 123 1 aD (.slice a3 (ne+1) c3) (ne+1) (Er L++[.pointer (some ⟨f,0,none⟩)]))(aM:w3.setCell ⟨bo,0,none⟩ (.slice a3 (ne+1) c3)=aG)(hB:App aG.drew I 5 1 (.slice none 0 0) vb (F f).1.length (DY (F f).1))(hC:App ((I.alloc (.cells #[vb,.int .i64 (F f).2] 129)).alloc (.cells #[.pointer (some ⟨I.heap.size,0,none⟩)] 123)) w6 123 1 aB (.slice a6 (ne+1) c6) (ne+1) (Er M++[.pointer (some ⟨I.heap.size,0,none⟩)])):
 EE N w bo bm F old made vo vm VB es i (cn+1) ov (w6.setCell ⟨bm,0,none⟩ (.slice a6 (ne+1) c6)) (L++[f]) (M++[I.heap.size]) (.slice a3 (ne+1) c3) (.slice a6 (ne+1) c6) (λm=>if m=I.heap.size then vb else VB' m) aA:=by
 subst aV;have hl:=h.cs.b0;have s2:=aR.Al;have s3:=hA.C4.size;have s4:aG.heap.size<=I.heap.size:=hB.C4.size;have s6:=hC.C4.size;have sW:aG.heap.size=w3.heap.size:=by rw[<-aM];simp
 simp only[MH,World.heap_drewN]at s3 s6;have aX:bo<w1.heap.size:=By h.cs.ob;have a5:bm<w1.heap.size:=By h.cs.mb;have a2:∀g,aD.ownBlock=some g->g<w1.heap.size:=λg d=>Ay h.cs.ol d;have aK:∀g,aB.ownBlock=some g->g<w1.heap.size:=λg d=>Ay h.cs.ml d;have k3:A4 (λk=>aD.ownBlock=some k) w1 w3:=((((aR.ad (S':=λk=>aD.ownBlock=some k) λ_ _ h=>h.elim)).aX nq).ah (.cells #[.pointer (some ⟨f,0,none⟩)] 123)).C4 hA.C4 (λk hk _=>hk);have aJ:A4 (λk=>aB.ownBlock=some k) aG w6:=((((A4.C (λk=>aB.ownBlock=some k) aG).aa.C4 hB.C4 (λk hk _=>by simp[Value.ownBlock]at hk)).ah (.cells #[vb,.int .i64 (F f).2] 129)).ah (.cells #[.pointer (some ⟨I.heap.size,0,none⟩)] 123)).C4 hC.C4 (λk hk _=>hk);have aS:w3.heap[bo]?=some (.cells #[aD] 138 (0,0)):=(k3.Am bo aX (λe=>by obtain⟨c,Y⟩:=B7 h.cs.ol e;exact BM Y h.cs.ob (by decide) rfl)).trans h.cs.ob;have a1:aG.heap[bo]?=some (.cells #[.slice a3 (L.length+1) c3] 138 (0,0)):=by rw[<-aM];exact BL aS
 have kW:A4 (One bo) w3 aG:=by rw[<-aM];exact(A4.C (One bo) w3).aj rfl 0 _
 have aQ:w3.heap[bm]?=some (.cells #[aB] 138 (0,0)):=(k3.Am bm a5 (λe=>by obtain⟨c,Y⟩:=B7 h.cs.ol e;exact BM Y h.cs.mb (by decide) rfl)).trans h.cs.mb;have aO:aG.heap[bm]?=some (.cells #[aB] 138 (0,0)):=(kW.Am bm (By aQ) (λe=>h.cs.ne e.symm)).trans aQ
 have aU:w6.heap[bm]?=some (.cells #[aB] 138 (0,0)):=(aJ.Am bm (By aO) (λe=>by
  obtain⟨c,Y⟩:=B7 h.cs.ml e;exact BM Y h.cs.mb (by decide) rfl)).trans aO
 have k7:A4 (One bm) w6 (w6.setCell ⟨bm,0,none⟩ (.slice a6 (L.length+1) c6)):=(A4.C (One bm) w6).aj rfl 0 _;have e7:(w6.setCell ⟨bm,0,none⟩ (.slice a6 (L.length+1) c6)).heap[bm]?=some (.cells #[.slice a6 (L.length+1) c6] 138 (0,0)):=BL aU;generalize aY:w6.setCell ⟨bm,0,none⟩ (.slice a6 (L.length+1) c6)=W7 at k7 e7 ⊢;have s7:W7.heap.size=w6.heap.size:=by rw[<-aY];simp
 have aT:A4 (λk=>k=bo\/k=bm\/aD.ownBlock=some k\/aB.ownBlock=some k) w1 W7:=by
  refine(((k3.ad (S':=λk=>k=bo\/k=bm\/aD.ownBlock=some k\/aB.ownBlock=some k) (λx _ E=>.inr (.inr (.inl E)))).Au kW (λx E _=>.inl E)).Au aJ (λx E _=>.inr (.inr (.inr E)))).Au k7 (λx E _=>.inr (.inl E))
 have key:∀(k:Nat) (c:Array Value) (e:Nat),w1.heap[k]?=some (Obj.cells c e (0,0))->e≠138->e≠123->W7.heap[k]?=w1.heap[k]?:=λk c e hk h1 h2=>
  aT.Am k (By hk) (by
   rintro (rfl|rfl|d|d)
   ·exact BM hk h.cs.ob h1 rfl
   ·exact BM hk h.cs.mb h1 rfl
   ·obtain⟨c',Y⟩:=B7 h.cs.ol d;exact BM hk Y h2 rfl
   ·obtain⟨c',Y⟩:=B7 h.cs.ml d;exact BM hk Y h2 rfl)
 have aH:∀g,(Value.slice a3 (L.length+1) c3).ownBlock=some g->aD.ownBlock=some g\/(w1.heap.size<=g/\g<w3.heap.size):=λg d=>by
  have O:=Ay hA.AE d;rcases hA.BS with e|e
  ·rw[e]at d;exact .inl d
  ·rw[e]at d;cases d;right;simp at O ⊢;omega
 have aN:∀g,(Value.slice a6 (L.length+1) c6).ownBlock=some g->aB.ownBlock=some g\/I.heap.size+2<=g:=λg d=>by
  rcases hC.BS with e|e
  ·rw[e]at d;exact .inl d
  ·rw[e]at d;cases d;right;simp
 have aI:∀g,vb.ownBlock=some g->aG.heap.size<=g:=λg d=>by
  rcases hB.BS with e|e
  ·rw[e]at d;simp[Value.ownBlock]at d
  ·rw[e]at d;cases d;simp
 have hM:∀m∈M,m<w1.heap.size:=λm z=>h.cs.lt (.inr (.inr (.inr (.inr (.inl z)))));have aP:∀m∈M,∀g,(VB' m).ownBlock=some g->g<w1.heap.size:=λm z g d=>h.cs.lt (.inr (.inr (.inr (.inr (.inr ⟨m,z,d⟩)))));have hNw:N<=w1.heap.size:=by have:=h.cs.Ig;omega
 have hww:=h.An.Al;have oL:W7.ownsRow 0 123 1 (.slice a3 (L.length+1) c3) (L.length+1) (Er L++[.pointer (some ⟨f,0,none⟩)]):=by
  have q1:aG.ownsRow 0 123 1 (.slice a3 (L.length+1) c3) (L.length+1) (Er L++[.pointer (some ⟨f,0,none⟩)]):=
   Aw hA.AE λg d=>kW.Am g (Ay hA.AE d) (λe=>by obtain⟨c,Y⟩:=B7 hA.AE d;exact BM Y aS (by decide) e)
  have q2:w6.ownsRow 0 123 1 (.slice a3 (L.length+1) c3) (L.length+1) (Er L++[.pointer (some ⟨f,0,none⟩)]):=Aw q1 λg d=>by
   have O:=Ay hA.AE d;refine aJ.Am g (by omega) (λe=>?_);rcases aH g d with e2|e2
   ·exact h.cs.Kf g e2 e
   ·have:=aK g e;omega
  refine Aw q2 λg d=>?_;have O:=Ay hA.AE d;refine k7.Am g (by omega) (λe=>?_);rcases aH g d with e2|e2
  ·obtain⟨c,Y⟩:=B7 h.cs.ol e2;exact BM Y h.cs.mb (by decide) e
  ·have:g=bm:=e;omega
 have oM:W7.ownsRow 0 123 1 (.slice a6 (L.length+1) c6) (L.length+1) (Er M++[.pointer (some ⟨I.heap.size,0,none⟩)]):=by
  refine Aw hC.AE λg d=>k7.Am g (Ay hC.AE d) (λe=>?_);obtain⟨c,Y⟩:=B7 hC.AE d;exact BM Y aU (by decide) e
 have fB:CY W7 I.heap.size vb (F f).2:=by
  have h5:((I.alloc (.cells #[vb,.int .i64 (F f).2] 129)).alloc (.cells #[.pointer (some ⟨I.heap.size,0,none⟩)] 123)).heap[I.heap.size]?=some (.cells #[vb,.int .i64 (F f).2] 129 (0,0)):=by
   rw[CQ _ _ _ (by simp)];exact Bf _ _
  have h6:=(hC.C4.block _ (by simp;omega) (λe=>by have:=aK _ e.symm;omega)).trans h5;exact(k7.Am _ (by omega) (λe=>by have:I.heap.size=bm:=e;omega)).trans h6
 have bB:G0 W7 vb (F f).1:=by
  refine Aw hB.AE λg d=>?_;have O:=Ay hB.AE d;have hge:=aI g d;have h5:((I.alloc (.cells #[vb,.int .i64 (F f).2] 129)).alloc (.cells #[.pointer (some ⟨I.heap.size,0,none⟩)] 123)).heap[g]?=I.heap[g]?:=by
   rw[CQ _ _ _ (by simp;omega),CQ _ _ _ O]
  rw[<-h5,<-hC.C4.block g (by simp;omega) (λe=>by have:=aK _ e.symm;omega)];exact k7.Am _ (by omega) (λe=>by have:g=bm:=e;omega)
 have aE:I.heap.size∉M:=λz=>by have:=hM _ z;omega
 have aZ:CS N W7 bo bm F (L++[f]) (M++[I.heap.size]) (.slice a3 (L.length+1) c3) (.slice a6 (L.length+1) c6) (λm=>if m=I.heap.size then vb else VB' m):=by
  refine⟨?_,e7,h.cs.ne,?_,?_,?_,?_,?_,?_,?_,?_,h.cs.Ig,h.cs.IU,?_,?_,?_,?_⟩
  ·refine(k7.Am bo (by omega) h.cs.ne).trans ((aJ.Am bo (by omega) (λe=>?_)).trans a1);obtain⟨c,Y⟩:=B7 h.cs.ml e;exact BM Y h.cs.ob (by decide) rfl
  ·simpa[Er] using oL
  ·simpa[Er] using oM
  ·intro g h1 h2;rcases aH g h1 with e1|e1<;>rcases aN g h2 with e2|e2
   ·exact h.cs.Kf g e1 e2
   ·have:=a2 g e1;omega
   ·have:=aK g e2;omega
   ·omega
  ·intro j hj a8;by_cases O:j<M.length
   ·(have aL:j<L.length:=by omega);have z:M[j]'O≠I.heap.size:=λe=>aE (e ▸ BT O);obtain⟨q1,q2⟩:=h.cs.BH j O aL;simp only[FK O,FK aL,z,C3];refine⟨?_,Aw q2 λg d=>?_⟩
    ·unfold CY at q1 ⊢;rw[key _ _ _ q1 (by decide) (by decide)];exact q1
    ·obtain⟨c,Y⟩:=B7 q2 d;exact key _ _ _ Y (by decide) (by decide)
   ·(obtain rfl:j=M.length:=by simp at hj;omega);(have e1:(M++[I.heap.size])[M.length]'hj=I.heap.size:=by simp);(have e2:(L++[f])[M.length]'a8=f:=by simp[hl]);rw[e1,e2];simp only[Ci];exact⟨fB,bB⟩
  ·intro x E;rcases AY.1 E with E|E
   ·obtain⟨q1,c,q2⟩:=h.cs.Ic x E;exact⟨q1,c,(key _ _ _ q2 (by decide) (by decide)).trans q2⟩
   ·simp at E;subst E;obtain⟨c,hc⟩:=aW;exact⟨a0,c,(key _ _ _ hc (by decide) (by decide)).trans hc⟩
  ·refine Hf.2 ⟨h.cs.Ie,by simp,λa ha b hb e=>?_⟩;simp at hb;subst hb;subst e;exact hf ha
  ·refine Hf.2 ⟨h.cs.OJ,by simp,λa ha b hb e=>?_⟩;simp at hb;subst hb;subst e;exact aE ha
  ·intro m m' g z X d aF;rcases AY.1 z with z|z<;>rcases AY.1 X with X | X
   ·have n1:m≠I.heap.size:=λe=>aE (e ▸ z);have n2:m'≠I.heap.size:=λe=>aE (e ▸ X);simp only[n1,n2,C3]at d aF;exact h.cs.Gr m m' g z X d aF
   ·have n1:m≠I.heap.size:=λe=>aE (e ▸ z);simp at X;subst X;simp only[n1,C3]at d;simp at aF;have:=aP m z g d;have:=aI g aF;omega
   ·have n1:m'≠I.heap.size:=λe=>aE (e ▸ X);simp at z;subst z;simp only[n1,C3]at aF;simp at d;have:=aP m' X g aF;have:=aI g d;omega
   ·simp at z X;rw[z,X]
  ·intro g d;rcases aH g d with e|e
   ·exact h.cs.IS g e
   ·omega
  ·intro g d;rcases aN g d with e|e
   ·exact h.cs.IT g e
   ·omega
  ·intro m z;rcases AY.1 z with z|z
   ·exact h.cs.O6 m z
   ·simp at z;omega
  ·intro m z g d;rcases AY.1 z with z|z
   ·have n1:m≠I.heap.size:=λe=>aE (e ▸ z);simp only[n1,C3]at d;exact h.cs.O7 m z g d
   ·simp at z;subst z;simp at d;have:=aI g d;omega
 refine⟨aZ,?_,h.ren.ad,?_,?_,h.AV,?_,?_,?_,?_⟩
 ·refine Aw h.EZ λg d=>?_;obtain⟨c,Y⟩:=B7 h.EZ d;exact key _ _ _ Y (by decide) (by decide)
 ·obtain⟨o,h1,h2,h3⟩:=h.GF;refine⟨o++[f],by rw[h1,C8],by simp;omega,λx E=>?_⟩;rcases AY.1 E with E|E
  ·exact h3 x E
  ·simp at E;subst E;exact a4
 ·obtain⟨o,h1,h2⟩:=h.JA;refine⟨o++[I.heap.size],by rw[h1,C8],λx E=>?_⟩;rcases AY.1 E with E|E
  ·exact h2 x E
  ·simp at E;omega
 ·refine h.An.Au aT ?_;rintro x (rfl|rfl|E|E) O
  ·exact .inl rfl
  ·exact .inr (.inl rfl)
  ·rcases h.KR x E with e|e
   ·exact .inr (.inr (.inl e))
   ·omega
  ·rcases h.My x E with e|e
   ·exact .inr (.inr (.inr e))
   ·omega
 ·intro g d;rcases aH g d with e|e
  ·exact h.KR g e
  ·right;omega
 ·intro g d;rcases aN g d with e|e
  ·exact h.My g e
  ·right;omega
 ·intro m z;obtain⟨o,h1,_⟩:=h.JA;have a7:m∈M:=by rw[h1];exact AY.2 (.inl z)
  have n1:m≠I.heap.size:=λe=>aE (e ▸ a7);simp only[n1,C3];exact h.P7 m z
end
def YP(N:Nat)(w:World)(bo bm:Nat)(F:Nat->FC)(old made:List Nat)(vo vm:Value)(VB:Nat->Value)(h:CS N w bo bm F old made vo vm VB)(es:List AN)(vl:Value)(bR:D4 w vl es)(dD:∀g,vl.ownBlock=some g->g<N)(hn:es.length<1099511627776/\old.length<1099511627776)(hf:∀f,Dd f es->f<N/\(F f).1.length<=1099511627776/\∃v,CY w f v (F f).2/\G0 w v (F f).1/\∀g,v.ownBlock=some g->g<N):
 Ag 87 #[vl,A6 bo,A6 bm] w λe w'=>∃v,e=.returned v/\OR N w bo bm F old made vo vm VB es es.length v w':=by
 have H:=A1 h;have b0:=A1 hf;have dO:=A1 bR;have dR:=A1 dD;obtain⟨a,cap,rfl,hle,cS,he⟩:=bR.BP;have dP:=A1 he;obtain⟨hn1,hn2⟩:=hn;unfold maxLen at cS
 go_enter func87,ntmps87
 go_wp2;go_loopw [5,11] (λov iv wr=>∃i:Nat,i<=es.length/\iv=A0 i/\Hid (OR N w bo bm F old made vo vm VB es i ov wr)) (λ_ iv _=>es.length-(intOf iv).toNat)
 case atStart=>exact⟨0,Ce _,rfl,old,made,vo,vm,VB,[],H.o,Cp _ _ _ _,⟨by simp,by simp⟩,⟨[],by simp⟩,⟨[],by simp⟩,by simp[Value.ownBlock],A4.C _ _,λ_ h=>.inl h,λ_ h=>.inl h,λ_ _=>rfl⟩
 case round=>
  obtain⟨i,hi,rfl,bJ⟩:=hrel;by_cases aH:i<es.length
  ·obtain⟨L,M,aD,aB,VB',aA,k0⟩:=bJ.o;have k1:=k0.cs;have k6:=k0.An;obtain⟨g,rfl,e1,e2⟩:=dP.o i aH;have hgN:=dR.o g rfl;have bA:=Ay dO.o (g:=g) rfl;have bP:¬CF bo bm vo vm g:=by
    rintro (rfl|rfl|X|X)
    ·have:=H.o.Ig;omega
    ·have:=H.o.IU;omega
    ·have:=H.o.IS g X;omega
    ·have:=H.o.IT g X;omega
   have e3:=(Dy (k6.Am g bA bP)).trans e1;have e4:=(Dy (k6.Am g bA bP)).trans e2;obtain⟨nm,bD⟩:∃nm,(es[i]'aH).1=nm:=⟨_,rfl⟩;obtain⟨f,aN⟩:∃f,(es[i]'aH).2=f:=⟨_,rfl⟩;rw[bD]at e3;rw[aN]at e4;have b7:=A1 k1;have bZ:=A1 k6;have cF:=A1 <| (b0.o f ⟨_,BT aH,aN⟩).2.1;have cV:Hid (∃v,(∀g,v.oB g->g<N)/\∀W,A4 (CF bo bm vo vm) w W->CY W f v (F f).2/\G0 W v (F f).1):=by
    obtain⟨h1,_,v,h2,h3,h4⟩:=b0.o f ⟨_,BT aH,aN⟩;have key:∀k,k<N->¬CF bo bm vo vm k:=by
     rintro k hk (rfl|rfl|X|X)
     ·have:=H.o.Ig;omega
     ·have:=H.o.IU;omega
     ·have:=H.o.IS k X;omega
     ·have:=H.o.IT k X;omega
    refine⟨v,h4,λW hc=>⟨(hc.Am f (By h2) (key f h1)).trans h2,Aw h3 λg X=>hc.Am g (Ay h3 X) (key g (h4 g X))⟩⟩
   have bQ:Hid (∀W:World,A4 (CF bo bm vo vm) w W->∃c,W.heap[f]?=some (.cells c 129 (0,0))):=by
    intro W hc;obtain⟨h1,_,v,h2,_⟩:=b0.o f ⟨_,BT aH,aN⟩;refine⟨_,(hc.Am f (By h2) ?_).trans h2⟩;rintro (rfl|rfl|X|X)
    ·have:=H.o.Ig;omega
    ·have:=H.o.IU;omega
    ·have:=H.o.IS f X;omega
    ·have:=H.o.IT f X;omega
   have hLl:L.length<2199023255552:=by
    obtain⟨o,h1,h2,_⟩:=k0.GF;rw[h1,Ba];omega
   (have hEl:aA.length=i:=by have:=k0.ren.1;rw[BI]at this;omega);obtain⟨i0,bS,bG,bV,bN⟩:=DG Tryz.cS;have bI:=A1 bD;have aX:=A1 aN;obtain⟨ne,aW⟩:∃ne,aA.length=ne:=⟨_,rfl⟩;(have hne2:ne<1099511627776:=by omega);have aT:=A1 aW;have cC:=A1 k0;obtain⟨ao,co,rfl,ho1,cQ,dC,_,_⟩:=Bk k1.ol;unfold maxLen at cQ;go_wp2;have dF:=A1 dC;obtain⟨O,cE⟩:∃O,O=wr:=⟨_,rfl⟩;subst cE;have hsz:=By b7.o.ob;go_loopw [8] (λjv w2=>∃j:Nat,j<=L.length/\jv=A0 j/\Hid (∀m (h:m<L.length),m<j->L[m]'h≠f)/\Hid (A4 Aa (O.aC #[.string nm,A6 f] 125) w2)) (λjv _=>L.length-(intOf jv).toNat)
   case atStart=>exact⟨0,Ce _,rfl,λm h hm=>by omega,A4.C _ _⟩
   case round=>
    obtain⟨j,hj,rfl,bE,aG⟩:=hrel;obtain⟨w2,cB⟩:∃w2,w2=wr:=⟨_,rfl⟩;subst cB;have bO:Hid (A4 (CF bo bm vo vm) w w2):=(bZ.o.ah _).Au aG.o (λ_ h _=>h.elim);have I:Hid (CS N w2 bo bm F L M (.slice ao L.length co) aB VB'):=(b7.o.An ((A4.C Aa O).ah _) (λ_ _ h=>h) (λ_ _ h=>h)).An aG.o (λ_ _ h=>h) (λ_ _ h=>h);(have b1:w2.cell? (A9 bo 0)=some (.slice ao L.length co):=by have:=I.o.ob;simp[World.cell?,this]);have hE:=(aG.o.Am O.heap.size (by simp) (λh=>h)).trans (Bf O _);(have b2:w2.cell? (A9 O.heap.size 0)=some (.string nm):=by simp[World.cell?,hE]);(have b3:w2.cell? (A9 O.heap.size 1)=some (A6 f):=by simp[World.cell?,hE]);by_cases aL:j<L.length
    ·obtain⟨go,rfl⟩:=dF.o (by omega);obtain⟨x,hx⟩:∃x,L[j]'aL=x:=⟨_,rfl⟩;have b4:w2.cell? (A9 go j)=some (A6 x):=by
      refine BD I.o.ol (g:=go) rfl ?_;unfold Er;rw[Pq,DQ aL,hx];rfl
     have dA:=A1 hx;by_cases a1:x=f
     ·subst a1;have q:=λW=>YC W x;go_wp2;go_quiet (fail);go_wp2;obtain⟨mf,a8⟩:∃mf,M[j]?=some mf:=⟨M[j]'(by rw[I.o.b0];exact aL),DQ _⟩;obtain⟨am,cm,a0,aU,aM,aQ,_,_⟩:=Bk I.o.ml;subst a0;obtain⟨gm,rfl⟩:=aQ (by omega);unfold maxLen at aM;(have b5:w2.cell? (A9 bm 0)=some (AB gm L.length cm):=by have:=I.o.mb;simp[World.cell?,this]);have b6:w2.cell? (A9 gm j)=some (A6 mf):=by
       refine BD I.o.ml (g:=gm) rfl ?_;unfold Er;rw[Pq,a8];rfl
      have cO:=A1 a8;have Y:Hid (∀n,EE N w bo bm F old made vo vm VB es i i u5 ((w2.drewN n).aC #[.string nm,A6 mf] 125) L M (AB go L.length co) (AB gm L.length cm) VB' aA):=
       λn=>cC.o.bW (((((A4.C Aa O).ah _).tr aG.o).aX n).ah _)
      have aP:Hid (∀n,((w2.drewN n).aC #[.string nm,A6 mf] 125).ownsRow 0 125 2 u5 ne (BU aA)):=λn=>aT.o ▸ (Y.o n).EZ;have aZ:Hid (∀n,Src Tryz.prog 2 92 (AB w2.heap.size 1 1) 1 [.string nm,A6 mf] ((w2.drewN n).aC #[.string nm,A6 mf] 125)):=
       λn=>Src.a8 underlying92 (w2.drewN n) #[.string nm,A6 mf] 125 w2.heap.size (by simp) 1 1 rfl (by simp[Value.oneCell'])
      (have aR:(ne+1)*24<=140737488355328:=by omega);have aO:Hid (∀n b3 z w3,App ((w2.drewN n).aC #[.string nm,A6 mf] 125) w3 125 2 u5 (.slice b3 (ne+1) z) (ne+1) (BU aA++[.string nm,A6 mf])->OR N w bo bm F old made vo vm VB es (i+1) (.slice b3 (ne+1) z) w3):=by
       intro n b3 z w3 hA;exact⟨_,_,_,_,_,_,(Y.o n).cj aH bI.o aX.o (by rw[DQ aL,dA.o]) cO.o (by omega) (by rw[aT.o];exact hA)⟩
      go_region_law
       ((refine Jt ?_ (.tmp 55) (.tmp 63) 92 92 ?_ 125 i0 _ 2 24 underlying92 bS bG bV bN rfl (Nat.zero_lt_succ 23) u5 ne (BU aA) ?_ (aP.o (nq+1)) (AB w2.heap.size 1 1) 1 [.string nm,A6 mf] ?_ (aZ.o (nq+1)) aR ?_;(· rfl);(· rfl);(· rfl);(· rfl);intro b3 z w3 hA;have cL:=A1 (aO.o (nq+1) b3 z w3 hA)))
      all_goals (go_wp2;go_roundw;(case rel=>exact⟨i+1,by omega,by go_num,cL.o⟩);(case measure=>simp[intOf];omega))
     ·obtain⟨cx,cA⟩:=(I.o.Ic x (dA.o ▸ BT aL)).2;have q:∀n:Nat,(binOp .neq 123 (A6 x) (A6 f)).run Tryz.prog (w2.drewN n)=.ok (.bool true) (w2.drewN n):=by
       intro n;obtain⟨cf,cG⟩:=bQ.o w2 (bO.o);exact YD _ x f cx cf (by simpa using cA) (by simpa using cG) a1
      go_wp2;go_quiet (fail);go_wp2;go_roundw
      case rel=>
       refine⟨j+1,by omega,by go_num,λm h hm=>?_,aG.o.aX _⟩;by_cases cD:m=j
       ·subst cD;rw[dA.o];exact a1
       ·exact bE.o m h (by omega)
      case measure=>simp[intOf];omega
    ·(obtain rfl:j=L.length:=by omega);obtain⟨p0,hp,bW,bT,bM⟩:=DG Tryz.fw;have aZ:Hid (∀n,Src Tryz.prog 1 138 (AB w2.heap.size 1 1) 1 [A6 f] ((w2.drewN n).aC #[A6 f] 123)):=
      λn=>Src.a8 underlying138 (w2.drewN n) #[A6 f] 123 w2.heap.size (by simp) 1 1 rfl (by simp[Value.oneCell'])
     have cJ:Hid (∀n,((w2.drewN n).aC #[A6 f] 123).ownsRow 0 123 1 (.slice ao L.length co) L.length (Er L)):=
      λn=>Aw I.o.ol λg X=>CQ _ _ _ (by simpa using Ay I.o.ol X)
     (have aR:(L.length+1)*8<=140737488355328:=by omega)
     have dN:Hid (∀n w3 a3 z,App ((w2.drewN n).aC #[A6 f] 123) w3 123 1 (.slice ao L.length co) (.slice a3 (L.length+1) z) (L.length+1) (Er L++[A6 f])->
      w3.frozen? (A9 bo 0)=false/\w3.cell? (A9 bo 0)=some (.slice ao L.length co)/\A4 (λk=>k=bo\/(Value.slice ao L.length co).oB k) w2 (w3.setCell (A9 bo 0) (.slice a3 (L.length+1) z))):=by
      intro n w3 a3 z hA;have aW:(Value.slice ao L.length co).ownBlock≠some bo:=λe=>by
       obtain⟨c,hh⟩:=B7 I.o.ol e;exact BM hh I.o.ob (by decide) rfl
      have bH:w3.heap[bo]?=some (.cells #[.slice ao L.length co] 138 (0,0)):=by
       rw[hA.C4.block bo (by have:=By I.o.ob;simp;omega) (λe=>aW e.symm),CQ _ _ _ (by simpa using By I.o.ob)];exact I.o.ob
      refine⟨by simp[World.frozen?,bH],by simp[World.cell?,bH],?_⟩;exact((((A4.C _ w2).aX n).ah _).C4 hA.C4 (λk hk _=>.inr hk)).aj (.inl rfl) 0 _
     go_wp2;go_quiet (fail);go_wp2_with (at_builtin;refine CZ rfl (.tmp 34) (.tmp 37) 138 138 rfl 123 p0 _ 1 8 underlying138 hp bW bT bM rfl (by decide) _ _ _ (by rfl) (cJ.o nq) _ 1 _ (by rfl) (aZ.o nq) aR ?_;intro a3 z w3 hA;have c3:=A1 (dN.o nq w3 a3 z hA);have f3:=c3.o.1;have g3:=c3.o.2.1);have aJ:=c3.o.2.2;generalize cX:w3.setCell (A9 bo 0) (.slice a3 (L.length+1) z)=W3 at aJ ⊢;have C3b:=A1 aJ;have cT:=A1 cX;have dJ:=A1 hA;obtain⟨am,cm,a0,aU,aM,aQ,_,_⟩:=Bk I.o.ml;subst a0;unfold maxLen at aM
     have dE:Hid (A4 (CF bo bm vo vm) w W3):=bO.o.Au aJ (λx hx bF=>by
      rcases hx with rfl|hx
      ·exact .inl rfl
      ·rcases cC.o.KR x hx with h|h
       ·exact .inr (.inr (.inl h))
       ·omega)
     obtain⟨vf,hvf1,bY⟩:=cV.o;obtain⟨Y,bK⟩:=bY W3 dE.o;obtain⟨af,cf,rfl,hf1,cN⟩:=bK.BP;unfold maxLen at cN;have d1:W3.cell? (A9 f 0)=some (.slice af (F f).1.length cf):=Y.c0;have d2:W3.cell? (A9 f 1)=some (A0 (F f).2):=Y.c1;have cP:¬(Value.slice ao L.length co).oB bm:=λe=>by
      obtain⟨c,hh⟩:=B7 I.o.ol e;exact BM hh I.o.mb (by decide) rfl
     have aK:W3.heap[bm]?=some (.cells #[.slice am L.length cm] 138 (0,0)):=
      (aJ.Am bm (By I.o.mb) (λe=>e.elim (λe=>I.o.ne e.symm) cP)).trans I.o.mb
     (have d3:W3.cell? (A9 bm 0)=some (.slice am L.length cm):=by simp[World.cell?,aK]);(have hge:O.heap.size<=w2.heap.size:=by have:=aG.o.Al;simp at this;omega);have cZ:∀g,(Value.slice ao L.length co).oB g->g<O.heap.size:=λg X=>Ay b7.o.ol X;have aF:=(aJ.Am O.heap.size (by have:=aG.o.Al;simp at this;omega) (λe=>e.elim (λe=>by omega) (λe=>by have:=cZ _ e;omega))).trans ((aG.o.Am O.heap.size (by simp) (λh=>h)).trans (Bf O _));(have d4:W3.cell? (A9 O.heap.size 0)=some (.string nm):=by simp[World.cell?,aF]);(have d5:W3.cell? (A9 O.heap.size 1)=some (A6 f):=by simp[World.cell?,aF]);obtain⟨y0,hy,cY,b9,cM⟩:=DG Tryz.infoByte;have cU:Hid (Src Tryz.prog 1 127 (.slice af (F f).1.length cf) (F f).1.length (DY (F f).1) W3.drew):=Src.bO (w:=W3.drew) underlying127 bK (A2t _);(have dI:(0+(F f).1.length)*1<=140737488355328:=by have:=cF.o;omega);have dK:Hid (∀E v4 n xs,App W3.drew E 5 1 (.slice none 0 0) v4 n xs->E.cell? (A9 O.heap.size 1)=some (A6 f)/\E.cell? (A9 f 0)=some (.slice af (F f).1.length cf)/\E.cell? (A9 f 1)=some (A0 (F f).2)/\E.cell? (A9 bm 0)=some (.slice am L.length cm)/\E.cell? (A9 O.heap.size 0)=some (.string nm)):=by
      intro E v4 n xs hB;have hc:∀k o,W3.heap[k]?=some o->E.heap[k]?=some o:=λk o ho=>(hB.bz.Am k (By ho) (λh=>h)).trans ho
      exact⟨(Dy ((hc _ _ aF).trans aF.symm)).trans d5,(Dy ((hc _ _ Y).trans Y.symm)).trans d1,(Dy ((hc _ _ Y).trans Y.symm)).trans d2,(Dy ((hc _ _ aK).trans aK.symm)).trans d3,(Dy ((hc _ _ aF).trans aF.symm)).trans d4⟩
     have dQ:Hid (∀E v4 n xs o1 o2,App W3.drew E 5 1 (.slice none 0 0) v4 n xs->((E.alloc o1).alloc o2).ownsRow 0 123 1 (.slice am L.length cm) L.length (Er M)):=by
      intro E v4 n xs o1 o2 hB
      have aQ:W3.ownsRow 0 123 1 (.slice am L.length cm) L.length (Er M):=Aw I.o.ml λg X=>aJ.Am g (Ay I.o.ml X) (by
       rintro (e|e)
       ·obtain⟨c,hh⟩:=B7 I.o.ml X;exact BM hh I.o.ob (by decide) e
       ·exact I.o.Kf g e X)
      have bB:E.ownsRow 0 123 1 (.slice am L.length cm) L.length (Er M):=Aw aQ λg X=>hB.bz.Am g (Ay aQ X) (λh=>h);have bC:(E.alloc o1).ownsRow 0 123 1 (.slice am L.length cm) L.length (Er M):=Aw bB λg X=>CQ _ _ _ (Ay bB X);exact Aw bC λg X=>CQ _ _ _ (Ay bC X)
     have dL:Hid (∀E v4 n xs o1 o2 w6 a6 d ys,App W3.drew E 5 1 (.slice none 0 0) v4 n xs->App ((E.alloc o1).alloc o2) w6 123 1 (.slice am L.length cm) (.slice a6 (L.length+1) d) (L.length+1) ys->
      (w6.cell? (A9 O.heap.size 1)=some (A6 f)/\w6.cell? (A9 f 0)=some (.slice af (F f).1.length cf)/\w6.cell? (A9 f 1)=some (A0 (F f).2)/\w6.cell? (A9 bm 0)=some (.slice am L.length cm)/\w6.cell? (A9 O.heap.size 0)=some (.string nm))/\w6.frozen? (A9 bm 0)=false/\(w6.setCell (A9 bm 0) (.slice a6 (L.length+1) d)).cell? (A9 O.heap.size 0)=some (.string nm)):=by
      intro E v4 n xs o1 o2 w6 a6 d ys hB hC;have hc:∀k o,W3.heap[k]?=some o->(Value.slice am L.length cm).ownBlock≠some k->w6.heap[k]?=some o:=λk o ho hn=>by
       have h4:E.heap[k]?=some o:=(hB.bz.Am k (By ho) (λh=>h)).trans ho;have h5:((E.alloc o1).alloc o2).heap[k]?=some o:=by
        rw[CQ _ _ _ (by have:=By h4;simp;omega),CQ _ _ _ (By h4)];exact h4
       exact(hC.C4.block k (By h5) (λe=>hn e.symm)).trans h5
      have a2:∀k (c:Array Value) (e:Nat),W3.heap[k]?=some (Obj.cells c e (0,0))->e≠123->(Value.slice am L.length cm).ownBlock≠some k:=λk c e hk he hn=>by
       have bF:=Ay I.o.ml hn;obtain⟨c',hh⟩:=B7 I.o.ml hn
       have:W3.heap[k]?=w2.heap[k]?:=aJ.Am k bF (by
        rintro (e2|e2)
        ·exact BM hh I.o.ob (by decide) e2
        ·exact I.o.Kf k e2 hn)
       rw[this,hh]at hk;cases hk;exact he rfl
      have x1:=hc _ _ aF (a2 _ _ _ aF (by decide));have x2:=hc _ _ Y (a2 _ _ _ Y (by decide));have x3:=hc _ _ aK (a2 _ _ _ aK (by decide));(have aY:bm≠O.heap.size:=by have:=By b7.o.mb;omega);refine⟨⟨(Dy (x1.trans aF.symm)).trans d5,(Dy (x2.trans Y.symm)).trans d1,(Dy (x2.trans Y.symm)).trans d2,(Dy (x3.trans aK.symm)).trans d3,(Dy (x1.trans aF.symm)).trans d4⟩,by simp[World.frozen?,x3],?_⟩;rw[A3p _ _ _ _ aY];exact(Dy (x1.trans aF.symm)).trans d4
     have dB:f∉L:=λhm=>by
      obtain⟨m,aU,aM⟩:=Ep hm;exact bE.o m aU aU aM
     have aV:Dd f es:=⟨_,BT aH,aX.o⟩
     have dH:Hid (∀E b4 aE w6 a6 d,App W3.drew E 5 1 (.slice none 0 0) (.slice b4 (F f).1.length aE) (F f).1.length (DY (F f).1)->
      App ((E.aC #[.slice b4 (F f).1.length aE,A0 (F f).2] 129).aC #[A6 E.heap.size] 123) w6 123 1 (.slice am L.length cm) (.slice a6 (L.length+1) d) (L.length+1) (Er M++[A6 E.heap.size])->
      EE N w bo bm F old made vo vm VB es i (i+1) u5 (w6.setCell (A9 bm 0) (.slice a6 (L.length+1) d)) (L++[f]) (M++[E.heap.size]) (.slice a3 (L.length+1) z) (.slice a6 (L.length+1) d) (λm=>if m=E.heap.size then .slice b4 (F f).1.length aE else VB' m) aA):=
      λE b4 aE w6 a6 d hB hC=>cC.o.cF rfl dB aV (b0.o f aV).1 (bQ.o O bZ.o) (((A4.C Aa O).ah _).tr aG.o) dJ.o cT.o hB hC
     have dM:Hid (W3.drew.cell? (A9 O.heap.size 1)=some (A6 f)/\W3.drew.cell? (A9 f 0)=some (.slice af (F f).1.length cf)/\W3.drew.cell? (A9 f 1)=some (A0 (F f).2)/\W3.drew.cell? (A9 bm 0)=some (.slice am L.length cm)/\W3.drew.cell? (A9 O.heap.size 0)=some (.string nm)):=⟨d5,d1,d2,d3,d4⟩;refine Fw (λw'=>w'.cell? (A9 O.heap.size 1)=some (A6 f)/\w'.cell? (A9 f 0)=some (.slice af (F f).1.length cf)/\w'.cell? (A9 f 1)=some (A0 (F f).2)/\w'.cell? (A9 bm 0)=some (.slice am L.length cm)/\w'.cell? (A9 O.heap.size 0)=some (.string nm)) 16
      (Bb [0,1,2,3,4,5,7,8,9,10,11,6,12,13,14,15] [6,13,14,15]) (by kernel_rfl) (by kernel_rfl) (λ_ _ _ _ _ h=>h) dM.o ?_
     iterate 11 (refine DM (v:=?_) rfl (by rfl) ?_ ?_;rotate_left;(· (intro w' hS;(try dsimp only at hS);go_simp;try with_reducible rfl));(try simp only[Ak]))
     refine Di rfl (by rfl) (λK hK=>?_);refine Hm (.const (.slice none 0 0)) (.tmp 44) 127 127 (by rfl) 5 y0 _ 1 1 underlying127 hy cY b9 cM rfl (by decide) (.slice none 0 0) 0 [] (by rfl) (Cp _ _ _ _) _ (F f).1.length _ (by rfl) cU.o dI ?_;intro b4 aE E hB;simp only[GM,EU]at hB ⊢;refine hK _ _ (dK.o _ _ _ _ hB) (λhS=>?_)
     (try simp only[Ak])
     obtain⟨q1,q2,q3,q4,q5⟩:=hS
     (refine DM (v:=?_) rfl (by rfl) ?_ ?_;rotate_left;(· (intro w' hS;(try dsimp only at hS);go_simp;try with_reducible rfl));(try simp only[Ak]))
     refine Di rfl (by rfl) (λK hK=>?_);go_simp;refine hK _ _ ?_ (λhS=>?_)
     ·simp[World.cell?_alloc_some,q1,q2,q3,q4,q5]
     (try simp only[Ak])
     obtain⟨q1',q2',q3',q4',q5'⟩:=hS;refine Di rfl (by rfl) (λK hK=>?_);go_simp;refine hK _ _ ?_ (λhS=>?_)
     ·simp[World.cell?_alloc_some,q1,q2,q3,q4,q5]
     (try simp only[Ak])
     have cH:Hid (Src Tryz.prog 1 138 (AB (E.heap.size+1) 1 1) 1 [A6 E.heap.size] ((E.aC #[.slice b4 (F f).1.length aE,A0 (F f).2] 129).aC #[A6 E.heap.size] 123)):=
      Src.a8 underlying138 (E.aC #[.slice b4 (F f).1.length aE,A0 (F f).2] 129) #[A6 E.heap.size] 123 (E.heap.size+1) (by simp) 1 1 rfl (by simp[Value.oneCell'])
     refine Di rfl (by rfl) (λK hK=>?_);refine Hm (.tmp 39) (.tmp 53) 138 138 (by rfl) 123 p0 _ 1 8 underlying138 hp bW bT bM rfl (by decide) (.slice am L.length cm) L.length (Er M) (by rfl) (dQ.o _ _ _ _ _ _ hB) _ 1 _ (by rfl) cH.o aR ?_;intro a6 d w6 hC;have k7:=A1 (dH.o E b4 aE w6 a6 d hB hC);obtain⟨r1,r2,r3⟩:=dL.o _ _ _ _ _ _ _ _ _ _ hB hC;refine hK _ _ r1 (λhS=>?_);obtain⟨_,_,_,r4,_⟩:=r1
     (try simp only[Ak])
     refine B4 ?_;simp only[Du,Db];go_wp2;generalize hW7:w6.setCell (A9 bm 0) (.slice a6 (L.length+1) d)=W7 at k7 r3 ⊢;generalize a8:E.heap.size=mf at k7;have a4:=k7.o.cs.ml;(have a5:(L++[f]).length=L.length+1:=by simp);rw[a5]at a4;obtain⟨a7,c7,e7,hm1',bU,a9,_,_⟩:=Bk a4;cases e7;obtain⟨g6,rfl⟩:=a9 (by omega);unfold maxLen at bU;(have m1:W7.cell? (A9 bm 0)=some (AB g6 (L.length+1) d):=by have:=k7.o.cs.mb;simp[World.cell?,this]);have m2:W7.cell? (A9 g6 L.length)=some (A6 mf):=by
      refine BD a4 (g:=g6) rfl ?_;have aS:M.length=L.length:=I.o.b0;unfold Er;rw[EV,HF (by simp[aS])];simp[aS]
     have aP:Hid (((W7.drew).aC #[.string nm,A6 mf] 125).ownsRow 0 125 2 u5 ne (BU aA)):=aT.o ▸ (k7.o.bW ((A4.C _ W7).aa.ah _)).EZ;have bX:Hid (Src Tryz.prog 2 92 (AB W7.heap.size 1 1) 1 [.string nm,A6 mf] ((W7.drew).aC #[.string nm,A6 mf] 125)):=
      Src.a8 underlying92 W7.drew #[.string nm,A6 mf] 125 W7.heap.size (by simp) 1 1 rfl (by simp[Value.oneCell'])
     (have bL:(ne+1)*24<=140737488355328:=by omega);have aO:Hid (∀b8 aI w8,App ((W7.drew).aC #[.string nm,A6 mf] 125) w8 125 2 u5 (.slice b8 (ne+1) aI) (ne+1) (BU aA++[.string nm,A6 mf])->OR N w bo bm F old made vo vm VB es (i+1) (.slice b8 (ne+1) aI) w8):=by
      intro b8 aI w8 hA;have aS:M.length=L.length:=I.o.b0;exact⟨_,_,_,_,_,_,(k7.o.bW ((A4.C _ W7).aa.ah (.cells #[.string nm,A6 mf] 125))).cj (j:=L.length) (mf:=mf) aH bI.o aX.o (by simp) (by simp[<-aS]) (Ao _) (by rw[aT.o];exact hA)⟩
     have j0:(0:Int)<=(L.length:Int):=Ge _;obtain⟨nl,dG,j1⟩:∃nl:Nat,L.length+1=nl/\(L.length:Int)<(nl:Int):=⟨_,rfl,by omega⟩;rw[dG]at m1;refine Fw (λw'=>w'.cell? (A9 O.heap.size 0)=some (.string nm)/\w'.cell? (A9 bm 0)=some (AB g6 nl d)/\w'.cell? (A9 g6 L.length)=some (A6 mf)) 9
      (Bb [0,1,2,3,4,5,6,7,8] [8]) (by kernel_rfl) (by kernel_rfl) (λ_ _ _ _ _ h=>h) ⟨r3,m1,m2⟩ ?_
     iterate 8 (refine DM (v:=?_) rfl (by rfl) ?_ ?_;rotate_left;(· (intro w' hS;(try dsimp only at hS);go_simp;try with_reducible rfl));(try simp only[Ak]))
     refine Di rfl (by rfl) (λK hK=>?_);go_simp;refine hK _ _ ?_ (λhS=>?_)
     ·simp[World.cell?_alloc_some,r3,m1,m2]
     (try simp only[Ak])
     refine B4 ?_;simp only[Du,Db];go_wp2_with (at_builtin;refine CZ rfl (.tmp 55) (.tmp 63) 92 92 rfl 125 i0 _ 2 24 underlying92 bS bG bV bN rfl (by decide) u5 ne (BU aA) (by rfl) aP.o _ 1 _ (by rfl) bX.o bL ?_;intro b8 aI w8 hD;have cI:=A1 (aO.o b8 aI w8 hD));go_roundw
     case rel=>exact⟨i+1,by omega,by go_num,cI.o⟩
     case measure=>simp[intOf];omega
  ·(obtain rfl:i=es.length:=by omega);go_wp2;go_ret;exact⟨_,rfl,bJ.o⟩
end
end Go.Proofs.YtodcnkbblippnaaGreatDoor
