/- Part 4 of a proof: walks of the program. -/
import Derived.StillTailTactics
import Derived.LaidEql
import Derived.StillTactics
import Derived.Test.YtodcnkbblippnaaGreatDoorPart03
namespace Go.Proofs.YtodcnkbblippnaaGreatDoor
set_option maxRecDepth 100000
set_option maxHeartbeats 32000000
set_option linter.defProp false
open Go.Proofs.Tryz
section
open Go.RowKit
attribute [local go_sem ↓] Go.wp_at_zero Go.wp_at_succ
def A1z(c:FC)(t:Int)(B:Nat)(h:0<=c.2/\c.2<=c.1.length/\c.1.length<=B):0<=(Fo c t).2/\(Fo c t).2<=(Fo c t).1.length/\(Fo c t).1.length<=B:=by
 unfold Fo;simp only[BU];omega
def A1x(es:List AL)(z:List Int)(names:List ByteArray)(F:Nat->FC)(B:Nat)(P:Nat->Prop)(h:∀f,P f->0<=(F f).2/\(F f).2<=(F f).1.length/\(F f).1.length<=B)(k:Nat):
 ∀f,P f->0<=(DO es z names F k f).2/\(DO es z names F k f).2<=(DO es z names F k f).1.length/\(DO es z names F k f).1.length<=B:=by
 induction k with
 | zero=>exact h
 | succ k ih=>
  intro f d;cases h1:names[k]? with
  | none=>simp only[DO,h1];exact ih f d
  | some name=>
   cases h2:lookup es name with
   | none=>simp only[DO,h1,h2];exact ih f d
   | some f0=>
    simp only[DO,h1,h2];by_cases E:f=f0
    ·subst E;simp only[upd,Cg];exact A1z _ _ B (ih f d)
    ·simp only[upd,E,C4];exact ih f d
def A1v(es:List AL)(d:List Int)(names:List ByteArray)(F:Nat->FC)(k:Nat)(name:ByteArray)(f:Nat)(z:names[k]?=some name)(h:lookup es name=some f):
 DO es d names F (k+1)=upd (DO es d names F k) f (Fo (DO es d names F k f) (d.getD k 0)):=by
 simp only[DO,z,h]
def A1q{w wr:World}{b:Nat}{D:DS}{es:List AL}{G:Nat->FC}{H:Nat->Prop}{t:Int}{vd vs vc:Value}{I:List Value}{aD:Nat->Value}(aB:∀k,C7 b {D with A4:=es} vd vs vc I aD k->H k)(hr:BY wr b {D with A4:=es} G vd vs vc I aD)(hc:A3 H w wr){k:Nat}(d:k<es.length){a':Option Addr}{z:Nat}(hv:aD (es[k]'d).2=.slice a' (G (es[k]'d).2).1.length z)(hG:0<=(G (es[k]'d).2).2/\(G (es[k]'d).2).2<=(G (es[k]'d).2).1.length)(m:Nat)(hm:m=(G (es[k]'d).2).2.toNat+Fi t ((G (es[k]'d).2).1.length-(G (es[k]'d).2).2.toNat))(w':World)(hw:w'=(wr.setCell ⟨(es[k]'d).2,0,none⟩ (.slice a' m z)).setCell ⟨(es[k]'d).2,1,none⟩ (.int .i64 m)):
 Da w' b {D with A4:=es} (upd G (es[k]'d).2 (Fo (G (es[k]'d).2) t)) H/\A3 H w w':=by
 have E:({D with A4:=es}:DS).Au (es[k]'d).2:=.inl ⟨_,BV d,rfl⟩;obtain⟨h1,h2⟩:=hr.BM _ E;have hpk:=JJ t ((G (es[k]'d).2).1.length-(G (es[k]'d).2).2.toNat);have aE:m<=(G (es[k]'d).2).1.length:=by omega
 have L:((G (es[k]'d).2).1.take m).length=m:=by simp;omega
 have O:wr.ownsRow 0 5 1 (.slice a' m z) m (E0 ((G (es[k]'d).2).1.take m)):=by
  rw[hv]at h2;have:=S3 h2 aE;rw[PC]at this;unfold E0 at this ⊢;rw[List.map_take];exact this
 have X:∀g,(Value.slice a' m z).ownBlock=some g->g≠(es[k]'d).2:=by
  intro g W e;obtain⟨c,hh⟩:=Be O W;exact BS hh h1 (by decide) e
 have aF:FI w' (.slice a' m z) ((G (es[k]'d).2).1.take m):=by
  subst hw;unfold FI;rw[L];exact Ay O λg W=>by rw[GF _ _ _ _ (X g W),GF _ _ _ _ (X g W)]
 have aG:CY w' (es[k]'d).2 (.slice a' m z) m:=by subst hw;exact(h1.s0 _).s1 _
 have Y:A3 (One (es[k]'d).2) wr w':=by subst hw;exact((A3.I (One _) wr).ao rfl 0 _).ao rfl 1 _
 have aA:∀g,(Value.slice a' m z).ownBlock=some g->(aD (es[k]'d).2).ownBlock=some g\/wr.heap.size<=g:=by
  intro g W;left;rw[hv];cases a' with
  | none=>simp[Value.ownBlock]at W
  | some x=>exact W
 have r2:=hr.b5 E aG aF Y (λk d=>.inl d) aA;have e:Fo (G (es[k]'d).2) t=((G (es[k]'d).2).1.take m,(m:Int)):=by
  unfold Fo;simp only[<-hm,L]
 rw[e];refine⟨⟨_,_,_,_,_,r2,λx hx=>?_⟩,hc.Ap Y λx hx _=>by cases hx;exact aB _ (.BM E)⟩;rcases C7.b5 (N:=wr.heap.size) E aA hx with h|h
 ·exact aB x h
 ·have:=r2.lt hx;subst hw;simp at this;omega
def A1t(w:World)(b:Nat)(D:DS)(F:Nat->FC)(Ft:Nat->Prop)(h:Da w b D F Ft)(z:Int)(vt:Value)(O:List Int)(ht:Jq w vt O)(b6:∀ad n c x,n≠0->vt=.slice ad n c->ad=some x->¬Ft x.block)(hs:D.A4.length<1099511627776/\D.AO.length<1099511627776/\D.Av.length<1099511627776/\∀c∈D.Av,c.length<1099511627776)(hdi : -9223372036854775808<=z/\z<=9223372036854775807)(cG:∀t∈O,-9223372036854775808<=t/\t<=9223372036854775807)(hF:∀f,D.Au f->0<=(F f).2/\(F f).2<=(F f).1.length/\(F f).1.length<=1099511627776):
 Ag 32 #[A5 b,A0 z,vt] w (Al (.tuple #[]) λw'=>Dq w Ft w' b (Fm D F z O).1 (Fm D F z O).2):=by
 obtain⟨vd,vs,vc,aT,cV,hr,cT⟩:=h;have aM:=A1 hr;have cS:=A1 cT;obtain⟨hs1,bW,hs3,cC⟩:=hs;have c0:=hr.Af.c0;have c1:=hr.Af.c1;have c2:=hr.Af.c2;have hz:=hr.Af.fz;obtain⟨ad,tc,rfl,htl,b2⟩:=ht;obtain⟨a1,p1,rfl,-⟩:=hr.AO.Ce;obtain⟨a2,p2,b8,_,_,a5,_,_⟩:=B8 hr.Aj;subst b8;have b1:=A1 b2;have bX:=A1 b6;have cN:=A1 cC;have dA:=A1 hF;have bV:=A1 cG;have a4:=A1 a5;obtain⟨d1,d2⟩:=hdi;have cP:=JJ z D.Av.length;generalize hK:Fi z D.Av.length=K at cP;have b5:=A1 hK;have cE:Hid (∀W:World,Ag 75 #[A0 z,A0 D.Av.length] W (Al (A0 K) λw'=>W=w')):=by
  intro W;have:=RY z D.Av.length W ⟨d1,d2⟩ ⟨by omega,by omega⟩;simp only[Et,b5.o]at this;exact this
 have b4:=aM.o;obtain⟨bH,bF,cB,-⟩:=b4.A4.Ce;subst cB;obtain⟨E,f1,f2,f3⟩:∃E:Nat->Prop,(∀k,C7 b D (.slice bH D.A4.length bF) (.slice a1 D.AO.length p1) (.slice a2 D.Av.length p2) aT cV k->E k)/\(∀k,E k->k<w.heap.size)/\(∀k,E k->Ft k):=
  ⟨C7 b D (.slice bH D.A4.length bF) (.slice a1 D.AO.length p1) (.slice a2 D.Av.length p2) aT cV,λ_ h=>h,λ_ h=>aM.o.lt h,λ_ h=>cS.o _ h⟩
 have a8:=A1 f1;have cZ:=A1 f2;have cH:=A1 f3;have cJ:Hid (∀wr,A3 E w wr->∀j (hj:j<O.length),∃tb aI,ad=some (Aa tb aI)/\wr.cell? (Aa tb (aI+j))=some (A0 (O[j]'hj))):=by
  intro wr hc j hj;obtain⟨tb,aI,h1,h2,h3⟩:=b1.o j hj;refine⟨tb,aI,h1,?_⟩;rw[DR (hc.Ao tb h2 (λh=>bX.o ad O.length tc (Aa tb aI) (λh0=>absurd (h0 ▸ hj) (MT _)) rfl h1 (cH.o _ h)))];exact h3
 by_cases bI:K=0
 focus
  subst bI;obtain⟨es,I⟩:∃es,D.AO=es:=⟨_,rfl⟩;have aL:es.length<1099511627776:=I ▸ bW;have bG:=aM.o.ei (.inl ⟨rfl,rfl⟩) (aM.o.Af.s0 _) ((A3.I (One b) w).ao rfl 0 (.slice a1 D.AO.length p1));have bS:Hid (∀f,Df f es->D.Au f):=λf X=>.inr (.inl (I ▸ X));have aA:Hid (Da (w.sC b 0 (.slice a1 D.AO.length p1)) b {D with A4:=es} F E):=by rw[<-I];exact⟨_,_,_,_,_,bG.1,λk hk=>a8.o k (bG.2 k hk)⟩
  have cW:Hid (A3 E w (w.sC b 0 (.slice a1 D.AO.length p1))):=(A3.I _ w).ao (a8.o _ .Af) 0 _;have bU:Hid (FV D z=es):=by unfold Hid FV;rw[b5.o];exact I
  clear I;rw[show ((0:Nat):Int)=0 from rfl]at cE;have cM:=A1 <| cE.o
  go_enter func32,ntmps32
  go_wp2_with (first
   | (go_at_call 75;refine(cM.o _).mono ?_;rintro e w'⟨rfl,rfl⟩)
   | (go_at_call 76;refine(Ov _ b _ F _ aA.o aL).mono ?_;rintro e w2⟨v,rfl,aN,aF,bA⟩;obtain⟨al,cl,rfl,_,aQ,aD,_⟩:=B8 aN))
 rotate_left
 focus
  obtain⟨j,rfl⟩:∃j,K=j+1:=⟨K-1,by omega⟩;have aG:j<D.Av.length:=by omega
  obtain⟨v0,aW,bM⟩:=aM.o.D8 j aG;obtain⟨ak,pk,rfl,-⟩:=bM.Ce;obtain⟨es,I⟩:∃es,D.Av[j]'aG=es:=⟨_,rfl⟩;have aL:es.length<1099511627776:=by rw[<-I];exact cN.o _ (BV aG)
  have bS:Hid (∀f,Df f es->D.Au f):=λf X=>.inr (.inr ⟨_,BV aG,I ▸ X⟩);have bU:Hid (FV D z=es):=by
   unfold Hid FV;rw[b5.o];show D.Av.getD j []=es;rw[<-I,HP,E2 aG];rfl
  rw[I]at aW bM;obtain⟨gc,bZ⟩:=a4.o (by omega);subst bZ;have cg:=BC aM.o.Aj (g:=gc) rfl aW;obtain⟨cgc,cO⟩:=Be aM.o.Aj (g:=gc) rfl;have n1:¬gc=b:=λe=>BS cO aM.o.Af (by decide) e;have n2:¬b=gc:=λe=>n1 e.symm;have bG:=aM.o.ei (.inr ⟨j,aG,aW,I.symm⟩) ((aM.o.Af.s0 (.slice a1 D.AO.length p1)).s0 _) (((A3.I (One b) w).ao rfl 0 (.slice a1 D.AO.length p1)).ao rfl 0 (.slice ak es.length pk));have aA:Hid (Da ((w.sC b 0 (.slice a1 D.AO.length p1)).sC b 0 (.slice ak es.length pk)) b {D with A4:=es} F E):=⟨_,_,_,_,_,bG.1,λk hk=>a8.o k (bG.2 k hk)⟩;have cW:Hid (A3 E w ((w.sC b 0 (.slice a1 D.AO.length p1)).sC b 0 (.slice ak es.length pk))):=((A3.I _ w).ao (a8.o _ .Af) 0 _).ao (a8.o _ .Af) 0 _;have k0:(0:Int)<(j:Int)+1:=by omega
  have k1:(0:Int)<=(j:Int):=by omega
  have k2:(j:Int)<(D.Av.length:Int):=by omega
  have hwj:IntKind.i64.wrap (j:Int)=(j:Int):=by simp only[Jr];omega
  have cM:=A1 <| cE.o
  skip
  go_enter func32,ntmps32
  go_wp2_with (first
   | (go_at_call 75;refine(cM.o _).mono ?_;rintro e w'⟨rfl,rfl⟩)
   | (go_at_call 76;refine(Ov _ b _ F _ aA.o aL).mono ?_;rintro e w2⟨v,rfl,aN,aF,bA⟩;obtain⟨al,cl,rfl,_,aQ,aD,_⟩:=B8 aN))
 all_goals
  have s2:w.heap.size<=w2.heap.size:=by have:=aF.Ak;simp at this;omega
  have bK:=A1 aN;have b9:Hid (∀g,al.map Addr.block=some g->w.heap.size<=g):=by
   intro g hg
   have:=bA g (by cases al with
    | none=>simp at hg
    | some x=>simp at hg;simp[Value.ownBlock,hg])
   simpa using this
  have a3:Hid (Da w2 b {D with A4:=es} F E):=aA.o.aP λk hk=>aF.Ao k (by have:=cZ.o k hk;simpa using this) (λh=>h);have bO:Hid (A3 E w w2):=cW.o.Ap aF (λx hx=>hx.elim);have b7:=A1 aD;have cL:=A1 (Mt es es.length (As _));unfold maxLen at aQ;go_loopw [44] (λiv wr=>∃i:Nat,i<=es.length/\iv=A0 i/\Hid (Da wr b {D with A4:=es} (DO es O (dList es) F i) E)/\Hid (A3 E w2 wr)) (λiv _=>es.length-(intOf iv).toNat)
  case atStart=>exact⟨0,Cf _,rfl,a3.o,A3.I _ _⟩
  case round=>
   obtain⟨i,hi,rfl,aS,aO⟩:=hrel;by_cases hli:i<es.length
   ·have aX:Hid (A3 E w wr):=bO.o.Ap aO.o (λx hx _=>hx);obtain⟨lb,aP⟩:=b7.o (by omega);(have aE:i<(dList es).length:=by have:=cL.o;unfold dList;omega);have aF:wr.cell? (Aa lb i)=some (.string ((dList es)[i]'aE)):=by
     have h1:=BC bK.o (g:=lb) (by rw[aP];rfl) (j:=i) (u:=.string ((dList es)[i]'aE)) (by unfold Fy;rw[PO,E2 aE];rfl);have h2:=b9.o lb (by rw[aP];rfl);rw[DR (aO.o.Ao lb (AB bK.o (by rw[aP];rfl)) (λh=>by have:=cZ.o lb h;omega))];exact h1
    subst aP;generalize bD:(dList es)[i]'aE=nm at aF;have bL:∃e∈es,e.1=nm:=(A1e es nm).1 (by rw[<-bD];exact BV aE);(have bE:(dList es)[i]?=some nm:=by rw[<-bD];exact E2 aE);obtain⟨G,aV⟩:∃G,DO es O (dList es) F i=G:=⟨_,rfl⟩;have L:=aS.o;rw[aV]at L;obtain⟨cD,bY,cF,a7,VB',H,aK⟩:=L;rcases J1 es nm with⟨_,h2⟩|⟨k,hk,h1,h2,h3⟩
    ·exfalso;obtain⟨e,he,h4⟩:=bL;rcases OQ es nm with⟨_,h5⟩|⟨k,hk,h5,_⟩
     ·exact h5 e he h4
     ·omega
    ·have bC:=A1x es O (dList es) F 1099511627776 D.Au dA.o i (es[k]'hk).2 (bS.o _ ⟨_,BV hk,rfl⟩);rw[aV]at bC;obtain⟨aU,a6,a9⟩:=bC;obtain⟨g,cap,a',aB,rfl,hv,z1,z2,z3,z4⟩:=H.Cj k hk;have aH:=H.dB k hk rfl hv;have bQ:Hid (D2 wr.drew (AJ g es.length cap) es):=H.A4;have cX:=A1 h1;generalize X:(es[k]'hk).2=f at aH
     have fin:Hid (∀(t:Int) (m:Nat) (w':World),t=O.getD i 0->m=(G f).2.toNat+Fi t ((G f).1.length-(G f).2.toNat)->w'=(wr.sC f 0 (.slice a' m aB)).sC f 1 (A0 m)->
      Da w' b {D with A4:=es} (DO es O (dList es) F (i+1)) E/\A3 E w2 w'):=by
      intro t m w' ht hm hw;subst X;have:=A1q (t:=t) aK H aO.o hk hv ⟨aU,a6⟩ m hm w' hw;rw[A1v es O (dList es) F i nm _ bE h2,aV,<-ht];exact this
     rw[X]at aU a6 a9 z3;have x1:=aH.d;have x2:=aH.p;have x3:=aH.f0;have x4:=aH.f1;have x5:=aH.fz;unfold maxLen at z2 z4;have bI:=C3 k;(have hk1:(k:Int)<(es.length:Int):=by omega);obtain⟨t,ht⟩:∃t,O.getD i 0=t:=⟨_,rfl⟩;have b0 : -9223372036854775808<=t/\t<=9223372036854775807:=by
      rw[<-ht,HP];cases hx:O[i]? with
      | none=>simp
      | some y=>exact bV.o y (Lv hx)
     obtain⟨Y,aY⟩:=LG aU;obtain⟨l,hl⟩:∃l,(G f).1.length=l:=⟨_,rfl⟩;obtain⟨p,hp⟩:∃p,Fi t (l-Y)=p:=⟨_,rfl⟩;have bP:=JJ t (l-Y);rw[hp]at bP;have aR:Hid (∀w',w'=(wr.sC f 0 (.slice a' (Y+p) aB)).sC f 1 (A0 ((Y+p:Nat):Int))->Da w' b {D with A4:=es} (DO es O (dList es) F (i+1)) E/\A3 E w2 w'):=by
      intro w' hw;exact fin.o t (Y+p) w' ht.symm (by rw[aY,hl,Et,hp]) hw
     rw[aY,hl]at a6;rw[hl]at a9 z3 x3;rw[aY]at x4;have cU:Hid (∀W:World,Ag 75 #[A0 t,A0 ((l:Int)-(Y:Int))] W (Al (A0 p) λw'=>W=w')):=by
      intro W;have:=RY t ((l:Int)-(Y:Int)) W b0 ⟨by omega,by omega⟩;rw[show ((l:Int)-(Y:Int)).toNat=l-Y from by omega,hp]at this;exact this
     (have q1:Y+p<=aB:=by omega);(have hw1:IntKind.i64.wrap ((l:Int)-(Y:Int))=(l:Int)-(Y:Int):=by simp only[Jr];omega);(have hw2:IntKind.i64.wrap ((Y:Int)+(p:Int))=(Y:Int)+(p:Int):=by simp only[Jr];omega);(have q3:(0:Int)<=(Y:Int)+(p:Int):=by omega);(have q4:(Y:Int)+(p:Int)<=(aB:Int):=by omega);(have q5:((Y:Int)+(p:Int)).toNat=Y+p:=by omega);have cY:=A1 ht;by_cases aZ:i<O.length
     ·obtain⟨tb,aI,bJ,bT⟩:=cJ.o wr aX.o i aZ;(have cA:O[i]'aZ=t:=by have:=cY.o;rw[HP,E2 aZ]at this;exact this);rw[cA]at bT;subst bJ;(have bN:(i:Int)<(O.length:Int):=by omega);go_wp2;go_region_held3 (λw'=>w'.cell? ⟨b,0,none⟩=some (.slice (some ⟨g,0,none⟩) es.length cap)/\w'.cell? ⟨g,k*2+1,none⟩=some (.pointer (some ⟨f,0,none⟩))) (refine⟨?_,?_⟩<;>go_simp) ((go_at_call 77;refine(Du _ _ es nm bQ.o).mono ?_;rintro e w'⟨rfl,rfl⟩;rw[cX.o]));go_wp2;refine Ko 24 (by kernel_rfl) (by kernel_rfl) ?_;simp only[Li,F8,ET,DE,Dp]
      repeat still_step
      refine wpStill_step (λK hK=>?_);go_simp;refine⟨_,(cU.o _).mono (λe w' h=>⟨h.1,h.2.symm⟩),hK _ ?_⟩
      repeat still_step
      refine Kp ?_;go_wp2;go_roundw
      case rel=>
       obtain⟨z5,z6⟩:=aR.o _ rfl;refine⟨i+1,by omega,by go_num,?_,?_⟩
       ·exact Da.cu z5 rfl
       ·exact A3.cu z6 rfl rfl rfl rfl
      case measure=>simp[intOf];omega
     ·have cI:t=0:=by
       rw[<-cY.o,HP,N3 (by omega)];rfl
      subst cI;(have bN:(O.length:Int)<=(i:Int):=by omega);go_wp2;go_region_held3 (λw'=>w'.cell? ⟨b,0,none⟩=some (.slice (some ⟨g,0,none⟩) es.length cap)/\w'.cell? ⟨g,k*2+1,none⟩=some (.pointer (some ⟨f,0,none⟩))) (refine⟨?_,?_⟩<;>go_simp) ((go_at_call 77;refine(Du _ _ es nm bQ.o).mono ?_;rintro e w'⟨rfl,rfl⟩;rw[cX.o]));go_wp2;refine Ko 24 (by kernel_rfl) (by kernel_rfl) ?_;simp only[Li,F8,ET,DE,Dp]
      repeat still_step
      refine wpStill_step (λK hK=>?_);go_simp;refine⟨_,(cU.o _).mono (λe w' h=>⟨h.1,h.2.symm⟩),hK _ ?_⟩
      repeat still_step
      refine Kp ?_;go_wp2;go_roundw
      case rel=>
       obtain⟨z5,z6⟩:=aR.o _ rfl;refine⟨i+1,by omega,by go_num,?_,?_⟩
       ·exact Da.cu z5 rfl
       ·exact A3.cu z6 rfl rfl rfl rfl
      case measure=>simp[intOf];omega
   ·(have cQ:i=es.length:=by omega);have L:=aS.o;rw[cQ]at L;obtain⟨cD,bY,cF,a7,VB',H,aK⟩:=L;obtain⟨ae,ce,rfl,_⟩:=H.A4.Ce;have y0:=H.Af.c0;have y1:=H.Af.c1;have y2:=H.Af.c2;have y5:=H.Af.c5;have y6:=H.Af.c6;have y10:=H.Af.bY;have yz:=H.Af.fz;have bB:=A1 H;have bR:=A1 aK;go_wp2;go_end0;have r1:=bB.o.aJ ((bB.o.Af.s1 _).s2 (.slice none 0 0)) (((A3.I (One b) wr).ao rfl 1 _).ao rfl 2 (.slice none 0 0));have r2:=r1.ag (n:={D.n with AX:=false,Cb:=0,Cr:=0}) (((r1.Af.ep false).s5 0).s6 0) ((((A3.I (One b) _).ao rfl 10 (.bool false)).ao rfl 5 (A0 0)).ao rfl 6 (A0 0));have hq:Fm D F z O=({A4:=es,AO:=es,Av:=[],n:={D.n with AX:=false,Cb:=0,Cr:=0}},DO es O (dList es) F es.length):=by
     (have he:FV D z=es:=by exact bU.o);unfold Fm;rw[he]
    rw[hq];refine⟨rfl,Dq.bx ?_ r2 ?_⟩
    ·have aX:=bO.o.Ap aO.o (λx hx _=>hx);have aJ:=a8.o _ .Af;exact(((((aX.ao aJ 1 _).ao aJ 2 _).ao aJ 10 _).ao aJ 5 _).ao aJ 6 _).aa λk _ hk=>cH.o k hk
    ·intro k hk;have b3:=C7.n (D:={A4:=es,AO:=es,Av:=[],n:=D.n}) hk;left;refine cH.o k (bR.o k ?_);cases b3 using C7.bL with
     | Af=>exact .Af
     | dir e=>exact .A4 e
     | Ac e=>exact .A4 e
     | Aj e=>simp[Value.ownBlock]at e
     | D8 hm e=>cases hm
     | BM X=>
      rcases X with X|X|⟨c,a0,_⟩
      ·exact .BM (.inl X)
      ·exact .BM (.inl X)
      ·cases a0
     | byt X e=>
      rcases X with X|X|⟨c,a0,_⟩
      ·exact .bB (.inl X) e
      ·exact .bB (.inl X) e
      ·cases a0
def A17(l:List UInt8):∀u∈E0 l,u.oneCell'=true:=by
 intro u hu;obtain⟨x,_,rfl⟩:=Ct.1 hu;rfl
def EX(l:List Nat):List Value:=l.map λf=>(A5 f)
structure CS (N:Nat) (w:World) (bo bm:Nat) (F:Nat->FC) (old made:List Nat) (vo vm:Value) (VB:Nat->Value):Prop where
 ob:w.heap[bo]?=some (.cells #[vo] 138 (0,0))
 mb:w.heap[bm]?=some (.cells #[vm] 138 (0,0))
 ne:bo≠bm
 ol:w.ownsRow 0 123 1 vo old.length (EX old)
 ml:w.ownsRow 0 123 1 vm old.length (EX made)
 Ku:∀g,vo.ownBlock=some g->vm.ownBlock=some g->False
 BM:∀i (h:i<made.length) (h':i<old.length),CY w (made[i]'h) (VB (made[i]'h)) (F (old[i]' h')).2/\FI w (VB (made[i]'h)) (F (old[i]' h')).1
 I4:∀f∈old,f<N/\∃c,w.heap[f]?=some (.cells c 129 (0,0))
 I5:old.Nodup
 OW:made.Nodup
 Gc:∀m m' g,m∈made->m'∈made->(VB m).ownBlock=some g->(VB m').ownBlock=some g->m=m'
 I6:N<=bo
 IY:N<=bm
 IV:∀g,vo.ownBlock=some g->N<=g
 IW:∀g,vm.ownBlock=some g->N<=g
 Oh:∀m∈made,N<=m
 Oi:∀m∈made,∀g,(VB m).ownBlock=some g->N<=g
def CF(bo bm:Nat)(vo vm:Value):Nat->Prop:=λk=>k=bo\/k=bm\/vo.ownBlock=some k\/vm.ownBlock=some k
def Ren(old made:List Nat)(es aA:List AL):Prop:=
 aA.length=es.length/\∀k (h:k<es.length) (d:k<aA.length),(aA[k]'d).1=(es[k]'h).1/\∃i:Nat,old[i]?=some (es[k]'h).2/\made[i]?=some (aA[k]'d).2
def CB(bo bm:Nat)(vo vm:Value)(made:List Nat)(VB:Nat->Value):Nat->Prop:=λk=>
 k=bo\/k=bm\/vo.ownBlock=some k\/vm.ownBlock=some k\/k∈made\/∃m∈made,(VB m).ownBlock=some k
def Ren.aa{old made z d:List Nat}{es aA:List AL}(h:Ren old made es aA):Ren (old++z) (made++d) es aA:=by
 refine⟨h.1,λk H E=>⟨(h.2 k H E).1,?_⟩⟩;obtain⟨i,O,I⟩:=(h.2 k H E).2;refine⟨i,?_,?_⟩
 ·rw[IE (Hr.1 O).1];exact O
 ·rw[IE (Hr.1 I).1];exact I
def Ren.cr{old made:List Nat}{es aA:List AL}(h:Ren old made es aA){i f m:Nat}{n:ByteArray}(O:old[i]?=some f)(I:made[i]?=some m):Ren old made (es++[(n,f)]) (aA++[(n,m)]):=by
 refine⟨by simp[h.1],λk E hk'=>?_⟩;by_cases z:k<es.length
 ·have d:k<aA.length:=by have:=h.1;omega
  rw[Fa z,Fa d];exact h.2 k z d
 ·have H:k=es.length:=by simp at E;omega
  have e2:k=aA.length:=by have:=h.1;omega
  subst H;refine⟨?_,i,?_⟩
  ·rw[Gm (by omega),Gm (by omega)];simp
  ·rw[Gm (by omega),Gm (by omega)];simp[O,I]
def CS.b3{N:Nat}{w:World}{bo bm:Nat}{F:Nat->FC}{old made:List Nat}{vo vm:Value}{VB:Nat->Value}(h:CS N w bo bm F old made vo vm VB):made.length=old.length:=by
 have:=h.ml.1;simpa[EX] using this
def CS.lt{N:Nat}{w:World}{bo bm:Nat}{F:Nat->FC}{old made:List Nat}{vo vm:Value}{VB:Nat->Value}(h:CS N w bo bm F old made vo vm VB){k:Nat}(d:CB bo bm vo vm made VB k):k<w.heap.size:=by
 have hl:=h.b3;rcases d with rfl|rfl|d|d|d|⟨m,E,d⟩
 ·exact By h.ob
 ·exact By h.mb
 ·exact AB h.ol d
 ·exact AB h.ml d
 ·obtain⟨i,z,rfl⟩:=DU d;exact By (h.BM i z (by omega)).1
 ·obtain⟨i,z,rfl⟩:=DU E;exact AB (h.BM i z (by omega)).2 d
def CS.aP{N:Nat}{w w':World}{bo bm:Nat}{F:Nat->FC}{old made:List Nat}{vo vm:Value}{VB:Nat->Value}(h:CS N w bo bm F old made vo vm VB)(d:FW (CB bo bm vo vm made VB) w w')(Y:FW (λk=>k∈old) w w'):CS N w' bo bm F old made vo vm VB:=by
 refine⟨(d bo (.inl rfl)).trans h.ob,(d bm (.inr (.inl rfl))).trans h.mb,h.ne,Ay h.ol λg z=>d g (.inr (.inr (.inl z))),Ay h.ml λg z=>d g (.inr (.inr (.inr (.inl z)))),h.Ku,λi I E=>?_,
  λf H=>⟨(h.I4 f H).1,?_⟩,h.I5,h.OW,h.Gc,h.I6,h.IY,h.IV,h.IW,h.Oh,h.Oi⟩
 ·obtain⟨O,X⟩:=h.BM i I E;refine⟨?_,Ay X λg z=>d g (.inr (.inr (.inr (.inr (.inr ⟨_,BV I,z⟩)))))⟩;unfold CY at O ⊢;rw[d _ (.inr (.inr (.inr (.inr (.inl (BV I))))))];exact O
 ·obtain⟨c,hc⟩:=(h.I4 f H).2;exact⟨c,(Y f H).trans hc⟩
def CS.Aj{N:Nat}{w w':World}{bo bm:Nat}{F:Nat->FC}{old made:List Nat}{vo vm:Value}{VB:Nat->Value}{S:Nat->Prop}(h:CS N w bo bm F old made vo vm VB)(z:A3 S w w')(E:∀k,CB bo bm vo vm made VB k->¬S k)(H:∀k,k<N->¬S k):CS N w' bo bm F old made vo vm VB:=
 h.aP (λk d=>z.Ao k (h.lt d) (E k d)) λk d=>z.Ao k (By (h.I4 k d).2.choose_spec) (H k (h.I4 k d).1)
def Tryz.eA:(Tryz.prog.info? 129).map (λi=>(i.zero,i.size,i.bytes))=some (some (.agg #[.slice none 0 0,A0 0]),2,32):=by kernel_rfl
def Tryz.fp:(Tryz.prog.info? 123).map (λi=>(i.zero,i.size,i.bytes))=some (some (.pointer none),1,8):=by kernel_rfl
def Yg(W:World)(d x f:Nat)(I O:Array Value)(X:W.heap[x]?=some (.cells I 129 (0,0)))(E:W.heap[f]?=some (.cells O 129 (0,0)))(h:x≠f):
 (Op.equalIn (d+1) 123 (.pointer (some ⟨x,0,none⟩)) (.pointer (some ⟨f,0,none⟩))).run Tryz.prog W=.ok false W:=by
 obtain⟨j0,H,hy0,z,hy2⟩:=E7 Tryz.eA;have:=run_sameAddr_other (P:=Tryz.prog) W (a:=⟨x,0,none⟩) (b:=⟨f,0,none⟩) (by simp) X E;simp[Op.equalIn,run_underlying underlying123,typeInfo,sizeOf,H,z,this]
def Yf(W:World)(d x:Nat):(Op.equalIn (d+1) 123 (A5 x) (A5 x)).run Tryz.prog W=.ok true W:=by
 obtain⟨j0,h,_,_,_⟩:=E7 Tryz.eA;simp[Op.equalIn,run_underlying underlying123,typeInfo,sizeOf,h,run_sameAddr_same]
def Yi(W:World)(x f:Nat)(z d:Array Value)(H:W.heap[x]?=some (.cells z 129 (0,0)))(E:W.heap[f]?=some (.cells d 129 (0,0)))(h:x≠f):
 (binOp .neq 123 (.pointer (some ⟨x,0,none⟩)) (.pointer (some ⟨f,0,none⟩))).run Tryz.prog W=.ok (.bool true) W:=by
 simp only[binOp];simp[Op.equal,Op.maxDepth,Yg W 9999 x f z d H E h]
def Yh(W:World)(x:Nat):(binOp .neq 123 (A5 x) (A5 x)).run Tryz.prog W=.ok (.bool false) W:=by
 simp only[binOp];simp[Op.equal,Op.maxDepth,Yf W 9999 x]
structure Ep (N:Nat) (w:World) (bo bm:Nat) (F:Nat->FC) (old made:List Nat) (vo vm:Value) (VB:Nat->Value) (es:List AL) (i cn:Nat) (ov:Value) (wr:World) (L M:List Nat) (aB aD:Value) (VB':Nat->Value) (aA:List AL):Prop where
 cs:CS N wr bo bm F L M aB aD VB'
 EL:D2 wr ov aA
 ren:Ren L M (es.take i) aA
 Gu:∃old',L=old++old'/\old'.length<=cn/\∀f∈old',Df f es
 JH:∃made',M=made++made'/\∀m∈made',w.heap.size<=m
 AS:∀g,ov.ownBlock=some g->w.heap.size<=g
 Aj:A3 (CF bo bm vo vm) w wr
 Lb:∀g,aB.ownBlock=some g->vo.ownBlock=some g\/w.heap.size<=g
 MB:∀g,aD.ownBlock=some g->vm.ownBlock=some g\/w.heap.size<=g
 Pj:∀m∈made,VB' m=VB m
def OR(N:Nat)(w:World)(bo bm:Nat)(F:Nat->FC)(old made:List Nat)(vo vm:Value)(VB:Nat->Value)(es:List AL)(i:Nat)(ov:Value)(wr:World):Prop:=
 ∃L M aB aD VB' aA,Ep N w bo bm F old made vo vm VB es i i ov wr L M aB aD VB' aA
def CS.dh{N:Nat}{w:World}{bo bm:Nat}{F:Nat->FC}{old made:List Nat}{vo vm:Value}{VB:Nat->Value}(h:CS N w bo bm F old made vo vm VB){k:Nat}(d:CB bo bm vo vm made VB k\/k∈old):∃c e,w.heap[k]?=some (.cells c e (0,0))/\e≠125:=by
 have hl:=h.b3;rcases d with (rfl|rfl|d|d|d|⟨m,H,d⟩)|d
 ·exact⟨_,_,h.ob,by decide⟩
 ·exact⟨_,_,h.mb,by decide⟩
 ·obtain⟨c,z⟩:=Be h.ol d;exact⟨c,_,z,by decide⟩
 ·obtain⟨c,z⟩:=Be h.ml d;exact⟨c,_,z,by decide⟩
 ·obtain⟨i,E,rfl⟩:=DU d;exact⟨_,_,(h.BM i E (by omega)).1,by decide⟩
 ·obtain⟨i,E,rfl⟩:=DU H;obtain⟨c,z⟩:=Be (h.BM i E (by omega)).2 d;exact⟨c,_,z,by decide⟩
 ·obtain⟨c,z⟩:=(h.I4 k d).2;exact⟨c,_,z,by decide⟩
section
variable {N:Nat} {w wr W w3:World} {bo bm:Nat} {F:Nat->FC} {old made:List Nat} {vo vm:Value} {VB:Nat->Value} {es:List AL} {i cn:Nat} {ov:Value} {L M:List Nat} {aB aD:Value} {VB':Nat->Value} {aA:List AL}
def Ep.b4(h:Ep N w bo bm F old made vo vm VB es i cn ov wr L M aB aD VB' aA)(d:A3 Ab wr W):Ep N w bo bm F old made vo vm VB es i cn ov W L M aB aD VB' aA:=
 ⟨h.cs.Aj d (λ_ _ h=>h) (λ_ _ h=>h),Ay h.EL λg z=>d.Ao g (AB h.EL z) (λh=>h),h.ren,h.Gu,h.JH,h.AS,h.Aj.Ap d (λ_ h _=>h.elim),h.Lb,h.MB,h.Pj⟩
def Ep.cr(h:Ep N w bo bm F old made vo vm VB es i cn ov W L M aB aD VB' aA){j f mf:Nat}{nm:ByteArray}{Y:Value}(H:i<es.length)(X:(es[i]'H).1=nm)(I:(es[i]'H).2=f)(hj:L[j]?=some f)(hm:M[j]?=some mf)(hcn:cn<=i+1)(E:App W w3 125 2 ov Y (aA.length+1) (BX aA++[.string nm,.pointer (some ⟨mf,0,none⟩)])):Ep N w bo bm F old made vo vm VB es (i+1) (i+1) Y w3 L M aB aD VB' (aA++[(nm,mf)]):=by
 have hs:∀k,CB bo bm aB aD M VB' k\/k∈L->w3.heap[k]?=W.heap[k]?:=by
  intro k z;obtain⟨c,e,d,h2⟩:=h.cs.dh z
  exact E.Cy.block k (By d) (λe=>by
   obtain⟨c',O⟩:=Be h.EL e.symm
   exact BS d O h2 rfl)
 refine⟨h.cs.aP (λk z=>hs k (.inl z)) (λk z=>hs k (.inr z)),?_,?_,?_,h.JH,?_,?_,h.Lb,h.MB,h.Pj⟩
 ·have:=E.AA;unfold D2;rw[L6,AY];exact this
 ·rw[<-List.take_append_getElem H];have:es[i]'H=(nm,f):=by rw[<-X,<-I]
  rw[this];exact h.ren.cr hj hm
 ·obtain⟨o,d,h2,O⟩:=h.Gu;exact⟨o,d,by omega,O⟩
 ·intro g hg;rcases E.Cj with d|d
  ·exact h.AS g (d.symm.trans hg)
  ·rw[hg]at d;cases d;exact h.Aj.Ak
 ·exact h.Aj.Cy E.Cy λk z hlt=>by have:=h.AS k z;omega
def Ep.cM{w1 w2 H w6 aJ:World}{f nq ne:Nat}{vb:Value}{a3 a6:Option Addr}{c3 c6:Nat}(h:Ep N w bo bm F old made vo vm VB es i cn ov w1 L M aB aD VB' aA)(aU:L.length=ne)(hf:f∉L)(a2:Df f es)(aZ:f<N)(aV:∃c,w1.heap[f]?=some (.cells c 129 (0,0)))(aQ:A3 (λ_=>False) w1 w2)(hA:App ((w2.drewN nq).alloc (.cells #[.pointer (some ⟨f,0,none⟩)] 123)) w3 123 1 aB (.slice a3 (ne+1) c3) (ne+1) (EX L++[.pointer (some ⟨f,0,none⟩)]))(aL:w3.setCell ⟨bo,0,none⟩ (.slice a3 (ne+1) c3)=aJ)(hB:App aJ.drew H 5 1 (.slice none 0 0) vb (F f).1.length (E0 (F f).1))(hC:App ((H.alloc (.cells #[vb,.int .i64 (F f).2] 129)).alloc (.cells #[.pointer (some ⟨H.heap.size,0,none⟩)] 123)) w6 123 1 aD (.slice a6 (ne+1) c6) (ne+1) (EX M++[.pointer (some ⟨H.heap.size,0,none⟩)])):
 Ep N w bo bm F old made vo vm VB es i (cn+1) ov (w6.setCell ⟨bm,0,none⟩ (.slice a6 (ne+1) c6)) (L++[f]) (M++[H.heap.size]) (.slice a3 (ne+1) c3) (.slice a6 (ne+1) c6) (λm=>if m=H.heap.size then vb else VB' m) aA:=by
 subst aU;have hl:=h.cs.b3;have s2:=aQ.Ak;have s3:=hA.Cy.size;have s4:aJ.heap.size<=H.heap.size:=hB.Cy.size;have s6:=hC.Cy.size;have sW:aJ.heap.size=w3.heap.size:=by rw[<-aL];simp
 simp only[ML,World.heap_drewN]at s3 s6;have aW:=By h.cs.ob;have a4:=By h.cs.mb;have a1:∀g,aB.ownBlock=some g->g<w1.heap.size:=λg d=>AB h.cs.ol d;have aI:∀g,aD.ownBlock=some g->g<w1.heap.size:=λg d=>AB h.cs.ml d;have k3:=((((aQ.aa (S':=λk=>aB.ownBlock=some k) λ_ _ h=>h.elim)).ba nq).ak (.cells #[.pointer (some ⟨f,0,none⟩)] 123)).Cy hA.Cy (λk hk _=>hk);have aH:=((((A3.I (λk=>aD.ownBlock=some k) aJ).af.Cy hB.Cy (λk hk _=>by simp[Value.ownBlock]at hk)).ak (.cells #[vb,.int .i64 (F f).2] 129)).ak (.cells #[.pointer (some ⟨H.heap.size,0,none⟩)] 123)).Cy hC.Cy (λk hk _=>hk);have aR:=(k3.Ao bo aW (λe=>by obtain⟨c,X⟩:=Be h.cs.ol e;exact BS X h.cs.ob (by decide) rfl)).trans h.cs.ob;have a0:aJ.heap[bo]?=some (.cells #[.slice a3 (L.length+1) c3] 138 (0,0)):=by rw[<-aL];exact Cq aR
 have kW:A3 (One bo) w3 aJ:=by rw[<-aL];exact(A3.I (One bo) w3).ao rfl 0 _
 have aP:=(k3.Ao bm a4 (λe=>by obtain⟨c,X⟩:=Be h.cs.ol e;exact BS X h.cs.mb (by decide) rfl)).trans h.cs.mb;have aN:=(kW.Ao bm (By aP) (λe=>h.cs.ne e.symm)).trans aP
 have aT:=(aH.Ao bm (By aN) (λe=>by
  obtain⟨c,X⟩:=Be h.cs.ml e;exact BS X h.cs.mb (by decide) rfl)).trans aN
 have k7:A3 (One bm) w6 (w6.setCell ⟨bm,0,none⟩ (.slice a6 (L.length+1) c6)):=(A3.I (One bm) w6).ao rfl 0 _;have e7:(w6.setCell ⟨bm,0,none⟩ (.slice a6 (L.length+1) c6)).heap[bm]?=some (.cells #[.slice a6 (L.length+1) c6] 138 (0,0)):=Cq aT;generalize aX:w6.setCell ⟨bm,0,none⟩ (.slice a6 (L.length+1) c6)=W7 at k7 e7 ⊢;have s7:W7.heap.size=w6.heap.size:=by rw[<-aX];simp
 have aS:A3 (λk=>k=bo\/k=bm\/aB.ownBlock=some k\/aD.ownBlock=some k) w1 W7:=by
  refine(((k3.aa (S':=λk=>k=bo\/k=bm\/aB.ownBlock=some k\/aD.ownBlock=some k) (λx _ E=>.inr (.inr (.inl E)))).Ap kW (λx E _=>.inl E)).Ap aH (λx E _=>.inr (.inr (.inr E)))).Ap k7 (λx E _=>.inr (.inl E))
 have key:∀(k:Nat) (c:Array Value) (e:Nat),w1.heap[k]?=some (Obj.cells c e (0,0))->e≠138->e≠123->W7.heap[k]?=w1.heap[k]?:=λk c e hk h1 h2=>
  aS.Ao k (By hk) (by
   rintro (rfl|rfl|d|d)
   ·exact BS hk h.cs.ob h1 rfl
   ·exact BS hk h.cs.mb h1 rfl
   ·obtain⟨c',X⟩:=Be h.cs.ol d;exact BS hk X h2 rfl
   ·obtain⟨c',X⟩:=Be h.cs.ml d;exact BS hk X h2 rfl)
 have aF:∀g,(Value.slice a3 (L.length+1) c3).ownBlock=some g->aB.ownBlock=some g\/(w1.heap.size<=g/\g<w3.heap.size):=λg d=>by
  have I:=AB hA.AA d;rcases hA.Cj with e|e
  ·rw[e]at d;exact .inl d
  ·rw[e]at d;cases d;right;simp at I ⊢;omega
 have aM:∀g,(Value.slice a6 (L.length+1) c6).ownBlock=some g->aD.ownBlock=some g\/H.heap.size+2<=g:=λg d=>by
  rcases hC.Cj with e|e
  ·rw[e]at d;exact .inl d
  ·rw[e]at d;cases d;right;simp
 have aG:∀g,vb.ownBlock=some g->aJ.heap.size<=g:=λg d=>by
  rcases hB.Cj with e|e
  ·rw[e]at d;simp[Value.ownBlock]at d
  ·rw[e]at d;cases d;simp
 have hM:∀m∈M,m<w1.heap.size:=λm z=>h.cs.lt (.inr (.inr (.inr (.inr (.inl z)))));have aO:∀m∈M,∀g,(VB' m).ownBlock=some g->g<w1.heap.size:=λm z g d=>h.cs.lt (.inr (.inr (.inr (.inr (.inr ⟨m,z,d⟩)))));have hNw:N<=w1.heap.size:=by have:=h.cs.I6;omega
 have hww:=h.Aj.Ak;have oL:W7.ownsRow 0 123 1 (.slice a3 (L.length+1) c3) (L.length+1) (EX L++[.pointer (some ⟨f,0,none⟩)]):=by
  have q1:=
   Ay hA.AA λg d=>kW.Ao g (AB hA.AA d) (λe=>by obtain⟨c,X⟩:=Be hA.AA d;exact BS X aR (by decide) e)
  have q2:=Ay q1 λg d=>by
   have I:=AB hA.AA d;refine aH.Ao g (by omega) (λe=>?_);rcases aF g d with e2|e2
   ·exact h.cs.Ku g e2 e
   ·have:=aI g e;omega
  refine Ay q2 λg d=>?_;have I:=AB hA.AA d;refine k7.Ao g (by omega) (λe=>?_);rcases aF g d with e2|e2
  ·obtain⟨c,X⟩:=Be h.cs.ol e2;exact BS X h.cs.mb (by decide) e
  ·have:g=bm:=e;omega
 have oM:W7.ownsRow 0 123 1 (.slice a6 (L.length+1) c6) (L.length+1) (EX M++[.pointer (some ⟨H.heap.size,0,none⟩)]):=by
  refine Ay hC.AA λg d=>k7.Ao g (AB hC.AA d) (λe=>?_);obtain⟨c,X⟩:=Be hC.AA d;exact BS X aT (by decide) e
 have fB:CY W7 H.heap.size vb (F f).2:=by
  have h5:((H.alloc (.cells #[vb,.int .i64 (F f).2] 129)).alloc (.cells #[.pointer (some ⟨H.heap.size,0,none⟩)] 123)).heap[H.heap.size]?=some (.cells #[vb,.int .i64 (F f).2] 129 (0,0)):=by
   rw[Dc _ _ _ (by simp)];exact BN _ _
  have h6:=(hC.Cy.block _ (by simp;omega) (λe=>by have:=aI _ e.symm;omega)).trans h5;exact(k7.Ao _ (by omega) (λe=>by have:H.heap.size=bm:=e;omega)).trans h6
 have bB:FI W7 vb (F f).1:=by
  refine Ay hB.AA λg d=>?_;have I:=AB hB.AA d;have hge:=aG g d;have h5:((H.alloc (.cells #[vb,.int .i64 (F f).2] 129)).alloc (.cells #[.pointer (some ⟨H.heap.size,0,none⟩)] 123)).heap[g]?=H.heap[g]?:=by
   rw[Dc _ _ _ (by simp;omega),Dc _ _ _ I]
  rw[<-h5,<-hC.Cy.block g (by simp;omega) (λe=>by have:=aI _ e.symm;omega)];exact k7.Ao _ (by omega) (λe=>by have:g=bm:=e;omega)
 have Y:H.heap.size∉M:=λz=>by have:=hM _ z;omega
 have aY:CS N W7 bo bm F (L++[f]) (M++[H.heap.size]) (.slice a3 (L.length+1) c3) (.slice a6 (L.length+1) c6) (λm=>if m=H.heap.size then vb else VB' m):=by
  refine⟨?_,e7,h.cs.ne,?_,?_,?_,?_,?_,?_,?_,?_,h.cs.I6,h.cs.IY,?_,?_,?_,?_⟩
  ·refine(k7.Ao bo (by omega) h.cs.ne).trans ((aH.Ao bo (by omega) (λe=>?_)).trans a0);obtain⟨c,X⟩:=Be h.cs.ml e;exact BS X h.cs.ob (by decide) rfl
  ·simpa[EX] using oL
  ·simpa[EX] using oM
  ·intro g h1 h2;rcases aF g h1 with e1|e1<;>rcases aM g h2 with e2|e2
   ·exact h.cs.Ku g e1 e2
   ·have:=a1 g e1;omega
   ·have:=aI g e2;omega
   ·omega
  ·intro j hj a7;by_cases I:j<M.length
   ·(have aK:j<L.length:=by omega);have z:M[j]'I≠H.heap.size:=λe=>Y (e ▸ BV I);obtain⟨q1,q2⟩:=h.cs.BM j I aK;simp only[Fa I,Fa aK,z,C4];refine⟨?_,Ay q2 λg d=>?_⟩
    ·unfold CY at q1 ⊢;rw[key _ _ _ q1 (by decide) (by decide)];exact q1
    ·obtain⟨c,X⟩:=Be q2 d;exact key _ _ _ X (by decide) (by decide)
   ·(obtain rfl:j=M.length:=by simp at hj;omega);(have e1:(M++[H.heap.size])[M.length]'hj=H.heap.size:=by simp);(have e2:(L++[f])[M.length]'a7=f:=by simp[hl]);rw[e1,e2];simp only[Cg];exact⟨fB,bB⟩
  ·intro x E;rcases AU.1 E with E|E
   ·obtain⟨q1,c,q2⟩:=h.cs.I4 x E;exact⟨q1,c,(key _ _ _ q2 (by decide) (by decide)).trans q2⟩
   ·simp at E;subst E;obtain⟨c,hc⟩:=aV;exact⟨aZ,c,(key _ _ _ hc (by decide) (by decide)).trans hc⟩
  ·refine GC.2 ⟨h.cs.I5,by simp,λa ha b hb e=>?_⟩;simp at hb;subst hb;subst e;exact hf ha
  ·refine GC.2 ⟨h.cs.OW,by simp,λa ha b hb e=>?_⟩;simp at hb;subst hb;subst e;exact Y ha
  ·intro m m' g z O d aE;rcases AU.1 z with z|z<;>rcases AU.1 O with O | O
   ·have n1:m≠H.heap.size:=λe=>Y (e ▸ z);have n2:m'≠H.heap.size:=λe=>Y (e ▸ O);simp only[n1,n2,C4]at d aE;exact h.cs.Gc m m' g z O d aE
   ·have n1:m≠H.heap.size:=λe=>Y (e ▸ z);simp at O;subst O;simp only[n1,C4]at d;simp at aE;have:=aO m z g d;have:=aG g aE;omega
   ·have n1:m'≠H.heap.size:=λe=>Y (e ▸ O);simp at z;subst z;simp only[n1,C4]at aE;simp at d;have:=aO m' O g aE;have:=aG g d;omega
   ·simp at z O;rw[z,O]
  ·intro g d;rcases aF g d with e|e
   ·exact h.cs.IV g e
   ·omega
  ·intro g d;rcases aM g d with e|e
   ·exact h.cs.IW g e
   ·omega
  ·intro m z;rcases AU.1 z with z|z
   ·exact h.cs.Oh m z
   ·simp at z;omega
  ·intro m z g d;rcases AU.1 z with z|z
   ·have n1:m≠H.heap.size:=λe=>Y (e ▸ z);simp only[n1,C4]at d;exact h.cs.Oi m z g d
   ·simp at z;subst z;simp at d;have:=aG g d;omega
 refine⟨aY,?_,h.ren.aa,?_,?_,h.AS,?_,?_,?_,?_⟩
 ·refine Ay h.EL λg d=>?_;obtain⟨c,X⟩:=Be h.EL d;exact key _ _ _ X (by decide) (by decide)
 ·obtain⟨o,h1,h2,h3⟩:=h.Gu;refine⟨o++[f],by rw[h1,Cc],by simp;omega,λx E=>?_⟩;rcases AU.1 E with E|E
  ·exact h3 x E
  ·simp at E;subst E;exact a2
 ·obtain⟨o,h1,h2⟩:=h.JH;refine⟨o++[H.heap.size],by rw[h1,Cc],λx E=>?_⟩;rcases AU.1 E with E|E
  ·exact h2 x E
  ·simp at E;omega
 ·refine h.Aj.Ap aS ?_;rintro x (rfl|rfl|E|E) I
  ·exact .inl rfl
  ·exact .inr (.inl rfl)
  ·rcases h.Lb x E with e|e
   ·exact .inr (.inr (.inl e))
   ·omega
  ·rcases h.MB x E with e|e
   ·exact .inr (.inr (.inr e))
   ·omega
 ·intro g d;rcases aF g d with e|e
  ·exact h.Lb g e
  ·right;omega
 ·intro g d;rcases aM g d with e|e
  ·exact h.MB g e
  ·right;omega
 ·intro m z;obtain⟨o,h1,_⟩:=h.JH;have a5:m∈M:=by rw[h1];exact AU.2 (.inl z)
  have n1:m≠H.heap.size:=λe=>Y (e ▸ a5);simp only[n1,C4];exact h.Pj m z
end
def Yw(N:Nat)(w:World)(bo bm:Nat)(F:Nat->FC)(old made:List Nat)(vo vm:Value)(VB:Nat->Value)(h:CS N w bo bm F old made vo vm VB)(es:List AL)(vl:Value)(bR:D2 w vl es)(dD:∀g,vl.ownBlock=some g->g<N)(hn:es.length<1099511627776/\old.length<1099511627776)(hf:∀f,Df f es->f<N/\(F f).1.length<=1099511627776/\∃v,CY w f v (F f).2/\FI w v (F f).1/\∀g,v.ownBlock=some g->g<N):
 Ag 87 #[vl,A5 bo,A5 bm] w λe w'=>∃v,e=.returned v/\OR N w bo bm F old made vo vm VB es es.length v w':=by
 have H:=A1 h;have b0:=A1 hf;have dO:=A1 bR;have dR:=A1 dD;obtain⟨a,cap,rfl,hle,cS,he⟩:=bR.Ce;have dP:=A1 he;obtain⟨hn1,hn2⟩:=hn;unfold maxLen at cS
 go_enter func87,ntmps87
 go_wp2;go_loopw [5,11] (λov iv wr=>∃i:Nat,i<=es.length/\iv=A0 i/\Hid (OR N w bo bm F old made vo vm VB es i ov wr)) (λ_ iv _=>es.length-(intOf iv).toNat)
 case atStart=>exact⟨0,Cf _,rfl,old,made,vo,vm,VB,[],H.o,CD _ _ _ _,⟨by simp,by simp⟩,⟨[],by simp⟩,⟨[],by simp⟩,by simp[Value.ownBlock],A3.I _ _,λ_ h=>.inl h,λ_ h=>.inl h,λ_ _=>rfl⟩
 case round=>
  obtain⟨i,hi,rfl,bJ⟩:=hrel;by_cases aH:i<es.length
  ·obtain⟨L,M,aB,aD,VB',aA,k0⟩:=bJ.o;have k1:=k0.cs;have k6:=k0.Aj;obtain⟨g,rfl,e1,e2⟩:=dP.o i aH;have hgN:=dR.o g rfl;have bA:=AB dO.o (g:=g) rfl;have bP:¬CF bo bm vo vm g:=by
    rintro (rfl|rfl|X|X)
    ·have:=H.o.I6;omega
    ·have:=H.o.IY;omega
    ·have:=H.o.IV g X;omega
    ·have:=H.o.IW g X;omega
   have e3:=(DR (k6.Ao g bA bP)).trans e1;have e4:=(DR (k6.Ao g bA bP)).trans e2;obtain⟨nm,bD⟩:∃nm,(es[i]'aH).1=nm:=⟨_,rfl⟩;obtain⟨f,aN⟩:∃f,(es[i]'aH).2=f:=⟨_,rfl⟩;rw[bD]at e3;rw[aN]at e4;have b7:=A1 k1;have bZ:=A1 k6;have cF:=A1 <| (b0.o f ⟨_,BV aH,aN⟩).2.1;have cV:Hid (∃v,(∀g,v.oB g->g<N)/\∀W,A3 (CF bo bm vo vm) w W->CY W f v (F f).2/\FI W v (F f).1):=by
    obtain⟨h1,_,v,h2,h3,h4⟩:=b0.o f ⟨_,BV aH,aN⟩;have key:∀k,k<N->¬CF bo bm vo vm k:=by
     rintro k hk (rfl|rfl|X|X)
     ·have:=H.o.I6;omega
     ·have:=H.o.IY;omega
     ·have:=H.o.IV k X;omega
     ·have:=H.o.IW k X;omega
    refine⟨v,h4,λW hc=>⟨(hc.Ao f (By h2) (key f h1)).trans h2,Ay h3 λg X=>hc.Ao g (AB h3 X) (key g (h4 g X))⟩⟩
   have bQ:Hid (∀W:World,A3 (CF bo bm vo vm) w W->∃c,W.heap[f]?=some (.cells c 129 (0,0))):=by
    intro W hc;obtain⟨h1,_,v,h2,_⟩:=b0.o f ⟨_,BV aH,aN⟩;refine⟨_,(hc.Ao f (By h2) ?_).trans h2⟩;rintro (rfl|rfl|X|X)
    ·have:=H.o.I6;omega
    ·have:=H.o.IY;omega
    ·have:=H.o.IV f X;omega
    ·have:=H.o.IW f X;omega
   have hLl:L.length<2199023255552:=by
    obtain⟨o,h1,h2,_⟩:=k0.Gu;rw[h1,AY];omega
   (have hEl:aA.length=i:=by have:=k0.ren.1;rw[BU]at this;omega);obtain⟨i0,bS,bG,bV,bN⟩:=E7 Tryz.cV;have bI:=A1 bD;have aX:=A1 aN;obtain⟨ne,aW⟩:∃ne,aA.length=ne:=⟨_,rfl⟩;(have hne2:ne<1099511627776:=by omega);have aT:=A1 aW;have cC:=A1 k0;obtain⟨ao,co,rfl,ho1,cQ,dC,_,_⟩:=B8 k1.ol;unfold maxLen at cQ;go_wp2;have dF:=A1 dC;obtain⟨O,cE⟩:∃O,O=wr:=⟨_,rfl⟩;subst cE;have hsz:=By b7.o.ob;go_loopw [8] (λjv w2=>∃j:Nat,j<=L.length/\jv=A0 j/\Hid (∀m (h:m<L.length),m<j->L[m]'h≠f)/\Hid (A3 Ab (O.aC #[.string nm,A5 f] 125) w2)) (λjv _=>L.length-(intOf jv).toNat)
   case atStart=>exact⟨0,Cf _,rfl,λm h hm=>by omega,A3.I _ _⟩
   case round=>
    obtain⟨j,hj,rfl,bE,aG⟩:=hrel;obtain⟨w2,cB⟩:∃w2,w2=wr:=⟨_,rfl⟩;subst cB;have bO:=A1 <| (bZ.o.ak _).Ap aG.o (λ_ h _=>h.elim);have I:=A1 <| (b7.o.Aj ((A3.I Ab O).ak _) (λ_ _ h=>h) (λ_ _ h=>h)).Aj aG.o (λ_ _ h=>h) (λ_ _ h=>h);(have b1:w2.cell? (Aa bo 0)=some (.slice ao L.length co):=by have:=I.o.ob;simp[World.cell?,this]);have hE:=(aG.o.Ao O.heap.size (by simp) (λh=>h)).trans (BN O _);(have b2:w2.cell? (Aa O.heap.size 0)=some (.string nm):=by simp[World.cell?,hE]);(have b3:w2.cell? (Aa O.heap.size 1)=some (A5 f):=by simp[World.cell?,hE]);by_cases aL:j<L.length
    ·obtain⟨go,rfl⟩:=dF.o (by omega);obtain⟨x,hx⟩:∃x,L[j]'aL=x:=⟨_,rfl⟩;have b4:w2.cell? (Aa go j)=some (A5 x):=by
      refine BC I.o.ol (g:=go) rfl ?_;unfold EX;rw[PO,E2 aL,hx];rfl
     have dA:=A1 hx;by_cases a1:x=f
     ·subst a1;have q:=λW=>Yh W x;go_wp2;go_quiet (fail);go_wp2;obtain⟨mf,a8⟩:∃mf,M[j]?=some mf:=⟨M[j]'(by rw[I.o.b3];exact aL),E2 _⟩;obtain⟨am,cm,a0,aU,aM,aQ,_,_⟩:=B8 I.o.ml;subst a0;obtain⟨gm,rfl⟩:=aQ (by omega);unfold maxLen at aM;(have b5:w2.cell? (Aa bm 0)=some (AJ gm L.length cm):=by have:=I.o.mb;simp[World.cell?,this]);have b6:w2.cell? (Aa gm j)=some (A5 mf):=by
       refine BC I.o.ml (g:=gm) rfl ?_;unfold EX;rw[PO,a8];rfl
      have cO:=A1 a8;have Y:Hid (∀n,Ep N w bo bm F old made vo vm VB es i i u5 ((w2.drewN n).aC #[.string nm,A5 mf] 125) L M (AJ go L.length co) (AJ gm L.length cm) VB' aA):=
       λn=>cC.o.b4 (((((A3.I Ab O).ak _).tr aG.o).ba n).ak _)
      have aP:Hid (∀n,((w2.drewN n).aC #[.string nm,A5 mf] 125).ownsRow 0 125 2 u5 ne (BX aA)):=λn=>aT.o ▸ (Y.o n).EL;have aZ:Hid (∀n,Src Tryz.prog 2 92 (AJ w2.heap.size 1 1) 1 [.string nm,A5 mf] ((w2.drewN n).aC #[.string nm,A5 mf] 125)):=
       λn=>Src.bb underlying92 (w2.drewN n) #[.string nm,A5 mf] 125 w2.heap.size (by simp) 1 1 rfl (by simp[Value.oneCell'])
      (have aR:(ne+1)*24<=140737488355328:=by omega);have aO:Hid (∀n b3 z w3,App ((w2.drewN n).aC #[.string nm,A5 mf] 125) w3 125 2 u5 (.slice b3 (ne+1) z) (ne+1) (BX aA++[.string nm,A5 mf])->OR N w bo bm F old made vo vm VB es (i+1) (.slice b3 (ne+1) z) w3):=by
       intro n b3 z w3 hA;exact⟨_,_,_,_,_,_,(Y.o n).cr aH bI.o aX.o (by rw[E2 aL,dA.o]) cO.o (by omega) (by rw[aT.o];exact hA)⟩
      go_region_law
       ((refine Jy ?_ (.tmp 55) (.tmp 63) 92 92 ?_ 125 i0 _ 2 24 underlying92 bS bG bV bN rfl (Nat.zero_lt_succ 23) u5 ne (BX aA) ?_ (aP.o (nq+1)) (AJ w2.heap.size 1 1) 1 [.string nm,A5 mf] ?_ (aZ.o (nq+1)) aR ?_;(· rfl);(· rfl);(· rfl);(· rfl);intro b3 z w3 hA;have cL:=A1 (aO.o (nq+1) b3 z w3 hA)))
      all_goals (go_wp2;go_roundw;(case rel=>exact⟨i+1,by omega,by go_num,cL.o⟩);(case measure=>simp[intOf];omega))
     ·obtain⟨cx,cA⟩:=(I.o.I4 x (dA.o ▸ BV aL)).2;have q:∀n:Nat,(binOp .neq 123 (A5 x) (A5 f)).run Tryz.prog (w2.drewN n)=.ok (.bool true) (w2.drewN n):=by
       intro n;obtain⟨cf,cG⟩:=bQ.o w2 (bO.o);exact Yi _ x f cx cf (by simpa using cA) (by simpa using cG) a1
      go_wp2;go_quiet (fail);go_wp2;go_roundw
      case rel=>
       refine⟨j+1,by omega,by go_num,λm h hm=>?_,aG.o.ba _⟩;by_cases cD:m=j
       ·subst cD;rw[dA.o];exact a1
       ·exact bE.o m h (by omega)
      case measure=>simp[intOf];omega
    ·(obtain rfl:j=L.length:=by omega);obtain⟨p0,hp,bW,bT,bM⟩:=E7 Tryz.fp;have aZ:Hid (∀n,Src Tryz.prog 1 138 (AJ w2.heap.size 1 1) 1 [A5 f] ((w2.drewN n).aC #[A5 f] 123)):=
      λn=>Src.bb underlying138 (w2.drewN n) #[A5 f] 123 w2.heap.size (by simp) 1 1 rfl (by simp[Value.oneCell'])
     have cJ:Hid (∀n,((w2.drewN n).aC #[A5 f] 123).ownsRow 0 123 1 (.slice ao L.length co) L.length (EX L)):=
      λn=>Ay I.o.ol λg X=>Dc _ _ _ (by simpa using AB I.o.ol X)
     (have aR:(L.length+1)*8<=140737488355328:=by omega)
     have dN:Hid (∀n w3 a3 z,App ((w2.drewN n).aC #[A5 f] 123) w3 123 1 (.slice ao L.length co) (.slice a3 (L.length+1) z) (L.length+1) (EX L++[A5 f])->
      w3.frozen? (Aa bo 0)=false/\w3.cell? (Aa bo 0)=some (.slice ao L.length co)/\A3 (λk=>k=bo\/(Value.slice ao L.length co).oB k) w2 (w3.setCell (Aa bo 0) (.slice a3 (L.length+1) z))):=by
      intro n w3 a3 z hA;have aW:(Value.slice ao L.length co).ownBlock≠some bo:=λe=>by
       obtain⟨c,hh⟩:=Be I.o.ol e;exact BS hh I.o.ob (by decide) rfl
      have bH:w3.heap[bo]?=some (.cells #[.slice ao L.length co] 138 (0,0)):=by
       rw[hA.Cy.block bo (by have:=By I.o.ob;simp;omega) (λe=>aW e.symm),Dc _ _ _ (by simpa using By I.o.ob)];exact I.o.ob
      refine⟨by simp[World.frozen?,bH],by simp[World.cell?,bH],?_⟩;exact((((A3.I _ w2).ba n).ak _).Cy hA.Cy (λk hk _=>.inr hk)).ao (.inl rfl) 0 _
     go_wp2;go_quiet (fail);go_wp2_with (at_builtin;refine D4 rfl (.tmp 34) (.tmp 37) 138 138 rfl 123 p0 _ 1 8 underlying138 hp bW bT bM rfl (by decide) _ _ _ (by rfl) (cJ.o nq) _ 1 _ (by rfl) (aZ.o nq) aR ?_;intro a3 z w3 hA;have c3:=A1 (dN.o nq w3 a3 z hA);have f3:=c3.o.1;have g3:=c3.o.2.1);have aJ:=c3.o.2.2;generalize cX:w3.setCell (Aa bo 0) (.slice a3 (L.length+1) z)=W3 at aJ ⊢;have C3b:=A1 aJ;have cT:=A1 cX;have dJ:=A1 hA;obtain⟨am,cm,a0,aU,aM,aQ,_,_⟩:=B8 I.o.ml;subst a0;unfold maxLen at aM
     have dE:=A1 <| bO.o.Ap aJ (λx hx bF=>by
      rcases hx with rfl|hx
      ·exact .inl rfl
      ·rcases cC.o.Lb x hx with h|h
       ·exact .inr (.inr (.inl h))
       ·omega)
     obtain⟨vf,hvf1,bY⟩:=cV.o;obtain⟨Y,bK⟩:=bY W3 dE.o;obtain⟨af,cf,rfl,hf1,cN⟩:=bK.Ce;unfold maxLen at cN;have d1:=Y.c0;have d2:=Y.c1;have cP:¬(Value.slice ao L.length co).oB bm:=λe=>by
      obtain⟨c,hh⟩:=Be I.o.ol e;exact BS hh I.o.mb (by decide) rfl
     have aK:=
      (aJ.Ao bm (By I.o.mb) (λe=>e.elim (λe=>I.o.ne e.symm) cP)).trans I.o.mb
     (have d3:W3.cell? (Aa bm 0)=some (.slice am L.length cm):=by simp[World.cell?,aK]);(have hge:O.heap.size<=w2.heap.size:=by have:=aG.o.Ak;simp at this;omega);have cZ:∀g,(Value.slice ao L.length co).oB g->g<O.heap.size:=λg X=>AB b7.o.ol X;have aF:=(aJ.Ao O.heap.size (by have:=aG.o.Ak;simp at this;omega) (λe=>e.elim (λe=>by omega) (λe=>by have:=cZ _ e;omega))).trans ((aG.o.Ao O.heap.size (by simp) (λh=>h)).trans (BN O _));(have d4:W3.cell? (Aa O.heap.size 0)=some (.string nm):=by simp[World.cell?,aF]);(have d5:W3.cell? (Aa O.heap.size 1)=some (A5 f):=by simp[World.cell?,aF]);obtain⟨y0,hy,cY,b9,cM⟩:=E7 Tryz.infoByte;have cU:=A1 <| Src.bO (w:=W3.drew) underlying127 bK (A17 _);(have dI:(0+(F f).1.length)*1<=140737488355328:=by have:=cF.o;omega);have dK:Hid (∀E v4 n xs,App W3.drew E 5 1 (.slice none 0 0) v4 n xs->E.cell? (Aa O.heap.size 1)=some (A5 f)/\E.cell? (Aa f 0)=some (.slice af (F f).1.length cf)/\E.cell? (Aa f 1)=some (A0 (F f).2)/\E.cell? (Aa bm 0)=some (.slice am L.length cm)/\E.cell? (Aa O.heap.size 0)=some (.string nm)):=by
      intro E v4 n xs hB;have hc:∀k o,W3.heap[k]?=some o->E.heap[k]?=some o:=λk o ho=>(hB.bE.Ao k (By ho) (λh=>h)).trans ho
      exact⟨(DR ((hc _ _ aF).trans aF.symm)).trans d5,(DR ((hc _ _ Y).trans Y.symm)).trans d1,(DR ((hc _ _ Y).trans Y.symm)).trans d2,(DR ((hc _ _ aK).trans aK.symm)).trans d3,(DR ((hc _ _ aF).trans aF.symm)).trans d4⟩
     have dQ:Hid (∀E v4 n xs o1 o2,App W3.drew E 5 1 (.slice none 0 0) v4 n xs->((E.alloc o1).alloc o2).ownsRow 0 123 1 (.slice am L.length cm) L.length (EX M)):=by
      intro E v4 n xs o1 o2 hB
      have aQ:=Ay I.o.ml λg X=>aJ.Ao g (AB I.o.ml X) (by
       rintro (e|e)
       ·obtain⟨c,hh⟩:=Be I.o.ml X;exact BS hh I.o.ob (by decide) e
       ·exact I.o.Ku g e X)
      have bB:=Ay aQ λg X=>hB.bE.Ao g (AB aQ X) (λh=>h);have bC:(E.alloc o1).ownsRow 0 123 1 (.slice am L.length cm) L.length (EX M):=Ay bB λg X=>Dc _ _ _ (AB bB X);exact Ay bC λg X=>Dc _ _ _ (AB bC X)
     have dL:Hid (∀E v4 n xs o1 o2 w6 a6 d ys,App W3.drew E 5 1 (.slice none 0 0) v4 n xs->App ((E.alloc o1).alloc o2) w6 123 1 (.slice am L.length cm) (.slice a6 (L.length+1) d) (L.length+1) ys->
      (w6.cell? (Aa O.heap.size 1)=some (A5 f)/\w6.cell? (Aa f 0)=some (.slice af (F f).1.length cf)/\w6.cell? (Aa f 1)=some (A0 (F f).2)/\w6.cell? (Aa bm 0)=some (.slice am L.length cm)/\w6.cell? (Aa O.heap.size 0)=some (.string nm))/\w6.frozen? (Aa bm 0)=false/\(w6.setCell (Aa bm 0) (.slice a6 (L.length+1) d)).cell? (Aa O.heap.size 0)=some (.string nm)):=by
      intro E v4 n xs o1 o2 w6 a6 d ys hB hC;have hc:∀k o,W3.heap[k]?=some o->(Value.slice am L.length cm).ownBlock≠some k->w6.heap[k]?=some o:=λk o ho hn=>by
       have h4:=(hB.bE.Ao k (By ho) (λh=>h)).trans ho;have h5:((E.alloc o1).alloc o2).heap[k]?=some o:=by
        rw[Dc _ _ _ (by have:=By h4;simp;omega),Dc _ _ _ (By h4)];exact h4
       exact(hC.Cy.block k (By h5) (λe=>hn e.symm)).trans h5
      have a2:∀k (c:Array Value) (e:Nat),W3.heap[k]?=some (Obj.cells c e (0,0))->e≠123->(Value.slice am L.length cm).ownBlock≠some k:=λk c e hk he hn=>by
       have bF:=AB I.o.ml hn;obtain⟨c',hh⟩:=Be I.o.ml hn
       have:W3.heap[k]?=w2.heap[k]?:=aJ.Ao k bF (by
        rintro (e2|e2)
        ·exact BS hh I.o.ob (by decide) e2
        ·exact I.o.Ku k e2 hn)
       rw[this,hh]at hk;cases hk;exact he rfl
      have x1:=hc _ _ aF (a2 _ _ _ aF (by decide));have x2:=hc _ _ Y (a2 _ _ _ Y (by decide));have x3:=hc _ _ aK (a2 _ _ _ aK (by decide));(have aY:bm≠O.heap.size:=by have:=By b7.o.mb;omega);refine⟨⟨(DR (x1.trans aF.symm)).trans d5,(DR (x2.trans Y.symm)).trans d1,(DR (x2.trans Y.symm)).trans d2,(DR (x3.trans aK.symm)).trans d3,(DR (x1.trans aF.symm)).trans d4⟩,by simp[World.frozen?,x3],?_⟩;rw[A3k _ _ _ _ aY];exact(DR (x1.trans aF.symm)).trans d4
     have dB:f∉L:=λhm=>by
      obtain⟨m,aU,aM⟩:=DU hm;exact bE.o m aU aU aM
     have aV:Df f es:=⟨_,BV aH,aX.o⟩
     have dH:Hid (∀E b4 aE w6 a6 d,App W3.drew E 5 1 (.slice none 0 0) (.slice b4 (F f).1.length aE) (F f).1.length (E0 (F f).1)->
      App ((E.aC #[.slice b4 (F f).1.length aE,A0 (F f).2] 129).aC #[A5 E.heap.size] 123) w6 123 1 (.slice am L.length cm) (.slice a6 (L.length+1) d) (L.length+1) (EX M++[A5 E.heap.size])->
      Ep N w bo bm F old made vo vm VB es i (i+1) u5 (w6.setCell (Aa bm 0) (.slice a6 (L.length+1) d)) (L++[f]) (M++[E.heap.size]) (.slice a3 (L.length+1) z) (.slice a6 (L.length+1) d) (λm=>if m=E.heap.size then .slice b4 (F f).1.length aE else VB' m) aA):=
      λE b4 aE w6 a6 d hB hC=>cC.o.cM rfl dB aV (b0.o f aV).1 (bQ.o O bZ.o) (((A3.I Ab O).ak _).tr aG.o) dJ.o cT.o hB hC
     have dM:Hid (W3.drew.cell? (Aa O.heap.size 1)=some (A5 f)/\W3.drew.cell? (Aa f 0)=some (.slice af (F f).1.length cf)/\W3.drew.cell? (Aa f 1)=some (A0 (F f).2)/\W3.drew.cell? (Aa bm 0)=some (.slice am L.length cm)/\W3.drew.cell? (Aa O.heap.size 0)=some (.string nm)):=⟨d5,d1,d2,d3,d4⟩;refine FJ (λw'=>w'.cell? (Aa O.heap.size 1)=some (A5 f)/\w'.cell? (Aa f 0)=some (.slice af (F f).1.length cf)/\w'.cell? (Aa f 1)=some (A0 (F f).2)/\w'.cell? (Aa bm 0)=some (.slice am L.length cm)/\w'.cell? (Aa O.heap.size 0)=some (.string nm)) 16
      (Bq [0,1,2,3,4,5,7,8,9,10,11,6,12,13,14,15] [6,13,14,15]) (by kernel_rfl) (by kernel_rfl) (λ_ _ _ _ _ h=>h) dM.o ?_
     iterate 11 (refine E8 (v:=?_) rfl (by rfl) ?_ ?_;rotate_left;(· (intro w' hS;(try dsimp only at hS);go_simp;try with_reducible rfl));(try simp only[An]))
     refine DW rfl (by rfl) (λK hK=>?_);refine HW (.const (.slice none 0 0)) (.tmp 44) 127 127 (by rfl) 5 y0 _ 1 1 underlying127 hy cY b9 cM rfl (by decide) (.slice none 0 0) 0 [] (by rfl) (CD _ _ _ _) _ (F f).1.length _ (by rfl) cU.o dI ?_;intro b4 aE E hB;simp only[GO,Es]at hB ⊢;refine hK _ _ (dK.o _ _ _ _ hB) (λhS=>?_)
     (try simp only[An])
     obtain⟨q1,q2,q3,q4,q5⟩:=hS
     (refine E8 (v:=?_) rfl (by rfl) ?_ ?_;rotate_left;(· (intro w' hS;(try dsimp only at hS);go_simp;try with_reducible rfl));(try simp only[An]))
     refine DW rfl (by rfl) (λK hK=>?_);go_simp;refine hK _ _ ?_ (λhS=>?_)
     ·simp[World.cell?_alloc_some,q1,q2,q3,q4,q5]
     (try simp only[An])
     obtain⟨q1',q2',q3',q4',q5'⟩:=hS;refine DW rfl (by rfl) (λK hK=>?_);go_simp;refine hK _ _ ?_ (λhS=>?_)
     ·simp[World.cell?_alloc_some,q1,q2,q3,q4,q5]
     (try simp only[An])
     have cH:Hid (Src Tryz.prog 1 138 (AJ (E.heap.size+1) 1 1) 1 [A5 E.heap.size] ((E.aC #[.slice b4 (F f).1.length aE,A0 (F f).2] 129).aC #[A5 E.heap.size] 123)):=
      Src.bb underlying138 (E.aC #[.slice b4 (F f).1.length aE,A0 (F f).2] 129) #[A5 E.heap.size] 123 (E.heap.size+1) (by simp) 1 1 rfl (by simp[Value.oneCell'])
     refine DW rfl (by rfl) (λK hK=>?_);refine HW (.tmp 39) (.tmp 53) 138 138 (by rfl) 123 p0 _ 1 8 underlying138 hp bW bT bM rfl (by decide) (.slice am L.length cm) L.length (EX M) (by rfl) (dQ.o _ _ _ _ _ _ hB) _ 1 _ (by rfl) cH.o aR ?_;intro a6 d w6 hC;have k7:=A1 (dH.o E b4 aE w6 a6 d hB hC);obtain⟨r1,r2,r3⟩:=dL.o _ _ _ _ _ _ _ _ _ _ hB hC;refine hK _ _ r1 (λhS=>?_);obtain⟨_,_,_,r4,_⟩:=r1
     (try simp only[An])
     refine Bl ?_;simp only[DE,Dp];go_wp2;generalize hW7:w6.setCell (Aa bm 0) (.slice a6 (L.length+1) d)=W7 at k7 r3 ⊢;generalize a8:E.heap.size=mf at k7;have a4:=k7.o.cs.ml;(have a5:(L++[f]).length=L.length+1:=by simp);rw[a5]at a4;obtain⟨a7,c7,e7,hm1',bU,a9,_,_⟩:=B8 a4;cases e7;obtain⟨g6,rfl⟩:=a9 (by omega);unfold maxLen at bU;(have m1:W7.cell? (Aa bm 0)=some (AJ g6 (L.length+1) d):=by have:=k7.o.cs.mb;simp[World.cell?,this]);have m2:W7.cell? (Aa g6 L.length)=some (A5 mf):=by
      refine BC a4 (g:=g6) rfl ?_;have aS:=I.o.b3;unfold EX;rw[El,Hs (by simp[aS])];simp[aS]
     have aP:Hid (((W7.drew).aC #[.string nm,A5 mf] 125).ownsRow 0 125 2 u5 ne (BX aA)):=aT.o ▸ (k7.o.b4 ((A3.I _ W7).af.ak _)).EL;have bX:Hid (Src Tryz.prog 2 92 (AJ W7.heap.size 1 1) 1 [.string nm,A5 mf] ((W7.drew).aC #[.string nm,A5 mf] 125)):=
      Src.bb underlying92 W7.drew #[.string nm,A5 mf] 125 W7.heap.size (by simp) 1 1 rfl (by simp[Value.oneCell'])
     (have bL:(ne+1)*24<=140737488355328:=by omega);have aO:Hid (∀b8 aI w8,App ((W7.drew).aC #[.string nm,A5 mf] 125) w8 125 2 u5 (.slice b8 (ne+1) aI) (ne+1) (BX aA++[.string nm,A5 mf])->OR N w bo bm F old made vo vm VB es (i+1) (.slice b8 (ne+1) aI) w8):=by
      intro b8 aI w8 hA;have aS:M.length=L.length:=I.o.b3;exact⟨_,_,_,_,_,_,(k7.o.b4 ((A3.I _ W7).af.ak (.cells #[.string nm,A5 mf] 125))).cr (j:=L.length) (mf:=mf) aH bI.o aX.o (by simp) (by simp[<-aS]) (As _) (by rw[aT.o];exact hA)⟩
     have j0:(0:Int)<=(L.length:Int):=Gp _;obtain⟨nl,dG,j1⟩:∃nl:Nat,L.length+1=nl/\(L.length:Int)<(nl:Int):=⟨_,rfl,by omega⟩;rw[dG]at m1;refine FJ (λw'=>w'.cell? (Aa O.heap.size 0)=some (.string nm)/\w'.cell? (Aa bm 0)=some (AJ g6 nl d)/\w'.cell? (Aa g6 L.length)=some (A5 mf)) 9
      (Bq [0,1,2,3,4,5,6,7,8] [8]) (by kernel_rfl) (by kernel_rfl) (λ_ _ _ _ _ h=>h) ⟨r3,m1,m2⟩ ?_
     iterate 8 (refine E8 (v:=?_) rfl (by rfl) ?_ ?_;rotate_left;(· (intro w' hS;(try dsimp only at hS);go_simp;try with_reducible rfl));(try simp only[An]))
     refine DW rfl (by rfl) (λK hK=>?_);go_simp;refine hK _ _ ?_ (λhS=>?_)
     ·simp[World.cell?_alloc_some,r3,m1,m2]
     (try simp only[An])
     refine Bl ?_;simp only[DE,Dp];go_wp2_with (at_builtin;refine D4 rfl (.tmp 55) (.tmp 63) 92 92 rfl 125 i0 _ 2 24 underlying92 bS bG bV bN rfl (by decide) u5 ne (BX aA) (by rfl) aP.o _ 1 _ (by rfl) bX.o bL ?_;intro b8 aI w8 hD;have cI:=A1 (aO.o b8 aI w8 hD));go_roundw
     case rel=>exact⟨i+1,by omega,by go_num,cI.o⟩
     case measure=>simp[intOf];omega
  ·(obtain rfl:i=es.length:=by omega);go_wp2;go_ret;exact⟨_,rfl,bJ.o⟩
end
end Go.Proofs.YtodcnkbblippnaaGreatDoor
