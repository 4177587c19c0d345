/- Part 4 of a proof: walks of the program. -/
import Derived.StillTailTactics
import Derived.LaidEql
import Derived.StillTactics
import Derived.Test.YtodcnkbblippnabGreatDoorPart03
namespace Go.Proofs.YtodcnkbblippnabGreatDoor
set_option maxRecDepth 100000
set_option maxHeartbeats 32000000
set_option linter.defProp false
open Go.Proofs.Tryz
section
open Go.RowKit
attribute [local go_sem ↓] Go.wp_at_zero Go.wp_at_succ
def A1j(c:FC)(t:Int)(B:Nat)(h:0<=c.2/\c.2<=c.1.length/\c.1.length<=B):0<=(Fh c t).2/\(Fh c t).2<=(Fh c t).1.length/\(Fh c t).1.length<=B:=by
 unfold Fh;simp only[BU];omega
def A1h(es:List AL)(z:List Int)(names:List ByteArray)(F:Nat->FC)(B:Nat)(P:Nat->Prop)(h:∀f,P f->0<=(F f).2/\(F f).2<=(F f).1.length/\(F f).1.length<=B)(k:Nat):
 ∀f,P f->0<=(DH es z names F k f).2/\(DH es z names F k f).2<=(DH es z names F k f).1.length/\(DH es z names F k f).1.length<=B:=by
 induction k with
 | zero=>exact h
 | succ k ih=>
  intro f d;cases h1:names[k]? with
  | none=>simp only[DH,h1];exact ih f d
  | some name=>
   cases h2:lookup es name with
   | none=>simp only[DH,h1,h2];exact ih f d
   | some f0=>
    simp only[DH,h1,h2];by_cases E:f=f0
    ·subst E;simp only[upd,Cg];exact A1j _ _ B (ih f d)
    ·simp only[upd,E,C4];exact ih f d
def A1f(es:List AL)(d:List Int)(names:List ByteArray)(F:Nat->FC)(k:Nat)(name:ByteArray)(f:Nat)(z:names[k]?=some name)(h:lookup es name=some f):
 DH es d names F (k+1)=upd (DH es d names F k) f (Fh (DH es d names F k f) (d.getD k 0)):=by
 simp only[DH,z,h]
def A1a{w wr:World}{b:Nat}{D:DS}{es:List AL}{G:Nat->FC}{H:Nat->Prop}{t:Int}{vd vs vc:Value}{I:List Value}{aE:Nat->Value}(aD:∀k,C6 b {D with A4:=es} vd vs vc I aE k->H k)(hr:BY wr b {D with A4:=es} G vd vs vc I aE)(hc:A3 H w wr){k:Nat}(d:k<es.length){a':Option Addr}{z:Nat}(hv:aE (es[k]'d).2=.slice a' (G (es[k]'d).2).1.length z)(hG:0<=(G (es[k]'d).2).2/\(G (es[k]'d).2).2<=(G (es[k]'d).2).1.length)(m:Nat)(hm:m=(G (es[k]'d).2).2.toNat+Fa t ((G (es[k]'d).2).1.length-(G (es[k]'d).2).2.toNat))(w':World)(hw:w'=(wr.setCell ⟨(es[k]'d).2,0,none⟩ (.slice a' m z)).setCell ⟨(es[k]'d).2,1,none⟩ (.int .i64 m)):
 D6 w' b {D with A4:=es} (upd G (es[k]'d).2 (Fh (G (es[k]'d).2) t)) H/\A3 H w w':=by
 have E:({D with A4:=es}:DS).Aq (es[k]'d).2:=.inl ⟨_,BV d,rfl⟩;obtain⟨h1,h2⟩:=hr.BI _ E;have hpk:=Jl t ((G (es[k]'d).2).1.length-(G (es[k]'d).2).2.toNat);have aF:m<=(G (es[k]'d).2).1.length:=by omega
 have L:((G (es[k]'d).2).1.take m).length=m:=by simp;omega
 have O:wr.ownsRow 0 5 1 (.slice a' m z) m (DX ((G (es[k]'d).2).1.take m)):=by
  rw[hv]at h2;have:=RI h2 aF;rw[Pf]at this;unfold DX at this ⊢;rw[List.map_take];exact this
 have Y:∀g,(Value.slice a' m z).ownBlock=some g->g≠(es[k]'d).2:=by
  intro g W e;obtain⟨c,hh⟩:=Bd O W;exact BR hh h1 (by decide) e
 have aG:Fz w' (.slice a' m z) ((G (es[k]'d).2).1.take m):=by
  subst hw;unfold Fz;rw[L];exact Ay O λg W=>by rw[GN _ _ _ _ (Y g W),GN _ _ _ _ (Y g W)]
 have aH:CW w' (es[k]'d).2 (.slice a' m z) m:=by subst hw;exact(h1.s0 _).s1 _
 have aA:A3 (One (es[k]'d).2) wr w':=by subst hw;exact((A3.I (One _) wr).aq rfl 0 _).aq rfl 1 _
 have aB:∀g,(Value.slice a' m z).ownBlock=some g->(aE (es[k]'d).2).ownBlock=some g\/wr.heap.size<=g:=by
  intro g W;left;rw[hv];cases a' with
  | none=>simp[Value.ownBlock]at W
  | some x=>exact W
 have r2:=hr.b4 E aH aG aA (λk d=>.inl d) aB;have e:Fh (G (es[k]'d).2) t=((G (es[k]'d).2).1.take m,(m:Int)):=by
  unfold Fh;simp only[<-hm,L]
 rw[e];refine⟨⟨_,_,_,_,_,r2,λx hx=>?_⟩,hc.Av aA λx hx _=>by cases hx;exact aD _ (.BI E)⟩;rcases C6.b4 (N:=wr.heap.size) E aB hx with h|h
 ·exact aD x h
 ·have:=r2.lt hx;subst hw;simp at this;omega
def A1d(w:World)(b:Nat)(D:DS)(F:Nat->FC)(Ft:Nat->Prop)(h:D6 w b D F Ft)(z:Int)(vt:Value)(O:List Int)(ht:MP w vt O)(b6:∀ad n c x,n≠0->vt=.slice ad n c->ad=some x->¬Ft x.block)(hs:D.A4.length<1099511627776/\D.AM.length<1099511627776/\D.As.length<1099511627776/\∀c∈D.As,c.length<1099511627776)(hdi : -9223372036854775808<=z/\z<=9223372036854775807)(cG:∀t∈O,-9223372036854775808<=t/\t<=9223372036854775807)(hF:∀f,D.Aq f->0<=(F f).2/\(F f).2<=(F f).1.length/\(F f).1.length<=1099511627776):
 Ah 74 #[A5 b,A0 z,vt] w (Am (.tuple #[]) λw'=>Dm w Ft w' b (Fg D F z O).1 (Fg D F z O).2):=by
 obtain⟨vd,vs,vc,aT,cV,hr,cT⟩:=h;have aM:=A1 hr;have cS:=A1 cT;obtain⟨hs1,bW,hs3,cC⟩:=hs;have c0:=hr.Ag.c0;have c1:=hr.Ag.c1;have c2:=hr.Ag.c2;have hz:=hr.Ag.fz;obtain⟨ad,tc,rfl,htl,b2⟩:=ht;obtain⟨a1,p1,rfl,-⟩:=hr.AM.Cf;obtain⟨a2,p2,b8,_,_,a5,_,_⟩:=B9 hr.An;subst b8;have b1:=A1 b2;have bX:=A1 b6;have cN:=A1 cC;have dA:=A1 hF;have bV:=A1 cG;have a4:=A1 a5;obtain⟨d1,d2⟩:=hdi;have cP:=Jl z D.As.length;generalize hK:Fa z D.As.length=K at cP;have b5:=A1 hK;have cE:Hid (∀W:World,Ah 117 #[A0 z,A0 D.As.length] W (Am (A0 K) λw'=>W=w')):=by
  intro W;have:=RC z D.As.length W ⟨d1,d2⟩ ⟨by omega,by omega⟩;simp only[En,b5.o]at this;exact this
 have b4:=aM.o;obtain⟨bH,bF,cB,-⟩:=b4.A4.Cf;subst cB;obtain⟨E,f1,f2,f3⟩:∃E:Nat->Prop,(∀k,C6 b D (.slice bH D.A4.length bF) (.slice a1 D.AM.length p1) (.slice a2 D.As.length p2) aT cV k->E k)/\(∀k,E k->k<w.heap.size)/\(∀k,E k->Ft k):=
  ⟨C6 b D (.slice bH D.A4.length bF) (.slice a1 D.AM.length p1) (.slice a2 D.As.length p2) aT cV,λ_ h=>h,λ_ h=>aM.o.lt h,λ_ h=>cS.o _ h⟩
 have a8:=A1 f1;have cZ:=A1 f2;have cH:=A1 f3;have cJ:Hid (∀wr,A3 E w wr->∀j (hj:j<O.length),∃tb aI,ad=some (Ab tb aI)/\wr.cell? (Ab tb (aI+j))=some (A0 (O[j]'hj))):=by
  intro wr hc j hj;obtain⟨tb,aI,h1,h2,h3⟩:=b1.o j hj;refine⟨tb,aI,h1,?_⟩;rw[DL (hc.Al tb h2 (λh=>bX.o ad O.length tc (Ab tb aI) (λh0=>absurd (h0 ▸ hj) (UK _)) rfl h1 (cH.o _ h)))];exact h3
 by_cases bI:K=0
 focus
  subst bI;obtain⟨es,I⟩:∃es,D.AM=es:=⟨_,rfl⟩;have aL:es.length<1099511627776:=I ▸ bW;have bG:=aM.o.eb (.inl ⟨rfl,rfl⟩) (aM.o.Ag.s0 _) ((A3.I (One b) w).aq rfl 0 (.slice a1 D.AM.length p1));have bS:Hid (∀f,Dc f es->D.Aq f):=λf Y=>.inr (.inl (I ▸ Y));have aA:Hid (D6 (w.sC b 0 (.slice a1 D.AM.length p1)) b {D with A4:=es} F E):=by rw[<-I];exact⟨_,_,_,_,_,bG.1,λk hk=>a8.o k (bG.2 k hk)⟩
  have cW:Hid (A3 E w (w.sC b 0 (.slice a1 D.AM.length p1))):=(A3.I _ w).aq (a8.o _ .Ag) 0 _;have bU:Hid (FM D z=es):=by unfold Hid FM;rw[b5.o];exact I
  clear I;rw[show ((0:Nat):Int)=0 from rfl]at cE;have cM:=A1 <| cE.o
  go_enter func74,ntmps74
  go_wp2_with (first
   | (go_at_call 117;refine(cM.o _).mono ?_;rintro e w'⟨rfl,rfl⟩)
   | (go_at_call 48;refine(O9 _ b _ F _ aA.o aL).mono ?_;rintro e w2⟨v,rfl,aN,aF,bA⟩;obtain⟨al,cl,rfl,_,aQ,aD,_⟩:=B9 aN))
 rotate_left
 focus
  obtain⟨j,rfl⟩:∃j,K=j+1:=⟨K-1,by omega⟩;have aG:j<D.As.length:=by omega
  obtain⟨v0,aW,bM⟩:=aM.o.D5 j aG;obtain⟨ak,pk,rfl,-⟩:=bM.Cf;obtain⟨es,I⟩:∃es,D.As[j]'aG=es:=⟨_,rfl⟩;have aL:es.length<1099511627776:=by rw[<-I];exact cN.o _ (BV aG)
  have bS:Hid (∀f,Dc f es->D.Aq f):=λf Y=>.inr (.inr ⟨_,BV aG,I ▸ Y⟩);have bU:Hid (FM D z=es):=by
   unfold Hid FM;rw[b5.o];show D.As.getD j []=es;rw[<-I,HC,E2 aG];rfl
  rw[I]at aW bM;obtain⟨gc,bZ⟩:=a4.o (by omega);subst bZ;have cg:=BF aM.o.An (g:=gc) rfl aW;obtain⟨cgc,cO⟩:=Bd aM.o.An (g:=gc) rfl;have n1:¬gc=b:=λe=>BR cO aM.o.Ag (by decide) e;have n2:¬b=gc:=λe=>n1 e.symm;have bG:=aM.o.eb (.inr ⟨j,aG,aW,I.symm⟩) ((aM.o.Ag.s0 (.slice a1 D.AM.length p1)).s0 _) (((A3.I (One b) w).aq rfl 0 (.slice a1 D.AM.length p1)).aq rfl 0 (.slice ak es.length pk));have aA:Hid (D6 ((w.sC b 0 (.slice a1 D.AM.length p1)).sC b 0 (.slice ak es.length pk)) b {D with A4:=es} F E):=⟨_,_,_,_,_,bG.1,λk hk=>a8.o k (bG.2 k hk)⟩;have cW:Hid (A3 E w ((w.sC b 0 (.slice a1 D.AM.length p1)).sC b 0 (.slice ak es.length pk))):=((A3.I _ w).aq (a8.o _ .Ag) 0 _).aq (a8.o _ .Ag) 0 _;have k0:(0:Int)<(j:Int)+1:=by omega
  have k1:(0:Int)<=(j:Int):=by omega
  have k2:(j:Int)<(D.As.length:Int):=by omega
  have hwj:IntKind.i64.wrap (j:Int)=(j:Int):=by simp only[J6];omega
  have cM:=A1 <| cE.o
  skip
  go_enter func74,ntmps74
  go_wp2_with (first
   | (go_at_call 117;refine(cM.o _).mono ?_;rintro e w'⟨rfl,rfl⟩)
   | (go_at_call 48;refine(O9 _ b _ F _ aA.o aL).mono ?_;rintro e w2⟨v,rfl,aN,aF,bA⟩;obtain⟨al,cl,rfl,_,aQ,aD,_⟩:=B9 aN))
 all_goals
  have s2:w.heap.size<=w2.heap.size:=by have:=aF.Ak;simp at this;omega
  have bK:=A1 aN;have b9:Hid (∀g,al.map Addr.block=some g->w.heap.size<=g):=by
   intro g hg
   have:=bA g (by cases al with
    | none=>simp at hg
    | some x=>simp at hg;simp[Value.ownBlock,hg])
   simpa using this
  have a3:Hid (D6 w2 b {D with A4:=es} F E):=aA.o.aP λk hk=>aF.Al k (by have:=cZ.o k hk;simpa using this) (λh=>h);have bO:Hid (A3 E w w2):=cW.o.Av aF (λx hx=>hx.elim);have b7:=A1 aD;have cL:=A1 (M6 es es.length (Au _));unfold maxLen at aQ;go_loopw [44] (λiv wr=>∃i:Nat,i<=es.length/\iv=A0 i/\Hid (D6 wr b {D with A4:=es} (DH es O (dList es) F i) E)/\Hid (A3 E w2 wr)) (λiv _=>es.length-(intOf iv).toNat)
  case atStart=>exact⟨0,Cz _,rfl,a3.o,A3.I _ _⟩
  case round=>
   obtain⟨i,hi,rfl,aS,aO⟩:=hrel;by_cases hli:i<es.length
   ·have aX:Hid (A3 E w wr):=bO.o.Av aO.o (λx hx _=>hx);obtain⟨lb,aP⟩:=b7.o (by omega);(have aE:i<(dList es).length:=by have:=cL.o;unfold dList;omega);have aF:wr.cell? (Ab lb i)=some (.string ((dList es)[i]'aE)):=by
     have h1:=BF bK.o (g:=lb) (by rw[aP];rfl) (j:=i) (u:=.string ((dList es)[i]'aE)) (by unfold Fp;rw[Po,E2 aE];rfl);have h2:=b9.o lb (by rw[aP];rfl);rw[DL (aO.o.Al lb (Az bK.o (by rw[aP];rfl)) (λh=>by have:=cZ.o lb h;omega))];exact h1
    subst aP;generalize bD:(dList es)[i]'aE=nm at aF;have bL:∃e∈es,e.1=nm:=(A0Y es nm).1 (by rw[<-bD];exact BV aE);(have bE:(dList es)[i]?=some nm:=by rw[<-bD];exact E2 aE);obtain⟨G,aV⟩:∃G,DH es O (dList es) F i=G:=⟨_,rfl⟩;have L:=aS.o;rw[aV]at L;obtain⟨cD,bY,cF,a7,VB',H,aK⟩:=L;rcases IH es nm with⟨_,h2⟩|⟨k,hk,h1,h2,h3⟩
    ·exfalso;obtain⟨e,he,h4⟩:=bL;rcases Oz es nm with⟨_,h5⟩|⟨k,hk,h5,_⟩
     ·exact h5 e he h4
     ·omega
    ·have bC:=A1h es O (dList es) F 1099511627776 D.Aq dA.o i (es[k]'hk).2 (bS.o _ ⟨_,BV hk,rfl⟩);rw[aV]at bC;obtain⟨aU,a6,a9⟩:=bC;obtain⟨g,cap,a',aB,rfl,hv,z1,z2,z3,z4⟩:=H.Cy k hk;have aH:=H.ds k hk rfl hv;have bQ:Hid (CY wr.drew (AJ g es.length cap) es):=H.A4;have cX:=A1 h1;generalize Y:(es[k]'hk).2=f at aH
     have fin:Hid (∀(t:Int) (m:Nat) (w':World),t=O.getD i 0->m=(G f).2.toNat+Fa t ((G f).1.length-(G f).2.toNat)->w'=(wr.sC f 0 (.slice a' m aB)).sC f 1 (A0 m)->
      D6 w' b {D with A4:=es} (DH es O (dList es) F (i+1)) E/\A3 E w2 w'):=by
      intro t m w' ht hm hw;subst Y;have:=A1a (t:=t) aK H aO.o hk hv ⟨aU,a6⟩ m hm w' hw;rw[A1f es O (dList es) F i nm _ bE h2,aV,<-ht];exact this
     rw[Y]at aU a6 a9 z3;have x1:=aH.d;have x2:=aH.p;have x3:=aH.f0;have x4:=aH.f1;have x5:=aH.fz;unfold maxLen at z2 z4;have bI:=Ce k;(have hk1:(k:Int)<(es.length:Int):=by omega);obtain⟨t,ht⟩:∃t,O.getD i 0=t:=⟨_,rfl⟩;have b0 : -9223372036854775808<=t/\t<=9223372036854775807:=by
      rw[<-ht,HC];cases hx:O[i]? with
      | none=>simp
      | some y=>exact bV.o y (Lc hx)
     obtain⟨sn,aY⟩:=Lk aU;obtain⟨l,hl⟩:∃l,(G f).1.length=l:=⟨_,rfl⟩;obtain⟨p,hp⟩:∃p,Fa t (l-sn)=p:=⟨_,rfl⟩;have bP:=Jl t (l-sn);rw[hp]at bP;have aR:Hid (∀w',w'=(wr.sC f 0 (.slice a' (sn+p) aB)).sC f 1 (A0 ((sn+p:Nat):Int))->D6 w' b {D with A4:=es} (DH es O (dList es) F (i+1)) E/\A3 E w2 w'):=by
      intro w' hw;exact fin.o t (sn+p) w' ht.symm (by rw[aY,hl,En,hp]) hw
     rw[aY,hl]at a6;rw[hl]at a9 z3 x3;rw[aY]at x4;have cU:Hid (∀W:World,Ah 117 #[A0 t,A0 ((l:Int)-(sn:Int))] W (Am (A0 p) λw'=>W=w')):=by
      intro W;have:=RC t ((l:Int)-(sn:Int)) W b0 ⟨by omega,by omega⟩;rw[show ((l:Int)-(sn:Int)).toNat=l-sn from by omega,hp]at this;exact this
     (have q1:sn+p<=aB:=by omega);(have hw1:IntKind.i64.wrap ((l:Int)-(sn:Int))=(l:Int)-(sn:Int):=by simp only[J6];omega);(have hw2:IntKind.i64.wrap ((sn:Int)+(p:Int))=(sn:Int)+(p:Int):=by simp only[J6];omega);(have q3:(0:Int)<=(sn:Int)+(p:Int):=by omega);(have q4:(sn:Int)+(p:Int)<=(aB:Int):=by omega);(have q5:((sn:Int)+(p:Int)).toNat=sn+p:=by omega);have cY:=A1 ht;by_cases aZ:i<O.length
     ·obtain⟨tb,aI,bJ,bT⟩:=cJ.o wr aX.o i aZ;(have cA:O[i]'aZ=t:=by have:=cY.o;rw[HC,E2 aZ]at this;exact this);rw[cA]at bT;subst bJ;(have bN:(i:Int)<(O.length:Int):=by omega);go_wp2;go_region_held3 (λw'=>w'.cell? ⟨b,0,none⟩=some (.slice (some ⟨g,0,none⟩) es.length cap)/\w'.cell? ⟨g,k*2+1,none⟩=some (.pointer (some ⟨f,0,none⟩))) (refine⟨?_,?_⟩<;>go_simp) ((go_at_call 24;refine(Dt _ _ es nm bQ.o).mono ?_;rintro e w'⟨rfl,rfl⟩;rw[cX.o]));go_wp2;refine K1 24 (by kernel_rfl) (by kernel_rfl) ?_;simp only[KV,EX,EL,DE,Dq]
      repeat still_step
      refine wpStill_step (λK hK=>?_);go_simp;refine⟨_,(cU.o _).mono (λe w' h=>⟨h.1,h.2.symm⟩),hK _ ?_⟩
      repeat still_step
      refine K2 ?_;go_wp2;go_roundw
      case rel=>
       obtain⟨z5,z6⟩:=aR.o _ rfl;refine⟨i+1,by omega,by go_num,?_,?_⟩
       ·exact D6.ck z5 rfl
       ·exact A3.ck z6 rfl rfl rfl rfl
      case measure=>simp[intOf];omega
     ·have cI:t=0:=by
       rw[<-cY.o,HC,MF (by omega)];rfl
      subst cI;(have bN:(O.length:Int)<=(i:Int):=by omega);go_wp2;go_region_held3 (λw'=>w'.cell? ⟨b,0,none⟩=some (.slice (some ⟨g,0,none⟩) es.length cap)/\w'.cell? ⟨g,k*2+1,none⟩=some (.pointer (some ⟨f,0,none⟩))) (refine⟨?_,?_⟩<;>go_simp) ((go_at_call 24;refine(Dt _ _ es nm bQ.o).mono ?_;rintro e w'⟨rfl,rfl⟩;rw[cX.o]));go_wp2;refine K1 24 (by kernel_rfl) (by kernel_rfl) ?_;simp only[KV,EX,EL,DE,Dq]
      repeat still_step
      refine wpStill_step (λK hK=>?_);go_simp;refine⟨_,(cU.o _).mono (λe w' h=>⟨h.1,h.2.symm⟩),hK _ ?_⟩
      repeat still_step
      refine K2 ?_;go_wp2;go_roundw
      case rel=>
       obtain⟨z5,z6⟩:=aR.o _ rfl;refine⟨i+1,by omega,by go_num,?_,?_⟩
       ·exact D6.ck z5 rfl
       ·exact A3.ck z6 rfl rfl rfl rfl
      case measure=>simp[intOf];omega
   ·(have cQ:i=es.length:=by omega);have L:=aS.o;rw[cQ]at L;obtain⟨cD,bY,cF,a7,VB',H,aK⟩:=L;obtain⟨ae,ce,rfl,_⟩:=H.A4.Cf;have y0:=H.Ag.c0;have y1:=H.Ag.c1;have y2:=H.Ag.c2;have y5:=H.Ag.c5;have y6:=H.Ag.c6;have y10:=H.Ag.bZ;have yz:=H.Ag.fz;have bB:=A1 H;have bR:=A1 aK;go_wp2;go_end0;have r1:=bB.o.aK ((bB.o.Ag.s1 _).s2 (.slice none 0 0)) (((A3.I (One b) wr).aq rfl 1 _).aq rfl 2 (.slice none 0 0));have r2:=r1.ag (n:={D.n with AS:=false,BT:=0,BJ:=0}) (((r1.Ag.eg false).s5 0).s6 0) ((((A3.I (One b) _).aq rfl 10 (.bool false)).aq rfl 5 (A0 0)).aq rfl 6 (A0 0));have hq:Fg D F z O=({A4:=es,AM:=es,As:=[],n:={D.n with AS:=false,BT:=0,BJ:=0}},DH es O (dList es) F es.length):=by
     (have he:FM D z=es:=by exact bU.o);unfold Fg;rw[he]
    rw[hq];refine⟨rfl,Dm.bx ?_ r2 ?_⟩
    ·have aX:=bO.o.Av aO.o (λx hx _=>hx);have aJ:=a8.o _ .Ag;exact(((((aX.aq aJ 1 _).aq aJ 2 _).aq aJ 10 _).aq aJ 5 _).aq aJ 6 _).ad λk _ hk=>cH.o k hk
    ·intro k hk;have b3:=C6.n (D:={A4:=es,AM:=es,As:=[],n:=D.n}) hk;left;refine cH.o k (bR.o k ?_);cases b3 using C6.bK with
     | Ag=>exact .Ag
     | dir e=>exact .A4 e
     | Ad e=>exact .A4 e
     | An e=>simp[Value.ownBlock]at e
     | D5 hm e=>cases hm
     | BI Y=>
      rcases Y with Y|Y|⟨c,a0,_⟩
      ·exact .BI (.inl Y)
      ·exact .BI (.inl Y)
      ·cases a0
     | byt Y e=>
      rcases Y with Y|Y|⟨c,a0,_⟩
      ·exact .bA (.inl Y) e
      ·exact .bA (.inl Y) e
      ·cases a0
def A1S(l:List UInt8):∀u∈DX l,u.oneCell'=true:=by
 intro u hu;obtain⟨x,_,rfl⟩:=CA.1 hu;rfl
def ER(l:List Nat):List Value:=l.map λf=>(A5 f)
structure CS (N:Nat) (w:World) (bo bm:Nat) (F:Nat->FC) (old made:List Nat) (vo vm:Value) (VB:Nat->Value):Prop where
 ob:w.heap[bo]?=some (.cells #[vo] 95 (0,0))
 mb:w.heap[bm]?=some (.cells #[vm] 95 (0,0))
 ne:bo≠bm
 ol:w.ownsRow 0 65 1 vo old.length (ER old)
 ml:w.ownsRow 0 65 1 vm old.length (ER made)
 K7:∀g,vo.ownBlock=some g->vm.ownBlock=some g->False
 BI:∀i (h:i<made.length) (h':i<old.length),CW w (made[i]'h) (VB (made[i]'h)) (F (old[i]' h')).2/\Fz w (VB (made[i]'h)) (F (old[i]' h')).1
 HT:∀f∈old,f<N/\∃c,w.heap[f]?=some (.cells c 68 (0,0))
 HU:old.Nodup
 OF:made.Nodup
 G7:∀m m' g,m∈made->m'∈made->(VB m).ownBlock=some g->(VB m').ownBlock=some g->m=m'
 HV:N<=bo
 IE:N<=bm
 IB:∀g,vo.ownBlock=some g->N<=g
 IC:∀g,vm.ownBlock=some g->N<=g
 NZ:∀m∈made,N<=m
 O0:∀m∈made,∀g,(VB m).ownBlock=some g->N<=g
def CF(bo bm:Nat)(vo vm:Value):Nat->Prop:=λk=>k=bo\/k=bm\/vo.ownBlock=some k\/vm.ownBlock=some k
def Ren(old made:List Nat)(es aA:List AL):Prop:=
 aA.length=es.length/\∀k (h:k<es.length) (d:k<aA.length),(aA[k]'d).1=(es[k]'h).1/\∃i:Nat,old[i]?=some (es[k]'h).2/\made[i]?=some (aA[k]'d).2
def CB(bo bm:Nat)(vo vm:Value)(made:List Nat)(VB:Nat->Value):Nat->Prop:=λk=>
 k=bo\/k=bm\/vo.ownBlock=some k\/vm.ownBlock=some k\/k∈made\/∃m∈made,(VB m).ownBlock=some k
def Ren.ad{old made z d:List Nat}{es aA:List AL}(h:Ren old made es aA):Ren (old++z) (made++d) es aA:=by
 refine⟨h.1,λk H E=>⟨(h.2 k H E).1,?_⟩⟩;obtain⟨i,O,I⟩:=(h.2 k H E).2;refine⟨i,?_,?_⟩
 ·rw[Im (Hk.1 O).1];exact O
 ·rw[Im (Hk.1 I).1];exact I
def Ren.cg{old made:List Nat}{es aA:List AL}(h:Ren old made es aA){i f m:Nat}{n:ByteArray}(O:old[i]?=some f)(I:made[i]?=some m):Ren old made (es++[(n,f)]) (aA++[(n,m)]):=by
 refine⟨by simp[h.1],λk E hk'=>?_⟩;by_cases z:k<es.length
 ·have d:k<aA.length:=by have:=h.1;omega
  rw[EZ z,EZ d];exact h.2 k z d
 ·have H:k=es.length:=by simp at E;omega
  have e2:k=aA.length:=by have:=h.1;omega
  subst H;refine⟨?_,i,?_⟩
  ·rw[Gf (by omega),Gf (by omega)];simp
  ·rw[Gf (by omega),Gf (by omega)];simp[O,I]
def CS.b2{N:Nat}{w:World}{bo bm:Nat}{F:Nat->FC}{old made:List Nat}{vo vm:Value}{VB:Nat->Value}(h:CS N w bo bm F old made vo vm VB):made.length=old.length:=by
 have:=h.ml.1;simpa[ER] using this
def CS.lt{N:Nat}{w:World}{bo bm:Nat}{F:Nat->FC}{old made:List Nat}{vo vm:Value}{VB:Nat->Value}(h:CS N w bo bm F old made vo vm VB){k:Nat}(d:CB bo bm vo vm made VB k):k<w.heap.size:=by
 have hl:=h.b2;rcases d with rfl|rfl|d|d|d|⟨m,E,d⟩
 ·exact Bw h.ob
 ·exact Bw h.mb
 ·exact Az h.ol d
 ·exact Az h.ml d
 ·obtain⟨i,z,rfl⟩:=DQ d;exact Bw (h.BI i z (by omega)).1
 ·obtain⟨i,z,rfl⟩:=DQ E;exact Az (h.BI i z (by omega)).2 d
def CS.aP{N:Nat}{w w':World}{bo bm:Nat}{F:Nat->FC}{old made:List Nat}{vo vm:Value}{VB:Nat->Value}(h:CS N w bo bm F old made vo vm VB)(d:FO (CB bo bm vo vm made VB) w w')(ho:FO (λk=>k∈old) w w'):CS N w' bo bm F old made vo vm VB:=by
 refine⟨(d bo (.inl rfl)).trans h.ob,(d bm (.inr (.inl rfl))).trans h.mb,h.ne,Ay h.ol λg z=>d g (.inr (.inr (.inl z))),Ay h.ml λg z=>d g (.inr (.inr (.inr (.inl z)))),h.K7,λi I E=>?_,
  λf H=>⟨(h.HT f H).1,?_⟩,h.HU,h.OF,h.G7,h.HV,h.IE,h.IB,h.IC,h.NZ,h.O0⟩
 ·obtain⟨O,Y⟩:=h.BI i I E;refine⟨?_,Ay Y λg z=>d g (.inr (.inr (.inr (.inr (.inr ⟨_,BV I,z⟩)))))⟩;unfold CW at O ⊢;rw[d _ (.inr (.inr (.inr (.inr (.inl (BV I))))))];exact O
 ·obtain⟨c,hc⟩:=(h.HT f H).2;exact⟨c,(ho f H).trans hc⟩
def CS.An{N:Nat}{w w':World}{bo bm:Nat}{F:Nat->FC}{old made:List Nat}{vo vm:Value}{VB:Nat->Value}{S:Nat->Prop}(h:CS N w bo bm F old made vo vm VB)(z:A3 S w w')(E:∀k,CB bo bm vo vm made VB k->¬S k)(H:∀k,k<N->¬S k):CS N w' bo bm F old made vo vm VB:=
 h.aP (λk d=>z.Al k (h.lt d) (E k d)) λk d=>z.Al k (Bw (h.HT k d).2.choose_spec) (H k (h.HT k d).1)
def Tryz.eo:(Tryz.prog.info? 68).map (λi=>(i.zero,i.size,i.bytes))=some (some (.agg #[.slice none 0 0,A0 0]),2,32):=by kernel_rfl
def Tryz.ff:(Tryz.prog.info? 65).map (λi=>(i.zero,i.size,i.bytes))=some (some (.pointer none),1,8):=by kernel_rfl
def XO(W:World)(d x f:Nat)(I O:Array Value)(Y:W.heap[x]?=some (.cells I 68 (0,0)))(E:W.heap[f]?=some (.cells O 68 (0,0)))(h:x≠f):
 (Op.equalIn (d+1) 65 (.pointer (some ⟨x,0,none⟩)) (.pointer (some ⟨f,0,none⟩))).run Tryz.prog W=.ok false W:=by
 obtain⟨j0,H,hy0,z,hy2⟩:=E4 Tryz.eo;have:=run_sameAddr_other (P:=Tryz.prog) W (a:=⟨x,0,none⟩) (b:=⟨f,0,none⟩) (by simp) Y E;simp[Op.equalIn,run_underlying underlying65,typeInfo,sizeOf,H,z,this]
def XN(W:World)(d x:Nat):(Op.equalIn (d+1) 65 (A5 x) (A5 x)).run Tryz.prog W=.ok true W:=by
 obtain⟨j0,h,_,_,_⟩:=E4 Tryz.eo;simp[Op.equalIn,run_underlying underlying65,typeInfo,sizeOf,h,run_sameAddr_same]
def XQ(W:World)(x f:Nat)(z d:Array Value)(H:W.heap[x]?=some (.cells z 68 (0,0)))(E:W.heap[f]?=some (.cells d 68 (0,0)))(h:x≠f):
 (binOp .neq 65 (.pointer (some ⟨x,0,none⟩)) (.pointer (some ⟨f,0,none⟩))).run Tryz.prog W=.ok (.bool true) W:=by
 simp only[binOp];simp[Op.equal,Op.maxDepth,XO W 9999 x f z d H E h]
def XP(W:World)(x:Nat):(binOp .neq 65 (A5 x) (A5 x)).run Tryz.prog W=.ok (.bool false) W:=by
 simp only[binOp];simp[Op.equal,Op.maxDepth,XN W 9999 x]
structure El (N:Nat) (w:World) (bo bm:Nat) (F:Nat->FC) (old made:List Nat) (vo vm:Value) (VB:Nat->Value) (es:List AL) (i cn:Nat) (ov:Value) (wr:World) (L M:List Nat) (aB aD:Value) (VB':Nat->Value) (aA:List AL):Prop where
 cs:CS N wr bo bm F L M aB aD VB'
 EG:CY wr ov aA
 ren:Ren L M (es.take i) aA
 Gp:∃old',L=old++old'/\old'.length<=cn/\∀f∈old',Dc f es
 Jj:∃made',M=made++made'/\∀m∈made',w.heap.size<=m
 AT:∀g,ov.ownBlock=some g->w.heap.size<=g
 An:A3 (CF bo bm vo vm) w wr
 KL:∀g,aB.ownBlock=some g->vo.ownBlock=some g\/w.heap.size<=g
 Me:∀g,aD.ownBlock=some g->vm.ownBlock=some g\/w.heap.size<=g
 OZ:∀m∈made,VB' m=VB m
def OR(N:Nat)(w:World)(bo bm:Nat)(F:Nat->FC)(old made:List Nat)(vo vm:Value)(VB:Nat->Value)(es:List AL)(i:Nat)(ov:Value)(wr:World):Prop:=
 ∃L M aB aD VB' aA,El N w bo bm F old made vo vm VB es i i ov wr L M aB aD VB' aA
def CS.da{N:Nat}{w:World}{bo bm:Nat}{F:Nat->FC}{old made:List Nat}{vo vm:Value}{VB:Nat->Value}(h:CS N w bo bm F old made vo vm VB){k:Nat}(d:CB bo bm vo vm made VB k\/k∈old):∃c e,w.heap[k]?=some (.cells c e (0,0))/\e≠70:=by
 have hl:=h.b2;rcases d with (rfl|rfl|d|d|d|⟨m,H,d⟩)|d
 ·exact⟨_,_,h.ob,by decide⟩
 ·exact⟨_,_,h.mb,by decide⟩
 ·obtain⟨c,z⟩:=Bd h.ol d;exact⟨c,_,z,by decide⟩
 ·obtain⟨c,z⟩:=Bd h.ml d;exact⟨c,_,z,by decide⟩
 ·obtain⟨i,E,rfl⟩:=DQ d;exact⟨_,_,(h.BI i E (by omega)).1,by decide⟩
 ·obtain⟨i,E,rfl⟩:=DQ H;obtain⟨c,z⟩:=Bd (h.BI i E (by omega)).2 d;exact⟨c,_,z,by decide⟩
 ·obtain⟨c,z⟩:=(h.HT k d).2;exact⟨c,_,z,by decide⟩
section
variable {N:Nat} {w wr W w3:World} {bo bm:Nat} {F:Nat->FC} {old made:List Nat} {vo vm:Value} {VB:Nat->Value} {es:List AL} {i cn:Nat} {ov:Value} {L M:List Nat} {aB aD:Value} {VB':Nat->Value} {aA:List AL}
def El.b3(h:El N w bo bm F old made vo vm VB es i cn ov wr L M aB aD VB' aA)(d:A3 Aa wr W):El N w bo bm F old made vo vm VB es i cn ov W L M aB aD VB' aA:=
 ⟨h.cs.An d (λ_ _ h=>h) (λ_ _ h=>h),Ay h.EG λg z=>d.Al g (Az h.EG z) (λh=>h),h.ren,h.Gp,h.Jj,h.AT,h.An.Av d (λ_ h _=>h.elim),h.KL,h.Me,h.OZ⟩
def El.cg(h:El N w bo bm F old made vo vm VB es i cn ov W L M aB aD VB' aA){j f mf:Nat}{nm:ByteArray}{v':Value}(H:i<es.length)(Y:(es[i]'H).1=nm)(I:(es[i]'H).2=f)(hj:L[j]?=some f)(hm:M[j]?=some mf)(hcn:cn<=i+1)(E:App W w3 70 2 ov v' (aA.length+1) (BX aA++[.string nm,.pointer (some ⟨mf,0,none⟩)])):El N w bo bm F old made vo vm VB es (i+1) (i+1) v' w3 L M aB aD VB' (aA++[(nm,mf)]):=by
 have hs:∀k,CB bo bm aB aD M VB' k\/k∈L->w3.heap[k]?=W.heap[k]?:=by
  intro k z;obtain⟨c,e,d,h2⟩:=h.cs.da z
  exact E.Ct.block k (Bw d) (λe=>by
   obtain⟨c',O⟩:=Bd h.EG e.symm
   exact BR d O h2 rfl)
 refine⟨h.cs.aP (λk z=>hs k (.inl z)) (λk z=>hs k (.inr z)),?_,?_,?_,h.Jj,?_,?_,h.KL,h.Me,h.OZ⟩
 ·have:=E.AF;unfold CY;rw[KG,AZ];exact this
 ·rw[<-List.take_append_getElem H];have:es[i]'H=(nm,f):=by rw[<-Y,<-I]
  rw[this];exact h.ren.cg hj hm
 ·obtain⟨o,d,h2,O⟩:=h.Gp;exact⟨o,d,by omega,O⟩
 ·intro g hg;rcases E.Cy with d|d
  ·exact h.AT g (d.symm.trans hg)
  ·rw[hg]at d;cases d;exact h.An.Ak
 ·exact h.An.Ct E.Ct λk z hlt=>by have:=h.AT k z;omega
def El.cE{w1 w2 H w6 aK:World}{f nq ne:Nat}{vb:Value}{a3 a6:Option Addr}{c3 c6:Nat}(h:El N w bo bm F old made vo vm VB es i cn ov w1 L M aB aD VB' aA)(aV:L.length=ne)(hf:f∉L)(a4:Dc f es)(a0:f<N)(aW:∃c,w1.heap[f]?=some (.cells c 68 (0,0)))(aR:A3 (λ_=>False) w1 w2)(hA:App ((w2.drewN nq).alloc (.cells #[.pointer (some ⟨f,0,none⟩)] 65)) w3 65 1 aB (.slice a3 (ne+1) c3) (ne+1) (ER L++[.pointer (some ⟨f,0,none⟩)]))(aM:w3.setCell ⟨bo,0,none⟩ (.slice a3 (ne+1) c3)=aK)(hB:App aK.drew H 5 1 (.slice none 0 0) vb (F f).1.length (DX (F f).1))(hC:App ((H.alloc (.cells #[vb,.int .i64 (F f).2] 68)).alloc (.cells #[.pointer (some ⟨H.heap.size,0,none⟩)] 65)) w6 65 1 aD (.slice a6 (ne+1) c6) (ne+1) (ER M++[.pointer (some ⟨H.heap.size,0,none⟩)])):
 El N w bo bm F old made vo vm VB es i (cn+1) ov (w6.setCell ⟨bm,0,none⟩ (.slice a6 (ne+1) c6)) (L++[f]) (M++[H.heap.size]) (.slice a3 (ne+1) c3) (.slice a6 (ne+1) c6) (λm=>if m=H.heap.size then vb else VB' m) aA:=by
 subst aV;have hl:=h.cs.b2;have s2:=aR.Ak;have s3:=hA.Ct.size;have s4:aK.heap.size<=H.heap.size:=hB.Ct.size;have s6:=hC.Ct.size;have sW:aK.heap.size=w3.heap.size:=by rw[<-aM];simp
 simp only[Mn,World.heap_drewN]at s3 s6;have aX:=Bw h.cs.ob;have a5:=Bw h.cs.mb;have a2:∀g,aB.ownBlock=some g->g<w1.heap.size:=λg d=>Az h.cs.ol d;have aJ:∀g,aD.ownBlock=some g->g<w1.heap.size:=λg d=>Az h.cs.ml d;have k3:=((((aR.ad (S':=λk=>aB.ownBlock=some k) λ_ _ h=>h.elim)).bb nq).aj (.cells #[.pointer (some ⟨f,0,none⟩)] 65)).Ct hA.Ct (λk hk _=>hk);have aI:=((((A3.I (λk=>aD.ownBlock=some k) aK).af.Ct hB.Ct (λk hk _=>by simp[Value.ownBlock]at hk)).aj (.cells #[vb,.int .i64 (F f).2] 68)).aj (.cells #[.pointer (some ⟨H.heap.size,0,none⟩)] 65)).Ct hC.Ct (λk hk _=>hk);have aS:=(k3.Al bo aX (λe=>by obtain⟨c,Y⟩:=Bd h.cs.ol e;exact BR Y h.cs.ob (by decide) rfl)).trans h.cs.ob;have a1:aK.heap[bo]?=some (.cells #[.slice a3 (L.length+1) c3] 95 (0,0)):=by rw[<-aM];exact CH aS
 have kW:A3 (One bo) w3 aK:=by rw[<-aM];exact(A3.I (One bo) w3).aq rfl 0 _
 have aQ:=(k3.Al bm a5 (λe=>by obtain⟨c,Y⟩:=Bd h.cs.ol e;exact BR Y h.cs.mb (by decide) rfl)).trans h.cs.mb;have aO:=(kW.Al bm (Bw aQ) (λe=>h.cs.ne e.symm)).trans aQ
 have aU:=(aI.Al bm (Bw aO) (λe=>by
  obtain⟨c,Y⟩:=Bd h.cs.ml e;exact BR Y h.cs.mb (by decide) rfl)).trans aO
 have k7:A3 (One bm) w6 (w6.setCell ⟨bm,0,none⟩ (.slice a6 (L.length+1) c6)):=(A3.I (One bm) w6).aq rfl 0 _;have e7:(w6.setCell ⟨bm,0,none⟩ (.slice a6 (L.length+1) c6)).heap[bm]?=some (.cells #[.slice a6 (L.length+1) c6] 95 (0,0)):=CH aU;generalize aY:w6.setCell ⟨bm,0,none⟩ (.slice a6 (L.length+1) c6)=W7 at k7 e7 ⊢;have s7:W7.heap.size=w6.heap.size:=by rw[<-aY];simp
 have aT:A3 (λk=>k=bo\/k=bm\/aB.ownBlock=some k\/aD.ownBlock=some k) w1 W7:=by
  refine(((k3.ad (S':=λk=>k=bo\/k=bm\/aB.ownBlock=some k\/aD.ownBlock=some k) (λx _ E=>.inr (.inr (.inl E)))).Av kW (λx E _=>.inl E)).Av aI (λx E _=>.inr (.inr (.inr E)))).Av k7 (λx E _=>.inr (.inl E))
 have key:∀(k:Nat) (c:Array Value) (e:Nat),w1.heap[k]?=some (Obj.cells c e (0,0))->e≠95->e≠65->W7.heap[k]?=w1.heap[k]?:=λk c e hk h1 h2=>
  aT.Al k (Bw hk) (by
   rintro (rfl|rfl|d|d)
   ·exact BR hk h.cs.ob h1 rfl
   ·exact BR hk h.cs.mb h1 rfl
   ·obtain⟨c',Y⟩:=Bd h.cs.ol d;exact BR hk Y h2 rfl
   ·obtain⟨c',Y⟩:=Bd h.cs.ml d;exact BR hk Y h2 rfl)
 have aG:∀g,(Value.slice a3 (L.length+1) c3).ownBlock=some g->aB.ownBlock=some g\/(w1.heap.size<=g/\g<w3.heap.size):=λg d=>by
  have I:=Az hA.AF d;rcases hA.Cy with e|e
  ·rw[e]at d;exact .inl d
  ·rw[e]at d;cases d;right;simp at I ⊢;omega
 have aN:∀g,(Value.slice a6 (L.length+1) c6).ownBlock=some g->aD.ownBlock=some g\/H.heap.size+2<=g:=λg d=>by
  rcases hC.Cy with e|e
  ·rw[e]at d;exact .inl d
  ·rw[e]at d;cases d;right;simp
 have aH:∀g,vb.ownBlock=some g->aK.heap.size<=g:=λg d=>by
  rcases hB.Cy with e|e
  ·rw[e]at d;simp[Value.ownBlock]at d
  ·rw[e]at d;cases d;simp
 have hM:∀m∈M,m<w1.heap.size:=λm z=>h.cs.lt (.inr (.inr (.inr (.inr (.inl z)))));have aP:∀m∈M,∀g,(VB' m).ownBlock=some g->g<w1.heap.size:=λm z g d=>h.cs.lt (.inr (.inr (.inr (.inr (.inr ⟨m,z,d⟩)))));have hNw:N<=w1.heap.size:=by have:=h.cs.HV;omega
 have hww:=h.An.Ak;have oL:W7.ownsRow 0 65 1 (.slice a3 (L.length+1) c3) (L.length+1) (ER L++[.pointer (some ⟨f,0,none⟩)]):=by
  have q1:=
   Ay hA.AF λg d=>kW.Al g (Az hA.AF d) (λe=>by obtain⟨c,Y⟩:=Bd hA.AF d;exact BR Y aS (by decide) e)
  have q2:=Ay q1 λg d=>by
   have I:=Az hA.AF d;refine aI.Al g (by omega) (λe=>?_);rcases aG g d with e2|e2
   ·exact h.cs.K7 g e2 e
   ·have:=aJ g e;omega
  refine Ay q2 λg d=>?_;have I:=Az hA.AF d;refine k7.Al g (by omega) (λe=>?_);rcases aG g d with e2|e2
  ·obtain⟨c,Y⟩:=Bd h.cs.ol e2;exact BR Y h.cs.mb (by decide) e
  ·have:g=bm:=e;omega
 have oM:W7.ownsRow 0 65 1 (.slice a6 (L.length+1) c6) (L.length+1) (ER M++[.pointer (some ⟨H.heap.size,0,none⟩)]):=by
  refine Ay hC.AF λg d=>k7.Al g (Az hC.AF d) (λe=>?_);obtain⟨c,Y⟩:=Bd hC.AF d;exact BR Y aU (by decide) e
 have fB:CW W7 H.heap.size vb (F f).2:=by
  have h5:((H.alloc (.cells #[vb,.int .i64 (F f).2] 68)).alloc (.cells #[.pointer (some ⟨H.heap.size,0,none⟩)] 65)).heap[H.heap.size]?=some (.cells #[vb,.int .i64 (F f).2] 68 (0,0)):=by
   rw[D8 _ _ _ (by simp)];exact BK _ _
  have h6:=(hC.Ct.block _ (by simp;omega) (λe=>by have:=aJ _ e.symm;omega)).trans h5;exact(k7.Al _ (by omega) (λe=>by have:H.heap.size=bm:=e;omega)).trans h6
 have bB:Fz W7 vb (F f).1:=by
  refine Ay hB.AF λg d=>?_;have I:=Az hB.AF d;have hge:=aH g d;have h5:((H.alloc (.cells #[vb,.int .i64 (F f).2] 68)).alloc (.cells #[.pointer (some ⟨H.heap.size,0,none⟩)] 65)).heap[g]?=H.heap[g]?:=by
   rw[D8 _ _ _ (by simp;omega),D8 _ _ _ I]
  rw[<-h5,<-hC.Ct.block g (by simp;omega) (λe=>by have:=aJ _ e.symm;omega)];exact k7.Al _ (by omega) (λe=>by have:g=bm:=e;omega)
 have aE:H.heap.size∉M:=λz=>by have:=hM _ z;omega
 have aZ:CS N W7 bo bm F (L++[f]) (M++[H.heap.size]) (.slice a3 (L.length+1) c3) (.slice a6 (L.length+1) c6) (λm=>if m=H.heap.size then vb else VB' m):=by
  refine⟨?_,e7,h.cs.ne,?_,?_,?_,?_,?_,?_,?_,?_,h.cs.HV,h.cs.IE,?_,?_,?_,?_⟩
  ·refine(k7.Al bo (by omega) h.cs.ne).trans ((aI.Al bo (by omega) (λe=>?_)).trans a1);obtain⟨c,Y⟩:=Bd h.cs.ml e;exact BR Y h.cs.ob (by decide) rfl
  ·simpa[ER] using oL
  ·simpa[ER] using oM
  ·intro g h1 h2;rcases aG g h1 with e1|e1<;>rcases aN g h2 with e2|e2
   ·exact h.cs.K7 g e1 e2
   ·have:=a2 g e1;omega
   ·have:=aJ g e2;omega
   ·omega
  ·intro j hj a8;by_cases I:j<M.length
   ·(have aL:j<L.length:=by omega);have z:M[j]'I≠H.heap.size:=λe=>aE (e ▸ BV I);obtain⟨q1,q2⟩:=h.cs.BI j I aL;simp only[EZ I,EZ aL,z,C4];refine⟨?_,Ay q2 λg d=>?_⟩
    ·unfold CW at q1 ⊢;rw[key _ _ _ q1 (by decide) (by decide)];exact q1
    ·obtain⟨c,Y⟩:=Bd q2 d;exact key _ _ _ Y (by decide) (by decide)
   ·(obtain rfl:j=M.length:=by simp at hj;omega);(have e1:(M++[H.heap.size])[M.length]'hj=H.heap.size:=by simp);(have e2:(L++[f])[M.length]'a8=f:=by simp[hl]);rw[e1,e2];simp only[Cg];exact⟨fB,bB⟩
  ·intro x E;rcases AV.1 E with E|E
   ·obtain⟨q1,c,q2⟩:=h.cs.HT x E;exact⟨q1,c,(key _ _ _ q2 (by decide) (by decide)).trans q2⟩
   ·simp at E;subst E;obtain⟨c,hc⟩:=aW;exact⟨a0,c,(key _ _ _ hc (by decide) (by decide)).trans hc⟩
  ·refine Gy.2 ⟨h.cs.HU,by simp,λa ha b hb e=>?_⟩;simp at hb;subst hb;subst e;exact hf ha
  ·refine Gy.2 ⟨h.cs.OF,by simp,λa ha b hb e=>?_⟩;simp at hb;subst hb;subst e;exact aE ha
  ·intro m m' g z O d aF;rcases AV.1 z with z|z<;>rcases AV.1 O with O | O
   ·have n1:m≠H.heap.size:=λe=>aE (e ▸ z);have n2:m'≠H.heap.size:=λe=>aE (e ▸ O);simp only[n1,n2,C4]at d aF;exact h.cs.G7 m m' g z O d aF
   ·have n1:m≠H.heap.size:=λe=>aE (e ▸ z);simp at O;subst O;simp only[n1,C4]at d;simp at aF;have:=aP m z g d;have:=aH g aF;omega
   ·have n1:m'≠H.heap.size:=λe=>aE (e ▸ O);simp at z;subst z;simp only[n1,C4]at aF;simp at d;have:=aP m' O g aF;have:=aH g d;omega
   ·simp at z O;rw[z,O]
  ·intro g d;rcases aG g d with e|e
   ·exact h.cs.IB g e
   ·omega
  ·intro g d;rcases aN g d with e|e
   ·exact h.cs.IC g e
   ·omega
  ·intro m z;rcases AV.1 z with z|z
   ·exact h.cs.NZ m z
   ·simp at z;omega
  ·intro m z g d;rcases AV.1 z with z|z
   ·have n1:m≠H.heap.size:=λe=>aE (e ▸ z);simp only[n1,C4]at d;exact h.cs.O0 m z g d
   ·simp at z;subst z;simp at d;have:=aH g d;omega
 refine⟨aZ,?_,h.ren.ad,?_,?_,h.AT,?_,?_,?_,?_⟩
 ·refine Ay h.EG λg d=>?_;obtain⟨c,Y⟩:=Bd h.EG d;exact key _ _ _ Y (by decide) (by decide)
 ·obtain⟨o,h1,h2,h3⟩:=h.Gp;refine⟨o++[f],by rw[h1,Cc],by simp;omega,λx E=>?_⟩;rcases AV.1 E with E|E
  ·exact h3 x E
  ·simp at E;subst E;exact a4
 ·obtain⟨o,h1,h2⟩:=h.Jj;refine⟨o++[H.heap.size],by rw[h1,Cc],λx E=>?_⟩;rcases AV.1 E with E|E
  ·exact h2 x E
  ·simp at E;omega
 ·refine h.An.Av aT ?_;rintro x (rfl|rfl|E|E) I
  ·exact .inl rfl
  ·exact .inr (.inl rfl)
  ·rcases h.KL x E with e|e
   ·exact .inr (.inr (.inl e))
   ·omega
  ·rcases h.Me x E with e|e
   ·exact .inr (.inr (.inr e))
   ·omega
 ·intro g d;rcases aG g d with e|e
  ·exact h.KL g e
  ·right;omega
 ·intro g d;rcases aN g d with e|e
  ·exact h.Me g e
  ·right;omega
 ·intro m z;obtain⟨o,h1,_⟩:=h.Jj;have a7:m∈M:=by rw[h1];exact AV.2 (.inl z)
  have n1:m≠H.heap.size:=λe=>aE (e ▸ a7);simp only[n1,C4];exact h.OZ m z
end
def Y6(N:Nat)(w:World)(bo bm:Nat)(F:Nat->FC)(old made:List Nat)(vo vm:Value)(VB:Nat->Value)(h:CS N w bo bm F old made vo vm VB)(es:List AL)(vl:Value)(bS:CY w vl es)(dE:∀g,vl.ownBlock=some g->g<N)(hn:es.length<1099511627776/\old.length<1099511627776)(hf:∀f,Dc f es->f<N/\(F f).1.length<=1099511627776/\∃v,CW w f v (F f).2/\Fz w v (F f).1/\∀g,v.ownBlock=some g->g<N):
 Ah 40 #[vl,A5 bo,A5 bm] w λe w'=>∃v,e=.returned v/\OR N w bo bm F old made vo vm VB es es.length v w':=by
 have H:=A1 h;have b7:=A1 hf;have dP:=A1 bS;have dS:=A1 dE;obtain⟨a,cap,rfl,hle,cT,he⟩:=bS.Cf;have dQ:=A1 he;obtain⟨hn1,hn2⟩:=hn;unfold maxLen at cT
 go_enter func40,ntmps40
 go_wp2;go_loopw [5,11] (λov iv wr=>∃i:Nat,i<=es.length/\iv=A0 i/\Hid (OR N w bo bm F old made vo vm VB es i ov wr)) (λ_ iv _=>es.length-(intOf iv).toNat)
 case atStart=>exact⟨0,Cz _,rfl,old,made,vo,vm,VB,[],H.o,CL _ _ _ _,⟨by simp,by simp⟩,⟨[],by simp⟩,⟨[],by simp⟩,by simp[Value.ownBlock],A3.I _ _,λ_ h=>.inl h,λ_ h=>.inl h,λ_ _=>rfl⟩
 case round=>
  obtain⟨i,hi,rfl,bK⟩:=hrel;by_cases aI:i<es.length
  ·obtain⟨L,M,aB,aD,VB',aA,k0⟩:=bK.o;have k1:=k0.cs;have k6:=k0.An;obtain⟨g,rfl,e1,e2⟩:=dQ.o i aI;have hgN:=dS.o g rfl;have bB:=Az dP.o (g:=g) rfl;have bQ:¬CF bo bm vo vm g:=by
    rintro (rfl|rfl|Y|Y)
    ·have:=H.o.HV;omega
    ·have:=H.o.IE;omega
    ·have:=H.o.IB g Y;omega
    ·have:=H.o.IC g Y;omega
   have e3:=(DL (k6.Al g bB bQ)).trans e1;have e4:=(DL (k6.Al g bB bQ)).trans e2;obtain⟨nm,bE⟩:∃nm,(es[i]'aI).1=nm:=⟨_,rfl⟩;obtain⟨f,aO⟩:∃f,(es[i]'aI).2=f:=⟨_,rfl⟩;rw[bE]at e3;rw[aO]at e4;have b9:=A1 k1;have b0:=A1 k6;have cG:=A1 <| (b7.o f ⟨_,BV aI,aO⟩).2.1;have cX:Hid (∃v,(∀g,v.oB g->g<N)/\∀W,A3 (CF bo bm vo vm) w W->CW W f v (F f).2/\Fz W v (F f).1):=by
    obtain⟨h1,_,v,h2,h3,h4⟩:=b7.o f ⟨_,BV aI,aO⟩;have key:∀k,k<N->¬CF bo bm vo vm k:=by
     rintro k hk (rfl|rfl|Y|Y)
     ·have:=H.o.HV;omega
     ·have:=H.o.IE;omega
     ·have:=H.o.IB k Y;omega
     ·have:=H.o.IC k Y;omega
    refine⟨v,h4,λW hc=>⟨(hc.Al f (Bw h2) (key f h1)).trans h2,Ay h3 λg Y=>hc.Al g (Az h3 Y) (key g (h4 g Y))⟩⟩
   have bR:Hid (∀W:World,A3 (CF bo bm vo vm) w W->∃c,W.heap[f]?=some (.cells c 68 (0,0))):=by
    intro W hc;obtain⟨h1,_,v,h2,_⟩:=b7.o f ⟨_,BV aI,aO⟩;refine⟨_,(hc.Al f (Bw h2) ?_).trans h2⟩;rintro (rfl|rfl|Y|Y)
    ·have:=H.o.HV;omega
    ·have:=H.o.IE;omega
    ·have:=H.o.IB f Y;omega
    ·have:=H.o.IC f Y;omega
   have hLl:L.length<2199023255552:=by
    obtain⟨o,h1,h2,_⟩:=k0.Gp;rw[h1,AZ];omega
   (have hEl:aA.length=i:=by have:=k0.ren.1;rw[BU]at this;omega);obtain⟨i0,bT,bH,bW,bO⟩:=E4 Tryz.cO;have bJ:=A1 bE;have aY:=A1 aO;obtain⟨ne,aX⟩:∃ne,aA.length=ne:=⟨_,rfl⟩;(have hne2:ne<1099511627776:=by omega);have aU:=A1 aX;have cD:=A1 k0;obtain⟨ao,co,rfl,ho1,cS,dD,_,_⟩:=B9 k1.ol;unfold maxLen at cS;go_wp2;have dG:=A1 dD;obtain⟨O,cF⟩:∃O,O=wr:=⟨_,rfl⟩;subst cF;have hsz:=Bw b9.o.ob;go_loopw [8] (λjv w2=>∃j:Nat,j<=L.length/\jv=A0 j/\Hid (∀m (h:m<L.length),m<j->L[m]'h≠f)/\Hid (A3 Aa (O.aC #[.string nm,A5 f] 70) w2)) (λjv _=>L.length-(intOf jv).toNat)
   case atStart=>exact⟨0,Cz _,rfl,λm h hm=>by omega,A3.I _ _⟩
   case round=>
    obtain⟨j,hj,rfl,bF,aH⟩:=hrel;obtain⟨w2,cC⟩:∃w2,w2=wr:=⟨_,rfl⟩;subst cC;have bP:=A1 <| (b0.o.aj _).Av aH.o (λ_ h _=>h.elim);have I:=A1 <| (b9.o.An ((A3.I Aa O).aj _) (λ_ _ h=>h) (λ_ _ h=>h)).An aH.o (λ_ _ h=>h) (λ_ _ h=>h);(have b1:w2.cell? (Ab bo 0)=some (.slice ao L.length co):=by have:=I.o.ob;simp[World.cell?,this]);have hE:=(aH.o.Al O.heap.size (by simp) (λh=>h)).trans (BK O _);(have b2:w2.cell? (Ab O.heap.size 0)=some (.string nm):=by simp[World.cell?,hE]);(have b3:w2.cell? (Ab O.heap.size 1)=some (A5 f):=by simp[World.cell?,hE]);by_cases aM:j<L.length
    ·obtain⟨go,rfl⟩:=dG.o (by omega);obtain⟨x,hx⟩:∃x,L[j]'aM=x:=⟨_,rfl⟩;have b4:w2.cell? (Ab go j)=some (A5 x):=by
      refine BF I.o.ol (g:=go) rfl ?_;unfold ER;rw[Po,E2 aM,hx];rfl
     have dB:=A1 hx;by_cases a2:x=f
     ·subst a2;have q:=λW=>XP W x;go_wp2;go_quiet (fail);go_wp2;obtain⟨mf,a9⟩:∃mf,M[j]?=some mf:=⟨M[j]'(by rw[I.o.b2];exact aM),E2 _⟩;obtain⟨am,cm,a1,aV,aN,aR,_,_⟩:=B9 I.o.ml;subst a1;obtain⟨gm,rfl⟩:=aR (by omega);unfold maxLen at aN;(have b5:w2.cell? (Ab bm 0)=some (AJ gm L.length cm):=by have:=I.o.mb;simp[World.cell?,this]);have b6:w2.cell? (Ab gm j)=some (A5 mf):=by
       refine BF I.o.ml (g:=gm) rfl ?_;unfold ER;rw[Po,a9];rfl
      have cP:=A1 a9;have aE:Hid (∀n,El N w bo bm F old made vo vm VB es i i u5 ((w2.drewN n).aC #[.string nm,A5 mf] 70) L M (AJ go L.length co) (AJ gm L.length cm) VB' aA):=
       λn=>cD.o.b3 (((((A3.I Aa O).aj _).tr aH.o).bb n).aj _)
      have aQ:Hid (∀n,((w2.drewN n).aC #[.string nm,A5 mf] 70).ownsRow 0 70 2 u5 ne (BX aA)):=λn=>aU.o ▸ (aE.o n).EG;have a0:Hid (∀n,Src Tryz.prog 2 57 (AJ w2.heap.size 1 1) 1 [.string nm,A5 mf] ((w2.drewN n).aC #[.string nm,A5 mf] 70)):=
       λn=>Src.bc underlying57 (w2.drewN n) #[.string nm,A5 mf] 70 w2.heap.size (by simp) 1 1 rfl (by simp[Value.oneCell'])
      (have aS:(ne+1)*24<=140737488355328:=by omega);have aP:Hid (∀n b3 z w3,App ((w2.drewN n).aC #[.string nm,A5 mf] 70) w3 70 2 u5 (.slice b3 (ne+1) z) (ne+1) (BX aA++[.string nm,A5 mf])->OR N w bo bm F old made vo vm VB es (i+1) (.slice b3 (ne+1) z) w3):=by
       intro n b3 z w3 hA;exact⟨_,_,_,_,_,_,(aE.o n).cg aI bJ.o aY.o (by rw[E2 aM,dB.o]) cP.o (by omega) (by rw[aU.o];exact hA)⟩
      go_region_law
       ((refine Jc ?_ (.tmp 55) (.tmp 63) 57 57 ?_ 70 i0 _ 2 24 underlying57 bT bH bW bO rfl (Nat.zero_lt_succ 23) u5 ne (BX aA) ?_ (aQ.o (nq+1)) (AJ w2.heap.size 1 1) 1 [.string nm,A5 mf] ?_ (a0.o (nq+1)) aS ?_;(· rfl);(· rfl);(· rfl);(· rfl);intro b3 z w3 hA;have cM:=A1 (aP.o (nq+1) b3 z w3 hA)))
      all_goals (go_wp2;go_roundw;(case rel=>exact⟨i+1,by omega,by go_num,cM.o⟩);(case measure=>simp[intOf];omega))
     ·obtain⟨cx,cB⟩:=(I.o.HT x (dB.o ▸ BV aM)).2;have q:∀n:Nat,(binOp .neq 65 (A5 x) (A5 f)).run Tryz.prog (w2.drewN n)=.ok (.bool true) (w2.drewN n):=by
       intro n;obtain⟨cf,cH⟩:=bR.o w2 (bP.o);exact XQ _ x f cx cf (by simpa using cB) (by simpa using cH) a2
      go_wp2;go_quiet (fail);go_wp2;go_roundw
      case rel=>
       refine⟨j+1,by omega,by go_num,λm h hm=>?_,aH.o.bb _⟩;by_cases cE:m=j
       ·subst cE;rw[dB.o];exact a2
       ·exact bF.o m h (by omega)
      case measure=>simp[intOf];omega
    ·(obtain rfl:j=L.length:=by omega);obtain⟨p0,hp,bX,bU,bN⟩:=E4 Tryz.ff;have a0:Hid (∀n,Src Tryz.prog 1 95 (AJ w2.heap.size 1 1) 1 [A5 f] ((w2.drewN n).aC #[A5 f] 65)):=
      λn=>Src.bc underlying95 (w2.drewN n) #[A5 f] 65 w2.heap.size (by simp) 1 1 rfl (by simp[Value.oneCell'])
     have cL:Hid (∀n,((w2.drewN n).aC #[A5 f] 65).ownsRow 0 65 1 (.slice ao L.length co) L.length (ER L)):=
      λn=>Ay I.o.ol λg Y=>D8 _ _ _ (by simpa using Az I.o.ol Y)
     (have aS:(L.length+1)*8<=140737488355328:=by omega)
     have dO:Hid (∀n w3 a3 z,App ((w2.drewN n).aC #[A5 f] 65) w3 65 1 (.slice ao L.length co) (.slice a3 (L.length+1) z) (L.length+1) (ER L++[A5 f])->
      w3.frozen? (Ab bo 0)=false/\w3.cell? (Ab bo 0)=some (.slice ao L.length co)/\A3 (λk=>k=bo\/(Value.slice ao L.length co).oB k) w2 (w3.setCell (Ab bo 0) (.slice a3 (L.length+1) z))):=by
      intro n w3 a3 z hA;have aX:(Value.slice ao L.length co).ownBlock≠some bo:=λe=>by
       obtain⟨c,hh⟩:=Bd I.o.ol e;exact BR hh I.o.ob (by decide) rfl
      have bI:w3.heap[bo]?=some (.cells #[.slice ao L.length co] 95 (0,0)):=by
       rw[hA.Ct.block bo (by have:=Bw I.o.ob;simp;omega) (λe=>aX e.symm),D8 _ _ _ (by simpa using Bw I.o.ob)];exact I.o.ob
      refine⟨by simp[World.frozen?,bI],by simp[World.cell?,bI],?_⟩;exact((((A3.I _ w2).bb n).aj _).Ct hA.Ct (λk hk _=>.inr hk)).aq (.inl rfl) 0 _
     go_wp2;go_quiet (fail);go_wp2_with (at_builtin;refine D9 rfl (.tmp 34) (.tmp 37) 95 95 rfl 65 p0 _ 1 8 underlying95 hp bX bU bN rfl (by decide) _ _ _ (by rfl) (cL.o nq) _ 1 _ (by rfl) (a0.o nq) aS ?_;intro a3 z w3 hA;have c3:=A1 (dO.o nq w3 a3 z hA);have f3:=c3.o.1;have g3:=c3.o.2.1);have aK:=c3.o.2.2;generalize cY:w3.setCell (Ab bo 0) (.slice a3 (L.length+1) z)=W3 at aK ⊢;have C3b:=A1 aK;have cU:=A1 cY;have dK:=A1 hA;obtain⟨am,cm,a1,aV,aN,aR,_,_⟩:=B9 I.o.ml;subst a1;unfold maxLen at aN
     have dF:=A1 <| bP.o.Av aK (λx hx bG=>by
      rcases hx with rfl|hx
      ·exact .inl rfl
      ·rcases cD.o.KL x hx with h|h
       ·exact .inr (.inr (.inl h))
       ·omega)
     obtain⟨vf,hvf1,bZ⟩:=cX.o;obtain⟨aE,bL⟩:=bZ W3 dF.o;obtain⟨af,cf,rfl,hf1,cO⟩:=bL.Cf;unfold maxLen at cO;have d1:=aE.c0;have d2:=aE.c1;have cQ:¬(Value.slice ao L.length co).oB bm:=λe=>by
      obtain⟨c,hh⟩:=Bd I.o.ol e;exact BR hh I.o.mb (by decide) rfl
     have aL:=
      (aK.Al bm (Bw I.o.mb) (λe=>e.elim (λe=>I.o.ne e.symm) cQ)).trans I.o.mb
     (have d3:W3.cell? (Ab bm 0)=some (.slice am L.length cm):=by simp[World.cell?,aL]);(have hge:O.heap.size<=w2.heap.size:=by have:=aH.o.Ak;simp at this;omega);have dA:∀g,(Value.slice ao L.length co).oB g->g<O.heap.size:=λg Y=>Az b9.o.ol Y;have aG:=(aK.Al O.heap.size (by have:=aH.o.Ak;simp at this;omega) (λe=>e.elim (λe=>by omega) (λe=>by have:=dA _ e;omega))).trans ((aH.o.Al O.heap.size (by simp) (λh=>h)).trans (BK O _));(have d4:W3.cell? (Ab O.heap.size 0)=some (.string nm):=by simp[World.cell?,aG]);(have d5:W3.cell? (Ab O.heap.size 1)=some (A5 f):=by simp[World.cell?,aG]);obtain⟨y0,hy,cZ,cA,cN⟩:=E4 Tryz.infoByte;have cV:=A1 <| Src.bN (w:=W3.drew) underlying66 bL (A1S _);(have dJ:(0+(F f).1.length)*1<=140737488355328:=by have:=cG.o;omega);have dL:Hid (∀E v4 n xs,App W3.drew E 5 1 (.slice none 0 0) v4 n xs->E.cell? (Ab O.heap.size 1)=some (A5 f)/\E.cell? (Ab f 0)=some (.slice af (F f).1.length cf)/\E.cell? (Ab f 1)=some (A0 (F f).2)/\E.cell? (Ab bm 0)=some (.slice am L.length cm)/\E.cell? (Ab O.heap.size 0)=some (.string nm)):=by
      intro E v4 n xs hB;have hc:∀k o,W3.heap[k]?=some o->E.heap[k]?=some o:=λk o ho=>(hB.bM.Al k (Bw ho) (λh=>h)).trans ho
      exact⟨(DL ((hc _ _ aG).trans aG.symm)).trans d5,(DL ((hc _ _ aE).trans aE.symm)).trans d1,(DL ((hc _ _ aE).trans aE.symm)).trans d2,(DL ((hc _ _ aL).trans aL.symm)).trans d3,(DL ((hc _ _ aG).trans aG.symm)).trans d4⟩
     have dR:Hid (∀E v4 n xs o1 o2,App W3.drew E 5 1 (.slice none 0 0) v4 n xs->((E.alloc o1).alloc o2).ownsRow 0 65 1 (.slice am L.length cm) L.length (ER M)):=by
      intro E v4 n xs o1 o2 hB
      have aR:=Ay I.o.ml λg Y=>aK.Al g (Az I.o.ml Y) (by
       rintro (e|e)
       ·obtain⟨c,hh⟩:=Bd I.o.ml Y;exact BR hh I.o.ob (by decide) e
       ·exact I.o.K7 g e Y)
      have bC:=Ay aR λg Y=>hB.bM.Al g (Az aR Y) (λh=>h);have bD:(E.alloc o1).ownsRow 0 65 1 (.slice am L.length cm) L.length (ER M):=Ay bC λg Y=>D8 _ _ _ (Az bC Y);exact Ay bD λg Y=>D8 _ _ _ (Az bD Y)
     have dM:Hid (∀E v4 n xs o1 o2 w6 a6 d ys,App W3.drew E 5 1 (.slice none 0 0) v4 n xs->App ((E.alloc o1).alloc o2) w6 65 1 (.slice am L.length cm) (.slice a6 (L.length+1) d) (L.length+1) ys->
      (w6.cell? (Ab O.heap.size 1)=some (A5 f)/\w6.cell? (Ab f 0)=some (.slice af (F f).1.length cf)/\w6.cell? (Ab f 1)=some (A0 (F f).2)/\w6.cell? (Ab bm 0)=some (.slice am L.length cm)/\w6.cell? (Ab O.heap.size 0)=some (.string nm))/\w6.frozen? (Ab bm 0)=false/\(w6.setCell (Ab bm 0) (.slice a6 (L.length+1) d)).cell? (Ab O.heap.size 0)=some (.string nm)):=by
      intro E v4 n xs o1 o2 w6 a6 d ys hB hC;have hc:∀k o,W3.heap[k]?=some o->(Value.slice am L.length cm).ownBlock≠some k->w6.heap[k]?=some o:=λk o ho hn=>by
       have h4:=(hB.bM.Al k (Bw ho) (λh=>h)).trans ho;have h5:((E.alloc o1).alloc o2).heap[k]?=some o:=by
        rw[D8 _ _ _ (by have:=Bw h4;simp;omega),D8 _ _ _ (Bw h4)];exact h4
       exact(hC.Ct.block k (Bw h5) (λe=>hn e.symm)).trans h5
      have a4:∀k (c:Array Value) (e:Nat),W3.heap[k]?=some (Obj.cells c e (0,0))->e≠65->(Value.slice am L.length cm).ownBlock≠some k:=λk c e hk he hn=>by
       have bG:=Az I.o.ml hn;obtain⟨c',hh⟩:=Bd I.o.ml hn
       have:W3.heap[k]?=w2.heap[k]?:=aK.Al k bG (by
        rintro (e2|e2)
        ·exact BR hh I.o.ob (by decide) e2
        ·exact I.o.K7 k e2 hn)
       rw[this,hh]at hk;cases hk;exact he rfl
      have x1:=hc _ _ aG (a4 _ _ _ aG (by decide));have x2:=hc _ _ aE (a4 _ _ _ aE (by decide));have x3:=hc _ _ aL (a4 _ _ _ aL (by decide));(have aZ:bm≠O.heap.size:=by have:=Bw b9.o.mb;omega);refine⟨⟨(DL (x1.trans aG.symm)).trans d5,(DL (x2.trans aE.symm)).trans d1,(DL (x2.trans aE.symm)).trans d2,(DL (x3.trans aL.symm)).trans d3,(DL (x1.trans aG.symm)).trans d4⟩,by simp[World.frozen?,x3],?_⟩;rw[A2K _ _ _ _ aZ];exact(DL (x1.trans aG.symm)).trans d4
     have dC:f∉L:=λhm=>by
      obtain⟨m,aV,aN⟩:=DQ hm;exact bF.o m aV aV aN
     have aW:Dc f es:=⟨_,BV aI,aY.o⟩
     have dI:Hid (∀E b4 aF w6 a6 d,App W3.drew E 5 1 (.slice none 0 0) (.slice b4 (F f).1.length aF) (F f).1.length (DX (F f).1)->
      App ((E.aC #[.slice b4 (F f).1.length aF,A0 (F f).2] 68).aC #[A5 E.heap.size] 65) w6 65 1 (.slice am L.length cm) (.slice a6 (L.length+1) d) (L.length+1) (ER M++[A5 E.heap.size])->
      El N w bo bm F old made vo vm VB es i (i+1) u5 (w6.setCell (Ab bm 0) (.slice a6 (L.length+1) d)) (L++[f]) (M++[E.heap.size]) (.slice a3 (L.length+1) z) (.slice a6 (L.length+1) d) (λm=>if m=E.heap.size then .slice b4 (F f).1.length aF else VB' m) aA):=
      λE b4 aF w6 a6 d hB hC=>cD.o.cE rfl dC aW (b7.o f aW).1 (bR.o O b0.o) (((A3.I Aa O).aj _).tr aH.o) dK.o cU.o hB hC
     have dN:Hid (W3.drew.cell? (Ab O.heap.size 1)=some (A5 f)/\W3.drew.cell? (Ab f 0)=some (.slice af (F f).1.length cf)/\W3.drew.cell? (Ab f 1)=some (A0 (F f).2)/\W3.drew.cell? (Ab bm 0)=some (.slice am L.length cm)/\W3.drew.cell? (Ab O.heap.size 0)=some (.string nm)):=⟨d5,d1,d2,d3,d4⟩;refine FA (λw'=>w'.cell? (Ab O.heap.size 1)=some (A5 f)/\w'.cell? (Ab f 0)=some (.slice af (F f).1.length cf)/\w'.cell? (Ab f 1)=some (A0 (F f).2)/\w'.cell? (Ab bm 0)=some (.slice am L.length cm)/\w'.cell? (Ab O.heap.size 0)=some (.string nm)) 16
      (Bz [0,1,2,3,4,5,7,8,9,10,11,6,12,13,14,15] [6,13,14,15]) (by kernel_rfl) (by kernel_rfl) (λ_ _ _ _ _ h=>h) dN.o ?_
     iterate 11 (refine E8 (v:=?_) rfl (by rfl) ?_ ?_;rotate_left;(· (intro w' hS;(try dsimp only at hS);go_simp;try with_reducible rfl));(try simp only[Ao]))
     refine DY rfl (by rfl) (λK hK=>?_);refine HI (.const (.slice none 0 0)) (.tmp 44) 66 66 (by rfl) 5 y0 _ 1 1 underlying66 hy cZ cA cN rfl (by decide) (.slice none 0 0) 0 [] (by rfl) (CL _ _ _ _) _ (F f).1.length _ (by rfl) cV.o dJ ?_;intro b4 aF E hB;simp only[Gx,EY]at hB ⊢;refine hK _ _ (dL.o _ _ _ _ hB) (λhS=>?_)
     (try simp only[Ao])
     obtain⟨q1,q2,q3,q4,q5⟩:=hS
     (refine E8 (v:=?_) rfl (by rfl) ?_ ?_;rotate_left;(· (intro w' hS;(try dsimp only at hS);go_simp;try with_reducible rfl));(try simp only[Ao]))
     refine DY rfl (by rfl) (λK hK=>?_);go_simp;refine hK _ _ ?_ (λhS=>?_)
     ·simp[World.cell?_alloc_some,q1,q2,q3,q4,q5]
     (try simp only[Ao])
     obtain⟨q1',q2',q3',q4',q5'⟩:=hS;refine DY rfl (by rfl) (λK hK=>?_);go_simp;refine hK _ _ ?_ (λhS=>?_)
     ·simp[World.cell?_alloc_some,q1,q2,q3,q4,q5]
     (try simp only[Ao])
     have cI:Hid (Src Tryz.prog 1 95 (AJ (E.heap.size+1) 1 1) 1 [A5 E.heap.size] ((E.aC #[.slice b4 (F f).1.length aF,A0 (F f).2] 68).aC #[A5 E.heap.size] 65)):=
      Src.bc underlying95 (E.aC #[.slice b4 (F f).1.length aF,A0 (F f).2] 68) #[A5 E.heap.size] 65 (E.heap.size+1) (by simp) 1 1 rfl (by simp[Value.oneCell'])
     refine DY rfl (by rfl) (λK hK=>?_);refine HI (.tmp 39) (.tmp 53) 95 95 (by rfl) 65 p0 _ 1 8 underlying95 hp bX bU bN rfl (by decide) (.slice am L.length cm) L.length (ER M) (by rfl) (dR.o _ _ _ _ _ _ hB) _ 1 _ (by rfl) cI.o aS ?_;intro a6 d w6 hC;have k7:=A1 (dI.o E b4 aF w6 a6 d hB hC);obtain⟨r1,r2,r3⟩:=dM.o _ _ _ _ _ _ _ _ _ _ hB hC;refine hK _ _ r1 (λhS=>?_);obtain⟨_,_,_,r4,_⟩:=r1
     (try simp only[Ao])
     refine Bo ?_;simp only[DE,Dq];go_wp2;generalize hW7:w6.setCell (Ab bm 0) (.slice a6 (L.length+1) d)=W7 at k7 r3 ⊢;generalize a9:E.heap.size=mf at k7;have a5:=k7.o.cs.ml;(have a8:(L++[f]).length=L.length+1:=by simp);rw[a8]at a5;obtain⟨a7,c7,e7,hm1',bV,bA,_,_⟩:=B9 a5;cases e7;obtain⟨g6,rfl⟩:=bA (by omega);unfold maxLen at bV;(have m1:W7.cell? (Ab bm 0)=some (AJ g6 (L.length+1) d):=by have:=k7.o.cs.mb;simp[World.cell?,this]);have m2:W7.cell? (Ab g6 L.length)=some (A5 mf):=by
      refine BF a5 (g:=g6) rfl ?_;have aT:=I.o.b2;unfold ER;rw[E6,Hl (by simp[aT])];simp[aT]
     have aQ:Hid (((W7.drew).aC #[.string nm,A5 mf] 70).ownsRow 0 70 2 u5 ne (BX aA)):=aU.o ▸ (k7.o.b3 ((A3.I _ W7).af.aj _)).EG;have bY:Hid (Src Tryz.prog 2 57 (AJ W7.heap.size 1 1) 1 [.string nm,A5 mf] ((W7.drew).aC #[.string nm,A5 mf] 70)):=
      Src.bc underlying57 W7.drew #[.string nm,A5 mf] 70 W7.heap.size (by simp) 1 1 rfl (by simp[Value.oneCell'])
     (have bM:(ne+1)*24<=140737488355328:=by omega);have aP:Hid (∀b8 aJ w8,App ((W7.drew).aC #[.string nm,A5 mf] 70) w8 70 2 u5 (.slice b8 (ne+1) aJ) (ne+1) (BX aA++[.string nm,A5 mf])->OR N w bo bm F old made vo vm VB es (i+1) (.slice b8 (ne+1) aJ) w8):=by
      intro b8 aJ w8 hA;have aT:M.length=L.length:=I.o.b2;exact⟨_,_,_,_,_,_,(k7.o.b3 ((A3.I _ W7).af.aj (.cells #[.string nm,A5 mf] 70))).cg (j:=L.length) (mf:=mf) aI bJ.o aY.o (by simp) (by simp[<-aT]) (Au _) (by rw[aU.o];exact hA)⟩
     have j0:(0:Int)<=(L.length:Int):=Gi _;obtain⟨nl,dH,j1⟩:∃nl:Nat,L.length+1=nl/\(L.length:Int)<(nl:Int):=⟨_,rfl,by omega⟩;rw[dH]at m1;refine FA (λw'=>w'.cell? (Ab O.heap.size 0)=some (.string nm)/\w'.cell? (Ab bm 0)=some (AJ g6 nl d)/\w'.cell? (Ab g6 L.length)=some (A5 mf)) 9
      (Bz [0,1,2,3,4,5,6,7,8] [8]) (by kernel_rfl) (by kernel_rfl) (λ_ _ _ _ _ h=>h) ⟨r3,m1,m2⟩ ?_
     iterate 8 (refine E8 (v:=?_) rfl (by rfl) ?_ ?_;rotate_left;(· (intro w' hS;(try dsimp only at hS);go_simp;try with_reducible rfl));(try simp only[Ao]))
     refine DY rfl (by rfl) (λK hK=>?_);go_simp;refine hK _ _ ?_ (λhS=>?_)
     ·simp[World.cell?_alloc_some,r3,m1,m2]
     (try simp only[Ao])
     refine Bo ?_;simp only[DE,Dq];go_wp2_with (at_builtin;refine D9 rfl (.tmp 55) (.tmp 63) 57 57 rfl 70 i0 _ 2 24 underlying57 bT bH bW bO rfl (by decide) u5 ne (BX aA) (by rfl) aQ.o _ 1 _ (by rfl) bY.o bM ?_;intro b8 aJ w8 hD;have cJ:=A1 (aP.o b8 aJ w8 hD));go_roundw
     case rel=>exact⟨i+1,by omega,by go_num,cJ.o⟩
     case measure=>simp[intOf];omega
  ·(obtain rfl:i=es.length:=by omega);go_wp2;go_ret;exact⟨_,rfl,bK.o⟩
end
end Go.Proofs.YtodcnkbblippnabGreatDoor
