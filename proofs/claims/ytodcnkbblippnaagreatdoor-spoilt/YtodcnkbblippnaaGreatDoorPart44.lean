/- Part 44 of a proof: walks of the program. -/
import Derived.Test.YtodcnkbblippnaaGreatDoorPart43
namespace Go.Proofs.YtodcnkbblippnaaGreatDoor
set_option maxRecDepth 100000
set_option maxHeartbeats 32000000
set_option linter.defProp false
open Go.Proofs.Tryz
section
open Go.RowKit
attribute [local go_sem ↓] Go.wp_at_zero Go.wp_at_succ
section
variable{w w':ga}{b H i k T M N R a c m:Nat}{P Q:PD}{aA:Bs->Option Bs}{Ft:Nat->Prop}
def ZP{nm x:Bs}(h:P.bs nm=some x):EP P.D P.F (A6 nm) 0 x.length=(x,0):=by
 unfold PD.bs PD.fl at h;cases hl:lookup P.D.A4 (A6 nm) with
 | none=>rw[hl]at h;cases h
 | some f=>
  rw[hl]at h;simp at h;unfold EP;rw[hl];dsimp only
  rw[h,Aa (by omega)];simp
def KZ(P:PD)(aA:Bs->Option Bs)(M:Nat)(z d:ga)(h k:Nat)(wr:ga):Prop:=A3 (λ_=>False) z wr/\A3 (One h) d wr/\∃Q,Fj (λx=>x=h\/d.heap.size<=x) d.heap.size h Q wr/\I2 P aA M k Q
def KZ.ba{w0 O L Y:ga}{z:Nat}{nm l:Bs}(h:KZ P aA M w0 O z k L)(c:A3 Ab L Y)(aD:L.heap.size<Y.heap.size)(h02:w0.heap.size<=z)(h03:w0.heap.size<=O.heap.size)(aH:P.Ai.Pairwise (· < ·))(hk:k<P.Ai.length)(d:P.Ai[k]'hk=nm)(aF:nm≠[])(hl:aA nm=some l)(hM:nm.length+l.length<=M)(hn:P.Ai.length<=400000)(hMn:P.Ai.length*M<=3000000):
 Ag 83 #[A5 z,.string ⟨nm.toArray⟩] Y λe w6=>∃n1,e=.returned (A0 n1)/\A3 (λx=>(x=z\/O.heap.size<=x)/\x≠L.heap.size) Y w6/\
  ∀w7,A3 Ab w6 w7->Ag 84 #[A5 z,.string ⟨nm.toArray⟩,.string ⟨l.toArray⟩] w7 λe w8=>∃n2,e=.returned (A0 n2)/\A3 (λx=>(x=z\/O.heap.size<=x)/\x≠L.heap.size) Y w8/\
   ∀w9,A3 Ab w8 w9->Ag 85 #[A5 z,.string ⟨nm.toArray⟩] w9 λe W=>∃n3,e=.returned (A0 n3)/\KZ P aA M w0 O z (k+1) W:=by
 obtain⟨c0,c3,Q,hD,⟨T,hB,hT⟩,aE⟩:=h;have aG:=c3.Aj;have hm:k*M+M=(k+1)*M:=(KE ..).symm;have hm2:(k+1)*M<=P.Ai.length*M:=Gd M hk;have e1:(ByteArray.mk nm.toArray).size=nm.length:=rfl;have e2:(ByteArray.mk l.toArray).size=l.length:=rfl;have hA:=I2.eP (l:=l) ⟨⟨T,hB,hT⟩,aE⟩ aH hk (by rw[d];exact aF) (by rw[d];exact hl) (by rw[d];exact hM) (by omega) (by omega);rw[d]at hA;refine((hD.eI c aD).ba hB ⟨nm.toArray⟩ ⟨l.toArray⟩ (by omega) (by omega)).mono ?_;rintro e w6⟨n1,rfl,k6,h6⟩;refine⟨n1,rfl,k6,λw7 k7=>(h6 w7 k7).mono ?_⟩;rintro e w8⟨n2,rfl,k8,h8⟩;refine⟨n2,rfl,k8,λw9 k9=>(h8 w9 k9).mono ?_⟩;rintro e W⟨n3,rfl,E,aI⟩;refine⟨n3,rfl,(c0.tr c).Av E λx I aB=>?_,(c3.Av c λ_ h _=>h.elim).Av E λx I aB=>?_,_,aI.aZ (λx I=>I.1) (AJ aG (AJ c.Aj E.Aj)) λx I=>.inr I,hA⟩
 ·rcases I.1 with h|h<;>omega
 ·rcases I.1 with h|h
  ·exact h
  ·omega
end
def A3p{b M N R a c m:Nat}{P:PD}{Ft:Nat->Prop}(w:ga)(hd:Bf w b P Ft)(aG:∀k,Ft k->k<w.heap.size)(hF:Fit P a c m)(hl:CP a c m)(hP:Cm P N R)(hn:P.Ai.length<=400000)(hM:∀nm x,P.bs nm=some x->nm.length+x.length<=M)(bG:P.Ai.length*M<=3000000)(bA:P.bs []=none)(z first d:Int)(h1:AT z)(h2:AT first)(_h3:AT d):
 Ag 40 #[A5 b,A0 z,A0 first,A0 d] w λe w'=>∃b2 Q bM,e=.returned (A5 b2)/\Bf w' b2 Q bM/\(∀k,bM k->w.heap.size<=k/\k<w'.heap.size)/\A3 Ab w w'/\
  ((∀x,Q.bs x=P.bs x)\/(d≠0/\∃nm l es,Ex P Q nm l es))/\Q.Ai=P.Ai/\(∃b6,Cm Q 100000000000 b6)/\Fit Q P.Ai.length 0 (P.Ai.length*M)/\Mt Q P.Ai.length:=by
 have cZ:=A1 (λY=>TW (F:=λ_=>([],0)) 1152921504606846976 Y);have cX:Hid (∀Y,A3 Ab w Y->Ag 76 #[A5 b] Y λe w'=>∃v,e=.returned v/\Dg w' v P.Ai/\A3 Ab Y w'/\(∀g,v.oB g->Y.heap.size<=g)):=λY hc=>MZ (B1.ay hd aG hc) hF hl;have dJ:Hid (∀Y,A3 Ab w Y->∀nm x,P.bs nm=some x->Ag 81 #[A5 b,.string ⟨nm.toArray⟩] Y (Am (.tuple #[A0 (x.length:Int),A0 0]) λw'=>Y=w')):=λY hc nm x hx=>by
  have h:=MH (B1.ay hd aG hc) (A6 nm);rw[Qg,hx]at h;exact h
 have dH:Hid (∀Y,A3 Ab w Y->∀nm x,P.bs nm=some x->Ag 82 #[A5 b,.string ⟨nm.toArray⟩,A0 0,A0 (x.length:Int)] Y (Am (.tuple #[.string ⟨x.toArray⟩,A0 0]) λw'=>Y=w')):=λY hc nm x hx=>by
  have h:=SX (B1.ay hd aG hc) (A6 nm) 0 x.length;rw[ZP hx]at h;exact h
 have dK:=A1 (λ(w':ga) (n:Int) (hn:0<n/\n<=9223372036854775807)=>Jy w' z n h1 hn);have dM:=A1 (λ(w':ga) (n:Int) (hn:0<n/\n<=9223372036854775807)=>Jy w' first n h2 hn);have kc:=λ(w:ga) (s:gg)=>run_bytes_of_string (P:=Tryz.prog) w 9 127 5 s FR GA KA;obtain⟨n,aT⟩:∃n,P.Ai.length=n:=⟨_,rfl⟩;have cT:=A1 hM;have cQ:=A1 hP;have cI:=A1 bA;have a9:Hid (n<=400000/\n*M<=3000000):=by rw[<-aT];exact⟨hn,bG⟩
 obtain⟨i0,bX⟩:∃i0,i0=(Du z n).toNat:=⟨_,rfl⟩;obtain⟨E,bZ⟩:∃E,E=(Du first ((8*((P.bs (P.Ai.getD i0 [])).getD []).length:Nat):Int)).toNat:=⟨_,rfl⟩;obtain⟨aA,aV⟩:∃aA,aA=λx=>GS P i0 E d x:=⟨_,rfl⟩;have cP:=A1 bX;have cL:=A1 bZ;clear bX bZ;clear hd aG hF hl hP hn hM bG bA h1 h2
 go_enter func40,ntmps40
 go_wp2_with (fail);refine(cZ.o _).k ?_;rintro w2⟨bR,k2,hz⟩;go_wp2_with (fail);refine(cX.o _ k2).mono ?_;rintro e w3⟨v,rfl,hv,k3,bS⟩;obtain⟨ad,cap,bI,cD,cC⟩:=(Dg.rd hv).Cd;rw[aT]at bI cD;subst bI;unfold maxLen at cC;have dD:=A1 (Dg.rd hv);have dE:Hid (w2.heap.size<=w3.heap.size):=k3.Aj;have b3:Hid (KZ P aA M w w3 w.heap.size 0 w3):=⟨k2.tr k3,(A3.I Ab w3).af λ_ _ h=>h.elim,hollow 1152921504606846976,⟨Ao _,λx hx=>.inr hx,_,B1.ay bR (λk hk=>by cases hk;omega) k3,λk hk=>by cases hk;have:=dE.o;omega,λk hk=>by cases hk;exact .inl rfl⟩,I2.bI P aA M⟩;have aZ:Hid (∀g,(Value.slice ad n cap).oB g->w.heap.size<g):=λg hg=>by have:=bS g hg;omega
 have aF:=A1 aV;have aM:=A1 aT;clear bR k2 hz hv k3 bS aV aT cX cZ;generalize bP:w.heap.size=b2 at b3 aZ ⊢;have bO:=A1 bP;clear bP;go_wp2;go_loopw [11] (λiv wr=>∃k:Nat,k<=n/\iv=A0 k/\Hid (KZ P aA M w w3 b2 k wr)) (λiv _=>n-(intOf iv).toNat)
 ·exact⟨0,Cb _,rfl,b3⟩
 ·obtain⟨k,hk,rfl,hH⟩:=hrel;obtain⟨W,b8⟩:∃W,W=wr:=⟨_,rfl⟩;subst b8;have k0:=C3 k;by_cases aN:k<n
  ·(have i1:(k:Int)<(n:Int):=by omega);(have aD:k<P.Ai.length:=by rw[aM.o];exact aN);obtain⟨g,o,rfl,d1⟩:=GC.at dD.o k aD;have aK:=BU aD;generalize bF:(P.Ai[k]'aD)=nm at d1 aK;have aP:=A1 bF;obtain⟨x,hx⟩:=JL.1 (Es.1 aK);have a8:=A1 hx;obtain⟨aI,aW,b9⟩:=hH;have b9:=A1 b9;have e1:=aW.bq d1 (λh=>by have h':g=b2:=h;have:=aZ.o g rfl;omega);have dL:=A1 (dJ.o W aI nm x hx);have bY:=A1 aI;have bD:=A1 aW;clear d1 aK bF hx aI aW;go_wp2_with (fail);refine dL.o.k ?_;rintro w' rfl;go_wp2_with (fail);refine(dH.o _ bY.o nm x a8.o).k ?_;rintro w' rfl;(have n0:(n:Int)>0:=by omega);have np:0<(n:Int)/\(n:Int)<=9223372036854775807:=⟨by omega,by have:=a9.o.1;omega⟩;have dG:=A1 (λw'=>dK.o w' n np);go_wp2_with (fail);refine(dG.o _).k ?_;rintro w5 a3;(have a7:w5.heap[W.heap.size]?=some (.cells (bytesRow ⟨x.toArray⟩ (grownCap W x.length 0 5)) 5 ((bytesRow ⟨x.toArray⟩ (grownCap W x.length 0 5)).size,(bytesRow ⟨x.toArray⟩ (grownCap W x.length 0 5)).size+1)):=by rw[<-a3];exact BL W _);(have bE:A3 Ab W w5:=by rw[<-a3];exact((A3.I _ W).al _).ag);clear a3;have aR:=A1 (Ej.of a7);have aQ:=A1 (Bv a7);clear a7;generalize grownCap W x.length 0 5=cp;have cB:=A1 bE;have cG:Hid (∀(L:ga) (l:Bs),aA nm=some l->l.length=x.length->A3 Ab W L->W.heap.size<L.heap.size->_):=λL l hl hlx hc aG=>(show KZ P aA M w w3 b2 k W from ⟨bY.o,bD.o,b9.o⟩).ba hc aG (by have:=bO.o;omega) b3.o.1.Aj cQ.o.up aD aP.o (λe=>by subst e;exact absurd a8.o (by rw[cI.o];simp)) hl (by have:=cT.o nm x a8.o;omega) (by rw[aM.o];exact a9.o.1) (by rw[aM.o];exact a9.o.2)
   have aS:=bE.ao e1;have b4:Hid (g≠b2/\g<w3.heap.size/\w3.heap.size<=W.heap.size):=⟨λh=>by have:=aZ.o g rfl;omega,dD.o.lt rfl,bD.o.Aj⟩;generalize bK:W.heap.size=g1 at aR aQ cG b4;(have bJ:k=i0↔(k:Int)=Du z n:=by have:=Ia z n (by omega);rw[cP.o];omega);have a4:=A1 bJ;have b0:=A1 bK;(have aO:Hid (k≠i0->aA nm=some x):=λh=>by rw[aF.o];show GS P i0 E d nm=some x;rw[A22 cQ.o.up aD aP.o h];exact a8.o);have aH:Hid (k=i0->E=(Du first ((8*x.length:Nat):Int)).toNat/\aA nm=some (Dc x E d 32)):=λh=>by
    (have e2:P.Ai.getD i0 []=nm:=by rw[<-h,He,DL aD,aP.o];rfl);refine⟨by rw[cL.o,e2,a8.o];rfl,?_⟩;rw[aF.o,<-h];exact A21 aD aP.o a8.o
   have dN:=A1 (Qj aN);have ek:IntKind.i64.wrap ((k:Int)+1)=(k:Int)+1:=En (by have:=a9.o.1;omega);clear bJ bK e1;obtain⟨I,a2⟩:∃I,x.length=I:=⟨_,rfl⟩;rw[a2]at cG aH ⊢;have aE:=A1 a2;have hx3:I<=3000000:=by
    have h1:=cT.o nm x a8.o;have h2:1*M<=n*M:=Gd M (by omega);have:=a9.o.2;omega
   clear a2;by_cases aB:(k:Int)=Du z n
   focus
    (have bW:((k:Int)==Du z n)=true:=by simpa using aB);by_cases aX:I=0
    focus
     (have hz:¬((I:Int)>0):=by omega);have bU:Hid (aA nm=some x):=by
      rw[(aH.o (a4.o.2 aB)).2];have h0:=JV x E d 32;have a6:=aE.o;rw[aX]at a6;rw[a6]at h0;rw[GG.1 h0,GG.1 a6];exact rfl
     clear aB aX;go_wp2_with (fail);obtain⟨l,rfl⟩:∃l,l=x:=⟨_,rfl⟩;obtain⟨L,rfl⟩:∃L,L=w5:=⟨_,rfl⟩;have aL:=A1 aE.o;have aJ:=A1 aR.o;have cA:=A1 aQ.o;have cE:=A1 cB.o;have e6:=aS;clear aS aH aO
    rotate_left
    focus
     (have hz:(I:Int)>0:=by omega);have e8:IntKind.i64.wrap (8*(I:Int))=8*(I:Int):=En (by omega);obtain⟨b5,cN⟩:=Ia first (8*(I:Int)) (by omega)
     obtain⟨bL,bN⟩:=aH.o (a4.o.2 aB);have ea:Du first (8*(I:Int))=(E:Int):=by
      rw[show ((8*I:Nat):Int)=8*(I:Int) by omega]at bL;omega
     have P2:=A1 (λw'=>dM.o w' (8*(I:Int)) ⟨by omega,by omega⟩);rw[ea]at P2 cN;have aU:=A1 bN;have cJ:=A1 aS;clear bL bN ea b5 aB aX aH aO aS;go_wp2_with (fail);refine(P2.o _).k ?_;rintro w' rfl;have cM:Hid (A3 (One g1) w5 w5/\Ej w5 g1 (Dc x E d 0)):=⟨A3.I _ _,aR.o⟩;clear P2;go_wp2;go_loopw [18] (λjv wr=>∃j:Nat,jv=A0 j/\j<=32/\Hid (A3 (One g1) w5 wr/\Ej wr g1 (Dc x E d j))) (λjv _=>32-(intOf jv).toNat)
     case atStart=>exact⟨0,rfl,Cb _,cM⟩
     obtain⟨j,rfl,hj,hH⟩:=hrel;obtain⟨L,b7⟩:∃L,L=wr:=⟨_,rfl⟩;subst b7;have j0:=C3 j;have ej:IntKind.i64.wrap ((E:Int)+(j:Int))=(E:Int)+(j:Int):=En (by omega);have e6:=hH.o.1.bq cJ.o (λh=>by have h':g=g1:=h;have:=b4.o;have:=b0.o;omega);have aY:Hid ((32<=j\/8*I<=E+j)->aA nm=some (Dc x E d j)):=λh=>by
      rcases h with h|h
      ·rw[show j=32 by omega];exact aU.o
      ·rw[Yz (by rw[aE.o];exact h) hj];exact aU.o
     have aL:Hid ((Dc x E d j).length=I):=(JV x E d j).trans aE.o;have aJ:=A1 hH.o.2;(have cE:Hid (A3 Ab W L):=cB.o.br hH.o.1 λy h=>by have h':y=g1:=h;have:=b0.o;omega);have cA:Hid (g1<L.heap.size):=Bi aQ.o hH.o.1.Aj;by_cases bB:j<32
     focus
      (have i2:(j:Int)<32:=by omega);by_cases bC:E+j<8*I
      ·(have i3:(E:Int)+(j:Int)<8*(I:Int):=by omega);by_cases O:(d >>> j) % 2=1
       ·(have hm:(bits .and .i64 (d/2 ^ j) 1==1)=true:=by rw[VA];exact CM O);obtain⟨q,bH⟩:∃q,q=(E+j)/8:=⟨_,rfl⟩;obtain⟨r,b1⟩:∃r,r=(E+j) % 8:=⟨_,rfl⟩;(have hq:q<(Dc x E d j).length:=by rw[JV,aE.o];omega);(have td:((E:Int)+(j:Int)).tdiv 8=(q:Int):=by rw[Int.tdiv_eq_ediv_of_nonneg (by omega)];omega);(have tm:((E:Int)+(j:Int)).tmod 8=(r:Int):=by rw[X5 (by omega)];omega);(have td2:((E:Int)+(j:Int))/8=(q:Int):=by omega);(have tm2:((E:Int)+(j:Int)) % 8=(r:Int):=by omega);have wq:IntKind.i64.wrap (q:Int)=(q:Int):=En (by omega);have wr8:IntKind.i64.wrap (r:Int)=(r:Int):=En (by omega);(have q1:(q:Int)<(I:Int):=by omega);have q0:=C3 q;have bc:=hH.o.2.DK hq;have bz:=hH.o.2.fz hq;have cO:=A1 (And.intro bH b1);clear bH b1;go_wp2;refine Cc (λw'=>A7 w' g1 q (.int .u8 ((((Dc x E d j)[q]'hq).toNat:Nat):Int))) 19
         (BG [0,1,2,3,4,5,6,7,8,9,10,11,12,13,14,15,16,17,18] []) bc ?_
        iterate 19 refine Bq ?_
        refine C8 ?_;go_wp2;exact⟨⟨j+1,by simp,by omega,((hH.o.1.aq (b:=g1) rfl q _).ag),hH.o.2.fS O hq cO.o (by rw[aE.o];exact bC)⟩,by simp[intOf];omega⟩
       ·(have hm:(bits .and .i64 (d/2 ^ j) 1==1)=false:=by rw[VA];exact De O);have cF:Hid (A3 (One g1) w5 L/\Ej L g1 (Dc x E d (j+1))):=by
         have e:Dc x E d (j+1)=Dc x E d j:=by
          show (if E+j<8*x.length/\(d >>> j) % 2=1 then _ else Dc x E d j)=_;rw[Aa λh=>O h.2]
         rw[e];exact hH.o
        clear O;go_wp2;exact⟨⟨j+1,by simp,by omega,cF⟩,by simp[intOf];omega⟩
      (have i3:¬(E:Int)+(j:Int)<8*(I:Int):=by omega);have bU:=A1 (aY.o (.inr (by omega)));clear bC
     rotate_left
     focus
      (have i2:¬(j:Int)<32:=by omega);have bU:=A1 (aY.o (.inl (by omega)))
     all_goals
      generalize Dc x E d j=l at bU aL aJ;clear hH bB aY;go_wp2_with (fail)
   rotate_left 3
   focus
    (have bW:((k:Int)==Du z n)=false:=by simpa using aB);have bU:Hid (aA nm=some x):=aO.o (λh=>aB (a4.o.1 h));clear aB;go_wp2_with (fail);obtain⟨l,rfl⟩:∃l,l=x:=⟨_,rfl⟩;obtain⟨L,rfl⟩:∃L,L=w5:=⟨_,rfl⟩;have aL:=A1 aE.o;have aJ:=A1 aR.o;have cA:=A1 aQ.o;have cE:=A1 cB.o;have e6:=aS;clear aS aH aO
   all_goals
    have dB:=A1 (cG.o L l bU.o aL.o cE.o cA.o);refine dB.m ?_;rintro e w7⟨n1,rfl,k7,h7⟩;have e7:=k7.bq e6 (λh=>by have:=b4.o;rcases h.1 with h1|h1<;>(dsimp only at h1;omega));have bT:=A1 (aJ.o.Al k7 (λh=>h.2 rfl));have dA:=A1 (h7 _ (A3.I _ w7).ag);clear k7 h7 dB aJ;go_wp2;refine Cc (λw'=>A7 w' g (o+k) (.string ⟨nm.toArray⟩)/\Ej w' g1 l) 7
     (BG [0,1,2,3,4,5,6] []) ⟨e7,bT.o⟩ ?_
    iterate 6 refine Bq ?_
    refine Bq (v:=.string ⟨l.toArray⟩) ?_ (hy:=λw' hS=>by go_simp;rw[hS.2.e3 aL.o cp];rfl);refine C8 ?_;go_wp2_with (fail);refine dA.m ?_;rintro e w8⟨n2,rfl,k8,h8⟩;have e8:=k8.bq e6 (λh=>by have:=b4.o;rcases h.1 with h1|h1<;>(dsimp only at h1;omega));have cV:=A1 (h8 _ (A3.I _ w8));clear k8 h8 dA e7 bT e6;go_wp2_with (fail);refine cV.m ?_;rintro e w9⟨n3,rfl,h9⟩;have dF:=A1 h9;clear h9 cV e8;go_wp2;go_roundw
    ·exact⟨k+1,aN,by simp,dF⟩
    ·exact dN.o
  ·obtain rfl:k=n:=KG hk (QE.1 aN);have i1:¬(k:Int)<(k:Int):=Mr _;obtain⟨aI,-,Q,⟨-,hS,Ft,q1,q2,q3⟩,a1⟩:=hH;(have bV:∀m,aA m≠none↔P.bs m≠none:=λm=>by rw[aF.o];exact A20 P i0 E d m);(have hl:P.Ai.length<=400000:=by rw[aM.o];exact a9.o.1);rw[<-aM.o]at a1;obtain⟨r1,r2,r3,r4,r5⟩:=a1.Ck cQ.o bV hl;have dI:=A1 (RA q1);have bQ:Hid (((∀x,Q.av.2.bs x=P.bs x)\/(d≠0/\∃nm l es,Ex P Q.av.2 nm l es))/\Q.av.2.Ai=P.Ai/\(∃b6,Cm Q.av.2 100000000000 b6)/\Fit Q.av.2 P.Ai.length 0 (P.Ai.length*M)/\Mt Q.av.2 P.Ai.length):=
    ⟨A2Z (i:=i0) (a:=E) (λm=>by rw[r1,aF.o]) r2,r2,r3,r4,r5⟩
   have cU:Hid (∀x,Ft x->w.heap.size<=x):=λx hx=>by
    have h02:=b3.o.1.Aj;rcases q3 x hx with h|h
    ·have:=bO.o;omega
    ·omega
   have cY:=A1 aI;clear bV hl r1 r2 r3 r4 r5 hS q1 q3 a1 aI;go_wp2_with (fail);refine dI.m ?_;rintro e w5⟨rfl,c5,a5,d1,d2,d3⟩;have dC:A3 Ab w w5:=cY.o.br c5 cU.o;have cS:∀y,a5 y->w.heap.size<=y/\y<w5.heap.size:=λy hy=>⟨(d3 y hy).elim (cU.o y) λh=>AJ cY.o.Aj h,d2 y hy⟩
   have aS:Bf w5 b2 Q.av.2 a5:=d1;have cH:=A1 (And.intro aS (And.intro cS (And.intro dC bQ.o)));clear aS cS dC bQ c5 d1 d2 d3;go_wp2;go_ret;exact⟨b2,_,a5,rfl,cH.o⟩
end
section
open Go.RowKit
def TT{L:Int×Int}{nm:Bs}(h:EF L nm):nm.length<=64:=by
 have I:∀(c:UInt8) (n:Int),1<=n->n<=4611686018427387904->(c::(Lib.repeatL [48] (19-(Lib.itoa n).length)++Lib.itoa n)).length<=64:=λc n d E=>by
  rw[K9 d E,Cg,Lt];omega
 by_cases E:(Ba nm).1=1
 ·have⟨⟨a,b⟩,e⟩:=LB E;rw[<-e,II];exact I _ _ a b
 ·by_cases z:(Ba nm).1=2
  ·have⟨⟨a,b⟩,e⟩:=MV z;rw[<-e,I8];exact I _ _ a b
  ·have d:=h.1;unfold Ba at d E z;cases hx:DX [108] nm with
   | some v=>rw[hx]at E;exact absurd rfl E
   | none=>
    rw[hx]at d z;dsimp only at d z;unfold H5 at d z;cases hy:DX [115] nm with
    | some v=>rw[hy]at z;exact absurd rfl z
    | none=>
     rw[hy]at d;dsimp only at d;unfold H4 I9 at d;split at d
     ·rename_i e;subst e;decide
     ·split at d
      ·rename_i e;subst e;decide
      ·exact absurd rfl d
def A0Q{d:Int×Int}(h:EF d []):False:=h.1 (by decide)
section
variable{t t' n m:Nat}{A:Ar}{P Q:PD}{pd:gh Pu}{Ad:Nat}{o:Int}{N R:Nat}
def St.e0(h:St t A P pd Ad o false)(E:DM P t)(d:Still P)(z:t<=330000):Cm P 0 0:=by
 obtain⟨c1,c2,c3⟩:=E;refine⟨h.AW,d.1,d.2,⟨c2,by omega⟩,?_,h.di.bc.Ap,h.di.bc.Cj⟩;have:=h.pb.eF z;rw[c1];omega
def St.Vi(h:St t A P pd Ad o false)(ht:t<=118):P.Ai.length<=374/\(∀nm x,P.bs nm=some x->nm.length+x.length<=5784)/\P.bs []=none:=by
 have I:∀nm,P.bs nm≠none->EF (Ca t) nm:=λnm z=>h.di.Ai nm λe=>z (Gv.2 e);refine⟨?_,λnm x E=>?_,?_⟩
 ·rw[Js];have:=h.pb.BQ.A4;omega
 ·have h1:=TT (I nm (by rw[E];simp));have d:=Oi h.pb.BQ nm;unfold PD.sz at d;rw[E]at d;simp at d;omega
 ·cases z:P.bs [] with
  | none=>rfl
  | some x=>exact(A0Q (I [] (by rw[z];simp))).elim
def St.fM(h:St t' A P pd Ad o false)(O:∀x,Q.bs x=P.bs x)(z:Mt Q n)(hF:Fit Q n 0 m)(Y:Cm Q N R)(hn:n<=3*t'+20)(hm:m<=40*t'+1000):
 PB Q t'/\DI (Ca t') Q pd Ad o/\Reads (Ca t') Q pd o/\DM Q t':=by
 have I:∀s∈Bn Q,s=Q.D.A4:=λs E=>by
  unfold Bn at E;rw[z.AI,z.Al]at E;exact Hd.1 E
 refine⟨⟨hF.af hn (by omega) hm,z.Ap.af (by omega),by rw[z.refQ];omega,by rw[z.HI];omega⟩,⟨λs E=>?_,λs E=>?_,λs E=>?_,?_⟩,h.rd.ay O,z.AA,by rw[z.AQ];omega,by rw[z.AQ];omega⟩
 ·rw[I s E,Rk];have h1:=h.di.DP _ h.di.CG;rw[Rk]at h1;refine h1.bL λnm=>⟨λc W=>?_,λW=>Gv.1 (by rw[O];exact Gv.2 W)⟩
  have L:=O nm;unfold PD.bs at L;rw[W]at L;cases hq:Q.fl nm with
  | none=>rw[hq]at L;cases L
  | some d=>
   rw[hq]at L;exact⟨d,rfl,KB L,.inr (z.Fu nm d hq)⟩
 ·rw[I s E];exact Y.Ap
 ·rw[I s E];exact Y.Cj
 ·unfold Bn;rw[z.AI];exact Bt ..
end
section
variable{w w':ga}{t H xb sb ab b B N:Nat}{wc A9:Int}{pd:gh Pu}{Ad:Nat}{P Q:PD}{Ft FT:Nat->Prop}
def Xa(Q:PD)(pd:gh Pu)(o:Int):Prop:=Ar.aT Q=.error 7\/∃A d,Ar.aT Q=.ok (A,d)/\C4 o d pd/\∀p∈d,B8 p
def KO.dY(h:KO t H xb sb ab b wc A9 pd Ad false P w)(hd:P.D.n.AW=false)(hs:Still P)(ht:t<=118)(z first E:Int)(h1:AT z)(h2:AT first)(h3:AT E):
 Ag 40 #[A5 b,A0 z,A0 first,A0 E] w λe w'=>∃b2 Q O,e=.returned (A5 b2)/\Bf w' b2 Q O/\(∀k,O k->w.heap.size<=k/\k<w'.heap.size)/\A3 Ab w w'/\
  I1 Q 374 0 2163216/\Xa Q pd (Bo A9 1000)/\(E=0->Hu 60000 Q pd Ad (Bo A9 1000) false/\DM Q 60000/\Q.D.n.AW=false):=by
 obtain⟨L,A,FT,k1,k2,-,-,k5,-,-⟩:=h;have I:=k2.2 hd;obtain⟨Ft,d1,d2,d3,-⟩:=SF.cb k1.G9;obtain⟨f1,f2,f3⟩:=I.Vi ht;refine(A3p w d1 d2 I.pb.BQ ⟨by omega,by omega,by omega⟩ (I.e0 k5 hs (by omega)) (by omega) f2 (AJ (Gd 5784 f1) (by decide)) f3 z first E h1 h2 h3).mono ?_;rintro e w'⟨b2,Q,O,rfl,q1,q2,q3,q4,q5,⟨N2,q6⟩,q7,q8⟩;have hF:Fit Q 374 0 2163216:=q7.af f1 (Ao _) (AJ (Gd 5784 f1) (by decide));have d:=I.af (t':=60000) (by omega);have same:(∀x,Q.bs x=P.bs x)->(PB Q 60000/\DI (Ca 60000) Q pd Ad (Bo A9 1000)/\Reads (Ca 60000) Q pd (Bo A9 1000)/\DM Q 60000):=λW=>d.fM W q8 q7 q6 (by omega) (AJ (Gd 5784 f1) (by decide));have Y:Q.D.n.AW=false:=q6.AW;refine⟨b2,Q,O,rfl,q1,q2,q3,⟨hF,by decide,by decide,by decide,λnm hn=>?_⟩,?_,λhm=>?_⟩
 ·have:=TT (I.di.Ai nm λe=>by
   have h4:=Es.1 (show nm∈P.Ai by rw[<-q5];exact Es.2 hn)
   exact h4 (Gv.2 e))
  omega
 ·rcases q4 with W|⟨-,nm,l,es,aA⟩
  ·obtain⟨s1,s2,s3,s4⟩:=same W;obtain⟨A2,ps,e1,-,e3,e4⟩:=St.aT s1 s2 s3 d.pu d.B4 d.le Y (by decide);exact .inr ⟨A2,ps,e1,e3,e4⟩
  ·obtain⟨A2,ps,e1,-,e3,e4⟩:=St.aT I.pb I.di I.rd I.pu I.B4 I.le I.AW (by omega);rcases aA.aT e1 with e|e
   ·exact .inr ⟨A2,ps,e,e3,e4⟩
   ·exact .inl e
 ·rcases q4 with W|⟨hx,-⟩
  ·obtain⟨s1,s2,s3,s4⟩:=same W;refine⟨⟨s1,s2,d.pu,d.B4,d.le,.inr ⟨pd.length,d.le,Ao _,λ_=>rfl,λo' n g1 g2 g3 _=>?_⟩⟩,s4,Y⟩;(obtain rfl:n=pd.length:=by omega);rw[Cf];exact⟨s2.bP g1,s3.bP g1⟩
  ·exact absurd hm hx
def YB{a c m:Nat}(w:ga)(hd:Bf w b P Ft)(z:∀k,Ft k->k<w.heap.size)(hE:Env B w)(d:I1 P a c m)(hw:1<=wc/\wc<=4611686018427387904)(hc:AT A9)(hO:Xa P pd (Bo A9 1000))(hp:∀p∈pd,B8 p):
 Calls Tryz.prog 22 #[.pointer (some ⟨b,0,none⟩),.agg #[.int .i64 1000,.int .i64 wc],.int .i64 A9] w λe w'=>
  (e=.returned (.tuple #[.pointer none,.int .i64 7])/\A3 (λ_=>False) w w')\/
  (∃L A ab sb,e=.returned (.tuple #[.pointer (some ⟨sb,0,none⟩),.int .i64 0])/\Rel L pd 1000 A9/\Aq w Ft w' (λw' W=>SF w' sb ab b 0 1000 wc A9 false L A P W)):=by
 have ha:=d.a;have hm:=d.m;have hcc:=d.c;refine(TK w 1000 wc A9 (by decide) hw hc z (P:=P) (Ft:=Ft) (b:=b) (λA' aA h=>?_) λw1 Y=>?_).mono ?_
 ·obtain⟨sg,pl,I,rfl⟩:=A0H h;have h2:=d.B4 I;exact⟨by omega,λp hp=>(I.ok p hp).1⟩
 ·have E:=hE.aO Y;refine W9 w1 (B1.ay hd z Y) (λk O=>Bi (z k O) Y.Aj) d.BQ ⟨by omega,by omega,by omega⟩ (AJ (Ih ha hm) (by decide)) E.1 E.2.1 (λnm hn=>?_) (λix hx=>?_) (λfirst=>?_)
  ·have:=d.Lh nm (Es.1 hn);omega
  ·have I:=d.sd hx;exact⟨by omega,AJ (Ih I hm) (by decide)⟩
  ·have:=d.pd first;omega
 ·rintro e w' (⟨n,q1,rfl,q2⟩|⟨A',aA,ab,sb,q1,rfl,-,q3⟩)
  ·have:=A0K q1;subst this;exact .inl ⟨rfl,q2⟩
  ·rcases hO with hO|⟨A2,ps,e1,e2,e3⟩
   ·rw[hO]at q1;cases q1
   ·rw[e1]at q1;obtain⟨rfl,rfl⟩:=Me (Except.ok.inj q1);exact .inr ⟨_,A2,ab,sb,rfl,SM (SO 1000 A9 ps e3) hp e2,q3⟩
def YA{L:Nat->gh Pt}{A:Ar}(w:ga)(h:SF w sb ab b 0 1000 wc A9 false L A P FT)(W:Rel L pd 1000 A9)(O:∀p∈pd,B8 p)(Y:AT A9)(k:Nat)(z:k<8)(t v:Int):
 Calls Tryz.prog 37 #[.pointer (some ⟨sb,0,none⟩),.int .i64 k,.int .i64 t,.int .i64 v] w λe w'=>∃x,e=.returned (.tuple #[x,.int .i64 0])/\DT w' x (refQ pd k t v 1000 A9)/\A3 (λ_=>False) w w':=by
 obtain⟨lv,F0,q,-⟩:=h;refine(T4 w k t v q.Ah q.FK z (by decide) Y).mono ?_;rintro e w'⟨x,rfl,E,d,-⟩;rw[W.cq (λp I=>(O p I).2.1) z]at E;exact⟨x,rfl,E,d⟩
end
def H3(i:Nat):Pu:=if i % 2=0 then (0,((i/2:Nat):Int),1000+((i/2:Nat):Int)) else (1,5,((i/2:Nat):Int))
def Iy(n:Nat):gh Pt:=IB (λi=>((i:Int),1000+(i:Int))) n
def Lg(n:Nat):gh Pt:=if n=0 then [] else [(5,(n:Int)-1)]
def YC(n i:Nat)(h:i<(Iy n).length):(Iy n)[i]'h=((i:Int),1000+(i:Int)):=by
 have:∀(l:gh Pt) (d:l=(List.range n).map λ(k:Nat)=>((k:Int),1000+(k:Int))) (z:i<l.length),l[i]'z=((i:Int),1000+(i:Int)):=λl d z=>by subst d;simp
 exact this _ rfl h
def RW(i:Nat):H3 (2*i)=(0,(i:Int),1000+(i:Int)):=by unfold H3;rw[Ae (by omega),show 2*i/2=i by omega]
def RV(i:Nat):H3 (2*i+1)=(1,5,(i:Int)):=by unfold H3;rw[Aa (by omega),show (2*i+1)/2=i by omega]
def Oz(i:Nat):I6 H3 (2*(i+1))=I6 H3 (2*i)++[(0,(i:Int),1000+(i:Int))]++[(1,5,(i:Int))]:=by
 rw[show 2*(i+1)=2*i+1+1 by omega,Sh,Sh,RW,RV]
def Oy:∀n:Nat,n<=1000->refQ (I6 H3 (2*n)) 0 (-9223372036854775808) 9223372036854775807 1000 0=Iy n
 | 0,_=>rfl
 | n+1,h=>by
  rw[Oz,MO,T6 (.inl (by simp)),MO,Oy n (by omega)];unfold Iy;rw[Zb,T5 (k:=0) (p:=(0,(n:Int),1000+(n:Int))) rfl (by dsimp only;omega) (by dsimp only;omega) (by simp only[Ha];simp;omega)];exact V3 _ _ _ (Zc (f:=λi=>((i:Int),1000+(i:Int))) λi hi=>by dsimp only;omega)
def RU:∀n:Nat,refQ (I6 H3 (2*n)) 1 (-9223372036854775808) 9223372036854775807 1000 0=Lg n
 | 0=>rfl
 | n+1=>by
  rw[Oz,MO,MO,T6 (k:=1) (p:=(0,(n:Int),1000+(n:Int))) (.inl (by simp)),RU n,T5 (k:=1) (p:=(1,5,(n:Int))) rfl (by simp) (by simp) (show Ha 5 1000 0=true by decide)];unfold Lg;by_cases d:n=0
  ·subst d;rfl
  ·rw[Aa d,Aa (by omega)];unfold CE;rw[Aa (show ¬((5:Int)<5) by decide),Ae rfl];simp
def RX{i:Nat}(h:i<=1000):B8 (H3 i):=by
 unfold H3;split
 ·exact⟨⟨by simp,by simp⟩,by constructor<;>(dsimp only;omega),by constructor<;>(dsimp only;omega)⟩
 ·exact⟨⟨by simp,by simp⟩,(show AT 5 from ⟨by decide,by decide⟩),by constructor<;>(dsimp only;omega)⟩
section
variable{w w':ga}{t H xb sb ab b B N i:Nat}{wc A9 d:Int}{pd:gh Pu}{Ad:Nat}{P:PD}
def Eo(t H xb sb ab b:Nat)(wc:Int)(pd:gh Pu)(w:ga):Prop:=∃P s,KO t H xb sb ab b wc 0 pd s false P w/\P.D.n.AW=false/\Still P
def Eo.Ah(h:Eo t H xb sb ab b wc pd w):Dp w xb ⟨A5 b,A5 sb,0⟩:=by obtain⟨P,s,z,-⟩:=h;exact z.Ah
def Eo.aJ(h:Eo t H xb sb ab b wc pd w)(I:A3 Ab w w'):Eo t H xb sb ab b wc pd w':=by obtain⟨P,s,E,z⟩:=h;exact⟨P,s,E.aJ I,z⟩
def Eo.af{t':Nat}(h:Eo t H xb sb ab b wc pd w)(I:t<=t'):Eo t' H xb sb ab b wc pd w:=by obtain⟨P,s,E,z⟩:=h;exact⟨P,s,E.af I,z⟩
def Eo.ax(h:Eo t H xb sb ab b wc pd w)(O:t+1<=330000)(Y:Lets B w)(z:B<=H)(p:Pu)(hp:B8 p):
 Ag 23 #[A5 sb,A0 p.1,A0 p.2.1,A0 p.2.2] w (Am (A0 0) λw'=>A3 (Up H) w w'/\Eo (t+1) H xb sb ab b wc (pd++[p]) w'):=by
 obtain⟨P,s,E,L,h3⟩:=h;refine(E.ax L O Y z p hp).mono ?_;rintro e w'⟨cd,P2,q,rfl,I,k2,W,k4,-⟩;obtain⟨rfl,t2,t3⟩:=k4.eE h3 E.pu.2.2.2.1;obtain rfl:=k2.elim id λh=>absurd rfl h.2;exact⟨rfl,I,P2,s,W,t3,t2⟩
def Eo.cQ(z:Fy N)(hN:N<=330000)(f:Nat)(hf:X3 f)(h:Eo t H xb sb ab b wc pd w)(Y:t+1<=330000)(I:t<=N)(hL:Lets B w)(E:B<=H):
 Ag f #[A5 sb] w (Am (A0 0) λw'=>A3 (Up H) w w'/\Eo (t+1) H xb sb ab b wc pd w'):=by
 obtain⟨P,s,L,W,h3⟩:=h;refine(L.cQ z hN f hf W Y I hL E).mono ?_;rintro e w'⟨cd,P2,rfl,O,k3,k4⟩;obtain⟨rfl,t2,t3⟩:=k4.eE h3 L.pu.2.2.2.1;exact⟨rfl,O,P2,_,k3,t3,t2⟩
def Hy(d:Int)(i:Nat):Nat:=3*i+if (i:Int) % d=0 then 0 else 1
def JW(d:Int)(i:Nat):Hy d i<=3*i+1:=by unfold Hy;split<;>omega
def YE(hd:2<=d)(h:(i:Int) % d=0):Hy d i+4<=Hy d (i+1):=by
 unfold Hy;rw[Ae h,Aa]
 ·omega
 ·intro z;obtain⟨a,ha⟩:=Int.dvd_of_emod_eq_zero h;obtain⟨c,hc⟩:=Int.dvd_of_emod_eq_zero z;have I:d*(c-a)=1:=by rw[X7];omega
  have E:d ∣ 1:=⟨c-a,I.symm⟩;have:=Int.le_of_dvd (by decide) E;omega
def YD(h:¬(i:Int) % d=0):Hy d i+2<=Hy d (i+1):=by
 unfold Hy;rw[Aa h];split<;>omega
def JI(d:Int)(H xb sb ab b:Nat)(wc:Int)(i:Nat)(w:ga):Prop:=Eo (Hy d i) H xb sb ab b wc (I6 H3 (2*i)) w
def JI.dC(h:JI d H xb sb ab b wc i w)(hi:i<=40)(Y:∀w',A3 (Up H) w w'->Lets B w')(z:B<=H):
 Ag 23 #[A5 sb,A0 0,A0 (i:Int),A0 (1000+(i:Int))] w (Am (A0 0) λw'=>A3 (Up H) w w'/\Dp w' xb ⟨A5 b,A5 sb,0⟩/\
  Ag 23 #[A5 sb,A0 1,A0 5,A0 (i:Int)] w' (Am (A0 0) λI=>A3 (Up H) w I/\Eo (Hy d i+2) H xb sb ab b wc (I6 H3 (2*(i+1))) I)):=by
 have h0:=JW d i;have L:=RX (i:=2*i) (by omega);have W:=RX (i:=2*i+1) (by omega);rw[RW]at L;rw[RV]at W;refine(Eo.ax h (by omega) (Y w ((A3.I _ _))) z _ L).mono ?_;rintro e w'⟨rfl,E,O⟩;refine⟨rfl,E,O.Ah,(O.ax (by omega) (Y w' E) z _ W).mono ?_⟩;rintro e I⟨rfl,k3,k4⟩;refine⟨rfl,E.tr k3,?_⟩;rw[Oz];exact k4
def A0m{w w':ga}{v:gd}{l:gh Pt}(h:DT w v l)(E:A3 Ab w w'):DT w' v l:=Ax h λg z=>E.An g (AF h z) id
def Wt(sb:Nat)(pd:gh Pu)(k:Nat)(w:ga):Prop:=Calls Tryz.prog 37 #[.pointer (some ⟨sb,0,none⟩),.int .i64 k,.int .i64 (-9223372036854775808),.int .i64 9223372036854775807] w λe w'=>∃x,e=.returned (.tuple #[x,.int .i64 0])/\DT w' x (refQ pd k (-9223372036854775808) 9223372036854775807 1000 0)/\A3 (λ_=>False) w w'
def Eo.bt(h:Eo t H xb sb ab b wc pd w)(ht:t<=118)(aA:Fy 330000)(L:Int)(aE:AT L)(hE:Env B w)(aD:B<=H):
 Calls Tryz.prog 40 #[.pointer (some ⟨b,0,none⟩),.int .i64 0,.int .i64 0,.int .i64 0] w λe z=>∃I,e=.returned (.pointer (some ⟨I,0,none⟩))/\A3 (λ_=>False) w z/\
  Calls Tryz.prog 33 #[.pointer (some ⟨z.heap.size,0,none⟩),.int .i64 L] (z.alloc (.cells #[.pointer (some ⟨I,0,none⟩),.pointer none,.int .i64 0] 60)) λe W=>e=.returned (.bool true)/\A3 (λ_=>False) w W/\
   ∃E,W.cell? ⟨z.heap.size,1,none⟩=some (.pointer (some ⟨E,0,none⟩))/\Wt E pd 0 W:=by
 obtain⟨P,s,h1,h2,h3⟩:=h;have hH:=h1.Aj;refine(h1.dY h2 h3 ht 0 0 0 ⟨by decide,by decide⟩ ⟨by decide,by decide⟩ ⟨by decide,by decide⟩).mono ?_;rintro e z⟨I,Q,aB,rfl,q1,Y,q3,-,-,q6⟩;obtain⟨q7,q8,q9⟩:=q6 rfl;have hA:=(A3.I (λ_=>False) z).al (.cells #[.pointer (some ⟨I,0,none⟩),.pointer none,.int .i64 0] 60);have q0:=q3.Aj;have hK:KC 60000 w.heap.size z.heap.size I (.pointer none) 0 pd s false Q (z.alloc (.cells #[.pointer (some ⟨I,0,none⟩),.pointer none,.int .i64 0] 60)):=
  ⟨aB,⟨BL z _,KD.Hi _ _,B1.ay q1 (λk O=>(Y k O).2) hA,λk O=>Bi (Y k O).2 hA.Aj,λe=>by have:=Y _ e;omega,q0,λk O=>(Y k O).1⟩,q7,q8,⟨by decide,by decide⟩⟩
 have aF:A3 (λ_=>False) w (z.alloc (.cells #[.pointer (some ⟨I,0,none⟩),.pointer none,.int .i64 0] 60)):=q3.Av hA λ_ h _=>h;refine⟨I,rfl,q3,(UG aA (by decide) _ L aE hK (by decide) (by decide) (hE.aO aF) (AJ aD hH)).mono ?_⟩;rintro e W⟨rfl,k2,E,ab2,b3,m,P2,r1,-,-,-,-,r6⟩;have r7:=r6 q9;have hm:=r7.2 rfl;rw[hm,Cf]at r1;exact⟨rfl,aF.br k2 λ_ h=>h,E,r1.Ah.c1,r1.cq 0 (by decide) _ _⟩
def Eo.b7(h:Eo t H xb sb ab b wc pd w)(ht:t<=118)(O:Int)(aA:1<=O/\O<=4611686018427387904)(z first E:Int)(h1:AT z)(h2:AT first)(h3:AT E)(hE:Env B w):
 Calls Tryz.prog 40 #[.pointer (some ⟨b,0,none⟩),.int .i64 z,.int .i64 first,.int .i64 E] w λe Y=>∃b2,e=.returned (.pointer (some ⟨b2,0,none⟩))/\A3 (λ_=>False) w Y/\
  Calls Tryz.prog 22 #[.pointer (some ⟨b2,0,none⟩),.agg #[.int .i64 1000,.int .i64 O],.int .i64 0] Y λe w2=>
   (e=.returned (.tuple #[.pointer none,.int .i64 7])/\A3 (λ_=>False) w w2)\/
   (∃I,e=.returned (.tuple #[.pointer (some ⟨I,0,none⟩),.int .i64 0])/\A3 (λ_=>False) w w2/\∀w3,A3 (λ_=>False) w2 w3->∀k,k<8->Wt I pd k w3):=by
 obtain⟨P,s,g1,g2,g3⟩:=h;have hp:=g1.pu.1;refine(g1.dY g2 g3 ht z first E h1 h2 h3).mono ?_;rintro e Y⟨b2,Q,Ft2,rfl,q1,q2,q3,q4,q5,-⟩;refine⟨b2,rfl,q3,(YB Y q1 (λk W=>(q2 k W).2) (hE.aO q3) q4 aA ⟨by decide,by decide⟩ q5 hp).mono ?_⟩;rintro e w2 (⟨rfl,k2⟩|⟨L,A,ab2,I,rfl,r1,k2,FT,r2,-,-⟩)
 ·exact .inl ⟨rfl,q3.Av k2 λ_ h _=>h⟩
 ·exact .inr ⟨I,rfl,q3.br k2 λk W=>(q2 k W).1,λw3 k3 k W=>YA w3 (r2.aJ k3) r1 hp ⟨by decide,by decide⟩ k W _ _⟩
end
end
end Go.Proofs.YtodcnkbblippnaaGreatDoor
