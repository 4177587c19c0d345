/- Part 12 of a proof: walks of the program. -/
import Derived.Test.YtodcnkbblippnaaGreatDoorPart10
namespace Go.Proofs.YtodcnkbblippnaaGreatDoor
set_option maxRecDepth 100000
set_option maxHeartbeats 32000000
set_option linter.defProp false
open Go.Proofs.Tryz
section
open Go.RowKit
structure Eb (w:gC) (B0:Nat) (v:gD) (vs:gF gD) (ws:gF (gF Pu)):Prop where
 Bj:w.ownsRow 0 97 1 v ws.length vs
 ls:∀(k:Nat) (h1:k<vs.length) (h2:k<ws.length),B1 w (vs[k]'h1) (ws[k]'h2)
 lo:∀g,v.ownBlock=some g->B0<=g
 li:∀x∈vs,∀g,x.ownBlock=some g->B0<=g
 JQ:vs.Pairwise λx y=>∀g,x.ownBlock=some g->¬y.ownBlock=some g
section
variable{w w':gC}{B0:Nat}{v:gD}{vs:gF gD}{ws:gF (gF Pu)}
def Eb.Be(h:Eb w B0 v vs ws):vs.length=ws.length:=by have:=h.Bj.1;omega
def Eb.bS(w:gC)(B0:Nat):Eb w B0 (.slice none 0 0) [] []:=
 ⟨Cq _ _ _ _,λk d=>by simp at d,λg h=>by simp[Value.ownBlock]at h,λx z=>by simp at z,List.Pairwise.nil⟩
def Eb.aj{S:Nat->Prop}(h:Eb w B0 v vs ws)(O:A4 S w w')(L:∀k,S k->k<B0):Eb w' B0 v vs ws:=
 ⟨Au h.Bj λg d=>O.Al g (Aw h.Bj d) λE=>by have:=L g E;have:=h.lo g d;omega,
  λk z I=>Au (h.ls k z I) λg d=>O.Al g (Aw (h.ls k z I) d) λE=>by have:=L g E;have:=h.li _ (BT z) g d;omega,h.lo,h.li,h.JQ⟩
def Eb.aL(h:Eb w B0 v vs ws)(d:A4 Aa w w'):Eb w' B0 v vs ws:=h.aj d λ_ h=>h.elim
def Eb.lt(h:Eb w B0 v vs ws){x:gD}(E:x∈vs){g:Nat}(z:x.ownBlock=some g):g<w.heap.size:=by
 obtain⟨k,d,rfl⟩:=DD E;exact Aw (h.ls k d (by have:=h.Be;omega)) z
def Eb.ne(h:Eb w B0 v vs ws){x:gD}(E:x∈vs){g:Nat}(z:x.ownBlock=some g):¬v.ownBlock=some g:=by
 obtain⟨k,d,rfl⟩:=DD E;exact Ja (h.ls k d (by have:=h.Be;omega)) h.Bj iF z
def Eb.cA{O:gD}(h:Eb w B0 v vs ws)(L:App w w' 97 1 v O (ws.length+1) (vs++[.slice none 0 0]))(hB:B0<=w.heap.size):Eb w' B0 O (vs++[.slice none 0 0]) (ws++[[]]):=by
 have hc:=L.Am (S:=λk=>v.ownBlock=some k) λ_ h=>h;have hl:=h.Be;refine⟨?_,λk z X=>?_,λg d=>?_,λx E g d=>?_,?_⟩
 ·have e:(ws++[[]]).length=ws.length+1:=iE
  rw[e];exact L.AB
 ·by_cases I:k<ws.length
  ·rw[Fy (show k<vs.length by omega),Fy I];exact Au (h.ls k iC I) λg d=>hc.Al g (Aw (h.ls k iC I) d) (h.ne (BT iC) d)
  ·have e1:(vs++[Value.slice none 0 0])[k]'z=.slice none 0 0:=by
    (have:k=vs.length:=by simp at z;omega);subst this;simp
   have e2:(ws++[[]])[k]'X=[]:=by
    (have:k=ws.length:=by simp at X;omega);subst this;simp
   rw[e1,e2];exact Cq _ _ _ _
 ·rcases L.BX with z|z
  ·rw[z]at d;exact h.lo g d
  ·rw[z]at d;cases d;exact hB
 ·rcases AX.1 E with E|E
  ·exact h.li x E g d
  ·simp at E;subst E;simp[Value.ownBlock]at d
 ·exact EL.2 ⟨h.JQ,NQ _ _,λx _ y Y g _ d=>by simp at Y;subst Y;simp[Value.ownBlock]at d⟩
def Eb.fM{d:gF (gF Pu)}{z:gF gD}{lv:gD}{l l':gF Pu}(h:Eb w B0 v (z++[lv]) (d++[l]))(hc:A4 (λk=>lv.ownBlock=some k) w w')(hl:B1 w' lv l'):Eb w' B0 v (z++[lv]) (d++[l']):=by
 have I:=h.Be;have hln:z.length=d.length:=by simpa using I
 refine⟨?_,λk h1 h2=>?_,h.lo,h.li,h.JQ⟩
 ·have e:(d++[l']).length=(d++[l]).length:=iE
  rw[e];exact Au h.Bj λg E=>hc.Al g (Aw h.Bj E) λY=>h.ne (x:=lv) iE Y E
 ·by_cases hk:k<d.length
  ·(have O:k<(d++[l]).length:=by simp;omega);have X:=h.ls k h1 O;rw[Fy hk]at X ⊢;refine Au X λg E=>hc.Al g (Aw X E) λY=>?_;rw[Fy (show k<z.length by omega)]at E;exact(EL.1 h.JQ).2.2 _ (BT (show k<z.length by omega)) lv iE g E Y
  ·(have L:k=d.length:=by simp at h2;omega);(have e2:(d++[l'])[k]'h2=l':=by subst L;simp);have e1:(z++[lv])[k]'h1=lv:=by
    (have:k=z.length:=iC);subst this;simp
   rw[e1,e2];exact hl
def Eb.fy{O n0 L:Nat}{z:gF (gF Pu)}{d:gF gD}{lv lv':gD}{l l':gF Pu}(h:Eb w B0 (.slice (some ⟨O,0,none⟩) n0 L) (d++[lv]) (z++[l]))(hc:A4 (λk=>lv.ownBlock=some k) w w')(hl:B1 w' lv' l')(ho:∀g,lv'.ownBlock=some g->lv.ownBlock=some g\/w.heap.size<=g)(hB:B0<=w.heap.size):
 Eb (w'.setCell ⟨O,d.length,none⟩ lv') B0 (.slice (some ⟨O,0,none⟩) n0 L) (d++[lv']) (z++[l']):=by
 have aB:=h.Be;have hln:d.length=z.length:=by simpa using aB
 have aJ:n0=(z++[l]).length:=by
  have⟨a',c',e,_⟩:=B8 h.Bj;cases e;rfl
 subst aJ;have hg0:=Aw h.Bj rfl;have X:=Au h.Bj λg E=>hc.Al g (Aw h.Bj E) λI=>h.ne (x:=lv) iE I E;have aK:∀g,lv'.ownBlock=some g->g≠O:=λg E e=>by
  subst e;exact Ja hl X iF E rfl
 have kz:A4 (One O) w' (w'.setCell ⟨O,d.length,none⟩ lv'):=(A4.C (One O) w').an (b:=O) rfl _ _;have aA:=(X.stored d.length lv').1;have aD:(d++[lv]).set d.length lv'=d++[lv']:=by rw[Jj _ _ (An _)];simp
 rw[aD]at aA;refine⟨?_,λk Y h2=>?_,h.lo,λx I g E=>?_,?_⟩
 ·have e:(z++[l']).length=(z++[l]).length:=iE
  rw[e];exact aA
 ·by_cases hk:k<z.length
  ·(have aI:k<(d++[lv]).length:=by simp;omega);(have aH:k<(z++[l]).length:=by simp;omega);have h3:=h.ls k aI aH;rw[Fy hk,Fy (show k<d.length by omega)]at h3 ⊢;have aE:d[k]' iC∈d++[lv]:=AX.2 (.inl (BT iC));refine Au h3 λg E=>?_;have b1:=hc.Al g (Aw h3 E) λI=>(EL.1 h.JQ).2.2 _ (BT (show k<d.length by omega)) lv iE g E I
   have b2:=kz.Al g (Bp (Aw h3 E) hc.Ak) λe=>h.ne aE E (by have e':=e;subst e';rfl);rw[b2,b1]
  ·(have aF:k=z.length:=by simp at h2;omega);(have e2:(z++[l'])[k]'h2=l':=by subst aF;simp);have e1:(d++[lv'])[k]'Y=lv':=by
    (have:k=d.length:=iC);subst this;simp
   rw[e1,e2];exact Au hl λg E=>kz.Al g (Aw hl E) (aK g E)
 ·rcases AX.1 I with I|I
  ·exact h.li x (AX.2 (.inl I)) g E
  ·simp at I;subst I;rcases ho g E with Y|Y
   ·exact h.li lv iE g Y
   ·omega
 ·have⟨d1,d2,d3⟩:=EL.1 h.JQ;refine EL.2 ⟨d1,NQ _ _,λx I y hy g E aG=>?_⟩;simp at hy;subst hy;rcases ho g aG with Y|Y
  ·exact d3 x I lv iE g E Y
  ·have:=h.lt (AX.2 (.inl I)) E;omega
end
def X2(len:Int)(l:gF Pu)(i:Nat)(z:i<l.length)(d:Bool)(h:Pu)(ws:gF (gF Pu)):
 ED len (l.drop i) d h ws=ED len (l.drop (i+1)) false (l[i]'z) (EZ len ws d h (l[i]'z)):=by
 rw[FY z];rfl
def Hn(d:gF (gF Pu))(h:gF Pu)(p:Pu):gF (gF Pu):=
 if h≠[]/\Cx p (h.getLastD (0,0,0))=0 then d++[h.dropLast++[p]] else d++[h++[p]]
def R6(len:Int)(ws:gF (gF Pu))(d:Bool)(z p:Pu)(h:d=true\/BH p.2.1 len≠BH z.2.1 len):EZ len ws d z p=Hn ws [] p:=by
 unfold EZ Hn;dsimp only
 rw[Ai h];simp
def X5(len:Int)(d:gF (gF Pu))(l:gF Pu)(z p:Pu)(h:BH p.2.1 len=BH z.2.1 len):EZ len (d++[l]) false z p=Hn d l p:=by
 have e:(if (false=true\/BH p.2.1 len≠BH z.2.1 len) then (d++[l])++[[]] else d++[l])=d++[l]:=Af (by simp[h]);have E:(d++[l]).getLastD []=l:=by rw[KX];simp
 have I:(d++[l]).dropLast=d:=iE
 unfold EZ Hn;simp only[e,E,I]
end
section
open Go.RowKit
attribute [local go_sem ↓] CL
def Tryz.fN:(Tryz.prog.info? 97).map (λi=>(i.zero,i.size,i.bytes))=some (some (.slice none 0 0),1,24):=by kernel_rfl
def SR:∃d,Tryz.prog.info? 97=some d/\d.zero=some (.slice none 0 0)/\d.size=1/\d.bytes=24:=by
 have h:=Tryz.fN;cases hx:Tryz.prog.info? 97 with
 | none=>rw[hx]at h;cases h
 | some i=>rw[hx]at h;simp at h;exact⟨i,rfl,h.1,h.2.1,h.2.2⟩
section
variable{N:Nat}
def Uz(hS:FR N)(hN:N<=134217728)(w:gC)(v:gD)(len:Int)(l:gF Pu)(hl:l.length<=N)(h:B1 w v l)(hT:∀p∈l,Ay p.2.1)(bI:1<=len/\len<=4611686018427387904):
 Ag 109 #[v,A0 len] w λe w'=>∃v' vs,e=.returned v'/\Eb w' w.heap.size v' vs (C3 len l)/\A4 Aa w w':=by
 obtain⟨i0,hi,fK,fC,fE⟩:=SR;obtain⟨j0,hj,fN,fG,e0⟩:=DQ J5;have k0:A4 Aa w (w.alloc (.cells #[A0 len] 3)):=(A4.C _ w).ai _;have dT:(w.alloc (.cells #[A0 len] 3)).heap[w.heap.size]?=some (.cells #[A0 len] 3 (0,0)):=Bn w _;have fR:=A1 (A3h _ v l (Au h λg hg=>k0.Al g (Aw h hg) (λh=>h)) iC);have fY:=A1 k0;have fL:=A1 dT;have dO:Hid ((w.alloc (.cells #[A0 len] 3)).heap.size=w.heap.size+1):=by unfold Hid;simp
 have cI:Hid (∀wx vx,B1 wx vx l->A7 wx w.heap.size 0 (A0 len)->(∀g,vx.ownBlock=some g->w.heap.size≠g)->_):=λwx vx h1 h2 h3=>hS wx vx w.heap.size len l hl h1 hT bI h2 h3;have cB:Hid (C3 len l=ED len (Ev (AE len) l) true (0,0,0) []):=rfl;have cA:∀p∈Ev (AE len) l,Ay p.2.1:=λp hp=>hT p (((Gi len).cH l).bH.DG (Gi len) hp);have cU:(Ev (AE len) l).length=l.length:=RL l;obtain⟨R,hR⟩:=iG (C3 len l);rw[hR]at cB ⊢;obtain⟨X,dU⟩:=iG (Ev (AE len) l);rw[dU]at cB cA cU cI;have eK:=A1 cA;have b9:=A1 bI;have hsn:X.length<=134217728:=iC
 have fO:=A1 cU;clear hR dU h hT k0 dT cA hS hl bI cU
 go_enter func109,ntmps109
 go_wp2_with (fail);refine fR.m ?_;rintro e w1⟨v1,rfl,eM,cN,cH⟩;have c1:A7 w1 w.heap.size 0 (A0 len):=cH.ad (by simp only[World.cell?,fL.o];rfl);have dV:=A1 (cI.o w1 v1 eM c1 (λg hg=>by have:=cN g hg;have:=dO.o;omega));have fZ:Hid (A4 Aa w w1):=fY.o.tr cH;have dF:Hid (∀g,v1.ownBlock=some g->w.heap.size<g):=λg hg=>by have:=cN g hg;have:=dO.o;omega
 have fQ:=A1 c1;clear eM cN cH c1 fR cI;go_wp2_with (fail);refine dV.k ?_;rintro w2⟨cC,cV⟩;have e2:X.length=l.length:=fO.o;obtain⟨sa,scap,rfl,s1,s2,s3,-⟩:=B8 cC;unfold maxLen at s2;have c2:A7 w2 w.heap.size 0 (A0 len):=cV.bI fQ.o (λh=>FV _ (dF.o _ h));have gB:Hid (A4 Aa w w2):=fZ.o.AF cV λx L bC=>by have:=dF.o x L;omega
 have cD:=A1 cC;have fV:=A1 c2;have fU:Hid (w.heap.size<w2.heap.size):=GV w2 _ c2;have e3:=A1 s3;clear cC cV dV fQ c2 e2 s3;have eD:Hid (∀wx,A4 Aa w2 wx->∀i (hi:i<X.length),∃g,sa=some (A9 g 0)/\A7 wx g (i*3) (A0 (X[i]'hi).1)/\A7 wx g (i*3+1) (A0 (X[i]'hi).2.1)/\A7 wx g (i*3+2) (A0 (X[i]'hi).2.2)):=λwx L i hi=>by
  obtain⟨g,rfl⟩:=e3.o iC;obtain⟨q1,q2,q3⟩:=HK X i hi;exact⟨g,rfl,L.ad (Bu cD.o rfl q1),L.ad (Bu cD.o rfl q2),L.ad (Bu cD.o rfl q3)⟩
 go_wp2;go_loopw [6,18] (λv6 iv wr=>∃(i:Nat) (ws:gF (gF Pu)) (vs:gF gD),iv=A0 i/\i<=X.length/\Hid (Eb wr w2.heap.size v6 vs ws/\A4 Aa w2 wr/\ws.length<=i/\(∀x∈ws,x.length<=i)/\(0<i->∃a0 l0,ws=a0++[l0]/\l0≠[])/\R=ED len (X.drop i) (decide (i=0)) (if i=0 then (0,0,0) else X.getD (i-1) (0,0,0)) ws)) (λ_ iv _=>X.length-(intOf iv).toNat)
 ·exact⟨0,[],[],rfl,iC,Eb.bS _ _,A4.C _ _,An _,λx L=>by simp at L,λh=>absurd h (FV 0),by simpa using cB.o⟩
 ·obtain⟨i,ws,vs,rfl,hii,hI⟩:=hrel;by_cases aT:i<X.length
  case neg=>
   (obtain rfl:i=X.length:=iC);obtain⟨i1,i2,i3,i4,i5,i6⟩:=hI.o;rw[H5]at i6;have fP:R=ws:=i6;subst fP;have aP:=A1 i1;have dC:=A1 i2;(have eV:¬((X.length:Int)<(X.length:Int)):=iC);clear i1 i2 i3 i4 i5 i6 hI;obtain⟨ap,cp,rfl,hcap1,hcap2,-⟩:=B8 aP.o.Bj;go_wp2;go_ret;exact⟨_,rfl,⟨vs,aP.o.Bj,aP.o.ls,λg hg=>Fu (Bp fU.o (aP.o.lo g hg)),λx L g hg=>Fu (Bp fU.o (aP.o.li x L g hg)),aP.o.JQ⟩,gB.o.tr dC.o⟩
  case pos=>
   obtain⟨i1,i2,i3,i4,i5,i6⟩:=hI.o;obtain⟨g,rfl,p1,p2,p3⟩:=eD.o wr i2 i aT;rw[X2 len X i aT]at i6;have cP:=eK.o _ (BT aT);obtain⟨p,hp⟩:=iG ((X[i]'aT));rw[hp]at p1 p2 p3 i6 cP;obtain⟨I,E,pc⟩:=p;dsimp only at p1 p2 p3 cP;have cS:Cg (wr.alloc (.cells #[A0 I,A0 E,A0 pc] 113)) wr.heap.size I E pc:=Bn wr _;have kp:A4 Aa wr (wr.alloc (.cells #[A0 I,A0 E,A0 pc] 113)):=(A4.C _ wr).ai _;have eV:(i:Int)<(X.length:Int):=iC;have hk0:=BJ i;have aP:=A1 i1;have dC:=A1 i2;have eF:=A1 i3;have dJ:=A1 i4;have fT:=A1 i5;have fM:Hid (w2.heap.size<=wr.heap.size):=i2.Ak;have a4:=A1 cS;have aZ:=A1 kp;(have eS:Hid (∀k:Nat,k<=i->(k+1)*24<=140737488355328):=λk hk=>iC);have aX:Hid (∀cG,EZ len ws (decide (i=0)) (if i=0 then (0,0,0) else X.getD (i-1) (0,0,0)) (I,E,pc)=cG->R=ED len (X.drop (i+1)) (decide (i+1=0)) (if i+1=0 then (0,0,0) else X.getD (i+1-1) (0,0,0)) cG):=λcG h=>by
    (have eT:X.getD i (0,0,0)=(I,E,pc):=by rw[HY,Dx aT,hp];rfl);rw[Af (Nat.succ_ne_zero i),A4F,eT,i6,h];simp
   obtain⟨a7,a2,e6,bZ,eN,dL,-⟩:=B8 i1.Bj;have dY:=A1 dL;clear dL;unfold maxLen at eN;obtain⟨pk,aY⟩:=iG wr.heap.size;rw[aY]at a4 fM;have aM:=A1 aY;by_cases aJ:i=0
   focus
    subst e6;(have hz:((i:Int)==0)=true:=by simp[aJ]);have aL:Hid (EZ len ws (decide (i=0)) (if i=0 then (0,0,0) else X.getD (i-1) (0,0,0)) (I,E,pc)=Hn ws [] (I,E,pc)):=R6 len ws _ _ _ (.inl (by simp[aJ]));clear hI i1 i2 i3 i4 i5 i6 cS kp hp aY aJ;go_wp2;rw[aM.o];go_quiet (fail);have aG:=A1 (aP.o.aL (aZ.o.a7 nq));have aA:=A1 (a4.o.aj ((A4.C Aa _).a7 nq) (λh=>h));have dB:=A1 (dC.o.tr (aZ.o.a7 nq));generalize ((wr.alloc (.cells #[A0 I,A0 E,A0 pc] 113)).drewN nq)=wY at aG aA dB ⊢
   rotate_left
   focus
    obtain⟨P,cQ⟩:=iH (i-1);have bD:P<X.length:=iC;obtain⟨gq,fH,q1,q2,q3⟩:=eD.o wr i2 P bD;cases fH;have bR:=eK.o _ (BT bD);(have bK:X.getD P (0,0,0)=X[P]'bD:=by rw[HY,Dx bD];rfl);obtain⟨q,hq⟩:=iG ((X[P]'bD));rw[hq]at q2 bR bK;obtain⟨qa,qb,qc⟩:=q;dsimp only at q2 bR;have bG:=A1 (λwx=>Ob wx E len cP b9.o);have bE:=A1 (λwx=>Ob wx qb len bR b9.o);have aN:Hid (BH E len≠BH qb len->EZ len ws (decide (i=0)) (if i=0 then (0,0,0) else X.getD (i-1) (0,0,0)) (I,E,pc)=Hn ws [] (I,E,pc)):=λh=>by
     rw[Af aJ,<-cQ,bK];exact R6 len ws _ _ _ (.inr h)
    have aH:Hid (∀a0 l0,ws=a0++[l0]->BH E len=BH qb len->EZ len ws (decide (i=0)) (if i=0 then (0,0,0) else X.getD (i-1) (0,0,0)) (I,E,pc)=Hn a0 l0 (I,E,pc)):=λa0 l0 e h=>by
     rw[Af aJ,<-cQ,bK,CO aJ,e];exact X5 len a0 l0 _ _ h
    (have hz:((i:Int)==0)=false:=by simpa using aJ);obtain⟨dD,eH⟩:=iG (BH E len);obtain⟨eQ,dS⟩:=iG (BH qb len);rw[eH]at bG aN aH;rw[dS]at bE aN aH;(have eP0:IntKind.i64.wrap ((i:Int)-1)=(P:Int):=by simp[IntKind.wrap,IntKind.bits,IntKind.signed];omega);(have eP1:wrap64 ((i:Int)-1)=(P:Int):=by unfold wrap64;omega);have hP0:=BJ P;have hPn:(P:Int)<(X.length:Int):=iC;have eR:=A1 (aZ.o.ad q2);(have dR:Hid (0<i):=by unfold Hid;omega);have bU:=A1 (aZ.o.ad (i2.ad fV.o));clear hI i1 i2 i3 i4 i5 i6 cS kp hp aY aJ cQ bR bK hq q1 q2 q3 eH dS;by_cases bL:dD=eQ
   rotate_left
   focus
    subst e6;(have eW:(dD !=eQ)=true:=by simpa using bL);have aL:=A1 (aN.o bL);clear bL aN aH;go_wp2;rw[aM.o];generalize wr.alloc (.cells #[A0 I,A0 E,A0 pc] 113)=wA at a4 aZ eR bU ⊢;have aG:=A1 (aP.o.aL aZ.o.aa);have aA:=A1 a4.o.aa;have dB:=A1 (dC.o.tr aZ.o.aa);have z1:=aA.o.c1;have z2:A7 wA.drew g (P*3+1) (A0 qb):=eR.o;have z3:A7 wA.drew w.heap.size 0 (A0 len):=bU.o;refine Bq (λw'=>A7 w' pk 1 (A0 E)/\A7 w' g (P*3+1) (A0 qb)/\A7 w' w.heap.size 0 (A0 len)) 18
     (Ba [0,1,2,3,4,5,6,8,9,10,11,12,13,14,15,7,16,17] [7,16]) ⟨z1,z2,z3⟩ ?_
    iterate 15 refine B4 ?_
    refine Bf λK hK=>?_;go_simp;refine(bG.o _).k ?_;rintro w3 rfl;refine hK _ _ ⟨z1,z2,z3⟩ (λhS=>?_);clear hK K hS;refine Bf λK hK=>?_;go_simp;refine(bE.o _).k ?_;rintro w3 rfl;refine hK _ _ ⟨z1,z2,z3⟩ (λhS=>?_);clear hK K hS bG bE;refine B4 ?_;refine Bl ?_;generalize wA.drew=wY at aG aA dB z1 z2 z3 ⊢;clear z1 z2 z3
   rotate_left 2
   focus
    subst bL;have eW:(dD !=dD)=false:=iE;obtain⟨ws,d,rfl,aK⟩:=fT.o dR.o;have aL:=A1 (aH.o ws d rfl rfl);have bO:(ws++[d]).length=ws.length+1:=iE;have cE:=aP.o.Be;obtain⟨vs,lv,rfl⟩:∃fJ lv,vs=fJ++[lv]:=by
     (have dZ:vs≠[]:=by intro h;subst h;simp at cE);exact⟨vs.dropLast,vs.getLast dZ,(NZ dZ).symm⟩
    (have aS:vs.length=ws.length:=by simpa using cE);have aU:B1 wr lv d:=by
     have h1:=aP.o.ls vs.length iE (by simp;omega);have e1:(vs++[lv])[vs.length]' iE=lv:=iE;(have e2:(ws++[d])[vs.length]'(by simp;omega)=d:=by rw[Gj iC];simp[aS]);rw[e1,e2]at h1;exact h1
    obtain⟨la,z,rfl,l1,l2,l3,-⟩:=B8 aU;obtain⟨Y,rfl⟩:=l3 (K4.2 aK);unfold maxLen at l2;obtain⟨l0,q0,aV⟩:∃l0 q0,d=l0++[q0]:=⟨d.dropLast,d.getLast aK,(NZ aK).symm⟩;obtain⟨O,bM⟩:=iH l0.length;(have cX:d.length=O+1:=by rw[aV,bM];simp);rw[bO]at e6 bZ;subst e6;obtain⟨g0,rfl⟩:=dY.o (by rw[bO];omega);obtain⟨c1,c2,c3⟩:=HK d O iC;(have eO:d[O]' iC=q0:=by subst aV;rw[Gj iC];simp[bM]);rw[eO]at c1 c2 c3;have b0:Hid (d.length<=i):=dJ.o d iE;(have bH:Hid (ws.length+1<=i+1):=by have:=eF.o;rw[bO]at this;unfold Hid;omega);have fS:Hid (∀wx,A4 Aa wr wx->A7 wx g0 ws.length (AA Y (O+1) z)/\A7 wx Y (O*3) (A0 q0.1)/\A7 wx Y (O*3+1) (A0 q0.2.1)/\A7 wx Y (O*3+2) (A0 q0.2.2)):=λwx L=>
     ⟨L.ad (by rw[<-aS,<-cX];exact Bu aP.o.Bj rfl (by rw[Il (An _)];simp)),L.ad (Bu aU rfl c1),L.ad (Bu aU rfl c2),L.ad (Bu aU rfl c3)⟩
    have fI:Hid (Y≠pk):=by
     have h1:=Aw aU (g:=Y) rfl;have h2:=aM.o;unfold Hid;omega
    have dW:=A1 (λwx=>OQ wx (I,E,pc) q0);have bQ:Hid (¬Cx (I,E,pc) q0=0->Hn ws d (I,E,pc)=ws++[d++[(I,E,pc)]]):=λh=>by
     unfold Hn;rw[Af];rintro⟨-,h2⟩;rw[aV]at h2;simp at h2;exact h h2
    have bS:Hid (Cx (I,E,pc) q0=0->Hn ws d (I,E,pc)=ws++[l0++[(I,E,pc)]]):=λh=>by
     unfold Hn;rw[Ai ⟨aK,by rw[aV];simpa using h⟩,aV];simp
    obtain⟨cc,cF⟩:=iG (Cx (I,E,pc) q0);rw[cF]at bQ bS;have eY:=A1 aV;have e9:=A1 bM;have e5:=A1 cX;have b8:=A1 aU;(have fD:O+1<=i:=by have:=dJ.o d iE;omega);have hgt:(0:Int)<(O:Int)+1:=iC;(have em:IntKind.i64.wrap (O:Int)=(O:Int):=by simp[IntKind.wrap,IntKind.bits,IntKind.signed];omega);(have em0:IntKind.i64.wrap ((O:Int)+1-1)=(O:Int):=by rw[K9];exact em);(have em1:wrap64 ((O:Int)+1-1)=(O:Int):=by unfold wrap64;omega);have hm00:=BJ O;have hm01:(O:Int)<(O:Int)+1:=iC;(have bP:IntKind.i64.wrap (ws.length:Int)=(ws.length:Int):=by have:=bH.o;simp[IntKind.wrap,IntKind.bits,IntKind.signed];omega);(have dG:IntKind.i64.wrap ((ws.length:Int)+1-1)=(ws.length:Int):=by rw[K9];exact bP);(have dN:wrap64 ((ws.length:Int)+1-1)=(ws.length:Int):=by have:=bH.o;unfold wrap64;omega);have eP:(0:Int)<=(ws.length:Int):=GA _;have dP:(ws.length:Int)<(ws.length:Int)+1:=iC;obtain⟨eJ,dH,dI⟩:=q0;unfold DO at dW;dsimp only at fS dW;rw[cF]at dW;clear aN aH aK cE aS aU l1 l3 aV bM cX c1 c2 c3 eO bO cF bZ dY fT fD;go_wp2;rw[aM.o];generalize wr.alloc (.cells #[A0 I,A0 E,A0 pc] 113)=wA at a4 aZ eR bU ⊢;have aG:=A1 (aP.o.aL aZ.o.aa);have aA:=A1 a4.o.aa;have dB:=A1 (dC.o.tr aZ.o.aa);have z1:=aA.o.c1;have z2:A7 wA.drew g (P*3+1) (A0 qb):=eR.o;have z3:A7 wA.drew w.heap.size 0 (A0 len):=bU.o;refine Bq (λw'=>A7 w' pk 1 (A0 E)/\A7 w' g (P*3+1) (A0 qb)/\A7 w' w.heap.size 0 (A0 len)) 18
     (Ba [0,1,2,3,4,5,6,8,9,10,11,12,13,14,15,7,16,17] [7,16]) ⟨z1,z2,z3⟩ ?_
    iterate 15 refine B4 ?_
    refine Bf λK hK=>?_;go_simp;refine(bG.o _).k ?_;rintro w3 rfl;refine hK _ _ ⟨z1,z2,z3⟩ (λhS=>?_);clear hK K hS;refine Bf λK hK=>?_;go_simp;refine(bE.o _).k ?_;rintro w3 rfl;refine hK _ _ ⟨z1,z2,z3⟩ (λhS=>?_);clear hK K hS bG bE;refine B4 ?_;refine Bl ?_;have aO:=A1 (λwx (L:A4 Aa wA wx)=>fS.o wx (aZ.o.tr L));have oc:=(aO.o wA.drew (A4.C _ wA).aa).1;go_wp2;have gA:=(aO.o wA.drew.drew (A4.C _ wA).aa.aa);have f0:=aA.o.aa.c0;have f1:=aA.o.aa.c1;have f2:=aA.o.aa.c2;obtain⟨d0,d1,d2,d3⟩:=gA;refine Bq (λw'=>A7 w' g0 ws.length (AA Y (O+1) z)/\A7 w' Y (O*3) (A0 eJ)/\A7 w' Y (O*3+1) (A0 dH)/\A7 w' Y (O*3+2) (A0 dI)/\A7 w' pk 0 (A0 I)/\A7 w' pk 1 (A0 E)/\A7 w' pk 2 (A0 pc)) 13
     (Ba [0,1,2,3,4,5,6,7,8,9,10,11,12] [11]) ⟨d0,d1,d2,d3,f0,f1,f2⟩ ?_
    iterate 11 refine B4 ?_
    refine Bf λK hK=>?_;go_simp;refine(dW.o _).k ?_;rintro wX cZ;have k6:A4 Aa wA wX:=((A4.C Aa wA).aa.aa).tr cZ;have bA:=aA.o.aj ((A4.C Aa wA.drew).aa.tr cZ) (λh=>h);refine hK _ _ ⟨(aO.o wX k6).1,(aO.o wX k6).2.1,(aO.o wX k6).2.2.1,(aO.o wX k6).2.2.2,bA.c0,bA.c1,bA.c2⟩ (λhS=>?_);have bT:=A1 (aP.o.aL (aZ.o.tr k6));have eA:=A1 (dC.o.tr (aZ.o.tr k6));have aF:=A1 bA;have cL:=A1 k6;have a6:Hid (B1 wX (AA Y d.length z) d):=Au b8.o λg hg=>(aZ.o.tr k6).Al g (Aw b8.o hg) (λh=>h)
    clear hK K hS cZ k6 bA f0 f1 f2 d0 d1 d2 d3 oc z1 z2 z3 dW aG aA dB;by_cases a3:cc=0
    ·(have fB:(cc==0)=true:=by simpa using a3);have aB:=A1 (aL.o.trans (bS.o a3));have a9:=A1 (aX.o _ aB.o);clear a3 bS bQ aL aX aB;refine B4 ?_;refine Bl ?_;go_wp2;obtain⟨d0,d1,d2,d3⟩:=aO.o wX.drew cL.o.aa;have f0:=aF.o.aa.c0;have f1:=aF.o.aa.c1;have f2:=aF.o.aa.c2;refine Bq (λw'=>A7 w' g0 ws.length (AA Y (O+1) z)/\A7 w' Y (O*3) (A0 eJ)/\A7 w' Y (O*3+1) (A0 dH)/\A7 w' Y (O*3+2) (A0 dI)/\A7 w' pk 0 (A0 I)/\A7 w' pk 1 (A0 E)/\A7 w' pk 2 (A0 pc)) 6
      (Ba [0,1,2,3,4,5] []) ⟨d0,d1,d2,d3,f0,f1,f2⟩ ?_
     iterate 6 refine B4 ?_
     refine Bl ?_;have fz:∀o,wX.drew.frozen? (A9 Y o)=false:=λo=>ER (a6.o:wX.drew.ownsRow 0 113 3 (AA Y d.length z) d.length (B5 d)) rfl o;obtain⟨-,b1,b2,b3⟩:=aO.o wX cL.o;have fy:∀o,wX.frozen? (A9 Y o)=false:=λo=>ER a6.o rfl o;(have eI:O<d.length:=by rw[e5.o];exact Wb _);have eZ:=B1.bw (w:=wX) (g:=Y) (n:=d.length) (cap:=z) (l:=d) a6.o O eI (I,E,pc);have a5:d.set O (I,E,pc)=l0++[(I,E,pc)]:=by
      rw[eY.o,e9.o,Jj _ _ (An _)];simp
     (have cJ:(l0++[(I,E,pc)]).length=d.length:=by rw[<-a5,HX]);rw[a5]at eZ;(have kc:A4 (λk=>(AA Y d.length z).ownBlock=some k) wX (((wX.sC Y (O*3) (A0 I)).sC Y (O*3+1) (A0 E)).sC Y (O*3+2) (A0 pc)).drew:=(((((A4.C (One Y) wX).an (b:=Y) rfl _ _).an (b:=Y) rfl _ _).an (b:=Y) rfl _ _).aa).ah (S':=λk=>(AA Y d.length z).ownBlock=some k) λk _ h=>by cases h;rfl);have aE:=A1 (bT.o.fM kc (l':=l0++[(I,E,pc)]) (by unfold B1;rw[cJ];exact Au eZ λ_ _=>rfl));have fW:=A1 (eA.o.AF (S':=λk=>(AA Y d.length z).ownBlock=some k) kc λy hy bC=>absurd bC (W8.2 (bT.o.li (AA Y d.length z) iE y hy)));(have e7:Hid ((l0++[(I,E,pc)]).length<=i+1):=by rw[cJ];exact JZ b0.o);clear eZ a5 cJ kc eI a6 cL f0 f1 f2;go_wp2;go_roundw
     ·exact⟨i+1,ws++[l0++[(I,E,pc)]],vs++[AA Y d.length z],by go_num,aT,aE.o,fW.o,(by rw[B3];exact bH.o),(λx L=>(AX.1 L).elim (λL=>JZ (dJ.o x (AX.2 (.inl L)))) (λL=>by rw[Ij.1 L];exact e7.o)),λ_=>⟨ws,_,rfl,iE⟩,a9.o⟩
     ·simp[intOf];omega
    (have fB:(cc==0)=false:=by simpa using a3);have aB:=A1 (aL.o.trans (bQ.o a3));clear a3 bS bQ aL;obtain⟨la,aR⟩:∃la:Option Addr,la=some (A9 Y 0):=⟨_,rfl⟩;(have cY:Hid (Eb wX w2.heap.size (AA g0 (ws.length+1) a2) (vs++[.slice la d.length z]) (ws++[d])):=by subst aR;exact bT.o);have eG:Hid (∀x∈ws++[d],x.length<=i):=dJ.o;have cO:Hid (d.length<=i):=b0.o;have bV:Hid (¬(Value.slice la d.length z).ownBlock=some pk):=λh=>by
     rw[aR]at h;cases h;exact fI.o rfl
    clear aR a6 bT;refine B4 ?_;refine Bl ?_
   rotate_left
   iterate 2
    focus
     have bB:Hid ((wY.alloc (.cells #[.slice none 0 0] 97)).ownsRow 0 97 1 (.slice a7 ws.length a2) ws.length vs):=Au aG.o.Bj λg hg=>((A4.C Aa wY).ai _).Al g (Aw aG.o.Bj hg) (λh=>h)
     have bW:=A1 (Src.bb (size:=1) (B:=wY.heap.size) underlying174 wY #[.slice none 0 0] 97 iE 1 1 rfl (by simp[Value.oneCell']));have cM:=A1 (dB.o.ai (.cells #[.slice none 0 0] 97));have b4:=A1 (aG.o.aL ((A4.C Aa wY).ai (.cells #[.slice none 0 0] 97)));have bX:=A1 (aA.o.aj ((A4.C Aa wY).ai (.cells #[.slice none 0 0] 97)) (λh=>h));(have bY:Hid ((ws.length+1)*24<=140737488355328):=by have h1:=eF.o;unfold Hid;omega);have dM:Hid (∀g,(Value.slice a7 ws.length a2).ownBlock=some g->pk≠g):=λg hg e=>by
      subst e;have:=Aw aP.o.Bj hg;have h2:=aM.o;omega
     (have bP:IntKind.i64.wrap (ws.length:Int)=(ws.length:Int):=by have:=eF.o;simp[IntKind.wrap,IntKind.bits,IntKind.signed];omega);(have dG:IntKind.i64.wrap ((ws.length:Int)+1-1)=(ws.length:Int):=by rw[K9];exact bP);(have dN:wrap64 ((ws.length:Int)+1-1)=(ws.length:Int):=by have:=eF.o;unfold wrap64;omega);have eP:(0:Int)<=(ws.length:Int):=GA _;have dP:(ws.length:Int)<(ws.length:Int)+1:=iC;go_wp2_with (at_builtin;refine CX rfl (.tmp 42) (.tmp 43) 174 174 rfl 97 i0 _ 1 24 underlying174 hi fK fC fE rfl iF (.slice a7 ws.length a2) ws.length vs (by rfl) bB.o _ 1 _ (by rfl) bW.o bY.o ?_;intro a8 aD w8 hA;have dQ:=A1 hA;clear hA;obtain⟨a8',c8',e8,r1,r2,r3,-⟩:=B8 dQ.o.AB;cases e8;obtain⟨g0,rfl⟩:=r3 (Nat.succ_pos _);clear r3;have e4:A7 w8 g0 ws.length (.slice none 0 0):=Bu dQ.o.AB rfl (by rw[<-aG.o.Be,Il (An _)];simp));go_quiet (fail);have cT:=dQ.o.Am (S:=λk=>(Value.slice a7 ws.length a2).ownBlock=some k) λ_ h=>h;have dA:=A1 ((b4.o.cA dQ.o cM.o.Ak).aL ((A4.C Aa w8).a7 nq));have aF:=A1 ((bX.o.aj cT (λh=>dM.o _ h rfl)).aj ((A4.C Aa w8).a7 nq) (λh=>h));have eA:=A1 ((cM.o.AF (S':=λk=>(Value.slice a7 ws.length a2).ownBlock=some k) cT λy hy bC=>absurd bC (W8.2 (aP.o.lo y hy))).tr ((A4.C Aa w8).a7 nq));generalize w8.drewN nq=wX at dA aF eA ⊢;obtain⟨d,aI⟩:∃d:gF Pu,d=[]:=⟨_,rfl⟩;obtain⟨la,aR⟩:∃la:Option Addr,la=none:=⟨_,rfl⟩;obtain⟨z,bJ⟩:∃z:Nat,z=0:=⟨_,rfl⟩;(have cY:Hid (Eb wX w2.heap.size (AA g0 (ws.length+1) aD) (vs++[.slice la d.length z]) (ws++[d])):=by subst aI aR bJ;exact dA.o);(have aB:Hid (EZ len ws (decide (i=0)) (if i=0 then (0,0,0) else X.getD (i-1) (0,0,0)) (I,E,pc)=ws++[d++[(I,E,pc)]]):=by unfold Hid;rw[aL.o];subst aI;simp[Hn]);have eG:Hid (∀x∈ws++[d],x.length<=i):=λx L=>by
      rcases AX.1 L with L|L
      ·exact dJ.o x L
      ·rw[Ij.1 L,aI];exact Cb _
     have bH:Hid (ws.length+1<=i+1):=Qq eF.o;(have cO:Hid (d.length<=i):=by rw[aI];exact Cb _);(have bV:Hid (¬(Value.slice la d.length z).ownBlock=some pk):=by rw[aR];simp[Hid,Value.ownBlock]);clear aI aR bJ e4 cT dA dQ b4 cM bX bB bW bY dM aL bP dG dN eP dP
    rotate_left
   all_goals
    have eC:Hid (A7 wX g0 ws.length (.slice la d.length z)):=by
     (have aS:vs.length=ws.length:=by have:=cY.o.Be;simpa using this);rw[<-aS];exact Bu cY.o.Bj rfl (by rw[Il (An _)];simp)
    have oc:=eC.o;have eU:Hid (B1 wX (.slice la d.length z) d):=by
     (have aS:vs.length=ws.length:=by have:=cY.o.Be;simpa using this);have h1:=cY.o.ls vs.length iE (by simp;omega);have e1:(vs++[Value.slice la d.length z])[vs.length]' iE=.slice la d.length z:=iE;(have e2:(ws++[d])[vs.length]'(by simp;omega)=d:=by rw[Gj iC];simp[aS]);rw[e1,e2]at h1;exact h1
    obtain⟨la',lcap',fA,la1,eX,-⟩:=B8 eU.o;cases fA;unfold maxLen at eX;have f0:=aF.o.aa.c0;have f1:=aF.o.aa.c1;have f2:=aF.o.aa.c2;have dK:A7 wX.drew g0 ws.length (.slice la d.length z):=oc;go_wp2;refine Bq (λw'=>A7 w' g0 ws.length (.slice la d.length z)/\A7 w' pk 0 (A0 I)/\A7 w' pk 1 (A0 E)/\A7 w' pk 2 (A0 pc)) 7
     (Ba [0,1,2,3,4,5,6] [5,6]) ⟨dK,f0,f1,f2⟩ ?_
    iterate 5 refine B4 ?_
    refine Bf λK hK=>?_;go_simp;have ka:A4 Aa wX (wX.alloc (.cells #[A0 I,A0 E,A0 pc] 113)).drew:=((A4.C _ _).ai _).aa;have bF:=aF.o.aj ka (λh=>h);have eL:Hid (B1 (wX.alloc (.cells #[A0 I,A0 E,A0 pc] 113)).drew (.slice la d.length z) d):=Au eU.o λg hg=>ka.Al g (Aw eU.o hg) (λh=>h);have aW:=A1 (cY.o.aL ka);have b7:Hid (Src Tryz.prog 3 97 (AA wX.heap.size 1 1) 1 #[A0 I,A0 E,A0 pc].toList (wX.alloc (.cells #[A0 I,A0 E,A0 pc] 113)).drew):=by
     have hb:(wX.alloc (.cells #[A0 I,A0 E,A0 pc] 113)).drew.heap[wX.heap.size]?=some (.cells #[A0 I,A0 E,A0 pc] 113 (0,0)):=Bn wX _;exact Src.cj GW hb 1 1 rfl (HJ [(I,E,pc)])
    refine hK _ _ ⟨ka.ad oc,bF.c0,bF.c1,bF.c2⟩ (λhS=>?_);have eE:=A1 bF;have fF:=A1 ka;clear hK K hS bF ka oc f0 f1 f2 dK;refine Dy rfl (by rfl) (λK hK=>?_);refine I1 (.tmp 78) (.tmp 80) 97 97 rfl 113 j0 _ 3 24 GW hj fN fG e0 rfl iF (.slice la d.length z) d.length (B5 d) (by rfl) eL.o _ 1 _ (by rfl) b7.o (eS.o _ cO.o) ?_;intro a8 aD w8 hA;have a1:=hA.Am (S:=λk=>(Value.slice la d.length z).ownBlock=some k) λ_ h=>h;have b6:B1 w8 (.slice a8 (d.length+1) aD) (d++[(I,E,pc)]):=by
     (have e:(d++[(I,E,pc)]).length=d.length+1:=iE);unfold B1;rw[It,e];exact hA.AB
    have dE:∀g,(Value.slice a8 (d.length+1) aD).ownBlock=some g->(Value.slice la d.length z).ownBlock=some g\/(wX.alloc (.cells #[A0 I,A0 E,A0 pc] 113)).drew.heap.size<=g:=λg hg=>by
     rcases hA.BX with h|h
     ·rw[h]at hg;exact .inl hg
     ·rw[h]at hg;cases hg;exact .inr (An _)
    have dX:w2.heap.size<=(wX.alloc (.cells #[A0 I,A0 E,A0 pc] 113)).drew.heap.size:=AO eA.o.Ak fF.o.Ak;(have b5:vs.length=ws.length:=by have:=cY.o.Be;simpa using this);have aE:=aW.o.fy a1 b6 dE dX;rw[b5]at aE;have aE:=A1 aE;have aQ:Value.slice la d.length z∈vs++[Value.slice la d.length z]:=iE;have bN:=eE.o.aj a1 bV.o;have eB:A7 w8 g0 ws.length (.slice la d.length z):=a1.bI (fF.o.ad eC.o) (λh=>aW.o.ne aQ h rfl);have hofz8:w8.frozen? (A9 g0 ws.length)=false:=by
     have hb:=a1.Al g0 (Aw aW.o.Bj rfl) (λh=>aW.o.ne aQ h rfl);have:=ER aW.o.Bj (g:=g0) rfl ws.length;unfold World.frozen? at this ⊢;rw[hb];exact this
    refine hK _ _ ⟨eB,bN.c0,bN.c1,bN.c2⟩ (λhS=>?_);have fX:Hid (A4 Aa w2 (w8.sC g0 ws.length (.slice a8 (d.length+1) aD))):=((eA.o.tr fF.o).AF (S':=λk=>(Value.slice la d.length z).ownBlock=some k) a1 λy hy bC=>by have:=aW.o.li _ aQ _ hy;omega).bc (p:=(A9 g0 ws.length)) (λh=>by have:=aW.o.lo g0 rfl;have h':g0<w2.heap.size:=h;omega) _;have a9:=A1 (aX.o _ aB.o);clear hK K hS hA a1 b6 dE dX bN b7 eL b5 aX aB;refine Bl ?_;go_wp2;go_roundw
    ·exact⟨i+1,ws++[d++[(I,E,pc)]],vs++[.slice a8 (d.length+1) aD],by go_num,aT,aE.o,fX.o,(by rw[B3];exact bH.o),(λx L=>(AX.1 L).elim (λL=>JZ (eG.o x (AX.2 (.inl L)))) (λL=>by rw[Ij.1 L,B3];exact Qq cO.o)),λ_=>⟨ws,_,rfl,iE⟩,a9.o⟩
    ·simp[intOf];omega
end
def X4(len:Int)(ws:gF (gF Pu))(I:Bool)(L p:Pu):
 (EZ len ws I L p).length<=ws.length+1/\Dn (EZ len ws I L p)<=Dn ws+1/\∀x∈EZ len ws I L p,∀y∈x,y=p\/∃z∈ws,y∈z:=by
 obtain⟨d,aA,h1,h2,h3⟩:∃d,(if I=true\/BH p.2.1 len≠BH L.2.1 len then ws++[[]] else ws)=d/\(d.length<=ws.length+1)/\Dn d=Dn ws/\(∀x∈d,∀y∈x,∃z∈ws,y∈z)/\True:=by
  refine⟨_,rfl,?_⟩;split
  ·refine⟨iE,by simp[Dn],λx E y h=>?_,trivial⟩;rcases AX.1 E with E|E
   ·exact⟨x,E,h⟩
   ·simp at E;subst E;simp at h
  ·exact⟨iC,rfl,λx E y h=>⟨x,E,h⟩,trivial⟩
 have hl1:d=[]\/d.length<=ws.length+1:=.inr h1;have X:d.dropLast.length+1<=ws.length+1:=by
  rw[Wm];have:d.length<=ws.length+1:=h1;omega
 have key:∀t:gF Pu,t.length<=(d.getLastD []).length+1->Dn (d.dropLast++[t])<=Dn ws+1:=λt ht=>by
  rw[MC,<-h2];rcases Mk d with rfl|⟨a,b,O⟩
  ·simp[Dn]at ht ⊢;omega
  ·rw[Wu]at O;subst O;(have e1:(a++[b]).getLastD []=b:=by rw[KX];simp);rw[e1]at ht;rw[List.dropLast_concat,MC];simp[Dn];omega
 have Y:∀y∈d.getLastD [],∃z∈ws,y∈z:=λy h=>by
  rcases Mk d with rfl|⟨a,b,O⟩
  ·simp at h
  ·rw[Wu]at O;subst O;(have e1:(a++[b]).getLastD []=b:=by rw[KX];simp);rw[e1]at h;exact h3.1 b iE y h
 unfold EZ;dsimp only
 rw[aA];split
 ·refine⟨by simpa using X,key _ iE,λx E y h=>?_⟩;rcases AX.1 E with E|E
  ·exact .inr (h3.1 x (Wt _ E) y h)
  ·rw[Ij]at E;subst E;rcases AX.1 h with h|h
   ·exact .inr (Y y (Wt _ h))
   ·exact .inl (Ij.1 h)
 ·refine⟨by simpa using X,key _ iE,λx E y h=>?_⟩;rcases AX.1 E with E|E
  ·exact .inr (h3.1 x (Wt _ E) y h)
  ·rw[Ij]at E;subst E;rcases AX.1 h with h|h
   ·exact .inr (Y y h)
   ·exact .inl (Ij.1 h)
def R0(len:Int):∀(l:gF Pu) (d:Bool) (E:Pu) (ws:gF (gF Pu)),
 (ED len l d E ws).length<=ws.length+l.length/\Dn (ED len l d E ws)<=Dn ws+l.length/\∀x∈ED len l d E ws,∀y∈x,y∈l\/∃z∈ws,y∈z
 | [],_,_,ws=>⟨An _,An _,λx L y I=>.inr ⟨x,L,I⟩⟩
 | p::r,d,E,ws=>by
  have⟨s1,s2,s3⟩:=X4 len ws d E p;have⟨h1,h2,h3⟩:=R0 len r false p (EZ len ws d E p);unfold ED;refine⟨by simp;omega,by simp;omega,λx L y I=>?_⟩;rcases h3 x L y I with h|⟨z,O,h⟩
  ·exact .inl (BC _ h)
  ·rcases s3 z O y h with rfl|h
   ·exact .inl BI
   ·exact .inr h
def XT{l:gF (gF Pu)}{x:gF Pu}(h:x∈l):x.length<=Dn l:=by
 induction l with
 | nil=>cases h
 | cons a r ih=>
  rw[Oq];rcases BS.1 h with rfl|h
  ·omega
  ·have:=ih h;omega
def PE(len:Int)(l:gF Pu):(C3 len l).length<=l.length/\Dn (C3 len l)<=l.length/\∀x∈C3 len l,(∀p∈x,p∈l)/\x.length<=l.length:=by
 have⟨d,E,h3⟩:=R0 len (Ev (AE len) l) true (0,0,0) [];rw[RL]at d E;have e:ED len (Ev (AE len) l) true (0,0,0) []=C3 len l:=rfl;rw[e]at d E h3;have d:(C3 len l).length<=l.length:=by simpa using d
 have E:Dn (C3 len l)<=l.length:=by
  have e0:Dn []=0:=rfl;omega
 refine⟨d,E,λx I=>⟨λp L=>?_,?_⟩⟩
 ·rcases h3 x I p L with h|⟨z,O,-⟩
  ·exact((Gi len).cH l).bH.DG (Gi len) h
  ·cases O
 ·have:=XT I;omega
section
variable{N ab b a c m B:Nat}{A:Ar}{P:PD}{FT:Nat->Prop}
def A3Q(hS:FR N)(hN:N<=134217728)(w:gC)(h:AD w ab b A P FT)(a2:∀k,FT k->k<w.heap.size)(wa:Int)(hw:1<=wa/\wa<=4611686018427387904)(aE:(P.pd A.j.Ao).1.length<=N)(aB:∀p∈(P.pd A.j.Ao).1,Bo p)(aZ:0<=A.Ac/\A.Ac+N<=9223372036854775807)(aQ:Ay (A.j.Ac+1))(aP:∀x∈A.ix.sd,Ay x)(hF:Fit P a c m)(X:CV (a+N+2) (c+2*a+2*N+4) (m+29*N+12+8*A.ix.sd.length))(hm:A.j.Ao.length*m<=70368744177664)(hkl:A.ix.sd.length+N<=134217728)(hn:∀n∈A.ix.sd,CK n)(aO:∀n∈A.j.Ao,CK n)(a0:A.j.Ao.length<=1073741824)(hL:Lets B w)(aR:∀k,FT k->B<=k):
 Ag 68 #[A5 ab,A0 wa] w (Aj (A0 (A.aR P wa).1) λw'=>Ap w FT w' (λw' E=>AD w' ab b (A.aR P wa).2.1 (A.aR P wa).2.2 E)):=by
 have⟨xb,jb,sv,ov,lv,jo,Ft,hv,hsub⟩:=id h;have c2:=hv.Ae.c2;have aW:=A1 (ON w hv.dk hv.lt hv.jn hF ⟨by have:=X.a;omega,by have:=X.c;omega,by have:=X.m;omega⟩ hm aO hL);have aJ:Hid (A.aR P wa=if (P.pd A.j.Ao).2≠0 then ((P.pd A.j.Ao).2,A,P) else A.aG P A.ix.sd (C3 wa (P.pd A.j.Ao).1)):=rfl;have aD:=A1 (PE wa (P.pd A.j.Ao).1);generalize hR:A.aR P wa=R at aJ ⊢;generalize hPS:P.pd A.j.Ao=PS at aW aJ aD aE aB;obtain⟨ps,pe⟩:=PS;dsimp only at aW aJ aD aE aB;have H:=A1 h;have bB:=A1 hv;have L:=A1 a2;have aH:=A1 aB
 have a3:Hid (∀d kv fv,A4 Aa w d->DY d kv A.ix.sd->(∀g,kv.oB g->w.heap.size<=g)->Ql d fv (C3 wa ps) FT->pe=0->
  Ag 107 #[A5 ab,kv,fv] d (Aj (A0 R.1) λw'=>Ap w FT w' (λw' E=>AD w' ab b R.2.1 R.2.2 E))):=λd kv fv Y O aF hf he=>by
  have⟨z1,z2,z3⟩:=aD.o;have aA:R=A.aG P A.ix.sd (C3 wa ps):=by rw[aJ.o,Af (by simp[he])]
  rw[aA]
  refine(Sh d (H.o.ak Y) (λk O=>Bp (L.o k O) Y.Ak) kv A.ix.sd O (λg z=>⟨λhx=>by have:=aF g z;have:=L.o g hx;omega,AO hL.1 (aF g z)⟩) fv (C3 wa ps) hf
   (λl X=>⟨λp hp=>aH.o p ((z3 l X).1 p hp),by have:=(z3 l X).2;omega⟩) ⟨aZ.1,iC⟩ aQ aP hF ⟨by have:=X.a;omega,by have:=X.c;omega,by have:=X.m;omega⟩ iC hn aO hn iC a0 (hL.aL Y) aR).mono ?_
  rintro e w'⟨h1,h2⟩;exact⟨h1,Ap.aZ (Y.aS) (λk O=>O.elim .inl λh=>.inr (aF k h)) h2⟩
 have aM:Hid (∀d,A4 Aa w d->pe≠0->R.1=pe/\Ap w FT d (λw' E=>AD w' ab b R.2.1 R.2.2 E)):=λd Y he=>by
  have aA:R=(pe,A,P):=by rw[aJ.o,Ai he]
  subst aA;exact⟨rfl,Y.aS,FT,H.o.ak Y,λk O=>Bp (L.o k O) Y.Ak,λk O=>.inl O⟩
 have aS:Hid (∀d v,B1 d v ps->_):=λd v hx=>Uz hS hN d v wa ps aE hx (λp hp=>(aH.o p hp).2.1) hw;have a1:Hid (A.ix.sd.length*8<=140737488355328):=by unfold Hid;omega
 go_enter func68,ntmps68
 go_wp2_with (fail);refine aW.m ?_;rintro e w1⟨v1,rfl,aT,ho1,aG⟩;by_cases hp:pe=0
 case neg=>
  have a5:=A1 (aM.o w1 aG hp);have hpb:(pe !=0)=true:=by simpa using hp
  go_wp2;go_ret;exact⟨by rw[a5.o.1];rfl,a5.o.2⟩
 case pos=>
  subst hp;have V1:=bB.o.ak aG;have d1:=V1.Ae.c1;have d4:=V1.ix.c4;have a8:=A1 (A3i w1 sv A.ix.sd V1.sd a1.o);have a4:=A1 aG;have aN:=A1 aT;go_wp2_with (fail);refine a8.m ?_;rintro e w2⟨v2,rfl,aY,aV,aI⟩;have aL:=A1 aY;have aU:=A1 aV;have aX:Hid (A4 Aa w w2):=a4.o.tr aI;have bA:=A1 (aS.o w2 v1 (Au aN.o λg z=>aI.Al g (Aw aN.o z) (λh=>h)));go_wp2_with (fail);refine bA.m ?_;rintro e w3⟨v3,vs,rfl,I,aK⟩;have a6:A4 Aa w w3:=aX.o.tr aK
  have a7:=A1 (a3.o w3 v2 v3 a6 (Au aL.o λg z=>aK.Al g (Aw aL.o z) (λh=>h)) (λg z=>AO a4.o.Ak (aU.o g z))
   ⟨vs,I.Be,I.Bj,I.ls,λg z hx=>by have:=I.lo g z;have:=L.o g hx;have:=aX.o.Ak;omega,λx hx g z hf=>by have:=I.li x hx g z;have:=L.o g hf;have:=aX.o.Ak;omega⟩ iE)
  go_wp2_with (fail);refine a7.k ?_;rintro w4 hI;have a9:=A1 hI;go_wp2;go_ret;exact⟨rfl,a9.o⟩
end
def Uj{n:Int}(h:isNum n=true):1<=n/\n<=4611686018427387904:=by
 unfold isNum at h;simpa using h
def N8{P:PD}{ix:Ix}(h:P.ba=some ix):(1<=ix.Bd/\ix.Bd<=4611686018427387904)/\∀n∈ix.sd,1<=n/\n<=4611686018427387904:=by
 unfold PD.ba indexOf at h;split at h
 ·cases h;exact⟨⟨iF,iF⟩,λn z=>by cases z⟩
 ·split at h
  ·cases h
  ·rename_i E;split at h
   ·cases h
   ·rename_i d;split at h
    ·cases h;(have d:(ES (P.aY AJ).1).all isNum=true:=by simpa using d);rw[O0]at d;generalize hi:ES (P.aY AJ).1=l at *;cases l with
     | nil=>simp at E
     | cons x r=>exact⟨Uj (d x BI),λn z=>Uj (d n (BC _ z))⟩
    ·cases h
def RV:∀(k:Nat) (l:Bs) (r:gF Pu×Bs),F5 k l=some r->r.1.length<=l.length
 | 0,l,r,h=>by cases h;exact Cb _
 | k+1,l,r,h=>by
  unfold F5 at h;split at h
  ·cases h;exact Cb _
  ·rename_i hl;split at h
   ·cases hx:F5 k (l.drop 17) with
    | none=>rw[hx]at h;cases h
    | some q=>
     rw[hx]at h;cases h;have:=RV k (l.drop 17) q hx;simp only[CA];rw[Cz]at this;omega
   ·cases h
def Yy{P:PD}{a c m:Nat}(d:Fit P a c m){n:Int}{l:gF Pu}(h:P.CD n=some l):l.length<=m:=by
 unfold PD.CD Jt at h;split at h
 ·cases h
 ·cases hx:F5 (P.aY (AH n)).1.length (P.aY (AH n)).1 with
  | none=>rw[hx]at h;cases h
  | some q=>
   rw[hx]at h;dsimp only at h;split at h
   ·cases h;exact AO (RV _ _ q hx) (SC d _)
   ·cases h
def Oy{P:PD}{a c m:Nat}(I:Fit P a c m):∀(E:gF Int) (l:gF (Int×gF Pu)),P.sd E=some l->l.length=E.length/\∀x∈l,x.2.length<=m
 | [],l,h=>by cases h;exact⟨rfl,λx z=>by cases z⟩
 | n::r,l,h=>by
  unfold PD.sd at h;cases z:P.CD n with
  | none=>rw[z]at h;cases h
  | some q=>
   rw[z]at h;dsimp only at h;cases hy:P.sd r with
   | none=>rw[hy]at h;cases h
   | some y=>
    rw[hy]at h;cases h;have⟨h1,h2⟩:=Oy I r y hy;refine⟨by simp[h1],λx d=>?_⟩;rcases BS.1 d with rfl|d
    ·exact Yy I z
    ·exact h2 x d
def Gn(l:gF Bs):gF Int:=l.filterMap λnm=>if (Br nm).1=2 then some (Br nm).2 else none
def YC(a b:gF Bs):Gn (a++b)=Gn a++Gn b:=by simp[Gn]
def Ek(w:gC)(ab b xb:Nat)(lh:Int):Prop:=w.heap[ab]?=some (.cells #[.pointer (some ⟨b,0,none⟩),.pointer (some ⟨xb,0,none⟩),.pointer none,.int .i64 lh,.slice none 0 0] 150 (0,0))
section
variable{w w':gC}{ab b xb:Nat}{lh:Int}
def Ek.c0(h:Ek w ab b xb lh):A7 w ab 0 (A5 b):=by unfold Ek at h;simp[A7,World.cell?,h]
def Ek.c1(h:Ek w ab b xb lh):A7 w ab 1 (A5 xb):=by unfold Ek at h;simp[A7,World.cell?,h]
def Ek.c2(h:Ek w ab b xb lh):A7 w ab 2 (.pointer none):=by unfold Ek at h;simp[A7,World.cell?,h]
def Ek.c3(h:Ek w ab b xb lh):A7 w ab 3 (A0 lh):=by unfold Ek at h;simp[A7,World.cell?,h]
def Ek.fz(h:Ek w ab b xb lh)(o:Nat):w.frozen? (A9 ab o)=false:=by unfold Ek at h;simp[World.frozen?,h]
def Ek.s3(h:Ek w ab b xb lh)(x:Int):Ek (w.setCell (A9 ab 3) (A0 x)) ab b xb x:=BQ h
def Ek.s2(h:Ek w ab b xb lh)(d:Nat):Dg (w.setCell (A9 ab 2) (A5 d)) ab b xb d lh (.slice none 0 0):=BQ h
def Ek.fL(h:Ek w ab b xb lh):ab<w.heap.size:=Bv h
def Ek.aj{S:Nat->Prop}(h:Ek w ab b xb lh)(d:A4 S w w')(z:¬S ab):Ek w' ab b xb lh:=d.aj h z
end
def GY.fY{S:Nat->Prop}{w w':gC}{I b:Nat}{v:gD}{l:gF (Int×gF Pu)}(h:GY w I b v l)(O:A4 S w w')(L:∀k,S k->k<I):GY w' I b v l:=by
 obtain⟨E,h1,X,Y,h4⟩:=h;refine⟨E,h1,Au X λg d=>O.Al g (Aw X d) λz=>by have:=L g z;have:=Y g d;omega,Y,λk q1 q2=>?_⟩;have⟨pv,s1,s2,s3,s4⟩:=h4 k q1 q2;exact⟨pv,s1.aj O (λz=>by have:=L _ z;omega),Au s2 λg d=>O.Al g (Aw s2 d) λz=>by have:=L g z;have:=s4 g d;omega,s3,s4⟩
section
variable{b a c m B:Nat}{P:PD}{Ft:Nat->Prop}
def A0k(h:P.ba=none):Ar.aT P=.error 7:=by unfold Ar.aT;rw[h]
def A0o{ix:Ix}(h:P.ba=some ix)(d:P.Az.any (λnm=>decide ((Br nm).1=0))=true):Ar.aT P=.error 7:=by
 unfold Ar.aT;rw[h];dsimp only;rw[Ai d]
def A0h{ix:Ix}(h:P.ba=some ix)(d:P.Az.any (λnm=>decide ((Br nm).1=0))=false)(z:P.sd ix.sd=none):Ar.aT P=.error 7:=by
 unfold Ar.aT;rw[h];dsimp only;rw[Af (by simp[d]),z]
def A0i{ix:Ix}{l:gF (Int×gF Pu)}(h:P.ba=some ix)(z:P.Az.any (λnm=>decide ((Br nm).1=0))=false)(E:P.sd ix.sd=some l)(d:(P.pd (BV ix.Bd P.Az)).2≠0):Ar.aT P=.error (P.pd (BV ix.Bd P.Az)).2:=by
 unfold Ar.aT;rw[h];dsimp only;rw[Af (by simp[z]),E];dsimp only;rw[Ai d]
def Ar.AW(P:PD)(ix:Ix):Ar:=⟨ix,P.bV ix.Bd,(Gn P.Az).getLastD 0,[]⟩
def A0j{ix:Ix}{l:gF (Int×gF Pu)}(h:P.ba=some ix)(z:P.Az.any (λnm=>decide ((Br nm).1=0))=false)(E:P.sd ix.sd=some l)(d:(P.pd (BV ix.Bd P.Az)).2=0):
 Ar.aT P=.ok ({Ar.AW P ix with AS:=(Ar.AW P ix).aX P},l.flatMap (·.2)++(P.pd (BV ix.Bd P.Az)).1):=by
 unfold Ar.aT;rw[h];dsimp only;rw[Af (by simp[z]),E];dsimp only;rw[Af (by simp[d])];rfl
def Vz(w:gC)(h:Bw w b P Ft)(aA:∀k,Ft k->k<w.heap.size)(hF:Fit P a c m)(hl:CV a c m)(dO:a*m<=70368744177664)(hL:Lets B w)(hE:IK w)(cP:∀nm∈P.Az,nm.length<=281474976710656)(aN:∀ix,P.ba=some ix->ix.sd.length<=1073741824/\ix.sd.length*m<=4398046511104)(bT:∀bJ,(P.pd (BV bJ P.Az)).1.length<=1099511627776):
 Ag 59 #[A5 b] w λe w'=>
  (∃n,Ar.aT P=.error n/\e=.returned (.tuple #[.pointer none,.slice none 0 0,A0 n])/\A4 Aa w w')\/
  (∃A ps ab v FT,Ar.aT P=.ok (A,ps)/\e=.returned (.tuple #[A5 ab,v,A0 0])/\B1 w' v ps/\AD w' ab b A P FT/\(∀k,FT k->Ft k\/w.heap.size<=k)/\(∀k,FT k->k<w'.heap.size)/\(∀g,v.ownBlock=some g->¬FT g/\w.heap.size<=g)/\A4 Aa w w'):=by
 have⟨i0,hi,hz0,hz1,hz2⟩:=DQ J5;have eT:=A1 (Zu w h aA hF hl hL);have LI:Hid (∀d,A4 Aa w d->Ag 76 #[A5 b] d λe w'=>∃v,e=.returned v/\DC w' v P.Az/\A4 Aa d w'/\(∀g,v.ownBlock=some g->d.heap.size<=g)):=λd hc=>Pm (AU.av h aA hc) hF hl;have eV:Hid (∀d,A4 Aa w d->∀nm∈P.Az,Ag 97 #[.string ⟨nm.toArray⟩] d (Aj (.tuple #[A0 (Br nm).1,A0 (Br nm).2]) λw'=>A4 Aa d w')):=λd hc nm hm=>TF d nm (cP nm hm) (hE.aL hc) (hL.aL hc);have bO:P.Az.length<=a:=by rw[Lw];exact hF.A6
 have bU:=AO bO hl.a;have eW:Hid (∀ix,P.ba=some ix->∀d ab xb sv,A4 Aa w d->A7 d ab 0 (A5 b)->A7 d ab 1 (A5 xb)->A7 d xb 4 sv->Dh d sv ix.sd->_):=
  λix hx d ab xb sv hc h0 h1 h4 hs=>RS (ab:=ab) (xb:=xb) (sv:=sv) d ix.sd h0 h1 h4 hs (AU.av h aA hc) (λk z=>Bp (aA k z) hc.Ak) hF hl (λn hn=>by have:=(N8 hx).2 n hn;exact I3 iC this.2) (aN ix hx).1 (hL.aL hc)
 have eX:Hid (∀ix,P.ba=some ix->∀d,A4 Aa w d->_):=λix hx d hc=>A1n d (AU.av h aA hc) (λk z=>Bp (aA k z) hc.Ak) hF hl dO (N8 hx).1 (hL.aL hc) (hE.aL hc) cP;have e0:Hid (∀ix,P.ba=some ix->∀d ab xb jb sv lv,A4 Aa w d->Cv d ab b xb jb sv (.slice none 0 0) lv (.pointer none) (Ar.AW P ix) P Ft->_):=λix hx d ab xb jb sv lv hc hv=>
  T5 d hv hF hl (λn hn=>by have:=(N8 hx).2 n hn;exact I3 iC this.2) (λn hn=>by have⟨_,h2,_⟩:=Ph hn;exact I3 iC h2.2) (aN ix hx).1 (AO (N2 _ _) bU) (hL.aL hc)
 have eZ:Hid (∀ix,P.ba=some ix->∀l,P.sd ix.sd=some l->∀d dG v,GY d dG b v l->(Ag 101 #[v] d λe w'=>∃v',e=.returned v'/\B1 w' v' (l.flatMap (·.2))/\(∀g,v'.ownBlock=some g->d.heap.size<=g)/\A4 Aa d w')/\(l.flatMap (·.2)).length<=4398046511104):=λix hx l hs d dG v hv=>by
  have⟨s1,s2⟩:=Oy hF ix.sd l hs;refine⟨T2 d dG v l hv (by rw[s1];exact(aN ix hx).1) s2 (by rw[s1];exact(aN ix hx).2),AO ?_ (aN ix hx).2⟩;rw[<-s1];clear hs s1 hv
  induction l with
  | nil=>exact Cb _
  | cons x r ih=>
   have:=ih (λy hy=>s2 y (BC _ hy));have:=s2 x BI;rw[Mj,B3,CA,NL];omega
 have eL:=A1 (A0k (P:=P));have eJ:=A1 (λix=>A0o (P:=P) (ix:=ix));have eP:=A1 (λix=>A0h (P:=P) (ix:=ix));have eO:=A1 (λix l=>A0i (P:=P) (ix:=ix) (l:=l));have eM:=A1 (λix l=>A0j (P:=P) (ix:=ix) (l:=l));have dX:=A1 bT;have eN:Hid (∀d,A4 Aa w d->Bw d b P Ft):=λd hc=>AU.av h aA hc;have aV:=A1 aA;have FIX:=A1 (λ(ix:Ix) (hx:P.ba=some ix)=>(N8 hx).1);generalize hO:Ar.aT P=O at eL eJ eP eO eM ⊢
 go_enter func59,ntmps59
 go_wp2_with (fail);refine eT.m ?_;rintro e d (⟨hx,rfl,hc1⟩|⟨ix,xb,sv,hx,rfl,hfx,hsv,hso,hxb,hc1⟩)
 ·have aU:=A1 (eL.o hx);have dP:=A1 hc1;go_wp2;go_ret3;exact .inl ⟨7,aU.o,rfl,dP.o⟩
 have eA:Ek (d.aC #[A5 b,A5 xb,.pointer none,A0 0,.slice none 0 0] 150) d.heap.size b xb 0:=Bn d _;have eR:Hid (A4 Aa d (d.aC #[A5 b,A5 xb,.pointer none,A0 0,.slice none 0 0] 150)):=(A4.C _ d).ai _;have cS:=A1 hc1;have eE:=A1 (LI.o _ (cS.o.tr eR.o));have aU:=A1 hx;have bM:=A1 hfx;have bI:=A1 hsv;have bR:=A1 hso;have aZ:=A1 hxb;have dV:=A1 eA;have dB:Hid (d.heap.size<(d.aC #[A5 b,A5 xb,.pointer none,A0 0,.slice none 0 0] 150).heap.size):=by unfold Hid;simp
 go_wp2_with (fail);refine eE.m ?_;rintro e w2⟨v,rfl,hv,b7,dZ⟩;obtain⟨na,cO,rfl,nc1,dK⟩:=(DC.rd hv).BW;unfold maxLen at dK;have e2:=A1 (DC.rd hv);have cD:=A1 <| eR.o.tr b7;have eQ:=A1 (dV.o.aj b7 (λh=>h));have b0:Hid (∀g,(Value.slice na P.Az.length cO).ownBlock=some g->d.heap.size<g):=λg I=>Bp dB.o (dZ g I);generalize eC:d.heap.size=ab at eQ b0 ⊢;have aL:=A1 eC;go_wp2;go_loopw [30] (λiv wr=>∃k:Nat,iv=A0 k/\k<=P.Az.length/\Hid (Ek wr ab b xb ((Gn (P.Az.take k)).getLastD 0)/\(P.Az.take k).any (λnm=>decide ((Br nm).1=0))=false/\A4 Aa w wr/\A4 (One ab) w2 wr)) (λiv _=>P.Az.length-(intOf iv).toNat)
 ·exact⟨0,rfl,iC,eQ.o,iE,cS.o.tr cD.o,A4.C _ _⟩
 ·obtain⟨k,rfl,z,hI⟩:=hrel;have⟨i1,i2,i3,i4⟩:=hI.o;by_cases aX:k<P.Az.length
  ·obtain⟨g,o,rfl,d1⟩:=Hi.at e2.o k aX;have aP:=BT aX;have bN:=Ds aX;generalize a5:(P.Az[k]'aX)=nm at d1 aP bN;have e1:=i4.bI d1 (λh=>by have h':g=ab:=h;have:=b0.o g rfl;omega);have aS:=A1 (eV.o wr i3 nm aP);have bP:=TG nm;have aJ:Hid ((Gn (P.Az.take (k+1))).getLastD 0=if (Br nm).1=2 then (Br nm).2 else (Gn (P.Az.take k)).getLastD 0):=by
    unfold Hid;rw[bN,YC];by_cases hc:(Br nm).1=2
    ·(have e:Gn [nm]=[(Br nm).2]:=by simp[Gn,hc]);rw[Ai hc,e,UH]
    ·(have e:Gn [nm]=[]:=by simp[Gn,hc]);rw[Af hc,e,Gk]
   (have aW:Hid (¬(Br nm).1=0->(P.Az.take (k+1)).any (λnm=>decide ((Br nm).1=0))=false):=λhz=>by rw[bN,Ww,i2];simp[hz]);have aQ:Hid ((Br nm).1=0->P.Az.any (λnm=>decide ((Br nm).1=0))=true):=λhz=>Mn.2 ⟨nm,aP,by simp[hz]⟩;generalize hX:Br nm=X at aS aJ aW aQ bP;obtain⟨s,n⟩:=X;dsimp only at aS aJ aW aQ bP;obtain⟨r1,r2⟩:=bP;have b3:=A1 i1;have bG:=A1 i3;have dW:=A1 i4;have dM:(k:Int)<(P.Az.length:Int):=iC;have hk0:=BJ k;by_cases bE:s=0
   ·subst bE;have aM:=A1 (eJ.o ix aU.o (aQ.o rfl));go_wp2_with (go_at_call 97;refine aS.k ?_;rintro w6 aD;have aH:=A1 aD);go_ret3;exact .inl ⟨7,aM.o,rfl,bG.o.tr aH.o⟩
   ·(have hsb0:(s==0)=false:=by simpa using bE);by_cases a7:s=2
    ·subst a7;(have bL:Hid ((Gn (P.Az.take (k+1))).getLastD 0=n):=by rw[aJ.o,Ai rfl];rfl);go_wp2_with (fail);refine aS.k ?_;rintro w6 aD;have eB:=b3.o.aj aD (λh=>h);have g63:=eB.c3;have f63:=eB.fz 3;have dH:=A1 (eB.s3 n);have aH:=A1 aD;go_wp2;go_roundw
     ·have k7:A4 (One ab) wr (w6.sC ab 3 (A0 n)):=(aH.o.aS (S:=One ab)).an (b:=ab) rfl 3 _;exact⟨k+1,by go_num,iC,by rw[bL.o];exact dH.o,aW.o iF,bG.o.AF k7 λx hx aA=>by have e':x=ab:=hx;have:=aL.o;have:=cS.o.Ak;omega,dW.o.tr k7⟩
     ·simp[intOf];omega
    ·(have hsb2:(s==2)=false:=by simpa using a7);(have bL:Hid ((Gn (P.Az.take (k+1))).getLastD 0=(Gn (P.Az.take k)).getLastD 0):=by rw[aJ.o,Af a7];rfl);have bZ:=A1 (aW.o bE);go_wp2_with (go_at_call 97;refine aS.k ?_;rintro w6 aD;have aH:=A1 aD);go_roundw
     ·exact⟨k+1,by go_num,iC,by rw[bL.o];exact b3.o.aj aH.o (λh=>h),bZ.o,bG.o.tr aH.o,dW.o.bk aH.o⟩
     ·simp[intOf];omega
  ·have dA:k=P.Az.length:=iC;subst dA;rw[C5]at i1 i2;(have dM:¬((P.Az.length:Int)<(P.Az.length:Int)):=iC);have b5:A4 (One ab) d wr:=(cD.o.aS (S:=One ab)).tr i4;(have b8:xb≠ab:=by have:=bM.o.lt;have:=aL.o;omega);have bY:=bM.o.aj b5 b8;(have cL:Dh wr sv ix.sd:=DJ.Am bI.o b5 λg I h=>by have h':g=ab:=h;have:=DJ.lt bI.o I;have:=aL.o;omega);have eG:=A1 (eW.o ix aU.o wr ab xb sv i3 i1.c0 i1.c1 bY.c4 cL);have b3:=A1 i1;have eF:=A1 i2;have bG:=A1 i3;have dW:=A1 i4;have b1:=A1 b8;have cE:=A1 bY;have dU:=A1 cL;have cQ:Hid (ab<wr.heap.size):=b3.o.fL;go_wp2_with (fail);refine eG.m ?_;rintro e w3 (⟨hs,rfl,hc3⟩|⟨l,v3,hs,rfl,hv3,hc3⟩)
   ·have aM:=A1 (eP.o ix aU.o eF.o hs);have aI:=A1 hc3;go_wp2;go_ret3;exact .inl ⟨7,aM.o,rfl,bG.o.tr aI.o⟩
   have d3:=(cE.o.aj hc3 (λh=>h)).c3;have aO:=A1 hs;have cY:=A1 hv3;have aI:=A1 hc3;have dC:Hid (A4 Aa w w3):=bG.o.tr hc3;have eH:=A1 (eX.o ix aU.o w3 dC.o);have eI:=A1 (eO.o ix l aU.o eF.o aO.o);have dS:=A1 (eM.o ix l aU.o eF.o aO.o);have cI:=A1 (dX.o ix.Bd);go_wp2_with (fail);refine eH.m ?_;rintro e w4 (⟨hp,rfl,hc4⟩|⟨hp,jb,lv,v4,rfl,hj,hv4,hjf,hvo4,hc4⟩)
   ·have aM:=A1 (eI.o hp);have bB:=A1 hc4;generalize (P.pd (BV ix.Bd P.Az)).2=E at hp aM ⊢;(have bT:(E !=0)=true:=by simpa using hp);go_wp2;go_ret3;exact .inl ⟨E,aM.o,rfl,dC.o.tr bB.o⟩
   have dL:=A1 (dS.o hp);have hpe:(P.pd (BV ix.Bd P.Az)).2=0:=hp;have b4:=b3.o.aj (aI.o.tr hc4) (λh=>h);have g42:=b4.c2;have f42:=b4.fz 2;have eS:=A1 (b4.s2 jb);have aR:A4 (One ab) w4 (w4.sC ab 2 (A5 jb)):=(A4.C (One ab) w4).an (b:=ab) rfl 2 _;have cN:A4 (One ab) w3 (w4.sC ab 2 (A5 jb)):=(hc4.aS (S:=One ab)).tr aR;have bS:A4 (One ab) wr (w4.sC ab 2 (A5 jb)):=(aI.o.aS (S:=One ab)).tr cN;(have bX:w.heap.size<=ab:=by have:=aL.o;have:=cS.o.Ak;omega);(have cT:A4 Aa w (w4.sC ab 2 (A5 jb)):=bG.o.AF bS λx hx aA=>by have e':x=ab:=hx;omega);have hr3:wr.heap.size<=w3.heap.size:=aI.o.Ak;(have aE:∀g,sv.ownBlock=some g->g<ab:=λg I=>by have:=DJ.lt bI.o I;have:=aL.o;omega);(have bD:xb<ab:=by have:=bM.o.lt;have:=aL.o;omega);(have aB:∀k,Dt jb lv (.pointer none) k->ab<k:=λk z=>by have:=hjf k z;have:=cQ.o;omega);(have j5:DX (w4.sC ab 2 (A5 jb)) jb b lv (.pointer none) (P.bV ix.Bd):=hj.Am aR λk z h=>by have e':k=ab:=h;have:=aB k z;omega);have eK:Cv (w4.sC ab 2 (A5 jb)) ab b xb jb sv (.slice none 0 0) lv (.pointer none) (Ar.AW P ix) P Ft:=
    ⟨eS.o,cE.o.aj bS b1.o,DJ.Am dU.o bS (λg I h=>by have e':g=ab:=h;have:=aE g I;omega),DJ.bS,j5,eN.o _ cT,λk z=>Bp (aV.o k z) cT.Ak,
     λk z hf=>by
      have h0:=aV.o k hf;rcases z with rfl|rfl|z|z|z
      ·omega
      ·have:=aZ.o;omega
      ·have:=bR.o k z;have:=aZ.o;omega
      ·simp[Value.ownBlock]at z
      ·have:=aB k z;omega,
     λg I=>⟨by have:=aE g I;omega,by have:=bR.o g I;omega,λh=>by have:=aB g h;have:=aE g I;omega⟩,
     λg I=>by simp[Value.ownBlock]at I,
     λk z=>⟨by have:=aB k z;omega,by have:=aB k z;omega⟩⟩
   have dF:=A1 (e0.o ix aU.o _ ab xb jb sv lv cT eK);have aT:=A1 eK;have cH:=A1 hv4;have a2:=A1 hvo4;have bB:=A1 hc4;have cZ:=A1 cN;have dD:=A1 cT;have aF:=A1 bX;have bQ:=A1 aE;have bF:=A1 bD;have a3:=A1 aB;obtain⟨bV,cC,rfl,v41,eD,-⟩:=B8 hv4;unfold maxLen at eD;go_wp2_with (fail);refine dF.m ?_;rintro e w6⟨v5,v6,rfl,b9,-,bW,-,aD⟩;obtain⟨Y,L,rfl,v51,dT,-⟩:=B8 b9;unfold maxLen at dT;have b6:=eS.o.aj aD (λh=>h);have g64:=b6.c4;have f64:=b6.fz 4;have dH:=A1 (b6.s4 (Value.slice Y ((Ar.AW P ix).aX P).length L));have aR:A4 (One ab) w6 (w6.sC ab 4 (Value.slice Y ((Ar.AW P ix).aX P).length L)):=(A4.C (One ab) w6).an (b:=ab) rfl 4 _;have aK:A4 (One ab) (w4.sC ab 2 (A5 jb)) (w6.sC ab 4 (Value.slice Y ((Ar.AW P ix).aX P).length L)):=(aD.aS (S:=One ab)).tr aR;(have bK:A4 Aa w (w6.sC ab 4 (Value.slice Y ((Ar.AW P ix).aX P).length L)):=dD.o.AF aK λx hx aA=>by have e':x=ab:=hx;have:=aF.o;omega);(have h45:w4.heap.size<=(w4.sC ab 2 (A5 jb)).heap.size:=iE);(have aG:∀g,(Value.slice Y ((Ar.AW P ix).aX P).length L).ownBlock=some g->w4.heap.size<=g:=λg I=>by have:=bW g I;omega);(have h34:ab<w4.heap.size:=by have:=cQ.o;have:=aI.o.Ak;have:=bB.o.Ak;omega);have eY:Cv (w6.sC ab 4 (Value.slice Y ((Ar.AW P ix).aX P).length L)) ab b xb jb sv (Value.slice Y ((Ar.AW P ix).aX P).length L) lv (.pointer none) {Ar.AW P ix with AS:=(Ar.AW P ix).aX P} P Ft:=
    ⟨dH.o,aT.o.ix.aj aK b1.o,DJ.Am aT.o.sd aK (λg I h=>by have e':g=ab:=h;have:=bQ.o g I;omega),
     DJ.Am (DC.rd b9) aR (λg I h=>by have e':g=ab:=h;have:=aG g I;omega),
     aT.o.jn.Am aK (λk z h=>by have e':k=ab:=h;have:=a3.o k z;omega),eN.o _ bK,λk z=>Bp (aV.o k z) bK.Ak,
     λk z hf=>by
      rcases z with h|h|h|h|h
      ·exact aT.o.Dp k (.inl h) hf
      ·exact aT.o.Dp k (.inr (.inl h)) hf
      ·exact aT.o.Dp k (.inr (.inr (.inl h))) hf
      ·have:=aG k h;have:=aV.o k hf;have:=aF.o;omega
      ·exact aT.o.Dp k (.inr (.inr (.inr (.inr h)))) hf,
     aT.o.G2,
     λg I=>⟨by have:=aG g I;omega,by have:=aG g I;have:=bF.o;omega,λh=>by have:=bW g I;have:=aT.o.jn.lt h;omega⟩,
     aT.o.Gg⟩
   have cF:Hid (∀k,G0 ab xb jb sv (Value.slice Y ((Ar.AW P ix).aX P).length L) lv (.pointer none) k->w.heap.size<=k):=λk z=>by
    rcases z with rfl|rfl|h|h|h
    ·exact aF.o
    ·exact aZ.o
    ·have:=bR.o k h;have:=aZ.o;omega
    ·have:=aG k h;have:=aF.o;omega
    ·have:=a3.o k h;have:=aF.o;omega
   have dN:A4 (One ab) w3 (w6.sC ab 4 (Value.slice Y ((Ar.AW P ix).aX P).length L)):=cZ.o.tr aK;have a8:=eZ.o ix aU.o l aO.o (w6.sC ab 4 (Value.slice Y ((Ar.AW P ix).aX P).length L)) wr.heap.size v3 (cY.o.fY dN λk z=>by have e':k=ab:=z;have:=cQ.o;omega);have a4:=dL.o;generalize hPL:l.flatMap (·.2)=PL at a8 a4;have cU:=A1 a4;have dE:=A1 a8.1;have dQ:=A1 a8.2;have b2:=A1 eY;have bH:=A1 bK;have a0:Hid (B1 (w6.sC ab 4 (Value.slice Y ((Ar.AW P ix).aX P).length L)) (.slice bV (P.pd (BV ix.Bd P.Az)).1.length cC) (P.pd (BV ix.Bd P.Az)).1):=Au cH.o λg I=>by
    have h1:=a2.o g I;have hlt4:=Aw cH.o I;(have a5:g≠ab:=by have:=cQ.o;have:=aI.o.Ak;omega);have e1:=aK.Al g iC (λh=>a5 h);rw[e1];exact FB _ _ _ _ (λe=>a5 e)
   (have HO47:Hid (∀g,(Value.slice bV (P.pd (BV ix.Bd P.Az)).1.length cC).ownBlock=some g->w.heap.size<=g):=λg I=>by have:=a2.o g I;have:=dC.o.Ak;omega);go_wp2_with (fail);refine dE.m ?_;rintro e w8⟨v8,rfl,cG,cV,cA⟩;obtain⟨bC,bA,rfl,v81,dR,-⟩:=B8 cG;unfold maxLen at dR;have dY:=A1 cG;have a6:=A1 cV;have cJ:=A1 cA;have cM:=A1 (Src.bN GW (Au a0.o λg I=>cA.Al g (Aw a0.o I) (λh=>h)) (HJ (P.pd (BV ix.Bd P.Az)).1));(have cX:Hid ((PL.length+(P.pd (BV ix.Bd P.Az)).1.length)*24<=140737488355328):=by have:=dQ.o;have:=cI.o;unfold Hid;omega);go_wp2_with (at_builtin;refine CX rfl (.tmp 84) (.tmp 85) 97 97 rfl 113 i0 _ 3 24 GW hi hz0 hz1 hz2 rfl iF (.slice bC PL.length bA) PL.length (B5 PL) (by rfl) dY.o _ (P.pd (BV ix.Bd P.Az)).1.length _ (by rfl) cM.o cX.o ?_;intro a9 cB w9 hA;have eU:=A1 hA);go_ret3;have hA:=eU.o;have dI:=hA.Am (S:=λk=>(Value.slice bC PL.length bA).ownBlock=some k) λ_ h=>h;have aY:A4 (λk=>(Value.slice bC PL.length bA).ownBlock=some k) (w6.sC ab 4 (Value.slice Y ((Ar.AW P ix).aX P).length L)) w9:=(cJ.o.aS).tr dI;have dJ:=cJ.o.Ak;have a1:∀g,(Value.slice a9 (PL.length+(P.pd (BV ix.Bd P.Az)).1.length) cB).ownBlock=some g->(w6.sC ab 4 (Value.slice Y ((Ar.AW P ix).aX P).length L)).heap.size<=g:=λg I=>by
    rcases hA.BX with h|h
    ·rw[h]at I;exact a6.o g I
    ·rw[h]at I;cases I;exact dJ
   refine .inr ⟨_,_,ab,_,λk=>Ft k\/G0 ab xb jb sv (Value.slice Y ((Ar.AW P ix).aX P).length L) lv (.pointer none) k,cU.o,rfl,?_,⟨xb,jb,sv,(Value.slice Y ((Ar.AW P ix).aX P).length L),lv,.pointer none,Ft,b2.o.aK (λk z=>aY.Al k (b2.o.b0 z) λh=>by have:=a6.o k h;have:=b2.o.b0 z;omega) aY.Ak,λ_ h=>h⟩,λk z=>?_,λk z=>Bp (b2.o.b0 z) aY.Ak,λg I=>⟨λhf=>?_,?_⟩,?_⟩
   ·(have e:(PL++(P.pd (BV ix.Bd P.Az)).1).length=PL.length+(P.pd (BV ix.Bd P.Az)).1.length:=iE);unfold B1;rw[It,e];exact hA.AB
   ·rcases z with z|z
    ·exact .inl z
    ·exact .inr (cF.o k z)
   ·have:=a1 g I;have:=b2.o.b0 hf;omega
   ·have:=a1 g I;have:=bH.o.Ak;omega
   ·exact bH.o.AF aY λx hx aA=>by have:=a6.o x hx;have:=bH.o.Ak;omega
end
section
def Yo(w:gC)(I:Nat)(od:Int)(p:Pu)(L:A7 w I 0 (A0 od)):
 Ag 111 #[DO p,A5 I] w (Aj (.bool (decide (od<=p.2.1))) λw'=>A4 Aa w w'):=by
 obtain⟨z,E,h⟩:=p;unfold DO;dsimp only
 have d:Cg (w.aC #[A0 z,A0 E,A0 h] 113) w.heap.size z E h:=Bn w _;have k:A4 Aa w (w.aC #[A0 z,A0 E,A0 h] 113):=(A4.C _ w).ai _;have c1:=d.c1;have hw2:=k.ad L;have K:=A1 k
 go_enter func111,ntmps111
 go_wp2;go_ret;exact⟨rfl,K.o⟩
def A1Q(w:gC)(v:gD)(l:gF Pu)(h:B1 w v l)(ob:Nat)(od:Int)(hw:A7 w ob 0 (A0 od)):
 Ag 159 #[v,.func (Fn.func 111) #[] #[A5 ob]] w λe w'=>∃i:Int,e=.returned (A0 i)/\decide (0<=i)=l.any (λp=>decide (od<=p.2.1))/\A4 Aa w w':=by
 obtain⟨va,vcap,rfl,v1,v2,v3,-⟩:=B8 h;unfold maxLen at v2;have H:=A1 h;have aK:=A1 hw;have aJ:=A1 v3
 go_enter func159,ntmps159
 go_wp2;go_loopw [8] (λiv wr=>∃k:Nat,iv=A0 k/\k<=l.length/\Hid ((l.take k).any (λp=>decide (od<=p.2.1))=false/\A4 Aa w wr)) (λiv _=>l.length-(intOf iv).toNat)
 ·exact⟨0,rfl,iC,iE,A4.C _ _⟩
 ·obtain⟨k,rfl,hk,hI⟩:=hrel;have⟨i1,i2⟩:=hI.o;by_cases z:k<l.length
  ·obtain⟨g,rfl⟩:=aJ.o iC;have⟨q1,q2,q3⟩:=HK l k z;have O:l.take (k+1)=l.take k++[l[k]'z]:=Ds z;have E:=BT z;generalize hp:(l[k]'z)=p at q1 q2 q3 O E;have e1:=i2.ad (Bu H.o rfl q1);have e2:=i2.ad (Bu H.o rfl q2);have e3:=i2.ad (Bu H.o rfl q3);have X:=A1 (Yo wr ob od p (i2.ad aK.o));have Y:=A1 i2;(have aH:Hid (decide (od<=p.2.1)=false->(l.take (k+1)).any (λp=>decide (od<=p.2.1))=false):=λh=>by rw[O,Ww,i1];simp at h ⊢;exact h);have aG:Hid (decide (od<=p.2.1)=true->l.any (λp=>decide (od<=p.2.1))=true):=λh=>Mn.2 ⟨p,E,h⟩;generalize hd:decide (od<=p.2.1)=d at X aH aG;obtain⟨p1,p2,p3⟩:=p;unfold DO at X;dsimp only at e1 e2 e3 X;have aA:(k:Int)<(l.length:Int):=iC;have aD:=BJ k;cases d with
   | true=>
    have aE:=A1 (aG.o rfl);go_wp2_with (fail);refine X.k ?_;rintro w6 L;have I:=A1 L;go_wp2;go_ret;exact⟨_,rfl,by rw[aE.o];exact CN aD,Y.o.tr I.o⟩
   | false=>
    have aF:=A1 (aH.o rfl);go_wp2_with (fail);refine X.k ?_;rintro w6 L;have I:=A1 L;go_wp2;go_roundw
    ·exact⟨k+1,by go_num,iC,aF.o,Y.o.tr I.o⟩
    ·simp[intOf];omega
  ·have aB:k=l.length:=iC;subst aB;rw[C5]at i1;have aI:=A1 i1;have Y:=A1 i2;(have aA:¬((l.length:Int)<(l.length:Int)):=iC);clear hI i1 i2;go_wp2;go_ret;exact⟨_,rfl,by rw[aI.o];rfl,Y.o⟩
def A22(w:gC)(v:gD)(l:gF Pu)(h:B1 w v l)(z:Nat)(od:Int)(O:A7 w z 0 (A0 od)):
 Ag 110 #[v,.func (Fn.func 111) #[] #[A5 z]] w (Aj (.bool (l.any (λp=>decide (od<=p.2.1)))) λw'=>A4 Aa w w'):=by
 have E:=A1 (A1Q w v l h z od O);obtain⟨va,vcap,rfl,v1,v2,-⟩:=B8 h;generalize hd:l.any (λp=>decide (od<=p.2.1))=d at E ⊢
 go_enter func110,ntmps110
 go_wp2_with (fail);refine E.m ?_;rintro e w1⟨i,rfl,X,Y⟩;have I:=A1 X;have L:=A1 Y;go_wp2;go_ret;exact⟨by rw[<-I.o];rfl,L.o⟩
end
section
def A2i(w:gC)(x y:gD)(d z:gF Pu)(h1:B1 w x d)(h2:B1 w y z):
 Ag 114 #[x,y] w (Aj (.bool (decide (d=z))) λw'=>A4 Aa w w'):=by
 obtain⟨va,vcap,rfl,v1,v2,v3,-⟩:=B8 h1;obtain⟨ua,ucap,rfl,u1,u2,u3,-⟩:=B8 h2;unfold maxLen at v2 u2;have aL:=A1 h1;have aO:=A1 h2;have aU:=A1 v3;have aT:=A1 u3;by_cases hl:d.length=z.length
 case neg=>
  have aJ:¬d=z:=λe=>hl (by rw[e]);rw[CO aJ];have aP:((d.length:Int)!=(z.length:Int))=true:=by simp;omega
  go_enter func114,ntmps114
  go_wp2;go_ret;exact⟨rfl,A4.C _ _⟩
 case pos=>
 have aI:=A1 hl;have aP:((d.length:Int)!=(z.length:Int))=false:=by simp;omega
 go_enter func114,ntmps114
 go_wp2;go_loopw [13] (λiv wr=>∃k:Nat,iv=A0 k/\k<=d.length/\Hid (d.take k=z.take k/\A4 Aa w wr)) (λiv _=>d.length-(intOf iv).toNat)
 ·exact⟨0,rfl,iC,iE,A4.C _ _⟩
 ·obtain⟨k,rfl,hk,hI⟩:=hrel;have⟨i1,i2⟩:=hI.o;by_cases L:k<d.length
  ·(have E:k<z.length:=by have:=aI.o;omega);obtain⟨g,rfl⟩:=aU.o iC;obtain⟨g',rfl⟩:=aT.o iC;have⟨p1,p2,p3⟩:=HK d k L;have⟨q1,q2,q3⟩:=HK z k E;have aD:d.take (k+1)=d.take k++[d[k]'L]:=Ds L;have aE:z.take (k+1)=z.take k++[z[k]'E]:=Ds E;(have O:d=z->(d[k]'L)=(z[k]'E):=λe=>by subst e;rfl);obtain⟨p,hp⟩:=iG ((d[k]'L));obtain⟨q,hq⟩:=iG ((z[k]'E));rw[hp]at p1 p2 p3 aD O;rw[hq]at q1 q2 q3 aE O;(have aQ:Hid (p=q->d.take (k+1)=z.take (k+1)):=λe=>by rw[aD,aE,i1,e]);have aA:Hid (¬p=q->decide (d=z)=false):=λh=>CO λe=>h (O e);have aR:Hid (∀X,A4 Aa wr X->A7 X g (k*3) (A0 p.1)/\A7 X g (k*3+1) (A0 p.2.1)/\A7 X g (k*3+2) (A0 p.2.2)/\A7 X g' (k*3) (A0 q.1)/\A7 X g' (k*3+1) (A0 q.2.1)/\A7 X g' (k*3+2) (A0 q.2.2)):=λX hx=>
    ⟨hx.ad (i2.ad (Bu aL.o rfl p1)),hx.ad (i2.ad (Bu aL.o rfl p2)),hx.ad (i2.ad (Bu aL.o rfl p3)),hx.ad (i2.ad (Bu aO.o rfl q1)),hx.ad (i2.ad (Bu aO.o rfl q2)),hx.ad (i2.ad (Bu aO.o rfl q3))⟩
   have aF:=A1 i2;obtain⟨pa,pb,pc⟩:=p;obtain⟨Y,qb,qc⟩:=q;dsimp only at aR;have aK:(k:Int)<(d.length:Int):=iC;have hkj:(k:Int)<(z.length:Int):=iC;have hk0:=BJ k;have aS:=aR.o wr.drew (A4.C _ wr).aa;clear hI i1 i2 p1 p2 p3 q1 q2 q3 aD aE O hp hq E;go_wp2;refine Bq (λw'=>A7 w' g (k*3) (A0 pa)/\A7 w' g (k*3+1) (A0 pb)/\A7 w' g (k*3+2) (A0 pc)/\A7 w' g' (k*3) (A0 Y)/\A7 w' g' (k*3+1) (A0 qb)/\A7 w' g' (k*3+2) (A0 qc)) 8
    (Ba [0,1,2,3,4,5,6,7] []) aS ?_
   iterate 8 refine B4 ?_
   refine Bl ?_;by_cases I:(pa,pb,pc)=(Y,qb,qc)
   ·have aN:=A1 (aQ.o I);(obtain⟨rfl,rfl,rfl⟩:pa=Y/\pb=qb/\pc=qc:=by simpa using I);clear I aQ aA;go_wp2;go_roundw
    ·exact⟨k+1,by go_num,iC,aN.o,aF.o.aa⟩
    ·simp[intOf];omega
   ·have aB:=A1 (aA.o I);have aM:¬pa=Y\/(pa=Y/\¬pb=qb)\/(pa=Y/\pb=qb/\¬pc=qc):=by
     by_cases ha:pa=Y
     ·by_cases hb:pb=qb
      ·exact .inr (.inr ⟨ha,hb,λhc=>I (by rw[ha,hb,hc])⟩)
      ·exact .inr (.inl ⟨ha,hb⟩)
     ·exact .inl ha
    clear I aQ aA;rcases aM with ha|⟨rfl,hb⟩|⟨rfl,rfl,hc⟩
    ·(have aG:(pa==Y)=false:=by simpa using ha);go_wp2;go_ret;exact⟨by rw[aB.o];rfl,aF.o.aa⟩
    ·(have aG:(pb==qb)=false:=by simpa using hb);go_wp2;go_ret;exact⟨by rw[aB.o];rfl,aF.o.aa⟩
    ·(have aG:(pc==qc)=false:=by simpa using hc);go_wp2;go_ret;exact⟨by rw[aB.o];rfl,aF.o.aa⟩
  ·have aH:k=d.length:=iC;have he:d=z:=by
    have h1:=i1;rw[aH,C5]at h1;rw[aI.o,C5]at h1;exact h1
   have aF:=A1 i2;(have aK:¬((k:Int)<(d.length:Int)):=iC);have aV:=A1 he;clear hI i1 i2 he aH;go_wp2;go_ret;exact⟨by rw[CN aV.o];rfl,aF.o⟩
def YF{aB b:Nat}(w:gC)(O X:Nat)(x:Int×gF Pu)(h:JV w aB b O x)(pv:gD)(l:gF Pu)(hp:A7 w X 0 pv)(hl:B1 w pv l):
 Ag 113 #[A5 O,A5 X] w (Aj (.bool (decide (x.2=l))) λw'=>A4 Aa w w'):=by
 obtain⟨sv,s1,s2,-,-⟩:=h;obtain⟨sa,E,rfl,c1,c2,-⟩:=B8 s2;obtain⟨pa,z,rfl,d1,d2,-⟩:=B8 hl;have f4:A7 w.drew O 4 (.slice sa x.2.length E):=s1.c4;have L:A7 w.drew X 0 (.slice pa l.length z):=hp;have aA:=A1 (A2i w.drew _ _ x.2 l (Au s2 λ_ _=>rfl) (Au hl λ_ _=>rfl));generalize hd:decide (x.2=l)=d at aA ⊢;generalize hn1:x.2.length=n1 at aA f4
 go_enter func113,ntmps113
 go_wp2;refine Bq (λw'=>A7 w' O 4 (.slice sa n1 E)/\A7 w' X 0 (.slice pa l.length z)) 6
  (Ba [0,1,2,3,4,5] [5]) ⟨f4,L⟩ ?_
 iterate 5 refine B4 ?_
 refine Bf λK hK=>?_;go_simp;refine aA.k ?_;rintro w6 I;refine hK _ _ ⟨I.ad f4,I.ad L⟩ (λhS=>?_);have Y:Hid (A4 Aa w w6):=((A4.C _ w).aa).tr I;refine Bl ?_;go_wp2;go_ret;exact⟨rfl,Y.o⟩
def A1R{aO b:Nat}(w:gC)(v:gD)(sd:gF (Int×gF Pu))(h:GY w aO b v sd)(pb:Nat)(pv:gD)(l:gF Pu)(hp:A7 w pb 0 pv)(hl:B1 w pv l):
 Ag 112 #[v,.func (Fn.func 113) #[] #[A5 pb]] w λe w'=>
  ((e=.returned (A0 (-1))/\sd.find? (λs=>decide (s.2=l))=none)\/∃(k:Nat) (hk:k<sd.length),e=.returned (A0 k)/\sd.find? (λs=>decide (s.2=l))=some (sd[k]'hk))/\A4 Aa w w':=by
 obtain⟨X,j1,j2,j3,j4⟩:=h;obtain⟨va,vcap,rfl,v1,v2,v3,-⟩:=B8 j2;unfold maxLen at v2;have aP:=A1 j2;have aN:=A1 j4;have G:=A1 v3;have aM:=A1 hp;have aK:=A1 hl
 go_enter func112,ntmps112
 go_wp2;go_loopw [8] (λiv wr=>∃k:Nat,iv=A0 k/\k<=sd.length/\Hid ((sd.take k).find? (λs=>decide (s.2=l))=none/\A4 Aa w wr)) (λiv _=>sd.length-(intOf iv).toNat)
 ·exact⟨0,rfl,iC,iE,A4.C _ _⟩
 ·obtain⟨k,rfl,hk,hI⟩:=hrel;have⟨i1,i2⟩:=hI.o;by_cases z:k<sd.length
  ·have E:k<X.length:=iC;obtain⟨g,rfl⟩:=G.o iC;have hc:A7 w g k (A5 (X[k]'E)):=Bu aP.o rfl (by simp[H7,E]);have O:=aN.o k E z;have aA:sd=sd.take k++(sd[k]'z):: sd.drop (k+1):=by
    conv=>lhs;rw[<-Ec k sd,FY z]
   have Y:sd.take (k+1)=sd.take k++[sd[k]'z]:=Ds z;generalize aI:(X[k]'E)=gb at hc O;have e1:=i2.ad hc;have SI:=A1 (YF wr gb pb (sd[k]'z) (O.ak i2) pv l (i2.ad aM.o) (Au aK.o λg hg=>i2.Al g (Aw aK.o hg) (λh=>h)));have aB:=A1 i2;have aJ:Hid (decide ((sd[k]'z).2=l)=false->(sd.take (k+1)).find? (λs=>decide (s.2=l))=none):=λh=>by
    rw[Y,A4U,i1,List.find?_cons_of_neg (by rw[h];simp)];rfl
   have aF:Hid (decide ((sd[k]'z).2=l)=true->sd.find? (λs=>decide (s.2=l))=some (sd[k]'z)):=λh=>by
    have e:(sd.take k++(sd[k]'z):: sd.drop (k+1)).find? (λs=>decide (s.2=l))=some (sd[k]'z):=by
     rw[A4U,i1,List.find?_cons_of_pos (by exact h)];rfl
    rwa [<-aA]at e
   generalize hd:decide ((sd[k]'z).2=l)=d at SI aJ aF;have aD:(k:Int)<(sd.length:Int):=iC;have hk0:=BJ k;clear hI i1 i2 hc O aA Y aI hd;cases d with
   | true=>
    have aG:=A1 (aF.o rfl);clear aJ aF;go_wp2_with (fail);refine SI.k ?_;rintro w6 I;have L:=A1 I;go_wp2;go_ret;exact⟨.inr ⟨k,z,rfl,aG.o⟩,aB.o.tr L.o⟩
   | false=>
    have aH:=A1 (aJ.o rfl);go_wp2_with (fail);refine SI.k ?_;rintro w6 I;have L:=A1 I;clear I SI;go_wp2;go_roundw
    ·exact⟨k+1,by go_num,iC,aH.o,aB.o.tr L.o⟩
    ·simp[intOf];omega
  ·have aE:k=sd.length:=iC;subst aE;rw[C5]at i1;have aL:=A1 i1;have aB:=A1 i2;(have aD:¬((sd.length:Int)<(sd.length:Int)):=iC);clear hI i1 i2;go_wp2;go_ret;exact⟨.inl ⟨rfl,by simpa using aL.o⟩,aB.o⟩
end
def Ug(sd:gF (Int×gF Pu))(od:Int)(l:gF Pu)(r:gF (gF Pu)):BY sd od (l::r)=if l.any (λp=>decide (od<=p.2.1))=false then BY sd od r else
 match sd.find? λs=>decide (s.2=l) with
 | none=>((BY sd od r).1,l::(BY sd od r).2)
 | some s=>(s.1::(BY sd od r).1,(BY sd od r).2):=rfl
def Uf(sd:gF (Int×gF Pu))(od:Int):∀ws:gF (gF Pu),(BY sd od ws).1.length+(BY sd od ws).2.length<=ws.length/\(∀n∈(BY sd od ws).1,∃s∈sd,s.1=n)/\(∀l∈(BY sd od ws).2,l∈ws)/\Dn (BY sd od ws).2<=Dn ws
 | []=>⟨An _,(λn h=>absurd h Wi),(λl z=>z),An _⟩
 | l::r=>by
  have⟨h1,h2,h3,h4⟩:=Uf sd od r;rw[Ug,Oq];split
  ·exact⟨by simp;omega,h2,λx d=>BC _ (h3 x d),iC⟩
  ·split
   ·refine⟨by simp;omega,h2,λx d=>?_,by rw[Oq];omega⟩;rcases BS.1 d with rfl|d
    ·exact BI
    ·exact BC _ (h3 x d)
   ·rename_i s E;refine⟨by simp;omega,λn h=>?_,λx d=>BC _ (h3 x d),by dsimp only;omega⟩;rcases BS.1 h with rfl|h
    ·exact⟨s,A4K E,rfl⟩
    ·exact h2 n h
def Ox{P:PD}:∀(E:gF Int) (l:gF (Int×gF Pu)),P.sd E=some l->∀x∈l,x.1∈E
 | [],l,h=>by cases h;exact λx z=>by cases z
 | n::r,l,h=>by
  unfold PD.sd at h;cases z:P.CD n with
  | none=>rw[z]at h;cases h
  | some q=>
   rw[z]at h;dsimp only at h;cases hy:P.sd r with
   | none=>rw[hy]at h;cases h
   | some y=>
    rw[hy]at h;cases h;intro x d;rcases BS.1 d with rfl|d
    ·exact BI
    ·exact BC _ (Ox r y hy x d)
section
variable{N ab b a c m B:Nat}{A:Ar}{P:PD}{FT:Nat->Prop}
structure Im (w5 w:gC) (B0:Nat) (vk vf:gD) (kk:gF Int) (ff:gF (gF Pu)):Prop where
 Am:A4 (λ_=>False) w5 w
 Hr:DY w vk kk
 Kx:∀g,vk.ownBlock=some g->w5.heap.size<=g
 AW:∃fvs:gF gD,fvs.length=ff.length/\w.ownsRow 0 97 1 vf ff.length fvs/\(∀g,vf.ownBlock=some g->w5.heap.size<=g)/\(∀k (h1:k<fvs.length) (h2:k<ff.length),B1 w5 (fvs[k]'h1) (ff[k]'h2))/\∀x∈fvs,∀g,x.ownBlock=some g->B0<=g
def Im.aL{Y w w':gC}{E:Nat}{L I:gD}{O:gF Int}{X:gF (gF Pu)}(h:Im Y w E L I O X)(z:A4 Aa w w'):Im Y w' E L I O X:=by
 have⟨fvs,f1,f2,f3,f4,f5⟩:=h.AW;exact⟨h.Am.tr z,Au h.Hr λg d=>z.Al g (Aw h.Hr d) (λh=>h),h.Kx,fvs,f1,Au f2 λg d=>z.Al g (Aw f2 d) (λh=>h),f3,f4,f5⟩
def Im.gr{w5 w w':gC}{aA:Nat}{O E Y:gD}{z:gF Int}{ff:gF (gF Pu)}{n:Int}(h:Im w5 w aA O Y z ff)(L:App w w' 3 1 O E (z.length+1) (Ee z++Ee [n])):Im w5 w' aA E Y (z++[n]) ff:=by
 have hc:=L.Am (S:=λk=>O.oB k) λ_ h=>h;have⟨fvs,f1,f2,f3,f4,f5⟩:=h.AW;refine⟨h.Am.AF hc λx X hlt=>by have:=h.Kx x X;omega,?_,λg d=>?_,fvs,f1,Au f2 λg d=>hc.Al g (Aw f2 d) λX=>Ja f2 h.Hr iF d X,f3,f4,f5⟩
 ·have e:(z++[n]).length=z.length+1:=iE
  unfold DY;rw[LK,e];exact L.AB
 ·rcases L.BX with I|I
  ·rw[I]at d;exact h.Kx g d
  ·rw[I]at d;cases d;exact h.Am.Ak
def Im.addF{w5 w w':gC}{aA:Nat}{vk L X x:gD}{kk:gF Int}{z:gF (gF Pu)}{l:gF Pu}(h:Im w5 w aA vk L kk z)(Y:B1 w5 x l)(aD:∀g,x.ownBlock=some g->aA<=g)(d:gF gD)(f1:d.length=z.length)(f2:w.ownsRow 0 97 1 L z.length d)(f3:∀g,L.ownBlock=some g->w5.heap.size<=g)(f4:∀k (I:k<d.length) (h2:k<z.length),B1 w5 (d[k]'I) (z[k]'h2))(f5:∀x∈d,∀g,x.ownBlock=some g->aA<=g)(hA:App w w' 97 1 L X (z.length+1) (d++[x])):Im w5 w' aA vk X kk (z++[l]):=by
 have hc:=hA.Am (S:=λk=>L.oB k) λ_ h=>h;refine⟨h.Am.AF hc λx Y hlt=>by have:=f3 x Y;omega,Au h.Hr λg E=>hc.Al g (Aw h.Hr E) λY=>Ja h.Hr f2 iF E Y,h.Kx,d++[x],by simp[f1],?_,λg E=>?_,λk I h2=>?_,λy O g E=>?_⟩
 ·have e:(z++[l]).length=z.length+1:=iE
  rw[e];exact hA.AB
 ·rcases hA.BX with I|I
  ·rw[I]at E;exact f3 g E
  ·rw[I]at E;cases E;exact h.Am.Ak
 ·by_cases hk:k<z.length
  ·rw[Fy (show k<d.length by omega),Fy hk];exact f4 k iC hk
  ·(have aB:k=z.length:=by simp at h2;omega);have e1:(d++[x])[k]'I=x:=by
    (have:k=d.length:=iC);subst this;simp
   (have e2:(z++[l])[k]'h2=l:=by subst aB;simp);rw[e1,e2];exact Y
 ·rcases AX.1 O with O|O
  ·exact f5 y O g E
  ·rw[Ij.1 O]at E;exact aD g E
end
section
variable{N ab b a c m B:Nat}{A:Ar}{P:PD}{FT:Nat->Prop}
def A3R(hS:FR N)(hN:N<=134217728)(w:gC)(h:AD w ab b A P FT)(dB:∀k,FT k->k<w.heap.size)(wa od:Int)(hw:1<=wa/\wa<=4611686018427387904)(hall:∀sd,P.sd A.ix.sd=some sd->(sd.flatMap (·.2)++(P.pd A.j.Ao).1).length<=N/\∀p∈sd.flatMap (·.2)++(P.pd A.j.Ao).1,Bo p)(aI:A.ix.sd.length<=1073741824/\A.ix.sd.length*m<=4398046511104)(cP:0<=A.Ac/\A.Ac+N<=9223372036854775807)(bS:Ay (A.j.Ac+1))(a7:∀x∈A.ix.sd,Ay x)(hF:Fit P a c m)(hl:CV (a+N+2) (c+2*a+2*N+4) (m+37*N+12))(hm:A.j.Ao.length*m<=70368744177664)(hn:∀n∈A.ix.sd,CK n)(bJ:∀n∈A.j.Ao,CK n)(cX:A.j.Ao.length<=1073741824)(hL:Lets B w)(bV:∀k,FT k->B<=k):
 Ag 70 #[A5 ab,A0 wa,A0 od] w (Aj (A0 (A.aM P wa od).1) λw'=>Ap w FT w' (λw' aK=>AD w' ab b (A.aM P wa od).2.1 (A.aM P wa od).2.2 aK)):=by
 have⟨i0,hi,hz0,hz1,hz2⟩:=DQ J5;obtain⟨j0,hj,eK,dL,dX⟩:=Px;obtain⟨s0,Y,dT,eT,dK⟩:=SR;have⟨xb,jb,sv,ov,lv,jo,Ft,hv,hsub⟩:=id h;have a6:CV a c m:=⟨by have:=hl.a;omega,by have:=hl.c;omega,by have:=hl.m;omega⟩;have k0:A4 Aa w (w.aC #[A0 od] 3):=(A4.C _ w).ai _;have b5:(w.aC #[A0 od] 3).heap[w.heap.size]?=some (.cells #[A0 od] 3 (0,0)):=Bn w _;have dE:Hid (P.sd A.ix.sd=none->A.aM P wa od=(7,A,P)):=λh=>by unfold Ar.aM;rw[h]
 have dG:Hid (∀sd,P.sd A.ix.sd=some sd->(P.pd A.j.Ao).2≠0->A.aM P wa od=((P.pd A.j.Ao).2,A,P)):=λsd h hp=>by unfold Ar.aM;rw[h];dsimp only;rw[Ai hp]
 have dI:Hid (∀sd,P.sd A.ix.sd=some sd->(P.pd A.j.Ao).2=0->A.aM P wa od=A.aG P ((BY sd od (C3 wa (sd.flatMap (·.2)++(P.pd A.j.Ao).1))).1.mergeSort λx y=>decide (x<=y)) (BY sd od (C3 wa (sd.flatMap (·.2)++(P.pd A.j.Ao).1))).2):=λsd h hp=>by
  unfold Ar.aM;rw[h];dsimp only;rw[Af (by simp[hp])]
 obtain⟨R,hR⟩:=iG (A.aM P wa od);rw[hR]at dE dG dI ⊢;have H:=A1 h;have aM:=A1 dB;have aD:Hid (∀E n,A4 Aa w E->R=(n,A,P)->R.1=n/\Ap w FT E (λw' aK=>AD w' ab b R.2.1 R.2.2 aK)):=λE n hc he=>by
  subst he;exact⟨rfl,hc.aS,FT,H.o.ak hc,λk hk=>Bp (aM.o k hk) hc.Ak,λk hk=>.inl hk⟩
 have dU:=A1 (Yv _ (hv.ak k0) hF a6 hn aI.1 (hL.aL k0));have eD:Hid (∀E,A4 Aa w E->_):=λE hc=>ON E (hv.ak hc).dk (hv.ak hc).lt (hv.ak hc).jn hF a6 hm bJ (hL.aL hc);have e4:Hid (∀E,A4 Aa w E->E.cell? (A9 ab 2)=some (A5 jb)):=λE hc=>(hv.ak hc).Ae.c2
 have eM:Hid (∀sd,P.sd A.ix.sd=some sd->∀E dQ v,GY E dQ b v sd->Ag 101 #[v] E λe w'=>∃v',e=.returned v'/\B1 w' v' (sd.flatMap (·.2))/\(∀g,v'.oB g->E.heap.size<=g)/\A4 Aa E w'):=λsd Y E dQ v z=>by
  have⟨q1,q2⟩:=Oy hF A.ix.sd sd Y;exact T2 E dQ v sd z (by rw[q1];exact aI.1) q2 (by rw[q1];exact aI.2)
 have bB:Hid (∀sd,P.sd A.ix.sd=some sd->∀E v,B1 E v (sd.flatMap (·.2)++(P.pd A.j.Ao).1)->_):=λsd Y E v z=>Uz hS hN E v wa _ (hall sd Y).1 z (λp hp=>((hall sd Y).2 p hp).2.1) hw
 have bL:Hid (∀sd,P.sd A.ix.sd=some sd->(P.pd A.j.Ao).2=0->∀E kv fv,A4 Aa w E->DY E kv ((BY sd od (C3 wa (sd.flatMap (·.2)++(P.pd A.j.Ao).1))).1.mergeSort λx y=>decide (x<=y))->(∀g,kv.oB g->w.heap.size<=g)->Ql E fv (BY sd od (C3 wa (sd.flatMap (·.2)++(P.pd A.j.Ao).1))).2 FT->
  Ag 107 #[A5 ab,kv,fv] E (Aj (A0 R.1) λw'=>Ap w FT w' (λw' aK=>AD w' ab b R.2.1 R.2.2 aK))):=λsd Y hp E kv fv hc hk bN hf=>by
  have⟨z1,z2,z3⟩:=PE wa (sd.flatMap (·.2)++(P.pd A.j.Ao).1);have⟨y1,y2,y3,y4⟩:=Uf sd od (C3 wa (sd.flatMap (·.2)++(P.pd A.j.Ao).1));have⟨n1,n2⟩:=hall sd Y;have aZ:∀n∈(BY sd od (C3 wa (sd.flatMap (·.2)++(P.pd A.j.Ao).1))).1.mergeSort (λx y=>decide (x<=y)),n∈A.ix.sd:=λn hn=>by
   obtain⟨s,eG,rfl⟩:=y2 n (A4L.1 hn);exact Ox _ _ Y s eG
  rw[dI.o sd Y hp];have b9:((BY sd od (C3 wa (sd.flatMap (·.2)++(P.pd A.j.Ao).1))).1.mergeSort (λx y=>decide (x<=y))).length=(BY sd od (C3 wa (sd.flatMap (·.2)++(P.pd A.j.Ao).1))).1.length:=Qz _
  refine(Sh E (H.o.ak hc) (λk hk=>Bp (aM.o k hk) hc.Ak) kv _ hk (λg L=>⟨λz=>by have:=bN g L;have:=aM.o g z;omega,AO hL.1 (bN g L)⟩) fv _ hf
   (λl hl=>⟨λp hp=>n2 p ((z3 l (y3 l hl)).1 p hp),by have:=(z3 l (y3 l hl)).2;omega⟩) ⟨cP.1,iC⟩ bS (λx z=>a7 x (aZ x z)) hF ⟨by have:=hl.a;omega,by have:=hl.c;omega,by have:=hl.m;rw[b9];omega⟩ (by rw[b9];omega) hn bJ (λx z=>hn x (aZ x z)) aI.1 cX (hL.aL hc) bV).mono ?_
  rintro e w'⟨h1,h2⟩;exact⟨h1,Ap.aZ (hc.aS) (λk hk=>hk.elim .inl λh=>.inr (bN k h)) h2⟩
 have a0:Hid (∀sd,P.sd A.ix.sd=some sd->(sd.flatMap (·.2)++(P.pd A.j.Ao).1).length<=134217728/\(C3 wa (sd.flatMap (·.2)++(P.pd A.j.Ao).1)).length<=134217728):=λsd Y=>by
  have h1:=(hall sd Y).1;have h2:=(PE wa (sd.flatMap (·.2)++(P.pd A.j.Ao).1)).1;omega
 have dS:Hid (∀sd,P.sd A.ix.sd=some sd->∀x∈sd,Ay x.1):=λsd Y x z=>a7 _ (Ox _ _ Y x z);have dN:=A1 k0;have cI:=A1 b5;clear hR h hv dB hsub hall aI cP bS a7 hF hl hm hn bJ cX hL bV a6 k0 b5 hw hS
 go_enter func70,ntmps70
 go_wp2_with (fail);refine dU.m ?_;rintro e w1 (⟨Y,rfl,hc1⟩|⟨sd,v1,Y,rfl,hv1,hc1⟩)
 ·have cS:=A1 (aD.o w1 7 (dN.o.tr hc1) (dE.o Y));clear Y hc1 dU dE dG dI aD eD eM bB bL;go_wp2;go_ret;exact⟨by rw[cS.o.1];rfl,cS.o.2⟩
 have aJ:=A1 Y;have cV:=A1 hv1;have dH:Hid (A4 Aa w w1):=dN.o.tr hc1;have cT:Hid (w1.cell? (A9 w.heap.size 0)=some (A0 od)):=hc1.ad (by simp only[World.cell?,cI.o];rfl);have aL:=A1 (eD.o w1 dH.o);have d2:=e4.o w1 dH.o;have aT:=A1 (dG.o sd aJ.o);have I:=A1 (bL.o sd aJ.o);have aA:=A1 (bB.o sd aJ.o);have O:=A1 (a0.o sd aJ.o);have aO:=A1 (eM.o sd aJ.o);clear Y hv1 hc1 dU dE dG dI eD eM bB bL a0 dS dN cI;obtain⟨ps,cB⟩:=iG ((P.pd A.j.Ao).1);obtain⟨pe,cY⟩:=iG ((P.pd A.j.Ao).2);rw[cB]at aL I aA O;rw[cY]at aL I aT;clear cB cY;go_wp2_with (fail);refine aL.m ?_;rintro e w2⟨v2,rfl,aU,cF,aG⟩;by_cases hp:pe=0
 case neg=>
  have hpb:(pe !=0)=true:=by simpa using hp
  have cS:=A1 (aD.o w2 pe (dH.o.tr aG) (aT.o hp));clear aU cF aG aL I aA aO aD aT hp;go_wp2;go_ret;exact⟨by rw[cS.o.1];rfl,cS.o.2⟩
 case pos=>
 subst hp;obtain⟨pl,cJ⟩:=iG (sd.flatMap (·.2));rw[cJ]at I aA O aO;have e6:Hid (A4 Aa w w2):=dH.o.tr aG;have bA:=A1 (cV.o.ak aG);have bX:=A1 (aG.ad cT.o);have bU:=A1 (aO.o w2 _ v1 bA.o);obtain⟨v2a,v2c,rfl,v21,eU,-⟩:=B8 aU;unfold maxLen at eU;have cN:=A1 aU;clear cJ aU cF aG aL aD aT aO cV cT d2;go_wp2_with (fail);refine bU.m ?_;rintro e w3⟨v3,rfl,bF,cZ,bD⟩;obtain⟨cG,cO,rfl,v31,dJ,-⟩:=B8 bF;unfold maxLen at dJ;have bQ:=A1 bF;have dA:=A1 cZ;have b2:=A1 bD;have a3:=A1 (Src.bN GW (Au cN.o λg L=>bD.Al g (Aw cN.o L) (λh=>h)) (HJ ps));have bP:Hid ((pl.length+ps.length)*24<=140737488355328):=by have:=O.o.1;rw[B3]at this;unfold Hid;omega
 clear bF cZ bD bU;go_wp2_with (at_builtin;refine CX rfl (.tmp 35) (.tmp 36) 97 97 rfl 113 i0 _ 3 24 GW hi hz0 hz1 hz2 rfl iF (.slice cG pl.length cO) pl.length (B5 pl) (by rfl) bQ.o _ ps.length _ (by rfl) a3.o bP.o ?_;intro a4 cM w4 hA;have dP:=A1 hA;clear hA);have bW:=dP.o.Am (S:=λk=>(Value.slice cG pl.length cO).oB k) λ_ h=>h;have cC:B1 w4 (.slice a4 (pl.length+ps.length) cM) (pl++ps):=by
  have e:(pl++ps).length=pl.length+ps.length:=iE
  unfold B1;rw[It,e];exact dP.o.AB
 have aN:A4 Aa w2 w4:=b2.o.AF bW λx z dV=>by have:=dA.o x z;omega
 have eX:=A1 (aA.o w4 _ cC);have b8:=A1 (bA.o.ak aN);have cD:=A1 (aN.ad bX.o);have eW:Hid (A4 Aa w w4):=e6.o.tr aN;clear bW cC aN aA bA bX dP a3 bP b2 dA bQ;refine eX.m ?_;rintro e w5⟨v5,vs,rfl,aQ,aW⟩;obtain⟨ws,cH⟩:=iG (C3 wa (pl++ps));rw[cH]at aQ I O;obtain⟨v5a,v5c,rfl,v51,eC,cA,-⟩:=B8 aQ.Bj;unfold maxLen at eC;have aV:=A1 aQ;have e3:=A1 cA;have cL:=A1 (b8.o.ak aW);have b6:=A1 (aW.ad cD.o);have eQ:Hid (A4 Aa w w5):=eW.o.tr aW;have a9:Hid (ws.length<=134217728):=O.o.2;obtain⟨ob,b0⟩:=iG w.heap.size;rw[b0]at b6 ⊢;clear cH aQ cA aW eX b8 cD b0;go_wp2;go_loopw [10,11,41] (λvk vf iv wr=>∃(k:Nat) (kk:gF Int) (ff:gF (gF Pu)),iv=A0 k/\k<=ws.length/\kk.length+ff.length<=k/\Hid (Im w5 wr w4.heap.size vk vf kk ff/\BY sd od ws=(kk++(BY sd od (ws.drop k)).1,ff++(BY sd od (ws.drop k)).2))) (λ_ _ iv _=>ws.length-(intOf iv).toNat)
 ·exact⟨0,[],[],rfl,iC,iE,⟨A4.C _ _,Cq _ _ _ _,λg L=>by simp[Value.ownBlock]at L,[],rfl,Cq _ _ _ _,λg L=>by simp[Value.ownBlock]at L,λk h1=>by simp at h1,λx z=>by cases z⟩,iE⟩
 ·obtain⟨k,kk,ff,rfl,hk,bG,hI⟩:=hrel;have⟨i1,i2⟩:=hI.o;obtain⟨ka,kc,rfl,kc1,eL,-⟩:=B8 i1.Hr;have⟨fvs,f1,f2,f3,f4,f5⟩:=i1.AW;obtain⟨fa,fc,rfl,fc1,dR,-⟩:=B8 f2;unfold maxLen at eL dR;by_cases aH:k<ws.length
  ·(have aF:k<vs.length:=by have:=aV.o.Be;omega);obtain⟨g,rfl⟩:=e3.o iC;have hc:=Bu aV.o.Bj (g:=g) rfl (show vs[k]?=some (vs[k]'aF) from Dx aF);have z:=aV.o.ls k aF aH;have bC:=aV.o.li (vs[k]'aF) (BT aF);have bM:=FY aH;obtain⟨x,bY⟩:=iG ((vs[k]'aF));obtain⟨l,cE⟩:=iG ((ws[k]'aH));rw[bY]at hc z bC;rw[cE]at z bM;rw[bM,Ug]at i2;obtain⟨xa,xc,rfl,x1,x2,-⟩:=B8 z;have e1:=i1.Am.ad hc;have kA:A4 Aa wr (wr.aC #[.slice xa l.length xc] 97):=(A4.C _ wr).ai _;have aR:A4 Aa w5 (wr.aC #[.slice xa l.length xc] 97):=i1.Am.tr kA;have pA:(wr.aC #[.slice xa l.length xc] 97).heap[wr.heap.size]?=some (.cells #[.slice xa l.length xc] 97 (0,0)):=Bn wr _;have pc:(wr.aC #[.slice xa l.length xc] 97).cell? (A9 wr.heap.size 0)=some (.slice xa l.length xc):=CJ pA;have b3:=A1 (A22 _ _ l (Au z λg L=>aR.Al g (Aw z L) (λh=>h)) ob od (aR.ad b6.o));have aY:=A1 i1;have eS:=A1 i2;have dZ:=A1 f1;have bO:=A1 f2;have eJ:=A1 f3;have dF:=A1 f4;have eN:=A1 f5;have eV:=A1 z;have dO:=A1 bC;have e7:=A1 aR;have bT:=A1 kA;have eZ:=A1 pc;have dW:(k:Int)<(ws.length:Int):=iC;have hk0:=BJ k;obtain⟨d,hd⟩:=iG (l.any (λp=>decide (od<=p.2.1)));rw[hd]at b3 eS;clear hI i1 i2 f1 f2 f3 f4 f5 hc z bC bM bY cE kA aR pA hd;cases d with
   | false=>
    (have a2:Hid (BY sd od ws=(kk++(BY sd od (ws.drop (k+1))).1,ff++(BY sd od (ws.drop (k+1))).2)):=by have:=eS.o;rwa [Ai rfl]at this);go_wp2_with (fail);refine b3.k ?_;rintro w6 aB;have eP:=A1 (aY.o.aL (bT.o.tr aB));clear aB b3 pc;go_wp2;go_roundw
    ·exact⟨k+1,kk,ff,by go_num,aH,JZ bG,eP.o,a2.o⟩
    ·simp[intOf];omega
   | true=>
    have a2:=A1 eS.o;rw[Af iE]at a2;have⟨gbs,g1,g2,g3,g4⟩:=cL.o;obtain⟨va,vc,rfl,va1,eB,cQ,-⟩:=B8 g2;unfold maxLen at eB;have e2:=A1 cQ;have eI:=A1 g1;have eF:=A1 g2;have eH:=A1 g4;clear cQ g1 g2 g3 g4;go_wp2_with (fail);refine b3.k ?_;rintro w6 aB;have aP:A4 Aa w5 w6:=e7.o.tr aB;have dY:=A1 (A1R w6 _ sd (cL.o.ak aP) wr.heap.size (.slice xa l.length xc) l (aB.ad eZ.o) (Au eV.o λg L=>aP.Al g (Aw eV.o L) (λh=>h)));have b1:Hid (A4 Aa wr w6):=bT.o.tr aB;have eR:=A1 aP;have eA:=A1 (aB.ad eZ.o);clear aB b3 aP pc;go_wp2_with (fail);refine dY.m ?_;rintro e w7⟨(⟨rfl,hf⟩|⟨k2,bZ,rfl,hf⟩),X⟩
    ·rw[hf]at a2;(have eE:Hid (BY sd od ws=(kk++(BY sd od (ws.drop (k+1))).1,(ff++[l])++(BY sd od (ws.drop (k+1))).2)):=by have:=a2.o;unfold Hid;rw[this];simp);have pc7:=X.ad eA.o;have k7:A4 Aa wr (w7.aC #[.slice xa l.length xc] 97):=(b1.o.tr X).ai _;have aS:=A1 (aY.o.aL k7);have a1:=A1 (Au bO.o λg L=>k7.Al g (Aw bO.o L) (λh=>h));have bH:=A1 (Src.bb (size:=1) (B:=w7.heap.size) underlying174 w7 #[.slice xa l.length xc] 97 iE 1 1 rfl (by simp[Value.oneCell']));(have bK:Hid ((ff.length+1)*24<=140737488355328):=by have:=a9.o;unfold Hid;omega);clear hf X k7 dY;go_wp2_with (at_builtin;refine CX rfl (.tmp 54) (.tmp 56) 174 174 rfl 97 s0 _ 1 24 underlying174 Y dT eT dK rfl iF (.slice fa ff.length fc) ff.length fvs (by rfl) a1.o _ 1 _ (by rfl) bH.o bK.o ?_;intro a8 dD w8 hA;have a5:=A1 hA;clear hA);have bE:=A1 (aS.o.addF eV.o dO.o fvs dZ.o a1.o eJ.o dF.o eN.o a5.o);go_roundw
     ·exact⟨k+1,kk,ff++[l],by go_num,aH,by rw[B3];exact Qq bG,bE.o,eE.o⟩
     ·simp[intOf];omega
    ·rw[hf]at a2;obtain⟨gv,rfl⟩:=e2.o iC;(have aX:k2<gbs.length:=by have:=eI.o;omega);have aE:A4 Aa w5 w7:=eR.o.tr X;have bI:=(eH.o k2 aX bZ).ak aE;have eO:=aE.ad (Bu eF.o (g:=gv) rfl (show (H7 gbs)[k2]?=some (A5 (gbs[k2]'aX)) by simp[H7,aX]));obtain⟨gb,dC⟩:=iG ((gbs[k2]'aX));rw[dC]at bI eO;obtain⟨sg,b7⟩:=iG ((sd[k2]'bZ));rw[b7]at bI a2;obtain⟨n,sl⟩:=sg;obtain⟨pv,hb,-,-,-⟩:=bI;have c3:=hb.c3;dsimp only at c3;(have eE:Hid (BY sd od ws=((kk++[n])++(BY sd od (ws.drop (k+1))).1,ff++(BY sd od (ws.drop (k+1))).2)):=by have:=a2.o;unfold Hid;rw[this];simp);have k7:A4 Aa wr (w7.aC #[A0 n] 3):=(b1.o.tr X).ai _;have aS:=A1 (aY.o.aL k7);have bH:=A1 (Src.bb (size:=1) (B:=w7.heap.size) Hw w7 #[A0 n] 3 iE 1 1 rfl (KA [n]));(have bK:Hid ((kk.length+1)*8<=140737488355328):=by have:=a9.o;unfold Hid;omega);have hk2i:(k2:Int)<(sd.length:Int):=iC;have hk20:=BJ k2;clear hf X k7 dY hb dC b7 aE;go_wp2_with (at_builtin;refine CX rfl (.tmp 58) (.tmp 66) 26 26 rfl 3 j0 _ 1 8 Hw hj eK dL dX rfl iF (.slice ka kk.length kc) kk.length (Ee kk) (by rfl) aS.o.Hr _ 1 _ (by rfl) bH.o bK.o ?_;intro a8 dD w8 hA;have a5:=A1 hA;clear hA);have bE:=A1 (aS.o.gr a5.o);go_roundw
     ·exact⟨k+1,kk++[n],ff,by go_num,aH,by rw[B3,Nat.add_right_comm];exact Qq bG,bE.o,eE.o⟩
     ·simp[intOf];omega
  ·have dM:k=ws.length:=iC;subst dM;rw[H5]at i2;(have b4:BY sd od ws=(kk,ff):=by simpa[BY] using i2);rw[b4]at I;(have dW:¬((ws.length:Int)<(ws.length:Int)):=iC);have e0:=A1 (Yl wr _ kk i1.Hr (by have:=a9.o;omega));have aY:=A1 i1;have dZ:=A1 f1;have bO:=A1 f2;have eJ:=A1 f3;have dF:=A1 f4;have eN:=A1 f5;clear hI i1 i2 f1 f2 f3 f4 f5 b4;go_wp2_with (fail);refine e0.k ?_;rintro w7⟨bR,X⟩;(have aE:A4 Aa w5 w7:=aY.o.Am.AF X λx z dV=>by have:=aY.o.Kx x z;omega);have cU:A4 Aa w w7:=eQ.o.tr aE
   have eY:=A1 (I.o trivial w7 _ (.slice fa ff.length fc) cU bR (λg L=>AO eQ.o.Ak (aY.o.Kx g L))
    ⟨fvs,dZ.o,Au bO.o λg L=>X.Al g (Aw bO.o L) (λz=>Ja bO.o aY.o.Hr iF L z),
     λk h1 h2=>Au (dF.o k h1 h2) λg L=>aE.Al g (Aw (dF.o k h1 h2) L) (λh=>h),
     λg L z=>by have:=eJ.o g L;have:=aM.o g z;have:=eQ.o.Ak;omega,
     λx z g L hf=>by have:=eN.o x z g L;have:=aM.o g hf;have:=eW.o.Ak;omega⟩)
   clear bR X aE cU e0 I;go_wp2_with (fail);refine eY.k ?_;rintro w8 hI;have e5:=A1 hI;clear hI eY;go_wp2;go_ret;exact⟨rfl,e5.o⟩
end
end
section
open Go.RowKit
structure SV (w:gC) (sb ab b:Nat) (mu ld wc A8:Int) (ro:Bool) (lv:Nat->gD) (L:Nat->gF Pt) (A:Ar) (P:PD) (F0:Nat->Prop):Prop where
 Ae:By w sb mu (.pointer (some ⟨ab,0,none⟩)) ld wc A8 ro lv
 Ed:EA w lv L
 ar:AD w ab b A P F0
 lt:∀k,F0 k->k<w.heap.size
 ns:¬F0 sb
 nr:∀k,F6 lv k->¬F0 k
def SF(w:gC)(sb ab b:Nat)(mu ld wc A8:Int)(ro:Bool)(L:Nat->gF Pt)(A:Ar)(P:PD)(FT:Nat->Prop):Prop:=
 ∃lv F0,SV w sb ab b mu ld wc A8 ro lv L A P F0/\∀k,F0 k\/Own sb lv k->FT k
section
variable{w w' w2:gC}{sb ab b:Nat}{mu aB ld wc A8 aA:Int}{ro aD:Bool}{lv lv':Nat->gD}{L L':Nat->gF Pt}{A A':Ar}{P P':PD}{F0 FT:Nat->Prop}
def SV.fF(h:SV w sb ab b mu ld wc A8 ro lv L A P F0){k:Nat}(d:F0 k\/Own sb lv k):k<w.heap.size:=by
 rcases d with d|rfl|d
 ·exact h.lt k d
 ·exact h.Ae.lt
 ·exact h.Ed.lt d
def SV.nb(h:SV w sb ab b mu ld wc A8 ro lv L A P F0):¬F6 lv sb:=h.Ed.ne h.Ae iF
def SV.Am(h:SV w sb ab b mu ld wc A8 ro lv L A P F0){S:Nat->Prop}(z:A4 S w w')(E:∀k,F0 k\/Own sb lv k->¬S k):SV w' sb ab b mu ld wc A8 ro lv L A P F0:=
 ⟨h.Ae.Am z (E sb (.inr (.inl rfl))),h.Ed.Am z λg I=>E g (.inr (.inr I)),h.ar.aK (z.av (λk d=>h.lt k d) λk d=>E k (.inl d)) z.Ak,
  λk d=>Bp (h.lt k d) z.Ak,h.ns,h.nr⟩
def SV.ak(h:SV w sb ab b mu ld wc A8 ro lv L A P F0)(d:A4 Aa w w'):SV w' sb ab b mu ld wc A8 ro lv L A P F0:=h.Am d λ_ _ h=>h
def SF.ak(h:SF w sb ab b mu ld wc A8 ro L A P FT)(E:A4 Aa w w'):SF w' sb ab b mu ld wc A8 ro L A P FT:=by
 obtain⟨lv,F0,z,d⟩:=h;exact⟨lv,F0,z.ak E,d⟩
def SV.bP(h:SV w' sb ab b mu ld wc A8 ro lv' L' A' P' F0){S:Nat->Prop}(O:A4 S w w')(E:∀k,k<w.heap.size->S k->FT k)(I:∀k,F0 k\/Own sb lv' k->FT k\/w.heap.size<=k):
 Ap w FT w' (λw' d=>SF w' sb ab b mu ld wc A8 ro L' A' P' d):=
 ⟨O.ah E,λk=>F0 k\/Own sb lv' k,⟨lv',F0,h,λ_ h=>h⟩,λ_ z=>h.fF z,I⟩
def SV.al(h:SV w sb ab b mu ld wc A8 ro lv L A P F0)(z:EB w w' sb aB (.pointer (some ⟨ab,0,none⟩)) ld wc aA aD lv lv' L'):
 SV w' sb ab b aB ld wc aA aD lv' L' A P F0:=
 ⟨z.Ae,z.Ed,h.ar.aK (z.Am.av (λk d=>h.lt k d) λk d E=>by
  rcases E with rfl|E
  ·exact h.ns d
  ·exact h.nr k E d) z.Am.Ak,λk d=>Bp (h.lt k d) z.Am.Ak,h.ns,λk d E=>by
  rcases z.AB k d with I|I
  ·exact h.nr k I E
  ·have:=h.lt k E;omega⟩
def SV.cU(h:SV w sb ab b mu ld wc A8 ro lv L A P F0)(d:∀k,F0 k\/Own sb lv k->FT k)(I:EB w w' sb aB (A5 ab) ld wc aA aD lv lv' L'):
 Ap w FT w' (λw' E=>SF w' sb ab b aB ld wc aA aD L' A P E):=
 (h.al I).bP I.Am (λk _ z=>d k (.inr z)) λk z=>by
  rcases z with z|rfl|z
  ·exact .inl (d k (.inl z))
  ·exact .inl (d _ (.inr (.inl rfl)))
  ·exact(I.AB k z).imp (λh=>d k (.inr (.inr h))) id
def SV.eD(h:SV w sb ab b mu ld wc A8 ro lv L A P F0)(d:∀k,F0 k\/Own sb lv k->FT k)(hI:Ap w F0 w' (λw' E=>AD w' ab b A' P' E)):
 Ap w FT w' (λw' E=>SF w' sb ab b mu ld wc A8 ro L A' P' E):=by
 obtain⟨X,aE,h1,h2,O⟩:=hI;have hb:=h.Ae.lt;refine(SV.bP (w':=w') (lv':=lv) (F0:=aE) ⟨h.Ae.Am X h.ns,h.Ed.Am X h.nr,h1,h2,λY=>?_,λk z Y=>?_⟩ X (λk _ z=>d k (.inl z)) λk z=>?_)
 ·rcases O _ Y with I|I
  ·exact h.ns I
  ·omega
 ·rcases O _ Y with I|I
  ·exact h.nr k z I
  ·have:=h.Ed.lt z;omega
 ·rcases z with z|z
  ·exact(O k z).imp (λh=>d k (.inl h)) id
  ·exact .inl (d k (.inr z))
def SF.CQ(h:SF w sb ab b mu ld wc A8 ro L A P FT)(o:Nat)(u:gD)(I:∀lv,By w sb mu (.pointer (some ⟨ab,0,none⟩)) ld wc A8 ro lv->By (w.setCell ⟨sb,o,none⟩ u) sb aB (.pointer (some ⟨ab,0,none⟩)) ld wc aA aD lv):
 Ap w FT (w.setCell ⟨sb,o,none⟩ u) (λw' z=>SF w' sb ab b aB ld wc aA aD L A P z):=by
 obtain⟨lv,F0,d,E⟩:=h;exact d.cU E (EB.of (I lv d.Ae) d.Ed ((A4.C (One sb) w).an rfl o u) d.nb)
def SFto.CQ(h:Ap w FT w' (λw' d=>SF w' sb ab b mu ld wc A8 ro L A P d))(o:Nat)(u:gD)(E:∀lv,By w' sb mu (.pointer (some ⟨ab,0,none⟩)) ld wc A8 ro lv->By (w'.setCell ⟨sb,o,none⟩ u) sb aB (.pointer (some ⟨ab,0,none⟩)) ld wc aA aD lv):
 Ap w FT (w'.setCell ⟨sb,o,none⟩ u) (λw' d=>SF w' sb ab b aB ld wc aA aD L A P d):=
 h.AF λ_ z _ _=>z.CQ o u E
def EH(L:Nat->gF Pt)(o:Int)(k:Nat)(t v:Int):Nat->gF Pt:=if o<=t then HH L k (Ce (L k) t v) else L
def Po(L:Nat->gF Pt)(o:Int)(n:Nat)(t v:Int)(k:Nat):(EH L o n t v k).length<=(L k).length+1:=by
 unfold EH;split
 ·unfold HH;split
  ·rename_i e;subst e;exact(Py _ _ _).2
  ·omega
 ·omega
def Uh(w:gC)(p:Pu)(h:SF w sb ab b mu ld wc A8 ro L A P FT)(hp:0<=p.1/\p.1<8)(E:∀k,k<8->(L k).length<1099511627000)(hl:1<=ld/\ld<=4611686018427387904)(hc:Ay A8):
 Ag 60 #[A5 sb,DO p] w (Aj (.tuple #[]) λw'=>Ap w FT w' (λw' X=>SF w' sb ab b mu ld wc A8 ro (EH L (AN A8 ld) p.1.toNat p.2.1 p.2.2) A P X)):=by
 obtain⟨k,t,v⟩:=p;obtain⟨lv,F0,d,Y⟩:=h;unfold DO;dsimp only at hp ⊢;obtain⟨O,hk2⟩:=hp;obtain⟨n,rfl⟩:=Mr O;have I:n<8:=iC
 refine(A1l w sb n _ _ iF A8 ld t v (L n) (lv n) I (d.Ed.dZ d.Ae I) (by have:=E n I;omega) rfl rfl hl hc).k ?_;rintro w' h3;refine⟨rfl,?_⟩;unfold EH;rw[EX];rcases h3 with⟨ho,lv',hR⟩|⟨ho,z⟩
 ·rw[Ai ho];have hlen:=(Py (L n) t v).2;have⟨b1,b2,b3,b4⟩:=d.Ed.al d.Ae I hR rfl (by have:=E n I;omega);exact d.cU Y ⟨b1,b2,b3,b4⟩
 ·rw[Af iC];exact(d.ak z).bP z (λ_ _ h=>h.elim) λk hk=>.inl (Y k hk)
end
end
section
open Go.MuLone Go.RowKit
attribute [local go_sem ↓] Go.wp_at_zero Go.wp_at_succ CL
section
variable{w w' w2:gC}{sb ab b B:Nat}{mu ld wc A8:Int}{ro:Bool}{lv:Nat->gD}{L L':Nat->gF Pt}{A A':Ar}{P P':PD}{F0 FT:Nat->Prop}{a c m N:Nat}
def A4o(w:gC)(p:Pu)(h:SF w sb ab b mu ld wc A8 ro L A P FT)(_hFT:∀k,FT k->k<w.heap.size)(hp:Bo p)(hn:A.j.AB=none->CK (A.j.Ac+1)/\Ay (A.j.Ac+1)/\Ay A.j.pd)(aF:A.j.Ao.length<=1073741824)(hL:Lets B w)(aG:∀k,FT k->B<=k)(hF:Fit P a c m)(aH:CV (a+1) (c+1) (m+33))(aI:∀k,k<8->(L k).length<1099511627000)(hl:1<=ld/\ld<=4611686018427387904)(hc:Ay A8):
 Ag 66 #[A5 sb,DO p] w (Aj (A0 (A.af P p).2.1) λw'=>
  Ap w FT w' (λw' d=>SF w' sb ab b mu ld wc A8 ro (if (A.af P p).1=true then EH L (AN A8 ld) p.1.toNat p.2.1 p.2.2 else L) (A.af P p).2.2.1 (A.af P p).2.2.2 d)):=by
 have hA:A4 Aa w (w.alloc (.cells #[A0 p.1,A0 p.2.1,A0 p.2.2] 113)):=(A4.C _ w).ai _;have E:=Bn w (.cells #[A0 p.1,A0 p.2.1,A0 p.2.2] 113);have aA:w.heap.size<(w.alloc (.cells #[A0 p.1,A0 p.2.1,A0 p.2.2] 113)).heap.size:=iE
 generalize aJ:(w.alloc (.cells #[A0 p.1,A0 p.2.1,A0 p.2.2] 113))=w0 at hA E aA;have O:A4 Aa w w0.drew:=hA.aa;obtain⟨lv,F0,h1,h2⟩:=h;have hV:=h1.ak O;have nx:¬F0 w.heap.size:=λhx=>FV _ (h1.lt _ hx)
 have aB:Hid (Ag 105 #[A5 ab,DO p] w0.drew (Aj (.tuple #[.bool (A.af P p).1,A0 (A.af P p).2.1]) λz=>
  (A7 z sb 2 (A5 ab)/\z.heap[w.heap.size]?=some (.cells #[A0 p.1,A0 p.2.1,A0 p.2.2] 113 (0,0)))/\
  Ap w FT z (λw' d=>SF w' sb ab b mu ld wc A8 ro L (A.af P p).2.2.1 (A.af P p).2.2.2 d))):=by
  refine(A3S w0.drew p hV.ar hV.lt hp hn aF (hL.aL O) (λk hk=>aG k (h2 k (.inl hk))) hF aH).k ?_;rintro z I;exact⟨rfl,⟨(hV.Ae.Am I.1 hV.ns).c2,(I.1.Al _ aA nx).trans E⟩,(hV.eD h2 I).a1 O⟩
 have X:Hid (∀z,Ap w FT z (λw' d=>SF w' sb ab b mu ld wc A8 ro L (A.af P p).2.2.1 (A.af P p).2.2.2 d)->Ag 60 #[A5 sb,DO p] z (Aj (.tuple #[]) λw'=>
  Ap w FT w' (λw' d=>SF w' sb ab b mu ld wc A8 ro (EH L (AN A8 ld) p.1.toNat p.2.1 p.2.2) (A.af P p).2.2.1 (A.af P p).2.2.2 d))):=λz I=>by
  obtain⟨c1,F1,h3,h4,h5⟩:=I;refine(Uh z p h3 hp.1 aI hl hc).k ?_;rintro w' h6;exact⟨rfl,Ap.aZ c1 h5 h6⟩
 have c2:A7 w0 sb 2 (A5 ab):=(h1.ak hA).Ae.c2;obtain⟨p1,p2,Y⟩:=p;unfold DO at aB X ⊢;dsimp only at aB X E aJ ⊢;have q0:A7 w0 w.heap.size 0 (A0 p1):=CJ E;have q1:A7 w0 w.heap.size 1 (A0 p2):=CJ E;have q2:A7 w0 w.heap.size 2 (A0 Y):=CJ E;generalize hR:A.af P (p1,p2,Y)=R at aB X ⊢;obtain⟨aD,R2,R3,R4⟩:=R;dsimp only at aB X ⊢;generalize hL2:EH L (AN A8 ld) p1.toNat p2 Y=L2 at X ⊢;have tail:∀aD:Bool,aD=true\/aD=false:=by intro x;cases x<;>simp
 go_enter func66,ntmps66
 go_wp2;refine Bq (λw'=>A7 w' sb 2 (A5 ab)/\A7 w' w.heap.size 0 (A0 p1)/\A7 w' w.heap.size 1 (A0 p2)/\A7 w' w.heap.size 2 (A0 Y)) 10
  (Ba [0,1,2,3,4,5,6,7,8,9] [5]) ⟨c2,q0,q1,q2⟩ ?_
 iterate 5 refine B4 ?_
 refine Bf λK hK=>?_;go_simp;refine aB.k ?_;rintro z⟨⟨y2,hh⟩,I⟩;have r0:A7 z w.heap.size 0 (A0 p1):=CJ hh;have r1:A7 z w.heap.size 1 (A0 p2):=CJ hh;have r2:A7 z w.heap.size 2 (A0 Y):=CJ hh;refine hK _ _ ⟨y2,r0,r1,r2⟩ (λhS=>?_);have aE:=A1 (X.o z I);have aL:=A1 I
 iterate 4 refine B4 ?_
 refine Bl ?_;cases aD
 ·go_wp2;go_ret;exact⟨rfl,by simpa using aL.o⟩
 ·go_wp2_with (go_at_call 60;refine aE.k ?_;rintro w2 hS;have aK:=A1 hS);go_ret;exact⟨rfl,by simpa using aK.o⟩
def Vl(w:gC)(d:gD)(h:By w sb mu (A5 ab) ld wc A8 true lv):
 Ag 64 #[A5 sb,d] w (Aj (A0 4) λw'=>w=w'):=by
 have c6:=h.cR
 go_enter func64,ntmps64
 go_wp2;go_ret;exact⟨rfl,rfl⟩
def A3m(w:gC)(x:Nat)(n:Int)(h:SF w sb ab b mu ld wc A8 false L A P FT)(aB:Ag 65 #[A5 x,A5 (x+1),A5 (x+2),A5 (x+3)] w (Aj (A0 n) λw'=>Ap w FT w' (λw' d=>SF w' sb ab b mu ld wc A8 false L' A' P' d))):
 Ag 64 #[A5 sb,.func (Fn.func 65) #[] #[A5 x,A5 (x+1),A5 (x+2),A5 (x+3)]] w (Aj (A0 n) λw'=>Ap w FT w' (λw' d=>SF w' sb ab b mu ld wc A8 (decide (n≠0)) L' A' P' d)):=by
 obtain⟨lv,F0,h1,h2⟩:=h;have c6:=h1.Ae.cR;have Y:=A1 aB;by_cases X:n=0
 ·subst X
  go_enter func64,ntmps64
  go_wp2_with (go_at_call 65;refine Y.k ?_;rintro w2 E;have O:=A1 E;obtain⟨-,aA,⟨I,aD,z,-⟩,-,-⟩:=E;have y6:=z.Ae.cR;have f6:=z.Ae.fz 6);go_ret;exact⟨rfl,SFto.CQ O.o 6 _ λlv h=>h.sR false⟩
 ·have hb:(n !=0)=true:=by simpa using X
  have e0:decide (n≠0)=true:=by simpa using X
  rw[e0]
  go_enter func64,ntmps64
  go_wp2_with (go_at_call 65;refine Y.k ?_;rintro w2 E;have O:=A1 E;obtain⟨-,aA,⟨I,aD,z,-⟩,-,-⟩:=E;have y6:=z.Ae.cR;have f6:=z.Ae.fz 6);go_ret;exact⟨rfl,SFto.CQ O.o 6 _ λlv h=>h.sR true⟩
def A3n(w:gC)(x:Nat)(n:Int)(h:SF w sb ab b mu ld wc A8 false L A P FT)(aB:Ag 67 #[A5 x] w (Aj (A0 n) λw'=>Ap w FT w' (λw' d=>SF w' sb ab b mu ld wc A8 false L' A' P' d))):
 Ag 64 #[A5 sb,.func (Fn.func 67) #[] #[A5 x]] w (Aj (A0 n) λw'=>Ap w FT w' (λw' d=>SF w' sb ab b mu ld wc A8 (decide (n≠0)) L' A' P' d)):=by
 obtain⟨lv,F0,h1,h2⟩:=h;have c6:=h1.Ae.cR;have Y:=A1 aB;by_cases X:n=0
 ·subst X
  go_enter func64,ntmps64
  go_wp2_with (go_at_call 67;refine Y.k ?_;rintro w2 E;have O:=A1 E;obtain⟨-,aA,⟨I,aD,z,-⟩,-,-⟩:=E;have y6:=z.Ae.cR;have f6:=z.Ae.fz 6);go_ret;exact⟨rfl,SFto.CQ O.o 6 _ λlv h=>h.sR false⟩
 ·have hb:(n !=0)=true:=by simpa using X
  have e0:decide (n≠0)=true:=by simpa using X
  rw[e0]
  go_enter func64,ntmps64
  go_wp2_with (go_at_call 67;refine Y.k ?_;rintro w2 E;have O:=A1 E;obtain⟨-,aA,⟨I,aD,z,-⟩,-,-⟩:=E;have y6:=z.Ae.cR;have f6:=z.Ae.fz 6);go_ret;exact⟨rfl,SFto.CQ O.o 6 _ λlv h=>h.sR true⟩
def A3o(w:gC)(x:Nat)(n:Int)(h:SF w sb ab b mu ld wc A8 false L A P FT)(aB:Ag 69 #[A5 x] w (Aj (A0 n) λw'=>Ap w FT w' (λw' d=>SF w' sb ab b mu ld wc A8 false L' A' P' d))):
 Ag 64 #[A5 sb,.func (Fn.func 69) #[] #[A5 x]] w (Aj (A0 n) λw'=>Ap w FT w' (λw' d=>SF w' sb ab b mu ld wc A8 (decide (n≠0)) L' A' P' d)):=by
 obtain⟨lv,F0,h1,h2⟩:=h;have c6:=h1.Ae.cR;have Y:=A1 aB;by_cases X:n=0
 ·subst X
  go_enter func64,ntmps64
  go_wp2_with (go_at_call 69;refine Y.k ?_;rintro w2 E;have O:=A1 E;obtain⟨-,aA,⟨I,aD,z,-⟩,-,-⟩:=E;have y6:=z.Ae.cR;have f6:=z.Ae.fz 6);go_ret;exact⟨rfl,SFto.CQ O.o 6 _ λlv h=>h.sR false⟩
 ·have hb:(n !=0)=true:=by simpa using X
  have e0:decide (n≠0)=true:=by simpa using X
  rw[e0]
  go_enter func64,ntmps64
  go_wp2_with (go_at_call 69;refine Y.k ?_;rintro w2 E;have O:=A1 E;obtain⟨-,aA,⟨I,aD,z,-⟩,-,-⟩:=E;have y6:=z.Ae.cR;have f6:=z.Ae.fz 6);go_ret;exact⟨rfl,SFto.CQ O.o 6 _ λlv h=>h.sR true⟩
def A3l(w:gC)(_x:Nat)(n:Int)(h:SF w sb ab b mu ld wc A8 false L A P FT)(aB:Ag 74 #[A5 ab] w (Aj (A0 n) λw'=>Ap w FT w' (λw' d=>SF w' sb ab b mu ld wc A8 false L' A' P' d))):
 Ag 64 #[A5 sb,.func (Fn.func 74) #[A5 ab] #[]] w (Aj (A0 n) λw'=>Ap w FT w' (λw' d=>SF w' sb ab b mu ld wc A8 (decide (n≠0)) L' A' P' d)):=by
 obtain⟨lv,F0,h1,h2⟩:=h;have c6:=h1.Ae.cR;have Y:=A1 aB;by_cases X:n=0
 ·subst X
  go_enter func64,ntmps64
  go_wp2_with (go_at_call 74;refine Y.k ?_;rintro w2 E;have O:=A1 E;obtain⟨-,aA,⟨I,aD,z,-⟩,-,-⟩:=E;have y6:=z.Ae.cR;have f6:=z.Ae.fz 6);go_ret;exact⟨rfl,SFto.CQ O.o 6 _ λlv h=>h.sR false⟩
 ·have hb:(n !=0)=true:=by simpa using X
  have e0:decide (n≠0)=true:=by simpa using X
  rw[e0]
  go_enter func64,ntmps64
  go_wp2_with (go_at_call 74;refine Y.k ?_;rintro w2 E;have O:=A1 E;obtain⟨-,aA,⟨I,aD,z,-⟩,-,-⟩:=E;have y6:=z.Ae.cR;have f6:=z.Ae.fz 6);go_ret;exact⟨rfl,SFto.CQ O.o 6 _ λlv h=>h.sR true⟩
end
def boxed(w:gC)(sb:Nat)(k t v:Int):World:=
 (((w.alloc (.cells #[.pointer (some ⟨sb,0,none⟩)] 36)).alloc (.cells #[.int .i64 k] 3)).alloc (.cells #[.int .i64 t] 3)).alloc (.cells #[.int .i64 v] 3)
def Jh(w:gC)(x sb:Nat)(k t v:Int):Prop:=
 w.cell? ⟨x,0,none⟩=some (.pointer (some ⟨sb,0,none⟩))/\w.cell? ⟨x+1,0,none⟩=some (.int .i64 k)/\w.cell? ⟨x+2,0,none⟩=some (.int .i64 t)/\w.cell? ⟨x+3,0,none⟩=some (.int .i64 v)
section
variable{w w' w2:gC}{sb ab b B:Nat}{mu ld wc A8:Int}{ro:Bool}{lv:Nat->gD}{L L':Nat->gF Pt}{A A':Ar}{P P':PD}{F0 FT:Nat->Prop}{a c m N:Nat}
def Qj(w:gC)(sb:Nat)(k t v:Int):A4 Aa w (boxed w sb k t v):=((((A4.C _ w).ai _).ai _).ai _).ai _
def A3z(w:gC)(sb:Nat)(k t v:Int):(boxed w sb k t v).heap.size=w.heap.size+4:=by unfold boxed;simp
def Qk(w:gC)(sb:Nat)(k t v:Int):Jh (boxed w sb k t v) w.heap.size sb k t v:=by
 unfold boxed;refine⟨?_,?_,?_,?_⟩
 all_goals unfold World.cell?
 ·rw[CW _ _ _ (by simp;try omega),CW _ _ _ (by simp;try omega),CW _ _ _ iE,Bn];rfl
 ·rw[CW _ _ _ (by simp;try omega),CW _ _ _ iE];have:=Bn (w.aC #[A5 sb] 36) (.cells #[A0 k] 3);have e:(w.aC #[A5 sb] 36).heap.size=w.heap.size+1:=iE
  rw[e]at this;simp only[this];rfl
 ·rw[CW _ _ _ iE];have:=Bn ((w.aC #[A5 sb] 36).aC #[A0 k] 3) (.cells #[A0 t] 3);have e:((w.aC #[A5 sb] 36).aC #[A0 k] 3).heap.size=w.heap.size+2:=iE
  rw[e]at this;simp only[this];rfl
 ·have:=Bn (((w.aC #[A5 sb] 36).aC #[A0 k] 3).aC #[A0 t] 3) (.cells #[A0 v] 3);have e:(((w.aC #[A5 sb] 36).aC #[A0 k] 3).aC #[A0 t] 3).heap.size=w.heap.size+3:=iE
  rw[e]at this;simp only[this];rfl
def Jh.Am{S:Nat->Prop}{x:Nat}{k t v:Int}(h:Jh w x sb k t v)(hc:A4 S w w')(hS:∀i,i<4->¬S (x+i)):Jh w' x sb k t v:=by
 obtain⟨E,O,z,Y⟩:=h;have d:∀i u,i<4->w.cell? (A9 (x+i) 0)=some u->w'.cell? (A9 (x+i) 0)=some u:=λi u hi hu=>by
  have I:=GV w _ hu;have X:=hc.Al (x+i) I (hS i hi);unfold World.cell? at hu ⊢;rw[X];exact hu
 exact⟨d 0 _ iC E,d 1 _ iC O,d 2 _ iC z,d 3 _ iC Y⟩
def ZC(w:gC)(x:Nat)(p:Pu)(n:Int)(Q:gC->Prop)(h:Jh w x sb p.1 p.2.1 p.2.2)(d:Ag 66 #[A5 sb,DO p] w (Aj (A0 n) λw'=>Q w')):
 Ag 65 #[A5 x,A5 (x+1),A5 (x+2),A5 (x+3)] w (Aj (A0 n) λw'=>Q w'):=by
 obtain⟨p1,p2,p3⟩:=p;unfold DO at d;dsimp only at d h;obtain⟨x0,x1,x2,x3⟩:=h;have z:=A1 d
 go_enter func65,ntmps65
 go_wp2_with (go_at_call 66;refine z.k ?_;rintro w2 I;have E:=A1 I);go_ret;exact⟨rfl,E.o⟩
def SF.bG(h:SF w sb ab b 0 ld wc A8 ro L A P FT):Ap w FT (w.setCell ⟨sb,0,none⟩ (.int .i32 1)) (λw' d=>SF w' sb ab b 1 ld wc A8 ro L A P d):=h.CQ 0 _ λ_ h=>h.s0 1
def SP(w:gC)(p:Pu)(h:SF w sb ab b 0 ld wc A8 false L A P FT)(aE:∀k,FT k->k<w.heap.size)(hp:Bo p)(hn:A.j.AB=none->CK (A.j.Ac+1)/\Ay (A.j.Ac+1)/\Ay A.j.pd)(aB:A.j.Ao.length<=1073741824)(hL:Lets B w)(I:∀k,FT k->B<=k)(hF:Fit P a c m)(aG:CV (a+1) (c+1) (m+33))(aI:∀k,k<8->(L k).length<1099511627000)(hl:1<=ld/\ld<=4611686018427387904)(hc:Ay A8):
 Ag 23 #[A5 sb,A0 p.1,A0 p.2.1,A0 p.2.2] w (Aj (A0 (A.af P p).2.1) λw'=>
  Ap w FT w' (λw' d=>SF w' sb ab b 0 ld wc A8 (decide ((A.af P p).2.1≠0)) (if (A.af P p).1=true then EH L (AN A8 ld) p.1.toNat p.2.1 p.2.2 else L) (A.af P p).2.2.1 (A.af P p).2.2.2 d)):=by
 have aM:Hid (∀w',Ag 63 #[A0 p.1] w' λe O=>e=.returned (.bool true)/\w'=O):=λw'=>by
  have:=LH w' p.1
  rwa [CN hp.1]at this
 have Y:=Qj w sb p.1 p.2.1 p.2.2;have hX:=Qk w sb p.1 p.2.1 p.2.2;have hZ:=A3z w sb p.1 p.2.1 p.2.2;generalize aL:boxed w sb p.1 p.2.1 p.2.2=w0 at Y hX hZ;unfold boxed at aL;have hV:=h.ak Y;have aA:=hL.aL Y;have z:=hV.bG;have E:Jh (w0.sC sb 0 (.int .i32 1)) w.heap.size sb p.1 p.2.1 p.2.2:=hX.Am z.1 λi _ hx=>by have:=aE _ hx;omega
 have aK:Hid (Ap w FT (w0.sC sb 0 (.int .i32 1)) (λw' d=>SF w' sb ab b 1 ld wc A8 false L A P d)):=z.a1 Y;have⟨k1,F1,s1,s2,s3⟩:=aK.o;have aD:=aA.aj z.1 I;have aF:=hL.1
 have X:=A1 (A3m (w0.sC sb 0 (.int .i32 1)) w.heap.size (A.af P p).2.1 s1 (ZC _ w.heap.size p _ _ E
  (A4o _ p s1 s2 hp hn aB aD (λk hk=>(s3 k hk).elim (I k) λh=>AO aF h) hF aG aI hl hc)))
 have ST:Hid (∀wx R,Ap (w0.sC sb 0 (.int .i32 1)) F1 wx R->Ap w FT wx R):=λwx R h=>Ap.aZ k1 s3 h;obtain⟨x0,x1,x2,x3⟩:=hX;obtain⟨y0,y1,y2,y3⟩:=E;have c0:A7 w0 sb 0 (.int .i32 0):=by obtain⟨lv,F0,q,-⟩:=hV;exact q.Ae.c0
 have f0:w0.frozen? (A9 sb 0)=false:=by obtain⟨lv,F0,q,-⟩:=hV;exact q.Ae.fz 0
 obtain⟨p1,p2,p3⟩:=p;dsimp only at *;generalize hR:A.af P (p1,p2,p3)=R at X ⊢;obtain⟨aO,R2,R3,R4⟩:=R;dsimp only at X ⊢;generalize hL2:(if aO=true then EH L (AN A8 ld) p1.toNat p2 p3 else L)=L2 at X ⊢
 go_enter_defers func23,ntmps23
 go_wp2_with (first
  | (go_at_call 61;refine(Iu Tryz.bn (A9 sb 0) _ c0 f0).k ?_;rintro w' rfl)
  | (go_at_call 63;refine(aM.o _).k ?_;rintro w' rfl))
 refine X.k ?_;rintro w2 hS;have aJ:=A1 (ST.o _ _ hS);go_wp2;refine Iv (f:=62) (args:=#[A5 sb]) iE (by simp[go_sem]) ?_;refine(Is Tryz.bn (A9 sb 0) .returning _ ?_ ?_).mono ?_
 ·obtain⟨-,aN,⟨aH,aP,a1,-⟩,-,-⟩:=aJ.o;exact a1.Ae.c0
 ·obtain⟨-,aN,⟨aH,aP,a1,-⟩,-,-⟩:=aJ.o;exact a1.Ae.fz 0
 rintro e u' O⟨rfl,rfl,rfl⟩;exact⟨_,Ko rfl _ _ _,rfl,SFto.CQ aJ.o 0 _ λlv h=>h.s0 0⟩
def A2a(w:gC)(x:Nat)(n:Int)(Q:gC->Prop)(h:By w sb mu (A5 ab) ld wc A8 ro lv)(X:A7 w x 0 (A5 sb))(d:Ag 68 #[A5 ab,A0 wc] w.drew (Aj (A0 n) λw'=>Q w')):
 Ag 67 #[A5 x] w (Aj (A0 n) λw'=>Q w'):=by
 have c2:=h.c2;have I:=h.cW;have z:=A1 d
 go_enter func67,ntmps67
 go_wp2;refine Bq (λw'=>A7 w' x 0 (A5 sb)/\A7 w' sb 2 (A5 ab)/\A7 w' sb 4 (A0 wc)) 8
  (Ba [0,1,2,3,4,5,6,7] []) ⟨X,c2,I⟩ ?_
 iterate 8 refine B4 ?_
 refine Bl ?_;go_wp2_with (go_at_call 68;refine z.k ?_;rintro w2 E;have O:=A1 E);go_ret;exact⟨rfl,O.o⟩
def A3a(w:gC)(x:Nat)(n o:Int)(Q:gC->Prop)(h:By w sb mu (A5 ab) ld wc A8 ro lv)(X:A7 w x 0 (A5 sb))(aF:Ag 71 #[A5 sb] w.drew (Aj (A0 o) λw'=>A4 Aa w.drew w'))(aA:∀w2,A4 Aa w w2->Ag 70 #[A5 ab,A0 wc,A0 o] w2 (Aj (A0 n) λw'=>Q w')):
 Ag 69 #[A5 x] w (Aj (A0 n) λw'=>Q w'):=by
 have c2:=h.c2;have O:=h.cW;have aB:=A1 aA;have aD:Hid (Ag 71 #[A5 sb] w.drew (Aj (A0 o) λw'=>(A7 w' x 0 (A5 sb)/\A7 w' sb 2 (A5 ab)/\A7 w' sb 4 (A0 wc))/\A4 Aa w w')):=by
  refine aF.k ?_;rintro w' z;have d:A4 Aa w w':=(A4.C _ w).aa.tr z;exact⟨rfl,⟨d.ad X,d.ad c2,d.ad O⟩,d⟩
 go_enter func69,ntmps69
 go_wp2;refine Bq (λw'=>A7 w' x 0 (A5 sb)/\A7 w' sb 2 (A5 ab)/\A7 w' sb 4 (A0 wc)) 10
  (Ba [0,1,2,3,4,5,6,7,8,9] [9]) ⟨X,c2,O⟩ ?_
 iterate 9 refine B4 ?_
 refine Bf λK hK=>?_;go_simp;refine aD.k ?_;rintro w2⟨E,z⟩;refine hK _ _ E (λY=>?_);have I:=A1 (aB.o w2 z);refine Bl ?_;go_wp2_with (go_at_call 70;refine I.k ?_;rintro w3 Y;have aE:=A1 Y);go_ret;exact⟨rfl,aE.o⟩
def RE(w:gC)(f g:Nat)(O:(f=24/\g=67)\/(f=25/\g=69))(n:Int)(Q:gC->Prop)(c0:w.cell? (A9 sb 0)=some (.int .i32 0))(f0:w.frozen? (A9 sb 0)=false)(hz:sb<w.heap.size)(aB:∀Y,Y=(w.alloc (.cells #[A5 sb] 36)).setCell (A9 sb 0) (.int .i32 1)->Ag 64 #[A5 sb,.func (Fn.func g) #[] #[A5 w.heap.size]] Y (Aj (A0 n) λw'=>w'.cell? (A9 sb 0)=some (.int .i32 1)/\w'.frozen? (A9 sb 0)=false/\Q w')):
 Ag f #[A5 sb] w (Aj (A0 n) λw'=>∃w2,Q w2/\w'=w2.setCell (A9 sb 0) (.int .i32 0)):=by
 have hA:A4 Aa w (w.alloc (.cells #[A5 sb] 36)):=(A4.C _ w).ai _;have E:=Bn w (.cells #[A5 sb] 36);have a0:=hA.ad c0;have fa:(w.alloc (.cells #[A5 sb] 36)).frozen? (A9 sb 0)=false:=by
  have z:=hA.Al sb hz (λh=>h);unfold World.frozen? at f0 ⊢;rw[z];exact f0
 have aA:=A1 (aB _ rfl);have I:(w.alloc (.cells #[A5 sb] 36)).cell? (A9 w.heap.size 0)=some (A5 sb):=CJ E;have d:w.heap.size≠sb:=iC
 have b1:((w.alloc (.cells #[A5 sb] 36)).sC sb 0 (.int .i32 1)).cell? (A9 w.heap.size 0)=some (A5 sb):=by
  have X:=(A4.C (One sb) (w.alloc (.cells #[A5 sb] 36))).an (b:=sb) rfl 0 (.int .i32 1);have z:=X.Al w.heap.size iE (λh=>d h);unfold World.cell? at I ⊢;rw[z];exact I
 generalize hw0:(w.alloc (.cells #[A5 sb] 36))=w0 at a0 fa aA I b1;rcases O with⟨rfl,rfl⟩|⟨rfl,rfl⟩
 focus go_enter_defers func24,ntmps24
 rotate_left
 focus go_enter_defers func25,ntmps25
 all_goals
  go_wp2_with (go_at_call 61;refine(Iu Tryz.bn (A9 sb 0) _ a0 fa).k ?_;rintro w' rfl);refine aA.k ?_;rintro w2⟨u0,uf,hS⟩;have aD:=A1 hS;go_wp2;refine Iv (f:=62) (args:=#[A5 sb]) iE (by simp[go_sem]) ?_;refine(Is Tryz.bn (A9 sb 0) .returning _ ?_ ?_).mono ?_
  ·exact u0
  ·exact uf
  rintro e u' w''⟨rfl,rfl,rfl⟩;exact⟨_,Ko rfl _ _ _,rfl,_,aD.o,rfl⟩
def RD(w:gC)(n:Int)(Q:gC->Prop)(c0:w.cell? (A9 sb 0)=some (.int .i32 0))(f0:w.frozen? (A9 sb 0)=false)(z:sb<w.heap.size)(h:∀d,d=(w.alloc (.cells #[A5 sb] 36)).setCell (A9 sb 0) (.int .i32 1)->Ag 64 #[A5 sb,.func (Fn.func 67) #[] #[A5 w.heap.size]] d (Aj (A0 n) λw'=>w'.cell? (A9 sb 0)=some (.int .i32 1)/\w'.frozen? (A9 sb 0)=false/\Q w')):
 Ag 24 #[A5 sb] w (Aj (A0 n) λw'=>∃w2,Q w2/\w'=w2.setCell (A9 sb 0) (.int .i32 0)):=
 RE w _ _ (.inl ⟨rfl,rfl⟩) n Q c0 f0 z h
def RF(w:gC)(n:Int)(Q:gC->Prop)(c0:w.cell? (A9 sb 0)=some (.int .i32 0))(f0:w.frozen? (A9 sb 0)=false)(z:sb<w.heap.size)(h:∀d,d=(w.alloc (.cells #[A5 sb] 36)).setCell (A9 sb 0) (.int .i32 1)->Ag 64 #[A5 sb,.func (Fn.func 69) #[] #[A5 w.heap.size]] d (Aj (A0 n) λw'=>w'.cell? (A9 sb 0)=some (.int .i32 1)/\w'.frozen? (A9 sb 0)=false/\Q w')):
 Ag 25 #[A5 sb] w (Aj (A0 n) λw'=>∃w2,Q w2/\w'=w2.setCell (A9 sb 0) (.int .i32 0)):=
 RE w _ _ (.inr ⟨rfl,rfl⟩) n Q c0 f0 z h
def RC(w:gC)(n:Int)(Q:gC->Prop)(c0:A7 w sb 0 (.int .i32 0))(f0:w.frozen? (A9 sb 0)=false)(c2:A7 (w.setCell (A9 sb 0) (.int .i32 1)) sb 2 (A5 ab))(I:Ag 64 #[A5 sb,.func (Fn.func 74) #[A5 ab] #[]] (w.setCell (A9 sb 0) (.int .i32 1)) (Aj (A0 n) λw'=>A7 w' sb 0 (.int .i32 1)/\w'.frozen? (A9 sb 0)=false/\Q w')):
 Ag 31 #[A5 sb] w (Aj (A0 n) λw'=>∃w2,Q w2/\w'=w2.setCell (A9 sb 0) (.int .i32 0)):=by
 have O:=A1 I
 go_enter_defers func31,ntmps31
 go_wp2_with (go_at_call 61;refine(Iu Tryz.bn (A9 sb 0) _ c0 f0).k ?_;rintro w' rfl);refine O.k ?_;rintro w2⟨z,d,h⟩;have E:=A1 h;go_wp2;refine Iv (f:=62) (args:=#[A5 sb]) iE (by simp[go_sem]) ?_;refine(Is Tryz.bn (A9 sb 0) .returning _ ?_ ?_).mono ?_
 ·exact z
 ·exact d
 rintro e u' w''⟨rfl,rfl,rfl⟩;exact⟨_,Ko rfl _ _ _,rfl,_,E.o,rfl⟩
end
end
section
open Go.MuLone Go.RowKit
section
variable{w w' w2:gC}{sb ab b B:Nat}{mu ld wc A8:Int}{ro:Bool}{lv:Nat->gD}{L L':Nat->gF Pt}{A A':Ar}{P P':PD}{F0 FT:Nat->Prop}{a c m N:Nat}
def SF.c0(h:SF w sb ab b mu ld wc A8 ro L A P FT):A7 w sb 0 (.int .i32 mu)/\w.frozen? (A9 sb 0)=false/\sb<w.heap.size/\A7 w sb 2 (A5 ab):=by
 obtain⟨lv,F0,q,-⟩:=h;exact⟨q.Ae.c0,q.Ae.fz 0,q.Ae.lt,q.Ae.c2⟩
def SF.cc(h:SF w sb ab b mu ld wc A8 ro L A P FT)(E:∀k,FT k->B<=k)(f:Nat)(args:gF gD)(n:Int)(hL:Lets B w)(O:∀z F0,AD z ab b A P F0->(∀k,F0 k->k<z.heap.size)->Lets B z->(∀k,F0 k->B<=k)->Calls Tryz.prog f args.toArray z λe w'=>e=.returned (.int .i64 n)/\Ap z F0 w' (λw' d=>AD w' ab b A' P' d)):
 Calls Tryz.prog f args.toArray w λe w'=>e=.returned (.int .i64 n)/\Ap w FT w' (λw' d=>SF w' sb ab b mu ld wc A8 ro L A' P' d):=by
 obtain⟨lv,F0,q,I⟩:=h;refine(O w F0 q.ar q.lt hL (λk X=>E k (I k (.inl X)))).k ?_;rintro w' Y;exact⟨rfl,q.eD I Y⟩
def A19(w:gC)(n:Int)(h:SF w sb ab b 0 ld wc A8 false L A P FT)(aD:∀k,FT k->k<w.heap.size)(hL:Lets B w)(X:∀k,FT k->B<=k)(aK:∀d F0,AD d ab b A P F0->(∀k,F0 k->k<d.heap.size)->Lets B d->(∀k,F0 k->B<=k)->Ag 68 #[A5 ab,A0 wc] d (Aj (A0 n) λw'=>Ap d F0 w' (λw' z=>AD w' ab b A' P' z))):
 Ag 24 #[A5 sb] w (Aj (A0 n) λw'=>Ap w FT w' (λw' z=>SF w' sb ab b 0 ld wc A8 (decide (n≠0)) L A' P' z)):=by
 obtain⟨c0,f0,hz,-⟩:=h.c0;have Y:A4 Aa w (w.aC #[A5 sb] 36):=(A4.C _ w).ai _;have aA:=Bn w (.cells #[A5 sb] 36);have aE:=hL.1;refine(RD w n (λw2=>Ap w FT w2 (λw' z=>SF w' sb ab b 1 ld wc A8 (decide (n≠0)) L A' P' z)) c0 f0 hz (λd aH=>?_)).mono ?_
 ·have I:=(h.ak Y).bG;rw[<-aH]at I;obtain⟨k1,aF,s1,s2,s3⟩:=I;have aB:=(hL.aL Y).aj k1 X;have b0:(w.aC #[A5 sb] 36).cell? (A9 w.heap.size 0)=some (A5 sb):=CJ aA;have hx:d.cell? (A9 w.heap.size 0)=some (A5 sb):=by
   have hb:=k1.Al w.heap.size iE (λhx=>FV _ (aD _ hx));unfold World.cell? at b0 ⊢;rw[hb];exact b0
  have O:∀k,aF k->B<=k:=λk hk=>(s3 k hk).elim (X k) λh=>AO aE (AO Y.Ak h)
  obtain⟨aG,aJ,q,hs⟩:=s1;have s1:SF d sb ab b 1 ld wc A8 false L A P aF:=⟨aG,aJ,q,hs⟩;have body:Ag 67 #[A5 w.heap.size] d (Aj (A0 n) λw'=>Ap d aF w' (λw' z=>SF w' sb ab b 1 ld wc A8 false L A' P' z)):=by
   have kd:A4 Aa d d.drew:=(A4.C _ d).aa;refine A2a d w.heap.size n _ q.Ae hx ?_;refine((s1.ak kd).cc O _ [A5 ab,A0 wc] n (aB.aL kd) aK).k ?_;rintro w' E;exact⟨rfl,E.a1 kd⟩
  refine(A3n d w.heap.size n s1 body).k ?_;rintro w' E;have aI:=(Ap.aZ k1 s3 E).a1 Y;obtain⟨-,F3,q3,-,-⟩:=E;obtain⟨d0,df,-,-⟩:=q3.c0;exact⟨rfl,d0,df,aI⟩
 ·rintro e w'⟨rfl,w2,E,rfl⟩;exact⟨rfl,SFto.CQ E 0 _ λlv h=>h.s0 0⟩
def A28(w:gC)(n:Int)(h:SF w sb ab b 0 ld wc A8 false L A P FT)(aD:∀k,FT k->k<w.heap.size)(hL:Lets B w)(X:∀k,FT k->B<=k)(hl:1<=ld/\ld<=4611686018427387904)(hc:Ay A8)(aK:∀d F0,AD d ab b A P F0->(∀k,F0 k->k<d.heap.size)->Lets B d->(∀k,F0 k->B<=k)->Ag 70 #[A5 ab,A0 wc,A0 (AN A8 ld)] d (Aj (A0 n) λw'=>Ap d F0 w' (λw' z=>AD w' ab b A' P' z))):
 Ag 25 #[A5 sb] w (Aj (A0 n) λw'=>Ap w FT w' (λw' z=>SF w' sb ab b 0 ld wc A8 (decide (n≠0)) L A' P' z)):=by
 obtain⟨c0,f0,hz,-⟩:=h.c0;have Y:A4 Aa w (w.aC #[A5 sb] 36):=(A4.C _ w).ai _;have aA:=Bn w (.cells #[A5 sb] 36);have aE:=hL.1;refine(RF w n (λw2=>Ap w FT w2 (λw' z=>SF w' sb ab b 1 ld wc A8 (decide (n≠0)) L A' P' z)) c0 f0 hz (λd aH=>?_)).mono ?_
 ·have I:=(h.ak Y).bG;rw[<-aH]at I;obtain⟨k1,aF,s1,s2,s3⟩:=I;have aB:=(hL.aL Y).aj k1 X;have b0:(w.aC #[A5 sb] 36).cell? (A9 w.heap.size 0)=some (A5 sb):=CJ aA;have hx:d.cell? (A9 w.heap.size 0)=some (A5 sb):=by
   have hb:=k1.Al w.heap.size iE (λhx=>FV _ (aD _ hx));unfold World.cell? at b0 ⊢;rw[hb];exact b0
  have O:∀k,aF k->B<=k:=λk hk=>(s3 k hk).elim (X k) λh=>AO aE (AO Y.Ak h)
  obtain⟨aG,aJ,q,hs⟩:=s1;have s1:SF d sb ab b 1 ld wc A8 false L A P aF:=⟨aG,aJ,q,hs⟩;have body:Ag 69 #[A5 w.heap.size] d (Aj (A0 n) λw'=>Ap d aF w' (λw' z=>SF w' sb ab b 1 ld wc A8 false L A' P' z)):=by
   have kd:A4 Aa d d.drew:=(A4.C _ d).aa;refine A3a d w.heap.size n (AN A8 ld) _ q.Ae hx (MY d.drew sb A8 ld (q.Ae.Am kd λh=>h).c3 (q.Ae.Am kd λh=>h).cK hl hc) λw2 kk=>?_;refine((s1.ak kk).cc O _ [A5 ab,A0 wc,A0 (AN A8 ld)] n (aB.aL kk) aK).k ?_;rintro w' E;exact⟨rfl,E.a1 kk⟩
  refine(A3o d w.heap.size n s1 body).k ?_;rintro w' E;have aI:=(Ap.aZ k1 s3 E).a1 Y;obtain⟨-,F3,q3,-,-⟩:=E;obtain⟨d0,df,-,-⟩:=q3.c0;exact⟨rfl,d0,df,aI⟩
 ·rintro e w'⟨rfl,w2,E,rfl⟩;exact⟨rfl,SFto.CQ E 0 _ λlv h=>h.s0 0⟩
def Xy(w:gC)(n:Int)(h:SF w sb ab b 0 ld wc A8 false L A P FT)(Y:Lets B w)(E:∀k,FT k->B<=k)(aA:∀z F0,AD z ab b A P F0->(∀k,F0 k->k<z.heap.size)->Lets B z->(∀k,F0 k->B<=k)->Ag 74 #[A5 ab] z (Aj (A0 n) λw'=>Ap z F0 w' (λw' d=>AD w' ab b A' P' d))):
 Ag 31 #[A5 sb] w (Aj (A0 n) λw'=>Ap w FT w' (λw' d=>SF w' sb ab b 0 ld wc A8 (decide (n≠0)) L A' P' d)):=by
 obtain⟨c0,f0,-,-⟩:=h.c0;have O:=Y.1;have⟨k1,F1,s1,s2,s3⟩:=h.bG;obtain⟨-,-,-,c2⟩:=s1.c0;refine(RC (ab:=ab) w n (λw2=>Ap w FT w2 (λw' d=>SF w' sb ab b 1 ld wc A8 (decide (n≠0)) L A' P' d)) c0 f0 c2 ?_).mono ?_
 ·refine(A3l _ 0 n s1 (s1.cc (λk hk=>(s3 k hk).elim (E k) λh=>AO O h) _ [A5 ab] n (Y.aj k1 E) aA)).k ?_;rintro w' I;have X:=Ap.aZ k1 s3 I;obtain⟨-,F3,q3,-,-⟩:=I;obtain⟨d0,df,-,-⟩:=q3.c0;exact⟨rfl,d0,df,X⟩
 ·rintro e w'⟨rfl,w2,I,rfl⟩;exact⟨rfl,SFto.CQ I 0 _ λlv h=>h.s0 0⟩
end
end
section
open Go.MuLone Go.RowKit
attribute [local go_sem ↓] Go.wp_at_zero Go.wp_at_succ CL
def A0r(w:gC):EA w (λ_=>.slice none 0 0) (λ_=>[]):=
 ⟨λ_ _=>Cq _ _ _ _,λ_ _=>List.Pairwise.nil,λ_ _=>iE,λ_ _ _ _ _ g h=>by simp[Value.ownBlock]at h⟩
def GJ(o:Int)(d:gF Pu):Nat->gF Pt:=d.foldl (λL p=>EH L o p.1.toNat p.2.1 p.2.2) (λ_=>[])
def Pp(o:Int)(d:gF Pu)(p:Pu):GJ o (d++[p])=EH (GJ o d) o p.1.toNat p.2.1 p.2.2:=by simp[GJ]
def Pq(o:Int)(k:Nat):∀n (d:gF Pu),d.length=n->(GJ o d k).length<=n
 | 0,d,h=>by obtain rfl:=HE.1 h;simp[GJ]
 | n+1,d,h=>by
  have z:d≠[]:=λe=>by subst e;simp at h
  have E:=(NZ z).symm;rw[E,Pp];have h1:=Pq o k n d.dropLast (by rw[Wm];omega);have h2:=Po (GJ o d.dropLast) o (d.getLast z).1.toNat (d.getLast z).2.1 (d.getLast z).2.2 k;omega
def A0n{P:PD}{n:Int}(h:Ar.aT P=.error n):n≠0:=by
 unfold Ar.aT at h;split at h
 ·cases h;decide
 ·split at h
  ·cases h;decide
  ·split at h
   ·cases h;decide
   ·split at h
    ·rename_i d;cases h;exact d
    ·cases h
section
variable{w w' w2:gC}{sb ab b B:Nat}{mu ld wc A8:Int}{ro:Bool}{lv:Nat->gD}{L L':Nat->gF Pt}{A A':Ar}{P P':PD}{F0 Ft FT:Nat->Prop}{a c m N:Nat}
def Tn(w:gC)(ld wc A8:Int)(hl:1<=ld/\ld<=4611686018427387904)(hw:1<=wc/\wc<=4611686018427387904)(hc:Ay A8)(aL:∀k,Ft k->k<w.heap.size)(aX:∀A d,Ar.aT P=.ok (A,d)->d.length<1099511627000/\∀p∈d,0<=p.1/\p.1<8)(a6:∀E,A4 Aa w E->Ag 59 #[A5 b] E λe w'=>
  (∃n,Ar.aT P=.error n/\e=.returned (.tuple #[.pointer none,.slice none 0 0,A0 n])/\A4 Aa E w')\/
  (∃A d ab v FT,Ar.aT P=.ok (A,d)/\e=.returned (.tuple #[A5 ab,v,A0 0])/\B1 w' v d/\AD w' ab b A P FT/\(∀k,FT k->Ft k\/E.heap.size<=k)/\(∀k,FT k->k<w'.heap.size)/\(∀g,v.ownBlock=some g->¬FT g/\E.heap.size<=g)/\A4 Aa E w')):
 Ag 22 #[A5 b,.agg #[A0 ld,A0 wc],A0 A8] w λe w'=>
  (∃n,Ar.aT P=.error n/\e=.returned (.tuple #[.pointer none,A0 n])/\A4 Aa w w')\/
  (∃A d ab sb,Ar.aT P=.ok (A,d)/\e=.returned (.tuple #[A5 sb,A0 0])/\w.heap.size<=sb/\Ap w Ft w' (λw' I=>SF w' sb ab b 0 ld wc A8 false (GJ (AN A8 ld) d) A P I)):=by
 have aT:Hid (∀w',Ag 58 #[A0 ld] w' λe aG=>e=.returned (.bool true)/\w'=aG):=λw'=>by
  have:=LG w' ld
  rwa [CN hl]at this
 have a1:Hid (∀w',Ag 58 #[A0 wc] w' λe aG=>e=.returned (.bool true)/\w'=aG):=λw'=>by
  have:=LG w' wc
  rwa [CN hw]at this
 have hA:=(A4.C Aa w).ai (.cells #[A0 ld,A0 wc] 48);have aF:=Bn w (.cells #[A0 ld,A0 wc] 48);generalize hw0:(w.alloc (.cells #[A0 ld,A0 wc] 48))=w0 at hA aF;have q0:A7 w0 w.heap.size 0 (A0 ld):=CJ aF;have q1:A7 w0 w.heap.size 1 (A0 wc):=CJ aF;have a5:=A1 (a6 w0 hA);have aQ:=A1 hA;have HLT:=A1 aL;have aY:=A1 aX;have bA:=A1 hl;have bB:=A1 hc
 go_enter func22,ntmps22
 go_wp2_with (fail);refine(aT.o _).k ?_;rintro w' rfl;go_wp2_with (fail);refine(a1.o _).k ?_;rintro w' rfl;go_wp2_with (fail);refine a5.m ?_;rintro e E (⟨n,hO,rfl,X⟩|⟨A,d,ab,v,FT,hO,rfl,hp,ha,hf1,hf2,hf3,X⟩)
 ·have hn:=A0n hO;have hnb:(n !=0)=true:=by simpa using hn
  have aV:=A1 hO;have aM:=A1 (aQ.o.tr X);go_wp2;go_ret2;exact .inl ⟨n,aV.o,rfl,aM.o⟩
 ·obtain⟨va,z,rfl,v1,v2,v3,-⟩:=B8 hp;unfold maxLen at v2;have r0:=X.ad q0;have r1:=X.ad q1;have⟨aO,aE⟩:=aY.o A d hO;have aM:Hid (A4 Aa w E):=aQ.o.tr X;have a4:=A1 hp;have a2:=A1 ha;have aS:Hid (∀k,FT k->Ft k\/w.heap.size<=k):=λk h=>(hf1 k h).imp id (AO aQ.o.Ak)
  have aI:=A1 hf2;have a3:=A1 hf3;have aV:=A1 hO;have aW:=A1 aO;have aR:=A1 aE;have aU:Ge 0 (A5 ab) ld wc A8 false (λ_=>.slice none 0 0) = #[.int .i32 0,.int .u32 0,A5 ab,A0 ld,A0 wc,A0 A8,.bool false,.slice none 0 0,.slice none 0 0,.slice none 0 0,.slice none 0 0,.slice none 0 0,.slice none 0 0,.slice none 0 0,.slice none 0 0]:=rfl
  have ST:Hid (∀w2,w2=E.alloc (.cells (Ge 0 (A5 ab) ld wc A8 false (λ_=>.slice none 0 0)) 111)->
   Ap w Ft w2 (λw' I=>SF w' E.heap.size ab b 0 ld wc A8 false (GJ (AN A8 ld) (d.take 0)) A P I/\∀g,(Value.slice va d.length z).oB g->¬I g)/\B1 w2 (.slice va d.length z) d):=λw2 e=>by
   subst e;have kA:A4 Aa E (E.alloc (.cells (Ge 0 (A5 ab) ld wc A8 false (λ_=>.slice none 0 0)) 111)):=(A4.C _ E).ai _;have hb:By (E.alloc (.cells (Ge 0 (A5 ab) ld wc A8 false (λ_=>.slice none 0 0)) 111)) E.heap.size 0 (A5 ab) ld wc A8 false (λ_=>.slice none 0 0):=Bn E _;have nS:¬FT E.heap.size:=λh=>FV _ (aI.o _ h);refine⟨⟨(aM.o.tr kA).aS,λk=>FT k\/Own E.heap.size (λ_=>.slice none 0 0) k,⟨⟨_,FT,⟨hb,A0r _,a2.o.ak kA,λk X=>Bp (aI.o k X) kA.Ak,nS,λk X=>?_⟩,λ_ h=>h⟩,λg hg hx=>?_⟩,λk X=>?_,λk X=>?_⟩,Au a4.o λg hg=>kA.Al g (Aw a4.o hg) (λh=>h)⟩
   ·obtain⟨i,_,hi⟩:=X;simp[Value.ownBlock]at hi
   ·rcases hx with hx|rfl|⟨i,_,hi⟩
    ·exact(a3.o g hg).1 hx
    ·have:=Aw a4.o hg;omega
    ·simp[Value.ownBlock]at hi
   ·rcases X with X|rfl|⟨i,_,hi⟩
    ·exact Bp (aI.o k X) kA.Ak
    ·simp
    ·simp[Value.ownBlock]at hi
   ·rcases X with X|rfl|⟨i,_,hi⟩
    ·exact aS.o k X
    ·exact .inr aM.o.Ak
    ·simp[Value.ownBlock]at hi
  have aZ:Hid (w.heap.size<=E.heap.size):=aM.o.Ak;rw[aU]at ST;have a0:=A1 (ST.o _ rfl);go_wp2;go_loopw [43] (λiv wr=>∃k:Nat,k<=d.length/\iv=A0 k/\Hid (Ap w Ft wr (λw' I=>SF w' E.heap.size ab b 0 ld wc A8 false (GJ (AN A8 ld) (d.take k)) A P I/\∀g,(Value.slice va d.length z).oB g->¬I g)/\B1 wr (.slice va d.length z) d)) (λiv _=>d.length-(intOf iv).toNat)
  ·exact⟨0,iC,by go_num,a0.o⟩
  ·obtain⟨k,X,rfl,hI⟩:=hrel;obtain⟨aB,aK⟩:=iH wr;subst aK;have k0:=BJ k;by_cases aD:k<d.length
   ·have kI:(k:Int)<(d.length:Int):=iC;obtain⟨g,o,rfl,hgl,c1,c2,c3⟩:=Ie.at hI.o.2.rd k aD;have aP:d.take (k+1)=d.take k++[d[k]'aD]:=Ds aD;have aE:=aR.o _ (BT aD);have aO:=aW.o;generalize hp:(d[k]'aD)=p at c1 c2 c3 aP aE;have aH:Hid (∀w3,A4 Aa aB w3->Ag 60 #[A5 E.heap.size,DO p] w3 (Aj (.tuple #[]) λw'=>(Ap w Ft w' (λw' I=>SF w' E.heap.size ab b 0 ld wc A8 false (GJ (AN A8 ld) (d.take (k+1))) A P I/\∀Y,(Value.slice (some (A9 g o)) d.length z).oB Y->¬I Y)/\B1 w' (.slice (some (A9 g o)) d.length z) d))):=λw3 k3=>by
     have⟨⟨i1,F1,⟨i2,i3⟩,i4,i5⟩,i6⟩:=hI.o;have aJ:∀j,j<8->(GJ (AN A8 ld) (d.take k) j).length<1099511627000:=λj _=>by
      have:=Pq (AN A8 ld) j _ (d.take k) rfl;rw[BK]at this;omega
     refine(Uh w3 p (i2.ak k3) aE aJ bA.o bB.o).k ?_;rintro w'⟨q1,a9,q2,q3,q4⟩;have aN:A4 Ft w w3:=i1.bk k3;have aA:∀Y,(Value.slice (some (A9 g o)) d.length z).oB Y->Y<aB.heap.size:=λY O=>Aw i6 O;refine⟨rfl,⟨aN.AF q1 λx hx aL=>(i5 x hx).resolve_right iC,a9,⟨by rw[aP,Pp];exact q2,λY O hx=>?_⟩,q3,λx hx=>?_⟩,?_⟩
     ·rcases q4 Y hx with hy|hy
      ·exact i3 Y O hy
      ·have:=aA Y O;have:=k3.Ak;omega
     ·rcases q4 x hx with hy|hy
      ·exact i5 x hy
      ·exact .inr (AO aN.Ak hy)
     ·exact Au (Au i6 λY O=>k3.Al Y (aA Y O) λh=>h) λY O=>q1.Al Y (Bp (aA Y O) k3.Ak) (i3 Y O)
    obtain⟨p1,p2,p3⟩:=p;unfold DO at aH;dsimp only at c1 c2 c3 aH;go_wp2_with (go_at_call 60;refine(aH.o _ ((A4.C _ aB).ai _)).k ?_;rintro w3 hS;have a7:=A1 hS);go_roundw
    ·exact⟨k+1,iC,by go_num,a7.o⟩
    ·simp[intOf];omega
   ·(obtain rfl:k=d.length:=iC);have a8:=A1 hI.o.1;go_wp2;go_ret2;refine .inr ⟨A,d,ab,E.heap.size,aV.o,rfl,aZ.o,?_⟩;have h:=a8.o;rw[C5]at h;exact h.fQ λ_ _ h=>h.1
end
end
end Go.Proofs.YtodcnkbblippnaaGreatDoor
