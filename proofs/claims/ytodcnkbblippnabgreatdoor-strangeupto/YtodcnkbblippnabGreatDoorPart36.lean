/- Part 36 of a proof: walks of the program. -/
import Derived.Test.YtodcnkbblippnabGreatDoorPart35
namespace Go.Proofs.YtodcnkbblippnabGreatDoor
set_option maxRecDepth 100000
set_option maxHeartbeats 32000000
set_option linter.defProp false
open Go.Proofs.Tryz
section
open Go.RowKit
attribute [local go_sem ↓] Cz
def P4(w:World)(v:Value)(z:List (List Pu))(FT:Nat->Prop):Prop:=
 ∃h:List Value,h.length=z.length/\w.ownsRow 0 72 1 v z.length h/\(∀k (I:k<h.length) (H:k<z.length),AZ w (h[k]'I) (z[k]'H))/\(∀g,v.ownBlock=some g->¬FT g)/\∀x∈h,∀g,x.ownBlock=some g->¬FT g
def Df(l:List (List Pu)):Nat:=(l.map List.length).sum
def Ni(x:List Pu)(r:List (List Pu)):Df (x::r)=x.length+Df r:=by simp[Df]
def LC(x y:List (List Pu)):Df (x++y)=Df x+Df y:=by simp[Df]
def Qs(l:List (List Pu))(k:Nat):Df (l.take k)<=Df l:=by
 conv=>rhs;rw[<-DK k l]
 rw[LC];omega
def Su(l:List Pu)(r:List (List Pu))(last:Int)(kept:List Int)(P:PD):PD.ah (l::r) last kept P=if (P.aI (last+1) l).1≠0 then ((P.aI (last+1) l).1,last+1,kept,(P.aI (last+1) l).2) else
 PD.ah r (last+1) (kept++[last+1]) (P.aI (last+1) l).2:=rfl
def Fit.aI{P:PD}{a c m:Nat}(h:Fit P a c m)(n:Int)(l:List Pu):Fit (P.aI n l).2 (a+1) (c+1) (m+17*l.length+4):=by
 have:=h.aH (Aw n) (AB (Aw n)) (Cb l);rw[ND]at this;exact this
def Sg{n:Int}(h:0<=n)(z:n<=9223372036854775807):Cv n:=by
 refine⟨h,z,?_⟩;rw[KJ h,Pv];have e:(10:Nat) ^ 19=10000000000000000000:=by decide
 exact O2 19 _ (by rw[e];omega) (by omega)
section
variable{w:World}{ab b xb jb B:Nat}{sv ov lv jo:Value}{A:Ar}{P:PD}{Ft FT:Nat->Prop}{a c m:Nat}
def A2E(w:World)(h:AD w ab b A P FT)(n:Int)(O:Value)(l:List Pu)(hF:Fit P a c m)(hl:CN (a+1) (c+1) m)(hn:Cv n)(hL:Lets B w)(hp:Hp w O l)(W:∀p∈l,B8 p)(I:l.length<=134217728):
 Aj 111 #[A7 b,A0 n,O] w λe w'=>
  ((P.aI n l).1≠0/\e=.returned (.tuple #[.pointer none,A0 (P.aI n l).1])\/(P.aI n l).1=0/\∃Y,e=.returned (.tuple #[A7 Y,A0 0]))/\Ax w FT w' (λw' H=>AD w' ab b A (P.aI n l).2 H):=by
 obtain⟨xb,jb,sv,ov,lv,jo,Ft,z,X⟩:=h;refine(YV w O l z.dk z.lt hF hl hn hL hp W I).mono ?_;rintro e w'⟨h3,h4⟩;exact⟨h3,z.cz X (z.b7 h4)⟩
def Fit.cx{A:Ar}{P:PD}{a c m:Nat}(h:Fit P a c m)(l:List Int):Fit (A.ai P l).2.2 (a+2) (c+2) (m+12+8*l.length):=by
 unfold Ar.ai;split
 ·exact h.ae (by omega) (by omega) (by omega)
 ·split
  ·exact h.dW _ _
  ·exact h.dW _ _
def A2g(A:Ar)(P:PD)(l:List Int):((A.ai P l).2.1.ix.segs=A.ix.segs\/(A.ai P l).2.1.ix.segs=l)/\((A.ai P l).2.1.j.Al=A.j.Al\/(A.ai P l).2.1.j.Al=[]):=by
 unfold Ar.ai;split
 ·exact⟨.inl rfl,.inl rfl⟩
 ·split
  ·exact⟨.inl rfl,.inl rfl⟩
  ·exact⟨.inr rfl,.inr rfl⟩
def AD.cN{n:Nat}{v:Value}{xs:List Value}(h:AD w ab b A P FT)(z:w.ownsRow 0 3 1 v n xs){g:Nat}(I:v.ownBlock=some g):g≠ab:=by
 obtain⟨xb,jb,sv,ov,lv,jo,Ft,H,h2⟩:=h;have⟨c,hc⟩:=Bd z I;exact BP hc H.Ai (by decide)
def R0(w:World)(h:AD w ab b A P FT)(bU:∀k,FT k->k<w.heap.size)(kv:Value)(kept:List Int)(aB:DF w kv kept)(dC:∀g,kv.ownBlock=some g->¬FT g/\B<=g)(fv:Value)(fresh:List (List Pu))(eK:P4 w fv fresh FT)(cM:∀l∈fresh,(∀p∈l,B8 p)/\l.length<=134217728)(cX:0<=A.A8/\A.A8+fresh.length<=9223372036854775807)(b3:AY (A.j.A8+1))(_hkr:∀x∈kept,AY x)(hF:Fit P a c m)(hl:CN (a+fresh.length+2) (c+2*a+2*fresh.length+4) (m+17*Df fresh+12*fresh.length+12+8*kept.length))(dB:kept.length+fresh.length<=134217728)(hn:∀n∈A.ix.segs,Cv n)(bV:∀n∈A.j.Al,Cv n)(b1:∀n∈kept,Cv n)(bL:A.ix.segs.length<=1073741824)(bS:A.j.Al.length<=1073741824)(hL:Lets B w)(bJ:∀k,FT k->B<=k):
 Aj 66 #[A7 ab,kv,fv] w (Au (A0 (A.ay P kept fresh).1) λw'=>Ax w (λk=>FT k\/kv.ownBlock=some k) w' (λw' z=>AD w' ab b (A.ay P kept fresh).2.1 (A.ay P kept fresh).2.2 z)):=by
 obtain⟨i0,hi,dW,eM,eC⟩:=Oi;obtain⟨ka,H,rfl,kc1,eH,-⟩:=Bb aB;obtain⟨vs,vl,bN,cI,cU,cC⟩:=eK;obtain⟨fa,b7,rfl,fc1,dO,-⟩:=Bb bN;unfold maxLen at eH dO;have⟨q1,q2,q3⟩:=Yn A P;have b8:CN a (c+a) m:=⟨by have:=hl.a;omega,by have:=hl.c;omega,by have:=hl.m;omega⟩;have bI:=Fit.aK (A:=A) hF;have aQ:A5 Ab w (w.aC #[.func (Fn.func 69) #[A7 ab] #[],.func (Fn.func 110) #[A7 ab] #[]] 41):=(A5.C _ w).aj _;have eB:=A4 (Yo _ w.heap.size (h.aJ aQ) (λk hk=>Bm (bU k hk) aQ.Am) (λhx=>Gj _ (bU _ hx)) (by simp) (BN w _) hF b8 hn bV bL bS (hL.aP aQ) bJ);have b0:=A4 (Nu A P kept fresh);obtain⟨R,hR⟩:∃R,A.ay P kept fresh=R:=⟨_,rfl⟩;rw[hR]at b0 ⊢;obtain⟨X,hX⟩:∃X,A.aK P=X:=⟨_,rfl⟩;rw[hX]at b0 eB q1 q2 q3 bI;have eA:=A4 aQ;have dN:=A4 <| h.bF.2.2.2.2;have aZ:=A4 bN;have bO:=A4 cI;have dR:=A4 cU;have dL:=A4 cC;have aS:=A4 aB;have a1:=A4 dC;have eD:=A4 hL;have cA:=A4 bJ;have dQ:=A4 cM;have aO:=A4 hl;have b9:=A4 bI;have bC:Hid ((∀n∈A.ix.segs,Cv n)/\(∀n∈A.j.Al,Cv n)/\(∀n∈kept,Cv n)/\A.ix.segs.length<=1073741824/\A.j.Al.length<=1073741824/\AY (A.j.A8+1)):=⟨hn,bV,b1,bL,bS,b3⟩;have eE:=A4 <| cX;have cY:=A4 dB;have eN:=A4 vl;have cH:=A4 Su;have dD:Hid (∀wx bP bY,Ax w FT wx (λw' z=>AD w' ab b bP bY z)->Ax w (λk=>FT k\/(Value.slice ka kept.length H).ownBlock=some k) wx (λw' z=>AD w' ab b bP bY z)):=λwx bP bY hx=>hx.bc λk hk=>.inl hk;clear hX hR aQ bU bN cI cU cC aB dC hL bJ cM hl bI hn bV b1 bL bS b3 cX dB h hF b8 _hkr
 go_enter func66,ntmps66
 go_wp2_with (fail);refine eB.k ?_;rintro w1 b4;have a0:=A4 (b4.a7 eA.o);clear eB b4;obtain⟨dS,O,aE⟩:=X;dsimp only at b0 q1 q2 q3 b9 a0;have eZ:=A4 q1;have e1:=A4 q2;have eS:=A4 q3;clear q1 q2 q3;by_cases hx:dS=0
 case neg=>
  have aG:R=(dS,O,aE):=by rw[b0.o,Ah hx]
  subst aG;have hxb:(dS !=0)=true:=by simpa using hx
  go_wp2;go_ret;exact⟨rfl,dD.o _ _ _ a0.o⟩
 case pos=>
 subst hx
 have a4:Hid (R=if (PD.ah fresh O.A8 kept aE).1≠0 then ((PD.ah fresh O.A8 kept aE).1,{O with A8:=(PD.ah fresh O.A8 kept aE).2.1},(PD.ah fresh O.A8 kept aE).2.2.2) else
  if (({O with A8:=(PD.ah fresh O.A8 kept aE).2.1}:Ar).ai (PD.ah fresh O.A8 kept aE).2.2.2 (PD.ah fresh O.A8 kept aE).2.2.1).1≠0 then
   ({O with A8:=(PD.ah fresh O.A8 kept aE).2.1}:Ar).ai (PD.ah fresh O.A8 kept aE).2.2.2 (PD.ah fresh O.A8 kept aE).2.2.1
  else (({O with A8:=(PD.ah fresh O.A8 kept aE).2.1}:Ar).ai (PD.ah fresh O.A8 kept aE).2.2.2 (PD.ah fresh O.A8 kept aE).2.2.1).2.1.a6
   (({O with A8:=(PD.ah fresh O.A8 kept aE).2.1}:Ar).ai (PD.ah fresh O.A8 kept aE).2.2.2 (PD.ah fresh O.A8 kept aE).2.2.1).2.2):=by unfold Hid;rw[b0.o,Ae (by simp)]
 obtain⟨S,hS⟩:∃S,PD.ah fresh O.A8 kept aE=S:=⟨_,rfl⟩;have eQ:=A4 hS;rw[hS]at a4;clear hS b0;have cN:=A4 <| AA aS.o λg W=>a0.o.1.Ao g (AG aS.o W) (a1.o g W).1;go_wp2
 go_loopw [1,24] (λv iv wr=>∃(k:Nat) (I:List Int) (aF:PD),iv=A0 k/\k<=fresh.length/\Hid (DF wr v I/\I.length=kept.length+k/\(∀g,v.ownBlock=some g->(Value.slice ka kept.length H).ownBlock=some g\/w.heap.size<=g)/\(∀x∈I,Cv x)/\
  Ax w (λk=>FT k\/(Value.slice ka kept.length H).ownBlock=some k) wr (λw' z=>AD w' ab b {O with A8:=O.A8+k} aF z/\∀g,v.ownBlock=some g->¬z g)/\Fit aF (a+k) (c+a+k) (m+17*Df (fresh.take k)+4*k)/\S=PD.ah (fresh.drop k) (O.A8+k) I aF)) (λ_ iv _=>fresh.length-(intOf iv).toNat)
 ·have⟨c1,aY,r1,l1,s1⟩:=a0.o;refine⟨0,kept,aE,rfl,by omega,cN.o,rfl,λg W=>.inl W,bC.o.2.2.1,⟨c1.ae λ_ _ h=>.inl h,aY,⟨by simpa using r1,λg W hx=>?_⟩,l1,λk hk=>(s1 k hk).imp .inl id⟩,by simpa[Df] using b9.o,by simpa using eQ.o.symm⟩;rcases s1 g hx with h|h
  ·exact(a1.o g W).1 h
  ·have:=AG aS.o W;omega
 ·obtain⟨k,I,aF,rfl,hk,hI⟩:=hrel;have⟨i1,i2,i3,i4,i5,i6,i7⟩:=hI.o;obtain⟨ap,cp,rfl,hcap1,bZ,-⟩:=Bb i1;unfold maxLen at bZ;by_cases aH:k<fresh.length
  ·(have aB:k<vs.length:=by have:=eN.o;omega);have dF:∀g,(Value.slice fa fresh.length b7).ownBlock=some g->g<w.heap.size/\¬(FT g\/(Value.slice ka kept.length H).ownBlock=some g):=λg W=>⟨AG aZ.o W,λh=>h.elim (dR.o g W) (Im aZ.o aS.o (by decide) W)⟩
   obtain⟨c1,aY,⟨r1,aW⟩,l1,s1⟩:=i5;obtain⟨g,rfl⟩:∃g,fa=some (Ad g 0):=by
    obtain⟨a',c',e,-,-,hz,-⟩:=Bb aZ.o;cases e;exact hz (by omega)
   have d0:=BB aZ.o rfl (Ef aB);have d1:=c1.bB d0 (dF g rfl).2;have aI:=AA (bO.o k aB aH) λg' W=>c1.Ao g' (AG (bO.o k aB aH) W) λh=>h.elim (dL.o _ (BS aB) g' W) (Im (bO.o k aB aH) aS.o (by decide) W);have a5:=dQ.o _ (BS aH);have bT:=Dz aH;have bW:=Fy aH;have dP:=Qs fresh (k+1);obtain⟨xv,cV⟩:∃xv,(vs[k]'aB)=xv:=⟨_,rfl⟩;rw[cV]at d0 d1 aI;obtain⟨pl,cP⟩:∃pl,(fresh[k]'aH)=pl:=⟨_,rfl⟩;rw[cP]at aI a5 bT bW;obtain⟨pa,aP,rfl,pc1,eG,-⟩:=Bb aI;unfold maxLen at eG;obtain⟨L,a6⟩:∃L,O.A8+(k:Int)=L:=⟨_,rfl⟩;(have hLr:0<=L/\L+1<=9223372036854775807:=by have:=eE.o;rw[<-a6,eS.o];omega);rw[a6]at r1 i7;rw[bW,cH.o]at i7;have⟨e0,e3,z3,hab,hFab⟩:=r1.bF;dsimp only at e3;(have ew:wrap64 (L+1)=L+1:=by unfold wrap64;omega);have ew2:IntKind.i64.wrap (L+1)=L+1:=GN (by omega);have r5:=r1.fJ (L+1);have aT:FT ab\/(Value.slice ka kept.length H).ownBlock=some ab:=.inl dN.o;have c5:A5 (λk=>FT k\/(Value.slice ka kept.length H).ownBlock=some k) w (wr.sC ab 3 (A0 (L+1))):=c1.bn (p:=(Ad ab 3)) (λ_=>aT) _;have bQ:=r5.aJ (A5.C Ab (wr.sC ab 3 (A0 (L+1)))).ad;have a9:∀g',(Value.slice ap I.length cp).ownBlock=some g'->g'≠ab:=λg' W=>r1.cN i1 W;have k5:A5 (One ab) wr (wr.sC ab 3 (A0 (L+1))).drew:=((A5.C (One ab) wr).ao (b:=ab) rfl 3 _).ad;have bE:AZ (wr.sC ab 3 (A0 (L+1))).drew (.slice pa pl.length aP) pl:=AA aI λg' W=>k5.Ao g' (AG aI W) λe=>by
    obtain⟨xb,jb,sv,ov,lv,jo,Ft,hv,_⟩:=r1;have⟨c',hc'⟩:=Bd aI W;exact BP hc' hv.Ai (by decide) e
   have a7:DF (wr.sC ab 3 (A0 (L+1))).drew (.slice ap I.length cp) I:=AA i1 λg' W=>k5.Ao g' (AG i1 W) (a9 g' W);have l5:∀k,aY k->k<(wr.sC ab 3 (A0 (L+1))).drew.heap.size:=λk hk=>Bm (l1 k hk) k5.Am;have cT:∀k,(FT k\/(Value.slice ka kept.length H).ownBlock=some k)->B<=k:=λk hk=>hk.elim (cA.o k) λh=>(a1.o k h).2
   have cG:=eD.o.ak c5.ad cT;have aU:CN (a+k+1) (c+a+k+1) (m+17*Df (fresh.take k)+4*k):=by
    have:=aO.o;have h2:=Qs fresh k;exact⟨by have:=this.a;omega,by have:=this.c;omega,by have:=this.m;omega⟩
   have aM:=A4 (A2E _ bQ (L+1) _ pl i6 aU (Sg (by omega) (by omega)) cG bE.rd a5.1 a5.2);have bR:=A4 (i6.aI (L+1) pl);obtain⟨Y,hY⟩:∃Y,aF.aI (L+1) pl=Y:=⟨_,rfl⟩;rw[hY]at i7 aM bR;(have dK:Hid (17*Df (fresh.take (k+1))+4*(k+1)=17*Df (fresh.take k)+4*k+17*pl.length+4):=by unfold Hid;rw[bT,LC];simp[Df];omega);have dZ:=A4 a6;have dJ:=A4 i2;have eX:=A4 i3;have eW:=A4 i4;have dI:=A4 i7;have dH:=A4 c5.ad;have eF:Hid (∀k,aY k->(FT k\/(Value.slice ka kept.length H).ownBlock=some k)\/w.heap.size<=k):=s1;have cB:=A4 aW;have bM:=A4 a7;(have cL:wr.heap.size=(wr.sC ab 3 (A0 (L+1))).drew.heap.size:=by show _=(wr.setCell _ _).heap.size;simp);have SZ5:=A4 cL;obtain⟨f0,f3,-,-,-⟩:=bQ.bF;dsimp only at f3;(have dV:(k:Int)<(fresh.length:Int):=by omega);have hk0:=Cd k;clear hI i1 i2 i3 i4 i6 i7 c1 r1 aW l1 s1 d0 aI a5 bT bW dP cV cP a6 r5 c5 bQ a9 k5 bE a7 l5 cT cG aU hY dF aB aT hFab cL;obtain⟨b2,a2⟩:=Y;dsimp only at aM dI bR
   have aD:Hid (∀w6,Ax (wr.sC ab 3 (A0 (L+1))).drew aY w6 (λw' z=>AD w' ab b {O with A8:=L+1} a2 z)->
    (Aa w6 ab 0 (A7 b)/\Aa w6 ab 3 (A0 (L+1)))/\Ax w (λk=>FT k\/(Value.slice ka kept.length H).ownBlock=some k) w6 (λw' z=>AD w' ab b {O with A8:=L+1} a2 z)):=λw6 h6=>by
    obtain⟨_,cQ,bK,_⟩:=h6;exact⟨⟨bK.bF.1,bK.bF.2.1⟩,Ax.a8 dH.o eF.o ⟨‹_›,cQ,bK,‹_›⟩⟩
   by_cases hy:b2=0
   case neg=>
    (have a3:S=(b2,L+1,I,a2):=by rw[dI.o,Ah hy]);(have aG:R=(b2,{O with A8:=L+1},a2):=by rw[a4.o,a3,Ah hy]);subst aG;have aR:Hid (Aj 111 #[A7 b,A0 (L+1),.slice pa pl.length aP] (wr.sC ab 3 (A0 (L+1))).drew (Au (.tuple #[.pointer none,A0 b2]) λw'=>Ax (wr.sC ab 3 (A0 (L+1))).drew aY w' (λw' z=>AD w' ab b {O with A8:=L+1} a2 z))):=by
     refine aM.m ?_;rintro e w'⟨⟨_,h2⟩|⟨h1,_⟩,h3⟩
     ·exact⟨h2,h3⟩
     ·exact absurd h1 hy
    (have hyb:(b2 !=0)=true:=by simpa using hy);clear a3 aM;go_wp2;refine Ce (λw'=>Aa w' ab 0 (A7 b)/\Aa w' ab 3 (A0 (L+1))) 14
     (BD [0,1,2,3,4,5,6,7,8,9,10,11,12,13] [9]) ⟨f0,f3⟩ ?_
    iterate 9 refine Bq ?_
    refine By λK hK=>?_;go_simp;refine aR.k ?_;rintro w6 hI;refine hK _ _ (aD.o w6 hI).1 (λhS=>?_);have eV:=A4 (aD.o w6 hI).2;clear hK K hS hI aR aD
    iterate 4 refine Bq ?_
    refine Cc ?_;go_wp2;go_ret;exact⟨rfl,eV.o⟩
   case pos=>
    subst hy;(have eY:Hid (S=PD.ah (fresh.drop (k+1)) (L+1) (I++[L+1]) a2):=by unfold Hid;rw[dI.o,Ae (by simp)]);have aR:Hid (Aj 111 #[A7 b,A0 (L+1),.slice pa pl.length aP] (wr.sC ab 3 (A0 (L+1))).drew λe w'=>∃gb,e=.returned (.tuple #[A7 gb,A0 0])/\Ax (wr.sC ab 3 (A0 (L+1))).drew aY w' (λw' z=>AD w' ab b {O with A8:=L+1} a2 z)):=by
     refine aM.m ?_;rintro e w'⟨⟨h1,_⟩|⟨_,gb,h2⟩,h3⟩
     ·exact absurd rfl h1
     ·exact⟨gb,h2,h3⟩
    clear aM dI;go_wp2;refine Ce (λw'=>Aa w' ab 0 (A7 b)/\Aa w' ab 3 (A0 (L+1))) 14
     (BD [0,1,2,3,4,5,6,7,8,9,10,11,12,13] [9]) ⟨f0,f3⟩ ?_
    iterate 9 refine Bq ?_
    refine By λK hK=>?_;go_simp;refine aR.m ?_;rintro e w6⟨gb,rfl,hI⟩;refine hK _ _ (aD.o w6 hI).1 (λhS=>?_);have g63:=(aD.o w6 hI).1.2;have cD:=A4 hI;clear hK K hS hI aR aD
    iterate 4 refine Bq ?_
    refine Cc ?_;have bH:=A4 cD.o.1;have cZ:Hid (DF w6 (.slice ap I.length cp) I):=AA bM.o λg' W=>bH.o.Ao g' (AG bM.o W) (cB.o g' W);have cS:Hid ((w6.aC #[A0 (L+1)] 3).ownsRow 0 3 1 (.slice ap I.length cp) I.length (DR I)):=AA cZ.o λg' W=>((A5.C Ab w6).aj _).Ao g' (AG cZ.o W) (λh=>h)
    have eI:=A4 (Src.ba (size:=1) (B:=w6.heap.size) underlying120 w6 #[A0 (L+1)] 3 (by simp) 1 1 rfl (JJ [L+1]));go_wp2_with (at_builtin;refine De rfl (.tmp 51) (.tmp 56) 120 120 rfl 3 i0 _ 1 8 underlying120 hi dW eM eC rfl (by decide) (.slice ap I.length cp) I.length (DR I) (by rfl) cS.o _ 1 _ (by rfl) eI.o (by have:=dJ.o;have:=cY.o;omega) ?_;intro a8 dG w8 hA;have eT:=A4 hA;clear hA);go_roundw
    ·have hA:=eT.o;have k7:A5 Ab w6 (w6.aC #[A0 (L+1)] 3):=(A5.C _ w6).aj _;have aL:=hA.An (S:=λk=>(Value.slice ap I.length cp).ownBlock=some k) λ_ h=>h;have k8:A5 (λk=>(Value.slice ap I.length cp).ownBlock=some k) w6 w8:=(k7.aZ).tr aL;have⟨_,cQ,r2,l2,s2⟩:=cD.o;have bF:∀g',(Value.slice ap I.length cp).ownBlock=some g'->¬cQ g':=λg' W hx=>by
      rcases s2 g' hx with h|h
      ·exact cB.o g' W h
      ·have:=AG bM.o W;omega
     have r8:AD w8 ab b {O with A8:=L+1} a2 cQ:=r2.aM (k8.az l2 λk hk hx=>bF k hx hk) k8.Am;have bD:∀g',(Value.slice a8 (I.length+1) dG).ownBlock=some g'->(Value.slice ap I.length cp).ownBlock=some g'\/w6.heap.size<=g':=λg' W=>by
      rcases hA.Cu with h|h
      ·rw[h]at W;exact .inl W
      ·rw[h]at W;cases W;exact .inr k7.Am
     have eO:A5 (λk=>aY k\/(Value.slice ap I.length cp).ownBlock=some k) (wr.sC ab 3 (A0 (L+1))).drew w8:=(bH.o.ae λ_ _ h=>.inl h).AJ k8 λ_ h _=>.inr h;have bB:∀g',(Value.slice ap I.length cp).ownBlock=some g'->(Value.slice ka kept.length H).ownBlock=some g'\/w.heap.size<=g':=eX.o;have c8:A5 (λk=>FT k\/(Value.slice ka kept.length H).ownBlock=some k) w w8:=dH.o.AJ eO λx hx hlt=>by
      rcases hx with hx|hx
      ·exact(eF.o x hx).resolve_right (by omega)
      ·exact .inr ((bB x hx).resolve_right (by omega))
     (have eL:O.A8+((k+1:Nat):Int)=L+1:=by have:=dZ.o;omega);refine⟨k+1,I++[L+1],a2,by go_num,by omega,?_,by have:=dJ.o;simp;omega,λg' W=>?_,λx hx=>?_,⟨c8,cQ,⟨by rw[eL];exact r8,λg' W hx=>?_⟩,λk hk=>Bm (l2 k hk) k8.Am,λk hk=>?_⟩,?_,by rw[eL];exact eY.o⟩
     ·(have e:(I++[L+1]).length=I.length+1:=by simp);unfold DF;rw[KK,e];exact hA.AP
     ·rcases bD g' W with h|h
      ·exact bB g' h
      ·have:=c8.Am;have:=dH.o.Am;have:=bH.o.Am;exact .inr (by omega)
     ·rcases AU.1 hx with hx|hx
      ·exact eW.o x hx
      ·simp at hx;subst hx;exact Sg (by omega) (by omega)
     ·rcases bD g' W with h|h
      ·exact bF g' h hx
      ·have:=l2 g' hx;omega
     ·rcases s2 k hk with h|h
      ·exact eF.o k h
      ·have:=dH.o.Am;exact .inr (by omega)
     ·have h1:=bR.o;have h2:=dK.o;exact h1.ae (by omega) (by omega) (by omega)
    ·simp[intOf];omega
  ·(obtain rfl:k=fresh.length:=by omega);rw[Gm]at i7;rw[Cj]at i6;have a3:S=(0,O.A8+(fresh.length:Int),I,aF):=i7;subst a3;have aN:Hid (R=if (({O with A8:=O.A8+(fresh.length:Int)}:Ar).ai aF I).1≠0 then ({O with A8:=O.A8+(fresh.length:Int)}:Ar).ai aF I else (({O with A8:=O.A8+(fresh.length:Int)}:Ar).ai aF I).2.1.a6 (({O with A8:=O.A8+(fresh.length:Int)}:Ar).ai aF I).2.2):=by
    unfold Hid;rw[a4.o,Ae (by simp)]
   obtain⟨aX,aL⟩:∃aX:Ar,({O with A8:=O.A8+(fresh.length:Int)}:Ar)=aX:=⟨_,rfl⟩;(have b6:aX.ix=A.ix:=by rw[<-aL];exact eZ.o);(have ej:aX.j=A.j:=by rw[<-aL];exact e1.o);rw[aL]at aN i5;obtain⟨c1,aY,⟨r1,aW⟩,l1,s1⟩:=i5;have⟨n1,n2,n3,n4,n5,n6⟩:=bC.o;have bG:∀k,(FT k\/(Value.slice ka kept.length H).ownBlock=some k)->B<=k:=λk hk=>hk.elim (cA.o k) λh=>(a1.o k h).2
   have dA:=eD.o.ak c1 bG;have aA:=aO.o;(have bA:I.length<=134217728:=by have:=cY.o;omega);have b5:=A4 (A2b wr r1 (.slice ap I.length cp) I (DF.rd i1) (λg W=>aW g W) (by rw[ej];exact n6) (λx hx=>by have:=i4 x hx;exact⟨by have:=this.1;omega,this.2.1⟩) bA i6 ⟨by have:=aA.a;omega,by have:=aA.c;omega,by have:=aA.m;omega⟩ dA);have aV:Hid (Fit (aX.ai aF I).2.2 (a+fresh.length+2) (c+a+fresh.length+2) (m+17*Df fresh+4*fresh.length+12+8*I.length)):=i6.cx I;have bX:=A2g aX aF I;have aJ:Hid ((∀n∈(aX.ai aF I).2.1.ix.segs,Cv n)/\(aX.ai aF I).2.1.ix.segs.length<=1073741824):=by
    rcases bX.1 with h|h
    ·rw[h,b6];exact⟨n1,n4⟩
    ·rw[h];exact⟨i4,by omega⟩
   have aK:Hid ((∀n∈(aX.ai aF I).2.1.j.Al,Cv n)/\(aX.ai aF I).2.1.j.Al.length<=1073741824):=by
    rcases bX.2 with h|h
    ·rw[h,ej];exact⟨n2,n5⟩
    ·rw[h];exact⟨λn hn=>by simp at hn,by simp⟩
   obtain⟨T,hT⟩:∃T,aX.ai aF I=T:=⟨_,rfl⟩;rw[hT]at aN b5 aV aJ aK;have aD:Hid (∀w2 bP bY,Ax wr (λk=>aY k\/(Value.slice ap I.length cp).ownBlock=some k) w2 (λw' z=>AD w' ab b bP bY z)->Ax w (λk=>FT k\/(Value.slice ka kept.length H).ownBlock=some k) w2 (λw' z=>AD w' ab b bP bY z)):=λw2 bP bY h2=>
    Ax.a8 c1 (λk hk=>hk.elim (λh=>s1 k h) λh=>(i3 k h).imp (λh=>.inr h) id) h2
   have dU:Hid (∀w2,A5 (λk=>FT k\/(Value.slice ka kept.length H).ownBlock=some k) w w2->Lets B w2):=λw2 h2=>eD.o.ak h2 bG;have dJ:=A4 i2;(have dV:¬((fresh.length:Int)<(fresh.length:Int)):=by omega);obtain⟨eJ,eR,eP⟩:=T;dsimp only at aN b5 aV aJ aK;clear hI i1 i2 i3 i4 i6 i7 aL b6 ej c1 r1 aW l1 s1 n1 n2 n3 n4 n5 n6 bG dA aA bX hT a4 eQ cH bA;by_cases ht:eJ=0
   case neg=>
    (have aG:R=(eJ,eR,eP):=by rw[aN.o,Ah ht]);subst aG;(have htb:(eJ !=0)=true:=by simpa using ht);go_wp2_with (go_at_call 112;refine b5.k ?_;rintro w6 cJ;have dT:=A4 (aD.o w6 _ _ cJ);clear cJ);go_ret;exact⟨rfl,dT.o⟩
   case pos=>
    subst ht;(have aG:R=eR.a6 eP:=by rw[aN.o,Ae (by simp)]);have cE:=A4 aG;clear aG aN;go_wp2_with (fail);refine b5.k ?_;rintro w6 dE;have dY:=aD.o w6 _ _ dE;obtain⟨c6,eU,r6,l6,s6⟩:=dY;have k7:A5 Ab w6 (w6.aC #[.func (Fn.func 110) #[A7 ab] #[],.func (Fn.func 71) #[A7 b] #[]] 41):=(A5.C _ w6).aj _;have aA:=aO.o;have dX:=A4 (A1N _ w6.heap.size (r6.aJ k7) (λk hk=>Bm (l6 k hk) k7.Am) (λhx=>Gj _ (l6 _ hx)) (by simp) (BN w6 _) aV.o ⟨by have:=aA.a;omega,by have:=aA.c;omega,by have:=aA.m;have:=dJ.o;omega⟩ aJ.o.1 aK.o.1 aJ.o.2 aK.o.2 ((dU.o w6 c6).aP k7));rw[<-cE.o]at dX;have g0:=r6.bF.1;have cO:Hid (∀w9,Ax (w6.aC #[.func (Fn.func 110) #[A7 ab] #[],.func (Fn.func 71) #[A7 b] #[]] 41) eU w9 (λw' z=>AD w' ab b R.2.1 R.2.2 z)->Ax w (λk=>FT k\/(Value.slice ka kept.length H).ownBlock=some k) w9 (λw' z=>AD w' ab b R.2.1 R.2.2 z)):=λw9 h9=>Ax.a8 c6 s6 (h9.a7 k7);clear cE;obtain⟨Z1,Z2,Z3⟩:=R;dsimp only at dX cO ⊢;clear dE c6 r6 l6 s6 k7 aA b5 aD;go_wp2_with (go_at_call 68;refine dX.k ?_;rintro w9 cF;have dM:=A4 (cO.o w9 cF);clear cF);go_ret;exact⟨rfl,dM.o⟩
end
section
variable{w w':World}{ab b xb jb B:Nat}{sv ov lv jo:Value}{A:Ar}{P P':PD}{Ft FT:Nat->Prop}{a c m:Nat}{J':Jn}
def Ck.jd(h:Ck w ab b xb jb sv ov lv jo A P Ft):JD w jb b A.j P (λk=>Ft k\/Dk jb lv jo k):=
 ⟨lv,jo,Ft,h.jn,h.dk,h.lt,λk z=>h.Dg k (.inr (.inr (.inr (.inr z)))),λ_ h=>h⟩
def Ck.fo(h:Ck w ab b xb jb sv ov lv jo A P Ft)(I:∀k,Ft k\/Fe ab xb jb sv ov lv jo k->FT k)(hI:Ax w (λk=>Ft k\/Dk jb lv jo k) w' (λw' X=>JD w' jb b J' P' X)):Ax w FT w' (λw' X=>AD w' ab b {A with j:=J'} P' X):=by
 obtain⟨hc,F2,⟨lv',aB,Y,h1,h2,h3,h4,h5⟩,hl,hs⟩:=hI;have H:∀k,(k=ab\/k=xb\/sv.ownBlock=some k\/ov.ownBlock=some k)->k<w.heap.size/\¬Ft k/\¬Dk jb lv jo k:=λk z=>by
  rcases z with rfl|rfl|z|z
  ·exact⟨h.Ai.lt,h.Dg _ (.inl rfl),λW=>(h.FG _ W).1 rfl⟩
  ·exact⟨h.ix.lt,h.Dg _ (.inr (.inl rfl)),λW=>(h.FG _ W).2 rfl⟩
  ·exact⟨h.segs.lt z,h.Dg k (.inr (.inr (.inl z))),(h.Fi k z).2.2⟩
  ·exact⟨h.AM.lt z,h.Dg k (.inr (.inr (.inr (.inl z)))),(h.G7 k z).2.2⟩
 have keep:∀k,(k=ab\/k=xb\/sv.ownBlock=some k\/ov.ownBlock=some k)->w'.heap[k]?=w.heap[k]?:=λk z=>hc.Ao k (H k z).1 λW=>W.elim (H k z).2.1 (H k z).2.2;have out:∀k,(k=ab\/k=xb\/sv.ownBlock=some k\/ov.ownBlock=some k)->¬Y k/\¬Dk jb lv' aB k:=λk z=>
  ⟨λW=>(hs k (h5 k (.inl W))).elim (λhy=>hy.elim (H k z).2.1 (H k z).2.2) λhy=>by have:=(H k z).1;omega,
   λW=>(hs k (h5 k (.inr W))).elim (λhy=>hy.elim (H k z).2.1 (H k z).2.2) λhy=>by have:=(H k z).1;omega⟩
 have aA:Ck w' ab b xb jb sv ov lv' aB {A with j:=J'} P' Y:=by
  refine⟨(keep ab (.inl rfl)).trans h.Ai,(keep xb (.inr (.inl rfl))).trans h.ix,h.segs.aM λg O=>keep g (.inr (.inr (.inl O))),h.AM.aM λg O=>keep g (.inr (.inr (.inr O))),h1,h2,h3,λk z=>?_,λg O=>?_,λg O=>?_,λk z=>?_⟩
  ·rcases z with z|z|z|z|z
   ·exact(out k (.inl z)).1
   ·exact(out k (.inr (.inl z))).1
   ·exact(out k (.inr (.inr (.inl z)))).1
   ·exact(out k (.inr (.inr (.inr z)))).1
   ·exact h4 k z
  ·exact⟨(h.Fi g O).1,(h.Fi g O).2.1,(out g (.inr (.inr (.inl O)))).2⟩
  ·exact⟨(h.G7 g O).1,(h.G7 g O).2.1,(out g (.inr (.inr (.inr O)))).2⟩
  ·exact⟨λe=>(out ab (.inl rfl)).2 (e ▸ z),λe=>(out xb (.inr (.inl rfl))).2 (e ▸ z)⟩
 have sub:∀k,(Ft k\/Dk jb lv jo k)->FT k:=λk z=>z.elim (λh=>I k (.inl h)) λh=>I k (.inr (.inr (.inr (.inr (.inr h)))));refine aA.bI hc (λk _ z=>sub k z) (λk z=>(hs k (h5 k (.inl z))).imp (sub k) id) λk z=>?_;rcases z with z|z|z|z|z
 ·exact .inl (I k (.inr (.inl z)))
 ·exact .inl (I k (.inr (.inr (.inl z))))
 ·exact .inl (I k (.inr (.inr (.inr (.inl z)))))
 ·exact .inl (I k (.inr (.inr (.inr (.inr (.inl z))))))
 ·exact(hs k (h5 k (.inr z))).imp (sub k) id
def A2e(w:World)(p:Pu)(h:AD w ab b A P FT)(aT:∀k,FT k->k<w.heap.size)(hp:B8 p)(hn:A.j.AP=none->Cv (A.j.A8+1)/\AY (A.j.A8+1)/\AY A.j.puts)(aS:A.j.Al.length<=1073741824)(hL:Lets B w)(aK:∀k,FT k->B<=k)(hF:Fit P a c m)(hl:CN (a+1) (c+1) (m+33)):
 Aj 57 #[A7 ab,DB p] w (Au (.tuple #[.bool (A.I P p).1,A0 (A.I P p).2.1]) λw'=>Ax w FT w' (λw' O=>AD w' ab b (A.I P p).2.2.1 (A.I P p).2.2.2 O)):=by
 obtain⟨I,H,z⟩:=p;unfold DB;dsimp only
 have⟨s1,s2,s3⟩:=LF A P;have aR:C5 (w.aC #[A0 I,A0 H,A0 z] 90) w.heap.size I H z:=BN w _;have k0:A5 Ab w (w.aC #[A0 I,A0 H,A0 z] 90):=(A5.C _ w).aj _;have ST:=A4 (QD _ (h.aJ k0))
 have aJ:Hid (A.I P (I,H,z)=if (A.aa P).1≠0 then (false,(A.aa P).1,(A.aa P).2.1,(A.aa P).2.2) else
  (((A.aa P).2.1.j.I (A.aa P).2.2 (I,H,z)).1,((A.aa P).2.1.j.I (A.aa P).2.2 (I,H,z)).2.1,{ (A.aa P).2.1 with j:=((A.aa P).2.1.j.I (A.aa P).2.2 (I,H,z)).2.2.1},((A.aa P).2.1.j.I (A.aa P).2.2 (I,H,z)).2.2.2)):=rfl
 have aG:=hF.aa (A:=A);generalize hR:A.I P (I,H,z)=R at aJ ⊢;generalize hX:A.aa P=X at aJ ST s1 s2 s3 aG;obtain⟨aL,aA,aE⟩:=X;dsimp only at aJ ST s1 s2 s3 aG;have sz:w.heap.size<(w.aC #[A0 I,A0 H,A0 z] 90).heap.size:=by simp
 have aO:Hid (∀w2,Ax (w.aC #[A0 I,A0 H,A0 z] 90) FT w2 (λw' O=>AD w' ab b aA aE O)->∃jb,Aa w2 ab 2 (A7 jb)/\C5 w2 w.heap.size I H z/\
  Aj 99 #[A7 jb,.agg #[A0 I,A0 H,A0 z]] w2.drew (Au (.tuple #[.bool (aA.j.I aE (I,H,z)).1,A0 (aA.j.I aE (I,H,z)).2.1]) λw'=>
   (Aa w' ab 2 (A7 jb)/\C5 w' w.heap.size I H z)/\Ax w FT w' (λw' O=>AD w' ab b {aA with j:=(aA.j.I aE (I,H,z)).2.2.1} (aA.j.I aE (I,H,z)).2.2.2 O))):=λw2 h2=>by
  obtain⟨c2,aW,⟨xb,jb,sv,ov,lv,jo,Ft,hv,aD⟩,l2,q2⟩:=h2;have kd:A5 Ab w2 w2.drew:=(A5.C _ w2).ad;have aI:=hv.aJ kd;have np:¬FT w.heap.size:=λW=>Gj _ (aT _ W);have aV:¬aW w.heap.size:=λW=>by rcases q2 _ W with h|h;exact np h;omega
  have aB:=aR.ak c2 np;refine⟨jb,hv.Ai.c2,aB,(ZV w2.drew (I,H,z) aI.jd hp (by rw[s2];exact hn) (by rw[s2];exact aS) (((hL.aP k0).ak c2 aK).aP kd) aG hl).mono ?_⟩;rintro e w'⟨rfl,hI⟩;have aH:∀k,(Ft k\/Dk jb lv jo k)->aW k:=λk hk=>hk.elim (λh=>aD k (.inl h)) λh=>aD k (.inr (.inr (.inr (.inr (.inr h)))));refine⟨rfl,⟨(aI.Ai.ak hI.1 λW=>W.elim (hv.Dg _ (.inl rfl)) λW=>(hv.FG _ W).1 rfl).c2,aB.ad.ak hI.1 λW=>aV (aH _ W)⟩,?_⟩;exact((Ax.a8 (c2.ad) q2 (aI.fo aD hI)).a7 k0)
 have aM:Hid (∀wx aN aU,Ax (w.aC #[A0 I,A0 H,A0 z] 90) FT wx (λw' O=>AD w' ab b aN aU O)->Ax w FT wx (λw' O=>AD w' ab b aN aU O)):=λwx aN aU W=>W.a7 k0;by_cases W:aL=0
 case neg=>
  have aF:R=(false,aL,aA,aE):=by rw[aJ.o,Ah W]
  subst aF;have hxb:(aL !=0)=true:=by simpa using W
  go_enter func57,ntmps57
  go_wp2_with (go_at_call 69;refine ST.k ?_;rintro w2 hI;have aP:=A4 (aM.o _ _ _ hI));go_ret2;exact⟨rfl,aP.o⟩
 case pos=>
  subst W;have aF:R=((aA.j.I aE (I,H,z)).1,(aA.j.I aE (I,H,z)).2.1,{aA with j:=(aA.j.I aE (I,H,z)).2.2.1},(aA.j.I aE (I,H,z)).2.2.2):=by rw[aJ.o,Ae (by simp)]
  generalize hY:aA.j.I aE (I,H,z)=Y at aO aF;obtain⟨Y0,Y1,Y2,Y3⟩:=Y;dsimp only at aO aF;subst aF
  go_enter func57,ntmps57
  go_wp2_with (fail);refine ST.k ?_;rintro w2 hI;have⟨jb,c22,aB,AL⟩:=aO.o w2 hI;have aQ:=A4 AL;have d2:Aa w2.drew ab 2 (A7 jb):=c22;have e0:=aB.ad.c0;have e1:=aB.ad.c1;have e2:=aB.ad.c2;go_wp2;refine Ce (λw'=>Aa w' ab 2 (A7 jb)/\Aa w' w.heap.size 0 (A0 I)/\Aa w' w.heap.size 1 (A0 H)/\Aa w' w.heap.size 2 (A0 z)) 8
   (BD [0,1,2,3,4,5,6,7] [5]) ⟨d2,e0,e1,e2⟩ ?_
  iterate 5 refine Bq ?_
  refine By λK hK=>?_;go_simp;refine aQ.k ?_;rintro w3⟨⟨e4,eb⟩,hI⟩;refine hK _ _ ⟨e4,eb.c0,eb.c1,eb.c2⟩ (λhS=>?_);have aP:=A4 hI
  iterate 2 refine Bq ?_
  refine Cc ?_;go_wp2;go_ret2;exact⟨rfl,aP.o⟩
end
def GP(len:Int)(p q:Pu):Int:=Jy (Ch (BH p.2.1 len) (BH q.2.1 len)) (Cq p q)
def OT{x y:Int}:Ch x y<0↔x<y:=by
 unfold Ch;split
 ·simp_all
 ·split<;>simp_all
def Mt{x y:Int}:Ch x y=0↔x=y:=by
 unfold Ch;split
 ·constructor<;>intro h<;>omega
 ·split
  ·constructor<;>intro h<;>omega
  ·constructor<;>intro h<;>omega
def A1L{p q:Pu}:Cq p q<0↔(p.1<q.1\/p.1=q.1/\p.2.1<q.2.1):=by
 unfold Cq;by_cases h:Ch p.1 q.1=0
 ·rw[Ae (by simpa using h),OT];have:=Mt.1 h;constructor
  ·exact λz=>.inr ⟨this,z⟩
  ·rintro (z|⟨_,z⟩)
   ·omega
   ·exact z
 ·rw[Ah h,OT];have:¬p.1=q.1:=λe=>h (Mt.2 e);constructor
  ·exact λz=>.inl z
  ·rintro (z|⟨z,_⟩)
   ·exact z
   ·exact absurd z this
def Mr{len:Int}{p q:Pu}:GP len p q<0↔AE len p q=true:=by
 unfold GP Jy AE;rw[decide_eq_true_iff];by_cases h:Ch (BH p.2.1 len) (BH q.2.1 len)=0
 ·rw[Ae (by simpa using h),A1L];have:=Mt.1 h;constructor
  ·exact λz=>.inr ⟨this,z⟩
  ·rintro (z|⟨_,z⟩)
   ·omega
   ·exact z
 ·rw[Ah h,OT];have:¬BH p.2.1 len=BH q.2.1 len:=λe=>h (Mt.2 e);constructor
  ·exact λz=>.inl z
  ·rintro (z|⟨z,_⟩)
   ·exact z
   ·exact absurd z this
def FY(len:Int):BX (AE len):=by
 refine⟨λx=>?_,λx y z=>?_,λx y z=>?_⟩
 ·unfold AE;simp
 ·unfold AE;simp only[DT];omega
 ·unfold AE;simp only[DT];omega
def A1I(len:Int)(p q:Pu):GP len p q = -1\/GP len p q=0\/GP len p q=1:=by
 unfold GP Jy;split
 ·exact OQ _ _
 ·exact Ud _ _
def Ms(w:World)(wb:Nat)(len:Int)(p q:Pu)(hp:AY p.2.1)(hq:AY q.2.1)(hl:1<=len/\len<=4611686018427387904)(hw:Aa w wb 0 (A0 len)):
 Aj 103 #[DB p,DB q,A7 wb] w (Au (A0 (GP len p q)) λw'=>A5 Ab w w'):=by
 obtain⟨p1,H,O⟩:=p;obtain⟨W,I,Y⟩:=q;unfold GP DB;dsimp only at hp hq ⊢;have aO:=A4 (OO);have OR:=A4 (S9);have aL:=A4 (λz t (ht:AY t)=>N7 z t len ht hl);have aF:=A4 (λz=>NF z (p1,H,O) (W,I,Y));unfold DB at aF;dsimp only at aF;obtain⟨x,hx⟩:∃x,BH H len=x:=⟨_,rfl⟩;obtain⟨y,hy⟩:∃y,BH I len=y:=⟨_,rfl⟩;have aE:=A4 (λz=>aL.o z H hp);have aB:=A4 (λz=>aL.o z I hq);rw[hx]at aE;rw[hy]at aB;rw[hx,hy];obtain⟨r,hr⟩:∃r,Ch x y=r:=⟨_,rfl⟩;obtain⟨s,hs⟩:∃s,Cq (p1,H,O) (W,I,Y)=s:=⟨_,rfl⟩;have aD:=A4 (λz=>aO.o z x y);rw[hr]at aD;rw[hs]at aF;rw[hr,hs];have b1:C5 ((w.alloc (.cells #[A0 p1,A0 H,A0 O] 90)).alloc (.cells #[A0 W,A0 I,A0 Y] 90)) w.heap.size p1 H O:=(CU _ _ _ (by simp)).trans (BN w _);have b2:C5 ((w.alloc (.cells #[A0 p1,A0 H,A0 O] 90)).alloc (.cells #[A0 W,A0 I,A0 Y] 90)) (w.heap.size+1) W I Y:=by
  have:=BN (w.alloc (.cells #[A0 p1,A0 H,A0 O] 90)) (.cells #[A0 W,A0 I,A0 Y] 90);simpa[C5] using this
 have k2:A5 Ab w ((w.alloc (.cells #[A0 p1,A0 H,A0 O] 90)).alloc (.cells #[A0 W,A0 I,A0 Y] 90)):=((A5.C _ w).aj _).aj _;have sz:((w.alloc (.cells #[A0 p1,A0 H,A0 O] 90)).alloc (.cells #[A0 W,A0 I,A0 Y] 90)).heap.size=w.heap.size+2:=by simp
 have aM:=A4 b1;have aI:=A4 b2;have aJ:=A4 k2;have aP:=A4 sz;have aN:=A4 (k2.an hw)
 go_enter func103,ntmps103
 go_wp2;generalize ((w.alloc (.cells #[A0 p1,A0 H,A0 O] 90)).alloc (.cells #[A0 W,A0 I,A0 Y] 90))=w2 at aM aI aJ aP aN ⊢;have aG:Hid (∀z,A5 Ab w2 z->Aa z w.heap.size 0 (A0 p1)/\Aa z w.heap.size 1 (A0 H)/\Aa z w.heap.size 2 (A0 O)/\Aa z (w.heap.size+1) 0 (A0 W)/\Aa z (w.heap.size+1) 1 (A0 I)/\Aa z (w.heap.size+1) 2 (A0 Y)/\Aa z wb 0 (A0 len)):=λz hx=>by
  have e1:=aM.o.ak hx (λh=>h);have e2:=aI.o.ak hx (λh=>h);exact⟨e1.c0,e1.c1,e1.c2,e2.c0,e2.c1,e2.c2,hx.an aN.o⟩
 have aA:=aG.o w2.drew (A5.C _ w2).ad;refine Ce (λw'=>Aa w' w.heap.size 0 (A0 p1)/\Aa w' w.heap.size 1 (A0 H)/\Aa w' w.heap.size 2 (A0 O)/\Aa w' (w.heap.size+1) 0 (A0 W)/\Aa w' (w.heap.size+1) 1 (A0 I)/\Aa w' (w.heap.size+1) 2 (A0 Y)/\Aa w' wb 0 (A0 len)) 16
  (BD [0,1,2,3,5,6,7,8,11,12,4,9,10,13,14,15] [4,9,10,13,14,15]) aA ?_
 iterate 10 refine Bq ?_
 refine By λK X=>?_;go_simp;refine(aE.o _).k ?_;rintro w3 rfl;refine X _ _ aA (λhS=>?_);refine By λK X=>?_;go_simp;refine(aB.o _).k ?_;rintro w3 rfl;refine X _ _ aA (λhS=>?_);refine By λK X=>?_;go_simp;refine(aD.o _).k ?_;rintro w3 rfl;refine X _ _ aA (λhS=>?_);refine By λK X=>?_;go_simp;refine(aF.o _).k ?_;rintro w4 aH;have k4:A5 Ab w2 w4:=((A5.C Ab w2).ad).tr aH;refine X _ _ (aG.o w4 k4) (λhS=>?_);have aQ:=A4 k4;refine By λK X=>?_;go_simp;have hb:(w4.alloc (.cells #[A0 r,A0 s] 3)).heap[w4.heap.size]?=some (.cells #[A0 r,A0 s] 3):=BN w4 _;have k5:A5 Ab w2 (w4.alloc (.cells #[A0 r,A0 s] 3)):=aQ.o.aj _;refine X _ _ (aG.o _ k5) (λhS=>?_);have aK:=A4 k5;have Et:=A4 (OR.o (w4.alloc (.cells #[A0 r,A0 s] 3)) w4.heap.size r s (by simp only[Aa,World.cell?,hb];rfl) (by simp only[Aa,World.cell?,hb];rfl));refine By λK X=>?_;go_simp;refine Et.k ?_;rintro w5 rfl;refine X _ _ (aG.o _ aK.o) (λhS=>?_);refine Cc ?_;go_wp2;go_ret;exact⟨rfl,aJ.o.tr aK.o⟩
end
end Go.Proofs.YtodcnkbblippnabGreatDoor
