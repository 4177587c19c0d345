/- Part 12 of a proof: walks of the program. -/
import Derived.Test.YtodcnkbblippnaaGreatDoorPart11
namespace Go.Proofs.YtodcnkbblippnaaGreatDoor
set_option maxRecDepth 100000
set_option maxHeartbeats 32000000
set_option linter.defProp false
open Go.Proofs.Tryz
section
open Go.RowKit
attribute [local go_sem ↓] Cw
def Uj(w:World)(v:Value)(h:List (List Pu))(FT:Nat->Prop):Prop:=
 ∃d:List Value,d.length=h.length/\w.ownsRow 0 97 1 v h.length d/\(∀k (E:k<d.length) (z:k<h.length),B5 w (d[k]'E) (h[k]'z))/\(∀g,v.ownBlock=some g->¬FT g)/\∀x∈d,∀g,x.ownBlock=some g->¬FT g
def Dj(l:List (List Pu)):Nat:=(l.map List.length).sum
def WG(x:List Pu)(r:List (List Pu)):Dj (x::r)=x.length+Dj r:=by simp[Dj]
def LA(x y:List (List Pu)):Dj (x++y)=Dj x+Dj y:=by simp[Dj]
def Qq(l:List (List Pu))(k:Nat):Dj (l.take k)<=Dj l:=by
 conv=>rhs;rw[<-E0 k l]
 rw[LA];omega
def Sa(l:List Pu)(r:List (List Pu))(last:Int)(kept:List Int)(P:PD):PD.an (l::r) last kept P=if (P.aH (last+1) l).1≠0 then ((P.aH (last+1) l).1,last+1,kept,(P.aH (last+1) l).2) else
 PD.an r (last+1) (kept++[last+1]) (P.aH (last+1) l).2:=rfl
def Fit.aH{P:PD}{a c m:Nat}(h:Fit P a c m)(n:Int)(l:List Pu):Fit (P.aH n l).2 (a+1) (c+1) (m+17*l.length+4):=by
 have:=h.aG (AJ n) (AI (AJ n)) (Cf l);rw[NN]at this;exact this
def RZ{n:Int}(d:0<=n)(h:n<=9223372036854775807):CJ n:=by
 refine⟨d,h,?_⟩;rw[Mb d,UU];have e:(10:Nat) ^ 19=10000000000000000000:=by decide
 exact Sq 19 _ (by rw[e];omega) (by omega)
section
variable {w:World} {ab b xb jb B:Nat} {sv ov lv jo:Value} {A:Ar} {P:PD} {Ft FT:Nat->Prop} {a c m:Nat}
def A3o(w:World)(h:AD w ab b A P FT)(n:Int)(pv:Value)(l:List Pu)(Y:Fit P a c m)(hl:CV (a+1) (c+1) m)(hn:CJ n)(X:Lets B w)(hp:Hx w pv l)(I:∀p∈l,Bq p)(E:l.length<=134217728):
 Ag 151 #[A6 b,A0 n,pv] w λe w'=>
  ((P.aH n l).1≠0/\e=.returned (.tuple #[.pointer none,A0 (P.aH n l).1])\/(P.aH n l).1=0/\∃O,e=.returned (.tuple #[A6 O,A0 0]))/\As w FT w' (λw' z=>AD w' ab b A (P.aH n l).2 z):=by
 obtain⟨xb,jb,sv,ov,lv,jo,Ft,d,L⟩:=h;refine(Zo w pv l d.dk d.lt Y hl hn X hp I E).mono ?_;rintro e w'⟨h3,W⟩;exact⟨h3,d.cA L (d.bI W)⟩
def Fit.cy{A:Ar}{P:PD}{a c m:Nat}(h:Fit P a c m)(l:List Int):Fit (A.ak P l).2.2 (a+2) (c+2) (m+12+8*l.length):=by
 unfold Ar.ak;split
 ·exact h.ad (by omega) (by omega) (by omega)
 ·split
  ·exact h.ei _ _
  ·exact h.ei _ _
def A2Y(A:Ar)(P:PD)(l:List Int):((A.ak P l).2.1.ix.segs=A.ix.segs\/(A.ak P l).2.1.ix.segs=l)/\((A.ak P l).2.1.j.Av=A.j.Av\/(A.ak P l).2.1.j.Av=[]):=by
 unfold Ar.ak;split
 ·exact⟨.inl rfl,.inl rfl⟩
 ·split
  ·exact⟨.inl rfl,.inl rfl⟩
  ·exact⟨.inr rfl,.inr rfl⟩
def AD.cX{n:Nat}{v:Value}{xs:List Value}(h:AD w ab b A P FT)(d:w.ownsRow 0 3 1 v n xs){g:Nat}(E:v.ownBlock=some g):g≠ab:=by
 obtain⟨xb,jb,sv,ov,lv,jo,Ft,z,h2⟩:=h;obtain⟨c,I⟩:=B7 d E;exact BM I z.Af (by decide)
def XH(w:World)(h:AD w ab b A P FT)(bU:∀k,FT k->k<w.heap.size)(kv:Value)(kept:List Int)(aB:Ee w kv kept)(dD:∀g,kv.ownBlock=some g->¬FT g/\B<=g)(fv:Value)(fresh:List (List Pu))(eN:Uj w fv fresh FT)(cM:∀l∈fresh,(∀p∈l,Bq p)/\l.length<=134217728)(cX:0<=A.Ac/\A.Ac+fresh.length<=9223372036854775807)(b3:Ax (A.j.Ac+1))(_hkr:∀x∈kept,Ax x)(hF:Fit P a c m)(hl:CV (a+fresh.length+2) (c+2*a+2*fresh.length+4) (m+17*Dj fresh+12*fresh.length+12+8*kept.length))(dB:kept.length+fresh.length<=134217728)(hn:∀n∈A.ix.segs,CJ n)(bV:∀n∈A.j.Av,CJ n)(b1:∀n∈kept,CJ n)(bL:A.ix.segs.length<=1073741824)(bS:A.j.Av.length<=1073741824)(hL:Lets B w)(bJ:∀k,FT k->B<=k):
 Ag 107 #[A6 ab,kv,fv] w (Aj (A0 (A.aJ P kept fresh).1) λw'=>As w (λk=>FT k\/kv.ownBlock=some k) w' (λw' z=>AD w' ab b (A.aJ P kept fresh).2.1 (A.aJ P kept fresh).2.2 z)):=by
 obtain⟨i0,hi,dX,eO,eE⟩:=SX;obtain⟨ka,d,rfl,kc1,eJ,-⟩:=Bk aB;obtain⟨vs,vl,bN,cI,cU,cC⟩:=eN;obtain⟨fa,b7,rfl,fc1,dP,-⟩:=Bk bN;unfold maxLen at eJ dP;obtain⟨q1,q2,q3⟩:=YF A P;have b8:CV a (c+a) m:=⟨by have:=hl.a;omega,by have:=hl.c;omega,by have:=hl.m;omega⟩;have bI:=Fit.aK (A:=A) hF;have aQ:A4 Aa w (w.aC #[.func (Fn.func 118) #[A6 ab] #[],.func (Fn.func 150) #[A6 ab] #[]] 50):=(A4.C _ w).ah _;have eD:=A1 (YG _ w.heap.size (h.al aQ) (λk hk=>Bi (bU k hk) aQ.Al) (λhx=>GB _ (bU _ hx)) (by simp) (Bf w _) hF b8 hn bV bL bS (hL.aM aQ) bJ);have b0:=A1 (QV A P kept fresh);obtain⟨R,hR⟩:∃R,A.aJ P kept fresh=R:=⟨_,rfl⟩;rw[hR]at b0 ⊢;obtain⟨X,hX⟩:∃X,A.aK P=X:=⟨_,rfl⟩;rw[hX]at b0 eD q1 q2 q3 bI;have eC:=A1 aQ;have dO:Hid (FT ab):=h.bn.2.2.2.2;have aZ:=A1 bN;have bO:=A1 cI;have dS:=A1 cU;have dM:=A1 cC;have aS:=A1 aB;have a1:=A1 dD;have eF:=A1 hL;have cA:=A1 bJ;have dR:=A1 cM;have aO:=A1 hl;have b9:=A1 bI;have bC:Hid ((∀n∈A.ix.segs,CJ n)/\(∀n∈A.j.Av,CJ n)/\(∀n∈kept,CJ n)/\A.ix.segs.length<=1073741824/\A.j.Av.length<=1073741824/\Ax (A.j.Ac+1)):=⟨hn,bV,b1,bL,bS,b3⟩;have eG:Hid (0<=A.Ac/\A.Ac+fresh.length<=9223372036854775807):=cX;have cY:=A1 dB;have eP:=A1 vl;have cH:=A1 Sa;have dE:Hid (∀wx bP bY,As w FT wx (λw' z=>AD w' ab b bP bY z)->As w (λk=>FT k\/(Value.slice ka kept.length d).ownBlock=some k) wx (λw' z=>AD w' ab b bP bY z)):=λwx bP bY hx=>hx.aR λk hk=>.inl hk;clear hX hR aQ bU bN cI cU cC aB dD hL bJ cM hl bI hn bV b1 bL bS b3 cX dB h hF b8 _hkr
 go_enter func107,ntmps107
 go_wp2_with (fail);refine eD.m ?_;rintro e w1⟨rfl,b4⟩;have a0:=A1 (b4.aY eC.o);clear eD b4;obtain⟨dT,E,aF⟩:=X;dsimp only at b0 q1 q2 q3 b9 a0;have e2:=A1 q1;have e4:=A1 q2;have eU:=A1 q3;clear q1 q2 q3;by_cases hx:dT=0
 case neg=>
  have aH:R=(dT,E,aF):=by rw[b0.o,Ai hx]
  subst aH;have hxb:(dT !=0)=true:=by simpa using hx
  go_wp2;go_ret;exact⟨rfl,dE.o _ _ _ a0.o⟩
 case pos=>
 subst hx
 have a4:Hid (R=if (PD.an fresh E.Ac kept aF).1≠0 then ((PD.an fresh E.Ac kept aF).1,{E with Ac:=(PD.an fresh E.Ac kept aF).2.1},(PD.an fresh E.Ac kept aF).2.2.2) else
  if (({E with Ac:=(PD.an fresh E.Ac kept aF).2.1}:Ar).ak (PD.an fresh E.Ac kept aF).2.2.2 (PD.an fresh E.Ac kept aF).2.2.1).1≠0 then
   ({E with Ac:=(PD.an fresh E.Ac kept aF).2.1}:Ar).ak (PD.an fresh E.Ac kept aF).2.2.2 (PD.an fresh E.Ac kept aF).2.2.1
  else (({E with Ac:=(PD.an fresh E.Ac kept aF).2.1}:Ar).ak (PD.an fresh E.Ac kept aF).2.2.2 (PD.an fresh E.Ac kept aF).2.2.1).2.1.a6
   (({E with Ac:=(PD.an fresh E.Ac kept aF).2.1}:Ar).ak (PD.an fresh E.Ac kept aF).2.2.2 (PD.an fresh E.Ac kept aF).2.2.1).2.2):=by unfold Hid;rw[b0.o,Ae (by simp)]
 obtain⟨S,hS⟩:∃S,PD.an fresh E.Ac kept aF=S:=⟨_,rfl⟩;have eS:=A1 hS;rw[hS]at a4;clear hS b0;have cN:Hid (Ee w1 (.slice ka kept.length d) kept):=Aw aS.o λg O=>a0.o.1.Am g (Ay aS.o O) (a1.o g O).1;go_wp2
 go_loopw [1,24] (λv iv wr=>∃(k:Nat) (I:List Int) (aG:PD),iv=A0 k/\k<=fresh.length/\Hid (Ee wr v I/\I.length=kept.length+k/\(∀g,v.ownBlock=some g->(Value.slice ka kept.length d).ownBlock=some g\/w.heap.size<=g)/\(∀x∈I,CJ x)/\
  As w (λk=>FT k\/(Value.slice ka kept.length d).ownBlock=some k) wr (λw' z=>AD w' ab b {E with Ac:=E.Ac+k} aG z/\∀g,v.ownBlock=some g->¬z g)/\Fit aG (a+k) (c+a+k) (m+17*Dj (fresh.take k)+4*k)/\S=PD.an (fresh.drop k) (E.Ac+k) I aG)) (λ_ iv _=>fresh.length-(intOf iv).toNat)
 case atStart=>
  obtain⟨c1,aT,r1,l1,s1⟩:=a0.o;refine⟨0,kept,aF,rfl,by omega,cN.o,rfl,λg O=>.inl O,bC.o.2.2.1,⟨c1.ad λ_ _ h=>.inl h,aT,⟨by simpa using r1,λg O hx=>?_⟩,l1,λk hk=>(s1 k hk).imp .inl id⟩,by simpa[Dj] using b9.o,by simpa using eS.o.symm⟩;rcases s1 g hx with h|h
  ·exact(a1.o g O).1 h
  ·have:=Ay aS.o O;omega
 case round=>
  obtain⟨k,I,aG,rfl,hk,hI⟩:=hrel;obtain⟨i1,i2,i3,i4,i5,i6,i7⟩:=hI.o;obtain⟨ap,cp,rfl,hcap1,bZ,-⟩:=Bk i1;unfold maxLen at bZ;by_cases aE:k<fresh.length
  ·(have aB:k<vs.length:=by have:=eP.o;omega);have dG:∀g,(Value.slice fa fresh.length b7).ownBlock=some g->g<w.heap.size/\¬(FT g\/(Value.slice ka kept.length d).ownBlock=some g):=λg O=>⟨Ay aZ.o O,λh=>h.elim (dS.o g O) (KO aZ.o aS.o (by decide) O)⟩
   obtain⟨c1,aT,⟨r1,aX⟩,l1,s1⟩:=i5;obtain⟨g,rfl⟩:∃g,fa=some (A9 g 0):=by
    obtain⟨a',c',e,-,-,hz,-⟩:=Bk aZ.o;cases e;exact hz (by omega)
   have d0:A8 w g k (vs[k]'aB):=BD aZ.o rfl (DQ aB);have d1:=c1.bD d0 (dG g rfl).2;have aI:B5 wr (vs[k]'aB) (fresh[k]'aE):=Aw (bO.o k aB aE) λW O=>c1.Am W (Ay (bO.o k aB aE) O) λh=>h.elim (dM.o _ (BT aB) W O) (KO (bO.o k aB aE) aS.o (by decide) O);have a5:=dR.o _ (BT aE);have bT:fresh.take (k+1)=fresh.take k++[fresh[k]'aE]:=DL aE;have bW:=FW aE;have dQ:=Qq fresh (k+1);obtain⟨xv,cV⟩:∃xv,(vs[k]'aB)=xv:=⟨_,rfl⟩;rw[cV]at d0 d1 aI;obtain⟨pl,cP⟩:∃pl,(fresh[k]'aE)=pl:=⟨_,rfl⟩;rw[cP]at aI a5 bT bW;obtain⟨pa,aP,rfl,pc1,eI,-⟩:=Bk aI;unfold maxLen at eI;obtain⟨L,a6⟩:∃L,E.Ac+(k:Int)=L:=⟨_,rfl⟩;(have hLr:0<=L/\L+1<=9223372036854775807:=by have:=eG.o;rw[<-a6,eU.o];omega);rw[a6]at r1 i7;rw[bW,cH.o]at i7;obtain⟨e0,e3,z3,hab,dC⟩:=r1.bn;dsimp only at e3;(have ew:wrap64 (L+1)=L+1:=by unfold wrap64;omega);(have ew2:IntKind.i64.wrap (L+1)=L+1:=by simp[IntKind.wrap,IntKind.bits,IntKind.signed];omega);have r5:AD (wr.sC ab 3 (A0 (L+1))) ab b {E with Ac:=L+1} aG aT:=r1.gg (L+1);have aU:FT ab\/(Value.slice ka kept.length d).ownBlock=some ab:=.inl dO.o;have c5:A4 (λk=>FT k\/(Value.slice ka kept.length d).ownBlock=some k) w (wr.sC ab 3 (A0 (L+1))):=c1.a1 (p:=(A9 ab 3)) (λ_=>aU) _;have bQ:=r5.al (A4.C Aa (wr.sC ab 3 (A0 (L+1)))).aa;have a9:∀W,(Value.slice ap I.length cp).ownBlock=some W->W≠ab:=λW O=>r1.cX i1 O;have k5:A4 (One ab) wr (wr.sC ab 3 (A0 (L+1))).drew:=((A4.C (One ab) wr).aj (b:=ab) rfl 3 _).aa;have bE:B5 (wr.sC ab 3 (A0 (L+1))).drew (.slice pa pl.length aP) pl:=Aw aI λW O=>k5.Am W (Ay aI O) λe=>by
    obtain⟨xb,jb,sv,ov,lv,jo,Ft,hv,_⟩:=r1;obtain⟨c',eB⟩:=B7 aI O;exact BM eB hv.Af (by decide) e
   have a7:Ee (wr.sC ab 3 (A0 (L+1))).drew (.slice ap I.length cp) I:=Aw i1 λW O=>k5.Am W (Ay i1 O) (a9 W O);have l5:∀k,aT k->k<(wr.sC ab 3 (A0 (L+1))).drew.heap.size:=λk hk=>Bi (l1 k hk) k5.Al;have cT:∀k,(FT k\/(Value.slice ka kept.length d).ownBlock=some k)->B<=k:=λk hk=>hk.elim (cA.o k) λh=>(a1.o k h).2
   have cG:=eF.o.ai c5.aa cT;have aV:CV (a+k+1) (c+a+k+1) (m+17*Dj (fresh.take k)+4*k):=by
    have:=aO.o;have h2:=Qq fresh k;exact⟨by have:=this.a;omega,by have:=this.c;omega,by have:=this.m;omega⟩
   have aM:=A1 (A3o _ bQ (L+1) _ pl i6 aV (RZ (by omega) (by omega)) cG bE.rd a5.1 a5.2);have bR:=A1 (i6.aH (L+1) pl);obtain⟨Y,hY⟩:∃Y,aG.aH (L+1) pl=Y:=⟨_,rfl⟩;rw[hY]at i7 aM bR;(have dL:Hid (17*Dj (fresh.take (k+1))+4*(k+1)=17*Dj (fresh.take k)+4*k+17*pl.length+4):=by unfold Hid;rw[bT,LA];simp[Dj];omega);have eA:=A1 a6;have dK:=A1 i2;have eZ:=A1 i3;have eY:=A1 i4;have dJ:=A1 i7;have dI:=A1 c5.aa;have eH:Hid (∀k,aT k->(FT k\/(Value.slice ka kept.length d).ownBlock=some k)\/w.heap.size<=k):=s1;have cB:=A1 aX;have bM:=A1 a7;(have cL:wr.heap.size=(wr.sC ab 3 (A0 (L+1))).drew.heap.size:=by show _=(wr.setCell _ _).heap.size;simp);have SZ5:=A1 cL;obtain⟨f0,f3,-,-,-⟩:=bQ.bn;dsimp only at f3;(have dW:(k:Int)<(fresh.length:Int):=by omega);have hk0:=BR k;clear hI i1 i2 i3 i4 i6 i7 c1 r1 aX l1 s1 d0 aI a5 bT bW dQ cV cP a6 r5 c5 bQ a9 k5 bE a7 l5 cT cG aV hY dG aB aU dC cL;obtain⟨b2,a2⟩:=Y;dsimp only at aM dJ bR
   have aD:Hid (∀w6,As (wr.sC ab 3 (A0 (L+1))).drew aT w6 (λw' z=>AD w' ab b {E with Ac:=L+1} a2 z)->
    (A8 w6 ab 0 (A6 b)/\A8 w6 ab 3 (A0 (L+1)))/\As w (λk=>FT k\/(Value.slice ka kept.length d).ownBlock=some k) w6 (λw' z=>AD w' ab b {E with Ac:=L+1} a2 z)):=λw6 h6=>by
    obtain⟨_,cQ,bK,_⟩:=h6;exact⟨⟨bK.bn.1,bK.bn.2.1⟩,As.a7 dI.o eH.o ⟨‹_›,cQ,bK,‹_›⟩⟩
   by_cases hy:b2=0
   case neg=>
    (have a3:S=(b2,L+1,I,a2):=by rw[dJ.o,Ai hy]);(have aH:R=(b2,{E with Ac:=L+1},a2):=by rw[a4.o,a3,Ai hy]);subst aH;have aR:Hid (Ag 151 #[A6 b,A0 (L+1),.slice pa pl.length aP] (wr.sC ab 3 (A0 (L+1))).drew (Aj (.tuple #[.pointer none,A0 b2]) λw'=>As (wr.sC ab 3 (A0 (L+1))).drew aT w' (λw' z=>AD w' ab b {E with Ac:=L+1} a2 z))):=by
     refine aM.m ?_;rintro e w'⟨⟨_,h2⟩|⟨h1,_⟩,h3⟩
     ·exact⟨h2,h3⟩
     ·exact absurd h1 hy
    (have hyb:(b2 !=0)=true:=by simpa using hy);clear a3 aM;go_wp2;refine Bt (λw'=>A8 w' ab 0 (A6 b)/\A8 w' ab 3 (A0 (L+1))) 14
     (Bb [0,1,2,3,4,5,6,7,8,9,10,11,12,13] [9]) ⟨f0,f3⟩ ?_
    iterate 9 (refine B1 ?_;(try simp only[Ak]))
    refine Bd λK hK=>?_;go_simp;refine aR.m ?_;rintro e w6⟨rfl,hI⟩;refine hK _ _ (aD.o w6 hI).1 (λhS=>?_);have eX:=A1 (aD.o w6 hI).2;clear hK K hS hI aR aD
    (try simp only[Ak])
    iterate 4 (refine B1 ?_;(try simp only[Ak]))
    refine B4 ?_;simp only[Bm,Bl];go_wp2;go_ret;exact⟨rfl,eX.o⟩
   case pos=>
    subst hy;(have e1:Hid (S=PD.an (fresh.drop (k+1)) (L+1) (I++[L+1]) a2):=by unfold Hid;rw[dJ.o,Ae (by simp)]);have aR:Hid (Ag 151 #[A6 b,A0 (L+1),.slice pa pl.length aP] (wr.sC ab 3 (A0 (L+1))).drew λe w'=>∃gb,e=.returned (.tuple #[A6 gb,A0 0])/\As (wr.sC ab 3 (A0 (L+1))).drew aT w' (λw' z=>AD w' ab b {E with Ac:=L+1} a2 z)):=by
     refine aM.m ?_;rintro e w'⟨⟨h1,_⟩|⟨_,gb,h2⟩,h3⟩
     ·exact absurd rfl h1
     ·exact⟨gb,h2,h3⟩
    clear aM dJ;go_wp2;refine Bt (λw'=>A8 w' ab 0 (A6 b)/\A8 w' ab 3 (A0 (L+1))) 14
     (Bb [0,1,2,3,4,5,6,7,8,9,10,11,12,13] [9]) ⟨f0,f3⟩ ?_
    iterate 9 (refine B1 ?_;(try simp only[Ak]))
    refine Bd λK hK=>?_;go_simp;refine aR.m ?_;rintro e w6⟨gb,rfl,hI⟩;refine hK _ _ (aD.o w6 hI).1 (λhS=>?_);have g63:=(aD.o w6 hI).1.2;have cD:=A1 hI;clear hK K hS hI aR aD
    (try simp only[Ak])
    iterate 4 (refine B1 ?_;(try simp only[Ak]))
    refine B4 ?_;simp only[Bm,Bl];have bH:=A1 cD.o.1;have cZ:Hid (Ee w6 (.slice ap I.length cp) I):=Aw bM.o λW O=>bH.o.Am W (Ay bM.o O) (cB.o W O);have cS:Hid ((w6.aC #[A0 (L+1)] 3).ownsRow 0 3 1 (.slice ap I.length cp) I.length (Ef I)):=Aw cZ.o λW O=>((A4.C Aa w6).ah _).Am W (Ay cZ.o O) (λh=>h)
    have eK:=A1 (Src.a8 (size:=1) (B:=w6.heap.size) underlying26 w6 #[A0 (L+1)] 3 (by simp) 1 1 rfl (KH [L+1]));go_wp2_with (at_builtin;refine CZ rfl (.tmp 51) (.tmp 56) 26 26 rfl 3 i0 _ 1 8 underlying26 hi dX eO eE rfl (by decide) (.slice ap I.length cp) I.length (Ef I) (by rfl) cS.o _ 1 _ (by rfl) eK.o (by have:=dK.o;have:=cY.o;omega) ?_;intro a8 dH w8 hA;have eV:=A1 hA;clear hA);go_roundw
    case rel=>
     have hA:=eV.o;have k7:A4 Aa w6 (w6.aC #[A0 (L+1)] 3):=(A4.C _ w6).ah _;have aL:=hA.An (S:=λk=>(Value.slice ap I.length cp).ownBlock=some k) λ_ h=>h;have k8:A4 (λk=>(Value.slice ap I.length cp).ownBlock=some k) w6 w8:=(k7.ad λ_ _ h=>h.elim).tr aL;obtain⟨_,cQ,r2,l2,s2⟩:=cD.o;have bF:∀W,(Value.slice ap I.length cp).ownBlock=some W->¬cQ W:=λW O hx=>by
      rcases s2 W hx with h|h
      ·exact cB.o W O h
      ·have:=Ay bM.o O;omega
     have r8:AD w8 ab b {E with Ac:=L+1} a2 cQ:=r2.aI (k8.au l2 λk hk hx=>bF k hx hk) k8.Al;have bD:∀W,(Value.slice a8 (I.length+1) dH).ownBlock=some W->(Value.slice ap I.length cp).ownBlock=some W\/w6.heap.size<=W:=λW O=>by
      rcases hA.BS with h|h
      ·rw[h]at O;exact .inl O
      ·rw[h]at O;cases O;exact .inr k7.Al
     have eQ:A4 (λk=>aT k\/(Value.slice ap I.length cp).ownBlock=some k) (wr.sC ab 3 (A0 (L+1))).drew w8:=(bH.o.ad λ_ _ h=>.inl h).Au k8 λ_ h _=>.inr h;have bB:∀W,(Value.slice ap I.length cp).ownBlock=some W->(Value.slice ka kept.length d).ownBlock=some W\/w.heap.size<=W:=eZ.o;have c8:A4 (λk=>FT k\/(Value.slice ka kept.length d).ownBlock=some k) w w8:=dI.o.Au eQ λx hx hlt=>by
      rcases hx with hx|hx
      ·exact(eH.o x hx).resolve_right (by omega)
      ·exact .inr ((bB x hx).resolve_right (by omega))
     (have eL:E.Ac+((k+1:Nat):Int)=L+1:=by have:=eA.o;omega);refine⟨k+1,I++[L+1],a2,by go_num,by omega,?_,by have:=dK.o;simp;omega,λW O=>?_,λx hx=>?_,⟨c8,cQ,⟨by rw[eL];exact r8,λW O hx=>?_⟩,λk hk=>Bi (l2 k hk) k8.Al,λk hk=>?_⟩,?_,by rw[eL];exact e1.o⟩
     ·(have e:(I++[L+1]).length=I.length+1:=by simp);unfold Ee;rw[Md,e];exact hA.AE
     ·rcases bD W O with h|h
      ·exact bB W h
      ·have:=c8.Al;have:=dI.o.Al;have:=bH.o.Al;exact .inr (by omega)
     ·rcases AY.1 hx with hx|hx
      ·exact eY.o x hx
      ·simp at hx;subst hx;exact RZ (by omega) (by omega)
     ·rcases bD W O with h|h
      ·exact bF W h hx
      ·have:=l2 W hx;omega
     ·rcases s2 k hk with h|h
      ·exact eH.o k h
      ·have:=dI.o.Al;exact .inr (by omega)
     ·have h1:=bR.o;have h2:=dL.o;exact h1.ad (by omega) (by omega) (by omega)
    case measure=>simp[intOf];omega
  ·(obtain rfl:k=fresh.length:=by omega);rw[GN]at i7;rw[Cc]at i6;have a3:S=(0,E.Ac+(fresh.length:Int),I,aG):=i7;subst a3;have aN:Hid (R=if (({E with Ac:=E.Ac+(fresh.length:Int)}:Ar).ak aG I).1≠0 then ({E with Ac:=E.Ac+(fresh.length:Int)}:Ar).ak aG I else (({E with Ac:=E.Ac+(fresh.length:Int)}:Ar).ak aG I).2.1.a6 (({E with Ac:=E.Ac+(fresh.length:Int)}:Ar).ak aG I).2.2):=by
    unfold Hid;rw[a4.o,Ae (by simp)]
   obtain⟨aY,aL⟩:∃aY:Ar,({E with Ac:=E.Ac+(fresh.length:Int)}:Ar)=aY:=⟨_,rfl⟩;(have b6:aY.ix=A.ix:=by rw[<-aL];exact e2.o);(have ej:aY.j=A.j:=by rw[<-aL];exact e4.o);rw[aL]at aN i5;obtain⟨c1,aT,⟨r1,aX⟩,l1,s1⟩:=i5;obtain⟨n1,n2,n3,n4,n5,n6⟩:=bC.o;have bG:∀k,(FT k\/(Value.slice ka kept.length d).ownBlock=some k)->B<=k:=λk hk=>hk.elim (cA.o k) λh=>(a1.o k h).2
   have dA:=eF.o.ai c1 bG;have aA:=aO.o;(have bA:I.length<=134217728:=by have:=cY.o;omega);have b5:=A1 (A2T wr r1 (.slice ap I.length cp) I (Ee.rd i1) (λg O=>aX g O) (by rw[ej];exact n6) (λx hx=>by have:=i4 x hx;exact⟨by have:=this.1;omega,this.2.1⟩) bA i6 ⟨by have:=aA.a;omega,by have:=aA.c;omega,by have:=aA.m;omega⟩ dA);have aW:Hid (Fit (aY.ak aG I).2.2 (a+fresh.length+2) (c+a+fresh.length+2) (m+17*Dj fresh+4*fresh.length+12+8*I.length)):=i6.cy I;have bX:=A2Y aY aG I;have aJ:Hid ((∀n∈(aY.ak aG I).2.1.ix.segs,CJ n)/\(aY.ak aG I).2.1.ix.segs.length<=1073741824):=by
    rcases bX.1 with h|h
    ·rw[h,b6];exact⟨n1,n4⟩
    ·rw[h];exact⟨i4,by omega⟩
   have aK:Hid ((∀n∈(aY.ak aG I).2.1.j.Av,CJ n)/\(aY.ak aG I).2.1.j.Av.length<=1073741824):=by
    rcases bX.2 with h|h
    ·rw[h,ej];exact⟨n2,n5⟩
    ·rw[h];exact⟨λn hn=>by simp at hn,by simp⟩
   obtain⟨T,hT⟩:∃T,aY.ak aG I=T:=⟨_,rfl⟩;rw[hT]at aN b5 aW aJ aK;have aD:Hid (∀w2 bP bY,As wr (λk=>aT k\/(Value.slice ap I.length cp).ownBlock=some k) w2 (λw' z=>AD w' ab b bP bY z)->As w (λk=>FT k\/(Value.slice ka kept.length d).ownBlock=some k) w2 (λw' z=>AD w' ab b bP bY z)):=λw2 bP bY h2=>
    As.a7 c1 (λk hk=>hk.elim (λh=>s1 k h) λh=>(i3 k h).imp (λh=>.inr h) id) h2
   have dV:Hid (∀w2,A4 (λk=>FT k\/(Value.slice ka kept.length d).ownBlock=some k) w w2->Lets B w2):=λw2 h2=>eF.o.ai h2 bG;have dK:=A1 i2;(have dW:¬((fresh.length:Int)<(fresh.length:Int)):=by omega);obtain⟨eM,eT,eR⟩:=T;dsimp only at aN b5 aW aJ aK;clear hI i1 i2 i3 i4 i6 i7 aL b6 ej c1 r1 aX l1 s1 n1 n2 n3 n4 n5 n6 bG dA aA bX hT a4 eS cH bA;by_cases ht:eM=0
   case neg=>
    (have aH:R=(eM,eT,eR):=by rw[aN.o,Ai ht]);subst aH;(have htb:(eM !=0)=true:=by simpa using ht);go_wp2_with (go_at_call 152;refine b5.m ?_;rintro e w6⟨rfl,cJ⟩;have dU:=A1 (aD.o w6 _ _ cJ);clear cJ);go_ret;exact⟨rfl,dU.o⟩
   case pos=>
    subst ht;(have aH:R=eT.a6 eR:=by rw[aN.o,Ae (by simp)]);have cE:=A1 aH;clear aH aN;go_wp2_with (fail);refine b5.m ?_;rintro e w6⟨rfl,dF⟩;have dZ:=aD.o w6 _ _ dF;obtain⟨c6,eW,r6,l6,s6⟩:=dZ;have k7:A4 Aa w6 (w6.aC #[.func (Fn.func 150) #[A6 ab] #[],.func (Fn.func 86) #[A6 b] #[]] 50):=(A4.C _ w6).ah _;have aA:=aO.o;have dY:=A1 (A2l _ w6.heap.size (r6.al k7) (λk hk=>Bi (l6 k hk) k7.Al) (λhx=>GB _ (l6 _ hx)) (by simp) (Bf w6 _) aW.o ⟨by have:=aA.a;omega,by have:=aA.c;omega,by have:=aA.m;have:=dK.o;omega⟩ aJ.o.1 aK.o.1 aJ.o.2 aK.o.2 ((dV.o w6 c6).aM k7));rw[<-cE.o]at dY;have g0:=r6.bn.1;have cO:Hid (∀w9,As (w6.aC #[.func (Fn.func 150) #[A6 ab] #[],.func (Fn.func 86) #[A6 b] #[]] 50) eW w9 (λw' z=>AD w' ab b R.2.1 R.2.2 z)->As w (λk=>FT k\/(Value.slice ka kept.length d).ownBlock=some k) w9 (λw' z=>AD w' ab b R.2.1 R.2.2 z)):=λw9 h9=>As.a7 c6 s6 (h9.aY k7);clear cE;obtain⟨Z1,Z2,Z3⟩:=R;dsimp only at dY cO ⊢;clear dF c6 r6 l6 s6 k7 aA b5 aD;go_wp2_with (go_at_call 117;refine dY.m ?_;rintro e w9⟨rfl,cF⟩;have dN:=A1 (cO.o w9 cF);clear cF);go_ret;exact⟨rfl,dN.o⟩
end
section
variable {w w':World} {ab b xb jb B:Nat} {sv ov lv jo:Value} {A:Ar} {P P':PD} {Ft FT:Nat->Prop} {a c m:Nat} {J':Jn}
def Cn.jd(h:Cn w ab b xb jb sv ov lv jo A P Ft):JD w jb b A.j P (λk=>Ft k\/De jb lv jo k):=
 ⟨lv,jo,Ft,h.jn,h.dk,h.lt,λk d=>h.Dc k (.inr (.inr (.inr (.inr d)))),λ_ h=>h⟩
def Cn.eu(h:Cn w ab b xb jb sv ov lv jo A P Ft)(E:∀k,Ft k\/Fv ab xb jb sv ov lv jo k->FT k)(hI:As w (λk=>Ft k\/De jb lv jo k) w' (λw' O=>JD w' jb b J' P' O)):As w FT w' (λw' O=>AD w' ab b {A with j:=J'} P' O):=by
 obtain⟨hc,F2,⟨lv',aA,W,h1,h2,h3,h4,h5⟩,hl,hs⟩:=hI;have z:∀k,(k=ab\/k=xb\/sv.ownBlock=some k\/ov.ownBlock=some k)->k<w.heap.size/\¬Ft k/\¬De jb lv jo k:=λk d=>by
  rcases d with rfl|rfl|d|d
  ·exact⟨h.Af.lt,h.Dc _ (.inl rfl),λL=>(h.FQ _ L).1 rfl⟩
  ·exact⟨h.ix.lt,h.Dc _ (.inr (.inl rfl)),λL=>(h.FQ _ L).2 rfl⟩
  ·exact⟨h.segs.lt d,h.Dc k (.inr (.inr (.inl d))),(h.Fz k d).2.2⟩
  ·exact⟨h.AR.lt d,h.Dc k (.inr (.inr (.inr (.inl d)))),(h.Gg k d).2.2⟩
 have keep:∀k,(k=ab\/k=xb\/sv.ownBlock=some k\/ov.ownBlock=some k)->w'.heap[k]?=w.heap[k]?:=λk d=>hc.Am k (z k d).1 λL=>L.elim (z k d).2.1 (z k d).2.2;have out:∀k,(k=ab\/k=xb\/sv.ownBlock=some k\/ov.ownBlock=some k)->¬W k/\¬De jb lv' aA k:=λk d=>
  ⟨λL=>(hs k (h5 k (.inl L))).elim (λY=>Y.elim (z k d).2.1 (z k d).2.2) λY=>by have:=(z k d).1;omega,
   λL=>(hs k (h5 k (.inr L))).elim (λY=>Y.elim (z k d).2.1 (z k d).2.2) λY=>by have:=(z k d).1;omega⟩
 have X:Cn w' ab b xb jb sv ov lv' aA {A with j:=J'} P' W:=by
  refine⟨(keep ab (.inl rfl)).trans h.Af,(keep xb (.inr (.inl rfl))).trans h.ix,h.segs.aI λg I=>keep g (.inr (.inr (.inl I))),h.AR.aI λg I=>keep g (.inr (.inr (.inr I))),h1,h2,h3,λk d=>?_,λg I=>?_,λg I=>?_,λk d=>?_⟩
  ·rcases d with d|d|d|d|d
   ·exact(out k (.inl d)).1
   ·exact(out k (.inr (.inl d))).1
   ·exact(out k (.inr (.inr (.inl d)))).1
   ·exact(out k (.inr (.inr (.inr d)))).1
   ·exact h4 k d
  ·exact⟨(h.Fz g I).1,(h.Fz g I).2.1,(out g (.inr (.inr (.inl I)))).2⟩
  ·exact⟨(h.Gg g I).1,(h.Gg g I).2.1,(out g (.inr (.inr (.inr I)))).2⟩
  ·exact⟨λe=>(out ab (.inl rfl)).2 (e ▸ d),λe=>(out xb (.inr (.inl rfl))).2 (e ▸ d)⟩
 have sub:∀k,(Ft k\/De jb lv jo k)->FT k:=λk d=>d.elim (λh=>E k (.inl h)) λh=>E k (.inr (.inr (.inr (.inr (.inr h)))));refine X.bK hc (λk _ d=>sub k d) (λk d=>(hs k (h5 k (.inl d))).imp (sub k) id) λk d=>?_;rcases d with d|d|d|d|d
 ·exact .inl (E k (.inr (.inl d)))
 ·exact .inl (E k (.inr (.inr (.inl d))))
 ·exact .inl (E k (.inr (.inr (.inr (.inl d)))))
 ·exact .inl (E k (.inr (.inr (.inr (.inr (.inl d))))))
 ·exact(hs k (h5 k (.inr d))).imp (sub k) id
def A2W(w:World)(p:Pu)(h:AD w ab b A P FT)(aS:∀k,FT k->k<w.heap.size)(hp:Bq p)(hn:A.j.AE=none->CJ (A.j.Ac+1)/\Ax (A.j.Ac+1)/\Ax A.j.puts)(aR:A.j.Av.length<=1073741824)(hL:Lets B w)(aI:∀k,FT k->B<=k)(hF:Fit P a c m)(hl:CV (a+1) (c+1) (m+33)):
 Ag 105 #[A6 ab,DV p] w (Aj (.tuple #[.bool (A.af P p).1,A0 (A.af P p).2.1]) λw'=>As w FT w' (λw' I=>AD w' ab b (A.af P p).2.2.1 (A.af P p).2.2.2 I)):=by
 obtain⟨E,z,d⟩:=p;unfold DV;dsimp only
 obtain⟨s1,s2,s3⟩:=Nu A P;have aQ:C7 (w.aC #[A0 E,A0 z,A0 d] 113) w.heap.size E z d:=Bf w _;have k0:A4 Aa w (w.aC #[A0 E,A0 z,A0 d] 113):=(A4.C _ w).ah _;have ST:=A1 (QB _ (h.al k0))
 have aH:Hid (A.af P (E,z,d)=if (A.I P).1≠0 then (false,(A.I P).1,(A.I P).2.1,(A.I P).2.2) else
  (((A.I P).2.1.j.af (A.I P).2.2 (E,z,d)).1,((A.I P).2.1.j.af (A.I P).2.2 (E,z,d)).2.1,{ (A.I P).2.1 with j:=((A.I P).2.1.j.af (A.I P).2.2 (E,z,d)).2.2.1},((A.I P).2.1.j.af (A.I P).2.2 (E,z,d)).2.2.2)):=rfl
 have aE:=hF.I (A:=A);generalize hR:A.af P (E,z,d)=R at aH ⊢;generalize hX:A.I P=X at aH ST s1 s2 s3 aE;obtain⟨aJ,O,aB⟩:=X;dsimp only at aH ST s1 s2 s3 aE;have sz:w.heap.size<(w.aC #[A0 E,A0 z,A0 d] 113).heap.size:=by simp
 have aN:Hid (∀w2,As (w.aC #[A0 E,A0 z,A0 d] 113) FT w2 (λw' I=>AD w' ab b O aB I)->∃jb,A8 w2 ab 2 (A6 jb)/\C7 w2 w.heap.size E z d/\
  Ag 148 #[A6 jb,.agg #[A0 E,A0 z,A0 d]] w2.drew (Aj (.tuple #[.bool (O.j.af aB (E,z,d)).1,A0 (O.j.af aB (E,z,d)).2.1]) λw'=>
   (A8 w' ab 2 (A6 jb)/\C7 w' w.heap.size E z d)/\As w FT w' (λw' I=>AD w' ab b {O with j:=(O.j.af aB (E,z,d)).2.2.1} (O.j.af aB (E,z,d)).2.2.2 I))):=λw2 h2=>by
  obtain⟨c2,aV,⟨xb,jb,sv,ov,lv,jo,Ft,hv,aA⟩,l2,q2⟩:=h2;have kd:A4 Aa w2 w2.drew:=(A4.C _ w2).aa;have aG:=hv.al kd;have np:¬FT w.heap.size:=λL=>GB _ (aS _ L);have aU:¬aV w.heap.size:=λL=>by rcases q2 _ L with h|h;exact np h;omega
  have W:=aQ.ai c2 np;refine⟨jb,hv.Af.c2,W,(A0l w2.drew (E,z,d) aG.jd hp (by rw[s2];exact hn) (by rw[s2];exact aR) (((hL.aM k0).ai c2 aI).aM kd) aE hl).mono ?_⟩;rintro e w'⟨rfl,hI⟩;have aF:∀k,(Ft k\/De jb lv jo k)->aV k:=λk hk=>hk.elim (λh=>aA k (.inl h)) λh=>aA k (.inr (.inr (.inr (.inr (.inr h)))));refine⟨rfl,⟨(aG.Af.ai hI.1 λL=>L.elim (hv.Dc _ (.inl rfl)) λL=>(hv.FQ _ L).1 rfl).c2,W.aa.ai hI.1 λL=>aU (aF _ L)⟩,?_⟩;exact((As.a7 (c2.aa) q2 (aG.eu aA hI)).aY k0)
 have aL:Hid (∀wx aM aT,As (w.aC #[A0 E,A0 z,A0 d] 113) FT wx (λw' I=>AD w' ab b aM aT I)->As w FT wx (λw' I=>AD w' ab b aM aT I)):=λwx aM aT L=>L.aY k0;by_cases L:aJ=0
 case neg=>
  have aD:R=(false,aJ,O,aB):=by rw[aH.o,Ai L]
  subst aD;have hxb:(aJ !=0)=true:=by simpa using L
  go_enter func105,ntmps105
  go_wp2_with (go_at_call 118;refine ST.m ?_;rintro e w2⟨rfl,hI⟩;have aO:=A1 (aL.o _ _ _ hI));go_ret2;exact⟨rfl,aO.o⟩
 case pos=>
  subst L;have aD:R=((O.j.af aB (E,z,d)).1,(O.j.af aB (E,z,d)).2.1,{O with j:=(O.j.af aB (E,z,d)).2.2.1},(O.j.af aB (E,z,d)).2.2.2):=by rw[aH.o,Ae (by simp)]
  generalize hY:O.j.af aB (E,z,d)=Y at aN aD;obtain⟨Y0,Y1,Y2,Y3⟩:=Y;dsimp only at aN aD;subst aD
  go_enter func105,ntmps105
  go_wp2_with (fail);refine ST.m ?_;rintro e w2⟨rfl,hI⟩;obtain⟨jb,aK,W,aW⟩:=aN.o w2 hI;have aP:=A1 aW;have d2:A8 w2.drew ab 2 (A6 jb):=aK;have e0:=W.aa.c0;have e1:=W.aa.c1;have e2:=W.aa.c2;go_wp2;refine Bt (λw'=>A8 w' ab 2 (A6 jb)/\A8 w' w.heap.size 0 (A0 E)/\A8 w' w.heap.size 1 (A0 z)/\A8 w' w.heap.size 2 (A0 d)) 8
   (Bb [0,1,2,3,4,5,6,7] [5]) ⟨d2,e0,e1,e2⟩ ?_
  iterate 5 (refine B1 ?_;(try simp only[Ak]))
  refine Bd λK hK=>?_;go_simp;refine aP.m ?_;rintro e w3⟨rfl,⟨e4,eb⟩,hI⟩;refine hK _ _ ⟨e4,eb.c0,eb.c1,eb.c2⟩ (λhS=>?_);have aO:=A1 hI
  (try simp only[Ak])
  iterate 2 (refine B1 ?_;(try simp only[Ak]))
  refine B4 ?_;simp only[Bm,Bl];go_wp2;go_ret2;exact⟨rfl,aO.o⟩
def We(w:World)(g:Nat)(h:AD w ab b A P FT)(hg:¬FT g)(X:g<w.heap.size)(Y:w.cell? ⟨ab,2,none⟩=some (.pointer (some ⟨jb,0,none⟩)))(hb:w.heap[g]?=some (.cells #[.func (Fn.func 118) #[.pointer (some ⟨ab,0,none⟩)] #[],.func (Fn.func 119) #[.pointer (some ⟨jb,0,none⟩)] #[],.func (Fn.func 86) #[.pointer (some ⟨b,0,none⟩)] #[]] 50 (0,0))):
 Calls Tryz.prog 117 #[.slice (some ⟨g,0,none⟩) 3 3] w λe w'=>e=.returned (.int .i64 (A.ae P).1)/\As w FT w' (λw' d=>AD w' ab b (A.ae P).2.1 (A.ae P).2.2 d):=by
 refine(A0T w g ab jb b (λn w'=>n=(A.I P).1/\As w FT w' (λw' d=>AD w' ab b (A.I P).2.1 (A.I P).2.2 d)/\w'.cell? ⟨ab,2,none⟩=w.cell? ⟨ab,2,none⟩)
  (λn w'=>(A.I P).1=0/\n=((A.I P).2.1.j.ae (A.I P).2.2).1/\As w FT w' (λw' d=>AD w' ab b (A.I P).2.1 ((A.I P).2.1.j.ae (A.I P).2.2).2 d))
  (λn w'=>(A.I P).1=0/\((A.I P).2.1.j.ae (A.I P).2.2).1=0/\n=((A.I P).2.1.j.ae (A.I P).2.2).2.aF.1/\As w FT w' (λw' d=>AD w' ab b (A.I P).2.1 ((A.I P).2.1.j.ae (A.I P).2.2).2.aF.2 d)) hb ?_ ?_ ?_).mono ?_
 ·refine(QA w h).mono ?_;rintro e w'⟨L,z,E⟩;exact⟨_,L,⟨rfl,z,E⟩,z.1.Am g X hg⟩
 ·rintro w1⟨h0,⟨c1,aD,⟨xb,aA,sv,ov,lv,jo,Ft,hv,W⟩,E,I⟩,hc⟩ hk;have e:aA=jb:=by have:=hv.Af.c2.symm.trans (hc.trans Y);simpa using this
  subst e;refine(A0j w1 hv.jd).mono ?_;rintro e w'⟨O,h6⟩;have hI:=As.a7 c1 I (hv.eu W h6);exact⟨_,O,⟨h0.symm,rfl,hI⟩,hI.1.Am g X hg⟩
 ·rintro w1⟨h0,aB,c1,aD,z,E,I⟩ -;refine(Uh z).mono ?_;rintro e w'⟨O,h6⟩;exact⟨_,O,h0,aB.symm,rfl,As.a7 c1 I h6⟩
 ·rintro e w'⟨n,rfl,⟨L,z,E,_⟩|⟨L,z,E,I⟩|⟨z,E,I,O⟩⟩
  ·subst z;unfold Ar.ae;rw[Ai L];exact⟨rfl,E⟩
  ·subst E;unfold Ar.ae;rw[Ae (by simp[z]),Ai L];exact⟨rfl,I⟩
  ·subst I;unfold Ar.ae;rw[Ae (by simp[z]),Ae (by simp[E])];exact⟨rfl,O⟩
def A2U(w:World)(h:AD w ab b A P FT)(O:∀k,FT k->k<w.heap.size):
 Ag 74 #[A6 ab] w (Aj (A0 (A.ae P).1) λw'=>As w FT w' (λw' d=>AD w' ab b (A.ae P).2.1 (A.ae P).2.2 d)):=by
 obtain⟨jb,c2⟩:∃jb,A8 w ab 2 (A6 jb):=by
  obtain⟨xb,jb,sv,ov,lv,jo,Ft,hv,_⟩:=h;exact⟨jb,hv.Af.c2⟩
 have c0:=h.bn.1;have z:A4 Aa w (w.aC #[.func (Fn.func 118) #[A6 ab] #[],.func (Fn.func 119) #[A6 jb] #[],.func (Fn.func 86) #[A6 b] #[]] 50).drew:=((A4.C _ w).ah _).aa;have L:=A1 (We _ w.heap.size (h.al z) (λX=>GB _ (O _ X)) (by show w.heap.size<(w.alloc _).heap.size;simp) (z.ag c2) (Bf w _));have aB:=A1 z;have d0:A8 w.drew ab 0 (A6 b):=c0;have d2:A8 w.drew ab 2 (A6 jb):=c2;have e0:=z.ag c0;have e2:=z.ag c2;have E:Hid (∀w' W Y,As (w.aC #[.func (Fn.func 118) #[A6 ab] #[],.func (Fn.func 119) #[A6 jb] #[],.func (Fn.func 86) #[A6 b] #[]] 50).drew FT w' (λw' d=>AD w' ab b W Y d)->As w FT w' (λw' d=>AD w' ab b W Y d)/\A8 w' ab 0 (A6 b)):=λw' W Y X=>by
  obtain⟨c,F,r,l,s⟩:=X;exact⟨As.aY ⟨c,F,r,l,s⟩ aB.o,r.bn.1⟩
 generalize hR:A.ae P=R at L ⊢;obtain⟨R1,R2,R3⟩:=R;dsimp only at L ⊢
 go_enter func74,ntmps74
 go_wp2;refine Bt (λw'=>A8 w' ab 0 (A6 b)/\A8 w' ab 2 (A6 jb)) 13
  (Bb [0,1,2,3,4,5,6,7,8,9,10,11,12] [12]) ⟨d0,d2⟩ ?_
 iterate 12 (refine B1 ?_;(try simp only[Ak]))
 refine Bd λK hK=>?_;go_simp;refine hK _ _ ⟨e0,e2⟩ (λhS=>?_)
 (try simp only[Ak])
 refine B4 ?_;simp only[Bm,Bl];go_wp2_with (go_at_call 117;refine L.m ?_;rintro e w6⟨rfl,aA⟩;have I:=A1 (E.o _ _ _ aA).1);go_ret;exact⟨rfl,I.o⟩
end
def GV(len:Int)(p q:Pu):Int:=JE (Ch (BJ p.2.1 len) (BJ q.2.1 len)) (Ck p q)
def OZ{x y:Int}:Ch x y<0↔x<y:=by
 unfold Ch;split
 ·simp_all
 ·split<;>simp_all
def Mw{x y:Int}:Ch x y=0↔x=y:=by
 unfold Ch;split
 ·constructor<;>intro h<;>omega
 ·split
  ·constructor<;>intro h<;>omega
  ·constructor<;>intro h<;>omega
def A2j{p q:Pu}:Ck p q<0↔(p.1<q.1\/p.1=q.1/\p.2.1<q.2.1):=by
 unfold Ck;by_cases h:Ch p.1 q.1=0
 ·rw[Ae (by simpa using h),OZ];have:=Mw.1 h;constructor
  ·exact λd=>.inr ⟨this,d⟩
  ·rintro (d|⟨_,d⟩)
   ·omega
   ·exact d
 ·rw[Ai h,OZ];have:¬p.1=q.1:=λe=>h (Mw.2 e);constructor
  ·exact λd=>.inl d
  ·rintro (d|⟨d,_⟩)
   ·exact d
   ·exact absurd d this
def Mu{len:Int}{p q:Pu}:GV len p q<0↔AH len p q=true:=by
 unfold GV JE AH;rw[decide_eq_true_iff];by_cases h:Ch (BJ p.2.1 len) (BJ q.2.1 len)=0
 ·rw[Ae (by simpa using h),A2j];have:=Mw.1 h;constructor
  ·exact λd=>.inr ⟨this,d⟩
  ·rintro (d|⟨_,d⟩)
   ·omega
   ·exact d
 ·rw[Ai h,OZ];have:¬BJ p.2.1 len=BJ q.2.1 len:=λe=>h (Mw.2 e);constructor
  ·exact λd=>.inl d
  ·rintro (d|⟨d,_⟩)
   ·exact d
   ·exact absurd d this
def GI(len:Int):Ca (AH len):=by
 refine⟨λx=>?_,λx y z=>?_,λx y z=>?_⟩
 ·unfold AH;simp
 ·unfold AH;simp only[DO];omega
 ·unfold AH;simp only[DO];omega
def A2g(len:Int)(p q:Pu):GV len p q = -1\/GV len p q=0\/GV len p q=1:=by
 unfold GV JE;split
 ·exact OX _ _
 ·exact TL _ _
def Mv(w:World)(wb:Nat)(len:Int)(p q:Pu)(hp:Ax p.2.1)(hq:Ax q.2.1)(hl:1<=len/\len<=4611686018427387904)(hw:A8 w wb 0 (A0 len)):
 Ag 155 #[DV p,DV q,A6 wb] w (Aj (A0 (GV len p q)) λw'=>A4 Aa w w'):=by
 obtain⟨X,z,I⟩:=p;obtain⟨L,E,W⟩:=q;unfold GV DV;dsimp only at hp hq ⊢;have aN:=A1 (OV);have OR:=A1 (RS);have aK:=A1 (λd t (ht:Ax t)=>Nf d t len ht hl);have aE:=A1 (λd=>NO d (X,z,I) (L,E,W));unfold DV at aE;dsimp only at aE;obtain⟨x,hx⟩:∃x,BJ z len=x:=⟨_,rfl⟩;obtain⟨y,hy⟩:∃y,BJ E len=y:=⟨_,rfl⟩;have aD:=A1 (λd=>aK.o d z hp);have aA:=A1 (λd=>aK.o d E hq);rw[hx]at aD;rw[hy]at aA;rw[hx,hy];obtain⟨r,hr⟩:∃r,Ch x y=r:=⟨_,rfl⟩;obtain⟨s,hs⟩:∃s,Ck (X,z,I) (L,E,W)=s:=⟨_,rfl⟩;have aB:=A1 (λd=>aN.o d x y);rw[hr]at aB;rw[hs]at aE;rw[hr,hs];have b1:C7 ((w.alloc (.cells #[A0 X,A0 z,A0 I] 113)).alloc (.cells #[A0 L,A0 E,A0 W] 113)) w.heap.size X z I:=(CQ _ _ _ (by simp)).trans (Bf w _);have b2:C7 ((w.alloc (.cells #[A0 X,A0 z,A0 I] 113)).alloc (.cells #[A0 L,A0 E,A0 W] 113)) (w.heap.size+1) L E W:=by
  have:=Bf (w.alloc (.cells #[A0 X,A0 z,A0 I] 113)) (.cells #[A0 L,A0 E,A0 W] 113);simpa[C7] using this
 have k2:A4 Aa w ((w.alloc (.cells #[A0 X,A0 z,A0 I] 113)).alloc (.cells #[A0 L,A0 E,A0 W] 113)):=((A4.C _ w).ah _).ah _;have sz:((w.alloc (.cells #[A0 X,A0 z,A0 I] 113)).alloc (.cells #[A0 L,A0 E,A0 W] 113)).heap.size=w.heap.size+2:=by simp
 have aL:=A1 b1;have aH:=A1 b2;have aI:=A1 k2;have aO:=A1 sz;have aM:=A1 (k2.ag hw)
 go_enter func155,ntmps155
 go_wp2;generalize ((w.alloc (.cells #[A0 X,A0 z,A0 I] 113)).alloc (.cells #[A0 L,A0 E,A0 W] 113))=w2 at aL aH aI aO aM ⊢;have aF:Hid (∀d,A4 Aa w2 d->A8 d w.heap.size 0 (A0 X)/\A8 d w.heap.size 1 (A0 z)/\A8 d w.heap.size 2 (A0 I)/\A8 d (w.heap.size+1) 0 (A0 L)/\A8 d (w.heap.size+1) 1 (A0 E)/\A8 d (w.heap.size+1) 2 (A0 W)/\A8 d wb 0 (A0 len)):=λd hx=>by
  have e1:=aL.o.ai hx (λh=>h);have e2:=aH.o.ai hx (λh=>h);exact⟨e1.c0,e1.c1,e1.c2,e2.c0,e2.c1,e2.c2,hx.ag aM.o⟩
 have Y:=aF.o w2.drew (A4.C _ w2).aa;refine Bt (λw'=>A8 w' w.heap.size 0 (A0 X)/\A8 w' w.heap.size 1 (A0 z)/\A8 w' w.heap.size 2 (A0 I)/\A8 w' (w.heap.size+1) 0 (A0 L)/\A8 w' (w.heap.size+1) 1 (A0 E)/\A8 w' (w.heap.size+1) 2 (A0 W)/\A8 w' wb 0 (A0 len)) 16
  (Bb [0,1,2,3,5,6,7,8,11,12,4,9,10,13,14,15] [4,9,10,13,14,15]) Y ?_
 iterate 10 (refine B1 ?_;(try simp only[Ak]))
 refine Bd λK O=>?_;go_simp;refine(aD.o _).mono ?_;rintro e w3⟨rfl,rfl⟩;refine O _ _ Y (λhS=>?_)
 (try simp only[Ak])
 refine Bd λK O=>?_;go_simp;refine(aA.o _).mono ?_;rintro e w3⟨rfl,rfl⟩;refine O _ _ Y (λhS=>?_)
 (try simp only[Ak])
 refine Bd λK O=>?_;go_simp;refine(aB.o _).mono ?_;rintro e w3⟨rfl,rfl⟩;refine O _ _ Y (λhS=>?_)
 (try simp only[Ak])
 refine Bd λK O=>?_;go_simp;refine(aE.o _).mono ?_;rintro e w4⟨rfl,aG⟩;have k4:A4 Aa w2 w4:=((A4.C Aa w2).aa).tr aG;refine O _ _ (aF.o w4 k4) (λhS=>?_);have aP:=A1 k4
 (try simp only[Ak])
 refine Bd λK O=>?_;go_simp;have hb:(w4.alloc (.cells #[A0 r,A0 s] 3)).heap[w4.heap.size]?=some (.cells #[A0 r,A0 s] 3):=Bf w4 _;have k5:A4 Aa w2 (w4.alloc (.cells #[A0 r,A0 s] 3)):=aP.o.ah _;refine O _ _ (aF.o _ k5) (λhS=>?_);have aJ:=A1 k5;have EE:=A1 (OR.o (w4.alloc (.cells #[A0 r,A0 s] 3)) w4.heap.size r s (by simp only[A8,World.cell?,hb];rfl) (by simp only[A8,World.cell?,hb];rfl))
 (try simp only[Ak])
 refine Bd λK O=>?_;go_simp;refine EE.m ?_;rintro e w5⟨rfl,rfl⟩;refine O _ _ (aF.o _ aJ.o) (λhS=>?_)
 (try simp only[Ak])
 refine B4 ?_;simp only[Bm,Bl];go_wp2;go_ret;exact⟨rfl,aI.o.tr aJ.o⟩
end
section
open Go
section
variable {P:Program} {ops:Array Oper} {md:Region.Mode} {Q:Exit->Act->World->Prop}
def SB(aA:Nat)(S:World->Prop)(listed:Array Bool)(w:World):Prop:=listed.getD aA false=true\/S w
def SB.bq{aA i:Nat}{S:World->Prop}{listed:Array Bool}{w:World}(d:i≠aA):SB aA S (listed.setIfInBounds i true) w↔SB aA S listed w:=by
 unfold SB;have:(listed.setIfInBounds i true).getD aA false=listed.getD aA false:=by simp[Array.getD_eq_getD_getElem?,Array.getElem?_setIfInBounds_ne d]
 rw[this]
def wpAnyL(P:Program)(md:Region.Mode)(ops:Array Oper)(Q:Exit->Act->World->Prop)(S:Array Bool->World->Prop)(n:Nat)(L:Array Bool->Act->World->Prop):Nat->Array Bool->Act->World->Prop
 | 0,listed,a,w=>L listed a w
 | f+1,listed,a,w=>Region.ready md ops listed≠[]/\∀i∈Region.ready md ops listed,i<n/\wpOp P ops Q i (λa' w'=>S (listed.setIfInBounds i true) w'/\wpAnyL P md ops Q S n L f (listed.setIfInBounds i true) a' w') a w
def PU{S:Array Bool->World->Prop}{n g:Nat}{L:Array Bool->Act->World->Prop}(d:∀listed a w,L listed a w->wpAny P md ops Q g listed a w):
 ∀(f:Nat) (listed:Array Bool) (a:Act) (w:World),wpAnyL P md ops Q S n L f listed a w->wpAny P md ops Q (f+g) listed a w
 | 0,listed,a,w,h=>by rw[GM];exact d _ _ _ h
 | f+1,listed,a,w,h=>by
  rw[show f+1+g=(f+g)+1 from by omega];exact⟨λI=>absurd I h.1,λi E=>Kb (λa' w' z=>PU d f _ a' w' z.2) (h.2 i E).2⟩
def wpAnyL_first{aK:World->Prop}{aO:World->Prop}{aA n i:Nat}{oi:Oper}{v:Value}{L:Array Bool->Act->World->Prop}(aE:i≠aA)(hi:ops[i]?=some oi)(aB:∀(j:Nat) (o:Oper) cs b,ops[j]?=some o->o.op≠.select cs b)(hQ:∀c a w,Q (.panic c) (a.put oi.dst v) w->Q (.panic c) a w)(hs:Region.sinkB md ops n=true)(hc:Region.chainB md ops n=true)(hn:n<ops.size)(aJ:i<n)(aG:∀listed w,HeadInv md ops n listed->i∈Region.ready md ops listed->SB aA aK listed w->aO w)(aF:∀listed a w,L listed a w->∀j∈Region.ready md ops listed,n<=j):
 ∀(f:Nat) (listed:Array Bool) (a:Act) (w:World),HeadInv md ops n listed->
  (∀j oj,ops[j]?=some oj->j≠i->listed.getD j true=false->(∀e∈oj.after,Region.binds md e=true->e.on≠i)->oi.apart ops oj=true)->
  i∈Region.ready md ops listed->YieldsIf P ops aO oi v a->SB aA aK listed w->
  wpAnyL P md ops Q (SB aA aK) n L f (listed.setIfInBounds i true) (a.put oi.dst v) w->wpAnyL P md ops Q (SB aA aK) n L (f+1) listed a w:=by
 intro f
 induction f with
 | zero=>
  intro listed a w E _ O hy hS H;have z:=(Ij.1 O).1;refine⟨λh=>(by rw[h]at O;cases O),λj hj=>?_⟩;have X:j<n:=by
   rcases F9 j n with h|h
   ·exact h
   ·exact absurd hj (Ly hs hc hn E _ i rfl aJ z j h)
  refine⟨X,?_⟩;by_cases d:j=i
  ·subst d;exact hy.wpOp hi (aG _ _ E O hS) ⟨(SB.bq aE).2 hS,H⟩
  ·have:=aF _ _ _ H j (Kn hj d);omega
 | succ f ih=>
  intro listed a w E I O hy hS H;have z:=(Ij.1 O).1;refine⟨λh=>(by rw[h]at O;cases O),λj hj=>?_⟩;have X:j<n:=by
   rcases F9 j n with h|h
   ·exact h
   ·exact absurd hj (Ly hs hc hn E _ i rfl aJ z j h)
  refine⟨X,?_⟩;by_cases d:j=i
  ·subst d;exact hy.wpOp hi (aG _ _ E O hS) ⟨(SB.bq aE).2 hS,H⟩
  ·have h1:=(H.2 j (Kn hj d)).2;obtain⟨Y,oj,aD,hall⟩:=Ij.1 hj;have aI:∀e∈oj.after,Region.binds md e=true->e.on≠i:=λe he hb aN=>by
    have h1:=hall e he hb;rw[aN,getD_both z]at h1;cases h1
   have h2:=wpOp_putIf aD (I j oj aD d Y aI) (λcs b=>aB i oi cs b hi) (λcs b=>aB j oj cs b aD) hQ hy h1;have W:∀k ok,ops[k]?=some ok->k≠i->(listed.setIfInBounds j true).getD k true=false->
    (∀e∈ok.after,Region.binds md e=true->e.on≠i)->oi.apart ops ok=true:=λk ok hk aM z aL=>by
    refine I k ok hk aM ?_ aL;by_cases aH:j=k
    ·subst aH;exact Y
    ·rw[Mi true aH]at z;exact z
   refine Kb (λa' w' h3=>?_) h2;have h4:=h3.2.1;rw[V4 _ _ (Ph d)]at h4;have h5:=(SB.bq aE).1 h4;refine⟨h5,ih (listed.setIfInBounds j true) a' w' (E.set hj X) W (Kn O (Ph d)) h3.1 h5 ?_⟩;rw[V4 _ _ d];exact h3.2.2
def EW(P:Program)(ops:Array Oper)(Q:Exit->Act->World->Prop)(aA:Nat)(S:World->Prop)(T:Act->World->Prop):List (Nat×Nat)->Act->World->Prop
 | [],a,w=>T a w
 | (i,0):: r,a,w=>wpOp P ops Q i (λa' w'=>(i=aA\/S w')/\EW P ops Q aA S T r a' w') a w
 | (i,1):: r,a,w=>∃o v,ops[i]?=some o/\YieldsIf P ops S o v a/\EW P ops Q aA S T r (a.put o.dst v) w
 | (i,_+2):: r,a,w=>∃o v,ops[i]?=some o/\YieldsIf P ops (λ_=>True) o v a/\EW P ops Q aA S T r (a.put o.dst v) w
def Ng(md:Region.Mode)(ops:Array Oper)(aA i:Nat):Bool:=match ops[aA]? with
 | some o=>o.after.any λe=>Region.binds md e&&decide (e.on=i)
 | none=>false
def I8(md:Region.Mode)(ops:Array Oper)(aA n:Nat):List (Nat×Nat)->Array Bool->Bool
 | [],listed=>Region.seqB md ops (ops.size-n) n listed
 | (i,0):: r,listed=>decide (i<n)&&decide (Region.ready md ops listed=[i])&&I8 md ops aA n r (listed.setIfInBounds i true)
 | (i,1):: r,listed=>decide (i<n)&&((Region.ready md ops listed).contains i&&Region.free md ops listed i)&&(decide (i≠aA)&&Ng md ops aA i)&&I8 md ops aA n r (listed.setIfInBounds i true)
 | (i,_+2):: r,listed=>decide (i<n)&&((Region.ready md ops listed).contains i&&Region.free md ops listed i)&&decide (i≠aA)&&I8 md ops aA n r (listed.setIfInBounds i true)
def Nx(ops:Array Oper)(aA n:Nat)(d:List (Nat×Nat)):Bool:=
 Region.noSelect ops&&decide (n<ops.size)&&decide (d.length=n)&&Region.sinkB .any ops n&&Region.chainB .any ops n&&I8 .any ops aA n d (Array.replicate ops.size false)
def VK{aA i n:Nat}{S:World->Prop}{listed:Array Bool}{w:World}(h:Ng md ops aA i=true)(E:HeadInv md ops n listed)(L:i∈Region.ready md ops listed)(z:SB aA S listed w):S w:=by
 rcases z with O|z
 ·unfold Ng at h;cases ho:ops[aA]? with
  | none=>rw[ho]at h;cases h
  | some o=>
   rw[ho]at h;obtain⟨e,I,d⟩:=Array.any_eq_true'.1 h;simp only[FZ,DO]at d;have:=E.closed aA o ho O e I d.1;rw[d.2,getD_both (Ij.1 L).1]at this;cases this
 ·exact z
def Lv{aA n:Nat}{S:World->Prop}{T:Act->World->Prop}(E:Region.noSelect ops=true)(hs:Region.sinkB md ops n=true)(hc:Region.chainB md ops n=true)(hn:n<ops.size)(hQ:∀c a t v w,Q (.panic c) (Act.put a (some t) v) w->Q (.panic c) a w):
 ∀(aB:List (Nat×Nat)) (listed:Array Bool) (a:Act) (w:World),HeadInv md ops n listed->I8 md ops aA n aB listed=true->SB aA S listed w->EW P ops Q aA S T aB a w->
 wpAnyL P md ops Q (SB aA S) n (λd a' w'=>Region.seqB md ops (ops.size-n) n d=true/\T a' w') aB.length listed a w
 | [],listed,a,w,_,hB,_,h=>⟨hB,h⟩
 | (i,0):: r,listed,a,w,z,hB,Y,h=>by
  simp only[I8,FZ,DO]at hB;obtain⟨⟨I,X⟩,W⟩:=hB;refine⟨by rw[X];simp,λj hj=>?_⟩;have L:i∈Region.ready md ops listed:=by rw[X];simp
  rw[X]at hj;have:j=i:=by simpa using hj
  subst this;refine⟨I,Kb (λa' w' h'=>?_) h⟩;have aD:SB aA S (listed.setIfInBounds j true) w':=by
   rcases h'.1 with rfl|h1
   ·refine .inl ?_;(have:j<listed.size:=by rw[z.size];omega);simp[this]
   ·exact .inr h1
  exact⟨aD,Lv E hs hc hn hQ r _ a' w' (z.set L I) W aD h'.2⟩
 | (i,1):: r,listed,a,w,z,hB,Y,h=>by
  simp only[I8,FZ,DO]at hB;obtain⟨⟨⟨I,X,hf⟩,O,aE⟩,W⟩:=hB;obtain⟨o,v,h0,hy,hK⟩:=h;have L:i∈Region.ready md ops listed:=by simpa using X
  exact wpAnyL_first O h0 (Uk E) (λc a w=>by cases o.dst with|none=>exact id|some t=>exact hQ c a t v w) hs hc hn I (λl w z X Y=>VK aE z X Y) (λd a' w' hL=>QC hL.1) r.length listed a w z (Ul h0 hf) L hy Y
   (Lv E hs hc hn hQ r _ _ w (z.set L I) W ((SB.bq O).2 Y) hK)
 | (i,k+2):: r,listed,a,w,z,hB,Y,h=>by
  simp only[I8,FZ,DO]at hB;obtain⟨⟨⟨I,X,hf⟩,O⟩,W⟩:=hB;obtain⟨o,v,h0,hy,hK⟩:=h;have L:i∈Region.ready md ops listed:=by simpa using X
  exact wpAnyL_first O h0 (Uk E) (λc a w=>by cases o.dst with|none=>exact id|some t=>exact hQ c a t v w) hs hc hn I (λ_ _ _ _ _=>trivial) (λd a' w' hL=>QC hL.1) r.length listed a w z (Ul h0 hf) L hy Y
   (Lv E hs hc hn hQ r _ _ w (z.set L I) W ((SB.bq O).2 Y) hK)
end
section
variable {P:Program} {ops:Array Oper} {Q:Exit->Act->World->Prop} {aA:Nat} {S:World->Prop} {T:Act->World->Prop}
def Vq{id:Nat}{a:Act}{w:World}{l:List Oper}(aA:Nat)(S:World->Prop)(n:Nat)(d:List (Nat×Nat))(Y:P.follows .mixedOrders=true)(O:Nx l.toArray aA n d=true)(X:∀c a t v w,Q (.panic c) (Act.put a (some t) v) w->Q (.panic c) a w)(hS:S w.drew)(h:EW P l.toArray Q aA S (λa w=>wpList P l.toArray Q (l.drop n) a w) d a w.drew):(Code.region id l.toArray true).wp P Q a w:=by
 simp only[Nx,FZ,DO]at O;obtain⟨⟨⟨⟨⟨hsel,hn⟩,hsl⟩,hs⟩,hc⟩,hgo⟩:=O;have E:(l.drop n).length=l.toArray.size-n:=by simp
 have z:HeadInv .any l.toArray n (Array.replicate l.toArray.size false):=
  ⟨by simp,λj oj _ L=>(by rw[JK]at L;cases L),λt _ W=>getD_in (by simpa using W) (JK _ _)⟩
 have H:=Lv (md:=.any) (T:=λa w=>wpList P l.toArray Q (l.drop n) a w) hsel hs hc hn X d _ a w.drew z hgo (.inr hS) h;refine PQ Y ?_
 have:=PU (Q:=Q) (g:=l.toArray.size-n) (λlisted a' w' I=>by
  have:=PR (md:=.any) (Q':=Q) (l.drop n) n listed a' w' (λj=>by simp[List.getElem?_drop]) (by rw[E];exact I.1) I.2
  rwa [E]at this) _ _ _ _ H
 rw[hsl,show n+(l.toArray.size-n)=l.toArray.size from by omega]at this;exact this
def Vs{i:Nat}{o:Oper}{v:Value}{r:List (Nat×Nat)}{a:Act}{w:World}(z:ops[i]?=some o)(d:Region.wanted o (yielded ops a.tmps)=true)(E:∀w,S w->(execOp a.eval o).run P w=.ok (.value v) w)(h:EW P ops Q aA S T r (a.put o.dst v) w):EW P ops Q aA S T ((i,1):: r) a w:=
 ⟨o,v,z,.inl ⟨d,E⟩,h⟩
def Vt{i:Nat}{o:Oper}{v:Value}{r:List (Nat×Nat)}{a:Act}{w:World}(z:ops[i]?=some o)(d:Region.wanted o (yielded ops a.tmps)=true)(E:∀w,(execOp a.eval o).run P w=.ok (.value v) w)(h:EW P ops Q aA S T r (a.put o.dst v) w):EW P ops Q aA S T ((i,2):: r) a w:=
 ⟨o,v,z,.inl ⟨d,λw _=>E w⟩,h⟩
def Ls{a:Act}{w:World}(h:T a w):EW P ops Q aA S T [] a w:=h
def Vu{o:Oper}{r:List (Nat×Nat)}{a:Act}{w:World}(E:ops[aA]?=some o)(d:Region.wanted o (yielded ops a.tmps)=true)(h:∀K:Act->World->Prop,(∀a w,EW P ops Q aA S T r a w->K a w)->o.wp P a w K Q):EW P ops Q aA S T ((aA,0):: r) a w:=by
 show wpOp P ops Q aA _ a w;unfold wpOp;simp only[E,d,Ci];exact .inl (h _ λa w z=>⟨by simp,z⟩)
def I6{i:Nat}{o:Oper}{v:Value}{r:List (Nat×Nat)}{a:Act}{w:World}(h:EW P ops Q aA S T r (a.put o.dst v) w)(z:ops[i]?=some o:=by rfl)(d:Region.wanted o (yielded ops a.tmps)=true:=by rfl)(E:∀w,S w->(execOp a.eval o).run P w=.ok (.value v) w:=by intro w' I;(try dsimp only at I);go_simp;try with_reducible rfl):EW P ops Q aA S T ((i,1):: r) a w:=Vs z d E h
def I7{i:Nat}{o:Oper}{v:Value}{r:List (Nat×Nat)}{a:Act}{w:World}(h:EW P ops Q aA S T r (a.put o.dst v) w)(z:ops[i]?=some o:=by rfl)(d:Region.wanted o (yielded ops a.tmps)=true:=by rfl)(E:∀w,(execOp a.eval o).run P w=.ok (.value v) w:=by intro w';go_simp;try with_reducible rfl):EW P ops Q aA S T ((i,2):: r) a w:=Vt z d E h
def Lt{o:Oper}{r:List (Nat×Nat)}{a:Act}{w:World}(h:∀K:Act->World->Prop,(∀a w,EW P ops Q aA S T r a w->K a w)->o.wp P a w K Q)(z:ops[aA]?=some o:=by rfl)(d:Region.wanted o (yielded ops a.tmps)=true:=by rfl):
 EW P ops Q aA S T ((aA,0):: r) a w:=Vu z d h
def Lr{id:Nat}{a:Act}{w:World}{l:List Oper}(aA:Nat)(S:World->Prop)(n:Nat)(d:List (Nat×Nat))(E:S w.drew)(h:EW P l.toArray Q aA S (λa w=>wpList P l.toArray Q (l.drop n) a w) d a w.drew)(z:P.follows .mixedOrders=true:=by kernel_rfl)(I:Nx l.toArray aA n d=true:=by kernel_rfl)(L:∀c a t v w,Q (.panic c) (Act.put a (some t) v) w->Q (.panic c) a w:=by exact λ_ _ _ _ _ h=>h):(Code.region id l.toArray true).wp P Q a w:=Vq aA S n d z I L E h
end
end
end Go.Proofs.YtodcnkbblippnaaGreatDoor
