/- Part 31 of a proof: walks of the program. -/
import Derived.Test.YtodcnkbblippnaaGreatDoorPart29
namespace Go.Proofs.YtodcnkbblippnaaGreatDoor
set_option maxRecDepth 100000
set_option maxHeartbeats 32000000
set_option linter.defProp false
open Go.Proofs.Tryz
section
open Go.RowKit
attribute [local go_sem ↓] CJ
def Qy(w:ga)(v:gd)(h:gh (gh Pu))(FT:Nat->Prop):Prop:=
 ∃d:gh gd,d.length=h.length/\w.ownsRow 0 97 1 v h.length d/\(∀k (E:k<d.length) (z:k<h.length),AX w (d[k]'E) (h[k]'z))/\(∀g,v.ownBlock=some g->¬FT g)/\∀x∈d,∀g,x.ownBlock=some g->¬FT g
def Dk(l:gh (gh Pu)):Nat:=(l.map List.length).sum
def Oq(x:gh Pu)(r:gh (gh Pu)):Dk (x::r)=x.length+Dk r:=by simp[Dk]
def ME(x y:gh (gh Pu)):Dk (x++y)=Dk x+Dk y:=by simp[Dk]
def RK(l:gh (gh Pu))(k:Nat):Dk (l.take k)<=Dk l:=by
 conv=>rhs;rw[<-DU k l]
 rw[ME];omega
def TZ(l:gh Pu)(r:gh (gh Pu))(d:Int)(h:gh Int)(P:PD):PD.aj (l::r) d h P=if (P.aI (d+1) l).1≠0 then ((P.aI (d+1) l).1,d+1,h,(P.aI (d+1) l).2) else
 PD.aj r (d+1) (h++[d+1]) (P.aI (d+1) l).2:=rfl
def Fit.aI{P:PD}{a c m:Nat}(h:Fit P a c m)(n:Int)(l:gh Pu):Fit (P.aI n l).2 (a+1) (c+1) (m+17*l.length+4):=by
 have:=h.aH (Aw n) (AB (Aw n)) (Ci l);rw[P3]at this;exact this
def TP{n:Int}(d:0<=n)(h:n<=9223372036854775807):CH n:=by
 refine⟨d,h,?_⟩;rw[N3 d,X2];have e:(10:Nat) ^ 19=10000000000000000000:=by decide
 exact Uh 19 _ (by rw[e];omega) (by omega)
section
variable{w:ga}{ab b xb jb B:Nat}{sv ov lv jo:gd}{A:Ar}{P:PD}{Ft FT:Nat->Prop}{a c m:Nat}
def A4L(w:ga)(h:AD w ab b A P FT)(n:Int)(H:gd)(l:gh Pu)(hF:Fit P a c m)(hl:CP (a+1) (c+1) m)(hn:CH n)(Y:Lets B w)(hp:HR w H l)(I:∀p∈l,B8 p)(E:l.length<=134217728):
 Ag 151 #[A5 b,A0 n,H] w λe w'=>
  ((P.aI n l).1≠0/\e=.returned (.tuple #[.pointer none,A0 (P.aI n l).1])\/(P.aI n l).1=0/\∃O,e=.returned (.tuple #[A5 O,A0 0]))/\Aq w FT w' (λw' z=>AD w' ab b A (P.aI n l).2 z):=by
 obtain⟨xb,jb,sv,ov,lv,jo,Ft,d,L⟩:=h;refine(A0V w H l d.dk d.lt hF hl hn Y hp I E).mono ?_;rintro e w'⟨h3,W⟩;exact⟨h3,d.cy L (d.cb W)⟩
def Fit.cw{A:Ar}{P:PD}{a c m:Nat}(h:Fit P a c m)(l:gh Int):Fit (A.ah P l).2.2 (a+2) (c+2) (m+12+8*l.length):=by
 unfold Ar.ah;split
 ·exact h.af (by omega) (by omega) (by omega)
 ·split
  ·exact h.ec _ _
  ·exact h.ec _ _
def A4i(A:Ar)(P:PD)(l:gh Int):((A.ah P l).2.1.ix.sd=A.ix.sd\/(A.ah P l).2.1.ix.sd=l)/\((A.ah P l).2.1.j.Ak=A.j.Ak\/(A.ah P l).2.1.j.Ak=[]):=by
 unfold Ar.ah;split
 ·exact⟨.inl rfl,.inl rfl⟩
 ·split
  ·exact⟨.inl rfl,.inl rfl⟩
  ·exact⟨.inr rfl,.inr rfl⟩
def AD.cT{n:Nat}{v:gd}{xs:gh gd}(h:AD w ab b A P FT)(d:w.ownsRow 0 3 1 v n xs){g:Nat}(E:v.ownBlock=some g):g≠ab:=by
 obtain⟨xb,jb,sv,ov,lv,jo,Ft,z,h2⟩:=h;have⟨c,hc⟩:=Be d E;exact BR hc z.Ah (by decide)
def Sv(w:ga)(h:AD w ab b A P FT)(bT:∀k,FT k->k<w.heap.size)(kv:gd)(O:gh Int)(aB:DF w kv O)(dB:∀g,kv.ownBlock=some g->¬FT g/\B<=g)(fv:gd)(d:gh (gh Pu))(eJ:Qy w fv d FT)(cL:∀l∈d,(∀p∈l,B8 p)/\l.length<=134217728)(cV:0<=A.A8/\A.A8+d.length<=9223372036854775807)(b2:AT (A.j.A8+1))(_hkr:∀x∈O,AT x)(hF:Fit P a c m)(hl:CP (a+d.length+2) (c+2*a+2*d.length+4) (m+17*Dk d+12*d.length+12+8*O.length))(dA:O.length+d.length<=134217728)(hn:∀n∈A.ix.sd,CH n)(bU:∀n∈A.j.Ak,CH n)(b0:∀n∈O,CH n)(bK:A.ix.sd.length<=1073741824)(bR:A.j.Ak.length<=1073741824)(hL:Lets B w)(bI:∀k,FT k->B<=k):
 Ag 107 #[A5 ab,kv,fv] w (Am (A0 (A.aF P O d).1) λw'=>Aq w (λk=>FT k\/kv.ownBlock=some k) w' (λw' z=>AD w' ab b (A.aF P O d).2.1 (A.aF P O d).2.2 z)):=by
 obtain⟨i0,hi,dV,eK,eB⟩:=PO;obtain⟨ka,E,rfl,kc1,eG,-⟩:=B9 aB;obtain⟨vs,vl,bM,cH,cT,cB⟩:=eJ;obtain⟨fa,b6,rfl,fc1,dN,-⟩:=B9 bM;unfold maxLen at eG dN;have⟨q1,q2,q3⟩:=A0n A P;have b7:CP a (c+a) m:=⟨by have:=hl.a;omega,by have:=hl.c;omega,by have:=hl.m;omega⟩;have bH:=Fit.aL (A:=A) hF;have aQ:A3 Ab w (w.aC #[.func (Fn.func 118) #[A5 ab] #[],.func (Fn.func 150) #[A5 ab] #[]] 50):=(A3.I _ w).al _;have eA:=A1 (A0o _ w.heap.size (h.aJ aQ) (λk hk=>Bi (bT k hk) aQ.Aj) (λhx=>Ge _ (bT _ hx)) (by simp) (BL w _) hF b7 hn bU bK bR (hL.aO aQ) bI);have bZ:=A1 (Su A P O d);obtain⟨R,hR⟩:∃R,A.aF P O d=R:=⟨_,rfl⟩;rw[hR]at bZ ⊢;obtain⟨X,hX⟩:∃X,A.aL P=X:=⟨_,rfl⟩;rw[hX]at bZ eA q1 q2 q3 bH;have dZ:=A1 aQ;have dM:=A1 <| h.bx.2.2.2.2;have aY:=A1 bM;have bN:=A1 cH;have dQ:=A1 cT;have dK:=A1 cB;have aS:=A1 aB;have a0:=A1 dB;have eC:=A1 hL;have b9:=A1 bI;have dP:=A1 cL;have aO:=A1 hl;have b8:=A1 bH;have bB:Hid ((∀n∈A.ix.sd,CH n)/\(∀n∈A.j.Ak,CH n)/\(∀n∈O,CH n)/\A.ix.sd.length<=1073741824/\A.j.Ak.length<=1073741824/\AT (A.j.A8+1)):=⟨hn,bU,b0,bK,bR,b2⟩;have eD:=A1 <| cV;have cX:=A1 dA;have eM:=A1 vl;have cG:=A1 TZ;have dC:Hid (∀wx bO bX,Aq w FT wx (λw' z=>AD w' ab b bO bX z)->Aq w (λk=>FT k\/(Value.slice ka O.length E).ownBlock=some k) wx (λw' z=>AD w' ab b bO bX z)):=λwx bO bX hx=>hx.aZ λk hk=>.inl hk;clear hX hR aQ bT bM cH cT cB aB dB hL bI cL hl bH hn bU b0 bK bR b2 cV dA h hF b7 _hkr
 go_enter func107,ntmps107
 go_wp2_with (fail);refine eA.k ?_;rintro w1 b3;have aZ:=A1 (b3.a8 dZ.o);clear eA b3;obtain⟨dR,I,aE⟩:=X;dsimp only at bZ q1 q2 q3 b8 aZ;have eY:=A1 q1;have eZ:=A1 q2;have eR:=A1 q3;clear q1 q2 q3;by_cases hx:dR=0
 case neg=>
  have aG:R=(dR,I,aE):=by rw[bZ.o,Ae hx]
  subst aG;have hxb:(dR !=0)=true:=by simpa using hx
  go_wp2;go_ret;exact⟨rfl,dC.o _ _ _ aZ.o⟩
 case pos=>
 subst hx
 have a3:Hid (R=if (PD.aj d I.A8 O aE).1≠0 then ((PD.aj d I.A8 O aE).1,{I with A8:=(PD.aj d I.A8 O aE).2.1},(PD.aj d I.A8 O aE).2.2.2) else
  if (({I with A8:=(PD.aj d I.A8 O aE).2.1}:Ar).ah (PD.aj d I.A8 O aE).2.2.2 (PD.aj d I.A8 O aE).2.2.1).1≠0 then
   ({I with A8:=(PD.aj d I.A8 O aE).2.1}:Ar).ah (PD.aj d I.A8 O aE).2.2.2 (PD.aj d I.A8 O aE).2.2.1
  else (({I with A8:=(PD.aj d I.A8 O aE).2.1}:Ar).ah (PD.aj d I.A8 O aE).2.2.2 (PD.aj d I.A8 O aE).2.2.1).2.1.a6
   (({I with A8:=(PD.aj d I.A8 O aE).2.1}:Ar).ah (PD.aj d I.A8 O aE).2.2.2 (PD.aj d I.A8 O aE).2.2.1).2.2):=by unfold Hid;rw[bZ.o,Aa (by simp)]
 obtain⟨S,hS⟩:∃S,PD.aj d I.A8 O aE=S:=⟨_,rfl⟩;have eP:=A1 hS;rw[hS]at a3;clear hS bZ;have cM:=A1 <| Ax aS.o λg W=>aZ.o.1.An g (AF aS.o W) (a0.o g W).1;go_wp2
 go_loopw [1,24] (λv iv wr=>∃(k:Nat) (H:gh Int) (aF:PD),iv=A0 k/\k<=d.length/\Hid (DF wr v H/\H.length=O.length+k/\(∀g,v.ownBlock=some g->(Value.slice ka O.length E).ownBlock=some g\/w.heap.size<=g)/\(∀x∈H,CH x)/\
  Aq w (λk=>FT k\/(Value.slice ka O.length E).ownBlock=some k) wr (λw' z=>AD w' ab b {I with A8:=I.A8+k} aF z/\∀g,v.ownBlock=some g->¬z g)/\Fit aF (a+k) (c+a+k) (m+17*Dk (d.take k)+4*k)/\S=PD.aj (d.drop k) (I.A8+k) H aF)) (λ_ iv _=>d.length-(intOf iv).toNat)
 ·have⟨c1,aX,r1,l1,s1⟩:=aZ.o;refine⟨0,O,aE,rfl,by omega,cM.o,rfl,λg W=>.inl W,bB.o.2.2.1,⟨c1.af λ_ _ h=>.inl h,aX,⟨by simpa using r1,λg W hx=>?_⟩,l1,λk hk=>(s1 k hk).imp .inl id⟩,by simpa[Dk] using b8.o,by simpa using eP.o.symm⟩;rcases s1 g hx with h|h
  ·exact(a0.o g W).1 h
  ·have:=AF aS.o W;omega
 ·obtain⟨k,H,aF,rfl,hk,hI⟩:=hrel;have⟨i1,i2,i3,i4,i5,i6,i7⟩:=hI.o;obtain⟨ap,cp,rfl,hcap1,bY,-⟩:=B9 i1;unfold maxLen at bY;by_cases aH:k<d.length
  ·(have aB:k<vs.length:=by have:=eM.o;omega);have dE:∀g,(Value.slice fa d.length b6).ownBlock=some g->g<w.heap.size/\¬(FT g\/(Value.slice ka O.length E).ownBlock=some g):=λg W=>⟨AF aY.o W,λh=>h.elim (dQ.o g W) (IV aY.o aS.o (by decide) W)⟩
   obtain⟨c1,aX,⟨r1,aW⟩,l1,s1⟩:=i5;obtain⟨g,rfl⟩:∃g,fa=some (Ac g 0):=by
    obtain⟨a',c',e,-,-,hz,-⟩:=B9 aY.o;cases e;exact hz (by omega)
   have d0:=BH aY.o rfl (DL aB);have d1:=c1.bq d0 (dE g rfl).2;have aI:=Ax (bN.o k aB aH) λg' W=>c1.An g' (AF (bN.o k aB aH) W) λh=>h.elim (dK.o _ (BU aB) g' W) (IV (bN.o k aB aH) aS.o (by decide) W);have a4:=dP.o _ (BU aH);have bS:=Dy aH;have bV:=FB aH;have dO:=RK d (k+1);obtain⟨xv,cU⟩:∃xv,(vs[k]'aB)=xv:=⟨_,rfl⟩;rw[cU]at d0 d1 aI;obtain⟨pl,cO⟩:∃pl,(d[k]'aH)=pl:=⟨_,rfl⟩;rw[cO]at aI a4 bS bV;obtain⟨pa,aP,rfl,pc1,eF,-⟩:=B9 aI;unfold maxLen at eF;obtain⟨L,a5⟩:∃L,I.A8+(k:Int)=L:=⟨_,rfl⟩;(have hLr:0<=L/\L+1<=9223372036854775807:=by have:=eD.o;rw[<-a5,eR.o];omega);rw[a5]at r1 i7;rw[bV,cG.o]at i7;have⟨e0,e3,z3,hab,hFab⟩:=r1.bx;dsimp only at e3;(have ew:wrap64 (L+1)=L+1:=by unfold wrap64;omega);have ew2:IntKind.i64.wrap (L+1)=L+1:=En (by omega);have r5:=r1.fX (L+1);have aT:FT ab\/(Value.slice ka O.length E).ownBlock=some ab:=.inl dM.o;have c5:A3 (λk=>FT k\/(Value.slice ka O.length E).ownBlock=some k) w (wr.sC ab 3 (A0 (L+1))):=c1.bn (p:=(Ac ab 3)) (λ_=>aT) _;have bP:=r5.aJ (A3.I Ab (wr.sC ab 3 (A0 (L+1)))).ag;have a7:∀g',(Value.slice ap H.length cp).ownBlock=some g'->g'≠ab:=λg' W=>r1.cT i1 W;have k5:A3 (One ab) wr (wr.sC ab 3 (A0 (L+1))).drew:=((A3.I (One ab) wr).aq (b:=ab) rfl 3 _).ag;have bD:AX (wr.sC ab 3 (A0 (L+1))).drew (.slice pa pl.length aP) pl:=Ax aI λg' W=>k5.An g' (AF aI W) λe=>by
    obtain⟨xb,jb,sv,ov,lv,jo,Ft,hv,_⟩:=r1;have⟨c',hc'⟩:=Be aI W;exact BR hc' hv.Ah (by decide) e
   have a6:DF (wr.sC ab 3 (A0 (L+1))).drew (.slice ap H.length cp) H:=Ax i1 λg' W=>k5.An g' (AF i1 W) (a7 g' W);have l5:∀k,aX k->k<(wr.sC ab 3 (A0 (L+1))).drew.heap.size:=λk hk=>Bi (l1 k hk) k5.Aj;have cS:∀k,(FT k\/(Value.slice ka O.length E).ownBlock=some k)->B<=k:=λk hk=>hk.elim (b9.o k) λh=>(a0.o k h).2
   have cF:=eC.o.an c5.ag cS;have aU:CP (a+k+1) (c+a+k+1) (m+17*Dk (d.take k)+4*k):=by
    have:=aO.o;have h2:=RK d k;exact⟨by have:=this.a;omega,by have:=this.c;omega,by have:=this.m;omega⟩
   have aM:=A1 (A4L _ bP (L+1) _ pl i6 aU (TP (by omega) (by omega)) cF bD.rd a4.1 a4.2);have bQ:=A1 (i6.aI (L+1) pl);obtain⟨Y,hY⟩:∃Y,aF.aI (L+1) pl=Y:=⟨_,rfl⟩;rw[hY]at i7 aM bQ;(have dJ:Hid (17*Dk (d.take (k+1))+4*(k+1)=17*Dk (d.take k)+4*k+17*pl.length+4):=by unfold Hid;rw[bS,ME];simp[Dk];omega);have dY:=A1 a5;have dI:=A1 i2;have eW:=A1 i3;have eV:=A1 i4;have dH:=A1 i7;have dG:=A1 c5.ag;have eE:Hid (∀k,aX k->(FT k\/(Value.slice ka O.length E).ownBlock=some k)\/w.heap.size<=k):=s1;have cA:=A1 aW;have bL:=A1 a6;(have cJ:wr.heap.size=(wr.sC ab 3 (A0 (L+1))).drew.heap.size:=by show _=(wr.setCell _ _).heap.size;simp);have SZ5:=A1 cJ;obtain⟨f0,f3,-,-,-⟩:=bP.bx;dsimp only at f3;(have dU:(k:Int)<(d.length:Int):=by omega);have hk0:=C3 k;clear hI i1 i2 i3 i4 i6 i7 c1 r1 aW l1 s1 d0 aI a4 bS bV dO cU cO a5 r5 c5 bP a7 k5 bD a6 l5 cS cF aU hY dE aB aT hFab cJ;obtain⟨b1,a1⟩:=Y;dsimp only at aM dH bQ
   have aD:Hid (∀w6,Aq (wr.sC ab 3 (A0 (L+1))).drew aX w6 (λw' z=>AD w' ab b {I with A8:=L+1} a1 z)->
    (A7 w6 ab 0 (A5 b)/\A7 w6 ab 3 (A0 (L+1)))/\Aq w (λk=>FT k\/(Value.slice ka O.length E).ownBlock=some k) w6 (λw' z=>AD w' ab b {I with A8:=L+1} a1 z)):=λw6 h6=>by
    obtain⟨_,cP,bJ,_⟩:=h6;exact⟨⟨bJ.bx.1,bJ.bx.2.1⟩,Aq.a7 dG.o eE.o ⟨‹_›,cP,bJ,‹_›⟩⟩
   by_cases hy:b1=0
   case neg=>
    (have a2:S=(b1,L+1,H,a1):=by rw[dH.o,Ae hy]);(have aG:R=(b1,{I with A8:=L+1},a1):=by rw[a3.o,a2,Ae hy]);subst aG;have aR:Hid (Ag 151 #[A5 b,A0 (L+1),.slice pa pl.length aP] (wr.sC ab 3 (A0 (L+1))).drew (Am (.tuple #[.pointer none,A0 b1]) λw'=>Aq (wr.sC ab 3 (A0 (L+1))).drew aX w' (λw' z=>AD w' ab b {I with A8:=L+1} a1 z))):=by
     refine aM.m ?_;rintro e w'⟨⟨_,h2⟩|⟨h1,_⟩,h3⟩
     ·exact⟨h2,h3⟩
     ·exact absurd h1 hy
    (have hyb:(b1 !=0)=true:=by simpa using hy);clear a2 aM;go_wp2;refine Cc (λw'=>A7 w' ab 0 (A5 b)/\A7 w' ab 3 (A0 (L+1))) 14
     (BG [0,1,2,3,4,5,6,7,8,9,10,11,12,13] [9]) ⟨f0,f3⟩ ?_
    iterate 9 refine Bq ?_
    refine Bx λK hK=>?_;go_simp;refine aR.k ?_;rintro w6 hI;refine hK _ _ (aD.o w6 hI).1 (λhS=>?_);have eU:=A1 (aD.o w6 hI).2;clear hK K hS hI aR aD
    iterate 4 refine Bq ?_
    refine C8 ?_;go_wp2;go_ret;exact⟨rfl,eU.o⟩
   case pos=>
    subst hy;(have eX:Hid (S=PD.aj (d.drop (k+1)) (L+1) (H++[L+1]) a1):=by unfold Hid;rw[dH.o,Aa (by simp)]);have aR:Hid (Ag 151 #[A5 b,A0 (L+1),.slice pa pl.length aP] (wr.sC ab 3 (A0 (L+1))).drew λe w'=>∃gb,e=.returned (.tuple #[A5 gb,A0 0])/\Aq (wr.sC ab 3 (A0 (L+1))).drew aX w' (λw' z=>AD w' ab b {I with A8:=L+1} a1 z)):=by
     refine aM.m ?_;rintro e w'⟨⟨h1,_⟩|⟨_,gb,h2⟩,h3⟩
     ·exact absurd rfl h1
     ·exact⟨gb,h2,h3⟩
    clear aM dH;go_wp2;refine Cc (λw'=>A7 w' ab 0 (A5 b)/\A7 w' ab 3 (A0 (L+1))) 14
     (BG [0,1,2,3,4,5,6,7,8,9,10,11,12,13] [9]) ⟨f0,f3⟩ ?_
    iterate 9 refine Bq ?_
    refine Bx λK hK=>?_;go_simp;refine aR.m ?_;rintro e w6⟨gb,rfl,hI⟩;refine hK _ _ (aD.o w6 hI).1 (λhS=>?_);have g63:=(aD.o w6 hI).1.2;have cC:=A1 hI;clear hK K hS hI aR aD
    iterate 4 refine Bq ?_
    refine C8 ?_;have bG:=A1 cC.o.1;have cY:Hid (DF w6 (.slice ap H.length cp) H):=Ax bL.o λg' W=>bG.o.An g' (AF bL.o W) (cA.o g' W);have cQ:Hid ((w6.aC #[A0 (L+1)] 3).ownsRow 0 3 1 (.slice ap H.length cp) H.length (DZ H)):=Ax cY.o λg' W=>((A3.I Ab w6).al _).An g' (AF cY.o W) (λh=>h)
    have eH:=A1 (Src.bh (size:=1) (B:=w6.heap.size) Ho w6 #[A0 (L+1)] 3 (by simp) 1 1 rfl (Kk [L+1]));go_wp2_with (at_builtin;refine Dj rfl (.tmp 51) (.tmp 56) 26 26 rfl 3 i0 _ 1 8 Ho hi dV eK eB rfl (by decide) (.slice ap H.length cp) H.length (DZ H) (by rfl) cQ.o _ 1 _ (by rfl) eH.o (by have:=dI.o;have:=cX.o;omega) ?_;intro a8 dF w8 hA;have eS:=A1 hA;clear hA);go_roundw
    ·have hA:=eS.o;have k7:A3 Ab w6 (w6.aC #[A0 (L+1)] 3):=(A3.I _ w6).al _;have aL:=hA.Al (S:=λk=>(Value.slice ap H.length cp).ownBlock=some k) λ_ h=>h;have k8:A3 (λk=>(Value.slice ap H.length cp).ownBlock=some k) w6 w8:=(k7.aY).tr aL;have⟨_,cP,r2,l2,s2⟩:=cC.o;have bE:∀g',(Value.slice ap H.length cp).ownBlock=some g'->¬cP g':=λg' W hx=>by
      rcases s2 g' hx with h|h
      ·exact cA.o g' W h
      ·have:=AF bL.o W;omega
     have r8:AD w8 ab b {I with A8:=L+1} a1 cP:=r2.aN (k8.ay l2 λk hk hx=>bE k hx hk) k8.Aj;have bC:∀g',(Value.slice a8 (H.length+1) dF).ownBlock=some g'->(Value.slice ap H.length cp).ownBlock=some g'\/w6.heap.size<=g':=λg' W=>by
      rcases hA.CA with h|h
      ·rw[h]at W;exact .inl W
      ·rw[h]at W;cases W;exact .inr k7.Aj
     have eN:A3 (λk=>aX k\/(Value.slice ap H.length cp).ownBlock=some k) (wr.sC ab 3 (A0 (L+1))).drew w8:=(bG.o.af λ_ _ h=>.inl h).Av k8 λ_ h _=>.inr h;have bA:∀g',(Value.slice ap H.length cp).ownBlock=some g'->(Value.slice ka O.length E).ownBlock=some g'\/w.heap.size<=g':=eW.o;have c8:A3 (λk=>FT k\/(Value.slice ka O.length E).ownBlock=some k) w w8:=dG.o.Av eN λx hx hlt=>by
      rcases hx with hx|hx
      ·exact(eE.o x hx).resolve_right (by omega)
      ·exact .inr ((bA x hx).resolve_right (by omega))
     (have eL:I.A8+((k+1:Nat):Int)=L+1:=by have:=dY.o;omega);refine⟨k+1,H++[L+1],a1,by go_num,by omega,?_,by have:=dI.o;simp;omega,λg' W=>?_,λx hx=>?_,⟨c8,cP,⟨by rw[eL];exact r8,λg' W hx=>?_⟩,λk hk=>Bi (l2 k hk) k8.Aj,λk hk=>?_⟩,?_,by rw[eL];exact eX.o⟩
     ·(have e:(H++[L+1]).length=H.length+1:=by simp);unfold DF;rw[LN,e];exact hA.AE
     ·rcases bC g' W with h|h
      ·exact bA g' h
      ·have:=c8.Aj;have:=dG.o.Aj;have:=bG.o.Aj;exact .inr (by omega)
     ·rcases AU.1 hx with hx|hx
      ·exact eV.o x hx
      ·simp at hx;subst hx;exact TP (by omega) (by omega)
     ·rcases bC g' W with h|h
      ·exact bE g' h hx
      ·have:=l2 g' hx;omega
     ·rcases s2 k hk with h|h
      ·exact eE.o k h
      ·have:=dG.o.Aj;exact .inr (by omega)
     ·have h1:=bQ.o;have h2:=dJ.o;exact h1.af (by omega) (by omega) (by omega)
    ·simp[intOf];omega
  ·(obtain rfl:k=d.length:=by omega);rw[GI]at i7;rw[Cf]at i6;have a2:S=(0,I.A8+(d.length:Int),H,aF):=i7;subst a2;have aN:Hid (R=if (({I with A8:=I.A8+(d.length:Int)}:Ar).ah aF H).1≠0 then ({I with A8:=I.A8+(d.length:Int)}:Ar).ah aF H else (({I with A8:=I.A8+(d.length:Int)}:Ar).ah aF H).2.1.a6 (({I with A8:=I.A8+(d.length:Int)}:Ar).ah aF H).2.2):=by
    unfold Hid;rw[a3.o,Aa (by simp)]
   obtain⟨A2,aL⟩:∃A2:Ar,({I with A8:=I.A8+(d.length:Int)}:Ar)=A2:=⟨_,rfl⟩;(have b5:A2.ix=A.ix:=by rw[<-aL];exact eY.o);(have ej:A2.j=A.j:=by rw[<-aL];exact eZ.o);rw[aL]at aN i5;obtain⟨c1,aX,⟨r1,aW⟩,l1,s1⟩:=i5;have⟨n1,n2,n3,n4,n5,n6⟩:=bB.o;have bF:∀k,(FT k\/(Value.slice ka O.length E).ownBlock=some k)->B<=k:=λk hk=>hk.elim (b9.o k) λh=>(a0.o k h).2
   have cZ:=eC.o.an c1 bF;have aA:=aO.o;(have a9:H.length<=134217728:=by have:=cX.o;omega);have b4:=A1 (A4c wr r1 (.slice ap H.length cp) H (DF.rd i1) (λg W=>aW g W) (by rw[ej];exact n6) (λx hx=>by have:=i4 x hx;exact⟨by have:=this.1;omega,this.2.1⟩) a9 i6 ⟨by have:=aA.a;omega,by have:=aA.c;omega,by have:=aA.m;omega⟩ cZ);have aV:Hid (Fit (A2.ah aF H).2.2 (a+d.length+2) (c+a+d.length+2) (m+17*Dk d+4*d.length+12+8*H.length)):=i6.cw H;have bW:=A4i A2 aF H;have aJ:Hid ((∀n∈(A2.ah aF H).2.1.ix.sd,CH n)/\(A2.ah aF H).2.1.ix.sd.length<=1073741824):=by
    rcases bW.1 with h|h
    ·rw[h,b5];exact⟨n1,n4⟩
    ·rw[h];exact⟨i4,by omega⟩
   have aK:Hid ((∀n∈(A2.ah aF H).2.1.j.Ak,CH n)/\(A2.ah aF H).2.1.j.Ak.length<=1073741824):=by
    rcases bW.2 with h|h
    ·rw[h,ej];exact⟨n2,n5⟩
    ·rw[h];exact⟨λn hn=>by simp at hn,by simp⟩
   obtain⟨T,hT⟩:∃T,A2.ah aF H=T:=⟨_,rfl⟩;rw[hT]at aN b4 aV aJ aK;have aD:Hid (∀w2 bO bX,Aq wr (λk=>aX k\/(Value.slice ap H.length cp).ownBlock=some k) w2 (λw' z=>AD w' ab b bO bX z)->Aq w (λk=>FT k\/(Value.slice ka O.length E).ownBlock=some k) w2 (λw' z=>AD w' ab b bO bX z)):=λw2 bO bX h2=>
    Aq.a7 c1 (λk hk=>hk.elim (λh=>s1 k h) λh=>(i3 k h).imp (λh=>.inr h) id) h2
   have dT:Hid (∀w2,A3 (λk=>FT k\/(Value.slice ka O.length E).ownBlock=some k) w w2->Lets B w2):=λw2 h2=>eC.o.an h2 bF;have dI:=A1 i2;(have dU:¬((d.length:Int)<(d.length:Int)):=by omega);obtain⟨eI,eQ,eO⟩:=T;dsimp only at aN b4 aV aJ aK;clear hI i1 i2 i3 i4 i6 i7 aL b5 ej c1 r1 aW l1 s1 n1 n2 n3 n4 n5 n6 bF cZ aA bW hT a3 eP cG a9;by_cases ht:eI=0
   case neg=>
    (have aG:R=(eI,eQ,eO):=by rw[aN.o,Ae ht]);subst aG;(have htb:(eI !=0)=true:=by simpa using ht);go_wp2_with (go_at_call 152;refine b4.k ?_;rintro w6 cI;have dS:=A1 (aD.o w6 _ _ cI);clear cI);go_ret;exact⟨rfl,dS.o⟩
   case pos=>
    subst ht;(have aG:R=eQ.a6 eO:=by rw[aN.o,Aa (by simp)]);have cD:=A1 aG;clear aG aN;go_wp2_with (fail);refine b4.k ?_;rintro w6 dD;have dX:=aD.o w6 _ _ dD;obtain⟨c6,eT,r6,l6,s6⟩:=dX;have k7:A3 Ab w6 (w6.aC #[.func (Fn.func 150) #[A5 ab] #[],.func (Fn.func 86) #[A5 b] #[]] 50):=(A3.I _ w6).al _;have aA:=aO.o;have dW:=A1 (A3L _ w6.heap.size (r6.aJ k7) (λk hk=>Bi (l6 k hk) k7.Aj) (λhx=>Ge _ (l6 _ hx)) (by simp) (BL w6 _) aV.o ⟨by have:=aA.a;omega,by have:=aA.c;omega,by have:=aA.m;have:=dI.o;omega⟩ aJ.o.1 aK.o.1 aJ.o.2 aK.o.2 ((dT.o w6 c6).aO k7));rw[<-cD.o]at dW;have g0:=r6.bx.1;have cN:Hid (∀w9,Aq (w6.aC #[.func (Fn.func 150) #[A5 ab] #[],.func (Fn.func 86) #[A5 b] #[]] 50) eT w9 (λw' z=>AD w' ab b R.2.1 R.2.2 z)->Aq w (λk=>FT k\/(Value.slice ka O.length E).ownBlock=some k) w9 (λw' z=>AD w' ab b R.2.1 R.2.2 z)):=λw9 h9=>Aq.a7 c6 s6 (h9.a8 k7);clear cD;obtain⟨Z1,Z2,Z3⟩:=R;dsimp only at dW cN ⊢;clear dD c6 r6 l6 s6 k7 aA b4 aD;go_wp2_with (go_at_call 117;refine dW.k ?_;rintro w9 cE;have dL:=A1 (cN.o w9 cE);clear cE);go_ret;exact⟨rfl,dL.o⟩
end
section
variable{w w':ga}{ab b xb jb B:Nat}{sv ov lv jo:gd}{A:Ar}{P P':PD}{Ft FT:Nat->Prop}{a c m:Nat}{J':Jn}
def Co.jd(h:Co w ab b xb jb sv ov lv jo A P Ft):JD w jb b A.j P (λk=>Ft k\/Dq jb lv jo k):=
 ⟨lv,jo,Ft,h.jn,h.dk,h.lt,λk d=>h.Dl k (.inr (.inr (.inr (.inr d)))),λ_ h=>h⟩
def Co.ej(h:Co w ab b xb jb sv ov lv jo A P Ft)(E:∀k,Ft k\/Fk ab xb jb sv ov lv jo k->FT k)(hI:Aq w (λk=>Ft k\/Dq jb lv jo k) w' (λw' L=>JD w' jb b J' P' L)):Aq w FT w' (λw' L=>AD w' ab b {A with j:=J'} P' L):=by
 obtain⟨hc,F2,⟨lv',Y,O,h1,h2,h3,h4,h5⟩,hl,hs⟩:=hI;have z:∀k,(k=ab\/k=xb\/sv.ownBlock=some k\/ov.ownBlock=some k)->k<w.heap.size/\¬Ft k/\¬Dq jb lv jo k:=λk d=>by
  rcases d with rfl|rfl|d|d
  ·exact⟨h.Ah.lt,h.Dl _ (.inl rfl),λI=>(h.FI _ I).1 rfl⟩
  ·exact⟨h.ix.lt,h.Dl _ (.inr (.inl rfl)),λI=>(h.FI _ I).2 rfl⟩
  ·exact⟨h.sd.lt d,h.Dl k (.inr (.inr (.inl d))),(h.Fm k d).2.2⟩
  ·exact⟨h.AN.lt d,h.Dl k (.inr (.inr (.inr (.inl d)))),(h.Gh k d).2.2⟩
 have keep:∀k,(k=ab\/k=xb\/sv.ownBlock=some k\/ov.ownBlock=some k)->w'.heap[k]?=w.heap[k]?:=λk d=>hc.An k (z k d).1 λI=>I.elim (z k d).2.1 (z k d).2.2;have out:∀k,(k=ab\/k=xb\/sv.ownBlock=some k\/ov.ownBlock=some k)->¬O k/\¬Dq jb lv' Y k:=λk d=>
  ⟨λI=>(hs k (h5 k (.inl I))).elim (λhy=>hy.elim (z k d).2.1 (z k d).2.2) λhy=>by have:=(z k d).1;omega,
   λI=>(hs k (h5 k (.inr I))).elim (λhy=>hy.elim (z k d).2.1 (z k d).2.2) λhy=>by have:=(z k d).1;omega⟩
 have W:Co w' ab b xb jb sv ov lv' Y {A with j:=J'} P' O:=by
  refine⟨(keep ab (.inl rfl)).trans h.Ah,(keep xb (.inr (.inl rfl))).trans h.ix,h.sd.aN λg H=>keep g (.inr (.inr (.inl H))),h.AN.aN λg H=>keep g (.inr (.inr (.inr H))),h1,h2,h3,λk d=>?_,λg H=>?_,λg H=>?_,λk d=>?_⟩
  ·rcases d with d|d|d|d|d
   ·exact(out k (.inl d)).1
   ·exact(out k (.inr (.inl d))).1
   ·exact(out k (.inr (.inr (.inl d)))).1
   ·exact(out k (.inr (.inr (.inr d)))).1
   ·exact h4 k d
  ·exact⟨(h.Fm g H).1,(h.Fm g H).2.1,(out g (.inr (.inr (.inl H)))).2⟩
  ·exact⟨(h.Gh g H).1,(h.Gh g H).2.1,(out g (.inr (.inr (.inr H)))).2⟩
  ·exact⟨λe=>(out ab (.inl rfl)).2 (e ▸ d),λe=>(out xb (.inr (.inl rfl))).2 (e ▸ d)⟩
 have sub:∀k,(Ft k\/Dq jb lv jo k)->FT k:=λk d=>d.elim (λh=>E k (.inl h)) λh=>E k (.inr (.inr (.inr (.inr (.inr h)))));refine W.bK hc (λk _ d=>sub k d) (λk d=>(hs k (h5 k (.inl d))).imp (sub k) id) λk d=>?_;rcases d with d|d|d|d|d
 ·exact .inl (E k (.inr (.inl d)))
 ·exact .inl (E k (.inr (.inr (.inl d))))
 ·exact .inl (E k (.inr (.inr (.inr (.inl d)))))
 ·exact .inl (E k (.inr (.inr (.inr (.inr (.inl d))))))
 ·exact(hs k (h5 k (.inr d))).imp (sub k) id
def A4g(w:ga)(p:Pu)(h:AD w ab b A P FT)(aR:∀k,FT k->k<w.heap.size)(hp:B8 p)(hn:A.j.AE=none->CH (A.j.A8+1)/\AT (A.j.A8+1)/\AT A.j.pd)(aQ:A.j.Ak.length<=1073741824)(hL:Lets B w)(aI:∀k,FT k->B<=k)(hF:Fit P a c m)(hl:CP (a+1) (c+1) (m+33)):
 Ag 105 #[A5 ab,DA p] w (Am (.tuple #[.bool (A.ae P p).1,A0 (A.ae P p).2.1]) λw'=>Aq w FT w' (λw' H=>AD w' ab b (A.ae P p).2.2.1 (A.ae P p).2.2.2 H)):=by
 obtain⟨E,z,d⟩:=p;unfold DA;dsimp only
 have⟨s1,s2,s3⟩:=OB A P;have aP:C5 (w.aC #[A0 E,A0 z,A0 d] 113) w.heap.size E z d:=BL w _;have k0:A3 Ab w (w.aC #[A0 E,A0 z,A0 d] 113):=(A3.I _ w).al _;have ST:=A1 (S3 _ (h.aJ k0))
 have aH:Hid (A.ae P (E,z,d)=if (A.C P).1≠0 then (false,(A.C P).1,(A.C P).2.1,(A.C P).2.2) else
  (((A.C P).2.1.j.ae (A.C P).2.2 (E,z,d)).1,((A.C P).2.1.j.ae (A.C P).2.2 (E,z,d)).2.1,{ (A.C P).2.1 with j:=((A.C P).2.1.j.ae (A.C P).2.2 (E,z,d)).2.2.1},((A.C P).2.1.j.ae (A.C P).2.2 (E,z,d)).2.2.2)):=rfl
 have aE:=hF.C (A:=A);generalize hR:A.ae P (E,z,d)=R at aH ⊢;generalize hX:A.C P=X at aH ST s1 s2 s3 aE;obtain⟨aJ,L,aB⟩:=X;dsimp only at aH ST s1 s2 s3 aE;have sz:w.heap.size<(w.aC #[A0 E,A0 z,A0 d] 113).heap.size:=by simp
 have aM:Hid (∀W,Aq (w.aC #[A0 E,A0 z,A0 d] 113) FT W (λw' H=>AD w' ab b L aB H)->∃jb,A7 W ab 2 (A5 jb)/\C5 W w.heap.size E z d/\
  Ag 148 #[A5 jb,.agg #[A0 E,A0 z,A0 d]] W.drew (Am (.tuple #[.bool (L.j.ae aB (E,z,d)).1,A0 (L.j.ae aB (E,z,d)).2.1]) λw'=>
   (A7 w' ab 2 (A5 jb)/\C5 w' w.heap.size E z d)/\Aq w FT w' (λw' H=>AD w' ab b {L with j:=(L.j.ae aB (E,z,d)).2.2.1} (L.j.ae aB (E,z,d)).2.2.2 H))):=λW h2=>by
  obtain⟨c2,aU,⟨xb,jb,sv,ov,lv,jo,Ft,hv,aA⟩,l2,q2⟩:=h2;have kd:A3 Ab W W.drew:=(A3.I _ W).ag;have aG:=hv.aJ kd;have np:¬FT w.heap.size:=λI=>Ge _ (aR _ I);have aT:¬aU w.heap.size:=λI=>by rcases q2 _ I with h|h;exact np h;omega
  have O:=aP.an c2 np;refine⟨jb,hv.Ah.c2,O,(A1L W.drew (E,z,d) aG.jd hp (by rw[s2];exact hn) (by rw[s2];exact aQ) (((hL.aO k0).an c2 aI).aO kd) aE hl).mono ?_⟩;rintro e w'⟨rfl,hI⟩;have aF:∀k,(Ft k\/Dq jb lv jo k)->aU k:=λk hk=>hk.elim (λh=>aA k (.inl h)) λh=>aA k (.inr (.inr (.inr (.inr (.inr h)))));refine⟨rfl,⟨(aG.Ah.an hI.1 λI=>I.elim (hv.Dl _ (.inl rfl)) λI=>(hv.FI _ I).1 rfl).c2,O.ag.an hI.1 λI=>aT (aF _ I)⟩,?_⟩;exact((Aq.a7 (c2.ag) q2 (aG.ej aA hI)).a8 k0)
 have aK:Hid (∀wx aL aS,Aq (w.aC #[A0 E,A0 z,A0 d] 113) FT wx (λw' H=>AD w' ab b aL aS H)->Aq w FT wx (λw' H=>AD w' ab b aL aS H)):=λwx aL aS I=>I.a8 k0;by_cases I:aJ=0
 case neg=>
  have aD:R=(false,aJ,L,aB):=by rw[aH.o,Ae I]
  subst aD;have hxb:(aJ !=0)=true:=by simpa using I
  go_enter func105,ntmps105
  go_wp2_with (go_at_call 118;refine ST.k ?_;rintro W hI;have aN:=A1 (aK.o _ _ _ hI));go_ret2;exact⟨rfl,aN.o⟩
 case pos=>
  subst I;have aD:R=((L.j.ae aB (E,z,d)).1,(L.j.ae aB (E,z,d)).2.1,{L with j:=(L.j.ae aB (E,z,d)).2.2.1},(L.j.ae aB (E,z,d)).2.2.2):=by rw[aH.o,Aa (by simp)]
  generalize hY:L.j.ae aB (E,z,d)=Y at aM aD;obtain⟨Y0,Y1,Y2,Y3⟩:=Y;dsimp only at aM aD;subst aD
  go_enter func105,ntmps105
  go_wp2_with (fail);refine ST.k ?_;rintro W hI;have⟨jb,c22,O,AL⟩:=aM.o W hI;have aO:=A1 AL;have d2:A7 W.drew ab 2 (A5 jb):=c22;have e0:=O.ag.c0;have e1:=O.ag.c1;have e2:=O.ag.c2;go_wp2;refine Cc (λw'=>A7 w' ab 2 (A5 jb)/\A7 w' w.heap.size 0 (A0 E)/\A7 w' w.heap.size 1 (A0 z)/\A7 w' w.heap.size 2 (A0 d)) 8
   (BG [0,1,2,3,4,5,6,7] [5]) ⟨d2,e0,e1,e2⟩ ?_
  iterate 5 refine Bq ?_
  refine Bx λK hK=>?_;go_simp;refine aO.k ?_;rintro w3⟨⟨e4,eb⟩,hI⟩;refine hK _ _ ⟨e4,eb.c0,eb.c1,eb.c2⟩ (λhS=>?_);have aN:=A1 hI
  iterate 2 refine Bq ?_
  refine C8 ?_;go_wp2;go_ret2;exact⟨rfl,aN.o⟩
def XN(w:ga)(g:Nat)(h:AD w ab b A P FT)(hg:¬FT g)(W:g<w.heap.size)(Y:w.cell? ⟨ab,2,none⟩=some (.pointer (some ⟨jb,0,none⟩)))(hb:w.heap[g]?=some (.cells #[.func (Fn.func 118) #[.pointer (some ⟨ab,0,none⟩)] #[],.func (Fn.func 119) #[.pointer (some ⟨jb,0,none⟩)] #[],.func (Fn.func 86) #[.pointer (some ⟨b,0,none⟩)] #[]] 50 (0,0))):
 Calls Tryz.prog 117 #[.slice (some ⟨g,0,none⟩) 3 3] w λe w'=>e=.returned (.int .i64 (A.ad P).1)/\Aq w FT w' (λw' d=>AD w' ab b (A.ad P).2.1 (A.ad P).2.2 d):=by
 refine(A2j w g ab jb b (λn w'=>n=(A.C P).1/\Aq w FT w' (λw' d=>AD w' ab b (A.C P).2.1 (A.C P).2.2 d)/\w'.cell? ⟨ab,2,none⟩=w.cell? ⟨ab,2,none⟩)
  (λn w'=>(A.C P).1=0/\n=((A.C P).2.1.j.ad (A.C P).2.2).1/\Aq w FT w' (λw' d=>AD w' ab b (A.C P).2.1 ((A.C P).2.1.j.ad (A.C P).2.2).2 d))
  (λn w'=>(A.C P).1=0/\((A.C P).2.1.j.ad (A.C P).2.2).1=0/\n=((A.C P).2.1.j.ad (A.C P).2.2).2.av.1/\Aq w FT w' (λw' d=>AD w' ab b (A.C P).2.1 ((A.C P).2.1.j.ad (A.C P).2.2).2.av.2 d)) hb ?_ ?_ ?_).mono ?_
 ·refine(S0 w h).mono ?_;rintro e w'⟨I,z,E⟩;exact⟨_,I,⟨rfl,z,E⟩,z.1.An g W hg⟩
 ·rintro w1⟨h0,⟨c1,aD,⟨xb,aA,sv,ov,lv,jo,Ft,hv,O⟩,E,H⟩,hc⟩ hk;have e:aA=jb:=by have:=hv.Ah.c2.symm.trans (hc.trans Y);simpa using this
  subst e;refine(A1J w1 hv.jd).mono ?_;rintro e w'⟨L,h6⟩;have hI:=Aq.a7 c1 H (hv.ej O h6);exact⟨_,L,⟨h0.symm,rfl,hI⟩,hI.1.An g W hg⟩
 ·rintro w1⟨h0,aB,c1,aD,z,E,H⟩ -;refine(Wq z).mono ?_;rintro e w'⟨L,h6⟩;exact⟨_,L,h0,aB.symm,rfl,Aq.a7 c1 H h6⟩
 ·rintro e w'⟨n,rfl,⟨I,z,E,_⟩|⟨I,z,E,H⟩|⟨z,E,H,L⟩⟩
  ·subst z;unfold Ar.ad;rw[Ae I];exact⟨rfl,E⟩
  ·subst E;unfold Ar.ad;rw[Aa (by simp[z]),Ae I];exact⟨rfl,H⟩
  ·subst H;unfold Ar.ad;rw[Aa (by simp[z]),Aa (by simp[E])];exact⟨rfl,L⟩
def A4d(w:ga)(h:AD w ab b A P FT)(L:∀k,FT k->k<w.heap.size):
 Ag 74 #[A5 ab] w (Am (A0 (A.ad P).1) λw'=>Aq w FT w' (λw' d=>AD w' ab b (A.ad P).2.1 (A.ad P).2.2 d)):=by
 obtain⟨jb,c2⟩:∃jb,A7 w ab 2 (A5 jb):=by
  obtain⟨xb,jb,sv,ov,lv,jo,Ft,hv,_⟩:=h;exact⟨jb,hv.Ah.c2⟩
 have c0:=h.bx.1;have z:A3 Ab w (w.aC #[.func (Fn.func 118) #[A5 ab] #[],.func (Fn.func 119) #[A5 jb] #[],.func (Fn.func 86) #[A5 b] #[]] 50).drew:=((A3.I _ w).al _).ag;have I:=A1 (XN _ w.heap.size (h.aJ z) (λW=>Ge _ (L _ W)) (by show w.heap.size<(w.alloc _).heap.size;simp) (z.ao c2) (BL w _));have aB:=A1 z;have d0:A7 w.drew ab 0 (A5 b):=c0;have d2:A7 w.drew ab 2 (A5 jb):=c2;have e0:=z.ao c0;have e2:=z.ao c2;have E:Hid (∀w' O Y,Aq (w.aC #[.func (Fn.func 118) #[A5 ab] #[],.func (Fn.func 119) #[A5 jb] #[],.func (Fn.func 86) #[A5 b] #[]] 50).drew FT w' (λw' d=>AD w' ab b O Y d)->Aq w FT w' (λw' d=>AD w' ab b O Y d)/\A7 w' ab 0 (A5 b)):=λw' O Y W=>by
  obtain⟨c,F,r,l,s⟩:=W;exact⟨Aq.a8 ⟨c,F,r,l,s⟩ aB.o,r.bx.1⟩
 generalize hR:A.ad P=R at I ⊢;obtain⟨R1,R2,R3⟩:=R;dsimp only at I ⊢
 go_enter func74,ntmps74
 go_wp2;refine Cc (λw'=>A7 w' ab 0 (A5 b)/\A7 w' ab 2 (A5 jb)) 13
  (BG [0,1,2,3,4,5,6,7,8,9,10,11,12] [12]) ⟨d0,d2⟩ ?_
 iterate 12 refine Bq ?_
 refine Bx λK hK=>?_;go_simp;refine hK _ _ ⟨e0,e2⟩ (λhS=>?_);refine C8 ?_;go_wp2_with (go_at_call 117;refine I.k ?_;rintro w6 aA;have H:=A1 (E.o _ _ _ aA).1);go_ret;exact⟨rfl,H.o⟩
end
def H7(len:Int)(p q:Pu):Int:=Ka (Cn (Bz p.2.1 len) (Bz q.2.1 len)) (Cr p q)
def Qq{x y:Int}:Cn x y<0↔x<y:=by
 unfold Cn;split
 ·simp_all
 ·split<;>simp_all
def No{x y:Int}:Cn x y=0↔x=y:=by
 unfold Cn;split
 ·constructor<;>intro h<;>omega
 ·split
  ·constructor<;>intro h<;>omega
  ·constructor<;>intro h<;>omega
def A3I{p q:Pu}:Cr p q<0↔(p.1<q.1\/p.1=q.1/\p.2.1<q.2.1):=by
 unfold Cr;by_cases h:Cn p.1 q.1=0
 ·rw[Aa (by simpa using h),Qq];have:=No.1 h;constructor
  ·exact λd=>.inr ⟨this,d⟩
  ·rintro (d|⟨_,d⟩)
   ·omega
   ·exact d
 ·rw[Ae h,Qq];have:¬p.1=q.1:=λe=>h (No.2 e);constructor
  ·exact λd=>.inl d
  ·rintro (d|⟨d,_⟩)
   ·exact d
   ·exact absurd d this
def Nl{len:Int}{p q:Pu}:H7 len p q<0↔Az len p q=true:=by
 unfold H7 Ka Az;rw[decide_eq_true_iff];by_cases h:Cn (Bz p.2.1 len) (Bz q.2.1 len)=0
 ·rw[Aa (by simpa using h),A3I];have:=No.1 h;constructor
  ·exact λd=>.inr ⟨this,d⟩
  ·rintro (d|⟨_,d⟩)
   ·omega
   ·exact d
 ·rw[Ae h,Qq];have:¬Bz p.2.1 len=Bz q.2.1 len:=λe=>h (No.2 e);constructor
  ·exact λd=>.inl d
  ·rintro (d|⟨d,_⟩)
   ·exact d
   ·exact absurd d this
def Fp(len:Int):BS (Az len):=by
 refine⟨λx=>?_,λx y z=>?_,λx y z=>?_⟩
 ·unfold Az;simp
 ·unfold Az;simp only[E0];omega
 ·unfold Az;simp only[E0];omega
def A3F(len:Int)(p q:Pu):H7 len p q = -1\/H7 len p q=0\/H7 len p q=1:=by
 unfold H7 Ka;split
 ·exact Qo _ _
 ·exact VP _ _
def Nn(w:ga)(wb:Nat)(len:Int)(p q:Pu)(hp:AT p.2.1)(hq:AT q.2.1)(hl:1<=len/\len<=4611686018427387904)(hw:A7 w wb 0 (A0 len)):
 Ag 155 #[DA p,DA q,A5 wb] w (Am (A0 (H7 len p q)) λw'=>A3 Ab w w'):=by
 obtain⟨W,z,H⟩:=p;obtain⟨I,E,O⟩:=q;unfold H7 DA;dsimp only at hp hq ⊢;have aN:=A1 (Qk);have OR:=A1 (TI);have aK:=A1 (λd t (ht:AT t)=>O9 d t len ht hl);have aE:=A1 (λd=>P4 d (W,z,H) (I,E,O));unfold DA at aE;dsimp only at aE;obtain⟨x,hx⟩:∃x,Bz z len=x:=⟨_,rfl⟩;obtain⟨y,hy⟩:∃y,Bz E len=y:=⟨_,rfl⟩;have aD:=A1 (λd=>aK.o d z hp);have aA:=A1 (λd=>aK.o d E hq);rw[hx]at aD;rw[hy]at aA;rw[hx,hy];obtain⟨r,hr⟩:∃r,Cn x y=r:=⟨_,rfl⟩;obtain⟨s,hs⟩:∃s,Cr (W,z,H) (I,E,O)=s:=⟨_,rfl⟩;have aB:=A1 (λd=>aN.o d x y);rw[hr]at aB;rw[hs]at aE;rw[hr,hs];have b1:C5 ((w.alloc (.cells #[A0 W,A0 z,A0 H] 113)).alloc (.cells #[A0 I,A0 E,A0 O] 113)) w.heap.size W z H:=(Di _ _ _ (by simp)).trans (BL w _);have b2:C5 ((w.alloc (.cells #[A0 W,A0 z,A0 H] 113)).alloc (.cells #[A0 I,A0 E,A0 O] 113)) (w.heap.size+1) I E O:=by
  have:=BL (w.alloc (.cells #[A0 W,A0 z,A0 H] 113)) (.cells #[A0 I,A0 E,A0 O] 113);simpa[C5] using this
 have k2:A3 Ab w ((w.alloc (.cells #[A0 W,A0 z,A0 H] 113)).alloc (.cells #[A0 I,A0 E,A0 O] 113)):=((A3.I _ w).al _).al _;have sz:((w.alloc (.cells #[A0 W,A0 z,A0 H] 113)).alloc (.cells #[A0 I,A0 E,A0 O] 113)).heap.size=w.heap.size+2:=by simp
 have aL:=A1 b1;have aH:=A1 b2;have aI:=A1 k2;have aO:=A1 sz;have aM:=A1 (k2.ao hw)
 go_enter func155,ntmps155
 go_wp2;generalize ((w.alloc (.cells #[A0 W,A0 z,A0 H] 113)).alloc (.cells #[A0 I,A0 E,A0 O] 113))=w2 at aL aH aI aO aM ⊢;have aF:Hid (∀d,A3 Ab w2 d->A7 d w.heap.size 0 (A0 W)/\A7 d w.heap.size 1 (A0 z)/\A7 d w.heap.size 2 (A0 H)/\A7 d (w.heap.size+1) 0 (A0 I)/\A7 d (w.heap.size+1) 1 (A0 E)/\A7 d (w.heap.size+1) 2 (A0 O)/\A7 d wb 0 (A0 len)):=λd hx=>by
  have e1:=aL.o.an hx (λh=>h);have e2:=aH.o.an hx (λh=>h);exact⟨e1.c0,e1.c1,e1.c2,e2.c0,e2.c1,e2.c2,hx.ao aM.o⟩
 have Y:=aF.o w2.drew (A3.I _ w2).ag;refine Cc (λw'=>A7 w' w.heap.size 0 (A0 W)/\A7 w' w.heap.size 1 (A0 z)/\A7 w' w.heap.size 2 (A0 H)/\A7 w' (w.heap.size+1) 0 (A0 I)/\A7 w' (w.heap.size+1) 1 (A0 E)/\A7 w' (w.heap.size+1) 2 (A0 O)/\A7 w' wb 0 (A0 len)) 16
  (BG [0,1,2,3,5,6,7,8,11,12,4,9,10,13,14,15] [4,9,10,13,14,15]) Y ?_
 iterate 10 refine Bq ?_
 refine Bx λK L=>?_;go_simp;refine(aD.o _).k ?_;rintro w3 rfl;refine L _ _ Y (λhS=>?_);refine Bx λK L=>?_;go_simp;refine(aA.o _).k ?_;rintro w3 rfl;refine L _ _ Y (λhS=>?_);refine Bx λK L=>?_;go_simp;refine(aB.o _).k ?_;rintro w3 rfl;refine L _ _ Y (λhS=>?_);refine Bx λK L=>?_;go_simp;refine(aE.o _).k ?_;rintro w4 aG;have k4:A3 Ab w2 w4:=((A3.I Ab w2).ag).tr aG;refine L _ _ (aF.o w4 k4) (λhS=>?_);have aP:=A1 k4;refine Bx λK L=>?_;go_simp;have hb:(w4.alloc (.cells #[A0 r,A0 s] 3)).heap[w4.heap.size]?=some (.cells #[A0 r,A0 s] 3):=BL w4 _;have k5:A3 Ab w2 (w4.alloc (.cells #[A0 r,A0 s] 3)):=aP.o.al _;refine L _ _ (aF.o _ k5) (λhS=>?_);have aJ:=A1 k5;have EE:=A1 (OR.o (w4.alloc (.cells #[A0 r,A0 s] 3)) w4.heap.size r s (by simp only[A7,World.cell?,hb];rfl) (by simp only[A7,World.cell?,hb];rfl));refine Bx λK L=>?_;go_simp;refine EE.k ?_;rintro w5 rfl;refine L _ _ (aF.o _ aJ.o) (λhS=>?_);refine C8 ?_;go_wp2;go_ret;exact⟨rfl,aI.o.tr aJ.o⟩
end
end Go.Proofs.YtodcnkbblippnaaGreatDoor
