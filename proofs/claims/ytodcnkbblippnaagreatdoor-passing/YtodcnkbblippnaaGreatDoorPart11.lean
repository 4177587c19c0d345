/- Part 11 of a proof: walks of the program. -/
import Derived.Test.YtodcnkbblippnaaGreatDoorPart10
namespace Go.Proofs.YtodcnkbblippnaaGreatDoor
set_option maxRecDepth 100000
set_option maxHeartbeats 32000000
set_option linter.defProp false
open Go.Proofs.Tryz
section
open Go.RowKit
attribute [local go_sem ↓] C5
def K4(w:World)(v:Value)(h:List (List Pu))(FT:Nat->Prop):Prop:=
 ∃d:List Value,d.length=h.length/\w.ownsRow 0 97 1 v h.length d/\(∀k (z:k<d.length) (y:k<h.length),AO w (d[k]'z) (h[k]'y))/\(∀g,v.ownBlock=some g->¬FT g)/\∀x∈d,∀g,x.ownBlock=some g->¬FT g
def C8(l:List (List Pu)):Nat:=(l.map List.length).sum
def J3(x:List Pu)(r:List (List Pu)):C8 (x::r)=x.length+C8 r:=by simp[C8]
def HG(x y:List (List Pu)):C8 (x++y)=C8 x+C8 y:=by simp[C8]
def KU(l:List (List Pu))(k:Nat):C8 (l.take k)<=C8 l:=by
 conv=>rhs;rw[<-EG k l]
 rw[HG];omega
def LO(l:List Pu)(r:List (List Pu))(last:Int)(kept:List Int)(P:PD):PD.aj (l::r) last kept P=if (P.aK (last+1) l).1≠0 then ((P.aK (last+1) l).1,last+1,kept,(P.aK (last+1) l).2) else
 PD.aj r (last+1) (kept++[last+1]) (P.aK (last+1) l).2:=rfl
def Fit.aK{P:PD}{a c m:Nat}(h:Fit P a c m)(n:Int)(l:List Pu):Fit (P.aK n l).2 (a+1) (c+1) (m+17*l.length+4):=by
 have:=h.aI (AJ n) (AB (AJ n)) (BX l);rw[Jg]at this;exact this
def LH{n:Int}(d:0<=n)(h:n<=9223372036854775807):By n:=by
 refine⟨d,h,?_⟩;rw[Jz d,TA];have e:(10:Nat) ^ 19=10000000000000000000:=by decide
 exact M4 19 _ (by rw[e];omega) (by omega)
section
variable {w:World} {ab b xb jb B:Nat} {sv ov lv jo:Value} {A:Ar} {P:PD} {Ft FT:Nat->Prop} {a c m:Nat}
def T6(w:World)(h:AD w ab b A P FT)(n:Int)(E:Value)(l:List Pu)(U:Fit P a c m)(W:BL (a+1) (c+1) m)(Z:By n)(O:Lets B w)(V:F8 w E l)(H:∀p∈l,Cw p)(z:l.length<=134217728):
 Ac 151 #[A4 b,A0 n,E] w λe w'=>
  ((P.aK n l).1≠0/\e=.returned (.tuple #[.pointer none,A0 (P.aK n l).1])\/(P.aK n l).1=0/\∃J,e=.returned (.tuple #[A4 J,A0 0]))/\Al w FT w' (λw' y=>AD w' ab b A (P.aK n l).2 y):=by
 obtain⟨xb,jb,sv,ov,lv,jo,Ft,d,I⟩:=h;refine(Ql w E l d.dk d.lt U W Z O V H z).mono ?_;rintro e w'⟨Y,L⟩;exact⟨Y,d.bM I (d.bN L)⟩
def Fit.cP{A:Ar}{P:PD}{a c m:Nat}(h:Fit P a c m)(l:List Int):Fit (A.ag P l).2.2 (a+2) (c+2) (m+12+8*l.length):=by
 unfold Ar.ag;split
 ·exact h.U (by omega) (by omega) (by omega)
 ·split
  ·exact h.cD _ _
  ·exact h.cD _ _
def SS(A:Ar)(P:PD)(l:List Int):((A.ag P l).2.1.ix.A6=A.ix.A6\/(A.ag P l).2.1.ix.A6=l)/\((A.ag P l).2.1.j.Ah=A.j.Ah\/(A.ag P l).2.1.j.Ah=[]):=by
 unfold Ar.ag;split
 ·exact⟨.inl rfl,.inl rfl⟩
 ·split
  ·exact⟨.inl rfl,.inl rfl⟩
  ·exact⟨.inr rfl,.inr rfl⟩
def AD.bR{n:Nat}{v:Value}{xs:List Value}(h:AD w ab b A P FT)(d:w.ownsRow 0 3 1 v n xs){g:Nat}(z:v.ownBlock=some g):g≠ab:=by
 obtain⟨xb,jb,sv,ov,lv,jo,Ft,y,h2⟩:=h;obtain⟨c,E⟩:=BA d z;exact Cb E y.Ae (by decide)
def Le(w:World)(h:AD w ab b A P FT)(bR:∀k,FT k->k<w.heap.size)(kv:Value)(kept:List Int)(V:Cs w kv kept)(dA:∀g,kv.ownBlock=some g->¬FT g/\B<=g)(fv:Value)(fresh:List (List Pu))(eJ:K4 w fv fresh FT)(cI:∀l∈fresh,(∀p∈l,Cw p)/\l.length<=134217728)(cT:0<=A.A9/\A.A9+fresh.length<=9223372036854775807)(b0:AE (A.j.A9+1))(_hkr:∀x∈kept,AE x)(hF:Fit P a c m)(hl:BL (a+fresh.length+2) (c+2*a+2*fresh.length+4) (m+17*C8 fresh+12*fresh.length+12+8*kept.length))(cY:kept.length+fresh.length<=134217728)(hn:∀n∈A.ix.A6,By n)(bS:∀n∈A.j.Ah,By n)(bY:∀n∈kept,By n)(bI:A.ix.A6.length<=1073741824)(bP:A.j.Ah.length<=1073741824)(hL:Lets B w)(bG:∀k,FT k->B<=k):
 Ac 107 #[A4 ab,kv,fv] w (Ak (A0 (A.ay P kept fresh).1) λw'=>Al w (λk=>FT k\/kv.ownBlock=some k) w' (λw' y=>AD w' ab b (A.ay P kept fresh).2.1 (A.ay P kept fresh).2.2 y)):=by
 obtain⟨i0,hi,dU,eK,eB⟩:=JE;obtain⟨ka,d,rfl,kc1,eG,-⟩:=AR V;obtain⟨vs,vl,bK,cF,cQ,b9⟩:=eJ;obtain⟨fa,b4,rfl,fc1,dM,-⟩:=AR bK;unfold maxLen at eG dM;obtain⟨q1,q2,q3⟩:=PJ A P;have b5:BL a (c+a) m:=⟨by have:=hl.a;omega,by have:=hl.c;omega,by have:=hl.m;omega⟩;have bF:=Fit.ai (A:=A) hF;have aN:A2 A7 w (w.aC #[.func (Fn.func 118) #[A4 ab] #[],.func (Fn.func 150) #[A4 ab] #[]] 50):=(A2.C _ w).ae _;have eA:=A1 (PK _ w.heap.size (h.an aN) (λk W=>Bc (bR k W) aN.Af) (λJ=>EE _ (bR _ J)) (by simp) (Bw w _) hF b5 hn bS bI bP (hL.ao aN) bG);have bX:=A1 (Ld A P kept fresh);obtain⟨R,hR⟩:∃R,A.ay P kept fresh=R:=⟨_,rfl⟩;rw[hR]at bX ⊢;obtain⟨X,hX⟩:∃X,A.ai P=X:=⟨_,rfl⟩;rw[hX]at bX eA q1 q2 q3 bF;have dZ:=A1 aN;have dL:Hid (FT ab):=h.bh.2.2.2.2;have aW:=A1 bK;have bL:=A1 cF;have dP:=A1 cQ;have dJ:=A1 b9;have aP:=A1 V;have aY:=A1 dA;have eC:=A1 hL;have b7:=A1 bG;have dO:=A1 cI;have aL:=A1 hl;have b6:=A1 bF;have a9:Hid ((∀n∈A.ix.A6,By n)/\(∀n∈A.j.Ah,By n)/\(∀n∈kept,By n)/\A.ix.A6.length<=1073741824/\A.j.Ah.length<=1073741824/\AE (A.j.A9+1)):=⟨hn,bS,bY,bI,bP,b0⟩;have eD:Hid (0<=A.A9/\A.A9+fresh.length<=9223372036854775807):=cT;have cU:=A1 cY;have eM:=A1 vl;have cE:=A1 LO;have dB:Hid (∀wx bM bV,Al w FT wx (λw' y=>AD w' ab b bM bV y)->Al w (λk=>FT k\/(Value.slice ka kept.length d).ownBlock=some k) wx (λw' y=>AD w' ab b bM bV y)):=λwx bM bV J=>J.bV λk W=>.inl W;clear hX hR aN bR bK cF cQ b9 V dA hL bG cI hl bF hn bS bY bI bP b0 cT cY h hF b5 _hkr
 go_enter func107,ntmps107
 go_wp2_with (fail);refine eA.m ?_;rintro e w1⟨rfl,b1⟩;have aX:=A1 (b1.aN dZ.o);clear eA b1;obtain⟨dQ,z,aB⟩:=X;dsimp only at bX q1 q2 q3 b6 aX;have eY:=A1 q1;have eZ:=A1 q2;have eR:=A1 q3;clear q1 q2 q3;by_cases J:dQ=0
 case neg=>
  have aE:R=(dQ,z,aB):=by rw[bX.o,Am J]
  subst aE;have hxb:(dQ !=0)=true:=by simpa using J
  go_wp2;go_ret;exact⟨rfl,dB.o _ _ _ aX.o⟩
 case pos=>
 subst J
 have a1:Hid (R=if (PD.aj fresh z.A9 kept aB).1≠0 then ((PD.aj fresh z.A9 kept aB).1,{z with A9:=(PD.aj fresh z.A9 kept aB).2.1},(PD.aj fresh z.A9 kept aB).2.2.2) else
  if (({z with A9:=(PD.aj fresh z.A9 kept aB).2.1}:Ar).ag (PD.aj fresh z.A9 kept aB).2.2.2 (PD.aj fresh z.A9 kept aB).2.2.1).1≠0 then
   ({z with A9:=(PD.aj fresh z.A9 kept aB).2.1}:Ar).ag (PD.aj fresh z.A9 kept aB).2.2.2 (PD.aj fresh z.A9 kept aB).2.2.1
  else (({z with A9:=(PD.aj fresh z.A9 kept aB).2.1}:Ar).ag (PD.aj fresh z.A9 kept aB).2.2.2 (PD.aj fresh z.A9 kept aB).2.2.1).2.1.ba
   (({z with A9:=(PD.aj fresh z.A9 kept aB).2.1}:Ar).ag (PD.aj fresh z.A9 kept aB).2.2.2 (PD.aj fresh z.A9 kept aB).2.2.1).2.2):=by unfold Hid;rw[bX.o,Ad (by simp)]
 obtain⟨S,hS⟩:∃S,PD.aj fresh z.A9 kept aB=S:=⟨_,rfl⟩;have eP:=A1 hS;rw[hS]at a1;clear hS bX;have cJ:Hid (Cs w1 (.slice ka kept.length d) kept):=Aq aP.o λg H=>aX.o.1.Ao g (Av aP.o H) (aY.o g H).1;go_wp2
 go_loopw [1,24] (λv iv wr=>∃(k:Nat) (E:List Int) (aD:PD),iv=A0 k/\k<=fresh.length/\Hid (Cs wr v E/\E.length=kept.length+k/\(∀g,v.ownBlock=some g->(Value.slice ka kept.length d).ownBlock=some g\/w.heap.size<=g)/\(∀x∈E,By x)/\
  Al w (λk=>FT k\/(Value.slice ka kept.length d).ownBlock=some k) wr (λw' y=>AD w' ab b {z with A9:=z.A9+k} aD y/\∀g,v.ownBlock=some g->¬y g)/\Fit aD (a+k) (c+a+k) (m+17*C8 (fresh.take k)+4*k)/\S=PD.aj (fresh.drop k) (z.A9+k) E aD)) (λ_ iv _=>fresh.length-(intOf iv).toNat)
 case atStart=>
  obtain⟨c1,aQ,r1,l1,s1⟩:=aX.o;refine⟨0,kept,aB,rfl,by omega,cJ.o,rfl,λg H=>.inl H,a9.o.2.2.1,⟨c1.U λ_ _ h=>.inl h,aQ,⟨by simpa using r1,λg H J=>?_⟩,l1,λk W=>(s1 k W).imp .inl id⟩,by simpa[C8] using b6.o,by simpa using eP.o.symm⟩;rcases s1 g J with h|h
  ·exact(aY.o g H).1 h
  ·have:=Av aP.o H;omega
 case round=>
  obtain⟨k,E,aD,rfl,W,hI⟩:=hrel;obtain⟨i1,i2,i3,i4,i5,i6,i7⟩:=hI.o;obtain⟨ap,cp,rfl,hcap1,bW,-⟩:=AR i1;unfold maxLen at bW;by_cases aA:k<fresh.length
  ·(have V:k<vs.length:=by have:=eM.o;omega);have dD:∀g,(Value.slice fa fresh.length b4).ownBlock=some g->g<w.heap.size/\¬(FT g\/(Value.slice ka kept.length d).ownBlock=some g):=λg H=>⟨Av aW.o H,λh=>h.elim (dP.o g H) (FL aW.o aP.o (by decide) H)⟩
   obtain⟨c1,aQ,⟨r1,aU⟩,l1,s1⟩:=i5;obtain⟨g,rfl⟩:∃g,fa=some (A8 g 0):=by
    obtain⟨a',c',e,-,-,hz,-⟩:=AR aW.o;cases e;exact hz (by omega)
   have d0:A5 w g k (vs[k]'V):=Be aW.o rfl (E4 V);have d1:=c1.bq d0 (dD g rfl).2;have aF:AO wr (vs[k]'V) (fresh[k]'aA):=Aq (bL.o k V aA) λI H=>c1.Ao I (Av (bL.o k V aA) H) λh=>h.elim (dJ.o _ (Cx V) I H) (FL (bL.o k V aA) aP.o (by decide) H);have a2:=dO.o _ (Cx aA);have bQ:fresh.take (k+1)=fresh.take k++[fresh[k]'aA]:=D9 aA;have bT:=EH aA;have dN:=KU fresh (k+1);obtain⟨xv,cS⟩:∃xv,(vs[k]'V)=xv:=⟨_,rfl⟩;rw[cS]at d0 d1 aF;obtain⟨pl,cM⟩:∃pl,(fresh[k]'aA)=pl:=⟨_,rfl⟩;rw[cM]at aF a2 bQ bT;obtain⟨pa,aM,rfl,pc1,eF,-⟩:=AR aF;unfold maxLen at eF;obtain⟨L,a3⟩:∃L,z.A9+(k:Int)=L:=⟨_,rfl⟩;(have hLr:0<=L/\L+1<=9223372036854775807:=by have:=eD.o;rw[<-a3,eR.o];omega);rw[a3]at r1 i7;rw[bT,cE.o]at i7;obtain⟨e0,e3,z3,hab,cZ⟩:=r1.bh;dsimp only at e3;(have ew:wrap64 (L+1)=L+1:=by unfold wrap64;omega);(have ew2:IntKind.i64.wrap (L+1)=L+1:=by simp[IntKind.wrap,IntKind.bits,IntKind.signed];omega);have r5:AD (wr.sC ab 3 (A0 (L+1))) ab b {z with A9:=L+1} aD aQ:=r1.eg (L+1);have aR:FT ab\/(Value.slice ka kept.length d).ownBlock=some ab:=.inl dL.o;have c5:A2 (λk=>FT k\/(Value.slice ka kept.length d).ownBlock=some k) w (wr.sC ab 3 (A0 (L+1))):=c1.a1 (p:=(A8 ab 3)) (λ_=>aR) _;have bN:=r5.an (A2.C A7 (wr.sC ab 3 (A0 (L+1)))).I;have a5:∀I,(Value.slice ap E.length cp).ownBlock=some I->I≠ab:=λI H=>r1.bR i1 H;have k5:A2 (One ab) wr (wr.sC ab 3 (A0 (L+1))).drew:=((A2.C (One ab) wr).ak (b:=ab) rfl 3 _).I;have bB:AO (wr.sC ab 3 (A0 (L+1))).drew (.slice pa pl.length aM) pl:=Aq aF λI H=>k5.Ao I (Av aF H) λe=>by
    obtain⟨xb,jb,sv,ov,lv,jo,Ft,hv,_⟩:=r1;obtain⟨c',dY⟩:=BA aF H;exact Cb dY hv.Ae (by decide) e
   have a4:Cs (wr.sC ab 3 (A0 (L+1))).drew (.slice ap E.length cp) E:=Aq i1 λI H=>k5.Ao I (Av i1 H) (a5 I H);have l5:∀k,aQ k->k<(wr.sC ab 3 (A0 (L+1))).drew.heap.size:=λk W=>Bc (l1 k W) k5.Af;have cP:∀k,(FT k\/(Value.slice ka kept.length d).ownBlock=some k)->B<=k:=λk W=>W.elim (b7.o k) λh=>(aY.o k h).2
   have cD:=eC.o.Ap c5.I cP;have aS:BL (a+k+1) (c+a+k+1) (m+17*C8 (fresh.take k)+4*k):=by
    have:=aL.o;have h2:=KU fresh k;exact⟨by have:=this.a;omega,by have:=this.c;omega,by have:=this.m;omega⟩
   have aJ:=A1 (T6 _ bN (L+1) _ pl i6 aS (LH (by omega) (by omega)) cD bB.rd a2.1 a2.2);have bO:=A1 (i6.aK (L+1) pl);obtain⟨Y,hY⟩:∃Y,aD.aK (L+1) pl=Y:=⟨_,rfl⟩;rw[hY]at i7 aJ bO;(have dI:Hid (17*C8 (fresh.take (k+1))+4*(k+1)=17*C8 (fresh.take k)+4*k+17*pl.length+4):=by unfold Hid;rw[bQ,HG];simp[C8];omega);have dX:=A1 a3;have dH:=A1 i2;have eW:=A1 i3;have eV:=A1 i4;have dG:=A1 i7;have dF:=A1 c5.I;have eE:Hid (∀k,aQ k->(FT k\/(Value.slice ka kept.length d).ownBlock=some k)\/w.heap.size<=k):=s1;have b8:=A1 aU;have bJ:=A1 a4;(have cH:wr.heap.size=(wr.sC ab 3 (A0 (L+1))).drew.heap.size:=by show _=(wr.setCell _ _).heap.size;simp);have SZ5:=A1 cH;obtain⟨f0,f3,-,-,-⟩:=bN.bh;dsimp only at f3;(have dT:(k:Int)<(fresh.length:Int):=by omega);have hk0:=C3 k;clear hI i1 i2 i3 i4 i6 i7 c1 r1 aU l1 s1 d0 aF a2 bQ bT dN cS cM a3 r5 c5 bN a5 k5 bB a4 l5 cP cD aS hY dD V aR cZ cH;obtain⟨bZ,aZ⟩:=Y;dsimp only at aJ dG bO
   have Z:Hid (∀O,Al (wr.sC ab 3 (A0 (L+1))).drew aQ O (λw' y=>AD w' ab b {z with A9:=L+1} aZ y)->
    (A5 O ab 0 (A4 b)/\A5 O ab 3 (A0 (L+1)))/\Al w (λk=>FT k\/(Value.slice ka kept.length d).ownBlock=some k) O (λw' y=>AD w' ab b {z with A9:=L+1} aZ y)):=λO h6=>by
    obtain⟨_,cN,bH,_⟩:=h6;exact⟨⟨bH.bh.1,bH.bh.2.1⟩,Al.aZ dF.o eE.o ⟨‹_›,cN,bH,‹_›⟩⟩
   by_cases hy:bZ=0
   case neg=>
    (have a0:S=(bZ,L+1,E,aZ):=by rw[dG.o,Am hy]);(have aE:R=(bZ,{z with A9:=L+1},aZ):=by rw[a1.o,a0,Am hy]);subst aE;have aO:Hid (Ac 151 #[A4 b,A0 (L+1),.slice pa pl.length aM] (wr.sC ab 3 (A0 (L+1))).drew (Ak (.tuple #[.pointer none,A0 bZ]) λw'=>Al (wr.sC ab 3 (A0 (L+1))).drew aQ w' (λw' y=>AD w' ab b {z with A9:=L+1} aZ y))):=by
     refine aJ.m ?_;rintro e w'⟨⟨_,h2⟩|⟨h1,_⟩,h3⟩
     ·exact⟨h2,h3⟩
     ·exact absurd h1 hy
    (have hyb:(bZ !=0)=true:=by simpa using hy);clear a0 aJ;go_wp2;refine BH (λw'=>A5 w' ab 0 (A4 b)/\A5 w' ab 3 (A0 (L+1))) 14
     (Bj [0,1,2,3,4,5,6,7,8,9,10,11,12,13] [9]) ⟨f0,f3⟩ ?_
    iterate 9 (refine B5 ?_;(try simp only[An]))
    refine B7 λK hK=>?_;go_simp;refine aO.m ?_;rintro e O⟨rfl,hI⟩;refine hK _ _ (Z.o O hI).1 (λhS=>?_);have eU:=A1 (Z.o O hI).2;clear hK K hS hI aO Z
    (try simp only[An])
    iterate 4 (refine B5 ?_;(try simp only[An]))
    refine Bd ?_;simp only[BD,BC];go_wp2;go_ret;exact⟨rfl,eU.o⟩
   case pos=>
    subst hy;(have eX:Hid (S=PD.aj (fresh.drop (k+1)) (L+1) (E++[L+1]) aZ):=by unfold Hid;rw[dG.o,Ad (by simp)]);have aO:Hid (Ac 151 #[A4 b,A0 (L+1),.slice pa pl.length aM] (wr.sC ab 3 (A0 (L+1))).drew λe w'=>∃gb,e=.returned (.tuple #[A4 gb,A0 0])/\Al (wr.sC ab 3 (A0 (L+1))).drew aQ w' (λw' y=>AD w' ab b {z with A9:=L+1} aZ y)):=by
     refine aJ.m ?_;rintro e w'⟨⟨h1,_⟩|⟨_,gb,h2⟩,h3⟩
     ·exact absurd rfl h1
     ·exact⟨gb,h2,h3⟩
    clear aJ dG;go_wp2;refine BH (λw'=>A5 w' ab 0 (A4 b)/\A5 w' ab 3 (A0 (L+1))) 14
     (Bj [0,1,2,3,4,5,6,7,8,9,10,11,12,13] [9]) ⟨f0,f3⟩ ?_
    iterate 9 (refine B5 ?_;(try simp only[An]))
    refine B7 λK hK=>?_;go_simp;refine aO.m ?_;rintro e O⟨gb,rfl,hI⟩;refine hK _ _ (Z.o O hI).1 (λhS=>?_);have g63:=(Z.o O hI).1.2;have cA:=A1 hI;clear hK K hS hI aO Z
    (try simp only[An])
    iterate 4 (refine B5 ?_;(try simp only[An]))
    refine Bd ?_;simp only[BD,BC];have bE:=A1 cA.o.1;have cV:Hid (Cs O (.slice ap E.length cp) E):=Aq bJ.o λI H=>bE.o.Ao I (Av bJ.o H) (b8.o I H);have cO:Hid ((O.aC #[A0 (L+1)] 3).ownsRow 0 3 1 (.slice ap E.length cp) E.length (CI E)):=Aq cV.o λI H=>((A2.C A7 O).ae _).Ao I (Av cV.o H) (λh=>h)
    have eH:=A1 (Src.aW (size:=1) (B:=O.heap.size) underlying26 O #[A0 (L+1)] 3 (by simp) 1 1 rfl (GH [L+1]));go_wp2_with (at_builtin;refine C7 rfl (.tmp 51) (.tmp 56) 26 26 rfl 3 i0 _ 1 8 underlying26 hi dU eK eB rfl (by decide) (.slice ap E.length cp) E.length (CI E) (by rfl) cO.o _ 1 _ (by rfl) eH.o (by have:=dH.o;have:=cU.o;omega) ?_;intro a8 dE w8 hA;have eS:=A1 hA;clear hA);go_roundw
    case rel=>
     have hA:=eS.o;have k7:A2 A7 O (O.aC #[A0 (L+1)] 3):=(A2.C _ O).ae _;have aI:=hA.Aj (S:=λk=>(Value.slice ap E.length cp).ownBlock=some k) λ_ h=>h;have k8:A2 (λk=>(Value.slice ap E.length cp).ownBlock=some k) O w8:=(k7.U λ_ _ h=>h.elim).tr aI;obtain⟨_,cN,r2,l2,s2⟩:=cA.o;have bC:∀I,(Value.slice ap E.length cp).ownBlock=some I->¬cN I:=λI H J=>by
      rcases s2 I J with h|h
      ·exact b8.o I H h
      ·have:=Av bJ.o H;omega
     have r8:AD w8 ab b {z with A9:=L+1} aZ cN:=r2.aq (k8.au l2 λk W J=>bC k J W) k8.Af;have bA:∀I,(Value.slice a8 (E.length+1) dE).ownBlock=some I->(Value.slice ap E.length cp).ownBlock=some I\/O.heap.size<=I:=λI H=>by
      rcases hA.BJ with h|h
      ·rw[h]at H;exact .inl H
      ·rw[h]at H;cases H;exact .inr k7.Af
     have eN:A2 (λk=>aQ k\/(Value.slice ap E.length cp).ownBlock=some k) (wr.sC ab 3 (A0 (L+1))).drew w8:=(bE.o.U λ_ _ h=>.inl h).As k8 λ_ h _=>.inr h;have a7:∀I,(Value.slice ap E.length cp).ownBlock=some I->(Value.slice ka kept.length d).ownBlock=some I\/w.heap.size<=I:=eW.o;have c8:A2 (λk=>FT k\/(Value.slice ka kept.length d).ownBlock=some k) w w8:=dF.o.As eN λx J hlt=>by
      rcases J with J|J
      ·exact(eE.o x J).resolve_right (by omega)
      ·exact .inr ((a7 x J).resolve_right (by omega))
     (have eL:z.A9+((k+1:Nat):Int)=L+1:=by have:=dX.o;omega);refine⟨k+1,E++[L+1],aZ,by go_num,by omega,?_,by have:=dH.o;simp;omega,λI H=>?_,λx J=>?_,⟨c8,cN,⟨by rw[eL];exact r8,λI H J=>?_⟩,λk W=>Bc (l2 k W) k8.Af,λk W=>?_⟩,?_,by rw[eL];exact eX.o⟩
     ·(have e:(E++[L+1]).length=E.length+1:=by simp);unfold Cs;rw[Hi,e];exact hA.AA
     ·rcases bA I H with h|h
      ·exact a7 I h
      ·have:=c8.Af;have:=dF.o.Af;have:=bE.o.Af;exact .inr (by omega)
     ·rcases B3.1 J with J|J
      ·exact eV.o x J
      ·simp at J;subst J;exact LH (by omega) (by omega)
     ·rcases bA I H with h|h
      ·exact bC I h J
      ·have:=l2 I J;omega
     ·rcases s2 k W with h|h
      ·exact eE.o k h
      ·have:=dF.o.Af;exact .inr (by omega)
     ·have h1:=bO.o;have h2:=dI.o;exact h1.U (by omega) (by omega) (by omega)
    case measure=>simp[intOf];omega
  ·(obtain rfl:k=fresh.length:=by omega);rw[Fz]at i7;rw[CP]at i6;have a0:S=(0,z.A9+(fresh.length:Int),E,aD):=i7;subst a0;have aK:Hid (R=if (({z with A9:=z.A9+(fresh.length:Int)}:Ar).ag aD E).1≠0 then ({z with A9:=z.A9+(fresh.length:Int)}:Ar).ag aD E else (({z with A9:=z.A9+(fresh.length:Int)}:Ar).ag aD E).2.1.ba (({z with A9:=z.A9+(fresh.length:Int)}:Ar).ag aD E).2.2):=by
    unfold Hid;rw[a1.o,Ad (by simp)]
   obtain⟨aV,aI⟩:∃aV:Ar,({z with A9:=z.A9+(fresh.length:Int)}:Ar)=aV:=⟨_,rfl⟩;(have b3:aV.ix=A.ix:=by rw[<-aI];exact eY.o);(have ej:aV.j=A.j:=by rw[<-aI];exact eZ.o);rw[aI]at aK i5;obtain⟨c1,aQ,⟨r1,aU⟩,l1,s1⟩:=i5;obtain⟨n1,n2,n3,n4,n5,n6⟩:=a9.o;have bD:∀k,(FT k\/(Value.slice ka kept.length d).ownBlock=some k)->B<=k:=λk W=>W.elim (b7.o k) λh=>(aY.o k h).2
   have cX:=eC.o.Ap c1 bD;have U:=aL.o;(have a6:E.length<=134217728:=by have:=cU.o;omega);have b2:=A1 (SM wr r1 (.slice ap E.length cp) E (Cs.rd i1) (λg H=>aU g H) (by rw[ej];exact n6) (λx J=>by have:=i4 x J;exact⟨by have:=this.1;omega,this.2.1⟩) a6 i6 ⟨by have:=U.a;omega,by have:=U.c;omega,by have:=U.m;omega⟩ cX);have aT:Hid (Fit (aV.ag aD E).2.2 (a+fresh.length+2) (c+a+fresh.length+2) (m+17*C8 fresh+4*fresh.length+12+8*E.length)):=i6.cP E;have bU:=SS aV aD E;have aG:Hid ((∀n∈(aV.ag aD E).2.1.ix.A6,By n)/\(aV.ag aD E).2.1.ix.A6.length<=1073741824):=by
    rcases bU.1 with h|h
    ·rw[h,b3];exact⟨n1,n4⟩
    ·rw[h];exact⟨i4,by omega⟩
   have aH:Hid ((∀n∈(aV.ag aD E).2.1.j.Ah,By n)/\(aV.ag aD E).2.1.j.Ah.length<=1073741824):=by
    rcases bU.2 with h|h
    ·rw[h,ej];exact⟨n2,n5⟩
    ·rw[h];exact⟨λn hn=>by simp at hn,by simp⟩
   obtain⟨T,hT⟩:∃T,aV.ag aD E=T:=⟨_,rfl⟩;rw[hT]at aK b2 aT aG aH;have Z:Hid (∀w2 bM bV,Al wr (λk=>aQ k\/(Value.slice ap E.length cp).ownBlock=some k) w2 (λw' y=>AD w' ab b bM bV y)->Al w (λk=>FT k\/(Value.slice ka kept.length d).ownBlock=some k) w2 (λw' y=>AD w' ab b bM bV y)):=λw2 bM bV h2=>
    Al.aZ c1 (λk W=>W.elim (λh=>s1 k h) λh=>(i3 k h).imp (λh=>.inr h) id) h2
   have dS:Hid (∀w2,A2 (λk=>FT k\/(Value.slice ka kept.length d).ownBlock=some k) w w2->Lets B w2):=λw2 h2=>eC.o.Ap h2 bD;have dH:=A1 i2;(have dT:¬((fresh.length:Int)<(fresh.length:Int)):=by omega);obtain⟨eI,eQ,eO⟩:=T;dsimp only at aK b2 aT aG aH;clear hI i1 i2 i3 i4 i6 i7 aI b3 ej c1 r1 aU l1 s1 n1 n2 n3 n4 n5 n6 bD cX U bU hT a1 eP cE a6;by_cases ht:eI=0
   case neg=>
    (have aE:R=(eI,eQ,eO):=by rw[aK.o,Am ht]);subst aE;(have htb:(eI !=0)=true:=by simpa using ht);go_wp2_with (go_at_call 152;refine b2.m ?_;rintro e O⟨rfl,cG⟩;have dR:=A1 (Z.o O _ _ cG);clear cG);go_ret;exact⟨rfl,dR.o⟩
   case pos=>
    subst ht;(have aE:R=eQ.ba eO:=by rw[aK.o,Ad (by simp)]);have cB:=A1 aE;clear aE aK;go_wp2_with (fail);refine b2.m ?_;rintro e O⟨rfl,dC⟩;have dW:=Z.o O _ _ dC;obtain⟨c6,eT,r6,l6,s6⟩:=dW;have k7:A2 A7 O (O.aC #[.func (Fn.func 150) #[A4 ab] #[],.func (Fn.func 86) #[A4 b] #[]] 50):=(A2.C _ O).ae _;have U:=aL.o;have dV:=A1 (Sj _ O.heap.size (r6.an k7) (λk W=>Bc (l6 k W) k7.Af) (λJ=>EE _ (l6 _ J)) (by simp) (Bw O _) aT.o ⟨by have:=U.a;omega,by have:=U.c;omega,by have:=U.m;have:=dH.o;omega⟩ aG.o.1 aH.o.1 aG.o.2 aH.o.2 ((dS.o O c6).ao k7));rw[<-cB.o]at dV;have g0:=r6.bh.1;have cL:Hid (∀w9,Al (O.aC #[.func (Fn.func 150) #[A4 ab] #[],.func (Fn.func 86) #[A4 b] #[]] 50) eT w9 (λw' y=>AD w' ab b R.2.1 R.2.2 y)->Al w (λk=>FT k\/(Value.slice ka kept.length d).ownBlock=some k) w9 (λw' y=>AD w' ab b R.2.1 R.2.2 y)):=λw9 h9=>Al.aZ c6 s6 (h9.aN k7);clear cB;obtain⟨Z1,Z2,Z3⟩:=R;dsimp only at dV cL ⊢;clear dC c6 r6 l6 s6 k7 U b2 Z;go_wp2_with (go_at_call 117;refine dV.m ?_;rintro e w9⟨rfl,cC⟩;have dK:=A1 (cL.o w9 cC);clear cC);go_ret;exact⟨rfl,dK.o⟩
end
section
variable {w w':World} {ab b xb jb B:Nat} {sv ov lv jo:Value} {A:Ar} {P P':PD} {Ft FT:Nat->Prop} {a c m:Nat} {J':Jn}
def Bu.jd(h:Bu w ab b xb jb sv ov lv jo A P Ft):JD w jb b A.j P (λk=>Ft k\/C9 jb lv jo k):=
 ⟨lv,jo,Ft,h.jn,h.dk,h.lt,λk d=>h.Cg k (.inr (.inr (.inr (.inr d)))),λ_ h=>h⟩
def Bu.dM(h:Bu w ab b xb jb sv ov lv jo A P Ft)(z:∀k,Ft k\/El ab xb jb sv ov lv jo k->FT k)(hI:Al w (λk=>Ft k\/C9 jb lv jo k) w' (λw' I=>JD w' jb b J' P' I)):Al w FT w' (λw' I=>AD w' ab b {A with j:=J'} P' I):=by
 obtain⟨Y,F2,⟨lv',U,J,h1,Z,h3,h4,V⟩,hl,W⟩:=hI;have y:∀k,(k=ab\/k=xb\/sv.ownBlock=some k\/ov.ownBlock=some k)->k<w.heap.size/\¬Ft k/\¬C9 jb lv jo k:=λk d=>by
  rcases d with rfl|rfl|d|d
  ·exact⟨h.Ae.lt,h.Cg _ (.inl rfl),λH=>(h.E0 _ H).1 rfl⟩
  ·exact⟨h.ix.lt,h.Cg _ (.inr (.inl rfl)),λH=>(h.E0 _ H).2 rfl⟩
  ·exact⟨h.A6.lt d,h.Cg k (.inr (.inr (.inl d))),(h.DP k d).2.2⟩
  ·exact⟨h.AS.lt d,h.Cg k (.inr (.inr (.inr (.inl d)))),(h.Ep k d).2.2⟩
 have Ap:∀k,(k=ab\/k=xb\/sv.ownBlock=some k\/ov.ownBlock=some k)->w'.heap[k]?=w.heap[k]?:=λk d=>Y.Ao k (y k d).1 λH=>H.elim (y k d).2.1 (y k d).2.2;have out:∀k,(k=ab\/k=xb\/sv.ownBlock=some k\/ov.ownBlock=some k)->¬J k/\¬C9 jb lv' U k:=λk d=>
  ⟨λH=>(W k (V k (.inl H))).elim (λO=>O.elim (y k d).2.1 (y k d).2.2) λO=>by have:=(y k d).1;omega,
   λH=>(W k (V k (.inr H))).elim (λO=>O.elim (y k d).2.1 (y k d).2.2) λO=>by have:=(y k d).1;omega⟩
 have L:Bu w' ab b xb jb sv ov lv' U {A with j:=J'} P' J:=by
  refine⟨(Ap ab (.inl rfl)).trans h.Ae,(Ap xb (.inr (.inl rfl))).trans h.ix,h.A6.aq λg E=>Ap g (.inr (.inr (.inl E))),h.AS.aq λg E=>Ap g (.inr (.inr (.inr E))),h1,Z,h3,λk d=>?_,λg E=>?_,λg E=>?_,λk d=>?_⟩
  ·rcases d with d|d|d|d|d
   ·exact(out k (.inl d)).1
   ·exact(out k (.inr (.inl d))).1
   ·exact(out k (.inr (.inr (.inl d)))).1
   ·exact(out k (.inr (.inr (.inr d)))).1
   ·exact h4 k d
  ·exact⟨(h.DP g E).1,(h.DP g E).2.1,(out g (.inr (.inr (.inl E)))).2⟩
  ·exact⟨(h.Ep g E).1,(h.Ep g E).2.1,(out g (.inr (.inr (.inr E)))).2⟩
  ·exact⟨λe=>(out ab (.inl rfl)).2 (e ▸ d),λe=>(out xb (.inr (.inl rfl))).2 (e ▸ d)⟩
 have sub:∀k,(Ft k\/C9 jb lv jo k)->FT k:=λk d=>d.elim (λh=>z k (.inl h)) λh=>z k (.inr (.inr (.inr (.inr (.inr h)))));refine L.bj Y (λk _ d=>sub k d) (λk d=>(W k (V k (.inl d))).imp (sub k) id) λk d=>?_;rcases d with d|d|d|d|d
 ·exact .inl (z k (.inr (.inl d)))
 ·exact .inl (z k (.inr (.inr (.inl d))))
 ·exact .inl (z k (.inr (.inr (.inr (.inl d)))))
 ·exact .inl (z k (.inr (.inr (.inr (.inr (.inl d))))))
 ·exact(W k (V k (.inr d))).imp (sub k) id
def SR(w:World)(p:Pu)(h:AD w ab b A P FT)(aO:∀k,FT k->k<w.heap.size)(hp:Cw p)(hn:A.j.AA=none->By (A.j.A9+1)/\AE (A.j.A9+1)/\AE A.j.Ag)(aN:A.j.Ah.length<=1073741824)(hL:Lets B w)(aE:∀k,FT k->B<=k)(hF:Fit P a c m)(hl:BL (a+1) (c+1) (m+33)):
 Ac 105 #[A4 ab,CH p] w (Ak (.tuple #[.bool (A.aa P p).1,A0 (A.aa P p).2.1]) λw'=>Al w FT w' (λw' E=>AD w' ab b (A.aa P p).2.2.1 (A.aa P p).2.2.2 E)):=by
 obtain⟨z,y,d⟩:=p;unfold CH;dsimp only
 obtain⟨s1,s2,s3⟩:=HJ A P;have aM:Bk (w.aC #[A0 z,A0 y,A0 d] 113) w.heap.size z y d:=Bw w _;have k0:A2 A7 w (w.aC #[A0 z,A0 y,A0 d] 113):=(A2.C _ w).ae _;have ST:=A1 (L0 _ (h.an k0))
 have aD:Hid (A.aa P (z,y,d)=if (A.ah P).1≠0 then (false,(A.ah P).1,(A.ah P).2.1,(A.ah P).2.2) else
  (((A.ah P).2.1.j.aa (A.ah P).2.2 (z,y,d)).1,((A.ah P).2.1.j.aa (A.ah P).2.2 (z,y,d)).2.1,{ (A.ah P).2.1 with j:=((A.ah P).2.1.j.aa (A.ah P).2.2 (z,y,d)).2.2.1},((A.ah P).2.1.j.aa (A.ah P).2.2 (z,y,d)).2.2.2)):=rfl
 have Z:=hF.ah (A:=A);generalize hR:A.aa P (z,y,d)=R at aD ⊢;generalize hX:A.ah P=X at aD ST s1 s2 s3 Z;obtain⟨aF,I,U⟩:=X;dsimp only at aD ST s1 s2 s3 Z;have sz:w.heap.size<(w.aC #[A0 z,A0 y,A0 d] 113).heap.size:=by simp
 have aJ:Hid (∀L,Al (w.aC #[A0 z,A0 y,A0 d] 113) FT L (λw' E=>AD w' ab b I U E)->∃jb,A5 L ab 2 (A4 jb)/\Bk L w.heap.size z y d/\
  Ac 148 #[A4 jb,.agg #[A0 z,A0 y,A0 d]] L.drew (Ak (.tuple #[.bool (I.j.aa U (z,y,d)).1,A0 (I.j.aa U (z,y,d)).2.1]) λw'=>
   (A5 w' ab 2 (A4 jb)/\Bk w' w.heap.size z y d)/\Al w FT w' (λw' E=>AD w' ab b {I with j:=(I.j.aa U (z,y,d)).2.2.1} (I.j.aa U (z,y,d)).2.2.2 E))):=λL h2=>by
  obtain⟨c2,aR,⟨xb,jb,sv,ov,lv,jo,Ft,hv,O⟩,l2,q2⟩:=h2;have kd:A2 A7 L L.drew:=(A2.C _ L).I;have aB:=hv.an kd;have np:¬FT w.heap.size:=λH=>EE _ (aO _ H);have aQ:¬aR w.heap.size:=λH=>by rcases q2 _ H with h|h;exact np h;omega
  have J:=aM.Ap c2 np;refine⟨jb,hv.Ae.c2,J,(R5 L.drew (z,y,d) aB.jd hp (by rw[s2];exact hn) (by rw[s2];exact aN) (((hL.ao k0).Ap c2 aE).ao kd) Z hl).mono ?_⟩;rintro e w'⟨rfl,W⟩;have aA:∀k,(Ft k\/C9 jb lv jo k)->aR k:=λk hk=>hk.elim (λh=>O k (.inl h)) λh=>O k (.inr (.inr (.inr (.inr (.inr h)))));refine⟨rfl,⟨(aB.Ae.Ap W.1 λH=>H.elim (hv.Cg _ (.inl rfl)) λH=>(hv.E0 _ H).1 rfl).c2,J.I.Ap W.1 λH=>aQ (aA _ H)⟩,?_⟩;exact((Al.aZ (c2.I) q2 (aB.dM O W)).aN k0)
 have aH:Hid (∀wx aI aP,Al (w.aC #[A0 z,A0 y,A0 d] 113) FT wx (λw' E=>AD w' ab b aI aP E)->Al w FT wx (λw' E=>AD w' ab b aI aP E)):=λwx aI aP H=>H.aN k0;by_cases H:aF=0
 case neg=>
  have V:R=(false,aF,I,U):=by rw[aD.o,Am H]
  subst V;have hxb:(aF !=0)=true:=by simpa using H
  go_enter func105,ntmps105
  go_wp2_with (go_at_call 118;refine ST.m ?_;rintro e L⟨rfl,W⟩;have aK:=A1 (aH.o _ _ _ W));go_ret2;exact⟨rfl,aK.o⟩
 case pos=>
  subst H;have V:R=((I.j.aa U (z,y,d)).1,(I.j.aa U (z,y,d)).2.1,{I with j:=(I.j.aa U (z,y,d)).2.2.1},(I.j.aa U (z,y,d)).2.2.2):=by rw[aD.o,Ad (by simp)]
  generalize hY:I.j.aa U (z,y,d)=Y at aJ V;obtain⟨Y0,Y1,Y2,Y3⟩:=Y;dsimp only at aJ V;subst V
  go_enter func105,ntmps105
  go_wp2_with (fail);refine ST.m ?_;rintro e L⟨rfl,W⟩;obtain⟨jb,aG,J,aS⟩:=aJ.o L W;have aL:=A1 aS;have d2:A5 L.drew ab 2 (A4 jb):=aG;have e0:=J.I.c0;have e1:=J.I.c1;have e2:=J.I.c2;go_wp2;refine BH (λw'=>A5 w' ab 2 (A4 jb)/\A5 w' w.heap.size 0 (A0 z)/\A5 w' w.heap.size 1 (A0 y)/\A5 w' w.heap.size 2 (A0 d)) 8
   (Bj [0,1,2,3,4,5,6,7] [5]) ⟨d2,e0,e1,e2⟩ ?_
  iterate 5 (refine B5 ?_;(try simp only[An]))
  refine B7 λK hK=>?_;go_simp;refine aL.m ?_;rintro e w3⟨rfl,⟨e4,eb⟩,W⟩;refine hK _ _ ⟨e4,eb.c0,eb.c1,eb.c2⟩ (λhS=>?_);have aK:=A1 W
  (try simp only[An])
  iterate 2 (refine B5 ?_;(try simp only[An]))
  refine Bd ?_;simp only[BD,BC];go_wp2;go_ret2;exact⟨rfl,aK.o⟩
end
def Fw(len:Int)(p q:Pu):Int:=Gw (Bo (AY p.2.1 len) (AY q.2.1 len)) (BI p q)
def K1{x y:Int}:Bo x y<0↔x<y:=by
 unfold Bo;split
 ·simp_all
 ·split<;>simp_all
def Iq{x y:Int}:Bo x y=0↔x=y:=by
 unfold Bo;split
 ·constructor<;>intro h<;>omega
 ·split
  ·constructor<;>intro h<;>omega
  ·constructor<;>intro h<;>omega
def Si{p q:Pu}:BI p q<0↔(p.1<q.1\/p.1=q.1/\p.2.1<q.2.1):=by
 unfold BI;by_cases h:Bo p.1 q.1=0
 ·rw[Ad (by simpa using h),K1];have:=Iq.1 h;constructor
  ·exact λd=>.inr ⟨this,d⟩
  ·rintro (d|⟨_,d⟩)
   ·omega
   ·exact d
 ·rw[Am h,K1];have:¬p.1=q.1:=λe=>h (Iq.2 e);constructor
  ·exact λd=>.inl d
  ·rintro (d|⟨d,_⟩)
   ·exact d
   ·exact absurd d this
def Se{len:Int}{p q:Pu}:Fw len p q<0↔AV len p q=true:=by
 unfold Fw Gw AV;rw[decide_eq_true_iff];by_cases h:Bo (AY p.2.1 len) (AY q.2.1 len)=0
 ·rw[Ad (by simpa using h),Si];have:=Iq.1 h;constructor
  ·exact λd=>.inr ⟨this,d⟩
  ·rintro (d|⟨_,d⟩)
   ·omega
   ·exact d
 ·rw[Am h,K1];have:¬AY p.2.1 len=AY q.2.1 len:=λe=>h (Iq.2 e);constructor
  ·exact λd=>.inl d
  ·rintro (d|⟨d,_⟩)
   ·exact d
   ·exact absurd d this
def F4(len:Int):BS (AV len):=by
 refine⟨λx=>?_,λx y z=>?_,λx y z=>?_⟩
 ·unfold AV;simp
 ·unfold AV;simp only[De];omega
 ·unfold AV;simp only[De];omega
def Sd(len:Int)(p q:Pu):Fw len p q = -1\/Fw len p q=0\/Fw len p q=1:=by
 unfold Fw Gw;split
 ·exact JZ _ _
 ·exact MS _ _
def Sf(w:World)(wb:Nat)(len:Int)(p q:Pu)(hp:AE p.2.1)(hq:AE q.2.1)(hl:1<=len/\len<=4611686018427387904)(hw:A5 w wb 0 (A0 len)):
 Ac 155 #[CH p,CH q,A4 wb] w (Ak (A0 (Fw len p q)) λw'=>A2 A7 w w'):=by
 obtain⟨O,z,H⟩:=p;obtain⟨I,E,L⟩:=q;unfold Fw CH;dsimp only at hp hq ⊢;have aN:=A1 (JX);have aM:=A1 (LD);have aJ:=A1 (λd t (ht:AE t)=>IX d t len ht hl);have aB:=A1 (λd=>Ji d (O,z,H) (I,E,L));unfold CH at aB;dsimp only at aB;obtain⟨x,W⟩:∃x,AY z len=x:=⟨_,rfl⟩;obtain⟨y,hy⟩:∃y,AY E len=y:=⟨_,rfl⟩;have aA:=A1 (λd=>aJ.o d z hp);have Y:=A1 (λd=>aJ.o d E hq);rw[W]at aA;rw[hy]at Y;rw[W,hy];obtain⟨r,hr⟩:∃r,Bo x y=r:=⟨_,rfl⟩;obtain⟨s,hs⟩:∃s,BI (O,z,H) (I,E,L)=s:=⟨_,rfl⟩;have Z:=A1 (λd=>aN.o d x y);rw[hr]at Z;rw[hs]at aB;rw[hr,hs];have b1:Bk ((w.alloc (.cells #[A0 O,A0 z,A0 H] 113)).alloc (.cells #[A0 I,A0 E,A0 L] 113)) w.heap.size O z H:=(DD _ _ _ (by simp)).trans (Bw w _);have b2:Bk ((w.alloc (.cells #[A0 O,A0 z,A0 H] 113)).alloc (.cells #[A0 I,A0 E,A0 L] 113)) (w.heap.size+1) I E L:=by
  have:=Bw (w.alloc (.cells #[A0 O,A0 z,A0 H] 113)) (.cells #[A0 I,A0 E,A0 L] 113);simpa[Bk] using this
 have k2:A2 A7 w ((w.alloc (.cells #[A0 O,A0 z,A0 H] 113)).alloc (.cells #[A0 I,A0 E,A0 L] 113)):=((A2.C _ w).ae _).ae _;have sz:((w.alloc (.cells #[A0 O,A0 z,A0 H] 113)).alloc (.cells #[A0 I,A0 E,A0 L] 113)).heap.size=w.heap.size+2:=by simp
 have aK:=A1 b1;have aG:=A1 b2;have aH:=A1 k2;have aO:=A1 sz;have aL:=A1 (k2.af hw)
 go_enter func155,ntmps155
 go_wp2;generalize ((w.alloc (.cells #[A0 O,A0 z,A0 H] 113)).alloc (.cells #[A0 I,A0 E,A0 L] 113))=w2 at aK aG aH aO aL ⊢;have aD:Hid (∀d,A2 A7 w2 d->A5 d w.heap.size 0 (A0 O)/\A5 d w.heap.size 1 (A0 z)/\A5 d w.heap.size 2 (A0 H)/\A5 d (w.heap.size+1) 0 (A0 I)/\A5 d (w.heap.size+1) 1 (A0 E)/\A5 d (w.heap.size+1) 2 (A0 L)/\A5 d wb 0 (A0 len)):=λd W=>by
  have e1:=aK.o.Ap W (λh=>h);have e2:=aG.o.Ap W (λh=>h);exact⟨e1.c0,e1.c1,e1.c2,e2.c0,e2.c1,e2.c2,W.af aL.o⟩
 have U:=aD.o w2.drew (A2.C _ w2).I;refine BH (λw'=>A5 w' w.heap.size 0 (A0 O)/\A5 w' w.heap.size 1 (A0 z)/\A5 w' w.heap.size 2 (A0 H)/\A5 w' (w.heap.size+1) 0 (A0 I)/\A5 w' (w.heap.size+1) 1 (A0 E)/\A5 w' (w.heap.size+1) 2 (A0 L)/\A5 w' wb 0 (A0 len)) 16
  (Bj [0,1,2,3,5,6,7,8,11,12,4,9,10,13,14,15] [4,9,10,13,14,15]) U ?_
 iterate 10 (refine B5 ?_;(try simp only[An]))
 refine B7 λK J=>?_;go_simp;refine(aA.o _).mono ?_;rintro e w3⟨rfl,rfl⟩;refine J _ _ U (λhS=>?_)
 (try simp only[An])
 refine B7 λK J=>?_;go_simp;refine(Y.o _).mono ?_;rintro e w3⟨rfl,rfl⟩;refine J _ _ U (λhS=>?_)
 (try simp only[An])
 refine B7 λK J=>?_;go_simp;refine(Z.o _).mono ?_;rintro e w3⟨rfl,rfl⟩;refine J _ _ U (λhS=>?_)
 (try simp only[An])
 refine B7 λK J=>?_;go_simp;refine(aB.o _).mono ?_;rintro e V⟨rfl,aF⟩;have k4:A2 A7 w2 V:=((A2.C A7 w2).I).tr aF;refine J _ _ (aD.o V k4) (λhS=>?_);have aP:=A1 k4
 (try simp only[An])
 refine B7 λK J=>?_;go_simp;have hb:(V.alloc (.cells #[A0 r,A0 s] 3)).heap[V.heap.size]?=some (.cells #[A0 r,A0 s] 3):=Bw V _;have k5:A2 A7 w2 (V.alloc (.cells #[A0 r,A0 s] 3)):=aP.o.ae _;refine J _ _ (aD.o _ k5) (λhS=>?_);have aI:=A1 k5;have aE:=A1 (aM.o (V.alloc (.cells #[A0 r,A0 s] 3)) V.heap.size r s (by simp only[A5,World.cell?,hb];rfl) (by simp only[A5,World.cell?,hb];rfl))
 (try simp only[An])
 refine B7 λK J=>?_;go_simp;refine aE.m ?_;rintro e w5⟨rfl,rfl⟩;refine J _ _ (aD.o _ aI.o) (λhS=>?_)
 (try simp only[An])
 refine Bd ?_;simp only[BD,BC];go_wp2;go_ret;exact⟨rfl,aH.o.tr aI.o⟩
end
section
open Go
section
variable {P:Program} {ops:Array Oper} {md:Region.Mode} {Q:Exit->Act->World->Prop}
def SB(aA:Nat)(S:World->Prop)(listed:Array Bool)(w:World):Prop:=listed.getD aA false=true\/S w
def SB.a8{aA i:Nat}{S:World->Prop}{listed:Array Bool}{w:World}(d:i≠aA):SB aA S (listed.setIfInBounds i true) w↔SB aA S listed w:=by
 unfold SB;have:(listed.setIfInBounds i true).getD aA false=listed.getD aA false:=by simp[Array.getD_eq_getD_getElem?,Array.getElem?_setIfInBounds_ne d]
 rw[this]
def wpAnyL(P:Program)(md:Region.Mode)(ops:Array Oper)(Q:Exit->Act->World->Prop)(S:Array Bool->World->Prop)(n:Nat)(L:Array Bool->Act->World->Prop):Nat->Array Bool->Act->World->Prop
 | 0,listed,a,w=>L listed a w
 | f+1,listed,a,w=>Region.ready md ops listed≠[]/\∀i∈Region.ready md ops listed,i<n/\wpOp P ops Q i (λa' w'=>S (listed.setIfInBounds i true) w'/\wpAnyL P md ops Q S n L f (listed.setIfInBounds i true) a' w') a w
def KE{S:Array Bool->World->Prop}{n g:Nat}{L:Array Bool->Act->World->Prop}(d:∀listed a w,L listed a w->wpAny P md ops Q g listed a w):
 ∀(f:Nat) (listed:Array Bool) (a:Act) (w:World),wpAnyL P md ops Q S n L f listed a w->wpAny P md ops Q (f+g) listed a w
 | 0,listed,a,w,h=>by rw[ED];exact d _ _ _ h
 | f+1,listed,a,w,h=>by
  rw[show f+1+g=(f+g)+1 from by omega];exact⟨λE=>absurd E h.1,λi z=>H3 (λa' w' y=>KE d f _ a' w' y.2) (h.2 i z).2⟩
def wpAnyL_first{aI:World->Prop}{aM:World->Prop}{aA n i:Nat}{Z:Oper}{v:Value}{L:Array Bool->Act->World->Prop}(Y:i≠aA)(hi:ops[i]?=some Z)(V:∀(j:Nat) (o:Oper) cs b,ops[j]?=some o->o.op≠.select cs b)(hQ:∀c a w,Q (.panic c) (a.put Z.dst v) w->Q (.panic c) a w)(hs:Region.sinkB md ops n=true)(hc:Region.chainB md ops n=true)(hn:n<ops.size)(aG:i<n)(aD:∀listed w,HeadInv md ops n listed->i∈Region.ready md ops listed->SB aA aI listed w->aM w)(aB:∀listed a w,L listed a w->∀j∈Region.ready md ops listed,n<=j):
 ∀(f:Nat) (listed:Array Bool) (a:Act) (w:World),HeadInv md ops n listed->
  (∀j oj,ops[j]?=some oj->j≠i->listed.getD j true=false->(∀e∈oj.after,Region.binds md e=true->e.on≠i)->Z.apart ops oj=true)->
  i∈Region.ready md ops listed->YieldsIf P ops aM Z v a->SB aA aI listed w->
  wpAnyL P md ops Q (SB aA aI) n L f (listed.setIfInBounds i true) (a.put Z.dst v) w->wpAnyL P md ops Q (SB aA aI) n L (f+1) listed a w:=by
 intro f
 induction f with
 | zero=>
  intro listed a w z _ I hy hS H;have y:=(FH.1 I).1;refine⟨λh=>(by rw[h]at I;cases I),λj hj=>?_⟩;have O:j<n:=by
   rcases Eg j n with h|h
   ·exact h
   ·exact absurd hj (HF hs hc hn z _ i rfl aG y j h)
  refine⟨O,?_⟩;by_cases d:j=i
  ·subst d;exact hy.wpOp hi (aD _ _ z I hS) ⟨(SB.a8 Y).2 hS,H⟩
  ·have:=aB _ _ _ H j (Hc hj d);omega
 | succ f ih=>
  intro listed a w z E I hy hS H;have y:=(FH.1 I).1;refine⟨λh=>(by rw[h]at I;cases I),λj hj=>?_⟩;have O:j<n:=by
   rcases Eg j n with h|h
   ·exact h
   ·exact absurd hj (HF hs hc hn z _ i rfl aG y j h)
  refine⟨O,?_⟩;by_cases d:j=i
  ·subst d;exact hy.wpOp hi (aD _ _ z I hS) ⟨(SB.a8 Y).2 hS,H⟩
  ·have h1:=(H.2 j (Hc hj d)).2;obtain⟨U,oj,W,aH⟩:=FH.1 hj;have aF:∀e∈oj.after,Region.binds md e=true->e.on≠i:=λe he hb aL=>by
    have h1:=aH e he hb;rw[aL,getD_both y]at h1;cases h1
   have h2:=wpOp_putIf W (E j oj W d U aF) (λcs b=>V i Z cs b hi) (λcs b=>V j oj cs b W) hQ hy h1;have J:∀k ok,ops[k]?=some ok->k≠i->(listed.setIfInBounds j true).getD k true=false->
    (∀e∈ok.after,Region.binds md e=true->e.on≠i)->Z.apart ops ok=true:=λk ok hk aK y aJ=>by
    refine E k ok hk aK ?_ aJ;by_cases aE:j=k
    ·subst aE;exact U
    ·rw[Ih true aE]at y;exact y
   refine H3 (λa' w' h3=>?_) h2;have h4:=h3.2.1;rw[NR _ _ (K6 d)]at h4;have h5:=(SB.a8 Y).1 h4;refine⟨h5,ih (listed.setIfInBounds j true) a' w' (z.set hj O) J (Hc I (K6 d)) h3.1 h5 ?_⟩;rw[NR _ _ d];exact h3.2.2
def Dm(P:Program)(ops:Array Oper)(Q:Exit->Act->World->Prop)(aA:Nat)(S:World->Prop)(T:Act->World->Prop):List (Nat×Nat)->Act->World->Prop
 | [],a,w=>T a w
 | (i,0):: r,a,w=>wpOp P ops Q i (λa' w'=>(i=aA\/S w')/\Dm P ops Q aA S T r a' w') a w
 | (i,1):: r,a,w=>∃o v,ops[i]?=some o/\YieldsIf P ops S o v a/\Dm P ops Q aA S T r (a.put o.dst v) w
 | (i,_+2):: r,a,w=>∃o v,ops[i]?=some o/\YieldsIf P ops (λ_=>True) o v a/\Dm P ops Q aA S T r (a.put o.dst v) w
def IY(md:Region.Mode)(ops:Array Oper)(aA i:Nat):Bool:=match ops[aA]? with
 | some o=>o.after.any λe=>Region.binds md e&&decide (e.on=i)
 | none=>false
def FB(md:Region.Mode)(ops:Array Oper)(aA n:Nat):List (Nat×Nat)->Array Bool->Bool
 | [],listed=>Region.seqB md ops (ops.size-n) n listed
 | (i,0):: r,listed=>decide (i<n)&&decide (Region.ready md ops listed=[i])&&FB md ops aA n r (listed.setIfInBounds i true)
 | (i,1):: r,listed=>decide (i<n)&&((Region.ready md ops listed).contains i&&Region.free md ops listed i)&&(decide (i≠aA)&&IY md ops aA i)&&FB md ops aA n r (listed.setIfInBounds i true)
 | (i,_+2):: r,listed=>decide (i<n)&&((Region.ready md ops listed).contains i&&Region.free md ops listed i)&&decide (i≠aA)&&FB md ops aA n r (listed.setIfInBounds i true)
def J9(ops:Array Oper)(aA n:Nat)(d:List (Nat×Nat)):Bool:=
 Region.noSelect ops&&decide (n<ops.size)&&decide (d.length=n)&&Region.sinkB .any ops n&&Region.chainB .any ops n&&FB .any ops aA n d (Array.replicate ops.size false)
def O8{aA i n:Nat}{S:World->Prop}{listed:Array Bool}{w:World}(h:IY md ops aA i=true)(z:HeadInv md ops n listed)(H:i∈Region.ready md ops listed)(y:SB aA S listed w):S w:=by
 rcases y with I|y
 ·unfold IY at h;cases ho:ops[aA]? with
  | none=>rw[ho]at h;cases h
  | some o=>
   rw[ho]at h;obtain⟨e,E,d⟩:=Array.any_eq_true'.1 h;simp only[Ek,De]at d;have:=z.closed aA o ho I e E d.1;rw[d.2,getD_both (FH.1 H).1]at this;cases this
 ·exact y
def Hz{aA n:Nat}{S:World->Prop}{T:Act->World->Prop}(z:Region.noSelect ops=true)(Z:Region.sinkB md ops n=true)(hc:Region.chainB md ops n=true)(hn:n<ops.size)(W:∀c a t v w,Q (.panic c) (Act.put a (some t) v) w->Q (.panic c) a w):
 ∀(U:List (Nat×Nat)) (listed:Array Bool) (a:Act) (w:World),HeadInv md ops n listed->FB md ops aA n U listed=true->SB aA S listed w->Dm P ops Q aA S T U a w->
 wpAnyL P md ops Q (SB aA S) n (λd a' w'=>Region.seqB md ops (ops.size-n) n d=true/\T a' w') U.length listed a w
 | [],listed,a,w,_,hB,_,h=>⟨hB,h⟩
 | (i,0):: r,listed,a,w,y,hB,O,h=>by
  simp only[FB,Ek,De]at hB;obtain⟨⟨E,L⟩,J⟩:=hB;refine⟨by rw[L];simp,λj hj=>?_⟩;have H:i∈Region.ready md ops listed:=by rw[L];simp
  rw[L]at hj;have:j=i:=by simpa using hj
  subst this;refine⟨E,H3 (λa' w' h'=>?_) h⟩;have Y:SB aA S (listed.setIfInBounds j true) w':=by
   rcases h'.1 with rfl|h1
   ·refine .inl ?_;(have:j<listed.size:=by rw[y.size];omega);simp[this]
   ·exact .inr h1
  exact⟨Y,Hz z Z hc hn W r _ a' w' (y.set H E) J Y h'.2⟩
 | (i,1):: r,listed,a,w,y,hB,O,h=>by
  simp only[FB,Ek,De]at hB;obtain⟨⟨⟨E,L,hf⟩,I,aB⟩,J⟩:=hB;obtain⟨o,v,V,hy,hK⟩:=h;have H:i∈Region.ready md ops listed:=by simpa using L
  exact wpAnyL_first I V (N5 z) (λc a w=>by cases o.dst with|none=>exact id|some t=>exact W c a t v w) Z hc hn E (λl w y L O=>O8 aB y L O) (λd a' w' hL=>L1 hL.1) r.length listed a w y (N6 V hf) H hy O
   (Hz z Z hc hn W r _ _ w (y.set H E) J ((SB.a8 I).2 O) hK)
 | (i,k+2):: r,listed,a,w,y,hB,O,h=>by
  simp only[FB,Ek,De]at hB;obtain⟨⟨⟨E,L,hf⟩,I⟩,J⟩:=hB;obtain⟨o,v,V,hy,hK⟩:=h;have H:i∈Region.ready md ops listed:=by simpa using L
  exact wpAnyL_first I V (N5 z) (λc a w=>by cases o.dst with|none=>exact id|some t=>exact W c a t v w) Z hc hn E (λ_ _ _ _ _=>trivial) (λd a' w' hL=>L1 hL.1) r.length listed a w y (N6 V hf) H hy O
   (Hz z Z hc hn W r _ _ w (y.set H E) J ((SB.a8 I).2 O) hK)
end
section
variable {P:Program} {ops:Array Oper} {Q:Exit->Act->World->Prop} {aA:Nat} {S:World->Prop} {T:Act->World->Prop}
def NV{id:Nat}{a:Act}{w:World}{l:List Oper}(aA:Nat)(S:World->Prop)(n:Nat)(d:List (Nat×Nat))(U:P.follows .mixedOrders=true)(J:J9 l.toArray aA n d=true)(O:∀c a t v w,Q (.panic c) (Act.put a (some t) v) w->Q (.panic c) a w)(V:S w.drew)(h:Dm P l.toArray Q aA S (λa w=>wpList P l.toArray Q (l.drop n) a w) d a w.drew):(Code.region id l.toArray true).wp P Q a w:=by
 simp only[J9,Ek,De]at J;obtain⟨⟨⟨⟨⟨hsel,hn⟩,hsl⟩,hs⟩,hc⟩,hgo⟩:=J;have z:(l.drop n).length=l.toArray.size-n:=by simp
 have y:HeadInv .any l.toArray n (Array.replicate l.toArray.size false):=
  ⟨by simp,λj oj _ I=>(by rw[GK]at I;cases I),λt _ L=>getD_in (by simpa using L) (GK _ _)⟩
 have H:=Hz (md:=.any) (T:=λa w=>wpList P l.toArray Q (l.drop n) a w) hsel hs hc hn O d _ a w.drew y hgo (.inr V) h;refine Ky U ?_
 have:=KE (Q:=Q) (g:=l.toArray.size-n) (λlisted a' w' E=>by
  have:=KC (md:=.any) (Q':=Q) (l.drop n) n listed a' w' (λj=>by simp[List.getElem?_drop]) (by rw[z];exact E.1) E.2
  rwa [z]at this) _ _ _ _ H
 rw[hsl,show n+(l.toArray.size-n)=l.toArray.size from by omega]at this;exact this
def NX{i:Nat}{o:Oper}{v:Value}{r:List (Nat×Nat)}{a:Act}{w:World}(y:ops[i]?=some o)(d:Region.wanted o (yielded ops a.tmps)=true)(z:∀w,S w->(execOp a.eval o).run P w=.ok (.value v) w)(h:Dm P ops Q aA S T r (a.put o.dst v) w):Dm P ops Q aA S T ((i,1):: r) a w:=
 ⟨o,v,y,.inl ⟨d,z⟩,h⟩
def NY{i:Nat}{o:Oper}{v:Value}{r:List (Nat×Nat)}{a:Act}{w:World}(y:ops[i]?=some o)(d:Region.wanted o (yielded ops a.tmps)=true)(z:∀w,(execOp a.eval o).run P w=.ok (.value v) w)(h:Dm P ops Q aA S T r (a.put o.dst v) w):Dm P ops Q aA S T ((i,2):: r) a w:=
 ⟨o,v,y,.inl ⟨d,λw _=>z w⟩,h⟩
def NZ{a:Act}{w:World}(h:T a w):Dm P ops Q aA S T [] a w:=h
def O1{o:Oper}{r:List (Nat×Nat)}{a:Act}{w:World}(z:ops[aA]?=some o)(d:Region.wanted o (yielded ops a.tmps)=true)(h:∀K:Act->World->Prop,(∀a w,Dm P ops Q aA S T r a w->K a w)->o.wp P a w K Q):Dm P ops Q aA S T ((aA,0):: r) a w:=by
 show wpOp P ops Q aA _ a w;unfold wpOp;simp only[z,d,BM];exact .inl (h _ λa w y=>⟨by simp,y⟩)
def KA{i:Nat}{o:Oper}{v:Value}{r:List (Nat×Nat)}{a:Act}{w:World}(h:Dm P ops Q aA S T r (a.put o.dst v) w)(y:ops[i]?=some o:=by rfl)(d:Region.wanted o (yielded ops a.tmps)=true:=by rfl)(z:∀w,S w->(execOp a.eval o).run P w=.ok (.value v) w:=by intro w' E;(try dsimp only at E);go_simp;try with_reducible rfl):Dm P ops Q aA S T ((i,1):: r) a w:=NX y d z h
def KB{i:Nat}{o:Oper}{v:Value}{r:List (Nat×Nat)}{a:Act}{w:World}(h:Dm P ops Q aA S T r (a.put o.dst v) w)(y:ops[i]?=some o:=by rfl)(d:Region.wanted o (yielded ops a.tmps)=true:=by rfl)(z:∀w,(execOp a.eval o).run P w=.ok (.value v) w:=by intro w';go_simp;try with_reducible rfl):Dm P ops Q aA S T ((i,2):: r) a w:=NY y d z h
def O0{o:Oper}{r:List (Nat×Nat)}{a:Act}{w:World}(h:∀K:Act->World->Prop,(∀a w,Dm P ops Q aA S T r a w->K a w)->o.wp P a w K Q)(y:ops[aA]?=some o:=by rfl)(d:Region.wanted o (yielded ops a.tmps)=true:=by rfl):
 Dm P ops Q aA S T ((aA,0):: r) a w:=O1 y d h
def NW{id:Nat}{a:Act}{w:World}{l:List Oper}(aA:Nat)(S:World->Prop)(n:Nat)(d:List (Nat×Nat))(z:S w.drew)(h:Dm P l.toArray Q aA S (λa w=>wpList P l.toArray Q (l.drop n) a w) d a w.drew)(y:P.follows .mixedOrders=true:=by kernel_rfl)(E:J9 l.toArray aA n d=true:=by kernel_rfl)(H:∀c a t v w,Q (.panic c) (Act.put a (some t) v) w->Q (.panic c) a w:=by exact λ_ _ _ _ _ h=>h):(Code.region id l.toArray true).wp P Q a w:=NV aA S n d y E H z h
end
end
section
open Go.RowKit
attribute [local go_sem ↓] C5
def Lv:∀(l:List Pu) (k:Nat) (_:k<l.length) (p:Pu),Bv (l.set k p)=(((Bv l).set (k*3) (.int .i64 p.1)).set (k*3+1) (.int .i64 p.2.1)).set (k*3+2) (.int .i64 p.2.2)
 | [],k,h,p=>by simp at h
 | (a,b,c):: r,0,_,p=>by obtain⟨p1,p2,p3⟩:=p;simp[Bv]
 | (a,b,c):: r,k+1,h,p=>by
  have y:=Lv r k (by simpa using h) p;have d:(k+1)*3=k*3+1+1+1:=by omega
  simp only[Nq,Bv,y,d]
def AO.a8{w:World}{g n cap:Nat}{l:List Pu}(h:w.ownsRow 0 113 3 (AH g n cap) n (Bv l))(k:Nat)(d:k<l.length)(p:Pu):
 (((w.setCell (A8 g (k*3)) (A0 p.1)).setCell (A8 g (k*3+1)) (A0 p.2.1)).setCell (A8 g (k*3+2)) (A0 p.2.2)).ownsRow 0 113 3 (AH g n cap) n (Bv (l.set k p)):=by
 rw[Lv l k d p];exact(((h.stored (k*3) _).1.stored (k*3+1) _).1.stored (k*3+2) _).1
def OO{α:Type}(A C:List α)(x y:α):((A++y::x::C).set (A.length+1) y).set A.length x=A++x::y::C:=by
 have d:(A++y::x::C).set (A.length+1) y=A++y::y::C:=by
  rw[Hr _ _ (by omega)];simp
 rw[d,Hr _ _ (by omega)];simp
def AO.ed{w:World}{g n cap:Nat}{A C:List Pu}{x y:Pu}(h:w.ownsRow 0 113 3 (.slice (some ⟨g,0,none⟩) n cap) n (Bv (A++y::x::C))):
 (w.cell? ⟨g,A.length*3,none⟩=some (.int .i64 y.1)/\w.cell? ⟨g,A.length*3+1,none⟩=some (.int .i64 y.2.1)/\w.cell? ⟨g,A.length*3+2,none⟩=some (.int .i64 y.2.2))/\
 (w.cell? ⟨g,(A.length+1)*3,none⟩=some (.int .i64 x.1)/\w.cell? ⟨g,(A.length+1)*3+1,none⟩=some (.int .i64 x.2.1)/\w.cell? ⟨g,(A.length+1)*3+2,none⟩=some (.int .i64 x.2.2))/\∀o,w.frozen? ⟨g,o,none⟩=false:=by
 obtain⟨H,J,I⟩:=Fl (A++y::x::C) A.length (by simp);obtain⟨E,d,z⟩:=Fl (A++y::x::C) (A.length+1) (by simp);have L:(A++y::x::C)[A.length]'(by simp)=y:=by simp
 have O:(A++y::x::C)[A.length+1]'(by simp)=x:=by
  rw[IK (by omega)];simp
 rw[L]at H J I;rw[O]at E d z;exact⟨⟨Be h rfl H,Be h rfl J,Be h rfl I⟩,⟨Be h rfl E,Be h rfl d,Be h rfl z⟩,λo=>Fm h rfl o⟩
def Rk{α:Type}{lt:α->α->Bool}(I:BS lt){m:List α}{x:α}{q:Nat}(hm:Cn lt m)(_hq:q<=m.length)(L:∀y∈m.drop q,lt x y=true)(U:∀z,(m.take q).getLast?=some z->lt x z=false):
 Cn lt (m.take q++x::m.drop q)/\Bp lt (m++[x]) (m.take q++x::m.drop q):=by
 have E:=EG q m;have W:Cn lt (m.take q++m.drop q):=by rw[E];exact hm
 obtain⟨O,a2,V⟩:=W.aw;have Z:∀y∈m.take q,lt x y=false:=by
  have H:Cn lt [x]:=Kc _ _;have:=I.dm O H λz y h d=>by
   simp at d;subst d;exact U z h
  exact λy d=>this y d x (by simp)
 refine⟨Cn.dd O (D3.2 ⟨λy d=>I.b6 (L y d),a2⟩) λy d z h=>?_,?_⟩
 ·rcases Cf.1 h with rfl|h
  ·exact Z y d
  ·exact V y d z h
 ·have Y:=I.cg L;have J:=(Bp.C (lt:=lt) (m.take q)).aw Y;rw[<-CQ,E]at J;exact J
def Rp(w:World)(g cap wb:Nat)(len:Int)(l:List Pu)(a b:Nat)(hab:a<b)(hb:b<=l.length)(h:AO w (AH g l.length cap) l)(hT:∀p∈l,AE p.2.1)(hl:1<=len/\len<=4611686018427387904)(hw:A5 w wb 0 (A0 len))(bG:wb≠g)(_hbig:l.length<=4294967296):
 Ac 243 #[AH g l.length cap,A0 a,A0 b,.func (Fn.func 155) #[] #[A4 wb]] w (Ak (.tuple #[]) λw'=>
  ∃m,AO w' (AH g l.length cap) (l.take a++m++l.drop b)/\m.length=b-a/\Bp (AV len) ((l.take b).drop a) m/\Cn (AV len) m/\A2 (One g) w w'):=by
 have bX:=F4 len;obtain⟨n,hn⟩:∃n,l.length=n:=⟨_,rfl⟩;have bY:Hid (w.ownsRow 0 113 3 (AH g n cap) n (Bv l)):=by have:=h;unfold AO at this;rw[hn]at this;exact this
 rw[hn]at hb ⊢;have aR:n<=cap/\cap<=9223372036854775807:=by
  obtain⟨a',c',e,h1,h2,_⟩:=AR bY.o;cases e;unfold maxLen at h2;omega
 obtain⟨hc1,hc2⟩:=aR;have b6:=A1 hT;have cA:=A1 hw;have cF:=A1 hl;have a7:=A1 hn;have bI:=A1 bG;have eia:wrap64 ((a:Int)+1)=(a:Int)+1:=by unfold wrap64;omega
 go_enter func243,ntmps243
 go_wp2;go_loopw [8] (λiv wr=>∃i:Nat,iv=A0 ((i:Int)+1)/\a<=i/\i+1<=b/\Hid (∃m,wr.ownsRow 0 113 3 (AH g n cap) n (Bv (l.take a++m++l.drop (i+1)))/\m.length=i+1-a/\Bp (AV len) ((l.take (i+1)).drop a) m/\Cn (AV len) m/\A2 (One g) w wr)) (λiv _=>b-(intOf iv).toNat)
 case atStart=>
  refine⟨a,rfl,by omega,by omega,(l.take (a+1)).drop a,?_,?_,Bp.C _,?_,A2.C _ _⟩
  ·have e:l.take a++(l.take (a+1)).drop a++l.drop (a+1)=l:=by
    have:=EG (a+1) l
    conv=>rhs;rw[<-this]
    congr 1
    have h2:=EG a (l.take (a+1));rw[Ka]at h2;rw[show min a (a+1)=a by omega]at h2;exact h2
   rw[e];exact bY.o
  ·have:=a7.o;simp;omega
  ·have aS:((l.take (a+1)).drop a).length<=1:=by simp;omega
   match hx:(l.take (a+1)).drop a,aS with
   | [],_=>exact List.Pairwise.nil
   | [x],_=>exact Kc _ _
   | x::y::r,hl=>simp at hl
 case round=>
  obtain⟨i,rfl,hai,hib,hI⟩:=hrel;obtain⟨m,i1,i2,i3,i4,i5⟩:=hI.o;by_cases hi1:i+1<b
  ·obtain⟨w1,bB⟩:∃w1,w1=wr:=⟨_,rfl⟩;subst bB;(have aF:i+1<l.length:=by have:=a7.o;omega);have a5:=EH aF;have a1:=D9 aF;have aW:=Cx aF;generalize hx:(l[i+1]'aF)=x at a5 a1 aW;rw[a5]at i1;have b9:=A1 i1;have b7:=A1 i2;have b2:=A1 i3;have cC:=A1 i4;have cD:=A1 i5;have a9:Hid ((l.take (i+1+1)).drop a=(l.take (i+1)).drop a++[x]):=by
    unfold Hid;rw[a1,Tt (by simp;omega)]
   have bP:=A1 (b6.o x aW);(have aX:Hid ((l.take a).length=a):=by unfold Hid;have:=a7.o;simp;omega);(have bE:(i:Int)+1<(b:Int):=by omega);go_wp2
   have aB:Hid (∀(J:World) (q:Nat),q<=m.length->(∀y∈m.drop q,AV len x y=true)->(∀z,(m.take q).getLast?=some z->AV len x z=false)->J.ownsRow 0 113 3 (AH g n cap) n (Bv ((l.take a++m.take q)++x::(m.drop q++l.drop (i+1+1))))->A2 (One g) w J->
    ∃Y,J.ownsRow 0 113 3 (AH g n cap) n (Bv (l.take a++Y++l.drop (i+1+1)))/\Y.length=i+1+1-a/\Bp (AV len) ((l.take (i+1+1)).drop a) Y/\Cn (AV len) Y/\A2 (One g) w J):=λJ q hq h1 h2 h3 h4=>by
    obtain⟨d1,d2⟩:=Rk bX cC.o hq h1 h2;refine⟨m.take q++x::m.drop q,?_,?_,?_,d1,h4⟩
    ·(have e:l.take a++(m.take q++x::m.drop q)++l.drop (i+1+1)=(l.take a++m.take q)++x::(m.drop q++l.drop (i+1+1)):=by simp);rw[e];exact h3
    ·have:=b7.o;simp;omega
    ·rw[a9.o];exact(b2.o.aw (Bp.C _)).As d2
   go_loopw [9] (λjv wr=>∃j q:Nat,jv=A0 (j:Int)/\j<=i+1/\Hid (j=a+q/\q<=m.length/\wr.ownsRow 0 113 3 (AH g n cap) n (Bv ((l.take a++m.take q)++x::(m.drop q++l.drop (i+1+1))))/\(∀y∈m.drop q,AV len x y=true)/\A2 (One g) w wr)) (λjv _=>(intOf jv).toNat)
   case atStart=>
    refine⟨i+1,m.length,by go_num,Aw _,by have:=b7.o;omega,Aw _,?_,(λy hy=>by rw[Fz]at hy;cases hy),cD.o⟩;rw[CP,Fz,Ej];exact b9.o
   case round=>
    obtain⟨j,q,rfl,bK,hJ⟩:=hrel;obtain⟨j1,j2,j3,j4,j5⟩:=hJ.o;by_cases bH:q=0
    ·subst bH;(have bL:j=a:=by omega);subst bL;have aL:=A1 (λnq=>aB.o (wr.drewN nq) 0 (CL _) j4 (λz Z=>by simp at Z) (Aq j3 λ_ _=>rfl) (j5.aU nq));(have hjj:¬((j:Int)<(j:Int)):=by omega);clear hJ j1 j2 j3 j4 j5 aB;go_wp2;go_quiet (fail);go_wp2;go_roundw
     case rel=>exact⟨i+1,by go_num,by omega,by omega,aL.o _⟩
     case measure=>simp[intOf];omega
    ·obtain⟨q,rfl⟩:∃q',q=q'+1:=⟨q-1,by omega⟩;obtain⟨P,hP⟩:∃P,a+q=P:=⟨_,rfl⟩;(have bV:j=P+1:=by omega);subst bV;(have W:q<m.length:=by omega);have aA:=D9 W;have aN:=EH W;generalize hy:(m[q]'W)=y at aA aN;(have aD:∀z,(m.take (q+1)).getLast?=some z->z=y:=λz Z=>by rw[aA]at Z;simpa using Z.symm);have aT:AE y.2.1:=by
      (have bQ:y∈m:=by rw[<-hy];exact Cx W);have:=(b2.o.bw.DG bX bQ);exact b6.o y (IJ (Kd this))
     (have aI:(l.take a++m.take q).length=P:=by have:=aX.o;rw[B2,this,Dg];omega);(have e0:(l.take a++m.take (q+1))++x::(m.drop (q+1)++l.drop (i+1+1))=(l.take a++m.take q)++y::x::(m.drop (q+1)++l.drop (i+1+1)):=by rw[aA];simp);have aE:=j3;rw[e0]at aE;obtain⟨⟨y1,y2,y3⟩,⟨x1,x2,x3⟩,fz⟩:=AO.ed aE;rw[aI]at y1 y2 y3 x1 x2 x3;have aZ:=A1 (λJ bJ=>Sf J wb len x y bP.o aT cF.o bJ);have bT:=Sd len x y;have aM:=Se (len:=len) (p:=x) (q:=y);generalize bS:Fw len x y=cc at aZ bT aM;have aG:=j5.bq cA.o (λe=>bI.o e);have b1:=A1 j3;have aY:=A1 aE;have b5:=A1 j4;have b0:=A1 j5;have a2:=A1 aN;have HTQ:=A1 aA;have aJ:=A1 aD;have L:=A1 aI;have cE:=A1 hP;have aV:=A1 W;have bN:=A1 bK;have a4:=A1 aM;(have hPn:(P:Int)+1<(n:Int):=by omega);(have hPn2:(P:Int)<(n:Int):=by omega);have hP0:=C3 P;(have hPa:(a:Int)<(P:Int)+1:=by omega);(have pk:(0:Int)<=(P:Int)+1:=by omega);(have bF:IntKind.i64.wrap (P:Int)=P:=by simp[IntKind.wrap,IntKind.bits,IntKind.signed];omega);(have ew1:IntKind.i64.wrap ((P:Int)+1-1)=P:=by rw[Hw];exact bF);(have ew2:wrap64 ((P:Int)+1-1)=P:=by unfold wrap64;omega);(have ew3:wrap64 (P:Int)=P:=by unfold wrap64;omega);have tk:=GY (P+1);obtain⟨O,d,U⟩:=x;obtain⟨H,I,E⟩:=y;dsimp only at y1 y2 y3 x1 x2 x3;unfold CH at aZ;dsimp only at aZ;have a6:Hid (∀J,A2 A7 wr J->A5 J g (P*3) (A0 H)/\A5 J g (P*3+1) (A0 I)/\A5 J g (P*3+2) (A0 E)/\A5 J g ((P+1)*3) (A0 O)/\A5 J g ((P+1)*3+1) (A0 d)/\A5 J g ((P+1)*3+2) (A0 U)):=λJ hx=>
      ⟨hx.af y1,hx.af y2,hx.af y3,hx.af x1,hx.af x2,hx.af x3⟩
     have bZ:=a6.o wr.drew (A2.C _ wr).I;have aP:=A1 (aZ.o wr.drew aG);clear hJ j1 j2 j3 aE j4 j5 aA aN aD aI hP aM aT hy bS e0 aZ aG W fz;by_cases aQ:cc<0
     ·(have bR:¬(0<=cc):=by omega);go_wp2;refine BH (λw'=>A5 w' g (P*3) (A0 H)/\A5 w' g (P*3+1) (A0 I)/\A5 w' g (P*3+2) (A0 E)/\A5 w' g ((P+1)*3) (A0 O)/\A5 w' g ((P+1)*3+1) (A0 d)/\A5 w' g ((P+1)*3+2) (A0 U)) 16
       (Bj [0,1,2,3,4,5,6,7,8,9,10,11,12,13,14,15] [14]) bZ ?_
      iterate 14 (refine B5 ?_;(try simp only[An]))
      refine B7 λK hK=>?_;go_simp;refine aP.m ?_;rintro e V⟨rfl,aK⟩;have k6:=((A2.C A7 wr).I).tr aK;refine hK _ _ (a6.o V k6) (λhS=>?_);have b3:=A1 k6;have b8:=a6.o V k6
      (try simp only[An])
      (refine B5 ?_;(try simp only[An]))
      refine Bd ?_;simp only[BD,BC];obtain⟨y1,y2,y3,x1,x2,x3⟩:=b8;have bW:Hid (V.ownsRow 0 113 3 (AH g n cap) n (Bv ((l.take a++m.take q)++(H,I,E):: (O,d,U):: (m.drop (q+1)++l.drop (i+1+1))))):=Aq aY.o λg' hg=>b3.o.Ao g' (Av aY.o hg) (λh=>h);have fz:∀o,V.frozen? (A8 g o)=false:=λo=>Fm bW.o rfl o;go_wp2;refine NW 15 (λw'=>A5 w' g (P*3) (A0 H)/\A5 w' g (P*3+1) (A0 I)/\A5 w' g (P*3+2) (A0 E)/\A5 w' g ((P+1)*3) (A0 O)/\A5 w' g ((P+1)*3+1) (A0 d)/\A5 w' g ((P+1)*3+2) (A0 U)) 16
       [(0,1),(1,1),(5,1),(6,1),(7,1),(8,1),(9,1),(10,2),(11,2),(12,2),(13,1),(14,1),(2,2),(3,2),(4,2),(15,0)] ⟨y1,y2,y3,x1,x2,x3⟩ ?_
      iterate 7 (refine KA ?_;(try simp only[An]))
      iterate 3 (refine KB ?_;(try simp only[An]))
      iterate 2 (refine KA ?_;(try simp only[An]))
      iterate 3 (refine KB ?_;(try simp only[An]))
      refine O0 λK hK=>?_;go_simp;refine hK _ _ ?_
      (try simp only[An])
      refine NZ ?_;simp only[BD,BC];have e1:((l.take a++m.take q)++(H,I,E):: (O,d,U):: (m.drop (q+1)++l.drop (i+1+1))).length=((l.take a++m.take q)++(H,I,E):: (O,d,U):: (m.drop (q+1)++l.drop (i+1+1))).length:=rfl;have aO:=AO.a8 bW.o (P+1) (by have:=L.o;rw[B2,L.o];simp) (H,I,E);have bO:=AO.a8 aO P (by have:=L.o;rw[Kf,B2,L.o];simp) (O,d,U);have a0:=OO (l.take a++m.take q) (m.drop (q+1)++l.drop (i+1+1)) (O,d,U) (H,I,E);rw[L.o]at a0;rw[a0]at bO;have aH:∀hh,(((l.take a++m.take q)++(H,I,E):: (O,d,U):: (m.drop (q+1)++l.drop (i+1+1))).set (P+1) (H,I,E))[P]'hh=(H,I,E):=λhh=>by
       rw[List.getElem_set_ne (by omega)];rw[IK (by rw[L.o];exact Aw _)];simp[L.o]
      obtain⟨p1,p2,p3⟩:=Fl _ P (show P<(((l.take a++m.take q)++(H,I,E):: (O,d,U):: (m.drop (q+1)++l.drop (i+1+1))).set (P+1) (H,I,E)).length by rw[Kf,B2,L.o];simp);rw[aH]at p1 p2 p3;have z1:=Be aO rfl p1;have z2:=Be aO rfl p2;have z3:=Be aO rfl p3;dsimp only at aO bO z1 z2 z3;have bD:=A1 bO;have bU:∀o,((((V.setCell (A8 g ((P+1)*3)) (A0 H)).setCell (A8 g ((P+1)*3+1)) (A0 I)).setCell (A8 g ((P+1)*3+2)) (A0 E))).drew.frozen? (A8 g o)=false:=λo=>Fm aO rfl o;have b4:Hid (A2 (One g) wr (((((((V.setCell (A8 g ((P+1)*3)) (A0 H)).setCell (A8 g ((P+1)*3+1)) (A0 I)).setCell (A8 g ((P+1)*3+2)) (A0 E)).drew.setCell (A8 g (P*3)) (A0 O)).setCell (A8 g (P*3+1)) (A0 d)).setCell (A8 g (P*3+2)) (A0 U)))):=
       ((((((b3.o.U (S':=One g) λ_ _ h=>h.elim).ak (b:=g) rfl _ _).ak (b:=g) rfl _ _).ak (b:=g) rfl _ _).I.ak (b:=g) rfl _ _).ak (b:=g) rfl _ _).ak (b:=g) rfl _ _
      have a3:Hid ((((((((V.setCell (A8 g ((P+1)*3)) (A0 H)).setCell (A8 g ((P+1)*3+1)) (A0 I)).setCell (A8 g ((P+1)*3+2)) (A0 E)).drew.setCell (A8 g (P*3)) (A0 O)).setCell (A8 g (P*3+1)) (A0 d)).setCell (A8 g (P*3+2)) (A0 U))).ownsRow 0 113 3 (AH g n cap) n (Bv ((l.take a++m.take q)++(O,d,U):: (H,I,E):: (m.drop (q+1)++l.drop (i+1+1))))):=Aq bD.o λ_ _=>rfl;have bC:((((V.setCell (A8 g ((P+1)*3)) (A0 H)).setCell (A8 g ((P+1)*3+1)) (A0 I)).setCell (A8 g ((P+1)*3+2)) (A0 E))).drew.cell? (A8 g (P*3))=some (A0 H):=z1;have bM:((((V.setCell (A8 g ((P+1)*3)) (A0 H)).setCell (A8 g ((P+1)*3+1)) (A0 I)).setCell (A8 g ((P+1)*3+2)) (A0 E))).drew.cell? (A8 g (P*3+1))=some (A0 I):=z2;have a8:((((V.setCell (A8 g ((P+1)*3)) (A0 H)).setCell (A8 g ((P+1)*3+1)) (A0 I)).setCell (A8 g ((P+1)*3+2)) (A0 E))).drew.cell? (A8 g (P*3+2))=some (A0 E):=z3;generalize (((V.setCell (A8 g ((P+1)*3)) (A0 H)).setCell (A8 g ((P+1)*3+1)) (A0 I)).setCell (A8 g ((P+1)*3+2)) (A0 E)).drew=w7 at bU b4 a3 bC bM a8 ⊢;go_wp2;go_roundw
      case rel=>
       refine⟨P,q,rfl,FQ bN.o,cE.o.symm,FQ aV.o,?_,?_,?_⟩
       ·(have e2:(l.take a++m.take q)++(O,d,U):: (m.drop q++l.drop (i+1+1))=(l.take a++m.take q)++(O,d,U):: (H,I,E):: (m.drop (q+1)++l.drop (i+1+1)):=by rw[a2.o];rfl);rw[e2];exact Aq a3.o λ_ _=>rfl
       ·intro z Z;rw[a2.o]at Z;rcases Cf.1 Z with rfl|Z
        ·exact a4.o.1 aQ
        ·exact b5.o z Z
       ·exact b0.o.tr b4.o
      case measure=>simp[intOf]
     ·(have bR:0<=cc:=by omega);have aL:Hid (∀J,A2 A7 wr J->∃Y,J.ownsRow 0 113 3 (AH g n cap) n (Bv (l.take a++Y++l.drop (i+1+1)))/\Y.length=i+1+1-a/\Bp (AV len) ((l.take (i+1+1)).drop a) Y/\Cn (AV len) Y/\A2 (One g) w J):=λJ hx=>
       aB.o J (q+1) aV.o b5.o (λz Z=>by
        rw[aJ.o z Z];cases hk:AV len (O,d,U) (H,I,E) with
        | false=>rfl
        | true=>exact absurd (a4.o.2 hk) aQ) (Aq b1.o λg' hg=>hx.Ao g' (Av b1.o hg) (λh=>h)) (b0.o.As hx λ_ h _=>h.elim)
      go_wp2;refine BH (λw'=>A5 w' g (P*3) (A0 H)/\A5 w' g (P*3+1) (A0 I)/\A5 w' g (P*3+2) (A0 E)/\A5 w' g ((P+1)*3) (A0 O)/\A5 w' g ((P+1)*3+1) (A0 d)/\A5 w' g ((P+1)*3+2) (A0 U)) 16
       (Bj [0,1,2,3,4,5,6,7,8,9,10,11,12,13,14,15] [14]) bZ ?_
      iterate 14 (refine B5 ?_;(try simp only[An]))
      refine B7 λK hK=>?_;go_simp;refine aP.m ?_;rintro e V⟨rfl,aK⟩;have k6:=((A2.C A7 wr).I).tr aK;refine hK _ _ (a6.o V k6) (λhS=>?_);have aU:=A1 (aL.o V k6)
      (try simp only[An])
      (refine B5 ?_;(try simp only[An]))
      refine Bd ?_;simp only[BD,BC];go_wp2;go_roundw
      case rel=>exact⟨i+1,by go_num,by omega,by omega,aU.o⟩
      case measure=>simp[intOf];omega
  ·(have bA:i+1=b:=by omega);subst bA;have cB:=A1 hI.o;(have bE:¬((i:Int)+1<((i+1:Nat):Int)):=by omega);go_wp2;go_end0;obtain⟨Y,q1,q2,q3,q4,q5⟩:=cB.o;refine⟨rfl,Y,?_,q2,q3,q4,q5⟩;unfold AO;rw[CQ]at q1
   try rw[CQ]
   (have e:(l.take a++(Y++l.drop (i+1))).length=n:=by have:=a7.o;simp;omega);rw[e];exact q1
def Iz(N:Nat):Prop:=∀(w:World) (v:Value) (d:Nat) (len:Int) (l:List Pu),l.length<=N->AO w v l->(∀p∈l,AE p.2.1)->(1<=len/\len<=4611686018427387904)->w.cell? ⟨d,0,none⟩=some (.int .i64 len)->(∀g,v.ownBlock=some g->d≠g)->
 Calls Tryz.prog 154 #[v,.func (Fn.func 155) #[] #[.pointer (some ⟨d,0,none⟩)]] w λe w'=>e=.returned (.tuple #[])/\AO w' v (D5 (AV len) l)/\A2 (λk=>v.ownBlock=some k) w w'
def KY{α:Type}{lt:α->α->Bool}(l:List α):(D5 lt l).length=l.length:=by
 have ins:∀(x:α) (s:List α),(Dx lt x s).length=s.length+1:=by
  intro x s
  induction s with
  | nil=>rfl
  | cons y r ih=>unfold Dx;split<;>simp[ih]
 have key:∀(l s:List α),(l.foldl (λs x=>Dx lt x s) s).length=s.length+l.length:=by
  intro l
  induction l with
  | nil=>intro s;simp
  | cons x r ih=>intro s;rw[IM,ih,ins];simp;omega
 have:=key l [];simpa[D5] using this
def Ro(w:World)(v c:Value)(a b:Nat)(ha:b<=a+1)(hb:a<=4294967296):
 Ac 243 #[v,A0 a,A0 b,c] w (Ak (.tuple #[]) λw'=>w=w'):=by
 have eia:wrap64 ((a:Int)+1)=(a:Int)+1:=by unfold wrap64;omega
 go_enter func243,ntmps243
 go_wp2;refine FY 1 ?_;rw[E6];go_wp2;go_end0;exact⟨rfl,rfl⟩
def OE(w:World)(v:Value)(d:Nat)(len:Int)(l:List Pu)(hn:l.length<=19)(h:AO w v l)(J:∀p∈l,AE p.2.1)(hl:1<=len/\len<=4611686018427387904)(Y:A5 w d 0 (A0 len))(y:∀g,v.ownBlock=some g->d≠g):
 Ac 202 #[v,A0 l.length,.func (Fn.func 155) #[] #[A4 d]] w (Ak (.tuple #[]) λw'=>AO w' v (D5 (AV len) l)/\A2 (λk=>v.ownBlock=some k) w w'):=by
 have z:Hid (Ac 243 #[v,A0 ((0:Nat):Int),A0 l.length,.func (Fn.func 155) #[] #[A4 d]] w (Ak (.tuple #[]) λw'=>AO w' v (D5 (AV len) l)/\A2 (λk=>v.oB k) w w')):=by
  by_cases E:l.length=0
  ·have e:l=[]:=Fy.1 E;subst e;refine(Ro w v _ 0 0 (by omega) (by omega)).mono ?_;rintro e w'⟨rfl,rfl⟩;exact⟨rfl,h,A2.C _ _⟩
  ·obtain⟨av,cap,rfl,h1,h2,h3,-,-⟩:=AR h;obtain⟨g,rfl⟩:=h3 (by omega);refine(Rp w g cap d len l 0 l.length (by omega) (Aw _) h J hl Y (y g rfl) (by omega)).mono ?_;rintro e w'⟨rfl,m,L,q2,U,q4,W⟩;have e1:m=D5 (AV len) l:=(F4 len).dS q4 (by simpa using U);refine⟨rfl,?_,W.U λk _ H=>by have e:k=g:=H;subst e;rfl⟩;rw[<-e1];have:=L;simp only[Eh,Ej,Fz,EI]at this;exact this
 rw[show ((0:Nat):Int)=0 from rfl]at z;have h20:¬((20:Int)<=(l.length:Int)):=by omega
 go_enter func202,ntmps202
 go_wp2;refine FY 1 ?_;rw[E6];go_wp2_with (fail);refine z.m ?_;rintro e w2⟨rfl,Z,O⟩;have I:=A1 Z;have V:=A1 O;go_wp2;refine FY 1 ?_;rw[E6];go_wp2;go_end0;exact⟨rfl,I.o,V.o⟩
def KZ:Iz 19:=by
 intro w v y len l L h z J H d;have ST:=A1 (OE w v y len l L h z J H d);obtain⟨av,cap,rfl,h1,h2,-⟩:=AR h
 go_enter func154,ntmps154
 go_wp2_with (go_at_call 202;refine ST.m ?_;rintro e w2⟨rfl,I,O⟩;have U:=A1 I;have E:=A1 O);go_end0;exact⟨rfl,U.o,E.o⟩
end
end Go.Proofs.YtodcnkbblippnaaGreatDoor
