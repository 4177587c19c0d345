/- Part 14 of a proof: walks of the program. -/
import Derived.Test.YtodcnkbblippnaaGreatDoorPart13
namespace Go.Proofs.YtodcnkbblippnaaGreatDoor
set_option maxRecDepth 100000
set_option maxHeartbeats 32000000
set_option linter.defProp false
open Go.Proofs.Tryz
section
open Go.RowKit
attribute [local go_sem ↓] Cw
def SP{n:Int}(h:isNum n=true):1<=n/\n<=4611686018427387904:=by
 unfold isNum at h;simpa using h
def Mg{P:PD}{ix:Ix}(h:P.aZ=some ix):(1<=ix.B9/\ix.B9<=4611686018427387904)/\∀n∈ix.segs,1<=n/\n<=4611686018427387904:=by
 unfold PD.aZ indexOf at h;split at h
 ·cases h;exact⟨⟨by decide,by decide⟩,λn z=>by cases z⟩
 ·split at h
  ·cases h
  ·rename_i E;split at h
   ·cases h
   ·rename_i d;split at h
    ·cases h;(have d:(EB (P.aV AK).1).all isNum=true:=by simpa using d);rw[N3]at d;generalize hi:EB (P.aV AK).1=l at *;cases l with
     | nil=>simp at E
     | cons x r=>exact⟨SP (d x BQ),λn z=>SP (d n (BW _ z))⟩
    ·cases h
def QG:∀(k:Nat) (l:Bs) (r:List Pu×Bs),EJ k l=some r->r.1.length<=l.length
 | 0,l,r,h=>by cases h;exact Ce _
 | k+1,l,r,h=>by
  unfold EJ at h;split at h
  ·cases h;exact Ce _
  ·rename_i hl;split at h
   ·cases hx:EJ k (l.drop 17) with
    | none=>rw[hx]at h;cases h
    | some q=>
     rw[hx]at h;cases h;have:=QG k (l.drop 17) q hx;simp only[Cq];rw[Cl]at this;omega
   ·cases h
def Xi{P:PD}{a c m:Nat}(d:Fit P a c m){n:Int}{l:List Pu}(h:P.Cy n=some l):l.length<=m:=by
 unfold PD.Cy IK at h;split at h
 ·cases h
 ·cases hx:EJ (P.aV (AJ n)).1.length (P.aV (AJ n)).1 with
  | none=>rw[hx]at h;cases h
  | some q=>
   rw[hx]at h;dsimp only at h;split at h
   ·cases h;exact AQ (QG _ _ q hx) (Rh d _)
   ·cases h
def QD{P:PD}{a c m:Nat}(I:Fit P a c m):∀(E:List Int) (l:List (Int×List Pu)),P.segs E=some l->l.length=E.length/\∀x∈l,x.2.length<=m
 | [],l,h=>by cases h;exact⟨rfl,λx z=>by cases z⟩
 | n::r,l,h=>by
  unfold PD.segs at h;cases z:P.Cy n with
  | none=>rw[z]at h;cases h
  | some q=>
   rw[z]at h;dsimp only at h;cases hy:P.segs r with
   | none=>rw[hy]at h;cases h
   | some y=>
    rw[hy]at h;cases h;obtain⟨O,L⟩:=QD I r y hy;refine⟨by simp[O],λx d=>?_⟩;rcases BX.1 d with rfl|d
    ·exact Xi I z
    ·exact L x d
def G2(l:List Bs):List Int:=l.filterMap λnm=>if (Bn nm).1=2 then some (Bn nm).2 else none
def Xm(a b:List Bs):G2 (a++b)=G2 a++G2 b:=by simp[G2]
def E1(w:World)(ab b xb:Nat)(last:Int):Prop:=w.heap[ab]?=some (.cells #[.pointer (some ⟨b,0,none⟩),.pointer (some ⟨xb,0,none⟩),.pointer none,.int .i64 last,.slice none 0 0] 150 (0,0))
section
variable {w w':World} {ab b xb:Nat} {last:Int}
def E1.c0(h:E1 w ab b xb last):A8 w ab 0 (A6 b):=by unfold E1 at h;simp[A8,World.cell?,h]
def E1.c1(h:E1 w ab b xb last):A8 w ab 1 (A6 xb):=by unfold E1 at h;simp[A8,World.cell?,h]
def E1.c2(h:E1 w ab b xb last):A8 w ab 2 (.pointer none):=by unfold E1 at h;simp[A8,World.cell?,h]
def E1.c3(h:E1 w ab b xb last):A8 w ab 3 (A0 last):=by unfold E1 at h;simp[A8,World.cell?,h]
def E1.fz(h:E1 w ab b xb last)(o:Nat):w.frozen? (A9 ab o)=false:=by unfold E1 at h;simp[World.frozen?,h]
def E1.s3(h:E1 w ab b xb last)(x:Int):E1 (w.setCell (A9 ab 3) (A0 x)) ab b xb x:=BL h
def E1.s2(h:E1 w ab b xb last)(d:Nat):D5 (w.setCell (A9 ab 2) (A6 d)) ab b xb d last (.slice none 0 0):=BL h
def E1.fs(h:E1 w ab b xb last):ab<w.heap.size:=By h
def E1.ai{S:Nat->Prop}(h:E1 w ab b xb last)(d:A4 S w w')(z:¬S ab):E1 w' ab b xb last:=d.ai h z
end
def Iy.fJ{S:Nat->Prop}{w w':World}{I b:Nat}{v:Value}{l:List (Int×List Pu)}(h:Iy w I b v l)(O:A4 S w w')(L:∀k,S k->k<I):Iy w' I b v l:=by
 obtain⟨E,h1,W,X,Y⟩:=h;refine⟨E,h1,Aw W λg d=>O.Am g (Ay W d) λz=>by have:=L g z;have:=X g d;omega,X,λk q1 q2=>?_⟩;obtain⟨pv,s1,s2,s3,s4⟩:=Y k q1 q2;exact⟨pv,s1.ai O (λz=>by have:=L _ z;omega),Aw s2 λg d=>O.Am g (Ay s2 d) λz=>by have:=L g z;have:=s4 g d;omega,s3,s4⟩
section
variable {b a c m B:Nat} {P:PD} {Ft:Nat->Prop}
def Za(h:P.aZ=none):Ar.aQ P=.error 7:=by unfold Ar.aQ;rw[h]
def Ze{ix:Ix}(h:P.aZ=some ix)(d:P.Az.any (λnm=>decide ((Bn nm).1=0))=true):Ar.aQ P=.error 7:=by
 unfold Ar.aQ;rw[h];dsimp only;rw[Ai d]
def Z7{ix:Ix}(h:P.aZ=some ix)(d:P.Az.any (λnm=>decide ((Bn nm).1=0))=false)(z:P.segs ix.segs=none):Ar.aQ P=.error 7:=by
 unfold Ar.aQ;rw[h];dsimp only;rw[Ae (by simp[d]),z]
def Z8{ix:Ix}{l:List (Int×List Pu)}(h:P.aZ=some ix)(z:P.Az.any (λnm=>decide ((Bn nm).1=0))=false)(E:P.segs ix.segs=some l)(d:(P.puts (BO ix.B9 P.Az)).2≠0):Ar.aQ P=.error (P.puts (BO ix.B9 P.Az)).2:=by
 unfold Ar.aQ;rw[h];dsimp only;rw[Ae (by simp[z]),E];dsimp only;rw[Ai d]
def Ar.AV(P:PD)(ix:Ix):Ar:=⟨ix,P.bR ix.B9,(G2 P.Az).getLastD 0,[]⟩
def Z9{ix:Ix}{l:List (Int×List Pu)}(h:P.aZ=some ix)(z:P.Az.any (λnm=>decide ((Bn nm).1=0))=false)(E:P.segs ix.segs=some l)(d:(P.puts (BO ix.B9 P.Az)).2=0):
 Ar.aQ P=.ok ({Ar.AV P ix with AR:=(Ar.AV P ix).aU P},l.flatMap (·.2)++(P.puts (BO ix.B9 P.Az)).1):=by
 unfold Ar.aQ;rw[h];dsimp only;rw[Ae (by simp[z]),E];dsimp only;rw[Ae (by simp[d])];rfl
def U3(w:World)(h:Bu w b P Ft)(aA:∀k,Ft k->k<w.heap.size)(hF:Fit P a c m)(hl:CV a c m)(dP:a*m<=70368744177664)(hL:Lets B w)(hE:I3 w)(cP:∀nm∈P.Az,nm.length<=281474976710656)(aN:∀ix,P.aZ=some ix->ix.segs.length<=1073741824/\ix.segs.length*m<=4398046511104)(bT:∀bJ,(P.puts (BO bJ P.Az)).1.length<=1099511627776):
 Ag 59 #[A6 b] w λe w'=>
  (∃n,Ar.aQ P=.error n/\e=.returned (.tuple #[.pointer none,.slice none 0 0,A0 n])/\A4 Aa w w')\/
  (∃A ps ab v FT,Ar.aQ P=.ok (A,ps)/\e=.returned (.tuple #[A6 ab,v,A0 0])/\B5 w' v ps/\AD w' ab b A P FT/\(∀k,FT k->Ft k\/w.heap.size<=k)/\(∀k,FT k->k<w'.heap.size)/\(∀g,v.ownBlock=some g->¬FT g/\w.heap.size<=g)/\A4 Aa w w'):=by
 obtain⟨i0,hi,dN,eH,eB⟩:=DG J2;have eW:=A1 (Yn w h aA hF hl hL);have LI:Hid (∀d,A4 Aa w d->Ag 76 #[A6 b] d λe w'=>∃v,e=.returned v/\Dm w' v P.Az/\A4 Aa d w'/\(∀g,v.ownBlock=some g->d.heap.size<=g)):=λd hc=>Og (AU.au h aA hc) hF hl;have eY:Hid (∀d,A4 Aa w d->∀nm∈P.Az,Ag 97 #[.string ⟨nm.toArray⟩] d (Aj (.tuple #[A0 (Bn nm).1,A0 (Bn nm).2]) λw'=>A4 Aa d w')):=λd hc nm hm=>Sd d nm (cP nm hm) (hE.aM hc) (hL.aM hc);have bO:P.Az.length<=a:=by rw[Kx];exact hF.A5
 have bU:P.Az.length<=1073741824:=AQ bO hl.a;have eZ:Hid (∀ix,P.aZ=some ix->∀d ab xb sv,A4 Aa w d->A8 d ab 0 (A6 b)->A8 d ab 1 (A6 xb)->A8 d xb 4 sv->D6 d sv ix.segs->_):=
  λix Y d ab xb sv hc h0 h1 h4 hs=>Xf (ab:=ab) (xb:=xb) (sv:=sv) d ix.segs h0 h1 h4 hs (AU.au h aA hc) (λk z=>Bi (aA k z) hc.Al) hF hl (λn hn=>by have:=(Mg Y).2 n hn;exact Hq (by omega) this.2) (aN ix Y).1 (hL.aM hc)
 have e0:Hid (∀ix,P.aZ=some ix->∀d,A4 Aa w d->_):=λix Y d hc=>A0k d (AU.au h aA hc) (λk z=>Bi (aA k z) hc.Al) hF hl dP (Mg Y).1 (hL.aM hc) (hE.aM hc) cP;have e4:Hid (∀ix,P.aZ=some ix->∀d ab xb jb sv lv,A4 Aa w d->Cn d ab b xb jb sv (.slice none 0 0) lv (.pointer none) (Ar.AV P ix) P Ft->_):=λix Y d ab xb jb sv lv hc hv=>
  RD d hv hF hl (λn hn=>by have:=(Mg Y).2 n hn;exact Hq (by omega) this.2) (λn hn=>by obtain⟨_,h2,_⟩:=Od hn;exact Hq (by omega) h2.2) (aN ix Y).1 (AQ (M6 _ _) bU) (hL.aM hc)
 have e3:Hid (∀ix,P.aZ=some ix->∀l,P.segs ix.segs=some l->∀d dG v,Iy d dG b v l->(Ag 101 #[v] d λe w'=>∃v',e=.returned v'/\B5 w' v' (l.flatMap (·.2))/\(∀g,v'.ownBlock=some g->d.heap.size<=g)/\A4 Aa d w')/\(l.flatMap (·.2)).length<=4398046511104):=λix Y l hs d dG v hv=>by
  obtain⟨s1,s2⟩:=QD hF ix.segs l hs;refine⟨YJ d dG v l hv (by rw[s1];exact(aN ix Y).1) s2 (by rw[s1];exact(aN ix Y).2),AQ ?_ (aN ix Y).2⟩;rw[<-s1];clear hs s1 hv
  induction l with
  | nil=>exact Ce _
  | cons x r ih=>
   have:=ih (λy hy=>s2 y (BW _ hy));have:=s2 x BQ;rw[MZ,Ba,Cq,MO];omega
 have eO:=A1 (Za (P:=P));have eM:=A1 (λix=>Ze (P:=P) (ix:=ix));have eS:=A1 (λix=>Z7 (P:=P) (ix:=ix));have eR:=A1 (λix l=>Z8 (P:=P) (ix:=ix) (l:=l));have eP:=A1 (λix l=>Z9 (P:=P) (ix:=ix) (l:=l));have dY:=A1 bT;have eQ:Hid (∀d,A4 Aa w d->Bu d b P Ft):=λd hc=>AU.au h aA hc;have aW:=A1 aA;have FIX:=A1 (λ(ix:Ix) (Y:P.aZ=some ix)=>(Mg Y).1);generalize hO:Ar.aQ P=O at eO eM eS eR eP ⊢
 go_enter func59,ntmps59
 go_wp2_with (fail);refine eW.m ?_;rintro e d (⟨Y,rfl,hc1⟩|⟨ix,xb,sv,Y,rfl,hfx,hsv,hso,hxb,hc1⟩)
 ·have aV:=A1 (eO.o Y);have dQ:=A1 hc1;go_wp2;go_ret3;exact .inl ⟨7,aV.o,rfl,dQ.o⟩
 have eC:E1 (d.aC #[A6 b,A6 xb,.pointer none,A0 0,.slice none 0 0] 150) d.heap.size b xb 0:=Bf d _;have eU:Hid (A4 Aa d (d.aC #[A6 b,A6 xb,.pointer none,A0 0,.slice none 0 0] 150)):=(A4.C _ d).ah _;have cS:=A1 hc1;have eG:=A1 (LI.o _ (cS.o.tr eU.o));have aV:=A1 Y;have bM:=A1 hfx;have bI:=A1 hsv;have bR:=A1 hso;have aZ:=A1 hxb;have dW:=A1 eC;have dB:Hid (d.heap.size<(d.aC #[A6 b,A6 xb,.pointer none,A0 0,.slice none 0 0] 150).heap.size):=by unfold Hid;simp
 go_wp2_with (fail);refine eG.m ?_;rintro e w2⟨v,rfl,hv,b7,eA⟩;obtain⟨na,cO,rfl,nc1,dK⟩:=(Dm.rd hv).BP;unfold maxLen at dK;have e5:=A1 (Dm.rd hv);have cD:Hid (A4 Aa d w2):=eU.o.tr b7;have eT:=A1 (dW.o.ai b7 (λh=>h));have b0:Hid (∀g,(Value.slice na P.Az.length cO).ownBlock=some g->d.heap.size<g):=λg I=>Bi dB.o (eA g I);generalize eE:d.heap.size=ab at eT b0 ⊢;have aL:=A1 eE;go_wp2;go_loopw [30] (λiv wr=>∃k:Nat,iv=A0 k/\k<=P.Az.length/\Hid (E1 wr ab b xb ((G2 (P.Az.take k)).getLastD 0)/\(P.Az.take k).any (λnm=>decide ((Bn nm).1=0))=false/\A4 Aa w wr/\A4 (One ab) w2 wr)) (λiv _=>P.Az.length-(intOf iv).toNat)
 case atStart=>exact⟨0,rfl,by omega,eT.o,by simp,cS.o.tr cD.o,A4.C _ _⟩
 case round=>
  obtain⟨k,rfl,z,hI⟩:=hrel;obtain⟨i1,i2,i3,i4⟩:=hI.o;by_cases aR:k<P.Az.length
  ·obtain⟨g,o,rfl,d1⟩:=GK.at e5.o k aR;have aP:=BT aR;have bN:P.Az.take (k+1)=P.Az.take k++[P.Az[k]'aR]:=DL aR;generalize a5:(P.Az[k]'aR)=nm at d1 aP bN;have e1:=i4.bD d1 (λh=>by have h':g=ab:=h;have:=b0.o g rfl;omega);have aT:=A1 (eY.o wr i3 nm aP);have bP:=Se nm;have aJ:Hid ((G2 (P.Az.take (k+1))).getLastD 0=if (Bn nm).1=2 then (Bn nm).2 else (G2 (P.Az.take k)).getLastD 0):=by
    unfold Hid;rw[bN,Xm];by_cases hc:(Bn nm).1=2
    ·(have e:G2 [nm]=[(Bn nm).2]:=by simp[G2,hc]);rw[Ai hc,e,Tg]
    ·(have e:G2 [nm]=[]:=by simp[G2,hc]);rw[Ae hc,e,EF]
   (have aX:Hid (¬(Bn nm).1=0->(P.Az.take (k+1)).any (λnm=>decide ((Bn nm).1=0))=false):=λhz=>by rw[bN,List.any_append,i2];simp[hz]);have aQ:Hid ((Bn nm).1=0->P.Az.any (λnm=>decide ((Bn nm).1=0))=true):=λhz=>A3T.2 ⟨nm,aP,by simp[hz]⟩;generalize hX:Bn nm=X at aT aJ aX aQ bP;obtain⟨s,n⟩:=X;dsimp only at aT aJ aX aQ bP;obtain⟨r1,r2⟩:=bP;have b3:=A1 i1;have bG:=A1 i3;have dX:=A1 i4;(have dM:(k:Int)<(P.Az.length:Int):=by omega);have hk0:=BR k;by_cases bE:s=0
   ·subst bE;have aM:=A1 (eM.o ix aV.o (aQ.o rfl));go_wp2_with (go_at_call 97;refine aT.m ?_;rintro e w6⟨rfl,aD⟩;have aH:=A1 aD);go_ret3;exact .inl ⟨7,aM.o,rfl,bG.o.tr aH.o⟩
   ·(have hsb0:(s==0)=false:=by simpa using bE);by_cases a7:s=2
    ·subst a7;(have bL:Hid ((G2 (P.Az.take (k+1))).getLastD 0=n):=by rw[aJ.o,Ai rfl];rfl);go_wp2_with (fail);refine aT.m ?_;rintro e w6⟨rfl,aD⟩;have eD:=b3.o.ai aD (λh=>h);have g63:=eD.c3;have f63:=eD.fz 3;have dH:=A1 (eD.s3 n);have aH:=A1 aD;go_wp2;go_roundw
     case rel=>
      have k7:A4 (One ab) wr (w6.sC ab 3 (A0 n)):=(aH.o.ad (S':=One ab) λ_ _ h=>h.elim).aj (b:=ab) rfl 3 _;exact⟨k+1,by go_num,by omega,by rw[bL.o];exact dH.o,aX.o (by decide),bG.o.Au k7 λx Y aA=>by have e':x=ab:=Y;have:=aL.o;have:=cS.o.Al;omega,dX.o.tr k7⟩
     case measure=>simp[intOf];omega
    ·(have hsb2:(s==2)=false:=by simpa using a7);(have bL:Hid ((G2 (P.Az.take (k+1))).getLastD 0=(G2 (P.Az.take k)).getLastD 0):=by rw[aJ.o,Ae a7];rfl);have bZ:=A1 (aX.o bE);go_wp2_with (go_at_call 97;refine aT.m ?_;rintro e w6⟨rfl,aD⟩;have aH:=A1 aD);go_roundw
     case rel=>exact⟨k+1,by go_num,by omega,by rw[bL.o];exact b3.o.ai aH.o (λh=>h),bZ.o,bG.o.tr aH.o,dX.o.Au aH.o λ_ h _=>h.elim⟩
     case measure=>simp[intOf];omega
  ·(have dA:k=P.Az.length:=by omega);subst dA;rw[Cc]at i1 i2;(have dM:¬((P.Az.length:Int)<(P.Az.length:Int)):=by omega);have b5:A4 (One ab) d wr:=(cD.o.ad (S':=One ab) λ_ _ h=>h.elim).tr i4;(have b8:xb≠ab:=by have:=bM.o.lt;have:=aL.o;omega);have bY:=bM.o.ai b5 b8;(have cL:D6 wr sv ix.segs:=Dt.An bI.o b5 λg I h=>by have h':g=ab:=h;have:=Dt.lt bI.o I;have:=aL.o;omega);have eJ:=A1 (eZ.o ix aV.o wr ab xb sv i3 i1.c0 i1.c1 bY.c4 cL);have b3:=A1 i1;have eI:=A1 i2;have bG:=A1 i3;have dX:=A1 i4;have b1:=A1 b8;have cE:=A1 bY;have dV:=A1 cL;have cQ:Hid (ab<wr.heap.size):=b3.o.fs;go_wp2_with (fail);refine eJ.m ?_;rintro e w3 (⟨hs,rfl,hc3⟩|⟨l,v3,hs,rfl,hv3,hc3⟩)
   ·have aM:=A1 (eS.o ix aV.o eI.o hs);have aI:=A1 hc3;go_wp2;go_ret3;exact .inl ⟨7,aM.o,rfl,bG.o.tr aI.o⟩
   have d3:=(cE.o.ai hc3 (λh=>h)).c3;have aO:=A1 hs;have cY:=A1 hv3;have aI:=A1 hc3;have dC:Hid (A4 Aa w w3):=bG.o.tr hc3;have eK:=A1 (e0.o ix aV.o w3 dC.o);have eL:=A1 (eR.o ix l aV.o eI.o aO.o);have dT:=A1 (eP.o ix l aV.o eI.o aO.o);have cI:=A1 (dY.o ix.B9);go_wp2_with (fail);refine eK.m ?_;rintro e w4 (⟨hp,rfl,hc4⟩|⟨hp,jb,lv,v4,rfl,hj,hv4,hjf,hvo4,hc4⟩)
   ·have aM:=A1 (eL.o hp);have bB:=A1 hc4;generalize (P.puts (BO ix.B9 P.Az)).2=E at hp aM ⊢;(have bT:(E !=0)=true:=by simpa using hp);go_wp2;go_ret3;exact .inl ⟨E,aM.o,rfl,dC.o.tr bB.o⟩
   have dL:=A1 (dT.o hp);have hpe:(P.puts (BO ix.B9 P.Az)).2=0:=hp;have b4:=b3.o.ai (aI.o.tr hc4) (λh=>h);have g42:=b4.c2;have f42:=b4.fz 2;have eV:=A1 (b4.s2 jb);have aS:A4 (One ab) w4 (w4.sC ab 2 (A6 jb)):=(A4.C (One ab) w4).aj (b:=ab) rfl 2 _;have cN:A4 (One ab) w3 (w4.sC ab 2 (A6 jb)):=(hc4.ad (S':=One ab) λ_ _ h=>h.elim).tr aS;have bS:A4 (One ab) wr (w4.sC ab 2 (A6 jb)):=(aI.o.ad (S':=One ab) λ_ _ h=>h.elim).tr cN;(have bX:w.heap.size<=ab:=by have:=aL.o;have:=cS.o.Al;omega);(have cT:A4 Aa w (w4.sC ab 2 (A6 jb)):=bG.o.Au bS λx Y aA=>by have e':x=ab:=Y;omega);have hr3:wr.heap.size<=w3.heap.size:=aI.o.Al;(have aE:∀g,sv.ownBlock=some g->g<ab:=λg I=>by have:=Dt.lt bI.o I;have:=aL.o;omega);(have bD:xb<ab:=by have:=bM.o.lt;have:=aL.o;omega);(have aB:∀k,De jb lv (.pointer none) k->ab<k:=λk z=>by have:=hjf k z;have:=cQ.o;omega);(have j5:DA (w4.sC ab 2 (A6 jb)) jb b lv (.pointer none) (P.bR ix.B9):=hj.An aS λk z h=>by have e':k=ab:=h;have:=aB k z;omega);have eN:Cn (w4.sC ab 2 (A6 jb)) ab b xb jb sv (.slice none 0 0) lv (.pointer none) (Ar.AV P ix) P Ft:=
    ⟨eV.o,cE.o.ai bS b1.o,Dt.An dV.o bS (λg I h=>by have e':g=ab:=h;have:=aE g I;omega),Dt.bN,j5,eQ.o _ cT,λk z=>Bi (aW.o k z) cT.Al,
     λk z hf=>by
      have h0:=aW.o k hf;rcases z with rfl|rfl|z|z|z
      ·omega
      ·have:=aZ.o;omega
      ·have:=bR.o k z;have:=aZ.o;omega
      ·simp[Value.ownBlock]at z
      ·have:=aB k z;omega,
     λg I=>⟨by have:=aE g I;omega,by have:=bR.o g I;omega,λh=>by have:=aB g h;have:=aE g I;omega⟩,
     λg I=>by simp[Value.ownBlock]at I,
     λk z=>⟨by have:=aB k z;omega,by have:=aB k z;omega⟩⟩
   have dF:=A1 (e4.o ix aV.o _ ab xb jb sv lv cT eN);have aU:=A1 eN;have cH:=A1 hv4;have a2:=A1 hvo4;have bB:=A1 hc4;have cZ:=A1 cN;have dD:=A1 cT;have aF:=A1 bX;have bQ:=A1 aE;have bF:=A1 bD;have a3:=A1 aB;obtain⟨bV,cC,rfl,v41,eF,-⟩:=Bk hv4;unfold maxLen at eF;go_wp2_with (fail);refine dF.m ?_;rintro e w6⟨v5,v6,rfl,b9,-,bW,-,aD⟩;obtain⟨W,L,rfl,v51,dU,-⟩:=Bk b9;unfold maxLen at dU;have b6:=eV.o.ai aD (λh=>h);have g64:=b6.c4;have f64:=b6.fz 4;have dH:=A1 (b6.s4 (Value.slice W ((Ar.AV P ix).aU P).length L));have aS:A4 (One ab) w6 (w6.sC ab 4 (Value.slice W ((Ar.AV P ix).aU P).length L)):=(A4.C (One ab) w6).aj (b:=ab) rfl 4 _;have aK:A4 (One ab) (w4.sC ab 2 (A6 jb)) (w6.sC ab 4 (Value.slice W ((Ar.AV P ix).aU P).length L)):=(aD.ad (S':=One ab) λ_ _ h=>h.elim).tr aS;(have bK:A4 Aa w (w6.sC ab 4 (Value.slice W ((Ar.AV P ix).aU P).length L)):=dD.o.Au aK λx Y aA=>by have e':x=ab:=Y;have:=aF.o;omega);(have h45:w4.heap.size<=(w4.sC ab 2 (A6 jb)).heap.size:=by simp);(have aG:∀g,(Value.slice W ((Ar.AV P ix).aU P).length L).ownBlock=some g->w4.heap.size<=g:=λg I=>by have:=bW g I;omega);(have h34:ab<w4.heap.size:=by have:=cQ.o;have:=aI.o.Al;have:=bB.o.Al;omega);have e2:Cn (w6.sC ab 4 (Value.slice W ((Ar.AV P ix).aU P).length L)) ab b xb jb sv (Value.slice W ((Ar.AV P ix).aU P).length L) lv (.pointer none) {Ar.AV P ix with AR:=(Ar.AV P ix).aU P} P Ft:=
    ⟨dH.o,aU.o.ix.ai aK b1.o,Dt.An aU.o.segs aK (λg I h=>by have e':g=ab:=h;have:=bQ.o g I;omega),
     Dt.An (Dm.rd b9) aS (λg I h=>by have e':g=ab:=h;have:=aG g I;omega),
     aU.o.jn.An aK (λk z h=>by have e':k=ab:=h;have:=a3.o k z;omega),eQ.o _ bK,λk z=>Bi (aW.o k z) bK.Al,
     λk z hf=>by
      rcases z with h|h|h|h|h
      ·exact aU.o.Dc k (.inl h) hf
      ·exact aU.o.Dc k (.inr (.inl h)) hf
      ·exact aU.o.Dc k (.inr (.inr (.inl h))) hf
      ·have:=aG k h;have:=aW.o k hf;have:=aF.o;omega
      ·exact aU.o.Dc k (.inr (.inr (.inr (.inr h)))) hf,
     aU.o.Fz,
     λg I=>⟨by have:=aG g I;omega,by have:=aG g I;have:=bF.o;omega,λh=>by have:=bW g I;have:=aU.o.jn.lt h;omega⟩,
     aU.o.FQ⟩
   have cF:Hid (∀k,Fv ab xb jb sv (Value.slice W ((Ar.AV P ix).aU P).length L) lv (.pointer none) k->w.heap.size<=k):=λk z=>by
    rcases z with rfl|rfl|h|h|h
    ·exact aF.o
    ·exact aZ.o
    ·have:=bR.o k h;have:=aZ.o;omega
    ·have:=aG k h;have:=aF.o;omega
    ·have:=a3.o k h;have:=aF.o;omega
   have dO:A4 (One ab) w3 (w6.sC ab 4 (Value.slice W ((Ar.AV P ix).aU P).length L)):=cZ.o.tr aK;have a8:=e3.o ix aV.o l aO.o (w6.sC ab 4 (Value.slice W ((Ar.AV P ix).aU P).length L)) wr.heap.size v3 (cY.o.fJ dO λk z=>by have e':k=ab:=z;have:=cQ.o;omega);have a4:=dL.o;generalize hPL:l.flatMap (·.2)=PL at a8 a4;have cU:=A1 a4;have dE:=A1 a8.1;have dR:=A1 a8.2;have b2:=A1 e2;have bH:=A1 bK;have a0:Hid (B5 (w6.sC ab 4 (Value.slice W ((Ar.AV P ix).aU P).length L)) (.slice bV (P.puts (BO ix.B9 P.Az)).1.length cC) (P.puts (BO ix.B9 P.Az)).1):=Aw cH.o λg I=>by
    have h1:=a2.o g I;have hlt4:=Ay cH.o I;(have a5:g≠ab:=by have:=cQ.o;have:=aI.o.Al;omega);have e1:=aK.Am g (by omega) (λh=>a5 h);rw[e1];exact Fg _ _ _ _ (λe=>a5 e)
   (have HO47:Hid (∀g,(Value.slice bV (P.puts (BO ix.B9 P.Az)).1.length cC).ownBlock=some g->w.heap.size<=g):=λg I=>by have:=a2.o g I;have:=dC.o.Al;omega);go_wp2_with (fail);refine dE.m ?_;rintro e w8⟨v8,rfl,cG,cV,cA⟩;obtain⟨bC,bA,rfl,v81,dS,-⟩:=Bk cG;unfold maxLen at dS;have dZ:=A1 cG;have a6:=A1 cV;have cJ:=A1 cA;have cM:=A1 (Src.bO underlying97 (Aw a0.o λg I=>cA.Am g (Ay a0.o I) (λh=>h)) (Hp (P.puts (BO ix.B9 P.Az)).1));(have cX:Hid ((PL.length+(P.puts (BO ix.B9 P.Az)).1.length)*24<=140737488355328):=by have:=dR.o;have:=cI.o;unfold Hid;omega);go_wp2_with (at_builtin;refine CZ rfl (.tmp 84) (.tmp 85) 97 97 rfl 113 i0 _ 3 24 underlying97 hi dN eH eB rfl (by decide) (.slice bC PL.length bA) PL.length (AZ PL) (by rfl) dZ.o _ (P.puts (BO ix.B9 P.Az)).1.length _ (by rfl) cM.o cX.o ?_;intro a9 cB w9 hA;have eX:=A1 hA);go_ret3;have hA:=eX.o;have dI:=hA.An (S:=λk=>(Value.slice bC PL.length bA).ownBlock=some k) λ_ h=>h;have aY:A4 (λk=>(Value.slice bC PL.length bA).ownBlock=some k) (w6.sC ab 4 (Value.slice W ((Ar.AV P ix).aU P).length L)) w9:=(cJ.o.ad λ_ _ h=>h.elim).tr dI;have dJ:=cJ.o.Al;have a1:∀g,(Value.slice a9 (PL.length+(P.puts (BO ix.B9 P.Az)).1.length) cB).ownBlock=some g->(w6.sC ab 4 (Value.slice W ((Ar.AV P ix).aU P).length L)).heap.size<=g:=λg I=>by
    rcases hA.BS with h|h
    ·rw[h]at I;exact a6.o g I
    ·rw[h]at I;cases I;exact dJ
   refine .inr ⟨_,_,ab,_,λk=>Ft k\/Fv ab xb jb sv (Value.slice W ((Ar.AV P ix).aU P).length L) lv (.pointer none) k,cU.o,rfl,?_,⟨xb,jb,sv,(Value.slice W ((Ar.AV P ix).aU P).length L),lv,.pointer none,Ft,b2.o.aI (λk z=>aY.Am k (b2.o.bU z) λh=>by have:=a6.o k h;have:=b2.o.bU z;omega) aY.Al,λ_ h=>h⟩,λk z=>?_,λk z=>Bi (b2.o.bU z) aY.Al,λg I=>⟨λhf=>?_,?_⟩,?_⟩
   ·(have e:(PL++(P.puts (BO ix.B9 P.Az)).1).length=PL.length+(P.puts (BO ix.B9 P.Az)).1.length:=by simp);unfold B5;rw[Ib,e];exact hA.AE
   ·rcases z with z|z
    ·exact .inl z
    ·exact .inr (cF.o k z)
   ·have:=a1 g I;have:=b2.o.bU hf;omega
   ·have:=a1 g I;have:=bH.o.Al;omega
   ·exact bH.o.Au aY λx Y aA=>by have:=a6.o x Y;have:=bH.o.Al;omega
end




end
section
open Go.RowKit
attribute [local go_sem ↓] Go.wp_at_zero Go.wp_at_succ
def Tryz.fp:(Tryz.prog.info? 70).map (λi=>(i.zero,i.size,i.bytes))=some (some (.agg #[A0 0,A0 0]),2,16):=by kernel_rfl
def Gi(d a b life A7:Int)(p:Pu):Bool:=decide (p.1=d)&&decide (a<=p.2.1)&&decide (p.2.1<=b)&&FF p.2.1 life A7
def Fi(d a b life A7:Int)(l:List Pt)(p:Pu):List Pt:=if Gi d a b life A7 p then C2 l p.2.1 p.2.2 else l
def refQ(puts:List Pu)(d a b life A7:Int):List Pt:=puts.foldl (Fi d a b life A7) []
def Oo(l:List Pt)(t v:Int):l.length<=(C2 l t v).length/\(C2 l t v).length<=l.length+1:=by
 induction l with
 | nil=>simp[C2]
 | cons e r ih=>
  obtain⟨a,b⟩:=e;simp only[C2];split
  ·simp only[Cq];omega
  ·split<;>simp only[Cq]<;>omega
def Rc(puts:List Pu)(k:Nat)(h:k<puts.length)(d a b life A7:Int):refQ (puts.take (k+1)) d a b life A7=Fi d a b life A7 (refQ (puts.take k) d a b life A7) (puts[k]'h):=by
 unfold refQ;rw[DL h,MY];rfl
def NL(puts:List Pu)(d a b life A7:Int)(k:Nat)(hk:k<=puts.length):Dz (refQ (puts.take k) d a b life A7)/\(refQ (puts.take k) d a b life A7).length<=k:=by
 induction k with
 | zero=>simp[refQ,Dz]
 | succ k ih=>
  obtain⟨h,h2⟩:=ih (by omega);rw[Rc puts k (by omega)];unfold Fi;split
  ·have:=(Oo (refQ (puts.take k) d a b life A7) (puts[k]'(by omega)).2.1 (puts[k]'(by omega)).2.2).2;exact⟨KJ h _ _,by omega⟩
  ·exact⟨h,by omega⟩
def T6{l:List Pt}{t:Int}(v:Int){j:Nat}(d:BB l t=j)(z:∀h:j<l.length,(l[j]'h).1≠t):C2 l t v=l.take j++(t,v):: l.drop j:=by
 rw[Oq,d];have:(l[j]?).any (λx=>x.1==t)=false:=by
  by_cases h:j<l.length
  ·rw[DQ h];simpa using z h
  ·rw[Lg (by omega)];rfl
 rw[this];simp
def A0I{l:List Pt}{t:Int}(v:Int){j:Nat}(d:BB l t=j)(h:j<l.length)(z:(l[j]'h).1=t):C2 l t v=l.set j (t,v):=by
 rw[Oq,d];have:(l[j]?).any (λx=>x.1==t)=true:=by rw[DQ h];simpa using z
 rw[this,A3E];simp[h]
def X9(l:List Pt)(x:Pt)(i:Nat)(d:i<l.length):(l.take (i+1)++x::l.drop (i+1)).set (i+1) (l[i]'d)=l.take i++(l[i]'d):: l.drop i:=by
 have h:(l.take (i+1)).length=i+1:=by simp;omega
 rw[IB _ _ (by omega),h,MP,UE,DL d,C8,FW d];rfl
def RB(l:List Pt)(x y:Pt)(i:Nat)(hi:i<=l.length):(l.take i++x::l.drop i).set i y=l.take i++y::l.drop i:=by
 have d:(l.take i).length=i:=by simp;omega
 rw[IB _ _ (by omega),d,MP,UE]
def Rp(w:World)(pv:Value)(puts:List Pu)(m:Nat)(hp:GL w pv puts)(hm:m<=puts.length)(hl:puts.length<1099511627776)(hP:∀p∈puts,Ax p.2.1)(d a b life A7:Int)(bK:1<=life/\life<=4611686018427387904)(a2:Ax A7):
 Ag 92 #[pv,A0 m,A0 d,A0 a,A0 b,A0 life,A0 A7] w λe w'=>∃v,e=.returned v/\Cb w' v (refQ (puts.take m) d a b life A7)/\A4 Aa w w'/\∀g,v.ownBlock=some g->w.heap.size<=g:=by
 obtain⟨ap,cp,rfl,hp1,cF,bD⟩:=hp.BP;unfold maxLen at cF;have cS:=A1 bD;have cQ:=A1 bK;have cN:=A1 a2;have cJ:=A1 hP;obtain⟨i0,bX,bR,bZ,bU⟩:=DG Tryz.fp
 go_enter func92,ntmps92
 go_wp2;go_loopw [15,16] (λlv iv wr=>∃k:Nat,k<=m/\iv=A0 k/\Hid (Cb wr lv (refQ (puts.take k) d a b life A7))/\Hid (A4 Aa w wr)/\Hid (∀g,lv.ownBlock=some g->w.heap.size<=g)) (λ_ iv _=>m-(intOf iv).toNat)
 case atStart=>exact⟨0,Ce _,rfl,Cp _ _ _ _,A4.C _ _,by simp[Hid,Value.ownBlock]⟩
 case round=>
  obtain⟨k,hk,rfl,a6,aY,aF⟩:=hrel;obtain⟨w0,cI⟩:∃w0,w0=wr:=⟨_,rfl⟩;subst cI;by_cases hlk:k<m
  ·obtain⟨g,rfl,I,q1,q2,q3⟩:=cS.o k (by omega);obtain⟨⟨s,t,v⟩,hx⟩:∃p,puts[k]'(by omega)=p:=⟨_,rfl⟩;rw[hx]at q1 q2 q3;have cA:(s,t,v)∈puts:=hx ▸ BT _;have q1:=(Dy (aY.o.Am g I (λh=>h))).trans q1;have q2:=(Dy (aY.o.Am g I (λh=>h))).trans q2;have q3:=(Dy (aY.o.Am g I (λh=>h))).trans q3;obtain⟨L,hL⟩:∃L,refQ (puts.take k) d a b life A7=L:=⟨_,rfl⟩;have bQ:=NL puts d a b life A7 k (by omega);rw[hL]at bQ a6;obtain⟨a8,aN⟩:=bQ;have b9:=A1 a8;obtain⟨al,bP⟩:∃al,FF t life A7=al:=⟨_,rfl⟩;have aV:Hid (∀W:World,Ag 123 #[A0 t,A0 life,A0 A7] W (Aj (.bool al) λw'=>W=w')):=λW=>by
    rw[<-bP];exact A3h t life A7 W (cJ.o _ cA) cQ.o cN.o cN.o.2
   have bW:Hid (refQ (puts.take (k+1)) d a b life A7=if decide (s=d)&&decide (a<=t)&&decide (t<=b)&&al then C2 L t v else L):=by
    unfold Hid;rw[Rc puts k (by omega),hL,hx];simp only[Fi,Gi,bP]
   have hi0':(0:Int)<=(k:Int):=Ge _;(have hi1':(k:Int)<(puts.length:Int):=by omega);have b3:Hid (Cb (w0.aC #[A0 s,A0 t,A0 v] 141) u15 L):=Aw a6.o λg I=>CQ _ _ _ (Ay a6.o I);have cO:Hid (A4 Aa w (w0.aC #[A0 s,A0 t,A0 v] 141)):=aY.o.ah _;have aO:Hid ((decide (s=d)&&decide (a<=t)&&decide (t<=b)&&al)=false->∃k':Nat,k'<=m/\A0 ((k:Int)+1)=A0 k'/\Hid (Cb (w0.aC #[A0 s,A0 t,A0 v] 141) u15 (refQ (puts.take k') d a b life A7))/\Hid (A4 Aa w (w0.aC #[A0 s,A0 t,A0 v] 141))/\Hid (∀g,u15.ownBlock=some g->w.heap.size<=g)):=λhf=>
    ⟨k+1,by omega,by go_num,by unfold Hid;rw[bW.o,hf];exact b3.o,cO.o,aF.o⟩
   (have hkm:(k:Int)<(m:Int):=by omega);by_cases hs:s=d
   ·subst hs;by_cases hf:t<a
    ·have hr:=A1 (show ¬a<=t by omega);go_wp2_with (go_at_call 123;refine(aV.o _).mono ?_;rintro e w'⟨rfl,rfl⟩);go_roundw
     case rel=>exact aO.o (by have h0:decide (a<=t)=false:=Cu (by have:=hr.o;omega);simp[h0])
     case measure=>simp[intOf];omega
    ·(have b4:a<=t:=by omega);by_cases ht:b<t
     ·have hr:=A1 (show ¬t<=b by omega);go_wp2_with (go_at_call 123;refine(aV.o _).mono ?_;rintro e w'⟨rfl,rfl⟩);go_roundw
      case rel=>exact aO.o (by have h0:decide (t<=b)=false:=Cu (by have:=hr.o;omega);simp[h0])
      case measure=>simp[intOf];omega
     ·(have b5:t<=b:=by omega);cases al with
      | false=>
       go_wp2_with (go_at_call 123;refine(aV.o _).mono ?_;rintro e w'⟨rfl,rfl⟩);go_roundw
       case rel=>exact aO.o (by simp)
       case measure=>simp[intOf];omega
      | true=>
       (have a9:Hid (refQ (puts.take (k+1)) s a b life A7=C2 L t v):=by have:=bW.o;unfold Hid;simpa[b4,b5] using this);obtain⟨aL,cL,rfl,hcl1,bN,bO,_,_⟩:=Bk b3.o;unfold maxLen at bN;have cB:=A1 bO;have b6:=Bf w0 (.cells #[A0 s,A0 t,A0 v] 141);have cT:=A1 b6;go_wp2_with (go_at_call 123;refine(aV.o _).mono ?_;rintro e w'⟨rfl,rfl⟩);go_loopw [19] (λav wq=>∃j:Nat,j<=L.length/\av=A0 j/\Hid (∀i (hi:i<L.length),i<j->(L[i]'hi).1<t)/\Hid (A4 Aa (w0.aC #[A0 s,A0 t,A0 v] 141) wq)) (λav _=>L.length-(intOf av).toNat)
       case atStart=>exact⟨0,Ce _,rfl,λi hi h=>by omega,A4.C _ _⟩
       case round=>
        obtain⟨j,hj,rfl,aB,a4⟩:=hrel;obtain⟨O,b7⟩:∃O,O=wr:=⟨_,rfl⟩;subst b7;have bB:O.heap[w0.heap.size]?=some (.cells #[A0 s,A0 t,A0 v] 141 (0,0)):=(a4.o.Am _ (by simp) (λh=>h)).trans cT.o;(have b1:A8 O w0.heap.size 1 (A0 t):=by simp[A8,World.cell?,bB]);(have b2:A8 O w0.heap.size 2 (A0 v):=by simp[A8,World.cell?,bB]);have a5:=A1 bB;have aK:Hid (Cb O (.slice aL L.length cL) L):=Aw b3.o λg I=>a4.o.Am g (Ay b3.o I) (λh=>h);have aT:Hid (A4 Aa w O):=cO.o.tr a4.o;by_cases aQ:j<L.length
        ·obtain⟨g2,rfl⟩:=cB.o (by omega);obtain⟨⟨tj,vj⟩,bS⟩:∃x,L[j]'aQ=x:=⟨_,rfl⟩;obtain⟨d1,d2⟩:=aK.o.bn j aQ;rw[bS]at d1 d2;have aP:=A1 bS;have j0:=BR j;(have j1:(j:Int)<(L.length:Int):=by omega);by_cases cG:tj<t
         ·go_wp2;go_quiet (fail);go_wp2;go_roundw
          case rel=>
           refine⟨j+1,by omega,by go_num,λi hi h=>?_,a4.o.aX _⟩;by_cases bA:i=j
           ·subst bA;rw[aP.o];exact cG
           ·exact aB.o i hi (by omega)
          case measure=>simp[intOf];omega
         ·(have bV:t<=tj:=by omega);have a0:Hid (BB L t=j):=LV b9.o hj aB.o λi hi h=>by
           by_cases bA:i=j
           ·subst bA;rw[aP.o];exact bV
           ·have:=Lb.1 b9.o j i aQ hi (by omega);rw[aP.o]at this;simp only at this;omega
          by_cases bG:tj=t
          ·subst bG;have aE:Hid (∀n,Cb ((O.drewN n).sC g2 (j*2+1) (A0 v)) (AB g2 L.length cL) (C2 L tj v)/\A4 Aa w ((O.drewN n).sC g2 (j*2+1) (A0 v))):=by
            intro n;have s1:=(aK.o.stored (j*2+1) (A0 v)).1;rw[YE L j v aQ,aP.o]at s1;have b0:C2 L tj v=L.set j (tj,v):=A0I v a0.o aQ (by rw[aP.o]);refine⟨?_,?_⟩
            ·rw[b0];unfold Cb;rw[Hi];exact Aw s1 λg _=>rfl
            ·have hgw:w.heap.size<=g2:=aF.o g2 rfl;exact(aT.o.aX n).a1 (p:=(A9 g2 (j*2+1))) (λh=>by simp at h;omega) (A0 v)
           have gz:O.frozen? (A9 g2 (j*2+1))=false:=Ez aK.o rfl _;go_wp2;go_quiet (fail);go_wp2;go_quiet (fail);go_wp2;go_roundw
           case rel=>
            exact⟨k+1,by omega,by go_num,by unfold Hid;rw[a9.o];exact(aE.o _).1,(aE.o _).2,aF.o⟩
           case measure=>simp[intOf];omega
          ·(have aR:Hid (C2 L t v=L.take j++(t,v):: L.drop j):=T6 v a0.o λh=>by rw[aP.o];exact bG);have aU:j<=L.length:=hj;(have hne:(tj==t)=false:=by simpa using bG);(have aH:(L.length+1)*16<=140737488355328:=by omega);have aD:Hid (∀n,((O.drewN n).aC #[A0 0,A0 0] 70).ownsRow 0 70 2 (AB g2 L.length cL) L.length (B3 L)):=λn=>Aw aK.o λg I=>CQ _ _ _ (Ay aK.o I);have aZ:Hid (∀n,Src Tryz.prog 2 66 (AB O.heap.size 1 1) 1 [A0 0,A0 0] ((O.drewN n).aC #[A0 0,A0 0] 70)):=
            λn=>Src.a8 underlying66 (O.drewN n) #[A0 0,A0 0] 70 O.heap.size (by simp) 1 1 rfl (by simp[Value.oneCell'])
           have bH:Hid (∀n w3 a3 z,App ((O.drewN n).aC #[A0 0,A0 0] 70) w3 70 2 (AB g2 L.length cL) (.slice a3 (L.length+1) z) (L.length+1) (B3 L++[A0 0,A0 0])->
            w3.heap[w0.heap.size]?=some (.cells #[A0 s,A0 t,A0 v] 141 (0,0))/\A4 Aa w w3/\(∀g,(Value.slice a3 (L.length+1) z).ownBlock=some g->w.heap.size<=g)/\w3.ownsRow 0 70 2 (.slice a3 (L.length+1) z) (L.length+1) (B3 (L.take L.length++(0,0):: L.drop L.length))):=by
            intro n w3 a3 z hA;have cH:=aT.o.Al;refine⟨?_,?_,?_,?_⟩
            ·have h5:((O.drewN n).aC #[A0 0,A0 0] 70).heap[w0.heap.size]?=some (.cells #[A0 s,A0 t,A0 v] 141 (0,0)):=(CQ _ _ _ (by simpa using By a5.o)).trans a5.o
             exact(hA.C4.block _ (By h5) (λe=>by
              obtain⟨c,hh⟩:=B7 (aD.o n) e.symm
              exact BM h5 hh (by decide) rfl)).trans h5
            ·exact((aT.o.aX n).ah _).C4 hA.C4 λk hk b8=>by have:=aF.o k hk;omega
            ·intro g I;rcases hA.BS with e|e
             ·rw[e]at I;exact aF.o g I
             ·rw[e]at I;cases I;simp;omega
            ·have:=hA.AE;rw[Ec (Ao _),I0 (Ao _),Kq];exact this
           go_wp2;go_quiet (fail);go_wp2;go_quiet (fail);go_wp2_with (at_builtin;refine CZ rfl (.tmp 91) (.tmp 93) 66 66 rfl 70 i0 _ 2 16 underlying66 bX bR bZ bU rfl (by decide) _ L.length (B3 L) (by rfl) (aD.o _) _ 1 _ (by rfl) (aZ.o _) aH ?_;intro a3 z w3 hA;have bI:=A1 (bH.o _ w3 a3 z hA));obtain⟨aW,bE,aS,X⟩:=bI.o;obtain⟨_,_,e3,_,aA,bF,_⟩:=Bk X;cases e3;obtain⟨E,rfl⟩:=bF (by omega);unfold maxLen at aA;have aX:=A1 aW;have bC:=A1 bE;have aM:=A1 X;have bY:w.heap.size<=E:=aS E rfl;go_loopw [20] (λkv wz=>∃i:Nat,j<=i/\i<=L.length/\kv=A0 i/\Hid (A4 Aa w wz)/\Hid (wz.heap[w0.heap.size]?=some (.cells #[A0 s,A0 t,A0 v] 141 (0,0)))/\Hid (∃x,wz.ownsRow 0 70 2 (AB E (L.length+1) z) (L.length+1) (B3 (L.take i++x::L.drop i)))) (λkv _=>(intOf kv).toNat)
           case atStart=>exact⟨L.length,aU,Ao _,rfl,bC.o,aX.o,(0,0),aM.o⟩
           case round=>
            obtain⟨i,cE,bM,rfl,a1,aI,bL⟩:=hrel;obtain⟨⟨x1,x2⟩,Y⟩:=bL.o;have aG:=A1 Y;have z0:=Ez Y (g:=E) rfl (i*2);have z1:=Ez Y (g:=E) rfl (i*2+1);(have xl:(L.take i++(x1,x2):: L.drop i).length=L.length+1:=by simp;omega);have o0:=BD Y (g:=E) rfl (LS _ i (by rw[xl];omega));have o1:=BD Y (g:=E) rfl (LR _ i (by rw[xl];omega));(have iB:(i:Int)<((L.length+1:Nat):Int):=by omega);have iA:=BR i;have bJ:(L.take i++(x1,x2):: L.drop i)[i]'(by rw[xl];omega)=(x1,x2):=by
             rw[FV (by simp;omega)];simp[Nat.min_eq_left bM]
            rw[bJ]at o0 o1;have aJ:=A1 xl;(have iD:(i:Int)<(L.length:Int)+1:=by omega);by_cases cD:j<i
            ·(have h1:(i-1)<L.length:=by omega);obtain⟨⟨ti,vi⟩,bT⟩:∃y,L[i-1]'h1=y:=⟨_,rfl⟩;have cC:(L.take i++(x1,x2):: L.drop i)[i-1]'(by rw[aJ.o];omega)=(ti,vi):=by
              rw[FK (by simp;omega)];simp[bT]
             have c0:=BD aG.o (g:=E) rfl (LS _ (i-1) (by rw[aJ.o];omega));have c1:=BD aG.o (g:=E) rfl (LR _ (i-1) (by rw[aJ.o];omega));rw[cC]at c0 c1;(have hgt':(j:Int)<(i:Int):=by omega);(have i1:(0:Int)<=(i:Int)-1:=by omega);(have i3:((i:Int)-1).toNat=i-1:=by omega);have cP:Hid (∀wy:World,wy=((wr.sC E (i*2) (A0 ti)).sC E (i*2+1) (A0 vi))->A4 Aa w wy/\wy.heap[w0.heap.size]?=some (.cells #[A0 s,A0 t,A0 v] 141 (0,0))/\wy.ownsRow 0 70 2 (AB E (L.length+1) z) (L.length+1) (B3 (L.take (i-1)++(ti,vi):: L.drop (i-1)))):=by
              intro wy hy;subst hy;have s1:=(aG.o.stored (i*2) (A0 ti)).1;have s2:=(s1.stored (i*2+1) (A0 vi)).1;have e:=Ko (L.take i++(x1,x2):: L.drop i) i (ti,vi) (by rw[aJ.o];omega);have e2:=X9 L (x1,x2) (i-1) h1;rw[show i-1+1=i from by omega,bT]at e2;simp only at e;rw[e,e2]at s2;obtain⟨ce,cM⟩:=B7 aG.o (g:=E) rfl;refine⟨(a1.o.a1 (p:=(A9 E (i*2))) (λh=>by simp at h;omega) _).a1 (p:=(A9 E (i*2+1))) (λh=>by simp at h;omega) _,?_,s2⟩;have a7:w0.heap.size≠E:=λe=>BM aI.o cM (by decide) e;rw[Fg _ _ _ _ a7,Fg _ _ _ _ a7];exact aI.o
             go_wp2;go_roundw
             case rel=>
              obtain⟨k1,k2,k3⟩:=cP.o _ rfl;exact⟨i-1,by omega,by omega,by go_num,k1,k2,(ti,vi),k3⟩
             case measure=>simp[intOf];omega
            ·(obtain rfl:i=j:=by omega);(have p1:A8 wr w0.heap.size 1 (A0 t):=by simp[A8,World.cell?,aI.o]);(have p2:A8 wr w0.heap.size 2 (A0 v):=by simp[A8,World.cell?,aI.o]);have aE:Hid (∀wy:World,wy=((wr.sC E (i*2) (A0 t)).sC E (i*2+1) (A0 v))->Cb wy (AB E (L.length+1) z) (C2 L t v)/\A4 Aa w wy):=by
              intro wy hy;subst hy;have s1:=(aG.o.stored (i*2) (A0 t)).1;have s2:=(s1.stored (i*2+1) (A0 v)).1;have e:=Ko (L.take i++(x1,x2):: L.drop i) i (t,v) (by rw[aJ.o];omega);simp only at e;rw[e,RB L (x1,x2) (t,v) i aU,<-aR.o]at s2;(have aN:(C2 L t v).length=L.length+1:=by rw[aR.o];simp;try omega);refine⟨?_,(a1.o.a1 (p:=(A9 E (i*2))) (λh=>by simp at h;omega) _).a1 (p:=(A9 E (i*2+1))) (λh=>by simp at h;omega) _⟩;unfold Cb;rw[aN];exact s2
             go_wp2;go_roundw
             case rel=>exact⟨k+1,by omega,by go_num,by unfold Hid;rw[a9.o];exact(aE.o _ rfl).1,(aE.o _ rfl).2,by intro g I;simp[Value.ownBlock]at I;omega⟩
             case measure=>simp[intOf];omega
        ·(obtain rfl:j=L.length:=by omega);(have a0:Hid (BB L t=L.length):=LV b9.o (Ao _) (λi hi h=>aB.o i hi h) λi hi h=>by omega);(have aR:Hid (C2 L t v=L.take L.length++(t,v):: L.drop L.length):=T6 v a0.o λh=>by omega);have aU:L.length<=L.length:=hj;(have aH:(L.length+1)*16<=140737488355328:=by omega);have aD:Hid (∀n,((O.drewN n).aC #[A0 0,A0 0] 70).ownsRow 0 70 2 (.slice aL L.length cL) L.length (B3 L)):=λn=>Aw aK.o λg I=>CQ _ _ _ (Ay aK.o I);have aZ:Hid (∀n,Src Tryz.prog 2 66 (AB O.heap.size 1 1) 1 [A0 0,A0 0] ((O.drewN n).aC #[A0 0,A0 0] 70)):=
          λn=>Src.a8 underlying66 (O.drewN n) #[A0 0,A0 0] 70 O.heap.size (by simp) 1 1 rfl (by simp[Value.oneCell'])
         have bH:Hid (∀n w3 a3 z,App ((O.drewN n).aC #[A0 0,A0 0] 70) w3 70 2 (.slice aL L.length cL) (.slice a3 (L.length+1) z) (L.length+1) (B3 L++[A0 0,A0 0])->
          w3.heap[w0.heap.size]?=some (.cells #[A0 s,A0 t,A0 v] 141 (0,0))/\A4 Aa w w3/\(∀g,(Value.slice a3 (L.length+1) z).ownBlock=some g->w.heap.size<=g)/\w3.ownsRow 0 70 2 (.slice a3 (L.length+1) z) (L.length+1) (B3 (L.take L.length++(0,0):: L.drop L.length))):=by
          intro n w3 a3 z hA;have cH:=aT.o.Al;refine⟨?_,?_,?_,?_⟩
          ·have h5:((O.drewN n).aC #[A0 0,A0 0] 70).heap[w0.heap.size]?=some (.cells #[A0 s,A0 t,A0 v] 141 (0,0)):=(CQ _ _ _ (by simpa using By a5.o)).trans a5.o
           exact(hA.C4.block _ (By h5) (λe=>by
            obtain⟨c,hh⟩:=B7 (aD.o n) e.symm
            exact BM h5 hh (by decide) rfl)).trans h5
          ·exact((aT.o.aX n).ah _).C4 hA.C4 λk hk b8=>by have:=aF.o k hk;omega
          ·intro g I;rcases hA.BS with e|e
           ·rw[e]at I;exact aF.o g I
           ·rw[e]at I;cases I;simp;omega
          ·have:=hA.AE;rw[Ec (Ao _),I0 (Ao _),Kq];exact this
         go_wp2;go_quiet (fail);go_wp2;go_quiet (fail);go_wp2_with (at_builtin;refine CZ rfl (.tmp 91) (.tmp 93) 66 66 rfl 70 i0 _ 2 16 underlying66 bX bR bZ bU rfl (by decide) _ L.length (B3 L) (by rfl) (aD.o _) _ 1 _ (by rfl) (aZ.o _) aH ?_;intro a3 z w3 hA;have bI:=A1 (bH.o _ w3 a3 z hA));obtain⟨aW,bE,aS,X⟩:=bI.o;obtain⟨_,_,e3,_,aA,bF,_⟩:=Bk X;cases e3;obtain⟨E,rfl⟩:=bF (by omega);unfold maxLen at aA;have aX:=A1 aW;have bC:=A1 bE;have aM:=A1 X;have bY:w.heap.size<=E:=aS E rfl;go_loopw [20] (λkv wz=>∃i:Nat,L.length<=i/\i<=L.length/\kv=A0 i/\Hid (A4 Aa w wz)/\Hid (wz.heap[w0.heap.size]?=some (.cells #[A0 s,A0 t,A0 v] 141 (0,0)))/\Hid (∃x,wz.ownsRow 0 70 2 (AB E (L.length+1) z) (L.length+1) (B3 (L.take i++x::L.drop i)))) (λkv _=>(intOf kv).toNat)
         case atStart=>exact⟨L.length,aU,Ao _,rfl,bC.o,aX.o,(0,0),aM.o⟩
         case round=>
          obtain⟨i,cE,bM,rfl,a1,aI,bL⟩:=hrel;obtain⟨⟨x1,x2⟩,Y⟩:=bL.o;have aG:=A1 Y;have z0:=Ez Y (g:=E) rfl (i*2);have z1:=Ez Y (g:=E) rfl (i*2+1);(have xl:(L.take i++(x1,x2):: L.drop i).length=L.length+1:=by simp;omega);have o0:=BD Y (g:=E) rfl (LS _ i (by rw[xl];omega));have o1:=BD Y (g:=E) rfl (LR _ i (by rw[xl];omega));(have iB:(i:Int)<((L.length+1:Nat):Int):=by omega);have iA:=BR i;have bJ:(L.take i++(x1,x2):: L.drop i)[i]'(by rw[xl];omega)=(x1,x2):=by
           rw[FV (by simp;omega)];simp[Nat.min_eq_left bM]
          rw[bJ]at o0 o1;have aJ:=A1 xl;(have iD:(i:Int)<(L.length:Int)+1:=by omega);by_cases cD:L.length<i
          ·omega
          ·(obtain rfl:i=L.length:=by omega);(have p1:A8 wr w0.heap.size 1 (A0 t):=by simp[A8,World.cell?,aI.o]);(have p2:A8 wr w0.heap.size 2 (A0 v):=by simp[A8,World.cell?,aI.o]);have aE:Hid (∀wy:World,wy=((wr.sC E (L.length*2) (A0 t)).sC E (L.length*2+1) (A0 v))->Cb wy (AB E (L.length+1) z) (C2 L t v)/\A4 Aa w wy):=by
            intro wy hy;subst hy;have s1:=(aG.o.stored (L.length*2) (A0 t)).1;have s2:=(s1.stored (L.length*2+1) (A0 v)).1;have e:=Ko (L.take L.length++(x1,x2):: L.drop L.length) L.length (t,v) (by rw[aJ.o];omega);simp only at e;rw[e,RB L (x1,x2) (t,v) L.length aU,<-aR.o]at s2;(have aN:(C2 L t v).length=L.length+1:=by rw[aR.o];simp;try omega);refine⟨?_,(a1.o.a1 (p:=(A9 E (L.length*2))) (λh=>by simp at h;omega) _).a1 (p:=(A9 E (L.length*2+1))) (λh=>by simp at h;omega) _⟩;unfold Cb;rw[aN];exact s2
           go_wp2;go_roundw
           case rel=>exact⟨k+1,by omega,by go_num,by unfold Hid;rw[a9.o];exact(aE.o _ rfl).1,(aE.o _ rfl).2,by intro g I;simp[Value.ownBlock]at I;omega⟩
           case measure=>simp[intOf];omega
   ·(have hs':(s==d)=false:=by simpa using hs);have hr:=A1 hs;go_wp2_with (go_at_call 123;refine(aV.o _).mono ?_;rintro e w'⟨rfl,rfl⟩);go_roundw
    case rel=>exact aO.o (by have h0:=Cu hr.o;simp[h0])
    case measure=>simp[intOf];omega
  ·(obtain rfl:k=m:=by omega);go_wp2;go_ret;exact⟨_,rfl,a6.o,aY.o,aF.o⟩
end
section
open Go.RowKit
structure SV (w:World) (sb ab b:Nat) (mu life win A7:Int) (ro:Bool) (lv:Nat->Value) (L:Nat->List Pt) (A:Ar) (P:PD) (F0:Nat->Prop):Prop where
 Af:Bw w sb mu (.pointer (some ⟨ab,0,none⟩)) life win A7 ro lv
 DT:Eb w lv L
 ar:AD w ab b A P F0
 lt:∀k,F0 k->k<w.heap.size
 ns:¬F0 sb
 nr:∀k,EK lv k->¬F0 k
def SF(w:World)(sb ab b:Nat)(mu life win A7:Int)(ro:Bool)(L:Nat->List Pt)(A:Ar)(P:PD)(FT:Nat->Prop):Prop:=
 ∃lv F0,SV w sb ab b mu life win A7 ro lv L A P F0/\∀k,F0 k\/Own sb lv k->FT k
section
variable {w w' w2:World} {sb ab b:Nat} {mu aB life win A7 aA:Int} {ro aD:Bool} {lv lv':Nat->Value} {L L':Nat->List Pt} {A A':Ar} {P P':PD} {F0 FT:Nat->Prop}
def SV.fj(h:SV w sb ab b mu life win A7 ro lv L A P F0){k:Nat}(d:F0 k\/Own sb lv k):k<w.heap.size:=by
 rcases d with d|rfl|d
 ·exact h.lt k d
 ·exact h.Af.lt
 ·exact h.DT.lt d
def SV.nb(h:SV w sb ab b mu life win A7 ro lv L A P F0):¬EK lv sb:=h.DT.ne h.Af (by decide)
def SV.An(h:SV w sb ab b mu life win A7 ro lv L A P F0){S:Nat->Prop}(z:A4 S w w')(E:∀k,F0 k\/Own sb lv k->¬S k):SV w' sb ab b mu life win A7 ro lv L A P F0:=
 ⟨h.Af.An z (E sb (.inr (.inl rfl))),h.DT.An z λg I=>E g (.inr (.inr I)),h.ar.aI (z.au (λk d=>h.lt k d) λk d=>E k (.inl d)) z.Al,
  λk d=>Bi (h.lt k d) z.Al,h.ns,h.nr⟩
def SV.al(h:SV w sb ab b mu life win A7 ro lv L A P F0)(d:A4 Aa w w'):SV w' sb ab b mu life win A7 ro lv L A P F0:=h.An d λ_ _ h=>h
def SF.al(h:SF w sb ab b mu life win A7 ro L A P FT)(E:A4 Aa w w'):SF w' sb ab b mu life win A7 ro L A P FT:=by
 obtain⟨lv,F0,z,d⟩:=h;exact⟨lv,F0,z.al E,d⟩
def SV.bK(h:SV w' sb ab b mu life win A7 ro lv' L' A' P' F0){S:Nat->Prop}(O:A4 S w w')(E:∀k,k<w.heap.size->S k->FT k)(I:∀k,F0 k\/Own sb lv' k->FT k\/w.heap.size<=k):
 As w FT w' (λw' d=>SF w' sb ab b mu life win A7 ro L' A' P' d):=
 ⟨O.ad E,λk=>F0 k\/Own sb lv' k,⟨lv',F0,h,λ_ h=>h⟩,λ_ z=>h.fj z,I⟩
def SV.ak(h:SV w sb ab b mu life win A7 ro lv L A P F0)(z:Ei w w' sb aB (.pointer (some ⟨ab,0,none⟩)) life win aA aD lv lv' L'):
 SV w' sb ab b aB life win aA aD lv' L' A P F0:=
 ⟨z.Af,z.DT,h.ar.aI (z.An.au (λk d=>h.lt k d) λk d E=>by
  rcases E with rfl|E
  ·exact h.ns d
  ·exact h.nr k E d) z.An.Al,λk d=>Bi (h.lt k d) z.An.Al,h.ns,λk d E=>by
  rcases z.AE k d with I|I
  ·exact h.nr k I E
  ·have:=h.lt k E;omega⟩
def SV.cI(h:SV w sb ab b mu life win A7 ro lv L A P F0)(d:∀k,F0 k\/Own sb lv k->FT k)(I:Ei w w' sb aB (A6 ab) life win aA aD lv lv' L'):
 As w FT w' (λw' E=>SF w' sb ab b aB life win aA aD L' A P E):=
 (h.ak I).bK I.An (λk _ z=>d k (.inr z)) λk z=>by
  rcases z with z|rfl|z
  ·exact .inl (d k (.inl z))
  ·exact .inl (d _ (.inr (.inl rfl)))
  ·exact(I.AE k z).imp (λh=>d k (.inr (.inr h))) id
def SV.eg(h:SV w sb ab b mu life win A7 ro lv L A P F0)(d:∀k,F0 k\/Own sb lv k->FT k)(Y:As w F0 w' (λw' E=>AD w' ab b A' P' E)):
 As w FT w' (λw' E=>SF w' sb ab b mu life win A7 ro L A' P' E):=by
 obtain⟨W,aE,h1,h2,O⟩:=Y;have hb:=h.Af.lt;refine(SV.bK (w':=w') (lv':=lv) (F0:=aE) ⟨h.Af.An W h.ns,h.DT.An W h.nr,h1,h2,λX=>?_,λk z X=>?_⟩ W (λk _ z=>d k (.inl z)) λk z=>?_)
 ·rcases O _ X with I|I
  ·exact h.ns I
  ·omega
 ·rcases O _ X with I|I
  ·exact h.nr k z I
  ·have:=h.DT.lt z;omega
 ·rcases z with z|z
  ·exact(O k z).imp (λh=>d k (.inl h)) id
  ·exact .inl (d k (.inr z))
def SF.CT(h:SF w sb ab b mu life win A7 ro L A P FT)(o:Nat)(u:Value)(I:∀lv,Bw w sb mu (.pointer (some ⟨ab,0,none⟩)) life win A7 ro lv->Bw (w.setCell ⟨sb,o,none⟩ u) sb aB (.pointer (some ⟨ab,0,none⟩)) life win aA aD lv):
 As w FT (w.setCell ⟨sb,o,none⟩ u) (λw' z=>SF w' sb ab b aB life win aA aD L A P z):=by
 obtain⟨lv,F0,d,E⟩:=h;exact d.cI E (Ei.of (I lv d.Af) d.DT ((A4.C (One sb) w).aj rfl o u) d.nb)
def SFto.CT(h:As w FT w' (λw' d=>SF w' sb ab b mu life win A7 ro L A P d))(o:Nat)(u:Value)(E:∀lv,Bw w' sb mu (.pointer (some ⟨ab,0,none⟩)) life win A7 ro lv->Bw (w'.setCell ⟨sb,o,none⟩ u) sb aB (.pointer (some ⟨ab,0,none⟩)) life win aA aD lv):
 As w FT (w'.setCell ⟨sb,o,none⟩ u) (λw' d=>SF w' sb ab b aB life win aA aD L A P d):=
 h.Au λ_ z _ _=>z.CT o u E
def Es(L:Nat->List Pt)(o:Int)(k:Nat)(t v:Int):Nat->List Pt:=if o<=t then H5 L k (C2 (L k) t v) else L
def Oh(L:Nat->List Pt)(o:Int)(n:Nat)(t v:Int)(k:Nat):(Es L o n t v k).length<=(L k).length+1:=by
 unfold Es;split
 ·unfold H5;split
  ·rename_i e;subst e;exact(Oo _ _ _).2
  ·omega
 ·omega
def SM(w:World)(p:Pu)(h:SF w sb ab b mu life win A7 ro L A P FT)(Y:0<=p.1/\p.1<8)(E:∀k,k<8->(L k).length<1099511627000)(hl:1<=life/\life<=4611686018427387904)(hc:Ax A7):
 Ag 60 #[A6 sb,DV p] w (Aj (.tuple #[]) λw'=>As w FT w' (λw' W=>SF w' sb ab b mu life win A7 ro (Es L (AT A7 life) p.1.toNat p.2.1 p.2.2) A P W)):=by
 obtain⟨k,t,v⟩:=p;obtain⟨lv,F0,d,X⟩:=h;unfold DV;dsimp only at Y ⊢;obtain⟨O,hk2⟩:=Y;obtain⟨n,rfl⟩:=Lp O;have I:n<8:=by omega
 refine(A0i w sb n _ _ (by decide) A7 life t v (L n) (lv n) I (d.DT.dK d.Af I) (by have:=E n I;omega) rfl rfl hl hc).mono ?_;rintro e w'⟨rfl,h3⟩;refine⟨rfl,?_⟩;unfold Es;rw[EG];rcases h3 with⟨ho,lv',hR⟩|⟨ho,z⟩
 ·rw[Ai ho];have hlen:=(Oo (L n) t v).2;obtain⟨b1,b2,b3,b4⟩:=d.DT.ak d.Af I hR rfl (by have:=E n I;omega);exact d.cI X ⟨b1,b2,b3,b4⟩
 ·rw[Ae (by omega)];exact(d.al z).bK z (λ_ _ h=>h.elim) λk hk=>.inl (X k hk)
end
end
section
open Go.MuLone Go.RowKit
attribute [local go_sem ↓] Go.wp_at_zero Go.wp_at_succ Cw
section
variable {w w' w2:World} {sb ab b B:Nat} {mu life win A7:Int} {ro:Bool} {lv:Nat->Value} {L L':Nat->List Pt} {A A':Ar} {P P':PD} {F0 FT:Nat->Prop} {a c m N:Nat}
def A3i(w:World)(p:Pu)(h:SF w sb ab b mu life win A7 ro L A P FT)(_hFT:∀k,FT k->k<w.heap.size)(hp:Bq p)(hn:A.j.AE=none->CJ (A.j.Ac+1)/\Ax (A.j.Ac+1)/\Ax A.j.puts)(aF:A.j.Av.length<=1073741824)(hL:Lets B w)(aG:∀k,FT k->B<=k)(hF:Fit P a c m)(aH:CV (a+1) (c+1) (m+33))(aI:∀k,k<8->(L k).length<1099511627000)(hl:1<=life/\life<=4611686018427387904)(hc:Ax A7):
 Ag 66 #[A6 sb,DV p] w (Aj (A0 (A.af P p).2.1) λw'=>
  As w FT w' (λw' d=>SF w' sb ab b mu life win A7 ro (if (A.af P p).1=true then Es L (AT A7 life) p.1.toNat p.2.1 p.2.2 else L) (A.af P p).2.2.1 (A.af P p).2.2.2 d)):=by
 have hA:A4 Aa w (w.alloc (.cells #[A0 p.1,A0 p.2.1,A0 p.2.2] 113)):=(A4.C _ w).ah _;have E:=Bf w (.cells #[A0 p.1,A0 p.2.1,A0 p.2.2] 113);have aA:w.heap.size<(w.alloc (.cells #[A0 p.1,A0 p.2.1,A0 p.2.2] 113)).heap.size:=by simp
 generalize aJ:(w.alloc (.cells #[A0 p.1,A0 p.2.1,A0 p.2.2] 113))=w0 at hA E aA;have O:A4 Aa w w0.drew:=hA.aa;obtain⟨lv,F0,h1,h2⟩:=h;have hV:=h1.al O;have nx:¬F0 w.heap.size:=λhx=>GB _ (h1.lt _ hx)
 have aB:Hid (Ag 105 #[A6 ab,DV p] w0.drew (Aj (.tuple #[.bool (A.af P p).1,A0 (A.af P p).2.1]) λz=>
  (A8 z sb 2 (A6 ab)/\z.heap[w.heap.size]?=some (.cells #[A0 p.1,A0 p.2.1,A0 p.2.2] 113 (0,0)))/\
  As w FT z (λw' d=>SF w' sb ab b mu life win A7 ro L (A.af P p).2.2.1 (A.af P p).2.2.2 d))):=by
  refine(A2W w0.drew p hV.ar hV.lt hp hn aF (hL.aM O) (λk hk=>aG k (h2 k (.inl hk))) hF aH).mono ?_;rintro e z⟨rfl,I⟩;exact⟨rfl,⟨(hV.Af.An I.1 hV.ns).c2,(I.1.Am _ aA nx).trans E⟩,(hV.eg h2 I).aY O⟩
 have W:Hid (∀z,As w FT z (λw' d=>SF w' sb ab b mu life win A7 ro L (A.af P p).2.2.1 (A.af P p).2.2.2 d)->Ag 60 #[A6 sb,DV p] z (Aj (.tuple #[]) λw'=>
  As w FT w' (λw' d=>SF w' sb ab b mu life win A7 ro (Es L (AT A7 life) p.1.toNat p.2.1 p.2.2) (A.af P p).2.2.1 (A.af P p).2.2.2 d))):=λz I=>by
  obtain⟨c1,F1,h3,h4,h5⟩:=I;refine(SM z p h3 hp.1 aI hl hc).mono ?_;rintro e w'⟨rfl,h6⟩;exact⟨rfl,As.a7 c1 h5 h6⟩
 have c2:A8 w0 sb 2 (A6 ab):=(h1.al hA).Af.c2;obtain⟨p1,Y,X⟩:=p;unfold DV at aB W ⊢;dsimp only at aB W E aJ ⊢;have q0:A8 w0 w.heap.size 0 (A0 p1):=CP E;have q1:A8 w0 w.heap.size 1 (A0 Y):=CP E;have q2:A8 w0 w.heap.size 2 (A0 X):=CP E;generalize hR:A.af P (p1,Y,X)=R at aB W ⊢;obtain⟨aD,R2,R3,R4⟩:=R;dsimp only at aB W ⊢;generalize hL2:Es L (AT A7 life) p1.toNat Y X=L2 at W ⊢;have tail:∀aD:Bool,aD=true\/aD=false:=by intro x;cases x<;>simp
 go_enter func66,ntmps66
 go_wp2;refine Bt (λw'=>A8 w' sb 2 (A6 ab)/\A8 w' w.heap.size 0 (A0 p1)/\A8 w' w.heap.size 1 (A0 Y)/\A8 w' w.heap.size 2 (A0 X)) 10
  (Bb [0,1,2,3,4,5,6,7,8,9] [5]) ⟨c2,q0,q1,q2⟩ ?_
 iterate 5 (refine B1 ?_;(try simp only[Ak]))
 refine Bd λK hK=>?_;go_simp;refine aB.m ?_;rintro e z⟨rfl,⟨y2,hh⟩,I⟩;have r0:A8 z w.heap.size 0 (A0 p1):=CP hh;have r1:A8 z w.heap.size 1 (A0 Y):=CP hh;have r2:A8 z w.heap.size 2 (A0 X):=CP hh;refine hK _ _ ⟨y2,r0,r1,r2⟩ (λhS=>?_);have aE:=A1 (W.o z I);have aL:=A1 I
 (try simp only[Ak])
 iterate 4 (refine B1 ?_;(try simp only[Ak]))
 refine B4 ?_;simp only[Bm,Bl];cases aD
 ·go_wp2;go_ret;exact⟨rfl,by simpa using aL.o⟩
 ·go_wp2_with (go_at_call 60;refine aE.m ?_;rintro e w2⟨rfl,hS⟩;have aK:=A1 hS);go_ret;exact⟨rfl,by simpa using aK.o⟩
def TO(w:World)(d:Value)(h:Bw w sb mu (A6 ab) life win A7 true lv):
 Ag 64 #[A6 sb,d] w (Aj (A0 4) λw'=>w=w'):=by
 have c6:=h.cR
 go_enter func64,ntmps64
 go_wp2;go_ret;exact⟨rfl,rfl⟩
def A2r(w:World)(x:Nat)(n:Int)(h:SF w sb ab b mu life win A7 false L A P FT)(aB:Ag 65 #[A6 x,A6 (x+1),A6 (x+2),A6 (x+3)] w (Aj (A0 n) λw'=>As w FT w' (λw' d=>SF w' sb ab b mu life win A7 false L' A' P' d))):
 Ag 64 #[A6 sb,.func (Fn.func 65) #[] #[A6 x,A6 (x+1),A6 (x+2),A6 (x+3)]] w (Aj (A0 n) λw'=>As w FT w' (λw' d=>SF w' sb ab b mu life win A7 (decide (n≠0)) L' A' P' d)):=by
 obtain⟨lv,F0,h1,h2⟩:=h;have c6:=h1.Af.cR;have X:=A1 aB;by_cases W:n=0
 ·subst W
  go_enter func64,ntmps64
  go_wp2_with (go_at_call 65;refine X.m ?_;rintro e w2⟨rfl,E⟩;have O:=A1 E;obtain⟨-,aA,⟨I,aD,z,-⟩,-,-⟩:=E;have y6:=z.Af.cR;have f6:=z.Af.fz 6);go_ret;exact⟨rfl,SFto.CT O.o 6 _ λlv h=>h.sR false⟩
 ·have hb:(n !=0)=true:=by simpa using W
  have Y:decide (n≠0)=true:=by simpa using W
  rw[Y]
  go_enter func64,ntmps64
  go_wp2_with (go_at_call 65;refine X.m ?_;rintro e w2⟨rfl,E⟩;have O:=A1 E;obtain⟨-,aA,⟨I,aD,z,-⟩,-,-⟩:=E;have y6:=z.Af.cR;have f6:=z.Af.fz 6);go_ret;exact⟨rfl,SFto.CT O.o 6 _ λlv h=>h.sR true⟩
def A2s(w:World)(x:Nat)(n:Int)(h:SF w sb ab b mu life win A7 false L A P FT)(aB:Ag 67 #[A6 x] w (Aj (A0 n) λw'=>As w FT w' (λw' d=>SF w' sb ab b mu life win A7 false L' A' P' d))):
 Ag 64 #[A6 sb,.func (Fn.func 67) #[] #[A6 x]] w (Aj (A0 n) λw'=>As w FT w' (λw' d=>SF w' sb ab b mu life win A7 (decide (n≠0)) L' A' P' d)):=by
 obtain⟨lv,F0,h1,h2⟩:=h;have c6:=h1.Af.cR;have X:=A1 aB;by_cases W:n=0
 ·subst W
  go_enter func64,ntmps64
  go_wp2_with (go_at_call 67;refine X.m ?_;rintro e w2⟨rfl,E⟩;have O:=A1 E;obtain⟨-,aA,⟨I,aD,z,-⟩,-,-⟩:=E;have y6:=z.Af.cR;have f6:=z.Af.fz 6);go_ret;exact⟨rfl,SFto.CT O.o 6 _ λlv h=>h.sR false⟩
 ·have hb:(n !=0)=true:=by simpa using W
  have Y:decide (n≠0)=true:=by simpa using W
  rw[Y]
  go_enter func64,ntmps64
  go_wp2_with (go_at_call 67;refine X.m ?_;rintro e w2⟨rfl,E⟩;have O:=A1 E;obtain⟨-,aA,⟨I,aD,z,-⟩,-,-⟩:=E;have y6:=z.Af.cR;have f6:=z.Af.fz 6);go_ret;exact⟨rfl,SFto.CT O.o 6 _ λlv h=>h.sR true⟩
def A2q(w:World)(_x:Nat)(n:Int)(h:SF w sb ab b mu life win A7 false L A P FT)(aB:Ag 74 #[A6 ab] w (Aj (A0 n) λw'=>As w FT w' (λw' d=>SF w' sb ab b mu life win A7 false L' A' P' d))):
 Ag 64 #[A6 sb,.func (Fn.func 74) #[A6 ab] #[]] w (Aj (A0 n) λw'=>As w FT w' (λw' d=>SF w' sb ab b mu life win A7 (decide (n≠0)) L' A' P' d)):=by
 obtain⟨lv,F0,h1,h2⟩:=h;have c6:=h1.Af.cR;have X:=A1 aB;by_cases W:n=0
 ·subst W
  go_enter func64,ntmps64
  go_wp2_with (go_at_call 74;refine X.m ?_;rintro e w2⟨rfl,E⟩;have O:=A1 E;obtain⟨-,aA,⟨I,aD,z,-⟩,-,-⟩:=E;have y6:=z.Af.cR;have f6:=z.Af.fz 6);go_ret;exact⟨rfl,SFto.CT O.o 6 _ λlv h=>h.sR false⟩
 ·have hb:(n !=0)=true:=by simpa using W
  have Y:decide (n≠0)=true:=by simpa using W
  rw[Y]
  go_enter func64,ntmps64
  go_wp2_with (go_at_call 74;refine X.m ?_;rintro e w2⟨rfl,E⟩;have O:=A1 E;obtain⟨-,aA,⟨I,aD,z,-⟩,-,-⟩:=E;have y6:=z.Af.cR;have f6:=z.Af.fz 6);go_ret;exact⟨rfl,SFto.CT O.o 6 _ λlv h=>h.sR true⟩
end
def boxed(w:World)(sb:Nat)(k t v:Int):World:=
 (((w.alloc (.cells #[.pointer (some ⟨sb,0,none⟩)] 36)).alloc (.cells #[.int .i64 k] 3)).alloc (.cells #[.int .i64 t] 3)).alloc (.cells #[.int .i64 v] 3)
def Iz(w:World)(x sb:Nat)(k t v:Int):Prop:=
 w.cell? ⟨x,0,none⟩=some (.pointer (some ⟨sb,0,none⟩))/\w.cell? ⟨x+1,0,none⟩=some (.int .i64 k)/\w.cell? ⟨x+2,0,none⟩=some (.int .i64 t)/\w.cell? ⟨x+3,0,none⟩=some (.int .i64 v)
section
variable {w w' w2:World} {sb ab b B:Nat} {mu life win A7:Int} {ro:Bool} {lv:Nat->Value} {L L':Nat->List Pt} {A A':Ar} {P P':PD} {F0 FT:Nat->Prop} {a c m N:Nat}
def P9(w:World)(sb:Nat)(k t v:Int):A4 Aa w (boxed w sb k t v):=((((A4.C _ w).ah _).ah _).ah _).ah _
def A2D(w:World)(sb:Nat)(k t v:Int):(boxed w sb k t v).heap.size=w.heap.size+4:=by unfold boxed;simp
def Pa(w:World)(sb:Nat)(k t v:Int):Iz (boxed w sb k t v) w.heap.size sb k t v:=by
 unfold boxed;refine⟨?_,?_,?_,?_⟩
 all_goals unfold World.cell?
 ·rw[CQ _ _ _ (by simp;try omega),CQ _ _ _ (by simp;try omega),CQ _ _ _ (by simp),Bf];rfl
 ·rw[CQ _ _ _ (by simp;try omega),CQ _ _ _ (by simp)];have:=Bf (w.aC #[A6 sb] 36) (.cells #[A0 k] 3);have e:(w.aC #[A6 sb] 36).heap.size=w.heap.size+1:=by simp
  rw[e]at this;simp only[this];rfl
 ·rw[CQ _ _ _ (by simp)];have:=Bf ((w.aC #[A6 sb] 36).aC #[A0 k] 3) (.cells #[A0 t] 3);have e:((w.aC #[A6 sb] 36).aC #[A0 k] 3).heap.size=w.heap.size+2:=by simp
  rw[e]at this;simp only[this];rfl
 ·have:=Bf (((w.aC #[A6 sb] 36).aC #[A0 k] 3).aC #[A0 t] 3) (.cells #[A0 v] 3);have e:(((w.aC #[A6 sb] 36).aC #[A0 k] 3).aC #[A0 t] 3).heap.size=w.heap.size+3:=by simp
  rw[e]at this;simp only[this];rfl
def Iz.An{S:Nat->Prop}{x:Nat}{k t v:Int}(h:Iz w x sb k t v)(hc:A4 S w w')(hS:∀i,i<4->¬S (x+i)):Iz w' x sb k t v:=by
 obtain⟨E,O,z,X⟩:=h;have d:∀i u,i<4->w.cell? (A9 (x+i) 0)=some u->w'.cell? (A9 (x+i) 0)=some u:=λi u Y hu=>by
  have I:=Gz w _ hu;have W:=hc.Am (x+i) I (hS i Y);unfold World.cell? at hu ⊢;rw[W];exact hu
 exact⟨d 0 _ (by omega) E,d 1 _ (by omega) O,d 2 _ (by omega) z,d 3 _ (by omega) X⟩
def Yw(w:World)(x:Nat)(p:Pu)(n:Int)(Q:World->Prop)(h:Iz w x sb p.1 p.2.1 p.2.2)(d:Ag 66 #[A6 sb,DV p] w (Aj (A0 n) λw'=>Q w')):
 Ag 65 #[A6 x,A6 (x+1),A6 (x+2),A6 (x+3)] w (Aj (A0 n) λw'=>Q w'):=by
 obtain⟨p1,p2,p3⟩:=p;unfold DV at d;dsimp only at d h;obtain⟨x0,x1,x2,x3⟩:=h;have z:=A1 d
 go_enter func65,ntmps65
 go_wp2_with (go_at_call 66;refine z.m ?_;rintro e w2⟨rfl,I⟩;have E:=A1 I);go_ret;exact⟨rfl,E.o⟩
def SF.bJ(h:SF w sb ab b 0 life win A7 ro L A P FT):As w FT (w.setCell ⟨sb,0,none⟩ (.int .i32 1)) (λw' d=>SF w' sb ab b 1 life win A7 ro L A P d):=h.CT 0 _ λ_ h=>h.s0 1
def Rs(w:World)(p:Pu)(h:SF w sb ab b 0 life win A7 false L A P FT)(aD:∀k,FT k->k<w.heap.size)(hp:Bq p)(hn:A.j.AE=none->CJ (A.j.Ac+1)/\Ax (A.j.Ac+1)/\Ax A.j.puts)(aA:A.j.Av.length<=1073741824)(hL:Lets B w)(I:∀k,FT k->B<=k)(hF:Fit P a c m)(aF:CV (a+1) (c+1) (m+33))(aH:∀k,k<8->(L k).length<1099511627000)(hl:1<=life/\life<=4611686018427387904)(hc:Ax A7):
 Ag 23 #[A6 sb,A0 p.1,A0 p.2.1,A0 p.2.2] w (Aj (A0 (A.af P p).2.1) λw'=>
  As w FT w' (λw' d=>SF w' sb ab b 0 life win A7 (decide ((A.af P p).2.1≠0)) (if (A.af P p).1=true then Es L (AT A7 life) p.1.toNat p.2.1 p.2.2 else L) (A.af P p).2.2.1 (A.af P p).2.2.2 d)):=by
 have aL:Hid (∀w',Ag 63 #[A0 p.1] w' λe O=>e=.returned (.bool true)/\w'=O):=λw'=>by
  have:=KG w' p.1
  rwa [Ct hp.1]at this
 have X:=P9 w sb p.1 p.2.1 p.2.2;have hX:=Pa w sb p.1 p.2.1 p.2.2;have hZ:=A2D w sb p.1 p.2.1 p.2.2;generalize aK:boxed w sb p.1 p.2.1 p.2.2=w0 at X hX hZ;unfold boxed at aK;have hV:=h.al X;have Y:=hL.aM X;have z:=hV.bJ;have E:Iz (w0.sC sb 0 (.int .i32 1)) w.heap.size sb p.1 p.2.1 p.2.2:=hX.An z.1 λi _ hx=>by have:=aD _ hx;omega
 have aJ:Hid (As w FT (w0.sC sb 0 (.int .i32 1)) (λw' d=>SF w' sb ab b 1 life win A7 false L A P d)):=z.aY X;obtain⟨k1,aN,s1,s2,s3⟩:=aJ.o;have aB:=Y.ai z.1 I;have aE:=hL.1
 have W:=A1 (A2r (w0.sC sb 0 (.int .i32 1)) w.heap.size (A.af P p).2.1 s1 (Yw _ w.heap.size p _ _ E
  (A3i _ p s1 s2 hp hn aA aB (λk hk=>(s3 k hk).elim (I k) λh=>AQ aE h) hF aF aH hl hc)))
 have ST:Hid (∀wx R,As (w0.sC sb 0 (.int .i32 1)) aN wx R->As w FT wx R):=λwx R h=>As.a7 k1 s3 h;obtain⟨x0,x1,x2,x3⟩:=hX;obtain⟨y0,y1,y2,y3⟩:=E;have c0:A8 w0 sb 0 (.int .i32 0):=by obtain⟨lv,F0,q,-⟩:=hV;exact q.Af.c0
 have f0:w0.frozen? (A9 sb 0)=false:=by obtain⟨lv,F0,q,-⟩:=hV;exact q.Af.fz 0
 obtain⟨p1,p2,p3⟩:=p;dsimp only at *;generalize hR:A.af P (p1,p2,p3)=R at W ⊢;obtain⟨aO,R2,R3,R4⟩:=R;dsimp only at W ⊢;generalize hL2:(if aO=true then Es L (AT A7 life) p1.toNat p2 p3 else L)=L2 at W ⊢
 go_enter_defers func23,ntmps23
 go_wp2_with (first
  | (go_at_call 61;refine(HM Tryz.bc (A9 sb 0) _ c0 f0).mono ?_;rintro e w'⟨rfl,rfl⟩)
  | (go_at_call 63;refine(aL.o _).mono ?_;rintro e w'⟨rfl,rfl⟩))
 refine W.m ?_;rintro e w2⟨rfl,hS⟩;have aI:=A1 (ST.o _ _ hS);go_wp2;refine HN (f:=62) (args:=#[A6 sb]) (by simp) (by simp[go_sem]) ?_;refine(HL Tryz.bc (A9 sb 0) .returning _ ?_ ?_).mono ?_
 ·obtain⟨-,aM,⟨aG,aP,a1,-⟩,-,-⟩:=aI.o;exact a1.Af.c0
 ·obtain⟨-,aM,⟨aG,aP,a1,-⟩,-,-⟩:=aI.o;exact a1.Af.fz 0
 rintro e u' O⟨rfl,rfl,rfl⟩;exact⟨_,Jx rfl _ _ _,rfl,SFto.CT aI.o 0 _ λlv h=>h.s0 0⟩
def A09(w:World)(x:Nat)(n:Int)(Q:World->Prop)(h:Bw w sb mu (A6 ab) life win A7 ro lv)(W:A8 w x 0 (A6 sb))(d:Ag 68 #[A6 ab,A0 win] w.drew (Aj (A0 n) λw'=>Q w')):
 Ag 67 #[A6 x] w (Aj (A0 n) λw'=>Q w'):=by
 have c2:=h.c2;have I:=h.cW;have z:=A1 d
 go_enter func67,ntmps67
 go_wp2;refine Bt (λw'=>A8 w' x 0 (A6 sb)/\A8 w' sb 2 (A6 ab)/\A8 w' sb 4 (A0 win)) 8
  (Bb [0,1,2,3,4,5,6,7] []) ⟨W,c2,I⟩ ?_
 iterate 8 (refine B1 ?_;(try simp only[Ak]))
 refine B4 ?_;simp only[Bm,Bl];go_wp2_with (go_at_call 68;refine z.m ?_;rintro e w2⟨rfl,E⟩;have O:=A1 E);go_ret;exact⟨rfl,O.o⟩
def WT(w:World)(f g:Nat)(O:(f=24/\g=67)\/(f=25/\g=69))(n:Int)(Q:World->Prop)(c0:w.cell? (A9 sb 0)=some (.int .i32 0))(f0:w.frozen? (A9 sb 0)=false)(hz:sb<w.heap.size)(aB:∀X,X=(w.alloc (.cells #[A6 sb] 36)).setCell (A9 sb 0) (.int .i32 1)->Ag 64 #[A6 sb,.func (Fn.func g) #[] #[A6 w.heap.size]] X (Aj (A0 n) λw'=>w'.cell? (A9 sb 0)=some (.int .i32 1)/\w'.frozen? (A9 sb 0)=false/\Q w')):
 Ag f #[A6 sb] w (Aj (A0 n) λw'=>∃w2,Q w2/\w'=w2.setCell (A9 sb 0) (.int .i32 0)):=by
 have hA:A4 Aa w (w.alloc (.cells #[A6 sb] 36)):=(A4.C _ w).ah _;have E:=Bf w (.cells #[A6 sb] 36);have a0:=hA.ag c0;have Y:(w.alloc (.cells #[A6 sb] 36)).frozen? (A9 sb 0)=false:=by
  have z:=hA.Am sb hz (λh=>h);unfold World.frozen? at f0 ⊢;rw[z];exact f0
 have aA:=A1 (aB _ rfl);have I:(w.alloc (.cells #[A6 sb] 36)).cell? (A9 w.heap.size 0)=some (A6 sb):=CP E;have d:w.heap.size≠sb:=by omega
 have b1:((w.alloc (.cells #[A6 sb] 36)).sC sb 0 (.int .i32 1)).cell? (A9 w.heap.size 0)=some (A6 sb):=by
  have W:=(A4.C (One sb) (w.alloc (.cells #[A6 sb] 36))).aj (b:=sb) rfl 0 (.int .i32 1);have z:=W.Am w.heap.size (by simp) (λh=>d h);unfold World.cell? at I ⊢;rw[z];exact I
 generalize hw0:(w.alloc (.cells #[A6 sb] 36))=w0 at a0 Y aA I b1;rcases O with⟨rfl,rfl⟩|⟨rfl,rfl⟩
 focus go_enter_defers func24,ntmps24
 rotate_left
 focus go_enter_defers func25,ntmps25
 all_goals
  go_wp2_with (go_at_call 61;refine(HM Tryz.bc (A9 sb 0) _ a0 Y).mono ?_;rintro e w'⟨rfl,rfl⟩);refine aA.m ?_;rintro e w2⟨rfl,u0,uf,hS⟩;have aD:=A1 hS;go_wp2;refine HN (f:=62) (args:=#[A6 sb]) (by simp) (by simp[go_sem]) ?_;refine(HL Tryz.bc (A9 sb 0) .returning _ ?_ ?_).mono ?_
  ·exact u0
  ·exact uf
  rintro e u' w''⟨rfl,rfl,rfl⟩;exact⟨_,Jx rfl _ _ _,rfl,_,aD.o,rfl⟩
def Qt(w:World)(n:Int)(Q:World->Prop)(c0:w.cell? (A9 sb 0)=some (.int .i32 0))(f0:w.frozen? (A9 sb 0)=false)(z:sb<w.heap.size)(h:∀d,d=(w.alloc (.cells #[A6 sb] 36)).setCell (A9 sb 0) (.int .i32 1)->Ag 64 #[A6 sb,.func (Fn.func 67) #[] #[A6 w.heap.size]] d (Aj (A0 n) λw'=>w'.cell? (A9 sb 0)=some (.int .i32 1)/\w'.frozen? (A9 sb 0)=false/\Q w')):
 Ag 24 #[A6 sb] w (Aj (A0 n) λw'=>∃w2,Q w2/\w'=w2.setCell (A9 sb 0) (.int .i32 0)):=
 WT w _ _ (.inl ⟨rfl,rfl⟩) n Q c0 f0 z h
def Qs(w:World)(n:Int)(Q:World->Prop)(c0:A8 w sb 0 (.int .i32 0))(f0:w.frozen? (A9 sb 0)=false)(c2:A8 (w.setCell (A9 sb 0) (.int .i32 1)) sb 2 (A6 ab))(I:Ag 64 #[A6 sb,.func (Fn.func 74) #[A6 ab] #[]] (w.setCell (A9 sb 0) (.int .i32 1)) (Aj (A0 n) λw'=>A8 w' sb 0 (.int .i32 1)/\w'.frozen? (A9 sb 0)=false/\Q w')):
 Ag 31 #[A6 sb] w (Aj (A0 n) λw'=>∃w2,Q w2/\w'=w2.setCell (A9 sb 0) (.int .i32 0)):=by
 have O:=A1 I
 go_enter_defers func31,ntmps31
 go_wp2_with (go_at_call 61;refine(HM Tryz.bc (A9 sb 0) _ c0 f0).mono ?_;rintro e w'⟨rfl,rfl⟩);refine O.m ?_;rintro e w2⟨rfl,z,d,h⟩;have E:=A1 h;go_wp2;refine HN (f:=62) (args:=#[A6 sb]) (by simp) (by simp[go_sem]) ?_;refine(HL Tryz.bc (A9 sb 0) .returning _ ?_ ?_).mono ?_
 ·exact z
 ·exact d
 rintro e u' w''⟨rfl,rfl,rfl⟩;exact⟨_,Jx rfl _ _ _,rfl,_,E.o,rfl⟩
end
end
end Go.Proofs.YtodcnkbblippnaaGreatDoor
