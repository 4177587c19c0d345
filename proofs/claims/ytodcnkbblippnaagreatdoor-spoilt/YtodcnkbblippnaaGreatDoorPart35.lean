/- Part 35 of a proof: walks of the program. -/
import Derived.Test.YtodcnkbblippnaaGreatDoorPart32
namespace Go.Proofs.YtodcnkbblippnaaGreatDoor
set_option maxRecDepth 100000
set_option maxHeartbeats 32000000
set_option linter.defProp false
open Go.Proofs.Tryz
section
open Go.RowKit
attribute [local go_sem ↓] CJ
def UM{n:Int}(h:isNum n=true):1<=n/\n<=4611686018427387904:=by
 unfold isNum at h;simpa using h
def N6{P:PD}{ix:Ix}(h:P.CK=some ix):(1<=ix.AZ/\ix.AZ<=4611686018427387904)/\∀n∈ix.sd,1<=n/\n<=4611686018427387904:=by
 unfold PD.CK indexOf at h;split at h
 ·cases h;exact⟨⟨by decide,by decide⟩,λn z=>by cases z⟩
 ·split at h
  ·cases h
  ·rename_i E;split at h
   ·cases h
   ·rename_i d;split at h
    ·cases h;(have d:(Et (P.aS Ay).1).all isNum=true:=by simpa using d);rw[NY]at d;generalize hi:Et (P.aS Ay).1=l at *;cases l with
     | nil=>simp at E
     | cons x r=>exact⟨UM (d x Bt),λn z=>UM (d n (Bp _ z))⟩
    ·cases h
def Sc:∀(k:Nat) (l:Bs) (r:gh Pu×Bs),DO k l=some r->r.1.length<=l.length
 | 0,l,r,h=>by cases h;exact Cb _
 | k+1,l,r,h=>by
  unfold DO at h;split at h
  ·cases h;exact Cb _
  ·rename_i hl;split at h
   ·cases hx:DO k (l.drop 17) with
    | none=>rw[hx]at h;cases h
    | some q=>
     rw[hx]at h;cases h;have:=Sc k (l.drop 17) q hx;simp only[Cg];rw[CO]at this;omega
   ·cases h
def YW{P:PD}{a c m:Nat}(d:Fit P a c m){n:Int}{l:gh Pu}(h:P.BN n=some l):l.length<=m:=by
 unfold PD.BN Hj at h;split at h
 ·cases h
 ·cases hx:DO (P.aS (Aw n)).1.length (P.aS (Aw n)).1 with
  | none=>rw[hx]at h;cases h
  | some q=>
   rw[hx]at h;dsimp only at h;split at h
   ·cases h;exact AJ (Sc _ _ q hx) (SU d _)
   ·cases h
def OG{P:PD}{a c m:Nat}(H:Fit P a c m):∀(E:gh Int) (l:gh (Int×gh Pu)),P.sd E=some l->l.length=E.length/\∀x∈l,x.2.length<=m
 | [],l,h=>by cases h;exact⟨rfl,λx z=>by cases z⟩
 | n::r,l,h=>by
  unfold PD.sd at h;cases z:P.BN n with
  | none=>rw[z]at h;cases h
  | some q=>
   rw[z]at h;dsimp only at h;cases hy:P.sd r with
   | none=>rw[hy]at h;cases h
   | some y=>
    rw[hy]at h;cases h;have⟨h1,h2⟩:=OG H r y hy;refine⟨by simp[h1],λx d=>?_⟩;rcases BB.1 d with rfl|d
    ·exact YW H z
    ·exact h2 x d
def FJ(l:gh Bs):gh Int:=l.filterMap λnm=>if (Ba nm).1=2 then some (Ba nm).2 else none
def Z0(a b:gh Bs):FJ (a++b)=FJ a++FJ b:=by simp[FJ]
def E6(w:ga)(ab b xb:Nat)(lh:Int):Prop:=w.heap[ab]?=some (.cells #[.pointer (some ⟨b,0,none⟩),.pointer (some ⟨xb,0,none⟩),.pointer none,.int .i64 lh,.slice none 0 0] 150 (0,0))
section
variable{w w':ga}{ab b xb:Nat}{lh:Int}
def E6.c0(h:E6 w ab b xb lh):A7 w ab 0 (A5 b):=by unfold E6 at h;simp[A7,World.cell?,h]
def E6.c1(h:E6 w ab b xb lh):A7 w ab 1 (A5 xb):=by unfold E6 at h;simp[A7,World.cell?,h]
def E6.c2(h:E6 w ab b xb lh):A7 w ab 2 (.pointer none):=by unfold E6 at h;simp[A7,World.cell?,h]
def E6.c3(h:E6 w ab b xb lh):A7 w ab 3 (A0 lh):=by unfold E6 at h;simp[A7,World.cell?,h]
def E6.fz(h:E6 w ab b xb lh)(o:Nat):w.frozen? (Ac ab o)=false:=by unfold E6 at h;simp[World.frozen?,h]
def E6.s3(h:E6 w ab b xb lh)(x:Int):E6 (w.setCell (Ac ab 3) (A0 x)) ab b xb x:=CL h
def E6.s2(h:E6 w ab b xb lh)(d:Nat):D9 (w.setCell (Ac ab 2) (A5 d)) ab b xb d lh (.slice none 0 0):=CL h
def E6.fh(h:E6 w ab b xb lh):ab<w.heap.size:=Bv h
def E6.an{S:Nat->Prop}(h:E6 w ab b xb lh)(d:A3 S w w')(z:¬S ab):E6 w' ab b xb lh:=d.an h z
end
def GB.fA{S:Nat->Prop}{w w':ga}{H b:Nat}{v:gd}{l:gh (Int×gh Pu)}(h:GB w H b v l)(L:A3 S w w')(I:∀k,S k->k<H):GB w' H b v l:=by
 obtain⟨E,h1,O,W,Y⟩:=h;refine⟨E,h1,Ax O λg d=>L.An g (AF O d) λz=>by have:=I g z;have:=W g d;omega,W,λk q1 q2=>?_⟩;have⟨pv,s1,s2,s3,s4⟩:=Y k q1 q2;exact⟨pv,s1.an L (λz=>by have:=I _ z;omega),Ax s2 λg d=>L.An g (AF s2 d) λz=>by have:=I g z;have:=s4 g d;omega,s3,s4⟩
section
variable{b a c m B:Nat}{P:PD}{Ft:Nat->Prop}
def Lx(h:P.CK=none):Ar.aT P=.error 7:=by unfold Ar.aT;rw[h]
def MT{ix:Ix}(h:P.CK=some ix)(d:P.Ai.any (λnm=>decide ((Ba nm).1=0))=true):Ar.aT P=.error 7:=by
 unfold Ar.aT;rw[h];dsimp only;rw[Ae d]
def Lu{ix:Ix}(h:P.CK=some ix)(d:P.Ai.any (λnm=>decide ((Ba nm).1=0))=false)(z:P.sd ix.sd=none):Ar.aT P=.error 7:=by
 unfold Ar.aT;rw[h];dsimp only;rw[Aa (by simp[d]),z]
def Lv{ix:Ix}{l:gh (Int×gh Pu)}(h:P.CK=some ix)(z:P.Ai.any (λnm=>decide ((Ba nm).1=0))=false)(E:P.sd ix.sd=some l)(d:(P.pd (Br ix.AZ P.Ai)).2≠0):Ar.aT P=.error (P.pd (Br ix.AZ P.Ai)).2:=by
 unfold Ar.aT;rw[h];dsimp only;rw[Aa (by simp[z]),E];dsimp only;rw[Ae d]
def Ar.AR(P:PD)(ix:Ix):Ar:=⟨ix,P.bB ix.AZ,(FJ P.Ai).getLastD 0,[]⟩
def Lw{ix:Ix}{l:gh (Int×gh Pu)}(h:P.CK=some ix)(z:P.Ai.any (λnm=>decide ((Ba nm).1=0))=false)(E:P.sd ix.sd=some l)(d:(P.pd (Br ix.AZ P.Ai)).2=0):
 Ar.aT P=.ok ({Ar.AR P ix with AN:=(Ar.AR P ix).aX P},l.flatMap (·.2)++(P.pd (Br ix.AZ P.Ai)).1):=by
 unfold Ar.aT;rw[h];dsimp only;rw[Aa (by simp[z]),E];dsimp only;rw[Aa (by simp[d])];rfl
def W9(w:ga)(h:Bf w b P Ft)(Y:∀k,Ft k->k<w.heap.size)(hF:Fit P a c m)(hl:CP a c m)(dM:a*m<=70368744177664)(hL:Lets B w)(hE:Il w)(cN:∀nm∈P.Ai,nm.length<=281474976710656)(aM:∀ix,P.CK=some ix->ix.sd.length<=1073741824/\ix.sd.length*m<=4398046511104)(bR:∀first,(P.pd (Br first P.Ai)).1.length<=1099511627776):
 Ag 59 #[A5 b] w λe w'=>
  (∃n,Ar.aT P=.error n/\e=.returned (.tuple #[.pointer none,.slice none 0 0,A0 n])/\A3 Ab w w')\/
  (∃A ps ab v FT,Ar.aT P=.ok (A,ps)/\e=.returned (.tuple #[A5 ab,v,A0 0])/\AX w' v ps/\AD w' ab b A P FT/\(∀k,FT k->Ft k\/w.heap.size<=k)/\(∀k,FT k->k<w'.heap.size)/\(∀g,v.ownBlock=some g->¬FT g/\w.heap.size<=g)/\A3 Ab w w'):=by
 have⟨i0,hi,hz0,hz1,hz2⟩:=Eg IN;have eR:=A1 (ZX w h Y hF hl hL);have eV:Hid (∀d,A3 Ab w d->Ag 76 #[A5 b] d λe w'=>∃v,e=.returned v/\Dg w' v P.Ai/\A3 Ab d w'/\(∀g,v.ownBlock=some g->d.heap.size<=g)):=λd hc=>MZ (B1.ay h Y hc) hF hl;have eT:Hid (∀d,A3 Ab w d->∀nm∈P.Ai,Ag 97 #[.string ⟨nm.toArray⟩] d (Am (.tuple #[A0 (Ba nm).1,A0 (Ba nm).2]) λw'=>A3 Ab d w')):=λd hc nm hm=>U5 d nm (cN nm hm) (hE.aO hc) (hL.aO hc);have bM:P.Ai.length<=a:=by rw[Js];exact hF.A4
 have bS:=AJ bM hl.a;have eU:Hid (∀ix,P.CK=some ix->∀d ab xb sv,A3 Ab w d->A7 d ab 0 (A5 b)->A7 d ab 1 (A5 xb)->A7 d xb 4 sv->Db d sv ix.sd->_):=
  λix W d ab xb sv hc h0 h1 h4 hs=>S8 (ab:=ab) (xb:=xb) (sv:=sv) d ix.sd h0 h1 h4 hs (B1.ay h Y hc) (λk z=>Bi (Y k z) hc.Aj) hF hl (λn hn=>by have:=(N6 W).2 n hn;exact I7 (by omega) this.2) (aM ix W).1 (hL.aO hc)
 have eW:Hid (∀ix,P.CK=some ix->∀d,A3 Ab w d->_):=λix W d hc=>A1K d (B1.ay h Y hc) (λk z=>Bi (Y k z) hc.Aj) hF hl dM (N6 W).1 (hL.aO hc) (hE.aO hc) cN;have eZ:Hid (∀ix,P.CK=some ix->∀d ab xb jb sv lv,A3 Ab w d->Co d ab b xb jb sv (.slice none 0 0) lv (.pointer none) (Ar.AR P ix) P Ft->_):=λix W d ab xb jb sv lv hc hv=>
  Tr d hv hF hl (λn hn=>by have:=(N6 W).2 n hn;exact I7 (by omega) this.2) (λn hn=>by have⟨_,h2,_⟩:=Pw hn;exact I7 (by omega) h2.2) (aM ix W).1 (AJ (LG _ _) bS) (hL.aO hc)
 have eY:Hid (∀ix,P.CK=some ix->∀l,P.sd ix.sd=some l->∀d dE v,GB d dE b v l->(Ag 101 #[v] d λe w'=>∃v',e=.returned v'/\AX w' v' (l.flatMap (·.2))/\(∀g,v'.ownBlock=some g->d.heap.size<=g)/\A3 Ab d w')/\(l.flatMap (·.2)).length<=4398046511104):=λix W l hs d dE v hv=>by
  have⟨s1,s2⟩:=OG hF ix.sd l hs;refine⟨To d dE v l hv (by rw[s1];exact(aM ix W).1) s2 (by rw[s1];exact(aM ix W).2),AJ ?_ (aM ix W).2⟩;rw[<-s1];clear hs s1 hv
  induction l with
  | nil=>exact Cb _
  | cons x r ih=>
   have:=ih (λy hy=>s2 y (Bp _ hy));have:=s2 x Bt;rw[KR,AY,Cg,KE];omega
 have eJ:=A1 (Lx (P:=P));have eH:=A1 (λix=>MT (P:=P) (ix:=ix));have eN:=A1 (λix=>Lu (P:=P) (ix:=ix));have eM:=A1 (λix l=>Lv (P:=P) (ix:=ix) (l:=l));have eK:=A1 (λix l=>Lw (P:=P) (ix:=ix) (l:=l));have dV:=A1 bR;have eL:Hid (∀d,A3 Ab w d->Bf d b P Ft):=λd hc=>B1.ay h Y hc;have aU:=A1 Y;have FIX:=A1 (λ(ix:Ix) (W:P.CK=some ix)=>(N6 W).1);generalize hO:Ar.aT P=O at eJ eH eN eM eK ⊢
 go_enter func59,ntmps59
 go_wp2_with (fail);refine eR.m ?_;rintro e d (⟨W,rfl,hc1⟩|⟨ix,xb,sv,W,rfl,hfx,hsv,hso,hxb,hc1⟩)
 ·have aT:=A1 (eJ.o W);have dN:=A1 hc1;go_wp2;go_ret3;exact .inl ⟨7,aT.o,rfl,dN.o⟩
 have dY:E6 (d.aC #[A5 b,A5 xb,.pointer none,A0 0,.slice none 0 0] 150) d.heap.size b xb 0:=BL d _;have eP:Hid (A3 Ab d (d.aC #[A5 b,A5 xb,.pointer none,A0 0,.slice none 0 0] 150)):=(A3.I _ d).al _;have cP:=A1 hc1;have eC:=A1 (eV.o _ (cP.o.tr eP.o));have aT:=A1 W;have bK:=A1 hfx;have bH:=A1 hsv;have bP:=A1 hso;have aY:=A1 hxb;have dT:=A1 dY;have cZ:Hid (d.heap.size<(d.aC #[A5 b,A5 xb,.pointer none,A0 0,.slice none 0 0] 150).heap.size):=by unfold Hid;simp
 go_wp2_with (fail);refine eC.m ?_;rintro e w2⟨v,rfl,hv,b3,dX⟩;obtain⟨na,cM,rfl,nc1,dI⟩:=(Dg.rd hv).Cd;unfold maxLen at dI;have e0:=A1 (Dg.rd hv);have cB:=A1 <| eP.o.tr b3;have eO:=A1 (dT.o.an b3 (λh=>h));have bY:Hid (∀g,(Value.slice na P.Ai.length cM).ownBlock=some g->d.heap.size<g):=λg H=>Bi cZ.o (dX g H);generalize eA:d.heap.size=ab at eO bY ⊢;have aK:=A1 eA;go_wp2;go_loopw [30] (λiv wr=>∃k:Nat,iv=A0 k/\k<=P.Ai.length/\Hid (E6 wr ab b xb ((FJ (P.Ai.take k)).getLastD 0)/\(P.Ai.take k).any (λnm=>decide ((Ba nm).1=0))=false/\A3 Ab w wr/\A3 (One ab) w2 wr)) (λiv _=>P.Ai.length-(intOf iv).toNat)
 ·exact⟨0,rfl,by omega,eO.o,by simp,cP.o.tr cB.o,A3.I _ _⟩
 ·obtain⟨k,rfl,z,hI⟩:=hrel;have⟨i1,i2,i3,i4⟩:=hI.o;by_cases aW:k<P.Ai.length
  ·obtain⟨g,o,rfl,d1⟩:=GC.at e0.o k aW;have aO:=BU aW;have bL:=Dy aW;generalize a4:(P.Ai[k]'aW)=nm at d1 aO bL;have e1:=i4.bq d1 (λh=>by have h':g=ab:=h;have:=bY.o g rfl;omega);have aR:=A1 (eT.o wr i3 nm aO);have bN:=U6 nm;have aI:Hid ((FJ (P.Ai.take (k+1))).getLastD 0=if (Ba nm).1=2 then (Ba nm).2 else (FJ (P.Ai.take k)).getLastD 0):=by
    unfold Hid;rw[bL,Z0];by_cases hc:(Ba nm).1=2
    ·(have e:FJ [nm]=[(Ba nm).2]:=by simp[FJ,hc]);rw[Ae hc,e,Vc]
    ·(have e:FJ [nm]=[]:=by simp[FJ,hc]);rw[Aa hc,e,GJ]
   (have aV:Hid (¬(Ba nm).1=0->(P.Ai.take (k+1)).any (λnm=>decide ((Ba nm).1=0))=false):=λhz=>by rw[bL,List.any_append,i2];simp[hz]);have aP:Hid ((Ba nm).1=0->P.Ai.any (λnm=>decide ((Ba nm).1=0))=true):=λhz=>QN.2 ⟨nm,aO,by simp[hz]⟩;generalize hX:Ba nm=X at aR aI aV aP bN;obtain⟨s,n⟩:=X;dsimp only at aR aI aV aP bN;obtain⟨r1,r2⟩:=bN;have b1:=A1 i1;have bF:=A1 i3;have dU:=A1 i4;(have dK:(k:Int)<(P.Ai.length:Int):=by omega);have hk0:=C3 k;by_cases bD:s=0
   ·subst bD;have aL:=A1 (eH.o ix aT.o (aP.o rfl));go_wp2_with (go_at_call 97;refine aR.k ?_;rintro w6 aB;have aG:=A1 aB);go_ret3;exact .inl ⟨7,aL.o,rfl,bF.o.tr aG.o⟩
   ·(have hsb0:(s==0)=false:=by simpa using bD);by_cases a6:s=2
    ·subst a6;(have bJ:Hid ((FJ (P.Ai.take (k+1))).getLastD 0=n):=by rw[aI.o,Ae rfl];rfl);go_wp2_with (fail);refine aR.k ?_;rintro w6 aB;have dZ:=b1.o.an aB (λh=>h);have g63:=dZ.c3;have f63:=dZ.fz 3;have dF:=A1 (dZ.s3 n);have aG:=A1 aB;go_wp2;go_roundw
     ·have k7:A3 (One ab) wr (w6.sC ab 3 (A0 n)):=(aG.o.aY (S:=One ab)).aq (b:=ab) rfl 3 _;exact⟨k+1,by go_num,by omega,by rw[bJ.o];exact dF.o,aV.o (by decide),bF.o.Av k7 λx W Y=>by have e':x=ab:=W;have:=aK.o;have:=cP.o.Aj;omega,dU.o.tr k7⟩
     ·simp[intOf];omega
    ·(have hsb2:(s==2)=false:=by simpa using a6);(have bJ:Hid ((FJ (P.Ai.take (k+1))).getLastD 0=(FJ (P.Ai.take k)).getLastD 0):=by rw[aI.o,Aa a6];rfl);have bX:=A1 (aV.o bD);go_wp2_with (go_at_call 97;refine aR.k ?_;rintro w6 aB;have aG:=A1 aB);go_roundw
     ·exact⟨k+1,by go_num,by omega,by rw[bJ.o];exact b1.o.an aG.o (λh=>h),bX.o,bF.o.tr aG.o,dU.o.b5 aG.o⟩
     ·simp[intOf];omega
  ·(have cY:k=P.Ai.length:=by omega);subst cY;rw[Cf]at i1 i2;(have dK:¬((P.Ai.length:Int)<(P.Ai.length:Int)):=by omega);have b2:A3 (One ab) d wr:=(cB.o.aY (S:=One ab)).tr i4;(have b5:xb≠ab:=by have:=bK.o.lt;have:=aK.o;omega);have bW:=bK.o.an b2 b5;(have cI:Db wr sv ix.sd:=Dx.Al bH.o b2 λg H h=>by have h':g=ab:=h;have:=Dx.lt bH.o H;have:=aK.o;omega);have eE:=A1 (eU.o ix aT.o wr ab xb sv i3 i1.c0 i1.c1 bW.c4 cI);have b1:=A1 i1;have eD:=A1 i2;have bF:=A1 i3;have dU:=A1 i4;have bZ:=A1 b5;have cC:=A1 bW;have dS:=A1 cI;have cO:Hid (ab<wr.heap.size):=b1.o.fh;go_wp2_with (fail);refine eE.m ?_;rintro e w3 (⟨hs,rfl,hc3⟩|⟨l,v3,hs,rfl,hv3,hc3⟩)
   ·have aL:=A1 (eN.o ix aT.o eD.o hs);have aH:=A1 hc3;go_wp2;go_ret3;exact .inl ⟨7,aL.o,rfl,bF.o.tr aH.o⟩
   have d3:=(cC.o.an hc3 (λh=>h)).c3;have aN:=A1 hs;have cV:=A1 hv3;have aH:=A1 hc3;have dA:Hid (A3 Ab w w3):=bF.o.tr hc3;have eF:=A1 (eW.o ix aT.o w3 dA.o);have eG:=A1 (eM.o ix l aT.o eD.o aN.o);have dQ:=A1 (eK.o ix l aT.o eD.o aN.o);have cG:=A1 (dV.o ix.AZ);go_wp2_with (fail);refine eF.m ?_;rintro e w4 (⟨hp,rfl,hc4⟩|⟨hp,jb,lv,v4,rfl,hj,hv4,hjf,hvo4,hc4⟩)
   ·have aL:=A1 (eG.o hp);have bA:=A1 hc4;generalize (P.pd (Br ix.AZ P.Ai)).2=E at hp aL ⊢;(have bR:(E !=0)=true:=by simpa using hp);go_wp2;go_ret3;exact .inl ⟨E,aL.o,rfl,dA.o.tr bA.o⟩
   have dJ:=A1 (dQ.o hp);have hpe:(P.pd (Br ix.AZ P.Ai)).2=0:=hp;have b4:=b1.o.an (aH.o.tr hc4) (λh=>h);have g42:=b4.c2;have f42:=b4.fz 2;have eQ:=A1 (b4.s2 jb);have aQ:A3 (One ab) w4 (w4.sC ab 2 (A5 jb)):=(A3.I (One ab) w4).aq (b:=ab) rfl 2 _;have cL:A3 (One ab) w3 (w4.sC ab 2 (A5 jb)):=(hc4.aY (S:=One ab)).tr aQ;have bQ:A3 (One ab) wr (w4.sC ab 2 (A5 jb)):=(aH.o.aY (S:=One ab)).tr cL;(have bV:w.heap.size<=ab:=by have:=aK.o;have:=cP.o.Aj;omega);(have cQ:A3 Ab w (w4.sC ab 2 (A5 jb)):=bF.o.Av bQ λx W Y=>by have e':x=ab:=W;omega);have hr3:wr.heap.size<=w3.heap.size:=aH.o.Aj;(have aD:∀g,sv.ownBlock=some g->g<ab:=λg H=>by have:=Dx.lt bH.o H;have:=aK.o;omega);(have bC:xb<ab:=by have:=bK.o.lt;have:=aK.o;omega);(have aA:∀k,Dq jb lv (.pointer none) k->ab<k:=λk z=>by have:=hjf k z;have:=cO.o;omega);(have j5:DE (w4.sC ab 2 (A5 jb)) jb b lv (.pointer none) (P.bB ix.AZ):=hj.Al aQ λk z h=>by have e':k=ab:=h;have:=aA k z;omega);have eI:Co (w4.sC ab 2 (A5 jb)) ab b xb jb sv (.slice none 0 0) lv (.pointer none) (Ar.AR P ix) P Ft:=
    ⟨eQ.o,cC.o.an bQ bZ.o,Dx.Al dS.o bQ (λg H h=>by have e':g=ab:=h;have:=aD g H;omega),Dx.bI,j5,eL.o _ cQ,λk z=>Bi (aU.o k z) cQ.Aj,
     λk z hf=>by
      have h0:=aU.o k hf;rcases z with rfl|rfl|z|z|z
      ·omega
      ·have:=aY.o;omega
      ·have:=bP.o k z;have:=aY.o;omega
      ·simp[Value.ownBlock]at z
      ·have:=aA k z;omega,
     λg H=>⟨by have:=aD g H;omega,by have:=bP.o g H;omega,λh=>by have:=aA g h;have:=aD g H;omega⟩,
     λg H=>by simp[Value.ownBlock]at H,
     λk z=>⟨by have:=aA k z;omega,by have:=aA k z;omega⟩⟩
   have dD:=A1 (eZ.o ix aT.o _ ab xb jb sv lv cQ eI);have aS:=A1 eI;have cF:=A1 hv4;have a1:=A1 hvo4;have bA:=A1 hc4;have cX:=A1 cL;have dB:=A1 cQ;have aE:=A1 bV;have bO:=A1 aD;have bE:=A1 bC;have a2:=A1 aA;obtain⟨bT,cA,rfl,v41,eB,-⟩:=B9 hv4;unfold maxLen at eB;go_wp2_with (fail);refine dD.m ?_;rintro e w6⟨v5,v6,rfl,b7,-,bU,-,aB⟩;obtain⟨L,I,rfl,v51,dR,-⟩:=B9 b7;unfold maxLen at dR;have b6:=eQ.o.an aB (λh=>h);have g64:=b6.c4;have f64:=b6.fz 4;have dF:=A1 (b6.s4 (Value.slice L ((Ar.AR P ix).aX P).length I));have aQ:A3 (One ab) w6 (w6.sC ab 4 (Value.slice L ((Ar.AR P ix).aX P).length I)):=(A3.I (One ab) w6).aq (b:=ab) rfl 4 _;have aJ:A3 (One ab) (w4.sC ab 2 (A5 jb)) (w6.sC ab 4 (Value.slice L ((Ar.AR P ix).aX P).length I)):=(aB.aY (S:=One ab)).tr aQ;(have bI:A3 Ab w (w6.sC ab 4 (Value.slice L ((Ar.AR P ix).aX P).length I)):=dB.o.Av aJ λx W Y=>by have e':x=ab:=W;have:=aE.o;omega);(have h45:w4.heap.size<=(w4.sC ab 2 (A5 jb)).heap.size:=by simp);(have aF:∀g,(Value.slice L ((Ar.AR P ix).aX P).length I).ownBlock=some g->w4.heap.size<=g:=λg H=>by have:=bU g H;omega);(have h34:ab<w4.heap.size:=by have:=cO.o;have:=aH.o.Aj;have:=bA.o.Aj;omega);have eX:Co (w6.sC ab 4 (Value.slice L ((Ar.AR P ix).aX P).length I)) ab b xb jb sv (Value.slice L ((Ar.AR P ix).aX P).length I) lv (.pointer none) {Ar.AR P ix with AN:=(Ar.AR P ix).aX P} P Ft:=
    ⟨dF.o,aS.o.ix.an aJ bZ.o,Dx.Al aS.o.sd aJ (λg H h=>by have e':g=ab:=h;have:=bO.o g H;omega),
     Dx.Al (Dg.rd b7) aQ (λg H h=>by have e':g=ab:=h;have:=aF g H;omega),
     aS.o.jn.Al aJ (λk z h=>by have e':k=ab:=h;have:=a2.o k z;omega),eL.o _ bI,λk z=>Bi (aU.o k z) bI.Aj,
     λk z hf=>by
      rcases z with h|h|h|h|h
      ·exact aS.o.Dl k (.inl h) hf
      ·exact aS.o.Dl k (.inr (.inl h)) hf
      ·exact aS.o.Dl k (.inr (.inr (.inl h))) hf
      ·have:=aF k h;have:=aU.o k hf;have:=aE.o;omega
      ·exact aS.o.Dl k (.inr (.inr (.inr (.inr h)))) hf,
     aS.o.Fm,
     λg H=>⟨by have:=aF g H;omega,by have:=aF g H;have:=bE.o;omega,λh=>by have:=bU g H;have:=aS.o.jn.lt h;omega⟩,
     aS.o.FI⟩
   have cD:Hid (∀k,Fk ab xb jb sv (Value.slice L ((Ar.AR P ix).aX P).length I) lv (.pointer none) k->w.heap.size<=k):=λk z=>by
    rcases z with rfl|rfl|h|h|h
    ·exact aE.o
    ·exact aY.o
    ·have:=bP.o k h;have:=aY.o;omega
    ·have:=aF k h;have:=aE.o;omega
    ·have:=a2.o k h;have:=aE.o;omega
   have dL:A3 (One ab) w3 (w6.sC ab 4 (Value.slice L ((Ar.AR P ix).aX P).length I)):=cX.o.tr aJ;have a7:=eY.o ix aT.o l aN.o (w6.sC ab 4 (Value.slice L ((Ar.AR P ix).aX P).length I)) wr.heap.size v3 (cV.o.fA dL λk z=>by have e':k=ab:=z;have:=cO.o;omega);have a3:=dJ.o;generalize hPL:l.flatMap (·.2)=PL at a7 a3;have cS:=A1 a3;have dC:=A1 a7.1;have dO:=A1 a7.2;have b0:=A1 eX;have bG:=A1 bI;have aZ:Hid (AX (w6.sC ab 4 (Value.slice L ((Ar.AR P ix).aX P).length I)) (.slice bT (P.pd (Br ix.AZ P.Ai)).1.length cA) (P.pd (Br ix.AZ P.Ai)).1):=Ax cF.o λg H=>by
    have h1:=a1.o g H;have hlt4:=AF cF.o H;(have a4:g≠ab:=by have:=cO.o;have:=aH.o.Aj;omega);have e1:=aJ.An g (by omega) (λh=>a4 h);rw[e1];exact Hg _ _ _ _ (λe=>a4 e)
   (have HO47:Hid (∀g,(Value.slice bT (P.pd (Br ix.AZ P.Ai)).1.length cA).ownBlock=some g->w.heap.size<=g):=λg H=>by have:=a1.o g H;have:=dA.o.Aj;omega);go_wp2_with (fail);refine dC.m ?_;rintro e w8⟨v8,rfl,cE,cT,b8⟩;obtain⟨bB,a8,rfl,v81,dP,-⟩:=B9 cE;unfold maxLen at dP;have dW:=A1 cE;have a5:=A1 cT;have cH:=A1 b8;have cJ:=A1 (Src.bN Gy (Ax aZ.o λg H=>b8.An g (AF aZ.o H) (λh=>h)) (IE (P.pd (Br ix.AZ P.Ai)).1));(have cU:Hid ((PL.length+(P.pd (Br ix.AZ P.Ai)).1.length)*24<=140737488355328):=by have:=dO.o;have:=cG.o;unfold Hid;omega);go_wp2_with (at_builtin;refine Dj rfl (.tmp 84) (.tmp 85) 97 97 rfl 113 i0 _ 3 24 Gy hi hz0 hz1 hz2 rfl (by decide) (.slice bB PL.length a8) PL.length (Bb PL) (by rfl) dW.o _ (P.pd (Br ix.AZ P.Ai)).1.length _ (by rfl) cJ.o cU.o ?_;intro a9 b9 w9 hA;have eS:=A1 hA);go_ret3;have hA:=eS.o;have dG:=hA.Al (S:=λk=>(Value.slice bB PL.length a8).ownBlock=some k) λ_ h=>h;have aX:A3 (λk=>(Value.slice bB PL.length a8).ownBlock=some k) (w6.sC ab 4 (Value.slice L ((Ar.AR P ix).aX P).length I)) w9:=(cH.o.aY).tr dG;have dH:=cH.o.Aj;have a0:∀g,(Value.slice a9 (PL.length+(P.pd (Br ix.AZ P.Ai)).1.length) b9).ownBlock=some g->(w6.sC ab 4 (Value.slice L ((Ar.AR P ix).aX P).length I)).heap.size<=g:=λg H=>by
    rcases hA.CA with h|h
    ·rw[h]at H;exact a5.o g H
    ·rw[h]at H;cases H;exact dH
   refine .inr ⟨_,_,ab,_,λk=>Ft k\/Fk ab xb jb sv (Value.slice L ((Ar.AR P ix).aX P).length I) lv (.pointer none) k,cS.o,rfl,?_,⟨xb,jb,sv,(Value.slice L ((Ar.AR P ix).aX P).length I),lv,.pointer none,Ft,b0.o.aN (λk z=>aX.An k (b0.o.bT z) λh=>by have:=a5.o k h;have:=b0.o.bT z;omega) aX.Aj,λ_ h=>h⟩,λk z=>?_,λk z=>Bi (b0.o.bT z) aX.Aj,λg H=>⟨λhf=>?_,?_⟩,?_⟩
   ·(have e:(PL++(P.pd (Br ix.AZ P.Ai)).1).length=PL.length+(P.pd (Br ix.AZ P.Ai)).1.length:=by simp);unfold AX;rw[Jk,e];exact hA.AE
   ·rcases z with z|z
    ·exact .inl z
    ·exact .inr (cD.o k z)
   ·have:=a0 g H;have:=b0.o.bT hf;omega
   ·have:=a0 g H;have:=bG.o.Aj;omega
   ·exact bG.o.Av aX λx W Y=>by have:=a5.o x W;have:=bG.o.Aj;omega
end
section
def YM(w:ga)(H:Nat)(od:Int)(p:Pu)(I:A7 w H 0 (A0 od)):
 Ag 111 #[DA p,A5 H] w (Am (.bool (decide (od<=p.2.1))) λw'=>A3 Ab w w'):=by
 obtain⟨z,E,h⟩:=p;unfold DA;dsimp only
 have d:C5 (w.aC #[A0 z,A0 E,A0 h] 113) w.heap.size z E h:=BL w _;have k:A3 Ab w (w.aC #[A0 z,A0 E,A0 h] 113):=(A3.I _ w).al _;have c1:=d.c1;have hw2:=k.ao I;have K:=A1 k
 go_enter func111,ntmps111
 go_wp2;go_ret;exact⟨rfl,K.o⟩
def A2d(w:ga)(v:gd)(l:gh Pu)(h:AX w v l)(ob:Nat)(od:Int)(hw:A7 w ob 0 (A0 od)):
 Ag 159 #[v,.func (Fn.func 111) #[] #[A5 ob]] w λe w'=>∃i:Int,e=.returned (A0 i)/\decide (0<=i)=l.any (λp=>decide (od<=p.2.1))/\A3 Ab w w':=by
 obtain⟨va,vcap,rfl,v1,v2,v3,-⟩:=B9 h;unfold maxLen at v2;have H:=A1 h;have aK:=A1 hw;have aJ:=A1 v3
 go_enter func159,ntmps159
 go_wp2;go_loopw [8] (λiv wr=>∃k:Nat,iv=A0 k/\k<=l.length/\Hid ((l.take k).any (λp=>decide (od<=p.2.1))=false/\A3 Ab w wr)) (λiv _=>l.length-(intOf iv).toNat)
 ·exact⟨0,rfl,by omega,by simp,A3.I _ _⟩
 ·obtain⟨k,rfl,hk,hI⟩:=hrel;have⟨i1,i2⟩:=hI.o;by_cases z:k<l.length
  ·obtain⟨g,rfl⟩:=aJ.o (by omega);have⟨q1,q2,q3⟩:=Hz l k z;have O:l.take (k+1)=l.take k++[l[k]'z]:=Dy z;have E:=BU z;generalize hp:(l[k]'z)=p at q1 q2 q3 O E;have e1:=i2.ao (BH H.o rfl q1);have e2:=i2.ao (BH H.o rfl q2);have e3:=i2.ao (BH H.o rfl q3);have W:=A1 (YM wr ob od p (i2.ao aK.o));have Y:=A1 i2;(have aH:Hid (decide (od<=p.2.1)=false->(l.take (k+1)).any (λp=>decide (od<=p.2.1))=false):=λh=>by rw[O,List.any_append,i1];simp at h ⊢;exact h);have aG:Hid (decide (od<=p.2.1)=true->l.any (λp=>decide (od<=p.2.1))=true):=λh=>QN.2 ⟨p,E,h⟩;generalize hd:decide (od<=p.2.1)=d at W aH aG;obtain⟨p1,p2,p3⟩:=p;unfold DA at W;dsimp only at e1 e2 e3 W;(have aA:(k:Int)<(l.length:Int):=by omega);have aD:=C3 k;cases d with
   | true=>
    have aE:=A1 (aG.o rfl);go_wp2_with (fail);refine W.k ?_;rintro w6 L;have I:=A1 L;go_wp2;go_ret;exact⟨_,rfl,by rw[aE.o];exact CM aD,Y.o.tr I.o⟩
   | false=>
    have aF:=A1 (aH.o rfl);go_wp2_with (fail);refine W.k ?_;rintro w6 L;have I:=A1 L;go_wp2;go_roundw
    ·exact⟨k+1,by go_num,by omega,aF.o,Y.o.tr I.o⟩
    ·simp[intOf];omega
  ·(have aB:k=l.length:=by omega);subst aB;rw[Cf]at i1;have aI:=A1 i1;have Y:=A1 i2;(have aA:¬((l.length:Int)<(l.length:Int)):=by omega);clear hI i1 i2;go_wp2;go_ret;exact⟨_,rfl,by rw[aI.o];rfl,Y.o⟩
def A3q(w:ga)(v:gd)(l:gh Pu)(h:AX w v l)(z:Nat)(od:Int)(L:A7 w z 0 (A0 od)):
 Ag 110 #[v,.func (Fn.func 111) #[] #[A5 z]] w (Am (.bool (l.any (λp=>decide (od<=p.2.1)))) λw'=>A3 Ab w w'):=by
 have E:=A1 (A2d w v l h z od L);obtain⟨va,vcap,rfl,v1,v2,-⟩:=B9 h;generalize hd:l.any (λp=>decide (od<=p.2.1))=d at E ⊢
 go_enter func110,ntmps110
 go_wp2_with (fail);refine E.m ?_;rintro e w1⟨i,rfl,O,W⟩;have H:=A1 O;have I:=A1 W;go_wp2;go_ret;exact⟨by rw[<-H.o];rfl,I.o⟩
end
section
def A2B(w:ga)(x y:gd)(d z:gh Pu)(h1:AX w x d)(h2:AX w y z):
 Ag 114 #[x,y] w (Am (.bool (decide (d=z))) λw'=>A3 Ab w w'):=by
 obtain⟨va,vcap,rfl,v1,v2,v3,-⟩:=B9 h1;obtain⟨ua,ucap,rfl,u1,u2,u3,-⟩:=B9 h2;unfold maxLen at v2 u2;have aL:=A1 h1;have aO:=A1 h2;have aU:=A1 v3;have aT:=A1 u3;by_cases hl:d.length=z.length
 case neg=>
  have aJ:¬d=z:=λe=>hl (by rw[e]);rw[De aJ];have aP:((d.length:Int)!=(z.length:Int))=true:=by simp;omega
  go_enter func114,ntmps114
  go_wp2;go_ret;exact⟨rfl,A3.I _ _⟩
 case pos=>
 have aI:=A1 hl;have aP:((d.length:Int)!=(z.length:Int))=false:=by simp;omega
 go_enter func114,ntmps114
 go_wp2;go_loopw [13] (λiv wr=>∃k:Nat,iv=A0 k/\k<=d.length/\Hid (d.take k=z.take k/\A3 Ab w wr)) (λiv _=>d.length-(intOf iv).toNat)
 ·exact⟨0,rfl,by omega,by simp,A3.I _ _⟩
 ·obtain⟨k,rfl,hk,hI⟩:=hrel;have⟨i1,i2⟩:=hI.o;by_cases I:k<d.length
  ·(have E:k<z.length:=by have:=aI.o;omega);obtain⟨g,rfl⟩:=aU.o (by omega);obtain⟨g',rfl⟩:=aT.o (by omega);have⟨p1,p2,p3⟩:=Hz d k I;have⟨q1,q2,q3⟩:=Hz z k E;have aD:d.take (k+1)=d.take k++[d[k]'I]:=Dy I;have aE:z.take (k+1)=z.take k++[z[k]'E]:=Dy E;(have L:d=z->(d[k]'I)=(z[k]'E):=λe=>by subst e;rfl);obtain⟨p,hp⟩:∃p,(d[k]'I)=p:=⟨_,rfl⟩;obtain⟨q,hq⟩:∃q,(z[k]'E)=q:=⟨_,rfl⟩;rw[hp]at p1 p2 p3 aD L;rw[hq]at q1 q2 q3 aE L;(have aQ:Hid (p=q->d.take (k+1)=z.take (k+1)):=λe=>by rw[aD,aE,i1,e]);have aA:Hid (¬p=q->decide (d=z)=false):=λh=>De λe=>h (L e);have aR:Hid (∀O,A3 Ab wr O->A7 O g (k*3) (A0 p.1)/\A7 O g (k*3+1) (A0 p.2.1)/\A7 O g (k*3+2) (A0 p.2.2)/\A7 O g' (k*3) (A0 q.1)/\A7 O g' (k*3+1) (A0 q.2.1)/\A7 O g' (k*3+2) (A0 q.2.2)):=λO hx=>
    ⟨hx.ao (i2.ao (BH aL.o rfl p1)),hx.ao (i2.ao (BH aL.o rfl p2)),hx.ao (i2.ao (BH aL.o rfl p3)),hx.ao (i2.ao (BH aO.o rfl q1)),hx.ao (i2.ao (BH aO.o rfl q2)),hx.ao (i2.ao (BH aO.o rfl q3))⟩
   have aF:=A1 i2;obtain⟨Y,pb,pc⟩:=p;obtain⟨W,qb,qc⟩:=q;dsimp only at aR;(have aK:(k:Int)<(d.length:Int):=by omega);(have hkj:(k:Int)<(z.length:Int):=by omega);have hk0:=C3 k;have aS:=aR.o wr.drew (A3.I _ wr).ag;clear hI i1 i2 p1 p2 p3 q1 q2 q3 aD aE L hp hq E;go_wp2;refine Cc (λw'=>A7 w' g (k*3) (A0 Y)/\A7 w' g (k*3+1) (A0 pb)/\A7 w' g (k*3+2) (A0 pc)/\A7 w' g' (k*3) (A0 W)/\A7 w' g' (k*3+1) (A0 qb)/\A7 w' g' (k*3+2) (A0 qc)) 8
    (BG [0,1,2,3,4,5,6,7] []) aS ?_
   iterate 8 refine Bq ?_
   refine C8 ?_;by_cases H:(Y,pb,pc)=(W,qb,qc)
   ·have aN:=A1 (aQ.o H);(obtain⟨rfl,rfl,rfl⟩:Y=W/\pb=qb/\pc=qc:=by simpa using H);clear H aQ aA;go_wp2;go_roundw
    ·exact⟨k+1,by go_num,by omega,aN.o,aF.o.ag⟩
    ·simp[intOf];omega
   ·have aB:=A1 (aA.o H);have aM:¬Y=W\/(Y=W/\¬pb=qb)\/(Y=W/\pb=qb/\¬pc=qc):=by
     by_cases ha:Y=W
     ·by_cases hb:pb=qb
      ·exact .inr (.inr ⟨ha,hb,λhc=>H (by rw[ha,hb,hc])⟩)
      ·exact .inr (.inl ⟨ha,hb⟩)
     ·exact .inl ha
    clear H aQ aA;rcases aM with ha|⟨rfl,hb⟩|⟨rfl,rfl,hc⟩
    ·(have aG:(Y==W)=false:=by simpa using ha);go_wp2;go_ret;exact⟨by rw[aB.o];rfl,aF.o.ag⟩
    ·(have aG:(pb==qb)=false:=by simpa using hb);go_wp2;go_ret;exact⟨by rw[aB.o];rfl,aF.o.ag⟩
    ·(have aG:(pc==qc)=false:=by simpa using hc);go_wp2;go_ret;exact⟨by rw[aB.o];rfl,aF.o.ag⟩
  ·(have aH:k=d.length:=by omega);have he:d=z:=by
    have h1:=i1;rw[aH,Cf]at h1;rw[aI.o,Cf]at h1;exact h1
   have aF:=A1 i2;(have aK:¬((k:Int)<(d.length:Int)):=by omega);have aV:=A1 he;clear hI i1 i2 he aH;go_wp2;go_ret;exact⟨by rw[CM aV.o];rfl,aF.o⟩
def Z6{aA b:Nat}(w:ga)(L O:Nat)(x:Int×gh Pu)(h:JJ w aA b L x)(pv:gd)(l:gh Pu)(hp:A7 w O 0 pv)(hl:AX w pv l):
 Ag 113 #[A5 L,A5 O] w (Am (.bool (decide (x.2=l))) λw'=>A3 Ab w w'):=by
 obtain⟨sv,s1,s2,-,-⟩:=h;obtain⟨sa,E,rfl,c1,c2,-⟩:=B9 s2;obtain⟨pa,z,rfl,d1,d2,-⟩:=B9 hl;have f4:A7 w.drew L 4 (.slice sa x.2.length E):=s1.c4;have I:A7 w.drew O 0 (.slice pa l.length z):=hp;have Y:=A1 (A2B w.drew _ _ x.2 l (Ax s2 λ_ _=>rfl) (Ax hl λ_ _=>rfl));generalize hd:decide (x.2=l)=d at Y ⊢;generalize hn1:x.2.length=n1 at Y f4
 go_enter func113,ntmps113
 go_wp2;refine Cc (λw'=>A7 w' L 4 (.slice sa n1 E)/\A7 w' O 0 (.slice pa l.length z)) 6
  (BG [0,1,2,3,4,5] [5]) ⟨f4,I⟩ ?_
 iterate 5 refine Bq ?_
 refine Bx λK hK=>?_;go_simp;refine Y.k ?_;rintro w6 H;refine hK _ _ ⟨H.ao f4,H.ao I⟩ (λhS=>?_);have W:Hid (A3 Ab w w6):=((A3.I _ w).ag).tr H;refine C8 ?_;go_wp2;go_ret;exact⟨rfl,W.o⟩
def A2e{aN b:Nat}(w:ga)(v:gd)(sd:gh (Int×gh Pu))(h:GB w aN b v sd)(pb:Nat)(pv:gd)(l:gh Pu)(hp:A7 w pb 0 pv)(hl:AX w pv l):
 Ag 112 #[v,.func (Fn.func 113) #[] #[A5 pb]] w λe w'=>
  ((e=.returned (A0 (-1))/\sd.find? (λs=>decide (s.2=l))=none)\/∃(k:Nat) (hk:k<sd.length),e=.returned (A0 k)/\sd.find? (λs=>decide (s.2=l))=some (sd[k]'hk))/\A3 Ab w w':=by
 obtain⟨O,j1,j2,j3,j4⟩:=h;obtain⟨va,vcap,rfl,v1,v2,v3,-⟩:=B9 j2;unfold maxLen at v2;have aO:=A1 j2;have aM:=A1 j4;have G:=A1 v3;have aL:=A1 hp;have aJ:=A1 hl
 go_enter func112,ntmps112
 go_wp2;go_loopw [8] (λiv wr=>∃k:Nat,iv=A0 k/\k<=sd.length/\Hid ((sd.take k).find? (λs=>decide (s.2=l))=none/\A3 Ab w wr)) (λiv _=>sd.length-(intOf iv).toNat)
 ·exact⟨0,rfl,by omega,by simp,A3.I _ _⟩
 ·obtain⟨k,rfl,hk,hI⟩:=hrel;have⟨i1,i2⟩:=hI.o;by_cases z:k<sd.length
  ·(have E:k<O.length:=by omega);obtain⟨g,rfl⟩:=G.o (by omega);have hc:A7 w g k (A5 (O[k]'E)):=BH aO.o rfl (by simp[GM,E]);have L:=aM.o k E z;have Y:sd=sd.take k++(sd[k]'z):: sd.drop (k+1):=by
    conv=>lhs;rw[<-DU k sd,FB z]
   have W:sd.take (k+1)=sd.take k++[sd[k]'z]:=Dy z;generalize aH:(O[k]'E)=gb at hc L;have e1:=i2.ao hc;have SI:=A1 (Z6 wr gb pb (sd[k]'z) (L.aJ i2) pv l (i2.ao aL.o) (Ax aJ.o λg hg=>i2.An g (AF aJ.o hg) (λh=>h)));have aA:=A1 i2;have aI:Hid (decide ((sd[k]'z).2=l)=false->(sd.take (k+1)).find? (λs=>decide (s.2=l))=none):=λh=>by
    rw[W,A49,i1,List.find?_cons_of_neg (by rw[h];simp)];rfl
   have aE:Hid (decide ((sd[k]'z).2=l)=true->sd.find? (λs=>decide (s.2=l))=some (sd[k]'z)):=λh=>by
    have e:(sd.take k++(sd[k]'z):: sd.drop (k+1)).find? (λs=>decide (s.2=l))=some (sd[k]'z):=by
     rw[A49,i1,List.find?_cons_of_pos (by exact h)];rfl
    rwa [<-Y]at e
   generalize hd:decide ((sd[k]'z).2=l)=d at SI aI aE;(have aB:(k:Int)<(sd.length:Int):=by omega);have hk0:=C3 k;clear hI i1 i2 hc L Y W aH hd;cases d with
   | true=>
    have aF:=A1 (aE.o rfl);clear aI aE;go_wp2_with (fail);refine SI.k ?_;rintro w6 H;have I:=A1 H;go_wp2;go_ret;exact⟨.inr ⟨k,z,rfl,aF.o⟩,aA.o.tr I.o⟩
   | false=>
    have aG:=A1 (aI.o rfl);go_wp2_with (fail);refine SI.k ?_;rintro w6 H;have I:=A1 H;clear H SI;go_wp2;go_roundw
    ·exact⟨k+1,by go_num,by omega,aG.o,aA.o.tr I.o⟩
    ·simp[intOf];omega
  ·(have aD:k=sd.length:=by omega);subst aD;rw[Cf]at i1;have aK:=A1 i1;have aA:=A1 i2;(have aB:¬((sd.length:Int)<(sd.length:Int)):=by omega);clear hI i1 i2;go_wp2;go_ret;exact⟨.inl ⟨rfl,by simpa using aK.o⟩,aA.o⟩
end
end
end Go.Proofs.YtodcnkbblippnaaGreatDoor
