/- Part 40 of a proof: walks of the program. -/
import Derived.Test.YtodcnkbblippnabGreatDoorPart39
namespace Go.Proofs.YtodcnkbblippnabGreatDoor
set_option maxRecDepth 100000
set_option maxHeartbeats 32000000
set_option linter.defProp false
open Go.Proofs.Tryz
section
open Go.RowKit
attribute [local go_sem ↓] Cz
def Mb{n:Int}(h:isNum n=true):1<=n/\n<=4611686018427387904:=by
 unfold isNum at h;simpa using h
def KP{P:PD}{ix:Ix}(h:P.CV=some ix):(1<=ix.AW/\ix.AW<=4611686018427387904)/\∀n∈ix.segs,1<=n/\n<=4611686018427387904:=by
 unfold PD.CV indexOf at h;split at h
 ·cases h;exact⟨⟨by decide,by decide⟩,λn H=>by cases H⟩
 ·split at h
  ·cases h
  ·rename_i I;split at h
   ·cases h
   ·rename_i z;split at h
    ·cases h;(have z:(Eo (P.aT AF).1).all isNum=true:=by simpa using z);rw[MX]at z;generalize hi:Eo (P.aT AF).1=l at *;cases l with
     | nil=>simp at I
     | cons x r=>exact⟨Mb (z x Bp),λn H=>Mb (z n (Bn _ H))⟩
    ·cases h
def QO:∀(k:Nat) (l:Bs) (r:List Pu×Bs),DL k l=some r->r.1.length<=l.length
 | 0,l,r,h=>by cases h;exact C8 _
 | k+1,l,r,h=>by
  unfold DL at h;split at h
  ·cases h;exact C8 _
  ·rename_i hl;split at h
   ·cases hx:DL k (l.drop 17) with
    | none=>rw[hx]at h;cases h
    | some q=>
     rw[hx]at h;cases h;have:=QO k (l.drop 17) q hx;simp only[BM];rw[CM]at this;omega
   ·cases h
def Xd{P:PD}{a c m:Nat}(z:Fit P a c m){n:Int}{l:List Pu}(h:P.BT n=some l):l.length<=m:=by
 unfold PD.BT Hz at h;split at h
 ·cases h
 ·cases hx:DL (P.aT (Aw n)).1.length (P.aT (Aw n)).1 with
  | none=>rw[hx]at h;cases h
  | some q=>
   rw[hx]at h;dsimp only at h;split at h
   ·cases h;exact AH (QO _ _ q hx) (Rk z _)
   ·cases h
def Nq{P:PD}{a c m:Nat}(O:Fit P a c m):∀(I:List Int) (l:List (Int×List Pu)),P.segs I=some l->l.length=I.length/\∀x∈l,x.2.length<=m
 | [],l,h=>by cases h;exact⟨rfl,λx H=>by cases H⟩
 | n::r,l,h=>by
  unfold PD.segs at h;cases H:P.BT n with
  | none=>rw[H]at h;cases h
  | some q=>
   rw[H]at h;dsimp only at h;cases hy:P.segs r with
   | none=>rw[hy]at h;cases h
   | some y=>
    rw[hy]at h;cases h;have⟨h1,h2⟩:=Nq O r y hy;refine⟨by simp[h1],λx z=>?_⟩;rcases BF.1 z with rfl|z
    ·exact Xd O H
    ·exact h2 x z
def Em(l:List Bs):List Int:=l.filterMap λnm=>if (Bc nm).1=2 then some (Bc nm).2 else none
def Xh(a b:List Bs):Em (a++b)=Em a++Em b:=by simp[Em]
def DX(w:World)(ab b xb:Nat)(last:Int):Prop:=w.heap[ab]?=some (.cells #[.pointer (some ⟨b,0,none⟩),.pointer (some ⟨xb,0,none⟩),.pointer none,.int .i64 last,.slice none 0 0] 108 (0,0))
section
variable{w w':World}{ab b xb:Nat}{last:Int}
def DX.c0(h:DX w ab b xb last):Aa w ab 0 (A7 b):=by unfold DX at h;simp[Aa,World.cell?,h]
def DX.c1(h:DX w ab b xb last):Aa w ab 1 (A7 xb):=by unfold DX at h;simp[Aa,World.cell?,h]
def DX.c2(h:DX w ab b xb last):Aa w ab 2 (.pointer none):=by unfold DX at h;simp[Aa,World.cell?,h]
def DX.c3(h:DX w ab b xb last):Aa w ab 3 (A0 last):=by unfold DX at h;simp[Aa,World.cell?,h]
def DX.fz(h:DX w ab b xb last)(o:Nat):w.frozen? (Ad ab o)=false:=by unfold DX at h;simp[World.frozen?,h]
def DX.s3(h:DX w ab b xb last)(x:Int):DX (w.setCell (Ad ab 3) (A0 x)) ab b xb x:=CE h
def DX.s2(h:DX w ab b xb last)(z:Nat):D8 (w.setCell (Ad ab 2) (A7 z)) ab b xb z last (.slice none 0 0):=CE h
def DX.e7(h:DX w ab b xb last):ab<w.heap.size:=Bo h
def DX.ak{S:Nat->Prop}(h:DX w ab b xb last)(z:A5 S w w')(H:¬S ab):DX w' ab b xb last:=z.ak h H
end
def Gh.fq{S:Nat->Prop}{w w':World}{O b:Nat}{v:Value}{l:List (Int×List Pu)}(h:Gh w O b v l)(X:A5 S w w')(W:∀k,S k->k<O):Gh w' O b v l:=by
 obtain⟨I,h1,Y,h3,h4⟩:=h;refine⟨I,h1,AA Y λg z=>X.Ao g (AG Y z) λH=>by have:=W g H;have:=h3 g z;omega,h3,λk q1 q2=>?_⟩;have⟨pv,s1,s2,s3,s4⟩:=h4 k q1 q2;exact⟨pv,s1.ak X (λH=>by have:=W _ H;omega),AA s2 λg z=>X.Ao g (AG s2 z) λH=>by have:=W g H;have:=s4 g z;omega,s3,s4⟩
section
variable{b a c m B:Nat}{P:PD}{Ft:Nat->Prop}
def NR(h:P.CV=none):Ar.aR P=.error 7:=by unfold Ar.aR;rw[h]
def NT{ix:Ix}(h:P.CV=some ix)(z:P.Av.any (λnm=>decide ((Bc nm).1=0))=true):Ar.aR P=.error 7:=by
 unfold Ar.aR;rw[h];dsimp only;rw[Ah z]
def NO{ix:Ix}(h:P.CV=some ix)(z:P.Av.any (λnm=>decide ((Bc nm).1=0))=false)(H:P.segs ix.segs=none):Ar.aR P=.error 7:=by
 unfold Ar.aR;rw[h];dsimp only;rw[Ae (by simp[z]),H]
def NP{ix:Ix}{l:List (Int×List Pu)}(h:P.CV=some ix)(H:P.Av.any (λnm=>decide ((Bc nm).1=0))=false)(I:P.segs ix.segs=some l)(z:(P.puts (Bv ix.AW P.Av)).2≠0):Ar.aR P=.error (P.puts (Bv ix.AW P.Av)).2:=by
 unfold Ar.aR;rw[h];dsimp only;rw[Ae (by simp[H]),I];dsimp only;rw[Ah z]
def Ar.AS(P:PD)(ix:Ix):Ar:=⟨ix,P.bP ix.AW,(Em P.Av).getLastD 0,[]⟩
def NQ{ix:Ix}{l:List (Int×List Pu)}(h:P.CV=some ix)(H:P.Av.any (λnm=>decide ((Bc nm).1=0))=false)(I:P.segs ix.segs=some l)(z:(P.puts (Bv ix.AW P.Av)).2=0):
 Ar.aR P=.ok ({Ar.AS P ix with AM:=(Ar.AS P ix).a1 P},l.flatMap (·.2)++(P.puts (Bv ix.AW P.Av)).1):=by
 unfold Ar.aR;rw[h];dsimp only;rw[Ae (by simp[H]),I];dsimp only;rw[Ae (by simp[z])];rfl
def Us(w:World)(h:Bh w b P Ft)(aA:∀k,Ft k->k<w.heap.size)(hF:Fit P a c m)(hl:CN a c m)(dN:a*m<=70368744177664)(hL:Lets B w)(hE:HV w)(cO:∀nm∈P.Av,nm.length<=281474976710656)(aN:∀ix,P.CV=some ix->ix.segs.length<=1073741824/\ix.segs.length*m<=4398046511104)(bS:∀first,(P.puts (Bv first P.Av)).1.length<=1099511627776):
 Aj 29 #[A7 b] w λe w'=>
  (∃n,Ar.aR P=.error n/\e=.returned (.tuple #[.pointer none,.slice none 0 0,A0 n])/\A5 Ab w w')\/
  (∃A ps ab v FT,Ar.aR P=.ok (A,ps)/\e=.returned (.tuple #[A7 ab,v,A0 0])/\AZ w' v ps/\AD w' ab b A P FT/\(∀k,FT k->Ft k\/w.heap.size<=k)/\(∀k,FT k->k<w'.heap.size)/\(∀g,v.ownBlock=some g->¬FT g/\w.heap.size<=g)/\A5 Ab w w'):=by
 have⟨i0,hi,hz0,hz1,hz2⟩:=Eb Ig;have eS:=A4 (Y9 w h aA hF hl hL);have eW:Hid (∀z,A5 Ab w z->Aj 48 #[A7 b] z λe w'=>∃v,e=.returned v/\Dq w' v P.Av/\A5 Ab z w'/\(∀g,v.ownBlock=some g->z.heap.size<=g)):=λz hc=>O9 (B5.az h aA hc) hF hl;have eU:Hid (∀z,A5 Ab w z->∀nm∈P.Av,Aj 49 #[.string ⟨nm.toArray⟩] z (Au (.tuple #[A0 (Bc nm).1,A0 (Bc nm).2]) λw'=>A5 Ab z w')):=λz hc nm hm=>Sz z nm (cO nm hm) (hE.aP hc) (hL.aP hc);have bN:P.Av.length<=a:=by rw[GL];exact hF.A6
 have bT:=AH bN hl.a;have eV:Hid (∀ix,P.CV=some ix->∀z ab xb sv,A5 Ab w z->Aa z ab 0 (A7 b)->Aa z ab 1 (A7 xb)->Aa z xb 4 sv->Dc z sv ix.segs->_):=
  λix hx z ab xb sv hc h0 h1 h4 hs=>QH (ab:=ab) (xb:=xb) (sv:=sv) z ix.segs h0 h1 h4 hs (B5.az h aA hc) (λk H=>Bm (aA k H) hc.Am) hF hl (λn hn=>by have:=(KP hx).2 n hn;exact HF (by omega) this.2) (aN ix hx).1 (hL.aP hc)
 have eX:Hid (∀ix,P.CV=some ix->∀z,A5 Ab w z->_):=λix hx z hc=>ZU z (B5.az h aA hc) (λk H=>Bm (aA k H) hc.Am) hF hl dN (KP hx).1 (hL.aP hc) (hE.aP hc) cO;have e0:Hid (∀ix,P.CV=some ix->∀z ab xb jb sv lv,A5 Ab w z->Ck z ab b xb jb sv (.slice none 0 0) lv (.pointer none) (Ar.AS P ix) P Ft->_):=λix hx z ab xb jb sv lv hc hv=>
  RO z hv hF hl (λn hn=>by have:=(KP hx).2 n hn;exact HF (by omega) this.2) (λn hn=>by have⟨_,h2,_⟩:=O6 hn;exact HF (by omega) h2.2) (aN ix hx).1 (AH (IS _ _) bT) (hL.aP hc)
 have eZ:Hid (∀ix,P.CV=some ix->∀l,P.segs ix.segs=some l->∀z dF v,Gh z dF b v l->(Aj 53 #[v] z λe w'=>∃v',e=.returned v'/\AZ w' v' (l.flatMap (·.2))/\(∀g,v'.ownBlock=some g->z.heap.size<=g)/\A5 Ab z w')/\(l.flatMap (·.2)).length<=4398046511104):=λix hx l hs z dF v hv=>by
  have⟨s1,s2⟩:=Nq hF ix.segs l hs;refine⟨RM z dF v l hv (by rw[s1];exact(aN ix hx).1) s2 (by rw[s1];exact(aN ix hx).2),AH ?_ (aN ix hx).2⟩;rw[<-s1];clear hs s1 hv
  induction l with
  | nil=>exact C8 _
  | cons x r ih=>
   have:=ih (λy hy=>s2 y (Bn _ hy));have:=s2 x Bp;rw[Kc,AX,BM,MM];omega
 have eK:=A4 (NR (P:=P));have eI:=A4 (λix=>NT (P:=P) (ix:=ix));have eO:=A4 (λix=>NO (P:=P) (ix:=ix));have eN:=A4 (λix l=>NP (P:=P) (ix:=ix) (l:=l));have eL:=A4 (λix l=>NQ (P:=P) (ix:=ix) (l:=l));have dW:=A4 bS;have eM:Hid (∀z,A5 Ab w z->Bh z b P Ft):=λz hc=>B5.az h aA hc;have aV:=A4 aA;have FIX:=A4 (λ(ix:Ix) (hx:P.CV=some ix)=>(KP hx).1);generalize hO:Ar.aR P=O at eK eI eO eN eL ⊢
 go_enter func29,ntmps29
 go_wp2_with (fail);refine eS.m ?_;rintro e z (⟨hx,rfl,hc1⟩|⟨ix,xb,sv,hx,rfl,hfx,hsv,hso,hxb,hc1⟩)
 ·have aU:=A4 (eK.o hx);have dO:=A4 hc1;go_wp2;go_ret3;exact .inl ⟨7,aU.o,rfl,dO.o⟩
 have dZ:DX (z.aC #[A7 b,A7 xb,.pointer none,A0 0,.slice none 0 0] 108) z.heap.size b xb 0:=BN z _;have eQ:Hid (A5 Ab z (z.aC #[A7 b,A7 xb,.pointer none,A0 0,.slice none 0 0] 108)):=(A5.C _ z).aj _;have cQ:=A4 hc1;have eD:=A4 (eW.o _ (cQ.o.tr eQ.o));have aU:=A4 hx;have bL:=A4 hfx;have bI:=A4 hsv;have bQ:=A4 hso;have aZ:=A4 hxb;have dU:=A4 dZ;have dA:Hid (z.heap.size<(z.aC #[A7 b,A7 xb,.pointer none,A0 0,.slice none 0 0] 108).heap.size):=by unfold Hid;simp
 go_wp2_with (fail);refine eD.m ?_;rintro e w2⟨v,rfl,hv,b5,dY⟩;obtain⟨na,cN,rfl,nc1,dJ⟩:=(Dq.rd hv).BV;unfold maxLen at dJ;have e2:=A4 (Dq.rd hv);have cC:=A4 <| eQ.o.tr b5;have eP:=A4 (dU.o.ak b5 (λh=>h));have bZ:Hid (∀g,(Value.slice na P.Av.length cN).ownBlock=some g->z.heap.size<g):=λg I=>Bm dA.o (dY g I);generalize eB:z.heap.size=ab at eP bZ ⊢;have aL:=A4 eB;go_wp2;go_loopw [30] (λiv wr=>∃k:Nat,iv=A0 k/\k<=P.Av.length/\Hid (DX wr ab b xb ((Em (P.Av.take k)).getLastD 0)/\(P.Av.take k).any (λnm=>decide ((Bc nm).1=0))=false/\A5 Ab w wr/\A5 (One ab) w2 wr)) (λiv _=>P.Av.length-(intOf iv).toNat)
 ·exact⟨0,rfl,by omega,eP.o,by simp,cQ.o.tr cC.o,A5.C _ _⟩
 ·obtain⟨k,rfl,H,hI⟩:=hrel;have⟨i1,i2,i3,i4⟩:=hI.o;by_cases aX:k<P.Av.length
  ·obtain⟨g,o,rfl,d1⟩:=GB.at e2.o k aX;have aP:=BS aX;have bM:=Dz aX;generalize a5:(P.Av[k]'aX)=nm at d1 aP bM;have e1:=i4.bB d1 (λh=>by have h':g=ab:=h;have:=bZ.o g rfl;omega);have aS:=A4 (eU.o wr i3 nm aP);have bO:=SA nm;have aJ:Hid ((Em (P.Av.take (k+1))).getLastD 0=if (Bc nm).1=2 then (Bc nm).2 else (Em (P.Av.take k)).getLastD 0):=by
    unfold Hid;rw[bM,Xh];by_cases hc:(Bc nm).1=2
    ·(have e:Em [nm]=[(Bc nm).2]:=by simp[Em,hc]);rw[Ah hc,e,TD]
    ·(have e:Em [nm]=[]:=by simp[Em,hc]);rw[Ae hc,e,Fz]
   (have aW:Hid (¬(Bc nm).1=0->(P.Av.take (k+1)).any (λnm=>decide ((Bc nm).1=0))=false):=λhz=>by rw[bM,List.any_append,i2];simp[hz]);have aQ:Hid ((Bc nm).1=0->P.Av.any (λnm=>decide ((Bc nm).1=0))=true):=λhz=>Pr.2 ⟨nm,aP,by simp[hz]⟩;generalize hX:Bc nm=X at aS aJ aW aQ bO;obtain⟨s,n⟩:=X;dsimp only at aS aJ aW aQ bO;obtain⟨r1,r2⟩:=bO;have b2:=A4 i1;have bG:=A4 i3;have dV:=A4 i4;(have dL:(k:Int)<(P.Av.length:Int):=by omega);have hk0:=Cd k;by_cases bE:s=0
   ·subst bE;have aM:=A4 (eI.o ix aU.o (aQ.o rfl));go_wp2_with (go_at_call 49;refine aS.k ?_;rintro w6 aD;have aH:=A4 aD);go_ret3;exact .inl ⟨7,aM.o,rfl,bG.o.tr aH.o⟩
   ·(have hsb0:(s==0)=false:=by simpa using bE);by_cases a7:s=2
    ·subst a7;(have bK:Hid ((Em (P.Av.take (k+1))).getLastD 0=n):=by rw[aJ.o,Ah rfl];rfl);go_wp2_with (fail);refine aS.k ?_;rintro w6 aD;have eA:=b2.o.ak aD (λh=>h);have g63:=eA.c3;have f63:=eA.fz 3;have dG:=A4 (eA.s3 n);have aH:=A4 aD;go_wp2;go_roundw
     ·have k7:A5 (One ab) wr (w6.sC ab 3 (A0 n)):=(aH.o.aZ (S:=One ab)).ao (b:=ab) rfl 3 _;exact⟨k+1,by go_num,by omega,by rw[bK.o];exact dG.o,aW.o (by decide),bG.o.AJ k7 λx hx aA=>by have e':x=ab:=hx;have:=aL.o;have:=cQ.o.Am;omega,dV.o.tr k7⟩
     ·simp[intOf];omega
    ·(have hsb2:(s==2)=false:=by simpa using a7);(have bK:Hid ((Em (P.Av.take (k+1))).getLastD 0=(Em (P.Av.take k)).getLastD 0):=by rw[aJ.o,Ae a7];rfl);have bY:=A4 (aW.o bE);go_wp2_with (go_at_call 49;refine aS.k ?_;rintro w6 aD;have aH:=A4 aD);go_roundw
     ·exact⟨k+1,by go_num,by omega,by rw[bK.o];exact b2.o.ak aH.o (λh=>h),bY.o,bG.o.tr aH.o,dV.o.b0 aH.o⟩
     ·simp[intOf];omega
  ·(have cZ:k=P.Av.length:=by omega);subst cZ;rw[Cj]at i1 i2;(have dL:¬((P.Av.length:Int)<(P.Av.length:Int)):=by omega);have b3:A5 (One ab) z wr:=(cC.o.aZ (S:=One ab)).tr i4;(have b7:xb≠ab:=by have:=bL.o.lt;have:=aL.o;omega);have bX:=bL.o.ak b3 b7;(have cJ:Dc wr sv ix.segs:=Dy.An bI.o b3 λg I h=>by have h':g=ab:=h;have:=Dy.lt bI.o I;have:=aL.o;omega);have eF:=A4 (eV.o ix aU.o wr ab xb sv i3 i1.c0 i1.c1 bX.c4 cJ);have b2:=A4 i1;have eE:=A4 i2;have bG:=A4 i3;have dV:=A4 i4;have b0:=A4 b7;have cD:=A4 bX;have dT:=A4 cJ;have cP:Hid (ab<wr.heap.size):=b2.o.e7;go_wp2_with (fail);refine eF.m ?_;rintro e w3 (⟨hs,rfl,hc3⟩|⟨l,v3,hs,rfl,hv3,hc3⟩)
   ·have aM:=A4 (eO.o ix aU.o eE.o hs);have aI:=A4 hc3;go_wp2;go_ret3;exact .inl ⟨7,aM.o,rfl,bG.o.tr aI.o⟩
   have d3:=(cD.o.ak hc3 (λh=>h)).c3;have aO:=A4 hs;have cX:=A4 hv3;have aI:=A4 hc3;have dB:Hid (A5 Ab w w3):=bG.o.tr hc3;have eG:=A4 (eX.o ix aU.o w3 dB.o);have eH:=A4 (eN.o ix l aU.o eE.o aO.o);have dR:=A4 (eL.o ix l aU.o eE.o aO.o);have cH:=A4 (dW.o ix.AW);go_wp2_with (fail);refine eG.m ?_;rintro e w4 (⟨hp,rfl,hc4⟩|⟨hp,jb,lv,v4,rfl,hj,hv4,hjf,hvo4,hc4⟩)
   ·have aM:=A4 (eH.o hp);have bB:=A4 hc4;generalize (P.puts (Bv ix.AW P.Av)).2=E at hp aM ⊢;(have bS:(E !=0)=true:=by simpa using hp);go_wp2;go_ret3;exact .inl ⟨E,aM.o,rfl,dB.o.tr bB.o⟩
   have dK:=A4 (dR.o hp);have hpe:(P.puts (Bv ix.AW P.Av)).2=0:=hp;have b4:=b2.o.ak (aI.o.tr hc4) (λh=>h);have g42:=b4.c2;have f42:=b4.fz 2;have eR:=A4 (b4.s2 jb);have aR:A5 (One ab) w4 (w4.sC ab 2 (A7 jb)):=(A5.C (One ab) w4).ao (b:=ab) rfl 2 _;have cM:A5 (One ab) w3 (w4.sC ab 2 (A7 jb)):=(hc4.aZ (S:=One ab)).tr aR;have bR:A5 (One ab) wr (w4.sC ab 2 (A7 jb)):=(aI.o.aZ (S:=One ab)).tr cM;(have bW:w.heap.size<=ab:=by have:=aL.o;have:=cQ.o.Am;omega);(have cS:A5 Ab w (w4.sC ab 2 (A7 jb)):=bG.o.AJ bR λx hx aA=>by have e':x=ab:=hx;omega);have hr3:wr.heap.size<=w3.heap.size:=aI.o.Am;(have aE:∀g,sv.ownBlock=some g->g<ab:=λg I=>by have:=Dy.lt bI.o I;have:=aL.o;omega);(have bD:xb<ab:=by have:=bL.o.lt;have:=aL.o;omega);(have aB:∀k,Dk jb lv (.pointer none) k->ab<k:=λk H=>by have:=hjf k H;have:=cP.o;omega);(have j5:DE (w4.sC ab 2 (A7 jb)) jb b lv (.pointer none) (P.bP ix.AW):=hj.An aR λk H h=>by have e':k=ab:=h;have:=aB k H;omega);have eJ:Ck (w4.sC ab 2 (A7 jb)) ab b xb jb sv (.slice none 0 0) lv (.pointer none) (Ar.AS P ix) P Ft:=
    ⟨eR.o,cD.o.ak bR b0.o,Dy.An dT.o bR (λg I h=>by have e':g=ab:=h;have:=aE g I;omega),Dy.b4,j5,eM.o _ cS,λk H=>Bm (aV.o k H) cS.Am,
     λk H hf=>by
      have h0:=aV.o k hf;rcases H with rfl|rfl|H|H|H
      ·omega
      ·have:=aZ.o;omega
      ·have:=bQ.o k H;have:=aZ.o;omega
      ·simp[Value.ownBlock]at H
      ·have:=aB k H;omega,
     λg I=>⟨by have:=aE g I;omega,by have:=bQ.o g I;omega,λh=>by have:=aB g h;have:=aE g I;omega⟩,
     λg I=>by simp[Value.ownBlock]at I,
     λk H=>⟨by have:=aB k H;omega,by have:=aB k H;omega⟩⟩
   have dE:=A4 (e0.o ix aU.o _ ab xb jb sv lv cS eJ);have aT:=A4 eJ;have cG:=A4 hv4;have a2:=A4 hvo4;have bB:=A4 hc4;have cY:=A4 cM;have dC:=A4 cS;have aF:=A4 bW;have bP:=A4 aE;have bF:=A4 bD;have a3:=A4 aB;obtain⟨bU,cB,rfl,v41,eC,-⟩:=Bb hv4;unfold maxLen at eC;go_wp2_with (fail);refine dE.m ?_;rintro e w6⟨v5,v6,rfl,b8,-,bV,-,aD⟩;obtain⟨Y,W,rfl,v51,dS,-⟩:=Bb b8;unfold maxLen at dS;have b6:=eR.o.ak aD (λh=>h);have g64:=b6.c4;have f64:=b6.fz 4;have dG:=A4 (b6.s4 (Value.slice Y ((Ar.AS P ix).a1 P).length W));have aR:A5 (One ab) w6 (w6.sC ab 4 (Value.slice Y ((Ar.AS P ix).a1 P).length W)):=(A5.C (One ab) w6).ao (b:=ab) rfl 4 _;have aK:A5 (One ab) (w4.sC ab 2 (A7 jb)) (w6.sC ab 4 (Value.slice Y ((Ar.AS P ix).a1 P).length W)):=(aD.aZ (S:=One ab)).tr aR;(have bJ:A5 Ab w (w6.sC ab 4 (Value.slice Y ((Ar.AS P ix).a1 P).length W)):=dC.o.AJ aK λx hx aA=>by have e':x=ab:=hx;have:=aF.o;omega);(have h45:w4.heap.size<=(w4.sC ab 2 (A7 jb)).heap.size:=by simp);(have aG:∀g,(Value.slice Y ((Ar.AS P ix).a1 P).length W).ownBlock=some g->w4.heap.size<=g:=λg I=>by have:=bV g I;omega);(have h34:ab<w4.heap.size:=by have:=cP.o;have:=aI.o.Am;have:=bB.o.Am;omega);have eY:Ck (w6.sC ab 4 (Value.slice Y ((Ar.AS P ix).a1 P).length W)) ab b xb jb sv (Value.slice Y ((Ar.AS P ix).a1 P).length W) lv (.pointer none) {Ar.AS P ix with AM:=(Ar.AS P ix).a1 P} P Ft:=
    ⟨dG.o,aT.o.ix.ak aK b0.o,Dy.An aT.o.segs aK (λg I h=>by have e':g=ab:=h;have:=bP.o g I;omega),
     Dy.An (Dq.rd b8) aR (λg I h=>by have e':g=ab:=h;have:=aG g I;omega),
     aT.o.jn.An aK (λk H h=>by have e':k=ab:=h;have:=a3.o k H;omega),eM.o _ bJ,λk H=>Bm (aV.o k H) bJ.Am,
     λk H hf=>by
      rcases H with h|h|h|h|h
      ·exact aT.o.Dg k (.inl h) hf
      ·exact aT.o.Dg k (.inr (.inl h)) hf
      ·exact aT.o.Dg k (.inr (.inr (.inl h))) hf
      ·have:=aG k h;have:=aV.o k hf;have:=aF.o;omega
      ·exact aT.o.Dg k (.inr (.inr (.inr (.inr h)))) hf,
     aT.o.Fi,
     λg I=>⟨by have:=aG g I;omega,by have:=aG g I;have:=bF.o;omega,λh=>by have:=bV g I;have:=aT.o.jn.lt h;omega⟩,
     aT.o.FG⟩
   have cE:Hid (∀k,Fe ab xb jb sv (Value.slice Y ((Ar.AS P ix).a1 P).length W) lv (.pointer none) k->w.heap.size<=k):=λk H=>by
    rcases H with rfl|rfl|h|h|h
    ·exact aF.o
    ·exact aZ.o
    ·have:=bQ.o k h;have:=aZ.o;omega
    ·have:=aG k h;have:=aF.o;omega
    ·have:=a3.o k h;have:=aF.o;omega
   have dM:A5 (One ab) w3 (w6.sC ab 4 (Value.slice Y ((Ar.AS P ix).a1 P).length W)):=cY.o.tr aK;have a8:=eZ.o ix aU.o l aO.o (w6.sC ab 4 (Value.slice Y ((Ar.AS P ix).a1 P).length W)) wr.heap.size v3 (cX.o.fq dM λk H=>by have e':k=ab:=H;have:=cP.o;omega);have a4:=dK.o;generalize hPL:l.flatMap (·.2)=PL at a8 a4;have cT:=A4 a4;have dD:=A4 a8.1;have dP:=A4 a8.2;have b1:=A4 eY;have bH:=A4 bJ;have a0:Hid (AZ (w6.sC ab 4 (Value.slice Y ((Ar.AS P ix).a1 P).length W)) (.slice bU (P.puts (Bv ix.AW P.Av)).1.length cB) (P.puts (Bv ix.AW P.Av)).1):=AA cG.o λg I=>by
    have h1:=a2.o g I;have hlt4:=AG cG.o I;(have a5:g≠ab:=by have:=cP.o;have:=aI.o.Am;omega);have e1:=aK.Ao g (by omega) (λh=>a5 h);rw[e1];exact GY _ _ _ _ (λe=>a5 e)
   (have HO47:Hid (∀g,(Value.slice bU (P.puts (Bv ix.AW P.Av)).1.length cB).ownBlock=some g->w.heap.size<=g):=λg I=>by have:=a2.o g I;have:=dB.o.Am;omega);go_wp2_with (fail);refine dD.m ?_;rintro e w8⟨v8,rfl,cF,cU,b9⟩;obtain⟨bC,bA,rfl,v81,dQ,-⟩:=Bb cF;unfold maxLen at dQ;have dX:=A4 cF;have a6:=A4 cU;have cI:=A4 b9;have cL:=A4 (Src.bM underlying72 (AA a0.o λg I=>b9.Ao g (AG a0.o I) (λh=>h)) (I6 (P.puts (Bv ix.AW P.Av)).1));(have cV:Hid ((PL.length+(P.puts (Bv ix.AW P.Av)).1.length)*24<=140737488355328):=by have:=dP.o;have:=cH.o;unfold Hid;omega);go_wp2_with (at_builtin;refine De rfl (.tmp 84) (.tmp 85) 72 72 rfl 90 i0 _ 3 24 underlying72 hi hz0 hz1 hz2 rfl (by decide) (.slice bC PL.length bA) PL.length (Ba PL) (by rfl) dX.o _ (P.puts (Bv ix.AW P.Av)).1.length _ (by rfl) cL.o cV.o ?_;intro a9 cA w9 hA;have eT:=A4 hA);go_ret3;have hA:=eT.o;have dH:=hA.An (S:=λk=>(Value.slice bC PL.length bA).ownBlock=some k) λ_ h=>h;have aY:A5 (λk=>(Value.slice bC PL.length bA).ownBlock=some k) (w6.sC ab 4 (Value.slice Y ((Ar.AS P ix).a1 P).length W)) w9:=(cI.o.aZ).tr dH;have dI:=cI.o.Am;have a1:∀g,(Value.slice a9 (PL.length+(P.puts (Bv ix.AW P.Av)).1.length) cA).ownBlock=some g->(w6.sC ab 4 (Value.slice Y ((Ar.AS P ix).a1 P).length W)).heap.size<=g:=λg I=>by
    rcases hA.Cu with h|h
    ·rw[h]at I;exact a6.o g I
    ·rw[h]at I;cases I;exact dI
   refine .inr ⟨_,_,ab,_,λk=>Ft k\/Fe ab xb jb sv (Value.slice Y ((Ar.AS P ix).a1 P).length W) lv (.pointer none) k,cT.o,rfl,?_,⟨xb,jb,sv,(Value.slice Y ((Ar.AS P ix).a1 P).length W),lv,.pointer none,Ft,b1.o.aM (λk H=>aY.Ao k (b1.o.bT H) λh=>by have:=a6.o k h;have:=b1.o.bT H;omega) aY.Am,λ_ h=>h⟩,λk H=>?_,λk H=>Bm (b1.o.bT H) aY.Am,λg I=>⟨λhf=>?_,?_⟩,?_⟩
   ·(have e:(PL++(P.puts (Bv ix.AW P.Av)).1).length=PL.length+(P.puts (Bv ix.AW P.Av)).1.length:=by simp);unfold AZ;rw[IJ,e];exact hA.AP
   ·rcases H with H|H
    ·exact .inl H
    ·exact .inr (cE.o k H)
   ·have:=a1 g I;have:=b1.o.bT hf;omega
   ·have:=a1 g I;have:=bH.o.Am;omega
   ·exact bH.o.AJ aY λx hx aA=>by have:=a6.o x hx;have:=bH.o.Am;omega
end
section
def X1(w:World)(O:Nat)(oldest:Int)(p:Pu)(W:Aa w O 0 (A0 oldest)):
 Aj 61 #[DB p,A7 O] w (Au (.bool (decide (oldest<=p.2.1))) λw'=>A5 Ab w w'):=by
 obtain⟨H,I,z⟩:=p;unfold DB;dsimp only
 have h:C5 (w.aC #[A0 H,A0 I,A0 z] 90) w.heap.size H I z:=BN w _;have k:A5 Ab w (w.aC #[A0 H,A0 I,A0 z] 90):=(A5.C _ w).aj _;have c1:=h.c1;have hw2:=k.an W;have K:=A4 k
 go_enter func61,ntmps61
 go_wp2;go_ret;exact⟨rfl,K.o⟩
def A0v(w:World)(v:Value)(l:List Pu)(h:AZ w v l)(ob:Nat)(oldest:Int)(hw:Aa w ob 0 (A0 oldest)):
 Aj 107 #[v,.func (Fn.func 61) #[] #[A7 ob]] w λe w'=>∃i:Int,e=.returned (A0 i)/\decide (0<=i)=l.any (λp=>decide (oldest<=p.2.1))/\A5 Ab w w':=by
 obtain⟨va,vcap,rfl,v1,v2,v3,-⟩:=Bb h;unfold maxLen at v2;have H:=A4 h;have aL:=A4 hw;have aK:=A4 v3
 go_enter func107,ntmps107
 go_wp2;go_loopw [8] (λiv wr=>∃k:Nat,iv=A0 k/\k<=l.length/\Hid ((l.take k).any (λp=>decide (oldest<=p.2.1))=false/\A5 Ab w wr)) (λiv _=>l.length-(intOf iv).toNat)
 ·exact⟨0,rfl,by omega,by simp,A5.C _ _⟩
 ·obtain⟨k,rfl,hk,hI⟩:=hrel;have⟨i1,i2⟩:=hI.o;by_cases z:k<l.length
  ·obtain⟨g,rfl⟩:=aK.o (by omega);have⟨q1,q2,q3⟩:=He l k z;have X:l.take (k+1)=l.take k++[l[k]'z]:=Dz z;have I:=BS z;generalize hp:(l[k]'z)=p at q1 q2 q3 X I;have e1:=i2.an (BB H.o rfl q1);have e2:=i2.an (BB H.o rfl q2);have e3:=i2.an (BB H.o rfl q3);have Y:=A4 (X1 wr ob oldest p (i2.an aL.o));have aA:=A4 i2;(have aI:Hid (decide (oldest<=p.2.1)=false->(l.take (k+1)).any (λp=>decide (oldest<=p.2.1))=false):=λh=>by rw[X,List.any_append,i1];simp at h ⊢;exact h);have aH:Hid (decide (oldest<=p.2.1)=true->l.any (λp=>decide (oldest<=p.2.1))=true):=λh=>Pr.2 ⟨p,I,h⟩;generalize hd:decide (oldest<=p.2.1)=d at Y aI aH;obtain⟨p1,p2,p3⟩:=p;unfold DB at Y;dsimp only at e1 e2 e3 Y;(have aB:(k:Int)<(l.length:Int):=by omega);have aE:=Cd k;cases d with
   | true=>
    have aF:=A4 (aH.o rfl);go_wp2_with (fail);refine Y.k ?_;rintro w6 W;have O:=A4 W;go_wp2;go_ret;exact⟨_,rfl,by rw[aF.o];exact CJ aE,aA.o.tr O.o⟩
   | false=>
    have aG:=A4 (aI.o rfl);go_wp2_with (fail);refine Y.k ?_;rintro w6 W;have O:=A4 W;go_wp2;go_roundw
    ·exact⟨k+1,by go_num,by omega,aG.o,aA.o.tr O.o⟩
    ·simp[intOf];omega
  ·(have aD:k=l.length:=by omega);subst aD;rw[Cj]at i1;have aJ:=A4 i1;have aA:=A4 i2;(have aB:¬((l.length:Int)<(l.length:Int)):=by omega);clear hI i1 i2;go_wp2;go_ret;exact⟨_,rfl,by rw[aJ.o];rfl,aA.o⟩
def A1E(w:World)(v:Value)(l:List Pu)(h:AZ w v l)(z:Nat)(oldest:Int)(W:Aa w z 0 (A0 oldest)):
 Aj 60 #[v,.func (Fn.func 61) #[] #[A7 z]] w (Au (.bool (l.any (λp=>decide (oldest<=p.2.1)))) λw'=>A5 Ab w w'):=by
 have H:=A4 (A0v w v l h z oldest W);obtain⟨va,vcap,rfl,v1,v2,-⟩:=Bb h;generalize hd:l.any (λp=>decide (oldest<=p.2.1))=d at H ⊢
 go_enter func60,ntmps60
 go_wp2_with (fail);refine H.m ?_;rintro e w1⟨i,rfl,X,Y⟩;have I:=A4 X;have O:=A4 Y;go_wp2;go_ret;exact⟨by rw[<-I.o];rfl,O.o⟩
end
section
def A0W(w:World)(x y:Value)(z H:List Pu)(h1:AZ w x z)(h2:AZ w y H):
 Aj 64 #[x,y] w (Au (.bool (decide (z=H))) λw'=>A5 Ab w w'):=by
 obtain⟨va,vcap,rfl,v1,v2,v3,-⟩:=Bb h1;obtain⟨ua,ucap,rfl,u1,u2,u3,-⟩:=Bb h2;unfold maxLen at v2 u2;have aL:=A4 h1;have aO:=A4 h2;have aU:=A4 v3;have aT:=A4 u3;by_cases hl:z.length=H.length
 case neg=>
  have aJ:¬z=H:=λe=>hl (by rw[e]);rw[Dw aJ];have aP:((z.length:Int)!=(H.length:Int))=true:=by simp;omega
  go_enter func64,ntmps64
  go_wp2;go_ret;exact⟨rfl,A5.C _ _⟩
 case pos=>
 have aI:=A4 hl;have aP:((z.length:Int)!=(H.length:Int))=false:=by simp;omega
 go_enter func64,ntmps64
 go_wp2;go_loopw [13] (λiv wr=>∃k:Nat,iv=A0 k/\k<=z.length/\Hid (z.take k=H.take k/\A5 Ab w wr)) (λiv _=>z.length-(intOf iv).toNat)
 ·exact⟨0,rfl,by omega,by simp,A5.C _ _⟩
 ·obtain⟨k,rfl,hk,hI⟩:=hrel;have⟨i1,i2⟩:=hI.o;by_cases W:k<z.length
  ·(have I:k<H.length:=by have:=aI.o;omega);obtain⟨g,rfl⟩:=aU.o (by omega);obtain⟨g',rfl⟩:=aT.o (by omega);have⟨p1,p2,p3⟩:=He z k W;have⟨q1,q2,q3⟩:=He H k I;have aD:z.take (k+1)=z.take k++[z[k]'W]:=Dz W;have aE:H.take (k+1)=H.take k++[H[k]'I]:=Dz I;(have X:z=H->(z[k]'W)=(H[k]'I):=λe=>by subst e;rfl);obtain⟨p,hp⟩:∃p,(z[k]'W)=p:=⟨_,rfl⟩;obtain⟨q,hq⟩:∃q,(H[k]'I)=q:=⟨_,rfl⟩;rw[hp]at p1 p2 p3 aD X;rw[hq]at q1 q2 q3 aE X;(have aQ:Hid (p=q->z.take (k+1)=H.take (k+1)):=λe=>by rw[aD,aE,i1,e]);have aA:Hid (¬p=q->decide (z=H)=false):=λh=>Dw λe=>h (X e);have aR:Hid (∀Y,A5 Ab wr Y->Aa Y g (k*3) (A0 p.1)/\Aa Y g (k*3+1) (A0 p.2.1)/\Aa Y g (k*3+2) (A0 p.2.2)/\Aa Y g' (k*3) (A0 q.1)/\Aa Y g' (k*3+1) (A0 q.2.1)/\Aa Y g' (k*3+2) (A0 q.2.2)):=λY hx=>
    ⟨hx.an (i2.an (BB aL.o rfl p1)),hx.an (i2.an (BB aL.o rfl p2)),hx.an (i2.an (BB aL.o rfl p3)),hx.an (i2.an (BB aO.o rfl q1)),hx.an (i2.an (BB aO.o rfl q2)),hx.an (i2.an (BB aO.o rfl q3))⟩
   have aF:=A4 i2;obtain⟨pa,pb,pc⟩:=p;obtain⟨qa,qb,qc⟩:=q;dsimp only at aR;(have aK:(k:Int)<(z.length:Int):=by omega);(have hkj:(k:Int)<(H.length:Int):=by omega);have hk0:=Cd k;have aS:=aR.o wr.drew (A5.C _ wr).ad;clear hI i1 i2 p1 p2 p3 q1 q2 q3 aD aE X hp hq I;go_wp2;refine Ce (λw'=>Aa w' g (k*3) (A0 pa)/\Aa w' g (k*3+1) (A0 pb)/\Aa w' g (k*3+2) (A0 pc)/\Aa w' g' (k*3) (A0 qa)/\Aa w' g' (k*3+1) (A0 qb)/\Aa w' g' (k*3+2) (A0 qc)) 8
    (BD [0,1,2,3,4,5,6,7] []) aS ?_
   iterate 8 refine Bq ?_
   refine Cc ?_;by_cases O:(pa,pb,pc)=(qa,qb,qc)
   ·have aN:=A4 (aQ.o O);(obtain⟨rfl,rfl,rfl⟩:pa=qa/\pb=qb/\pc=qc:=by simpa using O);clear O aQ aA;go_wp2;go_roundw
    ·exact⟨k+1,by go_num,by omega,aN.o,aF.o.ad⟩
    ·simp[intOf];omega
   ·have aB:=A4 (aA.o O);have aM:¬pa=qa\/(pa=qa/\¬pb=qb)\/(pa=qa/\pb=qb/\¬pc=qc):=by
     by_cases ha:pa=qa
     ·by_cases hb:pb=qb
      ·exact .inr (.inr ⟨ha,hb,λhc=>O (by rw[ha,hb,hc])⟩)
      ·exact .inr (.inl ⟨ha,hb⟩)
     ·exact .inl ha
    clear O aQ aA;rcases aM with ha|⟨rfl,hb⟩|⟨rfl,rfl,hc⟩
    ·(have aG:(pa==qa)=false:=by simpa using ha);go_wp2;go_ret;exact⟨by rw[aB.o];rfl,aF.o.ad⟩
    ·(have aG:(pb==qb)=false:=by simpa using hb);go_wp2;go_ret;exact⟨by rw[aB.o];rfl,aF.o.ad⟩
    ·(have aG:(pc==qc)=false:=by simpa using hc);go_wp2;go_ret;exact⟨by rw[aB.o];rfl,aF.o.ad⟩
  ·(have aH:k=z.length:=by omega);have he:z=H:=by
    have h1:=i1;rw[aH,Cj]at h1;rw[aI.o,Cj]at h1;exact h1
   have aF:=A4 i2;(have aK:¬((k:Int)<(z.length:Int)):=by omega);have aV:=A4 he;clear hI i1 i2 he aH;go_wp2;go_ret;exact⟨by rw[CJ aV.o];rfl,aF.o⟩
def Xk{aB b:Nat}(w:World)(W X:Nat)(x:Int×List Pu)(h:J6 w aB b W x)(pv:Value)(l:List Pu)(hp:Aa w X 0 pv)(hl:AZ w pv l):
 Aj 63 #[A7 W,A7 X] w (Au (.bool (decide (x.2=l))) λw'=>A5 Ab w w'):=by
 obtain⟨sv,s1,s2,-,-⟩:=h;obtain⟨sa,H,rfl,c1,c2,-⟩:=Bb s2;obtain⟨pa,z,rfl,d1,d2,-⟩:=Bb hl;have f4:Aa w.drew W 4 (.slice sa x.2.length H):=s1.c4;have O:Aa w.drew X 0 (.slice pa l.length z):=hp;have aA:=A4 (A0W w.drew _ _ x.2 l (AA s2 λ_ _=>rfl) (AA hl λ_ _=>rfl));generalize hd:decide (x.2=l)=d at aA ⊢;generalize hn1:x.2.length=n1 at aA f4
 go_enter func63,ntmps63
 go_wp2;refine Ce (λw'=>Aa w' W 4 (.slice sa n1 H)/\Aa w' X 0 (.slice pa l.length z)) 6
  (BD [0,1,2,3,4,5] [5]) ⟨f4,O⟩ ?_
 iterate 5 refine Bq ?_
 refine By λK hK=>?_;go_simp;refine aA.k ?_;rintro w6 I;refine hK _ _ ⟨I.an f4,I.an O⟩ (λhS=>?_);have Y:Hid (A5 Ab w w6):=((A5.C _ w).ad).tr I;refine Cc ?_;go_wp2;go_ret;exact⟨rfl,Y.o⟩
def A0w{aO b:Nat}(w:World)(v:Value)(segs:List (Int×List Pu))(h:Gh w aO b v segs)(pb:Nat)(pv:Value)(l:List Pu)(hp:Aa w pb 0 pv)(hl:AZ w pv l):
 Aj 62 #[v,.func (Fn.func 63) #[] #[A7 pb]] w λe w'=>
  ((e=.returned (A0 (-1))/\segs.find? (λs=>decide (s.2=l))=none)\/∃(k:Nat) (hk:k<segs.length),e=.returned (A0 k)/\segs.find? (λs=>decide (s.2=l))=some (segs[k]'hk))/\A5 Ab w w':=by
 obtain⟨X,j1,j2,j3,j4⟩:=h;obtain⟨va,vcap,rfl,v1,v2,v3,-⟩:=Bb j2;unfold maxLen at v2;have aP:=A4 j2;have aN:=A4 j4;have G:=A4 v3;have aM:=A4 hp;have aK:=A4 hl
 go_enter func62,ntmps62
 go_wp2;go_loopw [8] (λiv wr=>∃k:Nat,iv=A0 k/\k<=segs.length/\Hid ((segs.take k).find? (λs=>decide (s.2=l))=none/\A5 Ab w wr)) (λiv _=>segs.length-(intOf iv).toNat)
 ·exact⟨0,rfl,by omega,by simp,A5.C _ _⟩
 ·obtain⟨k,rfl,hk,hI⟩:=hrel;have⟨i1,i2⟩:=hI.o;by_cases z:k<segs.length
  ·(have H:k<X.length:=by omega);obtain⟨g,rfl⟩:=G.o (by omega);have hc:Aa w g k (A7 (X[k]'H)):=BB aP.o rfl (by simp[Gr,H]);have W:=aN.o k H z;have aA:segs=segs.take k++(segs[k]'z):: segs.drop (k+1):=by
    conv=>lhs;rw[<-DK k segs,Fy z]
   have Y:segs.take (k+1)=segs.take k++[segs[k]'z]:=Dz z;generalize aI:(X[k]'H)=gb at hc W;have e1:=i2.an hc;have SI:=A4 (Xk wr gb pb (segs[k]'z) (W.aJ i2) pv l (i2.an aM.o) (AA aK.o λg hg=>i2.Ao g (AG aK.o hg) (λh=>h)));have aB:=A4 i2;have aJ:Hid (decide ((segs[k]'z).2=l)=false->(segs.take (k+1)).find? (λs=>decide (s.2=l))=none):=λh=>by
    rw[Y,A24,i1,List.find?_cons_of_neg (by rw[h];simp)];rfl
   have aF:Hid (decide ((segs[k]'z).2=l)=true->segs.find? (λs=>decide (s.2=l))=some (segs[k]'z)):=λh=>by
    have e:(segs.take k++(segs[k]'z):: segs.drop (k+1)).find? (λs=>decide (s.2=l))=some (segs[k]'z):=by
     rw[A24,i1,List.find?_cons_of_pos (by exact h)];rfl
    rwa [<-aA]at e
   generalize hd:decide ((segs[k]'z).2=l)=d at SI aJ aF;(have aD:(k:Int)<(segs.length:Int):=by omega);have hk0:=Cd k;clear hI i1 i2 hc W aA Y aI hd;cases d with
   | true=>
    have aG:=A4 (aF.o rfl);clear aJ aF;go_wp2_with (fail);refine SI.k ?_;rintro w6 I;have O:=A4 I;go_wp2;go_ret;exact⟨.inr ⟨k,z,rfl,aG.o⟩,aB.o.tr O.o⟩
   | false=>
    have aH:=A4 (aJ.o rfl);go_wp2_with (fail);refine SI.k ?_;rintro w6 I;have O:=A4 I;clear I SI;go_wp2;go_roundw
    ·exact⟨k+1,by go_num,by omega,aH.o,aB.o.tr O.o⟩
    ·simp[intOf];omega
  ·(have aE:k=segs.length:=by omega);subst aE;rw[Cj]at i1;have aL:=A4 i1;have aB:=A4 i2;(have aD:¬((segs.length:Int)<(segs.length:Int)):=by omega);clear hI i1 i2;go_wp2;go_ret;exact⟨.inl ⟨rfl,by simpa using aL.o⟩,aB.o⟩
end
end
end Go.Proofs.YtodcnkbblippnabGreatDoor
