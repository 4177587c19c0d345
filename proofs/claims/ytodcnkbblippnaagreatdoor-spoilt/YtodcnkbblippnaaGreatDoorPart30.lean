/- Part 30 of a proof: walks of the program. -/
import Derived.Test.YtodcnkbblippnaaGreatDoorPart28
namespace Go.Proofs.YtodcnkbblippnaaGreatDoor
set_option maxRecDepth 100000
set_option maxHeartbeats 32000000
set_option linter.defProp false
open Go.Proofs.Tryz
section
open Go.RowKit
section
variable{bd:Int×Int}{P P':PD}{A:Ar}{ix:Ix}{sg cl:gh (Int×gh Pu)}{lo:Option (Int×gh Pu)}{ol:Option (gh Pu)}{pd:gh Pu}{Ad:Nat}{o:Int}
def ZD(h:Gc P)(x m:Bs):(P.aG (A6 x)).2.fl m=none\/(P.aG (A6 x)).2.fl m=P.fl m:=by
 have⟨a1,_,a3⟩:=SJ h (A6 x);rcases a3 with⟨d1,_,_⟩|⟨d1,_⟩
 ·exact .inr (by unfold PD.fl;rw[d1,a1])
 ·have:(P.aG (A6 x)).2.fl m=vw P.F (P.D.A4.filter λe=>decide (e.1≠A6 x)) m:=by unfold PD.fl vw;rw[d1,a1]
  rw[this,Rl];by_cases e:m=x
  ·exact .inl (by rw[Ae e])
  ·exact .inr (by rw[Aa e];rfl)
def SK:∀(l:gh Bs) {P:PD},DI bd P pd Ad o->CX bd P.fl ix sg cl lo pd Ad o->(∀m∈l,¬L0 ix sg m)->∀m,(PD.aK l P).2.fl m=none\/(PD.aK l P).2.fl m=P.fl m
 | [],P,_,_,_,m=>.inr rfl
 | x::r,P,h,hT,hm,m=>by
  have⟨h1,h2⟩:=h.dX hT (hm x (Bt ..));have d:=ZD h.bc x m;unfold PD.aK;split
  ·exact d
  ·rcases SK r h1 h2 (λy hy=>hm y (Bp _ hy)) m with e|e
   ·exact .inl e
   ·rw[e];exact d
def A0u(I:CX bd P.fl A.ix sg cl lo pd Ad o)(E:A.j.Ak=cl.map (·.1)++(lo.map (·.1)).toList)(d:sg.map (·.1)=A.ix.sd):∀m∈A.aV P,¬L0 A.ix sg m:=λm h L=>by
 have⟨h1,h2⟩:=Jl.1 h;refine h2 ?_;unfold Ar.Ai;rcases L with rfl|⟨x,O,rfl⟩|⟨n,W,z,rfl⟩
 ·simp
 ·refine Hr _ (E5 ?_);rw[<-d];exact E5 O
 ·refine FV _ (Bp _ (E5 ?_));rw[E];refine I.bp.Ck n W z λH=>h1 ?_;unfold PD.bs;rw[H];rfl
def SI.aF(h:SI bd A P pd Ad o sg cl ol)(I:gh (Int×gh Pu))(E:gh (gh Pu))(aH:∀x∈I,x∈sg)(aE:(I.map (·.1)).Pairwise (· < ·))(hf:∀l∈E,(∀p∈l,B8 p)/\Cw Cr l=true)(hn:isNum (A.j.A8+1)=true)(aD:A.A8+E.length<=4611686018427387904)(a2:∀l∈E,l≠[])(aN:A.A8+E.length<=bd.2)(hs:C4 o (Au (I++BW A.A8 E)) pd)(hbig:A.AN.length+P.Ai.length+Dr E+E.length+A.j.Ak.length+sg.length+I.length<=1099511627776):
 (DI bd (A.aF P (I.map (·.1)) E).2.2 pd Ad o/\Reads bd (A.aF P (I.map (·.1)) E).2.2 pd o)/\
  ((A.aF P (I.map (·.1)) E).1=0->SI bd (A.aF P (I.map (·.1)) E).2.1 (A.aF P (I.map (·.1)) E).2.2 pd pd.length o (I++BW A.A8 E) [] none/\
    (A.aF P (I.map (·.1)) E).2.1=⟨⟨A.j.A8+1,(I++BW A.A8 E).map (·.1)⟩,⟨[],A.j.A8,0,none⟩,A.A8+E.length,[]⟩/\
    (∀m,(A.aF P (I.map (·.1)) E).2.2.bs m≠none->m∈Ay::(I++BW A.A8 E).map λx=>Aw x.1)/\(A.aF P (I.map (·.1)) E).2.2.D.As=[]):=by
 have a0:P.aQ.dl=P.Ai.length:=by rw[HJ];rfl
 have Y:(A.aF P (I.map (·.1)) E).1=0->(A.aF P (I.map (·.1)) E).2.1=⟨⟨A.j.A8+1,(I++BW A.A8 E).map (·.1)⟩,⟨[],A.j.A8,0,none⟩,A.A8+E.length,[]⟩/\
  Lay (A.aF P (I.map (·.1)) E).2.2 (A.aF P (I.map (·.1)) E).2.1 (I++BW A.A8 E) [] none/\∀m,(A.aF P (I.map (·.1)) E).2.2.bs m≠none->m∈Ay::(I++BW A.A8 E).map λx=>Aw x.1:=λz=>by
  have⟨r1,r2,r3,r4⟩:=(AG.aQ P).aF (A:=A) (N:=0) (R:=0) (I.map (·.1)) E (h.di.bc.aQ.af (by rw[a0];omega) (by simp;omega)) z;have⟨q1,q2,q3,q4,q5⟩:=(h.AV.ay (P':=P.aQ) λm=>((AG.aQ P).bs m).symm).aF (N:=0) (R:=0) (K:=P.Ai.length) I E (h.di.bc.aQ.af (by omega) (by omega)) (by rw[HJ,a0];exact Ao _) aH aE hf hn aD;refine⟨by rw[r2,q2],by rw[r2];exact q4.ay λm=>r3.bs m,λm hm=>q5 m (by rw[<-r3.bs];exact hm)⟩
 obtain⟨W,aI⟩:∃W,I++BW A.A8 E=W:=⟨_,rfl⟩;have aP:W.map (·.1)=I.map (·.1)++(BW A.A8 E).map (·.1):=by rw[<-aI,Ei]
 have aO:∀x∈W,x.2≠[]:=λx H=>by
  rw[<-aI]at H;rcases AU.1 H with H|H
  ·exact h.Ew.1.2.2 x (aH x H)
  ·exact a2 _ (GQ H).2.2
 rw[aI]at hs Y ⊢;have key:∃t:Int×Ar×PD,A.aF P (I.map (·.1)) E=t/\(DI bd t.2.2 pd Ad o/\Reads bd t.2.2 pd o)/\(t.1=0->t.2.2.D.As=[]/\Bn t.2.2=[t.2.2.D.A4]/\∃a1 O,CX bd t.2.2.fl a1 O [] none pd Ad o/\O.map (·.1)=W.map (·.1)/\C4 o (Au O) pd):=by
  unfold Ar.aF;dsimp only
  by_cases h1:(A.C P).1=0
  ·rw[Aa (nn h1)];have⟨hS,hL⟩:=h.dd h1;have hA:(A.C P).2.1 = {A with AN:=[]}:=by
    unfold Ar.C at h1 ⊢;split at h1
    ·rename_i h2;exact absurd h1 h2
    ·rename_i h2;rw[Aa h2]
   have aF:=OE A P;rw[hA];generalize (A.C P).2.2=P1 at hS hL aF;(have aV:=hS.by hL);have hall:=h.eQ;have hj:({A with AN:=[]}:Ar).j.Ak=cl.map (·.1)++(Option.map (·.1) (ol.map λl=>(A.j.A8,l))).toList:=by
    dsimp only
    rw[h.AV.bQ];cases ol<;>simp[shut]
   have a3:=A0u (A:={A with AN:=[]}) aV hj h.AV.sd;have⟨d2,t2⟩:=hS.di.au (A:={A with AN:=[]}) aV hj h.AV.sd;have aB:∀m,(({A with AN:=[]}:Ar).au P1).2.fl m=none\/(({A with AN:=[]}:Ar).au P1).2.fl m=P1.fl m:=SK _ hS.di aV a3;generalize hP2:({A with AN:=[]}:Ar).au P1=SW at d2 t2 aB ⊢;obtain⟨c2,P2⟩:=SW;dsimp only at d2 t2 aB ⊢;have r2:Reads bd P2 pd o:=(t2.bt hall h.CZ).bu;by_cases h2:c2=0
   ·rw[Aa (nn h2)];have h0:=h.AV.Ep.1;have d3:=DI.aj E A.A8 (I.map (·.1)) d2 h0 aD aN;have t3:=CX.aj E A.A8 (I.map (·.1)) d2 t2 h0 aD aN;have aA:=TY E A.A8 (I.map (·.1)) d2 h0 aD aN;have aQ:∀n,isNum n=true->A.A8<n->P2.bs (Aw n)=none:=λn k1 k2=>by
     rcases aB (Aw n) with e|e
     ·unfold PD.bs;rw[e];rfl
     ·(have:P2.bs (Aw n)=P.bs (Aw n):=by unfold PD.bs;rw[e];have:=aF (Aw n);unfold PD.bs at this;exact this);rw[this];cases H:P.bs (Aw n) with
      | none=>rfl
      | some c=>have:=h.AV.Ep.2 n k1 (by rw[H];simp);omega
    have aG:=λz=>AG.aj (N:=0) (R:=0) E A.A8 (I.map (·.1)) (AG.aQ P2) (d2.bc.aQ.af (by omega) (by omega)) z;have⟨w1,w2,w3,w4,w5,w6⟩:=Cm.aj (N:=0) (R:=0) E A.A8 (I.map (·.1)) (d2.bc.aQ.af (by omega) (by omega)) h0 aD (λn k1 k2=>by rw[<- (AG.aQ P2).bs];exact aQ n k1 k2);generalize hP3:PD.aj E A.A8 (I.map (·.1)) P2=NS at d3 t3 aA aG ⊢;obtain⟨c3,a6,a5,aZ⟩:=NS;dsimp only at d3 t3 aA aG ⊢;have r3:=(t3.bt hall h.CZ).bu;by_cases h3:c3=0
    ·rw[Aa (nn h3)];have⟨x1,x2,x3,x4,_⟩:=aG h3;have⟨y1,y2⟩:=aA h3;(have aJ:a6=A.A8+E.length:=by rw[x2,w2]);(have aK:a5=W.map (·.1):=by rw[x3,w3,aP]);rw[aJ,aK];have aW:∀x∈W,isNum x.1=true:=λx H=>by
      rw[<-aI]at H;rcases AU.1 H with H|H
      ·exact h.AV.cP (aH x H)
      ·have:=GQ H;unfold isNum;simp;omega
     have aL:(W.map (·.1)).Pairwise (· < ·):=by
      rw[aP];refine Ez.2 ⟨aE,Pl,λa ha b hb=>?_⟩;obtain⟨x,H,rfl⟩:=CC.1 ha;obtain⟨y,hy,rfl⟩:=CC.1 hb;have k1:=h.AV.cX (aH x H);have k2:=GQ hy;omega
     have aU:HX bd ⟨A.j.A8+1,W.map (·.1)⟩ W:=⟨⟨hn,λn hm=>by obtain⟨x,H,rfl⟩:=CC.1 hm;exact aW x H,IC.2 aL⟩,by have:=h.Ew.2.1;dsimp only;omega,aO⟩;have aR:∀x∈W,((∀p∈x.2,B8 p)/\Cw Cr x.2=true)/\∃c,aZ.fl (Aw x.1)=some c/\BV c/\c.1=AS (AB (Aw x.1)) (Ci x.2):=λx H=>by
      rw[<-aI]at H;rcases AU.1 H with H|H
      ·exact t3.bp.BN x (aH x H)
      ·refine⟨hf _ (GQ H).2.2,?_⟩;(have hb:aZ.bs (Aw x.1)=some (AS (AB (Aw x.1)) (Ci x.2)):=by rw[x4.bs];exact w5 x H);have⟨c,k1,k2⟩:=IS hb;exact⟨c,k1,y1 x H c k1,k2⟩
     have aT:∀n,isNum n=true->A.j.A8+1<=n->aZ.fl (Af n)=none:=λn k1 k2=>by
      rw[y2 _ λx _=>G8 n x.1];rcases aB (Af n) with e|e
      ·exact e
      ·rw[e];refine Gv.1 ?_;rw[aF];cases H:P.bs (Af n) with
       | none=>rfl
       | some c=>have:=h.AV.EB.2.2 n k1 (by rw[H];simp);omega
     have aS:∃aY,∃c4,∃aM:Ar,(({A with AN:=[],A8:=A.A8+E.length}:Ar).ah aZ (W.map (·.1)))=(c4,aM,aY)/\DI bd aY pd Ad o/\Reads bd aY pd o/\(c4=0->aM.j.Ak=[]/\∃O,CX bd aY.fl aM.ix O [] none pd Ad o/\O.map (·.1)=aM.ix.sd/\aM.ix.sd=W.map (·.1)/\C4 o (Au O) pd):=by
      unfold Ar.ah;dsimp only
      by_cases L:A.ix.AZ=A.j.A8+1/\A.ix.sd=W.map (·.1)
      ·rw[Ae L];have aX:cl=[]:=by
        cases aX:cl with
        | nil=>rfl
        | cons x r=>
         (have H:x∈cl:=by rw[aX];exact Bt ..);have k1:=h.AV.EO.1 x H;have k2:=(h.AV.CV x H).1.2;have:=L.1;omega
       have a4:ol=none:=by
        cases ol with
        | none=>rfl
        | some l=>have:=h.AV.EO.2 (by simp);have:=L.1;omega
       subst aX a4;refine⟨aZ,0,_,rfl,d3,r3,λ_=>⟨?_,sg,t3,h.AV.sd,L.2,?_⟩⟩
       ·have:=h.AV.AE.2;simpa using this
       ·simpa[Au,EM] using hall
      ·rw[Aa L];have⟨u1,u2,u3⟩:=d3.cO t3 hall h.CZ aU aR aT hs h.dB;by_cases h4:(aZ.ah (A.j.A8+1) (W.map (·.1))).1=0
       ·rw[Aa (nn h4)];exact⟨_,_,_,rfl,u1,u2,λ_=>⟨rfl,W,u3 h4,rfl,rfl,hs⟩⟩
       ·rw[Ae h4];exact⟨_,_,_,rfl,u1,u2,λz=>absurd z h4⟩
     obtain⟨aY,c4,aM,e4,d4,r4,k4⟩:=aS;rw[e4];dsimp only
     by_cases h4:c4=0
     ·rw[Aa (nn h4)];have⟨j1,O,j2,j3,j4,j5⟩:=k4 h4;have⟨d5,t5⟩:=d4.au (A:=aM) j2 (by rw[j1];rfl) j3;unfold Ar.a6;generalize hP5:aM.au aY=S5 at d5 t5 ⊢;obtain⟨c5,a7⟩:=S5;dsimp only at d5 t5 ⊢;have r5:=(t5.bt (by simpa[Au,EM] using j5) (by simp[Au])).bu;by_cases h5:c5=0
      ·rw[Aa (nn h5)];refine⟨_,rfl,⟨d5.ee,r5.ay (N8 (Jf a7))⟩,λz=>?_⟩;have⟨s1,s2,s3,s4⟩:=Ry z;refine⟨s4,by dsimp only;rw[s1,s2],aM.ix,O,?_,by rw[j3,j4],j5⟩;dsimp only
       rw[Jf];exact t5
      ·rw[Ae h5];exact⟨_,rfl,⟨d5,r5⟩,λz=>absurd z h5⟩
     ·rw[Ae h4];exact⟨_,rfl,⟨d4,r4⟩,λz=>absurd z h4⟩
    ·rw[Ae h3];exact⟨_,rfl,⟨d3,r3⟩,λz=>absurd z h3⟩
   ·rw[Ae h2];exact⟨_,rfl,⟨d2,r2⟩,λz=>absurd z h2⟩
  ·rw[Ae h1];exact⟨_,rfl,h.dD,λz=>absurd z h1⟩
 obtain⟨t,ht,k1,k2⟩:=key;rw[ht]at Y ⊢;refine⟨k1,λz=>?_⟩;have⟨g1,g2,g3⟩:=Y z;have⟨m1,m2,a1,O,m3,m4,m5⟩:=k2 z;refine⟨⟨k1.1.Gl m2 (Holds.bt m3.bp (by simpa[Au] using m5) (Ao _)),g2,⟨pd.length,Ao _,by rw[Cf];simpa[Au] using hs,by simp,λ_=>Ao _⟩,λm hm c hc=>.inr ?_,λl e=>(by cases e),by simp[Au],⟨g2.DH,by rw[g1];have:=h.Ew.2.1;dsimp only;omega,aO⟩,by rw[g1];exact h.Ew.2.1,by rw[g1];exact aN⟩,g1,g3,m1⟩;rcases hm with rfl|⟨x,H,rfl⟩|⟨x,H,_⟩
 ·rcases m3.bp.IP with⟨q1,_⟩|⟨d,q1,q2,_⟩
  ·rw[q1]at hc;cases hc
  ·rw[q1]at hc;cases hc;exact q2
 ·have:x.1∈O.map (·.1):=by rw[m4];exact E5 H
  have⟨y,hy,e⟩:=CC.1 this;have⟨_,d,q1,q2,_⟩:=m3.bp.BN y hy;rw[e]at q1;rw[q1]at hc;cases hc;exact q2
 ·cases H
end
section
variable{bd:Int×Int}{P P':PD}{A:Ar}{ix:Ix}{sg cl:gh (Int×gh Pu)}{lo:Option (Int×gh Pu)}{ol:Option (gh Pu)}{pd:gh Pu}{Ad:Nat}{o:Int}{wa:Int}
def SI.aR(h:SI bd A P pd Ad o sg cl ol)(hw:BS (Az wa))(hn:isNum (A.j.A8+1)=true){n:Nat}(hcount:(B7 sg cl ol).length<=n)(hn2:n<=1073741824)(hln:A.A8+n<=4611686018427387904)(hlb:A.A8+n<=bd.2)(hbig:A.AN.length+P.Ai.length+A.j.Ak.length+2*sg.length<=1073741824):
 (DI bd (A.aR P wa).2.2 pd Ad o/\Reads bd (A.aR P wa).2.2 pd o)/\
  ((A.aR P wa).1=0->∃z,SI bd (A.aR P wa).2.1 (A.aR P wa).2.2 pd pd.length o z [] none/\(A.aR P wa).2.1=⟨⟨A.j.A8+1,z.map (·.1)⟩,⟨[],A.j.A8,0,none⟩,(A.aR P wa).2.1.A8,[]⟩/\(A.aR P wa).2.1.A8<=A.A8+n/\(Au z).length<=n/\z.length<=sg.length+n/\
    (∀m,(A.aR P wa).2.2.bs m≠none->m∈Ay::z.map λx=>Aw x.1)/\(A.aR P wa).2.2.D.As=[]):=by
 have O:(B7 sg cl ol).length=(Au sg).length+(Au cl++ol.getD []).length:=by unfold B7;rw[AY]
 have E:=h.AV.pd h.CZ;have d:=HH hw (Au cl++ol.getD []);generalize L:By wa (Au cl++ol.getD [])=fe at d;have hfl:=Hm d.ne;have hfl2:=d.B4;have hcost:=K0 fe;have e:A.aR P wa=A.aF P (sg.map (·.1)) fe:=by
  unfold Ar.aR;rw[E,Aa (by simp),L,h.AV.sd]
 have H:Au (sg++BW A.A8 fe)=Au sg++fe.flatten:=by
  have:=@Ly fe A.A8;unfold Au at this ⊢;rw[WV,this]
 have I:C4 o (Au (sg++BW A.A8 fe)) pd:=by
  rw[H];refine C4.Av (C4.ey (λk t _=>?_) (λp E=>?_) ?_) h.Ck
  ·unfold B7;rw[GR,GR,d.A8]
  ·rcases AU.1 E with E|E
   ·exact FV _ E
   ·exact Hr _ (d.DG p E)
  ·rw[O,AY];omega
 have⟨r1,r2⟩:=h.aF sg fe (λ_ h=>h) (IC.1 (by rw[h.AV.sd];exact h.AV.DH.EV)) (λl Y=>⟨λp E=>h.AV.bX p (d.DG p (NO.2 ⟨l,Y,E⟩)),d.EV Y⟩) hn (by omega) d.ne (by omega) I (by omega);rw[e];refine⟨r1,λW=>?_⟩;have⟨q1,q2,q3,q4⟩:=r2 W;refine⟨_,q1,by rw[q2],by rw[q2];dsimp only;omega,by rw[H,AY];omega,by rw[AY,MU];omega,q3,q4⟩
def SI.aP(h:SI bd A P pd Ad o sg cl ol)(hw:BS (Az wa))(hn:isNum (A.j.A8+1)=true){n:Nat}(hcount:(B7 sg cl ol).length<=n)(hn2:n<=1073741824)(hln:A.A8+n<=4611686018427387904)(hlb:A.A8+n<=bd.2)(hbig:A.AN.length+P.Ai.length+A.j.Ak.length+2*sg.length<=1073741824):
 (DI bd (A.aP P wa o).2.2 pd Ad o/\Reads bd (A.aP P wa o).2.2 pd o)/\
  ((A.aP P wa o).1=0->∃aD,SI bd (A.aP P wa o).2.1 (A.aP P wa o).2.2 pd pd.length o aD [] none/\(A.aP P wa o).2.1=⟨⟨A.j.A8+1,aD.map (·.1)⟩,⟨[],A.j.A8,0,none⟩,(A.aP P wa o).2.1.A8,[]⟩/\(A.aP P wa o).2.1.A8<=A.A8+n/\
    (aD.map (·.2)).Perm (E2 o (By wa (B7 sg cl ol)))/\(∀m,(A.aP P wa o).2.2.bs m≠none->m∈Ay::aD.map λx=>Aw x.1)/\(A.aP P wa o).2.2.D.As=[]):=by
 have hl0:(B7 sg cl ol).length=(Au sg).length+(Au cl++ol.getD []).length:=by unfold B7;rw[AY]
 have L:=h.AV.pd h.CZ;have d:=HH hw (B7 sg cl ol);obtain⟨ws,aI⟩:∃ws,By wa (B7 sg cl ol)=ws:=⟨_,rfl⟩;rw[aI]at d;obtain⟨k0,aH⟩:∃k0,Gn sg o ws=k0:=⟨_,rfl⟩;obtain⟨I,aJ⟩:∃I,(BJ sg o ws).2=I:=⟨_,rfl⟩;have z:=Kh sg o ws;rw[aH,aJ]at z;obtain⟨E,aK⟩:∃E,k0.mergeSort (λx y=>decide (x.1<=y.1))=E:=⟨_,rfl⟩;have aB:E.Perm k0:=by rw[<-aK];exact A4X _ _
 have aT:E.map (·.1)=((BJ sg o ws).1).mergeSort λx y=>decide (x<=y):=by
  rw[Ki,aH,<-aK,A42 (s:=λx y:Int=>decide (x<=y))];intro a _ b _;rfl
 have O:∀x∈E,x∈sg/\x.2∈ws:=λx hx=>LL (by rw[aH];exact aB.mem_iff.1 hx);have aQ:(E2 o ws).Nodup:=by
  have h1:(E2 o ws).Pairwise λw w'=>∀p∈w,∀q∈w',Bz p.2.1 wa<Bz q.2.1 wa:=d.M4.sublist Hf;have W:∀w∈E2 o ws,w≠[]:=λw hw=>d.ne w (Wn hw);clear z;generalize E2 o ws=v at h1 W
  induction v with
  | nil=>simp
  | cons w r ih=>
   have aP:=D7.1 h1;refine KL.2 ⟨λhm=>?_,ih aP.2 λx hx=>W x (Bp _ hx)⟩;have⟨p,L⟩:=A5c w (W w (Bt ..));have:=aP.1 w hm p L p L;omega
 have aO:(E.map (·.2)).Nodup:=by
  have h1:(k0.map (·.2)++I).Nodup:=z.nodup_iff.2 aQ;have W:=(GW.1 h1).1;exact(aB.map (·.2)).nodup_iff.2 W
 have aM:(sg.map (·.1)).Pairwise (· < ·):=IC.1 (by rw[h.AV.sd];exact h.AV.DH.EV);have aF:∀x∈sg,∀y∈sg,x.1=y.1->x=y:=λx hx y hy e=>by
  obtain⟨i,hi,rfl⟩:=DV hx;obtain⟨j,hj,rfl⟩:=DV hy;have L:=Ij.1 aM;rcases QF i j with Y|Y|Y
  ·have:=L i j (by simpa using hi) (by simpa using hj) Y;simp at this;omega
  ·subst Y;rfl
  ·have:=L j i (by simpa using hj) (by simpa using hi) Y;simp at this;omega
 have aA:(E.map (·.1)).Pairwise (· < ·):=by
  have h1:E.Pairwise λx y=>x.1<=y.1:=by
   have:=WN (le:=λx y:Int×gh Pu=>decide (x.1<=y.1)) (λa b c h1 W=>by simp at *;omega) (λa b=>by simp;omega) k0;rw[aK]at this;(exact this.imp λh=>by simpa using h)
  have W:E.Pairwise λx y=>x.2≠y.2:=Mj.1 aO;rw[Mj];have h3:=h1.and W;refine A5f (λ{a b} ha hb aN=>?_) h3;rcases A5i aN.1 with h|h
  ·exact h
  ·exact absurd (ES Prod.snd (aF a (O a ha).1 b (O b hb).1 h)) aN.2
 have aE:∀l∈I,l∈ws:=λl hl=>Jz (by rw[aJ];exact hl);have H:(Au E++I.flatten).Perm (E2 o ws).flatten:=by
  have h1:(E.map (·.2)++I).Perm (E2 o ws):=((aB.map (·.2)).append_right _).trans z;have W:=h1.flatten;rw[WT]at W;have e:(E.map (·.2)).flatten=Au E:=by unfold Au;rw[WU]
  rwa [e]at W
 have hfl:I.length<=I.flatten.length:=Hm λw hw=>d.ne w (aE w hw);have hcnt:I.flatten.length<=n:=by
  have h1:=H.length_eq;have W:(E2 o ws).flatten.length<=ws.flatten.length:=(Ko _ ws).length_le;have h3:=d.B4;rw[AY]at h1;omega
 have hkl:E.length<=sg.length:=by
  have:(E.map (·.1)).length<=(sg.map (·.1)).length:=Jp (aA.imp λh=>X6 h) λx hx=>by
   obtain⟨y,hy,rfl⟩:=CC.1 hx;exact E5 (O y hy).1
  simpa using this
 have hcost:=K0 I;have aG:∀p∈B7 sg cl ol,B8 p:=λp L=>by
  rcases AU.1 L with L|L
  ·exact h.AV.cN p L
  ·exact h.AV.bX p L
 have e:A.aP P wa o=A.aF P (E.map (·.1)) I:=by
  unfold Ar.aP;rw[h.AV.b4];dsimp only
  have e2:sg.flatMap (·.2)++(P.pd A.j.Ak).1=B7 sg cl ol:=by rw[L];rfl
  rw[e2,aI,<-aT,aJ,L,Aa (by simp)]
 have aR:Au (E++BW A.A8 I)=Au E++I.flatten:=by
  have:=@Ly I A.A8;unfold Au at this ⊢;rw[WV,this]
 have aS:C4 o (Au (E++BW A.A8 I)) pd:=by
  rw[aR];refine C4.Av (C4.ey (λk t ht=>?_) (λp L=>?_) ?_) h.Ck
  ·rw[<- (d.dH o).dV H.symm k t,UF d o k t ht]
  ·exact d.DG p ((Ko _ ws).subset (H.mem_iff.1 L))
  ·rw[H.length_eq];exact AJ (Ko _ ws).length_le d.B4
 have⟨r1,r2⟩:=h.aF E I (λx hx=>(O x hx).1) aA (λl hl=>⟨λp L=>aG p (d.DG p (NO.2 ⟨l,aE l hl,L⟩)),d.EV (aE l hl)⟩) hn (by omega) (λl hl=>d.ne l (aE l hl)) (by omega) aS (by omega);have aL:(BW A.A8 I).map (·.2)=I:=by
  have aU:∀(l:gh (gh Pu)) (a:Int),(BW a l).map (·.2)=l:=by
   intro l
   induction l with
   | nil=>intro a;rfl
   | cons x r ih=>intro a;simp[BW,ih]
  exact aU _ _
 rw[e,aI];refine⟨r1,λaG=>?_⟩;have⟨q1,q2,q3,q4⟩:=r2 aG;refine⟨_,q1,by rw[q2],by rw[q2];dsimp only;omega,?_,q3,q4⟩;rw[Ei,aL];exact((aB.map (·.2)).append_right _).trans z
def A0I{l:gh Pu}(h:Ar.aT P=.ok (A,l)):A.j.A8=(Br A.ix.AZ P.Ai).getLastD (A.ix.AZ-1)/\A.A8=(P.Ai.filterMap λnm=>if (Ba nm).1=2 then some (Ba nm).2 else none).getLastD 0/\A.j.AE=none:=by
 unfold Ar.aT at h;split at h
 ·cases h
 ·split at h
  ·cases h
  ·split at h
   ·cases h
   ·split at h
    ·cases h
    ·cases h;exact⟨rfl,rfl,rfl⟩
def Vd{l:gh Int}{d b:Int}(h:∀x∈l,x<=b)(z:d<=b):l.getLastD d<=b:=by
 rcases Mn l with rfl|⟨r,x,rfl⟩
 ·exact z
 ·have e:(r.concat x).getLastD d=x:=by rw[KQ];simp
  rw[e];exact h x (by simp)
def DI.eV(h:DI bd P pd Ad o)(H:0<=bd.2){l:gh Pu}(E:Ar.aT P=.ok (A,l))(hx:A.ix.AZ<=bd.1+1):A.j.A8<=bd.1/\A.A8<=bd.2:=by
 have⟨h1,h2,_⟩:=A0I E;have z:∀nm∈P.Ai,EF bd nm:=λnm d=>h.Ai nm λe=>Es.1 d (Gv.2 e);rw[h1,h2];refine⟨Vd (λx d=>?_) (by omega),Vd (λx d=>?_) H⟩
 ·unfold Br at d;have⟨nm,hm2,e⟩:=KP.1 d;split at e
  ·rename_i q;cases e;exact(z nm hm2).2.1 q.1
  ·cases e
 ·have⟨nm,hm2,e⟩:=KP.1 d;split at e
  ·rename_i q;cases e;exact(z nm hm2).2.2 q
  ·cases e
def AG.aT{P Q:PD}(h:AG P Q):Ar.aT P=Ar.aT Q:=by
 unfold Ar.aT PD.CK PD.bB Ar.aX;simp only[h.aS,h.Ai,h.sd,h.pd]
def SI.aT(L:DI bd P pd Ad o)(h0:0<=bd.2)(hr:Reads bd P pd o)(E:Ad<=pd.length)(hpl:pd.length<=1099511627776):
 ∃A' sg cl,Ar.aT P=.ok (A',B7 sg cl none)/\SI bd A' P pd Ad o sg cl none/\C4 o (B7 sg cl none) pd/\A'.AN=A'.aX P:=by
 obtain⟨A,sg,cl,ol,hL,hs,H⟩:=hr;have h:=hs.2.2;unfold B7 at h;rw[AY,AY]at h;have W:(Au cl).length+(ol.getD []).length<=1099511627776:=by omega
 have aA:=hL.ay λm=>((AG.aQ P).bs m).symm
 have⟨A',h1,h2,h3,h4,h5,h6⟩:=aA.aT L.bc.aQ (by omega);have d:=(AG.aQ P).aT;have hc:A'.aX P.aQ=A'.aX P:=rfl;have z:=h2.ay λm=>(AG.aQ P).bs m
 have hall:B7 sg (shut cl A.j.A8 ol) none=B7 sg cl ol:=by unfold B7;rw[OA];simp
 have I:C4 o (B7 sg (shut cl A.j.A8 ol) none) pd:=by rw[hall];exact hs
 refine⟨A',sg,_,by rw[d,hall];exact h1,⟨L,z,⟨pd.length,Ao _,by rw[Cf];simpa[B7] using I,by simp,λ_=>E⟩,λm hm c O=>.inl ?_,λl e=>(by cases e),by rw[OA,AY];exact W,by rw[h3];exact H,L.eV h0 (by rw[d];exact h1) (by rw[h3];exact H.2.1)⟩,I,by rw[h6,hc]⟩;rw[h6,hc];unfold Ar.aX;refine GX.2 ⟨Es.2 (by rw[Qv O];simp),?_⟩;simp only[E0];unfold Ar.Ai;rcases hm with rfl|⟨x,Y,rfl⟩|⟨x,Y,rfl⟩
 ·simp
 ·refine Hr _ (E5 ?_);rw[<-z.sd];exact E5 Y
 ·refine FV _ (Bp _ (E5 ?_));rw[z.AE.2];exact E5 Y
end
def PD.aW(P:PD)(h:Int)(d:gh Int):PD:=⟨(Fw P.D P.F h d).1,(Fw P.D P.F h d).2⟩
def Qh{c:FC}(h:0<=c.2/\c.2<=c.1.length)(t:Int):∃j:Nat,c.2<=j/\j<=c.1.length/\Fx c t=(c.1.take j,(j:Int)):=by
 have hp:=K7 t (c.1.length-c.2.toNat);refine⟨c.2.toNat+Fo t (c.1.length-c.2.toNat),by omega,by omega,?_⟩;unfold Fx;dsimp only
 rw[BT,NI (by omega)]
def A3g{c:FC}(h:0<=c.2/\c.2<=c.1.length)(t t':Int):Fx (Fx c t) t'=Fx c t:=by
 have⟨j,h1,h2,h3⟩:=Qh h t;rw[h3];unfold Fx;have d:(c.1.take j).length=j:=by rw[BT];omega
 have z:Fo t' ((c.1.take j).length-((j:Int)).toNat)=0:=by
  have:=K7 t' ((c.1.take j).length-((j:Int)).toNat);rw[d]at this ⊢;simp at this ⊢;omega
 dsimp only
 rw[z,QG,EH];have:(c.1.take j).take j=c.1.take j:=by rw[KI];simp
 rw[this,d]
section
variable{bd:Int×Int}{P P':PD}{V V':View}{ix:Ix}{sg cl:gh (Int×gh Pu)}{lo:Option (Int×gh Pu)}{pd:gh Pu}{Ad:Nat}{o:Int}
def Vx(s:gh AM)(H:gh Int)(names:gh gg)(F:Nat->FC)(hr:∀e∈s,0<=(F e.2).2/\(F e.2).2<=(F e.2).1.length):∀k,∀e∈s,(E1 s H names F k e.2=F e.2/\∀j,j<k->∀nm,names[j]?=some nm->lookup s nm≠some e.2)\/∃t,E1 s H names F k e.2=Fx (F e.2) t:=by
 intro k
 induction k with
 | zero=>intro e _;exact .inl ⟨rfl,λj Y=>by omega⟩
 | succ k ih=>
  intro e he;have I:=ih e he;simp only[E1];cases hn:names[k]? with
  | none=>
   dsimp only
   rcases I with⟨z,O⟩|z
   ·refine .inl ⟨z,λj Y nm d=>?_⟩;by_cases E:j=k
    ·subst E;rw[hn]at d;cases d
    ·exact O j (by omega) nm d
   ·exact .inr z
  | some nm=>
   dsimp only
   cases hl:lookup s nm with
   | none=>
    dsimp only
    rcases I with⟨z,O⟩|z
    ·refine .inl ⟨z,λj Y L d=>?_⟩;by_cases E:j=k
     ·subst E;rw[hn]at d;cases d;rw[hl];simp
     ·exact O j (by omega) L d
    ·exact .inr z
   | some f=>
    dsimp only
    by_cases W:e.2=f
    ·subst W;refine .inr ?_;simp only[upd,Cp];rcases I with⟨z,_⟩|⟨t,z⟩
     ·exact⟨_,by rw[z]⟩
     ·exact⟨t,by rw[z,A3g (hr e he)]⟩
    ·simp only[upd,W,C9];rcases I with⟨z,O⟩|z
     ·refine .inl ⟨z,λj Y L d=>?_⟩;by_cases E:j=k
      ·subst E;rw[hn]at d;cases d;rw[hl];simp;exact λh=>W h.symm
      ·exact O j (by omega) L d
     ·exact .inr z
def A3a(s:gh AM)(d:gh Int)(F:Nat->FC)(E:∀e∈s,0<=(F e.2).2/\(F e.2).2<=(F e.2).1.length):Im (vw F s) (vw (E1 s d (dList s) F s.length) s):=by
 intro m;unfold vw;cases hx:lookup s (A6 m) with
 | none=>exact .inl ⟨rfl,rfl⟩
 | some f=>
  have z:=DY hx;have hlen:(dList s).length=s.length:=Ng s s.length (Ao _);have h:A6 m∈dList s:=(LW s).mem_iff.2 (CC.2 ⟨_,z,rfl⟩);have⟨k,hk,hk2⟩:=DV h;rcases Vx s d (dList s) F E s.length _ z with⟨_,I⟩|⟨t,H⟩
  ·exact absurd hx (I k (by omega) (A6 m) (by rw[DL hk,hk2]))
  ·have⟨j,j1,j2,j3⟩:=Qh (E _ z) t;refine .inr ⟨F f,j,rfl,j1,j2,?_⟩;dsimp only at H j3;simp[H,j3]
def Vz(D:DS)(d:Int):Ga D d∈D.AI::D.As:=by
 unfold Ga;have h:=K7 d D.As.length;cases hx:Fo d D.As.length with
 | zero=>exact Bt ..
 | succ k=>
  rw[hx]at h;refine Bp _ ?_;dsimp only
  rw[He,DL (by omega)];exact BU _
def CW.a6(h:CW bd V ix sg cl lo)(z:∀nm c,V nm=some c->BV c)(hl:(Au cl).length<=1099511627776):CW bd V ix sg (cl++lo.toList) none:=by
 cases lo with
 | none=>simpa using h
 | some y=>
  obtain⟨n,l⟩:=y;have⟨h1,h2,c,h3,h4⟩:=h.A8 n l rfl;refine⟨h.DH,h.IP,h.sd,h.BN,λx d=>?_,h.Ak.bS ?_,λn' l' e=>(by cases e),by simpa using h.EV,λk E H I=>by simpa using h.Ck k E H I,h.Ef,h.E7⟩
  ·rcases AU.1 d with d|d
   ·exact h.CV x d
   ·simp at d;subst d;exact⟨h1,h2,c,h3,z _ _ h3⟩
  ·unfold Jv;rw[h3];dsimp only
   rw[O1];exact h4.aS (by constructor<;>omega) h2
def DI.aW(h:DI bd P pd Ad o)(z:Int)(d:gh Int)(hpl:pd.length<=1099511627776):
 DI bd (P.aW z d) pd Ad o/\∃n,Ad<=n/\n<=pd.length/\∀I q,o<=I->C4 I (pd.take n) q->DI bd (P.aW z d) q Ad I/\Reads bd (P.aW z d) q I:=by
 have W:=Vz P.D z;generalize aA:Ga P.D z=s at W;have hr:∀e∈s,0<=(P.F e.2).2/\(P.F e.2).2<=(P.F e.2).1.length:=λe he=>by
  have⟨ix,sg,cl,lo,nb,hL,_⟩:=h.DP s W;have hv:vw P.F s e.1.data.toList=some (P.F e.2):=by
   unfold vw;rw[FO];cases hk:lookup s e.1 with
   | none=>exact absurd rfl (Jt.1 hk e he)
   | some g=>
    have⟨i,hi,e1⟩:=DV (DY hk);have⟨j,hj,e2⟩:=DV he;have:i=j:=Kb (h.Cj s W) (by simpa using hi) (by simpa using hj) (by simp[e1,e2]);subst this;rw[e1]at e2;rw[<-e2];rfl
  exact hL.E7 _ _ hv
 have aF:=A3a s d P.F hr;have aG:(P.aW z d).fl=vw (E1 s d (dList s) P.F s.length) s:=by
  funext m
  unfold PD.aW PD.fl Fw vw;dsimp only
  rw[aA]
 have⟨ix,sg,cl,lo,n,hL,hd,n1,n2,n3⟩:=(h.DP s W).Ce aF;rw[<-aG]at hL hd;have n4:=n3.2.2;rw[BT,AY,AY]at n4;have aD:(Au cl).length<=1099511627776:=by omega
 have hC:=hL.a6 hd aD;have H:Au (cl++lo.toList)=Au cl++EM lo:=by cases lo<;>simp[Au,EM]
 have hq:C4 o (Au sg++Au (cl++lo.toList)) (pd.take n):=by rw[H,<-Ch];exact n3
 have hH:Holds bd (P.aW z d).fl pd Ad o:=⟨ix,sg,_,none,n,hC,n2,hq,λn' l e=>(by cases e),λ_=>n1⟩;have L:Bn (P.aW z d)=[(P.aW z d).D.A4]:=by unfold Bn PD.aW Fw;rfl
 have O:(P.aW z d).D.A4=s:=by unfold PD.aW Fw;dsimp only;exact aA
 have mk:∀I q,Holds bd (P.aW z d).fl q Ad I->DI bd (P.aW z d) q Ad I:=λI q hq=>by
  refine⟨λx E=>?_,λx E=>?_,λx E=>?_,by rw[L];simp⟩
  ·rw[L]at E;simp at E;subst E;exact hq
  ·rw[L]at E;simp at E;subst E;rw[O];exact h.Ap s W
  ·rw[L]at E;simp at E;subst E;rw[O];exact h.Cj s W
 refine⟨mk o pd hH,n,n1,n2,λI q ho Y=>?_⟩;have aE:=(hq.bP ho).Av Y;have aB:Ad<=q.length:=by
  have:=Y.2.2;rw[BT]at this;omega
 exact⟨mk I q (Holds.bt hC aE aB),Whole.bu ⟨ix,sg,_,none,hC,by rw[H,AY];omega,by simpa[EM] using aE⟩⟩
end
end
end Go.Proofs.YtodcnkbblippnaaGreatDoor
