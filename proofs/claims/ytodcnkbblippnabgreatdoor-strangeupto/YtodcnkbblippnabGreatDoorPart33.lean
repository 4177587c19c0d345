/- Part 33 of a proof: walks of the program. -/
import Derived.Test.YtodcnkbblippnabGreatDoorPart32
namespace Go.Proofs.YtodcnkbblippnabGreatDoor
set_option maxRecDepth 100000
set_option maxHeartbeats 32000000
set_option linter.defProp false
open Go.Proofs.Tryz
section
open Go.RowKit
section
variable{bd:Int×Int}{P P':PD}{A:Ar}{ix:Ix}{sg cl:List (Int×List Pu)}{lo:Option (Int×List Pu)}{ol:Option (List Pu)}{puts:List Pu}{Ag:Nat}{o:Int}
def XJ(h:GV P)(x m:Bs):(P.aG (A9 x)).2.fl m=none\/(P.aG (A9 x)).2.fl m=P.fl m:=by
 have⟨a1,_,a3⟩:=Rc h (A9 x);rcases a3 with⟨d1,_,_⟩|⟨d1,_⟩
 ·exact .inr (by unfold PD.fl;rw[d1,a1])
 ·have:(P.aG (A9 x)).2.fl m=vw P.F (P.D.A6.filter λe=>decide (e.1≠A9 x)) m:=by unfold PD.fl vw;rw[d1,a1]
  rw[this,Q4];by_cases e:m=x
  ·exact .inl (by rw[Ah e])
  ·exact .inr (by rw[Ae e];rfl)
def Re:∀(l:List Bs) {P:PD},DI bd P puts Ag o->CX bd P.fl ix sg cl lo puts Ag o->(∀m∈l,¬Kh ix sg m)->∀m,(PD.aL l P).2.fl m=none\/(PD.aL l P).2.fl m=P.fl m
 | [],P,_,_,_,m=>.inr rfl
 | x::r,P,h,hT,hm,m=>by
  have⟨h1,h2⟩:=h.dQ hT (hm x (Bp ..));have z:=XJ h.bq x m;unfold PD.aL;split
  ·exact z
  ·rcases Re r h1 h2 (λy H=>hm y (Bn _ H)) m with e|e
   ·exact .inl e
   ·rw[e];exact z
def Yv(W:CX bd P.fl A.ix sg cl lo puts Ag o)(I:A.j.Al=cl.map (·.1)++(lo.map (·.1)).toList)(h:sg.map (·.1)=A.ix.segs):∀m∈A.aV P,¬Kh A.ix sg m:=λm z X=>by
 have⟨h1,h2⟩:=HD.1 z;refine h2 ?_;unfold Ar.Av;rcases X with rfl|⟨x,Y,rfl⟩|⟨n,hn,H,rfl⟩
 ·simp
 ·refine GX _ (DD ?_);rw[<-h];exact DD Y
 ·refine Fx _ (Bn _ (DD ?_));rw[I];refine W.br.CK n hn H λO=>h1 ?_;unfold PD.bs;rw[O];rfl
def SI.ay(h:SI bd A P puts Ag o sg cl ol)(I:List (Int×List Pu))(fresh:List (List Pu))(aH:∀x∈I,x∈sg)(aE:(I.map (·.1)).Pairwise (· < ·))(hf:∀l∈fresh,(∀p∈l,B8 p)/\Cs Cq l=true)(hn:isNum (A.j.A8+1)=true)(aD:A.A8+fresh.length<=4611686018427387904)(a5:∀l∈fresh,l≠[])(aN:A.A8+fresh.length<=bd.2)(hs:Ci o (Az (I++Cf A.A8 fresh)) puts)(hbig:A.AM.length+P.Av.length+CC fresh+fresh.length+A.j.Al.length+sg.length+I.length<=1099511627776):
 (DI bd (A.ay P (I.map (·.1)) fresh).2.2 puts Ag o/\Reads bd (A.ay P (I.map (·.1)) fresh).2.2 puts o)/\
  ((A.ay P (I.map (·.1)) fresh).1=0->SI bd (A.ay P (I.map (·.1)) fresh).2.1 (A.ay P (I.map (·.1)) fresh).2.2 puts puts.length o (I++Cf A.A8 fresh) [] none/\
    (A.ay P (I.map (·.1)) fresh).2.1=⟨⟨A.j.A8+1,(I++Cf A.A8 fresh).map (·.1)⟩,⟨[],A.j.A8,0,none⟩,A.A8+fresh.length,[]⟩/\
    (∀m,(A.ay P (I.map (·.1)) fresh).2.2.bs m≠none->m∈AF::(I++Cf A.A8 fresh).map λx=>Aw x.1)/\(A.ay P (I.map (·.1)) fresh).2.2.D.Ap=[]):=by
 have a3:P.aS.dl=P.Av.length:=by rw[IZ];rfl
 have Y:(A.ay P (I.map (·.1)) fresh).1=0->(A.ay P (I.map (·.1)) fresh).2.1=⟨⟨A.j.A8+1,(I++Cf A.A8 fresh).map (·.1)⟩,⟨[],A.j.A8,0,none⟩,A.A8+fresh.length,[]⟩/\
  Lay (A.ay P (I.map (·.1)) fresh).2.2 (A.ay P (I.map (·.1)) fresh).2.1 (I++Cf A.A8 fresh) [] none/\∀m,(A.ay P (I.map (·.1)) fresh).2.2.bs m≠none->m∈AF::(I++Cf A.A8 fresh).map λx=>Aw x.1:=λz=>by
  have⟨r1,r2,r3,r4⟩:=(AQ.aS P).ay (A:=A) (N:=0) (R:=0) (I.map (·.1)) fresh (h.di.bq.aS.ae (by rw[a3];omega) (by simp;omega)) z;have⟨q1,q2,q3,q4,q5⟩:=(h.B7.az (P':=P.aS) λm=>((AQ.aS P).bs m).symm).ay (N:=0) (R:=0) (K:=P.Av.length) I fresh (h.di.bq.aS.ae (by omega) (by omega)) (by rw[IZ,a3];exact Aq _) aH aE hf hn aD;refine⟨by rw[r2,q2],by rw[r2];exact q4.az λm=>r3.bs m,λm hm=>q5 m (by rw[<-r3.bs];exact hm)⟩
 obtain⟨X,aI⟩:∃X,I++Cf A.A8 fresh=X:=⟨_,rfl⟩;have aP:X.map (·.1)=I.map (·.1)++(Cf A.A8 fresh).map (·.1):=by rw[<-aI,Ed]
 have aO:∀x∈X,x.2≠[]:=λx H=>by
  rw[<-aI]at H;rcases AU.1 H with H|H
  ·exact h.EK.1.2.2 x (aH x H)
  ·exact a5 _ (Gw H).2.2
 rw[aI]at hs Y ⊢;have key:∃t:Int×Ar×PD,A.ay P (I.map (·.1)) fresh=t/\(DI bd t.2.2 puts Ag o/\Reads bd t.2.2 puts o)/\(t.1=0->t.2.2.D.Ap=[]/\Br t.2.2=[t.2.2.D.A6]/\∃a4 W,CX bd t.2.2.fl a4 W [] none puts Ag o/\W.map (·.1)=X.map (·.1)/\Ci o (Az W) puts):=by
  unfold Ar.ay;dsimp only
  by_cases h1:(A.aa P).1=0
  ·rw[Ae (nn h1)];have⟨hS,hL⟩:=h.dF h1;have hA:(A.aa P).2.1 = {A with AM:=[]}:=by
    unfold Ar.aa at h1 ⊢;split at h1
    ·rename_i h2;exact absurd h1 h2
    ·rename_i h2;rw[Ae h2]
   have aF:=Nn A P;rw[hA];generalize (A.aa P).2.2=P1 at hS hL aF;(have aX:=hS.by hL);have hall:=h.eL;have hj:({A with AM:=[]}:Ar).j.Al=cl.map (·.1)++(Option.map (·.1) (ol.map λl=>(A.j.A8,l))).toList:=by
    dsimp only
    rw[h.B7.bR];cases ol<;>simp[shut]
   have a6:=Yv (A:={A with AM:=[]}) aX hj h.B7.segs;have⟨d2,t2⟩:=hS.di.aw (A:={A with AM:=[]}) aX hj h.B7.segs;have aB:∀m,(({A with AM:=[]}:Ar).aw P1).2.fl m=none\/(({A with AM:=[]}:Ar).aw P1).2.fl m=P1.fl m:=Re _ hS.di aX a6;generalize hP2:({A with AM:=[]}:Ar).aw P1=SW at d2 t2 aB ⊢;obtain⟨c2,a2⟩:=SW;dsimp only at d2 t2 aB ⊢;have r2:Reads bd a2 puts o:=(t2.bz hall h.DG).bl;by_cases h2:c2=0
   ·rw[Ae (nn h2)];have h0:=h.B7.DY.1;have d3:=DI.ah fresh A.A8 (I.map (·.1)) d2 h0 aD aN;have t3:=CX.ah fresh A.A8 (I.map (·.1)) d2 t2 h0 aD aN;have aA:=Ss fresh A.A8 (I.map (·.1)) d2 h0 aD aN;have aR:∀n,isNum n=true->A.A8<n->a2.bs (Aw n)=none:=λn k1 k2=>by
     rcases aB (Aw n) with e|e
     ·unfold PD.bs;rw[e];rfl
     ·(have:a2.bs (Aw n)=P.bs (Aw n):=by unfold PD.bs;rw[e];have:=aF (Aw n);unfold PD.bs at this;exact this);rw[this];cases H:P.bs (Aw n) with
      | none=>rfl
      | some c=>have:=h.B7.DY.2 n k1 (by rw[H];simp);omega
    have aG:=λz=>AQ.ah (N:=0) (R:=0) fresh A.A8 (I.map (·.1)) (AQ.aS a2) (d2.bq.aS.ae (by omega) (by omega)) z;have⟨w1,w2,w3,w4,w5,w6⟩:=Cm.ah (N:=0) (R:=0) fresh A.A8 (I.map (·.1)) (d2.bq.aS.ae (by omega) (by omega)) h0 aD (λn k1 k2=>by rw[<- (AQ.aS a2).bs];exact aR n k1 k2);generalize hP3:PD.ah fresh A.A8 (I.map (·.1)) a2=NS at d3 t3 aA aG ⊢;obtain⟨c3,aQ,aU,a1⟩:=NS;dsimp only at d3 t3 aA aG ⊢;have r3:=(t3.bz hall h.DG).bl;by_cases h3:c3=0
    ·rw[Ae (nn h3)];have⟨x1,x2,x3,x4,_⟩:=aG h3;have⟨y1,y2⟩:=aA h3;(have aJ:aQ=A.A8+fresh.length:=by rw[x2,w2]);(have aK:aU=X.map (·.1):=by rw[x3,w3,aP]);rw[aJ,aK];have aY:∀x∈X,isNum x.1=true:=λx H=>by
      rw[<-aI]at H;rcases AU.1 H with H|H
      ·exact h.B7.cL (aH x H)
      ·have:=Gw H;unfold isNum;simp;omega
     have aL:(X.map (·.1)).Pairwise (· < ·):=by
      rw[aP];refine Eu.2 ⟨aE,NX,λa ha b hb=>?_⟩;obtain⟨x,H,rfl⟩:=C9.1 ha;obtain⟨y,hy,rfl⟩:=C9.1 hb;have k1:=h.B7.cP (aH x H);have k2:=Gw hy;omega
     have aW:Hv bd ⟨A.j.A8+1,X.map (·.1)⟩ X:=⟨⟨hn,λn hm=>by obtain⟨x,H,rfl⟩:=C9.1 hm;exact aY x H,IH.2 aL⟩,by have:=h.EK.2.1;dsimp only;omega,aO⟩;have aS:∀x∈X,((∀p∈x.2,B8 p)/\Cs Cq x.2=true)/\∃c,a1.fl (Aw x.1)=some c/\Cr c/\c.1=AT (AB (Aw x.1)) (Cb x.2):=λx H=>by
      rw[<-aI]at H;rcases AU.1 H with H|H
      ·exact t3.br.BT x (aH x H)
      ·refine⟨hf _ (Gw H).2.2,?_⟩;(have hb:a1.bs (Aw x.1)=some (AT (AB (Aw x.1)) (Cb x.2)):=by rw[x4.bs];exact w5 x H);have⟨c,k1,k2⟩:=IY hb;exact⟨c,k1,y1 x H c k1,k2⟩
     have aV:∀n,isNum n=true->A.j.A8+1<=n->a1.fl (Af n)=none:=λn k1 k2=>by
      rw[y2 _ λx _=>EY n x.1];rcases aB (Af n) with e|e
      ·exact e
      ·rw[e];refine GQ.1 ?_;rw[aF];cases H:P.bs (Af n) with
       | none=>rfl
       | some c=>have:=h.B7.Eh.2.2 n k1 (by rw[H];simp);omega
     have aT:∃a0,∃c4,∃aM:Ar,(({A with AM:=[],A8:=A.A8+fresh.length}:Ar).ai a1 (X.map (·.1)))=(c4,aM,a0)/\DI bd a0 puts Ag o/\Reads bd a0 puts o/\(c4=0->aM.j.Al=[]/\∃W,CX bd a0.fl aM.ix W [] none puts Ag o/\W.map (·.1)=aM.ix.segs/\aM.ix.segs=X.map (·.1)/\Ci o (Az W) puts):=by
      unfold Ar.ai;dsimp only
      by_cases O:A.ix.AW=A.j.A8+1/\A.ix.segs=X.map (·.1)
      ·rw[Ah O];have aZ:cl=[]:=by
        cases aZ:cl with
        | nil=>rfl
        | cons x r=>
         (have H:x∈cl:=by rw[aZ];exact Bp ..);have k1:=h.B7.EI.1 x H;have k2:=(h.B7.CQ x H).1.2;have:=O.1;omega
       have a7:ol=none:=by
        cases ol with
        | none=>rfl
        | some l=>have:=h.B7.EI.2 (by simp);have:=O.1;omega
       subst aZ a7;refine⟨a1,0,_,rfl,d3,r3,λ_=>⟨?_,sg,t3,h.B7.segs,O.2,?_⟩⟩
       ·have:=h.B7.AP.2;simpa using this
       ·simpa[Az,EG] using hall
      ·rw[Ae O];have⟨u1,u2,u3⟩:=d3.cJ t3 hall h.DG aW aS aV hs h.dp;by_cases h4:(a1.ai (A.j.A8+1) (X.map (·.1))).1=0
       ·rw[Ae (nn h4)];exact⟨_,_,_,rfl,u1,u2,λ_=>⟨rfl,X,u3 h4,rfl,rfl,hs⟩⟩
       ·rw[Ah h4];exact⟨_,_,_,rfl,u1,u2,λz=>absurd z h4⟩
     obtain⟨a0,c4,aM,e4,d4,r4,k4⟩:=aT;rw[e4];dsimp only
     by_cases h4:c4=0
     ·rw[Ae (nn h4)];have⟨j1,W,j2,j3,j4,j5⟩:=k4 h4;have⟨d5,t5⟩:=d4.aw (A:=aM) j2 (by rw[j1];rfl) j3;unfold Ar.a6;generalize hP5:aM.aw a0=S5 at d5 t5 ⊢;obtain⟨c5,a8⟩:=S5;dsimp only at d5 t5 ⊢;have r5:=(t5.bz (by simpa[Az,EG] using j5) (by simp[Az])).bl;by_cases h5:c5=0
      ·rw[Ae (nn h5)];refine⟨_,rfl,⟨d5.ff,r5.az (TH (Qj a8))⟩,λz=>?_⟩;have⟨s1,s2,s3,s4⟩:=VS z;refine⟨s4,by dsimp only;rw[s1,s2],aM.ix,W,?_,by rw[j3,j4],j5⟩;dsimp only
       rw[Qj];exact t5
      ·rw[Ah h5];exact⟨_,rfl,⟨d5,r5⟩,λz=>absurd z h5⟩
     ·rw[Ah h4];exact⟨_,rfl,⟨d4,r4⟩,λz=>absurd z h4⟩
    ·rw[Ah h3];exact⟨_,rfl,⟨d3,r3⟩,λz=>absurd z h3⟩
   ·rw[Ah h2];exact⟨_,rfl,⟨d2,r2⟩,λz=>absurd z h2⟩
  ·rw[Ah h1];exact⟨_,rfl,h.ew,λz=>absurd z h1⟩
 obtain⟨t,ht,k1,k2⟩:=key;rw[ht]at Y ⊢;refine⟨k1,λz=>?_⟩;have⟨g1,g2,g3⟩:=Y z;have⟨m1,m2,a4,W,m3,m4,m5⟩:=k2 z;refine⟨⟨k1.1.Gv m2 (Holds.bz m3.br (by simpa[Az] using m5) (Aq _)),g2,⟨puts.length,Aq _,by rw[Cj];simpa[Az] using hs,by simp,λ_=>Aq _⟩,λm hm c hc=>.inr ?_,λl e=>(by cases e),by simp[Az],⟨g2.E2,by rw[g1];have:=h.EK.2.1;dsimp only;omega,aO⟩,by rw[g1];exact h.EK.2.1,by rw[g1];exact aN⟩,g1,g3,m1⟩;rcases hm with rfl|⟨x,H,rfl⟩|⟨x,H,_⟩
 ·rcases m3.br.Ii with⟨q1,_⟩|⟨d,q1,q2,_⟩
  ·rw[q1]at hc;cases hc
  ·rw[q1]at hc;cases hc;exact q2
 ·have:x.1∈W.map (·.1):=by rw[m4];exact DD H
  have⟨y,hy,e⟩:=C9.1 this;have⟨_,d,q1,q2,_⟩:=m3.br.BT y hy;rw[e]at q1;rw[q1]at hc;cases hc;exact q2
 ·cases H
end
section
variable{bd:Int×Int}{P P':PD}{A:Ar}{ix:Ix}{sg cl:List (Int×List Pu)}{lo:Option (Int×List Pu)}{ol:Option (List Pu)}{puts:List Pu}{Ag:Nat}{o:Int}{Ay:Int}
def SI.aQ(h:SI bd A P puts Ag o sg cl ol)(hw:BX (AE Ay))(hn:isNum (A.j.A8+1)=true){n:Nat}(hcount:(Cl sg cl ol).length<=n)(hn2:n<=1073741824)(hln:A.A8+n<=4611686018427387904)(hlb:A.A8+n<=bd.2)(hbig:A.AM.length+P.Av.length+A.j.Al.length+2*sg.length<=1073741824):
 (DI bd (A.aQ P Ay).2.2 puts Ag o/\Reads bd (A.aQ P Ay).2.2 puts o)/\
  ((A.aQ P Ay).1=0->∃H,SI bd (A.aQ P Ay).2.1 (A.aQ P Ay).2.2 puts puts.length o H [] none/\(A.aQ P Ay).2.1=⟨⟨A.j.A8+1,H.map (·.1)⟩,⟨[],A.j.A8,0,none⟩,(A.aQ P Ay).2.1.A8,[]⟩/\(A.aQ P Ay).2.1.A8<=A.A8+n/\(Az H).length<=n/\H.length<=sg.length+n/\
    (∀m,(A.aQ P Ay).2.2.bs m≠none->m∈AF::H.map λx=>Aw x.1)/\(A.aQ P Ay).2.2.D.Ap=[]):=by
 have Y:(Cl sg cl ol).length=(Az sg).length+(Az cl++ol.getD []).length:=by unfold Cl;rw[AX]
 have I:=h.B7.puts h.DG;have z:=JK hw (Az cl++ol.getD []);generalize X:Dd Ay (Az cl++ol.getD [])=fresh at z;have hfl:=IX z.ne;have hfl2:=z.Bi;have hcost:=Kt fresh;have e:A.aQ P Ay=A.ay P (sg.map (·.1)) fresh:=by
  unfold Ar.aQ;rw[I,Ae (by simp),X,h.B7.segs]
 have O:Az (sg++Cf A.A8 fresh)=Az sg++fresh.flatten:=by
  have:=@LP fresh A.A8;unfold Az at this ⊢;rw[A23,this]
 have W:Ci o (Az (sg++Cf A.A8 fresh)) puts:=by
  rw[O];refine Ci.AJ (Ci.fF (λk t _=>?_) (λp I=>?_) ?_) h.CK
  ·unfold Cl;rw[Gz,Gz,z.A8]
  ·rcases AU.1 I with I|I
   ·exact Fx _ I
   ·exact GX _ (z.DP p I)
  ·rw[Y,AX];omega
 have⟨r1,r2⟩:=h.ay sg fresh (λ_ h=>h) (IH.1 (by rw[h.B7.segs];exact h.B7.E2.Fj)) (λl hl=>⟨λp I=>h.B7.cf p (z.DP p (Pj.2 ⟨l,hl,I⟩)),z.Fj hl⟩) hn (by omega) z.ne (by omega) W (by omega);rw[e];refine⟨r1,λaA=>?_⟩;have⟨q1,q2,q3,q4⟩:=r2 aA;refine⟨_,q1,by rw[q2],by rw[q2];dsimp only;omega,by rw[O,AX];omega,by rw[AX,LQ];omega,q3,q4⟩
def YI{l:List Pu}(h:Ar.aR P=.ok (A,l)):A.j.A8=(Bv A.ix.AW P.Av).getLastD (A.ix.AW-1)/\A.A8=(P.Av.filterMap λnm=>if (Bc nm).1=2 then some (Bc nm).2 else none).getLastD 0/\A.j.AP=none:=by
 unfold Ar.aR at h;split at h
 ·cases h
 ·split at h
  ·cases h
  ·split at h
   ·cases h
   ·split at h
    ·cases h
    ·cases h;exact⟨rfl,rfl,rfl⟩
def TF{l:List Int}{d b:Int}(h:∀x∈l,x<=b)(z:d<=b):l.getLastD d<=b:=by
 rcases Lk l with rfl|⟨r,x,rfl⟩
 ·exact z
 ·have e:(r.concat x).getLastD d=x:=by rw[Ka];simp
  rw[e];exact h x (by simp)
def DI.eQ(h:DI bd P puts Ag o)(O:0<=bd.2){l:List Pu}(I:Ar.aR P=.ok (A,l))(hx:A.ix.AW<=bd.1+1):A.j.A8<=bd.1/\A.A8<=bd.2:=by
 have⟨h1,h2,_⟩:=YI I;have H:∀nm∈P.Av,F5 bd nm:=λnm z=>h.Av nm λe=>EF.1 z (GQ.2 e);rw[h1,h2];refine⟨TF (λx z=>?_) (by omega),TF (λx z=>?_) O⟩
 ·unfold Bv at z;have⟨nm,hm2,e⟩:=HQ.1 z;split at e
  ·rename_i q;cases e;exact(H nm hm2).2.1 q.1
  ·cases e
 ·have⟨nm,hm2,e⟩:=HQ.1 z;split at e
  ·rename_i q;cases e;exact(H nm hm2).2.2 q
  ·cases e
def AQ.aR{P Q:PD}(h:AQ P Q):Ar.aR P=Ar.aR Q:=by
 unfold Ar.aR PD.CV PD.bP Ar.a1;simp only[h.aT,h.Av,h.segs,h.puts]
def SI.aR(X:DI bd P puts Ag o)(h0:0<=bd.2)(hr:Reads bd P puts o)(I:Ag<=puts.length)(hpl:puts.length<=1099511627776):
 ∃A' sg cl,Ar.aR P=.ok (A',Cl sg cl none)/\SI bd A' P puts Ag o sg cl none/\Ci o (Cl sg cl none) puts/\A'.AM=A'.a1 P:=by
 obtain⟨A,sg,cl,ol,hL,hs,O⟩:=hr;have z:=hs.2.2;unfold Cl at z;rw[AX,AX]at z;have aA:(Az cl).length+(ol.getD []).length<=1099511627776:=by omega
 have aB:=hL.az λm=>((AQ.aS P).bs m).symm
 have⟨A',h1,h2,h3,h4,h5,h6⟩:=aB.aR X.bq.aS (by omega);have h:=(AQ.aS P).aR;have hc:A'.a1 P.aS=A'.a1 P:=rfl;have H:=h2.az λm=>(AQ.aS P).bs m
 have hall:Cl sg (shut cl A.j.A8 ol) none=Cl sg cl ol:=by unfold Cl;rw[Nl];simp
 have W:Ci o (Cl sg (shut cl A.j.A8 ol) none) puts:=by rw[hall];exact hs
 refine⟨A',sg,_,by rw[h,hall];exact h1,⟨X,H,⟨puts.length,Aq _,by rw[Cj];simpa[Cl] using W,by simp,λ_=>I⟩,λm hm c Y=>.inl ?_,λl e=>(by cases e),by rw[Nl,AX];exact aA,by rw[h3];exact O,X.eQ h0 (by rw[h];exact h1) (by rw[h3];exact O.2.1)⟩,W,by rw[h6,hc]⟩;rw[h6,hc];unfold Ar.a1;refine GF.2 ⟨EF.2 (by rw[OY Y];simp),?_⟩;simp only[DT];unfold Ar.Av;rcases hm with rfl|⟨x,hx,rfl⟩|⟨x,hx,rfl⟩
 ·simp
 ·refine GX _ (DD ?_);rw[<-H.segs];exact DD hx
 ·refine Fx _ (Bn _ (DD ?_));rw[H.AP.2];exact DD hx
end
def PD.aW(P:PD)(z:Int)(h:List Int):PD:=⟨(Fq P.D P.F z h).1,(Fq P.D P.F z h).2⟩
def OM{c:FC}(h:0<=c.2/\c.2<=c.1.length)(t:Int):∃j:Nat,c.2<=j/\j<=c.1.length/\Fs c t=(c.1.take j,(j:Int)):=by
 have hp:=Jx t (c.1.length-c.2.toNat);refine⟨c.2.toNat+Fl t (c.1.length-c.2.toNat),by omega,by omega,?_⟩;unfold Fs;dsimp only
 rw[BU,MN (by omega)]
def A1y{c:FC}(h:0<=c.2/\c.2<=c.1.length)(t z:Int):Fs (Fs c t) z=Fs c t:=by
 have⟨j,h1,h2,h3⟩:=OM h t;rw[h3];unfold Fs;have H:(c.1.take j).length=j:=by rw[BU];omega
 have I:Fl z ((c.1.take j).length-((j:Int)).toNat)=0:=by
  have:=Jx z ((c.1.take j).length-((j:Int)).toNat);rw[H]at this ⊢;simp at this ⊢;omega
 dsimp only
 rw[I,Pg,EA];have:(c.1.take j).take j=c.1.take j:=by rw[K4];simp
 rw[this,H]
section
variable{bd:Int×Int}{P P':PD}{V V':View}{ix:Ix}{sg cl:List (Int×List Pu)}{lo:Option (Int×List Pu)}{puts:List Pu}{Ag:Nat}{o:Int}
def TZ(s:List AI)(O:List Int)(names:List ByteArray)(F:Nat->FC)(hr:∀e∈s,0<=(F e.2).2/\(F e.2).2<=(F e.2).1.length):∀k,∀e∈s,(DU s O names F k e.2=F e.2/\∀j,j<k->∀nm,names[j]?=some nm->lookup s nm≠some e.2)\/∃t,DU s O names F k e.2=Fs (F e.2) t:=by
 intro k
 induction k with
 | zero=>intro e _;exact .inl ⟨rfl,λj hj=>by omega⟩
 | succ k ih=>
  intro e he;have W:=ih e he;simp only[DU];cases hn:names[k]? with
  | none=>
   dsimp only
   rcases W with⟨H,Y⟩|H
   ·refine .inl ⟨H,λj hj nm z=>?_⟩;by_cases I:j=k
    ·subst I;rw[hn]at z;cases z
    ·exact Y j (by omega) nm z
   ·exact .inr H
  | some nm=>
   dsimp only
   cases hl:lookup s nm with
   | none=>
    dsimp only
    rcases W with⟨H,Y⟩|H
    ·refine .inl ⟨H,λj hj X z=>?_⟩;by_cases I:j=k
     ·subst I;rw[hn]at z;cases z;rw[hl];simp
     ·exact Y j (by omega) X z
    ·exact .inr H
   | some f=>
    dsimp only
    by_cases hf:e.2=f
    ·subst hf;refine .inr ?_;simp only[upd,Cn];rcases W with⟨H,_⟩|⟨t,H⟩
     ·exact⟨_,by rw[H]⟩
     ·exact⟨t,by rw[H,A1y (hr e he)]⟩
    ·simp only[upd,hf,C4];rcases W with⟨H,Y⟩|H
     ·refine .inl ⟨H,λj hj X z=>?_⟩;by_cases I:j=k
      ·subst I;rw[hn]at z;cases z;rw[hl];simp;exact λh=>hf h.symm
      ·exact Y j (by omega) X z
     ·exact .inr H
def A1s(s:List AI)(h:List Int)(F:Nat->FC)(I:∀e∈s,0<=(F e.2).2/\(F e.2).2<=(F e.2).1.length):HW (vw F s) (vw (DU s h (dList s) F s.length) s):=by
 intro m;unfold vw;cases hx:lookup s (A9 m) with
 | none=>exact .inl ⟨rfl,rfl⟩
 | some f=>
  have H:=Ea hx;have hlen:(dList s).length=s.length:=Mp s s.length (Aq _);have z:A9 m∈dList s:=(JR s).mem_iff.2 (C9.2 ⟨_,H,rfl⟩);have⟨k,hk,hk2⟩:=Ee z;rcases TZ s h (dList s) F I s.length _ H with⟨_,W⟩|⟨t,O⟩
  ·exact absurd hx (W k (by omega) (A9 m) (by rw[Ef hk,hk2]))
  ·have⟨j,j1,j2,j3⟩:=OM (I _ H) t;refine .inr ⟨F f,j,rfl,j1,j2,?_⟩;dsimp only at O j3;simp[O,j3]
def U3(D:DS)(h:Int):G0 D h∈D.AK::D.Ap:=by
 unfold G0;have z:=Jx h D.Ap.length;cases hx:Fl h D.Ap.length with
 | zero=>exact Bp ..
 | succ k=>
  rw[hx]at z;refine Bn _ ?_;dsimp only
  rw[HR,Ef (by omega)];exact BS _
def CW.a6(h:CW bd V ix sg cl lo)(H:∀nm c,V nm=some c->Cr c)(hl:(Az cl).length<=1099511627776):CW bd V ix sg (cl++lo.toList) none:=by
 cases lo with
 | none=>simpa using h
 | some y=>
  obtain⟨n,l⟩:=y;have⟨h1,h2,c,h3,h4⟩:=h.A8 n l rfl;refine⟨h.E2,h.Ii,h.segs,h.BT,λx z=>?_,h.Al.bS ?_,λn' l' e=>(by cases e),by simpa using h.Fj,λk I O W=>by simpa using h.CK k I O W,h.DZ,h.E9⟩
  ·rcases AU.1 z with z|z
   ·exact h.CQ x z
   ·simp at z;subst z;exact⟨h1,h2,c,h3,H _ _ h3⟩
  ·unfold IV;rw[h3];dsimp only
   rw[N1];exact h4.aT (by constructor<;>omega) h2
def DI.aW(h:DI bd P puts Ag o)(H:Int)(z:List Int)(hpl:puts.length<=1099511627776):
 DI bd (P.aW H z) puts Ag o/\∃n,Ag<=n/\n<=puts.length/\∀W q,o<=W->Ci W (puts.take n) q->DI bd (P.aW H z) q Ag W/\Reads bd (P.aW H z) q W:=by
 have hs:=U3 P.D H;generalize aB:G0 P.D H=s at hs;have hr:∀e∈s,0<=(P.F e.2).2/\(P.F e.2).2<=(P.F e.2).1.length:=λe he=>by
  have⟨ix,sg,cl,lo,nb,hL,_⟩:=h.E3 s hs;have hv:vw P.F s e.1.data.toList=some (P.F e.2):=by
   unfold vw;rw[Fm];cases hk:lookup s e.1 with
   | none=>exact absurd rfl (IP.1 hk e he)
   | some g=>
    have⟨i,hi,e1⟩:=Ee (Ea hk);have⟨j,hj,e2⟩:=Ee he;have:i=j:=JB (h.Cg s hs) (by simpa using hi) (by simpa using hj) (by simp[e1,e2]);subst this;rw[e1]at e2;rw[<-e2];rfl
  exact hL.E9 _ _ hv
 have aG:=A1s s z P.F hr;have aH:(P.aW H z).fl=vw (DU s z (dList s) P.F s.length) s:=by
  funext m
  unfold PD.aW PD.fl Fq vw;dsimp only
  rw[aB]
 have⟨ix,sg,cl,lo,n,hL,hd,n1,n2,n3⟩:=(h.E3 s hs).CP aG;rw[<-aH]at hL hd;have n4:=n3.2.2;rw[BU,AX,AX]at n4;have aE:(Az cl).length<=1099511627776:=by omega
 have hC:=hL.a6 hd aE;have O:Az (cl++lo.toList)=Az cl++EG lo:=by cases lo<;>simp[Az,EG]
 have hq:Ci o (Az sg++Az (cl++lo.toList)) (puts.take n):=by rw[O,<-C6];exact n3
 have hH:Holds bd (P.aW H z).fl puts Ag o:=⟨ix,sg,_,none,n,hC,n2,hq,λn' l e=>(by cases e),λ_=>n1⟩;have X:Br (P.aW H z)=[(P.aW H z).D.A6]:=by unfold Br PD.aW Fq;rfl
 have Y:(P.aW H z).D.A6=s:=by unfold PD.aW Fq;dsimp only;exact aB
 have mk:∀W q,Holds bd (P.aW H z).fl q Ag W->DI bd (P.aW H z) q Ag W:=λW q hq=>by
  refine⟨λx I=>?_,λx I=>?_,λx I=>?_,by rw[X];simp⟩
  ·rw[X]at I;simp at I;subst I;exact hq
  ·rw[X]at I;simp at I;subst I;rw[Y];exact h.As s hs
  ·rw[X]at I;simp at I;subst I;rw[Y];exact h.Cg s hs
 refine⟨mk o puts hH,n,n1,n2,λW q ho aA=>?_⟩;have aF:=(hq.eT ho).AJ aA;have aD:Ag<=q.length:=by
  have:=aA.2.2;rw[BU]at this;omega
 exact⟨mk W q (Holds.bz hC aF aD),Whole.bl ⟨ix,sg,_,none,hC,by rw[O,AX];omega,by simpa[EG] using aF⟩⟩
end
def DW(a b:Int):Prop:=a=5\/a=6\/a=b
section
variable{P Q:PD}{N R:Nat}{A:Ar}{J:Jn}
def S8{nm:ByteArray}(h:AQ P Q)(H:Cm Q (N+1) R):DW (P.af nm).1 (Q.af nm).1:=by
 have:=Hm P.D.n;unfold PD.af Cy;rw[h.A6];by_cases z:nm=ByteArray.empty\/B4 Q.D.A6 nm≥0
 ·rw[Ah z,Ah z];exact .inr (.inr rfl)
 ·rw[Ae z,Ae z];dsimp only
  rw[H.bg];rcases this with e|e
  ·exact .inr (.inr e)
  ·exact .inl e
def RZ{nm:ByteArray}(h:AQ P Q)(z:Cm Q (N+1) R):DW (P.aq nm).1 (Q.aq nm).1:=by
 have:=Hm P.D.n;unfold PD.aq Cx;rw[h.A6];cases lookup Q.D.A6 nm with
 | none=>exact .inr (.inr rfl)
 | some f=>
  dsimp only
  rw[z.bg];rcases this with e|e
  ·exact .inr (.inr e)
  ·exact .inl e
def Yx(h:Cm Q (N+1) R):DW P.aN.1 Q.aN.1:=by
 have:=Hm P.D.n;unfold PD.aN E4;dsimp only
 rw[h.bg];rcases this with e|e
 ·exact .inr (.inr e)
 ·exact .inl e
def YA{nm:ByteArray}(h:AQ P Q)(H:Cm Q (N+1) R):DW (P.aG nm).1 (Q.aG nm).1:=by
 have:=Hm P.D.n;unfold PD.aG Dx;rw[h.A6];by_cases z:B4 Q.D.A6 nm<0
 ·rw[Ah z,Ah z];exact .inr (.inr rfl)
 ·rw[Ae z,Ae z];dsimp only
  rw[H.bg];rcases this with e|e
  ·exact .inr (.inr e)
  ·exact .inl e
def Yz{old nm:ByteArray}(h:AQ P Q)(H:Cm Q (N+1) R):DW (P.aO old nm).1 (Q.aO old nm).1:=by
 have:=Hm P.D.n;unfold PD.aO CZ;rw[h.A6];cases lookup Q.D.A6 old with
 | none=>exact .inr (.inr rfl)
 | some f=>
  dsimp only
  by_cases z:nm=ByteArray.empty
  ·rw[Ah z,Ah z];exact .inr (.inr rfl)
  ·rw[Ae z,Ae z];dsimp only
   rw[H.bg];rcases this with e|e
   ·exact .inr (.inr e)
   ·exact .inl e
def or_append{nm:ByteArray}{l:Bs}(h:AQ P Q)(hc:Cm Q (N+1) R)(Y:l.length<=R):DW (P.al nm l).1 (Q.al nm l).1:=by
 by_cases z:(P.al nm l).1=0
 ·exact .inr (.inr (by rw[z,(h.al hc Y z).1]))
 ·have X:=Hm P.D.n;have H:∀D F f x I,∀e:Int,e=0\/e=5->(BI D F f x I e).1=5\/(BI D F f x I e).1=6\/(BI D F f x I e).1=0:=λD F f x I e he=>by
   unfold BI;rcases he with rfl|rfl
   ·split
    ·exact .inr (.inl rfl)
    ·exact .inr (.inr rfl)
   ·split
    ·exact .inl rfl
    ·exact .inl rfl
  unfold PD.al Bj at z ⊢;rw[h.A6]at z ⊢;cases hx:lookup Q.D.A6 nm with
  | none=>exact .inr (.inr rfl)
  | some f=>
   rw[hx]at z;dsimp only at z ⊢;split at z
   ·rename_i W;rw[Ah W];rcases H {A6:=Q.D.A6,AK:=P.D.AK,Ap:=P.D.Ap,n:=(bg P.D.n).2.2} P.F f (A9 l) (A9 l).size _ X with e|e|e
    ·exact .inl e
    ·exact .inr (.inl e)
    ·exact absurd e z
   ·rename_i W;rw[Ae W];split at z
    ·rename_i O;rw[Ah O];rcases H {A6:=Q.D.A6,AK:=P.D.AK,Ap:=P.D.Ap,n:=(bg P.D.n).2.2} P.F f (A9 l) ((bg P.D.n).2.2.BA % (A9 l).size) _ X with e|e|e
     ·exact .inl e
     ·exact .inr (.inl e)
     ·exact absurd e z
    ·rename_i O;rw[Ae O];rcases X with e|e
     ·exact absurd e z
     ·exact .inl e
def NN{nm:Bs}{s:Nat}{l:Bs}(h:AQ P Q)(H:Cm Q (N+1) R)(z:l.length+4<=R):DW (P.I (A9 nm) s l).2.1 (Q.I (A9 nm) s l).2.1:=or_append (l:=AT s l) h H (by rw[EN];exact z)
def DW.bj{a b:Int}(h:DW a b)(ha:¬a=0){c:Int}(z:b≠0->c=b):DW a c:=by
 rcases h with e|e|e
 ·exact .inl e
 ·exact .inr (.inl e)
 ·exact .inr (.inr (by rw[z (by omega)];exact e))
def RX{nm:Bs}{s:Nat}{l:Bs}(h:AQ P Q)(W:Cm Q (N+3) R)(O:l.length+4<=R):DW (P.aH nm s l).1 (Q.aH nm s l).1:=by
 unfold PD.aH;by_cases H:(P.af (A9 nm)).1=0
 ·have⟨a1,a2,a3⟩:=h.af (N:=N+2) W H;rw[Ae (nn H),Ae (nn a1)];by_cases z:((P.af (A9 nm)).2.I (A9 nm) s l).2.1=0
  ·obtain⟨-,X,Y,b3⟩:=a2.bU (N:=N+1) (nm:=nm) (s:=s) (l:=l) a3 O z;rw[Ae (nn z),Ae (nn X)];exact RZ Y b3
  ·rw[Ah z];refine(NN (N:=N+1) a2 a3 O).bj z λI=>?_;rw[Ah I]
 ·rw[Ah H];refine(S8 (N:=N+2) h W).bj H λI=>?_;rw[Ah I]
def RY:∀(l:List Bs) {P Q:PD},AQ P Q->Cm Q (N+l.length) R->DW (PD.av l P).1 (PD.av l Q).1
 | [],_,_,_,_=>.inr (.inr rfl)
 | nm::r,P,Q,h,hc=>by
  have z:Cm Q (N+r.length+1) R:=hc.ae (by simp;omega) (Aq _);unfold PD.av;by_cases H:(P.aq (A9 nm)).1=0
  ·have⟨a1,a2,a3⟩:=h.aq z H;rw[Ae (nn H),Ae (nn a1)];exact RY r a2 a3
  ·rw[Ah H];refine(RZ h z).bj H λI=>?_;rw[Ah I]
def S4:∀(l:List Bs) {P Q:PD},AQ P Q->Cm Q (N+l.length) R->DW (PD.aL l P).1 (PD.aL l Q).1
 | [],_,_,_,_=>.inr (.inr rfl)
 | nm::r,P,Q,h,hc=>by
  have z:Cm Q (N+r.length+1) R:=hc.ae (by simp;omega) (Aq _);unfold PD.aL;by_cases H:(P.aG (A9 nm)).1=0
  ·have⟨a1,a2,a3⟩:=h.aG z H;rw[Ae (nn H),Ae (nn a1)];exact S4 r a2 a3
  ·rw[Ah H];refine(YA h z).bj H λI=>?_;rw[Ah I]
def S3(h:AQ P Q)(H:Cm Q (N+A.AM.length) R):DW (A.aa P).1 (A.aa Q).1:=by
 unfold Ar.aa;by_cases z:(PD.av A.AM P).1=0
 ·have⟨a1,_⟩:=AQ.av A.AM h H z;rw[Ae (nn z),Ae (nn a1)];exact .inr (.inr rfl)
 ·rw[Ah z];refine(RY A.AM h H).bj z λI=>?_;rw[Ah I]
def S0(h:AQ P Q)(z:Cm Q (N+(A.aV Q).length) R):DW (A.aw P).1 (A.aw Q).1:=by
 unfold Ar.aw;rw[h.aV];exact S4 _ h z
def YE(h:AQ P Q)(O:Cm Q (N+2) R)(hR:12<=R):DW (J.au P).1 (J.au Q).1:=by
 unfold Jn.au;by_cases H:(P.af (A9 (Af (J.A8+1)))).1=0
 ·have⟨a1,a2,a3⟩:=h.af (N:=N+1) O H;rw[Ae (nn H),Ae (nn a1)];dsimp only
  by_cases z:((P.af (A9 (Af (J.A8+1)))).2.I (A9 (Af (J.A8+1))) (AB (Af (J.A8+1))) (AR J.puts)).2.1=0
  ·obtain⟨-,W,_⟩:=a2.bU (N:=N) (nm:=Af (J.A8+1)) (s:=AB (Af (J.A8+1))) (l:=AR J.puts) a3 (by rw[CD];omega) z;rw[Ae (nn z),Ae (nn W)];exact .inr (.inr rfl)
  ·rw[Ah z];refine(NN (N:=N) a2 a3 (by rw[CD];omega)).bj z λI=>?_;rw[Ah I]
 ·rw[Ah H];refine(S8 (N:=N+1) h O).bj H λI=>?_;rw[Ah I]
def S6(h:AQ P Q)(z:Cm Q (N+1) R)(hR:21<=R)(p:Pu):DW (J.ax P p).2.1 (J.ax Q p).2.1:=by
 unfold Jn.ax;cases J.AP with
 | none=>exact .inr (.inr rfl)
 | some x=>exact NN h z (by rw[EE];omega)
def YC(h:AQ P Q)(H:Cm Q (N+3) R)(hR:33<=R)(p:Pu):DW (J.I P p).2.1 (J.I Q p).2.1:=by
 unfold Jn.I;split
 ·by_cases z:(J.au P).1=0
  ·have⟨a1,a2,a3,a4⟩:=h.au (N:=N+1) H (by omega) z;rw[Ae (nn z),Ae (nn a1),a2];exact S6 a3 a4 (by omega) p
  ·rw[Ah z];refine(YE (N:=N+1) h H (by omega)).bj z λI=>?_;rw[Ah I]
 ·exact S6 (N:=N+2) h H (by omega) p
def YG(h:AQ P Q)(W:Cm Q (N+A.AM.length+3) R)(O:33<=R)(p:Pu):DW (A.I P p).2.1 (A.I Q p).2.1:=by
 have z:Cm Q (N+3+A.AM.length) R:=W.ae (by omega) (Aq _);unfold Ar.I;by_cases H:(A.aa P).1=0
 ·have⟨a1,a2,a3,a4⟩:=h.aa z H;rw[Ae (nn H),Ae (nn a1),a2];exact YC a3 a4 O p
 ·rw[Ah H];refine(S3 h z).bj H λI=>?_;rw[Ah I]
def S7:∀(fresh:List (List Pu)) (last:Int) (kept:List Int) {P Q:PD},AQ P Q->Cm Q (N+3*fresh.length) (R+CC fresh)->DW (PD.ah fresh last kept P).1 (PD.ah fresh last kept Q).1
 | [],_,_,_,_,_,_=>.inr (.inr rfl)
 | l::r,last,kept,P,Q,h,hc=>by
  have H:CC (l::r)=(17*l.length+4)+CC r:=by simp[CC]
  have hpl:(Cb l).length=17*l.length:=HC l;have I:Cm Q (N+3*r.length+3) (R+CC r+((Cb l).length+4)):=hc.ae (by simp;omega) (by rw[H];omega);have z:∀X:PD,PD.ah (l::r) last kept X=if (X.aI (last+1) l).1≠0 then ((X.aI (last+1) l).1,last+1,kept,(X.aI (last+1) l).2) else PD.ah r (last+1) (kept++[last+1]) (X.aI (last+1) l).2:=λ_=>rfl
  rw[z,z];by_cases O:(P.aI (last+1) l).1=0
  ·have⟨a1,a2,a3⟩:=AQ.aH (N:=N+3*r.length) h I (by omega) O;have W:(Q.aI (last+1) l).1=0:=a1;rw[Ae (nn O),Ae (nn W)];exact S7 r (last+1) _ a2 (a3.ae (Aq _) (by omega))
  ·rw[Ah O];refine(RX (N:=N+3*r.length) h I (by omega)).bj O λhq=>?_;have Y:(Q.aI (last+1) l).1≠0:=hq;rw[Ah Y];rfl
def YB{first:Int}{segs:List Int}(h:AQ P Q)(H:Cm Q (N+4) R)(hR:12+8*segs.length<=R):DW (P.ai first segs).1 (Q.ai first segs).1:=by
 have hl:(Co first segs).length=8+8*segs.length:=by unfold Co;rw[AX,CD,JO]
 unfold PD.ai;by_cases z:(P.aH Bl (AB AF) (Co first segs)).1=0
 ·have⟨a1,a2,a3⟩:=h.aH (N:=N+1) H (by omega) z;rw[Ae (nn z),Ae (nn a1)];exact Yz a2 a3
 ·rw[Ah z];refine(RX (N:=N+1) h H (by omega)).bj z λI=>?_;rw[Ah I]
def YF{segs:List Int}(h:AQ P Q)(I:Cm Q (N+4) R)(H:12+8*segs.length<=R):DW (A.ai P segs).1 (A.ai Q segs).1:=by
 unfold Ar.ai;split
 ·exact .inr (.inr rfl)
 ·by_cases z:(P.ai (A.j.A8+1) segs).1=0
  ·have⟨a1,_⟩:=h.cJ I H z;rw[Ae (nn z),Ae (nn a1)];exact .inr (.inr rfl)
  ·rw[Ah z];refine(YB h I H).bj z λO=>?_;rw[Ah O]
def YD(h:AQ P Q)(O:Cm Q (N+(A.aV Q).length+1) R):DW (A.a6 P).1 (A.a6 Q).1:=by
 have z:Cm Q (N+1+(A.aV Q).length) R:=O.ae (by omega) (Aq _);unfold Ar.a6;by_cases H:(A.aw P).1=0
 ·have⟨a1,a2,a3⟩:=h.aw z H;rw[Ae (nn H),Ae (nn a1)];exact Yx a3
 ·rw[Ah H];refine(S0 h z).bj H λI=>?_;rw[Ah I]
def Yy(h:AQ P Q)(kept:List Int)(fresh:List (List Pu))(hc:Cm Q (N+A.AM.length+2*Q.dl+4*fresh.length+8) (R+CC fresh+12+8*(kept.length+fresh.length))):DW (A.ay P kept fresh).1 (A.ay Q kept fresh).1:=by
 have Y:Cm Q (N+2*Q.dl+4*fresh.length+8+A.AM.length) (R+CC fresh+12+8*(kept.length+fresh.length)):=hc.ae (by omega) (Aq _);unfold Ar.ay;dsimp only
 by_cases h1:(A.aa P).1=0
 ·have⟨a1,a2,a3,a4⟩:=h.aa Y h1;rw[Ae (nn h1),Ae (nn a1),a2];have d1:(A.aa Q).2.2.dl=Q.dl:=by unfold Ar.aa;split<;>exact OG _ _
  have o1:=LO (A.aa Q).2.1 (A.aa Q).2.2;have I:Cm (A.aa Q).2.2 (N+Q.dl+4*fresh.length+8+((A.aa Q).2.1.aV (A.aa Q).2.2).length) (R+CC fresh+12+8*(kept.length+fresh.length)):=a4.ae (by omega) (Aq _);by_cases h2:((A.aa Q).2.1.aw (A.aa P).2.2).1=0
  ·have⟨b1,b2,b3⟩:=a3.aw I h2;(have d2:((A.aa Q).2.1.aw (A.aa Q).2.2).2.dl<=Q.dl:=by rw[<-d1];exact OH _ _);rw[Ae (nn h2),Ae (nn b1)];have X:Cm ((A.aa Q).2.1.aw (A.aa Q).2.2).2 (N+Q.dl+fresh.length+8+3*fresh.length) (R+12+8*(kept.length+fresh.length)+CC fresh):=b3.ae (by omega) (by omega);by_cases h3:(PD.ah fresh (A.aa Q).2.1.A8 kept ((A.aa Q).2.1.aw (A.aa P).2.2).2).1=0
   ·have⟨c1,c2,c3,c4,c5⟩:=AQ.ah fresh (A.aa Q).2.1.A8 kept b2 X h3;have⟨d3,d4⟩:=Mn fresh (A.aa Q).2.1.A8 kept ((A.aa Q).2.1.aw (A.aa Q).2.2).2;rw[Ae (nn h3),Ae (nn c1),c2,c3];obtain⟨O,aE⟩:∃O:Ar,({ (A.aa Q).2.1 with A8:=(PD.ah fresh (A.aa Q).2.1.A8 kept ((A.aa Q).2.1.aw (A.aa Q).2.2).2).2.1}:Ar)=O:=⟨_,rfl⟩;rw[aE];obtain⟨sg,aD⟩:∃sg,(PD.ah fresh (A.aa Q).2.1.A8 kept ((A.aa Q).2.1.aw (A.aa Q).2.2).2).2.2.1=sg:=⟨_,rfl⟩;rw[aD]at d4 ⊢;obtain⟨aF,W⟩:∃aF,(PD.ah fresh (A.aa Q).2.1.A8 kept ((A.aa Q).2.1.aw (A.aa P).2.2).2).2.2.2=aF:=⟨_,rfl⟩;obtain⟨aA,z⟩:∃aA,(PD.ah fresh (A.aa Q).2.1.A8 kept ((A.aa Q).2.1.aw (A.aa Q).2.2).2).2.2.2=aA:=⟨_,rfl⟩;rw[W]at c4;rw[W,z];rw[z]at c4 c5 d3;clear W z aE aD h3 c1 c2 c3 h2 b1 b2 b3 h1 a1 a2 a3 a4 Y I X;have aB:Cm aA (N+Q.dl+fresh.length+4+4) (R+12+8*(kept.length+fresh.length)):=c5.ae (by omega) (Aq _);by_cases h4:(O.ai aF sg).1=0
    ·have⟨e1,e2,e3,e4⟩:=c4.cx (A:=O) (segs:=sg) aB (by omega) h4;have d5:=TQ O aA sg;rw[Ae (nn h4),Ae (nn e1),e2];have o2:=LO (O.ai aA sg).2.1 (O.ai aA sg).2.2;exact YD (N:=N) e3 (e4.ae (by omega) (Aq _))
    ·rw[Ah h4];refine(YF c4 aB (by omega)).bj h4 λH=>?_;rw[Ah H]
   ·rw[Ah h3];refine(S7 fresh (A.aa Q).2.1.A8 kept b2 X).bj h3 λH=>?_;rw[Ah H]
  ·rw[Ah h2];refine(S0 a3 I).bj h2 λH=>?_;rw[Ah H]
 ·rw[Ah h1];refine(S3 h Y).bj h1 λH=>?_;rw[Ah H]
end
section
variable{bd:Int×Int}{P P':PD}{A:Ar}{sg cl:List (Int×List Pu)}{ol:Option (List Pu)}{puts:List Pu}{Ag:Nat}{o:Int}
def DW.dL{a b:Int}(h:DW a b)(z:b=0):a=0\/a=5\/a=6:=by
 rcases h with e|e|e
 ·exact .inr (.inl e)
 ·exact .inr (.inr e)
 ·exact .inl (e.trans z)
def SI.eP(h:SI bd A P puts Ag o sg cl ol)(I:ol=none->isNum (A.j.A8+1)=true)(p:Pu)(H:B8 p)(hll:A.AM.length<=1099511627776):(A.I P p).2.1=0\/(A.I P p).2.1=5\/(A.I P p).2.1=6:=by
 have z:Cm P.aS (0+A.AM.length+3) 33:=h.di.bq.aS.ae (by omega) (by omega);refine(YG (AQ.aS P) z (Aq _) p).dL ?_;exact((h.B7.az (P':=P.aS) λm=>((AQ.aS P).bs m).symm).I z I p H (Aq _)).2.1
def SI.fC{Ay:Int}(h:SI bd A P puts Ag o sg cl ol)(W:BX (AE Ay))(hn:isNum (A.j.A8+1)=true){n:Nat}(hcount:(Cl sg cl ol).length<=n)(hn2:n<=1073741824)(H:A.A8+n<=4611686018427387904)(hbig:A.AM.length+P.Av.length+A.j.Al.length+2*sg.length<=1073741824):(A.aQ P Ay).1=0\/(A.aQ P Ay).1=5\/(A.aQ P Ay).1=6:=by
 have hl0:(Cl sg cl ol).length=(Az sg).length+(Az cl++ol.getD []).length:=by unfold Cl;rw[AX]
 have hL:=h.B7.az (P':=P.aS) λm=>((AQ.aS P).bs m).symm
 have X:=h.di.bq.aS;have O:P.aS.Av.length<=1073741824:=by
  have e:P.aS.Av=P.Av:=rfl;rw[e];omega
 have Y:=(hL.aQ W (N:=0) (R:=0) (K:=1073741824) (n:=n) (by omega) (by omega) O (by omega) (by omega) (by omega) (X.ae (by omega) (by omega)) hn H).1;refine DW.dL (b:=(A.aQ P.aS Ay).1) ?_ Y;have hp:=h.B7.puts h.DG;have z:=JK W (Az cl++ol.getD []);have hfl:=IX z.ne;have hfl2:=z.Bi;have hcost:=Kt (Dd Ay (Az cl++ol.getD []));have hsg:A.ix.segs.length=sg.length:=by rw[<-h.B7.segs,H9]
 have I:P.aS.dl=P.Av.length:=by rw[IZ];rfl
 unfold Ar.aQ;rw[<- (AQ.aS P).puts,hp,Ae (by simp),Ae (by simp)];exact Yy (N:=0) (R:=0) (AQ.aS P) _ _ (X.ae (by rw[I];dsimp only;omega) (by dsimp only;omega))
end
end
end Go.Proofs.YtodcnkbblippnabGreatDoor
