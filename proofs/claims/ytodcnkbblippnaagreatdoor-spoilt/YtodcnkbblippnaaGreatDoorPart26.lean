/- Part 26 of a proof: walks of the program. -/
import Derived.Test.YtodcnkbblippnaaGreatDoorPart25
namespace Go.Proofs.YtodcnkbblippnaaGreatDoor
set_option maxRecDepth 100000
set_option maxHeartbeats 32000000
set_option linter.defProp false
open Go.Proofs.Tryz
section
open Go.RowKit
structure AG (P Q:PD):Prop where
 A4:P.D.A4=Q.D.A4
 AI:P.D.AI=Q.D.AI
 As:P.D.As=Q.D.As
 Eu:P.F=Q.F
structure Gc (P:PD):Prop where
 Ap:(P.D.A4.map (·.2)).Nodup
 Cj:(P.D.A4.map (·.1)).Nodup
def PD.aQ(P:PD):PD:=⟨{P.D with n:=⟨(B6 P.F P.D.A4:Int)+4611686018427387904,0,0,0,0,0,0,false⟩},P.F⟩
def AG.aQ(P:PD):AG P P.aQ:=⟨rfl,rfl,rfl,rfl⟩
def Gc.aQ{P:PD}(h:Gc P):Cm P.aQ 4611686018427387904 4611686018427387904:=
 ⟨rfl,rfl,rfl,⟨by simp[PD.aQ],by simp[PD.aQ]⟩,by simp[PD.aQ],h.Ap,h.Cj⟩
def H8{n:DN}(h:(bg n).2.1=0):(bg n).1=true:=by
 unfold bg at h ⊢;dsimp only at h ⊢;split at h
 ·cases h
 ·split at h
  ·cases h
  ·split at h
   ·cases h
   ·rename_i z d E;rw[Aa z,Aa d,Aa E]
section
variable{P Q:PD}{N R:Nat}{nm oe:gg}
def AG.AR(h:AG P Q):P.D.AR=Q.D.AR:=by unfold DS.AR;rw[h.A4,h.AI,h.As]
def AG.fl(h:AG P Q)(m:Bs):P.fl m=Q.fl m:=by unfold PD.fl;rw[h.A4,h.Eu]
def AG.bs(h:AG P Q)(m:Bs):P.bs m=Q.bs m:=by unfold PD.bs;rw[h.fl]
def AG.ai(h:AG P Q)(H:Cm Q (N+1) R)(d:(P.ai nm).1=0):(Q.ai nm).1=0/\AG (P.ai nm).2 (Q.ai nm).2/\Cm (Q.ai nm).2 N R:=by
 have L:=h.AR;unfold PD.ai CN at d ⊢;rw[h.A4]at d ⊢;by_cases z:nm=ByteArray.empty\/B5 Q.D.A4 nm≥0
 ·rw[Ae z]at d;cases d
 ·rw[Aa z]at d;rw[Aa z,Aa z];dsimp only at d ⊢;rw[H8 d,H.bg,L,h.Eu];dsimp only
  rw[Ae rfl,Ae rfl];refine⟨rfl,⟨rfl,h.AI,by dsimp only;rw[h.As],rfl⟩,?_⟩;have E:¬nm=ByteArray.empty:=λe=>z (.inl e);have W:lookup Q.D.A4 nm=none:=(IT _ _).1 (by (have:¬B5 Q.D.A4 nm≥0:=λe=>z (.inr e));omega);have I:=FO nm;have O:Q.fl nm.data.toList=none:=by unfold PD.fl;rw[I,W];rfl
  have:=(Cm.ai (nm:=nm.data.toList) H O (λe=>E (by rw[<-I,e];rfl))).2.1;rw[I]at this;unfold PD.ai CN at this;rw[Aa z]at this;dsimp only at this;rw[H.bg]at this;simpa using this
def AG.ad(h:AG P Q)(z:Cm Q (N+1) R)(d:(P.ad nm).1=0):(Q.ad nm).1=0/\AG (P.ad nm).2 (Q.ad nm).2/\Cm (Q.ad nm).2 N R:=by
 have E:=FO nm;have key:lookup Q.D.A4 nm≠none->Cm (Q.ad nm).2 N R:=λH=>by
  cases hx:lookup Q.D.A4 nm with
  | none=>exact absurd hx H
  | some f=>
   have:=(Cm.ad (nm:=nm.data.toList) (c:=Q.F f) z (by unfold PD.fl;rw[E,hx];rfl)).2.1
   rwa [E]at this
 unfold PD.ad Cq at d key ⊢;rw[h.A4]at d ⊢;cases hx:lookup Q.D.A4 nm with
 | none=>rw[hx]at d;cases d
 | some f=>
  rw[hx]at d key;dsimp only at d key ⊢;rw[d,Ae rfl];rw[z.bg]at key ⊢;dsimp only at key ⊢;rw[Ae rfl]at key ⊢;exact⟨rfl,⟨rfl,h.AI,h.As,by dsimp only;rw[h.Eu]⟩,key (by simp)⟩
def AG.av(h:AG P Q)(z:Cm Q (N+1) R)(d:P.av.1=0):Q.av.1=0/\AG P.av.2 Q.av.2/\Cm Q.av.2 N R:=by
 have key:=z.av.2.1;refine⟨z.av.1,?_,key⟩;unfold PD.av DC at d ⊢;dsimp only at d ⊢;rw[d,Ae rfl,z.bg];dsimp only
 rw[Ae rfl];exact⟨h.A4,h.A4,rfl,h.Eu⟩
def AG.aG(h:AG P Q)(E:Cm Q (N+1) R)(d:(P.aG nm).1=0):(Q.aG nm).1=0/\AG (P.aG nm).2 (Q.aG nm).2/\Cm (Q.aG nm).2 N R:=by
 have H:=FO nm;have key:lookup Q.D.A4 nm≠none->(Q.aG nm).1=0/\Cm (Q.aG nm).2 N R:=λI=>by
  cases z:lookup Q.D.A4 nm with
  | none=>exact absurd z I
  | some f=>
   have:=(Cm.aG (nm:=nm.data.toList) (c:=Q.F f) E (by unfold PD.fl;rw[H,z];rfl));rw[H]at this;exact⟨this.1,this.2.1⟩
 have z:¬B5 Q.D.A4 nm<0:=λz=>by
  unfold PD.aG Dn at d;rw[h.A4,Ae z]at d;cases d
 have⟨k1,k2⟩:=key λe=>z ((IT _ _).2 e);refine⟨k1,?_,k2⟩;unfold PD.aG Dn at d ⊢;rw[h.A4,Aa z]at d;rw[h.A4,Aa z,Aa z];dsimp only at d ⊢;rw[H8 d,E.bg];dsimp only
 rw[Ae rfl,Ae rfl];exact⟨rfl,h.AI,by dsimp only;rw[h.As],h.Eu⟩
def AG.aM(h:AG P Q)(I:Cm Q (N+1) R)(L:oe≠nm)(d:(P.aM oe nm).1=0):(Q.aM oe nm).1=0/\AG (P.aM oe nm).2 (Q.aM oe nm).2/\Cm (Q.aM oe nm).2 N R:=by
 have H:=FO nm;have E:=FO oe;unfold PD.aM CU at d;rw[h.A4]at d;cases hx:lookup Q.D.A4 oe with
 | none=>rw[hx]at d;cases d
 | some f=>
  rw[hx]at d;dsimp only at d;by_cases z:nm=ByteArray.empty
  ·rw[Ae z]at d;cases d
  ·rw[Aa z]at d;dsimp only at d;have key:=Cm.aM (nm:=nm.data.toList) (oe:=oe.data.toList) (c:=Q.F f) I (by unfold PD.fl;rw[E,hx];rfl) (λe=>z (by rw[<-H,e];rfl)) (λe=>L (by rw[<-H,<-E,e]));rw[H,E]at key;refine⟨key.1,?_,key.2.1⟩;unfold PD.aM CU;rw[h.A4,hx];dsimp only
   rw[Aa z,Aa z];dsimp only
   rw[H8 d,I.bg];dsimp only
   rw[Ae rfl,Ae rfl];exact⟨rfl,h.AI,by dsimp only;rw[h.As],h.Eu⟩
def AG.ak{l:Bs}(h:AG P Q)(W:Cm Q (N+1) R)(hl:l.length<=R)(d:(P.ak nm l).1=0):(Q.ak nm l).1=0/\AG (P.ak nm l).2 (Q.ak nm l).2/\Cm (Q.ak nm l).2 N (R-l.length):=by
 have hn:=FO nm;have O:¬(bg P.D.n).2.1≠0:=λz=>by
  unfold PD.ak Bj at d;rw[h.A4]at d;cases hx:lookup Q.D.A4 nm with
  | none=>rw[hx]at d;cases d
  | some f=>
   rw[hx]at d;dsimp only at d;have E:∀D Y,(Bw D P.F f (A6 l) Y (bg P.D.n).2.1).1≠0:=λD Y=>by
    unfold Bw;split
    ·dsimp only;first|exact z|(rw[Aa z];exact z)
    ·exact z
   split at d
   ·exact E _ _ d
   ·split at d
    ·exact E _ _ d
    ·exact z d
 have z:(bg P.D.n).2.1=0:=by
  by_cases e:(bg P.D.n).2.1=0
  ·exact e
  ·exact absurd e O
 cases hx:lookup Q.D.A4 nm with
 | none=>
  unfold PD.ak Bj at d;rw[h.A4,hx]at d;cases d
 | some f=>
  have key:=Cm.ak (nm:=nm.data.toList) (c:=Q.F f) W (by unfold PD.fl;rw[hn,hx];rfl) l hl;rw[hn]at key;refine⟨key.1,?_,key.2.1⟩;have I:∀D:DS,D.A4=Q.D.A4->D.n.AA=Q.D.n.AA->¬((A6 l).size:Int)>Fv D Q.F:=λD h1 L=>by
   have:=W.AA;unfold Fv;rw[h1,L,Kc];omega
  unfold PD.ak Bj at d ⊢;rw[h.A4,hx]at d;rw[h.A4,hx];dsimp only at d ⊢;rw[H8 z,Ae rfl,z]at d;rw[H8 z,Ae rfl,z,W.bg];dsimp only
  rw[Ae rfl];unfold Bw at d ⊢;split at d
  ·simp at d
  ·rename_i H;rw[Aa H];split
   ·rename_i L;exact absurd L (I _ rfl rfl)
   ·exact⟨rfl,h.AI,h.As,by dsimp only;rw[h.Eu]⟩
end
def nn{x:Int}(h:x=0):¬x≠0:=λk=>k h
section
variable{P Q:PD}{N R:Nat}{nm oe:Bs}{A:Ar}{J:Jn}
def AG.Ai(h:AG P Q):P.Ai=Q.Ai:=by unfold PD.Ai;rw[h.A4]
def AG.aV(h:AG P Q):A.aV P=A.aV Q:=by unfold Ar.aV;rw[h.Ai]
def AG.aU(h:AG P Q)(n a:Int):P.aU n a=Q.aU n a:=by
 unfold PD.aU Gi DQ;rw[h.A4,h.Eu]
def AG.a1(h:AG P Q):∀(l:gh Int) (d:gh Pu),P.a1 l d=Q.a1 l d
 | [],_=>rfl
 | n::r,d=>by simp only[PD.a1];rw[h.aU,h.a1 r]
def AG.pd(h:AG P Q)(l:gh Int):P.pd l=Q.pd l:=h.a1 l []
def AG.Ck(h:AG P Q)(m:Bs):P.Ck m=Q.Ck m:=by unfold PD.Ck DQ;rw[h.A4,h.Eu]
def AG.aS(h:AG P Q)(m:Bs):P.aS m=Q.aS m:=by unfold PD.aS;rw[h.Ck]
def AG.BN(h:AG P Q)(n:Int):P.BN n=Q.BN n:=by unfold PD.BN;rw[h.aS]
def AG.sd(h:AG P Q):∀l:gh Int,P.sd l=Q.sd l
 | []=>rfl
 | n::r=>by simp only[PD.sd];rw[h.BN,h.sd r]
def AG.bV{s:Nat}{l:Bs}(h:AG P Q)(E:Cm Q (N+1) R)(hl:l.length+4<=R)(d:(P.ae (A6 nm) s l).2.1=0):
 (P.ae (A6 nm) s l).1=(Q.ae (A6 nm) s l).1/\(Q.ae (A6 nm) s l).2.1=0/\AG (P.ae (A6 nm) s l).2.2 (Q.ae (A6 nm) s l).2.2/\Cm (Q.ae (A6 nm) s l).2.2 N (R-(l.length+4)):=by
 have z:=EL s l;have⟨a1,a2,a3⟩:=h.ak (nm:=A6 nm) (l:=AS s l) E (by omega) d;rw[z]at a3;refine⟨?_,a1,a2,a3⟩;have e:∀X:PD,(X.ae (A6 nm) s l).1=decide ((Cz (X.ak (A6 nm) (AS s l)).2.D (X.ak (A6 nm) (AS s l)).2.F (A6 nm)).1-(Cz X.D X.F (A6 nm)).1=(AS s l).length):=λX=>rfl;rw[e P,e Q];unfold Cz;rw[a2.A4,a2.Eu,h.A4,h.Eu]
def AG.aH{s:Nat}{l:Bs}(h:AG P Q)(W:Cm Q (N+3) R)(I:l.length+4<=R)(d:(P.aH nm s l).1=0):
 (Q.aH nm s l).1=0/\AG (P.aH nm s l).2 (Q.aH nm s l).2/\Cm (Q.aH nm s l).2 N (R-(l.length+4)):=by
 unfold PD.aH at d ⊢;by_cases E:(P.ai (A6 nm)).1=0
 ·rw[Aa (nn E)]at d;have⟨a1,a2,a3⟩:=h.ai (N:=N+2) (nm:=A6 nm) W E;by_cases z:((P.ai (A6 nm)).2.ae (A6 nm) s l).2.1=0
  ·rw[Aa (nn z)]at d;obtain⟨-,H,L,O⟩:=a2.bV (N:=N+1) (nm:=nm) a3 I z;have⟨c1,c2,c3⟩:=L.ad (N:=N) (nm:=A6 nm) O d;rw[Aa (nn E),Aa (nn z),Aa (nn a1),Aa (nn H)];exact⟨c1,c2,c3⟩
  ·rw[Ae z]at d;exact absurd d z
 ·rw[Ae E]at d;exact absurd d E
def AG.az:∀(l:gh Bs) {P Q:PD},AG P Q->Cm Q (N+l.length) R->(PD.az l P).1=0->(PD.az l Q).1=0/\AG (PD.az l P).2 (PD.az l Q).2/\Cm (PD.az l Q).2 N R
 | [],P,Q,h,hc,_=>⟨rfl,h,hc⟩
 | x::r,P,Q,h,hc,hok=>by
  unfold PD.az at hok ⊢;by_cases d:(P.ad (A6 x)).1=0
  ·rw[Aa (nn d)]at hok;obtain⟨E,z,H⟩:=h.ad (N:=N+r.length) (nm:=A6 x) (by simpa[Nat.add_assoc] using hc) d;rw[Aa (nn d),Aa (nn E)];exact AG.az r z H hok
  ·rw[Ae d]at hok;exact absurd hok d
def AG.aK:∀(l:gh Bs) {P Q:PD},AG P Q->Cm Q (N+l.length) R->(PD.aK l P).1=0->(PD.aK l Q).1=0/\AG (PD.aK l P).2 (PD.aK l Q).2/\Cm (PD.aK l Q).2 N R
 | [],P,Q,h,hc,_=>⟨rfl,h,hc⟩
 | x::r,P,Q,h,hc,hok=>by
  unfold PD.aK at hok ⊢;by_cases d:(P.aG (A6 x)).1=0
  ·rw[Aa (nn d)]at hok;obtain⟨E,z,H⟩:=h.aG (N:=N+r.length) (nm:=A6 x) (by simpa[Nat.add_assoc] using hc) d;rw[Aa (nn d),Aa (nn E)];exact AG.aK r z H hok
  ·rw[Ae d]at hok;exact absurd hok d
def AG.C(h:AG P Q)(E:Cm Q (N+A.AN.length) R)(d:(A.C P).1=0):(A.C Q).1=0/\(A.C P).2.1=(A.C Q).2.1/\AG (A.C P).2.2 (A.C Q).2.2/\Cm (A.C Q).2.2 N R:=by
 unfold Ar.C at d ⊢;by_cases z:(P.az A.AN).1=0
 ·have⟨a1,a2,a3⟩:=AG.az A.AN h E z;rw[Aa (nn z),Aa (nn a1)];exact⟨rfl,rfl,a2,a3⟩
 ·rw[Ae z]at d;exact absurd d z
def AG.au(h:AG P Q)(z:Cm Q (N+(A.aV Q).length) R)(d:(A.au P).1=0):(A.au Q).1=0/\AG (A.au P).2 (A.au Q).2/\Cm (A.au Q).2 N R:=by
 unfold Ar.au at d ⊢;rw[h.aV]at d ⊢;exact AG.aK _ h z d
def AG.aw(h:AG P Q)(O:Cm Q (N+2) R)(hR:12<=R)(d:(J.aw P).1=0):(J.aw Q).1=0/\(J.aw P).2.1=(J.aw Q).2.1/\AG (J.aw P).2.2 (J.aw Q).2.2/\Cm (J.aw Q).2.2 N (R-12):=by
 unfold Jn.aw at d ⊢;by_cases z:(P.ai (A6 (Af (J.A8+1)))).1=0
 ·rw[Aa (nn z)]at d;have⟨a1,a2,a3⟩:=h.ai (N:=N+1) O z;dsimp only at d ⊢;by_cases E:((P.ai (A6 (Af (J.A8+1)))).2.ae (A6 (Af (J.A8+1))) (AB (Af (J.A8+1))) (AO J.pd)).2.1=0
  ·obtain⟨-,I,L,H⟩:=a2.bV (N:=N) (nm:=Af (J.A8+1)) (s:=AB (Af (J.A8+1))) (l:=AO J.pd) a3 (by rw[CQ];omega) E;rw[CQ]at H;rw[Aa (nn z),Aa (nn E),Aa (nn a1),Aa (nn I)];exact⟨rfl,rfl,L,H⟩
  ·rw[Ae E]at d;exact absurd d E
 ·rw[Ae z]at d;exact absurd d z
def AG.ax(h:AG P Q)(z:Cm Q (N+1) R)(hR:21<=R)(p:Pu)(d:(J.ax P p).2.1=0):(J.ax P p).1=(J.ax Q p).1/\(J.ax Q p).2.1=0/\(J.ax P p).2.2.1=(J.ax Q p).2.2.1/\AG (J.ax P p).2.2.2 (J.ax Q p).2.2.2/\Cm (J.ax Q p).2.2.2 N (R-21):=by
 unfold Jn.ax at d ⊢;cases hx:J.AE with
 | none=>exact⟨rfl,rfl,rfl,h,z.af (by omega) (by omega)⟩
 | some x=>
  obtain⟨n,s⟩:=x;rw[hx]at d;dsimp only at d ⊢;have⟨b0,b1,b2,b3⟩:=h.bV (N:=N) (nm:=Af n) z (by rw[F7];omega) d;rw[F7]at b3;exact⟨b0,b1,rfl,b2,b3⟩
def AG.eX(h:AG P Q)(z:Cm Q (N+1) R)(d:(J.ad P).1=0):(J.ad Q).1=0/\AG (J.ad P).2 (J.ad Q).2/\Cm (J.ad Q).2 N R:=by
 unfold Jn.ad at d ⊢;cases hx:J.AE with
 | none=>exact⟨rfl,h,z.af (by omega) (Ao _)⟩
 | some x=>
  obtain⟨n,s⟩:=x;rw[hx]at d;exact h.ad (N:=N) z d
def AG.aj:∀(I:gh (gh Pu)) (d:Int) (E:gh Int) {P Q:PD},AG P Q->Cm Q (N+3*I.length) (R+Dr I)->(PD.aj I d E P).1=0->
 (PD.aj I d E Q).1=0/\(PD.aj I d E P).2.1=(PD.aj I d E Q).2.1/\(PD.aj I d E P).2.2.1=(PD.aj I d E Q).2.2.1/\AG (PD.aj I d E P).2.2.2 (PD.aj I d E Q).2.2.2/\Cm (PD.aj I d E Q).2.2.2 N R
 | [],d,E,P,Q,h,hc,_=>⟨rfl,rfl,rfl,h,by simpa[Dr,PD.aj] using hc⟩
 | l::r,d,E,P,Q,h,hc,hok=>by
  have H:Dr (l::r)=(17*l.length+4)+Dr r:=by simp[Dr]
  have z:∀X:PD,PD.aj (l::r) d E X=if (X.aI (d+1) l).1≠0 then ((X.aI (d+1) l).1,d+1,E,(X.aI (d+1) l).2) else PD.aj r (d+1) (E++[d+1]) (X.aI (d+1) l).2:=λ_=>rfl
  rw[z P]at hok;rw[z P,z Q];by_cases L:(P.aI (d+1) l).1=0
  ·rw[Aa (nn L)]at hok;have⟨a1,a2,a3⟩:=AG.aH (N:=N+3*r.length) (R:=R+Dr (l::r)) (nm:=Aw (d+1)) (s:=AB (Aw (d+1))) (l:=Ci l) h (hc.af (by simp;omega) (Ao _)) (by rw[ID,H];omega) L;rw[ID]at a3;have O:(Q.aI (d+1) l).1=0:=a1;rw[Aa (nn L),Aa (nn O)];exact AG.aj r (d+1) (E++[d+1]) a2 (a3.af (Ao _) (by rw[H];omega)) hok
  ·rw[Ae L]at hok;exact absurd hok L
def AG.cO{first:Int}{sd:gh Int}(h:AG P Q)(H:Cm Q (N+4) R)(hR:12+8*sd.length<=R)(d:(P.ah first sd).1=0):(Q.ah first sd).1=0/\AG (P.ah first sd).2 (Q.ah first sd).2/\Cm (Q.ah first sd).2 N (R-(12+8*sd.length)):=by
 have E:(Cl first sd).length=8+8*sd.length:=by unfold Cl;rw[AY,CQ,JB]
 unfold PD.ah at d ⊢;by_cases z:(P.aH Bm (AB Ay) (Cl first sd)).1=0
 ·rw[Aa (nn z)]at d;have⟨a1,a2,a3⟩:=h.aH (N:=N+1) H (by omega) z;have⟨b1,b2,b3⟩:=a2.aM (N:=N) a3 (λe=>JA (FN.1 e).symm) d;rw[Aa (nn z),Aa (nn a1)];exact⟨b1,b2,by rw[E]at b3;exact b3.af (Ao _) (by omega)⟩
 ·rw[Ae z]at d;exact absurd d z
def AG.cw{sd:gh Int}(h:AG P Q)(H:Cm Q (N+4) R)(I:12+8*sd.length<=R)(d:(A.ah P sd).1=0):(A.ah Q sd).1=0/\(A.ah P sd).2.1=(A.ah Q sd).2.1/\AG (A.ah P sd).2.2 (A.ah Q sd).2.2/\Cm (A.ah Q sd).2.2 N (R-(12+8*sd.length)):=by
 unfold Ar.ah at d ⊢;by_cases z:A.ix.AZ=A.j.A8+1/\A.ix.sd=sd
 ·rw[Ae z,Ae z];exact⟨rfl,rfl,h,H.af (by omega) (by omega)⟩
 ·rw[Aa z]at d;rw[Aa z,Aa z];by_cases E:(P.ah (A.j.A8+1) sd).1=0
  ·have⟨a1,a2,a3⟩:=h.cO H I E;rw[Aa (nn E),Aa (nn a1)];exact⟨rfl,rfl,a2,a3⟩
  ·rw[Ae E]at d;exact absurd d E
end
def PD.dl(P:PD):Nat:=P.D.A4.length
def HJ(P:PD):P.Ai.length=P.dl:=by
 unfold PD.Ai PD.dl;rw[FW,(LW P.D.A4).length_eq,FW]
def A2M(P:PD)(nm:gg):(P.ai nm).2.dl<=P.dl+1:=by
 unfold PD.dl PD.ai CN;split
 ·exact Hq _
 ·dsimp only;split
  ·simp
  ·exact Hq _
def A2O(P:PD)(f:Nat)(x:gg)(d e:Int):(Bw P.D P.F f x d e).2.1.A4=P.D.A4:=by
 unfold Bw;split
 ·dsimp only;split<;>rfl
 ·rfl
def A2N(P:PD)(nm:gg)(l:Bs):(P.ak nm l).2.dl=P.dl:=by
 unfold PD.dl PD.ak Bj;cases lookup P.D.A4 nm with
 | none=>rfl
 | some f=>
  dsimp only
  have h:∀d e,(Bw {P.D with n:=(bg P.D.n).2.2} P.F f (A6 l) d e).2.1.A4=P.D.A4:=λd e=>A2O ⟨{P.D with n:=(bg P.D.n).2.2},P.F⟩ f (A6 l) d e;split
  ·rw[h]
  ·split
   ·rw[h]
   ·rfl
def Vm(P:PD)(nm:gg):(P.ad nm).2.dl=P.dl:=by
 unfold PD.dl PD.ad Cq;cases lookup P.D.A4 nm<;>rfl
def Vo(P:PD)(nm:gg):(P.aG nm).2.dl<=P.dl:=by
 unfold PD.dl PD.aG Dn;split
 ·exact Ao _
 ·dsimp only;split
  ·dsimp only;rw[AY,BT,CO];omega
  ·exact Ao _
def Vn(P:PD)(oe nm:gg):(P.aM oe nm).2.dl<=P.dl+1:=by
 unfold PD.dl PD.aM CU;cases lookup P.D.A4 oe with
 | none=>exact Hq _
 | some f=>
  dsimp only
  split
  ·exact Hq _
  ·dsimp only;split
   ·dsimp only
    have:=OS P.D.A4 (B5 P.D.A4 oe).toNat nm P.D.A4.length;rw[AY];simp;omega
   ·exact Hq _
def LU(P:PD)(nm:Bs)(s:Nat)(l:Bs):(P.aH nm s l).2.dl<=P.dl+1:=by
 have d:=A2M P (A6 nm);have h:((P.ai (A6 nm)).2.ae (A6 nm) s l).2.2.dl=(P.ai (A6 nm)).2.dl:=A2N _ _ _;unfold PD.aH;split
 ·exact d
 ·split
  ·rw[h];exact d
  ·rw[Vm,h];exact d
def Nd:∀(l:gh Bs) (P:PD),(PD.aK l P).2.dl<=P.dl
 | [],P=>Ao _
 | x::r,P=>by
  have d:=Vo P (A6 x);unfold PD.aK;split
  ·exact d
  ·exact AJ (Nd r _) d
def Qa:∀(l:gh Bs) (P:PD),(PD.az l P).2.dl=P.dl
 | [],P=>rfl
 | x::r,P=>by
  have d:=Vm P (A6 x);unfold PD.az;split
  ·exact d
  ·exact(Qa r _).trans d
def Kr:∀(E:gh (gh Pu)) (d:Int) (h:gh Int) (P:PD),(PD.aj E d h P).2.2.2.dl<=P.dl+E.length/\(PD.aj E d h P).2.2.1.length<=h.length+E.length
 | [],d,h,P=>⟨Ao _,by simp[PD.aj]⟩
 | l::r,d,h,P=>by
  have h1:(P.aI (d+1) l).2.dl<=P.dl+1:=LU _ _ _ _;have z:PD.aj (l::r) d h P=if (P.aI (d+1) l).1≠0 then ((P.aI (d+1) l).1,d+1,h,(P.aI (d+1) l).2) else PD.aj r (d+1) (h++[d+1]) (P.aI (d+1) l).2:=rfl
  rw[z];split
  ·exact⟨by simp;omega,by simp⟩
  ·have⟨i1,i2⟩:=Kr r (d+1) (h++[d+1]) (P.aI (d+1) l).2;exact⟨by simp;omega,by simp at i2 ⊢;omega⟩
def Qb(A:Ar)(P:PD)(l:gh Int):(A.ah P l).2.2.dl<=P.dl+2:=by
 have d:(P.ah (A.j.A8+1) l).2.dl<=P.dl+2:=by
  unfold PD.ah;have h2:=LU P Bm (AB Ay) (Cl (A.j.A8+1) l);split
  ·omega
  ·have h3:=Vn (P.aH Bm (AB Ay) (Cl (A.j.A8+1) l)).2 (A6 Bm) (A6 Ay);omega
 unfold Ar.ah;split
 ·exact WJ _ _
 ·split
  ·exact d
  ·exact d
def MS(A:Ar)(P:PD):(A.aV P).length<=P.dl:=by
 rw[<-HJ];unfold Ar.aV;exact J8 _ _
section
variable{P Q:PD}{N R:Nat}{A:Ar}
def AG.aF(h:AG P Q)(E:gh Int)(z:gh (gh Pu))(hc:Cm Q (N+A.AN.length+2*Q.dl+4*z.length+8) (R+Dr z+12+8*(E.length+z.length)))(d:(A.aF P E z).1=0):
 (A.aF Q E z).1=0/\(A.aF P E z).2.1=(A.aF Q E z).2.1/\AG (A.aF P E z).2.2 (A.aF Q E z).2.2/\Cm (A.aF Q E z).2.2 N R:=by
 unfold Ar.aF at d ⊢;dsimp only at d ⊢;by_cases W:(A.C P).1=0
 ·rw[Aa (nn W)]at d;have⟨a1,a2,a3,a4⟩:=h.C (N:=N+2*Q.dl+4*z.length+8) (hc.af (by omega) (Ao _)) W;rw[Aa (nn W),Aa (nn a1)];rw[a2]at d ⊢;have d1:(A.C Q).2.2.dl=Q.dl:=by unfold Ar.C;split<;>exact Qa _ _
  by_cases L:((A.C Q).2.1.au (A.C P).2.2).1=0
  ·rw[Aa (nn L)]at d;have o1:=MS (A.C Q).2.1 (A.C Q).2.2;have⟨b1,b2,b3⟩:=a3.au (A:=(A.C Q).2.1) (N:=N+Q.dl+4*z.length+8) (a4.af (by omega) (Ao _)) L;(have d2:((A.C Q).2.1.au (A.C Q).2.2).2.dl<=Q.dl:=by rw[<-d1];exact Nd _ _);rw[Aa (nn L),Aa (nn b1)];by_cases h3:(PD.aj z (A.C Q).2.1.A8 E ((A.C Q).2.1.au (A.C P).2.2).2).1=0
   ·rw[Aa (nn h3)]at d;have⟨c1,c2,c3,c4,c5⟩:=AG.aj (N:=N+Q.dl+z.length+8) (R:=R+12+8*(E.length+z.length)) z (A.C Q).2.1.A8 E b2 (b3.af (by omega) (by omega)) h3;have⟨d3,d4⟩:=Kr z (A.C Q).2.1.A8 E ((A.C Q).2.1.au (A.C Q).2.2).2;rw[Aa (nn h3),Aa (nn c1)];rw[c2,c3]at d ⊢;obtain⟨A2,aD⟩:∃A2:Ar,({ (A.C Q).2.1 with A8:=(PD.aj z (A.C Q).2.1.A8 E ((A.C Q).2.1.au (A.C Q).2.2).2).2.1}:Ar)=A2:=⟨_,rfl⟩;rw[aD]at d ⊢;generalize hsg:(PD.aj z (A.C Q).2.1.A8 E ((A.C Q).2.1.au (A.C Q).2.2).2).2.2.1=sg at d d4 ⊢;obtain⟨aB,aA⟩:∃aB,(PD.aj z (A.C Q).2.1.A8 E ((A.C Q).2.1.au (A.C P).2.2).2).2.2.2=aB:=⟨_,rfl⟩;obtain⟨H,I⟩:∃H,(PD.aj z (A.C Q).2.1.A8 E ((A.C Q).2.1.au (A.C Q).2.2).2).2.2.2=H:=⟨_,rfl⟩;rw[aA]at d c4;rw[aA,I];rw[I]at c4 c5 d3;by_cases O:(A2.ah aB sg).1=0
    ·rw[Aa (nn O)]at d;have⟨e1,e2,e3,e4⟩:=c4.cw (A:=A2) (sd:=sg) (N:=N+Q.dl+z.length+4) (c5.af (by omega) (Ao _)) (by omega) O;have d5:=Qb A2 H sg;rw[Aa (nn O),Aa (nn e1)];rw[e2]at d ⊢;unfold Ar.a6 at d ⊢;by_cases Y:((A2.ah H sg).2.1.au (A2.ah aB sg).2.2).1=0
     ·rw[Aa (nn Y)]at d;have o2:=MS (A2.ah H sg).2.1 (A2.ah H sg).2.2;have⟨f1,f2,f3⟩:=e3.au (A:=(A2.ah H sg).2.1) (N:=N+1) (e4.af (by omega) (Ao _)) Y;have⟨g1,g2,g3⟩:=f2.av (N:=N) f3 d;rw[Aa (nn Y),Aa (nn f1)];exact⟨g1,rfl,g2,g3.af (Ao _) (by omega)⟩
     ·rw[Ae Y]at d;exact absurd d Y
    ·rw[Ae O]at d;exact absurd d O
   ·rw[Ae h3]at d;exact absurd d h3
  ·rw[Ae L]at d;exact absurd d L
 ·rw[Ae W]at d;exact absurd d W
end
def Bn(P:PD):gh (gh AM):=P.D.AI::P.D.As
structure DI (bd:Int×Int) (P:PD) (pd:gh Pu) (Ad:Nat) (o:Int):Prop where
 DP:∀s∈Bn P,Holds bd (vw P.F s) pd Ad o
 Ap:∀s∈Bn P,(s.map (·.2)).Nodup
 Cj:∀s∈Bn P,(s.map (·.1)).Nodup
 CG:P.D.A4∈Bn P
section
variable{bd:Int×Int}{P P':PD}{pd:gh Pu}{Ad:Nat}{o:Int}{nm:Bs}
def DI.bc(h:DI bd P pd Ad o):Gc P:=⟨h.Ap _ h.CG,h.Cj _ h.CG⟩
def DI.b9(h:DI bd P pd Ad o)(q:gh Pu):DI bd P (pd++q) Ad o:=⟨λs d=>(h.DP s d).b9 q,h.Ap,h.Cj,h.CG⟩
def DI.bP{d:Int}(h:DI bd P pd Ad o)(z:o<=d):DI bd P pd Ad d:=⟨λs E=>(h.DP s E).bP z,h.Ap,h.Cj,h.CG⟩
def DI.aZ{d:Int×Int}(h:DI bd P pd Ad o)(z:I3 bd d):DI d P pd Ad o:=⟨λs E=>(h.DP s E).aZ z,h.Ap,h.Cj,h.CG⟩
def IQ{s:gh AM}(d:s∈Bn P){e:AM}(z:e∈s):e.2≠P.D.AR:=λh=>P.D.cg (by
 rcases BB.1 d with rfl|d
 ·exact .inr (.inl ⟨e,z,h⟩)
 ·exact .inr (.inr ⟨s,d,e,z,h⟩))
def Lb{F F':Nat->FC}{s:gh AM}(h:∀e∈s,F' e.2=F e.2):vw F' s=vw F s:=by
 funext m
 unfold vw;cases hx:lookup s (A6 m) with
 | none=>rfl
 | some f=>simp[h _ (DY hx)]
def La{F:Nat->FC}{s:gh AM}{g:Nat}(z:lookup s (A6 nm)=none)(m:Bs):vw F (s++[(A6 nm,g)]) m=if m=nm then some (F g) else vw F s m:=by
 unfold vw;rw[lookup_append];by_cases d:m=nm
 ·subst d;rw[z];simp[lookup]
 ·have h:¬A6 nm=A6 m:=λe=>d (FN.1 e).symm;simp[lookup,h,d]
def Holds.bG{V V':View}(h:Holds bd V pd Ad o)(h0:V nm=none)(z:nm=Bm\/∃k,(isNum k=true/\k<=bd.2)/\nm=Aw k)(c:FC)(hc:0<=c.2/\c.2<=c.1.length)(hV:∀m,V' m=if m=nm then some c else V m):Holds bd V' pd Ad o:=by
 obtain⟨ix,sg,cl,lo,nb,O,W,hs,g1,g2⟩:=h;have H:∀m,(m=Ay\/(∃x∈sg,m=Aw x.1)\/∃n,isNum n=true/\ix.AZ<=n/\m=Af n)->m≠nm:=by
  rintro m (rfl|⟨x,hx,rfl⟩|⟨n,hn,_,rfl⟩) e
  ·rcases z with z|⟨k,_,z⟩
   ·exact JA (e.trans z)
   ·exact JZ k (z.symm.trans e.symm)
  ·have⟨_,d,I,_⟩:=O.BN x hx;rw[e,h0]at I;cases I
  ·rcases z with z|⟨k,_,z⟩
   ·exact LH n (e.trans z)
   ·exact G8 n k (e.trans z)
 have E:∀m,m≠nm->V' m=V m:=λm L=>by rw[hV,Aa L]
 refine⟨ix,sg,cl,lo,nb,O.bL (λm L=>?_) (λm L=>?_) (λm d I=>?_),W,hs,λn l e=>?_,g2⟩
 ·rw[E m (H m L)];cases hv:V m with
  | none=>exact .inl ⟨rfl,rfl⟩
  | some d=>exact .inr ⟨d,d,rfl,rfl,rfl,.inl rfl⟩
 ·by_cases e:m=nm
  ·subst e;rcases z with rfl|⟨k,Y,rfl⟩
   ·exact TS bd
   ·exact TR Y.1 Y.2
  ·rw[E m e]at L;exact O.Ef m L
 ·by_cases e:m=nm
  ·rw[hV,Ae e]at I;cases I;exact hc
  ·rw[E m e]at I;exact O.E7 m d I
 ·have⟨d,d1,d2,d3⟩:=g1 n l e;have hq:=(O.A8 n l e).1;exact⟨d,by rw[E _ (H _ (.inr (.inr ⟨n,hq.1,hq.2,rfl⟩)))];exact d1,d2,d3⟩
structure Extra (P:PD) (nm:Bs) (P':PD):Prop where
 Eu:∀f,f≠P.D.AR->P'.F f=P.F f
 E7:0<=(P'.F P.D.AR).2/\(P'.F P.D.AR).2<=(P'.F P.D.AR).1.length
 AI:P'.D.AI=P.D.AI
 da:(P'.D.A4=P.D.A4/\P'.D.As=P.D.As)\/(lookup P.D.A4 (A6 nm)=none/\P'.D.A4=P.D.A4++[(A6 nm,P.D.AR)]/\P'.D.As=P.D.As++[P.D.A4++[(A6 nm,P.D.AR)]])
def DI.bG(h:DI bd P pd Ad o)(H:Extra P nm P')(O:nm=Bm\/∃k,(isNum k=true/\k<=bd.2)/\nm=Aw k):DI bd P' pd Ad o:=by
 have oe:∀s∈Bn P,vw P'.F s=vw P.F s:=λs d=>Lb λe I=>H.Eu _ (IQ d I);rcases H.da with⟨d1,d2⟩|⟨d0,d1,d2⟩
 ·have es:Bn P'=Bn P:=by unfold Bn;rw[H.AI,d2]
  exact⟨λs d=>by rw[es]at d;rw[oe s d];exact h.DP s d,by rw[es];exact h.Ap,by rw[es];exact h.Cj,by rw[es,d1];exact h.CG⟩
 ·have es:Bn P'=Bn P++[P.D.A4++[(A6 nm,P.D.AR)]]:=by unfold Bn;rw[H.AI,d2];rfl
  have z:∀s,s∈Bn P'->s∈Bn P\/s=P.D.A4++[(A6 nm,P.D.AR)]:=λs d=>by
   rw[es]at d;rcases AU.1 d with d|d
   ·exact .inl d
   ·exact .inr (by simpa using d)
  refine⟨λs d=>?_,λs d=>?_,λs d=>?_,by rw[es,d1];simp⟩
  ·rcases z s d with d|rfl
   ·rw[oe s d];exact h.DP s d
   ·refine(h.DP _ h.CG).bG (nm:=nm) (c:=P'.F P.D.AR) (by unfold vw;rw[d0];rfl) O H.E7 λm=>?_;rw[La d0,oe _ h.CG]
  ·rcases z s d with d|rfl
   ·exact h.Ap s d
   ·rw[Ei,GW];refine⟨h.Ap _ h.CG,by simp,λa L b E=>?_⟩;simp at E;subst E;obtain⟨e,I,rfl⟩:=CC.1 L;exact IQ h.CG I
  ·rcases z s d with d|rfl
   ·exact h.Cj s d
   ·rw[Ei,GW];refine⟨h.Cj _ h.CG,by simp,λa L b E=>?_⟩;simp at E;subst E;obtain⟨e,I,rfl⟩:=CC.1 L;exact(Jt.1 d0) e I
end
section
variable{bd:Int×Int}{P P':PD}{pd:gh Pu}{Ad:Nat}{o:Int}{nm:Bs}
def Kq(P:PD)(nm:Bs):Extra P nm (P.ai (A6 nm)).2/\((P.ai (A6 nm)).1=0->lookup (P.ai (A6 nm)).2.D.A4 (A6 nm)=some P.D.AR):=by
 unfold PD.ai CN;by_cases E:A6 nm=ByteArray.empty\/B5 P.D.A4 (A6 nm)≥0
 ·rw[Ae E];exact⟨⟨λf d=>by simp[upd,d],by simp[upd],rfl,.inl ⟨rfl,rfl⟩⟩,λh=>by cases h⟩
 ·rw[Aa E];have H:lookup P.D.A4 (A6 nm)=none:=(IT _ _).1 (by (have:¬B5 P.D.A4 (A6 nm)≥0:=λe=>E (.inr e));omega);dsimp only
  by_cases z:(bg P.D.n).1=true
  ·rw[Ae z];refine⟨⟨λf d=>by simp[upd,d],by simp[upd],rfl,.inr ⟨H,rfl,rfl⟩⟩,λ_=>?_⟩;dsimp only
   rw[lookup_append,H];simp[lookup]
  ·rw[Aa z];exact⟨⟨λf d=>by simp[upd,d],by simp[upd],rfl,.inl ⟨rfl,rfl⟩⟩,λh=>absurd (H8 h) z⟩
def Vr(D:DS)(F:Nat->FC)(f:Nat)(x:gg)(d e:Int):(Bw D F f x d e).2.1.A4=D.A4/\(Bw D F f x d e).2.1.AI=D.AI/\(Bw D F f x d e).2.1.As=D.As/\∃j:Nat,(Bw D F f x d e).2.2=upd F f ((F f).1++x.data.toList.take j,(F f).2):=by
 unfold Bw;split
 ·dsimp only
  refine⟨?_,?_,?_,_,rfl⟩<;>split<;>rfl
 ·exact⟨rfl,rfl,rfl,_,rfl⟩
def J0{P:PD}{nm:gg}{f:Nat}(l:Bs)(h:lookup P.D.A4 nm=some f):(P.ak nm l).2.D.A4=P.D.A4/\(P.ak nm l).2.D.AI=P.D.AI/\(P.ak nm l).2.D.As=P.D.As/\
 ((P.ak nm l).2.F=P.F\/∃j:Nat,(P.ak nm l).2.F=upd P.F f ((P.F f).1++l.take j,(P.F f).2)):=by
 unfold PD.ak Bj;rw[h];dsimp only
 have d:(A6 l).data.toList=l:=by simp[A6]
 split
 ·have⟨a1,a2,a3,j,a4⟩:=Vr {P.D with n:=(bg P.D.n).2.2} P.F f (A6 l) (A6 l).size (bg P.D.n).2.1;exact⟨a1,a2,a3,.inr ⟨j,by rw[a4,d]⟩⟩
 ·split
  ·have⟨a1,a2,a3,j,a4⟩:=Vr {P.D with n:=(bg P.D.n).2.2} P.F f (A6 l) ((bg P.D.n).2.2.BC % (A6 l).size) (bg P.D.n).2.1;exact⟨a1,a2,a3,.inr ⟨j,by rw[a4,d]⟩⟩
  ·exact⟨rfl,rfl,rfl,.inl rfl⟩
def Je{P:PD}{nm:gg}{f:Nat}(h:lookup P.D.A4 nm=some f):(P.ad nm).2.D.A4=P.D.A4/\(P.ad nm).2.D.AI=P.D.AI/\(P.ad nm).2.D.As=P.D.As/\
 ((P.ad nm).2.F=P.F\/(P.ad nm).2.F=upd P.F f ((P.F f).1,(P.F f).1.length)):=by
 unfold PD.ad Cq;rw[h];dsimp only
 refine⟨rfl,rfl,rfl,?_⟩;split
 ·exact .inr rfl
 ·exact .inl rfl
def Extra.ak(h:Extra P nm P')(E:lookup P'.D.A4 (A6 nm)=some P.D.AR)(l:Bs):Extra P nm (P'.ak (A6 nm) l).2:=by
 have⟨a1,a2,a3,d⟩:=J0 l E;refine⟨λf z=>?_,?_,a2.trans h.AI,by rw[a1,a3];exact h.da⟩
 ·rcases d with d|⟨j,d⟩
  ·rw[d];exact h.Eu f z
  ·rw[d];simp[upd,z];exact h.Eu f z
 ·have:=h.E7;rcases d with d|⟨j,d⟩
  ·rw[d];exact this
  ·rw[d];simp only[upd,Cp,AY];omega
def Extra.ad(h:Extra P nm P')(E:lookup P'.D.A4 (A6 nm)=some P.D.AR):Extra P nm (P'.ad (A6 nm)).2:=by
 have⟨a1,a2,a3,d⟩:=Je E;refine⟨λf z=>?_,?_,a2.trans h.AI,by rw[a1,a3];exact h.da⟩
 ·rcases d with d|d
  ·rw[d];exact h.Eu f z
  ·rw[d];simp[upd,z];exact h.Eu f z
 ·have:=h.E7;rcases d with d|d
  ·rw[d];exact this
  ·rw[d];simp only[upd,Cp];omega
def Kp(P:PD)(nm:Bs)(s:Nat)(l:Bs):Extra P nm (P.aH nm s l).2/\((P.aH nm s l).1=0->lookup (P.aH nm s l).2.D.A4 (A6 nm)=some P.D.AR/\BV ((P.aH nm s l).2.F P.D.AR)):=by
 have⟨e1,e2⟩:=Kq P nm;unfold PD.aH;by_cases z:(P.ai (A6 nm)).1=0
 ·rw[Aa (nn z)];have H:=e2 z;have L:=e1.ak H (AS s l);have d:lookup ((P.ai (A6 nm)).2.ak (A6 nm) (AS s l)).2.D.A4 (A6 nm)=some P.D.AR:=by rw[(J0 (AS s l) H).1];exact H
  have O:((P.ai (A6 nm)).2.ae (A6 nm) s l).2.2=((P.ai (A6 nm)).2.ak (A6 nm) (AS s l)).2:=rfl;by_cases I:((P.ai (A6 nm)).2.ae (A6 nm) s l).2.1=0
  ·rw[Aa (nn I),O];refine⟨L.ad d,λE=>?_⟩;have⟨a1,_,_,_⟩:=Je d;refine⟨by rw[a1];exact d,?_⟩;unfold PD.ad Cq at E ⊢;rw[d]at E ⊢;dsimp only at E ⊢;rw[Ae E];simp[upd,BV]
  ·rw[Ae I];exact⟨L,λh=>absurd h I⟩
 ·rw[Ae z];exact⟨e1,λh=>absurd h z⟩
def DI.aH(h:DI bd P pd Ad o)(d:nm=Bm\/∃k,(isNum k=true/\k<=bd.2)/\nm=Aw k)(s:Nat)(l:Bs):DI bd (P.aH nm s l).2 pd Ad o:=h.bG (Kp P nm s l).1 d
def DI.aj:∀(H:gh (gh Pu)) (d:Int) (E:gh Int) {P:PD},DI bd P pd Ad o->0<=d->d+H.length<=4611686018427387904->d+H.length<=bd.2->DI bd (PD.aj H d E P).2.2.2 pd Ad o
 | [],d,E,P,h,_,_,_=>h
 | l::r,d,E,P,h,h0,h1,h2=>by
  simp only[Cg]at h1 h2;have z:PD.aj (l::r) d E P=if (P.aI (d+1) l).1≠0 then ((P.aI (d+1) l).1,d+1,E,(P.aI (d+1) l).2) else PD.aj r (d+1) (E++[d+1]) (P.aI (d+1) l).2:=rfl
  have I:DI bd (P.aI (d+1) l).2 pd Ad o:=h.aH (.inr ⟨d+1,⟨by unfold isNum;simp;omega,by omega⟩,rfl⟩) _ _;rw[z];split
  ·exact I
  ·exact DI.aj r (d+1) _ I (by omega) (by omega) (by omega)
def DI.bR(h:DI bd P pd Ad o)(nm:gg):DI bd (P.ad nm).2 pd Ad o:=by
 cases hx:lookup P.D.A4 nm with
 | none=>
  have e:(P.ad nm).2=P:=by unfold PD.ad Cq;rw[hx]
  rw[e];exact h
 | some f=>
  have⟨a1,a2,a3,d⟩:=Je hx;have es:Bn (P.ad nm).2=Bn P:=by unfold Bn;rw[a2,a3]
  refine⟨λs E=>?_,by rw[es];exact h.Ap,by rw[es];exact h.Cj,by rw[es,a1];exact h.CG⟩;rw[es]at E;rcases d with d|d
  ·rw[d];exact h.DP s E
  ·refine(h.DP s E).bL λm=>?_;unfold vw;cases hk:lookup s (A6 m) with
   | none=>exact⟨λc z=>by simp at z,λ_=>rfl⟩
   | some g=>
    refine⟨λc z=>?_,λH=>by simp at H⟩;simp at z;subst z;rw[d];by_cases e:g=f
    ·subst e;exact⟨_,rfl,by simp[upd],.inr (by simp[upd,BV])⟩
    ·exact⟨P.F g,by simp[upd,e],rfl,.inl rfl⟩
def DI.az:∀(l:gh Bs) {P:PD},DI bd P pd Ad o->DI bd (PD.az l P).2 pd Ad o
 | [],P,h=>h
 | x::r,P,h=>by
  have d:=h.bR (A6 x);unfold PD.az;split
  ·exact d
  ·exact DI.az r d
def DI.C{A:Ar}(h:DI bd P pd Ad o):DI bd (A.C P).2.2 pd Ad o:=by
 unfold Ar.C;split
 ·exact h.az _
 ·exact h.az _
def DI.ee(h:DI bd P pd Ad o):DI bd P.av.2 pd Ad o:=by
 unfold PD.av DC;dsimp only
 split
 ·have z:=h.CG;exact⟨λs d=>by simp[Bn]at d;subst d;exact h.DP _ z,λs d=>by simp[Bn]at d;subst d;exact h.Ap _ z,λs d=>by simp[Bn]at d;subst d;exact h.Cj _ z,by simp[Bn]⟩
 ·exact⟨h.DP,h.Ap,h.Cj,h.CG⟩
end
end
end Go.Proofs.YtodcnkbblippnaaGreatDoor
