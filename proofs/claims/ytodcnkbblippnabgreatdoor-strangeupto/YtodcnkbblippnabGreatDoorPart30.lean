/- Part 30 of a proof: walks of the program. -/
import Derived.Test.YtodcnkbblippnabGreatDoorPart29
namespace Go.Proofs.YtodcnkbblippnabGreatDoor
set_option maxRecDepth 100000
set_option maxHeartbeats 32000000
set_option linter.defProp false
open Go.Proofs.Tryz
section
open Go.RowKit
structure AQ (P Q:PD):Prop where
 A6:P.D.A6=Q.D.A6
 AK:P.D.AK=Q.D.AK
 Ap:P.D.Ap=Q.D.Ap
 Ep:P.F=Q.F
structure GV (P:PD):Prop where
 As:(P.D.A6.map (·.2)).Nodup
 Cg:(P.D.A6.map (·.1)).Nodup
def PD.aS(P:PD):PD:=⟨{P.D with n:=⟨(B6 P.F P.D.A6:Int)+4611686018427387904,0,0,0,0,0,0,false⟩},P.F⟩
def AQ.aS(P:PD):AQ P P.aS:=⟨rfl,rfl,rfl,rfl⟩
def GV.aS{P:PD}(h:GV P):Cm P.aS 4611686018427387904 4611686018427387904:=
 ⟨rfl,rfl,rfl,⟨by simp[PD.aS],by simp[PD.aS]⟩,by simp[PD.aS],h.As,h.Cg⟩
def GS{n:DN}(h:(bg n).2.1=0):(bg n).1=true:=by
 unfold bg at h ⊢;dsimp only at h ⊢;split at h
 ·cases h
 ·split at h
  ·cases h
  ·split at h
   ·cases h
   ·rename_i H z I;rw[Ae H,Ae z,Ae I]
section
variable{P Q:PD}{N R:Nat}{nm old:ByteArray}
def AQ.AS(h:AQ P Q):P.D.AS=Q.D.AS:=by unfold DS.AS;rw[h.A6,h.AK,h.Ap]
def AQ.fl(h:AQ P Q)(m:Bs):P.fl m=Q.fl m:=by unfold PD.fl;rw[h.A6,h.Ep]
def AQ.bs(h:AQ P Q)(m:Bs):P.bs m=Q.bs m:=by unfold PD.bs;rw[h.fl]
def AQ.af(h:AQ P Q)(O:Cm Q (N+1) R)(z:(P.af nm).1=0):(Q.af nm).1=0/\AQ (P.af nm).2 (Q.af nm).2/\Cm (Q.af nm).2 N R:=by
 have X:=h.AS;unfold PD.af Cy at z ⊢;rw[h.A6]at z ⊢;by_cases H:nm=ByteArray.empty\/B4 Q.D.A6 nm≥0
 ·rw[Ah H]at z;cases z
 ·rw[Ae H]at z;rw[Ae H,Ae H];dsimp only at z ⊢;rw[GS z,O.bg,X,h.Ep];dsimp only
  rw[Ah rfl,Ah rfl];refine⟨rfl,⟨rfl,h.AK,by dsimp only;rw[h.Ap],rfl⟩,?_⟩;have I:¬nm=ByteArray.empty:=λe=>H (.inl e);have hl:lookup Q.D.A6 nm=none:=(Ik _ _).1 (by (have:¬B4 Q.D.A6 nm≥0:=λe=>H (.inr e));omega);have W:=Fm nm;have Y:Q.fl nm.data.toList=none:=by unfold PD.fl;rw[W,hl];rfl
  have:=(Cm.af (nm:=nm.data.toList) O Y (λe=>I (by rw[<-W,e];rfl))).2.1;rw[W]at this;unfold PD.af Cy at this;rw[Ae H]at this;dsimp only at this;rw[O.bg]at this;simpa using this
def AQ.aq(h:AQ P Q)(H:Cm Q (N+1) R)(z:(P.aq nm).1=0):(Q.aq nm).1=0/\AQ (P.aq nm).2 (Q.aq nm).2/\Cm (Q.aq nm).2 N R:=by
 have I:=Fm nm;have key:lookup Q.D.A6 nm≠none->Cm (Q.aq nm).2 N R:=λO=>by
  cases hx:lookup Q.D.A6 nm with
  | none=>exact absurd hx O
  | some f=>
   have:=(Cm.aq (nm:=nm.data.toList) (c:=Q.F f) H (by unfold PD.fl;rw[I,hx];rfl)).2.1
   rwa [I]at this
 unfold PD.aq Cx at z key ⊢;rw[h.A6]at z ⊢;cases hx:lookup Q.D.A6 nm with
 | none=>rw[hx]at z;cases z
 | some f=>
  rw[hx]at z key;dsimp only at z key ⊢;rw[z,Ah rfl];rw[H.bg]at key ⊢;dsimp only at key ⊢;rw[Ah rfl]at key ⊢;exact⟨rfl,⟨rfl,h.AK,h.Ap,by dsimp only;rw[h.Ep]⟩,key (by simp)⟩
def AQ.aN(h:AQ P Q)(H:Cm Q (N+1) R)(z:P.aN.1=0):Q.aN.1=0/\AQ P.aN.2 Q.aN.2/\Cm Q.aN.2 N R:=by
 have key:=H.aN.2.1;refine⟨H.aN.1,?_,key⟩;unfold PD.aN E4 at z ⊢;dsimp only at z ⊢;rw[z,Ah rfl,H.bg];dsimp only
 rw[Ah rfl];exact⟨h.A6,h.A6,rfl,h.Ep⟩
def AQ.aG(h:AQ P Q)(I:Cm Q (N+1) R)(z:(P.aG nm).1=0):(Q.aG nm).1=0/\AQ (P.aG nm).2 (Q.aG nm).2/\Cm (Q.aG nm).2 N R:=by
 have O:=Fm nm;have key:lookup Q.D.A6 nm≠none->(Q.aG nm).1=0/\Cm (Q.aG nm).2 N R:=λW=>by
  cases H:lookup Q.D.A6 nm with
  | none=>exact absurd H W
  | some f=>
   have:=(Cm.aG (nm:=nm.data.toList) (c:=Q.F f) I (by unfold PD.fl;rw[O,H];rfl));rw[O]at this;exact⟨this.1,this.2.1⟩
 have H:¬B4 Q.D.A6 nm<0:=λH=>by
  unfold PD.aG Dx at z;rw[h.A6,Ah H]at z;cases z
 have⟨k1,k2⟩:=key λe=>H ((Ik _ _).2 e);refine⟨k1,?_,k2⟩;unfold PD.aG Dx at z ⊢;rw[h.A6,Ae H]at z;rw[h.A6,Ae H,Ae H];dsimp only at z ⊢;rw[GS z,I.bg];dsimp only
 rw[Ah rfl,Ah rfl];exact⟨rfl,h.AK,by dsimp only;rw[h.Ap],h.Ep⟩
def AQ.aO(h:AQ P Q)(W:Cm Q (N+1) R)(X:old≠nm)(z:(P.aO old nm).1=0):(Q.aO old nm).1=0/\AQ (P.aO old nm).2 (Q.aO old nm).2/\Cm (Q.aO old nm).2 N R:=by
 have O:=Fm nm;have I:=Fm old;unfold PD.aO CZ at z;rw[h.A6]at z;cases hx:lookup Q.D.A6 old with
 | none=>rw[hx]at z;cases z
 | some f=>
  rw[hx]at z;dsimp only at z;by_cases H:nm=ByteArray.empty
  ·rw[Ah H]at z;cases z
  ·rw[Ae H]at z;dsimp only at z;have key:=Cm.aO (nm:=nm.data.toList) (old:=old.data.toList) (c:=Q.F f) W (by unfold PD.fl;rw[I,hx];rfl) (λe=>H (by rw[<-O,e];rfl)) (λe=>X (by rw[<-O,<-I,e]));rw[O,I]at key;refine⟨key.1,?_,key.2.1⟩;unfold PD.aO CZ;rw[h.A6,hx];dsimp only
   rw[Ae H,Ae H];dsimp only
   rw[GS z,W.bg];dsimp only
   rw[Ah rfl,Ah rfl];exact⟨rfl,h.AK,by dsimp only;rw[h.Ap],h.Ep⟩
def AQ.al{l:Bs}(h:AQ P Q)(hc:Cm Q (N+1) R)(hl:l.length<=R)(z:(P.al nm l).1=0):(Q.al nm l).1=0/\AQ (P.al nm l).2 (Q.al nm l).2/\Cm (Q.al nm l).2 N (R-l.length):=by
 have hn:=Fm nm;have Y:¬(bg P.D.n).2.1≠0:=λH=>by
  unfold PD.al Bj at z;rw[h.A6]at z;cases hx:lookup Q.D.A6 nm with
  | none=>rw[hx]at z;cases z
  | some f=>
   rw[hx]at z;dsimp only at z;have I:∀D n0,(BI D P.F f (A9 l) n0 (bg P.D.n).2.1).1≠0:=λD n0=>by
    unfold BI;split
    ·dsimp only;first|exact H|(rw[Ae H];exact H)
    ·exact H
   split at z
   ·exact I _ _ z
   ·split at z
    ·exact I _ _ z
    ·exact H z
 have H:(bg P.D.n).2.1=0:=by
  by_cases e:(bg P.D.n).2.1=0
  ·exact e
  ·exact absurd e Y
 cases hx:lookup Q.D.A6 nm with
 | none=>
  unfold PD.al Bj at z;rw[h.A6,hx]at z;cases z
 | some f=>
  have key:=Cm.al (nm:=nm.data.toList) (c:=Q.F f) hc (by unfold PD.fl;rw[hn,hx];rfl) l hl;rw[hn]at key;refine⟨key.1,?_,key.2.1⟩;have W:∀D:DS,D.A6=Q.D.A6->D.n.B1=Q.D.n.B1->¬((A9 l).size:Int)>FZ D Q.F:=λD h1 X=>by
   have:=hc.B1;unfold FZ;rw[h1,X,KG];omega
  unfold PD.al Bj at z ⊢;rw[h.A6,hx]at z;rw[h.A6,hx];dsimp only at z ⊢;rw[GS H,Ah rfl,H]at z;rw[GS H,Ah rfl,H,hc.bg];dsimp only
  rw[Ah rfl];unfold BI at z ⊢;split at z
  ·simp at z
  ·rename_i O;rw[Ae O];split
   ·rename_i X;exact absurd X (W _ rfl rfl)
   ·exact⟨rfl,h.AK,h.Ap,by dsimp only;rw[h.Ep]⟩
end
def nn{x:Int}(h:x=0):¬x≠0:=λk=>k h
section
variable{P Q:PD}{N R:Nat}{nm old:Bs}{A:Ar}{J:Jn}
def AQ.Av(h:AQ P Q):P.Av=Q.Av:=by unfold PD.Av;rw[h.A6]
def AQ.aV(h:AQ P Q):A.aV P=A.aV Q:=by unfold Ar.aV;rw[h.Av]
def AQ.aY(h:AQ P Q)(n a:Int):P.aY n a=Q.aY n a:=by
 unfold PD.aY Gs DV;rw[h.A6,h.Ep]
def AQ.aU(h:AQ P Q):∀(l:List Int) (z:List Pu),P.aU l z=Q.aU l z
 | [],_=>rfl
 | n::r,z=>by simp only[PD.aU];rw[h.aY,h.aU r]
def AQ.puts(h:AQ P Q)(l:List Int):P.puts l=Q.puts l:=h.aU l []
def AQ.CK(h:AQ P Q)(m:Bs):P.CK m=Q.CK m:=by unfold PD.CK DV;rw[h.A6,h.Ep]
def AQ.aT(h:AQ P Q)(m:Bs):P.aT m=Q.aT m:=by unfold PD.aT;rw[h.CK]
def AQ.BT(h:AQ P Q)(n:Int):P.BT n=Q.BT n:=by unfold PD.BT;rw[h.aT]
def AQ.segs(h:AQ P Q):∀l:List Int,P.segs l=Q.segs l
 | []=>rfl
 | n::r=>by simp only[PD.segs];rw[h.BT,h.segs r]
def AQ.bU{s:Nat}{l:Bs}(h:AQ P Q)(I:Cm Q (N+1) R)(hl:l.length+4<=R)(z:(P.I (A9 nm) s l).2.1=0):
 (P.I (A9 nm) s l).1=(Q.I (A9 nm) s l).1/\(Q.I (A9 nm) s l).2.1=0/\AQ (P.I (A9 nm) s l).2.2 (Q.I (A9 nm) s l).2.2/\Cm (Q.I (A9 nm) s l).2.2 N (R-(l.length+4)):=by
 have H:=EN s l;have⟨a1,a2,a3⟩:=h.al (nm:=A9 nm) (l:=AT s l) I (by omega) z;rw[H]at a3;refine⟨?_,a1,a2,a3⟩;have e:∀X:PD,(X.I (A9 nm) s l).1=decide ((Ct (X.al (A9 nm) (AT s l)).2.D (X.al (A9 nm) (AT s l)).2.F (A9 nm)).1-(Ct X.D X.F (A9 nm)).1=(AT s l).length):=λX=>rfl;rw[e P,e Q];unfold Ct;rw[a2.A6,a2.Ep,h.A6,h.Ep]
def AQ.aH{s:Nat}{l:Bs}(h:AQ P Q)(hc:Cm Q (N+3) R)(W:l.length+4<=R)(z:(P.aH nm s l).1=0):
 (Q.aH nm s l).1=0/\AQ (P.aH nm s l).2 (Q.aH nm s l).2/\Cm (Q.aH nm s l).2 N (R-(l.length+4)):=by
 unfold PD.aH at z ⊢;by_cases I:(P.af (A9 nm)).1=0
 ·rw[Ae (nn I)]at z;have⟨a1,a2,a3⟩:=h.af (N:=N+2) (nm:=A9 nm) hc I;by_cases H:((P.af (A9 nm)).2.I (A9 nm) s l).2.1=0
  ·rw[Ae (nn H)]at z;obtain⟨-,O,X,Y⟩:=a2.bU (N:=N+1) (nm:=nm) a3 W H;have⟨c1,c2,c3⟩:=X.aq (N:=N) (nm:=A9 nm) Y z;rw[Ae (nn I),Ae (nn H),Ae (nn a1),Ae (nn O)];exact⟨c1,c2,c3⟩
  ·rw[Ah H]at z;exact absurd z H
 ·rw[Ah I]at z;exact absurd z I
def AQ.av:∀(l:List Bs) {P Q:PD},AQ P Q->Cm Q (N+l.length) R->(PD.av l P).1=0->(PD.av l Q).1=0/\AQ (PD.av l P).2 (PD.av l Q).2/\Cm (PD.av l Q).2 N R
 | [],P,Q,h,hc,_=>⟨rfl,h,hc⟩
 | x::r,P,Q,h,hc,hok=>by
  unfold PD.av at hok ⊢;by_cases z:(P.aq (A9 x)).1=0
  ·rw[Ae (nn z)]at hok;obtain⟨I,H,O⟩:=h.aq (N:=N+r.length) (nm:=A9 x) (by simpa[Nat.add_assoc] using hc) z;rw[Ae (nn z),Ae (nn I)];exact AQ.av r H O hok
  ·rw[Ah z]at hok;exact absurd hok z
def AQ.aL:∀(l:List Bs) {P Q:PD},AQ P Q->Cm Q (N+l.length) R->(PD.aL l P).1=0->(PD.aL l Q).1=0/\AQ (PD.aL l P).2 (PD.aL l Q).2/\Cm (PD.aL l Q).2 N R
 | [],P,Q,h,hc,_=>⟨rfl,h,hc⟩
 | x::r,P,Q,h,hc,hok=>by
  unfold PD.aL at hok ⊢;by_cases z:(P.aG (A9 x)).1=0
  ·rw[Ae (nn z)]at hok;obtain⟨I,H,O⟩:=h.aG (N:=N+r.length) (nm:=A9 x) (by simpa[Nat.add_assoc] using hc) z;rw[Ae (nn z),Ae (nn I)];exact AQ.aL r H O hok
  ·rw[Ah z]at hok;exact absurd hok z
def AQ.aa(h:AQ P Q)(I:Cm Q (N+A.AM.length) R)(z:(A.aa P).1=0):(A.aa Q).1=0/\(A.aa P).2.1=(A.aa Q).2.1/\AQ (A.aa P).2.2 (A.aa Q).2.2/\Cm (A.aa Q).2.2 N R:=by
 unfold Ar.aa at z ⊢;by_cases H:(P.av A.AM).1=0
 ·have⟨a1,a2,a3⟩:=AQ.av A.AM h I H;rw[Ae (nn H),Ae (nn a1)];exact⟨rfl,rfl,a2,a3⟩
 ·rw[Ah H]at z;exact absurd z H
def AQ.aw(h:AQ P Q)(H:Cm Q (N+(A.aV Q).length) R)(z:(A.aw P).1=0):(A.aw Q).1=0/\AQ (A.aw P).2 (A.aw Q).2/\Cm (A.aw Q).2 N R:=by
 unfold Ar.aw at z ⊢;rw[h.aV]at z ⊢;exact AQ.aL _ h H z
def AQ.au(h:AQ P Q)(Y:Cm Q (N+2) R)(hR:12<=R)(z:(J.au P).1=0):(J.au Q).1=0/\(J.au P).2.1=(J.au Q).2.1/\AQ (J.au P).2.2 (J.au Q).2.2/\Cm (J.au Q).2.2 N (R-12):=by
 unfold Jn.au at z ⊢;by_cases H:(P.af (A9 (Af (J.A8+1)))).1=0
 ·rw[Ae (nn H)]at z;have⟨a1,a2,a3⟩:=h.af (N:=N+1) Y H;dsimp only at z ⊢;by_cases I:((P.af (A9 (Af (J.A8+1)))).2.I (A9 (Af (J.A8+1))) (AB (Af (J.A8+1))) (AR J.puts)).2.1=0
  ·obtain⟨-,W,X,O⟩:=a2.bU (N:=N) (nm:=Af (J.A8+1)) (s:=AB (Af (J.A8+1))) (l:=AR J.puts) a3 (by rw[CD];omega) I;rw[CD]at O;rw[Ae (nn H),Ae (nn I),Ae (nn a1),Ae (nn W)];exact⟨rfl,rfl,X,O⟩
  ·rw[Ah I]at z;exact absurd z I
 ·rw[Ah H]at z;exact absurd z H
def AQ.ax(h:AQ P Q)(H:Cm Q (N+1) R)(hR:21<=R)(p:Pu)(z:(J.ax P p).2.1=0):(J.ax P p).1=(J.ax Q p).1/\(J.ax Q p).2.1=0/\(J.ax P p).2.2.1=(J.ax Q p).2.2.1/\AQ (J.ax P p).2.2.2 (J.ax Q p).2.2.2/\Cm (J.ax Q p).2.2.2 N (R-21):=by
 unfold Jn.ax at z ⊢;cases hx:J.AP with
 | none=>exact⟨rfl,rfl,rfl,h,H.ae (by omega) (by omega)⟩
 | some x=>
  obtain⟨n,s⟩:=x;rw[hx]at z;dsimp only at z ⊢;have⟨b0,b1,b2,b3⟩:=h.bU (N:=N) (nm:=Af n) H (by rw[EE];omega) z;rw[EE]at b3;exact⟨b0,b1,rfl,b2,b3⟩
def AQ.ah:∀(fresh:List (List Pu)) (last:Int) (kept:List Int) {P Q:PD},AQ P Q->Cm Q (N+3*fresh.length) (R+CC fresh)->(PD.ah fresh last kept P).1=0->
 (PD.ah fresh last kept Q).1=0/\(PD.ah fresh last kept P).2.1=(PD.ah fresh last kept Q).2.1/\(PD.ah fresh last kept P).2.2.1=(PD.ah fresh last kept Q).2.2.1/\AQ (PD.ah fresh last kept P).2.2.2 (PD.ah fresh last kept Q).2.2.2/\Cm (PD.ah fresh last kept Q).2.2.2 N R
 | [],last,kept,P,Q,h,hc,_=>⟨rfl,rfl,rfl,h,by simpa[CC,PD.ah] using hc⟩
 | l::r,last,kept,P,Q,h,hc,hok=>by
  have H:CC (l::r)=(17*l.length+4)+CC r:=by simp[CC]
  have z:∀X:PD,PD.ah (l::r) last kept X=if (X.aI (last+1) l).1≠0 then ((X.aI (last+1) l).1,last+1,kept,(X.aI (last+1) l).2) else PD.ah r (last+1) (kept++[last+1]) (X.aI (last+1) l).2:=λ_=>rfl
  rw[z P]at hok;rw[z P,z Q];by_cases I:(P.aI (last+1) l).1=0
  ·rw[Ae (nn I)]at hok;have⟨a1,a2,a3⟩:=AQ.aH (N:=N+3*r.length) (R:=R+CC (l::r)) (nm:=Aw (last+1)) (s:=AB (Aw (last+1))) (l:=Cb l) h (hc.ae (by simp;omega) (Aq _)) (by rw[HC,H];omega) I;rw[HC]at a3;have O:(Q.aI (last+1) l).1=0:=a1;rw[Ae (nn I),Ae (nn O)];exact AQ.ah r (last+1) (kept++[last+1]) a2 (a3.ae (Aq _) (by rw[H];omega)) hok
  ·rw[Ah I]at hok;exact absurd hok I
def AQ.cJ{first:Int}{segs:List Int}(h:AQ P Q)(O:Cm Q (N+4) R)(hR:12+8*segs.length<=R)(z:(P.ai first segs).1=0):(Q.ai first segs).1=0/\AQ (P.ai first segs).2 (Q.ai first segs).2/\Cm (Q.ai first segs).2 N (R-(12+8*segs.length)):=by
 have I:(Co first segs).length=8+8*segs.length:=by unfold Co;rw[AX,CD,JO]
 unfold PD.ai at z ⊢;by_cases H:(P.aH Bl (AB AF) (Co first segs)).1=0
 ·rw[Ae (nn H)]at z;have⟨a1,a2,a3⟩:=h.aH (N:=N+1) O (by omega) H;have⟨b1,b2,b3⟩:=a2.aO (N:=N) a3 (λe=>Ih (FV.1 e).symm) z;rw[Ae (nn H),Ae (nn a1)];exact⟨b1,b2,by rw[I]at b3;exact b3.ae (Aq _) (by omega)⟩
 ·rw[Ah H]at z;exact absurd z H
def AQ.cx{segs:List Int}(h:AQ P Q)(O:Cm Q (N+4) R)(W:12+8*segs.length<=R)(z:(A.ai P segs).1=0):(A.ai Q segs).1=0/\(A.ai P segs).2.1=(A.ai Q segs).2.1/\AQ (A.ai P segs).2.2 (A.ai Q segs).2.2/\Cm (A.ai Q segs).2.2 N (R-(12+8*segs.length)):=by
 unfold Ar.ai at z ⊢;by_cases H:A.ix.AW=A.j.A8+1/\A.ix.segs=segs
 ·rw[Ah H,Ah H];exact⟨rfl,rfl,h,O.ae (by omega) (by omega)⟩
 ·rw[Ae H]at z;rw[Ae H,Ae H];by_cases I:(P.ai (A.j.A8+1) segs).1=0
  ·have⟨a1,a2,a3⟩:=h.cJ O W I;rw[Ae (nn I),Ae (nn a1)];exact⟨rfl,rfl,a2,a3⟩
  ·rw[Ah I]at z;exact absurd z I
end
def PD.dl(P:PD):Nat:=P.D.A6.length
def IZ(P:PD):P.Av.length=P.dl:=by
 unfold PD.Av PD.dl;rw[H9,(JR P.D.A6).length_eq,H9]
def A06(P:PD)(nm:ByteArray):(P.af nm).2.dl<=P.dl+1:=by
 unfold PD.dl PD.af Cy;split
 ·exact It _
 ·dsimp only;split
  ·simp
  ·exact It _
def A08(P:PD)(f:Nat)(x:ByteArray)(h e:Int):(BI P.D P.F f x h e).2.1.A6=P.D.A6:=by
 unfold BI;split
 ·dsimp only;split<;>rfl
 ·rfl
def A07(P:PD)(nm:ByteArray)(l:Bs):(P.al nm l).2.dl=P.dl:=by
 unfold PD.dl PD.al Bj;cases lookup P.D.A6 nm with
 | none=>rfl
 | some f=>
  dsimp only
  have h:∀z e,(BI {P.D with n:=(bg P.D.n).2.2} P.F f (A9 l) z e).2.1.A6=P.D.A6:=λz e=>A08 ⟨{P.D with n:=(bg P.D.n).2.2},P.F⟩ f (A9 l) z e;split
  ·rw[h]
  ·split
   ·rw[h]
   ·rfl
def TN(P:PD)(nm:ByteArray):(P.aq nm).2.dl=P.dl:=by
 unfold PD.dl PD.aq Cx;cases lookup P.D.A6 nm<;>rfl
def TP(P:PD)(nm:ByteArray):(P.aG nm).2.dl<=P.dl:=by
 unfold PD.dl PD.aG Dx;split
 ·exact Aq _
 ·dsimp only;split
  ·dsimp only;rw[AX,BU,CM];omega
  ·exact Aq _
def TO(P:PD)(old nm:ByteArray):(P.aO old nm).2.dl<=P.dl+1:=by
 unfold PD.dl PD.aO CZ;cases lookup P.D.A6 old with
 | none=>exact It _
 | some f=>
  dsimp only
  split
  ·exact It _
  ·dsimp only;split
   ·dsimp only
    have:=Nw P.D.A6 (B4 P.D.A6 old).toNat nm P.D.A6.length;rw[AX];simp;omega
   ·exact It _
def Mm(P:PD)(nm:Bs)(s:Nat)(l:Bs):(P.aH nm s l).2.dl<=P.dl+1:=by
 have h:=A06 P (A9 nm);have z:((P.af (A9 nm)).2.I (A9 nm) s l).2.2.dl=(P.af (A9 nm)).2.dl:=A07 _ _ _;unfold PD.aH;split
 ·exact h
 ·split
  ·rw[z];exact h
  ·rw[TN,z];exact h
def OH:∀(l:List Bs) (P:PD),(PD.aL l P).2.dl<=P.dl
 | [],P=>Aq _
 | x::r,P=>by
  have h:=TP P (A9 x);unfold PD.aL;split
  ·exact h
  ·exact AH (OH r _) h
def OG:∀(l:List Bs) (P:PD),(PD.av l P).2.dl=P.dl
 | [],P=>rfl
 | x::r,P=>by
  have h:=TN P (A9 x);unfold PD.av;split
  ·exact h
  ·exact(OG r _).trans h
def Mn:∀(fresh:List (List Pu)) (last:Int) (kept:List Int) (P:PD),(PD.ah fresh last kept P).2.2.2.dl<=P.dl+fresh.length/\(PD.ah fresh last kept P).2.2.1.length<=kept.length+fresh.length
 | [],last,kept,P=>⟨Aq _,by simp[PD.ah]⟩
 | l::r,last,kept,P=>by
  have h1:(P.aI (last+1) l).2.dl<=P.dl+1:=Mm _ _ _ _;have h:PD.ah (l::r) last kept P=if (P.aI (last+1) l).1≠0 then ((P.aI (last+1) l).1,last+1,kept,(P.aI (last+1) l).2) else PD.ah r (last+1) (kept++[last+1]) (P.aI (last+1) l).2:=rfl
  rw[h];split
  ·exact⟨by simp;omega,by simp⟩
  ·have⟨i1,i2⟩:=Mn r (last+1) (kept++[last+1]) (P.aI (last+1) l).2;exact⟨by simp;omega,by simp at i2 ⊢;omega⟩
def TQ(A:Ar)(P:PD)(l:List Int):(A.ai P l).2.2.dl<=P.dl+2:=by
 have h:(P.ai (A.j.A8+1) l).2.dl<=P.dl+2:=by
  unfold PD.ai;have h2:=Mm P Bl (AB AF) (Co (A.j.A8+1) l);split
  ·omega
  ·have h3:=TO (P.aH Bl (AB AF) (Co (A.j.A8+1) l)).2 (A9 Bl) (A9 AF);omega
 unfold Ar.ai;split
 ·exact V0 _ _
 ·split
  ·exact h
  ·exact h
def LO(A:Ar)(P:PD):(A.aV P).length<=P.dl:=by
 rw[<-IZ];unfold Ar.aV;exact MR _ _
section
variable{P Q:PD}{N R:Nat}{A:Ar}
def AQ.ay(h:AQ P Q)(kept:List Int)(fresh:List (List Pu))(hc:Cm Q (N+A.AM.length+2*Q.dl+4*fresh.length+8) (R+CC fresh+12+8*(kept.length+fresh.length)))(z:(A.ay P kept fresh).1=0):
 (A.ay Q kept fresh).1=0/\(A.ay P kept fresh).2.1=(A.ay Q kept fresh).2.1/\AQ (A.ay P kept fresh).2.2 (A.ay Q kept fresh).2.2/\Cm (A.ay Q kept fresh).2.2 N R:=by
 unfold Ar.ay at z ⊢;dsimp only at z ⊢;by_cases Y:(A.aa P).1=0
 ·rw[Ae (nn Y)]at z;have⟨a1,a2,a3,a4⟩:=h.aa (N:=N+2*Q.dl+4*fresh.length+8) (hc.ae (by omega) (Aq _)) Y;rw[Ae (nn Y),Ae (nn a1)];rw[a2]at z ⊢;have d1:(A.aa Q).2.2.dl=Q.dl:=by unfold Ar.aa;split<;>exact OG _ _
  by_cases W:((A.aa Q).2.1.aw (A.aa P).2.2).1=0
  ·rw[Ae (nn W)]at z;have o1:=LO (A.aa Q).2.1 (A.aa Q).2.2;have⟨b1,b2,b3⟩:=a3.aw (A:=(A.aa Q).2.1) (N:=N+Q.dl+4*fresh.length+8) (a4.ae (by omega) (Aq _)) W;(have d2:((A.aa Q).2.1.aw (A.aa Q).2.2).2.dl<=Q.dl:=by rw[<-d1];exact OH _ _);rw[Ae (nn W),Ae (nn b1)];by_cases h3:(PD.ah fresh (A.aa Q).2.1.A8 kept ((A.aa Q).2.1.aw (A.aa P).2.2).2).1=0
   ·rw[Ae (nn h3)]at z;have⟨c1,c2,c3,c4,c5⟩:=AQ.ah (N:=N+Q.dl+fresh.length+8) (R:=R+12+8*(kept.length+fresh.length)) fresh (A.aa Q).2.1.A8 kept b2 (b3.ae (by omega) (by omega)) h3;have⟨d3,d4⟩:=Mn fresh (A.aa Q).2.1.A8 kept ((A.aa Q).2.1.aw (A.aa Q).2.2).2;rw[Ae (nn h3),Ae (nn c1)];rw[c2,c3]at z ⊢;obtain⟨H,aD⟩:∃H:Ar,({ (A.aa Q).2.1 with A8:=(PD.ah fresh (A.aa Q).2.1.A8 kept ((A.aa Q).2.1.aw (A.aa Q).2.2).2).2.1}:Ar)=H:=⟨_,rfl⟩;rw[aD]at z ⊢;generalize hsg:(PD.ah fresh (A.aa Q).2.1.A8 kept ((A.aa Q).2.1.aw (A.aa Q).2.2).2).2.2.1=sg at z d4 ⊢;obtain⟨aB,aA⟩:∃aB,(PD.ah fresh (A.aa Q).2.1.A8 kept ((A.aa Q).2.1.aw (A.aa P).2.2).2).2.2.2=aB:=⟨_,rfl⟩;obtain⟨I,O⟩:∃I,(PD.ah fresh (A.aa Q).2.1.A8 kept ((A.aa Q).2.1.aw (A.aa Q).2.2).2).2.2.2=I:=⟨_,rfl⟩;rw[aA]at z c4;rw[aA,O];rw[O]at c4 c5 d3;by_cases X:(H.ai aB sg).1=0
    ·rw[Ae (nn X)]at z;have⟨e1,e2,e3,e4⟩:=c4.cx (A:=H) (segs:=sg) (N:=N+Q.dl+fresh.length+4) (c5.ae (by omega) (Aq _)) (by omega) X;have d5:=TQ H I sg;rw[Ae (nn X),Ae (nn e1)];rw[e2]at z ⊢;unfold Ar.a6 at z ⊢;by_cases h5:((H.ai I sg).2.1.aw (H.ai aB sg).2.2).1=0
     ·rw[Ae (nn h5)]at z;have o2:=LO (H.ai I sg).2.1 (H.ai I sg).2.2;have⟨f1,f2,f3⟩:=e3.aw (A:=(H.ai I sg).2.1) (N:=N+1) (e4.ae (by omega) (Aq _)) h5;have⟨g1,g2,g3⟩:=f2.aN (N:=N) f3 z;rw[Ae (nn h5),Ae (nn f1)];exact⟨g1,rfl,g2,g3.ae (Aq _) (by omega)⟩
     ·rw[Ah h5]at z;exact absurd z h5
    ·rw[Ah X]at z;exact absurd z X
   ·rw[Ah h3]at z;exact absurd z h3
  ·rw[Ah W]at z;exact absurd z W
 ·rw[Ah Y]at z;exact absurd z Y
end
def Br(P:PD):List (List AI):=P.D.AK::P.D.Ap
structure DI (bd:Int×Int) (P:PD) (puts:List Pu) (Ag:Nat) (o:Int):Prop where
 E3:∀s∈Br P,Holds bd (vw P.F s) puts Ag o
 As:∀s∈Br P,(s.map (·.2)).Nodup
 Cg:∀s∈Br P,(s.map (·.1)).Nodup
 CH:P.D.A6∈Br P
section
variable{bd:Int×Int}{P P':PD}{puts:List Pu}{Ag:Nat}{o:Int}{nm:Bs}
def DI.bq(h:DI bd P puts Ag o):GV P:=⟨h.As _ h.CH,h.Cg _ h.CH⟩
def DI.b5(h:DI bd P puts Ag o)(q:List Pu):DI bd P (puts++q) Ag o:=⟨λs z=>(h.E3 s z).b5 q,h.As,h.Cg,h.CH⟩
def DI.bc{z:Int×Int}(h:DI bd P puts Ag o)(H:HY bd z):DI z P puts Ag o:=⟨λs I=>(h.E3 s I).bc H,h.As,h.Cg,h.CH⟩
def Ij{s:List AI}(z:s∈Br P){e:AI}(H:e∈s):e.2≠P.D.AS:=λh=>P.D.b3 (by
 rcases BF.1 z with rfl|z
 ·exact .inr (.inl ⟨e,H,h⟩)
 ·exact .inr (.inr ⟨s,z,e,H,h⟩))
def Km{F F':Nat->FC}{s:List AI}(h:∀e∈s,F' e.2=F e.2):vw F' s=vw F s:=by
 funext m
 unfold vw;cases hx:lookup s (A9 m) with
 | none=>rfl
 | some f=>simp[h _ (Ea hx)]
def Kl{F:Nat->FC}{s:List AI}{g:Nat}(H:lookup s (A9 nm)=none)(m:Bs):vw F (s++[(A9 nm,g)]) m=if m=nm then some (F g) else vw F s m:=by
 unfold vw;rw[lookup_append];by_cases h:m=nm
 ·subst h;rw[H];simp[lookup]
 ·have z:¬A9 nm=A9 m:=λe=>h (FV.1 e).symm;simp[lookup,z,h]
def Holds.bJ{V V':View}(h:Holds bd V puts Ag o)(h0:V nm=none)(z:nm=Bl\/∃k,(isNum k=true/\k<=bd.2)/\nm=Aw k)(c:FC)(hc:0<=c.2/\c.2<=c.1.length)(hV:∀m,V' m=if m=nm then some c else V m):Holds bd V' puts Ag o:=by
 obtain⟨ix,sg,cl,lo,nb,X,Y,hs,g1,g2⟩:=h;have I:∀m,(m=AF\/(∃x∈sg,m=Aw x.1)\/∃n,isNum n=true/\ix.AW<=n/\m=Af n)->m≠nm:=by
  rintro m (rfl|⟨x,hx,rfl⟩|⟨n,hn,_,rfl⟩) e
  ·rcases z with z|⟨k,_,z⟩
   ·exact Ih (e.trans z)
   ·exact IF k (z.symm.trans e.symm)
  ·have⟨_,d,O,_⟩:=X.BT x hx;rw[e,h0]at O;cases O
  ·rcases z with z|⟨k,_,z⟩
   ·exact IU n (e.trans z)
   ·exact EY n k (e.trans z)
 have H:∀m,m≠nm->V' m=V m:=λm W=>by rw[hV,Ae W]
 refine⟨ix,sg,cl,lo,nb,X.bQ (λm W=>?_) (λm W=>?_) (λm d O=>?_),Y,hs,λn l e=>?_,g2⟩
 ·rw[H m (I m W)];cases hv:V m with
  | none=>exact .inl ⟨rfl,rfl⟩
  | some d=>exact .inr ⟨d,d,rfl,rfl,rfl,.inl rfl⟩
 ·by_cases e:m=nm
  ·subst e;rcases z with rfl|⟨k,hk,rfl⟩
   ·exact Sl bd
   ·exact Sk hk.1 hk.2
  ·rw[H m e]at W;exact X.DZ m W
 ·by_cases e:m=nm
  ·rw[hV,Ah e]at O;cases O;exact hc
  ·rw[H m e]at O;exact X.E9 m d O
 ·have⟨d,d1,d2,d3⟩:=g1 n l e;have hq:=(X.A8 n l e).1;exact⟨d,by rw[H _ (I _ (.inr (.inr ⟨n,hq.1,hq.2,rfl⟩)))];exact d1,d2,d3⟩
structure Extra (P:PD) (nm:Bs) (P':PD):Prop where
 Ep:∀f,f≠P.D.AS->P'.F f=P.F f
 E9:0<=(P'.F P.D.AS).2/\(P'.F P.D.AS).2<=(P'.F P.D.AS).1.length
 AK:P'.D.AK=P.D.AK
 Hl:(P'.D.A6=P.D.A6/\P'.D.Ap=P.D.Ap)\/(lookup P.D.A6 (A9 nm)=none/\P'.D.A6=P.D.A6++[(A9 nm,P.D.AS)]/\P'.D.Ap=P.D.Ap++[P.D.A6++[(A9 nm,P.D.AS)]])
def DI.bJ(h:DI bd P puts Ag o)(O:Extra P nm P')(Y:nm=Bl\/∃k,(isNum k=true/\k<=bd.2)/\nm=Aw k):DI bd P' puts Ag o:=by
 have old:∀s∈Br P,vw P'.F s=vw P.F s:=λs z=>Km λe W=>O.Ep _ (Ij z W);rcases O.Hl with⟨d1,d2⟩|⟨d0,d1,d2⟩
 ·have es:Br P'=Br P:=by unfold Br;rw[O.AK,d2]
  exact⟨λs z=>by rw[es]at z;rw[old s z];exact h.E3 s z,by rw[es];exact h.As,by rw[es];exact h.Cg,by rw[es,d1];exact h.CH⟩
 ·have es:Br P'=Br P++[P.D.A6++[(A9 nm,P.D.AS)]]:=by unfold Br;rw[O.AK,d2];rfl
  have H:∀s,s∈Br P'->s∈Br P\/s=P.D.A6++[(A9 nm,P.D.AS)]:=λs z=>by
   rw[es]at z;rcases AU.1 z with z|z
   ·exact .inl z
   ·exact .inr (by simpa using z)
  refine⟨λs z=>?_,λs z=>?_,λs z=>?_,by rw[es,d1];simp⟩
  ·rcases H s z with z|rfl
   ·rw[old s z];exact h.E3 s z
   ·refine(h.E3 _ h.CH).bJ (nm:=nm) (c:=P'.F P.D.AS) (by unfold vw;rw[d0];rfl) Y O.E9 λm=>?_;rw[Kl d0,old _ h.CH]
  ·rcases H s z with z|rfl
   ·exact h.As s z
   ·rw[Ed,GD];refine⟨h.As _ h.CH,by simp,λa X b I=>?_⟩;simp at I;subst I;obtain⟨e,W,rfl⟩:=C9.1 X;exact Ij h.CH W
  ·rcases H s z with z|rfl
   ·exact h.Cg s z
   ·rw[Ed,GD];refine⟨h.Cg _ h.CH,by simp,λa X b I=>?_⟩;simp at I;subst I;obtain⟨e,W,rfl⟩:=C9.1 X;exact(IP.1 d0) e W
end
def CA(n:DN)(e:Int)(h:DN):Prop:=
 (e≠5/\e≠6/\h.Bt=n.Bt/\h.fulls=n.fulls/\h.Bf=n.Bf)\/(e=5/\h.Bt=wrap64 (n.Bt+1)/\h.fulls=n.fulls)\/(e=6/\h.Bt=wrap64 (n.Bt+1)/\h.fulls=wrap64 (n.fulls+1)/\h.Bf=n.Bf)
def CA.C(n:DN){e:Int}(h:e≠5)(z:e≠6):CA n e n:=.inl ⟨h,z,rfl,rfl,rfl⟩
def CA.AJ{n I n2:DN}{a e:Int}(h:CA n a I)(O:a=0)(z:CA I e n2):CA n e n2:=by
 subst O;rcases h with⟨_,_,X,Y,W⟩|⟨H,_⟩|⟨H,_⟩
 ·unfold CA at z ⊢;rw[X,Y,W]at z;exact z
 ·cases H
 ·cases H
def JW(n:DN):CA n (bg n).2.1 (bg n).2.2:=by
 unfold bg;dsimp only
 split
 ·exact .inr (.inl ⟨rfl,rfl,rfl⟩)
 ·split
  ·exact .inr (.inl ⟨rfl,rfl,rfl⟩)
  ·split
   ·exact .inr (.inl ⟨rfl,rfl,rfl⟩)
   ·exact .inl ⟨by simp,by simp,rfl,rfl,rfl⟩
def Hm(n:DN):(bg n).2.1=0\/(bg n).2.1=5:=by
 unfold bg;dsimp only
 split
 ·exact .inr rfl
 ·split
  ·exact .inr rfl
  ·split
   ·exact .inr rfl
   ·exact .inl rfl
section
variable{P:PD}{A:Ar}{J:Jn}{nm old:ByteArray}
def L1(P:PD)(nm:ByteArray):CA P.D.n (P.af nm).1 (P.af nm).2.D.n:=by
 unfold PD.af Cy;split
 ·exact CA.C _ (by simp) (by simp)
 ·have:=JW P.D.n;dsimp only
  split<;>exact this
def OZ(P:PD)(nm:ByteArray):CA P.D.n (P.aq nm).1 (P.aq nm).2.D.n:=by
 unfold PD.aq Cx;split
 ·exact CA.C _ (by simp) (by simp)
 ·exact JW P.D.n
def A2n(P:PD):CA P.D.n P.aN.1 P.aN.2.D.n:=by
 have:=JW P.D.n;unfold PD.aN E4;dsimp only
 split<;>exact this
def Ux(P:PD)(nm:ByteArray):CA P.D.n (P.aG nm).1 (P.aG nm).2.D.n:=by
 have:=JW P.D.n;unfold PD.aG Dx;split
 ·exact CA.C _ (by simp) (by simp)
 ·dsimp only
  split<;>exact this
def A2p(P:PD)(old nm:ByteArray):CA P.D.n (P.aO old nm).1 (P.aO old nm).2.D.n:=by
 have:=JW P.D.n;unfold PD.aO CZ;split
 ·exact CA.C _ (by simp) (by simp)
 ·split
  ·exact CA.C _ (by simp) (by simp)
  ·dsimp only
   split<;>exact this
def UB(D:DS)(F:Nat->FC)(f:Nat)(x:ByteArray)(H e:Int)(n:DN)(h:CA n e D.n)(I:e=0\/e=5):CA n (BI D F f x H e).1 (BI D F f x H e).2.1.n:=by
 unfold BI;split
 ·dsimp only
  rcases I with rfl|rfl
  ·rw[Ah rfl,Ah rfl];rcases h with⟨_,_,W,X,O⟩|⟨z,_⟩|⟨z,_⟩
   ·exact .inr (.inr ⟨rfl,by dsimp only;rw[W],by dsimp only;rw[X],O⟩)
   ·cases z
   ·cases z
  ·rw[Ae (by decide),Ae (by decide)];exact h
 ·exact h
def A2v(P:PD)(nm:ByteArray)(l:Bs):CA P.D.n (P.al nm l).1 (P.al nm l).2.D.n:=by
 have h:=JW P.D.n;have z:=Hm P.D.n;unfold PD.al Bj;split
 ·exact CA.C _ (by simp) (by simp)
 ·dsimp only
  split
  ·exact UB _ _ _ _ _ _ _ h z
  ·split
   ·exact UB _ _ _ _ _ _ _ h z
   ·exact h
def ME(P:PD)(nm:ByteArray)(s:Nat)(l:Bs):CA P.D.n (P.I nm s l).2.1 (P.I nm s l).2.2.D.n:=A2v P nm (AT s l)
def Ey{x:Int}(h:¬x≠0):x=0:=by omega
def MB(P:PD)(nm:Bs)(s:Nat)(l:Bs):CA P.D.n (P.aH nm s l).1 (P.aH nm s l).2.D.n:=by
 unfold PD.aH;split
 ·exact L1 P _
 ·rename_i h;split
  ·exact(L1 P _).AJ (Ey h) (ME _ _ _ _)
  ·rename_i z;exact((L1 P _).AJ (Ey h) (ME _ _ _ _)).AJ (Ey z) (OZ _ _)
def Uw:∀(l:List Bs) (P:PD),CA P.D.n (PD.av l P).1 (PD.av l P).2.D.n
 | [],P=>CA.C _ (by simp[PD.av]) (by simp[PD.av])
 | nm::r,P=>by
  unfold PD.av;split
  ·exact OZ P _
  ·rename_i h;exact(OZ P _).AJ (Ey h) (Uw r _)
def MD:∀(l:List Bs) (P:PD),CA P.D.n (PD.aL l P).1 (PD.aL l P).2.D.n
 | [],P=>CA.C _ (by simp[PD.aL]) (by simp[PD.aL])
 | nm::r,P=>by
  unfold PD.aL;split
  ·exact Ux P _
  ·rename_i h;exact(Ux P _).AJ (Ey h) (MD r _)
def MC(A:Ar)(P:PD):CA P.D.n (A.aa P).1 (A.aa P).2.2.D.n:=by
 have:=Uw A.AM P;unfold Ar.aa;split
 ·exact this
 ·rename_i h;rw[Ey h]at this;exact this
def UA(J:Jn)(P:PD):CA P.D.n (J.au P).1 (J.au P).2.2.D.n:=by
 unfold Jn.au;split
 ·exact L1 P _
 ·rename_i h;have:=(L1 P _).AJ (Ey h) (ME (P.af (A9 (Af (J.A8+1)))).2 (A9 (Af (J.A8+1))) (AB (Af (J.A8+1))) (AR J.puts));dsimp only
  split
  ·exact this
  ·rename_i z;rw[Ey z]at this;exact this
def Uy(J:Jn)(P:PD)(p:Pu):CA P.D.n (J.ax P p).2.1 (J.ax P p).2.2.2.D.n:=by
 unfold Jn.ax;split
 ·exact CA.C _ (by simp) (by simp)
 ·exact ME P _ _ _
def A2r(J:Jn)(P:PD)(p:Pu):CA P.D.n (J.I P p).2.1 (J.I P p).2.2.2.D.n:=by
 unfold Jn.I;split
 ·split
  ·exact UA J P
  ·rename_i h;exact(UA J P).AJ (Ey h) (Uy _ _ p)
 ·exact Uy J P p
def A2u(A:Ar)(P:PD)(p:Pu):CA P.D.n (A.I P p).2.1 (A.I P p).2.2.2.D.n:=by
 unfold Ar.I;split
 ·exact MC A P
 ·rename_i h;exact(MC A P).AJ (Ey h) (A2r _ _ p)
def Uz:∀(fresh:List (List Pu)) (last:Int) (kept:List Int) (P:PD),CA P.D.n (PD.ah fresh last kept P).1 (PD.ah fresh last kept P).2.2.2.D.n
 | [],_,_,P=>CA.C _ (by simp[PD.ah]) (by simp[PD.ah])
 | l::r,last,kept,P=>by
  unfold PD.ah;split
  ·exact MB P _ _ _
  ·rename_i h;exact(MB P _ _ _).AJ (Ey h) (Uz r _ _ _)
def A2q(P:PD)(first:Int)(segs:List Int):CA P.D.n (P.ai first segs).1 (P.ai first segs).2.D.n:=by
 unfold PD.ai;split
 ·exact MB P _ _ _
 ·rename_i h;exact(MB P _ _ _).AJ (Ey h) (A2p _ _ _)
def A2t(A:Ar)(P:PD)(segs:List Int):CA P.D.n (A.ai P segs).1 (A.ai P segs).2.2.D.n:=by
 have:=A2q P (A.j.A8+1) segs;unfold Ar.ai;split
 ·exact CA.C _ (by simp) (by simp)
 ·split
  ·exact this
  ·rename_i h;rw[Ey h]at this;exact this
def A2s(A:Ar)(P:PD):CA P.D.n (A.a6 P).1 (A.a6 P).2.2.D.n:=by
 unfold Ar.a6;split
 ·exact MD _ P
 ·rename_i h;exact(MD _ P).AJ (Ey h) (A2n _)
def A2o(A:Ar)(P:PD)(kept:List Int)(fresh:List (List Pu)):CA P.D.n (A.ay P kept fresh).1 (A.ay P kept fresh).2.2.D.n:=by
 unfold Ar.ay;dsimp only
 split
 ·exact MC A P
 ·rename_i W;have h:=(MC A P).AJ (Ey W) (MD ((A.aa P).2.1.aV (A.aa P).2.2) (A.aa P).2.2);split
  ·exact h
  ·rename_i I;have z:=h.AJ (Ey I) (Uz fresh (A.aa P).2.1.A8 kept _);split
   ·exact z
   ·rename_i X;have H:=z.AJ (Ey X) (A2t { (A.aa P).2.1 with A8:=(PD.ah fresh (A.aa P).2.1.A8 kept ((A.aa P).2.1.aw (A.aa P).2.2).2).2.1} _ (PD.ah fresh (A.aa P).2.1.A8 kept ((A.aa P).2.1.aw (A.aa P).2.2).2).2.2.1);split
    ·exact H
    ·rename_i O;exact H.AJ (Ey O) (A2s _ _)
def VO(P:PD)(nm:ByteArray):(P.aq nm).1≠6:=by
 unfold PD.aq Cx;split
 ·simp
 ·have:=Hm P.D.n;dsimp only;omega
def Qk:∀(l:List Bs) (P:PD),(PD.av l P).1≠6
 | [],P=>by simp[PD.av]
 | nm::r,P=>by
  unfold PD.av;split
  ·exact VO P _
  ·exact Qk r _
def X3(A:Ar)(P:PD):(A.aa P).1≠6:=by
 unfold Ar.aa;split
 ·exact Qk _ P
 ·simp
end
end
end Go.Proofs.YtodcnkbblippnabGreatDoor
