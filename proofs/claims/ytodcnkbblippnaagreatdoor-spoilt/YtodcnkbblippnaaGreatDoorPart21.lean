/- Part 21 of a proof: walks of the program. -/
import Derived.Test.YtodcnkbblippnaaGreatDoorPart20
namespace Go.Proofs.YtodcnkbblippnaaGreatDoor
set_option maxRecDepth 100000
set_option maxHeartbeats 32000000
set_option linter.defProp false
open Go.Proofs.Tryz
section
open Go.RowKit
def Kb{α:Type}{l:gh α}(h:l.Nodup){i j:Nat}(E:i<l.length)(z:j<l.length)(e:l[i]'E=l[j]'z):i=j:=by
 have H:=Ij.1 h;rcases QF i j with d|d|d
 ·exact absurd e (H i j E z d)
 ·exact d
 ·exact absurd e.symm (H j i z E d)
def Jq{es:gh AM}(h:(es.map (·.2)).Nodup){a b:AM}(d:a∈es)(E:b∈es)(e:a.2=b.2):a=b:=by
 obtain⟨i,H,rfl⟩:=DV d;obtain⟨j,z,rfl⟩:=DV E;have:i=j:=Kb h (by simpa using H) (by simpa using z) (by simpa using e);subst this;rfl
def DY{es:gh AM}{nm:gg}{f:Nat}(h:lookup es nm=some f):(nm,f)∈es:=by
 induction es with
 | nil=>cases h
 | cons e r ih=>
  unfold lookup at h;split at h
  ·rename_i d;cases h;subst d;exact Bt ..
  ·exact Bp _ (ih h)
def Jt{es:gh AM}{nm:gg}:lookup es nm=none↔∀e∈es,e.1≠nm:=by
 induction es with
 | nil=>simp[lookup]
 | cons e r ih=>
  unfold lookup;by_cases d:e.1=nm
  ·simp[d]
  ·simp only[d,C9,ih,BB,forall_eq_or_imp,Kd,Pm,true_and]
def lookup_append(es d:gh AM)(nm:gg):lookup (es++d) nm=(lookup es nm).or (lookup d nm):=by
 induction es with
 | nil=>simp[lookup]
 | cons e r ih=>
  simp only[FD,lookup];split
  ·simp
  ·exact ih
def LF(es:gh AM)(p:gg->Bool)(nm:gg):lookup (es.filter λe=>p e.1) nm=if p nm then lookup es nm else none:=by
 induction es with
 | nil=>simp[lookup]
 | cons e r ih=>
  simp only[Fh];by_cases z:e.1=nm
  ·subst z;by_cases h:p e.1
   ·simp[h,lookup]
   ·(have d:p e.1=false:=by simpa using h);rw[d]at ih ⊢;simpa using ih
  ·by_cases h:p e.1
   ·simp only[h,Cp,lookup,z,C9,ih]
   ·(have d:p e.1=false:=by simpa using h);simp only[d,lookup,z,C9];simpa using ih
def IT(es:gh AM)(nm:gg):(B5 es nm<0↔lookup es nm=none):=by
 rcases Ju es nm with⟨z,d⟩|⟨k,hk,z,d,h3⟩
 ·simp[z,d]
 ·simp only[z,d];exact⟨λh=>by omega,λh=>by cases h⟩
def Vl(es:gh AM)(nm:gg)(O:(es.map (·.1)).Nodup)(h:¬B5 es nm<0):
 es.take (B5 es nm).toNat++es.drop ((B5 es nm).toNat+1)=es.filter λe=>decide (e.1≠nm):=by
 induction es with
 | nil=>simp[B5]at h
 | cons e r ih=>
  have d:e.1∉r.map (·.1)/\(r.map (·.1)).Nodup:=by simpa using O
  unfold B5 at h ⊢;by_cases E:e.1=nm
  ·subst E;simp only[Cp,Int.toNat_zero,EZ,Ff,GF,DW,Dz];rw[KT (by simp)];rw[List.filter_eq_self.2];intro x L;simp only[E0,Kd];rintro z;exact d.1 (z ▸ E5 L)
  ·simp only[E,C9]at h ⊢;by_cases H:B5 r nm<0
   ·simp[H]at h
   ·simp only[H,C9]at h ⊢;(have I:(B5 r nm+1).toNat=(B5 r nm).toNat+1:=by omega);rw[I,Fe,DW,FD,ih d.2 H,Ja (by simp[E])]
def SH(es:gh AM)(oe nm:gg)(Y:(es.map (·.1)).Nodup)(h:¬B5 es oe<0):
 Dt es (B5 es oe).toNat nm es.length=es.filter λe=>decide (e.1≠oe/\e.1≠nm):=by
 have H:∀k,k<=es.length->Dt es (B5 es oe).toNat nm k=(es.take k).filter λe=>decide (e.1≠oe/\e.1≠nm):=by
  intro k
  induction k with
  | zero=>intro _;simp[Dt]
  | succ k ih=>
   intro hk;(have d:k<es.length:=by omega);have z:(k=(B5 es oe).toNat)↔(es[k]'d).1=oe:=by
    rcases Q4 es oe with⟨L,_⟩|⟨m,hm,L,I⟩
    ·omega
    ·rw[L];constructor
     ·intro e;have W:k=m:=by simpa using e
      subst W;exact I
     ·intro e;have:k=m:=Kb Y (by simpa using d) (by simpa using hm) (by simp[e,I]);simp[this]
   rw[Dy d,NT,<-ih (by omega)];by_cases E:k≠(B5 es oe).toNat/\(es[k]'d).1≠nm
   ·rw[SG es _ nm k d E,Ja]
    ·simp
    ·simp only[E0];exact⟨λe=>E.1 (z.2 e),E.2⟩
   ·rw[OT es _ nm k d E,KT]
    ·simp
    ·simp only[E0];intro O;exact E ⟨λe=>O.1 (z.1 e),O.2⟩
 have:=H es.length (Ao _)
 rwa [Cf]at this
def Oc(F:Nat->FC)(es:gh AM)(p:AM->Bool):B6 F (es.filter p)<=B6 F es:=by
 induction es with
 | nil=>simp[B6]
 | cons e r ih=>
  rw[Fh];split
  ·simp only[B6];omega
  ·simp only[B6];omega
def Rp(F:Nat->FC)(f:Nat)(c:FC)(es:gh AM)(h:∀e∈es,e.2≠f):B6 (upd F f c) es=B6 F es:=by
 induction es with
 | nil=>simp[B6]
 | cons e r ih=>
  simp only[B6,upd,h e (Bt ..),C9];rw[<-ih λx d=>h x (Bp _ d)]
def Rq(F:Nat->FC)(f:Nat)(c:FC)(es:gh AM)(L:(es.map (·.2)).Nodup)(h:∃e∈es,e.2=f):B6 (upd F f c) es+(F f).1.length=B6 F es+c.1.length:=by
 induction es with
 | nil=>obtain⟨e,E,_⟩:=h;cases E
 | cons e r ih=>
  have z:e.2∉r.map (·.2)/\(r.map (·.2)).Nodup:=by simpa using L
  by_cases E:e.2=f
  ·subst E;have:B6 (upd F e.2 c) r=B6 F r:=Rp F _ c r λx H d=>z.1 (d ▸ E5 H);simp only[B6,this];simp[upd];omega
  ·obtain⟨x,H,d⟩:=h;have I:∃x∈r,x.2=f:=by
    rcases BB.1 H with rfl|H
    ·exact absurd d E
    ·exact⟨x,H,d⟩
   have:=ih z.2 I;simp only[B6,upd,E,C9]at this ⊢;omega
def PD.fl(P:PD)(nm:Bs):Option FC:=(lookup P.D.A4 (A6 nm)).map P.F
structure Cm (P:PD) (N R:Nat):Prop where
 AW:P.D.n.AW=false
 Ce:P.D.n.Ce=0
 Cv:P.D.n.Cv=0
 AQ:0<=P.D.n.AQ/\P.D.n.AQ+N<=4611686018427387904
 AA:(B6 P.F P.D.A4:Int)+R<=P.D.n.AA
 Ap:(P.D.A4.map (·.2)).Nodup
 Cj:(P.D.A4.map (·.1)).Nodup
section
variable{P:PD}{N R:Nat}{nm:Bs}
def Cm.af{N' R':Nat}(h:Cm P N R)(hN:N'<=N)(hR:R'<=R):Cm P N' R':=
 ⟨h.AW,h.Ce,h.Cv,⟨h.AQ.1,by have:=h.AQ.2;omega⟩,by have:=h.AA;omega,h.Ap,h.Cj⟩
def Cm.bg(h:Cm P (N+1) R):bg P.D.n=(true,0,{P.D.n with AQ:=P.D.n.AQ+1}):=by
 have⟨c1,c2⟩:=h.AQ;have e:wrap64 (P.D.n.AQ+1)=P.D.n.AQ+1:=by unfold wrap64;omega
 unfold Go.Proofs.YtodcnkbblippnaaGreatDoor.bg;dsimp only
 rw[e,Aa (by simp[h.AW]),Aa (by rw[h.Ce];omega),Aa (by rw[h.Cv];omega)]
def Vf:P.fl nm=none↔lookup P.D.A4 (A6 nm)=none:=by unfold PD.fl;simp
def JC{c:FC}(h:P.fl nm=some c):∃f,lookup P.D.A4 (A6 nm)=some f/\P.F f=c:=by
 unfold PD.fl at h;simpa using h
def Pp(h:nm≠[]):A6 nm≠ByteArray.empty:=λe=>h (by have:A6 nm=A6 []:=e;exact FN.1 this)
def Cm.ai(h:Cm P (N+1) R)(Y:P.fl nm=none)(d:nm≠[]):
 (P.ai (A6 nm)).1=0/\Cm (P.ai (A6 nm)).2 N R/\∀m,(P.ai (A6 nm)).2.fl m=if m=nm then some ([],0) else P.fl m:=by
 have O:=Vf.1 Y;have hx:¬(A6 nm=ByteArray.empty\/B5 P.D.A4 (A6 nm)≥0):=by
  rintro (h|h)
  ·exact Pp d h
  ·have:=(IT P.D.A4 (A6 nm)).2 O;omega
 have z:∀e∈P.D.A4,e.2≠P.D.AR:=λe E W=>P.D.cg (.inl ⟨e,E,W⟩);unfold PD.ai CN;rw[Aa hx];dsimp only
 rw[h.bg];dsimp only
 rw[Ae rfl];refine⟨rfl,⟨h.AW,h.Ce,h.Cv,by have:=h.AQ;dsimp only;omega,?_,?_,?_⟩,λm=>?_⟩
 ·have:=h.AA;dsimp only
  rw[Le,Rp _ _ _ _ z];simp only[B6,upd,Cp,J7];omega
 ·dsimp only
  rw[Ei,GW];refine⟨h.Ap,by simp,λa L b H=>?_⟩;simp at H;subst H;obtain⟨e,E,rfl⟩:=CC.1 L;exact z e E
 ·dsimp only
  rw[Ei,GW];refine⟨h.Cj,by simp,λa L b H=>?_⟩;simp at H;subst H;obtain⟨e,E,rfl⟩:=CC.1 L;exact(Jt.1 O) e E
 ·unfold PD.fl;dsimp only
  rw[lookup_append];by_cases I:m=nm
  ·subst I;rw[O];simp[lookup,upd]
  ·have d:¬A6 nm=A6 m:=λe=>I (FN.1 e).symm;simp only[lookup,d,C9,WA,I];cases hk:lookup P.D.A4 (A6 m) with
   | none=>rfl
   | some f=>
    have:f≠P.D.AR:=z _ (DY hk);simp[upd,this]
def Kc(l:Bs):(A6 l).size=l.length:=by simp[A6,ByteArray.size]
def Cm.ak{c:FC}(h:Cm P (N+1) R)(H:P.fl nm=some c)(l:Bs)(hl:l.length<=R):
 (P.ak (A6 nm) l).1=0/\Cm (P.ak (A6 nm) l).2 N (R-l.length)/\∀m,(P.ak (A6 nm) l).2.fl m=if m=nm then some (c.1++l,c.2) else P.fl m:=by
 obtain⟨f,z,rfl⟩:=JC H;have hroom:=h.AA;have d:¬((A6 l).size:Int)>Fv {P.D with n:={P.D.n with AQ:=P.D.n.AQ+1}} P.F:=by
  unfold Fv;rw[Kc];dsimp only;omega
 unfold PD.ak Bj;rw[z];dsimp only
 rw[h.bg];dsimp only
 rw[Ae rfl];unfold Bw;rw[Aa d];dsimp only
 have I:(A6 l).data.toList.take ((A6 l).size:Int).toNat=l:=by rw[Kc];simp[A6]
 rw[I];have hu:=Rq P.F f ((P.F f).1++l,(P.F f).2) P.D.A4 h.Ap ⟨_,DY z,rfl⟩;refine⟨rfl,⟨h.AW,h.Ce,h.Cv,by have:=h.AQ;dsimp only;omega,?_,h.Ap,h.Cj⟩,λm=>?_⟩
 ·dsimp only
  simp only[AY]at hu;omega
 ·unfold PD.fl;dsimp only
  by_cases E:m=nm
  ·subst E;rw[z];simp[upd]
  ·rw[Aa E];cases hk:lookup P.D.A4 (A6 m) with
   | none=>rfl
   | some g=>
    have:g≠f:=λe=>E (by
     have:=Jq h.Ap (DY hk) (DY z) e
     exact FN.1 (Me this).1)
    simp[upd,this]
def Cm.ad{c:FC}(h:Cm P (N+1) R)(z:P.fl nm=some c):
 (P.ad (A6 nm)).1=0/\Cm (P.ad (A6 nm)).2 N R/\∀m,((P.ad (A6 nm)).2.fl m).map (·.1)=(P.fl m).map (·.1):=by
 obtain⟨f,d,rfl⟩:=JC z;unfold PD.ad Cq;rw[d];dsimp only
 rw[h.bg];dsimp only
 rw[Ae rfl];have hu:=Rq P.F f ((P.F f).1,(P.F f).1.length) P.D.A4 h.Ap ⟨_,DY d,rfl⟩;refine⟨rfl,⟨h.AW,h.Ce,h.Cv,by have:=h.AQ;dsimp only;omega,?_,h.Ap,h.Cj⟩,λm=>?_⟩
 ·have:=h.AA;dsimp only at hu ⊢;omega
 ·unfold PD.fl;dsimp only
  cases hk:lookup P.D.A4 (A6 m) with
  | none=>rfl
  | some g=>
   by_cases e:g=f
   ·subst e;simp[upd]
   ·simp[upd,e]
def Cm.av(h:Cm P (N+1) R):P.av.1=0/\Cm P.av.2 N R/\∀m,P.av.2.fl m=P.fl m:=by
 unfold PD.av DC;dsimp only
 rw[h.bg];dsimp only
 rw[Ae rfl];exact⟨rfl,⟨h.AW,h.Ce,h.Cv,by have:=h.AQ;dsimp only;omega,h.AA,h.Ap,h.Cj⟩,λ_=>rfl⟩
def Cm.ct(h:Cm P (N+1) R)(_p:gg->Bool)(es:gh AM)(hu:B6 P.F es<=B6 P.F P.D.A4)(z:(es.map (·.2)).Nodup)(d:(es.map (·.1)).Nodup):
 Cm ⟨{P.D with A4:=es,As:=P.D.As++[es],n:={P.D.n with AQ:=P.D.n.AQ+1}},P.F⟩ N R:=
 ⟨h.AW,h.Ce,h.Cv,by have:=h.AQ;dsimp only;omega,by have:=h.AA;dsimp only;omega,z,d⟩
def Cm.aG{c:FC}(h:Cm P (N+1) R)(H:P.fl nm=some c):
 (P.aG (A6 nm)).1=0/\Cm (P.aG (A6 nm)).2 N R/\∀m,(P.aG (A6 nm)).2.fl m=if m=nm then none else P.fl m:=by
 obtain⟨f,E,rfl⟩:=JC H;have z:¬B5 P.D.A4 (A6 nm)<0:=λh=>by rw[IT,E]at h;cases h
 unfold PD.aG Dn;rw[Aa z];dsimp only
 rw[h.bg];dsimp only
 rw[Ae rfl,Vl _ _ h.Cj z];refine⟨rfl,h.ct (λ_=>true) _ (Oc _ _ _) (h.Ap.sublist (Hf.map _)) (h.Cj.sublist (Hf.map _)),λm=>?_⟩;unfold PD.fl;dsimp only
 rw[LF P.D.A4 (λx=>decide (x≠A6 nm))];by_cases d:m=nm
 ·subst d;simp
 ·have:A6 m≠A6 nm:=λe=>d (FN.1 e);simp[this,d]
def Cm.aM{c:FC}{oe:Bs}(h:Cm P (N+1) R)(h0:P.fl oe=some c)(E:nm≠[])(hd:oe≠nm):
 (P.aM (A6 oe) (A6 nm)).1=0/\Cm (P.aM (A6 oe) (A6 nm)).2 N R/\∀m,(P.aM (A6 oe) (A6 nm)).2.fl m=if m=nm then some c else if m=oe then none else P.fl m:=by
 obtain⟨f,Y,rfl⟩:=JC h0;have hx:¬B5 P.D.A4 (A6 oe)<0:=λh=>by rw[IT,Y]at h;cases h
 have z:=DY Y;unfold PD.aM CU;rw[Y];dsimp only
 rw[Aa (Pp E),h.bg];dsimp only
 rw[Ae rfl,SH _ _ _ h.Cj hx];have L:(P.D.A4.filter λe=>decide (e.1≠A6 oe/\e.1≠A6 nm))=(P.D.A4.filter λe=>decide (e.1≠A6 oe)).filter λe=>decide (e.1≠A6 nm):=by
  rw[A5a];congr 1;funext e;simp[and_comm]
 have hparts:B6 P.F (P.D.A4.filter λe=>decide (e.1≠A6 oe))+(P.F f).1.length<=B6 P.F P.D.A4:=by
  have W:∀es:gh AM,(A6 oe,f)∈es->B6 P.F (es.filter λe=>decide (e.1≠A6 oe))+(P.F f).1.length<=B6 P.F es:=by
   intro es
   induction es with
   | nil=>intro h;cases h
   | cons e r ih=>
    intro d;by_cases H:e.1=A6 oe
    ·rw[KT (by simp[H])];rcases BB.1 d with d|d
     ·subst d;have:=Oc P.F r λe=>decide (e.1≠A6 oe);simp only[B6];omega
     ·have:=ih d;simp only[B6];omega
    ·rw[Ja (by simp[H])];rcases BB.1 d with d|d
     ·subst d;exact absurd rfl H
     ·have:=ih d;simp only[B6];omega
  exact W _ z
 refine⟨rfl,h.ct (λ_=>true) _ ?_ ?_ ?_,λm=>?_⟩
 ·rw[Le,L];have:=Oc P.F (P.D.A4.filter λe=>decide (e.1≠A6 oe)) λe=>decide (e.1≠A6 nm);simp only[B6];omega
 ·rw[Ei,GW];refine⟨h.Ap.sublist (Hf.map _),by simp,λa ha b I=>?_⟩;simp at I;subst I;obtain⟨e,H,rfl⟩:=CC.1 ha;have⟨he1,he2⟩:=GX.1 H;intro aA;have:=Jq h.Ap he1 z aA;subst this;simp at he2
 ·rw[Ei,GW];refine⟨h.Cj.sublist (Hf.map _),by simp,λa ha b I=>?_⟩;simp at I;subst I;obtain⟨e,H,rfl⟩:=CC.1 ha;have:=(GX.1 H).2;simp at this;exact this.2
 ·unfold PD.fl;dsimp only
  rw[lookup_append,LF P.D.A4 (λx=>decide (x≠A6 oe/\x≠A6 nm))];by_cases d:m=nm
  ·subst d;simp[lookup]
  ·have E:¬A6 nm=A6 m:=λe=>d (FN.1 e).symm;have O:A6 m≠A6 nm:=λe=>d (FN.1 e);simp only[lookup,E,C9,WA,d];by_cases ho:m=oe
   ·subst ho;simp
   ·have:A6 m≠A6 oe:=λe=>ho (FN.1 e);simp[this,O,ho]
end
def A1Z(l:gh gg)(x:gg):(ins l x).Perm (x::l):=by
 unfold ins;refine List.perm_middle.trans ?_;rw[DU]
def Vq(es:gh AM):∀k,k<=es.length->(ER es k).Perm ((es.take k).map (·.1)):=by
 intro k
 induction k with
 | zero=>intro _;simp[ER]
 | succ k ih=>
  intro hk;have d:k<es.length:=by omega
  rw[Nf es k d,Dy d,Ei];refine(A1Z _ _).trans ?_;refine((ih (by omega)).cons _).trans ?_;exact(List.perm_append_singleton _ _).symm
def LW(es:gh AM):(dList es).Perm (es.map (·.1)):=by
 have:=Vq es es.length (Ao _)
 rwa [Cf]at this
def PD.bs(P:PD)(nm:Bs):Option Bs:=(P.fl nm).map (·.1)
section
variable{P P':PD}{N R:Nat}{nm:Bs}
def Es:nm∈P.Ai↔P.bs nm≠none:=by
 unfold PD.Ai PD.bs PD.fl;rw[CC];constructor
 ·rintro⟨b,z,rfl⟩;have:=(LW P.D.A4).mem_iff.1 z;obtain⟨e,d,rfl⟩:=CC.1 this;cases hk:lookup P.D.A4 (A6 e.1.data.toList) with
  | none=>rw[FO]at hk;exact absurd rfl (Jt.1 hk e d)
  | some f=>simp
 ·intro h;cases hk:lookup P.D.A4 (A6 nm) with
  | none=>rw[hk]at h;exact absurd rfl h
  | some f=>
   refine⟨A6 nm,(LW P.D.A4).mem_iff.2 (CC.2 ⟨_,DY hk,rfl⟩),by simp[A6]⟩
def Cm.cH(h:Cm P N R):P.Ai.Nodup:=by
 unfold PD.Ai;have z:=(LW P.D.A4).nodup_iff.2 h.Cj;rw[List.Nodup,Mj];refine List.Pairwise.imp (λd e=>d ?_) z;rename_i a b;rw[<-FO a,<-FO b,e]
def Gv:P.bs nm=none↔P.fl nm=none:=by unfold PD.bs;simp
def LZ{c:Bs}(h:P.bs nm=some c):∃k,P.fl nm=some (c,k):=by
 unfold PD.bs at h;cases hx:P.fl nm with
 | none=>rw[hx]at h;cases h
 | some x=>rw[hx]at h;obtain⟨a,k⟩:=x;simp at h;subst h;exact⟨k,rfl⟩
def Cm.db(h:Cm P (N+1) R)(z:P.bs nm=none)(d:nm≠[]):
 (P.ai (A6 nm)).1=0/\Cm (P.ai (A6 nm)).2 N R/\∀m,(P.ai (A6 nm)).2.bs m=if m=nm then some [] else P.bs m:=by
 have⟨h1,h2,h3⟩:=h.ai (Gv.1 z) d;refine⟨h1,h2,λm=>?_⟩;unfold PD.bs;rw[h3 m];split<;>rfl
def Cm.ea{c:Bs}(h:Cm P (N+1) R)(z:P.bs nm=some c)(l:Bs)(d:l.length<=R):
 (P.ak (A6 nm) l).1=0/\Cm (P.ak (A6 nm) l).2 N (R-l.length)/\∀m,(P.ak (A6 nm) l).2.bs m=if m=nm then some (c++l) else P.bs m:=by
 have⟨k,hk⟩:=LZ z;have⟨h1,h2,h3⟩:=h.ak hk l d;refine⟨h1,h2,λm=>?_⟩;unfold PD.bs;rw[h3 m];split<;>rfl
def Cm.cG{c:Bs}(h:Cm P (N+1) R)(d:P.bs nm=some c):
 (P.ad (A6 nm)).1=0/\Cm (P.ad (A6 nm)).2 N R/\∀m,(P.ad (A6 nm)).2.bs m=P.bs m:=by
 have⟨k,hk⟩:=LZ d;exact h.ad hk
def Cm.dc(h:Cm P (N+1) R):P.av.1=0/\Cm P.av.2 N R/\∀m,P.av.2.bs m=P.bs m:=by
 have⟨h1,h2,h3⟩:=h.av;exact⟨h1,h2,λm=>by unfold PD.bs;rw[h3 m]⟩
def Cm.fO{c:Bs}(h:Cm P (N+1) R)(d:P.bs nm=some c):
 (P.aG (A6 nm)).1=0/\Cm (P.aG (A6 nm)).2 N R/\∀m,(P.aG (A6 nm)).2.bs m=if m=nm then none else P.bs m:=by
 have⟨k,hk⟩:=LZ d;have⟨h1,h2,h3⟩:=h.aG hk;refine⟨h1,h2,λm=>?_⟩;unfold PD.bs;rw[h3 m];split<;>rfl
def Cm.fE{c:Bs}{oe:Bs}(h:Cm P (N+1) R)(E:P.bs oe=some c)(d:nm≠[])(z:oe≠nm):
 (P.aM (A6 oe) (A6 nm)).1=0/\Cm (P.aM (A6 oe) (A6 nm)).2 N R/\∀m,(P.aM (A6 oe) (A6 nm)).2.bs m=if m=nm then some c else if m=oe then none else P.bs m:=by
 have⟨k,hk⟩:=LZ E;have⟨h1,h2,h3⟩:=h.aM hk d z;refine⟨h1,h2,λm=>?_⟩;unfold PD.bs;rw[h3 m];split
 ·rfl
 ·split<;>rfl
def FQ:P.Ck nm=match P.bs nm with|some c=>(c,0)|none=>([],8):=by
 unfold PD.Ck DQ PD.bs PD.fl;cases lookup P.D.A4 (A6 nm)<;>rfl
def Qg:Cz P.D P.F (A6 nm)=match P.bs nm with|some c=>((c.length:Int),0)|none=>(0,8):=by
 unfold Cz PD.bs PD.fl;cases lookup P.D.A4 (A6 nm)<;>rfl
def EL(s:Nat)(l:Bs):(AS s l).length=l.length+4:=by simp[AS,Hh]
def Cm.ae{c:Bs}(h:Cm P (N+1) R)(d:P.bs nm=some c)(s:Nat)(l:Bs)(hl:l.length+4<=R):
 (P.ae (A6 nm) s l).1=true/\(P.ae (A6 nm) s l).2.1=0/\Cm (P.ae (A6 nm) s l).2.2 N (R-(l.length+4))/\∀m,(P.ae (A6 nm) s l).2.2.bs m=if m=nm then some (c++AS s l) else P.bs m:=by
 have z:=EL s l;have⟨h1,h2,h3⟩:=h.ea d (AS s l) (by omega);rw[z]at h2;refine⟨?_,h1,h2,h3⟩;show Hn P.D P.F (A6 nm) (AS s l)=true;unfold Hn;have e:=@Qg (P.ak (A6 nm) (AS s l)).2 nm;have E:Cz (Bj P.D P.F (A6 nm) ⟨(AS s l).toArray⟩).2.1 (Bj P.D P.F (A6 nm) ⟨(AS s l).toArray⟩).2.2 (A6 nm)=Cz (P.ak (A6 nm) (AS s l)).2.D (P.ak (A6 nm) (AS s l)).2.F (A6 nm):=rfl;rw[E,e,h3 nm,Qg,d];simp only[Cp,AY];simp only[E0];omega
def Cm.aH(h:Cm P (N+3) R)(I:P.bs nm=none)(d:nm≠[])(s:Nat)(l:Bs)(H:l.length+4<=R):
 (P.aH nm s l).1=0/\Cm (P.aH nm s l).2 N (R-(l.length+4))/\∀m,(P.aH nm s l).2.bs m=if m=nm then some (AS s l) else P.bs m:=by
 have⟨a1,a2,a3⟩:=Cm.db (N:=N+2) h I d;obtain⟨-,E,L,z⟩:=Cm.ae (N:=N+1) (nm:=nm) (c:=[]) a2 (by rw[a3];simp) s l H;have⟨c1,c2,c3⟩:=Cm.cG (N:=N) (nm:=nm) (c:=AS s l) L (by rw[z];simp);unfold PD.aH;rw[Aa (by simp[a1]),Aa (by simp[E])];refine⟨c1,c2,λm=>?_⟩;rw[c3,z,a3];split
 ·simp
 ·rfl
def XD(s:Nat)(l:Bs):G2 s (AS s l)=some l:=by
 unfold G2;have hp:=EL s l;have d:(AS s l).length-4=l.length:=by omega
 rw[Aa (by omega),d];have z:(AS s l).take l.length=l:=by simp[AS]
 have h:(AS s l).drop l.length=BM (AP s l):=by simp[AS]
 rw[z,h,Ae rfl]
def SS{l:Bs}(h:P.bs nm=some (AS (AB nm) l)):P.aS nm=(l,0):=by
 unfold PD.aS;rw[FQ,h];simp[XD]
def ZN(h:P.bs nm=none):P.aS nm=([],8):=by
 unfold PD.aS;rw[FQ,h];simp
def Cm.az:∀(l:gh Bs) {P:PD},Cm P (N+l.length) R->(∀m∈l,P.bs m≠none)->(PD.az l P).1=0/\Cm (PD.az l P).2 N R/\∀m,(PD.az l P).2.bs m=P.bs m
 | [],P,h,_=>⟨rfl,h,λ_=>rfl⟩
 | x::r,P,h,hm=>by
  obtain⟨c,W⟩:=JL.1 (hm x (Bt ..));obtain⟨H,I,z⟩:=Cm.cG (N:=N+r.length) (by simpa[Nat.add_assoc] using h) W;obtain⟨E,L,O⟩:=Cm.az r I λm d=>by rw[z];exact hm m (Bp _ d)
  unfold PD.az;rw[Aa (by simp[H])];exact⟨E,L,λm=>by rw[O,z]⟩
def Cm.aK:∀(l:gh Bs) {P:PD},Cm P (N+l.length) R->l.Nodup->(∀m∈l,P.bs m≠none)->(PD.aK l P).1=0/\Cm (PD.aK l P).2 N R/\∀m,(PD.aK l P).2.bs m=if m∈l then none else P.bs m
 | [],P,h,_,_=>⟨rfl,h,λm=>by simp[PD.aK]⟩
 | x::r,P,h,hn,hm=>by
  have d:=KL.1 hn;obtain⟨c,Y⟩:=JL.1 (hm x (Bt ..));obtain⟨I,L,E⟩:=Cm.fO (N:=N+r.length) (by simpa[Nat.add_assoc] using h) Y;obtain⟨H,O,W⟩:=Cm.aK r L d.2 λm z=>by
   (have e:m≠x:=λe=>by subst e;exact d.1 z);rw[E,Aa e];exact hm m (Bp _ z)
  unfold PD.aK;rw[Aa (by simp[I])];refine⟨H,O,λm=>?_⟩;rw[W,E];by_cases e:m=x
  ·subst e;simp
  ·simp[e]
end
def UP:∀(l:gh Int) (k:Nat) (r:Bs),(∀n∈l,AT n)->l.length<k->r.length<8->Fs k (l.flatMap AO++r)=l
 | [],k,r,_,_,hr=>by
  cases k with
  | zero=>rfl
  | succ k=>simp[Fs,hr]
 | n::t,k,r,hn,hk,hr=>by
  cases k with
  | zero=>simp at hk
  | succ k=>
   (have e:(n::t).flatMap AO++r=AO n++(t.flatMap AO++r):=by simp[List.append_assoc]);have d:=CQ n;rw[e];unfold Fs;rw[Aa (by simp[d]),N5 n (hn n (Bt ..))];rw[NV (by rw[d]),UP t k r (λx h=>hn x (Bp _ h)) (by simp at hk;omega) hr]
def JB(l:gh Int):(l.flatMap AO).length=8*l.length:=by
 induction l with
 | nil=>rfl
 | cons n t ih=>rw[KR,AY,ih,CQ,Cg];omega
def A1R(l:gh Int)(h:∀n∈l,AT n):Et (l.flatMap AO)=l:=by
 unfold Et;cases l with
 | nil=>rfl
 | cons n t=>
  have:=UP (n::t) ((n::t).flatMap AO).length [] h (by rw[JB];simp) (by simp);simpa using this
structure NZ (ix:Ix):Prop where
 AZ:isNum ix.AZ=true
 sd:∀n∈ix.sd,isNum n=true
 EV:Cw Cn ix.sd=true
def PK{n:Int}(h:isNum n=true):AT n:=by
 unfold isNum at h;simp at h;constructor<;>omega
def A2g{ix:Ix}(h:NZ ix):indexOf (Cl ix.AZ ix.sd,0)=some ix:=by
 have z:Cl ix.AZ ix.sd=(ix.AZ::ix.sd).flatMap AO:=by simp[Cl]
 have hall:∀n∈ix.AZ::ix.sd,isNum n=true:=λn d=>by
  rcases BB.1 d with rfl|d
  ·exact h.AZ
  ·exact h.sd n d
 have e:Et (Cl ix.AZ ix.sd)=ix.AZ::ix.sd:=by
  rw[z];exact A1R _ λn d=>PK (hall n d)
 have E:(Cl ix.AZ ix.sd).length=(ix.AZ::ix.sd).length*8:=by rw[z,JB];omega
 unfold indexOf;dsimp only
 rw[Aa (by decide),e,Aa (by simp[E]),Aa,Ae]
 ·simp
 ·simpa using h.EV
 ·have:(ix.AZ::ix.sd).all isNum=true:=NY.2 hall;rw[this];simp
def A2f:indexOf ([],8)=some ⟨1,[]⟩:=by simp[indexOf]
def F7(p:Pu):(Bc p.1 p.2.1 p.2.2).length=17:=by simp[Bc,CQ]
def Tf{p:Pu}(h:B8 p)(r:Bs):K3 (Bc p.1 p.2.1 p.2.2++r)=p/\((Bc p.1 p.2.1 p.2.2++r).headD 0).toNat<8:=by
 obtain⟨a,t,v⟩:=p;obtain⟨⟨L,I⟩,z,d⟩:=h;dsimp only at L I z d ⊢;have H:=CQ t;have E:((UInt8.ofNat (a % 256).toNat).toNat:Int)=a:=by
  have:(a % 256).toNat=a.toNat:=by omega
  rw[this];simp;omega
 unfold K3 Bc;simp only[FD,List.headD_cons,DW,Dz,Ch];rw[E,N5 t z,NV (by rw[H]),N5 v d];exact⟨rfl,by omega⟩
def Sa:∀(l:gh Pu) (k:Nat),(∀p∈l,B8 p)->l.length<k->DO k (Ci l)=some (l,[])
 | [],k,_,hk=>by
  cases k with
  | zero=>simp at hk
  | succ k=>simp[DO,Ci]
 | p::t,k,hp,hk=>by
  cases k with
  | zero=>simp at hk
  | succ k=>
   (have e:Ci (p::t)=Bc p.1 p.2.1 p.2.2++Ci t:=by simp[Ci]);have⟨h1,h2⟩:=Tf (hp p (Bt ..)) (Ci t);have d:=F7 p;rw[e];unfold DO;rw[Aa (by simp[d]),Ae h2,NV (by rw[d]),Sa t k (λx h=>hp x (Bp _ h)) (by simp at hk;omega),h1];rfl
def ID(l:gh Pu):(Ci l).length=17*l.length:=by
 induction l with
 | nil=>rfl
 | cons p t ih=>
  have e:Ci (p::t)=Bc p.1 p.2.1 p.2.2++Ci t:=by simp[Ci]
  rw[e,AY,ih,F7,Cg];omega
def YY{l:gh Pu}(h:∀p∈l,B8 p)(d:Cw Cr l=true):Hj (Ci l,0)=some l:=by
 unfold Hj;dsimp only
 rw[Aa (by decide)];cases l with
 | nil=>simp[Ci,DO,d]
 | cons p t=>
  rw[Sa (p::t) _ h (by rw[ID];simp)];simp[d]
def E8:Nat->gh Pu->Bs
 | _,[]=>[]
 | s,p::r=>AS s (Bc p.1 p.2.1 p.2.2)++E8 (AP s (Bc p.1 p.2.1 p.2.2)) r
def HF:Nat->gh Pu->Nat
 | s,[]=>s
 | s,p::r=>HF (AP s (Bc p.1 p.2.1 p.2.2)) r
def Ut:∀(l:gh Pu) (s:Nat) (p:Pu),E8 s (l++[p])=E8 s l++AS (HF s l) (Bc p.1 p.2.1 p.2.2)/\HF s (l++[p])=AP (HF s l) (Bc p.1 p.2.1 p.2.2)
 | [],s,p=>by simp[E8,HF]
 | x::r,s,p=>by
  have⟨h1,h2⟩:=Ut r (AP s (Bc x.1 x.2.1 x.2.2)) p;simp only[FD,E8,HF,h1,h2,Ch,and_self]
def Jw:∀(l:gh Pu) (s:Nat),(E8 s l).length=21*l.length
 | [],_=>rfl
 | p::r,s=>by
  simp only[E8,AY,EL,F7,Jw r,Cg];omega
def MQ:∀(l:gh Pu) (s k:Nat) (t:Bs),(∀p∈l,B8 p)->l.length<k->t.length<21->Da k s (E8 s l++t)=(l,true)
 | [],s,k,t,_,_,ht=>by simp only[E8,Ff];exact MP ht
 | p::r,s,k,t,hp,hk,ht=>by
  cases k with
  | zero=>simp at hk
  | succ k=>
   have z:=hp p (Bt ..);have h17:=F7 p;have E:=MQ r (AP s (Bc p.1 p.2.1 p.2.2)) k t (λx H=>hp x (Bp _ H)) (by simp at hk;omega) ht;have⟨h1,h2⟩:=Tf z [];have d:Bc p.1 p.2.1 p.2.2=UInt8.ofNat (p.1 % 256).toNat::(AO p.2.1++AO p.2.2):=rfl;simp only[GJ]at h1 h2;have e:E8 s (p::r)++t=UInt8.ofNat (p.1 % 256).toNat::(AO p.2.1++AO p.2.2)++BM (AP s (Bc p.1 p.2.1 p.2.2))++(E8 (AP s (Bc p.1 p.2.1 p.2.2)) r++t):=by
    simp only[E8,AS,d,Ch]
   rw[e,MR (by simp[CQ]) (Hh _) (by rw[<-d]) (by rw[d]at h2;exact h2)];rw[<-d,E];have h:=h1;unfold K3 at h;rw[d]at h;simp only[List.headD_cons,DW,Dz]at h;rw[h]
def E9(nm:Bs)(aa:Int)(l:gh Pu):Bs:=AS (AB nm) (AO aa)++E8 (AP (AB nm) (AO aa)) l
def F9(nm:Bs)(aa:Int)(l:gh Pu):Nat:=HF (AP (AB nm) (AO aa)) l
def Jx(nm:Bs)(aa:Int)(l:gh Pu):(E9 nm aa l).length=12+21*l.length:=by
 unfold E9;rw[AY,EL,CQ,Jw]
def Uv(nm:Bs)(aa:Int)(l:gh Pu)(p:Pu):E9 nm aa (l++[p])=E9 nm aa l++AS (F9 nm aa l) (Bc p.1 p.2.1 p.2.2)/\F9 nm aa (l++[p])=AP (F9 nm aa l) (Bc p.1 p.2.1 p.2.2):=by
 have⟨h1,h2⟩:=Ut l (AP (AB nm) (AO aa)) p;unfold E9 F9;rw[h1,h2,Ch];exact⟨rfl,rfl⟩
def T2(nm:Bs)(aa:Int)(l:gh Pu)(t:Bs)(h:AT aa)(d:∀p∈l,B8 p)(z:t.length<21):Ee (AB nm) aa (E9 nm aa l++t)=(l,0):=by
 have e:E9 nm aa l++t=AO aa++BM (AP (AB nm) (AO aa))++(E8 (AP (AB nm) (AO aa)) l++t):=by
  simp only[E9,AS,Ch]
 rw[e,Lp (CQ _) (Hh _)];have E:BI (AO aa)=aa:=by have:=N5 aa h [];simpa using this
 rw[Ae ⟨rfl,E⟩,MQ l _ _ t d (by rw[AY,Jw];omega) z];simp
def ZS(s:Nat)(aa:Int)(t:Bs)(d:t.length<12):Ee s aa t=([],0):=by
 unfold Ee;rw[Ae d]
section
variable{P:PD}{n aa:Int}
def MY{c:Bs}(h:P.bs (Af n)=some c):P.aU n aa=Ee (AB (Af n)) aa c:=by
 have d:=@FQ P (Af n);unfold PD.Ck at d;rw[h]at d;unfold PD.aU Gi;have e:DQ P.D P.F ⟨(Af n).toArray⟩=(c,0):=d;rw[e];simp
def A2a{ix:Ix}(h:NZ ix)(d:P.bs Ay=some (AS (AB Ay) (Cl ix.AZ ix.sd))):P.CK=some ix:=by
 unfold PD.CK;rw[SS d,A2g h]
def A2c(d:P.bs Ay=none):P.CK=some ⟨1,[]⟩:=by
 unfold PD.CK;rw[ZN d,A2f]
def YT{l:gh Pu}(h:∀p∈l,B8 p)(z:Cw Cr l=true)(d:P.bs (Aw n)=some (AS (AB (Aw n)) (Ci l))):P.BN n=some l:=by
 unfold PD.BN;rw[SS d,YY h z]
def Px{l:gh Pu}{t:Bs}(d:AT aa)(h:∀p∈l,B8 p)(z:t.length<21)(E:P.bs (Af n)=some (E9 (Af n) aa l++t)):P.aU n aa=(l,0):=by
 rw[MY E,T2 _ _ _ _ d h z]
end
end
end Go.Proofs.YtodcnkbblippnaaGreatDoor
