/- Part 8 of a proof: walks of the program. -/
import Derived.Shelf.Spec.SearchS
import Derived.Shelf.SlicesE.Clone
import Derived.Sort.OwnSorted
import Derived.Sort.OwnSortedInts
import Derived.Test.YtodcnkbblippnaaGreatDoorPart07
namespace Go.Proofs.YtodcnkbblippnaaGreatDoor
set_option maxRecDepth 100000
set_option maxHeartbeats 32000000
set_option linter.defProp false
open Go.Proofs.Tryz
section
open Go.RowKit
def JC{α:Type}{l:gF α}(h:l.Nodup){i j:Nat}(E:i<l.length)(z:j<l.length)(e:l[i]'E=l[j]'z):i=j:=by
 have I:=K1.1 h;rcases Qt i j with d|d|d
 ·exact absurd e (I i j E z d)
 ·exact d
 ·exact absurd e.symm (I j i z E d)
def Kv{es:gF AP}(h:(es.map (·.2)).Nodup){a b:AP}(d:a∈es)(E:b∈es)(e:a.2=b.2):a=b:=by
 obtain⟨i,I,rfl⟩:=DD d;obtain⟨j,z,rfl⟩:=DD E;have:i=j:=JC h (by simpa using I) (by simpa using z) (by simpa using e);subst this;rfl
def Eo{es:gF AP}{nm:gE}{f:Nat}(h:lookup es nm=some f):(nm,f)∈es:=by
 induction es with
 | nil=>cases h
 | cons e r ih=>
  unfold lookup at h;split at h
  ·rename_i d;cases h;subst d;exact BI ..
  ·exact BC _ (ih h)
def J1{es:gF AP}{nm:gE}:lookup es nm=none↔∀e∈es,e.1≠nm:=by
 induction es with
 | nil=>simp[lookup]
 | cons e r ih=>
  unfold lookup;by_cases d:e.1=nm
  ·simp[d]
  ·simp only[d,Cf,ih,BS,forall_eq_or_imp,Kw,P9,true_and]
def lookup_append(es d:gF AP)(nm:gE):lookup (es++d) nm=(lookup es nm).or (lookup d nm):=by
 induction es with
 | nil=>simp[lookup]
 | cons e r ih=>
  simp only[Ga,lookup];split
  ·simp
  ·exact ih
def LA(es:gF AP)(p:gE->Bool)(nm:gE):lookup (es.filter λe=>p e.1) nm=if p nm then lookup es nm else none:=by
 induction es with
 | nil=>simp[lookup]
 | cons e r ih=>
  simp only[Fz];by_cases z:e.1=nm
  ·subst z;by_cases h:p e.1
   ·simp[h,lookup]
   ·(have d:p e.1=false:=by simpa using h);rw[d]at ih ⊢;simpa using ih
  ·by_cases h:p e.1
   ·simp only[h,Cs,lookup,z,Cf,ih]
   ·(have d:p e.1=false:=by simpa using h);simp only[d,lookup,z,Cf];simpa using ih
def JP(es:gF AP)(nm:gE):(Bb es nm<0↔lookup es nm=none):=by
 rcases JH es nm with⟨z,d⟩|⟨k,hk,z,d,h3⟩
 ·simp[z,d]
 ·simp only[z,d];exact⟨λh=>iC,λh=>by cases h⟩
def UR(es:gF AP)(nm:gE)(X:(es.map (·.1)).Nodup)(h:¬Bb es nm<0):
 es.take (Bb es nm).toNat++es.drop ((Bb es nm).toNat+1)=es.filter λe=>decide (e.1≠nm):=by
 induction es with
 | nil=>simp[Bb]at h
 | cons e r ih=>
  have d:e.1∉r.map (·.1)/\(r.map (·.1)).Nodup:=by simpa using X
  unfold Bb at h ⊢;by_cases E:e.1=nm
  ·subst E;simp only[Cs,Int.toNat_zero,Fw,Fh,Hj,DK,Dm];rw[KZ iE];rw[List.filter_eq_self.2];intro x O;simp only[Ea,Kw];rintro z;exact d.1 (z ▸ Ej O)
  ·simp only[E,Cf]at h ⊢;by_cases I:Bb r nm<0
   ·simp[I]at h
   ·simp only[I,Cf]at h ⊢;have L:(Bb r nm+1).toNat=(Bb r nm).toNat+1:=iC;rw[L,FW,DK,Ga,ih d.2 I,Jm (by simp[E])]
def Sq(es:gF AP)(oe nm:gE)(hn:(es.map (·.1)).Nodup)(h:¬Bb es oe<0):
 DA es (Bb es oe).toNat nm es.length=es.filter λe=>decide (e.1≠oe/\e.1≠nm):=by
 have I:∀k,k<=es.length->DA es (Bb es oe).toNat nm k=(es.take k).filter λe=>decide (e.1≠oe/\e.1≠nm):=by
  intro k
  induction k with
  | zero=>intro _;simp[DA]
  | succ k ih=>
   intro hk;have d:k<es.length:=iC;have z:(k=(Bb es oe).toNat)↔(es[k]'d).1=oe:=by
    rcases PR es oe with⟨O,_⟩|⟨m,hm,O,L⟩
    ·omega
    ·rw[O];constructor
     ·intro e;have Y:k=m:=by simpa using e
      subst Y;exact L
     ·intro e;have:k=m:=JC hn (by simpa using d) (by simpa using hm) (by simp[e,L]);simp[this]
   rw[Ds d,L1,<-ih iC];by_cases E:k≠(Bb es oe).toNat/\(es[k]'d).1≠nm
   ·rw[Sp es _ nm k d E,Jm]
    ·simp
    ·simp only[Ea];exact⟨λe=>E.1 (z.2 e),E.2⟩
   ·rw[OI es _ nm k d E,KZ]
    ·simp
    ·simp only[Ea];intro X;exact E ⟨λe=>X.1 (z.1 e),X.2⟩
 have:=I es.length (An _)
 rwa [C5]at this
def Of(F:Nat->FC)(es:gF AP)(p:AP->Bool):AV F (es.filter p)<=AV F es:=by
 induction es with
 | nil=>simp[AV]
 | cons e r ih=>
  rw[Fz];split
  ·simp only[AV];omega
  ·simp only[AV];omega
def Re(F:Nat->FC)(f:Nat)(c:FC)(es:gF AP)(h:∀e∈es,e.2≠f):AV (upd F f c) es=AV F es:=by
 induction es with
 | nil=>simp[AV]
 | cons e r ih=>
  simp only[AV,upd,h e (BI ..),Cf];rw[<-ih λx d=>h x (BC _ d)]
def Rf(F:Nat->FC)(f:Nat)(c:FC)(es:gF AP)(O:(es.map (·.2)).Nodup)(h:∃e∈es,e.2=f):AV (upd F f c) es+(F f).1.length=AV F es+c.1.length:=by
 induction es with
 | nil=>obtain⟨e,E,_⟩:=h;cases E
 | cons e r ih=>
  have z:e.2∉r.map (·.2)/\(r.map (·.2)).Nodup:=by simpa using O
  by_cases E:e.2=f
  ·subst E;have:AV (upd F e.2 c) r=AV F r:=Re F _ c r λx I d=>z.1 (d ▸ Ej I);simp only[AV,this];simp[upd];omega
  ·obtain⟨x,I,d⟩:=h;have L:∃x∈r,x.2=f:=by
    rcases BS.1 I with rfl|I
    ·exact absurd d E
    ·exact⟨x,I,d⟩
   have:=ih z.2 L;simp only[AV,upd,E,Cf]at this ⊢;omega
def PD.fl(P:PD)(nm:Bs):Option FC:=(lookup P.D.A6 (Ab nm)).map P.F
structure Cm (P:PD) (N R:Nat):Prop where
 Bh:P.D.n.Bh=false
 CZ:P.D.n.CZ=0
 E7:P.D.n.E7=0
 Bc:0<=P.D.n.Bc/\P.D.n.Bc+N<=4611686018427387904
 Av:(AV P.F P.D.A6:Int)+R<=P.D.n.Av
 Aq:(P.D.A6.map (·.2)).Nodup
 Ck:(P.D.A6.map (·.1)).Nodup
section
variable{P:PD}{N R:Nat}{nm:Bs}
def Cm.ah{N' R':Nat}(h:Cm P N R)(hN:N'<=N)(hR:R'<=R):Cm P N' R':=
 ⟨h.Bh,h.CZ,h.E7,⟨h.Bc.1,by have:=h.Bc.2;omega⟩,by have:=h.Av;omega,h.Aq,h.Ck⟩
def Cm.bg(h:Cm P (N+1) R):bg P.D.n=(true,0,{P.D.n with Bc:=P.D.n.Bc+1}):=by
 have⟨c1,c2⟩:=h.Bc;have e:wrap64 (P.D.n.Bc+1)=P.D.n.Bc+1:=by unfold wrap64;omega
 unfold Go.Proofs.YtodcnkbblippnaaGreatDoor.bg;dsimp only
 rw[e,Af (by simp[h.Bh]),Af (by rw[h.CZ];omega),Af (by rw[h.E7];omega)]
def A2b:P.fl nm=none↔lookup P.D.A6 (Ab nm)=none:=by unfold PD.fl;simp
def Na{c:FC}(h:P.fl nm=some c):∃f,lookup P.D.A6 (Ab nm)=some f/\P.F f=c:=by
 unfold PD.fl at h;simpa using h
def Tx(h:nm≠[]):Ab nm≠ByteArray.empty:=λe=>h (by have:Ab nm=Ab []:=e;exact Gr.1 this)
def Cm.aq(h:Cm P (N+1) R)(h0:P.fl nm=none)(d:nm≠[]):
 (P.aq (Ab nm)).1=0/\Cm (P.aq (Ab nm)).2 N R/\∀m,(P.aq (Ab nm)).2.fl m=if m=nm then some ([],0) else P.fl m:=by
 have X:=A2b.1 h0;have hx:¬(Ab nm=ByteArray.empty\/Bb P.D.A6 (Ab nm)≥0):=by
  rintro (h|h)
  ·exact Tx d h
  ·have:=(JP P.D.A6 (Ab nm)).2 X;omega
 have z:∀e∈P.D.A6,e.2≠P.D.AW:=λe E Y=>P.D.cI (.inl ⟨e,E,Y⟩);unfold PD.aq CY;rw[Af hx];dsimp only
 rw[h.bg];dsimp only
 rw[Ai rfl];refine⟨rfl,⟨h.Bh,h.CZ,h.E7,by have:=h.Bc;dsimp only;omega,?_,?_,?_⟩,λm=>?_⟩
 ·have:=h.Av;dsimp only
  rw[Lh,Re _ _ _ _ z];simp only[AV,upd,Cs,Jk];omega
 ·dsimp only
  rw[EM,Hl];refine⟨h.Aq,iE,λa O b I=>?_⟩;simp at I;subst I;obtain⟨e,E,rfl⟩:=Cn.1 O;exact z e E
 ·dsimp only
  rw[EM,Hl];refine⟨h.Ck,iE,λa O b I=>?_⟩;simp at I;subst I;obtain⟨e,E,rfl⟩:=Cn.1 O;exact(J1.1 X) e E
 ·unfold PD.fl;dsimp only
  rw[lookup_append];by_cases L:m=nm
  ·subst L;rw[X];simp[lookup,upd]
  ·have d:¬Ab nm=Ab m:=λe=>L (Gr.1 e).symm;simp only[lookup,d,Cf,VY,L];cases hk:lookup P.D.A6 (Ab m) with
   | none=>rfl
   | some f=>
    have:f≠P.D.AW:=z _ (Eo hk);simp[upd,this]
def Lv(l:Bs):(Ab l).size=l.length:=by simp[Ab,ByteArray.size]
def Cm.au{c:FC}(h:Cm P (N+1) R)(I:P.fl nm=some c)(l:Bs)(hl:l.length<=R):
 (P.au (Ab nm) l).1=0/\Cm (P.au (Ab nm) l).2 N (R-l.length)/\∀m,(P.au (Ab nm) l).2.fl m=if m=nm then some (c.1++l,c.2) else P.fl m:=by
 obtain⟨f,z,rfl⟩:=Na I;have hroom:=h.Av;have d:¬((Ab l).size:Int)>Gw {P.D with n:={P.D.n with Bc:=P.D.n.Bc+1}} P.F:=by
  unfold Gw;rw[Lv];dsimp only;omega
 unfold PD.au BA;rw[z];dsimp only
 rw[h.bg];dsimp only
 rw[Ai rfl];unfold BP;rw[Af d];dsimp only
 have L:(Ab l).data.toList.take ((Ab l).size:Int).toNat=l:=by rw[Lv];simp[Ab]
 rw[L];have hu:=Rf P.F f ((P.F f).1++l,(P.F f).2) P.D.A6 h.Aq ⟨_,Eo z,rfl⟩;refine⟨rfl,⟨h.Bh,h.CZ,h.E7,by have:=h.Bc;dsimp only;omega,?_,h.Aq,h.Ck⟩,λm=>?_⟩
 ·dsimp only
  simp only[B3]at hu;omega
 ·unfold PD.fl;dsimp only
  by_cases E:m=nm
  ·subst E;rw[z];simp[upd]
  ·rw[Af E];cases hk:lookup P.D.A6 (Ab m) with
   | none=>rfl
   | some g=>
    have:g≠f:=λe=>E (by
     have:=Kv h.Aq (Eo hk) (Eo z) e
     exact Gr.1 (Qn this).1)
    simp[upd,this]
def Cm.ae{c:FC}(h:Cm P (N+1) R)(z:P.fl nm=some c):
 (P.ae (Ab nm)).1=0/\Cm (P.ae (Ab nm)).2 N R/\∀m,((P.ae (Ab nm)).2.fl m).map (·.1)=(P.fl m).map (·.1):=by
 obtain⟨f,d,rfl⟩:=Na z;unfold PD.ae CP;rw[d];dsimp only
 rw[h.bg];dsimp only
 rw[Ai rfl];have hu:=Rf P.F f ((P.F f).1,(P.F f).1.length) P.D.A6 h.Aq ⟨_,Eo d,rfl⟩;refine⟨rfl,⟨h.Bh,h.CZ,h.E7,by have:=h.Bc;dsimp only;omega,?_,h.Aq,h.Ck⟩,λm=>?_⟩
 ·have:=h.Av;dsimp only at hu ⊢;omega
 ·unfold PD.fl;dsimp only
  cases hk:lookup P.D.A6 (Ab m) with
  | none=>rfl
  | some g=>
   by_cases e:g=f
   ·subst e;simp[upd]
   ·simp[upd,e]
def Cm.aI(h:Cm P (N+1) R):P.aI.1=0/\Cm P.aI.2 N R/\∀m,P.aI.2.fl m=P.fl m:=by
 unfold PD.aI Ef;dsimp only
 rw[h.bg];dsimp only
 rw[Ai rfl];exact⟨rfl,⟨h.Bh,h.CZ,h.E7,by have:=h.Bc;dsimp only;omega,h.Av,h.Aq,h.Ck⟩,λ_=>rfl⟩
def Cm.cG(h:Cm P (N+1) R)(_p:gE->Bool)(es:gF AP)(hu:AV P.F es<=AV P.F P.D.A6)(z:(es.map (·.2)).Nodup)(d:(es.map (·.1)).Nodup):
 Cm ⟨{P.D with A6:=es,As:=P.D.As++[es],n:={P.D.n with Bc:=P.D.n.Bc+1}},P.F⟩ N R:=
 ⟨h.Bh,h.CZ,h.E7,by have:=h.Bc;dsimp only;omega,by have:=h.Av;dsimp only;omega,z,d⟩
def Cm.aF{c:FC}(h:Cm P (N+1) R)(I:P.fl nm=some c):
 (P.aF (Ab nm)).1=0/\Cm (P.aF (Ab nm)).2 N R/\∀m,(P.aF (Ab nm)).2.fl m=if m=nm then none else P.fl m:=by
 obtain⟨f,E,rfl⟩:=Na I;have z:¬Bb P.D.A6 (Ab nm)<0:=λh=>by rw[JP,E]at h;cases h
 unfold PD.aF DB;rw[Af z];dsimp only
 rw[h.bg];dsimp only
 rw[Ai rfl,UR _ _ h.Ck z];refine⟨rfl,h.cG (λ_=>true) _ (Of _ _ _) (h.Aq.sublist (HF.map _)) (h.Ck.sublist (HF.map _)),λm=>?_⟩;unfold PD.fl;dsimp only
 rw[LA P.D.A6 (λx=>decide (x≠Ab nm))];by_cases d:m=nm
 ·subst d;simp
 ·have:Ab m≠Ab nm:=λe=>d (Gr.1 e);simp[this,d]
def Cm.aQ{c:FC}{oe:Bs}(h:Cm P (N+1) R)(h0:P.fl oe=some c)(E:nm≠[])(hd:oe≠nm):
 (P.aQ (Ab oe) (Ab nm)).1=0/\Cm (P.aQ (Ab oe) (Ab nm)).2 N R/\∀m,(P.aQ (Ab oe) (Ab nm)).2.fl m=if m=nm then some c else if m=oe then none else P.fl m:=by
 obtain⟨f,hf,rfl⟩:=Na h0;have hx:¬Bb P.D.A6 (Ab oe)<0:=λh=>by rw[JP,hf]at h;cases h
 have z:=Eo hf;unfold PD.aQ Da;rw[hf];dsimp only
 rw[Af (Tx E),h.bg];dsimp only
 rw[Ai rfl,Sq _ _ _ h.Ck hx];have O:(P.D.A6.filter λe=>decide (e.1≠Ab oe/\e.1≠Ab nm))=(P.D.A6.filter λe=>decide (e.1≠Ab oe)).filter λe=>decide (e.1≠Ab nm):=by
  rw[Wp];congr 1;funext e;simp[and_comm]
 have hparts:AV P.F (P.D.A6.filter λe=>decide (e.1≠Ab oe))+(P.F f).1.length<=AV P.F P.D.A6:=by
  have Y:∀es:gF AP,(Ab oe,f)∈es->AV P.F (es.filter λe=>decide (e.1≠Ab oe))+(P.F f).1.length<=AV P.F es:=by
   intro es
   induction es with
   | nil=>intro h;cases h
   | cons e r ih=>
    intro d;by_cases I:e.1=Ab oe
    ·rw[KZ (by simp[I])];rcases BS.1 d with d|d
     ·subst d;have:=Of P.F r λe=>decide (e.1≠Ab oe);simp only[AV];omega
     ·have:=ih d;simp only[AV];omega
    ·rw[Jm (by simp[I])];rcases BS.1 d with d|d
     ·subst d;exact absurd rfl I
     ·have:=ih d;simp only[AV];omega
  exact Y _ z
 refine⟨rfl,h.cG (λ_=>true) _ ?_ ?_ ?_,λm=>?_⟩
 ·rw[Lh,O];have:=Of P.F (P.D.A6.filter λe=>decide (e.1≠Ab oe)) λe=>decide (e.1≠Ab nm);simp only[AV];omega
 ·rw[EM,Hl];refine⟨h.Aq.sublist (HF.map _),iE,λa ha b L=>?_⟩;simp at L;subst L;obtain⟨e,I,rfl⟩:=Cn.1 ha;have⟨he1,he2⟩:=H3.1 I;intro aA;have:=Kv h.Aq he1 z aA;subst this;simp at he2
 ·rw[EM,Hl];refine⟨h.Ck.sublist (HF.map _),iE,λa ha b L=>?_⟩;simp at L;subst L;obtain⟨e,I,rfl⟩:=Cn.1 ha;have:=(H3.1 I).2;simp at this;exact this.2
 ·unfold PD.fl;dsimp only
  rw[lookup_append,LA P.D.A6 (λx=>decide (x≠Ab oe/\x≠Ab nm))];by_cases d:m=nm
  ·subst d;simp[lookup]
  ·have E:¬Ab nm=Ab m:=λe=>d (Gr.1 e).symm;have X:Ab m≠Ab nm:=λe=>d (Gr.1 e);simp only[lookup,E,Cf,VY,d];by_cases ho:m=oe
   ·subst ho;simp
   ·have:Ab m≠Ab oe:=λe=>ho (Gr.1 e);simp[this,X,ho]
end
def A1D(l:gF gE)(x:gE):(ins l x).Perm (x::l):=by
 unfold ins;refine List.perm_middle.trans ?_;rw[Ec]
def V0(es:gF AP):∀k,k<=es.length->(Fc es k).Perm ((es.take k).map (·.1)):=by
 intro k
 induction k with
 | zero=>intro _;simp[Fc]
 | succ k ih=>
  intro hk;have d:k<es.length:=iC
  rw[Nk es k d,Ds d,EM];refine(A1D _ _).trans ?_;refine((ih iC).cons _).trans ?_;exact(List.perm_append_singleton _ _).symm
def LR(es:gF AP):(dList es).Perm (es.map (·.1)):=by
 have:=V0 es es.length (An _)
 rwa [C5]at this
def PD.bs(P:PD)(nm:Bs):Option Bs:=(P.fl nm).map (·.1)
section
variable{P P':PD}{N R:Nat}{nm:Bs}
def HL:nm∈P.Az↔P.bs nm≠none:=by
 unfold PD.Az PD.bs PD.fl;rw[Cn];constructor
 ·rintro⟨b,z,rfl⟩;have:=(LR P.D.A6).mem_iff.1 z;obtain⟨e,d,rfl⟩:=Cn.1 this;cases hk:lookup P.D.A6 (Ab e.1.data.toList) with
  | none=>rw[G4]at hk;exact absurd rfl (J1.1 hk e d)
  | some f=>simp
 ·intro h;cases hk:lookup P.D.A6 (Ab nm) with
  | none=>rw[hk]at h;exact absurd rfl h
  | some f=>
   refine⟨Ab nm,(LR P.D.A6).mem_iff.2 (Cn.2 ⟨_,Eo hk,rfl⟩),by simp[Ab]⟩
def Cm.db(h:Cm P N R):P.Az.Nodup:=by
 unfold PD.Az;have z:=(LR P.D.A6).nodup_iff.2 h.Ck;rw[List.Nodup,KR];refine List.Pairwise.imp (λd e=>d ?_) z;rename_i a b;rw[<-G4 a,<-G4 b,e]
def Jc:P.bs nm=none↔P.fl nm=none:=by unfold PD.bs;simp
def LU{c:Bs}(h:P.bs nm=some c):∃k,P.fl nm=some (c,k):=by
 unfold PD.bs at h;cases hx:P.fl nm with
 | none=>rw[hx]at h;cases h
 | some x=>rw[hx]at h;obtain⟨a,k⟩:=x;simp at h;subst h;exact⟨k,rfl⟩
def Cm.ec(h:Cm P (N+1) R)(z:P.bs nm=none)(d:nm≠[]):
 (P.aq (Ab nm)).1=0/\Cm (P.aq (Ab nm)).2 N R/\∀m,(P.aq (Ab nm)).2.bs m=if m=nm then some [] else P.bs m:=by
 have⟨h1,h2,h3⟩:=h.aq (Jc.1 z) d;refine⟨h1,h2,λm=>?_⟩;unfold PD.bs;rw[h3 m];split<;>rfl
def Cm.fI{c:Bs}(h:Cm P (N+1) R)(z:P.bs nm=some c)(l:Bs)(d:l.length<=R):
 (P.au (Ab nm) l).1=0/\Cm (P.au (Ab nm) l).2 N (R-l.length)/\∀m,(P.au (Ab nm) l).2.bs m=if m=nm then some (c++l) else P.bs m:=by
 have⟨k,hk⟩:=LU z;have⟨h1,h2,h3⟩:=h.au hk l d;refine⟨h1,h2,λm=>?_⟩;unfold PD.bs;rw[h3 m];split<;>rfl
def Cm.dD{c:Bs}(h:Cm P (N+1) R)(d:P.bs nm=some c):
 (P.ae (Ab nm)).1=0/\Cm (P.ae (Ab nm)).2 N R/\∀m,(P.ae (Ab nm)).2.bs m=P.bs m:=by
 have⟨k,hk⟩:=LU d;exact h.ae hk
def Cm.ed(h:Cm P (N+1) R):P.aI.1=0/\Cm P.aI.2 N R/\∀m,P.aI.2.bs m=P.bs m:=by
 have⟨h1,h2,h3⟩:=h.aI;exact⟨h1,h2,λm=>by unfold PD.bs;rw[h3 m]⟩
def Cm.gm{c:Bs}(h:Cm P (N+1) R)(d:P.bs nm=some c):
 (P.aF (Ab nm)).1=0/\Cm (P.aF (Ab nm)).2 N R/\∀m,(P.aF (Ab nm)).2.bs m=if m=nm then none else P.bs m:=by
 have⟨k,hk⟩:=LU d;have⟨h1,h2,h3⟩:=h.aF hk;refine⟨h1,h2,λm=>?_⟩;unfold PD.bs;rw[h3 m];split<;>rfl
def Cm.gd{c:Bs}{oe:Bs}(h:Cm P (N+1) R)(E:P.bs oe=some c)(d:nm≠[])(z:oe≠nm):
 (P.aQ (Ab oe) (Ab nm)).1=0/\Cm (P.aQ (Ab oe) (Ab nm)).2 N R/\∀m,(P.aQ (Ab oe) (Ab nm)).2.bs m=if m=nm then some c else if m=oe then none else P.bs m:=by
 have⟨k,hk⟩:=LU E;have⟨h1,h2,h3⟩:=h.aQ hk d z;refine⟨h1,h2,λm=>?_⟩;unfold PD.bs;rw[h3 m];split
 ·rfl
 ·split<;>rfl
def JT:P.C9 nm=match P.bs nm with|some c=>(c,0)|none=>([],8):=by
 unfold PD.C9 Eh PD.bs PD.fl;cases lookup P.D.A6 (Ab nm)<;>rfl
def UZ:CH P.D P.F (Ab nm)=match P.bs nm with|some c=>((c.length:Int),0)|none=>(0,8):=by
 unfold CH PD.bs PD.fl;cases lookup P.D.A6 (Ab nm)<;>rfl
def EP(s:Nat)(l:Bs):(AT s l).length=l.length+4:=by simp[AT,I2]
def Cm.af{c:Bs}(h:Cm P (N+1) R)(d:P.bs nm=some c)(s:Nat)(l:Bs)(hl:l.length+4<=R):
 (P.af (Ab nm) s l).1=true/\(P.af (Ab nm) s l).2.1=0/\Cm (P.af (Ab nm) s l).2.2 N (R-(l.length+4))/\∀m,(P.af (Ab nm) s l).2.2.bs m=if m=nm then some (c++AT s l) else P.bs m:=by
 have z:=EP s l;have⟨h1,h2,h3⟩:=h.fI d (AT s l) iC;rw[z]at h2;refine⟨?_,h1,h2,h3⟩;show HT P.D P.F (Ab nm) (AT s l)=true;unfold HT;have e:=@UZ (P.au (Ab nm) (AT s l)).2 nm;have E:CH (BA P.D P.F (Ab nm) ⟨(AT s l).toArray⟩).2.1 (BA P.D P.F (Ab nm) ⟨(AT s l).toArray⟩).2.2 (Ab nm)=CH (P.au (Ab nm) (AT s l)).2.D (P.au (Ab nm) (AT s l)).2.F (Ab nm):=rfl;rw[E,e,h3 nm,UZ,d];simp only[Cs,B3];simp only[Ea];omega
def Cm.aH(h:Cm P (N+3) R)(I:P.bs nm=none)(d:nm≠[])(s:Nat)(l:Bs)(E:l.length+4<=R):
 (P.aH nm s l).1=0/\Cm (P.aH nm s l).2 N (R-(l.length+4))/\∀m,(P.aH nm s l).2.bs m=if m=nm then some (AT s l) else P.bs m:=by
 have⟨a1,a2,a3⟩:=Cm.ec (N:=N+2) h I d;obtain⟨-,b1,b2,z⟩:=Cm.af (N:=N+1) (nm:=nm) (c:=[]) a2 (by rw[a3];simp) s l E;have⟨c1,c2,c3⟩:=Cm.dD (N:=N) (nm:=nm) (c:=AT s l) b2 (by rw[z];simp);unfold PD.aH;rw[Af (by simp[a1]),Af (by simp[b1])];refine⟨c1,c2,λm=>?_⟩;rw[c3,z,a3];split
 ·simp
 ·rfl
def Xl(s:Nat)(l:Bs):Ir s (AT s l)=some l:=by
 unfold Ir;have hp:=EP s l;have d:(AT s l).length-4=l.length:=iC
 rw[Af iC,d];have z:(AT s l).take l.length=l:=by simp[AT]
 have h:(AT s l).drop l.length=Cl (AY s l):=by simp[AT]
 rw[z,h,Ai rfl]
def SA{l:Bs}(h:P.bs nm=some (AT (AI nm) l)):P.aY nm=(l,0):=by
 unfold PD.aY;rw[JT,h];simp[Xl]
def Zm(h:P.bs nm=none):P.aY nm=([],8):=by
 unfold PD.aY;rw[JT,h];simp
def Cm.ax:∀(l:gF Bs) {P:PD},Cm P (N+l.length) R->(∀m∈l,P.bs m≠none)->(PD.ax l P).1=0/\Cm (PD.ax l P).2 N R/\∀m,(PD.ax l P).2.bs m=P.bs m
 | [],P,h,_=>⟨rfl,h,λ_=>rfl⟩
 | x::r,P,h,hm=>by
  obtain⟨c,O⟩:=Qo.1 (hm x (BI ..));obtain⟨E,I,z⟩:=Cm.dD (N:=N+r.length) (by simpa[Nat.add_assoc] using h) O;obtain⟨b1,b2,L⟩:=Cm.ax r I λm d=>by rw[z];exact hm m (BC _ d)
  unfold PD.ax;rw[Af (by simp[E])];exact⟨b1,b2,λm=>by rw[L,z]⟩
def Cm.aN:∀(l:gF Bs) {P:PD},Cm P (N+l.length) R->l.Nodup->(∀m∈l,P.bs m≠none)->(PD.aN l P).1=0/\Cm (PD.aN l P).2 N R/\∀m,(PD.aN l P).2.bs m=if m∈l then none else P.bs m
 | [],P,h,_,_=>⟨rfl,h,λm=>by simp[PD.aN]⟩
 | x::r,P,h,hn,hm=>by
  have d:=K3.1 hn;obtain⟨c,X⟩:=Qo.1 (hm x (BI ..));obtain⟨I,L,E⟩:=Cm.gm (N:=N+r.length) (by simpa[Nat.add_assoc] using h) X;obtain⟨b1,b2,O⟩:=Cm.aN r L d.2 λm z=>by
   (have e:m≠x:=λe=>by subst e;exact d.1 z);rw[E,Af e];exact hm m (BC _ z)
  unfold PD.aN;rw[Af (by simp[I])];refine⟨b1,b2,λm=>?_⟩;rw[O,E];by_cases e:m=x
  ·subst e;simp
  ·simp[e]
end
def Ul:∀(l:gF Int) (k:Nat) (r:Bs),(∀n∈l,Ay n)->l.length<k->r.length<8->GK k (l.flatMap AQ++r)=l
 | [],k,r,_,_,hr=>by
  cases k with
  | zero=>rfl
  | succ k=>simp[GK,hr]
 | n::t,k,r,hn,hk,hr=>by
  cases k with
  | zero=>simp at hk
  | succ k=>
   (have e:(n::t).flatMap AQ++r=AQ n++(t.flatMap AQ++r):=by simp[List.append_assoc]);have d:=CT n;rw[e];unfold GK;rw[Af (by simp[d]),N7 n (hn n (BI ..))];rw[Wr (by rw[d]),Ul t k r (λx h=>hn x (BC _ h)) (by simp at hk;omega) hr]
def JO(l:gF Int):(l.flatMap AQ).length=8*l.length:=by
 induction l with
 | nil=>rfl
 | cons n t ih=>rw[Mj,B3,ih,CT,CA];omega
def A1u(l:gF Int)(h:∀n∈l,Ay n):ES (l.flatMap AQ)=l:=by
 unfold ES;cases l with
 | nil=>rfl
 | cons n t=>
  have:=Ul (n::t) ((n::t).flatMap AQ).length [] h (by rw[JO];simp) iE;simpa using this
structure O1 (ix:Ix):Prop where
 Bd:isNum ix.Bd=true
 sd:∀n∈ix.sd,isNum n=true
 Fj:CE Ct ix.sd=true
def Pv{n:Int}(h:isNum n=true):Ay n:=by
 unfold isNum at h;simp at h;constructor<;>omega
def A1T{ix:Ix}(h:O1 ix):indexOf (Cp ix.Bd ix.sd,0)=some ix:=by
 have z:Cp ix.Bd ix.sd=(ix.Bd::ix.sd).flatMap AQ:=by simp[Cp]
 have hall:∀n∈ix.Bd::ix.sd,isNum n=true:=λn d=>by
  rcases BS.1 d with rfl|d
  ·exact h.Bd
  ·exact h.sd n d
 have e:ES (Cp ix.Bd ix.sd)=ix.Bd::ix.sd:=by
  rw[z];exact A1u _ λn d=>Pv (hall n d)
 have E:(Cp ix.Bd ix.sd).length=(ix.Bd::ix.sd).length*8:=by rw[z,JO];omega
 unfold indexOf;dsimp only
 rw[Af iF,e,Af (by simp[E]),Af,Ai]
 ·simp
 ·simpa using h.Fj
 ·have:(ix.Bd::ix.sd).all isNum=true:=O0.2 hall;rw[this];simp
def A1S:indexOf ([],8)=some ⟨1,[]⟩:=by simp[indexOf]
def FH(p:Pu):(Bg p.1 p.2.1 p.2.2).length=17:=by simp[Bg,CT]
def SU{p:Pu}(h:Bo p)(r:Bs):MQ (Bg p.1 p.2.1 p.2.2++r)=p/\((Bg p.1 p.2.1 p.2.2++r).headD 0).toNat<8:=by
 obtain⟨a,t,v⟩:=p;obtain⟨⟨O,L⟩,z,d⟩:=h;dsimp only at O L z d ⊢;have I:=CT t;have E:((UInt8.ofNat (a % 256).toNat).toNat:Int)=a:=by
  have:(a % 256).toNat=a.toNat:=iC
  rw[this];simp;omega
 unfold MQ Bg;simp only[Ga,List.headD_cons,DK,Dm,Ci];rw[E,N7 t z,Wr (by rw[I]),N7 v d];exact⟨rfl,iC⟩
def RU:∀(l:gF Pu) (k:Nat),(∀p∈l,Bo p)->l.length<k->F5 k (Cr l)=some (l,[])
 | [],k,_,hk=>by
  cases k with
  | zero=>simp at hk
  | succ k=>simp[F5,Cr]
 | p::t,k,hp,hk=>by
  cases k with
  | zero=>simp at hk
  | succ k=>
   (have e:Cr (p::t)=Bg p.1 p.2.1 p.2.2++Cr t:=by simp[Cr]);have⟨h1,h2⟩:=SU (hp p (BI ..)) (Cr t);have d:=FH p;rw[e];unfold F5;rw[Af (by simp[d]),Ai h2,Wr (by rw[d]),RU t k (λx h=>hp x (BC _ h)) (by simp at hk;omega),h1];rfl
def IT(l:gF Pu):(Cr l).length=17*l.length:=by
 induction l with
 | nil=>rfl
 | cons p t ih=>
  have e:Cr (p::t)=Bg p.1 p.2.1 p.2.2++Cr t:=by simp[Cr]
  rw[e,B3,ih,FH,CA];omega
def YA{l:gF Pu}(h:∀p∈l,Bo p)(d:CE Cx l=true):Jt (Cr l,0)=some l:=by
 unfold Jt;dsimp only
 rw[Af iF];cases l with
 | nil=>simp[Cr,F5,d]
 | cons p t=>
  rw[RU (p::t) _ h (by rw[IT];simp)];simp[d]
def Ep:Nat->gF Pu->Bs
 | _,[]=>[]
 | s,p::r=>AT s (Bg p.1 p.2.1 p.2.2)++Ep (AY s (Bg p.1 p.2.1 p.2.2)) r
def I6:Nat->gF Pu->Nat
 | s,[]=>s
 | s,p::r=>I6 (AY s (Bg p.1 p.2.1 p.2.2)) r
def U4:∀(l:gF Pu) (s:Nat) (p:Pu),Ep s (l++[p])=Ep s l++AT (I6 s l) (Bg p.1 p.2.1 p.2.2)/\I6 s (l++[p])=AY (I6 s l) (Bg p.1 p.2.1 p.2.2)
 | [],s,p=>by simp[Ep,I6]
 | x::r,s,p=>by
  have⟨h1,h2⟩:=U4 r (AY s (Bg x.1 x.2.1 x.2.2)) p;simp only[Ga,Ep,I6,h1,h2,Ci,and_self]
def JJ:∀(l:gF Pu) (s:Nat),(Ep s l).length=21*l.length
 | [],_=>rfl
 | p::r,s=>by
  simp only[Ep,B3,EP,FH,JJ r,CA];omega
def MO:∀(l:gF Pu) (s k:Nat) (t:Bs),(∀p∈l,Bo p)->l.length<k->t.length<21->E2 k s (Ep s l++t)=(l,true)
 | [],s,k,t,_,_,ht=>by simp only[Ep,Fh];exact SD ht
 | p::r,s,k,t,hp,hk,ht=>by
  cases k with
  | zero=>simp at hk
  | succ k=>
   have z:=hp p (BI ..);have h17:=FH p;have E:=MO r (AY s (Bg p.1 p.2.1 p.2.2)) k t (λx I=>hp x (BC _ I)) (by simp at hk;omega) ht;have⟨h1,h2⟩:=SU z [];have d:Bg p.1 p.2.1 p.2.2=UInt8.ofNat (p.1 % 256).toNat::(AQ p.2.1++AQ p.2.2):=rfl;simp only[Gk]at h1 h2;have e:Ep s (p::r)++t=UInt8.ofNat (p.1 % 256).toNat::(AQ p.2.1++AQ p.2.2)++Cl (AY s (Bg p.1 p.2.1 p.2.2))++(Ep (AY s (Bg p.1 p.2.1 p.2.2)) r++t):=by
    simp only[Ep,AT,d,Ci]
   rw[e,SH (by simp[CT]) (I2 _) (by rw[<-d]) (by rw[d]at h2;exact h2)];rw[<-d,E];have h:=h1;unfold MQ at h;rw[d]at h;simp only[List.headD_cons,DK,Dm]at h;rw[h]
def Er(nm:Bs)(ag:Int)(l:gF Pu):Bs:=AT (AI nm) (AQ ag)++Ep (AY (AI nm) (AQ ag)) l
def FK(nm:Bs)(ag:Int)(l:gF Pu):Nat:=I6 (AY (AI nm) (AQ ag)) l
def JK(nm:Bs)(ag:Int)(l:gF Pu):(Er nm ag l).length=12+21*l.length:=by
 unfold Er;rw[B3,EP,CT,JJ]
def U6(nm:Bs)(ag:Int)(l:gF Pu)(p:Pu):Er nm ag (l++[p])=Er nm ag l++AT (FK nm ag l) (Bg p.1 p.2.1 p.2.2)/\FK nm ag (l++[p])=AY (FK nm ag l) (Bg p.1 p.2.1 p.2.2):=by
 have⟨h1,h2⟩:=U4 l (AY (AI nm) (AQ ag)) p;unfold Er FK;rw[h1,h2,Ci];exact⟨rfl,rfl⟩
def SK(nm:Bs)(ag:Int)(l:gF Pu)(t:Bs)(h:Ay ag)(d:∀p∈l,Bo p)(z:t.length<21):GF (AI nm) ag (Er nm ag l++t)=(l,0):=by
 have e:Er nm ag l++t=AQ ag++Cl (AY (AI nm) (AQ ag))++(Ep (AY (AI nm) (AQ ag)) l++t):=by
  simp only[Er,AT,Ci]
 rw[e,SJ (CT _) (I2 _)];have E:BM (AQ ag)=ag:=by have:=N7 ag h [];simpa using this
 rw[Ai ⟨rfl,E⟩,MO l _ _ t d (by rw[B3,JJ];omega) z];simp
def Zr(s:Nat)(ag:Int)(t:Bs)(d:t.length<12):GF s ag t=([],0):=by
 unfold GF;rw[Ai d]
section
variable{P:PD}{n ag:Int}
def U0{c:Bs}(h:P.bs (Ah n)=some c):P.aW n ag=GF (AI (Ah n)) ag c:=by
 have d:=@JT P (Ah n);unfold PD.C9 at d;rw[h]at d;unfold PD.aW H8;have e:Eh P.D P.F ⟨(Ah n).toArray⟩=(c,0):=d;rw[e];simp
def A1P{ix:Ix}(h:O1 ix)(d:P.bs AJ=some (AT (AI AJ) (Cp ix.Bd ix.sd))):P.ba=some ix:=by
 unfold PD.ba;rw[SA d,A1T h]
def PC(d:P.bs AJ=none):P.ba=some ⟨1,[]⟩:=by
 unfold PD.ba;rw[Zm d,A1S]
def Yw{l:gF Pu}(h:∀p∈l,Bo p)(z:CE Cx l=true)(d:P.bs (AH n)=some (AT (AI (AH n)) (Cr l))):P.CD n=some l:=by
 unfold PD.CD;rw[SA d,YA h z]
def Pj{l:gF Pu}{t:Bs}(d:Ay ag)(h:∀p∈l,Bo p)(z:t.length<21)(E:P.bs (Ah n)=some (Er (Ah n) ag l++t)):P.aW n ag=(l,0):=by
 rw[U0 E,SK _ _ _ _ d h z]
end
def JF(n:Int):Ah n=108::(Lib.repeatL [48] (19-(Lib.itoa n).length)++Lib.itoa n):=by simp[Ah,BU,EF,Di]
def IY(n:Int):AH n=115::(Lib.repeatL [48] (19-(Lib.itoa n).length)++Lib.itoa n):=by simp[AH,BU,EF,Di]
def TQ{lt:Bs}{a b:Int}(d:isNum a=true)(E:isNum b=true)(h:EF lt a=EF lt b):a=b:=by
 unfold isNum at d E;simp at d E;have z:=N0 lt (n:=a) iC iC;have I:=N0 lt (n:=b) iC iC;rw[h,I]at z;simpa using z.symm
def Gq{a b:Int}(d:isNum a=true)(z:isNum b=true)(h:Ah a=Ah b):a=b:=TQ (lt:=Di 1) d z (by simpa[Ah,BU] using h)
def Lu{a b:Int}(d:isNum a=true)(z:isNum b=true)(h:AH a=AH b):a=b:=TQ (lt:=Di 2) d z (by simpa[AH,BU] using h)
def Gv(a b:Int):Ah a≠AH b:=by rw[JF,IY];simp
def I5(a:Int):Ah a≠AJ:=by rw[JF];simp[AJ]
def Kk(a:Int):AH a≠AJ:=by rw[IY];simp[AJ]
def LB(a:Int):Ah a≠Bx:=by rw[JF];simp[Bx]
def ME(a:Int):AH a≠Bx:=by rw[IY];simp[Bx]
def JL:AJ≠Bx:=by simp[AJ,Bx]
def Lx{n:Int}(h:isNum n=true):Br (Ah n)=(1,n):=by
 have d:1<=n/\n<=4611686018427387904:=by unfold isNum at h;simpa using h
 unfold Br;have e:Ew [108] (Ah n)=some n:=by
  have:=N0 (Di 1) (n:=n) iC d.2;simpa[Ah,BU,Di] using this
 rw[e]
def Lz{c d:UInt8}{r:Bs}(h:c≠d):Ew [c] (d::r)=none:=by
 cases hx:Ew [c] (d::r) with
 | none=>rfl
 | some v=>have:=(Ly hx).2;simp[EF]at this;exact absurd this.1 h
def Pd{n:Int}(h:isNum n=true):Br (AH n)=(2,n):=by
 have d:1<=n/\n<=4611686018427387904:=by unfold isNum at h;simpa using h
 have e:Ew [115] (AH n)=some n:=by
  have:=N0 (Di 2) (n:=n) iC d.2;simpa[AH,BU,Di] using this
 have z:Ew [108] (AH n)=none:=by rw[IY];exact Lz iF
 unfold Br HN;rw[z,e]
def TH:Br AJ=(3,0):=by
 have h:Ew [108] AJ=none:=Lz iF;have d:Ew [115] AJ=none:=Lz iF;unfold Br HN;rw[h,d];simp[HM]
def A0S(a:Int):Ah a≠[]:=by rw[JF];simp
def Yx(a:Int):AH a≠[]:=by rw[IY];simp
def Fv(P:PD):Int->gF (Int×gF Pu)->Prop
 | _,[]=>True
 | a,x::r=>P.aW x.1 a=(x.2,0)/\Fv P (a+x.2.length) r
def Ax(l:gF (Int×gF Pu)):gF Pu:=l.flatMap (·.2)
def VX(P:PD)(j:Jn)(cl:gF (Int×gF Pu)):Option (gF Pu)->Prop
 | none=>j.AB=none/\j.Ao=cl.map (·.1)
 | some l=>j.AB=some (j.Ac,FK (Ah j.Ac) j.pd l)/\j.Ao=cl.map (·.1)++[j.Ac]/\P.bs (Ah j.Ac)=some (Er (Ah j.Ac) j.pd l)/\(∀p∈l,Bo p)/\isNum j.Ac=true
structure Lay (P:PD) (A:Ar) (sg cl:gF (Int×gF Pu)) (ol:Option (gF Pu)):Prop where
 E4:O1 A.ix
 ix:(P.bs AJ=none/\A.ix=⟨1,[]⟩)\/P.bs AJ=some (AT (AI AJ) (Cp A.ix.Bd A.ix.sd))
 sd:sg.map (·.1)=A.ix.sd
 CD:∀x∈sg,((∀p∈x.2,Bo p)/\CE Cx x.2=true)/\P.bs (AH x.1)=some (AT (AI (AH x.1)) (Cr x.2))
 D7:∀x∈cl,(isNum x.1=true/\x.1<=A.j.Ac)/\∀p∈x.2,Bo p
 JS:∀x∈cl,ol≠none->x.1≠A.j.Ac
 Fb:(∀x∈cl,A.ix.Bd<=x.1)/\(ol≠none->A.ix.Bd<=A.j.Ac)
 Ao:Fv P 0 cl
 GS:A.j.pd=((Ax cl).length:Int)
 AB:VX P A.j cl ol
 F9:0<=A.j.Ac/\A.ix.Bd<=A.j.Ac+1/\∀n,isNum n=true->P.bs (Ah n)≠none->n<=A.j.Ac
 EO:0<=A.Ac/\∀n,isNum n=true->P.bs (AH n)≠none->n<=A.Ac
 AS:∀nm∈A.AS,P.bs nm≠none
 HQ:A.j.Ao.Pairwise (· < ·)
 EE:∀nm,P.bs nm≠none->(Br nm).1≠0
 I4:∀n,isNum n=true->A.ix.Bd<=n->P.bs (Ah n)≠none->n∈A.j.Ao
def Bk(sg cl:gF (Int×gF Pu))(ol:Option (gF Pu)):gF Pu:=Ax sg++(Ax cl++ol.getD [])
section
variable{P P':PD}{A:Ar}{sg cl:gF (Int×gF Pu)}{ol:Option (gF Pu)}{N R:Nat}
def Fv.av(d:∀m,P'.bs m=P.bs m):∀ {a:Int} {l:gF (Int×gF Pu)},Fv P a l->Fv P' a l
 | _,[],_=>trivial
 | a,x::r,h=>by
  obtain⟨E,z⟩:=h;refine⟨?_,z.av d⟩;rw[<-E];unfold PD.aW H8;have e:∀Q:PD,Eh Q.D Q.F ⟨(Ah x.1).toArray⟩=match Q.bs (Ah x.1) with|some c=>(c,0)|none=>([],8):=λQ=>@JT Q (Ah x.1)
  rw[e P',e P,d]
def A0R{n:Int}(d:P'.bs (Ah n)=P.bs (Ah n))(a:Int):P'.aW n a=P.aW n a:=by
 unfold PD.aW H8;have e:∀Q:PD,Eh Q.D Q.F ⟨(Ah n).toArray⟩=match Q.bs (Ah n) with|some c=>(c,0)|none=>([],8):=λQ=>@JT Q (Ah n)
 rw[e P',e P,d]
def Fv.bx:∀ {a:Int} {l:gF (Int×gF Pu)},Fv P a l->(∀x∈l,P'.bs (Ah x.1)=P.bs (Ah x.1))->Fv P' a l
 | _,[],_,_=>trivial
 | a,x::_,h,hb=>⟨(A0R (hb x (BI ..)) a).trans h.1,h.2.bx λy d=>hb y (BC _ d)⟩
def Fv.bY:∀ {a:Int} {l:gF (Int×gF Pu)} {x:Int×gF Pu},Fv P a l->P.aW x.1 (a+(Ax l).length)=(x.2,0)->Fv P a (l++[x])
 | a,[],x,_,h=>⟨by simpa[Ax] using h,trivial⟩
 | a,y::r,x,h,h2=>⟨h.1,h.2.bY (by
  rw[<-h2];congr 1
  simp only[Ax,Mj,B3];omega)⟩
def OO:∀ {l:gF (Int×gF Pu)} {d:gF Pu},Fv P d.length l->P.bp (l.map (·.1)) d=(d++Ax l,0)
 | [],d,_=>by simp[PD.bp,Ax]
 | x::r,d,h=>by
  obtain⟨z,E⟩:=h;simp only[H4,PD.bp];rw[z];dsimp only
  rw[Af iE,OO (by simpa using E)];simp[Ax,List.append_assoc]
def A0V{n a:Int}{l:gF Pu}(h:P.aW n a=(l,0)):P.bs (Ah n)≠none:=by
 intro d;have e:Eh P.D P.F ⟨(Ah n).toArray⟩=([],8):=by have:=@JT P (Ah n);unfold PD.C9 at this;rw[d]at this;exact this
 unfold PD.aW H8 at h;rw[e]at h;simp at h
def Fv.DG:∀ {a:Int} {l:gF (Int×gF Pu)} {x:Int×gF Pu},Fv P a l->x∈l->P.bs (Ah x.1)≠none
 | a,y::r,x,h,d=>by
  rcases BS.1 d with rfl|d
  ·exact A0V h.1
  ·exact h.2.DG d
def Lay.dI(h:Lay P A sg cl ol)(hl:(Ax cl).length<=1099511627776):Ay A.j.pd:=by rw[h.GS];constructor<;>omega
def Lay.pd(h:Lay P A sg cl ol)(z:(Ax cl).length<=1099511627776):P.pd A.j.Ao=(Ax cl++ol.getD [],0):=by
 have d:=h.AB;unfold PD.pd;cases ol with
 | none=>
  rw[d.2,OO h.Ao];simp
 | some l=>
  obtain⟨-,I,E,L,h4⟩:=d
  have O:Fv P 0 (cl++[(A.j.Ac,l)]):=h.Ao.bY (by
   have:=h.GS;rw[O2,<-this]
   exact Pj (t:=[]) (h.dI z) L iE (by simpa using E))
  have e:cl.map (·.1)++[A.j.Ac]=(cl++[(A.j.Ac,l)]).map (·.1):=iE
  rw[I,e,OO O];simp[Ax]
def Lay.cu(h:Lay P A sg cl ol):P.sd A.ix.sd=some sg:=by
 rw[<-h.sd];have d:∀l:gF (Int×gF Pu),(∀x∈l,x∈sg)->P.sd (l.map (·.1))=some l:=by
  intro l
  induction l with
  | nil=>intro _;rfl
  | cons x r ih=>
   intro z;have⟨⟨h1,h2⟩,h3⟩:=h.CD x (z x (BI ..));simp only[H4,PD.sd];rw[Yw h1 h2 h3];dsimp only
   rw[ih λy E=>z y (BC _ E)];rfl
 exact d sg λ_ h=>h
def Lay.av(h:Lay P A sg cl ol)(d:∀m,P'.bs m=P.bs m):Lay P' A sg cl ol:=by
 refine⟨h.E4,by rw[d];exact h.ix,h.sd,λx z=>by rw[d];exact h.CD x z,h.D7,h.JS,h.Fb,h.Ao.av d,h.GS,?_,⟨h.F9.1,h.F9.2.1,λn I z=>h.F9.2.2 n I (by rw[<-d];exact z)⟩,
  ⟨h.EO.1,λn I z=>h.EO.2 n I (by rw[<-d];exact z)⟩,λnm E=>by rw[d];exact h.AS nm E,h.HQ,λnm E=>h.EE nm (by rw[<-d];exact E),λn O L X=>h.I4 n O L (by rw[<-d];exact X)⟩
 have:=h.AB;cases ol with
 | none=>exact this
 | some l=>unfold VX at this ⊢;rw[d];exact this
def Lay.I(h:Lay P A sg cl ol)(E:Cm P (N+A.AS.length) R):(A.I P).1=0/\(A.I P).2.1 = {A with AS:=[]}/\Cm (A.I P).2.2 N R/\(∀m,(A.I P).2.2.bs m=P.bs m)/\Lay (A.I P).2.2 {A with AS:=[]} sg cl ol:=by
 have⟨h1,h2,h3⟩:=Cm.ax A.AS E h.AS;have e:A.I P=(0,{A with AS:=[]},(P.ax A.AS).2):=by unfold Ar.I;rw[Af (by simp[h1])]
 have d:=h.av h3;rw[e];exact⟨rfl,rfl,h2,h3,⟨d.E4,d.ix,d.sd,d.CD,d.D7,d.JS,d.Fb,d.Ao,d.GS,d.AB,d.F9,d.EO,λnm z=>(by cases z),d.HQ,d.EE,d.I4⟩⟩
def Lay.aw(h:Lay P A sg cl none)(hc:Cm P (N+2) R)(hn:isNum (A.j.Ac+1)=true)(hR:12<=R):
 (A.j.aw P).1=0/\Cm (A.j.aw P).2.2 N (R-12)/\Lay (A.j.aw P).2.2 {A with j:=(A.j.aw P).2.1} sg cl (some [])/\(A.j.aw P).2.1.AB≠none:=by
 obtain⟨n,X⟩:=iG (A.j.Ac+1);have h0:P.bs (Ah n)=none:=by
  cases z:P.bs (Ah n) with
  | none=>rfl
  | some c=>have:=h.F9.2.2 n (X ▸ hn) (by rw[z];simp);omega
 have⟨a1,a2,a3⟩:=Cm.ec (N:=N+1) hc h0 (A0S n);obtain⟨-,b1,b2,b3⟩:=Cm.af (N:=N) (nm:=Ah n) (c:=[]) a2 (by rw[a3];simp) (AI (Ah n)) (AQ A.j.pd) (by rw[CT];omega);rw[CT]at b2;have L:=h.AB;have e:A.j.aw P=(0,⟨A.j.Ao++[n],n,A.j.pd,some (n,AY (AI (Ah n)) (AQ A.j.pd))⟩,((P.aq (Ab (Ah n))).2.af (Ab (Ah n)) (AI (Ah n)) (AQ A.j.pd)).2.2):=by
  unfold Jn.aw;rw[X,Af (by simp[a1])];dsimp only
  rw[Af (by simp[b1])]
 rw[e];dsimp only
 have d:∀m,m≠Ah n->((P.aq (Ab (Ah n))).2.af (Ab (Ah n)) (AI (Ah n)) (AQ A.j.pd)).2.2.bs m=P.bs m:=λm O=>by rw[b3,Af O,a3,Af O]
 have E:=b3 (Ah n);rw[Ai rfl,Fh]at E;generalize ((P.aq (Ab (Ah n))).2.af (Ab (Ah n)) (AI (Ah n)) (AQ A.j.pd)).2.2=P2 at d E b2;have I:=X ▸ hn;have Y:∀x∈cl,x.1≠n:=λx z e=>by have:=(h.D7 x z).1.2;omega
 refine⟨rfl,b2,⟨h.E4,?_,h.sd,λx z=>?_,λx z=>?_,λx z _=>Y x z,⟨h.Fb.1,λ_=>by have:=h.F9.2.1;dsimp only;omega⟩,?_,h.GS,?_,?_,?_,λnm O=>?_,?_,λnm O=>?_,λk h1 h2 h3=>?_⟩,iE⟩
 ·rw[d _ (I5 n).symm];exact h.ix
 ·rw[d _ (Gv n x.1).symm];exact h.CD x z
 ·have⟨⟨c1,c2⟩,c3⟩:=h.D7 x z;exact⟨⟨c1,by dsimp only;omega⟩,c3⟩
 ·exact h.Ao.bx λx z=>d _ λe=>Y x z (Gq (h.D7 x z).1.1 I e)
 ·refine⟨rfl,by dsimp only;rw[L.2],?_,iE,I⟩;dsimp only
  rw[E];simp[Er,Ep]
 ·refine⟨by have:=h.F9.1;dsimp only;omega,by have:=h.F9.2.1;dsimp only;omega,λk hk z=>?_⟩;dsimp only
  by_cases e:Ah k=Ah n
  ·have:=Gq hk I e;omega
  ·rw[d _ e]at z;have:=h.F9.2.2 k hk z;omega
 ·refine⟨h.EO.1,λk hk z=>h.EO.2 k hk ?_⟩
  rwa [d _ (Gv n k).symm]at z
 ·by_cases e:nm=Ah n
  ·subst e;rw[E];simp
  ·rw[d _ e];exact h.AS nm O
 ·dsimp only
  refine EL.2 ⟨h.HQ,iE,λa ha b hb=>?_⟩;simp at hb;subst hb;rw[L.2]at ha;obtain⟨x,z,rfl⟩:=Cn.1 ha;have:=(h.D7 x z).1.2;omega
 ·by_cases e:nm=Ah n
  ·subst e;rw[Lx I];simp
  ·rw[d _ e]at O;exact h.EE nm O
 ·dsimp only
  by_cases e:Ah k=Ah n
  ·have:=Gq h1 I e;subst this;simp
  ·rw[d _ e]at h3;exact G9 _ (h.I4 k h1 h2 h3)
def Lay.az{l:gF Pu}(h:Lay P A sg cl (some l))(hc:Cm P (N+1) R)(p:Pu)(hp:Bo p)(hR:21<=R):
 (A.j.az P p).1=true/\(A.j.az P p).2.1=0/\Cm (A.j.az P p).2.2.2 N (R-21)/\Lay (A.j.az P p).2.2.2 {A with j:=(A.j.az P p).2.2.1} sg cl (some (l++[p])):=by
 have⟨X,h2,h3,h4,h5⟩:=h.AB;obtain⟨n,hnn⟩:=iG A.j.Ac;have⟨b0,b1,b2,b3⟩:=Cm.af (N:=N) hc h3 (FK (Ah A.j.Ac) A.j.pd l) (Bg p.1 p.2.1 p.2.2) (by rw[FH];omega);rw[FH]at b2;have⟨q1,q2⟩:=U6 (Ah A.j.Ac) A.j.pd l p;unfold Jn.az;rw[X];dsimp only
 refine⟨b0,b1,b2,?_⟩;have d:∀m,m≠Ah A.j.Ac->(P.af (Ab (Ah A.j.Ac)) (FK (Ah A.j.Ac) A.j.pd l) (Bg p.1 p.2.1 p.2.2)).2.2.bs m=P.bs m:=λm I=>by rw[b3,Af I]
 have E:=b3 (Ah A.j.Ac);rw[Ai rfl]at E;generalize (P.af (Ab (Ah A.j.Ac)) (FK (Ah A.j.Ac) A.j.pd l) (Bg p.1 p.2.1 p.2.2)).2.2=P2 at d E b2;refine⟨h.E4,?_,h.sd,λx z=>?_,h.D7,λx z _=>h.JS x z iE,⟨h.Fb.1,λ_=>h.Fb.2 iE⟩,?_,h.GS,⟨?_,h2,?_,?_,h5⟩,⟨h.F9.1,h.F9.2.1,λk O z=>?_⟩,⟨h.EO.1,λk O z=>?_⟩,λnm I=>?_,h.HQ,λnm I=>?_,λk X Y L=>?_⟩
 ·rw[d _ (I5 _).symm];exact h.ix
 ·rw[d _ (Gv _ x.1).symm];exact h.CD x z
 ·exact h.Ao.bx λx z=>d _ λe=>h.JS x z iE (Gq (h.D7 x z).1.1 h5 e)
 ·dsimp only;rw[q2]
 ·dsimp only;rw[E,q1]
 ·intro x z;rcases AX.1 z with z|z
  ·exact h4 x z
  ·simp at z;subst z;exact hp
 ·by_cases e:Ah k=Ah A.j.Ac
  ·have:=Gq O h5 e;show k<=A.j.Ac;omega
  ·rw[d _ e]at z;exact h.F9.2.2 k O z
 ·rw[d _ (Gv _ k).symm]at z;exact h.EO.2 k O z
 ·by_cases e:nm=Ah A.j.Ac
  ·subst e;rw[E];simp
  ·rw[d _ e];exact h.AS nm I
 ·by_cases e:nm=Ah A.j.Ac
  ·subst e;rw[Lx h5];simp
  ·rw[d _ e]at I;exact h.EE nm I
 ·by_cases e:Ah k=Ah A.j.Ac
  ·have:=Gq X h5 e;subst this;show A.j.Ac∈A.j.Ao;rw[h2];simp
  ·rw[d _ e]at L;exact h.I4 k X Y L
def Lay.af(h:Lay P A sg cl ol)(z:Cm P (N+A.AS.length+3) R)(E:ol=none->isNum (A.j.Ac+1)=true)(p:Pu)(d:Bo p)(hR:33<=R):
 (A.af P p).1=true/\(A.af P p).2.1=0/\Cm (A.af P p).2.2.2 N (R-33)/\Lay (A.af P p).2.2.2 (A.af P p).2.2.1 sg cl (some (ol.getD []++[p]))/\(A.af P p).2.2.1.AS=[]:=by
 have⟨s1,s2,s3,s4,s5⟩:=h.I (N:=N+3) (z.ah iC (An _));unfold Ar.af;rw[Af (by simp[s1])];dsimp only
 rw[s2];dsimp only
 generalize (A.I P).2.2=P1 at s3 s4 s5;cases ol with
 | none=>
  have⟨b1,b2,b3,b4⟩:=Lay.aw (N:=N+1) s5 s3 (E rfl) iC;dsimp only at b1 b2 b3 b4;have⟨p1,p2,p3,p4⟩:=b3.az (N:=N) b2 p d iC;dsimp only at p1 p2 p3 p4;have e:A.j.af P1 p=(A.j.aw P1).2.1.az (A.j.aw P1).2.2 p:=by
   unfold Jn.af;rw[Ai h.AB.1,Af (by simp[b1])]
  rw[e];exact⟨p1,p2,p3.ah (An _) iC,p4,rfl⟩
 | some l=>
  have⟨p1,p2,p3,p4⟩:=s5.az (N:=N) (s3.ah iC (An _)) p d iC;dsimp only at p1 p2 p3 p4;have e:A.j.af P1 p=A.j.az P1 p:=by
   unfold Jn.af;rw[Af (by rw[h.AB.1];simp)]
  rw[e];exact⟨p1,p2,p3.ah (An _) iC,p4,rfl⟩
def Lay.ae(h:Lay P A sg cl ol)(O:Cm P (N+A.AS.length+2) R):
 (A.ae P).1=0/\Cm (A.ae P).2.2 N R/\Lay (A.ae P).2.2 (A.ae P).2.1 sg cl ol/\(A.ae P).2.1 = {A with AS:=[]}:=by
 have⟨s1,s2,s3,s4,s5⟩:=h.I (N:=N+2) (O.ah iC (An _));have E:((A.I P).2.1.j.ae (A.I P).2.2).1=0/\Cm ((A.I P).2.1.j.ae (A.I P).2.2).2 (N+1) R/\∀m,((A.I P).2.1.j.ae (A.I P).2.2).2.bs m=(A.I P).2.2.bs m:=by
  rw[s2];dsimp only
  unfold Jn.ae;cases ol with
  | none=>rw[h.AB.1];exact⟨rfl,s3.ah iC (An _),λ_=>rfl⟩
  | some l=>
   rw[h.AB.1];have z:=s5.AB.2.2.1;dsimp only at z;exact Cm.dD (N:=N+1) s3 z
 obtain⟨I,L,d⟩:=E;have⟨d1,d2,d3⟩:=Cm.ed (N:=N) L;unfold Ar.ae;rw[Af (by simp[s1]),Af (by simp[I])];refine⟨d1,d2,?_,s2⟩;dsimp only
 rw[s2];rw[s2]at d3 d;dsimp only at d3 d ⊢;exact s5.av λm=>by rw[d3,d]
end
def Qc{x y:Int}:Ct x y<0↔x<y:=by
 unfold Ct;by_cases h:x<y
 ·simp[h]
 ·rw[Af h];split<;>simp<;>omega
def Ju:∀ {l:gF Int},CE Ct l=true↔l.Pairwise (· < ·)
 | []=>by simp[CE]
 | [x]=>by simp[CE]
 | x::y::r=>by
  have O:=@Ju (y::r);simp only[CE,Gb,Ea,Qc,O];constructor
  ·rintro⟨L,I⟩;refine Dl.2 ⟨λz d=>?_,I⟩;rcases BS.1 d with rfl|d
   ·exact L
   ·exact Int.lt_trans L ((Dl.1 I).1 z d)
  ·intro h;have E:=Dl.1 h;exact⟨E.1 y (BI ..),E.2⟩
def IW{α:Type}[DecidableEq α]:∀ {l l':gF α},l.Nodup->(∀x∈l,x∈l')->l.length<=l'.length
 | [],l',_,_=>iE
 | x::r,l',h,hs=>by
  have d:=K3.1 h;have E:=hs x (BI ..);have ih:=IW (l':=l'.erase x) d.2 λy z=>(Wj (λe=>d.1 (by subst e;exact z))).2 (hs y (BC _ z))
  have hl:=A4P E;have:0<l'.length:=A4O E;simp only[CA];omega
def C6:Int->gF (gF Pu)->gF (Int×gF Pu)
 | _,[]=>[]
 | lh,l::r=>(lh+1,l):: C6 (lh+1) r
def Hb:∀ {l:gF (gF Pu)} {d:Int} {x:Int×gF Pu},x∈C6 d l->d<x.1/\x.1<=d+l.length/\x.2∈l
 | [],_,_,h=>by cases h
 | a::r,d,x,h=>by
  rcases BS.1 h with rfl|h
  ·simp;omega
  ·have⟨h1,h2,h3⟩:=Hb h;simp only[CA];exact⟨iC,iC,BC _ h3⟩
def P8:∀ {l:gF (gF Pu)} {d:Int},((C6 d l).map (·.1)).Pairwise (· < ·)
 | [],_=>by simp[C6]
 | a::r,d=>by
  simp only[C6,H4];refine Dl.2 ⟨λz E=>?_,P8⟩;obtain⟨x,h,rfl⟩:=Cn.1 E;exact(Hb h).1
def MZ:∀ {l:gF (gF Pu)} {d:Int},(C6 d l).length=l.length
 | [],_=>rfl
 | a::r,d=>by simp[C6,MZ]
def Lt:∀ {l:gF (gF Pu)} {d:Int},Ax (C6 d l)=l.flatten
 | [],_=>rfl
 | a::r,d=>by
  have:=@Lt r (d+1);unfold Ax at this ⊢;simp[C6,this]
def Du(l:gF (gF Pu)):Nat:=(l.map λx=>17*x.length+4).sum
section
variable{P P':PD}{A:Ar}{sg cl:gF (Int×gF Pu)}{ol:Option (gF Pu)}{N R:Nat}
def Cm.ao:∀(h:gF (gF Pu)) (d:Int) (z:gF Int) {P:PD},Cm P (N+3*h.length) (R+Du h)->0<=d->d+h.length<=4611686018427387904->
 (∀n,isNum n=true->d<n->P.bs (AH n)=none)->
 (PD.ao h d z P).1=0/\(PD.ao h d z P).2.1=d+h.length/\(PD.ao h d z P).2.2.1=z++(C6 d h).map (·.1)/\Cm (PD.ao h d z P).2.2.2 N R/\
  (∀x∈C6 d h,(PD.ao h d z P).2.2.2.bs (AH x.1)=some (AT (AI (AH x.1)) (Cr x.2)))/\
  ∀m,(∀x∈C6 d h,m≠AH x.1)->(PD.ao h d z P).2.2.2.bs m=P.bs m
 | [],d,z,P,hc,h0,h1,hn=>⟨rfl,by simp[PD.ao],by simp[PD.ao,C6],by simpa[PD.ao,Du] using hc,⟨λx L=>by simp[C6]at L,λm _=>rfl⟩⟩
 | l::r,d,z,P,hc,h0,h1,hn=>by
  simp only[CA]at h1;have I:isNum (d+1)=true:=by unfold isNum;simp;omega
  have E:Du (l::r)=(17*l.length+4)+Du r:=by simp[Du]
  have⟨a1,a2,a3⟩:=Cm.aH (N:=N+3*r.length) (R:=R+Du (l::r)) (nm:=AH (d+1)) (hc.ah (by simp;omega) (An _)) (hn _ I iC) (Yx _) (AI (AH (d+1))) (Cr l) (by rw[IT,E];omega);rw[IT]at a2;have Y:=a2.ah (N':=N+3*r.length) (R':=R+Du r) (An _) (by rw[E];omega);have⟨b1,b2,b3,b4,b5,b6⟩:=Cm.ao r (d+1) (z++[d+1]) Y iC iC λn hk hlt=>by
   (have O:AH n≠AH (d+1):=λe=>by have:=Lu hk I e;omega);rw[a3,Af O];exact hn n hk iC
  have e:PD.ao (l::r) d z P=PD.ao r (d+1) (z++[d+1]) (P.aJ (d+1) l).2:=by
   conv=>lhs;unfold PD.ao
   rw[Af (by unfold PD.aJ;simp[a1])]
  have e2:(P.aJ (d+1) l).2=(P.aH (AH (d+1)) (AI (AH (d+1))) (Cr l)).2:=rfl;rw[e,e2];refine⟨b1,by rw[b2];simp only[CA];omega,by rw[b3];simp[C6],b4,λx L=>?_,λm hm=>?_⟩
  ·rcases BS.1 L with rfl|L
   ·dsimp only
    rw[b6 _ λy hy e=>?_,a3,Ai rfl];have hy:=Hb hy;(have X:isNum y.1=true:=by unfold isNum;simp;omega);have:=Lu I X e;omega
   ·exact b5 x L
  ·rw[b6 m λx L=>hm x (BC _ L),a3,Af (hm _ (BI ..))]
def Jy{nm:Bs}:nm∈A.aU P↔P.bs nm≠none/\nm∉A.Az:=by
 unfold Ar.aU;rw[H3,HL];simp
def Cm.ay(E:Cm P N R){K M:Nat}(hK:(A.aU P).length<=K)(hN:N=M+K):(A.ay P).1=0/\Cm (A.ay P).2 M R/\∀m,(A.ay P).2.bs m=if m∈A.Az then P.bs m else none:=by
 have⟨h1,h2,h3⟩:=Cm.aN (N:=M) (A.aU P) (E.ah iC (An _)) (Wx HF E.db) λm d=>(Jy.1 d).1
 refine⟨h1,h2,λm=>?_⟩;show (PD.aN (A.aU P) P).2.bs m=_;rw[h3];by_cases d:m∈A.Az
 ·rw[Af (λh=>(Jy.1 h).2 d),Ai d]
 ·rw[Af d];by_cases z:P.bs m=none
  ·rw[z];simp
  ·rw[Ai (Jy.2 ⟨z,d⟩)]
def Cm.al(hc:Cm P (N+4) R)(d:Int)(sd:gF Int)(E:P.bs Bx=none)(hR:12+8*sd.length<=R):
 (P.al d sd).1=0/\Cm (P.al d sd).2 N (R-(12+8*sd.length))/\∀m,(P.al d sd).2.bs m=if m=AJ then some (AT (AI AJ) (Cp d sd)) else P.bs m:=by
 have L:(Cp d sd).length=8+8*sd.length:=by unfold Cp;rw[B3,CT,JO]
 obtain⟨O,X,I⟩:=Cm.aH (N:=N+1) hc E (by simp[Bx]) (AI AJ) (Cp d sd) iC;obtain⟨b1,b2,Y⟩:=Cm.gd (N:=N) (nm:=AJ) X (by rw[I,Ai rfl]) (by simp[AJ]) JL.symm;unfold PD.al;rw[Af (by simp[O])];refine⟨b1,by have:=b2;rw[L]at this;exact this.ah (An _) iC,λm=>?_⟩;rw[Y];by_cases h:m=AJ
 ·simp[h]
 ·rw[Af h,Af h];by_cases z:m=Bx
  ·rw[Ai z,z,E]
  ·rw[Af z,I,Af z]
def Lay.gy(h:Lay P A sg cl ol){x:Int×gF Pu}(d:x∈sg):P.bs (AH x.1)≠none:=by rw[(h.CD x d).2];simp
def Lay.dm(h:Lay P A sg cl ol){x:Int×gF Pu}(d:x∈sg):isNum x.1=true:=h.E4.sd _ (by rw[<-h.sd];exact Ej d)
def Lay.dr(h:Lay P A sg cl ol){x:Int×gF Pu}(d:x∈sg):x.1<=A.Ac:=h.EO.2 _ (h.dm d) (h.gy d)
def Lay.aG(h:Lay P A sg cl ol){K:Nat}(Y:gF (Int×gF Pu))(I:gF (gF Pu))(hc:Cm P (N+A.AS.length+K+3*I.length+8+A.j.Ao.length+sg.length+I.length) (R+Du I+12+8*(Y.length+I.length)))(hK:P.Az.length<=K)(aA:∀x∈Y,x∈sg)(aO:(Y.map (·.1)).Pairwise (· < ·))(hf:∀l∈I,(∀p∈l,Bo p)/\CE Cx l=true)(hn:isNum (A.j.Ac+1)=true)(a1:A.Ac+I.length<=4611686018427387904):
 (A.aG P (Y.map (·.1)) I).1=0/\(A.aG P (Y.map (·.1)) I).2.1=⟨⟨A.j.Ac+1,(Y++C6 A.Ac I).map (·.1)⟩,⟨[],A.j.Ac,0,none⟩,A.Ac+I.length,[]⟩/\Cm (A.aG P (Y.map (·.1)) I).2.2 N R/\
  Lay (A.aG P (Y.map (·.1)) I).2.2 (A.aG P (Y.map (·.1)) I).2.1 (Y++C6 A.Ac I) [] none/\
  (∀m,(A.aG P (Y.map (·.1)) I).2.2.bs m≠none->m∈AJ::(Y++C6 A.Ac I).map λx=>AH x.1):=by
 have⟨s1,s2,s3,s4,s5⟩:=h.I (N:=N+K+3*I.length+8+A.j.Ao.length+sg.length+I.length) (R:=R+Du I+12+8*(Y.length+I.length)) (hc.ah iC (An _));have aM:(({A with AS:=[]}:Ar).aU (A.I P).2.2).length<=K:=by
  refine AO ?_ hK;refine IW (Wx HF s3.db) λm O=>?_;rw[HL,<-s4];exact(Jy.1 O).1
 have⟨w1,w2,w3⟩:=Cm.ay (A:={A with AS:=[]}) s3 (K:=K) (M:=N+3*I.length+8+A.j.Ao.length+sg.length+I.length) aM iC;have L:∀m,m∈({A with AS:=[]}:Ar).Az↔m=AJ\/(∃n∈A.j.Ao,m=Ah n)\/∃x∈sg,m=AH x.1:=λm=>by
  unfold Ar.Az;dsimp only
  rw[<-h.sd];simp[eq_comm]
 have aK:∀n,isNum n=true->A.Ac<n->(({A with AS:=[]}:Ar).ay (A.I P).2.2).2.bs (AH n)=none:=λn hk hlt=>by
  rw[w3];split
  ·rw[s4];cases d:P.bs (AH n) with
   | none=>rfl
   | some c=>have:=h.EO.2 n hk (by rw[d];simp);omega
  ·rfl
 have⟨g1,g2,g3,g4,g5,g6⟩:=Cm.ao (N:=N+8+A.j.Ao.length+sg.length+I.length) (R:=R+12+8*(Y.length+I.length)) I A.Ac (Y.map (·.1)) (w2.ah iC iC) h.EO.1 a1 aK;generalize a3:(({A with AS:=[]}:Ar).ay (A.I P).2.2).2=P1 at w3 aK g1 g2 g3 g4 g5 g6;generalize a4:(PD.ao I A.Ac (Y.map (·.1)) P1).2.2.2=P2 at g4 g5 g6;obtain⟨ns,aD⟩:=iG (Y++C6 A.Ac I);have aJ:ns.map (·.1)=Y.map (·.1)++(C6 A.Ac I).map (·.1):=by rw[<-aD,EM]
 have aW:ns.length=Y.length+I.length:=by rw[<-aD,B3,MZ]
 have aP:P2.bs Bx=none:=by
  rw[g6 _ λx _=>(ME x.1).symm,w3,Af];rw[L];rintro (e|⟨n,_,e⟩|⟨x,_,e⟩)
  ·exact JL e.symm
  ·exact LB n e.symm
  ·exact ME x.1 e.symm
 have aB:∀x∈ns,isNum x.1=true:=λx d=>by
  rw[<-aD]at d;rcases AX.1 d with d|d
  ·exact h.dm (aA x d)
  ·have:=Hb d;have:=h.EO.1;unfold isNum;simp;omega
 have aY:∀x∈ns,x.1<=A.Ac+I.length:=λx d=>by
  rw[<-aD]at d;rcases AX.1 d with d|d
  ·have:=h.dr (aA x d);omega
  ·have:=Hb d;omega
 have aH:(ns.map (·.1)).Pairwise (· < ·):=by
  rw[aJ];refine EL.2 ⟨aO,P8,λa ha b hb=>?_⟩;obtain⟨x,d,rfl⟩:=Cn.1 ha;obtain⟨y,hy,rfl⟩:=Cn.1 hb;have h1:=h.dr (aA x d);have h2:=Hb hy;omega
 have aF:∀x∈ns,((∀p∈x.2,Bo p)/\CE Cx x.2=true)/\P2.bs (AH x.1)=some (AT (AI (AH x.1)) (Cr x.2)):=λx d=>by
  rw[<-aD]at d;rcases AX.1 d with d|d
  ·have a0:=h.CD x (aA x d);refine⟨a0.1,?_⟩;rw[g6 _ λy hy e=>?_,w3,Ai ((L _).2 (.inr (.inr ⟨x,aA x d,rfl⟩))),s4,a0.2];have h2:=Hb hy;have h3:=h.EO.1;have:=Lu (h.dm (aA x d)) (by unfold isNum;simp;omega) e;have h1:=h.dr (aA x d);omega
  ·exact⟨hf _ (Hb d).2.2,g5 x d⟩
 have aN:∃aE,(({A with AS:=[],Ac:=A.Ac+I.length}:Ar).al P2 (ns.map (·.1)))=(0,⟨⟨A.j.Ac+1,ns.map (·.1)⟩,⟨[],A.j.Ac,0,none⟩,A.Ac+I.length,[]⟩,aE)/\Cm aE (N+4+A.j.Ao.length+sg.length+I.length) R/\((aE.bs AJ=none/\A.j.Ac=0/\ns=[])\/aE.bs AJ=some (AT (AI AJ) (Cp (A.j.Ac+1) (ns.map (·.1)))))/\∀m,m≠AJ->aE.bs m=P2.bs m:=by
  unfold Ar.al;dsimp only
  by_cases z:A.ix.Bd=A.j.Ac+1/\A.ix.sd=ns.map (·.1)
  ·rw[Ai z];have aR:cl=[]:=by
    cases aR:cl with
    | nil=>rfl
    | cons x r=>
     (have d:x∈cl:=by rw[aR];exact BI ..);have h1:=h.Fb.1 x d;have h2:=(h.D7 x d).1.2;have:=z.1;omega
   have a2:ol=none:=by
    cases ol with
    | none=>rfl
    | some l=>have:=h.Fb.2 iE;have:=z.1;omega
   subst aR a2;have hj:A.j=⟨[],A.j.Ac,0,none⟩:=by
    have h1:=h.AB;have h2:=h.GS;(have e:∀j:Jn,j.AB=none->j.Ao=[]->j.pd=0->j=⟨[],j.Ac,0,none⟩:=λj a b c=>by cases j;simp_all);exact e _ h1.1 (by simpa using h1.2) (by simpa[Ax] using h2)
   have hi:A.ix=⟨A.j.Ac+1,ns.map (·.1)⟩:=by
    have e:∀i:Ix,i=⟨i.Bd,i.sd⟩:=λi=>rfl;rw[e A.ix,z.1,z.2]
   refine⟨P2,?_,g4.ah iC iC,?_,λ_ _=>rfl⟩
   ·conv=>lhs;rw[hj,hi]
   ·rw[g6 _ λx _=>(Kk x.1).symm,w3,Ai ((L _).2 (.inl rfl)),s4];rcases h.ix with⟨h1,h2⟩|h2
    ·rw[h2]at z;exact .inl ⟨h1,by have:=z.1;dsimp only at this;omega,by simpa using z.2⟩
    ·exact .inr (by rw[h2,z.1,z.2])
  ·rw[Af z];have⟨t1,t2,t3⟩:=Cm.al (N:=N+4+A.j.Ao.length+sg.length+I.length) (R:=R+12+8*ns.length) (g4.ah iC (by rw[aW];omega)) (A.j.Ac+1) (ns.map (·.1)) aP iE;rw[Af (by simp[t1])];refine⟨_,rfl,t2.ah (An _) (by simp;omega),.inr (by rw[t3,Ai rfl]),λm O=>by rw[t3,Af O]⟩
 obtain⟨aE,t1,t2,t3,t4⟩:=aN;have aV:∀m,aE.bs m≠none->m=AJ\/(∃n∈A.j.Ao,m=Ah n)\/(∃x∈sg,m=AH x.1)\/∃x∈C6 A.Ac I,m=AH x.1:=λm O=>by
  by_cases e:m=AJ
  ·exact .inl e
  ·rw[t4 m e]at O;by_cases e2:∃x∈C6 A.Ac I,m=AH x.1
   ·exact .inr (.inr (.inr e2))
   ·rw[g6 m λx d e3=>e2 ⟨x,d,e3⟩,w3]at O;by_cases e3:m∈({A with AS:=[]}:Ar).Az
    ·rcases(L m).1 e3 with h|h|h
     ·exact .inl h
     ·exact .inr (.inl h)
     ·exact .inr (.inr (.inl h))
    ·rw[Af e3]at O;exact absurd rfl O
 obtain⟨aG,aI⟩:∃aG:Ar,(⟨⟨A.j.Ac+1,ns.map (·.1)⟩,⟨[],A.j.Ac,0,none⟩,A.Ac+I.length,[]⟩:Ar)=aG:=⟨_,rfl⟩;have E:∀m,m∈aG.Az↔m=AJ\/∃x∈ns,m=AH x.1:=λm=>by
  rw[<-aI];unfold Ar.Az;dsimp only;simp[eq_comm]
 have aQ:(aG.aU aE).length<=1+A.j.Ao.length+sg.length+I.length:=by
  have h1:(aG.aU aE).length<=(AJ::(A.j.Ao.map Ah++(sg.map (λx=>AH x.1)++(C6 A.Ac I).map λx=>AH x.1))).length:=
   IW (Wx HF t2.db) λm O=>by
    rcases aV m (Jy.1 O).1 with h|⟨n,h1,h2⟩|⟨n,h1,h2⟩|⟨n,h1,h2⟩
    ·subst h;exact BI ..
    ·subst h2;exact BC _ (G9 _ (Ej h1))
    ·subst h2;exact BC _ (HW _ (G9 _ (Cn.2 ⟨n,h1,rfl⟩)))
    ·subst h2;exact BC _ (HW _ (HW _ (Cn.2 ⟨n,h1,rfl⟩)))
  simp only[CA,B3,Fx,MZ]at h1;omega
 have⟨v1,v2,v3⟩:=Cm.ay (A:=aG) (t2.ah (N':=N+1+(1+A.j.Ao.length+sg.length+I.length)) iC (An _)) aQ (M:=N+1) iC;have⟨d1,d2,d3⟩:=Cm.ed (N:=N) v2;obtain⟨aS,aX⟩:=iG ((aG.ay aE).2.aI.2);have aZ:A.aG P (Y.map (·.1)) I=(0,aG,aS):=by
  unfold Ar.aG;dsimp only
  rw[Af (by simp[s1]),s2,Af (by simp[w1]),a3];dsimp only
  rw[Af (by simp[g1]),g2,g3,a4,<-aJ,t1,aI];dsimp only
  rw[Af iE];unfold Ar.a8;rw[Af (by simp[v1]),d1,aX]
 rw[aX]at d2 d3;have X:∀m,aS.bs m=if m∈aG.Az then aE.bs m else none:=λm=>by rw[d3,v3]
 have aL:∀x∈ns,aS.bs (AH x.1)=some (AT (AI (AH x.1)) (Cr x.2)):=λx d=>by
  rw[X,Ai ((E _).2 (.inr ⟨x,d,rfl⟩)),t4 _ (Kk _)];exact(aF x d).2
 have aU:aS.bs AJ=aE.bs AJ:=by rw[X,Ai ((E _).2 (.inl rfl))]
 rw[aZ];dsimp only
 rw[aD];refine⟨rfl,aI.symm,d2,?_,λm O=>?_⟩
 ·rw[<-aI];refine⟨⟨hn,λn O=>?_,Ju.2 aH⟩,?_,rfl,λx d=>⟨(aF x d).1,aL x d⟩,λx d=>(by cases d),λx d=>(by cases d),⟨λx d=>(by cases d),λh=>absurd rfl h⟩,trivial,rfl,⟨rfl,rfl⟩,⟨h.F9.1,II _,λn hk d=>?_⟩,⟨by have:=h.EO.1;dsimp only;omega,λn hk d=>?_⟩,λnm O=>(by cases O),List.Pairwise.nil,λnm O=>?_,λn hk _ d=>?_⟩
  ·obtain⟨x,d,rfl⟩:=Cn.1 O;exact aB x d
  ·rw[aU];rcases t3 with⟨q1,q2,q3⟩|q
   ·exact .inl ⟨q1,by dsimp only;rw[q2,q3];rfl⟩
   ·exact .inr q
  ·rw[X,Af]at d
   ·exact absurd rfl d
   ·rw[E];rintro (e|⟨x,_,e⟩)
    ·exact I5 n e
    ·exact Gv n x.1 e
  ·rw[X]at d;split at d
   ·rename_i O;rcases(E _).1 O with e|⟨x,aT,e⟩
    ·exact absurd e (Kk n)
    ·have:=Lu hk (aB x aT) e;rw[this];exact aY x aT
   ·exact absurd rfl d
  ·rw[X]at O;split at O
   ·rename_i h2;rcases(E _).1 h2 with e|⟨x,d,e⟩
    ·subst e;rw[TH];simp
    ·subst e;rw[Pd (aB x d)];simp
   ·exact absurd rfl O
  ·rw[X,Af]at d
   ·exact absurd rfl d
   ·rw[E];rintro (e|⟨x,_,e⟩)
    ·exact I5 n e
    ·exact Gv n x.1 e
 ·rw[X]at O;split at O
  ·rename_i h2;rcases(E _).1 h2 with e|⟨x,d,e⟩
   ·subst e;exact BI ..
   ·subst e;exact BC _ (Cn.2 ⟨x,d,rfl⟩)
  ·exact absurd rfl O
end
end
section
open Go.RowKit
attribute [local go_sem ↓] CL
def JD(w:gC)(jb b:Nat)(J:Jn)(P:PD)(FT:Nat->Prop):Prop:=
 ∃lv ov Ft,DX w jb b lv ov J/\Bw w b P Ft/\(∀k,Ft k->k<w.heap.size)/\(∀k,Dt jb lv ov k->¬Ft k)/\∀k,Ft k\/Dt jb lv ov k->FT k
def JD.aK{w w':gC}{jb b:Nat}{J:Jn}{P:PD}{FT:Nat->Prop}(h:JD w jb b J P FT)(E:Gz FT w w')(X:w.heap.size<=w'.heap.size):JD w' jb b J P FT:=by
 obtain⟨lv,ov,Ft,O,I,Y,L,z⟩:=h;exact⟨lv,ov,Ft,O.aK λk d=>E k (z k (.inr d)),I.aK λk d=>E k (z k (.inl d)),λk d=>Bp (Y k d) X,L,z⟩
def Ap.jd{w w':gC}{jb b:Nat}{J:Jn}{P:PD}{FT S:Nat->Prop}{lv ov:gD}{Ft:Nat->Prop}(hc:A4 S w w')(hS:∀k,k<w.heap.size->S k->FT k)(E:DX w' jb b lv ov J)(L:Bw w' b P Ft)(I:∀k,Ft k->k<w'.heap.size)(O:∀k,Dt jb lv ov k->¬Ft k)(X:∀k,Ft k->FT k\/w.heap.size<=k)(Y:∀k,Dt jb lv ov k->FT k\/w.heap.size<=k):
 Ap w FT w' (λw' d=>JD w' jb b J P d):=
 ⟨hc.ah hS,λk=>Ft k\/Dt jb lv ov k,⟨lv,ov,Ft,E,L,I,O,λ_ h=>h⟩,λk z=>z.elim (I k) λh=>E.lt h,λk z=>z.elim (X k) (Y k)⟩
def DX.ne{w:gC}{jb b:Nat}{lv ov:gD}{J:Jn}(h:DX w jb b lv ov J){g:Nat}(d:lv.ownBlock=some g):g≠jb:=by
 have⟨c,hc⟩:=B9 h.Ao d;exact BR hc h.Ae iF
def Bi.dp{w:gC}{lb:Nat}{p:gD}{d:gE}{s n:Nat}{v:gD}{xs:gF gD}(h:Bi w lb 237 p d s)(z:w.ownsRow 0 3 1 v n xs){g:Nat}(E:v.ownBlock=some g):g≠lb:=by
 have⟨c,hc⟩:=B9 z E;exact BR hc h iF
def Bi.dU{w:gC}{lb jb b:Nat}{p:gD}{d:gE}{s:Nat}{lv ov:gD}{z pd:Int}(h:Bi w lb 237 p d s)(E:CM w jb b lv z pd ov):lb≠jb:=BR h E iF
section
variable{w:gC}{b B jb lb:Nat}{P:PD}{Ft FT:Nat->Prop}{a c m:Nat}{lv ov:gD}{J:Jn}{n:Int}
def Ty(w:gC)(h:DX w jb b lv ov J)(d:Ay (J.Ac+1)):
 Ag 199 #[A5 jb] w (Aj (A0 (J.Ac+1)) λw'=>w=w'):=by
 have c2:=h.Ae.c2;obtain⟨r1,r2⟩:=d;have ew:wrap64 (J.Ac+1)=J.Ac+1:=by unfold wrap64;omega
 go_enter func199,ntmps199
 go_wp2;go_ret;exact⟨rfl,rfl⟩
def A0N(w:gC)(hJ:DX w jb b lv ov J)(hl:J.Ao.length<=1073741824):
 Ag 136 #[A5 jb] w λe w'=>∃v,e=.returned v/\DY w' v J.Ao/\(∀g,v.ownBlock=some g->w.heap.size<=g)/\A4 Aa w w':=by
 obtain⟨d,hi,O,X,Y⟩:∃d,Tryz.prog.info? 3=some d/\d.zero=some (A0 0)/\d.size=1/\d.bytes=8:=by
  have h:=Tryz.dq;cases hx:Tryz.prog.info? 3 with
  | none=>rw[hx]at h;cases h
  | some i=>rw[hx]at h;simp at h;exact⟨i,rfl,h.1,h.2.1,h.2.2⟩
 have c1:=hJ.Ae.c1;have z:=A1 (Src.bN Hw hJ.Ao (KA J.Ao));have E:Hid (w.ownsRow 0 3 1 (.slice none 0 0) 0 []):=Cq _ _ _ _;generalize J.Ao=l at *
 go_enter func136,ntmps136
 go_wp2_with (at_builtin;refine CX rfl (.const (.slice none 0 0)) (.tmp 6) 26 26 rfl 3 d _ 1 8 Hw hi O X Y rfl iF (.slice none 0 0) 0 [] (by rfl) E.o _ l.length _ (by rfl) z.o iC ?_;intro a8 cap8 w8 L;have aB:=A1 L);go_ret;have L:=aB.o;have aA:=L.Am (S:=λ_=>False) λ_ h=>by simp[Value.ownBlock]at h
 refine⟨_,rfl,?_,?_,aA⟩
 ·have:=L.AB;simp only[Fh,Hj]at this ⊢;exact this
 ·intro g hg;have I:=L.BX;simp only[Hj]at I;cases a8 with
  | none=>simp[Value.ownBlock]at hg
  | some x=>
   simp[Value.ownBlock]at I hg;omega
def A01(w:gC)(z:DX w jb b lv ov J):
 Ag 201 #[A5 jb] w (Aj (.tuple #[]) λw'=>DX w' jb b (.slice none 0 0) (.pointer none) ⟨[],J.Ac,0,none⟩/\A4 (One jb) w w'):=by
 have h:=z.Ae.s1 (.slice none 0 0);have d:=h.s3 0;have E:=d.s4 (.pointer none);have c1:=z.Ae.c1;have f1:=z.Ae.fz 1;have c3:=h.c3;have f3:=h.fz 3;have c4:=d.c4;have f4:=d.fz 4;have H:=A1 E
 go_enter func201,ntmps201
 go_wp2;go_end0;exact⟨rfl,⟨H.o,Cq _ _ _ _,.inl ⟨rfl,rfl⟩⟩,((((A4.C (One jb) w).an (b:=jb) rfl 1 _).an (b:=jb) rfl 3 _).an (b:=jb) rfl 4 _)⟩
def A1m(w:gC)(h:JD w jb b J P FT):
 Ag 119 #[A5 jb] w (Aj (A0 (J.ae P).1) λw'=>Ap w FT w' (λw' I=>JD w' jb b J (J.ae P).2 I)):=by
 obtain⟨lv,ov,Ft,L,hD,O,E,z⟩:=h;have c4:=L.Ae.c4;rcases L.AB with⟨Y,rfl⟩|⟨n,s,lb,Y,rfl,hf,hs⟩
 ·have e:J.ae P=(0,P):=by unfold Jn.ae;rw[Y]
  rw[e];have aE:=A1 (show Ap w FT w (λw' I=>JD w' jb b J P I) from Ap.jd (A4.C Aa w) (λ_ _ h=>h.elim) L hD O E (λk d=>.inl (z k (.inl d))) (λk d=>.inl (z k (.inr d))))
  go_enter func119,ntmps119
  go_wp2;go_ret;exact⟨rfl,aE.o⟩
 ·have e:J.ae P=P.ae (Ab (Ah n)):=by unfold Jn.ae;rw[Y]
  rw[e];have X:=A1 (Rt hf hD);have e1:(⟨(Ah n).toArray⟩:gE)=Ab (Ah n):=rfl;rw[e1]at X;generalize hR:P.ae (Ab (Ah n))=R at X ⊢;have aB:=A1 L;have aD:=A1 E;have aA:=A1 z
  go_enter func119,ntmps119
  go_wp2_with (go_at_call 164;refine X.k ?_;rintro w2 hI;have aF:=A1 hI);go_ret;have⟨r1,Ft',r2,r3,r4⟩:=aF.o;exact⟨rfl,Ap.jd r1 (λk _ d=>aA.o k (.inl d)) (aB.o.Am r1 aD.o) r2 r3 (λk d hx=>by rcases r4 k hx with h|h;exact aD.o k d h;have:=aB.o.lt d;omega) (λk d=>(r4 k d).imp (λh=>aA.o k (.inl h)) id) (λk d=>.inl (aA.o k (.inr d)))⟩
def A0A(w:gC)(E:Int)(h:Bw w b P Ft)(L:∀k,Ft k->k<w.heap.size)(hn:CK n)(hL:Lets B w)(ha:Ay E)(O:Fit P a c m)(I:CV (a+1) (c+1) (m+12)):
 Ag 236 #[A5 b,A0 n,A0 E] w λe w'=>
  ((P.aq (Ab (Ah n))).1≠0/\e=.returned (.tuple #[.pointer none,A0 (P.aq (Ab (Ah n))).1])/\Ap w Ft w' (λw' d=>Bw w' b (P.aq (Ab (Ah n))).2 d))\/
  ((P.aq (Ab (Ah n))).1=0/\((P.aq (Ab (Ah n))).2.af (Ab (Ah n)) (AI (Ah n)) (AQ E)).2.1≠0/\e=.returned (.tuple #[.pointer none,A0 ((P.aq (Ab (Ah n))).2.af (Ab (Ah n)) (AI (Ah n)) (AQ E)).2.1])/\Ap w Ft w' (λw' d=>Bw w' b ((P.aq (Ab (Ah n))).2.af (Ab (Ah n)) (AI (Ah n)) (AQ E)).2.2 d))\/
  ((P.aq (Ab (Ah n))).1=0/\((P.aq (Ab (Ah n))).2.af (Ab (Ah n)) (AI (Ah n)) (AQ E)).2.1=0/\∃lb,e=.returned (.tuple #[A5 lb,A0 0])/\w.heap.size<=lb/\Bi w' lb 237 (A5 b) ⟨(Ah n).toArray⟩ (AY (AI (Ah n)) (AQ E))/\
    A4 Ft w w'/\∃d,Bw w' b ((P.aq (Ab (Ah n))).2.af (Ab (Ah n)) (AI (Ah n)) (AQ E)).2.2 d/\(∀k,d k->k<w'.heap.size)/\(∀k,d k->Ft k\/w.heap.size<=k)/\¬d lb):=by
 have z:=O.aq (Ab (Ah n));have hp:(AT (AI (Ah n)) (AQ E)).length=12:=by simp[AT,I2,CT]
 have Y:=z.au (Ab (Ah n)) (AT (AI (Ah n)) (AQ E));have hz:=KH Y (Ab (Ah n));have X:=KH z (Ab (Ah n));have hm:=I.m;exact A0z w E P.D.AW (P.aq (Ab (Ah n))).2.D ((P.aq (Ab (Ah n))).2.au (Ab (Ah n)) (AT (AI (Ah n)) (AQ E))).2.D (P.aq (Ab (Ah n))).2.F ((P.aq (Ab (Ah n))).2.au (Ab (Ah n)) (AT (AI (Ah n)) (AQ E))).2.F _ _ h L hn hL ha P.D.cI
  (by have:=O.A6;have:=O.Am;have:=I.a;have:=I.c;omega) rfl rfl rfl z.Av (AO z.bA (AO (W9 I.a (AO (Wc m 12) I.m)) iF)) z.BG
  (λf hf=>by have:=z.Be f (Gu hf);omega) ⟨Mq hz (by rw[hp];omega),Mq X iC⟩
def A4s(p:Pu)(d:gE)(s:Nat)(X:Bi w lb 237 (A5 b) d s)(hs:s<4294967296)(h:Bw w b P Ft)(E:∀k,Ft k->k<w.heap.size)(hn:¬Ft lb)(hp:Bo p)(z:Fit P a c m)(Y:CV a c (m+21)):
 Ag 191 #[A5 lb,DO p] w (Aj (.tuple #[.bool (P.af d s (Bg p.1 p.2.1 p.2.2)).1,A0 (P.af d s (Bg p.1 p.2.1 p.2.2)).2.1]) λw'=>
  Bi w' lb 237 (A5 b) d (AY s (Bg p.1 p.2.1 p.2.2))/\K7 w Ft lb w' b (P.af d s (Bg p.1 p.2.1 p.2.2)).2.2):=by
 obtain⟨⟨h1,h2⟩,h3,h4⟩:=hp;have L:(AT s (Bg p.1 p.2.1 p.2.2)).length=21:=by simp[AT,I2,OS]
 have hA:=z.au d (AT s (Bg p.1 p.2.1 p.2.2));have hz:=KH hA d;have O:=KH z d;have hm:=Y.m;have I:CV a c m:=⟨Y.a,Y.c,iC⟩;exact A4r w lb d s p.1 p.2.1 p.2.2 ⟨h1,iC⟩ h3 h4 X hs h E hn z.Av (z.eK I) z.BG (λf X=>by have:=z.Be f (Gu X);omega) ⟨Mq hz (by rw[L];omega),Mq O iC⟩
end
def Px:∃d,Tryz.prog.info? 3=some d/\d.zero=some (A0 0)/\d.size=1/\d.bytes=8:=by
 have h:=Tryz.dq;cases hx:Tryz.prog.info? 3 with
 | none=>rw[hx]at h;cases h
 | some i=>rw[hx]at h;simp at h;exact⟨i,rfl,h.1,h.2.1,h.2.2⟩
section
variable{w:gC}{b B jb lb:Nat}{P:PD}{Ft FT:Nat->Prop}{a c m:Nat}{lv ov:gD}{J:Jn}{n:Int}
def A3D(w:gC)(h:JD w jb b J P FT)(ho:J.AB=none)(hn:CK (J.Ac+1))(hr:Ay (J.Ac+1))(hp:Ay J.pd)(bD:J.Ao.length<=1073741824)(hL:Lets B w)(hF:Fit P a c m)(hl:CV (a+1) (c+1) (m+12)):
 Ag 190 #[A5 jb] w (Aj (A0 (J.aw P).1) λw'=>Ap w FT w' (λw' aT=>JD w' jb b (J.aw P).2.1 (J.aw P).2.2 aT)):=by
 obtain⟨i0,hi,bL,bW,bT⟩:=Px;obtain⟨lv,ov,Ft,hJ,hD,aS,aM,aN⟩:=h;have bN:ov=.pointer none:=by
  rcases hJ.AB with⟨_,h⟩|⟨n,s,lb,h,_⟩
  ·exact h
  ·rw[ho]at h;cases h
 subst bN
 have aD:Hid (J.aw P=if (P.aq (Ab (Ah (J.Ac+1)))).1≠0 then ((P.aq (Ab (Ah (J.Ac+1)))).1,J,(P.aq (Ab (Ah (J.Ac+1)))).2) else
  if ((P.aq (Ab (Ah (J.Ac+1)))).2.af (Ab (Ah (J.Ac+1))) (AI (Ah (J.Ac+1))) (AQ J.pd)).2.1≠0 then (((P.aq (Ab (Ah (J.Ac+1)))).2.af (Ab (Ah (J.Ac+1))) (AI (Ah (J.Ac+1))) (AQ J.pd)).2.1,J,((P.aq (Ab (Ah (J.Ac+1)))).2.af (Ab (Ah (J.Ac+1))) (AI (Ah (J.Ac+1))) (AQ J.pd)).2.2) else
  (0,⟨J.Ao++[J.Ac+1],J.Ac+1,J.pd,some (J.Ac+1,AY (AI (Ah (J.Ac+1))) (AQ J.pd))⟩,((P.aq (Ab (Ah (J.Ac+1)))).2.af (Ab (Ah (J.Ac+1))) (AI (Ah (J.Ac+1))) (AQ J.pd)).2.2)):=rfl
 have aJ:Hid (∀w1,A4 Aa w w1->_):=λw1 hc=>A0A w1 J.pd (AU.av hD aS hc) (λk d=>Bp (aS k d) hc.Ak) hn (hL.aL hc) hp hF hl;have bS:Hid (∀w1,A4 Aa w w1->_):=λw1 hc=>Ty w1 (hJ.ak hc) hr;generalize hR:J.aw P=R at aD ⊢;obtain⟨L,a0⟩:=iG (J.Ac+1);rw[a0]at aD aJ bS hr hn;have aI:(Ah L).length<=100:=Tw hn.2.2;obtain⟨nm,aQ⟩:=iG (Ah L);rw[aQ]at aD aJ;obtain⟨s0,aU⟩:=iG (AI nm);have aL:s0<4294967296:=by rw[<-aU];exact Kg nm
 rw[aU]at aD aJ;obtain⟨C,hC⟩:=iG (P.aq (Ab nm));rw[hC]at aD aJ;obtain⟨A,hA⟩:=iG (C.2.af (Ab nm) s0 (AQ J.pd));rw[hA]at aD aJ;have bB:AY s0 (AQ J.pd)<4294967296:=Kd _ _ aL;obtain⟨s1,aK⟩:=iG (AY s0 (AQ J.pd));rw[aK]at aD aJ bB;have c0:=hJ.Ae.aa.c0;have c3:=hJ.Ae.aa.c3;have bE:=A1 hJ;have a3:=A1 aM;have aG:=A1 aN;have HO:=A1 ho;have aO:=A1 a0;have bP:=A1 aQ;have a7:=A1 bD;have aZ:=A1 (bS.o w.drew (A4.C _ w).aa);have aB:=A1 (aJ.o w.drew (A4.C _ w).aa);clear hC hA hR aU aL aK aI aQ a0 hJ hD aS aM aN ho bD hL hF hl hp bS aJ;have E:Hid (∀wx,A4 Ft w.drew wx->DX wx jb b lv (.pointer none) J):=λwx Y=>(bE.o.ak (A4.C Aa w).aa).Am Y a3.o
 have aE:Hid (∀wx (bO:PD),Ap w.drew Ft wx (λw' z=>Bw w' b bO z)->Ap w FT wx (λw' aT=>JD w' jb b J bO aT)):=λwx bO Y=>by
  obtain⟨r1,z,r2,r3,r4⟩:=Y;exact Ap.jd ((A4.C Ft w).aa.tr r1) (λk _ d=>aG.o k (.inl d)) (E.o wx r1) r2 r3 (λk d Y=>by rcases r4 k Y with h|h;exact a3.o k d h;have:=bE.o.lt d;have h':w.heap.size<=k:=h;omega) (λk d=>(r4 k d).imp (λh=>aG.o k (.inl h)) id) (λk d=>.inl (aG.o k (.inr d)))
 by_cases hc:C.1=0
 case neg=>
  have aF:R=(C.1,J,C.2):=by rw[aD.o,Ai hc]
  subst aF;have I:Hid (Ag 236 #[A5 b,A0 L,A0 J.pd] w.drew (Aj (.tuple #[.pointer none,A0 C.1]) λw'=>Ap w.drew Ft w' (λw' z=>Bw w' b C.2 z))):=by
   refine aB.m ?_;rintro e w' (⟨_,h2,h3⟩|⟨h1,_⟩|⟨h1,_⟩)
   ·exact⟨h2,h3⟩
   ·exact absurd h1 hc
   ·exact absurd h1 hc
  have aY:(C.1 !=0)=true:=by simpa using hc
  obtain⟨C1,b6⟩:=C;dsimp only at I aY ⊢;clear aB aD
  go_enter func190,ntmps190
  go_wp2;refine Bq (λw'=>A7 w' jb 0 (A5 b)/\A7 w' jb 3 (A0 J.pd)) 15
   (Ba [0,1,2,3,4,6,7,8,9,5,10,11,12,13,14] [5,10]) ⟨c0,c3⟩ ?_
  iterate 9 refine B4 ?_
  refine Bf λK O=>?_;go_simp;refine aZ.k ?_;rintro w3 rfl;refine O _ _ ⟨c0,c3⟩ (λhS=>?_);clear O K hS;refine Bf λK O=>?_;go_simp;refine I.k ?_;rintro w4 hI;have k4:=E.o w4 hI.1;refine O _ _ ⟨k4.Ae.c0,k4.Ae.c3⟩ (λhS=>?_);have bQ:=A1 (aE.o w4 b6 hI);clear O K hS hI k4 I aE E
  iterate 4 refine B4 ?_
  refine Bl ?_;go_wp2;go_ret;exact⟨rfl,bQ.o⟩
 case pos=>
 by_cases ha:A.2.1=0
 case neg=>
  have aF:R=(A.2.1,J,A.2.2):=by rw[aD.o,Af (by simpa using hc),Ai ha]
  subst aF;have I:Hid (Ag 236 #[A5 b,A0 L,A0 J.pd] w.drew (Aj (.tuple #[.pointer none,A0 A.2.1]) λw'=>Ap w.drew Ft w' (λw' z=>Bw w' b A.2.2 z))):=by
   refine aB.m ?_;rintro e w' (⟨h1,_⟩|⟨_,_,h2,h3⟩|⟨_,h1,_⟩)
   ·exact absurd hc h1
   ·exact⟨h2,h3⟩
   ·exact absurd h1 ha
  have aY:(A.2.1 !=0)=true:=by simpa using ha
  obtain⟨b3,b2,b0⟩:=A;dsimp only at I aY ⊢;clear aB aD
  go_enter func190,ntmps190
  go_wp2;refine Bq (λw'=>A7 w' jb 0 (A5 b)/\A7 w' jb 3 (A0 J.pd)) 15
   (Ba [0,1,2,3,4,6,7,8,9,5,10,11,12,13,14] [5,10]) ⟨c0,c3⟩ ?_
  iterate 9 refine B4 ?_
  refine Bf λK O=>?_;go_simp;refine aZ.k ?_;rintro w3 rfl;refine O _ _ ⟨c0,c3⟩ (λhS=>?_);clear O K hS;refine Bf λK O=>?_;go_simp;refine I.k ?_;rintro w4 hI;have k4:=E.o w4 hI.1;refine O _ _ ⟨k4.Ae.c0,k4.Ae.c3⟩ (λhS=>?_);have bQ:=A1 (aE.o w4 b0 hI);clear O K hS hI k4 I aE E
  iterate 4 refine B4 ?_
  refine Bl ?_;go_wp2;go_ret;exact⟨rfl,bQ.o⟩
 case pos=>
  have aF:R=(0,⟨J.Ao++[L],L,J.pd,some (L,s1)⟩,A.2.2):=by rw[aD.o,Af (by simpa using hc),Af (by simpa using ha)]
  subst aF;have I:Hid (Ag 236 #[A5 b,A0 L,A0 J.pd] w.drew λe w'=>∃lb,e=.returned (.tuple #[A5 lb,A0 0])/\w.drew.heap.size<=lb/\Bi w' lb 237 (A5 b) ⟨nm.toArray⟩ s1/\A4 Ft w.drew w'/\∃z,Bw w' b A.2.2 z/\(∀k,z k->k<w'.heap.size)/\(∀k,z k->Ft k\/w.drew.heap.size<=k)/\¬z lb):=by
   refine aB.m ?_;rintro e w' (⟨h1,_⟩|⟨_,h1,_⟩|⟨_,_,h2⟩)
   ·exact absurd hc h1
   ·exact absurd ha h1
   ·exact h2
  obtain⟨b3,b2,b0⟩:=A;dsimp only at I ⊢;clear aB aD aE
  go_enter func190,ntmps190
  go_wp2;refine Bq (λw'=>A7 w' jb 0 (A5 b)/\A7 w' jb 3 (A0 J.pd)) 15
   (Ba [0,1,2,3,4,6,7,8,9,5,10,11,12,13,14] [5,10]) ⟨c0,c3⟩ ?_
  iterate 9 refine B4 ?_
  refine Bf λK O=>?_;go_simp;refine aZ.k ?_;rintro w3 rfl;refine O _ _ ⟨c0,c3⟩ (λhS=>?_);clear O K hS;refine Bf λK O=>?_;go_simp;refine I.m ?_;rintro e w4⟨lb,rfl,aI,a5,aW,bG,q1,q2,q3,q4⟩;have k4:=E.o w4 aW;refine O _ _ ⟨k4.Ae.c0,k4.Ae.c3⟩ (λhS=>?_);have a2:=A1 k4;have bK:Hid (w.heap.size<=lb):=aI;have aV:=A1 a5;have bY:Hid (A4 Ft w w4):=(A4.C Ft w).aa.tr aW;have cA:=A1 q1;have bX:=A1 q2;have bH:Hid (∀k,bG k->Ft k\/w.heap.size<=k):=q3;have b1:=A1 q4;clear O K hS aW aI a5 q1 q2 q3 q4 I E
  iterate 4 refine B4 ?_
  refine Bl ?_;have b5:=a2.o.Ae.s4 (A5 lb);have g44:=k4.Ae.c4;have f44:=k4.Ae.fz 4;have g52:=b5.c2;have f52:=b5.fz 2;have bI:=A1 (b5.s2 L);have ew:wrap64 (J.Ac+1)=L:=by have:=aO.o;have:=hr.1;have:=hr.2;unfold wrap64;omega
  have ew2:IntKind.i64.wrap (J.Ac+1)=L:=by have:=aO.o;have:=hr.1;have:=hr.2;simp[IntKind.wrap,IntKind.bits,IntKind.signed];omega
  have c5:A4 (One jb) w4 ((w4.setCell (A9 jb 4) (A5 lb)).setCell (A9 jb 2) (A0 L)):=((A4.C (One jb) w4).an (b:=jb) rfl 4 _).an (b:=jb) rfl 2 _;have a4:=A1 c5;clear b5 k4 c5;have bA:Hid (lb≠jb):=aV.o.dU a2.o.Ae;have aH:Hid (∀g,lv.ownBlock=some g->g≠jb/\g≠lb):=λg hg=>⟨a2.o.ne hg,aV.o.dp a2.o.Ao hg⟩
  go_wp2;generalize (w4.setCell (A9 jb 4) (A5 lb)).setCell (A9 jb 2) (A0 L)=w6 at bI a4 ⊢;have aX:Hid (w6.ownsRow 0 3 1 lv J.Ao.length (Ee J.Ao)):=Au a2.o.Ao λg hg=>a4.o.Al g (Aw a2.o.Ao hg) (aH.o g hg).1;have bR:=A1 (aV.o.aj a4.o bA.o);have b4:=bI.o.aa.c1;have b8:=bI.o.aa.c2;obtain⟨ap,cp,rfl,hcap1,a1,-⟩:=B8 aX.o;unfold maxLen at a1;refine Bq (λw'=>A7 w' jb 1 (.slice ap J.Ao.length cp)/\A7 w' jb 2 (A0 L)) 11
   (Ba [0,1,2,3,4,5,6,7,8,9,10] [9,10]) ⟨b4,b8⟩ ?_
  iterate 9 refine B4 ?_
  refine Bf λK O=>?_;go_simp;have ka:A4 Aa w6 (w6.aC #[A0 L] 3).drew:=((A4.C _ _).ai _).aa;have bJ:=bI.o.aj ka (λh=>h);have bV:Hid ((w6.aC #[A0 L] 3).drew.ownsRow 0 3 1 (.slice ap J.Ao.length cp) J.Ao.length (Ee J.Ao)):=Au aX.o λg hg=>ka.Al g (Aw aX.o hg) (λh=>h);have bF:Hid (Src Tryz.prog 1 26 (AA w6.heap.size 1 1) 1 #[A0 L].toList (w6.aC #[A0 L] 3).drew):=by
   have hb:(w6.aC #[A0 L] 3).drew.heap[w6.heap.size]?=some (.cells #[A0 L] 3 (0,0)):=Bn w6 _;exact Src.cj Hw hb 1 1 rfl (KA [L])
  refine O _ _ ⟨bJ.c1,bJ.c2⟩ (λhS=>?_);refine Dy rfl (by rfl) (λK O=>?_);refine I1 (.tmp 37) (.tmp 42) 26 26 rfl 3 i0 _ 1 8 Hw hi bL bW bT rfl iF (.slice ap J.Ao.length cp) J.Ao.length (Ee J.Ao) (by rfl) bV.o _ 1 _ (by rfl) bF.o (by have:=a7.o;omega) ?_;intro a8 X w8 hA;have aP:=hA.Am (S:=λk=>(Value.slice ap J.Ao.length cp).ownBlock=some k) λ_ h=>h;have a6:=bJ.aj aP (λh=>(aH.o _ h).1 rfl);refine O _ _ ⟨a6.c1,a6.c2⟩ (λhS=>?_);have g81:=a6.c1;have f81:=a6.fz 1;have b7:=A1 (a6.s1 (.slice a8 (J.Ao.length+1) X));have bU:=A1 ((bR.o.aj ka (λh=>h)).aj aP (λh=>(aH.o _ h).2 rfl));have a9:=A1 hA.AB;have bM:=A1 hA.BX;have bZ:Hid (A4 (λk=>(Value.slice ap J.Ao.length cp).ownBlock=some k) w6 w8):=(ka.aS).tr aP;have b9:Hid (w6.heap.size<=w8.heap.size/\w6.heap.size<=(w6.aC #[A0 L] 3).drew.heap.size):=⟨bZ.o.Ak,ka.Ak⟩;refine Bl ?_;go_wp2;go_ret;have aA:∀g,(Value.slice a8 (J.Ao.length+1) X).ownBlock=some g->(Value.slice ap J.Ao.length cp).ownBlock=some g\/w6.heap.size<=g:=λg hg=>by
   rcases bM.o with h|h
   ·rw[h]at hg;exact .inl hg
   ·rw[h]at hg;cases hg;exact .inr b9.o.2
  have s46:=a4.o.Ak;have s04:=bY.o.Ak;have jbl:=bE.o.Ae.lt;have bC:∀g,(Value.slice a8 (J.Ao.length+1) X).ownBlock=some g->g≠jb:=λg hg=>by
   rcases aA g hg with h|h
   ·exact(aH.o g h).1
   ·omega
  have kf:A4 (One jb) w8 (w8.setCell (A9 jb 1) (.slice a8 (J.Ao.length+1) X)):=(A4.C (One jb) w8).an (b:=jb) rfl 1 _;have aR:A4 (λk=>k=jb\/(Value.slice ap J.Ao.length cp).ownBlock=some k) w4 (w8.setCell (A9 jb 1) (.slice a8 (J.Ao.length+1) X)):=
   ((a4.o.ah λ_ _ h=>.inl h).AF bZ.o λ_ h _=>.inr h).AF kf λ_ h _=>.inl h
  refine⟨rfl,Ap.jd (lv:=.slice a8 (J.Ao.length+1) X) (ov:=(A5 lb)) (Ft:=bG) ((bY.o.ah (S':=λk=>Ft k\/k=jb\/(Value.slice ap J.Ao.length cp).ownBlock=some k) λ_ _ h=>.inl h).AF aR λ_ h _=>.inr h) ?_ ⟨b7.o,?_,.inr ⟨L,s1,lb,rfl,rfl,?_,bB⟩⟩ ?_ ?_ ?_ ?_ ?_⟩
  ·rintro k _ (h|rfl|h)
   ·exact aG.o k (.inl h)
   ·exact aG.o _ (.inr (.inl rfl))
   ·exact aG.o k (.inr (.inr (.inl h)))
  ·have e:(J.Ao++[L]).length=J.Ao.length+1:=iE;unfold DY;rw[LK,e];exact Au a9.o λg hg=>FB _ _ _ _ (λe=>bC g hg e)
  ·rw[bP.o];exact bU.o.aj kf bA.o
  ·refine AU.aK cA.o (aR.av bX.o λk d Y=>?_);rcases bH.o k d with h|h
   ·rcases Y with rfl|Y
    ·exact a3.o _ (.inl rfl) h
    ·exact a3.o k (.inr (.inl Y)) h
   ·rcases Y with rfl|Y
    ·omega
    ·have:=Aw bE.o.Ao Y;omega
  ·exact λk d=>Bp (bX.o k d) aR.Ak
  ·rintro k (rfl|d|d) Y
   ·rcases bH.o _ Y with h|h
    ·exact a3.o _ (.inl rfl) h
    ·omega
   ·rcases aA k d with h|h
    ·rcases bH.o k Y with h' | h'
     ·exact a3.o k (.inr (.inl h)) h'
     ·have:=Aw bE.o.Ao h;omega
    ·have:=bX.o k Y;omega
   ·cases d;exact b1.o Y
  ·exact λk d=>(bH.o k d).imp (λh=>aG.o k (.inl h)) id
  ·rintro k (rfl|d|d)
   ·exact .inl (aG.o _ (.inr (.inl rfl)))
   ·rcases aA k d with h|h
    ·exact .inl (aG.o k (.inr (.inr (.inl h))))
    ·exact .inr iC
   ·cases d;exact .inr bK.o
end
def Pr{w:gC}{jb b:Nat}{lv ov:gD}{J:Jn}(h:DX w jb b lv ov J){n:Int}{s:Nat}(z:J.AB=some (n,s)):∃lb,ov=(A5 lb)/\Bi w lb 237 (A5 b) ⟨(Ah n).toArray⟩ s/\s<4294967296:=by
 rcases h.AB with⟨d,_⟩|⟨n',s',lb,d,E,L,I⟩
 ·rw[z]at d;cases d
 ·rw[z]at d;cases d;exact⟨lb,E,L,I⟩
section
variable{w w' w1 w2:gC}{b B jb lb pb:Nat}{P:PD}{Ft FT:Nat->Prop}{a c m:Nat}{lv ov:gD}{J:Jn}{n:Int}{s:Nat}
def DX.fE{P':PD}(E:DX w jb b lv (.pointer (some ⟨lb,0,none⟩)) J)(ho:J.AB=some (n,s))(_hlt:∀k,Ft k->k<w.heap.size)(z:∀k,Dt jb lv (.pointer (some ⟨lb,0,none⟩)) k->¬Ft k)(d:∀k,Ft k\/Dt jb lv (.pointer (some ⟨lb,0,none⟩)) k->FT k){s':Nat}(O:s'<4294967296)(hf:Bi w' lb 237 (.pointer (some ⟨b,0,none⟩)) ⟨(Ah n).toArray⟩ s')(hI:K7 w Ft lb w' b P'):
 Ap w FT w' (λw' Y=>JD w' jb b {J with AB:=some (n,s')} P' Y):=by
 have⟨lb',e,h3,_⟩:=Pr E ho;cases e;obtain⟨X,Ft',r2,r3,r4⟩:=hI;have n1:lb≠jb:=h3.dU E.Ae;have n2:∀g,lv.ownBlock=some g->g≠lb:=λg L=>h3.dp E.Ao L;refine Ap.jd X ?_ ⟨E.Ae.aj X ?_,?_,.inr ⟨n,s',lb,rfl,rfl,hf,O⟩⟩ r2 r3 ?_ ?_ ?_
 ·rintro k _ (h|rfl)
  ·exact d k (.inl h)
  ·exact d _ (.inr (.inr (.inr rfl)))
 ·rintro (h|h)
  ·exact z _ (.inl rfl) h
  ·exact n1 h.symm
 ·exact Au E.Ao λg L=>X.Al g (Aw E.Ao L) λh=>by
   rcases h with h|h
   ·exact z g (.inr (.inl L)) h
   ·exact n2 g L h
 ·exact λk I hx=>by
   rcases r4 k hx with h|h
   ·exact z k I h
   ·have:=E.lt I;omega
 ·exact λk I=>(r4 k I).imp (λh=>d k (.inl h)) id
 ·exact λk I=>.inl (d k (.inr I))
def A1o(w:gC)(p:Pu)(h:JD w jb b J P FT)(hp:Bo p)(hn:J.AB=none->CK (J.Ac+1)/\Ay (J.Ac+1)/\Ay J.pd)(bH:J.Ao.length<=1073741824)(hL:Lets B w)(hF:Fit P a c m)(hl:CV (a+1) (c+1) (m+33)):
 Ag 148 #[A5 jb,DO p] w (Aj (.tuple #[.bool (J.af P p).1,A0 (J.af P p).2.1]) λw'=>Ap w FT w' (λw' I=>JD w' jb b (J.af P p).2.2.1 (J.af P p).2.2.2 I)):=by
 obtain⟨E,z,d⟩:=p;unfold DO;dsimp only
 obtain⟨O,L,X,aD,bF,aL,aM,aG⟩:=h;have a5:CV (a+1) (c+1) (m+12):=⟨hl.a,hl.c,by have:=hl.m;omega⟩;have bG:Cg (w.aC #[A0 E,A0 z,A0 d] 113) w.heap.size E z d:=Bn w _;have k0:A4 Aa w (w.aC #[A0 E,A0 z,A0 d] 113):=(A4.C _ w).ai _;have sz:w.heap.size<(w.aC #[A0 E,A0 z,A0 d] 113).heap.size:=iE
 have hex:JD w jb b J P (λk=>X k\/Dt jb O L k):=⟨O,L,X,aD,bF,aL,aM,λ_ h=>h⟩;have aN:∀k,(X k\/Dt jb O L k)->k<w.heap.size:=λk hk=>hk.elim (aL k) λh=>aD.lt h;have h1:JD (w.aC #[A0 E,A0 z,A0 d] 113) jb b J P (λk=>X k\/Dt jb O L k):=hex.aK (k0.av aN λ_ _ h=>h) k0.Ak;have a8:=hL.aL k0
 have AD:Hid (∀(w1:gC) (aA:Jn) (aB:PD) (Y:Nat->Prop) (n:Int) (s:Nat),A4 (λk=>X k\/Dt jb O L k) (w.aC #[A0 E,A0 z,A0 d] 113) w1->(∀k,Y k->(X k\/Dt jb O L k)\/(w.aC #[A0 E,A0 z,A0 d] 113).heap.size<=k)->JD w1 jb b aA aB Y->aA.AB=some (n,s)->Fit aB (a+1) (c+1) (m+12)->
  ∃lb,A7 w1 jb 4 (A5 lb)/\Cg w1 w.heap.size E z d/\Ag 191 #[A5 lb,.agg #[A0 E,A0 z,A0 d]] w1.drew (Aj (.tuple #[.bool (aA.az aB (E,z,d)).1,A0 (aA.az aB (E,z,d)).2.1]) λw'=>
   w'.cell? (A9 jb 4)=some (A5 lb)/\Cg w' w.heap.size E z d/\Ap w FT w' (λw' I=>JD w' jb b (aA.az aB (E,z,d)).2.2.1 (aA.az aB (E,z,d)).2.2.2 I))):=λw1 aA aB Y n s aU aQ bE aR bC=>by
  obtain⟨lv,ov,Ft,hJ,hD,aO,aE,aF⟩:=bE;obtain⟨lb,rfl,h3,h4⟩:=Pr hJ aR;have aJ:=bG.aj aU (λhx=>by have:=aN _ hx;omega);have aY:¬Y w.heap.size:=λhx=>by
   rcases aQ _ hx with h|h
   ·have:=aN _ h;omega
   ·omega
  have kd:A4 Aa w1 w1.drew:=(A4.C _ w1).aa;have a1:=hJ.ak kd;have aK:∀k,Ft k->k<w1.drew.heap.size:=aO;refine⟨lb,hJ.Ae.c4,aJ,(A4s (E,z,d) _ s (h3.aj kd (λh=>h)) h4 (AU.av hD aO kd) aK (λhx=>aE _ (.inr (.inr rfl)) hx) hp bC ⟨hl.a,hl.c,by have:=hl.m;omega⟩).mono ?_⟩;rintro e w'⟨rfl,hf,hI⟩;have he:aA.az aB (E,z,d)=((aB.af (Ab (Ah n)) s (Bg E z d)).1,(aB.af (Ab (Ah n)) s (Bg E z d)).2.1,{aA with AB:=some (n,AY s (Bg E z d))},(aB.af (Ab (Ah n)) s (Bg E z d)).2.2):=by unfold Jn.az;rw[aR]
  rw[he];have a9:=DX.fE a1 aR aK aE aF (Kd s (Bg E z d) h4) hf hI
  have a7:CM w' jb b lv aA.Ac aA.pd (A5 lb):=a1.Ae.aj hI.1 (by
   rintro (h|h)
   ·exact aE _ (.inl rfl) h
   ·exact h3.dU hJ.Ae h.symm)
  refine⟨rfl,a7.c4,aJ.aa.aj hI.1 (by
   rintro (h|h)
   ·exact aY (aF _ (.inl h))
   ·exact aY (aF _ (.inr (.inr (.inr (by rw[h])))))),?_⟩
  have hall:Ap (w.aC #[A0 E,A0 z,A0 d] 113) (λk=>X k\/Dt jb O L k) w' (λw' I=>JD w' jb b {aA with AB:=some (n,AY s (Bg E z d))} (aB.af (Ab (Ah n)) s (Bg E z d)).2.2 I):=by
   have⟨q1,Ft',q2,q3,q4⟩:=a9.a1 kd;exact⟨aU.AF q1 λx hx aO=>(aQ x hx).resolve_right iC,Ft',q2,q3,λk hk=>(q4 k hk).elim (λh=>aQ k h) λh=>.inr (AO aU.Ak h)⟩
  exact(hall.a1 k0).aV aG
 by_cases ho:J.AB=none
 case pos=>
  have aV:L=.pointer none:=by
   rcases aD.AB with⟨_,h⟩|⟨n,s,lb,h,_⟩
   ·exact h
   ·rw[ho]at h;cases h
  have⟨n1,n2,n3⟩:=hn ho;have a2:=A1 (A3D _ h1 ho n1 n2 n3 bH a8 hF a5);have c4:=(aD.ak k0).Ae.c4;rw[aV]at c4;have aW:Hid (J.af P (E,z,d)=if (J.aw P).1≠0 then (false,(J.aw P).1,(J.aw P).2.1,(J.aw P).2.2) else (J.aw P).2.1.az (J.aw P).2.2 (E,z,d)):=by unfold Hid Jn.af;rw[Ai ho]
  have aT:Hid (Fit (J.aw P).2.2 (a+1) (c+1) (m+12)):=by
   (have hp:(AT (AI (Ah (J.Ac+1))) (AQ J.pd)).length=12:=by simp[AT,I2,CT]);have a0:=hF.aq (Ab (Ah (J.Ac+1)));have aP:=a0.au (Ab (Ah (J.Ac+1))) (AT (AI (Ah (J.Ac+1))) (AQ J.pd));rw[hp]at aP;unfold Hid Jn.aw;split
   ·exact a0.ah (An _) (An _) iC
   ·dsimp only
    split
    ·exact aP
    ·exact aP
  have bA:Hid ((J.aw P).1=0->∃n s,(J.aw P).2.1.AB=some (n,s)):=λh0=>by
   unfold Jn.aw at h0 ⊢;split
   ·rename_i hc;rw[Ai hc]at h0;exact absurd h0 hc
   ·rename_i hc;rw[Af hc]at h0;dsimp only at h0 ⊢;split
    ·rename_i hd;rw[Ai hd]at h0;exact absurd h0 hd
    ·exact⟨_,_,rfl⟩
  have bD:Hid (∀wx bB bI,Ap (w.aC #[A0 E,A0 z,A0 d] 113) (λk=>X k\/Dt jb O L k) wx (λw' I=>JD w' jb b bB bI I)->Ap w FT wx (λw' I=>JD w' jb b bB bI I)):=λwx bB bI hx=>(hx.a1 k0).aV aG
  generalize hR:J.af P (E,z,d)=R at aW ⊢;generalize hG:J.aw P=G at a2 aW aT bA;obtain⟨a6,a4,a3⟩:=G;dsimp only at a2 aW aT bA;by_cases hg:a6=0
  case neg=>
   (have aH:R=(false,a6,a4,a3):=by rw[aW.o,Ai hg]);subst aH;(have hgb:(a6 !=0)=true:=by simpa using hg)
   go_enter func148,ntmps148
   go_wp2_with (go_at_call 190;refine a2.k ?_;rintro w2 hI;have aX:=A1 (bD.o _ _ _ hI));go_ret2;exact⟨rfl,aX.o⟩
  case pos=>
   subst hg;(have aH:R=a4.az a3 (E,z,d):=by rw[aW.o,Af iE]);have⟨n,s,aI⟩:=bA.o rfl
   have aZ:Hid (∀w2,Ap (w.aC #[A0 E,A0 z,A0 d] 113) (λk=>X k\/Dt jb O L k) w2 (λw' I=>JD w' jb b a4 a3 I)->∃lb,A7 w2 jb 4 (A5 lb)/\Cg w2 w.heap.size E z d/\Ag 191 #[A5 lb,.agg #[A0 E,A0 z,A0 d]] w2.drew (Aj (.tuple #[.bool R.1,A0 R.2.1]) λw'=>
    w'.cell? (A9 jb 4)=some (A5 lb)/\Cg w' w.heap.size E z d/\Ap w FT w' (λw' I=>JD w' jb b R.2.2.1 R.2.2.2 I))):=λw2 hI=>by
    obtain⟨q1,Y,q2,q3,q4⟩:=hI;rw[aH];exact AD.o w2 a4 a3 Y n s q1 q4 q2 aI aT.o
   obtain⟨bL,bK,bJ,bM⟩:=R;dsimp only at aZ
   go_enter func148,ntmps148
   go_wp2_with (fail);refine a2.k ?_;rintro w2 hI;have⟨lb,c24,pb2,AL⟩:=aZ.o w2 hI;have aS:=A1 AL;have d4:A7 w2.drew jb 4 (A5 lb):=c24;have d0:=pb2.aa.c0;have d1:=pb2.aa.c1;have d2:=pb2.aa.c2;go_wp2;refine Bq (λw'=>A7 w' jb 4 (A5 lb)/\A7 w' w.heap.size 0 (A0 E)/\A7 w' w.heap.size 1 (A0 z)/\A7 w' w.heap.size 2 (A0 d)) 8
    (Ba [0,1,2,3,4,5,6,7] [5]) ⟨d4,d0,d1,d2⟩ ?_
   iterate 5 refine B4 ?_
   refine Bf λK hK=>?_;go_simp;refine aS.k ?_;rintro w3⟨e4,eb,hI⟩;refine hK _ _ ⟨e4,eb.c0,eb.c1,eb.c2⟩ (λhS=>?_);have aX:=A1 hI
   iterate 2 refine B4 ?_
   refine Bl ?_;go_wp2;go_ret2;exact⟨rfl,aX.o⟩
 case neg=>
  obtain⟨⟨n,s⟩,aI⟩:∃x,J.AB=some x:=Qo.1 ho;obtain⟨lb0,aV,-,-⟩:=Pr aD aI;have aH:J.af P (E,z,d)=J.az P (E,z,d):=by unfold Jn.af;rw[Af ho]
  have⟨lb,c24,pb2,AL⟩:=AD.o _ J P _ n s (A4.C _ _) (λk hk=>.inl hk) h1 aI (hF.ah iC iC iC);rw[<-aH]at AL;generalize hR:J.af P (E,z,d)=R at AL ⊢;obtain⟨bL,bK,bJ,bM⟩:=R;dsimp only at AL ⊢;have aS:=A1 AL;have d4:(w.aC #[A0 E,A0 z,A0 d] 113).drew.cell? (A9 jb 4)=some (A5 lb):=c24;have d0:=pb2.aa.c0;have d1:=pb2.aa.c1;have d2:=pb2.aa.c2
  go_enter func148,ntmps148
  go_wp2;refine Bq (λw'=>A7 w' jb 4 (A5 lb)/\A7 w' w.heap.size 0 (A0 E)/\A7 w' w.heap.size 1 (A0 z)/\A7 w' w.heap.size 2 (A0 d)) 8
   (Ba [0,1,2,3,4,5,6,7] [5]) ⟨d4,d0,d1,d2⟩ ?_
  iterate 5 refine B4 ?_
  refine Bf λK hK=>?_;go_simp;refine aS.k ?_;rintro w3⟨e4,eb,hI⟩;refine hK _ _ ⟨e4,eb.c0,eb.c1,eb.c2⟩ (λhS=>?_);have aX:=A1 hI
  iterate 2 refine B4 ?_
  refine Bl ?_;go_wp2;go_ret2;exact⟨rfl,aX.o⟩
end
end
section
open Go.RowKit
def Dg(w:gC)(ab b xb jb:Nat)(lh:Int)(ov:gD):Prop:=w.heap[ab]?=some (.cells #[.pointer (some ⟨b,0,none⟩),.pointer (some ⟨xb,0,none⟩),.pointer (some ⟨jb,0,none⟩),.int .i64 lh,ov] 150 (0,0))
section
variable{w w':gC}{ab b xb jb:Nat}{lh:Int}{ov:gD}
def Dg.c0(h:Dg w ab b xb jb lh ov):A7 w ab 0 (A5 b):=by unfold Dg at h;simp[A7,World.cell?,h]
def Dg.c1(h:Dg w ab b xb jb lh ov):A7 w ab 1 (A5 xb):=by unfold Dg at h;simp[A7,World.cell?,h]
def Dg.c2(h:Dg w ab b xb jb lh ov):A7 w ab 2 (A5 jb):=by unfold Dg at h;simp[A7,World.cell?,h]
def Dg.c3(h:Dg w ab b xb jb lh ov):A7 w ab 3 (A0 lh):=by unfold Dg at h;simp[A7,World.cell?,h]
def Dg.c4(h:Dg w ab b xb jb lh ov):A7 w ab 4 ov:=by unfold Dg at h;simp[A7,World.cell?,h]
def Dg.fz(h:Dg w ab b xb jb lh ov)(o:Nat):w.frozen? (A9 ab o)=false:=by unfold Dg at h;simp[World.frozen?,h]
def Dg.lt(h:Dg w ab b xb jb lh ov):ab<w.heap.size:=Bv h
def Dg.s3(h:Dg w ab b xb jb lh ov)(x:Int):Dg (w.setCell (A9 ab 3) (A0 x)) ab b xb jb x ov:=BQ h
def Dg.s4(h:Dg w ab b xb jb lh ov)(x:gD):Dg (w.setCell (A9 ab 4) x) ab b xb jb lh x:=BQ h
def Dg.aa(h:Dg w ab b xb jb lh ov):Dg w.drew ab b xb jb lh ov:=by unfold Dg at h ⊢;exact h
def Dg.aj{S:Nat->Prop}(h:Dg w ab b xb jb lh ov)(d:A4 S w w')(z:¬S ab):Dg w' ab b xb jb lh ov:=d.aj h z
end
def G0(ab xb jb:Nat)(sv ov lv jo:gD)(k:Nat):Prop:=k=ab\/k=xb\/sv.ownBlock=some k\/ov.ownBlock=some k\/Dt jb lv jo k
structure Cv (w:gC) (ab b xb jb:Nat) (sv ov lv jo:gD) (A:Ar) (P:PD) (Ft:Nat->Prop):Prop where
 Ae:Dg w ab b xb jb A.Ac ov
 ix:Cc w xb 162 b AJ (AI AJ) A.ix.Bd sv
 sd:Dh w sv A.ix.sd
 AS:Hi w ov A.AS
 jn:DX w jb b lv jo A.j
 dk:Bw w b P Ft
 lt:∀k,Ft k->k<w.heap.size
 Dp:∀k,G0 ab xb jb sv ov lv jo k->¬Ft k
 G2:∀g,sv.ownBlock=some g->g≠ab/\g≠xb/\¬Dt jb lv jo g
 GD:∀g,ov.ownBlock=some g->g≠ab/\g≠xb/\¬Dt jb lv jo g
 Gg:∀k,Dt jb lv jo k->k≠ab/\k≠xb
def AD(w:gC)(ab b:Nat)(A:Ar)(P:PD)(FT:Nat->Prop):Prop:=
 ∃xb jb sv ov lv jo Ft,Cv w ab b xb jb sv ov lv jo A P Ft/\∀k,Ft k\/G0 ab xb jb sv ov lv jo k->FT k
section
variable{w w':gC}{ab b xb jb:Nat}{sv ov lv jo:gD}{A:Ar}{P P':PD}{Ft FT:Nat->Prop}
def Cv.bJ(h:Cv w ab b xb jb sv ov lv jo A P Ft){k:Nat}(d:G0 ab xb jb sv ov lv jo k):k<w.heap.size:=by
 rcases d with rfl|rfl|d|d|d
 ·exact h.Ae.lt
 ·exact h.ix.lt
 ·exact h.sd.lt d
 ·exact h.AS.lt d
 ·exact h.jn.lt d
def Cv.b0(h:Cv w ab b xb jb sv ov lv jo A P Ft){k:Nat}(d:Ft k\/G0 ab xb jb sv ov lv jo k):k<w.heap.size:=d.elim (h.lt k) h.bJ
def Cv.ne(h:Cv w ab b xb jb sv ov lv jo A P Ft):ab≠xb:=BR h.Ae h.ix iF
def Cv.aK(h:Cv w ab b xb jb sv ov lv jo A P Ft)(d:Gz (λk=>Ft k\/G0 ab xb jb sv ov lv jo k) w w')(I:w.heap.size<=w'.heap.size):Cv w' ab b xb jb sv ov lv jo A P Ft:=
 ⟨(d ab (.inr (.inl rfl))).trans h.Ae,(d xb (.inr (.inr (.inl rfl)))).trans h.ix,h.sd.aK λg E=>d g (.inr (.inr (.inr (.inl E)))),h.AS.aK λg E=>d g (.inr (.inr (.inr (.inr (.inl E))))),
   h.jn.aK λk z=>d k (.inr (.inr (.inr (.inr (.inr z))))),AU.aK h.dk λk z=>d k (.inl z),λk z=>Bp (h.lt k z) I,h.Dp,h.G2,h.GD,h.Gg⟩
def Cv.ak(h:Cv w ab b xb jb sv ov lv jo A P Ft)(d:A4 Aa w w'):Cv w' ab b xb jb sv ov lv jo A P Ft:=h.aK (d.av (λ_ z=>h.b0 z) λ_ _ h=>h) d.Ak
def Cv.bO(h:Cv w ab b xb jb sv ov lv jo A P Ft)(Y:Ap w Ft w' (λw' d=>Bw w' b P' d)):Ap w Ft w' (λw' d=>Cv w' ab b xb jb sv ov lv jo A P' d):=by
 obtain⟨X,d,h2,O,L⟩:=Y;have E:=X.av (λ_ z=>h.bJ z) h.Dp
 exact⟨X,d,⟨(E ab (.inl rfl)).trans h.Ae,(E xb (.inr (.inl rfl))).trans h.ix,h.sd.aK λg I=>E g (.inr (.inr (.inl I))),h.AS.aK λg I=>E g (.inr (.inr (.inr (.inl I)))),
  h.jn.aK λk z=>E k (.inr (.inr (.inr (.inr z)))),h2,O,λk z hx=>(L k hx).elim (h.Dp k z) λh'=>by have:=h.bJ z;omega,h.G2,h.GD,h.Gg⟩,O,L⟩
def Cv.bP{S:Nat->Prop}{E O:Nat}{z I lv' L:gD}{A':Ar}{d:Nat->Prop}(h':Cv w' ab b E O z I lv' L A' P' d)(hc:A4 S w w')(hS:∀k,k<w.heap.size->S k->FT k)(h1:∀k,d k->FT k\/w.heap.size<=k)(h2:∀k,G0 ab E O z I lv' L k->FT k\/w.heap.size<=k):
 Ap w FT w' (λw' X=>AD w' ab b A' P' X):=
 ⟨hc.ah hS,λk=>d k\/G0 ab E O z I lv' L k,⟨E,O,z,I,lv',L,d,h',λ_ h=>h⟩,λ_ Y=>h'.b0 Y,λk Y=>Y.elim (h1 k) (h2 k)⟩
def Cv.cM(_h:Cv w ab b xb jb sv ov lv jo A P Ft)(d:∀k,Ft k\/G0 ab xb jb sv ov lv jo k->FT k)(L:Ap w Ft w' (λw' E=>Cv w' ab b xb jb sv ov lv jo A P' E)):Ap w FT w' (λw' I=>AD w' ab b A P' I):=by
 obtain⟨Y,E,O,h3,X⟩:=L;exact O.bP Y (λk _ z=>d k (.inl z)) (λk z=>(X k z).imp (λh=>d k (.inl h)) id) λk z=>.inl (d k (.inr z))
def AD.aK(h:AD w ab b A P FT)(I:Gz FT w w')(L:w.heap.size<=w'.heap.size):AD w' ab b A P FT:=by
 obtain⟨xb,jb,sv,ov,lv,jo,Ft,E,d⟩:=h;exact⟨xb,jb,sv,ov,lv,jo,Ft,E.aK (I.ah λk z=>d k z) L,d⟩
def AD.ak(h:AD w ab b A P FT)(E:A4 Aa w w'):AD w' ab b A P FT:=by
 obtain⟨xb,jb,sv,ov,lv,jo,Ft,z,d⟩:=h;exact⟨xb,jb,sv,ov,lv,jo,Ft,z.ak E,d⟩
end
def JV(w:gC)(d b h:Nat)(x:Int×gF Pu):Prop:=∃pv,Cc w h 182 b (AH x.1) (AI (AH x.1)) x.1 pv/\B1 w pv x.2/\d<=h/\∀g,pv.ownBlock=some g->d<=g
def H7(d:gF Nat):gF Value:=d.map λg=>(A5 g)
def Yq(d:gF Nat):∀u∈H7 d,u.oneCell'=true:=by
 intro u hu;simp[H7]at hu;obtain⟨x,_,rfl⟩:=hu;rfl
def GY(w:gC)(h b:Nat)(v:gD)(l:gF (Int×gF Pu)):Prop:=
 ∃d:gF Nat,d.length=l.length/\w.ownsRow 0 179 1 v l.length (H7 d)/\(∀g,v.ownBlock=some g->h<=g)/\∀k (E:k<d.length) (z:k<l.length),JV w h b (d[k]'E) (l[k]'z)
def JV.ak{w w':gC}{d b E:Nat}{x:Int×gF Pu}(h:JV w d b E x)(I:A4 Aa w w'):JV w' d b E x:=by
 obtain⟨pv,O,z,X,L⟩:=h;exact⟨pv,O.aj I (λh=>h),Au z λg Y=>I.Al g (Aw z Y) (λh=>h),X,L⟩
def GY.ak{w w':gC}{z b:Nat}{v:gD}{l:gF (Int×gF Pu)}(h:GY w z b v l)(I:A4 Aa w w'):GY w' z b v l:=by
 obtain⟨d,X,E,Y,L⟩:=h;exact⟨d,X,Au E λg hg=>I.Al g (Aw E hg) (λh=>h),Y,λk O q2=>(L k O q2).ak I⟩
def Tryz.fe:(Tryz.prog.info? 179).map (λi=>(i.zero,i.size,i.bytes))=some (some (.pointer none),1,8):=by kernel_rfl
def Yz:∃d,Tryz.prog.info? 179=some d/\d.zero=some (.pointer none)/\d.size=1/\d.bytes=8:=by
 have h:=Tryz.fe;cases hx:Tryz.prog.info? 179 with
 | none=>rw[hx]at h;cases h
 | some i=>rw[hx]at h;simp at h;exact⟨i,rfl,h.1,h.2.1,h.2.2⟩
def Bz(l:gF Pu)(k t:Int):Option Int:=l.foldl (λo p=>if p.1=k/\p.2.1=t then some p.2.2 else o) none
def J2(l:gF Pu)(p:Pu)(k t:Int):Bz (l++[p]) k t=if p.1=k/\p.2.1=t then some p.2.2 else Bz l k t:=by simp[Bz]
def A1a(l:gF Pu)(k t:Int):∀o,l.foldl (λo p=>if p.1=k/\p.2.1=t then some p.2.2 else o) o=(Bz l k t).or o:=by
 induction l with
 | nil=>intro o;simp[Bz]
 | cons p r ih=>
  intro o;have h:=ih (if p.1=k/\p.2.1=t then some p.2.2 else o);have d:=ih (if p.1=k/\p.2.1=t then some p.2.2 else none);unfold Bz at h d ⊢;simp only[QC]at h d ⊢;rw[h,d];cases r.foldl (λo p=>if p.1=k/\p.2.1=t then some p.2.2 else o) none with
  | some x=>simp
  | none=>
   simp only[Option.none_or];split<;>simp
def Hc(a b:gF Pu)(k t:Int):Bz (a++b) k t=(Bz b k t).or (Bz a k t):=by
 have:=A1a b k t (Bz a k t);unfold Bz at this ⊢;rw[NV,this]
def Ub(l:gF Pu)(k t:Int)(q:Pu->Bool)(E:∀p∈l,p.1=k->p.2.1=t->q p=true):Bz (l.filter q) k t=Bz l k t:=by
 induction l with
 | nil=>rfl
 | cons p r ih=>
  have d:=ih λx z=>E x (BC _ z);have e:∀x:Pu,∀l:gF Pu,Bz (x::l) k t=(Bz l k t).or (Bz [x] k t):=λx l=>Hc [x] l k t;by_cases h:q p=true
  ·rw[Jm h,e p r,e p (r.filter q),d]
  ·rw[KZ h,e p r,d];have:¬(p.1=k/\p.2.1=t):=λz=>h (E p (BI ..) z.1 z.2);simp[Bz,this]
def Pn{l:gF Pu}{k t:Int}:Bz l k t=none↔∀p∈l,¬(p.1=k/\p.2.1=t):=by
 induction l with
 | nil=>simp[Bz]
 | cons p r ih=>
  have e:Bz (p::r) k t=(Bz r k t).or (Bz [p] k t):=Hc [p] r k t;rw[e,Option.or_eq_none_iff,ih];simp only[BS,forall_eq_or_imp];constructor
  ·rintro⟨z,d⟩;exact⟨λh=>by simp[Bz,h]at d,z⟩
  ·rintro⟨z,d⟩;exact⟨d,by simp[Bz,z]⟩
def A09{l:gF Pu}{k t v:Int}(h:Bz l k t=some v):(k,t,v)∈l:=by
 induction l with
 | nil=>cases h
 | cons p r ih=>
  have e:Bz (p::r) k t=(Bz r k t).or (Bz [p] k t):=Hc [p] r k t;rw[e]at h;cases hr:Bz r k t with
  | some x=>
   rw[hr]at h;simp at h;subst h;exact BC _ (ih hr)
  | none=>
   rw[hr]at h;simp only[Option.none_or]at h;by_cases d:p.1=k/\p.2.1=t
   ·simp[Bz,d]at h;obtain⟨a,b,c⟩:=p
    simp_all
   ·simp[Bz,d]at h
def J3{len:Int}{p q:Pu}:AE len p q=true↔BH p.2.1 len<BH q.2.1 len\/BH p.2.1 len=BH q.2.1 len/\(p.1<q.1\/p.1=q.1/\p.2.1<q.2.1):=by simp[AE]
def A1f{len:Int}{p q r:Pu}(h1:AE len p q=true)(h2:AE len q r=true):AE len p r=true:=by
 rw[J3]at *;omega
def A1i{len:Int}{p q:Pu}(h:AE len p q=true):¬(p.1=q.1/\p.2.1=q.2.1):=by
 rw[J3]at h;rintro⟨h1,d⟩;rw[d]at h;omega
def Vh{p q:Pu}:Cx p q=0↔p.1=q.1/\p.2.1=q.2.1:=by
 have h:∀x y:Int,Ct x y=0↔x=y:=λx y=>by
  unfold Ct;by_cases d:x<y
  ·simp[d];omega
  ·by_cases z:y<x
   ·simp[d,z];omega
   ·simp[d,z];omega
 unfold Cx;by_cases d:Ct p.1 q.1=0
 ·simp[h,(h _ _).1 d]
 ·simp only[Kw,d,P9,Cs,false_iff];exact λE=>d ((h _ _).2 E.1)
def A3d{p q:Pu}:Cx p q<0↔p.1<q.1\/p.1=q.1/\p.2.1<q.2.1:=by
 unfold Cx;by_cases h:p.1=q.1
 ·have:Ct p.1 q.1=0:=by rw[h];simp[Ct]
  rw[Af (by simp[this]),Qc];omega
 ·have:Ct p.1 q.1≠0:=by
   unfold Ct;by_cases d:p.1<q.1
   ·simp[d]
   ·rw[Af d,Ai iC];simp
  rw[Ai this,Qc];omega
def A1g{len:Int}{p q:Pu}(h:BH p.2.1 len=BH q.2.1 len)(E:AE len p q=false)(z:Cx p q≠0):AE len q p=true:=by
 have d:¬(AE len p q=true):=by simp[E]
 rw[J3]at d ⊢;rw[Kw,Vh]at z;omega
def A1h{len:Int}{p q:Pu}(h:BH p.2.1 len≠BH q.2.1 len)(z:AE len p q=false):BH q.2.1 len<BH p.2.1 len:=by
 have d:¬(AE len p q=true):=by simp[z]
 rw[J3]at d;omega
def Yj(len:Int)(h:BZ (AE len))(l:gF Pu)(k t:Int):Bz (Ev (AE len) l) k t=Bz l k t:=by
 have E:=h.cH l (k,t,0);have d:∀m:gF Pu,∀p∈m,p.1=k->p.2.1=t->eqv (AE len) (k,t,0) p=true:=λm p _ I z=>by
  subst I z;simp[eqv,AE]
 rw[<-Ub l k t _ (d l),<-Ub (Ev (AE len) l) k t _ (d _),E]
structure WI (len:Int) (ws:gF (gF Pu)) (s:gF Pu):Prop where
 LX:ws.flatten.Pairwise (λa b=>AE len a b=true)
 Ac:∀k t,Bz ws.flatten k t=Bz s k t
 DG:∀x∈ws.flatten,x∈s
 ne:∀w∈ws,w≠[]
 Gp:∀w∈ws,∀p∈w,∀q∈w,BH p.2.1 len=BH q.2.1 len
 LY:ws.Pairwise λw w'=>∀p∈w,∀q∈w',BH p.2.1 len<BH q.2.1 len
 Be:ws.flatten.length<=s.length
def WI.DP{len:Int}{ws:gF (gF Pu)}{s:gF Pu}(h:WI len ws s)(p:Pu)(O:∀x∈ws.flatten,BH x.2.1 len<BH p.2.1 len):WI len (ws++[[p]]) (s++[p]):=by
 have e:(ws++[[p]]).flatten=ws.flatten++[p]:=iE
 have L:∀w∈ws,∀x∈w,x∈ws.flatten:=λw d x z=>KV.2 ⟨w,d,z⟩;refine⟨?_,λk t=>?_,λx z=>?_,λw d=>?_,λw d=>?_,?_,?_⟩
 ·rw[e,EL];refine⟨h.LX,iE,λa I b E=>?_⟩;simp at E;subst E;rw[J3];exact .inl (O a I)
 ·rw[e,J2,J2,h.Ac]
 ·rw[e]at z;rcases AX.1 z with z|z
  ·exact G9 _ (h.DG x z)
  ·exact HW _ z
 ·rcases AX.1 d with d|d
  ·exact h.ne w d
  ·simp at d;subst d;simp
 ·rcases AX.1 d with d|d
  ·exact h.Gp w d
  ·simp at d;subst d;intro a I b E;simp at I E;subst I E;rfl
 ·rw[EL];refine⟨h.LY,iE,λa I b E x z y X=>?_⟩;simp at E;subst E;simp at X;subst X;exact O x (L a I x z)
 ·rw[e,B3,B3];have:=h.Be;simp only[Wl];omega
def WI.al{len:Int}{d:gF (gF Pu)}{w w':gF Pu}{s s':gF Pu}{q:Pu}(h:WI len (d++[w]) s)(hq:q∈w)(O:(d.flatten++w').Pairwise (λa b=>AE len a b=true))(L:∀k t,Bz (d.flatten++w') k t=Bz s' k t)(Y:∀x∈w',x∈s')(aA:∀x∈s,x∈s')(aB:w'≠[])(E:∀p∈w',BH p.2.1 len=BH q.2.1 len)(hlen:w'.length+s.length<=w.length+s'.length):WI len (d++[w']) s':=by
 have e:∀v:gF Pu,(d++[v]).flatten=d.flatten++v:=λv=>iE
 have X:=EL.1 h.LY;refine⟨by rw[e];exact O,λk t=>by rw[e];exact L k t,λx I=>?_,λv z=>?_,λv z=>?_,?_,?_⟩
 ·rw[e]at I;rcases AX.1 I with I|I
  ·exact aA x (h.DG x (by rw[e];exact G9 _ I))
  ·exact Y x I
 ·rcases AX.1 z with z|z
  ·exact h.ne v (G9 _ z)
  ·simp at z;subst z;exact aB
 ·rcases AX.1 z with z|z
  ·exact h.Gp v (G9 _ z)
  ·simp at z;subst z;intro a ha b hb;rw[E a ha,E b hb]
 ·rw[EL];refine⟨X.1,iE,λa ha b hb x I y hy=>?_⟩;simp at hb;subst hb;rw[E y hy];exact X.2.2 a ha w iE x I q hq
 ·rw[e];have:=h.Be;rw[e]at this;simp only[B3]at this ⊢;omega
def WI.aZ{len:Int}{z:gF (gF Pu)}{L:gF Pu}{q E p:Pu}{s:gF Pu}(h:WI len (z++[L++[q]]) s)(hq:q.1=E.1/\q.2.1=E.2.1)(hp:AE len p E=false):
 ∃aA w1,EZ len (z++[L++[q]]) false E p=aA++[w1++[p]]/\WI len (aA++[w1++[p]]) (s++[p]):=by
 have aF:AE len p q=false:=by
  have:AE len p q=AE len p E:=by unfold AE;rw[hq.1,hq.2]
  rw[this];exact hp
 have X:q∈L++[q]:=iE
 have e:∀v:gF Pu,(z++[v]).flatten=z.flatten++v:=λv=>iE
 have I:=h.LX;rw[e]at I;have hall:∀x∈z.flatten++(L++[q]),x=q\/AE len x q=true:=λx d=>by
  rw[<-Ci]at d I;rcases AX.1 d with d|d
  ·exact .inr ((EL.1 I).2.2 x d q iE)
  ·exact .inl (by simpa using d)
 unfold EZ;dsimp only
 by_cases O:BH p.2.1 len=BH E.2.1 len
 ·have hw:BH p.2.1 len=BH q.2.1 len:=by rw[O,hq.2]
  have Y:¬(false=true\/BH p.2.1 len≠BH E.2.1 len):=by simp[O]
  simp only[Af Y];have hl:(z++[L++[q]]).getLastD []=L++[q]:=iE
  have aG:(L++[q]).getLastD (0,0,0)=q:=iE
  have hd:(z++[L++[q]]).dropLast=z:=iE
  have aD:(L++[q]).dropLast=L:=iE
  rw[hl,aG,hd,aD];by_cases hz:Cx p q=0
  ·rw[Ai ⟨iE,hz⟩];have hk:=Vh.1 hz;refine⟨z,L,rfl,h.al X ?_ (λk t=>?_) (λx d=>?_) (λx d=>G9 _ d) iE (λx d=>?_) iE⟩
   ·rw[<-Ci]at I ⊢;have ha:=EL.1 I;rw[EL];refine⟨ha.1,iE,λa aH b hb=>?_⟩;simp at hb;subst hb;have:=ha.2.2 a aH q iE;rw[J3]at this ⊢;rw[hk.1,hk.2];exact this
   ·rw[<-Ci,J2,J2,<-h.Ac,e,<-Ci,J2];by_cases d:p.1=k/\p.2.1=t
    ·simp[d]
    ·rw[Af d,Af d,Af (by rw[<-hk.1,<-hk.2];exact d)]
   ·rcases AX.1 d with d|d
    ·exact G9 _ (h.DG x (by rw[e];simp[d]))
    ·exact HW _ d
   ·rcases AX.1 d with d|d
    ·exact h.Gp _ iE x (by simp[d]) q X
    ·simp at d;subst d;exact hw
  ·rw[Af (by simp[hz])];have aB:=A1g hw aF hz;refine⟨z,L++[q],rfl,h.al X ?_ (λk t=>?_) (λx d=>?_) (λx d=>G9 _ d) iE (λx d=>?_) (by simp;omega)⟩
   ·rw[<-Ci,EL];refine⟨I,iE,λa ha b hb=>?_⟩;simp at hb;subst hb;rcases hall a ha with rfl|d
    ·exact aB
    ·exact A1f d aB
   ·rw[<-Ci,J2,J2,<-h.Ac,e]
   ·rcases AX.1 d with d|d
    ·exact G9 _ (h.DG x (by rw[e];exact HW _ d))
    ·exact HW _ d
   ·rcases AX.1 d with d|d
    ·exact h.Gp _ iE x d q X
    ·simp at d;subst d;exact hw
 ·have Y:false=true\/BH p.2.1 len≠BH E.2.1 len:=.inr O;simp only[Ai Y];have hl:(z++[L++[q]]++[[]]).getLastD []=([]:gF Pu):=iE
  have hd:(z++[L++[q]]++[[]]).dropLast=z++[L++[q]]:=iE
  rw[hl,hd,Af iE];refine⟨z++[L++[q]],[],iE,?_⟩;have aE:BH q.2.1 len<BH p.2.1 len:=by
   have:=A1h O hp;rw[hq.2];exact this
  have:=h.DP p λx d=>?_
  ·simpa using this
  ·rw[e]at d;rcases hall x d with rfl|d
   ·exact aE
   ·rw[J3]at d;omega
def R5{len:Int}:∀(r:gF Pu) (z:gF (gF Pu)) (I:gF Pu) (q d:Pu) (s:gF Pu),WI len (z++[I++[q]]) s->q.1=d.1/\q.2.1=d.2.1->B6 (AE len) (d::r)->WI len (ED len r false d (z++[I++[q]])) (s++r)
 | [],z,I,q,d,s,h,_,_=>by simpa[ED] using h
 | p::r,z,I,q,d,s,h,hq,ha=>by
  have E:=Dl.1 ha;have⟨ws1,w1,h1,h2⟩:=h.aZ hq (E.1 p (BI ..));unfold ED;rw[h1];have:=R5 r ws1 w1 p p (s++[p]) h2 ⟨rfl,rfl⟩ E.2;simpa using this
def X1{len:Int}(s:gF Pu)(z:B6 (AE len) s):WI len (ED len s true (0,0,0) []) s:=by
 cases s with
 | nil=>exact⟨by simp[ED],λ_ _=>rfl,λx h=>by simp[ED]at h,λw d=>by simp[ED]at d,λw d=>by simp[ED]at d,by simp[ED],by simp[ED]⟩
 | cons p r=>
  unfold ED;have e:EZ len [] true (0,0,0) p=[]++[[]++[p]]:=by simp[EZ]
  rw[e];have I:WI len [] []:=⟨iE,λ_ _=>rfl,λx h=>by simp at h,λw d=>by simp at d,λw d=>by simp at d,iE,iE⟩;have E:=I.DP p iE;have:=R5 r [] [] p p [p] (by simpa using E) ⟨rfl,rfl⟩ z;simpa using this
def Iy{len:Int}(E:BZ (AE len))(l:gF Pu):WI len (C3 len l) l:=by
 have h:=X1 (len:=len) (Ev (AE len) l) (E.eW l);have d:∀x∈Ev (AE len) l,x∈l:=λx L=>Bt.DG E (E.cH l).bH L;have z:(Ev (AE len) l).length=l.length:=by
  have I:∀(l s:gF Pu),(l.foldl (λs x=>FN (AE len) x s) s).length=s.length+l.length:=by
   intro l
   induction l with
   | nil=>intro s;rfl
   | cons x r ih=>
    intro s;have O:∀m:gF Pu,(FN (AE len) x m).length=m.length+1:=by
     intro m
     induction m with
     | nil=>rfl
     | cons y m ihm=>unfold FN;split<;>simp[ihm]
    rw[QC,ih,O,CA];omega
  have:=I l [];simpa[Ev] using this
 exact⟨h.LX,λk t=>by rw[<-Yj len E l k t];exact h.Ac k t,λx L=>d x (h.DG x L),h.ne,h.Gp,h.LY,by rw[<-z];exact h.Be⟩
def WI.Fj{len:Int}{ws:gF (gF Pu)}{s:gF Pu}(h:WI len ws s){w:gF Pu}(L:w∈ws):CE Cx w=true:=by
 have z:=A4X (We L) h.LX;have O:=h.Gp w L;have E:∀m:gF Pu,(∀x∈m,x∈w)->m.Pairwise (λa b=>AE len a b=true)->CE Cx m=true:=by
  intro m
  induction m with
  | nil=>intro _ _;rfl
  | cons a m ih=>
   intro I z;cases m with
   | nil=>rfl
   | cons b m=>
    have d:=Dl.1 z;simp only[CE,Gb,Ea];refine⟨?_,ih (λx X=>I x (BC _ X)) d.2⟩;have:=d.1 b (BI ..);rw[J3]at this;have e:=O a (I a (BI ..)) b (I b iE);rw[A3d];omega
 exact E w (λ_ h=>h) z
def I7{ws:gF (gF Pu)}(h:∀w∈ws,w≠[]):ws.length<=ws.flatten.length:=by
 induction ws with
 | nil=>simp
 | cons w r ih=>
  have h1:=ih λx d=>h x (BC _ d);have h2:=K4.2 (h w (BI ..));rw[K5,B3,CA];omega
def Kl(ws:gF (gF Pu)):Du ws=17*ws.flatten.length+4*ws.length:=by
 unfold Du
 induction ws with
 | nil=>rfl
 | cons w r ih=>
  rw[H4,Qx,ih,K5,B3,CA];omega
section
variable{P P':PD}{A:Ar}{sg cl:gF (Int×gF Pu)}{ol:Option (gF Pu)}{N R:Nat}{wa od:Int}
def Lay.b5(h:Lay P A sg cl ol):∀p∈Ax cl++ol.getD [],Bo p:=by
 intro p d;rcases AX.1 d with d|d
 ·have⟨x,hx,d⟩:=List.mem_flatMap.1 d;exact(h.D7 x hx).2 p d
 ·cases ol with
  | none=>simp at d
  | some l=>exact h.AB.2.2.2.1 p (by simpa using d)
def Lay.dh(h:Lay P A sg cl ol):∀p∈Ax sg,Bo p:=by
 intro p d;have⟨x,hx,d⟩:=List.mem_flatMap.1 d;exact(h.CD x hx).1.1 p d
def C4(o:Int)(a b:gF Pu):Prop:=(∀k t,o<=t->Bz a k t=Bz b k t)/\(∀p∈a,∃q∈b,q.1=p.1/\q.2.1=p.2.1)/\a.length<=b.length
def Lay.aR(h:Lay P A sg cl ol)(hw:BZ (AE wa)){K n:Nat}(hn:(Ax cl++ol.getD []).length<=n)(hn2:n<=1099511627776)(hK:P.Az.length<=K)(hsl:sg.length<=K)(hjl:A.j.Ao.length<=K)(hll:A.AS.length<=K)(hc:Cm P (N+4*K+4*n+8) (R+29*n+12+8*K))(I:isNum (A.j.Ac+1)=true)(hln:A.Ac+n<=4611686018427387904):
 (A.aR P wa).1=0/\Cm (A.aR P wa).2.2 N R/\
  ∃d,(A.aR P wa).2.1=⟨⟨A.j.Ac+1,(sg++C6 A.Ac d).map (·.1)⟩,⟨[],A.j.Ac,0,none⟩,A.Ac+d.length,[]⟩/\Lay (A.aR P wa).2.2 (A.aR P wa).2.1 (sg++C6 A.Ac d) [] none/\
   (∀m,(A.aR P wa).2.2.bs m≠none->m∈AJ::(sg++C6 A.Ac d).map λx=>AH x.1)/\d.length<=d.flatten.length/\d.flatten.length<=(Ax cl++ol.getD []).length/\(∀k t,Bz (Bk (sg++C6 A.Ac d) [] none) k t=Bz (Bk sg cl ol) k t)/\(∀p∈d.flatten,Bo p):=by
 have E:=h.pd (by rw[B3]at hn;omega);have z:=Iy hw (Ax cl++ol.getD []);generalize O:C3 wa (Ax cl++ol.getD [])=d at z;have X:=I7 z.ne;have L:=z.Be;have hcost:=Kl d;have e:A.aR P wa=A.aG P (sg.map (·.1)) d:=by
  unfold Ar.aR;rw[E,Af iE,O,h.sd]
 rw[e];have⟨r1,r2,r3,r4,r5⟩:=h.aG (N:=N) (R:=R) (K:=K) sg d (hc.ah iC iC) hK (λ_ h=>h) (Ju.1 (by rw[h.sd];exact h.E4.Fj))
  (λl Y=>⟨λp E=>h.b5 p (z.DG p (KV.2 ⟨l,Y,E⟩)),z.Fj Y⟩) I iC
 refine⟨r1,r3,d,r2,r4,r5,X,L,λk t=>?_,λp E=>h.b5 p (z.DG p E)⟩;unfold Bk;have e1:Ax (sg++C6 A.Ac d)=Ax sg++d.flatten:=by
  have:=@Lt d A.Ac;unfold Ax at this ⊢;rw[Wo,this]
 rw[e1];simp only[Ax,List.flatMap_nil,Option.getD_none,Gk];rw[Hc,Hc,z.Ac];rfl
def Hd(sd:gF (Int×gF Pu))(od:Int):gF (gF Pu)->gF (Int×gF Pu)
 | []=>[]
 | l::r=>if l.any (λp=>decide (od<=p.2.1))=false then Hd sd od r else
  match sd.find? λs=>decide (s.2=l) with
  | none=>Hd sd od r
  | some s=>s::Hd sd od r
def LD(sd:gF (Int×gF Pu))(od:Int):∀ws,(BY sd od ws).1=(Hd sd od ws).map (·.1)
 | []=>rfl
 | l::r=>by
  have d:=LD sd od r;unfold BY Hd;split
  ·exact d
  ·cases sd.find? λs=>decide (s.2=l) with
   | none=>exact d
   | some s=>simp[d]
def LF{sd:gF (Int×gF Pu)}{od:Int}:∀ {ws:gF (gF Pu)} {x:Int×gF Pu},x∈Hd sd od ws->x∈sd/\x.2∈ws
 | l::r,x,h=>by
  unfold Hd at h;split at h
  ·have:=LF h;exact⟨this.1,BC _ this.2⟩
  ·cases hx:sd.find? λs=>decide (s.2=l) with
   | none=>rw[hx]at h;have:=LF h;exact⟨this.1,BC _ this.2⟩
   | some s=>
    rw[hx]at h;rcases BS.1 h with rfl|h
    ·have d:=List.find?_some hx;simp at d;exact⟨A4K hx,by rw[d];exact BI ..⟩
    ·have:=LF h;exact⟨this.1,BC _ this.2⟩
def Ky{sd:gF (Int×gF Pu)}{od:Int}:∀ {ws:gF (gF Pu)} {l:gF Pu},l∈(BY sd od ws).2->l∈ws
 | w::r,l,h=>by
  unfold BY at h;split at h
  ·exact BC _ (Ky h)
  ·cases hx:sd.find? λs=>decide (s.2=w) with
   | none=>
    rw[hx]at h;rcases BS.1 h with rfl|h
    ·exact BI ..
    ·exact BC _ (Ky h)
   | some s=>rw[hx]at h;exact BC _ (Ky h)
def JN{α:Type}(p:gF α->Bool)(ws:gF (gF α)):(ws.filter p).flatten.Sublist ws.flatten:=by
 induction ws with
 | nil=>exact A4W _
 | cons w r ih=>
  rw[Fz];split
  ·rw[K5,K5];exact List.Sublist.append (A4W _) ih
  ·rw[K5];exact ih.trans (List.sublist_append_right _ _)
def Ei(od:Int)(ws:gF (gF Pu)):gF (gF Pu):=ws.filter λl=>l.any λp=>decide (od<=p.2.1)
def LC(sd:gF (Int×gF Pu))(od:Int):∀ws,((Hd sd od ws).map (·.2)++(BY sd od ws).2).Perm (Ei od ws)
 | []=>List.Perm.refl _
 | l::r=>by
  have h:=LC sd od r;unfold BY Hd Ei;by_cases d:l.any (λp=>decide (od<=p.2.1))=false
  ·rw[Ai d,Ai d,KZ (by simp[d])];exact h
  ·rw[Af d,Af d,Jm (by simpa using d)];cases hx:sd.find? λs=>decide (s.2=l) with
   | none=>
    dsimp only
    exact List.perm_middle.trans (h.cons _)
   | some s=>
    have z:=List.find?_some hx;simp at z;dsimp only
    rw[H4,z];exact h.cons _
def Uc{len:Int}{ws:gF (gF Pu)}{s:gF Pu}(h:WI len ws s)(od k t:Int)(ht:od<=t):Bz (Ei od ws).flatten k t=Bz s k t:=by
 rw[<-h.Ac];clear h;unfold Ei
 induction ws with
 | nil=>rfl
 | cons w r ih=>
  by_cases d:w.any (λp=>decide (od<=p.2.1))=true
  ·(have e:(w::r).filter (λl=>l.any λp=>decide (od<=p.2.1))=w::r.filter (λl=>l.any λp=>decide (od<=p.2.1)):=by simp only[Fz,d,Cs]);rw[e,K5,K5,Hc,Hc,ih]
  ·(have e:(w::r).filter (λl=>l.any λp=>decide (od<=p.2.1))=r.filter (λl=>l.any λp=>decide (od<=p.2.1)):=by simp only[Fz,d];rfl);rw[e,K5,Hc,ih];have:Bz w k t=none:=Pn.2 λp z hx=>d (Mn.2 ⟨p,z,by simp;omega⟩);rw[this,VY]
def Ig(l:gF Pu):Prop:=l.Pairwise λa b=>¬(a.1=b.1/\a.2.1=b.2.1)
def Ig.Ac{l:gF Pu}(h:Ig l){k t v:Int}:Bz l k t=some v↔(k,t,v)∈l:=by
 refine⟨A09,λd=>?_⟩
 induction l with
 | nil=>cases d
 | cons p r ih=>
  have z:=Dl.1 h;have e:Bz (p::r) k t=(Bz r k t).or (Bz [p] k t):=Hc [p] r k t;rw[e];rcases BS.1 d with rfl|d
  ·have:Bz r k t=none:=Pn.2 λq I E=>z.1 q I ⟨E.1.symm,E.2.symm⟩;rw[this];simp[Bz]
  ·rw[ih z.2 d];simp
def Ig.gv{l l':gF Pu}(h:Ig l)(z:l.Perm l'):Ig l':=(z.pairwise_iff (R:=λa b:Pu=>¬(a.1=b.1/\a.2.1=b.2.1)) λh d=>h ⟨d.1.symm,d.2.symm⟩).1 h
def Ig.ey{l l':gF Pu}(h:Ig l)(d:l.Perm l')(k t:Int):Bz l k t=Bz l' k t:=by
 have z:=h.gv d;cases hx:Bz l k t with
 | some v=>exact(z.Ac.2 (d.mem_iff.1 (h.Ac.1 hx))).symm
 | none=>
  cases hy:Bz l' k t with
  | none=>rfl
  | some v=>rw[h.Ac.2 (d.mem_iff.2 (z.Ac.1 hy))]at hx;cases hx
def WI.dw{len:Int}{ws:gF (gF Pu)}{s:gF Pu}(h:WI len ws s)(od:Int):Ig (Ei od ws).flatten:=by
 have z:(Ei od ws).flatten.Pairwise (λa b=>AE len a b=true):=h.LX.sublist (JN _ _);exact z.imp λd=>A1i d
def Nz{od:Int}{ws:gF (gF Pu)}{w:gF Pu}(h:w∈Ei od ws):w∈ws:=(H3.1 h).1
def Lay.aM(h:Lay P A sg cl ol)(hw:BZ (AE wa)){K n:Nat}(hn:(Bk sg cl ol).length<=n)(hn2:n<=1099511627776)(hK:P.Az.length<=K)(hsl:sg.length<=K)(hjl:A.j.Ao.length<=K)(hll:A.AS.length<=K)(hc:Cm P (N+4*K+4*n+8) (R+29*n+12+8*K))(aR:isNum (A.j.Ac+1)=true)(hln:A.Ac+n<=4611686018427387904):
 (A.aM P wa od).1=0/\Cm (A.aM P wa od).2.2 N R/\
  ∃aA lh,(A.aM P wa od).2.1=⟨⟨A.j.Ac+1,aA.map (·.1)⟩,⟨[],A.j.Ac,0,none⟩,lh,[]⟩/\lh<=A.Ac+n/\Lay (A.aM P wa od).2.2 (A.aM P wa od).2.1 aA [] none/\
   (∀m,(A.aM P wa od).2.2.bs m≠none->m∈AJ::aA.map λx=>AH x.1)/\(aA.map (·.2)).Perm (Ei od (C3 wa (Bk sg cl ol)))/\∀k t,od<=t->Bz (Bk aA [] none) k t=Bz (Bk sg cl ol) k t:=by
 have aS:(Bk sg cl ol).length=(Ax sg).length+(Ax cl++ol.getD []).length:=by unfold Bk;rw[B3]
 have L:=h.pd (by rw[B3]at aS;omega);have E:=Iy hw (Bk sg cl ol);obtain⟨ws,aI⟩:=iG (C3 wa (Bk sg cl ol));rw[aI]at E;obtain⟨k0,aG⟩:=iG (Hd sg od ws);obtain⟨I,aJ⟩:=iG ((BY sg od ws).2);have d:=LC sg od ws;rw[aG,aJ]at d;obtain⟨z,aK⟩:=iG (k0.mergeSort (λx y=>decide (x.1<=y.1)));have aE:z.Perm k0:=by rw[<-aK];exact A4I _ _
 have aU:z.map (·.1)=((BY sg od ws).1).mergeSort λx y=>decide (x<=y):=by
  rw[LD,aG,<-aK,A4M (s:=λx y:Int=>decide (x<=y))];intro a _ b _;rfl
 have O:∀x∈z,x∈sg/\x.2∈ws:=λx hx=>LF (by rw[aG];exact aE.mem_iff.1 hx);have aQ:(Ei od ws).Nodup:=by
  have h1:(Ei od ws).Pairwise λw w'=>∀p∈w,∀q∈w',BH p.2.1 wa<BH q.2.1 wa:=E.LY.sublist HF;have X:∀w∈Ei od ws,w≠[]:=λw hw=>E.ne w (Nz hw);clear d;generalize Ei od ws=v at h1 X
  induction v with
  | nil=>simp
  | cons w r ih=>
   have aP:=Dl.1 h1;refine K3.2 ⟨λhm=>?_,ih aP.2 λx hx=>X x (BC _ hx)⟩;have⟨p,L⟩:=A4V w (X w (BI ..));have:=aP.1 w hm p L p L;omega
 have aO:(z.map (·.2)).Nodup:=by
  have h1:(k0.map (·.2)++I).Nodup:=d.nodup_iff.2 aQ;have X:=(Hl.1 h1).1;exact(aE.map (·.2)).nodup_iff.2 X
 have aM:(sg.map (·.1)).Pairwise (· < ·):=Ju.1 (by rw[h.sd];exact h.E4.Fj);have aF:∀x∈sg,∀y∈sg,x.1=y.1->x=y:=λx hx y hy e=>by
  obtain⟨i,hi,rfl⟩:=DD hx;obtain⟨j,hj,rfl⟩:=DD hy;have L:=K1.1 aM;rcases Qt i j with Y|Y|Y
  ·have:=L i j (by simpa using hi) (by simpa using hj) Y;simp at this;omega
  ·subst Y;rfl
  ·have:=L j i (by simpa using hj) (by simpa using hi) Y;simp at this;omega
 have aB:(z.map (·.1)).Pairwise (· < ·):=by
  have h1:z.Pairwise λx y=>x.1<=y.1:=by
   have:=Wh (le:=λx y:Int×gF Pu=>decide (x.1<=y.1)) (λa b c h1 X=>by simp at *;omega) (λa b=>by simp;omega) k0;rw[aK]at this;(exact this.imp λh=>by simpa using h)
  have X:z.Pairwise λx y=>x.2≠y.2:=KR.1 aO;rw[KR];have h3:=h1.and X;refine A4Y (λ{a b} ha hb aN=>?_) h3;rcases A42 aN.1 with h|h
  ·exact h
  ·exact absurd (Ex Prod.snd (aF a (O a ha).1 b (O b hb).1 h)) aN.2
 have aH:∀l∈I,l∈ws:=λl hl=>Ky (by rw[aJ];exact hl);have aD:(Ax z++I.flatten).Perm (Ei od ws).flatten:=by
  have h1:(z.map (·.2)++I).Perm (Ei od ws):=((aE.map (·.2)).append_right _).trans d;have X:=h1.flatten;rw[Wn]at X;have e:(z.map (·.2)).flatten=Ax z:=by unfold Ax;rw[NW]
  rwa [e]at X
 have hfl:I.length<=I.flatten.length:=I7 λw hw=>E.ne w (aH w hw);have hcount:I.flatten.length<=n:=by
  have h1:=aD.length_eq;have X:(Ei od ws).flatten.length<=ws.flatten.length:=(JN _ ws).length_le;have h3:=E.Be;rw[B3]at h1;omega
 have hkl:z.length<=K:=by
  have:(z.map (·.1)).length<=(sg.map (·.1)).length:=IW (aB.imp λh=>WA h) λx hx=>by
   obtain⟨y,hy,rfl⟩:=Cn.1 hx;exact Ej (O y hy).1
  simp only[Fx]at this;omega
 have hcost:=Kl I;have aT:∀p∈Bk sg cl ol,Bo p:=λp L=>by
  rcases AX.1 L with L|L
  ·exact h.dh p L
  ·exact h.b5 p L
 have e:A.aM P wa od=A.aG P (z.map (·.1)) I:=by
  unfold Ar.aM;rw[h.cu];dsimp only
  have e2:sg.flatMap (·.2)++(P.pd A.j.Ao).1=Bk sg cl ol:=by rw[L];rfl
  rw[e2,aI,<-aU,aJ,L,Af iE]
 rw[e,aI];have⟨r1,r2,r3,r4,r5⟩:=h.aG (N:=N) (R:=R) (K:=K) z I (hc.ah iC iC) hK (λx hx=>(O x hx).1) aB
  (λl hl=>⟨λp L=>aT p (E.DG p (KV.2 ⟨l,aH l hl,L⟩)),E.Fj (aH l hl)⟩) aR iC
 have aL:(C6 A.Ac I).map (·.2)=I:=by
  have aV:∀(l:gF (gF Pu)) (a:Int),(C6 a l).map (·.2)=l:=by
   intro l
   induction l with
   | nil=>intro a;rfl
   | cons x r ih=>intro a;simp[C6,ih]
  exact aV _ _
 refine⟨r1,r3,z++C6 A.Ac I,A.Ac+I.length,r2,iC,r4,r5,?_,λk t ht=>?_⟩
 ·rw[EM,aL];exact((aE.map (·.2)).append_right _).trans d
 ·have e1:Bk (z++C6 A.Ac I) [] none=Ax z++I.flatten:=by
   have:=@Lt I A.Ac;unfold Bk Ax at *;simp[this]
  rw[e1,(E.dw od |>.ey aD.symm k t).symm,Uc E od k t ht]
end
def A1N{l:gF Pt}(h:DV l)(t v:Int)(x:Pt):x∈Ce l t v↔x=(t,v)\/(x∈l/\x.1≠t):=by
 induction l with
 | nil=>simp[Ce]
 | cons e r ih=>
  obtain⟨a,b⟩:=e;have z:=Dl.1 h;have E:=ih z.2;simp only[Ce];by_cases I:a<t
  ·rw[Ai I];simp only[BS,E];constructor
   ·rintro (rfl|h|⟨h,d⟩)
    ·exact .inr ⟨.inl rfl,by simp only;omega⟩
    ·exact .inl h
    ·exact .inr ⟨.inr h,d⟩
   ·rintro (h|⟨h|h,d⟩)
    ·exact .inr (.inl h)
    ·exact .inl h
    ·exact .inr (.inr ⟨h,d⟩)
  ·rw[Af I];by_cases d:a=t
   ·subst d;rw[Ai rfl];simp only[BS];constructor
    ·rintro (h|h)
     ·exact .inl h
     ·exact .inr ⟨.inr h,λe=>by have:=z.1 x h;simp only at this;omega⟩
    ·rintro (h|⟨h|h,d⟩)
     ·exact .inl h
     ·subst h;exact absurd rfl d
     ·exact .inr h
   ·rw[Af d];simp only[BS];constructor
    ·rintro (h|h|h)
     ·exact .inl h
     ·subst h;exact .inr ⟨.inl rfl,d⟩
     ·exact .inr ⟨.inr h,λe=>by have:=z.1 x h;simp only at this;omega⟩
    ·rintro (h|⟨h|h,_⟩)
     ·exact .inl h
     ·exact .inr (.inl h)
     ·exact .inr (.inr h)
def Zj(l:gF Pu)(p:Pu)(k a b ld A8:Int):refQ (l++[p]) k a b ld A8=FG k a b ld A8 (refQ l k a b ld A8) p:=by unfold refQ;rw[NV];rfl
def OL(l:gF Pu)(k a b ld A8:Int):DV (refQ l k a b ld A8):=by
 have:=(OM l k a b ld A8 l.length (An _)).1
 rwa [C5]at this
def MN(k a b ld A8:Int)(x:Pt):∀n (l:gF Pu),l.length=n->(x∈refQ l k a b ld A8↔(a<=x.1/\x.1<=b/\EJ x.1 ld A8=true)/\Bz l k x.1=some x.2):=by
 intro n
 induction n with
 | zero=>
  intro l O;obtain rfl:l=[]:=HE.1 O;simp[refQ,Bz]
 | succ n ih=>
  intro l O;have I:l≠[]:=λh=>by subst h;simp at O
  obtain⟨p,hp⟩:∃p,l=l.dropLast++[p]:=⟨l.getLast I,(NZ I).symm⟩;have Y:l.dropLast.length=n:=by rw[Wm,O];rfl
  have d:=ih l.dropLast Y;rw[hp,Zj,J2];generalize l.dropLast=m at d;unfold FG;by_cases E:GG k a b ld A8 p=true
  ·rw[Ai E,A1N (OL _ _ _ _ _ _),d];unfold GG at E;simp only[Gb,Ea]at E;obtain⟨⟨⟨q1,q2⟩,q3⟩,q4⟩:=E;by_cases z:p.2.1=x.1
   ·rw[Ai ⟨q1,z⟩];constructor
    ·rintro (h|⟨_,h⟩)
     ·subst h;exact⟨⟨q2,q3,q4⟩,rfl⟩
     ·exact absurd z.symm h
    ·rintro⟨_,h⟩;refine .inl ?_;(have:p.2.2=x.2:=by simpa using h);rw[z,this]
   ·rw[Af λh=>z h.2];constructor
    ·rintro (h|⟨h,_⟩)
     ·subst h;exact absurd rfl z
     ·exact h
    ·intro h;exact .inr ⟨h,λe=>z e.symm⟩
  ·rw[Af E,d];by_cases L:p.1=k/\p.2.1=x.1
   ·rw[Ai L]
    have X:¬(a<=x.1/\x.1<=b/\EJ x.1 ld A8=true):=λh=>E (by
     unfold GG;rw[L.1,L.2];simp only[Q5,O4,Gb,Ea]
     exact⟨⟨h.1,h.2.1⟩,h.2.2⟩)
    simp only[X,false_and]
   ·rw[Af L]
def RK:∀ {l l':gF Pt},DV l->DV l'->(∀x,x∈l↔x∈l')->l=l'
 | [],[],_,_,_=>rfl
 | [],y::r,_,_,h=>by have:=(h y).2 (BI ..);cases this
 | x::r,[],_,_,h=>by have:=(h x).1 (BI ..);cases this
 | x::r,y::s,h1,h2,h=>by
  have E:=Dl.1 h1;have d:=Dl.1 h2;have L:x=y:=by
   rcases BS.1 ((h x).1 (BI ..)) with e|e
   ·exact e
   ·rcases BS.1 ((h y).2 (BI ..)) with O|O
    ·exact O.symm
    ·have a:=d.1 x e;have b:=E.1 y O;omega
  subst L
  congr 1
  refine RK E.2 d.2 λz=>⟨λI=>?_,λI=>?_⟩
  ·rcases BS.1 ((h z).1 (BC _ I)) with e|e
   ·subst e;have:=E.1 z I;omega
   ·exact e
  ·rcases BS.1 ((h z).2 (BC _ I)) with e|e
   ·subst e;have:=d.1 z I;omega
   ·exact e
def Zk{l l':gF Pu}{k a b ld A8:Int}(h:∀t,a<=t->t<=b->EJ t ld A8=true->Bz l k t=Bz l' k t):refQ l k a b ld A8=refQ l' k a b ld A8:=by
 refine RK (OL _ _ _ _ _ _) (OL _ _ _ _ _ _) λx=>?_;rw[MN k a b ld A8 x _ l rfl,MN k a b ld A8 x _ l' rfl];constructor
 ·rintro⟨d,z⟩;exact⟨d,by rw[<-h x.1 d.1 d.2.1 d.2.2];exact z⟩
 ·rintro⟨d,z⟩;exact⟨d,by rw[h x.1 d.1 d.2.1 d.2.2];exact z⟩
def Tryz.fS:Go.Shelf.Ren:=⟨fun|26=>138|33=>179|34=>180|38=>234|n=>n,fun|0=>0|3=>3|4=>4|9=>9|24=>121|40=>232|n=>n,fun|n=>n⟩
def Tryz.e2:Go.Proofs.Lays2.n26 Tryz.prog Tryz.fS:={
 mixed:=by kernel_rfl
 f26:=func138.trans (Ex some (by kernel_rfl))
 f33:=func179.trans (Ex some (by kernel_rfl))
 f34:=func180.trans (Ex some (by kernel_rfl))
 f38:=func234.trans (Ex some (by kernel_rfl))
 t0:=underlying0
 a0:=isAgg0
 z0:=sizeOf0
 v0:=zeroValue0
 t3:=Ia
 a3:=isAgg3
 z3:=sizeOf3
 v3:=zeroValue3
 t4:=underlying4
 a4:=isAgg4
 z4:=sizeOf4
 v4:=zeroValue4
 t9:=GX
 a9:=isAgg9
 z9:=sizeOf9
 v9:=zeroValue9
 t24:=HU
 a24:=isAgg121
 z24:=sizeOf121
 v24:=zeroValue121
 t40:=underlying232
 a40:=isAgg232
 z40:=sizeOf232
 v40:=zeroValue232}
def Tryz.fZ:Go.Shelf.Ren:=⟨fun|41=>153|n=>n,fun|22=>97|23=>113|4=>4|n=>n,fun|n=>n⟩
def Tryz.eZ:Go.Proofs.SlLaysE0.n41 Tryz.prog Tryz.fZ:={
 mixed:=by kernel_rfl
 f41:=⟨Tryz.f153.name,iF,func153.trans (Ex some (by kernel_rfl))⟩
 t4:=underlying4
 a4:=isAgg4
 z4:=sizeOf4
 v4:=zeroValue4
 t22:=GW
 a22:=isAgg97
 z22:=sizeOf97
 v22:=zeroValue97}
def Vn(a b:gF UInt8):Op.bytesLess a b=decide (a<b):=by
 induction a generalizing b with
 | nil=>cases b with
  | nil=>simp[Op.bytesLess]
  | cons y r=>simp[Op.bytesLess]
 | cons x a ih=>
  cases b with
  | nil=>simp[Op.bytesLess]
  | cons y r=>
   unfold Op.bytesLess;rw[ih r];by_cases h:x<y
   ·simp[h,List.cons_lt_cons_iff]
   ·by_cases d:x=y
    ·subst d;simp
    ·(have:¬(x::a<y::r):=by rw[K6];simp[h,d]);simp[h,d,this]
end
section
open Go.RowKit
attribute [local go_sem ↓] CL
section
variable{w:gC}{ab b xb jb B:Nat}{sv ov lv jo:gD}{A:Ar}{P:PD}{Ft:Nat->Prop}{a c m:Nat}
def Yu(P:PD)(n:Int)(r:gF Int):P.sd (n::r)=match P.CD n with
 | none=>none
 | some l=>(P.sd r).map λx=>(n,l):: x:=rfl
def RS(w:gC)(E:gF Int)(a0:A7 w ab 0 (A5 b))(a1:A7 w ab 1 (A5 xb))(x4:A7 w xb 4 sv)(a6:Dh w sv E)(aX:Bw w b P Ft)(aE:∀k,Ft k->k<w.heap.size)(hF:Fit P a c m)(hl:CV a c m)(hn:∀n∈E,CK n)(hsl:E.length<=1073741824)(hL:Lets B w):
 Ag 98 #[A5 ab] w λe w'=>
  (P.sd E=none/\e=.returned (.tuple #[.slice none 0 0,A0 7])/\A4 Aa w w')\/
  ∃l v,P.sd E=some l/\e=.returned (.tuple #[v,A0 0])/\GY w' w.heap.size b v l/\A4 Aa w w':=by
 obtain⟨i0,hi,a4,bA,a7⟩:=Yz;have aP:=A1 a6;obtain⟨sa,scap,rfl,sc1,a5⟩:=aP.o.BW;unfold maxLen at a5
 have bO:Hid (∀w1,A4 Aa w w1->∀n∈E,Ag 135 #[A5 b,A0 n] w1 λe w'=>
  (P.CD n=none/\e=.returned (.tuple #[.pointer none,A0 7])/\A4 Aa w1 w')\/
  ∃l d v,P.CD n=some l/\e=.returned (.tuple #[A5 d,A0 0])/\Cc w' d 182 b (AH n) (AI (AH n)) n v/\B1 w' v l/\(∀g,v.ownBlock=some g->w1.heap.size<=g)/\w1.heap.size<=d/\A4 Aa w1 w'):=
  λw1 hc n hm=>Zp w1 (AU.av aX aE hc) (λk hk=>Bp (aE k hk) hc.Ak) hF hl (hn n hm) (hL.aL hc)
 have bJ:=A1 (Yu P);obtain⟨X,hX⟩:=iG (P.sd E);have bP:=A1 hX;rw[hX]
 go_enter func98,ntmps98
 go_wp2;go_loopw [4,17] (λv iv wr=>∃(l:gF (Int×gF Pu)),iv=A0 l.length/\l.length<=E.length/\Hid (GY wr w.heap.size b v l/\A4 Aa w wr/\X=(P.sd (E.drop l.length)).map λr=>l++r)) (λ_ iv _=>E.length-(intOf iv).toNat)
 ·exact⟨[],rfl,Cb _,⟨[],rfl,Cq _ _ _ _,λg I=>by simp[Value.ownBlock]at I,λk L=>by simp at L⟩,A4.C _ _,by rw[Jk,Dm,bP.o];cases X<;>simp⟩
 ·obtain⟨l,rfl,hk,hI⟩:=hrel;have⟨i1,i2,i3⟩:=hI.o;obtain⟨z,j1,j2,j3,j4⟩:=i1;obtain⟨ap,cp,rfl,hcap1,aK,-⟩:=B8 j2;unfold maxLen at aK;by_cases aD:l.length<E.length
  ·obtain⟨g,o,rfl,d1⟩:=Dh.at aP.o l.length aD;have aA:=BT aD;have aJ:=FY aD;generalize aV:(E[l.length]'aD)=n at d1 aA aJ;have e1:=i2.ad d1;have e0:=i2.ad a0;have aI:=A1 (bO.o wr i2 n aA);rw[aJ,bJ.o]at i3;generalize hY:P.CD n=Y at aI i3;have aL:=A1 i2;have bE:=A1 i3;have bC:=A1 j1;have aU:=A1 j2;have bD:=A1 j3;have bL:=A1 j4;have a2:(l.length:Int)<(E.length:Int):=iC;have hk0:(0:Int)<=(l.length:Int):=GA _;clear hI i2 i3 j1 j2 j3 j4 d1 aA aJ aV hY;cases Y with
   | none=>
    (have aG:X=none:=by rw[bE.o];rfl);subst aG;have aF:Hid (Ag 135 #[A5 b,A0 n] wr λe w'=>e=.returned (.tuple #[.pointer none,A0 7])/\A4 Aa wr w'):=by
     refine aI.o.mono ?_;rintro e w' (⟨_,h2,h3⟩|⟨l,d,v,L,_⟩)
     ·exact⟨h2,h3⟩
     ·cases L
    go_wp2_with (go_at_call 135;refine aF.k ?_;rintro O aB;have aZ:=A1 aB);go_ret2;exact⟨rfl,aL.o.tr aZ.o⟩
   | some pl=>
    have aF:Hid (Ag 135 #[A5 b,A0 n] wr λe w'=>∃d v,e=.returned (.tuple #[A5 d,A0 0])/\Cc w' d 182 b (AH n) (AI (AH n)) n v/\B1 w' v pl/\(∀g,v.ownBlock=some g->wr.heap.size<=g)/\wr.heap.size<=d/\A4 Aa wr w'):=by
     refine aI.o.mono ?_;rintro e w' (⟨L,_⟩|⟨l,d,v,L,h2⟩)
     ·cases L
     ·cases L;exact⟨d,v,h2⟩
    have bK:Hid (X=(P.sd (E.drop (l.length+1))).map λr=>(l++[(n,pl)])++r):=by
     unfold Hid;rw[bE.o];simp only[Option.map_map]
     congr 1
     funext r
     simp
    go_wp2_with (fail);refine aF.o.mono ?_;rintro e O⟨d,v,rfl,q1,q2,q3,q4,aB⟩;have bM:=A1 q1;have bN:=A1 q2;have bF:=A1 q3;have bG:=A1 q4;have a3:=A1 aB;have aR:Hid ((O.alloc (.cells #[A5 d] 179)).ownsRow 0 179 1 (.slice ap l.length cp) l.length (H7 z)):=Au aU.o λg I=>(aB.ai _).Al g (Aw aU.o I) (λh=>h)
    have aW:=A1 (Src.bb (size:=1) (B:=O.heap.size) underlying154 O #[A5 d] 179 iE 1 1 rfl (Yq [d]));go_wp2_with (at_builtin;refine CX rfl (.tmp 33) (.tmp 35) 154 154 rfl 179 i0 _ 1 8 underlying154 hi a4 bA a7 rfl iF (.slice ap l.length cp) l.length (H7 z) (by rfl) aR.o _ 1 _ (by rfl) aW.o iC ?_;intro a8 cap8 w8 hA;have bH:=A1 hA);go_roundw
    ·have hA:=bH.o;have k7:A4 Aa O (O.alloc (.cells #[A5 d] 179)):=(A4.C _ O).ai _;have aM:=hA.Am (S:=λk=>(Value.slice ap l.length cp).ownBlock=some k) λ_ h=>h;have aO:A4 Aa w O:=aL.o.tr a3.o;(have a9:A4 Aa w w8:=(aO.tr k7).AF aM λy hy aE=>by have:=bD.o y hy;omega);have aN:A4 (λk=>(Value.slice ap l.length cp).ownBlock=some k) O w8:=(k7.aS).tr aM;have aS:∀(k:Nat) (c:Array gD) (e:Nat),O.heap[k]?=some (Obj.cells c e (0,0))->e≠179->¬(Value.slice ap l.length cp).ownBlock=some k:=λk c e hk he hx=>by
      have⟨c',hc'⟩:=B9 (Au aU.o λg I=>a3.o.Al g (Aw aU.o I) (λh=>h)) hx;exact BR hc' hk (λh=>he h.symm) rfl
     have aQ:∀aH x,JV O w.heap.size b aH x->JV w8 w.heap.size b aH x:=λaH x hx=>by
      obtain⟨pv,L,h2,h3,h4⟩:=hx;refine⟨pv,L.aj aN (aS _ _ _ L iF),Au h2 λg I=>?_,h3,h4⟩;have⟨c',hc'⟩:=B9 h2 I;exact aN.Al g (Aw h2 I) (aS _ _ _ hc' iF)
     refine⟨l++[(n,pl)],iE,by simp;omega,⟨z++[d],by simp[bC.o],?_,?_,?_⟩,a9,by rw[show (l++[(n,pl)]).length=l.length+1 by simp];exact bK.o⟩
     ·(have e:(l++[(n,pl)]).length=l.length+1:=iE);(have e2:H7 (z++[d])=H7 z++H7 [d]:=by simp[H7]);rw[e,e2];exact hA.AB
     ·intro g I;rcases hA.BX with h|h
      ·rw[h]at I;exact bD.o g I
      ·rw[h]at I;cases I;have:=aO.Ak;have:=k7.Ak;omega
     ·intro j L h2;have aY:=bC.o;by_cases hj:j<l.length
      ·rw[Fy (show j<z.length by omega),Fy hj];exact aQ _ _ ((bL.o j iC hj).ak a3.o)
      ·(have bB:j=l.length:=by simp at h2;omega);subst bB;(have e1:(z++[d])[l.length]'L=d:=by simp[<-aY]);(have e2:(l++[(n,pl)])[l.length]'h2=(n,pl):=iE);rw[e1,e2];exact aQ _ _ ⟨v,bM.o,bN.o,AO aL.o.Ak bG.o,λg I=>AO aL.o.Ak (bF.o g I)⟩
    ·simp[intOf];omega
  ·have aT:l.length=E.length:=iC;have bI:Hid (GY wr w.heap.size b (.slice ap l.length cp) l):=⟨z,j1,j2,j3,j4⟩;have aL:=A1 i2;(have aG:X=some l:=by rw[i3,aT,H5];simp[PD.sd]);subst aG;(have a2:¬((l.length:Int)<(E.length:Int)):=iC);clear i2 i3 hI j1 j2 j3 j4 aT;go_wp2;go_ret2;exact⟨_,rfl,bI.o,aL.o⟩
def Yv(w:gC)(h:Cv w ab b xb jb sv ov lv jo A P Ft)(L:Fit P a c m)(z:CV a c m)(I:∀n∈A.ix.sd,CK n)(d:A.ix.sd.length<=1073741824)(E:Lets B w):
 Ag 98 #[A5 ab] w λe w'=>
  (P.sd A.ix.sd=none/\e=.returned (.tuple #[.slice none 0 0,A0 7])/\A4 Aa w w')\/
  ∃l v,P.sd A.ix.sd=some l/\e=.returned (.tuple #[v,A0 0])/\GY w' w.heap.size b v l/\A4 Aa w w':=
 RS w A.ix.sd h.Ae.c0 h.Ae.c1 h.ix.c4 h.sd h.dk h.lt L z I d E
def T2(w:gC)(aU:Nat)(v:gD)(l:gF (Int×gF Pu))(h:GY w aU b v l)(hl:l.length<=1073741824)(hq:∀x∈l,x.2.length<=m)(hm:l.length*m<=4398046511104):
 Ag 101 #[v] w λe w'=>∃v',e=.returned v'/\B1 w' v' (l.flatMap (·.2))/\(∀g,v'.ownBlock=some g->w.heap.size<=g)/\A4 Aa w w':=by
 have⟨i0,hi,hz0,hz1,hz2⟩:=DQ J5;obtain⟨I,j1,j2,j3,j4⟩:=h;obtain⟨va,vcap,rfl,vc1,aL,-⟩:=B8 j2;unfold maxLen at aL;have aV:=A1 j4;have aQ:=A1 j2;have aS:=A1 hq;have aW:Hid (∀k,k<=l.length->k*m<=4398046511104):=λk hk=>AO (Ih m hk) hm;clear j2 j3 j4 hq hm
 go_enter func101,ntmps101
 go_wp2;go_loopw [3,8] (λv iv wr=>∃(k:Nat) (d:gF Pu),iv=A0 k/\k<=l.length/\d.length<=k*m/\Hid (B1 wr v d/\(∀g,v.ownBlock=some g->w.heap.size<=g)/\A4 Aa w wr/\d=(l.take k).flatMap (·.2))) (λ_ iv _=>l.length-(intOf iv).toNat)
 ·exact⟨0,[],rfl,iC,iE,Cq _ _ _ _,λg L=>by simp[Value.ownBlock]at L,A4.C _ _,rfl⟩
 ·obtain⟨k,d,rfl,hk,aN,hI⟩:=hrel;have⟨i1,i2,i3,i4⟩:=hI.o;obtain⟨ap,cp,rfl,hcap1,aB,-⟩:=B8 i1;unfold maxLen at aB;by_cases z:k<l.length
  ·have E:k<I.length:=iC;have O:w.cell? ((A9 ((va.map (·.block)).getD 0) k):Addr)=some (A5 (I[k]'E))/\∃g,va=some (A9 g 0):=by
    obtain⟨a',c',e,-,-,hz,-⟩:=B8 aQ.o;cases e;obtain⟨g,rfl⟩:=hz iC;exact⟨Bu aQ.o rfl (by simp[H7,E]),g,rfl⟩
   obtain⟨aG,g,rfl⟩:=O;have X:A7 w g k (A5 (I[k]'E)):=aG;obtain⟨pv,s1,s2,-,-⟩:=aV.o k E z;have Y:=aS.o _ (BT z);have aA:l.take (k+1)=l.take k++[l[k]'z]:=Ds z;obtain⟨gb,aF⟩:=iG ((I[k]'E));rw[aF]at X s1;obtain⟨⟨n,pl⟩,hx⟩:∃x,(l[k]'z)=x:=⟨_,rfl⟩;rw[hx]at s1 s2 aA Y;dsimp only at s1 s2 Y;obtain⟨pa,pc,rfl,pc1,aP,-⟩:=B8 s2;unfold maxLen at aP;have d1:=i3.ad X;have d2:=(s1.aj i3 (λh=>h)).c4;have aM:=A1 i1;have aI:=A1 i2;have aH:=A1 i3;(have aO:Hid (d++pl=(l.take (k+1)).flatMap (·.2)):=by unfold Hid;rw[aA,i4];simp);have aE:=A1 (Src.bN GW (Au s2 λg L=>i3.Al g (Aw s2 L) (λh=>h)) (HJ pl));have aR:=A1 (aW.o (k+1) z);have aK:(k:Int)<(l.length:Int):=iC;have hk0:=BJ k;clear hI i1 i2 i3 i4 aG X s1 s2 aA hx aF;have aD:Hid ((d.length+pl.length)*24<=140737488355328/\d.length+pl.length<=(k+1)*m):=by
    have:=aR.o;rw[NL]at this;unfold Hid;rw[NL];omega
   clear aN Y aR;go_wp2_with (at_builtin;refine CX rfl (.tmp 12) (.tmp 16) 97 97 rfl 113 i0 _ 3 24 GW hi hz0 hz1 hz2 rfl iF (.slice ap d.length cp) d.length (B5 d) (by rfl) aM.o _ pl.length _ (by rfl) aE.o aD.o.1 ?_;intro a8 cap8 w8 hA;have aT:=A1 hA;clear hA);go_roundw
   ·have hA:=aT.o;have aJ:=hA.Am (S:=λk=>(Value.slice ap d.length cp).ownBlock=some k) λ_ h=>h;refine⟨k+1,d++pl,by go_num,iC,by simp only[B3];exact aD.o.2,?_,?_,?_,aO.o⟩
    ·have e:(d++pl).length=d.length+pl.length:=iE;unfold B1;rw[It,e];exact hA.AB
    ·intro g L;rcases hA.BX with h|h
     ·rw[h]at L;exact aI.o g L
     ·rw[h]at L;cases L;exact aH.o.Ak
    ·exact aH.o.AF aJ λy hy hlt=>by have:=aI.o y hy;omega
   ·simp[intOf];omega
  ·(obtain rfl:k=l.length:=iC);rw[C5]at i4;have aM:=A1 i1;have aI:=A1 i2;have aH:=A1 i3;(have aK:¬((l.length:Int)<(l.length:Int)):=iC);have aO:=A1 i4;clear i1 i2 i3 i4 hI;go_wp2;go_ret;exact⟨_,rfl,by rw[<-aO.o];exact aM.o,aI.o,aH.o⟩
end
def A1V(w:gC)(g Y O:Nat)(aB aD:Int->gC->Prop)(hb:w.heap[g]?=some (.cells #[.func (Fn.func 118) #[A5 Y] #[],.func (Fn.func 150) #[A5 O] #[]] 50 (0,0)))(h1:Ag 118 #[A5 Y] w λe w'=>∃n,e=.returned (A0 n)/\aB n w'/\w'.heap[g]?=w.heap[g]?)(h2:∀d,aB 0 d->d.heap[g]?=w.heap[g]?->Ag 150 #[A5 O] d λe w'=>∃n,e=.returned (A0 n)/\aD n w'):
 Ag 117 #[AA g 2 2] w λe w'=>∃n,e=.returned (A0 n)/\((n≠0/\aB n w')\/aD n w'):=by
 have c0:A7 w g 0 (.func (Fn.func 118) #[A5 Y] #[]):=by simp[A7,World.cell?,hb]
 have aF:Hid (∀d:gC,d.heap[g]?=w.heap[g]?->A7 d g 1 (.func (Fn.func 150) #[A5 O] #[])):=λd h=>by simp[A7,World.cell?,h,hb]
 have aE:=A1 h1;have aG:=A1 h2
 go_enter func117,ntmps117
 go_wp2;refine IM 3 ?_;rw[FF];go_wp2_with (fail);refine aE.m ?_;rintro e d⟨n1,rfl,q1,k1⟩;have I:=A1 q1;have c1:=aF.o d k1;have X:=A1 k1;by_cases z:n1=0
 case neg=>
  have hb1:(n1 !=0)=true:=by simpa using z
  go_wp2;go_ret;exact⟨n1,rfl,.inl ⟨z,I.o⟩⟩
 case pos=>
 subst z;have aA:=A1 (aG.o d I.o X.o);go_wp2;rw[FF];go_wp2_with (fail);refine aA.m ?_;rintro e w2⟨n2,rfl,q2⟩;have E:=A1 q2;by_cases L:n2=0
 case neg=>
  have hb2:(n2 !=0)=true:=by simpa using L
  go_wp2;go_ret;exact⟨n2,rfl,.inr (E.o)⟩
 case pos=>
 subst L;go_wp2;rw[FF];go_wp2;go_ret;exact⟨0,rfl,.inr (E.o)⟩
def A1U(w:gC)(g Y O:Nat)(aB aD:Int->gC->Prop)(hb:w.heap[g]?=some (.cells #[.func (Fn.func 150) #[A5 Y] #[],.func (Fn.func 86) #[A5 O] #[]] 50 (0,0)))(h1:Ag 150 #[A5 Y] w λe w'=>∃n,e=.returned (A0 n)/\aB n w'/\w'.heap[g]?=w.heap[g]?)(h2:∀d,aB 0 d->d.heap[g]?=w.heap[g]?->Ag 86 #[A5 O] d λe w'=>∃n,e=.returned (A0 n)/\aD n w'):
 Ag 117 #[AA g 2 2] w λe w'=>∃n,e=.returned (A0 n)/\((n≠0/\aB n w')\/aD n w'):=by
 have c0:A7 w g 0 (.func (Fn.func 150) #[A5 Y] #[]):=by simp[A7,World.cell?,hb]
 have aF:Hid (∀d:gC,d.heap[g]?=w.heap[g]?->A7 d g 1 (.func (Fn.func 86) #[A5 O] #[])):=λd h=>by simp[A7,World.cell?,h,hb]
 have aE:=A1 h1;have aG:=A1 h2
 go_enter func117,ntmps117
 go_wp2;refine IM 3 ?_;rw[FF];go_wp2_with (fail);refine aE.m ?_;rintro e d⟨n1,rfl,q1,k1⟩;have I:=A1 q1;have c1:=aF.o d k1;have X:=A1 k1;by_cases z:n1=0
 case neg=>
  have hb1:(n1 !=0)=true:=by simpa using z
  go_wp2;go_ret;exact⟨n1,rfl,.inl ⟨z,I.o⟩⟩
 case pos=>
 subst z;have aA:=A1 (aG.o d I.o X.o);go_wp2;rw[FF];go_wp2_with (fail);refine aA.m ?_;rintro e w2⟨n2,rfl,q2⟩;have E:=A1 q2;by_cases L:n2=0
 case neg=>
  have hb2:(n2 !=0)=true:=by simpa using L
  go_wp2;go_ret;exact⟨n2,rfl,.inr (E.o)⟩
 case pos=>
 subst L;go_wp2;rw[FF];go_wp2;go_ret;exact⟨0,rfl,.inr (E.o)⟩
def A1W(w:gC)(g p1 p2 Y:Nat)(aF aG aH:Int->gC->Prop)(hb:w.heap[g]?=some (.cells #[.func (Fn.func 118) #[A5 p1] #[],.func (Fn.func 119) #[A5 p2] #[],.func (Fn.func 86) #[A5 Y] #[]] 50 (0,0)))(h1:Ag 118 #[A5 p1] w λe w'=>∃n,e=.returned (A0 n)/\aF n w'/\w'.heap[g]?=w.heap[g]?)(h2:∀d,aF 0 d->d.heap[g]?=w.heap[g]?->Ag 119 #[A5 p2] d λe w'=>∃n,e=.returned (A0 n)/\aG n w'/\w'.heap[g]?=w.heap[g]?)(h3:∀d,aG 0 d->d.heap[g]?=w.heap[g]?->Ag 86 #[A5 Y] d λe w'=>∃n,e=.returned (A0 n)/\aH n w'):
 Ag 117 #[AA g 3 3] w λe w'=>∃n,e=.returned (A0 n)/\((n≠0/\aF n w')\/(n≠0/\aG n w')\/aH n w'):=by
 have c0:A7 w g 0 (.func (Fn.func 118) #[A5 p1] #[]):=by simp[A7,World.cell?,hb]
 have aL:Hid (∀d:gC,d.heap[g]?=w.heap[g]?->A7 d g 1 (.func (Fn.func 119) #[A5 p2] #[])):=λd h=>by simp[A7,World.cell?,h,hb]
 have aI:Hid (∀d:gC,d.heap[g]?=w.heap[g]?->A7 d g 2 (.func (Fn.func 86) #[A5 Y] #[])):=λd h=>by simp[A7,World.cell?,h,hb]
 have aK:=A1 h1;have aM:=A1 h2;have aJ:=A1 h3
 go_enter func117,ntmps117
 go_wp2;refine IM 4 ?_;rw[FF];go_wp2_with (fail);refine aK.m ?_;rintro e d⟨n1,rfl,q1,k1⟩;have O:=A1 q1;have c1:=aL.o d k1;have aB:=A1 k1;by_cases z:n1=0
 case neg=>
  have hb1:(n1 !=0)=true:=by simpa using z
  go_wp2;go_ret;exact⟨n1,rfl,.inl ⟨z,O.o⟩⟩
 case pos=>
 subst z;have aE:=A1 (aM.o d O.o aB.o);go_wp2;rw[FF];go_wp2_with (fail);refine aE.m ?_;rintro e w2⟨n2,rfl,q2,k2⟩;have I:=A1 q2;have c2:=aI.o w2 k2;have aD:=A1 k2;by_cases E:n2=0
 case neg=>
  have hb2:(n2 !=0)=true:=by simpa using E
  go_wp2;go_ret;exact⟨n2,rfl,.inr (.inl ⟨E,I.o⟩)⟩
 case pos=>
 subst E;have aA:=A1 (aJ.o w2 I.o aD.o);go_wp2;rw[FF];go_wp2_with (fail);refine aA.m ?_;rintro e w3⟨n3,rfl,q3⟩;have L:=A1 q3;by_cases X:n3=0
 case neg=>
  have hb3:(n3 !=0)=true:=by simpa using X
  go_wp2;go_ret;exact⟨n3,rfl,.inr (.inr (L.o))⟩
 case pos=>
 subst X;go_wp2;rw[FF];go_wp2;go_ret;exact⟨0,rfl,.inr (.inr (L.o))⟩
def Ap.aZ{w X w2:gC}{Ft d:Nat->Prop}{R:gC->(Nat->Prop)->Prop}(hc:A4 Ft w X)(Y:∀k,d k->Ft k\/w.heap.size<=k)(h2:Ap X d w2 R):Ap w Ft w2 R:=by
 obtain⟨L,I,E,z,O⟩:=h2;refine⟨hc.AF L λx hx hlt=>(Y x hx).resolve_right iC,I,E,z,λk hk=>?_⟩;rcases O k hk with h|h
 ·exact Y k h
 ·exact .inr (AO hc.Ak h)
section
variable{w:gC}{ab b xb jb B:Nat}{sv ov lv jo:gD}{A:Ar}{P:PD}{Ft FT:Nat->Prop}{a c m:Nat}
def A2r(h:Bw w b P Ft)(nm:Bs):
 Ag 85 #[A5 b,.string ⟨nm.toArray⟩] w (Aj (A0 (P.ae (Ab nm)).1) λw'=>Ap w Ft w' (λw' d=>Bw w' b (P.ae (Ab nm)).2 d)):=Rr h (Ab nm)
def Rw(nm:Bs)(r:gF Bs)(P:PD):PD.ax (nm::r) P=if (P.ae (Ab nm)).1≠0 then P.ae (Ab nm) else PD.ax r (P.ae (Ab nm)).2:=rfl
def RN(w:gC)(h:AD w ab b A P FT):
 Ag 118 #[A5 ab] w (Aj (A0 (A.I P).1) λw'=>Ap w FT w' (λw' aS=>AD w' ab b (A.I P).2.1 (A.I P).2.2 aS)/\w'.cell? (A9 ab 2)=w.cell? (A9 ab 2)):=by
 obtain⟨xb,jb,sv,ov,lv,jo,Ft,hV,aL⟩:=h;have a4:=hV.Ae.c4;obtain⟨oa,aA,rfl,oc1,aY⟩:=hV.AS.BW;unfold maxLen at aY;have aM:=A1 hV;have E:=A1 aL;have aQ:Hid (A.I P=if (PD.ax A.AS P).1≠0 then ((PD.ax A.AS P).1,A,(PD.ax A.AS P).2) else (0,{A with AS:=[]},(PD.ax A.AS P).2)):=rfl;have aZ:=A1 Rw;generalize hR:A.I P=R at aQ ⊢;obtain⟨X,hX⟩:=iG (PD.ax A.AS P);have a0:=A1 hX;rw[hX]at aQ
 go_enter func118,ntmps118
 go_wp2;go_loopw [11] (λiv wr=>∃(k:Nat),iv=A0 k/\k<=A.AS.length/\Hid (∃aG,Ap w Ft wr (λw' I=>Cv w' ab b xb jb sv (.slice oa A.AS.length aA) lv jo A aG I)/\X=PD.ax (A.AS.drop k) aG)) (λiv _=>A.AS.length-(intOf iv).toNat)
 ·exact⟨0,rfl,iC,P,⟨A4.C _ _,Ft,aM.o,aM.o.lt,λk z=>.inl z⟩,a0.o.symm⟩
 ·obtain⟨k,rfl,z,hI⟩:=hrel;have⟨aG,hi,hx⟩:=hI.o;obtain⟨c1,aJ,d,lt1,s1⟩:=hi;by_cases aD:k<A.AS.length
  ·obtain⟨g,o,rfl,d1⟩:=Hi.at d.AS k aD;have aK:=FY aD;generalize hne:(A.AS[k]'aD)=nm at d1 aK;rw[aK,aZ.o]at hx;have e0:=d.Ae.c0;have aP:=A1 (A2r d.dk nm);generalize hY:aG.ae (Ab nm)=Y at aP hx;have aF:Hid (∀w6,Ap wr aJ w6 (λw' I=>Bw w' b Y.2 I)->Ap w Ft w6 (λw' I=>Cv w' ab b xb jb sv (.slice (some (A9 g o)) A.AS.length aA) lv jo A Y.2 I)):=λw6 h6=>Ap.aZ c1 s1 (d.bO h6);have aE:=A1 hx;have aR:(k:Int)<(A.AS.length:Int):=iC;have hk0:=BJ k;obtain⟨aO,aN⟩:=Y;dsimp only at aP aF aE;by_cases hy:aO=0
   case neg=>
    (have aB:X=(aO,aN):=by rw[aE.o,Ai hy]);subst aB;(have aI:R=(aO,A,aN):=by rw[aQ.o,Ai hy]);subst aI;(have hyb:(aO !=0)=true:=by simpa using hy);go_wp2_with (go_at_call 85;refine aP.k ?_;rintro w6 aH;have L:=A1 (aF.o w6 aH));go_ret;have⟨_,_,hv6,_⟩:=L.o;exact⟨rfl,aM.o.cM E.o L.o,hv6.Ae.c2.trans aM.o.Ae.c2.symm⟩
   case pos=>
    subst hy;(have aU:Hid (X=PD.ax (A.AS.drop (k+1)) aN):=by unfold Hid;rw[aE.o,Af iE]);go_wp2_with (go_at_call 85;refine aP.k ?_;rintro w6 aH;have L:=A1 (aF.o w6 aH));go_roundw
    ·exact⟨k+1,by go_num,iC,aN,L.o,aU.o⟩
    ·simp[intOf];omega
  ·(obtain rfl:k=A.AS.length:=iC);rw[H5]at hx;have aB:X=(0,aG):=hx;subst aB;(have aI:R=(0,{A with AS:=[]},aG):=by rw[aQ.o,Af iE]);subst aI;(have aR:¬((A.AS.length:Int)<(A.AS.length:Int)):=iC);have g4:=d.Ae.c4;have f4:=d.Ae.fz 4;have aW:=A1 d;have aT:=A1 c1;have aV:=A1 s1;go_wp2;go_ret;have d:=aW.o;have kz:A4 (One ab) wr (wr.sC ab 4 (.slice none 0 0)):=(A4.C (One ab) wr).an (b:=ab) rfl 4 _;have hs:∀k,k≠ab->k<wr.heap.size->(wr.sC ab 4 (.slice none 0 0)).heap[k]?=wr.heap[k]?:=λk z hl=>kz.Al k hl z;have aX:∀k,Dt jb lv jo k->k≠ab:=λk z=>(d.Gg k z).1
   have O:Cv (wr.sC ab 4 (.slice none 0 0)) ab b xb jb sv (.slice none 0 0) lv jo {A with AS:=[]} aG aJ:=
    ⟨d.Ae.s4 _,(hs xb d.ne.symm d.ix.lt).trans d.ix,d.sd.aK λg hg=>hs g (d.G2 g hg).1 (d.sd.lt hg),DJ.bS,d.jn.aK λk z=>hs k (aX k z) (d.jn.lt z),
     AU.aK d.dk λk z=>hs k (λe=>by subst e;exact d.Dp _ (.inl rfl) z) (d.lt k z),λk z=>Bp (d.lt k z) kz.Ak,
     λk z=>d.Dp k (by
      rcases z with h|h|h|h|h
      ·exact .inl h
      ·exact .inr (.inl h)
      ·exact .inr (.inr (.inl h))
      ·simp[Value.ownBlock]at h
      ·exact .inr (.inr (.inr (.inr h)))),d.G2,λg hg=>by simp[Value.ownBlock]at hg,d.Gg⟩
   refine⟨rfl,?_,O.Ae.c2.trans aM.o.Ae.c2.symm⟩;refine(O.bP ((aT.o.ah (S':=λk=>Ft k\/k=ab) λ_ _ h=>.inl h).AF kz λ_ h _=>.inr h) ?_ (λk z=>(aV.o k z).imp (λh=>E.o k (.inl h)) id) ?_)
   ·rintro k _ (h|rfl)
    ·exact E.o k (.inl h)
    ·exact E.o _ (.inr (.inl rfl))
   ·intro k z;refine .inl (E.o k (.inr ?_));rcases z with h|h|h|h|h
    ·exact .inl h
    ·exact .inr (.inl h)
    ·exact .inr (.inr (.inl h))
    ·simp[Value.ownBlock]at h
    ·exact .inr (.inr (.inr (.inr h)))
def RO(w:gC)(h:AD w ab b A P FT):
 Ag 118 #[A5 ab] w (Aj (A0 (A.I P).1) λw'=>Ap w FT w' (λw' d=>AD w' ab b (A.I P).2.1 (A.I P).2.2 d)):=
 (RN w h).mono λ_ _ ⟨E,z,_⟩=>⟨E,z⟩
end
end
section
open Go.RowKit
def A4.dA{w w':gC}(h:Below w.heap.size w w'):A4 Aa w w':=⟨h.os,h.tape,h.output,h.size,λk d _=>h.block k d⟩
def OV{w:gC}{d e size n:Nat}{v:gD}{xs:gF gD}(h:w.ownsRow d e size v n xs):w.ownsRow 0 e size v n xs/\∀g,v.ownBlock=some g->d<=g:=by
 refine⟨⟨h.1,?_⟩,λg I=>(h.lt g I).1⟩;rcases h.2 with E|⟨g,cap,z,E,_,L⟩
 ·exact .inl E
 ·exact .inr ⟨g,cap,z,E,Cb _,L⟩
def A3x(l:gF Bs):Dw l=l.map encStr:=rfl
def Yi(w:gC)(v:gD)(l:gF Bs)(h:DC w v l)(hl:l.length<4611686018427387904):
 Calls Tryz.prog 137 #[v] w λe w'=>e=.returned (.tuple #[])/\DC w' v (l.mergeSort λx y=>decide (x<=y))/\A4 (λk=>v.ownBlock=some k) w w':=by
 obtain⟨h1,X⟩:=h;rcases X with⟨rfl,Y⟩|⟨g,cap,I,rfl,_,E,z,hm,hs,O⟩
 ·have e:=HE.1 Y;subst e;refine(Tryz.slices_Sort_string_none none 0 w).k ?_;rintro w' rfl;exact⟨rfl,by rw[A4J];exact Cq _ _ _ _,A4.C _ _⟩
 ·have L:I.toList.take l.length=l.map encStr:=by rw[Qr]at O;rw[O];rfl
  refine(Tryz.slices_Sort_string g 0 cap l w (holds_of_block E L) (Bv E) hl).k ?_;rintro w'⟨n,os,rfl⟩;have d:(l.mergeSort λx y=>decide (x<=y)).length=l.length:=iE
  refine⟨rfl,?_,(A4.C _ w).C7 (grownBy_sorted _) λk hk _=>by cases hk;rfl⟩;unfold DC;rw[A3x,d];exact ownsRow_sorted d (Cb _) E z hm hs
def Yl(w:gC)(v:gD)(l:gF Int)(h:DY w v l)(hl:l.length<4611686018427387904):
 Calls Tryz.prog 115 #[v] w λe w'=>e=.returned (.tuple #[])/\DY w' v (l.mergeSort λx y=>decide (x<=y))/\A4 (λk=>v.ownBlock=some k) w w':=by
 obtain⟨h1,X⟩:=h;rcases X with⟨rfl,Y⟩|⟨g,cap,I,rfl,_,E,z,hm,hs,O⟩
 ·have e:=HE.1 Y;subst e;refine(Tryz.slices_Sort_int_none none 0 w).k ?_;rintro w' rfl;exact⟨rfl,by rw[A4J];exact Cq _ _ _ _,A4.C _ _⟩
 ·have L:I.toList.take l.length=l.map (Value.int .i64):=by rw[Qr]at O;rw[O];rfl
  refine(Tryz.slices_Sort_int g 0 cap l w (holds_of_blockI E L) (Bv E) hl).k ?_;rintro w'⟨n,os,rfl⟩;have d:(l.mergeSort λx y=>decide (x<=y)).length=l.length:=iE
  refine⟨rfl,?_,(A4.C _ w).C7 (grownBy_sortedI _) λk hk _=>by cases hk;rfl⟩;unfold DY;rw[d];exact ownsRow_sortedI d (Cb _) E z hm hs
def RI(x:Bs):∀(l:gF Bs),(l.Pairwise λa b=>¬b<a)->∃k,k<=l.length/\(∀t (d:t<l.length),t<k->(l[t]'d)<x)/\∀t (d:t<l.length),k<=t->¬(l[t]'d)<x
 | [],_=>⟨0,An _,λt d=>by simp at d,λt d=>by simp at d⟩
 | y::r,hs=>by
  have⟨h1,h2⟩:=Dl.1 hs;by_cases E:y<x
  ·have⟨k,k0,k1,k2⟩:=RI x r h2;refine⟨k+1,by simp;omega,λt d z=>?_,λt d z=>?_⟩
   ·cases t with
    | zero=>exact E
    | succ t=>exact k1 t (by simp at d;omega) iC
   ·cases t with
    | zero=>omega
    | succ t=>exact k2 t (by simp at d;omega) iC
  ·refine⟨0,Cb _,λt _ z=>iC,λt d _ h=>?_⟩;cases t with
   | zero=>exact E h
   | succ t=>
    have I:=h1 _ (BT (show t<r.length by simp at d;omega));exact E (List.lt_of_le_of_lt (show y<=_ from I) h)
def A3w(w:gC)(v:gD)(l:gF Bs)(x:Bs)(h:Hi w v l)(hl:l.length<4611686018427387904)(hs:l.Pairwise λa b=>¬b<a):
 Calls Tryz.prog 138 #[v,.string ⟨x.toArray⟩] w λe w'=>∃i,e=.returned (.tuple #[.int .i64 i,.bool (decide (x∈l))])/\∃q,w'=w.drewN q:=by
 obtain⟨a,cap,rfl,hcap,hm⟩:=h.BW;by_cases h0:l.length=0
 ·have e:l=[]:=HE.1 h0;subst e;refine(Any2.slices_BinarySearch_string_empty Tryz.e2 a cap ⟨x.toArray⟩ w).k ?_;rintro w' rfl;exact⟨0,iE,0,rfl⟩
 ·obtain⟨g,o,rfl,-⟩:=Hi.at h 0 iC
  let Sx:Nat->ByteArray:=λt=>if d:t<l.length then ⟨(l[t]'d).toArray⟩ else ⟨x.toArray⟩
  have I:∀t (d:t<l.length),Sx t=⟨(l[t]'d).toArray⟩:=λt d=>by simp only[Sx,Q3 d]
  refine(Any2.slices_BinarySearch_string Tryz.e2 g o l.length cap Sx ⟨x.toArray⟩ w hl (λj hj=>?_)).mono ?_
  ·have⟨g',o',e,hc⟩:=Hi.at h j hj;cases e;rw[I j hj];exact hc
  rintro e w'⟨X,q,rfl⟩;have E:∀t,Op.bytesLess (Sx t).toList (⟨x.toArray⟩:gE).toList=decide (∃d:t<l.length,(l[t]'d)<x):=λt=>by
   rw[Vn,L4,L4];by_cases d:t<l.length
   ·rw[I t d];by_cases L:(l[t]'d)<x
    ·have O:decide (∃d:t<l.length,(l[t]'d)<x)=true:=CN ⟨d,L⟩;rw[O];exact CN L
    ·have O:decide (∃d:t<l.length,(l[t]'d)<x)=false:=CO λ⟨_,h⟩=>L h
     rw[O];exact CO L
   ·(have e:Sx t=⟨x.toArray⟩:=by simp only[Sx,Q4 d]);have O:decide (∃d:t<l.length,(l[t]'d)<x)=false:=CO λ⟨h,_⟩=>d h
    rw[e,O];exact CO (Mh _)
  have aG:∀(i j:Nat) (hi:i<l.length) (hj:j<l.length),i<j->¬(l[j]'hj)<(l[i]'hi):=λi j hi hj aE=>K1.1 hs i j hi hj aE;have⟨k,hk,k1,k2⟩:=RI x l hs;have aD:Lib.bsGo (λt=>Op.bytesLess (Sx t).toList (⟨x.toArray⟩:gE).toList) l.length 0 l.length=k:=by
   refine Lib.bsGo_spec _ k (λt d=>?_) (λt d=>?_) _ 0 l.length iC iC hk
   ·rw[E t];exact CN ⟨iC,k1 t iC d⟩
   ·rw[E t];exact CO λ⟨O,h2⟩=>k2 t O d h2
  rw[aD]at X;have:(k<l.length/\Sx k=⟨x.toArray⟩)↔x∈l:=by
   constructor
   ·rintro⟨z,aA⟩;rw[I k z]at aA;have:(l[k]'z)=x:=by
     have:=Ex (λ(b:gE)=>b.data.toList) aA;simpa using this
    rw[<-this];exact BT z
   ·intro hm;have⟨t,d,X⟩:=DD hm;have htk:k<=t:=by
     rcases Fg t k with Y | Y
     ·have:=k1 t d Y;rw[X]at this;exact absurd this (Mh _)
     ·exact Y
    have z:k<l.length:=iC;refine⟨z,?_⟩;have aF:¬x<(l[k]'z):=by
     rcases Fg k t with Y | Y
     ·have:=aG k t z d Y;rwa [X]at this
     ·have e:k=t:=iC;subst e;rw[X];exact Mh _
    have aB:=k2 k z (An _);have:(l[k]'z)=x:=List.le_antisymm (show (l[k]'z)<=x from aF) (show x<=(l[k]'z) from aB);rw[I k z,this]
  have hd:decide (k<l.length/\Sx k=⟨x.toArray⟩)=decide (x∈l):=by
   by_cases L:x∈l
   ·rw[CN L];exact CN (this.2 L)
   ·rw[CO L];exact CO λh=>L (this.1 h)
  rw[hd]at X;exact⟨_,X,q,rfl⟩
def A3h(w:gC)(v:gD)(l:gF Pu)(h:B1 w v l)(X:l.length*24<=140737488355328):
 Calls Tryz.prog 153 #[v] w λe w'=>∃d,e=.returned d/\B1 w' d l/\(∀g,d.ownBlock=some g->w.heap.size<=g)/\A4 (λ_=>False) w w':=by
 have⟨i0,hi,hz0,hz1,hz2⟩:=DQ J5;obtain⟨a,cap,rfl,h1,z,h3,I,L⟩:=B8 h;cases a with
 | none=>
  have e:=HE.1 (I rfl).1;subst e;refine(AnyE.slices_Clone_nil Tryz.eZ _ cap w).k ?_;rintro w' rfl;exact⟨_,rfl,Cq _ _ _ _,λg E=>by simp[Value.ownBlock]at E,A4.C _ _⟩
 | some x=>
  obtain⟨g,rfl⟩:=L x rfl;unfold maxLen at z;refine(AnyE.slices_Clone Tryz.eZ i0 _ 3 24 hi hz0 hz1 hz2 rfl iF (λw=>sizeOf113 w) g 0 l.length cap (B5 l) w h.1 (by unfold maxLen;omega) X (λj u hj=>?_) (HJ l)).mono ?_
  ·have:=Bu h rfl hj;simpa using this
  rintro e w'⟨d,rfl,Y,h7,O⟩;have⟨q1,q2⟩:=OV Y;exact⟨d,rfl,q1,q2,A4.dA O⟩
def A3i(w:gC)(v:gD)(l:gF Int)(h:Dh w v l)(Y:l.length*8<=140737488355328):
 Calls Tryz.prog 108 #[v] w λe w'=>∃d,e=.returned d/\DY w' d l/\(∀g,d.ownBlock=some g->w.heap.size<=g)/\A4 (λ_=>False) w w':=by
 obtain⟨a,cap,rfl,h1,h2⟩:=h.BW;by_cases L:l.length=0
 ·have e:=HE.1 L;subst e;cases a with
  | none=>
   refine(Tryz.slices_Clone_int_nil 0 cap w).k ?_;rintro w' rfl;exact⟨_,rfl,Cq _ _ _ _,λg O=>by simp[Value.ownBlock]at O,A4.C _ _⟩
  | some x=>
   refine(Tryz.slices_Clone_int_zero x cap w).mono ?_;rintro e w'⟨d,rfl,z,X,E⟩;have⟨q1,q2⟩:=OV z;exact⟨d,rfl,q1,q2,A4.dA E⟩
 ·obtain⟨g,o,rfl,-⟩:=Dh.at h 0 iC;refine(Tryz.slices_Clone_int g o l.length cap l w (An _) Y (λj I=>?_)).mono ?_
  ·have⟨g',o',e,hc⟩:=Dh.at h j I;cases e;rw[PN l j I];exact hc
  rintro e w'⟨d,rfl,z,X,E⟩;rw[C5]at z;have⟨q1,q2⟩:=OV z;exact⟨d,rfl,q1,q2,A4.dA E⟩
end
end Go.Proofs.YtodcnkbblippnaaGreatDoor
