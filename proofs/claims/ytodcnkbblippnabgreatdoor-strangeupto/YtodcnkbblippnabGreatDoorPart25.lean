/- Part 25 of a proof: walks of the program. -/
import Derived.Test.YtodcnkbblippnabGreatDoorPart24
namespace Go.Proofs.YtodcnkbblippnabGreatDoor
set_option maxRecDepth 100000
set_option maxHeartbeats 32000000
set_option linter.defProp false
open Go.Proofs.Tryz
section
open Go.RowKit
def JB{α:Type}{l:List α}(h:l.Nodup){i j:Nat}(I:i<l.length)(H:j<l.length)(e:l[i]'I=l[j]'H):i=j:=by
 have O:=Lg.1 h;rcases UY i j with z|z|z
 ·exact absurd e (O i j I H z)
 ·exact z
 ·exact absurd e.symm (O j i H I z)
def JA{es:List AI}(h:(es.map (·.2)).Nodup){a b:AI}(z:a∈es)(I:b∈es)(e:a.2=b.2):a=b:=by
 obtain⟨i,O,rfl⟩:=Ee z;obtain⟨j,H,rfl⟩:=Ee I;have:i=j:=JB h (by simpa using O) (by simpa using H) (by simpa using e);subst this;rfl
def Ea{es:List AI}{nm:ByteArray}{f:Nat}(h:lookup es nm=some f):(nm,f)∈es:=by
 induction es with
 | nil=>cases h
 | cons e r ih=>
  unfold lookup at h;split at h
  ·rename_i z;cases h;subst z;exact Bp ..
  ·exact Bn _ (ih h)
def IP{es:List AI}{nm:ByteArray}:lookup es nm=none↔∀e∈es,e.1≠nm:=by
 induction es with
 | nil=>simp[lookup]
 | cons e r ih=>
  unfold lookup;by_cases h:e.1=nm
  ·simp[h]
  ·simp only[h,C4,ih,BF,forall_eq_or_imp,JC,NY,true_and]
def lookup_append(es h:List AI)(nm:ByteArray):lookup (es++h) nm=(lookup es nm).or (lookup h nm):=by
 induction es with
 | nil=>simp[lookup]
 | cons e r ih=>
  simp only[Fb,lookup];split
  ·simp
  ·exact ih
def KI(es:List AI)(p:ByteArray->Bool)(nm:ByteArray):lookup (es.filter λe=>p e.1) nm=if p nm then lookup es nm else none:=by
 induction es with
 | nil=>simp[lookup]
 | cons e r ih=>
  simp only[Fa];by_cases H:e.1=nm
  ·subst H;by_cases z:p e.1
   ·simp[z,lookup]
   ·(have h:p e.1=false:=by simpa using z);rw[h]at ih ⊢;simpa using ih
  ·by_cases z:p e.1
   ·simp only[z,Cn,lookup,H,C4,ih]
   ·(have h:p e.1=false:=by simpa using z);simp only[h,lookup,H,C4];simpa using ih
def Ik(es:List AI)(nm:ByteArray):(B4 es nm<0↔lookup es nm=none):=by
 rcases IQ es nm with⟨H,z⟩|⟨k,hk,H,z,h3⟩
 ·simp[H,z]
 ·simp only[H,z];exact⟨λh=>by omega,λh=>by cases h⟩
def TM(es:List AI)(nm:ByteArray)(Y:(es.map (·.1)).Nodup)(h:¬B4 es nm<0):
 es.take (B4 es nm).toNat++es.drop ((B4 es nm).toNat+1)=es.filter λe=>decide (e.1≠nm):=by
 induction es with
 | nil=>simp[B4]at h
 | cons e r ih=>
  have z:e.1∉r.map (·.1)/\(r.map (·.1)).Nodup:=by simpa using Y
  unfold B4 at h ⊢;by_cases I:e.1=nm
  ·subst I;simp only[Cn,Int.toNat_zero,EL,F7,GC,DA,Dj];rw[Kd (by simp)];rw[List.filter_eq_self.2];intro x X;simp only[DT,JC];rintro H;exact z.1 (H ▸ DD X)
  ·simp only[I,C4]at h ⊢;by_cases O:B4 r nm<0
   ·simp[O]at h
   ·simp only[O,C4]at h ⊢;(have W:(B4 r nm+1).toNat=(B4 r nm).toNat+1:=by omega);rw[W,EU,DA,Fb,ih z.2 O,Iy (by simp[I])]
def Rb(es:List AI)(old nm:ByteArray)(hn:(es.map (·.1)).Nodup)(h:¬B4 es old<0):
 Dm es (B4 es old).toNat nm es.length=es.filter λe=>decide (e.1≠old/\e.1≠nm):=by
 have O:∀k,k<=es.length->Dm es (B4 es old).toNat nm k=(es.take k).filter λe=>decide (e.1≠old/\e.1≠nm):=by
  intro k
  induction k with
  | zero=>intro _;simp[Dm]
  | succ k ih=>
   intro hk;(have z:k<es.length:=by omega);have H:(k=(B4 es old).toNat)↔(es[k]'z).1=old:=by
    rcases Oz es old with⟨X,_⟩|⟨m,hm,X,W⟩
    ·omega
    ·rw[X];constructor
     ·intro e;have e':k=m:=by simpa using e
      subst e';exact W
     ·intro e;have:k=m:=JB hn (by simpa using z) (by simpa using hm) (by simp[e,W]);simp[this]
   rw[Dz z,MU,<-ih (by omega)];by_cases I:k≠(B4 es old).toNat/\(es[k]'z).1≠nm
   ·rw[Ra es _ nm k z I,Iy]
    ·simp
    ·simp only[DT];exact⟨λe=>I.1 (H.2 e),I.2⟩
   ·rw[Nx es _ nm k z I,Kd]
    ·simp
    ·simp only[DT];intro Y;exact I ⟨λe=>Y.1 (H.1 e),Y.2⟩
 have:=O es.length (Aq _)
 rwa [Cj]at this
def Na(F:Nat->FC)(es:List AI)(p:AI->Bool):B6 F (es.filter p)<=B6 F es:=by
 induction es with
 | nil=>simp[B6]
 | cons e r ih=>
  rw[Fa];split
  ·simp only[B6];omega
  ·simp only[B6];omega
def N9(F:Nat->FC)(f:Nat)(c:FC)(es:List AI)(h:∀e∈es,e.2≠f):B6 (upd F f c) es=B6 F es:=by
 induction es with
 | nil=>simp[B6]
 | cons e r ih=>
  simp only[B6,upd,h e (Bp ..),C4];rw[<-ih λx z=>h x (Bn _ z)]
def Q8(F:Nat->FC)(f:Nat)(c:FC)(es:List AI)(X:(es.map (·.2)).Nodup)(h:∃e∈es,e.2=f):B6 (upd F f c) es+(F f).1.length=B6 F es+c.1.length:=by
 induction es with
 | nil=>obtain⟨e,I,_⟩:=h;cases I
 | cons e r ih=>
  have H:e.2∉r.map (·.2)/\(r.map (·.2)).Nodup:=by simpa using X
  by_cases I:e.2=f
  ·subst I;have:B6 (upd F e.2 c) r=B6 F r:=N9 F _ c r λx O z=>H.1 (z ▸ DD O);simp only[B6,this];simp[upd];omega
  ·obtain⟨x,O,z⟩:=h;have W:∃x∈r,x.2=f:=by
    rcases BF.1 O with rfl|O
    ·exact absurd z I
    ·exact⟨x,O,z⟩
   have:=ih H.2 W;simp only[B6,upd,I,C4]at this ⊢;omega
def PD.fl(P:PD)(nm:Bs):Option FC:=(lookup P.D.A6 (A9 nm)).map P.F
structure Cm (P:PD) (N R:Nat):Prop where
 Bf:P.D.n.Bf=false
 CP:P.D.n.CP=0
 Dn:P.D.n.Dn=0
 Bw:0<=P.D.n.Bw/\P.D.n.Bw+N<=4611686018427387904
 B1:(B6 P.F P.D.A6:Int)+R<=P.D.n.B1
 As:(P.D.A6.map (·.2)).Nodup
 Cg:(P.D.A6.map (·.1)).Nodup
section
variable{P:PD}{N R:Nat}{nm:Bs}
def Cm.ae{N' R':Nat}(h:Cm P N R)(hN:N'<=N)(hR:R'<=R):Cm P N' R':=
 ⟨h.Bf,h.CP,h.Dn,⟨h.Bw.1,by have:=h.Bw.2;omega⟩,by have:=h.B1;omega,h.As,h.Cg⟩
def Cm.bg(h:Cm P (N+1) R):bg P.D.n=(true,0,{P.D.n with Bw:=P.D.n.Bw+1}):=by
 have⟨c1,c2⟩:=h.Bw;have e:wrap64 (P.D.n.Bw+1)=P.D.n.Bw+1:=by unfold wrap64;omega
 unfold Go.Proofs.YtodcnkbblippnabGreatDoor.bg;dsimp only
 rw[e,Ae (by simp[h.Bf]),Ae (by rw[h.CP];omega),Ae (by rw[h.Dn];omega)]
def KR:P.fl nm=none↔lookup P.D.A6 (A9 nm)=none:=by unfold PD.fl;simp
def Mh{c:FC}(h:P.fl nm=some c):∃f,lookup P.D.A6 (A9 nm)=some f/\P.F f=c:=by
 unfold PD.fl at h;simpa using h
def Sn(h:nm≠[]):A9 nm≠ByteArray.empty:=λe=>h (by have:A9 nm=A9 []:=e;exact FV.1 this)
def Cm.af(h:Cm P (N+1) R)(h0:P.fl nm=none)(z:nm≠[]):
 (P.af (A9 nm)).1=0/\Cm (P.af (A9 nm)).2 N R/\∀m,(P.af (A9 nm)).2.fl m=if m=nm then some ([],0) else P.fl m:=by
 have Y:=KR.1 h0;have hx:¬(A9 nm=ByteArray.empty\/B4 P.D.A6 (A9 nm)≥0):=by
  rintro (h|h)
  ·exact Sn z h
  ·have:=(Ik P.D.A6 (A9 nm)).2 Y;omega
 have H:∀e∈P.D.A6,e.2≠P.D.AS:=λe I hf=>P.D.b3 (.inl ⟨e,I,hf⟩);unfold PD.af Cy;rw[Ae hx];dsimp only
 rw[h.bg];dsimp only
 rw[Ah rfl];refine⟨rfl,⟨h.Bf,h.CP,h.Dn,by have:=h.Bw;dsimp only;omega,?_,?_,?_⟩,λm=>?_⟩
 ·have:=h.B1;dsimp only
  rw[Kp,N9 _ _ _ _ H];simp only[B6,upd,Cn,Gk];omega
 ·dsimp only
  rw[Ed,GD];refine⟨h.As,by simp,λa X b O=>?_⟩;simp at O;subst O;obtain⟨e,I,rfl⟩:=C9.1 X;exact H e I
 ·dsimp only
  rw[Ed,GD];refine⟨h.Cg,by simp,λa X b O=>?_⟩;simp at O;subst O;obtain⟨e,I,rfl⟩:=C9.1 X;exact(IP.1 Y) e I
 ·unfold PD.fl;dsimp only
  rw[lookup_append];by_cases W:m=nm
  ·subst W;rw[Y];simp[lookup,upd]
  ·have z:¬A9 nm=A9 m:=λe=>W (FV.1 e).symm;simp only[lookup,z,C4,UQ,W];cases hk:lookup P.D.A6 (A9 m) with
   | none=>rfl
   | some f=>
    have:f≠P.D.AS:=H _ (Ea hk);simp[upd,this]
def KG(l:Bs):(A9 l).size=l.length:=by simp[A9,ByteArray.size]
def Cm.al{c:FC}(h:Cm P (N+1) R)(O:P.fl nm=some c)(l:Bs)(hl:l.length<=R):
 (P.al (A9 nm) l).1=0/\Cm (P.al (A9 nm) l).2 N (R-l.length)/\∀m,(P.al (A9 nm) l).2.fl m=if m=nm then some (c.1++l,c.2) else P.fl m:=by
 obtain⟨f,H,rfl⟩:=Mh O;have hroom:=h.B1;have z:¬((A9 l).size:Int)>FZ {P.D with n:={P.D.n with Bw:=P.D.n.Bw+1}} P.F:=by
  unfold FZ;rw[KG];dsimp only;omega
 unfold PD.al Bj;rw[H];dsimp only
 rw[h.bg];dsimp only
 rw[Ah rfl];unfold BI;rw[Ae z];dsimp only
 have W:(A9 l).data.toList.take ((A9 l).size:Int).toNat=l:=by rw[KG];simp[A9]
 rw[W];have hu:=Q8 P.F f ((P.F f).1++l,(P.F f).2) P.D.A6 h.As ⟨_,Ea H,rfl⟩;refine⟨rfl,⟨h.Bf,h.CP,h.Dn,by have:=h.Bw;dsimp only;omega,?_,h.As,h.Cg⟩,λm=>?_⟩
 ·dsimp only
  simp only[AX]at hu;omega
 ·unfold PD.fl;dsimp only
  by_cases I:m=nm
  ·subst I;rw[H];simp[upd]
  ·rw[Ae I];cases hk:lookup P.D.A6 (A9 m) with
   | none=>rfl
   | some g=>
    have:g≠f:=λe=>I (by
     have:=JA h.As (Ea hk) (Ea H) e
     exact FV.1 (P6 this).1)
    simp[upd,this]
def Cm.aq{c:FC}(h:Cm P (N+1) R)(H:P.fl nm=some c):
 (P.aq (A9 nm)).1=0/\Cm (P.aq (A9 nm)).2 N R/\∀m,((P.aq (A9 nm)).2.fl m).map (·.1)=(P.fl m).map (·.1):=by
 obtain⟨f,z,rfl⟩:=Mh H;unfold PD.aq Cx;rw[z];dsimp only
 rw[h.bg];dsimp only
 rw[Ah rfl];have hu:=Q8 P.F f ((P.F f).1,(P.F f).1.length) P.D.A6 h.As ⟨_,Ea z,rfl⟩;refine⟨rfl,⟨h.Bf,h.CP,h.Dn,by have:=h.Bw;dsimp only;omega,?_,h.As,h.Cg⟩,λm=>?_⟩
 ·have:=h.B1;dsimp only at hu ⊢;omega
 ·unfold PD.fl;dsimp only
  cases hk:lookup P.D.A6 (A9 m) with
  | none=>rfl
  | some g=>
   by_cases e:g=f
   ·subst e;simp[upd]
   ·simp[upd,e]
def Cm.aN(h:Cm P (N+1) R):P.aN.1=0/\Cm P.aN.2 N R/\∀m,P.aN.2.fl m=P.fl m:=by
 unfold PD.aN E4;dsimp only
 rw[h.bg];dsimp only
 rw[Ah rfl];exact⟨rfl,⟨h.Bf,h.CP,h.Dn,by have:=h.Bw;dsimp only;omega,h.B1,h.As,h.Cg⟩,λ_=>rfl⟩
def Cm.ct(h:Cm P (N+1) R)(_p:ByteArray->Bool)(es:List AI)(hu:B6 P.F es<=B6 P.F P.D.A6)(H:(es.map (·.2)).Nodup)(z:(es.map (·.1)).Nodup):
 Cm ⟨{P.D with A6:=es,Ap:=P.D.Ap++[es],n:={P.D.n with Bw:=P.D.n.Bw+1}},P.F⟩ N R:=
 ⟨h.Bf,h.CP,h.Dn,by have:=h.Bw;dsimp only;omega,by have:=h.B1;dsimp only;omega,H,z⟩
def Cm.aG{c:FC}(h:Cm P (N+1) R)(O:P.fl nm=some c):
 (P.aG (A9 nm)).1=0/\Cm (P.aG (A9 nm)).2 N R/\∀m,(P.aG (A9 nm)).2.fl m=if m=nm then none else P.fl m:=by
 obtain⟨f,I,rfl⟩:=Mh O;have H:¬B4 P.D.A6 (A9 nm)<0:=λh=>by rw[Ik,I]at h;cases h
 unfold PD.aG Dx;rw[Ae H];dsimp only
 rw[h.bg];dsimp only
 rw[Ah rfl,TM _ _ h.Cg H];refine⟨rfl,h.ct (λ_=>true) _ (Na _ _ _) (h.As.sublist (GG.map _)) (h.Cg.sublist (GG.map _)),λm=>?_⟩;unfold PD.fl;dsimp only
 rw[KI P.D.A6 (λx=>decide (x≠A9 nm))];by_cases z:m=nm
 ·subst z;simp
 ·have:A9 m≠A9 nm:=λe=>z (FV.1 e);simp[this,z]
def Cm.aO{c:FC}{old:Bs}(h:Cm P (N+1) R)(h0:P.fl old=some c)(I:nm≠[])(hd:old≠nm):
 (P.aO (A9 old) (A9 nm)).1=0/\Cm (P.aO (A9 old) (A9 nm)).2 N R/\∀m,(P.aO (A9 old) (A9 nm)).2.fl m=if m=nm then some c else if m=old then none else P.fl m:=by
 obtain⟨f,hf,rfl⟩:=Mh h0;have hx:¬B4 P.D.A6 (A9 old)<0:=λh=>by rw[Ik,hf]at h;cases h
 have H:=Ea hf;unfold PD.aO CZ;rw[hf];dsimp only
 rw[Ae (Sn I),h.bg];dsimp only
 rw[Ah rfl,Rb _ _ _ h.Cg hx];have X:(P.D.A6.filter λe=>decide (e.1≠A9 old/\e.1≠A9 nm))=(P.D.A6.filter λe=>decide (e.1≠A9 old)).filter λe=>decide (e.1≠A9 nm):=by
  rw[A25];congr 1;funext e;simp[and_comm]
 have hparts:B6 P.F (P.D.A6.filter λe=>decide (e.1≠A9 old))+(P.F f).1.length<=B6 P.F P.D.A6:=by
  have aA:∀es:List AI,(A9 old,f)∈es->B6 P.F (es.filter λe=>decide (e.1≠A9 old))+(P.F f).1.length<=B6 P.F es:=by
   intro es
   induction es with
   | nil=>intro h;cases h
   | cons e r ih=>
    intro z;by_cases O:e.1=A9 old
    ·rw[Kd (by simp[O])];rcases BF.1 z with z|z
     ·subst z;have:=Na P.F r λe=>decide (e.1≠A9 old);simp only[B6];omega
     ·have:=ih z;simp only[B6];omega
    ·rw[Iy (by simp[O])];rcases BF.1 z with z|z
     ·subst z;exact absurd rfl O
     ·have:=ih z;simp only[B6];omega
  exact aA _ H
 refine⟨rfl,h.ct (λ_=>true) _ ?_ ?_ ?_,λm=>?_⟩
 ·rw[Kp,X];have:=Na P.F (P.D.A6.filter λe=>decide (e.1≠A9 old)) λe=>decide (e.1≠A9 nm);simp only[B6];omega
 ·rw[Ed,GD];refine⟨h.As.sublist (GG.map _),by simp,λa ha b W=>?_⟩;simp at W;subst W;obtain⟨e,O,rfl⟩:=C9.1 ha;have⟨he1,he2⟩:=GF.1 O;intro aB;have:=JA h.As he1 H aB;subst this;simp at he2
 ·rw[Ed,GD];refine⟨h.Cg.sublist (GG.map _),by simp,λa ha b W=>?_⟩;simp at W;subst W;obtain⟨e,O,rfl⟩:=C9.1 ha;have:=(GF.1 O).2;simp at this;exact this.2
 ·unfold PD.fl;dsimp only
  rw[lookup_append,KI P.D.A6 (λx=>decide (x≠A9 old/\x≠A9 nm))];by_cases z:m=nm
  ·subst z;simp[lookup]
  ·have I:¬A9 nm=A9 m:=λe=>z (FV.1 e).symm;have Y:A9 m≠A9 nm:=λe=>z (FV.1 e);simp only[lookup,I,C4,UQ,z];by_cases ho:m=old
   ·subst ho;simp
   ·have:A9 m≠A9 old:=λe=>ho (FV.1 e);simp[this,Y,ho]
end
def A0j(l:List ByteArray)(x:ByteArray):(ins l x).Perm (x::l):=by
 unfold ins;refine List.perm_middle.trans ?_;rw[DK]
def TT(es:List AI):∀k,k<=es.length->(EJ es k).Perm ((es.take k).map (·.1)):=by
 intro k
 induction k with
 | zero=>intro _;simp[EJ]
 | succ k ih=>
  intro hk;have h:k<es.length:=by omega
  rw[Mo es k h,Dz h,Ed];refine(A0j _ _).trans ?_;refine((ih (by omega)).cons _).trans ?_;exact(List.perm_append_singleton _ _).symm
def JR(es:List AI):(dList es).Perm (es.map (·.1)):=by
 have:=TT es es.length (Aq _)
 rwa [Cj]at this
def PD.bs(P:PD)(nm:Bs):Option Bs:=(P.fl nm).map (·.1)
section
variable{P P':PD}{N R:Nat}{nm:Bs}
def EF:nm∈P.Av↔P.bs nm≠none:=by
 unfold PD.Av PD.bs PD.fl;rw[C9];constructor
 ·rintro⟨b,H,rfl⟩;have:=(JR P.D.A6).mem_iff.1 H;obtain⟨e,z,rfl⟩:=C9.1 this;cases hk:lookup P.D.A6 (A9 e.1.data.toList) with
  | none=>rw[Fm]at hk;exact absurd rfl (IP.1 hk e z)
  | some f=>simp
 ·intro h;cases hk:lookup P.D.A6 (A9 nm) with
  | none=>rw[hk]at h;exact absurd rfl h
  | some f=>
   refine⟨A9 nm,(JR P.D.A6).mem_iff.2 (C9.2 ⟨_,Ea hk,rfl⟩),by simp[A9]⟩
def Cm.cb(h:Cm P N R):P.Av.Nodup:=by
 unfold PD.Av;have H:=(JR P.D.A6).nodup_iff.2 h.Cg;rw[List.Nodup,Lf];refine List.Pairwise.imp (λz e=>z ?_) H;rename_i a b;rw[<-Fm a,<-Fm b,e]
def GQ:P.bs nm=none↔P.fl nm=none:=by unfold PD.bs;simp
def KY{c:Bs}(h:P.bs nm=some c):∃k,P.fl nm=some (c,k):=by
 unfold PD.bs at h;cases hx:P.fl nm with
 | none=>rw[hx]at h;cases h
 | some x=>rw[hx]at h;obtain⟨a,k⟩:=x;simp at h;subst h;exact⟨k,rfl⟩
def Cm.cA(h:Cm P (N+1) R)(H:P.bs nm=none)(z:nm≠[]):
 (P.af (A9 nm)).1=0/\Cm (P.af (A9 nm)).2 N R/\∀m,(P.af (A9 nm)).2.bs m=if m=nm then some [] else P.bs m:=by
 have⟨h1,h2,h3⟩:=h.af (GQ.1 H) z;refine⟨h1,h2,λm=>?_⟩;unfold PD.bs;rw[h3 m];split<;>rfl
def Cm.dT{c:Bs}(h:Cm P (N+1) R)(H:P.bs nm=some c)(l:Bs)(z:l.length<=R):
 (P.al (A9 nm) l).1=0/\Cm (P.al (A9 nm) l).2 N (R-l.length)/\∀m,(P.al (A9 nm) l).2.bs m=if m=nm then some (c++l) else P.bs m:=by
 have⟨k,hk⟩:=KY H;have⟨h1,h2,h3⟩:=h.al hk l z;refine⟨h1,h2,λm=>?_⟩;unfold PD.bs;rw[h3 m];split<;>rfl
def Cm.dN{c:Bs}(h:Cm P (N+1) R)(z:P.bs nm=some c):
 (P.aq (A9 nm)).1=0/\Cm (P.aq (A9 nm)).2 N R/\∀m,(P.aq (A9 nm)).2.bs m=P.bs m:=by
 have⟨k,hk⟩:=KY z;exact h.aq hk
def Cm.du(h:Cm P (N+1) R):P.aN.1=0/\Cm P.aN.2 N R/\∀m,P.aN.2.bs m=P.bs m:=by
 have⟨h1,h2,h3⟩:=h.aN;exact⟨h1,h2,λm=>by unfold PD.bs;rw[h3 m]⟩
def Cm.fB{c:Bs}(h:Cm P (N+1) R)(z:P.bs nm=some c):
 (P.aG (A9 nm)).1=0/\Cm (P.aG (A9 nm)).2 N R/\∀m,(P.aG (A9 nm)).2.bs m=if m=nm then none else P.bs m:=by
 have⟨k,hk⟩:=KY z;have⟨h1,h2,h3⟩:=h.aG hk;refine⟨h1,h2,λm=>?_⟩;unfold PD.bs;rw[h3 m];split<;>rfl
def Cm.ft{c:Bs}{old:Bs}(h:Cm P (N+1) R)(I:P.bs old=some c)(z:nm≠[])(H:old≠nm):
 (P.aO (A9 old) (A9 nm)).1=0/\Cm (P.aO (A9 old) (A9 nm)).2 N R/\∀m,(P.aO (A9 old) (A9 nm)).2.bs m=if m=nm then some c else if m=old then none else P.bs m:=by
 have⟨k,hk⟩:=KY I;have⟨h1,h2,h3⟩:=h.aO hk z H;refine⟨h1,h2,λm=>?_⟩;unfold PD.bs;rw[h3 m];split
 ·rfl
 ·split<;>rfl
def GR:P.CK nm=match P.bs nm with|some c=>(c,0)|none=>([],8):=by
 unfold PD.CK DV PD.bs PD.fl;cases lookup P.D.A6 (A9 nm)<;>rfl
def TS:Ct P.D P.F (A9 nm)=match P.bs nm with|some c=>((c.length:Int),0)|none=>(0,8):=by
 unfold Ct PD.bs PD.fl;cases lookup P.D.A6 (A9 nm)<;>rfl
def EN(s:Nat)(l:Bs):(AT s l).length=l.length+4:=by simp[AT,Hd]
def Cm.I{c:Bs}(h:Cm P (N+1) R)(z:P.bs nm=some c)(s:Nat)(l:Bs)(hl:l.length+4<=R):
 (P.I (A9 nm) s l).1=true/\(P.I (A9 nm) s l).2.1=0/\Cm (P.I (A9 nm) s l).2.2 N (R-(l.length+4))/\∀m,(P.I (A9 nm) s l).2.2.bs m=if m=nm then some (c++AT s l) else P.bs m:=by
 have H:=EN s l;have⟨h1,h2,h3⟩:=h.dT z (AT s l) (by omega);rw[H]at h2;refine⟨?_,h1,h2,h3⟩;show H6 P.D P.F (A9 nm) (AT s l)=true;unfold H6;have e:=@TS (P.al (A9 nm) (AT s l)).2 nm;have I:Ct (Bj P.D P.F (A9 nm) ⟨(AT s l).toArray⟩).2.1 (Bj P.D P.F (A9 nm) ⟨(AT s l).toArray⟩).2.2 (A9 nm)=Ct (P.al (A9 nm) (AT s l)).2.D (P.al (A9 nm) (AT s l)).2.F (A9 nm):=rfl;rw[I,e,h3 nm,TS,z];simp only[Cn,AX];simp only[DT];omega
def Cm.aH(h:Cm P (N+3) R)(W:P.bs nm=none)(z:nm≠[])(s:Nat)(l:Bs)(O:l.length+4<=R):
 (P.aH nm s l).1=0/\Cm (P.aH nm s l).2 N (R-(l.length+4))/\∀m,(P.aH nm s l).2.bs m=if m=nm then some (AT s l) else P.bs m:=by
 have⟨a1,a2,a3⟩:=Cm.cA (N:=N+2) h W z;obtain⟨-,I,X,H⟩:=Cm.I (N:=N+1) (nm:=nm) (c:=[]) a2 (by rw[a3];simp) s l O;have⟨c1,c2,c3⟩:=Cm.dN (N:=N) (nm:=nm) (c:=AT s l) X (by rw[H];simp);unfold PD.aH;rw[Ae (by simp[a1]),Ae (by simp[I])];refine⟨c1,c2,λm=>?_⟩;rw[c3,H,a3];split
 ·simp
 ·rfl
def VJ(s:Nat)(l:Bs):Hc s (AT s l)=some l:=by
 unfold Hc;have hp:=EN s l;have h:(AT s l).length-4=l.length:=by omega
 rw[Ae (by omega),h];have H:(AT s l).take l.length=l:=by simp[AT]
 have z:(AT s l).drop l.length=Ca (AV s l):=by simp[AT]
 rw[H,z,Ah rfl]
def Rj{l:Bs}(h:P.bs nm=some (AT (AB nm) l)):P.aT nm=(l,0):=by
 unfold PD.aT;rw[GR,h];simp[VJ]
def XU(h:P.bs nm=none):P.aT nm=([],8):=by
 unfold PD.aT;rw[GR,h];simp
def Cm.av:∀(l:List Bs) {P:PD},Cm P (N+l.length) R->(∀m∈l,P.bs m≠none)->(PD.av l P).1=0/\Cm (PD.av l P).2 N R/\∀m,(PD.av l P).2.bs m=P.bs m
 | [],P,h,_=>⟨rfl,h,λ_=>rfl⟩
 | x::r,P,h,hm=>by
  obtain⟨c,hc⟩:=P7.1 (hm x (Bp ..));obtain⟨O,W,H⟩:=Cm.dN (N:=N+r.length) (by simpa[Nat.add_assoc] using h) hc;obtain⟨I,X,Y⟩:=Cm.av r W λm z=>by rw[H];exact hm m (Bn _ z)
  unfold PD.av;rw[Ae (by simp[O])];exact⟨I,X,λm=>by rw[Y,H]⟩
def Cm.aL:∀(l:List Bs) {P:PD},Cm P (N+l.length) R->l.Nodup->(∀m∈l,P.bs m≠none)->(PD.aL l P).1=0/\Cm (PD.aL l P).2 N R/\∀m,(PD.aL l P).2.bs m=if m∈l then none else P.bs m
 | [],P,h,_,_=>⟨rfl,h,λm=>by simp[PD.aL]⟩
 | x::r,P,h,hn,hm=>by
  have z:=J8.1 hn;obtain⟨c,hc⟩:=P7.1 (hm x (Bp ..));obtain⟨W,X,I⟩:=Cm.fB (N:=N+r.length) (by simpa[Nat.add_assoc] using h) hc;obtain⟨O,Y,b3⟩:=Cm.aL r X z.2 λm H=>by
   (have e:m≠x:=λe=>by subst e;exact z.1 H);rw[I,Ae e];exact hm m (Bn _ H)
  unfold PD.aL;rw[Ae (by simp[W])];refine⟨O,Y,λm=>?_⟩;rw[b3,I];by_cases e:m=x
  ·subst e;simp
  ·simp[e]
end
def Tk:∀(l:List Int) (k:Nat) (r:Bs),(∀n∈l,AY n)->l.length<k->r.length<8->Fo k (l.flatMap AR++r)=l
 | [],k,r,_,_,hr=>by
  cases k with
  | zero=>rfl
  | succ k=>simp[Fo,hr]
 | n::t,k,r,hn,hk,hr=>by
  cases k with
  | zero=>simp at hk
  | succ k=>
   (have e:(n::t).flatMap AR++r=AR n++(t.flatMap AR++r):=by simp[List.append_assoc]);have h:=CD n;rw[e];unfold Fo;rw[Ae (by simp[h]),Me n (hn n (Bp ..))];rw[Va (by rw[h]),Tk t k r (λx z=>hn x (Bn _ z)) (by simp at hk;omega) hr]
def JO(l:List Int):(l.flatMap AR).length=8*l.length:=by
 induction l with
 | nil=>rfl
 | cons n t ih=>rw[Kc,AX,ih,CD,BM];omega
def A0b(l:List Int)(h:∀n∈l,AY n):Eo (l.flatMap AR)=l:=by
 unfold Eo;cases l with
 | nil=>rfl
 | cons n t=>
  have:=Tk (n::t) ((n::t).flatMap AR).length [] h (by rw[JO];simp) (by simp);simpa using this
structure MZ (ix:Ix):Prop where
 AW:isNum ix.AW=true
 segs:∀n∈ix.segs,isNum n=true
 Fj:Cs Ch ix.segs=true
def Th{n:Int}(h:isNum n=true):AY n:=by
 unfold isNum at h;simp at h;constructor<;>omega
def A0y{ix:Ix}(h:MZ ix):indexOf (Co ix.AW ix.segs,0)=some ix:=by
 have H:Co ix.AW ix.segs=(ix.AW::ix.segs).flatMap AR:=by simp[Co]
 have hall:∀n∈ix.AW::ix.segs,isNum n=true:=λn z=>by
  rcases BF.1 z with rfl|z
  ·exact h.AW
  ·exact h.segs n z
 have e:Eo (Co ix.AW ix.segs)=ix.AW::ix.segs:=by
  rw[H];exact A0b _ λn z=>Th (hall n z)
 have I:(Co ix.AW ix.segs).length=(ix.AW::ix.segs).length*8:=by rw[H,JO];omega
 unfold indexOf;dsimp only
 rw[Ae (by decide),e,Ae (by simp[I]),Ae,Ah]
 ·simp
 ·simpa using h.Fj
 ·have:(ix.AW::ix.segs).all isNum=true:=MX.2 hall;rw[this];simp
def A0x:indexOf ([],8)=some ⟨1,[]⟩:=by simp[indexOf]
def EE(p:Pu):(B9 p.1 p.2.1 p.2.2).length=17:=by simp[B9,CD]
def RD{p:Pu}(h:B8 p)(r:Bs):Jt (B9 p.1 p.2.1 p.2.2++r)=p/\((B9 p.1 p.2.1 p.2.2++r).headD 0).toNat<8:=by
 obtain⟨a,t,v⟩:=p;obtain⟨⟨X,W⟩,H,z⟩:=h;dsimp only at X W H z ⊢;have O:=CD t;have I:((UInt8.ofNat (a % 256).toNat).toNat:Int)=a:=by
  have:(a % 256).toNat=a.toNat:=by omega
  rw[this];simp;omega
 unfold Jt B9;simp only[Fb,List.headD_cons,DA,Dj,C6];rw[I,Me t H,Va (by rw[O]),Me v z];exact⟨rfl,by omega⟩
def QM:∀(l:List Pu) (k:Nat),(∀p∈l,B8 p)->l.length<k->DL k (Cb l)=some (l,[])
 | [],k,_,hk=>by
  cases k with
  | zero=>simp at hk
  | succ k=>simp[DL,Cb]
 | p::t,k,hp,hk=>by
  cases k with
  | zero=>simp at hk
  | succ k=>
   (have e:Cb (p::t)=B9 p.1 p.2.1 p.2.2++Cb t:=by simp[Cb]);have⟨h1,h2⟩:=RD (hp p (Bp ..)) (Cb t);have h:=EE p;rw[e];unfold DL;rw[Ae (by simp[h]),Ah h2,Va (by rw[h]),QM t k (λx z=>hp x (Bn _ z)) (by simp at hk;omega),h1];rfl
def HC(l:List Pu):(Cb l).length=17*l.length:=by
 induction l with
 | nil=>rfl
 | cons p t ih=>
  have e:Cb (p::t)=B9 p.1 p.2.1 p.2.2++Cb t:=by simp[Cb]
  rw[e,AX,ih,EE,BM];omega
def Xf{l:List Pu}(h:∀p∈l,B8 p)(z:Cs Cq l=true):Hz (Cb l,0)=some l:=by
 unfold Hz;dsimp only
 rw[Ae (by decide)];cases l with
 | nil=>simp[Cb,DL,z]
 | cons p t=>
  rw[QM (p::t) _ h (by rw[HC];simp)];simp[z]
def DQ:Nat->List Pu->Bs
 | _,[]=>[]
 | s,p::r=>AT s (B9 p.1 p.2.1 p.2.2)++DQ (AV s (B9 p.1 p.2.1 p.2.2)) r
def Hi:Nat->List Pu->Nat
 | s,[]=>s
 | s,p::r=>Hi (AV s (B9 p.1 p.2.1 p.2.2)) r
def T2:∀(l:List Pu) (s:Nat) (p:Pu),DQ s (l++[p])=DQ s l++AT (Hi s l) (B9 p.1 p.2.1 p.2.2)/\Hi s (l++[p])=AV (Hi s l) (B9 p.1 p.2.1 p.2.2)
 | [],s,p=>by simp[DQ,Hi]
 | x::r,s,p=>by
  have⟨h1,h2⟩:=T2 r (AV s (B9 x.1 x.2.1 x.2.2)) p;simp only[Fb,DQ,Hi,h1,h2,C6,and_self]
def IW:∀(l:List Pu) (s:Nat),(DQ s l).length=21*l.length
 | [],_=>rfl
 | p::r,s=>by
  simp only[DQ,AX,EN,EE,IW r,BM];omega
def LM:∀(l:List Pu) (s k:Nat) (t:Bs),(∀p∈l,B8 p)->l.length<k->t.length<21->Dh k s (DQ s l++t)=(l,true)
 | [],s,k,t,_,_,ht=>by simp only[DQ,F7];exact Rl ht
 | p::r,s,k,t,hp,hk,ht=>by
  cases k with
  | zero=>simp at hk
  | succ k=>
   have H:=hp p (Bp ..);have h17:=EE p;have I:=LM r (AV s (B9 p.1 p.2.1 p.2.2)) k t (λx O=>hp x (Bn _ O)) (by simp at hk;omega) ht;have⟨h1,h2⟩:=RD H [];have h:B9 p.1 p.2.1 p.2.2=UInt8.ofNat (p.1 % 256).toNat::(AR p.2.1++AR p.2.2):=rfl;simp only[Fz]at h1 h2;have e:DQ s (p::r)++t=UInt8.ofNat (p.1 % 256).toNat::(AR p.2.1++AR p.2.2)++Ca (AV s (B9 p.1 p.2.1 p.2.2))++(DQ (AV s (B9 p.1 p.2.1 p.2.2)) r++t):=by
    simp only[DQ,AT,h,C6]
   rw[e,Rq (by simp[CD]) (Hd _) (by rw[<-h]) (by rw[h]at h2;exact h2)];rw[<-h,I];have z:=h1;unfold Jt at z;rw[h]at z;simp only[List.headD_cons,DA,Dj]at z;rw[z]
def DH(nm:Bs)(ahead:Int)(l:List Pu):Bs:=AT (AB nm) (AR ahead)++DQ (AV (AB nm) (AR ahead)) l
def Eg(nm:Bs)(ahead:Int)(l:List Pu):Nat:=Hi (AV (AB nm) (AR ahead)) l
def JG(nm:Bs)(ahead:Int)(l:List Pu):(DH nm ahead l).length=12+21*l.length:=by
 unfold DH;rw[AX,EN,CD,IW]
def O7(nm:Bs)(ahead:Int)(l:List Pu)(p:Pu):DH nm ahead (l++[p])=DH nm ahead l++AT (Eg nm ahead l) (B9 p.1 p.2.1 p.2.2)/\Eg nm ahead (l++[p])=AV (Eg nm ahead l) (B9 p.1 p.2.1 p.2.2):=by
 have⟨h1,h2⟩:=T2 l (AV (AB nm) (AR ahead)) p;unfold DH Eg;rw[h1,h2,C6];exact⟨rfl,rfl⟩
def Rs(nm:Bs)(ahead:Int)(l:List Pu)(t:Bs)(z:AY ahead)(h:∀p∈l,B8 p)(H:t.length<21):Ew (AB nm) ahead (DH nm ahead l++t)=(l,0):=by
 have e:DH nm ahead l++t=AR ahead++Ca (AV (AB nm) (AR ahead))++(DQ (AV (AB nm) (AR ahead)) l++t):=by
  simp only[DH,AT,C6]
 rw[e,Rr (CD _) (Hd _)];have I:BK (AR ahead)=ahead:=by have:=Me ahead z [];simpa using this
 rw[Ah ⟨rfl,I⟩,LM l _ _ t h (by rw[AX,IW];omega) H];simp
def XZ(s:Nat)(ahead:Int)(t:Bs)(h:t.length<12):Ew s ahead t=([],0):=by
 unfold Ew;rw[Ah h]
section
variable{P:PD}{n ahead:Int}
def IT{c:Bs}(h:P.bs (Af n)=some c):P.aY n ahead=Ew (AB (Af n)) ahead c:=by
 have z:=@GR P (Af n);unfold PD.CK at z;rw[h]at z;unfold PD.aY Gs;have e:DV P.D P.F ⟨(Af n).toArray⟩=(c,0):=z;rw[e];simp
def A0u{ix:Ix}(h:MZ ix)(z:P.bs AF=some (AT (AB AF) (Co ix.AW ix.segs))):P.CV=some ix:=by
 unfold PD.CV;rw[Rj z,A0y h]
def Tw(h:P.bs AF=none):P.CV=some ⟨1,[]⟩:=by
 unfold PD.CV;rw[XU h,A0x]
def Xb{l:List Pu}(h:∀p∈l,B8 p)(H:Cs Cq l=true)(z:P.bs (Aw n)=some (AT (AB (Aw n)) (Cb l))):P.BT n=some l:=by
 unfold PD.BT;rw[Rj z,Xf h H]
def LY{l:List Pu}{t:Bs}(z:AY ahead)(h:∀p∈l,B8 p)(H:t.length<21)(I:P.bs (Af n)=some (DH (Af n) ahead l++t)):P.aY n ahead=(l,0):=by
 rw[IT I,Rs _ _ _ _ z h H]
end
end
end Go.Proofs.YtodcnkbblippnabGreatDoor
