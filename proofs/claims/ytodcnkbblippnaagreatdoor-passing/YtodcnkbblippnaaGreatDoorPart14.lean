/- Part 14 of a proof: walks of the program. -/
import Derived.Test.YtodcnkbblippnaaGreatDoorPart09
namespace Go.Proofs.YtodcnkbblippnaaGreatDoor
set_option maxRecDepth 100000
set_option maxHeartbeats 32000000
set_option linter.defProp false
open Go.Proofs.Tryz
section
open Go.RowKit
def LJ{α:Type}{l:List α}(h:l.Nodup){i j:Nat}(z:i<l.length)(y:j<l.length)(e:l[i]'z=l[j]'y):i=j:=by
 have E:=IH.1 h;rcases No i j with d|d|d
 ·exact absurd e (E i j z y d)
 ·exact d
 ·exact absurd e.symm (E j i y z d)
def LI{es:List AL}(h:(es.map (·.2)).Nodup){a b:AL}(d:a∈es)(z:b∈es)(e:a.2=b.2):a=b:=by
 obtain⟨i,E,rfl⟩:=GW d;obtain⟨j,y,rfl⟩:=GW z;have:i=j:=LJ h (by simpa using E) (by simpa using y) (by simpa using e);subst this;rfl
def G4{es:List AL}{nm:ByteArray}{f:Nat}(h:lookup es nm=some f):(nm,f)∈es:=by
 induction es with
 | nil=>cases h
 | cons e r ih=>
  unfold lookup at h;split at h
  ·rename_i d;cases h;subst d;exact Ce ..
  ·exact BK _ (ih h)
def M6{es:List AL}{nm:ByteArray}:lookup es nm=none↔∀e∈es,e.1≠nm:=by
 induction es with
 | nil=>simp[lookup]
 | cons e r ih=>
  unfold lookup;by_cases d:e.1=nm
  ·simp[d]
  ·simp only[d,BG,ih,Cf,forall_eq_or_imp,Gz,Jp,true_and]
def lookup_append(es d:List AL)(nm:ByteArray):lookup (es++d) nm=(lookup es nm).or (lookup d nm):=by
 induction es with
 | nil=>simp[lookup]
 | cons e r ih=>
  simp only[Fc,lookup];split
  ·simp
  ·exact ih
def M7(es:List AL)(p:ByteArray->Bool)(nm:ByteArray):lookup (es.filter λe=>p e.1) nm=if p nm then lookup es nm else none:=by
 induction es with
 | nil=>simp[lookup]
 | cons e r ih=>
  simp only[DB];by_cases y:e.1=nm
  ·subst y;by_cases h:p e.1
   ·simp[h,lookup]
   ·(have d:p e.1=false:=by simpa using h);rw[d]at ih ⊢;simpa using ih
  ·by_cases h:p e.1
   ·simp only[h,BM,lookup,y,BG,ih]
   ·(have d:p e.1=false:=by simpa using h);simp only[d,lookup,y,BG];simpa using ih
def JM(es:List AL)(nm:ByteArray):(AN es nm<0↔lookup es nm=none):=by
 rcases GC es nm with⟨y,d⟩|⟨k,hk,y,d,h3⟩
 ·simp[y,d]
 ·simp only[y,d];exact⟨λh=>by omega,λh=>by cases h⟩
def RY(es:List AL)(nm:ByteArray)(J:(es.map (·.1)).Nodup)(h:¬AN es nm<0):
 es.take (AN es nm).toNat++es.drop ((AN es nm).toNat+1)=es.filter λe=>decide (e.1≠nm):=by
 induction es with
 | nil=>simp[AN]at h
 | cons e r ih=>
  have d:e.1∉r.map (·.1)/\(r.map (·.1)).Nodup:=by simpa using J
  unfold AN at h ⊢;by_cases z:e.1=nm
  ·subst z;simp only[BM,Int.toNat_zero,Eh,Ej,ED,Dh,Da];rw[GX (by simp)];rw[List.filter_eq_self.2];intro x I;simp only[De,Gz];rintro y;exact d.1 (y ▸ FR I)
  ·simp only[z,BG]at h ⊢;by_cases E:AN r nm<0
   ·simp[E]at h
   ·simp only[E,BG]at h ⊢;(have H:(AN r nm+1).toNat=(AN r nm).toNat+1:=by omega);rw[H,Ei,Dh,Fc,ih d.2 E,FV (by simp[z])]
def Pk(es:List AL)(d nm:ByteArray)(U:(es.map (·.1)).Nodup)(h:¬AN es d<0):
 Ch es (AN es d).toNat nm es.length=es.filter λe=>decide (e.1≠d/\e.1≠nm):=by
 have H:∀k,k<=es.length->Ch es (AN es d).toNat nm k=(es.take k).filter λe=>decide (e.1≠d/\e.1≠nm):=by
  intro k
  induction k with
  | zero=>intro _;simp[Ch]
  | succ k ih=>
   intro hk;(have y:k<es.length:=by omega);have z:(k=(AN es d).toNat)↔(es[k]'y).1=d:=by
    rcases MD es d with⟨J,_⟩|⟨m,V,J,I⟩
    ·omega
    ·rw[J];constructor
     ·intro e;have O:k=m:=by simpa using e
      subst O;exact I
     ·intro e;have:k=m:=LJ U (by simpa using y) (by simpa using V) (by simp[e,I]);simp[this]
   rw[D9 y,Ht,<-ih (by omega)];by_cases E:k≠(AN es d).toNat/\(es[k]'y).1≠nm
   ·rw[Li es _ nm k y E,FV]
    ·simp
    ·simp only[De];exact⟨λe=>E.1 (z.2 e),E.2⟩
   ·rw[Jd es _ nm k y E,GX]
    ·simp
    ·simp only[De];intro L;exact E ⟨λe=>L.1 (z.1 e),L.2⟩
 have:=H es.length (Aw _)
 rwa [CP]at this
def IZ(F:Nat->FC)(es:List AL)(p:AL->Bool):AT F (es.filter p)<=AT F es:=by
 induction es with
 | nil=>simp[AT]
 | cons e r ih=>
  rw[DB];split
  ·simp only[AT];omega
  ·simp only[AT];omega
def KI(F:Nat->FC)(f:Nat)(c:FC)(es:List AL)(h:∀e∈es,e.2≠f):AT (upd F f c) es=AT F es:=by
 induction es with
 | nil=>simp[AT]
 | cons e r ih=>
  simp only[AT,upd,h e (Ce ..),BG];rw[<-ih λx d=>h x (BK _ d)]
def KJ(F:Nat->FC)(f:Nat)(c:FC)(es:List AL)(I:(es.map (·.2)).Nodup)(h:∃e∈es,e.2=f):AT (upd F f c) es+(F f).1.length=AT F es+c.1.length:=by
 induction es with
 | nil=>obtain⟨e,z,_⟩:=h;cases z
 | cons e r ih=>
  have y:e.2∉r.map (·.2)/\(r.map (·.2)).Nodup:=by simpa using I
  by_cases z:e.2=f
  ·subst z;have:AT (upd F e.2 c) r=AT F r:=KI F _ c r λx E d=>y.1 (d ▸ FR E);simp only[AT,this];simp[upd];omega
  ·obtain⟨x,E,d⟩:=h;have H:∃x∈r,x.2=f:=by
    rcases Cf.1 E with rfl|E
    ·exact absurd d z
    ·exact⟨x,E,d⟩
   have:=ih y.2 H;simp only[AT,upd,z,BG]at this ⊢;omega
def PD.fl(P:PD)(nm:Bs):Option FC:=(lookup P.D.A3 (Aa nm)).map P.F
structure Cm (P:PD) (N R:Nat):Prop where
 CC:P.D.n.CC=false
 DJ:P.D.n.DJ=0
 DR:P.D.n.DR=0
 Br:0<=P.D.n.Br/\P.D.n.Br+N<=4611686018427387904
 Bl:(AT P.F P.D.A3:Int)+R<=P.D.n.Bl
 AM:(P.D.A3.map (·.2)).Nodup
 EZ:(P.D.A3.map (·.1)).Nodup
section
variable {P:PD} {N R:Nat} {nm:Bs}
def Cm.U{N' R':Nat}(h:Cm P N R)(hN:N'<=N)(hR:R'<=R):Cm P N' R':=
 ⟨h.CC,h.DJ,h.DR,⟨h.Br.1,by have:=h.Br.2;omega⟩,by have:=h.Bl;omega,h.AM,h.EZ⟩
def Cm.bg(h:Cm P (N+1) R):bg P.D.n=(true,0,{P.D.n with Br:=P.D.n.Br+1}):=by
 obtain⟨c1,c2⟩:=h.Br;have e:wrap64 (P.D.n.Br+1)=P.D.n.Br+1:=by unfold wrap64;omega
 unfold Go.Proofs.YtodcnkbblippnaaGreatDoor.bg;dsimp only
 rw[e,Ad (by simp[h.CC]),Ad (by rw[h.DJ];omega),Ad (by rw[h.DR];omega)]
def RI:P.fl nm=none↔lookup P.D.A3 (Aa nm)=none:=by unfold PD.fl;simp
def Ij{c:FC}(h:P.fl nm=some c):∃f,lookup P.D.A3 (Aa nm)=some f/\P.F f=c:=by
 unfold PD.fl at h;simpa using h
def LM(h:nm≠[]):Aa nm≠ByteArray.empty:=λe=>h (by have:Aa nm=Aa []:=e;exact G3.1 this)
def Cm.al(h:Cm P (N+1) R)(O:P.fl nm=none)(d:nm≠[]):
 (P.al (Aa nm)).1=0/\Cm (P.al (Aa nm)).2 N R/\∀m,(P.al (Aa nm)).2.fl m=if m=nm then some ([],0) else P.fl m:=by
 have J:=RI.1 O;have U:¬(Aa nm=ByteArray.empty\/AN P.D.A3 (Aa nm)≥0):=by
  rintro (h|h)
  ·exact LM d h
  ·have:=(JM P.D.A3 (Aa nm)).2 J;omega
 have y:∀e∈P.D.A3,e.2≠P.D.Bq:=λe z L=>P.D.b8 (.inl ⟨e,z,L⟩);unfold PD.al Ck;rw[Ad U];dsimp only
 rw[h.bg];dsimp only
 rw[Am rfl];refine⟨rfl,⟨h.CC,h.DJ,h.DR,by have:=h.Br;dsimp only;omega,?_,?_,?_⟩,λm=>?_⟩
 ·have:=h.Bl;dsimp only
  rw[HD,KI _ _ _ _ y];simp only[AT,upd,BM,Gg];omega
 ·dsimp only
  rw[Fa,II];refine⟨h.AM,by simp,λa I b E=>?_⟩;simp at E;subst E;obtain⟨e,z,rfl⟩:=DL.1 I;exact y e z
 ·dsimp only
  rw[Fa,II];refine⟨h.EZ,by simp,λa I b E=>?_⟩;simp at E;subst E;obtain⟨e,z,rfl⟩:=DL.1 I;exact(M6.1 J) e z
 ·unfold PD.fl;dsimp only
  rw[lookup_append];by_cases H:m=nm
  ·subst H;rw[J];simp[lookup,upd]
  ·have d:¬Aa nm=Aa m:=λe=>H (G3.1 e).symm;simp only[lookup,d,BG,Nf,H];cases hk:lookup P.D.A3 (Aa m) with
   | none=>rfl
   | some f=>
    have:f≠P.D.Bq:=y _ (G4 hk);simp[upd,this]
def LL(l:Bs):(Aa l).size=l.length:=by simp[Aa,ByteArray.size]
def Cm.aw{c:FC}(h:Cm P (N+1) R)(E:P.fl nm=some c)(l:Bs)(hl:l.length<=R):
 (P.aw (Aa nm) l).1=0/\Cm (P.aw (Aa nm) l).2 N (R-l.length)/\∀m,(P.aw (Aa nm) l).2.fl m=if m=nm then some (c.1++l,c.2) else P.fl m:=by
 obtain⟨f,y,rfl⟩:=Ij E;have hroom:=h.Bl;have d:¬((Aa l).size:Int)>EP {P.D with n:={P.D.n with Br:=P.D.n.Br+1}} P.F:=by
  unfold EP;rw[LL];dsimp only;omega
 unfold PD.aw B6;rw[y];dsimp only
 rw[h.bg];dsimp only
 rw[Am rfl];unfold Cp;rw[Ad d];dsimp only
 have H:(Aa l).data.toList.take ((Aa l).size:Int).toNat=l:=by rw[LL];simp[Aa]
 rw[H];have hu:=KJ P.F f ((P.F f).1++l,(P.F f).2) P.D.A3 h.AM ⟨_,G4 y,rfl⟩;refine⟨rfl,⟨h.CC,h.DJ,h.DR,by have:=h.Br;dsimp only;omega,?_,h.AM,h.EZ⟩,λm=>?_⟩
 ·dsimp only
  simp only[B2]at hu;omega
 ·unfold PD.fl;dsimp only
  by_cases z:m=nm
  ·subst z;rw[y];simp[upd]
  ·rw[Ad z];cases hk:lookup P.D.A3 (Aa m) with
   | none=>rfl
   | some g=>
    have:g≠f:=λe=>z (by
     have:=LI h.AM (G4 hk) (G4 y) e
     exact G3.1 (Prod.mk.inj this).1)
    simp[upd,this]
def Cm.az{c:FC}(h:Cm P (N+1) R)(y:P.fl nm=some c):
 (P.az (Aa nm)).1=0/\Cm (P.az (Aa nm)).2 N R/\∀m,((P.az (Aa nm)).2.fl m).map (·.1)=(P.fl m).map (·.1):=by
 obtain⟨f,d,rfl⟩:=Ij y;unfold PD.az CJ;rw[d];dsimp only
 rw[h.bg];dsimp only
 rw[Am rfl];have hu:=KJ P.F f ((P.F f).1,(P.F f).1.length) P.D.A3 h.AM ⟨_,G4 d,rfl⟩;refine⟨rfl,⟨h.CC,h.DJ,h.DR,by have:=h.Br;dsimp only;omega,?_,h.AM,h.EZ⟩,λm=>?_⟩
 ·have:=h.Bl;dsimp only at hu ⊢;omega
 ·unfold PD.fl;dsimp only
  cases hk:lookup P.D.A3 (Aa m) with
  | none=>rfl
  | some g=>
   by_cases e:g=f
   ·subst e;simp[upd]
   ·simp[upd,e]
def Cm.aM(h:Cm P (N+1) R):P.aM.1=0/\Cm P.aM.2 N R/\∀m,P.aM.2.fl m=P.fl m:=by
 unfold PD.aM DI;dsimp only
 rw[h.bg];dsimp only
 rw[Am rfl];exact⟨rfl,⟨h.CC,h.DJ,h.DR,by have:=h.Br;dsimp only;omega,h.Bl,h.AM,h.EZ⟩,λ_=>rfl⟩
def Cm.bF(h:Cm P (N+1) R)(_p:ByteArray->Bool)(es:List AL)(hu:AT P.F es<=AT P.F P.D.A3)(y:(es.map (·.2)).Nodup)(d:(es.map (·.1)).Nodup):
 Cm ⟨{P.D with A3:=es,AI:=P.D.AI++[es],n:={P.D.n with Br:=P.D.n.Br+1}},P.F⟩ N R:=
 ⟨h.CC,h.DJ,h.DR,by have:=h.Br;dsimp only;omega,by have:=h.Bl;dsimp only;omega,y,d⟩
def Cm.aL{c:FC}(h:Cm P (N+1) R)(E:P.fl nm=some c):
 (P.aL (Aa nm)).1=0/\Cm (P.aL (Aa nm)).2 N R/\∀m,(P.aL (Aa nm)).2.fl m=if m=nm then none else P.fl m:=by
 obtain⟨f,z,rfl⟩:=Ij E;have y:¬AN P.D.A3 (Aa nm)<0:=λh=>by rw[JM,z]at h;cases h
 unfold PD.aL CU;rw[Ad y];dsimp only
 rw[h.bg];dsimp only
 rw[Am rfl,RY _ _ h.EZ y];refine⟨rfl,h.bF (λ_=>true) _ (IZ _ _ _) (h.AM.sublist (Gj.map _)) (h.EZ.sublist (Gj.map _)),λm=>?_⟩;unfold PD.fl;dsimp only
 rw[M7 P.D.A3 (λx=>decide (x≠Aa nm))];by_cases d:m=nm
 ·subst d;simp
 ·have:Aa m≠Aa nm:=λe=>d (G3.1 e);simp[this,d]
def Cm.aV{c:FC}{d:Bs}(h:Cm P (N+1) R)(h0:P.fl d=some c)(E:nm≠[])(hd:d≠nm):
 (P.aV (Aa d) (Aa nm)).1=0/\Cm (P.aV (Aa d) (Aa nm)).2 N R/\∀m,(P.aV (Aa d) (Aa nm)).2.fl m=if m=nm then some c else if m=d then none else P.fl m:=by
 obtain⟨f,U,rfl⟩:=Ij h0;have hx:¬AN P.D.A3 (Aa d)<0:=λh=>by rw[JM,U]at h;cases h
 have z:=G4 U;unfold PD.aV Cv;rw[U];dsimp only
 rw[Ad (LM E),h.bg];dsimp only
 rw[Am rfl,Pk _ _ _ h.EZ hx];have J:(P.D.A3.filter λe=>decide (e.1≠Aa d/\e.1≠Aa nm))=(P.D.A3.filter λe=>decide (e.1≠Aa d)).filter λe=>decide (e.1≠Aa nm):=by
  rw[NB];congr 1;funext e;simp[and_comm]
 have hparts:AT P.F (P.D.A3.filter λe=>decide (e.1≠Aa d))+(P.F f).1.length<=AT P.F P.D.A3:=by
  have O:∀es:List AL,(Aa d,f)∈es->AT P.F (es.filter λe=>decide (e.1≠Aa d))+(P.F f).1.length<=AT P.F es:=by
   intro es
   induction es with
   | nil=>intro h;cases h
   | cons e r ih=>
    intro y;by_cases H:e.1=Aa d
    ·rw[GX (by simp[H])];rcases Cf.1 y with y|y
     ·subst y;have:=IZ P.F r λe=>decide (e.1≠Aa d);simp only[AT];omega
     ·have:=ih y;simp only[AT];omega
    ·rw[FV (by simp[H])];rcases Cf.1 y with y|y
     ·subst y;exact absurd rfl H
     ·have:=ih y;simp only[AT];omega
  exact O _ z
 refine⟨rfl,h.bF (λ_=>true) _ ?_ ?_ ?_,λm=>?_⟩
 ·rw[HD,J];have:=IZ P.F (P.D.A3.filter λe=>decide (e.1≠Aa d)) λe=>decide (e.1≠Aa nm);simp only[AT];omega
 ·rw[Fa,II];refine⟨h.AM.sublist (Gj.map _),by simp,λa Z b I=>?_⟩;simp at I;subst I;obtain⟨e,H,rfl⟩:=DL.1 Z;obtain⟨Y,W⟩:=Gf.1 H;intro aA;have:=LI h.AM Y z aA;subst this;simp at W
 ·rw[Fa,II];refine⟨h.EZ.sublist (Gj.map _),by simp,λa Z b I=>?_⟩;simp at I;subst I;obtain⟨e,H,rfl⟩:=DL.1 Z;have:=(Gf.1 H).2;simp at this;exact this.2
 ·unfold PD.fl;dsimp only
  rw[lookup_append,M7 P.D.A3 (λx=>decide (x≠Aa d/\x≠Aa nm))];by_cases y:m=nm
  ·subst y;simp[lookup]
  ·have E:¬Aa nm=Aa m:=λe=>y (G3.1 e).symm;have L:Aa m≠Aa nm:=λe=>y (G3.1 e);simp only[lookup,E,BG,Nf,y];by_cases V:m=d
   ·subst V;simp
   ·have:Aa m≠Aa d:=λe=>V (G3.1 e);simp[this,L,V]
end
def Ri(l:List ByteArray)(x:ByteArray):(ins l x).Perm (x::l):=by
 unfold ins;refine List.perm_middle.trans ?_;rw[EG]
def S2(es:List AL):∀k,k<=es.length->(DT es k).Perm ((es.take k).map (·.1)):=by
 intro k
 induction k with
 | zero=>intro _;simp[DT]
 | succ k ih=>
  intro hk;have d:k<es.length:=by omega
  rw[MI es k d,D9 d,Fa];refine(Ri _ _).trans ?_;refine((ih (by omega)).cons _).trans ?_;exact(List.perm_append_singleton _ _).symm
def JW(es:List AL):(dList es).Perm (es.map (·.1)):=by
 have:=S2 es es.length (Aw _)
 rwa [CP]at this
def PD.bs(P:PD)(nm:Bs):Option Bs:=(P.fl nm).map (·.1)
section
variable {P P':PD} {N R:Nat} {nm:Bs}
def LQ:nm∈P.ad↔P.bs nm≠none:=by
 unfold PD.ad PD.bs PD.fl;rw[DL];constructor
 ·rintro⟨b,y,rfl⟩;have:=(JW P.D.A3).mem_iff.1 y;obtain⟨e,d,rfl⟩:=DL.1 this;cases hk:lookup P.D.A3 (Aa e.1.data.toList) with
  | none=>rw[Jq]at hk;exact absurd rfl (M6.1 hk e d)
  | some f=>simp
 ·intro h;cases hk:lookup P.D.A3 (Aa nm) with
  | none=>rw[hk]at h;exact absurd rfl h
  | some f=>
   refine⟨Aa nm,(JW P.D.A3).mem_iff.2 (DL.2 ⟨_,G4 hk,rfl⟩),by simp[Aa]⟩
def Cm.bZ(h:Cm P N R):P.ad.Nodup:=by
 unfold PD.ad;have y:=(JW P.D.A3).nodup_iff.2 h.EZ;rw[List.Nodup,Ns];refine List.Pairwise.imp (λd e=>d ?_) y;rename_i a b;rw[<-Jq a,<-Jq b,e]
def Sy:P.bs nm=none↔P.fl nm=none:=by unfold PD.bs;simp
def It{c:Bs}(h:P.bs nm=some c):∃k,P.fl nm=some (c,k):=by
 unfold PD.bs at h;cases hx:P.fl nm with
 | none=>rw[hx]at h;cases h
 | some x=>rw[hx]at h;obtain⟨a,k⟩:=x;simp at h;subst h;exact⟨k,rfl⟩
def Cm.ch(h:Cm P (N+1) R)(E:P.bs nm=none)(d:nm≠[]):
 (P.al (Aa nm)).1=0/\Cm (P.al (Aa nm)).2 N R/\∀m,(P.al (Aa nm)).2.bs m=if m=nm then some [] else P.bs m:=by
 obtain⟨z,y,H⟩:=h.al (Sy.1 E) d;refine⟨z,y,λm=>?_⟩;unfold PD.bs;rw[H m];split<;>rfl
def Cm.dz{c:Bs}(h:Cm P (N+1) R)(H:P.bs nm=some c)(l:Bs)(y:l.length<=R):
 (P.aw (Aa nm) l).1=0/\Cm (P.aw (Aa nm) l).2 N (R-l.length)/\∀m,(P.aw (Aa nm) l).2.bs m=if m=nm then some (c++l) else P.bs m:=by
 obtain⟨k,d⟩:=It H;obtain⟨E,z,I⟩:=h.aw d l y;refine⟨E,z,λm=>?_⟩;unfold PD.bs;rw[I m];split<;>rfl
def Cm.cy{c:Bs}(h:Cm P (N+1) R)(y:P.bs nm=some c):
 (P.az (Aa nm)).1=0/\Cm (P.az (Aa nm)).2 N R/\∀m,(P.az (Aa nm)).2.bs m=P.bs m:=by
 obtain⟨k,d⟩:=It y;exact h.az d
def Cm.da(h:Cm P (N+1) R):P.aM.1=0/\Cm P.aM.2 N R/\∀m,P.aM.2.bs m=P.bs m:=by
 obtain⟨y,d,z⟩:=h.aM;exact⟨y,d,λm=>by unfold PD.bs;rw[z m]⟩
def Cm.dZ{c:Bs}(h:Cm P (N+1) R)(E:P.bs nm=some c):
 (P.aL (Aa nm)).1=0/\Cm (P.aL (Aa nm)).2 N R/\∀m,(P.aL (Aa nm)).2.bs m=if m=nm then none else P.bs m:=by
 obtain⟨k,d⟩:=It E;obtain⟨z,y,H⟩:=h.aL d;refine⟨z,y,λm=>?_⟩;unfold PD.bs;rw[H m];split<;>rfl
def Cm.dQ{c:Bs}{d:Bs}(h:Cm P (N+1) R)(J:P.bs d=some c)(y:nm≠[])(z:d≠nm):
 (P.aV (Aa d) (Aa nm)).1=0/\Cm (P.aV (Aa d) (Aa nm)).2 N R/\∀m,(P.aV (Aa d) (Aa nm)).2.bs m=if m=nm then some c else if m=d then none else P.bs m:=by
 obtain⟨k,E⟩:=It J;obtain⟨I,H,L⟩:=h.aV E y z;refine⟨I,H,λm=>?_⟩;unfold PD.bs;rw[L m];split
 ·rfl
 ·split<;>rfl
def Hm:P.DA nm=match P.bs nm with|some c=>(c,0)|none=>([],8):=by
 unfold PD.DA D6 PD.bs PD.fl;cases lookup P.D.A3 (Aa nm)<;>rfl
def MH:BV P.D P.F (Aa nm)=match P.bs nm with|some c=>((c.length:Int),0)|none=>(0,8):=by
 unfold BV PD.bs PD.fl;cases lookup P.D.A3 (Aa nm)<;>rfl
def HU(s:Nat)(l:Bs):(Ba s l).length=l.length+4:=by simp[Ba,EY]
def Cm.aa{c:Bs}(h:Cm P (N+1) R)(y:P.bs nm=some c)(s:Nat)(l:Bs)(hl:l.length+4<=R):
 (P.aa (Aa nm) s l).1=true/\(P.aa (Aa nm) s l).2.1=0/\Cm (P.aa (Aa nm) s l).2.2 N (R-(l.length+4))/\∀m,(P.aa (Aa nm) s l).2.2.bs m=if m=nm then some (c++Ba s l) else P.bs m:=by
 have E:=HU s l;obtain⟨H,d,z⟩:=h.dz y (Ba s l) (by omega);rw[E]at d;refine⟨?_,H,d,z⟩;show FN P.D P.F (Aa nm) (Ba s l)=true;unfold FN;have e:=@MH (P.aw (Aa nm) (Ba s l)).2 nm;have I:BV (B6 P.D P.F (Aa nm) ⟨(Ba s l).toArray⟩).2.1 (B6 P.D P.F (Aa nm) ⟨(Ba s l).toArray⟩).2.2 (Aa nm)=BV (P.aw (Aa nm) (Ba s l)).2.D (P.aw (Aa nm) (Ba s l)).2.F (Aa nm):=rfl;rw[I,e,z nm,MH,y];simp only[BM,B2];simp only[De];omega
def Cm.aI(h:Cm P (N+3) R)(L:P.bs nm=none)(d:nm≠[])(s:Nat)(l:Bs)(H:l.length+4<=R):
 (P.aI nm s l).1=0/\Cm (P.aI nm s l).2 N (R-(l.length+4))/\∀m,(P.aI nm s l).2.bs m=if m=nm then some (Ba s l) else P.bs m:=by
 obtain⟨I,J,y⟩:=Cm.ch (N:=N+2) h L d;obtain⟨-,E,O,z⟩:=Cm.aa (N:=N+1) (nm:=nm) (c:=[]) J (by rw[y];simp) s l H;obtain⟨c1,c2,c3⟩:=Cm.cy (N:=N) (nm:=nm) (c:=Ba s l) O (by rw[z];simp);unfold PD.aI;rw[Ad (by simp[I]),Ad (by simp[E])];refine⟨c1,c2,λm=>?_⟩;rw[c3,z,y];split
 ·simp
 ·rfl
def Oc(s:Nat)(l:Bs):Fj s (Ba s l)=some l:=by
 unfold Fj;have hp:=HU s l;have d:(Ba s l).length-4=l.length:=by omega
 rw[Ad (by omega),d];have y:(Ba s l).take l.length=l:=by simp[Ba]
 have h:(Ba s l).drop l.length=Bm (Ay s l):=by simp[Ba]
 rw[y,h,Am rfl]
def Po{l:Bs}(h:P.bs nm=some (Ba (AB nm) l)):P.aO nm=(l,0):=by
 unfold PD.aO;rw[Hm,h];simp[Oc]
def Pp(h:P.bs nm=none):P.aO nm=([],8):=by
 unfold PD.aO;rw[Hm,h];simp
def Cm.aJ:∀(l:List Bs) {P:PD},Cm P (N+l.length) R->(∀m∈l,P.bs m≠none)->(PD.aJ l P).1=0/\Cm (PD.aJ l P).2 N R/\∀m,(PD.aJ l P).2.bs m=P.bs m
 | [],P,h,_=>⟨rfl,h,λ_=>rfl⟩
 | x::r,P,h,hm=>by
  obtain⟨c,L⟩:=Ng.1 (hm x (Ce ..));obtain⟨E,H,y⟩:=Cm.cy (N:=N+r.length) (by simpa[Nat.add_assoc] using h) L;obtain⟨z,I,J⟩:=Cm.aJ r H λm d=>by rw[y];exact hm m (BK _ d)
  unfold PD.aJ;rw[Ad (by simp[E])];exact⟨z,I,λm=>by rw[J,y]⟩
def Cm.aS:∀(l:List Bs) {P:PD},Cm P (N+l.length) R->l.Nodup->(∀m∈l,P.bs m≠none)->(PD.aS l P).1=0/\Cm (PD.aS l P).2 N R/\∀m,(PD.aS l P).2.bs m=if m∈l then none else P.bs m
 | [],P,h,_,_=>⟨rfl,h,λm=>by simp[PD.aS]⟩
 | x::r,P,h,hn,hm=>by
  have d:=Nt.1 hn;obtain⟨c,O⟩:=Ng.1 (hm x (Ce ..));obtain⟨H,I,z⟩:=Cm.dZ (N:=N+r.length) (by simpa[Nat.add_assoc] using h) O;obtain⟨E,J,L⟩:=Cm.aS r I d.2 λm y=>by
   (have e:m≠x:=λe=>by subst e;exact d.1 y);rw[z,Ad e];exact hm m (BK _ y)
  unfold PD.aS;rw[Ad (by simp[H])];refine⟨E,J,λm=>?_⟩;rw[L,z];by_cases e:m=x
  ·subst e;simp
  ·simp[e]
end
def RH(l:List Int):(l.flatMap AG).length=8*l.length:=by
 induction l with
 | nil=>rfl
 | cons n t ih=>rw[Kj,B2,ih,CO,Cr];omega
structure TB (ix:Ix):Prop where
 BR:isNum ix.BR=true
 A6:∀n∈ix.A6,isNum n=true
 Ha:BQ Bo ix.A6=true
def Mn{n:Int}(h:isNum n=true):AE n:=by
 unfold isNum at h;simp at h;constructor<;>omega
def Rx:indexOf ([],8)=some ⟨1,[]⟩:=by simp[indexOf]
def G0(p:Pu):(AW p.1 p.2.1 p.2.2).length=17:=by simp[AW,CO]
def Lt{p:Pu}(h:Cw p)(r:Bs):HR (AW p.1 p.2.1 p.2.2++r)=p/\((AW p.1 p.2.1 p.2.2++r).headD 0).toNat<8:=by
 obtain⟨a,t,v⟩:=p;obtain⟨⟨I,H⟩,y,d⟩:=h;dsimp only at I H y d ⊢;have E:=CO t;have z:((UInt8.ofNat (a % 256).toNat).toNat:Int)=a:=by
  have:(a % 256).toNat=a.toNat:=by omega
  rw[this];simp;omega
 unfold HR AW;simp only[Fc,List.headD_cons,Dh,Da,CQ];rw[z,JC t y,Ts (by rw[E]),JC v d];exact⟨rfl,by omega⟩
def L6:∀(l:List Pu) (k:Nat),(∀p∈l,Cw p)->l.length<k->Dj k (BX l)=some (l,[])
 | [],k,_,hk=>by
  cases k with
  | zero=>simp at hk
  | succ k=>simp[Dj,BX]
 | p::t,k,hp,hk=>by
  cases k with
  | zero=>simp at hk
  | succ k=>
   (have e:BX (p::t)=AW p.1 p.2.1 p.2.2++BX t:=by simp[BX]);obtain⟨y,h⟩:=Lt (hp p (Ce ..)) (BX t);have d:=G0 p;rw[e];unfold Dj;rw[Ad (by simp[d]),Am h,Ts (by rw[d]),L6 t k (λx z=>hp x (BK _ z)) (by simp at hk;omega),y];rfl
def Jh(l:List Pu):(BX l).length=17*l.length:=by
 induction l with
 | nil=>rfl
 | cons p t ih=>
  have e:BX (p::t)=AW p.1 p.2.1 p.2.2++BX t:=by simp[BX]
  rw[e,B2,ih,G0,Cr];omega
def OV{l:List Pu}(h:∀p∈l,Cw p)(d:BQ BI l=true):FZ (BX l,0)=some l:=by
 unfold FZ;dsimp only
 rw[Ad (by decide)];cases l with
 | nil=>simp[BX,Dj,d]
 | cons p t=>
  rw[L6 (p::t) _ h (by rw[Jh];simp)];simp[d]
def E3:Nat->List Pu->Bs
 | _,[]=>[]
 | s,p::r=>Ba s (AW p.1 p.2.1 p.2.2)++E3 (Ay s (AW p.1 p.2.1 p.2.2)) r
def G5:Nat->List Pu->Nat
 | s,[]=>s
 | s,p::r=>G5 (Ay s (AW p.1 p.2.1 p.2.2)) r
def M9:∀(l:List Pu) (s:Nat) (p:Pu),E3 s (l++[p])=E3 s l++Ba (G5 s l) (AW p.1 p.2.1 p.2.2)/\G5 s (l++[p])=Ay (G5 s l) (AW p.1 p.2.1 p.2.2)
 | [],s,p=>by simp[E3,G5]
 | x::r,s,p=>by
  obtain⟨h,d⟩:=M9 r (Ay s (AW x.1 x.2.1 x.2.2)) p;simp only[Fc,E3,G5,h,d,CQ,and_self]
def Ma:∀(l:List Pu) (s:Nat),(E3 s l).length=21*l.length
 | [],_=>rfl
 | p::r,s=>by
  simp only[E3,B2,HU,G0,Ma r,Cr];omega
def Lm:∀(l:List Pu) (s k:Nat) (t:Bs),(∀p∈l,Cw p)->l.length<k->t.length<21->CN k s (E3 s l++t)=(l,true)
 | [],s,k,t,_,_,ht=>by simp only[E3,Ej];exact Ll ht
 | p::r,s,k,t,hp,hk,ht=>by
  cases k with
  | zero=>simp at hk
  | succ k=>
   have y:=hp p (Ce ..);have h17:=G0 p;have H:=Lm r (Ay s (AW p.1 p.2.1 p.2.2)) k t (λx I=>hp x (BK _ I)) (by simp at hk;omega) ht;obtain⟨E,z⟩:=Lt y [];have d:AW p.1 p.2.1 p.2.2=UInt8.ofNat (p.1 % 256).toNat::(AG p.2.1++AG p.2.2):=rfl;simp only[EI]at E z;have e:E3 s (p::r)++t=UInt8.ofNat (p.1 % 256).toNat::(AG p.2.1++AG p.2.2)++Bm (Ay s (AW p.1 p.2.1 p.2.2))++(E3 (Ay s (AW p.1 p.2.1 p.2.2)) r++t):=by
    simp only[E3,Ba,d,CQ]
   rw[e,Lo (by simp[CO]) (EY _) (by rw[<-d]) (by rw[d]at z;exact z)];rw[<-d,H];have h:=E;unfold HR at h;rw[d]at h;simp only[List.headD_cons,Dh,Da]at h;rw[h]
def Fq(nm:Bs)(ahead:Int)(l:List Pu):Bs:=Ba (AB nm) (AG ahead)++E3 (Ay (AB nm) (AG ahead)) l
def FI(nm:Bs)(ahead:Int)(l:List Pu):Nat:=G5 (Ay (AB nm) (AG ahead)) l
def QF(nm:Bs)(ahead:Int)(l:List Pu)(p:Pu):Fq nm ahead (l++[p])=Fq nm ahead l++Ba (FI nm ahead l) (AW p.1 p.2.1 p.2.2)/\FI nm ahead (l++[p])=Ay (FI nm ahead l) (AW p.1 p.2.1 p.2.2):=by
 obtain⟨h,d⟩:=M9 l (Ay (AB nm) (AG ahead)) p;unfold Fq FI;rw[h,d,CQ];exact⟨rfl,rfl⟩
def Pw(nm:Bs)(ahead:Int)(l:List Pu)(t:Bs)(h:AE ahead)(d:∀p∈l,Cw p)(y:t.length<21):FD (AB nm) ahead (Fq nm ahead l++t)=(l,0):=by
 have e:Fq nm ahead l++t=AG ahead++Bm (Ay (AB nm) (AG ahead))++(E3 (Ay (AB nm) (AG ahead)) l++t):=by
  simp only[Fq,Ba,CQ]
 rw[e,Lp (CO _) (EY _)];have z:B1 (AG ahead)=ahead:=by have:=JC ahead h [];simpa using this
 rw[Am ⟨rfl,z⟩,Lm l _ _ t d (by rw[B2,Ma];omega) y];simp
section
variable {P:PD} {n ahead:Int}
def QB{c:Bs}(h:P.bs (Ai n)=some c):P.aR n ahead=FD (AB (Ai n)) ahead c:=by
 have d:=@Hm P (Ai n);unfold PD.DA at d;rw[h]at d;unfold PD.aR Fk;have e:D6 P.D P.F ⟨(Ai n).toArray⟩=(c,0):=d;rw[e];simp
def Mw(d:P.bs AF=none):P.aT=some ⟨1,[]⟩:=by
 unfold PD.aT;rw[Pp d,Rx]
def OR{l:List Pu}(h:∀p∈l,Cw p)(y:BQ BI l=true)(d:P.bs (AJ n)=some (Ba (AB (AJ n)) (BX l))):P.CY n=some l:=by
 unfold PD.CY;rw[Po d,OV h y]
def Qz{l:List Pu}{t:Bs}(d:AE ahead)(h:∀p∈l,Cw p)(y:t.length<21)(z:P.bs (Ai n)=some (Fq (Ai n) ahead l++t)):P.aR n ahead=(l,0):=by
 rw[QB z,Pw _ _ _ _ d h y]
end
def I1(n:Int):Ai n=108::(Lib.repeatL [48] (19-(Lib.itoa n).length)++Lib.itoa n):=by simp[Ai,B9,D0,C6]
def Hg(n:Int):AJ n=115::(Lib.repeatL [48] (19-(Lib.itoa n).length)++Lib.itoa n):=by simp[AJ,B9,D0,C6]
def M3{lt:Bs}{a b:Int}(d:isNum a=true)(z:isNum b=true)(h:D0 lt a=D0 lt b):a=b:=by
 unfold isNum at d z;simp at d z;have y:=I4 lt (n:=a) (by omega) (by omega);have E:=I4 lt (n:=b) (by omega) (by omega);rw[h,E]at y;simpa using y.symm
def Gy{a b:Int}(d:isNum a=true)(y:isNum b=true)(h:Ai a=Ai b):a=b:=M3 (lt:=C6 1) d y (by simpa[Ai,B9] using h)
def I0{a b:Int}(d:isNum a=true)(y:isNum b=true)(h:AJ a=AJ b):a=b:=M3 (lt:=C6 2) d y (by simpa[AJ,B9] using h)
def GD(a b:Int):Ai a≠AJ b:=by rw[I1,Hg];simp
def I7(a:Int):Ai a≠AF:=by rw[I1];simp[AF]
def J8(a:Int):AJ a≠AF:=by rw[Hg];simp[AF]
def QD(a:Int):Ai a≠Cu:=by rw[I1];simp[Cu]
def L5(a:Int):AJ a≠Cu:=by rw[Hg];simp[Cu]
def Mz:AF≠Cu:=by simp[AF,Cu]
def LU{n:Int}(h:isNum n=true):Bg (Ai n)=(1,n):=by
 have d:1<=n/\n<=4611686018427387904:=by unfold isNum at h;simpa using h
 unfold Bg;have e:Dp [108] (Ai n)=some n:=by
  have:=I4 (C6 1) (n:=n) (by omega) d.2;simpa[Ai,B9,C6] using this
 rw[e]
def Jr{c d:UInt8}{r:Bs}(h:c≠d):Dp [c] (d::r)=none:=by
 cases hx:Dp [c] (d::r) with
 | none=>rfl
 | some v=>have:=(I3 hx).2;simp[D0]at this;exact absurd this.1 h
def Qp{n:Int}(h:isNum n=true):Bg (AJ n)=(2,n):=by
 have d:1<=n/\n<=4611686018427387904:=by unfold isNum at h;simpa using h
 have e:Dp [115] (AJ n)=some n:=by
  have:=I4 (C6 2) (n:=n) (by omega) d.2;simpa[AJ,B9,C6] using this
 have y:Dp [108] (AJ n)=none:=by rw[Hg];exact Jr (by decide)
 unfold Bg FG;rw[y,e]
def Qr:Bg AF=(3,0):=by
 have h:Dp [108] AF=none:=Jr (by decide);have d:Dp [115] AF=none:=Jr (by decide);unfold Bg FG;rw[h,d];simp[Fp]
def QC(a:Int):Ai a≠[]:=by rw[I1];simp
def OS(a:Int):AJ a≠[]:=by rw[Hg];simp
def Et(P:PD):Int->List (Int×List Pu)->Prop
 | _,[]=>True
 | a,x::r=>P.aR x.1 a=(x.2,0)/\Et P (a+x.2.length) r
def Bf(l:List (Int×List Pu)):List Pu:=l.flatMap (·.2)
def Nd(P:PD)(j:Jn)(cl:List (Int×List Pu)):Option (List Pu)->Prop
 | none=>j.AA=none/\j.Ah=cl.map (·.1)
 | some l=>j.AA=some (j.A9,FI (Ai j.A9) j.Ag l)/\j.Ah=cl.map (·.1)++[j.A9]/\P.bs (Ai j.A9)=some (Fq (Ai j.A9) j.Ag l)/\(∀p∈l,Cw p)/\isNum j.A9=true
structure Lay (P:PD) (A:Ar) (sg cl:List (Int×List Pu)) (ol:Option (List Pu)):Prop where
 Fu:TB A.ix
 ix:(P.bs AF=none/\A.ix=⟨1,[]⟩)\/P.bs AF=some (Ba (AB AF) (Db A.ix.BR A.ix.A6))
 A6:sg.map (·.1)=A.ix.A6
 CY:∀x∈sg,((∀p∈x.2,Cw p)/\BQ BI x.2=true)/\P.bs (AJ x.1)=some (Ba (AB (AJ x.1)) (BX x.2))
 Ez:∀x∈cl,(isNum x.1=true/\x.1<=A.j.A9)/\∀p∈x.2,Cw p
 Ir:∀x∈cl,ol≠none->x.1≠A.j.A9
 G7:(∀x∈cl,A.ix.BR<=x.1)/\(ol≠none->A.ix.BR<=A.j.A9)
 Ah:Et P 0 cl
 Ga:A.j.Ag=((Bf cl).length:Int)
 AA:Nd P A.j cl ol
 DH:0<=A.j.A9/\A.ix.BR<=A.j.A9+1/\∀n,isNum n=true->P.bs (Ai n)≠none->n<=A.j.A9
 DE:0<=A.A9/\∀n,isNum n=true->P.bs (AJ n)≠none->n<=A.A9
 AS:∀nm∈A.AS,P.bs nm≠none
 Ia:A.j.Ah.Pairwise (· < ·)
 I2:∀nm,P.bs nm≠none->(Bg nm).1≠0
 I6:∀n,isNum n=true->A.ix.BR<=n->P.bs (Ai n)≠none->n∈A.j.Ah
def Ci(sg cl:List (Int×List Pu))(ol:Option (List Pu)):List Pu:=Bf sg++(Bf cl++ol.getD [])
section
variable {P P':PD} {A:Ar} {sg cl:List (Int×List Pu)} {ol:Option (List Pu)} {N R:Nat}
def Et.au(d:∀m,P'.bs m=P.bs m):∀ {a:Int} {l:List (Int×List Pu)},Et P a l->Et P' a l
 | _,[],_=>trivial
 | a,x::r,h=>by
  obtain⟨z,y⟩:=h;refine⟨?_,y.au d⟩;rw[<-z];unfold PD.aR Fk;have e:∀Q:PD,D6 Q.D Q.F ⟨(Ai x.1).toArray⟩=match Q.bs (Ai x.1) with|some c=>(c,0)|none=>([],8):=λQ=>@Hm Q (Ai x.1)
  rw[e P',e P,d]
def QA{n:Int}(d:P'.bs (Ai n)=P.bs (Ai n))(a:Int):P'.aR n a=P.aR n a:=by
 unfold PD.aR Fk;have e:∀Q:PD,D6 Q.D Q.F ⟨(Ai n).toArray⟩=match Q.bs (Ai n) with|some c=>(c,0)|none=>([],8):=λQ=>@Hm Q (Ai n)
 rw[e P',e P,d]
def Et.b3:∀ {a:Int} {l:List (Int×List Pu)},Et P a l->(∀x∈l,P'.bs (Ai x.1)=P.bs (Ai x.1))->Et P' a l
 | _,[],_,_=>trivial
 | a,x::_,h,hb=>⟨(QA (hb x (Ce ..)) a).trans h.1,h.2.b3 λy d=>hb y (BK _ d)⟩
def Et.cf:∀ {a:Int} {l:List (Int×List Pu)} {x:Int×List Pu},Et P a l->P.aR x.1 (a+(Bf l).length)=(x.2,0)->Et P a (l++[x])
 | a,[],x,_,h=>⟨by simpa[Bf] using h,trivial⟩
 | a,y::r,x,h,h2=>⟨h.1,h.2.cf (by
  rw[<-h2];congr 1
  simp only[Bf,Kj,B2];omega)⟩
def Jf:∀ {l:List (Int×List Pu)} {d:List Pu},Et P d.length l->P.bd (l.map (·.1)) d=(d++Bf l,0)
 | [],d,_=>by simp[PD.bd,Bf]
 | x::r,d,h=>by
  obtain⟨y,z⟩:=h;simp only[ET,PD.bd];rw[y];dsimp only
  rw[Ad (by simp),Jf (by simpa using z)];simp[Bf,List.append_assoc]
def Lay.dC(h:Lay P A sg cl ol)(hl:(Bf cl).length<=1099511627776):AE A.j.Ag:=by rw[h.Ga];constructor<;>omega
def Lay.Ag(h:Lay P A sg cl ol)(y:(Bf cl).length<=1099511627776):P.Ag A.j.Ah=(Bf cl++ol.getD [],0):=by
 have d:=h.AA;unfold PD.Ag;cases ol with
 | none=>
  rw[d.2,Jf h.Ah];simp
 | some l=>
  obtain⟨-,E,z,H,h4⟩:=d
  have I:Et P 0 (cl++[(A.j.A9,l)]):=h.Ah.cf (by
   have:=h.Ga;rw[Int.zero_add,<-this]
   exact Qz (t:=[]) (h.dC y) H (by simp) (by simpa using z))
  have e:cl.map (·.1)++[A.j.A9]=(cl++[(A.j.A9,l)]).map (·.1):=by simp
  rw[E,e,Jf I];simp[Bf]
def Lay.b2(h:Lay P A sg cl ol):P.A6 A.ix.A6=some sg:=by
 rw[<-h.A6];have d:∀l:List (Int×List Pu),(∀x∈l,x∈sg)->P.A6 (l.map (·.1))=some l:=by
  intro l
  induction l with
  | nil=>intro _;rfl
  | cons x r ih=>
   intro z;obtain⟨⟨I,H⟩,J⟩:=h.CY x (z x (Ce ..));simp only[ET,PD.A6];rw[OR I H J];dsimp only
   rw[ih λy E=>z y (BK _ E)];rfl
 exact d sg λ_ h=>h
def Lay.au(h:Lay P A sg cl ol)(d:∀m,P'.bs m=P.bs m):Lay P' A sg cl ol:=by
 refine⟨h.Fu,by rw[d];exact h.ix,h.A6,λx y=>by rw[d];exact h.CY x y,h.Ez,h.Ir,h.G7,h.Ah.au d,h.Ga,?_,⟨h.DH.1,h.DH.2.1,λn E y=>h.DH.2.2 n E (by rw[<-d];exact y)⟩,
  ⟨h.DE.1,λn E y=>h.DE.2 n E (by rw[<-d];exact y)⟩,λnm z=>by rw[d];exact h.AS nm z,h.Ia,λnm z=>h.I2 nm (by rw[<-d];exact z),λn I H J=>h.I6 n I H (by rw[<-d];exact J)⟩
 have:=h.AA;cases ol with
 | none=>exact this
 | some l=>unfold Nd at this ⊢;rw[d];exact this
def Lay.ah(h:Lay P A sg cl ol)(I:Cm P (N+A.AS.length) R):(A.ah P).1=0/\(A.ah P).2.1 = {A with AS:=[]}/\Cm (A.ah P).2.2 N R/\(∀m,(A.ah P).2.2.bs m=P.bs m)/\Lay (A.ah P).2.2 {A with AS:=[]} sg cl ol:=by
 obtain⟨H,E,y⟩:=Cm.aJ A.AS I h.AS;have e:A.ah P=(0,{A with AS:=[]},(P.aJ A.AS).2):=by unfold Ar.ah;rw[Ad (by simp[H])]
 have d:=h.au y;rw[e];exact⟨rfl,rfl,E,y,⟨d.Fu,d.ix,d.A6,d.CY,d.Ez,d.Ir,d.G7,d.Ah,d.Ga,d.AA,d.DH,d.DE,λnm z=>(by cases z),d.Ia,d.I2,d.I6⟩⟩
def Lay.av(h:Lay P A sg cl none)(hc:Cm P (N+2) R)(hn:isNum (A.j.A9+1)=true)(hR:12<=R):
 (A.j.av P).1=0/\Cm (A.j.av P).2.2 N (R-12)/\Lay (A.j.av P).2.2 {A with j:=(A.j.av P).2.1} sg cl (some [])/\(A.j.av P).2.1.AA≠none:=by
 obtain⟨n,J⟩:∃n,A.j.A9+1=n:=⟨_,rfl⟩;have h0:P.bs (Ai n)=none:=by
  cases y:P.bs (Ai n) with
  | none=>rfl
  | some c=>have:=h.DH.2.2 n (J ▸ hn) (by rw[y];simp);omega
 obtain⟨a1,a2,Z⟩:=Cm.ch (N:=N+1) hc h0 (QC n);obtain⟨-,b1,U,W⟩:=Cm.aa (N:=N) (nm:=Ai n) (c:=[]) a2 (by rw[Z];simp) (AB (Ai n)) (AG A.j.Ag) (by rw[CO];omega);rw[CO]at U;have H:=h.AA;have e:A.j.av P=(0,⟨A.j.Ah++[n],n,A.j.Ag,some (n,Ay (AB (Ai n)) (AG A.j.Ag))⟩,((P.al (Aa (Ai n))).2.aa (Aa (Ai n)) (AB (Ai n)) (AG A.j.Ag)).2.2):=by
  unfold Jn.av;rw[J,Ad (by simp[a1])];dsimp only
  rw[Ad (by simp[b1])]
 rw[e];dsimp only
 have d:∀m,m≠Ai n->((P.al (Aa (Ai n))).2.aa (Aa (Ai n)) (AB (Ai n)) (AG A.j.Ag)).2.2.bs m=P.bs m:=λm I=>by rw[W,Ad I,Z,Ad I]
 have z:=W (Ai n);rw[Am rfl,Ej]at z;generalize ((P.al (Aa (Ai n))).2.aa (Aa (Ai n)) (AB (Ai n)) (AG A.j.Ag)).2.2=P2 at d z U;have E:=J ▸ hn;have L:∀x∈cl,x.1≠n:=λx y e=>by have:=(h.Ez x y).1.2;omega
 refine⟨rfl,U,⟨h.Fu,?_,h.A6,λx y=>?_,λx y=>?_,λx y _=>L x y,⟨h.G7.1,λ_=>by have:=h.DH.2.1;dsimp only;omega⟩,?_,h.Ga,?_,?_,?_,λnm I=>?_,?_,λnm I=>?_,λk Y h2 h3=>?_⟩,by simp⟩
 ·rw[d _ (I7 n).symm];exact h.ix
 ·rw[d _ (GD n x.1).symm];exact h.CY x y
 ·obtain⟨⟨c1,c2⟩,c3⟩:=h.Ez x y;exact⟨⟨c1,by dsimp only;omega⟩,c3⟩
 ·exact h.Ah.b3 λx y=>d _ λe=>L x y (Gy (h.Ez x y).1.1 E e)
 ·refine⟨rfl,by dsimp only;rw[H.2],?_,by simp,E⟩;dsimp only
  rw[z];simp[Fq,E3]
 ·refine⟨by have:=h.DH.1;dsimp only;omega,by have:=h.DH.2.1;dsimp only;omega,λk O y=>?_⟩;dsimp only
  by_cases e:Ai k=Ai n
  ·have:=Gy O E e;omega
  ·rw[d _ e]at y;have:=h.DH.2.2 k O y;omega
 ·refine⟨h.DE.1,λk O y=>h.DE.2 k O ?_⟩
  rwa [d _ (GD n k).symm]at y
 ·by_cases e:nm=Ai n
  ·subst e;rw[z];simp
  ·rw[d _ e];exact h.AS nm I
 ·dsimp only
  refine DU.2 ⟨h.Ia,by simp,λa ha b V=>?_⟩;simp at V;subst V;rw[H.2]at ha;obtain⟨x,y,rfl⟩:=DL.1 ha;have:=(h.Ez x y).1.2;omega
 ·by_cases e:nm=Ai n
  ·subst e;rw[LU E];simp
  ·rw[d _ e]at I;exact h.I2 nm I
 ·dsimp only
  by_cases e:Ai k=Ai n
  ·have:=Gy Y E e;subst this;simp
  ·rw[d _ e]at h3;exact F9 _ (h.I6 k Y h2 h3)
def Lay.aH{l:List Pu}(h:Lay P A sg cl (some l))(hc:Cm P (N+1) R)(p:Pu)(hp:Cw p)(hR:21<=R):
 (A.j.aH P p).1=true/\(A.j.aH P p).2.1=0/\Cm (A.j.aH P p).2.2.2 N (R-21)/\Lay (A.j.aH P p).2.2.2 {A with j:=(A.j.aH P p).2.2.1} sg cl (some (l++[p])):=by
 obtain⟨L,V,h3,h4,H⟩:=h.AA;obtain⟨n,hnn⟩:∃n,A.j.A9=n:=⟨_,rfl⟩;obtain⟨Z,Y,U,W⟩:=Cm.aa (N:=N) hc h3 (FI (Ai A.j.A9) A.j.Ag l) (AW p.1 p.2.1 p.2.2) (by rw[G0];omega);rw[G0]at U;obtain⟨q1,q2⟩:=QF (Ai A.j.A9) A.j.Ag l p;unfold Jn.aH;rw[L];dsimp only
 refine⟨Z,Y,U,?_⟩;have d:∀m,m≠Ai A.j.A9->(P.aa (Aa (Ai A.j.A9)) (FI (Ai A.j.A9) A.j.Ag l) (AW p.1 p.2.1 p.2.2)).2.2.bs m=P.bs m:=λm E=>by rw[W,Ad E]
 have z:=W (Ai A.j.A9);rw[Am rfl]at z;generalize (P.aa (Aa (Ai A.j.A9)) (FI (Ai A.j.A9) A.j.Ag l) (AW p.1 p.2.1 p.2.2)).2.2=P2 at d z U;refine⟨h.Fu,?_,h.A6,λx y=>?_,h.Ez,λx y _=>h.Ir x y (by simp),⟨h.G7.1,λ_=>h.G7.2 (by simp)⟩,?_,h.Ga,⟨?_,V,?_,?_,H⟩,⟨h.DH.1,h.DH.2.1,λk J y=>?_⟩,⟨h.DE.1,λk J y=>?_⟩,λnm E=>?_,h.Ia,λnm E=>?_,λk L O I=>?_⟩
 ·rw[d _ (I7 _).symm];exact h.ix
 ·rw[d _ (GD _ x.1).symm];exact h.CY x y
 ·exact h.Ah.b3 λx y=>d _ λe=>h.Ir x y (by simp) (Gy (h.Ez x y).1.1 H e)
 ·dsimp only;rw[q2]
 ·dsimp only;rw[z,q1]
 ·intro x y;rcases B3.1 y with y|y
  ·exact h4 x y
  ·simp at y;subst y;exact hp
 ·by_cases e:Ai k=Ai A.j.A9
  ·have:=Gy J H e;show k<=A.j.A9;omega
  ·rw[d _ e]at y;exact h.DH.2.2 k J y
 ·rw[d _ (GD _ k).symm]at y;exact h.DE.2 k J y
 ·by_cases e:nm=Ai A.j.A9
  ·subst e;rw[z];simp
  ·rw[d _ e];exact h.AS nm E
 ·by_cases e:nm=Ai A.j.A9
  ·subst e;rw[LU H];simp
  ·rw[d _ e]at E;exact h.I2 nm E
 ·by_cases e:Ai k=Ai A.j.A9
  ·have:=Gy L H e;subst this;show A.j.A9∈A.j.Ah;rw[V];simp
  ·rw[d _ e]at I;exact h.I6 k L O I
def Lay.aa(h:Lay P A sg cl ol)(W:Cm P (N+A.AS.length+3) R)(V:ol=none->isNum (A.j.A9+1)=true)(p:Pu)(L:Cw p)(hR:33<=R):
 (A.aa P p).1=true/\(A.aa P p).2.1=0/\Cm (A.aa P p).2.2.2 N (R-33)/\Lay (A.aa P p).2.2.2 (A.aa P p).2.2.1 sg cl (some (ol.getD []++[p]))/\(A.aa P p).2.2.1.AS=[]:=by
 obtain⟨s1,s2,s3,s4,H⟩:=h.ah (N:=N+3) (W.U (by omega) (Aw _));unfold Ar.aa;rw[Ad (by simp[s1])];dsimp only
 rw[s2];dsimp only
 generalize (A.ah P).2.2=P1 at s3 s4 H;cases ol with
 | none=>
  obtain⟨I,O,J,U⟩:=Lay.av (N:=N+1) H s3 (V rfl) (by omega);dsimp only at I O J U;obtain⟨E,z,d,y⟩:=J.aH (N:=N) O p L (by omega);dsimp only at E z d y;have e:A.j.aa P1 p=(A.j.av P1).2.1.aH (A.j.av P1).2.2 p:=by
   unfold Jn.aa;rw[Am h.AA.1,Ad (by simp[I])]
  rw[e];exact⟨E,z,d.U (Aw _) (by omega),y,rfl⟩
 | some l=>
  obtain⟨E,z,d,y⟩:=H.aH (N:=N) (s3.U (by omega) (Aw _)) p L (by omega);dsimp only at E z d y;have e:A.j.aa P1 p=A.j.aH P1 p:=by
   unfold Jn.aa;rw[Ad (by rw[h.AA.1];simp)]
  rw[e];exact⟨E,z,d.U (Aw _) (by omega),y,rfl⟩
end
def K0{x y:Int}:Bo x y<0↔x<y:=by
 unfold Bo;by_cases h:x<y
 ·simp[h]
 ·rw[Ad h];split<;>simp<;>omega
def HN:∀ {l:List Int},BQ Bo l=true↔l.Pairwise (· < ·)
 | []=>by simp[BQ]
 | [x]=>by simp[BQ]
 | x::y::r=>by
  have J:=@HN (y::r);simp only[BQ,Ek,De,K0,J];constructor
  ·rintro⟨I,H⟩;refine D3.2 ⟨λz d=>?_,H⟩;rcases Cf.1 d with rfl|d
   ·exact I
   ·exact Int.lt_trans I ((D3.1 H).1 z d)
  ·intro h;have E:=D3.1 h;exact⟨E.1 y (Ce ..),E.2⟩
def HZ{α:Type}[DecidableEq α]:∀ {l l':List α},l.Nodup->(∀x∈l,x∈l')->l.length<=l'.length
 | [],l',_,_=>by simp
 | x::r,l',h,hs=>by
  have d:=Nt.1 h;have E:=hs x (Ce ..);have ih:=HZ (l':=l'.erase x) d.2 λy z=>(List.mem_erase_of_ne (λe=>d.1 (by subst e;exact z))).2 (hs y (BK _ z))
  have hl:=List.length_erase_of_mem E;have:0<l'.length:=List.length_pos_of_mem E;simp only[Cr];omega
def C2:Int->List (List Pu)->List (Int×List Pu)
 | _,[]=>[]
 | last,l::r=>(last+1,l):: C2 (last+1) r
def FF:∀ {l:List (List Pu)} {last:Int} {x:Int×List Pu},x∈C2 last l->last<x.1/\x.1<=last+l.length/\x.2∈l
 | [],_,_,h=>by cases h
 | a::r,last,x,h=>by
  rcases Cf.1 h with rfl|h
  ·simp;omega
  ·obtain⟨h1,h2,d⟩:=FF h;simp only[Cr];exact⟨by omega,by omega,BK _ d⟩
def LG:∀ {l:List (List Pu)} {last:Int},((C2 last l).map (·.1)).Pairwise (· < ·)
 | [],_=>by simp[C2]
 | a::r,last=>by
  simp only[C2,ET];refine D3.2 ⟨λz h=>?_,LG⟩;obtain⟨x,d,rfl⟩:=DL.1 h;exact(FF d).1
def HY:∀ {l:List (List Pu)} {last:Int},(C2 last l).length=l.length
 | [],_=>rfl
 | a::r,last=>by simp[C2,HY]
def HW:∀ {l:List (List Pu)} {last:Int},Bf (C2 last l)=l.flatten
 | [],_=>rfl
 | a::r,last=>by
  have:=@HW r (last+1);unfold Bf at this ⊢;simp[C2,this]
def DF(l:List (List Pu)):Nat:=(l.map λx=>17*x.length+4).sum
section
variable {P P':PD} {A:Ar} {sg cl:List (Int×List Pu)} {ol:Option (List Pu)} {N R:Nat}
def Cm.aj:∀(fresh:List (List Pu)) (last:Int) (kept:List Int) {P:PD},Cm P (N+3*fresh.length) (R+DF fresh)->0<=last->last+fresh.length<=4611686018427387904->
 (∀n,isNum n=true->last<n->P.bs (AJ n)=none)->
 (PD.aj fresh last kept P).1=0/\(PD.aj fresh last kept P).2.1=last+fresh.length/\(PD.aj fresh last kept P).2.2.1=kept++(C2 last fresh).map (·.1)/\Cm (PD.aj fresh last kept P).2.2.2 N R/\
  (∀x∈C2 last fresh,(PD.aj fresh last kept P).2.2.2.bs (AJ x.1)=some (Ba (AB (AJ x.1)) (BX x.2)))/\
  ∀m,(∀x∈C2 last fresh,m≠AJ x.1)->(PD.aj fresh last kept P).2.2.2.bs m=P.bs m
 | [],last,kept,P,hc,h0,h1,hn=>⟨rfl,by simp[PD.aj],by simp[PD.aj,C2],by simpa[PD.aj,DF] using hc,⟨λx z=>by simp[C2]at z,λm _=>rfl⟩⟩
 | l::r,last,kept,P,hc,h0,h1,hn=>by
  simp only[Cr]at h1;have h:isNum (last+1)=true:=by unfold isNum;simp;omega
  have d:DF (l::r)=(17*l.length+4)+DF r:=by simp[DF]
  obtain⟨a1,W,H⟩:=Cm.aI (N:=N+3*r.length) (R:=R+DF (l::r)) (nm:=AJ (last+1)) (hc.U (by simp;omega) (Aw _)) (hn _ h (by omega)) (OS _) (AB (AJ (last+1))) (BX l) (by rw[Jh,d];omega);rw[Jh]at W;have J:=W.U (N':=N+3*r.length) (R':=R+DF r) (Aw _) (by rw[d];omega);obtain⟨Y,b2,b3,b4,Z,L⟩:=Cm.aj r (last+1) (kept++[last+1]) J (by omega) (by omega) λn O hlt=>by
   (have E:AJ n≠AJ (last+1):=λe=>by have:=I0 O h e;omega);rw[H,Ad E];exact hn n O (by omega)
  have e:PD.aj (l::r) last kept P=PD.aj r (last+1) (kept++[last+1]) (P.aK (last+1) l).2:=by
   conv=>lhs;unfold PD.aj
   rw[Ad (by unfold PD.aK;simp[a1])]
  have e2:(P.aK (last+1) l).2=(P.aI (AJ (last+1)) (AB (AJ (last+1))) (BX l)).2:=rfl;rw[e,e2];refine⟨Y,by rw[b2];simp only[Cr];omega,by rw[b3];simp[C2],b4,λx z=>?_,λm V=>?_⟩
  ·rcases Cf.1 z with rfl|z
   ·dsimp only
    rw[L _ λy U e=>?_,H,Am rfl];have U:=FF U;(have I:isNum y.1=true:=by unfold isNum;simp;omega);have:=I0 h I e;omega
   ·exact Z x z
  ·rw[L m λx z=>V x (BK _ z),H,Ad (V _ (Ce ..))]
def Hf{nm:Bs}:nm∈A.aY P↔P.bs nm≠none/\nm∉A.ad:=by
 unfold Ar.aY;rw[Gf,LQ];simp
def Cm.ax(z:Cm P N R){K M:Nat}(hK:(A.aY P).length<=K)(hN:N=M+K):(A.ax P).1=0/\Cm (A.ax P).2 M R/\∀m,(A.ax P).2.bs m=if m∈A.ad then P.bs m else none:=by
 obtain⟨H,E,I⟩:=Cm.aS (N:=M) (A.aY P) (z.U (by omega) (Aw _)) (NJ Gj z.bZ) λm d=>(Hf.1 d).1
 refine⟨H,E,λm=>?_⟩;show (PD.aS (A.aY P) P).2.bs m=_;rw[I];by_cases d:m∈A.ad
 ·rw[Ad (λh=>(Hf.1 h).2 d),Am d]
 ·rw[Ad d];by_cases y:P.bs m=none
  ·rw[y];simp
  ·rw[Am (Hf.2 ⟨y,d⟩)]
def Cm.ag(V:Cm P (N+4) R)(d:Int)(A6:List Int)(z:P.bs Cu=none)(hR:12+8*A6.length<=R):
 (P.ag d A6).1=0/\Cm (P.ag d A6).2 N (R-(12+8*A6.length))/\∀m,(P.ag d A6).2.bs m=if m=AF then some (Ba (AB AF) (Db d A6)) else P.bs m:=by
 have I:(Db d A6).length=8+8*A6.length:=by unfold Db;rw[B2,CO,RH]
 obtain⟨J,L,E⟩:=Cm.aI (N:=N+1) V z (by simp[Cu]) (AB AF) (Db d A6) (by omega);obtain⟨H,O,U⟩:=Cm.dQ (N:=N) (nm:=AF) L (by rw[E,Am rfl]) (by simp[AF]) Mz.symm;unfold PD.ag;rw[Ad (by simp[J])];refine⟨H,by have:=O;rw[I]at this;exact this.U (Aw _) (by omega),λm=>?_⟩;rw[U];by_cases h:m=AF
 ·simp[h]
 ·rw[Ad h,Ad h];by_cases y:m=Cu
  ·rw[Am y,y,z]
  ·rw[Ad y,E,Ad y]
def Lay.ef(h:Lay P A sg cl ol){x:Int×List Pu}(d:x∈sg):P.bs (AJ x.1)≠none:=by rw[(h.CY x d).2];simp
def Lay.b7(h:Lay P A sg cl ol){x:Int×List Pu}(d:x∈sg):isNum x.1=true:=h.Fu.A6 _ (by rw[<-h.A6];exact FR d)
def Lay.ca(h:Lay P A sg cl ol){x:Int×List Pu}(d:x∈sg):x.1<=A.A9:=h.DE.2 _ (h.b7 d) (h.ef d)
def Lay.ay(h:Lay P A sg cl ol){K:Nat}(L:List (Int×List Pu))(fresh:List (List Pu))(hc:Cm P (N+A.AS.length+K+3*fresh.length+8+A.j.Ah.length+sg.length+fresh.length) (R+DF fresh+12+8*(L.length+fresh.length)))(hK:P.ad.length<=K)(V:∀x∈L,x∈sg)(aL:(L.map (·.1)).Pairwise (· < ·))(hf:∀l∈fresh,(∀p∈l,Cw p)/\BQ BI l=true)(hn:isNum (A.j.A9+1)=true)(aY:A.A9+fresh.length<=4611686018427387904):
 (A.ay P (L.map (·.1)) fresh).1=0/\(A.ay P (L.map (·.1)) fresh).2.1=⟨⟨A.j.A9+1,(L++C2 A.A9 fresh).map (·.1)⟩,⟨[],A.j.A9,0,none⟩,A.A9+fresh.length,[]⟩/\Cm (A.ay P (L.map (·.1)) fresh).2.2 N R/\
  Lay (A.ay P (L.map (·.1)) fresh).2.2 (A.ay P (L.map (·.1)) fresh).2.1 (L++C2 A.A9 fresh) [] none/\
  (∀m,(A.ay P (L.map (·.1)) fresh).2.2.bs m≠none->m∈AF::(L++C2 A.A9 fresh).map λx=>AJ x.1):=by
 obtain⟨s1,s2,s3,s4,s5⟩:=h.ah (N:=N+K+3*fresh.length+8+A.j.Ah.length+sg.length+fresh.length) (R:=R+DF fresh+12+8*(L.length+fresh.length)) (hc.U (by omega) (Aw _));have aJ:(({A with AS:=[]}:Ar).aY (A.ah P).2.2).length<=K:=by
  refine Az ?_ hK;refine HZ (NJ Gj s3.bZ) λm I=>?_;rw[LQ,<-s4];exact(Hf.1 I).1
 obtain⟨w1,w2,w3⟩:=Cm.ax (A:={A with AS:=[]}) s3 (K:=K) (M:=N+3*fresh.length+8+A.j.Ah.length+sg.length+fresh.length) aJ (by omega);have H:∀m,m∈({A with AS:=[]}:Ar).ad↔m=AF\/(∃n∈A.j.Ah,m=Ai n)\/∃x∈sg,m=AJ x.1:=λm=>by
  unfold Ar.ad;dsimp only
  rw[<-h.A6];simp[eq_comm]
 have aH:∀n,isNum n=true->A.A9<n->(({A with AS:=[]}:Ar).ax (A.ah P).2.2).2.bs (AJ n)=none:=λn hk hlt=>by
  rw[w3];split
  ·rw[s4];cases d:P.bs (AJ n) with
   | none=>rfl
   | some c=>have:=h.DE.2 n hk (by rw[d];simp);omega
  ·rfl
 obtain⟨g1,g2,g3,g4,g5,g6⟩:=Cm.aj (N:=N+8+A.j.Ah.length+sg.length+fresh.length) (R:=R+12+8*(L.length+fresh.length)) fresh A.A9 (L.map (·.1)) (w2.U (by omega) (by omega)) h.DE.1 aY aH;generalize a0:(({A with AS:=[]}:Ar).ax (A.ah P).2.2).2=P1 at w3 aH g1 g2 g3 g4 g5 g6;generalize a1:(PD.aj fresh A.A9 (L.map (·.1)) P1).2.2.2=P2 at g4 g5 g6;obtain⟨O,Z⟩:∃O,L++C2 A.A9 fresh=O:=⟨_,rfl⟩;have aG:O.map (·.1)=L.map (·.1)++(C2 A.A9 fresh).map (·.1):=by rw[<-Z,Fa]
 have aT:O.length=L.length+fresh.length:=by rw[<-Z,B2,HY]
 have aM:P2.bs Cu=none:=by
  rw[g6 _ λx _=>(L5 x.1).symm,w3,Ad];rw[H];rintro (e|⟨n,_,e⟩|⟨x,_,e⟩)
  ·exact Mz e.symm
  ·exact QD n e.symm
  ·exact L5 x.1 e.symm
 have Y:∀x∈O,isNum x.1=true:=λx d=>by
  rw[<-Z]at d;rcases B3.1 d with d|d
  ·exact h.b7 (V x d)
  ·have:=FF d;have:=h.DE.1;unfold isNum;simp;omega
 have aV:∀x∈O,x.1<=A.A9+fresh.length:=λx d=>by
  rw[<-Z]at d;rcases B3.1 d with d|d
  ·have:=h.ca (V x d);omega
  ·have:=FF d;omega
 have aE:(O.map (·.1)).Pairwise (· < ·):=by
  rw[aG];refine DU.2 ⟨aL,LG,λa ha b hb=>?_⟩;obtain⟨x,d,rfl⟩:=DL.1 ha;obtain⟨y,hy,rfl⟩:=DL.1 hb;have W:=h.ca (V x d);have U:=FF hy;omega
 have aB:∀x∈O,((∀p∈x.2,Cw p)/\BQ BI x.2=true)/\P2.bs (AJ x.1)=some (Ba (AB (AJ x.1)) (BX x.2)):=λx d=>by
  rw[<-Z]at d;rcases B3.1 d with d|d
  ·have aX:=h.CY x (V x d);refine⟨aX.1,?_⟩;rw[g6 _ λy hy e=>?_,w3,Am ((H _).2 (.inr (.inr ⟨x,V x d,rfl⟩))),s4,aX.2];have U:=FF hy;have h3:=h.DE.1;have:=I0 (h.b7 (V x d)) (by unfold isNum;simp;omega) e;have W:=h.ca (V x d);omega
  ·exact⟨hf _ (FF d).2.2,g5 x d⟩
 have aK:∃aA,(({A with AS:=[],A9:=A.A9+fresh.length}:Ar).ag P2 (O.map (·.1)))=(0,⟨⟨A.j.A9+1,O.map (·.1)⟩,⟨[],A.j.A9,0,none⟩,A.A9+fresh.length,[]⟩,aA)/\Cm aA (N+4+A.j.Ah.length+sg.length+fresh.length) R/\((aA.bs AF=none/\A.j.A9=0/\O=[])\/aA.bs AF=some (Ba (AB AF) (Db (A.j.A9+1) (O.map (·.1)))))/\∀m,m≠AF->aA.bs m=P2.bs m:=by
  unfold Ar.ag;dsimp only
  by_cases z:A.ix.BR=A.j.A9+1/\A.ix.A6=O.map (·.1)
  ·rw[Am z];have aO:cl=[]:=by
    cases aO:cl with
    | nil=>rfl
    | cons x r=>
     (have d:x∈cl:=by rw[aO];exact Ce ..);have W:=h.G7.1 x d;have U:=(h.Ez x d).1.2;have:=z.1;omega
   have aZ:ol=none:=by
    cases ol with
    | none=>rfl
    | some l=>have:=h.G7.2 (by simp);have:=z.1;omega
   subst aO aZ;have hj:A.j=⟨[],A.j.A9,0,none⟩:=by
    have W:=h.AA;have U:=h.Ga;(have e:∀j:Jn,j.AA=none->j.Ah=[]->j.Ag=0->j=⟨[],j.A9,0,none⟩:=λj a b c=>by cases j;simp_all);exact e _ W.1 (by simpa using W.2) (by simpa[Bf] using U)
   have hi:A.ix=⟨A.j.A9+1,O.map (·.1)⟩:=by
    have e:∀i:Ix,i=⟨i.BR,i.A6⟩:=λi=>rfl;rw[e A.ix,z.1,z.2]
   refine⟨P2,?_,g4.U (by omega) (by omega),?_,λ_ _=>rfl⟩
   ·conv=>lhs;rw[hj,hi]
   ·rw[g6 _ λx _=>(J8 x.1).symm,w3,Am ((H _).2 (.inl rfl)),s4];rcases h.ix with⟨W,U⟩|U
    ·rw[U]at z;exact .inl ⟨W,by have:=z.1;dsimp only at this;omega,by simpa using z.2⟩
    ·exact .inr (by rw[U,z.1,z.2])
  ·rw[Ad z];obtain⟨t1,t2,t3⟩:=Cm.ag (N:=N+4+A.j.Ah.length+sg.length+fresh.length) (R:=R+12+8*O.length) (g4.U (by omega) (by rw[aT];omega)) (A.j.A9+1) (O.map (·.1)) aM (by simp);rw[Ad (by simp[t1])];refine⟨_,rfl,t2.U (Aw _) (by simp;omega),.inr (by rw[t3,Am rfl]),λm I=>by rw[t3,Ad I]⟩
 obtain⟨aA,t1,t2,t3,t4⟩:=aK;have aS:∀m,aA.bs m≠none->m=AF\/(∃n∈A.j.Ah,m=Ai n)\/(∃x∈sg,m=AJ x.1)\/∃x∈C2 A.A9 fresh,m=AJ x.1:=λm I=>by
  by_cases e:m=AF
  ·exact .inl e
  ·rw[t4 m e]at I;by_cases e2:∃x∈C2 A.A9 fresh,m=AJ x.1
   ·exact .inr (.inr (.inr e2))
   ·rw[g6 m λx d e3=>e2 ⟨x,d,e3⟩,w3]at I;by_cases e3:m∈({A with AS:=[]}:Ar).ad
    ·rcases(H m).1 e3 with h|h|h
     ·exact .inl h
     ·exact .inr (.inl h)
     ·exact .inr (.inr (.inl h))
    ·rw[Ad e3]at I;exact absurd rfl I
 obtain⟨aD,aF⟩:∃aD:Ar,(⟨⟨A.j.A9+1,O.map (·.1)⟩,⟨[],A.j.A9,0,none⟩,A.A9+fresh.length,[]⟩:Ar)=aD:=⟨_,rfl⟩;have E:∀m,m∈aD.ad↔m=AF\/∃x∈O,m=AJ x.1:=λm=>by
  rw[<-aF];unfold Ar.ad;dsimp only;simp[eq_comm]
 have aN:(aD.aY aA).length<=1+A.j.Ah.length+sg.length+fresh.length:=by
  have W:(aD.aY aA).length<=(AF::(A.j.Ah.map Ai++(sg.map (λx=>AJ x.1)++(C2 A.A9 fresh).map λx=>AJ x.1))).length:=
   HZ (NJ Gj t2.bZ) λm I=>by
    rcases aS m (Hf.1 I).1 with h|⟨n,W,U⟩|⟨n,W,U⟩|⟨n,W,U⟩
    ·subst h;exact Ce ..
    ·subst U;exact BK _ (F9 _ (FR W))
    ·subst U;exact BK _ (GV _ (F9 _ (DL.2 ⟨n,W,rfl⟩)))
    ·subst U;exact BK _ (GV _ (GV _ (DL.2 ⟨n,W,rfl⟩)))
  simp only[Cr,B2,Gh,HY]at W;omega
 obtain⟨v1,v2,v3⟩:=Cm.ax (A:=aD) (t2.U (N':=N+1+(1+A.j.Ah.length+sg.length+fresh.length)) (by omega) (Aw _)) aN (M:=N+1) (by omega);obtain⟨d1,d2,d3⟩:=Cm.da (N:=N) v2;obtain⟨aP,aU⟩:∃aP,(aD.ax aA).2.aM.2=aP:=⟨_,rfl⟩;have aW:A.ay P (L.map (·.1)) fresh=(0,aD,aP):=by
  unfold Ar.ay;dsimp only
  rw[Ad (by simp[s1]),s2,Ad (by simp[w1]),a0];dsimp only
  rw[Ad (by simp[g1]),g2,g3,a1,<-aG,t1,aF];dsimp only
  rw[Ad (by simp)];unfold Ar.ba;rw[Ad (by simp[v1]),d1,aU]
 rw[aU]at d2 d3;have J:∀m,aP.bs m=if m∈aD.ad then aA.bs m else none:=λm=>by rw[d3,v3]
 have aI:∀x∈O,aP.bs (AJ x.1)=some (Ba (AB (AJ x.1)) (BX x.2)):=λx d=>by
  rw[J,Am ((E _).2 (.inr ⟨x,d,rfl⟩)),t4 _ (J8 _)];exact(aB x d).2
 have aR:aP.bs AF=aA.bs AF:=by rw[J,Am ((E _).2 (.inl rfl))]
 rw[aW];dsimp only
 rw[Z];refine⟨rfl,aF.symm,d2,?_,λm I=>?_⟩
 ·rw[<-aF];refine⟨⟨hn,λn I=>?_,HN.2 aE⟩,?_,rfl,λx d=>⟨(aB x d).1,aI x d⟩,λx d=>(by cases d),λx d=>(by cases d),⟨λx d=>(by cases d),λh=>absurd rfl h⟩,trivial,rfl,⟨rfl,rfl⟩,⟨h.DH.1,Int.le_refl _,λn hk d=>?_⟩,⟨by have:=h.DE.1;dsimp only;omega,λn hk d=>?_⟩,λnm I=>(by cases I),List.Pairwise.nil,λnm I=>?_,λn hk _ d=>?_⟩
  ·obtain⟨x,d,rfl⟩:=DL.1 I;exact Y x d
  ·rw[aR];rcases t3 with⟨q1,q2,q3⟩|q
   ·exact .inl ⟨q1,by dsimp only;rw[q2,q3];rfl⟩
   ·exact .inr q
  ·rw[J,Ad]at d
   ·exact absurd rfl d
   ·rw[E];rintro (e|⟨x,_,e⟩)
    ·exact I7 n e
    ·exact GD n x.1 e
  ·rw[J]at d;split at d
   ·rename_i I;rcases(E _).1 I with e|⟨x,aQ,e⟩
    ·exact absurd e (J8 n)
    ·have:=I0 hk (Y x aQ) e;rw[this];exact aV x aQ
   ·exact absurd rfl d
  ·rw[J]at I;split at I
   ·rename_i U;rcases(E _).1 U with e|⟨x,d,e⟩
    ·subst e;rw[Qr];simp
    ·subst e;rw[Qp (Y x d)];simp
   ·exact absurd rfl I
  ·rw[J,Ad]at d
   ·exact absurd rfl d
   ·rw[E];rintro (e|⟨x,_,e⟩)
    ·exact I7 n e
    ·exact GD n x.1 e
 ·rw[J]at I;split at I
  ·rename_i U;rcases(E _).1 U with e|⟨x,d,e⟩
   ·subst e;exact Ce ..
   ·subst e;exact BK _ (DL.2 ⟨x,d,rfl⟩)
  ·exact absurd rfl I
end
def Bb(l:List Pu)(k t:Int):Option Int:=l.foldl (λo p=>if p.1=k/\p.2.1=t then some p.2.2 else o) none
def G6(l:List Pu)(p:Pu)(k t:Int):Bb (l++[p]) k t=if p.1=k/\p.2.1=t then some p.2.2 else Bb l k t:=by simp[Bb]
def QQ(l:List Pu)(k t:Int):∀o,l.foldl (λo p=>if p.1=k/\p.2.1=t then some p.2.2 else o) o=(Bb l k t).or o:=by
 induction l with
 | nil=>intro o;simp[Bb]
 | cons p r ih=>
  intro o;have h:=ih (if p.1=k/\p.2.1=t then some p.2.2 else o);have d:=ih (if p.1=k/\p.2.1=t then some p.2.2 else none);unfold Bb at h d ⊢;simp only[IM]at h d ⊢;rw[h,d];cases r.foldl (λo p=>if p.1=k/\p.2.1=t then some p.2.2 else o) none with
  | some x=>simp
  | none=>
   simp only[Option.none_or];split<;>simp
def Fs(a b:List Pu)(k t:Int):Bb (a++b) k t=(Bb b k t).or (Bb a k t):=by
 have:=QQ b k t (Bb a k t);unfold Bb at this ⊢;rw[NA,this]
def Md(l:List Pu)(k t:Int)(q:Pu->Bool)(z:∀p∈l,p.1=k->p.2.1=t->q p=true):Bb (l.filter q) k t=Bb l k t:=by
 induction l with
 | nil=>rfl
 | cons p r ih=>
  have d:=ih λx y=>z x (BK _ y);have e:∀x:Pu,∀l:List Pu,Bb (x::l) k t=(Bb l k t).or (Bb [x] k t):=λx l=>Fs [x] l k t;by_cases h:q p=true
  ·rw[FV h,e p r,e p (r.filter q),d]
  ·rw[GX h,e p r,d];have:¬(p.1=k/\p.2.1=t):=λy=>h (z p (Ce ..) y.1 y.2);simp[Bb,this]
def Mc{l:List Pu}{k t:Int}:Bb l k t=none↔∀p∈l,¬(p.1=k/\p.2.1=t):=by
 induction l with
 | nil=>simp[Bb]
 | cons p r ih=>
  have e:Bb (p::r) k t=(Bb r k t).or (Bb [p] k t):=Fs [p] r k t;rw[e,Option.or_eq_none_iff,ih];simp only[Cf,forall_eq_or_imp];constructor
  ·rintro⟨y,d⟩;exact⟨λh=>by simp[Bb,h]at d,y⟩
  ·rintro⟨y,d⟩;exact⟨d,by simp[Bb,y]⟩
def QP{l:List Pu}{k t v:Int}(h:Bb l k t=some v):(k,t,v)∈l:=by
 induction l with
 | nil=>cases h
 | cons p r ih=>
  have e:Bb (p::r) k t=(Bb r k t).or (Bb [p] k t):=Fs [p] r k t;rw[e]at h;cases hr:Bb r k t with
  | some x=>
   rw[hr]at h;simp at h;subst h;exact BK _ (ih hr)
  | none=>
   rw[hr]at h;simp only[Option.none_or]at h;by_cases d:p.1=k/\p.2.1=t
   ·simp[Bb,d]at h;obtain⟨a,b,c⟩:=p
    simp_all
   ·simp[Bb,d]at h
def FJ{len:Int}{p q:Pu}:AV len p q=true↔AY p.2.1 len<AY q.2.1 len\/AY p.2.1 len=AY q.2.1 len/\(p.1<q.1\/p.1=q.1/\p.2.1<q.2.1):=by simp[AV]
def QV{len:Int}{p q r:Pu}(h1:AV len p q=true)(h2:AV len q r=true):AV len p r=true:=by
 rw[FJ]at *;omega
def QY{len:Int}{p q:Pu}(h:AV len p q=true):¬(p.1=q.1/\p.2.1=q.2.1):=by
 rw[FJ]at h;rintro⟨h1,d⟩;rw[d]at h;omega
def MR{p q:Pu}:BI p q=0↔p.1=q.1/\p.2.1=q.2.1:=by
 have h:∀x y:Int,Bo x y=0↔x=y:=λx y=>by
  unfold Bo;by_cases d:x<y
  ·simp[d];omega
  ·by_cases z:y<x
   ·simp[d,z];omega
   ·simp[d,z];omega
 unfold BI;by_cases d:Bo p.1 q.1=0
 ·simp[h,(h _ _).1 d]
 ·simp only[Gz,d,Jp,BM,false_iff];exact λE=>d ((h _ _).2 E.1)
def Sh{p q:Pu}:BI p q<0↔p.1<q.1\/p.1=q.1/\p.2.1<q.2.1:=by
 unfold BI;by_cases h:p.1=q.1
 ·have:Bo p.1 q.1=0:=by rw[h];simp[Bo]
  rw[Ad (by simp[this]),K0];omega
 ·have:Bo p.1 q.1≠0:=by
   unfold Bo;by_cases d:p.1<q.1
   ·simp[d]
   ·rw[Ad d,Am (by omega)];simp
  rw[Am this,K0];omega
def QW{len:Int}{p q:Pu}(h:AY p.2.1 len=AY q.2.1 len)(z:AV len p q=false)(y:BI p q≠0):AV len q p=true:=by
 have d:¬(AV len p q=true):=by simp[z]
 rw[FJ]at d ⊢;rw[Gz,MR]at y;omega
def QX{len:Int}{p q:Pu}(h:AY p.2.1 len≠AY q.2.1 len)(y:AV len p q=false):AY q.2.1 len<AY p.2.1 len:=by
 have d:¬(AV len p q=true):=by simp[y]
 rw[FJ]at d;omega
def OI(len:Int)(h:BS (AV len))(l:List Pu)(k t:Int):Bb (D5 (AV len) l) k t=Bb l k t:=by
 have z:=h.bI l (k,t,0);have d:∀m:List Pu,∀p∈m,p.1=k->p.2.1=t->eqv (AV len) (k,t,0) p=true:=λm p _ E y=>by
  subst E y;simp[eqv,AV]
 rw[<-Md l k t _ (d l),<-Md (D5 (AV len) l) k t _ (d _),z]
structure WI (len:Int) (ws:List (List Pu)) (s:List Pu):Prop where
 Hn:ws.flatten.Pairwise (λa b=>AV len a b=true)
 A9:∀k t,Bb ws.flatten k t=Bb s k t
 DG:∀x∈ws.flatten,x∈s
 ne:∀w∈ws,w≠[]
 Gx:∀w∈ws,∀p∈w,∀q∈w,AY p.2.1 len=AY q.2.1 len
 Iw:ws.Pairwise λw w'=>∀p∈w,∀q∈w',AY p.2.1 len<AY q.2.1 len
 BF:ws.flatten.length<=s.length
def WI.cu{len:Int}{H:List (List Pu)}{s:List Pu}(h:WI len H s)(p:Pu)(L:∀x∈H.flatten,AY x.2.1 len<AY p.2.1 len):WI len (H++[[p]]) (s++[p]):=by
 have e:(H++[[p]]).flatten=H.flatten++[p]:=by simp
 have J:∀w∈H,∀x∈w,x∈H.flatten:=λw d x z=>Nu.2 ⟨w,d,z⟩;refine⟨?_,λk t=>?_,λx z=>?_,λw d=>?_,λw d=>?_,?_,?_⟩
 ·rw[e,DU];refine⟨h.Hn,by simp,λa I b E=>?_⟩;simp at E;subst E;rw[FJ];exact .inl (L a I)
 ·rw[e,G6,G6,h.A9]
 ·rw[e]at z;rcases B3.1 z with z|z
  ·exact F9 _ (h.DG x z)
  ·exact GV _ z
 ·rcases B3.1 d with d|d
  ·exact h.ne w d
  ·simp at d;subst d;simp
 ·rcases B3.1 d with d|d
  ·exact h.Gx w d
  ·simp at d;subst d;intro a I b E;simp at I E;subst I E;rfl
 ·rw[DU];refine⟨h.Iw,by simp,λa I b E x z y O=>?_⟩;simp at E;subst E;simp at O;subst O;exact L x (J a I x z)
 ·rw[e,B2,B2];have:=h.BF;simp only[Tj];omega
def WI.ag{len:Int}{d:List (List Pu)}{w w':List Pu}{s s':List Pu}{q:Pu}(h:WI len (d++[w]) s)(Z:q∈w)(J:(d.flatten++w').Pairwise (λa b=>AV len a b=true))(I:∀k t,Bb (d.flatten++w') k t=Bb s' k t)(O:∀x∈w',x∈s')(U:∀x∈s,x∈s')(W:w'≠[])(E:∀p∈w',AY p.2.1 len=AY q.2.1 len)(hlen:w'.length+s.length<=w.length+s'.length):WI len (d++[w']) s':=by
 have e:∀v:List Pu,(d++[v]).flatten=d.flatten++v:=λv=>by simp
 have L:=DU.1 h.Iw;refine⟨by rw[e];exact J,λk t=>by rw[e];exact I k t,λx H=>?_,λv z=>?_,λv z=>?_,?_,?_⟩
 ·rw[e]at H;rcases B3.1 H with H|H
  ·exact U x (h.DG x (by rw[e];exact F9 _ H))
  ·exact O x H
 ·rcases B3.1 z with z|z
  ·exact h.ne v (F9 _ z)
  ·simp at z;subst z;exact W
 ·rcases B3.1 z with z|z
  ·exact h.Gx v (F9 _ z)
  ·simp at z;subst z;intro a Y b V;rw[E a Y,E b V]
 ·rw[DU];refine⟨L.1,by simp,λa Y b V x H y hy=>?_⟩;simp at V;subst V;rw[E y hy];exact L.2.2 a Y w (by simp) x H q Z
 ·rw[e];have:=h.BF;rw[e]at this;simp only[B2]at this ⊢;omega
def WI.aZ{len:Int}{y:List (List Pu)}{H:List Pu}{q z p:Pu}{s:List Pu}(h:WI len (y++[H++[q]]) s)(Z:q.1=z.1/\q.2.1=z.2.1)(hp:AV len p z=false):
 ∃U w1,Di len (y++[H++[q]]) false z p=U++[w1++[p]]/\WI len (U++[w1++[p]]) (s++[p]):=by
 have aD:AV len p q=false:=by
  have:AV len p q=AV len p z:=by unfold AV;rw[Z.1,Z.2]
  rw[this];exact hp
 have J:q∈H++[q]:=by simp
 have e:∀v:List Pu,(y++[v]).flatten=y.flatten++v:=λv=>by simp
 have E:=h.Hn;rw[e]at E;have L:∀x∈y.flatten++(H++[q]),x=q\/AV len x q=true:=λx d=>by
  rw[<-CQ]at d E;rcases B3.1 d with d|d
  ·exact .inr ((DU.1 E).2.2 x d q (by simp))
  ·exact .inl (by simpa using d)
 unfold Di;dsimp only
 by_cases I:AY p.2.1 len=AY z.2.1 len
 ·have hw:AY p.2.1 len=AY q.2.1 len:=by rw[I,Z.2]
  have O:¬(false=true\/AY p.2.1 len≠AY z.2.1 len):=by simp[I]
  simp only[Ad O];have hl:(y++[H++[q]]).getLastD []=H++[q]:=by simp
  have aE:(H++[q]).getLastD (0,0,0)=q:=by simp
  have hd:(y++[H++[q]]).dropLast=y:=by simp
  have aA:(H++[q]).dropLast=H:=by simp
  rw[hl,aE,hd,aA];by_cases hz:BI p q=0
  ·rw[Am ⟨by simp,hz⟩];have Y:=MR.1 hz;refine⟨y,H,rfl,h.ag J ?_ (λk t=>?_) (λx d=>?_) (λx d=>F9 _ d) (by simp) (λx d=>?_) (by simp)⟩
   ·rw[<-CQ]at E ⊢;have ha:=DU.1 E;rw[DU];refine⟨ha.1,by simp,λa aF b V=>?_⟩;simp at V;subst V;have:=ha.2.2 a aF q (by simp);rw[FJ]at this ⊢;rw[Y.1,Y.2];exact this
   ·rw[<-CQ,G6,G6,<-h.A9,e,<-CQ,G6];by_cases d:p.1=k/\p.2.1=t
    ·simp[d]
    ·rw[Ad d,Ad d,Ad (by rw[<-Y.1,<-Y.2];exact d)]
   ·rcases B3.1 d with d|d
    ·exact F9 _ (h.DG x (by rw[e];simp[d]))
    ·exact GV _ d
   ·rcases B3.1 d with d|d
    ·exact h.Gx _ (by simp) x (by simp[d]) q J
    ·simp at d;subst d;exact hw
  ·rw[Ad (by simp[hz])];have W:=QW hw aD hz;refine⟨y,H++[q],rfl,h.ag J ?_ (λk t=>?_) (λx d=>?_) (λx d=>F9 _ d) (by simp) (λx d=>?_) (by simp;omega)⟩
   ·rw[<-CQ,DU];refine⟨E,by simp,λa ha b V=>?_⟩;simp at V;subst V;rcases L a ha with rfl|d
    ·exact W
    ·exact QV d W
   ·rw[<-CQ,G6,G6,<-h.A9,e]
   ·rcases B3.1 d with d|d
    ·exact F9 _ (h.DG x (by rw[e];exact GV _ d))
    ·exact GV _ d
   ·rcases B3.1 d with d|d
    ·exact h.Gx _ (by simp) x d q J
    ·simp at d;subst d;exact hw
 ·have O:false=true\/AY p.2.1 len≠AY z.2.1 len:=.inr I;simp only[Am O];have hl:(y++[H++[q]]++[[]]).getLastD []=([]:List Pu):=by simp
  have hd:(y++[H++[q]]++[[]]).dropLast=y++[H++[q]]:=by simp
  rw[hl,hd,Ad (by simp)];refine⟨y++[H++[q]],[],by simp,?_⟩;have aB:AY q.2.1 len<AY p.2.1 len:=by
   have:=QX I hp;rw[Z.2];exact this
  have:=h.cu p λx d=>?_
  ·simpa using this
  ·rw[e]at d;rcases L x d with rfl|d
   ·exact aB
   ·rw[FJ]at d;omega
def KG{len:Int}:∀(r:List Pu) (y:List (List Pu)) (E:List Pu) (q d:Pu) (s:List Pu),WI len (y++[E++[q]]) s->q.1=d.1/\q.2.1=d.2.1->Cn (AV len) (d::r)->WI len (CX len r false d (y++[E++[q]])) (s++r)
 | [],y,E,q,d,s,h,_,_=>by simpa[CX] using h
 | p::r,y,E,q,d,s,h,hq,ha=>by
  have z:=D3.1 ha;obtain⟨H,I,L,J⟩:=h.aZ hq (z.1 p (Ce ..));unfold CX;rw[L];have:=KG r H I p p (s++[p]) J ⟨rfl,rfl⟩ z.2;simpa using this
def O3{len:Int}(s:List Pu)(y:Cn (AV len) s):WI len (CX len s true (0,0,0) []) s:=by
 cases s with
 | nil=>exact⟨by simp[CX],λ_ _=>rfl,λx h=>by simp[CX]at h,λw d=>by simp[CX]at d,λw d=>by simp[CX]at d,by simp[CX],by simp[CX]⟩
 | cons p r=>
  unfold CX;have e:Di len [] true (0,0,0) p=[]++[[]++[p]]:=by simp[Di]
  rw[e];have E:WI len [] []:=⟨by simp,λ_ _=>rfl,λx h=>by simp at h,λw d=>by simp at d,λw d=>by simp at d,by simp,by simp⟩;have z:=E.cu p (by simp);have:=KG r [] [] p p [p] (by simpa using z) ⟨rfl,rfl⟩ y;simpa using this
def Ig{len:Int}(E:BS (AV len))(l:List Pu):WI len (BB len l) l:=by
 have h:=O3 (len:=len) (D5 (AV len) l) (E.cO l);have d:∀x∈D5 (AV len) l,x∈l:=λx I=>Bp.DG E (E.bI l).bw I;have z:(D5 (AV len) l).length=l.length:=by
  have H:∀(l s:List Pu),(l.foldl (λs x=>Dx (AV len) x s) s).length=s.length+l.length:=by
   intro l
   induction l with
   | nil=>intro s;rfl
   | cons x r ih=>
    intro s;have J:∀m:List Pu,(Dx (AV len) x m).length=m.length+1:=by
     intro m
     induction m with
     | nil=>rfl
     | cons y m ihm=>unfold Dx;split<;>simp[ihm]
    rw[IM,ih,J,Cr];omega
  have:=H l [];simpa[D5] using this
 exact⟨h.Hn,λk t=>by rw[<-OI len E l k t];exact h.A9 k t,λx I=>d x (h.DG x I),h.ne,h.Gx,h.Iw,by rw[<-z];exact h.BF⟩
def WI.Ha{len:Int}{I:List (List Pu)}{s:List Pu}(h:WI len I s){w:List Pu}(H:w∈I):BQ BI w=true:=by
 have y:=Ty (List.sublist_flatten_of_mem H) h.Hn;have J:=h.Gx w H;have z:∀m:List Pu,(∀x∈m,x∈w)->m.Pairwise (λa b=>AV len a b=true)->BQ BI m=true:=by
  intro m
  induction m with
  | nil=>intro _ _;rfl
  | cons a m ih=>
   intro E y;cases m with
   | nil=>rfl
   | cons b m=>
    have d:=D3.1 y;simp only[BQ,Ek,De];refine⟨?_,ih (λx L=>E x (BK _ L)) d.2⟩;have:=d.1 b (Ce ..);rw[FJ]at this;have e:=J a (E a (Ce ..)) b (E b (by simp));rw[Sh];omega
 exact z w (λ_ h=>h) y
end
end Go.Proofs.YtodcnkbblippnaaGreatDoor
