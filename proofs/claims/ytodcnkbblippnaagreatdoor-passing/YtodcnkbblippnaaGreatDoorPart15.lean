/- Part 15 of a proof: walks of the program. -/
import Derived.Test.YtodcnkbblippnaaGreatDoorCards
import Derived.Test.YtodcnkbblippnaaGreatDoorTie
import Derived.ProofKit
import Derived.OpenShut
import Derived.Carry
import Derived.Deep.DeepHandedRow
import Derived.Deep.DeepWitnessRowRef
import Derived.Deep.Slices
import Derived.Lib.LaidTab
import Derived.Stop.LaidErr
import Derived.Test.YtodcnkbblippnaaGreatDoorPart13
import Derived.Test.YtodcnkbblippnaaGreatDoorPart14
namespace Go.Proofs.YtodcnkbblippnaaGreatDoor
set_option maxRecDepth 100000
set_option maxHeartbeats 32000000
set_option linter.defProp false
open Go.Proofs.Tryz
section
open Go.RowKit
def Ii{d:List (List Pu)}(h:∀w∈d,w≠[]):d.length<=d.flatten.length:=by
 induction d with
 | nil=>simp
 | cons w r ih=>
  have h1:=ih λx y=>h x (BK _ y);have h2:=Nw.2 (h w (Ce ..));rw[Gi,B2,Cr];omega
def HK(d:List (List Pu)):DF d=17*d.flatten.length+4*d.length:=by
 unfold DF
 induction d with
 | nil=>rfl
 | cons w r ih=>
  rw[ET,List.sum_cons,ih,Gi,B2,Cr];omega
section
variable {P P':PD} {A:Ar} {sg cl:List (Int×List Pu)} {ol:Option (List Pu)} {N R:Nat} {Ax oldest:Int}
def Lay.bK(h:Lay P A sg cl ol):∀p∈Bf cl++ol.getD [],Cw p:=by
 intro p d;rcases B3.1 d with d|d
 ·obtain⟨x,y,d⟩:=List.mem_flatMap.1 d;exact(h.Ez x y).2 p d
 ·cases ol with
  | none=>simp at d
  | some l=>exact h.AA.2.2.2.1 p (by simpa using d)
def Lay.cI(h:Lay P A sg cl ol):∀p∈Bf sg,Cw p:=by
 intro p d;obtain⟨x,y,d⟩:=List.mem_flatMap.1 d;exact(h.CY x y).1.1 p d
def Lay.CB(h:Lay P A sg cl ol)(Y:BS (AV Ax)){K n:Nat}(Z:(Bf cl++ol.getD []).length<=n)(hn2:n<=1099511627776)(V:P.ad.length<=K)(hsl:sg.length<=K)(hjl:A.j.Ah.length<=K)(hll:A.AS.length<=K)(hc:Cm P (N+4*K+4*n+8) (R+29*n+12+8*K))(z:isNum (A.j.A9+1)=true)(hln:A.A9+n<=4611686018427387904):
 (A.CB P Ax).1=0/\Cm (A.CB P Ax).2.2 N R/\
  ∃fresh,(A.CB P Ax).2.1=⟨⟨A.j.A9+1,(sg++C2 A.A9 fresh).map (·.1)⟩,⟨[],A.j.A9,0,none⟩,A.A9+fresh.length,[]⟩/\Lay (A.CB P Ax).2.2 (A.CB P Ax).2.1 (sg++C2 A.A9 fresh) [] none/\
   (∀m,(A.CB P Ax).2.2.bs m≠none->m∈AF::(sg++C2 A.A9 fresh).map λx=>AJ x.1)/\fresh.length<=fresh.flatten.length/\fresh.flatten.length<=(Bf cl++ol.getD []).length/\(∀k t,Bb (Ci (sg++C2 A.A9 fresh) [] none) k t=Bb (Ci sg cl ol) k t)/\(∀p∈fresh.flatten,Cw p):=by
 have y:=h.Ag (by rw[B2]at Z;omega);have d:=Ig Y (Bf cl++ol.getD []);generalize H:BB Ax (Bf cl++ol.getD [])=fresh at d;have I:=Ii d.ne;have E:=d.BF;have hcost:=HK fresh;have e:A.CB P Ax=A.ay P (sg.map (·.1)) fresh:=by
  unfold Ar.CB;rw[y,Ad (by simp),H,h.A6]
 rw[e];obtain⟨O,r2,L,U,W⟩:=h.ay (N:=N) (R:=R) (K:=K) sg fresh (hc.U (by omega) (by omega)) V (λ_ h=>h) (HN.1 (by rw[h.A6];exact h.Fu.Ha))
  (λl J=>⟨λp y=>h.bK p (d.DG p (Nu.2 ⟨l,J,y⟩)),d.Ha J⟩) z (by omega)
 refine⟨O,L,fresh,r2,U,W,I,E,λk t=>?_,λp y=>h.bK p (d.DG p y)⟩;unfold Ci;have e1:Bf (sg++C2 A.A9 fresh)=Bf sg++fresh.flatten:=by
  have:=@HW fresh A.A9;unfold Bf at this ⊢;rw[Tq,this]
 rw[e1];simp only[Bf,List.flatMap_nil,Option.getD_none,EI];rw[Fs,Fs,d.A9];rfl
def EM(A6:List (Int×List Pu))(oldest:Int):List (List Pu)->List (Int×List Pu)
 | []=>[]
 | l::r=>if l.any (λp=>decide (oldest<=p.2.1))=false then EM A6 oldest r else
  match A6.find? λs=>decide (s.2=l) with
  | none=>EM A6 oldest r
  | some s=>s::EM A6 oldest r
def Jx(A6:List (Int×List Pu))(oldest:Int):∀h,(Bi A6 oldest h).1=(EM A6 oldest h).map (·.1)
 | []=>rfl
 | l::r=>by
  have d:=Jx A6 oldest r;unfold Bi EM;split
  ·exact d
  ·cases A6.find? λs=>decide (s.2=l) with
   | none=>exact d
   | some s=>simp[d]
def I8{A6:List (Int×List Pu)}{oldest:Int}:∀ {y:List (List Pu)} {x:Int×List Pu},x∈EM A6 oldest y->x∈A6/\x.2∈y
 | l::r,x,h=>by
  unfold EM at h;split at h
  ·have:=I8 h;exact⟨this.1,BK _ this.2⟩
  ·cases hx:A6.find? λs=>decide (s.2=l) with
   | none=>rw[hx]at h;have:=I8 h;exact⟨this.1,BK _ this.2⟩
   | some s=>
    rw[hx]at h;rcases Cf.1 h with rfl|h
    ·have d:=List.find?_some hx;simp at d;exact⟨Th hx,by rw[d];exact Ce ..⟩
    ·have:=I8 h;exact⟨this.1,BK _ this.2⟩
def I9{A6:List (Int×List Pu)}{oldest:Int}:∀ {d:List (List Pu)} {l:List Pu},l∈(Bi A6 oldest d).2->l∈d
 | w::r,l,h=>by
  unfold Bi at h;split at h
  ·exact BK _ (I9 h)
  ·cases hx:A6.find? λs=>decide (s.2=w) with
   | none=>
    rw[hx]at h;rcases Cf.1 h with rfl|h
    ·exact Ce ..
    ·exact BK _ (I9 h)
   | some s=>rw[hx]at h;exact BK _ (I9 h)
def JK{α:Type}(p:List α->Bool)(d:List (List α)):(d.filter p).flatten.Sublist d.flatten:=by
 induction d with
 | nil=>exact Tx _
 | cons w r ih=>
  rw[DB];split
  ·rw[Gi,Gi];exact List.Sublist.append (Tx _) ih
  ·rw[Gi];exact ih.trans (List.sublist_append_right _ _)
def DK(oldest:Int)(d:List (List Pu)):List (List Pu):=d.filter λl=>l.any λp=>decide (oldest<=p.2.1)
def Jw(A6:List (Int×List Pu))(oldest:Int):∀y,((EM A6 oldest y).map (·.2)++(Bi A6 oldest y).2).Perm (DK oldest y)
 | []=>List.Perm.refl _
 | l::r=>by
  have h:=Jw A6 oldest r;unfold Bi EM DK;by_cases d:l.any (λp=>decide (oldest<=p.2.1))=false
  ·rw[Am d,Am d,GX (by simp[d])];exact h
  ·rw[Ad d,Ad d,FV (by simpa using d)];cases hx:A6.find? λs=>decide (s.2=l) with
   | none=>
    dsimp only
    exact List.perm_middle.trans (h.cons _)
   | some s=>
    have z:=List.find?_some hx;simp at z;dsimp only
    rw[ET,z];exact h.cons _
def QR{len:Int}{y:List (List Pu)}{s:List Pu}(h:WI len y s)(oldest k t:Int)(ht:oldest<=t):Bb (DK oldest y).flatten k t=Bb s k t:=by
 rw[<-h.A9];clear h;unfold DK
 induction y with
 | nil=>rfl
 | cons w r ih=>
  by_cases d:w.any (λp=>decide (oldest<=p.2.1))=true
  ·(have e:(w::r).filter (λl=>l.any λp=>decide (oldest<=p.2.1))=w::r.filter (λl=>l.any λp=>decide (oldest<=p.2.1)):=by simp only[DB,d,BM]);rw[e,Gi,Gi,Fs,Fs,ih]
  ·(have e:(w::r).filter (λl=>l.any λp=>decide (oldest<=p.2.1))=r.filter (λl=>l.any λp=>decide (oldest<=p.2.1)):=by simp only[DB,d];rfl);rw[e,Gi,Fs,ih];have:Bb w k t=none:=Mc.2 λp z hx=>d (NI.2 ⟨p,z,by simp;omega⟩);rw[this,Nf]
def FP(l:List Pu):Prop:=l.Pairwise λa b=>¬(a.1=b.1/\a.2.1=b.2.1)
def FP.A9{l:List Pu}(h:FP l){k t v:Int}:Bb l k t=some v↔(k,t,v)∈l:=by
 refine⟨QP,λd=>?_⟩
 induction l with
 | nil=>cases d
 | cons p r ih=>
  have y:=D3.1 h;have e:Bb (p::r) k t=(Bb r k t).or (Bb [p] k t):=Fs [p] r k t;rw[e];rcases Cf.1 d with rfl|d
  ·have:Bb r k t=none:=Mc.2 λq E z=>y.1 q E ⟨z.1.symm,z.2.symm⟩;rw[this];simp[Bb]
  ·rw[ih y.2 d];simp
def FP.ec{l l':List Pu}(h:FP l)(y:l.Perm l'):FP l':=(y.pairwise_iff (R:=λa b:Pu=>¬(a.1=b.1/\a.2.1=b.2.1)) λh d=>h ⟨d.1.symm,d.2.symm⟩).1 h
def FP.dr{l l':List Pu}(h:FP l)(d:l.Perm l')(k t:Int):Bb l k t=Bb l' k t:=by
 have y:=h.ec d;cases hx:Bb l k t with
 | some v=>exact(y.A9.2 (d.mem_iff.1 (h.A9.1 hx))).symm
 | none=>
  cases hy:Bb l' k t with
  | none=>rfl
  | some v=>rw[h.A9.2 (d.mem_iff.2 (y.A9.1 hy))]at hx;cases hx
def WI.db{len:Int}{y:List (List Pu)}{s:List Pu}(h:WI len y s)(oldest:Int):FP (DK oldest y).flatten:=by
 have z:(DK oldest y).flatten.Pairwise (λa b=>AV len a b=true):=h.Hn.sublist (JK _ _);exact z.imp λd=>QY d
def SY{oldest:Int}{d:List (List Pu)}{w:List Pu}(h:w∈DK oldest d):w∈d:=(Gf.1 h).1
def Lay.BO(h:Lay P A sg cl ol)(hw:BS (AV Ax)){K n:Nat}(hn:(Ci sg cl ol).length<=n)(hn2:n<=1099511627776)(hK:P.ad.length<=K)(hsl:sg.length<=K)(hjl:A.j.Ah.length<=K)(hll:A.AS.length<=K)(hc:Cm P (N+4*K+4*n+8) (R+29*n+12+8*K))(aO:isNum (A.j.A9+1)=true)(hln:A.A9+n<=4611686018427387904):
 (A.BO P Ax oldest).1=0/\Cm (A.BO P Ax oldest).2.2 N R/\
  ∃U last,(A.BO P Ax oldest).2.1=⟨⟨A.j.A9+1,U.map (·.1)⟩,⟨[],A.j.A9,0,none⟩,last,[]⟩/\last<=A.A9+n/\Lay (A.BO P Ax oldest).2.2 (A.BO P Ax oldest).2.1 U [] none/\
   (∀m,(A.BO P Ax oldest).2.2.bs m≠none->m∈AF::U.map λx=>AJ x.1)/\(U.map (·.2)).Perm (DK oldest (BB Ax (Ci sg cl ol)))/\∀k t,oldest<=t->Bb (Ci U [] none) k t=Bb (Ci sg cl ol) k t:=by
 have aP:(Ci sg cl ol).length=(Bf sg).length+(Bf cl++ol.getD []).length:=by unfold Ci;rw[B2]
 have I:=h.Ag (by rw[B2]at aP;omega);have E:=Ig hw (Ci sg cl ol);obtain⟨H,aF⟩:∃H,BB Ax (Ci sg cl ol)=H:=⟨_,rfl⟩;rw[aF]at E;obtain⟨k0,aD⟩:∃k0,EM sg oldest H=k0:=⟨_,rfl⟩;obtain⟨fresh,aG⟩:∃fresh,(Bi sg oldest H).2=fresh:=⟨_,rfl⟩;have d:=Jw sg oldest H;rw[aD,aG]at d;obtain⟨z,aH⟩:∃z,k0.mergeSort (λx y=>decide (x.1<=y.1))=z:=⟨_,rfl⟩;have aA:z.Perm k0:=by rw[<-aH];exact List.mergeSort_perm _ _
 have aR:z.map (·.1)=((Bi sg oldest H).1).mergeSort λx y=>decide (x<=y):=by
  rw[Jx,aD,<-aH,List.map_mergeSort (s:=λx y:Int=>decide (x<=y))];intro a _ b _;rfl
 have J:∀x∈z,x∈sg/\x.2∈H:=λx Z=>I8 (by rw[aD];exact aA.mem_iff.1 Z);have aN:(DK oldest H).Nodup:=by
  have Y:(DK oldest H).Pairwise λw w'=>∀p∈w,∀q∈w',AY p.2.1 Ax<AY q.2.1 Ax:=E.Iw.sublist Gj;have L:∀w∈DK oldest H,w≠[]:=λw hw=>E.ne w (SY hw);clear d;generalize DK oldest H=v at Y L
  induction v with
  | nil=>simp
  | cons w r ih=>
   have aM:=D3.1 Y;refine Nt.2 ⟨λhm=>?_,ih aM.2 λx Z=>L x (BK _ Z)⟩;obtain⟨p,I⟩:=List.exists_mem_of_ne_nil w (L w (Ce ..));have:=aM.1 w hm p I p I;omega
 have aL:(z.map (·.2)).Nodup:=by
  have Y:(k0.map (·.2)++fresh).Nodup:=d.nodup_iff.2 aN;have L:=(II.1 Y).1;exact(aA.map (·.2)).nodup_iff.2 L
 have aJ:(sg.map (·.1)).Pairwise (· < ·):=HN.1 (by rw[h.A6];exact h.Fu.Ha);have aB:∀x∈sg,∀y∈sg,x.1=y.1->x=y:=λx Z y hy e=>by
  obtain⟨i,hi,rfl⟩:=GW Z;obtain⟨j,hj,rfl⟩:=GW hy;have I:=IH.1 aJ;rcases No i j with O|O|O
  ·have:=I i j (by simpa using hi) (by simpa using hj) O;simp at this;omega
  ·subst O;rfl
  ·have:=I j i (by simpa using hj) (by simpa using hi) O;simp at this;omega
 have V:(z.map (·.1)).Pairwise (· < ·):=by
  have Y:z.Pairwise λx y=>x.1<=y.1:=by
   have:=Te (le:=λx y:Int×List Pu=>decide (x.1<=y.1)) (λa b c Y L=>by simp at *;omega) (λa b=>by simp;omega) k0;rw[aH]at this;(exact this.imp λh=>by simpa using h)
  have L:z.Pairwise λx y=>x.2≠y.2:=Ns.1 aL;rw[Ns];have h3:=Y.and L;refine List.Pairwise.imp_of_mem (λ{a b} ha hb aK=>?_) h3;rcases Int.lt_or_eq_of_le aK.1 with h|h
  ·exact h
  ·exact absurd (ER Prod.snd (aB a (J a ha).1 b (J b hb).1 h)) aK.2
 have aE:∀l∈fresh,l∈H:=λl hl=>I9 (by rw[aG];exact hl);have W:(Bf z++fresh.flatten).Perm (DK oldest H).flatten:=by
  have Y:(z.map (·.2)++fresh).Perm (DK oldest H):=((aA.map (·.2)).append_right _).trans d;have L:=Y.flatten;rw[To]at L;have e:(z.map (·.2)).flatten=Bf z:=by unfold Bf;rw[Tp]
  rwa [e]at L
 have hfl:fresh.length<=fresh.flatten.length:=Ii λw hw=>E.ne w (aE w hw);have hcount:fresh.flatten.length<=n:=by
  have Y:=W.length_eq;have L:(DK oldest H).flatten.length<=H.flatten.length:=(JK _ H).length_le;have h3:=E.BF;rw[B2]at Y;omega
 have hkl:z.length<=K:=by
  have:(z.map (·.1)).length<=(sg.map (·.1)).length:=HZ (V.imp λh=>Int.ne_of_lt h) λx Z=>by
   obtain⟨y,hy,rfl⟩:=DL.1 Z;exact FR (J y hy).1
  simp only[Gh]at this;omega
 have hcost:=HK fresh;have aQ:∀p∈Ci sg cl ol,Cw p:=λp I=>by
  rcases B3.1 I with I|I
  ·exact h.cI p I
  ·exact h.bK p I
 have e:A.BO P Ax oldest=A.ay P (z.map (·.1)) fresh:=by
  unfold Ar.BO;rw[h.b2];dsimp only
  have e2:sg.flatMap (·.2)++(P.Ag A.j.Ah).1=Ci sg cl ol:=by rw[I];rfl
  rw[e2,aF,<-aR,aG,I,Ad (by simp)]
 rw[e,aF];obtain⟨r1,r2,r3,r4,r5⟩:=h.ay (N:=N) (R:=R) (K:=K) z fresh (hc.U (by omega) (by omega)) hK (λx Z=>(J x Z).1) V
  (λl hl=>⟨λp I=>aQ p (E.DG p (Nu.2 ⟨l,aE l hl,I⟩)),E.Ha (aE l hl)⟩) aO (by omega)
 have aI:(C2 A.A9 fresh).map (·.2)=fresh:=by
  have aS:∀(l:List (List Pu)) (a:Int),(C2 a l).map (·.2)=l:=by
   intro l
   induction l with
   | nil=>intro a;rfl
   | cons x r ih=>intro a;simp[C2,ih]
  exact aS _ _
 refine⟨r1,r3,z++C2 A.A9 fresh,A.A9+fresh.length,r2,by omega,r4,r5,?_,λk t ht=>?_⟩
 ·rw[Fa,aI];exact((aA.map (·.2)).append_right _).trans d
 ·have e1:Ci (z++C2 A.A9 fresh) [] none=Bf z++fresh.flatten:=by
   have:=@HW fresh A.A9;unfold Ci Bf at *;simp[this]
  rw[e1,(E.db oldest |>.dr W.symm k t).symm,QR E oldest k t ht]
end
def shut(cl:List (Int×List Pu))(last:Int):Option (List Pu)->List (Int×List Pu)
 | none=>cl
 | some l=>cl++[(last,l)]
section
variable {P P':PD} {A:Ar} {sg cl:List (Int×List Pu)} {ol:Option (List Pu)} {N R:Nat}
def Lay.cQ(h:Lay P A sg cl ol):A.j.Ah=(shut cl A.j.A9 ol).map (·.1):=by
 have:=h.AA;cases ol with
 | none=>exact this.2
 | some l=>rw[this.2.1];simp[shut]
def Lay.ei(h:∀nm,P.bs nm=none):Lay P ⟨⟨1,[]⟩,⟨[],0,0,none⟩,0,[]⟩ [] [] none:=
 ⟨⟨by decide,λn z=>(by cases z),rfl⟩,.inl ⟨h _,rfl⟩,rfl,λx d=>(by cases d),λx d=>(by cases d),λx d=>(by cases d),⟨λx d=>(by cases d),λh=>absurd rfl h⟩,trivial,rfl,⟨rfl,rfl⟩,⟨by decide,by decide,λn _ d=>absurd (h _) d⟩,⟨by decide,λn _ d=>absurd (h _) d⟩,λnm y=>(by cases y),List.Pairwise.nil,λnm y=>absurd (h _) y,λn _ _ d=>absurd (h _) d⟩
end
section
variable {P:PD} {A:Ar} {a c m:Nat}
def Fit.aj:∀(fresh:List (List Pu)) (last:Int) (kept:List Int) (P:PD) (a c m:Nat),Fit P a c m->Fit (PD.aj fresh last kept P).2.2.2 (a+fresh.length) (c+fresh.length) (m+DF fresh)/\(PD.aj fresh last kept P).2.2.1.length<=kept.length+fresh.length
 | [],last,kept,P,a,c,m,h=>⟨h,by simp[PD.aj]⟩
 | l::r,last,kept,P,a,c,m,h=>by
  have y:=h.aK (last+1) l;have d:DF (l::r)=(17*l.length+4)+DF r:=by simp[DF]
  rw[LO];split
  ·exact⟨y.U (by simp) (by simp) (by rw[d];omega),by simp⟩
  ·obtain⟨z,E⟩:=Fit.aj r (last+1) (kept++[last+1]) _ _ _ _ y;exact⟨z.U (by simp;omega) (by simp;omega) (by rw[d];omega),by simp at E ⊢;omega⟩
def Fit.ay(h:Fit P a c m)(kept:List Int)(fresh:List (List Pu)):Fit (A.ay P kept fresh).2.2 (a+fresh.length+2) (c+2*a+2*fresh.length+4) (m+DF fresh+12+8*(kept.length+fresh.length)):=by
 rw[Ld];have z:=h.ai (A:=A);split
 ·exact z.U (by omega) (by omega) (by omega)
 ·obtain⟨y,h3⟩:=Fit.aj fresh (A.ai P).2.1.A9 kept _ _ _ _ z;split
  ·exact y.U (by omega) (by omega) (by omega)
  ·have d:=y.cP (A:={ (A.ai P).2.1 with A9:=(PD.aj fresh (A.ai P).2.1.A9 kept (A.ai P).2.2).2.1}) (PD.aj fresh (A.ai P).2.1.A9 kept (A.ai P).2.2).2.2.1;split
   ·exact d.U (by omega) (by omega) (by omega)
   ·unfold Ar.ba;have E:=Fit.ax (A:=(({ (A.ai P).2.1 with A9:=(PD.aj fresh (A.ai P).2.1.A9 kept (A.ai P).2.2).2.1}:Ar).ag (PD.aj fresh (A.ai P).2.1.A9 kept (A.ai P).2.2).2.2.2 (PD.aj fresh (A.ai P).2.1.A9 kept (A.ai P).2.2).2.2.1).2.1) d;split
    ·exact E.U (by omega) (by omega) (by omega)
    ·exact E.aM.U (by omega) (by omega) (by omega)
def Fit.cx(h:Fit P a c m)(nm:ByteArray)(s:Nat)(l:Bs):Fit (P.aa nm s l).2.2 a c (m+(l.length+4)):=by
 have:=h.aw nm (Ba s l);rw[HU]at this;exact this
def Fit.cw{J:Jn}(h:Fit P a c m):Fit (J.av P).2.2 (a+1) (c+1) (m+12):=by
 unfold Jn.av;have y:=h.al (Aa (Ai (J.A9+1)));have d:=y.cx (Aa (Ai (J.A9+1))) (AB (Ai (J.A9+1))) (AG J.Ag);rw[CO]at d;split
 ·exact y.U (Aw _) (Aw _) (by omega)
 ·dsimp only
  split
  ·exact d
  ·exact d
def Fit.cn{J:Jn}(h:Fit P a c m)(p:Pu):Fit (J.aH P p).2.2.2 a c (m+21):=by
 unfold Jn.aH;cases J.AA with
 | none=>exact h.U (Aw _) (Aw _) (by omega)
 | some x=>
  obtain⟨n,s⟩:=x;have d:=h.cx (Aa (Ai n)) s (AW p.1 p.2.1 p.2.2);rw[G0]at d;exact d
def Fit.dT{J:Jn}(h:Fit P a c m)(p:Pu):Fit (J.aa P p).2.2.2 (a+1) (c+1) (m+33):=by
 unfold Jn.aa;split
 ·split
  ·exact h.cw.U (Aw _) (Aw _) (by omega)
  ·exact(h.cw.cn p).U (Aw _) (Aw _) (by omega)
 ·exact(h.cn p).U (by omega) (by omega) (by omega)
def Fit.dL(h:Fit P a c m)(p:Pu):Fit (A.aa P p).2.2.2 (a+1) (c+1) (m+33):=by
 unfold Ar.aa;split
 ·exact h.ah.U (by omega) (by omega) (by omega)
 ·exact h.ah.dT p
def SZ(A:Ar)(P:PD)(p:Pu):(A.aa P p).2.2.1.A9=A.A9/\((A.aa P p).2.2.1.j.A9=A.j.A9\/(A.aa P p).2.2.1.j.A9=A.j.A9+1):=by
 have z:=HJ A P;have d:∀(J:Jn) (Q:PD),(J.aH Q p).2.2.1.A9=J.A9:=λJ Q=>by
  unfold Jn.aH;cases J.AA<;>rfl
 have h:∀(J:Jn) (Q:PD),(J.av Q).2.1.A9=J.A9\/(J.av Q).2.1.A9=J.A9+1:=λJ Q=>by
  unfold Jn.av;split
  ·exact .inl rfl
  ·dsimp only
   split
   ·exact .inl rfl
   ·exact .inr rfl
 have y:∀(J:Jn) (Q:PD),(J.aa Q p).2.2.1.A9=J.A9\/(J.aa Q p).2.2.1.A9=J.A9+1:=λJ Q=>by
  unfold Jn.aa;split
  ·split
   ·exact h J Q
   ·rw[d];exact h J Q
  ·exact .inl (d J Q)
 unfold Ar.aa;split
 ·exact⟨z.2.2,.inl (by rw[z.2.1])⟩
 ·dsimp only
  rw[<-z.2.1];exact⟨z.2.2,y _ _⟩
end
def Rel(L:Nat->List Pt)(Ag:List Pu)(d Ab:Int):Prop:=∀k:Nat,k<8->(L k).filter (λx=>decide (B8 Ab d<=x.1))=EK Ag k (-9223372036854775808) 9223372036854775807 d Ab
def Lj(Ag:List Pu)(s a b l c a' E l' z:Int)(g:Int->Bool)(h:∀p∈Ag,EL s a' E l' z p=(EL s a b l c p&&g p.2.1)):
 EK Ag s a' E l' z=(EK Ag s a b l c).filter (λx=>g x.1):=by
 have key:∀(H:List Pu) (d:List Pt),Dt d->(∀p∈H,EL s a' E l' z p=(EL s a b l c p&&g p.2.1))->
  H.foldl (E7 s a' E l' z) (d.filter λx=>g x.1)=(H.foldl (E7 s a b l c) d).filter (λx=>g x.1):=by
  intro H
  induction H with
  | nil=>intro d _ _;rfl
  | cons p r ih=>
   intro d O L;have I:=L p (by simp);simp only[IM];by_cases q:EL s a b l c p=true
   ·(have U:E7 s a b l c d p=BZ d p.2.1 p.2.2:=by unfold E7;rw[Am q]);have J:E7 s a' E l' z (d.filter λx=>g x.1) p=(BZ d p.2.1 p.2.2).filter (λx=>g x.1):=by
     unfold E7;rw[I,q,Kp,Mu O]
    rw[U,J];exact ih _ (JF O _ _) λp y=>L p (BK _ y)
   ·(have V:EL s a b l c p=false:=by simpa using q);(have U:E7 s a b l c d p=d:=by unfold E7;rw[V];rfl);have J:E7 s a' E l' z (d.filter λx=>g x.1) p=d.filter λx=>g x.1:=by
     unfold E7;rw[I,V,NQ];rfl
    rw[U,J];exact ih _ O λp y=>L p (BK _ y)
 exact key Ag [] List.Pairwise.nil h
def K3{t d Ab:Int}(h:AE t):D7 t d Ab=decide (B8 Ab d<=t):=(Qg Ab d t h).symm
def Rel.Hd{L:Nat->List Pt}{Ag:List Pu}{d Ab:Int}(h:Rel L Ag d Ab)(z:∀p∈Ag,AE p.2.1){k:Nat}(E:k<8)(a b:Int):
 piece (L k) (max a (B8 Ab d)) b=EK Ag k a b d Ab:=by
 have e:=Lj Ag k (-9223372036854775808) 9223372036854775807 d Ab a b d Ab (λt=>decide (a<=t)&&decide (t<=b)) λp y=>by
  obtain⟨I,H⟩:=z p y;unfold EL;have d1:=Cc I;have d2:=Cc H;rw[d1,d2];cases decide (p.1=(k:Int))<;>cases decide (a<=p.2.1)<;>cases decide (p.2.1<=b)<;>cases D7 p.2.1 d Ab<;>rfl
 rw[e,<-h k E,NB];unfold piece
 congr 1
 funext x
 apply IS.2;simp only[Ek,De];omega
def Rel.bx(d Ab:Int):Rel (λ_=>[]) [] d Ab:=λ_ _=>by simp[EK]
def Rel.aH{L:Nat->List Pt}{Ag:List Pu}{d Ab:Int}(h:Rel L Ag d Ab)(I:∀k,k<8->Dt (L k)){s:Nat}(hs8:s<8){t v:Int}(E:AE t):
 Rel (Er L (B8 Ab d) s t v) (Ag++[((s:Int),t,v)]) d Ab:=by
 intro k z;have J:EK (Ag++[((s:Int),t,v)]) k (-9223372036854775808) 9223372036854775807 d Ab=E7 k (-9223372036854775808) 9223372036854775807 d Ab (EK Ag k (-9223372036854775808) 9223372036854775807 d Ab) ((s:Int),t,v):=by
  unfold EK;rw[NA];rfl
 rw[J,<-h k z];obtain⟨t1,t2⟩:=E;have d1:=Cc t1;have d2:=Cc t2;unfold E7 EL;simp only[d1,d2,Bool.and_true,K3 (⟨t1,t2⟩:AE t)];unfold Er;by_cases y:B8 Ab d<=t
 ·rw[Am y];unfold EX;by_cases e:k=s
  ·subst e;have f:=Mu (I k z) (λx=>decide (B8 Ab d<=x)) t v;simp only[Cc y]at f ⊢;simp only[BM]at f ⊢;simpa using f
  ·have H:¬(s:Int)=(k:Int):=λx=>e (by omega);simp[e,H]
 ·rw[Ad y];have:decide (B8 Ab d<=t)=false:=Cj y;simp[this]
def Qf{c y d:Int}(h:c<=y):B8 c d<=B8 y d:=by
 unfold B8;split<;>split<;>omega
def Rel.Ew{L H:Nat->List Pt}{Ag:List Pu}{y Ab d:Int}(h:Rel L Ag y Ab)(J:∀p∈Ag,AE p.2.1)(Z:Ab<=d)(V:Gm L H (B8 d y)):Rel H Ag y d:=by
 intro k I;have ho:B8 Ab y<=B8 d y:=Qf Z;have e:=Lj Ag k (-9223372036854775808) 9223372036854775807 y Ab (-9223372036854775808) 9223372036854775807 y d (λt=>decide (B8 d y<=t)) λp E=>by
  unfold EL;rw[K3 (J p E),K3 (J p E)];have:decide (B8 d y<=p.2.1)=(decide (B8 Ab y<=p.2.1)&&decide (B8 d y<=p.2.1)):=by
   apply IS.2;simp only[Ek,De];omega
  rw[this];simp[Bool.and_assoc]
 have O:(L k).filter (λx=>decide (B8 d y<=x.1))=EK Ag k (-9223372036854775808) 9223372036854775807 y d:=by
  rw[e,<-h k I,NB]
  congr 1
  funext x
  apply IS.2;simp only[Ek,De];omega
 rw[<-O];rcases V k I with q|q
 ·rw[q]
 ·rw[q];have z:L k=(L k).take (AZ (L k) (B8 d y))++(L k).drop (AZ (L k) (B8 d y)):=(EG _ _).symm;have U:((L k).take (AZ (L k) (B8 d y))).filter (λx=>decide (B8 d y<=x.1))=[]:=by
   rw[NC];intro x W;obtain⟨i,Y,rfl⟩:=List.mem_iff_getElem.1 W;rw[Dg]at Y;have:=Gv (l:=L k) (t:=B8 d y) (i:=i) (by omega) (by omega);rw[List.getElem_take];simp;omega
  conv=>rhs;rw[z,Ht,U,Ej]
end
section
open Go.MuLone Go.RowKit
def Ib{n:Int}(h:isNum n=true):By n:=by
 unfold isNum at h;simp at h;exact Fo (by omega) h.2
section
variable {P:PD} {A:Ar} {sg cl:List (Int×List Pu)} {ol:Option (List Pu)}
def Lay.cE(h:Lay P A sg cl ol):∀n∈A.ix.A6,By n:=λn d=>Ib (h.Fu.A6 n d)
def Lay.cj(h:Lay P A sg cl ol):∀n∈A.ix.A6,AE n:=λn d=>Mn (h.Fu.A6 n d)
def Lay.cS(h:Lay P A sg cl ol):∀n∈A.j.Ah,By n:=λn y=>by
 rw[h.cQ]at y;obtain⟨x,d,rfl⟩:=DL.1 y;cases ol with
 | none=>exact Ib (h.Ez x d).1.1
 | some l=>
  rcases B3.1 d with d|d
  ·exact Ib (h.Ez x d).1.1
  ·simp at d;subst d;exact Ib h.AA.2.2.2.2
end
structure D8 (n:Nat) (A:Ar) (P:PD) (sg cl:List (Int×List Pu)) (ol:Option (List Pu)):Prop where
 n2:n<=2
 CT:Lay P A sg cl ol
 cm:Cm P (1000*(n+1)) (10000*(n+1))
 Hl:Fit P (100-30*n) (1000-300*n) (1000-300*n)
 DA:(Ci sg cl ol).length<=1
 HI:sg.length<=1
 jl:A.j.Ah.length<=1
 AS:A.AS=[]
 DH:A.j.A9<=1
 A9:A.A9+n<=4
def Nc(z:World)(y d:Int)(E:Nat)(n:Nat)(w:World)(c:Int):Prop:=
 AE c/\∃ab b h L A P FT sg cl ol,SF w E ab b 0 d h c false L A P FT/\(∀k,FT k->k<w.heap.size)/\(∀k,FT k->z.heap.size<=k)/\A2 (λ_=>False) z w/\(1<=h/\h<=4611686018427387904)/\
  Rel L [(((4:Nat):Int),y,9)] d c/\D8 n A P sg cl ol/\sg.length+(Bf cl++ol.getD []).length<=1
def A2.bH{S:Nat->Prop}{a b c:World}(h:A2 A7 a b)(k:A2 S b c)(d:∀x,S x->a.heap.size<=x):A2 A7 a c:=h.As k λx y hlt=>by have:=d x y;omega
section
variable {n:Nat} {A:Ar} {P:PD} {sg cl:List (Int×List Pu)} {ol:Option (List Pu)}
def D8.ad(h:D8 n A P sg cl ol):P.ad.length<=100:=by
 have:=h.Hl.A3;rw[GA];omega
def D8.bn(h:D8 n A P sg cl ol):(Bf cl++ol.getD []).length<=1:=by
 have:=h.DA;unfold Ci at this;rw[B2]at this;omega
def D8.bT(h:D8 n A P sg cl ol):isNum (A.j.A9+1)=true:=by
 have h1:=h.DH;have h2:=h.CT.DH.1;unfold isNum;simp;omega
def D8.cv(h:D8 (n+1) A P sg cl ol){A':Ar}{P':PD}{d:List (Int×List Pu)}{last:Int}(z:A'=⟨⟨A.j.A9+1,d.map (·.1)⟩,⟨[],A.j.A9,0,none⟩,last,[]⟩)(hl:last<=A.A9+1)(E:Lay P' A' d [] none)(I:Cm P' (1000*(n+1)) (10000*(n+1)))(J:Fit P' (100-30*(n+1)+3) (1000-300*(n+1)+2*(100-30*(n+1))+6) (1000-300*(n+1)+60))(y:(Bf d).length<=1)(H:d.length<=1):D8 n A' P' d [] none:=by
 have h1:=h.n2;have h2:=h.A9;refine⟨by omega,E,I,J.U (by omega) (by omega) (by omega),by simpa[Ci,Bf] using y,H,by rw[z];simp,by rw[z],by rw[z];exact h.DH,by rw[z];dsimp only;omega⟩
def D8.CB(h:D8 (n+1) A P sg cl ol)(Ax:Int)(hsg:sg.length+(Bf cl++ol.getD []).length<=1):(A.CB P Ax).1=0/\∃y H E,D8 n (A.CB P Ax).2.1 (A.CB P Ax).2.2 y H E/\y.length+(Bf H++E.getD []).length<=1:=by
 have hn:=h.n2;have hla:=h.A9;have hl0:=h.CT.DE.1;obtain⟨f1,f2,fresh,f3,f4,f5,f6,f7,f8,f9⟩:=h.CT.CB (F4 Ax) (N:=1000*(n+1)) (R:=10000*(n+1)) (K:=100) (n:=1) h.bn (by omega) h.ad (by have:=h.HI;omega) (by have:=h.jl;omega) (by rw[h.AS];simp) (h.cm.U (by omega) (by omega)) h.bT (by omega);have hfl:fresh.length<=(Bf cl++ol.getD []).length:=by omega
 have V:=h.Hl.ay (A:=A) A.ix.A6 (BB Ax (P.Ag A.j.Ah).1);have U:=h.CT.Ag (by have:=h.bn;rw[B2]at this;omega);have O:DF (BB Ax (P.Ag A.j.Ah).1)+8*(BB Ax (P.Ag A.j.Ah).1).length<=40/\(BB Ax (P.Ag A.j.Ah).1).length<=1:=by
  rw[U];dsimp only
  have d:=Ig (F4 Ax) (Bf cl++ol.getD []);have e1:=Ii d.ne;have e2:=d.BF;have e3:=h.bn;rw[HK];omega
 have hseg:A.ix.A6.length<=1:=by rw[<-h.CT.A6,Gh];exact h.HI
 have J:(A.CB P Ax)=A.ay P A.ix.A6 (BB Ax (P.Ag A.j.Ah).1):=by unfold Ar.CB;rw[U,Ad (by simp)]
 have z:(sg++C2 A.A9 fresh).length<=1:=by rw[B2,HY];omega
 have I:(Bf (sg++C2 A.A9 fresh)).length<=1:=by
  have e:=@HW fresh A.A9;have L:=h.DA;unfold Ci at L;unfold Bf at e L ⊢;rw[Tq,e,B2];rw[B2]at L;unfold Bf at f7;omega
 refine⟨f1,sg++C2 A.A9 fresh,[],none,h.cv f3 (by have:=h.bn;omega) f4 f2 ?_ I z,by simpa[Bf] using z⟩;rw[J];obtain⟨i1,i2⟩:=O;exact V.U (by omega) (by omega) (by omega)
def D8.BO(h:D8 (n+1) A P sg cl ol)(Ax oldest:Int):(A.BO P Ax oldest).1=0/\∃d I H,D8 n (A.BO P Ax oldest).2.1 (A.BO P Ax oldest).2.2 d I H/\d.length+(Bf I++H.getD []).length<=1:=by
 have hn:=h.n2;have hla:=h.A9;have hl0:=h.CT.DE.1;obtain⟨f1,f2,d,last,f3,f4,f5,f6,f7,f8⟩:=h.CT.BO (Ax:=Ax) (oldest:=oldest) (F4 Ax) (N:=1000*(n+1)) (R:=10000*(n+1)) (K:=100) (n:=1) h.DA (by omega) h.ad (by have:=h.HI;omega) (by have:=h.jl;omega) (by rw[h.AS];simp) (h.cm.U (by omega) (by omega)) h.bT (by omega);have z:=Ig (F4 Ax) (Ci sg cl ol);have e1:=Ii z.ne;have e2:=z.BF;have e3:=h.DA;have E:=f7.length_eq;rw[Gh]at E;have hal:(DK oldest (BB Ax (Ci sg cl ol))).length<=1:=Az (Ny _ _) (by omega);have V:=f7.flatten.length_eq;have hal2:(DK oldest (BB Ax (Ci sg cl ol))).flatten.length<=1:=Az (JK _ _).length_le (by omega);have J:(Bf d).length<=1:=by
  have e:(d.map (·.2)).flatten=Bf d:=by unfold Bf;rw[Tp]
  rw[e]at V;omega
 have Z:=h.CT.Ag (by have:=h.bn;rw[B2]at this;omega);have e5:A.BO P Ax oldest=A.ay P ((Bi sg oldest (BB Ax (Ci sg cl ol))).1.mergeSort λx y=>decide (x<=y)) (Bi sg oldest (BB Ax (Ci sg cl ol))).2:=by
  unfold Ar.BO;rw[h.CT.b2];dsimp only
  have e6:sg.flatMap (·.2)++(P.Ag A.j.Ah).1=Ci sg cl ol:=by rw[Z];rfl
  rw[e6,Z,Ad (by simp)]
 have L:=Jw sg oldest (BB Ax (Ci sg cl ol));have U:=L.length_eq;have W:=L.flatten.length_eq;rw[B2,Gh]at U;rw[To,B2]at W;have O:((Bi sg oldest (BB Ax (Ci sg cl ol))).1.mergeSort λx y=>decide (x<=y)).length=(EM sg oldest (BB Ax (Ci sg cl ol))).length:=by rw[Nx,Jx,Gh]
 have Y:=h.Hl.ay (A:=A) ((Bi sg oldest (BB Ax (Ci sg cl ol))).1.mergeSort λx y=>decide (x<=y)) (Bi sg oldest (BB Ax (Ci sg cl ol))).2;rw[HK,O]at Y;refine⟨f1,d,[],none,h.cv f3 f4 f5 f2 ?_ J (by omega),by simp[Bf];omega⟩;rw[e5];exact Y.U (by omega) (by omega) (by omega)
def D8.cz(h:D8 n A P sg cl ol):(P.Ag A.j.Ah).1.length<=19/\∀p∈(P.Ag A.j.Ah).1,Cw p:=by
 rw[h.CT.Ag (by have:=h.bn;rw[B2]at this;omega)];exact⟨by have:=h.bn;dsimp only;omega,h.CT.bK⟩
def D8.bO(h:D8 n A P sg cl ol):A.ix.A6.length<=1:=by rw[<-h.CT.A6,Gh];exact h.HI
def D8.cB(h:D8 n A P sg cl ol):AE (A.j.A9+1):=Mn h.bT
end
def Q4{B:Nat}(w0:World)(hL:Lets B w0)(E y:Int)(sb:Nat)(ht:AE E)(hl:1<=y/\y<=4611686018427387904):Passes E y (A4 sb) (Nc w0 E y sb) where
 Ap:=by
  rintro n w w' c⟨O,ab,b,z,L,A,P,FT,sg,cl,ol,hS,I,J,H,W,Y,d,hs⟩ h;exact⟨O,ab,b,z,L,A,P,FT,sg,cl,ol,hS.an h,λk H=>Bc (I k H) h.Af,J,H.tr h,W,Y,d,hs⟩
 Hd:=by
  rintro n w c⟨O,ab,b,z,L,A,P,FT,sg,cl,ol,⟨lv,F0,q,-⟩,I,J,H,W,Y,d,hs⟩;refine(PA w 4 E E q.Ae q.Dn (by omega) hl O).mono ?_;rintro e w'⟨x,rfl,hx,Z,-⟩;refine⟨x,rfl,?_,Z⟩;rw[Y.Hd (λp V=>by simp at V;subst V;exact ht) (by omega)]at hx;have e:EK [(((4:Nat):Int),E,9)] ((4:Nat):Int) E E y c=if D7 E y c then [(E,9)] else []:=by
   simp only[EK,IM,List.foldl_nil,E7,EL];cases D7 E y c<;>simp[BZ]
  rw[<-e];exact hx
 CB:=by
  rintro n w c⟨O,ab,b,z,L,A,P,FT,sg,cl,ol,hS,I,J,H,W,Y,d,hs⟩;obtain⟨f1,aD,aG,aF,f2,f3⟩:=d.CB z hs;have aA:=hL.ao H;have hB:B<=w0.heap.size:=hL.1;have aK:=d.n2;refine(RF w (A.CB P z).1 hS I aA (λk H=>Az hB (J k H)) (A':=(A.CB P z).2.1) (P':=(A.CB P z).2.2) λw1 F0 hA h0 aE aB=>?_).mono ?_
  ·exact SP KZ (by omega) w1 hA h0 z W d.cz.1 d.cz.2 ⟨d.CT.DE.1,by have:=d.A9;omega⟩ d.cB d.CT.cj d.Hl ⟨by omega,by omega,by have:=d.bO;omega⟩
    (Az (IF d.jl (show 1000-300*(n+1)<=1000 by omega)) (by omega)) (by have:=d.bO;omega) d.CT.cE d.CT.cS (by have:=d.jl;omega) aE aB
  ·rintro e w'⟨rfl,Z,aH,h2,h3,h4⟩;rw[f1]at h2 ⊢;exact⟨rfl,O,ab,b,z,L,_,_,aH,aD,aG,aF,h2,h3,λk U=>(h4 k U).elim (J k) λh=>Az H.Af h,H.bH Z J,W,Y,f2,f3⟩
 BO:=by
  rintro n w c⟨O,ab,b,z,L,A,P,FT,sg,cl,ol,hS,I,J,H,W,Y,d,hs⟩;obtain⟨f1,aD,aG,aF,f2,f3⟩:=d.BO z (B8 c y);have aA:=hL.ao H;have hB:B<=w0.heap.size:=hL.1;have aK:=d.n2;refine(Sb w (A.BO P z (B8 c y)).1 hS I aA (λk H=>Az hB (J k H)) hl O (A':=(A.BO P z (B8 c y)).2.1) (P':=(A.BO P z (B8 c y)).2.2) λw1 F0 hA h0 aE aB=>?_).mono ?_
  ·refine SQ KZ (by omega) w1 hA h0 z (B8 c y) W (λA6 aI=>?_) ⟨by have:=d.bO;omega,Az (IF d.bO (show 1000-300*(n+1)<=1000 by omega)) (by omega)⟩ ⟨d.CT.DE.1,by have:=d.A9;omega⟩ d.cB d.CT.cj d.Hl ⟨by omega,by omega,by omega⟩
    (Az (IF d.jl (show 1000-300*(n+1)<=1000 by omega)) (by omega)) d.CT.cE d.CT.cS (by have:=d.jl;omega) aE aB
   rw[d.CT.b2]at aI;cases aI;(have e:sg.flatMap (·.2)++(P.Ag A.j.Ah).1=Ci sg cl ol:=by rw[d.CT.Ag (by have:=d.bn;rw[B2]at this;omega)];rfl);rw[e];refine⟨Az d.DA (by omega),λp V=>?_⟩;rcases B3.1 V with V|V
   ·exact d.CT.cI p V
   ·exact d.CT.bK p V
  ·rintro e w'⟨rfl,Z,aH,h2,h3,h4⟩;rw[f1]at h2 ⊢;exact⟨rfl,O,ab,b,z,L,_,_,aH,aD,aG,aF,h2,h3,λk U=>(h4 k U).elim (J k) λh=>Az H.Af h,H.bH Z J,W,Y,f2,f3⟩
 Ew:=by
  rintro n w c x⟨O,ab,b,z,L,A,P,FT,sg,cl,ol,⟨lv,F0,q,aJ⟩,I,J,H,W,Y,d,hs⟩-h0 Z;refine(Og w x q.Ae q.Dn ⟨h0,Z⟩ hl O).mono ?_;rintro e w'⟨rfl,lv',aL,hS,hG⟩;obtain⟨k1,aH,h2,h3,h4⟩:=q.bW aJ hS;refine⟨rfl,KQ O h0 Z,ab,b,z,aL,A,P,aH,sg,cl,ol,h2,h3,λk U=>(h4 k U).elim (J k) λh=>Az H.Af h,H.bH k1 J,W,Y.Ew (λp V=>by simp at V;subst V;exact ht) ?_ hG,d,hs⟩;obtain⟨c1,c2⟩:=O;unfold D4;split<;>omega
def Dd(room:Int):PD:=⟨⟨[],[],[],G9 room⟩,λ_=>([],0)⟩
def JT(room:Int)(nm:Bs):(Dd room).bs nm=none:=rfl
def ME(room:Int):(Dd room).ad=[]:=rfl
def JS{room:Int}(h:0<=room/\room<=9223372036854775807):Fit (Dd room) 1 1 1:=
 ⟨by simp[Dd],by simp[Dd],λl d=>by simp[Dd]at d,by simp[Dd],λf _=>by simp[Dd],by simp only[Dd,G9];omega,by simp[Dd,G9]⟩
def RU{room:Int}{N R:Nat}(hN:N<=4611686018427387904)(hR:(R:Int)<=room):Cm (Dd room) N R:=
 ⟨rfl,rfl,rfl,by simp only[Dd,G9];omega,by simp only[Dd,G9,AT];omega,by simp[Dd],by simp[Dd]⟩
def JR(room:Int):Ar.aP (Dd room)=.ok (⟨⟨1,[]⟩,⟨[],0,0,none⟩,0,[]⟩,[]):=by
 unfold Ar.aP;rw[Mw (JT room AF)];rfl
def Qd{B:Nat}(w:World)(room:Int)(b:Nat)(Ft:Nat->Prop)(h:B4 w b (Dd room) Ft)(z:∀k,Ft k->k<w.heap.size)(hr:0<=room/\room<=9223372036854775807)(W:Lets B w)(Y:Fg w)(d y Ab:Int)(hl:1<=d/\d<=4611686018427387904)(Z:1<=y/\y<=4611686018427387904)(hc:AE Ab):
 Ac 22 #[A4 b,.agg #[A0 d,A0 y],A0 Ab] w λe w'=>
  ∃ab E,e=.returned (.tuple #[A4 E,A0 0])/\w.heap.size<=E/\Al w Ft w' (λw' J=>SF w' E ab b 0 d y Ab false (λ_=>[]) ⟨⟨1,[]⟩,⟨[],0,0,none⟩,0,[]⟩ (Dd room) J):=by
 refine(Q7 w d y Ab hl Z hc z (P:=Dd room) (Ft:=Ft) (b:=b) (λA V h=>by rw[JR]at h;cases h;simp) λU H=>?_).mono ?_
 ·refine SO U (AP.au h z H) (λk I=>Bc (z k I) H.Af) (JS hr) ⟨by omega,by omega,by omega⟩ (by omega) (W.ao H) (Y.ao H) (λnm O=>by rw[ME]at O;cases O) (λix L=>?_) (λfirst=>?_)
  ·rw[Mw (JT room AF)]at L;cases L;simp
  ·rw[ME];simp[Bn,PD.Ag,PD.bd]
 ·rintro e w' (⟨n,h1,-⟩|⟨A,V,ab,E,h1,rfl,h2,h3⟩)
  ·rw[JR]at h1;cases h1
  ·rw[JR]at h1;cases h1;exact⟨ab,E,rfl,h2,h3⟩
def PW{B:Nat}(w:World)(hL:Lets B w)(hE:Fg w)(d y z L:Int)(O:AE d)(aG:AE y)(aD:AE z)(aJ:AE L):
 Ac 9 #[A0 d,A0 y,A0 z,A0 L] w (Ak (.bool true) λw'=>A2 A7 w w'):=by
 obtain⟨p1,p2⟩:=Hh y 4611686018427387904 (by decide);have hl:1<=1+Dv y 4611686018427387904/\1+Dv y 4611686018427387904<=4611686018427387904:=by omega
 refine PT (λw'=>A2 A7 w w') w d y z L O aG aD aJ ?_;generalize 1+Dv y 4611686018427387904=long at hl;have I:AE (F6 d long):=by
  obtain⟨t1,t2⟩:=O;unfold F6;split<;>constructor<;>omega
 refine(Qk (F:=λ_=>([],0)) 1152921504606846976 w).mono ?_;rintro e w1⟨rfl,aH,Z,hz1⟩;refine⟨_,rfl,λAx hw=>?_⟩;refine(Qd (B:=B) w1 1152921504606846976 w.heap.size (One w.heap.size) aH (λk E=>by cases E;omega) (by omega) (hL.ao Z) (hE.ao Z) long Ax (F6 d long) hl (by omega) I).mono ?_;rintro e w2⟨ab,sb,rfl,hsb,hI⟩;obtain⟨k2,aK,hS,W,aI⟩:=hI;have H:∀k,aK k->w.heap.size<=k:=λk E=>(aI k E).elim (λh=>by cases h;exact Aw _) λh=>Az Z.Af h
 have aF:A2 A7 w w2:=Z.bH k2 λk E=>by cases E;exact Aw _
 refine⟨sb,rfl,Nc w d long sb,Q4 w hL d long sb O hl,?_,?_⟩
 ·rintro n w' c⟨-,_,_,_,_,_,_,_,_,_,_,-,-,-,E,-⟩;exact E
 ·have hp:Cw (((4:Nat):Int),d,9):=⟨by simp,O,(show AE 9 from ⟨by decide,by decide⟩)⟩;have V:=Lay.ei (JT 1152921504606846976);have aB:Cm (Dd 1152921504606846976) (3003+0+3) 33000:=RU (by omega) (by omega);obtain⟨a1,a2,a3,a4,a5⟩:=V.aa (N:=3003) (by simpa using aB) (λ_=>rfl) (((4:Nat):Int),d,9) hp (by omega);have U:=(JS (room:=1152921504606846976) (by omega)).dL (A:=⟨⟨1,[]⟩,⟨[],0,0,none⟩,0,[]⟩) (((4:Nat):Int),d,9);obtain⟨s1,s2⟩:=SZ ⟨⟨1,[]⟩,⟨[],0,0,none⟩,0,[]⟩ (Dd 1152921504606846976) (((4:Nat):Int),d,9);have aE:By (0+1)/\AE (0+1)/\AE 0:=⟨Fo (by omega) (by omega),by constructor<;>omega,by constructor<;>omega⟩;refine(PC w2 (((4:Nat):Int),d,9) hS W hp (λ_=>aE) (by simp) (hL.ao aF) (λk E=>Az hL.1 (H k E)) (JS (by omega)) ⟨by omega,by omega,by omega⟩ (λ_ _=>by simp) hl I).mono ?_;rintro e w3⟨rfl,k3,aL,J,Y,aA⟩;rw[a2]at J ⊢;rw[a1]at J;have hrel:=(Rel.bx long (F6 d long)).aH (λ_ _=>List.Pairwise.nil) (s:=4) (by omega) (t:=d) (v:=9) O;refine⟨rfl,I,ab,w.heap.size,Ax,_,_,_,aL,[],[],some (Option.getD none []++[(((4:Nat):Int),d,9)]),J,Y,λk E=>(aA k E).elim (H k) λh=>Az aF.Af h,aF.bH k3 H,by omega,by simpa using hrel,?_,by simp[Bf]⟩;refine⟨by omega,a4,a3.U (by omega) (by omega),U.U (by omega) (by omega) (by omega),by simp[Ci,Bf],by simp,?_,a5,?_,?_⟩
  ·rw[a4.cQ];simp[shut]
  ·rcases s2 with s2|s2
   ·rw[s2];dsimp only;omega
   ·rw[s2];dsimp only;omega
  ·rw[s1];dsimp only;omega
end
section
open Go.ChangeAt Go.ChangeShapes Go.RowKit Go.WideShapes
def Tryz.own:ownKnob Tryz.prog.godebug=none:=by kernel_rfl
def Tryz.ck:Tryz.prog.globalNamed "tides/files.letters" = some 0:=by kernel_rfl
def Tryz.cc:Tryz.prog.globalNamed "internal/strconv.uint64pow10" = some 3:=by kernel_rfl
def Tryz.ct:Tryz.prog.globalNamed "strconv.ErrRange" = some 2:=by kernel_rfl
def Tryz.cG:Tryz.prog.globalNamed "strconv.ErrSyntax" = some 1:=by kernel_rfl
def Tryz.ds:(Tryz.prog.globals[0]?).map (·.type)=some 201:=by kernel_rfl
def Tryz.df:(Tryz.prog.globals[3]?).map (·.type)=some 333:=by kernel_rfl
def Tryz.dc:(Tryz.prog.globals[2]?).map (·.type)=some 197:=by kernel_rfl
def Tryz.du:(Tryz.prog.globals[1]?).map (·.type)=some 197:=by kernel_rfl
def Tryz.dh:Tryz.prog.cellsOf 201=5:=by kernel_rfl
def Tryz.b5:Tryz.prog.cellsOf 9=1:=by kernel_rfl
def Tryz.dJ:Tryz.prog.cellsOf 333=20:=by kernel_rfl
def Tryz.dA:Tryz.prog.cellsOf 275=1:=by kernel_rfl
def Tryz.cq:Tryz.prog.cellsOf 325=1:=by kernel_rfl
def Tryz.star: "*" ++ "errors.errorString" = "*errors.errorString":=by decide
def Tryz.cL(u:TypeId)(h:Tryz.prog.typeName? 3 u=some "*errors.errorString"):u=323:=
 typeName_ptr_named (nm:= "errors.errorString") (by rw[Tryz.star];kernel_rfl) (by kernel_rfl) (by decide) u (by rw[Tryz.star];exact h)
def QI{d:Nat}{w:World}{E:List Value}{s:List (List UInt8)}{p:List MemPlace}(h:DataW.trod (λ_=>()) Tryz.prog w 0 (λ_=>true) false d 201 E=some (.agg (s.map λx=>.lit (.string x)),p))(k:Nat)(I:k<5)(x:List UInt8)(U:s[k]?=some x):E[k]?=some (.string ⟨x.toArray⟩):=by
 cases d with
 | zero=>simp[DataW.trod]at h
 | succ d=>
  simp only[DataW.trod,underlying201,Tryz.b5,Tryz.dh,Nk]at h;split at h
  ·obtain⟨xs,V,J⟩:=T8.1 h;have z:xs.map (·.1)=s.map λx=>DataW.lit (.string x):=by
    have:=ER Prod.fst J;simpa using this
   obtain⟨b,H,O⟩:=Lib.mapM_at V k k (by simp[I]);obtain⟨s',W,rfl,_⟩:=DataW.trod_string underlying9 O;have L:E[k]?=some (.string s'):=by
    have:=ER (·[0]?) W;simpa[List.getElem?_take,List.getElem?_drop] using this
   (have y:(xs.map (·.1))[k]?=some (DataW.lit (.string s'.data.toList)):=by simp[H]);rw[z]at y;simp[U]at y;rw[L,y]
  ·cases h
def QT{W:World}(h:laidMetH Tryz.prog Rows.writesUptoRow.laid W):Lets W.heap.size W:=by
 have h0:=h;have Z:laidMet Tryz.prog (("internal/strconv.uint64pow10",Lib.tabData .u64 Lib.pow10Tab):: [("strconv.ErrRange",Rows.laid_strconv_ErrRange),("strconv.ErrSyntax",Rows.laid_strconv_ErrSyntax),("tides/files.letters",Rows.laid_tides_files_letters)]) W:=laidMet.tail (laidMet.tail h0);have J:Lib.TabIs Tryz.prog W "internal/strconv.uint64pow10" .u64 Lib.pow10Tab:=Lib.tabIs_of_head Tryz.cc Tryz.df underlying333 underlying275 Tryz.dA Tryz.dJ Z;have h6:=laidMet.tail (laidMet.tail (laidMet.tail Z));obtain⟨ps,⟨g',t',cs,fuel,p,q,H,I,d,hd,_,_⟩,_⟩:=h6;obtain rfl:=K5 (Tryz.ck.symm.trans H);obtain rfl:=K5 (Tryz.ds.symm.trans I);have z:=QI (s:=[[],[108],[115],[105],[100]]) hd;have y:∀k:Nat,1<=k->k<=4->W.cell? ⟨0,k,none⟩=some (.string ⟨(C6 k).toArray⟩):=λk Y U=>by
  rw[N3 Tryz.ck d k];have:k=1\/k=2\/k=3\/k=4:=by omega
  rcases this with rfl|rfl|rfl|rfl
  ·simpa[C6] using z 1 (by omega) _ rfl
  ·simpa[C6] using z 2 (by omega) _ rfl
  ·simpa[C6] using z 3 (by omega) _ rfl
  ·simpa[C6] using z 4 (by omega) _ rfl
 have O:=Gb W _ (y 1 (by omega) (by omega));have L:=J.cell Tryz.cc 0 (by decide);have E:=Gb W _ L;refine⟨Aw _,λw' V=>⟨λk Y U=>?_,?_⟩⟩
 ·rw[<-y k Y U];exact V.cell O
 ·unfold Lib.TabIs at J ⊢;rw[<-J];unfold World.var?;rw[Tryz.cc];simp only[Option.bind_some];rw[V.block _ E]
def QU{W:World}(h:laidMetH Tryz.prog Rows.writesUptoRow.laid W):Fg W:=by
 have H:=h;have z:=laidMet.tail (laidMet.tail (laidMet.tail H));have E:=laidMet.tail z;obtain⟨a0,_,y,_⟩:=laid_sentinel z Tryz.ct Tryz.dc underlying197 Tryz.cL underlying323 underlying325 rfl rfl underlying9 Tryz.cq Tryz.b5;obtain⟨b0,_,d,_⟩:=laid_sentinel E Tryz.cG Tryz.du underlying197 Tryz.cL underlying323 underlying325 rfl rfl underlying9 Tryz.cq Tryz.b5;exact⟨⟨_,by simpa using N3 Tryz.cG d 0,.inr ⟨_,_,rfl⟩⟩,_,by simpa using N3 Tryz.ct y 0,.inr ⟨_,_,rfl⟩⟩
def HC{z:Int}(h:(Lit.int .i64 z).wf=true):AE z:=by
 simp[Lit.wf]at h;have e:IntKind.i64.min = -9223372036854775808:=rfl;rw[e]at h;exact h
abbrev Oo:ByteArray:={data:=#[105,110,118,97,108,105,100,32,115,121,110,116,97,120]}
abbrev P6:ByteArray:={data:=#[118,97,108,117,101,32,111,117,116,32,111,102,32,114,97,110,103,101]}
def Gu(v:Array Value):Obj->Obj
 | .cells _ t frozen=>.cells v t frozen
 | o=>o
def Ff(os:Os)(W:World):Prop:=W =
 let w0:=World.holding Tryz.prog os ⟨#[.cells #[.string Oo] 325,.cells #[.string P6] 325],#[],[]⟩
 let h0:=w0.heap
 let h1:=h0.modify 0 (Gu #[.string ⟨#[]⟩,.string ⟨#[108]⟩,.string ⟨#[115]⟩,.string ⟨#[105]⟩,.string ⟨#[100]⟩])
 let h2:=h1.modify 1 (Gu #[.iface 323 (A4 ((World.holding Tryz.prog default ⟨#[],#[],[]⟩).heap.size))])
 let h3:=h2.modify 2 (Gu #[.iface 323 (A4 ((World.holding Tryz.prog default ⟨#[],#[],[]⟩).heap.size+1))])
 let h4:=h3.modify 3 (Gu #[.int .u64 1,.int .u64 10,.int .u64 100,.int .u64 1000,.int .u64 10000,.int .u64 100000,.int .u64 1000000,.int .u64 10000000,.int .u64 100000000,.int .u64 1000000000,.int .u64 10000000000,.int .u64 100000000000,.int .u64 1000000000000,.int .u64 10000000000000,.int .u64 100000000000000,.int .u64 1000000000000000,.int .u64 10000000000000000,.int .u64 100000000000000000,.int .u64 1000000000000000000,.int .u64 10000000000000000000])
 let h5:=h4.modify 5 (Gu #[.int .u8 0,.int .u8 1,.int .u8 28,.int .u8 2,.int .u8 29,.int .u8 14,.int .u8 24,.int .u8 3,.int .u8 30,.int .u8 22,.int .u8 20,.int .u8 15,.int .u8 25,.int .u8 17,.int .u8 4,.int .u8 8,.int .u8 31,.int .u8 27,.int .u8 13,.int .u8 23,.int .u8 21,.int .u8 19,.int .u8 16,.int .u8 7,.int .u8 26,.int .u8 12,.int .u8 18,.int .u8 6,.int .u8 11,.int .u8 5,.int .u8 10,.int .u8 9])
 let h6:=h5.modify 6 (Gu #[.int .u8 0,.int .u8 1,.int .u8 56,.int .u8 2,.int .u8 57,.int .u8 49,.int .u8 28,.int .u8 3,.int .u8 61,.int .u8 58,.int .u8 42,.int .u8 50,.int .u8 38,.int .u8 29,.int .u8 17,.int .u8 4,.int .u8 62,.int .u8 47,.int .u8 59,.int .u8 36,.int .u8 45,.int .u8 43,.int .u8 51,.int .u8 22,.int .u8 53,.int .u8 39,.int .u8 33,.int .u8 30,.int .u8 24,.int .u8 18,.int .u8 12,.int .u8 5,.int .u8 63,.int .u8 55,.int .u8 48,.int .u8 27,.int .u8 60,.int .u8 41,.int .u8 37,.int .u8 16,.int .u8 46,.int .u8 35,.int .u8 44,.int .u8 21,.int .u8 52,.int .u8 32,.int .u8 23,.int .u8 11,.int .u8 54,.int .u8 26,.int .u8 40,.int .u8 15,.int .u8 34,.int .u8 20,.int .u8 31,.int .u8 10,.int .u8 25,.int .u8 14,.int .u8 19,.int .u8 9,.int .u8 13,.int .u8 8,.int .u8 7,.int .u8 6])
 {w0 with heap:=h6}
def QS(os:Os)(W:World)(h:Ff os W)(args:Array Value):laidMet Tryz.prog Rows.writesUptoRow.laid (W.forCall (λ_ _=>0) ⟨#[],args,[]⟩).memory:=by
 unfold Ff at h;subst h;exact laidMet_of_run' 8 (by kernel_rfl) (by kernel_rfl)
end
end Go.Proofs.YtodcnkbblippnaaGreatDoor
