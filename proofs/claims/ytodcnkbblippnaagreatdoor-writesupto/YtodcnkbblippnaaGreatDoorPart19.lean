/- Part 19 of a proof: walks of the program. -/
import Derived.Test.YtodcnkbblippnaaGreatDoorPart18
namespace Go.Proofs.YtodcnkbblippnaaGreatDoor
set_option maxRecDepth 100000
set_option maxHeartbeats 32000000
set_option linter.defProp false
open Go.Proofs.Tryz
section
open Go.RowKit
def Jc(n:DN):(bg n).2.2.AA=n.AA:=by
 unfold bg;dsimp only
 split
 ·rfl
 ·split
  ·rfl
  ·split<;>rfl
def Nj{F G:Nat->FC}:∀ {es:List AN},(∀e∈es,(G e.2).1.length=(F e.2).1.length)->AX G es=AX F es
 | [],_=>rfl
 | e::r,h=>by
  simp only[AX];rw[h e (BQ ..),Nj λx d=>h x (BW _ d)]
section
variable {P P':PD} {A:Ar} {J:Jn} {nm:Bs}
def Q4(d:Extra P nm P'):AX P'.F P'.D.A5<=AX P.F P.D.A5+(P'.F P.D.AV).1.length:=by
 have old:AX P'.F P.D.A5=AX P.F P.D.A5:=Nj λe z=>by
  rw[d.Et _ λh=>P.D.cx (h ▸ .inl ⟨e,z,rfl⟩)]
 rcases d.dirs with⟨d1,_⟩|⟨_,d1,_⟩
 ·rw[d1,old];omega
 ·rw[d1,Kg,old];simp[AX]
def Q3(P:PD)(x:ByteArray):AX (P.ae x).2.F (P.ae x).2.D.A5=AX P.F P.D.A5:=by
 unfold PD.ae Cz;split
 ·rfl
 ·dsimp only
  refine Nj λe _=>?_;split
  ·unfold upd;split
   ·rename_i h;rw[h]
   ·rfl
  ·rfl
def Q2:∀(l:List Bs) (P:PD),AX (PD.aw l P).2.F (PD.aw l P).2.D.A5=AX P.F P.D.A5
 | [],_=>rfl
 | nm::r,P=>by
  unfold PD.aw;split
  ·exact Q3 P _
  ·rw[Q2 r,Q3]
def VL(A:Ar)(P:PD):AX (A.I P).2.2.F (A.I P).2.2.D.A5=AX P.F P.D.A5:=by
 unfold Ar.I;split<;>exact Q2 _ P
def Nz(P:PD)(x:ByteArray):(P.ae x).2.D.n.AA=P.D.n.AA:=by
 unfold PD.ae Cz;split
 ·rfl
 ·exact Jc _
def QN:∀(l:List Bs) (P:PD),(PD.aw l P).2.D.n.AA=P.D.n.AA
 | [],_=>rfl
 | nm::r,P=>by
  unfold PD.aw;split
  ·exact Nz P _
  ·rw[QN r,Nz]
def Kk(A:Ar)(P:PD):(A.I P).2.2.D.n.AA=P.D.n.AA:=by
 unfold Ar.I;split<;>exact QN _ P
def NB(P:PD)(x:ByteArray):(P.ao x).2.D.n.AA=P.D.n.AA:=by
 unfold PD.ao CM;split
 ·rfl
 ·dsimp only
  split<;>exact Jc _
def QP(P:PD)(x:ByteArray)(l:Bs):(P.aq x l).2.D.n.AA=P.D.n.AA:=by
 have d:∀D F f y n0 e,(BK D F f y n0 e).2.1.n.AA=D.n.AA:=λD F f y n0 e=>by
  unfold BK;split
  ·dsimp only;split<;>rfl
  ·rfl
 unfold PD.aq Bx;split
 ·rfl
 ·dsimp only
  split
  ·rw[d];exact Jc _
  ·split
   ·rw[d];exact Jc _
   ·exact Jc _
def NC(J:Jn)(P:PD):(J.av P).2.2.D.n.AA=P.D.n.AA:=by
 unfold Jn.av;split
 ·exact NB P _
 ·dsimp only
  have h:((P.ao (Ab (Ah (J.Ac+1)))).2.af (Ab (Ah (J.Ac+1))) (AI (Ah (J.Ac+1))) (AO J.puts)).2.2.D.n.AA=P.D.n.AA:=(QP _ _ _).trans (NB P _);split<;>exact h
def U6{x:ByteArray}{l:Bs}(h:(P.aq x l).1=6):P.D.n.AA-AX P.F P.D.A5<l.length:=by
 have L:=Hc P.D.n;have d:∀D n0,∀e:Int,e=0\/e=5->(BK D P.F 0 (Ab l) n0 e).1=6->e=0/\n0>G9 D P.F:=λD n0 e he h=>by
  unfold BK at h;split at h
  ·rename_i z;dsimp only at h;split at h
   ·rename_i W;exact⟨W,z⟩
   ·omega
  ·dsimp only at h;omega
 have O:∀D f n0 e,(BK D P.F f (Ab l) n0 e).1=(BK D P.F 0 (Ab l) n0 e).1:=λD f n0 e=>by unfold BK;split<;>rfl
 have I:((Ab l).size:Int)=l.length:=by rw[Kw]
 unfold PD.aq Bx at h;split at h
 ·cases h
 ·rename_i f hf;dsimp only at h;split at h
  ·rw[O]at h;obtain⟨_,z⟩:=d _ _ _ L h;unfold G9 at z;dsimp only at z;rw[Jc,I]at z;omega
  ·rename_i E;split at h
   ·rw[O]at h;obtain⟨X,_⟩:=d _ _ _ L h;exact absurd (GW X) E
   ·omega
def A1R(P:PD)(x:ByteArray):(P.ao x).1≠6:=by
 have:=Hc P.D.n;unfold PD.ao CM;split
 ·simp
 ·dsimp only;omega
def A2J(h:(J.av P).1=6):P.D.n.AA-AX P.F P.D.A5<12:=by
 obtain⟨d,e2⟩:=KM P (Ah (J.Ac+1));have z:(P.ao (Ab (Ah (J.Ac+1)))).2.F P.D.AV=([],0):=by unfold PD.ao;simp[upd]
 have hu:=Q4 d;rw[z]at hu;unfold Jn.av at h;split at h
 ·exact absurd h (A1R P _)
 ·dsimp only at h;split at h
  ·have:=U6 (P:=(P.ao (Ab (Ah (J.Ac+1)))).2) (x:=Ab (Ah (J.Ac+1))) (l:=AS (AI (Ah (J.Ac+1))) (AO J.puts)) h;rw[EX,CL,NB]at this;simp only[ID]at hu;omega
  ·cases h
def Rx{p:Pu}(h:(J.ay P p).2.1=6):P.D.n.AA-AX P.F P.D.A5<21:=by
 unfold Jn.ay at h;split at h
 ·cases h
 ·rename_i n s _;have:=U6 (P:=P) (x:=Ab (Ah n)) (l:=AS s (Be p.1 p.2.1 p.2.2)) h;rw[EX,Fj]at this;omega
def A0m{p:Pu}(h:(J.af P p).2.1=6):P.D.n.AA-AX P.F P.D.A5<33:=by
 unfold Jn.af at h;split at h
 ·split at h
  ·have:=A2J h;omega
  ·have z:=Rx h;obtain⟨d,⟨j,E⟩,_⟩:=MB P J;have hu:=Q4 d;rw[E]at hu;dsimp only at hu;rw[BI,EX,CL]at hu;rw[NC]at z;omega
 ·have:=Rx h;omega
def A21{p:Pu}(h:(A.af P p).2.1=6):P.D.n.AA-AX P.F P.D.A5<200:=by
 unfold Ar.af at h;split at h
 ·exact absurd h (Qz A P)
 ·have:=A0m h;rw[Kk,VL]at this;omega
end
def A0K{l:List Pt}(h:Dz l)(t v:Int)(x:Pt):x∈C2 l t v↔x=(t,v)\/(x∈l/\x.1≠t):=by
 induction l with
 | nil=>simp[C2]
 | cons e r ih=>
  obtain⟨a,b⟩:=e;have z:=Dn.1 h;have E:=ih z.2;simp only[C2];by_cases I:a<t
  ·rw[Ai I];simp only[BX,E];constructor
   ·rintro (rfl|h|⟨h,d⟩)
    ·exact .inr ⟨.inl rfl,by simp only;omega⟩
    ·exact .inl h
    ·exact .inr ⟨.inr h,d⟩
   ·rintro (h|⟨h|h,d⟩)
    ·exact .inr (.inl h)
    ·exact .inl h
    ·exact .inr (.inr ⟨h,d⟩)
  ·rw[Ae I];by_cases d:a=t
   ·subst d;rw[Ai rfl];simp only[BX];constructor
    ·rintro (h|h)
     ·exact .inl h
     ·exact .inr ⟨.inr h,λe=>by have:=z.1 x h;simp only at this;omega⟩
    ·rintro (h|⟨h|h,d⟩)
     ·exact .inl h
     ·subst h;exact absurd rfl d
     ·exact .inr h
   ·rw[Ae d];simp only[BX];constructor
    ·rintro (h|h|h)
     ·exact .inl h
     ·subst h;exact .inr ⟨.inl rfl,d⟩
     ·exact .inr ⟨.inr h,λe=>by have:=z.1 x h;simp only at this;omega⟩
    ·rintro (h|⟨h|h,_⟩)
     ·exact .inl h
     ·exact .inr (.inl h)
     ·exact .inr (.inr h)
def Yc(l:List Pu)(p:Pu)(k a b life A7:Int):refQ (l++[p]) k a b life A7=Fi k a b life A7 (refQ l k a b life A7) p:=by unfold refQ;rw[MY];rfl
def NK(l:List Pu)(k a b life A7:Int):Dz (refQ l k a b life A7):=by
 have:=(NL l k a b life A7 l.length (Ao _)).1
 rwa [Cc]at this
def LN(k a b life A7:Int)(x:Pt):∀n (l:List Pu),l.length=n->(x∈refQ l k a b life A7↔(a<=x.1/\x.1<=b/\FF x.1 life A7=true)/\Cg l k x.1=some x.2):=by
 intro n
 induction n with
 | zero=>
  intro l O;obtain rfl:l=[]:=Hj.1 O;simp[refQ,Cg]
 | succ n ih=>
  intro l O;have I:l≠[]:=λh=>by subst h;simp at O
  obtain⟨p,hp⟩:∃p,l=l.dropLast++[p]:=⟨l.getLast I,(N2 I).symm⟩;have X:l.dropLast.length=n:=by rw[UJ,O];rfl
  have d:=ih l.dropLast X;rw[hp,Yc,Ik];generalize l.dropLast=m at d;unfold Fi;by_cases E:Gi k a b life A7 p=true
  ·rw[Ai E,A0K (NK _ _ _ _ _ _),d];unfold Gi at E;simp only[FZ,DO]at E;obtain⟨⟨⟨Y,q2⟩,q3⟩,q4⟩:=E;by_cases z:p.2.1=x.1
   ·rw[Ai ⟨Y,z⟩];constructor
    ·rintro (h|⟨_,h⟩)
     ·subst h;exact⟨⟨q2,q3,q4⟩,rfl⟩
     ·exact absurd z.symm h
    ·rintro⟨_,h⟩;refine .inl ?_;(have:p.2.2=x.2:=by simpa using h);rw[z,this]
   ·rw[Ae λh=>z h.2];constructor
    ·rintro (h|⟨h,_⟩)
     ·subst h;exact absurd rfl z
     ·exact h
    ·intro h;exact .inr ⟨h,λe=>z e.symm⟩
  ·rw[Ae E,d];by_cases L:p.1=k/\p.2.1=x.1
   ·rw[Ai L]
    have W:¬(a<=x.1/\x.1<=b/\FF x.1 life A7=true):=λh=>E (by
     unfold Gi;rw[L.1,L.2];simp only[OQ,Jl,FZ,DO]
     exact⟨⟨h.1,h.2.1⟩,h.2.2⟩)
    simp only[W,false_and]
   ·rw[Ae L]
def Qx:∀ {l l':List Pt},Dz l->Dz l'->(∀x,x∈l↔x∈l')->l=l'
 | [],[],_,_,_=>rfl
 | [],y::r,_,_,h=>by have:=(h y).2 (BQ ..);cases this
 | x::r,[],_,_,h=>by have:=(h x).1 (BQ ..);cases this
 | x::r,y::s,h1,h2,h=>by
  have E:=Dn.1 h1;have d:=Dn.1 h2;have L:x=y:=by
   rcases BX.1 ((h x).1 (BQ ..)) with e|e
   ·exact e
   ·rcases BX.1 ((h y).2 (BQ ..)) with O|O
    ·exact O.symm
    ·have a:=d.1 x e;have b:=E.1 y O;omega
  subst L
  congr 1
  refine Qx E.2 d.2 λz=>⟨λI=>?_,λI=>?_⟩
  ·rcases BX.1 ((h z).1 (BW _ I)) with e|e
   ·subst e;have:=E.1 z I;omega
   ·exact e
  ·rcases BX.1 ((h z).2 (BW _ I)) with e|e
   ·subst e;have:=d.1 z I;omega
   ·exact e
def Yd{l l':List Pu}{k a b life A7:Int}(h:∀t,a<=t->t<=b->FF t life A7=true->Cg l k t=Cg l' k t):refQ l k a b life A7=refQ l' k a b life A7:=by
 refine Qx (NK _ _ _ _ _ _) (NK _ _ _ _ _ _) λx=>?_;rw[LN k a b life A7 x _ l rfl,LN k a b life A7 x _ l' rfl];constructor
 ·rintro⟨d,z⟩;exact⟨d,by rw[<-h x.1 d.1 d.2.1 d.2.2];exact z⟩
 ·rintro⟨d,z⟩;exact⟨d,by rw[h x.1 d.1 d.2.1 d.2.2];exact z⟩
def J8(life d:Int):Bool:=decide (1<=life/\life<=4611686018427387904/\1<=d/\d<=4611686018427387904)
def A2c(w:World)(life d:Int):
 Ag 45 #[.agg #[A0 life,A0 d]] w (Aj (.bool (J8 life d)) λw'=>A4 Aa w w'):=by
 obtain⟨q,h⟩:∃q,J8 life d=q:=⟨_,rfl⟩;rw[h];have z:=A1 h;by_cases h1:1<=life<;>by_cases h2:life<=4611686018427387904<;>by_cases h3:1<=d<;>by_cases h4:d<=4611686018427387904
 all_goals try (exfalso;omega)
 all_goals
  go_enter func45,ntmps45
  go_wp2;go_ret;refine⟨?_,(A4.C _ _).ah _⟩;rw[<-z.o];simp[J8]
  try omega
end
section
open Go.RowKit
attribute [local go_sem ↓] Go.wp_at_zero Go.wp_at_succ

end
section
open Go.RowKit
def F7(L:Nat->List Pt)(puts:List Pu)(life A7:Int):Prop:=∀k:Nat,k<8->piece (L k) (max (-9223372036854775808) (AT A7 life)) 9223372036854775807=refQ puts k (-9223372036854775808) 9223372036854775807 life A7
def Rf(puts:List Pu)(d a b life A7:Int):(refQ puts d a b life A7).length<=puts.length:=by
 have:=(NL puts d a b life A7 puts.length (Ao _)).2
 rwa [Cc]at this
def Rel(L:Nat->List Pt)(puts:List Pu)(life A7:Int):Prop:=∀k:Nat,k<8->(L k).filter (λx=>decide (AT A7 life<=x.1))=refQ puts k (-9223372036854775808) 9223372036854775807 life A7
def Re(puts:List Pu)(s a b l c a' I l' E:Int)(g:Int->Bool)(h:∀p∈puts,Gi s a' I l' E p=(Gi s a b l c p&&g p.2.1)):
 refQ puts s a' I l' E=(refQ puts s a b l c).filter (λx=>g x.1):=by
 have key:∀(L:List Pu) (d:List Pt),Dz d->(∀p∈L,Gi s a' I l' E p=(Gi s a b l c p&&g p.2.1))->
  L.foldl (Fi s a' I l' E) (d.filter λx=>g x.1)=(L.foldl (Fi s a b l c) d).filter (λx=>g x.1):=by
  intro L
  induction L with
  | nil=>intro d _ _;rfl
  | cons p r ih=>
   intro d Y X;have O:=X p (by simp);simp only[Pr];by_cases q:Gi s a b l c p=true
   ·(have e1:Fi s a b l c d p=C2 d p.2.1 p.2.2:=by unfold Fi;rw[Ai q]);have W:Fi s a' I l' E (d.filter λx=>g x.1) p=(C2 d p.2.1 p.2.2).filter (λx=>g x.1):=by
     unfold Fi;rw[O,q,Jl,T7 Y]
    rw[e1,W];exact ih _ (KJ Y _ _) λp z=>X p (BW _ z)
   ·(have q':Gi s a b l c p=false:=by simpa using q);(have e1:Fi s a b l c d p=d:=by unfold Fi;rw[q'];rfl);have W:Fi s a' I l' E (d.filter λx=>g x.1) p=d.filter λx=>g x.1:=by
     unfold Fi;rw[O,q',V3];rfl
    rw[e1,W];exact ih _ Y λp z=>X p (BW _ z)
 exact key puts [] List.Pairwise.nil h
def KX{t life A7:Int}(d:Ax t):FF t life A7=decide (AT A7 life<=t):=(Zg A7 life t d).symm
def Rel.dt{L:Nat->List Pt}{puts:List Pu}{life A7:Int}(h:Rel L puts life A7)(z:∀p∈puts,Ax p.2.1){k:Nat}(E:k<8)(a b:Int):
 piece (L k) (max a (AT A7 life)) b=refQ puts k a b life A7:=by
 have e:=Re puts k (-9223372036854775808) 9223372036854775807 life A7 a b life A7 (λt=>decide (a<=t)&&decide (t<=b)) λp d=>by
  obtain⟨O,I⟩:=z p d;unfold Gi;have d1:=Ct O;have d2:=Ct I;rw[d1,d2];cases decide (p.1=(k:Int))<;>cases decide (a<=p.2.1)<;>cases decide (p.2.1<=b)<;>cases FF p.2.1 life A7<;>rfl
 rw[e,<-h k E,UL];unfold piece
 congr 1
 funext x
 apply N8.2;simp only[FZ,DO];omega
def Rel.cB{L:Nat->List Pt}{puts:List Pu}{life A7:Int}(h:Rel L puts life A7)(d:∀p∈puts,Ax p.2.1):F7 L puts life A7:=λ_ z=>h.dt d z _ _
def Rel.bN(life A7:Int):Rel (λ_=>[]) [] life A7:=λ_ _=>by simp[refQ]
def Rel.ay{L:Nat->List Pt}{puts:List Pu}{life A7:Int}(h:Rel L puts life A7)(O:∀k,k<8->Dz (L k)){s:Nat}(hs8:s<8){t v:Int}(E:Ax t):
 Rel (Es L (AT A7 life) s t v) (puts++[((s:Int),t,v)]) life A7:=by
 intro k z;have W:refQ (puts++[((s:Int),t,v)]) k (-9223372036854775808) 9223372036854775807 life A7=Fi k (-9223372036854775808) 9223372036854775807 life A7 (refQ puts k (-9223372036854775808) 9223372036854775807 life A7) ((s:Int),t,v):=by
  unfold refQ;rw[MY];rfl
 rw[W,<-h k z];obtain⟨t1,t2⟩:=E;have d1:=Ct t1;have d2:=Ct t2;unfold Fi Gi;simp only[d1,d2,Bool.and_true,KX (⟨t1,t2⟩:Ax t)];unfold Es;by_cases d:AT A7 life<=t
 ·rw[Ai d];unfold H5;by_cases e:k=s
  ·subst e;have f:=T7 (O k z) (λx=>decide (AT A7 life<=x)) t v;simp only[Ct d]at f ⊢;simp only[Ci]at f ⊢;simpa using f
  ·have I:¬(s:Int)=(k:Int):=λx=>e (by omega);simp[e,I]
 ·rw[Ae d];have:decide (AT A7 life<=t)=false:=Cu d;simp[this]
def M0{c d life:Int}(h:c<=d):AT c life<=AT d life:=by
 unfold AT;split<;>split<;>omega
def Rel.eM{L I:Nat->List Pt}{puts:List Pu}{life A7 d:Int}(h:Rel L puts life A7)(W:∀p∈puts,Ax p.2.1)(hc:A7<=d)(hf:H4 L I (AT d life)):Rel I puts life d:=by
 intro k O;have ho:AT A7 life<=AT d life:=M0 hc;have e:=Re puts k (-9223372036854775808) 9223372036854775807 life A7 (-9223372036854775808) 9223372036854775807 life d (λt=>decide (AT d life<=t)) λp E=>by
  unfold Gi;rw[KX (W p E),KX (W p E)];have:decide (AT d life<=p.2.1)=(decide (AT A7 life<=p.2.1)&&decide (AT d life<=p.2.1)):=by
   apply N8.2;simp only[FZ,DO];omega
  rw[this];simp[Bool.and_assoc]
 have X:(L k).filter (λx=>decide (AT d life<=x.1))=refQ puts k (-9223372036854775808) 9223372036854775807 life d:=by
  rw[e,<-h k O,UL]
  congr 1
  funext x
  apply N8.2;simp only[FZ,DO];omega
 rw[<-X];rcases hf k O with q|q
 ·rw[q]
 ·rw[q];have z:L k=(L k).take (BB (L k) (AT d life))++(L k).drop (BB (L k) (AT d life)):=(E0 _ _).symm;have Y:((L k).take (BB (L k) (AT d life))).filter (λx=>decide (AT d life<=x.1))=[]:=by
   rw[UM];intro x hx;obtain⟨i,hi,rfl⟩:=A3I.1 hx;rw[BI]at hi;have:=JB (l:=L k) (t:=AT d life) (i:=i) (by omega) (by omega);rw[UK];simp;omega
  conv=>rhs;rw[z,Li,Y,EU]
def H4.Bo{L d:Nat->List Pt}{o:Int}(h:H4 L d o){k:Nat}(z:k<8):(d k).length<=(L k).length:=by
 rcases h k z with e|e
 ·rw[e];exact Ao _
 ·rw[e,Cl];omega

def M8{l:List Pu}(z:∀p∈l,Bq p){k t:Int}(h:¬(0<=k/\k<8)\/¬Ax t):Cg l k t=none:=A0b.2 λp d e=>by
 obtain⟨L,I,_⟩:=z p d;obtain⟨E,O⟩:=e;rcases h with h|h
 ·exact h (by rw[<-E];exact L)
 ·exact h (by rw[<-O];exact I)
def ZZ{a b:List Pu}(X:∀p∈a,Bq p)(L:∀p∈b,Bq p){life A7:Int}(h:∀k:Nat,k<8->refQ a k (-9223372036854775808) 9223372036854775807 life A7=refQ b k (-9223372036854775808) 9223372036854775807 life A7)(k t:Int)(ht:AT A7 life<=t):Cg a k t=Cg b k t:=by
 by_cases O:0<=k/\k<8
 ·by_cases z:Ax t
  ·obtain⟨d,rfl⟩:∃d:Nat,k=d:=⟨k.toNat,by omega⟩;(have I:FF t life A7=true:=by rw[KX z];exact Ct ht);have e:=h d (by omega);obtain⟨t1,t2⟩:=z;have q:∀v,Cg a d t=some v↔Cg b d t=some v:=λv=>by
    have W:=LN (d:Int) (-9223372036854775808) 9223372036854775807 life A7 (t,v) _ a rfl;have Y:=LN (d:Int) (-9223372036854775808) 9223372036854775807 life A7 (t,v) _ b rfl;rw[e]at W;have:=W.symm.trans Y;exact⟨λE=>(this.1 ⟨⟨t1,t2,I⟩,E⟩).2,λE=>(this.2 ⟨⟨t1,t2,I⟩,E⟩).2⟩
   cases E:Cg a d t with
   | none=>
    cases hy:Cg b d t with
    | none=>rfl
    | some v=>rw[(q v).2 hy]at E;cases E
   | some v=>rw[(q v).1 E]
  ·rw[M8 X (.inr z),M8 L (.inr z)]
 ·rw[M8 X (.inl O),M8 L (.inl O)]
def QK{puts:List Pu}(E:∀p∈puts,Bq p){n0 n:Nat}(I:n0<=n){life A7:Int}(h:∀k:Nat,k<8->refQ (puts.take n0) k (-9223372036854775808) 9223372036854775807 life A7=refQ (puts.take n) k (-9223372036854775808) 9223372036854775807 life A7):C6 (AT A7 life) (puts.take n0) (puts.take n):=by
 have z:∀p∈puts.take n0,p∈puts.take n:=λp E=>(List.take_sublist_take_left I).subset E
 refine⟨ZZ (λp d=>E p (H3 d)) (λp d=>E p (H3 d)) h,λp d=>⟨p,z p d,rfl,rfl⟩,?_⟩;rw[BI,BI];omega
def Rb{L:Nat->List Pt}{a b:List Pu}{life A7:Int}(h:Rel L a life A7)(_ha:∀p∈b,Bq p)(O:C6 (AT A7 life) a b):Rel L b life A7:=λk z=>by
 rw[h k z];refine Yd λt I E d=>O.1 _ _ ?_;rw[KX ⟨I,E⟩]at d;exact Fk d
section
variable {P:PD} {A:Ar} {a c m:Nat}
def Fit.an:∀(fresh:List (List Pu)) (last:Int) (kept:List Int) (P:PD) (a c m:Nat),Fit P a c m->Fit (PD.an fresh last kept P).2.2.2 (a+fresh.length) (c+fresh.length) (m+Df fresh)/\(PD.an fresh last kept P).2.2.1.length<=kept.length+fresh.length
 | [],last,kept,P,a,c,m,h=>⟨h,by simp[PD.an]⟩
 | l::r,last,kept,P,a,c,m,h=>by
  have z:=h.aH (last+1) l;have d:Df (l::r)=(17*l.length+4)+Df r:=by simp[Df]
  rw[Sa];split
  ·exact⟨z.ad (by simp) (by simp) (by rw[d];omega),by simp⟩
  ·obtain⟨E,I⟩:=Fit.an r (last+1) (kept++[last+1]) _ _ _ _ z;exact⟨E.ad (by simp;omega) (by simp;omega) (by rw[d];omega),by simp at I ⊢;omega⟩
def Fit.aJ(h:Fit P a c m)(kept:List Int)(fresh:List (List Pu)):Fit (A.aJ P kept fresh).2.2 (a+fresh.length+2) (c+2*a+2*fresh.length+4) (m+Df fresh+12+8*(kept.length+fresh.length)):=by
 rw[QV];have E:=h.aK (A:=A);split
 ·exact E.ad (by omega) (by omega) (by omega)
 ·obtain⟨z,h3⟩:=Fit.an fresh (A.aK P).2.1.Ac kept _ _ _ _ E;split
  ·exact z.ad (by omega) (by omega) (by omega)
  ·have d:=z.cy (A:={ (A.aK P).2.1 with Ac:=(PD.an fresh (A.aK P).2.1.Ac kept (A.aK P).2.2).2.1}) (PD.an fresh (A.aK P).2.1.Ac kept (A.aK P).2.2).2.2.1;split
   ·exact d.ad (by omega) (by omega) (by omega)
   ·unfold Ar.a6;have I:=Fit.ax (A:=(({ (A.aK P).2.1 with Ac:=(PD.an fresh (A.aK P).2.1.Ac kept (A.aK P).2.2).2.1}:Ar).ak (PD.an fresh (A.aK P).2.1.Ac kept (A.aK P).2.2).2.2.2 (PD.an fresh (A.aK P).2.1.Ac kept (A.aK P).2.2).2.2.1).2.1) d;split
    ·exact I.ad (by omega) (by omega) (by omega)
    ·exact I.aF.ad (by omega) (by omega) (by omega)
def Fit.bV(h:Fit P a c m)(nm:ByteArray)(s:Nat)(l:Bs):Fit (P.af nm s l).2.2 a c (m+(l.length+4)):=by
 have:=h.aq nm (AS s l);rw[EX]at this;exact this
def Fit.dZ{J:Jn}(h:Fit P a c m):Fit (J.av P).2.2 (a+1) (c+1) (m+12):=by
 unfold Jn.av;have z:=h.ao (Ab (Ah (J.Ac+1)));have d:=z.bV (Ab (Ah (J.Ac+1))) (AI (Ah (J.Ac+1))) (AO J.puts);rw[CL]at d;split
 ·exact z.ad (Ao _) (Ao _) (by omega)
 ·dsimp only
  split
  ·exact d
  ·exact d
def Fit.dQ{J:Jn}(h:Fit P a c m)(p:Pu):Fit (J.ay P p).2.2.2 a c (m+21):=by
 unfold Jn.ay;cases J.AE with
 | none=>exact h.ad (Ao _) (Ao _) (by omega)
 | some x=>
  obtain⟨n,s⟩:=x;have d:=h.bV (Ab (Ah n)) s (Be p.1 p.2.1 p.2.2);rw[Fj]at d;exact d
def Fit.fN{J:Jn}(h:Fit P a c m)(p:Pu):Fit (J.af P p).2.2.2 (a+1) (c+1) (m+33):=by
 unfold Jn.af;split
 ·split
  ·exact h.dZ.ad (Ao _) (Ao _) (by omega)
  ·exact(h.dZ.dQ p).ad (Ao _) (Ao _) (by omega)
 ·exact(h.dQ p).ad (by omega) (by omega) (by omega)
def Fit.fF(h:Fit P a c m)(p:Pu):Fit (A.af P p).2.2.2 (a+1) (c+1) (m+33):=by
 unfold Ar.af;split
 ·exact h.I.ad (by omega) (by omega) (by omega)
 ·exact h.I.fN p
def Fit.fS(h:Fit P a c m):Fit (A.ae P).2.2 a c m:=by
 have d:=h.I (A:=A);have z:∀J:Jn,Fit (J.ae (A.I P).2.2).2 a c m:=λJ=>by
  unfold Jn.ae;cases J.AE with
  | none=>exact d
  | some x=>exact d.ae _
 unfold Ar.ae;split
 ·exact d
 ·split
  ·exact z _
  ·exact(z _).aF
end
structure Wd (P:PD) (a m:Nat):Prop where
 A5:P.D.A5.length<=a
 AF:P.D.AF.length<=a
 FE:∀l∈P.D.Aq,l.length<=a
 Bo:∀f,P.D.Ap f->(P.F f).1.length<=m
def Fit.wd{P:PD}{a c m:Nat}(h:Fit P a c m):Wd P a m:=⟨h.A5,h.AF,h.FE,h.Bo⟩
def Wd.CU{P:PD}{a c m a' m':Nat}(h:Wd P a m)(d:Fit P a' c m'):Fit P a c m:=⟨h.A5,h.AF,h.FE,d.An,h.Bo,d.AA,d.BC⟩
def BA(P:PD)(k:Nat):Prop:=∀f,P.D.Ap f->f<k
def BA.ad{P:PD}{k d:Nat}(h:BA P k)(z:k<=d):BA P d:=λf E=>Bi (h f E) z
def Mo{k:Nat}:∀ {es:List AN},(∀e∈es,e.2<k)->Ir es<=k
 | [],_=>Ce _
 | e::r,h=>by
  have:=h e (BQ ..);have:=Mo λx d=>h x (BW _ d);unfold Ir;omega
def TN{k:Nat}:∀ {l:List (List AN)},(∀c∈l,∀e∈c,e.2<k)->JP l<=k
 | [],_=>Ce _
 | c::r,h=>by
  have:=Mo (h c (BQ ..));have:=TN λx d=>h x (BW _ d);unfold JP;omega
def BA.AV{P:PD}{k:Nat}(h:BA P k):P.D.AV<=k:=by
 have h1:=Mo λe d=>h _ (.inl ⟨e,d,rfl⟩);have h2:=Mo λe d=>h _ (.inr (.inl ⟨e,d,rfl⟩));have h3:=TN λc z e d=>h _ (.inr (.inr ⟨c,z,e,d,rfl⟩));unfold DS.AV;omega
def BA.A5{P:PD}{k:Nat}(h:BA P k):∀e∈P.D.A5,e.2<k:=λe d=>h _ (.inl ⟨e,d,rfl⟩)
def HS(P P':PD):Prop:=P'.D.AF=P.D.AF/\((P'.D.A5=P.D.A5/\P'.D.Aq=P.D.Aq)\/P'.D.Aq=P.D.Aq++[P'.D.A5])
def HS.wd{P P':PD}{a m:Nat}(h:HS P P')(z:Wd P a m)(E:P'.D.A5.length<=a)(I:∀f,P'.D.Ap f->(P'.F f).1.length<=m):Wd P' a m:=
 ⟨E,by rw[h.1];exact z.AF,λl d=>by
  rcases h.2 with⟨_,e⟩|e
  ·rw[e]at d;exact z.FE l d
  ·rw[e]at d;rcases AY.1 d with d|d
   ·exact z.FE l d
   ·simp at d;subst d;exact E,I⟩
def HS.An{P P':PD}(h:HS P P'):∀l∈P'.D.Aq,l∈P.D.Aq\/l=P'.D.A5:=λl d=>by
 rcases h.2 with⟨_,e⟩|e
 ·rw[e]at d;exact .inl d
 ·rw[e]at d;rcases AY.1 d with d|d
  ·exact .inl d
  ·exact .inr (by simpa using d)
def HS.Ap{P P':PD}(h:HS P P'){p:Nat->Prop}(E:∀f,P.D.Ap f->p f)(z:∀e∈P'.D.A5,p e.2):∀f,P'.D.Ap f->p f:=by
 rintro f (⟨e,he,rfl⟩|⟨e,he,rfl⟩|⟨l,d,e,he,rfl⟩)
 ·exact z e he
 ·rw[h.1]at he;exact E _ (.inr (.inl ⟨e,he,rfl⟩))
 ·rcases h.An l d with d|rfl
  ·exact E _ (.inr (.inr ⟨l,d,e,he,rfl⟩))
  ·exact z e he
section
variable {P P':PD} {A:Ar} {J:Jn} {a m k:Nat}
def Extra.dE{nm:Bs}(h:Extra P nm P'):HS P P':=⟨h.AF,by
 rcases h.dirs with⟨d1,d2⟩|⟨_,d1,d2⟩
 ·exact .inl ⟨d1,d2⟩
 ·exact .inr (by rw[d2,d1])⟩
def Extra.EZ{nm:Bs}(h:Extra P nm P'):∀e∈P'.D.A5,e∈P.D.A5\/e.2=P.D.AV:=λe d=>by
 rcases h.dirs with⟨d1,_⟩|⟨_,d1,_⟩
 ·rw[d1]at d;exact .inl d
 ·rw[d1]at d;rcases AY.1 d with d|d
  ·exact .inl d
  ·simp at d;subst d;exact .inr rfl
def BA.bL{nm:Bs}(h:BA P k)(z:Extra P nm P'):BA P' (k+1):=by
 refine z.dE.Ap (λf E=>A3w (h f E)) λe d=>?_;rcases z.EZ e d with d|d
 ·exact A3w (h.A5 e d)
 ·have:=h.AV;omega
def Wd.bL{nm:Bs}(h:Wd P a m)(d:Extra P nm P')(O:P.dl+1<=a)(W:(P'.F P.D.AV).1.length<=m):Wd P' a m:=by
 unfold PD.dl at O;have E:∀f,(f≠P.D.AV->P.D.Ap f)->(P'.F f).1.length<=m:=λf E=>by
  by_cases e:f=P.D.AV
  ·rw[e];exact W
  ·rw[d.Et f e];exact h.Bo f (E e)
 refine d.dE.wd h ?_ (d.dE.Ap (λf L=>E f λ_=>L) λe z=>E _ λI=>?_)
 ·rcases d.dirs with⟨d1,_⟩|⟨_,d1,_⟩
  ·rw[d1];omega
  ·rw[d1];simp;omega
 ·rcases d.EZ e z with z|z
  ·exact .inl ⟨e,z,rfl⟩
  ·exact absurd z I
def Vn(P:PD)(nm:Bs)(s:Nat)(l:Bs):((P.aG nm s l).2.F P.D.AV).1.length<=l.length+4:=by
 obtain⟨e1,L⟩:=KM P nm;have h:(P.ao (Ab nm)).2.F P.D.AV=([],0):=by unfold PD.ao;simp[upd]
 unfold PD.aG;split
 ·rw[h];simp
 ·rename_i I;have E:=L (En I);obtain⟨a1,a2,a3,z⟩:=Iu (AS s l) E;have d:(((P.ao (Ab nm)).2.af (Ab nm) s l).2.2.F P.D.AV).1.length<=l.length+4:=by
   show (((P.ao (Ab nm)).2.aq (Ab nm) (AS s l)).2.F P.D.AV).1.length<=l.length+4;rcases z with e|⟨j,e⟩
   ·rw[e,h];simp
   ·rw[e];simp only[upd,Ci,h,EU,BI,EX];omega
  split
  ·exact d
  ·unfold PD.ae Cz;split
   ·exact d
   ·dsimp only
    split
    ·unfold upd;split
     ·rename_i e;rw[<-e];exact d
     ·exact d
    ·exact d
def Wd.aG(h:Wd P a m)(nm:Bs)(s:Nat)(l:Bs)(d:P.dl+1<=a)(z:l.length+4<=m):Wd (P.aG nm s l).2 a m:=h.bL (JM P nm s l).1 d (AQ (Vn P nm s l) z)
def BA.aG(h:BA P k)(nm:Bs)(s:Nat)(l:Bs):BA (P.aG nm s l).2 (k+1):=h.bL (JM P nm s l).1
def Lz(P:PD)(x:ByteArray):(P.ae x).2.D.A5=P.D.A5/\(P.ae x).2.D.AF=P.D.AF/\(P.ae x).2.D.Aq=P.D.Aq/\∀f,((P.ae x).2.F f).1=(P.F f).1:=by
 cases hx:lookup P.D.A5 x with
 | none=>
  have e:(P.ae x).2=P:=by unfold PD.ae Cz;rw[hx]
  rw[e];exact⟨rfl,rfl,rfl,λ_=>rfl⟩
 | some g=>
  obtain⟨h,z,E,d⟩:=IH hx;refine⟨h,z,E,λf=>?_⟩;rcases d with e|e
  ·rw[e]
  ·rw[e];unfold upd;split
   ·rename_i I;rw[I]
   ·rfl
def Ox(z:P'.D.A5=P.D.A5)(h:P'.D.AF=P.D.AF)(E:P'.D.Aq=P.D.Aq)(f:Nat)(d:P'.D.Ap f):P.D.Ap f:=by
 unfold DS.Ap at d ⊢;rwa [z,h,E]at d
def Wd.au(h:Wd P a m)(z:P'.D.A5=P.D.A5)(d:P'.D.AF=P.D.AF)(E:P'.D.Aq=P.D.Aq)(L:∀f,(P'.F f).1=(P.F f).1):Wd P' a m:=
 ⟨by rw[z];exact h.A5,by rw[d];exact h.AF,by rw[E];exact h.FE,λf I=>by rw[L];exact h.Bo f (Ox z d E f I)⟩
def Wd.ae(h:Wd P a m)(x:ByteArray):Wd (P.ae x).2 a m:=by
 obtain⟨E,d,I,z⟩:=Lz P x;exact h.au E d I z
def BA.ae(h:BA P k)(x:ByteArray):BA (P.ae x).2 k:=by
 obtain⟨E,z,I,_⟩:=Lz P x;exact λf d=>h f (Ox E z I f d)
def Wd.aw:∀(l:List Bs) {P:PD},Wd P a m->Wd (PD.aw l P).2 a m
 | [],_,h=>h
 | nm::r,P,h=>by
  unfold PD.aw;split
  ·exact h.ae _
  ·exact Wd.aw r (h.ae _)
def BA.aw:∀(l:List Bs) {P:PD},BA P k->BA (PD.aw l P).2 k
 | [],_,h=>h
 | nm::r,P,h=>by
  unfold PD.aw;split
  ·exact h.ae _
  ·exact BA.aw r (h.ae _)
def Wd.I(h:Wd P a m):Wd (A.I P).2.2 a m:=by unfold Ar.I;split<;>exact Wd.aw _ h
def BA.I(h:BA P k):BA (A.I P).2.2 k:=by unfold Ar.I;split<;>exact BA.aw _ h
def Wd.aF(h:Wd P a m):Wd P.aF.2 a m:=by
 unfold PD.aF DW;dsimp only
 split
 ·refine⟨h.A5,h.A5,λl d=>(by cases d),?_⟩;rintro f (hf|hf|⟨l,d,_⟩)
  ·exact h.Bo f (.inl hf)
  ·exact h.Bo f (.inl hf)
  ·cases d
 ·exact⟨h.A5,h.AF,h.FE,h.Bo⟩
def BA.aF(h:BA P k):BA P.aF.2 k:=by
 unfold PD.aF DW;dsimp only
 split
 ·rintro f (hf|hf|⟨l,hl,_⟩)
  ·exact h f (.inl hf)
  ·exact h f (.inl hf)
  ·cases hl
 ·exact h
def NI(P:PD)(x:ByteArray):HS P (P.az x).2/\(P.az x).2.F=P.F/\(∀e∈(P.az x).2.D.A5,e∈P.D.A5)/\((P.az x).1=0->(P.az x).2.dl+1=P.dl):=by
 unfold PD.az Ds;by_cases E:B6 P.D.A5 x<0
 ·rw[Ai E];exact⟨⟨rfl,.inl ⟨rfl,rfl⟩⟩,rfl,λ_ h=>h,λh=>(by cases h)⟩
 ·rw[Ae E];have hl:=Tk P.D.A5 x;dsimp only
  by_cases z:(bg P.D.n).1=true
  ·rw[Ai z];refine⟨⟨rfl,.inr rfl⟩,rfl,λe d=>?_,λ_=>?_⟩
   ·rcases AY.1 d with d|d
    ·exact H3 d
    ·exact K1 d
   ·unfold PD.dl;simp;omega
  ·rw[Ae z];exact⟨⟨rfl,.inl ⟨rfl,rfl⟩⟩,rfl,λ_ h=>h,λh=>absurd (GW h) z⟩
def Wd.az(h:Wd P a m)(x:ByteArray):Wd (P.az x).2 a m:=by
 obtain⟨d,I,L,_⟩:=NI P x;have:=Tq P x;refine d.wd h ?_ ?_
 ·have:=h.A5;unfold PD.dl at *;omega
 ·rw[I];exact d.Ap (λf z=>h.Bo f z) λe E=>h.Bo _ (.inl ⟨e,L e E,rfl⟩)
def BA.az(h:BA P k)(x:ByteArray):BA (P.az x).2 k:=by
 obtain⟨E,_,I,_⟩:=NI P x;exact E.Ap (λf d=>h f d) λe z=>h.A5 e (I e z)
def Wd.aL:∀(l:List Bs) {P:PD},Wd P a m->Wd (PD.aL l P).2 a m
 | [],_,h=>h
 | nm::r,P,h=>by
  unfold PD.aL;split
  ·exact h.az _
  ·exact Wd.aL r (h.az _)
def BA.aL:∀(l:List Bs) {P:PD},BA P k->BA (PD.aL l P).2 k
 | [],_,h=>h
 | nm::r,P,h=>by
  unfold PD.aL;split
  ·exact h.az _
  ·exact BA.aL r (h.az _)
def Ra:∀(l:List Bs) (P:PD),(PD.aL l P).1=0->(PD.aL l P).2.dl+l.length=P.dl
 | [],_,_=>rfl
 | nm::r,P,h=>by
  unfold PD.aL at h ⊢;split at h
  ·rename_i d;exact absurd h d
  ·rename_i d;rw[Ae d];have:=Ra r _ h;have:=(NI P (Ab nm)).2.2.2 (En d);simp only[Cq];omega
def Tj{α:Type}(p:α->Bool):∀l:List α,(l.filter p).length+(l.filter λx=>!p x).length=l.length
 | []=>rfl
 | x::r=>by
  have:=Tj p r;cases hx:p x with
  | true=>simp[hx];omega
  | false=>simp[hx];omega
def Wo(I:GZ P)(d:(A.ax P).1=0):(A.ax P).2.dl<=A.Az.length:=by
 have h1:=Ra (A.aS P) P d;have h:=I.aP.cM;have h2:(A.aU P).length<=A.Az.length:=Ku (h.filter _) λx E=>by
  have:=(Hg.1 E).2;simpa using this
 have z:(A.aU P).length+(A.aS P).length=P.Az.length:=by
  unfold Ar.aU Ar.aS;exact Tj _ _
 rw[J6]at z;have h4:(PD.aL (A.aS P) P).2.dl=(A.ax P).2.dl:=rfl;omega
def S8:∀(fresh:List (List Pu)) (last:Int) (kept:List Int) {P:PD} {k:Nat},Wd P a m->BA P k->P.dl+fresh.length<=a->(∀l∈fresh,17*l.length+4<=m)->
 Wd (PD.an fresh last kept P).2.2.2 a m/\BA (PD.an fresh last kept P).2.2.2 (k+fresh.length)
 | [],_,_,_,_,h,hi,_,_=>⟨h,hi⟩
 | l::r,last,kept,P,k,h,hi,hd,hl=>by
  simp only[Cq]at hd;have E:Wd (P.aH (last+1) l).2 a m:=h.aG _ _ _ (by omega) (by rw[IN];exact hl l (BQ ..));have z:BA (P.aH (last+1) l).2 (k+1):=hi.aG _ _ _;have hdl:(P.aH (last+1) l).2.dl<=P.dl+1:=Mq P _ _ _;have d:PD.an (l::r) last kept P=if (P.aH (last+1) l).1≠0 then ((P.aH (last+1) l).1,last+1,kept,(P.aH (last+1) l).2) else PD.an r (last+1) (kept++[last+1]) (P.aH (last+1) l).2:=rfl
  rw[d];split
  ·exact⟨E,z.ad (by simp)⟩
  ·obtain⟨I,L⟩:=S8 r (last+1) (kept++[last+1]) E z (by omega) λx O=>hl x (BW _ O);exact⟨I,L.ad (by simp;omega)⟩
def QX(P:PD)(old nm:ByteArray):HS P (P.aN old nm).2/\(P.aN old nm).2.F=P.F/\∀e∈(P.aN old nm).2.D.A5,∃d∈P.D.A5,d.2=e.2:=by
 unfold PD.aN D3;cases hx:lookup P.D.A5 old with
 | none=>exact⟨⟨rfl,.inl ⟨rfl,rfl⟩⟩,rfl,λe h=>⟨e,h,rfl⟩⟩
 | some f=>
  dsimp only
  split
  ·exact⟨⟨rfl,.inl ⟨rfl,rfl⟩⟩,rfl,λe h=>⟨e,h,rfl⟩⟩
  ·dsimp only
   split
   ·refine⟨⟨rfl,.inr rfl⟩,rfl,λe h=>?_⟩;rcases AY.1 h with h|h
    ·exact⟨e,LL _ _ _ _ e h,rfl⟩
    ·simp at h;subst h;exact⟨_,E9 hx,rfl⟩
   ·exact⟨⟨rfl,.inl ⟨rfl,rfl⟩⟩,rfl,λe h=>⟨e,h,rfl⟩⟩
def Wd.aN(h:Wd P a m)(old nm:ByteArray)(z:P.dl+1<=a):Wd (P.aN old nm).2 a m:=by
 obtain⟨E,O,W⟩:=QX P old nm;have:=Tp P old nm;refine E.wd h (by unfold PD.dl at *;omega) ?_;rw[O];exact E.Ap (λf I=>h.Bo f I) λe L=>by obtain⟨d,z,X⟩:=W e L;rw[<-X];exact h.Bo _ (.inl ⟨d,z,rfl⟩)
def BA.aN(h:BA P k)(old nm:ByteArray):BA (P.aN old nm).2 k:=by
 obtain⟨L,_,O⟩:=QX P old nm;exact L.Ap (λf E=>h f E) λe I=>by obtain⟨d,z,W⟩:=O e I;rw[<-W];exact h.A5 d z
def Yz(h:Wd P a m)(I:BA P k)(d:Int)(segs:List Int)(hd:P.dl+2<=a)(hl:12+8*segs.length<=m):Wd (P.ak d segs).2 a m/\BA (P.ak d segs).2 (k+1):=by
 have hlen:(Cj d segs).length=8+8*segs.length:=by unfold Cj;rw[Ba,CL,JL]
 have E:Wd (P.aG Bv (AI AK) (Cj d segs)).2 a m:=h.aG _ _ _ (by omega) (by omega);have z:=I.aG Bv (AI AK) (Cj d segs);have:=Mq P Bv (AI AK) (Cj d segs);unfold PD.ak;split
 ·exact⟨E,z⟩
 ·exact⟨E.aN _ _ (by omega),z.aN _ _⟩
def A2X(h:Wd P a m)(d:BA P k)(segs:List Int)(z:P.dl+2<=a)(E:12+8*segs.length<=m):Wd (A.ak P segs).2.2 a m/\BA (A.ak P segs).2.2 (k+1):=by
 have:=Yz h d (A.j.Ac+1) segs z E;unfold Ar.ak;split
 ·exact⟨h,d.ad (by omega)⟩
 ·split<;>exact this
def A2k(h:Wd P a m)(d:BA P k):Wd (A.a6 P).2.2 a m/\BA (A.a6 P).2.2 k:=by
 unfold Ar.a6;split
 ·exact⟨Wd.aL _ h,BA.aL _ d⟩
 ·exact⟨(Wd.aL _ h).aF,(BA.aL _ d).aF⟩
def Zr(h:GZ P)(d:P'.D.A5=P.D.A5):GZ P':=⟨by rw[d];exact h.Ap,by rw[d];exact h.Cd⟩
def Xc(A:Ar)(P:PD):(A.I P).2.2.D.A5=P.D.A5:=by
 have key:∀(l:List Bs) (Q:PD),(PD.aw l Q).2.D.A5=Q.D.A5:=by
  intro l
  induction l with
  | nil=>intro Q;rfl
  | cons nm r ih=>
   intro Q;unfold PD.aw;split
   ·exact(Lz Q _).1
   ·rw[ih,(Lz Q _).1]
 unfold Ar.I;split<;>exact key _ _
def XG(h:Wd P a m)(hi:BA P k)(hn:GZ P)(kept:List Int)(fresh:List (List Pu))(hd:A.Az.length+fresh.length+2<=a)(hl:∀l∈fresh,17*l.length+4<=m)(hk:12+8*(kept.length+fresh.length)<=m):
 Wd (A.aJ P kept fresh).2.2 a m/\BA (A.aJ P kept fresh).2.2 (k+fresh.length+1):=by
 have I:Wd (A.I P).2.2 a m:=h.I;have Y:BA (A.I P).2.2 k:=hi.I;have n1:GZ (A.I P).2.2:=Zr hn (Xc A P);have z:(A.I P).2.1.Az=A.Az:=by unfold Ar.I;split<;>rfl
 unfold Ar.aJ;dsimp only
 split
 ·exact⟨I,Y.ad (by omega)⟩
 ·have w2:Wd ((A.I P).2.1.ax (A.I P).2.2).2 a m:=Wd.aL _ I;have O:BA ((A.I P).2.1.ax (A.I P).2.2).2 k:=BA.aL _ Y;split
  ·exact⟨w2,O.ad (by omega)⟩
  ·rename_i h2;have d:=Wo n1 (En h2);rw[z]at d;obtain⟨L,W⟩:=S8 fresh (A.I P).2.1.Ac kept w2 O (by omega) hl;obtain⟨d3,d4⟩:=Mr fresh (A.I P).2.1.Ac kept ((A.I P).2.1.ax (A.I P).2.2).2;split
   ·exact⟨L,W.ad (by omega)⟩
   ·obtain⟨E,X⟩:=A2X (A:={ (A.I P).2.1 with Ac:=(PD.an fresh (A.I P).2.1.Ac kept ((A.I P).2.1.ax (A.I P).2.2).2).2.1}) L W (PD.an fresh (A.I P).2.1.Ac kept ((A.I P).2.1.ax (A.I P).2.2).2).2.2.1 (by omega) (by omega);split
    ·exact⟨E,X⟩
    ·exact A2k E X
def TV(h:BA P k)(J:Jn):BA (J.av P).2.2 (k+1):=h.bL (MB P J).1
def A22(h:BA P k)(x:ByteArray)(l:Bs):BA (P.aq x l).2 k:=by
 cases hx:lookup P.D.A5 x with
 | none=>
  have e:(P.aq x l).2=P:=by unfold PD.aq Bx;rw[hx]
  rw[e];exact h
 | some g=>
  obtain⟨z,E,I,_⟩:=Iu l hx;exact λf d=>h f (Ox z E I f d)
def A20(h:BA P k)(p:Pu):BA (A.af P p).2.2.2 (k+1):=by
 have d:∀(J:Jn) {Q:PD} {k:Nat},BA Q k->BA (J.ay Q p).2.2.2 k:=λJ Q k z=>by
  unfold Jn.ay;split
  ·exact z
  ·exact A22 z _ _
 unfold Ar.af;split
 ·exact h.I.ad (by omega)
 ·dsimp only
  unfold Jn.af;split
  ·split
   ·exact TV h.I _
   ·exact d _ (TV h.I _)
  ·exact(d _ h.I).ad (by omega)
def A2Z(h:BA P k):BA (A.ae P).2.2 k:=by
 have d:BA (A.I P).2.2 k:=h.I;have z:∀J:Jn,BA (J.ae (A.I P).2.2).2 k:=λJ=>by
  unfold Jn.ae;split
  ·exact d
  ·exact d.ae _
 unfold Ar.ae;split
 ·exact d
 ·split
  ·exact z _
  ·exact(z _).aF
end
def PD.aW(P:PD)(dirs:Int)(d:List Int):PD:=⟨(F5 P.D P.F dirs d).1,(F5 P.D P.F dirs d).2⟩
def OT{c:FC}(h:0<=c.2/\c.2<=c.1.length)(t:Int):∃j:Nat,c.2<=j/\j<=c.1.length/\FB c t=(c.1.take j,(j:Int)):=by
 have hp:=JC t (c.1.length-c.2.toNat);refine⟨c.2.toNat+FA t (c.1.length-c.2.toNat),by omega,by omega,?_⟩;unfold FB;dsimp only
 rw[BI,Jd (by omega)]
def A16{c:FC}(h:0<=c.2/\c.2<=c.1.length)(t d:Int):FB (FB c t) d=FB c t:=by
 obtain⟨j,h1,h2,E⟩:=OT h t;rw[E];unfold FB;have z:(c.1.take j).length=j:=by rw[BI];omega
 have I:FA d ((c.1.take j).length-((j:Int)).toNat)=0:=by
  have:=JC d ((c.1.take j).length-((j:Int)).toNat);rw[z]at this ⊢;simp at this ⊢;omega
 dsimp only
 rw[I,Pn,EG];have:(c.1.take j).take j=c.1.take j:=by rw[K0];simp
 rw[this,z]
section
variable {bd:Int×Int} {P P':PD} {V V':View} {ix:Ix} {sg cl:List (Int×List Pu)} {lo:Option (Int×List Pu)} {puts:List Pu} {Ad:Nat} {o:Int}
def TB(s:List AN)(I:List Int)(names:List ByteArray)(F:Nat->FC)(hr:∀e∈s,0<=(F e.2).2/\(F e.2).2<=(F e.2).1.length):∀k,∀e∈s,(DX s I names F k e.2=F e.2/\∀j,j<k->∀nm,names[j]?=some nm->lookup s nm≠some e.2)\/∃t,DX s I names F k e.2=FB (F e.2) t:=by
 intro k
 induction k with
 | zero=>intro e _;exact .inl ⟨rfl,λj Y=>by omega⟩
 | succ k ih=>
  intro e he;have L:=ih e he;simp only[DX];cases hn:names[k]? with
  | none=>
   dsimp only
   rcases L with⟨z,W⟩|z
   ·refine .inl ⟨z,λj Y nm d=>?_⟩;by_cases E:j=k
    ·subst E;rw[hn]at d;cases d
    ·exact W j (by omega) nm d
   ·exact .inr z
  | some nm=>
   dsimp only
   cases hl:lookup s nm with
   | none=>
    dsimp only
    rcases L with⟨z,W⟩|z
    ·refine .inl ⟨z,λj Y O d=>?_⟩;by_cases E:j=k
     ·subst E;rw[hn]at d;cases d;rw[hl];simp
     ·exact W j (by omega) O d
    ·exact .inr z
   | some f=>
    dsimp only
    by_cases X:e.2=f
    ·subst X;refine .inr ?_;simp only[upd,Ci];rcases L with⟨z,_⟩|⟨t,z⟩
     ·exact⟨_,by rw[z]⟩
     ·exact⟨t,by rw[z,A16 (hr e he)]⟩
    ·simp only[upd,X,C3];rcases L with⟨z,W⟩|z
     ·refine .inl ⟨z,λj Y O d=>?_⟩;by_cases E:j=k
      ·subst E;rw[hn]at d;cases d;rw[hl];simp;exact λh=>X h.symm
      ·exact W j (by omega) O d
     ·exact .inr z
def A10(s:List AN)(d:List Int)(F:Nat->FC)(O:∀e∈s,0<=(F e.2).2/\(F e.2).2<=(F e.2).1.length):I4 (vw F s) (vw (DX s d (dList s) F s.length) s):=by
 intro m;unfold vw;cases hx:lookup s (Ab m) with
 | none=>exact .inl ⟨rfl,rfl⟩
 | some f=>
  have E:=E9 hx;have hlen:(dList s).length=s.length:=Mt s s.length (Ao _);have h:Ab m∈dList s:=(KQ s).mem_iff.2 (CD.2 ⟨_,E,rfl⟩);obtain⟨k,Y,z⟩:=Ep h;rcases TB s d (dList s) F O s.length _ E with⟨_,X⟩|⟨t,L⟩
  ·exact absurd hx (X k (by omega) (Ab m) (by rw[DQ Y,z]))
  ·obtain⟨j,W,j2,I⟩:=OT (O _ E) t;refine .inr ⟨F f,j,rfl,W,j2,?_⟩;dsimp only at L I;simp[L,I]
def TD(D:DS)(dirs:Int):Ga D dirs∈D.AF::D.Aq:=by
 unfold Ga;have d:=JC dirs D.Aq.length;cases hx:FA dirs D.Aq.length with
 | zero=>exact BQ ..
 | succ k=>
  rw[hx]at d;refine BW _ ?_;dsimp only
  rw[HZ,DQ (by omega)];exact BT _
def CW.a6(h:CW bd V ix sg cl lo)(I:∀nm c,V nm=some c->BZ c)(hl:(AG cl).length<=1099511627776):CW bd V ix sg (cl++lo.toList) none:=by
 cases lo with
 | none=>simpa using h
 | some y=>
  obtain⟨n,l⟩:=y;obtain⟨X,E,c,z,W⟩:=h.Ac n l rfl;refine⟨h.Ea,h.Io,h.segs,h.Cy,λx d=>?_,h.Av.bT ?_,λn' l' e=>(by cases e),by simpa using h.G3,λk L Y O=>by simpa using h.CH k L Y O,h.El,h.E3⟩
  ·rcases AY.1 d with d|d
   ·exact h.CO x d
   ·simp at d;subst d;exact⟨X,E,c,z,I _ _ z⟩
  ·unfold IY;rw[z];dsimp only
   rw[N5];exact W.aV (by constructor<;>omega) E
def DI.aW(h:DI bd P puts Ad o)(dirs:Int)(d:List Int)(hpl:puts.length<=1099511627776):
 DI bd (P.aW dirs d) puts Ad o/\∃n,Ad<=n/\n<=puts.length/\∀I q,o<=I->C6 I (puts.take n) q->DI bd (P.aW dirs d) q Ad I/\Reads bd (P.aW dirs d) q I:=by
 have W:=TD P.D dirs;generalize Y:Ga P.D dirs=s at W;have hr:∀e∈s,0<=(P.F e.2).2/\(P.F e.2).2<=(P.F e.2).1.length:=λe he=>by
  obtain⟨ix,sg,cl,lo,nb,hL,_⟩:=h.DH s W;have hv:vw P.F s e.1.data.toList=some (P.F e.2):=by
   unfold vw;rw[Gm];cases hk:lookup s e.1 with
   | none=>exact absurd rfl (IW.1 hk e he)
   | some g=>
    obtain⟨i,hi,e1⟩:=Ep (E9 hk);obtain⟨j,hj,e2⟩:=Ep he;have:i=j:=JG (h.Cd s W) (by simpa using hi) (by simpa using hj) (by simp[e1,e2]);subst this;rw[e1]at e2;rw[<-e2];rfl
  exact hL.E3 _ _ hv
 have aE:=A10 s d P.F hr;have aF:(P.aW dirs d).fl=vw (DX s d (dList s) P.F s.length) s:=by
  funext m
  unfold PD.aW PD.fl F5 vw;dsimp only
  rw[Y]
 obtain⟨ix,sg,cl,lo,n,hL,hd,n1,n2,n3⟩:=(h.DH s W).CN aE;rw[<-aF]at hL hd;have n4:=n3.2.2;rw[BI,Ba,Ba]at n4;have aB:(AG cl).length<=1099511627776:=by omega
 have hC:=hL.a6 hd aB;have E:AG (cl++lo.toList)=AG cl++EM lo:=by cases lo<;>simp[AG,EM]
 have hq:C6 o (AG sg++AG (cl++lo.toList)) (puts.take n):=by rw[E,<-C8];exact n3
 have hH:Holds bd (P.aW dirs d).fl puts Ad o:=⟨ix,sg,_,none,n,hC,n2,hq,λn' l e=>(by cases e),λ_=>n1⟩;have L:Bz (P.aW dirs d)=[(P.aW dirs d).D.A5]:=by unfold Bz PD.aW F5;rfl
 have O:(P.aW dirs d).D.A5=s:=by unfold PD.aW F5;dsimp only;exact Y
 have mk:∀I q,Holds bd (P.aW dirs d).fl q Ad I->DI bd (P.aW dirs d) q Ad I:=λI q hq=>by
  refine⟨λx z=>?_,λx z=>?_,λx z=>?_,by rw[L];simp⟩
  ·rw[L]at z;simp at z;subst z;exact hq
  ·rw[L]at z;simp at z;subst z;rw[O];exact h.Ap s W
  ·rw[L]at z;simp at z;subst z;rw[O];exact h.Cd s W
 refine⟨mk o puts hH,n,n1,n2,λI q ho X=>?_⟩;have aD:=(hq.ba ho).Au X;have aA:Ad<=q.length:=by
  have:=X.2.2;rw[BI]at this;omega
 exact⟨mk I q (Holds.bA hC aD aA),Whole.bt ⟨ix,sg,_,none,hC,by rw[E,Ba];omega,by simpa[EM] using aD⟩⟩
end
def CC(t:Nat):Int×Int:=(t,400000*(t:Int))
def HQ{t d:Nat}(h:t<=d):HI (CC t) (CC d):=⟨by simp only[CC];omega,by simp only[CC];omega⟩
structure PB (P:PD) (t:Nat):Prop where
 CU:Fit P (3*t+20) (2000000*(t+1)) (40*t+1000)
 Ap:BA P (400000*(t+1))
 refQ:0<=P.D.n.Bj/\P.D.n.Bj<=t
 J4:0<=P.D.n.fulls/\P.D.n.fulls<=t
def PB.ad{P:PD}{t d:Nat}(h:PB P t)(ht:t<=d):PB P d:=
 ⟨h.CU.ad (by omega) (by omega) (by omega),h.Ap.ad (by omega),by have:=h.refQ;omega,by have:=h.J4;omega⟩
def HU(P:PD)(e:Int)(P':PD):Prop:=(e=0/\P'.D.n.Bj=P.D.n.Bj/\P'.D.n.fulls=P.D.n.fulls/\P'.D.n.Bh=P.D.n.Bh)\/
 (e=5/\P'.D.n.Bj=P.D.n.Bj+1/\P'.D.n.fulls=P.D.n.fulls)\/(e=6/\P'.D.n.Bj=P.D.n.Bj+1/\P'.D.n.fulls=P.D.n.fulls+1/\P'.D.n.Bh=P.D.n.Bh)
section
variable {bd:Int×Int} {P P':PD} {A:Ar} {sg cl:List (Int×List Pu)} {ol:Option (List Pu)} {puts:List Pu} {Ad:Nat} {o:Int} {t:Nat}
def Co.dn{e:Int}(h:Co P.D.n e P'.D.n)(z:PB P t)(ht:t<=200000)(he:e=0\/e=5\/e=6):HU P e P':=by
 have h1:=z.refQ;have h2:=z.J4;have E:wrap64 (P.D.n.Bj+1)=P.D.n.Bj+1:=by unfold wrap64;omega
 have I:wrap64 (P.D.n.fulls+1)=P.D.n.fulls+1:=by unfold wrap64;omega
 rcases h with⟨a,b,c,d,f⟩|⟨a,b,c⟩|⟨a,b,c,d⟩
 ·exact .inl ⟨by omega,c,d,f⟩
 ·exact .inr (.inl ⟨a,b.trans E,c⟩)
 ·exact .inr (.inr ⟨a,b.trans E,c.trans I,d⟩)
def HU.refQ{e:Int}(h:HU P e P')(d:PB P t):(0<=P'.D.n.Bj/\P'.D.n.Bj<=(t+1:Nat))/\0<=P'.D.n.fulls/\P'.D.n.fulls<=(t+1:Nat):=by
 have h1:=d.refQ;have h2:=d.J4;rcases h with⟨_,b,c,_⟩|⟨_,b,c⟩|⟨_,b,c,_⟩<;>rw[b,c]<;>omega
def XF{l:List Int}(d:l.Pairwise (· < ·)){t:Nat}(h:∀x∈l,1<=x/\x<=t):l.length<=t:=by
 have:=Ku (l':=(List.range t).map λ(i:Nat)=>(i:Int)+1) (d.imp λh=>Int.ne_of_lt h) λx z=>by
  obtain⟨h1,h2⟩:=h x z;exact CD.2 ⟨(x-1).toNat,Lc.2 (by omega),by omega⟩
 simpa using this
structure Uv (A:Ar) (P:PD) (sg cl:List (Int×List Pu)) (ol:Option (List Pu)) (t:Nat):Prop where
 j:0<=A.j.Ac/\A.j.Ac<=t
 jn:isNum (A.j.Ac+1)=true
 s:0<=A.Ac/\A.Ac<=400000*(t:Int)
 Av:A.j.Av.length<=t
 segs:A.ix.segs.length<=t/\sg.length<=t
 CH:(Dl sg cl ol).length<=t/\(AG cl++ol.getD []).length<=t
 Az:P.Az.length<=3*t+20
 HP:A.Az.length<=2*t+1
def SI.bZ(h:SI (CC t) A P puts Ad o sg cl ol)(hp:PB P t)(hl:puts.length<=t)(ht:t<=200000):Uv A P sg cl ol t:=by
 have Y:=h.Bc.EN.1;have L:=h.Eh.2.1;have h3:=h.Bc.Ey.1;have O:=h.Eh.2.2;simp only[CC]at L O;have hall:=h.CH.2.2;have h5:(Dl sg cl ol).length=(AG sg).length+(AG cl++ol.getD []).length:=by unfold Dl;rw[Ba]
 have hseg:sg.length<=(AG sg).length:=by
  have:=KL (ws:=sg.map (·.2)) λw hw=>by
   obtain⟨x,d,rfl⟩:=CD.1 hw;exact h.Eh.1.2.2 x d
  rw[HD]at this;unfold AG;rw[List.flatMap_def];exact this
 have hsl:A.ix.segs.length=sg.length:=by rw[<-h.Bc.segs,HD]
 have z:A.j.Av.length<=t:=by
  refine XF h.Bc.H9 λx d=>?_;rw[h.Bc.bS]at d;have X:∀y∈cl,1<=y.1/\y.1<=t:=λy E=>by
   have q:=(h.Bc.CO y E).1;have W:=q.1;unfold isNum at W;simp at W;have:=q.2;omega
  cases ol with
  | none=>
   obtain⟨y,E,rfl⟩:=CD.1 d;exact X y E
  | some l=>
   unfold shut at d;rw[EV]at d;rcases AY.1 d with d|d
   ·obtain⟨y,E,rfl⟩:=CD.1 d;exact X y E
   ·simp at d;have q:=h.Bc.AE.2.2.2.2;unfold isNum at q;simp at q;omega
 have I:P.Az.length<=3*t+20:=by rw[J6];exact hp.CU.A5
 refine⟨⟨Y,L⟩,by unfold isNum;simp;omega,⟨h3,O⟩,z,⟨by omega,by omega⟩,⟨by omega,by omega⟩,I,?_⟩;unfold Ar.Az;simp only[Ba,Cq,HD];omega
end
structure St (t:Nat) (A:Ar) (P:PD) (puts:List Pu) (Ad:Nat) (o:Int) (ro:Bool):Prop where
 pb:PB P t
 di:DI (CC t) P puts Ad o
 rd:Reads (CC t) P puts o
 si:ro=false->∃sg cl ol,SI (CC t) A P puts Ad o sg cl ol/\A.AR.length<=3*t+20
 pu:∀p∈puts,Bq p
 Bo:puts.length<=t
 le:Ad<=puts.length
 Bh:P.D.n.Bh=false
section
variable {P P':PD} {A A':Ar} {puts:List Pu} {Ad:Nat} {o:Int} {t:Nat} {ro:Bool}
def F8.ba{bd:Int×Int}{V:View}{d n:Int}{ahead:Nat}(h:F8 bd V puts Ad o n ahead)(z:o<=d):F8 bd V puts Ad d n ahead:=by
 obtain⟨ix,sg,cl,l,nb,c,I,E,L,r⟩:=h;exact⟨ix,sg,cl,l,nb,c,I,E,L.ba z,r⟩
def SI.ba{bd:Int×Int}{sg cl:List (Int×List Pu)}{ol:Option (List Pu)}{I:Int}(h:SI bd A P puts Ad o sg cl ol)(d:o<=I):SI bd A P puts Ad I sg cl ol:=
 ⟨h.di.ba d,h.Bc,by obtain⟨nb,E,z,O⟩:=h.Hv;exact⟨nb,E,z.ba d,O⟩,h.Gs,λl e=>by
  obtain⟨f,E,z⟩:=h.AE l e
  exact⟨f,E,λs L=>(z s L).imp id λq=>⟨q.1,q.2.ba d⟩⟩,h.CK,h.Eh⟩
def St.ba{z:Int}(h:St t A P puts Ad o ro)(d:o<=z):St t A P puts Ad z ro:=
 ⟨h.pb,h.di.ba d,h.rd.ba d,λe=>by obtain⟨sg,cl,ol,I,E⟩:=h.si e;exact⟨sg,cl,ol,I.ba d,E⟩,h.pu,h.Bo,h.le,h.Bh⟩
def St.ad{z:Nat}(h:St t A P puts Ad o ro)(d:t<=z):St z A P puts Ad o ro:=
 ⟨h.pb.ad d,h.di.aR (HQ d),h.rd.aR (HQ d),λe=>by obtain⟨sg,cl,ol,E,h2⟩:=h.si e;exact⟨sg,cl,ol,E.aR (HQ d),by omega⟩,h.pu,by have:=h.Bo;omega,h.le,h.Bh⟩
def St.cN{q:List Pu}(E:PB P t)(z:DI (CC t) P q Ad o)(O:Reads (CC t) P q o)(I:∀p∈q,Bq p)(L:q.length<=t)(h:Ad<=q.length)(d:P.D.n.Bh=false):St t A P q Ad o true:=
 ⟨E,z,O,λe=>(by cases e),I,L,h,d⟩
def St.af(h:St t A P puts Ad o false)(ht:t+1<=200000)(p:Pu)(O:Bq p):
 PB (A.af P p).2.2.2 (t+1)/\HU P (A.af P p).2.1 (A.af P p).2.2.2/\DI (CC (t+1)) (A.af P p).2.2.2 (puts++[p]) Ad o/\
  ((A.af P p).1=true->Reads (CC (t+1)) (A.af P p).2.2.2 (puts++[p]) o)/\((A.af P p).1=false->DI (CC (t+1)) (A.af P p).2.2.2 puts Ad o/\Reads (CC (t+1)) (A.af P p).2.2.2 puts o)/\
  ((A.af P p).2.1=0->(A.af P p).1=true/\St (t+1) (A.af P p).2.2.1 (A.af P p).2.2.2 (puts++[p]) Ad o false)/\((A.af P p).2.1=6->P.D.n.AA-AX P.F P.D.A5<200):=by
 obtain⟨sg,cl,ol,Y,hll⟩:=h.si rfl;have X:=Y.bZ h.pb h.Bo (by omega);have hj:=X.j;have W:=Y.aR (HQ (Fa t));obtain⟨a1,a2,a3,a4⟩:=W.af (λ_=>⟨X.jn,by simp only[CC];omega⟩) p O;have E:=Y.e2 (λ_=>X.jn) p O (by omega);have d:=(A3e A P p).dn h.pb (by omega) E;obtain⟨r1,r2⟩:=d.refQ h.pb;have L:PB (A.af P p).2.2.2 (t+1):=⟨(h.pb.CU.fF p).ad (by omega) (by omega) (by omega),(A20 h.pb.Ap p).ad (by omega),r1,r2⟩;have hlen:=h.Bo;have hle:=h.le;refine⟨L,d,a1,a2,a3,λe=>?_,λe=>A21 e⟩;obtain⟨b1,b2,b3⟩:=a4 e;refine⟨b1,L,a1,a2 b1,λ_=>⟨sg,cl,_,b2,by rw[b3];simp⟩,λq I=>?_,by simp;omega,by simp;omega,?_⟩
 ·rcases AY.1 I with I|I
  ·exact h.pu q I
  ·simp at I;subst I;exact O
 ·rcases d with⟨_,_,_,z⟩|⟨z,_⟩|⟨z,_⟩
  ·rw[z];exact h.Bh
  ·rw[e]at z;cases z
  ·rw[e]at z;cases z
def St.ae(h:St t A P puts Ad o false)(ht:t+1<=200000):
 PB (A.ae P).2.2 (t+1)/\HU P (A.ae P).1 (A.ae P).2.2/\DI (CC (t+1)) (A.ae P).2.2 puts Ad o/\Reads (CC (t+1)) (A.ae P).2.2 puts o/\
  ((A.ae P).1=0->St (t+1) (A.ae P).2.1 (A.ae P).2.2 puts puts.length o false)/\(A.ae P).1≠6:=by
 obtain⟨sg,cl,ol,W,hll⟩:=h.si rfl;have I:=W.aR (HQ (Fa t));obtain⟨⟨a1,O⟩,Y⟩:=I.ae;have hcode:=W.gd (by omega);have d:=(A3d A P).dn h.pb (by omega) (by omega);obtain⟨X,r2⟩:=d.refQ h.pb;have E:PB (A.ae P).2.2 (t+1):=⟨h.pb.CU.fS.ad (by omega) (by omega) (by omega),(A2Z h.pb.Ap).ad (by omega),X,r2⟩;have hlen:=h.Bo;refine⟨E,d,a1,O,λe=>?_,U4 A P⟩;obtain⟨L,b2,b3⟩:=Y e;refine⟨E,L.di,O,λ_=>⟨sg,cl,ol,L,by rw[b2];simp⟩,h.pu,by omega,Ao _,?_⟩;rcases d with⟨_,_,_,z⟩|⟨z,_⟩|⟨z,_⟩
 ·rw[z];exact h.Bh
 ·rw[e]at z;cases z
 ·rw[e]at z;cases z
def PB.aJ{sg cl:List (Int×List Pu)}{ol:Option (List Pu)}(h:PB P t)(O:GZ P)(L:Uv A P sg cl ol t)(ht:t+1<=200000)(kept:List Int)(fresh:List (List Pu))(hk:kept.length<=t)(hf:fresh.length<=t)(I:∀l∈fresh,l.length<=t)(Y:(A.aJ P kept fresh).1=0\/(A.aJ P kept fresh).1=5\/(A.aJ P kept fresh).1=6):PB (A.aJ P kept fresh).2.2 (t+1)/\HU P (A.aJ P kept fresh).1 (A.aJ P kept fresh).2.2:=by
 have d:=(A26 A P kept fresh).dn h (by omega) Y;obtain⟨z,W⟩:=d.refQ h;have hc:=L.HP;have E:=h.CU.aJ (A:=A) kept fresh;obtain⟨w,i⟩:=XG (a:=3*(t+1)+20) (m:=40*(t+1)+1000) (A:=A) (h.CU.ad (a':=3*(t+1)+20) (m':=40*(t+1)+1000) (by omega) (Ao _) (by omega)).wd h.Ap O kept fresh (by omega) (λl X=>by have:=I l X;omega) (by omega);exact⟨⟨(w.CU E).ad (Ao _) (by omega) (Ao _),i.ad (by omega),z,W⟩,d⟩
def St.aO{d:Int}(h:St t A P puts Ad o false)(hw:Ca (AH d))(ht:t+1<=200000):
 PB (A.aO P d).2.2 (t+1)/\HU P (A.aO P d).1 (A.aO P d).2.2/\DI (CC (t+1)) (A.aO P d).2.2 puts Ad o/\Reads (CC (t+1)) (A.aO P d).2.2 puts o/\
  ((A.aO P d).1=0->St (t+1) (A.aO P d).2.1 (A.aO P d).2.2 puts puts.length o false):=by
 obtain⟨sg,cl,ol,Y,hll⟩:=h.si rfl;have I:=Y.bZ h.pb h.Bo (by omega);obtain⟨n1,n2⟩:=I.CH;obtain⟨n3,n4⟩:=I.segs;have n5:=I.Az;have n6:=I.Av;have n7:=I.s;have aB:=Y.aR (HQ (Fa t));obtain⟨⟨a1,a2⟩,a3⟩:=aB.aO hw I.jn n1 (by omega) (by omega) (by simp only[CC];omega) (by omega);have O:=Y.fW hw I.jn n1 (by omega) (by omega) (by omega);have hp:=Y.Bc.puts Y.CK;have W:=Mh hw (AG cl++ol.getD []);have hfl:=KL W.ne;have hfl2:=W.Bo;have e:A.aO P d=A.aJ P A.ix.segs (EO d (AG cl++ol.getD [])):=by
  unfold Ar.aO;rw[hp,Ae (by simp)]
 have E:=h.pb.aJ (A:=A) h.di.bl I ht A.ix.segs (EO d (AG cl++ol.getD [])) n3 (by omega) (λl hl=>by
  have:=(A3D hl).length_le
  omega) (by rw[<-e];exact O)
 rw[<-e]at E;obtain⟨X,z⟩:=E;have hlen:=h.Bo;refine⟨X,z,a1,a2,λe0=>?_⟩;obtain⟨aA,b1,b2,_⟩:=a3 e0;refine⟨X,b1.di,a2,λ_=>⟨aA,[],none,b1,by rw[b2];simp⟩,h.pu,by omega,Ao _,?_⟩;rcases z with⟨_,_,_,L⟩|⟨L,_⟩|⟨L,_⟩
 ·rw[L];exact h.Bh
 ·rw[e0]at L;cases L
 ·rw[e0]at L;cases L
def St.aQ(d:PB P t)(L:DI (CC t) P puts Ad o)(O:Reads (CC t) P puts o)(W:∀p∈puts,Bq p)(hl:puts.length<=t)(z:Ad<=puts.length)(h:P.D.n.Bh=false)(ht:t<=200000):
 ∃A I,Ar.aQ P=.ok (A,I)/\St t A P puts Ad o false/\C6 o I puts/\(∀p∈I,Bq p):=by
 obtain⟨A',sg,cl,Y,E,h3,X⟩:=SI.aQ L (by simp only[CC];omega) O z (by omega);refine⟨A',_,Y,⟨d,L,O,λ_=>⟨sg,cl,none,E,?_⟩,W,hl,z,h⟩,h3,λp d=>?_⟩
 ·rw[X];have h5:(A'.aU P).length<=P.Az.length:=MV _ _;have h6:P.Az.length<=3*t+20:=by rw[J6];exact d.CU.A5
  omega
 ·rcases AY.1 d with d|d
  ·exact E.Bc.fI p d
  ·exact E.Bc.cw p d
def PB.bM(h:PB P t)(n:DN)(E:n.AA=P.D.n.AA)(d:0<=n.BC/\n.BC<=9223372036854775807)(I:n.Bj=P.D.n.Bj)(z:n.fulls=P.D.n.fulls):PB ⟨{P.D with n:=n},P.F⟩ t:=
 ⟨⟨h.CU.A5,h.CU.AF,h.CU.FE,h.CU.An,h.CU.Bo,by rw[E];exact h.CU.AA,d⟩,h.Ap,by rw[I];exact h.refQ,by rw[z];exact h.J4⟩
def St.bM(h:St t A P puts Ad o ro)(n:DN)(I:n.AA=P.D.n.AA)(z:0<=n.BC/\n.BC<=9223372036854775807)(O:n.Bj=P.D.n.Bj)(E:n.fulls=P.D.n.fulls)(L:n.Bh=P.D.n.Bh):St t A ⟨{P.D with n:=n},P.F⟩ puts Ad o ro:=
 ⟨h.pb.bM n I z O E,⟨h.di.DH,h.di.Ap,h.di.Cd,h.di.Cs⟩,h.rd.au λ_=>rfl,λe=>by
  obtain⟨sg,cl,ol,q,d⟩:=h.si e
  exact⟨sg,cl,ol,⟨⟨q.di.DH,q.di.Ap,q.di.Cd,q.di.Cs⟩,q.Bc.au λ_=>rfl,q.Hv,q.Gs,q.AE,q.CK,q.Eh⟩,d⟩,h.pu,h.Bo,h.le,L.trans h.Bh⟩
def Ex(t:Nat)(P:PD)(puts:List Pu)(Ad:Nat)(o:Int)(fell:Bool):Prop:=
 PB P t/\DI (CC t) P puts Ad o/\(∀p∈puts,Bq p)/\puts.length<=t/\Ad<=puts.length/\
  (P.D.n.Bh=true\/∃n0,Ad<=n0/\n0<=puts.length/\(fell=false->n0=puts.length)/\∀d n,o<=d->n0<=n->n<=puts.length->C6 d (puts.take n0) (puts.take n)->DI (CC t) P (puts.take n) Ad d/\Reads (CC t) P (puts.take n) d)
def St.fX(h:St t A P puts Ad o ro)(fell:Bool):Ex t P puts Ad o fell:=
 ⟨h.pb,h.di,h.pu,h.Bo,h.le,.inr ⟨puts.length,h.le,Ao _,λ_=>rfl,λo' n d h2 h3 _=>by
  have e:n=puts.length:=by omega
  subst e;rw[Cc]
  exact⟨h.di.ba d,h.rd.ba d⟩⟩⟩
def A1Z(h:PB P t)(hd:DI (CC t) P puts Ad o)(dirs:Int)(d:List Int):PB (P.aW dirs d) t:=by
 have E:=TD P.D dirs;generalize W:Ga P.D dirs=s at E;have L:(P.aW dirs d).D.A5=s:=by unfold PD.aW F5;dsimp only;exact W
 have aB:(P.aW dirs d).D.AF=s:=by unfold PD.aW F5;dsimp only;exact W
 have X:(P.aW dirs d).D.Aq=[]:=rfl;have O:∀e∈s,P.D.Ap e.2:=λe z=>by
  rcases BX.1 E with E|E
  ·rw[E]at z;exact .inr (.inl ⟨e,z,rfl⟩)
  ·exact .inr (.inr ⟨s,E,e,z,rfl⟩)
 have I:∀f,(P.aW dirs d).D.Ap f->P.D.Ap f/\∃e∈s,e.2=f:=λf hf=>by
  rcases hf with⟨e,z,rfl⟩|⟨e,z,rfl⟩|⟨l,hl,_⟩
  ·rw[L]at z;exact⟨O e z,e,z,rfl⟩
  ·rw[aB]at z;exact⟨O e z,e,z,rfl⟩
  ·rw[X]at hl;cases hl
 have Y:s.length<=3*t+20:=by
  rcases BX.1 E with E|E
  ·rw[E];exact h.CU.AF
  ·exact h.CU.FE s E
 have hr:∀e∈s,0<=(P.F e.2).2/\(P.F e.2).2<=(P.F e.2).1.length:=λe z=>by
  obtain⟨ix,sg,cl,lo,nb,hL,_⟩:=hd.DH s E;have hv:vw P.F s e.1.data.toList=some (P.F e.2):=by
   unfold vw;rw[Gm];cases hk:lookup s e.1 with
   | none=>exact absurd rfl (IW.1 hk e z)
   | some g=>
    obtain⟨i,hi,e1⟩:=Ep (E9 hk);obtain⟨j,hj,e2⟩:=Ep z;have:i=j:=JG (hd.Cd s E) (by simpa using hi) (by simpa using hj) (by simp[e1,e2]);subst this;rw[e1]at e2;rw[<-e2];rfl
  exact hL.E3 _ _ hv
 refine⟨⟨by rw[L];exact Y,by rw[aB];exact Y,λl hl=>(by rw[X]at hl;cases hl),(by rw[X];simp),λf hf=>?_,h.CU.AA,h.CU.BC⟩,λf hf=>h.Ap f (I f hf).1,h.refQ,h.J4⟩;obtain⟨h1,e,z,rfl⟩:=I f hf;have hF:(P.aW dirs d).F=DX s d (dList s) P.F s.length:=by unfold PD.aW F5;dsimp only;rw[W]
 rw[hF];have aA:=h.CU.Bo _ h1;rcases TB s d (dList s) P.F hr s.length e z with⟨q,_⟩|⟨x,q⟩
 ·rw[q];exact aA
 ·rw[q];obtain⟨j,_,_,j3⟩:=OT (hr e z) x;rw[j3];simp only[BI];omega
def Ex.aW(X:PB P t)(z:DI (CC t) P puts Ad o)(I:∀p∈puts,Bq p)(Y:puts.length<=t)(h:Ad<=puts.length)(ht:t<=200000)(dirs:Int)(d:List Int):
 Ex t (P.aW dirs d) puts Ad o true/\(P.aW dirs d).D.n.Bh=false:=by
 obtain⟨O,n,E,h3,L⟩:=z.aW dirs d (by omega);exact⟨⟨A1Z X z dirs d,O,I,Y,h,.inr ⟨n,E,h3,λe=>(by cases e),λo' m W _ _ h6=>L o' _ W h6⟩⟩,rfl⟩
def Ex.ba{d:Int}{fell:Bool}(h:Ex t P puts Ad o fell)(ho:o<=d):Ex t P puts Ad d fell:=by
 obtain⟨O,z,h3,L,W,h6⟩:=h;refine⟨O,z.ba ho,h3,L,W,h6.imp id ?_⟩;rintro⟨n0,g1,E,g3,Y⟩;exact⟨n0,g1,E,g3,λX n k1 k2 I k4=>Y X n (by omega) k2 I k4⟩
def Ex.ad{z:Nat}{fell:Bool}(h:Ex t P puts Ad o fell)(d:t<=z):Ex z P puts Ad o fell:=by
 obtain⟨X,I,h3,h4,Y,h6⟩:=h;refine⟨X.ad d,I.aR (HQ d),h3,by omega,Y,h6.imp id ?_⟩;rintro⟨n0,g1,L,g3,g4⟩
 exact⟨n0,g1,L,g3,λo2 n E k2 O k4=>by
  obtain⟨W,q2⟩:=g4 o2 n E k2 O k4
  exact⟨W.aR (HQ d),q2.aR (HQ d)⟩⟩
def Ex.bM{fell:Bool}(h:Ex t P puts Ad o fell)(n:DN)(Y:n.AA=P.D.n.AA)(L:0<=n.BC/\n.BC<=9223372036854775807)(h3:n.Bj=P.D.n.Bj)(W:n.fulls=P.D.n.fulls)(h5:n.Bh=P.D.n.Bh):Ex t ⟨{P.D with n:=n},P.F⟩ puts Ad o fell:=by
 obtain⟨g1,z,g3,g4,g5,E⟩:=h;refine⟨g1.bM n Y L h3 W,⟨z.DH,z.Ap,z.Cd,z.Cs⟩,g3,g4,g5,?_⟩;rcases E with E|⟨n0,I,k2,O,k4⟩
 ·exact .inl (h5.trans E)
 ·refine .inr ⟨n0,I,k2,O,λo2 n2 X q2 q3 q4=>?_⟩;obtain⟨d,r⟩:=k4 o2 n2 X q2 q3 q4;exact⟨⟨d.DH,d.Ap,d.Cd,d.Cs⟩,r.au λ_=>rfl⟩
end
end
section
open Go.RowKit
attribute [local go_sem ↓] Go.wp_at_zero Go.wp_at_succ
def DU(c:Int):Int:=if c<0 then 1152921504606846976 else c
def QQ(w:World)(c:Int):Ag 42 #[A0 c] w (Aj (A0 (DU c)) λw'=>w=w'):=by
 unfold DU;by_cases h:c<0
 ·rw[Ai h]
  go_enter func42,ntmps42
  go_wp2;go_ret;exact⟨rfl,rfl⟩
 ·rw[Ae h]
  go_enter func42,ntmps42
  go_wp2;go_ret;exact⟨rfl,rfl⟩
def K5(w:World)(g:Nat)(l:List Int):Prop:=∀k (d:k<l.length),w.cell? ⟨g,k,none⟩=some (.int .i64 (l[k]'d))
def A3g(w:World)(g:Nat)(l:List Int)(x:Int)(h:K5 w g l)(hl:l.length<1000):
 Ag 41 #[AB g l.length l.length,A0 x] w (Aj (.bool (decide (x∈l))) λw'=>w=w'):=by
 obtain⟨q,W⟩:∃q,decide (x∈l)=q:=⟨_,rfl⟩;rw[W];have O:=A1 W;have H:=A1 h
 go_enter func41,ntmps41
 go_wp2;go_loopw [5] (λiv wr=>∃k:Nat,k<=l.length/\iv=A0 k/\wr=w/\Hid (∀i (d:i<l.length),i<k->l[i]'d≠x)) (λiv _=>l.length-(intOf iv).toNat)
 case atStart=>exact⟨0,by omega,rfl,rfl,λi d h=>by omega⟩
 case round=>
  obtain⟨k,hk,rfl,rfl,I⟩:=hrel;have k0:=BR k;by_cases E:k<l.length
  ·(have k1:(k:Int)<(l.length:Int):=by omega);have hc:=H.o k E;generalize X:l[k]'E=y at hc;by_cases z:y=x
   ·have L:Hid (q=true):=by
     rw[<-O.o];exact Ct (z ▸ X ▸ BT E)
    subst z;go_wp2;go_ret;rw[L.o];exact⟨rfl,rfl⟩
   ·have Y:Hid (∀i (d:i<l.length),i<k+1->l[i]'d≠x):=λi d h=>by
     by_cases e:i=k
     ·subst e;rw[X];exact z
     ·exact I.o i d (by omega)
    go_wp2;go_roundw
    case rel=>exact⟨k+1,by omega,by go_num,trivial,Y.o⟩
    case measure=>simp[intOf];omega
  ·(obtain rfl:k=l.length:=by omega);have L:Hid (q=false):=by
    rw[<-O.o];refine Cu λhx=>?_;obtain⟨i,d,e⟩:=A3I.1 hx;exact I.o i d d e
   go_wp2;go_ret;rw[L.o];exact⟨rfl,rfl⟩
def QJ(w:World)(va vb:Value)(l m:List Pt)(ha:Cb w va l)(hb:Cb w vb m)(hl:l.length<1099511627776)(_hm:m.length<1099511627776):
 Ag 93 #[va,vb] w (Aj (.bool (decide (l=m))) λw'=>A4 Aa w w'):=by
 obtain⟨aa,ca,rfl,-,-,aD,-,-⟩:=Bk ha;obtain⟨ab,cb,rfl,-,-,aI,-,-⟩:=Bk hb;by_cases d:l.length=m.length
 ·have aM:=A1 ha;have aL:=A1 hb;have aA:=A1 aD;have aF:=A1 aI;have L:=A1 d;obtain⟨q,hq⟩:∃q,decide (l=m)=q:=⟨_,rfl⟩;rw[hq,<-d];have aK:=A1 hq;clear ha hb aD aI d hq _hm
  go_enter func93,ntmps93
  go_wp2;go_loopw [5] (λiv wr=>∃k:Nat,k<=l.length/\iv=A0 k/\Hid (A4 Aa w wr)/\Hid (l.take k=m.take k)) (λiv _=>l.length-(intOf iv).toNat)
  case atStart=>exact⟨0,by omega,rfl,A4.C _ _,rfl⟩
  case round=>
   obtain⟨k,hk,rfl,Y,hE⟩:=hrel;obtain⟨w0,aN⟩:∃w0,w0=wr:=⟨_,rfl⟩;subst aN;have k0:=BR k;by_cases z:k<l.length
   ·(have E:k<m.length:=by have:=L.o;omega);(have k1:(k:Int)<(l.length:Int):=by omega);obtain⟨W,rfl⟩:=aA.o (by omega);obtain⟨X,rfl⟩:=aF.o (by omega);have aB:Cb w0 _ l:=Aw aM.o λg hg=>Y.o.Am g (Ay aM.o hg) (λh=>h);obtain⟨a0,a1⟩:=aB.bn k z;clear aB;have aH:Cb w0 _ m:=Aw aL.o λg hg=>Y.o.Am g (Ay aL.o hg) (λh=>h);obtain⟨b0,b1⟩:=aH.bn k E;clear aH;obtain⟨p,hx⟩:∃p,l[k]'z=p:=⟨_,rfl⟩;obtain⟨r,hy⟩:∃r,m[k]'E=r:=⟨_,rfl⟩;have aG:Hid (p=r->l.take (k+1)=m.take (k+1)):=λe=>by
     rw[DL z,DL E,hE.o,hx,hy,e]
    have I:Hid (p≠r->q=false):=λaJ=>by
     rw[<-aK.o];refine Cu λe=>aJ ?_;subst e;rw[<-hx,<-hy]
    obtain⟨t,v⟩:=p;obtain⟨t2,v2⟩:=r;rw[hx]at a0 a1;rw[hy]at b0 b1;have aO:=A1 z;clear hx hy aM aL aA aF hE L aK E z;by_cases e1:t=t2
    ·subst e1;by_cases e2:v=v2
     ·subst e2;have aP:=A1 (aG.o rfl);clear aG I;go_wp2;refine Bt (λw'=>A8 w' W (k*2) (A0 t)/\A8 w' W (k*2+1) (A0 v)/\A8 w' X (k*2) (A0 t)/\A8 w' X (k*2+1) (A0 v)) 23
       (Bb [0,1,2,3,4,5,6,7,8,9,10,11,12,13,14,15,16,17,18,19,20,21,22] []) ⟨a0,a1,b0,b1⟩ ?_
      iterate 23 (refine B1 ?_;(try simp only[Ak]))
      refine B4 ?_;simp only[Bm,Bl];go_wp2;go_roundw
      case rel=>exact⟨k+1,by have:=aO.o;omega,by go_num,Y.o.aa,aP.o⟩
      case measure=>have:=aO.o;simp[intOf];omega
     ·have aE:=I.o (by simp[e2]);(have e3:(v !=v2)=true:=by simpa using e2);have O:=A1 aE;go_wp2;refine Bt (λw'=>A8 w' W (k*2) (A0 t)/\A8 w' W (k*2+1) (A0 v)/\A8 w' X (k*2) (A0 t)/\A8 w' X (k*2+1) (A0 v2)) 23
       (Bb [0,1,2,3,4,5,6,7,8,9,10,11,12,13,14,15,16,17,18,19,20,21,22] []) ⟨a0,a1,b0,b1⟩ ?_
      iterate 23 (refine B1 ?_;(try simp only[Ak]))
      refine B4 ?_;simp only[Bm,Bl];go_wp2;go_ret;rw[O.o];exact⟨rfl,Y.o.aa⟩
    ·have aE:=I.o (by simp[e1]);(have e3:(t !=t2)=true:=by simpa using e1);have O:=A1 aE;go_wp2;refine Bt (λw'=>A8 w' W (k*2) (A0 t)/\A8 w' W (k*2+1) (A0 v)/\A8 w' X (k*2) (A0 t2)/\A8 w' X (k*2+1) (A0 v2)) 23
      (Bb [0,1,2,3,4,5,6,7,8,9,10,11,12,13,14,15,16,17,18,19,20,21,22] []) ⟨a0,a1,b0,b1⟩ ?_
     iterate 12 (refine B1 ?_;(try simp only[Ak]))
     iterate 11 (refine Vr rfl (by rfl) ?_;(try simp only[Ak]))
     refine B4 ?_;simp only[Bm,Bl];go_wp2;go_ret;rw[O.o];exact⟨rfl,Y.o.aa⟩
   ·(obtain rfl:k=l.length:=by omega);have aE:Hid (q=true):=by
     have h2:=hE.o;rw[Cc,L.o,Cc]at h2;rw[<-aK.o];exact Ct h2
    go_wp2;go_ret;rw[aE.o];exact⟨rfl,Y.o⟩
 ·have e:decide (l=m)=false:=Cu λe=>d (Eu List.length e);have e2:((l.length:Int)!=(m.length:Int))=true:=by simp;omega
  rw[e]
  go_enter func93,ntmps93
  go_wp2;go_ret;exact⟨rfl,A4.C _ _⟩
end
end Go.Proofs.YtodcnkbblippnaaGreatDoor
