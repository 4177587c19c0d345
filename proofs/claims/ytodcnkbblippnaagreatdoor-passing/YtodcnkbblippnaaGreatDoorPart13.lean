/- Part 13 of a proof: walks of the program. -/
import Derived.Test.YtodcnkbblippnaaGreatDoorPart12
namespace Go.Proofs.YtodcnkbblippnaaGreatDoor
set_option maxRecDepth 100000
set_option maxHeartbeats 32000000
set_option linter.defProp false
open Go.Proofs.Tryz
section
open Go.RowKit
attribute [local go_sem ↓] C5
section
def RO(w:World)(x y:Value)(d z:List Pu)(h1:AO w x d)(h2:AO w y z):
 Ac 114 #[x,y] w (Ak (.bool (decide (d=z))) λw'=>A2 A7 w w'):=by
 obtain⟨va,vcap,rfl,v1,v2,v3,-⟩:=AR h1;obtain⟨ua,ucap,rfl,u1,u2,u3,-⟩:=AR h2;unfold maxLen at v2 u2;have aJ:=A1 h1;have aN:=A1 h2;have aR:=A1 v3;have aU:=A1 u3;by_cases hl:d.length=z.length
 case neg=>
  have aI:¬d=z:=λe=>hl (by rw[e]);rw[Cj aI];have aP:((d.length:Int)!=(z.length:Int))=true:=by simp;omega
  go_enter func114,ntmps114
  go_wp2;go_ret;exact⟨rfl,A2.C _ _⟩
 case pos=>
 have aH:=A1 hl;have aP:((d.length:Int)!=(z.length:Int))=false:=by simp;omega
 go_enter func114,ntmps114
 go_wp2;go_loopw [13] (λiv wr=>∃k:Nat,iv=A0 k/\k<=d.length/\Hid (d.take k=z.take k/\A2 A7 w wr)) (λiv _=>d.length-(intOf iv).toNat)
 case atStart=>exact⟨0,rfl,by omega,by simp,A2.C _ _⟩
 case round=>
  obtain⟨k,rfl,hk,hI⟩:=hrel;obtain⟨i1,J⟩:=hI.o;by_cases I:k<d.length
  ·(have E:k<z.length:=by have:=aH.o;omega);obtain⟨g,rfl⟩:=aR.o (by omega);obtain⟨g',rfl⟩:=aU.o (by omega);obtain⟨p1,p2,p3⟩:=Fl d k I;obtain⟨q1,q2,q3⟩:=Fl z k E;have aB:d.take (k+1)=d.take k++[d[k]'I]:=D9 I;have aD:z.take (k+1)=z.take k++[z[k]'E]:=D9 E;(have L:d=z->(d[k]'I)=(z[k]'E):=λe=>by subst e;rfl);obtain⟨p,hp⟩:∃p,(d[k]'I)=p:=⟨_,rfl⟩;obtain⟨q,hq⟩:∃q,(z[k]'E)=q:=⟨_,rfl⟩;rw[hp]at p1 p2 p3 aB L;rw[hq]at q1 q2 q3 aD L;(have aO:Hid (p=q->d.take (k+1)=z.take (k+1)):=λe=>by rw[aB,aD,i1,e]);have aA:Hid (¬p=q->decide (d=z)=false):=λh=>Cj λe=>h (L e);have aQ:Hid (∀O,A2 A7 wr O->A5 O g (k*3) (A0 p.1)/\A5 O g (k*3+1) (A0 p.2.1)/\A5 O g (k*3+2) (A0 p.2.2)/\A5 O g' (k*3) (A0 q.1)/\A5 O g' (k*3+1) (A0 q.2.1)/\A5 O g' (k*3+2) (A0 q.2.2)):=λO hx=>
    ⟨hx.af (J.af (Be aJ.o rfl p1)),hx.af (J.af (Be aJ.o rfl p2)),hx.af (J.af (Be aJ.o rfl p3)),hx.af (J.af (Be aN.o rfl q1)),hx.af (J.af (Be aN.o rfl q2)),hx.af (J.af (Be aN.o rfl q3))⟩
   have aE:=A1 J;obtain⟨V,Z,pc⟩:=p;obtain⟨U,W,qc⟩:=q;dsimp only at aQ;(have aK:(k:Int)<(d.length:Int):=by omega);(have hkj:(k:Int)<(z.length:Int):=by omega);have hk0:=C3 k;have aS:=aQ.o wr.drew (A2.C _ wr).I;clear hI i1 J p1 p2 p3 q1 q2 q3 aB aD L hp hq E;go_wp2;refine BH (λw'=>A5 w' g (k*3) (A0 V)/\A5 w' g (k*3+1) (A0 Z)/\A5 w' g (k*3+2) (A0 pc)/\A5 w' g' (k*3) (A0 U)/\A5 w' g' (k*3+1) (A0 W)/\A5 w' g' (k*3+2) (A0 qc)) 8
    (Bj [0,1,2,3,4,5,6,7] []) aS ?_
   iterate 8 (refine B5 ?_;(try simp only[An]))
   refine Bd ?_;simp only[BD,BC];by_cases H:(V,Z,pc)=(U,W,qc)
   ·have aM:=A1 (aO.o H);(obtain⟨rfl,rfl,rfl⟩:V=U/\Z=W/\pc=qc:=by simpa using H);clear H aO aA;go_wp2;go_roundw
    case rel=>exact⟨k+1,by go_num,by omega,aM.o,aE.o.I⟩
    case measure=>simp[intOf];omega
   ·have Y:=A1 (aA.o H);have aL:¬V=U\/(V=U/\¬Z=W)\/(V=U/\Z=W/\¬pc=qc):=by
     by_cases ha:V=U
     ·by_cases hb:Z=W
      ·exact .inr (.inr ⟨ha,hb,λhc=>H (by rw[ha,hb,hc])⟩)
      ·exact .inr (.inl ⟨ha,hb⟩)
     ·exact .inl ha
    clear H aO aA;rcases aL with ha|⟨rfl,hb⟩|⟨rfl,rfl,hc⟩
    ·(have aG:(V==U)=false:=by simpa using ha);go_wp2;go_ret;exact⟨by rw[Y.o];rfl,aE.o.I⟩
    ·(have aG:(Z==W)=false:=by simpa using hb);go_wp2;go_ret;exact⟨by rw[Y.o];rfl,aE.o.I⟩
    ·(have aG:(pc==qc)=false:=by simpa using hc);go_wp2;go_ret;exact⟨by rw[Y.o];rfl,aE.o.I⟩
  ·(have aF:k=d.length:=by omega);have he:d=z:=by
    have h1:=i1;rw[aF,CP]at h1;rw[aH.o,CP]at h1;exact h1
   have aE:=A1 J;(have aK:¬((k:Int)<(d.length:Int)):=by omega);have aT:=A1 he;clear hI i1 J he aF;go_wp2;go_ret;exact⟨by rw[Cc aT.o];rfl,aE.o⟩
def OZ{aA b:Nat}(w:World)(I J:Nat)(x:Int×List Pu)(h:Gd w aA b I x)(U:Value)(l:List Pu)(hp:A5 w J 0 U)(V:AO w U l):
 Ac 113 #[A4 I,A4 J] w (Ak (.bool (decide (x.2=l))) λw'=>A2 A7 w w'):=by
 obtain⟨sv,s1,s2,-,-⟩:=h;obtain⟨W,z,rfl,c1,c2,-⟩:=AR s2;obtain⟨Y,y,rfl,d1,d2,-⟩:=AR V;have f4:A5 w.drew I 4 (.slice W x.2.length z):=s1.c4;have H:A5 w.drew J 0 (.slice Y l.length y):=hp;have O:=A1 (RO w.drew _ _ x.2 l (Aq s2 λ_ _=>rfl) (Aq V λ_ _=>rfl));generalize hd:decide (x.2=l)=d at O ⊢;generalize hn1:x.2.length=n1 at O f4
 go_enter func113,ntmps113
 go_wp2;refine BH (λw'=>A5 w' I 4 (.slice W n1 z)/\A5 w' J 0 (.slice Y l.length y)) 6
  (Bj [0,1,2,3,4,5] [5]) ⟨f4,H⟩ ?_
 iterate 5 (refine B5 ?_;(try simp only[An]))
 refine B7 λK hK=>?_;go_simp;refine O.m ?_;rintro e Z⟨rfl,E⟩;refine hK _ _ ⟨E.af f4,E.af H⟩ (λhS=>?_);have L:Hid (A2 A7 w Z):=((A2.C _ w).I).tr E
 (try simp only[An])
 refine Bd ?_;simp only[BD,BC];go_wp2;go_ret;exact⟨rfl,L.o⟩
def Rw{aL b:Nat}(w:World)(v:Value)(A6:List (Int×List Pu))(h:Ef w aL b v A6)(pb:Nat)(pv:Value)(l:List Pu)(hp:A5 w pb 0 pv)(hl:AO w pv l):
 Ac 112 #[v,.func (Fn.func 113) #[] #[A4 pb]] w λe w'=>
  ((e=.returned (A0 (-1))/\A6.find? (λs=>decide (s.2=l))=none)\/∃(k:Nat) (hk:k<A6.length),e=.returned (A0 k)/\A6.find? (λs=>decide (s.2=l))=some (A6[k]'hk))/\A2 A7 w w':=by
 obtain⟨L,j1,j2,j3,j4⟩:=h;obtain⟨va,vcap,rfl,v1,v2,v3,-⟩:=AR j2;unfold maxLen at v2;have aM:=A1 j2;have aK:=A1 j4;have G:=A1 v3;have aJ:=A1 hp;have aH:=A1 hl
 go_enter func112,ntmps112
 go_wp2;go_loopw [8] (λiv wr=>∃k:Nat,iv=A0 k/\k<=A6.length/\Hid ((A6.take k).find? (λs=>decide (s.2=l))=none/\A2 A7 w wr)) (λiv _=>A6.length-(intOf iv).toNat)
 case atStart=>exact⟨0,rfl,by omega,by simp,A2.C _ _⟩
 case round=>
  obtain⟨k,rfl,hk,hI⟩:=hrel;obtain⟨O,H⟩:=hI.o;by_cases y:k<A6.length
  ·(have z:k<L.length:=by omega);obtain⟨g,rfl⟩:=G.o (by omega);have hc:A5 w g k (A4 (L[k]'z)):=Be aM.o rfl (by simp[Eo,z]);have J:=aK.o k z y;have V:A6=A6.take k++(A6[k]'y):: A6.drop (k+1):=by
    conv=>lhs;rw[<-EG k A6,EH y]
   have U:A6.take (k+1)=A6.take k++[A6[k]'y]:=D9 y;generalize aF:(L[k]'z)=gb at hc J;have e1:=H.af hc;have W:=A1 (OZ wr gb pb (A6[k]'y) (J.an H) pv l (H.af aJ.o) (Aq aH.o λg hg=>H.Ao g (Av aH.o hg) (λh=>h)));have Y:=A1 H;have aG:Hid (decide ((A6[k]'y).2=l)=false->(A6.take (k+1)).find? (λs=>decide (s.2=l))=none):=λh=>by
    rw[U,Tr,O,List.find?_cons_of_neg (by rw[h];simp)];rfl
   have aB:Hid (decide ((A6[k]'y).2=l)=true->A6.find? (λs=>decide (s.2=l))=some (A6[k]'y)):=λh=>by
    have e:(A6.take k++(A6[k]'y):: A6.drop (k+1)).find? (λs=>decide (s.2=l))=some (A6[k]'y):=by
     rw[Tr,O,List.find?_cons_of_pos (by exact h)];rfl
    rwa [<-V]at e
   generalize hd:decide ((A6[k]'y).2=l)=d at W aG aB;(have Z:(k:Int)<(A6.length:Int):=by omega);have hk0:=C3 k;clear hI O H hc J V U aF hd;cases d with
   | true=>
    have aD:=A1 (aB.o rfl);clear aG aB;go_wp2_with (fail);refine W.m ?_;rintro e w6⟨rfl,E⟩;have I:=A1 E;go_wp2;go_ret;exact⟨.inr ⟨k,y,rfl,aD.o⟩,Y.o.tr I.o⟩
   | false=>
    have aE:=A1 (aG.o rfl);go_wp2_with (fail);refine W.m ?_;rintro e w6⟨rfl,E⟩;have I:=A1 E;clear E W;go_wp2;go_roundw
    case rel=>exact⟨k+1,by go_num,by omega,aE.o,Y.o.tr I.o⟩
    case measure=>simp[intOf];omega
  ·(have aA:k=A6.length:=by omega);subst aA;rw[CP]at O;have aI:=A1 O;have Y:=A1 H;(have Z:¬((A6.length:Int)<(A6.length:Int)):=by omega);clear hI O H;go_wp2;go_ret;exact⟨.inl ⟨rfl,by simpa using aI.o⟩,Y.o⟩
end
def Mf(A6:List (Int×List Pu))(oldest:Int)(l:List Pu)(r:List (List Pu)):Bi A6 oldest (l::r)=if l.any (λp=>decide (oldest<=p.2.1))=false then Bi A6 oldest r else
 match A6.find? λs=>decide (s.2=l) with
 | none=>((Bi A6 oldest r).1,l::(Bi A6 oldest r).2)
 | some s=>(s.1::(Bi A6 oldest r).1,(Bi A6 oldest r).2):=rfl
def Me(A6:List (Int×List Pu))(oldest:Int):∀d:List (List Pu),(Bi A6 oldest d).1.length+(Bi A6 oldest d).2.length<=d.length/\(∀n∈(Bi A6 oldest d).1,∃s∈A6,s.1=n)/\(∀l∈(Bi A6 oldest d).2,l∈d)/\C8 (Bi A6 oldest d).2<=C8 d
 | []=>⟨Aw _,(λn y=>absurd y List.not_mem_nil),(λl H=>H),Aw _⟩
 | l::r=>by
  obtain⟨h1,z,E,h4⟩:=Me A6 oldest r;rw[Mf,J3];split
  ·exact⟨by simp;omega,z,λx h=>BK _ (E x h),by omega⟩
  ·split
   ·refine⟨by simp;omega,z,λx h=>?_,by rw[J3];omega⟩;rcases Cf.1 h with rfl|h
    ·exact Ce
    ·exact BK _ (E x h)
   ·rename_i s I;refine⟨by simp;omega,λn y=>?_,λx h=>BK _ (E x h),by dsimp only;omega⟩;rcases Cf.1 y with rfl|y
    ·exact⟨s,Th I,rfl⟩
    ·exact z n y
def J6{P:PD}:∀(E:List Int) (l:List (Int×List Pu)),P.A6 E=some l->∀x∈l,x.1∈E
 | [],l,h=>by cases h;exact λx z=>by cases z
 | n::r,l,h=>by
  unfold PD.A6 at h;cases z:P.CY n with
  | none=>rw[z]at h;cases h
  | some q=>
   rw[z]at h;dsimp only at h;cases hy:P.A6 r with
   | none=>rw[hy]at h;cases h
   | some y=>
    rw[hy]at h;cases h;intro x d;rcases Cf.1 d with rfl|d
    ·exact Ce
    ·exact BK _ (J6 r y hy x d)
section
variable {N ab b a c m B:Nat} {A:Ar} {P:PD} {FT:Nat->Prop}
structure Fe (w5 w:World) (B0:Nat) (vk vf:Value) (kk:List Int) (ff:List (List Pu)):Prop where
 Aj:A2 (λ_=>False) w5 w
 F5:Cs w vk kk
 GF:∀g,vk.ownBlock=some g->w5.heap.size<=g
 Bq:∃fvs:List Value,fvs.length=ff.length/\w.ownsRow 0 97 1 vf ff.length fvs/\(∀g,vf.ownBlock=some g->w5.heap.size<=g)/\(∀k (h1:k<fvs.length) (h2:k<ff.length),AO w5 (fvs[k]'h1) (ff[k]'h2))/\∀x∈fvs,∀g,x.ownBlock=some g->B0<=g
def Fe.ao{O w w':World}{E:Nat}{I H:Value}{J:List Int}{L:List (List Pu)}(h:Fe O w E I H J L)(z:A2 A7 w w'):Fe O w' E I H J L:=by
 obtain⟨d,f1,f2,f3,f4,f5⟩:=h.Bq;exact⟨h.Aj.tr z,Aq h.F5 λg y=>z.Ao g (Av h.F5 y) (λh=>h),h.GF,d,f1,Aq f2 λg y=>z.Ao g (Av f2 y) (λh=>h),f3,f4,f5⟩
def Fe.ea{W w w':World}{V:Nat}{I z O:Value}{y:List Int}{U:List (List Pu)}{n:Int}(h:Fe W w V I O y U)(H:App w w' 3 1 I z (y.length+1) (CI y++CI [n])):Fe W w' V z O (y++[n]) U:=by
 have Y:=H.Aj (S:=λk=>I.oB k) λ_ h=>h;obtain⟨J,f1,f2,f3,f4,f5⟩:=h.Bq;refine⟨h.Aj.As Y λx L hlt=>by have:=h.GF x L;omega,?_,λg d=>?_,J,f1,Aq f2 λg d=>Y.Ao g (Av f2 d) λL=>FL f2 h.F5 (by decide) d L,f3,f4,f5⟩
 ·have e:(y++[n]).length=y.length+1:=by simp
  unfold Cs;rw[Hi,e];exact H.AA
 ·rcases H.BJ with E|E
  ·rw[E]at d;exact h.GF g d
  ·rw[E]at d;cases d;exact h.Aj.Af
def Fe.addF{U w w':World}{W:Nat}{vk I L x:Value}{kk:List Int}{z:List (List Pu)}{l:List Pu}(h:Fe U w W vk I kk z)(O:AO U x l)(aA:∀g,x.ownBlock=some g->W<=g)(d:List Value)(f1:d.length=z.length)(f2:w.ownsRow 0 97 1 I z.length d)(f3:∀g,I.ownBlock=some g->U.heap.size<=g)(f4:∀k (H:k<d.length) (V:k<z.length),AO U (d[k]'H) (z[k]'V))(f5:∀x∈d,∀g,x.ownBlock=some g->W<=g)(Z:App w w' 97 1 I L (z.length+1) (d++[x])):Fe U w' W vk L kk (z++[l]):=by
 have hc:=Z.Aj (S:=λk=>I.oB k) λ_ h=>h;refine⟨h.Aj.As hc λx O hlt=>by have:=f3 x O;omega,Aq h.F5 λg E=>hc.Ao g (Av h.F5 E) λO=>FL h.F5 f2 (by decide) E O,h.GF,d++[x],by simp[f1],?_,λg E=>?_,λk H V=>?_,λy J g E=>?_⟩
 ·have e:(z++[l]).length=z.length+1:=by simp
  rw[e];exact Z.AA
 ·rcases Z.BJ with H|H
  ·rw[H]at E;exact f3 g E
  ·rw[H]at E;cases E;exact h.Aj.Af
 ·by_cases hk:k<z.length
  ·rw[Fb (show k<d.length by omega),Fb hk];exact f4 k (by omega) hk
  ·(have Y:k=z.length:=by simp at V;omega);have e1:(d++[x])[k]'H=x:=by
    (have:k=d.length:=by omega);subst this;simp
   (have e2:(z++[l])[k]'V=l:=by subst Y;simp);rw[e1,e2];exact O
 ·rcases B3.1 J with J|J
  ·exact f5 y J g E
  ·rw[Ge.1 J]at E;exact aA g E
end
section
variable {N ab b a c m B:Nat} {A:Ar} {P:PD} {FT:Nat->Prop}
def SQ(hS:Iz N)(hN:N<=134217728)(w:World)(h:AD w ab b A P FT)(dF:∀k,FT k->k<w.heap.size)(Ax oldest:Int)(hw:1<=Ax/\Ax<=4611686018427387904)(Y:∀A6,P.A6 A.ix.A6=some A6->(A6.flatMap (·.2)++(P.Ag A.j.Ah).1).length<=N/\∀p∈A6.flatMap (·.2)++(P.Ag A.j.Ah).1,Cw p)(aH:A.ix.A6.length<=1073741824/\A.ix.A6.length*m<=4398046511104)(cF:0<=A.A9/\A.A9+N<=9223372036854775807)(cI:AE (A.j.A9+1))(bE:∀x∈A.ix.A6,AE x)(hF:Fit P a c m)(hl:BL (a+N+2) (c+2*a+2*N+4) (m+37*N+12))(hm:A.j.Ah.length*m<=70368744177664)(hn:∀n∈A.ix.A6,By n)(bH:∀n∈A.j.Ah,By n)(b1:A.j.Ah.length<=1073741824)(hL:Lets B w)(cX:∀k,FT k->B<=k):
 Ac 70 #[A4 ab,A0 Ax,A0 oldest] w (Ak (A0 (A.BO P Ax oldest).1) λw'=>Al w FT w' (λw' aJ=>AD w' ab b (A.BO P Ax oldest).2.1 (A.BO P Ax oldest).2.2 aJ)):=by
 obtain⟨i0,hi,eY,eH,eP⟩:=Dr FK;obtain⟨j0,hj,e0,eV,eB⟩:=JE;obtain⟨s0,V,eW,dU,eU⟩:=Lr;obtain⟨xb,jb,sv,ov,lv,jo,Ft,hv,cS⟩:=id h;have bI:BL a c m:=⟨by have:=hl.a;omega,by have:=hl.c;omega,by have:=hl.m;omega⟩;have k0:A2 A7 w (w.aC #[A0 oldest] 3):=(A2.C _ w).ae _;have b9:(w.aC #[A0 oldest] 3).heap[w.heap.size]?=some (.cells #[A0 oldest] 3 (0,0)):=Bw w _;have dI:Hid (P.A6 A.ix.A6=none->A.BO P Ax oldest=(7,A,P)):=λh=>by unfold Ar.BO;rw[h]
 have dG:Hid (∀A6,P.A6 A.ix.A6=some A6->(P.Ag A.j.Ah).2≠0->A.BO P Ax oldest=((P.Ag A.j.Ah).2,A,P)):=λA6 h hp=>by unfold Ar.BO;rw[h];dsimp only;rw[Am hp]
 have dK:Hid (∀A6,P.A6 A.ix.A6=some A6->(P.Ag A.j.Ah).2=0->A.BO P Ax oldest=A.ay P ((Bi A6 oldest (BB Ax (A6.flatMap (·.2)++(P.Ag A.j.Ah).1))).1.mergeSort λx y=>decide (x<=y)) (Bi A6 oldest (BB Ax (A6.flatMap (·.2)++(P.Ag A.j.Ah).1))).2):=λA6 h hp=>by
  unfold Ar.BO;rw[h];dsimp only;rw[Ad (by simp[hp])]
 obtain⟨R,hR⟩:∃R,A.BO P Ax oldest=R:=⟨_,rfl⟩;rw[hR]at dI dG dK ⊢;have H:=A1 h;have aI:=A1 dF;have aA:Hid (∀E n,A2 A7 w E->R=(n,A,P)->R.1=n/\Al w FT E (λw' aJ=>AD w' ab b R.2.1 R.2.2 aJ)):=λE n W he=>by
  subst he;exact⟨rfl,W.U λ_ _ h=>h.elim,FT,H.o.an W,λk hk=>Bc (aI.o k hk) W.Af,λk hk=>.inl hk⟩
 have eX:=A1 (OQ _ (hv.an k0) hF bI hn aH.1 (hL.ao k0));have eC:Hid (∀E,A2 A7 w E->_):=λE W=>Je E (hv.an W).dk (hv.an W).lt (hv.an W).jn hF bI hm bH (hL.ao W);have e8:Hid (∀E,A2 A7 w E->E.cell? (A8 ab 2)=some (A4 jb)):=λE W=>(hv.an W).Ae.c2
 have eE:Hid (∀A6,P.A6 A.ix.A6=some A6->∀E dZ v,Ef E dZ b v A6->Ac 101 #[v] E λe w'=>∃v',e=.returned v'/\AO w' v' (A6.flatMap (·.2))/\(∀g,v'.oB g->E.heap.size<=g)/\A2 A7 E w'):=λA6 V E dZ v z=>by
  obtain⟨q1,q2⟩:=J7 hF A.ix.A6 A6 V;exact Ly E dZ v A6 z (by rw[q1];exact aH.1) q2 (by rw[q1];exact aH.2)
 have a7:Hid (∀A6,P.A6 A.ix.A6=some A6->∀E v,AO E v (A6.flatMap (·.2)++(P.Ag A.j.Ah).1)->_):=λA6 V E v z=>Mx hS hN E v Ax _ (Y A6 V).1 z (λp hp=>((Y A6 V).2 p hp).2.1) hw
 have bC:Hid (∀A6,P.A6 A.ix.A6=some A6->(P.Ag A.j.Ah).2=0->∀E kv fv,A2 A7 w E->Cs E kv ((Bi A6 oldest (BB Ax (A6.flatMap (·.2)++(P.Ag A.j.Ah).1))).1.mergeSort λx y=>decide (x<=y))->(∀g,kv.oB g->w.heap.size<=g)->K4 E fv (Bi A6 oldest (BB Ax (A6.flatMap (·.2)++(P.Ag A.j.Ah).1))).2 FT->
  Ac 107 #[A4 ab,kv,fv] E (Ak (A0 R.1) λw'=>Al w FT w' (λw' aJ=>AD w' ab b R.2.1 R.2.2 aJ))):=λA6 V hp E kv fv W hk bO hf=>by
  obtain⟨z1,z2,z3⟩:=JH Ax (A6.flatMap (·.2)++(P.Ag A.j.Ah).1);obtain⟨y1,y2,y3,y4⟩:=Me A6 oldest (BB Ax (A6.flatMap (·.2)++(P.Ag A.j.Ah).1));obtain⟨n1,n2⟩:=Y A6 V;have aY:∀n∈(Bi A6 oldest (BB Ax (A6.flatMap (·.2)++(P.Ag A.j.Ah).1))).1.mergeSort (λx y=>decide (x<=y)),n∈A.ix.A6:=λn hn=>by
   obtain⟨s,dQ,rfl⟩:=y2 n (Ti.1 hn);exact J6 _ _ V s dQ
  rw[dK.o A6 V hp];have bS:((Bi A6 oldest (BB Ax (A6.flatMap (·.2)++(P.Ag A.j.Ah).1))).1.mergeSort (λx y=>decide (x<=y))).length=(Bi A6 oldest (BB Ax (A6.flatMap (·.2)++(P.Ag A.j.Ah).1))).1.length:=Nx _
  refine(Le E (H.o.an W) (λk hk=>Bc (aI.o k hk) W.Af) kv _ hk (λg J=>⟨λz=>by have:=bO g J;have:=aI.o g z;omega,Az hL.1 (bO g J)⟩) fv _ hf
   (λl hl=>⟨λp hp=>n2 p ((z3 l (y3 l hl)).1 p hp),by have:=(z3 l (y3 l hl)).2;omega⟩) ⟨cF.1,by omega⟩ cI (λx z=>bE x (aY x z)) hF ⟨by have:=hl.a;omega,by have:=hl.c;omega,by have:=hl.m;rw[bS];omega⟩ (by rw[bS];omega) hn bH (λx z=>hn x (aY x z)) aH.1 b1 (hL.ao W) cX).mono ?_
  rintro e w'⟨h1,h2⟩;exact⟨h1,Al.aZ (W.U λ_ _ h=>h.elim) (λk hk=>hk.elim .inl λh=>.inr (bO k h)) h2⟩
 have a3:Hid (∀A6,P.A6 A.ix.A6=some A6->(A6.flatMap (·.2)++(P.Ag A.j.Ah).1).length<=134217728/\(BB Ax (A6.flatMap (·.2)++(P.Ag A.j.Ah).1)).length<=134217728):=λA6 V=>by
  have h1:=(Y A6 V).1;have h2:=(JH Ax (A6.flatMap (·.2)++(P.Ag A.j.Ah).1)).1;omega
 have dL:Hid (∀A6,P.A6 A.ix.A6=some A6->∀x∈A6,AE x.1):=λA6 V x z=>bE _ (J6 _ _ V x z);have eJ:=A1 k0;have dC:=A1 b9;clear hR h hv dF cS Y aH cF cI bE hF hl hm hn bH b1 hL cX bI k0 b9 hw hS
 go_enter func70,ntmps70
 go_wp2_with (fail);refine eX.m ?_;rintro e w1 (⟨V,rfl,hc1⟩|⟨A6,v1,V,rfl,hv1,hc1⟩)
 ·have dD:=A1 (aA.o w1 7 (eJ.o.tr hc1) (dI.o V));clear V hc1 eX dI dG dK aA eC eE a7 bC;go_wp2;go_ret;exact⟨by rw[dD.o.1];rfl,dD.o.2⟩
 have aK:=A1 V;have dE:=A1 hv1;have dJ:Hid (A2 A7 w w1):=eJ.o.tr hc1;have b0:Hid (w1.cell? (A8 w.heap.size 0)=some (A0 oldest)):=hc1.af (by simp only[World.cell?,dC.o];rfl);have aL:=A1 (eC.o w1 dJ.o);have d2:=e8.o w1 dJ.o;have aO:=A1 (dG.o A6 aK.o);have I:=A1 (bC.o A6 aK.o);have Z:=A1 (a7.o A6 aK.o);have O:=A1 (a3.o A6 aK.o);have aQ:=A1 (eE.o A6 aK.o);clear V hv1 hc1 eX dI dG dK eC eE a7 bC a3 dL eJ dC;obtain⟨ps,bU⟩:∃ps,(P.Ag A.j.Ah).1=ps:=⟨_,rfl⟩;obtain⟨pe,cT⟩:∃pe,(P.Ag A.j.Ah).2=pe:=⟨_,rfl⟩;rw[bU]at aL I Z O;rw[cT]at aL I aO;clear bU cT;go_wp2_with (fail);refine aL.m ?_;rintro e w2⟨v2,rfl,aP,dB,aG⟩;by_cases hp:pe=0
 case neg=>
  have hpb:(pe !=0)=true:=by simpa using hp
  have dD:=A1 (aA.o w2 pe (dJ.o.tr aG) (aO.o hp));clear aP dB aG aL I Z aQ aA aO hp;go_wp2;go_ret;exact⟨by rw[dD.o.1];rfl,dD.o.2⟩
 case pos=>
 subst hp;obtain⟨pl,bX⟩:∃pl,A6.flatMap (·.2)=pl:=⟨_,rfl⟩;rw[bX]at I Z O aQ;have fC:Hid (A2 A7 w w2):=dJ.o.tr aG;have bF:=A1 (dE.o.an aG);have bR:=A1 (aG.af b0.o);have b5:=A1 (aQ.o w2 _ v1 bF.o);obtain⟨v2a,v2c,rfl,v21,eI,-⟩:=AR aP;unfold maxLen at eI;have bY:=A1 aP;clear bX aP dB aG aL aA aO aQ dE b0 d2;go_wp2_with (fail);refine b5.m ?_;rintro e w3⟨v3,rfl,bL,cU,bG⟩;obtain⟨cC,cE,rfl,v31,dV,-⟩:=AR bL;unfold maxLen at dV;have cH:=A1 bL;have b2:=A1 cU;have cM:=A1 bG;have a1:=A1 (Src.bo underlying97 (Aq bY.o λg J=>bG.Ao g (Av bY.o J) (λh=>h)) (FE ps));have bQ:Hid ((pl.length+ps.length)*24<=140737488355328):=by have:=O.o.1;rw[B2]at this;unfold Hid;omega
 clear bL cU bG b5;go_wp2_with (at_builtin;refine C7 rfl (.tmp 35) (.tmp 36) 97 97 rfl 113 i0 _ 3 24 underlying97 hi eY eH eP rfl (by decide) (.slice cC pl.length cE) pl.length (Bv pl) (by rfl) cH.o _ ps.length _ (by rfl) a1.o bQ.o ?_;intro a4 cQ w4 hA;have dY:=A1 hA;clear hA);have b6:=dY.o.Aj (S:=λk=>(Value.slice cC pl.length cE).oB k) λ_ h=>h;have bV:AO w4 (.slice a4 (pl.length+ps.length) cQ) (pl++ps):=by
  have e:(pl++ps).length=pl.length+ps.length:=by simp
  unfold AO;rw[G1,e];exact dY.o.AA
 have aX:A2 A7 w2 w4:=cM.o.As b6 λx z eK=>by have:=b2.o x z;omega
 have e5:=A1 (Z.o w4 _ bV);have cA:=A1 (bF.o.an aX);have cP:=A1 (aX.af bR.o);have e2:Hid (A2 A7 w w4):=fC.o.tr aX;clear b6 bV aX Z bF bR dY a1 bQ cM b2 cH;refine e5.m ?_;rintro e w5⟨v5,vs,rfl,aR,aU⟩;obtain⟨L,bW⟩:∃L,BB Ax (pl++ps)=L:=⟨_,rfl⟩;rw[bW]at aR I O;obtain⟨v5a,v5c,rfl,v51,eO,bT,-⟩:=AR aR.AU;unfold maxLen at eO;have aT:=A1 aR;have fB:=A1 bT;have cD:=A1 (cA.o.an aU);have cZ:=A1 (aU.af cP.o);have dT:Hid (A2 A7 w w5):=e2.o.tr aU;have bJ:Hid (L.length<=134217728):=O.o.2;obtain⟨ob,b8⟩:∃ob,w.heap.size=ob:=⟨_,rfl⟩;rw[b8]at cZ ⊢;clear bW aR bT aU e5 cA cP b8;go_wp2;go_loopw [10,11,41] (λvk vf iv wr=>∃(k:Nat) (kk:List Int) (ff:List (List Pu)),iv=A0 k/\k<=L.length/\kk.length+ff.length<=k/\Hid (Fe w5 wr w4.heap.size vk vf kk ff/\Bi A6 oldest L=(kk++(Bi A6 oldest (L.drop k)).1,ff++(Bi A6 oldest (L.drop k)).2))) (λ_ _ iv _=>L.length-(intOf iv).toNat)
 case atStart=>exact⟨0,[],[],rfl,by omega,by simp,⟨A2.C _ _,BW _ _ _ _,λg J=>by simp[Value.ownBlock]at J,[],rfl,BW _ _ _ _,λg J=>by simp[Value.ownBlock]at J,λk h1=>by simp at h1,λx z=>by cases z⟩,by simp⟩
 case round=>
  obtain⟨k,kk,ff,rfl,hk,a5,hI⟩:=hrel;obtain⟨i1,i2⟩:=hI.o;obtain⟨ka,kc,rfl,kc1,eR,-⟩:=AR i1.F5;obtain⟨bK,f1,f2,f3,f4,f5⟩:=i1.Bq;obtain⟨fa,fc,rfl,fc1,eA,-⟩:=AR f2;unfold maxLen at eR eA;by_cases aF:k<L.length
  ·(have aE:k<vs.length:=by have:=aT.o.BF;omega);obtain⟨g,rfl⟩:=fB.o (by omega);have W:=Be aT.o.AU (g:=g) rfl (show vs[k]?=some (vs[k]'aE) from E4 aE);have z:=aT.o.ls k aE aF;have a9:=aT.o.li (vs[k]'aE) (Cx aE);have a6:=EH aF;obtain⟨x,cL⟩:∃x,(vs[k]'aE)=x:=⟨_,rfl⟩;obtain⟨l,cB⟩:∃l,(L[k]'aF)=l:=⟨_,rfl⟩;rw[cL]at W z a9;rw[cB]at z a6;rw[a6,Mf]at i2;obtain⟨xa,xc,rfl,x1,x2,-⟩:=AR z;have e1:=i1.Aj.af W;have kA:A2 A7 wr (wr.aC #[.slice xa l.length xc] 97):=(A2.C _ wr).ae _;have aN:A2 A7 w5 (wr.aC #[.slice xa l.length xc] 97):=i1.Aj.tr kA;have pA:(wr.aC #[.slice xa l.length xc] 97).heap[wr.heap.size]?=some (.cells #[.slice xa l.length xc] 97 (0,0)):=Bw wr _;have pc:(wr.aC #[.slice xa l.length xc] 97).cell? (A8 wr.heap.size 0)=some (.slice xa l.length xc):=EA pA;have cN:=A1 (S9 _ _ l (Aq z λg J=>aN.Ao g (Av z J) (λh=>h)) ob oldest (aN.af cZ.o));have a2:=A1 i1;have eS:=A1 i2;have eM:=A1 f1;have bP:=A1 f2;have eQ:=A1 f3;have dH:=A1 f4;have dR:=A1 f5;have eT:=A1 z;have dX:=A1 a9;have fA:=A1 aN;have cJ:=A1 kA;have e4:=A1 pc;(have dM:(k:Int)<(L.length:Int):=by omega);have hk0:=C3 k;obtain⟨d,hd⟩:∃d,l.any (λp=>decide (oldest<=p.2.1))=d:=⟨_,rfl⟩;rw[hd]at cN eS;clear hI i1 i2 f1 f2 f3 f4 f5 W z a9 a6 cL cB kA aN pA hd;cases d with
   | false=>
    (have a0:Hid (Bi A6 oldest L=(kk++(Bi A6 oldest (L.drop (k+1))).1,ff++(Bi A6 oldest (L.drop (k+1))).2)):=by have:=eS.o;rwa [Am rfl]at this);go_wp2_with (fail);refine cN.m ?_;rintro e w6⟨rfl,aB⟩;have eF:=A1 (a2.o.ao (cJ.o.tr aB));clear aB cN pc;go_wp2;go_roundw
    case rel=>exact⟨k+1,kk,ff,by go_num,aF,K9 a5,eF.o,a0.o⟩
    case measure=>simp[intOf];omega
   | true=>
    have a0:=A1 eS.o;rw[Ad (by simp)]at a0;obtain⟨aW,g1,g2,g3,g4⟩:=cD.o;obtain⟨va,vc,rfl,va1,dN,bZ,-⟩:=AR g2;unfold maxLen at dN;have e7:=A1 bZ;have eD:=A1 g1;have dP:=A1 g2;have eZ:=A1 g4;clear bZ g1 g2 g3 g4;go_wp2_with (fail);refine cN.m ?_;rintro e w6⟨rfl,aB⟩;have aM:A2 A7 w5 w6:=fA.o.tr aB;have eL:=A1 (Rw w6 _ A6 (cD.o.an aM) wr.heap.size (.slice xa l.length xc) l (aB.af e4.o) (Aq eT.o λg J=>aM.Ao g (Av eT.o J) (λh=>h)));have cY:Hid (A2 A7 wr w6):=cJ.o.tr aB;have eG:=A1 aM;have eN:=A1 (aB.af e4.o);clear aB cN aM pc;go_wp2_with (fail);refine eL.m ?_;rintro e w7⟨(⟨rfl,hf⟩|⟨k2,b7,rfl,hf⟩),U⟩
    ·rw[hf]at a0;(have dO:Hid (Bi A6 oldest L=(kk++(Bi A6 oldest (L.drop (k+1))).1,(ff++[l])++(Bi A6 oldest (L.drop (k+1))).2)):=by have:=a0.o;unfold Hid;rw[this];simp);have pc7:=U.af eN.o;have k7:A2 A7 wr (w7.aC #[.slice xa l.length xc] 97):=(cY.o.tr U).ae _;have aS:=A1 (a2.o.ao k7);have aZ:=A1 (Aq bP.o λg J=>k7.Ao g (Av bP.o J) (λh=>h));have bB:=A1 (Src.aW (size:=1) (B:=w7.heap.size) underlying174 w7 #[.slice xa l.length xc] 97 (by simp) 1 1 rfl (by simp[Value.oneCell']));(have bN:Hid ((ff.length+1)*24<=140737488355328):=by have:=bJ.o;unfold Hid;omega);clear hf U k7 eL;go_wp2_with (at_builtin;refine C7 rfl (.tmp 54) (.tmp 56) 174 174 rfl 97 s0 _ 1 24 underlying174 V eW dU eU rfl (by decide) (.slice fa ff.length fc) ff.length bK (by rfl) aZ.o _ 1 _ (by rfl) bB.o bN.o ?_;intro a8 cV w8 hA;have bD:=A1 hA;clear hA);have bA:=A1 (aS.o.addF eT.o dX.o bK eM.o aZ.o eQ.o dH.o dR.o bD.o);go_roundw
     case rel=>exact⟨k+1,kk,ff++[l],by go_num,aF,by rw[B2];exact K7 a5,bA.o,dO.o⟩
     case measure=>simp[intOf];omega
    ·rw[hf]at a0;obtain⟨gv,rfl⟩:=e7.o (by omega);(have aV:k2<aW.length:=by have:=eD.o;omega);have aD:A2 A7 w5 w7:=eG.o.tr U;have bM:=(eZ.o k2 aV b7).an aD;have dS:=aD.af (Be dP.o (g:=gv) rfl (show (Eo aW)[k2]?=some (A4 (aW[k2]'aV)) by simp[Eo,aV]));obtain⟨gb,b3⟩:∃gb,(aW[k2]'aV)=gb:=⟨_,rfl⟩;rw[b3]at bM dS;obtain⟨sg,dA⟩:∃sg,(A6[k2]'b7)=sg:=⟨_,rfl⟩;rw[dA]at bM a0;obtain⟨n,sl⟩:=sg;obtain⟨pv,hb,-,-,-⟩:=bM;have c3:=hb.c3;dsimp only at c3;(have dO:Hid (Bi A6 oldest L=((kk++[n])++(Bi A6 oldest (L.drop (k+1))).1,ff++(Bi A6 oldest (L.drop (k+1))).2)):=by have:=a0.o;unfold Hid;rw[this];simp);have k7:A2 A7 wr (w7.aC #[A0 n] 3):=(cY.o.tr U).ae _;have aS:=A1 (a2.o.ao k7);have bB:=A1 (Src.aW (size:=1) (B:=w7.heap.size) underlying26 w7 #[A0 n] 3 (by simp) 1 1 rfl (GH [n]));(have bN:Hid ((kk.length+1)*8<=140737488355328):=by have:=bJ.o;unfold Hid;omega);(have hk2i:(k2:Int)<(A6.length:Int):=by omega);have hk20:=C3 k2;clear hf U k7 eL hb b3 dA aD;go_wp2_with (at_builtin;refine C7 rfl (.tmp 58) (.tmp 66) 26 26 rfl 3 j0 _ 1 8 underlying26 hj e0 eV eB rfl (by decide) (.slice ka kk.length kc) kk.length (CI kk) (by rfl) aS.o.F5 _ 1 _ (by rfl) bB.o bN.o ?_;intro a8 cV w8 hA;have bD:=A1 hA;clear hA);have bA:=A1 (aS.o.ea bD.o);go_roundw
     case rel=>exact⟨k+1,kk++[n],ff,by go_num,aF,by rw[B2,Nat.add_right_comm];exact K7 a5,bA.o,dO.o⟩
     case measure=>simp[intOf];omega
  ·(have dW:k=L.length:=by omega);subst dW;rw[Fz]at i2;(have cO:Bi A6 oldest L=(kk,ff):=by simpa[Bi] using i2);rw[cO]at I;(have dM:¬((L.length:Int)<(L.length:Int)):=by omega);have e3:=A1 (OJ wr _ kk i1.F5 (by have:=bJ.o;omega));have a2:=A1 i1;have eM:=A1 f1;have bP:=A1 f2;have eQ:=A1 f3;have dH:=A1 f4;have dR:=A1 f5;clear hI i1 i2 f1 f2 f3 f4 f5 cO;go_wp2_with (fail);refine e3.m ?_;rintro e w7⟨rfl,b4,U⟩;(have aD:A2 A7 w5 w7:=a2.o.Aj.As U λx z eK=>by have:=a2.o.GF x z;omega);have cG:A2 A7 w w7:=dT.o.tr aD
   have e6:=A1 (I.o trivial w7 _ (.slice fa ff.length fc) cG b4 (λg J=>Az dT.o.Af (a2.o.GF g J))
    ⟨bK,eM.o,Aq bP.o λg J=>U.Ao g (Av bP.o J) (λz=>FL bP.o a2.o.F5 (by decide) J z),
     λk h1 h2=>Aq (dH.o k h1 h2) λg J=>aD.Ao g (Av (dH.o k h1 h2) J) (λh=>h),
     λg J z=>by have:=eQ.o g J;have:=aI.o g z;have:=dT.o.Af;omega,
     λx z g J hf=>by have:=dR.o x z g J;have:=aI.o g hf;have:=e2.o.Af;omega⟩)
   clear b4 U aD cG e3 I;go_wp2_with (fail);refine e6.m ?_;rintro e w8⟨rfl,hI⟩;have e9:=A1 hI;clear hI e6;go_wp2;go_ret;exact⟨rfl,e9.o⟩
end
end
section
open Go.RowKit
attribute [local go_sem ↓] Go.wp_at_zero Go.wp_at_succ
def EL(d a b h Ab:Int)(p:Pu):Bool:=decide (p.1=d)&&decide (a<=p.2.1)&&decide (p.2.1<=b)&&D7 p.2.1 h Ab
def E7(d a b h Ab:Int)(l:List Pt)(p:Pu):List Pt:=if EL d a b h Ab p then BZ l p.2.1 p.2.2 else l
def EK(Ag:List Pu)(d a b h Ab:Int):List Pt:=Ag.foldl (E7 d a b h Ab) []
def Mt(l:List Pt)(t v:Int):l.length<=(BZ l t v).length/\(BZ l t v).length<=l.length+1:=by
 induction l with
 | nil=>simp[BZ]
 | cons e r ih=>
  obtain⟨a,b⟩:=e;simp only[BZ];split
  ·simp only[Cr];omega
  ·split<;>simp only[Cr]<;>omega
end
section
open Go.RowKit
structure SV (w:World) (sb ab b:Nat) (mu aA aD Ab:Int) (ro:Bool) (lv:Nat->Value) (L:Nat->List Pt) (A:Ar) (P:PD) (F0:Nat->Prop):Prop where
 Ae:AX w sb mu (.pointer (some ⟨ab,0,none⟩)) aA aD Ab ro lv
 Dn:CW w lv L
 ar:AD w ab b A P F0
 lt:∀k,F0 k->k<w.heap.size
 ns:¬F0 sb
 nr:∀k,DQ lv k->¬F0 k
def SF(w:World)(sb ab b:Nat)(mu aA aD Ab:Int)(ro:Bool)(L:Nat->List Pt)(A:Ar)(P:PD)(FT:Nat->Prop):Prop:=
 ∃lv F0,SV w sb ab b mu aA aD Ab ro lv L A P F0/\∀k,F0 k\/Own sb lv k->FT k
section
variable {w w' w2:World} {sb ab b:Nat} {mu aE aA aD Ab aB:Int} {ro aF:Bool} {lv lv':Nat->Value} {L L':Nat->List Pt} {A A':Ar} {P P':PD} {F0 FT:Nat->Prop}
def SV.dx(h:SV w sb ab b mu aA aD Ab ro lv L A P F0){k:Nat}(d:F0 k\/Own sb lv k):k<w.heap.size:=by
 rcases d with d|rfl|d
 ·exact h.lt k d
 ·exact h.Ae.lt
 ·exact h.Dn.lt d
def SV.nb(h:SV w sb ab b mu aA aD Ab ro lv L A P F0):¬DQ lv sb:=h.Dn.ne h.Ae (by decide)
def SV.Aj(h:SV w sb ab b mu aA aD Ab ro lv L A P F0){S:Nat->Prop}(y:A2 S w w')(z:∀k,F0 k\/Own sb lv k->¬S k):SV w' sb ab b mu aA aD Ab ro lv L A P F0:=
 ⟨h.Ae.Aj y (z sb (.inr (.inl rfl))),h.Dn.Aj y λg E=>z g (.inr (.inr E)),h.ar.aq (y.au (λk d=>h.lt k d) λk d=>z k (.inl d)) y.Af,
  λk d=>Bc (h.lt k d) y.Af,h.ns,h.nr⟩
def SV.an(h:SV w sb ab b mu aA aD Ab ro lv L A P F0)(d:A2 A7 w w'):SV w' sb ab b mu aA aD Ab ro lv L A P F0:=h.Aj d λ_ _ h=>h
def SF.an(h:SF w sb ab b mu aA aD Ab ro L A P FT)(z:A2 A7 w w'):SF w' sb ab b mu aA aD Ab ro L A P FT:=by
 obtain⟨lv,F0,y,d⟩:=h;exact⟨lv,F0,y.an z,d⟩
def SV.bj(h:SV w' sb ab b mu aA aD Ab ro lv' L' A' P' F0){S:Nat->Prop}(H:A2 S w w')(z:∀k,k<w.heap.size->S k->FT k)(E:∀k,F0 k\/Own sb lv' k->FT k\/w.heap.size<=k):
 Al w FT w' (λw' d=>SF w' sb ab b mu aA aD Ab ro L' A' P' d):=
 ⟨H.U z,λk=>F0 k\/Own sb lv' k,⟨lv',F0,h,λ_ h=>h⟩,λ_ y=>h.dx y,E⟩
def SV.ag(h:SV w sb ab b mu aA aD Ab ro lv L A P F0)(y:CV w w' sb aE (.pointer (some ⟨ab,0,none⟩)) aA aD aB aF lv lv' L'):
 SV w' sb ab b aE aA aD aB aF lv' L' A P F0:=
 ⟨y.Ae,y.Dn,h.ar.aq (y.Aj.au (λk d=>h.lt k d) λk d z=>by
  rcases z with rfl|z
  ·exact h.ns d
  ·exact h.nr k z d) y.Aj.Af,λk d=>Bc (h.lt k d) y.Aj.Af,h.ns,λk d z=>by
  rcases y.AA k d with E|E
  ·exact h.nr k E z
  ·have:=h.lt k z;omega⟩
def SV.bW(h:SV w sb ab b mu aA aD Ab ro lv L A P F0)(d:∀k,F0 k\/Own sb lv k->FT k)(E:CV w w' sb aE (A4 ab) aA aD aB aF lv lv' L'):
 Al w FT w' (λw' z=>SF w' sb ab b aE aA aD aB aF L' A P z):=
 (h.ag E).bj E.Aj (λk _ y=>d k (.inr y)) λk y=>by
  rcases y with y|rfl|y
  ·exact .inl (d k (.inl y))
  ·exact .inl (d _ (.inr (.inl rfl)))
  ·exact(E.AA k y).imp (λh=>d k (.inr (.inr h))) id
def SV.cC(h:SV w sb ab b mu aA aD Ab ro lv L A P F0)(d:∀k,F0 k\/Own sb lv k->FT k)(O:Al w F0 w' (λw' z=>AD w' ab b A' P' z)):
 Al w FT w' (λw' z=>SF w' sb ab b mu aA aD Ab ro L A' P' z):=by
 obtain⟨I,U,W,V,H⟩:=O;have hb:=h.Ae.lt;refine(SV.bj (w':=w') (lv':=lv) (F0:=U) ⟨h.Ae.Aj I h.ns,h.Dn.Aj I h.nr,W,V,λJ=>?_,λk y J=>?_⟩ I (λk _ y=>d k (.inl y)) λk y=>?_)
 ·rcases H _ J with E|E
  ·exact h.ns E
  ·omega
 ·rcases H _ J with E|E
  ·exact h.nr k y E
  ·have:=h.Dn.lt y;omega
 ·rcases y with y|y
  ·exact(H k y).imp (λh=>d k (.inl h)) id
  ·exact .inl (d k (.inr y))
def SF.CK(h:SF w sb ab b mu aA aD Ab ro L A P FT)(o:Nat)(u:Value)(E:∀lv,AX w sb mu (.pointer (some ⟨ab,0,none⟩)) aA aD Ab ro lv->AX (w.setCell ⟨sb,o,none⟩ u) sb aE (.pointer (some ⟨ab,0,none⟩)) aA aD aB aF lv):
 Al w FT (w.setCell ⟨sb,o,none⟩ u) (λw' y=>SF w' sb ab b aE aA aD aB aF L A P y):=by
 obtain⟨lv,F0,d,z⟩:=h;exact d.bW z (CV.of (E lv d.Ae) d.Dn ((A2.C (One sb) w).ak rfl o u) d.nb)
def SFto.CK(h:Al w FT w' (λw' d=>SF w' sb ab b mu aA aD Ab ro L A P d))(o:Nat)(u:Value)(z:∀lv,AX w' sb mu (.pointer (some ⟨ab,0,none⟩)) aA aD Ab ro lv->AX (w'.setCell ⟨sb,o,none⟩ u) sb aE (.pointer (some ⟨ab,0,none⟩)) aA aD aB aF lv):
 Al w FT (w'.setCell ⟨sb,o,none⟩ u) (λw' d=>SF w' sb ab b aE aA aD aB aF L A P d):=
 h.As λ_ y _ _=>y.CK o u z
def Er(L:Nat->List Pt)(o:Int)(k:Nat)(t v:Int):Nat->List Pt:=if o<=t then EX L k (BZ (L k) t v) else L
def QZ(L:Nat->List Pt)(o:Int)(n:Nat)(t v:Int)(k:Nat):(Er L o n t v k).length<=(L k).length+1:=by
 unfold Er;split
 ·unfold EX;split
  ·rename_i e;subst e;exact(Mt _ _ _).2
  ·omega
 ·omega
def Mi(w:World)(p:Pu)(h:SF w sb ab b mu aA aD Ab ro L A P FT)(O:0<=p.1/\p.1<8)(z:∀k,k<8->(L k).length<1099511627000)(Z:1<=aA/\aA<=4611686018427387904)(hc:AE Ab):
 Ac 60 #[A4 sb,CH p] w (Ak (.tuple #[]) λw'=>Al w FT w' (λw' I=>SF w' sb ab b mu aA aD Ab ro (Er L (B8 Ab aA) p.1.toNat p.2.1 p.2.2) A P I)):=by
 obtain⟨k,t,v⟩:=p;obtain⟨lv,F0,d,J⟩:=h;unfold CH;dsimp only at O ⊢;obtain⟨H,hk2⟩:=O;obtain⟨n,rfl⟩:=IQ H;have E:n<8:=by omega
 refine(R0 w sb n _ _ (by decide) Ab aA t v (L n) (lv n) E (d.Dn.cb d.Ae E) (by have:=z n E;omega) rfl rfl Z hc).mono ?_;rintro e w'⟨rfl,h3⟩;refine⟨rfl,?_⟩;unfold Er;rw[GY];rcases h3 with⟨U,lv',hR⟩|⟨U,y⟩
 ·rw[Am U];have hlen:=(Mt (L n) t v).2;obtain⟨V,b2,W,b4⟩:=d.Dn.ag d.Ae E hR rfl (by have:=z n E;omega);exact d.bW J ⟨V,b2,W,b4⟩
 ·rw[Ad (by omega)];exact(d.an y).bj y (λ_ _ h=>h.elim) λk Y=>.inl (J k Y)
end
end
section
open Go.MuLone Go.RowKit
attribute [local go_sem ↓] Go.wp_at_zero Go.wp_at_succ C5
section
variable {w w' w2:World} {sb ab b B:Nat} {mu aA aB Ab:Int} {ro:Bool} {lv:Nat->Value} {L L':Nat->List Pt} {A A':Ar} {P P':PD} {F0 FT:Nat->Prop} {a c m N:Nat}
def T0(w:World)(p:Pu)(h:SF w sb ab b mu aA aB Ab ro L A P FT)(_hFT:∀k,FT k->k<w.heap.size)(hp:Cw p)(hn:A.j.AA=none->By (A.j.A9+1)/\AE (A.j.A9+1)/\AE A.j.Ag)(aE:A.j.Ah.length<=1073741824)(hL:Lets B w)(aF:∀k,FT k->B<=k)(hF:Fit P a c m)(aG:BL (a+1) (c+1) (m+33))(aH:∀k,k<8->(L k).length<1099511627000)(hl:1<=aA/\aA<=4611686018427387904)(hc:AE Ab):
 Ac 66 #[A4 sb,CH p] w (Ak (A0 (A.aa P p).2.1) λw'=>
  Al w FT w' (λw' d=>SF w' sb ab b mu aA aB Ab ro (if (A.aa P p).1=true then Er L (B8 Ab aA) p.1.toNat p.2.1 p.2.2 else L) (A.aa P p).2.2.1 (A.aa P p).2.2.2 d)):=by
 have hA:A2 A7 w (w.alloc (.cells #[A0 p.1,A0 p.2.1,A0 p.2.2] 113)):=(A2.C _ w).ae _;have z:=Bw w (.cells #[A0 p.1,A0 p.2.1,A0 p.2.2] 113);have U:w.heap.size<(w.alloc (.cells #[A0 p.1,A0 p.2.1,A0 p.2.2] 113)).heap.size:=by simp
 generalize aI:(w.alloc (.cells #[A0 p.1,A0 p.2.1,A0 p.2.2] 113))=w0 at hA z U;have H:A2 A7 w w0.drew:=hA.I;obtain⟨lv,F0,h1,h2⟩:=h;have Y:=h1.an H;have nx:¬F0 w.heap.size:=λhx=>EE _ (h1.lt _ hx)
 have V:Hid (Ac 105 #[A4 ab,CH p] w0.drew (Ak (.tuple #[.bool (A.aa P p).1,A0 (A.aa P p).2.1]) λy=>
  (A5 y sb 2 (A4 ab)/\y.heap[w.heap.size]?=some (.cells #[A0 p.1,A0 p.2.1,A0 p.2.2] 113 (0,0)))/\
  Al w FT y (λw' d=>SF w' sb ab b mu aA aB Ab ro L (A.aa P p).2.2.1 (A.aa P p).2.2.2 d))):=by
  refine(SR w0.drew p Y.ar Y.lt hp hn aE (hL.ao H) (λk hk=>aF k (h2 k (.inl hk))) hF aG).mono ?_;rintro e y⟨rfl,E⟩;exact⟨rfl,⟨(Y.Ae.Aj E.1 Y.ns).c2,(E.1.Ao _ U nx).trans z⟩,(Y.cC h2 E).aN H⟩
 have I:Hid (∀y,Al w FT y (λw' d=>SF w' sb ab b mu aA aB Ab ro L (A.aa P p).2.2.1 (A.aa P p).2.2.2 d)->Ac 60 #[A4 sb,CH p] y (Ak (.tuple #[]) λw'=>
  Al w FT w' (λw' d=>SF w' sb ab b mu aA aB Ab ro (Er L (B8 Ab aA) p.1.toNat p.2.1 p.2.2) (A.aa P p).2.2.1 (A.aa P p).2.2.2 d))):=λy E=>by
  obtain⟨c1,F1,h3,h4,h5⟩:=E;refine(Mi y p h3 hp.1 aH hl hc).mono ?_;rintro e w'⟨rfl,h6⟩;exact⟨rfl,Al.aZ c1 h5 h6⟩
 have c2:A5 w0 sb 2 (A4 ab):=(h1.an hA).Ae.c2;obtain⟨W,O,J⟩:=p;unfold CH at V I ⊢;dsimp only at V I z aI ⊢;have q0:A5 w0 w.heap.size 0 (A0 W):=EA z;have q1:A5 w0 w.heap.size 1 (A0 O):=EA z;have q2:A5 w0 w.heap.size 2 (A0 J):=EA z;generalize hR:A.aa P (W,O,J)=R at V I ⊢;obtain⟨Z,R2,R3,R4⟩:=R;dsimp only at V I ⊢;generalize hL2:Er L (B8 Ab aA) W.toNat O J=L2 at I ⊢;have tail:∀Z:Bool,Z=true\/Z=false:=by intro x;cases x<;>simp
 go_enter func66,ntmps66
 go_wp2;refine BH (λw'=>A5 w' sb 2 (A4 ab)/\A5 w' w.heap.size 0 (A0 W)/\A5 w' w.heap.size 1 (A0 O)/\A5 w' w.heap.size 2 (A0 J)) 10
  (Bj [0,1,2,3,4,5,6,7,8,9] [5]) ⟨c2,q0,q1,q2⟩ ?_
 iterate 5 (refine B5 ?_;(try simp only[An]))
 refine B7 λK hK=>?_;go_simp;refine V.m ?_;rintro e y⟨rfl,⟨y2,hh⟩,E⟩;have r0:A5 y w.heap.size 0 (A0 W):=EA hh;have r1:A5 y w.heap.size 1 (A0 O):=EA hh;have r2:A5 y w.heap.size 2 (A0 J):=EA hh;refine hK _ _ ⟨y2,r0,r1,r2⟩ (λhS=>?_);have aD:=A1 (I.o y E);have aK:=A1 E
 (try simp only[An])
 iterate 4 (refine B5 ?_;(try simp only[An]))
 refine Bd ?_;simp only[BD,BC];cases Z
 ·go_wp2;go_ret;exact⟨rfl,by simpa using aK.o⟩
 ·go_wp2_with (go_at_call 60;refine aD.m ?_;rintro e w2⟨rfl,hS⟩;have aJ:=A1 hS);go_ret;exact⟨rfl,by simpa using aJ.o⟩
def Sn(w:World)(x:Nat)(n:Int)(h:SF w sb ab b mu aA aB Ab false L A P FT)(V:Ac 65 #[A4 x,A4 (x+1),A4 (x+2),A4 (x+3)] w (Ak (A0 n) λw'=>Al w FT w' (λw' d=>SF w' sb ab b mu aA aB Ab false L' A' P' d))):
 Ac 64 #[A4 sb,.func (Fn.func 65) #[] #[A4 x,A4 (x+1),A4 (x+2),A4 (x+3)]] w (Ak (A0 n) λw'=>Al w FT w' (λw' d=>SF w' sb ab b mu aA aB Ab (decide (n≠0)) L' A' P' d)):=by
 obtain⟨lv,F0,W,h2⟩:=h;have c6:=W.Ae.cR;have J:=A1 V;by_cases I:n=0
 ·subst I
  go_enter func64,ntmps64
  go_wp2_with (go_at_call 65;refine J.m ?_;rintro e w2⟨rfl,z⟩;have H:=A1 z;obtain⟨-,U,⟨E,Z,y,-⟩,-,-⟩:=z;have Y:=y.Ae.cR;have f6:=y.Ae.fz 6);go_ret;exact⟨rfl,SFto.CK H.o 6 _ λlv h=>h.sR false⟩
 ·have hb:(n !=0)=true:=by simpa using I
  have O:decide (n≠0)=true:=by simpa using I
  rw[O]
  go_enter func64,ntmps64
  go_wp2_with (go_at_call 65;refine J.m ?_;rintro e w2⟨rfl,z⟩;have H:=A1 z;obtain⟨-,U,⟨E,Z,y,-⟩,-,-⟩:=z;have Y:=y.Ae.cR;have f6:=y.Ae.fz 6);go_ret;exact⟨rfl,SFto.CK H.o 6 _ λlv h=>h.sR true⟩
def Sp(w:World)(x:Nat)(n:Int)(h:SF w sb ab b mu aA aB Ab false L A P FT)(V:Ac 67 #[A4 x] w (Ak (A0 n) λw'=>Al w FT w' (λw' d=>SF w' sb ab b mu aA aB Ab false L' A' P' d))):
 Ac 64 #[A4 sb,.func (Fn.func 67) #[] #[A4 x]] w (Ak (A0 n) λw'=>Al w FT w' (λw' d=>SF w' sb ab b mu aA aB Ab (decide (n≠0)) L' A' P' d)):=by
 obtain⟨lv,F0,W,h2⟩:=h;have c6:=W.Ae.cR;have J:=A1 V;by_cases I:n=0
 ·subst I
  go_enter func64,ntmps64
  go_wp2_with (go_at_call 67;refine J.m ?_;rintro e w2⟨rfl,z⟩;have H:=A1 z;obtain⟨-,U,⟨E,Z,y,-⟩,-,-⟩:=z;have Y:=y.Ae.cR;have f6:=y.Ae.fz 6);go_ret;exact⟨rfl,SFto.CK H.o 6 _ λlv h=>h.sR false⟩
 ·have hb:(n !=0)=true:=by simpa using I
  have O:decide (n≠0)=true:=by simpa using I
  rw[O]
  go_enter func64,ntmps64
  go_wp2_with (go_at_call 67;refine J.m ?_;rintro e w2⟨rfl,z⟩;have H:=A1 z;obtain⟨-,U,⟨E,Z,y,-⟩,-,-⟩:=z;have Y:=y.Ae.cR;have f6:=y.Ae.fz 6);go_ret;exact⟨rfl,SFto.CK H.o 6 _ λlv h=>h.sR true⟩
def Sq(w:World)(x:Nat)(n:Int)(h:SF w sb ab b mu aA aB Ab false L A P FT)(V:Ac 69 #[A4 x] w (Ak (A0 n) λw'=>Al w FT w' (λw' d=>SF w' sb ab b mu aA aB Ab false L' A' P' d))):
 Ac 64 #[A4 sb,.func (Fn.func 69) #[] #[A4 x]] w (Ak (A0 n) λw'=>Al w FT w' (λw' d=>SF w' sb ab b mu aA aB Ab (decide (n≠0)) L' A' P' d)):=by
 obtain⟨lv,F0,W,h2⟩:=h;have c6:=W.Ae.cR;have J:=A1 V;by_cases I:n=0
 ·subst I
  go_enter func64,ntmps64
  go_wp2_with (go_at_call 69;refine J.m ?_;rintro e w2⟨rfl,z⟩;have H:=A1 z;obtain⟨-,U,⟨E,Z,y,-⟩,-,-⟩:=z;have Y:=y.Ae.cR;have f6:=y.Ae.fz 6);go_ret;exact⟨rfl,SFto.CK H.o 6 _ λlv h=>h.sR false⟩
 ·have hb:(n !=0)=true:=by simpa using I
  have O:decide (n≠0)=true:=by simpa using I
  rw[O]
  go_enter func64,ntmps64
  go_wp2_with (go_at_call 69;refine J.m ?_;rintro e w2⟨rfl,z⟩;have H:=A1 z;obtain⟨-,U,⟨E,Z,y,-⟩,-,-⟩:=z;have Y:=y.Ae.cR;have f6:=y.Ae.fz 6);go_ret;exact⟨rfl,SFto.CK H.o 6 _ λlv h=>h.sR true⟩
end
def boxed(w:World)(sb:Nat)(k t v:Int):World:=
 (((w.alloc (.cells #[.pointer (some ⟨sb,0,none⟩)] 36)).alloc (.cells #[.int .i64 k] 3)).alloc (.cells #[.int .i64 t] 3)).alloc (.cells #[.int .i64 v] 3)
def GR(w:World)(x sb:Nat)(k t v:Int):Prop:=
 w.cell? ⟨x,0,none⟩=some (.pointer (some ⟨sb,0,none⟩))/\w.cell? ⟨x+1,0,none⟩=some (.int .i64 k)/\w.cell? ⟨x+2,0,none⟩=some (.int .i64 t)/\w.cell? ⟨x+3,0,none⟩=some (.int .i64 v)
section
variable {w w' w2:World} {sb ab b B:Nat} {mu aA aB Ab:Int} {ro:Bool} {lv:Nat->Value} {L L':Nat->List Pt} {A A':Ar} {P P':PD} {F0 FT:Nat->Prop} {a c m N:Nat}
def SD(w:World)(sb:Nat)(k t v:Int):A2 A7 w (boxed w sb k t v):=((((A2.C _ w).ae _).ae _).ae _).ae _
def SC(w:World)(sb:Nat)(k t v:Int):(boxed w sb k t v).heap.size=w.heap.size+4:=by unfold boxed;simp
def SE(w:World)(sb:Nat)(k t v:Int):GR (boxed w sb k t v) w.heap.size sb k t v:=by
 unfold boxed;refine⟨?_,?_,?_,?_⟩
 all_goals unfold World.cell?
 ·rw[DD _ _ _ (by simp;try omega),DD _ _ _ (by simp;try omega),DD _ _ _ (by simp),Bw];rfl
 ·rw[DD _ _ _ (by simp;try omega),DD _ _ _ (by simp)];have:=Bw (w.aC #[A4 sb] 36) (.cells #[A0 k] 3);have e:(w.aC #[A4 sb] 36).heap.size=w.heap.size+1:=by simp
  rw[e]at this;simp only[this];rfl
 ·rw[DD _ _ _ (by simp)];have:=Bw ((w.aC #[A4 sb] 36).aC #[A0 k] 3) (.cells #[A0 t] 3);have e:((w.aC #[A4 sb] 36).aC #[A0 k] 3).heap.size=w.heap.size+2:=by simp
  rw[e]at this;simp only[this];rfl
 ·have:=Bw (((w.aC #[A4 sb] 36).aC #[A0 k] 3).aC #[A0 t] 3) (.cells #[A0 v] 3);have e:(((w.aC #[A4 sb] 36).aC #[A0 k] 3).aC #[A0 t] 3).heap.size=w.heap.size+3:=by simp
  rw[e]at this;simp only[this];rfl
def GR.Aj{S:Nat->Prop}{x:Nat}{k t v:Int}(h:GR w x sb k t v)(V:A2 S w w')(U:∀i,i<4->¬S (x+i)):GR w' x sb k t v:=by
 obtain⟨z,H,y,J⟩:=h;have d:∀i u,i<4->w.cell? (A8 (x+i) 0)=some u->w'.cell? (A8 (x+i) 0)=some u:=λi u O hu=>by
  have E:=Gb w _ hu;have I:=V.Ao (x+i) E (U i O);unfold World.cell? at hu ⊢;rw[I];exact hu
 exact⟨d 0 _ (by omega) z,d 1 _ (by omega) H,d 2 _ (by omega) y,d 3 _ (by omega) J⟩
def PF(w:World)(x:Nat)(p:Pu)(n:Int)(Q:World->Prop)(h:GR w x sb p.1 p.2.1 p.2.2)(d:Ac 66 #[A4 sb,CH p] w (Ak (A0 n) λw'=>Q w')):
 Ac 65 #[A4 x,A4 (x+1),A4 (x+2),A4 (x+3)] w (Ak (A0 n) λw'=>Q w'):=by
 obtain⟨p1,p2,p3⟩:=p;unfold CH at d;dsimp only at d h;obtain⟨x0,x1,x2,x3⟩:=h;have y:=A1 d
 go_enter func65,ntmps65
 go_wp2_with (go_at_call 66;refine y.m ?_;rintro e w2⟨rfl,E⟩;have z:=A1 E);go_ret;exact⟨rfl,z.o⟩
def SF.bz(h:SF w sb ab b 0 aA aB Ab ro L A P FT):Al w FT (w.setCell ⟨sb,0,none⟩ (.int .i32 1)) (λw' d=>SF w' sb ab b 1 aA aB Ab ro L A P d):=h.CK 0 _ λ_ h=>h.s0 1
def PC(w:World)(p:Pu)(h:SF w sb ab b 0 aA aB Ab false L A P FT)(Z:∀k,FT k->k<w.heap.size)(hp:Cw p)(hn:A.j.AA=none->By (A.j.A9+1)/\AE (A.j.A9+1)/\AE A.j.Ag)(U:A.j.Ah.length<=1073741824)(hL:Lets B w)(E:∀k,FT k->B<=k)(hF:Fit P a c m)(aE:BL (a+1) (c+1) (m+33))(aG:∀k,k<8->(L k).length<1099511627000)(hl:1<=aA/\aA<=4611686018427387904)(hc:AE Ab):
 Ac 23 #[A4 sb,A0 p.1,A0 p.2.1,A0 p.2.2] w (Ak (A0 (A.aa P p).2.1) λw'=>
  Al w FT w' (λw' d=>SF w' sb ab b 0 aA aB Ab (decide ((A.aa P p).2.1≠0)) (if (A.aa P p).1=true then Er L (B8 Ab aA) p.1.toNat p.2.1 p.2.2 else L) (A.aa P p).2.2.1 (A.aa P p).2.2.2 d)):=by
 have aK:Hid (∀w',Ac 63 #[A0 p.1] w' λe H=>e=.returned (.bool true)/\w'=H):=λw'=>by
  have:=Mk w' p.1
  rwa [Cc hp.1]at this
 have J:=SD w sb p.1 p.2.1 p.2.2;have V:=SE w sb p.1 p.2.1 p.2.2;have hZ:=SC w sb p.1 p.2.1 p.2.2;generalize aJ:boxed w sb p.1 p.2.1 p.2.2=w0 at J V hZ;unfold boxed at aJ;have hV:=h.an J;have O:=hL.ao J;have y:=hV.bz;have z:GR (w0.sC sb 0 (.int .i32 1)) w.heap.size sb p.1 p.2.1 p.2.2:=V.Aj y.1 λi _ hx=>by have:=Z _ hx;omega
 have aI:Hid (Al w FT (w0.sC sb 0 (.int .i32 1)) (λw' d=>SF w' sb ab b 1 aA aB Ab false L A P d)):=y.aN J;obtain⟨k1,aM,s1,s2,s3⟩:=aI.o;have W:=O.Ap y.1 E;have aD:=hL.1
 have I:=A1 (Sn (w0.sC sb 0 (.int .i32 1)) w.heap.size (A.aa P p).2.1 s1 (PF _ w.heap.size p _ _ z
  (T0 _ p s1 s2 hp hn U W (λk hk=>(s3 k hk).elim (E k) λh=>Az aD h) hF aE aG hl hc)))
 have ST:Hid (∀Y R,Al (w0.sC sb 0 (.int .i32 1)) aM Y R->Al w FT Y R):=λY R h=>Al.aZ k1 s3 h;obtain⟨x0,x1,x2,x3⟩:=V;obtain⟨y0,y1,y2,y3⟩:=z;have c0:A5 w0 sb 0 (.int .i32 0):=by obtain⟨lv,F0,q,-⟩:=hV;exact q.Ae.c0
 have f0:w0.frozen? (A8 sb 0)=false:=by obtain⟨lv,F0,q,-⟩:=hV;exact q.Ae.fz 0
 obtain⟨p1,p2,p3⟩:=p;dsimp only at *;generalize hR:A.aa P (p1,p2,p3)=R at I ⊢;obtain⟨aN,R2,R3,R4⟩:=R;dsimp only at I ⊢;generalize hL2:(if aN=true then Er L (B8 Ab aA) p1.toNat p2 p3 else L)=L2 at I ⊢
 go_enter_defers func23,ntmps23
 go_wp2_with (first
  | (go_at_call 61;refine(lock_free Tryz.br (A8 sb 0) _ c0 f0).mono ?_;rintro e w'⟨rfl,rfl⟩)
  | (go_at_call 63;refine(aK.o _).mono ?_;rintro e w'⟨rfl,rfl⟩))
 refine I.m ?_;rintro e w2⟨rfl,hS⟩;have aH:=A1 (ST.o _ _ hS);go_wp2;refine Ju (f:=62) (args:=#[A4 sb]) (by simp) (by simp[go_sem]) ?_;refine(J1 Tryz.br (A8 sb 0) .returning _ ?_ ?_).mono ?_
 ·obtain⟨-,aL,⟨aF,aO,a1,-⟩,-,-⟩:=aH.o;exact a1.Ae.c0
 ·obtain⟨-,aL,⟨aF,aO,a1,-⟩,-,-⟩:=aH.o;exact a1.Ae.fz 0
 rintro e u' H⟨rfl,rfl,rfl⟩;exact⟨_,Lc rfl _ _ _,rfl,SFto.CK aH.o 0 _ λlv h=>h.s0 0⟩
def RG(w:World)(x:Nat)(n:Int)(Q:World->Prop)(h:AX w sb mu (A4 ab) aA aB Ab ro lv)(I:A5 w x 0 (A4 sb))(d:Ac 68 #[A4 ab,A0 aB] w.drew (Ak (A0 n) λw'=>Q w')):
 Ac 67 #[A4 x] w (Ak (A0 n) λw'=>Q w'):=by
 have c2:=h.c2;have E:=h.cW;have y:=A1 d
 go_enter func67,ntmps67
 go_wp2;refine BH (λw'=>A5 w' x 0 (A4 sb)/\A5 w' sb 2 (A4 ab)/\A5 w' sb 4 (A0 aB)) 8
  (Bj [0,1,2,3,4,5,6,7] []) ⟨I,c2,E⟩ ?_
 iterate 8 (refine B5 ?_;(try simp only[An]))
 refine Bd ?_;simp only[BD,BC];go_wp2_with (go_at_call 68;refine y.m ?_;rintro e w2⟨rfl,z⟩;have H:=A1 z);go_ret;exact⟨rfl,H.o⟩
def Sc(w:World)(x:Nat)(n o:Int)(Q:World->Prop)(h:AX w sb mu (A4 ab) aA aB Ab ro lv)(I:A5 w x 0 (A4 sb))(Z:Ac 71 #[A4 sb] w.drew (Ak (A0 o) λw'=>A2 A7 w.drew w'))(O:∀w2,A2 A7 w w2->Ac 70 #[A4 ab,A0 aB,A0 o] w2 (Ak (A0 n) λw'=>Q w')):
 Ac 69 #[A4 x] w (Ak (A0 n) λw'=>Q w'):=by
 have c2:=h.c2;have H:=h.cW;have V:=A1 O;have W:Hid (Ac 71 #[A4 sb] w.drew (Ak (A0 o) λw'=>(A5 w' x 0 (A4 sb)/\A5 w' sb 2 (A4 ab)/\A5 w' sb 4 (A0 aB))/\A2 A7 w w')):=by
  refine Z.mono ?_;rintro e w'⟨rfl,y⟩;have d:A2 A7 w w':=(A2.C _ w).I.tr y;exact⟨rfl,⟨d.af I,d.af c2,d.af H⟩,d⟩
 go_enter func69,ntmps69
 go_wp2;refine BH (λw'=>A5 w' x 0 (A4 sb)/\A5 w' sb 2 (A4 ab)/\A5 w' sb 4 (A0 aB)) 10
  (Bj [0,1,2,3,4,5,6,7,8,9] [9]) ⟨I,c2,H⟩ ?_
 iterate 9 (refine B5 ?_;(try simp only[An]))
 refine B7 λK U=>?_;go_simp;refine W.m ?_;rintro e w2⟨rfl,z,y⟩;refine U _ _ z (λJ=>?_);have E:=A1 (V.o w2 y)
 (try simp only[An])
 refine Bd ?_;simp only[BD,BC];go_wp2_with (go_at_call 70;refine E.m ?_;rintro e w3⟨rfl,J⟩;have Y:=A1 J);go_ret;exact⟨rfl,Y.o⟩
def KW(w:World)(f g:Nat)(H:(f=24/\g=67)\/(f=25/\g=69))(n:Int)(Q:World->Prop)(c0:w.cell? (A8 sb 0)=some (.int .i32 0))(f0:w.frozen? (A8 sb 0)=false)(hz:sb<w.heap.size)(aD:∀J,J=(w.alloc (.cells #[A4 sb] 36)).setCell (A8 sb 0) (.int .i32 1)->Ac 64 #[A4 sb,.func (Fn.func g) #[] #[A4 w.heap.size]] J (Ak (A0 n) λw'=>w'.cell? (A8 sb 0)=some (.int .i32 1)/\w'.frozen? (A8 sb 0)=false/\Q w')):
 Ac f #[A4 sb] w (Ak (A0 n) λw'=>∃w2,Q w2/\w'=w2.setCell (A8 sb 0) (.int .i32 0)):=by
 have U:A2 A7 w (w.alloc (.cells #[A4 sb] 36)):=(A2.C _ w).ae _;have z:=Bw w (.cells #[A4 sb] 36);have W:=U.af c0;have O:(w.alloc (.cells #[A4 sb] 36)).frozen? (A8 sb 0)=false:=by
  have y:=U.Ao sb hz (λh=>h);unfold World.frozen? at f0 ⊢;rw[y];exact f0
 have V:=A1 (aD _ rfl);have E:(w.alloc (.cells #[A4 sb] 36)).cell? (A8 w.heap.size 0)=some (A4 sb):=EA z;have d:w.heap.size≠sb:=by omega
 have Y:((w.alloc (.cells #[A4 sb] 36)).sC sb 0 (.int .i32 1)).cell? (A8 w.heap.size 0)=some (A4 sb):=by
  have I:=(A2.C (One sb) (w.alloc (.cells #[A4 sb] 36))).ak (b:=sb) rfl 0 (.int .i32 1);have y:=I.Ao w.heap.size (by simp) (λh=>d h);unfold World.cell? at E ⊢;rw[y];exact E
 generalize hw0:(w.alloc (.cells #[A4 sb] 36))=w0 at W O V E Y;rcases H with⟨rfl,rfl⟩|⟨rfl,rfl⟩
 focus go_enter_defers func24,ntmps24
 rotate_left
 focus go_enter_defers func25,ntmps25
 all_goals
  go_wp2_with (go_at_call 61;refine(lock_free Tryz.br (A8 sb 0) _ W O).mono ?_;rintro e w'⟨rfl,rfl⟩);refine V.m ?_;rintro e w2⟨rfl,u0,Z,hS⟩;have aE:=A1 hS;go_wp2;refine Ju (f:=62) (args:=#[A4 sb]) (by simp) (by simp[go_sem]) ?_;refine(J1 Tryz.br (A8 sb 0) .returning _ ?_ ?_).mono ?_
  ·exact u0
  ·exact Z
  rintro e u' w''⟨rfl,rfl,rfl⟩;exact⟨_,Lc rfl _ _ _,rfl,_,aE.o,rfl⟩
def OC(w:World)(n:Int)(Q:World->Prop)(c0:w.cell? (A8 sb 0)=some (.int .i32 0))(f0:w.frozen? (A8 sb 0)=false)(y:sb<w.heap.size)(h:∀d,d=(w.alloc (.cells #[A4 sb] 36)).setCell (A8 sb 0) (.int .i32 1)->Ac 64 #[A4 sb,.func (Fn.func 67) #[] #[A4 w.heap.size]] d (Ak (A0 n) λw'=>w'.cell? (A8 sb 0)=some (.int .i32 1)/\w'.frozen? (A8 sb 0)=false/\Q w')):
 Ac 24 #[A4 sb] w (Ak (A0 n) λw'=>∃w2,Q w2/\w'=w2.setCell (A8 sb 0) (.int .i32 0)):=
 KW w _ _ (.inl ⟨rfl,rfl⟩) n Q c0 f0 y h
def OD(w:World)(n:Int)(Q:World->Prop)(c0:w.cell? (A8 sb 0)=some (.int .i32 0))(f0:w.frozen? (A8 sb 0)=false)(y:sb<w.heap.size)(h:∀d,d=(w.alloc (.cells #[A4 sb] 36)).setCell (A8 sb 0) (.int .i32 1)->Ac 64 #[A4 sb,.func (Fn.func 69) #[] #[A4 w.heap.size]] d (Ak (A0 n) λw'=>w'.cell? (A8 sb 0)=some (.int .i32 1)/\w'.frozen? (A8 sb 0)=false/\Q w')):
 Ac 25 #[A4 sb] w (Ak (A0 n) λw'=>∃w2,Q w2/\w'=w2.setCell (A8 sb 0) (.int .i32 0)):=
 KW w _ _ (.inr ⟨rfl,rfl⟩) n Q c0 f0 y h
end
end
section
open Go.MuLone Go.RowKit
section
variable {w w' w2:World} {sb ab b B:Nat} {mu aA aB Ab:Int} {ro:Bool} {lv:Nat->Value} {L L':Nat->List Pt} {A A':Ar} {P P':PD} {F0 FT:Nat->Prop} {a c m N:Nat}
def SF.c0(h:SF w sb ab b mu aA aB Ab ro L A P FT):A5 w sb 0 (.int .i32 mu)/\w.frozen? (A8 sb 0)=false/\sb<w.heap.size/\A5 w sb 2 (A4 ab):=by
 obtain⟨lv,F0,q,-⟩:=h;exact⟨q.Ae.c0,q.Ae.fz 0,q.Ae.lt,q.Ae.c2⟩
def SF.cA(h:SF w sb ab b mu aA aB Ab ro L A P FT)(z:∀k,FT k->B<=k)(f:Nat)(args:List Value)(n:Int)(J:Lets B w)(H:∀y F0,AD y ab b A P F0->(∀k,F0 k->k<y.heap.size)->Lets B y->(∀k,F0 k->B<=k)->Calls Tryz.prog f args.toArray y λe w'=>e=.returned (.int .i64 n)/\Al y F0 w' (λw' d=>AD w' ab b A' P' d)):
 Calls Tryz.prog f args.toArray w λe w'=>e=.returned (.int .i64 n)/\Al w FT w' (λw' d=>SF w' sb ab b mu aA aB Ab ro L A' P' d):=by
 obtain⟨lv,F0,q,E⟩:=h;refine(H w F0 q.ar q.lt J (λk I=>z k (E k (.inl I)))).mono ?_;rintro e w'⟨rfl,O⟩;exact⟨rfl,q.cC E O⟩
def RF(w:World)(n:Int)(h:SF w sb ab b 0 aA aB Ab false L A P FT)(Y:∀k,FT k->k<w.heap.size)(hL:Lets B w)(I:∀k,FT k->B<=k)(aI:∀d F0,AD d ab b A P F0->(∀k,F0 k->k<d.heap.size)->Lets B d->(∀k,F0 k->B<=k)->Ac 68 #[A4 ab,A0 aB] d (Ak (A0 n) λw'=>Al d F0 w' (λw' y=>AD w' ab b A' P' y))):
 Ac 24 #[A4 sb] w (Ak (A0 n) λw'=>Al w FT w' (λw' y=>SF w' sb ab b 0 aA aB Ab (decide (n≠0)) L A' P' y)):=by
 obtain⟨c0,f0,hz,-⟩:=h.c0;have J:A2 A7 w (w.aC #[A4 sb] 36):=(A2.C _ w).ae _;have V:=Bw w (.cells #[A4 sb] 36);have Z:=hL.1;refine(OC w n (λw2=>Al w FT w2 (λw' y=>SF w' sb ab b 1 aA aB Ab (decide (n≠0)) L A' P' y)) c0 f0 hz (λd aF=>?_)).mono ?_
 ·have E:=(h.an J).bz;rw[<-aF]at E;obtain⟨O,aD,s1,s2,s3⟩:=E;have W:=(hL.ao J).Ap O I;have b0:(w.aC #[A4 sb] 36).cell? (A8 w.heap.size 0)=some (A4 sb):=EA V;have hx:d.cell? (A8 w.heap.size 0)=some (A4 sb):=by
   have hb:=O.Ao w.heap.size (by simp) (λhx=>EE _ (Y _ hx));unfold World.cell? at b0 ⊢;rw[hb];exact b0
  have H:∀k,aD k->B<=k:=λk hk=>(s3 k hk).elim (I k) λh=>Az Z (Az J.Af h)
  obtain⟨aE,aH,q,hs⟩:=s1;have s1:SF d sb ab b 1 aA aB Ab false L A P aD:=⟨aE,aH,q,hs⟩;have body:Ac 67 #[A4 w.heap.size] d (Ak (A0 n) λw'=>Al d aD w' (λw' y=>SF w' sb ab b 1 aA aB Ab false L A' P' y)):=by
   have U:A2 A7 d d.drew:=(A2.C _ d).I;refine RG d w.heap.size n _ q.Ae hx ?_;refine((s1.an U).cA H _ [A4 ab,A0 aB] n (W.ao U) aI).mono ?_;rintro e w'⟨rfl,z⟩;exact⟨rfl,z.aN U⟩
  refine(Sp d w.heap.size n s1 body).mono ?_;rintro e w'⟨rfl,z⟩;have aG:=(Al.aZ O s3 z).aN J;obtain⟨-,F3,q3,-,-⟩:=z;obtain⟨d0,df,-,-⟩:=q3.c0;exact⟨rfl,d0,df,aG⟩
 ·rintro e w'⟨rfl,w2,z,rfl⟩;exact⟨rfl,SFto.CK z 0 _ λlv h=>h.s0 0⟩
def Sb(w:World)(n:Int)(h:SF w sb ab b 0 aA aB Ab false L A P FT)(Y:∀k,FT k->k<w.heap.size)(hL:Lets B w)(I:∀k,FT k->B<=k)(hl:1<=aA/\aA<=4611686018427387904)(hc:AE Ab)(aI:∀d F0,AD d ab b A P F0->(∀k,F0 k->k<d.heap.size)->Lets B d->(∀k,F0 k->B<=k)->Ac 70 #[A4 ab,A0 aB,A0 (B8 Ab aA)] d (Ak (A0 n) λw'=>Al d F0 w' (λw' y=>AD w' ab b A' P' y))):
 Ac 25 #[A4 sb] w (Ak (A0 n) λw'=>Al w FT w' (λw' y=>SF w' sb ab b 0 aA aB Ab (decide (n≠0)) L A' P' y)):=by
 obtain⟨c0,f0,hz,-⟩:=h.c0;have J:A2 A7 w (w.aC #[A4 sb] 36):=(A2.C _ w).ae _;have V:=Bw w (.cells #[A4 sb] 36);have Z:=hL.1;refine(OD w n (λw2=>Al w FT w2 (λw' y=>SF w' sb ab b 1 aA aB Ab (decide (n≠0)) L A' P' y)) c0 f0 hz (λd aF=>?_)).mono ?_
 ·have E:=(h.an J).bz;rw[<-aF]at E;obtain⟨O,aD,s1,s2,s3⟩:=E;have W:=(hL.ao J).Ap O I;have b0:(w.aC #[A4 sb] 36).cell? (A8 w.heap.size 0)=some (A4 sb):=EA V;have hx:d.cell? (A8 w.heap.size 0)=some (A4 sb):=by
   have hb:=O.Ao w.heap.size (by simp) (λhx=>EE _ (Y _ hx));unfold World.cell? at b0 ⊢;rw[hb];exact b0
  have H:∀k,aD k->B<=k:=λk hk=>(s3 k hk).elim (I k) λh=>Az Z (Az J.Af h)
  obtain⟨aE,aH,q,hs⟩:=s1;have s1:SF d sb ab b 1 aA aB Ab false L A P aD:=⟨aE,aH,q,hs⟩;have body:Ac 69 #[A4 w.heap.size] d (Ak (A0 n) λw'=>Al d aD w' (λw' y=>SF w' sb ab b 1 aA aB Ab false L A' P' y)):=by
   have kd:A2 A7 d d.drew:=(A2.C _ d).I;refine Sc d w.heap.size n (B8 Ab aA) _ q.Ae hx (HV d.drew sb Ab aA (q.Ae.Aj kd λh=>h).c3 (q.Ae.Aj kd λh=>h).cK hl hc) λw2 U=>?_;refine((s1.an U).cA H _ [A4 ab,A0 aB,A0 (B8 Ab aA)] n (W.ao U) aI).mono ?_;rintro e w'⟨rfl,z⟩;exact⟨rfl,z.aN U⟩
  refine(Sq d w.heap.size n s1 body).mono ?_;rintro e w'⟨rfl,z⟩;have aG:=(Al.aZ O s3 z).aN J;obtain⟨-,F3,q3,-,-⟩:=z;obtain⟨d0,df,-,-⟩:=q3.c0;exact⟨rfl,d0,df,aG⟩
 ·rintro e w'⟨rfl,w2,z,rfl⟩;exact⟨rfl,SFto.CK z 0 _ λlv h=>h.s0 0⟩
end
end
section
open Go.MuLone Go.RowKit
attribute [local go_sem ↓] Go.wp_at_zero Go.wp_at_succ C5
def Qi(w:World):CW w (λ_=>.slice none 0 0) (λ_=>[]):=
 ⟨λ_ _=>BW _ _ _ _,λ_ _=>List.Pairwise.nil,λ_ _=>by simp,λ_ _ _ _ _ g h=>by simp[Value.ownBlock]at h⟩
def EN(o:Int)(d:List Pu):Nat->List Pt:=d.foldl (λL p=>Er L o p.1.toNat p.2.1 p.2.2) (λ_=>[])
def Mg(o:Int)(d:List Pu)(p:Pu):EN o (d++[p])=Er (EN o d) o p.1.toNat p.2.1 p.2.2:=by simp[EN]
def Mh(o:Int)(k:Nat):∀n (d:List Pu),d.length=n->(EN o d k).length<=n
 | 0,d,h=>by obtain rfl:=Fy.1 h;simp[EN]
 | n+1,d,h=>by
  have y:d≠[]:=λe=>by subst e;simp at h
  have z:=(NH y).symm;rw[z,Mg];have h1:=Mh o k n d.dropLast (by rw[Tk];omega);have h2:=QZ (EN o d.dropLast) o (d.getLast y).1.toNat (d.getLast y).2.1 (d.getLast y).2.2 k;omega
def Qc{P:PD}{n:Int}(h:Ar.aP P=.error n):n≠0:=by
 unfold Ar.aP at h;split at h
 ·cases h;decide
 ·split at h
  ·cases h;decide
  ·split at h
   ·cases h;decide
   ·split at h
    ·rename_i d;cases h;exact d
    ·cases h
section
variable {w w' w2:World} {sb ab b B:Nat} {mu aA aB Ab:Int} {ro:Bool} {lv:Nat->Value} {L L':Nat->List Pt} {A A':Ar} {P P':PD} {F0 Ft FT:Nat->Prop} {a c m N:Nat}
def Q7(w:World)(aA aB Ab:Int)(hl:1<=aA/\aA<=4611686018427387904)(hw:1<=aB/\aB<=4611686018427387904)(hc:AE Ab)(aI:∀k,Ft k->k<w.heap.size)(aU:∀A d,Ar.aP P=.ok (A,d)->d.length<1099511627000/\∀p∈d,0<=p.1/\p.1<8)(a3:∀z,A2 A7 w z->Ac 59 #[A4 b] z λe w'=>
  (∃n,Ar.aP P=.error n/\e=.returned (.tuple #[.pointer none,.slice none 0 0,A0 n])/\A2 A7 z w')\/
  (∃A d ab v FT,Ar.aP P=.ok (A,d)/\e=.returned (.tuple #[A4 ab,v,A0 0])/\AO w' v d/\AD w' ab b A P FT/\(∀k,FT k->Ft k\/z.heap.size<=k)/\(∀k,FT k->k<w'.heap.size)/\(∀g,v.ownBlock=some g->¬FT g/\z.heap.size<=g)/\A2 A7 z w')):
 Ac 22 #[A4 b,.agg #[A0 aA,A0 aB],A0 Ab] w λe w'=>
  (∃n,Ar.aP P=.error n/\e=.returned (.tuple #[.pointer none,A0 n])/\A2 A7 w w')\/
  (∃A d ab sb,Ar.aP P=.ok (A,d)/\e=.returned (.tuple #[A4 sb,A0 0])/\w.heap.size<=sb/\Al w Ft w' (λw' E=>SF w' sb ab b 0 aA aB Ab false (EN (B8 Ab aA) d) A P E)):=by
 have aQ:Hid (∀w',Ac 58 #[A0 aA] w' λe aD=>e=.returned (.bool true)/\w'=aD):=λw'=>by
  have:=Mj w' aA
  rwa [Cc hl]at this
 have aY:Hid (∀w',Ac 58 #[A0 aB] w' λe aD=>e=.returned (.bool true)/\w'=aD):=λw'=>by
  have:=Mj w' aB
  rwa [Cc hw]at this
 have hA:=(A2.C A7 w).ae (.cells #[A0 aA,A0 aB] 48);have Z:=Bw w (.cells #[A0 aA,A0 aB] 48);generalize hw0:(w.alloc (.cells #[A0 aA,A0 aB] 48))=w0 at hA Z;have q0:A5 w0 w.heap.size 0 (A0 aA):=EA Z;have q1:A5 w0 w.heap.size 1 (A0 aB):=EA Z;have a2:=A1 (a3 w0 hA);have aN:=A1 hA;have HLT:=A1 aI;have aV:=A1 aU;have a7:=A1 hl;have a8:=A1 hc
 go_enter func22,ntmps22
 go_wp2_with (fail);refine(aQ.o _).mono ?_;rintro e w'⟨rfl,rfl⟩;go_wp2_with (fail);refine(aY.o _).mono ?_;rintro e w'⟨rfl,rfl⟩;go_wp2_with (fail);refine a2.m ?_;rintro e z (⟨n,hO,rfl,I⟩|⟨A,d,ab,v,FT,hO,rfl,hp,ha,hf1,hf2,hf3,I⟩)
 ·have hn:=Qc hO;have hnb:(n !=0)=true:=by simpa using hn
  have aS:=A1 hO;have aJ:=A1 (aN.o.tr I);go_wp2;go_ret2;exact .inl ⟨n,aS.o,rfl,aJ.o⟩
 ·obtain⟨va,y,rfl,v1,v2,v3,-⟩:=AR hp;unfold maxLen at v2;have r0:=I.af q0;have r1:=I.af q1;obtain⟨aL,Y⟩:=aV.o A d hO;have aJ:Hid (A2 A7 w z):=aN.o.tr I;have a1:=A1 hp;have aZ:=A1 ha;have aP:Hid (∀k,FT k->Ft k\/w.heap.size<=k):=λk h=>(hf1 k h).imp id (Az aN.o.Af)
  have aF:=A1 hf2;have a0:=A1 hf3;have aS:=A1 hO;have aT:=A1 aL;have aO:=A1 Y;have aR:DO 0 (A4 ab) aA aB Ab false (λ_=>.slice none 0 0) = #[.int .i32 0,.int .u32 0,A4 ab,A0 aA,A0 aB,A0 Ab,.bool false,.slice none 0 0,.slice none 0 0,.slice none 0 0,.slice none 0 0,.slice none 0 0,.slice none 0 0,.slice none 0 0,.slice none 0 0]:=rfl
  have ST:Hid (∀w2,w2=z.alloc (.cells (DO 0 (A4 ab) aA aB Ab false (λ_=>.slice none 0 0)) 111)->
   Al w Ft w2 (λw' E=>SF w' z.heap.size ab b 0 aA aB Ab false (EN (B8 Ab aA) (d.take 0)) A P E/\∀g,(Value.slice va d.length y).oB g->¬E g)/\AO w2 (.slice va d.length y) d):=λw2 e=>by
   subst e;have kA:A2 A7 z (z.alloc (.cells (DO 0 (A4 ab) aA aB Ab false (λ_=>.slice none 0 0)) 111)):=(A2.C _ z).ae _;have hb:AX (z.alloc (.cells (DO 0 (A4 ab) aA aB Ab false (λ_=>.slice none 0 0)) 111)) z.heap.size 0 (A4 ab) aA aB Ab false (λ_=>.slice none 0 0):=Bw z _;have nS:¬FT z.heap.size:=λh=>EE _ (aF.o _ h);refine⟨⟨(aJ.o.tr kA).U λ_ _ h=>h.elim,λk=>FT k\/Own z.heap.size (λ_=>.slice none 0 0) k,⟨⟨_,FT,⟨hb,Qi _,aZ.o.an kA,λk I=>Bc (aF.o k I) kA.Af,nS,λk I=>?_⟩,λ_ h=>h⟩,λg hg W=>?_⟩,λk I=>?_,λk I=>?_⟩,Aq a1.o λg hg=>kA.Ao g (Av a1.o hg) (λh=>h)⟩
   ·obtain⟨i,_,hi⟩:=I;simp[Value.ownBlock]at hi
   ·rcases W with W|rfl|⟨i,_,hi⟩
    ·exact(a0.o g hg).1 W
    ·have:=Av a1.o hg;omega
    ·simp[Value.ownBlock]at hi
   ·rcases I with I|rfl|⟨i,_,hi⟩
    ·exact Bc (aF.o k I) kA.Af
    ·simp
    ·simp[Value.ownBlock]at hi
   ·rcases I with I|rfl|⟨i,_,hi⟩
    ·exact aP.o k I
    ·exact .inr aJ.o.Af
    ·simp[Value.ownBlock]at hi
  have aW:Hid (w.heap.size<=z.heap.size):=aJ.o.Af;rw[aR]at ST;have aX:=A1 (ST.o _ rfl);go_wp2;go_loopw [43] (λiv wr=>∃k:Nat,k<=d.length/\iv=A0 k/\Hid (Al w Ft wr (λw' E=>SF w' z.heap.size ab b 0 aA aB Ab false (EN (B8 Ab aA) (d.take k)) A P E/\∀g,(Value.slice va d.length y).oB g->¬E g)/\AO wr (.slice va d.length y) d)) (λiv _=>d.length-(intOf iv).toNat)
  case atStart=>exact⟨0,by omega,by go_num,aX.o⟩
  case round=>
   obtain⟨k,I,rfl,hI⟩:=hrel;obtain⟨U,aH⟩:∃U,U=wr:=⟨_,rfl⟩;subst aH;have k0:=C3 k;by_cases V:k<d.length
   ·(have kI:(k:Int)<(d.length:Int):=by omega);obtain⟨g,o,rfl,hgl,c1,c2,c3⟩:=F8.at hI.o.2.rd k V;have aM:d.take (k+1)=d.take k++[d[k]'V]:=D9 V;have Y:=aO.o _ (Cx V);have aL:=aT.o;generalize hp:(d[k]'V)=p at c1 c2 c3 aM Y;have aE:Hid (∀w3,A2 A7 U w3->Ac 60 #[A4 z.heap.size,CH p] w3 (Ak (.tuple #[]) λw'=>(Al w Ft w' (λw' E=>SF w' z.heap.size ab b 0 aA aB Ab false (EN (B8 Ab aA) (d.take (k+1))) A P E/\∀J,(Value.slice (some (A8 g o)) d.length y).oB J->¬E J)/\AO w' (.slice (some (A8 g o)) d.length y) d))):=λw3 k3=>by
     obtain⟨⟨i1,F1,⟨i2,i3⟩,i4,i5⟩,i6⟩:=hI.o;have aG:∀j,j<8->(EN (B8 Ab aA) (d.take k) j).length<1099511627000:=λj _=>by
      have:=Mh (B8 Ab aA) j _ (d.take k) rfl;rw[Dg]at this;omega
     refine(Mi w3 p (i2.an k3) Y aG a7.o a8.o).mono ?_;rintro e w'⟨rfl,q1,a6,q2,q3,q4⟩;have aK:A2 Ft w w3:=i1.As k3 λ_ h _=>h.elim;have O:∀J,(Value.slice (some (A8 g o)) d.length y).oB J->J<U.heap.size:=λJ H=>Av i6 H;refine⟨rfl,⟨aK.As q1 λx W aI=>(i5 x W).resolve_right (by omega),a6,⟨by rw[aM,Mg];exact q2,λJ H W=>?_⟩,q3,λx W=>?_⟩,?_⟩
     ·rcases q4 J W with hy|hy
      ·exact i3 J H hy
      ·have:=O J H;have:=k3.Af;omega
     ·rcases q4 x W with hy|hy
      ·exact i5 x hy
      ·exact .inr (Az aK.Af hy)
     ·exact Aq (Aq i6 λJ H=>k3.Ao J (O J H) λh=>h) λJ H=>q1.Ao J (Bc (O J H) k3.Af) (i3 J H)
    obtain⟨p1,p2,p3⟩:=p;unfold CH at aE;dsimp only at c1 c2 c3 aE;go_wp2_with (go_at_call 60;refine(aE.o _ ((A2.C _ U).ae _)).mono ?_;rintro e w3⟨rfl,hS⟩;have a4:=A1 hS);go_roundw
    case rel=>exact⟨k+1,by omega,by go_num,a4.o⟩
    case measure=>simp[intOf];omega
   ·(obtain rfl:k=d.length:=by omega);have a5:=A1 hI.o.1;go_wp2;go_ret2;refine .inr ⟨A,d,ab,z.heap.size,aS.o,rfl,aW.o,?_⟩;have h:=a5.o;rw[CP]at h;exact h.dG λ_ _ h=>h.1
end
end
end Go.Proofs.YtodcnkbblippnaaGreatDoor
