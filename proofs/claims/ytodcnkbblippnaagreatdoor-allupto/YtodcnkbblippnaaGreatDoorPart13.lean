/- Part 13 of a proof: walks of the program. -/
import Derived.Test.YtodcnkbblippnaaGreatDoorPart11
import Derived.Test.YtodcnkbblippnaaGreatDoorPart12
namespace Go.Proofs.YtodcnkbblippnaaGreatDoor
set_option maxRecDepth 100000
set_option maxHeartbeats 32000000
set_option linter.defProp false
open Go.Proofs.Tryz
section
open Go.RowKit
def Fq(L:Nat->gF Pt)(pd:gF Pu)(ld A8:Int):Prop:=∀k:Nat,k<8->piece (L k) (max (-9223372036854775808) (AN A8 ld)) 9223372036854775807=refQ pd k (-9223372036854775808) 9223372036854775807 ld A8
def Sz(pd:gF Pu)(d a b ld A8:Int):(refQ pd d a b ld A8).length<=pd.length:=by
 have:=(OM pd d a b ld A8 pd.length (An _)).2
 rwa [C5]at this
def Rel(L:Nat->gF Pt)(pd:gF Pu)(ld A8:Int):Prop:=∀k:Nat,k<8->(L k).filter (λx=>decide (AN A8 ld<=x.1))=refQ pd k (-9223372036854775808) 9223372036854775807 ld A8
def Sy(pd:gF Pu)(s a b l c a' I l' E:Int)(g:Int->Bool)(h:∀p∈pd,GG s a' I l' E p=(GG s a b l c p&&g p.2.1)):
 refQ pd s a' I l' E=(refQ pd s a b l c).filter (λx=>g x.1):=by
 have key:∀(L:gF Pu) (d:gF Pt),DV d->(∀p∈L,GG s a' I l' E p=(GG s a b l c p&&g p.2.1))->
  L.foldl (FG s a' I l' E) (d.filter λx=>g x.1)=(L.foldl (FG s a b l c) d).filter (λx=>g x.1):=by
  intro L
  induction L with
  | nil=>intro d _ _;rfl
  | cons p r ih=>
   intro d hs Y;have O:=Y p iE;simp only[QC];by_cases q:GG s a b l c p=true
   ·(have e1:FG s a b l c d p=Ce d p.2.1 p.2.2:=by unfold FG;rw[Ai q]);have X:FG s a' I l' E (d.filter λx=>g x.1) p=(Ce d p.2.1 p.2.2).filter (λx=>g x.1):=by
     unfold FG;rw[O,q,O4,Ux hs]
    rw[e1,X];exact ih _ (LM hs _ _) λp z=>Y p (BC _ z)
   ·(have q':GG s a b l c p=false:=by simpa using q);(have e1:FG s a b l c d p=d:=by unfold FG;rw[q'];rfl);have X:FG s a' I l' E (d.filter λx=>g x.1) p=d.filter λx=>g x.1:=by
     unfold FG;rw[O,q',WH];rfl
    rw[e1,X];exact ih _ hs λp z=>Y p (BC _ z)
 exact key pd [] List.Pairwise.nil h
def KM{t ld A8:Int}(d:Ay t):EJ t ld A8=decide (AN A8 ld<=t):=(A0q A8 ld t d).symm
def Rel.dG{L:Nat->gF Pt}{pd:gF Pu}{ld A8:Int}(h:Rel L pd ld A8)(z:∀p∈pd,Ay p.2.1){k:Nat}(E:k<8)(a b:Int):
 piece (L k) (max a (AN A8 ld)) b=refQ pd k a b ld A8:=by
 have e:=Sy pd k (-9223372036854775808) 9223372036854775807 ld A8 a b ld A8 (λt=>decide (a<=t)&&decide (t<=b)) λp d=>by
  have⟨h1,h2⟩:=z p d;unfold GG;have d1:=CN h1;have d2:=CN h2;rw[d1,d2];cases decide (p.1=(k:Int))<;>cases decide (a<=p.2.1)<;>cases decide (p.2.1<=b)<;>cases EJ p.2.1 ld A8<;>rfl
 rw[e,<-h k E,Wp];unfold piece
 congr 1
 funext x
 apply O5.2;simp only[Gb,Ea];omega
def Rel.cN{L:Nat->gF Pt}{pd:gF Pu}{ld A8:Int}(h:Rel L pd ld A8)(d:∀p∈pd,Ay p.2.1):Fq L pd ld A8:=λ_ z=>h.dG d z _ _
def Rel.bS(ld A8:Int):Rel (λ_=>[]) [] ld A8:=λ_ _=>by simp[refQ]
def Rel.az{L:Nat->gF Pt}{pd:gF Pu}{ld A8:Int}(h:Rel L pd ld A8)(O:∀k,k<8->DV (L k)){s:Nat}(hs8:s<8){t v:Int}(E:Ay t):
 Rel (EH L (AN A8 ld) s t v) (pd++[((s:Int),t,v)]) ld A8:=by
 intro k z;have X:refQ (pd++[((s:Int),t,v)]) k (-9223372036854775808) 9223372036854775807 ld A8=FG k (-9223372036854775808) 9223372036854775807 ld A8 (refQ pd k (-9223372036854775808) 9223372036854775807 ld A8) ((s:Int),t,v):=by
  unfold refQ;rw[NV];rfl
 rw[X,<-h k z];obtain⟨t1,t2⟩:=E;have d1:=CN t1;have d2:=CN t2;unfold FG GG;simp only[d1,d2,Bool.and_true,KM (⟨t1,t2⟩:Ay t)];unfold EH;by_cases d:AN A8 ld<=t
 ·rw[Ai d];unfold HH;by_cases e:k=s
  ·subst e;have f:=Ux (O k z) (λx=>decide (AN A8 ld<=x)) t v;simp only[CN d]at f ⊢;simp only[Cs]at f ⊢;simpa using f
  ·have I:¬(s:Int)=(k:Int):=λx=>e iC;simp[e,I]
 ·rw[Af d];have:decide (AN A8 ld<=t)=false:=CO d;simp[this]
def MX{c d ld:Int}(h:c<=d):AN c ld<=AN d ld:=by
 unfold AN;split<;>split<;>omega
def Rel.e4{L I:Nat->gF Pt}{pd:gF Pu}{ld A8 d:Int}(h:Rel L pd ld A8)(X:∀p∈pd,Ay p.2.1)(hc:A8<=d)(hf:HG L I (AN d ld)):Rel I pd ld d:=by
 intro k O;have ho:AN A8 ld<=AN d ld:=MX hc;have e:=Sy pd k (-9223372036854775808) 9223372036854775807 ld A8 (-9223372036854775808) 9223372036854775807 ld d (λt=>decide (AN d ld<=t)) λp E=>by
  unfold GG;rw[KM (X p E),KM (X p E)];have:decide (AN d ld<=p.2.1)=(decide (AN A8 ld<=p.2.1)&&decide (AN d ld<=p.2.1)):=by
   apply O5.2;simp only[Gb,Ea];omega
  rw[this];simp[Bool.and_assoc]
 have Y:(L k).filter (λx=>decide (AN d ld<=x.1))=refQ pd k (-9223372036854775808) 9223372036854775807 ld d:=by
  rw[e,<-h k O,Wp]
  congr 1
  funext x
  apply O5.2;simp only[Gb,Ea];omega
 rw[<-Y];rcases hf k O with q|q
 ·rw[q]
 ·rw[q];have z:L k=(L k).take (BF (L k) (AN d ld))++(L k).drop (BF (L k) (AN d ld)):=(Ec _ _).symm;have hz:((L k).take (BF (L k) (AN d ld))).filter (λx=>decide (AN d ld<=x.1))=[]:=by
   rw[Wq];intro x hx;obtain⟨i,hi,rfl⟩:=List.mem_iff_getElem.1 hx;rw[BK]at hi;have:=Ks (l:=L k) (t:=AN d ld) (i:=i) iC iC;rw[QA];simp;omega
  conv=>rhs;rw[z,L1,hz,Fh]
def HG.Be{L d:Nat->gF Pt}{o:Int}(h:HG L d o){k:Nat}(z:k<8):(d k).length<=(L k).length:=by
 rcases h k z with e|e
 ·rw[e];exact An _
 ·rw[e,Cz];omega
def Rh(F:Nat->FC)(g:Bs->Nat):∀(es:gF AP) (L:gF Bs),(es.map (·.1)).Nodup->(∀e∈es,e.1.data.toList∈L/\(F e.2).1.length<=g e.1.data.toList)->AV F es<=(L.map g).sum
 | [],L,_,_=>Cb _
 | e::r,L,hn,h=>by
  have⟨h1,h2⟩:=h e (BI ..);have E:=List.perm_cons_erase h1;have I:=(E.map g).sum_nat;rw[H4,Qx]at I;have d:=K3.1 hn;have ih:=Rh F g r (L.erase e.1.data.toList) d.2 λx z=>by
   have⟨q1,q2⟩:=h x (BC _ z);refine⟨(Wj λO=>d.1 ?_).2 q1,q2⟩;(have:x.1=e.1:=by rw[<-G4 x.1,<-G4 e.1,O]);exact Cn.2 ⟨x,z,this⟩
  simp only[AV];omega
def Kz(ld d A8:Int)(pd:gF Pu)(i:Nat):Bool:=Iw ld d A8 (pd.getD i (0,0,0)).2.1 pd && ! HP (pd.getD i (0,0,0)) (pd.take i)
def Ue(ld d A8:Int)(pd:gF Pu):∀n,F8 ld d A8 pd n=((List.range n).filter (Kz ld d A8 pd)).length
 | 0=>rfl
 | n+1=>by
  rw[List.range_succ,L1,B3,<-Ue ld d A8 pd n];simp only[F8,Fz,List.filter_nil];cases hk:Kz ld d A8 pd n with
  | true=>unfold Kz at hk;rw[hk];simp
  | false=>unfold Kz at hk;rw[hk];simp
def UM(pd:gF Pu)(a b:Int):∀n,n<=pd.length->(∃i,i<n/\(pd.getD i (0,0,0)).1=a/\(pd.getD i (0,0,0)).2.1=b)->
 ∃i,i<n/\((pd.getD i (0,0,0)).1=a/\(pd.getD i (0,0,0)).2.1=b)/\HP (pd.getD i (0,0,0)) (pd.take i)=false
 | 0,_,⟨i,h,_⟩=>iC
 | n+1,hn,⟨i,hi,h1,h2⟩=>by
  by_cases E:∃j,j<n/\(pd.getD j (0,0,0)).1=a/\(pd.getD j (0,0,0)).2.1=b
  ·have⟨j,j1,j2,j3⟩:=UM pd a b n iC E;exact⟨j,iC,j2,j3⟩
  ·have z:i=n:=by
    rcases Fg i n with d|hge
    ·exact absurd ⟨i,d,h1,h2⟩ E
    ·omega
   subst z;refine⟨i,iC,⟨h1,h2⟩,?_⟩;unfold HP;rw[List.any_eq_false];intro q O;obtain⟨j,X,rfl⟩:=DD O;rw[BK]at X;simp only[Gb,beq_iff_eq,not_and];intro I L;refine E ⟨j,iC,?_⟩;rw[QA]at I L;(have Y:pd.getD j (0,0,0)=pd[j]' iC:=by rw[HY,Dx iC];rfl);rw[Y];exact⟨I.trans h1,L.trans h2⟩
def A1j(ld d A8:Int)(pd l:gF Pu)(O:Ig l)(Y:∀p∈l,∃q∈pd,q.1=p.1/\q.2.1=p.2.1)(ha:∀p∈l,∃q∈pd,EJ q.2.1 ld A8=true/\GC q.2.1 d=GC p.2.1 d):
 l.length<=F8 ld d A8 pd pd.length:=by
 have E:(l.map λp=>(p.1,p.2.1)).Nodup:=by
  unfold Ig at O;unfold List.Nodup;rw[KR];exact O.imp λh e=>h (by simp only[Prod.mk.injEq]at e;exact e)
 have z:∀x∈l.map (λp=>(p.1,p.2.1)),x∈((List.range pd.length).filter (Kz ld d A8 pd)).map λi=>((pd.getD i (0,0,0)).1,(pd.getD i (0,0,0)).2.1):=λx hx=>by
  obtain⟨p,L,rfl⟩:=Cn.1 hx;have⟨q,hq,e1,e2⟩:=Y p L;obtain⟨i,I,rfl⟩:=DD hq;have X:pd.getD i (0,0,0)=pd[i]'I:=by rw[HY,Dx I];rfl
  have⟨j,j1,⟨j2,j3⟩,j4⟩:=UM pd p.1 p.2.1 pd.length (An _) ⟨i,I,by rw[X];exact⟨e1,e2⟩⟩;refine Cn.2 ⟨j,H3.2 ⟨KT.2 j1,?_⟩,by rw[j2,j3]⟩;unfold Kz;rw[j4,j3];have⟨r,hr,r1,r2⟩:=ha p L;have:Iw ld d A8 p.2.1 pd=true:=by
   unfold Iw;rw[Mn];exact⟨r,hr,by simp[r1,r2]⟩
  rw[this];rfl
 have:=IW E z;rw[Fx,Fx,<-Ue]at this;exact this
section
variable{bd:Int×Int}{P P':PD}{A:Ar}{sg cl:gF (Int×gF Pu)}{ol:Option (gF Pu)}{pd:gF Pu}{Ad:Nat}
def SI.du{wa ld A8:Int}(h:SI bd A P pd Ad (AN A8 ld) sg cl ol)(O:BZ (AE wa))(hn:isNum (A.j.Ac+1)=true){n:Nat}(z:(Bk sg cl ol).length<=n)(aE:n<=1073741824)(aB:A.Ac+n<=4611686018427387904)(aI:A.Ac+n<=bd.2)(L:A.AS.length+P.Az.length+A.j.Ao.length+2*sg.length<=1073741824)(aF:∀p∈pd,Ay p.2.1)(aG:(A.aM P wa (AN A8 ld)).1=0):
 AV (A.aM P wa (AN A8 ld)).2.2.F (A.aM P wa (AN A8 ld)).2.2.D.A6<=300+150*F8 ld wa A8 pd pd.length:=by
 have⟨_,h2⟩:=h.aM O hn z aE aB aI L;have⟨sg',hS,hA,_,hperm,hnames,_⟩:=h2 aG;have hall:=h.C9;have d:=Iy O (Bk sg cl ol);generalize hws:C3 wa (Bk sg cl ol)=ws at d hperm;generalize hP1:(A.aM P wa (AN A8 ld)).2.2=P1 at hS hnames ⊢;have aD:(Ax sg').Perm (Ei (AN A8 ld) ws).flatten:=by
  have:=hperm.flatten;unfold Ax;rw[NW];exact this
 have hcnt:(Ax sg').length<=F8 ld wa A8 pd pd.length:=by
  rw[aD.length_eq];refine A1j ld wa A8 pd _ (d.dw _) (λp hp=>?_) (λp hp=>?_)
  ·exact hall.2.1 p (d.DG p ((JN _ ws).subset hp))
  ·have⟨w,hw1,hw2⟩:=KV.1 hp;have I:=(H3.1 hw1).2;rw[Mn]at I;obtain⟨r,hr,ho⟩:=I;have Y:=KV.2 ⟨w,Nz hw1,hr⟩;have⟨q,hq,e1,E⟩:=hall.2.1 r (d.DG r Y);refine⟨q,hq,?_,?_⟩
   ·rw[KM (aF q hq),E];exact ho
   ·have:=d.Gp w (Nz hw1) r hr p hw2;unfold BH at this;unfold GC;rw[E];exact this
 have hseg:sg'.length<=(Ax sg').length:=by
  have:=I7 (ws:=sg'.map (·.2)) λw O=>by
   obtain⟨x,X,rfl⟩:=Cn.1 O;exact hS.Ey.1.2.2 x X
  rw[Fx]at this;unfold Ax;rw[NW];exact this
 obtain⟨g,hg⟩:∃g:Bs->Nat,g=λnm=>(P1.bs nm).elim 0 List.length:=⟨_,rfl⟩
 have hu:=Rh P1.F g P1.D.A6 (AJ::sg'.map λx=>AH x.1) hS.di.bj.Ck λe he=>by
  have hb:P1.bs e.1.data.toList=some (P1.F e.2).1:=by
   have hl:lookup P1.D.A6 e.1=some e.2:=by
    cases hk:lookup P1.D.A6 e.1 with
    | none=>exact absurd rfl (J1.1 hk e he)
    | some f=>
     have⟨i,hi,e1⟩:=DD (Eo hk);have⟨j,hj,E⟩:=DD he;have:i=j:=JC hS.di.bj.Ck (by simpa using hi) (by simpa using hj) (by simp[e1,E]);subst this;rw[e1]at E;rw[<-E]
   unfold PD.bs PD.fl;rw[G4,hl];rfl
  exact⟨hnames _ (by rw[hb];simp),by rw[hg];dsimp only;rw[hb];exact An _⟩
 have hgi:g AJ<=12+8*sg'.length:=by
  rw[hg];dsimp only
  rcases hS.AZ.ix with⟨e,_⟩|e
  ·rw[e];simp
  ·rw[e];have hl:(Cp (A.aM P wa (AN A8 ld)).2.1.ix.Bd (A.aM P wa (AN A8 ld)).2.1.ix.sd).length=8+8*sg'.length:=by
    unfold Cp;rw[B3,CT,JO,<-hS.AZ.sd,Fx]
   simp only[Option.elim_some];rw[EP,hl];omega
 have aH:((sg'.map λx=>AH x.1).map g).sum=17*(Ax sg').length+4*sg'.length:=by
  have key:∀l:gF (Int×gF Pu),(∀x∈l,x∈sg')->((l.map λx=>AH x.1).map g).sum=17*(Ax l).length+4*l.length:=by
   intro l
   induction l with
   | nil=>intro _;rfl
   | cons x r ih=>
    intro X;have e:=(hS.AZ.CD x (X x (BI ..))).2;have aA:=ih λy hy=>X y (BC _ hy);(have E:g (AH x.1)=17*x.2.length+4:=by rw[hg];dsimp only;rw[e];simp only[Option.elim_some];rw[EP,IT]);simp only[H4,Qx,CA];rw[aA,E];unfold Ax;rw[Mj,B3];omega
  exact key sg' λ_ h=>h
 rw[H4,Qx,aH]at hu;omega
end
def N4{l:gF Pu}(z:∀p∈l,Bo p){k t:Int}(h:¬(0<=k/\k<8)\/¬Ay t):Bz l k t=none:=Pn.2 λp d e=>by
 have⟨h1,h2,_⟩:=z p d;obtain⟨E,I⟩:=e;rcases h with h|h
 ·exact h (by rw[<-E];exact h1)
 ·exact h (by rw[<-I];exact h2)
def A07{a b:gF Pu}(Y:∀p∈a,Bo p)(L:∀p∈b,Bo p){ld A8:Int}(h:∀k:Nat,k<8->refQ a k (-9223372036854775808) 9223372036854775807 ld A8=refQ b k (-9223372036854775808) 9223372036854775807 ld A8)(k t:Int)(ht:AN A8 ld<=t):Bz a k t=Bz b k t:=by
 by_cases O:0<=k/\k<8
 ·by_cases z:Ay t
  ·obtain⟨d,rfl⟩:∃d:Nat,k=d:=⟨k.toNat,iC⟩;(have I:EJ t ld A8=true:=by rw[KM z];exact CN ht);have e:=h d iC;obtain⟨t1,t2⟩:=z;have q:∀v,Bz a d t=some v↔Bz b d t=some v:=λv=>by
    have X:=MN (d:Int) (-9223372036854775808) 9223372036854775807 ld A8 (t,v) _ a rfl;have i2:=MN (d:Int) (-9223372036854775808) 9223372036854775807 ld A8 (t,v) _ b rfl;rw[e]at X;have:=X.symm.trans i2;exact⟨λE=>(this.1 ⟨⟨t1,t2,I⟩,E⟩).2,λE=>(this.2 ⟨⟨t1,t2,I⟩,E⟩).2⟩
   cases E:Bz a d t with
   | none=>
    cases hy:Bz b d t with
    | none=>rfl
    | some v=>rw[(q v).2 hy]at E;cases E
   | some v=>rw[(q v).1 E]
  ·rw[N4 Y (.inr z),N4 L (.inr z)]
 ·rw[N4 Y (.inl O),N4 L (.inl O)]
def RY{pd:gF Pu}(E:∀p∈pd,Bo p){n0 n:Nat}(I:n0<=n){ld A8:Int}(h:∀k:Nat,k<8->refQ (pd.take n0) k (-9223372036854775808) 9223372036854775807 ld A8=refQ (pd.take n) k (-9223372036854775808) 9223372036854775807 ld A8):C4 (AN A8 ld) (pd.take n0) (pd.take n):=by
 have z:∀p∈pd.take n0,p∈pd.take n:=λp E=>(List.take_sublist_take_left I).subset E
 refine⟨A07 (λp d=>E p (HD d)) (λp d=>E p (HD d)) h,λp d=>⟨p,z p d,rfl,rfl⟩,?_⟩;rw[BK,BK];omega
def Sv{L:Nat->gF Pt}{a b:gF Pu}{ld A8:Int}(h:Rel L a ld A8)(_ha:∀p∈b,Bo p)(O:C4 (AN A8 ld) a b):Rel L b ld A8:=λk z=>by
 rw[h k z];refine Zk λt I E d=>O.1 _ _ ?_;rw[KM ⟨I,E⟩]at d;exact Jz d
structure Wd (P:PD) (a m:Nat):Prop where
 A6:P.D.A6.length<=a
 AG:P.D.AG.length<=a
 G6:∀l∈P.D.As,l.length<=a
 Be:∀f,P.D.Aq f->(P.F f).1.length<=m
def Fit.wd{P:PD}{a c m:Nat}(h:Fit P a c m):Wd P a m:=⟨h.A6,h.AG,h.G6,h.Be⟩
def Wd.D8{P:PD}{a c m a' m':Nat}(h:Wd P a m)(d:Fit P a' c m'):Fit P a c m:=⟨h.A6,h.AG,h.G6,d.Am,h.Be,d.Av,d.BG⟩
def BD(P:PD)(k:Nat):Prop:=∀f,P.D.Aq f->f<k
def BD.ah{P:PD}{k d:Nat}(h:BD P k)(z:k<=d):BD P d:=λf E=>Bp (h f E) z
def Ng{k:Nat}:∀ {es:gF AP},(∀e∈es,e.2<k)->J9 es<=k
 | [],_=>Cb _
 | e::r,h=>by
  have:=h e (BI ..);have:=Ng λx d=>h x (BC _ d);unfold J9;omega
def Vk{k:Nat}:∀ {l:gF (gF AP)},(∀c∈l,∀e∈c,e.2<k)->KI l<=k
 | [],_=>Cb _
 | c::r,h=>by
  have:=Ng (h c (BI ..));have:=Vk λx d=>h x (BC _ d);unfold KI;omega
def BD.AW{P:PD}{k:Nat}(h:BD P k):P.D.AW<=k:=by
 have h1:=Ng λe d=>h _ (.inl ⟨e,d,rfl⟩);have h2:=Ng λe d=>h _ (.inr (.inl ⟨e,d,rfl⟩));have h3:=Vk λc z e d=>h _ (.inr (.inr ⟨c,z,e,d,rfl⟩));unfold DS.AW;omega
def BD.A6{P:PD}{k:Nat}(h:BD P k):∀e∈P.D.A6,e.2<k:=λe d=>h _ (.inl ⟨e,d,rfl⟩)
def IC(P P':PD):Prop:=P'.D.AG=P.D.AG/\((P'.D.A6=P.D.A6/\P'.D.As=P.D.As)\/P'.D.As=P.D.As++[P'.D.A6])
def IC.wd{P P':PD}{a m:Nat}(h:IC P P')(z:Wd P a m)(E:P'.D.A6.length<=a)(I:∀f,P'.D.Aq f->(P'.F f).1.length<=m):Wd P' a m:=
 ⟨E,by rw[h.1];exact z.AG,λl d=>by
  rcases h.2 with⟨_,e⟩|e
  ·rw[e]at d;exact z.G6 l d
  ·rw[e]at d;rcases AX.1 d with d|d
   ·exact z.G6 l d
   ·simp at d;subst d;exact E,I⟩
def IC.Am{P P':PD}(h:IC P P'):∀l∈P'.D.As,l∈P.D.As\/l=P'.D.A6:=λl d=>by
 rcases h.2 with⟨_,e⟩|e
 ·rw[e]at d;exact .inl d
 ·rw[e]at d;rcases AX.1 d with d|d
  ·exact .inl d
  ·exact .inr (by simpa using d)
def IC.Aq{P P':PD}(h:IC P P'){p:Nat->Prop}(E:∀f,P.D.Aq f->p f)(z:∀e∈P'.D.A6,p e.2):∀f,P'.D.Aq f->p f:=by
 rintro f (⟨e,he,rfl⟩|⟨e,he,rfl⟩|⟨l,d,e,he,rfl⟩)
 ·exact z e he
 ·rw[h.1]at he;exact E _ (.inr (.inl ⟨e,he,rfl⟩))
 ·rcases h.Am l d with d|rfl
  ·exact E _ (.inr (.inr ⟨l,d,e,he,rfl⟩))
  ·exact z e he
section
variable{P P':PD}{A:Ar}{J:Jn}{a m k:Nat}
def Extra.dT{nm:Bs}(h:Extra P nm P'):IC P P':=⟨h.AG,by
 rcases h.da with⟨d1,d2⟩|⟨_,d1,d2⟩
 ·exact .inl ⟨d1,d2⟩
 ·exact .inr (by rw[d2,d1])⟩
def Extra.DT{nm:Bs}(h:Extra P nm P'):∀e∈P'.D.A6,e∈P.D.A6\/e.2=P.D.AW:=λe d=>by
 rcases h.da with⟨d1,_⟩|⟨_,d1,_⟩
 ·rw[d1]at d;exact .inl d
 ·rw[d1]at d;rcases AX.1 d with d|d
  ·exact .inl d
  ·simp at d;subst d;exact .inr rfl
def BD.bQ{nm:Bs}(h:BD P k)(z:Extra P nm P'):BD P' (k+1):=by
 refine z.dT.Aq (λf E=>A4z (h f E)) λe d=>?_;rcases z.DT e d with d|d
 ·exact A4z (h.A6 e d)
 ·have:=h.AW;omega
def Wd.bQ{nm:Bs}(h:Wd P a m)(d:Extra P nm P')(O:P.dl+1<=a)(X:(P'.F P.D.AW).1.length<=m):Wd P' a m:=by
 unfold PD.dl at O;have E:∀f,(f≠P.D.AW->P.D.Aq f)->(P'.F f).1.length<=m:=λf E=>by
  by_cases e:f=P.D.AW
  ·rw[e];exact X
  ·rw[d.EI f e];exact h.Be f (E e)
 refine d.dT.wd h ?_ (d.dT.Aq (λf L=>E f λ_=>L) λe z=>E _ λI=>?_)
 ·rcases d.da with⟨d1,_⟩|⟨_,d1,_⟩
  ·rw[d1];omega
  ·rw[d1];simp;omega
 ·rcases d.DT e z with z|z
  ·exact .inl ⟨e,z,rfl⟩
  ·exact absurd z I
def WS(P:PD)(nm:Bs)(s:Nat)(l:Bs):((P.aH nm s l).2.F P.D.AW).1.length<=l.length+4:=by
 have⟨e1,e2⟩:=LO P nm;have h:(P.aq (Ab nm)).2.F P.D.AW=([],0):=by unfold PD.aq;simp[upd]
 unfold PD.aH;split
 ·rw[h];simp
 ·rename_i E;have z:=e2 (EG E);have⟨a1,a2,a3,a4⟩:=Je (AT s l) z;have d:(((P.aq (Ab nm)).2.af (Ab nm) s l).2.2.F P.D.AW).1.length<=l.length+4:=by
   show (((P.aq (Ab nm)).2.au (Ab nm) (AT s l)).2.F P.D.AW).1.length<=l.length+4;rcases a4 with e|⟨j,e⟩
   ·rw[e,h];simp
   ·rw[e];simp only[upd,Cs,h,Fh,BK,EP];omega
  split
  ·exact d
  ·unfold PD.ae CP;split
   ·exact d
   ·dsimp only
    split
    ·unfold upd;split
     ·rename_i e;rw[<-e];exact d
     ·exact d
    ·exact d
def Wd.aH(h:Wd P a m)(nm:Bs)(s:Nat)(l:Bs)(d:P.dl+1<=a)(z:l.length+4<=m):Wd (P.aH nm s l).2 a m:=h.bQ (KF P nm s l).1 d (AO (WS P nm s l) z)
def BD.aH(h:BD P k)(nm:Bs)(s:Nat)(l:Bs):BD (P.aH nm s l).2 (k+1):=h.bQ (KF P nm s l).1
def MB(P:PD)(x:gE):(P.ae x).2.D.A6=P.D.A6/\(P.ae x).2.D.AG=P.D.AG/\(P.ae x).2.D.As=P.D.As/\∀f,((P.ae x).2.F f).1=(P.F f).1:=by
 cases hx:lookup P.D.A6 x with
 | none=>
  have e:(P.ae x).2=P:=by unfold PD.ae CP;rw[hx]
  rw[e];exact⟨rfl,rfl,rfl,λ_=>rfl⟩
 | some g=>
  have⟨a1,a2,a3,a4⟩:=Jq hx;refine⟨a1,a2,a3,λf=>?_⟩;rcases a4 with e|e
  ·rw[e]
  ·rw[e];unfold upd;split
   ·rename_i d;rw[d]
   ·rfl
def PH(z:P'.D.A6=P.D.A6)(h:P'.D.AG=P.D.AG)(E:P'.D.As=P.D.As)(f:Nat)(d:P'.D.Aq f):P.D.Aq f:=by
 unfold DS.Aq at d ⊢;rwa [z,h,E]at d
def Wd.av(h:Wd P a m)(z:P'.D.A6=P.D.A6)(d:P'.D.AG=P.D.AG)(E:P'.D.As=P.D.As)(L:∀f,(P'.F f).1=(P.F f).1):Wd P' a m:=
 ⟨by rw[z];exact h.A6,by rw[d];exact h.AG,by rw[E];exact h.G6,λf I=>by rw[L];exact h.Be f (PH z d E f I)⟩
def Wd.ae(h:Wd P a m)(x:gE):Wd (P.ae x).2 a m:=by
 have⟨h1,h2,h3,h4⟩:=MB P x;exact h.av h1 h2 h3 h4
def BD.ae(h:BD P k)(x:gE):BD (P.ae x).2 k:=by
 have⟨h1,h2,h3,_⟩:=MB P x;exact λf d=>h f (PH h1 h2 h3 f d)
def Wd.ax:∀(l:gF Bs) {P:PD},Wd P a m->Wd (PD.ax l P).2 a m
 | [],_,h=>h
 | nm::r,P,h=>by
  unfold PD.ax;split
  ·exact h.ae _
  ·exact Wd.ax r (h.ae _)
def BD.ax:∀(l:gF Bs) {P:PD},BD P k->BD (PD.ax l P).2 k
 | [],_,h=>h
 | nm::r,P,h=>by
  unfold PD.ax;split
  ·exact h.ae _
  ·exact BD.ax r (h.ae _)
def Wd.I(h:Wd P a m):Wd (A.I P).2.2 a m:=by unfold Ar.I;split<;>exact Wd.ax _ h
def BD.I(h:BD P k):BD (A.I P).2.2 k:=by unfold Ar.I;split<;>exact BD.ax _ h
def Wd.aI(h:Wd P a m):Wd P.aI.2 a m:=by
 unfold PD.aI Ef;dsimp only
 split
 ·refine⟨h.A6,h.A6,λl d=>(by cases d),?_⟩;rintro f (hf|hf|⟨l,d,_⟩)
  ·exact h.Be f (.inl hf)
  ·exact h.Be f (.inl hf)
  ·cases d
 ·exact⟨h.A6,h.AG,h.G6,h.Be⟩
def BD.aI(h:BD P k):BD P.aI.2 k:=by
 unfold PD.aI Ef;dsimp only
 split
 ·rintro f (hf|hf|⟨l,hl,_⟩)
  ·exact h f (.inl hf)
  ·exact h f (.inl hf)
  ·cases hl
 ·exact h
def OJ(P:PD)(x:gE):IC P (P.aF x).2/\(P.aF x).2.F=P.F/\(∀e∈(P.aF x).2.D.A6,e∈P.D.A6)/\((P.aF x).1=0->(P.aF x).2.dl+1=P.dl):=by
 unfold PD.aF DB;by_cases E:Bb P.D.A6 x<0
 ·rw[Ai E];exact⟨⟨rfl,.inl ⟨rfl,rfl⟩⟩,rfl,λ_ h=>h,λh=>(by cases h)⟩
 ·rw[Af E];have hl:=UO P.D.A6 x;dsimp only
  by_cases z:(bg P.D.n).1=true
  ·rw[Ai z];refine⟨⟨rfl,.inr rfl⟩,rfl,λe d=>?_,λ_=>?_⟩
   ·rcases AX.1 d with d|d
    ·exact HD d
    ·exact KU d
   ·unfold PD.dl;simp;omega
  ·rw[Af z];exact⟨⟨rfl,.inl ⟨rfl,rfl⟩⟩,rfl,λ_ h=>h,λh=>absurd (Hu h) z⟩
def Wd.aF(h:Wd P a m)(x:gE):Wd (P.aF x).2 a m:=by
 have⟨h1,h2,h3,_⟩:=OJ P x;have:=UU P x;refine h1.wd h ?_ ?_
 ·have:=h.A6;unfold PD.dl at *;omega
 ·rw[h2];exact h1.Aq (λf d=>h.Be f d) λe z=>h.Be _ (.inl ⟨e,h3 e z,rfl⟩)
def BD.aF(h:BD P k)(x:gE):BD (P.aF x).2 k:=by
 have⟨h1,_,h3,_⟩:=OJ P x;exact h1.Aq (λf d=>h f d) λe z=>h.A6 e (h3 e z)
def Wd.aN:∀(l:gF Bs) {P:PD},Wd P a m->Wd (PD.aN l P).2 a m
 | [],_,h=>h
 | nm::r,P,h=>by
  unfold PD.aN;split
  ·exact h.aF _
  ·exact Wd.aN r (h.aF _)
def BD.aN:∀(l:gF Bs) {P:PD},BD P k->BD (PD.aN l P).2 k
 | [],_,h=>h
 | nm::r,P,h=>by
  unfold PD.aN;split
  ·exact h.aF _
  ·exact BD.aN r (h.aF _)
def Su:∀(l:gF Bs) (P:PD),(PD.aN l P).1=0->(PD.aN l P).2.dl+l.length=P.dl
 | [],_,_=>rfl
 | nm::r,P,h=>by
  unfold PD.aN at h ⊢;split at h
  ·rename_i d;exact absurd h d
  ·rename_i d;rw[Af d];have:=Su r _ h;have:=(OJ P (Ab nm)).2.2.2 (EG d);simp only[CA];omega
def UN{α:Type}(p:α->Bool):∀l:gF α,(l.filter p).length+(l.filter λx=>!p x).length=l.length
 | []=>rfl
 | x::r=>by
  have:=UN p r;cases hx:p x with
  | true=>simp[hx];omega
  | false=>simp[hx];omega
def XP(I:Hz P)(d:(A.ay P).1=0):(A.ay P).2.dl<=A.Az.length:=by
 have h1:=Su (A.aU P) P d;have h:=I.aP.db;have h2:(A.aX P).length<=A.Az.length:=IW (h.filter _) λx E=>by
  have:=(H3.1 E).2;simpa using this
 have z:(A.aX P).length+(A.aU P).length=P.Az.length:=by
  unfold Ar.aX Ar.aU;exact UN _ _
 rw[Jb]at z;have h4:(PD.aN (A.aU P) P).2.dl=(A.ay P).2.dl:=rfl;omega
def TA:∀(L:gF (gF Pu)) (d:Int) (z:gF Int) {P:PD} {k:Nat},Wd P a m->BD P k->P.dl+L.length<=a->(∀l∈L,17*l.length+4<=m)->
 Wd (PD.ao L d z P).2.2.2 a m/\BD (PD.ao L d z P).2.2.2 (k+L.length)
 | [],_,_,_,_,h,hi,_,_=>⟨h,hi⟩
 | l::r,d,z,P,k,h,hi,hd,hl=>by
  simp only[CA]at hd;have O:Wd (P.aJ (d+1) l).2 a m:=h.aH _ _ _ iC (by rw[IT];exact hl l (BI ..));have I:BD (P.aJ (d+1) l).2 (k+1):=hi.aH _ _ _;have hdl:(P.aJ (d+1) l).2.dl<=P.dl+1:=Ni P _ _ _;have E:PD.ao (l::r) d z P=if (P.aJ (d+1) l).1≠0 then ((P.aJ (d+1) l).1,d+1,z,(P.aJ (d+1) l).2) else PD.ao r (d+1) (z++[d+1]) (P.aJ (d+1) l).2:=rfl
  rw[E];split
  ·exact⟨O,I.ah iE⟩
  ·have⟨i1,i2⟩:=TA r (d+1) (z++[d+1]) O I iC λx X=>hl x (BC _ X);exact⟨i1,i2.ah (by simp;omega)⟩
def Sj(P:PD)(oe nm:gE):IC P (P.aQ oe nm).2/\(P.aQ oe nm).2.F=P.F/\∀e∈(P.aQ oe nm).2.D.A6,∃d∈P.D.A6,d.2=e.2:=by
 unfold PD.aQ Da;cases hx:lookup P.D.A6 oe with
 | none=>exact⟨⟨rfl,.inl ⟨rfl,rfl⟩⟩,rfl,λe h=>⟨e,h,rfl⟩⟩
 | some f=>
  dsimp only
  split
  ·exact⟨⟨rfl,.inl ⟨rfl,rfl⟩⟩,rfl,λe h=>⟨e,h,rfl⟩⟩
  ·dsimp only
   split
   ·refine⟨⟨rfl,.inr rfl⟩,rfl,λe h=>?_⟩;rcases AX.1 h with h|h
    ·exact⟨e,ML _ _ _ _ e h,rfl⟩
    ·simp at h;subst h;exact⟨_,Eo hx,rfl⟩
   ·exact⟨⟨rfl,.inl ⟨rfl,rfl⟩⟩,rfl,λe h=>⟨e,h,rfl⟩⟩
def Wd.aQ(h:Wd P a m)(oe nm:gE)(z:P.dl+1<=a):Wd (P.aQ oe nm).2 a m:=by
 have⟨h1,h2,h3⟩:=Sj P oe nm;have:=UT P oe nm;refine h1.wd h (by unfold PD.dl at *;omega) ?_;rw[h2];exact h1.Aq (λf E=>h.Be f E) λe I=>by have⟨d,z,e2⟩:=h3 e I;rw[<-e2];exact h.Be _ (.inl ⟨d,z,rfl⟩)
def BD.aQ(h:BD P k)(oe nm:gE):BD (P.aQ oe nm).2 k:=by
 have⟨h1,_,h3⟩:=Sj P oe nm;exact h1.Aq (λf z=>h f z) λe E=>by have⟨d,hd,e2⟩:=h3 e E;rw[<-e2];exact h.A6 d hd
def ZF(h:Wd P a m)(I:BD P k)(d:Int)(sd:gF Int)(hd:P.dl+2<=a)(hl:12+8*sd.length<=m):Wd (P.al d sd).2 a m/\BD (P.al d sd).2 (k+1):=by
 have hlen:(Cp d sd).length=8+8*sd.length:=by unfold Cp;rw[B3,CT,JO]
 have E:Wd (P.aH Bx (AI AJ) (Cp d sd)).2 a m:=h.aH _ _ _ iC iC;have z:=I.aH Bx (AI AJ) (Cp d sd);have:=Ni P Bx (AI AJ) (Cp d sd);unfold PD.al;split
 ·exact⟨E,z⟩
 ·exact⟨E.aQ _ _ iC,z.aQ _ _⟩
def A3T(h:Wd P a m)(d:BD P k)(sd:gF Int)(z:P.dl+2<=a)(E:12+8*sd.length<=m):Wd (A.al P sd).2.2 a m/\BD (A.al P sd).2.2 (k+1):=by
 have:=ZF h d (A.j.Ac+1) sd z E;unfold Ar.al;split
 ·exact⟨h,d.ah iC⟩
 ·split<;>exact this
def A3f(h:Wd P a m)(d:BD P k):Wd (A.a8 P).2.2 a m/\BD (A.a8 P).2.2 k:=by
 unfold Ar.a8;split
 ·exact⟨Wd.aN _ h,BD.aN _ d⟩
 ·exact⟨(Wd.aN _ h).aI,(BD.aN _ d).aI⟩
def A0B(h:Hz P)(d:P'.D.A6=P.D.A6):Hz P':=⟨by rw[d];exact h.Aq,by rw[d];exact h.Ck⟩
def Ys(A:Ar)(P:PD):(A.I P).2.2.D.A6=P.D.A6:=by
 have key:∀(l:gF Bs) (Q:PD),(PD.ax l Q).2.D.A6=Q.D.A6:=by
  intro l
  induction l with
  | nil=>intro Q;rfl
  | cons nm r ih=>
   intro Q;unfold PD.ax;split
   ·exact(MB Q _).1
   ·rw[ih,(MB Q _).1]
 unfold Ar.I;split<;>exact key _ _
def Z4(h:Wd P a m)(hi:BD P k)(hn:Hz P)(z:gF Int)(d:gF (gF Pu))(hd:A.Az.length+d.length+2<=a)(hl:∀l∈d,17*l.length+4<=m)(hk:12+8*(z.length+d.length)<=m):
 Wd (A.aG P z d).2.2 a m/\BD (A.aG P z d).2.2 (k+d.length+1):=by
 have O:Wd (A.I P).2.2 a m:=h.I;have L:BD (A.I P).2.2 k:=hi.I;have n1:Hz (A.I P).2.2:=A0B hn (Ys A P);have E:(A.I P).2.1.Az=A.Az:=by unfold Ar.I;split<;>rfl
 unfold Ar.aG;dsimp only
 split
 ·exact⟨O,L.ah iC⟩
 ·have Y:Wd ((A.I P).2.1.ay (A.I P).2.2).2 a m:=Wd.aN _ O;have X:BD ((A.I P).2.1.ay (A.I P).2.2).2 k:=BD.aN _ L;split
  ·exact⟨Y,X.ah iC⟩
  ·rename_i h2;have I:=XP n1 (EG h2);rw[E]at I;have⟨w3,i3⟩:=TA d (A.I P).2.1.Ac z Y X iC hl;have⟨d3,d4⟩:=Nj d (A.I P).2.1.Ac z ((A.I P).2.1.ay (A.I P).2.2).2;split
   ·exact⟨w3,i3.ah iC⟩
   ·have⟨w4,i4⟩:=A3T (A:={ (A.I P).2.1 with Ac:=(PD.ao d (A.I P).2.1.Ac z ((A.I P).2.1.ay (A.I P).2.2).2).2.1}) w3 i3 (PD.ao d (A.I P).2.1.Ac z ((A.I P).2.1.ay (A.I P).2.2).2).2.2.1 iC iC;split
    ·exact⟨w4,i4⟩
    ·exact A3f w4 i4
def Vt(h:BD P k)(J:Jn):BD (J.aw P).2.2 (k+1):=h.bQ (Nu P J).1
def A3Y(h:BD P k)(x:gE)(l:Bs):BD (P.au x l).2 k:=by
 cases hx:lookup P.D.A6 x with
 | none=>
  have e:(P.au x l).2=P:=by unfold PD.au BA;rw[hx]
  rw[e];exact h
 | some g=>
  have⟨a1,a2,a3,_⟩:=Je l hx;exact λf d=>h f (PH a1 a2 a3 f d)
def A3W(h:BD P k)(p:Pu):BD (A.af P p).2.2.2 (k+1):=by
 have d:∀(J:Jn) {Q:PD} {k:Nat},BD Q k->BD (J.az Q p).2.2.2 k:=λJ Q k z=>by
  unfold Jn.az;split
  ·exact z
  ·exact A3Y z _ _
 unfold Ar.af;split
 ·exact h.I.ah iC
 ·dsimp only
  unfold Jn.af;split
  ·split
   ·exact Vt h.I _
   ·exact d _ (Vt h.I _)
  ·exact(d _ h.I).ah iC
def A3V(h:BD P k):BD (A.ae P).2.2 k:=by
 have d:BD (A.I P).2.2 k:=h.I;have z:∀J:Jn,BD (J.ae (A.I P).2.2).2 k:=λJ=>by
  unfold Jn.ae;split
  ·exact d
  ·exact d.ae _
 unfold Ar.ae;split
 ·exact d
 ·split
  ·exact z _
  ·exact(z _).aI
end
def Cu(t:Nat):Int×Int:=(t,700000*(t:Int))
def HS{t d:Nat}(h:t<=d):Ip (Cu t) (Cu d):=⟨by simp only[Cu];omega,by simp only[Cu];omega⟩
structure PB (P:PD) (t:Nat):Prop where
 D8:Fit P (3*t+20) (3000000*(t+1)) (40*t+1000)
 Aq:BD P (700000*(t+1))
 refQ:0<=P.D.n.Bm/\P.D.n.Bm<=t
 JM:0<=P.D.n.fulls/\P.D.n.fulls<=t
def PB.ah{P:PD}{t d:Nat}(h:PB P t)(ht:t<=d):PB P d:=
 ⟨h.D8.ah iC iC iC,h.Aq.ah iC,by have:=h.refQ;omega,by have:=h.JM;omega⟩
def Ib(P:PD)(e:Int)(P':PD):Prop:=(e=0/\P'.D.n.Bm=P.D.n.Bm/\P'.D.n.fulls=P.D.n.fulls/\P'.D.n.Bh=P.D.n.Bh)\/
 (e=5/\P'.D.n.Bm=P.D.n.Bm+1/\P'.D.n.fulls=P.D.n.fulls)\/(e=6/\P'.D.n.Bm=P.D.n.Bm+1/\P'.D.n.fulls=P.D.n.fulls+1/\P'.D.n.Bh=P.D.n.Bh)
section
variable{bd:Int×Int}{P P':PD}{A:Ar}{sg cl:gF (Int×gF Pu)}{ol:Option (gF Pu)}{pd:gF Pu}{Ad:Nat}{o:Int}{t:Nat}
def CC.dC{e:Int}(h:CC P.D.n e P'.D.n)(z:PB P t)(ht:t<=330000)(he:e=0\/e=5\/e=6):Ib P e P':=by
 have h1:=z.refQ;have h2:=z.JM;have E:wrap64 (P.D.n.Bm+1)=P.D.n.Bm+1:=by unfold wrap64;omega
 have I:wrap64 (P.D.n.fulls+1)=P.D.n.fulls+1:=by unfold wrap64;omega
 rcases h with⟨a,b,c,d,f⟩|⟨a,b,c⟩|⟨a,b,c,d⟩
 ·exact .inl ⟨iC,c,d,f⟩
 ·exact .inr (.inl ⟨a,b.trans E,c⟩)
 ·exact .inr (.inr ⟨a,b.trans E,c.trans I,d⟩)
def Ib.refQ{e:Int}(h:Ib P e P')(d:PB P t):(0<=P'.D.n.Bm/\P'.D.n.Bm<=(t+1:Nat))/\0<=P'.D.n.fulls/\P'.D.n.fulls<=(t+1:Nat):=by
 have h1:=d.refQ;have h2:=d.JM;rcases h with⟨_,b,c,_⟩|⟨_,b,c⟩|⟨_,b,c,_⟩<;>rw[b,c]<;>omega
def Z0{l:gF Int}(d:l.Pairwise (· < ·)){t:Nat}(h:∀x∈l,1<=x/\x<=t):l.length<=t:=by
 have:=IW (l':=(List.range t).map λ(i:Nat)=>(i:Int)+1) (d.imp λh=>WA h) λx z=>by
  have⟨h1,h2⟩:=h x z;exact Cn.2 ⟨(x-1).toNat,KT.2 iC,iC⟩
 simpa using this
structure W2 (A:Ar) (P:PD) (sg cl:gF (Int×gF Pu)) (ol:Option (gF Pu)) (t:Nat):Prop where
 j:0<=A.j.Ac/\A.j.Ac<=t
 jn:isNum (A.j.Ac+1)=true
 s:0<=A.Ac/\A.Ac<=700000*(t:Int)
 Ao:A.j.Ao.length<=t
 sd:A.ix.sd.length<=t/\sg.length<=t
 C9:(Bk sg cl ol).length<=t/\(Ax cl++ol.getD []).length<=t
 Az:P.Az.length<=3*t+20
 Iz:A.Az.length<=2*t+1
def SI.bM(h:SI (Cu t) A P pd Ad o sg cl ol)(hp:PB P t)(hl:pd.length<=t)(ht:t<=330000):W2 A P sg cl ol t:=by
 have h1:=h.AZ.F9.1;have L:=h.Ey.2.1;have h3:=h.AZ.EO.1;have O:=h.Ey.2.2;simp only[Cu]at L O;have hall:=h.C9.2.2;have h5:(Bk sg cl ol).length=(Ax sg).length+(Ax cl++ol.getD []).length:=by unfold Bk;rw[B3]
 have hseg:sg.length<=(Ax sg).length:=by
  have:=I7 (ws:=sg.map (·.2)) λw hw=>by
   obtain⟨x,d,rfl⟩:=Cn.1 hw;exact h.Ey.1.2.2 x d
  rw[Fx]at this;unfold Ax;rw[NW];exact this
 have hsl:A.ix.sd.length=sg.length:=by rw[<-h.AZ.sd,Fx]
 have z:A.j.Ao.length<=t:=by
  refine Z0 h.AZ.HQ λx d=>?_;rw[h.AZ.bX]at d;have Y:∀y∈cl,1<=y.1/\y.1<=t:=λy E=>by
   have q:=(h.AZ.D7 y E).1;have X:=q.1;unfold isNum at X;simp at X;have:=q.2;omega
  cases ol with
  | none=>
   obtain⟨y,E,rfl⟩:=Cn.1 d;exact Y y E
  | some l=>
   unfold shut at d;rw[EM]at d;rcases AX.1 d with d|d
   ·obtain⟨y,E,rfl⟩:=Cn.1 d;exact Y y E
   ·simp at d;have q:=h.AZ.AB.2.2.2.2;unfold isNum at q;simp at q;omega
 have I:P.Az.length<=3*t+20:=by rw[Jb];exact hp.D8.A6
 refine⟨⟨h1,L⟩,by unfold isNum;simp;omega,⟨h3,O⟩,z,⟨iC,iC⟩,⟨iC,iC⟩,I,?_⟩;unfold Ar.Az;simp only[B3,CA,Fx];omega
end
structure St (t:Nat) (A:Ar) (P:PD) (pd:gF Pu) (Ad:Nat) (o:Int) (ro:Bool):Prop where
 pb:PB P t
 di:DI (Cu t) P pd Ad o
 rd:Reads (Cu t) P pd o
 si:ro=false->∃sg cl ol,SI (Cu t) A P pd Ad o sg cl ol/\A.AS.length<=3*t+20
 pu:∀p∈pd,Bo p
 Be:pd.length<=t
 le:Ad<=pd.length
 Bh:P.D.n.Bh=false
section
variable{P P':PD}{A A':Ar}{pd:gF Pu}{Ad:Nat}{o:Int}{t:Nat}{ro:Bool}
def Fs.bh{bd:Int×Int}{V:View}{z n:Int}{d:Nat}(h:Fs bd V pd Ad o n d)(E:o<=z):Fs bd V pd Ad z n d:=by
 obtain⟨ix,sg,cl,l,nb,c,L,I,O,r⟩:=h;exact⟨ix,sg,cl,l,nb,c,L,I,O.bh E,r⟩
def SI.bh{bd:Int×Int}{sg cl:gF (Int×gF Pu)}{ol:Option (gF Pu)}{z:Int}(h:SI bd A P pd Ad o sg cl ol)(d:o<=z):SI bd A P pd Ad z sg cl ol:=
 ⟨h.di.bh d,h.AZ,by have⟨nb,h1,h2,h3⟩:=h.I9;exact⟨nb,h1,h2.bh d,h3⟩,h.GM,λl e=>by
  have⟨f,h1,h2⟩:=h.AB l e
  exact⟨f,h1,λs E=>(h2 s E).imp id λq=>⟨q.1,q.2.bh d⟩⟩,h.Cw,h.Ey⟩
def St.bh{z:Int}(h:St t A P pd Ad o ro)(d:o<=z):St t A P pd Ad z ro:=
 ⟨h.pb,h.di.bh d,h.rd.bh d,λe=>by have⟨sg,cl,ol,h1,h2⟩:=h.si e;exact⟨sg,cl,ol,h1.bh d,h2⟩,h.pu,h.Be,h.le,h.Bh⟩
def St.ah{z:Nat}(h:St t A P pd Ad o ro)(d:t<=z):St z A P pd Ad o ro:=
 ⟨h.pb.ah d,h.di.aV (HS d),h.rd.aV (HS d),λe=>by have⟨sg,cl,ol,h1,h2⟩:=h.si e;exact⟨sg,cl,ol,h1.aV (HS d),iC⟩,h.pu,by have:=h.Be;omega,h.le,h.Bh⟩
def St.dc{q:gF Pu}(E:PB P t)(z:DI (Cu t) P q Ad o)(O:Reads (Cu t) P q o)(I:∀p∈q,Bo p)(L:q.length<=t)(h:Ad<=q.length)(d:P.D.n.Bh=false):St t A P q Ad o true:=
 ⟨E,z,O,λe=>(by cases e),I,L,h,d⟩
def St.af(h:St t A P pd Ad o false)(ht:t+1<=330000)(p:Pu)(O:Bo p):
 PB (A.af P p).2.2.2 (t+1)/\Ib P (A.af P p).2.1 (A.af P p).2.2.2/\DI (Cu (t+1)) (A.af P p).2.2.2 (pd++[p]) Ad o/\
  ((A.af P p).1=true->Reads (Cu (t+1)) (A.af P p).2.2.2 (pd++[p]) o)/\((A.af P p).1=false->DI (Cu (t+1)) (A.af P p).2.2.2 pd Ad o/\Reads (Cu (t+1)) (A.af P p).2.2.2 pd o)/\
  ((A.af P p).2.1=0->(A.af P p).1=true/\St (t+1) (A.af P p).2.2.1 (A.af P p).2.2.2 (pd++[p]) Ad o false)/\((A.af P p).2.1=6->P.D.n.Av-AV P.F P.D.A6<200):=by
 have⟨sg,cl,ol,hS,hll⟩:=h.si rfl;have Y:=hS.bM h.pb h.Be iC;have hj:=Y.j;have X:=hS.aV (HS (EW t));have⟨a1,a2,a3,a4⟩:=X.af (λ_=>⟨Y.jn,by simp only[Cu];omega⟩) p O;have z:=hS.fp (λ_=>Y.jn) p O iC;have d:=(A4a A P p).dC h.pb iC z;have⟨r1,r2⟩:=d.refQ h.pb;have L:PB (A.af P p).2.2.2 (t+1):=⟨(h.pb.D8.fW p).ah iC iC iC,(A3W h.pb.Aq p).ah iC,r1,r2⟩;have hlen:=h.Be;have hle:=h.le;refine⟨L,d,a1,a2,a3,λe=>?_,λe=>A3X e⟩;have⟨b1,b2,b3⟩:=a4 e;refine⟨b1,L,a1,a2 b1,λ_=>⟨sg,cl,_,b2,by rw[b3];simp⟩,λq I=>?_,by simp;omega,by simp;omega,?_⟩
 ·rcases AX.1 I with I|I
  ·exact h.pu q I
  ·simp at I;subst I;exact O
 ·rcases d with⟨_,_,_,E⟩|⟨E,_⟩|⟨E,_⟩
  ·rw[E];exact h.Bh
  ·rw[e]at E;cases E
  ·rw[e]at E;cases E
def St.ae(h:St t A P pd Ad o false)(ht:t+1<=330000):
 PB (A.ae P).2.2 (t+1)/\Ib P (A.ae P).1 (A.ae P).2.2/\DI (Cu (t+1)) (A.ae P).2.2 pd Ad o/\Reads (Cu (t+1)) (A.ae P).2.2 pd o/\
  ((A.ae P).1=0->St (t+1) (A.ae P).2.1 (A.ae P).2.2 pd pd.length o false)/\(A.ae P).1≠6:=by
 have⟨sg,cl,ol,hS,hll⟩:=h.si rfl;have I:=hS.aV (HS (EW t));have⟨⟨a1,a2⟩,a3⟩:=I.ae;have hcode:=hS.gx iC;have d:=(A39 A P).dC h.pb iC iC;have⟨r1,r2⟩:=d.refQ h.pb;have E:PB (A.ae P).2.2 (t+1):=⟨h.pb.D8.gk.ah iC iC iC,(A3V h.pb.Aq).ah iC,r1,r2⟩;have hlen:=h.Be;refine⟨E,d,a1,a2,λe=>?_,VA A P⟩;have⟨b1,b2,b3⟩:=a3 e;refine⟨E,b1.di,a2,λ_=>⟨sg,cl,ol,b1,by rw[b2];simp⟩,h.pu,iC,An _,?_⟩;rcases d with⟨_,_,_,z⟩|⟨z,_⟩|⟨z,_⟩
 ·rw[z];exact h.Bh
 ·rw[e]at z;cases z
 ·rw[e]at z;cases z
def PB.aG{sg cl:gF (Int×gF Pu)}{ol:Option (gF Pu)}(h:PB P t)(hn:Hz P)(Y:W2 A P sg cl ol t)(ht:t+1<=330000)(E:gF Int)(d:gF (gF Pu))(hk:E.length<=t)(hf:d.length<=t)(L:∀l∈d,l.length<=t)(O:(A.aG P E d).1=0\/(A.aG P E d).1=5\/(A.aG P E d).1=6):PB (A.aG P E d).2.2 (t+1)/\Ib P (A.aG P E d).1 (A.aG P E d).2.2:=by
 have z:=(A32 A P E d).dC h iC O;have⟨r1,r2⟩:=z.refQ h;have hc:=Y.Iz;have X:=h.D8.aG (A:=A) E d;have⟨w,i⟩:=Z4 (a:=3*(t+1)+20) (m:=40*(t+1)+1000) (A:=A) (h.D8.ah (a':=3*(t+1)+20) (m':=40*(t+1)+1000) iC (An _) iC).wd h.Aq hn E d iC (λl I=>by have:=L l I;omega) iC;exact⟨⟨(w.D8 X).ah (An _) iC (An _),i.ah iC,r1,r2⟩,z⟩
def St.aR{wa:Int}(h:St t A P pd Ad o false)(hw:BZ (AE wa))(ht:t+1<=330000):
 PB (A.aR P wa).2.2 (t+1)/\Ib P (A.aR P wa).1 (A.aR P wa).2.2/\DI (Cu (t+1)) (A.aR P wa).2.2 pd Ad o/\Reads (Cu (t+1)) (A.aR P wa).2.2 pd o/\
  ((A.aR P wa).1=0->St (t+1) (A.aR P wa).2.1 (A.aR P wa).2.2 pd pd.length o false):=by
 have⟨sg,cl,ol,hS,hll⟩:=h.si rfl;have E:=hS.bM h.pb h.Be iC;have⟨n1,n2⟩:=E.C9;have⟨n3,n4⟩:=E.sd;have n5:=E.Az;have n6:=E.Ao;have n7:=E.s;have aA:=hS.aV (HS (EW t));have⟨⟨a1,a2⟩,a3⟩:=aA.aR hw E.jn n1 iC iC (by simp only[Cu];omega) iC;have L:=hS.gp hw E.jn n1 iC iC iC;have hp:=hS.AZ.pd hS.Cw;have O:=Iy hw (Ax cl++ol.getD []);have hfl:=I7 O.ne;have hfl2:=O.Be;have e:A.aR P wa=A.aG P A.ix.sd (C3 wa (Ax cl++ol.getD [])):=by
  unfold Ar.aR;rw[hp,Af iE]
 have z:=h.pb.aG (A:=A) h.di.bj E ht A.ix.sd (C3 wa (Ax cl++ol.getD [])) n3 iC (λl hl=>by
  have:=(We hl).length_le
  omega) (by rw[<-e];exact L)
 rw[<-e]at z;obtain⟨X,d⟩:=z;have hlen:=h.Be;refine⟨X,d,a1,a2,λY=>?_⟩;have⟨sg',b1,b2,_⟩:=a3 Y;refine⟨X,b1.di,a2,λ_=>⟨sg',[],none,b1,by rw[b2];simp⟩,h.pu,iC,An _,?_⟩;rcases d with⟨_,_,_,I⟩|⟨I,_⟩|⟨I,_⟩
 ·rw[I];exact h.Bh
 ·rw[Y]at I;cases I
 ·rw[Y]at I;cases I
def St.aM{wa:Int}(h:St t A P pd Ad o false)(hw:BZ (AE wa))(ht:t+1<=330000):
 PB (A.aM P wa o).2.2 (t+1)/\Ib P (A.aM P wa o).1 (A.aM P wa o).2.2/\DI (Cu (t+1)) (A.aM P wa o).2.2 pd Ad o/\Reads (Cu (t+1)) (A.aM P wa o).2.2 pd o/\
  ((A.aM P wa o).1=0->St (t+1) (A.aM P wa o).2.1 (A.aM P wa o).2.2 pd pd.length o false):=by
 have⟨sg,cl,ol,hS,hll⟩:=h.si rfl;have I:=hS.bM h.pb h.Be iC;have⟨n1,n2⟩:=I.C9;have⟨n3,n4⟩:=I.sd;have n5:=I.Az;have n6:=I.Ao;have n7:=I.s;have aB:=hS.aV (HS (EW t));have⟨⟨a1,a2⟩,a3⟩:=aB.aM hw I.jn n1 iC iC (by simp only[Cu];omega) iC;have O:=hS.gj hw I.jn n1 iC iC iC;have hp:=hS.AZ.pd hS.Cw;have X:=Iy hw (Bk sg cl ol);have hfl:=I7 X.ne;have hfl2:=X.Be;have L:=LC sg o (C3 wa (Bk sg cl ol));have aA:=L.length_eq;have hal:(Ei o (C3 wa (Bk sg cl ol))).length<=(C3 wa (Bk sg cl ol)).length:=KW _ _;rw[B3,Fx]at aA;have hks:(BY sg o (C3 wa (Bk sg cl ol))).1.length=(Hd sg o (C3 wa (Bk sg cl ol))).length:=by rw[LD,Fx]
 have e:A.aM P wa o=A.aG P ((BY sg o (C3 wa (Bk sg cl ol))).1.mergeSort λx y=>decide (x<=y)) (BY sg o (C3 wa (Bk sg cl ol))).2:=by
  unfold Ar.aM;rw[hS.AZ.cu];dsimp only
  have z:sg.flatMap (·.2)++(P.pd A.j.Ao).1=Bk sg cl ol:=by rw[hp];rfl
  rw[z,hp,Af iE]
 have E:=h.pb.aG (A:=A) h.di.bj I ht ((BY sg o (C3 wa (Bk sg cl ol))).1.mergeSort λx y=>decide (x<=y)) (BY sg o (C3 wa (Bk sg cl ol))).2 (by rw[Qz];omega) iC (λl hl=>by
  have:=(We (Ky hl)).length_le
  omega) (by rw[<-e];exact O)
 rw[<-e]at E;obtain⟨Y,d⟩:=E;have hlen:=h.Be;refine⟨Y,d,a1,a2,λe0=>?_⟩;have⟨sg',b1,b2,_⟩:=a3 e0;refine⟨Y,b1.di,a2,λ_=>⟨sg',[],none,b1,by rw[b2];simp⟩,h.pu,iC,An _,?_⟩;rcases d with⟨_,_,_,z⟩|⟨z,_⟩|⟨z,_⟩
 ·rw[z];exact h.Bh
 ·rw[e0]at z;cases z
 ·rw[e0]at z;cases z
def St.du{wa ld A8:Int}(h:St t A P pd Ad (AN A8 ld) false)(E:BZ (AE wa))(ht:t+1<=330000)(z:(A.aM P wa (AN A8 ld)).1=0):
 AV (A.aM P wa (AN A8 ld)).2.2.F (A.aM P wa (AN A8 ld)).2.2.D.A6<=300+150*F8 ld wa A8 pd pd.length:=by
 have⟨sg,cl,ol,hS,hll⟩:=h.si rfl;have d:=hS.bM h.pb h.Be iC;have⟨n1,n2⟩:=d.C9;have⟨n3,n4⟩:=d.sd;have n5:=d.Az;have n6:=d.Ao;have n7:=d.s;exact(hS.aV (HS (EW t))).du E d.jn n1 iC iC (by simp only[Cu];omega) iC (λp I=>(h.pu p I).2.1) z
def St.aT(d:PB P t)(I:DI (Cu t) P pd Ad o)(L:Reads (Cu t) P pd o)(O:∀p∈pd,Bo p)(X:pd.length<=t)(z:Ad<=pd.length)(h:P.D.n.Bh=false)(ht:t<=330000):
 ∃A E,Ar.aT P=.ok (A,E)/\St t A P pd Ad o false/\C4 o E pd/\(∀p∈E,Bo p):=by
 have⟨A',sg,cl,h1,h2,h3,h4⟩:=SI.aT I (by simp only[Cu];omega) L z iC;refine⟨A',_,h1,⟨d,I,L,λ_=>⟨sg,cl,none,h2,?_⟩,O,X,z,h⟩,h3,λp d=>?_⟩
 ·rw[h4];have h5:(A'.aX P).length<=P.Az.length:=KW _ _;have h6:P.Az.length<=3*t+20:=by rw[Jb];exact d.D8.A6
  omega
 ·rcases AX.1 d with d|d
  ·exact h2.AZ.dh p d
  ·exact h2.AZ.b5 p d
def PB.bR(h:PB P t)(n:DN)(E:n.Av=P.D.n.Av)(d:0<=n.BG/\n.BG<=9223372036854775807)(I:n.Bm=P.D.n.Bm)(z:n.fulls=P.D.n.fulls):PB ⟨{P.D with n:=n},P.F⟩ t:=
 ⟨⟨h.D8.A6,h.D8.AG,h.D8.G6,h.D8.Am,h.D8.Be,by rw[E];exact h.D8.Av,d⟩,h.Aq,by rw[I];exact h.refQ,by rw[z];exact h.JM⟩
def St.bR(h:St t A P pd Ad o ro)(n:DN)(E:n.Av=P.D.n.Av)(d:0<=n.BG/\n.BG<=9223372036854775807)(L:n.Bm=P.D.n.Bm)(z:n.fulls=P.D.n.fulls)(I:n.Bh=P.D.n.Bh):St t A ⟨{P.D with n:=n},P.F⟩ pd Ad o ro:=
 ⟨h.pb.bR n E d L z,⟨h.di.E6,h.di.Aq,h.di.Ck,h.di.CG⟩,h.rd.av λ_=>rfl,λe=>by
  have⟨sg,cl,ol,q,hl⟩:=h.si e
  exact⟨sg,cl,ol,⟨⟨q.di.E6,q.di.Aq,q.di.Ck,q.di.CG⟩,q.AZ.av λ_=>rfl,q.I9,q.GM,q.AB,q.Cw,q.Ey⟩,hl⟩,h.pu,h.Be,h.le,I.trans h.Bh⟩
def EN(t:Nat)(P:PD)(pd:gF Pu)(Ad:Nat)(o:Int)(fell:Bool):Prop:=
 PB P t/\DI (Cu t) P pd Ad o/\(∀p∈pd,Bo p)/\pd.length<=t/\Ad<=pd.length/\
  (P.D.n.Bh=true\/∃n0,Ad<=n0/\n0<=pd.length/\(fell=false->n0=pd.length)/\∀d n,o<=d->n0<=n->n<=pd.length->C4 d (pd.take n0) (pd.take n)->DI (Cu t) P (pd.take n) Ad d/\Reads (Cu t) P (pd.take n) d)
def St.gq(h:St t A P pd Ad o ro)(fell:Bool):EN t P pd Ad o fell:=
 ⟨h.pb,h.di,h.pu,h.Be,h.le,.inr ⟨pd.length,h.le,An _,λ_=>rfl,λo' n d h2 h3 _=>by
  have e:n=pd.length:=iC
  subst e;rw[C5]
  exact⟨h.di.bh d,h.rd.bh d⟩⟩⟩
def A2P(h:PB P t)(hd:DI (Cu t) P pd Ad o)(da:Int)(d:gF Int):PB (P.a6 da d) t:=by
 have E:=Va P.D da;generalize X:Gx P.D da=s at E;have L:(P.a6 da d).D.A6=s:=by unfold PD.a6 Fm;dsimp only;exact X
 have aD:(P.a6 da d).D.AG=s:=by unfold PD.a6 Fm;dsimp only;exact X
 have Y:(P.a6 da d).D.As=[]:=rfl;have O:∀e∈s,P.D.Aq e.2:=λe z=>by
  rcases BS.1 E with E|E
  ·rw[E]at z;exact .inr (.inl ⟨e,z,rfl⟩)
  ·exact .inr (.inr ⟨s,E,e,z,rfl⟩)
 have I:∀f,(P.a6 da d).D.Aq f->P.D.Aq f/\∃e∈s,e.2=f:=λf hf=>by
  rcases hf with⟨e,z,rfl⟩|⟨e,z,rfl⟩|⟨l,hl,_⟩
  ·rw[L]at z;exact⟨O e z,e,z,rfl⟩
  ·rw[aD]at z;exact⟨O e z,e,z,rfl⟩
  ·rw[Y]at hl;cases hl
 have aA:s.length<=3*t+20:=by
  rcases BS.1 E with E|E
  ·rw[E];exact h.D8.AG
  ·exact h.D8.G6 s E
 have hr:∀e∈s,0<=(P.F e.2).2/\(P.F e.2).2<=(P.F e.2).1.length:=λe z=>by
  have⟨ix,sg,cl,lo,nb,hL,_⟩:=hd.E6 s E;have hv:vw P.F s e.1.data.toList=some (P.F e.2):=by
   unfold vw;rw[G4];cases hk:lookup s e.1 with
   | none=>exact absurd rfl (J1.1 hk e z)
   | some g=>
    have⟨i,hi,e1⟩:=DD (Eo hk);have⟨j,hj,e2⟩:=DD z;have:i=j:=JC (hd.Ck s E) (by simpa using hi) (by simpa using hj) (by simp[e1,e2]);subst this;rw[e1]at e2;rw[<-e2];rfl
  exact hL.El _ _ hv
 refine⟨⟨by rw[L];exact aA,by rw[aD];exact aA,λl hl=>(by rw[Y]at hl;cases hl),(by rw[Y];simp),λf hf=>?_,h.D8.Av,h.D8.BG⟩,λf hf=>h.Aq f (I f hf).1,h.refQ,h.JM⟩;obtain⟨h1,e,z,rfl⟩:=I f hf;have hF:(P.a6 da d).F=Eg s d (dList s) P.F s.length:=by unfold PD.a6 Fm;dsimp only;rw[X]
 rw[hF];have aB:=h.D8.Be _ h1;rcases V8 s d (dList s) P.F hr s.length e z with⟨q,_⟩|⟨x,q⟩
 ·rw[q];exact aB
 ·rw[q];have⟨j,_,_,j3⟩:=Q7 (hr e z) x;rw[j3];simp only[BK];omega
def EN.a6(E:PB P t)(z:DI (Cu t) P pd Ad o)(L:∀p∈pd,Bo p)(O:pd.length<=t)(h:Ad<=pd.length)(ht:t<=330000)(da:Int)(d:gF Int):
 EN t (P.a6 da d) pd Ad o true/\(P.a6 da d).D.n.Bh=false:=by
 have⟨h1,n,h2,h3,h4⟩:=z.a6 da d iC;exact⟨⟨A2P E z da d,h1,L,O,h,.inr ⟨n,h2,h3,λe=>(by cases e),λY m X _ _ I=>h4 Y _ X I⟩⟩,rfl⟩
def EN.bh{d:Int}{fell:Bool}(h:EN t P pd Ad o fell)(ho:o<=d):EN t P pd Ad d fell:=by
 obtain⟨O,z,h3,L,X,h6⟩:=h;refine⟨O,z.bh ho,h3,L,X,h6.imp id ?_⟩;rintro⟨n0,g1,E,g3,g4⟩;exact⟨n0,g1,E,g3,λY n k1 k2 I k4=>g4 Y n iC k2 I k4⟩
def EN.ah{z:Nat}{fell:Bool}(h:EN t P pd Ad o fell)(d:t<=z):EN z P pd Ad o fell:=by
 obtain⟨X,I,h3,h4,Y,h6⟩:=h;refine⟨X.ah d,I.aV (HS d),h3,iC,Y,h6.imp id ?_⟩;rintro⟨n0,g1,L,g3,g4⟩
 exact⟨n0,g1,L,g3,λo2 n E k2 O k4=>by
  have⟨q1,q2⟩:=g4 o2 n E k2 O k4
  exact⟨q1.aV (HS d),q2.aV (HS d)⟩⟩
def EN.bR{fell:Bool}(h:EN t P pd Ad o fell)(n:DN)(h1:n.Av=P.D.n.Av)(L:0<=n.BG/\n.BG<=9223372036854775807)(h3:n.Bm=P.D.n.Bm)(X:n.fulls=P.D.n.fulls)(h5:n.Bh=P.D.n.Bh):EN t ⟨{P.D with n:=n},P.F⟩ pd Ad o fell:=by
 obtain⟨g1,z,g3,g4,g5,E⟩:=h;refine⟨g1.bR n h1 L h3 X,⟨z.E6,z.Aq,z.Ck,z.CG⟩,g3,g4,g5,?_⟩;rcases E with E|⟨n0,I,k2,O,k4⟩
 ·exact .inl (h5.trans E)
 ·refine .inr ⟨n0,I,k2,O,λo2 n2 Y q2 q3 q4=>?_⟩;have⟨d,r⟩:=k4 o2 n2 Y q2 q3 q4;exact⟨⟨d.E6,d.Aq,d.Ck,d.CG⟩,r.av λ_=>rfl⟩
end
end
section
variable{P:PD}{A:Ar}{J:Jn}{nm oe:gE}
def S3(P:PD):P.aI.2.D.n.Av=P.D.n.Av:=by
 unfold PD.aI Ef;dsimp only
 split<;>exact IA _
def S7(P:PD)(nm:gE):(P.aF nm).2.D.n.Av=P.D.n.Av:=by
 unfold PD.aF DB;split
 ·rfl
 ·dsimp only
  split<;>exact IA _
def YO(P:PD)(oe nm:gE):(P.aQ oe nm).2.D.n.Av=P.D.n.Av:=by
 unfold PD.aQ Da;split
 ·rfl
 ·split
  ·rfl
  ·dsimp only
   split<;>exact IA _
def OB(P:PD)(nm:gE)(s:Nat)(l:Bs):(P.af nm s l).2.2.D.n.Av=P.D.n.Av:=Sb P nm (AT s l)
def MH(P:PD)(nm:Bs)(s:Nat)(l:Bs):(P.aH nm s l).2.D.n.Av=P.D.n.Av:=by
 unfold PD.aH;split
 ·exact Kn P _
 ·split
  ·exact(OB _ _ _ _).trans (Kn P _)
  ·exact(MI _ _).trans ((OB _ _ _ _).trans (Kn P _))
def MJ:∀(l:gF Bs) (P:PD),(PD.aN l P).2.D.n.Av=P.D.n.Av
 | [],_=>rfl
 | nm::r,P=>by
  unfold PD.aN;split
  ·exact S7 P _
  ·exact(MJ r _).trans (S7 P _)
def S8(J:Jn)(P:PD)(p:Pu):(J.az P p).2.2.2.D.n.Av=P.D.n.Av:=by
 unfold Jn.az;split
 ·rfl
 ·exact OB P _ _ _
def YR(J:Jn)(P:PD)(p:Pu):(J.af P p).2.2.2.D.n.Av=P.D.n.Av:=by
 unfold Jn.af;split
 ·split
  ·exact OD J P
  ·exact(S8 _ _ p).trans (OD J P)
 ·exact S8 J P p
def YW(A:Ar)(P:PD)(p:Pu):(A.af P p).2.2.2.D.n.Av=P.D.n.Av:=by
 unfold Ar.af;split
 ·exact Km A P
 ·exact(YR _ _ p).trans (Km A P)
def YQ(J:Jn)(P:PD):(J.ae P).2.D.n.Av=P.D.n.Av:=by
 unfold Jn.ae;split
 ·rfl
 ·exact MI P _
def YV(A:Ar)(P:PD):(A.ae P).2.2.D.n.Av=P.D.n.Av:=by
 unfold Ar.ae;split
 ·exact Km A P
 ·have h:=(YQ (A.I P).2.1.j (A.I P).2.2).trans (Km A P);split
  ·exact h
  ·exact(S3 _).trans h
def S9:∀(z:gF (gF Pu)) (h:Int) (d:gF Int) (P:PD),(PD.ao z h d P).2.2.2.D.n.Av=P.D.n.Av
 | [],_,_,_=>rfl
 | l::r,h,d,P=>by
  unfold PD.ao;split
  ·exact MH P _ _ _
  ·exact(S9 r _ _ _).trans (MH P _ _ _)
def YP(P:PD)(d:Int)(sd:gF Int):(P.al d sd).2.D.n.Av=P.D.n.Av:=by
 unfold PD.al;split
 ·exact MH P _ _ _
 ·exact(YO _ _ _).trans (MH P _ _ _)
def Sa(A:Ar)(P:PD)(sd:gF Int):(A.al P sd).2.2.D.n.Av=P.D.n.Av:=by
 have:=YP P (A.j.Ac+1) sd;unfold Ar.al;split
 ·rfl
 ·split<;>exact this
def YU(A:Ar)(P:PD):(A.a8 P).2.2.D.n.Av=P.D.n.Av:=by
 unfold Ar.a8;split
 ·exact MJ _ P
 ·exact(S3 _).trans (MJ _ P)
def S6(A:Ar)(P:PD)(I:gF Int)(E:gF (gF Pu)):(A.aG P I E).2.2.D.n.Av=P.D.n.Av:=by
 unfold Ar.aG;dsimp only
 have h:=Km A P;have z:((A.I P).2.1.ay (A.I P).2.2).2.D.n.Av=P.D.n.Av:=(MJ _ _).trans h;have d:∀l k,(PD.ao E l k ((A.I P).2.1.ay (A.I P).2.2).2).2.2.2.D.n.Av=P.D.n.Av:=λl k=>(S9 _ _ _ _).trans z
 split
 ·exact h
 ·split
  ·exact z
  ·split
   ·exact d _ _
   ·split
    ·exact(Sa _ _ _).trans (d _ _)
    ·exact(YU _ _).trans ((Sa _ _ _).trans (d _ _))
def YS(A:Ar)(P:PD)(wa:Int):(A.aR P wa).2.2.D.n.Av=P.D.n.Av:=by
 unfold Ar.aR;split
 ·rfl
 ·exact S6 _ _ _ _
def YT(A:Ar)(P:PD)(wa o:Int):(A.aM P wa o).2.2.D.n.Av=P.D.n.Av:=by
 unfold Ar.aM;split
 ·rfl
 ·split
  ·rfl
  ·exact S6 _ _ _ _
end
def De(room:Int):PD:=⟨⟨[],[],[],GO room⟩,λ_=>([],0)⟩
section
variable{room:Int}{o:Int}
def UB:Db (Cu 0) (vw (De room).F []) ⟨1,[]⟩ [] [] none:=by
 have d:∀nm,vw (De room).F [] nm=none:=λnm=>rfl;refine⟨⟨⟨iF,iE,iF⟩,by simp[Cu],iE⟩,.inl ⟨rfl,rfl⟩,rfl,iE,iE,trivial,?_,iE,?_,?_,?_⟩
 ·intro n l h;cases h
 ·intro n _ _ h;exact absurd (d _) h
 ·intro nm h;exact absurd (d nm) h
 ·intro nm c h;rw[d]at h;cases h
def UC(f:Nat):¬(De room).D.Aq f:=λh=>by
 simp[DS.Aq,De,Dr]at h
def A10(hr : -4611686018427387904<=room/\room<=9223372036854775807):PB (De room) 0:=by
 refine⟨⟨Cb _,Cb _,?_,Cb _,λf d=>absurd d (UC f),hr,⟨II _,by simp[De,GO]⟩⟩,λf d=>absurd d (UC f),⟨II _,II _⟩,⟨II _,II _⟩⟩;intro l h;cases h
def UE:DI (Cu 0) (De room) [] 0 o:=by
 have d:∀s∈BB (De room),s=[]:=λs d=>by simpa[BB,De] using d
 refine⟨λs h=>?_,λs h=>?_,λs h=>?_,by simp[BB,De]⟩
 ·rw[d s h];refine⟨⟨1,[]⟩,[],[],none,0,UB,An _,C4.C _ _,?_,λ_=>An _⟩;intro n l e;cases e
 ·rw[d s h];exact List.Pairwise.nil
 ·rw[d s h];exact List.Pairwise.nil
def A1Z:Reads (Cu 0) (De room) [] o:=Whole.bz (P:=De room) ⟨⟨1,[]⟩,[],[],none,UB,Cb _,C4.C _ _⟩
def A12(hr : -4611686018427387904<=room/\room<=9223372036854775807):EN 0 (De room) [] 0 o false:=by
 refine⟨A10 hr,UE,?_,An _,An _,.inr ⟨0,An _,An _,λ_=>rfl,?_⟩⟩
 ·intro p d;cases d
 ·intro o' n _ _ h _;obtain rfl:n=0:=by simpa using h
  exact⟨UE,A1Z⟩
def PK(room:Int)(nm:Bs):(De room).bs nm=none:=rfl
def UD{room:Int}(h:0<=room/\room<=9223372036854775807):Fit (De room) 1 1 1:=
 ⟨by simp[De],by simp[De],λl d=>by simp[De]at d,by simp[De],λf _=>by simp[De],by simp only[De,GO];omega,by simp[De,GO]⟩
def A11{room:Int}{N R:Nat}(hN:N<=4611686018427387904)(hR:(R:Int)<=room):Cm (De room) N R:=
 ⟨rfl,rfl,rfl,by simp only[De,GO];omega,by simp only[De,GO,AV];omega,by simp[De],by simp[De]⟩
def PJ(room:Int):Ar.aT (De room)=.ok (⟨⟨1,[]⟩,⟨[],0,0,none⟩,0,[]⟩,[]):=by
 unfold Ar.aT;rw[PC (PK room AJ)];rfl
end
section
open Go.RowKit
attribute [local go_sem ↓] CL
section
variable{α:Type}{lt:α->α->Bool}
def H0(lt:α->α->Bool)(a b:Nat)(l l':gF α):Prop:=l'.length=l.length/\B6 lt ((l'.drop a).take (b-a))/\∀p q,p+q<=a\/b<=p->(l'.drop p).take q=(l.drop p).take q
def TD{A M M' Z:gF α}(h:M'.length=M.length)(d:B6 lt M'):H0 lt A.length (A.length+M.length) (A++M++Z) (A++M'++Z):=by
 refine⟨by simp[h],?_,λp q hp=>?_⟩
 ·rw[A2F rfl iC (λhx=>iC)];exact d
 ·exact(A2E h p q iC)
def EY.aZ{l l':gF α}{C j b:Nat}(h:EY lt C (λi=>i<j) l)(z:H0 lt (j*C) b l l')(I:b=j*C+C\/(b=l.length/\l.length<=j*C+C))(hj:j*C<=l.length):EY lt C (λi=>i<j+1) l':=λi d=>by
 rcases Nat.lt_or_eq_of_le (Qu d) with d|rfl
 ·rw[z.2.2 _ _ (.inl ?_)]
  ·exact h i d
  ·have:=Ih C (show i+1<=j from d);rw[Ii]at this;omega
 ·have E:=z.2.1;rcases I with rfl|⟨rfl,I⟩
  ·rwa [A4E]at E
  ·have e:(l'.drop (i*C)).take C=(l'.drop (i*C)).take (l.length-i*C):=by
    rw[Eu (by rw[Cz,z.1];omega),Eu (by rw[Cz,z.1];omega)]
   rw[e];exact E
def EY.gn{l l':gF α}{B a b j:Nat}(h:EY lt B (λi=>j<=i) l)(E:H0 lt a b l l')(z:b<=j*B):EY lt B (λi=>j<=i) l':=λi d=>by
 rw[E.2.2 _ _ (.inr (AO z (Ih B d)))];exact h i d
def EY.eg{l:gF α}{C j:Nat}(h:EY lt C (λi=>i<j) l)(z:l.length<=j*C):EY lt C (λ_=>True) l:=λi _=>by
 rcases Fg i j with d|d
 ·exact h i d
 ·rw[NY (AO z (Ih C d)),List.take_nil];exact List.Pairwise.nil
def H0.av{l:gF α}{a b:Nat}(h:B6 lt ((l.drop a).take (b-a))):H0 lt a b l l:=⟨rfl,h,λ_ _ _=>rfl⟩
def LV{l:gF α}{a q r:Nat}(h:B6 lt ((l.drop a).take q))(d:r<=q):B6 lt ((l.drop a).take r):=by
 have:=h.cg r
 rwa [KQ,JY d]at this
end
def Yd{n B C:Nat}(hn:n<=4294967296)(hB:B<=n)(hC:2*B=C):
 wrap64 (2*(B:Int))=(C:Int)/\IntKind.i64.wrap (2*(B:Int))=(C:Int)/\wrap64 ((B:Int)*2)=(C:Int)/\IntKind.i64.wrap ((B:Int)*2)=(C:Int):=by
 have d:=H6 (x:=2*(B:Int)) (k:=C) iC iC;have h:=H6 (x:=(B:Int)*2) (k:=C) iC iC;exact⟨d.1,d.2,h.1,h.2⟩
def A0K{n b c:Nat}(h:b<=n)(hc:b+20=c):n+21-(intOf (A0 (c:Int))).toNat<n+21-(intOf (A0 (b:Int))).toNat:=by simp[intOf];omega
def A0J{n b c C:Nat}(h:b<=n)(hC:20<=C)(hc:b+C=c):n+C+1-(intOf (A0 (c:Int))).toNat<n+C+1-(intOf (A0 (b:Int))).toNat:=by simp[intOf];omega
def TT{n B C:Nat}(h:B<n)(hB:20<=B)(hC:2*B=C):n-(intOf (A0 (C:Int))).toNat<n-(intOf (A0 (B:Int))).toNat:=by simp[intOf];omega
def A3B(a:Nat){B:Nat}(h:20<=B):a<a+B/\a+B<a+2*B/\a+B-a<=B/\a+2*B-(a+B)<=B/\20<=2*B:=iC
def A2n{a B n:Nat}(h:¬a+2*B<=n):n<=a+2*B/\n-(a+B)<=B/\(¬a+B<n->n-a<=B):=iC
section
variable{w w':gC}{g cap n wb:Nat}{len:Int}{l:gF Pu}
def Way(g cap n:Nat)(len:Int)(l:gF Pu)(w h:gC)(d:gF Pu):Prop:=h.ownsRow 0 113 3 (.slice (some ⟨g,0,none⟩) n cap) n (B5 d)/\d.length=n/\Bt (AE len) l d/\A4 (One g) w h
def Xb(hT:∀p∈l,Ay p.2.1)(hl:1<=len/\len<=4611686018427387904)(hw:A7 w wb 0 (A0 len))(L:wb≠g)(O:n<=4294967296)(wx:gC)(d:gF Pu)(a b:Nat)(I:a<b)(hb:b<=n)(h:Way g cap n len l w wx d):
 Ag 243 #[AA g n cap,A0 a,A0 b,.func (Fn.func 155) #[] #[A5 wb]] wx (Aj (.tuple #[]) λw'=>∃E,Way g cap n len l w w' E/\H0 (AE len) a b d E):=by
 obtain⟨h1,h2,h3,h4⟩:=h;subst h2;refine(Uq wx g cap wb len d a b I hb h1 (λp hp=>hT p (h3.bH.DG (Gi len) hp)) hl (h4.bI hw λe=>L e) L O).k ?_;rintro w'⟨m,Y,q2,q3,q4,q5⟩;have hM:((d.drop a).take (b-a)).length=b-a:=by rw[BK,Cz];omega
 have aA:(d.take a).length=a:=by rw[BK];omega
 have X:d=d.take a++(d.drop a).take (b-a)++d.drop b:=by
  have:=RJ d (Fu I) (An b);simpa using this
 have hN:=TD (lt:=AE len) (A:=d.take a) (Z:=d.drop b) (q2.trans hM.symm) q4;rw[<-X,aA,hM,show a+(b-a)=b by omega]at hN;have z:=hN.1;refine⟨rfl,d.take a++m++d.drop b,⟨?_,z,?_,h4.tr q5⟩,hN⟩
 ·unfold B1 at Y;rw[z]at Y;exact Y
 ·refine h3.AF ?_;have e:(d.take b).drop a=(d.drop a).take (b-a):=List.drop_take ..;rw[e]at q3;have:=((Bt.C (lt:=AE len) (d.take a)).au q3).au (Bt.C (d.drop b))
  rwa [<-X]at this
def Xa(hT:∀p∈l,Ay p.2.1)(hl:1<=len/\len<=4611686018427387904)(hw:A7 w wb 0 (A0 len))(L:wb≠g)(X:n<=4294967296)(wx:gC)(d:gF Pu)(a m b:Nat)(aB:a<m)(aE:m<b)(hb:b<=n)(h:Way g cap n len l w wx d)(s1:B6 (AE len) ((d.drop a).take (m-a)))(s2:B6 (AE len) ((d.drop m).take (b-m))):
 Ag 244 #[AA g n cap,A0 a,A0 m,A0 b,.func (Fn.func 155) #[] #[A5 wb]] wx (Aj (.tuple #[]) λw'=>∃z,Way g cap n len l w w' z/\H0 (AE len) a b d z):=by
 obtain⟨h1,h2,h3,h4⟩:=h;have Y:=RJ d (Fu aB) (Fu aE);have lA:(d.take a).length=a:=by rw[BK];omega
 have E:((d.drop a).take (m-a)).length=m-a:=by rw[BK,Cz];omega
 have I:((d.drop m).take (b-m)).length=b-m:=by rw[BK,Cz];omega
 obtain⟨A,hA⟩:=iG (d.take a);obtain⟨U,hU⟩:=iG ((d.drop a).take (m-a));obtain⟨V,hV⟩:=iG ((d.drop m).take (b-m));obtain⟨Z,hZ⟩:=iG (d.drop b);rw[hA,hU,hV,hZ]at Y;rw[hA]at lA;rw[hU]at E s1;rw[hV]at I s2;subst Y;have aD:U≠[]:=λe=>by rw[e]at E;simp at E;omega
 have aA:V≠[]:=λe=>by rw[e]at I;simp at I;omega
 have:=Ry _ wx g cap n wb len A U V Z (An _) aD aA h2.symm h1 (λp O=>hT p (h3.bH.DG (Gi len) (by simp at O ⊢;rcases O with O|O<;>simp[O]))) s1 s2 hl (h4.bI hw λe=>L e) L X;rw[lA,E,I,show a+(m-a)=m by omega,show m+(b-m)=b by omega]at this;refine this.k ?_;rintro w'⟨M,q1,q2,q3,q4,q5⟩;have hN:=TD (lt:=AE len) (A:=A) (M:=U++V) (M':=M) (Z:=Z) (by rw[B3,E,I];exact q2) q3;have ee:A++(U++V)++Z=A++U++V++Z:=iE
 rw[ee,lA,B3,E,I,show a+(m-a+(b-m))=b by omega]at hN;refine⟨rfl,A++M++Z,⟨q1,hN.1.trans h2,h3.AF ?_,h4.tr q5⟩,hN⟩;have:=((Bt.C (lt:=AE len) A).au q4).au (Bt.C Z)
 rwa [ee]at this
def Yc(w:gC)(g cap wb:Nat)(len:Int)(l:gF Pu)(aA:l.length<=4294967296)(h:B1 w (AA g l.length cap) l)(hT:∀p∈l,Ay p.2.1)(hl:1<=len/\len<=4611686018427387904)(hw:A7 w wb 0 (A0 len))(aN:wb≠g):
 Ag 202 #[AA g l.length cap,A0 l.length,.func (Fn.func 155) #[] #[A5 wb]] w (Aj (.tuple #[]) λw'=>B1 w' (AA g l.length cap) (Ev (AE len) l)/\A4 (One g) w w'):=by
 obtain⟨n,hn⟩:=iG l.length;have h0:Hid (Way g cap n len l w w l):=by unfold B1 at h;rw[hn]at h;exact⟨h,hn,Bt.C _,A4.C _ _⟩
 rw[hn]at aA ⊢;have aT:Hid (∀wx z a b,a<b->b<=n->Way g cap n len l w wx z->_):=λwx z a b q1 q2 q3=>Xb hT hl hw aN aA wx z a b q1 q2 q3;have aM:Hid (∀wx z a m b,a<m->m<b->b<=n->Way g cap n len l w wx z->_->_->_):=λwx z a m b q1 q2 q3 q4 q5 q6=>Xa hT hl hw aN aA wx z a m b q1 q2 q3 q4 q5 q6;have aW:Hid (∀wx,Ag 243 #[AA g n cap,A0 n,A0 n,.func (Fn.func 155) #[] #[A5 wb]] wx (Aj (.tuple #[]) λw'=>wx=w')):=λwx=>Uo wx _ _ n n iC iC;have a6:Hid (∀B C,B<=n->2*B=C->_):=λB C q1 q2=>Yd (B:=B) (C:=C) aA q1 q2;have a8:Hid (∀a b c m B C:Nat,a<=n->B<=n->2*B=C->a+C=b->b+C=c->a+B=m->(wrap64 ((a:Int)+(B:Int))=(m:Int)/\IntKind.i64.wrap ((a:Int)+(B:Int))=(m:Int))/\(wrap64 ((b:Int)+(C:Int))=(c:Int)/\IntKind.i64.wrap ((b:Int)+(C:Int))=(c:Int))):=λa b c m B C q1 q2 q3 q4 q5 q6=>⟨H6 iC iC,H6 iC iC⟩
 have a5:Hid (∀a b c:Nat,a<=n->a+20=b->b+20=c->wrap64 ((b:Int)+20)=(c:Int)/\IntKind.i64.wrap ((b:Int)+20)=(c:Int)):=λa b c O Y hc=>H6 iC iC;have aZ:Hid (∀w' z,Way g cap n len l w w' z->B6 (AE len) z->B1 w' (AA g n cap) (Ev (AE len) l)/\A4 (One g) w w'):=λw' z q1 q2=>by
  obtain⟨a1,a2,a3,a4⟩:=q1;have e1:=(Gi len).eT q2 a3;refine⟨?_,a4⟩;unfold B1;rw[<-e1,a2];exact a1
 go_enter func202,ntmps202
 go_wp2;go_loopw [7,8] (λav bv wr=>∃(j:Nat) (z:gF Pu),av=A0 ((j*20:Nat):Int)/\bv=A0 ((j*20+20:Nat):Int)/\Hid (j*20<=n/\Way g cap n len l w wr z/\EY (AE len) 20 (λi=>i<j) z)) (λ_ bv _=>n+21-(intOf bv).toNat)
 ·exact⟨0,l,by go_num,by go_num,Cb _,h0.o,λi hi=>absurd hi (JX i)⟩
 ·obtain⟨j,z,rfl,rfl,hI⟩:=hrel;have⟨i1,i2,i3⟩:=hI.o;obtain⟨a,O⟩:=iG (j*20);obtain⟨b,Y⟩:=iG (a+20);obtain⟨c,hc⟩:=iG (b+20);have aB:(j+1)*20=b:=by rw[Ii,O];exact Y
  have aE:=A1 (And.intro O (And.intro aB hc));rw[O]at i1 ⊢;rw[Y];have⟨z1,z2⟩:=a5.o a b c i1 Y hc;have E:=i2.2.1;by_cases I:b<=n
  ·have aJ:=QJ.2 I;have a0:=A1 (aT.o wr z a b (by rw[<-Y];exact Nat.lt_add_of_pos_right iF) I i2);have K:Hid (∀d,H0 (AE len) a b z d->EY (AE len) 20 (λi=>i<j+1) d):=λd X=>i3.aZ (by rw[O];exact X) (.inl (by rw[O];exact Y.symm)) (by rw[O,E];exact i1);have aS:=A1 I;go_wp2_with (go_at_call 243;refine a0.k ?_;rintro w2⟨d,hW,X⟩;have aH:=A1 hW;have L:=A1 (K.o d X));go_roundw
   ·exact⟨j+1,d,by rw[aE.o.2.1],by rw[aE.o.2.1,aE.o.2.2],by rw[aE.o.2.1];exact aS.o,aH.o,L.o⟩
   ·exact A0K aS.o aE.o.2.2
  ·have aJ:¬((b:Int)<=(n:Int)):=λh=>I (QJ.1 h);have K:Hid (∀d,H0 (AE len) a n z d->EY (AE len) 20 (λ_=>True) d):=λd X=>(i3.aZ (by rw[O];exact X) (.inr ⟨E.symm,by rw[O,E];rw[Y];exact Fu (Nat.lt_of_not_le I)⟩) (by rw[O,E];exact i1)).eg (by rw[X.1,aB,E];exact Fu (Nat.lt_of_not_le I))
   have a0:Hid (Ag 243 #[AA g n cap,A0 a,A0 n,.func (Fn.func 155) #[] #[A5 wb]] wr (Aj (.tuple #[]) λw'=>∃d,Way g cap n len l w w' d/\H0 (AE len) a n z d)):=by
    by_cases aL:a<n
    ·exact aT.o wr z a n aL (An _) i2
    ·obtain rfl:a=n:=Mb i1 (Ji aL);refine(aW.o wr).k ?_;rintro w' rfl;exact⟨rfl,z,i2,H0.av (by rw[NM,Fw];exact List.Pairwise.nil)⟩
   go_wp2_with (go_at_call 243;refine a0.k ?_;rintro w2⟨d,hW,X⟩;have aH:=A1 hW;have L:=A1 (K.o d X));go_loopw [6] (λbv wr=>∃(B:Nat) (z:gF Pu),bv=A0 (B:Int)/\Hid (20<=B/\Way g cap n len l w wr z/\EY (AE len) B (λ_=>True) z)) (λbv _=>n-(intOf bv).toNat)
   ·exact⟨20,d,by go_num,An _,aH.o,L.o⟩
   ·obtain⟨B,aI,rfl,hI⟩:=hrel;have⟨i1,i2,i3⟩:=hI.o;by_cases aF:B<n
    ·have aV:=FA.2 aF;obtain⟨C,hC⟩:=iG (2*B);have⟨z1,z2,z3,z4⟩:=a6.o B C (Fu aF) hC;have aO:=A1 (And.intro i1 (And.intro i2 i3));have aK:=A1 aF;have a7:=A1 hC;generalize wr=w3 at aO ⊢;go_wp2;go_loopw [7,8] (λav bv wr=>∃(j:Nat) (z:gF Pu),av=A0 ((j*C:Nat):Int)/\bv=A0 ((j*C+C:Nat):Int)/\Hid (j*C<=n/\Way g cap n len l w wr z/\EY (AE len) C (λi=>i<j) z/\EY (AE len) B (λi=>2*j<=i) z)) (λ_ bv _=>n+C+1-(intOf bv).toNat)
     ·exact⟨0,aI,iE,iE,iE,aO.o.2.1,λi hi=>absurd hi (JX i),λi _=>aO.o.2.2 i trivial⟩
     ·obtain⟨j,z,rfl,rfl,hI⟩:=hrel;have⟨i1,i2,i3,i4⟩:=hI.o;obtain⟨a,O⟩:=iG (j*C);obtain⟨b,Y⟩:=iG (a+C);obtain⟨c,hc⟩:=iG (b+C);obtain⟨m,aG⟩:=iG (a+B);have hC:=a7.o;(have aB:(j+1)*C=b:=by rw[Ii,O,W6];exact Y);(have aQ:2*j*B=a:=by rw[<-O,<-hC,Ma 2 j,Qs]);(have aR:(2*j+1)*B=m:=by rw[Ii,aQ,W6];exact aG);(have aP:2*(j+1)*B=b:=by rw[<-aB,<-hC,Ma 2 (j+1),Qs]);rw[O]at i1 ⊢;rw[Y];have⟨⟨y1,y2⟩,y3,y4⟩:=a8.o a b c m B C i1 (Fu aK.o) hC Y hc aG;have s1:=i4 (2*j) (An _);have s2:=i4 (2*j+1) (EW _);rw[aQ]at s1;rw[aR]at s2;have E:=i2.2.1;have⟨k1,k2,k3,k4,k5⟩:=A3B a aO.o.1;rw[aG]at k1 k2 k3 k4;rw[hC]at k2 k4 k5;rw[Y]at k2 k4;have aE:=A1 (And.intro aB (And.intro hc k5));by_cases I:b<=n
      ·have aJ:=QJ.2 I;have aU:=A1 (aM.o wr z a m b k1 k2 I i2 (LV s1 k3) (LV s2 k4));have K:Hid (∀d,H0 (AE len) a b z d->EY (AE len) C (λi=>i<j+1) d/\EY (AE len) B (λi=>2*(j+1)<=i) d):=λd X=>
        ⟨i3.aZ (by rw[O];exact X) (.inl (by rw[O];exact Y.symm)) (by rw[O,E];exact i1),EY.gn (λi hi=>i4 i (AO (Nat.mul_le_mul_left 2 (EW j)) hi)) X (by rw[aP];exact An _)⟩
       have aS:=A1 I;go_wp2_with (go_at_call 244;refine aU.k ?_;rintro w4⟨d,hW,X⟩;have aH:=A1 hW;have L:=A1 (K.o d X));go_roundw
       ·exact⟨j+1,d,by rw[aE.o.1],by rw[aE.o.1,aE.o.2.1],by rw[aE.o.1];exact aS.o,aH.o,L.o.1,L.o.2⟩
       ·exact A0J aS.o aE.o.2.2 aE.o.2.1
      ·have aJ:¬((b:Int)<=(n:Int)):=λh=>I (QJ.1 h);have⟨e1,e2,e3⟩:=A2n (a:=a) (B:=B) (n:=n) (by rw[hC,Y];exact I);rw[hC,Y]at e1;rw[aG]at e2 e3;have K:Hid (∀d,H0 (AE len) a n z d->EY (AE len) C (λ_=>True) d):=λd X=>(i3.aZ (by rw[O];exact X) (.inr ⟨E.symm,by rw[O,E,Y];exact e1⟩) (by rw[O,E];exact i1)).eg (by rw[X.1,aB,E];exact e1)
       have aD:=A1 (And.intro k5 (And.intro hC aO.o.1));by_cases hm:m<n
       ·have aY:=FA.2 hm;have aU:=A1 (aM.o wr z a m n k1 hm (An _) i2 (LV s1 k3) (LV s2 e2));go_wp2_with (go_at_call 244;refine aU.k ?_;rintro w4⟨d,hW,X⟩;have aH:=A1 hW;have L:=A1 (K.o d X));go_roundw
        ·exact⟨C,d,rfl,aD.o.1,aH.o,L.o⟩
        ·exact TT aK.o aD.o.2.2 aD.o.2.1
       ·have aY:¬((m:Int)<(n:Int)):=λh=>hm (FA.1 h);have L:=A1 (K.o z (H0.av (LV s1 (e3 hm))));have aH:=A1 i2;go_wp2;go_roundw
        ·exact⟨C,z,rfl,aD.o.1,aH.o,L.o⟩
        ·exact TT aK.o aD.o.2.2 aD.o.2.1
    ·have aV:¬((B:Int)<(n:Int)):=λh=>aF (FA.1 h);have aX:=A1 (aZ.o wr aI i2 (i3.C9 (by rw[i2.2.1];exact Ji aF)));go_wp2;go_end0;exact⟨rfl,aX.o⟩
end
def Yk(N:Nat)(hN:N<=4294967296):FR N:=by
 intro w v wb len l hn h z I E d;have ST:Hid (Ag 202 #[v,A0 l.length,.func (Fn.func 155) #[] #[A5 wb]] w (Aj (.tuple #[]) λw'=>B1 w' v (Ev (AE len) l)/\A4 (λk=>v.oB k) w w')):=by
  by_cases O:l.length<=19
  ·exact Ye w v wb len l O h z I E d
  ·obtain⟨av,cap,rfl,Y,L,h3,-,-⟩:=B8 h;obtain⟨g,rfl⟩:=h3 iC;refine(Yc w g cap wb len l iC h z I E (d g rfl)).k ?_;rintro w'⟨q1,q2⟩;exact⟨rfl,q1,q2.ah λk _ X=>by have e:=X;subst e;rfl⟩
 obtain⟨av,cap,rfl,Y,L,-⟩:=B8 h
 go_enter func154,ntmps154
 go_wp2_with (go_at_call 202;refine ST.k ?_;rintro w2⟨hp,hc⟩;have aB:=A1 hp;have aA:=A1 hc);go_end0;exact⟨rfl,aB.o,aA.o⟩
end
section
open Go.MuLone Go.RowKit
attribute [local go_sem ↓] Go.wp_at_zero Go.wp_at_succ CL
section
variable{w w' w2:gC}{sb ab b:Nat}{mu ld wc A8:Int}{ro:Bool}{lv:Nat->gD}{L:Nat->gF Pt}{A:Ar}{P:PD}{F0 FT:Nat->Prop}
def SQ(w:gC)(k t v:Int)(h:SF w sb ab b 0 ld wc A8 true L A P FT)(aA:∀k,FT k->k<w.heap.size)(hk:0<=k/\k<8):
 Ag 23 #[A5 sb,A0 k,A0 t,A0 v] w (Aj (A0 4) λw'=>Ap w FT w' (λw' z=>SF w' sb ab b 0 ld wc A8 true L A P z)):=by
 have aE:Hid (∀w',Ag 63 #[A0 k] w' λe E=>e=.returned (.bool true)/\w'=E):=λw'=>by
  have:=LH w' k
  rwa [CN hk]at this
 have hA:=Qj w sb k t v;have X:=Qk w sb k t v;generalize aD:boxed w sb k t v=w0 at hA X;unfold boxed at aD;have hV:=h.ak hA;have I:=hV.bG;have O:Jh (w0.sC sb 0 (.int .i32 1)) w.heap.size sb k t v:=X.Am I.1 λi _ hx=>by have:=aA _ hx;omega
 have d:Hid (Ap w FT (w0.sC sb 0 (.int .i32 1)) (λw' z=>SF w' sb ab b 1 ld wc A8 true L A P z)):=I.a1 hA;have aG:Hid (∀Y,Ag 64 #[A5 sb,Y] (w0.sC sb 0 (.int .i32 1)) (Aj (A0 4) λw'=>(w0.sC sb 0 (.int .i32 1))=w')):=λY=>by
  have⟨k1,F1,s1,s2,s3⟩:=d.o;obtain⟨lv,F0,q,-⟩:=s1;exact Vl _ Y q.Ae
 have c0:A7 w0 sb 0 (.int .i32 0):=by obtain⟨lv,F0,q,-⟩:=hV;exact q.Ae.c0
 have f0:w0.frozen? (A9 sb 0)=false:=by obtain⟨lv,F0,q,-⟩:=hV;exact q.Ae.fz 0
 obtain⟨x0,x1,x2,x3⟩:=X;obtain⟨y0,y1,y2,y3⟩:=O
 go_enter_defers func23,ntmps23
 go_wp2_with (fail);refine(Iu Tryz.bn (A9 sb 0) _ c0 f0).k ?_;rintro w' rfl;go_wp2_with (go_at_call 63;refine(aE.o _).k ?_;rintro w' rfl);refine(aG.o _).k ?_;rintro w2 rfl;go_wp2;refine Iv (f:=62) (args:=#[A5 sb]) iE (by simp[go_sem]) ?_;refine(Is Tryz.bn (A9 sb 0) .returning _ ?_ ?_).mono ?_
 ·obtain⟨-,aF,⟨aB,aH,a1,-⟩,-,-⟩:=d.o;exact a1.Ae.c0
 ·obtain⟨-,aF,⟨aB,aH,a1,-⟩,-,-⟩:=d.o;exact a1.Ae.fz 0
 rintro e u' E⟨rfl,rfl,rfl⟩;exact⟨_,Ko rfl _ _ _,rfl,SFto.CQ d.o 0 _ λlv h=>h.s0 0⟩
def ZB(w:gC)(k t v:Int)(h:SF w sb ab b 0 ld wc A8 ro L A P FT)(aA:∀k,FT k->k<w.heap.size)(hk:¬(0<=k/\k<8)):
 Ag 23 #[A5 sb,A0 k,A0 t,A0 v] w (Aj (A0 2) λw'=>Ap w FT w' (λw' d=>SF w' sb ab b 0 ld wc A8 ro L A P d)):=by
 have aE:Hid (∀w',Ag 63 #[A0 k] w' λe E=>e=.returned (.bool false)/\w'=E):=λw'=>by
  have:=LH w' k
  rwa [CO hk]at this
 have Y:=Qj w sb k t v;have X:=Qk w sb k t v;generalize aD:boxed w sb k t v=w0 at Y X;unfold boxed at aD;have hV:=h.ak Y;have I:=hV.bG;have O:Jh (w0.sC sb 0 (.int .i32 1)) w.heap.size sb k t v:=X.Am I.1 λi _ hx=>by have:=aA _ hx;omega
 have z:Hid (Ap w FT (w0.sC sb 0 (.int .i32 1)) (λw' d=>SF w' sb ab b 1 ld wc A8 ro L A P d)):=I.a1 Y;have c0:A7 w0 sb 0 (.int .i32 0):=by obtain⟨lv,F0,q,-⟩:=hV;exact q.Ae.c0
 have f0:w0.frozen? (A9 sb 0)=false:=by obtain⟨lv,F0,q,-⟩:=hV;exact q.Ae.fz 0
 obtain⟨x0,x1,x2,x3⟩:=X;obtain⟨y0,y1,y2,y3⟩:=O
 go_enter_defers func23,ntmps23
 go_wp2_with (first
  | (go_at_call 61;refine(Iu Tryz.bn (A9 sb 0) _ c0 f0).k ?_;rintro w' rfl)
  | (go_at_call 63;refine(aE.o _).k ?_;rintro w' rfl))
 refine Iv (f:=62) (args:=#[A5 sb]) iE (by simp[go_sem]) ?_;refine(Is Tryz.bn (A9 sb 0) .returning _ ?_ ?_).mono ?_
 ·obtain⟨-,aF,⟨aB,aG,a1,-⟩,-,-⟩:=z.o;exact a1.Ae.c0
 ·obtain⟨-,aF,⟨aB,aG,a1,-⟩,-,-⟩:=z.o;exact a1.Ae.fz 0
 rintro e u' E⟨rfl,rfl,rfl⟩;exact⟨_,Ko rfl _ _ _,rfl,SFto.CQ z.o 0 _ λlv h=>h.s0 0⟩
def SF.dO{n:Int}{w2:gC}(h:Ap w FT w2 (λw' d=>SF w' sb ab b 1 ld wc A8 ro L A P d)):Ap w FT (w2.setCell (A9 sb 0) (.int .i32 n)) (λw' d=>SF w' sb ab b n ld wc A8 ro L A P d):=SFto.CQ h 0 _ λ_ h=>h.s0 n
def OE(z:gC)(h:SF z sb ab b 0 ld wc A8 true L A P FT)(E:gD):
 Calls Tryz.prog 64 #[.pointer (some ⟨sb,0,none⟩),E] (z.setCell ⟨sb,0,none⟩ (.int .i32 1)) λe w'=>e=.returned (.int .i64 4)/\w'.cell? ⟨sb,0,none⟩=some (.int .i32 1)/\w'.frozen? ⟨sb,0,none⟩=false/\Ap z FT w' (λw' d=>SF w' sb ab b 1 ld wc A8 true L A P d):=by
 have O:=h.bG;obtain⟨I,Y,s1,s2,s3⟩:=O;obtain⟨lv,F0,q,X⟩:=s1;refine(Vl _ E q.Ae).k ?_;rintro w' rfl;exact⟨rfl,q.Ae.c0,q.Ae.fz 0,I,Y,⟨lv,F0,q,X⟩,s2,s3⟩
def UL(w:gC)(h:SF w sb ab b 0 ld wc A8 true L A P FT)(_hFT:∀k,FT k->k<w.heap.size):
 Ag 24 #[A5 sb] w (Aj (A0 4) λw'=>Ap w FT w' (λw' d=>SF w' sb ab b 0 ld wc A8 true L A P d)):=by
 obtain⟨c0,f0,Y,-⟩:=h.c0;refine(RD w 4 (λw'=>Ap w FT w' (λw' d=>SF w' sb ab b 1 ld wc A8 true L A P d)) c0 f0 Y λw1 E=>?_).mono ?_
 ·subst E;have I:=(A4.C Aa w).ai (.cells #[A5 sb] 36);refine(OE _ (h.ak I) _).k ?_;rintro w'⟨O,z,X⟩;exact⟨rfl,O,z,X.a1 I⟩
 ·rintro e w'⟨rfl,w2,z,rfl⟩;exact⟨rfl,SF.dO z⟩
def A29(w:gC)(h:SF w sb ab b 0 ld wc A8 true L A P FT)(_hFT:∀k,FT k->k<w.heap.size):
 Ag 25 #[A5 sb] w (Aj (A0 4) λw'=>Ap w FT w' (λw' d=>SF w' sb ab b 0 ld wc A8 true L A P d)):=by
 obtain⟨c0,f0,Y,-⟩:=h.c0;refine(RF w 4 (λw'=>Ap w FT w' (λw' d=>SF w' sb ab b 1 ld wc A8 true L A P d)) c0 f0 Y λw1 E=>?_).mono ?_
 ·subst E;have I:=(A4.C Aa w).ai (.cells #[A5 sb] 36);refine(OE _ (h.ak I) _).k ?_;rintro w'⟨O,z,X⟩;exact⟨rfl,O,z,X.a1 I⟩
 ·rintro e w'⟨rfl,w2,z,rfl⟩;exact⟨rfl,SF.dO z⟩
def Xz(w:gC)(h:SF w sb ab b 0 ld wc A8 true L A P FT):
 Ag 31 #[A5 sb] w (Aj (A0 4) λw'=>Ap w FT w' (λw' d=>SF w' sb ab b 0 ld wc A8 true L A P d)):=by
 obtain⟨c0,f0,hz,-⟩:=h.c0;have z:=h.bG;have c2:A7 (w.sC sb 0 (.int .i32 1)) sb 2 (A5 ab):=by
  obtain⟨k1,F1,s1,s2,s3⟩:=z;exact s1.c0.2.2.2
 refine(RC w 4 (λw'=>Ap w FT w' (λw' d=>SF w' sb ab b 1 ld wc A8 true L A P d)) c0 f0 c2 (OE _ h _)).k ?_;rintro w'⟨w2,E,rfl⟩;exact⟨rfl,SF.dO E⟩
end
end
section
open Go.RowKit
attribute [local go_sem ↓] Go.wp_at_zero Go.wp_at_succ
def DM(c:Int):Int:=if c<0 then 1152921504606846976 else c
def Sc(w:gC)(c:Int):Ag 42 #[A0 c] w (Aj (A0 (DM c)) λw'=>w=w'):=by
 unfold DM;by_cases h:c<0
 ·rw[Ai h]
  go_enter func42,ntmps42
  go_wp2;go_ret;exact⟨rfl,rfl⟩
 ·rw[Af h]
  go_enter func42,ntmps42
  go_wp2;go_ret;exact⟨rfl,rfl⟩
def RX(w:gC)(va vb:gD)(l m:gF Pt)(ha:Ch w va l)(hb:Ch w vb m)(hl:l.length<1099511627776)(_hm:m.length<1099511627776):
 Ag 93 #[va,vb] w (Aj (.bool (decide (l=m))) λw'=>A4 Aa w w'):=by
 obtain⟨aa,ca,rfl,-,-,aD,-,-⟩:=B8 ha;obtain⟨ab,cb,rfl,-,-,aI,-,-⟩:=B8 hb;by_cases d:l.length=m.length
 ·have aM:=A1 ha;have aL:=A1 hb;have aA:=A1 aD;have aF:=A1 aI;have L:=A1 d;obtain⟨q,hq⟩:=iG (decide (l=m));rw[hq,<-d];have aK:=A1 hq;clear ha hb aD aI d hq _hm
  go_enter func93,ntmps93
  go_wp2;go_loopw [5] (λiv wr=>∃k:Nat,k<=l.length/\iv=A0 k/\Hid (A4 Aa w wr)/\Hid (l.take k=m.take k)) (λiv _=>l.length-(intOf iv).toNat)
  ·exact⟨0,iC,rfl,A4.C _ _,rfl⟩
  ·obtain⟨k,hk,rfl,hc,hE⟩:=hrel;obtain⟨w0,aN⟩:=iH wr;subst aN;have k0:=BJ k;by_cases z:k<l.length
   ·(have E:k<m.length:=by have:=L.o;omega);have k1:(k:Int)<(l.length:Int):=iC;obtain⟨X,rfl⟩:=aA.o iC;obtain⟨Y,rfl⟩:=aF.o iC;have aB:Ch w0 _ l:=Au aM.o λg hg=>hc.o.Al g (Aw aM.o hg) (λh=>h);have⟨a0,a1⟩:=aB.bt k z;clear aB;have aH:Ch w0 _ m:=Au aL.o λg hg=>hc.o.Al g (Aw aL.o hg) (λh=>h);have⟨b0,b1⟩:=aH.bt k E;clear aH;obtain⟨p,hx⟩:=iG (l[k]'z);obtain⟨r,hy⟩:=iG (m[k]'E);have aG:Hid (p=r->l.take (k+1)=m.take (k+1)):=λe=>by
     rw[Ds z,Ds E,hE.o,hx,hy,e]
    have I:Hid (p≠r->q=false):=λaJ=>by
     rw[<-aK.o];refine CO λe=>aJ ?_;subst e;rw[<-hx,<-hy]
    obtain⟨t,v⟩:=p;obtain⟨t2,v2⟩:=r;rw[hx]at a0 a1;rw[hy]at b0 b1;have aO:=A1 z;clear hx hy aM aL aA aF hE L aK E z;by_cases e1:t=t2
    ·subst e1;by_cases e2:v=v2
     ·subst e2;have aP:=A1 (aG.o rfl);clear aG I;go_wp2;refine Bq (λw'=>A7 w' X (k*2) (A0 t)/\A7 w' X (k*2+1) (A0 v)/\A7 w' Y (k*2) (A0 t)/\A7 w' Y (k*2+1) (A0 v)) 23
       (Ba [0,1,2,3,4,5,6,7,8,9,10,11,12,13,14,15,16,17,18,19,20,21,22] []) ⟨a0,a1,b0,b1⟩ ?_
      iterate 23 refine B4 ?_
      refine Bl ?_;go_wp2;go_roundw
      ·exact⟨k+1,by have:=aO.o;omega,by go_num,hc.o.aa,aP.o⟩
      ·have:=aO.o;simp[intOf];omega
     ·have aE:=I.o (by simp[e2]);(have e3:(v !=v2)=true:=by simpa using e2);have O:=A1 aE;go_wp2;refine Bq (λw'=>A7 w' X (k*2) (A0 t)/\A7 w' X (k*2+1) (A0 v)/\A7 w' Y (k*2) (A0 t)/\A7 w' Y (k*2+1) (A0 v2)) 23
       (Ba [0,1,2,3,4,5,6,7,8,9,10,11,12,13,14,15,16,17,18,19,20,21,22] []) ⟨a0,a1,b0,b1⟩ ?_
      iterate 23 refine B4 ?_
      refine Bl ?_;go_wp2;go_ret;rw[O.o];exact⟨rfl,hc.o.aa⟩
    ·have aE:=I.o (by simp[e1]);(have e3:(t !=t2)=true:=by simpa using e1);have O:=A1 aE;go_wp2;refine Bq (λw'=>A7 w' X (k*2) (A0 t)/\A7 w' X (k*2+1) (A0 v)/\A7 w' Y (k*2) (A0 t2)/\A7 w' Y (k*2+1) (A0 v2)) 23
      (Ba [0,1,2,3,4,5,6,7,8,9,10,11,12,13,14,15,16,17,18,19,20,21,22] []) ⟨a0,a1,b0,b1⟩ ?_
     iterate 12 refine B4 ?_
     iterate 11 (refine WW rfl (by rfl) ?_;(try simp only[BO]))
     refine Bl ?_;go_wp2;go_ret;rw[O.o];exact⟨rfl,hc.o.aa⟩
   ·(obtain rfl:k=l.length:=iC);have aE:Hid (q=true):=by
     have h2:=hE.o;rw[C5,L.o,C5]at h2;rw[<-aK.o];exact CN h2
    go_wp2;go_ret;rw[aE.o];exact⟨rfl,hc.o⟩
 ·have e:decide (l=m)=false:=CO λe=>d (Ex List.length e);have e2:((l.length:Int)!=(m.length:Int))=true:=by simp;omega
  rw[e]
  go_enter func93,ntmps93
  go_wp2;go_ret;exact⟨rfl,A4.C _ _⟩
structure WN where
 ld:Int
 wa:Int
 Av:Int
 A3j:Int
 dv:gD
 sv:gD
 pv:gD
 AG:Int
 fell:Bool
 CU:Bool
 Cy:Int
 wc:Int
 da:Int
 tv:gD
 lv:gD
 FQ:Int
def Gc(n:WN):Array Value:=
 #[A0 n.ld,A0 n.wa,A0 n.Av,A0 n.A3j,n.dv,n.sv,n.pv,A0 n.AG,.bool n.fell,.bool n.CU,A0 n.Cy,A0 n.wc,A0 n.da,n.tv,n.lv,A0 n.FQ]
def AR(w:gC)(wb:Nat)(n:WN):Prop:=w.heap[wb]?=some (.cells (Gc n) 40 (0,0))
section
variable{w w':gC}{wb:Nat}{n:WN}
def AR.c0(h:AR w wb n):A7 w wb 0 (A0 n.ld):=by unfold AR at h;simp[A7,World.cell?,h,Gc]
def AR.c2(h:AR w wb n):A7 w wb 2 (A0 n.Av):=by unfold AR at h;simp[A7,World.cell?,h,Gc]
def AR.c4(h:AR w wb n):A7 w wb 4 (n.dv):=by unfold AR at h;simp[A7,World.cell?,h,Gc]
def AR.s4(h:AR w wb n)(x:gD):AR (w.setCell (A9 wb 4) (x)) wb {n with dv:=x}:=BQ h
def AR.c5(h:AR w wb n):A7 w wb 5 (n.sv):=by unfold AR at h;simp[A7,World.cell?,h,Gc]
def AR.s5(h:AR w wb n)(x:gD):AR (w.setCell (A9 wb 5) (x)) wb {n with sv:=x}:=BQ h
def AR.c6(h:AR w wb n):A7 w wb 6 (n.pv):=by unfold AR at h;simp[A7,World.cell?,h,Gc]
def AR.s6(h:AR w wb n)(x:gD):AR (w.setCell (A9 wb 6) (x)) wb {n with pv:=x}:=BQ h
def AR.c7(h:AR w wb n):A7 w wb 7 (A0 n.AG):=by unfold AR at h;simp[A7,World.cell?,h,Gc]
def AR.s7(h:AR w wb n)(x:Int):AR (w.setCell (A9 wb 7) (A0 x)) wb {n with AG:=x}:=BQ h
def AR.c8(h:AR w wb n):A7 w wb 8 (.bool n.fell):=by unfold AR at h;simp[A7,World.cell?,h,Gc]
def AR.s8(h:AR w wb n)(x:Bool):AR (w.setCell (A9 wb 8) (.bool x)) wb {n with fell:=x}:=BQ h
def AR.c9(h:AR w wb n):A7 w wb 9 (.bool n.CU):=by unfold AR at h;simp[A7,World.cell?,h,Gc]
def AR.s9(h:AR w wb n)(x:Bool):AR (w.setCell (A9 wb 9) (.bool x)) wb {n with CU:=x}:=BQ h
def AR.br(h:AR w wb n):A7 w wb 10 (A0 n.Cy):=by unfold AR at h;simp[A7,World.cell?,h,Gc]
def AR.cv(h:AR w wb n)(x:Int):AR (w.setCell (A9 wb 10) (A0 x)) wb {n with Cy:=x}:=BQ h
def AR.cX(h:AR w wb n):A7 w wb 11 (A0 n.wc):=by unfold AR at h;simp[A7,World.cell?,h,Gc]
def AR.e6(h:AR w wb n)(x:Int):AR (w.setCell (A9 wb 11) (A0 x)) wb {n with wc:=x}:=BQ h
def AR.dx(h:AR w wb n):A7 w wb 12 (A0 n.da):=by unfold AR at h;simp[A7,World.cell?,h,Gc]
def AR.eQ(h:AR w wb n)(x:Int):AR (w.setCell (A9 wb 12) (A0 x)) wb {n with da:=x}:=BQ h
def AR.dY(h:AR w wb n):A7 w wb 13 (n.tv):=by unfold AR at h;simp[A7,World.cell?,h,Gc]
def AR.eN(h:AR w wb n)(x:gD):AR (w.setCell (A9 wb 13) (x)) wb {n with tv:=x}:=BQ h
def AR.dK(h:AR w wb n):A7 w wb 14 (n.lv):=by unfold AR at h;simp[A7,World.cell?,h,Gc]
def AR.ff(h:AR w wb n)(x:gD):AR (w.setCell (A9 wb 14) (x)) wb {n with lv:=x}:=BQ h
def AR.cZ(h:AR w wb n):A7 w wb 15 (A0 n.FQ):=by unfold AR at h;simp[A7,World.cell?,h,Gc]
def AR.ft(h:AR w wb n)(x:Int):AR (w.setCell (A9 wb 15) (A0 x)) wb {n with FQ:=x}:=BQ h
def AR.fz(h:AR w wb n)(o:Nat):w.frozen? (A9 wb o)=false:=by unfold AR at h;simp[World.frozen?,h]
def AR.lt(h:AR w wb n):wb<w.heap.size:=Bv h
def AR.Am{S:Nat->Prop}(h:AR w wb n)(d:A4 S w w')(z:¬S wb):AR w' wb n:=(d.Al wb h.lt z).trans h
def AR.ak(h:AR w wb n)(d:A4 Aa w w'):AR w' wb n:=h.Am d (λh=>h)
def Vs{F:Nat->FC}(w:gC)(ld wa room A8 count:Int):
 Calls Tryz.prog 16 #[.agg #[.int .i64 ld,.int .i64 wa,.int .i64 room,.int .i64 A8],.int .i64 count] w λe w'=>∃wb b,e=.returned (.pointer (some ⟨wb,0,none⟩))/\
  AR w' wb ⟨ld,wa,room,A8,.pointer (some ⟨b,0,none⟩),.pointer none,.slice none 0 0,0,false,false,A8,wa,0,.slice none 0 0,.slice none 0 0,count⟩/\AU w' b ⟨[],[],[],GO (DM room)⟩ F (One b)/\w.heap.size<=b/\b<wb/\A4 (λ_=>False) w w':=by
 have hA:=(A4.C (λ_=>False) w).ai (.cells #[.int .i64 ld,.int .i64 wa,.int .i64 room,.int .i64 A8] 23);have d:=Bn w (.cells #[.int .i64 ld,.int .i64 wa,.int .i64 room,.int .i64 A8] 23);generalize hw0:(w.alloc (.cells #[.int .i64 ld,.int .i64 wa,.int .i64 room,.int .i64 A8] 23))=w0 at hA d;have Y:w0.cell? ⟨w.heap.size,0,none⟩=some (.int .i64 ld):=by simp only[World.cell?,d];rfl
 have q1:w0.cell? ⟨w.heap.size,1,none⟩=some (.int .i64 wa):=by simp only[World.cell?,d];rfl
 have q2:w0.cell? ⟨w.heap.size,2,none⟩=some (.int .i64 room):=by simp only[World.cell?,d];rfl
 have q3:w0.cell? ⟨w.heap.size,3,none⟩=some (.int .i64 A8):=by simp only[World.cell?,d];rfl
 have aA:=A1 hA;have aD:=A1 (Sc w0.drew room);have aE:Hid (Calls Tryz.prog 21 #[.int .i64 (DM room)] w0.drew λe w'=>e=.returned (.pointer (some ⟨w0.heap.size,0,none⟩))/\AU w' w0.heap.size ⟨[],[],[],GO (DM room)⟩ F (One w0.heap.size)/\A4 (λ_=>False) w0.drew w'/\w'.heap.size=w0.heap.size+1):=Tz _ _
 go_enter func16,ntmps16
 go_wp2;refine G1 (λw'=>w'.cell? ⟨w.heap.size,0,none⟩=some (.int .i64 ld)/\w'.cell? ⟨w.heap.size,1,none⟩=some (.int .i64 wa)/\w'.cell? ⟨w.heap.size,2,none⟩=some (.int .i64 room)/\w'.cell? ⟨w.heap.size,3,none⟩=some (.int .i64 A8)) 11
  [(0,true),(1,true),(2,true),(5,true),(6,true),(7,true),(8,true),(9,true),(3,false),(4,false),(10,true)] (by kernel_rfl) (by kernel_rfl) (λ_ _ _ _ _ h=>h) ⟨Y,q1,q2,q3⟩ ?_
 iterate 8 (refine E8 (v:=?_) rfl (by rfl) ?_ ?_;rotate_left;(· (intro w' E;(try dsimp only at E);go_simp;try with_reducible rfl));(try simp only[BO]))
 refine Dy rfl (by rfl) (λK X=>?_);go_simp;refine aD.k ?_;rintro I rfl;refine X _ _ ⟨Y,q1,q2,q3⟩ (λE=>?_)
 (try simp only[BO])
 refine Dy rfl (by rfl) (λK X=>?_);go_simp;refine aE.k ?_;rintro I⟨hd,z,hs⟩;refine X _ _ ⟨z.ad Y,z.ad q1,z.ad q2,z.ad q3⟩ (λE=>?_);have aF:=A1 hd;have L:=A1 z;have aB:=A1 hs;clear X K E hd z hs
 (try simp only[BO])
 (refine E8 (v:=?_) rfl (by rfl) ?_ ?_;rotate_left;(· (intro w' E;(try dsimp only at E);go_simp;try with_reducible rfl));(try simp only[BO]))
 refine FD ?_;simp only[DK,Dm];go_wp2;go_ret;have O:=(A4.C (λ_=>False) I).ai (.cells (Gc ⟨ld,wa,room,A8,.pointer (some ⟨w0.heap.size,0,none⟩),.pointer none,.slice none 0 0,0,false,false,A8,wa,0,.slice none 0 0,.slice none 0 0,count⟩) 40);refine⟨I.heap.size,w0.heap.size,rfl,Bn I _,aF.o.av (λk hk=>by unfold One at hk;have:=aB.o;omega) O,aA.o.Ak,by have:=aB.o;omega,?_⟩;exact(aA.o.AF (S':=λ_=>False) (⟨L.o.os,L.o.DZ,L.o.E3,L.o.Ak,L.o.Al⟩:A4 (λ_=>False) w0 I) λ_ h _=>h).tr O
end
end
section
open Go.RowKit
def FJ:gF (gD×Int)->gF gD
 | []=>[]
 | (v,i):: r=>v::.int .i64 i::FJ r
def A0M(a b:gF (gD×Int)):FJ (a++b)=FJ a++FJ b:=by
 induction a with
 | nil=>rfl
 | cons e r ih=>obtain⟨v,i⟩:=e;simp[FJ,ih]
def QF(w:gC)(v:gD)(l:gF (gD×Int)):Prop:=w.ownsRow 0 91 2 v l.length (FJ l)
def Gt(e:gD×Int):Option Nat:=match e.1 with
 | .slice (some a) m _=>if m=0 then none else some a.block
 | _=>none
def Hk(w:gC)(e:gD×Int):Prop:=∃d m c,(e.1=.slice d m c/\m<1099511627776)/\(m≠0->∃g cs,d=some ⟨g,0,none⟩/\w.heap[g]?=some (.cells cs 70 (0,0))/\∀k,k<m->cs[k*2]?=some (.int .i64 (IntKind.i64.wrap (-e.2)))/\cs[k*2+1]?=some (.int .i64 e.2))
def Hk.bZ{w:gC}{e:gD×Int}(h:Hk w e){g:Nat}(d:Gt e=some g):∃cs,w.heap[g]?=some (.cells cs 70 (0,0)):=by
 obtain⟨O,m,c,⟨E,-⟩,L⟩:=h;unfold Gt at d;rw[E]at d;by_cases z:m=0
 ·cases O<;>simp[z]at d
 ·obtain⟨g2,cs,rfl,I,-⟩:=L z;simp[z]at d;subst d;exact⟨cs,I⟩
def Hk.aj{w w':gC}{e:gD×Int}{S:Nat->Prop}(h:Hk w e)(hc:A4 S w w')(Y:∀g,Gt e=some g->¬S g):Hk w' e:=by
 obtain⟨O,m,c,⟨z,L⟩,I⟩:=h;refine⟨O,m,c,⟨z,L⟩,λd=>?_⟩;obtain⟨g,cs,rfl,E,X⟩:=I d;exact⟨g,cs,rfl,hc.aj E (Y g (by unfold Gt;rw[z];simp[d])),X⟩
def Ff(wb:Nat)(n:WN)(ls:gF (gD×Int))(k:Nat):Prop:=k=wb\/n.pv.ownBlock=some k\/n.lv.ownBlock=some k\/∃e∈ls,Gt e=some k
abbrev Kind:=gC->(Nat->Prop)->Prop
def Jf(R:Kind):Prop:=∀(w w':gC) (S FT:Nat->Prop),R w FT->(∀k,FT k->k<w.heap.size)->A4 S w w'->(∀k,FT k->¬S k)->R w' FT
structure Co (K:gF (gD×Int)) (w:gC) (H:Nat->Prop) (wb:Nat) (n:WN) (b:Nat) (ld:Int) (R:Kind) (FT:Nat->Prop) (pd:gF Pu) (ls:gF (gD×Int)):Prop where
 Ae:AR w wb n
 D9:n.dv=(A5 b)
 FO:n.ld=ld
 E1:Jf R
 Es:R w FT
 lt:∀k,FT k->k<w.heap.size
 Dq:GZ w n.pv pd
 En:QF w n.lv ls
 nw:∀k,Ff wb n K k->¬FT k
 Dz:∀k,Ff wb n K k->H k
 F4:∀k,FT k->H k
 DP:∀k,w.heap.size<=k->H k
 rd:∀e∈K,Hk w e
abbrev LW(w:gC)(H:Nat->Prop)(wb:Nat)(n:WN)(b:Nat)(ld:Int)(R:Kind)(FT:Nat->Prop)(pd:gF Pu)(ls:gF (gD×Int)):Prop:=Co ls w H wb n b ld R FT pd ls
section
variable{w w':gC}{H:Nat->Prop}{wb:Nat}{n:WN}{b:Nat}{ld:Int}{R R':Kind}{FT:Nat->Prop}{pd:gF Pu}{ls K:gF (gD×Int)}
def Co.bx{S:Nat->Prop}(h:Co K w H wb n b ld R FT pd ls)(z:A4 S w w')(E:∀k,Ff wb n K k->¬S k)(O:∀k,FT k->¬S k):Co K w' H wb n b ld R FT pd ls:=
 ⟨h.Ae.Am z (E wb (.inl rfl)),h.D9,h.FO,h.E1,h.E1 _ _ _ _ h.Es h.lt z O,λk I=>Bp (h.lt k I) z.Ak,Au h.Dq λg d=>z.Al g (Aw h.Dq d) (E g (.inr (.inl d))),Au h.En λg d=>z.Al g (Aw h.En d) (E g (.inr (.inr (.inl d)))),h.nw,h.Dz,h.F4,λk I=>h.DP k (AO z.Ak I),λe L=>(h.rd e L).aj z λg d=>E g (.inr (.inr (.inr ⟨e,L,d⟩)))⟩
def Co.ak(h:Co K w H wb n b ld R FT pd ls)(d:A4 Aa w w'):Co K w' H wb n b ld R FT pd ls:=h.bx d (λ_ _ h=>h) λ_ _ h=>h
def Co.b8(h:Co K w H wb n b ld R FT pd ls){k:Nat}(d:Ff wb n K k):k<w.heap.size:=by
 rcases d with rfl|d|d|d
 ·exact h.Ae.lt
 ·exact Aw h.Dq d
 ·exact Aw h.En d
 ·obtain⟨e,z,d⟩:=d;obtain⟨cs,E⟩:=(h.rd e z).bZ d;exact Bv E
def Co.cS(h:Co K w H wb n b ld R FT pd ls)(hs:Jf R')(hI:Ap w FT w' R'):A4 H w w'/\∃d,Co K w' H wb n b ld R' d pd ls:=by
 obtain⟨L,d,h1,h2,Y⟩:=hI;refine⟨L.ah λx _ O=>h.F4 x O,d,h.Ae.Am L (h.nw wb (.inl rfl)),h.D9,h.FO,hs,h1,h2,?_,?_,?_,h.Dz,?_,λk E=>h.DP k (AO L.Ak E),λe X=>(h.rd e X).aj L λg z=>h.nw g (.inr (.inr (.inr ⟨e,X,z⟩)))⟩
 ·exact Au h.Dq λg z=>L.Al g (Aw h.Dq z) (h.nw g (.inr (.inl z)))
 ·exact Au h.En λg z=>L.Al g (Aw h.En z) (h.nw g (.inr (.inr (.inl z))))
 ·intro k E O;rcases Y k O with I|I
  ·exact h.nw k E I
  ·have:=h.b8 E;omega
 ·intro k E;rcases Y k E with I|I
  ·exact h.F4 k I
  ·exact h.DP k I
def Co.b4(h:Co K w H wb n b ld R FT pd ls){e:gD×Int}(E:e∈K){g:Nat}(I:Gt e=some g):g≠wb/\n.pv.ownBlock≠some g/\n.lv.ownBlock≠some g:=by
 obtain⟨cs,z⟩:=(h.rd e E).bZ I;refine⟨λe=>?_,λe=>?_,λe=>?_⟩
 ·subst e;have:=h.Ae;unfold AR at this;rw[z]at this;cases this
 ·obtain⟨c,d⟩:=B9 h.Dq e;rw[z]at d;cases d
 ·obtain⟨c,d⟩:=B9 h.En e;rw[z]at d;cases d
def Co.cB(h:Co K w H wb n b ld R FT pd ls):n.pv.ownBlock≠some wb:=λe=>by
 have⟨c,hh⟩:=B9 h.Dq e;have:=h.Ae;unfold AR at this;rw[hh]at this;cases this
def Co.cd(h:Co K w H wb n b ld R FT pd ls):n.lv.ownBlock≠some wb:=λe=>by
 have⟨c,hh⟩:=B9 h.En e;have:=h.Ae;unfold AR at this;rw[hh]at this;cases this
def Co.er(h:Co K w H wb n b ld R FT pd ls){g:Nat}(d:n.pv.ownBlock=some g):n.lv.ownBlock≠some g:=λe=>by
 have⟨c,hh⟩:=B9 h.En e;have⟨c',hh'⟩:=B9 h.Dq d;rw[hh]at hh';cases hh'
def Co.CQ{n':WN}(h:Co K w H wb n b ld R FT pd ls)(o:Nat)(u:gD)(Y:AR (w.setCell ⟨wb,o,none⟩ u) wb n')(e1:n'.dv=n.dv)(e4:n'.ld=n.ld)(L:n'.pv=n.pv)(I:n'.lv=n.lv):
 A4 H w (w.setCell ⟨wb,o,none⟩ u)/\Co K (w.setCell ⟨wb,o,none⟩ u) H wb n' b ld R FT pd ls:=by
 have E:=(A4.C (One wb) w).an (b:=wb) rfl o u;have O:∀k,Ff wb n' K k->Ff wb n K k:=λk d=>by unfold Ff at d ⊢;rwa [L,I]at d
 refine⟨E.ah λx _ e=>by cases e;exact h.Dz _ (.inl rfl),Y,e1.trans h.D9,e4.trans h.FO,h.E1,h.E1 _ _ _ _ h.Es h.lt E (λk d e=>h.nw wb (.inl rfl) (by cases e;exact d)),λk d=>Bp (h.lt k d) E.Ak,?_,?_,λk d=>h.nw k (O k d),λk d=>h.Dz k (O k d),h.F4,λk d=>h.DP k (AO E.Ak d),λe X=>(h.rd e X).aj E λg z e=>(h.b4 X z).1 e⟩
 ·rw[L];exact Au h.Dq λg z=>E.Al g (Aw h.Dq z) λe=>h.cB (by cases e;exact z)
 ·rw[I];exact Au h.En λg z=>E.Al g (Aw h.En z) λe=>h.cd (by cases e;exact z)
def Co.eB{z:gD}{L:gF Pu}(h:Co K w H wb n b ld R FT pd ls)(O:GZ w z L)(Y:∀g,z.ownBlock=some g->H g/\¬FT g):
 A4 H w (w.setCell ⟨wb,6,none⟩ z)/\Co K (w.setCell ⟨wb,6,none⟩ z) H wb {n with pv:=z} b ld R FT L ls:=by
 have I:=(A4.C (One wb) w).an (b:=wb) rfl 6 z;have X:z.ownBlock≠some wb:=λe=>by
  have⟨c,hh⟩:=B9 O e;have:=h.Ae;unfold AR at this;rw[hh]at this;cases this
 refine⟨I.ah λx _ e=>by cases e;exact h.Dz _ (.inl rfl),h.Ae.s6 z,h.D9,h.FO,h.E1,h.E1 _ _ _ _ h.Es h.lt I (λk d e=>h.nw wb (.inl rfl) (by cases e;exact d)),λk d=>Bp (h.lt k d) I.Ak,?_,?_,?_,?_,h.F4,λk d=>h.DP k (AO I.Ak d),λe he=>(h.rd e he).aj I λg E e=>(h.b4 he E).1 e⟩
 ·exact Au O λg E=>I.Al g (Aw O E) λe=>X (by cases e;exact E)
 ·exact Au h.En λg E=>I.Al g (Aw h.En E) λe=>h.cd (by cases e;exact E)
 ·rintro k (rfl|d|d)
  ·exact h.nw _ (.inl rfl)
  ·exact(Y k d).2
  ·exact h.nw k (.inr (.inr d))
 ·rintro k (rfl|d|d)
  ·exact h.Dz _ (.inl rfl)
  ·exact(Y k d).1
  ·exact h.Dz k (.inr (.inr d))
def App.cm{e size:Nat}{v d:gD}{n:Nat}{xs:gF gD}(h:App w w' e size v d n xs):A4 (λk=>v.ownBlock=some k) w w':=(A4.C _ w).C7 h.C7 λ_ e _=>e
def Co.e9{I:gD}{p:Pu}(h:Co K w H wb n b ld R FT pd ls)(hA:App w w' 141 3 n.pv I (pd.length+1) (B5 pd++B5 [p])):
 w'.cell? (A9 wb 6)=some n.pv/\w'.frozen? (A9 wb 6)=false/\A4 H w (w'.setCell (A9 wb 6) I)/\Co K (w'.setCell (A9 wb 6) I) H wb {n with pv:=I} b ld R FT (pd++[p]) ls:=by
 have Y:=hA.cm;have E:=h.Ae.Am Y h.cB;have L:=(A4.C (One wb) w').an (b:=wb) rfl 6 I;have X:∀k,FT k->k<w'.heap.size:=λk d=>Bp (h.lt k d) Y.Ak;have aB:=h.E1 _ _ _ _ h.Es h.lt Y λk d e=>h.nw k (.inr (.inl e)) d;have aD:=Au h.En λg z=>Y.Al g (Aw h.En z) λe=>h.er e z;have O:GZ w' I (pd++[p]):=by
  unfold GZ;have:=hA.AB;rw[<-It]at this;simpa using this
 have aA:I.ownBlock≠some wb:=λe=>by
  have⟨c,hh⟩:=B9 O e;unfold AR at E;rw[hh]at E;cases E
 have hH:∀g,I.ownBlock=some g->H g/\¬FT g:=λg z=>by
  rcases hA.BX with e|e
  ·rw[e]at z;exact⟨h.Dz g (.inr (.inl z)),h.nw g (.inr (.inl z))⟩
  ·rw[e]at z;cases z;exact⟨h.DP _ (An _),λhx=>by have:=h.lt _ hx;omega⟩
 refine⟨E.c6,E.fz 6,(Y.ah λx _ e=>h.Dz x (.inr (.inl e))).an (h.Dz wb (.inl rfl)) 6 _,⟨E.s6 I,h.D9,h.FO,h.E1,h.E1 _ _ _ _ aB X L (λk d e=>h.nw wb (.inl rfl) (by cases e;exact d)),λk d=>Bp (X k d) L.Ak,?_,?_,?_,?_,h.F4,λk d=>h.DP k (AO (AO Y.Ak L.Ak) d),λe he=>((h.rd e he).aj Y λg z e=>(h.b4 he z).2.1 e).aj L λg z e=>(h.b4 he z).1 e⟩⟩
 ·exact Au O λg z=>FB _ _ _ _ λe=>aA (by rw[z];congr 1)
 ·exact Au aD λg z=>FB _ _ _ _ λe=>h.cd (by rw[z];congr 1)
 ·rintro k (rfl|d|d)
  ·exact h.nw _ (.inl rfl)
  ·exact(hH k d).2
  ·exact h.nw k (.inr (.inr d))
 ·rintro k (rfl|d|d)
  ·exact h.Dz _ (.inl rfl)
  ·exact(hH k d).1
  ·exact h.Dz k (.inr (.inr d))
def Co.cq{I:gD}{p:gD×Int}(h:Co K w H wb n b ld R FT pd ls)(hA:App w w' 91 2 n.lv I (ls.length+1) (FJ ls++FJ [p])):
 w'.cell? (A9 wb 14)=some n.lv/\w'.frozen? (A9 wb 14)=false/\A4 (λk=>k=wb\/n.lv.ownBlock=some k) w (w'.setCell (A9 wb 14) I)/\Co K (w'.setCell (A9 wb 14) I) H wb {n with lv:=I} b ld R FT pd (ls++[p])/\(I.ownBlock=n.lv.ownBlock\/I.ownBlock=some w.heap.size):=by
 have Y:=hA.cm;have E:=h.Ae.Am Y h.cd;have L:=(A4.C (One wb) w').an (b:=wb) rfl 14 I;have X:∀k,FT k->k<w'.heap.size:=λk d=>Bp (h.lt k d) Y.Ak;have aB:=h.E1 _ _ _ _ h.Es h.lt Y λk d e=>h.nw k (.inr (.inr (.inl e))) d;have aD:=Au h.Dq λg z=>Y.Al g (Aw h.Dq z) λe=>h.er z e;have O:QF w' I (ls++[p]):=by
  unfold QF;have:=hA.AB;rw[<-A0M]at this;simpa using this
 have aA:I.ownBlock≠some wb:=λe=>by
  have⟨c,hh⟩:=B9 O e;unfold AR at E;rw[hh]at E;cases E
 have hH:∀g,I.ownBlock=some g->H g/\¬FT g:=λg z=>by
  rcases hA.BX with e|e
  ·rw[e]at z;exact⟨h.Dz g (.inr (.inr (.inl z))),h.nw g (.inr (.inr (.inl z)))⟩
  ·rw[e]at z;cases z;exact⟨h.DP _ (An _),λhx=>by have:=h.lt _ hx;omega⟩
 refine⟨E.dK,E.fz 14,(Y.ah (S':=λk=>k=wb\/n.lv.ownBlock=some k) λx _ e=>.inr e).an (.inl rfl) 14 _,⟨E.ff I,h.D9,h.FO,h.E1,h.E1 _ _ _ _ aB X L (λk d e=>h.nw wb (.inl rfl) (by cases e;exact d)),λk d=>Bp (X k d) L.Ak,?_,?_,?_,?_,h.F4,λk d=>h.DP k (AO (AO Y.Ak L.Ak) d),λe he=>((h.rd e he).aj Y λg z e=>(h.b4 he z).2.2 e).aj L λg z e=>(h.b4 he z).1 e⟩,hA.BX⟩
 ·exact Au aD λg z=>FB _ _ _ _ λe=>h.cB (by rw[z];congr 1)
 ·exact Au O λg z=>FB _ _ _ _ λe=>aA (by rw[z];congr 1)
 ·rintro k (rfl|d|d|d)
  ·exact h.nw _ (.inl rfl)
  ·exact h.nw k (.inr (.inl d))
  ·exact(hH k d).2
  ·exact h.nw k (.inr (.inr (.inr d)))
 ·rintro k (rfl|d|d|d)
  ·exact h.Dz _ (.inl rfl)
  ·exact h.Dz k (.inr (.inl d))
  ·exact(hH k d).1
  ·exact h.Dz k (.inr (.inr (.inr d)))
def Co.re{E:gF (gD×Int)}(h:Co K w H wb n b ld R FT pd ls)(L:∀e∈E,Hk w e)(I:∀e∈E,∀g,Gt e=some g->H g/\¬FT g):Co E w H wb n b ld R FT pd ls:=
 ⟨h.Ae,h.D9,h.FO,h.E1,h.Es,h.lt,h.Dq,h.En,λk d=>by
  rcases d with d|d|d|⟨e,z,d⟩
  ·exact h.nw k (.inl d)
  ·exact h.nw k (.inr (.inl d))
  ·exact h.nw k (.inr (.inr (.inl d)))
  ·exact(I e z k d).2,λk d=>by
  rcases d with d|d|d|⟨e,z,d⟩
  ·exact h.Dz k (.inl d)
  ·exact h.Dz k (.inr (.inl d))
  ·exact h.Dz k (.inr (.inr (.inl d)))
  ·exact(I e z k d).1,h.F4,h.DP,L⟩
end
def KD(b:Nat)(P:PD):Kind:=λw FT=>Bw w b P FT
def KS(h ab b:Nat)(ld wc A8:Int)(d:Bool)(L:Nat->gF Pt)(A:Ar)(P:PD):Kind:=λw FT=>SF w h ab b 0 ld wc A8 d L A P FT
def KD.E1(b:Nat)(P:PD):Jf (KD b P):=λ_ _ _ _ h z I E=>Bw.aK h λk d=>I.Al k (z k d) (E k d)
def KS.E1(X ab b:Nat)(ld wc A8:Int)(z:Bool)(L:Nat->gF Pt)(A:Ar)(P:PD):Jf (KS X ab b ld wc A8 z L A P):=λw w' S FT h hl Y O=>by
 obtain⟨lv,F0,I,d⟩:=h;exact⟨lv,F0,I.Am Y λk E=>O k (d k E),d⟩
def SF.dk{w:gC}{X ab b:Nat}{O ld wc A8:Int}{z:Bool}{L:Nat->gF Pt}{A:Ar}{P:PD}{FT:Nat->Prop}(h:SF w X ab b O ld wc A8 z L A P FT):∃Ft,Bw w b P Ft/\(∀k,Ft k->k<w.heap.size)/\∀k,Ft k->FT k:=by
 obtain⟨lv,F0,I,d⟩:=h;have⟨xb,jb,sv,ov,l,jo,Ft,h3,h4⟩:=I.ar;exact⟨Ft,h3.dk,h3.lt,λk E=>d k (.inl (h4 k (.inl E)))⟩
end
end Go.Proofs.YtodcnkbblippnaaGreatDoor
