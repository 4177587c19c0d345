/- Part 12 of a proof: walks of the program. -/
import Derived.Test.YtodcnkbblippnaaGreatDoorPart11
namespace Go.Proofs.YtodcnkbblippnaaGreatDoor
set_option maxRecDepth 100000
set_option maxHeartbeats 32000000
set_option linter.defProp false
open Go.Proofs.Tryz
section
open Go.RowKit
attribute [local go_sem ↓] Go.wp_at_zero Go.wp_at_succ
def Ij(ld d A7:Int)(x:Int)(l:gD Pu):Bool:=l.any λp=>ED p.2.1 ld A7&&(Gw p.2.1 d==Gw x d)
def Jz(p:Pu)(l:gD Pu):Bool:=l.any λq=>q.1==p.1&&q.2.1==p.2.1
def EZ(ld d A7:Int)(pd:gD Pu):Nat->Nat
 | 0=>0
 | k+1=>EZ ld d A7 pd k+(if Ij ld d A7 (pd.getD k (0,0,0)).2.1 pd && ! Jz (pd.getD k (0,0,0)) (pd.take k) then 1 else 0)
def TX(ld d A7:Int)(pd:gD Pu)(k:Nat):EZ ld d A7 pd k<=k:=by
 induction k with
 | zero=>exact Ao _
 | succ k ih=>simp only[EZ];split<;>omega
def Vo{α:Type}(f:α->Bool)(l:gD α)(k:Nat)(d:k<l.length):(l.take (k+1)).any f=((l.take k).any f||f (l[k]'d)):=by
 rw[Dq d,We];simp
def A04(w:gx)(pv:gy)(pd:gD Pu)(ld d A7:Int)(hp:GS w pv pd)(aV:pd.length<1099511627776)(aO:∀p∈pd,Ay p.2.1)(hl:1<=ld/\ld<=4611686018427387904)(hw:1<=d/\d<=4611686018427387904)(hc:Ay A7):
 Ag 95 #[pv,A0 ld,A0 d,A0 A7] w (Aj (A0 (EZ ld d A7 pd pd.length)) λw'=>A4 Aa w w'):=by
 obtain⟨ap,cp,rfl,aZ,aX,aG⟩:=hp.BW;unfold maxLen at aX;obtain⟨m,hm⟩:∃m,pd.length=m:=⟨_,rfl⟩;have a3:Hid (∀w' k (I:k<pd.length),Ag 123 #[A0 (pd[k]'I).2.1,A0 ld,A0 A7] w' λe aH=>e=.returned (.bool (ED (pd[k]'I).2.1 ld A7))/\w'=aH):=λw' k I=>Vy _ ld A7 w' (aO _ (BV I)) hl hc hc.2;have WI:Hid (∀w' k (I:k<pd.length),Ag 124 #[A0 (pd[k]'I).2.1,A0 d] w' λe aH=>e=.returned (A0 (Gw (pd[k]'I).2.1 d))/\w'=aH):=λw' k I=>WJ w' _ d (aO _ (BV I)) hw;have aA:Hid (∀wr,A4 Aa w wr->∀k (I:k<pd.length),∃g,ap=some (A9 g 0)/\A8 wr g (k*3) (A0 (pd[k]'I).1)/\A8 wr g (k*3+1) (A0 (pd[k]'I).2.1)):=λwr O k I=>by
  obtain⟨g,h1,-,h2,h3,-⟩:=aG k I;exact⟨g,h1,O.ah h2,O.ah h3⟩
 have aS:=A1 hm;rw[hm]at aZ aV ⊢
 go_enter func95,ntmps95
 go_wp2;go_loopw [9,10] (λnv iv wr=>∃k:Nat,k<=m/\iv=A0 k/\nv=A0 (EZ ld d A7 pd k)/\Hid (A4 Aa w wr)) (λ_ iv _=>m-(intOf iv).toNat)
 ·exact⟨0,by omega,by go_num,rfl,A4.C _ _⟩
 ·obtain⟨k,I,rfl,rfl,O⟩:=hrel;obtain⟨w0,aY⟩:∃w0,w0=wr:=⟨_,rfl⟩;subst aY;have hkk:=BJ k;by_cases hlt:k<m
  ·(have h:k<pd.length:=by have:=aS.o;omega);go_wp2;go_loopw [11,12] (λav jv wq=>∃j:Nat,j<=m/\jv=A0 j/\av=.bool (Ij ld d A7 (pd[k]'h).2.1 (pd.take j))/\Hid (A4 Aa w wq)) (λ_ jv _=>m-(intOf jv).toNat)
   ·exact⟨0,by omega,by go_num,rfl,O⟩
   ·obtain⟨j,hj,rfl,rfl,aE⟩:=hrel;have hjj:=BJ j;by_cases hjl:j<m
    ·(have z:j<pd.length:=by have:=aS.o;omega);obtain⟨g,rfl,a0,a1⟩:=aA.o wr aE.o k h;have⟨g',e,b0,b1⟩:=aA.o wr aE.o j z;cases e;have e9:Ij ld d A7 (pd[k]'h).2.1 (pd.take (j+1))=(Ij ld d A7 (pd[k]'h).2.1 (pd.take j)||(ED (pd[j]'z).2.1 ld A7&&(Gw (pd[j]'z).2.1 d==Gw (pd[k]'h).2.1 d))):=Vo _ _ _ z;have aT:=A1 (a3.o wr j z);have a2:=A1 (WI.o wr j z);have aR:=A1 (WI.o wr k h);obtain⟨X,L⟩:∃X,Ij ld d A7 (pd[k]'h).2.1 (pd.take j)=X:=⟨_,rfl⟩;obtain⟨xa,aN⟩:∃xa,ED (pd[j]'z).2.1 ld A7=xa:=⟨_,rfl⟩;obtain⟨xj,aP⟩:∃xj,Gw (pd[j]'z).2.1 d=xj:=⟨_,rfl⟩;obtain⟨xk,aL⟩:∃xk,Gw (pd[k]'h).2.1 d=xk:=⟨_,rfl⟩;rw[aN]at aT;rw[aP]at a2;rw[aL]at aR;rw[L,aN,aP,aL]at e9;rw[L];have aF:=A1 e9;(have Y:(xj==xk)=true\/(xj==xk)=false:=by cases (xj==xk)<;>simp);obtain⟨tk,aD⟩:∃tk,(pd[k]'h).2.1=tk:=⟨_,rfl⟩;generalize htj:(pd[j]'z).2.1=tj at aT a2 b1;rw[aD]at aR a1;rcases Y with Y|Y<;>cases X<;>cases xa
     all_goals
      go_wp2_with (fail);refine aT.k ?_;rintro w1 rfl;go_wp2_with (fail);refine a2.k ?_;rintro w1 rfl;go_wp2_with (fail);refine aR.k ?_;rintro w1 rfl;go_wp2;go_roundw
      ·exact⟨j+1,by omega,by go_num,by rw[aF.o,Y];rfl,aE⟩
      ·simp[intOf];omega
    ·(obtain rfl:j=m:=by omega);obtain⟨w2,aU⟩:∃w2,w2=wr:=⟨_,rfl⟩;subst aU;rw[show pd.take j=pd from El (by have:=aS.o;omega)];obtain⟨X,L⟩:∃X,Ij ld d A7 (pd[k]'h).2.1 pd=X:=⟨_,rfl⟩;rw[L];have aW:EZ ld d A7 pd (k+1)=EZ ld d A7 pd k+(if X && ! Jz (pd[k]'h) (pd.take k) then 1 else 0):=by
      simp only[EZ];rw[show pd.getD k (0,0,0)=pd[k]'h by simp[List.getD,List.getElem?_eq_getElem h],L]
     have W:=A1 aW;have aM:Hid (EZ ld d A7 pd k<=k):=TX _ _ _ _ _;generalize hkn:EZ ld d A7 pd k=kn at W aM ⊢;go_wp2;go_loopw [11,16] (λav jv wq=>∃i:Nat,i<=k/\jv=A0 i/\av=.bool (X && ! Jz (pd[k]'h) (pd.take i))/\Hid (A4 Aa w wq)) (λ_ jv _=>k-(intOf jv).toNat)
     ·exact⟨0,by omega,by go_num,by simp[Jz],aE⟩
     ·obtain⟨i,hi,rfl,rfl,aB⟩:=hrel;have hii:=BJ i;by_cases hil:i<k
      ·(have E:i<pd.length:=by omega);obtain⟨g,rfl,a0,a1⟩:=aA.o wr aB.o k h;have⟨g',e,b0,b1⟩:=aA.o wr aB.o i E;cases e;have e9:Jz (pd[k]'h) (pd.take (i+1))=(Jz (pd[k]'h) (pd.take i)||((pd[i]'E).1==(pd[k]'h).1&&(pd[i]'E).2.1==(pd[k]'h).2.1)):=Vo _ _ _ E;obtain⟨ko,aI⟩:∃ko,Jz (pd[k]'h) (pd.take i)=ko:=⟨_,rfl⟩;obtain⟨tk,aD⟩:∃tk,(pd[k]'h).2.1=tk:=⟨_,rfl⟩;obtain⟨ti,aQ⟩:∃ti,(pd[i]'E).2.1=ti:=⟨_,rfl⟩;obtain⟨sk,aJ⟩:∃sk,(pd[k]'h).1=sk:=⟨_,rfl⟩;obtain⟨si,aK⟩:∃si,(pd[i]'E).1=si:=⟨_,rfl⟩;rw[aI,aD,aQ,aJ,aK]at e9;rw[aI];rw[aD]at a1;rw[aQ]at b1;rw[aJ]at a0;rw[aK]at b0;have aF:=A1 e9;(have Y:(si==sk)=true\/(si==sk)=false:=by cases (si==sk)<;>simp);(have hd:(ti==tk)=true\/(ti==tk)=false:=by cases (ti==tk)<;>simp);rcases Y with Y|Y<;>rcases hd with hd|hd
       all_goals
        go_wp2;go_quiet (fail);go_wp2;go_roundw
        ·exact⟨i+1,by omega,by go_num,by rw[aF.o,Y,hd];cases X<;>cases ko<;>rfl,aB.o.a7 _⟩
        ·simp[intOf];omega
      ·(obtain rfl:i=k:=by omega);generalize aI:Jz (pd[i]'h) (pd.take i)=ko at W ⊢;have hk0:=aM.o;have ew:IntKind.i64.wrap ((kn:Int)+1)=(kn:Int)+1:=Eo (by omega);cases X<;>cases ko
       all_goals
        go_wp2;go_roundw
        ·exact⟨i+1,by omega,by go_num,by rw[W.o];simp,aB⟩
        ·simp[intOf];omega
  ·(obtain rfl:k=m:=by omega);go_wp2;go_ret;exact⟨rfl,O.o⟩
end
section
open Go.RowKit
def Fk(L:Nat->gD Pt)(pd:gD Pu)(ld A7:Int):Prop:=∀k:Nat,k<8->piece (L k) (max (-9223372036854775808) (AN A7 ld)) 9223372036854775807=refQ pd k (-9223372036854775808) 9223372036854775807 ld A7
def Sk(pd:gD Pu)(d a b ld A7:Int):(refQ pd d a b ld A7).length<=pd.length:=by
 have:=(Oy pd d a b ld A7 pd.length (Ao _)).2
 rwa [C5]at this
def Rel(L:Nat->gD Pt)(pd:gD Pu)(ld A7:Int):Prop:=∀k:Nat,k<8->(L k).filter (λx=>decide (AN A7 ld<=x.1))=refQ pd k (-9223372036854775808) 9223372036854775807 ld A7
def Sj(pd:gD Pu)(s a b l c a' I l' E:Int)(g:Int->Bool)(h:∀p∈pd,Gz s a' I l' E p=(Gz s a b l c p&&g p.2.1)):
 refQ pd s a' I l' E=(refQ pd s a b l c).filter (λx=>g x.1):=by
 have key:∀(L:gD Pu) (d:gD Pt),DP d->(∀p∈L,Gz s a' I l' E p=(Gz s a b l c p&&g p.2.1))->
  L.foldl (FA s a' I l' E) (d.filter λx=>g x.1)=(L.foldl (FA s a b l c) d).filter (λx=>g x.1):=by
  intro L
  induction L with
  | nil=>intro d _ _;rfl
  | cons p r ih=>
   intro d Y X;have O:=X p (by simp);simp only[Qr];by_cases q:Gz s a b l c p=true
   ·(have e1:FA s a b l c d p=Cc d p.2.1 p.2.2:=by unfold FA;rw[Ai q]);have W:FA s a' I l' E (d.filter λx=>g x.1) p=(Cc d p.2.1 p.2.2).filter (λx=>g x.1):=by
     unfold FA;rw[O,q,NP,Ui Y]
    rw[e1,W];exact ih _ (Lx Y _ _) λp z=>X p (BC _ z)
   ·(have q':Gz s a b l c p=false:=by simpa using q);(have e1:FA s a b l c d p=d:=by unfold FA;rw[q'];rfl);have W:FA s a' I l' E (d.filter λx=>g x.1) p=d.filter λx=>g x.1:=by
     unfold FA;rw[O,q',Wo];rfl
    rw[e1,W];exact ih _ Y λp z=>X p (BC _ z)
 exact key pd [] List.Pairwise.nil h
def Kz{t ld A7:Int}(d:Ay t):ED t ld A7=decide (AN A7 ld<=t):=(A0a A7 ld t d).symm
def Rel.dD{L:Nat->gD Pt}{pd:gD Pu}{ld A7:Int}(h:Rel L pd ld A7)(z:∀p∈pd,Ay p.2.1){k:Nat}(E:k<8)(a b:Int):
 piece (L k) (max a (AN A7 ld)) b=refQ pd k a b ld A7:=by
 have e:=Sj pd k (-9223372036854775808) 9223372036854775807 ld A7 a b ld A7 (λt=>decide (a<=t)&&decide (t<=b)) λp d=>by
  have⟨h1,h2⟩:=z p d;unfold Gz;have d1:=Cu h1;have d2:=Cu h2;rw[d1,d2];cases decide (p.1=(k:Int))<;>cases decide (a<=p.2.1)<;>cases decide (p.2.1<=b)<;>cases ED p.2.1 ld A7<;>rfl
 rw[e,<-h k E,W5];unfold piece
 congr 1
 funext x
 apply NQ.2;simp only[G3,E2];omega
def Rel.cG{L:Nat->gD Pt}{pd:gD Pu}{ld A7:Int}(h:Rel L pd ld A7)(d:∀p∈pd,Ay p.2.1):Fk L pd ld A7:=λ_ z=>h.dD d z _ _
def Rel.bU(ld A7:Int):Rel (λ_=>[]) [] ld A7:=λ_ _=>by simp[refQ]
def Rel.aF{L:Nat->gD Pt}{pd:gD Pu}{ld A7:Int}(h:Rel L pd ld A7)(O:∀k,k<8->DP (L k)){s:Nat}(hs8:s<8){t v:Int}(E:Ay t):
 Rel (EB L (AN A7 ld) s t v) (pd++[((s:Int),t,v)]) ld A7:=by
 intro k z;have W:refQ (pd++[((s:Int),t,v)]) k (-9223372036854775808) 9223372036854775807 ld A7=FA k (-9223372036854775808) 9223372036854775807 ld A7 (refQ pd k (-9223372036854775808) 9223372036854775807 ld A7) ((s:Int),t,v):=by
  unfold refQ;rw[NF];rfl
 rw[W,<-h k z];obtain⟨t1,t2⟩:=E;have d1:=Cu t1;have d2:=Cu t2;unfold FA Gz;simp only[d1,d2,Bool.and_true,Kz (⟨t1,t2⟩:Ay t)];unfold EB;by_cases d:AN A7 ld<=t
 ·rw[Ai d];unfold Hs;by_cases e:k=s
  ·subst e;have f:=Ui (O k z) (λx=>decide (AN A7 ld<=x)) t v;simp only[Cu d]at f ⊢;simp only[Cq]at f ⊢;simpa using f
  ·have I:¬(s:Int)=(k:Int):=λx=>e (by omega);simp[e,I]
 ·rw[Af d];have:decide (AN A7 ld<=t)=false:=Cv d;simp[this]
def MK{c d ld:Int}(h:c<=d):AN c ld<=AN d ld:=by
 unfold AN;split<;>split<;>omega
def Rel.eY{L I:Nat->gD Pt}{pd:gD Pu}{ld A7 d:Int}(h:Rel L pd ld A7)(W:∀p∈pd,Ay p.2.1)(hc:A7<=d)(hf:Hr L I (AN d ld)):Rel I pd ld d:=by
 intro k O;have ho:AN A7 ld<=AN d ld:=MK hc;have e:=Sj pd k (-9223372036854775808) 9223372036854775807 ld A7 (-9223372036854775808) 9223372036854775807 ld d (λt=>decide (AN d ld<=t)) λp E=>by
  unfold Gz;rw[Kz (W p E),Kz (W p E)];have:decide (AN d ld<=p.2.1)=(decide (AN A7 ld<=p.2.1)&&decide (AN d ld<=p.2.1)):=by
   apply NQ.2;simp only[G3,E2];omega
  rw[this];simp[Bool.and_assoc]
 have X:(L k).filter (λx=>decide (AN d ld<=x.1))=refQ pd k (-9223372036854775808) 9223372036854775807 ld d:=by
  rw[e,<-h k O,W5]
  congr 1
  funext x
  apply NQ.2;simp only[G3,E2];omega
 rw[<-X];rcases hf k O with q|q
 ·rw[q]
 ·rw[q];have z:L k=(L k).take (BF (L k) (AN d ld))++(L k).drop (BF (L k) (AN d ld)):=(E4 _ _).symm;have Y:((L k).take (BF (L k) (AN d ld))).filter (λx=>decide (AN d ld<=x.1))=[]:=by
   rw[W6];intro x hx;obtain⟨i,hi,rfl⟩:=A4y.1 hx;rw[BK]at hi;have:=Kf (l:=L k) (t:=AN d ld) (i:=i) (by omega) (by omega);rw[Qp];simp;omega
  conv=>rhs;rw[z,KO,Y,Fa]
def Hr.Be{L d:Nat->gD Pt}{o:Int}(h:Hr L d o){k:Nat}(z:k<8):(d k).length<=(L k).length:=by
 rcases h k z with e|e
 ·rw[e];exact Ao _
 ·rw[e,Cz];omega
def R6(F:Nat->FC)(g:Bs->Nat):∀(es:gD AO) (L:gD Bs),(es.map (·.1)).Nodup->(∀e∈es,e.1.data.toList∈L/\(F e.2).1.length<=g e.1.data.toList)->AU F es<=(L.map g).sum
 | [],L,_,_=>Ch _
 | e::r,L,hn,h=>by
  have⟨h1,h2⟩:=h e (BI ..);have E:=List.perm_cons_erase h1;have I:=(E.map g).sum_nat;rw[GW,Qm]at I;have d:=JR.1 hn;have ih:=R6 F g r (L.erase e.1.data.toList) d.2 λx z=>by
   have⟨q1,q2⟩:=h x (BC _ z);refine⟨(VW λO=>d.1 ?_).2 q1,q2⟩;(have:x.1=e.1:=by rw[<-FR x.1,<-FR e.1,O]);exact Cl.2 ⟨x,z,this⟩
  simp only[AU];omega
def Kn(ld d A7:Int)(pd:gD Pu)(i:Nat):Bool:=Ij ld d A7 (pd.getD i (0,0,0)).2.1 pd && ! Jz (pd.getD i (0,0,0)) (pd.take i)
def TY(ld d A7:Int)(pd:gD Pu):∀n,EZ ld d A7 pd n=((List.range n).filter (Kn ld d A7 pd)).length
 | 0=>rfl
 | n+1=>by
  rw[List.range_succ,KO,B3,<-TY ld d A7 pd n];simp only[EZ,Fu,List.filter_nil];cases hk:Kn ld d A7 pd n with
  | true=>unfold Kn at hk;rw[hk];simp
  | false=>unfold Kn at hk;rw[hk];simp
def Uy(pd:gD Pu)(a b:Int):∀n,n<=pd.length->(∃i,i<n/\(pd.getD i (0,0,0)).1=a/\(pd.getD i (0,0,0)).2.1=b)->
 ∃i,i<n/\((pd.getD i (0,0,0)).1=a/\(pd.getD i (0,0,0)).2.1=b)/\Jz (pd.getD i (0,0,0)) (pd.take i)=false
 | 0,_,⟨i,h,_⟩=>by omega
 | n+1,hn,⟨i,hi,h1,h2⟩=>by
  by_cases E:∃j,j<n/\(pd.getD j (0,0,0)).1=a/\(pd.getD j (0,0,0)).2.1=b
  ·have⟨j,j1,j2,j3⟩:=Uy pd a b n (by omega) E;exact⟨j,by omega,j2,j3⟩
  ·have z:i=n:=by
    rcases F9 i n with d|hge
    ·exact absurd ⟨i,d,h1,h2⟩ E
    ·omega
   subst z;refine⟨i,by omega,⟨h1,h2⟩,?_⟩;unfold Jz;rw[List.any_eq_false];intro q O;obtain⟨j,W,rfl⟩:=DG O;rw[BK]at W;simp only[G3,beq_iff_eq,not_and];intro I L;refine E ⟨j,by omega,?_⟩;rw[Qp]at I L;(have X:pd.getD j (0,0,0)=pd[j]'(by omega):=by rw[HL,Dz (by omega)];rfl);rw[X];exact⟨I.trans h1,L.trans h2⟩
def A03(ld d A7:Int)(pd l:gD Pu)(O:I3 l)(X:∀p∈l,∃q∈pd,q.1=p.1/\q.2.1=p.2.1)(ha:∀p∈l,∃q∈pd,ED q.2.1 ld A7=true/\Gw q.2.1 d=Gw p.2.1 d):
 l.length<=EZ ld d A7 pd pd.length:=by
 have E:(l.map λp=>(p.1,p.2.1)).Nodup:=by
  unfold I3 at O;unfold List.Nodup;rw[KG];exact O.imp λh e=>h (by simp only[Prod.mk.injEq]at e;exact e)
 have z:∀x∈l.map (λp=>(p.1,p.2.1)),x∈((List.range pd.length).filter (Kn ld d A7 pd)).map λi=>((pd.getD i (0,0,0)).1,(pd.getD i (0,0,0)).2.1):=λx Y=>by
  obtain⟨p,L,rfl⟩:=Cl.1 Y;have⟨q,hq,e1,e2⟩:=X p L;obtain⟨i,I,rfl⟩:=DG hq;have W:pd.getD i (0,0,0)=pd[i]'I:=by rw[HL,Dz I];rfl
  have⟨j,j1,⟨j2,j3⟩,j4⟩:=Uy pd p.1 p.2.1 pd.length (Ao _) ⟨i,I,by rw[W];exact⟨e1,e2⟩⟩;refine Cl.2 ⟨j,GV.2 ⟨KH.2 j1,?_⟩,by rw[j2,j3]⟩;unfold Kn;rw[j4,j3];have⟨r,hr,r1,r2⟩:=ha p L;have:Ij ld d A7 p.2.1 pd=true:=by
   unfold Ij;rw[Ma];exact⟨r,hr,by simp[r1,r2]⟩
  rw[this];rfl
 have:=II E z;rw[Fq,Fq,<-TY]at this;exact this
section
variable{bd:Int×Int}{P P':PD}{A:Ar}{sg cl:gD (Int×gD Pu)}{ol:Option (gD Pu)}{pd:gD Pu}{Ad:Nat}
def SI.dq{wa ld A7:Int}(h:SI bd A P pd Ad (AN A7 ld) sg cl ol)(O:BZ (AE wa))(hn:isNum (A.j.Ac+1)=true){n:Nat}(z:(Bj sg cl ol).length<=n)(aE:n<=1073741824)(aB:A.Ac+n<=4611686018427387904)(aI:A.Ac+n<=bd.2)(L:A.AR.length+P.Az.length+A.j.An.length+2*sg.length<=1073741824)(aF:∀p∈pd,Ay p.2.1)(aG:(A.aN P wa (AN A7 ld)).1=0):
 AU (A.aN P wa (AN A7 ld)).2.2.F (A.aN P wa (AN A7 ld)).2.2.D.A6<=300+150*EZ ld wa A7 pd pd.length:=by
 have⟨_,h2⟩:=h.aN O hn z aE aB aI L;have⟨sg',hS,hA,_,hperm,hnames,_⟩:=h2 aG;have hall:=h.Cy;have d:=Ik O (Bj sg cl ol);generalize hws:C3 wa (Bj sg cl ol)=ws at d hperm;generalize hP1:(A.aN P wa (AN A7 ld)).2.2=P1 at hS hnames ⊢;have aD:(Ax sg').Perm (Ec (AN A7 ld) ws).flatten:=by
  have:=hperm.flatten;unfold Ax;rw[NG];exact this
 have hcnt:(Ax sg').length<=EZ ld wa A7 pd pd.length:=by
  rw[aD.length_eq];refine A03 ld wa A7 pd _ (d.dr _) (λp hp=>?_) (λp hp=>?_)
  ·exact hall.2.1 p (d.DD p ((JC _ ws).subset hp))
  ·have⟨w,hw1,hw2⟩:=KJ.1 hp;have I:=(GV.1 hw1).2;rw[Ma]at I;obtain⟨r,hr,ho⟩:=I;have X:=KJ.2 ⟨w,Nl hw1,hr⟩;have⟨q,hq,e1,E⟩:=hall.2.1 r (d.DD r X);refine⟨q,hq,?_,?_⟩
   ·rw[Kz (aF q hq),E];exact ho
   ·have:=d.Gh w (Nl hw1) r hr p hw2;unfold BH at this;unfold Gw;rw[E];exact this
 have hseg:sg'.length<=(Ax sg').length:=by
  have:=HW (ws:=sg'.map (·.2)) λw O=>by
   obtain⟨x,W,rfl⟩:=Cl.1 O;exact hS.Er.1.2.2 x W
  rw[Fq]at this;unfold Ax;rw[NG];exact this
 obtain⟨g,Y⟩:∃g:Bs->Nat,g=λnm=>(P1.bs nm).elim 0 List.length:=⟨_,rfl⟩
 have hu:=R6 P1.F g P1.D.A6 (AJ::sg'.map λx=>AG x.1) hS.di.bk.Cg λe he=>by
  have hb:P1.bs e.1.data.toList=some (P1.F e.2).1:=by
   have hl:lookup P1.D.A6 e.1=some e.2:=by
    cases hk:lookup P1.D.A6 e.1 with
    | none=>exact absurd rfl (IN.1 hk e he)
    | some f=>
     have⟨i,hi,e1⟩:=DG (Eh hk);have⟨j,hj,E⟩:=DG he;have:i=j:=Jr hS.di.bk.Cg (by simpa using hi) (by simpa using hj) (by simp[e1,E]);subst this;rw[e1]at E;rw[<-E]
   unfold PD.bs PD.fl;rw[FR,hl];rfl
  exact⟨hnames _ (by rw[hb];simp),by rw[Y];dsimp only;rw[hb];exact Ao _⟩
 have hgi:g AJ<=12+8*sg'.length:=by
  rw[Y];dsimp only
  rcases hS.AZ.ix with⟨e,_⟩|e
  ·rw[e];simp
  ·rw[e];have hl:(Cn (A.aN P wa (AN A7 ld)).2.1.ix.Bd (A.aN P wa (AN A7 ld)).2.1.ix.sd).length=8+8*sg'.length:=by
    unfold Cn;rw[B3,CP,JE,<-hS.AZ.sd,Fq]
   simp only[Option.elim_some];rw[EJ,hl];omega
 have aH:((sg'.map λx=>AG x.1).map g).sum=17*(Ax sg').length+4*sg'.length:=by
  have key:∀l:gD (Int×gD Pu),(∀x∈l,x∈sg')->((l.map λx=>AG x.1).map g).sum=17*(Ax l).length+4*l.length:=by
   intro l
   induction l with
   | nil=>intro _;rfl
   | cons x r ih=>
    intro W;have e:=(hS.AZ.CD x (W x (BI ..))).2;have aA:=ih λy hy=>W y (BC _ hy);(have E:g (AG x.1)=17*x.2.length+4:=by rw[Y];dsimp only;rw[e];simp only[Option.elim_some];rw[EJ,IF]);simp only[GW,Qm,CA];rw[aA,E];unfold Ax;rw[M6,B3];omega
  exact key sg' λ_ h=>h
 rw[GW,Qm,aH]at hu;omega
end
def MR{l:gD Pu}(z:∀p∈l,Bm p){k t:Int}(h:¬(0<=k/\k<8)\/¬Ay t):Bz l k t=none:=P7.2 λp d e=>by
 have⟨h1,h2,_⟩:=z p d;obtain⟨E,I⟩:=e;rcases h with h|h
 ·exact h (by rw[<-E];exact h1)
 ·exact h (by rw[<-I];exact h2)
def A0R{a b:gD Pu}(X:∀p∈a,Bm p)(L:∀p∈b,Bm p){ld A7:Int}(h:∀k:Nat,k<8->refQ a k (-9223372036854775808) 9223372036854775807 ld A7=refQ b k (-9223372036854775808) 9223372036854775807 ld A7)(k t:Int)(ht:AN A7 ld<=t):Bz a k t=Bz b k t:=by
 by_cases O:0<=k/\k<8
 ·by_cases z:Ay t
  ·obtain⟨d,rfl⟩:∃d:Nat,k=d:=⟨k.toNat,by omega⟩;(have I:ED t ld A7=true:=by rw[Kz z];exact Cu ht);have e:=h d (by omega);obtain⟨t1,t2⟩:=z;have q:∀v,Bz a d t=some v↔Bz b d t=some v:=λv=>by
    have W:=MA (d:Int) (-9223372036854775808) 9223372036854775807 ld A7 (t,v) _ a rfl;have Y:=MA (d:Int) (-9223372036854775808) 9223372036854775807 ld A7 (t,v) _ b rfl;rw[e]at W;have:=W.symm.trans Y;exact⟨λE=>(this.1 ⟨⟨t1,t2,I⟩,E⟩).2,λE=>(this.2 ⟨⟨t1,t2,I⟩,E⟩).2⟩
   cases E:Bz a d t with
   | none=>
    cases hy:Bz b d t with
    | none=>rfl
    | some v=>rw[(q v).2 hy]at E;cases E
   | some v=>rw[(q v).1 E]
  ·rw[MR X (.inr z),MR L (.inr z)]
 ·rw[MR X (.inl O),MR L (.inl O)]
def RL{pd:gD Pu}(E:∀p∈pd,Bm p){n0 n:Nat}(I:n0<=n){ld A7:Int}(h:∀k:Nat,k<8->refQ (pd.take n0) k (-9223372036854775808) 9223372036854775807 ld A7=refQ (pd.take n) k (-9223372036854775808) 9223372036854775807 ld A7):C4 (AN A7 ld) (pd.take n0) (pd.take n):=by
 have z:∀p∈pd.take n0,p∈pd.take n:=λp E=>(List.take_sublist_take_left I).subset E
 refine⟨A0R (λp d=>E p (Ho d)) (λp d=>E p (Ho d)) h,λp d=>⟨p,z p d,rfl,rfl⟩,?_⟩;rw[BK,BK];omega
def Sh{L:Nat->gD Pt}{a b:gD Pu}{ld A7:Int}(h:Rel L a ld A7)(_ha:∀p∈b,Bm p)(O:C4 (AN A7 ld) a b):Rel L b ld A7:=λk z=>by
 rw[h k z];refine YZ λt I E d=>O.1 _ _ ?_;rw[Kz ⟨I,E⟩]at d;exact Ki d
section
variable{P:PD}{A:Ar}{a c m:Nat}
def Fit.aq:∀(I:gD (gD Pu)) (z:Int) (E:gD Int) (P:PD) (a c m:Nat),Fit P a c m->Fit (PD.aq I z E P).2.2.2 (a+I.length) (c+I.length) (m+Ds I)/\(PD.aq I z E P).2.2.1.length<=E.length+I.length
 | [],z,E,P,a,c,m,h=>⟨h,by simp[PD.aq]⟩
 | l::r,z,E,P,a,c,m,h=>by
  have L:=h.aK (z+1) l;have d:Ds (l::r)=(17*l.length+4)+Ds r:=by simp[Ds]
  rw[Tp];split
  ·exact⟨L.ai (by simp) (by simp) (by rw[d];omega),by simp⟩
  ·have⟨i1,i2⟩:=Fit.aq r (z+1) (E++[z+1]) _ _ _ _ L;exact⟨i1.ai (by simp;omega) (by simp;omega) (by rw[d];omega),by simp at i2 ⊢;omega⟩
def Fit.aH(h:Fit P a c m)(z:gD Int)(d:gD (gD Pu)):Fit (A.aH P z d).2.2 (a+d.length+2) (c+2*a+2*d.length+4) (m+Ds d+12+8*(z.length+d.length)):=by
 rw[S3];have I:=h.aP (A:=A);split
 ·exact I.ai (by omega) (by omega) (by omega)
 ·have⟨h2,h3⟩:=Fit.aq d (A.aP P).2.1.Ac z _ _ _ _ I;split
  ·exact h2.ai (by omega) (by omega) (by omega)
  ·have E:=h2.cD (A:={ (A.aP P).2.1 with Ac:=(PD.aq d (A.aP P).2.1.Ac z (A.aP P).2.2).2.1}) (PD.aq d (A.aP P).2.1.Ac z (A.aP P).2.2).2.2.1;split
   ·exact E.ai (by omega) (by omega) (by omega)
   ·unfold Ar.a8;have L:=Fit.az (A:=(({ (A.aP P).2.1 with Ac:=(PD.aq d (A.aP P).2.1.Ac z (A.aP P).2.2).2.1}:Ar).an (PD.aq d (A.aP P).2.1.Ac z (A.aP P).2.2).2.2.2 (PD.aq d (A.aP P).2.1.Ac z (A.aP P).2.2).2.2.1).2.1) E;split
    ·exact L.ai (by omega) (by omega) (by omega)
    ·exact L.aJ.ai (by omega) (by omega) (by omega)
def Fit.b1(h:Fit P a c m)(nm:gC)(s:Nat)(l:Bs):Fit (P.af nm s l).2.2 a c (m+(l.length+4)):=by
 have:=h.av nm (AT s l);rw[EJ]at this;exact this
def Fit.ek{J:Jn}(h:Fit P a c m):Fit (J.ax P).2.2 (a+1) (c+1) (m+12):=by
 unfold Jn.ax;have z:=h.au (Ab (Ah (J.Ac+1)));have d:=z.b1 (Ab (Ah (J.Ac+1))) (AI (Ah (J.Ac+1))) (AQ J.pd);rw[CP]at d;split
 ·exact z.ai (Ao _) (Ao _) (by omega)
 ·dsimp only
  split
  ·exact d
  ·exact d
def Fit.ea{J:Jn}(h:Fit P a c m)(p:Pu):Fit (J.aF P p).2.2.2 a c (m+21):=by
 unfold Jn.aF;cases J.AB with
 | none=>exact h.ai (Ao _) (Ao _) (by omega)
 | some x=>
  obtain⟨n,s⟩:=x;have d:=h.b1 (Ab (Ah n)) s (Bg p.1 p.2.1 p.2.2);rw[FB]at d;exact d
def Fit.fW{J:Jn}(h:Fit P a c m)(p:Pu):Fit (J.af P p).2.2.2 (a+1) (c+1) (m+33):=by
 unfold Jn.af;split
 ·split
  ·exact h.ek.ai (Ao _) (Ao _) (by omega)
  ·exact(h.ek.ea p).ai (Ao _) (Ao _) (by omega)
 ·exact(h.ea p).ai (by omega) (by omega) (by omega)
def Fit.fQ(h:Fit P a c m)(p:Pu):Fit (A.af P p).2.2.2 (a+1) (c+1) (m+33):=by
 unfold Ar.af;split
 ·exact h.I.ai (by omega) (by omega) (by omega)
 ·exact h.I.fW p
def Fit.gf(h:Fit P a c m):Fit (A.ad P).2.2 a c m:=by
 have d:=h.I (A:=A);have z:∀J:Jn,Fit (J.ad (A.I P).2.2).2 a c m:=λJ=>by
  unfold Jn.ad;cases J.AB with
  | none=>exact d
  | some x=>exact d.ad _
 unfold Ar.ad;split
 ·exact d
 ·split
  ·exact z _
  ·exact(z _).aJ
end
structure Wd (P:PD) (a m:Nat):Prop where
 A6:P.D.A6.length<=a
 AF:P.D.AF.length<=a
 FW:∀l∈P.D.As,l.length<=a
 Be:∀f,P.D.Aq f->(P.F f).1.length<=m
def Fit.wd{P:PD}{a c m:Nat}(h:Fit P a c m):Wd P a m:=⟨h.A6,h.AF,h.FW,h.Be⟩
def Wd.CZ{P:PD}{a c m a' m':Nat}(h:Wd P a m)(d:Fit P a' c m'):Fit P a c m:=⟨h.A6,h.AF,h.FW,d.Am,h.Be,d.Av,d.BG⟩
def BD(P:PD)(k:Nat):Prop:=∀f,P.D.Aq f->f<k
def BD.ai{P:PD}{k d:Nat}(h:BD P k)(z:k<=d):BD P d:=λf E=>Bn (h f E) z
def N2{k:Nat}:∀ {es:gD AO},(∀e∈es,e.2<k)->IX es<=k
 | [],_=>Ch _
 | e::r,h=>by
  have:=h e (BI ..);have:=N2 λx d=>h x (BC _ d);unfold IX;omega
def V6{k:Nat}:∀ {l:gD (gD AO)},(∀c∈l,∀e∈c,e.2<k)->Kv l<=k
 | [],_=>Ch _
 | c::r,h=>by
  have:=N2 (h c (BI ..));have:=V6 λx d=>h x (BC _ d);unfold Kv;omega
def BD.AV{P:PD}{k:Nat}(h:BD P k):P.D.AV<=k:=by
 have h1:=N2 λe d=>h _ (.inl ⟨e,d,rfl⟩);have h2:=N2 λe d=>h _ (.inr (.inl ⟨e,d,rfl⟩));have h3:=V6 λc z e d=>h _ (.inr (.inr ⟨c,z,e,d,rfl⟩));unfold DS.AV;omega
def BD.A6{P:PD}{k:Nat}(h:BD P k):∀e∈P.D.A6,e.2<k:=λe d=>h _ (.inl ⟨e,d,rfl⟩)
def Ip(P P':PD):Prop:=P'.D.AF=P.D.AF/\((P'.D.A6=P.D.A6/\P'.D.As=P.D.As)\/P'.D.As=P.D.As++[P'.D.A6])
def Ip.wd{P P':PD}{a m:Nat}(h:Ip P P')(z:Wd P a m)(E:P'.D.A6.length<=a)(I:∀f,P'.D.Aq f->(P'.F f).1.length<=m):Wd P' a m:=
 ⟨E,by rw[h.1];exact z.AF,λl d=>by
  rcases h.2 with⟨_,e⟩|e
  ·rw[e]at d;exact z.FW l d
  ·rw[e]at d;rcases AX.1 d with d|d
   ·exact z.FW l d
   ·simp at d;subst d;exact E,I⟩
def Ip.Am{P P':PD}(h:Ip P P'):∀l∈P'.D.As,l∈P.D.As\/l=P'.D.A6:=λl d=>by
 rcases h.2 with⟨_,e⟩|e
 ·rw[e]at d;exact .inl d
 ·rw[e]at d;rcases AX.1 d with d|d
  ·exact .inl d
  ·exact .inr (by simpa using d)
def Ip.Aq{P P':PD}(h:Ip P P'){p:Nat->Prop}(E:∀f,P.D.Aq f->p f)(z:∀e∈P'.D.A6,p e.2):∀f,P'.D.Aq f->p f:=by
 rintro f (⟨e,he,rfl⟩|⟨e,he,rfl⟩|⟨l,d,e,he,rfl⟩)
 ·exact z e he
 ·rw[h.1]at he;exact E _ (.inr (.inl ⟨e,he,rfl⟩))
 ·rcases h.Am l d with d|rfl
  ·exact E _ (.inr (.inr ⟨l,d,e,he,rfl⟩))
  ·exact z e he
section
variable{P P':PD}{A:Ar}{J:Jn}{a m k:Nat}
def Extra.dO{nm:Bs}(h:Extra P nm P'):Ip P P':=⟨h.AF,by
 rcases h.da with⟨d1,d2⟩|⟨_,d1,d2⟩
 ·exact .inl ⟨d1,d2⟩
 ·exact .inr (by rw[d2,d1])⟩
def Extra.Ff{nm:Bs}(h:Extra P nm P'):∀e∈P'.D.A6,e∈P.D.A6\/e.2=P.D.AV:=λe d=>by
 rcases h.da with⟨d1,_⟩|⟨_,d1,_⟩
 ·rw[d1]at d;exact .inl d
 ·rw[d1]at d;rcases AX.1 d with d|d
  ·exact .inl d
  ·simp at d;subst d;exact .inr rfl
def BD.bS{nm:Bs}(h:BD P k)(z:Extra P nm P'):BD P' (k+1):=by
 refine z.dO.Aq (λf E=>A4l (h f E)) λe d=>?_;rcases z.Ff e d with d|d
 ·exact A4l (h.A6 e d)
 ·have:=h.AV;omega
def Wd.bS{nm:Bs}(h:Wd P a m)(d:Extra P nm P')(O:P.dl+1<=a)(W:(P'.F P.D.AV).1.length<=m):Wd P' a m:=by
 unfold PD.dl at O;have E:∀f,(f≠P.D.AV->P.D.Aq f)->(P'.F f).1.length<=m:=λf E=>by
  by_cases e:f=P.D.AV
  ·rw[e];exact W
  ·rw[d.EC f e];exact h.Be f (E e)
 refine d.dO.wd h ?_ (d.dO.Aq (λf L=>E f λ_=>L) λe z=>E _ λI=>?_)
 ·rcases d.da with⟨d1,_⟩|⟨_,d1,_⟩
  ·rw[d1];omega
  ·rw[d1];simp;omega
 ·rcases d.Ff e z with z|z
  ·exact .inl ⟨e,z,rfl⟩
  ·exact absurd z I
def Ww(P:PD)(nm:Bs)(s:Nat)(l:Bs):((P.aI nm s l).2.F P.D.AV).1.length<=l.length+4:=by
 have⟨e1,e2⟩:=Lz P nm;have h:(P.au (Ab nm)).2.F P.D.AV=([],0):=by unfold PD.au;simp[upd]
 unfold PD.aI;split
 ·rw[h];simp
 ·rename_i E;have z:=e2 (Ez E);have⟨a1,a2,a3,a4⟩:=J2 (AT s l) z;have d:(((P.au (Ab nm)).2.af (Ab nm) s l).2.2.F P.D.AV).1.length<=l.length+4:=by
   show (((P.au (Ab nm)).2.av (Ab nm) (AT s l)).2.F P.D.AV).1.length<=l.length+4;rcases a4 with e|⟨j,e⟩
   ·rw[e,h];simp
   ·rw[e];simp only[upd,Cq,h,Fa,BK,EJ];omega
  split
  ·exact d
  ·unfold PD.ad CN;split
   ·exact d
   ·dsimp only
    split
    ·unfold upd;split
     ·rename_i e;rw[<-e];exact d
     ·exact d
    ·exact d
def Wd.aI(h:Wd P a m)(nm:Bs)(s:Nat)(l:Bs)(d:P.dl+1<=a)(z:l.length+4<=m):Wd (P.aI nm s l).2 a m:=h.bS (Ks P nm s l).1 d (AP (Ww P nm s l) z)
def BD.aI(h:BD P k)(nm:Bs)(s:Nat)(l:Bs):BD (P.aI nm s l).2 (k+1):=h.bS (Ks P nm s l).1
def Mo(P:PD)(x:gC):(P.ad x).2.D.A6=P.D.A6/\(P.ad x).2.D.AF=P.D.AF/\(P.ad x).2.D.As=P.D.As/\∀f,((P.ad x).2.F f).1=(P.F f).1:=by
 cases hx:lookup P.D.A6 x with
 | none=>
  have e:(P.ad x).2=P:=by unfold PD.ad CN;rw[hx]
  rw[e];exact⟨rfl,rfl,rfl,λ_=>rfl⟩
 | some g=>
  have⟨a1,a2,a3,a4⟩:=Jf hx;refine⟨a1,a2,a3,λf=>?_⟩;rcases a4 with e|e
  ·rw[e]
  ·rw[e];unfold upd;split
   ·rename_i d;rw[d]
   ·rfl
def Pp(z:P'.D.A6=P.D.A6)(h:P'.D.AF=P.D.AF)(E:P'.D.As=P.D.As)(f:Nat)(d:P'.D.Aq f):P.D.Aq f:=by
 unfold DS.Aq at d ⊢;rwa [z,h,E]at d
def Wd.aw(h:Wd P a m)(z:P'.D.A6=P.D.A6)(d:P'.D.AF=P.D.AF)(E:P'.D.As=P.D.As)(L:∀f,(P'.F f).1=(P.F f).1):Wd P' a m:=
 ⟨by rw[z];exact h.A6,by rw[d];exact h.AF,by rw[E];exact h.FW,λf I=>by rw[L];exact h.Be f (Pp z d E f I)⟩
def Wd.ad(h:Wd P a m)(x:gC):Wd (P.ad x).2 a m:=by
 have⟨h1,h2,h3,h4⟩:=Mo P x;exact h.aw h1 h2 h3 h4
def BD.ad(h:BD P k)(x:gC):BD (P.ad x).2 k:=by
 have⟨h1,h2,h3,_⟩:=Mo P x;exact λf d=>h f (Pp h1 h2 h3 f d)
def Wd.ay:∀(l:gD Bs) {P:PD},Wd P a m->Wd (PD.ay l P).2 a m
 | [],_,h=>h
 | nm::r,P,h=>by
  unfold PD.ay;split
  ·exact h.ad _
  ·exact Wd.ay r (h.ad _)
def BD.ay:∀(l:gD Bs) {P:PD},BD P k->BD (PD.ay l P).2 k
 | [],_,h=>h
 | nm::r,P,h=>by
  unfold PD.ay;split
  ·exact h.ad _
  ·exact BD.ay r (h.ad _)
def Wd.I(h:Wd P a m):Wd (A.I P).2.2 a m:=by unfold Ar.I;split<;>exact Wd.ay _ h
def BD.I(h:BD P k):BD (A.I P).2.2 k:=by unfold Ar.I;split<;>exact BD.ay _ h
def Wd.aJ(h:Wd P a m):Wd P.aJ.2 a m:=by
 unfold PD.aJ E9;dsimp only
 split
 ·refine⟨h.A6,h.A6,λl d=>(by cases d),?_⟩;rintro f (hf|hf|⟨l,d,_⟩)
  ·exact h.Be f (.inl hf)
  ·exact h.Be f (.inl hf)
  ·cases d
 ·exact⟨h.A6,h.AF,h.FW,h.Be⟩
def BD.aJ(h:BD P k):BD P.aJ.2 k:=by
 unfold PD.aJ E9;dsimp only
 split
 ·rintro f (hf|hf|⟨l,hl,_⟩)
  ·exact h f (.inl hf)
  ·exact h f (.inl hf)
  ·cases hl
 ·exact h
def Ov(P:PD)(x:gC):Ip P (P.aG x).2/\(P.aG x).2.F=P.F/\(∀e∈(P.aG x).2.D.A6,e∈P.D.A6)/\((P.aG x).1=0->(P.aG x).2.dl+1=P.dl):=by
 unfold PD.aG Dx;by_cases E:B9 P.D.A6 x<0
 ·rw[Ai E];exact⟨⟨rfl,.inl ⟨rfl,rfl⟩⟩,rfl,λ_ h=>h,λh=>(by cases h)⟩
 ·rw[Af E];have hl:=UA P.D.A6 x;dsimp only
  by_cases z:(bg P.D.n).1=true
  ·rw[Ai z];refine⟨⟨rfl,.inr rfl⟩,rfl,λe d=>?_,λ_=>?_⟩
   ·rcases AX.1 d with d|d
    ·exact Ho d
    ·exact KI d
   ·unfold PD.dl;simp;omega
  ·rw[Af z];exact⟨⟨rfl,.inl ⟨rfl,rfl⟩⟩,rfl,λ_ h=>h,λh=>absurd (Hi h) z⟩
def Wd.aG(h:Wd P a m)(x:gC):Wd (P.aG x).2 a m:=by
 have⟨h1,h2,h3,_⟩:=Ov P x;have:=UG P x;refine h1.wd h ?_ ?_
 ·have:=h.A6;unfold PD.dl at *;omega
 ·rw[h2];exact h1.Aq (λf d=>h.Be f d) λe z=>h.Be _ (.inl ⟨e,h3 e z,rfl⟩)
def BD.aG(h:BD P k)(x:gC):BD (P.aG x).2 k:=by
 have⟨h1,_,h3,_⟩:=Ov P x;exact h1.Aq (λf d=>h f d) λe z=>h.A6 e (h3 e z)
def Wd.aO:∀(l:gD Bs) {P:PD},Wd P a m->Wd (PD.aO l P).2 a m
 | [],_,h=>h
 | nm::r,P,h=>by
  unfold PD.aO;split
  ·exact h.aG _
  ·exact Wd.aO r (h.aG _)
def BD.aO:∀(l:gD Bs) {P:PD},BD P k->BD (PD.aO l P).2 k
 | [],_,h=>h
 | nm::r,P,h=>by
  unfold PD.aO;split
  ·exact h.aG _
  ·exact BD.aO r (h.aG _)
def Sg:∀(l:gD Bs) (P:PD),(PD.aO l P).1=0->(PD.aO l P).2.dl+l.length=P.dl
 | [],_,_=>rfl
 | nm::r,P,h=>by
  unfold PD.aO at h ⊢;split at h
  ·rename_i d;exact absurd h d
  ·rename_i d;rw[Af d];have:=Sg r _ h;have:=(Ov P (Ab nm)).2.2.2 (Ez d);simp only[CA];omega
def Uz{α:Type}(p:α->Bool):∀l:gD α,(l.filter p).length+(l.filter λx=>!p x).length=l.length
 | []=>rfl
 | x::r=>by
  have:=Uz p r;cases hx:p x with
  | true=>simp[hx];omega
  | false=>simp[hx];omega
def Xw(I:Hm P)(d:(A.az P).1=0):(A.az P).2.dl<=A.Az.length:=by
 have h1:=Sg (A.aV P) P d;have h:=I.aQ.cU;have h2:(A.aY P).length<=A.Az.length:=II (h.filter _) λx E=>by
  have:=(GV.1 E).2;simpa using this
 have z:(A.aY P).length+(A.aV P).length=P.Az.length:=by
  unfold Ar.aY Ar.aV;exact Uz _ _
 rw[IZ]at z;have h4:(PD.aO (A.aV P) P).2.dl=(A.az P).2.dl:=rfl;omega
def Tn:∀(L:gD (gD Pu)) (d:Int) (z:gD Int) {P:PD} {k:Nat},Wd P a m->BD P k->P.dl+L.length<=a->(∀l∈L,17*l.length+4<=m)->
 Wd (PD.aq L d z P).2.2.2 a m/\BD (PD.aq L d z P).2.2.2 (k+L.length)
 | [],_,_,_,_,h,hi,_,_=>⟨h,hi⟩
 | l::r,d,z,P,k,h,hi,hd,hl=>by
  simp only[CA]at hd;have O:Wd (P.aK (d+1) l).2 a m:=h.aI _ _ _ (by omega) (by rw[IF];exact hl l (BI ..));have I:BD (P.aK (d+1) l).2 (k+1):=hi.aI _ _ _;have hdl:(P.aK (d+1) l).2.dl<=P.dl+1:=N4 P _ _ _;have E:PD.aq (l::r) d z P=if (P.aK (d+1) l).1≠0 then ((P.aK (d+1) l).1,d+1,z,(P.aK (d+1) l).2) else PD.aq r (d+1) (z++[d+1]) (P.aK (d+1) l).2:=rfl
  rw[E];split
  ·exact⟨O,I.ai (by simp)⟩
  ·have⟨i1,i2⟩:=Tn r (d+1) (z++[d+1]) O I (by omega) λx W=>hl x (BC _ W);exact⟨i1,i2.ai (by simp;omega)⟩
def S7(P:PD)(oe nm:gC):Ip P (P.aR oe nm).2/\(P.aR oe nm).2.F=P.F/\∀e∈(P.aR oe nm).2.D.A6,∃d∈P.D.A6,d.2=e.2:=by
 unfold PD.aR D8;cases hx:lookup P.D.A6 oe with
 | none=>exact⟨⟨rfl,.inl ⟨rfl,rfl⟩⟩,rfl,λe h=>⟨e,h,rfl⟩⟩
 | some f=>
  dsimp only
  split
  ·exact⟨⟨rfl,.inl ⟨rfl,rfl⟩⟩,rfl,λe h=>⟨e,h,rfl⟩⟩
  ·dsimp only
   split
   ·refine⟨⟨rfl,.inr rfl⟩,rfl,λe h=>?_⟩;rcases AX.1 h with h|h
    ·exact⟨e,My _ _ _ _ e h,rfl⟩
    ·simp at h;subst h;exact⟨_,Eh hx,rfl⟩
   ·exact⟨⟨rfl,.inl ⟨rfl,rfl⟩⟩,rfl,λe h=>⟨e,h,rfl⟩⟩
def Wd.aR(h:Wd P a m)(oe nm:gC)(z:P.dl+1<=a):Wd (P.aR oe nm).2 a m:=by
 have⟨h1,h2,h3⟩:=S7 P oe nm;have:=UF P oe nm;refine h1.wd h (by unfold PD.dl at *;omega) ?_;rw[h2];exact h1.Aq (λf E=>h.Be f E) λe I=>by have⟨d,z,e2⟩:=h3 e I;rw[<-e2];exact h.Be _ (.inl ⟨d,z,rfl⟩)
def BD.aR(h:BD P k)(oe nm:gC):BD (P.aR oe nm).2 k:=by
 have⟨h1,_,h3⟩:=S7 P oe nm;exact h1.Aq (λf z=>h f z) λe E=>by have⟨d,hd,e2⟩:=h3 e E;rw[<-e2];exact h.A6 d hd
def Zn(h:Wd P a m)(I:BD P k)(d:Int)(sd:gD Int)(hd:P.dl+2<=a)(hl:12+8*sd.length<=m):Wd (P.an d sd).2 a m/\BD (P.an d sd).2 (k+1):=by
 have hlen:(Cn d sd).length=8+8*sd.length:=by unfold Cn;rw[B3,CP,JE]
 have E:Wd (P.aI Bw (AI AJ) (Cn d sd)).2 a m:=h.aI _ _ _ (by omega) (by omega);have z:=I.aI Bw (AI AJ) (Cn d sd);have:=N4 P Bw (AI AJ) (Cn d sd);unfold PD.an;split
 ·exact⟨E,z⟩
 ·exact⟨E.aR _ _ (by omega),z.aR _ _⟩
def A3Q(h:Wd P a m)(d:BD P k)(sd:gD Int)(z:P.dl+2<=a)(E:12+8*sd.length<=m):Wd (A.an P sd).2.2 a m/\BD (A.an P sd).2.2 (k+1):=by
 have:=Zn h d (A.j.Ac+1) sd z E;unfold Ar.an;split
 ·exact⟨h,d.ai (by omega)⟩
 ·split<;>exact this
def A3b(h:Wd P a m)(d:BD P k):Wd (A.a8 P).2.2 a m/\BD (A.a8 P).2.2 k:=by
 unfold Ar.a8;split
 ·exact⟨Wd.aO _ h,BD.aO _ d⟩
 ·exact⟨(Wd.aO _ h).aJ,(BD.aO _ d).aJ⟩
def A0l(h:Hm P)(d:P'.D.A6=P.D.A6):Hm P':=⟨by rw[d];exact h.Aq,by rw[d];exact h.Cg⟩
def Y9(A:Ar)(P:PD):(A.I P).2.2.D.A6=P.D.A6:=by
 have key:∀(l:gD Bs) (Q:PD),(PD.ay l Q).2.D.A6=Q.D.A6:=by
  intro l
  induction l with
  | nil=>intro Q;rfl
  | cons nm r ih=>
   intro Q;unfold PD.ay;split
   ·exact(Mo Q _).1
   ·rw[ih,(Mo Q _).1]
 unfold Ar.I;split<;>exact key _ _
def YJ(h:Wd P a m)(hi:BD P k)(hn:Hm P)(z:gD Int)(d:gD (gD Pu))(hd:A.Az.length+d.length+2<=a)(Y:∀l∈d,17*l.length+4<=m)(hk:12+8*(z.length+d.length)<=m):
 Wd (A.aH P z d).2.2 a m/\BD (A.aH P z d).2.2 (k+d.length+1):=by
 have O:Wd (A.I P).2.2 a m:=h.I;have L:BD (A.I P).2.2 k:=hi.I;have n1:Hm (A.I P).2.2:=A0l hn (Y9 A P);have E:(A.I P).2.1.Az=A.Az:=by unfold Ar.I;split<;>rfl
 unfold Ar.aH;dsimp only
 split
 ·exact⟨O,L.ai (by omega)⟩
 ·have X:Wd ((A.I P).2.1.az (A.I P).2.2).2 a m:=Wd.aO _ O;have W:BD ((A.I P).2.1.az (A.I P).2.2).2 k:=BD.aO _ L;split
  ·exact⟨X,W.ai (by omega)⟩
  ·rename_i h2;have I:=Xw n1 (Ez h2);rw[E]at I;have⟨w3,i3⟩:=Tn d (A.I P).2.1.Ac z X W (by omega) Y;have⟨d3,d4⟩:=N5 d (A.I P).2.1.Ac z ((A.I P).2.1.az (A.I P).2.2).2;split
   ·exact⟨w3,i3.ai (by omega)⟩
   ·have⟨w4,i4⟩:=A3Q (A:={ (A.I P).2.1 with Ac:=(PD.aq d (A.I P).2.1.Ac z ((A.I P).2.1.az (A.I P).2.2).2).2.1}) w3 i3 (PD.aq d (A.I P).2.1.Ac z ((A.I P).2.1.az (A.I P).2.2).2).2.2.1 (by omega) (by omega);split
    ·exact⟨w4,i4⟩
    ·exact A3b w4 i4
def Ve(h:BD P k)(J:Jn):BD (J.ax P).2.2 (k+1):=h.bS (Ng P J).1
def A3V(h:BD P k)(x:gC)(l:Bs):BD (P.av x l).2 k:=by
 cases hx:lookup P.D.A6 x with
 | none=>
  have e:(P.av x l).2=P:=by unfold PD.av BA;rw[hx]
  rw[e];exact h
 | some g=>
  have⟨a1,a2,a3,_⟩:=J2 l hx;exact λf d=>h f (Pp a1 a2 a3 f d)
def A3T(h:BD P k)(p:Pu):BD (A.af P p).2.2.2 (k+1):=by
 have d:∀(J:Jn) {Q:PD} {k:Nat},BD Q k->BD (J.aF Q p).2.2.2 k:=λJ Q k z=>by
  unfold Jn.aF;split
  ·exact z
  ·exact A3V z _ _
 unfold Ar.af;split
 ·exact h.I.ai (by omega)
 ·dsimp only
  unfold Jn.af;split
  ·split
   ·exact Ve h.I _
   ·exact d _ (Ve h.I _)
  ·exact(d _ h.I).ai (by omega)
def A3S(h:BD P k):BD (A.ad P).2.2 k:=by
 have d:BD (A.I P).2.2 k:=h.I;have z:∀J:Jn,BD (J.ad (A.I P).2.2).2 k:=λJ=>by
  unfold Jn.ad;split
  ·exact d
  ·exact d.ad _
 unfold Ar.ad;split
 ·exact d
 ·split
  ·exact z _
  ·exact(z _).aJ
end
def PD.a6(P:PD)(da:Int)(d:gD Int):PD:=⟨(Fh P.D P.F da d).1,(Fh P.D P.F da d).2⟩
def PR{c:FC}(h:0<=c.2/\c.2<=c.1.length)(t:Int):∃j:Nat,c.2<=j/\j<=c.1.length/\FU c t=(c.1.take j,(j:Int)):=by
 have hp:=Kg t (c.1.length-c.2.toNat);refine⟨c.2.toNat+FQ t (c.1.length-c.2.toNat),by omega,by omega,?_⟩;unfold FU;dsimp only
 rw[BK,JN (by omega)]
def A2G{c:FC}(h:0<=c.2/\c.2<=c.1.length)(t d:Int):FU (FU c t) d=FU c t:=by
 have⟨j,h1,h2,h3⟩:=PR h t;rw[h3];unfold FU;have z:(c.1.take j).length=j:=by rw[BK];omega
 have E:FQ d ((c.1.take j).length-((j:Int)).toNat)=0:=by
  have:=Kg d ((c.1.take j).length-((j:Int)).toNat);rw[z]at this ⊢;simp at this ⊢;omega
 dsimp only
 rw[E,Qk,ES];have:(c.1.take j).take j=c.1.take j:=by rw[KF];simp
 rw[this,z]
section
variable{bd:Int×Int}{P P':PD}{V V':View}{ix:Ix}{sg cl:gD (Int×gD Pu)}{lo:Option (Int×gD Pu)}{pd:gD Pu}{Ad:Nat}{o:Int}
def UR(s:gD AO)(I:gD Int)(names:gD gC)(F:Nat->FC)(hr:∀e∈s,0<=(F e.2).2/\(F e.2).2<=(F e.2).1.length):∀k,∀e∈s,(Ea s I names F k e.2=F e.2/\∀j,j<k->∀nm,names[j]?=some nm->lookup s nm≠some e.2)\/∃t,Ea s I names F k e.2=FU (F e.2) t:=by
 intro k
 induction k with
 | zero=>intro e _;exact .inl ⟨rfl,λj Y=>by omega⟩
 | succ k ih=>
  intro e he;have L:=ih e he;simp only[Ea];cases hn:names[k]? with
  | none=>
   dsimp only
   rcases L with⟨z,W⟩|z
   ·refine .inl ⟨z,λj Y nm d=>?_⟩;by_cases E:j=k
    ·subst E;rw[hn]at d;cases d
    ·exact W j (by omega) nm d
   ·exact .inr z
  | some nm=>
   dsimp only
   cases hl:lookup s nm with
   | none=>
    dsimp only
    rcases L with⟨z,W⟩|z
    ·refine .inl ⟨z,λj Y O d=>?_⟩;by_cases E:j=k
     ·subst E;rw[hn]at d;cases d;rw[hl];simp
     ·exact W j (by omega) O d
    ·exact .inr z
   | some f=>
    dsimp only
    by_cases X:e.2=f
    ·subst X;refine .inr ?_;simp only[upd,Cq];rcases L with⟨z,_⟩|⟨t,z⟩
     ·exact⟨_,by rw[z]⟩
     ·exact⟨t,by rw[z,A2G (hr e he)]⟩
    ·simp only[upd,X,Cd];rcases L with⟨z,W⟩|z
     ·refine .inl ⟨z,λj Y O d=>?_⟩;by_cases E:j=k
      ·subst E;rw[hn]at d;cases d;rw[hl];simp;exact λh=>X h.symm
      ·exact W j (by omega) O d
     ·exact .inr z
def A2A(s:gD AO)(d:gD Int)(F:Nat->FC)(E:∀e∈s,0<=(F e.2).2/\(F e.2).2<=(F e.2).1.length):Iz (vw F s) (vw (Ea s d (dList s) F s.length) s):=by
 intro m;unfold vw;cases hx:lookup s (Ab m) with
 | none=>exact .inl ⟨rfl,rfl⟩
 | some f=>
  have z:=Eh hx;have hlen:(dList s).length=s.length:=N7 s s.length (Ao _);have h:Ab m∈dList s:=(LC s).mem_iff.2 (Cl.2 ⟨_,z,rfl⟩);have⟨k,hk,hk2⟩:=DG h;rcases UR s d (dList s) F E s.length _ z with⟨_,L⟩|⟨t,I⟩
  ·exact absurd hx (L k (by omega) (Ab m) (by rw[Dz hk,hk2]))
  ·have⟨j,j1,j2,j3⟩:=PR (E _ z) t;refine .inr ⟨F f,j,rfl,j1,j2,?_⟩;dsimp only at I j3;simp[I,j3]
def UT(D:DS)(da:Int):Gp D da∈D.AF::D.As:=by
 unfold Gp;have d:=Kg da D.As.length;cases hx:FQ da D.As.length with
 | zero=>exact BI ..
 | succ k=>
  rw[hx]at d;refine BC _ ?_;dsimp only
  rw[HL,Dz (by omega)];exact BV _
def D9.a8(h:D9 bd V ix sg cl lo)(z:∀nm c,V nm=some c->Cb c)(hl:(Ax cl).length<=1099511627776):D9 bd V ix sg (cl++lo.toList) none:=by
 cases lo with
 | none=>simpa using h
 | some y=>
  obtain⟨n,l⟩:=y;have⟨h1,h2,c,h3,h4⟩:=h.Ac n l rfl;refine⟨h.DX,h.IU,h.sd,h.CD,λx d=>?_,h.An.bZ ?_,λn' l' e=>(by cases e),by simpa using h.Fc,λk E I L=>by simpa using h.Cy k E I L,h.Ex,h.Eg⟩
  ·rcases AX.1 d with d|d
   ·exact h.CX x d
   ·simp at d;subst d;exact⟨h1,h2,c,h3,z _ _ h3⟩
  ·unfold Jw;rw[h3];dsimp only
   rw[NM];exact h4.aZ (by constructor<;>omega) h2
def DI.a6(h:DI bd P pd Ad o)(da:Int)(d:gD Int)(hpl:pd.length<=1099511627776):
 DI bd (P.a6 da d) pd Ad o/\∃n,Ad<=n/\n<=pd.length/\∀I q,o<=I->C4 I (pd.take n) q->DI bd (P.a6 da d) q Ad I/\Reads bd (P.a6 da d) q I:=by
 have W:=UT P.D da;generalize Y:Gp P.D da=s at W;have hr:∀e∈s,0<=(P.F e.2).2/\(P.F e.2).2<=(P.F e.2).1.length:=λe he=>by
  have⟨ix,sg,cl,lo,nb,hL,_⟩:=h.DZ s W;have hv:vw P.F s e.1.data.toList=some (P.F e.2):=by
   unfold vw;rw[FR];cases hk:lookup s e.1 with
   | none=>exact absurd rfl (IN.1 hk e he)
   | some g=>
    have⟨i,hi,e1⟩:=DG (Eh hk);have⟨j,hj,e2⟩:=DG he;have:i=j:=Jr (h.Cg s W) (by simpa using hi) (by simpa using hj) (by simp[e1,e2]);subst this;rw[e1]at e2;rw[<-e2];rfl
  exact hL.Eg _ _ hv
 have aE:=A2A s d P.F hr;have aF:(P.a6 da d).fl=vw (Ea s d (dList s) P.F s.length) s:=by
  funext m
  unfold PD.a6 PD.fl Fh vw;dsimp only
  rw[Y]
 have⟨ix,sg,cl,lo,n,hL,hd,n1,n2,n3⟩:=(h.DZ s W).CW aE;rw[<-aF]at hL hd;have n4:=n3.2.2;rw[BK,B3,B3]at n4;have aB:(Ax cl).length<=1099511627776:=by omega
 have hC:=hL.a8 hd aB;have E:Ax (cl++lo.toList)=Ax cl++EY lo:=by cases lo<;>simp[Ax,EY]
 have hq:C4 o (Ax sg++Ax (cl++lo.toList)) (pd.take n):=by rw[E,<-Ci];exact n3
 have hH:Holds bd (P.a6 da d).fl pd Ad o:=⟨ix,sg,_,none,n,hC,n2,hq,λn' l e=>(by cases e),λ_=>n1⟩;have L:BB (P.a6 da d)=[(P.a6 da d).D.A6]:=by unfold BB PD.a6 Fh;rfl
 have O:(P.a6 da d).D.A6=s:=by unfold PD.a6 Fh;dsimp only;exact Y
 have mk:∀I q,Holds bd (P.a6 da d).fl q Ad I->DI bd (P.a6 da d) q Ad I:=λI q hq=>by
  refine⟨λx z=>?_,λx z=>?_,λx z=>?_,by rw[L];simp⟩
  ·rw[L]at z;simp at z;subst z;exact hq
  ·rw[L]at z;simp at z;subst z;rw[O];exact h.Aq s W
  ·rw[L]at z;simp at z;subst z;rw[O];exact h.Cg s W
 refine⟨mk o pd hH,n,n1,n2,λI q ho X=>?_⟩;have aD:=(hq.bj ho).AH X;have aA:Ad<=q.length:=by
  have:=X.2.2;rw[BK]at this;omega
 exact⟨mk I q (Holds.bG hC aD aA),Whole.bA ⟨ix,sg,_,none,hC,by rw[E,B3];omega,by simpa[EY] using aD⟩⟩
end
def Cs(t:Nat):Int×Int:=(t,700000*(t:Int))
def HF{t d:Nat}(h:t<=d):Ia (Cs t) (Cs d):=⟨by simp only[Cs];omega,by simp only[Cs];omega⟩
structure PB (P:PD) (t:Nat):Prop where
 CZ:Fit P (3*t+20) (3000000*(t+1)) (40*t+1000)
 Aq:BD P (700000*(t+1))
 refQ:0<=P.D.n.Bk/\P.D.n.Bk<=t
 JB:0<=P.D.n.fulls/\P.D.n.fulls<=t
def PB.ai{P:PD}{t d:Nat}(h:PB P t)(ht:t<=d):PB P d:=
 ⟨h.CZ.ai (by omega) (by omega) (by omega),h.Aq.ai (by omega),by have:=h.refQ;omega,by have:=h.JB;omega⟩
def I0(P:PD)(e:Int)(P':PD):Prop:=(e=0/\P'.D.n.Bk=P.D.n.Bk/\P'.D.n.fulls=P.D.n.fulls/\P'.D.n.Bh=P.D.n.Bh)\/
 (e=5/\P'.D.n.Bk=P.D.n.Bk+1/\P'.D.n.fulls=P.D.n.fulls)\/(e=6/\P'.D.n.Bk=P.D.n.Bk+1/\P'.D.n.fulls=P.D.n.fulls+1/\P'.D.n.Bh=P.D.n.Bh)
section
variable{bd:Int×Int}{P P':PD}{A:Ar}{sg cl:gD (Int×gD Pu)}{ol:Option (gD Pu)}{pd:gD Pu}{Ad:Nat}{o:Int}{t:Nat}
def CC.dz{e:Int}(h:CC P.D.n e P'.D.n)(z:PB P t)(ht:t<=330000)(he:e=0\/e=5\/e=6):I0 P e P':=by
 have h1:=z.refQ;have h2:=z.JB;have E:wrap64 (P.D.n.Bk+1)=P.D.n.Bk+1:=by unfold wrap64;omega
 have I:wrap64 (P.D.n.fulls+1)=P.D.n.fulls+1:=by unfold wrap64;omega
 rcases h with⟨a,b,c,d,f⟩|⟨a,b,c⟩|⟨a,b,c,d⟩
 ·exact .inl ⟨by omega,c,d,f⟩
 ·exact .inr (.inl ⟨a,b.trans E,c⟩)
 ·exact .inr (.inr ⟨a,b.trans E,c.trans I,d⟩)
def I0.refQ{e:Int}(h:I0 P e P')(d:PB P t):(0<=P'.D.n.Bk/\P'.D.n.Bk<=(t+1:Nat))/\0<=P'.D.n.fulls/\P'.D.n.fulls<=(t+1:Nat):=by
 have h1:=d.refQ;have h2:=d.JB;rcases h with⟨_,b,c,_⟩|⟨_,b,c⟩|⟨_,b,c,_⟩<;>rw[b,c]<;>omega
def YI{l:gD Int}(d:l.Pairwise (· < ·)){t:Nat}(h:∀x∈l,1<=x/\x<=t):l.length<=t:=by
 have:=II (l':=(List.range t).map λ(i:Nat)=>(i:Int)+1) (d.imp λh=>Wi h) λx z=>by
  have⟨h1,h2⟩:=h x z;exact Cl.2 ⟨(x-1).toNat,KH.2 (by omega),by omega⟩
 simpa using this
structure VJ (A:Ar) (P:PD) (sg cl:gD (Int×gD Pu)) (ol:Option (gD Pu)) (t:Nat):Prop where
 j:0<=A.j.Ac/\A.j.Ac<=t
 jn:isNum (A.j.Ac+1)=true
 s:0<=A.Ac/\A.Ac<=700000*(t:Int)
 An:A.j.An.length<=t
 sd:A.ix.sd.length<=t/\sg.length<=t
 Cy:(Bj sg cl ol).length<=t/\(Ax cl++ol.getD []).length<=t
 Az:P.Az.length<=3*t+20
 Il:A.Az.length<=2*t+1
def SI.bO(h:SI (Cs t) A P pd Ad o sg cl ol)(hp:PB P t)(hl:pd.length<=t)(ht:t<=330000):VJ A P sg cl ol t:=by
 have Y:=h.AZ.F4.1;have L:=h.Er.2.1;have h3:=h.AZ.EI.1;have O:=h.Er.2.2;simp only[Cs]at L O;have hall:=h.Cy.2.2;have h5:(Bj sg cl ol).length=(Ax sg).length+(Ax cl++ol.getD []).length:=by unfold Bj;rw[B3]
 have hseg:sg.length<=(Ax sg).length:=by
  have:=HW (ws:=sg.map (·.2)) λw hw=>by
   obtain⟨x,d,rfl⟩:=Cl.1 hw;exact h.Er.1.2.2 x d
  rw[Fq]at this;unfold Ax;rw[NG];exact this
 have hsl:A.ix.sd.length=sg.length:=by rw[<-h.AZ.sd,Fq]
 have z:A.j.An.length<=t:=by
  refine YI h.AZ.Hz λx d=>?_;rw[h.AZ.bY]at d;have X:∀y∈cl,1<=y.1/\y.1<=t:=λy E=>by
   have q:=(h.AZ.CX y E).1;have W:=q.1;unfold isNum at W;simp at W;have:=q.2;omega
  cases ol with
  | none=>
   obtain⟨y,E,rfl⟩:=Cl.1 d;exact X y E
  | some l=>
   unfold shut at d;rw[EG]at d;rcases AX.1 d with d|d
   ·obtain⟨y,E,rfl⟩:=Cl.1 d;exact X y E
   ·simp at d;have q:=h.AZ.AB.2.2.2.2;unfold isNum at q;simp at q;omega
 have I:P.Az.length<=3*t+20:=by rw[IZ];exact hp.CZ.A6
 refine⟨⟨Y,L⟩,by unfold isNum;simp;omega,⟨h3,O⟩,z,⟨by omega,by omega⟩,⟨by omega,by omega⟩,I,?_⟩;unfold Ar.Az;simp only[B3,CA,Fq];omega
end
structure St (t:Nat) (A:Ar) (P:PD) (pd:gD Pu) (Ad:Nat) (o:Int) (ro:Bool):Prop where
 pb:PB P t
 di:DI (Cs t) P pd Ad o
 rd:Reads (Cs t) P pd o
 si:ro=false->∃sg cl ol,SI (Cs t) A P pd Ad o sg cl ol/\A.AR.length<=3*t+20
 pu:∀p∈pd,Bm p
 Be:pd.length<=t
 le:Ad<=pd.length
 Bh:P.D.n.Bh=false
section
variable{P P':PD}{A A':Ar}{pd:gD Pu}{Ad:Nat}{o:Int}{t:Nat}{ro:Bool}
def Fl.bj{bd:Int×Int}{V:View}{z n:Int}{d:Nat}(h:Fl bd V pd Ad o n d)(E:o<=z):Fl bd V pd Ad z n d:=by
 obtain⟨ix,sg,cl,l,nb,c,L,I,O,r⟩:=h;exact⟨ix,sg,cl,l,nb,c,L,I,O.bj E,r⟩
def SI.bj{bd:Int×Int}{sg cl:gD (Int×gD Pu)}{ol:Option (gD Pu)}{z:Int}(h:SI bd A P pd Ad o sg cl ol)(d:o<=z):SI bd A P pd Ad z sg cl ol:=
 ⟨h.di.bj d,h.AZ,by have⟨nb,h1,h2,h3⟩:=h.HY;exact⟨nb,h1,h2.bj d,h3⟩,h.GH,λl e=>by
  have⟨f,h1,h2⟩:=h.AB l e
  exact⟨f,h1,λs E=>(h2 s E).imp id λq=>⟨q.1,q.2.bj d⟩⟩,h.CE,h.Er⟩
def St.bj{z:Int}(h:St t A P pd Ad o ro)(d:o<=z):St t A P pd Ad z ro:=
 ⟨h.pb,h.di.bj d,h.rd.bj d,λe=>by have⟨sg,cl,ol,h1,h2⟩:=h.si e;exact⟨sg,cl,ol,h1.bj d,h2⟩,h.pu,h.Be,h.le,h.Bh⟩
def St.ai{z:Nat}(h:St t A P pd Ad o ro)(d:t<=z):St z A P pd Ad o ro:=
 ⟨h.pb.ai d,h.di.aW (HF d),h.rd.aW (HF d),λe=>by have⟨sg,cl,ol,h1,h2⟩:=h.si e;exact⟨sg,cl,ol,h1.aW (HF d),by omega⟩,h.pu,by have:=h.Be;omega,h.le,h.Bh⟩
def St.cV{q:gD Pu}(E:PB P t)(z:DI (Cs t) P q Ad o)(O:Reads (Cs t) P q o)(I:∀p∈q,Bm p)(L:q.length<=t)(h:Ad<=q.length)(d:P.D.n.Bh=false):St t A P q Ad o true:=
 ⟨E,z,O,λe=>(by cases e),I,L,h,d⟩
def St.af(h:St t A P pd Ad o false)(ht:t+1<=330000)(p:Pu)(O:Bm p):
 PB (A.af P p).2.2.2 (t+1)/\I0 P (A.af P p).2.1 (A.af P p).2.2.2/\DI (Cs (t+1)) (A.af P p).2.2.2 (pd++[p]) Ad o/\
  ((A.af P p).1=true->Reads (Cs (t+1)) (A.af P p).2.2.2 (pd++[p]) o)/\((A.af P p).1=false->DI (Cs (t+1)) (A.af P p).2.2.2 pd Ad o/\Reads (Cs (t+1)) (A.af P p).2.2.2 pd o)/\
  ((A.af P p).2.1=0->(A.af P p).1=true/\St (t+1) (A.af P p).2.2.1 (A.af P p).2.2.2 (pd++[p]) Ad o false)/\((A.af P p).2.1=6->P.D.n.Av-AU P.F P.D.A6<200):=by
 have⟨sg,cl,ol,hS,hll⟩:=h.si rfl;have X:=hS.bO h.pb h.Be (by omega);have hj:=X.j;have W:=hS.aW (HF (ER t));have⟨a1,a2,a3,a4⟩:=W.af (λ_=>⟨X.jn,by simp only[Cs];omega⟩) p O;have z:=hS.fh (λ_=>X.jn) p O (by omega);have d:=(A37 A P p).dz h.pb (by omega) z;have⟨r1,r2⟩:=d.refQ h.pb;have L:PB (A.af P p).2.2.2 (t+1):=⟨(h.pb.CZ.fQ p).ai (by omega) (by omega) (by omega),(A3T h.pb.Aq p).ai (by omega),r1,r2⟩;have hlen:=h.Be;have hle:=h.le;refine⟨L,d,a1,a2,a3,λe=>?_,λe=>A3U e⟩;have⟨b1,b2,b3⟩:=a4 e;refine⟨b1,L,a1,a2 b1,λ_=>⟨sg,cl,_,b2,by rw[b3];simp⟩,λq I=>?_,by simp;omega,by simp;omega,?_⟩
 ·rcases AX.1 I with I|I
  ·exact h.pu q I
  ·simp at I;subst I;exact O
 ·rcases d with⟨_,_,_,E⟩|⟨E,_⟩|⟨E,_⟩
  ·rw[E];exact h.Bh
  ·rw[e]at E;cases E
  ·rw[e]at E;cases E
def St.ad(h:St t A P pd Ad o false)(ht:t+1<=330000):
 PB (A.ad P).2.2 (t+1)/\I0 P (A.ad P).1 (A.ad P).2.2/\DI (Cs (t+1)) (A.ad P).2.2 pd Ad o/\Reads (Cs (t+1)) (A.ad P).2.2 pd o/\
  ((A.ad P).1=0->St (t+1) (A.ad P).2.1 (A.ad P).2.2 pd pd.length o false)/\(A.ad P).1≠6:=by
 have⟨sg,cl,ol,hS,hll⟩:=h.si rfl;have I:=hS.aW (HF (ER t));have⟨⟨a1,a2⟩,a3⟩:=I.ad;have hcode:=hS.gq (by omega);have d:=(A36 A P).dz h.pb (by omega) (by omega);have⟨r1,r2⟩:=d.refQ h.pb;have E:PB (A.ad P).2.2 (t+1):=⟨h.pb.CZ.gf.ai (by omega) (by omega) (by omega),(A3S h.pb.Aq).ai (by omega),r1,r2⟩;have hlen:=h.Be;refine⟨E,d,a1,a2,λe=>?_,Vl A P⟩;have⟨b1,b2,b3⟩:=a3 e;refine⟨E,b1.di,a2,λ_=>⟨sg,cl,ol,b1,by rw[b2];simp⟩,h.pu,by omega,Ao _,?_⟩;rcases d with⟨_,_,_,z⟩|⟨z,_⟩|⟨z,_⟩
 ·rw[z];exact h.Bh
 ·rw[e]at z;cases z
 ·rw[e]at z;cases z
def PB.aH{sg cl:gD (Int×gD Pu)}{ol:Option (gD Pu)}(h:PB P t)(Y:Hm P)(X:VJ A P sg cl ol t)(ht:t+1<=330000)(E:gD Int)(d:gD (gD Pu))(hk:E.length<=t)(hf:d.length<=t)(L:∀l∈d,l.length<=t)(O:(A.aH P E d).1=0\/(A.aH P E d).1=5\/(A.aH P E d).1=6):PB (A.aH P E d).2.2 (t+1)/\I0 P (A.aH P E d).1 (A.aH P E d).2.2:=by
 have z:=(A3Z A P E d).dz h (by omega) O;have⟨r1,r2⟩:=z.refQ h;have hc:=X.Il;have W:=h.CZ.aH (A:=A) E d;have⟨w,i⟩:=YJ (a:=3*(t+1)+20) (m:=40*(t+1)+1000) (A:=A) (h.CZ.ai (a':=3*(t+1)+20) (m':=40*(t+1)+1000) (by omega) (Ao _) (by omega)).wd h.Aq Y E d (by omega) (λl I=>by have:=L l I;omega) (by omega);exact⟨⟨(w.CZ W).ai (Ao _) (by omega) (Ao _),i.ai (by omega),r1,r2⟩,z⟩
def St.aS{wa:Int}(h:St t A P pd Ad o false)(Y:BZ (AE wa))(ht:t+1<=330000):
 PB (A.aS P wa).2.2 (t+1)/\I0 P (A.aS P wa).1 (A.aS P wa).2.2/\DI (Cs (t+1)) (A.aS P wa).2.2 pd Ad o/\Reads (Cs (t+1)) (A.aS P wa).2.2 pd o/\
  ((A.aS P wa).1=0->St (t+1) (A.aS P wa).2.1 (A.aS P wa).2.2 pd pd.length o false):=by
 have⟨sg,cl,ol,hS,hll⟩:=h.si rfl;have E:=hS.bO h.pb h.Be (by omega);have⟨n1,n2⟩:=E.Cy;have⟨n3,n4⟩:=E.sd;have n5:=E.Az;have n6:=E.An;have n7:=E.s;have aA:=hS.aW (HF (ER t));have⟨⟨a1,a2⟩,a3⟩:=aA.aS Y E.jn n1 (by omega) (by omega) (by simp only[Cs];omega) (by omega);have L:=hS.gj Y E.jn n1 (by omega) (by omega) (by omega);have hp:=hS.AZ.pd hS.CE;have O:=Ik Y (Ax cl++ol.getD []);have hfl:=HW O.ne;have hfl2:=O.Be;have e:A.aS P wa=A.aH P A.ix.sd (C3 wa (Ax cl++ol.getD [])):=by
  unfold Ar.aS;rw[hp,Af (by simp)]
 have z:=h.pb.aH (A:=A) h.di.bk E ht A.ix.sd (C3 wa (Ax cl++ol.getD [])) n3 (by omega) (λl hl=>by
  have:=(VR hl).length_le
  omega) (by rw[<-e];exact L)
 rw[<-e]at z;obtain⟨W,d⟩:=z;have hlen:=h.Be;refine⟨W,d,a1,a2,λX=>?_⟩;have⟨sg',b1,b2,_⟩:=a3 X;refine⟨W,b1.di,a2,λ_=>⟨sg',[],none,b1,by rw[b2];simp⟩,h.pu,by omega,Ao _,?_⟩;rcases d with⟨_,_,_,I⟩|⟨I,_⟩|⟨I,_⟩
 ·rw[I];exact h.Bh
 ·rw[X]at I;cases I
 ·rw[X]at I;cases I
def St.aN{wa:Int}(h:St t A P pd Ad o false)(hw:BZ (AE wa))(ht:t+1<=330000):
 PB (A.aN P wa o).2.2 (t+1)/\I0 P (A.aN P wa o).1 (A.aN P wa o).2.2/\DI (Cs (t+1)) (A.aN P wa o).2.2 pd Ad o/\Reads (Cs (t+1)) (A.aN P wa o).2.2 pd o/\
  ((A.aN P wa o).1=0->St (t+1) (A.aN P wa o).2.1 (A.aN P wa o).2.2 pd pd.length o false):=by
 have⟨sg,cl,ol,hS,hll⟩:=h.si rfl;have I:=hS.bO h.pb h.Be (by omega);have⟨n1,n2⟩:=I.Cy;have⟨n3,n4⟩:=I.sd;have n5:=I.Az;have n6:=I.An;have n7:=I.s;have aB:=hS.aW (HF (ER t));have⟨⟨a1,a2⟩,a3⟩:=aB.aN hw I.jn n1 (by omega) (by omega) (by simp only[Cs];omega) (by omega);have O:=hS.ga hw I.jn n1 (by omega) (by omega) (by omega);have hp:=hS.AZ.pd hS.CE;have W:=Ik hw (Bj sg cl ol);have hfl:=HW W.ne;have hfl2:=W.Be;have L:=Lp sg o (C3 wa (Bj sg cl ol));have aA:=L.length_eq;have hal:(Ec o (C3 wa (Bj sg cl ol))).length<=(C3 wa (Bj sg cl ol)).length:=KK _ _;rw[B3,Fq]at aA;have hks:(BX sg o (C3 wa (Bj sg cl ol))).1.length=(H7 sg o (C3 wa (Bj sg cl ol))).length:=by rw[Lq,Fq]
 have e:A.aN P wa o=A.aH P ((BX sg o (C3 wa (Bj sg cl ol))).1.mergeSort λx y=>decide (x<=y)) (BX sg o (C3 wa (Bj sg cl ol))).2:=by
  unfold Ar.aN;rw[hS.AZ.ck];dsimp only
  have z:sg.flatMap (·.2)++(P.pd A.j.An).1=Bj sg cl ol:=by rw[hp];rfl
  rw[z,hp,Af (by simp)]
 have E:=h.pb.aH (A:=A) h.di.bk I ht ((BX sg o (C3 wa (Bj sg cl ol))).1.mergeSort λx y=>decide (x<=y)) (BX sg o (C3 wa (Bj sg cl ol))).2 (by rw[Qo];omega) (by omega) (λl hl=>by
  have:=(VR (Km hl)).length_le
  omega) (by rw[<-e];exact O)
 rw[<-e]at E;obtain⟨X,d⟩:=E;have hlen:=h.Be;refine⟨X,d,a1,a2,λY=>?_⟩;have⟨sg',b1,b2,_⟩:=a3 Y;refine⟨X,b1.di,a2,λ_=>⟨sg',[],none,b1,by rw[b2];simp⟩,h.pu,by omega,Ao _,?_⟩;rcases d with⟨_,_,_,z⟩|⟨z,_⟩|⟨z,_⟩
 ·rw[z];exact h.Bh
 ·rw[Y]at z;cases z
 ·rw[Y]at z;cases z
def St.dq{wa ld A7:Int}(h:St t A P pd Ad (AN A7 ld) false)(E:BZ (AE wa))(ht:t+1<=330000)(z:(A.aN P wa (AN A7 ld)).1=0):
 AU (A.aN P wa (AN A7 ld)).2.2.F (A.aN P wa (AN A7 ld)).2.2.D.A6<=300+150*EZ ld wa A7 pd pd.length:=by
 have⟨sg,cl,ol,hS,hll⟩:=h.si rfl;have d:=hS.bO h.pb h.Be (by omega);have⟨n1,n2⟩:=d.Cy;have⟨n3,n4⟩:=d.sd;have n5:=d.Az;have n6:=d.An;have n7:=d.s;exact(hS.aW (HF (ER t))).dq E d.jn n1 (by omega) (by omega) (by simp only[Cs];omega) (by omega) (λp I=>(h.pu p I).2.1) z
def St.aU(d:PB P t)(I:DI (Cs t) P pd Ad o)(L:Reads (Cs t) P pd o)(O:∀p∈pd,Bm p)(W:pd.length<=t)(z:Ad<=pd.length)(h:P.D.n.Bh=false)(ht:t<=330000):
 ∃A E,Ar.aU P=.ok (A,E)/\St t A P pd Ad o false/\C4 o E pd/\(∀p∈E,Bm p):=by
 have⟨A',sg,cl,h1,h2,h3,h4⟩:=SI.aU I (by simp only[Cs];omega) L z (by omega);refine⟨A',_,h1,⟨d,I,L,λ_=>⟨sg,cl,none,h2,?_⟩,O,W,z,h⟩,h3,λp d=>?_⟩
 ·rw[h4];have h5:(A'.aY P).length<=P.Az.length:=KK _ _;have h6:P.Az.length<=3*t+20:=by rw[IZ];exact d.CZ.A6
  omega
 ·rcases AX.1 d with d|d
  ·exact h2.AZ.dc p d
  ·exact h2.AZ.b4 p d
def PB.bT(h:PB P t)(n:DN)(E:n.Av=P.D.n.Av)(d:0<=n.BG/\n.BG<=9223372036854775807)(I:n.Bk=P.D.n.Bk)(z:n.fulls=P.D.n.fulls):PB ⟨{P.D with n:=n},P.F⟩ t:=
 ⟨⟨h.CZ.A6,h.CZ.AF,h.CZ.FW,h.CZ.Am,h.CZ.Be,by rw[E];exact h.CZ.Av,d⟩,h.Aq,by rw[I];exact h.refQ,by rw[z];exact h.JB⟩
def St.bT(h:St t A P pd Ad o ro)(n:DN)(E:n.Av=P.D.n.Av)(d:0<=n.BG/\n.BG<=9223372036854775807)(L:n.Bk=P.D.n.Bk)(z:n.fulls=P.D.n.fulls)(I:n.Bh=P.D.n.Bh):St t A ⟨{P.D with n:=n},P.F⟩ pd Ad o ro:=
 ⟨h.pb.bT n E d L z,⟨h.di.DZ,h.di.Aq,h.di.Cg,h.di.CH⟩,h.rd.aw λ_=>rfl,λe=>by
  have⟨sg,cl,ol,q,hl⟩:=h.si e
  exact⟨sg,cl,ol,⟨⟨q.di.DZ,q.di.Aq,q.di.Cg,q.di.CH⟩,q.AZ.aw λ_=>rfl,q.HY,q.GH,q.AB,q.CE,q.Er⟩,hl⟩,h.pu,h.Be,h.le,I.trans h.Bh⟩
def EH(t:Nat)(P:PD)(pd:gD Pu)(Ad:Nat)(o:Int)(fell:Bool):Prop:=
 PB P t/\DI (Cs t) P pd Ad o/\(∀p∈pd,Bm p)/\pd.length<=t/\Ad<=pd.length/\
  (P.D.n.Bh=true\/∃n0,Ad<=n0/\n0<=pd.length/\(fell=false->n0=pd.length)/\∀d n,o<=d->n0<=n->n<=pd.length->C4 d (pd.take n0) (pd.take n)->DI (Cs t) P (pd.take n) Ad d/\Reads (Cs t) P (pd.take n) d)
def St.gk(h:St t A P pd Ad o ro)(fell:Bool):EH t P pd Ad o fell:=
 ⟨h.pb,h.di,h.pu,h.Be,h.le,.inr ⟨pd.length,h.le,Ao _,λ_=>rfl,λo' n d h2 h3 _=>by
  have e:n=pd.length:=by omega
  subst e;rw[C5]
  exact⟨h.di.bj d,h.rd.bj d⟩⟩⟩
def A2z(h:PB P t)(hd:DI (Cs t) P pd Ad o)(da:Int)(d:gD Int):PB (P.a6 da d) t:=by
 have E:=UT P.D da;generalize W:Gp P.D da=s at E;have L:(P.a6 da d).D.A6=s:=by unfold PD.a6 Fh;dsimp only;exact W
 have aB:(P.a6 da d).D.AF=s:=by unfold PD.a6 Fh;dsimp only;exact W
 have X:(P.a6 da d).D.As=[]:=rfl;have O:∀e∈s,P.D.Aq e.2:=λe z=>by
  rcases BS.1 E with E|E
  ·rw[E]at z;exact .inr (.inl ⟨e,z,rfl⟩)
  ·exact .inr (.inr ⟨s,E,e,z,rfl⟩)
 have I:∀f,(P.a6 da d).D.Aq f->P.D.Aq f/\∃e∈s,e.2=f:=λf hf=>by
  rcases hf with⟨e,z,rfl⟩|⟨e,z,rfl⟩|⟨l,hl,_⟩
  ·rw[L]at z;exact⟨O e z,e,z,rfl⟩
  ·rw[aB]at z;exact⟨O e z,e,z,rfl⟩
  ·rw[X]at hl;cases hl
 have Y:s.length<=3*t+20:=by
  rcases BS.1 E with E|E
  ·rw[E];exact h.CZ.AF
  ·exact h.CZ.FW s E
 have hr:∀e∈s,0<=(P.F e.2).2/\(P.F e.2).2<=(P.F e.2).1.length:=λe z=>by
  have⟨ix,sg,cl,lo,nb,hL,_⟩:=hd.DZ s E;have hv:vw P.F s e.1.data.toList=some (P.F e.2):=by
   unfold vw;rw[FR];cases hk:lookup s e.1 with
   | none=>exact absurd rfl (IN.1 hk e z)
   | some g=>
    have⟨i,hi,e1⟩:=DG (Eh hk);have⟨j,hj,e2⟩:=DG z;have:i=j:=Jr (hd.Cg s E) (by simpa using hi) (by simpa using hj) (by simp[e1,e2]);subst this;rw[e1]at e2;rw[<-e2];rfl
  exact hL.Eg _ _ hv
 refine⟨⟨by rw[L];exact Y,by rw[aB];exact Y,λl hl=>(by rw[X]at hl;cases hl),(by rw[X];simp),λf hf=>?_,h.CZ.Av,h.CZ.BG⟩,λf hf=>h.Aq f (I f hf).1,h.refQ,h.JB⟩;obtain⟨h1,e,z,rfl⟩:=I f hf;have hF:(P.a6 da d).F=Ea s d (dList s) P.F s.length:=by unfold PD.a6 Fh;dsimp only;rw[W]
 rw[hF];have aA:=h.CZ.Be _ h1;rcases UR s d (dList s) P.F hr s.length e z with⟨q,_⟩|⟨x,q⟩
 ·rw[q];exact aA
 ·rw[q];have⟨j,_,_,j3⟩:=PR (hr e z) x;rw[j3];simp only[BK];omega
def EH.a6(E:PB P t)(z:DI (Cs t) P pd Ad o)(L:∀p∈pd,Bm p)(O:pd.length<=t)(h:Ad<=pd.length)(ht:t<=330000)(da:Int)(d:gD Int):
 EH t (P.a6 da d) pd Ad o true/\(P.a6 da d).D.n.Bh=false:=by
 have⟨h1,n,h2,h3,h4⟩:=z.a6 da d (by omega);exact⟨⟨A2z E z da d,h1,L,O,h,.inr ⟨n,h2,h3,λe=>(by cases e),λX m W _ _ I=>h4 X _ W I⟩⟩,rfl⟩
def EH.bj{d:Int}{fell:Bool}(h:EH t P pd Ad o fell)(ho:o<=d):EH t P pd Ad d fell:=by
 obtain⟨O,z,h3,L,W,h6⟩:=h;refine⟨O,z.bj ho,h3,L,W,h6.imp id ?_⟩;rintro⟨n0,g1,E,g3,Y⟩;exact⟨n0,g1,E,g3,λX n k1 k2 I k4=>Y X n (by omega) k2 I k4⟩
def EH.ai{z:Nat}{fell:Bool}(h:EH t P pd Ad o fell)(d:t<=z):EH z P pd Ad o fell:=by
 obtain⟨W,I,h3,h4,X,h6⟩:=h;refine⟨W.ai d,I.aW (HF d),h3,by omega,X,h6.imp id ?_⟩;rintro⟨n0,g1,L,g3,g4⟩
 exact⟨n0,g1,L,g3,λY n E k2 O k4=>by
  have⟨q1,q2⟩:=g4 Y n E k2 O k4
  exact⟨q1.aW (HF d),q2.aW (HF d)⟩⟩
def EH.bT{fell:Bool}(h:EH t P pd Ad o fell)(n:DN)(Y:n.Av=P.D.n.Av)(L:0<=n.BG/\n.BG<=9223372036854775807)(h3:n.Bk=P.D.n.Bk)(W:n.fulls=P.D.n.fulls)(h5:n.Bh=P.D.n.Bh):EH t ⟨{P.D with n:=n},P.F⟩ pd Ad o fell:=by
 obtain⟨g1,z,g3,g4,g5,E⟩:=h;refine⟨g1.bT n Y L h3 W,⟨z.DZ,z.Aq,z.Cg,z.CH⟩,g3,g4,g5,?_⟩;rcases E with E|⟨n0,I,k2,O,k4⟩
 ·exact .inl (h5.trans E)
 ·refine .inr ⟨n0,I,k2,O,λo2 n2 X q2 q3 q4=>?_⟩;have⟨d,r⟩:=k4 o2 n2 X q2 q3 q4;exact⟨⟨d.DZ,d.Aq,d.Cg,d.CH⟩,r.aw λ_=>rfl⟩
end
end
section
open Go.RowKit
attribute [local go_sem ↓] Go.wp_at_zero Go.wp_at_succ
def E7(c:Int):Int:=if c<0 then 1152921504606846976 else c
def RX(w:gx)(c:Int):Ag 42 #[A0 c] w (Aj (A0 (E7 c)) λw'=>w=w'):=by
 unfold E7;by_cases h:c<0
 ·rw[Ai h]
  go_enter func42,ntmps42
  go_wp2;go_ret;exact⟨rfl,rfl⟩
 ·rw[Af h]
  go_enter func42,ntmps42
  go_wp2;go_ret;exact⟨rfl,rfl⟩
def Qv(w:gx)(g:Nat)(l:gD Int):Prop:=∀k (d:k<l.length),w.cell? ⟨g,k,none⟩=some (.int .i64 (l[k]'d))
def A39(w:gx)(g:Nat)(l:gD Int)(x:Int)(h:Qv w g l)(hl:l.length<1000):
 Ag 41 #[AA g l.length l.length,A0 x] w (Aj (.bool (decide (x∈l))) λw'=>w=w'):=by
 obtain⟨q,W⟩:∃q,decide (x∈l)=q:=⟨_,rfl⟩;rw[W];have O:=A1 W;have H:=A1 h
 go_enter func41,ntmps41
 go_wp2;go_loopw [5] (λiv wr=>∃k:Nat,k<=l.length/\iv=A0 k/\wr=w/\Hid (∀i (d:i<l.length),i<k->l[i]'d≠x)) (λiv _=>l.length-(intOf iv).toNat)
 ·exact⟨0,by omega,rfl,rfl,λi d h=>by omega⟩
 ·obtain⟨k,hk,rfl,rfl,I⟩:=hrel;have k0:=BJ k;by_cases E:k<l.length
  ·(have k1:(k:Int)<(l.length:Int):=by omega);have hc:=H.o k E;generalize X:l[k]'E=y at hc;by_cases z:y=x
   ·have L:Hid (q=true):=by
     rw[<-O.o];exact Cu (z ▸ X ▸ BV E)
    subst z;go_wp2;go_ret;rw[L.o];exact⟨rfl,rfl⟩
   ·have Y:Hid (∀i (d:i<l.length),i<k+1->l[i]'d≠x):=λi d h=>by
     by_cases e:i=k
     ·subst e;rw[X];exact z
     ·exact I.o i d (by omega)
    go_wp2;go_roundw
    ·exact⟨k+1,by omega,by go_num,trivial,Y.o⟩
    ·simp[intOf];omega
  ·(obtain rfl:k=l.length:=by omega);have L:Hid (q=false):=by
    rw[<-O.o];refine Cv λhx=>?_;have⟨i,d,e⟩:=A4y.1 hx;exact I.o i d d e
   go_wp2;go_ret;rw[L.o];exact⟨rfl,rfl⟩
def RK(w:gx)(va vb:gy)(l m:gD Pt)(ha:Ck w va l)(hb:Ck w vb m)(hl:l.length<1099511627776)(_hm:m.length<1099511627776):
 Ag 93 #[va,vb] w (Aj (.bool (decide (l=m))) λw'=>A4 Aa w w'):=by
 obtain⟨aa,ca,rfl,-,-,aD,-,-⟩:=B8 ha;obtain⟨ab,cb,rfl,-,-,aI,-,-⟩:=B8 hb;by_cases d:l.length=m.length
 ·have aM:=A1 ha;have aL:=A1 hb;have aA:=A1 aD;have aF:=A1 aI;have L:=A1 d;obtain⟨q,hq⟩:∃q,decide (l=m)=q:=⟨_,rfl⟩;rw[hq,<-d];have aK:=A1 hq;clear ha hb aD aI d hq _hm
  go_enter func93,ntmps93
  go_wp2;go_loopw [5] (λiv wr=>∃k:Nat,k<=l.length/\iv=A0 k/\Hid (A4 Aa w wr)/\Hid (l.take k=m.take k)) (λiv _=>l.length-(intOf iv).toNat)
  ·exact⟨0,by omega,rfl,A4.C _ _,rfl⟩
  ·obtain⟨k,hk,rfl,Y,hE⟩:=hrel;obtain⟨w0,aN⟩:∃w0,w0=wr:=⟨_,rfl⟩;subst aN;have k0:=BJ k;by_cases z:k<l.length
   ·(have E:k<m.length:=by have:=L.o;omega);(have k1:(k:Int)<(l.length:Int):=by omega);obtain⟨W,rfl⟩:=aA.o (by omega);obtain⟨X,rfl⟩:=aF.o (by omega);have aB:Ck w0 _ l:=Au aM.o λg hg=>Y.o.Al g (Aw aM.o hg) (λh=>h);have⟨a0,a1⟩:=aB.bu k z;clear aB;have aH:Ck w0 _ m:=Au aL.o λg hg=>Y.o.Al g (Aw aL.o hg) (λh=>h);have⟨b0,b1⟩:=aH.bu k E;clear aH;obtain⟨p,hx⟩:∃p,l[k]'z=p:=⟨_,rfl⟩;obtain⟨r,hy⟩:∃r,m[k]'E=r:=⟨_,rfl⟩;have aG:Hid (p=r->l.take (k+1)=m.take (k+1)):=λe=>by
     rw[Dq z,Dq E,hE.o,hx,hy,e]
    have I:Hid (p≠r->q=false):=λaJ=>by
     rw[<-aK.o];refine Cv λe=>aJ ?_;subst e;rw[<-hx,<-hy]
    obtain⟨t,v⟩:=p;obtain⟨t2,v2⟩:=r;rw[hx]at a0 a1;rw[hy]at b0 b1;have aO:=A1 z;clear hx hy aM aL aA aF hE L aK E z;by_cases e1:t=t2
    ·subst e1;by_cases e2:v=v2
     ·subst e2;have aP:=A1 (aG.o rfl);clear aG I;go_wp2;refine Br (λw'=>A8 w' W (k*2) (A0 t)/\A8 w' W (k*2+1) (A0 v)/\A8 w' X (k*2) (A0 t)/\A8 w' X (k*2+1) (A0 v)) 23
       (Ba [0,1,2,3,4,5,6,7,8,9,10,11,12,13,14,15,16,17,18,19,20,21,22] []) ⟨a0,a1,b0,b1⟩ ?_
      iterate 23 refine B4 ?_
      refine Bo ?_;go_wp2;go_roundw
      ·exact⟨k+1,by have:=aO.o;omega,by go_num,Y.o.aa,aP.o⟩
      ·have:=aO.o;simp[intOf];omega
     ·have aE:=I.o (by simp[e2]);(have e3:(v !=v2)=true:=by simpa using e2);have O:=A1 aE;go_wp2;refine Br (λw'=>A8 w' W (k*2) (A0 t)/\A8 w' W (k*2+1) (A0 v)/\A8 w' X (k*2) (A0 t)/\A8 w' X (k*2+1) (A0 v2)) 23
       (Ba [0,1,2,3,4,5,6,7,8,9,10,11,12,13,14,15,16,17,18,19,20,21,22] []) ⟨a0,a1,b0,b1⟩ ?_
      iterate 23 refine B4 ?_
      refine Bo ?_;go_wp2;go_ret;rw[O.o];exact⟨rfl,Y.o.aa⟩
    ·have aE:=I.o (by simp[e1]);(have e3:(t !=t2)=true:=by simpa using e1);have O:=A1 aE;go_wp2;refine Br (λw'=>A8 w' W (k*2) (A0 t)/\A8 w' W (k*2+1) (A0 v)/\A8 w' X (k*2) (A0 t2)/\A8 w' X (k*2+1) (A0 v2)) 23
      (Ba [0,1,2,3,4,5,6,7,8,9,10,11,12,13,14,15,16,17,18,19,20,21,22] []) ⟨a0,a1,b0,b1⟩ ?_
     iterate 12 refine B4 ?_
     iterate 11 (refine WA rfl (by rfl) ?_;(try simp only[BO]))
     refine Bo ?_;go_wp2;go_ret;rw[O.o];exact⟨rfl,Y.o.aa⟩
   ·(obtain rfl:k=l.length:=by omega);have aE:Hid (q=true):=by
     have h2:=hE.o;rw[C5,L.o,C5]at h2;rw[<-aK.o];exact Cu h2
    go_wp2;go_ret;rw[aE.o];exact⟨rfl,Y.o⟩
 ·have e:decide (l=m)=false:=Cv λe=>d (Ep List.length e);have e2:((l.length:Int)!=(m.length:Int))=true:=by simp;omega
  rw[e]
  go_enter func93,ntmps93
  go_wp2;go_ret;exact⟨rfl,A4.C _ _⟩
structure WN where
 ld:Int
 wa:Int
 Av:Int
 A3f:Int
 dv:gy
 sv:gy
 pv:gy
 AF:Int
 fell:Bool
 CQ:Bool
 Cx:Int
 wc:Int
 da:Int
 tv:gy
 lv:gy
 FV:Int
def G4(n:WN):Array Value:=
 #[A0 n.ld,A0 n.wa,A0 n.Av,A0 n.A3f,n.dv,n.sv,n.pv,A0 n.AF,.bool n.fell,.bool n.CQ,A0 n.Cx,A0 n.wc,A0 n.da,n.tv,n.lv,A0 n.FV]
def AS(w:gx)(wb:Nat)(n:WN):Prop:=w.heap[wb]?=some (.cells (G4 n) 40 (0,0))
section
variable{w w':gx}{wb:Nat}{n:WN}
def AS.c0(h:AS w wb n):A8 w wb 0 (A0 n.ld):=by unfold AS at h;simp[A8,World.cell?,h,G4]
def AS.c2(h:AS w wb n):A8 w wb 2 (A0 n.Av):=by unfold AS at h;simp[A8,World.cell?,h,G4]
def AS.c4(h:AS w wb n):A8 w wb 4 (n.dv):=by unfold AS at h;simp[A8,World.cell?,h,G4]
def AS.s4(h:AS w wb n)(x:gy):AS (w.setCell (A9 wb 4) (x)) wb {n with dv:=x}:=BQ h
def AS.c5(h:AS w wb n):A8 w wb 5 (n.sv):=by unfold AS at h;simp[A8,World.cell?,h,G4]
def AS.s5(h:AS w wb n)(x:gy):AS (w.setCell (A9 wb 5) (x)) wb {n with sv:=x}:=BQ h
def AS.c6(h:AS w wb n):A8 w wb 6 (n.pv):=by unfold AS at h;simp[A8,World.cell?,h,G4]
def AS.s6(h:AS w wb n)(x:gy):AS (w.setCell (A9 wb 6) (x)) wb {n with pv:=x}:=BQ h
def AS.c7(h:AS w wb n):A8 w wb 7 (A0 n.AF):=by unfold AS at h;simp[A8,World.cell?,h,G4]
def AS.s7(h:AS w wb n)(x:Int):AS (w.setCell (A9 wb 7) (A0 x)) wb {n with AF:=x}:=BQ h
def AS.c8(h:AS w wb n):A8 w wb 8 (.bool n.fell):=by unfold AS at h;simp[A8,World.cell?,h,G4]
def AS.s8(h:AS w wb n)(x:Bool):AS (w.setCell (A9 wb 8) (.bool x)) wb {n with fell:=x}:=BQ h
def AS.c9(h:AS w wb n):A8 w wb 9 (.bool n.CQ):=by unfold AS at h;simp[A8,World.cell?,h,G4]
def AS.s9(h:AS w wb n)(x:Bool):AS (w.setCell (A9 wb 9) (.bool x)) wb {n with CQ:=x}:=BQ h
def AS.bt(h:AS w wb n):A8 w wb 10 (A0 n.Cx):=by unfold AS at h;simp[A8,World.cell?,h,G4]
def AS.cm(h:AS w wb n)(x:Int):AS (w.setCell (A9 wb 10) (A0 x)) wb {n with Cx:=x}:=BQ h
def AS.cQ(h:AS w wb n):A8 w wb 11 (A0 n.wc):=by unfold AS at h;simp[A8,World.cell?,h,G4]
def AS.e0(h:AS w wb n)(x:Int):AS (w.setCell (A9 wb 11) (A0 x)) wb {n with wc:=x}:=BQ h
def AS.ds(h:AS w wb n):A8 w wb 12 (A0 n.da):=by unfold AS at h;simp[A8,World.cell?,h,G4]
def AS.eK(h:AS w wb n)(x:Int):AS (w.setCell (A9 wb 12) (A0 x)) wb {n with da:=x}:=BQ h
def AS.dT(h:AS w wb n):A8 w wb 13 (n.tv):=by unfold AS at h;simp[A8,World.cell?,h,G4]
def AS.eH(h:AS w wb n)(x:gy):AS (w.setCell (A9 wb 13) (x)) wb {n with tv:=x}:=BQ h
def AS.eA(h:AS w wb n):A8 w wb 14 (n.lv):=by unfold AS at h;simp[A8,World.cell?,h,G4]
def AS.e7(h:AS w wb n)(x:gy):AS (w.setCell (A9 wb 14) (x)) wb {n with lv:=x}:=BQ h
def AS.cT(h:AS w wb n):A8 w wb 15 (A0 n.FV):=by unfold AS at h;simp[A8,World.cell?,h,G4]
def AS.fm(h:AS w wb n)(x:Int):AS (w.setCell (A9 wb 15) (A0 x)) wb {n with FV:=x}:=BQ h
def AS.fz(h:AS w wb n)(o:Nat):w.frozen? (A9 wb o)=false:=by unfold AS at h;simp[World.frozen?,h]
def AS.lt(h:AS w wb n):wb<w.heap.size:=By h
def AS.Am{S:Nat->Prop}(h:AS w wb n)(d:A4 S w w')(z:¬S wb):AS w' wb n:=(d.Al wb h.lt z).trans h
def AS.ak(h:AS w wb n)(d:A4 Aa w w'):AS w' wb n:=h.Am d (λh=>h)
def A3z{F:Nat->FC}(w:gx)(ld wa room A7 count:Int):
 Calls Tryz.prog 16 #[.agg #[.int .i64 ld,.int .i64 wa,.int .i64 room,.int .i64 A7],.int .i64 count] w λe w'=>∃wb b,e=.returned (.pointer (some ⟨wb,0,none⟩))/\
  AS w' wb ⟨ld,wa,room,A7,.pointer (some ⟨b,0,none⟩),.pointer none,.slice none 0 0,0,false,false,A7,wa,0,.slice none 0 0,.slice none 0 0,count⟩/\AW w' b ⟨[],[],[],HD (E7 room)⟩ F (One b)/\w.heap.size<=b/\b<wb/\A4 (λ_=>False) w w':=by
 have hA:=(A4.C (λ_=>False) w).aj (.cells #[.int .i64 ld,.int .i64 wa,.int .i64 room,.int .i64 A7] 23);have d:=Bl w (.cells #[.int .i64 ld,.int .i64 wa,.int .i64 room,.int .i64 A7] 23);generalize hw0:(w.alloc (.cells #[.int .i64 ld,.int .i64 wa,.int .i64 room,.int .i64 A7] 23))=w0 at hA d;have X:w0.cell? ⟨w.heap.size,0,none⟩=some (.int .i64 ld):=by simp only[World.cell?,d];rfl
 have Y:w0.cell? ⟨w.heap.size,1,none⟩=some (.int .i64 wa):=by simp only[World.cell?,d];rfl
 have q2:w0.cell? ⟨w.heap.size,2,none⟩=some (.int .i64 room):=by simp only[World.cell?,d];rfl
 have q3:w0.cell? ⟨w.heap.size,3,none⟩=some (.int .i64 A7):=by simp only[World.cell?,d];rfl
 have aA:=A1 hA;have aD:=A1 (RX w0.drew room);have aE:Hid (Calls Tryz.prog 21 #[.int .i64 (E7 room)] w0.drew λe w'=>e=.returned (.pointer (some ⟨w0.heap.size,0,none⟩))/\AW w' w0.heap.size ⟨[],[],[],HD (E7 room)⟩ F (One w0.heap.size)/\A4 (λ_=>False) w0.drew w'/\w'.heap.size=w0.heap.size+1):=Tm _ _
 go_enter func16,ntmps16
 go_wp2;refine FN (λw'=>w'.cell? ⟨w.heap.size,0,none⟩=some (.int .i64 ld)/\w'.cell? ⟨w.heap.size,1,none⟩=some (.int .i64 wa)/\w'.cell? ⟨w.heap.size,2,none⟩=some (.int .i64 room)/\w'.cell? ⟨w.heap.size,3,none⟩=some (.int .i64 A7)) 11
  [(0,true),(1,true),(2,true),(5,true),(6,true),(7,true),(8,true),(9,true),(3,false),(4,false),(10,true)] (by kernel_rfl) (by kernel_rfl) (λ_ _ _ _ _ h=>h) ⟨X,Y,q2,q3⟩ ?_
 iterate 8 (refine E1 (v:=?_) rfl (by rfl) ?_ ?_;rotate_left;(· (intro w' E;(try dsimp only at E);go_simp;try with_reducible rfl));(try simp only[BO]))
 refine Dv rfl (by rfl) (λK W=>?_);go_simp;refine aD.k ?_;rintro I rfl;refine W _ _ ⟨X,Y,q2,q3⟩ (λE=>?_)
 (try simp only[BO])
 refine Dv rfl (by rfl) (λK W=>?_);go_simp;refine aE.k ?_;rintro I⟨hd,z,hs⟩;refine W _ _ ⟨z.ah X,z.ah Y,z.ah q2,z.ah q3⟩ (λE=>?_);have aF:=A1 hd;have L:=A1 z;have aB:=A1 hs;clear W K E hd z hs
 (try simp only[BO])
 (refine E1 (v:=?_) rfl (by rfl) ?_ ?_;rotate_left;(· (intro w' E;(try dsimp only at E);go_simp;try with_reducible rfl));(try simp only[BO]))
 refine Fx ?_;simp only[DH,Dl];go_wp2;go_ret;have O:=(A4.C (λ_=>False) I).aj (.cells (G4 ⟨ld,wa,room,A7,.pointer (some ⟨w0.heap.size,0,none⟩),.pointer none,.slice none 0 0,0,false,false,A7,wa,0,.slice none 0 0,.slice none 0 0,count⟩) 40);refine⟨I.heap.size,w0.heap.size,rfl,Bl I _,aF.o.aw (λk hk=>by unfold One at hk;have:=aB.o;omega) O,aA.o.Ak,by have:=aB.o;omega,?_⟩;exact(aA.o.AH (S':=λ_=>False) (⟨L.o.os,L.o.DU,L.o.DW,L.o.Ak,L.o.Al⟩:A4 (λ_=>False) w0 I) λ_ h _=>h).tr O
end
end
section
open Go.RowKit
def He:gD (gy×Int)->gD gy
 | []=>[]
 | (v,i):: r=>v::.int .i64 i::He r
def A0w(a b:gD (gy×Int)):He (a++b)=He a++He b:=by
 induction a with
 | nil=>rfl
 | cons e r ih=>obtain⟨v,i⟩:=e;simp[He,ih]
def Qu(w:gx)(v:gy)(l:gD (gy×Int)):Prop:=w.ownsRow 0 91 2 v l.length (He l)
def FY(wb:Nat)(n:WN)(k:Nat):Prop:=k=wb\/n.pv.ownBlock=some k\/n.lv.ownBlock=some k
abbrev Kind:=gx->(Nat->Prop)->Prop
def J3(R:Kind):Prop:=∀(w w':gx) (S FT:Nat->Prop),R w FT->(∀k,FT k->k<w.heap.size)->A4 S w w'->(∀k,FT k->¬S k)->R w' FT
structure LW (w:gx) (H wb:Nat) (n:WN) (b:Nat) (ld:Int) (R:Kind) (FT:Nat->Prop) (pd:gD Pu) (ls:gD (gy×Int)):Prop where
 Ae:AS w wb n
 Df:n.dv=(A5 b)
 Gb:n.ld=ld
 E5:J3 R
 Et:R w FT
 lt:∀k,FT k->k<w.heap.size
 DC:GS w n.pv pd
 EL:Qu w n.lv ls
 nw:∀k,FY wb n k->¬FT k
 Ef:∀k,FY wb n k->H<=k
 FO:∀k,FT k->H<=k
section
variable{w w':gx}{H wb:Nat}{n:WN}{b:Nat}{ld:Int}{R R':Kind}{FT:Nat->Prop}{pd:gD Pu}{ls:gD (gy×Int)}
def LW.bz{S:Nat->Prop}(h:LW w H wb n b ld R FT pd ls)(z:A4 S w w')(E:∀k,FY wb n k->¬S k)(L:∀k,FT k->¬S k):LW w' H wb n b ld R FT pd ls:=
 ⟨h.Ae.Am z (E wb (.inl rfl)),h.Df,h.Gb,h.E5,h.E5 _ _ _ _ h.Et h.lt z L,λk I=>Bn (h.lt k I) z.Ak,Au h.DC λg d=>z.Al g (Aw h.DC d) (E g (.inr (.inl d))),Au h.EL λg d=>z.Al g (Aw h.EL d) (E g (.inr (.inr d))),h.nw,h.Ef,h.FO⟩
def LW.ak(h:LW w H wb n b ld R FT pd ls)(d:A4 Aa w w'):LW w' H wb n b ld R FT pd ls:=h.bz d (λ_ _ h=>h) λ_ _ h=>h
def LW.Ak(h:LW w H wb n b ld R FT pd ls):H<=w.heap.size:=by
 have:=h.Ef wb (.inl rfl);have:=h.Ae.lt;omega
def LW.ct(h:LW w H wb n b ld R FT pd ls){k:Nat}(d:FY wb n k):k<w.heap.size:=by
 rcases d with rfl|d|d
 ·exact h.Ae.lt
 ·exact Aw h.DC d
 ·exact Aw h.EL d
def LW.cM(h:LW w H wb n b ld R FT pd ls)(hs:J3 R')(X:Ap w FT w' R'):A4 (Up H) w w'/\∃d,LW w' H wb n b ld R' d pd ls:=by
 obtain⟨L,d,h1,Y,W⟩:=X;have hz:=h.Ak;refine⟨L.ai λx _ O=>h.FO x O,d,h.Ae.Am L (h.nw wb (.inl rfl)),h.Df,h.Gb,hs,h1,Y,?_,?_,?_,h.Ef,?_⟩
 ·exact Au h.DC λg E=>L.Al g (Aw h.DC E) (h.nw g (.inr (.inl E)))
 ·exact Au h.EL λg E=>L.Al g (Aw h.EL E) (h.nw g (.inr (.inr E)))
 ·intro k I O;rcases W k O with z|z
  ·exact h.nw k I z
  ·have:=h.ct I;omega
 ·intro k I;rcases W k I with z|z
  ·exact h.FO k z
  ·exact AP hz z
def LW.cv(h:LW w H wb n b ld R FT pd ls):n.pv.ownBlock≠some wb:=λe=>by
 have⟨c,hh⟩:=Bb h.DC e;have:=h.Ae;unfold AS at this;rw[hh]at this;cases this
def LW.b9(h:LW w H wb n b ld R FT pd ls):n.lv.ownBlock≠some wb:=λe=>by
 have⟨c,hh⟩:=Bb h.EL e;have:=h.Ae;unfold AS at this;rw[hh]at this;cases this
def LW.ej(h:LW w H wb n b ld R FT pd ls){g:Nat}(d:n.pv.ownBlock=some g):n.lv.ownBlock≠some g:=λe=>by
 have⟨c,hh⟩:=Bb h.EL e;have⟨c',hh'⟩:=Bb h.DC d;rw[hh]at hh';cases hh'
def LW.CO{n':WN}(h:LW w H wb n b ld R FT pd ls)(o:Nat)(u:gy)(Y:AS (w.setCell ⟨wb,o,none⟩ u) wb n')(W:n'.dv=n.dv)(X:n'.ld=n.ld)(I:n'.pv=n.pv)(O:n'.lv=n.lv):
 A4 (Up H) w (w.setCell ⟨wb,o,none⟩ u)/\LW (w.setCell ⟨wb,o,none⟩ u) H wb n' b ld R FT pd ls:=by
 have E:=(A4.C (One wb) w).ao (b:=wb) rfl o u;have L:∀k,FY wb n' k->FY wb n k:=λk d=>by unfold FY at d ⊢;rwa [I,O]at d
 refine⟨E.ai λx _ e=>by cases e;exact h.Ef _ (.inl rfl),Y,W.trans h.Df,X.trans h.Gb,h.E5,h.E5 _ _ _ _ h.Et h.lt E (λk d e=>h.nw wb (.inl rfl) (by cases e;exact d)),λk d=>Bn (h.lt k d) E.Ak,?_,?_,λk d=>h.nw k (L k d),λk d=>h.Ef k (L k d),h.FO⟩
 ·rw[I];exact Au h.DC λg z=>E.Al g (Aw h.DC z) λe=>h.cv (by cases e;exact z)
 ·rw[O];exact Au h.EL λg z=>E.Al g (Aw h.EL z) λe=>h.b9 (by cases e;exact z)
def LW.ev{z:gy}{E:gD Pu}(h:LW w H wb n b ld R FT pd ls)(O:GS w z E)(X:∀g,z.ownBlock=some g->H<=g/\¬FT g):
 A4 (Up H) w (w.setCell ⟨wb,6,none⟩ z)/\LW (w.setCell ⟨wb,6,none⟩ z) H wb {n with pv:=z} b ld R FT E ls:=by
 have L:=(A4.C (One wb) w).ao (b:=wb) rfl 6 z;have W:z.ownBlock≠some wb:=λe=>by
  have⟨c,hh⟩:=Bb O e;have:=h.Ae;unfold AS at this;rw[hh]at this;cases this
 refine⟨L.ai λx _ e=>by cases e;exact h.Ef _ (.inl rfl),h.Ae.s6 z,h.Df,h.Gb,h.E5,h.E5 _ _ _ _ h.Et h.lt L (λk d e=>h.nw wb (.inl rfl) (by cases e;exact d)),λk d=>Bn (h.lt k d) L.Ak,?_,?_,?_,?_,h.FO⟩
 ·exact Au O λg I=>L.Al g (Aw O I) λe=>W (by cases e;exact I)
 ·exact Au h.EL λg I=>L.Al g (Aw h.EL I) λe=>h.b9 (by cases e;exact I)
 ·rintro k (rfl|d|d)
  ·exact h.nw _ (.inl rfl)
  ·exact(X k d).2
  ·exact h.nw k (.inr (.inr d))
 ·rintro k (rfl|d|d)
  ·exact h.Ef _ (.inl rfl)
  ·exact(X k d).1
  ·exact h.Ef k (.inr (.inr d))
def App.cw{e size:Nat}{v d:gy}{n:Nat}{xs:gD gy}(h:App w w' e size v d n xs):A4 (λk=>v.ownBlock=some k) w w':=(A4.C _ w).C7 h.C7 λ_ e _=>e
def LW.e3{I:gy}{p:Pu}(h:LW w H wb n b ld R FT pd ls)(hA:App w w' 141 3 n.pv I (pd.length+1) (B5 pd++B5 [p])):
 w'.cell? (A9 wb 6)=some n.pv/\w'.frozen? (A9 wb 6)=false/\A4 (Up H) w (w'.setCell (A9 wb 6) I)/\LW (w'.setCell (A9 wb 6) I) H wb {n with pv:=I} b ld R FT (pd++[p]) ls:=by
 have X:=hA.cw;have z:=h.Ae.Am X h.cv;have W:=(A4.C (One wb) w').ao (b:=wb) rfl 6 I;have O:∀k,FT k->k<w'.heap.size:=λk d=>Bn (h.lt k d) X.Ak;have aA:=h.E5 _ _ _ _ h.Et h.lt X λk d e=>h.nw k (.inr (.inl e)) d;have aD:=Au h.EL λg E=>X.Al g (Aw h.EL E) λe=>h.ej e E;have L:GS w' I (pd++[p]):=by
  unfold GS;have:=hA.AB;rw[<-Ig]at this;simpa using this
 have Y:I.ownBlock≠some wb:=λe=>by
  have⟨c,hh⟩:=Bb L e;unfold AS at z;rw[hh]at z;cases z
 have aB:=h.Ak;have hH:∀g,I.ownBlock=some g->H<=g/\¬FT g:=λg E=>by
  rcases hA.BY with e|e
  ·rw[e]at E;exact⟨h.Ef g (.inr (.inl E)),h.nw g (.inr (.inl E))⟩
  ·rw[e]at E;cases E;exact⟨aB,λhx=>by have:=h.lt _ hx;omega⟩
 refine⟨z.c6,z.fz 6,(X.ai λx _ e=>h.Ef x (.inr (.inl e))).ao (h.Ef wb (.inl rfl)) 6 _,⟨z.s6 I,h.Df,h.Gb,h.E5,h.E5 _ _ _ _ aA O W (λk d e=>h.nw wb (.inl rfl) (by cases e;exact d)),λk d=>Bn (O k d) W.Ak,?_,?_,?_,?_,h.FO⟩⟩
 ·exact Au L λg E=>Fw _ _ _ _ λe=>Y (by rw[E];congr 1)
 ·exact Au aD λg E=>Fw _ _ _ _ λe=>h.b9 (by rw[E];congr 1)
 ·rintro k (rfl|d|d)
  ·exact h.nw _ (.inl rfl)
  ·exact(hH k d).2
  ·exact h.nw k (.inr (.inr d))
 ·rintro k (rfl|d|d)
  ·exact h.Ef _ (.inl rfl)
  ·exact(hH k d).1
  ·exact h.Ef k (.inr (.inr d))
def LW.dx{I:gy}{p:gy×Int}(h:LW w H wb n b ld R FT pd ls)(Y:App w w' 91 2 n.lv I (ls.length+1) (He ls++He [p])):
 w'.cell? (A9 wb 14)=some n.lv/\w'.frozen? (A9 wb 14)=false/\A4 (λk=>k=wb\/n.lv.ownBlock=some k) w (w'.setCell (A9 wb 14) I)/\LW (w'.setCell (A9 wb 14) I) H wb {n with lv:=I} b ld R FT pd (ls++[p])/\(I.ownBlock=n.lv.ownBlock\/I.ownBlock=some w.heap.size):=by
 have X:=Y.cw;have z:=h.Ae.Am X h.b9;have W:=(A4.C (One wb) w').ao (b:=wb) rfl 14 I;have O:∀k,FT k->k<w'.heap.size:=λk d=>Bn (h.lt k d) X.Ak;have aB:=h.E5 _ _ _ _ h.Et h.lt X λk d e=>h.nw k (.inr (.inr e)) d;have aE:=Au h.DC λg E=>X.Al g (Aw h.DC E) λe=>h.ej E e;have L:Qu w' I (ls++[p]):=by
  unfold Qu;have:=Y.AB;rw[<-A0w]at this;simpa using this
 have aA:I.ownBlock≠some wb:=λe=>by
  have⟨c,hh⟩:=Bb L e;unfold AS at z;rw[hh]at z;cases z
 have aD:=h.Ak;have hH:∀g,I.ownBlock=some g->H<=g/\¬FT g:=λg E=>by
  rcases Y.BY with e|e
  ·rw[e]at E;exact⟨h.Ef g (.inr (.inr E)),h.nw g (.inr (.inr E))⟩
  ·rw[e]at E;cases E;exact⟨aD,λhx=>by have:=h.lt _ hx;omega⟩
 refine⟨z.eA,z.fz 14,(X.ai (S':=λk=>k=wb\/n.lv.ownBlock=some k) λx _ e=>.inr e).ao (.inl rfl) 14 _,⟨z.e7 I,h.Df,h.Gb,h.E5,h.E5 _ _ _ _ aB O W (λk d e=>h.nw wb (.inl rfl) (by cases e;exact d)),λk d=>Bn (O k d) W.Ak,?_,?_,?_,?_,h.FO⟩,Y.BY⟩
 ·exact Au aE λg E=>Fw _ _ _ _ λe=>h.cv (by rw[E];congr 1)
 ·exact Au L λg E=>Fw _ _ _ _ λe=>aA (by rw[E];congr 1)
 ·rintro k (rfl|d|d)
  ·exact h.nw _ (.inl rfl)
  ·exact h.nw k (.inr (.inl d))
  ·exact(hH k d).2
 ·rintro k (rfl|d|d)
  ·exact h.Ef _ (.inl rfl)
  ·exact h.Ef k (.inr (.inl d))
  ·exact(hH k d).1
end
def KD(b:Nat)(P:PD):Kind:=λw FT=>Bu w b P FT
def KS(h ab b:Nat)(ld wc A7:Int)(d:Bool)(L:Nat->gD Pt)(A:Ar)(P:PD):Kind:=λw FT=>SF w h ab b 0 ld wc A7 d L A P FT
def KD.E5(b:Nat)(P:PD):J3 (KD b P):=λ_ _ _ _ h z I E=>Bu.aM h λk d=>I.Al k (z k d) (E k d)
def KS.E5(W ab b:Nat)(ld wc A7:Int)(z:Bool)(L:Nat->gD Pt)(A:Ar)(P:PD):J3 (KS W ab b ld wc A7 z L A P):=λw w' S FT h hl X O=>by
 obtain⟨lv,F0,I,d⟩:=h;exact⟨lv,F0,I.Am X λk E=>O k (d k E),d⟩
def SF.dk{w:gx}{W ab b:Nat}{O ld wc A7:Int}{z:Bool}{L:Nat->gD Pt}{A:Ar}{P:PD}{FT:Nat->Prop}(h:SF w W ab b O ld wc A7 z L A P FT):∃Ft,Bu w b P Ft/\(∀k,Ft k->k<w.heap.size)/\∀k,Ft k->FT k:=by
 obtain⟨lv,F0,I,d⟩:=h;have⟨xb,jb,sv,ov,l,jo,Ft,h3,h4⟩:=I.ar;exact⟨Ft,h3.dk,h3.lt,λk E=>d k (.inl (h4 k (.inl E)))⟩
end
section
open Go.RowKit
attribute [local go_sem ↓] Go.wp_at_zero Go.wp_at_succ
def A4.bW{S:Nat->Prop}{a b c:gx}(h:A4 Aa a b)(k:A4 S b c)(d:∀x,S x->a.heap.size<=x):A4 Aa a c:=h.AH k λx z hlt=>by have:=d x z;omega
section
variable{w w':gx}{wb:Nat}{n:WN}{b:Nat}{D:DS}{F:Nat->FC}{Ft:Nat->Prop}
def TH(w:gx)(h:AS w wb n)(hd:n.dv=(A5 b))(hr:AW w b D F Ft)(W:∀k,Ft k->k<w.heap.size):
 Ag 48 #[A5 wb] w (Aj (.agg #[A0 D.n.Bk,A0 D.n.fulls]) λw'=>A4 Aa w w'):=by
 have Y:=(A4.C Aa w).aj (.cells #[A0 0,A0 0] 85);have d:=Bl w (.cells #[A0 0,A0 0] 85);have c4:=(h.ak Y).c4;rw[hd]at c4;have z:=hr.aw W Y;generalize hw0:(w.alloc (.cells #[A0 0,A0 0] 85))=w0 at Y d c4 z;have aD:=A1 (Ow z.aa);have aE:=A1 (Uv z.aa);obtain⟨I,aA⟩:∃I,D.n.Bk=I:=⟨_,rfl⟩;obtain⟨E,aB⟩:∃E,D.n.fulls=E:=⟨_,rfl⟩;rw[aA]at aD ⊢;rw[aB]at aE ⊢;have aG:=A1 Y;have aF:=A1 d;have r0:A8 w0 w.heap.size 0 (A0 0):=D7 d;have r1:A8 w0 w.heap.size 1 (A0 0):=D7 d;have f0:w0.frozen? (A9 w.heap.size 0)=false:=by simp[World.frozen?,d]
 have f1:w0.frozen? (A9 w.heap.size 1)=false:=by simp[World.frozen?,d]
 clear h hd hr W Y d z aA aB
 go_enter func48,ntmps48
 go_wp2;refine FN (λw'=>A8 w' wb 4 (A5 b)) 11
  (Ba [0,1,2,3,5,6,7,8,4,9,10] [4,9]) (by kernel_rfl) (by kernel_rfl) (λ_ _ _ _ _ h=>h) c4 ?_
 iterate 8 (refine E1 (v:=?_) rfl (by rfl) ?_ ?_;rotate_left;(· (intro w' O;(try dsimp only at O);go_simp;try with_reducible rfl));(try simp only[BO]))
 refine Dv rfl (by rfl) (λK X=>?_);go_simp;refine aD.k ?_;rintro w1 rfl;refine X _ _ c4 (λO=>?_);clear X K O
 (try simp only[BO])
 refine Dv rfl (by rfl) (λK X=>?_);go_simp;refine aE.k ?_;rintro w1 rfl;refine X _ _ c4 (λO=>?_);clear X K O
 (try simp only[BO])
 (refine E1 (v:=?_) rfl (by rfl) ?_ ?_;rotate_left;(· (intro w' O;(try dsimp only at O);go_simp;try with_reducible rfl));(try simp only[BO]))
 refine Fx ?_;simp only[DH,Dl];go_wp2;have hk:A4 Aa w ((w0.setCell (A9 w.heap.size 0) (A0 I)).setCell (A9 w.heap.size 1) (A0 E)):=by
  have k:∀(p:Addr),p.block=w.heap.size->p.block<w.heap.size->False:=λp e h=>by omega
  exact(aG.o.bh (k _ rfl) _).bh (k _ rfl) _
 have hh:((w0.setCell (A9 w.heap.size 0) (A0 I)).setCell (A9 w.heap.size 1) (A0 E)).heap[w.heap.size]?=some (.cells #[A0 I,A0 E] 85 (0,0)):=BQ (BQ aF.o);generalize ((w0.setCell (A9 w.heap.size 0) (A0 I)).setCell (A9 w.heap.size 1) (A0 E))=w2 at hk hh ⊢;have d0:A8 w2 w.heap.size 0 (A0 I):=by simp[A8,World.cell?,hh]
 have d1:A8 w2 w.heap.size 1 (A0 E):=by simp[A8,World.cell?,hh]
 refine JK (v:=.agg #[A0 I,A0 E]) (by simp[results,Tryz.results48,go_sem,d0,d1]) rfl ⟨rfl,hk.aa⟩
end
section
variable{H wb sb ab b:Nat}{n:WN}{ld wc A7:Int}{ro:Bool}{L:Nat->gD Pt}{A:Ar}{P:PD}{FT:Nat->Prop}{pd:gD Pu}{ls:gD (gy×Int)}
def O6(w:gx)(m:Nat)(h:LW w H wb n b ld (KS sb ab b ld wc A7 ro L A P) FT pd ls)(aN:n.sv=(A5 sb))(a4:n.CQ=ro)(aO:n.Cx=A7)(hm:m<=pd.length)(a7:pd.length<1099511627776)(aT:∀p∈pd,Ay p.2.1)(aX:∀k,k<8->(L k).length<1099511627776)(hl:1<=ld/\ld<=4611686018427387904)(hc:Ay A7):
 Ag 89 #[A5 wb,A0 m] w λe w'=>∃t,e=.returned (.bool t)/\(t=true↔Fk L (pd.take m) ld A7)/\A4 Aa w w':=by
 obtain⟨lv,F0,aH,-⟩:=h.Et;have hs:=aH.Ae;have hr:=aH.E6;have c5:=h.Ae.c5;rw[aN]at c5;have ST:=A1 (Rw w hs);have aM:=A1 h.Ae;have hp:=h.DC;have aZ:=h.Gb;have a2:Hid (∀w' (k:Nat),A4 Aa w w'->k<8->_):=λw' k hw hk=>MC w' k (-9223372036854775808) 9223372036854775807 (hs.Am hw (λh=>h)) (hr.Am hw (λ_ _ h=>h)) hk hl hc;have aV:∀w',A4 Aa w w'->GS w' n.pv pd:=λw' hw=>Au hp λg hg=>hw.Al g (Aw hp hg) (λh=>h);have bD:Hid (∀w' (k:Nat),A4 Aa w w'->_):=λw' k hw=>Sw w' n.pv pd m (aV w' hw) hm a7 aT k (-9223372036854775808) 9223372036854775807 ld A7 hl hc;have a8:Hid (∀k:Nat,(refQ (pd.take m) k (-9223372036854775808) 9223372036854775807 ld A7).length<1099511627776):=λk=>by
  have:=Sk (pd.take m) k (-9223372036854775808) 9223372036854775807 ld A7;rw[BK]at this;omega
 have aU:Hid (∀k:Nat,k<8->(piece (L k) (max (-9223372036854775808) (AN A7 ld)) 9223372036854775807).length<1099511627776):=λk hk=>Qi (KK _ _) (aX k hk);have bF:Hid ((∀k:Nat,k<8->piece (L k) (max (-9223372036854775808) (AN A7 ld)) 9223372036854775807=refQ (pd.take m) k (-9223372036854775808) 9223372036854775807 ld A7)↔Fk L (pd.take m) ld A7):=QB;clear h hs hr hp aV aT hl hc aH aX
 go_enter func89,ntmps89
 go_wp2_with (go_at_call 38;refine ST.k ?_;rintro w1 aY;have aQ:=A1 aY;clear aY);have O:A4 Aa w (w1.alloc (.cells #[.bool ro,A0 A7] 74)):=aQ.o.aj _;have aI:=Bl w1 (.cells #[.bool ro,A0 A7] 74);have d0:A8 (w1.alloc (.cells #[.bool ro,A0 A7] 74)) w1.heap.size 0 (.bool ro):=D7 aI;have d1:A8 (w1.alloc (.cells #[.bool ro,A0 A7] 74)) w1.heap.size 1 (A0 A7):=D7 aI;clear aI;generalize (w1.alloc (.cells #[.bool ro,A0 A7] 74))=w2 at O d0 d1 ⊢;have b9:=(aM.o.ak O).c9;rw[a4]at b9;have aK:=(aM.o.ak O).bt;rw[aO]at aK;have aJ:=A1 O;clear O aQ ST;refine Br (λw'=>A8 w' w1.heap.size 0 (.bool ro)/\A8 w' w1.heap.size 1 (A0 A7)/\A8 w' wb 9 (.bool ro)/\A8 w' wb 10 (A0 A7)) 15
  (Ba [0,1,2,3,4,5,6,7,8,9,10,11,12,13,14] []) ⟨d0,d1,b9,aK⟩ ?_
 iterate 15 refine B4 ?_
 refine Bo ?_;go_wp2;clear d0 d1 b9 aK;have d:Hid (A4 Aa w w2.drew):=aJ.o.aa;go_loopw [6] (λiv wr=>∃k:Nat,k<=8/\iv=A0 k/\Hid (A4 Aa w wr)/\Hid (∀i:Nat,i<k->piece (L i) (max (-9223372036854775808) (AN A7 ld)) 9223372036854775807=refQ (pd.take m) i (-9223372036854775808) 9223372036854775807 ld A7)) (λiv _=>8-(intOf iv).toNat)
 ·exact⟨0,by omega,rfl,d.o,λi hi=>absurd hi (KC _)⟩
 ·obtain⟨k,hk,rfl,aE,hE⟩:=hrel;obtain⟨w0,bB⟩:∃w0,w0=wr:=⟨_,rfl⟩;subst bB;have k0:=BJ k;by_cases aG:k<8
  ·(have k1:(k:Int)<8:=by omega);have e5:=(aM.o.ak aE.o).c5;rw[aN]at e5;have a3:=A1 (a2.o w0 k aE.o aG);obtain⟨pk,aB⟩:∃pk,piece (L k) (max (-9223372036854775808) (AN A7 ld)) 9223372036854775807=pk:=⟨_,rfl⟩;have W:=aU.o k aG;rw[aB]at a3 W;have a6:=A1 W;clear a2 d aJ c5 W aU;go_wp2_with (go_at_call 37;refine a3.m ?_;rintro e w3⟨v,rfl,hv,aS,bC⟩;have bE:=A1 hv;have d:Hid (A4 Aa w w3):=aE.o.tr aS;clear hv aS bC);have g6:=(aM.o.ak d.o).c6;have g0:=(aM.o.ak d.o).c0;rw[aZ]at g0;have aF:=(aM.o.ak d.o).bt;rw[aO]at aF;have a9:=A1 (bD.o w3.drew k d.o.aa);obtain⟨rk,I⟩:∃rk,refQ (pd.take m) (k:Int) (-9223372036854775808) 9223372036854775807 ld A7=rk:=⟨_,rfl⟩;have X:=a8.o k;rw[I]at a9 X;have a1:=A1 X;clear bD X;refine Br (λw'=>A8 w' wb 6 n.pv/\A8 w' wb 0 (A0 ld)/\A8 w' wb 10 (A0 A7)) 16
    (Ba [0,1,2,3,4,5,6,7,8,9,10,11,12,13,14,15] [15]) ⟨g6,g0,aF⟩ ?_
   iterate 15 refine B4 ?_
   refine Bf λK hK=>?_;go_simp;refine a9.m ?_;rintro e w4⟨v2,rfl,aW,z,aR⟩;refine hK _ _ ⟨z.ah g6,z.ah g0,z.ah aF⟩ (λhS=>?_);have aP:Hid (A4 Aa w w4):=d.o.aa.tr z;have aD:Hid (Ag 93 #[v,v2] w4 (Aj (.bool (decide (pk=rk))) λw'=>A4 Aa w4 w')):=by
    have bA:Ck w4 v _:=Au bE.o λg hg=>z.Al g (Aw bE.o hg) (λh=>h);exact RK w4 v v2 _ _ bA aW a6.o a1.o
   clear hK K hS aW z aR bE a9 a3 g6 g0 aF e5;refine Bo ?_;by_cases E:pk=rk
   ·have Y:Hid (Ag 93 #[v,v2] w4 (Aj (.bool true) λw'=>A4 Aa w4 w')):=by
     have:=aD.o;rw[Cu E]at this;exact this
    have a0:Hid (∀i:Nat,i<k+1->piece (L i) (max (-9223372036854775808) (AN A7 ld)) 9223372036854775807=refQ (pd.take m) i (-9223372036854775808) 9223372036854775807 ld A7):=λi hi=>by
     by_cases e:i=k
     ·subst e;rw[aB,I];exact E
     ·exact hE.o i (by omega)
    clear aD E aB I hE;go_wp2_with (go_at_call 93;refine Y.k ?_;rintro w5 aA;have aL:Hid (A4 Aa w w5):=aP.o.tr aA;clear aA);go_roundw
    ·exact⟨k+1,by omega,by go_num,aL.o,a0.o⟩
    ·simp[intOf];omega
   ·have Y:Hid (Ag 93 #[v,v2] w4 (Aj (.bool false) λw'=>A4 Aa w4 w')):=by
     have:=aD.o;rw[Cv E]at this;exact this
    have bG:Hid (¬Fk L (pd.take m) ld A7):=λhT=>E (by rw[<-aB,<-I];exact bF.o.2 hT k aG);clear aD E aB I hE;go_wp2_with (go_at_call 93;refine Y.k ?_;rintro w5 aA;have aL:Hid (A4 Aa w w5):=aP.o.tr aA;clear aA);go_ret;exact⟨false,rfl,⟨λh=>(by cases h),λhT=>absurd hT bG.o⟩,aL.o⟩
  ·(obtain rfl:k=8:=by omega);have a5:Hid (Fk L (pd.take m) ld A7):=bF.o.1 hE.o;clear a2 bD d aJ c5 hE;go_wp2;go_ret;exact⟨true,rfl,⟨λ_=>a5.o,λ_=>rfl⟩,aE.o⟩
def A1y:(Tryz.prog.info? 141).map (λi=>(i.zero,i.size,i.bytes))=some (some (.agg #[A0 0,A0 0,A0 0]),3,24):=by kernel_rfl
def A1R(w:gx)(h:LW w H wb n b ld (KS sb ab b ld wc A7 ro L A P) FT pd ls)(aG:n.sv=(A5 sb))(aK:n.CQ=ro)(aI:n.Cx=A7){n0 Ad:Nat}(I:n.AF=Ad)(h0:Ad<=n0/\n0<=pd.length)(O:n.fell=false->n0=pd.length)(hT:Fk L (pd.take n0) ld A7)(aE:pd.length<1099511627776)(aL:∀p∈pd,Ay p.2.1)(aN:∀k,k<8->(L k).length<1099511627776)(hl:1<=ld/\ld<=4611686018427387904)(hc:Ay A7):
 Ag 52 #[A5 wb] w (Aj (.bool true) λw'=>A4 (Up H) w w'/\∃m pv,n0<=m/\m<=pd.length/\Fk L (pd.take m) ld A7/\LW w' H wb {n with fell:=false,pv:=pv} b ld (KS sb ab b ld wc A7 ro L A P) FT (pd.take m) ls):=by
 obtain⟨aH,aB⟩:=h0;have aT:Hid (∀w',A4 Aa w w'->∀m:Nat,m<=pd.length->_):=λw' hw m hm=>O6 w' m (h.ak hw) aG aK aI hm aE aL aN hl hc;have⟨ap,cp,hpv,hcap1,hcap2,hgg⟩:=h.DC.BW;unfold maxLen at hcap2;have⟨i0,hi,hz0,hz1,hz2⟩:=DL A1y;have c6:=h.Ae.c6;rw[hpv]at c6;have aP:Hid (∀m,m<=pd.length->∀w',A4 Aa w w'->Src Tryz.prog 3 37 (.slice ap m cp) m (B5 (pd.take m)) w'):=λm hm w' hw=>by
  have W:=Au h.DC λg hg=>hw.Al g (Aw h.DC hg) (λh=>h);rw[hpv]at W;by_cases e:m=pd.length
  ·subst e;rw[C5];exact Src.bP Nq W (Hu _)
  ·obtain⟨a2,c2,q1,q2,q3,q4,-⟩:=B8 W;cases q1;obtain⟨g,rfl⟩:=q4 (by omega);have:=Src.fR Nq W (Hu _) 0 m cp (by omega);rw[Nat.zero_mul,Dl,Zl]at this;exact this
 obtain⟨M,hM⟩:∃M,pd.length=M:=⟨_,rfl⟩;have aU:=A1 h;have aR:=A1 hM;have a7:=A1 hT;rw[hM]at aT aP hcap1 c6 aE aB;have a8:=A1 O;have c8:=h.Ae.c8;have c7:=h.Ae.c7;rw[I]at c7;obtain⟨fl,E⟩:∃fl,n.fell=fl:=⟨_,rfl⟩;rw[E]at c8;have aW:=A1 E;have a4:=A1 aH;have a5:=A1 aB;clear h hT aL hM hpv hgg O aN hl hc E aH aB;have aJ:Hid (∀m':Nat,n0<=m'->m'<M->wrap64 (m':Int)=(m':Int)/\¬((m':Int)<(Ad:Int))/\wrap64 (((m'+1:Nat):Int)-1)=(m':Int)):=λm' h1 h2=>by
  have h3:=a4.o;refine⟨by unfold wrap64;omega,by omega,by unfold wrap64;omega⟩
 go_enter func52,ntmps52
 go_wp2;go_loopw [3] (λnv wr=>∃m:Nat,nv=A0 m/\Hid (n0<=m/\m<=M/\A4 Aa w wr)) (λnv _=>(intOf nv).toNat)
 ·exact⟨M,rfl,a5.o,Ao _,A4.C _ _⟩
 ·obtain⟨m,rfl,z⟩:=hrel;have a6:=A1 (aT.o wr z.o.2.2 m z.o.2.1);have m0:=BJ m;have a3:(m:Int)<1099511627776:=by have:=z.o.2.1;omega
  go_wp2_with (fail);refine a6.m ?_;rintro e w1⟨t,rfl,ht,aO⟩;have aF:=A1 ht;have d:Hid (A4 Aa w w1):=z.o.2.2.tr aO;clear aO ht a6 aT;cases t with
  | true=>
   have d6:=d.o.ah c6;have a0:=aU.o.ak d.o;have e6:=a0.Ae.fz 6;have a1:=A1 a0;have aM:=A1 (aP.o m z.o.2.1 w1 d.o);have hmcp:m<=cp:=AP z.o.2.1 hcap1;have aZ:=A1 z.o;clear z a0 aP c6 c7 c8;go_wp2_with (at_builtin;refine CU rfl (.tmp 30) (.tmp 36) 37 37 rfl 141 i0 _ 3 24 Nq hi hz0 hz1 hz2 rfl (by decide) (.slice none 0 0) 0 [] (by rfl) (Co _ 0 141 3) (.slice ap m cp) m (B5 (pd.take m)) (by rfl) aM.o (by omega) ?_;intro a2 aA w2 hA;simp only[Ha,Fa]at hA;have aS:=A1 hA;clear hA aM;have X:A4 Aa w1 w2:=aS.o.bF;have d6:=X.ah d6;have aQ:=A1 (a1.o.ak X);have e8:=aQ.o.Ae.fz 8;have e6:=aQ.o.Ae.fz 6;have d8:=aQ.o.Ae.c8;have aX:=A1 X;clear X);go_wp2;go_ret;(have aY:(pd.take m).length=m:=by rw[BK,aR.o];exact JN aZ.o.2.1);have h3:GS w2 (.slice a2 m aA) (pd.take m):=by
    have:=aS.o.AB;unfold GS;rw[aY];exact this
   have aD:∀g,(Value.slice a2 m aA).ownBlock=some g->H<=g/\¬FT g:=λg hg=>by
    rcases aS.o.BY with h|h
    ·rw[h]at hg;simp[Value.ownBlock]at hg
    ·rw[h]at hg;cases hg;exact⟨a1.o.Ak,λhx=>by have:=a1.o.lt _ hx;omega⟩
   have⟨k3,hL3⟩:=aQ.o.ev h3 aD;have⟨k4,hL4⟩:=hL3.CO 8 (.bool false) (hL3.Ae.s8 false) rfl rfl rfl rfl;refine⟨rfl,((d.o.tr aX.o).aT (S:=Up H)).tr (k3.tr k4),m,_,aZ.o.1,by rw[aR.o];exact aZ.o.2.1,aF.o.1 trivial,hL4⟩
  | false=>
   have Y:n0<m:=by
    rcases F9 n0 m with h|h
    ·exact h
    ·(have e:m=n0:=by have:=z.o.1;omega);subst e;exact absurd (aF.o.2 a7.o) (by simp)
   have E:fl=true:=by
    cases fl with
    | true=>rfl
    | false=>
     have:=a8.o aW.o;have h1:=z.o.2.1;have h2:=aR.o;omega
   subst E;obtain⟨m',rfl⟩:∃m',m=m'+1:=⟨m-1,(Nat.sub_add_cancel (Qi (Ch _) Y)).symm⟩;have d8:=d.o.ah c8;have d7:=d.o.ah c7;have⟨e1,hsm,e2⟩:=aJ.o m' (Qj Y) (Nat.lt_of_succ_le z.o.2.1);have aV:Hid (n0<=m'/\m'<=M/\A4 Aa w w1):=⟨Qj Y,A4n z.o.2.1,d.o⟩;clear z Y aF aP c6 c7 c8 a7 hi hz0 hz1 hz2 hcap1 hcap2 I aG aK aI m0 a3 aJ aE e2;go_wp2;rw[e1];go_roundw
   ·exact⟨m',rfl,aV.o⟩
   ·simp[intOf]
end
end
section
open Go.RowKit
def Env(B:Nat)(w:gx):Prop:=Lets B w/\Iy w/\1<B/\2<B
def Env.al{B:Nat}{w w':gx}{S:Nat->Prop}(h:Env B w)(I:A4 S w w')(z:∀k,S k->B<=k):Env B w':=by
 obtain⟨E,⟨⟨Y,a1,X⟩,e2,a2,b2⟩,W,O⟩:=h;refine⟨E.al I z,⟨⟨Y,?_,X⟩,e2,?_,b2⟩,W,O⟩
 ·rw[<-a1];have:=I.Al 1 (Bn W E.1) λd=>by have:=z _ d;omega
  simp only[World.cell?,this]
 ·rw[<-a2];have:=I.Al 2 (Bn O E.1) λd=>by have:=z _ d;omega
  simp only[World.cell?,this]
def Env.aL{B:Nat}{w w':gx}(h:Env B w)(d:A4 Aa w w'):Env B w':=h.al d λ_ h=>h.elim
def Lu{n:Int}(h:isNum n=true):CK n:=by
 unfold isNum at h;simp at h;exact HR (by omega) h.2
def A0d{O:Int×Int}{nm:Bs}(h:FI O nm):nm.length<=281474976710656:=by
 have I:∀(c:UInt8) (n:Int),1<=n->n<=4611686018427387904->(c::(Lib.repeatL [48] (19-(Lib.itoa n).length)++Lib.itoa n)).length<=281474976710656:=λc n d E=>by
  rw[Lf d E,CA,MI];omega
 by_cases E:(Bq nm).1=1
 ·have⟨⟨a,b⟩,e⟩:=OW E;rw[<-e,Jt];exact I _ _ a b
 ·by_cases z:(Bq nm).1=2
  ·have⟨⟨a,b⟩,e⟩:=OU z;rw[<-e,IK];exact I _ _ a b
  ·have d:=h.1;unfold Bq at d E z;cases hx:En [108] nm with
   | some v=>rw[hx]at E;exact absurd rfl E
   | none=>
    rw[hx]at d z;dsimp only at d z;unfold Hy at d z;cases hy:En [115] nm with
    | some v=>rw[hy]at z;exact absurd rfl z
    | none=>
     rw[hy]at d;dsimp only at d;unfold Hx IL at d;split at d
     ·rename_i e;subst e;decide
     ·split at d
      ·rename_i e;subst e;decide
      ·exact absurd rfl d
def Sq:∀(k s:Nat) (l:gD UInt8),(DV k s l).1.length*21<=l.length
 | 0,_,_=>by simp[DV]
 | k+1,s,l=>by
  unfold DV;split
  ·simp
  ·rename_i hl;split
   ·have:=Sq k (AY s (l.take 17)) (l.drop 21);rw[Cz]at this;simp only[CA];omega
   ·simp
def A0E{P:PD}{a c m:Nat}(z:Fit P a c m)(n d:Int):(P.aX n d).1.length*21<=m:=by
 have key:∀l:gD UInt8,l.length<=m->∀s,(Gy s d l).1.length*21<=m:=λl hl s=>by
  unfold Gy;split
  ·simp
  ·split
   ·split
    ·have:=Sq l.length (AY s (l.take 8)) (l.drop 12);rw[Cz]at this;dsimp only;omega
    ·simp
   ·simp
 unfold PD.aX H0;split
 ·simp
 ·refine key _ ?_ _;unfold Eb;split
  ·rename_i f h;exact z.Be f (Gl h)
  ·exact Ch _
def Ze{P:PD}{a c m:Nat}(z:Fit P a c m)(l:gD Int):(P.pd l).1.length*21<=l.length*m:=by
 have key:∀(l:gD Int) (d:gD Pu),(P.bq l d).1.length*21<=d.length*21+l.length*m:=by
  intro l
  induction l with
  | nil=>intro d;simp[PD.bq]
  | cons n r ih=>
   intro d;unfold PD.bq;split
   ·simp
   ·have h:=ih (d++(P.aX n d.length).1);have h2:=A0E z n d.length;rw[B3]at h;rw[CA,I5];omega
 have:=key l [];simpa[PD.pd] using this
section
variable{w:gx}{B sb ab b:Nat}{ld wc A7:Int}{L:Nat->gD Pt}{A:Ar}{P:PD}{FT:Nat->Prop}{pd:gD Pu}{Ad t N:Nat}{o:Int}
def Sy(w:gx)(p:Pu)(h:SF w sb ab b 0 ld wc A7 false L A P FT)(E:∀k,FT k->k<w.heap.size)(d:St t A P pd Ad o false)(ht:t+1<=330000)(hp:Bm p)(Y:Lets B w)(I:∀k,FT k->B<=k)(O:∀k,k<8->(L k).length<=t)(hl:1<=ld/\ld<=4611686018427387904)(hc:Ay A7):
 Ag 23 #[A5 sb,A0 p.1,A0 p.2.1,A0 p.2.2] w (Aj (A0 (A.af P p).2.1) λw'=>
  Ap w FT w' (λw' z=>SF w' sb ab b 0 ld wc A7 (decide ((A.af P p).2.1≠0)) (if (A.af P p).1=true then EB L (AN A7 ld) p.1.toNat p.2.1 p.2.2 else L) (A.af P p).2.2.1 (A.af P p).2.2.2 z)):=by
 have⟨sg,cl,ol,hI,_⟩:=d.si rfl;have W:=hI.bO d.pb d.Be (by omega);have hj:=W.j;exact Sz w p h E hp (λ_=>⟨HR (by omega) (by omega),by constructor<;>omega,hI.AZ.dE hI.CE⟩) (by have:=W.An;omega) Y I d.pb.CZ ⟨by omega,by omega,by omega⟩ (λk X=>by have:=O k X;omega) hl hc
def Xe(w:gx)(h:SF w sb ab b 0 ld wc A7 false L A P FT)(_hFT:∀k,FT k->k<w.heap.size)(W:Lets B w)(d:∀k,FT k->B<=k):
 Ag 31 #[A5 sb] w (Aj (A0 (A.ad P).1) λw'=>Ap w FT w' (λw' z=>SF w' sb ab b 0 ld wc A7 (decide ((A.ad P).1≠0)) L (A.ad P).2.1 (A.ad P).2.2 z)):=
 Xf w (A.ad P).1 h W d (A':=(A.ad P).2.1) (P':=(A.ad P).2.2) λE _ O I _ _=>A3M E O I
def XU{L:Nat->gD Pt}(h:∀k,DP (L k))(o:Int)(k:Nat)(t v:Int):∀i,DP (EB L o k t v i):=λi=>by
 unfold EB;split
 ·unfold Hs;split
  ·exact Lx (h k) _ _
  ·exact h i
 ·exact h i
def YW(ld A7:Int)(h:gD Pu)(Y:∀p∈h,Bm p):Rel (GD (AN A7 ld) h) h ld A7:=by
 have key:∀n (l:gD Pu),l.length=n->(∀p∈l,Bm p)->Rel (GD (AN A7 ld) l) l ld A7/\∀k,DP (GD (AN A7 ld) l k):=by
  intro n
  induction n with
  | zero=>
   intro l d _;obtain rfl:=Hp.1 d;exact⟨Rel.bU ld A7,λ_=>List.Pairwise.nil⟩
  | succ n ih=>
   intro l d z;rcases M7 l with rfl|⟨r,p,rfl⟩
   ·cases d
   ·rw[Wb]at d z ⊢;have⟨i1,i2⟩:=ih r (by simpa using d) λx hx=>z x (G1 _ hx);have E:=z p (by simp);rw[P9];obtain⟨k,t,v⟩:=p;obtain⟨⟨X,W⟩,I,_⟩:=E;dsimp only at X W I ⊢;obtain⟨O,rfl⟩:∃O:Nat,k=O:=⟨k.toNat,by omega⟩;exact⟨i1.aF (λj _=>i2 j) (by omega) I,XU i2 _ _ _ _⟩
 exact(key _ h rfl Y).1
def TU{O I:gD (Int×gD Pu)}{E:Option (gD Pu)}(h:Lay P A O I E):∀n∈A.j.An,CK n:=λn z=>by
 rw[h.bY]at z;obtain⟨x,d,rfl⟩:=Cl.1 z;cases E with
 | none=>exact Lu (h.CX x d).1.1
 | some l=>
  rcases AX.1 d with d|d
  ·exact Lu (h.CX x d).1.1
  ·simp at d;subst d;exact Lu h.AB.2.2.2.2
def Ju{x y a b:Nat}(h:x<=a)(d:y<=b){c:Nat}(z:a*b<=c):x*y<=c:=AP (VN h d) z
def Uw(W:Gc N)(hN:N<=330000)(w:gx)(h:SF w sb ab b 0 ld wc A7 false L A P FT)(X:∀k,FT k->k<w.heap.size)(z:St t A P pd Ad o false)(ht:t+1<=330000)(hpN:pd.length<=N)(hw:1<=wc/\wc<=4611686018427387904)(hL:Lets B w)(Y:∀k,FT k->B<=k):
 Ag 24 #[A5 sb] w (Aj (A0 (A.aS P wc).1) λw'=>Ap w FT w' (λw' I=>SF w' sb ab b 0 ld wc A7 (decide ((A.aS P wc).1≠0)) L (A.aS P wc).2.1 (A.aS P wc).2.2 I)):=by
 have⟨sg,cl,ol,hI,_⟩:=z.si rfl;have d:=hI.bO z.pb z.Be (by omega);have hj:=d.j;have hs:=d.s;have hsg:=d.sd;have hlg:=d.An;have hall:=hI.Cy.2.2;have hl0:(Bj sg cl ol).length=(Ax sg).length+(Ax cl++ol.getD []).length:=by unfold Bj;rw[B3]
 have hp:=hI.AZ.pd hI.CE;refine A1T w (A.aS P wc).1 h X hL Y (A':=(A.aS P wc).2.1) (P':=(A.aS P wc).2.2) λw1 F0 hA h0 O E=>?_;exact A3N W (by omega) w1 hA h0 wc hw (by rw[hp];dsimp only;omega) (by rw[hp];exact hI.AZ.b4) ⟨hs.1,by omega⟩ (by constructor<;>omega) (λx hx=>Pd (hI.AZ.DX.sd x hx)) z.pb.CZ ⟨by omega,by omega,by omega⟩
  (Ju (a:=330000) (b:=13201000) (by omega) (by omega) (by decide)) (by omega) (λn hn=>Lu (hI.AZ.DX.sd n hn)) (TU hI.AZ) (by omega) O E
def A23(Y:Gc N)(hN:N<=330000)(w:gx)(h:SF w sb ab b 0 ld wc A7 false L A P FT)(aA:∀k,FT k->k<w.heap.size)(I:St t A P pd Ad (AN A7 ld) false)(ht:t+1<=330000)(hpN:pd.length<=N)(hw:1<=wc/\wc<=4611686018427387904)(hL:Lets B w)(aB:∀k,FT k->B<=k)(hl:1<=ld/\ld<=4611686018427387904)(hc:Ay A7):
 Ag 25 #[A5 sb] w (Aj (A0 (A.aN P wc (AN A7 ld)).1) λw'=>
  Ap w FT w' (λw' W=>SF w' sb ab b 0 ld wc A7 (decide ((A.aN P wc (AN A7 ld)).1≠0)) L (A.aN P wc (AN A7 ld)).2.1 (A.aN P wc (AN A7 ld)).2.2 W)):=by
 have⟨sg,cl,ol,hI,_⟩:=I.si rfl;have d:=hI.bO I.pb I.Be (by omega);have hj:=d.j;have hs:=d.s;have hsg:=d.sd;have hlg:=d.An;have hall:=hI.Cy.2.2;have E:=hI.AZ.pd hI.CE;refine A24 w (A.aN P wc (AN A7 ld)).1 h aA hL aB hl hc (A':=(A.aN P wc (AN A7 ld)).2.1) (P':=(A.aN P wc (AN A7 ld)).2.2) λw1 F0 hA h0 X O=>?_;refine A3O Y (by omega) w1 hA h0 wc (AN A7 ld) hw (λsd z=>?_) ⟨by omega,Ju (a:=330000) (b:=13201000) (by omega) (by omega) (by decide)⟩ ⟨hs.1,by omega⟩ (by constructor<;>omega) (λx hx=>Pd (hI.AZ.DX.sd x hx)) I.pb.CZ ⟨by omega,by omega,by omega⟩
  (Ju (a:=330000) (b:=13201000) (by omega) (by omega) (by decide)) (λn hn=>Lu (hI.AZ.DX.sd n hn)) (TU hI.AZ) (by omega) X O
 rw[hI.AZ.ck]at z;cases z;have e:sg.flatMap (·.2)++(P.pd A.j.An).1=Bj sg cl ol:=by rw[E];rfl
 rw[e];refine⟨by omega,λp E=>?_⟩;rcases AX.1 E with E|E
 ·exact hI.AZ.dc p E
 ·exact hI.AZ.b4 p E
def T9(w:gx)(Ft:Nat->Prop)(hd:Bu w b P Ft)(z:∀k,Ft k->k<w.heap.size)(I:PB P t)(aA:DI (Cs t) P pd Ad (AN A7 ld))(hr:Reads (Cs t) P pd (AN A7 ld))(hq:∀p∈pd,Bm p)(Y:pd.length<=t)(aF:Ad<=pd.length)(E:P.D.n.Bh=false)(ht:t<=330000)(hE:Env B w)(hl:1<=ld/\ld<=4611686018427387904)(hw:1<=wc/\wc<=4611686018427387904)(hc:Ay A7):
 Calls Tryz.prog 22 #[.pointer (some ⟨b,0,none⟩),.agg #[.int .i64 ld,.int .i64 wc],.int .i64 A7] w λe w'=>
  ∃A ab sb L,e=.returned (.tuple #[.pointer (some ⟨sb,0,none⟩),.int .i64 0])/\w.heap.size<=sb/\(∃ps,Ar.aU P=.ok (A,ps))/\St t A P pd Ad (AN A7 ld) false/\Rel L pd ld A7/\(∀k,k<8->(L k).length<=t)/\Ap w Ft w' (λw' aD=>SF w' sb ab b 0 ld wc A7 false L A P aD):=by
 have⟨A,ps,h1,h2,h3,h4⟩:=St.aU I aA hr hq Y aF E ht;have⟨sg,cl,ol,hI,_⟩:=h2.si rfl;have O:=hI.bO I Y (by omega);have hpl:=h3.2.2;have W:=hI.AZ.bb;refine(Ta w ld wc A7 hl hw hc z (P:=P) (Ft:=Ft) (b:=b) (λA' aE h=>by rw[h1]at h;cases h;exact⟨by omega,λp I=>(h4 p I).1⟩) λw1 hk=>?_).mono ?_
 ·have X:=hE.aL hk;refine Vk w1 (AW.aw hd z hk) (λk aB=>Bn (z k aB) hk.Ak) I.CZ ⟨by omega,by omega,by omega⟩ (Ju (a:=990020) (b:=13201000) (by omega) (by omega) (by decide)) X.1 X.2.1 (λnm hm=>A0d (aA.Az nm λe=>Hw.1 hm (J0.2 e))) (λix hx=>?_) (λd=>?_)
  ·rw[W]at hx;cases hx;have:=O.sd;exact⟨by omega,Ju (a:=330000) (b:=13201000) (by omega) (by omega) (by decide)⟩
  ·have h5:=Ze I.CZ (BU d P.Az);have h6:=MP d P.Az;have h7:=O.Az;have h8:(BU d P.Az).length*(40*t+1000)<=13069254020000:=Ju (a:=990020) (b:=13201000) (by omega) (by omega) (by decide);omega
 ·rintro e w' (⟨n,q1,-⟩|⟨A',aE,ab,sb,q1,rfl,q2,q3⟩)
  ·rw[h1]at q1;cases q1
  ·rw[h1]at q1;cases q1;refine⟨A,ab,sb,_,rfl,q2,⟨_,h1⟩,h2,?_,λk hk=>AP (Pa _ k _ ps rfl) (by omega),q3⟩;exact Sh (YW ld A7 ps h4) hq h3
end
end
end Go.Proofs.YtodcnkbblippnaaGreatDoor
