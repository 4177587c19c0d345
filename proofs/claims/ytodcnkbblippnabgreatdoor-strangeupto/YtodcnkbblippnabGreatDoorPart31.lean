/- Part 31 of a proof: walks of the program. -/
import Derived.Test.YtodcnkbblippnabGreatDoorPart30
namespace Go.Proofs.YtodcnkbblippnabGreatDoor
set_option maxRecDepth 100000
set_option maxHeartbeats 32000000
set_option linter.defProp false
open Go.Proofs.Tryz
section
open Go.RowKit
section
variable{bd:Int×Int}{P P':PD}{puts:List Pu}{Ag:Nat}{o:Int}{nm:Bs}
def KT(P:PD)(nm:Bs):Extra P nm (P.af (A9 nm)).2/\((P.af (A9 nm)).1=0->lookup (P.af (A9 nm)).2.D.A6 (A9 nm)=some P.D.AS):=by
 unfold PD.af Cy;by_cases I:A9 nm=ByteArray.empty\/B4 P.D.A6 (A9 nm)≥0
 ·rw[Ah I];exact⟨⟨λf z=>by simp[upd,z],by simp[upd],rfl,.inl ⟨rfl,rfl⟩⟩,λh=>by cases h⟩
 ·rw[Ae I];have O:lookup P.D.A6 (A9 nm)=none:=(Ik _ _).1 (by (have:¬B4 P.D.A6 (A9 nm)≥0:=λe=>I (.inr e));omega);dsimp only
  by_cases H:(bg P.D.n).1=true
  ·rw[Ah H];refine⟨⟨λf z=>by simp[upd,z],by simp[upd],rfl,.inr ⟨O,rfl,rfl⟩⟩,λ_=>?_⟩;dsimp only
   rw[lookup_append,O];simp[lookup]
  ·rw[Ae H];exact⟨⟨λf z=>by simp[upd,z],by simp[upd],rfl,.inl ⟨rfl,rfl⟩⟩,λh=>absurd (GS h) H⟩
def TU(D:DS)(F:Nat->FC)(f:Nat)(x:ByteArray)(h e:Int):(BI D F f x h e).2.1.A6=D.A6/\(BI D F f x h e).2.1.AK=D.AK/\(BI D F f x h e).2.1.Ap=D.Ap/\∃j:Nat,(BI D F f x h e).2.2=upd F f ((F f).1++x.data.toList.take j,(F f).2):=by
 unfold BI;split
 ·dsimp only
  refine⟨?_,?_,?_,_,rfl⟩<;>split<;>rfl
 ·exact⟨rfl,rfl,rfl,_,rfl⟩
def Iq{P:PD}{nm:ByteArray}{f:Nat}(l:Bs)(h:lookup P.D.A6 nm=some f):(P.al nm l).2.D.A6=P.D.A6/\(P.al nm l).2.D.AK=P.D.AK/\(P.al nm l).2.D.Ap=P.D.Ap/\
 ((P.al nm l).2.F=P.F\/∃j:Nat,(P.al nm l).2.F=upd P.F f ((P.F f).1++l.take j,(P.F f).2)):=by
 unfold PD.al Bj;rw[h];dsimp only
 have z:(A9 l).data.toList=l:=by simp[A9]
 split
 ·have⟨a1,a2,a3,j,a4⟩:=TU {P.D with n:=(bg P.D.n).2.2} P.F f (A9 l) (A9 l).size (bg P.D.n).2.1;exact⟨a1,a2,a3,.inr ⟨j,by rw[a4,z]⟩⟩
 ·split
  ·have⟨a1,a2,a3,j,a4⟩:=TU {P.D with n:=(bg P.D.n).2.2} P.F f (A9 l) ((bg P.D.n).2.2.BA % (A9 l).size) (bg P.D.n).2.1;exact⟨a1,a2,a3,.inr ⟨j,by rw[a4,z]⟩⟩
  ·exact⟨rfl,rfl,rfl,.inl rfl⟩
def ID{P:PD}{nm:ByteArray}{f:Nat}(h:lookup P.D.A6 nm=some f):(P.aq nm).2.D.A6=P.D.A6/\(P.aq nm).2.D.AK=P.D.AK/\(P.aq nm).2.D.Ap=P.D.Ap/\
 ((P.aq nm).2.F=P.F\/(P.aq nm).2.F=upd P.F f ((P.F f).1,(P.F f).1.length)):=by
 unfold PD.aq Cx;rw[h];dsimp only
 refine⟨rfl,rfl,rfl,?_⟩;split
 ·exact .inr rfl
 ·exact .inl rfl
def Extra.al(z:Extra P nm P')(I:lookup P'.D.A6 (A9 nm)=some P.D.AS)(l:Bs):Extra P nm (P'.al (A9 nm) l).2:=by
 have⟨a1,a2,a3,h⟩:=Iq l I;refine⟨λf H=>?_,?_,a2.trans z.AK,by rw[a1,a3];exact z.Hl⟩
 ·rcases h with h|⟨j,h⟩
  ·rw[h];exact z.Ep f H
  ·rw[h];simp[upd,H];exact z.Ep f H
 ·have:=z.E9;rcases h with h|⟨j,h⟩
  ·rw[h];exact this
  ·rw[h];simp only[upd,Cn,AX];omega
def Extra.aq(z:Extra P nm P')(I:lookup P'.D.A6 (A9 nm)=some P.D.AS):Extra P nm (P'.aq (A9 nm)).2:=by
 have⟨a1,a2,a3,h⟩:=ID I;refine⟨λf H=>?_,?_,a2.trans z.AK,by rw[a1,a3];exact z.Hl⟩
 ·rcases h with h|h
  ·rw[h];exact z.Ep f H
  ·rw[h];simp[upd,H];exact z.Ep f H
 ·have:=z.E9;rcases h with h|h
  ·rw[h];exact this
  ·rw[h];simp only[upd,Cn];omega
def JP(P:PD)(nm:Bs)(s:Nat)(l:Bs):Extra P nm (P.aH nm s l).2/\((P.aH nm s l).1=0->lookup (P.aH nm s l).2.D.A6 (A9 nm)=some P.D.AS/\Cr ((P.aH nm s l).2.F P.D.AS)):=by
 have⟨e1,e2⟩:=KT P nm;unfold PD.aH;by_cases H:(P.af (A9 nm)).1=0
 ·rw[Ae (nn H)];have O:=e2 H;have X:=e1.al O (AT s l);have z:lookup ((P.af (A9 nm)).2.al (A9 nm) (AT s l)).2.D.A6 (A9 nm)=some P.D.AS:=by rw[(Iq (AT s l) O).1];exact O
  have Y:((P.af (A9 nm)).2.I (A9 nm) s l).2.2=((P.af (A9 nm)).2.al (A9 nm) (AT s l)).2:=rfl;by_cases W:((P.af (A9 nm)).2.I (A9 nm) s l).2.1=0
  ·rw[Ae (nn W),Y];refine⟨X.aq z,λI=>?_⟩;have⟨a1,_,_,_⟩:=ID z;refine⟨by rw[a1];exact z,?_⟩;unfold PD.aq Cx at I ⊢;rw[z]at I ⊢;dsimp only at I ⊢;rw[Ah I];simp[upd,Cr]
  ·rw[Ah W];exact⟨X,λh=>absurd h W⟩
 ·rw[Ah H];exact⟨e1,λh=>absurd h H⟩
def DI.aH(h:DI bd P puts Ag o)(z:nm=Bl\/∃k,(isNum k=true/\k<=bd.2)/\nm=Aw k)(s:Nat)(l:Bs):DI bd (P.aH nm s l).2 puts Ag o:=h.bJ (JP P nm s l).1 z
def DI.ah:∀(fresh:List (List Pu)) (last:Int) (kept:List Int) {P:PD},DI bd P puts Ag o->0<=last->last+fresh.length<=4611686018427387904->last+fresh.length<=bd.2->DI bd (PD.ah fresh last kept P).2.2.2 puts Ag o
 | [],last,kept,P,h,_,_,_=>h
 | l::r,last,kept,P,h,h0,h1,h2=>by
  simp only[BM]at h1 h2;have z:PD.ah (l::r) last kept P=if (P.aI (last+1) l).1≠0 then ((P.aI (last+1) l).1,last+1,kept,(P.aI (last+1) l).2) else PD.ah r (last+1) (kept++[last+1]) (P.aI (last+1) l).2:=rfl
  have H:DI bd (P.aI (last+1) l).2 puts Ag o:=h.aH (.inr ⟨last+1,⟨by unfold isNum;simp;omega,by omega⟩,rfl⟩) _ _;rw[z];split
  ·exact H
  ·exact DI.ah r (last+1) _ H (by omega) (by omega) (by omega)
def DI.dq(h:DI bd P puts Ag o)(nm:ByteArray):DI bd (P.aq nm).2 puts Ag o:=by
 cases hx:lookup P.D.A6 nm with
 | none=>
  have e:(P.aq nm).2=P:=by unfold PD.aq Cx;rw[hx]
  rw[e];exact h
 | some f=>
  have⟨a1,a2,a3,z⟩:=ID hx;have es:Br (P.aq nm).2=Br P:=by unfold Br;rw[a2,a3]
  refine⟨λs I=>?_,by rw[es];exact h.As,by rw[es];exact h.Cg,by rw[es,a1];exact h.CH⟩;rw[es]at I;rcases z with z|z
  ·rw[z];exact h.E3 s I
  ·refine(h.E3 s I).bQ λm=>?_;unfold vw;cases hk:lookup s (A9 m) with
   | none=>exact⟨λc H=>by simp at H,λ_=>rfl⟩
   | some g=>
    refine⟨λc H=>?_,λO=>by simp at O⟩;simp at H;subst H;rw[z];by_cases e:g=f
    ·subst e;exact⟨_,rfl,by simp[upd],.inr (by simp[upd,Cr])⟩
    ·exact⟨P.F g,by simp[upd,e],rfl,.inl rfl⟩
def DI.av:∀(l:List Bs) {P:PD},DI bd P puts Ag o->DI bd (PD.av l P).2 puts Ag o
 | [],P,h=>h
 | x::r,P,h=>by
  have z:=h.dq (A9 x);unfold PD.av;split
  ·exact z
  ·exact DI.av r z
def DI.aa{A:Ar}(h:DI bd P puts Ag o):DI bd (A.aa P).2.2 puts Ag o:=by
 unfold Ar.aa;split
 ·exact h.av _
 ·exact h.av _
def DI.ff(h:DI bd P puts Ag o):DI bd P.aN.2 puts Ag o:=by
 unfold PD.aN E4;dsimp only
 split
 ·have H:=h.CH;exact⟨λs z=>by simp[Br]at z;subst z;exact h.E3 _ H,λs z=>by simp[Br]at z;subst z;exact h.As _ H,λs z=>by simp[Br]at z;subst z;exact h.Cg _ H,by simp[Br]⟩
 ·exact⟨h.E3,h.As,h.Cg,h.CH⟩
end
def CX(bd:Int×Int)(V:View)(ix:Ix)(sg cl:List (Int×List Pu))(lo:Option (Int×List Pu))(puts:List Pu)(Ag:Nat)(o:Int):Prop:=
 ∃nb,CW bd V ix sg cl lo/\nb<=puts.length/\Ci o (Az sg++Az cl) (puts.take nb)/\
  (∀n l,lo=some (n,l)->∃c,V (Af n)=some c/\Ag<=nb+Fp c l/\l=(puts.drop nb).take l.length)/\(lo=none->Ag<=nb)
section
variable{bd:Int×Int}{P P':PD}{V V':View}{ix:Ix}{sg cl:List (Int×List Pu)}{lo:Option (Int×List Pu)}{puts:List Pu}{Ag:Nat}{o:Int}{nm:Bs}
def CX.ck(h:CX bd V ix sg cl lo puts Ag o):Holds bd V puts Ag o:=by
 obtain⟨nb,z⟩:=h;exact⟨ix,sg,cl,lo,nb,z⟩
def CX.br(h:CX bd V ix sg cl lo puts Ag o):CW bd V ix sg cl lo:=h.choose_spec.1
def Kh(ix:Ix)(sg:List (Int×List Pu))(nm:Bs):Prop:=nm=AF\/(∃x∈sg,nm=Aw x.1)\/∃n,isNum n=true/\ix.AW<=n/\nm=Af n
def CX.e4(h:CX bd V ix sg cl lo puts Ag o)(W:¬Kh ix sg nm)(hV:∀m,V' m=if m=nm then none else V m):CX bd V' ix sg cl lo puts Ag o:=by
 obtain⟨nb,X,aA,hs,g1,g2⟩:=h;have z:∀m,m≠nm->V' m=V m:=λm O=>by rw[hV,Ae O]
 have I:∀m,V' m≠none->m≠nm:=λm O e=>O (by rw[hV,Ah e]);refine⟨nb,X.bQ (λm O=>?_) (λm O=>?_) (λm d Y=>?_),aA,hs,λn l e=>?_,g2⟩
 ·have H:m≠nm:=λe=>W (e ▸ O);rw[z m H];cases hv:V m with
  | none=>exact .inl ⟨rfl,rfl⟩
  | some d=>exact .inr ⟨d,d,rfl,rfl,rfl,.inl rfl⟩
 ·have H:=I m O;rw[z m H]at O;exact X.DZ m O
 ·have H:=I m (by rw[Y];simp);rw[z m H]at Y;exact X.E9 m d Y
 ·have⟨d,d1,d2,d3⟩:=g1 n l e;have hq:=(X.A8 n l e).1;exact⟨d,by rw[z _ λe2=>W (.inr (.inr ⟨n,hq.1,hq.2,e2.symm⟩))];exact d1,d2,d3⟩
def Rc(h:GV P)(nm:ByteArray):(P.aG nm).2.F=P.F/\(P.aG nm).2.D.AK=P.D.AK/\
 (((P.aG nm).2.D.A6=P.D.A6/\(P.aG nm).2.D.Ap=P.D.Ap/\(P.aG nm).1≠0)\/((P.aG nm).2.D.A6=(P.D.A6.filter λe=>decide (e.1≠nm))/\(P.aG nm).2.D.Ap=P.D.Ap++[P.D.A6.filter λe=>decide (e.1≠nm)])):=by
 unfold PD.aG Dx;by_cases H:B4 P.D.A6 nm<0
 ·rw[Ah H];exact⟨rfl,rfl,.inl ⟨rfl,rfl,by simp⟩⟩
 ·rw[Ae H];dsimp only
  rw[TM _ _ h.Cg H];by_cases z:(bg P.D.n).1=true
  ·rw[Ah z];exact⟨rfl,rfl,.inr ⟨rfl,rfl⟩⟩
  ·rw[Ae z];exact⟨rfl,rfl,.inl ⟨rfl,rfl,λh=>z (GS h)⟩⟩
def Q4(F:Nat->FC)(s:List AI)(nm m:Bs):vw F (s.filter λe=>decide (e.1≠A9 nm)) m=if m=nm then none else vw F s m:=by
 unfold vw;rw[KI s (λx=>decide (x≠A9 nm))];by_cases h:m=nm
 ·subst h;simp
 ·have:A9 m≠A9 nm:=λe=>h (FV.1 e);simp[this,h]
def DI.dQ(h:DI bd P puts Ag o)(X:CX bd P.fl ix sg cl lo puts Ag o)(W:¬Kh ix sg nm):DI bd (P.aG (A9 nm)).2 puts Ag o/\CX bd (P.aG (A9 nm)).2.fl ix sg cl lo puts Ag o:=by
 have⟨a1,a2,a3⟩:=Rc h.bq (A9 nm);rcases a3 with⟨d1,d2,_⟩|⟨d1,d2⟩
 ·have es:Br (P.aG (A9 nm)).2=Br P:=by unfold Br;rw[a2,d2]
  have O:(P.aG (A9 nm)).2.fl=P.fl:=by unfold PD.fl;rw[d1,a1]
  exact⟨⟨λs z=>by rw[es]at z;rw[a1];exact h.E3 s z,by rw[es];exact h.As,by rw[es];exact h.Cg,by rw[es,d1];exact h.CH⟩,by rw[O];exact X⟩
 ·have es:Br (P.aG (A9 nm)).2=Br P++[P.D.A6.filter λe=>decide (e.1≠A9 nm)]:=by unfold Br;rw[a2,d2];rfl
  have H:∀s,s∈Br (P.aG (A9 nm)).2->s∈Br P\/s=P.D.A6.filter λe=>decide (e.1≠A9 nm):=λs z=>by
   rw[es]at z;rcases AU.1 z with z|z
   ·exact .inl z
   ·exact .inr (by simpa using z)
  have I:=X.e4 W (Q4 P.F P.D.A6 nm);refine⟨⟨λs z=>?_,λs z=>?_,λs z=>?_,by rw[es,d1];simp⟩,?_⟩
  ·rw[a1];rcases H s z with z|rfl
   ·exact h.E3 s z
   ·exact I.ck
  ·rcases H s z with z|rfl
   ·exact h.As s z
   ·exact(h.As _ h.CH).sublist (GG.map _)
  ·rcases H s z with z|rfl
   ·exact h.Cg s z
   ·exact(h.Cg _ h.CH).sublist (GG.map _)
  ·have O:(P.aG (A9 nm)).2.fl=vw P.F (P.D.A6.filter λe=>decide (e.1≠A9 nm)):=by
    funext m;unfold PD.fl vw;rw[d1,a1]
   rw[O];exact I
def DI.aL:∀(l:List Bs) {P:PD},DI bd P puts Ag o->CX bd P.fl ix sg cl lo puts Ag o->(∀m∈l,¬Kh ix sg m)->DI bd (PD.aL l P).2 puts Ag o/\CX bd (PD.aL l P).2.fl ix sg cl lo puts Ag o
 | [],P,h,hT,_=>⟨h,hT⟩
 | x::r,P,h,hT,hm=>by
  have⟨h1,h2⟩:=h.dQ hT (hm x (Bp ..));unfold PD.aL;split
  ·exact⟨h1,h2⟩
  ·exact DI.aL r h1 h2 λm z=>hm m (Bn _ z)
def DI.aw{A:Ar}(h:DI bd P puts Ag o)(H:CX bd P.fl A.ix sg cl lo puts Ag o)(W:A.j.Al=cl.map (·.1)++(lo.map (·.1)).toList)(z:sg.map (·.1)=A.ix.segs):DI bd (A.aw P).2 puts Ag o/\CX bd (A.aw P).2.fl A.ix sg cl lo puts Ag o:=by
 refine DI.aL _ h H λm I Y=>?_;have⟨h1,h2⟩:=HD.1 I;refine h2 ?_;unfold Ar.Av;rcases Y with rfl|⟨x,hx,rfl⟩|⟨n,hn,O,rfl⟩
 ·simp
 ·refine GX _ (DD ?_);rw[<-z];exact DD hx
 ·refine Fx _ (Bn _ (DD ?_));rw[W];refine H.br.CK n hn O λX=>h1 ?_;unfold PD.bs;rw[X];rfl
def ER(bd:Int×Int)(P:PD)(puts:List Pu)(Ag:Nat)(o:Int)(n:Int)(f ahead:Nat):Prop:=
 lookup P.D.A6 (A9 (Af n))=some f/\∀s∈Br P,(∀e∈s,e.2≠f)\/(lookup s (A9 (Af n))=some f/\FO bd (vw P.F s) puts Ag o n ahead)
def PZ{F:Nat->FC}{s:List AI}{f:Nat}{c:FC}(H:(s.map (·.2)).Nodup)(z:lookup s (A9 nm)=some f)(m:Bs):vw (upd F f c) s m=if m=nm then some c else vw F s m:=by
 unfold vw;by_cases h:m=nm
 ·subst h;rw[z];simp[upd]
 ·rw[Ae h];cases hk:lookup s (A9 m) with
  | none=>rfl
  | some g=>
   have:g≠f:=λe=>h (by
    have:=JA H (Ea hk) (Ea z) e
    exact FV.1 (P6 this).1)
   simp[upd,this]
def ER.al{n:Int}{f ahead:Nat}{l0:List Pu}{c0:FC}(h:DI bd P puts Ag o)(hO:ER bd P puts Ag o n f ahead)(aE:P.F f=c0)(X:c0.1=DH (Af n) ahead l0)(p:Pu)(hp:B8 p)(j:Nat)(hd:P'.D.A6=P.D.A6)(z:P'.D.AK=P.D.AK)(aF:P'.D.Ap=P.D.Ap)(hF:P'.F=upd P.F f (c0.1++(AT (Eg (Af n) ahead l0) (B9 p.1 p.2.1 p.2.2)).take j,c0.2)):
 DI bd P' (puts++[p]) Ag o/\(21<=j->ER bd P' (puts++[p]) Ag o n f ahead)/\(j<21->DI bd P' puts Ag o):=by
 have es:Br P'=Br P:=by unfold Br;rw[z,aF]
 have inj:∀ {l l':List Pu},DH (Af n) ahead l=DH (Af n) ahead l'->(∀p∈l,B8 p)->(∀p∈l',B8 p)->l=l':=λ{l l'} e h1 Y=>by
  have aA:l.length=l'.length:=by have:=E5 List.length e;rw[JG,JG]at this;omega
  have hx:DQ (AV (AB (Af n)) (AR ahead)) l=DQ (AV (AB (Af n)) (AR ahead)) l':=by unfold DH at e;exact Ve e
  have r1:=LM l (AV (AB (Af n)) (AR ahead)) (l.length+1) [] h1 (by omega) (by simp);have r2:=LM l' (AV (AB (Af n)) (AR ahead)) (l.length+1) [] Y (by omega) (by simp);rw[hx]at r1;rw[r1]at r2;simpa using r2
 have each:∀s∈Br P,((∀e∈s,e.2≠f)/\vw P'.F s=vw P.F s)\/(lookup s (A9 (Af n))=some f/\(21<=j->FO bd (vw P'.F s) (puts++[p]) Ag o n ahead)/\(j<21->Holds bd (vw P'.F s) puts Ag o)):=λs z=>by
  rcases hO.2 s z with H|⟨W,aB⟩
  ·exact .inl ⟨H,Km λe he=>by rw[hF];simp[upd,H e he]⟩
  ·refine .inr ⟨W,?_⟩;(have O:vw P.F s (Af n)=some c0:=by unfold vw;rw[W];simp[aE]);refine aB.al p hp j (s:=Eg (Af n) ahead l0) (λl c hc aD=>?_) (λm hm=>?_) (λc hc=>?_)
   ·rw[O]at hc;cases hc;obtain⟨ix,sg,cl,l1,nb,c1,hL,_,_,g1,g2,g3,_,_⟩:=aB;rw[O]at g1;cases g1;have aA:l.length=l0.length:=by
     have:=E5 List.length (aD.symm.trans X);rw[JG,JG]at this;omega
    have key:∀(a b:List Pu) (s:Nat),DQ s a=DQ s b->Hi s a=Hi s b:=by
     intro a
     induction a with
     | nil=>
      intro b s e;cases b with
      | nil=>rfl
      | cons y r=>
       have:=E5 List.length e;rw[IW,IW]at this;simp at this
     | cons x a ih=>
      intro b s e;cases b with
      | nil=>
       have:=E5 List.length e;rw[IW,IW]at this;simp at this
      | cons y r=>
       simp only[DQ]at e;have I:=
        List.append_inj e (by rw[EN,EN,EE,EE])
       have hb:=(List.append_inj I.1 (by rw[EE,EE])).1;simp only[Hi];rw[hb]at I ⊢;exact ih r _ I.2
    have e1:=aD.symm.trans X;unfold DH at e1;unfold Eg;exact(key l l0 _ (Ve e1)).symm
   ·rw[hF,PZ (h.As s z) W,Ae hm]
   ·rw[O]at hc;cases hc;rw[hF,PZ (h.As s z) W,Ah rfl]
 refine⟨⟨λs z=>?_,by rw[es];exact h.As,by rw[es];exact h.Cg,by rw[es,hd];exact h.CH⟩,λhj=>⟨by rw[hd];exact hO.1,λs z=>?_⟩,λhj=>⟨λs z=>?_,by rw[es];exact h.As,by rw[es];exact h.Cg,by rw[es,hd];exact h.CH⟩⟩
 ·rw[es]at z;rcases each s z with⟨_,O⟩|⟨_,h1,Y⟩
  ·rw[O];exact(h.E3 s z).b5 [p]
  ·by_cases hj:21<=j
   ·exact(h1 hj).ck
   ·exact(Y (by omega)).b5 [p]
 ·rw[es]at z;rcases each s z with⟨H,_⟩|⟨W,h1,_⟩
  ·exact .inl H
  ·exact .inr ⟨W,h1 hj⟩
 ·rw[es]at z;rcases each s z with⟨_,O⟩|⟨_,_,Y⟩
  ·rw[O];exact h.E3 s z
  ·exact Y hj
end
section
variable{bd:Int×Int}{P P':PD}{V V':View}{ix:Ix}{sg cl:List (Int×List Pu)}{lo:Option (Int×List Pu)}{puts:List Pu}{Ag:Nat}{o:Int}{nm:Bs}
def DI.eZ(h:DI bd P puts Ag o)(X:Extra P nm P')(W:lookup P.D.A6 (A9 nm)=none->Holds bd (vw P'.F (P.D.A6++[(A9 nm,P.D.AS)])) puts Ag o):DI bd P' puts Ag o:=by
 have old:∀s∈Br P,vw P'.F s=vw P.F s:=λs z=>Km λe I=>X.Ep _ (Ij z I);rcases X.Hl with⟨d1,d2⟩|⟨d0,d1,d2⟩
 ·have es:Br P'=Br P:=by unfold Br;rw[X.AK,d2]
  exact⟨λs z=>by rw[es]at z;rw[old s z];exact h.E3 s z,by rw[es];exact h.As,by rw[es];exact h.Cg,by rw[es,d1];exact h.CH⟩
 ·have es:Br P'=Br P++[P.D.A6++[(A9 nm,P.D.AS)]]:=by unfold Br;rw[X.AK,d2];rfl
  have H:∀s,s∈Br P'->s∈Br P\/s=P.D.A6++[(A9 nm,P.D.AS)]:=λs z=>by
   rw[es]at z;rcases AU.1 z with z|z
   ·exact .inl z
   ·exact .inr (by simpa using z)
  refine⟨λs z=>?_,λs z=>?_,λs z=>?_,by rw[es,d1];simp⟩
  ·rcases H s z with z|rfl
   ·rw[old s z];exact h.E3 s z
   ·exact W d0
  ·rcases H s z with z|rfl
   ·exact h.As s z
   ·rw[Ed,GD];refine⟨h.As _ h.CH,by simp,λa Y b O=>?_⟩;simp at O;subst O;obtain⟨e,I,rfl⟩:=C9.1 Y;exact Ij h.CH I
  ·rcases H s z with z|rfl
   ·exact h.Cg s z
   ·rw[Ed,GD];refine⟨h.Cg _ h.CH,by simp,λa Y b O=>?_⟩;simp at O;subst O;obtain⟨e,I,rfl⟩:=C9.1 Y;exact(IP.1 d0) e I
def CW.cV(H:CW bd V ix sg cl none)(hs:Ci o (Az sg++Az cl) puts)(hsafe:Ag<=puts.length){n:Int}(hn:isNum n=true)(aB:n<=bd.1)(hf:ix.AW<=n)(W:∀x∈cl,x.1<n)(j:Nat)(hV:∀m,V' m=if m=Af n then some ((AT (AB (Af n)) (AR ((Az cl).length:Int))).take j,0) else V m):
 CX bd V' ix sg cl (some (n,[])) puts Ag o/\(12<=j->FO bd V' puts Ag o n (Az cl).length):=by
 have hpl:(AT (AB (Af n)) (AR ((Az cl).length:Int))).length=12:=by rw[EN,CD]
 have h:∀m,m≠Af n->V' m=V m:=λm hm=>by rw[hV,Ae hm]
 have z:V' (Af n)=some ((AT (AB (Af n)) (AR ((Az cl).length:Int))).take j,0):=by rw[hV,Ah rfl]
 have X:∀x∈cl,Af x.1≠Af n:=λx I e=>by
  have:=FJ (H.CQ x I).1.1 hn e;have:=W x I;omega
 have O:12<=j->(AT (AB (Af n)) (AR ((Az cl).length:Int))).take j=DH (Af n) ((Az cl).length:Int) []:=λhj=>by
  rw[Ez (by omega)];simp[DH,DQ]
 have Y:HP ((AT (AB (Af n)) (AR ((Az cl).length:Int))).take j) (Af n) (Az cl).length []:=by
  by_cases hj:12<=j
  ·exact .inl ⟨[],by rw[O hj];simp,by simp⟩
  ·exact .inr ⟨rfl,by rw[BU];omega⟩
 have aA:CW bd V' ix sg cl (some (n,[])):=by
  refine⟨H.E2,by rw[h _ (H0 n).symm];exact H.Ii,H.segs,λx I=>by rw[h _ (EY n x.1).symm];exact H.BT x I,λx I=>by rw[h _ (X x I)];exact H.CQ x I,
   H.Al.bx λx I=>by rw[h _ (X x I)],λn' l e=>by cases e;exact⟨⟨hn,hf⟩,λp hp=>(by cases hp),_,z,Y⟩,?_,λk h1 h2 h3=>?_,λm hm=>?_,λm d hd=>?_⟩
  ·have:=H.Fj;simp only[Option.map_none,Option.toList_none,Fz]at this;refine Eu.2 ⟨this,by simp,λa ha b hb=>?_⟩;simp at hb;subst hb;obtain⟨x,I,rfl⟩:=C9.1 ha;exact W x I
  ·by_cases e:Af k=Af n
   ·have:=FJ h1 hn e;subst this;simp
   ·rw[h _ e]at h3;have:=H.CK k h1 h2 h3;simp at this;simp[this]
  ·by_cases e:m=Af n
   ·subst e;exact YQ hn aB
   ·rw[h _ e]at hm;exact H.DZ m hm
  ·by_cases e:m=Af n
   ·subst e;rw[z]at hd;cases hd;dsimp only;omega
   ·rw[h _ e]at hd;exact H.E9 m d hd
 refine⟨⟨puts.length,aA,Aq _,by rw[Cj];exact hs,λn' l e=>by cases e;exact⟨_,z,by omega,by simp⟩,λe=>by cases e⟩,λhj=>?_⟩;exact⟨ix,sg,cl,[],puts.length,_,aA,Aq _,by rw[Cj];exact hs,z,O hj,rfl,by omega,by simp⟩
def Ut{nm:ByteArray}{f:Nat}(l:Bs)(h:lookup P.D.A6 nm=some f)(z:(P.al nm l).1=0):(P.al nm l).2.F=upd P.F f ((P.F f).1++l,(P.F f).2):=by
 have hx:(A9 l).data.toList=l:=by simp[A9]
 unfold PD.al Bj at z ⊢;rw[h]at z ⊢;dsimp only at z ⊢;have H:∀D X e,(BI D P.F f (A9 l) X e).1=0->e=0/\(BI D P.F f (A9 l) X e).2.2=upd P.F f ((P.F f).1++l.take X.toNat,(P.F f).2):=λD X e I=>by
  unfold BI at I ⊢;split at I
  ·dsimp only at I;split at I
   ·cases I
   ·rename_i O Y;exact absurd I Y
  ·rename_i O;rw[Ae O,hx];exact⟨I,rfl⟩
 split at z
 ·rename_i W;rw[Ah W];have⟨_,Y⟩:=H _ _ _ z;rw[Y];have:((A9 l).size:Int).toNat=l.length:=by rw[KG];simp
  rw[this,Cj]
 ·rename_i W;split at z
  ·have⟨O,_⟩:=H _ _ _ z;exact absurd (GS O) W
  ·exact absurd (GS z) W
def My(P:PD)(J:Jn):Extra P (Af (J.A8+1)) (J.au P).2.2/\(∃j,(J.au P).2.2.F P.D.AS=((AT (AB (Af (J.A8+1))) (AR J.puts)).take j,0))/\
 ((J.au P).1=0->lookup (J.au P).2.2.D.A6 (A9 (Af (J.A8+1)))=some P.D.AS/\(J.au P).2.2.F P.D.AS=(AT (AB (Af (J.A8+1))) (AR J.puts),0)):=by
 obtain⟨nm,X⟩:∃nm,Af (J.A8+1)=nm:=⟨_,rfl⟩;have⟨e1,e2⟩:=KT P nm;have O:(P.af (A9 nm)).2.F P.D.AS=([],0):=by
  unfold PD.af;simp[upd]
 unfold Jn.au;rw[X];dsimp only
 by_cases W:(P.af (A9 nm)).1=0
 ·rw[Ae (nn W)];have H:=e2 W;have ea:((P.af (A9 nm)).2.I (A9 nm) (AB nm) (AR J.puts)).2.2=((P.af (A9 nm)).2.al (A9 nm) (AT (AB nm) (AR J.puts))).2:=rfl;have Y:((P.af (A9 nm)).2.I (A9 nm) (AB nm) (AR J.puts)).2.1=((P.af (A9 nm)).2.al (A9 nm) (AT (AB nm) (AR J.puts))).1:=rfl;have e3:=e1.al H (AT (AB nm) (AR J.puts));have⟨a1,a2,a3,z⟩:=Iq (AT (AB nm) (AR J.puts)) H;have hj:∃j,((P.af (A9 nm)).2.al (A9 nm) (AT (AB nm) (AR J.puts))).2.F P.D.AS=((AT (AB nm) (AR J.puts)).take j,0):=by
   rcases z with z|⟨j,z⟩
   ·exact⟨0,by rw[z,O];simp⟩
   ·exact⟨j,by rw[z];simp[upd,O]⟩
  by_cases I:((P.af (A9 nm)).2.I (A9 nm) (AB nm) (AR J.puts)).2.1=0
  ·rw[Ae (nn I),ea];refine⟨e3,hj,λ_=>⟨by rw[a1];exact H,?_⟩⟩;rw[Ut _ H (by rw[<-Y];exact I)];simp[upd,O]
  ·rw[Ah I,ea];exact⟨e3,hj,λh=>absurd h I⟩
 ·rw[Ah W];exact⟨e1,⟨0,by rw[O];simp⟩,λh=>absurd h W⟩
def DI.au(h:DI bd P puts Ag o){J:Jn}(hL:CW bd P.fl ix sg cl none)(hs:Ci o (Az sg++Az cl) puts)(H:Ag<=puts.length)(hn:isNum (J.A8+1)=true)(W:J.A8+1<=bd.1)(hf:ix.AW<=J.A8+1)(O:∀x∈cl,x.1<J.A8+1)(hp:J.puts=((Az cl).length:Int)):
 DI bd (J.au P).2.2 puts Ag o/\((J.au P).1=0->ER bd (J.au P).2.2 puts Ag o (J.A8+1) P.D.AS (Az cl).length):=by
 have⟨b1,⟨j,b2⟩,b3⟩:=My P J;rw[hp]at b2 b3;have I:=Km λe he=>b1.Ep _ (Ij h.CH he);have Y:=h.eZ b1 λh0=>by
  refine((hL.cV hs H hn W hf O j (V':=vw (J.au P).2.2.F (P.D.A6++[(A9 (Af (J.A8+1)),P.D.AS)])) λm=>?_).1).ck;rw[Kl h0,b2,I];rfl
 refine⟨Y,λX=>?_⟩;have⟨c1,c2⟩:=b3 X;refine⟨c1,λs z=>?_⟩;rcases b1.Hl with⟨d1,d2⟩|⟨d0,d1,d2⟩
 ·
  rw[d1]at c1;exact absurd (Ea c1) (λhm=>Ij h.CH hm rfl)
 ·have es:Br (J.au P).2.2=Br P++[P.D.A6++[(A9 (Af (J.A8+1)),P.D.AS)]]:=by unfold Br;rw[b1.AK,d2];rfl
  rw[es]at z;rcases AU.1 z with z | z
  ·exact .inl λe he=>Ij z he
  ·simp at z;subst z;refine .inr ⟨by rw[<-d1];exact c1,?_⟩;refine(hL.cV hs H hn W hf O 12 (V':=vw (J.au P).2.2.F (P.D.A6++[(A9 (Af (J.A8+1)),P.D.AS)])) λm=>?_).2 (Aq _);rw[Kl d0,c2,I,Ez (by rw[EN,CD];omega)];rfl
end
section
variable{bd:Int×Int}{P P':PD}{V V':View}{A:Ar}{ix:Ix}{sg cl:List (Int×List Pu)}{lo:Option (Int×List Pu)}{ol:Option (List Pu)}{puts:List Pu}{Ag:Nat}{o:Int}{nm:Bs}
def OY{c:FC}(h:P.fl nm=some c):P.bs nm=some c.1:=by unfold PD.bs;rw[h];rfl
def IY{b:Bs}(h:P.bs nm=some b):∃c,P.fl nm=some c/\c.1=b:=by
 have⟨k,hk⟩:=KY h;exact⟨(b,k),hk,rfl⟩
def Lay.br(h:Lay P A sg cl ol)(_hl:(Az cl).length<=1099511627776)(hr:∀nm c,P.fl nm=some c->0<=c.2/\c.2<=c.1.length)(X:∀nm c,(nm=AF\/(∃x∈sg,nm=Aw x.1)\/∃x∈cl,nm=Af x.1)->P.fl nm=some c->Cr c)(Y:Hv bd A.ix sg)(aA:∀nm,P.fl nm≠none->F5 bd nm):CW bd P.fl A.ix sg cl (ol.map λl=>(A.j.A8,l)):=by
 have z:cl.map (·.1)++(Option.map (·.1) (ol.map λl=>(A.j.A8,l))).toList=A.j.Al:=by
  rw[h.bR];cases ol<;>simp[shut]
 refine⟨Y,?_,h.segs,λx H=>?_,λx H=>?_,Fw.at.2 h.Al,λn l e=>?_,by rw[z];exact h.H3,λn I O h3=>?_,aA,hr⟩
 ·rcases h.ix with⟨I,O⟩|I
  ·exact .inl ⟨GQ.1 I,O⟩
  ·have⟨c,c1,c2⟩:=IY I;exact .inr ⟨c,c1,X _ _ (.inl rfl) c1,c2⟩
 ·have⟨I,O⟩:=h.BT x H;have⟨c,c1,c2⟩:=IY O;exact⟨I,c,c1,X _ _ (.inr (.inl ⟨x,H,rfl⟩)) c1,c2⟩
 ·have W:=h.Al.DP H;have⟨b,W⟩:=P7.1 W;have⟨c,c1,_⟩:=IY W;exact⟨⟨(h.CQ x H).1.1,h.EI.1 x H⟩,(h.CQ x H).2,c,c1,X _ _ (.inr (.inr ⟨x,H,rfl⟩)) c1⟩
 ·cases ol with
  | none=>cases e
  | some l'=>
   cases e;have⟨_,_,h3,h4,h5⟩:=h.AP;have⟨c,c1,c2⟩:=IY h3;exact⟨⟨h5,h.EI.2 (by simp)⟩,h4,c,c1,.inl ⟨[],by rw[c2,h.GA];simp,by simp⟩⟩
 ·rw[z];exact h.Hh n I O λW=>h3 (GQ.1 W)
def CX.bJ(h:CX bd V ix sg cl lo puts Ag o)(h0:V nm=none)(z:nm=Bl\/∃k,(isNum k=true/\k<=bd.2)/\nm=Aw k)(c:FC)(hc:0<=c.2/\c.2<=c.1.length)(hV:∀m,V' m=if m=nm then some c else V m):CX bd V' ix sg cl lo puts Ag o:=by
 obtain⟨nb,X,Y,hs,g1,g2⟩:=h;have I:∀m,Kh ix sg m->m≠nm:=by
  rintro m (rfl|⟨x,hx,rfl⟩|⟨n,hn,_,rfl⟩) e
  ·rcases z with z|⟨k,_,z⟩
   ·exact Ih (e.trans z)
   ·exact IF k (z.symm.trans e.symm)
  ·have⟨_,d,O,_⟩:=X.BT x hx;rw[e,h0]at O;cases O
  ·rcases z with z|⟨k,_,z⟩
   ·exact IU n (e.trans z)
   ·exact EY n k (e.trans z)
 have H:∀m,m≠nm->V' m=V m:=λm W=>by rw[hV,Ae W]
 refine⟨nb,X.bQ (λm W=>?_) (λm W=>?_) (λm d O=>?_),Y,hs,λn l e=>?_,g2⟩
 ·rw[H m (I m W)];cases hv:V m with
  | none=>exact .inl ⟨rfl,rfl⟩
  | some d=>exact .inr ⟨d,d,rfl,rfl,rfl,.inl rfl⟩
 ·by_cases e:m=nm
  ·subst e;rcases z with rfl|⟨k,hk,rfl⟩
   ·exact Sl bd
   ·exact Sk hk.1 hk.2
  ·rw[H m e]at W;exact X.DZ m W
 ·by_cases e:m=nm
  ·rw[hV,Ah e]at O;cases O;exact hc
  ·rw[H m e]at O;exact X.E9 m d O
 ·have⟨d,d1,d2,d3⟩:=g1 n l e;have hq:=(X.A8 n l e).1;exact⟨d,by rw[H _ (I _ (.inr (.inr ⟨n,hq.1,hq.2,rfl⟩)))];exact d1,d2,d3⟩
def Extra.fl(h:DI bd P puts Ag o)(z:Extra P nm P'):(P'.fl=P.fl)\/(P.fl nm=none/\∀m,P'.fl m=if m=nm then some (P'.F P.D.AS) else P.fl m):=by
 have old:=Km λe H=>z.Ep _ (Ij h.CH H);rcases z.Hl with⟨d1,_⟩|⟨d0,d1,_⟩
 ·refine .inl ?_;have:P'.fl=vw P'.F P.D.A6:=by funext m;unfold PD.fl vw;rw[d1]
  rw[this,old];rfl
 ·refine .inr ⟨by unfold PD.fl;rw[d0];rfl,λm=>?_⟩;have:P'.fl m=vw P'.F (P.D.A6++[(A9 nm,P.D.AS)]) m:=by unfold PD.fl vw;rw[d1]
  rw[this,Kl d0,old];rfl
def CX.dO(h:DI bd P puts Ag o)(I:CX bd P.fl ix sg cl lo puts Ag o)(H:Extra P nm P')(z:nm=Bl\/∃k,(isNum k=true/\k<=bd.2)/\nm=Aw k):CX bd P'.fl ix sg cl lo puts Ag o:=by
 rcases Extra.fl h H with e|⟨O,e⟩
 ·rw[e];exact I
 ·exact I.bJ O z _ H.E9 e
def CX.ah:∀(fresh:List (List Pu)) (last:Int) (kept:List Int) {P:PD},DI bd P puts Ag o->CX bd P.fl ix sg cl lo puts Ag o->0<=last->last+fresh.length<=4611686018427387904->last+fresh.length<=bd.2->CX bd (PD.ah fresh last kept P).2.2.2.fl ix sg cl lo puts Ag o
 | [],last,kept,P,_,hT,_,_,_=>hT
 | l::r,last,kept,P,h,hT,h0,h1,h2=>by
  simp only[BM]at h1 h2;have H:PD.ah (l::r) last kept P=if (P.aI (last+1) l).1≠0 then ((P.aI (last+1) l).1,last+1,kept,(P.aI (last+1) l).2) else PD.ah r (last+1) (kept++[last+1]) (P.aI (last+1) l).2:=rfl
  have z:Aw (last+1)=Bl\/∃k,(isNum k=true/\k<=bd.2)/\Aw (last+1)=Aw k:=.inr ⟨last+1,⟨by unfold isNum;simp;omega,by omega⟩,rfl⟩;have O:=(JP P (Aw (last+1)) (AB (Aw (last+1))) (Cb l)).1;have W:DI bd (P.aI (last+1) l).2 puts Ag o:=h.aH z _ _;have I:CX bd (P.aI (last+1) l).2.fl ix sg cl lo puts Ag o:=hT.dO h O z;rw[H];split
  ·exact I
  ·exact CX.ah r (last+1) _ W I (by omega) (by omega) (by omega)
def R6(h:GV P){old nw:Bs}{f:Nat}(I:lookup P.D.A6 (A9 old)=some f):(P.aO (A9 old) (A9 nw)).2.F=P.F/\(P.aO (A9 old) (A9 nw)).2.D.AK=P.D.AK/\
 (((P.aO (A9 old) (A9 nw)).2.D.A6=P.D.A6/\(P.aO (A9 old) (A9 nw)).2.D.Ap=P.D.Ap/\(P.aO (A9 old) (A9 nw)).1≠0)\/
   ((P.aO (A9 old) (A9 nw)).2.D.A6=(P.D.A6.filter λe=>decide (e.1≠A9 old/\e.1≠A9 nw))++[(A9 nw,f)]/\(P.aO (A9 old) (A9 nw)).2.D.Ap=P.D.Ap++[(P.D.A6.filter λe=>decide (e.1≠A9 old/\e.1≠A9 nw))++[(A9 nw,f)]])):=by
 have z:¬B4 P.D.A6 (A9 old)<0:=λz=>by rw[Ik,I]at z;cases z
 unfold PD.aO CZ;rw[I];dsimp only
 by_cases O:A9 nw=ByteArray.empty
 ·rw[Ah O];exact⟨rfl,rfl,.inl ⟨rfl,rfl,by simp⟩⟩
 ·rw[Ae O];dsimp only
  rw[Rb _ _ _ h.Cg z];by_cases H:(bg P.D.n).1=true
  ·rw[Ah H];exact⟨rfl,rfl,.inr ⟨rfl,rfl⟩⟩
  ·rw[Ae H];exact⟨rfl,rfl,.inl ⟨rfl,rfl,λh=>H (GS h)⟩⟩
def Q1{F:Nat->FC}{s:List AI}{old nw:Bs}{f:Nat}(hd:old≠nw)(m:Bs):vw F ((s.filter λe=>decide (e.1≠A9 old/\e.1≠A9 nw))++[(A9 nw,f)]) m=if m=nw then some (F f) else if m=old then none else vw F s m:=by
 have I:lookup (s.filter λe=>decide (e.1≠A9 old/\e.1≠A9 nw)) (A9 nw)=none:=by
  rw[KI s (λx=>decide (x≠A9 old/\x≠A9 nw))];simp
 rw[Kl I];by_cases h:m=nw
 ·rw[Ah h,Ah h]
 ·rw[Ae h,Ae h];unfold vw;rw[KI s (λx=>decide (x≠A9 old/\x≠A9 nw))];have H:A9 m≠A9 nw:=λe=>h (FV.1 e);by_cases z:m=old
  ·subst z;simp
  ·have:A9 m≠A9 old:=λe=>z (FV.1 e);simp[this,H,z]
def DI.eO(h:DI bd P puts Ag o){f:Nat}(hl:lookup P.D.A6 (A9 Bl)=some f)(W:Holds bd (λm=>if m=AF then some (P.F f) else if m=Bl then none else P.fl m) puts Ag o):DI bd (P.aO (A9 Bl) (A9 AF)).2 puts Ag o:=by
 have⟨a1,a2,a3⟩:=R6 (nw:=AF) h.bq hl;have X:=Ea hl;rcases a3 with⟨d1,d2,_⟩|⟨d1,d2⟩
 ·have es:Br (P.aO (A9 Bl) (A9 AF)).2=Br P:=by unfold Br;rw[a2,d2]
  exact⟨λs z=>by rw[es]at z;rw[a1];exact h.E3 s z,by rw[es];exact h.As,by rw[es];exact h.Cg,by rw[es,d1];exact h.CH⟩
 ·obtain⟨s1,I⟩:∃s1,(P.D.A6.filter λe=>decide (e.1≠A9 Bl/\e.1≠A9 AF))++[(A9 AF,f)]=s1:=⟨_,rfl⟩;rw[I]at d1 d2;have es:Br (P.aO (A9 Bl) (A9 AF)).2=Br P++[s1]:=by unfold Br;rw[a2,d2];rfl
  have H:∀s,s∈Br (P.aO (A9 Bl) (A9 AF)).2->s∈Br P\/s=s1:=λs z=>by
   rw[es]at z;rcases AU.1 z with z|z
   ·exact .inl z
   ·exact .inr (by simpa using z)
  have hv:vw P.F s1=λm=>if m=AF then some (P.F f) else if m=Bl then none else P.fl m:=by
   funext m;rw[<-I,Q1 Ih.symm];rfl
  refine⟨λs z=>?_,λs z=>?_,λs z=>?_,by rw[es,d1];simp⟩
  ·rw[a1];rcases H s z with z|rfl
   ·exact h.E3 s z
   ·rw[hv];exact W
  ·rcases H s z with z|rfl
   ·exact h.As s z
   ·rw[<-I,Ed,GD];refine⟨(h.As _ h.CH).sublist (GG.map _),by simp,λa Y b O=>?_⟩;simp at O;subst O;obtain⟨e,he,rfl⟩:=C9.1 Y;have⟨he1,he2⟩:=GF.1 he;intro aA;have:=JA (h.As _ h.CH) he1 X aA;subst this;simp at he2
  ·rcases H s z with z|rfl
   ·exact h.Cg s z
   ·rw[<-I,Ed,GD];refine⟨(h.Cg _ h.CH).sublist (GG.map _),by simp,λa Y b O=>?_⟩;simp at O;subst O;obtain⟨e,he,rfl⟩:=C9.1 Y;have:=(GF.1 he).2;simp at this;exact this.2
def CW.fh{V:View}{first:Int}{I:List (Int×List Pu)}{c:FC}(aA:Hv bd ⟨first,I.map (·.1)⟩ I)(hc:Cr c/\c.1=AT (AB AF) (Co first (I.map (·.1))))(Y:∀x∈I,((∀p∈x.2,B8 p)/\Cs Cq x.2=true)/\∃c,V (Aw x.1)=some c/\Cr c/\c.1=AT (AB (Aw x.1)) (Cb x.2))(O:∀n,isNum n=true->first<=n->V (Af n)=none)(z:∀nm,V nm≠none->F5 bd nm)(W:∀nm c,V nm=some c->0<=c.2/\c.2<=c.1.length)(hV:∀m,V' m=if m=AF then some c else if m=Bl then none else V m):CW bd V' ⟨first,I.map (·.1)⟩ I [] none:=by
 have h:∀m,m≠AF->m≠Bl->V' m=V m:=λm h1 h2=>by rw[hV,Ae h1,Ae h2]
 refine⟨aA,.inr ⟨c,by rw[hV,Ah rfl],hc.1,hc.2⟩,rfl,λx hx=>?_,λx hx=>(by cases hx),trivial,λn l e=>(by cases e),List.Pairwise.nil,λn h1 h2 h3=>?_,λnm hn=>?_,λnm d H=>?_⟩
 ·rw[h _ (IF _) (IG _)];exact Y x hx
 ·rw[h _ (H0 _) (IU _),O n h1 h2]at h3;exact absurd rfl h3
 ·by_cases e:nm=AF
  ·subst e;exact YR bd
  ·by_cases X:nm=Bl
   ·rw[hV,Ae e,Ah X]at hn;exact absurd rfl hn
   ·rw[h nm e X]at hn;exact z nm hn
 ·by_cases e:nm=AF
  ·rw[hV,Ah e]at H;cases H;have:=hc.1;unfold Cr at this;omega
  ·by_cases X:nm=Bl
   ·rw[hV,Ae e,Ah X]at H;cases H
   ·rw[h nm e X]at H;exact W nm d H
end
end
end Go.Proofs.YtodcnkbblippnabGreatDoor
