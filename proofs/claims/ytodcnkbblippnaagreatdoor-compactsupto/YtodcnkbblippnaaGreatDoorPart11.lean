/- Part 11 of a proof: walks of the program. -/
import Derived.Test.YtodcnkbblippnaaGreatDoorPart10
namespace Go.Proofs.YtodcnkbblippnaaGreatDoor
set_option maxRecDepth 100000
set_option maxHeartbeats 32000000
set_option linter.defProp false
open Go.Proofs.Tryz
section
open Go.RowKit
def Da(bd:Int×Int)(V:View)(ix:Ix)(sg cl:gD (Int×gD Pu))(lo:Option (Int×gD Pu))(pd:gD Pu)(Ad:Nat)(o:Int):Prop:=
 ∃nb,D9 bd V ix sg cl lo/\nb<=pd.length/\C4 o (Ax sg++Ax cl) (pd.take nb)/\
  (∀n l,lo=some (n,l)->∃c,V (Ah n)=some c/\Ad<=nb+Fg c l/\l=(pd.drop nb).take l.length)/\(lo=none->Ad<=nb)
section
variable{bd:Int×Int}{P P':PD}{V V':View}{ix:Ix}{sg cl:gD (Int×gD Pu)}{lo:Option (Int×gD Pu)}{pd:gD Pu}{Ad:Nat}{o:Int}{nm:Bs}
def Da.cf(h:Da bd V ix sg cl lo pd Ad o):Holds bd V pd Ad o:=by
 obtain⟨nb,d⟩:=h;exact⟨ix,sg,cl,lo,nb,d⟩
def Da.bw(h:Da bd V ix sg cl lo pd Ad o):D9 bd V ix sg cl lo:=h.choose_spec.1
def KQ(ix:Ix)(sg:gD (Int×gD Pu))(nm:Bs):Prop:=nm=AJ\/(∃x∈sg,nm=AG x.1)\/∃n,isNum n=true/\ix.Bd<=n/\nm=Ah n
def Da.fA(h:Da bd V ix sg cl lo pd Ad o)(O:¬KQ ix sg nm)(hV:∀m,V' m=if m=nm then none else V m):Da bd V' ix sg cl lo pd Ad o:=by
 obtain⟨nb,W,Y,hs,g1,g2⟩:=h;have z:∀m,m≠nm->V' m=V m:=λm L=>by rw[hV,Af L]
 have I:∀m,V' m≠none->m≠nm:=λm L e=>L (by rw[hV,Ai e]);refine⟨nb,W.bL (λm L=>?_) (λm L=>?_) (λm d X=>?_),Y,hs,λn l e=>?_,g2⟩
 ·have E:m≠nm:=λe=>O (e ▸ L);rw[z m E];cases hv:V m with
  | none=>exact .inl ⟨rfl,rfl⟩
  | some d=>exact .inr ⟨d,d,rfl,rfl,rfl,.inl rfl⟩
 ·have E:=I m L;rw[z m E]at L;exact W.Ex m L
 ·have E:=I m (by rw[X];simp);rw[z m E]at X;exact W.Eg m d X
 ·have⟨d,d1,d2,d3⟩:=g1 n l e;have hq:=(W.Ac n l e).1;exact⟨d,by rw[z _ λe2=>O (.inr (.inr ⟨n,hq.1,hq.2,e2.symm⟩))];exact d1,d2,d3⟩
def Se(h:Hm P)(nm:gC):(P.aG nm).2.F=P.F/\(P.aG nm).2.D.AF=P.D.AF/\
 (((P.aG nm).2.D.A6=P.D.A6/\(P.aG nm).2.D.As=P.D.As/\(P.aG nm).1≠0)\/((P.aG nm).2.D.A6=(P.D.A6.filter λe=>decide (e.1≠nm))/\(P.aG nm).2.D.As=P.D.As++[P.D.A6.filter λe=>decide (e.1≠nm)])):=by
 unfold PD.aG Dx;by_cases z:B9 P.D.A6 nm<0
 ·rw[Ai z];exact⟨rfl,rfl,.inl ⟨rfl,rfl,by simp⟩⟩
 ·rw[Af z];dsimp only
  rw[UD _ _ h.Cg z];by_cases d:(bg P.D.n).1=true
  ·rw[Ai d];exact⟨rfl,rfl,.inr ⟨rfl,rfl⟩⟩
  ·rw[Af d];exact⟨rfl,rfl,.inl ⟨rfl,rfl,λh=>d (Hi h)⟩⟩
def QV(F:Nat->FC)(s:gD AO)(nm m:Bs):vw F (s.filter λe=>decide (e.1≠Ab nm)) m=if m=nm then none else vw F s m:=by
 unfold vw;rw[Ln s (λx=>decide (x≠Ab nm))];by_cases d:m=nm
 ·subst d;simp
 ·have:Ab m≠Ab nm:=λe=>d (Gj.1 e);simp[this,d]
def DI.eu(h:DI bd P pd Ad o)(O:Da bd P.fl ix sg cl lo pd Ad o)(L:¬KQ ix sg nm):DI bd (P.aG (Ab nm)).2 pd Ad o/\Da bd (P.aG (Ab nm)).2.fl ix sg cl lo pd Ad o:=by
 have⟨a1,a2,a3⟩:=Se h.bk (Ab nm);rcases a3 with⟨d1,d2,_⟩|⟨d1,d2⟩
 ·have es:BB (P.aG (Ab nm)).2=BB P:=by unfold BB;rw[a2,d2]
  have I:(P.aG (Ab nm)).2.fl=P.fl:=by unfold PD.fl;rw[d1,a1]
  exact⟨⟨λs d=>by rw[es]at d;rw[a1];exact h.DZ s d,by rw[es];exact h.Aq,by rw[es];exact h.Cg,by rw[es,d1];exact h.CH⟩,by rw[I];exact O⟩
 ·have es:BB (P.aG (Ab nm)).2=BB P++[P.D.A6.filter λe=>decide (e.1≠Ab nm)]:=by unfold BB;rw[a2,d2];rfl
  have z:∀s,s∈BB (P.aG (Ab nm)).2->s∈BB P\/s=P.D.A6.filter λe=>decide (e.1≠Ab nm):=λs d=>by
   rw[es]at d;rcases AX.1 d with d|d
   ·exact .inl d
   ·exact .inr (by simpa using d)
  have E:=O.fA L (QV P.F P.D.A6 nm);refine⟨⟨λs d=>?_,λs d=>?_,λs d=>?_,by rw[es,d1];simp⟩,?_⟩
  ·rw[a1];rcases z s d with d|rfl
   ·exact h.DZ s d
   ·exact E.cf
  ·rcases z s d with d|rfl
   ·exact h.Aq s d
   ·exact(h.Aq _ h.CH).sublist (Hq.map _)
  ·rcases z s d with d|rfl
   ·exact h.Cg s d
   ·exact(h.Cg _ h.CH).sublist (Hq.map _)
  ·have I:(P.aG (Ab nm)).2.fl=vw P.F (P.D.A6.filter λe=>decide (e.1≠Ab nm)):=by
    funext m;unfold PD.fl vw;rw[d1,a1]
   rw[I];exact E
def DI.aO:∀(l:gD Bs) {P:PD},DI bd P pd Ad o->Da bd P.fl ix sg cl lo pd Ad o->(∀m∈l,¬KQ ix sg m)->DI bd (PD.aO l P).2 pd Ad o/\Da bd (PD.aO l P).2.fl ix sg cl lo pd Ad o
 | [],P,h,hT,_=>⟨h,hT⟩
 | x::r,P,h,hT,hm=>by
  have⟨h1,h2⟩:=h.eu hT (hm x (BI ..));unfold PD.aO;split
  ·exact⟨h1,h2⟩
  ·exact DI.aO r h1 h2 λm d=>hm m (BC _ d)
def DI.az{A:Ar}(h:DI bd P pd Ad o)(z:Da bd P.fl A.ix sg cl lo pd Ad o)(L:A.j.An=cl.map (·.1)++(lo.map (·.1)).toList)(d:sg.map (·.1)=A.ix.sd):DI bd (A.az P).2 pd Ad o/\Da bd (A.az P).2.fl A.ix sg cl lo pd Ad o:=by
 refine DI.aO _ h z λm E W=>?_;have⟨h1,h2⟩:=Jo.1 E;refine h2 ?_;unfold Ar.Az;rcases W with rfl|⟨x,X,rfl⟩|⟨n,Y,I,rfl⟩
 ·simp
 ·refine HJ _ (Ed ?_);rw[<-d];exact Ed X
 ·refine G1 _ (BC _ (Ed ?_));rw[L];refine z.bw.Cy n Y I λO=>h1 ?_;unfold PD.bs;rw[O];rfl
def EE(bd:Int×Int)(P:PD)(pd:gD Pu)(Ad:Nat)(o:Int)(n:Int)(f d:Nat):Prop:=
 lookup P.D.A6 (Ab (Ah n))=some f/\∀s∈BB P,(∀e∈s,e.2≠f)\/(lookup s (Ab (Ah n))=some f/\Fl bd (vw P.F s) pd Ad o n d)
def QT{F:Nat->FC}{s:gD AO}{f:Nat}{c:FC}(z:(s.map (·.2)).Nodup)(h:lookup s (Ab nm)=some f)(m:Bs):vw (upd F f c) s m=if m=nm then some c else vw F s m:=by
 unfold vw;by_cases d:m=nm
 ·subst d;rw[h];simp[upd]
 ·rw[Af d];cases hk:lookup s (Ab m) with
  | none=>rfl
  | some g=>
   have:g≠f:=λe=>d (by
    have:=Kj z (Eh hk) (Eh h) e
    exact Gj.1 (Qa this).1)
   simp[upd,this]
def EE.av{n:Int}{f z:Nat}{l0:gD Pu}{c0:FC}(h:DI bd P pd Ad o)(hO:EE bd P pd Ad o n f z)(aE:P.F f=c0)(W:c0.1=Ej (Ah n) z l0)(p:Pu)(hp:Bm p)(j:Nat)(hd:P'.D.A6=P.D.A6)(d:P'.D.AF=P.D.AF)(aF:P'.D.As=P.D.As)(hF:P'.F=upd P.F f (c0.1++(AT (FE (Ah n) z l0) (Bg p.1 p.2.1 p.2.2)).take j,c0.2)):
 DI bd P' (pd++[p]) Ad o/\(21<=j->EE bd P' (pd++[p]) Ad o n f z)/\(j<21->DI bd P' pd Ad o):=by
 have es:BB P'=BB P:=by unfold BB;rw[d,aF]
 have inj:∀ {l l':gD Pu},Ej (Ah n) z l=Ej (Ah n) z l'->(∀p∈l,Bm p)->(∀p∈l',Bm p)->l=l':=λ{l l'} e Y X=>by
  have aA:l.length=l'.length:=by have:=Ep List.length e;rw[Jy,Jy]at this;omega
  have hx:Ei (AY (AI (Ah n)) (AQ z)) l=Ei (AY (AI (Ah n)) (AQ z)) l':=by unfold Ej at e;exact Wc e
  have r1:=MB l (AY (AI (Ah n)) (AQ z)) (l.length+1) [] Y (by omega) (by simp);have r2:=MB l' (AY (AI (Ah n)) (AQ z)) (l.length+1) [] X (by omega) (by simp);rw[hx]at r1;rw[r1]at r2;simpa using r2
 have each:∀s∈BB P,((∀e∈s,e.2≠f)/\vw P'.F s=vw P.F s)\/(lookup s (Ab (Ah n))=some f/\(21<=j->Fl bd (vw P'.F s) (pd++[p]) Ad o n z)/\(j<21->Holds bd (vw P'.F s) pd Ad o)):=λs d=>by
  rcases hO.2 s d with E|⟨O,aB⟩
  ·exact .inl ⟨E,KZ λe he=>by rw[hF];simp[upd,E e he]⟩
  ·refine .inr ⟨O,?_⟩;(have L:vw P.F s (Ah n)=some c0:=by unfold vw;rw[O];simp[aE]);refine aB.av p hp j (s:=FE (Ah n) z l0) (λl c hc aD=>?_) (λm hm=>?_) (λc hc=>?_)
   ·rw[L]at hc;cases hc;obtain⟨ix,sg,cl,l1,nb,c1,hL,_,_,g1,g2,g3,_,_⟩:=aB;rw[L]at g1;cases g1;have aA:l.length=l0.length:=by
     have:=Ep List.length (aD.symm.trans W);rw[Jy,Jy]at this;omega
    have key:∀(a b:gD Pu) (s:Nat),Ei s a=Ei s b->HU s a=HU s b:=by
     intro a
     induction a with
     | nil=>
      intro b s e;cases b with
      | nil=>rfl
      | cons y r=>
       have:=Ep List.length e;rw[Jx,Jx]at this;simp at this
     | cons x a ih=>
      intro b s e;cases b with
      | nil=>
       have:=Ep List.length e;rw[Jx,Jx]at this;simp at this
      | cons y r=>
       simp only[Ei]at e;have I:=
        List.append_inj e (by rw[EJ,EJ,FB,FB])
       have hb:=(List.append_inj I.1 (by rw[FB,FB])).1;simp only[HU];rw[hb]at I ⊢;exact ih r _ I.2
    have e1:=aD.symm.trans W;unfold Ej at e1;unfold FE;exact(key l l0 _ (Wc e1)).symm
   ·rw[hF,QT (h.Aq s d) O,Af hm]
   ·rw[L]at hc;cases hc;rw[hF,QT (h.Aq s d) O,Ai rfl]
 refine⟨⟨λs d=>?_,by rw[es];exact h.Aq,by rw[es];exact h.Cg,by rw[es,hd];exact h.CH⟩,λhj=>⟨by rw[hd];exact hO.1,λs d=>?_⟩,λhj=>⟨λs d=>?_,by rw[es];exact h.Aq,by rw[es];exact h.Cg,by rw[es,hd];exact h.CH⟩⟩
 ·rw[es]at d;rcases each s d with⟨_,L⟩|⟨_,Y,X⟩
  ·rw[L];exact(h.DZ s d).cd [p]
  ·by_cases hj:21<=j
   ·exact(Y hj).cf
   ·exact(X (by omega)).cd [p]
 ·rw[es]at d;rcases each s d with⟨E,_⟩|⟨O,Y,_⟩
  ·exact .inl E
  ·exact .inr ⟨O,Y hj⟩
 ·rw[es]at d;rcases each s d with⟨_,L⟩|⟨_,_,X⟩
  ·rw[L];exact h.DZ s d
  ·exact X hj
end
section
variable{bd:Int×Int}{P P':PD}{V V':View}{ix:Ix}{sg cl:gD (Int×gD Pu)}{lo:Option (Int×gD Pu)}{pd:gD Pu}{Ad:Nat}{o:Int}{nm:Bs}
def DI.fu(h:DI bd P pd Ad o)(O:Extra P nm P')(L:lookup P.D.A6 (Ab nm)=none->Holds bd (vw P'.F (P.D.A6++[(Ab nm,P.D.AV)])) pd Ad o):DI bd P' pd Ad o:=by
 have oe:∀s∈BB P,vw P'.F s=vw P.F s:=λs d=>KZ λe E=>O.EC _ (IV d E);rcases O.da with⟨d1,d2⟩|⟨d0,d1,d2⟩
 ·have es:BB P'=BB P:=by unfold BB;rw[O.AF,d2]
  exact⟨λs d=>by rw[es]at d;rw[oe s d];exact h.DZ s d,by rw[es];exact h.Aq,by rw[es];exact h.Cg,by rw[es,d1];exact h.CH⟩
 ·have es:BB P'=BB P++[P.D.A6++[(Ab nm,P.D.AV)]]:=by unfold BB;rw[O.AF,d2];rfl
  have z:∀s,s∈BB P'->s∈BB P\/s=P.D.A6++[(Ab nm,P.D.AV)]:=λs d=>by
   rw[es]at d;rcases AX.1 d with d|d
   ·exact .inl d
   ·exact .inr (by simpa using d)
  refine⟨λs d=>?_,λs d=>?_,λs d=>?_,by rw[es,d1];simp⟩
  ·rcases z s d with d|rfl
   ·rw[oe s d];exact h.DZ s d
   ·exact L d0
  ·rcases z s d with d|rfl
   ·exact h.Aq s d
   ·rw[EG,Hb];refine⟨h.Aq _ h.CH,by simp,λa W b I=>?_⟩;simp at I;subst I;obtain⟨e,E,rfl⟩:=Cl.1 W;exact IV h.CH E
  ·rcases z s d with d|rfl
   ·exact h.Cg s d
   ·rw[EG,Hb];refine⟨h.Cg _ h.CH,by simp,λa W b I=>?_⟩;simp at I;subst I;obtain⟨e,E,rfl⟩:=Cl.1 W;exact(IN.1 d0) e E
def D9.dy(E:D9 bd V ix sg cl none)(hs:C4 o (Ax sg++Ax cl) pd)(hsafe:Ad<=pd.length){n:Int}(hn:isNum n=true)(aA:n<=bd.1)(hf:ix.Bd<=n)(O:∀x∈cl,x.1<n)(j:Nat)(hV:∀m,V' m=if m=Ah n then some ((AT (AI (Ah n)) (AQ ((Ax cl).length:Int))).take j,0) else V m):
 Da bd V' ix sg cl (some (n,[])) pd Ad o/\(12<=j->Fl bd V' pd Ad o n (Ax cl).length):=by
 have hpl:(AT (AI (Ah n)) (AQ ((Ax cl).length:Int))).length=12:=by rw[EJ,CP]
 have h:∀m,m≠Ah n->V' m=V m:=λm hm=>by rw[hV,Af hm]
 have z:V' (Ah n)=some ((AT (AI (Ah n)) (AQ ((Ax cl).length:Int))).take j,0):=by rw[hV,Ai rfl]
 have W:∀x∈cl,Ah x.1≠Ah n:=λx I e=>by
  have:=Gi (E.CX x I).1.1 hn e;have:=O x I;omega
 have L:12<=j->(AT (AI (Ah n)) (AQ ((Ax cl).length:Int))).take j=Ej (Ah n) ((Ax cl).length:Int) []:=λhj=>by
  rw[El (by omega)];simp[Ej,Ei]
 have X:Ir ((AT (AI (Ah n)) (AQ ((Ax cl).length:Int))).take j) (Ah n) (Ax cl).length []:=by
  by_cases hj:12<=j
  ·exact .inl ⟨[],by rw[L hj];simp,by simp⟩
  ·exact .inr ⟨rfl,by rw[BK];omega⟩
 have Y:D9 bd V' ix sg cl (some (n,[])):=by
  refine⟨E.DX,by rw[h _ (HT n).symm];exact E.IU,E.sd,λx I=>by rw[h _ (Gm n x.1).symm];exact E.CD x I,λx I=>by rw[h _ (W x I)];exact E.CX x I,
   E.An.bz λx I=>by rw[h _ (W x I)],λn' l e=>by cases e;exact⟨⟨hn,hf⟩,λp hp=>(by cases hp),_,z,X⟩,?_,λk h1 h2 h3=>?_,λm hm=>?_,λm d hd=>?_⟩
  ·have:=E.Fc;simp only[Option.map_none,Option.toList_none,Gt]at this;refine EF.2 ⟨this,by simp,λa ha b hb=>?_⟩;simp at hb;subst hb;obtain⟨x,I,rfl⟩:=Cl.1 ha;exact O x I
  ·by_cases e:Ah k=Ah n
   ·have:=Gi h1 hn e;subst this;simp
   ·rw[h _ e]at h3;have:=E.Cy k h1 h2 h3;simp at this;simp[this]
  ·by_cases e:m=Ah n
   ·subst e;exact A0e hn aA
   ·rw[h _ e]at hm;exact E.Ex m hm
  ·by_cases e:m=Ah n
   ·subst e;rw[z]at hd;cases hd;dsimp only;omega
   ·rw[h _ e]at hd;exact E.Eg m d hd
 refine⟨⟨pd.length,Y,Ao _,by rw[C5];exact hs,λn' l e=>by cases e;exact⟨_,z,by omega,by simp⟩,λe=>by cases e⟩,λhj=>?_⟩;exact⟨ix,sg,cl,[],pd.length,_,Y,Ao _,by rw[C5];exact hs,z,L hj,rfl,by omega,by simp⟩
def Vm{nm:gC}{f:Nat}(l:Bs)(h:lookup P.D.A6 nm=some f)(d:(P.av nm l).1=0):(P.av nm l).2.F=upd P.F f ((P.F f).1++l,(P.F f).2):=by
 have W:(Ab l).data.toList=l:=by simp[Ab]
 unfold PD.av BA at d ⊢;rw[h]at d ⊢;dsimp only at d ⊢;have z:∀D n0 e,(BP D P.F f (Ab l) n0 e).1=0->e=0/\(BP D P.F f (Ab l) n0 e).2.2=upd P.F f ((P.F f).1++l.take n0.toNat,(P.F f).2):=λD n0 e E=>by
  unfold BP at E ⊢;split at E
  ·dsimp only at E;split at E
   ·cases E
   ·rename_i I O;exact absurd E O
  ·rename_i I;rw[Af I,W];exact⟨E,rfl⟩
 split at d
 ·rename_i L;rw[Ai L];have⟨_,O⟩:=z _ _ _ d;rw[O];have:((Ab l).size:Int).toNat=l.length:=by rw[Li];simp
  rw[this,C5]
 ·rename_i L;split at d
  ·have⟨I,_⟩:=z _ _ _ d;exact absurd (Hi I) L
  ·exact absurd (Hi d) L
def Ng(P:PD)(J:Jn):Extra P (Ah (J.Ac+1)) (J.ax P).2.2/\(∃j,(J.ax P).2.2.F P.D.AV=((AT (AI (Ah (J.Ac+1))) (AQ J.pd)).take j,0))/\
 ((J.ax P).1=0->lookup (J.ax P).2.2.D.A6 (Ab (Ah (J.Ac+1)))=some P.D.AV/\(J.ax P).2.2.F P.D.AV=(AT (AI (Ah (J.Ac+1))) (AQ J.pd),0)):=by
 obtain⟨nm,O⟩:∃nm,Ah (J.Ac+1)=nm:=⟨_,rfl⟩;have⟨e1,e2⟩:=Lz P nm;have I:(P.au (Ab nm)).2.F P.D.AV=([],0):=by
  unfold PD.au;simp[upd]
 unfold Jn.ax;rw[O];dsimp only
 by_cases L:(P.au (Ab nm)).1=0
 ·rw[Af (nn L)];have z:=e2 L;have ea:((P.au (Ab nm)).2.af (Ab nm) (AI nm) (AQ J.pd)).2.2=((P.au (Ab nm)).2.av (Ab nm) (AT (AI nm) (AQ J.pd))).2:=rfl;have W:((P.au (Ab nm)).2.af (Ab nm) (AI nm) (AQ J.pd)).2.1=((P.au (Ab nm)).2.av (Ab nm) (AT (AI nm) (AQ J.pd))).1:=rfl;have X:=e1.av z (AT (AI nm) (AQ J.pd));have⟨a1,a2,a3,d⟩:=J2 (AT (AI nm) (AQ J.pd)) z;have Y:∃j,((P.au (Ab nm)).2.av (Ab nm) (AT (AI nm) (AQ J.pd))).2.F P.D.AV=((AT (AI nm) (AQ J.pd)).take j,0):=by
   rcases d with d|⟨j,d⟩
   ·exact⟨0,by rw[d,I];simp⟩
   ·exact⟨j,by rw[d];simp[upd,I]⟩
  by_cases E:((P.au (Ab nm)).2.af (Ab nm) (AI nm) (AQ J.pd)).2.1=0
  ·rw[Af (nn E),ea];refine⟨X,Y,λ_=>⟨by rw[a1];exact z,?_⟩⟩;rw[Vm _ z (by rw[<-W];exact E)];simp[upd,I]
  ·rw[Ai E,ea];exact⟨X,Y,λh=>absurd h E⟩
 ·rw[Ai L];exact⟨e1,⟨0,by rw[I];simp⟩,λh=>absurd h L⟩
def DI.ax(h:DI bd P pd Ad o){J:Jn}(Y:D9 bd P.fl ix sg cl none)(hs:C4 o (Ax sg++Ax cl) pd)(z:Ad<=pd.length)(hn:isNum (J.Ac+1)=true)(L:J.Ac+1<=bd.1)(hf:ix.Bd<=J.Ac+1)(I:∀x∈cl,x.1<J.Ac+1)(hp:J.pd=((Ax cl).length:Int)):
 DI bd (J.ax P).2.2 pd Ad o/\((J.ax P).1=0->EE bd (J.ax P).2.2 pd Ad o (J.Ac+1) P.D.AV (Ax cl).length):=by
 have⟨b1,⟨j,b2⟩,b3⟩:=Ng P J;rw[hp]at b2 b3;have E:=KZ λe X=>b1.EC _ (IV h.CH X);have W:=h.fu b1 λh0=>by
  refine((Y.dy hs z hn L hf I j (V':=vw (J.ax P).2.2.F (P.D.A6++[(Ab (Ah (J.Ac+1)),P.D.AV)])) λm=>?_).1).cf;rw[KY h0,b2,E];rfl
 refine⟨W,λO=>?_⟩;have⟨c1,c2⟩:=b3 O;refine⟨c1,λs d=>?_⟩;rcases b1.da with⟨d1,d2⟩|⟨d0,d1,d2⟩
 ·
  rw[d1]at c1;exact absurd (Eh c1) (λhm=>IV h.CH hm rfl)
 ·have es:BB (J.ax P).2.2=BB P++[P.D.A6++[(Ab (Ah (J.Ac+1)),P.D.AV)]]:=by unfold BB;rw[b1.AF,d2];rfl
  rw[es]at d;rcases AX.1 d with d | d
  ·exact .inl λe X=>IV d X
  ·simp at d;subst d;refine .inr ⟨by rw[<-d1];exact c1,?_⟩;refine(Y.dy hs z hn L hf I 12 (V':=vw (J.ax P).2.2.F (P.D.A6++[(Ab (Ah (J.Ac+1)),P.D.AV)])) λm=>?_).2 (Ao _);rw[KY d0,c2,E,El (by rw[EJ,CP];omega)];rfl
end
section
variable{bd:Int×Int}{P P':PD}{V V':View}{A:Ar}{ix:Ix}{sg cl:gD (Int×gD Pu)}{lo:Option (Int×gD Pu)}{ol:Option (gD Pu)}{pd:gD Pu}{Ad:Nat}{o:Int}{nm:Bs}
def Q4{c:FC}(h:P.fl nm=some c):P.bs nm=some c.1:=by unfold PD.bs;rw[h];rfl
def IW{b:Bs}(h:P.bs nm=some b):∃c,P.fl nm=some c/\c.1=b:=by
 have⟨k,hk⟩:=LF h;exact⟨(b,k),hk,rfl⟩
def Lay.bw(h:Lay P A sg cl ol)(_hl:(Ax cl).length<=1099511627776)(hr:∀nm c,P.fl nm=some c->0<=c.2/\c.2<=c.1.length)(O:∀nm c,(nm=AJ\/(∃x∈sg,nm=AG x.1)\/∃x∈cl,nm=Ah x.1)->P.fl nm=some c->Cb c)(W:I9 bd A.ix sg)(X:∀nm,P.fl nm≠none->FI bd nm):D9 bd P.fl A.ix sg cl (ol.map λl=>(A.j.Ac,l)):=by
 have d:cl.map (·.1)++(Option.map (·.1) (ol.map λl=>(A.j.Ac,l))).toList=A.j.An:=by
  rw[h.bY];cases ol<;>simp[shut]
 refine⟨W,?_,h.sd,λx z=>?_,λx z=>?_,G0.at.2 h.An,λn l e=>?_,by rw[d];exact h.Hz,λn E I Y=>?_,X,hr⟩
 ·rcases h.ix with⟨E,I⟩|E
  ·exact .inl ⟨J0.1 E,I⟩
  ·have⟨c,c1,c2⟩:=IW E;exact .inr ⟨c,c1,O _ _ (.inl rfl) c1,c2⟩
 ·have⟨E,I⟩:=h.CD x z;have⟨c,c1,c2⟩:=IW I;exact⟨E,c,c1,O _ _ (.inr (.inl ⟨x,z,rfl⟩)) c1,c2⟩
 ·have L:=h.An.DD z;have⟨b,L⟩:=Qc.1 L;have⟨c,c1,_⟩:=IW L;exact⟨⟨(h.CX x z).1.1,h.F6.1 x z⟩,(h.CX x z).2,c,c1,O _ _ (.inr (.inr ⟨x,z,rfl⟩)) c1⟩
 ·cases ol with
  | none=>cases e
  | some l'=>
   cases e;have⟨_,_,Y,h4,h5⟩:=h.AB;have⟨c,c1,c2⟩:=IW Y;exact⟨⟨h5,h.F6.2 (by simp)⟩,h4,c,c1,.inl ⟨[],by rw[c2,h.GM];simp,by simp⟩⟩
 ·rw[d];exact h.HS n E I λL=>Y (J0.1 L)
def Da.bS(h:Da bd V ix sg cl lo pd Ad o)(h0:V nm=none)(z:nm=Bw\/∃k,(isNum k=true/\k<=bd.2)/\nm=AG k)(c:FC)(hc:0<=c.2/\c.2<=c.1.length)(hV:∀m,V' m=if m=nm then some c else V m):Da bd V' ix sg cl lo pd Ad o:=by
 obtain⟨nb,W,X,hs,g1,g2⟩:=h;have I:∀m,KQ ix sg m->m≠nm:=by
  rintro m (rfl|⟨x,hx,rfl⟩|⟨n,hn,_,rfl⟩) e
  ·rcases z with z|⟨k,_,z⟩
   ·exact JA (e.trans z)
   ·exact K7 k (z.symm.trans e.symm)
  ·have⟨_,d,L,_⟩:=W.CD x hx;rw[e,h0]at L;cases L
  ·rcases z with z|⟨k,_,z⟩
   ·exact Lo n (e.trans z)
   ·exact Gm n k (e.trans z)
 have E:∀m,m≠nm->V' m=V m:=λm O=>by rw[hV,Af O]
 refine⟨nb,W.bL (λm O=>?_) (λm O=>?_) (λm d L=>?_),X,hs,λn l e=>?_,g2⟩
 ·rw[E m (I m O)];cases hv:V m with
  | none=>exact .inl ⟨rfl,rfl⟩
  | some d=>exact .inr ⟨d,d,rfl,rfl,rfl,.inl rfl⟩
 ·by_cases e:m=nm
  ·subst e;rcases z with rfl|⟨k,Y,rfl⟩
   ·exact Ti bd
   ·exact Th Y.1 Y.2
  ·rw[E m e]at O;exact W.Ex m O
 ·by_cases e:m=nm
  ·rw[hV,Ai e]at L;cases L;exact hc
  ·rw[E m e]at L;exact W.Eg m d L
 ·have⟨d,d1,d2,d3⟩:=g1 n l e;have hq:=(W.Ac n l e).1;exact⟨d,by rw[E _ (I _ (.inr (.inr ⟨n,hq.1,hq.2,rfl⟩)))];exact d1,d2,d3⟩
def Extra.fl(h:DI bd P pd Ad o)(d:Extra P nm P'):(P'.fl=P.fl)\/(P.fl nm=none/\∀m,P'.fl m=if m=nm then some (P'.F P.D.AV) else P.fl m):=by
 have oe:=KZ λe z=>d.EC _ (IV h.CH z);rcases d.da with⟨d1,_⟩|⟨d0,d1,_⟩
 ·refine .inl ?_;have:P'.fl=vw P'.F P.D.A6:=by funext m;unfold PD.fl vw;rw[d1]
  rw[this,oe];rfl
 ·refine .inr ⟨by unfold PD.fl;rw[d0];rfl,λm=>?_⟩;have:P'.fl m=vw P'.F (P.D.A6++[(Ab nm,P.D.AV)]) m:=by unfold PD.fl vw;rw[d1]
  rw[this,KY d0,oe];rfl
def Da.et(h:DI bd P pd Ad o)(E:Da bd P.fl ix sg cl lo pd Ad o)(z:Extra P nm P')(d:nm=Bw\/∃k,(isNum k=true/\k<=bd.2)/\nm=AG k):Da bd P'.fl ix sg cl lo pd Ad o:=by
 rcases Extra.fl h z with e|⟨I,e⟩
 ·rw[e];exact E
 ·exact E.bS I d _ z.Eg e
def Da.aq:∀(L:gD (gD Pu)) (d:Int) (I:gD Int) {P:PD},DI bd P pd Ad o->Da bd P.fl ix sg cl lo pd Ad o->0<=d->d+L.length<=4611686018427387904->d+L.length<=bd.2->Da bd (PD.aq L d I P).2.2.2.fl ix sg cl lo pd Ad o
 | [],d,I,P,_,hT,_,_,_=>hT
 | l::r,d,I,P,h,hT,h0,h1,h2=>by
  simp only[CA]at h1 h2;have E:PD.aq (l::r) d I P=if (P.aK (d+1) l).1≠0 then ((P.aK (d+1) l).1,d+1,I,(P.aK (d+1) l).2) else PD.aq r (d+1) (I++[d+1]) (P.aK (d+1) l).2:=rfl
  have z:AG (d+1)=Bw\/∃k,(isNum k=true/\k<=bd.2)/\AG (d+1)=AG k:=.inr ⟨d+1,⟨by unfold isNum;simp;omega,by omega⟩,rfl⟩;have W:=(Ks P (AG (d+1)) (AI (AG (d+1))) (Cp l)).1;have X:DI bd (P.aK (d+1) l).2 pd Ad o:=h.aI z _ _;have O:Da bd (P.aK (d+1) l).2.fl ix sg cl lo pd Ad o:=hT.et h W z;rw[E];split
  ·exact O
  ·exact Da.aq r (d+1) _ X O (by omega) (by omega) (by omega)
def S8(h:Hm P){oe nw:Bs}{f:Nat}(E:lookup P.D.A6 (Ab oe)=some f):(P.aR (Ab oe) (Ab nw)).2.F=P.F/\(P.aR (Ab oe) (Ab nw)).2.D.AF=P.D.AF/\
 (((P.aR (Ab oe) (Ab nw)).2.D.A6=P.D.A6/\(P.aR (Ab oe) (Ab nw)).2.D.As=P.D.As/\(P.aR (Ab oe) (Ab nw)).1≠0)\/
   ((P.aR (Ab oe) (Ab nw)).2.D.A6=(P.D.A6.filter λe=>decide (e.1≠Ab oe/\e.1≠Ab nw))++[(Ab nw,f)]/\(P.aR (Ab oe) (Ab nw)).2.D.As=P.D.As++[(P.D.A6.filter λe=>decide (e.1≠Ab oe/\e.1≠Ab nw))++[(Ab nw,f)]])):=by
 have d:¬B9 P.D.A6 (Ab oe)<0:=λd=>by rw[JF,E]at d;cases d
 unfold PD.aR D8;rw[E];dsimp only
 by_cases I:Ab nw=ByteArray.empty
 ·rw[Ai I];exact⟨rfl,rfl,.inl ⟨rfl,rfl,by simp⟩⟩
 ·rw[Af I];dsimp only
  rw[Sd _ _ _ h.Cg d];by_cases z:(bg P.D.n).1=true
  ·rw[Ai z];exact⟨rfl,rfl,.inr ⟨rfl,rfl⟩⟩
  ·rw[Af z];exact⟨rfl,rfl,.inl ⟨rfl,rfl,λh=>z (Hi h)⟩⟩
def QU{F:Nat->FC}{s:gD AO}{oe nw:Bs}{f:Nat}(hd:oe≠nw)(m:Bs):vw F ((s.filter λe=>decide (e.1≠Ab oe/\e.1≠Ab nw))++[(Ab nw,f)]) m=if m=nw then some (F f) else if m=oe then none else vw F s m:=by
 have E:lookup (s.filter λe=>decide (e.1≠Ab oe/\e.1≠Ab nw)) (Ab nw)=none:=by
  rw[Ln s (λx=>decide (x≠Ab oe/\x≠Ab nw))];simp
 rw[KY E];by_cases d:m=nw
 ·rw[Ai d,Ai d]
 ·rw[Af d,Af d];unfold vw;rw[Ln s (λx=>decide (x≠Ab oe/\x≠Ab nw))];have z:Ab m≠Ab nw:=λe=>d (Gj.1 e);by_cases h:m=oe
  ·subst h;simp
  ·have:Ab m≠Ab oe:=λe=>h (Gj.1 e);simp[this,z,h]
def DI.ff(h:DI bd P pd Ad o){f:Nat}(hl:lookup P.D.A6 (Ab Bw)=some f)(L:Holds bd (λm=>if m=AJ then some (P.F f) else if m=Bw then none else P.fl m) pd Ad o):DI bd (P.aR (Ab Bw) (Ab AJ)).2 pd Ad o:=by
 have⟨a1,a2,a3⟩:=S8 (nw:=AJ) h.bk hl;have O:=Eh hl;rcases a3 with⟨d1,d2,_⟩|⟨d1,d2⟩
 ·have es:BB (P.aR (Ab Bw) (Ab AJ)).2=BB P:=by unfold BB;rw[a2,d2]
  exact⟨λs d=>by rw[es]at d;rw[a1];exact h.DZ s d,by rw[es];exact h.Aq,by rw[es];exact h.Cg,by rw[es,d1];exact h.CH⟩
 ·obtain⟨s1,E⟩:∃s1,(P.D.A6.filter λe=>decide (e.1≠Ab Bw/\e.1≠Ab AJ))++[(Ab AJ,f)]=s1:=⟨_,rfl⟩;rw[E]at d1 d2;have es:BB (P.aR (Ab Bw) (Ab AJ)).2=BB P++[s1]:=by unfold BB;rw[a2,d2];rfl
  have z:∀s,s∈BB (P.aR (Ab Bw) (Ab AJ)).2->s∈BB P\/s=s1:=λs d=>by
   rw[es]at d;rcases AX.1 d with d|d
   ·exact .inl d
   ·exact .inr (by simpa using d)
  have hv:vw P.F s1=λm=>if m=AJ then some (P.F f) else if m=Bw then none else P.fl m:=by
   funext m;rw[<-E,QU JA.symm];rfl
  refine⟨λs d=>?_,λs d=>?_,λs d=>?_,by rw[es,d1];simp⟩
  ·rw[a1];rcases z s d with d|rfl
   ·exact h.DZ s d
   ·rw[hv];exact L
  ·rcases z s d with d|rfl
   ·exact h.Aq s d
   ·rw[<-E,EG,Hb];refine⟨(h.Aq _ h.CH).sublist (Hq.map _),by simp,λa W b I=>?_⟩;simp at I;subst I;obtain⟨e,X,rfl⟩:=Cl.1 W;have⟨he1,he2⟩:=GV.1 X;intro Y;have:=Kj (h.Aq _ h.CH) he1 O Y;subst this;simp at he2
  ·rcases z s d with d|rfl
   ·exact h.Cg s d
   ·rw[<-E,EG,Hb];refine⟨(h.Cg _ h.CH).sublist (Hq.map _),by simp,λa W b I=>?_⟩;simp at I;subst I;obtain⟨e,X,rfl⟩:=Cl.1 W;have:=(GV.1 X).2;simp at this;exact this.2
def D9.fL{V:View}{h:Int}{L:gD (Int×gD Pu)}{c:FC}(aA:I9 bd ⟨h,L.map (·.1)⟩ L)(hc:Cb c/\c.1=AT (AI AJ) (Cn h (L.map (·.1))))(Y:∀x∈L,((∀p∈x.2,Bm p)/\CG Cw x.2=true)/\∃c,V (AG x.1)=some c/\Cb c/\c.1=AT (AI (AG x.1)) (Cp x.2))(O:∀n,isNum n=true->h<=n->V (Ah n)=none)(E:∀nm,V nm≠none->FI bd nm)(W:∀nm c,V nm=some c->0<=c.2/\c.2<=c.1.length)(hV:∀m,V' m=if m=AJ then some c else if m=Bw then none else V m):D9 bd V' ⟨h,L.map (·.1)⟩ L [] none:=by
 have z:∀m,m≠AJ->m≠Bw->V' m=V m:=λm h1 h2=>by rw[hV,Af h1,Af h2]
 refine⟨aA,.inr ⟨c,by rw[hV,Ai rfl],hc.1,hc.2⟩,rfl,λx hx=>?_,λx hx=>(by cases hx),trivial,λn l e=>(by cases e),List.Pairwise.nil,λn h1 h2 h3=>?_,λnm hn=>?_,λnm d I=>?_⟩
 ·rw[z _ (K7 _) (Mr _)];exact Y x hx
 ·rw[z _ (HT _) (Lo _),O n h1 h2]at h3;exact absurd rfl h3
 ·by_cases e:nm=AJ
  ·subst e;exact A0f bd
  ·by_cases X:nm=Bw
   ·rw[hV,Af e,Ai X]at hn;exact absurd rfl hn
   ·rw[z nm e X]at hn;exact E nm hn
 ·by_cases e:nm=AJ
  ·rw[hV,Ai e]at I;cases I;have:=hc.1;unfold Cb at this;omega
  ·by_cases X:nm=Bw
   ·rw[hV,Af e,Ai X]at I;cases I
   ·rw[z nm e X]at I;exact W nm d I
end
def Reads(bd:Int×Int)(P:PD)(q:gD Pu)(o:Int):Prop:=∃A sg cl ol,Lay P A sg cl ol/\C4 o (Bj sg cl ol) q/\I9 bd A.ix sg
def Whole(bd:Int×Int)(V:View)(q:gD Pu)(o:Int):Prop:=∃ix sg cl lo,D9 bd V ix sg cl lo/\(Ax cl).length<=1099511627776/\C4 o (Ax sg++Ax cl++EY lo) q
section
variable{bd:Int×Int}{P P':PD}{V V':View}{A:Ar}{ix:Ix}{sg cl:gD (Int×gD Pu)}{lo:Option (Int×gD Pu)}{ol:Option (gD Pu)}{pd q:gD Pu}{Ad:Nat}{o:Int}{nm:Bs}
def D9.AZ(h:D9 bd P.fl ix sg cl lo)(hl:(Ax cl).length<=1099511627776)(K L:Int)(hK:0<=K/\ix.Bd<=K+1)(aA:∀n,isNum n=true->P.fl (Ah n)≠none->n<=K)(hL:0<=L)(aB:∀n,isNum n=true->P.fl (AG n)≠none->n<=L):
 Lay P ⟨ix,⟨cl.map (·.1)++(lo.map (·.1)).toList,K,((Ax cl++EY lo).length:Int),none⟩,L,[]⟩ sg (cl++lo.toList) none:=by
 have W:∀m,P.bs m≠none->P.fl m≠none:=λm hm e=>hm (J0.2 e);have z:∀x∈cl++lo.toList,(isNum x.1=true/\ix.Bd<=x.1)/\(∀p∈x.2,Bm p)/\P.fl (Ah x.1)≠none:=λx d=>by
  rcases AX.1 d with d|d
  ·have⟨I,E,c,O,_⟩:=h.CX x d;exact⟨I,E,by rw[O];simp⟩
  ·cases lo with
   | none=>simp at d
   | some y=>
    simp at d;subst d;obtain⟨n,l⟩:=x;have⟨I,E,c,O,_⟩:=h.Ac n l rfl;exact⟨I,E,by rw[O];simp⟩
 have Y:Ax (cl++lo.toList)=Ax cl++EY lo:=by
  cases lo with
  | none=>simp[Ax,EY]
  | some y=>simp[Ax,EY]
 have X:G0 P.fl 0 (cl++lo.toList):=by
  cases lo with
  | none=>simpa using h.An
  | some y=>
   obtain⟨n,l⟩:=y;have⟨_,E,c,O,h4⟩:=h.Ac n l rfl;refine h.An.bZ ?_;unfold Jw;rw[O];dsimp only
   rw[NM];exact h4.aZ (by constructor<;>omega) E
 refine⟨h.DX.1,?_,h.sd,λx d=>?_,λx d=>⟨⟨(z x d).1.1,aA _ (z x d).1.1 (z x d).2.2⟩,(z x d).2.1⟩,λx _ d=>absurd rfl d,⟨λx d=>(z x d).1.2,λd=>absurd rfl d⟩,G0.at.1 X,?_,⟨rfl,?_⟩,⟨hK.1,hK.2,λn I E=>aA n I (W _ E)⟩,⟨hL,λn I E=>aB n I (W _ E)⟩,λm hm=>(by cases hm),h.Fc,λm hm=>(h.Ex m (W m hm)).1,λn I E O=>h.Cy n I E (W _ O)⟩
 ·rcases h.IU with⟨I,E⟩|⟨c,I,_,O⟩
  ·exact .inl ⟨J0.2 I,E⟩
  ·exact .inr (by rw[Q4 I,O])
 ·have⟨I,c,E,_,h4⟩:=h.CD x d;exact⟨I,by rw[Q4 E,h4]⟩
 ·dsimp only;rw[Y]
 ·dsimp only
  rw[EG];cases lo<;>simp
def Whole.bA(h:Whole bd P.fl q o):Reads bd P q o:=by
 obtain⟨ix,sg,cl,lo,I,O,W⟩:=h;have L:=I.DX.1.Bd;unfold isNum at L;simp at L;have E:=I.AZ O 4611686018427387904 4611686018427387904 ⟨by decide,by omega⟩ (λn d _=>by unfold isNum at d;simp at d;exact d.2) (by decide) (λn d _=>by unfold isNum at d;simp at d;exact d.2);refine⟨_,sg,_,none,E,?_,I.DX⟩;unfold Bj;have z:Ax (cl++lo.toList)=Ax cl++EY lo:=by
  cases lo<;>simp[Ax,EY]
 rw[z];simpa[List.append_assoc] using W
def Fl.bG{n:Int}{d:Nat}(h:Fl bd V pd Ad o n d)(ha:d<=1099511627776):Whole bd V pd o:=by
 obtain⟨ix,sg,cl,l,nb,c,I,hnb,z,h1,h2,h3,h4,E⟩:=h;refine⟨ix,sg,cl,some (n,l),I,by omega,?_⟩;have:pd=pd.take nb++l:=by rw[E,E4]
 conv=>rhs;rw[this]
 exact z.dM l
def Reads.aW{d:Int×Int}(h:Reads bd P q o)(z:Ia bd d):Reads d P q o:=by
 obtain⟨A,sg,cl,ol,I,E,L⟩:=h;exact⟨A,sg,cl,ol,I,E,L.aW z⟩
def Reads.bj{d:Int}(h:Reads bd P q o)(z:o<=d):Reads bd P q d:=by
 obtain⟨A,sg,cl,ol,I,E,L⟩:=h;exact⟨A,sg,cl,ol,I,E.bj z,L⟩
def Reads.to{d:gD Pu}(h:Reads bd P q o)(E:C4 o q d):Reads bd P d o:=by
 obtain⟨A,sg,cl,ol,I,z,L⟩:=h;exact⟨A,sg,cl,ol,I,z.AH E,L⟩
def Reads.aw(h:Reads bd P q o)(d:∀m,P'.bs m=P.bs m):Reads bd P' q o:=by
 obtain⟨A,sg,cl,ol,E,z,I⟩:=h;exact⟨A,sg,cl,ol,E.aw d,z,I⟩
def Rg(P:PD)(nm:gC)(m:Bs):(P.fl m=none/\(P.ad nm).2.fl m=none)\/∃c d,P.fl m=some c/\(P.ad nm).2.fl m=some d/\d.1=c.1/\(d.2=c.2\/Cb d):=by
 cases hx:lookup P.D.A6 nm with
 | none=>
  have e:(P.ad nm).2=P:=by unfold PD.ad CN;rw[hx]
  rw[e];cases hf:P.fl m with
  | none=>exact .inl ⟨rfl,rfl⟩
  | some c=>exact .inr ⟨c,c,rfl,rfl,rfl,.inl rfl⟩
 | some f=>
  have⟨a1,a2,a3,h⟩:=Jf hx;unfold PD.fl;rw[a1];cases hk:lookup P.D.A6 (Ab m) with
  | none=>exact .inl ⟨rfl,rfl⟩
  | some g=>
   refine .inr ⟨P.F g,(P.ad nm).2.F g,rfl,rfl,?_⟩;rcases h with h|h
   ·rw[h];exact⟨rfl,.inl rfl⟩
   ·rw[h];by_cases e:g=f
    ·subst e;simp[upd,Cb]
    ·simp[upd,e]
def O8(P:PD)(nm:gC)(m:Bs):(P.ad nm).2.bs m=P.bs m:=by
 unfold PD.bs;rcases Rg P nm m with⟨z,h⟩|⟨c,d,z,h,E,_⟩
 ·rw[z,h]
 ·rw[z,h];simp[E]
def Rn:∀(l:gD Bs) (P:PD) (m:Bs),(PD.ay l P).2.bs m=P.bs m
 | [],P,m=>rfl
 | x::r,P,m=>by
  unfold PD.ay;split
  ·exact O8 P (Ab x) m
  ·rw[Rn r,O8]
def Oe(A:Ar)(P:PD)(m:Bs):(A.I P).2.2.bs m=P.bs m:=by
 unfold Ar.I;split<;>exact Rn _ _ m
def O7{c:FC}{P:PD}{nm:gC}{m:Bs}(h:∀c,P.fl m=some c->Cb c)(E:(P.ad nm).2.fl m=some c):Cb c:=by
 rcases Rg P nm m with⟨_,I⟩|⟨a,d,L,I,O,z⟩
 ·rw[I]at E;cases E
 ·rw[I]at E;cases E;rcases z with z|z
  ·have:=h a L;unfold Cb at this ⊢;rw[z,O];exact this
  ·exact z
def O9:∀(l:gD Bs) {P:PD} {m:Bs},(∀c,P.fl m=some c->Cb c)->∀c,(PD.ay l P).2.fl m=some c->Cb c
 | [],P,m,h,c,d=>h c d
 | x::r,P,m,h,c,d=>by
  unfold PD.ay at d;split at d
  ·exact O7 h d
  ·exact O9 r (λc d=>O7 h d) c d
def Rf{P:PD}{x:Bs}(d:(P.ad (Ab x)).1=0):∀c,(P.ad (Ab x)).2.fl x=some c->Cb c:=by
 intro c h;unfold PD.fl PD.ad CN at h;unfold PD.ad CN at d;cases hx:lookup P.D.A6 (Ab x) with
 | none=>rw[hx]at d;cases d
 | some f=>
  rw[hx]at d h;dsimp only at d h;rw[Ai d,hx]at h;simp[upd]at h;subst h;rfl
def Rl:∀(l:gD Bs) {P:PD},(PD.ay l P).1=0->∀m∈l,∀c,(PD.ay l P).2.fl m=some c->Cb c
 | x::r,P,hok,m,h,c,hc=>by
  unfold PD.ay at hok hc;by_cases d:(P.ad (Ab x)).1=0
  ·rw[Af (nn d)]at hok hc;rcases BS.1 h with rfl|h
   ·exact O9 r (Rf d) c hc
   ·exact Rl r hok m h c hc
  ·rw[Ai d]at hok;exact absurd hok d
def Y8(d:(A.I P).1=0){m:Bs}(h:∀c,P.fl m=some c->m∈A.AR\/Cb c):∀c,(A.I P).2.2.fl m=some c->Cb c:=by
 intro c z;unfold Ar.I at d z;by_cases E:(P.ay A.AR).1=0
 ·rw[Af (nn E)]at z;by_cases I:m∈A.AR
  ·exact Rl A.AR E m I c z
  ·exact O9 A.AR (λc z=>(h c z).resolve_left I) c z
 ·rw[Ai E]at d;exact absurd d E
def Fl.bL{n:Int}{Y:Nat}(h:Fl bd V pd Ad o n Y)(I:∀nm,(∀c,V nm=some c->∃d,V' nm=some d/\d.1=c.1/\(d.2=c.2\/Cb d))/\(V nm=none->V' nm=none)):Fl bd V' pd Ad o n Y:=by
 obtain⟨ix,sg,cl,l,nb,c,O,W,hs,X,g2,g3,g4,g5⟩:=h;have L:∀nm,V' nm≠none->V nm≠none:=λnm z E=>z ((I nm).2 E);have⟨d,e1,e2,e3⟩:=(I _).1 c X;refine⟨ix,sg,cl,l,nb,d,O.bL (λnm _=>?_) (λnm z=>O.Ex nm (L nm z)) (λnm c z=>?_),W,hs,e1,by rw[e2];exact g2,g3,AP g4 (LV (UC e2 e3 (O.Eg _ _ X).2) _),g5⟩
 ·cases E:V nm with
  | none=>exact .inl ⟨rfl,(I nm).2 E⟩
  | some c=>have⟨d,d1,d2,d3⟩:=(I nm).1 c E;exact .inr ⟨c,d,rfl,d1,d2,d3⟩
 ·cases E:V nm with
  | none=>rw[(I nm).2 E]at z;cases z
  | some x=>
   have⟨d,d1,d2,d3⟩:=(I nm).1 x E;rw[d1]at z;cases z;have:=O.Eg nm x E;rcases d3 with d3|d3
   ·rw[d2,d3];exact this
   ·unfold Cb at d3;omega
def EE.cE{n:Int}{f O:Nat}(h:EE bd P pd Ad o n f O)(nm:gC):EE bd (P.ad nm).2 pd Ad o n f O:=by
 cases hx:lookup P.D.A6 nm with
 | none=>
  have e:(P.ad nm).2=P:=by unfold PD.ad CN;rw[hx]
  rw[e];exact h
 | some g0=>
  have⟨a1,a2,a3,d⟩:=Jf hx;have es:BB (P.ad nm).2=BB P:=by unfold BB;rw[a2,a3]
  refine⟨by rw[a1];exact h.1,λs L=>?_⟩;rw[es]at L;rcases h.2 s L with E|⟨W,I⟩
  ·exact .inl E
  ·refine .inr ⟨W,?_⟩;rcases d with d|d
   ·rw[d];exact I
   ·refine I.bL λm=>?_;unfold vw;cases hk:lookup s (Ab m) with
    | none=>exact⟨λc z=>by simp at z,λ_=>rfl⟩
    | some g=>
     refine⟨λc z=>?_,λX=>by simp at X⟩;simp at z;subst z;rw[d];by_cases e:g=g0
     ·subst e;exact⟨_,rfl,by simp[upd],.inr (by simp[upd,Cb])⟩
     ·exact⟨P.F g,by simp[upd,e],rfl,.inl rfl⟩
def EE.ay{n:Int}{f z:Nat}:∀(l:gD Bs) {P:PD},EE bd P pd Ad o n f z->EE bd (PD.ay l P).2 pd Ad o n f z
 | [],P,h=>h
 | x::r,P,h=>by
  have d:=h.cE (Ab x);unfold PD.ay;split
  ·exact d
  ·exact EE.ay r d
def EE.I{n:Int}{f d:Nat}(h:EE bd P pd Ad o n f d):EE bd (A.I P).2.2 pd Ad o n f d:=by
 unfold Ar.I;split<;>exact h.ay _
end
structure SI (bd:Int×Int) (A:Ar) (P:PD) (pd:gD Pu) (Ad:Nat) (o:Int) (sg cl:gD (Int×gD Pu)) (ol:Option (gD Pu)):Prop where
 di:DI bd P pd Ad o
 AZ:Lay P A sg cl ol
 HY:∃nb,nb<=pd.length/\C4 o (Ax sg++Ax cl) (pd.take nb)/\ol.getD []=pd.drop nb/\(ol=none->Ad<=nb)
 GH:∀m,(m=AJ\/(∃x∈sg,m=AG x.1)\/∃x∈cl,m=Ah x.1)->∀c,P.fl m=some c->m∈A.AR\/Cb c
 AB:∀l,ol=some l->∃f,EE bd P pd Ad o A.j.Ac f (Ax cl).length
 CE:(Ax cl).length<=1099511627776
 Er:I9 bd A.ix sg/\A.j.Ac<=bd.1/\A.Ac<=bd.2
section
variable{bd:Int×Int}{P P':PD}{A:Ar}{sg cl:gD (Int×gD Pu)}{ol:Option (gD Pu)}{pd:gD Pu}{Ad:Nat}{o:Int}
def DI.Eg(h:DI bd P pd Ad o)(nm:Bs)(c:FC)(d:P.fl nm=some c):0<=c.2/\c.2<=c.1.length:=by
 have⟨ix,sg,cl,lo,nb,hL,_⟩:=h.DZ _ h.CH;exact hL.Eg nm c d
def DI.Az(h:DI bd P pd Ad o):∀nm,P.fl nm≠none->FI bd nm:=by
 have⟨ix,sg,cl,lo,nb,hL,_⟩:=h.DZ _ h.CH;exact hL.Ex
def EE.aW{d:Int×Int}{n:Int}{f z:Nat}(h:EE bd P pd Ad o n f z)(E:Ia bd d):EE d P pd Ad o n f z:=
 ⟨h.1,λs I=>(h.2 s I).imp id λq=>⟨q.1,q.2.aW E⟩⟩
def SI.aW{d:Int×Int}(h:SI bd A P pd Ad o sg cl ol)(z:Ia bd d):SI d A P pd Ad o sg cl ol:=
 ⟨h.di.aW z,h.AZ,h.HY,h.GH,λl e=>by have⟨f,hf⟩:=h.AB l e;exact⟨f,hf.aW z⟩,h.CE,h.Er.1.aW z,by have:=h.Er.2.1;have:=z.1;omega,by have:=h.Er.2.2;have:=z.2;omega⟩
def SI.Cy(h:SI bd A P pd Ad o sg cl ol):C4 o (Bj sg cl ol) pd:=by
 have⟨nb,h1,h2,h3,_⟩:=h.HY;unfold Bj;rw[<-Ci,h3];have:pd=pd.take nb++pd.drop nb:=(E4 _ _).symm
 conv=>rhs;rw[this]
 exact h2.dM _
def SI.bA(h:SI bd A P pd Ad o sg cl ol):Reads bd P pd o:=⟨A,sg,cl,ol,h.AZ,h.Cy,h.Er.1⟩
def SI.dQ(h:SI bd A P pd Ad o sg cl ol):Ad<=pd.length:=by
 have⟨nb,h1,_,_,h4⟩:=h.HY;cases ol with
 | none=>exact AP (h4 rfl) h1
 | some l=>
  have⟨f,hl,hO⟩:=h.AB l rfl;rcases hO _ h.di.CH with d|⟨_,ix,sg',cl',l',nb',c,_,hnb,_,_,_,_,E,z⟩
  ·exact absurd rfl (d _ (Eh hl))
  ·(have:Fg c l'<=l'.length:=by unfold Fg;omega);rw[z,Cz]at this;rw[z]at E;omega
def SI.du(h:SI bd A P pd Ad o sg cl ol)(L:(A.I P).1=0):SI bd {A with AR:=[]} (A.I P).2.2 pd Ad o sg cl ol/\D9 bd (A.I P).2.2.fl A.ix sg cl (ol.map λl=>(A.j.Ac,l)):=by
 have X:=Oe A P;have d:=h.AZ.aw X;have W:Lay (A.I P).2.2 {A with AR:=[]} sg cl ol:=⟨d.DX,d.ix,d.sd,d.CD,d.CX,d.JI,d.F6,d.An,d.GM,d.AB,d.F4,d.EI,λm E=>(by cases E),d.Hz,d.Ex,d.HS⟩;have I:=h.di.I (A:=A);have z:∀m,(m=AJ\/(∃x∈sg,m=AG x.1)\/∃x∈cl,m=Ah x.1)->∀c,(A.I P).2.2.fl m=some c->Cb c:=λm E=>Y8 L (h.GH m E);exact⟨⟨I,W,h.HY,λm E c O=>.inr (z m E c O),λl e=>by have⟨f,hf⟩:=h.AB l e;exact⟨f,hf.I⟩,h.CE,h.Er⟩,W.bw h.CE I.Eg (λm c E O=>z m E c O) h.Er.1 I.Az⟩
def SI.dS(h:SI bd A P pd Ad o sg cl ol):DI bd (A.I P).2.2 pd Ad o/\Reads bd (A.I P).2.2 pd o:=⟨h.di.I,h.bA.aw (Oe A P)⟩
def A4c{P:PD}{nm:Bs}{f:Nat}{pc:Bs}(h:lookup P.D.A6 (Ab nm)=some f)(d:(P.av (Ab nm) pc).2.D.A6=P.D.A6):HG P.D P.F (Ab nm) pc=decide (((((P.av (Ab nm) pc).2.F f).1.length:Int)-(P.F f).1.length)=pc.length):=by
 have e:HG P.D P.F (Ab nm) pc=decide ((CJ (P.av (Ab nm) pc).2.D (P.av (Ab nm) pc).2.F (Ab nm)).1-(CJ P.D P.F (Ab nm)).1=pc.length):=rfl;rw[e];unfold CJ;rw[d,h]
def SI.aF{l:gD Pu}(h:SI bd A P pd Ad o sg cl (some l))(p:Pu)(hp:Bm p):
 DI bd (A.j.aF P p).2.2.2 (pd++[p]) Ad o/\((A.j.aF P p).1=true->(∃f,EE bd (A.j.aF P p).2.2.2 (pd++[p]) Ad o A.j.Ac f (Ax cl).length)/\Reads bd (A.j.aF P p).2.2.2 (pd++[p]) o)/\
  ((A.j.aF P p).1=false->DI bd (A.j.aF P p).2.2.2 pd Ad o/\Reads bd (A.j.aF P p).2.2.2 pd o):=by
 have⟨f,hO⟩:=h.AB l rfl;have⟨h1,h2,h3,h4,h5⟩:=h.AZ.AB;have hl:=hO.1;have⟨c,hc,hcb⟩:=IW h3;have I:P.F f=c:=by unfold PD.fl at hc;rw[hl]at hc;simpa using hc
 rw[h.AZ.GM]at hcb h1;have O:(A.j.aF P p).2.2.2=(P.av (Ab (Ah A.j.Ac)) (AT (FE (Ah A.j.Ac) ((Ax cl).length:Int) l) (Bg p.1 p.2.1 p.2.2))).2:=by
  unfold Jn.aF;rw[h1];rfl
 have E:(A.j.aF P p).1=HG P.D P.F (Ab (Ah A.j.Ac)) (AT (FE (Ah A.j.Ac) ((Ax cl).length:Int) l) (Bg p.1 p.2.1 p.2.2)):=by
  unfold Jn.aF;rw[h1];rfl
 obtain⟨pc,aA⟩:∃pc,AT (FE (Ah A.j.Ac) ((Ax cl).length:Int) l) (Bg p.1 p.2.1 p.2.2)=pc:=⟨_,rfl⟩;have X:pc.length=21:=by rw[<-aA,EJ,FB]
 rw[aA]at O E;have⟨a1,a2,a3,Y⟩:=J2 pc hl;have aF:=A4c (pc:=pc) hl a1;have hj:∃j,(P.av (Ab (Ah A.j.Ac)) pc).2.F=upd P.F f (c.1++pc.take j,c.2)/\((A.j.aF P p).1=true↔21<=j):=by
  rcases Y with Y|⟨j,Y⟩
  ·refine⟨0,by rw[Y];funext g;by_cases e:g=f<;>simp[upd,e,I],?_⟩;rw[E,aF,Y,X];simp
  ·refine⟨j,by rw[Y,I],?_⟩;rw[E,aF,Y,X,I];simp only[upd,Cq,B3,BK,X,E2];omega
 obtain⟨j,hF,L⟩:=hj;rw[<-O]at hF a1 a2 a3;rw[<-aA]at hF;have⟨b1,b2,b3⟩:=hO.av h.di I hcb p hp j a1 a2 a3 hF;refine⟨b1,λht=>?_,λht=>?_⟩
 ·have aB:=b2 (L.1 ht);refine⟨⟨f,aB⟩,?_⟩;rcases aB.2 _ b1.CH with z|⟨_,hw⟩
  ·exact absurd rfl (z _ (Eh aB.1))
  ·exact Whole.bA (hw.bG h.CE)
 ·have hj:j<21:=by
   by_cases d:21<=j
   ·rw[L.2 d]at ht;cases ht
   ·omega
  refine⟨b3 hj,?_⟩;have z:∀m,m≠Ah A.j.Ac->(A.j.aF P p).2.2.2.bs m=P.bs m:=λm hm=>by
   unfold PD.bs PD.fl;rw[a1,hF];cases hk:lookup P.D.A6 (Ab m) with
   | none=>rfl
   | some g=>
    have:g≠f:=λe=>hm (by
     have:=Kj (h.di.Aq _ h.di.CH) (Eh hk) (Eh hl) e
     exact Gj.1 (Qa this).1)
    simp[upd,this]
  have aE:(A.j.aF P p).2.2.2.bs (Ah A.j.Ac)=some (Ej (Ah A.j.Ac) ((Ax cl).length:Int) l++(AT (FE (Ah A.j.Ac) ((Ax cl).length:Int) l) (Bg p.1 p.2.1 p.2.2)).take j):=by
   unfold PD.bs PD.fl;rw[a1,hl,hF];simp[upd,hcb]
  have aG:∀x∈cl,Ah x.1≠Ah A.j.Ac:=λx d e=>h.AZ.JI x d (by simp) (Gi (h.AZ.CX x d).1.1 h5 e);have aD:Fo (A.j.aF P p).2.2.2 0 (cl++[(A.j.Ac,l)]):=by
   refine(h.AZ.An.bz λx d=>z _ (aG x d)).bZ ?_;rw[NM];exact P4 (by constructor<;>have:=h.CE<;>omega) h4 (by rw[BK];omega) aE
  refine⟨⟨A.ix,⟨A.j.An,A.j.Ac,((Ax (cl++[(A.j.Ac,l)])).length:Int),none⟩,A.Ac,[]⟩,sg,cl++[(A.j.Ac,l)],none,?_,?_⟩
  ·refine⟨h.AZ.DX,by rw[z _ (HT _).symm];exact h.AZ.ix,h.AZ.sd,λx d=>by rw[z _ (Gm _ x.1).symm];exact h.AZ.CD x d,λx d=>?_,λx _ d=>absurd rfl d,⟨λx d=>?_,λd=>absurd rfl d⟩,aD,rfl,⟨rfl,by dsimp only;rw[h2];simp⟩,
    ⟨h.AZ.F4.1,h.AZ.F4.2.1,λn W k2=>?_⟩,⟨h.AZ.EI.1,λn W k2=>h.AZ.EI.2 n W (by rwa [z _ (Gm _ n).symm]at k2)⟩,λm hm=>(by cases hm),h.AZ.Hz,λm hm=>?_,λn W k2 k3=>?_⟩
   ·rcases AX.1 d with d|d
    ·exact h.AZ.CX x d
    ·simp at d;subst d;exact⟨⟨h5,Iv _⟩,h4⟩
   ·rcases AX.1 d with d|d
    ·exact h.AZ.F6.1 x d
    ·simp at d;subst d;exact h.AZ.F6.2 (by simp)
   ·by_cases e:Ah n=Ah A.j.Ac
    ·have:=Gi W h5 e;rw[this];exact Iv _
    ·rw[z _ e]at k2;exact h.AZ.F4.2.2 n W k2
   ·by_cases e:m=Ah A.j.Ac
    ·subst e;rw[Lk h5];simp
    ·rw[z _ e]at hm;exact h.AZ.Ex m hm
   ·by_cases e:Ah n=Ah A.j.Ac
    ·have:=Gi W h5 e;subst this;show A.j.Ac∈A.j.An;rw[h2];simp
    ·rw[z _ e]at k3;exact h.AZ.HS n W k2 k3
  ·refine⟨?_,h.Er.1⟩;have:=h.Cy;unfold Bj at this ⊢;simpa[Ax] using this
end
section
variable{bd:Int×Int}{P P':PD}{A:Ar}{sg cl:gD (Int×gD Pu)}{ol:Option (gD Pu)}{pd:gD Pu}{Ad:Nat}{o:Int}
def SI.bw(h:SI bd A P pd Ad o sg cl ol)(d:A.AR=[]):D9 bd P.fl A.ix sg cl (ol.map λl=>(A.j.Ac,l)):=
 h.AZ.bw h.CE h.di.Eg (λm c z E=>(h.GH m z c E).resolve_left (by rw[d];simp)) h.Er.1 h.di.Az
def SI.dK(h:SI bd A P pd Ad o sg cl none):C4 o (Ax sg++Ax cl) pd:=by
 have:=h.Cy;unfold Bj at this;simpa using this
def SI.ax(h:SI bd A P pd Ad o sg cl none)(aB:A.AR=[])(Y:isNum (A.j.Ac+1)=true)(I:A.j.Ac+1<=bd.1):
 (DI bd (A.j.ax P).2.2 pd Ad o/\Reads bd (A.j.ax P).2.2 pd o)/\((A.j.ax P).1=0->SI bd {A with j:=(A.j.ax P).2.1} (A.j.ax P).2.2 pd Ad o sg cl (some [])/\(A.j.ax P).2.1.Ac=A.j.Ac+1):=by
 have hL:=h.bw aB;have E:∀x∈cl,x.1<A.j.Ac+1:=λx X=>by have:=(h.AZ.CX x X).1.2;omega
 have hf:=h.AZ.F4.2.1;have⟨d1,d2⟩:=h.di.ax (J:=A.j) hL h.dK h.dQ Y I hf E h.AZ.GM;have⟨b1,⟨j,b2⟩,b3⟩:=Ng P A.j;have O:=Extra.fl h.di b1;refine⟨⟨d1,?_⟩,λd=>?_⟩
 ·rcases O with e|⟨h0,e⟩
  ·exact h.bA.aw λm=>by unfold PD.bs;rw[e]
  ·rw[b2,h.AZ.GM]at e;have hw:=(hL.dy h.dK h.dQ Y I hf E j (V':=(A.j.ax P).2.2.fl) e).1;exact Whole.bA ⟨A.ix,sg,cl,some (A.j.Ac+1,[]),hw.bw,h.CE,by simpa[EY] using h.dK⟩
 ·have L:=(AK.aQ P).ax (J:=A.j) (N:=4611686018427387900) (R:=4611686018427387904) (h.di.bk.aQ.ai (by omega) (Ao _)) (by omega) d;obtain⟨s1,s2,s3,s4⟩:=L;have hq:=(h.AZ.aw (P':=P.aQ) λm=>((AK.aQ P).bs m).symm).ax (N:=4611686018427387900) (R:=4611686018427387904) (h.di.bk.aQ.ai (by omega) (Ao _)) Y (by omega);have W:Lay (A.j.ax P).2.2 {A with j:=(A.j.ax P).2.1} sg cl (some []):=by
   rw[s2];exact hq.2.2.1.aw λm=>s3.bs m
  have z:(A.j.ax P).2.1.Ac=A.j.Ac+1:=by
   unfold Jn.ax at d ⊢;split at d
   ·rename_i h1;exact absurd d h1
   ·rename_i h1;rw[Af h1];dsimp only at d ⊢;split at d
    ·rename_i h2;exact absurd d h2
    ·rename_i h2;rw[Af h2]
  refine⟨⟨d1,W,?_,λm hm c hc=>?_,λl e=>?_,h.CE,h.Er.1,by dsimp only;rw[z];exact I,h.Er.2.2⟩,z⟩
  ·have⟨nb,g1,g2,g3,g4⟩:=h.HY;exact⟨nb,g1,g2,g3,λe=>by cases e⟩
  ·
   have aA:m≠Ah (A.j.Ac+1):=by
    rcases hm with rfl|⟨x,_,rfl⟩|⟨x,X,rfl⟩
    ·exact(HT _).symm
    ·exact(Gm _ x.1).symm
    ·intro e;have:=Gi (h.AZ.CX x X).1.1 Y e;have:=E x X;omega
   rcases O with e|⟨h0,e⟩
   ·rw[e]at hc;exact h.GH m hm c hc
   ·rw[e,Af aA]at hc;exact h.GH m hm c hc
  ·cases e;exact⟨_,by dsimp only;rw[z];exact d2 d⟩
def SI.eD{l:gD Pu}(h:SI bd A P pd Ad o sg cl (some l))(p:Pu)(hp:Bm p)(X:(A.j.aF P p).2.1=0):
 (A.j.aF P p).1=true/\SI bd {A with j:=(A.j.aF P p).2.2.1} (A.j.aF P p).2.2.2 (pd++[p]) Ad o sg cl (some (l++[p])):=by
 have⟨s0,s1,s2,s3,s4⟩:=(AK.aQ P).aF (J:=A.j) (N:=4611686018427387900) (R:=4611686018427387904) (h.di.bk.aQ.ai (by omega) (Ao _)) (by omega) p X;have hq:=(h.AZ.aw (P':=P.aQ) λm=>((AK.aQ P).bs m).symm).aF (N:=4611686018427387900) (R:=4611686018427387904) (h.di.bk.aQ.ai (by omega) (Ao _)) p hp (by omega);have Y:(A.j.aF P p).1=true:=by rw[s0];exact hq.1
 have⟨g1,g2,_⟩:=h.aF p hp;have I:Lay (A.j.aF P p).2.2.2 {A with j:=(A.j.aF P p).2.2.1} sg cl (some (l++[p])):=by
  rw[s2];exact hq.2.2.2.aw λm=>s3.bs m
 have d:(A.j.aF P p).2.2.1.Ac=A.j.Ac:=by unfold Jn.aF;cases A.j.AB<;>rfl
 have⟨f,hO⟩:=(g2 Y).1;refine⟨Y,⟨g1,I,?_,λm hm c hc=>?_,λl' e=>⟨f,by dsimp only;rw[d];exact hO⟩,h.CE,h.Er.1,by dsimp only;rw[d];exact h.Er.2.1,h.Er.2.2⟩⟩
 ·have⟨nb,k1,k2,k3,_⟩:=h.HY;refine⟨nb,by simp;omega,by rw[Hn k1];exact k2,?_,λe=>by cases e⟩;rw[M8 k1,<-k3];rfl
 ·
  have⟨h1,h2,h3,h4,h5⟩:=h.AZ.AB;have L:m≠Ah A.j.Ac:=by
   rcases hm with rfl|⟨x,_,rfl⟩|⟨x,hx,rfl⟩
   ·exact(HT _).symm
   ·exact(Gm _ x.1).symm
   ·intro e;exact h.AZ.JI x hx (by simp) (Gi (h.AZ.CX x hx).1.1 h5 e)
  have⟨f0,hO0⟩:=h.AB l rfl;have E:(A.j.aF P p).2.2.2=(P.av (Ab (Ah A.j.Ac)) (AT (FE (Ah A.j.Ac) A.j.pd l) (Bg p.1 p.2.1 p.2.2))).2:=by
   unfold Jn.aF;rw[h1];rfl
  have⟨a1,_,_,z⟩:=J2 (AT (FE (Ah A.j.Ac) A.j.pd l) (Bg p.1 p.2.1 p.2.2)) hO0.1;have W:(A.j.aF P p).2.2.2.fl m=P.fl m:=by
   rw[E];unfold PD.fl;rw[a1];cases hk:lookup P.D.A6 (Ab m) with
   | none=>rfl
   | some g=>
    have O:g≠f0:=λe=>L (by
     have:=Kj (h.di.Aq _ h.di.CH) (Eh hk) (Eh hO0.1) e
     exact Gj.1 (Qa this).1)
    rcases z with z|⟨j,z⟩
    ·rw[z]
    ·rw[z];simp[upd,O]
  rw[W]at hc;exact h.GH m hm c hc
def SI.af(h:SI bd A P pd Ad o sg cl ol)(W:ol=none->isNum (A.j.Ac+1)=true/\A.j.Ac+1<=bd.1)(p:Pu)(O:Bm p):
 DI bd (A.af P p).2.2.2 (pd++[p]) Ad o/\((A.af P p).1=true->Reads bd (A.af P p).2.2.2 (pd++[p]) o)/\((A.af P p).1=false->DI bd (A.af P p).2.2.2 pd Ad o/\Reads bd (A.af P p).2.2.2 pd o)/\
  ((A.af P p).2.1=0->(A.af P p).1=true/\SI bd (A.af P p).2.2.1 (A.af P p).2.2.2 (pd++[p]) Ad o sg cl (some (ol.getD []++[p]))/\(A.af P p).2.2.1.AR=[]):=by
 unfold Ar.af;by_cases I:(A.I P).1=0
 ·rw[Af (nn I)];dsimp only
  have⟨hS,_⟩:=h.du I;have X:(A.I P).2.1 = {A with AR:=[]}:=by
   unfold Ar.I at I ⊢;split at I
   ·rename_i E;exact absurd I E
   ·rename_i E;rw[Af E]
  rw[X];dsimp only
  generalize (A.I P).2.2=P1 at hS;cases ol with
  | none=>
   have z:=h.AZ.AB.1;have⟨⟨b1,b2⟩,b3⟩:=hS.ax rfl (W rfl).1 (W rfl).2;dsimp only at b1 b2 b3;by_cases E:(A.j.ax P1).1=0
   ·have⟨c1,c2⟩:=b3 E;have e:A.j.af P1 p=(A.j.ax P1).2.1.aF (A.j.ax P1).2.2 p:=by
     unfold Jn.af;rw[Ai z,Af (nn E)]
    rw[e];have⟨d1,d2,d3⟩:=c1.aF p O;refine⟨d1,λL=>(d2 L).2,d3,λd=>?_⟩;have⟨e1,e2⟩:=c1.eD p O d;exact⟨e1,e2,rfl⟩
   ·have e:A.j.af P1 p=(false,(A.j.ax P1).1,(A.j.ax P1).2.1,(A.j.ax P1).2.2):=by
     unfold Jn.af;rw[Ai z,Ai E]
    rw[e];exact⟨b1.cd [p],λL=>(by cases L),λ_=>⟨b1,b2⟩,λd=>absurd d E⟩
  | some l=>
   (have z:¬A.j.AB=none:=by rw[h.AZ.AB.1];simp);(have e:A.j.af P1 p=A.j.aF P1 p:=by unfold Jn.af;rw[Af z]);rw[e];have⟨d1,d2,d3⟩:=hS.aF p O;refine⟨d1,λL=>(d2 L).2,d3,λd=>?_⟩;have⟨e1,e2⟩:=hS.eD p O d;exact⟨e1,e2,rfl⟩
 ·rw[Ai I];have⟨u1,u2⟩:=h.dS;exact⟨u1.cd [p],λL=>(by cases L),λ_=>⟨u1,u2⟩,λd=>absurd d I⟩
end
section
variable{bd:Int×Int}{P P':PD}{V V':View}{A:Ar}{ix:Ix}{sg cl:gD (Int×gD Pu)}{lo:Option (Int×gD Pu)}{ol:Option (gD Pu)}{pd:gD Pu}{Ad:Nat}{o:Int}
def A19{c:FC}{nm:Bs}{a:Int}{l:gD Pu}(d:Cb c)(h:c.1=Ej nm a l):Fg c l=l.length:=by
 unfold Fg;unfold Cb at d;rw[d,h,Jy];have:((12+21*l.length:Nat):Int).toNat=12+21*l.length:=by omega
 rw[this];have:(12+21*l.length-12)/21=l.length:=by omega
 omega
def Ri(d:P.aJ.1=0):BB P.aJ.2=[P.D.A6]/\P.aJ.2.D.A6=P.D.A6/\P.aJ.2.F=P.F/\P.aJ.2.D.As=[]:=by
 unfold PD.aJ E9 at d ⊢;dsimp only at d ⊢;rw[Ai d];exact⟨rfl,rfl,rfl,rfl⟩
def Jg(P:PD):P.aJ.2.fl=P.fl:=by
 unfold PD.aJ E9 PD.fl;dsimp only
 split<;>rfl
def MY(h:P'.fl=P.fl)(m:Bs):P'.bs m=P.bs m:=by unfold PD.bs;rw[h]
def DI.Gh(h:DI bd P pd Ad o)(I:BB P=[P.D.A6]){d:Nat}(E:Holds bd P.fl pd d o):DI bd P pd d o:=
 ⟨λs z=>by rw[I]at z;simp at z;subst z;exact E,h.Aq,h.Cg,h.CH⟩
def SI.ad(h:SI bd A P pd Ad o sg cl ol):
 (DI bd (A.ad P).2.2 pd Ad o/\Reads bd (A.ad P).2.2 pd o)/\((A.ad P).1=0->SI bd (A.ad P).2.1 (A.ad P).2.2 pd pd.length o sg cl ol/\(A.ad P).2.1 = {A with AR:=[]}/\(A.ad P).2.2.D.As=[]):=by
 unfold Ar.ad;by_cases Y:(A.I P).1=0
 ·rw[Af (nn Y)];have⟨hS,hL⟩:=h.du Y;have hA:(A.I P).2.1 = {A with AR:=[]}:=by
   unfold Ar.I at Y ⊢;split at Y
   ·rename_i W;exact absurd Y W
   ·rename_i W;rw[Af W]
  rw[hA];dsimp only
  generalize (A.I P).2.2=P1 at hS hL;have hj:∃d,A.j.ad P1=((A.j.ad P1).1,d)/\DI bd d pd Ad o/\(∀m,d.bs m=P1.bs m)/\(∀m,(∀c,P1.fl m=some c->Cb c)->∀c,d.fl m=some c->Cb c)/\(∀l f,ol=some l->EE bd P1 pd Ad o A.j.Ac f (Ax cl).length->EE bd d pd Ad o A.j.Ac f (Ax cl).length)/\
   ((A.j.ad P1).1=0->∀l,ol=some l->∀c,d.fl (Ah A.j.Ac)=some c->Cb c):=by
   cases ol with
   | none=>
    (have e:A.j.ad P1=(0,P1):=by unfold Jn.ad;rw[h.AZ.AB.1]);rw[e];exact⟨P1,rfl,hS.di,λ_=>rfl,λm L=>L,λl f e=>(by cases e),λ_ l e=>(by cases e)⟩
   | some l=>
    (have e:A.j.ad P1=P1.ad (Ab (Ah A.j.Ac)):=by unfold Jn.ad;rw[h.AZ.AB.1]);rw[e];exact⟨_,rfl,hS.di.cE _,λm=>O8 P1 _ m,λm L c E=>O7 L E,λl f _ hO=>hO.cE _,λz l e c E=>Rf z c E⟩
  obtain⟨d,e2,d2,b2,k2,o2,m2⟩:=hj;have r2:=hS.bA.aw b2;rw[e2];dsimp only
  by_cases W:(A.j.ad P1).1=0
  ·rw[Af (nn W)];dsimp only
   have d3:=d2.eC;have r3:=r2.aw (MY (Jg d));refine⟨⟨d3,r3⟩,λz=>?_⟩;have⟨s1,s2,s3,s4⟩:=Ri z;have hb:∀m,d.aJ.2.bs m=P1.bs m:=λm=>(MY (Jg d) m).trans (b2 m)
   have I:=hS.AZ.aw hb;have X:∀m,(m=AJ\/(∃x∈sg,m=AG x.1)\/∃x∈cl,m=Ah x.1)->∀c,d.aJ.2.fl m=some c->Cb c:=λm L c E=>by
    rw[Jg]at E;exact k2 m (λc E=>(hS.GH m L c E).resolve_left (by simp)) c E
   have aB:=I.bw h.CE d3.Eg (λm c L E=>X m L c E) h.Er.1 d3.Az;(have aA:BB d.aJ.2=[d.aJ.2.D.A6]:=by rw[s1,s2]);have⟨nb,n1,n2,n3,n4⟩:=h.HY;have O:∀l,ol=some l->∃f,EE bd d.aJ.2 pd pd.length o A.j.Ac f (Ax cl).length:=λl e=>by
    have⟨f,hO⟩:=hS.AB l e;have aD:=o2 l f e hO;refine⟨f,by rw[s2];exact aD.1,λs hs=>?_⟩;rw[s1]at hs;simp at hs;subst hs;refine .inr ⟨aD.1,?_⟩;subst e;have⟨c,c1,c2⟩:=IW I.AB.2.2.1;(have aE:Cb c:=by rw[Jg]at c1;exact m2 W l rfl c c1);(have hl:l=pd.drop nb:=by simpa using n3);(have ha:c.1=Ej (Ah A.j.Ac) ((Ax cl).length:Int) l:=by rw[c2];dsimp only;rw[h.AZ.GM]);(have hv:vw d.aJ.2.F d.D.A6=d.aJ.2.fl:=by rw[s3,Jg];rfl);rw[hv];refine⟨A.ix,sg,cl,l,nb,c,aB,n1,n2,c1,ha,rfl,?_,hl⟩;rw[A19 aE ha,hl,Cz];omega
   have hH:Holds bd d.aJ.2.fl pd pd.length o:=by
    cases ol with
    | none=>
     have aF:nb=pd.length:=by
      (have:(pd.drop nb).length=0:=by rw[<-n3];rfl);rw[Cz]at this;omega
     exact Holds.bG aB (by rw[aF,C5]at n2;exact n2) (Ao _)
    | some l=>
     have⟨f,hO⟩:=O l rfl;rcases hO.2 d.aJ.2.D.A6 (by rw[aA];simp) with hno|⟨_,hw⟩
     ·exact absurd rfl (hno _ (Eh hO.1))
     ·exact hw.cf
   refine⟨⟨d3.Gh aA hH,I,⟨nb,n1,n2,n3,λe=>?_⟩,λm L c E=>.inr (X m L c E),O,h.CE,h.Er⟩,rfl,s4⟩;subst e;(have:(pd.drop nb).length=0:=by rw[<-n3];rfl);rw[Cz]at this;omega
  ·rw[Ai W];exact⟨⟨d2,r2⟩,λz=>absurd z W⟩
 ·rw[Ai Y];exact⟨h.dS,λz=>absurd z Y⟩
end
section
variable{bd:Int×Int}{P P':PD}{V V':View}{A:Ar}{ix:Ix}{sg cl:gD (Int×gD Pu)}{lo:Option (Int×gD Pu)}{ol:Option (gD Pu)}{pd:gD Pu}{Ad:Nat}{o:Int}
def SI.by(h:SI bd A P pd Ad o sg cl ol)(Y:D9 bd P.fl A.ix sg cl (ol.map λl=>(A.j.Ac,l))):Da bd P.fl A.ix sg cl (ol.map λl=>(A.j.Ac,l)) pd Ad o:=by
 have⟨nb,n1,n2,n3,n4⟩:=h.HY;refine⟨nb,Y,n1,n2,λn l e=>?_,λe=>?_⟩
 ·cases ol with
  | none=>cases e
  | some l0=>
   cases e;have⟨f,hO⟩:=h.AB l rfl;rcases hO.2 _ h.di.CH with E|⟨_,ix',sg',cl',l',L,c,_,hnb,_,g1,X,_,g4,g5⟩
   ·exact absurd rfl (E _ (Eh hO.1))
   ·(have W:l=pd.drop nb:=by simpa using n3);have⟨c2,e1,e2⟩:=IW h.AZ.AB.2.2.1;have I:c2=c:=by
     have z:P.fl (Ah A.j.Ac)=some c:=g1;rw[e1]at z;simpa using z
    subst I;have d:l.length=l'.length:=by
     have:=Ep List.length (e2.symm.trans X);rw[Jy,Jy]at this;omega
    have O:nb=L:=by
     rw[W,g5,Cz,Cz]at d;omega
    refine⟨c2,e1,?_,by rw[W,C5]⟩;(have:Fg c2 l=Fg c2 l':=by unfold Fg;rw[d]);rw[this,O];exact g4
 ·cases ol with
  | none=>exact n4 rfl
  | some l=>cases e
def SI.e8(h:SI bd A P pd Ad o sg cl ol):C4 o (Ax sg++Ax cl++EY (ol.map λl=>(A.j.Ac,l))) pd:=by
 have:=h.Cy;unfold Bj at this;cases ol<;>simpa[EY,List.append_assoc] using this
def Da.bG(h:Da bd V ix sg cl lo pd Ad o)(d:C4 o (Ax sg++Ax cl++EY lo) pd)(z:(Ax cl).length<=1099511627776):Whole bd V pd o:=⟨ix,sg,cl,lo,h.bw,z,d⟩
def Da.sd{h:gD (Int×gD Pu)}(E:D9 bd V ix h [] none)(z:C4 o (Ax h) pd)(d:Ad<=pd.length):Da bd V ix h [] none pd Ad o:=
 ⟨pd.length,E,Ao _,by rw[C5];simpa[Ax] using z,λn l e=>(by cases e),λ_=>d⟩
def To:∀(O:gD (gD Pu)) (d:Int) (I:gD Int) {P:PD},DI bd P pd Ad o->0<=d->d+O.length<=4611686018427387904->d+O.length<=bd.2->(PD.aq O d I P).1=0->
 (∀x∈C6 d O,∀c,(PD.aq O d I P).2.2.2.fl (AG x.1)=some c->Cb c)/\∀m,(∀x∈C6 d O,m≠AG x.1)->(PD.aq O d I P).2.2.2.fl m=P.fl m
 | [],d,I,P,_,_,_,_,_=>⟨λx E=>(by cases E),λm _=>rfl⟩
 | l::r,d,I,P,h,h0,h1,hb,hok=>by
  simp only[CA]at h1 hb;have L:PD.aq (l::r) d I P=if (P.aK (d+1) l).1≠0 then ((P.aK (d+1) l).1,d+1,I,(P.aK (d+1) l).2) else PD.aq r (d+1) (I++[d+1]) (P.aK (d+1) l).2:=rfl
  rw[L]at hok ⊢;by_cases X:(P.aK (d+1) l).1=0
  ·rw[Af (nn X)]at hok ⊢;(have z:isNum (d+1)=true:=by unfold isNum;simp;omega);have hw:DI bd (P.aK (d+1) l).2 pd Ad o:=h.aI (.inr ⟨d+1,⟨z,by omega⟩,rfl⟩) _ _;have⟨i1,i2⟩:=To r (d+1) (I++[d+1]) hw (by omega) (by omega) (by omega) hok;have⟨e1,e2⟩:=Ks P (AG (d+1)) (AI (AG (d+1))) (Cp l);have⟨e3,e4⟩:=e2 X;have aA:∀x∈C6 (d+1) r,AG (d+1)≠AG x.1:=λx E e=>by
    have E:=H5 E;have:=Lh z (by unfold isNum;simp;omega) e;omega
   have aD:=Extra.fl h e1;refine⟨λx E c Y=>?_,λm hm=>?_⟩
   ·rcases BS.1 E with rfl|E
    ·rw[i2 _ aA]at Y;have:(P.aK (d+1) l).2.fl (AG (d+1))=some ((P.aK (d+1) l).2.F P.D.AV):=by
      unfold PD.fl;have aE:lookup (P.aK (d+1) l).2.D.A6 (Ab (AG (d+1)))=some P.D.AV:=e3;rw[aE];rfl
     rw[this]at Y;cases Y;exact e4
    ·exact i1 x E c Y
   ·rw[i2 m λx E=>hm x (BC _ E)];have aB:=hm _ (BI ..);have W:(P.aK (d+1) l).2.fl=P.fl\/(P.fl (AG (d+1))=none/\∀m,(P.aK (d+1) l).2.fl m=if m=AG (d+1) then some ((P.aK (d+1) l).2.F P.D.AV) else P.fl m):=aD;rcases W with e|⟨_,e⟩
    ·rw[e]
    ·rw[e,Af aB]
  ·rw[Ai X]at hok;exact absurd hok X
def Wv{nm:Bs}{s:Nat}{l:Bs}(d:(P.aI nm s l).1=0):((P.aI nm s l).2.F P.D.AV).1=AT s l:=by
 unfold PD.aI at d ⊢;have⟨c1,c2⟩:=Lz P nm;by_cases I:(P.au (Ab nm)).1=0
 ·rw[Af (nn I)]at d ⊢;have O:=c2 I;by_cases E:((P.au (Ab nm)).2.af (Ab nm) s l).2.1=0
  ·rw[Af (nn E)];(have W:(P.au (Ab nm)).2.F P.D.AV=([],0):=by unfold PD.au;simp[upd]);have X:=Vm (AT s l) O E;(have L:lookup ((P.au (Ab nm)).2.av (Ab nm) (AT s l)).2.D.A6 (Ab nm)=some P.D.AV:=by rw[(J2 (AT s l) O).1];exact O);have z:((P.au (Ab nm)).2.af (Ab nm) s l).2.2=((P.au (Ab nm)).2.av (Ab nm) (AT s l)).2:=rfl;rw[z];have⟨_,_,_,h⟩:=Jf L;rcases h with h|h
   ·rw[h,X];simp[upd,W]
   ·rw[h,X];simp[upd,W]
  ·rw[Ai E]at d;exact absurd d E
 ·rw[Ai I]at d;exact absurd d I
def DI.dd(h:DI bd P pd Ad o)(hT:Da bd P.fl ix sg cl lo pd Ad o)(hW:C4 o (Ax sg++Ax cl++EY lo) pd)(aD:(Ax cl).length<=1099511627776){d:Int}{z:gD (Int×gD Pu)}(X:I9 bd ⟨d,z.map (·.1)⟩ z)(aE:∀x∈z,((∀p∈x.2,Bm p)/\CG Cw x.2=true)/\∃c,P.fl (AG x.1)=some c/\Cb c/\c.1=AT (AI (AG x.1)) (Cp x.2))(aA:∀n,isNum n=true->d<=n->P.fl (Ah n)=none)(hs:C4 o (Ax z) pd)(W:Ad<=pd.length):
 DI bd (P.an d (z.map (·.1))).2 pd Ad o/\Reads bd (P.an d (z.map (·.1))).2 pd o/\((P.an d (z.map (·.1))).1=0->Da bd (P.an d (z.map (·.1))).2.fl ⟨d,z.map (·.1)⟩ z [] none pd Ad o):=by
 have⟨e1,e2⟩:=Ks P Bw (AI AJ) (Cn d (z.map (·.1)));have d1:DI bd (P.aI Bw (AI AJ) (Cn d (z.map (·.1)))).2 pd Ad o:=h.aI (.inl rfl) _ _;have t1:=hT.et h e1 (.inl rfl);have aB:=Extra.fl h e1;unfold PD.an;by_cases h1:(P.aI Bw (AI AJ) (Cn d (z.map (·.1)))).1=0
 ·rw[Af (nn h1)];have⟨e3,e4⟩:=e2 h1;have L:=Wv h1;obtain⟨E,Y⟩:∃E,(P.aI Bw (AI AJ) (Cn d (z.map (·.1)))).2=E:=⟨_,rfl⟩;rw[Y]at L;rw[Y]at d1 t1 e3 e4 aB ⊢;have hV:D9 bd (λm=>if m=AJ then some (E.F P.D.AV) else if m=Bw then none else E.fl m) ⟨d,z.map (·.1)⟩ z [] none:=by
   have I:∀m,m≠Bw->E.fl m=P.fl m:=λm hm=>by
    rcases aB with e|⟨_,e⟩
    ·rw[e]
    ·rw[e,Af hm]
   refine D9.fL (V:=E.fl) X ⟨e4,L⟩ (λx hx=>?_) (λn k1 k2=>?_) t1.bw.Ex t1.bw.Eg λ_=>rfl
   ·rw[I _ (Mr _)];exact aE x hx
   ·rw[I _ (Lo _)];exact aA n k1 k2
  have hB:=Da.sd (Ad:=Ad) hV hs W;have d2:=d1.ff e3 hB.cf;have⟨a1,a2,a3⟩:=S8 (nw:=AJ) d1.bk e3;have aF:=(t1.bG hW aD).bA;rcases a3 with⟨b1,b2,b3⟩|⟨b1,b2⟩
  ·refine⟨d2,aF.aw (MY (by unfold PD.fl;rw[b1,a1])),λO=>absurd O b3⟩
  ·have hf:(E.aR (Ab Bw) (Ab AJ)).2.fl=λm=>if m=AJ then some (E.F P.D.AV) else if m=Bw then none else E.fl m:=by
    funext m
    (have:(E.aR (Ab Bw) (Ab AJ)).2.fl m=vw E.F ((E.D.A6.filter λe=>decide (e.1≠Ab Bw/\e.1≠Ab AJ))++[(Ab AJ,P.D.AV)]) m:=by unfold PD.fl vw;rw[b1,a1]);rw[this,QU JA.symm];rfl
   rw[<-hf]at hB;exact⟨d2,(hB.bG (by simpa[Ax,EY] using hs) (by simp[Ax])).bA,λ_=>hB⟩
 ·rw[Ai h1];exact⟨d1,(t1.bG hW aD).bA,λO=>absurd O h1⟩
end
section
variable{bd:Int×Int}{P P':PD}{A:Ar}{ix:Ix}{sg cl:gD (Int×gD Pu)}{lo:Option (Int×gD Pu)}{ol:Option (gD Pu)}{pd:gD Pu}{Ad:Nat}{o:Int}
def YS(h:Hm P)(x m:Bs):(P.aG (Ab x)).2.fl m=none\/(P.aG (Ab x)).2.fl m=P.fl m:=by
 have⟨a1,_,a3⟩:=Se h (Ab x);rcases a3 with⟨d1,_,_⟩|⟨d1,_⟩
 ·exact .inr (by unfold PD.fl;rw[d1,a1])
 ·have:(P.aG (Ab x)).2.fl m=vw P.F (P.D.A6.filter λe=>decide (e.1≠Ab x)) m:=by unfold PD.fl vw;rw[d1,a1]
  rw[this,QV];by_cases e:m=x
  ·exact .inl (by rw[Ai e])
  ·exact .inr (by rw[Af e];rfl)
def Sf:∀(l:gD Bs) {P:PD},DI bd P pd Ad o->Da bd P.fl ix sg cl lo pd Ad o->(∀m∈l,¬KQ ix sg m)->∀m,(PD.aO l P).2.fl m=none\/(PD.aO l P).2.fl m=P.fl m
 | [],P,_,_,_,m=>.inr rfl
 | x::r,P,h,hT,hm,m=>by
  have⟨h1,h2⟩:=h.eu hT (hm x (BI ..));have d:=YS h.bk x m;unfold PD.aO;split
  ·exact d
  ·rcases Sf r h1 h2 (λy z=>hm y (BC _ z)) m with e|e
   ·exact .inl e
   ·rw[e];exact d
def ZB(L:Da bd P.fl A.ix sg cl lo pd Ad o)(E:A.j.An=cl.map (·.1)++(lo.map (·.1)).toList)(d:sg.map (·.1)=A.ix.sd):∀m∈A.aV P,¬KQ A.ix sg m:=λm h O=>by
 have⟨h1,h2⟩:=Jo.1 h;refine h2 ?_;unfold Ar.Az;rcases O with rfl|⟨x,W,rfl⟩|⟨n,X,z,rfl⟩
 ·simp
 ·refine HJ _ (Ed ?_);rw[<-d];exact Ed W
 ·refine G1 _ (BC _ (Ed ?_));rw[E];refine L.bw.Cy n X z λI=>h1 ?_;unfold PD.bs;rw[I];rfl
def SI.aH(h:SI bd A P pd Ad o sg cl ol)(L:gD (Int×gD Pu))(E:gD (gD Pu))(aH:∀x∈L,x∈sg)(aE:(L.map (·.1)).Pairwise (· < ·))(hf:∀l∈E,(∀p∈l,Bm p)/\CG Cw l=true)(hn:isNum (A.j.Ac+1)=true)(aD:A.Ac+E.length<=4611686018427387904)(a3:∀l∈E,l≠[])(aN:A.Ac+E.length<=bd.2)(hs:C4 o (Ax (L++C6 A.Ac E)) pd)(hbig:A.AR.length+P.Az.length+Ds E+E.length+A.j.An.length+sg.length+L.length<=1099511627776):
 (DI bd (A.aH P (L.map (·.1)) E).2.2 pd Ad o/\Reads bd (A.aH P (L.map (·.1)) E).2.2 pd o)/\
  ((A.aH P (L.map (·.1)) E).1=0->SI bd (A.aH P (L.map (·.1)) E).2.1 (A.aH P (L.map (·.1)) E).2.2 pd pd.length o (L++C6 A.Ac E) [] none/\
    (A.aH P (L.map (·.1)) E).2.1=⟨⟨A.j.Ac+1,(L++C6 A.Ac E).map (·.1)⟩,⟨[],A.j.Ac,0,none⟩,A.Ac+E.length,[]⟩/\
    (∀m,(A.aH P (L.map (·.1)) E).2.2.bs m≠none->m∈AJ::(L++C6 A.Ac E).map λx=>AG x.1)/\(A.aH P (L.map (·.1)) E).2.2.D.As=[]):=by
 have a1:P.aQ.dl=P.Az.length:=by rw[IZ];rfl
 have Y:(A.aH P (L.map (·.1)) E).1=0->(A.aH P (L.map (·.1)) E).2.1=⟨⟨A.j.Ac+1,(L++C6 A.Ac E).map (·.1)⟩,⟨[],A.j.Ac,0,none⟩,A.Ac+E.length,[]⟩/\
  Lay (A.aH P (L.map (·.1)) E).2.2 (A.aH P (L.map (·.1)) E).2.1 (L++C6 A.Ac E) [] none/\∀m,(A.aH P (L.map (·.1)) E).2.2.bs m≠none->m∈AJ::(L++C6 A.Ac E).map λx=>AG x.1:=λz=>by
  have⟨r1,r2,r3,r4⟩:=(AK.aQ P).aH (A:=A) (N:=0) (R:=0) (L.map (·.1)) E (h.di.bk.aQ.ai (by rw[a1];omega) (by simp;omega)) z;have⟨q1,q2,q3,q4,q5⟩:=(h.AZ.aw (P':=P.aQ) λm=>((AK.aQ P).bs m).symm).aH (N:=0) (R:=0) (K:=P.Az.length) L E (h.di.bk.aQ.ai (by omega) (by omega)) (by rw[IZ,a1];exact Ao _) aH aE hf hn aD;refine⟨by rw[r2,q2],by rw[r2];exact q4.aw λm=>r3.bs m,λm hm=>q5 m (by rw[<-r3.bs];exact hm)⟩
 obtain⟨X,aI⟩:∃X,L++C6 A.Ac E=X:=⟨_,rfl⟩;have aP:X.map (·.1)=L.map (·.1)++(C6 A.Ac E).map (·.1):=by rw[<-aI,EG]
 have aO:∀x∈X,x.2≠[]:=λx I=>by
  rw[<-aI]at I;rcases AX.1 I with I|I
  ·exact h.Er.1.2.2 x (aH x I)
  ·exact a3 _ (H5 I).2.2
 rw[aI]at hs Y ⊢;have key:∃t:Int×Ar×PD,A.aH P (L.map (·.1)) E=t/\(DI bd t.2.2 pd Ad o/\Reads bd t.2.2 pd o)/\(t.1=0->t.2.2.D.As=[]/\BB t.2.2=[t.2.2.D.A6]/\∃a2 W,Da bd t.2.2.fl a2 W [] none pd Ad o/\W.map (·.1)=X.map (·.1)/\C4 o (Ax W) pd):=by
  unfold Ar.aH;dsimp only
  by_cases h1:(A.I P).1=0
  ·rw[Af (nn h1)];have⟨hS,hL⟩:=h.du h1;have hA:(A.I P).2.1 = {A with AR:=[]}:=by
    unfold Ar.I at h1 ⊢;split at h1
    ·rename_i h2;exact absurd h1 h2
    ·rename_i h2;rw[Af h2]
   have aF:=Oe A P;rw[hA];generalize (A.I P).2.2=P1 at hS hL aF;(have aV:=hS.by hL);have hall:=h.e8;have hj:({A with AR:=[]}:Ar).j.An=cl.map (·.1)++(Option.map (·.1) (ol.map λl=>(A.j.Ac,l))).toList:=by
    dsimp only
    rw[h.AZ.bY];cases ol<;>simp[shut]
   have a4:=ZB (A:={A with AR:=[]}) aV hj h.AZ.sd;have⟨d2,t2⟩:=hS.di.az (A:={A with AR:=[]}) aV hj h.AZ.sd;have aB:∀m,(({A with AR:=[]}:Ar).az P1).2.fl m=none\/(({A with AR:=[]}:Ar).az P1).2.fl m=P1.fl m:=Sf _ hS.di aV a4;generalize hP2:({A with AR:=[]}:Ar).az P1=SW at d2 t2 aB ⊢;obtain⟨c2,a0⟩:=SW;dsimp only at d2 t2 aB ⊢;have r2:Reads bd a0 pd o:=(t2.bG hall h.CE).bA;by_cases h2:c2=0
   ·rw[Af (nn h2)];have h0:=h.AZ.EI.1;have d3:=DI.aq E A.Ac (L.map (·.1)) d2 h0 aD aN;have t3:=Da.aq E A.Ac (L.map (·.1)) d2 t2 h0 aD aN;have aA:=To E A.Ac (L.map (·.1)) d2 h0 aD aN;have aQ:∀n,isNum n=true->A.Ac<n->a0.bs (AG n)=none:=λn k1 k2=>by
     rcases aB (AG n) with e|e
     ·unfold PD.bs;rw[e];rfl
     ·(have:a0.bs (AG n)=P.bs (AG n):=by unfold PD.bs;rw[e];have:=aF (AG n);unfold PD.bs at this;exact this);rw[this];cases I:P.bs (AG n) with
      | none=>rfl
      | some c=>have:=h.AZ.EI.2 n k1 (by rw[I];simp);omega
    have aG:=λz=>AK.aq (N:=0) (R:=0) E A.Ac (L.map (·.1)) (AK.aQ a0) (d2.bk.aQ.ai (by omega) (by omega)) z;have⟨w1,w2,w3,w4,w5,w6⟩:=Cm.aq (N:=0) (R:=0) E A.Ac (L.map (·.1)) (d2.bk.aQ.ai (by omega) (by omega)) h0 aD (λn k1 k2=>by rw[<- (AK.aQ a0).bs];exact aQ n k1 k2);generalize hP3:PD.aq E A.Ac (L.map (·.1)) a0=NS at d3 t3 aA aG ⊢;obtain⟨c3,a7,a6,aZ⟩:=NS;dsimp only at d3 t3 aA aG ⊢;have r3:=(t3.bG hall h.CE).bA;by_cases h3:c3=0
    ·rw[Af (nn h3)];have⟨x1,x2,x3,x4,_⟩:=aG h3;have⟨y1,y2⟩:=aA h3;(have aJ:a7=A.Ac+E.length:=by rw[x2,w2]);(have aK:a6=X.map (·.1):=by rw[x3,w3,aP]);rw[aJ,aK];have aW:∀x∈X,isNum x.1=true:=λx I=>by
      rw[<-aI]at I;rcases AX.1 I with I|I
      ·exact h.AZ.de (aH x I)
      ·have:=H5 I;unfold isNum;simp;omega
     have aL:(X.map (·.1)).Pairwise (· < ·):=by
      rw[aP];refine EF.2 ⟨aE,OP,λa ha b hb=>?_⟩;obtain⟨x,I,rfl⟩:=Cl.1 ha;obtain⟨y,hy,rfl⟩:=Cl.1 hb;have k1:=h.AZ.dm (aH x I);have k2:=H5 hy;omega
     have aU:I9 bd ⟨A.j.Ac+1,X.map (·.1)⟩ X:=⟨⟨hn,λn hm=>by obtain⟨x,I,rfl⟩:=Cl.1 hm;exact aW x I,Jj.2 aL⟩,by have:=h.Er.2.1;dsimp only;omega,aO⟩;have aR:∀x∈X,((∀p∈x.2,Bm p)/\CG Cw x.2=true)/\∃c,aZ.fl (AG x.1)=some c/\Cb c/\c.1=AT (AI (AG x.1)) (Cp x.2):=λx I=>by
      rw[<-aI]at I;rcases AX.1 I with I|I
      ·exact t3.bw.CD x (aH x I)
      ·refine⟨hf _ (H5 I).2.2,?_⟩;(have hb:aZ.bs (AG x.1)=some (AT (AI (AG x.1)) (Cp x.2)):=by rw[x4.bs];exact w5 x I);have⟨c,k1,k2⟩:=IW hb;exact⟨c,k1,y1 x I c k1,k2⟩
     have aT:∀n,isNum n=true->A.j.Ac+1<=n->aZ.fl (Ah n)=none:=λn k1 k2=>by
      rw[y2 _ λx _=>Gm n x.1];rcases aB (Ah n) with e|e
      ·exact e
      ·rw[e];refine J0.1 ?_;rw[aF];cases I:P.bs (Ah n) with
       | none=>rfl
       | some c=>have:=h.AZ.F4.2.2 n k1 (by rw[I];simp);omega
     have aS:∃aY,∃c4,∃aM:Ar,(({A with AR:=[],Ac:=A.Ac+E.length}:Ar).an aZ (X.map (·.1)))=(c4,aM,aY)/\DI bd aY pd Ad o/\Reads bd aY pd o/\(c4=0->aM.j.An=[]/\∃W,Da bd aY.fl aM.ix W [] none pd Ad o/\W.map (·.1)=aM.ix.sd/\aM.ix.sd=X.map (·.1)/\C4 o (Ax W) pd):=by
      unfold Ar.an;dsimp only
      by_cases O:A.ix.Bd=A.j.Ac+1/\A.ix.sd=X.map (·.1)
      ·rw[Ai O];have aX:cl=[]:=by
        cases aX:cl with
        | nil=>rfl
        | cons x r=>
         (have I:x∈cl:=by rw[aX];exact BI ..);have k1:=h.AZ.F6.1 x I;have k2:=(h.AZ.CX x I).1.2;have:=O.1;omega
       have a5:ol=none:=by
        cases ol with
        | none=>rfl
        | some l=>have:=h.AZ.F6.2 (by simp);have:=O.1;omega
       subst aX a5;refine⟨aZ,0,_,rfl,d3,r3,λ_=>⟨?_,sg,t3,h.AZ.sd,O.2,?_⟩⟩
       ·have:=h.AZ.AB.2;simpa using this
       ·simpa[Ax,EY] using hall
      ·rw[Af O];have⟨u1,u2,u3⟩:=d3.dd t3 hall h.CE aU aR aT hs h.dQ;by_cases h4:(aZ.an (A.j.Ac+1) (X.map (·.1))).1=0
       ·rw[Af (nn h4)];exact⟨_,_,_,rfl,u1,u2,λ_=>⟨rfl,X,u3 h4,rfl,rfl,hs⟩⟩
       ·rw[Ai h4];exact⟨_,_,_,rfl,u1,u2,λz=>absurd z h4⟩
     obtain⟨aY,c4,aM,e4,d4,r4,k4⟩:=aS;rw[e4];dsimp only
     by_cases h4:c4=0
     ·rw[Af (nn h4)];have⟨j1,W,j2,j3,j4,j5⟩:=k4 h4;have⟨d5,t5⟩:=d4.az (A:=aM) j2 (by rw[j1];rfl) j3;unfold Ar.a8;generalize hP5:aM.az aY=S5 at d5 t5 ⊢;obtain⟨c5,a8⟩:=S5;dsimp only at d5 t5 ⊢;have r5:=(t5.bG (by simpa[Ax,EY] using j5) (by simp[Ax])).bA;by_cases h5:c5=0
      ·rw[Af (nn h5)];refine⟨_,rfl,⟨d5.eC,r5.aw (MY (Jg a8))⟩,λz=>?_⟩;have⟨s1,s2,s3,s4⟩:=Ri z;refine⟨s4,by dsimp only;rw[s1,s2],aM.ix,W,?_,by rw[j3,j4],j5⟩;dsimp only
       rw[Jg];exact t5
      ·rw[Ai h5];exact⟨_,rfl,⟨d5,r5⟩,λz=>absurd z h5⟩
     ·rw[Ai h4];exact⟨_,rfl,⟨d4,r4⟩,λz=>absurd z h4⟩
    ·rw[Ai h3];exact⟨_,rfl,⟨d3,r3⟩,λz=>absurd z h3⟩
   ·rw[Ai h2];exact⟨_,rfl,⟨d2,r2⟩,λz=>absurd z h2⟩
  ·rw[Ai h1];exact⟨_,rfl,h.dS,λz=>absurd z h1⟩
 obtain⟨t,ht,k1,k2⟩:=key;rw[ht]at Y ⊢;refine⟨k1,λz=>?_⟩;have⟨g1,g2,g3⟩:=Y z;have⟨m1,m2,a2,W,m3,m4,m5⟩:=k2 z;refine⟨⟨k1.1.Gh m2 (Holds.bG m3.bw (by simpa[Ax] using m5) (Ao _)),g2,⟨pd.length,Ao _,by rw[C5];simpa[Ax] using hs,by simp,λ_=>Ao _⟩,λm hm c hc=>.inr ?_,λl e=>(by cases e),by simp[Ax],⟨g2.DX,by rw[g1];have:=h.Er.2.1;dsimp only;omega,aO⟩,by rw[g1];exact h.Er.2.1,by rw[g1];exact aN⟩,g1,g3,m1⟩;rcases hm with rfl|⟨x,I,rfl⟩|⟨x,I,_⟩
 ·rcases m3.bw.IU with⟨q1,_⟩|⟨d,q1,q2,_⟩
  ·rw[q1]at hc;cases hc
  ·rw[q1]at hc;cases hc;exact q2
 ·have:x.1∈W.map (·.1):=by rw[m4];exact Ed I
  have⟨y,hy,e⟩:=Cl.1 this;have⟨_,d,q1,q2,_⟩:=m3.bw.CD y hy;rw[e]at q1;rw[q1]at hc;cases hc;exact q2
 ·cases I
end
section
variable{bd:Int×Int}{P P':PD}{A:Ar}{ix:Ix}{sg cl:gD (Int×gD Pu)}{lo:Option (Int×gD Pu)}{ol:Option (gD Pu)}{pd:gD Pu}{Ad:Nat}{o:Int}{wa:Int}
def SI.aS(h:SI bd A P pd Ad o sg cl ol)(hw:BZ (AE wa))(hn:isNum (A.j.Ac+1)=true){n:Nat}(hcount:(Bj sg cl ol).length<=n)(hn2:n<=1073741824)(hln:A.Ac+n<=4611686018427387904)(hlb:A.Ac+n<=bd.2)(hbig:A.AR.length+P.Az.length+A.j.An.length+2*sg.length<=1073741824):
 (DI bd (A.aS P wa).2.2 pd Ad o/\Reads bd (A.aS P wa).2.2 pd o)/\
  ((A.aS P wa).1=0->∃z,SI bd (A.aS P wa).2.1 (A.aS P wa).2.2 pd pd.length o z [] none/\(A.aS P wa).2.1=⟨⟨A.j.Ac+1,z.map (·.1)⟩,⟨[],A.j.Ac,0,none⟩,(A.aS P wa).2.1.Ac,[]⟩/\(A.aS P wa).2.1.Ac<=A.Ac+n/\(Ax z).length<=n/\z.length<=sg.length+n/\
    (∀m,(A.aS P wa).2.2.bs m≠none->m∈AJ::z.map λx=>AG x.1)/\(A.aS P wa).2.2.D.As=[]):=by
 have W:(Bj sg cl ol).length=(Ax sg).length+(Ax cl++ol.getD []).length:=by unfold Bj;rw[B3]
 have E:=h.AZ.pd h.CE;have d:=Ik hw (Ax cl++ol.getD []);generalize O:C3 wa (Ax cl++ol.getD [])=fe at d;have hfl:=HW d.ne;have hfl2:=d.Be;have hcost:=K8 fe;have e:A.aS P wa=A.aH P (sg.map (·.1)) fe:=by
  unfold Ar.aS;rw[E,Af (by simp),O,h.AZ.sd]
 have I:Ax (sg++C6 A.Ac fe)=Ax sg++fe.flatten:=by
  have:=@Lg fe A.Ac;unfold Ax at this ⊢;rw[W2,this]
 have L:C4 o (Ax (sg++C6 A.Ac fe)) pd:=by
  rw[I];refine C4.AH (C4.eR (λk t _=>?_) (λp E=>?_) ?_) h.Cy
  ·unfold Bj;rw[H6,H6,d.Ac]
  ·rcases AX.1 E with E|E
   ·exact G1 _ E
   ·exact HJ _ (d.DD p E)
  ·rw[W,B3];omega
 have⟨r1,r2⟩:=h.aH sg fe (λ_ h=>h) (Jj.1 (by rw[h.AZ.sd];exact h.AZ.DX.Fc)) (λl Y=>⟨λp E=>h.AZ.b4 p (d.DD p (KJ.2 ⟨l,Y,E⟩)),d.Fc Y⟩) hn (by omega) d.ne (by omega) L (by omega);rw[e];refine⟨r1,λX=>?_⟩;have⟨q1,q2,q3,q4⟩:=r2 X;refine⟨_,q1,by rw[q2],by rw[q2];dsimp only;omega,by rw[I,B3];omega,by rw[B3,MM];omega,q3,q4⟩
def SI.aN(h:SI bd A P pd Ad o sg cl ol)(hw:BZ (AE wa))(hn:isNum (A.j.Ac+1)=true){n:Nat}(hcount:(Bj sg cl ol).length<=n)(hn2:n<=1073741824)(hln:A.Ac+n<=4611686018427387904)(hlb:A.Ac+n<=bd.2)(hbig:A.AR.length+P.Az.length+A.j.An.length+2*sg.length<=1073741824):
 (DI bd (A.aN P wa o).2.2 pd Ad o/\Reads bd (A.aN P wa o).2.2 pd o)/\
  ((A.aN P wa o).1=0->∃aD,SI bd (A.aN P wa o).2.1 (A.aN P wa o).2.2 pd pd.length o aD [] none/\(A.aN P wa o).2.1=⟨⟨A.j.Ac+1,aD.map (·.1)⟩,⟨[],A.j.Ac,0,none⟩,(A.aN P wa o).2.1.Ac,[]⟩/\(A.aN P wa o).2.1.Ac<=A.Ac+n/\
    (aD.map (·.2)).Perm (Ec o (C3 wa (Bj sg cl ol)))/\(∀m,(A.aN P wa o).2.2.bs m≠none->m∈AJ::aD.map λx=>AG x.1)/\(A.aN P wa o).2.2.D.As=[]):=by
 have hl0:(Bj sg cl ol).length=(Ax sg).length+(Ax cl++ol.getD []).length:=by unfold Bj;rw[B3]
 have O:=h.AZ.pd h.CE;have d:=Ik hw (Bj sg cl ol);obtain⟨ws,aI⟩:∃ws,C3 wa (Bj sg cl ol)=ws:=⟨_,rfl⟩;rw[aI]at d;obtain⟨k0,aH⟩:∃k0,H7 sg o ws=k0:=⟨_,rfl⟩;obtain⟨L,aJ⟩:∃L,(BX sg o ws).2=L:=⟨_,rfl⟩;have z:=Lp sg o ws;rw[aH,aJ]at z;obtain⟨E,aK⟩:∃E,k0.mergeSort (λx y=>decide (x.1<=y.1))=E:=⟨_,rfl⟩;have aB:E.Perm k0:=by rw[<-aK];exact A4u _ _
 have aT:E.map (·.1)=((BX sg o ws).1).mergeSort λx y=>decide (x<=y):=by
  rw[Lq,aH,<-aK,A4z (s:=λx y:Int=>decide (x<=y))];intro a _ b _;rfl
 have W:∀x∈E,x∈sg/\x.2∈ws:=λx hx=>Lr (by rw[aH];exact aB.mem_iff.1 hx);have aQ:(Ec o ws).Nodup:=by
  have h1:(Ec o ws).Pairwise λw w'=>∀p∈w,∀q∈w',BH p.2.1 wa<BH q.2.1 wa:=d.LJ.sublist Hq;have X:∀w∈Ec o ws,w≠[]:=λw hw=>d.ne w (Nl hw);clear z;generalize Ec o ws=v at h1 X
  induction v with
  | nil=>simp
  | cons w r ih=>
   have aP:=Dk.1 h1;refine JR.2 ⟨λhm=>?_,ih aP.2 λx hx=>X x (BC _ hx)⟩;have⟨p,O⟩:=A4I w (X w (BI ..));have:=aP.1 w hm p O p O;omega
 have aO:(E.map (·.2)).Nodup:=by
  have h1:(k0.map (·.2)++L).Nodup:=z.nodup_iff.2 aQ;have X:=(Hb.1 h1).1;exact(aB.map (·.2)).nodup_iff.2 X
 have aM:(sg.map (·.1)).Pairwise (· < ·):=Jj.1 (by rw[h.AZ.sd];exact h.AZ.DX.Fc);have aF:∀x∈sg,∀y∈sg,x.1=y.1->x=y:=λx hx y hy e=>by
  obtain⟨i,hi,rfl⟩:=DG hx;obtain⟨j,hj,rfl⟩:=DG hy;have O:=JQ.1 aM;rcases Qh i j with Y|Y|Y
  ·have:=O i j (by simpa using hi) (by simpa using hj) Y;simp at this;omega
  ·subst Y;rfl
  ·have:=O j i (by simpa using hj) (by simpa using hi) Y;simp at this;omega
 have aA:(E.map (·.1)).Pairwise (· < ·):=by
  have h1:E.Pairwise λx y=>x.1<=y.1:=by
   have:=VU (le:=λx y:Int×gD Pu=>decide (x.1<=y.1)) (λa b c h1 X=>by simp at *;omega) (λa b=>by simp;omega) k0;rw[aK]at this;(exact this.imp λh=>by simpa using h)
  have X:E.Pairwise λx y=>x.2≠y.2:=KG.1 aO;rw[KG];have h3:=h1.and X;refine A4L (λ{a b} ha hb aN=>?_) h3;rcases A4P aN.1 with h|h
  ·exact h
  ·exact absurd (Ep Prod.snd (aF a (W a ha).1 b (W b hb).1 h)) aN.2
 have aE:∀l∈L,l∈ws:=λl hl=>Km (by rw[aJ];exact hl);have I:(Ax E++L.flatten).Perm (Ec o ws).flatten:=by
  have h1:(E.map (·.2)++L).Perm (Ec o ws):=((aB.map (·.2)).append_right _).trans z;have X:=h1.flatten;rw[W0]at X;have e:(E.map (·.2)).flatten=Ax E:=by unfold Ax;rw[NG]
  rwa [e]at X
 have hfl:L.length<=L.flatten.length:=HW λw hw=>d.ne w (aE w hw);have hcnt:L.flatten.length<=n:=by
  have h1:=I.length_eq;have X:(Ec o ws).flatten.length<=ws.flatten.length:=(JC _ ws).length_le;have h3:=d.Be;rw[B3]at h1;omega
 have hkl:E.length<=sg.length:=by
  have:(E.map (·.1)).length<=(sg.map (·.1)).length:=II (aA.imp λh=>Wi h) λx hx=>by
   obtain⟨y,hy,rfl⟩:=Cl.1 hx;exact Ed (W y hy).1
  simpa using this
 have hcost:=K8 L;have aG:∀p∈Bj sg cl ol,Bm p:=λp O=>by
  rcases AX.1 O with O|O
  ·exact h.AZ.dc p O
  ·exact h.AZ.b4 p O
 have e:A.aN P wa o=A.aH P (E.map (·.1)) L:=by
  unfold Ar.aN;rw[h.AZ.ck];dsimp only
  have e2:sg.flatMap (·.2)++(P.pd A.j.An).1=Bj sg cl ol:=by rw[O];rfl
  rw[e2,aI,<-aT,aJ,O,Af (by simp)]
 have aR:Ax (E++C6 A.Ac L)=Ax E++L.flatten:=by
  have:=@Lg L A.Ac;unfold Ax at this ⊢;rw[W2,this]
 have aS:C4 o (Ax (E++C6 A.Ac L)) pd:=by
  rw[aR];refine C4.AH (C4.eR (λk t ht=>?_) (λp O=>?_) ?_) h.Cy
  ·rw[<- (d.dr o).er I.symm k t,TW d o k t ht]
  ·exact d.DD p ((JC _ ws).subset (I.mem_iff.1 O))
  ·rw[I.length_eq];exact AP (JC _ ws).length_le d.Be
 have⟨r1,r2⟩:=h.aH E L (λx hx=>(W x hx).1) aA (λl hl=>⟨λp O=>aG p (d.DD p (KJ.2 ⟨l,aE l hl,O⟩)),d.Fc (aE l hl)⟩) hn (by omega) (λl hl=>d.ne l (aE l hl)) (by omega) aS (by omega);have aL:(C6 A.Ac L).map (·.2)=L:=by
  have aU:∀(l:gD (gD Pu)) (a:Int),(C6 a l).map (·.2)=l:=by
   intro l
   induction l with
   | nil=>intro a;rfl
   | cons x r ih=>intro a;simp[C6,ih]
  exact aU _ _
 rw[e,aI];refine⟨r1,λaG=>?_⟩;have⟨q1,q2,q3,q4⟩:=r2 aG;refine⟨_,q1,by rw[q2],by rw[q2];dsimp only;omega,?_,q3,q4⟩;rw[EG,aL];exact((aB.map (·.2)).append_right _).trans z
def ZW{l:gD Pu}(h:Ar.aU P=.ok (A,l)):A.j.Ac=(BU A.ix.Bd P.Az).getLastD (A.ix.Bd-1)/\A.Ac=(P.Az.filterMap λnm=>if (Bq nm).1=2 then some (Bq nm).2 else none).getLastD 0/\A.j.AB=none:=by
 unfold Ar.aU at h;split at h
 ·cases h
 ·split at h
  ·cases h
  ·split at h
   ·cases h
   ·split at h
    ·cases h
    ·cases h;exact⟨rfl,rfl,rfl⟩
def Uu{l:gD Int}{d b:Int}(h:∀x∈l,x<=b)(z:d<=b):l.getLastD d<=b:=by
 rcases M7 l with rfl|⟨r,x,rfl⟩
 ·exact z
 ·have e:(r.concat x).getLastD d=x:=by rw[KL];simp
  rw[e];exact h x (by simp)
def DI.fi(h:DI bd P pd Ad o)(I:0<=bd.2){l:gD Pu}(E:Ar.aU P=.ok (A,l))(hx:A.ix.Bd<=bd.1+1):A.j.Ac<=bd.1/\A.Ac<=bd.2:=by
 have⟨h1,h2,_⟩:=ZW E;have z:∀nm∈P.Az,FI bd nm:=λnm d=>h.Az nm λe=>Hw.1 d (J0.2 e);rw[h1,h2];refine⟨Uu (λx d=>?_) (by omega),Uu (λx d=>?_) I⟩
 ·unfold BU at d;have⟨nm,hm2,e⟩:=M0.1 d;split at e
  ·rename_i q;cases e;exact(z nm hm2).2.1 q.1
  ·cases e
 ·have⟨nm,hm2,e⟩:=M0.1 d;split at e
  ·rename_i q;cases e;exact(z nm hm2).2.2 q
  ·cases e
def AK.aU{P Q:PD}(h:AK P Q):Ar.aU P=Ar.aU Q:=by
 unfold Ar.aU PD.bb PD.bX Ar.aY;simp only[h.aZ,h.Az,h.sd,h.pd]
def SI.aU(O:DI bd P pd Ad o)(h0:0<=bd.2)(hr:Reads bd P pd o)(E:Ad<=pd.length)(hpl:pd.length<=1099511627776):
 ∃A' sg cl,Ar.aU P=.ok (A',Bj sg cl none)/\SI bd A' P pd Ad o sg cl none/\C4 o (Bj sg cl none) pd/\A'.AR=A'.aY P:=by
 obtain⟨A,sg,cl,ol,hL,hs,I⟩:=hr;have h:=hs.2.2;unfold Bj at h;rw[B3,B3]at h;have X:(Ax cl).length+(ol.getD []).length<=1099511627776:=by omega
 have aA:=hL.aw λm=>((AK.aQ P).bs m).symm
 have⟨A',h1,h2,h3,h4,h5,h6⟩:=aA.aU O.bk.aQ (by omega);have d:=(AK.aQ P).aU;have hc:A'.aY P.aQ=A'.aY P:=rfl;have z:=h2.aw λm=>(AK.aQ P).bs m
 have hall:Bj sg (shut cl A.j.Ac ol) none=Bj sg cl ol:=by unfold Bj;rw[Oc];simp
 have L:C4 o (Bj sg (shut cl A.j.Ac ol) none) pd:=by rw[hall];exact hs
 refine⟨A',sg,_,by rw[d,hall];exact h1,⟨O,z,⟨pd.length,Ao _,by rw[C5];simpa[Bj] using L,by simp,λ_=>E⟩,λm hm c W=>.inl ?_,λl e=>(by cases e),by rw[Oc,B3];exact X,by rw[h3];exact I,O.fi h0 (by rw[d];exact h1) (by rw[h3];exact I.2.1)⟩,L,by rw[h6,hc]⟩;rw[h6,hc];unfold Ar.aY;refine GV.2 ⟨Hw.2 (by rw[Q4 W];simp),?_⟩;simp only[E2];unfold Ar.Az;rcases hm with rfl|⟨x,Y,rfl⟩|⟨x,Y,rfl⟩
 ·simp
 ·refine HJ _ (Ed ?_);rw[<-z.sd];exact Ed Y
 ·refine G1 _ (BC _ (Ed ?_));rw[z.AB.2];exact Ed Y
end
def DQ(a b:Int):Prop:=a=5\/a=6\/a=b
section
variable{P Q:PD}{N R:Nat}{A:Ar}{J:Jn}
def T7{nm:gC}(h:AK P Q)(z:Cm Q (N+1) R):DQ (P.au nm).1 (Q.au nm).1:=by
 have:=HE P.D.n;unfold PD.au CV;rw[h.A6];by_cases d:nm=ByteArray.empty\/B9 Q.D.A6 nm≥0
 ·rw[Ai d,Ai d];exact .inr (.inr rfl)
 ·rw[Af d,Af d];dsimp only
  rw[z.bg];rcases this with e|e
  ·exact .inr (.inr e)
  ·exact .inl e
def OJ{nm:gC}(h:AK P Q)(d:Cm Q (N+1) R):DQ (P.ad nm).1 (Q.ad nm).1:=by
 have:=HE P.D.n;unfold PD.ad CN;rw[h.A6];cases lookup Q.D.A6 nm with
 | none=>exact .inr (.inr rfl)
 | some f=>
  dsimp only
  rw[d.bg];rcases this with e|e
  ·exact .inr (.inr e)
  ·exact .inl e
def T0(d:Cm Q (N+1) R):DQ P.aJ.1 Q.aJ.1:=by
 have:=HE P.D.n;unfold PD.aJ E9;dsimp only
 rw[d.bg];rcases this with e|e
 ·exact .inr (.inr e)
 ·exact .inl e
def ZF{nm:gC}(h:AK P Q)(z:Cm Q (N+1) R):DQ (P.aG nm).1 (Q.aG nm).1:=by
 have:=HE P.D.n;unfold PD.aG Dx;rw[h.A6];by_cases d:B9 Q.D.A6 nm<0
 ·rw[Ai d,Ai d];exact .inr (.inr rfl)
 ·rw[Af d,Af d];dsimp only
  rw[z.bg];rcases this with e|e
  ·exact .inr (.inr e)
  ·exact .inl e
def ZE{oe nm:gC}(h:AK P Q)(z:Cm Q (N+1) R):DQ (P.aR oe nm).1 (Q.aR oe nm).1:=by
 have:=HE P.D.n;unfold PD.aR D8;rw[h.A6];cases lookup Q.D.A6 oe with
 | none=>exact .inr (.inr rfl)
 | some f=>
  dsimp only
  by_cases d:nm=ByteArray.empty
  ·rw[Ai d,Ai d];exact .inr (.inr rfl)
  ·rw[Af d,Af d];dsimp only
   rw[z.bg];rcases this with e|e
   ·exact .inr (.inr e)
   ·exact .inl e
def or_append{nm:gC}{l:Bs}(h:AK P Q)(X:Cm Q (N+1) R)(O:l.length<=R):DQ (P.av nm l).1 (Q.av nm l).1:=by
 by_cases d:(P.av nm l).1=0
 ·exact .inr (.inr (by rw[d,(h.av X O d).1]))
 ·have L:=HE P.D.n;have z:∀D F f x n0,∀e:Int,e=0\/e=5->(BP D F f x n0 e).1=5\/(BP D F f x n0 e).1=6\/(BP D F f x n0 e).1=0:=λD F f x n0 e W=>by
   unfold BP;rcases W with rfl|rfl
   ·split
    ·exact .inr (.inl rfl)
    ·exact .inr (.inr rfl)
   ·split
    ·exact .inl rfl
    ·exact .inl rfl
  unfold PD.av BA at d ⊢;rw[h.A6]at d ⊢;cases hx:lookup Q.D.A6 nm with
  | none=>exact .inr (.inr rfl)
  | some f=>
   rw[hx]at d;dsimp only at d ⊢;split at d
   ·rename_i I;rw[Ai I];rcases z {A6:=Q.D.A6,AF:=P.D.AF,As:=P.D.As,n:=(bg P.D.n).2.2} P.F f (Ab l) (Ab l).size _ L with e|e|e
    ·exact .inl e
    ·exact .inr (.inl e)
    ·exact absurd e d
   ·rename_i I;rw[Af I];split at d
    ·rename_i E;rw[Ai E];rcases z {A6:=Q.D.A6,AF:=P.D.AF,As:=P.D.As,n:=(bg P.D.n).2.2} P.F f (Ab l) ((bg P.D.n).2.2.BG % (Ab l).size) _ L with e|e|e
     ·exact .inl e
     ·exact .inr (.inl e)
     ·exact absurd e d
    ·rename_i E;rw[Af E];rcases L with e|e
     ·exact absurd e d
     ·exact .inl e
def OL{nm:Bs}{s:Nat}{l:Bs}(h:AK P Q)(z:Cm Q (N+1) R)(d:l.length+4<=R):DQ (P.af (Ab nm) s l).2.1 (Q.af (Ab nm) s l).2.1:=or_append (l:=AT s l) h z (by rw[EJ];exact d)
def DQ.br{a b:Int}(h:DQ a b)(ha:¬a=0){c:Int}(d:b≠0->c=b):DQ a c:=by
 rcases h with e|e|e
 ·exact .inl e
 ·exact .inr (.inl e)
 ·exact .inr (.inr (by rw[d (by omega)];exact e))
def SZ{nm:Bs}{s:Nat}{l:Bs}(h:AK P Q)(L:Cm Q (N+3) R)(I:l.length+4<=R):DQ (P.aI nm s l).1 (Q.aI nm s l).1:=by
 unfold PD.aI;by_cases z:(P.au (Ab nm)).1=0
 ·have⟨a1,a2,a3⟩:=h.au (N:=N+2) L z;rw[Af (nn z),Af (nn a1)];by_cases d:((P.au (Ab nm)).2.af (Ab nm) s l).2.1=0
  ·obtain⟨-,O,W,X⟩:=a2.b1 (N:=N+1) (nm:=nm) (s:=s) (l:=l) a3 I d;rw[Af (nn d),Af (nn O)];exact OJ W X
  ·rw[Ai d];refine(OL (N:=N+1) a2 a3 I).br d λE=>?_;rw[Ai E]
 ·rw[Ai z];refine(T7 (N:=N+2) h L).br z λE=>?_;rw[Ai E]
def T1:∀(l:gD Bs) {P Q:PD},AK P Q->Cm Q (N+l.length) R->DQ (PD.ay l P).1 (PD.ay l Q).1
 | [],_,_,_,_=>.inr (.inr rfl)
 | nm::r,P,Q,h,hc=>by
  have d:Cm Q (N+r.length+1) R:=hc.ai (by simp;omega) (Ao _);unfold PD.ay;by_cases z:(P.ad (Ab nm)).1=0
  ·have⟨a1,a2,a3⟩:=h.ad d z;rw[Af (nn z),Af (nn a1)];exact T1 r a2 a3
  ·rw[Ai z];refine(OJ h d).br z λE=>?_;rw[Ai E]
def T4:∀(l:gD Bs) {P Q:PD},AK P Q->Cm Q (N+l.length) R->DQ (PD.aO l P).1 (PD.aO l Q).1
 | [],_,_,_,_=>.inr (.inr rfl)
 | nm::r,P,Q,h,hc=>by
  have d:Cm Q (N+r.length+1) R:=hc.ai (by simp;omega) (Ao _);unfold PD.aO;by_cases z:(P.aG (Ab nm)).1=0
  ·have⟨a1,a2,a3⟩:=h.aG d z;rw[Af (nn z),Af (nn a1)];exact T4 r a2 a3
  ·rw[Ai z];refine(ZF h d).br z λE=>?_;rw[Ai E]
def OK(h:AK P Q)(z:Cm Q (N+A.AR.length) R):DQ (A.I P).1 (A.I Q).1:=by
 unfold Ar.I;by_cases d:(PD.ay A.AR P).1=0
 ·have⟨a1,_⟩:=AK.ay A.AR h z d;rw[Af (nn d),Af (nn a1)];exact .inr (.inr rfl)
 ·rw[Ai d];refine(T1 A.AR h z).br d λE=>?_;rw[Ai E]
def T2(h:AK P Q)(d:Cm Q (N+(A.aV Q).length) R):DQ (A.az P).1 (A.az Q).1:=by
 unfold Ar.az;rw[h.aV];exact T4 _ h d
def ZK(h:AK P Q)(I:Cm Q (N+2) R)(hR:12<=R):DQ (J.ax P).1 (J.ax Q).1:=by
 unfold Jn.ax;by_cases z:(P.au (Ab (Ah (J.Ac+1)))).1=0
 ·have⟨a1,a2,a3⟩:=h.au (N:=N+1) I z;rw[Af (nn z),Af (nn a1)];dsimp only
  by_cases d:((P.au (Ab (Ah (J.Ac+1)))).2.af (Ab (Ah (J.Ac+1))) (AI (Ah (J.Ac+1))) (AQ J.pd)).2.1=0
  ·obtain⟨-,L,_⟩:=a2.b1 (N:=N) (nm:=Ah (J.Ac+1)) (s:=AI (Ah (J.Ac+1))) (l:=AQ J.pd) a3 (by rw[CP];omega) d;rw[Af (nn d),Af (nn L)];exact .inr (.inr rfl)
  ·rw[Ai d];refine(OL (N:=N) a2 a3 (by rw[CP];omega)).br d λE=>?_;rw[Ai E]
 ·rw[Ai z];refine(T7 (N:=N+1) h I).br z λE=>?_;rw[Ai E]
def T5(h:AK P Q)(d:Cm Q (N+1) R)(hR:21<=R)(p:Pu):DQ (J.aF P p).2.1 (J.aF Q p).2.1:=by
 unfold Jn.aF;cases J.AB with
 | none=>exact .inr (.inr rfl)
 | some x=>exact OL h d (by rw[FB];omega)
def ZI(h:AK P Q)(z:Cm Q (N+3) R)(hR:33<=R)(p:Pu):DQ (J.af P p).2.1 (J.af Q p).2.1:=by
 unfold Jn.af;split
 ·by_cases d:(J.ax P).1=0
  ·have⟨a1,a2,a3,a4⟩:=h.ax (N:=N+1) z (by omega) d;rw[Af (nn d),Af (nn a1),a2];exact T5 a3 a4 (by omega) p
  ·rw[Ai d];refine(ZK (N:=N+1) h z (by omega)).br d λE=>?_;rw[Ai E]
 ·exact T5 (N:=N+2) h z (by omega) p
def ZN(h:AK P Q)(L:Cm Q (N+A.AR.length+3) R)(I:33<=R)(p:Pu):DQ (A.af P p).2.1 (A.af Q p).2.1:=by
 have d:Cm Q (N+3+A.AR.length) R:=L.ai (by omega) (Ao _);unfold Ar.af;by_cases z:(A.I P).1=0
 ·have⟨a1,a2,a3,a4⟩:=h.I d z;rw[Af (nn z),Af (nn a1),a2];exact ZI a3 a4 I p
 ·rw[Ai z];refine(OK h d).br z λE=>?_;rw[Ai E]
def ZH(h:AK P Q)(d:Cm Q (N+1) R):DQ (J.ad P).1 (J.ad Q).1:=by
 unfold Jn.ad;cases J.AB with
 | none=>exact .inr (.inr rfl)
 | some x=>exact OJ h d
def ZM(h:AK P Q)(L:Cm Q (N+A.AR.length+2) R):DQ (A.ad P).1 (A.ad Q).1:=by
 have d:Cm Q (N+2+A.AR.length) R:=L.ai (by omega) (Ao _);unfold Ar.ad;by_cases E:(A.I P).1=0
 ·have⟨a1,a2,a3,a4⟩:=h.I d E;rw[Af (nn E),Af (nn a1),a2];by_cases z:((A.I Q).2.1.j.ad (A.I P).2.2).1=0
  ·have⟨b1,b2,b3⟩:=a3.fk (N:=N+1) a4 z;rw[Af (nn z),Af (nn b1)];exact T0 b3
  ·rw[Ai z];refine(ZH (N:=N+1) a3 a4).br z λI=>?_;rw[Ai I]
 ·rw[Ai E];refine(OK h d).br E λI=>?_;rw[Ai I]
def T6:∀(O:gD (gD Pu)) (d:Int) (I:gD Int) {P Q:PD},AK P Q->Cm Q (N+3*O.length) (R+Ds O)->DQ (PD.aq O d I P).1 (PD.aq O d I Q).1
 | [],_,_,_,_,_,_=>.inr (.inr rfl)
 | l::r,d,I,P,Q,h,hc=>by
  have E:Ds (l::r)=(17*l.length+4)+Ds r:=by simp[Ds]
  have hpl:(Cp l).length=17*l.length:=IF l;have L:Cm Q (N+3*r.length+3) (R+Ds r+((Cp l).length+4)):=hc.ai (by simp;omega) (by rw[E];omega);have z:∀X:PD,PD.aq (l::r) d I X=if (X.aK (d+1) l).1≠0 then ((X.aK (d+1) l).1,d+1,I,(X.aK (d+1) l).2) else PD.aq r (d+1) (I++[d+1]) (X.aK (d+1) l).2:=λ_=>rfl
  rw[z,z];by_cases W:(P.aK (d+1) l).1=0
  ·have⟨a1,a2,a3⟩:=AK.aI (N:=N+3*r.length) h L (by omega) W;have Y:(Q.aK (d+1) l).1=0:=a1;rw[Af (nn W),Af (nn Y)];exact T6 r (d+1) _ a2 (a3.ai (Ao _) (by omega))
  ·rw[Ai W];refine(SZ (N:=N+3*r.length) h L (by omega)).br W λhq=>?_;have aA:(Q.aK (d+1) l).1≠0:=hq;rw[Ai aA];rfl
def ZG{d:Int}{sd:gD Int}(h:AK P Q)(E:Cm Q (N+4) R)(hR:12+8*sd.length<=R):DQ (P.an d sd).1 (Q.an d sd).1:=by
 have hl:(Cn d sd).length=8+8*sd.length:=by unfold Cn;rw[B3,CP,JE]
 unfold PD.an;by_cases z:(P.aI Bw (AI AJ) (Cn d sd)).1=0
 ·have⟨a1,a2,a3⟩:=h.aI (N:=N+1) E (by omega) z;rw[Af (nn z),Af (nn a1)];exact ZE a2 a3
 ·rw[Ai z];refine(SZ (N:=N+1) h E (by omega)).br z λI=>?_;rw[Ai I]
def ZL{sd:gD Int}(h:AK P Q)(E:Cm Q (N+4) R)(z:12+8*sd.length<=R):DQ (A.an P sd).1 (A.an Q sd).1:=by
 unfold Ar.an;split
 ·exact .inr (.inr rfl)
 ·by_cases d:(P.an (A.j.Ac+1) sd).1=0
  ·have⟨a1,_⟩:=h.dd E z d;rw[Af (nn d),Af (nn a1)];exact .inr (.inr rfl)
  ·rw[Ai d];refine(ZG h E z).br d λI=>?_;rw[Ai I]
def ZJ(h:AK P Q)(I:Cm Q (N+(A.aV Q).length+1) R):DQ (A.a8 P).1 (A.a8 Q).1:=by
 have d:Cm Q (N+1+(A.aV Q).length) R:=I.ai (by omega) (Ao _);unfold Ar.a8;by_cases z:(A.az P).1=0
 ·have⟨a1,a2,a3⟩:=h.az d z;rw[Af (nn z),Af (nn a1)];exact T0 a3
 ·rw[Ai z];refine(T2 h d).br z λE=>?_;rw[Ai E]
def T3(h:AK P Q)(z:gD Int)(d:gD (gD Pu))(hc:Cm Q (N+A.AR.length+2*Q.dl+4*d.length+8) (R+Ds d+12+8*(z.length+d.length))):DQ (A.aH P z d).1 (A.aH Q z d).1:=by
 have Y:Cm Q (N+2*Q.dl+4*d.length+8+A.AR.length) (R+Ds d+12+8*(z.length+d.length)):=hc.ai (by omega) (Ao _);unfold Ar.aH;dsimp only
 by_cases h1:(A.I P).1=0
 ·have⟨a1,a2,a3,a4⟩:=h.I Y h1;rw[Af (nn h1),Af (nn a1),a2];have d1:(A.I Q).2.2.dl=Q.dl:=by unfold Ar.I;split<;>exact PG _ _
  have o1:=MJ (A.I Q).2.1 (A.I Q).2.2;have L:Cm (A.I Q).2.2 (N+Q.dl+4*d.length+8+((A.I Q).2.1.aV (A.I Q).2.2).length) (R+Ds d+12+8*(z.length+d.length)):=a4.ai (by omega) (Ao _);by_cases h2:((A.I Q).2.1.az (A.I P).2.2).1=0
  ·have⟨b1,b2,b3⟩:=a3.az L h2;(have d2:((A.I Q).2.1.az (A.I Q).2.2).2.dl<=Q.dl:=by rw[<-d1];exact PH _ _);rw[Af (nn h2),Af (nn b1)];have X:Cm ((A.I Q).2.1.az (A.I Q).2.2).2 (N+Q.dl+d.length+8+3*d.length) (R+12+8*(z.length+d.length)+Ds d):=b3.ai (by omega) (by omega);by_cases h3:(PD.aq d (A.I Q).2.1.Ac z ((A.I Q).2.1.az (A.I P).2.2).2).1=0
   ·have⟨c1,c2,c3,c4,c5⟩:=AK.aq d (A.I Q).2.1.Ac z b2 X h3;have⟨d3,d4⟩:=N5 d (A.I Q).2.1.Ac z ((A.I Q).2.1.az (A.I Q).2.2).2;rw[Af (nn h3),Af (nn c1),c2,c3];obtain⟨O,aE⟩:∃O:Ar,({ (A.I Q).2.1 with Ac:=(PD.aq d (A.I Q).2.1.Ac z ((A.I Q).2.1.az (A.I Q).2.2).2).2.1}:Ar)=O:=⟨_,rfl⟩;rw[aE];obtain⟨sg,aD⟩:∃sg,(PD.aq d (A.I Q).2.1.Ac z ((A.I Q).2.1.az (A.I Q).2.2).2).2.2.1=sg:=⟨_,rfl⟩;rw[aD]at d4 ⊢;obtain⟨aF,W⟩:∃aF,(PD.aq d (A.I Q).2.1.Ac z ((A.I Q).2.1.az (A.I P).2.2).2).2.2.2=aF:=⟨_,rfl⟩;obtain⟨aA,E⟩:∃aA,(PD.aq d (A.I Q).2.1.Ac z ((A.I Q).2.1.az (A.I Q).2.2).2).2.2.2=aA:=⟨_,rfl⟩;rw[W]at c4;rw[W,E];rw[E]at c4 c5 d3;clear W E aE aD h3 c1 c2 c3 h2 b1 b2 b3 h1 a1 a2 a3 a4 Y L X;have aB:Cm aA (N+Q.dl+d.length+4+4) (R+12+8*(z.length+d.length)):=c5.ai (by omega) (Ao _);by_cases h4:(O.an aF sg).1=0
    ·have⟨e1,e2,e3,e4⟩:=c4.cD (A:=O) (sd:=sg) aB (by omega) h4;have d5:=UH O aA sg;rw[Af (nn h4),Af (nn e1),e2];have o2:=MJ (O.an aA sg).2.1 (O.an aA sg).2.2;exact ZJ (N:=N) e3 (e4.ai (by omega) (Ao _))
    ·rw[Ai h4];refine(ZL c4 aB (by omega)).br h4 λI=>?_;rw[Ai I]
   ·rw[Ai h3];refine(T6 d (A.I Q).2.1.Ac z b2 X).br h3 λI=>?_;rw[Ai I]
  ·rw[Ai h2];refine(T2 a3 L).br h2 λI=>?_;rw[Ai I]
 ·rw[Ai h1];refine(OK h Y).br h1 λI=>?_;rw[Ai I]
end
section
variable{bd:Int×Int}{P P':PD}{A:Ar}{sg cl:gD (Int×gD Pu)}{ol:Option (gD Pu)}{pd:gD Pu}{Ad:Nat}{o:Int}
def DQ.cP{a b:Int}(h:DQ a b)(d:b=0):a=0\/a=5\/a=6:=by
 rcases h with e|e|e
 ·exact .inr (.inl e)
 ·exact .inr (.inr e)
 ·exact .inl (e.trans d)
def SI.fh(h:SI bd A P pd Ad o sg cl ol)(E:ol=none->isNum (A.j.Ac+1)=true)(p:Pu)(z:Bm p)(hll:A.AR.length<=1099511627776):(A.af P p).2.1=0\/(A.af P p).2.1=5\/(A.af P p).2.1=6:=by
 have d:Cm P.aQ (0+A.AR.length+3) 33:=h.di.bk.aQ.ai (by omega) (by omega);refine(ZN (AK.aQ P) d (Ao _) p).cP ?_;exact((h.AZ.aw (P':=P.aQ) λm=>((AK.aQ P).bs m).symm).af d E p z (Ao _)).2.1
def SI.gq(h:SI bd A P pd Ad o sg cl ol)(hll:A.AR.length<=1099511627776):(A.ad P).1=0\/(A.ad P).1=5:=by
 have d:Cm P.aQ (0+A.AR.length+2) 0:=h.di.bk.aQ.ai (by omega) (by omega);have:=(ZM (AK.aQ P) d).cP ((h.AZ.aw (P':=P.aQ) λm=>((AK.aQ P).bs m).symm).ad d).1;have h6:=Vl A P;omega
def SI.gj{wa:Int}(h:SI bd A P pd Ad o sg cl ol)(L:BZ (AE wa))(hn:isNum (A.j.Ac+1)=true){n:Nat}(hcount:(Bj sg cl ol).length<=n)(hn2:n<=1073741824)(z:A.Ac+n<=4611686018427387904)(hbig:A.AR.length+P.Az.length+A.j.An.length+2*sg.length<=1073741824):(A.aS P wa).1=0\/(A.aS P wa).1=5\/(A.aS P wa).1=6:=by
 have hl0:(Bj sg cl ol).length=(Ax sg).length+(Ax cl++ol.getD []).length:=by unfold Bj;rw[B3]
 have X:=h.AZ.aw (P':=P.aQ) λm=>((AK.aQ P).bs m).symm
 have O:=h.di.bk.aQ;have I:P.aQ.Az.length<=1073741824:=by
  have e:P.aQ.Az=P.Az:=rfl;rw[e];omega
 have W:=(X.aS L (N:=0) (R:=0) (K:=1073741824) (n:=n) (by omega) (by omega) I (by omega) (by omega) (by omega) (O.ai (by omega) (by omega)) hn z).1;refine DQ.cP (b:=(A.aS P.aQ wa).1) ?_ W;have Y:=h.AZ.pd h.CE;have d:=Ik L (Ax cl++ol.getD []);have hfl:=HW d.ne;have hfl2:=d.Be;have hcost:=K8 (C3 wa (Ax cl++ol.getD []));have hsg:A.ix.sd.length=sg.length:=by rw[<-h.AZ.sd,Fq]
 have E:P.aQ.dl=P.Az.length:=by rw[IZ];rfl
 unfold Ar.aS;rw[<- (AK.aQ P).pd,Y,Af (by simp),Af (by simp)];exact T3 (N:=0) (R:=0) (AK.aQ P) _ _ (O.ai (by rw[E];dsimp only;omega) (by dsimp only;omega))
def SI.ga{wa:Int}(h:SI bd A P pd Ad o sg cl ol)(hw:BZ (AE wa))(hn:isNum (A.j.Ac+1)=true){n:Nat}(z:(Bj sg cl ol).length<=n)(hn2:n<=1073741824)(W:A.Ac+n<=4611686018427387904)(hbig:A.AR.length+P.Az.length+A.j.An.length+2*sg.length<=1073741824):(A.aN P wa o).1=0\/(A.aN P wa o).1=5\/(A.aN P wa o).1=6:=by
 have hl0:(Bj sg cl ol).length=(Ax sg).length+(Ax cl++ol.getD []).length:=by unfold Bj;rw[B3]
 have hL:=h.AZ.aw (P':=P.aQ) λm=>((AK.aQ P).bs m).symm
 have hc:Cm P.aQ 4611686018427387904 4611686018427387904:=h.di.bk.aQ;have Y:P.aQ.Az.length<=1073741824:=by
  have e:P.aQ.Az=P.Az:=rfl;rw[e];omega
 have hq:=(hL.aN (od:=o) hw (N:=0) (R:=0) (K:=1073741824) (n:=n) z (by omega) Y (by omega) (by omega) (by omega) (hc.ai (by omega) (by omega)) hn W).1;refine DQ.cP (b:=(A.aN P.aQ wa o).1) ?_ hq;have hp:=h.AZ.pd h.CE;have E:=Ik hw (Bj sg cl ol);have hfl2:=E.Be;have d:=Lp sg o (C3 wa (Bj sg cl ol));have O:=d.length_eq;have L:=d.flatten.length_eq;have hal:(Ec o (C3 wa (Bj sg cl ol))).length<=(C3 wa (Bj sg cl ol)).length:=KK _ _;have I:=(JC (λl=>l.any λp=>decide (o<=p.2.1)) (C3 wa (Bj sg cl ol))).length_le;have haf2:(Ec o (C3 wa (Bj sg cl ol))).flatten.length<=(C3 wa (Bj sg cl ol)).flatten.length:=I;have hfl:=HW E.ne;have hcost:=K8 (BX sg o (C3 wa (Bj sg cl ol))).2;rw[B3,Fq]at O;rw[W0,B3]at L;have hks:(BX sg o (C3 wa (Bj sg cl ol))).1.length=(H7 sg o (C3 wa (Bj sg cl ol))).length:=by rw[Lq,Fq]
 have X:P.aQ.dl=P.Az.length:=by rw[IZ];rfl
 unfold Ar.aN;rw[<- (AK.aQ P).sd,h.AZ.ck];dsimp only
 have e2:sg.flatMap (·.2)++(P.pd A.j.An).1=Bj sg cl ol:=by rw[hp];rfl
 rw[<- (AK.aQ P).pd,e2,hp,Af (by simp),Af (by simp)];exact T3 (N:=0) (R:=0) (AK.aQ P) _ _ (hc.ai (by rw[X];omega) (by rw[Qo];omega))
end
def Im(n:DN):(bg n).2.2.Av=n.Av:=by
 unfold bg;dsimp only
 split
 ·rfl
 ·split
  ·rfl
  ·split<;>rfl
def O2{F G:Nat->FC}:∀ {es:gD AO},(∀e∈es,(G e.2).1.length=(F e.2).1.length)->AU G es=AU F es
 | [],_=>rfl
 | e::r,h=>by
  simp only[AU];rw[h e (BI ..),O2 λx d=>h x (BC _ d)]
section
variable{P P':PD}{A:Ar}{J:Jn}{nm:Bs}
def QY(d:Extra P nm P'):AU P'.F P'.D.A6<=AU P.F P.D.A6+(P'.F P.D.AV).1.length:=by
 have oe:AU P'.F P.D.A6=AU P.F P.D.A6:=O2 λe z=>by
  rw[d.EC _ λh=>P.D.cC (h ▸ .inl ⟨e,z,rfl⟩)]
 rcases d.da with⟨d1,_⟩|⟨_,d1,_⟩
 ·rw[d1,oe];omega
 ·rw[d1,L1,oe];simp[AU]
def QX(P:PD)(x:gC):AU (P.ad x).2.F (P.ad x).2.D.A6=AU P.F P.D.A6:=by
 unfold PD.ad CN;split
 ·rfl
 ·dsimp only
  refine O2 λe _=>?_;split
  ·unfold upd;split
   ·rename_i h;rw[h]
   ·rfl
  ·rfl
def QW:∀(l:gD Bs) (P:PD),AU (PD.ay l P).2.F (PD.ay l P).2.D.A6=AU P.F P.D.A6
 | [],_=>rfl
 | nm::r,P=>by
  unfold PD.ay;split
  ·exact QX P _
  ·rw[QW r,QX]
def WX(A:Ar)(P:PD):AU (A.I P).2.2.F (A.I P).2.2.D.A6=AU P.F P.D.A6:=by
 unfold Ar.I;split<;>exact QW _ P
def Mv(P:PD)(x:gC):(P.ad x).2.D.n.Av=P.D.n.Av:=by
 unfold PD.ad CN;split
 ·rfl
 ·exact Im _
def RQ:∀(l:gD Bs) (P:PD),(PD.ay l P).2.D.n.Av=P.D.n.Av
 | [],_=>rfl
 | nm::r,P=>by
  unfold PD.ay;split
  ·exact Mv P _
  ·rw[RQ r,Mv]
def K9(A:Ar)(P:PD):(A.I P).2.2.D.n.Av=P.D.n.Av:=by
 unfold Ar.I;split<;>exact RQ _ P
def Ka(P:PD)(x:gC):(P.au x).2.D.n.Av=P.D.n.Av:=by
 unfold PD.au CV;split
 ·rfl
 ·dsimp only
  split<;>exact Im _
def RW(P:PD)(x:gC)(l:Bs):(P.av x l).2.D.n.Av=P.D.n.Av:=by
 have d:∀D F f y n0 e,(BP D F f y n0 e).2.1.n.Av=D.n.Av:=λD F f y n0 e=>by
  unfold BP;split
  ·dsimp only;split<;>rfl
  ·rfl
 unfold PD.av BA;split
 ·rfl
 ·dsimp only
  split
  ·rw[d];exact Im _
  ·split
   ·rw[d];exact Im _
   ·exact Im _
def Om(J:Jn)(P:PD):(J.ax P).2.2.D.n.Av=P.D.n.Av:=by
 unfold Jn.ax;split
 ·exact Ka P _
 ·dsimp only
  have h:((P.au (Ab (Ah (J.Ac+1)))).2.af (Ab (Ah (J.Ac+1))) (AI (Ah (J.Ac+1))) (AQ J.pd)).2.2.D.n.Av=P.D.n.Av:=(RW _ _ _).trans (Ka P _);split<;>exact h
def Vn{x:gC}{l:Bs}(h:(P.av x l).1=6):P.D.n.Av-AU P.F P.D.A6<l.length:=by
 have L:=HE P.D.n;have d:∀D n0,∀e:Int,e=0\/e=5->(BP D P.F 0 (Ab l) n0 e).1=6->e=0/\n0>Gn D P.F:=λD n0 e he h=>by
  unfold BP at h;split at h
  ·rename_i z;dsimp only at h;split at h
   ·rename_i W;exact⟨W,z⟩
   ·omega
  ·dsimp only at h;omega
 have O:∀D f n0 e,(BP D P.F f (Ab l) n0 e).1=(BP D P.F 0 (Ab l) n0 e).1:=λD f n0 e=>by unfold BP;split<;>rfl
 have I:((Ab l).size:Int)=l.length:=by rw[Li]
 unfold PD.av BA at h;split at h
 ·cases h
 ·rename_i f hf;dsimp only at h;split at h
  ·rw[O]at h;have⟨_,z⟩:=d _ _ _ L h;unfold Gn at z;dsimp only at z;rw[Im,I]at z;omega
  ·rename_i E;split at h
   ·rw[O]at h;have⟨h0,_⟩:=d _ _ _ L h;exact absurd (Hi h0) E
   ·omega
def A2r(P:PD)(x:gC):(P.au x).1≠6:=by
 have:=HE P.D.n;unfold PD.au CV;split
 ·simp
 ·dsimp only;omega
def A3B(h:(J.ax P).1=6):P.D.n.Av-AU P.F P.D.A6<12:=by
 have⟨e1,e2⟩:=Lz P (Ah (J.Ac+1));have d:(P.au (Ab (Ah (J.Ac+1)))).2.F P.D.AV=([],0):=by unfold PD.au;simp[upd]
 have hu:=QY e1;rw[d]at hu;unfold Jn.ax at h;split at h
 ·exact absurd h (A2r P _)
 ·dsimp only at h;split at h
  ·have:=Vn (P:=(P.au (Ab (Ah (J.Ac+1)))).2) (x:=Ab (Ah (J.Ac+1))) (l:=AT (AI (Ah (J.Ac+1))) (AQ J.pd)) h;rw[EJ,CP,Ka]at this;simp only[Ja]at hu;omega
  ·cases h
def SH{p:Pu}(h:(J.aF P p).2.1=6):P.D.n.Av-AU P.F P.D.A6<21:=by
 unfold Jn.aF at h;split at h
 ·cases h
 ·rename_i n s _;have:=Vn (P:=P) (x:=Ab (Ah n)) (l:=AT s (Bg p.1 p.2.1 p.2.2)) h;rw[EJ,FB]at this;omega
def A09{p:Pu}(h:(J.af P p).2.1=6):P.D.n.Av-AU P.F P.D.A6<33:=by
 unfold Jn.af at h;split at h
 ·split at h
  ·have:=A3B h;omega
  ·have d:=SH h;have⟨b1,⟨j,b2⟩,_⟩:=Ng P J;have hu:=QY b1;rw[b2]at hu;dsimp only at hu;rw[BK,EJ,CP]at hu;rw[Om]at d;omega
 ·have:=SH h;omega
def A3U{p:Pu}(h:(A.af P p).2.1=6):P.D.n.Av-AU P.F P.D.A6<200:=by
 unfold Ar.af at h;split at h
 ·exact absurd h (RB A P)
 ·have:=A09 h;rw[K9,WX]at this;omega
end
def A1x{l:gD Pt}(h:DP l)(t v:Int)(x:Pt):x∈Cc l t v↔x=(t,v)\/(x∈l/\x.1≠t):=by
 induction l with
 | nil=>simp[Cc]
 | cons e r ih=>
  obtain⟨a,b⟩:=e;have z:=Dk.1 h;have E:=ih z.2;simp only[Cc];by_cases I:a<t
  ·rw[Ai I];simp only[BS,E];constructor
   ·rintro (rfl|h|⟨h,d⟩)
    ·exact .inr ⟨.inl rfl,by simp only;omega⟩
    ·exact .inl h
    ·exact .inr ⟨.inr h,d⟩
   ·rintro (h|⟨h|h,d⟩)
    ·exact .inr (.inl h)
    ·exact .inl h
    ·exact .inr (.inr ⟨h,d⟩)
  ·rw[Af I];by_cases d:a=t
   ·subst d;rw[Ai rfl];simp only[BS];constructor
    ·rintro (h|h)
     ·exact .inl h
     ·exact .inr ⟨.inr h,λe=>by have:=z.1 x h;simp only at this;omega⟩
    ·rintro (h|⟨h|h,d⟩)
     ·exact .inl h
     ·subst h;exact absurd rfl d
     ·exact .inr h
   ·rw[Af d];simp only[BS];constructor
    ·rintro (h|h|h)
     ·exact .inl h
     ·subst h;exact .inr ⟨.inl rfl,d⟩
     ·exact .inr ⟨.inr h,λe=>by have:=z.1 x h;simp only at this;omega⟩
    ·rintro (h|⟨h|h,_⟩)
     ·exact .inl h
     ·exact .inr (.inl h)
     ·exact .inr (.inr h)
def YY(l:gD Pu)(p:Pu)(k a b ld A7:Int):refQ (l++[p]) k a b ld A7=FA k a b ld A7 (refQ l k a b ld A7) p:=by unfold refQ;rw[NF];rfl
def Ox(l:gD Pu)(k a b ld A7:Int):DP (refQ l k a b ld A7):=by
 have:=(Oy l k a b ld A7 l.length (Ao _)).1
 rwa [C5]at this
def MA(k a b ld A7:Int)(x:Pt):∀n (l:gD Pu),l.length=n->(x∈refQ l k a b ld A7↔(a<=x.1/\x.1<=b/\ED x.1 ld A7=true)/\Bz l k x.1=some x.2):=by
 intro n
 induction n with
 | zero=>
  intro l O;obtain rfl:l=[]:=Hp.1 O;simp[refQ,Bz]
 | succ n ih=>
  intro l O;have I:l≠[]:=λh=>by subst h;simp at O
  obtain⟨p,hp⟩:∃p,l=l.dropLast++[p]:=⟨l.getLast I,(NJ I).symm⟩;have X:l.dropLast.length=n:=by rw[VZ,O];rfl
  have d:=ih l.dropLast X;rw[hp,YY,IP];generalize l.dropLast=m at d;unfold FA;by_cases E:Gz k a b ld A7 p=true
  ·rw[Ai E,A1x (Ox _ _ _ _ _ _),d];unfold Gz at E;simp only[G3,E2]at E;obtain⟨⟨⟨Y,q2⟩,q3⟩,q4⟩:=E;by_cases z:p.2.1=x.1
   ·rw[Ai ⟨Y,z⟩];constructor
    ·rintro (h|⟨_,h⟩)
     ·subst h;exact⟨⟨q2,q3,q4⟩,rfl⟩
     ·exact absurd z.symm h
    ·rintro⟨_,h⟩;refine .inl ?_;(have:p.2.2=x.2:=by simpa using h);rw[z,this]
   ·rw[Af λh=>z h.2];constructor
    ·rintro (h|⟨h,_⟩)
     ·subst h;exact absurd rfl z
     ·exact h
    ·intro h;exact .inr ⟨h,λe=>z e.symm⟩
  ·rw[Af E,d];by_cases L:p.1=k/\p.2.1=x.1
   ·rw[Ai L]
    have W:¬(a<=x.1/\x.1<=b/\ED x.1 ld A7=true):=λh=>E (by
     unfold Gz;rw[L.1,L.2];simp only[PO,NP,G3,E2]
     exact⟨⟨h.1,h.2.1⟩,h.2.2⟩)
    simp only[W,false_and]
   ·rw[Af L]
def Rz:∀ {l l':gD Pt},DP l->DP l'->(∀x,x∈l↔x∈l')->l=l'
 | [],[],_,_,_=>rfl
 | [],y::r,_,_,h=>by have:=(h y).2 (BI ..);cases this
 | x::r,[],_,_,h=>by have:=(h x).1 (BI ..);cases this
 | x::r,y::s,h1,h2,h=>by
  have E:=Dk.1 h1;have d:=Dk.1 h2;have L:x=y:=by
   rcases BS.1 ((h x).1 (BI ..)) with e|e
   ·exact e
   ·rcases BS.1 ((h y).2 (BI ..)) with O|O
    ·exact O.symm
    ·have a:=d.1 x e;have b:=E.1 y O;omega
  subst L
  congr 1
  refine Rz E.2 d.2 λz=>⟨λI=>?_,λI=>?_⟩
  ·rcases BS.1 ((h z).1 (BC _ I)) with e|e
   ·subst e;have:=E.1 z I;omega
   ·exact e
  ·rcases BS.1 ((h z).2 (BC _ I)) with e|e
   ·subst e;have:=d.1 z I;omega
   ·exact e
def YZ{l l':gD Pu}{k a b ld A7:Int}(h:∀t,a<=t->t<=b->ED t ld A7=true->Bz l k t=Bz l' k t):refQ l k a b ld A7=refQ l' k a b ld A7:=by
 refine Rz (Ox _ _ _ _ _ _) (Ox _ _ _ _ _ _) λx=>?_;rw[MA k a b ld A7 x _ l rfl,MA k a b ld A7 x _ l' rfl];constructor
 ·rintro⟨d,z⟩;exact⟨d,by rw[<-h x.1 d.1 d.2.1 d.2.2];exact z⟩
 ·rintro⟨d,z⟩;exact⟨d,by rw[h x.1 d.1 d.2.1 d.2.2];exact z⟩
def JH(ld wa:Int):Bool:=decide (1<=ld/\ld<=4611686018427387904/\1<=wa/\wa<=4611686018427387904)
def A2N(w:gx)(ld wa:Int):
 Ag 45 #[.agg #[A0 ld,A0 wa]] w (Aj (.bool (JH ld wa)) λw'=>A4 Aa w w'):=by
 obtain⟨q,d⟩:∃q,JH ld wa=q:=⟨_,rfl⟩;rw[d];have h:=A1 d;by_cases h1:1<=ld<;>by_cases h2:ld<=4611686018427387904<;>by_cases h3:1<=wa<;>by_cases h4:wa<=4611686018427387904
 all_goals try (exfalso;omega)
 all_goals
  go_enter func45,ntmps45
  go_wp2;go_ret;refine⟨?_,(A4.C _ _).aj _⟩;rw[<-h.o];simp[JH]
  try omega
def Gw(t d:Int):Int:=t/d
def WJ(w:gx)(t d:Int)(X:Ay t)(Y:1<=d/\d<=4611686018427387904):
 Ag 124 #[A0 t,A0 d] w (Aj (A0 (Gw t d)) λw'=>w=w'):=by
 obtain⟨t1,t2⟩:=X;obtain⟨w1,w2⟩:=Y;have O:t.tmod d+d*t.tdiv d=t:=Int.tmod_add_mul_tdiv t d;have L:t.tmod d<d:=Qx t (by omega);have e3 : -d<t.tmod d:=Int.lt_tmod_of_pos t (by omega);have E:t.tmod d<0->t/d=t.tdiv d-1:=λh=>
  ((A4Q (r:=t.tmod d+d) (q:=t.tdiv d-1) (by omega:(0:Int)<d)).2 ⟨by rw[Wj];omega,by omega,by omega⟩).1
 have I:0<=t.tmod d->t/d=t.tdiv d:=λh=>
  ((A4Q (r:=t.tmod d) (q:=t.tdiv d) (by omega:(0:Int)<d)).2 ⟨O,h,L⟩).1
 have W : -9223372036854775808<=t/d:=(Int.le_ediv_iff_mul_le (by omega)).2 (by omega);have b2:t/d<9223372036854775808:=(Int.ediv_lt_iff_lt_mul (by omega)).2 (by omega);have z:Hid ((t.tmod d<0->wrap64 (t.tdiv d-1)=Gw t d)/\(0<=t.tmod d->t.tdiv d=Gw t d)):=by
  refine⟨λh=>?_,λh=>(I h).symm⟩;have:=E h;unfold Gw wrap64;omega
 clear O L e3 E I W b2
 go_enter func124,ntmps124
 go_wp2
 ·rename_i h;go_ret;rw[<-z.o.1 h];exact⟨rfl,rfl⟩
 ·rename_i h;go_ret;rw[<-z.o.2 h];exact⟨rfl,rfl⟩
end
end Go.Proofs.YtodcnkbblippnaaGreatDoor
