/- Part 27 of a proof: walks of the program. -/
import Derived.Test.YtodcnkbblippnaaGreatDoorPart26
namespace Go.Proofs.YtodcnkbblippnaaGreatDoor
set_option maxRecDepth 100000
set_option maxHeartbeats 32000000
set_option linter.defProp false
open Go.Proofs.Tryz
section
open Go.RowKit
def Ct(n:DN)(e:Int)(d:DN):Prop:=
 (e≠5/\e≠6/\d.Bl=n.Bl/\d.fulls=n.fulls/\d.AW=n.AW)\/(e=5/\d.Bl=wrap64 (n.Bl+1)/\d.fulls=n.fulls)\/(e=6/\d.Bl=wrap64 (n.Bl+1)/\d.fulls=wrap64 (n.fulls+1)/\d.AW=n.AW)
def Ct.I(n:DN){e:Int}(d:e≠5)(h:e≠6):Ct n e n:=.inl ⟨d,h,rfl,rfl,rfl⟩
def Ct.Av{n E n2:DN}{a e:Int}(h:Ct n a E)(H:a=0)(d:Ct E e n2):Ct n e n2:=by
 subst H;rcases h with⟨_,_,L,O,I⟩|⟨z,_⟩|⟨z,_⟩
 ·unfold Ct at d ⊢;rw[L,O,I]at d;exact d
 ·cases z
 ·cases z
def Ky(n:DN):Ct n (bg n).2.1 (bg n).2.2:=by
 unfold bg;dsimp only
 split
 ·exact .inr (.inl ⟨rfl,rfl,rfl⟩)
 ·split
  ·exact .inr (.inl ⟨rfl,rfl,rfl⟩)
  ·split
   ·exact .inr (.inl ⟨rfl,rfl,rfl⟩)
   ·exact .inl ⟨by simp,by simp,rfl,rfl,rfl⟩
def Gw(n:DN):(bg n).2.1=0\/(bg n).2.1=5:=by
 unfold bg;dsimp only
 split
 ·exact .inr rfl
 ·split
  ·exact .inr rfl
  ·split
   ·exact .inr rfl
   ·exact .inl rfl
section
variable{P:PD}{A:Ar}{J:Jn}{nm oe:gg}
def M6(P:PD)(nm:gg):Ct P.D.n (P.ai nm).1 (P.ai nm).2.D.n:=by
 unfold PD.ai CN;split
 ·exact Ct.I _ (by simp) (by simp)
 ·have:=Ky P.D.n;dsimp only
  split<;>exact this
def Nw(P:PD)(nm:gg):Ct P.D.n (P.ad nm).1 (P.ad nm).2.D.n:=by
 unfold PD.ad Cq;split
 ·exact Ct.I _ (by simp) (by simp)
 ·exact Ky P.D.n
def We(P:PD):Ct P.D.n P.av.1 P.av.2.D.n:=by
 have:=Ky P.D.n;unfold PD.av DC;dsimp only
 split<;>exact this
def Wg(P:PD)(nm:gg):Ct P.D.n (P.aG nm).1 (P.aG nm).2.D.n:=by
 have:=Ky P.D.n;unfold PD.aG Dn;split
 ·exact Ct.I _ (by simp) (by simp)
 ·dsimp only
  split<;>exact this
def A4v(P:PD)(oe nm:gg):Ct P.D.n (P.aM oe nm).1 (P.aM oe nm).2.D.n:=by
 have:=Ky P.D.n;unfold PD.aM CU;split
 ·exact Ct.I _ (by simp) (by simp)
 ·split
  ·exact Ct.I _ (by simp) (by simp)
  ·dsimp only
   split<;>exact this
def Wk(D:DS)(F:Nat->FC)(f:Nat)(x:gg)(z e:Int)(n:DN)(h:Ct n e D.n)(E:e=0\/e=5):Ct n (Bw D F f x z e).1 (Bw D F f x z e).2.1.n:=by
 unfold Bw;split
 ·dsimp only
  rcases E with rfl|rfl
  ·rw[Ae rfl,Ae rfl];rcases h with⟨_,_,I,L,H⟩|⟨d,_⟩|⟨d,_⟩
   ·exact .inr (.inr ⟨rfl,by dsimp only;rw[I],by dsimp only;rw[L],H⟩)
   ·cases d
   ·cases d
  ·rw[Aa (by decide),Aa (by decide)];exact h
 ·exact h
def A4D(P:PD)(nm:gg)(l:Bs):Ct P.D.n (P.ak nm l).1 (P.ak nm l).2.D.n:=by
 have d:=Ky P.D.n;have h:=Gw P.D.n;unfold PD.ak Bj;split
 ·exact Ct.I _ (by simp) (by simp)
 ·dsimp only
  split
  ·exact Wk _ _ _ _ _ _ _ d h
  ·split
   ·exact Wk _ _ _ _ _ _ _ d h
   ·exact d
def Ny(P:PD)(nm:gg)(s:Nat)(l:Bs):Ct P.D.n (P.ae nm s l).2.1 (P.ae nm s l).2.2.D.n:=A4D P nm (AS s l)
def Cy{x:Int}(h:¬x≠0):x=0:=by omega
def Nv(P:PD)(nm:Bs)(s:Nat)(l:Bs):Ct P.D.n (P.aH nm s l).1 (P.aH nm s l).2.D.n:=by
 unfold PD.aH;split
 ·exact M6 P _
 ·rename_i d;split
  ·exact(M6 P _).Av (Cy d) (Ny _ _ _ _)
  ·rename_i h;exact((M6 P _).Av (Cy d) (Ny _ _ _ _)).Av (Cy h) (Nw _ _)
def Wf:∀(l:gh Bs) (P:PD),Ct P.D.n (PD.az l P).1 (PD.az l P).2.D.n
 | [],P=>Ct.I _ (by simp[PD.az]) (by simp[PD.az])
 | nm::r,P=>by
  unfold PD.az;split
  ·exact Nw P _
  ·rename_i d;exact(Nw P _).Av (Cy d) (Wf r _)
def Nx:∀(l:gh Bs) (P:PD),Ct P.D.n (PD.aK l P).1 (PD.aK l P).2.D.n
 | [],P=>Ct.I _ (by simp[PD.aK]) (by simp[PD.aK])
 | nm::r,P=>by
  unfold PD.aK;split
  ·exact Wg P _
  ·rename_i d;exact(Wg P _).Av (Cy d) (Nx r _)
def Kx(A:Ar)(P:PD):Ct P.D.n (A.C P).1 (A.C P).2.2.D.n:=by
 have:=Wf A.AN P;unfold Ar.C;split
 ·exact this
 ·rename_i d;rw[Cy d]at this;exact this
def Wj(J:Jn)(P:PD):Ct P.D.n (J.aw P).1 (J.aw P).2.2.D.n:=by
 unfold Jn.aw;split
 ·exact M6 P _
 ·rename_i d;have:=(M6 P _).Av (Cy d) (Ny (P.ai (A6 (Af (J.A8+1)))).2 (A6 (Af (J.A8+1))) (AB (Af (J.A8+1))) (AO J.pd));dsimp only
  split
  ·exact this
  ·rename_i h;rw[Cy h]at this;exact this
def Wh(J:Jn)(P:PD)(p:Pu):Ct P.D.n (J.ax P p).2.1 (J.ax P p).2.2.2.D.n:=by
 unfold Jn.ax;split
 ·exact Ct.I _ (by simp) (by simp)
 ·exact Ny P _ _ _
def A4y(J:Jn)(P:PD)(p:Pu):Ct P.D.n (J.ae P p).2.1 (J.ae P p).2.2.2.D.n:=by
 unfold Jn.ae;split
 ·split
  ·exact Wj J P
  ·rename_i d;exact(Wj J P).Av (Cy d) (Wh _ _ p)
 ·exact Wh J P p
def A4C(A:Ar)(P:PD)(p:Pu):Ct P.D.n (A.ae P p).2.1 (A.ae P p).2.2.2.D.n:=by
 unfold Ar.ae;split
 ·exact Kx A P
 ·rename_i d;exact(Kx A P).Av (Cy d) (A4y _ _ p)
def A4x(J:Jn)(P:PD):Ct P.D.n (J.ad P).1 (J.ad P).2.D.n:=by
 unfold Jn.ad;split
 ·exact Ct.I _ (by simp) (by simp)
 ·exact Nw P _
def A4B(A:Ar)(P:PD):Ct P.D.n (A.ad P).1 (A.ad P).2.2.D.n:=by
 unfold Ar.ad;split
 ·exact Kx A P
 ·rename_i z;have h:=(Kx A P).Av (Cy z) (A4x (A.C P).2.1.j (A.C P).2.2);split
  ·exact h
  ·rename_i d;exact h.Av (Cy d) (We _)
def Wi:∀(z:gh (gh Pu)) (h:Int) (d:gh Int) (P:PD),Ct P.D.n (PD.aj z h d P).1 (PD.aj z h d P).2.2.2.D.n
 | [],_,_,P=>Ct.I _ (by simp[PD.aj]) (by simp[PD.aj])
 | l::r,h,d,P=>by
  unfold PD.aj;split
  ·exact Nv P _ _ _
  ·rename_i E;exact(Nv P _ _ _).Av (Cy E) (Wi r _ _ _)
def A4w(P:PD)(first:Int)(sd:gh Int):Ct P.D.n (P.ah first sd).1 (P.ah first sd).2.D.n:=by
 unfold PD.ah;split
 ·exact Nv P _ _ _
 ·rename_i d;exact(Nv P _ _ _).Av (Cy d) (A4v _ _ _)
def A4A(A:Ar)(P:PD)(sd:gh Int):Ct P.D.n (A.ah P sd).1 (A.ah P sd).2.2.D.n:=by
 have:=A4w P (A.j.A8+1) sd;unfold Ar.ah;split
 ·exact Ct.I _ (by simp) (by simp)
 ·split
  ·exact this
  ·rename_i d;rw[Cy d]at this;exact this
def A4z(A:Ar)(P:PD):Ct P.D.n (A.a6 P).1 (A.a6 P).2.2.D.n:=by
 unfold Ar.a6;split
 ·exact Nx _ P
 ·rename_i d;exact(Nx _ P).Av (Cy d) (We _)
def A4u(A:Ar)(P:PD)(d:gh Int)(h:gh (gh Pu)):Ct P.D.n (A.aF P d h).1 (A.aF P d h).2.2.D.n:=by
 unfold Ar.aF;dsimp only
 split
 ·exact Kx A P
 ·rename_i O;have z:=(Kx A P).Av (Cy O) (Nx ((A.C P).2.1.aV (A.C P).2.2) (A.C P).2.2);split
  ·exact z
  ·rename_i I;have E:=z.Av (Cy I) (Wi h (A.C P).2.1.A8 d _);split
   ·exact E
   ·rename_i W;have H:=E.Av (Cy W) (A4A { (A.C P).2.1 with A8:=(PD.aj h (A.C P).2.1.A8 d ((A.C P).2.1.au (A.C P).2.2).2).2.1} _ (PD.aj h (A.C P).2.1.A8 d ((A.C P).2.1.au (A.C P).2.2).2).2.2.1);split
    ·exact H
    ·rename_i L;exact H.Av (Cy L) (A4z _ _)
def Oj(P:PD)(nm:gg):(P.ad nm).1≠6:=by
 unfold PD.ad Cq;split
 ·simp
 ·have:=Gw P.D.n;dsimp only;omega
def Rz(P:PD):P.av.1≠6:=by
 have:=Gw P.D.n;unfold PD.av DC;dsimp only;omega
def RC:∀(l:gh Bs) (P:PD),(PD.az l P).1≠6
 | [],P=>by simp[PD.az]
 | nm::r,P=>by
  unfold PD.az;split
  ·exact Oj P _
  ·exact RC r _
def OC(A:Ar)(P:PD):(A.C P).1≠6:=by
 unfold Ar.C;split
 ·exact RC _ P
 ·simp
def Wa(A:Ar)(P:PD):(A.ad P).1≠6:=by
 unfold Ar.ad;split
 ·exact OC A P
 ·split
  ·unfold Jn.ad;split
   ·simp
   ·exact Oj _ _
  ·exact Rz _
end
def CX(bd:Int×Int)(V:View)(ix:Ix)(sg cl:gh (Int×gh Pu))(lo:Option (Int×gh Pu))(pd:gh Pu)(Ad:Nat)(o:Int):Prop:=
 ∃nb,CW bd V ix sg cl lo/\nb<=pd.length/\C4 o (Au sg++Au cl) (pd.take nb)/\
  (∀n l,lo=some (n,l)->∃c,V (Af n)=some c/\Ad<=nb+EX c l/\l=(pd.drop nb).take l.length)/\(lo=none->Ad<=nb)
section
variable{bd:Int×Int}{P P':PD}{V V':View}{ix:Ix}{sg cl:gh (Int×gh Pu)}{lo:Option (Int×gh Pu)}{pd:gh Pu}{Ad:Nat}{o:Int}{nm:Bs}
def CX.ca(h:CX bd V ix sg cl lo pd Ad o):Holds bd V pd Ad o:=by
 obtain⟨nb,d⟩:=h;exact⟨ix,sg,cl,lo,nb,d⟩
def CX.bp(h:CX bd V ix sg cl lo pd Ad o):CW bd V ix sg cl lo:=h.choose_spec.1
def L0(ix:Ix)(sg:gh (Int×gh Pu))(nm:Bs):Prop:=nm=Ay\/(∃x∈sg,nm=Aw x.1)\/∃n,isNum n=true/\ix.AZ<=n/\nm=Af n
def CX.fe(h:CX bd V ix sg cl lo pd Ad o)(L:¬L0 ix sg nm)(hV:∀m,V' m=if m=nm then none else V m):CX bd V' ix sg cl lo pd Ad o:=by
 obtain⟨nb,O,Y,hs,g1,g2⟩:=h;have z:∀m,m≠nm->V' m=V m:=λm I=>by rw[hV,Aa I]
 have H:∀m,V' m≠none->m≠nm:=λm I e=>I (by rw[hV,Ae e]);refine⟨nb,O.bL (λm I=>?_) (λm I=>?_) (λm d W=>?_),Y,hs,λn l e=>?_,g2⟩
 ·have E:m≠nm:=λe=>L (e ▸ I);rw[z m E];cases hv:V m with
  | none=>exact .inl ⟨rfl,rfl⟩
  | some d=>exact .inr ⟨d,d,rfl,rfl,rfl,.inl rfl⟩
 ·have E:=H m I;rw[z m E]at I;exact O.Ef m I
 ·have E:=H m (by rw[W];simp);rw[z m E]at W;exact O.E7 m d W
 ·have⟨d,d1,d2,d3⟩:=g1 n l e;have hq:=(O.A8 n l e).1;exact⟨d,by rw[z _ λe2=>L (.inr (.inr ⟨n,hq.1,hq.2,e2.symm⟩))];exact d1,d2,d3⟩
def SJ(h:Gc P)(nm:gg):(P.aG nm).2.F=P.F/\(P.aG nm).2.D.AI=P.D.AI/\
 (((P.aG nm).2.D.A4=P.D.A4/\(P.aG nm).2.D.As=P.D.As/\(P.aG nm).1≠0)\/((P.aG nm).2.D.A4=(P.D.A4.filter λe=>decide (e.1≠nm))/\(P.aG nm).2.D.As=P.D.As++[P.D.A4.filter λe=>decide (e.1≠nm)])):=by
 unfold PD.aG Dn;by_cases z:B5 P.D.A4 nm<0
 ·rw[Ae z];exact⟨rfl,rfl,.inl ⟨rfl,rfl,by simp⟩⟩
 ·rw[Aa z];dsimp only
  rw[Vl _ _ h.Cj z];by_cases d:(bg P.D.n).1=true
  ·rw[Ae d];exact⟨rfl,rfl,.inr ⟨rfl,rfl⟩⟩
  ·rw[Aa d];exact⟨rfl,rfl,.inl ⟨rfl,rfl,λh=>d (H8 h)⟩⟩
def Rl(F:Nat->FC)(s:gh AM)(nm m:Bs):vw F (s.filter λe=>decide (e.1≠A6 nm)) m=if m=nm then none else vw F s m:=by
 unfold vw;rw[LF s (λx=>decide (x≠A6 nm))];by_cases d:m=nm
 ·subst d;simp
 ·have:A6 m≠A6 nm:=λe=>d (FN.1 e);simp[this,d]
def DI.dX(h:DI bd P pd Ad o)(L:CX bd P.fl ix sg cl lo pd Ad o)(I:¬L0 ix sg nm):DI bd (P.aG (A6 nm)).2 pd Ad o/\CX bd (P.aG (A6 nm)).2.fl ix sg cl lo pd Ad o:=by
 have⟨a1,a2,a3⟩:=SJ h.bc (A6 nm);rcases a3 with⟨d1,d2,_⟩|⟨d1,d2⟩
 ·have es:Bn (P.aG (A6 nm)).2=Bn P:=by unfold Bn;rw[a2,d2]
  have H:(P.aG (A6 nm)).2.fl=P.fl:=by unfold PD.fl;rw[d1,a1]
  exact⟨⟨λs d=>by rw[es]at d;rw[a1];exact h.DP s d,by rw[es];exact h.Ap,by rw[es];exact h.Cj,by rw[es,d1];exact h.CG⟩,by rw[H];exact L⟩
 ·have es:Bn (P.aG (A6 nm)).2=Bn P++[P.D.A4.filter λe=>decide (e.1≠A6 nm)]:=by unfold Bn;rw[a2,d2];rfl
  have z:∀s,s∈Bn (P.aG (A6 nm)).2->s∈Bn P\/s=P.D.A4.filter λe=>decide (e.1≠A6 nm):=λs d=>by
   rw[es]at d;rcases AU.1 d with d|d
   ·exact .inl d
   ·exact .inr (by simpa using d)
  have E:=L.fe I (Rl P.F P.D.A4 nm);refine⟨⟨λs d=>?_,λs d=>?_,λs d=>?_,by rw[es,d1];simp⟩,?_⟩
  ·rw[a1];rcases z s d with d|rfl
   ·exact h.DP s d
   ·exact E.ca
  ·rcases z s d with d|rfl
   ·exact h.Ap s d
   ·exact(h.Ap _ h.CG).sublist (Hf.map _)
  ·rcases z s d with d|rfl
   ·exact h.Cj s d
   ·exact(h.Cj _ h.CG).sublist (Hf.map _)
  ·have H:(P.aG (A6 nm)).2.fl=vw P.F (P.D.A4.filter λe=>decide (e.1≠A6 nm)):=by
    funext m;unfold PD.fl vw;rw[d1,a1]
   rw[H];exact E
def DI.aK:∀(l:gh Bs) {P:PD},DI bd P pd Ad o->CX bd P.fl ix sg cl lo pd Ad o->(∀m∈l,¬L0 ix sg m)->DI bd (PD.aK l P).2 pd Ad o/\CX bd (PD.aK l P).2.fl ix sg cl lo pd Ad o
 | [],P,h,hT,_=>⟨h,hT⟩
 | x::r,P,h,hT,hm=>by
  have⟨h1,h2⟩:=h.dX hT (hm x (Bt ..));unfold PD.aK;split
  ·exact⟨h1,h2⟩
  ·exact DI.aK r h1 h2 λm d=>hm m (Bp _ d)
def DI.au{A:Ar}(h:DI bd P pd Ad o)(z:CX bd P.fl A.ix sg cl lo pd Ad o)(I:A.j.Ak=cl.map (·.1)++(lo.map (·.1)).toList)(d:sg.map (·.1)=A.ix.sd):DI bd (A.au P).2 pd Ad o/\CX bd (A.au P).2.fl A.ix sg cl lo pd Ad o:=by
 refine DI.aK _ h z λm E O=>?_;have⟨h1,h2⟩:=Jl.1 E;refine h2 ?_;unfold Ar.Ai;rcases O with rfl|⟨x,W,rfl⟩|⟨n,Y,H,rfl⟩
 ·simp
 ·refine Hr _ (E5 ?_);rw[<-d];exact E5 W
 ·refine FV _ (Bp _ (E5 ?_));rw[I];refine z.bp.Ck n Y H λL=>h1 ?_;unfold PD.bs;rw[L];rfl
def Ey(bd:Int×Int)(P:PD)(pd:gh Pu)(Ad:Nat)(o:Int)(n:Int)(f d:Nat):Prop:=
 lookup P.D.A4 (A6 (Af n))=some f/\∀s∈Bn P,(∀e∈s,e.2≠f)\/(lookup s (A6 (Af n))=some f/\FU bd (vw P.F s) pd Ad o n d)
def Ri{F:Nat->FC}{s:gh AM}{f:Nat}{c:FC}(z:(s.map (·.2)).Nodup)(h:lookup s (A6 nm)=some f)(m:Bs):vw (upd F f c) s m=if m=nm then some c else vw F s m:=by
 unfold vw;by_cases d:m=nm
 ·subst d;rw[h];simp[upd]
 ·rw[Aa d];cases hk:lookup s (A6 m) with
  | none=>rfl
  | some g=>
   have:g≠f:=λe=>d (by
    have:=Jq z (DY hk) (DY h) e
    exact FN.1 (Me this).1)
   simp[upd,this]
def Ey.ak{n:Int}{f z:Nat}{l0:gh Pu}{c0:FC}(h:DI bd P pd Ad o)(hO:Ey bd P pd Ad o n f z)(aE:P.F f=c0)(O:c0.1=E9 (Af n) z l0)(p:Pu)(hp:B8 p)(j:Nat)(hd:P'.D.A4=P.D.A4)(d:P'.D.AI=P.D.AI)(aF:P'.D.As=P.D.As)(hF:P'.F=upd P.F f (c0.1++(AS (F9 (Af n) z l0) (Bc p.1 p.2.1 p.2.2)).take j,c0.2)):
 DI bd P' (pd++[p]) Ad o/\(21<=j->Ey bd P' (pd++[p]) Ad o n f z)/\(j<21->DI bd P' pd Ad o):=by
 have es:Bn P'=Bn P:=by unfold Bn;rw[d,aF]
 have inj:∀ {l l':gh Pu},E9 (Af n) z l=E9 (Af n) z l'->(∀p∈l,B8 p)->(∀p∈l',B8 p)->l=l':=λ{l l'} e Y W=>by
  have aA:l.length=l'.length:=by have:=ES List.length e;rw[Jx,Jx]at this;omega
  have hx:E8 (AP (AB (Af n)) (AO z)) l=E8 (AP (AB (Af n)) (AO z)) l':=by unfold E9 at e;exact WZ e
  have r1:=MQ l (AP (AB (Af n)) (AO z)) (l.length+1) [] Y (by omega) (by simp);have r2:=MQ l' (AP (AB (Af n)) (AO z)) (l.length+1) [] W (by omega) (by simp);rw[hx]at r1;rw[r1]at r2;simpa using r2
 have each:∀s∈Bn P,((∀e∈s,e.2≠f)/\vw P'.F s=vw P.F s)\/(lookup s (A6 (Af n))=some f/\(21<=j->FU bd (vw P'.F s) (pd++[p]) Ad o n z)/\(j<21->Holds bd (vw P'.F s) pd Ad o)):=λs d=>by
  rcases hO.2 s d with E|⟨L,aB⟩
  ·exact .inl ⟨E,Lb λe he=>by rw[hF];simp[upd,E e he]⟩
  ·refine .inr ⟨L,?_⟩;(have I:vw P.F s (Af n)=some c0:=by unfold vw;rw[L];simp[aE]);refine aB.ak p hp j (s:=F9 (Af n) z l0) (λl c hc aD=>?_) (λm hm=>?_) (λc hc=>?_)
   ·rw[I]at hc;cases hc;obtain⟨ix,sg,cl,l1,nb,c1,hL,_,_,g1,g2,g3,_,_⟩:=aB;rw[I]at g1;cases g1;have aA:l.length=l0.length:=by
     have:=ES List.length (aD.symm.trans O);rw[Jx,Jx]at this;omega
    have key:∀(a b:gh Pu) (s:Nat),E8 s a=E8 s b->HF s a=HF s b:=by
     intro a
     induction a with
     | nil=>
      intro b s e;cases b with
      | nil=>rfl
      | cons y r=>
       have:=ES List.length e;rw[Jw,Jw]at this;simp at this
     | cons x a ih=>
      intro b s e;cases b with
      | nil=>
       have:=ES List.length e;rw[Jw,Jw]at this;simp at this
      | cons y r=>
       simp only[E8]at e;have H:=
        List.append_inj e (by rw[EL,EL,F7,F7])
       have hb:=(List.append_inj H.1 (by rw[F7,F7])).1;simp only[HF];rw[hb]at H ⊢;exact ih r _ H.2
    have e1:=aD.symm.trans O;unfold E9 at e1;unfold F9;exact(key l l0 _ (WZ e1)).symm
   ·rw[hF,Ri (h.Ap s d) L,Aa hm]
   ·rw[I]at hc;cases hc;rw[hF,Ri (h.Ap s d) L,Ae rfl]
 refine⟨⟨λs d=>?_,by rw[es];exact h.Ap,by rw[es];exact h.Cj,by rw[es,hd];exact h.CG⟩,λhj=>⟨by rw[hd];exact hO.1,λs d=>?_⟩,λhj=>⟨λs d=>?_,by rw[es];exact h.Ap,by rw[es];exact h.Cj,by rw[es,hd];exact h.CG⟩⟩
 ·rw[es]at d;rcases each s d with⟨_,I⟩|⟨_,Y,W⟩
  ·rw[I];exact(h.DP s d).b9 [p]
  ·by_cases hj:21<=j
   ·exact(Y hj).ca
   ·exact(W (by omega)).b9 [p]
 ·rw[es]at d;rcases each s d with⟨E,_⟩|⟨L,Y,_⟩
  ·exact .inl E
  ·exact .inr ⟨L,Y hj⟩
 ·rw[es]at d;rcases each s d with⟨_,I⟩|⟨_,_,W⟩
  ·rw[I];exact h.DP s d
  ·exact W hj
end
section
variable{bd:Int×Int}{P P':PD}{V V':View}{ix:Ix}{sg cl:gh (Int×gh Pu)}{lo:Option (Int×gh Pu)}{pd:gh Pu}{Ad:Nat}{o:Int}{nm:Bs}
def DI.e7(h:DI bd P pd Ad o)(L:Extra P nm P')(I:lookup P.D.A4 (A6 nm)=none->Holds bd (vw P'.F (P.D.A4++[(A6 nm,P.D.AR)])) pd Ad o):DI bd P' pd Ad o:=by
 have oe:∀s∈Bn P,vw P'.F s=vw P.F s:=λs d=>Lb λe E=>L.Eu _ (IQ d E);rcases L.da with⟨d1,d2⟩|⟨d0,d1,d2⟩
 ·have es:Bn P'=Bn P:=by unfold Bn;rw[L.AI,d2]
  exact⟨λs d=>by rw[es]at d;rw[oe s d];exact h.DP s d,by rw[es];exact h.Ap,by rw[es];exact h.Cj,by rw[es,d1];exact h.CG⟩
 ·have es:Bn P'=Bn P++[P.D.A4++[(A6 nm,P.D.AR)]]:=by unfold Bn;rw[L.AI,d2];rfl
  have z:∀s,s∈Bn P'->s∈Bn P\/s=P.D.A4++[(A6 nm,P.D.AR)]:=λs d=>by
   rw[es]at d;rcases AU.1 d with d|d
   ·exact .inl d
   ·exact .inr (by simpa using d)
  refine⟨λs d=>?_,λs d=>?_,λs d=>?_,by rw[es,d1];simp⟩
  ·rcases z s d with d|rfl
   ·rw[oe s d];exact h.DP s d
   ·exact I d0
  ·rcases z s d with d|rfl
   ·exact h.Ap s d
   ·rw[Ei,GW];refine⟨h.Ap _ h.CG,by simp,λa O b H=>?_⟩;simp at H;subst H;obtain⟨e,E,rfl⟩:=CC.1 O;exact IQ h.CG E
  ·rcases z s d with d|rfl
   ·exact h.Cj s d
   ·rw[Ei,GW];refine⟨h.Cj _ h.CG,by simp,λa O b H=>?_⟩;simp at H;subst H;obtain⟨e,E,rfl⟩:=CC.1 O;exact(Jt.1 d0) e E
def CW.dj(E:CW bd V ix sg cl none)(hs:C4 o (Au sg++Au cl) pd)(hsafe:Ad<=pd.length){n:Int}(hn:isNum n=true)(aA:n<=bd.1)(hf:ix.AZ<=n)(L:∀x∈cl,x.1<n)(j:Nat)(hV:∀m,V' m=if m=Af n then some ((AS (AB (Af n)) (AO ((Au cl).length:Int))).take j,0) else V m):
 CX bd V' ix sg cl (some (n,[])) pd Ad o/\(12<=j->FU bd V' pd Ad o n (Au cl).length):=by
 have hpl:(AS (AB (Af n)) (AO ((Au cl).length:Int))).length=12:=by rw[EL,CQ]
 have h:∀m,m≠Af n->V' m=V m:=λm hm=>by rw[hV,Aa hm]
 have z:V' (Af n)=some ((AS (AB (Af n)) (AO ((Au cl).length:Int))).take j,0):=by rw[hV,Ae rfl]
 have O:∀x∈cl,Af x.1≠Af n:=λx H e=>by
  have:=G6 (E.CV x H).1.1 hn e;have:=L x H;omega
 have I:12<=j->(AS (AB (Af n)) (AO ((Au cl).length:Int))).take j=E9 (Af n) ((Au cl).length:Int) []:=λhj=>by
  rw[EG (by omega)];simp[E9,E8]
 have W:Ii ((AS (AB (Af n)) (AO ((Au cl).length:Int))).take j) (Af n) (Au cl).length []:=by
  by_cases hj:12<=j
  ·exact .inl ⟨[],by rw[I hj];simp,by simp⟩
  ·exact .inr ⟨rfl,by rw[BT];omega⟩
 have Y:CW bd V' ix sg cl (some (n,[])):=by
  refine⟨E.DH,by rw[h _ (HD n).symm];exact E.IP,E.sd,λx H=>by rw[h _ (G8 n x.1).symm];exact E.BN x H,λx H=>by rw[h _ (O x H)];exact E.CV x H,
   E.Ak.FM λx H=>by rw[h _ (O x H)],λn' l e=>by cases e;exact⟨⟨hn,hf⟩,λp hp=>(by cases hp),_,z,W⟩,?_,λk h1 h2 h3=>?_,λm hm=>?_,λm d hd=>?_⟩
  ·have:=E.EV;simp only[Option.map_none,Option.toList_none,GJ]at this;refine Ez.2 ⟨this,by simp,λa ha b hb=>?_⟩;simp at hb;subst hb;obtain⟨x,H,rfl⟩:=CC.1 ha;exact L x H
  ·by_cases e:Af k=Af n
   ·have:=G6 h1 hn e;subst this;simp
   ·rw[h _ e]at h3;have:=E.Ck k h1 h2 h3;simp at this;simp[this]
  ·by_cases e:m=Af n
   ·subst e;exact A0R hn aA
   ·rw[h _ e]at hm;exact E.Ef m hm
  ·by_cases e:m=Af n
   ·subst e;rw[z]at hd;cases hd;dsimp only;omega
   ·rw[h _ e]at hd;exact E.E7 m d hd
 refine⟨⟨pd.length,Y,Ao _,by rw[Cf];exact hs,λn' l e=>by cases e;exact⟨_,z,by omega,by simp⟩,λe=>by cases e⟩,λhj=>?_⟩;exact⟨ix,sg,cl,[],pd.length,_,Y,Ao _,by rw[Cf];exact hs,z,I hj,rfl,by omega,by simp⟩
def Wb{nm:gg}{f:Nat}(l:Bs)(h:lookup P.D.A4 nm=some f)(d:(P.ak nm l).1=0):(P.ak nm l).2.F=upd P.F f ((P.F f).1++l,(P.F f).2):=by
 have W:(A6 l).data.toList=l:=by simp[A6]
 unfold PD.ak Bj at d ⊢;rw[h]at d ⊢;dsimp only at d ⊢;have z:∀D L e,(Bw D P.F f (A6 l) L e).1=0->e=0/\(Bw D P.F f (A6 l) L e).2.2=upd P.F f ((P.F f).1++l.take L.toNat,(P.F f).2):=λD L e E=>by
  unfold Bw at E ⊢;split at E
  ·dsimp only at E;split at E
   ·cases E
   ·rename_i H O;exact absurd E O
  ·rename_i H;rw[Aa H,W];exact⟨E,rfl⟩
 split at d
 ·rename_i I;rw[Ae I];have⟨_,O⟩:=z _ _ _ d;rw[O];have:((A6 l).size:Int).toNat=l.length:=by rw[Kc];simp
  rw[this,Cf]
 ·rename_i I;split at d
  ·have⟨H,_⟩:=z _ _ _ d;exact absurd (H8 H) I
  ·exact absurd (H8 d) I
def Nu(P:PD)(J:Jn):Extra P (Af (J.A8+1)) (J.aw P).2.2/\(∃j,(J.aw P).2.2.F P.D.AR=((AS (AB (Af (J.A8+1))) (AO J.pd)).take j,0))/\
 ((J.aw P).1=0->lookup (J.aw P).2.2.D.A4 (A6 (Af (J.A8+1)))=some P.D.AR/\(J.aw P).2.2.F P.D.AR=(AS (AB (Af (J.A8+1))) (AO J.pd),0)):=by
 obtain⟨nm,L⟩:∃nm,Af (J.A8+1)=nm:=⟨_,rfl⟩;have⟨e1,e2⟩:=Kq P nm;have H:(P.ai (A6 nm)).2.F P.D.AR=([],0):=by
  unfold PD.ai;simp[upd]
 unfold Jn.aw;rw[L];dsimp only
 by_cases I:(P.ai (A6 nm)).1=0
 ·rw[Aa (nn I)];have z:=e2 I;have ea:((P.ai (A6 nm)).2.ae (A6 nm) (AB nm) (AO J.pd)).2.2=((P.ai (A6 nm)).2.ak (A6 nm) (AS (AB nm) (AO J.pd))).2:=rfl;have O:((P.ai (A6 nm)).2.ae (A6 nm) (AB nm) (AO J.pd)).2.1=((P.ai (A6 nm)).2.ak (A6 nm) (AS (AB nm) (AO J.pd))).1:=rfl;have W:=e1.ak z (AS (AB nm) (AO J.pd));have⟨a1,a2,a3,d⟩:=J0 (AS (AB nm) (AO J.pd)) z;have Y:∃j,((P.ai (A6 nm)).2.ak (A6 nm) (AS (AB nm) (AO J.pd))).2.F P.D.AR=((AS (AB nm) (AO J.pd)).take j,0):=by
   rcases d with d|⟨j,d⟩
   ·exact⟨0,by rw[d,H];simp⟩
   ·exact⟨j,by rw[d];simp[upd,H]⟩
  by_cases E:((P.ai (A6 nm)).2.ae (A6 nm) (AB nm) (AO J.pd)).2.1=0
  ·rw[Aa (nn E),ea];refine⟨W,Y,λ_=>⟨by rw[a1];exact z,?_⟩⟩;rw[Wb _ z (by rw[<-O];exact E)];simp[upd,H]
  ·rw[Ae E,ea];exact⟨W,Y,λh=>absurd h E⟩
 ·rw[Ae I];exact⟨e1,⟨0,by rw[H];simp⟩,λh=>absurd h I⟩
def DI.aw(h:DI bd P pd Ad o){J:Jn}(Y:CW bd P.fl ix sg cl none)(hs:C4 o (Au sg++Au cl) pd)(z:Ad<=pd.length)(hn:isNum (J.A8+1)=true)(I:J.A8+1<=bd.1)(hf:ix.AZ<=J.A8+1)(H:∀x∈cl,x.1<J.A8+1)(hp:J.pd=((Au cl).length:Int)):
 DI bd (J.aw P).2.2 pd Ad o/\((J.aw P).1=0->Ey bd (J.aw P).2.2 pd Ad o (J.A8+1) P.D.AR (Au cl).length):=by
 have⟨b1,⟨j,b2⟩,b3⟩:=Nu P J;rw[hp]at b2 b3;have E:=Lb λe W=>b1.Eu _ (IQ h.CG W);have O:=h.e7 b1 λh0=>by
  refine((Y.dj hs z hn I hf H j (V':=vw (J.aw P).2.2.F (P.D.A4++[(A6 (Af (J.A8+1)),P.D.AR)])) λm=>?_).1).ca;rw[La h0,b2,E];rfl
 refine⟨O,λL=>?_⟩;have⟨c1,c2⟩:=b3 L;refine⟨c1,λs d=>?_⟩;rcases b1.da with⟨d1,d2⟩|⟨d0,d1,d2⟩
 ·
  rw[d1]at c1;exact absurd (DY c1) (λhm=>IQ h.CG hm rfl)
 ·have es:Bn (J.aw P).2.2=Bn P++[P.D.A4++[(A6 (Af (J.A8+1)),P.D.AR)]]:=by unfold Bn;rw[b1.AI,d2];rfl
  rw[es]at d;rcases AU.1 d with d | d
  ·exact .inl λe W=>IQ d W
  ·simp at d;subst d;refine .inr ⟨by rw[<-d1];exact c1,?_⟩;refine(Y.dj hs z hn I hf H 12 (V':=vw (J.aw P).2.2.F (P.D.A4++[(A6 (Af (J.A8+1)),P.D.AR)])) λm=>?_).2 (Ao _);rw[La d0,c2,E,EG (by rw[EL,CQ];omega)];rfl
end
section
variable{bd:Int×Int}{P P':PD}{V V':View}{A:Ar}{ix:Ix}{sg cl:gh (Int×gh Pu)}{lo:Option (Int×gh Pu)}{ol:Option (gh Pu)}{pd:gh Pu}{Ad:Nat}{o:Int}{nm:Bs}
def Qv{c:FC}(h:P.fl nm=some c):P.bs nm=some c.1:=by unfold PD.bs;rw[h];rfl
def IS{b:Bs}(h:P.bs nm=some b):∃c,P.fl nm=some c/\c.1=b:=by
 have⟨k,hk⟩:=LZ h;exact⟨(b,k),hk,rfl⟩
def Lay.bp(h:Lay P A sg cl ol)(_hl:(Au cl).length<=1099511627776)(hr:∀nm c,P.fl nm=some c->0<=c.2/\c.2<=c.1.length)(L:∀nm c,(nm=Ay\/(∃x∈sg,nm=Aw x.1)\/∃x∈cl,nm=Af x.1)->P.fl nm=some c->BV c)(O:HX bd A.ix sg)(W:∀nm,P.fl nm≠none->EF bd nm):CW bd P.fl A.ix sg cl (ol.map λl=>(A.j.A8,l)):=by
 have d:cl.map (·.1)++(Option.map (·.1) (ol.map λl=>(A.j.A8,l))).toList=A.j.Ak:=by
  rw[h.bQ];cases ol<;>simp[shut]
 refine⟨O,?_,h.sd,λx z=>?_,λx z=>?_,FA.at.2 h.Ak,λn l e=>?_,by rw[d];exact h.Hl,λn E H Y=>?_,W,hr⟩
 ·rcases h.ix with⟨E,H⟩|E
  ·exact .inl ⟨Gv.1 E,H⟩
  ·have⟨c,c1,c2⟩:=IS E;exact .inr ⟨c,c1,L _ _ (.inl rfl) c1,c2⟩
 ·have⟨E,H⟩:=h.BN x z;have⟨c,c1,c2⟩:=IS H;exact⟨E,c,c1,L _ _ (.inr (.inl ⟨x,z,rfl⟩)) c1,c2⟩
 ·have I:=h.Ak.DG z;have⟨b,I⟩:=JL.1 I;have⟨c,c1,_⟩:=IS I;exact⟨⟨(h.CV x z).1.1,h.EO.1 x z⟩,(h.CV x z).2,c,c1,L _ _ (.inr (.inr ⟨x,z,rfl⟩)) c1⟩
 ·cases ol with
  | none=>cases e
  | some l'=>
   cases e;have⟨_,_,Y,h4,h5⟩:=h.AE;have⟨c,c1,c2⟩:=IS Y;exact⟨⟨h5,h.EO.2 (by simp)⟩,h4,c,c1,.inl ⟨[],by rw[c2,h.Gx];simp,by simp⟩⟩
 ·rw[d];exact h.HC n E H λI=>Y (Gv.1 I)
def CX.bG(h:CX bd V ix sg cl lo pd Ad o)(h0:V nm=none)(z:nm=Bm\/∃k,(isNum k=true/\k<=bd.2)/\nm=Aw k)(c:FC)(hc:0<=c.2/\c.2<=c.1.length)(hV:∀m,V' m=if m=nm then some c else V m):CX bd V' ix sg cl lo pd Ad o:=by
 obtain⟨nb,O,W,hs,g1,g2⟩:=h;have H:∀m,L0 ix sg m->m≠nm:=by
  rintro m (rfl|⟨x,hx,rfl⟩|⟨n,hn,_,rfl⟩) e
  ·rcases z with z|⟨k,_,z⟩
   ·exact JA (e.trans z)
   ·exact JZ k (z.symm.trans e.symm)
  ·have⟨_,d,I,_⟩:=O.BN x hx;rw[e,h0]at I;cases I
  ·rcases z with z|⟨k,_,z⟩
   ·exact LH n (e.trans z)
   ·exact G8 n k (e.trans z)
 have E:∀m,m≠nm->V' m=V m:=λm L=>by rw[hV,Aa L]
 refine⟨nb,O.bL (λm L=>?_) (λm L=>?_) (λm d I=>?_),W,hs,λn l e=>?_,g2⟩
 ·rw[E m (H m L)];cases hv:V m with
  | none=>exact .inl ⟨rfl,rfl⟩
  | some d=>exact .inr ⟨d,d,rfl,rfl,rfl,.inl rfl⟩
 ·by_cases e:m=nm
  ·subst e;rcases z with rfl|⟨k,Y,rfl⟩
   ·exact TS bd
   ·exact TR Y.1 Y.2
  ·rw[E m e]at L;exact O.Ef m L
 ·by_cases e:m=nm
  ·rw[hV,Ae e]at I;cases I;exact hc
  ·rw[E m e]at I;exact O.E7 m d I
 ·have⟨d,d1,d2,d3⟩:=g1 n l e;have hq:=(O.A8 n l e).1;exact⟨d,by rw[E _ (H _ (.inr (.inr ⟨n,hq.1,hq.2,rfl⟩)))];exact d1,d2,d3⟩
def Extra.fl(h:DI bd P pd Ad o)(d:Extra P nm P'):(P'.fl=P.fl)\/(P.fl nm=none/\∀m,P'.fl m=if m=nm then some (P'.F P.D.AR) else P.fl m):=by
 have oe:=Lb λe z=>d.Eu _ (IQ h.CG z);rcases d.da with⟨d1,_⟩|⟨d0,d1,_⟩
 ·refine .inl ?_;have:P'.fl=vw P'.F P.D.A4:=by funext m;unfold PD.fl vw;rw[d1]
  rw[this,oe];rfl
 ·refine .inr ⟨by unfold PD.fl;rw[d0];rfl,λm=>?_⟩;have:P'.fl m=vw P'.F (P.D.A4++[(A6 nm,P.D.AR)]) m:=by unfold PD.fl vw;rw[d1]
  rw[this,La d0,oe];rfl
def CX.dW(h:DI bd P pd Ad o)(E:CX bd P.fl ix sg cl lo pd Ad o)(z:Extra P nm P')(d:nm=Bm\/∃k,(isNum k=true/\k<=bd.2)/\nm=Aw k):CX bd P'.fl ix sg cl lo pd Ad o:=by
 rcases Extra.fl h z with e|⟨H,e⟩
 ·rw[e];exact E
 ·exact E.bG H d _ z.E7 e
def CX.aj:∀(I:gh (gh Pu)) (d:Int) (H:gh Int) {P:PD},DI bd P pd Ad o->CX bd P.fl ix sg cl lo pd Ad o->0<=d->d+I.length<=4611686018427387904->d+I.length<=bd.2->CX bd (PD.aj I d H P).2.2.2.fl ix sg cl lo pd Ad o
 | [],d,H,P,_,hT,_,_,_=>hT
 | l::r,d,H,P,h,hT,h0,h1,h2=>by
  simp only[Cg]at h1 h2;have E:PD.aj (l::r) d H P=if (P.aI (d+1) l).1≠0 then ((P.aI (d+1) l).1,d+1,H,(P.aI (d+1) l).2) else PD.aj r (d+1) (H++[d+1]) (P.aI (d+1) l).2:=rfl
  have z:Aw (d+1)=Bm\/∃k,(isNum k=true/\k<=bd.2)/\Aw (d+1)=Aw k:=.inr ⟨d+1,⟨by unfold isNum;simp;omega,by omega⟩,rfl⟩;have O:=(Kp P (Aw (d+1)) (AB (Aw (d+1))) (Ci l)).1;have W:DI bd (P.aI (d+1) l).2 pd Ad o:=h.aH z _ _;have L:CX bd (P.aI (d+1) l).2.fl ix sg cl lo pd Ad o:=hT.dW h O z;rw[E];split
  ·exact L
  ·exact CX.aj r (d+1) _ W L (by omega) (by omega) (by omega)
def SA(h:Gc P){oe nw:Bs}{f:Nat}(E:lookup P.D.A4 (A6 oe)=some f):(P.aM (A6 oe) (A6 nw)).2.F=P.F/\(P.aM (A6 oe) (A6 nw)).2.D.AI=P.D.AI/\
 (((P.aM (A6 oe) (A6 nw)).2.D.A4=P.D.A4/\(P.aM (A6 oe) (A6 nw)).2.D.As=P.D.As/\(P.aM (A6 oe) (A6 nw)).1≠0)\/
   ((P.aM (A6 oe) (A6 nw)).2.D.A4=(P.D.A4.filter λe=>decide (e.1≠A6 oe/\e.1≠A6 nw))++[(A6 nw,f)]/\(P.aM (A6 oe) (A6 nw)).2.D.As=P.D.As++[(P.D.A4.filter λe=>decide (e.1≠A6 oe/\e.1≠A6 nw))++[(A6 nw,f)]])):=by
 have d:¬B5 P.D.A4 (A6 oe)<0:=λd=>by rw[IT,E]at d;cases d
 unfold PD.aM CU;rw[E];dsimp only
 by_cases H:A6 nw=ByteArray.empty
 ·rw[Ae H];exact⟨rfl,rfl,.inl ⟨rfl,rfl,by simp⟩⟩
 ·rw[Aa H];dsimp only
  rw[SH _ _ _ h.Cj d];by_cases z:(bg P.D.n).1=true
  ·rw[Ae z];exact⟨rfl,rfl,.inr ⟨rfl,rfl⟩⟩
  ·rw[Aa z];exact⟨rfl,rfl,.inl ⟨rfl,rfl,λh=>z (H8 h)⟩⟩
def Rj{F:Nat->FC}{s:gh AM}{oe nw:Bs}{f:Nat}(hd:oe≠nw)(m:Bs):vw F ((s.filter λe=>decide (e.1≠A6 oe/\e.1≠A6 nw))++[(A6 nw,f)]) m=if m=nw then some (F f) else if m=oe then none else vw F s m:=by
 have E:lookup (s.filter λe=>decide (e.1≠A6 oe/\e.1≠A6 nw)) (A6 nw)=none:=by
  rw[LF s (λx=>decide (x≠A6 oe/\x≠A6 nw))];simp
 rw[La E];by_cases d:m=nw
 ·rw[Ae d,Ae d]
 ·rw[Aa d,Aa d];unfold vw;rw[LF s (λx=>decide (x≠A6 oe/\x≠A6 nw))];have z:A6 m≠A6 nw:=λe=>d (FN.1 e);by_cases h:m=oe
  ·subst h;simp
  ·have:A6 m≠A6 oe:=λe=>h (FN.1 e);simp[this,z,h]
def DI.eT(h:DI bd P pd Ad o){f:Nat}(hl:lookup P.D.A4 (A6 Bm)=some f)(I:Holds bd (λm=>if m=Ay then some (P.F f) else if m=Bm then none else P.fl m) pd Ad o):DI bd (P.aM (A6 Bm) (A6 Ay)).2 pd Ad o:=by
 have⟨a1,a2,a3⟩:=SA (nw:=Ay) h.bc hl;have L:=DY hl;rcases a3 with⟨d1,d2,_⟩|⟨d1,d2⟩
 ·have es:Bn (P.aM (A6 Bm) (A6 Ay)).2=Bn P:=by unfold Bn;rw[a2,d2]
  exact⟨λs d=>by rw[es]at d;rw[a1];exact h.DP s d,by rw[es];exact h.Ap,by rw[es];exact h.Cj,by rw[es,d1];exact h.CG⟩
 ·obtain⟨s1,E⟩:∃s1,(P.D.A4.filter λe=>decide (e.1≠A6 Bm/\e.1≠A6 Ay))++[(A6 Ay,f)]=s1:=⟨_,rfl⟩;rw[E]at d1 d2;have es:Bn (P.aM (A6 Bm) (A6 Ay)).2=Bn P++[s1]:=by unfold Bn;rw[a2,d2];rfl
  have z:∀s,s∈Bn (P.aM (A6 Bm) (A6 Ay)).2->s∈Bn P\/s=s1:=λs d=>by
   rw[es]at d;rcases AU.1 d with d|d
   ·exact .inl d
   ·exact .inr (by simpa using d)
  have hv:vw P.F s1=λm=>if m=Ay then some (P.F f) else if m=Bm then none else P.fl m:=by
   funext m;rw[<-E,Rj JA.symm];rfl
  refine⟨λs d=>?_,λs d=>?_,λs d=>?_,by rw[es,d1];simp⟩
  ·rw[a1];rcases z s d with d|rfl
   ·exact h.DP s d
   ·rw[hv];exact I
  ·rcases z s d with d|rfl
   ·exact h.Ap s d
   ·rw[<-E,Ei,GW];refine⟨(h.Ap _ h.CG).sublist (Hf.map _),by simp,λa O b H=>?_⟩;simp at H;subst H;obtain⟨e,W,rfl⟩:=CC.1 O;have⟨he1,he2⟩:=GX.1 W;intro Y;have:=Jq (h.Ap _ h.CG) he1 L Y;subst this;simp at he2
  ·rcases z s d with d|rfl
   ·exact h.Cj s d
   ·rw[<-E,Ei,GW];refine⟨(h.Cj _ h.CG).sublist (Hf.map _),by simp,λa O b H=>?_⟩;simp at H;subst H;obtain⟨e,W,rfl⟩:=CC.1 O;have:=(GX.1 W).2;simp at this;exact this.2
def CW.fr{V:View}{first:Int}{H:gh (Int×gh Pu)}{c:FC}(aA:HX bd ⟨first,H.map (·.1)⟩ H)(hc:BV c/\c.1=AS (AB Ay) (Cl first (H.map (·.1))))(W:∀x∈H,((∀p∈x.2,B8 p)/\Cw Cr x.2=true)/\∃c,V (Aw x.1)=some c/\BV c/\c.1=AS (AB (Aw x.1)) (Ci x.2))(I:∀n,isNum n=true->first<=n->V (Af n)=none)(z:∀nm,V nm≠none->EF bd nm)(L:∀nm c,V nm=some c->0<=c.2/\c.2<=c.1.length)(Y:∀m,V' m=if m=Ay then some c else if m=Bm then none else V m):CW bd V' ⟨first,H.map (·.1)⟩ H [] none:=by
 have h:∀m,m≠Ay->m≠Bm->V' m=V m:=λm h1 h2=>by rw[Y,Aa h1,Aa h2]
 refine⟨aA,.inr ⟨c,by rw[Y,Ae rfl],hc.1,hc.2⟩,rfl,λx hx=>?_,λx hx=>(by cases hx),trivial,λn l e=>(by cases e),List.Pairwise.nil,λn h1 h2 h3=>?_,λnm hn=>?_,λnm d E=>?_⟩
 ·rw[h _ (JZ _) (MI _)];exact W x hx
 ·rw[h _ (HD _) (LH _),I n h1 h2]at h3;exact absurd rfl h3
 ·by_cases e:nm=Ay
  ·subst e;exact A0S bd
  ·by_cases O:nm=Bm
   ·rw[Y,Aa e,Ae O]at hn;exact absurd rfl hn
   ·rw[h nm e O]at hn;exact z nm hn
 ·by_cases e:nm=Ay
  ·rw[Y,Ae e]at E;cases E;have:=hc.1;unfold BV at this;omega
  ·by_cases O:nm=Bm
   ·rw[Y,Aa e,Ae O]at E;cases E
   ·rw[h nm e O]at E;exact L nm d E
end
end
end Go.Proofs.YtodcnkbblippnaaGreatDoor
