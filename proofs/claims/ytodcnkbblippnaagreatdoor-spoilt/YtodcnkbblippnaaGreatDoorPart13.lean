/- Part 13 of a proof: walks of the program. -/
import Derived.Test.YtodcnkbblippnaaGreatDoorPart06
import Derived.Test.YtodcnkbblippnaaGreatDoorPart10
import Derived.Test.YtodcnkbblippnaaGreatDoorPart11
import Derived.Test.YtodcnkbblippnaaGreatDoorPart12
namespace Go.Proofs.YtodcnkbblippnaaGreatDoor
set_option maxRecDepth 100000
set_option maxHeartbeats 32000000
set_option linter.defProp false
open Go.Proofs.Tryz
section
open Go.RowKit
def Jj(r:Nat->Nat)(es:gh AM):(ren r es).length=es.length:=by simp[ren]
def SC(r:Nat->Nat):ren r []=[]:=rfl
def MM(r:Nat->Nat)(a b:gh AM):ren r (a++b)=ren r a++ren r b:=by simp[ren]
def Zx(r:Nat->Nat)(es:gh AM)(k:Nat):(ren r es).take k=ren r (es.take k):=by simp[ren,List.map_take]
def Zz(r:Nat->Nat)(es:gh AM)(k:Nat):(ren r es).drop k=ren r (es.drop k):=by simp[ren,List.map_drop]
def OQ(r:Nat->Nat)(es:gh AM)(d:gg):B5 (ren r es) d=B5 es d:=by
 induction es with
 | nil=>rfl
 | cons e t ih=>simp only[ren,GY,B5]at ih ⊢;rw[ih]
def K1(r:Nat->Nat)(es:gh AM)(d:gg):lookup (ren r es) d=(lookup es d).map r:=by
 induction es with
 | nil=>rfl
 | cons e t ih=>
  simp only[ren,GY,lookup]at ih ⊢;by_cases h:e.1=d
  ·simp[h]
  ·simp[h,ih]
def SD(r:Nat->Nat)(es:gh AM)(k:Nat):(ren r es)[k]?=(es[k]?).map λe=>(e.1,r e.2):=by simp[ren]
def Zy(r:Nat->Nat)(es:gh AM)(i:Nat)(d:gg)(k:Nat):Dt (ren r es) i d k=ren r (Dt es i d k):=by
 induction k with
 | zero=>rfl
 | succ k ih=>
  simp only[Dt,ih,SD,MM];cases es[k]? with
  | none=>simp[SC]
  | some e=>
   simp only[Ig];by_cases h:k≠i/\e.1≠d
   ·rw[Ae h,Ae h];rfl
   ·rw[Aa h,Aa h,SC]
def ZA(r:Nat->Nat)(es:gh AM)(k:Nat):ER (ren r es) k=ER es k:=by
 induction k with
 | zero=>rfl
 | succ k ih=>
  simp only[ER,ih,SD];cases es[k]?<;>rfl
def SE(r:Nat->Nat)(es:gh AM):dList (ren r es)=dList es:=by unfold dList;rw[Jj,ZA]
def Rs(r:Nat->Nat)(G F:Nat->FC)(es:gh AM)(h:∀f,Dm f es->G (r f)=F f):B6 G (ren r es)=B6 F es:=by
 induction es with
 | nil=>rfl
 | cons e t ih=>
  have H:=h e.2 ⟨e,by simp,rfl⟩;have d:=ih λf z=>h f (by obtain⟨x,I,E⟩:=z;exact⟨x,Bp _ I,E⟩);simp only[ren,GY,B6]at d ⊢;rw[H,d]
def Uo{es:gh AM}{d:gg}{f:Nat}(h:lookup es d=some f):Dm f es:=by
 induction es with
 | nil=>cases h
 | cons e t ih=>
  simp only[lookup]at h;by_cases z:e.1=d
  ·simp[z]at h;exact⟨e,by simp,h⟩
  ·simp[z]at h;have⟨x,hx,hh⟩:=ih h;exact⟨x,Bp _ hx,hh⟩
def ren_congr{r d:Nat->Nat}{es:gh AM}(h:∀f,Dm f es->d f=r f):ren d es=ren r es:=by
 unfold ren;exact NP λe z=>by rw[h e.2 ⟨e,z,rfl⟩]
def DS.ren_congr{r z:Nat->Nat}{D:DS}(h:∀f,D.Ap f->z f=r f):D.ren z=D.ren r:=by
 unfold DS.ren;rw[Go.Proofs.YtodcnkbblippnaaGreatDoor.ren_congr λf d=>h f (.inl d),Go.Proofs.YtodcnkbblippnaaGreatDoor.ren_congr (es:=D.AI) λf d=>h f (.inr (.inl d))]
 congr 1
 exact NP λc E=>Go.Proofs.YtodcnkbblippnaaGreatDoor.ren_congr λf d=>h f (.inr (.inr ⟨c,E,d⟩))
def B1(w:ga)(b:Nat)(D:DS)(F:Nat->FC)(Ft:Nat->Prop):Prop:=
 ∃r G,Dh w b (D.ren r) G Ft/\(∀f,D.Ap f->G (r f)=F f)/\∀f d,D.Ap f->D.Ap d->r f=r d->f=d
def EA(w:ga)(Ft:Nat->Prop)(w':ga)(b:Nat)(D':DS)(F':Nat->FC):Prop:=
 A3 Ft w w'/\∃d,B1 w' b D' F' d/\(∀k,d k->k<w'.heap.size)/\∀k,d k->Ft k\/w.heap.size<=k
def B1.aN{w w':ga}{b:Nat}{D:DS}{F:Nat->FC}{Ft:Nat->Prop}(h:B1 w b D F Ft)(H:Gb Ft w w'):B1 w' b D F Ft:=by
 obtain⟨r,G,z,d,E⟩:=h;exact⟨r,G,z.aN H,d,E⟩
def B1.Ah{w:ga}{b:Nat}{D:DS}{F:Nat->FC}{Ft:Nat->Prop}(h:B1 w b D F Ft):∃E z d,AK w b E z d D.n:=by
 obtain⟨r,G,⟨E,z,d,vals,VB,H,_⟩,_⟩:=h;exact⟨E,z,d,H.Ah⟩
def B1.of{w:ga}{b:Nat}{D:DS}{F:Nat->FC}{Ft:Nat->Prop}(h:Dh w b D F Ft):B1 w b D F Ft:=by
 refine⟨id,F,?_,λ_ _=>rfl,λ_ _ _ _ h=>h⟩;have:D.ren id=D:=by
  have e:∀es,Go.Proofs.YtodcnkbblippnaaGreatDoor.ren id es=es:=λes=>by simp[Go.Proofs.YtodcnkbblippnaaGreatDoor.ren]
  have d:=funext e;unfold DS.ren;rw[d];simp
 rw[this];exact h
def Dv.bj{w w':ga}{Ft:Nat->Prop}{b:Nat}{H D':DS}{E F':Nat->FC}{r:Nat->Nat}(h:Dv w Ft w' b H E)(L:H=D'.ren r)(hG:∀f,D'.Ap f->E (r f)=F' f)(hi:∀f z,D'.Ap f->D'.Ap z->r f=r z->f=z):EA w Ft w' b D' F':=by
 obtain⟨W,d,I,Y,O⟩:=h;subst L;exact⟨W,d,⟨r,E,I,hG,hi⟩,Y,O⟩
def Ks(D:DS)(r:Nat->Nat):(D.ren r).A4.length=D.A4.length/\(D.ren r).AI.length=D.AI.length/\(D.ren r).As.length=D.As.length/\Jg (D.ren r).As=Jg D.As:=by
 refine⟨Jj _ _,Jj _ _,by simp[DS.ren],?_⟩;unfold Jg DS.ren;rw[WO]
 congr 1
 exact NP λc _=>Jj r c
section
variable{w:ga}{b:Nat}{D:DS}{F:Nat->FC}{Ft:Nat->Prop}
def TW(room:Int)(w:ga):
 Ag 21 #[A0 room] w (Am (A5 w.heap.size) λw'=>B1 w' w.heap.size ⟨[],[],[],IW room⟩ F (One w.heap.size)/\A3 Ab w w'/\w'.heap.size=w.heap.size+1):=by
 refine(A0U room w).mono ?_;rintro e w'⟨L,z,O,I⟩;refine⟨L,B1.of ⟨_,_,_,[],λ_=>.slice none 0 0,⟨z,CT _ _ _ _,CT _ _ _ _,CT _ _ _ _,by intro i W;simp at W,?_,?_⟩,?_⟩,I,O⟩
 ·rintro f (⟨e,d,_⟩|⟨e,d,_⟩|⟨c,h,_⟩)
  ·cases d
  ·cases d
  ·cases h
 ·intro f f' g _ _ E;simp[Value.ownBlock]at E
 ·intro k H;cases H using C6.bJ with
  | Ah=>rfl
  | dir e=>simp[Value.ownBlock]at e
  | Ad e=>simp[Value.ownBlock]at e
  | Al e=>simp[Value.ownBlock]at e
  | Df hm e=>cases hm
  | BK hf=>rcases hf with⟨e,d,_⟩|⟨e,d,_⟩|⟨c,h,_⟩<;>contradiction
  | byt hf e=>simp[Value.ownBlock]at e
def RA(h:B1 w b D F Ft):
 Ag 86 #[A5 b] w (Am (A0 (DC D).1) λw'=>EA w Ft w' b (DC D).2 F):=by
 obtain⟨r,G,h1,O,h3⟩:=h;refine(XM w b _ G Ft h1).mono ?_;rintro e w'⟨Y,q2⟩;have W:(DC (D.ren r)).2=(DC D).2.ren r:=by
  unfold DC;by_cases H:(bg D.n).2.1=0
  ·have E:(bg (D.ren r).n).2.1=0:=H;rw[Ae H,Ae E];rfl
  ·have E:¬(bg (D.ren r).n).2.1=0:=H;rw[Aa H,Aa E];rfl
 have z:∀f,(DC D).2.Ap f->D.Ap f:=by
  intro f d;unfold DC at d;simp only at d;split at d
  ·rcases d with d|d|⟨c,hc,_⟩
   ·exact .inl d
   ·exact .inl d
   ·cases hc
  ·exact d
 exact⟨Y,q2.bj W (λf d=>O f (z f d)) λf L d I=>h3 f L (z f d) (z L I)⟩
def FP{d:gg}{f:Nat}(h:lookup D.A4 d=some f):D.Ap f:=.inl (Uo h)
def On(h:B1 w b D F Ft)(d:gg):
 Ag 85 #[A5 b,.string d] w (Am (A0 (Cq D F d).1) λw'=>EA w Ft w' b (Cq D F d).2.1 (Cq D F d).2.2):=by
 obtain⟨r,G,h1,I,h3⟩:=h;refine(XK w b _ G Ft h1 d).mono ?_;rintro e w'⟨O,Y⟩;have W:lookup (D.ren r).A4 d=(lookup D.A4 d).map r:=K1 r D.A4 d;cases hx:lookup D.A4 d with
 | none=>
  rw[hx]at W;have e1:Cq (D.ren r) G d=(8,D.ren r,G):=by unfold Cq;rw[W];rfl
  have e2:Cq D F d=(8,D,F):=by unfold Cq;rw[hx]
  rw[e1]at O Y;rw[e2];exact⟨O,Y.bj rfl I h3⟩
 | some f=>
  rw[hx]at W;have e1:Cq (D.ren r) G d=((bg D.n).2.1,{D with n:=(bg D.n).2.2}.ren r,if (bg D.n).2.1=0 then upd G (r f) ((G (r f)).1,(G (r f)).1.length) else G):=by unfold Cq;rw[W];rfl
  have e2:Cq D F d=((bg D.n).2.1,{D with n:=(bg D.n).2.2},if (bg D.n).2.1=0 then upd F f ((F f).1,(F f).1.length) else F):=by unfold Cq;rw[hx]
  rw[e1]at O Y;rw[e2];refine⟨O,Y.bj rfl (λz E=>?_) h3⟩;have hf:=FP hx;show (if (bg D.n).2.1=0 then upd G (r f) ((G (r f)).1,(G (r f)).1.length) else G) (r z)=(if (bg D.n).2.1=0 then upd F f ((F f).1,(F f).1.length) else F) z;by_cases L:(bg D.n).2.1=0
  ·rw[Ae L,Ae L];unfold upd;by_cases H:z=f
   ·subst H;simp[I z hf]
   ·have:r z≠r f:=λe=>H (h3 z f E hf e);simp only[this,H,C9];exact I z E
  ·rw[Aa L,Aa L];exact I z E
def Oe{r:Nat->Nat}{G:Nat->FC}(H:∀f,D.Ap f->G (r f)=F f)(I:∀f d,D.Ap f->D.Ap d->r f=r d->f=d){f:Nat}(E:D.Ap f)(c:FC):∀d,D.Ap d->upd G (r f) c (r d)=upd F f c d:=λd z=>by
 unfold upd;by_cases h:d=f
 ·subst h;simp
 ·have:r d≠r f:=λe=>h (I d f z E e);simp only[this,h,C9];exact H d z
def Vs{r:Nat->Nat}{G:Nat->FC}(L:∀f,D.Ap f->G (r f)=F f)(O:∀f d,D.Ap f->D.Ap d->r f=r d->f=d){f:Nat}(I:D.Ap f)(data:gg)(h e:Int):
 (Bw (D.ren r) G (r f) data h e).1=(Bw D F f data h e).1/\(Bw (D.ren r) G (r f) data h e).2.1=(Bw D F f data h e).2.1.ren r/\(∀d,D.Ap d->(Bw (D.ren r) G (r f) data h e).2.2 (r d)=(Bw D F f data h e).2.2 d)/\(∀d,(Bw D F f data h e).2.1.Ap d↔D.Ap d):=by
 have H:Fv (D.ren r) G=Fv D F:=by
  unfold Fv;have:B6 G (D.ren r).A4=B6 F D.A4:=Rs r G F D.A4 λf I=>L f (.inl I);rw[this];rfl
 unfold Bw;rw[H];by_cases W:h>Fv D F
 ·simp only[W,Cp];rw[L f I];refine⟨by first|trivial|rfl,?_,λd E=>Oe L O I _ d E,λd=>?_⟩
  ·by_cases z:e=0
   ·rw[Ae z,Ae z];rfl
   ·rw[Aa z,Aa z]
  ·by_cases z:e=0
   ·rw[Ae z];exact Iff.rfl
   ·rw[Aa z]
 ·simp only[W,C9];rw[L f I];exact⟨by first|trivial|rfl,by first|trivial|rfl,λd E=>Oe L O I _ d E,λ_=>by first|trivial|exact Iff.rfl⟩
def Wc(h:B1 w b D F Ft)(d data:gg)(hroom : -4611686018427387904<=D.n.AA/\D.n.AA<=9223372036854775807)(hu:B6 F D.A4<=4611686018427387904)(hp:0<=D.n.BC/\D.n.BC<=9223372036854775807)(hl:∀f,lookup D.A4 d=some f->(F f).1.length+data.size<=70368744177664):
 Ag 84 #[A5 b,.string d,.string data] w (Am (A0 (Bj D F d data).1) λw'=>EA w Ft w' b (Bj D F d data).2.1 (Bj D F d data).2.2):=by
 obtain⟨r,G,h1,h2,h3⟩:=h;have E:lookup (D.ren r).A4 d=(lookup D.A4 d).map r:=K1 r D.A4 d
 refine(A4t w b _ G Ft h1 d data hroom (by
  have:B6 G (D.ren r).A4=B6 F D.A4:=Rs r G F D.A4 λf W=>h2 f (.inl W)
  rw[this];exact hu) hp (λf W=>by
   rw[E]at W;cases hx:lookup D.A4 d with
   | none=>rw[hx]at W;cases W
   | some f0=>
    rw[hx]at W;simp at W;subst W
    rw[h2 f0 (FP hx)];exact hl f0 hx)).mono ?_
 rintro e w'⟨O,Y⟩;cases hx:lookup D.A4 d with
 | none=>
  rw[hx]at E;have e1:Bj (D.ren r) G d data=(8,D.ren r,G):=by unfold Bj;rw[E];rfl
  have e2:Bj D F d data=(8,D,F):=by unfold Bj;rw[hx]
  rw[e1]at O Y;rw[e2];exact⟨O,Y.bj rfl h2 h3⟩
 | some f=>
  rw[hx]at E;have W:=FP hx;have aA:=W;by_cases c1:(bg D.n).1=true
  ·have e1:Bj (D.ren r) G d data=Bw ({D with n:=(bg D.n).2.2}.ren r) G (r f) data data.size (bg D.n).2.1:=by
    unfold Bj;rw[E];show (if (bg D.n).1=true then _ else _)=_;rw[Ae c1];rfl
   have e2:Bj D F d data=Bw {D with n:=(bg D.n).2.2} F f data data.size (bg D.n).2.1:=by
    unfold Bj;rw[hx];show (if (bg D.n).1=true then _ else _)=_;rw[Ae c1]
   rw[e1]at O Y;rw[e2];have⟨k1,k2,k3,k4⟩:=Vs (D:={D with n:=(bg D.n).2.2}) (r:=r) (G:=G) (F:=F) h2 h3 aA data data.size (bg D.n).2.1;rw[k1]at O;exact⟨O,Y.bj k2 (λH z=>k3 H ((k4 H).1 z)) λH L z I=>h3 H L ((k4 H).1 z) ((k4 L).1 I)⟩
  ·by_cases c2:(bg D.n).2.2.AW=false/\0<data.size
   ·have e1:Bj (D.ren r) G d data=Bw ({D with n:=(bg D.n).2.2}.ren r) G (r f) data ((bg D.n).2.2.BC % data.size) (bg D.n).2.1:=by
     unfold Bj;rw[E];show (if (bg D.n).1=true then _ else if (bg D.n).2.2.AW=false/\0<data.size then _ else _)=_;rw[Aa c1,Ae c2];rfl
    have e2:Bj D F d data=Bw {D with n:=(bg D.n).2.2} F f data ((bg D.n).2.2.BC % data.size) (bg D.n).2.1:=by
     unfold Bj;rw[hx];show (if (bg D.n).1=true then _ else if (bg D.n).2.2.AW=false/\0<data.size then _ else _)=_;rw[Aa c1,Ae c2]
    rw[e1]at O Y;rw[e2];have⟨k1,k2,k3,k4⟩:=Vs (D:={D with n:=(bg D.n).2.2}) (r:=r) (G:=G) (F:=F) h2 h3 aA data ((bg D.n).2.2.BC % data.size) (bg D.n).2.1;rw[k1]at O;exact⟨O,Y.bj k2 (λH z=>k3 H ((k4 H).1 z)) λH L z I=>h3 H L ((k4 H).1 z) ((k4 L).1 I)⟩
   ·have e1:Bj (D.ren r) G d data=((bg D.n).2.1,{D with n:=(bg D.n).2.2}.ren r,G):=by
     unfold Bj;rw[E];show (if (bg D.n).1=true then _ else if (bg D.n).2.2.AW=false/\0<data.size then _ else _)=_;rw[Aa c1,Aa c2];rfl
    have e2:Bj D F d data=((bg D.n).2.1,{D with n:=(bg D.n).2.2},F):=by
     unfold Bj;rw[hx];show (if (bg D.n).1=true then _ else if (bg D.n).2.2.AW=false/\0<data.size then _ else _)=_;rw[Aa c1,Aa c2]
    rw[e1]at O Y;rw[e2];exact⟨O,Y.bj rfl h2 h3⟩
def Km{es:gh AM}{n:DN}(z:∀f,Dm f es->D.Ap f)(f:Nat)(d:({D with A4:=es,As:=D.As++[es],n:=n}:DS).Ap f):D.Ap f:=by
 rcases d with d|d|⟨c,h,d⟩
 ·exact z f d
 ·exact .inr (.inl d)
 ·rcases AU.1 h with h|h
  ·exact .inr (.inr ⟨c,h,d⟩)
  ·simp at h;subst h;exact z f d
def Og(r:Nat->Nat)(es:gh AM)(n:DN):({D.ren r with A4:=ren r es,As:=(D.ren r).As++[ren r es],n:=n}:DS)=({D with A4:=es,As:=D.As++[es],n:=n}:DS).ren r:=by
 simp[DS.ren]
def ZF(h:B1 w b D F Ft)(d:gg)(hs:D.A4.length<1099511627776/\D.As.length<1099511627776):
 Ag 193 #[A5 b,.string d] w (Am (A0 (Dn D d).1) λw'=>EA w Ft w' b (Dn D d).2 F):=by
 obtain⟨r,G,h1,h2,h3⟩:=h;have⟨l1,l2,l3,l4⟩:=Ks D r;refine(ZE w b _ G Ft h1 d (by rw[l1,l3];exact hs)).mono ?_;rintro e w'⟨I,L⟩;have H:B5 (D.ren r).A4 d=B5 D.A4 d:=OQ r D.A4 d;by_cases c1:B5 D.A4 d<0
 ·have Y:Dn (D.ren r) d=(8,D.ren r):=by unfold Dn;rw[H,Ae c1]
  have O:Dn D d=(8,D):=by unfold Dn;rw[Ae c1]
  rw[Y]at I L;rw[O];exact⟨I,L.bj rfl h2 h3⟩
 ·by_cases c2:(bg D.n).1=true
  ·have O:Dn D d=((bg D.n).2.1,{D with A4:=D.A4.take (B5 D.A4 d).toNat++D.A4.drop ((B5 D.A4 d).toNat+1),As:=D.As++[D.A4.take (B5 D.A4 d).toNat++D.A4.drop ((B5 D.A4 d).toNat+1)],n:=(bg D.n).2.2}):=by
    unfold Dn;rw[Aa c1];simp only[c2,Cp]
   have Y:Dn (D.ren r) d=((bg D.n).2.1,{D with A4:=D.A4.take (B5 D.A4 d).toNat++D.A4.drop ((B5 D.A4 d).toNat+1),As:=D.As++[D.A4.take (B5 D.A4 d).toNat++D.A4.drop ((B5 D.A4 d).toNat+1)],n:=(bg D.n).2.2}.ren r):=by
    have z:(bg (D.ren r).n).1=true:=c2;unfold Dn;rw[H,Aa c1];simp only[z,Cp];rw[<-Og,MM,<-Zx,<-Zz];rfl
   rw[Y]at I L;rw[O];have E:∀f,Dm f (D.A4.take (B5 D.A4 d).toNat++D.A4.drop ((B5 D.A4 d).toNat+1))->D.Ap f:=by
    rintro f⟨x,W,he⟩;rcases AU.1 W with W|W
    ·exact .inl ⟨x,J6 W,he⟩
    ·exact .inl ⟨x,Mk W,he⟩
   exact⟨I,L.bj rfl (λf hf=>h2 f (Km E f hf)) λf f' hf aA=>h3 f f' (Km E f hf) (Km E f' aA)⟩
  ·(have O:Dn D d=((bg D.n).2.1,{D with n:=(bg D.n).2.2}):=by unfold Dn;rw[Aa c1];simp only[c2];rfl);have Y:Dn (D.ren r) d=((bg D.n).2.1,{D with n:=(bg D.n).2.2}.ren r):=by
    have z:¬(bg (D.ren r).n).1=true:=c2;unfold Dn;rw[H,Aa c1];simp only[z];rfl
   rw[Y]at I L;rw[O];exact⟨I,L.bj rfl h2 h3⟩
def Zv(h:B1 w b D F Ft)(oe d:gg)(hs:D.A4.length<1099511627776/\D.As.length<1099511627776):
 Ag 242 #[A5 b,.string oe,.string d] w (Am (A0 (CU D oe d).1) λw'=>EA w Ft w' b (CU D oe d).2 F):=by
 obtain⟨r,G,h1,h2,h3⟩:=h;have⟨l1,l2,l3,l4⟩:=Ks D r;refine(Zu w b _ G Ft h1 oe d (by rw[l1,l3];exact hs)).mono ?_;rintro e w'⟨H,I⟩;have E:lookup (D.ren r).A4 oe=(lookup D.A4 oe).map r:=K1 r D.A4 oe;cases hx:lookup D.A4 oe with
 | none=>
  rw[hx]at E;have Y:CU (D.ren r) oe d=(8,D.ren r):=by unfold CU;rw[E];rfl
  have O:CU D oe d=(8,D):=by unfold CU;rw[hx]
  rw[Y]at H I;rw[O];exact⟨H,I.bj rfl h2 h3⟩
 | some f=>
  rw[hx]at E;by_cases c1:d=ByteArray.empty
  ·(have Y:CU (D.ren r) oe d=(8,D.ren r):=by unfold CU;rw[E];simp only[Ig];rw[Ae c1]);(have O:CU D oe d=(8,D):=by unfold CU;rw[hx];simp only;rw[Ae c1]);rw[Y]at H I;rw[O];exact⟨H,I.bj rfl h2 h3⟩
  ·by_cases c2:(bg D.n).1=true
   ·have O:CU D oe d=((bg D.n).2.1,{D with A4:=Dt D.A4 (B5 D.A4 oe).toNat d D.A4.length++[(d,f)],As:=D.As++[Dt D.A4 (B5 D.A4 oe).toNat d D.A4.length++[(d,f)]],n:=(bg D.n).2.2}):=by
     unfold CU;rw[hx];simp only;rw[Aa c1];simp only[c2,Cp]
    have Y:CU (D.ren r) oe d=((bg D.n).2.1,{D with A4:=Dt D.A4 (B5 D.A4 oe).toNat d D.A4.length++[(d,f)],As:=D.As++[Dt D.A4 (B5 D.A4 oe).toNat d D.A4.length++[(d,f)]],n:=(bg D.n).2.2}.ren r):=by
     have L:(bg (D.ren r).n).1=true:=c2;have aB:B5 (D.ren r).A4 oe=B5 D.A4 oe:=OQ r D.A4 oe;unfold CU;rw[E];simp only[Ig];rw[Aa c1];simp only[L,Cp];rw[<-Og,MM,<-Zy,aB,l1];rfl
    rw[Y]at H I;rw[O];have W:∀f',Dm f' (Dt D.A4 (B5 D.A4 oe).toNat d D.A4.length++[(d,f)])->D.Ap f':=by
     rintro f'⟨x,z,he⟩;rcases AU.1 z with z | z
     ·exact .inl ⟨x,MN _ _ _ _ x z,he⟩
     ·simp at z;subst z;cases he;exact FP hx
    exact⟨H,I.bj rfl (λf hf=>h2 f (Km W f hf)) λf f' hf aA=>h3 f f' (Km W f hf) (Km W f' aA)⟩
   ·(have O:CU D oe d=((bg D.n).2.1,{D with n:=(bg D.n).2.2}):=by unfold CU;rw[hx];simp only;rw[Aa c1];simp only[c2];rfl);have Y:CU (D.ren r) oe d=((bg D.n).2.1,{D with n:=(bg D.n).2.2}.ren r):=by
     have L:¬(bg (D.ren r).n).1=true:=c2;unfold CU;rw[E];simp only[Ig];rw[Aa c1];simp only[L];rfl
    rw[Y]at H I;rw[O];exact⟨H,I.bj rfl h2 h3⟩
def Vv(h:B1 w b D F Ft)(d:gg)(k:Nat)(hk:¬D.Ap k)(hs:D.A4.length<1099511627776/\D.As.length<1099511627776):
 Calls Tryz.prog 83 #[.pointer (some ⟨b,0,none⟩),.string d] w λe w'=>e=.returned (.int .i64 (CN D d k).1)/\EA w Ft w' b (CN D d k).2 (upd F k ([],0)):=by
 obtain⟨r,G,h1,h2,h3⟩:=h;have⟨l1,l2,l3,l4⟩:=Ks D r;have O:∀f,D.Ap f->r f<w.heap.size:=by
  obtain⟨vd,vs,vc,vals,VB,hr,_⟩:=h1;intro f z;refine hr.lt (.BK ?_);rcases z with⟨x,H,rfl⟩|⟨x,H,rfl⟩|⟨c,L,x,H,rfl⟩
  ·exact .inl ⟨_,E5 H,rfl⟩
  ·exact .inr (.inl ⟨_,E5 H,rfl⟩)
  ·exact .inr (.inr ⟨_,E5 L,_,E5 H,rfl⟩)
 refine(A26 w b _ G Ft h1 d (by rw[l1,l3];exact hs)).mono ?_;rintro e w'⟨f0,q0,q1,q2⟩;have aA:B5 (D.ren r).A4 d=B5 D.A4 d:=OQ r D.A4 d;have hG:∀f,D.Ap f->upd G f0 ([],0) (r f)=upd F k ([],0) f:=λf z=>by
  unfold upd;have n1:r f≠f0:=by have:=O f z;omega
  have n2:f≠k:=λe=>hk (e ▸ z);simp only[n1,n2,C9];exact h2 f z
 by_cases c1:d=ByteArray.empty\/B5 D.A4 d≥0
 ·have e1:CN (D.ren r) d f0=(8,D.ren r):=by unfold CN;rw[aA,Ae c1]
  have e2:CN D d k=(8,D):=by unfold CN;rw[Ae c1]
  rw[e1]at q1 q2;rw[e2];exact⟨q1,q2.bj rfl hG h3⟩
 ·by_cases c2:(bg D.n).1=true
  ·have e2:CN D d k=((bg D.n).2.1,{D with A4:=D.A4++[(d,k)],As:=D.As++[D.A4++[(d,k)]],n:=(bg D.n).2.2}):=by
    unfold CN;rw[Aa c1];simp only[c2,Cp]
   have E:∀f,D.Ap f->(λf=>if f=k then f0 else r f) f=r f:=λf z=>by
    have n2:f≠k:=λe=>hk (e ▸ z);simp only[n2,C9]
   have aB:D.ren (λf=>if f=k then f0 else r f)=D.ren r:=DS.ren_congr E;have e1:CN (D.ren r) d f0=((bg D.n).2.1,{D with A4:=D.A4++[(d,k)],As:=D.As++[D.A4++[(d,k)]],n:=(bg D.n).2.2}.ren (λf=>if f=k then f0 else r f)):=by
    have Y:(bg (D.ren r).n).1=true:=c2;unfold CN;rw[aA,Aa c1];simp only[Y,Cp];rw[<-Og,aB,MM];have e3:ren (λf=>if f=k then f0 else r f) D.A4=(D.ren r).A4:=by
     have:=ES DS.A4 aB;exact this
    rw[e3];(have e4:ren (λf=>if f=k then f0 else r f) [(d,k)]=[(d,f0)]:=by simp[ren]);rw[e4];rfl
   rw[e1]at q1 q2;rw[e2];have I:∀f,({D with A4:=D.A4++[(d,k)],As:=D.As++[D.A4++[(d,k)]],n:=(bg D.n).2.2}:DS).Ap f->D.Ap f\/f=k:=by
    have key:∀f,Dm f (D.A4++[(d,k)])->D.Ap f\/f=k:=by
     rintro f⟨x,H,rfl⟩;rcases AU.1 H with H|H
     ·exact .inl (.inl ⟨x,H,rfl⟩)
     ·simp at H;subst H;exact .inr rfl
    rintro f (z|z|⟨c,L,z⟩)
    ·exact key f z
    ·exact .inl (.inr (.inl z))
    ·rcases AU.1 L with L|L
     ·exact .inl (.inr (.inr ⟨c,L,z⟩))
     ·simp at L;subst L;exact key f z
   refine⟨q1,q2.bj rfl (λf z=>?_) λf f' z aD e=>?_⟩
   ·rcases I f z with h|h
    ·simp only[E f h];exact hG f h
    ·subst h;simp[upd]
   ·rcases I f z with h|h<;>rcases I f' aD with W | W
    ·simp only[E f h,E f' W]at e;exact h3 f f' h W e
    ·subst W;simp only[E f h,Cp]at e;have:=O f h;omega
    ·subst h;simp only[E f' W,Cp]at e;have:=O f' W;omega
    ·rw[h,W]
  ·(have e2:CN D d k=((bg D.n).2.1,{D with n:=(bg D.n).2.2}):=by unfold CN;rw[Aa c1];simp only[c2];rfl);have e1:CN (D.ren r) d f0=((bg D.n).2.1,{D with n:=(bg D.n).2.2}.ren r):=by
    have Y:¬(bg (D.ren r).n).1=true:=c2;unfold CN;rw[aA,Aa c1];simp only[Y];rfl
   rw[e1]at q1 q2;rw[e2];exact⟨q1,q2.bj rfl hG h3⟩
def SX(h:B1 w b D F Ft)(d:gg)(p n:Int):
 Ag 82 #[A5 b,.string d,A0 p,A0 n] w (Am (.tuple #[.string ⟨(EP D F d p n).1.toArray⟩,A0 (EP D F d p n).2]) λw'=>w=w'):=by
 obtain⟨r,G,I,H,h3⟩:=h;have z:lookup (D.ren r).A4 d=(lookup D.A4 d).map r:=K1 r D.A4 d;have E:EP (D.ren r) G d p n=EP D F d p n:=by
  unfold EP;rw[z];cases hx:lookup D.A4 d with
  | none=>rfl
  | some f=>simp only[Ig,H f (FP hx)]
 have:=ZO w b _ G Ft I d p n
 rwa [E]at this
def MH(h:B1 w b D F Ft)(d:gg):
 Ag 81 #[A5 b,.string d] w (Am (.tuple #[A0 (Cz D F d).1,A0 (Cz D F d).2]) λw'=>w=w'):=by
 obtain⟨r,G,Y,L,h3⟩:=h;have E:lookup (D.ren r).A4 d=(lookup D.A4 d).map r:=K1 r D.A4 d;have I:Cz (D.ren r) G d=Cz D F d:=by
  unfold Cz;rw[E];cases hx:lookup D.A4 d with
  | none=>rfl
  | some f=>simp only[Ig,L f (FP hx)]
 obtain⟨vd,O,H,z,aA,W,_⟩:=Y;have:=YL w b _ G vd O H z aA W d
 rwa [I]at this
def A1k(h:B1 w b D F Ft)(E:D.A4.length<1099511627776):
 Ag 76 #[A5 b] w λe w'=>∃v,e=.returned v/\w'.ownsRow 0 9 1 v D.A4.length (FG (dList D.A4))/\A3 Ab w w'/\(∀g,v.ownBlock=some g->w.heap.size<=g):=by
 obtain⟨r,G,z,h2,h3⟩:=h;have⟨l1,l2,l3,l4⟩:=Ks D r;have:=Py w b _ G Ft z (by rw[l1];exact E);have d:dList (D.ren r).A4=dList D.A4:=SE r D.A4
 rwa [l1,d]at this
def A2R(h:B1 w b D F Ft):Ag 36 #[A5 b] w (Am (.bool D.n.AW) λw'=>w=w'):=by
 have⟨vd,vs,vc,h⟩:=h.Ah;exact A2Q w b vd vs vc D.n h
def SP(h:B1 w b D F Ft):Ag 50 #[A5 b] w (Am (A0 D.n.Bl) λw'=>w=w'):=by
 have⟨vd,vs,vc,h⟩:=h.Ah;exact ZG w b vd vs vc D.n h
def Vt(h:B1 w b D F Ft)(c:Int):Ag 35 #[A5 b,A0 c] w (Am (.tuple #[]) λw'=>EA w Ft w' b {D with n:={D.n with Ce:=if c>0 then wrap64 (D.n.AQ+c) else 0}} F):=by
 obtain⟨r,G,⟨vd,H,E,vals,VB,d,z⟩,I,O⟩:=h;refine(A2Y w b vd H E D.n c d.Ah).mono ?_;rintro e w'⟨L,Y,W⟩;exact⟨L,(d.bO z Y W).bj (D':={D with n:={D.n with Ce:=if c>0 then wrap64 (D.n.AQ+c) else 0}}) rfl I O⟩
def Vj(h:B1 w b D F Ft)(c p:Int):Ag 78 #[A5 b,A0 c,A0 p] w (Am (.tuple #[]) λw'=>EA w Ft w' b {D with n:=Ev D.n c p} F):=by
 obtain⟨r,G,⟨W,E,Y,vals,VB,d,L⟩,z,O⟩:=h;refine(A2A w b W E Y D.n c p d.Ah).mono ?_;rintro e w'⟨H,q2,I⟩;exact⟨H,(d.bO L q2 I).bj (D':={D with n:=Ev D.n c p}) rfl z O⟩
def Vy(r:Nat->Nat)(D:DS)(d:Int):Ga (D.ren r) d=ren r (Ga D d):=by
 unfold Ga;have:(D.ren r).As.length=D.As.length:=by simp[DS.ren]
 rw[this];cases Fo d D.As.length with
 | zero=>rfl
 | succ k=>
  show (D.As.map (ren r)).getD k []=ren r (D.As.getD k []);rw[He,He,QL];cases D.As[k]?<;>rfl
def Qi(D:DS)(d:Int)(f:Nat)(h:Dm f (Ga D d)):D.Ap f:=by
 unfold Ga at h;split at h
 ·exact .inr (.inl h)
 ·rename_i k _;rw[He]at h;cases hx:D.As[k]? with
  | none=>rw[hx]at h;obtain⟨e,z,_⟩:=h;cases z
  | some c=>rw[hx]at h;exact .inr (.inr ⟨c,KM hx,h⟩)
def A3e{r:Nat->Nat}{G:Nat->FC}(I:∀f,D.Ap f->G (r f)=F f)(L:∀f E,D.Ap f->D.Ap E->r f=r E->f=E){es:gh AM}(z:∀f,Dm f es->D.Ap f)(H:gh Int)(names:gh gg)(k:Nat):
 ∀f,D.Ap f->E1 (ren r es) H names G k (r f)=E1 es H names F k f:=by
 induction k with
 | zero=>exact I
 | succ k ih=>
  intro f h;simp only[E1];cases names[k]? with
  | none=>exact ih f h
  | some nd=>
   simp only[K1];cases hx:lookup es nd with
   | none=>exact ih f h
   | some f0=>
    have d:=z f0 (Uo hx);simp only[Ig,ih f0 d];exact Oe ih L d _ f h
def A3c(h:B1 w b D F Ft)(z:Int)(W:gd)(I:gh Int)(ht:O0 w W I)(aB:∀ad n c x,n≠0->W=.slice ad n c->ad=some x->¬Ft x.block)(O:D.A4.length<1099511627776/\D.AI.length<1099511627776/\D.As.length<1099511627776/\∀c∈D.As,c.length<1099511627776)(hdi : -9223372036854775808<=z/\z<=9223372036854775807)(aA:∀t∈I,-9223372036854775808<=t/\t<=9223372036854775807)(hF:∀f,D.Ap f->0<=(F f).2/\(F f).2<=(F f).1.length/\(F f).1.length<=1099511627776):
 Ag 32 #[A5 b,A0 z,W] w (Am (.tuple #[]) λw'=>EA w Ft w' b (Fw D F z I).1 (Fw D F z I).2):=by
 obtain⟨r,G,h1,h2,h3⟩:=h;have⟨l1,l2,l3,l4⟩:=Ks D r
 refine(A3b w b _ G Ft h1 z W I ht aB (by
  rw[l1,l2,l3];refine⟨O.1,O.2.1,O.2.2.1,λc hc=>?_⟩;obtain⟨c0,Y,rfl⟩:=CC.1 hc
  rw[Jj];exact O.2.2.2 c0 Y) hdi aA (λf' E=>by
  obtain⟨f,L,rfl⟩:=DS.cJ E
  rw[h2 f L];exact hF f L)).mono ?_
 rintro e w'⟨L,q2⟩;have d:∀f,(Fw D F z I).1.Ap f->D.Ap f:=by
  rintro f (H|H|⟨c,hc,_⟩)
  ·exact Qi D z f H
  ·exact Qi D z f H
  ·cases hc
 refine⟨L,q2.bj (r:=r) ?_ (λf H=>?_) λf f' H E=>h3 f f' (d f H) (d f' E)⟩
 ·simp only[Fw,Vy];rfl
 ·simp only[Fw,Vy,SE,Jj];exact A3e h2 h3 (Qi D z) I _ _ f (d f H)
end
def Up(N:Nat):Nat->Prop:=λk=>N<=k
def B1.ag{w:ga}{b:Nat}{D:DS}{F:Nat->FC}{Ft:Nat->Prop}(h:B1 w b D F Ft):B1 w.drew b D F Ft:=h.aN λ_ _=>rfl
def EA.dF{w w':ga}{b:Nat}{D:DS}{F:Nat->FC}{Ft:Nat->Prop}(h:EA w.drew Ft w' b D F):EA w Ft w' b D F:=by
 obtain⟨d,z⟩:=h;exact⟨⟨d.os,d.G3,d.G5,d.Aj,d.An⟩,z⟩
section
variable{w:ga}{b fb:Nat}{D:DS}{F:Nat->FC}{Ft:Nat->Prop}{T:TypeId}{nd:gg}{s:Nat}
def Vw(d:Bd w fb T (A5 b) nd s)(h:B1 w b D F Ft)(k:Nat)(z:¬D.Ap k)(I:D.A4.length<1099511627776/\D.As.length<1099511627776):
 Ag 240 #[A5 fb] w (Am (A0 (CN D nd k).1) λw'=>EA w Ft w' b (CN D nd k).2 (upd F k ([],0))):=by
 have c0:=d.c0;have c1:=d.c1;have CR:=A1 (Vv h.ag nd k z I);generalize hq:(CN D nd k).1=q at CR ⊢
 go_enter func240,ntmps240
 go_wp2;refine G0 (λw'=>A7 w' fb 0 (A5 b)/\A7 w' fb 1 (.string nd)) 8
  (BG [0,1,2,3,4,5,6,7] []) (by kernel_rfl) (by kernel_rfl) (λ_ _ _ _ _ h=>h) ⟨c0,c1⟩ ?_
 iterate 8 (refine Ek (v:=?_) rfl (by rfl) ?_ ?_;rotate_left;(· (intro w' E;(try dsimp only at E);go_simp;try with_reducible rfl));(try simp only[Cs]))
 refine G1 ?_;simp only[DW,Dz];go_wp2_with (go_at_call 83;refine CR.k ?_;rintro w' L;have H:=A1 L);go_ret;exact⟨rfl,H.o.dF⟩
def XL(d:Bd w fb T (A5 b) nd s)(h:B1 w b D F Ft):
 Ag 164 #[A5 fb] w (Am (A0 (Cq D F nd).1) λw'=>EA w Ft w' b (Cq D F nd).2.1 (Cq D F nd).2.2):=by
 have c0:=d.c0;have c1:=d.c1;have CR:=A1 (On h.ag nd);generalize hq:(Cq D F nd).1=q at CR ⊢
 go_enter func164,ntmps164
 go_wp2;refine G0 (λw'=>A7 w' fb 0 (A5 b)/\A7 w' fb 1 (.string nd)) 8
  (BG [0,1,2,3,4,5,6,7] []) (by kernel_rfl) (by kernel_rfl) (λ_ _ _ _ _ h=>h) ⟨c0,c1⟩ ?_
 iterate 8 (refine Ek (v:=?_) rfl (by rfl) ?_ ?_;rotate_left;(· (intro w' z;(try dsimp only at z);go_simp;try with_reducible rfl));(try simp only[Cs]))
 refine G1 ?_;simp only[DW,Dz];go_wp2_with (go_at_call 85;refine CR.k ?_;rintro w' H;have E:=A1 H);go_ret;exact⟨rfl,E.o.dF⟩
end
def DQ(D:DS)(F:Nat->FC)(nd:gg):gh UInt8×Int:=match lookup D.A4 nd with
 | some f=>((F f).1,0)
 | none=>([],8)
def B1.ay{w w':ga}{b:Nat}{D:DS}{F:Nat->FC}{Ft:Nat->Prop}(h:B1 w b D F Ft)(d:∀k,Ft k->k<w.heap.size)(E:A3 Ab w w'):B1 w' b D F Ft:=h.aN λk z=>E.An k (d k z) (λh=>h)
section
variable{w:ga}{b fb:Nat}{D:DS}{F:Nat->FC}{Ft:Nat->Prop}{T:TypeId}{nd:gg}{s:Nat}
def Wm(hf:Bd w fb T (A5 b) nd s)(h:B1 w b D F Ft):
 Ag 166 #[A5 fb] w (Am (.tuple #[.string ⟨(DQ D F nd).1.toArray⟩,A0 (DQ D F nd).2]) λw'=>A3 Ab w w'):=by
 obtain⟨d,aA⟩:∃d,(Cz D F nd).1=d:=⟨_,rfl⟩;obtain⟨ze,H⟩:∃ze,(Cz D F nd).2=ze:=⟨_,rfl⟩;have aR:∀w',B1 w' b D F Ft->Ag 81 #[A5 b,.string nd] w' λe O=>e=.returned (.tuple #[A0 d,A0 ze])/\w'=O:=λw' h=>by
  rw[<-aA,<-H];exact MH h nd
 have aQ:∀w',B1 w' b D F Ft->Ag 82 #[A5 b,.string nd,A0 0,A0 d] w' λe O=>e=.returned (.tuple #[.string ⟨(EP D F nd 0 d).1.toArray⟩,A0 (EP D F nd 0 d).2])/\w'=O:=λw' h=>SX h nd 0 d;have aG:=A1 aR;have aP:=A1 aQ;have aB:(ze=0/\Hid ((EP D F nd 0 d).1=(DQ D F nd).1/\(EP D F nd 0 d).2=(DQ D F nd).2))\/(ze=8/\Hid ((DQ D F nd).1=[]/\(DQ D F nd).2=8)):=by
  unfold Cz at aA H;unfold EP DQ Hid;cases hx:lookup D.A4 nd with
  | none=>rw[hx]at H;exact .inr ⟨H.symm,rfl,rfl⟩
  | some f=>
   rw[hx]at H aA;subst aA;refine .inl ⟨H.symm,?_⟩;dsimp only
   rw[Aa (by omega)];simp
 obtain⟨rs,aI⟩:∃rs,(DQ D F nd).1=rs:=⟨_,rfl⟩;obtain⟨re,aN⟩:∃re,(DQ D F nd).2=re:=⟨_,rfl⟩;rw[aI,aN]at aB ⊢
 go_enter func166,ntmps166
 go_wp2;refine Hx 13 (λy=>{tmps:=#[A5 fb,undef,.string ⟨#[]⟩,A0 0,y 12,undef,y 9,y 0,y 1,y 2,y 3,y 4,y 5,y 6,y 7,y 8,y 10,y 11,undef,undef,undef,undef,undef,undef,undef,undef,undef,undef,undef,undef,undef,undef,undef],defers:=[]}) (λ_=>undef)
  (λw'=>Bd w' fb T (A5 b) nd s/\B1 w' b D F Ft/\A3 Ab w w') (A3 Ab)
  (λj x w'=>match j with
   | 0=>x=(A5 fb)
   | 1=>x=(A5 fb)
   | 2=>x=(A5 fb)
   | 3=>x=(A5 b)
   | 4=>x=(A5 fb)
   | 5=>x=(A5 fb)
   | 6=>x=.pointer (some (Ac fb 1))
   | 7=>x=.string nd
   | 8=>x=.tuple #[A0 d,A0 ze]
   | 9=>x=.tuple #[A0 d,A0 ze]
   | 10=>x=A0 d
   | 11=>x=A0 ze
   | 12=>x=A0 d
   | _=>True)
  (by kernel_rfl) (by kernel_rfl) rfl ?_ ?_ ?_ ?_
 ·exact⟨hf,h.ag,(A3.I _ _).ag⟩
 ·intro j x w1 w2 hR aM W;split at W<;>exact W
 ·simp only[Fe,EZ,FY,HK]
  repeat' (with_reducible apply And.intro)
  all_goals refine⟨?_,(by intro y L _ _ h;exact Bool.noConfusion h),λy x=>rfl⟩
  all_goals
   intro y L hS Y hw K hK;obtain⟨E,aD,aE⟩:=hS;simp[Gr,Region.binds,Fi,List.filter_cons]at Y;have c0:=E.c0;have c1:=E.c1;have I:Hid (Bd L fb T (A5 b) nd s/\B1 L b D F Ft/\A3 Ab w L):=⟨E,aD,aE⟩;have aF:=A1 hK
  all_goals dsimp only
  all_goals try go_simp
  all_goals try with_reducible exact aF.o _ _ _ rfl (by simp[Act.put,Y]) (A3.I _ _) I.o
  all_goals try
   (have aH:y 3=(A5 b):=by with_reducible exact Y.1);refine(aG.o L I.o.2.1).k ?_;rintro w2 rfl;exact aF.o _ _ _ rfl (by simp[Act.put,Y]) (A3.I _ _) I.o
 ·intro y L hS W;have aL:=W 11 (by omega);have aJ:=W 12 (by omega);have I:=A1 hS;rcases aB with⟨rfl,aB⟩|⟨rfl,aB⟩
  ·(have aO:∀w',B1 w' b D F Ft->Ag 82 #[A5 b,.string nd,A0 0,A0 d] w' λe O=>e=.returned (.tuple #[.string ⟨rs.toArray⟩,A0 re])/\w'=O:=by rw[<-aB.o.1,<-aB.o.2];exact aP.o);have aK:=A1 aO;go_wp2;refine Hx 13 (λz=>{tmps:=#[A5 fb,undef,z 12,A0 0,A0 d,A0 0,y 9,y 0,y 1,y 2,y 3,y 4,y 5,y 6,y 7,y 8,y 10,A0 0,A0 0,.bool false,undef,z 0,z 1,z 2,z 3,z 4,z 5,z 6,z 7,z 8,z 9,z 10,z 11],defers:=[]}) (λj=>if j=12 then .string ⟨#[]⟩ else undef)
    (λw'=>Bd w' fb T (A5 b) nd s/\B1 w' b D F Ft/\A3 Ab w w') (A3 Ab)
    (λj x w'=>match j with
     | 0=>x=(A5 fb)
     | 1=>x=(A5 fb)
     | 2=>x=(A5 fb)
     | 3=>x=(A5 b)
     | 4=>x=(A5 fb)
     | 5=>x=(A5 fb)
     | 6=>x=.pointer (some (Ac fb 1))
     | 7=>x=.string nd
     | 8=>x=A0 d
     | 9=>x=.tuple #[.string ⟨rs.toArray⟩,A0 re]
     | 10=>x=.string ⟨rs.toArray⟩
     | 11=>x=A0 re
     | 12=>x=.string ⟨rs.toArray⟩
     | _=>True)
    (by kernel_rfl) (by kernel_rfl) rfl ?_ ?_ ?_ ?_
   ·exact⟨I.o.1,I.o.2.1.ag,I.o.2.2.ag⟩
   ·intro j x w1 w2 hR aM W;split at W<;>exact W
   ·clear I aL aJ;simp only[Fe,EZ,FY,HK]
    repeat' (with_reducible apply And.intro)
    all_goals refine⟨?_,(by intro y L _ _ h;exact Bool.noConfusion h),λy x=>rfl⟩
    all_goals
     intro z L hS Y hw K hK;obtain⟨E,aD,aE⟩:=hS;simp[Gr,Region.binds,Fi,List.filter_cons]at Y;have c0:=E.c0;have c1:=E.c1;have I:Hid (Bd L fb T (A5 b) nd s/\B1 L b D F Ft/\A3 Ab w L):=⟨E,aD,aE⟩;have aF:=A1 hK
    all_goals dsimp only
    all_goals try go_simp
    all_goals try with_reducible exact aF.o _ _ _ rfl (by simp[Act.put,Y]) (A3.I _ _) I.o
    all_goals try
     (have aH:z 3=(A5 b):=by with_reducible exact Y.1);refine(aK.o L I.o.2.1).k ?_;rintro w2 rfl;exact aF.o _ _ _ rfl (by simp[Act.put,Y]) (A3.I _ _) I.o
   ·intro z wz hZ W;have z11:=W 11 (by omega);have z12:=W 12 (by omega);have aS:=A1 hZ;go_wp2;go_ret2;exact⟨rfl,aS.o.2.2⟩
  ·go_wp2;go_ret2;rw[aB.o.1,aB.o.2];exact⟨rfl,I.o.2.2⟩
end
end
end Go.Proofs.YtodcnkbblippnaaGreatDoor
