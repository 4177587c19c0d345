/- Part 16 of a proof: walks of the program. -/
import Derived.Test.YtodcnkbblippnaaGreatDoorShelf
import Derived.Lib.ItoaLen
import Derived.Test.YtodcnkbblippnaaGreatDoorPart05
namespace Go.Proofs.YtodcnkbblippnaaGreatDoor
set_option maxRecDepth 100000
set_option maxHeartbeats 32000000
set_option linter.defProp false
open Go.Proofs.Tryz
section
open Go.RowKit
def HP(r:Nat->Nat)(es:List AL):(ren r es).length=es.length:=by simp[ren]
def Lf(r:Nat->Nat):ren r []=[]:=rfl
def HQ(r:Nat->Nat)(a b:List AL):ren r (a++b)=ren r a++ren r b:=by simp[ren]
def Pd(r:Nat->Nat)(es:List AL)(k:Nat):(ren r es).take k=ren r (es.take k):=by simp[ren,List.map_take]
def Pf(r:Nat->Nat)(es:List AL)(k:Nat):(ren r es).drop k=ren r (es.drop k):=by simp[ren,List.map_drop]
def Jb(r:Nat->Nat)(es:List AL)(name:ByteArray):AN (ren r es) name=AN es name:=by
 induction es with
 | nil=>rfl
 | cons e t ih=>simp only[ren,ET,AN]at ih ⊢;rw[ih]
def Hb(r:Nat->Nat)(es:List AL)(name:ByteArray):lookup (ren r es) name=(lookup es name).map r:=by
 induction es with
 | nil=>rfl
 | cons e t ih=>
  simp only[ren,ET,lookup]at ih ⊢;by_cases h:e.1=name
  ·simp[h]
  ·simp[h,ih]
def Lg(r:Nat->Nat)(es:List AL)(k:Nat):(ren r es)[k]?=(es[k]?).map λe=>(e.1,r e.2):=by simp[ren]
def Pe(r:Nat->Nat)(es:List AL)(i:Nat)(name:ByteArray)(k:Nat):Ch (ren r es) i name k=ren r (Ch es i name k):=by
 induction k with
 | zero=>rfl
 | succ k ih=>
  simp only[Ch,ih,Lg,HQ];cases es[k]? with
  | none=>simp[Lf]
  | some e=>
   simp only[FO];by_cases h:k≠i/\e.1≠name
   ·rw[Am h,Am h];rfl
   ·rw[Ad h,Ad h,Lf]
def Pg(r:Nat->Nat)(es:List AL)(k:Nat):DT (ren r es) k=DT es k:=by
 induction k with
 | zero=>rfl
 | succ k ih=>
  simp only[DT,ih,Lg];cases es[k]?<;>rfl
def Ph(r:Nat->Nat)(es:List AL):dList (ren r es)=dList es:=by unfold dList;rw[HP,Pg]
def KL(r:Nat->Nat)(G F:Nat->FC)(es:List AL)(h:∀f,Dy f es->G (r f)=F f):AT G (ren r es)=AT F es:=by
 induction es with
 | nil=>rfl
 | cons e t ih=>
  have E:=h e.2 ⟨e,by simp,rfl⟩;have d:=ih λf y=>h f (by obtain⟨x,H,z⟩:=y;exact⟨x,BK _ H,z⟩);simp only[ren,ET,AT]at d ⊢;rw[E,d]
def Qv{es:List AL}{name:ByteArray}{f:Nat}(h:lookup es name=some f):Dy f es:=by
 induction es with
 | nil=>cases h
 | cons e t ih=>
  simp only[lookup]at h;by_cases d:e.1=name
  ·simp[d]at h;exact⟨e,by simp,h⟩
  ·simp[d]at h;obtain⟨x,z,y⟩:=ih h;exact⟨x,BK _ z,y⟩
def ren_congr{r d:Nat->Nat}{es:List AL}(h:∀f,Dy f es->d f=r f):ren d es=ren r es:=by
 unfold ren;exact Ke λe y=>by rw[h e.2 ⟨e,y,rfl⟩]
def DS.ren_congr{r y:Nat->Nat}{D:DS}(h:∀f,D.AM f->y f=r f):D.ren y=D.ren r:=by
 unfold DS.ren;rw[Go.Proofs.YtodcnkbblippnaaGreatDoor.ren_congr λf d=>h f (.inl d),Go.Proofs.YtodcnkbblippnaaGreatDoor.ren_congr (es:=D.BT) λf d=>h f (.inr (.inl d))]
 congr 1
 exact Ke λc z=>Go.Proofs.YtodcnkbblippnaaGreatDoor.ren_congr λf d=>h f (.inr (.inr ⟨c,z,d⟩))
def AP(w:World)(b:Nat)(D:DS)(F:Nat->FC)(Ft:Nat->Prop):Prop:=
 ∃r G,Du w b (D.ren r) G Ft/\(∀f,D.AM f->G (r f)=F f)/\∀f d,D.AM f->D.AM d->r f=r d->f=d
def DM(w:World)(Ft:Nat->Prop)(w':World)(b:Nat)(h:DS)(F':Nat->FC):Prop:=
 A2 Ft w w'/\∃d,AP w' b h F' d/\(∀k,d k->k<w'.heap.size)/\∀k,d k->Ft k\/w.heap.size<=k
def AP.aq{w w':World}{b:Nat}{D:DS}{F:Nat->FC}{Ft:Nat->Prop}(h:AP w b D F Ft)(E:EC Ft w w'):AP w' b D F Ft:=by
 obtain⟨r,G,y,d,z⟩:=h;exact⟨r,G,y.aq E,d,z⟩
def AP.of{w:World}{b:Nat}{D:DS}{F:Nat->FC}{Ft:Nat->Prop}(h:Du w b D F Ft):AP w b D F Ft:=by
 refine⟨id,F,?_,λ_ _=>rfl,λ_ _ _ _ h=>h⟩;have:D.ren id=D:=by
  have e:∀es,Go.Proofs.YtodcnkbblippnaaGreatDoor.ren id es=es:=λes=>by simp[Go.Proofs.YtodcnkbblippnaaGreatDoor.ren]
  have d:=funext e;unfold DS.ren;rw[d];simp
 rw[this];exact h
def Cz.aX{w w':World}{Ft:Nat->Prop}{b:Nat}{H d:DS}{E F':Nat->FC}{r:Nat->Nat}(h:Cz w Ft w' b H E)(J:H=d.ren r)(W:∀f,d.AM f->E (r f)=F' f)(V:∀f z,d.AM f->d.AM z->r f=r z->f=z):DM w Ft w' b d F':=by
 obtain⟨O,y,I,U,L⟩:=h;subst J;exact⟨O,y,⟨r,E,I,W,V⟩,U,L⟩
def Ip(D:DS)(r:Nat->Nat):(D.ren r).A3.length=D.A3.length/\(D.ren r).BT.length=D.BT.length/\(D.ren r).AI.length=D.AI.length/\J4 (D.ren r).AI=J4 D.AI:=by
 refine⟨HP _ _,HP _ _,by simp[DS.ren],?_⟩;unfold J4 DS.ren;rw[List.map_map]
 congr 1
 exact Ke λc _=>HP r c
section
variable {w:World} {b:Nat} {D:DS} {F:Nat->FC} {Ft:Nat->Prop}
def Qk(room:Int)(w:World):
 Ac 21 #[A0 room] w (Ak (A4 w.heap.size) λw'=>AP w' w.heap.size ⟨[],[],[],G9 room⟩ F (One w.heap.size)/\A2 A7 w w'/\w'.heap.size=w.heap.size+1):=by
 refine(Qj room w).mono ?_;rintro e w'⟨I,y,J,H⟩;refine⟨I,AP.of ⟨_,_,_,[],λ_=>.slice none 0 0,⟨y,BW _ _ _ _,BW _ _ _ _,BW _ _ _ _,by intro i L;simp at L,?_,?_⟩,?_⟩,H,J⟩
 ·rintro f (⟨e,d,_⟩|⟨e,d,_⟩|⟨c,h,_⟩)
  ·cases d
  ·cases d
  ·cases h
 ·intro f f' g _ _ z;simp[Value.ownBlock]at z
 ·intro k E;cases E using BP.bt with
  | Ae=>rfl
  | dir e=>simp[Value.ownBlock]at e
  | CZ e=>simp[Value.ownBlock]at e
  | Aj e=>simp[Value.ownBlock]at e
  | D2 hm e=>cases hm
  | BN hf=>rcases hf with⟨e,d,_⟩|⟨e,d,_⟩|⟨c,h,_⟩<;>contradiction
  | byt hf e=>simp[Value.ownBlock]at e
def Om(h:AP w b D F Ft):
 Ac 86 #[A4 b] w (Ak (A0 (DI D).1) λw'=>DM w Ft w' b (DI D).2 F):=by
 obtain⟨r,G,U,J,V⟩:=h;refine(Ol w b _ G Ft U).mono ?_;rintro e w'⟨O,Y⟩;have L:(DI (D.ren r)).2=(DI D).2.ren r:=by
  unfold DI;by_cases E:(bg D.n).2.1=0
  ·have z:(bg (D.ren r).n).2.1=0:=E;rw[Am E,Am z];rfl
  ·have z:¬(bg (D.ren r).n).2.1=0:=E;rw[Ad E,Ad z];rfl
 have y:∀f,(DI D).2.AM f->D.AM f:=by
  intro f d;unfold DI at d;simp only at d;split at d
  ·rcases d with d|d|⟨c,W,_⟩
   ·exact .inl d
   ·exact .inl d
   ·cases W
  ·exact d
 exact⟨O,Y.aX L (λf d=>J f (y f d)) λf I d H=>V f I (y f d) (y I H)⟩
def Ea{name:ByteArray}{f:Nat}(h:lookup D.A3 name=some f):D.AM f:=.inl (Qv h)
def KR(h:AP w b D F Ft)(name:ByteArray):
 Ac 85 #[A4 b,.string name] w (Ak (A0 (CJ D F name).1) λw'=>DM w Ft w' b (CJ D F name).2.1 (CJ D F name).2.2):=by
 obtain⟨r,G,Y,E,U⟩:=h;refine(Oi w b _ G Ft Y name).mono ?_;rintro e w'⟨I,L⟩;have J:lookup (D.ren r).A3 name=(lookup D.A3 name).map r:=Hb r D.A3 name;cases hx:lookup D.A3 name with
 | none=>
  rw[hx]at J;have V:CJ (D.ren r) G name=(8,D.ren r,G):=by unfold CJ;rw[J];rfl
  have O:CJ D F name=(8,D,F):=by unfold CJ;rw[hx]
  rw[V]at I L;rw[O];exact⟨I,L.aX rfl E U⟩
 | some f=>
  rw[hx]at J;have V:CJ (D.ren r) G name=((bg D.n).2.1,{D with n:=(bg D.n).2.2}.ren r,if (bg D.n).2.1=0 then upd G (r f) ((G (r f)).1,(G (r f)).1.length) else G):=by unfold CJ;rw[J];rfl
  have O:CJ D F name=((bg D.n).2.1,{D with n:=(bg D.n).2.2},if (bg D.n).2.1=0 then upd F f ((F f).1,(F f).1.length) else F):=by unfold CJ;rw[hx]
  rw[V]at I L;rw[O];refine⟨I,L.aX rfl (λd y=>?_) U⟩;have W:=Ea hx;show (if (bg D.n).2.1=0 then upd G (r f) ((G (r f)).1,(G (r f)).1.length) else G) (r d)=(if (bg D.n).2.1=0 then upd F f ((F f).1,(F f).1.length) else F) d;by_cases H:(bg D.n).2.1=0
  ·rw[Am H,Am H];unfold upd;by_cases z:d=f
   ·subst z;simp[E d W]
   ·have:r d≠r f:=λe=>z (U d f y W e);simp only[this,z,BG];exact E d y
  ·rw[Ad H,Ad H];exact E d y
def KO{r:Nat->Nat}{G:Nat->FC}(E:∀f,D.AM f->G (r f)=F f)(H:∀f d,D.AM f->D.AM d->r f=r d->f=d){f:Nat}(z:D.AM f)(c:FC):∀d,D.AM d->upd G (r f) c (r d)=upd F f c d:=λd y=>by
 unfold upd;by_cases h:d=f
 ·subst h;simp
 ·have:r d≠r f:=λe=>h (H d f y z e);simp only[this,h,BG];exact E d y
def MK{r:Nat->Nat}{G:Nat->FC}(I:∀f,D.AM f->G (r f)=F f)(J:∀f d,D.AM f->D.AM d->r f=r d->f=d){f:Nat}(H:D.AM f)(data:ByteArray)(h e:Int):
 (Cp (D.ren r) G (r f) data h e).1=(Cp D F f data h e).1/\(Cp (D.ren r) G (r f) data h e).2.1=(Cp D F f data h e).2.1.ren r/\(∀d,D.AM d->(Cp (D.ren r) G (r f) data h e).2.2 (r d)=(Cp D F f data h e).2.2 d)/\(∀d,(Cp D F f data h e).2.1.AM d↔D.AM d):=by
 have E:EP (D.ren r) G=EP D F:=by
  unfold EP;have:AT G (D.ren r).A3=AT F D.A3:=KL r G F D.A3 λf H=>I f (.inl H);rw[this];rfl
 unfold Cp;rw[E];by_cases L:h>EP D F
 ·simp only[L,BM];rw[I f H];refine⟨by first|trivial|rfl,?_,λd z=>KO I J H _ d z,λd=>?_⟩
  ·by_cases y:e=0
   ·rw[Am y,Am y];rfl
   ·rw[Ad y,Ad y]
  ·by_cases y:e=0
   ·rw[Am y];exact Iff.rfl
   ·rw[Ad y]
 ·simp only[L,BG];rw[I f H];exact⟨by first|trivial|rfl,by first|trivial|rfl,λd z=>KO I J H _ d z,λ_=>by first|trivial|exact Iff.rfl⟩
def SX(h:AP w b D F Ft)(name data:ByteArray)(hroom : -4611686018427387904<=D.n.Bl/\D.n.Bl<=9223372036854775807)(hu:AT F D.A3<=4611686018427387904)(hp:0<=D.n.BY/\D.n.BY<=9223372036854775807)(hl:∀f,lookup D.A3 name=some f->(F f).1.length+data.size<=70368744177664):
 Ac 84 #[A4 b,.string name,.string data] w (Ak (A0 (B6 D F name data).1) λw'=>DM w Ft w' b (B6 D F name data).2.1 (B6 D F name data).2.2):=by
 obtain⟨r,G,h1,W,Y⟩:=h;have y:lookup (D.ren r).A3 name=(lookup D.A3 name).map r:=Hb r D.A3 name
 refine(SW w b _ G Ft h1 name data hroom (by
  have:AT G (D.ren r).A3=AT F D.A3:=KL r G F D.A3 λf J=>W f (.inl J)
  rw[this];exact hu) hp (λf J=>by
   rw[y]at J;cases hx:lookup D.A3 name with
   | none=>rw[hx]at J;cases J
   | some f0=>
    rw[hx]at J;simp at J;subst J
    rw[W f0 (Ea hx)];exact hl f0 hx)).mono ?_
 rintro e w'⟨I,L⟩;cases hx:lookup D.A3 name with
 | none=>
  rw[hx]at y;have U:B6 (D.ren r) G name data=(8,D.ren r,G):=by unfold B6;rw[y];rfl
  have O:B6 D F name data=(8,D,F):=by unfold B6;rw[hx]
  rw[U]at I L;rw[O];exact⟨I,L.aX rfl W Y⟩
 | some f=>
  rw[hx]at y;have J:=Ea hx;have Z:=J;by_cases c1:(bg D.n).1=true
  ·have U:B6 (D.ren r) G name data=Cp ({D with n:=(bg D.n).2.2}.ren r) G (r f) data data.size (bg D.n).2.1:=by
    unfold B6;rw[y];show (if (bg D.n).1=true then _ else _)=_;rw[Am c1];rfl
   have O:B6 D F name data=Cp {D with n:=(bg D.n).2.2} F f data data.size (bg D.n).2.1:=by
    unfold B6;rw[hx];show (if (bg D.n).1=true then _ else _)=_;rw[Am c1]
   rw[U]at I L;rw[O];obtain⟨k1,k2,k3,V⟩:=MK (D:={D with n:=(bg D.n).2.2}) (r:=r) (G:=G) (F:=F) W Y Z data data.size (bg D.n).2.1;rw[k1]at I;exact⟨I,L.aX k2 (λz d=>k3 z ((V z).1 d)) λz H d E=>Y z H ((V z).1 d) ((V H).1 E)⟩
  ·by_cases c2:(bg D.n).2.2.CC=false/\0<data.size
   ·have U:B6 (D.ren r) G name data=Cp ({D with n:=(bg D.n).2.2}.ren r) G (r f) data ((bg D.n).2.2.BY % data.size) (bg D.n).2.1:=by
     unfold B6;rw[y];show (if (bg D.n).1=true then _ else if (bg D.n).2.2.CC=false/\0<data.size then _ else _)=_;rw[Ad c1,Am c2];rfl
    have O:B6 D F name data=Cp {D with n:=(bg D.n).2.2} F f data ((bg D.n).2.2.BY % data.size) (bg D.n).2.1:=by
     unfold B6;rw[hx];show (if (bg D.n).1=true then _ else if (bg D.n).2.2.CC=false/\0<data.size then _ else _)=_;rw[Ad c1,Am c2]
    rw[U]at I L;rw[O];obtain⟨k1,k2,k3,V⟩:=MK (D:={D with n:=(bg D.n).2.2}) (r:=r) (G:=G) (F:=F) W Y Z data ((bg D.n).2.2.BY % data.size) (bg D.n).2.1;rw[k1]at I;exact⟨I,L.aX k2 (λz d=>k3 z ((V z).1 d)) λz H d E=>Y z H ((V z).1 d) ((V H).1 E)⟩
   ·have U:B6 (D.ren r) G name data=((bg D.n).2.1,{D with n:=(bg D.n).2.2}.ren r,G):=by
     unfold B6;rw[y];show (if (bg D.n).1=true then _ else if (bg D.n).2.2.CC=false/\0<data.size then _ else _)=_;rw[Ad c1,Ad c2];rfl
    have O:B6 D F name data=((bg D.n).2.1,{D with n:=(bg D.n).2.2},F):=by
     unfold B6;rw[hx];show (if (bg D.n).1=true then _ else if (bg D.n).2.2.CC=false/\0<data.size then _ else _)=_;rw[Ad c1,Ad c2]
    rw[U]at I L;rw[O];exact⟨I,L.aX rfl W Y⟩
def GJ{es:List AL}{n:DN}(y:∀f,Dy f es->D.AM f)(f:Nat)(d:({D with A3:=es,AI:=D.AI++[es],n:=n}:DS).AM f):D.AM f:=by
 rcases d with d|d|⟨c,h,d⟩
 ·exact y f d
 ·exact .inr (.inl d)
 ·rcases B3.1 h with h|h
  ·exact .inr (.inr ⟨c,h,d⟩)
  ·simp at h;subst h;exact y f d
def J2(r:Nat->Nat)(es:List AL)(n:DN):({D.ren r with A3:=ren r es,AI:=(D.ren r).AI++[ren r es],n:=n}:DS)=({D with A3:=es,AI:=D.AI++[es],n:=n}:DS).ren r:=by
 simp[DS.ren]
def Pm(h:AP w b D F Ft)(name:ByteArray)(hs:D.A3.length<1099511627776/\D.AI.length<1099511627776):
 Ac 193 #[A4 b,.string name] w (Ak (A0 (CU D name).1) λw'=>DM w Ft w' b (CU D name).2 F):=by
 obtain⟨r,G,h1,O,W⟩:=h;obtain⟨l1,l2,l3,l4⟩:=Ip D r;refine(Pl w b _ G Ft h1 name (by rw[l1,l3];exact hs)).mono ?_;rintro e w'⟨E,H⟩;have z:AN (D.ren r).A3 name=AN D.A3 name:=Jb r D.A3 name;by_cases c1:AN D.A3 name<0
 ·have L:CU (D.ren r) name=(8,D.ren r):=by unfold CU;rw[z,Am c1]
  have I:CU D name=(8,D):=by unfold CU;rw[Am c1]
  rw[L]at E H;rw[I];exact⟨E,H.aX rfl O W⟩
 ·by_cases c2:(bg D.n).1=true
  ·have I:CU D name=((bg D.n).2.1,{D with A3:=D.A3.take (AN D.A3 name).toNat++D.A3.drop ((AN D.A3 name).toNat+1),AI:=D.AI++[D.A3.take (AN D.A3 name).toNat++D.A3.drop ((AN D.A3 name).toNat+1)],n:=(bg D.n).2.2}):=by
    unfold CU;rw[Ad c1];simp only[c2,BM]
   have L:CU (D.ren r) name=((bg D.n).2.1,{D with A3:=D.A3.take (AN D.A3 name).toNat++D.A3.drop ((AN D.A3 name).toNat+1),AI:=D.AI++[D.A3.take (AN D.A3 name).toNat++D.A3.drop ((AN D.A3 name).toNat+1)],n:=(bg D.n).2.2}.ren r):=by
    have d:(bg (D.ren r).n).1=true:=c2;unfold CU;rw[z,Ad c1];simp only[d,BM];rw[<-J2,HQ,<-Pd,<-Pf];rfl
   rw[L]at E H;rw[I];have y:∀f,Dy f (D.A3.take (AN D.A3 name).toNat++D.A3.drop ((AN D.A3 name).toNat+1))->D.AM f:=by
    rintro f⟨x,J,Z⟩;rcases B3.1 J with J|J
    ·exact .inl ⟨x,IJ J,Z⟩
    ·exact .inl ⟨x,Kd J,Z⟩
   exact⟨E,H.aX rfl (λf V=>O f (GJ y f V)) λf Y V U=>W f Y (GJ y f V) (GJ y Y U)⟩
  ·(have I:CU D name=((bg D.n).2.1,{D with n:=(bg D.n).2.2}):=by unfold CU;rw[Ad c1];simp only[c2];rfl);have L:CU (D.ren r) name=((bg D.n).2.1,{D with n:=(bg D.n).2.2}.ren r):=by
    have d:¬(bg (D.ren r).n).1=true:=c2;unfold CU;rw[z,Ad c1];simp only[d];rfl
   rw[L]at E H;rw[I];exact⟨E,H.aX rfl O W⟩
def Pb(h:AP w b D F Ft)(d name:ByteArray)(hs:D.A3.length<1099511627776/\D.AI.length<1099511627776):
 Ac 242 #[A4 b,.string d,.string name] w (Ak (A0 (Cv D d name).1) λw'=>DM w Ft w' b (Cv D d name).2 F):=by
 obtain⟨r,G,h1,V,W⟩:=h;obtain⟨l1,l2,l3,l4⟩:=Ip D r;refine(Pa w b _ G Ft h1 d name (by rw[l1,l3];exact hs)).mono ?_;rintro e w'⟨E,H⟩;have z:lookup (D.ren r).A3 d=(lookup D.A3 d).map r:=Hb r D.A3 d;cases hx:lookup D.A3 d with
 | none=>
  rw[hx]at z;have O:Cv (D.ren r) d name=(8,D.ren r):=by unfold Cv;rw[z];rfl
  have J:Cv D d name=(8,D):=by unfold Cv;rw[hx]
  rw[O]at E H;rw[J];exact⟨E,H.aX rfl V W⟩
 | some f=>
  rw[hx]at z;by_cases c1:name=ByteArray.empty
  ·(have O:Cv (D.ren r) d name=(8,D.ren r):=by unfold Cv;rw[z];simp only[FO];rw[Am c1]);(have J:Cv D d name=(8,D):=by unfold Cv;rw[hx];simp only;rw[Am c1]);rw[O]at E H;rw[J];exact⟨E,H.aX rfl V W⟩
  ·by_cases c2:(bg D.n).1=true
   ·have J:Cv D d name=((bg D.n).2.1,{D with A3:=Ch D.A3 (AN D.A3 d).toNat name D.A3.length++[(name,f)],AI:=D.AI++[Ch D.A3 (AN D.A3 d).toNat name D.A3.length++[(name,f)]],n:=(bg D.n).2.2}):=by
     unfold Cv;rw[hx];simp only;rw[Ad c1];simp only[c2,BM]
    have O:Cv (D.ren r) d name=((bg D.n).2.1,{D with A3:=Ch D.A3 (AN D.A3 d).toNat name D.A3.length++[(name,f)],AI:=D.AI++[Ch D.A3 (AN D.A3 d).toNat name D.A3.length++[(name,f)]],n:=(bg D.n).2.2}.ren r):=by
     have I:(bg (D.ren r).n).1=true:=c2;have aA:AN (D.ren r).A3 d=AN D.A3 d:=Jb r D.A3 d;unfold Cv;rw[z];simp only[FO];rw[Ad c1];simp only[I,BM];rw[<-J2,HQ,<-Pe,aA,l1];rfl
    rw[O]at E H;rw[J];have L:∀U,Dy U (Ch D.A3 (AN D.A3 d).toNat name D.A3.length++[(name,f)])->D.AM U:=by
     rintro U⟨x,y,he⟩;rcases B3.1 y with y | y
     ·exact .inl ⟨x,Jc _ _ _ _ x y,he⟩
     ·simp at y;subst y;cases he;exact Ea hx
    exact⟨E,H.aX rfl (λf Z=>V f (GJ L f Z)) λf U Z Y=>W f U (GJ L f Z) (GJ L U Y)⟩
   ·(have J:Cv D d name=((bg D.n).2.1,{D with n:=(bg D.n).2.2}):=by unfold Cv;rw[hx];simp only;rw[Ad c1];simp only[c2];rfl);have O:Cv (D.ren r) d name=((bg D.n).2.1,{D with n:=(bg D.n).2.2}.ren r):=by
     have I:¬(bg (D.ren r).n).1=true:=c2;unfold Cv;rw[z];simp only[FO];rw[Ad c1];simp only[I];rfl
    rw[O]at E H;rw[J];exact⟨E,H.aX rfl V W⟩
def S6(h:AP w b D F Ft)(name:ByteArray)(k:Nat)(hk:¬D.AM k)(hs:D.A3.length<1099511627776/\D.AI.length<1099511627776):
 Calls Tryz.prog 83 #[.pointer (some ⟨b,0,none⟩),.string name] w λe w'=>e=.returned (.int .i64 (Ck D name k).1)/\DM w Ft w' b (Ck D name k).2 (upd F k ([],0)):=by
 obtain⟨r,G,h1,h2,h3⟩:=h;obtain⟨l1,l2,l3,l4⟩:=Ip D r;have I:∀f,D.AM f->r f<w.heap.size:=by
  obtain⟨vd,vs,vc,vals,VB,hr,_⟩:=h1;intro f d;refine hr.lt (.BN ?_);rcases d with⟨x,z,rfl⟩|⟨x,z,rfl⟩|⟨c,H,x,z,rfl⟩
  ·exact .inl ⟨_,FR z,rfl⟩
  ·exact .inr (.inl ⟨_,FR z,rfl⟩)
  ·exact .inr (.inr ⟨_,FR H,_,FR z,rfl⟩)
 refine(S5 w b _ G Ft h1 name (by rw[l1,l3];exact hs)).mono ?_;rintro e w'⟨f0,q0,U,V⟩;have O:AN (D.ren r).A3 name=AN D.A3 name:=Jb r D.A3 name;have hG:∀f,D.AM f->upd G f0 ([],0) (r f)=upd F k ([],0) f:=λf d=>by
  unfold upd;have n1:r f≠f0:=by have:=I f d;omega
  have n2:f≠k:=λe=>hk (e ▸ d);simp only[n1,n2,BG];exact h2 f d
 by_cases c1:name=ByteArray.empty\/AN D.A3 name≥0
 ·have Z:Ck (D.ren r) name f0=(8,D.ren r):=by unfold Ck;rw[O,Am c1]
  have W:Ck D name k=(8,D):=by unfold Ck;rw[Am c1]
  rw[Z]at U V;rw[W];exact⟨U,V.aX rfl hG h3⟩
 ·by_cases c2:(bg D.n).1=true
  ·have W:Ck D name k=((bg D.n).2.1,{D with A3:=D.A3++[(name,k)],AI:=D.AI++[D.A3++[(name,k)]],n:=(bg D.n).2.2}):=by
    unfold Ck;rw[Ad c1];simp only[c2,BM]
   have y:∀f,D.AM f->(λf=>if f=k then f0 else r f) f=r f:=λf d=>by
    have n2:f≠k:=λe=>hk (e ▸ d);simp only[n2,BG]
   have aA:D.ren (λf=>if f=k then f0 else r f)=D.ren r:=DS.ren_congr y;have Z:Ck (D.ren r) name f0=((bg D.n).2.1,{D with A3:=D.A3++[(name,k)],AI:=D.AI++[D.A3++[(name,k)]],n:=(bg D.n).2.2}.ren (λf=>if f=k then f0 else r f)):=by
    have L:(bg (D.ren r).n).1=true:=c2;unfold Ck;rw[O,Ad c1];simp only[L,BM];rw[<-J2,aA,HQ];have e3:ren (λf=>if f=k then f0 else r f) D.A3=(D.ren r).A3:=by
     have:=ER DS.A3 aA;exact this
    rw[e3];(have e4:ren (λf=>if f=k then f0 else r f) [(name,k)]=[(name,f0)]:=by simp[ren]);rw[e4];rfl
   rw[Z]at U V;rw[W];have E:∀f,({D with A3:=D.A3++[(name,k)],AI:=D.AI++[D.A3++[(name,k)]],n:=(bg D.n).2.2}:DS).AM f->D.AM f\/f=k:=by
    have key:∀f,Dy f (D.A3++[(name,k)])->D.AM f\/f=k:=by
     rintro f⟨x,z,rfl⟩;rcases B3.1 z with z|z
     ·exact .inl (.inl ⟨x,z,rfl⟩)
     ·simp at z;subst z;exact .inr rfl
    rintro f (d|d|⟨c,H,d⟩)
    ·exact key f d
    ·exact .inl (.inr (.inl d))
    ·rcases B3.1 H with H|H
     ·exact .inl (.inr (.inr ⟨c,H,d⟩))
     ·simp at H;subst H;exact key f d
   refine⟨U,V.aX rfl (λf d=>?_) λf Y d aB e=>?_⟩
   ·rcases E f d with h|h
    ·simp only[y f h];exact hG f h
    ·subst h;simp[upd]
   ·rcases E f d with h|h<;>rcases E Y aB with J | J
    ·simp only[y f h,y Y J]at e;exact h3 f Y h J e
    ·subst J;simp only[y f h,BM]at e;have:=I f h;omega
    ·subst h;simp only[y Y J,BM]at e;have:=I Y J;omega
    ·rw[h,J]
  ·(have W:Ck D name k=((bg D.n).2.1,{D with n:=(bg D.n).2.2}):=by unfold Ck;rw[Ad c1];simp only[c2];rfl);have Z:Ck (D.ren r) name f0=((bg D.n).2.1,{D with n:=(bg D.n).2.2}.ren r):=by
    have L:¬(bg (D.ren r).n).1=true:=c2;unfold Ck;rw[O,Ad c1];simp only[L];rfl
   rw[Z]at U V;rw[W];exact⟨U,V.aX rfl hG h3⟩
def Pr(h:AP w b D F Ft)(name:ByteArray)(p n:Int):
 Ac 82 #[A4 b,.string name,A0 p,A0 n] w (Ak (.tuple #[.string ⟨(Dz D F name p n).1.toArray⟩,A0 (Dz D F name p n).2]) λw'=>w=w'):=by
 obtain⟨r,G,E,z,h3⟩:=h;have d:lookup (D.ren r).A3 name=(lookup D.A3 name).map r:=Hb r D.A3 name;have y:Dz (D.ren r) G name p n=Dz D F name p n:=by
  unfold Dz;rw[d];cases hx:lookup D.A3 name with
  | none=>rfl
  | some f=>simp only[FO,z f (Ea hx)]
 have:=Pq w b _ G Ft E name p n
 rwa [y]at this
def J5(h:AP w b D F Ft)(name:ByteArray):
 Ac 81 #[A4 b,.string name] w (Ak (.tuple #[A0 (BV D F name).1,A0 (BV D F name).2]) λw'=>w=w'):=by
 obtain⟨r,G,L,H,h3⟩:=h;have y:lookup (D.ren r).A3 name=(lookup D.A3 name).map r:=Hb r D.A3 name;have E:BV (D.ren r) G name=BV D F name:=by
  unfold BV;rw[y];cases hx:lookup D.A3 name with
  | none=>rfl
  | some f=>simp only[FO,H f (Ea hx)]
 obtain⟨U,I,z,d,O,J,_⟩:=L;have:=OK w b _ G U I z d O J name
 rwa [E]at this
def QH(h:AP w b D F Ft)(E:D.A3.length<1099511627776):
 Ac 76 #[A4 b] w λe w'=>∃v,e=.returned v/\w'.ownsRow 0 9 1 v D.A3.length (DY (dList D.A3))/\A2 A7 w w'/\(∀g,v.ownBlock=some g->w.heap.size<=g):=by
 obtain⟨r,G,z,h2,h3⟩:=h;obtain⟨d,l2,l3,l4⟩:=Ip D r;have:=QG w b _ G Ft z (by rw[d];exact E);have y:dList (D.ren r).A3=dList D.A3:=Ph r D.A3
 rwa [d,y]at this
end

def AP.I{w:World}{b:Nat}{D:DS}{F:Nat->FC}{Ft:Nat->Prop}(h:AP w b D F Ft):AP w.drew b D F Ft:=h.aq λ_ _=>rfl
def DM.cd{w w':World}{b:Nat}{D:DS}{F:Nat->FC}{Ft:Nat->Prop}(h:DM w.drew Ft w' b D F):DM w Ft w' b D F:=by
 obtain⟨d,y⟩:=h;exact⟨⟨d.os,d.E5,d.E9,d.Af,d.Ao⟩,y⟩
section
variable {w:World} {b fb:Nat} {D:DS} {F:Nat->FC} {Ft:Nat->Prop} {T:TypeId} {name:ByteArray} {s:Nat}
def ML(d:AK w fb T (A4 b) name s)(h:AP w b D F Ft)(k:Nat)(z:¬D.AM k)(I:D.A3.length<1099511627776/\D.AI.length<1099511627776):
 Ac 240 #[A4 fb] w (Ak (A0 (Ck D name k).1) λw'=>DM w Ft w' b (Ck D name k).2 (upd F k ([],0))):=by
 have c0:=d.c0;have c1:=d.c1;have y:=A1 (S6 h.I name k z I);generalize hq:(Ck D name k).1=q at y ⊢
 go_enter func240,ntmps240
 go_wp2;refine EJ (λw'=>A5 w' fb 0 (A4 b)/\A5 w' fb 1 (.string name)) 8
  (Bj [0,1,2,3,4,5,6,7] []) (by kernel_rfl) (by kernel_rfl) (λ_ _ _ _ _ h=>h) ⟨c0,c1⟩ ?_
 iterate 8 (refine DW (v:=?_) rfl (by rfl) ?_ ?_;rotate_left;(· (intro w' E;(try dsimp only at E);go_simp;try with_reducible rfl));(try simp only[An]))
 refine Bd ?_;simp only[Dh,Da];go_wp2_with (go_at_call 83;refine y.m ?_;rintro e w'⟨rfl,J⟩;have H:=A1 J);go_ret;exact⟨rfl,H.o.cd⟩
def Oj(d:AK w fb T (A4 b) name s)(h:AP w b D F Ft):
 Ac 164 #[A4 fb] w (Ak (A0 (CJ D F name).1) λw'=>DM w Ft w' b (CJ D F name).2.1 (CJ D F name).2.2):=by
 have c0:=d.c0;have c1:=d.c1;have y:=A1 (KR h.I name);generalize hq:(CJ D F name).1=q at y ⊢
 go_enter func164,ntmps164
 go_wp2;refine EJ (λw'=>A5 w' fb 0 (A4 b)/\A5 w' fb 1 (.string name)) 8
  (Bj [0,1,2,3,4,5,6,7] []) (by kernel_rfl) (by kernel_rfl) (λ_ _ _ _ _ h=>h) ⟨c0,c1⟩ ?_
 iterate 8 (refine DW (v:=?_) rfl (by rfl) ?_ ?_;rotate_left;(· (intro w' z;(try dsimp only at z);go_simp;try with_reducible rfl));(try simp only[An]))
 refine Bd ?_;simp only[Dh,Da];go_wp2_with (go_at_call 85;refine y.m ?_;rintro e w'⟨rfl,H⟩;have E:=A1 H);go_ret;exact⟨rfl,E.o.cd⟩
end
def D6(D:DS)(F:Nat->FC)(name:ByteArray):List UInt8×Int:=match lookup D.A3 name with
 | some f=>((F f).1,0)
 | none=>([],8)
def AP.au{w w':World}{b:Nat}{D:DS}{F:Nat->FC}{Ft:Nat->Prop}(h:AP w b D F Ft)(d:∀k,Ft k->k<w.heap.size)(z:A2 A7 w w'):AP w' b D F Ft:=h.aq λk y=>z.Ao k (d k y) (λh=>h)
section
variable {w:World} {b fb:Nat} {D:DS} {F:Nat->FC} {Ft:Nat->Prop} {T:TypeId} {name:ByteArray} {s:Nat}
def N1(hf:AK w fb T (A4 b) name s)(h:AP w b D F Ft):
 Ac 166 #[A4 fb] w (Ak (.tuple #[.string ⟨(D6 D F name).1.toArray⟩,A0 (D6 D F name).2]) λw'=>A2 A7 w w'):=by
 obtain⟨d,V⟩:∃d,(BV D F name).1=d:=⟨_,rfl⟩;obtain⟨Y,H⟩:∃Y,(BV D F name).2=Y:=⟨_,rfl⟩;have aO:∀w',AP w' b D F Ft->Ac 81 #[A4 b,.string name] w' λe L=>e=.returned (.tuple #[A0 d,A0 Y])/\w'=L:=λw' h=>by
  rw[<-V,<-H];exact J5 h name
 have aN:∀w',AP w' b D F Ft->Ac 82 #[A4 b,.string name,A0 0,A0 d] w' λe L=>e=.returned (.tuple #[.string ⟨(Dz D F name 0 d).1.toArray⟩,A0 (Dz D F name 0 d).2])/\w'=L:=λw' h=>Pr h name 0 d;have aD:=A1 aO;have aM:=A1 aN;have W:(Y=0/\Hid ((Dz D F name 0 d).1=(D6 D F name).1/\(Dz D F name 0 d).2=(D6 D F name).2))\/(Y=8/\Hid ((D6 D F name).1=[]/\(D6 D F name).2=8)):=by
  unfold BV at V H;unfold Dz D6 Hid;cases hx:lookup D.A3 name with
  | none=>rw[hx]at H;exact .inr ⟨H.symm,rfl,rfl⟩
  | some f=>
   rw[hx]at H V;subst V;refine .inl ⟨H.symm,?_⟩;dsimp only
   rw[Ad (by omega)];simp
 obtain⟨rs,aF⟩:∃rs,(D6 D F name).1=rs:=⟨_,rfl⟩;obtain⟨re,aK⟩:∃re,(D6 D F name).2=re:=⟨_,rfl⟩;rw[aF,aK]at W ⊢
 go_enter func166,ntmps166
 go_wp2;refine EW 13 (λy=>{tmps:=#[A4 fb,undef,.string ⟨#[]⟩,A0 0,y 12,undef,y 9,y 0,y 1,y 2,y 3,y 4,y 5,y 6,y 7,y 8,y 10,y 11,undef,undef,undef,undef,undef,undef,undef,undef,undef,undef,undef,undef,undef,undef,undef],defers:=[]}) (λ_=>undef)
  (λw'=>AK w' fb T (A4 b) name s/\AP w' b D F Ft/\A2 A7 w w') (A2 A7)
  (λj x w'=>match j with
   | 0=>x=(A4 fb)
   | 1=>x=(A4 fb)
   | 2=>x=(A4 fb)
   | 3=>x=(A4 b)
   | 4=>x=(A4 fb)
   | 5=>x=(A4 fb)
   | 6=>x=.pointer (some (A8 fb 1))
   | 7=>x=.string name
   | 8=>x=.tuple #[A0 d,A0 Y]
   | 9=>x=.tuple #[A0 d,A0 Y]
   | 10=>x=A0 d
   | 11=>x=A0 Y
   | 12=>x=A0 d
   | _=>True)
  (by kernel_rfl) (by kernel_rfl) rfl ?_ ?_ ?_ ?_
 ·exact⟨hf,h.I,(A2.C _ _).I⟩
 ·intro j x w1 w2 hR aJ O;split at O<;>exact O
 ·simp only[Ei,Eh,DV,Fx]
  repeat' (with_reducible apply And.intro)
  all_goals refine⟨?_,(by intro y J _ _ h;exact Bool.noConfusion h),λy x=>rfl⟩
  all_goals
   intro y J hS U hw K hK;obtain⟨E,Z,aA⟩:=hS;simp[Ec,Region.binds,DC,List.filter_cons]at U;have c0:=E.c0;have c1:=E.c1;have I:Hid (AK J fb T (A4 b) name s/\AP J b D F Ft/\A2 A7 w J):=⟨E,Z,aA⟩;have aB:=A1 hK
  all_goals dsimp only
  all_goals try go_simp
  all_goals try with_reducible exact aB.o _ _ _ rfl (by simp[Act.put,U]) (A2.C _ _) I.o
  all_goals try
   (have aE:y 3=(A4 b):=by with_reducible exact U.1);refine(aD.o J I.o.2.1).mono ?_;rintro e w2⟨rfl,rfl⟩;exact aB.o _ _ _ rfl (by simp[Act.put,U]) (A2.C _ _) I.o
 ·intro y J hS O;have aI:=O 11 (by omega);have aG:=O 12 (by omega);have I:=A1 hS;rcases W with⟨rfl,W⟩|⟨rfl,W⟩
  ·(have aL:∀w',AP w' b D F Ft->Ac 82 #[A4 b,.string name,A0 0,A0 d] w' λe L=>e=.returned (.tuple #[.string ⟨rs.toArray⟩,A0 re])/\w'=L:=by rw[<-W.o.1,<-W.o.2];exact aM.o);have aH:=A1 aL;go_wp2;refine EW 13 (λz=>{tmps:=#[A4 fb,undef,z 12,A0 0,A0 d,A0 0,y 9,y 0,y 1,y 2,y 3,y 4,y 5,y 6,y 7,y 8,y 10,A0 0,A0 0,.bool false,undef,z 0,z 1,z 2,z 3,z 4,z 5,z 6,z 7,z 8,z 9,z 10,z 11],defers:=[]}) (λj=>if j=12 then .string ⟨#[]⟩ else undef)
    (λw'=>AK w' fb T (A4 b) name s/\AP w' b D F Ft/\A2 A7 w w') (A2 A7)
    (λj x w'=>match j with
     | 0=>x=(A4 fb)
     | 1=>x=(A4 fb)
     | 2=>x=(A4 fb)
     | 3=>x=(A4 b)
     | 4=>x=(A4 fb)
     | 5=>x=(A4 fb)
     | 6=>x=.pointer (some (A8 fb 1))
     | 7=>x=.string name
     | 8=>x=A0 d
     | 9=>x=.tuple #[.string ⟨rs.toArray⟩,A0 re]
     | 10=>x=.string ⟨rs.toArray⟩
     | 11=>x=A0 re
     | 12=>x=.string ⟨rs.toArray⟩
     | _=>True)
    (by kernel_rfl) (by kernel_rfl) rfl ?_ ?_ ?_ ?_
   ·exact⟨I.o.1,I.o.2.1.I,I.o.2.2.I⟩
   ·intro j x w1 w2 hR aJ O;split at O<;>exact O
   ·clear I aI aG;simp only[Ei,Eh,DV,Fx]
    repeat' (with_reducible apply And.intro)
    all_goals refine⟨?_,(by intro y J _ _ h;exact Bool.noConfusion h),λy x=>rfl⟩
    all_goals
     intro z J hS U hw K hK;obtain⟨E,Z,aA⟩:=hS;simp[Ec,Region.binds,DC,List.filter_cons]at U;have c0:=E.c0;have c1:=E.c1;have I:Hid (AK J fb T (A4 b) name s/\AP J b D F Ft/\A2 A7 w J):=⟨E,Z,aA⟩;have aB:=A1 hK
    all_goals dsimp only
    all_goals try go_simp
    all_goals try with_reducible exact aB.o _ _ _ rfl (by simp[Act.put,U]) (A2.C _ _) I.o
    all_goals try
     (have aE:z 3=(A4 b):=by with_reducible exact U.1);refine(aH.o J I.o.2.1).mono ?_;rintro e w2⟨rfl,rfl⟩;exact aB.o _ _ _ rfl (by simp[Act.put,U]) (A2.C _ _) I.o
   ·intro z wz hZ O;have z11:=O 11 (by omega);have z12:=O 12 (by omega);have aP:=A1 hZ;go_wp2;go_ret2;exact⟨rfl,aP.o.2.2⟩
  ·go_wp2;go_ret2;rw[W.o.1,W.o.2];exact⟨rfl,I.o.2.2⟩
end
def A2.dW{S:Nat->Prop}{w:World}(k:Nat)(os:Array Obj):A2 S w (Go.Sort.grow (w.drewN k) os):=
 ⟨rfl,rfl,rfl,(by show w.heap.size<=(w.heap++os).size;simp),λj d _=>(by show (w.heap++os)[j]?=_;rw[Array.getElem?_append_left d])⟩
def D0(lt:List UInt8)(n:Int):List UInt8:=lt++Lib.repeatL [48] (19-(Lib.itoa n).length)++Lib.itoa n
def C6(s:Int):List UInt8:=if s=1 then [108] else if s=2 then [115] else if s=3 then [105] else if s=4 then [100] else []
def B9(s n:Int):List UInt8:=if s=1\/s=2 then D0 (C6 s) n else C6 s
def JA(w:World)(s:Int):Ac 133 #[A0 s] w (Ak (.bool (decide (s=1\/s=2))) λw'=>w=w'):=by
 go_enter func133,ntmps133
 by_cases h:s=1
 ·subst h;go_wp2;go_ret;exact⟨rfl,rfl⟩
 ·by_cases d:s=2
  ·subst d;go_wp2;go_ret;exact⟨rfl,rfl⟩
  ·go_wp2;go_ret;exact⟨by simp[h,d],rfl⟩
def Qt(w:World)(s:Int)(k:Nat)(hs:s=k/\(k=1\/k=2))(lt:List UInt8)(n:Int)(hn : -9223372036854775808<=n/\n<=9223372036854775807)(hlt:lt.length<=1000)(O:(Lib.itoa n).length<=19)(hl:A5 w 0 k (.string ⟨lt.toArray⟩))(I:Lib.TabIs Tryz.prog w "internal/strconv.uint64pow10" .u64 Lib.pow10Tab):
 Ac 134 #[A0 s,A0 n] w (Ak (.string ⟨(D0 lt n).toArray⟩) λw'=>A2 A7 w w'):=by
 obtain⟨rfl,hk⟩:=hs;obtain⟨aF,aK⟩:=hn;have W:(k:Int)<5:=by omega
 have L:(k:Int)=1\/(k:Int)=2:=by omega
 have aE:decide ((k:Int)=1\/(k:Int)=2)=true:=Cc L;have aH:=A1 (Tryz.strconv_Itoa n aF aK w I);have aP:∀w',_:=λw'=>Tryz.strings_Repeat ⟨#[48]⟩ (19-(Lib.itoa n).length) w' (by omega) (by show 1*_<=_;omega);have H:=A1 aP;have E:Hid (D0 lt n=lt++Lib.repeatL [48] (19-(Lib.itoa n).length)++Lib.itoa n):=rfl;have z:=Tz [48] (19-(Lib.itoa n).length);generalize aG:Lib.itoa n=dg at aH O H E z;clear aP aG I;obtain⟨c,V,hcl⟩:∃c:Nat,19-dg.length=c/\dg.length+c=19:=⟨_,rfl,by omega⟩;rw[V]at H E z;clear V;obtain⟨d,J⟩:∃d,Lib.repeatL [48] c=d:=⟨_,rfl⟩;have aA:Hid (∀w':World,Ac 174 #[.string ⟨#[48]⟩,A0 (c:Int)] w' λe aJ=>e=.returned (.string ⟨d.toArray⟩)/\Below w'.heap.size w' aJ):=by
  rw[<-J];exact H.o
 rw[J]at E z;clear J H;have hrl2:d.length<=19:=by rw[z];simp;omega
 clear z;generalize Y:D0 lt n=nm at E ⊢;have aM:=A1 hl;clear Y hl
 go_enter func134,ntmps134
 go_wp2_with (fail);refine(JA w k).mono ?_;rintro e w0⟨rfl,rfl⟩;rw[aE];have HK1:=A1 hk;have HK2:=A1 L;have aL:=A1 W;clear hk L W aE;go_wp2_with (go_at_call 173;refine aH.m ?_;rintro e w1⟨rfl,hw⟩;have aO:=A1 hw;clear hw);have Z:Hid (A2 A7 w w1):=by
  obtain⟨k,os,he⟩:=aO.o;rw[he];exact A2.dW k os
 have aD:=A1 (Z.o.af aM.o);clear aO aH aM;refine EW 10 (λy=>{tmps:=#[A0 k,A0 n,undef,undef,.string ⟨#[]⟩,.string ⟨dg.toArray⟩,A0 k,.bool true,.bool false,undef,undef,undef,A0 n,.string ⟨dg.toArray⟩,y 0,y 1,y 2,y 3,y 4,y 5,y 6,y 7,y 8,y 9],defers:=[]}) (λ_=>undef)
  (λw'=>A5 w' 0 k (.string ⟨lt.toArray⟩)/\A2 A7 w1 w') (A2 A7)
  (λj x w'=>match j with
   | 0=>x=A0 k
   | 1=>x=.pointer (some (A8 0 k))
   | 2=>x=.string ⟨lt.toArray⟩
   | 3=>x=.string ⟨dg.toArray⟩
   | 4=>x=A0 dg.length
   | 5=>x=A0 (c:Int)
   | 6=>x=.string ⟨d.toArray⟩
   | 7=>x=.string ⟨(lt++d).toArray⟩
   | 8=>x=.string ⟨dg.toArray⟩
   | 9=>x=.string ⟨nm.toArray⟩
   | _=>True)
  (by kernel_rfl) (by kernel_rfl) rfl ?_ ?_ ?_ ?_
 ·exact⟨aD.o,(A2.C _ _).I⟩
 ·intro j x w1 w2 hR hS' hG;split at hG<;>exact hG
 ·clear aD;simp only[Ei,Eh,DV,Fx]
  repeat' (with_reducible apply And.intro)
  all_goals refine⟨?_,(by intro y U _ _ h;exact Bool.noConfusion h),λy x=>rfl⟩
  all_goals
   intro y U hS O hw K hK;obtain⟨c0,aI⟩:=hS;simp[Ec,Region.binds,DC,List.filter_cons]at O;have hk5:=aL.o;have hk0:=C3 k;have ap1:=GP lt d;(have g1:¬(9223372036854775807<lt.length+d.length):=by omega);(have g2:¬(9223372036854775807<lt.length+d.length+dg.length):=by omega);(have g3:¬(9223372036854775807<lt.length+(d.length+dg.length)):=by omega);(have ap2:(ByteArray.mk (lt++d).toArray)++(ByteArray.mk dg.toArray)=⟨nm.toArray⟩:=by rw[GP,E.o]);(have ew:IntKind.i64.wrap (c:Int)=c:=by simp[IntKind.wrap,IntKind.bits,IntKind.signed];omega);(have ew2:(19:Int)-(dg.length:Int)=(c:Int):=by omega);have aB:Hid (A5 U 0 k (.string ⟨lt.toArray⟩)/\A2 A7 w1 U):=⟨c0,aI⟩;have aN:=A1 hK
  all_goals dsimp only
  all_goals try go_simp
  all_goals try with_reducible exact aN.o _ _ _ rfl (by simp[Act.put,O]) (A2.C _ _) aB.o
  all_goals try
   (have hd5:y 5=A0 (c:Int):=by with_reducible exact O);refine(aA.o U).mono ?_;rintro e w2⟨rfl,hb⟩;have V:A2 A7 U w2:=A2.bQ hb;exact aN.o _ _ _ rfl (by simp[Act.put,O]) V ⟨V.af aB.o.1,aB.o.2.tr V⟩
 ·intro y U hS hG;have h9:y 9=.string ⟨nm.toArray⟩:=hG 9 (by omega);have aB:=A1 hS;go_wp2;go_ret;exact⟨rfl,Z.o.tr aB.o.2⟩
def M1(w:World)(k:Nat)(hk:k=3\/k=4)(lt:List UInt8)(n:Int)(hl:A5 w 0 k (.string ⟨lt.toArray⟩)):
 Ac 134 #[A0 k,A0 n] w (Ak (.string ⟨lt.toArray⟩) λw'=>w=w'):=by
 have hk1:(k:Int)<5:=by omega
 have hk0:=C3 k;have d:decide ((k:Int)=1\/(k:Int)=2)=false:=Cj (by omega)
 go_enter func134,ntmps134
 go_wp2_with (fail);refine(JA w k).mono ?_;rintro e w0⟨rfl,rfl⟩;rw[d];go_wp2;go_ret;exact⟨rfl,rfl⟩
end
end Go.Proofs.YtodcnkbblippnaaGreatDoor
