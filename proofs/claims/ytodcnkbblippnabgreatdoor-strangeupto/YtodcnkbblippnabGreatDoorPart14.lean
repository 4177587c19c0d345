/- Part 14 of a proof: walks of the program. -/
import Derived.Test.YtodcnkbblippnabGreatDoorPart08
import Derived.Test.YtodcnkbblippnabGreatDoorPart10
import Derived.Test.YtodcnkbblippnabGreatDoorPart12
import Derived.Test.YtodcnkbblippnabGreatDoorPart13
namespace Go.Proofs.YtodcnkbblippnabGreatDoor
set_option maxRecDepth 100000
set_option maxHeartbeats 32000000
set_option linter.defProp false
open Go.Proofs.Tryz
section
open Go.RowKit
def II(r:Nat->Nat)(es:List AI):(ren r es).length=es.length:=by simp[ren]
def R7(r:Nat->Nat):ren r []=[]:=rfl
def LJ(r:Nat->Nat)(a b:List AI):ren r (a++b)=ren r a++ren r b:=by simp[ren]
def XE(r:Nat->Nat)(es:List AI)(k:Nat):(ren r es).take k=ren r (es.take k):=by simp[ren,List.map_take]
def XG(r:Nat->Nat)(es:List AI)(k:Nat):(ren r es).drop k=ren r (es.drop k):=by simp[ren,List.map_drop]
def Nv(r:Nat->Nat)(es:List AI)(name:ByteArray):B4 (ren r es) name=B4 es name:=by
 induction es with
 | nil=>rfl
 | cons e t ih=>simp only[ren,F8,B4]at ih ⊢;rw[ih]
def Js(r:Nat->Nat)(es:List AI)(name:ByteArray):lookup (ren r es) name=(lookup es name).map r:=by
 induction es with
 | nil=>rfl
 | cons e t ih=>
  simp only[ren,F8,lookup]at ih ⊢;by_cases h:e.1=name
  ·simp[h]
  ·simp[h,ih]
def R8(r:Nat->Nat)(es:List AI)(k:Nat):(ren r es)[k]?=(es[k]?).map λe=>(e.1,r e.2):=by simp[ren]
def XF(r:Nat->Nat)(es:List AI)(i:Nat)(name:ByteArray)(k:Nat):Dm (ren r es) i name k=ren r (Dm es i name k):=by
 induction k with
 | zero=>rfl
 | succ k ih=>
  simp only[Dm,ih,R8,LJ];cases es[k]? with
  | none=>simp[R7]
  | some e=>
   simp only[HL];by_cases h:k≠i/\e.1≠name
   ·rw[Ah h,Ah h];rfl
   ·rw[Ae h,Ae h,R7]
def XH(r:Nat->Nat)(es:List AI)(k:Nat):EJ (ren r es) k=EJ es k:=by
 induction k with
 | zero=>rfl
 | succ k ih=>
  simp only[EJ,ih,R8];cases es[k]?<;>rfl
def R9(r:Nat->Nat)(es:List AI):dList (ren r es)=dList es:=by unfold dList;rw[II,XH]
def Qb(r:Nat->Nat)(G F:Nat->FC)(es:List AI)(h:∀f,D9 f es->G (r f)=F f):B6 G (ren r es)=B6 F es:=by
 induction es with
 | nil=>rfl
 | cons e t ih=>
  have O:=h e.2 ⟨e,by simp,rfl⟩;have z:=ih λf H=>h f (by obtain⟨x,W,I⟩:=H;exact⟨x,Bn _ W,I⟩);simp only[ren,F8,B6]at z ⊢;rw[O,z]
def SZ{es:List AI}{name:ByteArray}{f:Nat}(h:lookup es name=some f):D9 f es:=by
 induction es with
 | nil=>cases h
 | cons e t ih=>
  simp only[lookup]at h;by_cases z:e.1=name
  ·simp[z]at h;exact⟨e,by simp,h⟩
  ·simp[z]at h;have⟨x,hx,hh⟩:=ih h;exact⟨x,Bn _ hx,hh⟩
def ren_congr{r z:Nat->Nat}{es:List AI}(h:∀f,D9 f es->z f=r f):ren z es=ren r es:=by
 unfold ren;exact K9 λe H=>by rw[h e.2 ⟨e,H,rfl⟩]
def DS.ren_congr{r H:Nat->Nat}{D:DS}(h:∀f,D.As f->H f=r f):D.ren H=D.ren r:=by
 unfold DS.ren;rw[Go.Proofs.YtodcnkbblippnabGreatDoor.ren_congr λf z=>h f (.inl z),Go.Proofs.YtodcnkbblippnabGreatDoor.ren_congr (es:=D.AK) λf z=>h f (.inr (.inl z))]
 congr 1
 exact K9 λc I=>Go.Proofs.YtodcnkbblippnabGreatDoor.ren_congr λf z=>h f (.inr (.inr ⟨c,I,z⟩))
def B5(w:World)(b:Nat)(D:DS)(F:Nat->FC)(Ft:Nat->Prop):Prop:=
 ∃r G,D7 w b (D.ren r) G Ft/\(∀f,D.As f->G (r f)=F f)/\∀f h,D.As f->D.As h->r f=r h->f=h
def Ev(w:World)(Ft:Nat->Prop)(w':World)(b:Nat)(D':DS)(F':Nat->FC):Prop:=
 A5 Ft w w'/\∃h,B5 w' b D' F' h/\(∀k,h k->k<w'.heap.size)/\∀k,h k->Ft k\/w.heap.size<=k
def B5.aM{w w':World}{b:Nat}{D:DS}{F:Nat->FC}{Ft:Nat->Prop}(h:B5 w b D F Ft)(O:G3 Ft w w'):B5 w' b D F Ft:=by
 obtain⟨r,G,H,z,I⟩:=h;exact⟨r,G,H.aM O,z,I⟩
def B5.Ai{w:World}{b:Nat}{D:DS}{F:Nat->FC}{Ft:Nat->Prop}(h:B5 w b D F Ft):∃I H z,AO w b I H z D.n:=by
 obtain⟨r,G,⟨I,H,z,vals,VB,O,_⟩,_⟩:=h;exact⟨I,H,z,O.Ai⟩
def B5.of{w:World}{b:Nat}{D:DS}{F:Nat->FC}{Ft:Nat->Prop}(h:D7 w b D F Ft):B5 w b D F Ft:=by
 refine⟨id,F,?_,λ_ _=>rfl,λ_ _ _ _ h=>h⟩;have:D.ren id=D:=by
  have e:∀es,Go.Proofs.YtodcnkbblippnabGreatDoor.ren id es=es:=λes=>by simp[Go.Proofs.YtodcnkbblippnabGreatDoor.ren]
  have z:=funext e;unfold DS.ren;rw[z];simp
 rw[this];exact h
def Ds.bh{w w':World}{Ft:Nat->Prop}{b:Nat}{O D':DS}{I F':Nat->FC}{r:Nat->Nat}(h:Ds w Ft w' b O I)(X:O=D'.ren r)(hG:∀f,D'.As f->I (r f)=F' f)(hi:∀f H,D'.As f->D'.As H->r f=r H->f=H):Ev w Ft w' b D' F':=by
 obtain⟨h1,z,W,h3,Y⟩:=h;subst X;exact⟨h1,z,⟨r,I,W,hG,hi⟩,h3,Y⟩
def J1(D:DS)(r:Nat->Nat):(D.ren r).A6.length=D.A6.length/\(D.ren r).AK.length=D.AK.length/\(D.ren r).Ap.length=D.Ap.length/\Fh (D.ren r).Ap=Fh D.Ap:=by
 refine⟨II _ _,II _ _,by simp[DS.ren],?_⟩;unfold Fh DS.ren;rw[MQ]
 congr 1
 exact K9 λc _=>II r c
section
variable{w:World}{b:Nat}{D:DS}{F:Nat->FC}{Ft:Nat->Prop}
def Sq(room:Int)(w:World):
 Aj 6 #[A0 room] w (Au (A7 w.heap.size) λw'=>B5 w' w.heap.size ⟨[],[],[],Io room⟩ F (One w.heap.size)/\A5 Ab w w'/\w'.heap.size=w.heap.size+1):=by
 refine(YU room w).mono ?_;rintro e w'⟨X,H,Y,W⟩;refine⟨X,B5.of ⟨_,_,_,[],λ_=>.slice none 0 0,⟨H,CL _ _ _ _,CL _ _ _ _,CL _ _ _ _,by intro i hi;simp at hi,?_,?_⟩,?_⟩,W,Y⟩
 ·rintro f (⟨e,h,_⟩|⟨e,h,_⟩|⟨c,z,_⟩)
  ·cases h
  ·cases h
  ·cases z
 ·intro f f' g _ _ I;simp[Value.ownBlock]at I
 ·intro k O;cases O using C7.bE with
  | Ai=>rfl
  | dir e=>simp[Value.ownBlock]at e
  | Ag e=>simp[Value.ownBlock]at e
  | An e=>simp[Value.ownBlock]at e
  | Da hm e=>cases hm
  | BL hf=>rcases hf with⟨e,h,_⟩|⟨e,h,_⟩|⟨c,z,_⟩<;>contradiction
  | byt hf e=>simp[Value.ownBlock]at e
def VU(h:B5 w b D F Ft):
 Aj 71 #[A7 b] w (Au (A0 (E4 D).1) λw'=>Ev w Ft w' b (E4 D).2 F):=by
 obtain⟨r,G,h1,Y,h3⟩:=h;refine(VT w b _ G Ft h1).mono ?_;rintro e w'⟨q1,q2⟩;have hD:(E4 (D.ren r)).2=(E4 D).2.ren r:=by
  unfold E4;by_cases O:(bg D.n).2.1=0
  ·have I:(bg (D.ren r).n).2.1=0:=O;rw[Ah O,Ah I];rfl
  ·have I:¬(bg (D.ren r).n).2.1=0:=O;rw[Ae O,Ae I];rfl
 have H:∀f,(E4 D).2.As f->D.As f:=by
  intro f z;unfold E4 at z;simp only at z;split at z
  ·rcases z with z|z|⟨c,hc,_⟩
   ·exact .inl z
   ·exact .inl z
   ·cases hc
  ·exact z
 exact⟨q1,q2.bh hD (λf z=>Y f (H f z)) λf X z W=>h3 f X (H f z) (H X W)⟩
def FK{name:ByteArray}{f:Nat}(h:lookup D.A6 name=some f):D.As f:=.inl (SZ h)
def Qi(h:B5 w b D F Ft)(name:ByteArray):
 Aj 115 #[A7 b,.string name] w (Au (A0 (Cx D F name).1) λw'=>Ev w Ft w' b (Cx D F name).2.1 (Cx D F name).2.2):=by
 obtain⟨r,G,h1,O,h3⟩:=h;refine(VQ w b _ G Ft h1 name).mono ?_;rintro e w'⟨X,q2⟩;have Y:lookup (D.ren r).A6 name=(lookup D.A6 name).map r:=Js r D.A6 name;cases hx:lookup D.A6 name with
 | none=>
  rw[hx]at Y;have e1:Cx (D.ren r) G name=(8,D.ren r,G):=by unfold Cx;rw[Y];rfl
  have e2:Cx D F name=(8,D,F):=by unfold Cx;rw[hx]
  rw[e1]at X q2;rw[e2];exact⟨X,q2.bh rfl O h3⟩
 | some f=>
  rw[hx]at Y;have e1:Cx (D.ren r) G name=((bg D.n).2.1,{D with n:=(bg D.n).2.2}.ren r,if (bg D.n).2.1=0 then upd G (r f) ((G (r f)).1,(G (r f)).1.length) else G):=by unfold Cx;rw[Y];rfl
  have e2:Cx D F name=((bg D.n).2.1,{D with n:=(bg D.n).2.2},if (bg D.n).2.1=0 then upd F f ((F f).1,(F f).1.length) else F):=by unfold Cx;rw[hx]
  rw[e1]at X q2;rw[e2];refine⟨X,q2.bh rfl (λz H=>?_) h3⟩;have hf:=FK hx;show (if (bg D.n).2.1=0 then upd G (r f) ((G (r f)).1,(G (r f)).1.length) else G) (r z)=(if (bg D.n).2.1=0 then upd F f ((F f).1,(F f).1.length) else F) z;by_cases W:(bg D.n).2.1=0
  ·rw[Ah W,Ah W];unfold upd;by_cases I:z=f
   ·subst I;simp[O z hf]
   ·have:r z≠r f:=λe=>I (h3 z f H hf e);simp only[this,I,C4];exact O z H
  ·rw[Ae W,Ae W];exact O z H
def Nc{r:Nat->Nat}{G:Nat->FC}(O:∀f,D.As f->G (r f)=F f)(W:∀f h,D.As f->D.As h->r f=r h->f=h){f:Nat}(I:D.As f)(c:FC):∀h,D.As h->upd G (r f) c (r h)=upd F f c h:=λh H=>by
 unfold upd;by_cases z:h=f
 ·subst z;simp
 ·have:r h≠r f:=λe=>z (W h f H I e);simp only[this,z,C4];exact O h H
def TV{r:Nat->Nat}{G:Nat->FC}(X:∀f,D.As f->G (r f)=F f)(Y:∀f h,D.As f->D.As h->r f=r h->f=h){f:Nat}(W:D.As f)(data:ByteArray)(z e:Int):
 (BI (D.ren r) G (r f) data z e).1=(BI D F f data z e).1/\(BI (D.ren r) G (r f) data z e).2.1=(BI D F f data z e).2.1.ren r/\(∀h,D.As h->(BI (D.ren r) G (r f) data z e).2.2 (r h)=(BI D F f data z e).2.2 h)/\(∀h,(BI D F f data z e).2.1.As h↔D.As h):=by
 have O:FZ (D.ren r) G=FZ D F:=by
  unfold FZ;have:B6 G (D.ren r).A6=B6 F D.A6:=Qb r G F D.A6 λf W=>X f (.inl W);rw[this];rfl
 unfold BI;rw[O];by_cases hc:z>FZ D F
 ·simp only[hc,Cn];rw[X f W];refine⟨by first|trivial|rfl,?_,λh I=>Nc X Y W _ h I,λh=>?_⟩
  ·by_cases H:e=0
   ·rw[Ah H,Ah H];rfl
   ·rw[Ae H,Ae H]
  ·by_cases H:e=0
   ·rw[Ah H];exact Iff.rfl
   ·rw[Ae H]
 ·simp only[hc,C4];rw[X f W];exact⟨by first|trivial|rfl,by first|trivial|rfl,λh I=>Nc X Y W _ h I,λ_=>by first|trivial|exact Iff.rfl⟩
def Uu(h:B5 w b D F Ft)(name data:ByteArray)(hroom : -4611686018427387904<=D.n.B1/\D.n.B1<=9223372036854775807)(hu:B6 F D.A6<=4611686018427387904)(hp:0<=D.n.BA/\D.n.BA<=9223372036854775807)(hl:∀f,lookup D.A6 name=some f->(F f).1.length+data.size<=70368744177664):
 Aj 8 #[A7 b,.string name,.string data] w (Au (A0 (Bj D F name data).1) λw'=>Ev w Ft w' b (Bj D F name data).2.1 (Bj D F name data).2.2):=by
 obtain⟨r,G,h1,h2,h3⟩:=h;have H:lookup (D.ren r).A6 name=(lookup D.A6 name).map r:=Js r D.A6 name
 refine(A2m w b _ G Ft h1 name data hroom (by
  have:B6 G (D.ren r).A6=B6 F D.A6:=Qb r G F D.A6 λf Y=>h2 f (.inl Y)
  rw[this];exact hu) hp (λf Y=>by
   rw[H]at Y;cases hx:lookup D.A6 name with
   | none=>rw[hx]at Y;cases Y
   | some f0=>
    rw[hx]at Y;simp at Y;subst Y
    rw[h2 f0 (FK hx)];exact hl f0 hx)).mono ?_
 rintro e w'⟨X,q2⟩;cases hx:lookup D.A6 name with
 | none=>
  rw[hx]at H;have e1:Bj (D.ren r) G name data=(8,D.ren r,G):=by unfold Bj;rw[H];rfl
  have e2:Bj D F name data=(8,D,F):=by unfold Bj;rw[hx]
  rw[e1]at X q2;rw[e2];exact⟨X,q2.bh rfl h2 h3⟩
 | some f=>
  rw[hx]at H;have Y:=FK hx;have aA:=Y;by_cases c1:(bg D.n).1=true
  ·have e1:Bj (D.ren r) G name data=BI ({D with n:=(bg D.n).2.2}.ren r) G (r f) data data.size (bg D.n).2.1:=by
    unfold Bj;rw[H];show (if (bg D.n).1=true then _ else _)=_;rw[Ah c1];rfl
   have e2:Bj D F name data=BI {D with n:=(bg D.n).2.2} F f data data.size (bg D.n).2.1:=by
    unfold Bj;rw[hx];show (if (bg D.n).1=true then _ else _)=_;rw[Ah c1]
   rw[e1]at X q2;rw[e2];have⟨k1,k2,k3,k4⟩:=TV (D:={D with n:=(bg D.n).2.2}) (r:=r) (G:=G) (F:=F) h2 h3 aA data data.size (bg D.n).2.1;rw[k1]at X;exact⟨X,q2.bh k2 (λI z=>k3 I ((k4 I).1 z)) λI W z O=>h3 I W ((k4 I).1 z) ((k4 W).1 O)⟩
  ·by_cases c2:(bg D.n).2.2.Bf=false/\0<data.size
   ·have e1:Bj (D.ren r) G name data=BI ({D with n:=(bg D.n).2.2}.ren r) G (r f) data ((bg D.n).2.2.BA % data.size) (bg D.n).2.1:=by
     unfold Bj;rw[H];show (if (bg D.n).1=true then _ else if (bg D.n).2.2.Bf=false/\0<data.size then _ else _)=_;rw[Ae c1,Ah c2];rfl
    have e2:Bj D F name data=BI {D with n:=(bg D.n).2.2} F f data ((bg D.n).2.2.BA % data.size) (bg D.n).2.1:=by
     unfold Bj;rw[hx];show (if (bg D.n).1=true then _ else if (bg D.n).2.2.Bf=false/\0<data.size then _ else _)=_;rw[Ae c1,Ah c2]
    rw[e1]at X q2;rw[e2];have⟨k1,k2,k3,k4⟩:=TV (D:={D with n:=(bg D.n).2.2}) (r:=r) (G:=G) (F:=F) h2 h3 aA data ((bg D.n).2.2.BA % data.size) (bg D.n).2.1;rw[k1]at X;exact⟨X,q2.bh k2 (λI z=>k3 I ((k4 I).1 z)) λI W z O=>h3 I W ((k4 I).1 z) ((k4 W).1 O)⟩
   ·have e1:Bj (D.ren r) G name data=((bg D.n).2.1,{D with n:=(bg D.n).2.2}.ren r,G):=by
     unfold Bj;rw[H];show (if (bg D.n).1=true then _ else if (bg D.n).2.2.Bf=false/\0<data.size then _ else _)=_;rw[Ae c1,Ae c2];rfl
    have e2:Bj D F name data=((bg D.n).2.1,{D with n:=(bg D.n).2.2},F):=by
     unfold Bj;rw[hx];show (if (bg D.n).1=true then _ else if (bg D.n).2.2.Bf=false/\0<data.size then _ else _)=_;rw[Ae c1,Ae c2]
    rw[e1]at X q2;rw[e2];exact⟨X,q2.bh rfl h2 h3⟩
def JM{es:List AI}{n:DN}(H:∀f,D9 f es->D.As f)(f:Nat)(h:({D with A6:=es,Ap:=D.Ap++[es],n:=n}:DS).As f):D.As f:=by
 rcases h with h|h|⟨c,z,h⟩
 ·exact H f h
 ·exact .inr (.inl h)
 ·rcases AU.1 z with z|z
  ·exact .inr (.inr ⟨c,z,h⟩)
  ·simp at z;subst z;exact H f h
def Nf(r:Nat->Nat)(es:List AI)(n:DN):({D.ren r with A6:=ren r es,Ap:=(D.ren r).Ap++[ren r es],n:=n}:DS)=({D with A6:=es,Ap:=D.Ap++[es],n:=n}:DS).ren r:=by
 simp[DS.ren]
def XL(h:B5 w b D F Ft)(name:ByteArray)(hs:D.A6.length<1099511627776/\D.Ap.length<1099511627776):
 Aj 158 #[A7 b,.string name] w (Au (A0 (Dx D name).1) λw'=>Ev w Ft w' b (Dx D name).2 F):=by
 obtain⟨r,G,h1,h2,h3⟩:=h;have⟨l1,l2,l3,l4⟩:=J1 D r;refine(XK w b _ G Ft h1 name (by rw[l1,l3];exact hs)).mono ?_;rintro e w'⟨O,W⟩;have I:B4 (D.ren r).A6 name=B4 D.A6 name:=Nv r D.A6 name;by_cases c1:B4 D.A6 name<0
 ·have e1:Dx (D.ren r) name=(8,D.ren r):=by unfold Dx;rw[I,Ah c1]
  have X:Dx D name=(8,D):=by unfold Dx;rw[Ah c1]
  rw[e1]at O W;rw[X];exact⟨O,W.bh rfl h2 h3⟩
 ·by_cases c2:(bg D.n).1=true
  ·have X:Dx D name=((bg D.n).2.1,{D with A6:=D.A6.take (B4 D.A6 name).toNat++D.A6.drop ((B4 D.A6 name).toNat+1),Ap:=D.Ap++[D.A6.take (B4 D.A6 name).toNat++D.A6.drop ((B4 D.A6 name).toNat+1)],n:=(bg D.n).2.2}):=by
    unfold Dx;rw[Ae c1];simp only[c2,Cn]
   have e1:Dx (D.ren r) name=((bg D.n).2.1,{D with A6:=D.A6.take (B4 D.A6 name).toNat++D.A6.drop ((B4 D.A6 name).toNat+1),Ap:=D.Ap++[D.A6.take (B4 D.A6 name).toNat++D.A6.drop ((B4 D.A6 name).toNat+1)],n:=(bg D.n).2.2}.ren r):=by
    have z:(bg (D.ren r).n).1=true:=c2;unfold Dx;rw[I,Ae c1];simp only[z,Cn];rw[<-Nf,LJ,<-XE,<-XG];rfl
   rw[e1]at O W;rw[X];have H:∀f,D9 f (D.A6.take (B4 D.A6 name).toNat++D.A6.drop ((B4 D.A6 name).toNat+1))->D.As f:=by
    rintro f⟨x,Y,he⟩;rcases AU.1 Y with Y|Y
    ·exact .inl ⟨x,Iv Y,he⟩
    ·exact .inl ⟨x,Lh Y,he⟩
   exact⟨O,W.bh rfl (λf hf=>h2 f (JM H f hf)) λf f' hf aA=>h3 f f' (JM H f hf) (JM H f' aA)⟩
  ·(have X:Dx D name=((bg D.n).2.1,{D with n:=(bg D.n).2.2}):=by unfold Dx;rw[Ae c1];simp only[c2];rfl);have e1:Dx (D.ren r) name=((bg D.n).2.1,{D with n:=(bg D.n).2.2}.ren r):=by
    have z:¬(bg (D.ren r).n).1=true:=c2;unfold Dx;rw[I,Ae c1];simp only[z];rfl
   rw[e1]at O W;rw[X];exact⟨O,W.bh rfl h2 h3⟩
def XC(h:B5 w b D F Ft)(old name:ByteArray)(hs:D.A6.length<1099511627776/\D.Ap.length<1099511627776):
 Aj 204 #[A7 b,.string old,.string name] w (Au (A0 (CZ D old name).1) λw'=>Ev w Ft w' b (CZ D old name).2 F):=by
 obtain⟨r,G,h1,h2,h3⟩:=h;have⟨l1,l2,l3,l4⟩:=J1 D r;refine(XB w b _ G Ft h1 old name (by rw[l1,l3];exact hs)).mono ?_;rintro e w'⟨I,O⟩;have H:lookup (D.ren r).A6 old=(lookup D.A6 old).map r:=Js r D.A6 old;cases hx:lookup D.A6 old with
 | none=>
  rw[hx]at H;have e1:CZ (D.ren r) old name=(8,D.ren r):=by unfold CZ;rw[H];rfl
  have X:CZ D old name=(8,D):=by unfold CZ;rw[hx]
  rw[e1]at I O;rw[X];exact⟨I,O.bh rfl h2 h3⟩
 | some f=>
  rw[hx]at H;by_cases c1:name=ByteArray.empty
  ·(have e1:CZ (D.ren r) old name=(8,D.ren r):=by unfold CZ;rw[H];simp only[HL];rw[Ah c1]);(have X:CZ D old name=(8,D):=by unfold CZ;rw[hx];simp only;rw[Ah c1]);rw[e1]at I O;rw[X];exact⟨I,O.bh rfl h2 h3⟩
  ·by_cases c2:(bg D.n).1=true
   ·have X:CZ D old name=((bg D.n).2.1,{D with A6:=Dm D.A6 (B4 D.A6 old).toNat name D.A6.length++[(name,f)],Ap:=D.Ap++[Dm D.A6 (B4 D.A6 old).toNat name D.A6.length++[(name,f)]],n:=(bg D.n).2.2}):=by
     unfold CZ;rw[hx];simp only;rw[Ae c1];simp only[c2,Cn]
    have e1:CZ (D.ren r) old name=((bg D.n).2.1,{D with A6:=Dm D.A6 (B4 D.A6 old).toNat name D.A6.length++[(name,f)],Ap:=D.Ap++[Dm D.A6 (B4 D.A6 old).toNat name D.A6.length++[(name,f)]],n:=(bg D.n).2.2}.ren r):=by
     have W:(bg (D.ren r).n).1=true:=c2;have aB:B4 (D.ren r).A6 old=B4 D.A6 old:=Nv r D.A6 old;unfold CZ;rw[H];simp only[HL];rw[Ae c1];simp only[W,Cn];rw[<-Nf,LJ,<-XF,aB,l1];rfl
    rw[e1]at I O;rw[X];have Y:∀f',D9 f' (Dm D.A6 (B4 D.A6 old).toNat name D.A6.length++[(name,f)])->D.As f':=by
     rintro f'⟨x,z,he⟩;rcases AU.1 z with z | z
     ·exact .inl ⟨x,LK _ _ _ _ x z,he⟩
     ·simp at z;subst z;cases he;exact FK hx
    exact⟨I,O.bh rfl (λf hf=>h2 f (JM Y f hf)) λf f' hf aA=>h3 f f' (JM Y f hf) (JM Y f' aA)⟩
   ·(have X:CZ D old name=((bg D.n).2.1,{D with n:=(bg D.n).2.2}):=by unfold CZ;rw[hx];simp only;rw[Ae c1];simp only[c2];rfl);have e1:CZ (D.ren r) old name=((bg D.n).2.1,{D with n:=(bg D.n).2.2}.ren r):=by
     have W:¬(bg (D.ren r).n).1=true:=c2;unfold CZ;rw[H];simp only[HL];rw[Ae c1];simp only[W];rfl
    rw[e1]at I O;rw[X];exact⟨I,O.bh rfl h2 h3⟩
def TX(h:B5 w b D F Ft)(name:ByteArray)(k:Nat)(hk:¬D.As k)(hs:D.A6.length<1099511627776/\D.Ap.length<1099511627776):
 Calls Tryz.prog 7 #[.pointer (some ⟨b,0,none⟩),.string name] w λe w'=>e=.returned (.int .i64 (Cy D name k).1)/\Ev w Ft w' b (Cy D name k).2 (upd F k ([],0)):=by
 obtain⟨r,G,h1,h2,h3⟩:=h;have⟨l1,l2,l3,l4⟩:=J1 D r;have X:∀f,D.As f->r f<w.heap.size:=by
  obtain⟨vd,vs,vc,vals,VB,hr,_⟩:=h1;intro f z;refine hr.lt (.BL ?_);rcases z with⟨x,I,rfl⟩|⟨x,I,rfl⟩|⟨c,W,x,I,rfl⟩
  ·exact .inl ⟨_,DD I,rfl⟩
  ·exact .inr (.inl ⟨_,DD I,rfl⟩)
  ·exact .inr (.inr ⟨_,DD W,_,DD I,rfl⟩)
 refine(A1o w b _ G Ft h1 name (by rw[l1,l3];exact hs)).mono ?_;rintro e w'⟨f0,q0,q1,q2⟩;have aB:B4 (D.ren r).A6 name=B4 D.A6 name:=Nv r D.A6 name;have hG:∀f,D.As f->upd G f0 ([],0) (r f)=upd F k ([],0) f:=λf z=>by
  unfold upd;have n1:r f≠f0:=by have:=X f z;omega
  have n2:f≠k:=λe=>hk (e ▸ z);simp only[n1,n2,C4];exact h2 f z
 by_cases c1:name=ByteArray.empty\/B4 D.A6 name≥0
 ·have e1:Cy (D.ren r) name f0=(8,D.ren r):=by unfold Cy;rw[aB,Ah c1]
  have e2:Cy D name k=(8,D):=by unfold Cy;rw[Ah c1]
  rw[e1]at q1 q2;rw[e2];exact⟨q1,q2.bh rfl hG h3⟩
 ·by_cases c2:(bg D.n).1=true
  ·have e2:Cy D name k=((bg D.n).2.1,{D with A6:=D.A6++[(name,k)],Ap:=D.Ap++[D.A6++[(name,k)]],n:=(bg D.n).2.2}):=by
    unfold Cy;rw[Ae c1];simp only[c2,Cn]
   have H:∀f,D.As f->(λf=>if f=k then f0 else r f) f=r f:=λf z=>by
    have n2:f≠k:=λe=>hk (e ▸ z);simp only[n2,C4]
   have aD:D.ren (λf=>if f=k then f0 else r f)=D.ren r:=DS.ren_congr H;have e1:Cy (D.ren r) name f0=((bg D.n).2.1,{D with A6:=D.A6++[(name,k)],Ap:=D.Ap++[D.A6++[(name,k)]],n:=(bg D.n).2.2}.ren (λf=>if f=k then f0 else r f)):=by
    have aA:(bg (D.ren r).n).1=true:=c2;unfold Cy;rw[aB,Ae c1];simp only[aA,Cn];rw[<-Nf,aD,LJ];have e3:ren (λf=>if f=k then f0 else r f) D.A6=(D.ren r).A6:=by
     have:=E5 DS.A6 aD;exact this
    rw[e3];(have e4:ren (λf=>if f=k then f0 else r f) [(name,k)]=[(name,f0)]:=by simp[ren]);rw[e4];rfl
   rw[e1]at q1 q2;rw[e2];have O:∀f,({D with A6:=D.A6++[(name,k)],Ap:=D.Ap++[D.A6++[(name,k)]],n:=(bg D.n).2.2}:DS).As f->D.As f\/f=k:=by
    have key:∀f,D9 f (D.A6++[(name,k)])->D.As f\/f=k:=by
     rintro f⟨x,I,rfl⟩;rcases AU.1 I with I|I
     ·exact .inl (.inl ⟨x,I,rfl⟩)
     ·simp at I;subst I;exact .inr rfl
    rintro f (z|z|⟨c,W,z⟩)
    ·exact key f z
    ·exact .inl (.inr (.inl z))
    ·rcases AU.1 W with W|W
     ·exact .inl (.inr (.inr ⟨c,W,z⟩))
     ·simp at W;subst W;exact key f z
   refine⟨q1,q2.bh rfl (λf z=>?_) λf f' z aE e=>?_⟩
   ·rcases O f z with h|h
    ·simp only[H f h];exact hG f h
    ·subst h;simp[upd]
   ·rcases O f z with h|h<;>rcases O f' aE with Y | Y
    ·simp only[H f h,H f' Y]at e;exact h3 f f' h Y e
    ·subst Y;simp only[H f h,Cn]at e;have:=X f h;omega
    ·subst h;simp only[H f' Y,Cn]at e;have:=X f' Y;omega
    ·rw[h,Y]
  ·(have e2:Cy D name k=((bg D.n).2.1,{D with n:=(bg D.n).2.2}):=by unfold Cy;rw[Ae c1];simp only[c2];rfl);have e1:Cy (D.ren r) name f0=((bg D.n).2.1,{D with n:=(bg D.n).2.2}.ren r):=by
    have aA:¬(bg (D.ren r).n).1=true:=c2;unfold Cy;rw[aB,Ae c1];simp only[aA];rfl
   rw[e1]at q1 q2;rw[e2];exact⟨q1,q2.bh rfl hG h3⟩
def XW(h:B5 w b D F Ft)(name:ByteArray)(p n:Int):
 Aj 168 #[A7 b,.string name,A0 p,A0 n] w (Au (.tuple #[.string ⟨(F4 D F name p n).1.toArray⟩,A0 (F4 D F name p n).2]) λw'=>w=w'):=by
 obtain⟨r,G,O,I,h3⟩:=h;have z:lookup (D.ren r).A6 name=(lookup D.A6 name).map r:=Js r D.A6 name;have H:F4 (D.ren r) G name p n=F4 D F name p n:=by
  unfold F4;rw[z];cases hx:lookup D.A6 name with
  | none=>rfl
  | some f=>simp only[HL,I f (FK hx)]
 have:=XV w b _ G Ft O name p n
 rwa [H]at this
def Nk(h:B5 w b D F Ft)(name:ByteArray):
 Aj 167 #[A7 b,.string name] w (Au (.tuple #[A0 (Ct D F name).1,A0 (Ct D F name).2]) λw'=>w=w'):=by
 obtain⟨r,G,h1,W,h3⟩:=h;have H:lookup (D.ren r).A6 name=(lookup D.A6 name).map r:=Js r D.A6 name;have O:Ct (D.ren r) G name=Ct D F name:=by
  unfold Ct;rw[H];cases hx:lookup D.A6 name with
  | none=>rfl
  | some f=>simp only[HL,W f (FK hx)]
 obtain⟨vd,X,I,z,aA,Y,_⟩:=h1;have:=X0 w b _ G vd X I z aA Y name
 rwa [O]at this
def Zp(h:B5 w b D F Ft)(I:D.A6.length<1099511627776):
 Aj 48 #[A7 b] w λe w'=>∃v,e=.returned v/\w'.ownsRow 0 9 1 v D.A6.length (FE (dList D.A6))/\A5 Ab w w'/\(∀g,v.ownBlock=some g->w.heap.size<=g):=by
 obtain⟨r,G,H,h2,h3⟩:=h;have⟨l1,l2,l3,l4⟩:=J1 D r;have:=O8 w b _ G Ft H (by rw[l1];exact I);have z:dList (D.ren r).A6=dList D.A6:=R9 r D.A6
 rwa [l1,z]at this
def A1c(h:B5 w b D F Ft):Aj 73 #[A7 b] w (Au (.bool D.n.Bf) λw'=>w=w'):=by
 have⟨vd,vs,vc,h⟩:=h.Ai;exact A1b w b vd vs vc D.n h
def Rh(h:B5 w b D F Ft):Aj 21 #[A7 b] w (Au (A0 D.n.Bt) λw'=>w=w'):=by
 have⟨vd,vs,vc,h⟩:=h.Ai;exact XN w b vd vs vc D.n h
def TW(h:B5 w b D F Ft)(c:Int):Aj 45 #[A7 b,A0 c] w (Au (.tuple #[]) λw'=>Ev w Ft w' b {D with n:={D.n with CP:=if c>0 then wrap64 (D.n.Bw+c) else 0}} F):=by
 obtain⟨r,G,⟨vd,O,I,vals,VB,z,H⟩,W,Y⟩:=h;refine(A1j w b vd O I D.n c z.Ai).mono ?_;rintro e w'⟨X,q2,q3⟩;exact⟨X,(z.bN H q2 q3).bh (D':={D with n:={D.n with CP:=if c>0 then wrap64 (D.n.Bw+c) else 0}}) rfl W Y⟩
def TK(h:B5 w b D F Ft)(c p:Int):Aj 17 #[A7 b,A0 c,A0 p] w (Au (.tuple #[]) λw'=>Ev w Ft w' b {D with n:=Es D.n c p} F):=by
 obtain⟨r,G,⟨vd,I,vc,vals,VB,z,X⟩,H,Y⟩:=h;refine(A0V w b vd I vc D.n c p z.Ai).mono ?_;rintro e w'⟨O,q2,W⟩;exact⟨O,(z.bN X q2 W).bh (D':={D with n:=Es D.n c p}) rfl H Y⟩
def A1C(h:B5 w b D F Ft)(hs:D.A6.length+D.AK.length+Fh D.Ap<1099511627776)(aA:D.Ap.length<1099511627776)(hF:∀f,D.As f->(F f).1.length<=1099511627776):
 Calls Tryz.prog 15 #[.pointer (some ⟨b,0,none⟩)] w λe w'=>∃Y H,e=.returned (.pointer (some ⟨Y,0,none⟩))/\B5 w' Y D F H/\(∀k,H k->w.heap.size<=k/\k<w'.heap.size)/\A5 (λ_=>False) w w':=by
 obtain⟨r,G,h1,h2,h3⟩:=h;have⟨l1,l2,l3,l4⟩:=J1 D r
 refine(A1B w b _ G Ft h1 (by rw[l1,l2,l4];exact hs) (by rw[l3];exact aA) (λf' z=>by
  obtain⟨f,X,rfl⟩:=DS.cu z
  rw[h2 f X];exact hF f X)).mono ?_
 rintro e w'⟨Y,W,aB,H,X,q2,q3,q4,q5,q6⟩;have I:(D.ren r).ren W=D.ren (λf=>W (r f)):=by
  have e:∀es:List AI,Go.Proofs.YtodcnkbblippnabGreatDoor.ren W (Go.Proofs.YtodcnkbblippnabGreatDoor.ren r es)=Go.Proofs.YtodcnkbblippnabGreatDoor.ren (λf=>W (r f)) es:=λes=>by simp[Go.Proofs.YtodcnkbblippnabGreatDoor.ren]
  simp only[DS.ren,e,MQ]
  congr 1
  exact K9 λc _=>e c
 have hid:∀f,D.As f->(D.ren r).As (r f):=by
  rintro f (⟨x,hx,rfl⟩|⟨x,hx,rfl⟩|⟨c,hc,x,hx,rfl⟩)
  ·exact .inl ⟨_,DD hx,rfl⟩
  ·exact .inr (.inl ⟨_,DD hx,rfl⟩)
  ·exact .inr (.inr ⟨_,DD hc,_,DD hx,rfl⟩)
 refine⟨Y,H,X,⟨λf=>W (r f),aB,I ▸ q2,λf O=>?_,λf f' O z e=>?_⟩,q3,q4⟩
 ·rw[q5 (r f) (hid f O),h2 f O]
 ·exact h3 f f' O z (q6 _ _ (hid f O) (hid f' z) e)
def U0(r:Nat->Nat)(D:DS)(h:Int):G0 (D.ren r) h=ren r (G0 D h):=by
 unfold G0;have:(D.ren r).Ap.length=D.Ap.length:=by simp[DS.ren]
 rw[this];cases Fl h D.Ap.length with
 | zero=>rfl
 | succ k=>
  show (D.Ap.map (ren r)).getD k []=ren r (D.Ap.getD k []);rw[HR,HR,Po];cases D.Ap[k]?<;>rfl
def ON(D:DS)(z:Int)(f:Nat)(h:D9 f (G0 D z)):D.As f:=by
 unfold G0 at h;split at h
 ·exact .inr (.inl h)
 ·rename_i k _;rw[HR]at h;cases hx:D.Ap[k]? with
  | none=>rw[hx]at h;obtain⟨e,H,_⟩:=h;cases H
  | some c=>rw[hx]at h;exact .inr (.inr ⟨c,Li hx,h⟩)
def A1w{r:Nat->Nat}{G:Nat->FC}(W:∀f,D.As f->G (r f)=F f)(X:∀f I,D.As f->D.As I->r f=r I->f=I){es:List AI}(H:∀f,D9 f es->D.As f)(O:List Int)(names:List ByteArray)(k:Nat):
 ∀f,D.As f->DU (ren r es) O names G k (r f)=DU es O names F k f:=by
 induction k with
 | zero=>exact W
 | succ k ih=>
  intro f z;simp only[DU];cases names[k]? with
  | none=>exact ih f z
  | some name=>
   simp only[Js];cases hx:lookup es name with
   | none=>exact ih f z
   | some f0=>
    have h:=H f0 (SZ hx);simp only[HL,ih f0 h];exact Nc ih X h _ f z
def A1u(h:B5 w b D F Ft)(z:Int)(vt:Value)(W:List Int)(ht:N0 w vt W)(aD:∀ad n c x,n≠0->vt=.slice ad n c->ad=some x->¬Ft x.block)(Y:D.A6.length<1099511627776/\D.AK.length<1099511627776/\D.Ap.length<1099511627776/\∀c∈D.Ap,c.length<1099511627776)(hdi : -9223372036854775808<=z/\z<=9223372036854775807)(aB:∀t∈W,-9223372036854775808<=t/\t<=9223372036854775807)(hF:∀f,D.As f->0<=(F f).2/\(F f).2<=(F f).1.length/\(F f).1.length<=1099511627776):
 Aj 74 #[A7 b,A0 z,vt] w (Au (.tuple #[]) λw'=>Ev w Ft w' b (Fq D F z W).1 (Fq D F z W).2):=by
 obtain⟨r,G,h1,h2,h3⟩:=h;have⟨l1,l2,l3,l4⟩:=J1 D r
 refine(A1t w b _ G Ft h1 z vt W ht aD (by
  rw[l1,l2,l3];refine⟨Y.1,Y.2.1,Y.2.2.1,λc hc=>?_⟩;obtain⟨c0,aA,rfl⟩:=C9.1 hc
  rw[II];exact Y.2.2.2 c0 aA) hdi aB (λf' I=>by
  obtain⟨f,X,rfl⟩:=DS.cu I
  rw[h2 f X];exact hF f X)).mono ?_
 rintro e w'⟨X,q2⟩;have H:∀f,(Fq D F z W).1.As f->D.As f:=by
  rintro f (O|O|⟨c,hc,_⟩)
  ·exact ON D z f O
  ·exact ON D z f O
  ·cases hc
 refine⟨X,q2.bh (r:=r) ?_ (λf O=>?_) λf f' O I=>h3 f f' (H f O) (H f' I)⟩
 ·simp only[Fq,U0];rfl
 ·simp only[Fq,U0,R9,II];exact A1w h2 h3 (ON D z) W _ _ f (H f O)
end
def Up(N:Nat):Nat->Prop:=λk=>N<=k
def B5.ad{w:World}{b:Nat}{D:DS}{F:Nat->FC}{Ft:Nat->Prop}(h:B5 w b D F Ft):B5 w.drew b D F Ft:=h.aM λ_ _=>rfl
def Ev.ds{w w':World}{b:Nat}{D:DS}{F:Nat->FC}{Ft:Nat->Prop}(h:Ev w.drew Ft w' b D F):Ev w Ft w' b D F:=by
 obtain⟨z,H⟩:=h;exact⟨⟨z.os,z.FR,z.FU,z.Am,z.Ao⟩,H⟩
section
variable{w:World}{b fb:Nat}{D:DS}{F:Nat->FC}{Ft:Nat->Prop}{T:TypeId}{name:ByteArray}{s:Nat}
def TY(z:Be w fb T (A7 b) name s)(h:B5 w b D F Ft)(k:Nat)(H:¬D.As k)(W:D.A6.length<1099511627776/\D.Ap.length<1099511627776):
 Aj 202 #[A7 fb] w (Au (A0 (Cy D name k).1) λw'=>Ev w Ft w' b (Cy D name k).2 (upd F k ([],0))):=by
 have c0:=z.c0;have c1:=z.c1;have CR:=A4 (TX h.ad name k H W);generalize hq:(Cy D name k).1=q at CR ⊢
 go_enter func202,ntmps202
 go_wp2;refine Ff (λw'=>Aa w' fb 0 (A7 b)/\Aa w' fb 1 (.string name)) 8
  (BD [0,1,2,3,4,5,6,7] []) (by kernel_rfl) (by kernel_rfl) (λ_ _ _ _ _ h=>h) ⟨c0,c1⟩ ?_
 iterate 8 (refine DO (v:=?_) rfl (by rfl) ?_ ?_;rotate_left;(· (intro w' I;(try dsimp only at I);go_simp;try with_reducible rfl));(try simp only[BQ]))
 refine Fg ?_;simp only[DA,Dj];go_wp2_with (go_at_call 7;refine CR.k ?_;rintro w' X;have O:=A4 X);go_ret;exact⟨rfl,O.o.ds⟩
def VR(z:Be w fb T (A7 b) name s)(h:B5 w b D F Ft):
 Aj 116 #[A7 fb] w (Au (A0 (Cx D F name).1) λw'=>Ev w Ft w' b (Cx D F name).2.1 (Cx D F name).2.2):=by
 have c0:=z.c0;have c1:=z.c1;have CR:=A4 (Qi h.ad name);generalize hq:(Cx D F name).1=q at CR ⊢
 go_enter func116,ntmps116
 go_wp2;refine Ff (λw'=>Aa w' fb 0 (A7 b)/\Aa w' fb 1 (.string name)) 8
  (BD [0,1,2,3,4,5,6,7] []) (by kernel_rfl) (by kernel_rfl) (λ_ _ _ _ _ h=>h) ⟨c0,c1⟩ ?_
 iterate 8 (refine DO (v:=?_) rfl (by rfl) ?_ ?_;rotate_left;(· (intro w' H;(try dsimp only at H);go_simp;try with_reducible rfl));(try simp only[BQ]))
 refine Fg ?_;simp only[DA,Dj];go_wp2_with (go_at_call 115;refine CR.k ?_;rintro w' O;have I:=A4 O);go_ret;exact⟨rfl,I.o.ds⟩
end
def DV(D:DS)(F:Nat->FC)(name:ByteArray):List UInt8×Int:=match lookup D.A6 name with
 | some f=>((F f).1,0)
 | none=>([],8)
def B5.az{w w':World}{b:Nat}{D:DS}{F:Nat->FC}{Ft:Nat->Prop}(h:B5 w b D F Ft)(z:∀k,Ft k->k<w.heap.size)(I:A5 Ab w w'):B5 w' b D F Ft:=h.aM λk H=>I.Ao k (z k H) (λh=>h)
section
variable{w:World}{b fb:Nat}{D:DS}{F:Nat->FC}{Ft:Nat->Prop}{T:TypeId}{name:ByteArray}{s:Nat}
def UD(hf:Be w fb T (A7 b) name s)(h:B5 w b D F Ft):
 Aj 119 #[A7 fb] w (Au (.tuple #[.string ⟨(DV D F name).1.toArray⟩,A0 (DV D F name).2]) λw'=>A5 Ab w w'):=by
 obtain⟨H,aA⟩:∃H,(Ct D F name).1=H:=⟨_,rfl⟩;obtain⟨ze,O⟩:∃ze,(Ct D F name).2=ze:=⟨_,rfl⟩;have aR:∀w',B5 w' b D F Ft->Aj 167 #[A7 b,.string name] w' λe Y=>e=.returned (.tuple #[A0 H,A0 ze])/\w'=Y:=λw' h=>by
  rw[<-aA,<-O];exact Nk h name
 have aQ:∀w',B5 w' b D F Ft->Aj 168 #[A7 b,.string name,A0 0,A0 H] w' λe Y=>e=.returned (.tuple #[.string ⟨(F4 D F name 0 H).1.toArray⟩,A0 (F4 D F name 0 H).2])/\w'=Y:=λw' h=>XW h name 0 H;have aG:=A4 aR;have aP:=A4 aQ;have aB:(ze=0/\Hid ((F4 D F name 0 H).1=(DV D F name).1/\(F4 D F name 0 H).2=(DV D F name).2))\/(ze=8/\Hid ((DV D F name).1=[]/\(DV D F name).2=8)):=by
  unfold Ct at aA O;unfold F4 DV Hid;cases hx:lookup D.A6 name with
  | none=>rw[hx]at O;exact .inr ⟨O.symm,rfl,rfl⟩
  | some f=>
   rw[hx]at O aA;subst aA;refine .inl ⟨O.symm,?_⟩;dsimp only
   rw[Ae (by omega)];simp
 obtain⟨rs,aI⟩:∃rs,(DV D F name).1=rs:=⟨_,rfl⟩;obtain⟨re,aN⟩:∃re,(DV D F name).2=re:=⟨_,rfl⟩;rw[aI,aN]at aB ⊢
 go_enter func119,ntmps119
 go_wp2;refine Hb 13 (λy=>{tmps:=#[A7 fb,undef,.string ⟨#[]⟩,A0 0,y 12,undef,y 9,y 0,y 1,y 2,y 3,y 4,y 5,y 6,y 7,y 8,y 10,y 11,undef,undef,undef,undef,undef,undef,undef,undef,undef,undef,undef,undef,undef,undef,undef],defers:=[]}) (λ_=>undef)
  (λw'=>Be w' fb T (A7 b) name s/\B5 w' b D F Ft/\A5 Ab w w') (A5 Ab)
  (λj x w'=>match j with
   | 0=>x=(A7 fb)
   | 1=>x=(A7 fb)
   | 2=>x=(A7 fb)
   | 3=>x=(A7 b)
   | 4=>x=(A7 fb)
   | 5=>x=(A7 fb)
   | 6=>x=.pointer (some (Ad fb 1))
   | 7=>x=.string name
   | 8=>x=.tuple #[A0 H,A0 ze]
   | 9=>x=.tuple #[A0 H,A0 ze]
   | 10=>x=A0 H
   | 11=>x=A0 ze
   | 12=>x=A0 H
   | _=>True)
  (by kernel_rfl) (by kernel_rfl) rfl ?_ ?_ ?_ ?_
 ·exact⟨hf,h.ad,(A5.C _ _).ad⟩
 ·intro j x w1 w2 hR aM hG;split at hG<;>exact hG
 ·simp only[EU,EL,FP,HJ]
  repeat' (with_reducible apply And.intro)
  all_goals refine⟨?_,(by intro y X _ _ h;exact Bool.noConfusion h),λy x=>rfl⟩
  all_goals
   intro y X hS hd hw K hK;obtain⟨I,aD,aE⟩:=hS;simp[Gc,Region.binds,Fc,List.filter_cons]at hd;have c0:=I.c0;have c1:=I.c1;have W:Hid (Be X fb T (A7 b) name s/\B5 X b D F Ft/\A5 Ab w X):=⟨I,aD,aE⟩;have aF:=A4 hK
  all_goals dsimp only
  all_goals try go_simp
  all_goals try with_reducible exact aF.o _ _ _ rfl (by simp[Act.put,hd]) (A5.C _ _) W.o
  all_goals try
   (have aH:y 3=(A7 b):=by with_reducible exact hd.1);refine(aG.o X W.o.2.1).k ?_;rintro w2 rfl;exact aF.o _ _ _ rfl (by simp[Act.put,hd]) (A5.C _ _) W.o
 ·intro y X hS hG;have aL:=hG 11 (by omega);have aJ:=hG 12 (by omega);have W:=A4 hS;rcases aB with⟨rfl,aB⟩|⟨rfl,aB⟩
  ·(have aO:∀w',B5 w' b D F Ft->Aj 168 #[A7 b,.string name,A0 0,A0 H] w' λe Y=>e=.returned (.tuple #[.string ⟨rs.toArray⟩,A0 re])/\w'=Y:=by rw[<-aB.o.1,<-aB.o.2];exact aP.o);have aK:=A4 aO;go_wp2;refine Hb 13 (λz=>{tmps:=#[A7 fb,undef,z 12,A0 0,A0 H,A0 0,y 9,y 0,y 1,y 2,y 3,y 4,y 5,y 6,y 7,y 8,y 10,A0 0,A0 0,.bool false,undef,z 0,z 1,z 2,z 3,z 4,z 5,z 6,z 7,z 8,z 9,z 10,z 11],defers:=[]}) (λj=>if j=12 then .string ⟨#[]⟩ else undef)
    (λw'=>Be w' fb T (A7 b) name s/\B5 w' b D F Ft/\A5 Ab w w') (A5 Ab)
    (λj x w'=>match j with
     | 0=>x=(A7 fb)
     | 1=>x=(A7 fb)
     | 2=>x=(A7 fb)
     | 3=>x=(A7 b)
     | 4=>x=(A7 fb)
     | 5=>x=(A7 fb)
     | 6=>x=.pointer (some (Ad fb 1))
     | 7=>x=.string name
     | 8=>x=A0 H
     | 9=>x=.tuple #[.string ⟨rs.toArray⟩,A0 re]
     | 10=>x=.string ⟨rs.toArray⟩
     | 11=>x=A0 re
     | 12=>x=.string ⟨rs.toArray⟩
     | _=>True)
    (by kernel_rfl) (by kernel_rfl) rfl ?_ ?_ ?_ ?_
   ·exact⟨W.o.1,W.o.2.1.ad,W.o.2.2.ad⟩
   ·intro j x w1 w2 hR aM hG;split at hG<;>exact hG
   ·clear W aL aJ;simp only[EU,EL,FP,HJ]
    repeat' (with_reducible apply And.intro)
    all_goals refine⟨?_,(by intro y X _ _ h;exact Bool.noConfusion h),λy x=>rfl⟩
    all_goals
     intro z X hS hd hw K hK;obtain⟨I,aD,aE⟩:=hS;simp[Gc,Region.binds,Fc,List.filter_cons]at hd;have c0:=I.c0;have c1:=I.c1;have W:Hid (Be X fb T (A7 b) name s/\B5 X b D F Ft/\A5 Ab w X):=⟨I,aD,aE⟩;have aF:=A4 hK
    all_goals dsimp only
    all_goals try go_simp
    all_goals try with_reducible exact aF.o _ _ _ rfl (by simp[Act.put,hd]) (A5.C _ _) W.o
    all_goals try
     (have aH:z 3=(A7 b):=by with_reducible exact hd.1);refine(aK.o X W.o.2.1).k ?_;rintro w2 rfl;exact aF.o _ _ _ rfl (by simp[Act.put,hd]) (A5.C _ _) W.o
   ·intro z wz hZ hG;have z11:=hG 11 (by omega);have z12:=hG 12 (by omega);have aS:=A4 hZ;go_wp2;go_ret2;exact⟨rfl,aS.o.2.2⟩
  ·go_wp2;go_ret2;rw[aB.o.1,aB.o.2];exact⟨rfl,W.o.2.2⟩
end
end
end Go.Proofs.YtodcnkbblippnabGreatDoor
