/- Part 7 of a proof: walks of the program. -/
import Derived.BigRegion
import Derived.BigQuiet
import Derived.Deep.QuietTactic
import Derived.Deep.RegionLaw
import Derived.Test.YtodcnkbblippnaaGreatDoorPart04
namespace Go.Proofs.YtodcnkbblippnaaGreatDoor
set_option maxRecDepth 100000
set_option maxHeartbeats 32000000
set_option linter.defProp false
open Go.Proofs.Tryz
section
open Go.RowKit
attribute [local go_sem ↓] Go.wp_at_zero Go.wp_at_succ
def less(a b:gg):Bool:=Op.bytesLess a.toList b.toList
def FG(l:gh gg):gh Value:=l.map Value.string
def EC(l:gh gg)(x:gg):Nat->Nat
 | 0=>0
 | k+1=>match l[k]? with
  | some y=>if less x y then EC l x k else k+1
  | none=>k+1
def ins(l:gh gg)(x:gg):gh ByteArray:=l.take (EC l x l.length)++x::l.drop (EC l x l.length)
def ER(es:gh AM):Nat->gh gg
 | 0=>[]
 | k+1=>match es[k]? with
  | some e=>ins (ER es k) e.1
  | none=>ER es k
def dList(es:gh AM):gh ByteArray:=ER es es.length
def UX(l:gh gg)(x:gg)(k:Nat):EC l x k<=k:=by
 induction k with
 | zero=>simp[EC]
 | succ k ih=>
  simp only[EC];split
  ·split<;>omega
  ·omega
def A11(l:gh gg)(x:gg):(ins l x).length=l.length+1:=by
 have:=UX l x l.length;simp[ins];omega
def Ng(es:gh AM)(k:Nat)(hk:k<=es.length):(ER es k).length=k:=by
 induction k with
 | zero=>rfl
 | succ k ih=>
  simp only[ER,DL (show k<es.length by omega)];rw[A11,ih (by omega)]
def Nf(es:gh AM)(k:Nat)(d:k<es.length):ER es (k+1)=ins (ER es k) (es[k]'d).1:=by
 simp only[ER,DL d]
def UW(l:gh gg)(x:gg)(k:Nat)(d:k<l.length)(h:less x (l[k]'d)=true):EC l x (k+1)=EC l x k:=by
 simp only[EC,DL d];rw[Ae h]
def UU(l:gh gg)(x:gg)(k:Nat)(d:k<l.length)(h:less x (l[k]'d)=false):EC l x (k+1)=k+1:=by
 simp only[EC,DL d];rw[Aa (by simp[h])]
def XY(l:gh gg)(x:gg)(m:Nat)(h:m<l.length):
 ((FG (l.take (m+1)++x::l.drop (m+1))).set (m+1) (.string (l[m]'h))).set m (.string x)=FG (l.take m++x::l.drop m):=by
 have z:=Dy h;have H:=FB h;have E:(l.take m).length=m:=by simp;omega
 rw[z,H];unfold FG;simp only[Ei,GY,Ch,FD,Ff];have d:(List.map Value.string (l.take m)).length=m:=by simpa using E
 rw[KK _ _ (by omega),d,show m+1-m=1 from by omega];simp only[WL,List.set_cons_zero];rw[KK _ _ (by omega),d,WC];rfl
def Py(w:ga)(b:Nat)(D:DS)(F:Nat->FC)(Ft:Nat->Prop)(h:Dh w b D F Ft)(hs:D.A4.length<1099511627776):
 Ag 76 #[A5 b] w λe w'=>∃v,e=.returned v/\w'.ownsRow 0 9 1 v D.A4.length (FG (dList D.A4))/\A3 Ab w w'/\(∀g,v.ownBlock=some g->w.heap.size<=g):=by
 obtain⟨vd,vs,vc,vals,VB,hr,hft⟩:=h;have a9:=A1 hr;have c0:=hr.Ah.c0;have⟨i0,hi,hz0,hz1,hz2⟩:=Eg Tryz.eR;obtain⟨a,cap,rfl,z1,z2,aB⟩:=a9.o.A4.Cd;unfold maxLen at z2;have aZ:i0.bytes*D.A4.length<=281474976710656:=by rw[hz2];omega
 have a1:D.A4.length<=maxLen:=by unfold maxLen;omega
 have a0:=A1 aZ;have a4:=A1 a1
 go_enter func76,ntmps76
 go_wp2_with (at_make;refine wpList_make_own _ rfl _ _ 121 rfl 0 9 i0 _ 1 Hp hi hz0 hz1 _ _ _ D.A4.length rfl rfl rfl a0.o a4.o (Cb _) ?_;intro w1 aD aN;have c01:=aN.cell c0 (by simp);have aQ:=A1 aD);go_loopw [3,18] (λv i wr=>∃k:Nat,k<=D.A4.length/\i=A0 k/\A3 Ab w wr/\Hid (wr.ownsRow 0 9 1 v k (FG (ER D.A4 k)))/\Hid (∀x,v.oB x->w.heap.size<=x)) (λ_ i _=>D.A4.length-(intOf i).toNat)
 ·exact⟨0,Cb _,rfl,(A3.I _ w).Cx aN (λk hk=>by cases hk),aQ.o,λx hx=>by cases hx;exact Ao _⟩
 ·obtain⟨k,hk,rfl,L,aM,aP⟩:=hrel;by_cases d:k<D.A4.length
  ·obtain⟨g,rfl,hn,hp⟩:=aB k d;have aK:g<w.heap.size:=HL w _ hn;have aY:A7 wr g (k*2) (.string (D.A4[k]'d).1):=(E3 (L.An g aK (λh=>h))).trans hn;have hp':A7 wr g (k*2+1) (A5 ((D.A4[k]'d).2)):=(E3 (L.An g aK (λh=>h))).trans hp;have hsz:=L.Aj;have W:=A1 ((aM.o.alloc (.cells #[.string (D.A4[k]'d).1,A5 ((D.A4[k]'d).2)] 125)).alloc (.cells #[.string (D.A4[k]'d).1] 9));have aL:=A1 (Src.bh (size:=1) Hp (wr.alloc (.cells #[.string (D.A4[k]'d).1,A5 ((D.A4[k]'d).2)] 125)) #[.string (D.A4[k]'d).1] 9 (wr.heap.size+1) (by simp) 1 1 rfl (by simp[Value.oneCell']));generalize hx:(D.A4[k]'d).1=x at aY W aL;have a8:=A1 hx;go_wp2_with (at_builtin;refine Dj rfl (.tmp 22) (.tmp 25) 121 121 rfl 9 i0 _ 1 16 Hp hi hz0 hz1 hz2 rfl (by decide) _ _ _ (by rfl) W.o _ 1 _ (by rfl) aL.o (by omega) ?_;intro a3 z w3 hB);have hl:=A1 (Ng D.A4 k hk);obtain⟨l,aA⟩:∃l,ER D.A4 k=l:=⟨_,rfl⟩;have a7:=A1 aA;(have a5:l.length=k:=by rw[<-aA];exact hl.o);have aF:w3.ownsRow 0 9 1 (.slice a3 (k+1) z) (k+1) (FG (l.take k++x::l.drop k)):=by
    have:=hB.AE;rw[aA]at this;rw[EG (by omega),KU (by omega)];simpa[FG] using this
   have aT:=A1 aF;have aR:=A1 (hB.cp ((L.al _).al _) aP.o);(have hmax:z<=maxLen:=by have⟨_,_,he,h1,h2,_⟩:=B9 aF;cases he;exact h2);obtain⟨H,aX⟩:∃H,a3=some (Ac H 0):=by
    have⟨_,_,he,h1,h2,h3,_⟩:=B9 aF;cases he;exact h3 (by omega)
   have aI:=A1 a5;subst aX;have a2:=A1 aR.o.1;have O:=A1 (aR.o.2);have fin:Hid (∀(wq:ga) (j:Nat),j<=k->EC l x k=j->wq.ownsRow 0 9 1 (AH H (k+1) z) (k+1) (FG (l.take j++x::l.drop j))->wq.ownsRow 0 9 1 (AH H (k+1) z) (k+1) (FG (ER D.A4 (k+1)))):=by
    intro wq j hj hp h;rw[Nf D.A4 k d,a7.o,a8.o,ins,aI.o,hp];exact h
   go_loopw [6] (λi wq=>∃j:Nat,j<=k/\i=A0 j/\Hid (A3 Ab w wq)/\Hid (wq.ownsRow 0 9 1 (AH H (k+1) z) (k+1) (FG (l.take j++x::l.drop j)))/\Hid (EC l x k=EC l x j)) (λi _=>(intOf i).toNat)
   ·exact⟨k,Ao _,rfl,a2,aT,rfl⟩
   ·obtain⟨j,hj,rfl,aE,E,aH⟩:=hrel;by_cases aV:j=0
    ·subst aV;rw[show ((0:Nat):Int)=0 from rfl];go_wp2;go_quiet (fail);go_wp2;go_roundw
     ·refine⟨k+1,by omega,by go_num,aE.o.bb _,?_,O.o⟩;exact fin.o _ 0 (by omega) (by rw[aH.o];rfl) E.o
     ·simp[intOf];omega
    ·(have hj1:(0:Int)<(j:Int):=by omega);(have hj2:0<j:=by omega);(have I:j-1<l.length:=by have:=aI.o;omega);(have aU:j<=l.length:=by have:=aI.o;omega);obtain⟨y,hy⟩:∃y,l[j-1]'I=y:=⟨_,rfl⟩
     have g1:A7 wr H (j-1) (.string y):=BH E.o rfl (by
      unfold FG;rw[Ei,J9 (by simp;omega)]
      simp[List.getElem?_take,I,hy];omega)
     have g2:A7 wr H j (.string x):=BH E.o rfl (by
      unfold FG;rw[Ei,HV (by simp;omega)]
      simp[Nat.min_eq_left aU])
     have gz:∀o,wr.frozen? (Ac H o)=false:=λo=>Gk E.o rfl o;by_cases aG:less x y=true
     ·have aO:Op.bytesLess x.toList y.toList=true:=aG;have aJ:=A1 aG;have aS:=A1 hy;go_wp2;go_quiet (fail);go_wp2;go_region;go_wp2;go_roundw
      ·refine⟨j-1,by omega,by go_num,?_,?_,?_⟩
       ·have h1:=((aE.o.bn (p:=(Ac H j)) (λh=>by have:=O.o H rfl;simp at h;omega) (.string y)).bn (p:=(Ac H (j-1))) (λh=>by have:=O.o H rfl;simp at h;omega) (.string x));exact⟨h1.os,h1.G3,h1.G5,h1.Aj,h1.An⟩
       ·have s1:=(E.o.stored j (.string y)).1;have s2:=(s1.stored (j-1) (.string x)).1;have e:=XY l x (j-1) I;rw[show j-1+1=j from by omega,aS.o]at e;rw[e]at s2;exact s2
       ·have:=UW l x (j-1) I (by rw[aS.o];exact aJ.o);rw[show j-1+1=j from by omega]at this;unfold Hid;rw[aH.o];exact this
      ·simp[intOf];omega
     ·(have Y:less x y=false:=by simpa using aG);have aO:Op.bytesLess x.toList y.toList=false:=Y;have aJ:=A1 Y;have aS:=A1 hy;go_wp2;go_quiet (fail);go_wp2;go_roundw
      ·refine⟨k+1,by omega,by go_num,aE.o.bb _,?_,O.o⟩;refine fin.o _ j hj ?_ E.o;have:=UU l x (j-1) I (by rw[aS.o];exact aJ.o);rw[show j-1+1=j from by omega]at this;rw[aH.o];exact this
      ·simp[intOf];omega
  ·(have a6:k=D.A4.length:=by omega);have aW:=A1 a6;go_wp2;go_ret;refine⟨_,rfl,?_,L,aP.o⟩;have:=aM.o;rw[aW.o]at this;exact this
def Fo(c:Int)(n:Nat):Nat:=((if c<0 then -(c+1) else c) % ((n:Int)+1)).toNat
def K7(c:Int)(n:Nat):Fo c n<=n:=by
 unfold Fo;have h1:=Ms (if c<0 then -(c+1) else c) (b:=(n:Int)+1) (by omega);have h2:=QT (if c<0 then -(c+1) else c) (b:=(n:Int)+1) (by omega);omega
def Tq(c:Int)(n:Int)(w:ga)(d : -9223372036854775808<=c/\c<=9223372036854775807)(z:0<=n/\n<=4611686018427387904):
 Ag 75 #[A0 c,A0 n] w (Am (A0 (Fo c n.toNat)) λw'=>w=w'):=by
 obtain⟨h1,h2⟩:=d;obtain⟨h,h4⟩:=z;by_cases d:c<0
 ·have q:Hid ((Fo c n.toNat:Int) = -((c+1).tmod (n+1))):=by
   unfold Hid Fo;rw[Ae d,QQ h,QQ (Ms _ (by omega)),<-X5 (by omega),QS]
  go_enter func75,ntmps75
  go_wp2;go_ret;rw[q.o];exact⟨rfl,rfl⟩
 ·have q:Hid ((Fo c n.toNat:Int)=c % (n+1)):=by
   unfold Hid Fo;rw[Aa d,QQ h,QQ (Ms _ (by omega))]
  go_enter func75,ntmps75
  go_wp2;go_ret;rw[q.o];exact⟨rfl,rfl⟩
def O0(w:ga)(v:gd)(h:gh Int):Prop:=
 ∃E cap,v=.slice E h.length cap/\h.length<=9223372036854775807/\∀j (H:j<h.length),∃z d,E=some ⟨z,d,none⟩/\z<w.heap.size/\w.cell? ⟨z,d+j,none⟩=some (.int .i64 (h[j]'H))
def Fx(c:FC)(t:Int):FC:=
 let m:=c.2.toNat+Fo t (c.1.length-c.2.toNat)
 (c.1.take m,(c.1.take m).length)
def E1(dir:gh AM)(d:gh Int)(names:gh gg)(F:Nat->FC):Nat->(Nat->FC)
 | 0=>F
 | k+1=>let G:=E1 dir d names F k
  match names[k]? with
  | none=>G
  | some nd=>match lookup dir nd with
   | some f=>upd G f (Fx (G f) (d.getD k 0))
   | none=>G
def Ga(D:DS)(d:Int):gh AM:=match Fo d D.As.length with
 | 0=>D.AI
 | k+1=>D.As.getD k []
def Fw(D:DS)(F:Nat->FC)(h:Int)(d:gh Int):DS×(Nat->FC):=
 let dir:=Ga D h
 ({A4:=dir,AI:=dir,As:=[],n:={D.n with AW:=false,Ce:=0,Cv:=0}},E1 dir d (dList dir) F dir.length)
def A10(l:gh gg)(x y:gg):y∈ins l x↔y=x\/y∈l:=by
 unfold ins;constructor
 ·intro h;rcases AU.1 h with h|h
  ·exact .inr (J6 h)
  ·rcases BB.1 h with h|h
   ·exact .inl h
   ·exact .inr (Mk h)
 ·rintro (rfl|h)
  ·simp
  ·rw[<-DU (EC l x l.length) l]at h;rcases AU.1 h with h|h
   ·exact AU.2 (.inl h)
   ·exact AU.2 (.inr (Bp _ h))
def A2U(es:gh AM)(k:Nat)(z:k<=es.length)(y:gg):y∈ER es k↔∃e∈es.take k,e.1=y:=by
 induction k with
 | zero=>simp[ER]
 | succ k ih=>
  have h:=Dy (l:=es) (i:=k) z;rw[Nf es k z,A10,ih (by omega)];constructor
  ·rintro (rfl|⟨e,d,rfl⟩)
   ·exact⟨es[k],by rw[h];exact AU.2 (.inr (Hd.2 rfl)),rfl⟩
   ·exact⟨e,by rw[h];exact AU.2 (.inl d),rfl⟩
  ·rintro⟨e,d,rfl⟩;rw[h]at d;rcases AU.1 d with d|d
   ·exact .inr ⟨e,d,rfl⟩
   ·simp at d;subst d;exact .inl rfl
def A2S(es:gh AM)(y:gg):y∈dList es↔∃e∈es,e.1=y:=by
 have:=A2U es es.length (Ao _) y
 rwa [Cf]at this
def BY.eb{w w':ga}{b:Nat}{D:DS}{F:Nat->FC}{vd O Y W:gd}{z:gh gd}{aB:Nat->gd}{es:gh AM}(h:BY w b D F vd O Y z aB)(hl:(W=O/\es=D.AI)\/∃k,∃E:k<D.As.length,z[k]?=some W/\es=D.As[k]'E)(hb:AK w' b W O Y D.n)(hc:A3 (One b) w w'):
 BY w' b {D with A4:=es} F W O Y z aB/\∀k,C6 b {D with A4:=es} W O Y z aB k->C6 b D vd O Y z aB k:=by
 have E:∀(k:Nat) (c:Array gd) (e:Nat),w.heap[k]?=some (Obj.cells c e (0,0))->e≠95->w'.heap[k]?=w.heap[k]?:=λk c e E he=>
  hc.An k (Bv E) (BR E h.Ah he)
 have aA:D8 w W es:=by
  rcases hl with⟨rfl,rfl⟩|⟨k,E,L,rfl⟩
  ·exact h.AI
  ·have⟨v,h2,h3⟩:=h.Df k E;rw[L]at h2;cases h2;exact h3
 have aE:∀f,Dm f es->D.Ap f:=by
  intro f H;rcases hl with⟨_,rfl⟩|⟨k,E,_,rfl⟩
  ·exact .inr (.inl H)
  ·exact .inr (.inr ⟨_,BU E,H⟩)
 have d:∀f,({D with A4:=es}:DS).Ap f->D.Ap f:=by
  rintro f (H|H|H)
  ·exact aE f H
  ·exact .inr (.inl H)
  ·exact .inr (.inr H)
 refine⟨⟨hb,?_,?_,?_,?_,?_,λf f' g H aD=>h.Gq f f' g (d f H) (d f' aD)⟩,?_⟩
 ·exact Ax aA λg I=>by have⟨c,hh⟩:=Be aA I;exact E g _ _ hh (by decide)
 ·exact Ax h.AI λg I=>by have⟨c,hh⟩:=Be h.AI I;exact E g _ _ hh (by decide)
 ·exact Ax h.Al λg I=>by have⟨c,hh⟩:=Be h.Al I;exact E g _ _ hh (by decide)
 ·intro i hi;have⟨v,L,h2⟩:=h.Df i hi;exact⟨v,L,Ax h2 λg I=>by have⟨c,hh⟩:=Be h2 I;exact E g _ _ hh (by decide)⟩
 ·intro f H;have⟨L,h2⟩:=h.BK f (d f H);refine⟨L.ay (E f _ _ L (by decide)),Ax h2 λg I=>by have⟨c,hh⟩:=Be h2 I;exact E g _ _ hh (by decide)⟩
 ·intro k E;cases E using C6.bJ with
  | Ah=>exact .Ah
  | dir e=>
   rcases hl with⟨rfl,_⟩|⟨j,_,L,_⟩
   ·exact .AI e
   ·exact .Df (KM L) e
  | Ad e=>exact .AI e
  | Al e=>exact .Al e
  | Df hm e=>exact .Df hm e
  | BK H=>exact .BK (d _ H)
  | byt H e=>exact .bA (d _ H) e
def Dh.ck{w w':ga}{b:Nat}{D:DS}{F:Nat->FC}{Ft:Nat->Prop}(h:Dh w b D F Ft)(d:w'.heap=w.heap):Dh w' b D F Ft:=h.aN λk _=>by rw[d]
def A3.ck{S:Nat->Prop}{a w w':ga}(h:A3 S a w)(d:w'.heap=w.heap)(H:w'.os=w.os)(E:w'.tape=w.tape)(I:w'.output=w.output):A3 S a w':=
 ⟨H.trans h.os,E.trans h.G3,I.trans h.G5,by rw[d];exact h.Aj,λk z L=>by rw[d];exact h.An k z L⟩
end
end Go.Proofs.YtodcnkbblippnaaGreatDoor
