/- Part 6 of a proof: walks of the program. -/
import Derived.Test.YtodcnkbblippnabGreatDoorPart05
namespace Go.Proofs.YtodcnkbblippnabGreatDoor
set_option maxRecDepth 100000
set_option maxHeartbeats 32000000
set_option linter.defProp false
open Go.Proofs.Tryz
section
open Go.RowKit
attribute [local go_sem ↓] Go.wp_at_zero Go.wp_at_succ
def E4(D:DS):Int×DS:=
 ((bg D.n).2.1,if (bg D.n).2.1=0 then {D with AK:=D.A6,Ap:=[],n:=(bg D.n).2.2} else {D with n:=(bg D.n).2.2})
def BY.aN{w w':World}{b:Nat}{D:DS}{F:Nat->FC}{W vs vc:Value}{O:List Value}{aA:Nat->Value}(h:BY w b D F W vs vc O aA)(hb:AO w' b W W (.slice none 0 0) D.n)(hc:A5 (One b) w w'):BY w' b {D with AK:=D.A6,Ap:=[]} F W W (.slice none 0 0) [] aA:=by
 have I:∀(k:Nat) (c:Array Value) (e:Nat),w.heap[k]?=some (Obj.cells c e (0,0))->e≠60->w'.heap[k]?=w.heap[k]?:=λk c e I he=>
  hc.Ao k (Bo I) (BP I h.Ai he)
 have hd:=AA h.A6 λg X=>by have⟨c,hh⟩:=Bd h.A6 X;exact I g _ _ hh (by decide)
 have z:∀f,({D with AK:=D.A6,Ap:=[]}:DS).As f->D.As f:=by
  rintro f (H|H|⟨c,hcm,H⟩)
  ·exact .inl H
  ·exact .inl H
  ·cases hcm
 refine⟨hb,hd,hd,CL _ _ _ _,λi hi=>by simp at hi,λf H=>?_,λf f' g H Y=>h.Gb f f' g (z f H) (z f' Y)⟩;have⟨h1,h2⟩:=h.BL f (z f H);refine⟨?_,AA h2 λg X=>by have⟨c,hh⟩:=Bd h2 X;exact I g _ _ hh (by decide)⟩;unfold CY at h1 ⊢;rw[I f _ _ h1 (by decide)];exact h1
def VT(w:World)(b:Nat)(D:DS)(F:Nat->FC)(Ft:Nat->Prop)(h:D7 w b D F Ft):
 Aj 71 #[A7 b] w (Au (A0 (E4 D).1) λw'=>Ds w Ft w' b (E4 D).2 F):=by
 obtain⟨vd,vs,vc,vals,VB,hr,z⟩:=h;obtain⟨ad,cap,rfl,_⟩:=hr.A6.BV;have aD:=A4 hr;have aB:=A4 hr.Ai;by_cases I:(bg D.n).2.1=0
 ·have q:Hid (E4 D=(0,{D with AK:=D.A6,Ap:=[],n:=(bg D.n).2.2})):=by unfold Hid E4;rw[Ah I,I]
  have Y:((bg D.n).2.1==0)=true:=by simpa using I
  have aA:=A4 <| I;clear I
  go_enter func71,ntmps71
  go_wp2_with (go_at_call 25;refine(GU _ _ _ _ _ _ aB.o).k ?_;rintro w1⟨H,W⟩;have c01:=H.c0;have c11:=H.c1;have c21:=H.c2;have hf1:=H.fz);go_ret;refine⟨by rw[q.o];simp[aA.o],?_⟩;rw[q.o];have r1:=aD.o.ai H W;have r2:=r1.aN ((H.s1 _).s2 (.slice none 0 0)) (((A5.C (One b) w1).ao rfl 1 _).ao rfl 2 (.slice none 0 0));refine Ds.bt ?_ r2 ?_
  ·exact(((W.ae (S':=Ft) λk _ hk=>by cases hk;exact z b .Ai)).ao (z b .Ai) 1 _).ao (z b .Ai) 2 _
  ·intro k hk;left;cases hk using C7.bE with
   | Ai=>exact z _ .Ai
   | dir e=>exact z _ (.A6 e)
   | Ag e=>exact z _ (.A6 e)
   | An e=>simp[Value.ownBlock]at e
   | Da hm e=>cases hm
   | BL O=>
    rcases O with O|O|⟨c,X,_⟩
    ·exact z _ (.BL (.inl O))
    ·exact z _ (.BL (.inl O))
    ·cases X
   | byt O e=>
    rcases O with O|O|⟨c,X,_⟩
    ·exact z _ (.bw (.inl O) e)
    ·exact z _ (.bw (.inl O) e)
    ·cases X
 ·have q:Hid (E4 D=((bg D.n).2.1,{D with n:=(bg D.n).2.2})):=by unfold Hid E4;rw[Ae I]
  have Y:((bg D.n).2.1==0)=false:=by simpa using I
  go_enter func71,ntmps71
  go_wp2_with (go_at_call 25;refine(GU _ _ _ _ _ _ aB.o).k ?_;rintro w1⟨H,W⟩);go_ret;refine⟨by rw[q.o];rfl,?_⟩;rw[q.o];exact aD.o.bN z H W
def B6(F:Nat->FC):List AI->Nat
 | []=>0
 | e::r=>(F e.2).1.length+B6 F r
def Kp(F:Nat->FC)(a c:List AI):B6 F (a++c)=B6 F a+B6 F c:=by
 induction a with
 | nil=>simp[B6]
 | cons e r ih=>simp[B6,ih];omega
def Q9(F:Nat->FC)(es:List AI)(k:Nat)(h:k<es.length):B6 F (es.take (k+1))=B6 F (es.take k)+(F (es[k]'h).2).1.length:=by
 rw[Dz h,Kp];simp[B6]
def VG(F:Nat->FC)(es:List AI)(k:Nat):B6 F (es.take k)<=B6 F es:=by
 conv=>rhs;rw[<-DK k es]
 rw[Kp];omega
def Ko(w:World)(b:Nat)(D:DS)(F:Nat->FC)(Ft:Nat->Prop)(h:D7 w b D F Ft)(hu:B6 F D.A6<=4611686018427387904):
 Aj 27 #[A7 b] w (Au (A0 (B6 F D.A6)) λw'=>A5 Ab w w'):=by
 obtain⟨vd,vs,vc,vals,VB,hr,hft⟩:=h;have c0:=hr.Ai.c0;obtain⟨a,cap,rfl,hc1,aA,I⟩:=hr.A6.BV;unfold maxLen at aA;have aD:=A4 hr
 go_enter func27,ntmps27
 go_wp2;go_loopw [3,11] (λt i wr=>∃k:Nat,k<=D.A6.length/\i=A0 k/\t=A0 (B6 F (D.A6.take k))/\A5 Ab w wr) (λ_ i _=>D.A6.length-(intOf i).toNat)
 ·exact⟨0,C8 _,rfl,by simp[B6],A5.C _ _⟩
 ·obtain⟨k,hk,rfl,rfl,H⟩:=hrel;by_cases z:k<D.A6.length
  ·obtain⟨g,rfl,hn,hp⟩:=I k z;have⟨hfb,hbs⟩:=aD.o.cd k z;have⟨a',cap',hv,_,_⟩:=hbs.BV;rw[hv]at hfb;have X:g<w.heap.size:=H7 w _ hn;have Y:=Bo hfb;have hn':Aa wr g (k*2) (.string (D.A6[k]'z).1):=(Dp (H.Ao g X (λh=>h))).trans hn;have hp':Aa wr g (k*2+1) (A7 ((D.A6[k]'z).2)):=(Dp (H.Ao g X (λh=>h))).trans hp;have hb0:Aa wr ((D.A6[k]'z).2) 0 (.slice a' (F (D.A6[k]'z).2).1.length cap'):=(Dp (H.Ao _ Y (λh=>h))).trans hfb.c0;have hsz:=H.Am;(have hflr:(D.A6[k]'z).2<wr.heap.size:=by omega);have ht:=A4 (Q9 F D.A6 k z);have aB:=VG F D.A6 (k+1);rw[Q9 F D.A6 k z]at aB;go_wp2;go_roundw
   ·exact⟨k+1,by omega,by go_num,by rw[ht.o];go_num,H.aj _⟩
   ·simp[intOf];omega
  ·have W:D.A6.take k=D.A6:=Ez (by omega);have O:=A4 W;go_wp2;go_ret;exact⟨by rw[O.o];rfl,H⟩
def F4(D:DS)(F:Nat->FC)(name:ByteArray)(at_ n:Int):List UInt8×Int:=match lookup D.A6 name with
 | some f=>if at_<0\/n<0\/at_>(F f).1.length\/n>(F f).1.length-at_ then ([],9) else (((F f).1.drop at_.toNat).take n.toNat,0)
 | none=>([],8)
def XV(w:World)(b:Nat)(D:DS)(F:Nat->FC)(Ft:Nat->Prop)(h:D7 w b D F Ft)(name:ByteArray)(p n:Int):
 Aj 168 #[A7 b,.string name,A0 p,A0 n] w (Au (.tuple #[.string ⟨(F4 D F name p n).1.toArray⟩,A0 (F4 D F name p n).2]) λw'=>w=w'):=by
 obtain⟨vd,vs,vc,vals,VB,hr,hft⟩:=h;have c0:=hr.Ai.c0;have hd:=A4 hr.A6;obtain⟨a,cap,rfl,hc1,aG,W⟩:=hr.A6.BV;unfold maxLen at aG;rcases IQ D.A6 name with⟨h1,h2⟩|⟨k,hk,h1,h2,h3⟩
 ·have q:Hid (F4 D F name p n=([],8)):=by unfold Hid F4;rw[h2]
  have hfi:B4 D.A6 name<0:=by omega
  go_enter func168,ntmps168
  go_wp2_with (go_at_call 24;refine(DC _ _ _ _ hd.o).k ?_;rintro w' rfl);go_ret2;rw[q.o];exact⟨rfl,rfl⟩
 ·have⟨hfb,H⟩:=hr.cd k hk;have⟨a',cap',hv,hl1,hl2⟩:=H.BV;unfold maxLen at hl2;rw[hv]at hfb H;have aD:=hfb.c0;have X:=A4 H;obtain⟨g,rfl,hn,hp⟩:=W k hk;have aE:=A4 h1;have aK:=A4 h2;obtain⟨bs,H⟩:∃bs,(F (D.A6[k]'hk).2).1=bs:=⟨_,rfl⟩;have aJ:=A4 H;rw[H]at aD hl1 X;have hlen:(bs.length:Int)<=9223372036854775807:=by omega
  have q:Hid (F4 D F name p n=if p<0\/n<0\/p>bs.length\/n>bs.length-p then ([],9) else ((bs.drop p.toNat).take n.toNat,0)):=by
   unfold Hid F4;rw[aK.o];dsimp only;rw[aJ.o]
  by_cases aH:0<=p/\0<=n/\p<=bs.length/\n<=bs.length-p
  ·obtain⟨o1,o2,o3,o4⟩:=aH;obtain⟨z,rfl⟩:=Lq o1;obtain⟨I,rfl⟩:=Lq o2;have q2:Hid (F4 D F name z I=((bs.drop z).take I,0)):=by
    unfold Hid;rw[q.o,Ae (by omega)];simp
   (have o5:z<=bs.length:=by omega);(have o6:I<=bs.length-z:=by omega);have⟨_,_,he,_,_,_,hnil,hform⟩:=Bb X.o;cases he;by_cases aB:cap'=z
   ·(have aI:I=0:=by omega);subst aI;have cv:∀(x:Option Addr) (c:Nat),(convert 66 9 (.slice x 0 c)).run Tryz.prog w=.ok (.string ⟨#[]⟩) w:=by
     intro x c;cases x with
     | none=>
      rw[run_convert_bytes_string (P:=Tryz.prog) w 66 9 5 none 0 c underlying66 underlying5 underlying9];rfl
     | some ad=>exact Ns (P:=Tryz.prog) w 66 9 5 ad c [] underlying66 underlying5 underlying9 (by simp)
    subst aB
    go_enter func168,ntmps168
    go_wp2_with (go_at_call 24;refine(DC _ _ _ _ hd.o).k ?_;rintro w' rfl;rw[aE.o]);go_ret2;rw[q2.o];exact⟨by simp,rfl⟩
   ·obtain⟨O,aF⟩:∃O,a'=some (Ad O 0):=by
     cases ha:a' with
     | none=>have:=(hnil ha).2;omega
     | some ad=>obtain⟨g',rfl⟩:=hform ad ha;exact⟨g',rfl⟩
    subst aF;have cv:(convert 66 9 (.slice (some (Ad O z)) I (cap'-z))).run Tryz.prog w=.ok (.string ⟨((bs.drop z).take I).toArray⟩) w:=by
     (have hl:((bs.drop z).take I).length=I:=by simp;omega)
     have:=Ns (P:=Tryz.prog) w 66 9 5 (Ad O z) (cap'-z) ((bs.drop z).take I) underlying66 underlying5 underlying9 (by
      intro j hj;(have aA:z+j<bs.length:=by simp at hj;omega);(have Y:((Ad O z):Addr).add j=(Ad O (z+j)):=by unfold Addr.add;split<;>simp_all);rw[Y];have:=BB X.o (g:=O) rfl (j:=z+j) (u:=.int .u8 (bs[z+j]'aA).toNat) (by simp[E6,List.getElem?_eq_getElem aA])
      simpa using this)
     rw[hl]at this;exact this
    go_enter func168,ntmps168
    go_wp2_with (go_at_call 24;refine(DC _ _ _ _ hd.o).k ?_;rintro w' rfl;rw[aE.o]);go_ret2;rw[q2.o];exact⟨rfl,rfl⟩
  ·have q2:Hid (F4 D F name p n=([],9)):=by
    unfold Hid;rw[q.o,Ah (by omega)]
   go_enter func168,ntmps168
   go_wp2_with (go_at_call 24;refine(DC _ _ _ _ hd.o).k ?_;rintro w' rfl;rw[aE.o])
   all_goals (go_ret2;rw[q2.o];exact⟨rfl,rfl⟩)
def BY.bZ{w w':World}{b:Nat}{D:DS}{F:Nat->FC}{vd vs vc:Value}{W:List Value}{aA:Nat->Value}{S:Nat->Prop}(h:BY w b D F vd vs vc W aA){f:Nat}(hf:D.As f){vb':Value}{bs':List UInt8}{s':Int}(h1:CY w' f vb' s')(h2:FQ w' vb' bs')(hc:A5 S w w')(hS:∀k,S k->k=f\/(aA f).ownBlock=some k)(hv:∀g,vb'.ownBlock=some g->(aA f).ownBlock=some g\/w.heap.size<=g):
 BY w' b D (upd F f (bs',s')) vd vs vc W (λx=>if x=f then vb' else aA x):=by
 have⟨hf1,hf2⟩:=h.BL f hf;have I:∀(k:Nat) (c:Array Value) (e:Nat),w.heap[k]?=some (Obj.cells c e (0,0))->e≠68->e≠5->w'.heap[k]?=w.heap[k]?:=λk c e I he aD=>
  hc.Ao k (Bo I) (λz=>by
   rcases hS k z with z|z
   ·exact BP I hf1 he z
   ·have⟨c',hh⟩:=Bd hf2 z
    exact BP I hh aD rfl)
 refine⟨?_,?_,?_,?_,?_,?_,?_⟩
 ·have:=h.Ai;unfold AO at this ⊢;rw[I b _ _ this (by decide) (by decide)];exact this
 ·exact AA h.A6 λg H=>by have⟨c,hh⟩:=Bd h.A6 H;exact I g _ _ hh (by decide) (by decide)
 ·exact AA h.AK λg H=>by have⟨c,hh⟩:=Bd h.AK H;exact I g _ _ hh (by decide) (by decide)
 ·exact AA h.An λg H=>by have⟨c,hh⟩:=Bd h.An H;exact I g _ _ hh (by decide) (by decide)
 ·intro i hi;have⟨v,h1,h2⟩:=h.Da i hi;exact⟨v,h1,AA h2 λg H=>by have⟨c,hh⟩:=Bd h2 H;exact I g _ _ hh (by decide) (by decide)⟩
 ·intro f2 O;by_cases he:f2=f
  ·subst he;simp only[upd,Cn];exact⟨h1,h2⟩
  ·have⟨g1,g2⟩:=h.BL f2 O;simp only[upd,he,C4];refine⟨g1.az (hc.Ao f2 (Bo g1) (λz=>?_)),AA g2 λg H=>hc.Ao g (AG g2 H) (λz=>?_)⟩
   ·rcases hS _ z with z|z
    ·exact he z
    ·have⟨c',hh⟩:=Bd hf2 z;exact BP g1 hh (by decide) rfl
   ·rcases hS _ z with z|z
    ·have⟨c',hh⟩:=Bd g2 H;exact BP hh hf1 (by decide) z
    ·exact he (h.Gb f2 f g O hf H z)
 ·have key:∀f2 g,D.As f2->f2≠f->(aA f2).ownBlock=some g->vb'.ownBlock=some g->False:=by
   intro f2 g h3 aB h4 h5;rcases hv g h5 with h6|h6
   ·exact aB (h.Gb f2 f g h3 hf h4 h6)
   ·have:=AG (h.BL f2 h3).2 h4;omega
  intro f1 f2 g k1 k2 Y X;by_cases a1:f1=f<;>by_cases a2:f2=f
  ·rw[a1,a2]
  ·simp only[a1,Cn]at Y;simp only[a2,C4]at X;exact(key f2 g k2 a2 X Y).elim
  ·simp only[a2,Cn]at X;simp only[a1,C4]at Y;exact(key f1 g k1 a1 Y X).elim
  ·simp only[a1,C4]at Y;simp only[a2,C4]at X;exact h.Gb f1 f2 g k1 k2 Y X
def C7.bZ{b:Nat}{D:DS}{X O I:Value}{z:List Value}{H:Nat->Value}{f:Nat}{vb':Value}{N:Nat}(Y:D.As f)(hv:∀g,vb'.ownBlock=some g->(H f).ownBlock=some g\/N<=g){k:Nat}(h:C7 b D X O I z (λx=>if x=f then vb' else H x) k):C7 b D X O I z H k\/N<=k:=by
 cases h using C7.bE with
 | Ai=>exact .inl .Ai
 | dir e=>exact .inl (.A6 e)
 | Ag e=>exact .inl (.AK e)
 | An e=>exact .inl (.An e)
 | Da h e=>exact .inl (.Da h e)
 | BL h=>exact .inl (.BL h)
 | byt h e=>
  rename_i f2;by_cases W:f2=f
  ·simp only[W,Cn]at e;rcases hv k e with h|h
   ·exact .inl (.bw Y h)
   ·exact .inr h
  ·simp only[W,C4]at e;exact .inl (.bw h e)
def BY.Cu{w:World}{b:Nat}{D:DS}{F:Nat->FC}{W Y X:Value}{I:List Value}{O:Nat->Value}(h:BY w b D F W Y X I O)(k:Nat)(H:k<D.A6.length):
 ∃g cap a' z,W=.slice (some ⟨g,0,none⟩) D.A6.length cap/\O (D.A6[k]'H).2=.slice a' (F (D.A6[k]'H).2).1.length z/\D.A6.length<=cap/\cap<=maxLen/\(F (D.A6[k]'H).2).1.length<=z/\z<=maxLen:=by
 have⟨a,cap,hv,h1,h2,hc⟩:=h.A6.BV;obtain⟨g,rfl,_,_⟩:=hc k H;have⟨a',z,h3,h4,h5⟩:=(h.cd k H).2.BV;exact⟨g,cap,a',z,hv,h3,h1,h2,h4,h5⟩
structure PJ (w:World) (b:Nat) (g k f n cap l cap':Nat) (a':Option Addr) (name:ByteArray) (Ag:Int):Prop where
 d:Aa w b 0 (AN g n cap)
 n:Aa w g (k*2) (.string name)
 p:Aa w g (k*2+1) (A7 f)
 f0:Aa w f 0 (.slice a' l cap')
 f1:Aa w f 1 (A0 Ag)
 fz:∀o,w.frozen? (Ad f o)=false
 gf:¬g=f
 fg:¬f=g
 gb:¬g=b
 bg:¬b=g
 fb:¬f=b
 bf:¬b=f
def BY.dd{w:World}{b:Nat}{D:DS}{F:Nat->FC}{W Y vc:Value}{I:List Value}{O:Nat->Value}(h:BY w b D F W Y vc I O)(k:Nat)(z:k<D.A6.length){g cap H:Nat}{a':Option Addr}(h1:W=AN g D.A6.length cap)(X:O (D.A6[k]'z).2=.slice a' (F (D.A6[k]'z).2).1.length H):
 PJ w b g k (D.A6[k]'z).2 D.A6.length cap (F (D.A6[k]'z).2).1.length H a' (D.A6[k]'z).1 (F (D.A6[k]'z).2).2:=by
 subst h1;have⟨hf,hb⟩:=h.cd k z;rw[X]at hf;have⟨c,hh⟩:=Bd h.A6 (g:=g) rfl
 exact⟨h.Ai.c0,BB h.A6 rfl (OD _ k z),BB h.A6 rfl (OB _ k z),hf.c0,hf.c1,hf.fz,λe=>BP hh hf (by decide) e,λe=>BP hh hf (by decide) e.symm,
  λe=>BP hh h.Ai (by decide) e,λe=>BP hh h.Ai (by decide) e.symm,λe=>BP hf h.Ai (by decide) e,λe=>BP hf h.Ai (by decide) e.symm⟩
def Cx(D:DS)(F:Nat->FC)(name:ByteArray):Int×DS×(Nat->FC):=match lookup D.A6 name with
 | none=>(8,D,F)
 | some f=>((bg D.n).2.1,{D with n:=(bg D.n).2.2},if (bg D.n).2.1=0 then upd F f ((F f).1,(F f).1.length) else F)
def VQ(w:World)(b:Nat)(D:DS)(F:Nat->FC)(Ft:Nat->Prop)(h:D7 w b D F Ft)(name:ByteArray):
 Aj 115 #[A7 b,.string name] w (Au (A0 (Cx D F name).1) λw'=>Ds w Ft w' b (Cx D F name).2.1 (Cx D F name).2.2):=by
 obtain⟨vd,vs,vc,vals,aG,hr,Y⟩:=h;have c0:=hr.Ai.c0;have hd:=A4 hr.A6;have aD:=A4 hr.Ai;have aE:=A4 hr;rcases IQ D.A6 name with⟨h1,h2⟩|⟨k,z,h1,h2,h3⟩
 ·have q:Hid (Cx D F name=(8,D,F)):=by unfold Hid Cx;rw[h2]
  have hfi:B4 D.A6 name<0:=by omega
  go_enter func115,ntmps115
  go_wp2_with (go_at_call 24;refine(DC _ _ _ _ hd.o).k ?_;rintro w' rfl);go_ret;rw[q.o];exact⟨rfl,Ds.bt (A5.C _ _) aE.o λk z=>.inl (Y k z)⟩
 ·have q:Hid (Cx D F name=((bg D.n).2.1,{D with n:=(bg D.n).2.2},if (bg D.n).2.1=0 then upd F (D.A6[k]'z).2 ((F (D.A6[k]'z).2).1,(F (D.A6[k]'z).2).1.length) else F)):=by unfold Hid Cx;rw[h2]
  have aH:=A4 h1;by_cases O:(bg D.n).2.1=0
  ·(have aB:((bg D.n).2.1==0)=true:=by simpa using O);have W:=A4 <| O;clear O;have hk0:=Cd k;(have hk1:(k:Int)<(D.A6.length:Int):=by omega);obtain⟨g,cap,a',aA,rfl,hv,z1,z2,z3,z4⟩:=aE.o.Cu k z;have aF:=A4 hv;unfold maxLen at z2 z4;clear hv;obtain⟨f,hf⟩:∃f,(D.A6[k]'z).2=f:=⟨_,rfl⟩;have I:Hid (D.As f):=.inl ⟨_,BS z,hf⟩
   have fin:Hid (∀w1,AO w1 b (AN g D.A6.length cap) vs vc (bg D.n).2.2->A5 (One b) w w1->PJ w1 b g k f D.A6.length cap (F f).1.length aA a' (D.A6[k]'z).1 (F f).2/\
    Ds w Ft (w1.sC f 1 (A0 (F f).1.length)).drew b {D with n:=(bg D.n).2.2} (upd F f ((F f).1,(F f).1.length))):=by
    intro w1 X H;have r1:=aE.o.ai X H;subst hf;refine⟨r1.dd k z rfl aF.o,?_⟩;have⟨hf1,hf2⟩:=r1.cd k z;have r2:=r1.bZ (S:=One (D.A6[k]'z).2) (w':=(w1.sC ((D.A6[k]'z).2) 1 (A0 (F (D.A6[k]'z).2).1.length)).drew) (f:=(D.A6[k]'z).2) I.o (vb':=aG (D.A6[k]'z).2) (bs':=(F (D.A6[k]'z).2).1) (s':=(F (D.A6[k]'z).2).1.length)
     (hf1.s1 _) (by
      refine NM hf2 (a:=(Ad ((D.A6[k]'z).2) 1)) ?_ _;intro e;have⟨c,hh⟩:=Bd hf2 e
      exact BP hh hf1 (by decide) rfl) (((A5.C (One _) w1).ao rfl 1 _).ad) (λk z=>.inl z) (λg hg=>.inl hg)
    refine Ds.bt ?_ r2 ?_
    ·exact((H.ae (S':=Ft) λk _ z=>by cases z;exact Y b .Ai).ao (Y _ (.BL I.o)) 1 _).ad
    ·intro x hx;rcases C7.bZ (N:=w.heap.size) (vb':=aG (D.A6[k]'z).2) (f:=(D.A6[k]'z).2) I.o (λg hg=>.inl hg) hx.n with h|h
     ·exact .inl (Y x h)
     ·exact .inr h
   rw[hf]at q;clear hf aF
   go_enter func115,ntmps115
   go_wp2_with (first
    | (go_at_call 24;refine(DC _ _ _ _ hd.o).k ?_;rintro w' rfl;rw[aH.o])
    | (go_at_call 25;refine(GU _ _ _ _ _ _ aD.o).k ?_;rintro w1⟨X,H⟩))
   have⟨hat,haf⟩:=fin.o w1 X H;have aI:=A4 haf;have x1:=hat.d;have x2:=hat.p;have x3:=hat.f0;have x4:=hat.f1;have x5:=hat.fz;have x7:=hat.fg;clear haf hat;go_region_held3 (λw'=>w'.cell? ⟨b,0,none⟩=some (.slice (some ⟨g,0,none⟩) D.A6.length cap)/\w'.cell? ⟨g,k*2+1,none⟩=some (.pointer (some ⟨f,0,none⟩))/\w'.cell? ⟨f,0,none⟩=some (.slice a' (F f).1.length aA)) (refine⟨?_,?_,?_⟩<;>go_simp) (fail);go_wp2;go_ret;rw[q.o,Ah W.o];exact⟨rfl,aI.o⟩
  ·(have aB:((bg D.n).2.1==0)=false:=by simpa using O);have W:=A4 <| O
   go_enter func115,ntmps115
   go_wp2_with (first
    | (go_at_call 24;refine(DC _ _ _ _ hd.o).k ?_;rintro w' rfl;rw[aH.o])
    | (go_at_call 25;refine(GU _ _ _ _ _ _ aD.o).k ?_;rintro w1⟨X,H⟩))
   go_ret;rw[q.o,Ae W.o];exact⟨rfl,aE.o.bN Y X H⟩
end
end Go.Proofs.YtodcnkbblippnabGreatDoor
