/- Part 5 of a proof: walks of the program. -/
import Derived.Test.YtodcnkbblippnaaGreatDoorPart04
namespace Go.Proofs.YtodcnkbblippnaaGreatDoor
set_option maxRecDepth 100000
set_option maxHeartbeats 32000000
set_option linter.defProp false
open Go.Proofs.Tryz
section
open Go.RowKit
attribute [local go_sem ↓] Go.wp_at_zero Go.wp_at_succ
def DC(D:DS):Int×DS:=
 ((bg D.n).2.1,if (bg D.n).2.1=0 then {D with AI:=D.A4,As:=[],n:=(bg D.n).2.2} else {D with n:=(bg D.n).2.2})
def BY.av{w w':ga}{b:Nat}{D:DS}{F:Nat->FC}{I vs vc:gd}{H:gh gd}{Y:Nat->gd}(h:BY w b D F I vs vc H Y)(hb:AK w' b I I (.slice none 0 0) D.n)(hc:A3 (One b) w w'):BY w' b {D with AI:=D.A4,As:=[]} F I I (.slice none 0 0) [] Y:=by
 have E:∀(k:Nat) (c:Array gd) (e:Nat),w.heap[k]?=some (Obj.cells c e (0,0))->e≠95->w'.heap[k]?=w.heap[k]?:=λk c e E he=>
  hc.An k (Bv E) (BR E h.Ah he)
 have W:=Ax h.A4 λg L=>by have⟨c,hh⟩:=Be h.A4 L;exact E g _ _ hh (by decide)
 have d:∀f,({D with AI:=D.A4,As:=[]}:DS).Ap f->D.Ap f:=by
  rintro f (z|z|⟨c,hcm,z⟩)
  ·exact .inl z
  ·exact .inl z
  ·cases hcm
 refine⟨hb,W,W,CT _ _ _ _,λi hi=>by simp at hi,λf z=>?_,λf f' g z O=>h.Gq f f' g (d f z) (d f' O)⟩;have⟨h1,h2⟩:=h.BK f (d f z);refine⟨?_,Ax h2 λg L=>by have⟨c,hh⟩:=Be h2 L;exact E g _ _ hh (by decide)⟩;unfold CY at h1 ⊢;rw[E f _ _ h1 (by decide)];exact h1
def XM(w:ga)(b:Nat)(D:DS)(F:Nat->FC)(Ft:Nat->Prop)(h:Dh w b D F Ft):
 Ag 86 #[A5 b] w (Am (A0 (DC D).1) λw'=>Dv w Ft w' b (DC D).2 F):=by
 obtain⟨vd,vs,vc,vals,VB,hr,d⟩:=h;obtain⟨ad,cap,rfl,_⟩:=hr.A4.Cd;have aA:=A1 hr;have Y:=A1 hr.Ah;by_cases E:(bg D.n).2.1=0
 ·have q:Hid (DC D=(0,{D with AI:=D.A4,As:=[],n:=(bg D.n).2.2})):=by unfold Hid DC;rw[Ae E,E]
  have O:((bg D.n).2.1==0)=true:=by simpa using E
  have W:=A1 <| E;clear E
  go_enter func86,ntmps86
  go_wp2_with (go_at_call 121;refine(H9 _ _ _ _ _ _ Y.o).k ?_;rintro w1⟨z,I⟩;have c01:=z.c0;have c11:=z.c1;have c21:=z.c2;have hf1:=z.fz);go_ret;refine⟨by rw[q.o];simp[W.o],?_⟩;rw[q.o];have r1:=aA.o.ah z I;have r2:=r1.av ((z.s1 _).s2 (.slice none 0 0)) (((A3.I (One b) w1).aq rfl 1 _).aq rfl 2 (.slice none 0 0));refine Dv.bw ?_ r2 ?_
  ·exact(((I.af (S':=Ft) λk _ hk=>by cases hk;exact d b .Ah)).aq (d b .Ah) 1 _).aq (d b .Ah) 2 _
  ·intro k hk;left;cases hk using C6.bJ with
   | Ah=>exact d _ .Ah
   | dir e=>exact d _ (.A4 e)
   | Ad e=>exact d _ (.A4 e)
   | Al e=>simp[Value.ownBlock]at e
   | Df hm e=>cases hm
   | BK H=>
    rcases H with H|H|⟨c,L,_⟩
    ·exact d _ (.BK (.inl H))
    ·exact d _ (.BK (.inl H))
    ·cases L
   | byt H e=>
    rcases H with H|H|⟨c,L,_⟩
    ·exact d _ (.bA (.inl H) e)
    ·exact d _ (.bA (.inl H) e)
    ·cases L
 ·have q:Hid (DC D=((bg D.n).2.1,{D with n:=(bg D.n).2.2})):=by unfold Hid DC;rw[Aa E]
  have O:((bg D.n).2.1==0)=false:=by simpa using E
  go_enter func86,ntmps86
  go_wp2_with (go_at_call 121;refine(H9 _ _ _ _ _ _ Y.o).k ?_;rintro w1⟨z,I⟩);go_ret;refine⟨by rw[q.o];rfl,?_⟩;rw[q.o];exact aA.o.bO d z I
def B6(F:Nat->FC):gh AM->Nat
 | []=>0
 | e::r=>(F e.2).1.length+B6 F r
def Le(F:Nat->FC)(a c:gh AM):B6 F (a++c)=B6 F a+B6 F c:=by
 induction a with
 | nil=>simp[B6]
 | cons e r ih=>simp[B6,ih];omega
def Rr(F:Nat->FC)(es:gh AM)(k:Nat)(d:k<es.length):B6 F (es.take (k+1))=B6 F (es.take k)+(F (es[k]'d).2).1.length:=by
 rw[Dy d,Le];simp[B6]
def Xz(F:Nat->FC)(es:gh AM)(k:Nat):B6 F (es.take k)<=B6 F es:=by
 conv=>rhs;rw[<-DU k es]
 rw[Le];omega
def Ld(w:ga)(b:Nat)(D:DS)(F:Nat->FC)(Ft:Nat->Prop)(h:Dh w b D F Ft)(hu:B6 F D.A4<=4611686018427387904):
 Ag 90 #[A5 b] w (Am (A0 (B6 F D.A4)) λw'=>A3 Ab w w'):=by
 obtain⟨vd,vs,vc,vals,VB,W,hft⟩:=h;have c0:=W.Ah.c0;obtain⟨a,cap,rfl,hc1,Y,E⟩:=W.A4.Cd;unfold maxLen at Y;have aB:=A1 W
 go_enter func90,ntmps90
 go_wp2;go_loopw [3,11] (λt i wr=>∃k:Nat,k<=D.A4.length/\i=A0 k/\t=A0 (B6 F (D.A4.take k))/\A3 Ab w wr) (λ_ i _=>D.A4.length-(intOf i).toNat)
 ·exact⟨0,Cb _,rfl,by simp[B6],A3.I _ _⟩
 ·obtain⟨k,hk,rfl,rfl,z⟩:=hrel;by_cases d:k<D.A4.length
  ·obtain⟨g,rfl,hn,hp⟩:=E k d;have⟨hfb,hbs⟩:=aB.o.cf k d;have⟨a',cap',hv,_,_⟩:=hbs.Cd;rw[hv]at hfb;have L:g<w.heap.size:=HL w _ hn;have O:=Bv hfb;have hn':A7 wr g (k*2) (.string (D.A4[k]'d).1):=(E3 (z.An g L (λh=>h))).trans hn;have hp':A7 wr g (k*2+1) (A5 ((D.A4[k]'d).2)):=(E3 (z.An g L (λh=>h))).trans hp;have hb0:A7 wr ((D.A4[k]'d).2) 0 (.slice a' (F (D.A4[k]'d).2).1.length cap'):=(E3 (z.An _ O (λh=>h))).trans hfb.c0;have hsz:=z.Aj;(have hflr:(D.A4[k]'d).2<wr.heap.size:=by omega);have ht:=A1 (Rr F D.A4 k d);have aA:=Xz F D.A4 (k+1);rw[Rr F D.A4 k d]at aA;go_wp2;go_roundw
   ·exact⟨k+1,by omega,by go_num,by rw[ht.o];go_num,z.al _⟩
   ·simp[intOf];omega
  ·have I:D.A4.take k=D.A4:=EG (by omega);have H:=A1 I;go_wp2;go_ret;exact⟨by rw[H.o];rfl,z⟩
def EP(D:DS)(F:Nat->FC)(d:gg)(at_ n:Int):gh UInt8×Int:=match lookup D.A4 d with
 | some f=>if at_<0\/n<0\/at_>(F f).1.length\/n>(F f).1.length-at_ then ([],9) else (((F f).1.drop at_.toNat).take n.toNat,0)
 | none=>([],8)
def ZO(w:ga)(b:Nat)(D:DS)(F:Nat->FC)(Ft:Nat->Prop)(h:Dh w b D F Ft)(H:gg)(p n:Int):
 Ag 82 #[A5 b,.string H,A0 p,A0 n] w (Am (.tuple #[.string ⟨(EP D F H p n).1.toArray⟩,A0 (EP D F H p n).2]) λw'=>w=w'):=by
 obtain⟨vd,vs,vc,vals,VB,hr,hft⟩:=h;have c0:=hr.Ah.c0;have hd:=A1 hr.A4;obtain⟨a,cap,rfl,hc1,aF,L⟩:=hr.A4.Cd;unfold maxLen at aF;rcases Ju D.A4 H with⟨h1,h2⟩|⟨k,hk,h1,h2,h3⟩
 ·have q:Hid (EP D F H p n=([],8)):=by unfold Hid EP;rw[h2]
  have hfi:B5 D.A4 H<0:=by omega
  go_enter func82,ntmps82
  go_wp2_with (go_at_call 77;refine(DB _ _ _ _ hd.o).k ?_;rintro w' rfl);go_ret2;rw[q.o];exact⟨rfl,rfl⟩
 ·have⟨hfb,z⟩:=hr.cf k hk;have⟨a',cap',hv,hl1,hl2⟩:=z.Cd;unfold maxLen at hl2;rw[hv]at hfb z;have aB:=hfb.c0;have O:=A1 z;obtain⟨g,rfl,hn,hp⟩:=L k hk;have aD:=A1 h1;have aJ:=A1 h2;obtain⟨bs,z⟩:∃bs,(F (D.A4[k]'hk).2).1=bs:=⟨_,rfl⟩;have aI:=A1 z;rw[z]at aB hl1 O;have hlen:(bs.length:Int)<=9223372036854775807:=by omega
  have q:Hid (EP D F H p n=if p<0\/n<0\/p>bs.length\/n>bs.length-p then ([],9) else ((bs.drop p.toNat).take n.toNat,0)):=by
   unfold Hid EP;rw[aJ.o];dsimp only;rw[aI.o]
  by_cases aG:0<=p/\0<=n/\p<=bs.length/\n<=bs.length-p
  ·obtain⟨o1,o2,o3,o4⟩:=aG;obtain⟨d,rfl⟩:=KY o1;obtain⟨E,rfl⟩:=KY o2;have q2:Hid (EP D F H d E=((bs.drop d).take E,0)):=by
    unfold Hid;rw[q.o,Aa (by omega)];simp
   (have o5:d<=bs.length:=by omega);(have o6:E<=bs.length-d:=by omega);have⟨_,_,he,_,_,_,hnil,hform⟩:=B9 O.o;cases he;by_cases aA:cap'=d
   ·(have aH:E=0:=by omega);subst aH;have cv:∀(x:Option Addr) (c:Nat),(convert 127 9 (.slice x 0 c)).run Tryz.prog w=.ok (.string ⟨#[]⟩) w:=by
     intro x c;cases x with
     | none=>
      rw[run_convert_bytes_string (P:=Tryz.prog) w 127 9 5 none 0 c GA KA FR];rfl
     | some ad=>exact OJ (P:=Tryz.prog) w 127 9 5 ad c [] GA KA FR (by simp)
    subst aA
    go_enter func82,ntmps82
    go_wp2_with (go_at_call 77;refine(DB _ _ _ _ hd.o).k ?_;rintro w' rfl;rw[aD.o]);go_ret2;rw[q2.o];exact⟨by simp,rfl⟩
   ·obtain⟨I,aE⟩:∃I,a'=some (Ac I 0):=by
     cases ha:a' with
     | none=>have:=(hnil ha).2;omega
     | some ad=>obtain⟨g',rfl⟩:=hform ad ha;exact⟨g',rfl⟩
    subst aE;have cv:(convert 127 9 (.slice (some (Ac I d)) E (cap'-d))).run Tryz.prog w=.ok (.string ⟨((bs.drop d).take E).toArray⟩) w:=by
     (have hl:((bs.drop d).take E).length=E:=by simp;omega)
     have:=OJ (P:=Tryz.prog) w 127 9 5 (Ac I d) (cap'-d) ((bs.drop d).take E) GA KA FR (by
      intro j hj;(have Y:d+j<bs.length:=by simp at hj;omega);(have W:((Ac I d):Addr).add j=(Ac I (d+j)):=by unfold Addr.add;split<;>simp_all);rw[W];have:=BH O.o (g:=I) rfl (j:=d+j) (u:=.int .u8 (bs[d+j]'Y).toNat) (by simp[Ea,List.getElem?_eq_getElem Y])
      simpa using this)
     rw[hl]at this;exact this
    go_enter func82,ntmps82
    go_wp2_with (go_at_call 77;refine(DB _ _ _ _ hd.o).k ?_;rintro w' rfl;rw[aD.o]);go_ret2;rw[q2.o];exact⟨rfl,rfl⟩
  ·have q2:Hid (EP D F H p n=([],9)):=by
    unfold Hid;rw[q.o,Ae (by omega)]
   go_enter func82,ntmps82
   go_wp2_with (go_at_call 77;refine(DB _ _ _ _ hd.o).k ?_;rintro w' rfl;rw[aD.o])
   all_goals (go_ret2;rw[q2.o];exact⟨rfl,rfl⟩)
def BY.b1{w w':ga}{b:Nat}{D:DS}{F:Nat->FC}{vd vs vc:gd}{I:gh gd}{Y:Nat->gd}{S:Nat->Prop}(h:BY w b D F vd vs vc I Y){f:Nat}(hf:D.Ap f){vb':gd}{bs':gh UInt8}{s':Int}(h1:CY w' f vb' s')(h2:FZ w' vb' bs')(hc:A3 S w w')(hS:∀k,S k->k=f\/(Y f).ownBlock=some k)(hv:∀g,vb'.ownBlock=some g->(Y f).ownBlock=some g\/w.heap.size<=g):
 BY w' b D (upd F f (bs',s')) vd vs vc I (λx=>if x=f then vb' else Y x):=by
 have⟨hf1,hf2⟩:=h.BK f hf;have E:∀(k:Nat) (c:Array gd) (e:Nat),w.heap[k]?=some (Obj.cells c e (0,0))->e≠129->e≠5->w'.heap[k]?=w.heap[k]?:=λk c e E W aB=>
  hc.An k (Bv E) (λd=>by
   rcases hS k d with d|d
   ·exact BR E hf1 W d
   ·have⟨c',hh⟩:=Be hf2 d
    exact BR E hh aB rfl)
 refine⟨?_,?_,?_,?_,?_,?_,?_⟩
 ·have:=h.Ah;unfold AK at this ⊢;rw[E b _ _ this (by decide) (by decide)];exact this
 ·exact Ax h.A4 λg z=>by have⟨c,hh⟩:=Be h.A4 z;exact E g _ _ hh (by decide) (by decide)
 ·exact Ax h.AI λg z=>by have⟨c,hh⟩:=Be h.AI z;exact E g _ _ hh (by decide) (by decide)
 ·exact Ax h.Al λg z=>by have⟨c,hh⟩:=Be h.Al z;exact E g _ _ hh (by decide) (by decide)
 ·intro i hi;have⟨v,h1,h2⟩:=h.Df i hi;exact⟨v,h1,Ax h2 λg z=>by have⟨c,hh⟩:=Be h2 z;exact E g _ _ hh (by decide) (by decide)⟩
 ·intro f2 H;by_cases W:f2=f
  ·subst W;simp only[upd,Cp];exact⟨h1,h2⟩
  ·have⟨g1,g2⟩:=h.BK f2 H;simp only[upd,W,C9];refine⟨g1.ay (hc.An f2 (Bv g1) (λd=>?_)),Ax g2 λg z=>hc.An g (AF g2 z) (λd=>?_)⟩
   ·rcases hS _ d with d|d
    ·exact W d
    ·have⟨c',hh⟩:=Be hf2 d;exact BR g1 hh (by decide) rfl
   ·rcases hS _ d with d|d
    ·have⟨c',hh⟩:=Be g2 z;exact BR hh hf1 (by decide) d
    ·exact W (h.Gq f2 f g H hf z d)
 ·have key:∀f2 g,D.Ap f2->f2≠f->(Y f2).ownBlock=some g->vb'.ownBlock=some g->False:=by
   intro f2 g h3 aA h4 h5;rcases hv g h5 with h6|h6
   ·exact aA (h.Gq f2 f g h3 hf h4 h6)
   ·have:=AF (h.BK f2 h3).2 h4;omega
  intro f1 f2 g k1 k2 O L;by_cases a1:f1=f<;>by_cases a2:f2=f
  ·rw[a1,a2]
  ·simp only[a1,Cp]at O;simp only[a2,C9]at L;exact(key f2 g k2 a2 L O).elim
  ·simp only[a2,Cp]at L;simp only[a1,C9]at O;exact(key f1 g k1 a1 O L).elim
  ·simp only[a1,C9]at O;simp only[a2,C9]at L;exact h.Gq f1 f2 g k1 k2 O L
def C6.b1{b:Nat}{D:DS}{L H E:gd}{d:gh gd}{z:Nat->gd}{f:Nat}{vb':gd}{N:Nat}(O:D.Ap f)(W:∀g,vb'.ownBlock=some g->(z f).ownBlock=some g\/N<=g){k:Nat}(h:C6 b D L H E d (λx=>if x=f then vb' else z x) k):C6 b D L H E d z k\/N<=k:=by
 cases h using C6.bJ with
 | Ah=>exact .inl .Ah
 | dir e=>exact .inl (.A4 e)
 | Ad e=>exact .inl (.AI e)
 | Al e=>exact .inl (.Al e)
 | Df h e=>exact .inl (.Df h e)
 | BK h=>exact .inl (.BK h)
 | byt h e=>
  rename_i f2;by_cases I:f2=f
  ·simp only[I,Cp]at e;rcases W k e with h|h
   ·exact .inl (.bA O h)
   ·exact .inr h
  ·simp only[I,C9]at e;exact .inl (.bA h e)
def BY.CA{w:ga}{b:Nat}{D:DS}{F:Nat->FC}{I O L:gd}{E:gh gd}{H:Nat->gd}(h:BY w b D F I O L E H)(k:Nat)(z:k<D.A4.length):
 ∃g cap a' d,I=.slice (some ⟨g,0,none⟩) D.A4.length cap/\H (D.A4[k]'z).2=.slice a' (F (D.A4[k]'z).2).1.length d/\D.A4.length<=cap/\cap<=maxLen/\(F (D.A4[k]'z).2).1.length<=d/\d<=maxLen:=by
 have⟨a,cap,hv,h1,h2,hc⟩:=h.A4.Cd;obtain⟨g,rfl,_,_⟩:=hc k z;have⟨a',d,h3,h4,h5⟩:=(h.cf k z).2.Cd;exact⟨g,cap,a',d,hv,h3,h1,h2,h4,h5⟩
structure QY (w:ga) (b:Nat) (g k f n cap l cap':Nat) (a':Option Addr) (nd:gg) (Ad:Int):Prop where
 d:A7 w b 0 (AH g n cap)
 n:A7 w g (k*2) (.string nd)
 p:A7 w g (k*2+1) (A5 f)
 f0:A7 w f 0 (.slice a' l cap')
 f1:A7 w f 1 (A0 Ad)
 fz:∀o,w.frozen? (Ac f o)=false
 gf:¬g=f
 fg:¬f=g
 gb:¬g=b
 bg:¬b=g
 fb:¬f=b
 bf:¬b=f
def BY.dw{w:ga}{b:Nat}{D:DS}{F:Nat->FC}{I O Y:gd}{E:gh gd}{H:Nat->gd}(h:BY w b D F I O Y E H)(k:Nat)(d:k<D.A4.length){g cap z:Nat}{a':Option Addr}(W:I=AH g D.A4.length cap)(L:H (D.A4[k]'d).2=.slice a' (F (D.A4[k]'d).2).1.length z):
 QY w b g k (D.A4[k]'d).2 D.A4.length cap (F (D.A4[k]'d).2).1.length z a' (D.A4[k]'d).1 (F (D.A4[k]'d).2).2:=by
 subst W;have⟨hf,hb⟩:=h.cf k d;rw[L]at hf;have⟨c,hh⟩:=Be h.A4 (g:=g) rfl
 exact⟨h.Ah.c0,BH h.A4 rfl (Q7 _ k d),BH h.A4 rfl (Q5 _ k d),hf.c0,hf.c1,hf.fz,λe=>BR hh hf (by decide) e,λe=>BR hh hf (by decide) e.symm,
  λe=>BR hh h.Ah (by decide) e,λe=>BR hh h.Ah (by decide) e.symm,λe=>BR hf h.Ah (by decide) e,λe=>BR hf h.Ah (by decide) e.symm⟩
def Cq(D:DS)(F:Nat->FC)(d:gg):Int×DS×(Nat->FC):=match lookup D.A4 d with
 | none=>(8,D,F)
 | some f=>((bg D.n).2.1,{D with n:=(bg D.n).2.2},if (bg D.n).2.1=0 then upd F f ((F f).1,(F f).1.length) else F)
def XK(w:ga)(b:Nat)(D:DS)(F:Nat->FC)(Ft:Nat->Prop)(h:Dh w b D F Ft)(nd:gg):
 Ag 85 #[A5 b,.string nd] w (Am (A0 (Cq D F nd).1) λw'=>Dv w Ft w' b (Cq D F nd).2.1 (Cq D F nd).2.2):=by
 obtain⟨vd,vs,vc,vals,aG,hr,W⟩:=h;have c0:=hr.Ah.c0;have hd:=A1 hr.A4;have aD:=A1 hr.Ah;have aE:=A1 hr;rcases Ju D.A4 nd with⟨h1,h2⟩|⟨k,z,h1,h2,h3⟩
 ·have q:Hid (Cq D F nd=(8,D,F)):=by unfold Hid Cq;rw[h2]
  have hfi:B5 D.A4 nd<0:=by omega
  go_enter func85,ntmps85
  go_wp2_with (go_at_call 77;refine(DB _ _ _ _ hd.o).k ?_;rintro w' rfl);go_ret;rw[q.o];exact⟨rfl,Dv.bw (A3.I _ _) aE.o λk z=>.inl (W k z)⟩
 ·have q:Hid (Cq D F nd=((bg D.n).2.1,{D with n:=(bg D.n).2.2},if (bg D.n).2.1=0 then upd F (D.A4[k]'z).2 ((F (D.A4[k]'z).2).1,(F (D.A4[k]'z).2).1.length) else F)):=by unfold Hid Cq;rw[h2]
  have aH:=A1 h1;by_cases I:(bg D.n).2.1=0
  ·(have aB:((bg D.n).2.1==0)=true:=by simpa using I);have L:=A1 <| I;clear I;have hk0:=C3 k;(have hk1:(k:Int)<(D.A4.length:Int):=by omega);obtain⟨g,cap,a',aA,rfl,hv,z1,z2,z3,z4⟩:=aE.o.CA k z;have aF:=A1 hv;unfold maxLen at z2 z4;clear hv;obtain⟨f,hf⟩:∃f,(D.A4[k]'z).2=f:=⟨_,rfl⟩;have H:Hid (D.Ap f):=.inl ⟨_,BU z,hf⟩
   have fin:Hid (∀Y,AK Y b (AH g D.A4.length cap) vs vc (bg D.n).2.2->A3 (One b) w Y->QY Y b g k f D.A4.length cap (F f).1.length aA a' (D.A4[k]'z).1 (F f).2/\
    Dv w Ft (Y.sC f 1 (A0 (F f).1.length)).drew b {D with n:=(bg D.n).2.2} (upd F f ((F f).1,(F f).1.length))):=by
    intro Y O E;have r1:=aE.o.ah O E;subst hf;refine⟨r1.dw k z rfl aF.o,?_⟩;have⟨hf1,hf2⟩:=r1.cf k z;have r2:=r1.b1 (S:=One (D.A4[k]'z).2) (w':=(Y.sC ((D.A4[k]'z).2) 1 (A0 (F (D.A4[k]'z).2).1.length)).drew) (f:=(D.A4[k]'z).2) H.o (vb':=aG (D.A4[k]'z).2) (bs':=(F (D.A4[k]'z).2).1) (s':=(F (D.A4[k]'z).2).1.length)
     (hf1.s1 _) (by
      refine Pc hf2 (a:=(Ac ((D.A4[k]'z).2) 1)) ?_ _;intro e;have⟨c,hh⟩:=Be hf2 e
      exact BR hh hf1 (by decide) rfl) (((A3.I (One _) Y).aq rfl 1 _).ag) (λk z=>.inl z) (λg hg=>.inl hg)
    refine Dv.bw ?_ r2 ?_
    ·exact((E.af (S':=Ft) λk _ z=>by cases z;exact W b .Ah).aq (W _ (.BK H.o)) 1 _).ag
    ·intro x hx;rcases C6.b1 (N:=w.heap.size) (vb':=aG (D.A4[k]'z).2) (f:=(D.A4[k]'z).2) H.o (λg hg=>.inl hg) hx.n with h|h
     ·exact .inl (W x h)
     ·exact .inr h
   rw[hf]at q;clear hf aF
   go_enter func85,ntmps85
   go_wp2_with (first
    | (go_at_call 77;refine(DB _ _ _ _ hd.o).k ?_;rintro w' rfl;rw[aH.o])
    | (go_at_call 121;refine(H9 _ _ _ _ _ _ aD.o).k ?_;rintro Y⟨O,E⟩))
   have⟨hat,haf⟩:=fin.o Y O E;have aI:=A1 haf;have x1:=hat.d;have x2:=hat.p;have x3:=hat.f0;have x4:=hat.f1;have x5:=hat.fz;have x7:=hat.fg;clear haf hat;go_region_held3 (λw'=>w'.cell? ⟨b,0,none⟩=some (.slice (some ⟨g,0,none⟩) D.A4.length cap)/\w'.cell? ⟨g,k*2+1,none⟩=some (.pointer (some ⟨f,0,none⟩))/\w'.cell? ⟨f,0,none⟩=some (.slice a' (F f).1.length aA)) (refine⟨?_,?_,?_⟩<;>go_simp) (fail);go_wp2;go_ret;rw[q.o,Ae L.o];exact⟨rfl,aI.o⟩
  ·(have aB:((bg D.n).2.1==0)=false:=by simpa using I);have L:=A1 <| I
   go_enter func85,ntmps85
   go_wp2_with (first
    | (go_at_call 77;refine(DB _ _ _ _ hd.o).k ?_;rintro w' rfl;rw[aH.o])
    | (go_at_call 121;refine(H9 _ _ _ _ _ _ aD.o).k ?_;rintro Y⟨O,E⟩))
   go_ret;rw[q.o,Aa L.o];exact⟨rfl,aE.o.bO W O E⟩
end
end Go.Proofs.YtodcnkbblippnaaGreatDoor
