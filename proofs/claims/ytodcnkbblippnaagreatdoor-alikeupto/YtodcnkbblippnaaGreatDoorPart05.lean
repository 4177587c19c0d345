/- Part 5 of a proof: walks of the program. -/
import Derived.Test.YtodcnkbblippnaaGreatDoorPart04
namespace Go.Proofs.YtodcnkbblippnaaGreatDoor
set_option maxRecDepth 100000
set_option maxHeartbeats 32000000
set_option linter.defProp false
open Go.Proofs.Tryz
section
open Go.RowKit
attribute [local go_sem ↓] Go.wp_at_zero Go.wp_at_succ
def FD:List Nat->List Nat->Nat->Nat
 | x::xs,y::ys,f=>if x=f then y else FD xs ys f
 | _,_,_=>0
def KE:∀(xs ys:List Nat) (i f m:Nat),xs.Nodup->xs[i]?=some f->ys[i]?=some m->FD xs ys f=m
 | [],_,i,_,_,_,h,_=>by simp at h
 | x::xs,[],i,_,_,_,_,h=>by simp at h
 | x::xs,y::ys,0,f,m,_,h1,h2=>by
  simp only[List.getElem?_cons_zero,Option.some.injEq]at h1 h2;subst h1;subst h2;simp[FD]
 | x::xs,y::ys,i+1,f,m,hn,h1,h2=>by
  simp only[A3J]at h1 h2;have d:x≠f:=λe=>by subst e;exact(Kh.1 hn).1 (Lv h1)
  simp only[FD,d,C4];exact KE xs ys i f m (Kh.1 hn).2 h1 h2
def ren(r:Nat->Nat)(es:List AL):List AL:=es.map λe=>(e.1,r e.2)
def DS.ren(r:Nat->Nat)(D:DS):DS:={A4:=Go.Proofs.YtodcnkbblippnaaGreatDoor.ren r D.A4,AO:=Go.Proofs.YtodcnkbblippnaaGreatDoor.ren r D.AO,Av:=D.Av.map (Go.Proofs.YtodcnkbblippnaaGreatDoor.ren r),n:=D.n}
def Ren.eq{L M:List Nat}{es d:List AL}(h:Ren L M es d)(W:L.Nodup):d=ren (FD L M) es:=by
 apply List.ext_getElem
 ·simp[ren,h.1]
 ·intro k z h2;have E:k<es.length:=by rw[<-h.1];exact z
  obtain⟨H,i,O,I⟩:=h.2 k E z;simp only[ren,List.getElem_map];rw[KE L M i _ _ W O I];exact Prod.ext H rfl
def CS.cw{N:Nat}{w:World}{bo I:Nat}{F:Nat->FC}{old made:List Nat}{L O:Value}{H:Nat->Value}(h:CS N w bo I F old made L O H){k:Nat}(d:CB bo I L O made H k\/k∈old):∃c e,w.heap[k]?=some (.cells c e (0,0))/\e≠125/\e≠120/\e≠95:=by
 have hl:=h.b3;rcases d with (rfl|rfl|d|d|d|⟨m,W,d⟩)|d
 ·exact⟨_,_,h.ob,by decide⟩
 ·exact⟨_,_,h.mb,by decide⟩
 ·obtain⟨c,z⟩:=Be h.ol d;exact⟨c,_,z,by decide⟩
 ·obtain⟨c,z⟩:=Be h.ml d;exact⟨c,_,z,by decide⟩
 ·obtain⟨i,E,rfl⟩:=DU d;exact⟨_,_,(h.BM i E (by omega)).1,by decide⟩
 ·obtain⟨i,E,rfl⟩:=DU W;obtain⟨c,z⟩:=Be (h.BM i E (by omega)).2 d;exact⟨c,_,z,by decide⟩
 ·obtain⟨c,z⟩:=(h.I4 k d).2;exact⟨c,_,z,by decide⟩
def CS.b7{N:Nat}{w:World}{bo z:Nat}{F:Nat->FC}{old made:List Nat}{E H:Value}{L:Nat->Value}(h:CS N w bo z F old made E H L){k e:Nat}{c:Array Value}(O:w.heap[k]?=some (.cells c e (0,0)))(W:e=125\/e=120\/e=95):¬CF bo z E H k:=by
 intro X;have d:CB bo z E H made L k:=by
  rcases X with h|h|h|h
  ·exact .inl h
  ·exact .inr (.inl h)
  ·exact .inr (.inr (.inl h))
  ·exact .inr (.inr (.inr (.inl h)))
 obtain⟨c',e',I,h2,h3,h4⟩:=h.cw (.inl d);rw[O]at I;cases I;rcases W with e|e|e<;>simp_all
def IK(l:List (List AL)):Nat:=(l.map List.length).sum
def Wz(l:List (List AL))(i:Nat)(h:i<l.length):IK (l.take (i+1))=IK (l.take i)+(l[i]'h).length:=by
 unfold IK;rw[Dn h,El,List.sum_append];simp
structure CR (N:Nat) (w wr:World) (b2 bo bm:Nat) (D:DS) (F:Nat->FC) (i:Nat) (L M:List Nat) (vo vm v1 v2 vc:Value) (VB:Nat->Value) (vals:List Value) (e1 e2:List AL) (cs:List (List AL)):Prop where
 Gz:CS N wr bo bm F L M vo vm VB
 Af:AK wr b2 v1 v2 vc D.n
 d1:D2 wr v1 e1
 d2:D2 wr v2 e2
 r1:Ren L M D.A4 e1
 r2:Ren L M D.AO e2
 ch:wr.ownsRow 0 120 1 vc i vals
 cl:cs.length=i
 D8:∀k (h:k<cs.length),∃v,vals[k]?=some v/\D2 wr v (cs[k]'h)
 Pg:∀k (h:k<cs.length) (h':k<D.Av.length),Ren L M (D.Av[k]' h') (cs[k]'h)
 Mx:L.length<=D.A4.length+D.AO.length+IK (D.Av.take i)
 T8:∀f∈L,D.Au f
 Aj:A3 (λ_=>False) w wr
 nb:N<=b2
 Sm:∀g,v1.ownBlock=some g->N<=g
 Sl:∀g,v2.ownBlock=some g->N<=g
 Od:∀g,vc.ownBlock=some g->N<=g
 Sk:∀v∈vals,∀g,v.ownBlock=some g->N<=g
def CR.a7{w wr aV w2 w3:World}{b2 bo bm:Nat}{D:DS}{F:Nat->FC}{i nq:Nat}{L M aT aR:List Nat}{vo vm v1 v2 vc aJ aM v:Value}{aU aK:Nat->Value}{I:List Value}{e1 e2 X:List AL}{cs:List (List AL)}{a3:Option Addr}{c3:Nat}(h:CR w.heap.size w wr b2 bo bm D F i L M vo vm v1 v2 vc aU I e1 e2 cs)(hi:i<D.Av.length){es:List AL}(aS:D.Av[i]'hi=es)(hW:A3 (λ_=>False) wr aV)(H:Ep w.heap.size aV bo bm F L M vo vm aU es es.length es.length v w2 aT aR aJ aM aK X)(hA:App ((w2.drewN nq).alloc (.cells #[v] 120)) w3 120 1 vc (.slice a3 (i+1) c3) (i+1) (I++[v])):
 CR w.heap.size w (w3.setCell ⟨b2,2,none⟩ (.slice a3 (i+1) c3)) b2 bo bm D F (i+1) aT aR aJ aM v1 v2 (.slice a3 (i+1) c3) aK (I++[v]) e1 e2 (cs++[X]):=by
 subst aS;have aA:=h.Gz.Aj hW (λ_ _ h=>h) (λ_ _ h=>h);have aG:∀(k:Nat) (c:Array Value) (e:Nat),wr.heap[k]?=some (Obj.cells c e (0,0))->(e=125\/e=120\/e=95)->w2.heap[k]?=some (Obj.cells c e (0,0)):=λk c e d he=>by
  have W:=(hW.Ao k (By d) (λh=>h)).trans d;exact(H.Aj.Ao k (By W) (aA.b7 W he)).trans W
 have Y:∀(k:Nat) (c:Array Value) (e:Nat),w2.heap[k]?=some (Obj.cells c e (0,0))->e≠120->w3.heap[k]?=some (Obj.cells c e (0,0)):=λk c e d he=>by
  have W:((w2.drewN nq).alloc (.cells #[v] 120)).heap[k]?=some (Obj.cells c e (0,0)):=(Dc _ _ _ (by simpa using By d)).trans d;refine(hA.Cy.block k (By W) (λe2=>?_)).trans W;obtain⟨c',hh⟩:=Be h.ch e2.symm;have:=aG _ _ _ hh (.inr (.inl rfl));rw[d]at this;cases this;exact he rfl
 have aL:AK w3 b2 v1 v2 vc D.n:=Y _ _ _ (aG _ _ _ h.Af (.inr (.inr rfl))) (by decide);have aN:=aL.s2 (.slice a3 (i+1) c3);have aD:A3 (One b2) w3 (w3.setCell ⟨b2,2,none⟩ (.slice a3 (i+1) c3)):=(A3.I (One b2) w3).ao rfl 2 _;generalize hW4:w3.setCell ⟨b2,2,none⟩ (.slice a3 (i+1) c3)=W4 at aN aD ⊢;have E:∀(k:Nat) (c:Array Value) (e:Nat),w3.heap[k]?=some (Obj.cells c e (0,0))->e≠95->W4.heap[k]?=some (Obj.cells c e (0,0)):=λk c e d he=>
  (aD.Ao k (By d) (λe2=>BS d aL he e2)).trans d
 have kE:∀(k:Nat) (c:Array Value),wr.heap[k]?=some (Obj.cells c 125 (0,0))->W4.heap[k]?=wr.heap[k]?:=λk c d=>
  (E _ _ _ (Y _ _ _ (aG _ _ _ d (.inl rfl)) (by decide)) (by decide)).trans d.symm
 have aQ:∀(k:Nat) (c:Array Value),w2.heap[k]?=some (Obj.cells c 125 (0,0))->W4.heap[k]?=w2.heap[k]?:=λk c d=>
  (E _ _ _ (Y _ _ _ d (by decide)) (by decide)).trans d.symm
 have aB:∀ {v:Value} {es:List AL},D2 wr v es->D2 W4 v es:=λhe=>Ay he λg O=>by
  obtain⟨c,hh⟩:=Be he O;exact kE _ _ hh
 have aP:D2 W4 v X:=Ay H.EL λg O=>by
  obtain⟨c,hh⟩:=Be H.EL O;exact aQ _ _ hh
 have aE:∀ {es aI:List AL},Ren L M es aI->Ren aT aR es aI:=λhr=>by
  obtain⟨o,q1,_⟩:=H.Gu;obtain⟨o2,q2,_⟩:=H.JH;rw[q1,q2];exact hr.aa
 have hsz1:=h.Aj.Ak;have hsz2:=hW.Ak;have aF:I.length=i:=by simpa using h.ch.1
 refine⟨?_,aN,aB h.d1,aB h.d2,aE h.r1,aE h.r2,?_,by simp[h.cl],?_,?_,?_,?_,?_,h.nb,h.Sm,h.Sl,?_,?_⟩
 ·refine H.cs.aP (λk d=>?_) (λk d=>?_)
  ·obtain⟨c,e,W,h2,h3,h4⟩:=H.cs.cw (.inl d);exact(E _ _ _ (Y _ _ _ W h3) h4).trans W.symm
  ·obtain⟨c,e,W,h2,h3,h4⟩:=H.cs.cw (.inr d);exact(E _ _ _ (Y _ _ _ W h3) h4).trans W.symm
 ·exact Ay hA.AA λg O=>by
   obtain⟨c,hh⟩:=Be hA.AA O;exact(E _ _ _ hh (by decide)).trans hh.symm
 ·intro k d;by_cases z:k<cs.length
  ·obtain⟨u,q1,q2⟩:=h.D8 k z;refine⟨u,?_,?_⟩
   ·rw[IE (by rw[aF,<-h.cl];exact z)];exact q1
   ·simp only[Fa z];exact aB q2
  ·(obtain rfl:k=cs.length:=by simp at d;omega);refine⟨v,?_,?_⟩
   ·rw[Hs (by rw[aF,h.cl];omega),aF,h.cl];simp
   ·simpa using aP
 ·intro k d aO;by_cases z:k<cs.length
  ·simp only[Fa z];exact aE (h.Pg k z aO)
  ·(obtain rfl:k=cs.length:=by simp at d;omega);have aH:=h.cl;have:=H.ren;rw[C6]at this;simp only[aH];(have e1:(cs++[X])[i]'(by simp[aH])=X:=by simp[<-aH]);rw[e1];exact this
 ·obtain⟨o,q1,q2,_⟩:=H.Gu;have:=h.Mx;rw[Wz _ _ hi,q1,AY];omega
 ·intro f hf;obtain⟨o,q1,_,q3⟩:=H.Gu;rw[q1]at hf;rcases AU.1 hf with hf|hf
  ·exact h.T8 f hf
  ·exact .inr (.inr ⟨_,BV hi,q3 f hf⟩)
 ·have c1:=h.Aj.Ap hW (λ_ h _=>h)
  have c2:=c1.Ap H.Aj (λx hx z=>by
   rcases hx with rfl|rfl|hx|hx
   ·have:=aA.I6;omega
   ·have:=aA.IY;omega
   ·have:=aA.IV x hx;omega
   ·have:=aA.IW x hx;omega)
  have c3:=((c2.ba nq).ak (.cells #[v] 120)).Cy hA.Cy (λk d z=>by have:=h.Od k d;omega);exact c3.Ap aD (λx hx z=>by have:=h.nb;have:x=b2:=hx;omega)
 ·intro g O;rcases hA.Cj with e|e
  ·rw[e]at O;exact h.Od g O
  ·rw[e]at O;cases O;have:=H.Aj.Ak;simp;omega
 ·intro u hu g O;rcases AU.1 hu with hu|hu
  ·exact h.Sk u hu g O
  ·simp at hu;subst hu;have:=H.AS g O;omega
def Yv{w W:World}{b bo bm:Nat}{D:DS}{F:Nat->FC}{vd vs vc vo vm vl:Value}{aA:List Value}{aF H:Nat->Value}{L M:List Nat}{es:List AL}(hr:BY w b D F vd vs vc aA aF)(hc:A3 (λ_=>False) w W)(aB:CS w.heap.size W bo bm F L M vo vm H)(O:D2 w vl es)(d:∀f,Df f es->D.Au f)(hF:∀f,D.Au f->(F f).1.length<=1099511627776)(hn:es.length<1099511627776/\L.length<1099511627776):
 Calls Tryz.prog 87 #[vl,.pointer (some ⟨bo,0,none⟩),.pointer (some ⟨bm,0,none⟩)] W λe w'=>∃v aE aD I z Y X,e=.returned v/\Ep w.heap.size W bo bm F L M vo vm H es es.length es.length v w' aE aD I z Y X:=by
 have hb:∀k,k<w.heap.size->W.heap[k]?=w.heap[k]?:=λk hk=>hc.Ao k hk (λh=>h);refine(Yw w.heap.size W bo bm F L M vo vm H aB es vl (Ay O λg E=>hb g (AB O E)) (λg E=>AB O E) hn λf hf=>?_).mono ?_
 ·obtain⟨h1,h2⟩:=hr.BM f (d f hf);refine⟨By h1,hF f (d f hf),aF f,(hb f (By h1)).trans h1,Ay h2 λg E=>hb g (AB h2 E),λg E=>AB h2 E⟩
 ·rintro e w'⟨v,rfl,aE,aD,I,z,Y,X,h⟩;exact⟨v,aE,aD,I,z,Y,X,rfl,h⟩
def Ep.cI{w W w':World}{bo X:Nat}{F:Nat->FC}{old made aB aA:List Nat}{Y vm v H E:Value}{O L:Nat->Value}{es I:List AL}{i cn:Nat}(h:Ep w.heap.size W bo X F old made Y vm O es i cn v w' aB aA H E L I)(hc:A3 (λ_=>False) w W)(d:CS w.heap.size W bo X F old made Y vm O):A3 (λ_=>False) w w':=
 hc.Ap h.Aj (λx z hlt=>by
  rcases z with rfl|rfl|z|z
  ·have:=d.I6;omega
  ·have:=d.IY;omega
  ·have:=d.IV x z;omega
  ·have:=d.IW x z;omega)
def OK{r:Nat->Nat}{es:List AL}{z:Nat}(h:Df z (ren r es)):∃f,Df f es/\r f=z:=by
 obtain⟨e,E,rfl⟩:=h;obtain⟨e0,d,rfl⟩:=Ct.1 E;exact⟨e0.2,⟨e0,d,rfl⟩,rfl⟩
def DS.cU{r:Nat->Nat}{D:DS}{H:Nat}(h:(D.ren r).Au H):∃f,D.Au f/\r f=H:=by
 rcases h with h|h|⟨c,I,h⟩
 ·obtain⟨f,z,d⟩:=OK h;exact⟨f,.inl z,d⟩
 ·obtain⟨f,z,d⟩:=OK h;exact⟨f,.inr (.inl z),d⟩
 ·obtain⟨c0,E,rfl⟩:=Ct.1 I;obtain⟨f,z,d⟩:=OK h;exact⟨f,.inr (.inr ⟨c0,E,z⟩),d⟩
def Ren.Au{L M:List Nat}{es d:List AL}(h:Ren L M es d){f:Nat}(E:Df f es):∃(i:Nat) (m:Nat),L[i]?=some f/\M[i]?=some m:=by
 obtain⟨e,H,rfl⟩:=E;obtain⟨k,z,rfl⟩:=DU H;obtain⟨_,i,O,I⟩:=h.2 k z (by rw[h.1];exact z);exact⟨i,_,O,I⟩
def CR.e5{w wr:World}{b2 bo bm:Nat}{D:DS}{F:Nat->FC}{L M:List Nat}{vo vm v1 v2 vc:Value}{aD:Nat->Value}{O:List Value}{e1 e2:List AL}{cs:List (List AL)}(h:CR w.heap.size w wr b2 bo bm D F D.Av.length L M vo vm v1 v2 vc aD O e1 e2 cs):
 ∃r aE aB,Da wr b2 (D.ren r) aE aB/\(∀k,aB k->w.heap.size<=k/\k<wr.heap.size)/\A3 (λ_=>False) w wr/\(∀f,D.Au f->aE (r f)=F f)/\∀f d,D.Au f->D.Au d->r f=r d->f=d:=by
 have q1:=h.r1.eq h.Gz.I5;have q2:=h.r2.eq h.Gz.I5;have q3:cs=D.Av.map (ren (FD L M)):=by
  apply List.ext_getElem
  ·simp[h.cl]
  ·intro k h1 h2;rw[List.getElem_map];exact(h.Pg k h1 (by simpa using h2)).eq h.Gz.I5
 have X:∀f,D.Au f->∃(i:Nat) (m:Nat),L[i]?=some f/\M[i]?=some m:=by
  rintro f (H|H|⟨c,hc,H⟩)
  ·exact h.r1.Au H
  ·exact h.r2.Au H
  ·obtain⟨k,hk,rfl⟩:=DU hc;exact(h.Pg k (by rw[h.cl];exact hk) hk).Au H
 have E:∀f,D.Au f->FD M L (FD L M f)=f:=λf H=>by
  obtain⟨i,m,h1,h2⟩:=X f H;rw[KE L M i f m h.Gz.I5 h1 h2,KE M L i m f h.Gz.OW h2 h1]
 have W:∀d,(D.ren (FD L M)).Au d->∃i,∃hi:i<M.length,∃aA:i<L.length,M[i]'hi=d/\L[i]'aA=FD M L d:=λd z=>by
  obtain⟨f,h1,rfl⟩:=DS.cU z;obtain⟨i,m,h2,h3⟩:=X f h1;rw[E f h1,KE L M i f m h.Gz.I5 h2 h3];obtain⟨Y,k2⟩:=Hr.1 h2;obtain⟨k3,k4⟩:=Hr.1 h3;exact⟨i,k3,Y,k4,k2⟩
 have I:∀d,(D.ren (FD L M)).Au d->d∈M:=λd z=>by
  obtain⟨i,Y,_,k2,_⟩:=W d z;rw[<-k2];exact BV Y
 have hv:BY wr b2 (D.ren (FD L M)) (λm=>F (FD M L m)) v1 v2 vc O aD:=by
  refine⟨h.Af,?_,?_,?_,?_,?_,?_⟩
  ·have:=h.d1;rw[q1]at this;exact this
  ·have:=h.d2;rw[q2]at this;exact this
  ·have:=h.ch;simpa[DS.ren] using this
  ·intro i hi;(have aA:i<cs.length:=by rw[h.cl];simpa[DS.ren] using hi);obtain⟨v,Y,k2⟩:=h.D8 i aA;refine⟨v,Y,?_⟩;subst q3;exact k2
  ·intro d z;obtain⟨i,Y,k2,k3,k4⟩:=W d z;have:=h.Gz.BM i Y k2;rw[k3,k4]at this;exact this
  ·exact λf d g H z=>h.Gz.Gc f d g (I f H) (I d z)
 refine⟨FD L M,λm=>F (FD M L m),C7 b2 (D.ren (FD L M)) v1 v2 vc O aD,⟨_,_,_,_,_,hv,λ_ h=>h⟩,λk hk=>⟨?_,hv.lt hk⟩,h.Aj,λf H=>by simp only[E f H],λf d H z e=>by rw[<-E f H,<-E d z,e]⟩;cases hk using C7.bL with
 | Af=>exact h.nb
 | dir e=>exact h.Sm _ e
 | Ac e=>exact h.Sl _ e
 | Aj e=>exact h.Od _ e
 | D8 hm e=>exact h.Sk _ hm _ e
 | BM H=>exact h.Gz.Oh _ (I _ H)
 | byt H e=>exact h.Gz.Oi _ (I _ H) _ e
def A1B(w:World)(n:DN)(F:Nat->FC)(h:Nat->Value)(W:World)(d:W=(((w.alloc (.cells #[.slice none 0 0,.slice none 0 0,.slice none 0 0,.int .i64 n.AH,.int .i64 n.AZ,.int .i64 n.Cb,.int .i64 n.Cr,.int .i64 n.BJ,.int .i64 n.Bt,.int .i64 n.fulls,.bool n.AX] 95)).alloc (.cells #[.slice none 0 0] 138)).alloc (.cells #[.slice none 0 0] 138)).drew):
 CS w.heap.size W (w.heap.size+1) (w.heap.size+2) F [] [] (.slice none 0 0) (.slice none 0 0) h/\AK W w.heap.size (.slice none 0 0) (.slice none 0 0) (.slice none 0 0) n/\A3 (λ_=>False) w W:=by
 subst d;refine⟨⟨?_,?_,by omega,CD _ _ _ _,CD _ _ _ _,by simp[Value.ownBlock],by simp,by simp,by simp,by simp,by simp,by omega,by omega,by simp[Value.ownBlock],by simp[Value.ownBlock],by simp,by simp⟩,?_,(((A3.I _ w).ak _).ak _).ak _ |>.af⟩
 ·show ((((w.alloc _).alloc _).alloc _).heap[w.heap.size+1]?)=_;rw[Dc _ _ _ (by simp)];have:=BN (w.alloc (.cells #[.slice none 0 0,.slice none 0 0,.slice none 0 0,.int .i64 n.AH,.int .i64 n.AZ,.int .i64 n.Cb,.int .i64 n.Cr,.int .i64 n.BJ,.int .i64 n.Bt,.int .i64 n.fulls,.bool n.AX] 95)) (.cells #[.slice none 0 0] 138);rw[ML]at this;exact this
 ·show ((((w.alloc _).alloc _).alloc _).heap[w.heap.size+2]?)=_;have:=BN ((w.alloc (.cells #[.slice none 0 0,.slice none 0 0,.slice none 0 0,.int .i64 n.AH,.int .i64 n.AZ,.int .i64 n.Cb,.int .i64 n.Cr,.int .i64 n.BJ,.int .i64 n.Bt,.int .i64 n.fulls,.bool n.AX] 95)).alloc (.cells #[.slice none 0 0] 138)) (.cells #[.slice none 0 0] 138);rw[ML,ML]at this;exact this
 ·show ((((w.alloc _).alloc _).alloc _).heap[w.heap.size]?)=_;rw[Dc _ _ _ (by simp;omega),Dc _ _ _ (by simp)];exact BN _ _
def A1A{w W w2 z:World}{bo bm:Nat}{D:DS}{F:Nat->FC}{vo vm v1 v2 aI aD:Value}{aF aG aK:Nat->Value}{L M aM aL:List Nat}{e1 e2:List AL}(aH:CS w.heap.size W bo bm F [] [] (.slice none 0 0) (.slice none 0 0) aF)(hb:AK W w.heap.size (.slice none 0 0) (.slice none 0 0) (.slice none 0 0) D.n)(hc:A3 (λ_=>False) w W)(E:Ep w.heap.size W bo bm F [] [] (.slice none 0 0) (.slice none 0 0) aF D.A4 D.A4.length D.A4.length v1 w2 L M vo vm aG e1)(d:Ep w.heap.size w2 bo bm F L M vo vm aG D.AO D.AO.length D.AO.length v2 z aM aL aI aD aK e2):
 AK z w.heap.size (.slice none 0 0) (.slice none 0 0) (.slice none 0 0) D.n/\CR w.heap.size w ((z.setCell ⟨w.heap.size,0,none⟩ v1).setCell ⟨w.heap.size,1,none⟩ v2) w.heap.size bo bm D F 0 aM aL aI aD v1 v2 (.slice none 0 0) aK [] e1 e2 []:=by
 have X:=E.cs;have c2:=E.cI hc aH;have c3:=d.cI c2 X;have Y:AK w2 w.heap.size (.slice none 0 0) (.slice none 0 0) (.slice none 0 0) D.n:=(E.Aj.Ao _ hb.lt (aH.b7 hb (.inr (.inr rfl)))).trans hb;have aA:AK z w.heap.size (.slice none 0 0) (.slice none 0 0) (.slice none 0 0) D.n:=(d.Aj.Ao _ Y.lt (X.b7 Y (.inr (.inr rfl)))).trans Y;refine⟨aA,?_⟩;have aJ:=(aA.s0 v1).s1 v2;have aB:A3 (One w.heap.size) z ((z.setCell ⟨w.heap.size,0,none⟩ v1).setCell ⟨w.heap.size,1,none⟩ v2):=((A3.I (One w.heap.size) z).ao rfl 0 _).ao rfl 1 _;generalize hW4:(z.setCell ⟨w.heap.size,0,none⟩ v1).setCell ⟨w.heap.size,1,none⟩ v2=W4 at aJ aB ⊢;have h:∀(k:Nat) (c:Array Value) (e:Nat),z.heap[k]?=some (Obj.cells c e (0,0))->e≠95->W4.heap[k]?=z.heap[k]?:=λk c e hk he=>
  aB.Ao k (By hk) (λe2=>BS hk aA he e2)
 have d1:=Ay E.EL λg H=>by
  obtain⟨c,hh⟩:=Be E.EL H;exact d.Aj.Ao g (By hh) (X.b7 hh (.inl rfl))
 have sz:=hc.Ak;have sz2:=E.Aj.Ak;have aE:Ren aM aL D.A4 e1:=by
  obtain⟨o,I,_⟩:=d.Gu;obtain⟨o2,q2,_⟩:=d.JH;have:=E.ren;rw[C6]at this;rw[I,q2];exact this.aa
 refine⟨?_,aJ,?_,?_,aE,?_,CD _ _ _ _,rfl,by simp,by simp,?_,?_,?_,As _,?_,?_,by simp[Value.ownBlock],by simp⟩
 ·refine d.cs.aP (λk hk=>?_) (λk hk=>?_)
  ·obtain⟨c,e,I,q2,q3,q4⟩:=d.cs.cw (.inl hk);exact h _ _ _ I q4
  ·obtain⟨c,e,I,q2,q3,q4⟩:=d.cs.cw (.inr hk);exact h _ _ _ I q4
 ·exact Ay d1 λg H=>by
   obtain⟨c,hh⟩:=Be d1 H;exact h _ _ _ hh (by decide)
 ·exact Ay d.EL λg H=>by
   obtain⟨c,hh⟩:=Be d.EL H;exact h _ _ _ hh (by decide)
 ·have:=d.ren;rw[C6]at this;exact this
 ·obtain⟨o,I,q2,_⟩:=E.Gu;obtain⟨o2,q3,q4,_⟩:=d.Gu;rw[q3,I];simp;omega
 ·intro f O;obtain⟨o,I,_,q2⟩:=E.Gu;obtain⟨o2,q3,_,q4⟩:=d.Gu;rw[q3,I]at O;rcases AU.1 O with O|O
  ·simp at O;exact .inl (q2 f O)
  ·exact .inr (.inl (q4 f O))
 ·exact c3.Ap aB (λx hx hlt=>by have:x=w.heap.size:=hx;omega)
 ·intro g H;have:=E.AS g H;omega
 ·intro g H;have:=d.AS g H;omega
end
section
open Go.RowKit
def IQ(r:Nat->Nat)(es:List AL):(ren r es).length=es.length:=by simp[ren]
def Ro(r:Nat->Nat):ren r []=[]:=rfl
def LY(r:Nat->Nat)(a b:List AL):ren r (a++b)=ren r a++ren r b:=by simp[ren]
def XD(r:Nat->Nat)(es:List AL)(k:Nat):(ren r es).take k=ren r (es.take k):=by simp[ren,List.map_take]
def XF(r:Nat->Nat)(es:List AL)(k:Nat):(ren r es).drop k=ren r (es.drop k):=by simp[ren,List.map_drop]
def NU(r:Nat->Nat)(es:List AL)(name:ByteArray):B2 (ren r es) name=B2 es name:=by
 induction es with
 | nil=>rfl
 | cons e t ih=>simp only[ren,Hb,B2]at ih ⊢;rw[ih]
def JF(r:Nat->Nat)(es:List AL)(name:ByteArray):lookup (ren r es) name=(lookup es name).map r:=by
 induction es with
 | nil=>rfl
 | cons e t ih=>
  simp only[ren,Hb,lookup]at ih ⊢;by_cases h:e.1=name
  ·simp[h]
  ·simp[h,ih]
def Rp(r:Nat->Nat)(es:List AL)(k:Nat):(ren r es)[k]?=(es[k]?).map λe=>(e.1,r e.2):=by simp[ren]
def XE(r:Nat->Nat)(es:List AL)(i:Nat)(name:ByteArray)(k:Nat):Dk (ren r es) i name k=ren r (Dk es i name k):=by
 induction k with
 | zero=>rfl
 | succ k ih=>
  simp only[Dk,ih,Rp,LY];cases es[k]? with
  | none=>simp[Ro]
  | some e=>
   simp only[HL];by_cases h:k≠i/\e.1≠name
   ·rw[Ah h,Ah h];rfl
   ·rw[Ad h,Ad h,Ro]
def XG(r:Nat->Nat)(es:List AL)(k:Nat):EE (ren r es) k=EE es k:=by
 induction k with
 | zero=>rfl
 | succ k ih=>
  simp only[EE,ih,Rp];cases es[k]?<;>rfl
def Rq(r:Nat->Nat)(es:List AL):dList (ren r es)=dList es:=by unfold dList;rw[IQ,XG]
def Qr(r:Nat->Nat)(G F:Nat->FC)(es:List AL)(h:∀f,Df f es->G (r f)=F f):B4 G (ren r es)=B4 F es:=by
 induction es with
 | nil=>rfl
 | cons e t ih=>
  have H:=h e.2 ⟨e,by simp,rfl⟩;have d:=ih λf z=>h f (by obtain⟨x,I,E⟩:=z;exact⟨x,Bx _ I,E⟩);simp only[ren,Hb,B4]at d ⊢;rw[H,d]
def T2{es:List AL}{name:ByteArray}{f:Nat}(h:lookup es name=some f):Df f es:=by
 induction es with
 | nil=>cases h
 | cons e t ih=>
  simp only[lookup]at h;by_cases d:e.1=name
  ·simp[d]at h;exact⟨e,by simp,h⟩
  ·simp[d]at h;obtain⟨x,E,z⟩:=ih h;exact⟨x,Bx _ E,z⟩
def ren_congr{r d:Nat->Nat}{es:List AL}(h:∀f,Df f es->d f=r f):ren d es=ren r es:=by
 unfold ren;exact N1 λe z=>by rw[h e.2 ⟨e,z,rfl⟩]
def DS.ren_congr{r z:Nat->Nat}{D:DS}(h:∀f,D.Au f->z f=r f):D.ren z=D.ren r:=by
 unfold DS.ren;rw[Go.Proofs.YtodcnkbblippnaaGreatDoor.ren_congr λf d=>h f (.inl d),Go.Proofs.YtodcnkbblippnaaGreatDoor.ren_congr (es:=D.AO) λf d=>h f (.inr (.inl d))]
 congr 1
 exact N1 λc E=>Go.Proofs.YtodcnkbblippnaaGreatDoor.ren_congr λf d=>h f (.inr (.inr ⟨c,E,d⟩))
def B3(w:World)(b:Nat)(D:DS)(F:Nat->FC)(Ft:Nat->Prop):Prop:=
 ∃r G,Da w b (D.ren r) G Ft/\(∀f,D.Au f->G (r f)=F f)/\∀f d,D.Au f->D.Au d->r f=r d->f=d
def Ev(w:World)(Ft:Nat->Prop)(w':World)(b:Nat)(D':DS)(F':Nat->FC):Prop:=
 A3 Ft w w'/\∃d,B3 w' b D' F' d/\(∀k,d k->k<w'.heap.size)/\∀k,d k->Ft k\/w.heap.size<=k
def B3.aP{w w':World}{b:Nat}{D:DS}{F:Nat->FC}{Ft:Nat->Prop}(h:B3 w b D F Ft)(H:FW Ft w w'):B3 w' b D F Ft:=by
 obtain⟨r,G,z,d,E⟩:=h;exact⟨r,G,z.aP H,d,E⟩
def B3.Af{w:World}{b:Nat}{D:DS}{F:Nat->FC}{Ft:Nat->Prop}(h:B3 w b D F Ft):∃E z d,AK w b E z d D.n:=by
 obtain⟨r,G,⟨E,z,d,vals,VB,H,_⟩,_⟩:=h;exact⟨E,z,d,H.Af⟩
def B3.of{w:World}{b:Nat}{D:DS}{F:Nat->FC}{Ft:Nat->Prop}(h:Da w b D F Ft):B3 w b D F Ft:=by
 refine⟨id,F,?_,λ_ _=>rfl,λ_ _ _ _ h=>h⟩;have:D.ren id=D:=by
  have e:∀es,Go.Proofs.YtodcnkbblippnaaGreatDoor.ren id es=es:=λes=>by simp[Go.Proofs.YtodcnkbblippnaaGreatDoor.ren]
  have d:=funext e;unfold DS.ren;rw[d];simp
 rw[this];exact h
def Dq.bk{w w':World}{Ft:Nat->Prop}{b:Nat}{H D':DS}{E F':Nat->FC}{r:Nat->Nat}(h:Dq w Ft w' b H E)(L:H=D'.ren r)(hG:∀f,D'.Au f->E (r f)=F' f)(Y:∀f z,D'.Au f->D'.Au z->r f=r z->f=z):Ev w Ft w' b D' F':=by
 obtain⟨W,d,I,X,O⟩:=h;subst L;exact⟨W,d,⟨r,E,I,hG,Y⟩,X,O⟩
def K2(D:DS)(r:Nat->Nat):(D.ren r).A4.length=D.A4.length/\(D.ren r).AO.length=D.AO.length/\(D.ren r).Av.length=D.Av.length/\IK (D.ren r).Av=IK D.Av:=by
 refine⟨IQ _ _,IQ _ _,by simp[DS.ren],?_⟩;unfold IK DS.ren;rw[Ve]
 congr 1
 exact N1 λc _=>IQ r c
section
variable {w:World} {b:Nat} {D:DS} {F:Nat->FC} {Ft:Nat->Prop}
def YY(room:Int)(w:World):
 Ag 21 #[A0 room] w (Al (A5 w.heap.size) λw'=>B3 w' w.heap.size ⟨[],[],[],K4 room⟩ F (One w.heap.size)/\A3 Ab w w'/\w'.heap.size=w.heap.size+1):=by
 refine(YX room w).mono ?_;rintro e w'⟨L,z,O,I⟩;refine⟨L,B3.of ⟨_,_,_,[],λ_=>.slice none 0 0,⟨z,CD _ _ _ _,CD _ _ _ _,CD _ _ _ _,by intro i W;simp at W,?_,?_⟩,?_⟩,I,O⟩
 ·rintro f (⟨e,d,_⟩|⟨e,d,_⟩|⟨c,h,_⟩)
  ·cases d
  ·cases d
  ·cases h
 ·intro f f' g _ _ E;simp[Value.ownBlock]at E
 ·intro k H;cases H using C7.bL with
  | Af=>rfl
  | dir e=>simp[Value.ownBlock]at e
  | Ac e=>simp[Value.ownBlock]at e
  | Aj e=>simp[Value.ownBlock]at e
  | D8 hm e=>cases hm
  | BM hf=>rcases hf with⟨e,d,_⟩|⟨e,d,_⟩|⟨c,h,_⟩<;>contradiction
  | byt hf e=>simp[Value.ownBlock]at e
def Wi(h:B3 w b D F Ft):
 Ag 86 #[A5 b] w (Al (A0 (DH D).1) λw'=>Ev w Ft w' b (DH D).2 F):=by
 obtain⟨r,G,Y,O,h3⟩:=h;refine(Wh w b _ G Ft Y).mono ?_;rintro e w'⟨X,q2⟩;have W:(DH (D.ren r)).2=(DH D).2.ren r:=by
  unfold DH;by_cases H:(bg D.n).2.1=0
  ·have E:(bg (D.ren r).n).2.1=0:=H;rw[Ah H,Ah E];rfl
  ·have E:¬(bg (D.ren r).n).2.1=0:=H;rw[Ad H,Ad E];rfl
 have z:∀f,(DH D).2.Au f->D.Au f:=by
  intro f d;unfold DH at d;simp only at d;split at d
  ·rcases d with d|d|⟨c,hc,_⟩
   ·exact .inl d
   ·exact .inl d
   ·cases hc
  ·exact d
 exact⟨X,q2.bk W (λf d=>O f (z f d)) λf L d I=>h3 f L (z f d) (z L I)⟩
def FQ{name:ByteArray}{f:Nat}(h:lookup D.A4 name=some f):D.Au f:=.inl (T2 h)
def Qy(h:B3 w b D F Ft)(name:ByteArray):
 Ag 85 #[A5 b,.string name] w (Al (A0 (CA D F name).1) λw'=>Ev w Ft w' b (CA D F name).2.1 (CA D F name).2.2):=by
 obtain⟨r,G,h1,H,Y⟩:=h;refine(Wf w b _ G Ft h1 name).mono ?_;rintro e w'⟨L,W⟩;have O:lookup (D.ren r).A4 name=(lookup D.A4 name).map r:=JF r D.A4 name;cases hx:lookup D.A4 name with
 | none=>
  rw[hx]at O;have e1:CA (D.ren r) G name=(8,D.ren r,G):=by unfold CA;rw[O];rfl
  have X:CA D F name=(8,D,F):=by unfold CA;rw[hx]
  rw[e1]at L W;rw[X];exact⟨L,W.bk rfl H Y⟩
 | some f=>
  rw[hx]at O;have e1:CA (D.ren r) G name=((bg D.n).2.1,{D with n:=(bg D.n).2.2}.ren r,if (bg D.n).2.1=0 then upd G (r f) ((G (r f)).1,(G (r f)).1.length) else G):=by unfold CA;rw[O];rfl
  have X:CA D F name=((bg D.n).2.1,{D with n:=(bg D.n).2.2},if (bg D.n).2.1=0 then upd F f ((F f).1,(F f).1.length) else F):=by unfold CA;rw[hx]
  rw[e1]at L W;rw[X];refine⟨L,W.bk rfl (λd z=>?_) Y⟩;have hf:=FQ hx;show (if (bg D.n).2.1=0 then upd G (r f) ((G (r f)).1,(G (r f)).1.length) else G) (r d)=(if (bg D.n).2.1=0 then upd F f ((F f).1,(F f).1.length) else F) d;by_cases I:(bg D.n).2.1=0
  ·rw[Ah I,Ah I];unfold upd;by_cases E:d=f
   ·subst E;simp[H d hf]
   ·have:r d≠r f:=λe=>E (Y d f z hf e);simp only[this,E,C4];exact H d z
  ·rw[Ad I,Ad I];exact H d z
def Nu{r:Nat->Nat}{G:Nat->FC}(H:∀f,D.Au f->G (r f)=F f)(I:∀f d,D.Au f->D.Au d->r f=r d->f=d){f:Nat}(E:D.Au f)(c:FC):∀d,D.Au d->upd G (r f) c (r d)=upd F f c d:=λd z=>by
 unfold upd;by_cases h:d=f
 ·subst h;simp
 ·have:r d≠r f:=λe=>h (I d f z E e);simp only[this,h,C4];exact H d z
def TW{r:Nat->Nat}{G:Nat->FC}(L:∀f,D.Au f->G (r f)=F f)(O:∀f d,D.Au f->D.Au d->r f=r d->f=d){f:Nat}(I:D.Au f)(data:ByteArray)(h e:Int):
 (BA (D.ren r) G (r f) data h e).1=(BA D F f data h e).1/\(BA (D.ren r) G (r f) data h e).2.1=(BA D F f data h e).2.1.ren r/\(∀d,D.Au d->(BA (D.ren r) G (r f) data h e).2.2 (r d)=(BA D F f data h e).2.2 d)/\(∀d,(BA D F f data h e).2.1.Au d↔D.Au d):=by
 have H:FU (D.ren r) G=FU D F:=by
  unfold FU;have:B4 G (D.ren r).A4=B4 F D.A4:=Qr r G F D.A4 λf I=>L f (.inl I);rw[this];rfl
 unfold BA;rw[H];by_cases W:h>FU D F
 ·simp only[W,Cg];rw[L f I];refine⟨by first|trivial|rfl,?_,λd E=>Nu L O I _ d E,λd=>?_⟩
  ·by_cases z:e=0
   ·rw[Ah z,Ah z];rfl
   ·rw[Ad z,Ad z]
  ·by_cases z:e=0
   ·rw[Ah z];exact Iff.rfl
   ·rw[Ad z]
 ·simp only[W,C4];rw[L f I];exact⟨by first|trivial|rfl,by first|trivial|rfl,λd E=>Nu L O I _ d E,λ_=>by first|trivial|exact Iff.rfl⟩
def A2H(h:B3 w b D F Ft)(name data:ByteArray)(hroom : -4611686018427387904<=D.n.AH/\D.n.AH<=9223372036854775807)(hu:B4 F D.A4<=4611686018427387904)(hp:0<=D.n.BJ/\D.n.BJ<=9223372036854775807)(hl:∀f,lookup D.A4 name=some f->(F f).1.length+data.size<=70368744177664):
 Ag 84 #[A5 b,.string name,.string data] w (Al (A0 (Bp D F name data).1) λw'=>Ev w Ft w' b (Bp D F name data).2.1 (Bp D F name data).2.2):=by
 obtain⟨r,G,h1,h2,h3⟩:=h;have z:lookup (D.ren r).A4 name=(lookup D.A4 name).map r:=JF r D.A4 name
 refine(A2G w b _ G Ft h1 name data hroom (by
  have:B4 G (D.ren r).A4=B4 F D.A4:=Qr r G F D.A4 λf O=>h2 f (.inl O)
  rw[this];exact hu) hp (λf O=>by
   rw[z]at O;cases hx:lookup D.A4 name with
   | none=>rw[hx]at O;cases O
   | some f0=>
    rw[hx]at O;simp at O;subst O
    rw[h2 f0 (FQ hx)];exact hl f0 hx)).mono ?_
 rintro e w'⟨L,W⟩;cases hx:lookup D.A4 name with
 | none=>
  rw[hx]at z;have Y:Bp (D.ren r) G name data=(8,D.ren r,G):=by unfold Bp;rw[z];rfl
  have X:Bp D F name data=(8,D,F):=by unfold Bp;rw[hx]
  rw[Y]at L W;rw[X];exact⟨L,W.bk rfl h2 h3⟩
 | some f=>
  rw[hx]at z;have O:=FQ hx;have aA:=O;by_cases c1:(bg D.n).1=true
  ·have Y:Bp (D.ren r) G name data=BA ({D with n:=(bg D.n).2.2}.ren r) G (r f) data data.size (bg D.n).2.1:=by
    unfold Bp;rw[z];show (if (bg D.n).1=true then _ else _)=_;rw[Ah c1];rfl
   have X:Bp D F name data=BA {D with n:=(bg D.n).2.2} F f data data.size (bg D.n).2.1:=by
    unfold Bp;rw[hx];show (if (bg D.n).1=true then _ else _)=_;rw[Ah c1]
   rw[Y]at L W;rw[X];obtain⟨k1,k2,k3,k4⟩:=TW (D:={D with n:=(bg D.n).2.2}) (r:=r) (G:=G) (F:=F) h2 h3 aA data data.size (bg D.n).2.1;rw[k1]at L;exact⟨L,W.bk k2 (λE d=>k3 E ((k4 E).1 d)) λE I d H=>h3 E I ((k4 E).1 d) ((k4 I).1 H)⟩
  ·by_cases c2:(bg D.n).2.2.AX=false/\0<data.size
   ·have Y:Bp (D.ren r) G name data=BA ({D with n:=(bg D.n).2.2}.ren r) G (r f) data ((bg D.n).2.2.BJ % data.size) (bg D.n).2.1:=by
     unfold Bp;rw[z];show (if (bg D.n).1=true then _ else if (bg D.n).2.2.AX=false/\0<data.size then _ else _)=_;rw[Ad c1,Ah c2];rfl
    have X:Bp D F name data=BA {D with n:=(bg D.n).2.2} F f data ((bg D.n).2.2.BJ % data.size) (bg D.n).2.1:=by
     unfold Bp;rw[hx];show (if (bg D.n).1=true then _ else if (bg D.n).2.2.AX=false/\0<data.size then _ else _)=_;rw[Ad c1,Ah c2]
    rw[Y]at L W;rw[X];obtain⟨k1,k2,k3,k4⟩:=TW (D:={D with n:=(bg D.n).2.2}) (r:=r) (G:=G) (F:=F) h2 h3 aA data ((bg D.n).2.2.BJ % data.size) (bg D.n).2.1;rw[k1]at L;exact⟨L,W.bk k2 (λE d=>k3 E ((k4 E).1 d)) λE I d H=>h3 E I ((k4 E).1 d) ((k4 I).1 H)⟩
   ·have Y:Bp (D.ren r) G name data=((bg D.n).2.1,{D with n:=(bg D.n).2.2}.ren r,G):=by
     unfold Bp;rw[z];show (if (bg D.n).1=true then _ else if (bg D.n).2.2.AX=false/\0<data.size then _ else _)=_;rw[Ad c1,Ad c2];rfl
    have X:Bp D F name data=((bg D.n).2.1,{D with n:=(bg D.n).2.2},F):=by
     unfold Bp;rw[hx];show (if (bg D.n).1=true then _ else if (bg D.n).2.2.AX=false/\0<data.size then _ else _)=_;rw[Ad c1,Ad c2]
    rw[Y]at L W;rw[X];exact⟨L,W.bk rfl h2 h3⟩
def JW{es:List AL}{n:DN}(z:∀f,Df f es->D.Au f)(f:Nat)(d:({D with A4:=es,Av:=D.Av++[es],n:=n}:DS).Au f):D.Au f:=by
 rcases d with d|d|⟨c,h,d⟩
 ·exact z f d
 ·exact .inr (.inl d)
 ·rcases AU.1 h with h|h
  ·exact .inr (.inr ⟨c,h,d⟩)
  ·simp at h;subst h;exact z f d
def Nw(r:Nat->Nat)(es:List AL)(n:DN):({D.ren r with A4:=ren r es,Av:=(D.ren r).Av++[ren r es],n:=n}:DS)=({D with A4:=es,Av:=D.Av++[es],n:=n}:DS).ren r:=by
 simp[DS.ren]
def XL(h:B3 w b D F Ft)(name:ByteArray)(hs:D.A4.length<1099511627776/\D.Av.length<1099511627776):
 Ag 193 #[A5 b,.string name] w (Al (A0 (Dg D name).1) λw'=>Ev w Ft w' b (Dg D name).2 F):=by
 obtain⟨r,G,h1,X,h3⟩:=h;obtain⟨l1,l2,l3,l4⟩:=K2 D r;refine(XK w b _ G Ft h1 name (by rw[l1,l3];exact hs)).mono ?_;rintro e w'⟨H,I⟩;have E:B2 (D.ren r).A4 name=B2 D.A4 name:=NU r D.A4 name;by_cases c1:B2 D.A4 name<0
 ·have W:Dg (D.ren r) name=(8,D.ren r):=by unfold Dg;rw[E,Ah c1]
  have L:Dg D name=(8,D):=by unfold Dg;rw[Ah c1]
  rw[W]at H I;rw[L];exact⟨H,I.bk rfl X h3⟩
 ·by_cases c2:(bg D.n).1=true
  ·have L:Dg D name=((bg D.n).2.1,{D with A4:=D.A4.take (B2 D.A4 name).toNat++D.A4.drop ((B2 D.A4 name).toNat+1),Av:=D.Av++[D.A4.take (B2 D.A4 name).toNat++D.A4.drop ((B2 D.A4 name).toNat+1)],n:=(bg D.n).2.2}):=by
    unfold Dg;rw[Ad c1];simp only[c2,Cg]
   have W:Dg (D.ren r) name=((bg D.n).2.1,{D with A4:=D.A4.take (B2 D.A4 name).toNat++D.A4.drop ((B2 D.A4 name).toNat+1),Av:=D.Av++[D.A4.take (B2 D.A4 name).toNat++D.A4.drop ((B2 D.A4 name).toNat+1)],n:=(bg D.n).2.2}.ren r):=by
    have d:(bg (D.ren r).n).1=true:=c2;unfold Dg;rw[E,Ad c1];simp only[d,Cg];rw[<-Nw,LY,<-XD,<-XF];rfl
   rw[W]at H I;rw[L];have z:∀f,Df f (D.A4.take (B2 D.A4 name).toNat++D.A4.drop ((B2 D.A4 name).toNat+1))->D.Au f:=by
    rintro f⟨x,O,he⟩;rcases AU.1 O with O|O
    ·exact .inl ⟨x,IB O,he⟩
    ·exact .inl ⟨x,Lu O,he⟩
   exact⟨H,I.bk rfl (λf hf=>X f (JW z f hf)) λf f' hf Y=>h3 f f' (JW z f hf) (JW z f' Y)⟩
  ·(have L:Dg D name=((bg D.n).2.1,{D with n:=(bg D.n).2.2}):=by unfold Dg;rw[Ad c1];simp only[c2];rfl);have W:Dg (D.ren r) name=((bg D.n).2.1,{D with n:=(bg D.n).2.2}.ren r):=by
    have d:¬(bg (D.ren r).n).1=true:=c2;unfold Dg;rw[E,Ad c1];simp only[d];rfl
   rw[W]at H I;rw[L];exact⟨H,I.bk rfl X h3⟩
def XB(h:B3 w b D F Ft)(old name:ByteArray)(hs:D.A4.length<1099511627776/\D.Av.length<1099511627776):
 Ag 242 #[A5 b,.string old,.string name] w (Al (A0 (CQ D old name).1) λw'=>Ev w Ft w' b (CQ D old name).2 F):=by
 obtain⟨r,G,h1,Y,h3⟩:=h;obtain⟨l1,l2,l3,l4⟩:=K2 D r;refine(XA w b _ G Ft h1 old name (by rw[l1,l3];exact hs)).mono ?_;rintro e w'⟨E,H⟩;have z:lookup (D.ren r).A4 old=(lookup D.A4 old).map r:=JF r D.A4 old;cases hx:lookup D.A4 old with
 | none=>
  rw[hx]at z;have W:CQ (D.ren r) old name=(8,D.ren r):=by unfold CQ;rw[z];rfl
  have L:CQ D old name=(8,D):=by unfold CQ;rw[hx]
  rw[W]at E H;rw[L];exact⟨E,H.bk rfl Y h3⟩
 | some f=>
  rw[hx]at z;by_cases c1:name=ByteArray.empty
  ·(have W:CQ (D.ren r) old name=(8,D.ren r):=by unfold CQ;rw[z];simp only[HL];rw[Ah c1]);(have L:CQ D old name=(8,D):=by unfold CQ;rw[hx];simp only;rw[Ah c1]);rw[W]at E H;rw[L];exact⟨E,H.bk rfl Y h3⟩
  ·by_cases c2:(bg D.n).1=true
   ·have L:CQ D old name=((bg D.n).2.1,{D with A4:=Dk D.A4 (B2 D.A4 old).toNat name D.A4.length++[(name,f)],Av:=D.Av++[Dk D.A4 (B2 D.A4 old).toNat name D.A4.length++[(name,f)]],n:=(bg D.n).2.2}):=by
     unfold CQ;rw[hx];simp only;rw[Ad c1];simp only[c2,Cg]
    have W:CQ (D.ren r) old name=((bg D.n).2.1,{D with A4:=Dk D.A4 (B2 D.A4 old).toNat name D.A4.length++[(name,f)],Av:=D.Av++[Dk D.A4 (B2 D.A4 old).toNat name D.A4.length++[(name,f)]],n:=(bg D.n).2.2}.ren r):=by
     have I:(bg (D.ren r).n).1=true:=c2;have aB:B2 (D.ren r).A4 old=B2 D.A4 old:=NU r D.A4 old;unfold CQ;rw[z];simp only[HL];rw[Ad c1];simp only[I,Cg];rw[<-Nw,LY,<-XE,aB,l1];rfl
    rw[W]at E H;rw[L];have O:∀X,Df X (Dk D.A4 (B2 D.A4 old).toNat name D.A4.length++[(name,f)])->D.Au X:=by
     rintro X⟨x,d,he⟩;rcases AU.1 d with d | d
     ·exact .inl ⟨x,LZ _ _ _ _ x d,he⟩
     ·simp at d;subst d;cases he;exact FQ hx
    exact⟨E,H.bk rfl (λf hf=>Y f (JW O f hf)) λf X hf aA=>h3 f X (JW O f hf) (JW O X aA)⟩
   ·(have L:CQ D old name=((bg D.n).2.1,{D with n:=(bg D.n).2.2}):=by unfold CQ;rw[hx];simp only;rw[Ad c1];simp only[c2];rfl);have W:CQ (D.ren r) old name=((bg D.n).2.1,{D with n:=(bg D.n).2.2}.ren r):=by
     have I:¬(bg (D.ren r).n).1=true:=c2;unfold CQ;rw[z];simp only[HL];rw[Ad c1];simp only[I];rfl
    rw[W]at E H;rw[L];exact⟨E,H.bk rfl Y h3⟩
def A1o(h:B3 w b D F Ft)(name:ByteArray)(k:Nat)(hk:¬D.Au k)(hs:D.A4.length<1099511627776/\D.Av.length<1099511627776):
 Calls Tryz.prog 83 #[.pointer (some ⟨b,0,none⟩),.string name] w λe w'=>e=.returned (.int .i64 (CM D name k).1)/\Ev w Ft w' b (CM D name k).2 (upd F k ([],0)):=by
 obtain⟨r,G,h1,h2,h3⟩:=h;obtain⟨l1,l2,l3,l4⟩:=K2 D r;have L:∀f,D.Au f->r f<w.heap.size:=by
  obtain⟨vd,vs,vc,vals,VB,hr,_⟩:=h1;intro f d;refine hr.lt (.BM ?_);rcases d with⟨x,E,rfl⟩|⟨x,E,rfl⟩|⟨c,I,x,E,rfl⟩
  ·exact .inl ⟨_,DT E,rfl⟩
  ·exact .inr (.inl ⟨_,DT E,rfl⟩)
  ·exact .inr (.inr ⟨_,DT I,_,DT E,rfl⟩)
 refine(A1n w b _ G Ft h1 name (by rw[l1,l3];exact hs)).mono ?_;rintro e w'⟨f0,q0,Y,q2⟩;have X:B2 (D.ren r).A4 name=B2 D.A4 name:=NU r D.A4 name;have hG:∀f,D.Au f->upd G f0 ([],0) (r f)=upd F k ([],0) f:=λf d=>by
  unfold upd;have n1:r f≠f0:=by have:=L f d;omega
  have n2:f≠k:=λe=>hk (e ▸ d);simp only[n1,n2,C4];exact h2 f d
 by_cases c1:name=ByteArray.empty\/B2 D.A4 name≥0
 ·have e1:CM (D.ren r) name f0=(8,D.ren r):=by unfold CM;rw[X,Ah c1]
  have e2:CM D name k=(8,D):=by unfold CM;rw[Ah c1]
  rw[e1]at Y q2;rw[e2];exact⟨Y,q2.bk rfl hG h3⟩
 ·by_cases c2:(bg D.n).1=true
  ·have e2:CM D name k=((bg D.n).2.1,{D with A4:=D.A4++[(name,k)],Av:=D.Av++[D.A4++[(name,k)]],n:=(bg D.n).2.2}):=by
    unfold CM;rw[Ad c1];simp only[c2,Cg]
   have z:∀f,D.Au f->(λf=>if f=k then f0 else r f) f=r f:=λf d=>by
    have n2:f≠k:=λe=>hk (e ▸ d);simp only[n2,C4]
   have aA:D.ren (λf=>if f=k then f0 else r f)=D.ren r:=DS.ren_congr z;have e1:CM (D.ren r) name f0=((bg D.n).2.1,{D with A4:=D.A4++[(name,k)],Av:=D.Av++[D.A4++[(name,k)]],n:=(bg D.n).2.2}.ren (λf=>if f=k then f0 else r f)):=by
    have W:(bg (D.ren r).n).1=true:=c2;unfold CM;rw[X,Ad c1];simp only[W,Cg];rw[<-Nw,aA,LY];have e3:ren (λf=>if f=k then f0 else r f) D.A4=(D.ren r).A4:=by
     have:=Ei DS.A4 aA;exact this
    rw[e3];(have e4:ren (λf=>if f=k then f0 else r f) [(name,k)]=[(name,f0)]:=by simp[ren]);rw[e4];rfl
   rw[e1]at Y q2;rw[e2];have H:∀f,({D with A4:=D.A4++[(name,k)],Av:=D.Av++[D.A4++[(name,k)]],n:=(bg D.n).2.2}:DS).Au f->D.Au f\/f=k:=by
    have key:∀f,Df f (D.A4++[(name,k)])->D.Au f\/f=k:=by
     rintro f⟨x,E,rfl⟩;rcases AU.1 E with E|E
     ·exact .inl (.inl ⟨x,E,rfl⟩)
     ·simp at E;subst E;exact .inr rfl
    rintro f (d|d|⟨c,I,d⟩)
    ·exact key f d
    ·exact .inl (.inr (.inl d))
    ·rcases AU.1 I with I|I
     ·exact .inl (.inr (.inr ⟨c,I,d⟩))
     ·simp at I;subst I;exact key f d
   refine⟨Y,q2.bk rfl (λf d=>?_) λf f' d aB e=>?_⟩
   ·rcases H f d with h|h
    ·simp only[z f h];exact hG f h
    ·subst h;simp[upd]
   ·rcases H f d with h|h<;>rcases H f' aB with O | O
    ·simp only[z f h,z f' O]at e;exact h3 f f' h O e
    ·subst O;simp only[z f h,Cg]at e;have:=L f h;omega
    ·subst h;simp only[z f' O,Cg]at e;have:=L f' O;omega
    ·rw[h,O]
  ·(have e2:CM D name k=((bg D.n).2.1,{D with n:=(bg D.n).2.2}):=by unfold CM;rw[Ad c1];simp only[c2];rfl);have e1:CM (D.ren r) name f0=((bg D.n).2.1,{D with n:=(bg D.n).2.2}.ren r):=by
    have W:¬(bg (D.ren r).n).1=true:=c2;unfold CM;rw[X,Ad c1];simp only[W];rfl
   rw[e1]at Y q2;rw[e2];exact⟨Y,q2.bk rfl hG h3⟩
def XW(h:B3 w b D F Ft)(name:ByteArray)(p n:Int):
 Ag 82 #[A5 b,.string name,A0 p,A0 n] w (Al (.tuple #[.string ⟨(F4 D F name p n).1.toArray⟩,A0 (F4 D F name p n).2]) λw'=>w=w'):=by
 obtain⟨r,G,H,E,h3⟩:=h;have d:lookup (D.ren r).A4 name=(lookup D.A4 name).map r:=JF r D.A4 name;have z:F4 (D.ren r) G name p n=F4 D F name p n:=by
  unfold F4;rw[d];cases hx:lookup D.A4 name with
  | none=>rfl
  | some f=>simp only[HL,E f (FQ hx)]
 have:=XV w b _ G Ft H name p n
 rwa [z]at this
def ND(h:B3 w b D F Ft)(name:ByteArray):
 Ag 81 #[A5 b,.string name] w (Al (.tuple #[A0 (CC D F name).1,A0 (CC D F name).2]) λw'=>w=w'):=by
 obtain⟨r,G,W,I,h3⟩:=h;have z:lookup (D.ren r).A4 name=(lookup D.A4 name).map r:=JF r D.A4 name;have H:CC (D.ren r) G name=CC D F name:=by
  unfold CC;rw[z];cases hx:lookup D.A4 name with
  | none=>rfl
  | some f=>simp only[HL,I f (FQ hx)]
 obtain⟨Y,L,E,d,X,O,_⟩:=W;have:=WX w b _ G Y L E d X O name
 rwa [H]at this
def Zr(h:B3 w b D F Ft)(H:D.A4.length<1099511627776):
 Ag 76 #[A5 b] w λe w'=>∃v,e=.returned v/\w'.ownsRow 0 9 1 v D.A4.length (Fy (dList D.A4))/\A3 Ab w w'/\(∀g,v.ownBlock=some g->w.heap.size<=g):=by
 obtain⟨r,G,E,h2,h3⟩:=h;obtain⟨d,l2,l3,l4⟩:=K2 D r;have:=Ov w b _ G Ft E (by rw[d];exact H);have z:dList (D.ren r).A4=dList D.A4:=Rq r D.A4
 rwa [d,z]at this
def A1d(h:B3 w b D F Ft):Ag 36 #[A5 b] w (Al (.bool D.n.AX) λw'=>w=w'):=by
 obtain⟨E,z,d,h⟩:=h.Af;exact A1c w b E z d D.n h
def Rw(h:B3 w b D F Ft):Ag 50 #[A5 b] w (Al (A0 D.n.Bt) λw'=>w=w'):=by
 obtain⟨E,z,d,h⟩:=h.Af;exact XO w b E z d D.n h
def TX(h:B3 w b D F Ft)(c:Int):Ag 35 #[A5 b,A0 c] w (Al (.tuple #[]) λw'=>Ev w Ft w' b {D with n:={D.n with Cb:=if c>0 then wrap64 (D.n.AZ+c) else 0}} F):=by
 obtain⟨r,G,⟨Y,H,E,vals,VB,d,z⟩,I,O⟩:=h;refine(A1k w b Y H E D.n c d.Af).mono ?_;rintro e w'⟨L,X,W⟩;exact⟨L,(d.bP z X W).bk (D':={D with n:={D.n with Cb:=if c>0 then wrap64 (D.n.AZ+c) else 0}}) rfl I O⟩
def TM(h:B3 w b D F Ft)(c p:Int):Ag 78 #[A5 b,A0 c,A0 p] w (Al (.tuple #[]) λw'=>Ev w Ft w' b {D with n:=Eh D.n c p} F):=by
 obtain⟨r,G,⟨W,E,X,vals,VB,d,L⟩,z,O⟩:=h;refine(A0W w b W E X D.n c p d.Af).mono ?_;rintro e w'⟨H,Y,I⟩;exact⟨H,(d.bP L Y I).bk (D':={D with n:=Eh D.n c p}) rfl z O⟩
def U3(r:Nat->Nat)(D:DS)(d:Int):FV (D.ren r) d=ren r (FV D d):=by
 unfold FV;have:(D.ren r).Av.length=D.Av.length:=by simp[DS.ren]
 rw[this];cases Fi d D.Av.length with
 | zero=>rfl
 | succ k=>
  show (D.Av.map (ren r)).getD k []=ren r (D.Av.getD k []);rw[HP,HP,PO];cases D.Av[k]?<;>rfl
def P8(D:DS)(d:Int)(f:Nat)(h:Df f (FV D d)):D.Au f:=by
 unfold FV at h;split at h
 ·exact .inr (.inl h)
 ·rename_i k _;rw[HP]at h;cases hx:D.Av[k]? with
  | none=>rw[hx]at h;obtain⟨e,z,_⟩:=h;cases z
  | some c=>rw[hx]at h;exact .inr (.inr ⟨c,Lv hx,h⟩)
def A1w{r:Nat->Nat}{G:Nat->FC}(I:∀f,D.Au f->G (r f)=F f)(L:∀f E,D.Au f->D.Au E->r f=r E->f=E){es:List AL}(z:∀f,Df f es->D.Au f)(H:List Int)(names:List ByteArray)(k:Nat):
 ∀f,D.Au f->DO (ren r es) H names G k (r f)=DO es H names F k f:=by
 induction k with
 | zero=>exact I
 | succ k ih=>
  intro f h;simp only[DO];cases names[k]? with
  | none=>exact ih f h
  | some name=>
   simp only[JF];cases hx:lookup es name with
   | none=>exact ih f h
   | some f0=>
    have d:=z f0 (T2 hx);simp only[HL,ih f0 d];exact Nu ih L d _ f h
def A1u(h:B3 w b D F Ft)(d:Int)(W:Value)(I:List Int)(ht:Jq w W I)(aB:∀ad n c x,n≠0->W=.slice ad n c->ad=some x->¬Ft x.block)(O:D.A4.length<1099511627776/\D.AO.length<1099511627776/\D.Av.length<1099511627776/\∀c∈D.Av,c.length<1099511627776)(hdi : -9223372036854775808<=d/\d<=9223372036854775807)(aA:∀t∈I,-9223372036854775808<=t/\t<=9223372036854775807)(hF:∀f,D.Au f->0<=(F f).2/\(F f).2<=(F f).1.length/\(F f).1.length<=1099511627776):
 Ag 32 #[A5 b,A0 d,W] w (Al (.tuple #[]) λw'=>Ev w Ft w' b (Fm D F d I).1 (Fm D F d I).2):=by
 obtain⟨r,G,h1,h2,h3⟩:=h;obtain⟨l1,l2,l3,l4⟩:=K2 D r
 refine(A1t w b _ G Ft h1 d W I ht aB (by
  rw[l1,l2,l3];refine⟨O.1,O.2.1,O.2.2.1,λc hc=>?_⟩;obtain⟨c0,X,rfl⟩:=Ct.1 hc
  rw[IQ];exact O.2.2.2 c0 X) hdi aA (λY E=>by
  obtain⟨f,L,rfl⟩:=DS.cU E
  rw[h2 f L];exact hF f L)).mono ?_
 rintro e w'⟨L,q2⟩;have z:∀f,(Fm D F d I).1.Au f->D.Au f:=by
  rintro f (H|H|⟨c,hc,_⟩)
  ·exact P8 D d f H
  ·exact P8 D d f H
  ·cases hc
 refine⟨L,q2.bk (r:=r) ?_ (λf H=>?_) λf Y H E=>h3 f Y (z f H) (z Y E)⟩
 ·simp only[Fm,U3];rfl
 ·simp only[Fm,U3,Rq,IQ];exact A1w h2 h3 (P8 D d) I _ _ f (z f H)
end
def Up(N:Nat):Nat->Prop:=λk=>N<=k
def B3.af{w:World}{b:Nat}{D:DS}{F:Nat->FC}{Ft:Nat->Prop}(h:B3 w b D F Ft):B3 w.drew b D F Ft:=h.aP λ_ _=>rfl
def Ev.dO{w w':World}{b:Nat}{D:DS}{F:Nat->FC}{Ft:Nat->Prop}(h:Ev w.drew Ft w' b D F):Ev w Ft w' b D F:=by
 obtain⟨d,z⟩:=h;exact⟨⟨d.os,d.FK,d.FM,d.Ak,d.Ao⟩,z⟩
section
variable {w:World} {b fb:Nat} {D:DS} {F:Nat->FC} {Ft:Nat->Prop} {T:TypeId} {name:ByteArray} {s:Nat}
def TZ(d:Bd w fb T (A5 b) name s)(h:B3 w b D F Ft)(k:Nat)(z:¬D.Au k)(I:D.A4.length<1099511627776/\D.Av.length<1099511627776):
 Ag 240 #[A5 fb] w (Al (A0 (CM D name k).1) λw'=>Ev w Ft w' b (CM D name k).2 (upd F k ([],0))):=by
 have c0:=d.c0;have c1:=d.c1;have CR:=A1 (A1o h.af name k z I);generalize hq:(CM D name k).1=q at CR ⊢
 go_enter func240,ntmps240
 go_wp2;refine FJ (λw'=>A7 w' fb 0 (A5 b)/\A7 w' fb 1 (.string name)) 8
  (Bq [0,1,2,3,4,5,6,7] []) (by kernel_rfl) (by kernel_rfl) (λ_ _ _ _ _ h=>h) ⟨c0,c1⟩ ?_
 iterate 8 (refine E8 (v:=?_) rfl (by rfl) ?_ ?_;rotate_left;(· (intro w' E;(try dsimp only at E);go_simp;try with_reducible rfl));(try simp only[An]))
 refine Bl ?_;simp only[DE,Dp];go_wp2_with (go_at_call 83;refine CR.m ?_;rintro e w'⟨rfl,L⟩;have H:=A1 L);go_ret;exact⟨rfl,H.o.dO⟩
def Wg(d:Bd w fb T (A5 b) name s)(h:B3 w b D F Ft):
 Ag 164 #[A5 fb] w (Al (A0 (CA D F name).1) λw'=>Ev w Ft w' b (CA D F name).2.1 (CA D F name).2.2):=by
 have c0:=d.c0;have c1:=d.c1;have CR:=A1 (Qy h.af name);generalize hq:(CA D F name).1=q at CR ⊢
 go_enter func164,ntmps164
 go_wp2;refine FJ (λw'=>A7 w' fb 0 (A5 b)/\A7 w' fb 1 (.string name)) 8
  (Bq [0,1,2,3,4,5,6,7] []) (by kernel_rfl) (by kernel_rfl) (λ_ _ _ _ _ h=>h) ⟨c0,c1⟩ ?_
 iterate 8 (refine E8 (v:=?_) rfl (by rfl) ?_ ?_;rotate_left;(· (intro w' z;(try dsimp only at z);go_simp;try with_reducible rfl));(try simp only[An]))
 refine Bl ?_;simp only[DE,Dp];go_wp2_with (go_at_call 85;refine CR.m ?_;rintro e w'⟨rfl,H⟩;have E:=A1 H);go_ret;exact⟨rfl,E.o.dO⟩
end
def DP(D:DS)(F:Nat->FC)(name:ByteArray):List UInt8×Int:=match lookup D.A4 name with
 | some f=>((F f).1,0)
 | none=>([],8)
def B3.aH{w w':World}{b:Nat}{D:DS}{F:Nat->FC}{Ft:Nat->Prop}(h:B3 w b D F Ft)(d:∀k,Ft k->k<w.heap.size)(E:A3 Ab w w'):B3 w' b D F Ft:=h.aP λk z=>E.Ao k (d k z) (λh=>h)
section
variable {w:World} {b fb:Nat} {D:DS} {F:Nat->FC} {Ft:Nat->Prop} {T:TypeId} {name:ByteArray} {s:Nat}
def UF(hf:Bd w fb T (A5 b) name s)(h:B3 w b D F Ft):
 Ag 166 #[A5 fb] w (Al (.tuple #[.string ⟨(DP D F name).1.toArray⟩,A0 (DP D F name).2]) λw'=>A3 Ab w w'):=by
 obtain⟨d,Y⟩:∃d,(CC D F name).1=d:=⟨_,rfl⟩;obtain⟨ze,H⟩:∃ze,(CC D F name).2=ze:=⟨_,rfl⟩;have aQ:∀w',B3 w' b D F Ft->Ag 81 #[A5 b,.string name] w' λe O=>e=.returned (.tuple #[A0 d,A0 ze])/\w'=O:=λw' h=>by
  rw[<-Y,<-H];exact ND h name
 have aP:∀w',B3 w' b D F Ft->Ag 82 #[A5 b,.string name,A0 0,A0 d] w' λe O=>e=.returned (.tuple #[.string ⟨(F4 D F name 0 d).1.toArray⟩,A0 (F4 D F name 0 d).2])/\w'=O:=λw' h=>XW h name 0 d;have aF:=A1 aQ;have aO:=A1 aP;have aA:(ze=0/\Hid ((F4 D F name 0 d).1=(DP D F name).1/\(F4 D F name 0 d).2=(DP D F name).2))\/(ze=8/\Hid ((DP D F name).1=[]/\(DP D F name).2=8)):=by
  unfold CC at Y H;unfold F4 DP Hid;cases hx:lookup D.A4 name with
  | none=>rw[hx]at H;exact .inr ⟨H.symm,rfl,rfl⟩
  | some f=>
   rw[hx]at H Y;subst Y;refine .inl ⟨H.symm,?_⟩;dsimp only
   rw[Ad (by omega)];simp
 obtain⟨rs,aH⟩:∃rs,(DP D F name).1=rs:=⟨_,rfl⟩;obtain⟨re,aM⟩:∃re,(DP D F name).2=re:=⟨_,rfl⟩;rw[aH,aM]at aA ⊢
 go_enter func166,ntmps166
 go_wp2;refine Hc 13 (λy=>{tmps:=#[A5 fb,undef,.string ⟨#[]⟩,A0 0,y 12,undef,y 9,y 0,y 1,y 2,y 3,y 4,y 5,y 6,y 7,y 8,y 10,y 11,undef,undef,undef,undef,undef,undef,undef,undef,undef,undef,undef,undef,undef,undef,undef],defers:=[]}) (λ_=>undef)
  (λw'=>Bd w' fb T (A5 b) name s/\B3 w' b D F Ft/\A3 Ab w w') (A3 Ab)
  (λj x w'=>match j with
   | 0=>x=(A5 fb)
   | 1=>x=(A5 fb)
   | 2=>x=(A5 fb)
   | 3=>x=(A5 b)
   | 4=>x=(A5 fb)
   | 5=>x=(A5 fb)
   | 6=>x=.pointer (some (Aa fb 1))
   | 7=>x=.string name
   | 8=>x=.tuple #[A0 d,A0 ze]
   | 9=>x=.tuple #[A0 d,A0 ze]
   | 10=>x=A0 d
   | 11=>x=A0 ze
   | 12=>x=A0 d
   | _=>True)
  (by kernel_rfl) (by kernel_rfl) rfl ?_ ?_ ?_ ?_
 ·exact⟨hf,h.af,(A3.I _ _).af⟩
 ·intro j x w1 w2 hR aL W;split at W<;>exact W
 ·simp only[F8,ET,FG,HJ]
  repeat' (with_reducible apply And.intro)
  all_goals refine⟨?_,(by intro y L _ _ h;exact Bool.noConfusion h),λy x=>rfl⟩
  all_goals
   intro y L hS X hw K hK;obtain⟨E,aB,aD⟩:=hS;simp[Gd,Region.binds,Fc,List.filter_cons]at X;have c0:=E.c0;have c1:=E.c1;have I:Hid (Bd L fb T (A5 b) name s/\B3 L b D F Ft/\A3 Ab w L):=⟨E,aB,aD⟩;have aE:=A1 hK
  all_goals dsimp only
  all_goals try go_simp
  all_goals try with_reducible exact aE.o _ _ _ rfl (by simp[Act.put,X]) (A3.I _ _) I.o
  all_goals try
   (have aG:y 3=(A5 b):=by with_reducible exact X.1);refine(aF.o L I.o.2.1).mono ?_;rintro e w2⟨rfl,rfl⟩;exact aE.o _ _ _ rfl (by simp[Act.put,X]) (A3.I _ _) I.o
 ·intro y L hS W;have aK:=W 11 (by omega);have aI:=W 12 (by omega);have I:=A1 hS;rcases aA with⟨rfl,aA⟩|⟨rfl,aA⟩
  ·(have aN:∀w',B3 w' b D F Ft->Ag 82 #[A5 b,.string name,A0 0,A0 d] w' λe O=>e=.returned (.tuple #[.string ⟨rs.toArray⟩,A0 re])/\w'=O:=by rw[<-aA.o.1,<-aA.o.2];exact aO.o);have aJ:=A1 aN;go_wp2;refine Hc 13 (λz=>{tmps:=#[A5 fb,undef,z 12,A0 0,A0 d,A0 0,y 9,y 0,y 1,y 2,y 3,y 4,y 5,y 6,y 7,y 8,y 10,A0 0,A0 0,.bool false,undef,z 0,z 1,z 2,z 3,z 4,z 5,z 6,z 7,z 8,z 9,z 10,z 11],defers:=[]}) (λj=>if j=12 then .string ⟨#[]⟩ else undef)
    (λw'=>Bd w' fb T (A5 b) name s/\B3 w' b D F Ft/\A3 Ab w w') (A3 Ab)
    (λj x w'=>match j with
     | 0=>x=(A5 fb)
     | 1=>x=(A5 fb)
     | 2=>x=(A5 fb)
     | 3=>x=(A5 b)
     | 4=>x=(A5 fb)
     | 5=>x=(A5 fb)
     | 6=>x=.pointer (some (Aa fb 1))
     | 7=>x=.string name
     | 8=>x=A0 d
     | 9=>x=.tuple #[.string ⟨rs.toArray⟩,A0 re]
     | 10=>x=.string ⟨rs.toArray⟩
     | 11=>x=A0 re
     | 12=>x=.string ⟨rs.toArray⟩
     | _=>True)
    (by kernel_rfl) (by kernel_rfl) rfl ?_ ?_ ?_ ?_
   ·exact⟨I.o.1,I.o.2.1.af,I.o.2.2.af⟩
   ·intro j x w1 w2 hR aL W;split at W<;>exact W
   ·clear I aK aI;simp only[F8,ET,FG,HJ]
    repeat' (with_reducible apply And.intro)
    all_goals refine⟨?_,(by intro y L _ _ h;exact Bool.noConfusion h),λy x=>rfl⟩
    all_goals
     intro z L hS X hw K hK;obtain⟨E,aB,aD⟩:=hS;simp[Gd,Region.binds,Fc,List.filter_cons]at X;have c0:=E.c0;have c1:=E.c1;have I:Hid (Bd L fb T (A5 b) name s/\B3 L b D F Ft/\A3 Ab w L):=⟨E,aB,aD⟩;have aE:=A1 hK
    all_goals dsimp only
    all_goals try go_simp
    all_goals try with_reducible exact aE.o _ _ _ rfl (by simp[Act.put,X]) (A3.I _ _) I.o
    all_goals try
     (have aG:z 3=(A5 b):=by with_reducible exact X.1);refine(aJ.o L I.o.2.1).mono ?_;rintro e w2⟨rfl,rfl⟩;exact aE.o _ _ _ rfl (by simp[Act.put,X]) (A3.I _ _) I.o
   ·intro z wz hZ W;have z11:=W 11 (by omega);have z12:=W 12 (by omega);have aR:=A1 hZ;go_wp2;go_ret2;exact⟨rfl,aR.o.2.2⟩
  ·go_wp2;go_ret2;rw[aA.o.1,aA.o.2];exact⟨rfl,I.o.2.2⟩
end
def Kn(w:World)(Ft:Nat->Prop)(fb:Nat)(w':World)(b:Nat)(D':DS)(F':Nat->FC):Prop:=
 A3 (λk=>Ft k\/k=fb) w w'/\∃d,B3 w' b D' F' d/\(∀k,d k->k<w'.heap.size)/\∀k,d k->Ft k\/w.heap.size<=k
def H7(D:DS)(F:Nat->FC)(name:ByteArray)(pc:List UInt8):Bool:=
 decide ((CC (Bp D F name ⟨pc.toArray⟩).2.1 (Bp D F name ⟨pc.toArray⟩).2.2 name).1-(CC D F name).1=pc.length)
def TS(D:DS)(F:Nat->FC)(name:ByteArray):0<=(CC D F name).1:=by
 unfold CC;cases lookup D.A4 name<;>simp
section
variable {w:World} {b fb:Nat} {D:DS} {F:Nat->FC} {Ft:Nat->Prop} {T:TypeId} {name:ByteArray} {s:Nat}
def addF(hf:Bd w fb T (A5 b) name s)(hs:s<4294967296)(h:B3 w b D F Ft)(aR:∀k,Ft k->k<w.heap.size)(hn:¬Ft fb)(l:List UInt8)(hroom : -4611686018427387904<=D.n.AH/\D.n.AH<=9223372036854775807)(hu:B4 F D.A4<=4611686018427387904)(hp:0<=D.n.BJ/\D.n.BJ<=9223372036854775807)(hl:∀f,lookup D.A4 name=some f->(F f).1.length+(l.length+4)<=70368744177664)(hll:l.length<=4611686018427387904)(hz:(CC (Bp D F name ⟨(l++Ca (AT s l)).toArray⟩).2.1 (Bp D F name ⟨(l++Ca (AT s l)).toArray⟩).2.2 name).1<=70368744177664/\(CC D F name).1<=70368744177664):
 Ag 237 #[A5 fb,.string ⟨l.toArray⟩] w (Al (.tuple #[.bool (H7 D F name (l++Ca (AT s l))),A0 (Bp D F name ⟨(l++Ca (AT s l)).toArray⟩).1]) λw'=>Bd w' fb T (A5 b) name (AT s l)/\Kn w Ft fb w' b (Bp D F name ⟨(l++Ca (AT s l)).toArray⟩).2.1 (Bp D F name ⟨(l++Ca (AT s l)).toArray⟩).2.2):=by
 obtain⟨aA,a0⟩:=hz;have aO:=A1 (R0 w fb T _ name s l hf hs (by omega));have aF:(l++Ca (AT s l)).length=l.length+4:=by simp[Hd]
 generalize hs1:AT s l=s1 at aO aF aA ⊢;generalize hpc:l++Ca s1=pc at aO aF aA ⊢;have bC:∀w',B3 w' b D F Ft->_:=λw' h'=>A2H h' name ⟨pc.toArray⟩ hroom hu hp (λf hf=>by have:=hl f hf;show _+pc.length<=_;omega);have r1:=TS D F name;have r2:=TS (Bp D F name ⟨pc.toArray⟩).2.1 (Bp D F name ⟨pc.toArray⟩).2.2 name;have O:H7 D F name pc=decide ((CC (Bp D F name ⟨pc.toArray⟩).2.1 (Bp D F name ⟨pc.toArray⟩).2.2 name).1-(CC D F name).1=pc.length):=rfl;obtain⟨D',aM⟩:∃D',(Bp D F name ⟨pc.toArray⟩).2.1=D':=⟨_,rfl⟩;obtain⟨F',aI⟩:∃F',(Bp D F name ⟨pc.toArray⟩).2.2=F':=⟨_,rfl⟩;obtain⟨er,aK⟩:∃er,(Bp D F name ⟨pc.toArray⟩).1=er:=⟨_,rfl⟩;rw[aM,aI]at O r2 aA ⊢;rw[aK];rw[aM,aI,aK]at bC;have bE:∀w',B3 w' b D F Ft->_:=λw' h'=>ND h' name;have bB:∀w' d,B3 w' b D' F' d->_:=λw' d h'=>ND h' name;obtain⟨zn,aE⟩:∃zn,(CC D F name).1=zn:=⟨_,rfl⟩;obtain⟨ze,aZ⟩:∃ze,(CC D F name).2=ze:=⟨_,rfl⟩;obtain⟨Y,aH⟩:∃Y,(CC D' F' name).1=Y:=⟨_,rfl⟩;obtain⟨ye,aQ⟩:∃ye,(CC D' F' name).2=ye:=⟨_,rfl⟩;rw[aE,aH]at O;rw[aE]at r1 a0;rw[aH]at r2 aA;rw[aE,aZ]at bE;rw[aH,aQ]at bB;rw[O];obtain⟨ok,O⟩:∃ok,decide (Y-zn=(pc.length:Int))=ok:=⟨_,rfl⟩;rw[O];have aY:=A1 O;have a8:=A1 bC;have aP:=A1 bE;have a5:=A1 bB;have H:=A1 h;have aS:=A1 aR;have bD:=A1 hn
 go_enter func237,ntmps237
 go_wp2_with (go_at_call 214;refine aO.m ?_;rintro e w1⟨rfl,a9,bA⟩;have a1:=A1 a9;have aD:=A1 bA);have E:Hid (Bd w1 fb T (A5 b) name s1/\B3 w1 b D F Ft):=⟨a1.o,H.o.aP λk hk=>aD.o.Ao k (aS.o k hk) (λe=>bD.o (e ▸ hk))⟩;refine Hc 13 (λy=>{tmps:=#[A5 fb,.string ⟨l.toArray⟩,undef,undef,.bool false,A0 0,.string ⟨pc.toArray⟩,y 12,undef,undef,undef,undef,A5 fb,.string ⟨l.toArray⟩,.string ⟨pc.toArray⟩,y 9,y 0,y 1,y 2,y 3,y 4,y 5,y 6,y 7,y 8,y 10,y 11,undef,undef,undef,undef,undef,undef,undef,undef,undef,undef,undef,undef,undef,undef,undef,undef,undef,undef,undef,undef,undef,undef,undef,undef,undef,undef,undef,undef,undef],defers:=[]}) (λ_=>undef)
  (λw'=>Bd w' fb T (A5 b) name s1/\B3 w' b D F Ft/\A3 Ab w1 w') (A3 Ab)
  (λj x w'=>match j with
   | 0=>x=(A5 fb)
   | 1=>x=(A5 fb)
   | 2=>x=(A5 fb)
   | 3=>x=(A5 b)
   | 4=>x=(A5 fb)
   | 5=>x=(A5 fb)
   | 6=>x=.pointer (some (Aa fb 1))
   | 7=>x=.string name
   | 8=>x=.tuple #[A0 zn,A0 ze]
   | 9=>x=.tuple #[A0 zn,A0 ze]
   | 10=>x=A0 zn
   | 11=>x=A0 ze
   | 12=>x=A0 zn
   | _=>True)
  (by kernel_rfl) (by kernel_rfl) rfl ?_ ?_ ?_ ?_
 ·exact⟨E.o.1,E.o.2.af,(A3.I _ _).af⟩
 ·intro j x w1 w2 hR a6 X;split at X<;>exact X
 ·clear E;simp only[F8,ET,FG,HJ]
  repeat' (with_reducible apply And.intro)
  all_goals refine⟨?_,(by intro y L _ _ h;exact Bool.noConfusion h),λy x=>rfl⟩
  all_goals
   intro zz L hS hd hw K hK;obtain⟨I,aG,aB⟩:=hS;simp[Gd,Region.binds,Fc,List.filter_cons]at hd;have c0:=I.c0;have c1:=I.c1;have W:Hid (Bd L fb T (A5 b) name s1/\B3 L b D F Ft/\A3 Ab w1 L):=⟨I,aG,aB⟩;have aJ:=A1 hK
  all_goals dsimp only
  all_goals try go_simp
  all_goals try with_reducible exact aJ.o _ _ _ rfl (by simp[Act.put,hd]) (A3.I _ _) W.o
  all_goals
   refine(aP.o L W.o.2.1).mono ?_;rintro e w2⟨rfl,rfl⟩;exact aJ.o _ _ _ rfl (by simp[Act.put,hd]) (A3.I _ _) W.o
 intro y L hS X;have h11:=X 11 (by omega);have h12:=X 12 (by omega);have c0:=hS.1.c0;have c1:=hS.1.c1;have W:=A1 hS;go_wp2;refine FJ (λw'=>A7 w' fb 0 (A5 b)/\A7 w' fb 1 (.string name)) 9
  (Bq [0,1,2,3,4,5,6,7,8] []) (by kernel_rfl) (by kernel_rfl) (λ_ _ _ _ _ h=>h) ⟨c0,c1⟩ ?_
 iterate 9 (refine E8 (v:=?_) rfl (by rfl) ?_ ?_;rotate_left;(· (intro w' hS;(try dsimp only at hS);go_simp;try with_reducible rfl));(try simp only[An]))
 refine Bl ?_;simp only[DE,Dp];have aX:=A1 (a8.o L.drew W.o.2.1.af);go_wp2_with (go_at_call 84;refine aX.m ?_;rintro e w3⟨rfl,hA⟩;have bF:=A1 hA);have aW:=bF.o.dO;obtain⟨aL,d,aV,aU,aT⟩:=aW;have hsz:=W.o.1.lt;have E:Hid (Bd w3 fb T (A5 b) name s1/\B3 w3 b D' F' d):=⟨W.o.1.aj aL bD.o,aV⟩;have a2:=A1 aL;have a3:=A1 aU;have a7:=A1 aT;have a4:Hid (∀w',B3 w' b D' F' d->_):=λw' h'=>a5.o w' d h';refine Hc 13 (λz=>{tmps:=#[A5 fb,.string ⟨l.toArray⟩,undef,undef,.bool false,A0 0,.string ⟨pc.toArray⟩,A0 zn,A0 ze,A0 er,z 12,undef,A5 fb,.string ⟨l.toArray⟩,.string ⟨pc.toArray⟩,y 9,y 0,y 1,y 2,y 3,y 4,y 5,y 6,y 7,y 8,y 10,A0 ze,A5 fb,A5 fb,A5 fb,A5 b,A5 fb,A5 fb,.pointer (some (Aa fb 1)),.string name,.string ⟨pc.toArray⟩,A0 er,z 9,z 0,z 1,z 2,z 3,z 4,z 5,z 6,z 7,z 8,z 10,z 11,undef,undef,undef,undef,undef,undef,undef],defers:=[]}) (λ_=>undef)
  (λw'=>Bd w' fb T (A5 b) name s1/\B3 w' b D' F' d/\A3 Ab w3 w') (A3 Ab)
  (λj x w'=>match j with
   | 0=>x=(A5 fb)
   | 1=>x=(A5 fb)
   | 2=>x=(A5 fb)
   | 3=>x=(A5 b)
   | 4=>x=(A5 fb)
   | 5=>x=(A5 fb)
   | 6=>x=.pointer (some (Aa fb 1))
   | 7=>x=.string name
   | 8=>x=.tuple #[A0 Y,A0 ye]
   | 9=>x=.tuple #[A0 Y,A0 ye]
   | 10=>x=A0 Y
   | 11=>x=A0 ye
   | 12=>x=A0 Y
   | _=>True)
  (by kernel_rfl) (by kernel_rfl) rfl ?_ ?_ ?_ ?_
 ·exact⟨E.o.1,E.o.2.af,(A3.I _ _).af⟩
 ·intro j x w1 w2 hR a6 X;split at X<;>exact X
 ·clear E;simp only[F8,ET,FG,HJ]
  repeat' (with_reducible apply And.intro)
  all_goals refine⟨?_,(by intro y L _ _ h;exact Bool.noConfusion h),λy x=>rfl⟩
  all_goals
   intro zz L hS hd hw K hK;obtain⟨I,aG,aB⟩:=hS;simp[Gd,Region.binds,Fc,List.filter_cons]at hd;have c0:=I.c0;have c1:=I.c1;have W:Hid (Bd L fb T (A5 b) name s1/\B3 L b D' F' d/\A3 Ab w3 L):=⟨I,aG,aB⟩;have aJ:=A1 hK
  all_goals dsimp only
  all_goals try go_simp
  all_goals try with_reducible exact aJ.o _ _ _ rfl (by simp[Act.put,hd]) (A3.I _ _) W.o
  all_goals
   refine(a4.o L W.o.2.1).mono ?_;rintro e w2⟨rfl,rfl⟩;exact aJ.o _ _ _ rfl (by simp[Act.put,hd]) (A3.I _ _) W.o
 intro z wz hZ X;have z11:=X 11 (by omega);have z12:z 12=A0 Y:=X 12 (by omega);have aN:=A1 hZ;have hbe:(Y-zn==(l.length:Int)+4)=ok:=by
  rw[<-aY.o,aF,Ni];simp
 go_wp2;go_ret2
 exact⟨rfl,aN.o.1,(((aD.o.aa (λ_ _ h=>.inr h)).Ap W.o.2.2 (λ_ h _=>h.elim)).Ap a2.o (λ_ h _=>.inl h)).Ap aN.o.2.2 (λ_ h _=>h.elim),
  d,aN.o.2.1,λk hk=>Bk (a3.o k hk) aN.o.2.2.Ak,λk hk=>(a7.o k hk).imp id λh=>AM (AM aD.o.Ak W.o.2.2.Ak) h⟩
end
end
end Go.Proofs.YtodcnkbblippnaaGreatDoor
