/- Part 5 of a proof: walks of the program. -/
import Derived.Test.YtodcnkbblippnaaGreatDoorPk04
namespace Go.Proofs.YtodcnkbblippnaaGreatDoor
set_option maxRecDepth 100000
set_option maxHeartbeats 32000000
set_option linter.defProp false
open Go.Proofs.Tryz
section
open Go.RowKit
attribute [local go_sem ↓] Go.wp_at_zero Go.wp_at_succ
def FK:List Nat->List Nat->Nat->Nat
 | x::xs,y::ys,f=>if x=f then y else FK xs ys f
 | _,_,_=>0
def KJ:∀(xs ys:List Nat) (i f m:Nat),xs.Nodup->xs[i]?=some f->ys[i]?=some m->FK xs ys f=m
 | [],_,i,_,_,_,h,_=>by simp at h
 | x::xs,[],i,_,_,_,_,h=>by simp at h
 | x::xs,y::ys,0,f,m,_,h1,h2=>by
  simp only[List.getElem?_cons_zero,Option.some.injEq]at h1 h2;subst h1;subst h2;simp[FK]
 | x::xs,y::ys,i+1,f,m,hn,h1,h2=>by
  simp only[A4r]at h1 h2;have d:x≠f:=λe=>by subst e;exact(Kf.1 hn).1 (LC h1)
  simp only[FK,d,C7];exact KJ xs ys i f m (Kf.1 hn).2 h1 h2
def ren(r:Nat->Nat)(es:List AO):List AO:=es.map λe=>(e.1,r e.2)
def DS.ren(r:Nat->Nat)(D:DS):DS:={A4:=Go.Proofs.YtodcnkbblippnaaGreatDoor.ren r D.A4,AP:=Go.Proofs.YtodcnkbblippnaaGreatDoor.ren r D.AP,Av:=D.Av.map (Go.Proofs.YtodcnkbblippnaaGreatDoor.ren r),n:=D.n}
def Ren.eq{L M:List Nat}{es d:List AO}(h:Ren L M es d)(W:L.Nodup):d=ren (FK L M) es:=by
 apply List.ext_getElem
 ·simp[ren,h.1]
 ·intro k z h2;have E:k<es.length:=by rw[<-h.1];exact z
  obtain⟨H,i,O,I⟩:=h.2 k E z;simp only[ren,List.getElem_map];rw[KJ L M i _ _ W O I];exact Prod.ext H rfl
def CS.ct{N:Nat}{w:World}{bo I:Nat}{F:Nat->FC}{old made:List Nat}{L O:Value}{H:Nat->Value}(h:CS N w bo I F old made L O H){k:Nat}(d:CB bo I L O made H k\/k∈old):∃c e,w.heap[k]?=some (.cells c e (0,0))/\e≠125/\e≠120/\e≠95:=by
 have hl:=h.b1;rcases d with (rfl|rfl|d|d|d|⟨m,W,d⟩)|d
 ·exact⟨_,_,h.ob,by decide⟩
 ·exact⟨_,_,h.mb,by decide⟩
 ·obtain⟨c,z⟩:=Be h.ol d;exact⟨c,_,z,by decide⟩
 ·obtain⟨c,z⟩:=Be h.ml d;exact⟨c,_,z,by decide⟩
 ·obtain⟨i,E,rfl⟩:=DW d;exact⟨_,_,(h.BN i E (by omega)).1,by decide⟩
 ·obtain⟨i,E,rfl⟩:=DW W;obtain⟨c,z⟩:=Be (h.BN i E (by omega)).2 d;exact⟨c,_,z,by decide⟩
 ·obtain⟨c,z⟩:=(h.I7 k d).2;exact⟨c,_,z,by decide⟩
def CS.b7{N:Nat}{w:World}{bo z:Nat}{F:Nat->FC}{old made:List Nat}{E H:Value}{L:Nat->Value}(h:CS N w bo z F old made E H L){k e:Nat}{c:Array Value}(O:w.heap[k]?=some (.cells c e (0,0)))(W:e=125\/e=120\/e=95):¬CF bo z E H k:=by
 intro Y;have d:CB bo z E H made L k:=by
  rcases Y with h|h|h|h
  ·exact .inl h
  ·exact .inr (.inl h)
  ·exact .inr (.inr (.inl h))
  ·exact .inr (.inr (.inr (.inl h)))
 obtain⟨c',e',I,h2,h3,h4⟩:=h.ct (.inl d);rw[O]at I;cases I;rcases W with e|e|e<;>simp_all
def IF(l:List (List AO)):Nat:=(l.map List.length).sum
def Xb(l:List (List AO))(i:Nat)(h:i<l.length):IF (l.take (i+1))=IF (l.take i)+(l[i]'h).length:=by
 unfold IF;rw[DB h,Eg,List.sum_append];simp
structure CR (N:Nat) (w wr:World) (b2 bo bm:Nat) (D:DS) (F:Nat->FC) (i:Nat) (L M:List Nat) (vo vm v1 v2 vc:Value) (VB:Nat->Value) (vals:List Value) (e1 e2:List AO) (cs:List (List AO)):Prop where
 GF:CS N wr bo bm F L M vo vm VB
 Ag:AN wr b2 v1 v2 vc D.n
 d1:D3 wr v1 e1
 d2:D3 wr v2 e2
 r1:Ren L M D.A4 e1
 r2:Ren L M D.AP e2
 ch:wr.ownsRow 0 120 1 vc i vals
 cl:cs.length=i
 Da:∀k (h:k<cs.length),∃v,vals[k]?=some v/\D3 wr v (cs[k]'h)
 PE:∀k (h:k<cs.length) (h':k<D.Av.length),Ren L M (D.Av[k]' h') (cs[k]'h)
 MM:L.length<=D.A4.length+D.AP.length+IF (D.Av.take i)
 Tp:∀f∈L,D.Au f
 Ak:A3 (λ_=>False) w wr
 nb:N<=b2
 SJ:∀g,v1.ownBlock=some g->N<=g
 SH:∀g,v2.ownBlock=some g->N<=g
 Oz:∀g,vc.ownBlock=some g->N<=g
 SG:∀v∈vals,∀g,v.ownBlock=some g->N<=g
def CR.a7{w wr aW w2 w3:World}{b2 bo bm:Nat}{D:DS}{F:Nat->FC}{i nq:Nat}{L M aU aS:List Nat}{vo vm v1 v2 vc aK aN v:Value}{aV aL:Nat->Value}{I:List Value}{e1 e2 Y:List AO}{cs:List (List AO)}{a3:Option Addr}{c3:Nat}(h:CR w.heap.size w wr b2 bo bm D F i L M vo vm v1 v2 vc aV I e1 e2 cs)(hi:i<D.Av.length){es:List AO}(aT:D.Av[i]'hi=es)(hW:A3 (λ_=>False) wr aW)(H:Ey w.heap.size aW bo bm F L M vo vm aV es es.length es.length v w2 aU aS aK aN aL Y)(hA:App ((w2.drewN nq).alloc (.cells #[v] 120)) w3 120 1 vc (.slice a3 (i+1) c3) (i+1) (I++[v])):
 CR w.heap.size w (w3.setCell ⟨b2,2,none⟩ (.slice a3 (i+1) c3)) b2 bo bm D F (i+1) aU aS aK aN v1 v2 (.slice a3 (i+1) c3) aL (I++[v]) e1 e2 (cs++[Y]):=by
 subst aT;have aB:=h.GF.Ak hW (λ_ _ h=>h) (λ_ _ h=>h);have aH:∀(k:Nat) (c:Array Value) (e:Nat),wr.heap[k]?=some (Obj.cells c e (0,0))->(e=125\/e=120\/e=95)->w2.heap[k]?=some (Obj.cells c e (0,0)):=λk c e d he=>by
  have W:=(hW.Ap k (Bz d) (λh=>h)).trans d;exact(H.Ak.Ap k (Bz W) (aB.b7 W he)).trans W
 have aA:∀(k:Nat) (c:Array Value) (e:Nat),w2.heap[k]?=some (Obj.cells c e (0,0))->e≠120->w3.heap[k]?=some (Obj.cells c e (0,0)):=λk c e d he=>by
  have W:((w2.drewN nq).alloc (.cells #[v] 120)).heap[k]?=some (Obj.cells c e (0,0)):=(Dd _ _ _ (by simpa using Bz d)).trans d;refine(hA.CC.block k (Bz W) (λe2=>?_)).trans W;obtain⟨c',hh⟩:=Be h.ch e2.symm;have:=aH _ _ _ hh (.inr (.inl rfl));rw[d]at this;cases this;exact he rfl
 have aM:AN w3 b2 v1 v2 vc D.n:=aA _ _ _ (aH _ _ _ h.Ag (.inr (.inr rfl))) (by decide);have aO:=aM.s2 (.slice a3 (i+1) c3);have aE:A3 (One b2) w3 (w3.setCell ⟨b2,2,none⟩ (.slice a3 (i+1) c3)):=(A3.I (One b2) w3).aq rfl 2 _;generalize hW4:w3.setCell ⟨b2,2,none⟩ (.slice a3 (i+1) c3)=W4 at aO aE ⊢;have E:∀(k:Nat) (c:Array Value) (e:Nat),w3.heap[k]?=some (Obj.cells c e (0,0))->e≠95->W4.heap[k]?=some (Obj.cells c e (0,0)):=λk c e d he=>
  (aE.Ap k (Bz d) (λe2=>BT d aM he e2)).trans d
 have kE:∀(k:Nat) (c:Array Value),wr.heap[k]?=some (Obj.cells c 125 (0,0))->W4.heap[k]?=wr.heap[k]?:=λk c d=>
  (E _ _ _ (aA _ _ _ (aH _ _ _ d (.inl rfl)) (by decide)) (by decide)).trans d.symm
 have aR:∀(k:Nat) (c:Array Value),w2.heap[k]?=some (Obj.cells c 125 (0,0))->W4.heap[k]?=w2.heap[k]?:=λk c d=>
  (E _ _ _ (aA _ _ _ d (by decide)) (by decide)).trans d.symm
 have aD:∀ {v:Value} {es:List AO},D3 wr v es->D3 W4 v es:=λhe=>Az he λg O=>by
  obtain⟨c,hh⟩:=Be he O;exact kE _ _ hh
 have aQ:D3 W4 v Y:=Az H.EP λg O=>by
  obtain⟨c,hh⟩:=Be H.EP O;exact aR _ _ hh
 have aF:∀ {es aJ:List AO},Ren L M es aJ->Ren aU aS es aJ:=λhr=>by
  obtain⟨o,q1,_⟩:=H.GA;obtain⟨o2,q2,_⟩:=H.JC;rw[q1,q2];exact hr.aa
 have hsz1:=h.Ak.Ao;have hsz2:=hW.Ao;have aG:I.length=i:=by simpa using h.ch.1
 refine⟨?_,aO,aD h.d1,aD h.d2,aF h.r1,aF h.r2,?_,by simp[h.cl],?_,?_,?_,?_,?_,h.nb,h.SJ,h.SH,?_,?_⟩
 ·refine H.cs.aP (λk d=>?_) (λk d=>?_)
  ·obtain⟨c,e,W,h2,h3,h4⟩:=H.cs.ct (.inl d);exact(E _ _ _ (aA _ _ _ W h3) h4).trans W.symm
  ·obtain⟨c,e,W,h2,h3,h4⟩:=H.cs.ct (.inr d);exact(E _ _ _ (aA _ _ _ W h3) h4).trans W.symm
 ·exact Az hA.AB λg O=>by
   obtain⟨c,hh⟩:=Be hA.AB O;exact(E _ _ _ hh (by decide)).trans hh.symm
 ·intro k d;by_cases z:k<cs.length
  ·obtain⟨u,q1,q2⟩:=h.Da k z;refine⟨u,?_,?_⟩
   ·rw[Iz (by rw[aG,<-h.cl];exact z)];exact q1
   ·simp only[Fb z];exact aD q2
  ·(obtain rfl:k=cs.length:=by simp at d;omega);refine⟨v,?_,?_⟩
   ·rw[Hx (by rw[aG,h.cl];omega),aG,h.cl];simp
   ·simpa using aQ
 ·intro k d aP;by_cases z:k<cs.length
  ·simp only[Fb z];exact aF (h.PE k z aP)
  ·(obtain rfl:k=cs.length:=by simp at d;omega);have aI:=h.cl;have:=H.ren;rw[Cl]at this;simp only[aI];(have e1:(cs++[Y])[i]'(by simp[aI])=Y:=by simp[<-aI]);rw[e1];exact this
 ·obtain⟨o,q1,q2,_⟩:=H.GA;have:=h.MM;rw[Xb _ _ hi,q1,B1];omega
 ·intro f hf;obtain⟨o,q1,_,q3⟩:=H.GA;rw[q1]at hf;rcases AV.1 hf with hf|hf
  ·exact h.Tp f hf
  ·exact .inr (.inr ⟨_,BY hi,q3 f hf⟩)
 ·have c1:=h.Ak.Aw hW (λ_ h _=>h)
  have c2:=c1.Aw H.Ak (λx hx z=>by
   rcases hx with rfl|rfl|hx|hx
   ·have:=aB.Ia;omega
   ·have:=aB.IT;omega
   ·have:=aB.IP x hx;omega
   ·have:=aB.IQ x hx;omega)
  have c3:=((c2.ba nq).ai (.cells #[v] 120)).CC hA.CC (λk d z=>by have:=h.Oz k d;omega);exact c3.Aw aE (λx hx z=>by have:=h.nb;have:x=b2:=hx;omega)
 ·intro g O;rcases hA.Ck with e|e
  ·rw[e]at O;exact h.Oz g O
  ·rw[e]at O;cases O;have:=H.Ak.Ao;simp;omega
 ·intro u hu g O;rcases AV.1 hu with hu|hu
  ·exact h.SG u hu g O
  ·simp at hu;subst hu;have:=H.AU g O;omega
def Z9{w W:World}{b bo bm:Nat}{D:DS}{F:Nat->FC}{vd vs vc vo vm vl:Value}{aB:List Value}{aG H:Nat->Value}{L M:List Nat}{es:List AO}(hr:C4 w b D F vd vs vc aB aG)(hc:A3 (λ_=>False) w W)(aD:CS w.heap.size W bo bm F L M vo vm H)(O:D3 w vl es)(d:∀f,Dg f es->D.Au f)(hF:∀f,D.Au f->(F f).1.length<=1099511627776)(hn:es.length<1099511627776/\L.length<1099511627776):
 Calls Tryz.prog 87 #[vl,.pointer (some ⟨bo,0,none⟩),.pointer (some ⟨bm,0,none⟩)] W λe w'=>∃v aF aE I z aA Y,e=.returned v/\Ey w.heap.size W bo bm F L M vo vm H es es.length es.length v w' aF aE I z aA Y:=by
 have hb:∀k,k<w.heap.size->W.heap[k]?=w.heap[k]?:=λk hk=>hc.Ap k hk (λh=>h);refine(Za w.heap.size W bo bm F L M vo vm H aD es vl (Az O λg E=>hb g (AI O E)) (λg E=>AI O E) hn λf hf=>?_).mono ?_
 ·obtain⟨h1,h2⟩:=hr.BN f (d f hf);refine⟨Bz h1,hF f (d f hf),aG f,(hb f (Bz h1)).trans h1,Az h2 λg E=>hb g (AI h2 E),λg E=>AI h2 E⟩
 ·rintro e w'⟨v,rfl,aF,aE,I,z,aA,Y,h⟩;exact⟨v,aF,aE,I,z,aA,Y,rfl,h⟩
def Ey.cF{w W w':World}{bo Y:Nat}{F:Nat->FC}{old made aB aA:List Nat}{vo vm v H E:Value}{O L:Nat->Value}{es I:List AO}{i cn:Nat}(h:Ey w.heap.size W bo Y F old made vo vm O es i cn v w' aB aA H E L I)(hc:A3 (λ_=>False) w W)(d:CS w.heap.size W bo Y F old made vo vm O):A3 (λ_=>False) w w':=
 hc.Aw h.Ak (λx z hlt=>by
  rcases z with rfl|rfl|z|z
  ·have:=d.Ia;omega
  ·have:=d.IT;omega
  ·have:=d.IP x z;omega
  ·have:=d.IQ x z;omega)
def P7{r:Nat->Nat}{es:List AO}{E:Nat}(h:Dg E (ren r es)):∃f,Dg f es/\r f=E:=by
 obtain⟨e,H,rfl⟩:=h;obtain⟨z,d,rfl⟩:=Cr.1 H;exact⟨z.2,⟨z,d,rfl⟩,rfl⟩
def DS.cQ{r:Nat->Nat}{D:DS}{H:Nat}(h:(D.ren r).Au H):∃f,D.Au f/\r f=H:=by
 rcases h with h|h|⟨c,I,h⟩
 ·obtain⟨f,z,d⟩:=P7 h;exact⟨f,.inl z,d⟩
 ·obtain⟨f,z,d⟩:=P7 h;exact⟨f,.inr (.inl z),d⟩
 ·obtain⟨c0,E,rfl⟩:=Cr.1 I;obtain⟨f,z,d⟩:=P7 h;exact⟨f,.inr (.inr ⟨c0,E,z⟩),d⟩
def Ren.Au{L M:List Nat}{es d:List AO}(h:Ren L M es d){f:Nat}(E:Dg f es):∃(i:Nat) (m:Nat),L[i]?=some f/\M[i]?=some m:=by
 obtain⟨e,H,rfl⟩:=E;obtain⟨k,z,rfl⟩:=DW H;obtain⟨_,i,O,I⟩:=h.2 k z (by rw[h.1];exact z);exact⟨i,_,O,I⟩
def CR.fc{w wr:World}{b2 bo bm:Nat}{D:DS}{F:Nat->FC}{L M:List Nat}{vo vm v1 v2 vc:Value}{aD:Nat->Value}{O:List Value}{e1 e2:List AO}{cs:List (List AO)}(h:CR w.heap.size w wr b2 bo bm D F D.Av.length L M vo vm v1 v2 vc aD O e1 e2 cs):
 ∃r aE aB,Db wr b2 (D.ren r) aE aB/\(∀k,aB k->w.heap.size<=k/\k<wr.heap.size)/\A3 (λ_=>False) w wr/\(∀f,D.Au f->aE (r f)=F f)/\∀f d,D.Au f->D.Au d->r f=r d->f=d:=by
 have q1:=h.r1.eq h.GF.I9;have q2:=h.r2.eq h.GF.I9;have q3:cs=D.Av.map (ren (FK L M)):=by
  apply List.ext_getElem
  ·simp[h.cl]
  ·intro k h1 h2;rw[List.getElem_map];exact(h.PE k h1 (by simpa using h2)).eq h.GF.I9
 have Y:∀f,D.Au f->∃(i:Nat) (m:Nat),L[i]?=some f/\M[i]?=some m:=by
  rintro f (H|H|⟨c,hc,H⟩)
  ·exact h.r1.Au H
  ·exact h.r2.Au H
  ·obtain⟨k,hk,rfl⟩:=DW hc;exact(h.PE k (by rw[h.cl];exact hk) hk).Au H
 have E:∀f,D.Au f->FK M L (FK L M f)=f:=λf H=>by
  obtain⟨i,m,h1,h2⟩:=Y f H;rw[KJ L M i f m h.GF.I9 h1 h2,KJ M L i m f h.GF.Pj h2 h1]
 have W:∀d,(D.ren (FK L M)).Au d->∃i,∃hi:i<M.length,∃aA:i<L.length,M[i]'hi=d/\L[i]'aA=FK M L d:=λd z=>by
  obtain⟨f,h1,rfl⟩:=DS.cQ z;obtain⟨i,m,h2,h3⟩:=Y f h1;rw[E f h1,KJ L M i f m h.GF.I9 h2 h3];obtain⟨k1,k2⟩:=Hw.1 h2;obtain⟨k3,k4⟩:=Hw.1 h3;exact⟨i,k3,k1,k4,k2⟩
 have I:∀d,(D.ren (FK L M)).Au d->d∈M:=λd z=>by
  obtain⟨i,k1,_,k2,_⟩:=W d z;rw[<-k2];exact BY k1
 have hv:C4 wr b2 (D.ren (FK L M)) (λm=>F (FK M L m)) v1 v2 vc O aD:=by
  refine⟨h.Ag,?_,?_,?_,?_,?_,?_⟩
  ·have:=h.d1;rw[q1]at this;exact this
  ·have:=h.d2;rw[q2]at this;exact this
  ·have:=h.ch;simpa[DS.ren] using this
  ·intro i hi;(have aA:i<cs.length:=by rw[h.cl];simpa[DS.ren] using hi);obtain⟨v,k1,k2⟩:=h.Da i aA;refine⟨v,k1,?_⟩;subst q3;exact k2
  ·intro d z;obtain⟨i,k1,k2,k3,k4⟩:=W d z;have:=h.GF.BN i k1 k2;rw[k3,k4]at this;exact this
  ·exact λf d g H z=>h.GF.Gi f d g (I f H) (I d z)
 refine⟨FK L M,λm=>F (FK M L m),C9 b2 (D.ren (FK L M)) v1 v2 vc O aD,⟨_,_,_,_,_,hv,λ_ h=>h⟩,λk hk=>⟨?_,hv.lt hk⟩,h.Ak,λf H=>by simp only[E f H],λf d H z e=>by rw[<-E f H,<-E d z,e]⟩;cases hk using C9.bL with
 | Ag=>exact h.nb
 | dir e=>exact h.SJ _ e
 | A8 e=>exact h.SH _ e
 | Ak e=>exact h.Oz _ e
 | Da hm e=>exact h.SG _ hm _ e
 | BN H=>exact h.GF.OD _ (I _ H)
 | byt H e=>exact h.GF.OE _ (I _ H) _ e
def A2x(w:World)(n:DN)(F:Nat->FC)(h:Nat->Value)(W:World)(d:W=(((w.alloc (.cells #[.slice none 0 0,.slice none 0 0,.slice none 0 0,.int .i64 n.AG,.int .i64 n.AY,.int .i64 n.BX,.int .i64 n.BV,.int .i64 n.Bv,.int .i64 n.Bm,.int .i64 n.fulls,.bool n.AF] 95)).alloc (.cells #[.slice none 0 0] 138)).alloc (.cells #[.slice none 0 0] 138)).drew):
 CS w.heap.size W (w.heap.size+1) (w.heap.size+2) F [] [] (.slice none 0 0) (.slice none 0 0) h/\AN W w.heap.size (.slice none 0 0) (.slice none 0 0) (.slice none 0 0) n/\A3 (λ_=>False) w W:=by
 subst d;refine⟨⟨?_,?_,by omega,CL _ _ _ _,CL _ _ _ _,by simp[Value.ownBlock],by simp,by simp,by simp,by simp,by simp,by omega,by omega,by simp[Value.ownBlock],by simp[Value.ownBlock],by simp,by simp⟩,?_,(((A3.I _ w).ai _).ai _).ai _ |>.af⟩
 ·show ((((w.alloc _).alloc _).alloc _).heap[w.heap.size+1]?)=_;rw[Dd _ _ _ (by simp)];have:=BO (w.alloc (.cells #[.slice none 0 0,.slice none 0 0,.slice none 0 0,.int .i64 n.AG,.int .i64 n.AY,.int .i64 n.BX,.int .i64 n.BV,.int .i64 n.Bv,.int .i64 n.Bm,.int .i64 n.fulls,.bool n.AF] 95)) (.cells #[.slice none 0 0] 138);rw[N1]at this;exact this
 ·show ((((w.alloc _).alloc _).alloc _).heap[w.heap.size+2]?)=_;have:=BO ((w.alloc (.cells #[.slice none 0 0,.slice none 0 0,.slice none 0 0,.int .i64 n.AG,.int .i64 n.AY,.int .i64 n.BX,.int .i64 n.BV,.int .i64 n.Bv,.int .i64 n.Bm,.int .i64 n.fulls,.bool n.AF] 95)).alloc (.cells #[.slice none 0 0] 138)) (.cells #[.slice none 0 0] 138);rw[N1,N1]at this;exact this
 ·show ((((w.alloc _).alloc _).alloc _).heap[w.heap.size]?)=_;rw[Dd _ _ _ (by simp;omega),Dd _ _ _ (by simp)];exact BO _ _
def A2w{w W w2 z:World}{bo bm:Nat}{D:DS}{F:Nat->FC}{vo vm v1 v2 aJ aE:Value}{aG aH aL:Nat->Value}{L M aN aM:List Nat}{e1 e2:List AO}(aI:CS w.heap.size W bo bm F [] [] (.slice none 0 0) (.slice none 0 0) aG)(hb:AN W w.heap.size (.slice none 0 0) (.slice none 0 0) (.slice none 0 0) D.n)(hc:A3 (λ_=>False) w W)(E:Ey w.heap.size W bo bm F [] [] (.slice none 0 0) (.slice none 0 0) aG D.A4 D.A4.length D.A4.length v1 w2 L M vo vm aH e1)(d:Ey w.heap.size w2 bo bm F L M vo vm aH D.AP D.AP.length D.AP.length v2 z aN aM aJ aE aL e2):
 AN z w.heap.size (.slice none 0 0) (.slice none 0 0) (.slice none 0 0) D.n/\CR w.heap.size w ((z.setCell ⟨w.heap.size,0,none⟩ v1).setCell ⟨w.heap.size,1,none⟩ v2) w.heap.size bo bm D F 0 aN aM aJ aE v1 v2 (.slice none 0 0) aL [] e1 e2 []:=by
 have Y:=E.cs;have c2:=E.cF hc aI;have c3:=d.cF c2 Y;have aA:AN w2 w.heap.size (.slice none 0 0) (.slice none 0 0) (.slice none 0 0) D.n:=(E.Ak.Ap _ hb.lt (aI.b7 hb (.inr (.inr rfl)))).trans hb;have aB:AN z w.heap.size (.slice none 0 0) (.slice none 0 0) (.slice none 0 0) D.n:=(d.Ak.Ap _ aA.lt (Y.b7 aA (.inr (.inr rfl)))).trans aA;refine⟨aB,?_⟩;have aK:=(aB.s0 v1).s1 v2;have aD:A3 (One w.heap.size) z ((z.setCell ⟨w.heap.size,0,none⟩ v1).setCell ⟨w.heap.size,1,none⟩ v2):=((A3.I (One w.heap.size) z).aq rfl 0 _).aq rfl 1 _;generalize hW4:(z.setCell ⟨w.heap.size,0,none⟩ v1).setCell ⟨w.heap.size,1,none⟩ v2=W4 at aK aD ⊢;have h:∀(k:Nat) (c:Array Value) (e:Nat),z.heap[k]?=some (Obj.cells c e (0,0))->e≠95->W4.heap[k]?=z.heap[k]?:=λk c e hk he=>
  aD.Ap k (Bz hk) (λe2=>BT hk aB he e2)
 have d1:=Az E.EP λg H=>by
  obtain⟨c,hh⟩:=Be E.EP H;exact d.Ak.Ap g (Bz hh) (Y.b7 hh (.inl rfl))
 have sz:=hc.Ao;have sz2:=E.Ak.Ao;have aF:Ren aN aM D.A4 e1:=by
  obtain⟨o,I,_⟩:=d.GA;obtain⟨o2,q2,_⟩:=d.JC;have:=E.ren;rw[Cl]at this;rw[I,q2];exact this.aa
 refine⟨?_,aK,?_,?_,aF,?_,CL _ _ _ _,rfl,by simp,by simp,?_,?_,?_,As _,?_,?_,by simp[Value.ownBlock],by simp⟩
 ·refine d.cs.aP (λk hk=>?_) (λk hk=>?_)
  ·obtain⟨c,e,I,q2,q3,q4⟩:=d.cs.ct (.inl hk);exact h _ _ _ I q4
  ·obtain⟨c,e,I,q2,q3,q4⟩:=d.cs.ct (.inr hk);exact h _ _ _ I q4
 ·exact Az d1 λg H=>by
   obtain⟨c,hh⟩:=Be d1 H;exact h _ _ _ hh (by decide)
 ·exact Az d.EP λg H=>by
   obtain⟨c,hh⟩:=Be d.EP H;exact h _ _ _ hh (by decide)
 ·have:=d.ren;rw[Cl]at this;exact this
 ·obtain⟨o,I,q2,_⟩:=E.GA;obtain⟨o2,q3,q4,_⟩:=d.GA;rw[q3,I];simp;omega
 ·intro f O;obtain⟨o,I,_,q2⟩:=E.GA;obtain⟨o2,q3,_,q4⟩:=d.GA;rw[q3,I]at O;rcases AV.1 O with O|O
  ·simp at O;exact .inl (q2 f O)
  ·exact .inr (.inl (q4 f O))
 ·exact c3.Aw aD (λx hx hlt=>by have:x=w.heap.size:=hx;omega)
 ·intro g H;have:=E.AU g H;omega
 ·intro g H;have:=d.AU g H;omega
end
section
open Go.RowKit
def IK(r:Nat->Nat)(es:List AO):(ren r es).length=es.length:=by simp[ren]
def RE(r:Nat->Nat):ren r []=[]:=rfl
def M9(r:Nat->Nat)(a b:List AO):ren r (a++b)=ren r a++ren r b:=by simp[ren]
def Yg(r:Nat->Nat)(es:List AO)(k:Nat):(ren r es).take k=ren r (es.take k):=by simp[ren,List.map_take]
def Yi(r:Nat->Nat)(es:List AO)(k:Nat):(ren r es).drop k=ren r (es.drop k):=by simp[ren,List.map_drop]
def O9(r:Nat->Nat)(es:List AO)(name:ByteArray):B4 (ren r es) name=B4 es name:=by
 induction es with
 | nil=>rfl
 | cons e t ih=>simp only[ren,He,B4]at ih ⊢;rw[ih]
def JA(r:Nat->Nat)(es:List AO)(name:ByteArray):lookup (ren r es) name=(lookup es name).map r:=by
 induction es with
 | nil=>rfl
 | cons e t ih=>
  simp only[ren,He,lookup]at ih ⊢;by_cases h:e.1=name
  ·simp[h]
  ·simp[h,ih]
def RF(r:Nat->Nat)(es:List AO)(k:Nat):(ren r es)[k]?=(es[k]?).map λe=>(e.1,r e.2):=by simp[ren]
def Yh(r:Nat->Nat)(es:List AO)(i:Nat)(name:ByteArray)(k:Nat):Dm (ren r es) i name k=ren r (Dm es i name k):=by
 induction k with
 | zero=>rfl
 | succ k ih=>
  simp only[Dm,ih,RF,M9];cases es[k]? with
  | none=>simp[RE]
  | some e=>
   simp only[HM];by_cases h:k≠i/\e.1≠name
   ·rw[Ai h,Ai h];rfl
   ·rw[Ae h,Ae h,RE]
def Yj(r:Nat->Nat)(es:List AO)(k:Nat):EJ (ren r es) k=EJ es k:=by
 induction k with
 | zero=>rfl
 | succ k ih=>
  simp only[EJ,ih,RF];cases es[k]?<;>rfl
def RG(r:Nat->Nat)(es:List AO):dList (ren r es)=dList es:=by unfold dList;rw[IK,Yj]
def QE(r:Nat->Nat)(G F:Nat->FC)(es:List AO)(h:∀f,Dg f es->G (r f)=F f):B6 G (ren r es)=B6 F es:=by
 induction es with
 | nil=>rfl
 | cons e t ih=>
  have H:=h e.2 ⟨e,by simp,rfl⟩;have d:=ih λf z=>h f (by obtain⟨x,I,E⟩:=z;exact⟨x,Bw _ I,E⟩);simp only[ren,He,B6]at d ⊢;rw[H,d]
def Tj{es:List AO}{name:ByteArray}{f:Nat}(h:lookup es name=some f):Dg f es:=by
 induction es with
 | nil=>cases h
 | cons e t ih=>
  simp only[lookup]at h;by_cases d:e.1=name
  ·simp[d]at h;exact⟨e,by simp,h⟩
  ·simp[d]at h;obtain⟨x,E,z⟩:=ih h;exact⟨x,Bw _ E,z⟩
def ren_congr{r d:Nat->Nat}{es:List AO}(h:∀f,Dg f es->d f=r f):ren d es=ren r es:=by
 unfold ren;exact Ng λe z=>by rw[h e.2 ⟨e,z,rfl⟩]
def DS.ren_congr{r z:Nat->Nat}{D:DS}(h:∀f,D.Au f->z f=r f):D.ren z=D.ren r:=by
 unfold DS.ren;rw[Go.Proofs.YtodcnkbblippnaaGreatDoor.ren_congr λf d=>h f (.inl d),Go.Proofs.YtodcnkbblippnaaGreatDoor.ren_congr (es:=D.AP) λf d=>h f (.inr (.inl d))]
 congr 1
 exact Ng λc E=>Go.Proofs.YtodcnkbblippnaaGreatDoor.ren_congr λf d=>h f (.inr (.inr ⟨c,E,d⟩))
def B3(w:World)(b:Nat)(D:DS)(F:Nat->FC)(Ft:Nat->Prop):Prop:=
 ∃r G,Db w b (D.ren r) G Ft/\(∀f,D.Au f->G (r f)=F f)/\∀f d,D.Au f->D.Au d->r f=r d->f=d
def Eu(w:World)(Ft:Nat->Prop)(w':World)(b:Nat)(D':DS)(F':Nat->FC):Prop:=
 A3 Ft w w'/\∃d,B3 w' b D' F' d/\(∀k,d k->k<w'.heap.size)/\∀k,d k->Ft k\/w.heap.size<=k
def B3.aP{w w':World}{b:Nat}{D:DS}{F:Nat->FC}{Ft:Nat->Prop}(h:B3 w b D F Ft)(H:G4 Ft w w'):B3 w' b D F Ft:=by
 obtain⟨r,G,z,d,E⟩:=h;exact⟨r,G,z.aP H,d,E⟩
def B3.Ag{w:World}{b:Nat}{D:DS}{F:Nat->FC}{Ft:Nat->Prop}(h:B3 w b D F Ft):∃E z d,AN w b E z d D.n:=by
 obtain⟨r,G,⟨E,z,d,vals,VB,H,_⟩,_⟩:=h;exact⟨E,z,d,H.Ag⟩
def B3.of{w:World}{b:Nat}{D:DS}{F:Nat->FC}{Ft:Nat->Prop}(h:Db w b D F Ft):B3 w b D F Ft:=by
 refine⟨id,F,?_,λ_ _=>rfl,λ_ _ _ _ h=>h⟩;have:D.ren id=D:=by
  have e:∀es,Go.Proofs.YtodcnkbblippnaaGreatDoor.ren id es=es:=λes=>by simp[Go.Proofs.YtodcnkbblippnaaGreatDoor.ren]
  have d:=funext e;unfold DS.ren;rw[d];simp
 rw[this];exact h
def Dr.bk{w w':World}{Ft:Nat->Prop}{b:Nat}{H D':DS}{E F':Nat->FC}{r:Nat->Nat}(h:Dr w Ft w' b H E)(L:H=D'.ren r)(hG:∀f,D'.Au f->E (r f)=F' f)(hi:∀f z,D'.Au f->D'.Au z->r f=r z->f=z):Eu w Ft w' b D' F':=by
 obtain⟨W,d,I,Y,O⟩:=h;subst L;exact⟨W,d,⟨r,E,I,hG,hi⟩,Y,O⟩
def JY(D:DS)(r:Nat->Nat):(D.ren r).A4.length=D.A4.length/\(D.ren r).AP.length=D.AP.length/\(D.ren r).Av.length=D.Av.length/\IF (D.ren r).Av=IF D.Av:=by
 refine⟨IK _ _,IK _ _,by simp[DS.ren],?_⟩;unfold IF DS.ren;rw[Vv]
 congr 1
 exact Ng λc _=>IK r c
section
variable {w:World} {b:Nat} {D:DS} {F:Nat->FC} {Ft:Nat->Prop}
def ZD(room:Int)(w:World):
 Af 21 #[A0 room] w (Aj (A5 w.heap.size) λw'=>B3 w' w.heap.size ⟨[],[],[],K1 room⟩ F (One w.heap.size)/\A3 Ab w w'/\w'.heap.size=w.heap.size+1):=by
 refine(ZC room w).mono ?_;rintro e w'⟨L,z,O,I⟩;refine⟨L,B3.of ⟨_,_,_,[],λ_=>.slice none 0 0,⟨z,CL _ _ _ _,CL _ _ _ _,CL _ _ _ _,by intro i W;simp at W,?_,?_⟩,?_⟩,I,O⟩
 ·rintro f (⟨e,d,_⟩|⟨e,d,_⟩|⟨c,h,_⟩)
  ·cases d
  ·cases d
  ·cases h
 ·intro f f' g _ _ E;simp[Value.ownBlock]at E
 ·intro k H;cases H using C9.bL with
  | Ag=>rfl
  | dir e=>simp[Value.ownBlock]at e
  | A8 e=>simp[Value.ownBlock]at e
  | Ak e=>simp[Value.ownBlock]at e
  | Da hm e=>cases hm
  | BN hf=>rcases hf with⟨e,d,_⟩|⟨e,d,_⟩|⟨c,h,_⟩<;>contradiction
  | byt hf e=>simp[Value.ownBlock]at e
def WU(h:B3 w b D F Ft):
 Af 86 #[A5 b] w (Aj (A0 (DK D).1) λw'=>Eu w Ft w' b (DK D).2 F):=by
 obtain⟨r,G,h1,O,h3⟩:=h;refine(WT w b _ G Ft h1).mono ?_;rintro e w'⟨Y,q2⟩;have W:(DK (D.ren r)).2=(DK D).2.ren r:=by
  unfold DK;by_cases H:(bg D.n).2.1=0
  ·have E:(bg (D.ren r).n).2.1=0:=H;rw[Ai H,Ai E];rfl
  ·have E:¬(bg (D.ren r).n).2.1=0:=H;rw[Ae H,Ae E];rfl
 have z:∀f,(DK D).2.Au f->D.Au f:=by
  intro f d;unfold DK at d;simp only at d;split at d
  ·rcases d with d|d|⟨c,hc,_⟩
   ·exact .inl d
   ·exact .inl d
   ·cases hc
  ·exact d
 exact⟨Y,q2.bk W (λf d=>O f (z f d)) λf L d I=>h3 f L (z f d) (z L I)⟩
def G0{name:ByteArray}{f:Nat}(h:lookup D.A4 name=some f):D.Au f:=.inl (Tj h)
def QL(h:B3 w b D F Ft)(name:ByteArray):
 Af 85 #[A5 b,.string name] w (Aj (A0 (CG D F name).1) λw'=>Eu w Ft w' b (CG D F name).2.1 (CG D F name).2.2):=by
 obtain⟨r,G,h1,H,h3⟩:=h;refine(WR w b _ G Ft h1 name).mono ?_;rintro e w'⟨L,W⟩;have O:lookup (D.ren r).A4 name=(lookup D.A4 name).map r:=JA r D.A4 name;cases hx:lookup D.A4 name with
 | none=>
  rw[hx]at O;have e1:CG (D.ren r) G name=(8,D.ren r,G):=by unfold CG;rw[O];rfl
  have Y:CG D F name=(8,D,F):=by unfold CG;rw[hx]
  rw[e1]at L W;rw[Y];exact⟨L,W.bk rfl H h3⟩
 | some f=>
  rw[hx]at O;have e1:CG (D.ren r) G name=((bg D.n).2.1,{D with n:=(bg D.n).2.2}.ren r,if (bg D.n).2.1=0 then upd G (r f) ((G (r f)).1,(G (r f)).1.length) else G):=by unfold CG;rw[O];rfl
  have Y:CG D F name=((bg D.n).2.1,{D with n:=(bg D.n).2.2},if (bg D.n).2.1=0 then upd F f ((F f).1,(F f).1.length) else F):=by unfold CG;rw[hx]
  rw[e1]at L W;rw[Y];refine⟨L,W.bk rfl (λd z=>?_) h3⟩;have hf:=G0 hx;show (if (bg D.n).2.1=0 then upd G (r f) ((G (r f)).1,(G (r f)).1.length) else G) (r d)=(if (bg D.n).2.1=0 then upd F f ((F f).1,(F f).1.length) else F) d;by_cases I:(bg D.n).2.1=0
  ·rw[Ai I,Ai I];unfold upd;by_cases E:d=f
   ·subst E;simp[H d hf]
   ·have:r d≠r f:=λe=>E (h3 d f z hf e);simp only[this,E,C7];exact H d z
  ·rw[Ae I,Ae I];exact H d z
def NH{r:Nat->Nat}{G:Nat->FC}(H:∀f,D.Au f->G (r f)=F f)(I:∀f d,D.Au f->D.Au d->r f=r d->f=d){f:Nat}(E:D.Au f)(c:FC):∀d,D.Au d->upd G (r f) c (r d)=upd F f c d:=λd z=>by
 unfold upd;by_cases h:d=f
 ·subst h;simp
 ·have:r d≠r f:=λe=>h (I d f z E e);simp only[this,h,C7];exact H d z
def Uk{r:Nat->Nat}{G:Nat->FC}(L:∀f,D.Au f->G (r f)=F f)(O:∀f d,D.Au f->D.Au d->r f=r d->f=d){f:Nat}(I:D.Au f)(data:ByteArray)(h e:Int):
 (BB (D.ren r) G (r f) data h e).1=(BB D F f data h e).1/\(BB (D.ren r) G (r f) data h e).2.1=(BB D F f data h e).2.1.ren r/\(∀d,D.Au d->(BB (D.ren r) G (r f) data h e).2.2 (r d)=(BB D F f data h e).2.2 d)/\(∀d,(BB D F f data h e).2.1.Au d↔D.Au d):=by
 have H:G2 (D.ren r) G=G2 D F:=by
  unfold G2;have:B6 G (D.ren r).A4=B6 F D.A4:=QE r G F D.A4 λf I=>L f (.inl I);rw[this];rfl
 unfold BB;rw[H];by_cases W:h>G2 D F
 ·simp only[W,Ch];rw[L f I];refine⟨by first|trivial|rfl,?_,λd E=>NH L O I _ d E,λd=>?_⟩
  ·by_cases z:e=0
   ·rw[Ai z,Ai z];rfl
   ·rw[Ae z,Ae z]
  ·by_cases z:e=0
   ·rw[Ai z];exact Iff.rfl
   ·rw[Ae z]
 ·simp only[W,C7];rw[L f I];exact⟨by first|trivial|rfl,by first|trivial|rfl,λd E=>NH L O I _ d E,λ_=>by first|trivial|exact Iff.rfl⟩
def A3G(h:B3 w b D F Ft)(name data:ByteArray)(hroom : -4611686018427387904<=D.n.AG/\D.n.AG<=9223372036854775807)(hu:B6 F D.A4<=4611686018427387904)(hp:0<=D.n.Bv/\D.n.Bv<=9223372036854775807)(hl:∀f,lookup D.A4 name=some f->(F f).1.length+data.size<=70368744177664):
 Af 84 #[A5 b,.string name,.string data] w (Aj (A0 (Bp D F name data).1) λw'=>Eu w Ft w' b (Bp D F name data).2.1 (Bp D F name data).2.2):=by
 obtain⟨r,G,h1,h2,h3⟩:=h;have z:lookup (D.ren r).A4 name=(lookup D.A4 name).map r:=JA r D.A4 name
 refine(A3F w b _ G Ft h1 name data hroom (by
  have:B6 G (D.ren r).A4=B6 F D.A4:=QE r G F D.A4 λf O=>h2 f (.inl O)
  rw[this];exact hu) hp (λf O=>by
   rw[z]at O;cases hx:lookup D.A4 name with
   | none=>rw[hx]at O;cases O
   | some f0=>
    rw[hx]at O;simp at O;subst O
    rw[h2 f0 (G0 hx)];exact hl f0 hx)).mono ?_
 rintro e w'⟨L,W⟩;cases hx:lookup D.A4 name with
 | none=>
  rw[hx]at z;have e1:Bp (D.ren r) G name data=(8,D.ren r,G):=by unfold Bp;rw[z];rfl
  have Y:Bp D F name data=(8,D,F):=by unfold Bp;rw[hx]
  rw[e1]at L W;rw[Y];exact⟨L,W.bk rfl h2 h3⟩
 | some f=>
  rw[hx]at z;have O:=G0 hx;have aA:=O;by_cases c1:(bg D.n).1=true
  ·have e1:Bp (D.ren r) G name data=BB ({D with n:=(bg D.n).2.2}.ren r) G (r f) data data.size (bg D.n).2.1:=by
    unfold Bp;rw[z];show (if (bg D.n).1=true then _ else _)=_;rw[Ai c1];rfl
   have Y:Bp D F name data=BB {D with n:=(bg D.n).2.2} F f data data.size (bg D.n).2.1:=by
    unfold Bp;rw[hx];show (if (bg D.n).1=true then _ else _)=_;rw[Ai c1]
   rw[e1]at L W;rw[Y];obtain⟨k1,k2,k3,k4⟩:=Uk (D:={D with n:=(bg D.n).2.2}) (r:=r) (G:=G) (F:=F) h2 h3 aA data data.size (bg D.n).2.1;rw[k1]at L;exact⟨L,W.bk k2 (λE d=>k3 E ((k4 E).1 d)) λE I d H=>h3 E I ((k4 E).1 d) ((k4 I).1 H)⟩
  ·by_cases c2:(bg D.n).2.2.AF=false/\0<data.size
   ·have e1:Bp (D.ren r) G name data=BB ({D with n:=(bg D.n).2.2}.ren r) G (r f) data ((bg D.n).2.2.Bv % data.size) (bg D.n).2.1:=by
     unfold Bp;rw[z];show (if (bg D.n).1=true then _ else if (bg D.n).2.2.AF=false/\0<data.size then _ else _)=_;rw[Ae c1,Ai c2];rfl
    have Y:Bp D F name data=BB {D with n:=(bg D.n).2.2} F f data ((bg D.n).2.2.Bv % data.size) (bg D.n).2.1:=by
     unfold Bp;rw[hx];show (if (bg D.n).1=true then _ else if (bg D.n).2.2.AF=false/\0<data.size then _ else _)=_;rw[Ae c1,Ai c2]
    rw[e1]at L W;rw[Y];obtain⟨k1,k2,k3,k4⟩:=Uk (D:={D with n:=(bg D.n).2.2}) (r:=r) (G:=G) (F:=F) h2 h3 aA data ((bg D.n).2.2.Bv % data.size) (bg D.n).2.1;rw[k1]at L;exact⟨L,W.bk k2 (λE d=>k3 E ((k4 E).1 d)) λE I d H=>h3 E I ((k4 E).1 d) ((k4 I).1 H)⟩
   ·have e1:Bp (D.ren r) G name data=((bg D.n).2.1,{D with n:=(bg D.n).2.2}.ren r,G):=by
     unfold Bp;rw[z];show (if (bg D.n).1=true then _ else if (bg D.n).2.2.AF=false/\0<data.size then _ else _)=_;rw[Ae c1,Ae c2];rfl
    have Y:Bp D F name data=((bg D.n).2.1,{D with n:=(bg D.n).2.2},F):=by
     unfold Bp;rw[hx];show (if (bg D.n).1=true then _ else if (bg D.n).2.2.AF=false/\0<data.size then _ else _)=_;rw[Ae c1,Ae c2]
    rw[e1]at L W;rw[Y];exact⟨L,W.bk rfl h2 h3⟩
def JR{es:List AO}{n:DN}(z:∀f,Dg f es->D.Au f)(f:Nat)(d:({D with A4:=es,Av:=D.Av++[es],n:=n}:DS).Au f):D.Au f:=by
 rcases d with d|d|⟨c,h,d⟩
 ·exact z f d
 ·exact .inr (.inl d)
 ·rcases AV.1 h with h|h
  ·exact .inr (.inr ⟨c,h,d⟩)
  ·simp at h;subst h;exact z f d
def NJ(r:Nat->Nat)(es:List AO)(n:DN):({D.ren r with A4:=ren r es,Av:=(D.ren r).Av++[ren r es],n:=n}:DS)=({D with A4:=es,Av:=D.Av++[es],n:=n}:DS).ren r:=by
 simp[DS.ren]
def Yo(h:B3 w b D F Ft)(name:ByteArray)(hs:D.A4.length<1099511627776/\D.Av.length<1099511627776):
 Af 193 #[A5 b,.string name] w (Aj (A0 (Dh D name).1) λw'=>Eu w Ft w' b (Dh D name).2 F):=by
 obtain⟨r,G,h1,Y,h3⟩:=h;obtain⟨l1,l2,l3,l4⟩:=JY D r;refine(Yn w b _ G Ft h1 name (by rw[l1,l3];exact hs)).mono ?_;rintro e w'⟨H,I⟩;have E:B4 (D.ren r).A4 name=B4 D.A4 name:=O9 r D.A4 name;by_cases c1:B4 D.A4 name<0
 ·have W:Dh (D.ren r) name=(8,D.ren r):=by unfold Dh;rw[E,Ai c1]
  have L:Dh D name=(8,D):=by unfold Dh;rw[Ai c1]
  rw[W]at H I;rw[L];exact⟨H,I.bk rfl Y h3⟩
 ·by_cases c2:(bg D.n).1=true
  ·have L:Dh D name=((bg D.n).2.1,{D with A4:=D.A4.take (B4 D.A4 name).toNat++D.A4.drop ((B4 D.A4 name).toNat+1),Av:=D.Av++[D.A4.take (B4 D.A4 name).toNat++D.A4.drop ((B4 D.A4 name).toNat+1)],n:=(bg D.n).2.2}):=by
    unfold Dh;rw[Ae c1];simp only[c2,Ch]
   have W:Dh (D.ren r) name=((bg D.n).2.1,{D with A4:=D.A4.take (B4 D.A4 name).toNat++D.A4.drop ((B4 D.A4 name).toNat+1),Av:=D.Av++[D.A4.take (B4 D.A4 name).toNat++D.A4.drop ((B4 D.A4 name).toNat+1)],n:=(bg D.n).2.2}.ren r):=by
    have d:(bg (D.ren r).n).1=true:=c2;unfold Dh;rw[E,Ae c1];simp only[d,Ch];rw[<-NJ,M9,<-Yg,<-Yi];rfl
   rw[W]at H I;rw[L];have z:∀f,Dg f (D.A4.take (B4 D.A4 name).toNat++D.A4.drop ((B4 D.A4 name).toNat+1))->D.Au f:=by
    rintro f⟨x,O,he⟩;rcases AV.1 O with O|O
    ·exact .inl ⟨x,HQ O,he⟩
    ·exact .inl ⟨x,LB O,he⟩
   exact⟨H,I.bk rfl (λf hf=>Y f (JR z f hf)) λf f' hf aA=>h3 f f' (JR z f hf) (JR z f' aA)⟩
  ·(have L:Dh D name=((bg D.n).2.1,{D with n:=(bg D.n).2.2}):=by unfold Dh;rw[Ae c1];simp only[c2];rfl);have W:Dh (D.ren r) name=((bg D.n).2.1,{D with n:=(bg D.n).2.2}.ren r):=by
    have d:¬(bg (D.ren r).n).1=true:=c2;unfold Dh;rw[E,Ae c1];simp only[d];rfl
   rw[W]at H I;rw[L];exact⟨H,I.bk rfl Y h3⟩
def Ye(h:B3 w b D F Ft)(old name:ByteArray)(hs:D.A4.length<1099511627776/\D.Av.length<1099511627776):
 Af 242 #[A5 b,.string old,.string name] w (Aj (A0 (CV D old name).1) λw'=>Eu w Ft w' b (CV D old name).2 F):=by
 obtain⟨r,G,h1,h2,h3⟩:=h;obtain⟨l1,l2,l3,l4⟩:=JY D r;refine(Yd w b _ G Ft h1 old name (by rw[l1,l3];exact hs)).mono ?_;rintro e w'⟨E,H⟩;have z:lookup (D.ren r).A4 old=(lookup D.A4 old).map r:=JA r D.A4 old;cases hx:lookup D.A4 old with
 | none=>
  rw[hx]at z;have W:CV (D.ren r) old name=(8,D.ren r):=by unfold CV;rw[z];rfl
  have L:CV D old name=(8,D):=by unfold CV;rw[hx]
  rw[W]at E H;rw[L];exact⟨E,H.bk rfl h2 h3⟩
 | some f=>
  rw[hx]at z;by_cases c1:name=ByteArray.empty
  ·(have W:CV (D.ren r) old name=(8,D.ren r):=by unfold CV;rw[z];simp only[HM];rw[Ai c1]);(have L:CV D old name=(8,D):=by unfold CV;rw[hx];simp only;rw[Ai c1]);rw[W]at E H;rw[L];exact⟨E,H.bk rfl h2 h3⟩
  ·by_cases c2:(bg D.n).1=true
   ·have L:CV D old name=((bg D.n).2.1,{D with A4:=Dm D.A4 (B4 D.A4 old).toNat name D.A4.length++[(name,f)],Av:=D.Av++[Dm D.A4 (B4 D.A4 old).toNat name D.A4.length++[(name,f)]],n:=(bg D.n).2.2}):=by
     unfold CV;rw[hx];simp only;rw[Ae c1];simp only[c2,Ch]
    have W:CV (D.ren r) old name=((bg D.n).2.1,{D with A4:=Dm D.A4 (B4 D.A4 old).toNat name D.A4.length++[(name,f)],Av:=D.Av++[Dm D.A4 (B4 D.A4 old).toNat name D.A4.length++[(name,f)]],n:=(bg D.n).2.2}.ren r):=by
     have I:(bg (D.ren r).n).1=true:=c2;have aB:B4 (D.ren r).A4 old=B4 D.A4 old:=O9 r D.A4 old;unfold CV;rw[z];simp only[HM];rw[Ae c1];simp only[I,Ch];rw[<-NJ,M9,<-Yh,aB,l1];rfl
    rw[W]at E H;rw[L];have O:∀Y,Dg Y (Dm D.A4 (B4 D.A4 old).toNat name D.A4.length++[(name,f)])->D.Au Y:=by
     rintro Y⟨x,d,he⟩;rcases AV.1 d with d | d
     ·exact .inl ⟨x,Ma _ _ _ _ x d,he⟩
     ·simp at d;subst d;cases he;exact G0 hx
    exact⟨E,H.bk rfl (λf hf=>h2 f (JR O f hf)) λf Y hf aA=>h3 f Y (JR O f hf) (JR O Y aA)⟩
   ·(have L:CV D old name=((bg D.n).2.1,{D with n:=(bg D.n).2.2}):=by unfold CV;rw[hx];simp only;rw[Ae c1];simp only[c2];rfl);have W:CV (D.ren r) old name=((bg D.n).2.1,{D with n:=(bg D.n).2.2}.ren r):=by
     have I:¬(bg (D.ren r).n).1=true:=c2;unfold CV;rw[z];simp only[HM];rw[Ae c1];simp only[I];rfl
    rw[W]at E H;rw[L];exact⟨E,H.bk rfl h2 h3⟩
def A2k(h:B3 w b D F Ft)(name:ByteArray)(k:Nat)(hk:¬D.Au k)(hs:D.A4.length<1099511627776/\D.Av.length<1099511627776):
 Calls Tryz.prog 83 #[.pointer (some ⟨b,0,none⟩),.string name] w λe w'=>e=.returned (.int .i64 (CT D name k).1)/\Eu w Ft w' b (CT D name k).2 (upd F k ([],0)):=by
 obtain⟨r,G,h1,h2,h3⟩:=h;obtain⟨l1,l2,l3,l4⟩:=JY D r;have L:∀f,D.Au f->r f<w.heap.size:=by
  obtain⟨vd,vs,vc,vals,VB,hr,_⟩:=h1;intro f d;refine hr.lt (.BN ?_);rcases d with⟨x,E,rfl⟩|⟨x,E,rfl⟩|⟨c,I,x,E,rfl⟩
  ·exact .inl ⟨_,DV E,rfl⟩
  ·exact .inr (.inl ⟨_,DV E,rfl⟩)
  ·exact .inr (.inr ⟨_,DV I,_,DV E,rfl⟩)
 refine(A2j w b _ G Ft h1 name (by rw[l1,l3];exact hs)).mono ?_;rintro e w'⟨f0,q0,q1,q2⟩;have Y:B4 (D.ren r).A4 name=B4 D.A4 name:=O9 r D.A4 name;have hG:∀f,D.Au f->upd G f0 ([],0) (r f)=upd F k ([],0) f:=λf d=>by
  unfold upd;have n1:r f≠f0:=by have:=L f d;omega
  have n2:f≠k:=λe=>hk (e ▸ d);simp only[n1,n2,C7];exact h2 f d
 by_cases c1:name=ByteArray.empty\/B4 D.A4 name≥0
 ·have e1:CT (D.ren r) name f0=(8,D.ren r):=by unfold CT;rw[Y,Ai c1]
  have e2:CT D name k=(8,D):=by unfold CT;rw[Ai c1]
  rw[e1]at q1 q2;rw[e2];exact⟨q1,q2.bk rfl hG h3⟩
 ·by_cases c2:(bg D.n).1=true
  ·have e2:CT D name k=((bg D.n).2.1,{D with A4:=D.A4++[(name,k)],Av:=D.Av++[D.A4++[(name,k)]],n:=(bg D.n).2.2}):=by
    unfold CT;rw[Ae c1];simp only[c2,Ch]
   have z:∀f,D.Au f->(λf=>if f=k then f0 else r f) f=r f:=λf d=>by
    have n2:f≠k:=λe=>hk (e ▸ d);simp only[n2,C7]
   have aA:D.ren (λf=>if f=k then f0 else r f)=D.ren r:=DS.ren_congr z;have e1:CT (D.ren r) name f0=((bg D.n).2.1,{D with A4:=D.A4++[(name,k)],Av:=D.Av++[D.A4++[(name,k)]],n:=(bg D.n).2.2}.ren (λf=>if f=k then f0 else r f)):=by
    have W:(bg (D.ren r).n).1=true:=c2;unfold CT;rw[Y,Ae c1];simp only[W,Ch];rw[<-NJ,aA,M9];have e3:ren (λf=>if f=k then f0 else r f) D.A4=(D.ren r).A4:=by
     have:=EK DS.A4 aA;exact this
    rw[e3];(have e4:ren (λf=>if f=k then f0 else r f) [(name,k)]=[(name,f0)]:=by simp[ren]);rw[e4];rfl
   rw[e1]at q1 q2;rw[e2];have H:∀f,({D with A4:=D.A4++[(name,k)],Av:=D.Av++[D.A4++[(name,k)]],n:=(bg D.n).2.2}:DS).Au f->D.Au f\/f=k:=by
    have key:∀f,Dg f (D.A4++[(name,k)])->D.Au f\/f=k:=by
     rintro f⟨x,E,rfl⟩;rcases AV.1 E with E|E
     ·exact .inl (.inl ⟨x,E,rfl⟩)
     ·simp at E;subst E;exact .inr rfl
    rintro f (d|d|⟨c,I,d⟩)
    ·exact key f d
    ·exact .inl (.inr (.inl d))
    ·rcases AV.1 I with I|I
     ·exact .inl (.inr (.inr ⟨c,I,d⟩))
     ·simp at I;subst I;exact key f d
   refine⟨q1,q2.bk rfl (λf d=>?_) λf f' d aB e=>?_⟩
   ·rcases H f d with h|h
    ·simp only[z f h];exact hG f h
    ·subst h;simp[upd]
   ·rcases H f d with h|h<;>rcases H f' aB with O | O
    ·simp only[z f h,z f' O]at e;exact h3 f f' h O e
    ·subst O;simp only[z f h,Ch]at e;have:=L f h;omega
    ·subst h;simp only[z f' O,Ch]at e;have:=L f' O;omega
    ·rw[h,O]
  ·(have e2:CT D name k=((bg D.n).2.1,{D with n:=(bg D.n).2.2}):=by unfold CT;rw[Ae c1];simp only[c2];rfl);have e1:CT (D.ren r) name f0=((bg D.n).2.1,{D with n:=(bg D.n).2.2}.ren r):=by
    have W:¬(bg (D.ren r).n).1=true:=c2;unfold CT;rw[Y,Ae c1];simp only[W];rfl
   rw[e1]at q1 q2;rw[e2];exact⟨q1,q2.bk rfl hG h3⟩
def YB(h:B3 w b D F Ft)(name:ByteArray)(p n:Int):
 Af 82 #[A5 b,.string name,A0 p,A0 n] w (Aj (.tuple #[.string ⟨(F6 D F name p n).1.toArray⟩,A0 (F6 D F name p n).2]) λw'=>w=w'):=by
 obtain⟨r,G,H,E,h3⟩:=h;have d:lookup (D.ren r).A4 name=(lookup D.A4 name).map r:=JA r D.A4 name;have z:F6 (D.ren r) G name p n=F6 D F name p n:=by
  unfold F6;rw[d];cases hx:lookup D.A4 name with
  | none=>rfl
  | some f=>simp only[HM,E f (G0 hx)]
 have:=YA w b _ G Ft H name p n
 rwa [z]at this
def NR(h:B3 w b D F Ft)(name:ByteArray):
 Af 81 #[A5 b,.string name] w (Aj (.tuple #[A0 (CH D F name).1,A0 (CH D F name).2]) λw'=>w=w'):=by
 obtain⟨r,G,W,I,h3⟩:=h;have z:lookup (D.ren r).A4 name=(lookup D.A4 name).map r:=JA r D.A4 name;have H:CH (D.ren r) G name=CH D F name:=by
  unfold CH;rw[z];cases hx:lookup D.A4 name with
  | none=>rfl
  | some f=>simp only[HM,I f (G0 hx)]
 obtain⟨vd,L,E,d,Y,O,_⟩:=W;have:=Xt w b _ G vd L E d Y O name
 rwa [H]at this
def A0d(h:B3 w b D F Ft)(H:D.A4.length<1099511627776):
 Af 76 #[A5 b] w λe w'=>∃v,e=.returned v/\w'.ownsRow 0 9 1 v D.A4.length (FG (dList D.A4))/\A3 Ab w w'/\(∀g,v.ownBlock=some g->w.heap.size<=g):=by
 obtain⟨r,G,E,h2,h3⟩:=h;obtain⟨d,l2,l3,l4⟩:=JY D r;have:=ON w b _ G Ft E (by rw[d];exact H);have z:dList (D.ren r).A4=dList D.A4:=RG r D.A4
 rwa [d,z]at this
def A19(h:B3 w b D F Ft):Af 36 #[A5 b] w (Aj (.bool D.n.AF) λw'=>w=w'):=by
 obtain⟨E,z,d,h⟩:=h.Ag;exact A18 w b E z d D.n h
def RM(h:B3 w b D F Ft):Af 50 #[A5 b] w (Aj (A0 D.n.Bm) λw'=>w=w'):=by
 obtain⟨E,z,d,h⟩:=h.Ag;exact Yr w b E z d D.n h
def Le(h:B3 w b D F Ft)(c:Int):Af 35 #[A5 b,A0 c] w (Aj (.tuple #[]) λw'=>Eu w Ft w' b {D with n:={D.n with BX:=if c>0 then wrap64 (D.n.AY+c) else 0}} F):=by
 obtain⟨r,G,⟨vd,H,E,vals,VB,d,z⟩,I,O⟩:=h;refine(A2g w b vd H E D.n c d.Ag).mono ?_;rintro e w'⟨L,Y,W⟩;exact⟨L,(d.bP z Y W).bk (D':={D with n:={D.n with BX:=if c>0 then wrap64 (D.n.AY+c) else 0}}) rfl I O⟩
def MA(h:B3 w b D F Ft)(c p:Int):Af 78 #[A5 b,A0 c,A0 p] w (Aj (.tuple #[]) λw'=>Eu w Ft w' b {D with n:=Dy D.n c p} F):=by
 obtain⟨r,G,⟨W,E,Y,vals,VB,d,L⟩,z,O⟩:=h;refine(A1S w b W E Y D.n c p d.Ag).mono ?_;rintro e w'⟨H,q2,I⟩;exact⟨H,(d.bP L q2 I).bk (D':={D with n:=Dy D.n c p}) rfl z O⟩
def Uo(r:Nat->Nat)(D:DS)(d:Int):G3 (D.ren r) d=ren r (G3 D d):=by
 unfold G3;have:(D.ren r).Av.length=D.Av.length:=by simp[DS.ren]
 rw[this];cases Fj d D.Av.length with
 | zero=>rfl
 | succ k=>
  show (D.Av.map (ren r)).getD k []=ren r (D.Av.getD k []);rw[HR,HR,Q4];cases D.Av[k]?<;>rfl
def Ps(D:DS)(d:Int)(f:Nat)(h:Dg f (G3 D d)):D.Au f:=by
 unfold G3 at h;split at h
 ·exact .inr (.inl h)
 ·rename_i k _;rw[HR]at h;cases hx:D.Av[k]? with
  | none=>rw[hx]at h;obtain⟨e,z,_⟩:=h;cases z
  | some c=>rw[hx]at h;exact .inr (.inr ⟨c,LC hx,h⟩)
def A2s{r:Nat->Nat}{G:Nat->FC}(I:∀f,D.Au f->G (r f)=F f)(L:∀f E,D.Au f->D.Au E->r f=r E->f=E){es:List AO}(z:∀f,Dg f es->D.Au f)(H:List Int)(names:List ByteArray)(k:Nat):
 ∀f,D.Au f->DP (ren r es) H names G k (r f)=DP es H names F k f:=by
 induction k with
 | zero=>exact I
 | succ k ih=>
  intro f h;simp only[DP];cases names[k]? with
  | none=>exact ih f h
  | some name=>
   simp only[JA];cases hx:lookup es name with
   | none=>exact ih f h
   | some f0=>
    have d:=z f0 (Tj hx);simp only[HM,ih f0 d];exact NH ih L d _ f h
def A2q(h:B3 w b D F Ft)(d:Int)(W:Value)(I:List Int)(ht:Km w W I)(aB:∀ad n c x,n≠0->W=.slice ad n c->ad=some x->¬Ft x.block)(O:D.A4.length<1099511627776/\D.AP.length<1099511627776/\D.Av.length<1099511627776/\∀c∈D.Av,c.length<1099511627776)(hdi : -9223372036854775808<=d/\d<=9223372036854775807)(aA:∀t∈I,-9223372036854775808<=t/\t<=9223372036854775807)(hF:∀f,D.Au f->0<=(F f).2/\(F f).2<=(F f).1.length/\(F f).1.length<=1099511627776):
 Af 32 #[A5 b,A0 d,W] w (Aj (.tuple #[]) λw'=>Eu w Ft w' b (Fp D F d I).1 (Fp D F d I).2):=by
 obtain⟨r,G,h1,h2,h3⟩:=h;obtain⟨l1,l2,l3,l4⟩:=JY D r
 refine(A2p w b _ G Ft h1 d W I ht aB (by
  rw[l1,l2,l3];refine⟨O.1,O.2.1,O.2.2.1,λc hc=>?_⟩;obtain⟨c0,Y,rfl⟩:=Cr.1 hc
  rw[IK];exact O.2.2.2 c0 Y) hdi aA (λf' E=>by
  obtain⟨f,L,rfl⟩:=DS.cQ E
  rw[h2 f L];exact hF f L)).mono ?_
 rintro e w'⟨L,q2⟩;have z:∀f,(Fp D F d I).1.Au f->D.Au f:=by
  rintro f (H|H|⟨c,hc,_⟩)
  ·exact Ps D d f H
  ·exact Ps D d f H
  ·cases hc
 refine⟨L,q2.bk (r:=r) ?_ (λf H=>?_) λf f' H E=>h3 f f' (z f H) (z f' E)⟩
 ·simp only[Fp,Uo];rfl
 ·simp only[Fp,Uo,RG,IK];exact A2s h2 h3 (Ps D d) I _ _ f (z f H)
end
def Up(N:Nat):Nat->Prop:=λk=>N<=k
def B3.af{w:World}{b:Nat}{D:DS}{F:Nat->FC}{Ft:Nat->Prop}(h:B3 w b D F Ft):B3 w.drew b D F Ft:=h.aP λ_ _=>rfl
def Eu.dQ{w w':World}{b:Nat}{D:DS}{F:Nat->FC}{Ft:Nat->Prop}(h:Eu w.drew Ft w' b D F):Eu w Ft w' b D F:=by
 obtain⟨d,z⟩:=h;exact⟨⟨d.os,d.Fg,d.Fk,d.Ao,d.Ap⟩,z⟩
section
variable {w:World} {b fb:Nat} {D:DS} {F:Nat->FC} {Ft:Nat->Prop} {T:TypeId} {name:ByteArray} {s:Nat}
def Um(d:Bd w fb T (A5 b) name s)(h:B3 w b D F Ft)(k:Nat)(z:¬D.Au k)(I:D.A4.length<1099511627776/\D.Av.length<1099511627776):
 Af 240 #[A5 fb] w (Aj (A0 (CT D name k).1) λw'=>Eu w Ft w' b (CT D name k).2 (upd F k ([],0))):=by
 have c0:=d.c0;have c1:=d.c1;have CR:=A1 (A2k h.af name k z I);generalize hq:(CT D name k).1=q at CR ⊢
 go_enter func240,ntmps240
 go_wp2;refine FQ (λw'=>A7 w' fb 0 (A5 b)/\A7 w' fb 1 (.string name)) 8
  (Br [0,1,2,3,4,5,6,7] []) (by kernel_rfl) (by kernel_rfl) (λ_ _ _ _ _ h=>h) ⟨c0,c1⟩ ?_
 iterate 8 (refine Ec (v:=?_) rfl (by rfl) ?_ ?_;rotate_left;(· (intro w' E;(try dsimp only at E);go_simp;try with_reducible rfl));(try simp only[An]))
 refine Bl ?_;simp only[DJ,Dq];go_wp2_with (go_at_call 83;refine CR.m ?_;rintro e w'⟨rfl,L⟩;have H:=A1 L);go_ret;exact⟨rfl,H.o.dQ⟩
def WS(d:Bd w fb T (A5 b) name s)(h:B3 w b D F Ft):
 Af 164 #[A5 fb] w (Aj (A0 (CG D F name).1) λw'=>Eu w Ft w' b (CG D F name).2.1 (CG D F name).2.2):=by
 have c0:=d.c0;have c1:=d.c1;have CR:=A1 (QL h.af name);generalize hq:(CG D F name).1=q at CR ⊢
 go_enter func164,ntmps164
 go_wp2;refine FQ (λw'=>A7 w' fb 0 (A5 b)/\A7 w' fb 1 (.string name)) 8
  (Br [0,1,2,3,4,5,6,7] []) (by kernel_rfl) (by kernel_rfl) (λ_ _ _ _ _ h=>h) ⟨c0,c1⟩ ?_
 iterate 8 (refine Ec (v:=?_) rfl (by rfl) ?_ ?_;rotate_left;(· (intro w' z;(try dsimp only at z);go_simp;try with_reducible rfl));(try simp only[An]))
 refine Bl ?_;simp only[DJ,Dq];go_wp2_with (go_at_call 85;refine CR.m ?_;rintro e w'⟨rfl,H⟩;have E:=A1 H);go_ret;exact⟨rfl,E.o.dQ⟩
end
def DQ(D:DS)(F:Nat->FC)(name:ByteArray):List UInt8×Int:=match lookup D.A4 name with
 | some f=>((F f).1,0)
 | none=>([],8)
def B3.ay{w w':World}{b:Nat}{D:DS}{F:Nat->FC}{Ft:Nat->Prop}(h:B3 w b D F Ft)(d:∀k,Ft k->k<w.heap.size)(E:A3 Ab w w'):B3 w' b D F Ft:=h.aP λk z=>E.Ap k (d k z) (λh=>h)
section
variable {w:World} {b fb:Nat} {D:DS} {F:Nat->FC} {Ft:Nat->Prop} {T:TypeId} {name:ByteArray} {s:Nat}
def V4(hf:Bd w fb T (A5 b) name s)(h:B3 w b D F Ft):
 Af 166 #[A5 fb] w (Aj (.tuple #[.string ⟨(DQ D F name).1.toArray⟩,A0 (DQ D F name).2]) λw'=>A3 Ab w w'):=by
 obtain⟨d,aA⟩:∃d,(CH D F name).1=d:=⟨_,rfl⟩;obtain⟨ze,H⟩:∃ze,(CH D F name).2=ze:=⟨_,rfl⟩;have aR:∀w',B3 w' b D F Ft->Af 81 #[A5 b,.string name] w' λe O=>e=.returned (.tuple #[A0 d,A0 ze])/\w'=O:=λw' h=>by
  rw[<-aA,<-H];exact NR h name
 have aQ:∀w',B3 w' b D F Ft->Af 82 #[A5 b,.string name,A0 0,A0 d] w' λe O=>e=.returned (.tuple #[.string ⟨(F6 D F name 0 d).1.toArray⟩,A0 (F6 D F name 0 d).2])/\w'=O:=λw' h=>YB h name 0 d;have aG:=A1 aR;have aP:=A1 aQ;have aB:(ze=0/\Hid ((F6 D F name 0 d).1=(DQ D F name).1/\(F6 D F name 0 d).2=(DQ D F name).2))\/(ze=8/\Hid ((DQ D F name).1=[]/\(DQ D F name).2=8)):=by
  unfold CH at aA H;unfold F6 DQ Hid;cases hx:lookup D.A4 name with
  | none=>rw[hx]at H;exact .inr ⟨H.symm,rfl,rfl⟩
  | some f=>
   rw[hx]at H aA;subst aA;refine .inl ⟨H.symm,?_⟩;dsimp only
   rw[Ae (by omega)];simp
 obtain⟨rs,aI⟩:∃rs,(DQ D F name).1=rs:=⟨_,rfl⟩;obtain⟨re,aN⟩:∃re,(DQ D F name).2=re:=⟨_,rfl⟩;rw[aI,aN]at aB ⊢
 go_enter func166,ntmps166
 go_wp2;refine Hf 13 (λy=>{tmps:=#[A5 fb,undef,.string ⟨#[]⟩,A0 0,y 12,undef,y 9,y 0,y 1,y 2,y 3,y 4,y 5,y 6,y 7,y 8,y 10,y 11,undef,undef,undef,undef,undef,undef,undef,undef,undef,undef,undef,undef,undef,undef,undef],defers:=[]}) (λ_=>undef)
  (λw'=>Bd w' fb T (A5 b) name s/\B3 w' b D F Ft/\A3 Ab w w') (A3 Ab)
  (λj x w'=>match j with
   | 0=>x=(A5 fb)
   | 1=>x=(A5 fb)
   | 2=>x=(A5 fb)
   | 3=>x=(A5 b)
   | 4=>x=(A5 fb)
   | 5=>x=(A5 fb)
   | 6=>x=.pointer (some (Ac fb 1))
   | 7=>x=.string name
   | 8=>x=.tuple #[A0 d,A0 ze]
   | 9=>x=.tuple #[A0 d,A0 ze]
   | 10=>x=A0 d
   | 11=>x=A0 ze
   | 12=>x=A0 d
   | _=>True)
  (by kernel_rfl) (by kernel_rfl) rfl ?_ ?_ ?_ ?_
 ·exact⟨hf,h.af,(A3.I _ _).af⟩
 ·intro j x w1 w2 hR aM W;split at W<;>exact W
 ·simp only[Fa,EV,FO,HK]
  repeat' (with_reducible apply And.intro)
  all_goals refine⟨?_,(by intro y L _ _ h;exact Bool.noConfusion h),λy x=>rfl⟩
  all_goals
   intro y L hS Y hw K hK;obtain⟨E,aD,aE⟩:=hS;simp[Gk,Region.binds,Fe,List.filter_cons]at Y;have c0:=E.c0;have c1:=E.c1;have I:Hid (Bd L fb T (A5 b) name s/\B3 L b D F Ft/\A3 Ab w L):=⟨E,aD,aE⟩;have aF:=A1 hK
  all_goals dsimp only
  all_goals try go_simp
  all_goals try with_reducible exact aF.o _ _ _ rfl (by simp[Act.put,Y]) (A3.I _ _) I.o
  all_goals try
   (have aH:y 3=(A5 b):=by with_reducible exact Y.1);refine(aG.o L I.o.2.1).mono ?_;rintro e w2⟨rfl,rfl⟩;exact aF.o _ _ _ rfl (by simp[Act.put,Y]) (A3.I _ _) I.o
 ·intro y L hS W;have aL:=W 11 (by omega);have aJ:=W 12 (by omega);have I:=A1 hS;rcases aB with⟨rfl,aB⟩|⟨rfl,aB⟩
  ·(have aO:∀w',B3 w' b D F Ft->Af 82 #[A5 b,.string name,A0 0,A0 d] w' λe O=>e=.returned (.tuple #[.string ⟨rs.toArray⟩,A0 re])/\w'=O:=by rw[<-aB.o.1,<-aB.o.2];exact aP.o);have aK:=A1 aO;go_wp2;refine Hf 13 (λz=>{tmps:=#[A5 fb,undef,z 12,A0 0,A0 d,A0 0,y 9,y 0,y 1,y 2,y 3,y 4,y 5,y 6,y 7,y 8,y 10,A0 0,A0 0,.bool false,undef,z 0,z 1,z 2,z 3,z 4,z 5,z 6,z 7,z 8,z 9,z 10,z 11],defers:=[]}) (λj=>if j=12 then .string ⟨#[]⟩ else undef)
    (λw'=>Bd w' fb T (A5 b) name s/\B3 w' b D F Ft/\A3 Ab w w') (A3 Ab)
    (λj x w'=>match j with
     | 0=>x=(A5 fb)
     | 1=>x=(A5 fb)
     | 2=>x=(A5 fb)
     | 3=>x=(A5 b)
     | 4=>x=(A5 fb)
     | 5=>x=(A5 fb)
     | 6=>x=.pointer (some (Ac fb 1))
     | 7=>x=.string name
     | 8=>x=A0 d
     | 9=>x=.tuple #[.string ⟨rs.toArray⟩,A0 re]
     | 10=>x=.string ⟨rs.toArray⟩
     | 11=>x=A0 re
     | 12=>x=.string ⟨rs.toArray⟩
     | _=>True)
    (by kernel_rfl) (by kernel_rfl) rfl ?_ ?_ ?_ ?_
   ·exact⟨I.o.1,I.o.2.1.af,I.o.2.2.af⟩
   ·intro j x w1 w2 hR aM W;split at W<;>exact W
   ·clear I aL aJ;simp only[Fa,EV,FO,HK]
    repeat' (with_reducible apply And.intro)
    all_goals refine⟨?_,(by intro y L _ _ h;exact Bool.noConfusion h),λy x=>rfl⟩
    all_goals
     intro z L hS Y hw K hK;obtain⟨E,aD,aE⟩:=hS;simp[Gk,Region.binds,Fe,List.filter_cons]at Y;have c0:=E.c0;have c1:=E.c1;have I:Hid (Bd L fb T (A5 b) name s/\B3 L b D F Ft/\A3 Ab w L):=⟨E,aD,aE⟩;have aF:=A1 hK
    all_goals dsimp only
    all_goals try go_simp
    all_goals try with_reducible exact aF.o _ _ _ rfl (by simp[Act.put,Y]) (A3.I _ _) I.o
    all_goals try
     (have aH:z 3=(A5 b):=by with_reducible exact Y.1);refine(aK.o L I.o.2.1).mono ?_;rintro e w2⟨rfl,rfl⟩;exact aF.o _ _ _ rfl (by simp[Act.put,Y]) (A3.I _ _) I.o
   ·intro z wz hZ W;have z11:=W 11 (by omega);have z12:=W 12 (by omega);have aS:=A1 hZ;go_wp2;go_ret2;exact⟨rfl,aS.o.2.2⟩
  ·go_wp2;go_ret2;rw[aB.o.1,aB.o.2];exact⟨rfl,I.o.2.2⟩
end
def Kq(w:World)(Ft:Nat->Prop)(fb:Nat)(w':World)(b:Nat)(D':DS)(F':Nat->FC):Prop:=
 A3 (λk=>Ft k\/k=fb) w w'/\∃d,B3 w' b D' F' d/\(∀k,d k->k<w'.heap.size)/\∀k,d k->Ft k\/w.heap.size<=k
def Hb(D:DS)(F:Nat->FC)(name:ByteArray)(pc:List UInt8):Bool:=
 decide ((CH (Bp D F name ⟨pc.toArray⟩).2.1 (Bp D F name ⟨pc.toArray⟩).2.2 name).1-(CH D F name).1=pc.length)
def Ug(D:DS)(F:Nat->FC)(name:ByteArray):0<=(CH D F name).1:=by
 unfold CH;cases lookup D.A4 name<;>simp
section
variable {w:World} {b fb:Nat} {D:DS} {F:Nat->FC} {Ft:Nat->Prop} {T:TypeId} {name:ByteArray} {s:Nat}
def addF(hf:Bd w fb T (A5 b) name s)(hs:s<4294967296)(h:B3 w b D F Ft)(aR:∀k,Ft k->k<w.heap.size)(hn:¬Ft fb)(l:List UInt8)(hroom : -4611686018427387904<=D.n.AG/\D.n.AG<=9223372036854775807)(hu:B6 F D.A4<=4611686018427387904)(hp:0<=D.n.Bv/\D.n.Bv<=9223372036854775807)(hl:∀f,lookup D.A4 name=some f->(F f).1.length+(l.length+4)<=70368744177664)(hll:l.length<=4611686018427387904)(hz:(CH (Bp D F name ⟨(l++Cd (AW s l)).toArray⟩).2.1 (Bp D F name ⟨(l++Cd (AW s l)).toArray⟩).2.2 name).1<=70368744177664/\(CH D F name).1<=70368744177664):
 Af 237 #[A5 fb,.string ⟨l.toArray⟩] w (Aj (.tuple #[.bool (Hb D F name (l++Cd (AW s l))),A0 (Bp D F name ⟨(l++Cd (AW s l)).toArray⟩).1]) λw'=>Bd w' fb T (A5 b) name (AW s l)/\Kq w Ft fb w' b (Bp D F name ⟨(l++Cd (AW s l)).toArray⟩).2.1 (Bp D F name ⟨(l++Cd (AW s l)).toArray⟩).2.2):=by
 obtain⟨aA,a0⟩:=hz;have aO:=A1 (Rk w fb T _ name s l hf hs (by omega));have aF:(l++Cd (AW s l)).length=l.length+4:=by simp[Hh]
 generalize hs1:AW s l=s1 at aO aF aA ⊢;generalize hpc:l++Cd s1=pc at aO aF aA ⊢;have bC:∀w',B3 w' b D F Ft->_:=λw' h'=>A3G h' name ⟨pc.toArray⟩ hroom hu hp (λf hf=>by have:=hl f hf;show _+pc.length<=_;omega);have r1:=Ug D F name;have r2:=Ug (Bp D F name ⟨pc.toArray⟩).2.1 (Bp D F name ⟨pc.toArray⟩).2.2 name;have O:Hb D F name pc=decide ((CH (Bp D F name ⟨pc.toArray⟩).2.1 (Bp D F name ⟨pc.toArray⟩).2.2 name).1-(CH D F name).1=pc.length):=rfl;obtain⟨D',aM⟩:∃D',(Bp D F name ⟨pc.toArray⟩).2.1=D':=⟨_,rfl⟩;obtain⟨F',aI⟩:∃F',(Bp D F name ⟨pc.toArray⟩).2.2=F':=⟨_,rfl⟩;obtain⟨er,aK⟩:∃er,(Bp D F name ⟨pc.toArray⟩).1=er:=⟨_,rfl⟩;rw[aM,aI]at O r2 aA ⊢;rw[aK];rw[aM,aI,aK]at bC;have bE:∀w',B3 w' b D F Ft->_:=λw' h'=>NR h' name;have bB:∀w' d,B3 w' b D' F' d->_:=λw' d h'=>NR h' name;obtain⟨zn,aE⟩:∃zn,(CH D F name).1=zn:=⟨_,rfl⟩;obtain⟨ze,aZ⟩:∃ze,(CH D F name).2=ze:=⟨_,rfl⟩;obtain⟨yn,aH⟩:∃yn,(CH D' F' name).1=yn:=⟨_,rfl⟩;obtain⟨ye,aQ⟩:∃ye,(CH D' F' name).2=ye:=⟨_,rfl⟩;rw[aE,aH]at O;rw[aE]at r1 a0;rw[aH]at r2 aA;rw[aE,aZ]at bE;rw[aH,aQ]at bB;rw[O];obtain⟨ok,O⟩:∃ok,decide (yn-zn=(pc.length:Int))=ok:=⟨_,rfl⟩;rw[O];have aY:=A1 O;have a8:=A1 bC;have aP:=A1 bE;have a5:=A1 bB;have H:=A1 h;have aS:=A1 aR;have bD:=A1 hn
 go_enter func237,ntmps237
 go_wp2_with (go_at_call 214;refine aO.m ?_;rintro e w1⟨rfl,a9,bA⟩;have a1:=A1 a9;have aD:=A1 bA);have E:Hid (Bd w1 fb T (A5 b) name s1/\B3 w1 b D F Ft):=⟨a1.o,H.o.aP λk hk=>aD.o.Ap k (aS.o k hk) (λe=>bD.o (e ▸ hk))⟩;refine Hf 13 (λy=>{tmps:=#[A5 fb,.string ⟨l.toArray⟩,undef,undef,.bool false,A0 0,.string ⟨pc.toArray⟩,y 12,undef,undef,undef,undef,A5 fb,.string ⟨l.toArray⟩,.string ⟨pc.toArray⟩,y 9,y 0,y 1,y 2,y 3,y 4,y 5,y 6,y 7,y 8,y 10,y 11,undef,undef,undef,undef,undef,undef,undef,undef,undef,undef,undef,undef,undef,undef,undef,undef,undef,undef,undef,undef,undef,undef,undef,undef,undef,undef,undef,undef,undef],defers:=[]}) (λ_=>undef)
  (λw'=>Bd w' fb T (A5 b) name s1/\B3 w' b D F Ft/\A3 Ab w1 w') (A3 Ab)
  (λj x w'=>match j with
   | 0=>x=(A5 fb)
   | 1=>x=(A5 fb)
   | 2=>x=(A5 fb)
   | 3=>x=(A5 b)
   | 4=>x=(A5 fb)
   | 5=>x=(A5 fb)
   | 6=>x=.pointer (some (Ac fb 1))
   | 7=>x=.string name
   | 8=>x=.tuple #[A0 zn,A0 ze]
   | 9=>x=.tuple #[A0 zn,A0 ze]
   | 10=>x=A0 zn
   | 11=>x=A0 ze
   | 12=>x=A0 zn
   | _=>True)
  (by kernel_rfl) (by kernel_rfl) rfl ?_ ?_ ?_ ?_
 ·exact⟨E.o.1,E.o.2.af,(A3.I _ _).af⟩
 ·intro j x w1 w2 hR a6 Y;split at Y<;>exact Y
 ·clear E;simp only[Fa,EV,FO,HK]
  repeat' (with_reducible apply And.intro)
  all_goals refine⟨?_,(by intro y L _ _ h;exact Bool.noConfusion h),λy x=>rfl⟩
  all_goals
   intro zz L hS hd hw K hK;obtain⟨I,aG,aB⟩:=hS;simp[Gk,Region.binds,Fe,List.filter_cons]at hd;have c0:=I.c0;have c1:=I.c1;have W:Hid (Bd L fb T (A5 b) name s1/\B3 L b D F Ft/\A3 Ab w1 L):=⟨I,aG,aB⟩;have aJ:=A1 hK
  all_goals dsimp only
  all_goals try go_simp
  all_goals try with_reducible exact aJ.o _ _ _ rfl (by simp[Act.put,hd]) (A3.I _ _) W.o
  all_goals
   refine(aP.o L W.o.2.1).mono ?_;rintro e w2⟨rfl,rfl⟩;exact aJ.o _ _ _ rfl (by simp[Act.put,hd]) (A3.I _ _) W.o
 intro y L hS Y;have h11:=Y 11 (by omega);have h12:=Y 12 (by omega);have c0:=hS.1.c0;have c1:=hS.1.c1;have W:=A1 hS;go_wp2;refine FQ (λw'=>A7 w' fb 0 (A5 b)/\A7 w' fb 1 (.string name)) 9
  (Br [0,1,2,3,4,5,6,7,8] []) (by kernel_rfl) (by kernel_rfl) (λ_ _ _ _ _ h=>h) ⟨c0,c1⟩ ?_
 iterate 9 (refine Ec (v:=?_) rfl (by rfl) ?_ ?_;rotate_left;(· (intro w' hS;(try dsimp only at hS);go_simp;try with_reducible rfl));(try simp only[An]))
 refine Bl ?_;simp only[DJ,Dq];have aX:=A1 (a8.o L.drew W.o.2.1.af);go_wp2_with (go_at_call 84;refine aX.m ?_;rintro e w3⟨rfl,hA⟩;have bF:=A1 hA);have aW:=bF.o.dQ;obtain⟨aL,d,aV,aU,aT⟩:=aW;have hsz:=W.o.1.lt;have E:Hid (Bd w3 fb T (A5 b) name s1/\B3 w3 b D' F' d):=⟨W.o.1.aj aL bD.o,aV⟩;have a2:=A1 aL;have a3:=A1 aU;have a7:=A1 aT;have a4:Hid (∀w',B3 w' b D' F' d->_):=λw' h'=>a5.o w' d h';refine Hf 13 (λz=>{tmps:=#[A5 fb,.string ⟨l.toArray⟩,undef,undef,.bool false,A0 0,.string ⟨pc.toArray⟩,A0 zn,A0 ze,A0 er,z 12,undef,A5 fb,.string ⟨l.toArray⟩,.string ⟨pc.toArray⟩,y 9,y 0,y 1,y 2,y 3,y 4,y 5,y 6,y 7,y 8,y 10,A0 ze,A5 fb,A5 fb,A5 fb,A5 b,A5 fb,A5 fb,.pointer (some (Ac fb 1)),.string name,.string ⟨pc.toArray⟩,A0 er,z 9,z 0,z 1,z 2,z 3,z 4,z 5,z 6,z 7,z 8,z 10,z 11,undef,undef,undef,undef,undef,undef,undef],defers:=[]}) (λ_=>undef)
  (λw'=>Bd w' fb T (A5 b) name s1/\B3 w' b D' F' d/\A3 Ab w3 w') (A3 Ab)
  (λj x w'=>match j with
   | 0=>x=(A5 fb)
   | 1=>x=(A5 fb)
   | 2=>x=(A5 fb)
   | 3=>x=(A5 b)
   | 4=>x=(A5 fb)
   | 5=>x=(A5 fb)
   | 6=>x=.pointer (some (Ac fb 1))
   | 7=>x=.string name
   | 8=>x=.tuple #[A0 yn,A0 ye]
   | 9=>x=.tuple #[A0 yn,A0 ye]
   | 10=>x=A0 yn
   | 11=>x=A0 ye
   | 12=>x=A0 yn
   | _=>True)
  (by kernel_rfl) (by kernel_rfl) rfl ?_ ?_ ?_ ?_
 ·exact⟨E.o.1,E.o.2.af,(A3.I _ _).af⟩
 ·intro j x w1 w2 hR a6 Y;split at Y<;>exact Y
 ·clear E;simp only[Fa,EV,FO,HK]
  repeat' (with_reducible apply And.intro)
  all_goals refine⟨?_,(by intro y L _ _ h;exact Bool.noConfusion h),λy x=>rfl⟩
  all_goals
   intro zz L hS hd hw K hK;obtain⟨I,aG,aB⟩:=hS;simp[Gk,Region.binds,Fe,List.filter_cons]at hd;have c0:=I.c0;have c1:=I.c1;have W:Hid (Bd L fb T (A5 b) name s1/\B3 L b D' F' d/\A3 Ab w3 L):=⟨I,aG,aB⟩;have aJ:=A1 hK
  all_goals dsimp only
  all_goals try go_simp
  all_goals try with_reducible exact aJ.o _ _ _ rfl (by simp[Act.put,hd]) (A3.I _ _) W.o
  all_goals
   refine(a4.o L W.o.2.1).mono ?_;rintro e w2⟨rfl,rfl⟩;exact aJ.o _ _ _ rfl (by simp[Act.put,hd]) (A3.I _ _) W.o
 intro z wz hZ Y;have z11:=Y 11 (by omega);have z12:z 12=A0 yn:=Y 12 (by omega);have aN:=A1 hZ;have hbe:(yn-zn==(l.length:Int)+4)=ok:=by
  rw[<-aY.o,aF,Nu];simp
 go_wp2;go_ret2
 exact⟨rfl,aN.o.1,(((aD.o.aa (λ_ _ h=>.inr h)).Aw W.o.2.2 (λ_ h _=>h.elim)).Aw a2.o (λ_ h _=>.inl h)).Aw aN.o.2.2 (λ_ h _=>h.elim),
  d,aN.o.2.1,λk hk=>Bq (a3.o k hk) aN.o.2.2.Ao,λk hk=>(a7.o k hk).imp id λh=>AR (AR aD.o.Ao W.o.2.2.Ao) h⟩
end
end
end Go.Proofs.YtodcnkbblippnaaGreatDoor
