/- Part 5 of a proof: walks of the program. -/
import Derived.Test.YtodcnkbblippnabGreatDoorPart04
namespace Go.Proofs.YtodcnkbblippnabGreatDoor
set_option maxRecDepth 100000
set_option maxHeartbeats 32000000
set_option linter.defProp false
open Go.Proofs.Tryz
section
open Go.RowKit
attribute [local go_sem ↓] Go.wp_at_zero Go.wp_at_succ
def Fv:List Nat->List Nat->Nat->Nat
 | x::xs,y::ys,f=>if x=f then y else Fv xs ys f
 | _,_,_=>0
def Kg:∀(xs ys:List Nat) (i f m:Nat),xs.Nodup->xs[i]?=some f->ys[i]?=some m->Fv xs ys f=m
 | [],_,i,_,_,_,h,_=>by simp at h
 | x::xs,[],i,_,_,_,_,h=>by simp at h
 | x::xs,y::ys,0,f,m,_,h1,h2=>by
  simp only[List.getElem?_cons_zero,Option.some.injEq]at h1 h2;subst h1;subst h2;simp[Fv]
 | x::xs,y::ys,i+1,f,m,hn,h1,h2=>by
  simp only[A29]at h1 h2;have d:x≠f:=λe=>by subst e;exact(JS.1 hn).1 (Lc h1)
  simp only[Fv,d,C4];exact Kg xs ys i f m (JS.1 hn).2 h1 h2
def ren(r:Nat->Nat)(es:List AL):List AL:=es.map λe=>(e.1,r e.2)
def DS.ren(r:Nat->Nat)(D:DS):DS:={A4:=Go.Proofs.YtodcnkbblippnabGreatDoor.ren r D.A4,AM:=Go.Proofs.YtodcnkbblippnabGreatDoor.ren r D.AM,As:=D.As.map (Go.Proofs.YtodcnkbblippnabGreatDoor.ren r),n:=D.n}
def Ren.eq{L M:List Nat}{es d:List AL}(h:Ren L M es d)(W:L.Nodup):d=ren (Fv L M) es:=by
 apply List.ext_getElem
 ·simp[ren,h.1]
 ·intro k z h2;have E:k<es.length:=by rw[<-h.1];exact z
  obtain⟨H,i,O,I⟩:=h.2 k E z;simp only[ren,List.getElem_map];rw[Kg L M i _ _ W O I];exact Prod.ext H rfl
def CS.cp{N:Nat}{w:World}{bo I:Nat}{F:Nat->FC}{old made:List Nat}{L O:Value}{H:Nat->Value}(h:CS N w bo I F old made L O H){k:Nat}(d:CB bo I L O made H k\/k∈old):∃c e,w.heap[k]?=some (.cells c e (0,0))/\e≠70/\e≠98/\e≠60:=by
 have hl:=h.b2;rcases d with (rfl|rfl|d|d|d|⟨m,W,d⟩)|d
 ·exact⟨_,_,h.ob,by decide⟩
 ·exact⟨_,_,h.mb,by decide⟩
 ·obtain⟨c,z⟩:=Bd h.ol d;exact⟨c,_,z,by decide⟩
 ·obtain⟨c,z⟩:=Bd h.ml d;exact⟨c,_,z,by decide⟩
 ·obtain⟨i,E,rfl⟩:=DQ d;exact⟨_,_,(h.BI i E (by omega)).1,by decide⟩
 ·obtain⟨i,E,rfl⟩:=DQ W;obtain⟨c,z⟩:=Bd (h.BI i E (by omega)).2 d;exact⟨c,_,z,by decide⟩
 ·obtain⟨c,z⟩:=(h.HT k d).2;exact⟨c,_,z,by decide⟩
def CS.b6{N:Nat}{w:World}{bo z:Nat}{F:Nat->FC}{old made:List Nat}{E H:Value}{L:Nat->Value}(h:CS N w bo z F old made E H L){k e:Nat}{c:Array Value}(O:w.heap[k]?=some (.cells c e (0,0)))(W:e=70\/e=98\/e=60):¬CF bo z E H k:=by
 intro Y;have d:CB bo z E H made L k:=by
  rcases Y with h|h|h|h
  ·exact .inl h
  ·exact .inr (.inl h)
  ·exact .inr (.inr (.inl h))
  ·exact .inr (.inr (.inr (.inl h)))
 obtain⟨c',e',I,h2,h3,h4⟩:=h.cp (.inl d);rw[O]at I;cases I;rcases W with e|e|e<;>simp_all
def Is(l:List (List AL)):Nat:=(l.map List.length).sum
def W9(l:List (List AL))(i:Nat)(h:i<l.length):Is (l.take (i+1))=Is (l.take i)+(l[i]'h).length:=by
 unfold Is;rw[Dl h,E6,List.sum_append];simp
structure CR (N:Nat) (w wr:World) (b2 bo bm:Nat) (D:DS) (F:Nat->FC) (i:Nat) (L M:List Nat) (vo vm v1 v2 vc:Value) (VB:Nat->Value) (vals:List Value) (e1 e2:List AL) (cs:List (List AL)):Prop where
 Gu:CS N wr bo bm F L M vo vm VB
 Ag:AK wr b2 v1 v2 vc D.n
 d1:CY wr v1 e1
 d2:CY wr v2 e2
 r1:Ren L M D.A4 e1
 r2:Ren L M D.AM e2
 ch:wr.ownsRow 0 98 1 vc i vals
 cl:cs.length=i
 D5:∀k (h:k<cs.length),∃v,vals[k]?=some v/\CY wr v (cs[k]'h)
 OX:∀k (h:k<cs.length) (h':k<D.As.length),Ren L M (D.As[k]' h') (cs[k]'h)
 Ma:L.length<=D.A4.length+D.AM.length+Is (D.As.take i)
 SJ:∀f∈L,D.Aq f
 An:A3 (λ_=>False) w wr
 nb:N<=b2
 S0:∀g,v1.ownBlock=some g->N<=g
 RZ:∀g,v2.ownBlock=some g->N<=g
 NV:∀g,vc.ownBlock=some g->N<=g
 RY:∀v∈vals,∀g,v.ownBlock=some g->N<=g
def CR.a8{w wr aW w2 w3:World}{b2 bo bm:Nat}{D:DS}{F:Nat->FC}{i nq:Nat}{L M aU aS:List Nat}{vo vm v1 v2 vc aK aN v:Value}{aV aL:Nat->Value}{I:List Value}{e1 e2 Y:List AL}{cs:List (List AL)}{a3:Option Addr}{c3:Nat}(h:CR w.heap.size w wr b2 bo bm D F i L M vo vm v1 v2 vc aV I e1 e2 cs)(hi:i<D.As.length){es:List AL}(aT:D.As[i]'hi=es)(hW:A3 (λ_=>False) wr aW)(H:El w.heap.size aW bo bm F L M vo vm aV es es.length es.length v w2 aU aS aK aN aL Y)(hA:App ((w2.drewN nq).alloc (.cells #[v] 98)) w3 98 1 vc (.slice a3 (i+1) c3) (i+1) (I++[v])):
 CR w.heap.size w (w3.setCell ⟨b2,2,none⟩ (.slice a3 (i+1) c3)) b2 bo bm D F (i+1) aU aS aK aN v1 v2 (.slice a3 (i+1) c3) aL (I++[v]) e1 e2 (cs++[Y]):=by
 subst aT;have aB:=h.Gu.An hW (λ_ _ h=>h) (λ_ _ h=>h);have aH:∀(k:Nat) (c:Array Value) (e:Nat),wr.heap[k]?=some (Obj.cells c e (0,0))->(e=70\/e=98\/e=60)->w2.heap[k]?=some (Obj.cells c e (0,0)):=λk c e d he=>by
  have W:=(hW.Al k (Bw d) (λh=>h)).trans d;exact(H.An.Al k (Bw W) (aB.b6 W he)).trans W
 have aA:∀(k:Nat) (c:Array Value) (e:Nat),w2.heap[k]?=some (Obj.cells c e (0,0))->e≠98->w3.heap[k]?=some (Obj.cells c e (0,0)):=λk c e d he=>by
  have W:((w2.drewN nq).alloc (.cells #[v] 98)).heap[k]?=some (Obj.cells c e (0,0)):=(D8 _ _ _ (by simpa using Bw d)).trans d;refine(hA.Ct.block k (Bw W) (λe2=>?_)).trans W;obtain⟨c',hh⟩:=Bd h.ch e2.symm;have:=aH _ _ _ hh (.inr (.inl rfl));rw[d]at this;cases this;exact he rfl
 have aM:AK w3 b2 v1 v2 vc D.n:=aA _ _ _ (aH _ _ _ h.Ag (.inr (.inr rfl))) (by decide);have aO:=aM.s2 (.slice a3 (i+1) c3);have aE:A3 (One b2) w3 (w3.setCell ⟨b2,2,none⟩ (.slice a3 (i+1) c3)):=(A3.I (One b2) w3).aq rfl 2 _;generalize hW4:w3.setCell ⟨b2,2,none⟩ (.slice a3 (i+1) c3)=W4 at aO aE ⊢;have E:∀(k:Nat) (c:Array Value) (e:Nat),w3.heap[k]?=some (Obj.cells c e (0,0))->e≠60->W4.heap[k]?=some (Obj.cells c e (0,0)):=λk c e d he=>
  (aE.Al k (Bw d) (λe2=>BR d aM he e2)).trans d
 have kE:∀(k:Nat) (c:Array Value),wr.heap[k]?=some (Obj.cells c 70 (0,0))->W4.heap[k]?=wr.heap[k]?:=λk c d=>
  (E _ _ _ (aA _ _ _ (aH _ _ _ d (.inl rfl)) (by decide)) (by decide)).trans d.symm
 have aR:∀(k:Nat) (c:Array Value),w2.heap[k]?=some (Obj.cells c 70 (0,0))->W4.heap[k]?=w2.heap[k]?:=λk c d=>
  (E _ _ _ (aA _ _ _ d (by decide)) (by decide)).trans d.symm
 have aD:∀ {v:Value} {es:List AL},CY wr v es->CY W4 v es:=λhe=>Ay he λg O=>by
  obtain⟨c,hh⟩:=Bd he O;exact kE _ _ hh
 have aQ:CY W4 v Y:=Ay H.EG λg O=>by
  obtain⟨c,hh⟩:=Bd H.EG O;exact aR _ _ hh
 have aF:∀ {es aJ:List AL},Ren L M es aJ->Ren aU aS es aJ:=λhr=>by
  obtain⟨o,q1,_⟩:=H.Gp;obtain⟨o2,q2,_⟩:=H.Jj;rw[q1,q2];exact hr.ad
 have hsz1:=h.An.Ak;have hsz2:=hW.Ak;have aG:I.length=i:=by simpa using h.ch.1
 refine⟨?_,aO,aD h.d1,aD h.d2,aF h.r1,aF h.r2,?_,by simp[h.cl],?_,?_,?_,?_,?_,h.nb,h.S0,h.RZ,?_,?_⟩
 ·refine H.cs.aP (λk d=>?_) (λk d=>?_)
  ·obtain⟨c,e,W,h2,h3,h4⟩:=H.cs.cp (.inl d);exact(E _ _ _ (aA _ _ _ W h3) h4).trans W.symm
  ·obtain⟨c,e,W,h2,h3,h4⟩:=H.cs.cp (.inr d);exact(E _ _ _ (aA _ _ _ W h3) h4).trans W.symm
 ·exact Ay hA.AF λg O=>by
   obtain⟨c,hh⟩:=Bd hA.AF O;exact(E _ _ _ hh (by decide)).trans hh.symm
 ·intro k d;by_cases z:k<cs.length
  ·obtain⟨u,q1,q2⟩:=h.D5 k z;refine⟨u,?_,?_⟩
   ·rw[Im (by rw[aG,<-h.cl];exact z)];exact q1
   ·simp only[EZ z];exact aD q2
  ·(obtain rfl:k=cs.length:=by simp at d;omega);refine⟨v,?_,?_⟩
   ·rw[Hl (by rw[aG,h.cl];omega),aG,h.cl];simp
   ·simpa using aQ
 ·intro k d aP;by_cases z:k<cs.length
  ·simp only[EZ z];exact aF (h.OX k z aP)
  ·(obtain rfl:k=cs.length:=by simp at d;omega);have aI:=h.cl;have:=H.ren;rw[C9]at this;simp only[aI];(have e1:(cs++[Y])[i]'(by simp[aI])=Y:=by simp[<-aI]);rw[e1];exact this
 ·obtain⟨o,q1,q2,_⟩:=H.Gp;have:=h.Ma;rw[W9 _ _ hi,q1,AZ];omega
 ·intro f hf;obtain⟨o,q1,_,q3⟩:=H.Gp;rw[q1]at hf;rcases AV.1 hf with hf|hf
  ·exact h.SJ f hf
  ·exact .inr (.inr ⟨_,BV hi,q3 f hf⟩)
 ·have c1:=h.An.Av hW (λ_ h _=>h)
  have c2:=c1.Av H.An (λx hx z=>by
   rcases hx with rfl|rfl|hx|hx
   ·have:=aB.HV;omega
   ·have:=aB.IE;omega
   ·have:=aB.IB x hx;omega
   ·have:=aB.IC x hx;omega)
  have c3:=((c2.bb nq).aj (.cells #[v] 98)).Ct hA.Ct (λk d z=>by have:=h.NV k d;omega);exact c3.Av aE (λx hx z=>by have:=h.nb;have:x=b2:=hx;omega)
 ·intro g O;rcases hA.Cy with e|e
  ·rw[e]at O;exact h.NV g O
  ·rw[e]at O;cases O;have:=H.An.Ak;simp;omega
 ·intro u hu g O;rcases AV.1 hu with hu|hu
  ·exact h.RY u hu g O
  ·simp at hu;subst hu;have:=H.AT g O;omega
def Y5{w W:World}{b bo bm:Nat}{D:DS}{F:Nat->FC}{vd vs vc vo vm vl:Value}{aB:List Value}{aG H:Nat->Value}{L M:List Nat}{es:List AL}(hr:BY w b D F vd vs vc aB aG)(hc:A3 (λ_=>False) w W)(aD:CS w.heap.size W bo bm F L M vo vm H)(O:CY w vl es)(d:∀f,Dc f es->D.Aq f)(hF:∀f,D.Aq f->(F f).1.length<=1099511627776)(hn:es.length<1099511627776/\L.length<1099511627776):
 Calls Tryz.prog 40 #[vl,.pointer (some ⟨bo,0,none⟩),.pointer (some ⟨bm,0,none⟩)] W λe w'=>∃v aF aE I z aA Y,e=.returned v/\El w.heap.size W bo bm F L M vo vm H es es.length es.length v w' aF aE I z aA Y:=by
 have hb:∀k,k<w.heap.size->W.heap[k]?=w.heap[k]?:=λk hk=>hc.Al k hk (λh=>h);refine(Y6 w.heap.size W bo bm F L M vo vm H aD es vl (Ay O λg E=>hb g (Az O E)) (λg E=>Az O E) hn λf hf=>?_).mono ?_
 ·obtain⟨h1,h2⟩:=hr.BI f (d f hf);refine⟨Bw h1,hF f (d f hf),aG f,(hb f (Bw h1)).trans h1,Ay h2 λg E=>hb g (Az h2 E),λg E=>Az h2 E⟩
 ·rintro e w'⟨v,rfl,aF,aE,I,z,aA,Y,h⟩;exact⟨v,aF,aE,I,z,aA,Y,rfl,h⟩
def El.cA{w W w':World}{bo Y:Nat}{F:Nat->FC}{old made aB aA:List Nat}{vo vm v H E:Value}{O L:Nat->Value}{es I:List AL}{i cn:Nat}(h:El w.heap.size W bo Y F old made vo vm O es i cn v w' aB aA H E L I)(hc:A3 (λ_=>False) w W)(d:CS w.heap.size W bo Y F old made vo vm O):A3 (λ_=>False) w w':=
 hc.Av h.An (λx z hlt=>by
  rcases z with rfl|rfl|z|z
  ·have:=d.HV;omega
  ·have:=d.IE;omega
  ·have:=d.IB x z;omega
  ·have:=d.IC x z;omega)
def Oo{r:Nat->Nat}{es:List AL}{E:Nat}(h:Dc E (ren r es)):∃f,Dc f es/\r f=E:=by
 obtain⟨e,H,rfl⟩:=h;obtain⟨z,d,rfl⟩:=CA.1 H;exact⟨z.2,⟨z,d,rfl⟩,rfl⟩
def DS.cM{r:Nat->Nat}{D:DS}{H:Nat}(h:(D.ren r).Aq H):∃f,D.Aq f/\r f=H:=by
 rcases h with h|h|⟨c,I,h⟩
 ·obtain⟨f,z,d⟩:=Oo h;exact⟨f,.inl z,d⟩
 ·obtain⟨f,z,d⟩:=Oo h;exact⟨f,.inr (.inl z),d⟩
 ·obtain⟨c0,E,rfl⟩:=CA.1 I;obtain⟨f,z,d⟩:=Oo h;exact⟨f,.inr (.inr ⟨c0,E,z⟩),d⟩
def Ren.Aq{L M:List Nat}{es d:List AL}(h:Ren L M es d){f:Nat}(E:Dc f es):∃(i:Nat) (m:Nat),L[i]?=some f/\M[i]?=some m:=by
 obtain⟨e,H,rfl⟩:=E;obtain⟨k,z,rfl⟩:=DQ H;obtain⟨_,i,O,I⟩:=h.2 k z (by rw[h.1];exact z);exact⟨i,_,O,I⟩
def CR.eY{w wr:World}{b2 bo bm:Nat}{D:DS}{F:Nat->FC}{L M:List Nat}{vo vm v1 v2 vc:Value}{aD:Nat->Value}{O:List Value}{e1 e2:List AL}{cs:List (List AL)}(h:CR w.heap.size w wr b2 bo bm D F D.As.length L M vo vm v1 v2 vc aD O e1 e2 cs):
 ∃r aE aB,D6 wr b2 (D.ren r) aE aB/\(∀k,aB k->w.heap.size<=k/\k<wr.heap.size)/\A3 (λ_=>False) w wr/\(∀f,D.Aq f->aE (r f)=F f)/\∀f d,D.Aq f->D.Aq d->r f=r d->f=d:=by
 have q1:=h.r1.eq h.Gu.HU;have q2:=h.r2.eq h.Gu.HU;have q3:cs=D.As.map (ren (Fv L M)):=by
  apply List.ext_getElem
  ·simp[h.cl]
  ·intro k h1 h2;rw[List.getElem_map];exact(h.OX k h1 (by simpa using h2)).eq h.Gu.HU
 have Y:∀f,D.Aq f->∃(i:Nat) (m:Nat),L[i]?=some f/\M[i]?=some m:=by
  rintro f (H|H|⟨c,hc,H⟩)
  ·exact h.r1.Aq H
  ·exact h.r2.Aq H
  ·obtain⟨k,hk,rfl⟩:=DQ hc;exact(h.OX k (by rw[h.cl];exact hk) hk).Aq H
 have E:∀f,D.Aq f->Fv M L (Fv L M f)=f:=λf H=>by
  obtain⟨i,m,h1,h2⟩:=Y f H;rw[Kg L M i f m h.Gu.HU h1 h2,Kg M L i m f h.Gu.OF h2 h1]
 have W:∀d,(D.ren (Fv L M)).Aq d->∃i,∃hi:i<M.length,∃aA:i<L.length,M[i]'hi=d/\L[i]'aA=Fv M L d:=λd z=>by
  obtain⟨f,h1,rfl⟩:=DS.cM z;obtain⟨i,m,h2,h3⟩:=Y f h1;rw[E f h1,Kg L M i f m h.Gu.HU h2 h3];obtain⟨k1,k2⟩:=Hk.1 h2;obtain⟨k3,k4⟩:=Hk.1 h3;exact⟨i,k3,k1,k4,k2⟩
 have I:∀d,(D.ren (Fv L M)).Aq d->d∈M:=λd z=>by
  obtain⟨i,k1,_,k2,_⟩:=W d z;rw[<-k2];exact BV k1
 have hv:BY wr b2 (D.ren (Fv L M)) (λm=>F (Fv M L m)) v1 v2 vc O aD:=by
  refine⟨h.Ag,?_,?_,?_,?_,?_,?_⟩
  ·have:=h.d1;rw[q1]at this;exact this
  ·have:=h.d2;rw[q2]at this;exact this
  ·have:=h.ch;simpa[DS.ren] using this
  ·intro i hi;(have aA:i<cs.length:=by rw[h.cl];simpa[DS.ren] using hi);obtain⟨v,k1,k2⟩:=h.D5 i aA;refine⟨v,k1,?_⟩;subst q3;exact k2
  ·intro d z;obtain⟨i,k1,k2,k3,k4⟩:=W d z;have:=h.Gu.BI i k1 k2;rw[k3,k4]at this;exact this
  ·exact λf d g H z=>h.Gu.G7 f d g (I f H) (I d z)
 refine⟨Fv L M,λm=>F (Fv M L m),C6 b2 (D.ren (Fv L M)) v1 v2 vc O aD,⟨_,_,_,_,_,hv,λ_ h=>h⟩,λk hk=>⟨?_,hv.lt hk⟩,h.An,λf H=>by simp only[E f H],λf d H z e=>by rw[<-E f H,<-E d z,e]⟩;cases hk using C6.bK with
 | Ag=>exact h.nb
 | dir e=>exact h.S0 _ e
 | Ad e=>exact h.RZ _ e
 | An e=>exact h.NV _ e
 | D5 hm e=>exact h.RY _ hm _ e
 | BI H=>exact h.Gu.NZ _ (I _ H)
 | byt H e=>exact h.Gu.O0 _ (I _ H) _ e
def A1l(w:World)(n:DN)(F:Nat->FC)(h:Nat->Value)(W:World)(d:W=(((w.alloc (.cells #[.slice none 0 0,.slice none 0 0,.slice none 0 0,.int .i64 n.AB,.int .i64 n.AP,.int .i64 n.BT,.int .i64 n.BJ,.int .i64 n.Bq,.int .i64 n.B5,.int .i64 n.fulls,.bool n.AS] 60)).alloc (.cells #[.slice none 0 0] 95)).alloc (.cells #[.slice none 0 0] 95)).drew):
 CS w.heap.size W (w.heap.size+1) (w.heap.size+2) F [] [] (.slice none 0 0) (.slice none 0 0) h/\AK W w.heap.size (.slice none 0 0) (.slice none 0 0) (.slice none 0 0) n/\A3 (λ_=>False) w W:=by
 subst d;refine⟨⟨?_,?_,by omega,CL _ _ _ _,CL _ _ _ _,by simp[Value.ownBlock],by simp,by simp,by simp,by simp,by simp,by omega,by omega,by simp[Value.ownBlock],by simp[Value.ownBlock],by simp,by simp⟩,?_,(((A3.I _ w).aj _).aj _).aj _ |>.af⟩
 ·show ((((w.alloc _).alloc _).alloc _).heap[w.heap.size+1]?)=_;rw[D8 _ _ _ (by simp)];have:=BK (w.alloc (.cells #[.slice none 0 0,.slice none 0 0,.slice none 0 0,.int .i64 n.AB,.int .i64 n.AP,.int .i64 n.BT,.int .i64 n.BJ,.int .i64 n.Bq,.int .i64 n.B5,.int .i64 n.fulls,.bool n.AS] 60)) (.cells #[.slice none 0 0] 95);rw[Mn]at this;exact this
 ·show ((((w.alloc _).alloc _).alloc _).heap[w.heap.size+2]?)=_;have:=BK ((w.alloc (.cells #[.slice none 0 0,.slice none 0 0,.slice none 0 0,.int .i64 n.AB,.int .i64 n.AP,.int .i64 n.BT,.int .i64 n.BJ,.int .i64 n.Bq,.int .i64 n.B5,.int .i64 n.fulls,.bool n.AS] 60)).alloc (.cells #[.slice none 0 0] 95)) (.cells #[.slice none 0 0] 95);rw[Mn,Mn]at this;exact this
 ·show ((((w.alloc _).alloc _).alloc _).heap[w.heap.size]?)=_;rw[D8 _ _ _ (by simp;omega),D8 _ _ _ (by simp)];exact BK _ _
def A1k{w W w2 z:World}{bo bm:Nat}{D:DS}{F:Nat->FC}{vo vm v1 v2 aJ aE:Value}{aG aH aL:Nat->Value}{L M aN aM:List Nat}{e1 e2:List AL}(aI:CS w.heap.size W bo bm F [] [] (.slice none 0 0) (.slice none 0 0) aG)(hb:AK W w.heap.size (.slice none 0 0) (.slice none 0 0) (.slice none 0 0) D.n)(hc:A3 (λ_=>False) w W)(E:El w.heap.size W bo bm F [] [] (.slice none 0 0) (.slice none 0 0) aG D.A4 D.A4.length D.A4.length v1 w2 L M vo vm aH e1)(d:El w.heap.size w2 bo bm F L M vo vm aH D.AM D.AM.length D.AM.length v2 z aN aM aJ aE aL e2):
 AK z w.heap.size (.slice none 0 0) (.slice none 0 0) (.slice none 0 0) D.n/\CR w.heap.size w ((z.setCell ⟨w.heap.size,0,none⟩ v1).setCell ⟨w.heap.size,1,none⟩ v2) w.heap.size bo bm D F 0 aN aM aJ aE v1 v2 (.slice none 0 0) aL [] e1 e2 []:=by
 have Y:=E.cs;have c2:=E.cA hc aI;have c3:=d.cA c2 Y;have aA:AK w2 w.heap.size (.slice none 0 0) (.slice none 0 0) (.slice none 0 0) D.n:=(E.An.Al _ hb.lt (aI.b6 hb (.inr (.inr rfl)))).trans hb;have aB:AK z w.heap.size (.slice none 0 0) (.slice none 0 0) (.slice none 0 0) D.n:=(d.An.Al _ aA.lt (Y.b6 aA (.inr (.inr rfl)))).trans aA;refine⟨aB,?_⟩;have aK:=(aB.s0 v1).s1 v2;have aD:A3 (One w.heap.size) z ((z.setCell ⟨w.heap.size,0,none⟩ v1).setCell ⟨w.heap.size,1,none⟩ v2):=((A3.I (One w.heap.size) z).aq rfl 0 _).aq rfl 1 _;generalize hW4:(z.setCell ⟨w.heap.size,0,none⟩ v1).setCell ⟨w.heap.size,1,none⟩ v2=W4 at aK aD ⊢;have h:∀(k:Nat) (c:Array Value) (e:Nat),z.heap[k]?=some (Obj.cells c e (0,0))->e≠60->W4.heap[k]?=z.heap[k]?:=λk c e hk he=>
  aD.Al k (Bw hk) (λe2=>BR hk aB he e2)
 have d1:=Ay E.EG λg H=>by
  obtain⟨c,hh⟩:=Bd E.EG H;exact d.An.Al g (Bw hh) (Y.b6 hh (.inl rfl))
 have sz:=hc.Ak;have sz2:=E.An.Ak;have aF:Ren aN aM D.A4 e1:=by
  obtain⟨o,I,_⟩:=d.Gp;obtain⟨o2,q2,_⟩:=d.Jj;have:=E.ren;rw[C9]at this;rw[I,q2];exact this.ad
 refine⟨?_,aK,?_,?_,aF,?_,CL _ _ _ _,rfl,by simp,by simp,?_,?_,?_,Au _,?_,?_,by simp[Value.ownBlock],by simp⟩
 ·refine d.cs.aP (λk hk=>?_) (λk hk=>?_)
  ·obtain⟨c,e,I,q2,q3,q4⟩:=d.cs.cp (.inl hk);exact h _ _ _ I q4
  ·obtain⟨c,e,I,q2,q3,q4⟩:=d.cs.cp (.inr hk);exact h _ _ _ I q4
 ·exact Ay d1 λg H=>by
   obtain⟨c,hh⟩:=Bd d1 H;exact h _ _ _ hh (by decide)
 ·exact Ay d.EG λg H=>by
   obtain⟨c,hh⟩:=Bd d.EG H;exact h _ _ _ hh (by decide)
 ·have:=d.ren;rw[C9]at this;exact this
 ·obtain⟨o,I,q2,_⟩:=E.Gp;obtain⟨o2,q3,q4,_⟩:=d.Gp;rw[q3,I];simp;omega
 ·intro f O;obtain⟨o,I,_,q2⟩:=E.Gp;obtain⟨o2,q3,_,q4⟩:=d.Gp;rw[q3,I]at O;rcases AV.1 O with O|O
  ·simp at O;exact .inl (q2 f O)
  ·exact .inr (.inl (q4 f O))
 ·exact c3.Av aD (λx hx hlt=>by have:x=w.heap.size:=hx;omega)
 ·intro g H;have:=E.AT g H;omega
 ·intro g H;have:=d.AT g H;omega
end
section
open Go.RowKit
def Iy(r:Nat->Nat)(es:List AL):(ren r es).length=es.length:=by simp[ren]
def QW(r:Nat->Nat):ren r []=[]:=rfl
def LC(r:Nat->Nat)(a b:List AL):ren r (a++b)=ren r a++ren r b:=by simp[ren]
def Xd(r:Nat->Nat)(es:List AL)(k:Nat):(ren r es).take k=ren r (es.take k):=by simp[ren,List.map_take]
def Xf(r:Nat->Nat)(es:List AL)(k:Nat):(ren r es).drop k=ren r (es.drop k):=by simp[ren,List.map_drop]
def Nw(r:Nat->Nat)(es:List AL)(name:ByteArray):B2 (ren r es) name=B2 es name:=by
 induction es with
 | nil=>rfl
 | cons e t ih=>simp only[ren,GY,B2]at ih ⊢;rw[ih]
def Jh(r:Nat->Nat)(es:List AL)(name:ByteArray):lookup (ren r es) name=(lookup es name).map r:=by
 induction es with
 | nil=>rfl
 | cons e t ih=>
  simp only[ren,GY,lookup]at ih ⊢;by_cases h:e.1=name
  ·simp[h]
  ·simp[h,ih]
def QX(r:Nat->Nat)(es:List AL)(k:Nat):(ren r es)[k]?=(es[k]?).map λe=>(e.1,r e.2):=by simp[ren]
def Xe(r:Nat->Nat)(es:List AL)(i:Nat)(name:ByteArray)(k:Nat):Di (ren r es) i name k=ren r (Di es i name k):=by
 induction k with
 | zero=>rfl
 | succ k ih=>
  simp only[Di,ih,QX,LC];cases es[k]? with
  | none=>simp[QW]
  | some e=>
   simp only[Hx];by_cases h:k≠i/\e.1≠name
   ·rw[Af h,Af h];rfl
   ·rw[Ac h,Ac h,QW]
def Xg(r:Nat->Nat)(es:List AL)(k:Nat):EA (ren r es) k=EA es k:=by
 induction k with
 | zero=>rfl
 | succ k ih=>
  simp only[EA,ih,QX];cases es[k]?<;>rfl
def QY(r:Nat->Nat)(es:List AL):dList (ren r es)=dList es:=by unfold dList;rw[Iy,Xg]
def Q4(r:Nat->Nat)(G F:Nat->FC)(es:List AL)(h:∀f,Dc f es->G (r f)=F f):B4 G (ren r es)=B4 F es:=by
 induction es with
 | nil=>rfl
 | cons e t ih=>
  have H:=h e.2 ⟨e,by simp,rfl⟩;have d:=ih λf z=>h f (by obtain⟨x,I,E⟩:=z;exact⟨x,Br _ I,E⟩);simp only[ren,GY,B4]at d ⊢;rw[H,d]
def SA{es:List AL}{name:ByteArray}{f:Nat}(h:lookup es name=some f):Dc f es:=by
 induction es with
 | nil=>cases h
 | cons e t ih=>
  simp only[lookup]at h;by_cases d:e.1=name
  ·simp[d]at h;exact⟨e,by simp,h⟩
  ·simp[d]at h;obtain⟨x,E,z⟩:=ih h;exact⟨x,Br _ E,z⟩
def ren_congr{r d:Nat->Nat}{es:List AL}(h:∀f,Dc f es->d f=r f):ren d es=ren r es:=by
 unfold ren;exact MD λe z=>by rw[h e.2 ⟨e,z,rfl⟩]
def DS.ren_congr{r z:Nat->Nat}{D:DS}(h:∀f,D.Aq f->z f=r f):D.ren z=D.ren r:=by
 unfold DS.ren;rw[Go.Proofs.YtodcnkbblippnabGreatDoor.ren_congr λf d=>h f (.inl d),Go.Proofs.YtodcnkbblippnabGreatDoor.ren_congr (es:=D.AM) λf d=>h f (.inr (.inl d))]
 congr 1
 exact MD λc E=>Go.Proofs.YtodcnkbblippnabGreatDoor.ren_congr λf d=>h f (.inr (.inr ⟨c,E,d⟩))
def B3(w:World)(b:Nat)(D:DS)(F:Nat->FC)(Ft:Nat->Prop):Prop:=
 ∃r G,D6 w b (D.ren r) G Ft/\(∀f,D.Aq f->G (r f)=F f)/\∀f d,D.Aq f->D.Aq d->r f=r d->f=d
def Eh(w:World)(Ft:Nat->Prop)(w':World)(b:Nat)(D':DS)(F':Nat->FC):Prop:=
 A3 Ft w w'/\∃d,B3 w' b D' F' d/\(∀k,d k->k<w'.heap.size)/\∀k,d k->Ft k\/w.heap.size<=k
def B3.aP{w w':World}{b:Nat}{D:DS}{F:Nat->FC}{Ft:Nat->Prop}(h:B3 w b D F Ft)(H:FO Ft w w'):B3 w' b D F Ft:=by
 obtain⟨r,G,z,d,E⟩:=h;exact⟨r,G,z.aP H,d,E⟩
def B3.Ag{w:World}{b:Nat}{D:DS}{F:Nat->FC}{Ft:Nat->Prop}(h:B3 w b D F Ft):∃E z d,AK w b E z d D.n:=by
 obtain⟨r,G,⟨E,z,d,vals,VB,H,_⟩,_⟩:=h;exact⟨E,z,d,H.Ag⟩
def B3.of{w:World}{b:Nat}{D:DS}{F:Nat->FC}{Ft:Nat->Prop}(h:D6 w b D F Ft):B3 w b D F Ft:=by
 refine⟨id,F,?_,λ_ _=>rfl,λ_ _ _ _ h=>h⟩;have:D.ren id=D:=by
  have e:∀es,Go.Proofs.YtodcnkbblippnabGreatDoor.ren id es=es:=λes=>by simp[Go.Proofs.YtodcnkbblippnabGreatDoor.ren]
  have d:=funext e;unfold DS.ren;rw[d];simp
 rw[this];exact h
def Dm.bj{w w':World}{Ft:Nat->Prop}{b:Nat}{H D':DS}{E F':Nat->FC}{r:Nat->Nat}(h:Dm w Ft w' b H E)(L:H=D'.ren r)(hG:∀f,D'.Aq f->E (r f)=F' f)(hi:∀f z,D'.Aq f->D'.Aq z->r f=r z->f=z):Eh w Ft w' b D' F':=by
 obtain⟨W,d,I,Y,O⟩:=h;subst L;exact⟨W,d,⟨r,E,I,hG,hi⟩,Y,O⟩
def JE(D:DS)(r:Nat->Nat):(D.ren r).A4.length=D.A4.length/\(D.ren r).AM.length=D.AM.length/\(D.ren r).As.length=D.As.length/\Is (D.ren r).As=Is D.As:=by
 refine⟨Iy _ _,Iy _ _,by simp[DS.ren],?_⟩;unfold Is DS.ren;rw[US]
 congr 1
 exact MD λc _=>Iy r c
section
variable {w:World} {b:Nat} {D:DS} {F:Nat->FC} {Ft:Nat->Prop}
def Yy(room:Int)(w:World):
 Ah 6 #[A0 room] w (Am (A5 w.heap.size) λw'=>B3 w' w.heap.size ⟨[],[],[],JG room⟩ F (One w.heap.size)/\A3 Aa w w'/\w'.heap.size=w.heap.size+1):=by
 refine(Yx room w).mono ?_;rintro e w'⟨L,z,O,I⟩;refine⟨L,B3.of ⟨_,_,_,[],λ_=>.slice none 0 0,⟨z,CL _ _ _ _,CL _ _ _ _,CL _ _ _ _,by intro i W;simp at W,?_,?_⟩,?_⟩,I,O⟩
 ·rintro f (⟨e,d,_⟩|⟨e,d,_⟩|⟨c,h,_⟩)
  ·cases d
  ·cases d
  ·cases h
 ·intro f f' g _ _ E;simp[Value.ownBlock]at E
 ·intro k H;cases H using C6.bK with
  | Ag=>rfl
  | dir e=>simp[Value.ownBlock]at e
  | Ad e=>simp[Value.ownBlock]at e
  | An e=>simp[Value.ownBlock]at e
  | D5 hm e=>cases hm
  | BI hf=>rcases hf with⟨e,d,_⟩|⟨e,d,_⟩|⟨c,h,_⟩<;>contradiction
  | byt hf e=>simp[Value.ownBlock]at e
def VO(h:B3 w b D F Ft):
 Ah 71 #[A5 b] w (Am (A0 (DC D).1) λw'=>Eh w Ft w' b (DC D).2 F):=by
 obtain⟨r,G,h1,O,h3⟩:=h;refine(VN w b _ G Ft h1).mono ?_;rintro e w'⟨Y,q2⟩;have W:(DC (D.ren r)).2=(DC D).2.ren r:=by
  unfold DC;by_cases H:(bg D.n).2.1=0
  ·have E:(bg (D.ren r).n).2.1=0:=H;rw[Af H,Af E];rfl
  ·have E:¬(bg (D.ren r).n).2.1=0:=H;rw[Ac H,Ac E];rfl
 have z:∀f,(DC D).2.Aq f->D.Aq f:=by
  intro f d;unfold DC at d;simp only at d;split at d
  ·rcases d with d|d|⟨c,hc,_⟩
   ·exact .inl d
   ·exact .inl d
   ·cases hc
  ·exact d
 exact⟨Y,q2.bj W (λf d=>O f (z f d)) λf L d I=>h3 f L (z f d) (z L I)⟩
def FJ{name:ByteArray}{f:Nat}(h:lookup D.A4 name=some f):D.Aq f:=.inl (SA h)
def Q9(h:B3 w b D F Ft)(name:ByteArray):
 Ah 115 #[A5 b,.string name] w (Am (A0 (Cw D F name).1) λw'=>Eh w Ft w' b (Cw D F name).2.1 (Cw D F name).2.2):=by
 obtain⟨r,G,h1,H,h3⟩:=h;refine(VL w b _ G Ft h1 name).mono ?_;rintro e w'⟨L,W⟩;have O:lookup (D.ren r).A4 name=(lookup D.A4 name).map r:=Jh r D.A4 name;cases hx:lookup D.A4 name with
 | none=>
  rw[hx]at O;have e1:Cw (D.ren r) G name=(8,D.ren r,G):=by unfold Cw;rw[O];rfl
  have Y:Cw D F name=(8,D,F):=by unfold Cw;rw[hx]
  rw[e1]at L W;rw[Y];exact⟨L,W.bj rfl H h3⟩
 | some f=>
  rw[hx]at O;have e1:Cw (D.ren r) G name=((bg D.n).2.1,{D with n:=(bg D.n).2.2}.ren r,if (bg D.n).2.1=0 then upd G (r f) ((G (r f)).1,(G (r f)).1.length) else G):=by unfold Cw;rw[O];rfl
  have Y:Cw D F name=((bg D.n).2.1,{D with n:=(bg D.n).2.2},if (bg D.n).2.1=0 then upd F f ((F f).1,(F f).1.length) else F):=by unfold Cw;rw[hx]
  rw[e1]at L W;rw[Y];refine⟨L,W.bj rfl (λd z=>?_) h3⟩;have hf:=FJ hx;show (if (bg D.n).2.1=0 then upd G (r f) ((G (r f)).1,(G (r f)).1.length) else G) (r d)=(if (bg D.n).2.1=0 then upd F f ((F f).1,(F f).1.length) else F) d;by_cases I:(bg D.n).2.1=0
  ·rw[Af I,Af I];unfold upd;by_cases E:d=f
   ·subst E;simp[H d hf]
   ·have:r d≠r f:=λe=>E (h3 d f z hf e);simp only[this,E,C4];exact H d z
  ·rw[Ac I,Ac I];exact H d z
def N4{r:Nat->Nat}{G:Nat->FC}(H:∀f,D.Aq f->G (r f)=F f)(I:∀f d,D.Aq f->D.Aq d->r f=r d->f=d){f:Nat}(E:D.Aq f)(c:FC):∀d,D.Aq d->upd G (r f) c (r d)=upd F f c d:=λd z=>by
 unfold upd;by_cases h:d=f
 ·subst h;simp
 ·have:r d≠r f:=λe=>h (I d f z E e);simp only[this,h,C4];exact H d z
def TE{r:Nat->Nat}{G:Nat->FC}(L:∀f,D.Aq f->G (r f)=F f)(O:∀f d,D.Aq f->D.Aq d->r f=r d->f=d){f:Nat}(I:D.Aq f)(data:ByteArray)(h e:Int):
 (By (D.ren r) G (r f) data h e).1=(By D F f data h e).1/\(By (D.ren r) G (r f) data h e).2.1=(By D F f data h e).2.1.ren r/\(∀d,D.Aq d->(By (D.ren r) G (r f) data h e).2.2 (r d)=(By D F f data h e).2.2 d)/\(∀d,(By D F f data h e).2.1.Aq d↔D.Aq d):=by
 have H:FL (D.ren r) G=FL D F:=by
  unfold FL;have:B4 G (D.ren r).A4=B4 F D.A4:=Q4 r G F D.A4 λf I=>L f (.inl I);rw[this];rfl
 unfold By;rw[H];by_cases W:h>FL D F
 ·simp only[W,Cg];rw[L f I];refine⟨by first|trivial|rfl,?_,λd E=>N4 L O I _ d E,λd=>?_⟩
  ·by_cases z:e=0
   ·rw[Af z,Af z];rfl
   ·rw[Ac z,Ac z]
  ·by_cases z:e=0
   ·rw[Af z];exact Iff.rfl
   ·rw[Ac z]
 ·simp only[W,C4];rw[L f I];exact⟨by first|trivial|rfl,by first|trivial|rfl,λd E=>N4 L O I _ d E,λ_=>by first|trivial|exact Iff.rfl⟩
def A2s(h:B3 w b D F Ft)(name data:ByteArray)(hroom : -4611686018427387904<=D.n.AB/\D.n.AB<=9223372036854775807)(hu:B4 F D.A4<=4611686018427387904)(hp:0<=D.n.Bq/\D.n.Bq<=9223372036854775807)(hl:∀f,lookup D.A4 name=some f->(F f).1.length+data.size<=70368744177664):
 Ah 8 #[A5 b,.string name,.string data] w (Am (A0 (Bl D F name data).1) λw'=>Eh w Ft w' b (Bl D F name data).2.1 (Bl D F name data).2.2):=by
 obtain⟨r,G,h1,h2,h3⟩:=h;have z:lookup (D.ren r).A4 name=(lookup D.A4 name).map r:=Jh r D.A4 name
 refine(A2r w b _ G Ft h1 name data hroom (by
  have:B4 G (D.ren r).A4=B4 F D.A4:=Q4 r G F D.A4 λf O=>h2 f (.inl O)
  rw[this];exact hu) hp (λf O=>by
   rw[z]at O;cases hx:lookup D.A4 name with
   | none=>rw[hx]at O;cases O
   | some f0=>
    rw[hx]at O;simp at O;subst O
    rw[h2 f0 (FJ hx)];exact hl f0 hx)).mono ?_
 rintro e w'⟨L,W⟩;cases hx:lookup D.A4 name with
 | none=>
  rw[hx]at z;have e1:Bl (D.ren r) G name data=(8,D.ren r,G):=by unfold Bl;rw[z];rfl
  have Y:Bl D F name data=(8,D,F):=by unfold Bl;rw[hx]
  rw[e1]at L W;rw[Y];exact⟨L,W.bj rfl h2 h3⟩
 | some f=>
  rw[hx]at z;have O:=FJ hx;have aA:=O;by_cases c1:(bg D.n).1=true
  ·have e1:Bl (D.ren r) G name data=By ({D with n:=(bg D.n).2.2}.ren r) G (r f) data data.size (bg D.n).2.1:=by
    unfold Bl;rw[z];show (if (bg D.n).1=true then _ else _)=_;rw[Af c1];rfl
   have Y:Bl D F name data=By {D with n:=(bg D.n).2.2} F f data data.size (bg D.n).2.1:=by
    unfold Bl;rw[hx];show (if (bg D.n).1=true then _ else _)=_;rw[Af c1]
   rw[e1]at L W;rw[Y];obtain⟨k1,k2,k3,k4⟩:=TE (D:={D with n:=(bg D.n).2.2}) (r:=r) (G:=G) (F:=F) h2 h3 aA data data.size (bg D.n).2.1;rw[k1]at L;exact⟨L,W.bj k2 (λE d=>k3 E ((k4 E).1 d)) λE I d H=>h3 E I ((k4 E).1 d) ((k4 I).1 H)⟩
  ·by_cases c2:(bg D.n).2.2.AS=false/\0<data.size
   ·have e1:Bl (D.ren r) G name data=By ({D with n:=(bg D.n).2.2}.ren r) G (r f) data ((bg D.n).2.2.Bq % data.size) (bg D.n).2.1:=by
     unfold Bl;rw[z];show (if (bg D.n).1=true then _ else if (bg D.n).2.2.AS=false/\0<data.size then _ else _)=_;rw[Ac c1,Af c2];rfl
    have Y:Bl D F name data=By {D with n:=(bg D.n).2.2} F f data ((bg D.n).2.2.Bq % data.size) (bg D.n).2.1:=by
     unfold Bl;rw[hx];show (if (bg D.n).1=true then _ else if (bg D.n).2.2.AS=false/\0<data.size then _ else _)=_;rw[Ac c1,Af c2]
    rw[e1]at L W;rw[Y];obtain⟨k1,k2,k3,k4⟩:=TE (D:={D with n:=(bg D.n).2.2}) (r:=r) (G:=G) (F:=F) h2 h3 aA data ((bg D.n).2.2.Bq % data.size) (bg D.n).2.1;rw[k1]at L;exact⟨L,W.bj k2 (λE d=>k3 E ((k4 E).1 d)) λE I d H=>h3 E I ((k4 E).1 d) ((k4 I).1 H)⟩
   ·have e1:Bl (D.ren r) G name data=((bg D.n).2.1,{D with n:=(bg D.n).2.2}.ren r,G):=by
     unfold Bl;rw[z];show (if (bg D.n).1=true then _ else if (bg D.n).2.2.AS=false/\0<data.size then _ else _)=_;rw[Ac c1,Ac c2];rfl
    have Y:Bl D F name data=((bg D.n).2.1,{D with n:=(bg D.n).2.2},F):=by
     unfold Bl;rw[hx];show (if (bg D.n).1=true then _ else if (bg D.n).2.2.AS=false/\0<data.size then _ else _)=_;rw[Ac c1,Ac c2]
    rw[e1]at L W;rw[Y];exact⟨L,W.bj rfl h2 h3⟩
def Jx{es:List AL}{n:DN}(z:∀f,Dc f es->D.Aq f)(f:Nat)(d:({D with A4:=es,As:=D.As++[es],n:=n}:DS).Aq f):D.Aq f:=by
 rcases d with d|d|⟨c,h,d⟩
 ·exact z f d
 ·exact .inr (.inl d)
 ·rcases AV.1 h with h|h
  ·exact .inr (.inr ⟨c,h,d⟩)
  ·simp at h;subst h;exact z f d
def N6(r:Nat->Nat)(es:List AL)(n:DN):({D.ren r with A4:=ren r es,As:=(D.ren r).As++[ren r es],n:=n}:DS)=({D with A4:=es,As:=D.As++[es],n:=n}:DS).ren r:=by
 simp[DS.ren]
def Xl(h:B3 w b D F Ft)(name:ByteArray)(hs:D.A4.length<1099511627776/\D.As.length<1099511627776):
 Ah 158 #[A5 b,.string name] w (Am (A0 (Dd D name).1) λw'=>Eh w Ft w' b (Dd D name).2 F):=by
 obtain⟨r,G,h1,Y,h3⟩:=h;obtain⟨l1,l2,l3,l4⟩:=JE D r;refine(Xk w b _ G Ft h1 name (by rw[l1,l3];exact hs)).mono ?_;rintro e w'⟨H,I⟩;have E:B2 (D.ren r).A4 name=B2 D.A4 name:=Nw r D.A4 name;by_cases c1:B2 D.A4 name<0
 ·have W:Dd (D.ren r) name=(8,D.ren r):=by unfold Dd;rw[E,Af c1]
  have L:Dd D name=(8,D):=by unfold Dd;rw[Af c1]
  rw[W]at H I;rw[L];exact⟨H,I.bj rfl Y h3⟩
 ·by_cases c2:(bg D.n).1=true
  ·have L:Dd D name=((bg D.n).2.1,{D with A4:=D.A4.take (B2 D.A4 name).toNat++D.A4.drop ((B2 D.A4 name).toNat+1),As:=D.As++[D.A4.take (B2 D.A4 name).toNat++D.A4.drop ((B2 D.A4 name).toNat+1)],n:=(bg D.n).2.2}):=by
    unfold Dd;rw[Ac c1];simp only[c2,Cg]
   have W:Dd (D.ren r) name=((bg D.n).2.1,{D with A4:=D.A4.take (B2 D.A4 name).toNat++D.A4.drop ((B2 D.A4 name).toNat+1),As:=D.As++[D.A4.take (B2 D.A4 name).toNat++D.A4.drop ((B2 D.A4 name).toNat+1)],n:=(bg D.n).2.2}.ren r):=by
    have d:(bg (D.ren r).n).1=true:=c2;unfold Dd;rw[E,Ac c1];simp only[d,Cg];rw[<-N6,LC,<-Xd,<-Xf];rfl
   rw[W]at H I;rw[L];have z:∀f,Dc f (D.A4.take (B2 D.A4 name).toNat++D.A4.drop ((B2 D.A4 name).toNat+1))->D.Aq f:=by
    rintro f⟨x,O,he⟩;rcases AV.1 O with O|O
    ·exact .inl ⟨x,Ik O,he⟩
    ·exact .inl ⟨x,Lb O,he⟩
   exact⟨H,I.bj rfl (λf hf=>Y f (Jx z f hf)) λf f' hf aA=>h3 f f' (Jx z f hf) (Jx z f' aA)⟩
  ·(have L:Dd D name=((bg D.n).2.1,{D with n:=(bg D.n).2.2}):=by unfold Dd;rw[Ac c1];simp only[c2];rfl);have W:Dd (D.ren r) name=((bg D.n).2.1,{D with n:=(bg D.n).2.2}.ren r):=by
    have d:¬(bg (D.ren r).n).1=true:=c2;unfold Dd;rw[E,Ac c1];simp only[d];rfl
   rw[W]at H I;rw[L];exact⟨H,I.bj rfl Y h3⟩
def Xb(h:B3 w b D F Ft)(old name:ByteArray)(hs:D.A4.length<1099511627776/\D.As.length<1099511627776):
 Ah 204 #[A5 b,.string old,.string name] w (Am (A0 (CN D old name).1) λw'=>Eh w Ft w' b (CN D old name).2 F):=by
 obtain⟨r,G,h1,h2,h3⟩:=h;obtain⟨l1,l2,l3,l4⟩:=JE D r;refine(Xa w b _ G Ft h1 old name (by rw[l1,l3];exact hs)).mono ?_;rintro e w'⟨E,H⟩;have z:lookup (D.ren r).A4 old=(lookup D.A4 old).map r:=Jh r D.A4 old;cases hx:lookup D.A4 old with
 | none=>
  rw[hx]at z;have W:CN (D.ren r) old name=(8,D.ren r):=by unfold CN;rw[z];rfl
  have L:CN D old name=(8,D):=by unfold CN;rw[hx]
  rw[W]at E H;rw[L];exact⟨E,H.bj rfl h2 h3⟩
 | some f=>
  rw[hx]at z;by_cases c1:name=ByteArray.empty
  ·(have W:CN (D.ren r) old name=(8,D.ren r):=by unfold CN;rw[z];simp only[Hx];rw[Af c1]);(have L:CN D old name=(8,D):=by unfold CN;rw[hx];simp only;rw[Af c1]);rw[W]at E H;rw[L];exact⟨E,H.bj rfl h2 h3⟩
  ·by_cases c2:(bg D.n).1=true
   ·have L:CN D old name=((bg D.n).2.1,{D with A4:=Di D.A4 (B2 D.A4 old).toNat name D.A4.length++[(name,f)],As:=D.As++[Di D.A4 (B2 D.A4 old).toNat name D.A4.length++[(name,f)]],n:=(bg D.n).2.2}):=by
     unfold CN;rw[hx];simp only;rw[Ac c1];simp only[c2,Cg]
    have W:CN (D.ren r) old name=((bg D.n).2.1,{D with A4:=Di D.A4 (B2 D.A4 old).toNat name D.A4.length++[(name,f)],As:=D.As++[Di D.A4 (B2 D.A4 old).toNat name D.A4.length++[(name,f)]],n:=(bg D.n).2.2}.ren r):=by
     have I:(bg (D.ren r).n).1=true:=c2;have aB:B2 (D.ren r).A4 old=B2 D.A4 old:=Nw r D.A4 old;unfold CN;rw[z];simp only[Hx];rw[Ac c1];simp only[I,Cg];rw[<-N6,LC,<-Xe,aB,l1];rfl
    rw[W]at E H;rw[L];have O:∀Y,Dc Y (Di D.A4 (B2 D.A4 old).toNat name D.A4.length++[(name,f)])->D.Aq Y:=by
     rintro Y⟨x,d,he⟩;rcases AV.1 d with d | d
     ·exact .inl ⟨x,LD _ _ _ _ x d,he⟩
     ·simp at d;subst d;cases he;exact FJ hx
    exact⟨E,H.bj rfl (λf hf=>h2 f (Jx O f hf)) λf Y hf aA=>h3 f Y (Jx O f hf) (Jx O Y aA)⟩
   ·(have L:CN D old name=((bg D.n).2.1,{D with n:=(bg D.n).2.2}):=by unfold CN;rw[hx];simp only;rw[Ac c1];simp only[c2];rfl);have W:CN (D.ren r) old name=((bg D.n).2.1,{D with n:=(bg D.n).2.2}.ren r):=by
     have I:¬(bg (D.ren r).n).1=true:=c2;unfold CN;rw[z];simp only[Hx];rw[Ac c1];simp only[I];rfl
    rw[W]at E H;rw[L];exact⟨E,H.bj rfl h2 h3⟩
def A08(h:B3 w b D F Ft)(name:ByteArray)(k:Nat)(hk:¬D.Aq k)(hs:D.A4.length<1099511627776/\D.As.length<1099511627776):
 Calls Tryz.prog 7 #[.pointer (some ⟨b,0,none⟩),.string name] w λe w'=>e=.returned (.int .i64 (CK D name k).1)/\Eh w Ft w' b (CK D name k).2 (upd F k ([],0)):=by
 obtain⟨r,G,h1,h2,h3⟩:=h;obtain⟨l1,l2,l3,l4⟩:=JE D r;have L:∀f,D.Aq f->r f<w.heap.size:=by
  obtain⟨vd,vs,vc,vals,VB,hr,_⟩:=h1;intro f d;refine hr.lt (.BI ?_);rcases d with⟨x,E,rfl⟩|⟨x,E,rfl⟩|⟨c,I,x,E,rfl⟩
  ·exact .inl ⟨_,DP E,rfl⟩
  ·exact .inr (.inl ⟨_,DP E,rfl⟩)
  ·exact .inr (.inr ⟨_,DP I,_,DP E,rfl⟩)
 refine(A07 w b _ G Ft h1 name (by rw[l1,l3];exact hs)).mono ?_;rintro e w'⟨f0,q0,q1,q2⟩;have Y:B2 (D.ren r).A4 name=B2 D.A4 name:=Nw r D.A4 name;have hG:∀f,D.Aq f->upd G f0 ([],0) (r f)=upd F k ([],0) f:=λf d=>by
  unfold upd;have n1:r f≠f0:=by have:=L f d;omega
  have n2:f≠k:=λe=>hk (e ▸ d);simp only[n1,n2,C4];exact h2 f d
 by_cases c1:name=ByteArray.empty\/B2 D.A4 name≥0
 ·have e1:CK (D.ren r) name f0=(8,D.ren r):=by unfold CK;rw[Y,Af c1]
  have e2:CK D name k=(8,D):=by unfold CK;rw[Af c1]
  rw[e1]at q1 q2;rw[e2];exact⟨q1,q2.bj rfl hG h3⟩
 ·by_cases c2:(bg D.n).1=true
  ·have e2:CK D name k=((bg D.n).2.1,{D with A4:=D.A4++[(name,k)],As:=D.As++[D.A4++[(name,k)]],n:=(bg D.n).2.2}):=by
    unfold CK;rw[Ac c1];simp only[c2,Cg]
   have z:∀f,D.Aq f->(λf=>if f=k then f0 else r f) f=r f:=λf d=>by
    have n2:f≠k:=λe=>hk (e ▸ d);simp only[n2,C4]
   have aA:D.ren (λf=>if f=k then f0 else r f)=D.ren r:=DS.ren_congr z;have e1:CK (D.ren r) name f0=((bg D.n).2.1,{D with A4:=D.A4++[(name,k)],As:=D.As++[D.A4++[(name,k)]],n:=(bg D.n).2.2}.ren (λf=>if f=k then f0 else r f)):=by
    have W:(bg (D.ren r).n).1=true:=c2;unfold CK;rw[Y,Ac c1];simp only[W,Cg];rw[<-N6,aA,LC];have e3:ren (λf=>if f=k then f0 else r f) D.A4=(D.ren r).A4:=by
     have:=EB DS.A4 aA;exact this
    rw[e3];(have e4:ren (λf=>if f=k then f0 else r f) [(name,k)]=[(name,f0)]:=by simp[ren]);rw[e4];rfl
   rw[e1]at q1 q2;rw[e2];have H:∀f,({D with A4:=D.A4++[(name,k)],As:=D.As++[D.A4++[(name,k)]],n:=(bg D.n).2.2}:DS).Aq f->D.Aq f\/f=k:=by
    have key:∀f,Dc f (D.A4++[(name,k)])->D.Aq f\/f=k:=by
     rintro f⟨x,E,rfl⟩;rcases AV.1 E with E|E
     ·exact .inl (.inl ⟨x,E,rfl⟩)
     ·simp at E;subst E;exact .inr rfl
    rintro f (d|d|⟨c,I,d⟩)
    ·exact key f d
    ·exact .inl (.inr (.inl d))
    ·rcases AV.1 I with I|I
     ·exact .inl (.inr (.inr ⟨c,I,d⟩))
     ·simp at I;subst I;exact key f d
   refine⟨q1,q2.bj rfl (λf d=>?_) λf f' d aB e=>?_⟩
   ·rcases H f d with h|h
    ·simp only[z f h];exact hG f h
    ·subst h;simp[upd]
   ·rcases H f d with h|h<;>rcases H f' aB with O | O
    ·simp only[z f h,z f' O]at e;exact h3 f f' h O e
    ·subst O;simp only[z f h,Cg]at e;have:=L f h;omega
    ·subst h;simp only[z f' O,Cg]at e;have:=L f' O;omega
    ·rw[h,O]
  ·(have e2:CK D name k=((bg D.n).2.1,{D with n:=(bg D.n).2.2}):=by unfold CK;rw[Ac c1];simp only[c2];rfl);have e1:CK (D.ren r) name f0=((bg D.n).2.1,{D with n:=(bg D.n).2.2}.ren r):=by
    have W:¬(bg (D.ren r).n).1=true:=c2;unfold CK;rw[Y,Ac c1];simp only[W];rfl
   rw[e1]at q1 q2;rw[e2];exact⟨q1,q2.bj rfl hG h3⟩
def Xz(h:B3 w b D F Ft)(name:ByteArray)(p n:Int):
 Ah 168 #[A5 b,.string name,A0 p,A0 n] w (Am (.tuple #[.string ⟨(EU D F name p n).1.toArray⟩,A0 (EU D F name p n).2]) λw'=>w=w'):=by
 obtain⟨r,G,H,E,h3⟩:=h;have d:lookup (D.ren r).A4 name=(lookup D.A4 name).map r:=Jh r D.A4 name;have z:EU (D.ren r) G name p n=EU D F name p n:=by
  unfold EU;rw[d];cases hx:lookup D.A4 name with
  | none=>rfl
  | some f=>simp only[Hx,E f (FJ hx)]
 have:=Xy w b _ G Ft H name p n
 rwa [z]at this
def Nd(h:B3 w b D F Ft)(name:ByteArray):
 Ah 167 #[A5 b,.string name] w (Am (.tuple #[A0 (Cx D F name).1,A0 (Cx D F name).2]) λw'=>w=w'):=by
 obtain⟨r,G,W,I,h3⟩:=h;have z:lookup (D.ren r).A4 name=(lookup D.A4 name).map r:=Jh r D.A4 name;have H:Cx (D.ren r) G name=Cx D F name:=by
  unfold Cx;rw[z];cases hx:lookup D.A4 name with
  | none=>rfl
  | some f=>simp only[Hx,I f (FJ hx)]
 obtain⟨vd,L,E,d,Y,O,_⟩:=W;have:=Wt w b _ G vd L E d Y O name
 rwa [H]at this
def YY(h:B3 w b D F Ft)(H:D.A4.length<1099511627776):
 Ah 48 #[A5 b] w λe w'=>∃v,e=.returned v/\w'.ownsRow 0 9 1 v D.A4.length (Fp (dList D.A4))/\A3 Aa w w'/\(∀g,v.ownBlock=some g->w.heap.size<=g):=by
 obtain⟨r,G,E,h2,h3⟩:=h;obtain⟨d,l2,l3,l4⟩:=JE D r;have:=O9 w b _ G Ft E (by rw[d];exact H);have z:dList (D.ren r).A4=dList D.A4:=QY r D.A4
 rwa [d,z]at this
def A0X(h:B3 w b D F Ft):Ah 73 #[A5 b] w (Am (.bool D.n.AS) λw'=>w=w'):=by
 obtain⟨E,z,d,h⟩:=h.Ag;exact A0W w b E z d D.n h
def NB(h:B3 w b D F Ft):Ah 21 #[A5 b] w (Am (A0 D.n.B5) λw'=>w=w'):=by
 obtain⟨E,z,d,h⟩:=h.Ag;exact Xo w b E z d D.n h
def TF(h:B3 w b D F Ft)(c:Int):Ah 45 #[A5 b,A0 c] w (Am (.tuple #[]) λw'=>Eh w Ft w' b {D with n:={D.n with BT:=if c>0 then wrap64 (D.n.AP+c) else 0}} F):=by
 obtain⟨r,G,⟨vd,H,E,vals,VB,d,z⟩,I,O⟩:=h;refine(A04 w b vd H E D.n c d.Ag).mono ?_;rintro e w'⟨L,Y,W⟩;exact⟨L,(d.bO z Y W).bj (D':={D with n:={D.n with BT:=if c>0 then wrap64 (D.n.AP+c) else 0}}) rfl I O⟩
def OA(h:B3 w b D F Ft)(c p:Int):Ah 17 #[A5 b,A0 c,A0 p] w (Am (.tuple #[]) λw'=>Eh w Ft w' b {D with n:=Dj D.n c p} F):=by
 obtain⟨r,G,⟨W,E,Y,vals,VB,d,L⟩,z,O⟩:=h;refine(A0F w b W E Y D.n c p d.Ag).mono ?_;rintro e w'⟨H,q2,I⟩;exact⟨H,(d.bO L q2 I).bj (D':={D with n:=Dj D.n c p}) rfl z O⟩
def TJ(r:Nat->Nat)(D:DS)(d:Int):FM (D.ren r) d=ren r (FM D d):=by
 unfold FM;have:(D.ren r).As.length=D.As.length:=by simp[DS.ren]
 rw[this];cases Fa d D.As.length with
 | zero=>rfl
 | succ k=>
  show (D.As.map (ren r)).getD k []=ren r (D.As.getD k []);rw[HC,HC,Po];cases D.As[k]?<;>rfl
def ON(D:DS)(d:Int)(f:Nat)(h:Dc f (FM D d)):D.Aq f:=by
 unfold FM at h;split at h
 ·exact .inr (.inl h)
 ·rename_i k _;rw[HC]at h;cases hx:D.As[k]? with
  | none=>rw[hx]at h;obtain⟨e,z,_⟩:=h;cases z
  | some c=>rw[hx]at h;exact .inr (.inr ⟨c,Lc hx,h⟩)
def A1g{r:Nat->Nat}{G:Nat->FC}(I:∀f,D.Aq f->G (r f)=F f)(L:∀f E,D.Aq f->D.Aq E->r f=r E->f=E){es:List AL}(z:∀f,Dc f es->D.Aq f)(H:List Int)(names:List ByteArray)(k:Nat):
 ∀f,D.Aq f->DH (ren r es) H names G k (r f)=DH es H names F k f:=by
 induction k with
 | zero=>exact I
 | succ k ih=>
  intro f h;simp only[DH];cases names[k]? with
  | none=>exact ih f h
  | some name=>
   simp only[Jh];cases hx:lookup es name with
   | none=>exact ih f h
   | some f0=>
    have d:=z f0 (SA hx);simp only[Hx,ih f0 d];exact N4 ih L d _ f h
def A1e(h:B3 w b D F Ft)(d:Int)(W:Value)(I:List Int)(ht:MP w W I)(aB:∀ad n c x,n≠0->W=.slice ad n c->ad=some x->¬Ft x.block)(O:D.A4.length<1099511627776/\D.AM.length<1099511627776/\D.As.length<1099511627776/\∀c∈D.As,c.length<1099511627776)(hdi : -9223372036854775808<=d/\d<=9223372036854775807)(aA:∀t∈I,-9223372036854775808<=t/\t<=9223372036854775807)(hF:∀f,D.Aq f->0<=(F f).2/\(F f).2<=(F f).1.length/\(F f).1.length<=1099511627776):
 Ah 74 #[A5 b,A0 d,W] w (Am (.tuple #[]) λw'=>Eh w Ft w' b (Fg D F d I).1 (Fg D F d I).2):=by
 obtain⟨r,G,h1,h2,h3⟩:=h;obtain⟨l1,l2,l3,l4⟩:=JE D r
 refine(A1d w b _ G Ft h1 d W I ht aB (by
  rw[l1,l2,l3];refine⟨O.1,O.2.1,O.2.2.1,λc hc=>?_⟩;obtain⟨c0,Y,rfl⟩:=CA.1 hc
  rw[Iy];exact O.2.2.2 c0 Y) hdi aA (λf' E=>by
  obtain⟨f,L,rfl⟩:=DS.cM E
  rw[h2 f L];exact hF f L)).mono ?_
 rintro e w'⟨L,q2⟩;have z:∀f,(Fg D F d I).1.Aq f->D.Aq f:=by
  rintro f (H|H|⟨c,hc,_⟩)
  ·exact ON D d f H
  ·exact ON D d f H
  ·cases hc
 refine⟨L,q2.bj (r:=r) ?_ (λf H=>?_) λf f' H E=>h3 f f' (z f H) (z f' E)⟩
 ·simp only[Fg,TJ];rfl
 ·simp only[Fg,TJ,QY,Iy];exact A1g h2 h3 (ON D d) I _ _ f (z f H)
end
def Up(N:Nat):Nat->Prop:=λk=>N<=k
def B3.af{w:World}{b:Nat}{D:DS}{F:Nat->FC}{Ft:Nat->Prop}(h:B3 w b D F Ft):B3 w.drew b D F Ft:=h.aP λ_ _=>rfl
def Eh.dE{w w':World}{b:Nat}{D:DS}{F:Nat->FC}{Ft:Nat->Prop}(h:Eh w.drew Ft w' b D F):Eh w Ft w' b D F:=by
 obtain⟨d,z⟩:=h;exact⟨⟨d.os,d.FB,d.FF,d.Ak,d.Al⟩,z⟩
section
variable {w:World} {b fb:Nat} {D:DS} {F:Nat->FC} {Ft:Nat->Prop} {T:TypeId} {name:ByteArray} {s:Nat}
def TH(d:Bc w fb T (A5 b) name s)(h:B3 w b D F Ft)(k:Nat)(z:¬D.Aq k)(I:D.A4.length<1099511627776/\D.As.length<1099511627776):
 Ah 202 #[A5 fb] w (Am (A0 (CK D name k).1) λw'=>Eh w Ft w' b (CK D name k).2 (upd F k ([],0))):=by
 have c0:=d.c0;have c1:=d.c1;have CR:=A1 (A08 h.af name k z I);generalize hq:(CK D name k).1=q at CR ⊢
 go_enter func202,ntmps202
 go_wp2;refine FA (λw'=>A6 w' fb 0 (A5 b)/\A6 w' fb 1 (.string name)) 8
  (Bz [0,1,2,3,4,5,6,7] []) (by kernel_rfl) (by kernel_rfl) (λ_ _ _ _ _ h=>h) ⟨c0,c1⟩ ?_
 iterate 8 (refine E8 (v:=?_) rfl (by rfl) ?_ ?_;rotate_left;(· (intro w' E;(try dsimp only at E);go_simp;try with_reducible rfl));(try simp only[Ao]))
 refine Bo ?_;simp only[DE,Dq];go_wp2_with (go_at_call 7;refine CR.m ?_;rintro e w'⟨rfl,L⟩;have H:=A1 L);go_ret;exact⟨rfl,H.o.dE⟩
def VM(d:Bc w fb T (A5 b) name s)(h:B3 w b D F Ft):
 Ah 116 #[A5 fb] w (Am (A0 (Cw D F name).1) λw'=>Eh w Ft w' b (Cw D F name).2.1 (Cw D F name).2.2):=by
 have c0:=d.c0;have c1:=d.c1;have CR:=A1 (Q9 h.af name);generalize hq:(Cw D F name).1=q at CR ⊢
 go_enter func116,ntmps116
 go_wp2;refine FA (λw'=>A6 w' fb 0 (A5 b)/\A6 w' fb 1 (.string name)) 8
  (Bz [0,1,2,3,4,5,6,7] []) (by kernel_rfl) (by kernel_rfl) (λ_ _ _ _ _ h=>h) ⟨c0,c1⟩ ?_
 iterate 8 (refine E8 (v:=?_) rfl (by rfl) ?_ ?_;rotate_left;(· (intro w' z;(try dsimp only at z);go_simp;try with_reducible rfl));(try simp only[Ao]))
 refine Bo ?_;simp only[DE,Dq];go_wp2_with (go_at_call 115;refine CR.m ?_;rintro e w'⟨rfl,H⟩;have E:=A1 H);go_ret;exact⟨rfl,E.o.dE⟩
end
def DJ(D:DS)(F:Nat->FC)(name:ByteArray):List UInt8×Int:=match lookup D.A4 name with
 | some f=>((F f).1,0)
 | none=>([],8)
def B3.aI{w w':World}{b:Nat}{D:DS}{F:Nat->FC}{Ft:Nat->Prop}(h:B3 w b D F Ft)(d:∀k,Ft k->k<w.heap.size)(E:A3 Aa w w'):B3 w' b D F Ft:=h.aP λk z=>E.Al k (d k z) (λh=>h)
section
variable {w:World} {b fb:Nat} {D:DS} {F:Nat->FC} {Ft:Nat->Prop} {T:TypeId} {name:ByteArray} {s:Nat}
def Uo(hf:Bc w fb T (A5 b) name s)(h:B3 w b D F Ft):
 Ah 119 #[A5 fb] w (Am (.tuple #[.string ⟨(DJ D F name).1.toArray⟩,A0 (DJ D F name).2]) λw'=>A3 Aa w w'):=by
 obtain⟨d,aA⟩:∃d,(Cx D F name).1=d:=⟨_,rfl⟩;obtain⟨ze,H⟩:∃ze,(Cx D F name).2=ze:=⟨_,rfl⟩;have aR:∀w',B3 w' b D F Ft->Ah 167 #[A5 b,.string name] w' λe O=>e=.returned (.tuple #[A0 d,A0 ze])/\w'=O:=λw' h=>by
  rw[<-aA,<-H];exact Nd h name
 have aQ:∀w',B3 w' b D F Ft->Ah 168 #[A5 b,.string name,A0 0,A0 d] w' λe O=>e=.returned (.tuple #[.string ⟨(EU D F name 0 d).1.toArray⟩,A0 (EU D F name 0 d).2])/\w'=O:=λw' h=>Xz h name 0 d;have aG:=A1 aR;have aP:=A1 aQ;have aB:(ze=0/\Hid ((EU D F name 0 d).1=(DJ D F name).1/\(EU D F name 0 d).2=(DJ D F name).2))\/(ze=8/\Hid ((DJ D F name).1=[]/\(DJ D F name).2=8)):=by
  unfold Cx at aA H;unfold EU DJ Hid;cases hx:lookup D.A4 name with
  | none=>rw[hx]at H;exact .inr ⟨H.symm,rfl,rfl⟩
  | some f=>
   rw[hx]at H aA;subst aA;refine .inl ⟨H.symm,?_⟩;dsimp only
   rw[Ac (by omega)];simp
 obtain⟨rs,aI⟩:∃rs,(DJ D F name).1=rs:=⟨_,rfl⟩;obtain⟨re,aN⟩:∃re,(DJ D F name).2=re:=⟨_,rfl⟩;rw[aI,aN]at aB ⊢
 go_enter func119,ntmps119
 go_wp2;refine H0 13 (λy=>{tmps:=#[A5 fb,undef,.string ⟨#[]⟩,A0 0,y 12,undef,y 9,y 0,y 1,y 2,y 3,y 4,y 5,y 6,y 7,y 8,y 10,y 11,undef,undef,undef,undef,undef,undef,undef,undef,undef,undef,undef,undef,undef,undef,undef],defers:=[]}) (λ_=>undef)
  (λw'=>Bc w' fb T (A5 b) name s/\B3 w' b D F Ft/\A3 Aa w w') (A3 Aa)
  (λj x w'=>match j with
   | 0=>x=(A5 fb)
   | 1=>x=(A5 fb)
   | 2=>x=(A5 fb)
   | 3=>x=(A5 b)
   | 4=>x=(A5 fb)
   | 5=>x=(A5 fb)
   | 6=>x=.pointer (some (Ab fb 1))
   | 7=>x=.string name
   | 8=>x=.tuple #[A0 d,A0 ze]
   | 9=>x=.tuple #[A0 d,A0 ze]
   | 10=>x=A0 d
   | 11=>x=A0 ze
   | 12=>x=A0 d
   | _=>True)
  (by kernel_rfl) (by kernel_rfl) rfl ?_ ?_ ?_ ?_
 ·exact⟨hf,h.af,(A3.I _ _).af⟩
 ·intro j x w1 w2 hR aM W;split at W<;>exact W
 ·simp only[EX,EL,Fy,Hv]
  repeat' (with_reducible apply And.intro)
  all_goals refine⟨?_,(by intro y L _ _ h;exact Bool.noConfusion h),λy x=>rfl⟩
  all_goals
   intro y L hS Y hw K hK;obtain⟨E,aD,aE⟩:=hS;simp[G8,Region.binds,F6,List.filter_cons]at Y;have c0:=E.c0;have c1:=E.c1;have I:Hid (Bc L fb T (A5 b) name s/\B3 L b D F Ft/\A3 Aa w L):=⟨E,aD,aE⟩;have aF:=A1 hK
  all_goals dsimp only
  all_goals try go_simp
  all_goals try with_reducible exact aF.o _ _ _ rfl (by simp[Act.put,Y]) (A3.I _ _) I.o
  all_goals try
   (have aH:y 3=(A5 b):=by with_reducible exact Y.1);refine(aG.o L I.o.2.1).mono ?_;rintro e w2⟨rfl,rfl⟩;exact aF.o _ _ _ rfl (by simp[Act.put,Y]) (A3.I _ _) I.o
 ·intro y L hS W;have aL:=W 11 (by omega);have aJ:=W 12 (by omega);have I:=A1 hS;rcases aB with⟨rfl,aB⟩|⟨rfl,aB⟩
  ·(have aO:∀w',B3 w' b D F Ft->Ah 168 #[A5 b,.string name,A0 0,A0 d] w' λe O=>e=.returned (.tuple #[.string ⟨rs.toArray⟩,A0 re])/\w'=O:=by rw[<-aB.o.1,<-aB.o.2];exact aP.o);have aK:=A1 aO;go_wp2;refine H0 13 (λz=>{tmps:=#[A5 fb,undef,z 12,A0 0,A0 d,A0 0,y 9,y 0,y 1,y 2,y 3,y 4,y 5,y 6,y 7,y 8,y 10,A0 0,A0 0,.bool false,undef,z 0,z 1,z 2,z 3,z 4,z 5,z 6,z 7,z 8,z 9,z 10,z 11],defers:=[]}) (λj=>if j=12 then .string ⟨#[]⟩ else undef)
    (λw'=>Bc w' fb T (A5 b) name s/\B3 w' b D F Ft/\A3 Aa w w') (A3 Aa)
    (λj x w'=>match j with
     | 0=>x=(A5 fb)
     | 1=>x=(A5 fb)
     | 2=>x=(A5 fb)
     | 3=>x=(A5 b)
     | 4=>x=(A5 fb)
     | 5=>x=(A5 fb)
     | 6=>x=.pointer (some (Ab fb 1))
     | 7=>x=.string name
     | 8=>x=A0 d
     | 9=>x=.tuple #[.string ⟨rs.toArray⟩,A0 re]
     | 10=>x=.string ⟨rs.toArray⟩
     | 11=>x=A0 re
     | 12=>x=.string ⟨rs.toArray⟩
     | _=>True)
    (by kernel_rfl) (by kernel_rfl) rfl ?_ ?_ ?_ ?_
   ·exact⟨I.o.1,I.o.2.1.af,I.o.2.2.af⟩
   ·intro j x w1 w2 hR aM W;split at W<;>exact W
   ·clear I aL aJ;simp only[EX,EL,Fy,Hv]
    repeat' (with_reducible apply And.intro)
    all_goals refine⟨?_,(by intro y L _ _ h;exact Bool.noConfusion h),λy x=>rfl⟩
    all_goals
     intro z L hS Y hw K hK;obtain⟨E,aD,aE⟩:=hS;simp[G8,Region.binds,F6,List.filter_cons]at Y;have c0:=E.c0;have c1:=E.c1;have I:Hid (Bc L fb T (A5 b) name s/\B3 L b D F Ft/\A3 Aa w L):=⟨E,aD,aE⟩;have aF:=A1 hK
    all_goals dsimp only
    all_goals try go_simp
    all_goals try with_reducible exact aF.o _ _ _ rfl (by simp[Act.put,Y]) (A3.I _ _) I.o
    all_goals try
     (have aH:z 3=(A5 b):=by with_reducible exact Y.1);refine(aK.o L I.o.2.1).mono ?_;rintro e w2⟨rfl,rfl⟩;exact aF.o _ _ _ rfl (by simp[Act.put,Y]) (A3.I _ _) I.o
   ·intro z wz hZ W;have z11:=W 11 (by omega);have z12:=W 12 (by omega);have aS:=A1 hZ;go_wp2;go_ret2;exact⟨rfl,aS.o.2.2⟩
  ·go_wp2;go_ret2;rw[aB.o.1,aB.o.2];exact⟨rfl,I.o.2.2⟩
end
def K0(w:World)(Ft:Nat->Prop)(fb:Nat)(w':World)(b:Nat)(D':DS)(F':Nat->FC):Prop:=
 A3 (λk=>Ft k\/k=fb) w w'/\∃d,B3 w' b D' F' d/\(∀k,d k->k<w'.heap.size)/\∀k,d k->Ft k\/w.heap.size<=k
def GW(D:DS)(F:Nat->FC)(name:ByteArray)(pc:List UInt8):Bool:=
 decide ((Cx (Bl D F name ⟨pc.toArray⟩).2.1 (Bl D F name ⟨pc.toArray⟩).2.2 name).1-(Cx D F name).1=pc.length)
def TA(D:DS)(F:Nat->FC)(name:ByteArray):0<=(Cx D F name).1:=by
 unfold Cx;cases lookup D.A4 name<;>simp
section
variable {w:World} {b fb:Nat} {D:DS} {F:Nat->FC} {Ft:Nat->Prop} {T:TypeId} {name:ByteArray} {s:Nat}
def addF(hf:Bc w fb T (A5 b) name s)(hs:s<4294967296)(h:B3 w b D F Ft)(aR:∀k,Ft k->k<w.heap.size)(hn:¬Ft fb)(l:List UInt8)(hroom : -4611686018427387904<=D.n.AB/\D.n.AB<=9223372036854775807)(hu:B4 F D.A4<=4611686018427387904)(hp:0<=D.n.Bq/\D.n.Bq<=9223372036854775807)(hl:∀f,lookup D.A4 name=some f->(F f).1.length+(l.length+4)<=70368744177664)(hll:l.length<=4611686018427387904)(hz:(Cx (Bl D F name ⟨(l++Ca (AU s l)).toArray⟩).2.1 (Bl D F name ⟨(l++Ca (AU s l)).toArray⟩).2.2 name).1<=70368744177664/\(Cx D F name).1<=70368744177664):
 Ah 192 #[A5 fb,.string ⟨l.toArray⟩] w (Am (.tuple #[.bool (GW D F name (l++Ca (AU s l))),A0 (Bl D F name ⟨(l++Ca (AU s l)).toArray⟩).1]) λw'=>Bc w' fb T (A5 b) name (AU s l)/\K0 w Ft fb w' b (Bl D F name ⟨(l++Ca (AU s l)).toArray⟩).2.1 (Bl D F name ⟨(l++Ca (AU s l)).toArray⟩).2.2):=by
 obtain⟨aA,a0⟩:=hz;have aO:=A1 (QB w fb T _ name s l hf hs (by omega));have aF:(l++Ca (AU s l)).length=l.length+4:=by simp[H3]
 generalize hs1:AU s l=s1 at aO aF aA ⊢;generalize hpc:l++Ca s1=pc at aO aF aA ⊢;have bC:∀w',B3 w' b D F Ft->_:=λw' h'=>A2s h' name ⟨pc.toArray⟩ hroom hu hp (λf hf=>by have:=hl f hf;show _+pc.length<=_;omega);have r1:=TA D F name;have r2:=TA (Bl D F name ⟨pc.toArray⟩).2.1 (Bl D F name ⟨pc.toArray⟩).2.2 name;have O:GW D F name pc=decide ((Cx (Bl D F name ⟨pc.toArray⟩).2.1 (Bl D F name ⟨pc.toArray⟩).2.2 name).1-(Cx D F name).1=pc.length):=rfl;obtain⟨D',aM⟩:∃D',(Bl D F name ⟨pc.toArray⟩).2.1=D':=⟨_,rfl⟩;obtain⟨F',aI⟩:∃F',(Bl D F name ⟨pc.toArray⟩).2.2=F':=⟨_,rfl⟩;obtain⟨er,aK⟩:∃er,(Bl D F name ⟨pc.toArray⟩).1=er:=⟨_,rfl⟩;rw[aM,aI]at O r2 aA ⊢;rw[aK];rw[aM,aI,aK]at bC;have bE:∀w',B3 w' b D F Ft->_:=λw' h'=>Nd h' name;have bB:∀w' d,B3 w' b D' F' d->_:=λw' d h'=>Nd h' name;obtain⟨zn,aE⟩:∃zn,(Cx D F name).1=zn:=⟨_,rfl⟩;obtain⟨ze,aZ⟩:∃ze,(Cx D F name).2=ze:=⟨_,rfl⟩;obtain⟨yn,aH⟩:∃yn,(Cx D' F' name).1=yn:=⟨_,rfl⟩;obtain⟨ye,aQ⟩:∃ye,(Cx D' F' name).2=ye:=⟨_,rfl⟩;rw[aE,aH]at O;rw[aE]at r1 a0;rw[aH]at r2 aA;rw[aE,aZ]at bE;rw[aH,aQ]at bB;rw[O];obtain⟨ok,O⟩:∃ok,decide (yn-zn=(pc.length:Int))=ok:=⟨_,rfl⟩;rw[O];have aY:=A1 O;have a8:=A1 bC;have aP:=A1 bE;have a5:=A1 bB;have H:=A1 h;have aS:=A1 aR;have bD:=A1 hn
 go_enter func192,ntmps192
 go_wp2_with (go_at_call 169;refine aO.m ?_;rintro e w1⟨rfl,a9,bA⟩;have a1:=A1 a9;have aD:=A1 bA);have E:Hid (Bc w1 fb T (A5 b) name s1/\B3 w1 b D F Ft):=⟨a1.o,H.o.aP λk hk=>aD.o.Al k (aS.o k hk) (λe=>bD.o (e ▸ hk))⟩;refine H0 13 (λy=>{tmps:=#[A5 fb,.string ⟨l.toArray⟩,undef,undef,.bool false,A0 0,.string ⟨pc.toArray⟩,y 12,undef,undef,undef,undef,A5 fb,.string ⟨l.toArray⟩,.string ⟨pc.toArray⟩,y 9,y 0,y 1,y 2,y 3,y 4,y 5,y 6,y 7,y 8,y 10,y 11,undef,undef,undef,undef,undef,undef,undef,undef,undef,undef,undef,undef,undef,undef,undef,undef,undef,undef,undef,undef,undef,undef,undef,undef,undef,undef,undef,undef,undef],defers:=[]}) (λ_=>undef)
  (λw'=>Bc w' fb T (A5 b) name s1/\B3 w' b D F Ft/\A3 Aa w1 w') (A3 Aa)
  (λj x w'=>match j with
   | 0=>x=(A5 fb)
   | 1=>x=(A5 fb)
   | 2=>x=(A5 fb)
   | 3=>x=(A5 b)
   | 4=>x=(A5 fb)
   | 5=>x=(A5 fb)
   | 6=>x=.pointer (some (Ab fb 1))
   | 7=>x=.string name
   | 8=>x=.tuple #[A0 zn,A0 ze]
   | 9=>x=.tuple #[A0 zn,A0 ze]
   | 10=>x=A0 zn
   | 11=>x=A0 ze
   | 12=>x=A0 zn
   | _=>True)
  (by kernel_rfl) (by kernel_rfl) rfl ?_ ?_ ?_ ?_
 ·exact⟨E.o.1,E.o.2.af,(A3.I _ _).af⟩
 ·intro j x w1 w2 hR a6 Y;split at Y<;>exact Y
 ·clear E;simp only[EX,EL,Fy,Hv]
  repeat' (with_reducible apply And.intro)
  all_goals refine⟨?_,(by intro y L _ _ h;exact Bool.noConfusion h),λy x=>rfl⟩
  all_goals
   intro zz L hS hd hw K hK;obtain⟨I,aG,aB⟩:=hS;simp[G8,Region.binds,F6,List.filter_cons]at hd;have c0:=I.c0;have c1:=I.c1;have W:Hid (Bc L fb T (A5 b) name s1/\B3 L b D F Ft/\A3 Aa w1 L):=⟨I,aG,aB⟩;have aJ:=A1 hK
  all_goals dsimp only
  all_goals try go_simp
  all_goals try with_reducible exact aJ.o _ _ _ rfl (by simp[Act.put,hd]) (A3.I _ _) W.o
  all_goals
   refine(aP.o L W.o.2.1).mono ?_;rintro e w2⟨rfl,rfl⟩;exact aJ.o _ _ _ rfl (by simp[Act.put,hd]) (A3.I _ _) W.o
 intro y L hS Y;have h11:=Y 11 (by omega);have h12:=Y 12 (by omega);have c0:=hS.1.c0;have c1:=hS.1.c1;have W:=A1 hS;go_wp2;refine FA (λw'=>A6 w' fb 0 (A5 b)/\A6 w' fb 1 (.string name)) 9
  (Bz [0,1,2,3,4,5,6,7,8] []) (by kernel_rfl) (by kernel_rfl) (λ_ _ _ _ _ h=>h) ⟨c0,c1⟩ ?_
 iterate 9 (refine E8 (v:=?_) rfl (by rfl) ?_ ?_;rotate_left;(· (intro w' hS;(try dsimp only at hS);go_simp;try with_reducible rfl));(try simp only[Ao]))
 refine Bo ?_;simp only[DE,Dq];have aX:=A1 (a8.o L.drew W.o.2.1.af);go_wp2_with (go_at_call 8;refine aX.m ?_;rintro e w3⟨rfl,hA⟩;have bF:=A1 hA);have aW:=bF.o.dE;obtain⟨aL,d,aV,aU,aT⟩:=aW;have hsz:=W.o.1.lt;have E:Hid (Bc w3 fb T (A5 b) name s1/\B3 w3 b D' F' d):=⟨W.o.1.ak aL bD.o,aV⟩;have a2:=A1 aL;have a3:=A1 aU;have a7:=A1 aT;have a4:Hid (∀w',B3 w' b D' F' d->_):=λw' h'=>a5.o w' d h';refine H0 13 (λz=>{tmps:=#[A5 fb,.string ⟨l.toArray⟩,undef,undef,.bool false,A0 0,.string ⟨pc.toArray⟩,A0 zn,A0 ze,A0 er,z 12,undef,A5 fb,.string ⟨l.toArray⟩,.string ⟨pc.toArray⟩,y 9,y 0,y 1,y 2,y 3,y 4,y 5,y 6,y 7,y 8,y 10,A0 ze,A5 fb,A5 fb,A5 fb,A5 b,A5 fb,A5 fb,.pointer (some (Ab fb 1)),.string name,.string ⟨pc.toArray⟩,A0 er,z 9,z 0,z 1,z 2,z 3,z 4,z 5,z 6,z 7,z 8,z 10,z 11,undef,undef,undef,undef,undef,undef,undef],defers:=[]}) (λ_=>undef)
  (λw'=>Bc w' fb T (A5 b) name s1/\B3 w' b D' F' d/\A3 Aa w3 w') (A3 Aa)
  (λj x w'=>match j with
   | 0=>x=(A5 fb)
   | 1=>x=(A5 fb)
   | 2=>x=(A5 fb)
   | 3=>x=(A5 b)
   | 4=>x=(A5 fb)
   | 5=>x=(A5 fb)
   | 6=>x=.pointer (some (Ab fb 1))
   | 7=>x=.string name
   | 8=>x=.tuple #[A0 yn,A0 ye]
   | 9=>x=.tuple #[A0 yn,A0 ye]
   | 10=>x=A0 yn
   | 11=>x=A0 ye
   | 12=>x=A0 yn
   | _=>True)
  (by kernel_rfl) (by kernel_rfl) rfl ?_ ?_ ?_ ?_
 ·exact⟨E.o.1,E.o.2.af,(A3.I _ _).af⟩
 ·intro j x w1 w2 hR a6 Y;split at Y<;>exact Y
 ·clear E;simp only[EX,EL,Fy,Hv]
  repeat' (with_reducible apply And.intro)
  all_goals refine⟨?_,(by intro y L _ _ h;exact Bool.noConfusion h),λy x=>rfl⟩
  all_goals
   intro zz L hS hd hw K hK;obtain⟨I,aG,aB⟩:=hS;simp[G8,Region.binds,F6,List.filter_cons]at hd;have c0:=I.c0;have c1:=I.c1;have W:Hid (Bc L fb T (A5 b) name s1/\B3 L b D' F' d/\A3 Aa w3 L):=⟨I,aG,aB⟩;have aJ:=A1 hK
  all_goals dsimp only
  all_goals try go_simp
  all_goals try with_reducible exact aJ.o _ _ _ rfl (by simp[Act.put,hd]) (A3.I _ _) W.o
  all_goals
   refine(a4.o L W.o.2.1).mono ?_;rintro e w2⟨rfl,rfl⟩;exact aJ.o _ _ _ rfl (by simp[Act.put,hd]) (A3.I _ _) W.o
 intro z wz hZ Y;have z11:=Y 11 (by omega);have z12:z 12=A0 yn:=Y 12 (by omega);have aN:=A1 hZ;have hbe:(yn-zn==(l.length:Int)+4)=ok:=by
  rw[<-aY.o,aF,Vf];simp
 go_wp2;go_ret2
 exact⟨rfl,aN.o.1,(((aD.o.ad (λ_ _ h=>.inr h)).Av W.o.2.2 (λ_ h _=>h.elim)).Av a2.o (λ_ h _=>.inl h)).Av aN.o.2.2 (λ_ h _=>h.elim),
  d,aN.o.2.1,λk hk=>Bm (a3.o k hk) aN.o.2.2.Ak,λk hk=>(a7.o k hk).imp id λh=>AQ (AQ aD.o.Ak W.o.2.2.Ak) h⟩
end
end
end Go.Proofs.YtodcnkbblippnabGreatDoor
