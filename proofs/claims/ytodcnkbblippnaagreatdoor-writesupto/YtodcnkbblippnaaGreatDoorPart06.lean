/- Part 6 of a proof: walks of the program. -/
import Derived.Test.YtodcnkbblippnaaGreatDoorShelf
import Derived.Lib.ItoaLen
import Derived.Test.YtodcnkbblippnaaGreatDoorProg
import Derived.Conc.RwLib
import Derived.KernelRfl
import Derived.Test.YtodcnkbblippnaaGreatDoorPart05
namespace Go.Proofs.YtodcnkbblippnaaGreatDoor
set_option maxRecDepth 100000
set_option maxHeartbeats 32000000
set_option linter.defProp false
open Go.Proofs.Tryz
section
open Go.RowKit
attribute [local go_sem ↓] Go.wp_at_zero Go.wp_at_succ
def FR:List Nat->List Nat->Nat->Nat
 | x::xs,y::ys,f=>if x=f then y else FR xs ys f
 | _,_,_=>0
def Km:∀(xs ys:List Nat) (i f m:Nat),xs.Nodup->xs[i]?=some f->ys[i]?=some m->FR xs ys f=m
 | [],_,i,_,_,_,h,_=>by simp at h
 | x::xs,[],i,_,_,_,_,h=>by simp at h
 | x::xs,y::ys,0,f,m,_,h1,h2=>by
  simp only[List.getElem?_cons_zero,Option.some.injEq]at h1 h2;subst h1;subst h2;simp[FR]
 | x::xs,y::ys,i+1,f,m,hn,h1,h2=>by
  simp only[A3Q]at h1 h2;have d:x≠f:=λe=>by subst e;exact(MT.1 hn).1 (Ld h1)
  simp only[FR,d,C3];exact Km xs ys i f m (MT.1 hn).2 h1 h2
def ren(r:Nat->Nat)(es:List AN):List AN:=es.map λe=>(e.1,r e.2)
def DS.ren(r:Nat->Nat)(D:DS):DS:={A5:=Go.Proofs.YtodcnkbblippnaaGreatDoor.ren r D.A5,AF:=Go.Proofs.YtodcnkbblippnaaGreatDoor.ren r D.AF,Aq:=D.Aq.map (Go.Proofs.YtodcnkbblippnaaGreatDoor.ren r),n:=D.n}
def Ren.eq{L M:List Nat}{es d:List AN}(h:Ren L M es d)(X:L.Nodup):d=ren (FR L M) es:=by
 apply List.ext_getElem
 ·simp[ren,h.1]
 ·intro k z h2;have E:k<es.length:=by rw[<-h.1];exact z
  obtain⟨I,i,W,O⟩:=h.2 k E z;simp only[ren,List.getElem_map];rw[Km L M i _ _ X W O];exact Prod.ext I rfl
def CS.ct{N:Nat}{w:World}{W L:Nat}{F:Nat->FC}{old made:List Nat}{O X:Value}{I:Nat->Value}(h:CS N w W L F old made O X I){k:Nat}(d:CB W L O X made I k\/k∈old):∃c e,w.heap[k]?=some (.cells c e (0,0))/\e≠125/\e≠120/\e≠95:=by
 have hl:=h.b0;rcases d with (rfl|rfl|d|d|d|⟨m,Y,d⟩)|d
 ·exact⟨_,_,h.ob,by decide⟩
 ·exact⟨_,_,h.mb,by decide⟩
 ·obtain⟨c,z⟩:=B7 h.ol d;exact⟨c,_,z,by decide⟩
 ·obtain⟨c,z⟩:=B7 h.ml d;exact⟨c,_,z,by decide⟩
 ·obtain⟨i,E,rfl⟩:=Ep d;exact⟨_,_,(h.BH i E (by omega)).1,by decide⟩
 ·obtain⟨i,E,rfl⟩:=Ep Y;obtain⟨c,z⟩:=B7 (h.BH i E (by omega)).2 d;exact⟨c,_,z,by decide⟩
 ·obtain⟨c,z⟩:=(h.Ic k d).2;exact⟨c,_,z,by decide⟩
def CS.b3{N:Nat}{w:World}{I z:Nat}{F:Nat->FC}{old made:List Nat}{E L:Value}{W:Nat->Value}(h:CS N w I z F old made E L W){k e:Nat}{c:Array Value}(X:w.heap[k]?=some (.cells c e (0,0)))(Y:e=125\/e=120\/e=95):¬CF I z E L k:=by
 intro hc;have d:CB I z E L made W k:=by
  rcases hc with h|h|h|h
  ·exact .inl h
  ·exact .inr (.inl h)
  ·exact .inr (.inr (.inl h))
  ·exact .inr (.inr (.inr (.inl h)))
 obtain⟨c',e',O,h2,h3,h4⟩:=h.ct (.inl d);rw[X]at O;cases O;rcases Y with e|e|e<;>simp_all
def IJ(l:List (List AN)):Nat:=(l.map List.length).sum
def WK(l:List (List AN))(i:Nat)(h:i<l.length):IJ (l.take (i+1))=IJ (l.take i)+(l[i]'h).length:=by
 unfold IJ;rw[DL h,EV,List.sum_append];simp
structure CR (N:Nat) (w wr:World) (b2 bo bm:Nat) (D:DS) (F:Nat->FC) (i:Nat) (L M:List Nat) (vo vm v1 v2 vc:Value) (VB:Nat->Value) (vals:List Value) (e1 e2:List AN) (cs:List (List AN)):Prop where
 GJ:CS N wr bo bm F L M vo vm VB
 Af:AL wr b2 v1 v2 vc D.n
 d1:D4 wr v1 e1
 d2:D4 wr v2 e2
 r1:Ren L M D.A5 e1
 r2:Ren L M D.AF e2
 ch:wr.ownsRow 0 120 1 vc i vals
 cl:cs.length=i
 D9:∀k (h:k<cs.length),∃v,vals[k]?=some v/\D4 wr v (cs[k]'h)
 P4:∀k (h:k<cs.length) (h':k<D.Aq.length),Ren L M (D.Aq[k]' h') (cs[k]'h)
 HP:L.length<=D.A5.length+D.AF.length+IJ (D.Aq.take i)
 SH:∀f∈L,D.Ap f
 An:A4 (λ_=>False) w wr
 nb:N<=b2
 RY:∀g,v1.ownBlock=some g->N<=g
 RX:∀g,v2.ownBlock=some g->N<=g
 O1:∀g,vc.ownBlock=some g->N<=g
 RW:∀v∈vals,∀g,v.ownBlock=some g->N<=g
def CR.a7{w wr aP w2 w3:World}{b2 bo bm:Nat}{D:DS}{F:Nat->FC}{i nq:Nat}{L M aW aU:List Nat}{vo vm v1 v2 vc aK aN v:Value}{aR aL:Nat->Value}{O:List Value}{e1 e2 Y:List AN}{cs:List (List AN)}{a3:Option Addr}{c3:Nat}(h:CR w.heap.size w wr b2 bo bm D F i L M vo vm v1 v2 vc aR O e1 e2 cs)(hi:i<D.Aq.length){es:List AN}(aV:D.Aq[i]'hi=es)(hW:A4 (λ_=>False) wr aP)(I:EE w.heap.size aP bo bm F L M vo vm aR es es.length es.length v w2 aW aU aK aN aL Y)(hA:App ((w2.drewN nq).alloc (.cells #[v] 120)) w3 120 1 vc (.slice a3 (i+1) c3) (i+1) (O++[v])):
 CR w.heap.size w (w3.setCell ⟨b2,2,none⟩ (.slice a3 (i+1) c3)) b2 bo bm D F (i+1) aW aU aK aN v1 v2 (.slice a3 (i+1) c3) aL (O++[v]) e1 e2 (cs++[Y]):=by
 subst aV;have aB:CS w.heap.size aP bo bm F L M vo vm aR:=h.GJ.An hW (λ_ _ h=>h) (λ_ _ h=>h);have aH:∀(k:Nat) (c:Array Value) (e:Nat),wr.heap[k]?=some (Obj.cells c e (0,0))->(e=125\/e=120\/e=95)->w2.heap[k]?=some (Obj.cells c e (0,0)):=λk c e d he=>by
  have X:aP.heap[k]?=some (Obj.cells c e (0,0)):=(hW.Am k (By d) (λh=>h)).trans d;exact(I.An.Am k (By X) (aB.b3 X he)).trans X
 have aA:∀(k:Nat) (c:Array Value) (e:Nat),w2.heap[k]?=some (Obj.cells c e (0,0))->e≠120->w3.heap[k]?=some (Obj.cells c e (0,0)):=λk c e d he=>by
  have X:((w2.drewN nq).alloc (.cells #[v] 120)).heap[k]?=some (Obj.cells c e (0,0)):=(CQ _ _ _ (by simpa using By d)).trans d;refine(hA.C4.block k (By X) (λe2=>?_)).trans X;obtain⟨c',hh⟩:=B7 h.ch e2.symm;have:=aH _ _ _ hh (.inr (.inl rfl));rw[d]at this;cases this;exact he rfl
 have aM:AL w3 b2 v1 v2 vc D.n:=aA _ _ _ (aH _ _ _ h.Af (.inr (.inr rfl))) (by decide);have aO:=aM.s2 (.slice a3 (i+1) c3);have aE:A4 (One b2) w3 (w3.setCell ⟨b2,2,none⟩ (.slice a3 (i+1) c3)):=(A4.C (One b2) w3).aj rfl 2 _;generalize hW4:w3.setCell ⟨b2,2,none⟩ (.slice a3 (i+1) c3)=W4 at aO aE ⊢;have E:∀(k:Nat) (c:Array Value) (e:Nat),w3.heap[k]?=some (Obj.cells c e (0,0))->e≠95->W4.heap[k]?=some (Obj.cells c e (0,0)):=λk c e d he=>
  (aE.Am k (By d) (λe2=>BM d aM he e2)).trans d
 have kE:∀(k:Nat) (c:Array Value),wr.heap[k]?=some (Obj.cells c 125 (0,0))->W4.heap[k]?=wr.heap[k]?:=λk c d=>
  (E _ _ _ (aA _ _ _ (aH _ _ _ d (.inl rfl)) (by decide)) (by decide)).trans d.symm
 have aT:∀(k:Nat) (c:Array Value),w2.heap[k]?=some (Obj.cells c 125 (0,0))->W4.heap[k]?=w2.heap[k]?:=λk c d=>
  (E _ _ _ (aA _ _ _ d (by decide)) (by decide)).trans d.symm
 have aD:∀ {v:Value} {es:List AN},D4 wr v es->D4 W4 v es:=λhe=>Aw he λg W=>by
  obtain⟨c,hh⟩:=B7 he W;exact kE _ _ hh
 have aS:D4 W4 v Y:=Aw I.EZ λg W=>by
  obtain⟨c,hh⟩:=B7 I.EZ W;exact aT _ _ hh
 have aF:∀ {es aJ:List AN},Ren L M es aJ->Ren aW aU es aJ:=λhr=>by
  obtain⟨o,q1,_⟩:=I.GF;obtain⟨o2,q2,_⟩:=I.JA;rw[q1,q2];exact hr.ad
 have hsz1:=h.An.Al;have hsz2:=hW.Al;have aG:O.length=i:=by simpa using h.ch.1
 refine⟨?_,aO,aD h.d1,aD h.d2,aF h.r1,aF h.r2,?_,by simp[h.cl],?_,?_,?_,?_,?_,h.nb,h.RY,h.RX,?_,?_⟩
 ·refine I.cs.aI (λk d=>?_) (λk d=>?_)
  ·obtain⟨c,e,X,h2,h3,h4⟩:=I.cs.ct (.inl d);exact(E _ _ _ (aA _ _ _ X h3) h4).trans X.symm
  ·obtain⟨c,e,X,h2,h3,h4⟩:=I.cs.ct (.inr d);exact(E _ _ _ (aA _ _ _ X h3) h4).trans X.symm
 ·exact Aw hA.AE λg W=>by
   obtain⟨c,hh⟩:=B7 hA.AE W;exact(E _ _ _ hh (by decide)).trans hh.symm
 ·intro k d;by_cases z:k<cs.length
  ·obtain⟨u,q1,q2⟩:=h.D9 k z;refine⟨u,?_,?_⟩
   ·rw[IE (by rw[aG,<-h.cl];exact z)];exact q1
   ·simp only[FK z];exact aD q2
  ·(obtain rfl:k=cs.length:=by simp at d;omega);refine⟨v,?_,?_⟩
   ·rw[HF (by rw[aG,h.cl];omega),aG,h.cl];simp
   ·simpa using aS
 ·intro k d aQ;by_cases z:k<cs.length
  ·simp only[FK z];exact aF (h.P4 k z aQ)
  ·(obtain rfl:k=cs.length:=by simp at d;omega);have aI:=h.cl;have:=I.ren;rw[Cc]at this;simp only[aI];(have e1:(cs++[Y])[i]'(by simp[aI])=Y:=by simp[<-aI]);rw[e1];exact this
 ·obtain⟨o,q1,q2,_⟩:=I.GF;have:=h.HP;rw[WK _ _ hi,q1,Ba];omega
 ·intro f hf;obtain⟨o,q1,_,q3⟩:=I.GF;rw[q1]at hf;rcases AY.1 hf with hf|hf
  ·exact h.SH f hf
  ·exact .inr (.inr ⟨_,BT hi,q3 f hf⟩)
 ·have c1:=h.An.Au hW (λ_ h _=>h)
  have c2:=c1.Au I.An (λx hx z=>by
   rcases hx with rfl|rfl|hx|hx
   ·have:=aB.Ig;omega
   ·have:=aB.IU;omega
   ·have:=aB.IS x hx;omega
   ·have:=aB.IT x hx;omega)
  have c3:=((c2.aX nq).ah (.cells #[v] 120)).C4 hA.C4 (λk d z=>by have:=h.O1 k d;omega);exact c3.Au aE (λx hx z=>by have:=h.nb;have:x=b2:=hx;omega)
 ·intro g W;rcases hA.BS with e|e
  ·rw[e]at W;exact h.O1 g W
  ·rw[e]at W;cases W;have:=I.An.Al;simp;omega
 ·intro u hu g W;rcases AY.1 hu with hu|hu
  ·exact h.RW u hu g W
  ·simp at hu;subst hu;have:=I.AV g W;omega
def YO{w W:World}{b bo bm:Nat}{D:DS}{F:Nat->FC}{vd vs vc vo vm vl:Value}{aB:List Value}{aG I:Nat->Value}{L M:List Nat}{es:List AN}(hr:BV w b D F vd vs vc aB aG)(hc:A4 (λ_=>False) w W)(aD:CS w.heap.size W bo bm F L M vo vm I)(X:D4 w vl es)(d:∀f,Dd f es->D.Ap f)(hF:∀f,D.Ap f->(F f).1.length<=1099511627776)(hn:es.length<1099511627776/\L.length<1099511627776):
 Calls Tryz.prog 87 #[vl,.pointer (some ⟨bo,0,none⟩),.pointer (some ⟨bm,0,none⟩)] W λe w'=>∃v aF aE O z aA Y,e=.returned v/\EE w.heap.size W bo bm F L M vo vm I es es.length es.length v w' aF aE O z aA Y:=by
 have hb:∀k,k<w.heap.size->W.heap[k]?=w.heap[k]?:=λk hk=>hc.Am k hk (λh=>h);refine(YP w.heap.size W bo bm F L M vo vm I aD es vl (Aw X λg E=>hb g (Ay X E)) (λg E=>Ay X E) hn λf hf=>?_).mono ?_
 ·obtain⟨h1,h2⟩:=hr.BH f (d f hf);refine⟨By h1,hF f (d f hf),aG f,(hb f (By h1)).trans h1,Aw h2 λg E=>hb g (Ay h2 E),λg E=>Ay h2 E⟩
 ·rintro e w'⟨v,rfl,aF,aE,O,z,aA,Y,h⟩;exact⟨v,aF,aE,O,z,aA,Y,rfl,h⟩
def EE.cD{w W w':World}{bo Y:Nat}{F:Nat->FC}{old made aB aA:List Nat}{vo vm v I E:Value}{X O:Nat->Value}{es L:List AN}{i cn:Nat}(h:EE w.heap.size W bo Y F old made vo vm X es i cn v w' aB aA I E O L)(hc:A4 (λ_=>False) w W)(d:CS w.heap.size W bo Y F old made vo vm X):A4 (λ_=>False) w w':=
 hc.Au h.An (λx z hlt=>by
  rcases z with rfl|rfl|z|z
  ·have:=d.Ig;omega
  ·have:=d.IU;omega
  ·have:=d.IS x z;omega
  ·have:=d.IT x z;omega)
def Ov{r:Nat->Nat}{es:List AN}{E:Nat}(h:Dd E (ren r es)):∃f,Dd f es/\r f=E:=by
 obtain⟨e,I,rfl⟩:=h;obtain⟨z,d,rfl⟩:=CD.1 I;exact⟨z.2,⟨z,d,rfl⟩,rfl⟩
def DS.cQ{r:Nat->Nat}{D:DS}{I:Nat}(h:(D.ren r).Ap I):∃f,D.Ap f/\r f=I:=by
 rcases h with h|h|⟨c,L,h⟩
 ·obtain⟨f,z,d⟩:=Ov h;exact⟨f,.inl z,d⟩
 ·obtain⟨f,z,d⟩:=Ov h;exact⟨f,.inr (.inl z),d⟩
 ·obtain⟨c0,E,rfl⟩:=CD.1 L;obtain⟨f,z,d⟩:=Ov h;exact⟨f,.inr (.inr ⟨c0,E,z⟩),d⟩
def Ren.Ap{L M:List Nat}{es d:List AN}(h:Ren L M es d){f:Nat}(E:Dd f es):∃(i:Nat) (m:Nat),L[i]?=some f/\M[i]?=some m:=by
 obtain⟨e,I,rfl⟩:=E;obtain⟨k,z,rfl⟩:=Ep I;obtain⟨_,i,W,O⟩:=h.2 k z (by rw[h.1];exact z);exact⟨i,_,W,O⟩
def CR.fc{w wr:World}{b2 bo bm:Nat}{D:DS}{F:Nat->FC}{L M:List Nat}{vo vm v1 v2 vc:Value}{aD:Nat->Value}{W:List Value}{e1 e2:List AN}{cs:List (List AN)}(h:CR w.heap.size w wr b2 bo bm D F D.Aq.length L M vo vm v1 v2 vc aD W e1 e2 cs):
 ∃r aE aB,Da wr b2 (D.ren r) aE aB/\(∀k,aB k->w.heap.size<=k/\k<wr.heap.size)/\A4 (λ_=>False) w wr/\(∀f,D.Ap f->aE (r f)=F f)/\∀f d,D.Ap f->D.Ap d->r f=r d->f=d:=by
 have q1:=h.r1.eq h.GJ.Ie;have q2:=h.r2.eq h.GJ.Ie;have q3:cs=D.Aq.map (ren (FR L M)):=by
  apply List.ext_getElem
  ·simp[h.cl]
  ·intro k h1 h2;rw[List.getElem_map];exact(h.P4 k h1 (by simpa using h2)).eq h.GJ.Ie
 have Y:∀f,D.Ap f->∃(i:Nat) (m:Nat),L[i]?=some f/\M[i]?=some m:=by
  rintro f (I|I|⟨c,hc,I⟩)
  ·exact h.r1.Ap I
  ·exact h.r2.Ap I
  ·obtain⟨k,hk,rfl⟩:=Ep hc;exact(h.P4 k (by rw[h.cl];exact hk) hk).Ap I
 have E:∀f,D.Ap f->FR M L (FR L M f)=f:=λf I=>by
  obtain⟨i,m,h1,h2⟩:=Y f I;rw[Km L M i f m h.GJ.Ie h1 h2,Km M L i m f h.GJ.OJ h2 h1]
 have X:∀d,(D.ren (FR L M)).Ap d->∃i,∃hi:i<M.length,∃aA:i<L.length,M[i]'hi=d/\L[i]'aA=FR M L d:=λd z=>by
  obtain⟨f,h1,rfl⟩:=DS.cQ z;obtain⟨i,m,h2,h3⟩:=Y f h1;rw[E f h1,Km L M i f m h.GJ.Ie h2 h3];obtain⟨k1,k2⟩:=HE.1 h2;obtain⟨k3,k4⟩:=HE.1 h3;exact⟨i,k3,k1,k4,k2⟩
 have O:∀d,(D.ren (FR L M)).Ap d->d∈M:=λd z=>by
  obtain⟨i,k1,_,k2,_⟩:=X d z;rw[<-k2];exact BT k1
 have hv:BV wr b2 (D.ren (FR L M)) (λm=>F (FR M L m)) v1 v2 vc W aD:=by
  refine⟨h.Af,?_,?_,?_,?_,?_,?_⟩
  ·have:=h.d1;rw[q1]at this;exact this
  ·have:=h.d2;rw[q2]at this;exact this
  ·have:=h.ch;simpa[DS.ren] using this
  ·intro i hi;(have aA:i<cs.length:=by rw[h.cl];simpa[DS.ren] using hi);obtain⟨v,k1,k2⟩:=h.D9 i aA;refine⟨v,k1,?_⟩;subst q3;exact k2
  ·intro d z;obtain⟨i,k1,k2,k3,k4⟩:=X d z;have:=h.GJ.BH i k1 k2;rw[k3,k4]at this;exact this
  ·exact λf d g I z=>h.GJ.Gr f d g (O f I) (O d z)
 refine⟨FR L M,λm=>F (FR M L m),C5 b2 (D.ren (FR L M)) v1 v2 vc W aD,⟨_,_,_,_,_,hv,λ_ h=>h⟩,λk hk=>⟨?_,hv.lt hk⟩,h.An,λf I=>by simp only[E f I],λf d I z e=>by rw[<-E f I,<-E d z,e]⟩;cases hk using C5.bH with
 | Af=>exact h.nb
 | dir e=>exact h.RY _ e
 | Ad e=>exact h.RX _ e
 | An e=>exact h.O1 _ e
 | D9 hm e=>exact h.RW _ hm _ e
 | BH I=>exact h.GJ.O6 _ (O _ I)
 | byt I e=>exact h.GJ.O7 _ (O _ I) _ e
def A19(w:World)(n:DN)(F:Nat->FC)(h:Nat->Value)(W:World)(d:W=(((w.alloc (.cells #[.slice none 0 0,.slice none 0 0,.slice none 0 0,.int .i64 n.AA,.int .i64 n.B8,.int .i64 n.CN,.int .i64 n.DJ,.int .i64 n.BC,.int .i64 n.Bj,.int .i64 n.fulls,.bool n.Bh] 95)).alloc (.cells #[.slice none 0 0] 138)).alloc (.cells #[.slice none 0 0] 138)).drew):
 CS w.heap.size W (w.heap.size+1) (w.heap.size+2) F [] [] (.slice none 0 0) (.slice none 0 0) h/\AL W w.heap.size (.slice none 0 0) (.slice none 0 0) (.slice none 0 0) n/\A4 (λ_=>False) w W:=by
 subst d;refine⟨⟨?_,?_,by omega,Cp _ _ _ _,Cp _ _ _ _,by simp[Value.ownBlock],by simp,by simp,by simp,by simp,by simp,by omega,by omega,by simp[Value.ownBlock],by simp[Value.ownBlock],by simp,by simp⟩,?_,(((A4.C _ w).ah _).ah _).ah _ |>.aa⟩
 ·show ((((w.alloc _).alloc _).alloc _).heap[w.heap.size+1]?)=_;rw[CQ _ _ _ (by simp)];have:=Bf (w.alloc (.cells #[.slice none 0 0,.slice none 0 0,.slice none 0 0,.int .i64 n.AA,.int .i64 n.B8,.int .i64 n.CN,.int .i64 n.DJ,.int .i64 n.BC,.int .i64 n.Bj,.int .i64 n.fulls,.bool n.Bh] 95)) (.cells #[.slice none 0 0] 138);rw[MH]at this;exact this
 ·show ((((w.alloc _).alloc _).alloc _).heap[w.heap.size+2]?)=_;have:=Bf ((w.alloc (.cells #[.slice none 0 0,.slice none 0 0,.slice none 0 0,.int .i64 n.AA,.int .i64 n.B8,.int .i64 n.CN,.int .i64 n.DJ,.int .i64 n.BC,.int .i64 n.Bj,.int .i64 n.fulls,.bool n.Bh] 95)).alloc (.cells #[.slice none 0 0] 138)) (.cells #[.slice none 0 0] 138);rw[MH,MH]at this;exact this
 ·show ((((w.alloc _).alloc _).alloc _).heap[w.heap.size]?)=_;rw[CQ _ _ _ (by simp;omega),CQ _ _ _ (by simp)];exact Bf _ _
def A18{w W w2 z:World}{bo bm:Nat}{D:DS}{F:Nat->FC}{vo vm v1 v2 aJ aE:Value}{aG aH aL:Nat->Value}{L M aN aM:List Nat}{e1 e2:List AN}(aI:CS w.heap.size W bo bm F [] [] (.slice none 0 0) (.slice none 0 0) aG)(hb:AL W w.heap.size (.slice none 0 0) (.slice none 0 0) (.slice none 0 0) D.n)(hc:A4 (λ_=>False) w W)(E:EE w.heap.size W bo bm F [] [] (.slice none 0 0) (.slice none 0 0) aG D.A5 D.A5.length D.A5.length v1 w2 L M vo vm aH e1)(d:EE w.heap.size w2 bo bm F L M vo vm aH D.AF D.AF.length D.AF.length v2 z aN aM aJ aE aL e2):
 AL z w.heap.size (.slice none 0 0) (.slice none 0 0) (.slice none 0 0) D.n/\CR w.heap.size w ((z.setCell ⟨w.heap.size,0,none⟩ v1).setCell ⟨w.heap.size,1,none⟩ v2) w.heap.size bo bm D F 0 aN aM aJ aE v1 v2 (.slice none 0 0) aL [] e1 e2 []:=by
 have Y:=E.cs;have c2:=E.cD hc aI;have c3:=d.cD c2 Y;have aA:AL w2 w.heap.size (.slice none 0 0) (.slice none 0 0) (.slice none 0 0) D.n:=(E.An.Am _ hb.lt (aI.b3 hb (.inr (.inr rfl)))).trans hb;have aB:AL z w.heap.size (.slice none 0 0) (.slice none 0 0) (.slice none 0 0) D.n:=(d.An.Am _ aA.lt (Y.b3 aA (.inr (.inr rfl)))).trans aA;refine⟨aB,?_⟩;have aK:=(aB.s0 v1).s1 v2;have aD:A4 (One w.heap.size) z ((z.setCell ⟨w.heap.size,0,none⟩ v1).setCell ⟨w.heap.size,1,none⟩ v2):=((A4.C (One w.heap.size) z).aj rfl 0 _).aj rfl 1 _;generalize hW4:(z.setCell ⟨w.heap.size,0,none⟩ v1).setCell ⟨w.heap.size,1,none⟩ v2=W4 at aK aD ⊢;have h:∀(k:Nat) (c:Array Value) (e:Nat),z.heap[k]?=some (Obj.cells c e (0,0))->e≠95->W4.heap[k]?=z.heap[k]?:=λk c e hk he=>
  aD.Am k (By hk) (λe2=>BM hk aB he e2)
 have d1:=Aw E.EZ λg I=>by
  obtain⟨c,hh⟩:=B7 E.EZ I;exact d.An.Am g (By hh) (Y.b3 hh (.inl rfl))
 have sz:=hc.Al;have sz2:=E.An.Al;have aF:Ren aN aM D.A5 e1:=by
  obtain⟨o,O,_⟩:=d.GF;obtain⟨o2,q2,_⟩:=d.JA;have:=E.ren;rw[Cc]at this;rw[O,q2];exact this.ad
 refine⟨?_,aK,?_,?_,aF,?_,Cp _ _ _ _,rfl,by simp,by simp,?_,?_,?_,Ao _,?_,?_,by simp[Value.ownBlock],by simp⟩
 ·refine d.cs.aI (λk hk=>?_) (λk hk=>?_)
  ·obtain⟨c,e,O,q2,q3,q4⟩:=d.cs.ct (.inl hk);exact h _ _ _ O q4
  ·obtain⟨c,e,O,q2,q3,q4⟩:=d.cs.ct (.inr hk);exact h _ _ _ O q4
 ·exact Aw d1 λg I=>by
   obtain⟨c,hh⟩:=B7 d1 I;exact h _ _ _ hh (by decide)
 ·exact Aw d.EZ λg I=>by
   obtain⟨c,hh⟩:=B7 d.EZ I;exact h _ _ _ hh (by decide)
 ·have:=d.ren;rw[Cc]at this;exact this
 ·obtain⟨o,O,q2,_⟩:=E.GF;obtain⟨o2,q3,q4,_⟩:=d.GF;rw[q3,O];simp;omega
 ·intro f X;obtain⟨o,O,_,q2⟩:=E.GF;obtain⟨o2,q3,_,q4⟩:=d.GF;rw[q3,O]at X;rcases AY.1 X with X|X
  ·simp at X;exact .inl (q2 f X)
  ·exact .inr (.inl (q4 f X))
 ·exact c3.Au aD (λx hx hlt=>by have:x=w.heap.size:=hx;omega)
 ·intro g I;have:=E.AV g I;omega
 ·intro g I;have:=d.AV g I;omega
end
section
open Go.RowKit
def IM(r:Nat->Nat)(es:List AN):(ren r es).length=es.length:=by simp[ren]
def QZ(r:Nat->Nat):ren r []=[]:=rfl
def LK(r:Nat->Nat)(a b:List AN):ren r (a++b)=ren r a++ren r b:=by simp[ren]
def XX(r:Nat->Nat)(es:List AN)(k:Nat):(ren r es).take k=ren r (es.take k):=by simp[ren,List.map_take]
def XZ(r:Nat->Nat)(es:List AN)(k:Nat):(ren r es).drop k=ren r (es.drop k):=by simp[ren,List.map_drop]
def NF(r:Nat->Nat)(es:List AN)(name:ByteArray):B6 (ren r es) name=B6 es name:=by
 induction es with
 | nil=>rfl
 | cons e t ih=>simp only[ren,HC,B6]at ih ⊢;rw[ih]
def Jy(r:Nat->Nat)(es:List AN)(name:ByteArray):lookup (ren r es) name=(lookup es name).map r:=by
 induction es with
 | nil=>rfl
 | cons e t ih=>
  simp only[ren,HC,lookup]at ih ⊢;by_cases h:e.1=name
  ·simp[h]
  ·simp[h,ih]
def R0(r:Nat->Nat)(es:List AN)(k:Nat):(ren r es)[k]?=(es[k]?).map λe=>(e.1,r e.2):=by simp[ren]
def XY(r:Nat->Nat)(es:List AN)(i:Nat)(name:ByteArray)(k:Nat):Dk (ren r es) i name k=ren r (Dk es i name k):=by
 induction k with
 | zero=>rfl
 | succ k ih=>
  simp only[Dk,ih,R0,LK];cases es[k]? with
  | none=>simp[QZ]
  | some e=>
   simp only[HW];by_cases h:k≠i/\e.1≠name
   ·rw[Ai h,Ai h];rfl
   ·rw[Ae h,Ae h,QZ]
def Y4(r:Nat->Nat)(es:List AN)(k:Nat):ES (ren r es) k=ES es k:=by
 induction k with
 | zero=>rfl
 | succ k ih=>
  simp only[ES,ih,R0];cases es[k]?<;>rfl
def R5(r:Nat->Nat)(es:List AN):dList (ren r es)=dList es:=by unfold dList;rw[IM,Y4]
def Nh(r:Nat->Nat)(G F:Nat->FC)(es:List AN)(h:∀f,Dd f es->G (r f)=F f):AX G (ren r es)=AX F es:=by
 induction es with
 | nil=>rfl
 | cons e t ih=>
  have I:=h e.2 ⟨e,by simp,rfl⟩;have d:=ih λf z=>h f (by obtain⟨x,L,E⟩:=z;exact⟨x,BW _ L,E⟩);simp only[ren,HC,AX]at d ⊢;rw[I,d]
def Sz{es:List AN}{name:ByteArray}{f:Nat}(h:lookup es name=some f):Dd f es:=by
 induction es with
 | nil=>cases h
 | cons e t ih=>
  simp only[lookup]at h;by_cases d:e.1=name
  ·simp[d]at h;exact⟨e,by simp,h⟩
  ·simp[d]at h;obtain⟨x,E,z⟩:=ih h;exact⟨x,BW _ E,z⟩
def ren_congr{r d:Nat->Nat}{es:List AN}(h:∀f,Dd f es->d f=r f):ren d es=ren r es:=by
 unfold ren;exact MU λe z=>by rw[h e.2 ⟨e,z,rfl⟩]
def DS.ren_congr{r z:Nat->Nat}{D:DS}(h:∀f,D.Ap f->z f=r f):D.ren z=D.ren r:=by
 unfold DS.ren;rw[Go.Proofs.YtodcnkbblippnaaGreatDoor.ren_congr λf d=>h f (.inl d),Go.Proofs.YtodcnkbblippnaaGreatDoor.ren_congr (es:=D.AF) λf d=>h f (.inr (.inl d))]
 congr 1
 exact MU λc E=>Go.Proofs.YtodcnkbblippnaaGreatDoor.ren_congr λf d=>h f (.inr (.inr ⟨c,E,d⟩))
def AU(w:World)(b:Nat)(D:DS)(F:Nat->FC)(Ft:Nat->Prop):Prop:=
 ∃r G,Da w b (D.ren r) G Ft/\(∀f,D.Ap f->G (r f)=F f)/\∀f d,D.Ap f->D.Ap d->r f=r d->f=d
def Ej(w:World)(Ft:Nat->Prop)(w':World)(b:Nat)(D':DS)(F':Nat->FC):Prop:=
 A4 Ft w w'/\∃d,AU w' b D' F' d/\(∀k,d k->k<w'.heap.size)/\∀k,d k->Ft k\/w.heap.size<=k
def AU.aI{w w':World}{b:Nat}{D:DS}{F:Nat->FC}{Ft:Nat->Prop}(h:AU w b D F Ft)(I:Gc Ft w w'):AU w' b D F Ft:=by
 obtain⟨r,G,z,d,E⟩:=h;exact⟨r,G,z.aI I,d,E⟩
def AU.Af{w:World}{b:Nat}{D:DS}{F:Nat->FC}{Ft:Nat->Prop}(h:AU w b D F Ft):∃E z d,AL w b E z d D.n:=by
 obtain⟨r,G,⟨E,z,d,vals,VB,I,_⟩,_⟩:=h;exact⟨E,z,d,I.Af⟩
def AU.of{w:World}{b:Nat}{D:DS}{F:Nat->FC}{Ft:Nat->Prop}(h:Da w b D F Ft):AU w b D F Ft:=by
 refine⟨id,F,?_,λ_ _=>rfl,λ_ _ _ _ h=>h⟩;have:D.ren id=D:=by
  have e:∀es,Go.Proofs.YtodcnkbblippnaaGreatDoor.ren id es=es:=λes=>by simp[Go.Proofs.YtodcnkbblippnaaGreatDoor.ren]
  have d:=funext e;unfold DS.ren;rw[d];simp
 rw[this];exact h
def Dq.bb{w w':World}{Ft:Nat->Prop}{b:Nat}{I D':DS}{E F':Nat->FC}{r:Nat->Nat}(h:Dq w Ft w' b I E)(O:I=D'.ren r)(hG:∀f,D'.Ap f->E (r f)=F' f)(hi:∀f z,D'.Ap f->D'.Ap z->r f=r z->f=z):Ej w Ft w' b D' F':=by
 obtain⟨X,d,L,Y,W⟩:=h;subst O;exact⟨X,d,⟨r,E,L,hG,hi⟩,Y,W⟩
def JN(D:DS)(r:Nat->Nat):(D.ren r).A5.length=D.A5.length/\(D.ren r).AF.length=D.AF.length/\(D.ren r).Aq.length=D.Aq.length/\IJ (D.ren r).Aq=IJ D.Aq:=by
 refine⟨IM _ _,IM _ _,by simp[DS.ren],?_⟩;unfold IJ DS.ren;rw[UH]
 congr 1
 exact MU λc _=>IM r c
section
variable {w:World} {b:Nat} {D:DS} {F:Nat->FC} {Ft:Nat->Prop}
def S7(room:Int)(w:World):
 Ag 21 #[A0 room] w (Aj (A6 w.heap.size) λw'=>AU w' w.heap.size ⟨[],[],[],Hb room⟩ F (One w.heap.size)/\A4 Aa w w'/\w'.heap.size=w.heap.size+1):=by
 refine(Zn room w).mono ?_;rintro e w'⟨O,z,W,L⟩;refine⟨O,AU.of ⟨_,_,_,[],λ_=>.slice none 0 0,⟨z,Cp _ _ _ _,Cp _ _ _ _,Cp _ _ _ _,by intro i X;simp at X,?_,?_⟩,?_⟩,L,W⟩
 ·rintro f (⟨e,d,_⟩|⟨e,d,_⟩|⟨c,h,_⟩)
  ·cases d
  ·cases d
  ·cases h
 ·intro f f' g _ _ E;simp[Value.ownBlock]at E
 ·intro k I;cases I using C5.bH with
  | Af=>rfl
  | dir e=>simp[Value.ownBlock]at e
  | Ad e=>simp[Value.ownBlock]at e
  | An e=>simp[Value.ownBlock]at e
  | D9 hm e=>cases hm
  | BH hf=>rcases hf with⟨e,d,_⟩|⟨e,d,_⟩|⟨c,h,_⟩<;>contradiction
  | byt hf e=>simp[Value.ownBlock]at e
def Wc(h:AU w b D F Ft):
 Ag 86 #[A6 b] w (Aj (A0 (DW D).1) λw'=>Ej w Ft w' b (DW D).2 F):=by
 obtain⟨r,G,h1,W,h3⟩:=h;refine(Wb w b _ G Ft h1).mono ?_;rintro e w'⟨Y,q2⟩;have X:(DW (D.ren r)).2=(DW D).2.ren r:=by
  unfold DW;by_cases I:(bg D.n).2.1=0
  ·have E:(bg (D.ren r).n).2.1=0:=I;rw[Ai I,Ai E];rfl
  ·have E:¬(bg (D.ren r).n).2.1=0:=I;rw[Ae I,Ae E];rfl
 have z:∀f,(DW D).2.Ap f->D.Ap f:=by
  intro f d;unfold DW at d;simp only at d;split at d
  ·rcases d with d|d|⟨c,hc,_⟩
   ·exact .inl d
   ·exact .inl d
   ·cases hc
  ·exact d
 exact⟨Y,q2.bb X (λf d=>W f (z f d)) λf O d L=>h3 f O (z f d) (z O L)⟩
def G7{name:ByteArray}{f:Nat}(h:lookup D.A5 name=some f):D.Ap f:=.inl (Sz h)
def Qh(h:AU w b D F Ft)(name:ByteArray):
 Ag 85 #[A6 b,.string name] w (Aj (A0 (Cz D F name).1) λw'=>Ej w Ft w' b (Cz D F name).2.1 (Cz D F name).2.2):=by
 obtain⟨r,G,h1,I,h3⟩:=h;refine(W8 w b _ G Ft h1 name).mono ?_;rintro e w'⟨O,X⟩;have W:lookup (D.ren r).A5 name=(lookup D.A5 name).map r:=Jy r D.A5 name;cases hx:lookup D.A5 name with
 | none=>
  rw[hx]at W;have e1:Cz (D.ren r) G name=(8,D.ren r,G):=by unfold Cz;rw[W];rfl
  have Y:Cz D F name=(8,D,F):=by unfold Cz;rw[hx]
  rw[e1]at O X;rw[Y];exact⟨O,X.bb rfl I h3⟩
 | some f=>
  rw[hx]at W;have e1:Cz (D.ren r) G name=((bg D.n).2.1,{D with n:=(bg D.n).2.2}.ren r,if (bg D.n).2.1=0 then upd G (r f) ((G (r f)).1,(G (r f)).1.length) else G):=by unfold Cz;rw[W];rfl
  have Y:Cz D F name=((bg D.n).2.1,{D with n:=(bg D.n).2.2},if (bg D.n).2.1=0 then upd F f ((F f).1,(F f).1.length) else F):=by unfold Cz;rw[hx]
  rw[e1]at O X;rw[Y];refine⟨O,X.bb rfl (λd z=>?_) h3⟩;have hf:=G7 hx;show (if (bg D.n).2.1=0 then upd G (r f) ((G (r f)).1,(G (r f)).1.length) else G) (r d)=(if (bg D.n).2.1=0 then upd F f ((F f).1,(F f).1.length) else F) d;by_cases L:(bg D.n).2.1=0
  ·rw[Ai L,Ai L];unfold upd;by_cases E:d=f
   ·subst E;simp[I d hf]
   ·have:r d≠r f:=λe=>E (h3 d f z hf e);simp only[this,E,C3];exact I d z
  ·rw[Ae L,Ae L];exact I d z
def Nk{r:Nat->Nat}{G:Nat->FC}(I:∀f,D.Ap f->G (r f)=F f)(L:∀f d,D.Ap f->D.Ap d->r f=r d->f=d){f:Nat}(E:D.Ap f)(c:FC):∀d,D.Ap d->upd G (r f) c (r d)=upd F f c d:=λd z=>by
 unfold upd;by_cases h:d=f
 ·subst h;simp
 ·have:r d≠r f:=λe=>h (L d f z E e);simp only[this,h,C3];exact I d z
def Tx{r:Nat->Nat}{G:Nat->FC}(L:∀f,D.Ap f->G (r f)=F f)(O:∀f d,D.Ap f->D.Ap d->r f=r d->f=d){f:Nat}(I:D.Ap f)(data:ByteArray)(n0 e:Int):
 (BK (D.ren r) G (r f) data n0 e).1=(BK D F f data n0 e).1/\(BK (D.ren r) G (r f) data n0 e).2.1=(BK D F f data n0 e).2.1.ren r/\(∀d,D.Ap d->(BK (D.ren r) G (r f) data n0 e).2.2 (r d)=(BK D F f data n0 e).2.2 d)/\(∀d,(BK D F f data n0 e).2.1.Ap d↔D.Ap d):=by
 have E:G9 (D.ren r) G=G9 D F:=by
  unfold G9;have:AX G (D.ren r).A5=AX F D.A5:=Nh r G F D.A5 λf I=>L f (.inl I);rw[this];rfl
 unfold BK;rw[E];by_cases W:n0>G9 D F
 ·simp only[W,Ci];rw[L f I];refine⟨by first|trivial|rfl,?_,λd z=>Nk L O I _ d z,λd=>?_⟩
  ·by_cases h:e=0
   ·rw[Ai h,Ai h];rfl
   ·rw[Ae h,Ae h]
  ·by_cases h:e=0
   ·rw[Ai h];exact PC
   ·rw[Ae h]
 ·simp only[W,C3];rw[L f I];exact⟨by first|trivial|rfl,by first|trivial|rfl,λd z=>Nk L O I _ d z,λ_=>by first|trivial|exact PC⟩
def A25(h:AU w b D F Ft)(name data:ByteArray)(hroom : -4611686018427387904<=D.n.AA/\D.n.AA<=9223372036854775807)(hu:AX F D.A5<=4611686018427387904)(hp:0<=D.n.BC/\D.n.BC<=9223372036854775807)(hl:∀f,lookup D.A5 name=some f->(F f).1.length+data.size<=70368744177664):
 Ag 84 #[A6 b,.string name,.string data] w (Aj (A0 (Bx D F name data).1) λw'=>Ej w Ft w' b (Bx D F name data).2.1 (Bx D F name data).2.2):=by
 obtain⟨r,G,h1,h2,h3⟩:=h;have z:lookup (D.ren r).A5 name=(lookup D.A5 name).map r:=Jy r D.A5 name
 refine(A24 w b _ G Ft h1 name data hroom (by
  have:AX G (D.ren r).A5=AX F D.A5:=Nh r G F D.A5 λf W=>h2 f (.inl W)
  rw[this];exact hu) hp (λf W=>by
   rw[z]at W;cases hx:lookup D.A5 name with
   | none=>rw[hx]at W;cases W
   | some f0=>
    rw[hx]at W;simp at W;subst W
    rw[h2 f0 (G7 hx)];exact hl f0 hx)).mono ?_
 rintro e w'⟨O,X⟩;cases hx:lookup D.A5 name with
 | none=>
  rw[hx]at z;have e1:Bx (D.ren r) G name data=(8,D.ren r,G):=by unfold Bx;rw[z];rfl
  have Y:Bx D F name data=(8,D,F):=by unfold Bx;rw[hx]
  rw[e1]at O X;rw[Y];exact⟨O,X.bb rfl h2 h3⟩
 | some f=>
  rw[hx]at z;have W:=G7 hx;have aA:=W;by_cases c1:(bg D.n).1=true
  ·have e1:Bx (D.ren r) G name data=BK ({D with n:=(bg D.n).2.2}.ren r) G (r f) data data.size (bg D.n).2.1:=by
    unfold Bx;rw[z];show (if (bg D.n).1=true then _ else _)=_;rw[Ai c1];rfl
   have Y:Bx D F name data=BK {D with n:=(bg D.n).2.2} F f data data.size (bg D.n).2.1:=by
    unfold Bx;rw[hx];show (if (bg D.n).1=true then _ else _)=_;rw[Ai c1]
   rw[e1]at O X;rw[Y];obtain⟨k1,k2,k3,k4⟩:=Tx (D:={D with n:=(bg D.n).2.2}) (r:=r) (G:=G) (F:=F) h2 h3 aA data data.size (bg D.n).2.1;rw[k1]at O;exact⟨O,X.bb k2 (λE d=>k3 E ((k4 E).1 d)) λE L d I=>h3 E L ((k4 E).1 d) ((k4 L).1 I)⟩
  ·by_cases c2:(bg D.n).2.2.Bh=false/\0<data.size
   ·have e1:Bx (D.ren r) G name data=BK ({D with n:=(bg D.n).2.2}.ren r) G (r f) data ((bg D.n).2.2.BC % data.size) (bg D.n).2.1:=by
     unfold Bx;rw[z];show (if (bg D.n).1=true then _ else if (bg D.n).2.2.Bh=false/\0<data.size then _ else _)=_;rw[Ae c1,Ai c2];rfl
    have Y:Bx D F name data=BK {D with n:=(bg D.n).2.2} F f data ((bg D.n).2.2.BC % data.size) (bg D.n).2.1:=by
     unfold Bx;rw[hx];show (if (bg D.n).1=true then _ else if (bg D.n).2.2.Bh=false/\0<data.size then _ else _)=_;rw[Ae c1,Ai c2]
    rw[e1]at O X;rw[Y];obtain⟨k1,k2,k3,k4⟩:=Tx (D:={D with n:=(bg D.n).2.2}) (r:=r) (G:=G) (F:=F) h2 h3 aA data ((bg D.n).2.2.BC % data.size) (bg D.n).2.1;rw[k1]at O;exact⟨O,X.bb k2 (λE d=>k3 E ((k4 E).1 d)) λE L d I=>h3 E L ((k4 E).1 d) ((k4 L).1 I)⟩
   ·have e1:Bx (D.ren r) G name data=((bg D.n).2.1,{D with n:=(bg D.n).2.2}.ren r,G):=by
     unfold Bx;rw[z];show (if (bg D.n).1=true then _ else if (bg D.n).2.2.Bh=false/\0<data.size then _ else _)=_;rw[Ae c1,Ae c2];rfl
    have Y:Bx D F name data=((bg D.n).2.1,{D with n:=(bg D.n).2.2},F):=by
     unfold Bx;rw[hx];show (if (bg D.n).1=true then _ else if (bg D.n).2.2.Bh=false/\0<data.size then _ else _)=_;rw[Ae c1,Ae c2]
    rw[e1]at O X;rw[Y];exact⟨O,X.bb rfl h2 h3⟩
def JJ{es:List AN}{n:DN}(z:∀f,Dd f es->D.Ap f)(f:Nat)(d:({D with A5:=es,Aq:=D.Aq++[es],n:=n}:DS).Ap f):D.Ap f:=by
 rcases d with d|d|⟨c,h,d⟩
 ·exact z f d
 ·exact .inr (.inl d)
 ·rcases AY.1 h with h|h
  ·exact .inr (.inr ⟨c,h,d⟩)
  ·simp at h;subst h;exact z f d
def Nn(r:Nat->Nat)(es:List AN)(n:DN):({D.ren r with A5:=ren r es,Aq:=(D.ren r).Aq++[ren r es],n:=n}:DS)=({D with A5:=es,Aq:=D.Aq++[es],n:=n}:DS).ren r:=by
 simp[DS.ren]
def Y8(h:AU w b D F Ft)(name:ByteArray)(hs:D.A5.length<1099511627776/\D.Aq.length<1099511627776):
 Ag 193 #[A6 b,.string name] w (Aj (A0 (Ds D name).1) λw'=>Ej w Ft w' b (Ds D name).2 F):=by
 obtain⟨r,G,h1,Y,h3⟩:=h;obtain⟨l1,l2,l3,l4⟩:=JN D r;refine(Y7 w b _ G Ft h1 name (by rw[l1,l3];exact hs)).mono ?_;rintro e w'⟨I,L⟩;have E:B6 (D.ren r).A5 name=B6 D.A5 name:=NF r D.A5 name;by_cases c1:B6 D.A5 name<0
 ·have X:Ds (D.ren r) name=(8,D.ren r):=by unfold Ds;rw[E,Ai c1]
  have O:Ds D name=(8,D):=by unfold Ds;rw[Ai c1]
  rw[X]at I L;rw[O];exact⟨I,L.bb rfl Y h3⟩
 ·by_cases c2:(bg D.n).1=true
  ·have O:Ds D name=((bg D.n).2.1,{D with A5:=D.A5.take (B6 D.A5 name).toNat++D.A5.drop ((B6 D.A5 name).toNat+1),Aq:=D.Aq++[D.A5.take (B6 D.A5 name).toNat++D.A5.drop ((B6 D.A5 name).toNat+1)],n:=(bg D.n).2.2}):=by
    unfold Ds;rw[Ae c1];simp only[c2,Ci]
   have X:Ds (D.ren r) name=((bg D.n).2.1,{D with A5:=D.A5.take (B6 D.A5 name).toNat++D.A5.drop ((B6 D.A5 name).toNat+1),Aq:=D.Aq++[D.A5.take (B6 D.A5 name).toNat++D.A5.drop ((B6 D.A5 name).toNat+1)],n:=(bg D.n).2.2}.ren r):=by
    have d:(bg (D.ren r).n).1=true:=c2;unfold Ds;rw[E,Ae c1];simp only[d,Ci];rw[<-Nn,LK,<-XX,<-XZ];rfl
   rw[X]at I L;rw[O];have z:∀f,Dd f (D.A5.take (B6 D.A5 name).toNat++D.A5.drop ((B6 D.A5 name).toNat+1))->D.Ap f:=by
    rintro f⟨x,W,he⟩;rcases AY.1 W with W|W
    ·exact .inl ⟨x,H3 W,he⟩
    ·exact .inl ⟨x,K1 W,he⟩
   exact⟨I,L.bb rfl (λf hf=>Y f (JJ z f hf)) λf f' hf aA=>h3 f f' (JJ z f hf) (JJ z f' aA)⟩
  ·(have O:Ds D name=((bg D.n).2.1,{D with n:=(bg D.n).2.2}):=by unfold Ds;rw[Ae c1];simp only[c2];rfl);have X:Ds (D.ren r) name=((bg D.n).2.1,{D with n:=(bg D.n).2.2}.ren r):=by
    have d:¬(bg (D.ren r).n).1=true:=c2;unfold Ds;rw[E,Ae c1];simp only[d];rfl
   rw[X]at I L;rw[O];exact⟨I,L.bb rfl Y h3⟩
def XV(h:AU w b D F Ft)(old name:ByteArray)(hs:D.A5.length<1099511627776/\D.Aq.length<1099511627776):
 Ag 242 #[A6 b,.string old,.string name] w (Aj (A0 (D3 D old name).1) λw'=>Ej w Ft w' b (D3 D old name).2 F):=by
 obtain⟨r,G,h1,h2,h3⟩:=h;obtain⟨l1,l2,l3,l4⟩:=JN D r;refine(XU w b _ G Ft h1 old name (by rw[l1,l3];exact hs)).mono ?_;rintro e w'⟨E,I⟩;have z:lookup (D.ren r).A5 old=(lookup D.A5 old).map r:=Jy r D.A5 old;cases hx:lookup D.A5 old with
 | none=>
  rw[hx]at z;have X:D3 (D.ren r) old name=(8,D.ren r):=by unfold D3;rw[z];rfl
  have O:D3 D old name=(8,D):=by unfold D3;rw[hx]
  rw[X]at E I;rw[O];exact⟨E,I.bb rfl h2 h3⟩
 | some f=>
  rw[hx]at z;by_cases c1:name=ByteArray.empty
  ·(have X:D3 (D.ren r) old name=(8,D.ren r):=by unfold D3;rw[z];simp only[HW];rw[Ai c1]);(have O:D3 D old name=(8,D):=by unfold D3;rw[hx];simp only;rw[Ai c1]);rw[X]at E I;rw[O];exact⟨E,I.bb rfl h2 h3⟩
  ·by_cases c2:(bg D.n).1=true
   ·have O:D3 D old name=((bg D.n).2.1,{D with A5:=Dk D.A5 (B6 D.A5 old).toNat name D.A5.length++[(name,f)],Aq:=D.Aq++[Dk D.A5 (B6 D.A5 old).toNat name D.A5.length++[(name,f)]],n:=(bg D.n).2.2}):=by
     unfold D3;rw[hx];simp only;rw[Ae c1];simp only[c2,Ci]
    have X:D3 (D.ren r) old name=((bg D.n).2.1,{D with A5:=Dk D.A5 (B6 D.A5 old).toNat name D.A5.length++[(name,f)],Aq:=D.Aq++[Dk D.A5 (B6 D.A5 old).toNat name D.A5.length++[(name,f)]],n:=(bg D.n).2.2}.ren r):=by
     have L:(bg (D.ren r).n).1=true:=c2;have aB:B6 (D.ren r).A5 old=B6 D.A5 old:=NF r D.A5 old;unfold D3;rw[z];simp only[HW];rw[Ae c1];simp only[L,Ci];rw[<-Nn,LK,<-XY,aB,l1];rfl
    rw[X]at E I;rw[O];have W:∀Y,Dd Y (Dk D.A5 (B6 D.A5 old).toNat name D.A5.length++[(name,f)])->D.Ap Y:=by
     rintro Y⟨x,d,he⟩;rcases AY.1 d with d | d
     ·exact .inl ⟨x,LL _ _ _ _ x d,he⟩
     ·simp at d;subst d;cases he;exact G7 hx
    exact⟨E,I.bb rfl (λf hf=>h2 f (JJ W f hf)) λf Y hf aA=>h3 f Y (JJ W f hf) (JJ W Y aA)⟩
   ·(have O:D3 D old name=((bg D.n).2.1,{D with n:=(bg D.n).2.2}):=by unfold D3;rw[hx];simp only;rw[Ae c1];simp only[c2];rfl);have X:D3 (D.ren r) old name=((bg D.n).2.1,{D with n:=(bg D.n).2.2}.ren r):=by
     have L:¬(bg (D.ren r).n).1=true:=c2;unfold D3;rw[z];simp only[HW];rw[Ae c1];simp only[L];rfl
    rw[X]at E I;rw[O];exact⟨E,I.bb rfl h2 h3⟩
def A1V(h:AU w b D F Ft)(name:ByteArray)(k:Nat)(hk:¬D.Ap k)(hs:D.A5.length<1099511627776/\D.Aq.length<1099511627776):
 Calls Tryz.prog 83 #[.pointer (some ⟨b,0,none⟩),.string name] w λe w'=>e=.returned (.int .i64 (CM D name k).1)/\Ej w Ft w' b (CM D name k).2 (upd F k ([],0)):=by
 obtain⟨r,G,h1,h2,h3⟩:=h;obtain⟨l1,l2,l3,l4⟩:=JN D r;have O:∀f,D.Ap f->r f<w.heap.size:=by
  obtain⟨vd,vs,vc,vals,VB,hr,_⟩:=h1;intro f d;refine hr.lt (.BH ?_);rcases d with⟨x,E,rfl⟩|⟨x,E,rfl⟩|⟨c,L,x,E,rfl⟩
  ·exact .inl ⟨_,Ed E,rfl⟩
  ·exact .inr (.inl ⟨_,Ed E,rfl⟩)
  ·exact .inr (.inr ⟨_,Ed L,_,Ed E,rfl⟩)
 refine(A1U w b _ G Ft h1 name (by rw[l1,l3];exact hs)).mono ?_;rintro e w'⟨f0,q0,q1,q2⟩;have Y:B6 (D.ren r).A5 name=B6 D.A5 name:=NF r D.A5 name;have hG:∀f,D.Ap f->upd G f0 ([],0) (r f)=upd F k ([],0) f:=λf d=>by
  unfold upd;have n1:r f≠f0:=by have:=O f d;omega
  have n2:f≠k:=λe=>hk (e ▸ d);simp only[n1,n2,C3];exact h2 f d
 by_cases c1:name=ByteArray.empty\/B6 D.A5 name≥0
 ·have e1:CM (D.ren r) name f0=(8,D.ren r):=by unfold CM;rw[Y,Ai c1]
  have e2:CM D name k=(8,D):=by unfold CM;rw[Ai c1]
  rw[e1]at q1 q2;rw[e2];exact⟨q1,q2.bb rfl hG h3⟩
 ·by_cases c2:(bg D.n).1=true
  ·have e2:CM D name k=((bg D.n).2.1,{D with A5:=D.A5++[(name,k)],Aq:=D.Aq++[D.A5++[(name,k)]],n:=(bg D.n).2.2}):=by
    unfold CM;rw[Ae c1];simp only[c2,Ci]
   have z:∀f,D.Ap f->(λf=>if f=k then f0 else r f) f=r f:=λf d=>by
    have n2:f≠k:=λe=>hk (e ▸ d);simp only[n2,C3]
   have aA:D.ren (λf=>if f=k then f0 else r f)=D.ren r:=DS.ren_congr z;have e1:CM (D.ren r) name f0=((bg D.n).2.1,{D with A5:=D.A5++[(name,k)],Aq:=D.Aq++[D.A5++[(name,k)]],n:=(bg D.n).2.2}.ren (λf=>if f=k then f0 else r f)):=by
    have X:(bg (D.ren r).n).1=true:=c2;unfold CM;rw[Y,Ae c1];simp only[X,Ci];rw[<-Nn,aA,LK];have e3:ren (λf=>if f=k then f0 else r f) D.A5=(D.ren r).A5:=by
     have:=Eu DS.A5 aA;exact this
    rw[e3];(have e4:ren (λf=>if f=k then f0 else r f) [(name,k)]=[(name,f0)]:=by simp[ren]);rw[e4];rfl
   rw[e1]at q1 q2;rw[e2];have I:∀f,({D with A5:=D.A5++[(name,k)],Aq:=D.Aq++[D.A5++[(name,k)]],n:=(bg D.n).2.2}:DS).Ap f->D.Ap f\/f=k:=by
    have key:∀f,Dd f (D.A5++[(name,k)])->D.Ap f\/f=k:=by
     rintro f⟨x,E,rfl⟩;rcases AY.1 E with E|E
     ·exact .inl (.inl ⟨x,E,rfl⟩)
     ·simp at E;subst E;exact .inr rfl
    rintro f (d|d|⟨c,L,d⟩)
    ·exact key f d
    ·exact .inl (.inr (.inl d))
    ·rcases AY.1 L with L|L
     ·exact .inl (.inr (.inr ⟨c,L,d⟩))
     ·simp at L;subst L;exact key f d
   refine⟨q1,q2.bb rfl (λf d=>?_) λf f' d aB e=>?_⟩
   ·rcases I f d with h|h
    ·simp only[z f h];exact hG f h
    ·subst h;simp[upd]
   ·rcases I f d with h|h<;>rcases I f' aB with W | W
    ·simp only[z f h,z f' W]at e;exact h3 f f' h W e
    ·subst W;simp only[z f h,Ci]at e;have:=O f h;omega
    ·subst h;simp only[z f' W,Ci]at e;have:=O f' W;omega
    ·rw[h,W]
  ·(have e2:CM D name k=((bg D.n).2.1,{D with n:=(bg D.n).2.2}):=by unfold CM;rw[Ae c1];simp only[c2];rfl);have e1:CM (D.ren r) name f0=((bg D.n).2.1,{D with n:=(bg D.n).2.2}.ren r):=by
    have X:¬(bg (D.ren r).n).1=true:=c2;unfold CM;rw[Y,Ae c1];simp only[X];rfl
   rw[e1]at q1 q2;rw[e2];exact⟨q1,q2.bb rfl hG h3⟩
def Yh(h:AU w b D F Ft)(name:ByteArray)(p n:Int):
 Ag 82 #[A6 b,.string name,A0 p,A0 n] w (Aj (.tuple #[.string ⟨(Fp D F name p n).1.toArray⟩,A0 (Fp D F name p n).2]) λw'=>w=w'):=by
 obtain⟨r,G,I,E,h3⟩:=h;have d:lookup (D.ren r).A5 name=(lookup D.A5 name).map r:=Jy r D.A5 name;have z:Fp (D.ren r) G name p n=Fp D F name p n:=by
  unfold Fp;rw[d];cases hx:lookup D.A5 name with
  | none=>rfl
  | some f=>simp only[HW,E f (G7 hx)]
 have:=Yg w b _ G Ft I name p n
 rwa [z]at this
def Ns(h:AU w b D F Ft)(name:ByteArray):
 Ag 81 #[A6 b,.string name] w (Aj (.tuple #[A0 (Cv D F name).1,A0 (Cv D F name).2]) λw'=>w=w'):=by
 obtain⟨r,G,X,L,h3⟩:=h;have z:lookup (D.ren r).A5 name=(lookup D.A5 name).map r:=Jy r D.A5 name;have I:Cv (D.ren r) G name=Cv D F name:=by
  unfold Cv;rw[z];cases hx:lookup D.A5 name with
  | none=>rfl
  | some f=>simp only[HW,L f (G7 hx)]
 obtain⟨vd,O,E,d,Y,W,_⟩:=X;have:=X8 w b _ G vd O E d Y W name
 rwa [I]at this
def ZQ(h:AU w b D F Ft)(I:D.A5.length<1099511627776):
 Ag 76 #[A6 b] w λe w'=>∃v,e=.returned v/\w'.ownsRow 0 9 1 v D.A5.length (FN (dList D.A5))/\A4 Aa w w'/\(∀g,v.ownBlock=some g->w.heap.size<=g):=by
 obtain⟨r,G,E,h2,h3⟩:=h;obtain⟨d,l2,l3,l4⟩:=JN D r;have:=Of w b _ G Ft E (by rw[d];exact I);have z:dList (D.ren r).A5=dList D.A5:=R5 r D.A5
 rwa [d,z]at this
def VM(h:AU w b D F Ft)(hu:AX F D.A5<=4611686018427387904):
 Ag 90 #[A6 b] w (Aj (A0 (AX F D.A5)) λw'=>A4 Aa w w'):=by
 obtain⟨r,G,I,E,h3⟩:=h;have d:AX G (D.ren r).A5=AX F D.A5:=Nh r G F D.A5 λf z=>E f (.inl z);have:=Jo w b _ G Ft I (by rw[d];exact hu)
 rwa [d]at this
def Ts(h:AU w b D F Ft):Ag 36 #[A6 b] w (Aj (.bool D.n.Bh) λw'=>w=w'):=by
 obtain⟨E,z,d,h⟩:=h.Af;exact A1I w b E z d D.n h
def NJ(h:AU w b D F Ft):Ag 50 #[A6 b] w (Aj (A0 D.n.Bj) λw'=>w=w'):=by
 obtain⟨E,z,d,h⟩:=h.Af;exact Yb w b E z d D.n h
def Ti(h:AU w b D F Ft):Ag 88 #[A6 b] w (Aj (A0 D.n.fulls) λw'=>w=w'):=by
 obtain⟨E,z,d,h⟩:=h.Af;exact A02 w b E z d D.n h
def Ty(h:AU w b D F Ft)(c:Int):Ag 35 #[A6 b,A0 c] w (Aj (.tuple #[]) λw'=>Ej w Ft w' b {D with n:={D.n with CN:=if c>0 then wrap64 (D.n.B8+c) else 0}} F):=by
 obtain⟨r,G,⟨vd,I,E,vals,VB,d,z⟩,L,W⟩:=h;refine(A1Q w b vd I E D.n c d.Af).mono ?_;rintro e w'⟨O,Y,X⟩;exact⟨O,(d.bP z Y X).bb (D':={D with n:={D.n with CN:=if c>0 then wrap64 (D.n.B8+c) else 0}}) rfl L W⟩
def Tl(h:AU w b D F Ft)(c p:Int):Ag 78 #[A6 b,A0 c,A0 p] w (Aj (.tuple #[]) λw'=>Ej w Ft w' b {D with n:=ED D.n c p} F):=by
 obtain⟨r,G,⟨X,E,Y,vals,VB,d,O⟩,z,W⟩:=h;refine(A1s w b X E Y D.n c p d.Af).mono ?_;rintro e w'⟨I,q2,L⟩;exact⟨I,(d.bP O q2 L).bb (D':={D with n:=ED D.n c p}) rfl z W⟩
def TC(r:Nat->Nat)(D:DS)(dirs:Int):Ga (D.ren r) dirs=ren r (Ga D dirs):=by
 unfold Ga;have:(D.ren r).Aq.length=D.Aq.length:=by simp[DS.ren]
 rw[this];cases FA dirs D.Aq.length with
 | zero=>rfl
 | succ k=>
  show (D.Aq.map (ren r)).getD k []=ren r (D.Aq.getD k []);rw[HZ,HZ,Pq];cases D.Aq[k]?<;>rfl
def OU(D:DS)(dirs:Int)(f:Nat)(h:Dd f (Ga D dirs)):D.Ap f:=by
 unfold Ga at h;split at h
 ·exact .inr (.inl h)
 ·rename_i k _;rw[HZ]at h;cases hx:D.Aq[k]? with
  | none=>rw[hx]at h;obtain⟨e,d,_⟩:=h;cases d
  | some c=>rw[hx]at h;exact .inr (.inr ⟨c,Ld hx,h⟩)
def A14{r:Nat->Nat}{G:Nat->FC}(L:∀f,D.Ap f->G (r f)=F f)(O:∀f E,D.Ap f->D.Ap E->r f=r E->f=E){es:List AN}(z:∀f,Dd f es->D.Ap f)(I:List Int)(names:List ByteArray)(k:Nat):
 ∀f,D.Ap f->DX (ren r es) I names G k (r f)=DX es I names F k f:=by
 induction k with
 | zero=>exact L
 | succ k ih=>
  intro f h;simp only[DX];cases names[k]? with
  | none=>exact ih f h
  | some name=>
   simp only[Jy];cases hx:lookup es name with
   | none=>exact ih f h
   | some f0=>
    have d:=z f0 (Sz hx);simp only[HW,ih f0 d];exact Nk ih O d _ f h
def A12(h:AU w b D F Ft)(dirs:Int)(W:Value)(I:List Int)(ht:Lm w W I)(aB:∀ad n c x,n≠0->W=.slice ad n c->ad=some x->¬Ft x.block)(O:D.A5.length<1099511627776/\D.AF.length<1099511627776/\D.Aq.length<1099511627776/\∀c∈D.Aq,c.length<1099511627776)(hdi : -9223372036854775808<=dirs/\dirs<=9223372036854775807)(aA:∀t∈I,-9223372036854775808<=t/\t<=9223372036854775807)(hF:∀f,D.Ap f->0<=(F f).2/\(F f).2<=(F f).1.length/\(F f).1.length<=1099511627776):
 Ag 32 #[A6 b,A0 dirs,W] w (Aj (.tuple #[]) λw'=>Ej w Ft w' b (F5 D F dirs I).1 (F5 D F dirs I).2):=by
 obtain⟨r,G,h1,h2,h3⟩:=h;obtain⟨l1,l2,l3,l4⟩:=JN D r
 refine(A11 w b _ G Ft h1 dirs W I ht aB (by
  rw[l1,l2,l3];refine⟨O.1,O.2.1,O.2.2.1,λc hc=>?_⟩;obtain⟨c0,X,rfl⟩:=CD.1 hc
  rw[IM];exact O.2.2.2 c0 X) hdi aA (λY z=>by
  obtain⟨f,L,rfl⟩:=DS.cQ z
  rw[h2 f L];exact hF f L)).mono ?_
 rintro e w'⟨L,q2⟩;have d:∀f,(F5 D F dirs I).1.Ap f->D.Ap f:=by
  rintro f (E|E|⟨c,hc,_⟩)
  ·exact OU D dirs f E
  ·exact OU D dirs f E
  ·cases hc
 refine⟨L,q2.bb (r:=r) ?_ (λf E=>?_) λf Y E z=>h3 f Y (d f E) (d Y z)⟩
 ·simp only[F5,TC];rfl
 ·simp only[F5,TC,R5,IM];exact A14 h2 h3 (OU D dirs) I _ _ f (d f E)
end
def Up(N:Nat):Nat->Prop:=λk=>N<=k
def AU.aa{w:World}{b:Nat}{D:DS}{F:Nat->FC}{Ft:Nat->Prop}(h:AU w b D F Ft):AU w.drew b D F Ft:=h.aI λ_ _=>rfl
def Ej.dM{w w':World}{b:Nat}{D:DS}{F:Nat->FC}{Ft:Nat->Prop}(h:Ej w.drew Ft w' b D F):Ej w Ft w' b D F:=by
 obtain⟨d,z⟩:=h;exact⟨⟨d.os,d.DC,d.DE,d.Al,d.Am⟩,z⟩
section
variable {w:World} {b fb:Nat} {D:DS} {F:Nat->FC} {Ft:Nat->Prop} {T:TypeId} {name:ByteArray} {s:Nat}
def Tz(d:Bg w fb T (A6 b) name s)(h:AU w b D F Ft)(k:Nat)(z:¬D.Ap k)(L:D.A5.length<1099511627776/\D.Aq.length<1099511627776):
 Ag 240 #[A6 fb] w (Aj (A0 (CM D name k).1) λw'=>Ej w Ft w' b (CM D name k).2 (upd F k ([],0))):=by
 have c0:=d.c0;have c1:=d.c1;have CR:=A1 (A1V h.aa name k z L);generalize hq:(CM D name k).1=q at CR ⊢
 go_enter func240,ntmps240
 go_wp2;refine Fw (λw'=>A8 w' fb 0 (A6 b)/\A8 w' fb 1 (.string name)) 8
  (Bb [0,1,2,3,4,5,6,7] []) (by kernel_rfl) (by kernel_rfl) (λ_ _ _ _ _ h=>h) ⟨c0,c1⟩ ?_
 iterate 8 (refine DM (v:=?_) rfl (by rfl) ?_ ?_;rotate_left;(· (intro w' E;(try dsimp only at E);go_simp;try with_reducible rfl));(try simp only[Ak]))
 refine B4 ?_;simp only[Du,Db];go_wp2_with (go_at_call 83;refine CR.m ?_;rintro e w'⟨rfl,O⟩;have I:=A1 O);go_ret;exact⟨rfl,I.o.dM⟩
def W9(d:Bg w fb T (A6 b) name s)(h:AU w b D F Ft):
 Ag 164 #[A6 fb] w (Aj (A0 (Cz D F name).1) λw'=>Ej w Ft w' b (Cz D F name).2.1 (Cz D F name).2.2):=by
 have c0:=d.c0;have c1:=d.c1;have CR:=A1 (Qh h.aa name);generalize hq:(Cz D F name).1=q at CR ⊢
 go_enter func164,ntmps164
 go_wp2;refine Fw (λw'=>A8 w' fb 0 (A6 b)/\A8 w' fb 1 (.string name)) 8
  (Bb [0,1,2,3,4,5,6,7] []) (by kernel_rfl) (by kernel_rfl) (λ_ _ _ _ _ h=>h) ⟨c0,c1⟩ ?_
 iterate 8 (refine DM (v:=?_) rfl (by rfl) ?_ ?_;rotate_left;(· (intro w' z;(try dsimp only at z);go_simp;try with_reducible rfl));(try simp only[Ak]))
 refine B4 ?_;simp only[Du,Db];go_wp2_with (go_at_call 85;refine CR.m ?_;rintro e w'⟨rfl,I⟩;have E:=A1 I);go_ret;exact⟨rfl,E.o.dM⟩
end
def DZ(D:DS)(F:Nat->FC)(name:ByteArray):List UInt8×Int:=match lookup D.A5 name with
 | some f=>((F f).1,0)
 | none=>([],8)
def AU.au{w w':World}{b:Nat}{D:DS}{F:Nat->FC}{Ft:Nat->Prop}(h:AU w b D F Ft)(d:∀k,Ft k->k<w.heap.size)(E:A4 Aa w w'):AU w' b D F Ft:=h.aI λk z=>E.Am k (d k z) (λh=>h)
section
variable {w:World} {b fb:Nat} {D:DS} {F:Nat->FC} {Ft:Nat->Prop} {T:TypeId} {name:ByteArray} {s:Nat}
def Uf(hf:Bg w fb T (A6 b) name s)(h:AU w b D F Ft):
 Ag 166 #[A6 fb] w (Aj (.tuple #[.string ⟨(DZ D F name).1.toArray⟩,A0 (DZ D F name).2]) λw'=>A4 Aa w w'):=by
 obtain⟨d,aA⟩:∃d,(Cv D F name).1=d:=⟨_,rfl⟩;obtain⟨ze,I⟩:∃ze,(Cv D F name).2=ze:=⟨_,rfl⟩;have aR:∀w',AU w' b D F Ft->Ag 81 #[A6 b,.string name] w' λe W=>e=.returned (.tuple #[A0 d,A0 ze])/\w'=W:=λw' h=>by
  rw[<-aA,<-I];exact Ns h name
 have aQ:∀w',AU w' b D F Ft->Ag 82 #[A6 b,.string name,A0 0,A0 d] w' λe W=>e=.returned (.tuple #[.string ⟨(Fp D F name 0 d).1.toArray⟩,A0 (Fp D F name 0 d).2])/\w'=W:=λw' h=>Yh h name 0 d;have aG:=A1 aR;have aP:=A1 aQ;have aB:(ze=0/\Hid ((Fp D F name 0 d).1=(DZ D F name).1/\(Fp D F name 0 d).2=(DZ D F name).2))\/(ze=8/\Hid ((DZ D F name).1=[]/\(DZ D F name).2=8)):=by
  unfold Cv at aA I;unfold Fp DZ Hid;cases hx:lookup D.A5 name with
  | none=>rw[hx]at I;exact .inr ⟨I.symm,rfl,rfl⟩
  | some f=>
   rw[hx]at I aA;subst aA;refine .inl ⟨I.symm,?_⟩;dsimp only
   rw[Ae (by omega)];simp
 obtain⟨rs,aI⟩:∃rs,(DZ D F name).1=rs:=⟨_,rfl⟩;obtain⟨re,aN⟩:∃re,(DZ D F name).2=re:=⟨_,rfl⟩;rw[aI,aN]at aB ⊢
 go_enter func166,ntmps166
 go_wp2;refine Hl 13 (λy=>{tmps:=#[A6 fb,undef,.string ⟨#[]⟩,A0 0,y 12,undef,y 9,y 0,y 1,y 2,y 3,y 4,y 5,y 6,y 7,y 8,y 10,y 11,undef,undef,undef,undef,undef,undef,undef,undef,undef,undef,undef,undef,undef,undef,undef],defers:=[]}) (λ_=>undef)
  (λw'=>Bg w' fb T (A6 b) name s/\AU w' b D F Ft/\A4 Aa w w') (A4 Aa)
  (λj x w'=>match j with
   | 0=>x=(A6 fb)
   | 1=>x=(A6 fb)
   | 2=>x=(A6 fb)
   | 3=>x=(A6 b)
   | 4=>x=(A6 fb)
   | 5=>x=(A6 fb)
   | 6=>x=.pointer (some (A9 fb 1))
   | 7=>x=.string name
   | 8=>x=.tuple #[A0 d,A0 ze]
   | 9=>x=.tuple #[A0 d,A0 ze]
   | 10=>x=A0 d
   | 11=>x=A0 ze
   | 12=>x=A0 d
   | _=>True)
  (by kernel_rfl) (by kernel_rfl) rfl ?_ ?_ ?_ ?_
 ·exact⟨hf,h.aa,(A4.C _ _).aa⟩
 ·intro j x w1 w2 hR aM X;split at X<;>exact X
 ·simp only[Fs,Fe,FY,HR]
  repeat' (with_reducible apply And.intro)
  all_goals refine⟨?_,(by intro y O _ _ h;exact Bool.noConfusion h),λy x=>rfl⟩
  all_goals
   intro y O hS Y hw K hK;obtain⟨E,aD,aE⟩:=hS;simp[Gt,Region.binds,Fu,List.filter_cons]at Y;have c0:=E.c0;have c1:=E.c1;have L:Hid (Bg O fb T (A6 b) name s/\AU O b D F Ft/\A4 Aa w O):=⟨E,aD,aE⟩;have aF:=A1 hK
  all_goals dsimp only
  all_goals try go_simp
  all_goals try with_reducible exact aF.o _ _ _ rfl (by simp[Act.put,Y]) (A4.C _ _) L.o
  all_goals try
   (have aH:y 3=(A6 b):=by with_reducible exact Y.1);refine(aG.o O L.o.2.1).mono ?_;rintro e w2⟨rfl,rfl⟩;exact aF.o _ _ _ rfl (by simp[Act.put,Y]) (A4.C _ _) L.o
 ·intro y O hS X;have aL:=X 11 (by omega);have aJ:=X 12 (by omega);have L:=A1 hS;rcases aB with⟨rfl,aB⟩|⟨rfl,aB⟩
  ·(have aO:∀w',AU w' b D F Ft->Ag 82 #[A6 b,.string name,A0 0,A0 d] w' λe W=>e=.returned (.tuple #[.string ⟨rs.toArray⟩,A0 re])/\w'=W:=by rw[<-aB.o.1,<-aB.o.2];exact aP.o);have aK:=A1 aO;go_wp2;refine Hl 13 (λz=>{tmps:=#[A6 fb,undef,z 12,A0 0,A0 d,A0 0,y 9,y 0,y 1,y 2,y 3,y 4,y 5,y 6,y 7,y 8,y 10,A0 0,A0 0,.bool false,undef,z 0,z 1,z 2,z 3,z 4,z 5,z 6,z 7,z 8,z 9,z 10,z 11],defers:=[]}) (λj=>if j=12 then .string ⟨#[]⟩ else undef)
    (λw'=>Bg w' fb T (A6 b) name s/\AU w' b D F Ft/\A4 Aa w w') (A4 Aa)
    (λj x w'=>match j with
     | 0=>x=(A6 fb)
     | 1=>x=(A6 fb)
     | 2=>x=(A6 fb)
     | 3=>x=(A6 b)
     | 4=>x=(A6 fb)
     | 5=>x=(A6 fb)
     | 6=>x=.pointer (some (A9 fb 1))
     | 7=>x=.string name
     | 8=>x=A0 d
     | 9=>x=.tuple #[.string ⟨rs.toArray⟩,A0 re]
     | 10=>x=.string ⟨rs.toArray⟩
     | 11=>x=A0 re
     | 12=>x=.string ⟨rs.toArray⟩
     | _=>True)
    (by kernel_rfl) (by kernel_rfl) rfl ?_ ?_ ?_ ?_
   ·exact⟨L.o.1,L.o.2.1.aa,L.o.2.2.aa⟩
   ·intro j x w1 w2 hR aM X;split at X<;>exact X
   ·clear L aL aJ;simp only[Fs,Fe,FY,HR]
    repeat' (with_reducible apply And.intro)
    all_goals refine⟨?_,(by intro y O _ _ h;exact Bool.noConfusion h),λy x=>rfl⟩
    all_goals
     intro z O hS Y hw K hK;obtain⟨E,aD,aE⟩:=hS;simp[Gt,Region.binds,Fu,List.filter_cons]at Y;have c0:=E.c0;have c1:=E.c1;have L:Hid (Bg O fb T (A6 b) name s/\AU O b D F Ft/\A4 Aa w O):=⟨E,aD,aE⟩;have aF:=A1 hK
    all_goals dsimp only
    all_goals try go_simp
    all_goals try with_reducible exact aF.o _ _ _ rfl (by simp[Act.put,Y]) (A4.C _ _) L.o
    all_goals try
     (have aH:z 3=(A6 b):=by with_reducible exact Y.1);refine(aK.o O L.o.2.1).mono ?_;rintro e w2⟨rfl,rfl⟩;exact aF.o _ _ _ rfl (by simp[Act.put,Y]) (A4.C _ _) L.o
   ·intro z wz hZ X;have z11:=X 11 (by omega);have z12:=X 12 (by omega);have aS:=A1 hZ;go_wp2;go_ret2;exact⟨rfl,aS.o.2.2⟩
  ·go_wp2;go_ret2;rw[aB.o.1,aB.o.2];exact⟨rfl,L.o.2.2⟩
end
def A4.fQ{S:Nat->Prop}{w:World}(k:Nat)(os:Array Obj):A4 S w (Go.Sort.grow (w.drewN k) os):=
 ⟨rfl,rfl,rfl,(by show w.heap.size<=(w.heap++os).size;simp),λj d _=>(by show (w.heap++os)[j]?=_;rw[Array.getElem?_append_left d])⟩
def Em(lt:List UInt8)(n:Int):List UInt8:=lt++Lib.repeatL [48] (19-(Lib.itoa n).length)++Lib.itoa n
def D7(s:Int):List UInt8:=if s=1 then [108] else if s=2 then [115] else if s=3 then [105] else if s=4 then [100] else []
def BN(s n:Int):List UInt8:=if s=1\/s=2 then Em (D7 s) n else D7 s
def Om(w:World)(s:Int):Ag 133 #[A0 s] w (Aj (.bool (decide (s=1\/s=2))) λw'=>w=w'):=by
 go_enter func133,ntmps133
 by_cases h:s=1
 ·subst h;go_wp2;go_ret;exact⟨rfl,rfl⟩
 ·by_cases d:s=2
  ·subst d;go_wp2;go_ret;exact⟨rfl,rfl⟩
  ·go_wp2;go_ret;exact⟨by simp[h,d],rfl⟩
def Zu(w:World)(s:Int)(k:Nat)(hs:s=k/\(k=1\/k=2))(lt:List UInt8)(n:Int)(hn : -9223372036854775808<=n/\n<=9223372036854775807)(hlt:lt.length<=1000)(X:(Lib.itoa n).length<=19)(hl:A8 w 0 k (.string ⟨lt.toArray⟩))(L:Lib.TabIs Tryz.prog w "internal/strconv.uint64pow10" .u64 Lib.pow10Tab):
 Ag 134 #[A0 s,A0 n] w (Aj (.string ⟨(Em lt n).toArray⟩) λw'=>A4 Aa w w'):=by
 obtain⟨rfl,hk⟩:=hs;obtain⟨aI,aN⟩:=hn;have aA:(k:Int)<5:=by omega
 have W:(k:Int)=1\/(k:Int)=2:=by omega
 have aH:decide ((k:Int)=1\/(k:Int)=2)=true:=Ct W;have aK:=A1 (Tryz.strconv_Itoa n aI aN w L);have aS:∀w',_:=λw'=>Tryz.strings_Repeat ⟨#[48]⟩ (19-(Lib.itoa n).length) w' (by omega) (by show 1*_<=_;omega);have I:=A1 aS;have E:Hid (Em lt n=lt++Lib.repeatL [48] (19-(Lib.itoa n).length)++Lib.itoa n):=rfl;have z:=Lib.repeatL_length [48] (19-(Lib.itoa n).length);generalize aJ:Lib.itoa n=dg at aK X I E z;clear aS aJ L;obtain⟨c,hc,hcl⟩:∃c:Nat,19-dg.length=c/\dg.length+c=19:=⟨_,rfl,by omega⟩;rw[hc]at I E z;clear hc;obtain⟨d,O⟩:∃d,Lib.repeatL [48] c=d:=⟨_,rfl⟩;have aE:Hid (∀w':World,Ag 174 #[.string ⟨#[48]⟩,A0 (c:Int)] w' λe aM=>e=.returned (.string ⟨d.toArray⟩)/\Below w'.heap.size w' aM):=by
  rw[<-O];exact I.o
 rw[O]at E z;clear O I;have hrl2:d.length<=19:=by rw[z];simp;omega
 clear z;generalize aB:Em lt n=nm at E ⊢;have aP:=A1 hl;clear aB hl
 go_enter func134,ntmps134
 go_wp2_with (fail);refine(Om w k).mono ?_;rintro e w0⟨rfl,rfl⟩;rw[aH];have HK1:=A1 hk;have HK2:=A1 W;have aO:=A1 aA;clear hk W aA aH;go_wp2_with (go_at_call 173;refine aK.m ?_;rintro e w1⟨rfl,hw⟩;have aR:=A1 hw;clear hw);have aD:Hid (A4 Aa w w1):=by
  obtain⟨k,os,he⟩:=aR.o;rw[he];exact A4.fQ k os
 have aG:=A1 (aD.o.ag aP.o);clear aR aK aP;refine Hl 10 (λy=>{tmps:=#[A0 k,A0 n,undef,undef,.string ⟨#[]⟩,.string ⟨dg.toArray⟩,A0 k,.bool true,.bool false,undef,undef,undef,A0 n,.string ⟨dg.toArray⟩,y 0,y 1,y 2,y 3,y 4,y 5,y 6,y 7,y 8,y 9],defers:=[]}) (λ_=>undef)
  (λw'=>A8 w' 0 k (.string ⟨lt.toArray⟩)/\A4 Aa w1 w') (A4 Aa)
  (λj x w'=>match j with
   | 0=>x=A0 k
   | 1=>x=.pointer (some (A9 0 k))
   | 2=>x=.string ⟨lt.toArray⟩
   | 3=>x=.string ⟨dg.toArray⟩
   | 4=>x=A0 dg.length
   | 5=>x=A0 (c:Int)
   | 6=>x=.string ⟨d.toArray⟩
   | 7=>x=.string ⟨(lt++d).toArray⟩
   | 8=>x=.string ⟨dg.toArray⟩
   | 9=>x=.string ⟨nm.toArray⟩
   | _=>True)
  (by kernel_rfl) (by kernel_rfl) rfl ?_ ?_ ?_ ?_
 ·exact⟨aG.o,(A4.C _ _).aa⟩
 ·intro j x w1 w2 hR hS' hG;split at hG<;>exact hG
 ·clear aG;simp only[Fs,Fe,FY,HR]
  repeat' (with_reducible apply And.intro)
  all_goals refine⟨?_,(by intro y Y _ _ h;exact Bool.noConfusion h),λy x=>rfl⟩
  all_goals
   intro y Y hS X hw K hK;obtain⟨c0,aL⟩:=hS;simp[Gt,Region.binds,Fu,List.filter_cons]at X;have hk5:=aO.o;have hk0:=BR k;have ap1:=JQ lt d;(have g1:¬(9223372036854775807<lt.length+d.length):=by omega);(have g2:¬(9223372036854775807<lt.length+d.length+dg.length):=by omega);(have g3:¬(9223372036854775807<lt.length+(d.length+dg.length)):=by omega);(have ap2:(ByteArray.mk (lt++d).toArray)++(ByteArray.mk dg.toArray)=⟨nm.toArray⟩:=by rw[JQ,E.o]);(have ew:IntKind.i64.wrap (c:Int)=c:=by simp[IntKind.wrap,IntKind.bits,IntKind.signed];omega);(have ew2:(19:Int)-(dg.length:Int)=(c:Int):=by omega);have aF:Hid (A8 Y 0 k (.string ⟨lt.toArray⟩)/\A4 Aa w1 Y):=⟨c0,aL⟩;have aQ:=A1 hK
  all_goals dsimp only
  all_goals try go_simp
  all_goals try with_reducible exact aQ.o _ _ _ rfl (by simp[Act.put,X]) (A4.C _ _) aF.o
  all_goals try
   (have hd5:y 5=A0 (c:Int):=by with_reducible exact X);refine(aE.o Y).mono ?_;rintro e w2⟨rfl,hb⟩;have hc:A4 Aa Y w2:=A4.cP hb;exact aQ.o _ _ _ rfl (by simp[Act.put,X]) hc ⟨hc.ag aF.o.1,aF.o.2.tr hc⟩
 ·intro y Y hS hG;have h9:y 9=.string ⟨nm.toArray⟩:=hG 9 (by omega);have aF:=A1 hS;go_wp2;go_ret;exact⟨rfl,aD.o.tr aF.o.2⟩
def Sn(w:World)(k:Nat)(hk:k=3\/k=4)(lt:List UInt8)(n:Int)(hl:A8 w 0 k (.string ⟨lt.toArray⟩)):
 Ag 134 #[A0 k,A0 n] w (Aj (.string ⟨lt.toArray⟩) λw'=>w=w'):=by
 have hk1:(k:Int)<5:=by omega
 have hk0:=BR k;have d:decide ((k:Int)=1\/(k:Int)=2)=false:=Cu (by omega)
 go_enter func134,ntmps134
 go_wp2_with (fail);refine(Om w k).mono ?_;rintro e w0⟨rfl,rfl⟩;rw[d];go_wp2;go_ret;exact⟨rfl,rfl⟩
def Hw.aY{w d w':World}{b o:Nat}{cs:Array Value}{T:Nat}{lv lv':Value}{z:List Pt}(h:Hw d w' b o cs T lv z lv')(E:A4 Aa w d):Hw w w' b o cs T lv z lv':=
 ⟨h.Bp,(E.ad λ_ _ h=>h.elim).tr h.An,λg I=>(h.AE g I).imp id λh=>AQ E.Al h⟩
def A0i(w:World)(O d:Nat)(cs:Array Value)(T:Nat)(hT:T≠70)(A7 life t v:Int)(L:List Pt)(lv:Value)(hsr:d<8)(h:He w O (7+d) cs T L lv)(aG:L.length<1099511627775)(h3:cs[3]?=some (A0 life))(h4:cs[5]?=some (A0 A7))(hl:1<=life/\life<=4611686018427387904)(hc:Ax A7):
 Ag 60 #[A6 O,.agg #[A0 d,A0 t,A0 v]] w (Aj (.tuple #[]) λw'=>
  ((AT A7 life<=t/\∃lv',Hw w w' O (7+d) cs T lv (C2 L t v) lv')\/(t<AT A7 life/\A4 Aa w w'))):=by
 have c3:A8 w O 3 (A0 life):=by simp[A8,World.cell?,h.Af,h3]
 have c4:A8 w O 5 (A0 A7):=by simp[A8,World.cell?,h.Af,h4]
 have aI:∀w',A4 Aa w w'->_:=λw' W=>O0 w' O A7 life (W.ag c3) (W.ag c4) hl hc;generalize ho:AT A7 life=o at aI ⊢;have aK:∀w',A4 Aa w w'->_:=λw' W=>Yr w' O (7+d) cs T hT L lv t v (h.An W) aG;have aA:=A1 aI;have aB:=A1 aK
 go_enter func60,ntmps60
 go_wp2;have hb:(w.alloc (.cells #[A0 d,A0 t,A0 v] 113)).heap[w.heap.size]?=some (.cells #[A0 d,A0 t,A0 v] 113 (0,0)):=by show (w.heap.push _)[w.heap.size]?=_;rw[IG]
 have I:Hid ((w.alloc (.cells #[A0 d,A0 t,A0 v] 113)).heap[w.heap.size]?=some (.cells #[A0 d,A0 t,A0 v] 113 (0,0))/\A4 Aa w (w.alloc (.cells #[A0 d,A0 t,A0 v] 113))):=⟨hb,(A4.C _ w).ah _⟩;generalize (w.alloc (.cells #[A0 d,A0 t,A0 v] 113))=w1 at I ⊢;refine Hl 5 (λy=>{tmps:=#[A6 O,.agg #[A0 d,A0 t,A0 v],undef,A6 w.heap.size,y 0,y 1,y 2,y 3,y 4,undef,undef,undef,undef,undef,undef,undef,undef,undef,undef],defers:=[]}) (λ_=>undef)
  (λw'=>w'.heap[w.heap.size]?=some (.cells #[A0 d,A0 t,A0 v] 113 (0,0))/\A4 Aa w w') (A4 Aa)
  (λj x w'=>match j with
   | 0=>x=.pointer (some (A9 w.heap.size 1))
   | 1=>x=.pointer (some (A9 w.heap.size 1))
   | 2=>x=A0 t
   | 3=>x=(A6 O)
   | 4=>x=A0 o
   | _=>True)
  (by kernel_rfl) (by kernel_rfl) rfl ?_ ?_ ?_ ?_
 ·exact⟨I.o.1,I.o.2.aa⟩
 ·intro j x w1 w2 hR hS' hG;split at hG<;>exact hG
 ·clear I;simp only[Fs,Fe,FY,HR]
  repeat' (with_reducible apply And.intro)
  all_goals refine⟨?_,(by intro y z _ _ h;exact Bool.noConfusion h),λy x=>rfl⟩
  all_goals
   intro y z X hd hw K hK;obtain⟨Y,aF⟩:=X;simp[Gt,Region.binds,Fu,List.filter_cons]at hd;(have p1:A8 z w.heap.size 1 (A0 t):=by simp[A8,World.cell?,Y]);have E:Hid (z.heap[w.heap.size]?=some (.cells #[A0 d,A0 t,A0 v] 113 (0,0))/\A4 Aa w z):=⟨Y,aF⟩;have aJ:=A1 hK
  all_goals dsimp only
  all_goals try go_simp
  all_goals try with_reducible exact aJ.o _ _ _ rfl (by simp[Act.put,hd]) (A4.C _ _) E.o
  all_goals
   refine(aA.o z E.o.2).mono ?_;rintro e w2⟨rfl,W⟩;exact aJ.o _ _ _ rfl (by simp[Act.put,hd]) W ⟨W.ai E.o.1 (by simp),E.o.2.tr W⟩
 ·intro y z X hG;have h2:y 2=A0 t:=hG 2 (by omega);have h4:y 4=A0 o:=hG 4 (by omega);have p0:A8 z w.heap.size 0 (A0 d):=by simp[A8,World.cell?,X.1]
  have p1:A8 z w.heap.size 1 (A0 t):=by simp[A8,World.cell?,X.1]
  have p2:A8 z w.heap.size 2 (A0 v):=by simp[A8,World.cell?,X.1]
  have E:=A1 X;have hsrI:(d:Int)<8:=by omega
  by_cases aD:o<=t
  ·go_wp2;refine Fw (λw'=>A8 w' w.heap.size 0 (A0 d)/\A8 w' w.heap.size 1 (A0 t)/\A8 w' w.heap.size 2 (A0 v)) 8
    (Bb [0,1,2,3,4,5,6,7] []) (by kernel_rfl) (by kernel_rfl) (λ_ _ _ _ _ h=>h) ⟨p0,p1,p2⟩ ?_
   iterate 8 (refine DM (v:=?_) rfl (by rfl) ?_ ?_;rotate_left;(· (intro w' X;(try dsimp only at X);go_simp;try with_reducible rfl));(try simp only[Ak]))
   refine B4 ?_;simp only[Du,Db];have aH:=A1 (aB.o z.drew E.o.2.aa);go_wp2_with (go_at_call 102;refine aH.m ?_;rintro e w2⟨rfl,lv',hR⟩;have aE:=A1 hR);go_end0
   first|exact⟨rfl,lv',aE.o.before E.o.2.drew⟩|exact⟨rfl,.inl ⟨lv',aE.o.before E.o.2.drew⟩⟩|exact⟨rfl,.inl ⟨aD,lv',aE.o.aY E.o.2.aa⟩⟩
  ·(have hlt:t<o:=by omega);go_wp2;go_end0;exact⟨rfl,.inr E.o.2⟩
end
abbrev Tryz.fT:Go.Conc.Locks.MuLink:={lock:=61,unlock:=62,ilock:=103,iunlock:=104,lockSlow:=144,unlockSlow:=147,disable:=140,enable:=142,acquire:=143,relMerge:=145,cas32:=141,add32:=146,tMutex:=106,tIMutex:=104,tPMutex:=167,tPIMutex:=213,tPI32:=215,tUP:=217,tNoCopy:=101,tU32:=102}
def Tryz.bc:Go.Conc.Locks.MuLib Tryz.prog Tryz.fT:=
 ⟨func61,func62,func103,func104,func140,func142,func143,func145,func141,func146,
  underlying104,Tryz.runUnderlying104,sizeOf104,isAgg104,zeroValue104,
  underlying106,Tryz.runUnderlying106,sizeOf106,isAgg106,zeroValue106,
  underlying167,Tryz.runUnderlying167,sizeOf167,isAgg167,zeroValue167,
  underlying213,Tryz.runUnderlying213,sizeOf213,isAgg213,zeroValue213,
  underlying215,Tryz.runUnderlying215,sizeOf215,isAgg215,zeroValue215,
  underlying217,Tryz.runUnderlying217,sizeOf217,isAgg217,zeroValue217,
  underlying101,Tryz.runUnderlying101,sizeOf101,isAgg101,zeroValue101,
  underlying21,Tryz.runUnderlying21,sizeOf21,isAgg21,zeroValue21,(by kernel_rfl)⟩
end Go.Proofs.YtodcnkbblippnaaGreatDoor
