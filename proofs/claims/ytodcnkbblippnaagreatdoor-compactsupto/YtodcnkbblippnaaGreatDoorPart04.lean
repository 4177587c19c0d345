/- Part 4 of a proof: walks of the program. -/
import Derived.Test.YtodcnkbblippnaaGreatDoorShelf
import Derived.Lib.ItoaLen
import Derived.Test.YtodcnkbblippnaaGreatDoorProg
import Derived.Conc.RwLib
import Derived.KernelRfl
import Derived.Test.YtodcnkbblippnaaGreatDoorPart03
namespace Go.Proofs.YtodcnkbblippnaaGreatDoor
set_option maxRecDepth 100000
set_option maxHeartbeats 32000000
set_option linter.defProp false
open Go.Proofs.Tryz
section
open Go.RowKit
attribute [local go_sem ↓] Go.wp_at_zero Go.wp_at_succ
def G9:gD Nat->gD Nat->Nat->Nat
 | x::xs,y::ys,f=>if x=f then y else G9 xs ys f
 | _,_,_=>0
def L8:∀(xs ys:gD Nat) (i f m:Nat),xs.Nodup->xs[i]?=some f->ys[i]?=some m->G9 xs ys f=m
 | [],_,i,_,_,_,h,_=>by simp at h
 | x::xs,[],i,_,_,_,_,h=>by simp at h
 | x::xs,y::ys,0,f,m,_,h1,h2=>by
  simp only[List.getElem?_cons_zero,Option.some.injEq]at h1 h2;subst h1;subst h2;simp[G9]
 | x::xs,y::ys,i+1,f,m,hn,h1,h2=>by
  simp only[A4G]at h1 h2;have d:x≠f:=λe=>by subst e;exact(JR.1 hn).1 (LZ h1)
  simp only[G9,d,Cd];exact L8 xs ys i f m (JR.1 hn).2 h1 h2
def ren(r:Nat->Nat)(es:gD AO):gD AO:=es.map λe=>(e.1,r e.2)
def DS.ren(r:Nat->Nat)(D:DS):DS:={A6:=Go.Proofs.YtodcnkbblippnaaGreatDoor.ren r D.A6,AF:=Go.Proofs.YtodcnkbblippnaaGreatDoor.ren r D.AF,As:=D.As.map (Go.Proofs.YtodcnkbblippnaaGreatDoor.ren r),n:=D.n}
def Ren.eq{L M:gD Nat}{es d:gD AO}(h:Ren L M es d)(I:L.Nodup):d=ren (G9 L M) es:=by
 apply List.ext_getElem
 ·simp[ren,h.1]
 ·intro k z h2;have E:k<es.length:=by rw[<-h.1];exact z
  have⟨q1,i,q2,q3⟩:=h.2 k E z;simp only[ren,List.getElem_map];rw[L8 L M i _ _ I q2 q3];exact Prod.ext q1 rfl
def CS.cz{N:Nat}{w:gx}{W L:Nat}{F:Nat->FC}{oe I:gD Nat}{O X:gy}{E:Nat->gy}(h:CS N w W L F oe I O X E){k:Nat}(d:CB W L O X I E k\/k∈oe):∃c e,w.heap[k]?=some (.cells c e (0,0))/\e≠125/\e≠120/\e≠95:=by
 have hl:=h.b6;rcases d with (rfl|rfl|d|d|d|⟨m,Y,d⟩)|d
 ·exact⟨_,_,h.ob,by decide⟩
 ·exact⟨_,_,h.mb,by decide⟩
 ·have⟨c,hc⟩:=Bb h.ol d;exact⟨c,_,hc,by decide⟩
 ·have⟨c,hc⟩:=Bb h.ml d;exact⟨c,_,hc,by decide⟩
 ·obtain⟨i,z,rfl⟩:=DG d;exact⟨_,_,(h.BN i z (by omega)).1,by decide⟩
 ·obtain⟨i,z,rfl⟩:=DG Y;have⟨c,hc⟩:=Bb (h.BN i z (by omega)).2 d;exact⟨c,_,hc,by decide⟩
 ·have⟨c,hc⟩:=(h.IG k d).2;exact⟨c,_,hc,by decide⟩
def CS.ca{N:Nat}{w:gx}{L z:Nat}{F:Nat->FC}{oe W:gD Nat}{E I:gy}{O:Nat->gy}(h:CS N w L z F oe W E I O){k e:Nat}{c:Array gy}(X:w.heap[k]?=some (.cells c e (0,0)))(Y:e=125\/e=120\/e=95):¬CF L z E I k:=by
 intro hc;have d:CB L z E I W O k:=by
  rcases hc with h|h|h|h
  ·exact .inl h
  ·exact .inr (.inl h)
  ·exact .inr (.inr (.inl h))
  ·exact .inr (.inr (.inr (.inl h)))
 have⟨c',e',h1,h2,h3,h4⟩:=h.cz (.inl d);rw[X]at h1;cases h1;rcases Y with e|e|e<;>simp_all
def Jh(l:gD (gD AO)):Nat:=(l.map List.length).sum
def XD(l:gD (gD AO))(i:Nat)(h:i<l.length):Jh (l.take (i+1))=Jh (l.take i)+(l[i]'h).length:=by
 unfold Jh;rw[Dq h,EG,List.sum_append];simp
structure CR (N:Nat) (w wr:gx) (b2 bo bm:Nat) (D:DS) (F:Nat->FC) (i:Nat) (L M:gD Nat) (vo vm v1 v2 vc:gy) (VB:Nat->gy) (vals:gD gy) (e1 e2:gD AO) (cs:gD (gD AO)):Prop where
 H8:CS N wr bo bm F L M vo vm VB
 Ae:AM wr b2 v1 v2 vc D.n
 d1:Dd wr v1 e1
 d2:Dd wr v2 e2
 r1:Ren L M D.A6 e1
 r2:Ren L M D.AF e2
 ch:wr.ownsRow 0 120 1 vc i vals
 cl:cs.length=i
 Di:∀k (h:k<cs.length),∃v,vals[k]?=some v/\Dd wr v (cs[k]'h)
 PZ:∀k (h:k<cs.length) (h':k<D.As.length),Ren L M (D.As[k]' h') (cs[k]'h)
 Il:L.length<=D.A6.length+D.AF.length+Jh (D.As.take i)
 TR:∀f∈L,D.Aq f
 Am:A4 (λ_=>False) w wr
 nb:N<=b2
 Te:∀g,v1.ownBlock=some g->N<=g
 Td:∀g,v2.ownBlock=some g->N<=g
 ON:∀g,vc.ownBlock=some g->N<=g
 Tc:∀v∈vals,∀g,v.ownBlock=some g->N<=g
def CR.ba{w wr aW w2 w3:gx}{b2 bo bm:Nat}{D:DS}{F:Nat->FC}{i nq:Nat}{L M aU aS:gD Nat}{vo vm v1 v2 vc aK aN v:gy}{aV aL:Nat->gy}{O:gD gy}{e1 e2 Y:gD AO}{cs:gD (gD AO)}{a3:Option Addr}{c3:Nat}(h:CR w.heap.size w wr b2 bo bm D F i L M vo vm v1 v2 vc aV O e1 e2 cs)(hi:i<D.As.length){es:gD AO}(aT:D.As[i]'hi=es)(hW:A4 (λ_=>False) wr aW)(I:EP w.heap.size aW bo bm F L M vo vm aV es es.length es.length v w2 aU aS aK aN aL Y)(hA:App ((w2.drewN nq).alloc (.cells #[v] 120)) w3 120 1 vc (.slice a3 (i+1) c3) (i+1) (O++[v])):
 CR w.heap.size w (w3.setCell ⟨b2,2,none⟩ (.slice a3 (i+1) c3)) b2 bo bm D F (i+1) aU aS aK aN v1 v2 (.slice a3 (i+1) c3) aL (O++[v]) e1 e2 (cs++[Y]):=by
 subst aT;have aB:=h.H8.Am hW (λ_ _ h=>h) (λ_ _ h=>h);have aH:∀(k:Nat) (c:Array gy) (e:Nat),wr.heap[k]?=some (Obj.cells c e (0,0))->(e=125\/e=120\/e=95)->w2.heap[k]?=some (Obj.cells c e (0,0)):=λk c e d he=>by
  have X:=(hW.Al k (By d) (λh=>h)).trans d;exact(I.Am.Al k (By X) (aB.ca X he)).trans X
 have aA:∀(k:Nat) (c:Array gy) (e:Nat),w2.heap[k]?=some (Obj.cells c e (0,0))->e≠120->w3.heap[k]?=some (Obj.cells c e (0,0)):=λk c e d he=>by
  have X:((w2.drewN nq).alloc (.cells #[v] 120)).heap[k]?=some (Obj.cells c e (0,0)):=(CY _ _ _ (by simpa using By d)).trans d;refine(hA.C7.block k (By X) (λe2=>?_)).trans X;have⟨c',hh⟩:=Bb h.ch e2.symm;have:=aH _ _ _ hh (.inr (.inl rfl));rw[d]at this;cases this;exact he rfl
 have aM:AM w3 b2 v1 v2 vc D.n:=aA _ _ _ (aH _ _ _ h.Ae (.inr (.inr rfl))) (by decide);have aO:=aM.s2 (.slice a3 (i+1) c3);have aE:A4 (One b2) w3 (w3.setCell ⟨b2,2,none⟩ (.slice a3 (i+1) c3)):=(A4.C (One b2) w3).ao rfl 2 _;generalize hW4:w3.setCell ⟨b2,2,none⟩ (.slice a3 (i+1) c3)=W4 at aO aE ⊢;have E:∀(k:Nat) (c:Array gy) (e:Nat),w3.heap[k]?=some (Obj.cells c e (0,0))->e≠95->W4.heap[k]?=some (Obj.cells c e (0,0)):=λk c e d he=>
  (aE.Al k (By d) (λe2=>BR d aM he e2)).trans d
 have kE:∀(k:Nat) (c:Array gy),wr.heap[k]?=some (Obj.cells c 125 (0,0))->W4.heap[k]?=wr.heap[k]?:=λk c d=>
  (E _ _ _ (aA _ _ _ (aH _ _ _ d (.inl rfl)) (by decide)) (by decide)).trans d.symm
 have aR:∀(k:Nat) (c:Array gy),w2.heap[k]?=some (Obj.cells c 125 (0,0))->W4.heap[k]?=w2.heap[k]?:=λk c d=>
  (E _ _ _ (aA _ _ _ d (by decide)) (by decide)).trans d.symm
 have aD:∀ {v:gy} {es:gD AO},Dd wr v es->Dd W4 v es:=λhe=>Au he λg W=>by
  have⟨c,hh⟩:=Bb he W;exact kE _ _ hh
 have aQ:Dd W4 v Y:=Au I.Ff λg W=>by
  have⟨c,hh⟩:=Bb I.Ff W;exact aR _ _ hh
 have aF:∀ {es aJ:gD AO},Ren L M es aJ->Ren aU aS es aJ:=λhr=>by
  have⟨o,q1,_⟩:=I.H3;have⟨o2,q2,_⟩:=I.Ke;rw[q1,q2];exact hr.ai
 have hsz1:=h.Am.Ak;have hsz2:=hW.Ak;have aG:O.length=i:=by simpa using h.ch.1
 refine⟨?_,aO,aD h.d1,aD h.d2,aF h.r1,aF h.r2,?_,by simp[h.cl],?_,?_,?_,?_,?_,h.nb,h.Te,h.Td,?_,?_⟩
 ·refine I.cs.aM (λk d=>?_) (λk d=>?_)
  ·have⟨c,e,X,h2,h3,h4⟩:=I.cs.cz (.inl d);exact(E _ _ _ (aA _ _ _ X h3) h4).trans X.symm
  ·have⟨c,e,X,h2,h3,h4⟩:=I.cs.cz (.inr d);exact(E _ _ _ (aA _ _ _ X h3) h4).trans X.symm
 ·exact Au hA.AB λg W=>by
   have⟨c,hh⟩:=Bb hA.AB W;exact(E _ _ _ hh (by decide)).trans hh.symm
 ·intro k d;by_cases z:k<cs.length
  ·have⟨u,q1,q2⟩:=h.Di k z;refine⟨u,?_,?_⟩
   ·rw[Jb (by rw[aG,<-h.cl];exact z)];exact q1
   ·simp only[Fs z];exact aD q2
  ·(obtain rfl:k=cs.length:=by simp at d;omega);refine⟨v,?_,?_⟩
   ·rw[I7 (by rw[aG,h.cl];omega),aG,h.cl];simp
   ·simpa using aQ
 ·intro k d aP;by_cases z:k<cs.length
  ·simp only[Fs z];exact aF (h.PZ k z aP)
  ·(obtain rfl:k=cs.length:=by simp at d;omega);have aI:=h.cl;have:=I.ren;rw[C5]at this;simp only[aI];(have e1:(cs++[Y])[i]'(by simp[aI])=Y:=by simp[<-aI]);rw[e1];exact this
 ·have⟨o,q1,q2,_⟩:=I.H3;have:=h.Il;rw[XD _ _ hi,q1,B3];omega
 ·intro f hf;have⟨o,q1,_,q3⟩:=I.H3;rw[q1]at hf;rcases AX.1 hf with hf|hf
  ·exact h.TR f hf
  ·exact .inr (.inr ⟨_,BV hi,q3 f hf⟩)
 ·have c1:=h.Am.tr hW
  have c2:=c1.AH I.Am (λx hx z=>by
   rcases hx with rfl|rfl|hx|hx
   ·have:=aB.IJ;omega
   ·have:=aB.Js;omega
   ·have:=aB.Jp x hx;omega
   ·have:=aB.Jq x hx;omega)
  have c3:=((c2.a7 nq).aj (.cells #[v] 120)).C7 hA.C7 (λk d z=>by have:=h.ON k d;omega);exact c3.AH aE (λx hx z=>by have:=h.nb;have:x=b2:=hx;omega)
 ·intro g W;rcases hA.BY with e|e
  ·rw[e]at W;exact h.ON g W
  ·rw[e]at W;cases W;have:=I.Am.Ak;simp;omega
 ·intro u hu g W;rcases AX.1 hu with hu|hu
  ·exact h.Tc u hu g W
  ·simp at hu;subst hu;have:=I.AV g W;omega
def ZC{w W:gx}{b bo bm:Nat}{D:DS}{F:Nat->FC}{vd vs vc vo vm vl:gy}{aB:gD gy}{aG I:Nat->gy}{L M:gD Nat}{es:gD AO}(hr:C9 w b D F vd vs vc aB aG)(hc:A4 (λ_=>False) w W)(aD:CS w.heap.size W bo bm F L M vo vm I)(X:Dd w vl es)(d:∀f,Dp f es->D.Aq f)(hF:∀f,D.Aq f->(F f).1.length<=1099511627776)(hn:es.length<1099511627776/\L.length<1099511627776):
 Calls Tryz.prog 87 #[vl,.pointer (some ⟨bo,0,none⟩),.pointer (some ⟨bm,0,none⟩)] W λe w'=>∃v aF aE O z aA Y,e=.returned v/\EP w.heap.size W bo bm F L M vo vm I es es.length es.length v w' aF aE O z aA Y:=by
 have hb:∀k,k<w.heap.size->W.heap[k]?=w.heap[k]?:=λk hk=>hc.Al k hk (λh=>h);refine(ZD w.heap.size W bo bm F L M vo vm I aD es vl (Au X λg E=>hb g (Aw X E)) (λg E=>Aw X E) hn λf hf=>?_).mono ?_
 ·have⟨h1,h2⟩:=hr.BN f (d f hf);refine⟨By h1,hF f (d f hf),aG f,(hb f (By h1)).trans h1,Au h2 λg E=>hb g (Aw h2 E),λg E=>Aw h2 E⟩
 ·rintro e w'⟨v,rfl,aF,aE,O,z,aA,Y,h⟩;exact⟨v,aF,aE,O,z,aA,Y,rfl,h⟩
def EP.cI{w W w':gx}{bo bm:Nat}{F:Nat->FC}{oe Y aB aA:gD Nat}{vo vm v I E:gy}{X O:Nat->gy}{es L:gD AO}{i cn:Nat}(h:EP w.heap.size W bo bm F oe Y vo vm X es i cn v w' aB aA I E O L)(hc:A4 (λ_=>False) w W)(d:CS w.heap.size W bo bm F oe Y vo vm X):A4 (λ_=>False) w w':=
 hc.AH h.Am (λx z hlt=>by
  rcases z with rfl|rfl|z|z
  ·have:=d.IJ;omega
  ·have:=d.Js;omega
  ·have:=d.Jp x z;omega
  ·have:=d.Jq x z;omega)
def Pn{r:Nat->Nat}{es:gD AO}{E:Nat}(h:Dp E (ren r es)):∃f,Dp f es/\r f=E:=by
 obtain⟨e,I,rfl⟩:=h;obtain⟨z,d,rfl⟩:=Cl.1 I;exact⟨z.2,⟨z,d,rfl⟩,rfl⟩
def DS.cZ{r:Nat->Nat}{D:DS}{z:Nat}(h:(D.ren r).Aq z):∃f,D.Aq f/\r f=z:=by
 rcases h with h|h|⟨c,E,h⟩
 ·have⟨f,h1,h2⟩:=Pn h;exact⟨f,.inl h1,h2⟩
 ·have⟨f,h1,h2⟩:=Pn h;exact⟨f,.inr (.inl h1),h2⟩
 ·obtain⟨c0,d,rfl⟩:=Cl.1 E;have⟨f,h1,h2⟩:=Pn h;exact⟨f,.inr (.inr ⟨c0,d,h1⟩),h2⟩
def Ren.Aq{L M:gD Nat}{es d:gD AO}(h:Ren L M es d){f:Nat}(E:Dp f es):∃(i:Nat) (m:Nat),L[i]?=some f/\M[i]?=some m:=by
 obtain⟨e,I,rfl⟩:=E;obtain⟨k,z,rfl⟩:=DG I;have⟨_,i,h1,h2⟩:=h.2 k z (by rw[h.1];exact z);exact⟨i,_,h1,h2⟩
def CR.fs{w wr:gx}{b2 bo bm:Nat}{D:DS}{F:Nat->FC}{L M:gD Nat}{vo vm v1 v2 vc:gy}{aD:Nat->gy}{W:gD gy}{e1 e2:gD AO}{cs:gD (gD AO)}(h:CR w.heap.size w wr b2 bo bm D F D.As.length L M vo vm v1 v2 vc aD W e1 e2 cs):
 ∃r aE aB,Dj wr b2 (D.ren r) aE aB/\(∀k,aB k->w.heap.size<=k/\k<wr.heap.size)/\A4 (λ_=>False) w wr/\(∀f,D.Aq f->aE (r f)=F f)/\∀f d,D.Aq f->D.Aq d->r f=r d->f=d:=by
 have q1:=h.r1.eq h.H8.IH;have q2:=h.r2.eq h.H8.IH;have q3:cs=D.As.map (ren (G9 L M)):=by
  apply List.ext_getElem
  ·simp[h.cl]
  ·intro k h1 h2;rw[List.getElem_map];exact(h.PZ k h1 (by simpa using h2)).eq h.H8.IH
 have Y:∀f,D.Aq f->∃(i:Nat) (m:Nat),L[i]?=some f/\M[i]?=some m:=by
  rintro f (I|I|⟨c,hc,I⟩)
  ·exact h.r1.Aq I
  ·exact h.r2.Aq I
  ·obtain⟨k,hk,rfl⟩:=DG hc;exact(h.PZ k (by rw[h.cl];exact hk) hk).Aq I
 have E:∀f,D.Aq f->G9 M L (G9 L M f)=f:=λf I=>by
  have⟨i,m,h1,h2⟩:=Y f I;rw[L8 L M i f m h.H8.IH h1 h2,L8 M L i m f h.H8.PF h2 h1]
 have X:∀d,(D.ren (G9 L M)).Aq d->∃i,∃hi:i<M.length,∃aA:i<L.length,M[i]'hi=d/\L[i]'aA=G9 M L d:=λd z=>by
  obtain⟨f,h1,rfl⟩:=DS.cZ z;have⟨i,m,h2,h3⟩:=Y f h1;rw[E f h1,L8 L M i f m h.H8.IH h2 h3];have⟨k1,k2⟩:=I6.1 h2;have⟨k3,k4⟩:=I6.1 h3;exact⟨i,k3,k1,k4,k2⟩
 have O:∀d,(D.ren (G9 L M)).Aq d->d∈M:=λd z=>by
  have⟨i,k1,_,k2,_⟩:=X d z;rw[<-k2];exact BV k1
 have hv:C9 wr b2 (D.ren (G9 L M)) (λm=>F (G9 M L m)) v1 v2 vc W aD:=by
  refine⟨h.Ae,?_,?_,?_,?_,?_,?_⟩
  ·have:=h.d1;rw[q1]at this;exact this
  ·have:=h.d2;rw[q2]at this;exact this
  ·have:=h.ch;simpa[DS.ren] using this
  ·intro i hi;(have aA:i<cs.length:=by rw[h.cl];simpa[DS.ren] using hi);have⟨v,k1,k2⟩:=h.Di i aA;refine⟨v,k1,?_⟩;subst q3;exact k2
  ·intro d z;have⟨i,k1,k2,k3,k4⟩:=X d z;have:=h.H8.BN i k1 k2;rw[k3,k4]at this;exact this
  ·exact λf d g I z=>h.H8.GG f d g (O f I) (O d z)
 refine⟨G9 L M,λm=>F (G9 M L m),Cf b2 (D.ren (G9 L M)) v1 v2 vc W aD,⟨_,_,_,_,_,hv,λ_ h=>h⟩,λk hk=>⟨?_,hv.lt hk⟩,h.Am,λf I=>by simp only[E f I],λf d I z e=>by rw[<-E f I,<-E d z,e]⟩;cases hk using Cf.bN with
 | Ae=>exact h.nb
 | dir e=>exact h.Te _ e
 | Ad e=>exact h.Td _ e
 | Am e=>exact h.ON _ e
 | Di hm e=>exact h.Tc _ hm _ e
 | BN I=>exact h.H8.OS _ (O _ I)
 | byt I e=>exact h.H8.OT _ (O _ I) _ e
def A2J(w:gx)(n:DN)(F:Nat->FC)(h:Nat->gy)(W:gx)(d:W=(((w.alloc (.cells #[.slice none 0 0,.slice none 0 0,.slice none 0 0,.int .i64 n.Av,.int .i64 n.Bc,.int .i64 n.CW,.int .i64 n.E0,.int .i64 n.BG,.int .i64 n.Bk,.int .i64 n.fulls,.bool n.Bh] 95)).alloc (.cells #[.slice none 0 0] 138)).alloc (.cells #[.slice none 0 0] 138)).drew):
 CS w.heap.size W (w.heap.size+1) (w.heap.size+2) F [] [] (.slice none 0 0) (.slice none 0 0) h/\AM W w.heap.size (.slice none 0 0) (.slice none 0 0) (.slice none 0 0) n/\A4 (λ_=>False) w W:=by
 subst d;refine⟨⟨?_,?_,by omega,Co _ _ _ _,Co _ _ _ _,by simp[Value.ownBlock],by simp,by simp,by simp,by simp,by simp,by omega,by omega,by simp[Value.ownBlock],by simp[Value.ownBlock],by simp,by simp⟩,?_,(((A4.C _ w).aj _).aj _).aj _ |>.aa⟩
 ·show ((((w.alloc _).alloc _).alloc _).heap[w.heap.size+1]?)=_;rw[CY _ _ _ (by simp)];have:=Bl (w.alloc (.cells #[.slice none 0 0,.slice none 0 0,.slice none 0 0,.int .i64 n.Av,.int .i64 n.Bc,.int .i64 n.CW,.int .i64 n.E0,.int .i64 n.BG,.int .i64 n.Bk,.int .i64 n.fulls,.bool n.Bh] 95)) (.cells #[.slice none 0 0] 138);rw[Nn]at this;exact this
 ·show ((((w.alloc _).alloc _).alloc _).heap[w.heap.size+2]?)=_;have:=Bl ((w.alloc (.cells #[.slice none 0 0,.slice none 0 0,.slice none 0 0,.int .i64 n.Av,.int .i64 n.Bc,.int .i64 n.CW,.int .i64 n.E0,.int .i64 n.BG,.int .i64 n.Bk,.int .i64 n.fulls,.bool n.Bh] 95)).alloc (.cells #[.slice none 0 0] 138)) (.cells #[.slice none 0 0] 138);rw[Nn,Nn]at this;exact this
 ·show ((((w.alloc _).alloc _).alloc _).heap[w.heap.size]?)=_;rw[CY _ _ _ (by simp;omega),CY _ _ _ (by simp)];exact Bl _ _
def A2I{w W w2 z:gx}{bo bm:Nat}{D:DS}{F:Nat->FC}{vo vm v1 v2 aI aD:gy}{aF aG aK:Nat->gy}{L M aM aL:gD Nat}{e1 e2:gD AO}(aH:CS w.heap.size W bo bm F [] [] (.slice none 0 0) (.slice none 0 0) aF)(hb:AM W w.heap.size (.slice none 0 0) (.slice none 0 0) (.slice none 0 0) D.n)(hc:A4 (λ_=>False) w W)(E:EP w.heap.size W bo bm F [] [] (.slice none 0 0) (.slice none 0 0) aF D.A6 D.A6.length D.A6.length v1 w2 L M vo vm aG e1)(d:EP w.heap.size w2 bo bm F L M vo vm aG D.AF D.AF.length D.AF.length v2 z aM aL aI aD aK e2):
 AM z w.heap.size (.slice none 0 0) (.slice none 0 0) (.slice none 0 0) D.n/\CR w.heap.size w ((z.setCell ⟨w.heap.size,0,none⟩ v1).setCell ⟨w.heap.size,1,none⟩ v2) w.heap.size bo bm D F 0 aM aL aI aD v1 v2 (.slice none 0 0) aK [] e1 e2 []:=by
 have X:=E.cs;have c2:=E.cI hc aH;have c3:=d.cI c2 X;have Y:AM w2 w.heap.size (.slice none 0 0) (.slice none 0 0) (.slice none 0 0) D.n:=(E.Am.Al _ hb.lt (aH.ca hb (.inr (.inr rfl)))).trans hb;have aA:AM z w.heap.size (.slice none 0 0) (.slice none 0 0) (.slice none 0 0) D.n:=(d.Am.Al _ Y.lt (X.ca Y (.inr (.inr rfl)))).trans Y;refine⟨aA,?_⟩;have aJ:=(aA.s0 v1).s1 v2;have aB:A4 (One w.heap.size) z ((z.setCell ⟨w.heap.size,0,none⟩ v1).setCell ⟨w.heap.size,1,none⟩ v2):=((A4.C (One w.heap.size) z).ao rfl 0 _).ao rfl 1 _;generalize hW4:(z.setCell ⟨w.heap.size,0,none⟩ v1).setCell ⟨w.heap.size,1,none⟩ v2=W4 at aJ aB ⊢;have h:∀(k:Nat) (c:Array gy) (e:Nat),z.heap[k]?=some (Obj.cells c e (0,0))->e≠95->W4.heap[k]?=z.heap[k]?:=λk c e hk he=>
  aB.Al k (By hk) (λe2=>BR hk aA he e2)
 have d1:=Au E.Ff λg I=>by
  have⟨c,hh⟩:=Bb E.Ff I;exact d.Am.Al g (By hh) (X.ca hh (.inl rfl))
 have sz:=hc.Ak;have sz2:=E.Am.Ak;have aE:Ren aM aL D.A6 e1:=by
  have⟨o,q1,_⟩:=d.H3;have⟨o2,q2,_⟩:=d.Ke;have:=E.ren;rw[C5]at this;rw[q1,q2];exact this.ai
 refine⟨?_,aJ,?_,?_,aE,?_,Co _ _ _ _,rfl,by simp,by simp,?_,?_,?_,Ao _,?_,?_,by simp[Value.ownBlock],by simp⟩
 ·refine d.cs.aM (λk hk=>?_) (λk hk=>?_)
  ·have⟨c,e,q1,q2,q3,q4⟩:=d.cs.cz (.inl hk);exact h _ _ _ q1 q4
  ·have⟨c,e,q1,q2,q3,q4⟩:=d.cs.cz (.inr hk);exact h _ _ _ q1 q4
 ·exact Au d1 λg I=>by
   have⟨c,hh⟩:=Bb d1 I;exact h _ _ _ hh (by decide)
 ·exact Au d.Ff λg I=>by
   have⟨c,hh⟩:=Bb d.Ff I;exact h _ _ _ hh (by decide)
 ·have:=d.ren;rw[C5]at this;exact this
 ·have⟨o,q1,q2,_⟩:=E.H3;have⟨o2,q3,q4,_⟩:=d.H3;rw[q3,q1];simp;omega
 ·intro f O;have⟨o,q1,_,q2⟩:=E.H3;have⟨o2,q3,_,q4⟩:=d.H3;rw[q3,q1]at O;rcases AX.1 O with O|O
  ·simp at O;exact .inl (q2 f O)
  ·exact .inr (.inl (q4 f O))
 ·exact c3.AH aB (λx hx hlt=>by have:x=w.heap.size:=hx;omega)
 ·intro g I;have:=E.AV g I;omega
 ·intro g I;have:=d.AV g I;omega
end
section
open Go.RowKit
def Jl(r:Nat->Nat)(es:gD AO):(ren r es).length=es.length:=by simp[ren]
def S9(r:Nat->Nat):ren r []=[]:=rfl
def Mx(r:Nat->Nat)(a b:gD AO):ren r (a++b)=ren r a++ren r b:=by simp[ren]
def YN(r:Nat->Nat)(es:gD AO)(k:Nat):(ren r es).take k=ren r (es.take k):=by simp[ren,List.map_take]
def YP(r:Nat->Nat)(es:gD AO)(k:Nat):(ren r es).drop k=ren r (es.drop k):=by simp[ren,List.map_drop]
def Oq(r:Nat->Nat)(es:gD AO)(d:gC):B9 (ren r es) d=B9 es d:=by
 induction es with
 | nil=>rfl
 | cons e t ih=>simp only[ren,GW,B9]at ih ⊢;rw[ih]
def Kc(r:Nat->Nat)(es:gD AO)(d:gC):lookup (ren r es) d=(lookup es d).map r:=by
 induction es with
 | nil=>rfl
 | cons e t ih=>
  simp only[ren,GW,lookup]at ih ⊢;by_cases h:e.1=d
  ·simp[h]
  ·simp[h,ih]
def Sa(r:Nat->Nat)(es:gD AO)(k:Nat):(ren r es)[k]?=(es[k]?).map λe=>(e.1,r e.2):=by simp[ren]
def YO(r:Nat->Nat)(es:gD AO)(i:Nat)(d:gC)(k:Nat):Dw (ren r es) i d k=ren r (Dw es i d k):=by
 induction k with
 | zero=>rfl
 | succ k ih=>
  simp only[Dw,ih,Sa,Mx];cases es[k]? with
  | none=>simp[S9]
  | some e=>
   simp only[Iq];by_cases h:k≠i/\e.1≠d
   ·rw[Ai h,Ai h];rfl
   ·rw[Af h,Af h,S9]
def YQ(r:Nat->Nat)(es:gD AO)(k:Nat):F7 (ren r es) k=F7 es k:=by
 induction k with
 | zero=>rfl
 | succ k ih=>
  simp only[F7,ih,Sa];cases es[k]?<;>rfl
def Sb(r:Nat->Nat)(es:gD AO):dList (ren r es)=dList es:=by unfold dList;rw[Jl,YQ]
def O0(r:Nat->Nat)(G F:Nat->FC)(es:gD AO)(h:∀f,Dp f es->G (r f)=F f):AU G (ren r es)=AU F es:=by
 induction es with
 | nil=>rfl
 | cons e t ih=>
  have I:=h e.2 ⟨e,by simp,rfl⟩;have d:=ih λf z=>h f (by obtain⟨x,L,E⟩:=z;exact⟨x,BC _ L,E⟩);simp only[ren,GW,AU]at d ⊢;rw[I,d]
def TL{es:gD AO}{d:gC}{f:Nat}(h:lookup es d=some f):Dp f es:=by
 induction es with
 | nil=>cases h
 | cons e t ih=>
  simp only[lookup]at h;by_cases z:e.1=d
  ·simp[z]at h;exact⟨e,by simp,h⟩
  ·simp[z]at h;have⟨x,hx,hh⟩:=ih h;exact⟨x,BC _ hx,hh⟩
def ren_congr{r d:Nat->Nat}{es:gD AO}(h:∀f,Dp f es->d f=r f):ren d es=ren r es:=by
 unfold ren;exact NB λe z=>by rw[h e.2 ⟨e,z,rfl⟩]
def DS.ren_congr{r z:Nat->Nat}{D:DS}(h:∀f,D.Aq f->z f=r f):D.ren z=D.ren r:=by
 unfold DS.ren;rw[Go.Proofs.YtodcnkbblippnaaGreatDoor.ren_congr λf d=>h f (.inl d),Go.Proofs.YtodcnkbblippnaaGreatDoor.ren_congr (es:=D.AF) λf d=>h f (.inr (.inl d))]
 congr 1
 exact NB λc E=>Go.Proofs.YtodcnkbblippnaaGreatDoor.ren_congr λf d=>h f (.inr (.inr ⟨c,E,d⟩))
def AW(w:gx)(b:Nat)(D:DS)(F:Nat->FC)(Ft:Nat->Prop):Prop:=
 ∃r G,Dj w b (D.ren r) G Ft/\(∀f,D.Aq f->G (r f)=F f)/\∀f d,D.Aq f->D.Aq d->r f=r d->f=d
def Ev(w:gx)(Ft:Nat->Prop)(w':gx)(b:Nat)(D':DS)(F':Nat->FC):Prop:=
 A4 Ft w w'/\∃d,AW w' b D' F' d/\(∀k,d k->k<w'.heap.size)/\∀k,d k->Ft k\/w.heap.size<=k
def AW.aM{w w':gx}{b:Nat}{D:DS}{F:Nat->FC}{Ft:Nat->Prop}(h:AW w b D F Ft)(I:Gr Ft w w'):AW w' b D F Ft:=by
 obtain⟨r,G,z,d,E⟩:=h;exact⟨r,G,z.aM I,d,E⟩
def AW.Ae{w:gx}{b:Nat}{D:DS}{F:Nat->FC}{Ft:Nat->Prop}(h:AW w b D F Ft):∃E z d,AM w b E z d D.n:=by
 obtain⟨r,G,⟨E,z,d,vals,VB,I,_⟩,_⟩:=h;exact⟨E,z,d,I.Ae⟩
def AW.of{w:gx}{b:Nat}{D:DS}{F:Nat->FC}{Ft:Nat->Prop}(h:Dj w b D F Ft):AW w b D F Ft:=by
 refine⟨id,F,?_,λ_ _=>rfl,λ_ _ _ _ h=>h⟩;have:D.ren id=D:=by
  have e:∀es,Go.Proofs.YtodcnkbblippnaaGreatDoor.ren id es=es:=λes=>by simp[Go.Proofs.YtodcnkbblippnaaGreatDoor.ren]
  have d:=funext e;unfold DS.ren;rw[d];simp
 rw[this];exact h
def DB.bn{w w':gx}{Ft:Nat->Prop}{b:Nat}{I D':DS}{E F':Nat->FC}{r:Nat->Nat}(h:DB w Ft w' b I E)(O:I=D'.ren r)(hG:∀f,D'.Aq f->E (r f)=F' f)(hi:∀f z,D'.Aq f->D'.Aq z->r f=r z->f=z):Ev w Ft w' b D' F':=by
 obtain⟨X,d,L,Y,W⟩:=h;subst O;exact⟨X,d,⟨r,E,L,hG,hi⟩,Y,W⟩
def Kt(D:DS)(r:Nat->Nat):(D.ren r).A6.length=D.A6.length/\(D.ren r).AF.length=D.AF.length/\(D.ren r).As.length=D.As.length/\Jh (D.ren r).As=Jh D.As:=by
 refine⟨Jl _ _,Jl _ _,by simp[DS.ren],?_⟩;unfold Jh DS.ren;rw[VX]
 congr 1
 exact NB λc _=>Jl r c
section
variable{w:gx}{b:Nat}{D:DS}{F:Nat->FC}{Ft:Nat->Prop}
def Tm(room:Int)(w:gx):
 Ag 21 #[A0 room] w (Aj (A5 w.heap.size) λw'=>AW w' w.heap.size ⟨[],[],[],HD room⟩ F (One w.heap.size)/\A4 Aa w w'/\w'.heap.size=w.heap.size+1):=by
 refine(A0h room w).mono ?_;rintro e w'⟨O,z,W,L⟩;refine⟨O,AW.of ⟨_,_,_,[],λ_=>.slice none 0 0,⟨z,Co _ _ _ _,Co _ _ _ _,Co _ _ _ _,by intro i X;simp at X,?_,?_⟩,?_⟩,L,W⟩
 ·rintro f (⟨e,d,_⟩|⟨e,d,_⟩|⟨c,h,_⟩)
  ·cases d
  ·cases d
  ·cases h
 ·intro f f' g _ _ E;simp[Value.ownBlock]at E
 ·intro k I;cases I using Cf.bN with
  | Ae=>rfl
  | dir e=>simp[Value.ownBlock]at e
  | Ad e=>simp[Value.ownBlock]at e
  | Am e=>simp[Value.ownBlock]at e
  | Di hm e=>cases hm
  | BN hf=>rcases hf with⟨e,d,_⟩|⟨e,d,_⟩|⟨c,h,_⟩<;>contradiction
  | byt hf e=>simp[Value.ownBlock]at e
def Xl(h:AW w b D F Ft):
 Ag 86 #[A5 b] w (Aj (A0 (E9 D).1) λw'=>Ev w Ft w' b (E9 D).2 F):=by
 obtain⟨r,G,h1,W,h3⟩:=h;refine(Xk w b _ G Ft h1).mono ?_;rintro e w'⟨Y,q2⟩;have X:(E9 (D.ren r)).2=(E9 D).2.ren r:=by
  unfold E9;by_cases I:(bg D.n).2.1=0
  ·have E:(bg (D.ren r).n).2.1=0:=I;rw[Ai I,Ai E];rfl
  ·have E:¬(bg (D.ren r).n).2.1=0:=I;rw[Af I,Af E];rfl
 have z:∀f,(E9 D).2.Aq f->D.Aq f:=by
  intro f d;unfold E9 at d;simp only at d;split at d
  ·rcases d with d|d|⟨c,hc,_⟩
   ·exact .inl d
   ·exact .inl d
   ·cases hc
  ·exact d
 exact⟨Y,q2.bn X (λf d=>W f (z f d)) λf O d L=>h3 f O (z f d) (z O L)⟩
def Gl{d:gC}{f:Nat}(h:lookup D.A6 d=some f):D.Aq f:=.inl (TL h)
def Rh(h:AW w b D F Ft)(d:gC):
 Ag 85 #[A5 b,.string d] w (Aj (A0 (CN D F d).1) λw'=>Ev w Ft w' b (CN D F d).2.1 (CN D F d).2.2):=by
 obtain⟨r,G,h1,L,h3⟩:=h;refine(Xh w b _ G Ft h1 d).mono ?_;rintro e w'⟨W,Y⟩;have X:lookup (D.ren r).A6 d=(lookup D.A6 d).map r:=Kc r D.A6 d;cases hx:lookup D.A6 d with
 | none=>
  rw[hx]at X;have e1:CN (D.ren r) G d=(8,D.ren r,G):=by unfold CN;rw[X];rfl
  have e2:CN D F d=(8,D,F):=by unfold CN;rw[hx]
  rw[e1]at W Y;rw[e2];exact⟨W,Y.bn rfl L h3⟩
 | some f=>
  rw[hx]at X;have e1:CN (D.ren r) G d=((bg D.n).2.1,{D with n:=(bg D.n).2.2}.ren r,if (bg D.n).2.1=0 then upd G (r f) ((G (r f)).1,(G (r f)).1.length) else G):=by unfold CN;rw[X];rfl
  have e2:CN D F d=((bg D.n).2.1,{D with n:=(bg D.n).2.2},if (bg D.n).2.1=0 then upd F f ((F f).1,(F f).1.length) else F):=by unfold CN;rw[hx]
  rw[e1]at W Y;rw[e2];refine⟨W,Y.bn rfl (λz E=>?_) h3⟩;have hf:=Gl hx;show (if (bg D.n).2.1=0 then upd G (r f) ((G (r f)).1,(G (r f)).1.length) else G) (r z)=(if (bg D.n).2.1=0 then upd F f ((F f).1,(F f).1.length) else F) z;by_cases O:(bg D.n).2.1=0
  ·rw[Ai O,Ai O];unfold upd;by_cases I:z=f
   ·subst I;simp[L z hf]
   ·have:r z≠r f:=λe=>I (h3 z f E hf e);simp only[this,I,Cd];exact L z E
  ·rw[Af O,Af O];exact L z E
def O3{r:Nat->Nat}{G:Nat->FC}(I:∀f,D.Aq f->G (r f)=F f)(L:∀f d,D.Aq f->D.Aq d->r f=r d->f=d){f:Nat}(E:D.Aq f)(c:FC):∀d,D.Aq d->upd G (r f) c (r d)=upd F f c d:=λd z=>by
 unfold upd;by_cases h:d=f
 ·subst h;simp
 ·have:r d≠r f:=λe=>h (L d f z E e);simp only[this,h,Cd];exact I d z
def UN{r:Nat->Nat}{G:Nat->FC}(L:∀f,D.Aq f->G (r f)=F f)(O:∀f d,D.Aq f->D.Aq d->r f=r d->f=d){f:Nat}(I:D.Aq f)(data:gC)(n0 e:Int):
 (BP (D.ren r) G (r f) data n0 e).1=(BP D F f data n0 e).1/\(BP (D.ren r) G (r f) data n0 e).2.1=(BP D F f data n0 e).2.1.ren r/\(∀d,D.Aq d->(BP (D.ren r) G (r f) data n0 e).2.2 (r d)=(BP D F f data n0 e).2.2 d)/\(∀d,(BP D F f data n0 e).2.1.Aq d↔D.Aq d):=by
 have E:Gn (D.ren r) G=Gn D F:=by
  unfold Gn;have:AU G (D.ren r).A6=AU F D.A6:=O0 r G F D.A6 λf I=>L f (.inl I);rw[this];rfl
 unfold BP;rw[E];by_cases W:n0>Gn D F
 ·simp only[W,Cq];rw[L f I];refine⟨by first|trivial|rfl,?_,λd z=>O3 L O I _ d z,λd=>?_⟩
  ·by_cases h:e=0
   ·rw[Ai h,Ai h];rfl
   ·rw[Af h,Af h]
  ·by_cases h:e=0
   ·rw[Ai h];exact QB
   ·rw[Af h]
 ·simp only[W,Cd];rw[L f I];exact⟨by first|trivial|rfl,by first|trivial|rfl,λd z=>O3 L O I _ d z,λ_=>by first|trivial|exact QB⟩
def A3Y(h:AW w b D F Ft)(d data:gC)(hroom : -4611686018427387904<=D.n.Av/\D.n.Av<=9223372036854775807)(hu:AU F D.A6<=4611686018427387904)(hp:0<=D.n.BG/\D.n.BG<=9223372036854775807)(hl:∀f,lookup D.A6 d=some f->(F f).1.length+data.size<=70368744177664):
 Ag 84 #[A5 b,.string d,.string data] w (Aj (A0 (BA D F d data).1) λw'=>Ev w Ft w' b (BA D F d data).2.1 (BA D F d data).2.2):=by
 obtain⟨r,G,h1,h2,h3⟩:=h;have E:lookup (D.ren r).A6 d=(lookup D.A6 d).map r:=Kc r D.A6 d
 refine(A3X w b _ G Ft h1 d data hroom (by
  have:AU G (D.ren r).A6=AU F D.A6:=O0 r G F D.A6 λf X=>h2 f (.inl X)
  rw[this];exact hu) hp (λf X=>by
   rw[E]at X;cases hx:lookup D.A6 d with
   | none=>rw[hx]at X;cases X
   | some f0=>
    rw[hx]at X;simp at X;subst X
    rw[h2 f0 (Gl hx)];exact hl f0 hx)).mono ?_
 rintro e w'⟨W,Y⟩;cases hx:lookup D.A6 d with
 | none=>
  rw[hx]at E;have e1:BA (D.ren r) G d data=(8,D.ren r,G):=by unfold BA;rw[E];rfl
  have e2:BA D F d data=(8,D,F):=by unfold BA;rw[hx]
  rw[e1]at W Y;rw[e2];exact⟨W,Y.bn rfl h2 h3⟩
 | some f=>
  rw[hx]at E;have X:=Gl hx;have aA:=X;by_cases c1:(bg D.n).1=true
  ·have e1:BA (D.ren r) G d data=BP ({D with n:=(bg D.n).2.2}.ren r) G (r f) data data.size (bg D.n).2.1:=by
    unfold BA;rw[E];show (if (bg D.n).1=true then _ else _)=_;rw[Ai c1];rfl
   have e2:BA D F d data=BP {D with n:=(bg D.n).2.2} F f data data.size (bg D.n).2.1:=by
    unfold BA;rw[hx];show (if (bg D.n).1=true then _ else _)=_;rw[Ai c1]
   rw[e1]at W Y;rw[e2];have⟨k1,k2,k3,k4⟩:=UN (D:={D with n:=(bg D.n).2.2}) (r:=r) (G:=G) (F:=F) h2 h3 aA data data.size (bg D.n).2.1;rw[k1]at W;exact⟨W,Y.bn k2 (λI z=>k3 I ((k4 I).1 z)) λI O z L=>h3 I O ((k4 I).1 z) ((k4 O).1 L)⟩
  ·by_cases c2:(bg D.n).2.2.Bh=false/\0<data.size
   ·have e1:BA (D.ren r) G d data=BP ({D with n:=(bg D.n).2.2}.ren r) G (r f) data ((bg D.n).2.2.BG % data.size) (bg D.n).2.1:=by
     unfold BA;rw[E];show (if (bg D.n).1=true then _ else if (bg D.n).2.2.Bh=false/\0<data.size then _ else _)=_;rw[Af c1,Ai c2];rfl
    have e2:BA D F d data=BP {D with n:=(bg D.n).2.2} F f data ((bg D.n).2.2.BG % data.size) (bg D.n).2.1:=by
     unfold BA;rw[hx];show (if (bg D.n).1=true then _ else if (bg D.n).2.2.Bh=false/\0<data.size then _ else _)=_;rw[Af c1,Ai c2]
    rw[e1]at W Y;rw[e2];have⟨k1,k2,k3,k4⟩:=UN (D:={D with n:=(bg D.n).2.2}) (r:=r) (G:=G) (F:=F) h2 h3 aA data ((bg D.n).2.2.BG % data.size) (bg D.n).2.1;rw[k1]at W;exact⟨W,Y.bn k2 (λI z=>k3 I ((k4 I).1 z)) λI O z L=>h3 I O ((k4 I).1 z) ((k4 O).1 L)⟩
   ·have e1:BA (D.ren r) G d data=((bg D.n).2.1,{D with n:=(bg D.n).2.2}.ren r,G):=by
     unfold BA;rw[E];show (if (bg D.n).1=true then _ else if (bg D.n).2.2.Bh=false/\0<data.size then _ else _)=_;rw[Af c1,Af c2];rfl
    have e2:BA D F d data=((bg D.n).2.1,{D with n:=(bg D.n).2.2},F):=by
     unfold BA;rw[hx];show (if (bg D.n).1=true then _ else if (bg D.n).2.2.Bh=false/\0<data.size then _ else _)=_;rw[Af c1,Af c2]
    rw[e1]at W Y;rw[e2];exact⟨W,Y.bn rfl h2 h3⟩
def Kq{es:gD AO}{n:DN}(z:∀f,Dp f es->D.Aq f)(f:Nat)(d:({D with A6:=es,As:=D.As++[es],n:=n}:DS).Aq f):D.Aq f:=by
 rcases d with d|d|⟨c,h,d⟩
 ·exact z f d
 ·exact .inr (.inl d)
 ·rcases AX.1 h with h|h
  ·exact .inr (.inr ⟨c,h,d⟩)
  ·simp at h;subst h;exact z f d
def O5(r:Nat->Nat)(es:gD AO)(n:DN):({D.ren r with A6:=ren r es,As:=(D.ren r).As++[ren r es],n:=n}:DS)=({D with A6:=es,As:=D.As++[es],n:=n}:DS).ren r:=by
 simp[DS.ren]
def YU(h:AW w b D F Ft)(d:gC)(hs:D.A6.length<1099511627776/\D.As.length<1099511627776):
 Ag 193 #[A5 b,.string d] w (Aj (A0 (Dx D d).1) λw'=>Ev w Ft w' b (Dx D d).2 F):=by
 obtain⟨r,G,h1,h2,h3⟩:=h;have⟨l1,l2,l3,l4⟩:=Kt D r;refine(YT w b _ G Ft h1 d (by rw[l1,l3];exact hs)).mono ?_;rintro e w'⟨L,O⟩;have I:B9 (D.ren r).A6 d=B9 D.A6 d:=Oq r D.A6 d;by_cases c1:B9 D.A6 d<0
 ·have Y:Dx (D.ren r) d=(8,D.ren r):=by unfold Dx;rw[I,Ai c1]
  have W:Dx D d=(8,D):=by unfold Dx;rw[Ai c1]
  rw[Y]at L O;rw[W];exact⟨L,O.bn rfl h2 h3⟩
 ·by_cases c2:(bg D.n).1=true
  ·have W:Dx D d=((bg D.n).2.1,{D with A6:=D.A6.take (B9 D.A6 d).toNat++D.A6.drop ((B9 D.A6 d).toNat+1),As:=D.As++[D.A6.take (B9 D.A6 d).toNat++D.A6.drop ((B9 D.A6 d).toNat+1)],n:=(bg D.n).2.2}):=by
    unfold Dx;rw[Af c1];simp only[c2,Cq]
   have Y:Dx (D.ren r) d=((bg D.n).2.1,{D with A6:=D.A6.take (B9 D.A6 d).toNat++D.A6.drop ((B9 D.A6 d).toNat+1),As:=D.As++[D.A6.take (B9 D.A6 d).toNat++D.A6.drop ((B9 D.A6 d).toNat+1)],n:=(bg D.n).2.2}.ren r):=by
    have z:(bg (D.ren r).n).1=true:=c2;unfold Dx;rw[I,Af c1];simp only[z,Cq];rw[<-O5,Mx,<-YN,<-YP];rfl
   rw[Y]at L O;rw[W];have E:∀f,Dp f (D.A6.take (B9 D.A6 d).toNat++D.A6.drop ((B9 D.A6 d).toNat+1))->D.Aq f:=by
    rintro f⟨x,X,he⟩;rcases AX.1 X with X|X
    ·exact .inl ⟨x,Ho X,he⟩
    ·exact .inl ⟨x,KI X,he⟩
   exact⟨L,O.bn rfl (λf hf=>h2 f (Kq E f hf)) λf f' hf aA=>h3 f f' (Kq E f hf) (Kq E f' aA)⟩
  ·(have W:Dx D d=((bg D.n).2.1,{D with n:=(bg D.n).2.2}):=by unfold Dx;rw[Af c1];simp only[c2];rfl);have Y:Dx (D.ren r) d=((bg D.n).2.1,{D with n:=(bg D.n).2.2}.ren r):=by
    have z:¬(bg (D.ren r).n).1=true:=c2;unfold Dx;rw[I,Af c1];simp only[z];rfl
   rw[Y]at L O;rw[W];exact⟨L,O.bn rfl h2 h3⟩
def YL(h:AW w b D F Ft)(oe d:gC)(hs:D.A6.length<1099511627776/\D.As.length<1099511627776):
 Ag 242 #[A5 b,.string oe,.string d] w (Aj (A0 (D8 D oe d).1) λw'=>Ev w Ft w' b (D8 D oe d).2 F):=by
 obtain⟨r,G,h1,h2,h3⟩:=h;have⟨l1,l2,l3,l4⟩:=Kt D r;refine(YK w b _ G Ft h1 oe d (by rw[l1,l3];exact hs)).mono ?_;rintro e w'⟨I,L⟩;have E:lookup (D.ren r).A6 oe=(lookup D.A6 oe).map r:=Kc r D.A6 oe;cases hx:lookup D.A6 oe with
 | none=>
  rw[hx]at E;have Y:D8 (D.ren r) oe d=(8,D.ren r):=by unfold D8;rw[E];rfl
  have W:D8 D oe d=(8,D):=by unfold D8;rw[hx]
  rw[Y]at I L;rw[W];exact⟨I,L.bn rfl h2 h3⟩
 | some f=>
  rw[hx]at E;by_cases c1:d=ByteArray.empty
  ·(have Y:D8 (D.ren r) oe d=(8,D.ren r):=by unfold D8;rw[E];simp only[Iq];rw[Ai c1]);(have W:D8 D oe d=(8,D):=by unfold D8;rw[hx];simp only;rw[Ai c1]);rw[Y]at I L;rw[W];exact⟨I,L.bn rfl h2 h3⟩
  ·by_cases c2:(bg D.n).1=true
   ·have W:D8 D oe d=((bg D.n).2.1,{D with A6:=Dw D.A6 (B9 D.A6 oe).toNat d D.A6.length++[(d,f)],As:=D.As++[Dw D.A6 (B9 D.A6 oe).toNat d D.A6.length++[(d,f)]],n:=(bg D.n).2.2}):=by
     unfold D8;rw[hx];simp only;rw[Af c1];simp only[c2,Cq]
    have Y:D8 (D.ren r) oe d=((bg D.n).2.1,{D with A6:=Dw D.A6 (B9 D.A6 oe).toNat d D.A6.length++[(d,f)],As:=D.As++[Dw D.A6 (B9 D.A6 oe).toNat d D.A6.length++[(d,f)]],n:=(bg D.n).2.2}.ren r):=by
     have O:(bg (D.ren r).n).1=true:=c2;have aB:B9 (D.ren r).A6 oe=B9 D.A6 oe:=Oq r D.A6 oe;unfold D8;rw[E];simp only[Iq];rw[Af c1];simp only[O,Cq];rw[<-O5,Mx,<-YO,aB,l1];rfl
    rw[Y]at I L;rw[W];have X:∀f',Dp f' (Dw D.A6 (B9 D.A6 oe).toNat d D.A6.length++[(d,f)])->D.Aq f':=by
     rintro f'⟨x,z,he⟩;rcases AX.1 z with z | z
     ·exact .inl ⟨x,My _ _ _ _ x z,he⟩
     ·simp at z;subst z;cases he;exact Gl hx
    exact⟨I,L.bn rfl (λf hf=>h2 f (Kq X f hf)) λf f' hf aA=>h3 f f' (Kq X f hf) (Kq X f' aA)⟩
   ·(have W:D8 D oe d=((bg D.n).2.1,{D with n:=(bg D.n).2.2}):=by unfold D8;rw[hx];simp only;rw[Af c1];simp only[c2];rfl);have Y:D8 (D.ren r) oe d=((bg D.n).2.1,{D with n:=(bg D.n).2.2}.ren r):=by
     have O:¬(bg (D.ren r).n).1=true:=c2;unfold D8;rw[E];simp only[Iq];rw[Af c1];simp only[O];rfl
    rw[Y]at I L;rw[W];exact⟨I,L.bn rfl h2 h3⟩
def A2v(h:AW w b D F Ft)(d:gC)(k:Nat)(hk:¬D.Aq k)(hs:D.A6.length<1099511627776/\D.As.length<1099511627776):
 Calls Tryz.prog 83 #[.pointer (some ⟨b,0,none⟩),.string d] w λe w'=>e=.returned (.int .i64 (CV D d k).1)/\Ev w Ft w' b (CV D d k).2 (upd F k ([],0)):=by
 obtain⟨r,G,h1,h2,h3⟩:=h;have⟨l1,l2,l3,l4⟩:=Kt D r;have W:∀f,D.Aq f->r f<w.heap.size:=by
  obtain⟨vd,vs,vc,vals,VB,hr,_⟩:=h1;intro f z;refine hr.lt (.BN ?_);rcases z with⟨x,I,rfl⟩|⟨x,I,rfl⟩|⟨c,O,x,I,rfl⟩
  ·exact .inl ⟨_,Ed I,rfl⟩
  ·exact .inr (.inl ⟨_,Ed I,rfl⟩)
  ·exact .inr (.inr ⟨_,Ed O,_,Ed I,rfl⟩)
 refine(A2u w b _ G Ft h1 d (by rw[l1,l3];exact hs)).mono ?_;rintro e w'⟨f0,q0,q1,q2⟩;have aA:B9 (D.ren r).A6 d=B9 D.A6 d:=Oq r D.A6 d;have hG:∀f,D.Aq f->upd G f0 ([],0) (r f)=upd F k ([],0) f:=λf z=>by
  unfold upd;have n1:r f≠f0:=by have:=W f z;omega
  have n2:f≠k:=λe=>hk (e ▸ z);simp only[n1,n2,Cd];exact h2 f z
 by_cases c1:d=ByteArray.empty\/B9 D.A6 d≥0
 ·have e1:CV (D.ren r) d f0=(8,D.ren r):=by unfold CV;rw[aA,Ai c1]
  have e2:CV D d k=(8,D):=by unfold CV;rw[Ai c1]
  rw[e1]at q1 q2;rw[e2];exact⟨q1,q2.bn rfl hG h3⟩
 ·by_cases c2:(bg D.n).1=true
  ·have e2:CV D d k=((bg D.n).2.1,{D with A6:=D.A6++[(d,k)],As:=D.As++[D.A6++[(d,k)]],n:=(bg D.n).2.2}):=by
    unfold CV;rw[Af c1];simp only[c2,Cq]
   have E:∀f,D.Aq f->(λf=>if f=k then f0 else r f) f=r f:=λf z=>by
    have n2:f≠k:=λe=>hk (e ▸ z);simp only[n2,Cd]
   have aB:D.ren (λf=>if f=k then f0 else r f)=D.ren r:=DS.ren_congr E;have e1:CV (D.ren r) d f0=((bg D.n).2.1,{D with A6:=D.A6++[(d,k)],As:=D.As++[D.A6++[(d,k)]],n:=(bg D.n).2.2}.ren (λf=>if f=k then f0 else r f)):=by
    have Y:(bg (D.ren r).n).1=true:=c2;unfold CV;rw[aA,Af c1];simp only[Y,Cq];rw[<-O5,aB,Mx];have e3:ren (λf=>if f=k then f0 else r f) D.A6=(D.ren r).A6:=by
     have:=Ep DS.A6 aB;exact this
    rw[e3];(have e4:ren (λf=>if f=k then f0 else r f) [(d,k)]=[(d,f0)]:=by simp[ren]);rw[e4];rfl
   rw[e1]at q1 q2;rw[e2];have L:∀f,({D with A6:=D.A6++[(d,k)],As:=D.As++[D.A6++[(d,k)]],n:=(bg D.n).2.2}:DS).Aq f->D.Aq f\/f=k:=by
    have key:∀f,Dp f (D.A6++[(d,k)])->D.Aq f\/f=k:=by
     rintro f⟨x,I,rfl⟩;rcases AX.1 I with I|I
     ·exact .inl (.inl ⟨x,I,rfl⟩)
     ·simp at I;subst I;exact .inr rfl
    rintro f (z|z|⟨c,O,z⟩)
    ·exact key f z
    ·exact .inl (.inr (.inl z))
    ·rcases AX.1 O with O|O
     ·exact .inl (.inr (.inr ⟨c,O,z⟩))
     ·simp at O;subst O;exact key f z
   refine⟨q1,q2.bn rfl (λf z=>?_) λf f' z aD e=>?_⟩
   ·rcases L f z with h|h
    ·simp only[E f h];exact hG f h
    ·subst h;simp[upd]
   ·rcases L f z with h|h<;>rcases L f' aD with X | X
    ·simp only[E f h,E f' X]at e;exact h3 f f' h X e
    ·subst X;simp only[E f h,Cq]at e;have:=W f h;omega
    ·subst h;simp only[E f' X,Cq]at e;have:=W f' X;omega
    ·rw[h,X]
  ·(have e2:CV D d k=((bg D.n).2.1,{D with n:=(bg D.n).2.2}):=by unfold CV;rw[Af c1];simp only[c2];rfl);have e1:CV (D.ren r) d f0=((bg D.n).2.1,{D with n:=(bg D.n).2.2}.ren r):=by
    have Y:¬(bg (D.ren r).n).1=true:=c2;unfold CV;rw[aA,Af c1];simp only[Y];rfl
   rw[e1]at q1 q2;rw[e2];exact⟨q1,q2.bn rfl hG h3⟩
def Z6(h:AW w b D F Ft)(d:gC)(p n:Int):
 Ag 82 #[A5 b,.string d,A0 p,A0 n] w (Aj (.tuple #[.string ⟨(FH D F d p n).1.toArray⟩,A0 (FH D F d p n).2]) λw'=>w=w'):=by
 obtain⟨r,G,L,I,h3⟩:=h;have z:lookup (D.ren r).A6 d=(lookup D.A6 d).map r:=Kc r D.A6 d;have E:FH (D.ren r) G d p n=FH D F d p n:=by
  unfold FH;rw[z];cases hx:lookup D.A6 d with
  | none=>rfl
  | some f=>simp only[Iq,I f (Gl hx)]
 have:=Z5 w b _ G Ft L d p n
 rwa [E]at this
def Ob(h:AW w b D F Ft)(d:gC):
 Ag 81 #[A5 b,.string d] w (Aj (.tuple #[A0 (CJ D F d).1,A0 (CJ D F d).2]) λw'=>w=w'):=by
 obtain⟨r,G,Y,O,h3⟩:=h;have E:lookup (D.ren r).A6 d=(lookup D.A6 d).map r:=Kc r D.A6 d;have L:CJ (D.ren r) G d=CJ D F d:=by
  unfold CJ;rw[E];cases hx:lookup D.A6 d with
  | none=>rfl
  | some f=>simp only[Iq,O f (Gl hx)]
 obtain⟨vd,W,I,z,aA,X,_⟩:=Y;have:=Y4 w b _ G vd W I z aA X d
 rwa [L]at this
def A0J(h:AW w b D F Ft)(E:D.A6.length<1099511627776):
 Ag 76 #[A5 b] w λe w'=>∃v,e=.returned v/\w'.ownsRow 0 9 1 v D.A6.length (G5 (dList D.A6))/\A4 Aa w w'/\(∀g,v.ownBlock=some g->w.heap.size<=g):=by
 obtain⟨r,G,z,h2,h3⟩:=h;have⟨l1,l2,l3,l4⟩:=Kt D r;have:=P5 w b _ G Ft z (by rw[l1];exact E);have d:dList (D.ren r).A6=dList D.A6:=Sb r D.A6
 rwa [l1,d]at this
def WZ(h:AW w b D F Ft)(hu:AU F D.A6<=4611686018427387904):
 Ag 90 #[A5 b] w (Aj (A0 (AU F D.A6)) λw'=>A4 Aa w w'):=by
 obtain⟨r,G,I,E,h3⟩:=h;have d:AU G (D.ren r).A6=AU F D.A6:=O0 r G F D.A6 λf z=>E f (.inl z);have:=JY w b _ G Ft I (by rw[d];exact hu)
 rwa [d]at this
def UI(h:AW w b D F Ft):Ag 36 #[A5 b] w (Aj (.bool D.n.Bh) λw'=>w=w'):=by
 have⟨vd,vs,vc,h⟩:=h.Ae;exact A2i w b vd vs vc D.n h
def Ow(h:AW w b D F Ft):Ag 50 #[A5 b] w (Aj (A0 D.n.Bk) λw'=>w=w'):=by
 have⟨vd,vs,vc,h⟩:=h.Ae;exact YX w b vd vs vc D.n h
def Uv(h:AW w b D F Ft):Ag 88 #[A5 b] w (Aj (A0 D.n.fulls) λw'=>w=w'):=by
 have⟨vd,vs,vc,h⟩:=h.Ae;exact A1P w b vd vs vc D.n h
def UO(h:AW w b D F Ft)(c:Int):Ag 35 #[A5 b,A0 c] w (Aj (.tuple #[]) λw'=>Ev w Ft w' b {D with n:={D.n with CW:=if c>0 then wrap64 (D.n.Bc+c) else 0}} F):=by
 obtain⟨r,G,⟨vd,I,E,vals,VB,d,z⟩,L,W⟩:=h;refine(A2q w b vd I E D.n c d.Ae).mono ?_;rintro e w'⟨O,Y,X⟩;exact⟨O,(d.bV z Y X).bn (D':={D with n:={D.n with CW:=if c>0 then wrap64 (D.n.Bc+c) else 0}}) rfl L W⟩
def UB(h:AW w b D F Ft)(c p:Int):Ag 78 #[A5 b,A0 c,A0 p] w (Aj (.tuple #[]) λw'=>Ev w Ft w' b {D with n:=EO D.n c p} F):=by
 obtain⟨r,G,⟨X,E,Y,vals,VB,d,O⟩,z,W⟩:=h;refine(A11 w b X E Y D.n c p d.Ae).mono ?_;rintro e w'⟨I,q2,L⟩;exact⟨I,(d.bV O q2 L).bn (D':={D with n:=EO D.n c p}) rfl z W⟩
def US(r:Nat->Nat)(D:DS)(da:Int):Gp (D.ren r) da=ren r (Gp D da):=by
 unfold Gp;have:(D.ren r).As.length=D.As.length:=by simp[DS.ren]
 rw[this];cases FQ da D.As.length with
 | zero=>rfl
 | succ k=>
  show (D.As.map (ren r)).getD k []=ren r (D.As.getD k []);rw[HL,HL,Qq];cases D.As[k]?<;>rfl
def PT(D:DS)(da:Int)(f:Nat)(h:Dp f (Gp D da)):D.Aq f:=by
 unfold Gp at h;split at h
 ·exact .inr (.inl h)
 ·rename_i k _;rw[HL]at h;cases hx:D.As[k]? with
  | none=>rw[hx]at h;obtain⟨e,d,_⟩:=h;cases d
  | some c=>rw[hx]at h;exact .inr (.inr ⟨c,LZ hx,h⟩)
def A2E{r:Nat->Nat}{G:Nat->FC}(L:∀f,D.Aq f->G (r f)=F f)(O:∀f E,D.Aq f->D.Aq E->r f=r E->f=E){es:gD AO}(z:∀f,Dp f es->D.Aq f)(I:gD Int)(names:gD gC)(k:Nat):
 ∀f,D.Aq f->Ea (ren r es) I names G k (r f)=Ea es I names F k f:=by
 induction k with
 | zero=>exact L
 | succ k ih=>
  intro f h;simp only[Ea];cases names[k]? with
  | none=>exact ih f h
  | some nd=>
   simp only[Kc];cases hx:lookup es nd with
   | none=>exact ih f h
   | some f0=>
    have d:=z f0 (TL hx);simp only[Iq,ih f0 d];exact O3 ih O d _ f h
def A2C(h:AW w b D F Ft)(da:Int)(W:gy)(I:gD Int)(ht:Mb w W I)(aB:∀ad n c x,n≠0->W=.slice ad n c->ad=some x->¬Ft x.block)(O:D.A6.length<1099511627776/\D.AF.length<1099511627776/\D.As.length<1099511627776/\∀c∈D.As,c.length<1099511627776)(hdi : -9223372036854775808<=da/\da<=9223372036854775807)(aA:∀t∈I,-9223372036854775808<=t/\t<=9223372036854775807)(hF:∀f,D.Aq f->0<=(F f).2/\(F f).2<=(F f).1.length/\(F f).1.length<=1099511627776):
 Ag 32 #[A5 b,A0 da,W] w (Aj (.tuple #[]) λw'=>Ev w Ft w' b (Fh D F da I).1 (Fh D F da I).2):=by
 obtain⟨r,G,h1,h2,h3⟩:=h;have⟨l1,l2,l3,l4⟩:=Kt D r
 refine(A2B w b _ G Ft h1 da W I ht aB (by
  rw[l1,l2,l3];refine⟨O.1,O.2.1,O.2.2.1,λc hc=>?_⟩;obtain⟨c0,X,rfl⟩:=Cl.1 hc
  rw[Jl];exact O.2.2.2 c0 X) hdi aA (λY z=>by
  obtain⟨f,L,rfl⟩:=DS.cZ z
  rw[h2 f L];exact hF f L)).mono ?_
 rintro e w'⟨L,q2⟩;have d:∀f,(Fh D F da I).1.Aq f->D.Aq f:=by
  rintro f (E|E|⟨c,hc,_⟩)
  ·exact PT D da f E
  ·exact PT D da f E
  ·cases hc
 refine⟨L,q2.bn (r:=r) ?_ (λf E=>?_) λf Y E z=>h3 f Y (d f E) (d Y z)⟩
 ·simp only[Fh,US];rfl
 ·simp only[Fh,US,Sb,Jl];exact A2E h2 h3 (PT D da) I _ _ f (d f E)
end
def Up(N:Nat):Nat->Prop:=λk=>N<=k
def AW.aa{w:gx}{b:Nat}{D:DS}{F:Nat->FC}{Ft:Nat->Prop}(h:AW w b D F Ft):AW w.drew b D F Ft:=h.aM λ_ _=>rfl
def Ev.dW{w w':gx}{b:Nat}{D:DS}{F:Nat->FC}{Ft:Nat->Prop}(h:Ev w.drew Ft w' b D F):Ev w Ft w' b D F:=by
 obtain⟨d,z⟩:=h;exact⟨⟨d.os,d.DU,d.DW,d.Ak,d.Al⟩,z⟩
section
variable{w:gx}{b fb:Nat}{D:DS}{F:Nat->FC}{Ft:Nat->Prop}{T:TypeId}{nd:gC}{s:Nat}
def UP(d:Bi w fb T (A5 b) nd s)(h:AW w b D F Ft)(k:Nat)(z:¬D.Aq k)(L:D.A6.length<1099511627776/\D.As.length<1099511627776):
 Ag 240 #[A5 fb] w (Aj (A0 (CV D nd k).1) λw'=>Ev w Ft w' b (CV D nd k).2 (upd F k ([],0))):=by
 have c0:=d.c0;have c1:=d.c1;have CR:=A1 (A2v h.aa nd k z L);generalize hq:(CV D nd k).1=q at CR ⊢
 go_enter func240,ntmps240
 go_wp2;refine FN (λw'=>A8 w' fb 0 (A5 b)/\A8 w' fb 1 (.string nd)) 8
  (Ba [0,1,2,3,4,5,6,7] []) (by kernel_rfl) (by kernel_rfl) (λ_ _ _ _ _ h=>h) ⟨c0,c1⟩ ?_
 iterate 8 (refine E1 (v:=?_) rfl (by rfl) ?_ ?_;rotate_left;(· (intro w' E;(try dsimp only at E);go_simp;try with_reducible rfl));(try simp only[BO]))
 refine Fx ?_;simp only[DH,Dl];go_wp2_with (go_at_call 83;refine CR.k ?_;rintro w' O;have I:=A1 O);go_ret;exact⟨rfl,I.o.dW⟩
def Xi(d:Bi w fb T (A5 b) nd s)(h:AW w b D F Ft):
 Ag 164 #[A5 fb] w (Aj (A0 (CN D F nd).1) λw'=>Ev w Ft w' b (CN D F nd).2.1 (CN D F nd).2.2):=by
 have c0:=d.c0;have c1:=d.c1;have CR:=A1 (Rh h.aa nd);generalize hq:(CN D F nd).1=q at CR ⊢
 go_enter func164,ntmps164
 go_wp2;refine FN (λw'=>A8 w' fb 0 (A5 b)/\A8 w' fb 1 (.string nd)) 8
  (Ba [0,1,2,3,4,5,6,7] []) (by kernel_rfl) (by kernel_rfl) (λ_ _ _ _ _ h=>h) ⟨c0,c1⟩ ?_
 iterate 8 (refine E1 (v:=?_) rfl (by rfl) ?_ ?_;rotate_left;(· (intro w' z;(try dsimp only at z);go_simp;try with_reducible rfl));(try simp only[BO]))
 refine Fx ?_;simp only[DH,Dl];go_wp2_with (go_at_call 85;refine CR.k ?_;rintro w' I;have E:=A1 I);go_ret;exact⟨rfl,E.o.dW⟩
end
def Eb(D:DS)(F:Nat->FC)(nd:gC):gD UInt8×Int:=match lookup D.A6 nd with
 | some f=>((F f).1,0)
 | none=>([],8)
def AW.aw{w w':gx}{b:Nat}{D:DS}{F:Nat->FC}{Ft:Nat->Prop}(h:AW w b D F Ft)(d:∀k,Ft k->k<w.heap.size)(E:A4 Aa w w'):AW w' b D F Ft:=h.aM λk z=>E.Al k (d k z) (λh=>h)
section
variable{w:gx}{b fb:Nat}{D:DS}{F:Nat->FC}{Ft:Nat->Prop}{T:TypeId}{nd:gC}{s:Nat}
def Vx(hf:Bi w fb T (A5 b) nd s)(h:AW w b D F Ft):
 Ag 166 #[A5 fb] w (Aj (.tuple #[.string ⟨(Eb D F nd).1.toArray⟩,A0 (Eb D F nd).2]) λw'=>A4 Aa w w'):=by
 obtain⟨d,aA⟩:∃d,(CJ D F nd).1=d:=⟨_,rfl⟩;obtain⟨ze,I⟩:∃ze,(CJ D F nd).2=ze:=⟨_,rfl⟩;have aR:∀w',AW w' b D F Ft->Ag 81 #[A5 b,.string nd] w' λe W=>e=.returned (.tuple #[A0 d,A0 ze])/\w'=W:=λw' h=>by
  rw[<-aA,<-I];exact Ob h nd
 have aQ:∀w',AW w' b D F Ft->Ag 82 #[A5 b,.string nd,A0 0,A0 d] w' λe W=>e=.returned (.tuple #[.string ⟨(FH D F nd 0 d).1.toArray⟩,A0 (FH D F nd 0 d).2])/\w'=W:=λw' h=>Z6 h nd 0 d;have aG:=A1 aR;have aP:=A1 aQ;have aB:(ze=0/\Hid ((FH D F nd 0 d).1=(Eb D F nd).1/\(FH D F nd 0 d).2=(Eb D F nd).2))\/(ze=8/\Hid ((Eb D F nd).1=[]/\(Eb D F nd).2=8)):=by
  unfold CJ at aA I;unfold FH Eb Hid;cases hx:lookup D.A6 nd with
  | none=>rw[hx]at I;exact .inr ⟨I.symm,rfl,rfl⟩
  | some f=>
   rw[hx]at I aA;subst aA;refine .inl ⟨I.symm,?_⟩;dsimp only
   rw[Af (by omega)];simp
 obtain⟨rs,aI⟩:∃rs,(Eb D F nd).1=rs:=⟨_,rfl⟩;obtain⟨re,aN⟩:∃re,(Eb D F nd).2=re:=⟨_,rfl⟩;rw[aI,aN]at aB ⊢
 go_enter func166,ntmps166
 go_wp2;refine HN 13 (λy=>{tmps:=#[A5 fb,undef,.string ⟨#[]⟩,A0 0,y 12,undef,y 9,y 0,y 1,y 2,y 3,y 4,y 5,y 6,y 7,y 8,y 10,y 11,undef,undef,undef,undef,undef,undef,undef,undef,undef,undef,undef,undef,undef,undef,undef],defers:=[]}) (λ_=>undef)
  (λw'=>Bi w' fb T (A5 b) nd s/\AW w' b D F Ft/\A4 Aa w w') (A4 Aa)
  (λj x w'=>match j with
   | 0=>x=(A5 fb)
   | 1=>x=(A5 fb)
   | 2=>x=(A5 fb)
   | 3=>x=(A5 b)
   | 4=>x=(A5 fb)
   | 5=>x=(A5 fb)
   | 6=>x=.pointer (some (A9 fb 1))
   | 7=>x=.string nd
   | 8=>x=.tuple #[A0 d,A0 ze]
   | 9=>x=.tuple #[A0 d,A0 ze]
   | 10=>x=A0 d
   | 11=>x=A0 ze
   | 12=>x=A0 d
   | _=>True)
  (by kernel_rfl) (by kernel_rfl) rfl ?_ ?_ ?_ ?_
 ·exact⟨hf,h.aa,(A4.C _ _).aa⟩
 ·intro j x w1 w2 hR aM X;split at X<;>exact X
 ·simp only[FJ,Fp,Ge,Io]
  repeat' (with_reducible apply And.intro)
  all_goals refine⟨?_,(by intro y O _ _ h;exact Bool.noConfusion h),λy x=>rfl⟩
  all_goals
   intro y O hS Y hw K hK;obtain⟨E,aD,aE⟩:=hS;simp[GI,Region.binds,FL,List.filter_cons]at Y;have c0:=E.c0;have c1:=E.c1;have L:Hid (Bi O fb T (A5 b) nd s/\AW O b D F Ft/\A4 Aa w O):=⟨E,aD,aE⟩;have aF:=A1 hK
  all_goals dsimp only
  all_goals try go_simp
  all_goals try with_reducible exact aF.o _ _ _ rfl (by simp[Act.put,Y]) (A4.C _ _) L.o
  all_goals try
   (have aH:y 3=(A5 b):=by with_reducible exact Y.1);refine(aG.o O L.o.2.1).k ?_;rintro w2 rfl;exact aF.o _ _ _ rfl (by simp[Act.put,Y]) (A4.C _ _) L.o
 ·intro y O hS X;have aL:=X 11 (by omega);have aJ:=X 12 (by omega);have L:=A1 hS;rcases aB with⟨rfl,aB⟩|⟨rfl,aB⟩
  ·(have aO:∀w',AW w' b D F Ft->Ag 82 #[A5 b,.string nd,A0 0,A0 d] w' λe W=>e=.returned (.tuple #[.string ⟨rs.toArray⟩,A0 re])/\w'=W:=by rw[<-aB.o.1,<-aB.o.2];exact aP.o);have aK:=A1 aO;go_wp2;refine HN 13 (λz=>{tmps:=#[A5 fb,undef,z 12,A0 0,A0 d,A0 0,y 9,y 0,y 1,y 2,y 3,y 4,y 5,y 6,y 7,y 8,y 10,A0 0,A0 0,.bool false,undef,z 0,z 1,z 2,z 3,z 4,z 5,z 6,z 7,z 8,z 9,z 10,z 11],defers:=[]}) (λj=>if j=12 then .string ⟨#[]⟩ else undef)
    (λw'=>Bi w' fb T (A5 b) nd s/\AW w' b D F Ft/\A4 Aa w w') (A4 Aa)
    (λj x w'=>match j with
     | 0=>x=(A5 fb)
     | 1=>x=(A5 fb)
     | 2=>x=(A5 fb)
     | 3=>x=(A5 b)
     | 4=>x=(A5 fb)
     | 5=>x=(A5 fb)
     | 6=>x=.pointer (some (A9 fb 1))
     | 7=>x=.string nd
     | 8=>x=A0 d
     | 9=>x=.tuple #[.string ⟨rs.toArray⟩,A0 re]
     | 10=>x=.string ⟨rs.toArray⟩
     | 11=>x=A0 re
     | 12=>x=.string ⟨rs.toArray⟩
     | _=>True)
    (by kernel_rfl) (by kernel_rfl) rfl ?_ ?_ ?_ ?_
   ·exact⟨L.o.1,L.o.2.1.aa,L.o.2.2.aa⟩
   ·intro j x w1 w2 hR aM X;split at X<;>exact X
   ·clear L aL aJ;simp only[FJ,Fp,Ge,Io]
    repeat' (with_reducible apply And.intro)
    all_goals refine⟨?_,(by intro y O _ _ h;exact Bool.noConfusion h),λy x=>rfl⟩
    all_goals
     intro z O hS Y hw K hK;obtain⟨E,aD,aE⟩:=hS;simp[GI,Region.binds,FL,List.filter_cons]at Y;have c0:=E.c0;have c1:=E.c1;have L:Hid (Bi O fb T (A5 b) nd s/\AW O b D F Ft/\A4 Aa w O):=⟨E,aD,aE⟩;have aF:=A1 hK
    all_goals dsimp only
    all_goals try go_simp
    all_goals try with_reducible exact aF.o _ _ _ rfl (by simp[Act.put,Y]) (A4.C _ _) L.o
    all_goals try
     (have aH:z 3=(A5 b):=by with_reducible exact Y.1);refine(aK.o O L.o.2.1).k ?_;rintro w2 rfl;exact aF.o _ _ _ rfl (by simp[Act.put,Y]) (A4.C _ _) L.o
   ·intro z wz hZ X;have z11:=X 11 (by omega);have z12:=X 12 (by omega);have aS:=A1 hZ;go_wp2;go_ret2;exact⟨rfl,aS.o.2.2⟩
  ·go_wp2;go_ret2;rw[aB.o.1,aB.o.2];exact⟨rfl,L.o.2.2⟩
end
def A4.fZ{S:Nat->Prop}{w:gx}(k:Nat)(os:Array Obj):A4 S w (Go.Sort.grow (w.drewN k) os):=
 ⟨rfl,rfl,rfl,(by show w.heap.size<=(w.heap++os).size;simp),λj d _=>(by show (w.heap++os)[j]?=_;rw[Array.getElem?_append_left d])⟩
def Ey(lt:gD UInt8)(n:Int):gD UInt8:=lt++Lib.repeatL [48] (19-(Lib.itoa n).length)++Lib.itoa n
def Dh(s:Int):gD UInt8:=if s=1 then [108] else if s=2 then [115] else if s=3 then [105] else if s=4 then [100] else []
def BT(s n:Int):gD UInt8:=if s=1\/s=2 then Ey (Dh s) n else Dh s
def Pc(w:gx)(s:Int):Ag 133 #[A0 s] w (Aj (.bool (decide (s=1\/s=2))) λw'=>w=w'):=by
 go_enter func133,ntmps133
 by_cases h:s=1
 ·subst h;go_wp2;go_ret;exact⟨rfl,rfl⟩
 ·by_cases d:s=2
  ·subst d;go_wp2;go_ret;exact⟨rfl,rfl⟩
  ·go_wp2;go_ret;exact⟨by simp[h,d],rfl⟩
def A0o(w:gx)(s:Int)(k:Nat)(hs:s=k/\(k=1\/k=2))(lt:gD UInt8)(n:Int)(hn : -9223372036854775808<=n/\n<=9223372036854775807)(hlt:lt.length<=1000)(X:(Lib.itoa n).length<=19)(hl:A8 w 0 k (.string ⟨lt.toArray⟩))(L:Lib.TabIs Tryz.prog w "internal/strconv.uint64pow10" .u64 Lib.pow10Tab):
 Ag 134 #[A0 s,A0 n] w (Aj (.string ⟨(Ey lt n).toArray⟩) λw'=>A4 Aa w w'):=by
 obtain⟨rfl,hk⟩:=hs;obtain⟨aI,aN⟩:=hn;have aA:(k:Int)<5:=by omega
 have W:(k:Int)=1\/(k:Int)=2:=by omega
 have aH:decide ((k:Int)=1\/(k:Int)=2)=true:=Cu W;have aK:=A1 (Tryz.strconv_Itoa n aI aN w L);have aS:∀w',_:=λw'=>Tryz.strings_Repeat ⟨#[48]⟩ (19-(Lib.itoa n).length) w' (by omega) (by show 1*_<=_;omega);have I:=A1 aS;have E:Hid (Ey lt n=lt++Lib.repeatL [48] (19-(Lib.itoa n).length)++Lib.itoa n):=rfl;have z:=Lib.repeatL_length [48] (19-(Lib.itoa n).length);generalize aJ:Lib.itoa n=dg at aK X I E z;clear aS aJ L;obtain⟨c,hc,hcl⟩:∃c:Nat,19-dg.length=c/\dg.length+c=19:=⟨_,rfl,by omega⟩;rw[hc]at I E z;clear hc;obtain⟨d,O⟩:∃d,Lib.repeatL [48] c=d:=⟨_,rfl⟩;have aE:Hid (∀w':gx,Ag 174 #[.string ⟨#[48]⟩,A0 (c:Int)] w' λe aM=>e=.returned (.string ⟨d.toArray⟩)/\Below w'.heap.size w' aM):=by
  rw[<-O];exact I.o
 rw[O]at E z;clear O I;have hrl2:d.length<=19:=by rw[z];simp;omega
 clear z;generalize aB:Ey lt n=nm at E ⊢;have aP:=A1 hl;clear aB hl
 go_enter func134,ntmps134
 go_wp2_with (fail);refine(Pc w k).k ?_;rintro w0 rfl;rw[aH];have HK1:=A1 hk;have HK2:=A1 W;have aO:=A1 aA;clear hk W aA aH;go_wp2_with (go_at_call 173;refine aK.k ?_;rintro w1 hw;have aR:=A1 hw;clear hw);have aD:Hid (A4 Aa w w1):=by
  have⟨k,os,he⟩:=aR.o;rw[he];exact A4.fZ k os
 have aG:=A1 (aD.o.ah aP.o);clear aR aK aP;refine HN 10 (λy=>{tmps:=#[A0 k,A0 n,undef,undef,.string ⟨#[]⟩,.string ⟨dg.toArray⟩,A0 k,.bool true,.bool false,undef,undef,undef,A0 n,.string ⟨dg.toArray⟩,y 0,y 1,y 2,y 3,y 4,y 5,y 6,y 7,y 8,y 9],defers:=[]}) (λ_=>undef)
  (λw'=>A8 w' 0 k (.string ⟨lt.toArray⟩)/\A4 Aa w1 w') (A4 Aa)
  (λj x w'=>match j with
   | 0=>x=A0 k
   | 1=>x=.pointer (some (A9 0 k))
   | 2=>x=.string ⟨lt.toArray⟩
   | 3=>x=.string ⟨dg.toArray⟩
   | 4=>x=A0 dg.length
   | 5=>x=A0 (c:Int)
   | 6=>x=.string ⟨d.toArray⟩
   | 7=>x=.string ⟨(lt++d).toArray⟩
   | 8=>x=.string ⟨dg.toArray⟩
   | 9=>x=.string ⟨nm.toArray⟩
   | _=>True)
  (by kernel_rfl) (by kernel_rfl) rfl ?_ ?_ ?_ ?_
 ·exact⟨aG.o,(A4.C _ _).aa⟩
 ·intro j x w1 w2 hR hS' hG;split at hG<;>exact hG
 ·clear aG;simp only[FJ,Fp,Ge,Io]
  repeat' (with_reducible apply And.intro)
  all_goals refine⟨?_,(by intro y Y _ _ h;exact Bool.noConfusion h),λy x=>rfl⟩
  all_goals
   intro y Y hS X hw K hK;obtain⟨c0,aL⟩:=hS;simp[GI,Region.binds,FL,List.filter_cons]at X;have hk5:=aO.o;have hk0:=BJ k;have ap1:=Kw lt d;(have g1:¬(9223372036854775807<lt.length+d.length):=by omega);(have g2:¬(9223372036854775807<lt.length+d.length+dg.length):=by omega);(have g3:¬(9223372036854775807<lt.length+(d.length+dg.length)):=by omega);(have ap2:(ByteArray.mk (lt++d).toArray)++(ByteArray.mk dg.toArray)=⟨nm.toArray⟩:=by rw[Kw,E.o]);have ew:IntKind.i64.wrap (c:Int)=c:=Eo (by omega);(have ew2:(19:Int)-(dg.length:Int)=(c:Int):=by omega);have aF:Hid (A8 Y 0 k (.string ⟨lt.toArray⟩)/\A4 Aa w1 Y):=⟨c0,aL⟩;have aQ:=A1 hK
  all_goals dsimp only
  all_goals try go_simp
  all_goals try with_reducible exact aQ.o _ _ _ rfl (by simp[Act.put,X]) (A4.C _ _) aF.o
  all_goals try
   (have hd5:y 5=A0 (c:Int):=by with_reducible exact X);refine(aE.o Y).k ?_;rintro w2 hb;have hc:A4 Aa Y w2:=A4.cY hb;exact aQ.o _ _ _ rfl (by simp[Act.put,X]) hc ⟨hc.ah aF.o.1,aF.o.2.tr hc⟩
 ·intro y Y hS hG;have h9:y 9=.string ⟨nm.toArray⟩:=hG 9 (by omega);have aF:=A1 hS;go_wp2;go_ret;exact⟨rfl,aD.o.tr aF.o.2⟩
def TC(w:gx)(k:Nat)(hk:k=3\/k=4)(lt:gD UInt8)(n:Int)(hl:A8 w 0 k (.string ⟨lt.toArray⟩)):
 Ag 134 #[A0 k,A0 n] w (Aj (.string ⟨lt.toArray⟩) λw'=>w=w'):=by
 have hk1:(k:Int)<5:=by omega
 have hk0:=BJ k;have d:decide ((k:Int)=1\/(k:Int)=2)=false:=Cv (by omega)
 go_enter func134,ntmps134
 go_wp2_with (fail);refine(Pc w k).k ?_;rintro w0 rfl;rw[d];go_wp2;go_ret;exact⟨rfl,rfl⟩
def I1.a1{w d w':gx}{b o:Nat}{cs:Array gy}{T:Nat}{lv lv':gy}{z:gD Pt}(h:I1 d w' b o cs T lv z lv')(E:A4 Aa w d):I1 w w' b o cs T lv z lv':=
 ⟨h.Bp,(E.aT).tr h.Am,λg I=>(h.AB g I).imp id λh=>AP E.Ak h⟩
def A05(w:gx)(O d:Nat)(cs:Array gy)(T:Nat)(hT:T≠70)(A7 ld t v:Int)(L:gD Pt)(lv:gy)(hsr:d<8)(h:HI w O (7+d) cs T L lv)(aG:L.length<1099511627775)(h3:cs[3]?=some (A0 ld))(h4:cs[5]?=some (A0 A7))(hl:1<=ld/\ld<=4611686018427387904)(hc:Ay A7):
 Ag 60 #[A5 O,.agg #[A0 d,A0 t,A0 v]] w (Aj (.tuple #[]) λw'=>
  ((AN A7 ld<=t/\∃lv',I1 w w' O (7+d) cs T lv (Cc L t v) lv')\/(t<AN A7 ld/\A4 Aa w w'))):=by
 have c3:A8 w O 3 (A0 ld):=by simp[A8,World.cell?,h.Ae,h3]
 have c4:A8 w O 5 (A0 A7):=by simp[A8,World.cell?,h.Ae,h4]
 have aI:∀w',A4 Aa w w'->_:=λw' W=>ML w' O A7 ld (W.ah c3) (W.ah c4) hl hc;generalize ho:AN A7 ld=o at aI ⊢;have aK:∀w',A4 Aa w w'->_:=λw' W=>Zg w' O (7+d) cs T hT L lv t v (h.Am W) aG;have aA:=A1 aI;have aB:=A1 aK
 go_enter func60,ntmps60
 go_wp2;have hb:(w.alloc (.cells #[A0 d,A0 t,A0 v] 113)).heap[w.heap.size]?=some (.cells #[A0 d,A0 t,A0 v] 113 (0,0)):=by show (w.heap.push _)[w.heap.size]?=_;rw[Je]
 have I:Hid ((w.alloc (.cells #[A0 d,A0 t,A0 v] 113)).heap[w.heap.size]?=some (.cells #[A0 d,A0 t,A0 v] 113 (0,0))/\A4 Aa w (w.alloc (.cells #[A0 d,A0 t,A0 v] 113))):=⟨hb,(A4.C _ w).aj _⟩;generalize (w.alloc (.cells #[A0 d,A0 t,A0 v] 113))=w1 at I ⊢;refine HN 5 (λy=>{tmps:=#[A5 O,.agg #[A0 d,A0 t,A0 v],undef,A5 w.heap.size,y 0,y 1,y 2,y 3,y 4,undef,undef,undef,undef,undef,undef,undef,undef,undef,undef],defers:=[]}) (λ_=>undef)
  (λw'=>w'.heap[w.heap.size]?=some (.cells #[A0 d,A0 t,A0 v] 113 (0,0))/\A4 Aa w w') (A4 Aa)
  (λj x w'=>match j with
   | 0=>x=.pointer (some (A9 w.heap.size 1))
   | 1=>x=.pointer (some (A9 w.heap.size 1))
   | 2=>x=A0 t
   | 3=>x=(A5 O)
   | 4=>x=A0 o
   | _=>True)
  (by kernel_rfl) (by kernel_rfl) rfl ?_ ?_ ?_ ?_
 ·exact⟨I.o.1,I.o.2.aa⟩
 ·intro j x w1 w2 hR hS' hG;split at hG<;>exact hG
 ·clear I;simp only[FJ,Fp,Ge,Io]
  repeat' (with_reducible apply And.intro)
  all_goals refine⟨?_,(by intro y z _ _ h;exact Bool.noConfusion h),λy x=>rfl⟩
  all_goals
   intro y z X hd hw K hK;obtain⟨Y,aF⟩:=X;simp[GI,Region.binds,FL,List.filter_cons]at hd;(have p1:A8 z w.heap.size 1 (A0 t):=by simp[A8,World.cell?,Y]);have E:Hid (z.heap[w.heap.size]?=some (.cells #[A0 d,A0 t,A0 v] 113 (0,0))/\A4 Aa w z):=⟨Y,aF⟩;have aJ:=A1 hK
  all_goals dsimp only
  all_goals try go_simp
  all_goals try with_reducible exact aJ.o _ _ _ rfl (by simp[Act.put,hd]) (A4.C _ _) E.o
  all_goals
   refine(aA.o z E.o.2).k ?_;rintro w2 W;exact aJ.o _ _ _ rfl (by simp[Act.put,hd]) W ⟨W.al E.o.1 (by simp),E.o.2.tr W⟩
 ·intro y z X hG;have h2:y 2=A0 t:=hG 2 (by omega);have h4:y 4=A0 o:=hG 4 (by omega);have p0:A8 z w.heap.size 0 (A0 d):=by simp[A8,World.cell?,X.1]
  have p1:A8 z w.heap.size 1 (A0 t):=by simp[A8,World.cell?,X.1]
  have p2:A8 z w.heap.size 2 (A0 v):=by simp[A8,World.cell?,X.1]
  have E:=A1 X;have hsrI:(d:Int)<8:=by omega
  by_cases aD:o<=t
  ·go_wp2;refine FN (λw'=>A8 w' w.heap.size 0 (A0 d)/\A8 w' w.heap.size 1 (A0 t)/\A8 w' w.heap.size 2 (A0 v)) 8
    (Ba [0,1,2,3,4,5,6,7] []) (by kernel_rfl) (by kernel_rfl) (λ_ _ _ _ _ h=>h) ⟨p0,p1,p2⟩ ?_
   iterate 8 (refine E1 (v:=?_) rfl (by rfl) ?_ ?_;rotate_left;(· (intro w' X;(try dsimp only at X);go_simp;try with_reducible rfl));(try simp only[BO]))
   refine Fx ?_;simp only[DH,Dl];have aH:=A1 (aB.o z.drew E.o.2.aa);go_wp2_with (go_at_call 102;refine aH.k ?_;rintro w2⟨lv',hR⟩;have aE:=A1 hR);go_end0
   first|exact⟨rfl,lv',aE.o.before E.o.2.drew⟩|exact⟨rfl,.inl ⟨lv',aE.o.before E.o.2.drew⟩⟩|exact⟨rfl,.inl ⟨aD,lv',aE.o.a1 E.o.2.aa⟩⟩
  ·(have hlt:t<o:=by omega);go_wp2;go_end0;exact⟨rfl,.inr E.o.2⟩
end
abbrev Tryz.gg:Go.Conc.Locks.MuLink:={lock:=61,unlock:=62,ilock:=103,iunlock:=104,lockSlow:=144,unlockSlow:=147,disable:=140,enable:=142,acquire:=143,relMerge:=145,cas32:=141,add32:=146,tMutex:=106,tIMutex:=104,tPMutex:=167,tPIMutex:=213,tPI32:=215,tUP:=217,tNoCopy:=101,tU32:=102}
def Tryz.bp:Go.Conc.Locks.MuLib Tryz.prog Tryz.gg:=
 ⟨func61,func62,func103,func104,func140,func142,func143,func145,func141,func146,
  underlying104,Tryz.runUnderlying104,sizeOf104,isAgg104,zeroValue104,
  underlying106,Tryz.runUnderlying106,sizeOf106,isAgg106,zeroValue106,
  underlying167,Tryz.runUnderlying167,sizeOf167,isAgg167,zeroValue167,
  underlying213,Tryz.runUnderlying213,sizeOf213,isAgg213,zeroValue213,
  underlying215,Tryz.runUnderlying215,sizeOf215,isAgg215,zeroValue215,
  underlying217,Tryz.runUnderlying217,sizeOf217,isAgg217,zeroValue217,
  underlying101,Tryz.runUnderlying101,sizeOf101,isAgg101,zeroValue101,
  underlying21,Tryz.runUnderlying21,sizeOf21,isAgg21,zeroValue21,(by kernel_rfl)⟩
section
open Go.RowKit
def G6(mu:Int)(jv:gy)(ld wc A7:Int)(ro:Bool)(lv:Nat->gy):Array Value:=
 #[.int .i32 mu,.int .u32 0,jv,.int .i64 ld,.int .i64 wc,.int .i64 A7,.bool ro,lv 0,lv 1,lv 2,lv 3,lv 4,lv 5,lv 6,lv 7]
def Bx(w:gx)(sb:Nat)(mu:Int)(jv:gy)(ld wc A7:Int)(ro:Bool)(lv:Nat->gy):Prop:=
 w.heap[sb]?=some (.cells (G6 mu jv ld wc A7 ro lv) 111 (0,0))
section
variable{w:gx}{sb:Nat}{mu:Int}{jv:gy}{ld wc A7:Int}{ro:Bool}{lv:Nat->gy}
def Bx.c0(h:Bx w sb mu jv ld wc A7 ro lv):A8 w sb 0 (.int .i32 mu):=by unfold Bx at h;simp[A8,World.cell?,h,G6]
def Bx.c2(h:Bx w sb mu jv ld wc A7 ro lv):A8 w sb 2 jv:=by unfold Bx at h;simp[A8,World.cell?,h,G6]
def Bx.c3(h:Bx w sb mu jv ld wc A7 ro lv):A8 w sb 3 (A0 ld):=by unfold Bx at h;simp[A8,World.cell?,h,G6]
def Bx.cW(h:Bx w sb mu jv ld wc A7 ro lv):A8 w sb 4 (A0 wc):=by unfold Bx at h;simp[A8,World.cell?,h,G6]
def Bx.cK(h:Bx w sb mu jv ld wc A7 ro lv):A8 w sb 5 (A0 A7):=by unfold Bx at h;simp[A8,World.cell?,h,G6]
def Bx.cR(h:Bx w sb mu jv ld wc A7 ro lv):A8 w sb 6 (.bool ro):=by unfold Bx at h;simp[A8,World.cell?,h,G6]
def Bx.fz(h:Bx w sb mu jv ld wc A7 ro lv)(o:Nat):w.frozen? (A9 sb o)=false:=by unfold Bx at h;simp[World.frozen?,h]
def Bx.lt(h:Bx w sb mu jv ld wc A7 ro lv):sb<w.heap.size:=By h
def Bx.Am{S:Nat->Prop}{w':gx}(h:Bx w sb mu jv ld wc A7 ro lv)(z:A4 S w w')(d:¬S sb):Bx w' sb mu jv ld wc A7 ro lv:=(z.Al sb h.lt d).trans h
def Bx.s0(h:Bx w sb mu jv ld wc A7 ro lv)(x:Int):Bx (w.setCell (A9 sb 0) (.int .i32 x)) sb x jv ld wc A7 ro lv:=BQ h
def Bx.sK(h:Bx w sb mu jv ld wc A7 ro lv)(x:Int):Bx (w.setCell (A9 sb 5) (A0 x)) sb mu jv ld wc x ro lv:=BQ h
def Bx.sR(h:Bx w sb mu jv ld wc A7 ro lv)(x:Bool):Bx (w.setCell (A9 sb 6) (.bool x)) sb mu jv ld wc A7 x lv:=BQ h
def XT{mu:Int}{jv:gy}{ld wc A7:Int}{ro:Bool}{lv:Nat->gy}{k:Nat}(d:k<8):(G6 mu jv ld wc A7 ro lv)[7+k]?=some (lv k):=by
 match k,d with
 | 0,_=>rfl
 | 1,_=>rfl
 | 2,_=>rfl
 | 3,_=>rfl
 | 4,_=>rfl
 | 5,_=>rfl
 | 6,_=>rfl
 | 7,_=>rfl
def Ib(lv:Nat->gy)(k:Nat)(v:gy):Nat->Value:=λi=>if i=k then v else lv i
def XS{mu:Int}{jv:gy}{ld wc A7:Int}{ro:Bool}{lv:Nat->gy}{k:Nat}(d:k<8)(v:gy):(G6 mu jv ld wc A7 ro lv).setIfInBounds (7+k) v=G6 mu jv ld wc A7 ro (Ib lv k v):=by
 match k,d with
 | 0,_=>rfl
 | 1,_=>rfl
 | 2,_=>rfl
 | 3,_=>rfl
 | 4,_=>rfl
 | 5,_=>rfl
 | 6,_=>rfl
 | 7,_=>rfl
end
structure Es (w:gx) (lv:Nat->gy) (L:Nat->gD Pt):Prop where
 Bp:∀k,k<8->Ck w (lv k) (L k)
 G7:∀k,k<8->DP (L k)
 CE:∀k,k<8->(L k).length<1099511627775
 L6:∀i j,i<8->j<8->i≠j->∀g,(lv i).ownBlock=some g->(lv j).ownBlock≠some g
def EW(lv:Nat->gy)(g:Nat):Prop:=∃k,k<8/\(lv k).ownBlock=some g
def Es.lt{w:gx}{lv:Nat->gy}{L:Nat->gD Pt}(h:Es w lv L){g:Nat}(z:EW lv g):g<w.heap.size:=by
 obtain⟨k,d,e⟩:=z;exact Aw (h.Bp k d) e
def Es.Am{S:Nat->Prop}{w w':gx}{lv:Nat->gy}{L:Nat->gD Pt}(h:Es w lv L)(I:A4 S w w')(E:∀g,EW lv g->¬S g):Es w' lv L:=
 ⟨λk d=>Au (h.Bp k d) λg z=>I.Al g (Aw (h.Bp k d) z) (E g ⟨k,d,z⟩),h.G7,h.CE,h.L6⟩
def Es.dp{w:gx}{lv:Nat->gy}{L:Nat->gD Pt}(h:Es w lv L){g:Nat}(z:EW lv g):∃c,w.heap[g]?=some (.cells c 70 (0,0)):=by
 obtain⟨k,d,e⟩:=z;exact Bb (h.Bp k d) e
def Es.ne{w:gx}{lv:Nat->gy}{L:Nat->gD Pt}(h:Es w lv L){sb:Nat}{c:Array gy}{T:TypeId}(z:w.heap[sb]?=some (.cells c T (0,0)))(d:T≠70):¬EW lv sb:=λE=>by
 have⟨c',hh⟩:=h.dp E;rw[z]at hh;cases hh;exact d rfl
def Es.dU{w:gx}{lv:Nat->gy}{L:Nat->gD Pt}(h:Es w lv L){sb:Nat}{mu:Int}{jv:gy}{ld wc A7:Int}{ro:Bool}(z:Bx w sb mu jv ld wc A7 ro lv){k:Nat}(d:k<8):
 HI w sb (7+k) (G6 mu jv ld wc A7 ro lv) 111 (L k) (lv k):=
 ⟨z,XT d,h.Bp k d,h.G7 k d,Nat.lt_trans (h.CE k d) (by decide)⟩
def Hs(L:Nat->gD Pt)(k:Nat)(l:gD Pt):Nat->gD Pt:=λi=>if i=k then l else L i
def X1{lv:Nat->gy}{k:Nat}{v:gy}{g:Nat}(h:EW (Ib lv k v) g):EW lv g\/v.ownBlock=some g:=by
 obtain⟨i,d,e⟩:=h;unfold Ib at e;split at e
 ·exact .inr e
 ·exact .inl ⟨i,d,e⟩
def Es.an{w w':gx}{lv:Nat->gy}{L:Nat->gD Pt}(h:Es w lv L){sb:Nat}{mu:Int}{jv:gy}{ld wc A7:Int}{ro:Bool}(hb:Bx w sb mu jv ld wc A7 ro lv){k:Nat}(Y:k<8){aA:gD Pt}{lv':gy}{t:Nat}(hR:I1 w w' sb (7+k) (G6 mu jv ld wc A7 ro lv) t (lv k) aA lv')(ht:t=111)(hl:aA.length<1099511627775):
 Bx w' sb mu jv ld wc A7 ro (Ib lv k lv')/\Es w' (Ib lv k lv') (Hs L k aA)/\A4 (λx=>x=sb\/EW lv x) w w'/\∀g,EW (Ib lv k lv') g->EW lv g\/w.heap.size<=g:=by
 subst ht;have X:=hR.Bp.Ae;rw[XS Y]at X;have O:=hR.AB;have hc:A4 (λx=>x=sb\/EW lv x) w w':=hR.Am.ai λx _ z=>z.imp id λe=>⟨k,Y,e⟩
 have aB:=h.ne hb (by decide);refine⟨X,⟨?_,?_,?_,?_⟩,hc,λg E=>?_⟩
 ·intro i I;unfold Ib Hs;by_cases e:i=k
  ·simp only[e,Cq];exact hR.Bp.Bp
  ·simp only[e,Cd];exact Au (h.Bp i I) λg E=>hR.Am.Al g (Aw (h.Bp i I) E) λz=>by
    rcases z with rfl|z
    ·exact aB ⟨i,I,E⟩
    ·exact h.L6 k i Y I (λx=>e x.symm) g z E
 ·intro i I;unfold Hs;by_cases e:i=k
  ·simp only[e,Cq];exact hR.Bp.G7
  ·simp only[e,Cd];exact h.G7 i I
 ·intro i I;unfold Hs;by_cases e:i=k
  ·simp only[e,Cq];exact hl
  ·simp only[e,Cd];exact h.CE i I
 ·intro i j I hj W g E d;unfold Ib at E d;by_cases e:i=k
  ·subst e;have e2:¬j=i:=λx=>W x.symm;simp only[Cq]at E;simp only[e2,Cd]at d;rcases O g E with z|z
   ·exact h.L6 i j Y hj W g z d
   ·have:=Aw (h.Bp j hj) d;omega
  ·simp only[e,Cd]at E;by_cases e2:j=k
   ·subst e2;simp only[Cq]at d;rcases O g d with z|z
    ·exact h.L6 i j I Y W g E z
    ·have:=Aw (h.Bp i I) E;omega
   ·simp only[e2,Cd]at d;exact h.L6 i j I hj W g E d
 ·rcases X1 E with z|z
  ·exact .inl z
  ·rcases O g z with hy|hy
   ·exact .inl ⟨k,Y,hy⟩
   ·exact .inr hy
def Bx.bH{w:gx}{sb:Nat}{jv:gy}{ld wc A7:Int}{ro:Bool}{lv:Nat->gy}{L:Nat->gD Pt}(h:Bx w sb 0 jv ld wc A7 ro lv)(d:Es w lv L):
 Bx (w.setCell ⟨sb,0,none⟩ (.int .i32 1)) sb 1 jv ld wc A7 ro lv/\Es (w.setCell ⟨sb,0,none⟩ (.int .i32 1)) lv L/\A4 (One sb) w (w.setCell ⟨sb,0,none⟩ (.int .i32 1)):=
 ⟨h.s0 1,d.Am ((A4.C (One sb) w).ao rfl 0 _) (λg z e=>d.ne h (by decide) (e ▸ z)),(A4.C (One sb) w).ao rfl 0 _⟩
def Bx.df{w w':gx}{sb:Nat}{mu:Int}{jv:gy}{ld wc A7:Int}{ro:Bool}{lv:Nat->gy}(h:Bx w sb 0 jv ld wc A7 ro lv)(I:Bx w' sb mu jv ld wc A7 ro lv)(L:A4 (One sb) w w'):
 A4 (λ_=>False) w (w'.setCell ⟨sb,0,none⟩ (.int .i32 0)):=by
 have z:=I.s0 0;have d:=L.ao (b:=sb) rfl 0 (.int .i32 0);refine⟨d.os,d.DU,d.DW,d.Ak,λk E _=>?_⟩;by_cases e:k=sb
 ·subst e;unfold Bx at h z;rw[h,z]
 ·exact d.Al k E e
end
section
open Go.MuLone Go.RowKit
attribute [local go_sem ↓] Go.wp_at_zero Go.wp_at_succ CL
section
variable{w:gx}{sb:Nat}{jv:gy}{ld wc A7:Int}{ro:Bool}{lv:Nat->gy}{L:Nat->gD Pt}
def Rw(w:gx)(h:Bx w sb 0 jv ld wc A7 ro lv):
 Calls Tryz.prog 38 #[.pointer (some ⟨sb,0,none⟩)] w λe w'=>e=.returned (.agg #[.bool ro,.int .i64 A7])/\A4 (λ_=>False) w w':=by
 have hA:∀o,Bx (w.alloc o) sb 0 jv ld wc A7 ro lv:=λo=>h.Am ((A4.C (λ_=>False) w).aj o) (λh=>h);have aA:=A1 hA;have H:=A1 h;have hlt:=h.lt
 go_enter_defers func38,ntmps38
 go_wp2_with (go_at_call 61;refine(Ih Tryz.bp ⟨sb,0,none⟩ _ (aA.o _).c0 ((aA.o _).fz 0)).k ?_;rintro w' rfl);have X:∀o,Bx ((w.setCell ⟨sb,0,none⟩ (.int .i32 1)).alloc o) sb 1 jv ld wc A7 ro lv/\A4 (One sb) w ((w.setCell ⟨sb,0,none⟩ (.int .i32 1)).alloc o):=λo=>
  ⟨(H.o.s0 1).Am ((A4.C (λ_=>False) _).aj o) (λh=>h),((A4.C (One sb) w).ao rfl 0 _).aj o⟩
 have⟨hb1,hc1⟩:=X (.cells #[.bool false,.int .i64 0] 74);have d:((w.setCell ⟨sb,0,none⟩ (.int .i32 1)).alloc (.cells #[.bool false,.int .i64 0] 74)).heap[w.heap.size]?=some (.cells #[.bool false,.int .i64 0] 74 (0,0)):=by
  have:=Bl (w.setCell ⟨sb,0,none⟩ (.int .i32 1)) (.cells #[.bool false,.int .i64 0] 74);simpa using this
 generalize ((w.setCell ⟨sb,0,none⟩ (.int .i32 1)).alloc (.cells #[.bool false,.int .i64 0] 74))=w1 at hb1 hc1 d ⊢;have c4:=hb1.cK;have c5:=hb1.cR;have r0:w1.cell? ⟨w.heap.size,0,none⟩=some (.bool false):=by simp[World.cell?,d]
 have r1:w1.cell? ⟨w.heap.size,1,none⟩=some (.int .i64 0):=by simp[World.cell?,d]
 have f0:w1.frozen? ⟨w.heap.size,0,none⟩=false:=by simp[World.frozen?,d]
 have f1:w1.frozen? ⟨w.heap.size,1,none⟩=false:=by simp[World.frozen?,d]
 have I:sb≠w.heap.size:=by omega
 have Y:=A1 hb1;have O:=A1 hc1;refine NV (λw'=>w'.cell? ⟨sb,5,none⟩=some (.int .i64 A7)/\w'.cell? ⟨sb,6,none⟩=some (.bool ro)) 11
  [(0,true),(1,true),(2,true),(3,true),(4,true),(5,true),(6,true),(7,true),(8,false),(9,true),(10,false)] (by kernel_rfl) (by kernel_rfl) ⟨c4,c5⟩ ?_
 iterate 8 (refine E1 (v:=?_) rfl (by rfl) ?_ ?_;rotate_left;(· (intro w' E;(try dsimp only at E);go_simp;try with_reducible rfl));(try simp only[BO]))
 refine Dv rfl (by rfl) (λK W=>?_);go_simp;refine W _ _ ⟨by simp[World.cell?_setCell_other,c4],by simp[World.cell?_setCell_other,c5]⟩ (λE=>?_)
 (try simp only[BO])
 iterate 1 (refine E1 (v:=?_) rfl (by rfl) ?_ ?_;rotate_left;(· (intro w' E;(try dsimp only at E);go_simp;try with_reducible rfl));(try simp only[BO]))
 refine Dv rfl (by rfl) (λK W=>?_);go_simp;refine W _ _ ⟨by simp[World.cell?_setCell_other,c4],by simp[World.cell?_setCell_other,c5]⟩ (λE=>?_)
 (try simp only[BO])
 refine Fx ?_;simp only[DH,Dl];go_wp2;rw[CL];go_wp2;generalize hW:(((w1.setCell ⟨w.heap.size,0,none⟩ (.bool false)).setCell ⟨w.heap.size,1,none⟩ (.int .i64 0)).setCell ⟨w.heap.size,0,none⟩ (.bool ro)).setCell ⟨w.heap.size,1,none⟩ (.int .i64 A7)=w2;have z:Bx w2 sb 1 jv ld wc A7 ro lv/\A4 (One sb) w w2/\w2.heap[w.heap.size]?=some (.cells #[.bool ro,.int .i64 A7] 74 (0,0)):=by
  subst hW;refine⟨?_,?_,?_⟩
  ·exact Y.o.Am (S:=One w.heap.size) (((((A4.C (One w.heap.size) w1).ao rfl 0 _).ao rfl 1 _).ao rfl 0 _).ao rfl 1 _) I
  ·(have n:∀(p:Addr),p.block=w.heap.size->p.block<w.heap.size->One sb p.block:=λp e h=>by omega);exact((((O.o.bh (n _ rfl) _).bh (n _ rfl) _).bh (n _ rfl) _).bh (n _ rfl) _)
  ·have:=BQ (o:=1) (v:=.int .i64 A7) (BQ (o:=0) (v:=.bool ro) (BQ (o:=1) (v:=.int .i64 0) (BQ (o:=0) (v:=.bool false) d)));simpa using this
 refine Ii (f:=62) (args:=#[.pointer (some ⟨sb,0,none⟩)]) (by simp) (by simp[go_sem]) ?_;refine(Ie Tryz.bp ⟨sb,0,none⟩ .returning _ ?_ ?_).mono ?_
 ·exact z.1.c0
 ·exact z.1.fz 0
 rintro e u' w''⟨rfl,rfl,rfl⟩;have d0:w2.cell? ⟨w.heap.size,0,none⟩=some (.bool ro):=by simp[World.cell?,z.2.2]
 have d1:w2.cell? ⟨w.heap.size,1,none⟩=some (.int .i64 A7):=by simp[World.cell?,z.2.2]
 refine⟨_,?_,rfl,H.o.df (w':=w2.drew) z.1 z.2.1.aa⟩;simp[results,Tryz.results38,go_sem,d0,d1]
def Zd(w:gx)(k a b:Int)(h:Bx w sb 0 jv ld wc A7 ro lv)(z:¬(0<=k/\k<8)):
 Ag 37 #[A5 sb,A0 k,A0 a,A0 b] w (Aj (.tuple #[.slice none 0 0,A0 2]) λw'=>A4 Aa w w'):=by
 have H:=A1 h;have E:Hid (∀w',Ag 63 #[A0 k] w' λe d=>e=.returned (.bool false)/\w'=d):=λw'=>by
  have:=Lt w' k
  rwa [Cv z]at this
 have c0:=h.c0;have f0:=h.fz 0
 go_enter_defers func37,ntmps37
 go_wp2_with (first
  | (go_at_call 61;refine(Ih Tryz.bp (A9 sb 0) _ c0 f0).k ?_;rintro w' rfl)
  | (go_at_call 63;refine(E.o _).k ?_;rintro w' rfl))
 refine Ii (f:=62) (args:=#[A5 sb]) (by simp) (by simp[go_sem]) ?_;refine(Ie Tryz.bp (A9 sb 0) .returning _ ?_ ?_).mono ?_
 ·exact(H.o.s0 1).c0
 ·exact(H.o.s0 1).fz 0
 rintro e u' d⟨rfl,rfl,rfl⟩;exact⟨_,results_tmp2 rfl _ _ _,rfl,H.o.df (H.o.s0 1) ((A4.C (One sb) w).ao rfl 0 _)⟩
def MC(w:gx)(k:Nat)(a b:Int)(h:Bx w sb 0 jv ld wc A7 ro lv)(hr:Es w lv L)(hk:k<8)(hl:1<=ld/\ld<=4611686018427387904)(hc:Ay A7):
 Ag 37 #[A5 sb,A0 k,A0 a,A0 b] w λe w'=>∃v,e=.returned (.tuple #[v,A0 0])/\
  Ck w' v (piece (L k) (max a (AN A7 ld)) b)/\A4 Aa w w'/\∀g,v.ownBlock=some g->w.heap.size<=g:=by
 have aH:Hid (∀w',Ag 63 #[A0 k] w' λe Y=>e=.returned (.bool true)/\w'=Y):=λw'=>by
  have:=Lt w' k
  rwa [Cu (by omega)]at this
 have c0:=h.c0;have f0:=h.fz 0;have⟨hb1,hr1,hc1⟩:=h.bH hr;have aG:∀w',Bx w' sb 1 jv ld wc A7 ro lv->_:=λw' h'=>ML w' sb A7 ld h'.c3 h'.cK hl hc;generalize ho:AN A7 ld=o at aG ⊢;have aK:∀w',Bx w' sb 1 jv ld wc A7 ro lv->Es w' lv L->_:=λw' h' aF=>A3y w' sb (7+k) (L k) (lv k) (max a o) b (aF.dU h' hk).b3;have hk1:=BJ k;have hk2:(k:Int)<8:=by omega
 have H:=A1 h;have aD:=A1 aG;have aE:=A1 aK;have E:=A1 hb1;have X:=A1 hr1;have O:=A1 hc1
 go_enter_defers func37,ntmps37
 go_wp2_with (first
  | (go_at_call 61;refine(Ih Tryz.bp (A9 sb 0) _ c0 f0).k ?_;rintro w' rfl)
  | (go_at_call 63;refine(aH.o _).k ?_;rintro w' rfl))
 generalize (w.setCell (A9 sb 0) (.int .i32 1))=w1 at E X O ⊢;refine NV (λ_=>True) 11
  (Ba [0,1,2,3,4,5,6,9,7,8,10] [7,10]) (by kernel_rfl) (by kernel_rfl) trivial ?_
 iterate 8 (refine E1 (v:=?_) rfl (by rfl) ?_ ?_;rotate_left;(· (intro w' hS;(try dsimp only at hS);go_simp;try with_reducible rfl));(try simp only[BO]))
 refine Dv rfl (by rfl) (λK hK=>?_);go_simp;refine(aD.o w1.drew E.o).k ?_;rintro w2 d;refine hK _ _ trivial (λhS=>?_);have I:Hid (Bx w2 sb 1 jv ld wc A7 ro lv/\Es w2 lv L/\A4 (One sb) w w2):=
  have z:A4 Aa w1 w2:=⟨d.os,d.DU,d.DW,d.Ak,d.Al⟩
  ⟨E.o.Am z (λh=>h),X.o.Am z (λ_ _ h=>h),O.o.bl z⟩
 (try simp only[BO])
 (refine E1 (v:=?_) rfl (by rfl) ?_ ?_;rotate_left;(· (intro w' hS;(try dsimp only at hS);go_simp;try with_reducible rfl));(try simp only[BO]))
 refine Dv rfl (by rfl) (λK hK=>?_);go_simp;refine(aE.o w2 I.o.1 I.o.2.1).mono ?_;rintro e w3⟨v,rfl,hv,aA,hf⟩;refine hK _ _ trivial (λhS=>?_);have aB:Hid (Bx w3 sb 1 jv ld wc A7 ro lv/\A4 (One sb) w w3):=⟨I.o.1.Am aA (λh=>h),I.o.2.2.bl aA⟩;have aL:=A1 hv;have aI:Hid (∀g,v.oB g->w.heap.size<=g):=λg W=>AP I.o.2.2.Ak (hf g W);have aJ:Hid (∀g,v.oB g->g≠sb):=λg W e=>by
  have:=hf g W;have:=I.o.1.lt;omega
 (try simp only[BO])
 refine Fx ?_;simp only[DH,Dl];go_wp2;rw[CL];go_wp2;refine Ii (f:=62) (args:=#[A5 sb]) (by simp) (by simp[go_sem]) ?_;refine(Ie Tryz.bp (A9 sb 0) .returning _ ?_ ?_).mono ?_
 ·exact aB.o.1.c0
 ·exact aB.o.1.fz 0
 rintro e u' Y⟨rfl,rfl,rfl⟩;exact⟨_,results_tmp2 rfl _ _ _,v,rfl,Au aL.o λg W=>Fw _ _ _ _ (λe=>aJ.o g W (by simpa using e)),H.o.df aB.o.1 aB.o.2,aI.o⟩
end
def Own(sb:Nat)(lv:Nat->gy)(x:Nat):Prop:=x=sb\/EW lv x
structure Eu (w w':gx) (sb:Nat) (mu:Int) (jv:gy) (ld wc A7:Int) (ro:Bool) (lv lv':Nat->gy) (L':Nat->gD Pt):Prop where
 Ae:Bx w' sb mu jv ld wc A7 ro lv'
 E6:Es w' lv' L'
 Am:A4 (Own sb lv) w w'
 AB:∀g,EW lv' g->EW lv g\/w.heap.size<=g
section
variable{w w' w2:gx}{sb:Nat}{mu aB:Int}{jv:gy}{ld wc A7 aA:Int}{ro aD:Bool}{lv lv' aE:Nat->gy}{L L' L2:Nat->gD Pt}
def Eu.AH(h:Eu w w' sb mu jv ld wc A7 ro lv lv' L')(z:Eu w' w2 sb aB jv ld wc aA aD lv' aE L2):Eu w w2 sb aB jv ld wc aA aD lv aE L2:=
 ⟨z.Ae,z.E6,h.Am.AH z.Am λx d hlt=>by
  rcases d with d|d
  ·exact .inl d
  ·rcases h.AB x d with E|E
   ·exact .inr E
   ·omega,λg I=>by
  rcases z.AB g I with d|d
  ·exact h.AB g d
  ·exact .inr (AP h.Am.Ak d)⟩
def Eu.of(E:Bx w' sb mu jv ld wc A7 ro lv)(z:Es w lv L)(d:A4 (One sb) w w')(O:¬EW lv sb):Eu w w' sb mu jv ld wc A7 ro lv lv L:=
 ⟨E,z.Am d (λg I e=>O (by cases e;exact I)),d.ai λ_ _ h=>.inl h,λ_ h=>.inl h⟩
def Eu.aw(h:Eu w w' sb mu jv ld wc A7 ro lv lv' L')(d:A4 Aa w' w2):Eu w w2 sb mu jv ld wc A7 ro lv lv' L':=
 ⟨h.Ae.Am d (λh=>h),h.E6.Am d (λ_ _ h=>h),h.Am.bl d,h.AB⟩
def Eu.CO(h:Eu w w' sb mu jv ld wc A7 ro lv lv' L')(o:Nat)(u:gy)(d:Bx (w'.setCell (A9 sb o) u) sb aB jv ld wc aA aD lv'):Eu w (w'.setCell (A9 sb o) u) sb aB jv ld wc aA aD lv lv' L':=
 ⟨d,h.E6.Am ((A4.C (One sb) w').ao rfl o u) (λg z e=>h.E6.ne h.Ae (by decide) (by cases e;exact z)),h.Am.ao (.inl rfl) o u,h.AB⟩
def Hr(L L':Nat->gD Pt)(o:Int):Prop:=∀i,i<8->L' i=L i\/L' i=(L i).drop (BF (L i) o)
def Xa(c x:Int):min c (9223372036854775807-x)+x=DJ c x:=by
 unfold DJ;split<;>omega
def Mm{c x:Int}(d:Ay c)(hx:0<=x)(hx2:x<=9223372036854775807):Ay (DJ c x):=by
 obtain⟨h1,h2⟩:=d;unfold DJ;split<;>constructor<;>omega
def Xb(w:gx)(x:Int)(h:Bx w sb 0 jv ld wc A7 ro lv)(hx:x<0):
 Ag 27 #[A5 sb,A0 x] w (Aj (A0 3) λw'=>A4 Aa w w'):=by
 have H:=A1 h;have c0:=h.c0;have f0:=h.fz 0
 go_enter_defers func27,ntmps27
 go_wp2_with (go_at_call 61;refine(Ih Tryz.bp (A9 sb 0) _ c0 f0).k ?_;rintro w' rfl);refine Ii (f:=62) (args:=#[A5 sb]) (by simp) (by simp[go_sem]) ?_;refine(Ie Tryz.bp (A9 sb 0) .returning _ ?_ ?_).mono ?_
 ·exact(H.o.s0 1).c0
 ·exact(H.o.s0 1).fz 0
 rintro e u' w''⟨rfl,rfl,rfl⟩;exact⟨_,Kb rfl _ _ _,rfl,H.o.df (H.o.s0 1) ((A4.C (One sb) w).ao rfl 0 _)⟩
def Rb(w:gx)(x:Int)(h:Bx w sb 0 jv ld wc A7 ro lv)(hr:Es w lv L)(hx:0<=x/\x<=9223372036854775807)(hl:1<=ld/\ld<=4611686018427387904)(hc:Ay A7):
 Ag 27 #[A5 sb,A0 x] w (Aj (A0 0) λw'=>
  ∃lv' L',Eu w w' sb 0 jv ld wc (DJ A7 x) ro lv lv' L'/\Hr L L' (AN (DJ A7 x) ld)):=by
 obtain⟨aH,aF⟩:=hx;have E:=Mm hc aH aF;have ew1:IntKind.i64.wrap (9223372036854775807-x)=9223372036854775807-x:=Eo (by omega);have aK:IntKind.i64.wrap (min A7 (9223372036854775807-x)+x)=DJ A7 x:=by
  rw[Xa];obtain⟨h1,h2⟩:=E;simp[IntKind.wrap,IntKind.bits,IntKind.signed];omega
 have c0:=h.c0;have f0:=h.fz 0;have⟨hb1,hr1,hc1⟩:=h.bH hr;have hn:=hr.ne h (by decide);have d3:=hb1.cK;have d3f:=hb1.fz 5;have aI:Eu w (w.setCell (A9 sb 0) (.int .i32 1)) sb 1 jv ld wc A7 ro lv lv L:=Eu.of hb1 hr hc1 hn;have aL:∀z,Hid (Eu w ((w.setCell (A9 sb 0) (.int .i32 1)).setCell (A9 sb 5) (A0 z)) sb 1 jv ld wc z ro lv lv L):=λz=>aI.CO 5 _ (hb1.sK z);generalize hcc:DJ A7 x=z at aK E ⊢;have aN:=aL z;have aM:∀w' lv',Bx w' sb 1 jv ld wc z ro lv'->_:=λw' lv' h'=>ML w' sb z ld h'.c3 h'.cK hl E;generalize ho:AN z ld=o at aM ⊢;have aG:=A1 aM
 go_enter_defers func27,ntmps27
 go_wp2_with (go_at_call 61;refine(Ih Tryz.bp (A9 sb 0) _ c0 f0).k ?_;rintro w' rfl);generalize ((w.setCell (A9 sb 0) (.int .i32 1)).setCell (A9 sb 5) (A0 z))=w1 at aN ⊢;go_loopw [27] (λiv wr=>∃k:Nat,k<=8/\iv=A0 k/\Hid (∃lv' L',Eu w wr sb 1 jv ld wc z ro lv lv' L'/\Hr L L' o/\∀i,k<=i->L' i=L i)) (λiv _=>8-(intOf iv).toNat)
 ·exact⟨0,by omega,rfl,lv,L,aN.o,λi _=>.inl rfl,λi _=>rfl⟩
 ·obtain⟨k,hk,rfl,hH⟩:=hrel;obtain⟨w0,aJ⟩:∃w0,w0=wr:=⟨_,rfl⟩;subst aJ;have k0:=BJ k;by_cases I:k<8
  ·(have k1:(k:Int)<8:=by omega)
   have aR:Hid (∀w2,(∃lv' L',Eu w w2 sb 1 jv ld wc z ro lv lv' L'/\Hr L L' o/\∀i,k<=i->L' i=L i)->Ag 72 #[.pointer (some (A9 sb (7+k))),A0 o] w2 (Aj (.tuple #[]) λw'=>
    ∃lv' L',Eu w w' sb 1 jv ld wc z ro lv lv' L'/\Hr L L' o/\∀i,k+1<=i->L' i=L i)):=λw2 ⟨lv',L',d,O,Y⟩=>by
    refine(A1S w2 sb (7+k) _ _ (by decide) _ _ o (d.E6.dU d.Ae I)).k ?_;rintro w3⟨L2,v2,W,hR⟩;have X:L2.length<=(L' k).length:=by
     rcases W with rfl|rfl
     ·exact Ao _
     ·rw[Cz];omega
    have⟨b1,b2,b3,b4⟩:=d.E6.an d.Ae I hR rfl (Qi X (d.E6.CE k I));refine⟨rfl,Ib lv' k v2,Hs L' k L2,d.AH ⟨b1,b2,b3,b4⟩,λi hi=>?_,λi hi=>?_⟩
    ·unfold Hs;by_cases e:i=k
     ·subst e;simp only[Cq];rw[Y i (Ao _)]at W;exact W
     ·simp only[e,Cd];exact O i hi
    ·unfold Hs;rw[Af (by omega)];exact Y i (by omega)
   have aP:Hid (∀w2,(∃lv' L',Eu w w2 sb 1 jv ld wc z ro lv lv' L'/\Hr L L' o/\∀i,k<=i->L' i=L i)->Ag 71 #[A5 sb] w2 (Aj (A0 o) λw'=>∃lv' L',Eu w w' sb 1 jv ld wc z ro lv lv' L'/\Hr L L' o/\∀i,k<=i->L' i=L i)):=λw2 ⟨lv',L',d,O,Y⟩=>by
    refine(aG.o w2 lv' d.Ae).k ?_;rintro w3 hc;exact⟨rfl,lv',L',d.aw hc,O,Y⟩
   go_wp2;refine NV (λ_=>True) 7
    (Ba [0,1,2,3,4,5,6] [6]) (by kernel_rfl) (by kernel_rfl) trivial ?_
   iterate 6 (refine E1 (v:=?_) rfl (by rfl) ?_ ?_;rotate_left;(· (intro w' hS;(try dsimp only at hS);go_simp;try with_reducible rfl));(try simp only[BO]))
   refine Dv rfl (by rfl) (λK hK=>?_);go_simp;refine(aP.o w0.drew (by have⟨lv',L',d,O⟩:=hH.o;exact⟨lv',L',d.aw ((A4.C _ w0).aa),O⟩)).k ?_;rintro w2 h2;refine hK _ _ trivial (λhS=>?_);have aQ:=A1 h2
   (try simp only[BO])
   refine Fx ?_;simp only[DH,Dl];go_wp2_with (go_at_call 72;refine(aR.o _ aQ.o).k ?_;rintro w3 h3;have aO:=A1 h3);rw[CL];go_wp2;go_roundw
   ·exact⟨k+1,by omega,by go_num,aO.o⟩
   ·simp[intOf];omega
  ·(obtain rfl:k=8:=by omega);go_wp2;refine Ii (f:=62) (args:=#[A5 sb]) (by simp) (by simp[go_sem]) ?_;obtain⟨lv',L',d,O,-⟩:=hH.o;refine(Ie Tryz.bp (A9 sb 0) .returning _ ?_ ?_).mono ?_
   ·exact d.Ae.c0
   ·exact d.Ae.fz 0
   rintro e u' w''⟨rfl,rfl,rfl⟩;exact⟨_,Kb rfl _ _ _,rfl,lv',L',d.CO 0 _ (d.Ae.s0 0),O⟩
end
end
section
open Go.RowKit
def KT(w:gx)(Ft:Nat->Prop)(fb:Nat)(w':gx)(b:Nat)(D':DS)(F':Nat->FC):Prop:=
 A4 (λk=>Ft k\/k=fb) w w'/\∃d,AW w' b D' F' d/\(∀k,d k->k<w'.heap.size)/\∀k,d k->Ft k\/w.heap.size<=k
def HG(D:DS)(F:Nat->FC)(nd:gC)(pc:gD UInt8):Bool:=
 decide ((CJ (BA D F nd ⟨pc.toArray⟩).2.1 (BA D F nd ⟨pc.toArray⟩).2.2 nd).1-(CJ D F nd).1=pc.length)
def UJ(D:DS)(F:Nat->FC)(nd:gC):0<=(CJ D F nd).1:=by
 unfold CJ;cases lookup D.A6 nd<;>simp
section
variable{w:gx}{b fb:Nat}{D:DS}{F:Nat->FC}{Ft:Nat->Prop}{T:TypeId}{nd:gC}{s:Nat}
def addF(hf:Bi w fb T (A5 b) nd s)(hs:s<4294967296)(h:AW w b D F Ft)(aR:∀k,Ft k->k<w.heap.size)(hn:¬Ft fb)(l:gD UInt8)(hroom : -4611686018427387904<=D.n.Av/\D.n.Av<=9223372036854775807)(hu:AU F D.A6<=4611686018427387904)(hp:0<=D.n.BG/\D.n.BG<=9223372036854775807)(hl:∀f,lookup D.A6 nd=some f->(F f).1.length+(l.length+4)<=70368744177664)(hll:l.length<=4611686018427387904)(hz:(CJ (BA D F nd ⟨(l++Cj (AY s l)).toArray⟩).2.1 (BA D F nd ⟨(l++Cj (AY s l)).toArray⟩).2.2 nd).1<=70368744177664/\(CJ D F nd).1<=70368744177664):
 Ag 237 #[A5 fb,.string ⟨l.toArray⟩] w (Aj (.tuple #[.bool (HG D F nd (l++Cj (AY s l))),A0 (BA D F nd ⟨(l++Cj (AY s l)).toArray⟩).1]) λw'=>Bi w' fb T (A5 b) nd (AY s l)/\KT w Ft fb w' b (BA D F nd ⟨(l++Cj (AY s l)).toArray⟩).2.1 (BA D F nd ⟨(l++Cj (AY s l)).toArray⟩).2.2):=by
 obtain⟨aA,a0⟩:=hz;have aO:=A1 (RJ w fb T _ nd s l hf hs (by omega));have aF:(l++Cj (AY s l)).length=l.length+4:=by simp[HQ]
 generalize hs1:AY s l=s1 at aO aF aA ⊢;generalize hpc:l++Cj s1=pc at aO aF aA ⊢;have bC:∀w',AW w' b D F Ft->_:=λw' h'=>A3Y h' nd ⟨pc.toArray⟩ hroom hu hp (λf hf=>by have:=hl f hf;show _+pc.length<=_;omega);have r1:=UJ D F nd;have r2:=UJ (BA D F nd ⟨pc.toArray⟩).2.1 (BA D F nd ⟨pc.toArray⟩).2.2 nd;have O:HG D F nd pc=decide ((CJ (BA D F nd ⟨pc.toArray⟩).2.1 (BA D F nd ⟨pc.toArray⟩).2.2 nd).1-(CJ D F nd).1=pc.length):=rfl;obtain⟨D',aM⟩:∃D',(BA D F nd ⟨pc.toArray⟩).2.1=D':=⟨_,rfl⟩;obtain⟨F',aI⟩:∃F',(BA D F nd ⟨pc.toArray⟩).2.2=F':=⟨_,rfl⟩;obtain⟨er,aK⟩:∃er,(BA D F nd ⟨pc.toArray⟩).1=er:=⟨_,rfl⟩;rw[aM,aI]at O r2 aA ⊢;rw[aK];rw[aM,aI,aK]at bC;have bE:∀w',AW w' b D F Ft->_:=λw' h'=>Ob h' nd;have bB:∀w' d,AW w' b D' F' d->_:=λw' d h'=>Ob h' nd;obtain⟨zn,aE⟩:∃zn,(CJ D F nd).1=zn:=⟨_,rfl⟩;obtain⟨ze,aZ⟩:∃ze,(CJ D F nd).2=ze:=⟨_,rfl⟩;obtain⟨Y,aH⟩:∃Y,(CJ D' F' nd).1=Y:=⟨_,rfl⟩;obtain⟨ye,aQ⟩:∃ye,(CJ D' F' nd).2=ye:=⟨_,rfl⟩;rw[aE,aH]at O;rw[aE]at r1 a0;rw[aH]at r2 aA;rw[aE,aZ]at bE;rw[aH,aQ]at bB;rw[O];obtain⟨ok,O⟩:∃ok,decide (Y-zn=(pc.length:Int))=ok:=⟨_,rfl⟩;rw[O];have aY:=A1 O;have a8:=A1 bC;have aP:=A1 bE;have a5:=A1 bB;have H:=A1 h;have aS:=A1 aR;have bD:=A1 hn
 go_enter func237,ntmps237
 go_wp2_with (go_at_call 214;refine aO.k ?_;rintro w1⟨a9,bA⟩;have a1:=A1 a9;have aD:=A1 bA);have E:Hid (Bi w1 fb T (A5 b) nd s1/\AW w1 b D F Ft):=⟨a1.o,H.o.aM λk hk=>aD.o.Al k (aS.o k hk) (λe=>bD.o (e ▸ hk))⟩;refine HN 13 (λy=>{tmps:=#[A5 fb,.string ⟨l.toArray⟩,undef,undef,.bool false,A0 0,.string ⟨pc.toArray⟩,y 12,undef,undef,undef,undef,A5 fb,.string ⟨l.toArray⟩,.string ⟨pc.toArray⟩,y 9,y 0,y 1,y 2,y 3,y 4,y 5,y 6,y 7,y 8,y 10,y 11,undef,undef,undef,undef,undef,undef,undef,undef,undef,undef,undef,undef,undef,undef,undef,undef,undef,undef,undef,undef,undef,undef,undef,undef,undef,undef,undef,undef,undef],defers:=[]}) (λ_=>undef)
  (λw'=>Bi w' fb T (A5 b) nd s1/\AW w' b D F Ft/\A4 Aa w1 w') (A4 Aa)
  (λj x w'=>match j with
   | 0=>x=(A5 fb)
   | 1=>x=(A5 fb)
   | 2=>x=(A5 fb)
   | 3=>x=(A5 b)
   | 4=>x=(A5 fb)
   | 5=>x=(A5 fb)
   | 6=>x=.pointer (some (A9 fb 1))
   | 7=>x=.string nd
   | 8=>x=.tuple #[A0 zn,A0 ze]
   | 9=>x=.tuple #[A0 zn,A0 ze]
   | 10=>x=A0 zn
   | 11=>x=A0 ze
   | 12=>x=A0 zn
   | _=>True)
  (by kernel_rfl) (by kernel_rfl) rfl ?_ ?_ ?_ ?_
 ·exact⟨E.o.1,E.o.2.aa,(A4.C _ _).aa⟩
 ·intro j x w1 w2 hR a6 X;split at X<;>exact X
 ·clear E;simp only[FJ,Fp,Ge,Io]
  repeat' (with_reducible apply And.intro)
  all_goals refine⟨?_,(by intro y L _ _ h;exact Bool.noConfusion h),λy x=>rfl⟩
  all_goals
   intro zz L hS hd hw K hK;obtain⟨I,aG,aB⟩:=hS;simp[GI,Region.binds,FL,List.filter_cons]at hd;have c0:=I.c0;have c1:=I.c1;have W:Hid (Bi L fb T (A5 b) nd s1/\AW L b D F Ft/\A4 Aa w1 L):=⟨I,aG,aB⟩;have aJ:=A1 hK
  all_goals dsimp only
  all_goals try go_simp
  all_goals try with_reducible exact aJ.o _ _ _ rfl (by simp[Act.put,hd]) (A4.C _ _) W.o
  all_goals
   refine(aP.o L W.o.2.1).k ?_;rintro w2 rfl;exact aJ.o _ _ _ rfl (by simp[Act.put,hd]) (A4.C _ _) W.o
 intro y L hS X;have h11:=X 11 (by omega);have h12:=X 12 (by omega);have c0:=hS.1.c0;have c1:=hS.1.c1;have W:=A1 hS;go_wp2;refine FN (λw'=>A8 w' fb 0 (A5 b)/\A8 w' fb 1 (.string nd)) 9
  (Ba [0,1,2,3,4,5,6,7,8] []) (by kernel_rfl) (by kernel_rfl) (λ_ _ _ _ _ h=>h) ⟨c0,c1⟩ ?_
 iterate 9 (refine E1 (v:=?_) rfl (by rfl) ?_ ?_;rotate_left;(· (intro w' hS;(try dsimp only at hS);go_simp;try with_reducible rfl));(try simp only[BO]))
 refine Fx ?_;simp only[DH,Dl];have aX:=A1 (a8.o L.drew W.o.2.1.aa);go_wp2_with (go_at_call 84;refine aX.k ?_;rintro w3 hA;have bF:=A1 hA);have aW:=bF.o.dW;obtain⟨aL,d,aV,aU,aT⟩:=aW;have hsz:=W.o.1.lt;have E:Hid (Bi w3 fb T (A5 b) nd s1/\AW w3 b D' F' d):=⟨W.o.1.al aL bD.o,aV⟩;have a2:=A1 aL;have a3:=A1 aU;have a7:=A1 aT;have a4:Hid (∀w',AW w' b D' F' d->_):=λw' h'=>a5.o w' d h';refine HN 13 (λz=>{tmps:=#[A5 fb,.string ⟨l.toArray⟩,undef,undef,.bool false,A0 0,.string ⟨pc.toArray⟩,A0 zn,A0 ze,A0 er,z 12,undef,A5 fb,.string ⟨l.toArray⟩,.string ⟨pc.toArray⟩,y 9,y 0,y 1,y 2,y 3,y 4,y 5,y 6,y 7,y 8,y 10,A0 ze,A5 fb,A5 fb,A5 fb,A5 b,A5 fb,A5 fb,.pointer (some (A9 fb 1)),.string nd,.string ⟨pc.toArray⟩,A0 er,z 9,z 0,z 1,z 2,z 3,z 4,z 5,z 6,z 7,z 8,z 10,z 11,undef,undef,undef,undef,undef,undef,undef],defers:=[]}) (λ_=>undef)
  (λw'=>Bi w' fb T (A5 b) nd s1/\AW w' b D' F' d/\A4 Aa w3 w') (A4 Aa)
  (λj x w'=>match j with
   | 0=>x=(A5 fb)
   | 1=>x=(A5 fb)
   | 2=>x=(A5 fb)
   | 3=>x=(A5 b)
   | 4=>x=(A5 fb)
   | 5=>x=(A5 fb)
   | 6=>x=.pointer (some (A9 fb 1))
   | 7=>x=.string nd
   | 8=>x=.tuple #[A0 Y,A0 ye]
   | 9=>x=.tuple #[A0 Y,A0 ye]
   | 10=>x=A0 Y
   | 11=>x=A0 ye
   | 12=>x=A0 Y
   | _=>True)
  (by kernel_rfl) (by kernel_rfl) rfl ?_ ?_ ?_ ?_
 ·exact⟨E.o.1,E.o.2.aa,(A4.C _ _).aa⟩
 ·intro j x w1 w2 hR a6 X;split at X<;>exact X
 ·clear E;simp only[FJ,Fp,Ge,Io]
  repeat' (with_reducible apply And.intro)
  all_goals refine⟨?_,(by intro y L _ _ h;exact Bool.noConfusion h),λy x=>rfl⟩
  all_goals
   intro zz L hS hd hw K hK;obtain⟨I,aG,aB⟩:=hS;simp[GI,Region.binds,FL,List.filter_cons]at hd;have c0:=I.c0;have c1:=I.c1;have W:Hid (Bi L fb T (A5 b) nd s1/\AW L b D' F' d/\A4 Aa w3 L):=⟨I,aG,aB⟩;have aJ:=A1 hK
  all_goals dsimp only
  all_goals try go_simp
  all_goals try with_reducible exact aJ.o _ _ _ rfl (by simp[Act.put,hd]) (A4.C _ _) W.o
  all_goals
   refine(a4.o L W.o.2.1).k ?_;rintro w2 rfl;exact aJ.o _ _ _ rfl (by simp[Act.put,hd]) (A4.C _ _) W.o
 intro z wz hZ X;have z11:=X 11 (by omega);have z12:z 12=A0 Y:=X 12 (by omega);have aN:=A1 hZ;have hbe:(Y-zn==(l.length:Int)+4)=ok:=by
  rw[<-aY.o,aF,NQ];simp
 go_wp2;go_ret2
 exact⟨rfl,aN.o.1,(((aD.o.ai (λ_ _ h=>.inr h)).AH W.o.2.2 (λ_ h _=>h.elim)).AH a2.o (λ_ h _=>.inl h)).AH aN.o.2.2 (λ_ h _=>h.elim),
  d,aN.o.2.1,λk hk=>Bn (a3.o k hk) aN.o.2.2.Ak,λk hk=>(a7.o k hk).imp id λh=>AP (AP aD.o.Ak W.o.2.2.Ak) h⟩
end
def AI(nd:gD UInt8):Nat:=AY 4294967295 nd
def Lets(B:Nat)(w:gx):Prop:=
 B<=w.heap.size/\∀w',Below B w w'->(∀k:Nat,1<=k->k<=4->w'.cell? ⟨0,k,none⟩=some (.string ⟨(Dh k).toArray⟩))/\Lib.TabIs Tryz.prog w' "internal/strconv.uint64pow10" .u64 Lib.pow10Tab
def Lets.al{B:Nat}{w w':gx}{S:Nat->Prop}(h:Lets B w)(d:A4 S w w')(E:∀k,S k->B<=k):Lets B w':=
 ⟨AP h.1 d.Ak,λI z=>h.2 I ((d.ee h.1 λk hk L=>by have:=E k L;omega).trans z)⟩
def Lets.aL{B:Nat}{w w':gx}(h:Lets B w)(d:A4 Aa w w'):Lets B w':=h.al d λ_ h=>h.elim
def TI(s:Int):(Dh s).length<=1:=by
 unfold Dh;split
 ·simp
 ·split
  ·simp
  ·split
   ·simp
   ·split<;>simp
def A0p(lt:gD UInt8)(n:Int):(Ey lt n).length=lt.length+(19-(Lib.itoa n).length)+(Lib.itoa n).length:=by
 unfold Ey;have:=Lib.repeatL_length [48] (19-(Lib.itoa n).length);simp only[B3,this];simp
def Tj{s n:Int}(h:(Lib.itoa n).length<=19):(BT s n).length<=100:=by
 have h1:=TI s;unfold BT;split
 ·rw[A0p];omega
 ·omega
def MO{B:Nat}{n:Int}(w:gx)(k:Nat)(d:1<=k/\k<=4)(hn : -9223372036854775808<=n/\n<=9223372036854775807)(E:(Lib.itoa n).length<=19)(I:Lets B w):
 Calls Tryz.prog 134 #[.int .i64 k,.int .i64 n] w λe w'=>e=.returned (.string ⟨(BT k n).toArray⟩)/\A4 (λ_=>False) w w':=by
 have⟨h1,h2⟩:=I.2 w (NR _ _);have z:=h1 k d.1 d.2;by_cases h:k=1\/k=2
 ·have e:BT k n=Ey (Dh k) n:=by unfold BT;rw[Ai (by omega)]
  rw[e];exact A0o w k k ⟨rfl,h⟩ (Dh k) n hn (by have:=TI k;omega) E z h2
 ·have e:BT k n=Dh k:=by unfold BT;rw[Af (by omega)]
  rw[e];refine(TC w k (by omega) (Dh k) n z).k ?_;rintro w' rfl;exact⟨rfl,A4.C _ _⟩
def CK(n:Int):Prop:=0<=n/\n<=9223372036854775807/\(Lib.itoa n).length<=19
section
variable{B:Nat}{n:Int}{p:gy}
def Px(w:gx)(z k:Nat)(hk:1<=k/\k<=4)(hn:CK n)(hL:Lets B w):
 Ag 125 #[A5 z,A0 k,A0 n] w (Aj (.agg #[A5 z,.string ⟨(BT k n).toArray⟩,.int .u32 (AI (BT k n))]) λw'=>A4 Aa w w'):=by
 obtain⟨hn1,aB,hd⟩:=hn;have aF:∀w',A4 Aa w w'->_:=λw' hc=>MO (n:=n) w' k hk ⟨by omega,aB⟩ hd (hL.aL hc);have I:(BT k n).length<=9223372036854775807:=by
  have:=Tj (s:=k) hd;omega
 generalize hnm:BT k n=nm at aF I ⊢;have aG:∀w',_:=λw'=>Vz w' 4294967295 nm (by omega) I;obtain⟨s0,E⟩:∃s0,AI nm=s0:=⟨_,rfl⟩;have X:∀w',Ag 165 #[.int .u32 4294967295,.string ⟨nm.toArray⟩] w' λe aA=>e=.returned (.int .u32 s0)/\w'=aA:=by rw[<-E];exact aG
 rw[E];have W:=A1 aF;have Y:=A1 X
 go_enter func125,ntmps125
 go_wp2_with (fail);refine(W.o _ ((A4.C _ _).aj _)).k ?_;rintro d O;have h:d.heap[w.heap.size]?=some (.cells #[.pointer none,.string ⟨#[]⟩,.int .u32 0] 160 (0,0)):=O.al (by show (w.heap.push _)[w.heap.size]?=_;rw[Je]) (by simp);have c0:A8 d w.heap.size 0 (.pointer none):=by simp[A8,World.cell?,h]
 have c1:A8 d w.heap.size 1 (.string ⟨#[]⟩):=by simp[A8,World.cell?,h]
 have c2:A8 d w.heap.size 2 (.int .u32 0):=by simp[A8,World.cell?,h]
 have f0:d.frozen? (A9 w.heap.size 0)=false:=by simp[World.frozen?,h]
 have f1:d.frozen? (A9 w.heap.size 1)=false:=by simp[World.frozen?,h]
 have f2:d.frozen? (A9 w.heap.size 2)=false:=by simp[World.frozen?,h]
 have L:=BQ (o:=2) (v:=.int .u32 s0) (BQ (o:=1) (v:=.string ⟨nm.toArray⟩) (BQ (o:=0) (v:=(A5 z)) h));have k1:A4 Aa w d:=((A4.C Aa w).aj _).tr O;have k3:A4 Aa w (((d.setCell (A9 w.heap.size 0) (A5 z)).setCell (A9 w.heap.size 1) (.string ⟨nm.toArray⟩)).setCell (A9 w.heap.size 2) (.int .u32 s0)):=((k1.bh (by simp) _).bh (by simp) _).bh (by simp) _;have aD:=A1 L;have aE:=A1 k3;go_wp2_with (go_at_call 165;refine(Y.o _).k ?_;rintro w' rfl);generalize (((d.setCell (A9 w.heap.size 0) (A5 z)).setCell (A9 w.heap.size 1) (.string ⟨nm.toArray⟩)).setCell (A9 w.heap.size 2) (.int .u32 s0))=w3 at aD aE ⊢;have L:=aD.o;have r0:A8 w3 w.heap.size 0 (A5 z):=by simp[A8,World.cell?,L]
 have r1:A8 w3 w.heap.size 1 (.string ⟨nm.toArray⟩):=by simp[A8,World.cell?,L]
 have r2:A8 w3 w.heap.size 2 (.int .u32 s0):=by simp[A8,World.cell?,L]
 refine JK (v:=.agg #[A5 z,.string ⟨nm.toArray⟩,.int .u32 s0]) (by simp[results,Tryz.results125,go_sem,r0,r1,r2]) rfl ?_;exact⟨rfl,aE.o⟩
def TP(w:gx)(z:Nat)(W:CK n)(O:Lets B w):
 Ag 192 #[A5 z,A0 n] w λe w'=>∃E,e=.returned (A5 E)/\Bi w' E 237 (A5 z) ⟨(BT 1 n).toArray⟩ (AI (BT 1 n))/\A4 Aa w w'/\w.heap.size<=E:=by
 have d:=A1 (Px w z 1 (by omega) W O);rw[show ((1:Nat):Int)=1 from rfl]at d;generalize hnm:BT 1 n=nm at d ⊢;generalize hs0:AI nm=s0 at d ⊢
 go_enter func192,ntmps192
 go_wp2_with (go_at_call 125;refine d.k ?_;rintro h L;have I:=A1 L);go_ret;exact⟨h.heap.size,rfl,(by show (h.heap.push _)[h.heap.size]?=_;rw[Je]),I.o.aj _,I.o.Ak⟩
def Ca(w:gx)(xb:Nat)(T:TypeId)(b:Nat)(nd:gD UInt8)(s:Nat)(n:Int)(v:gy):Prop:=w.heap[xb]?=some (.cells #[.pointer (some ⟨b,0,none⟩),.string ⟨nd.toArray⟩,.int .u32 s,.int .i64 n,v] T (0,0))
section
variable{w w':gx}{xb:Nat}{T:TypeId}{b:Nat}{nd:gD UInt8}{s:Nat}{v:gy}
def Ca.c0(h:Ca w xb T b nd s n v):A8 w xb 0 (A5 b):=by unfold Ca at h;simp[A8,World.cell?,h]
def Ca.c1(h:Ca w xb T b nd s n v):A8 w xb 1 (.string ⟨nd.toArray⟩):=by unfold Ca at h;simp[A8,World.cell?,h]
def Ca.c2(h:Ca w xb T b nd s n v):A8 w xb 2 (.int .u32 s):=by unfold Ca at h;simp[A8,World.cell?,h]
def Ca.c3(h:Ca w xb T b nd s n v):A8 w xb 3 (A0 n):=by unfold Ca at h;simp[A8,World.cell?,h]
def Ca.c4(h:Ca w xb T b nd s n v):A8 w xb 4 v:=by unfold Ca at h;simp[A8,World.cell?,h]
def Ca.fz(h:Ca w xb T b nd s n v)(o:Nat):w.frozen? (A9 xb o)=false:=by unfold Ca at h;simp[World.frozen?,h]
def Ca.lt(h:Ca w xb T b nd s n v):xb<w.heap.size:=By h
def Ca.s3(h:Ca w xb T b nd s n v)(x:Int):Ca (w.setCell (A9 xb 3) (A0 x)) xb T b nd s x v:=BQ h
def Ca.s4(h:Ca w xb T b nd s n v)(x:gy):Ca (w.setCell (A9 xb 4) x) xb T b nd s n x:=BQ h
def Ca.aa(h:Ca w xb T b nd s n v):Ca w.drew xb T b nd s n v:=by unfold Ca at h ⊢;exact h
def Ca.al{S:Nat->Prop}(h:Ca w xb T b nd s n v)(d:A4 S w w')(z:¬S xb):Ca w' xb T b nd s n v:=d.al h z
end
def RG(w:gx)(z:Nat)(W:CK n)(O:Lets B w):
 Ag 175 #[A5 z,A0 n] w λe w'=>∃E,e=.returned (A5 E)/\Ca w' E 182 z (BT 2 n) (AI (BT 2 n)) n (.slice none 0 0)/\A4 Aa w w'/\w.heap.size<=E:=by
 have d:=A1 (Px w z 2 (by omega) W O);rw[show ((2:Nat):Int)=2 from rfl]at d;generalize hnm:BT 2 n=nm at d ⊢;generalize hs0:AI nm=s0 at d ⊢
 go_enter func175,ntmps175
 go_wp2_with (go_at_call 125;refine d.k ?_;rintro h L;have I:=A1 L);go_ret;exact⟨h.heap.size,rfl,(by show (h.heap.push _)[h.heap.size]?=_;rw[Je]),I.o.aj _,I.o.Ak⟩
end
def Ev.a1{w z w':gx}{b:Nat}{D:DS}{F:Nat->FC}{Ft:Nat->Prop}(h:Ev z Ft w' b D F)(E:A4 Aa w z):Ev w Ft w' b D F:=by
 obtain⟨W,d,L,X,O⟩:=h;exact⟨(E.aT).tr W,d,L,X,λk I=>(O k I).imp id λh=>AP E.Ak h⟩
section
variable{B b:Nat}{D:DS}{F:Nat->FC}{Ft:Nat->Prop}{n:Int}
def KT.a1{w z w':gx}{E:Nat}(h:KT z Ft E w' b D F)(I:A4 Aa w z):KT w Ft E w' b D F:=by
 obtain⟨X,d,O,Y,W⟩:=h;exact⟨(I.aT).tr X,d,O,Y,λk L=>(W k L).imp id λh=>AP I.Ak h⟩
def A4d(w:gx)(L:Nat)(z:gC)(s:Nat)(d t v:Int)(aF:0<=d/\d<256)(ht : -9223372036854775808<=t/\t<=9223372036854775807)(hv : -9223372036854775808<=v/\v<=9223372036854775807)(hf:Bi w L 237 (A5 b) z s)(hs:s<4294967296)(h:AW w b D F Ft)(I:∀k,Ft k->k<w.heap.size)(hn:¬Ft L)(hroom : -4611686018427387904<=D.n.Av/\D.n.Av<=9223372036854775807)(hu:AU F D.A6<=4611686018427387904)(hp:0<=D.n.BG/\D.n.BG<=9223372036854775807)(hl:∀f,lookup D.A6 z=some f->(F f).1.length+21<=70368744177664)(hz:(CJ (BA D F z ⟨(Bg d t v++Cj (AY s (Bg d t v))).toArray⟩).2.1 (BA D F z ⟨(Bg d t v++Cj (AY s (Bg d t v))).toArray⟩).2.2 z).1<=70368744177664/\(CJ D F z).1<=70368744177664):
 Ag 191 #[A5 L,.agg #[A0 d,A0 t,A0 v]] w (Aj (.tuple #[.bool (HG D F z (Bg d t v++Cj (AY s (Bg d t v)))),A0 (BA D F z ⟨(Bg d t v++Cj (AY s (Bg d t v))).toArray⟩).1]) λw'=>
  Bi w' L 237 (A5 b) z (AY s (Bg d t v))/\KT w Ft L w' b (BA D F z ⟨(Bg d t v++Cj (AY s (Bg d t v))).toArray⟩).2.1 (BA D F z ⟨(Bg d t v++Cj (AY s (Bg d t v))).toArray⟩).2.2):=by
 have PB:∀w',_:=λw'=>SG w' d t v aF ht hv;have aB:(Bg d t v).length=17:=by simp[Bg,CP]
 generalize hle:Bg d t v=l at PB aB hz ⊢;have AD:∀w',A4 Aa w w'->_:=λw' hc=>addF (hf.al hc (by simp)) hs (h.aw I hc) (λk hk=>Bn (I k hk) hc.Ak) hn l hroom hu hp (λf hf=>by have:=hl f hf;omega) (by omega) hz;obtain⟨ok,aK⟩:∃ok,HG D F z (l++Cj (AY s l))=ok:=⟨_,rfl⟩;obtain⟨er,aE⟩:∃er,(BA D F z ⟨(l++Cj (AY s l)).toArray⟩).1=er:=⟨_,rfl⟩;rw[aK,aE]at AD ⊢;have hlb:=hf.lt;have aH:=A1 PB;have aI:=A1 AD;have aA:=A1 I
 go_enter func191,ntmps191
 go_wp2;have hb:(w.alloc (.cells #[A0 d,A0 t,A0 v] 113)).heap[w.heap.size]?=some (.cells #[A0 d,A0 t,A0 v] 113 (0,0)):=by show (w.heap.push _)[w.heap.size]?=_;rw[Je]
 have p0:(w.alloc (.cells #[A0 d,A0 t,A0 v] 113)).drew.cell? (A9 w.heap.size 0)=some (A0 d):=by show (w.alloc _).cell? _=_;simp only[World.cell?,hb];rfl
 have p1:(w.alloc (.cells #[A0 d,A0 t,A0 v] 113)).drew.cell? (A9 w.heap.size 1)=some (A0 t):=by show (w.alloc _).cell? _=_;simp only[World.cell?,hb];rfl
 have p2:(w.alloc (.cells #[A0 d,A0 t,A0 v] 113)).drew.cell? (A9 w.heap.size 2)=some (A0 v):=by show (w.alloc _).cell? _=_;simp only[World.cell?,hb];rfl
 have X:Hid (A4 Aa w (w.alloc (.cells #[A0 d,A0 t,A0 v] 113)).drew):=((A4.C _ w).aj _).aa;refine FN (λw'=>w'.cell? (A9 w.heap.size 0)=some (A0 d)/\w'.cell? (A9 w.heap.size 1)=some (A0 t)/\w'.cell? (A9 w.heap.size 2)=some (A0 v)) 8
  (Ba [0,1,2,3,4,5,6,7] [4,5]) (by kernel_rfl) (by kernel_rfl) (λ_ _ _ _ _ h=>h) ⟨p0,p1,p2⟩ ?_
 generalize (w.alloc (.cells #[A0 d,A0 t,A0 v] 113)).drew=w1 at p0 p1 p2 X ⊢
 iterate 4 (refine E1 (v:=?_) rfl (by rfl) ?_ ?_;rotate_left;(· (intro w' Y;(try dsimp only at Y);go_simp;try with_reducible rfl));(try simp only[BO]))
 refine Dv rfl (by rfl) (λK hK=>?_);go_simp;refine(aH.o w1).k ?_;rintro w2 E;have q0:=E.ah p0;have q1:=E.ah p1;have q2:=E.ah p2;refine hK _ _ ⟨q0,q1,q2⟩ (λY=>?_);have W:Hid (A4 Aa w w2):=X.o.tr E
 (try simp only[BO])
 refine Dv rfl (by rfl) (λK hK=>?_);go_simp;refine(aI.o w2 W.o).k ?_;rintro w3⟨aM,O⟩;have k3:=O.1;have aL:¬((λk=>Ft k\/k=L) w.heap.size):=by
  rintro (h|h)
  ·have:=aA.o _ h;omega
  ·omega
 have kc:∀o u,w2.cell? (A9 w.heap.size o)=some u->w3.cell? (A9 w.heap.size o)=some u:=by
  intro o u hu;have aJ:w.heap.size<w2.heap.size:=by
   rcases F9 w.heap.size w2.heap.size with h|h
   ·exact h
   ·unfold World.cell? at hu;rw[NT h]at hu;simp at hu
  unfold World.cell? at hu ⊢;rw[k3.Al _ aJ aL];exact hu
 refine hK _ _ ⟨kc 0 _ q0,kc 1 _ q1,kc 2 _ q2⟩ (λY=>?_);have aG:=A1 aM;have aD:=A1 (O.a1 W.o)
 (try simp only[BO])
 iterate 2 (refine E1 (v:=?_) rfl (by rfl) ?_ ?_;rotate_left;(· (intro w' Y;(try dsimp only at Y);go_simp;try with_reducible rfl));(try simp only[BO]))
 refine Fx ?_;simp only[DH,Dl];go_wp2;go_ret2;exact⟨rfl,aG.o,aD.o⟩
end
section
variable{B b:Nat}{D:DS}{F:Nat->FC}{Ft:Nat->Prop}{n:Int}
def Ly(nm:gD UInt8)(d:Int):gD UInt8:=AQ d++Cj (AY (AI nm) (AQ d))
def K3(nm:gD UInt8):AI nm<4294967296:=JZ _ _ (by omega)
def A0j(w:gx)(E:Int)(k:Nat)(z aQ:DS)(W aO:Nat->FC)(e1 e2:Int)(h:AW w b D F Ft)(aE:∀k,Ft k->k<w.heap.size)(hn:CK n)(hL:Lets B w)(ha : -9223372036854775808<=E/\E<=9223372036854775807)(hk:¬D.Aq k)(hs:D.A6.length<1099511627776/\D.As.length<1099511627776)(h1:CV D ⟨(BT 1 n).toArray⟩ k=(e1,z))(a8:upd F k ([],0)=W)(h2:BA z W ⟨(BT 1 n).toArray⟩ ⟨(Ly (BT 1 n) E).toArray⟩=(e2,aQ,aO))(hroom : -4611686018427387904<=z.n.Av/\z.n.Av<=9223372036854775807)(hu:AU W z.A6<=4611686018427387904)(hp:0<=z.n.BG/\z.n.BG<=9223372036854775807)(hl:∀f,lookup z.A6 ⟨(BT 1 n).toArray⟩=some f->(W f).1.length+12<=70368744177664)(hz:(CJ aQ aO ⟨(BT 1 n).toArray⟩).1<=70368744177664/\(CJ z W ⟨(BT 1 n).toArray⟩).1<=70368744177664):
 Ag 236 #[A5 b,A0 n,A0 E] w λe w'=>
  (e1≠0/\e=.returned (.tuple #[.pointer none,A0 e1])/\Ev w Ft w' b z W)\/
  (e1=0/\e2≠0/\e=.returned (.tuple #[.pointer none,A0 e2])/\Ev w Ft w' b aQ aO)\/
  (e1=0/\e2=0/\∃d,e=.returned (.tuple #[A5 d,A0 0])/\w.heap.size<=d/\Bi w' d 237 (A5 b) ⟨(BT 1 n).toArray⟩ (AY (AI (BT 1 n)) (AQ E))/\
   A4 Ft w w'/\∃X,AW w' b aQ aO X/\(∀k,X k->k<w'.heap.size)/\(∀k,X k->Ft k\/w.heap.size<=k)/\¬X d):=by
 have bE:=A1 (TP w b hn hL);have aL:=K3 (BT 1 n);generalize hnm:BT 1 n=nm at bE aL h1 h2 hl hz ⊢;have CR:∀w' d,A4 Aa w w'->Bi w' d 237 (A5 b) ⟨nm.toArray⟩ (AI nm)->_:=λw' d hc hf=>UP hf (h.aw aE hc) k hk hs;rw[h1,a8]at CR;have AD:∀w' d aB,Bi w' d 237 (A5 b) ⟨nm.toArray⟩ (AI nm)->AW w' b z W aB->(∀k,aB k->k<w'.heap.size)->¬aB d->_:=
  λw' d aB hf hr aK aW=>addF hf aL hr aK aW (AQ E) hroom hu hp (λf hf=>by have:=hl f hf;rw[CP];exact this) (by rw[CP];omega) (by
   show (CJ (BA z W _ ⟨(Ly nm E).toArray⟩).2.1 (BA z W _ ⟨(Ly nm E).toArray⟩).2.2 _).1<=_/\_
   rw[h2];exact hz)
 have e0:AQ E++Cj (AY (AI nm) (AQ E))=Ly nm E:=rfl;rw[e0,h2]at AD;have bJ:∀w',_:=λw'=>Lw w' E ha;generalize hle:AQ E=l at AD bJ ⊢;generalize hok:HG z W ⟨nm.toArray⟩ (Ly nm E)=ok at AD;dsimp only at CR AD;have aV:=A1 CR;have bF:=A1 AD;have a0:=A1 bJ;have aZ:=A1 aE;rcases QC (e1=0) with aD|aD
 ·subst aD
  go_enter func236,ntmps236
  go_wp2_with (first
   | (go_at_call 192;refine bE.m ?_;rintro e w1⟨d,rfl,hb,hc,aF⟩;have aR:=A1 hb;have aS:=A1 hc;have aA:=A1 aF)
   | (go_at_call 240;refine(aV.o _ _ aS.o aR.o).k ?_;rintro w2 hA;have aX:=A1 hA))
  have⟨hk2,Ft2,hr2,hl2,hf2⟩:=aX.o;have bI:=aR.o.lt;have aI:¬Ft d:=λh=>by have:=aZ.o d h;have:=aA.o;omega
  have aH:¬Ft2 d:=λh=>by rcases hf2 d h with h|h;exact aI h;omega
  have a6:=aR.o.al hk2 aI;have aN:=hk2.Ak;refine FN (λ_=>True) 10
   (Ba [0,1,2,3,4,5,6,7,8,9] [4,5]) (by kernel_rfl) (by kernel_rfl) (λ_ _ _ _ _ h=>h) trivial ?_
  have a7:=A1 a6;have a1:=A1 hr2;have aP:=A1 hl2;have aT:=A1 hf2;have a9:=A1 hk2;have aJ:=A1 aH;have aY:=A1 bI;have bB:=A1 aN
  iterate 4 (refine E1 (v:=?_) rfl (by rfl) ?_ ?_;rotate_left;(· (intro w' hS;(try dsimp only at hS);go_simp;try with_reducible rfl));(try simp only[BO]))
  refine Dv rfl (by rfl) (λK hK=>?_);go_simp;refine(a0.o w2.drew).k ?_;rintro w3 O;refine hK _ _ trivial (λhS=>?_);have aU:A4 Aa w2 w3:=⟨O.os,O.DU,O.DW,O.Ak,O.Al⟩;have L:=A1 aU
  (try simp only[BO])
  refine Dv rfl (by rfl) (λK hK=>?_);go_simp;refine(bF.o w3 d Ft2 (a7.o.al L.o (by simp)) (a1.o.aw aP.o L.o) (λk hk=>Bn (aP.o k hk) L.o.Ak) aJ.o).k ?_;rintro w4⟨bH,bG,I,bD,bA,aM⟩;refine hK _ _ trivial (λhS=>?_);have bC:=A1 bH;have Y:Hid (A4 Ft w w4/\AW w4 b aQ aO I/\(∀k,I k->k<w4.heap.size)/\(∀k,I k->Ft k\/w.heap.size<=k)/\¬I d):=by
   have a2:=bB.o;have a3:=L.o.Ak;have a4:=aY.o;have a5:=aA.o;refine⟨((((aS.o.aT).tr a9.o).AH L.o (λ_ h _=>h.elim)).AH bG (λx hx aE=>?_)),bD,bA,λk hk=>?_,λhx=>?_⟩
   ·rcases hx with hx|rfl
    ·exact(aT.o x hx).resolve_right (by omega)
    ·omega
   ·rcases aM k hk with h|h
    ·exact(aT.o k h).imp id (λh=>by omega)
    ·exact .inr (by omega)
   ·rcases aM d hx with h|h
    ·exact aJ.o h
    ·omega
  (try simp only[BO])
  iterate 4 (refine E1 (v:=?_) rfl (by rfl) ?_ ?_;rotate_left;(· (intro w' hS;(try dsimp only at hS);go_simp;try with_reducible rfl));(try simp only[BO]))
  refine Fx ?_;simp only[DH,Dl];rcases QC (e2=0) with aG|aG
  ·subst aG;go_wp2;go_ret2;exact⟨d,rfl,aA.o,bC.o,Y.o.1,I,Y.o.2.1,Y.o.2.2.1,Y.o.2.2.2.1,Y.o.2.2.2.2⟩
  ·go_wp2;go_ret2;exact .inr (.inl ⟨trivial,aG,rfl,Y.o.1,I,Y.o.2.1,Y.o.2.2.1,Y.o.2.2.2.1⟩)
 ·go_enter func236,ntmps236
  go_wp2_with (first
   | (go_at_call 192;refine bE.m ?_;rintro e w1⟨d,rfl,hb,hc,aF⟩;have aR:=A1 hb;have aS:=A1 hc;have aA:=A1 aF)
   | (go_at_call 240;refine(aV.o _ _ aS.o aR.o).k ?_;rintro w2 hA;have aX:=A1 hA))
  go_ret2;exact .inl ⟨aD,rfl,aX.o.a1 aS.o⟩
end
end
end Go.Proofs.YtodcnkbblippnaaGreatDoor
