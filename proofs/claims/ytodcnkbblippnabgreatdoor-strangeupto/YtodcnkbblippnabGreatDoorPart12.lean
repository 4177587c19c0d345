/- Part 12 of a proof: walks of the program. -/
import Derived.Test.YtodcnkbblippnabGreatDoorPart09
namespace Go.Proofs.YtodcnkbblippnabGreatDoor
set_option maxRecDepth 100000
set_option maxHeartbeats 32000000
set_option linter.defProp false
open Go.Proofs.Tryz
section
open Go.RowKit
attribute [local go_sem ↓] Go.wp_at_zero Go.wp_at_succ
def FI:List Nat->List Nat->Nat->Nat
 | x::xs,y::ys,f=>if x=f then y else FI xs ys f
 | _,_,_=>0
def Kw:∀(xs ys:List Nat) (i f m:Nat),xs.Nodup->xs[i]?=some f->ys[i]?=some m->FI xs ys f=m
 | [],_,i,_,_,_,h,_=>by simp at h
 | x::xs,[],i,_,_,_,_,h=>by simp at h
 | x::xs,y::ys,0,f,m,_,h1,h2=>by
  simp only[List.getElem?_cons_zero,Option.some.injEq]at h1 h2;subst h1;subst h2;simp[FI]
 | x::xs,y::ys,i+1,f,m,hn,h1,h2=>by
  simp only[A21]at h1 h2;have z:x≠f:=λe=>by subst e;exact(J8.1 hn).1 (Li h1)
  simp only[FI,z,C4];exact Kw xs ys i f m (J8.1 hn).2 h1 h2
def ren(r:Nat->Nat)(es:List AI):List AI:=es.map λe=>(e.1,r e.2)
def DS.ren(r:Nat->Nat)(D:DS):DS:={A6:=Go.Proofs.YtodcnkbblippnabGreatDoor.ren r D.A6,AK:=Go.Proofs.YtodcnkbblippnabGreatDoor.ren r D.AK,Ap:=D.Ap.map (Go.Proofs.YtodcnkbblippnabGreatDoor.ren r),n:=D.n}
def Ren.eq{L M:List Nat}{es z:List AI}(h:Ren L M es z)(O:L.Nodup):z=ren (FI L M) es:=by
 apply List.ext_getElem
 ·simp[ren,h.1]
 ·intro k H h2;have I:k<es.length:=by rw[<-h.1];exact H
  have⟨q1,i,q2,q3⟩:=h.2 k I H;simp only[ren,List.getElem_map];rw[Kw L M i _ _ O q2 q3];exact Prod.ext q1 rfl
def CS.cr{N:Nat}{w:World}{X O:Nat}{F:Nat->FC}{old made:List Nat}{W Y:Value}{I:Nat->Value}(h:CS N w X O F old made W Y I){k:Nat}(z:CB X O W Y made I k\/k∈old):∃c e,w.heap[k]?=some (.cells c e (0,0))/\e≠70/\e≠98/\e≠60:=by
 have hl:=h.bW;rcases z with (rfl|rfl|z|z|z|⟨m,hm,z⟩)|z
 ·exact⟨_,_,h.ob,by decide⟩
 ·exact⟨_,_,h.mb,by decide⟩
 ·have⟨c,hc⟩:=Bd h.ol z;exact⟨c,_,hc,by decide⟩
 ·have⟨c,hc⟩:=Bd h.ml z;exact⟨c,_,hc,by decide⟩
 ·obtain⟨i,H,rfl⟩:=Ee z;exact⟨_,_,(h.BL i H (by omega)).1,by decide⟩
 ·obtain⟨i,H,rfl⟩:=Ee hm;have⟨c,hc⟩:=Bd (h.BL i H (by omega)).2 z;exact⟨c,_,hc,by decide⟩
 ·have⟨c,hc⟩:=(h.I7 k z).2;exact⟨c,_,hc,by decide⟩
def CS.bG{N:Nat}{w:World}{W H:Nat}{F:Nat->FC}{old made:List Nat}{I O:Value}{X:Nat->Value}(h:CS N w W H F old made I O X){k e:Nat}{c:Array Value}(Y:w.heap[k]?=some (.cells c e (0,0)))(he:e=70\/e=98\/e=60):¬CF W H I O k:=by
 intro hc;have z:CB W H I O made X k:=by
  rcases hc with h|h|h|h
  ·exact .inl h
  ·exact .inr (.inl h)
  ·exact .inr (.inr (.inl h))
  ·exact .inr (.inr (.inr (.inl h)))
 have⟨c',e',h1,h2,h3,h4⟩:=h.cr (.inl z);rw[Y]at h1;cases h1;rcases he with e|e|e<;>simp_all
def Fh(l:List (List AI)):Nat:=(l.map List.length).sum
def Qt(l:List (List AI))(i:Nat)(h:i<l.length):Fh (l.take (i+1))=Fh (l.take i)+(l[i]'h).length:=by
 unfold Fh;rw[Dz h,Ed,List.sum_append];simp
def Qu(l:List (List AI))(i:Nat):Fh (l.take i)<=Fh l:=by
 unfold Fh
 conv=>rhs;rw[<-DK i l]
 rw[Ed,List.sum_append];omega
def Wh(l:List (List AI))(i:Nat)(h:i<l.length):(l[i]'h).length<=Fh l:=by
 have:=Qt l i h;have:=Qu l (i+1);omega
structure CR (N:Nat) (w wr:World) (b2 bo bm:Nat) (D:DS) (F:Nat->FC) (i:Nat) (L M:List Nat) (vo vm v1 v2 vc:Value) (VB:Nat->Value) (vals:List Value) (e1 e2:List AI) (cs:List (List AI)):Prop where
 Gd:CS N wr bo bm F L M vo vm VB
 Ai:AO wr b2 v1 v2 vc D.n
 d1:CG wr v1 e1
 d2:CG wr v2 e2
 r1:Ren L M D.A6 e1
 r2:Ren L M D.AK e2
 ch:wr.ownsRow 0 98 1 vc i vals
 cl:cs.length=i
 Da:∀k (h:k<cs.length),∃v,vals[k]?=some v/\CG wr v (cs[k]'h)
 OV:∀k (h:k<cs.length) (h':k<D.Ap.length),Ren L M (D.Ap[k]' h') (cs[k]'h)
 Mq:L.length<=D.A6.length+D.AK.length+Fh (D.Ap.take i)
 T4:∀f∈L,D.As f
 An:A5 (λ_=>False) w wr
 nb:N<=b2
 Sf:∀g,v1.ownBlock=some g->N<=g
 Se:∀g,v2.ownBlock=some g->N<=g
 NV:∀g,vc.ownBlock=some g->N<=g
 Sd:∀v∈vals,∀g,v.ownBlock=some g->N<=g
def CR.a8{w wr aX w2 w3:World}{b2 bo bm:Nat}{D:DS}{F:Nat->FC}{i nq:Nat}{L M aV aT:List Nat}{vo vm v1 v2 vc aL aO v:Value}{aW aM:Nat->Value}{W:List Value}{e1 e2 aA:List AI}{cs:List (List AI)}{a3:Option Addr}{c3:Nat}(h:CR w.heap.size w wr b2 bo bm D F i L M vo vm v1 v2 vc aW W e1 e2 cs)(hi:i<D.Ap.length){es:List AI}(aU:D.Ap[i]'hi=es)(hW:A5 (λ_=>False) wr aX)(O:Et w.heap.size aX bo bm F L M vo vm aW es es.length es.length v w2 aV aT aL aO aM aA)(hA:App ((w2.drewN nq).alloc (.cells #[v] 98)) w3 98 1 vc (.slice a3 (i+1) c3) (i+1) (W++[v])):
 CR w.heap.size w (w3.setCell ⟨b2,2,none⟩ (.slice a3 (i+1) c3)) b2 bo bm D F (i+1) aV aT aL aO v1 v2 (.slice a3 (i+1) c3) aM (W++[v]) e1 e2 (cs++[aA]):=by
 subst aU;have aD:=h.Gd.An hW (λ_ _ h=>h) (λ_ _ h=>h);have aI:∀(k:Nat) (c:Array Value) (e:Nat),wr.heap[k]?=some (Obj.cells c e (0,0))->(e=70\/e=98\/e=60)->w2.heap[k]?=some (Obj.cells c e (0,0)):=λk c e z he=>by
  have Y:=(hW.Ao k (Bo z) (λh=>h)).trans z;exact(O.An.Ao k (Bo Y) (aD.bG Y he)).trans Y
 have aB:∀(k:Nat) (c:Array Value) (e:Nat),w2.heap[k]?=some (Obj.cells c e (0,0))->e≠98->w3.heap[k]?=some (Obj.cells c e (0,0)):=λk c e z he=>by
  have Y:((w2.drewN nq).alloc (.cells #[v] 98)).heap[k]?=some (Obj.cells c e (0,0)):=(CU _ _ _ (by simpa using Bo z)).trans z;refine(hA.Cp.block k (Bo Y) (λe2=>?_)).trans Y;have⟨c',hh⟩:=Bd h.ch e2.symm;have:=aI _ _ _ hh (.inr (.inl rfl));rw[z]at this;cases this;exact he rfl
 have aN:AO w3 b2 v1 v2 vc D.n:=aB _ _ _ (aI _ _ _ h.Ai (.inr (.inr rfl))) (by decide);have aP:=aN.s2 (.slice a3 (i+1) c3);have aF:A5 (One b2) w3 (w3.setCell ⟨b2,2,none⟩ (.slice a3 (i+1) c3)):=(A5.C (One b2) w3).ao rfl 2 _;generalize hW4:w3.setCell ⟨b2,2,none⟩ (.slice a3 (i+1) c3)=W4 at aP aF ⊢;have I:∀(k:Nat) (c:Array Value) (e:Nat),w3.heap[k]?=some (Obj.cells c e (0,0))->e≠60->W4.heap[k]?=some (Obj.cells c e (0,0)):=λk c e z he=>
  (aF.Ao k (Bo z) (λe2=>BP z aN he e2)).trans z
 have kE:∀(k:Nat) (c:Array Value),wr.heap[k]?=some (Obj.cells c 70 (0,0))->W4.heap[k]?=wr.heap[k]?:=λk c z=>
  (I _ _ _ (aB _ _ _ (aI _ _ _ z (.inl rfl)) (by decide)) (by decide)).trans z.symm
 have aS:∀(k:Nat) (c:Array Value),w2.heap[k]?=some (Obj.cells c 70 (0,0))->W4.heap[k]?=w2.heap[k]?:=λk c z=>
  (I _ _ _ (aB _ _ _ z (by decide)) (by decide)).trans z.symm
 have aE:∀ {v:Value} {es:List AI},CG wr v es->CG W4 v es:=λhe=>AA he λg X=>by
  have⟨c,hh⟩:=Bd he X;exact kE _ _ hh
 have aR:CG W4 v aA:=AA O.Er λg X=>by
  have⟨c,hh⟩:=Bd O.Er X;exact aS _ _ hh
 have aG:∀ {es aK:List AI},Ren L M es aK->Ren aV aT es aK:=λhr=>by
  have⟨o,q1,_⟩:=O.G9;have⟨o2,q2,_⟩:=O.Jv;rw[q1,q2];exact hr.ae
 have hsz1:=h.An.Am;have hsz2:=hW.Am;have aH:W.length=i:=by simpa using h.ch.1
 refine⟨?_,aP,aE h.d1,aE h.d2,aG h.r1,aG h.r2,?_,by simp[h.cl],?_,?_,?_,?_,?_,h.nb,h.Sf,h.Se,?_,?_⟩
 ·refine O.cs.aM (λk z=>?_) (λk z=>?_)
  ·have⟨c,e,Y,h2,h3,h4⟩:=O.cs.cr (.inl z);exact(I _ _ _ (aB _ _ _ Y h3) h4).trans Y.symm
  ·have⟨c,e,Y,h2,h3,h4⟩:=O.cs.cr (.inr z);exact(I _ _ _ (aB _ _ _ Y h3) h4).trans Y.symm
 ·exact AA hA.AP λg X=>by
   have⟨c,hh⟩:=Bd hA.AP X;exact(I _ _ _ hh (by decide)).trans hh.symm
 ·intro k z;by_cases H:k<cs.length
  ·have⟨u,q1,q2⟩:=h.Da k H;refine⟨u,?_,?_⟩
   ·rw[Iw (by rw[aH,<-h.cl];exact H)];exact q1
   ·simp only[F9 H];exact aE q2
  ·(obtain rfl:k=cs.length:=by simp at z;omega);refine⟨v,?_,?_⟩
   ·rw[Ht (by rw[aH,h.cl];omega),aH,h.cl];simp
   ·simpa using aR
 ·intro k z aQ;by_cases H:k<cs.length
  ·simp only[F9 H];exact aG (h.OV k H aQ)
  ·(obtain rfl:k=cs.length:=by simp at z;omega);have aJ:=h.cl;have:=O.ren;rw[Cj]at this;simp only[aJ];(have e1:(cs++[aA])[i]'(by simp[aJ])=aA:=by simp[<-aJ]);rw[e1];exact this
 ·have⟨o,q1,q2,_⟩:=O.G9;have:=h.Mq;rw[Qt _ _ hi,q1,AX];omega
 ·intro f hf;have⟨o,q1,_,q3⟩:=O.G9;rw[q1]at hf;rcases AU.1 hf with hf|hf
  ·exact h.T4 f hf
  ·exact .inr (.inr ⟨_,BS hi,q3 f hf⟩)
 ·have c1:=h.An.tr hW
  have c2:=c1.AJ O.An (λx hx H=>by
   rcases hx with rfl|rfl|hx|hx
   ·have:=aD.Ia;omega
   ·have:=aD.IM;omega
   ·have:=aD.IK x hx;omega
   ·have:=aD.IL x hx;omega)
  have c3:=((c2.bb nq).aj (.cells #[v] 98)).Cp hA.Cp (λk z H=>by have:=h.NV k z;omega);exact c3.AJ aF (λx hx H=>by have:=h.nb;have:x=b2:=hx;omega)
 ·intro g X;rcases hA.Cu with e|e
  ·rw[e]at X;exact h.NV g X
  ·rw[e]at X;cases X;have:=O.An.Am;simp;omega
 ·intro u hu g X;rcases AU.1 hu with hu|hu
  ·exact h.Sd u hu g X
  ·simp at hu;subst hu;have:=O.AS g X;omega
def RW{w W:World}{b bo bm:Nat}{D:DS}{F:Nat->FC}{vd vs vc vo vm vl:Value}{aD:List Value}{aH O:Nat->Value}{L M:List Nat}{es:List AI}(hr:BY w b D F vd vs vc aD aH)(hc:A5 (λ_=>False) w W)(aE:CS w.heap.size W bo bm F L M vo vm O)(Y:CG w vl es)(z:∀f,D9 f es->D.As f)(hF:∀f,D.As f->(F f).1.length<=1099511627776)(hn:es.length<1099511627776/\L.length<1099511627776):
 Calls Tryz.prog 40 #[vl,.pointer (some ⟨bo,0,none⟩),.pointer (some ⟨bm,0,none⟩)] W λe w'=>∃v aG aF X H aB aA,e=.returned v/\Et w.heap.size W bo bm F L M vo vm O es es.length es.length v w' aG aF X H aB aA:=by
 have hb:∀k,k<w.heap.size->W.heap[k]?=w.heap[k]?:=λk hk=>hc.Ao k hk (λh=>h);refine(Yw w.heap.size W bo bm F L M vo vm O aE es vl (AA Y λg I=>hb g (AG Y I)) (λg I=>AG Y I) hn λf hf=>?_).mono ?_
 ·have⟨h1,h2⟩:=hr.BL f (z f hf);refine⟨Bo h1,hF f (z f hf),aH f,(hb f (Bo h1)).trans h1,AA h2 λg I=>hb g (AG h2 I),λg I=>AG h2 I⟩
 ·rintro e w'⟨v,rfl,aG,aF,X,H,aB,aA,h⟩;exact⟨v,aG,aF,X,H,aB,aA,rfl,h⟩
def Et.b6{w W w':World}{bo bm:Nat}{F:Nat->FC}{old made aD aB:List Nat}{vo vm v O I:Value}{aA Y:Nat->Value}{es X:List AI}{i cn:Nat}(h:Et w.heap.size W bo bm F old made vo vm aA es i cn v w' aD aB O I Y X)(hc:A5 (λ_=>False) w W)(z:CS w.heap.size W bo bm F old made vo vm aA):A5 (λ_=>False) w w':=
 hc.AJ h.An (λx H hlt=>by
  rcases H with rfl|rfl|H|H
  ·have:=z.Ia;omega
  ·have:=z.IM;omega
  ·have:=z.IK x H;omega
  ·have:=z.IL x H;omega)
def Oo{r:Nat->Nat}{es:List AI}{I:Nat}(h:D9 I (ren r es)):∃f,D9 f es/\r f=I:=by
 obtain⟨e,O,rfl⟩:=h;obtain⟨H,z,rfl⟩:=C9.1 O;exact⟨H.2,⟨H,z,rfl⟩,rfl⟩
def DS.cu{r:Nat->Nat}{D:DS}{H:Nat}(h:(D.ren r).As H):∃f,D.As f/\r f=H:=by
 rcases h with h|h|⟨c,I,h⟩
 ·have⟨f,h1,h2⟩:=Oo h;exact⟨f,.inl h1,h2⟩
 ·have⟨f,h1,h2⟩:=Oo h;exact⟨f,.inr (.inl h1),h2⟩
 ·obtain⟨c0,z,rfl⟩:=C9.1 I;have⟨f,h1,h2⟩:=Oo h;exact⟨f,.inr (.inr ⟨c0,z,h1⟩),h2⟩
def Ren.As{L M:List Nat}{es z:List AI}(h:Ren L M es z){f:Nat}(I:D9 f es):∃(i:Nat) (m:Nat),L[i]?=some f/\M[i]?=some m:=by
 obtain⟨e,O,rfl⟩:=I;obtain⟨k,H,rfl⟩:=Ee O;have⟨_,i,h1,h2⟩:=h.2 k H (by rw[h.1];exact H);exact⟨i,_,h1,h2⟩
def CR.dR{w wr:World}{b2 bo bm:Nat}{D:DS}{F:Nat->FC}{L M:List Nat}{vo vm v1 v2 vc:Value}{aE:Nat->Value}{X:List Value}{e1 e2:List AI}{cs:List (List AI)}(h:CR w.heap.size w wr b2 bo bm D F D.Ap.length L M vo vm v1 v2 vc aE X e1 e2 cs):
 ∃r aF aD,D7 wr b2 (D.ren r) aF aD/\(∀k,aD k->w.heap.size<=k/\k<wr.heap.size)/\A5 (λ_=>False) w wr/\(∀f,D.As f->aF (r f)=F f)/\∀f z,D.As f->D.As z->r f=r z->f=z:=by
 have q1:=h.r1.eq h.Gd.I8;have q2:=h.r2.eq h.Gd.I8;have q3:cs=D.Ap.map (ren (FI L M)):=by
  apply List.ext_getElem
  ·simp[h.cl]
  ·intro k h1 h2;rw[List.getElem_map];exact(h.OV k h1 (by simpa using h2)).eq h.Gd.I8
 have aA:∀f,D.As f->∃(i:Nat) (m:Nat),L[i]?=some f/\M[i]?=some m:=by
  rintro f (O|O|⟨c,hc,O⟩)
  ·exact h.r1.As O
  ·exact h.r2.As O
  ·obtain⟨k,hk,rfl⟩:=Ee hc;exact(h.OV k (by rw[h.cl];exact hk) hk).As O
 have I:∀f,D.As f->FI M L (FI L M f)=f:=λf O=>by
  have⟨i,m,h1,h2⟩:=aA f O;rw[Kw L M i f m h.Gd.I8 h1 h2,Kw M L i m f h.Gd.OF h2 h1]
 have Y:∀z,(D.ren (FI L M)).As z->∃i,∃hi:i<M.length,∃aB:i<L.length,M[i]'hi=z/\L[i]'aB=FI M L z:=λz H=>by
  obtain⟨f,h1,rfl⟩:=DS.cu H;have⟨i,m,h2,h3⟩:=aA f h1;rw[I f h1,Kw L M i f m h.Gd.I8 h2 h3];have⟨k1,k2⟩:=Hs.1 h2;have⟨k3,k4⟩:=Hs.1 h3;exact⟨i,k3,k1,k4,k2⟩
 have W:∀z,(D.ren (FI L M)).As z->z∈M:=λz H=>by
  have⟨i,k1,_,k2,_⟩:=Y z H;rw[<-k2];exact BS k1
 have hv:BY wr b2 (D.ren (FI L M)) (λm=>F (FI M L m)) v1 v2 vc X aE:=by
  refine⟨h.Ai,?_,?_,?_,?_,?_,?_⟩
  ·have:=h.d1;rw[q1]at this;exact this
  ·have:=h.d2;rw[q2]at this;exact this
  ·have:=h.ch;simpa[DS.ren] using this
  ·intro i hi;(have aB:i<cs.length:=by rw[h.cl];simpa[DS.ren] using hi);have⟨v,k1,k2⟩:=h.Da i aB;refine⟨v,k1,?_⟩;subst q3;exact k2
  ·intro z H;have⟨i,k1,k2,k3,k4⟩:=Y z H;have:=h.Gd.BL i k1 k2;rw[k3,k4]at this;exact this
  ·exact λf z g O H=>h.Gd.Gb f z g (W f O) (W z H)
 refine⟨FI L M,λm=>F (FI M L m),C7 b2 (D.ren (FI L M)) v1 v2 vc X aE,⟨_,_,_,_,_,hv,λ_ h=>h⟩,λk hk=>⟨?_,hv.lt hk⟩,h.An,λf O=>by simp only[I f O],λf z O H e=>by rw[<-I f O,<-I z H,e]⟩;cases hk using C7.bE with
 | Ai=>exact h.nb
 | dir e=>exact h.Sf _ e
 | Ag e=>exact h.Se _ e
 | An e=>exact h.NV _ e
 | Da hm e=>exact h.Sd _ hm _ e
 | BL O=>exact h.Gd.O0 _ (W _ O)
 | byt O e=>exact h.Gd.O1 _ (W _ O) _ e
def U5(w:World)(n:DN)(F:Nat->FC)(z:Nat->Value)(W:World)(h:W=(((w.alloc (.cells #[.slice none 0 0,.slice none 0 0,.slice none 0 0,.int .i64 n.B1,.int .i64 n.Bw,.int .i64 n.CP,.int .i64 n.Dn,.int .i64 n.BA,.int .i64 n.Bt,.int .i64 n.fulls,.bool n.Bf] 60)).alloc (.cells #[.slice none 0 0] 95)).alloc (.cells #[.slice none 0 0] 95)).drew):
 CS w.heap.size W (w.heap.size+1) (w.heap.size+2) F [] [] (.slice none 0 0) (.slice none 0 0) z/\AO W w.heap.size (.slice none 0 0) (.slice none 0 0) (.slice none 0 0) n/\A5 (λ_=>False) w W:=by
 subst h;refine⟨⟨?_,?_,by omega,CL _ _ _ _,CL _ _ _ _,by simp[Value.ownBlock],by simp,by simp,by simp,by simp,by simp,by omega,by omega,by simp[Value.ownBlock],by simp[Value.ownBlock],by simp,by simp⟩,?_,(((A5.C _ w).aj _).aj _).aj _ |>.ad⟩
 ·show ((((w.alloc _).alloc _).alloc _).heap[w.heap.size+1]?)=_;rw[CU _ _ _ (by simp)];have:=BN (w.alloc (.cells #[.slice none 0 0,.slice none 0 0,.slice none 0 0,.int .i64 n.B1,.int .i64 n.Bw,.int .i64 n.CP,.int .i64 n.Dn,.int .i64 n.BA,.int .i64 n.Bt,.int .i64 n.fulls,.bool n.Bf] 60)) (.cells #[.slice none 0 0] 95);rw[MF]at this;exact this
 ·show ((((w.alloc _).alloc _).alloc _).heap[w.heap.size+2]?)=_;have:=BN ((w.alloc (.cells #[.slice none 0 0,.slice none 0 0,.slice none 0 0,.int .i64 n.B1,.int .i64 n.Bw,.int .i64 n.CP,.int .i64 n.Dn,.int .i64 n.BA,.int .i64 n.Bt,.int .i64 n.fulls,.bool n.Bf] 60)).alloc (.cells #[.slice none 0 0] 95)) (.cells #[.slice none 0 0] 95);rw[MF,MF]at this;exact this
 ·show ((((w.alloc _).alloc _).alloc _).heap[w.heap.size]?)=_;rw[CU _ _ _ (by simp;omega),CU _ _ _ (by simp)];exact BN _ _
def U4{w W w2 H:World}{bo bm:Nat}{D:DS}{F:Nat->FC}{vo vm v1 v2 aJ aE:Value}{aG aH aL:Nat->Value}{L M aN aM:List Nat}{e1 e2:List AI}(aI:CS w.heap.size W bo bm F [] [] (.slice none 0 0) (.slice none 0 0) aG)(hb:AO W w.heap.size (.slice none 0 0) (.slice none 0 0) (.slice none 0 0) D.n)(hc:A5 (λ_=>False) w W)(I:Et w.heap.size W bo bm F [] [] (.slice none 0 0) (.slice none 0 0) aG D.A6 D.A6.length D.A6.length v1 w2 L M vo vm aH e1)(h:Et w.heap.size w2 bo bm F L M vo vm aH D.AK D.AK.length D.AK.length v2 H aN aM aJ aE aL e2):
 AO H w.heap.size (.slice none 0 0) (.slice none 0 0) (.slice none 0 0) D.n/\CR w.heap.size w ((H.setCell ⟨w.heap.size,0,none⟩ v1).setCell ⟨w.heap.size,1,none⟩ v2) w.heap.size bo bm D F 0 aN aM aJ aE v1 v2 (.slice none 0 0) aL [] e1 e2 []:=by
 have Y:=I.cs;have c2:=I.b6 hc aI;have c3:=h.b6 c2 Y;have aA:AO w2 w.heap.size (.slice none 0 0) (.slice none 0 0) (.slice none 0 0) D.n:=(I.An.Ao _ hb.lt (aI.bG hb (.inr (.inr rfl)))).trans hb;have aB:AO H w.heap.size (.slice none 0 0) (.slice none 0 0) (.slice none 0 0) D.n:=(h.An.Ao _ aA.lt (Y.bG aA (.inr (.inr rfl)))).trans aA;refine⟨aB,?_⟩;have aK:=(aB.s0 v1).s1 v2;have aD:A5 (One w.heap.size) H ((H.setCell ⟨w.heap.size,0,none⟩ v1).setCell ⟨w.heap.size,1,none⟩ v2):=((A5.C (One w.heap.size) H).ao rfl 0 _).ao rfl 1 _;generalize hW4:(H.setCell ⟨w.heap.size,0,none⟩ v1).setCell ⟨w.heap.size,1,none⟩ v2=W4 at aK aD ⊢;have z:∀(k:Nat) (c:Array Value) (e:Nat),H.heap[k]?=some (Obj.cells c e (0,0))->e≠60->W4.heap[k]?=H.heap[k]?:=λk c e hk he=>
  aD.Ao k (Bo hk) (λe2=>BP hk aB he e2)
 have d1:=AA I.Er λg O=>by
  have⟨c,hh⟩:=Bd I.Er O;exact h.An.Ao g (Bo hh) (Y.bG hh (.inl rfl))
 have sz:=hc.Am;have sz2:=I.An.Am;have aF:Ren aN aM D.A6 e1:=by
  have⟨o,q1,_⟩:=h.G9;have⟨o2,q2,_⟩:=h.Jv;have:=I.ren;rw[Cj]at this;rw[q1,q2];exact this.ae
 refine⟨?_,aK,?_,?_,aF,?_,CL _ _ _ _,rfl,by simp,by simp,?_,?_,?_,Aq _,?_,?_,by simp[Value.ownBlock],by simp⟩
 ·refine h.cs.aM (λk hk=>?_) (λk hk=>?_)
  ·have⟨c,e,q1,q2,q3,q4⟩:=h.cs.cr (.inl hk);exact z _ _ _ q1 q4
  ·have⟨c,e,q1,q2,q3,q4⟩:=h.cs.cr (.inr hk);exact z _ _ _ q1 q4
 ·exact AA d1 λg O=>by
   have⟨c,hh⟩:=Bd d1 O;exact z _ _ _ hh (by decide)
 ·exact AA h.Er λg O=>by
   have⟨c,hh⟩:=Bd h.Er O;exact z _ _ _ hh (by decide)
 ·have:=h.ren;rw[Cj]at this;exact this
 ·have⟨o,q1,q2,_⟩:=I.G9;have⟨o2,q3,q4,_⟩:=h.G9;rw[q3,q1];simp;omega
 ·intro f X;have⟨o,q1,_,q2⟩:=I.G9;have⟨o2,q3,_,q4⟩:=h.G9;rw[q3,q1]at X;rcases AU.1 X with X|X
  ·simp at X;exact .inl (q2 f X)
  ·exact .inr (.inl (q4 f X))
 ·exact c3.AJ aD (λx hx hlt=>by have:x=w.heap.size:=hx;omega)
 ·intro g O;have:=I.AS g O;omega
 ·intro g O;have:=h.AS g O;omega
def A1B(w:World)(b:Nat)(D:DS)(F:Nat->FC)(Ft:Nat->Prop)(h:D7 w b D F Ft)(hs:D.A6.length+D.AK.length+Fh D.Ap<1099511627776)(hs2:D.Ap.length<1099511627776)(hF:∀f,D.As f->(F f).1.length<=1099511627776):
 Aj 15 #[A7 b] w λe w'=>∃b2 r bF aL,e=.returned (A7 b2)/\D7 w' b2 (D.ren r) bF aL/\(∀k,aL k->w.heap.size<=k/\k<w'.heap.size)/\A5 Ab w w'/\
  (∀f,D.As f->bF (r f)=F f)/\∀f f',D.As f->D.As f'->r f=r f'->f=f':=by
 obtain⟨vd,vs,vc,vals,bH,hr,hft⟩:=h;have aA:=A4 hr;have bK:=A4 hF;have c0:=hr.Ai.c0;have c1:=hr.Ai.c1;have c2:=hr.Ai.c2;have c3:=hr.Ai.c3;have c4:=hr.Ai.c4;have c5:=hr.Ai.c5;have c6:=hr.Ai.c6;have c7:=hr.Ai.c7;have c8:=hr.Ai.c8;have c9:=hr.Ai.c9;have c10:=hr.Ai.bO;obtain⟨ac,pc,rfl,hc1,bP,aJ,hcnone,hcform⟩:=Bb hr.An;unfold maxLen at bP;have aX:=A4 aJ
 have bU:Hid (∀(vl:Value) (es:List AI) (W:World) (L M:List Nat) (vo vm:Value) (aS:Nat->Value),CG w vl es->(∀f,D9 f es->D.As f)->es.length<1099511627776->A5 Ab w W->CS w.heap.size W (w.heap.size+1) (w.heap.size+2) F L M vo vm aS->L.length<1099511627776->
  Aj 40 #[vl,A7 (w.heap.size+1),A7 (w.heap.size+2)] W λe w'=>∃v bX bV a4 a8 a7 bM,e=.returned v/\Et w.heap.size W (w.heap.size+1) (w.heap.size+2) F L M vo vm aS es es.length es.length v w' bX bV a4 a8 a7 bM):=
  λvl es W L M vo vm aS h1 h2 h3 h4 h5 h6=>RW aA.o h4 h5 h1 h2 bK.o ⟨h3,h6⟩
 have bT:Hid (∀W,A5 Ab w W->W.cell? (Ad b 0)=some vd/\W.cell? (Ad b 1)=some vs):=λW hc=>
  ⟨(Dp (hc.Ao b aA.o.Ai.lt (λh=>h))).trans aA.o.Ai.c0,(Dp (hc.Ao b aA.o.Ai.lt (λh=>h))).trans aA.o.Ai.c1⟩
 have a9:w.heap.size≠b:=by have:=aA.o.Ai.lt;omega
 go_enter func15,ntmps15
 go_wp2;refine Ji 33 (by kernel_rfl) (by kernel_rfl) ?_;simp only[JY,EU,EL,DA,Dj]
 repeat still_step
 refine Jj ?_;go_wp2;generalize bQ:(((w.alloc (.cells #[.slice none 0 0,.slice none 0 0,.slice none 0 0,A0 D.n.B1,A0 D.n.Bw,A0 D.n.CP,A0 D.n.Dn,A0 D.n.BA,A0 D.n.Bt,A0 D.n.fulls,.bool D.n.Bf] 60)).alloc (.cells #[.slice none 0 0] 95)).alloc (.cells #[.slice none 0 0] 95)).drew=W1;have⟨cs1,hb1,hc1W⟩:=U5 w D.n F bH W1 bQ.symm;have bR:=A4 hb1;have aD:=A4 cs1;have I:=A4 hc1W;refine Ff (λw'=>w'.cell? (Ad b 0)=some vd/\w'.cell? (Ad b 1)=some vs) 17
  (BD [0,1,2,3,4,5,6,8,9,10,11,12,7,13,14,15,16] [7,13,16]) (by kernel_rfl) (by kernel_rfl) (λ_ _ _ _ _ h=>h) (bT.o _ I.o.ad) ?_
 iterate 12 (refine DO (v:=?_) rfl (by rfl) ?_ ?_;rotate_left;(· (intro w' O;(try dsimp only at O);go_simp;try with_reducible rfl));(try simp only[BQ]))
 refine Dt rfl (by rfl) (λK hK=>?_);go_simp;refine(bU.o vd D.A6 _ _ _ _ _ _ aA.o.A6 (λf hf=>.inl hf) (by omega) I.o.ad (aD.o.An (A5.C Ab W1).ad (λ_ _ h=>h) (λ_ _ h=>h)) (by simp)).mono ?_;rintro e w2⟨v1,L,M,vo,vm,a7,e1,rfl,aN⟩;obtain⟨a1,k1,rfl,-⟩:=CG.BV aN.Er;have aQ:=A4 aN;have aR:=A4 <| aN.b6 I.o.ad (aD.o.An (A5.C Ab W1).ad (λ_ _ h=>h) (λ_ _ h=>h));have hL:L.length<=D.A6.length:=by
  have⟨o,q1,q2,_⟩:=aN.G9;rw[q1];simpa using q2
 refine hK _ _ (bT.o _ aR.o) (λO=>?_)
 (try simp only[BQ])
 refine Dt rfl (by rfl) (λK hK=>?_);go_simp;refine(bU.o vs D.AK _ _ _ _ _ _ aA.o.AK (λf hf=>.inr (.inl hf)) (by omega) aR.o aQ.o.cs (by omega)).mono ?_;rintro e w3⟨v2,bX,bV,a4,a8,VB3,e2,rfl,aT⟩;obtain⟨a2,k2,rfl,-⟩:=CG.BV aT.Er;have a3:=A4 <| aT.b6 aR.o aQ.o.cs;have aK:=U4 (aD.o.An (A5.C Ab W1).ad (λ_ _ h=>h) (λ_ _ h=>h)) ((bR.o:AO W1.drew _ _ _ _ _)) I.o.ad aQ.o aT;have z0:=aK.1.c0;have z1:=aK.1.c1;have zf:=aK.1.fz;have bE:=A4 aK.2;refine hK _ _ (bT.o _ a3.o) (λO=>?_);obtain⟨s0,s1⟩:=O
 (try simp only[BQ])
 iterate 2 (refine DO (v:=?_) rfl (by rfl) ?_ ?_;rotate_left;(· (intro w' O;(try dsimp only at O);go_simp;try with_reducible rfl));(try simp only[BQ]))
 refine Dt rfl (by rfl) (λK hK=>?_);go_simp;refine hK _ _ ?_ (λO=>?_)
 ·simp[World.cell?_setCell_far,a9,s0,s1]
 (try simp only[BQ])
 have c2b:=(Dp (a3.o.Ao b aA.o.Ai.lt (λh=>h))).trans c2;refine Fg ?_;simp only[DA,Dj];go_wp2;generalize hW4:(w3.setCell (Ad w.heap.size 0) (.slice a1 e1.length k1)).setCell (Ad w.heap.size 1) (.slice a2 e2.length k2)=W4 at bE ⊢;go_loopw [67] (λiv wr=>∃i:Nat,i<=D.Ap.length/\iv=A0 i/\Hid (∃L M vo vm H bH z cs,CR w.heap.size w wr w.heap.size (w.heap.size+1) (w.heap.size+2) D F i L M vo vm (.slice a1 e1.length k1) (.slice a2 e2.length k2) H bH z e1 e2 cs)) (λiv _=>D.Ap.length-(intOf iv).toNat)
 ·exact⟨0,C8 _,rfl,_,_,_,_,_,_,_,_,bE.o⟩
 ·obtain⟨i,hi,rfl,bD⟩:=hrel;by_cases aG:i<D.Ap.length
  ·have⟨L3,M3,vo3,vm3,H,VB4,z,cs,k0⟩:=bD.o;have aI:=A4 k0;obtain⟨gc,rfl⟩:=aX.o (by omega);have⟨vk,hvk,hek⟩:=aA.o.Da i aG;have bL:=AG aA.o.An (g:=gc) rfl;have m1:=(Dp (k0.An.Ao gc bL (λh=>h))).trans (BB aA.o.An (g:=gc) rfl hvk);obtain⟨X,Y,rfl,hk1,hk2,-⟩:=CG.BV hek;have bA:=A4 hek;obtain⟨es,aF⟩:∃es,D.Ap[i]'aG=es:=⟨_,rfl⟩;(have bB:es.length<1099511627776:=by have:=Wh D.Ap i aG;rw[aF]at this;omega);have bI:L3.length<1099511627776:=by
    have:=k0.Mq;have:=Qu D.Ap i;omega
   rw[aF]at bA;have bS:=A4 aF;have aY:Hid (∀f,D9 f es->D.As f):=λf hf=>.inr (.inr ⟨_,BS aG,aF ▸ hf⟩);have hi0:=Cd i;(have hi1:(i:Int)<(D.Ap.length:Int):=by omega);rw[aF]at m1;have⟨p0,hp,hp0,hp1,hp2⟩:=Eb Tryz.cU;have hsz:=aI.o.Ai.lt;have aM:=A4 <| aI.o.Gd.An ((A5.C Ab wr).aj (.cells #[.slice X es.length Y] 98)).ad (λ_ _ h=>h) (λ_ _ h=>h);have bG:=A4 <| (aI.o.An.aj (.cells #[.slice X es.length Y] 98)).ad;have aZ:=BN wr (.cells #[.slice X es.length Y] 98);(have n0:(wr.alloc (.cells #[.slice X es.length Y] 98)).cell? (Ad wr.heap.size 0)=some (.slice X es.length Y):=by unfold World.cell?;rw[aZ];rfl);have n1:=(aI.o.Ai.aj (.cells #[.slice X es.length Y] 98)).c2;have bW:=A4 aZ;go_wp2;refine Ff (λw'=>w'.cell? (Ad w.heap.size 2)=some H/\w'.cell? (Ad wr.heap.size 0)=some (.slice X es.length Y)) 12
    (BD [0,1,2,3,4,5,6,7,8,9,10,11] [8,10,11]) (by kernel_rfl) (by kernel_rfl) (λ_ _ _ _ _ h=>h) ⟨n1,n0⟩ ?_
   iterate 8 (refine DO (v:=?_) rfl (by rfl) ?_ ?_;rotate_left;(· (intro w' O;(try dsimp only at O);go_simp;try with_reducible rfl));(try simp only[BQ]))
   refine Dt rfl (by rfl) (λK hK=>?_);go_simp;refine(bU.o _ es _ _ _ _ _ _ bA.o aY.o bB bG.o aM.o bI).mono ?_;rintro e w5⟨v5,L5,M5,vo5,vm5,VB5,aE,rfl,aB⟩;obtain⟨a5,k5,rfl,-⟩:=CG.BV aB.Er;have bN:=A4 aB;have bC:AO w5 w.heap.size (.slice a1 e1.length k1) (.slice a2 e2.length k2) H D.n:=
    (aB.An.Ao _ (by simp;omega) (aM.o.bG (aI.o.Ai.aj (.cells #[.slice X es.length Y] 98)) (.inr (.inr rfl)))).trans (aI.o.Ai.aj (.cells #[.slice X es.length Y] 98))
   have a0:=(aB.An.Ao _ (by simp) (aM.o.bG bW.o (.inr (.inl rfl)))).trans bW.o;have aO:=AA aI.o.ch λg hg=>by
    have⟨c,hh⟩:=Bd aI.o.ch hg;have h1:((wr.alloc (.cells #[.slice X es.length Y] 98)).drew).heap[g]?=some (Obj.cells c 98 (0,0)):=(CU _ _ _ (Bo hh)).trans hh;exact((aB.An.Ao _ (Bo h1) (aM.o.bG h1 (.inr (.inl rfl)))).trans h1).trans hh.symm
   have p1:=bC.c2;(have p2:w5.cell? (Ad wr.heap.size 0)=some (.slice X es.length Y):=by simp[World.cell?,a0]);have aH:=A4 bC;have aV:=A4 a0;have aP:Hid ((w5.alloc (.cells #[.slice a5 aE.length k5] 98)).ownsRow 0 98 1 H i z):=AA aO λg hg=>CU _ _ _ (AG aO hg);have aU:Hid (∀w6 v6 n xs,App (w5.alloc (.cells #[.slice a5 aE.length k5] 98)) w6 98 1 H v6 n xs->(w6.cell? (Ad w.heap.size 2)=some H/\w6.cell? (Ad wr.heap.size 0)=some (.slice X es.length Y))/\w6.frozen? (Ad w.heap.size 2)=false):=by
    intro w6 v6 n xs hA
    have x1:w6.heap[w.heap.size]?=w5.heap[w.heap.size]?:=(hA.Cp.block _ (by have:=aH.o.lt;simp;omega) (λe=>by
     have⟨c,hh⟩:=Bd aP.o e.symm
     exact BP hh (aH.o.aj _) (by decide) rfl)).trans (CU _ _ _ aH.o.lt)
    have x2:w6.heap[wr.heap.size]?=w5.heap[wr.heap.size]?:=(hA.Cp.block _ (by have:=Bo aV.o;simp;omega) (λe=>by
     have:=AG aI.o.ch e.symm;omega)).trans (CU _ _ _ (Bo aV.o))
    exact⟨⟨(Dp x1).trans aH.o.c2,by simp[World.cell?,x2,aV.o]⟩,(aH.o.az x1).fz 2⟩
   have bO:Hid (Src Tryz.prog 1 58 (AN w5.heap.size 1 1) 1 [.slice a5 aE.length k5] (w5.alloc (.cells #[.slice a5 aE.length k5] 98))):=
    Src.ba underlying58 w5 #[.slice a5 aE.length k5] 98 w5.heap.size rfl 1 1 rfl (by simp[Value.oneCell'])
   (have bJ:(i+1)*24<=140737488355328:=by omega);refine hK _ _ ⟨p1,p2⟩ (λO=>?_)
   (try simp only[BQ])
   (refine DO (v:=?_) rfl (by rfl) ?_ ?_;rotate_left;(· (intro w' O;(try dsimp only at O);go_simp;try with_reducible rfl));(try simp only[BQ]))
   refine Dt rfl (by rfl) (λK hK=>?_);go_simp;refine hK _ _ ?_ (λO=>?_)
   ·simp[World.cell?_alloc_some,p1,p2]
   (try simp only[BQ])
   refine Dt rfl (by rfl) (λK hK=>?_);refine Hx (.tmp 75) (.tmp 81) 58 58 (by rfl) 98 p0 _ 1 24 underlying58 hp hp0 hp1 hp2 rfl (by decide) H i z (by rfl) aP.o _ 1 _ (by rfl) bO.o bJ ?_;intro a6 k6 w6 hA;have⟨r1,r2⟩:=aU.o _ _ _ _ hA;have aW:=A4 (aI.o.a8 (nq:=0) aG bS.o (((A5.C Ab wr).aj (.cells #[.slice X es.length Y] 98)).ad) bN.o hA);refine hK _ _ r1 (λO=>?_);obtain⟨r1,-⟩:=r1
   (try simp only[BQ])
   refine Fg ?_;simp only[DA,Dj];go_wp2;go_roundw
   ·exact⟨i+1,by omega,by go_num,_,_,_,_,_,_,_,_,aW.o⟩
   ·simp[intOf];omega
  ·(obtain rfl:i=D.Ap.length:=by omega);have⟨L3,M3,vo3,vm3,H,VB4,z,cs,k0⟩:=bD.o;have⟨r,bF,aL,q1,q2,q3,q4,q5⟩:=k0.dR;have b1:=A4 q1;have b3:=A4 q2;have bZ:=A4 q4;have b0:=A4 q5;have bY:=A4 q3;go_wp2;go_ret;exact⟨_,r,bF,aL,rfl,b1.o,b3.o,bY.o,bZ.o,b0.o⟩
end
end Go.Proofs.YtodcnkbblippnabGreatDoor
