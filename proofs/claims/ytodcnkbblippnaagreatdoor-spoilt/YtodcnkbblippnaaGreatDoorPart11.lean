/- Part 11 of a proof: walks of the program. -/
import Derived.Test.YtodcnkbblippnaaGreatDoorPart08
namespace Go.Proofs.YtodcnkbblippnaaGreatDoor
set_option maxRecDepth 100000
set_option maxHeartbeats 32000000
set_option linter.defProp false
open Go.Proofs.Tryz
section
open Go.RowKit
attribute [local go_sem ↓] Go.wp_at_zero Go.wp_at_succ
def FL:gh Nat->gh Nat->Nat->Nat
 | x::xs,y::ys,f=>if x=f then y else FL xs ys f
 | _,_,_=>0
def Ln:∀(xs ys:gh Nat) (i f m:Nat),xs.Nodup->xs[i]?=some f->ys[i]?=some m->FL xs ys f=m
 | [],_,i,_,_,_,h,_=>by simp at h
 | x::xs,[],i,_,_,_,_,h=>by simp at h
 | x::xs,y::ys,0,f,m,_,h1,h2=>by
  simp only[List.getElem?_cons_zero,Option.some.injEq]at h1 h2;subst h1;subst h2;simp[FL]
 | x::xs,y::ys,i+1,f,m,hn,h1,h2=>by
  simp only[A48]at h1 h2;have d:x≠f:=λe=>by subst e;exact(KL.1 hn).1 (KM h1)
  simp only[FL,d,C9];exact Ln xs ys i f m (KL.1 hn).2 h1 h2
def ren(r:Nat->Nat)(es:gh AM):gh AM:=es.map λe=>(e.1,r e.2)
def DS.ren(r:Nat->Nat)(D:DS):DS:={A4:=Go.Proofs.YtodcnkbblippnaaGreatDoor.ren r D.A4,AI:=Go.Proofs.YtodcnkbblippnaaGreatDoor.ren r D.AI,As:=D.As.map (Go.Proofs.YtodcnkbblippnaaGreatDoor.ren r),n:=D.n}
def Ren.eq{L M:gh Nat}{es d:gh AM}(h:Ren L M es d)(H:L.Nodup):d=ren (FL L M) es:=by
 apply List.ext_getElem
 ·simp[ren,h.1]
 ·intro k z h2;have E:k<es.length:=by rw[<-h.1];exact z
  have⟨q1,i,q2,q3⟩:=h.2 k E z;simp only[ren,List.getElem_map];rw[Ln L M i _ _ H q2 q3];exact Prod.ext q1 rfl
def CS.cr{N:Nat}{w:ga}{bo I:Nat}{F:Nat->FC}{oe H:gh Nat}{L O:gd}{E:Nat->gd}(h:CS N w bo I F oe H L O E){k:Nat}(d:CB bo I L O H E k\/k∈oe):∃c e,w.heap[k]?=some (.cells c e (0,0))/\e≠125/\e≠120/\e≠95:=by
 have hl:=h.bZ;rcases d with (rfl|rfl|d|d|d|⟨m,W,d⟩)|d
 ·exact⟨_,_,h.ob,by decide⟩
 ·exact⟨_,_,h.mb,by decide⟩
 ·have⟨c,hc⟩:=Be h.ol d;exact⟨c,_,hc,by decide⟩
 ·have⟨c,hc⟩:=Be h.ml d;exact⟨c,_,hc,by decide⟩
 ·obtain⟨i,z,rfl⟩:=DV d;exact⟨_,_,(h.BK i z (by omega)).1,by decide⟩
 ·obtain⟨i,z,rfl⟩:=DV W;have⟨c,hc⟩:=Be (h.BK i z (by omega)).2 d;exact⟨c,_,hc,by decide⟩
 ·have⟨c,hc⟩:=(h.IF k d).2;exact⟨c,_,hc,by decide⟩
def CS.b3{N:Nat}{w:ga}{bo z:Nat}{F:Nat->FC}{oe L:gh Nat}{E H:gd}{I:Nat->gd}(h:CS N w bo z F oe L E H I){k e:Nat}{c:Array gd}(O:w.heap[k]?=some (.cells c e (0,0)))(W:e=125\/e=120\/e=95):¬CF bo z E H k:=by
 intro Y;have d:CB bo z E H L I k:=by
  rcases Y with h|h|h|h
  ·exact .inl h
  ·exact .inr (.inl h)
  ·exact .inr (.inr (.inl h))
  ·exact .inr (.inr (.inr (.inl h)))
 have⟨c',e',h1,h2,h3,h4⟩:=h.cr (.inl d);rw[O]at h1;cases h1;rcases W with e|e|e<;>simp_all
def Jg(l:gh (gh AM)):Nat:=(l.map List.length).sum
def Y6(l:gh (gh AM))(i:Nat)(h:i<l.length):Jg (l.take (i+1))=Jg (l.take i)+(l[i]'h).length:=by
 unfold Jg;rw[Dy h,Ei,List.sum_append];simp
structure CR (N:Nat) (w wr:ga) (b2 bo bm:Nat) (D:DS) (F:Nat->FC) (i:Nat) (L M:gh Nat) (vo vm v1 v2 vc:gd) (VB:Nat->gd) (vals:gh gd) (e1 e2:gh AM) (cs:gh (gh AM)):Prop where
 GU:CS N wr bo bm F L M vo vm VB
 Ah:AK wr b2 v1 v2 vc D.n
 d1:D8 wr v1 e1
 d2:D8 wr v2 e2
 r1:Ren L M D.A4 e1
 r2:Ren L M D.AI e2
 ch:wr.ownsRow 0 120 1 vc i vals
 cl:cs.length=i
 Df:∀k (h:k<cs.length),∃v,vals[k]?=some v/\D8 wr v (cs[k]'h)
 Qs:∀k (h:k<cs.length) (h':k<D.As.length),Ren L M (D.As[k]' h') (cs[k]'h)
 Nk:L.length<=D.A4.length+D.AI.length+Jg (D.As.take i)
 Uw:∀f∈L,D.Ap f
 Al:A3 (λ_=>False) w wr
 nb:N<=b2
 TN:∀g,v1.ownBlock=some g->N<=g
 TM:∀g,v2.ownBlock=some g->N<=g
 Pj:∀g,vc.ownBlock=some g->N<=g
 TL:∀v∈vals,∀g,v.ownBlock=some g->N<=g
def CR.a7{w wr aW w2 w3:ga}{b2 bo bm:Nat}{D:DS}{F:Nat->FC}{i nq:Nat}{L M aU aS:gh Nat}{vo vm v1 v2 vc aK aN v:gd}{aV aL:Nat->gd}{I:gh gd}{e1 e2 Y:gh AM}{cs:gh (gh AM)}{a3:Option Addr}{c3:Nat}(h:CR w.heap.size w wr b2 bo bm D F i L M vo vm v1 v2 vc aV I e1 e2 cs)(hi:i<D.As.length){es:gh AM}(aT:D.As[i]'hi=es)(hW:A3 (λ_=>False) wr aW)(H:EE w.heap.size aW bo bm F L M vo vm aV es es.length es.length v w2 aU aS aK aN aL Y)(hA:App ((w2.drewN nq).alloc (.cells #[v] 120)) w3 120 1 vc (.slice a3 (i+1) c3) (i+1) (I++[v])):
 CR w.heap.size w (w3.setCell ⟨b2,2,none⟩ (.slice a3 (i+1) c3)) b2 bo bm D F (i+1) aU aS aK aN v1 v2 (.slice a3 (i+1) c3) aL (I++[v]) e1 e2 (cs++[Y]):=by
 subst aT;have aB:=h.GU.Al hW (λ_ _ h=>h) (λ_ _ h=>h);have aH:∀(k:Nat) (c:Array gd) (e:Nat),wr.heap[k]?=some (Obj.cells c e (0,0))->(e=125\/e=120\/e=95)->w2.heap[k]?=some (Obj.cells c e (0,0)):=λk c e d he=>by
  have W:=(hW.An k (Bv d) (λh=>h)).trans d;exact(H.Al.An k (Bv W) (aB.b3 W he)).trans W
 have aA:∀(k:Nat) (c:Array gd) (e:Nat),w2.heap[k]?=some (Obj.cells c e (0,0))->e≠120->w3.heap[k]?=some (Obj.cells c e (0,0)):=λk c e d he=>by
  have W:((w2.drewN nq).alloc (.cells #[v] 120)).heap[k]?=some (Obj.cells c e (0,0)):=(Di _ _ _ (by simpa using Bv d)).trans d;refine(hA.Cx.block k (Bv W) (λe2=>?_)).trans W;have⟨c',hh⟩:=Be h.ch e2.symm;have:=aH _ _ _ hh (.inr (.inl rfl));rw[d]at this;cases this;exact he rfl
 have aM:AK w3 b2 v1 v2 vc D.n:=aA _ _ _ (aH _ _ _ h.Ah (.inr (.inr rfl))) (by decide);have aO:=aM.s2 (.slice a3 (i+1) c3);have aE:A3 (One b2) w3 (w3.setCell ⟨b2,2,none⟩ (.slice a3 (i+1) c3)):=(A3.I (One b2) w3).aq rfl 2 _;generalize hW4:w3.setCell ⟨b2,2,none⟩ (.slice a3 (i+1) c3)=W4 at aO aE ⊢;have E:∀(k:Nat) (c:Array gd) (e:Nat),w3.heap[k]?=some (Obj.cells c e (0,0))->e≠95->W4.heap[k]?=some (Obj.cells c e (0,0)):=λk c e d he=>
  (aE.An k (Bv d) (λe2=>BR d aM he e2)).trans d
 have kE:∀(k:Nat) (c:Array gd),wr.heap[k]?=some (Obj.cells c 125 (0,0))->W4.heap[k]?=wr.heap[k]?:=λk c d=>
  (E _ _ _ (aA _ _ _ (aH _ _ _ d (.inl rfl)) (by decide)) (by decide)).trans d.symm
 have aR:∀(k:Nat) (c:Array gd),w2.heap[k]?=some (Obj.cells c 125 (0,0))->W4.heap[k]?=w2.heap[k]?:=λk c d=>
  (E _ _ _ (aA _ _ _ d (by decide)) (by decide)).trans d.symm
 have aD:∀ {v:gd} {es:gh AM},D8 wr v es->D8 W4 v es:=λhe=>Ax he λg O=>by
  have⟨c,hh⟩:=Be he O;exact kE _ _ hh
 have aQ:D8 W4 v Y:=Ax H.EW λg O=>by
  have⟨c,hh⟩:=Be H.EW O;exact aR _ _ hh
 have aF:∀ {es aJ:gh AM},Ren L M es aJ->Ren aU aS es aJ:=λhr=>by
  have⟨o,q1,_⟩:=H.GO;have⟨o2,q2,_⟩:=H.K5;rw[q1,q2];exact hr.af
 have hsz1:=h.Al.Aj;have hsz2:=hW.Aj;have aG:I.length=i:=by simpa using h.ch.1
 refine⟨?_,aO,aD h.d1,aD h.d2,aF h.r1,aF h.r2,?_,by simp[h.cl],?_,?_,?_,?_,?_,h.nb,h.TN,h.TM,?_,?_⟩
 ·refine H.cs.aN (λk d=>?_) (λk d=>?_)
  ·have⟨c,e,W,h2,h3,h4⟩:=H.cs.cr (.inl d);exact(E _ _ _ (aA _ _ _ W h3) h4).trans W.symm
  ·have⟨c,e,W,h2,h3,h4⟩:=H.cs.cr (.inr d);exact(E _ _ _ (aA _ _ _ W h3) h4).trans W.symm
 ·exact Ax hA.AE λg O=>by
   have⟨c,hh⟩:=Be hA.AE O;exact(E _ _ _ hh (by decide)).trans hh.symm
 ·intro k d;by_cases z:k<cs.length
  ·have⟨u,q1,q2⟩:=h.Df k z;refine⟨u,?_,?_⟩
   ·rw[J9 (by rw[aG,<-h.cl];exact z)];exact q1
   ·simp only[Fg z];exact aD q2
  ·(obtain rfl:k=cs.length:=by simp at d;omega);refine⟨v,?_,?_⟩
   ·rw[HV (by rw[aG,h.cl];omega),aG,h.cl];simp
   ·simpa using aQ
 ·intro k d aP;by_cases z:k<cs.length
  ·simp only[Fg z];exact aF (h.Qs k z aP)
  ·(obtain rfl:k=cs.length:=by simp at d;omega);have aI:=h.cl;have:=H.ren;rw[Cf]at this;simp only[aI];(have e1:(cs++[Y])[i]'(by simp[aI])=Y:=by simp[<-aI]);rw[e1];exact this
 ·have⟨o,q1,q2,_⟩:=H.GO;have:=h.Nk;rw[Y6 _ _ hi,q1,AY];omega
 ·intro f hf;have⟨o,q1,_,q3⟩:=H.GO;rw[q1]at hf;rcases AU.1 hf with hf|hf
  ·exact h.Uw f hf
  ·exact .inr (.inr ⟨_,BU hi,q3 f hf⟩)
 ·have c1:=h.Al.tr hW
  have c2:=c1.Av H.Al (λx hx z=>by
   rcases hx with rfl|rfl|hx|hx
   ·have:=aB.IH;omega
   ·have:=aB.Jr;omega
   ·have:=aB.Jm x hx;omega
   ·have:=aB.Jo x hx;omega)
  have c3:=((c2.bb nq).al (.cells #[v] 120)).Cx hA.Cx (λk d z=>by have:=h.Pj k d;omega);exact c3.Av aE (λx hx z=>by have:=h.nb;have:x=b2:=hx;omega)
 ·intro g O;rcases hA.CA with e|e
  ·rw[e]at O;exact h.Pj g O
  ·rw[e]at O;cases O;have:=H.Al.Aj;simp;omega
 ·intro u hu g O;rcases AU.1 hu with hu|hu
  ·exact h.TL u hu g O
  ·simp at hu;subst hu;have:=H.AR g O;omega
def A0v{w W:ga}{b bo bm:Nat}{D:DS}{F:Nat->FC}{vd vs vc vo vm vl:gd}{aB:gh gd}{aG H:Nat->gd}{L M:gh Nat}{es:gh AM}(hr:BY w b D F vd vs vc aB aG)(hc:A3 (λ_=>False) w W)(aD:CS w.heap.size W bo bm F L M vo vm H)(O:D8 w vl es)(d:∀f,Dm f es->D.Ap f)(hF:∀f,D.Ap f->(F f).1.length<=1099511627776)(hn:es.length<1099511627776/\L.length<1099511627776):
 Calls Tryz.prog 87 #[vl,.pointer (some ⟨bo,0,none⟩),.pointer (some ⟨bm,0,none⟩)] W λe w'=>∃v aF aE I z aA Y,e=.returned v/\EE w.heap.size W bo bm F L M vo vm H es es.length es.length v w' aF aE I z aA Y:=by
 have hb:∀k,k<w.heap.size->W.heap[k]?=w.heap[k]?:=λk hk=>hc.An k hk (λh=>h);refine(A0w w.heap.size W bo bm F L M vo vm H aD es vl (Ax O λg E=>hb g (AF O E)) (λg E=>AF O E) hn λf hf=>?_).mono ?_
 ·have⟨h1,h2⟩:=hr.BK f (d f hf);refine⟨Bv h1,hF f (d f hf),aG f,(hb f (Bv h1)).trans h1,Ax h2 λg E=>hb g (AF h2 E),λg E=>AF h2 E⟩
 ·rintro e w'⟨v,rfl,aF,aE,I,z,aA,Y,h⟩;exact⟨v,aF,aE,I,z,aA,Y,rfl,h⟩
def EE.cz{w W w':ga}{bo bm:Nat}{F:Nat->FC}{oe Y aB aA:gh Nat}{vo vm v H E:gd}{O L:Nat->gd}{es I:gh AM}{i cn:Nat}(h:EE w.heap.size W bo bm F oe Y vo vm O es i cn v w' aB aA H E L I)(hc:A3 (λ_=>False) w W)(d:CS w.heap.size W bo bm F oe Y vo vm O):A3 (λ_=>False) w w':=
 hc.Av h.Al (λx z hlt=>by
  rcases z with rfl|rfl|z|z
  ·have:=d.IH;omega
  ·have:=d.Jr;omega
  ·have:=d.Jm x z;omega
  ·have:=d.Jo x z;omega)
def PU{r:Nat->Nat}{es:gh AM}{E:Nat}(h:Dm E (ren r es)):∃f,Dm f es/\r f=E:=by
 obtain⟨e,H,rfl⟩:=h;obtain⟨z,d,rfl⟩:=CC.1 H;exact⟨z.2,⟨z,d,rfl⟩,rfl⟩
def DS.cJ{r:Nat->Nat}{D:DS}{z:Nat}(h:(D.ren r).Ap z):∃f,D.Ap f/\r f=z:=by
 rcases h with h|h|⟨c,E,h⟩
 ·have⟨f,h1,h2⟩:=PU h;exact⟨f,.inl h1,h2⟩
 ·have⟨f,h1,h2⟩:=PU h;exact⟨f,.inr (.inl h1),h2⟩
 ·obtain⟨c0,d,rfl⟩:=CC.1 E;have⟨f,h1,h2⟩:=PU h;exact⟨f,.inr (.inr ⟨c0,d,h1⟩),h2⟩
def Ren.Ap{L M:gh Nat}{es d:gh AM}(h:Ren L M es d){f:Nat}(E:Dm f es):∃(i:Nat) (m:Nat),L[i]?=some f/\M[i]?=some m:=by
 obtain⟨e,H,rfl⟩:=E;obtain⟨k,z,rfl⟩:=DV H;have⟨_,i,h1,h2⟩:=h.2 k z (by rw[h.1];exact z);exact⟨i,_,h1,h2⟩
def CR.e4{w wr:ga}{b2 bo bm:Nat}{D:DS}{F:Nat->FC}{L M:gh Nat}{vo vm v1 v2 vc:gd}{aD:Nat->gd}{O:gh gd}{e1 e2:gh AM}{cs:gh (gh AM)}(h:CR w.heap.size w wr b2 bo bm D F D.As.length L M vo vm v1 v2 vc aD O e1 e2 cs):
 ∃r aE aB,Dh wr b2 (D.ren r) aE aB/\(∀k,aB k->w.heap.size<=k/\k<wr.heap.size)/\A3 (λ_=>False) w wr/\(∀f,D.Ap f->aE (r f)=F f)/\∀f d,D.Ap f->D.Ap d->r f=r d->f=d:=by
 have q1:=h.r1.eq h.GU.IG;have q2:=h.r2.eq h.GU.IG;have q3:cs=D.As.map (ren (FL L M)):=by
  apply List.ext_getElem
  ·simp[h.cl]
  ·intro k h1 h2;rw[List.getElem_map];exact(h.Qs k h1 (by simpa using h2)).eq h.GU.IG
 have Y:∀f,D.Ap f->∃(i:Nat) (m:Nat),L[i]?=some f/\M[i]?=some m:=by
  rintro f (H|H|⟨c,hc,H⟩)
  ·exact h.r1.Ap H
  ·exact h.r2.Ap H
  ·obtain⟨k,hk,rfl⟩:=DV hc;exact(h.Qs k (by rw[h.cl];exact hk) hk).Ap H
 have E:∀f,D.Ap f->FL M L (FL L M f)=f:=λf H=>by
  have⟨i,m,h1,h2⟩:=Y f H;rw[Ln L M i f m h.GU.IG h1 h2,Ln M L i m f h.GU.Q9 h2 h1]
 have W:∀d,(D.ren (FL L M)).Ap d->∃i,∃hi:i<M.length,∃aA:i<L.length,M[i]'hi=d/\L[i]'aA=FL M L d:=λd z=>by
  obtain⟨f,h1,rfl⟩:=DS.cJ z;have⟨i,m,h2,h3⟩:=Y f h1;rw[E f h1,Ln L M i f m h.GU.IG h2 h3];have⟨k1,k2⟩:=Ht.1 h2;have⟨k3,k4⟩:=Ht.1 h3;exact⟨i,k3,k1,k4,k2⟩
 have I:∀d,(D.ren (FL L M)).Ap d->d∈M:=λd z=>by
  have⟨i,k1,_,k2,_⟩:=W d z;rw[<-k2];exact BU k1
 have hv:BY wr b2 (D.ren (FL L M)) (λm=>F (FL M L m)) v1 v2 vc O aD:=by
  refine⟨h.Ah,?_,?_,?_,?_,?_,?_⟩
  ·have:=h.d1;rw[q1]at this;exact this
  ·have:=h.d2;rw[q2]at this;exact this
  ·have:=h.ch;simpa[DS.ren] using this
  ·intro i hi;(have aA:i<cs.length:=by rw[h.cl];simpa[DS.ren] using hi);have⟨v,k1,k2⟩:=h.Df i aA;refine⟨v,k1,?_⟩;subst q3;exact k2
  ·intro d z;have⟨i,k1,k2,k3,k4⟩:=W d z;have:=h.GU.BK i k1 k2;rw[k3,k4]at this;exact this
  ·exact λf d g H z=>h.GU.Gq f d g (I f H) (I d z)
 refine⟨FL L M,λm=>F (FL M L m),C6 b2 (D.ren (FL L M)) v1 v2 vc O aD,⟨_,_,_,_,_,hv,λ_ h=>h⟩,λk hk=>⟨?_,hv.lt hk⟩,h.Al,λf H=>by simp only[E f H],λf d H z e=>by rw[<-E f H,<-E d z,e]⟩;cases hk using C6.bJ with
 | Ah=>exact h.nb
 | dir e=>exact h.TN _ e
 | Ad e=>exact h.TM _ e
 | Al e=>exact h.Pj _ e
 | Df hm e=>exact h.TL _ hm _ e
 | BK H=>exact h.GU.Pn _ (I _ H)
 | byt H e=>exact h.GU.Po _ (I _ H) _ e
def A3m(w:ga)(n:DN)(F:Nat->FC)(h:Nat->gd)(W:ga)(d:W=(((w.alloc (.cells #[.slice none 0 0,.slice none 0 0,.slice none 0 0,.int .i64 n.AA,.int .i64 n.AQ,.int .i64 n.Ce,.int .i64 n.Cv,.int .i64 n.BC,.int .i64 n.Bl,.int .i64 n.fulls,.bool n.AW] 95)).alloc (.cells #[.slice none 0 0] 138)).alloc (.cells #[.slice none 0 0] 138)).drew):
 CS w.heap.size W (w.heap.size+1) (w.heap.size+2) F [] [] (.slice none 0 0) (.slice none 0 0) h/\AK W w.heap.size (.slice none 0 0) (.slice none 0 0) (.slice none 0 0) n/\A3 (λ_=>False) w W:=by
 subst d;refine⟨⟨?_,?_,by omega,CT _ _ _ _,CT _ _ _ _,by simp[Value.ownBlock],by simp,by simp,by simp,by simp,by simp,by omega,by omega,by simp[Value.ownBlock],by simp[Value.ownBlock],by simp,by simp⟩,?_,(((A3.I _ w).al _).al _).al _ |>.ag⟩
 ·show ((((w.alloc _).alloc _).alloc _).heap[w.heap.size+1]?)=_;rw[Di _ _ _ (by simp)];have:=BL (w.alloc (.cells #[.slice none 0 0,.slice none 0 0,.slice none 0 0,.int .i64 n.AA,.int .i64 n.AQ,.int .i64 n.Ce,.int .i64 n.Cv,.int .i64 n.BC,.int .i64 n.Bl,.int .i64 n.fulls,.bool n.AW] 95)) (.cells #[.slice none 0 0] 138);rw[Nz]at this;exact this
 ·show ((((w.alloc _).alloc _).alloc _).heap[w.heap.size+2]?)=_;have:=BL ((w.alloc (.cells #[.slice none 0 0,.slice none 0 0,.slice none 0 0,.int .i64 n.AA,.int .i64 n.AQ,.int .i64 n.Ce,.int .i64 n.Cv,.int .i64 n.BC,.int .i64 n.Bl,.int .i64 n.fulls,.bool n.AW] 95)).alloc (.cells #[.slice none 0 0] 138)) (.cells #[.slice none 0 0] 138);rw[Nz,Nz]at this;exact this
 ·show ((((w.alloc _).alloc _).alloc _).heap[w.heap.size]?)=_;rw[Di _ _ _ (by simp;omega),Di _ _ _ (by simp)];exact BL _ _
def A3l{w W w2 z:ga}{bo bm:Nat}{D:DS}{F:Nat->FC}{vo vm v1 v2 aI aD:gd}{aF aG aK:Nat->gd}{L M aM aL:gh Nat}{e1 e2:gh AM}(aH:CS w.heap.size W bo bm F [] [] (.slice none 0 0) (.slice none 0 0) aF)(hb:AK W w.heap.size (.slice none 0 0) (.slice none 0 0) (.slice none 0 0) D.n)(hc:A3 (λ_=>False) w W)(E:EE w.heap.size W bo bm F [] [] (.slice none 0 0) (.slice none 0 0) aF D.A4 D.A4.length D.A4.length v1 w2 L M vo vm aG e1)(d:EE w.heap.size w2 bo bm F L M vo vm aG D.AI D.AI.length D.AI.length v2 z aM aL aI aD aK e2):
 AK z w.heap.size (.slice none 0 0) (.slice none 0 0) (.slice none 0 0) D.n/\CR w.heap.size w ((z.setCell ⟨w.heap.size,0,none⟩ v1).setCell ⟨w.heap.size,1,none⟩ v2) w.heap.size bo bm D F 0 aM aL aI aD v1 v2 (.slice none 0 0) aK [] e1 e2 []:=by
 have O:=E.cs;have c2:=E.cz hc aH;have c3:=d.cz c2 O;have Y:AK w2 w.heap.size (.slice none 0 0) (.slice none 0 0) (.slice none 0 0) D.n:=(E.Al.An _ hb.lt (aH.b3 hb (.inr (.inr rfl)))).trans hb;have aA:AK z w.heap.size (.slice none 0 0) (.slice none 0 0) (.slice none 0 0) D.n:=(d.Al.An _ Y.lt (O.b3 Y (.inr (.inr rfl)))).trans Y;refine⟨aA,?_⟩;have aJ:=(aA.s0 v1).s1 v2;have aB:A3 (One w.heap.size) z ((z.setCell ⟨w.heap.size,0,none⟩ v1).setCell ⟨w.heap.size,1,none⟩ v2):=((A3.I (One w.heap.size) z).aq rfl 0 _).aq rfl 1 _;generalize hW4:(z.setCell ⟨w.heap.size,0,none⟩ v1).setCell ⟨w.heap.size,1,none⟩ v2=W4 at aJ aB ⊢;have h:∀(k:Nat) (c:Array gd) (e:Nat),z.heap[k]?=some (Obj.cells c e (0,0))->e≠95->W4.heap[k]?=z.heap[k]?:=λk c e hk he=>
  aB.An k (Bv hk) (λe2=>BR hk aA he e2)
 have d1:=Ax E.EW λg H=>by
  have⟨c,hh⟩:=Be E.EW H;exact d.Al.An g (Bv hh) (O.b3 hh (.inl rfl))
 have sz:=hc.Aj;have sz2:=E.Al.Aj;have aE:Ren aM aL D.A4 e1:=by
  have⟨o,q1,_⟩:=d.GO;have⟨o2,q2,_⟩:=d.K5;have:=E.ren;rw[Cf]at this;rw[q1,q2];exact this.af
 refine⟨?_,aJ,?_,?_,aE,?_,CT _ _ _ _,rfl,by simp,by simp,?_,?_,?_,Ao _,?_,?_,by simp[Value.ownBlock],by simp⟩
 ·refine d.cs.aN (λk hk=>?_) (λk hk=>?_)
  ·have⟨c,e,q1,q2,q3,q4⟩:=d.cs.cr (.inl hk);exact h _ _ _ q1 q4
  ·have⟨c,e,q1,q2,q3,q4⟩:=d.cs.cr (.inr hk);exact h _ _ _ q1 q4
 ·exact Ax d1 λg H=>by
   have⟨c,hh⟩:=Be d1 H;exact h _ _ _ hh (by decide)
 ·exact Ax d.EW λg H=>by
   have⟨c,hh⟩:=Be d.EW H;exact h _ _ _ hh (by decide)
 ·have:=d.ren;rw[Cf]at this;exact this
 ·have⟨o,q1,q2,_⟩:=E.GO;have⟨o2,q3,q4,_⟩:=d.GO;rw[q3,q1];simp;omega
 ·intro f I;have⟨o,q1,_,q2⟩:=E.GO;have⟨o2,q3,_,q4⟩:=d.GO;rw[q3,q1]at I;rcases AU.1 I with I|I
  ·simp at I;exact .inl (q2 f I)
  ·exact .inr (.inl (q4 f I))
 ·exact c3.Av aB (λx hx hlt=>by have:x=w.heap.size:=hx;omega)
 ·intro g H;have:=E.AR g H;omega
 ·intro g H;have:=d.AR g H;omega
end
end Go.Proofs.YtodcnkbblippnaaGreatDoor
