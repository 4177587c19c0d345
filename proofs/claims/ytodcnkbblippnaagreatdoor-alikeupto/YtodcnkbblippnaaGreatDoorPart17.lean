/- Part 17 of a proof: walks of the program. -/
import Derived.Test.YtodcnkbblippnaaGreatDoorPart16
namespace Go.Proofs.YtodcnkbblippnaaGreatDoor
set_option maxRecDepth 100000
set_option maxHeartbeats 32000000
set_option linter.defProp false
open Go.Proofs.Tryz
section
open Go.RowKit
attribute [local go_sem ↓] CE
section
variable {w w':World} {ab b xb jb B:Nat} {sv ov lv jo:Value} {A:Ar} {P P':PD} {Ft FT:Nat->Prop} {a c m:Nat} {J':Jn}
def Ck.jd(h:Ck w ab b xb jb sv ov lv jo A P Ft):JD w jb b A.j P (λk=>Ft k\/Dh jb lv jo k):=
 ⟨lv,jo,Ft,h.jn,h.dk,h.lt,λk d=>h.De k (.inr (.inr (.inr (.inr d)))),λ_ h=>h⟩
def Ck.ev(h:Ck w ab b xb jb sv ov lv jo A P Ft)(E:∀k,Ft k\/Fe ab xb jb sv ov lv jo k->FT k)(hI:Aq w (λk=>Ft k\/Dh jb lv jo k) w' (λw' L=>JD w' jb b J' P' L)):Aq w FT w' (λw' L=>AD w' ab b {A with j:=J'} P' L):=by
 obtain⟨hc,F2,⟨lv',Y,O,h1,h2,h3,h4,h5⟩,hl,hs⟩:=hI;have z:∀k,(k=ab\/k=xb\/sv.ownBlock=some k\/ov.ownBlock=some k)->k<w.heap.size/\¬Ft k/\¬Dh jb lv jo k:=λk d=>by
  rcases d with rfl|rfl|d|d
  ·exact⟨h.Af.lt,h.De _ (.inl rfl),λI=>(h.FB _ I).1 rfl⟩
  ·exact⟨h.ix.lt,h.De _ (.inr (.inl rfl)),λI=>(h.FB _ I).2 rfl⟩
  ·exact⟨h.segs.lt d,h.De k (.inr (.inr (.inl d))),(h.Fg k d).2.2⟩
  ·exact⟨h.AP.lt d,h.De k (.inr (.inr (.inr (.inl d)))),(h.G3 k d).2.2⟩
 have keep:∀k,(k=ab\/k=xb\/sv.ownBlock=some k\/ov.ownBlock=some k)->w'.heap[k]?=w.heap[k]?:=λk d=>hc.Ao k (z k d).1 λI=>I.elim (z k d).2.1 (z k d).2.2;have out:∀k,(k=ab\/k=xb\/sv.ownBlock=some k\/ov.ownBlock=some k)->¬O k/\¬Dh jb lv' Y k:=λk d=>
  ⟨λI=>(hs k (h5 k (.inl I))).elim (λX=>X.elim (z k d).2.1 (z k d).2.2) λX=>by have:=(z k d).1;omega,
   λI=>(hs k (h5 k (.inr I))).elim (λX=>X.elim (z k d).2.1 (z k d).2.2) λX=>by have:=(z k d).1;omega⟩
 have W:Ck w' ab b xb jb sv ov lv' Y {A with j:=J'} P' O:=by
  refine⟨(keep ab (.inl rfl)).trans h.Af,(keep xb (.inr (.inl rfl))).trans h.ix,h.segs.aP λg H=>keep g (.inr (.inr (.inl H))),h.AP.aP λg H=>keep g (.inr (.inr (.inr H))),h1,h2,h3,λk d=>?_,λg H=>?_,λg H=>?_,λk d=>?_⟩
  ·rcases d with d|d|d|d|d
   ·exact(out k (.inl d)).1
   ·exact(out k (.inr (.inl d))).1
   ·exact(out k (.inr (.inr (.inl d)))).1
   ·exact(out k (.inr (.inr (.inr d)))).1
   ·exact h4 k d
  ·exact⟨(h.Fg g H).1,(h.Fg g H).2.1,(out g (.inr (.inr (.inl H)))).2⟩
  ·exact⟨(h.G3 g H).1,(h.G3 g H).2.1,(out g (.inr (.inr (.inr H)))).2⟩
  ·exact⟨λe=>(out ab (.inl rfl)).2 (e ▸ d),λe=>(out xb (.inr (.inl rfl))).2 (e ▸ d)⟩
 have sub:∀k,(Ft k\/Dh jb lv jo k)->FT k:=λk d=>d.elim (λh=>E k (.inl h)) λh=>E k (.inr (.inr (.inr (.inr (.inr h)))));refine W.bN hc (λk _ d=>sub k d) (λk d=>(hs k (h5 k (.inl d))).imp (sub k) id) λk d=>?_;rcases d with d|d|d|d|d
 ·exact .inl (E k (.inr (.inl d)))
 ·exact .inl (E k (.inr (.inr (.inl d))))
 ·exact .inl (E k (.inr (.inr (.inr (.inl d)))))
 ·exact .inl (E k (.inr (.inr (.inr (.inr (.inl d))))))
 ·exact(hs k (h5 k (.inr d))).imp (sub k) id
def A2u(w:World)(p:Pu)(h:AD w ab b A P FT)(aS:∀k,FT k->k<w.heap.size)(hp:Bi p)(hn:A.j.AA=none->CJ (A.j.A9+1)/\AN (A.j.A9+1)/\AN A.j.puts)(aR:A.j.Am.length<=1073741824)(hL:Lets B w)(aI:∀k,FT k->B<=k)(hF:Fit P a c m)(hl:CN (a+1) (c+1) (m+33)):
 Ag 105 #[A5 ab,Dt p] w (Al (.tuple #[.bool (A.ad P p).1,A0 (A.ad P p).2.1]) λw'=>Aq w FT w' (λw' H=>AD w' ab b (A.ad P p).2.2.1 (A.ad P p).2.2.2 H)):=by
 obtain⟨E,z,d⟩:=p;unfold Dt;dsimp only
 obtain⟨s1,s2,s3⟩:=NG A P;have aQ:C5 (w.aC #[A0 E,A0 z,A0 d] 113) w.heap.size E z d:=BN w _;have k0:A3 Ab w (w.aC #[A0 E,A0 z,A0 d] 113):=(A3.I _ w).ak _;have ST:=A1 (QU _ (h.aw k0))
 have aH:Hid (A.ad P (E,z,d)=if (A.C P).1≠0 then (false,(A.C P).1,(A.C P).2.1,(A.C P).2.2) else
  (((A.C P).2.1.j.ad (A.C P).2.2 (E,z,d)).1,((A.C P).2.1.j.ad (A.C P).2.2 (E,z,d)).2.1,{ (A.C P).2.1 with j:=((A.C P).2.1.j.ad (A.C P).2.2 (E,z,d)).2.2.1},((A.C P).2.1.j.ad (A.C P).2.2 (E,z,d)).2.2.2)):=rfl
 have aE:=hF.C (A:=A);generalize hR:A.ad P (E,z,d)=R at aH ⊢;generalize hX:A.C P=X at aH ST s1 s2 s3 aE;obtain⟨aJ,L,aB⟩:=X;dsimp only at aH ST s1 s2 s3 aE;have sz:w.heap.size<(w.aC #[A0 E,A0 z,A0 d] 113).heap.size:=by simp
 have aN:Hid (∀W,Aq (w.aC #[A0 E,A0 z,A0 d] 113) FT W (λw' H=>AD w' ab b L aB H)->∃jb,A7 W ab 2 (A5 jb)/\C5 W w.heap.size E z d/\
  Ag 148 #[A5 jb,.agg #[A0 E,A0 z,A0 d]] W.drew (Al (.tuple #[.bool (L.j.ad aB (E,z,d)).1,A0 (L.j.ad aB (E,z,d)).2.1]) λw'=>
   (A7 w' ab 2 (A5 jb)/\C5 w' w.heap.size E z d)/\Aq w FT w' (λw' H=>AD w' ab b {L with j:=(L.j.ad aB (E,z,d)).2.2.1} (L.j.ad aB (E,z,d)).2.2.2 H))):=λW h2=>by
  obtain⟨c2,aV,⟨xb,jb,sv,ov,lv,jo,Ft,hv,aA⟩,l2,q2⟩:=h2;have kd:A3 Ab W W.drew:=(A3.I _ W).af;have aG:=hv.aw kd;have np:¬FT w.heap.size:=λI=>FZ _ (aS _ I);have aU:¬aV w.heap.size:=λI=>by rcases q2 _ I with h|h;exact np h;omega
  have O:=aQ.aj c2 np;refine⟨jb,hv.Af.c2,O,(ZV W.drew (E,z,d) aG.jd hp (by rw[s2];exact hn) (by rw[s2];exact aR) (((hL.aS k0).aj c2 aI).aS kd) aE hl).mono ?_⟩;rintro e w'⟨rfl,hI⟩;have aF:∀k,(Ft k\/Dh jb lv jo k)->aV k:=λk hk=>hk.elim (λh=>aA k (.inl h)) λh=>aA k (.inr (.inr (.inr (.inr (.inr h)))));refine⟨rfl,⟨(aG.Af.aj hI.1 λI=>I.elim (hv.De _ (.inl rfl)) λI=>(hv.FB _ I).1 rfl).c2,O.af.aj hI.1 λI=>aU (aF _ I)⟩,?_⟩;exact((Aq.a7 (c2.af) q2 (aG.ev aA hI)).a6 k0)
 have aL:Hid (∀wx aM aT,Aq (w.aC #[A0 E,A0 z,A0 d] 113) FT wx (λw' H=>AD w' ab b aM aT H)->Aq w FT wx (λw' H=>AD w' ab b aM aT H)):=λwx aM aT I=>I.a6 k0;by_cases I:aJ=0
 case neg=>
  have aD:R=(false,aJ,L,aB):=by rw[aH.o,Ah I]
  subst aD;have hxb:(aJ !=0)=true:=by simpa using I
  go_enter func105,ntmps105
  go_wp2_with (go_at_call 118;refine ST.m ?_;rintro e W⟨rfl,hI⟩;have aO:=A1 (aL.o _ _ _ hI));go_ret2;exact⟨rfl,aO.o⟩
 case pos=>
  subst I;have aD:R=((L.j.ad aB (E,z,d)).1,(L.j.ad aB (E,z,d)).2.1,{L with j:=(L.j.ad aB (E,z,d)).2.2.1},(L.j.ad aB (E,z,d)).2.2.2):=by rw[aH.o,Ad (by simp)]
  generalize hY:L.j.ad aB (E,z,d)=Y at aN aD;obtain⟨Y0,Y1,Y2,Y3⟩:=Y;dsimp only at aN aD;subst aD
  go_enter func105,ntmps105
  go_wp2_with (fail);refine ST.m ?_;rintro e W⟨rfl,hI⟩;obtain⟨jb,aK,O,aW⟩:=aN.o W hI;have aP:=A1 aW;have d2:A7 W.drew ab 2 (A5 jb):=aK;have e0:=O.af.c0;have e1:=O.af.c1;have e2:=O.af.c2;go_wp2;refine BP (λw'=>A7 w' ab 2 (A5 jb)/\A7 w' w.heap.size 0 (A0 E)/\A7 w' w.heap.size 1 (A0 z)/\A7 w' w.heap.size 2 (A0 d)) 8
   (Bq [0,1,2,3,4,5,6,7] [5]) ⟨d2,e0,e1,e2⟩ ?_
  iterate 5 (refine Bg ?_;(try simp only[An]))
  refine Bw λK hK=>?_;go_simp;refine aP.m ?_;rintro e w3⟨rfl,⟨e4,eb⟩,hI⟩;refine hK _ _ ⟨e4,eb.c0,eb.c1,eb.c2⟩ (λhS=>?_);have aO:=A1 hI
  (try simp only[An])
  iterate 2 (refine Bg ?_;(try simp only[An]))
  refine Bl ?_;simp only[BI,BH];go_wp2;go_ret2;exact⟨rfl,aO.o⟩
def Wj(w:World)(g:Nat)(h:AD w ab b A P FT)(hg:¬FT g)(W:g<w.heap.size)(X:w.cell? ⟨ab,2,none⟩=some (.pointer (some ⟨jb,0,none⟩)))(hb:w.heap[g]?=some (.cells #[.func (Fn.func 118) #[.pointer (some ⟨ab,0,none⟩)] #[],.func (Fn.func 119) #[.pointer (some ⟨jb,0,none⟩)] #[],.func (Fn.func 86) #[.pointer (some ⟨b,0,none⟩)] #[]] 50 (0,0))):
 Calls Tryz.prog 117 #[.slice (some ⟨g,0,none⟩) 3 3] w λe w'=>e=.returned (.int .i64 (A.ae P).1)/\Aq w FT w' (λw' d=>AD w' ab b (A.ae P).2.1 (A.ae P).2.2 d):=by
 refine(A0E w g ab jb b (λn w'=>n=(A.C P).1/\Aq w FT w' (λw' d=>AD w' ab b (A.C P).2.1 (A.C P).2.2 d)/\w'.cell? ⟨ab,2,none⟩=w.cell? ⟨ab,2,none⟩)
  (λn w'=>(A.C P).1=0/\n=((A.C P).2.1.j.ae (A.C P).2.2).1/\Aq w FT w' (λw' d=>AD w' ab b (A.C P).2.1 ((A.C P).2.1.j.ae (A.C P).2.2).2 d))
  (λn w'=>(A.C P).1=0/\((A.C P).2.1.j.ae (A.C P).2.2).1=0/\n=((A.C P).2.1.j.ae (A.C P).2.2).2.aJ.1/\Aq w FT w' (λw' d=>AD w' ab b (A.C P).2.1 ((A.C P).2.1.j.ae (A.C P).2.2).2.aJ.2 d)) hb ?_ ?_ ?_).mono ?_
 ·refine(QT w h).mono ?_;rintro e w'⟨I,z,E⟩;exact⟨_,I,⟨rfl,z,E⟩,z.1.Ao g W hg⟩
 ·rintro w1⟨Y,⟨c1,aD,⟨xb,aA,sv,ov,lv,jo,Ft,hv,O⟩,E,H⟩,hc⟩ hk;have e:aA=jb:=by have:=hv.Af.c2.symm.trans (hc.trans X);simpa using this
  subst e;refine(ZT w1 hv.jd).mono ?_;rintro e w'⟨L,h6⟩;have hI:=Aq.a7 c1 H (hv.ev O h6);exact⟨_,L,⟨Y.symm,rfl,hI⟩,hI.1.Ao g W hg⟩
 ·rintro w1⟨Y,aB,c1,aD,z,E,H⟩ -;refine(UN z).mono ?_;rintro e w'⟨L,h6⟩;exact⟨_,L,Y,aB.symm,rfl,Aq.a7 c1 H h6⟩
 ·rintro e w'⟨n,rfl,⟨I,z,E,_⟩|⟨I,z,E,H⟩|⟨z,E,H,L⟩⟩
  ·subst z;unfold Ar.ae;rw[Ah I];exact⟨rfl,E⟩
  ·subst E;unfold Ar.ae;rw[Ad (by simp[z]),Ah I];exact⟨rfl,H⟩
  ·subst H;unfold Ar.ae;rw[Ad (by simp[z]),Ad (by simp[E])];exact⟨rfl,L⟩
def A2q(w:World)(h:AD w ab b A P FT)(L:∀k,FT k->k<w.heap.size):
 Ag 74 #[A5 ab] w (Al (A0 (A.ae P).1) λw'=>Aq w FT w' (λw' d=>AD w' ab b (A.ae P).2.1 (A.ae P).2.2 d)):=by
 obtain⟨jb,c2⟩:∃jb,A7 w ab 2 (A5 jb):=by
  obtain⟨xb,jb,sv,ov,lv,jo,Ft,hv,_⟩:=h;exact⟨jb,hv.Af.c2⟩
 have c0:=h.bz.1;have z:A3 Ab w (w.aC #[.func (Fn.func 118) #[A5 ab] #[],.func (Fn.func 119) #[A5 jb] #[],.func (Fn.func 86) #[A5 b] #[]] 50).drew:=((A3.I _ w).ak _).af;have I:=A1 (Wj _ w.heap.size (h.aw z) (λW=>FZ _ (L _ W)) (by show w.heap.size<(w.alloc _).heap.size;simp) (z.al c2) (BN w _));have aA:=A1 z;have d0:A7 w.drew ab 0 (A5 b):=c0;have d2:A7 w.drew ab 2 (A5 jb):=c2;have e0:=z.al c0;have e2:=z.al c2;have E:Hid (∀w' O X,Aq (w.aC #[.func (Fn.func 118) #[A5 ab] #[],.func (Fn.func 119) #[A5 jb] #[],.func (Fn.func 86) #[A5 b] #[]] 50).drew FT w' (λw' d=>AD w' ab b O X d)->Aq w FT w' (λw' d=>AD w' ab b O X d)/\A7 w' ab 0 (A5 b)):=λw' O X W=>by
  obtain⟨c,F,r,l,s⟩:=W;exact⟨Aq.a6 ⟨c,F,r,l,s⟩ aA.o,r.bz.1⟩
 generalize hR:A.ae P=R at I ⊢;obtain⟨R1,R2,R3⟩:=R;dsimp only at I ⊢
 go_enter func74,ntmps74
 go_wp2;refine BP (λw'=>A7 w' ab 0 (A5 b)/\A7 w' ab 2 (A5 jb)) 13
  (Bq [0,1,2,3,4,5,6,7,8,9,10,11,12] [12]) ⟨d0,d2⟩ ?_
 iterate 12 (refine Bg ?_;(try simp only[An]))
 refine Bw λK hK=>?_;go_simp;refine hK _ _ ⟨e0,e2⟩ (λhS=>?_)
 (try simp only[An])
 refine Bl ?_;simp only[BI,BH];go_wp2_with (go_at_call 117;refine I.m ?_;rintro e w6⟨rfl,Y⟩;have H:=A1 (E.o _ _ _ Y).1);go_ret;exact⟨rfl,H.o⟩
end
def GK(len:Int)(p q:Pu):Int:=JK (Ci (BB p.2.1 len) (BB q.2.1 len)) (Cn p q)
def Pf{x y:Int}:Ci x y<0↔x<y:=by
 unfold Ci;split
 ·simp_all
 ·split<;>simp_all
def MA{x y:Int}:Ci x y=0↔x=y:=by
 unfold Ci;split
 ·constructor<;>intro h<;>omega
 ·split
  ·constructor<;>intro h<;>omega
  ·constructor<;>intro h<;>omega
def A1W{p q:Pu}:Cn p q<0↔(p.1<q.1\/p.1=q.1/\p.2.1<q.2.1):=by
 unfold Cn;by_cases h:Ci p.1 q.1=0
 ·rw[Ad (by simpa using h),Pf];have:=MA.1 h;constructor
  ·exact λd=>.inr ⟨this,d⟩
  ·rintro (d|⟨_,d⟩)
   ·omega
   ·exact d
 ·rw[Ah h,Pf];have:¬p.1=q.1:=λe=>h (MA.2 e);constructor
  ·exact λd=>.inl d
  ·rintro (d|⟨d,_⟩)
   ·exact d
   ·exact absurd d this
def My{len:Int}{p q:Pu}:GK len p q<0↔Az len p q=true:=by
 unfold GK JK Az;rw[decide_eq_true_iff];by_cases h:Ci (BB p.2.1 len) (BB q.2.1 len)=0
 ·rw[Ad (by simpa using h),A1W];have:=MA.1 h;constructor
  ·exact λd=>.inr ⟨this,d⟩
  ·rintro (d|⟨_,d⟩)
   ·omega
   ·exact d
 ·rw[Ah h,Pf];have:¬BB p.2.1 len=BB q.2.1 len:=λe=>h (MA.2 e);constructor
  ·exact λd=>.inl d
  ·rintro (d|⟨d,_⟩)
   ·exact d
   ·exact absurd d this
def Fj(len:Int):BT (Az len):=by
 refine⟨λx=>?_,λx y z=>?_,λx y z=>?_⟩
 ·unfold Az;simp
 ·unfold Az;simp only[DG];omega
 ·unfold Az;simp only[DG];omega
def A1T(len:Int)(p q:Pu):GK len p q = -1\/GK len p q=0\/GK len p q=1:=by
 unfold GK JK;split
 ·exact Pd _ _
 ·exact Ui _ _
def Mz(w:World)(wb:Nat)(len:Int)(p q:Pu)(hp:AN p.2.1)(hq:AN q.2.1)(hl:1<=len/\len<=4611686018427387904)(hw:A7 w wb 0 (A0 len)):
 Ag 155 #[Dt p,Dt q,A5 wb] w (Al (A0 (GK len p q)) λw'=>A3 Ab w w'):=by
 obtain⟨W,z,H⟩:=p;obtain⟨I,E,O⟩:=q;unfold GK Dt;dsimp only at hp hq ⊢;have aN:=A1 (P9);have OR:=A1 (Sh);have aK:=A1 (λd t (ht:AN t)=>Np d t len ht hl);have aE:=A1 (λd=>O3 d (W,z,H) (I,E,O));unfold Dt at aE;dsimp only at aE;obtain⟨x,hx⟩:∃x,BB z len=x:=⟨_,rfl⟩;obtain⟨y,hy⟩:∃y,BB E len=y:=⟨_,rfl⟩;have aD:=A1 (λd=>aK.o d z hp);have aA:=A1 (λd=>aK.o d E hq);rw[hx]at aD;rw[hy]at aA;rw[hx,hy];obtain⟨r,hr⟩:∃r,Ci x y=r:=⟨_,rfl⟩;obtain⟨s,hs⟩:∃s,Cn (W,z,H) (I,E,O)=s:=⟨_,rfl⟩;have aB:=A1 (λd=>aN.o d x y);rw[hr]at aB;rw[hs]at aE;rw[hr,hs];have b1:C5 ((w.alloc (.cells #[A0 W,A0 z,A0 H] 113)).alloc (.cells #[A0 I,A0 E,A0 O] 113)) w.heap.size W z H:=(Dc _ _ _ (by simp)).trans (BN w _);have b2:C5 ((w.alloc (.cells #[A0 W,A0 z,A0 H] 113)).alloc (.cells #[A0 I,A0 E,A0 O] 113)) (w.heap.size+1) I E O:=by
  have:=BN (w.alloc (.cells #[A0 W,A0 z,A0 H] 113)) (.cells #[A0 I,A0 E,A0 O] 113);simpa[C5] using this
 have k2:A3 Ab w ((w.alloc (.cells #[A0 W,A0 z,A0 H] 113)).alloc (.cells #[A0 I,A0 E,A0 O] 113)):=((A3.I _ w).ak _).ak _;have sz:((w.alloc (.cells #[A0 W,A0 z,A0 H] 113)).alloc (.cells #[A0 I,A0 E,A0 O] 113)).heap.size=w.heap.size+2:=by simp
 have aL:=A1 b1;have aH:=A1 b2;have aI:=A1 k2;have aO:=A1 sz;have aM:=A1 (k2.al hw)
 go_enter func155,ntmps155
 go_wp2;generalize ((w.alloc (.cells #[A0 W,A0 z,A0 H] 113)).alloc (.cells #[A0 I,A0 E,A0 O] 113))=w2 at aL aH aI aO aM ⊢;have aF:Hid (∀d,A3 Ab w2 d->A7 d w.heap.size 0 (A0 W)/\A7 d w.heap.size 1 (A0 z)/\A7 d w.heap.size 2 (A0 H)/\A7 d (w.heap.size+1) 0 (A0 I)/\A7 d (w.heap.size+1) 1 (A0 E)/\A7 d (w.heap.size+1) 2 (A0 O)/\A7 d wb 0 (A0 len)):=λd hx=>by
  have e1:=aL.o.aj hx (λh=>h);have e2:=aH.o.aj hx (λh=>h);exact⟨e1.c0,e1.c1,e1.c2,e2.c0,e2.c1,e2.c2,hx.al aM.o⟩
 have X:=aF.o w2.drew (A3.I _ w2).af;refine BP (λw'=>A7 w' w.heap.size 0 (A0 W)/\A7 w' w.heap.size 1 (A0 z)/\A7 w' w.heap.size 2 (A0 H)/\A7 w' (w.heap.size+1) 0 (A0 I)/\A7 w' (w.heap.size+1) 1 (A0 E)/\A7 w' (w.heap.size+1) 2 (A0 O)/\A7 w' wb 0 (A0 len)) 16
  (Bq [0,1,2,3,5,6,7,8,11,12,4,9,10,13,14,15] [4,9,10,13,14,15]) X ?_
 iterate 10 (refine Bg ?_;(try simp only[An]))
 refine Bw λK L=>?_;go_simp;refine(aD.o _).mono ?_;rintro e w3⟨rfl,rfl⟩;refine L _ _ X (λhS=>?_)
 (try simp only[An])
 refine Bw λK L=>?_;go_simp;refine(aA.o _).mono ?_;rintro e w3⟨rfl,rfl⟩;refine L _ _ X (λhS=>?_)
 (try simp only[An])
 refine Bw λK L=>?_;go_simp;refine(aB.o _).mono ?_;rintro e w3⟨rfl,rfl⟩;refine L _ _ X (λhS=>?_)
 (try simp only[An])
 refine Bw λK L=>?_;go_simp;refine(aE.o _).mono ?_;rintro e Y⟨rfl,aG⟩;have k4:A3 Ab w2 Y:=((A3.I Ab w2).af).tr aG;refine L _ _ (aF.o Y k4) (λhS=>?_);have aP:=A1 k4
 (try simp only[An])
 refine Bw λK L=>?_;go_simp;have hb:(Y.alloc (.cells #[A0 r,A0 s] 3)).heap[Y.heap.size]?=some (.cells #[A0 r,A0 s] 3):=BN Y _;have k5:A3 Ab w2 (Y.alloc (.cells #[A0 r,A0 s] 3)):=aP.o.ak _;refine L _ _ (aF.o _ k5) (λhS=>?_);have aJ:=A1 k5;have Ep:=A1 (OR.o (Y.alloc (.cells #[A0 r,A0 s] 3)) Y.heap.size r s (by simp only[A7,World.cell?,hb];rfl) (by simp only[A7,World.cell?,hb];rfl))
 (try simp only[An])
 refine Bw λK L=>?_;go_simp;refine Ep.m ?_;rintro e w5⟨rfl,rfl⟩;refine L _ _ (aF.o _ aJ.o) (λhS=>?_)
 (try simp only[An])
 refine Bl ?_;simp only[BI,BH];go_wp2;go_ret;exact⟨rfl,aI.o.tr aJ.o⟩
end
section
open Go
section
variable {P:Program} {ops:Array Oper} {md:Region.Mode} {Q:Exit->Act->World->Prop}
def SB(aA:Nat)(S:World->Prop)(listed:Array Bool)(w:World):Prop:=listed.getD aA false=true\/S w
def SB.bh{aA i:Nat}{S:World->Prop}{listed:Array Bool}{w:World}(d:i≠aA):SB aA S (listed.setIfInBounds i true) w↔SB aA S listed w:=by
 unfold SB;have:(listed.setIfInBounds i true).getD aA false=listed.getD aA false:=by simp[Array.getD_eq_getD_getElem?,Array.getElem?_setIfInBounds_ne d]
 rw[this]
def wpAnyL(P:Program)(md:Region.Mode)(ops:Array Oper)(Q:Exit->Act->World->Prop)(S:Array Bool->World->Prop)(n:Nat)(L:Array Bool->Act->World->Prop):Nat->Array Bool->Act->World->Prop
 | 0,listed,a,w=>L listed a w
 | f+1,listed,a,w=>Region.ready md ops listed≠[]/\∀i∈Region.ready md ops listed,i<n/\wpOp P ops Q i (λa' w'=>S (listed.setIfInBounds i true) w'/\wpAnyL P md ops Q S n L f (listed.setIfInBounds i true) a' w') a w
def Qd{S:Array Bool->World->Prop}{n g:Nat}{L:Array Bool->Act->World->Prop}(d:∀listed a w,L listed a w->wpAny P md ops Q g listed a w):
 ∀(f:Nat) (listed:Array Bool) (a:Act) (w:World),wpAnyL P md ops Q S n L f listed a w->wpAny P md ops Q (f+g) listed a w
 | 0,listed,a,w,h=>by rw[GO];exact d _ _ _ h
 | f+1,listed,a,w,h=>by
  rw[show f+1+g=(f+g)+1 from by omega];exact⟨λH=>absurd H h.1,λi E=>Kq (λa' w' z=>Qd d f _ a' w' z.2) (h.2 i E).2⟩
def wpAnyL_first{aK:World->Prop}{aO:World->Prop}{aA n i:Nat}{oi:Oper}{v:Value}{L:Array Bool->Act->World->Prop}(aE:i≠aA)(hi:ops[i]?=some oi)(aB:∀(j:Nat) (o:Oper) cs b,ops[j]?=some o->o.op≠.select cs b)(hQ:∀c a w,Q (.panic c) (a.put oi.dst v) w->Q (.panic c) a w)(hs:Region.sinkB md ops n=true)(hc:Region.chainB md ops n=true)(hn:n<ops.size)(aJ:i<n)(aG:∀listed w,HeadInv md ops n listed->i∈Region.ready md ops listed->SB aA aK listed w->aO w)(aF:∀listed a w,L listed a w->∀j∈Region.ready md ops listed,n<=j):
 ∀(f:Nat) (listed:Array Bool) (a:Act) (w:World),HeadInv md ops n listed->
  (∀j oj,ops[j]?=some oj->j≠i->listed.getD j true=false->(∀e∈oj.after,Region.binds md e=true->e.on≠i)->oi.apart ops oj=true)->
  i∈Region.ready md ops listed->YieldsIf P ops aO oi v a->SB aA aK listed w->
  wpAnyL P md ops Q (SB aA aK) n L f (listed.setIfInBounds i true) (a.put oi.dst v) w->wpAnyL P md ops Q (SB aA aK) n L (f+1) listed a w:=by
 intro f
 induction f with
 | zero=>
  intro listed a w E _ O hy hS H;have z:=(I9.1 O).1;refine⟨λh=>(by rw[h]at O;cases O),λj hj=>?_⟩;have X:j<n:=by
   rcases F7 j n with h|h
   ·exact h
   ·exact absurd hj (LP hs hc hn E _ i rfl aJ z j h)
  refine⟨X,?_⟩;by_cases d:j=i
  ·subst d;exact hy.wpOp hi (aG _ _ E O hS) ⟨(SB.bh aE).2 hS,H⟩
  ·have:=aF _ _ _ H j (KF hj d);omega
 | succ f ih=>
  intro listed a w E I O hy hS H;have z:=(I9.1 O).1;refine⟨λh=>(by rw[h]at O;cases O),λj hj=>?_⟩;have X:j<n:=by
   rcases F7 j n with h|h
   ·exact h
   ·exact absurd hj (LP hs hc hn E _ i rfl aJ z j h)
  refine⟨X,?_⟩;by_cases d:j=i
  ·subst d;exact hy.wpOp hi (aG _ _ E O hS) ⟨(SB.bh aE).2 hS,H⟩
  ·have h1:=(H.2 j (KF hj d)).2;obtain⟨Y,oj,aD,hall⟩:=I9.1 hj;have aI:∀e∈oj.after,Region.binds md e=true->e.on≠i:=λe he hb aN=>by
    have h1:=hall e he hb;rw[aN,getD_both z]at h1;cases h1
   have h2:=wpOp_putIf aD (I j oj aD d Y aI) (λcs b=>aB i oi cs b hi) (λcs b=>aB j oj cs b aD) hQ hy h1;have W:∀k ok,ops[k]?=some ok->k≠i->(listed.setIfInBounds j true).getD k true=false->
    (∀e∈ok.after,Region.binds md e=true->e.on≠i)->oi.apart ops ok=true:=λk ok hk aM z aL=>by
    refine I k ok hk aM ?_ aL;by_cases aH:j=k
    ·subst aH;exact Y
    ·rw[Mj true aH]at z;exact z
   refine Kq (λa' w' h3=>?_) h2;have h4:=h3.2.1;rw[VC _ _ (Pz d)]at h4;have h5:=(SB.bh aE).1 h4;refine⟨h5,ih (listed.setIfInBounds j true) a' w' (E.set hj X) W (KF O (Pz d)) h3.1 h5 ?_⟩;rw[VC _ _ d];exact h3.2.2
def EI(P:Program)(ops:Array Oper)(Q:Exit->Act->World->Prop)(aA:Nat)(S:World->Prop)(T:Act->World->Prop):List (Nat×Nat)->Act->World->Prop
 | [],a,w=>T a w
 | (i,0):: r,a,w=>wpOp P ops Q i (λa' w'=>(i=aA\/S w')/\EI P ops Q aA S T r a' w') a w
 | (i,1):: r,a,w=>∃o v,ops[i]?=some o/\YieldsIf P ops S o v a/\EI P ops Q aA S T r (a.put o.dst v) w
 | (i,_+2):: r,a,w=>∃o v,ops[i]?=some o/\YieldsIf P ops (λ_=>True) o v a/\EI P ops Q aA S T r (a.put o.dst v) w
def Nq(md:Region.Mode)(ops:Array Oper)(aA i:Nat):Bool:=match ops[aA]? with
 | some o=>o.after.any λe=>Region.binds md e&&decide (e.on=i)
 | none=>false
def I0(md:Region.Mode)(ops:Array Oper)(aA n:Nat):List (Nat×Nat)->Array Bool->Bool
 | [],listed=>Region.seqB md ops (ops.size-n) n listed
 | (i,0):: r,listed=>decide (i<n)&&decide (Region.ready md ops listed=[i])&&I0 md ops aA n r (listed.setIfInBounds i true)
 | (i,1):: r,listed=>decide (i<n)&&((Region.ready md ops listed).contains i&&Region.free md ops listed i)&&(decide (i≠aA)&&Nq md ops aA i)&&I0 md ops aA n r (listed.setIfInBounds i true)
 | (i,_+2):: r,listed=>decide (i<n)&&((Region.ready md ops listed).contains i&&Region.free md ops listed i)&&decide (i≠aA)&&I0 md ops aA n r (listed.setIfInBounds i true)
def NM(ops:Array Oper)(aA n:Nat)(d:List (Nat×Nat)):Bool:=
 Region.noSelect ops&&decide (n<ops.size)&&decide (d.length=n)&&Region.sinkB .any ops n&&Region.chainB .any ops n&&I0 .any ops aA n d (Array.replicate ops.size false)
def VX{aA i n:Nat}{S:World->Prop}{listed:Array Bool}{w:World}(h:Nq md ops aA i=true)(E:HeadInv md ops n listed)(I:i∈Region.ready md ops listed)(z:SB aA S listed w):S w:=by
 rcases z with L|z
 ·unfold Nq at h;cases ho:ops[aA]? with
  | none=>rw[ho]at h;cases h
  | some o=>
   rw[ho]at h;obtain⟨e,H,d⟩:=Array.any_eq_true'.1 h;simp only[FH,DG]at d;have:=E.closed aA o ho L e H d.1;rw[d.2,getD_both (I9.1 I).1]at this;cases this
 ·exact z
def LN{aA n:Nat}{S:World->Prop}{T:Act->World->Prop}(E:Region.noSelect ops=true)(hs:Region.sinkB md ops n=true)(hc:Region.chainB md ops n=true)(hn:n<ops.size)(hQ:∀c a t v w,Q (.panic c) (Act.put a (some t) v) w->Q (.panic c) a w):
 ∀(Y:List (Nat×Nat)) (listed:Array Bool) (a:Act) (w:World),HeadInv md ops n listed->I0 md ops aA n Y listed=true->SB aA S listed w->EI P ops Q aA S T Y a w->
 wpAnyL P md ops Q (SB aA S) n (λd a' w'=>Region.seqB md ops (ops.size-n) n d=true/\T a' w') Y.length listed a w
 | [],listed,a,w,_,hB,_,h=>⟨hB,h⟩
 | (i,0):: r,listed,a,w,z,hB,X,h=>by
  simp only[I0,FH,DG]at hB;obtain⟨⟨H,W⟩,O⟩:=hB;refine⟨by rw[W];simp,λj hj=>?_⟩;have I:i∈Region.ready md ops listed:=by rw[W];simp
  rw[W]at hj;have:j=i:=by simpa using hj
  subst this;refine⟨H,Kq (λa' w' h'=>?_) h⟩;have aB:SB aA S (listed.setIfInBounds j true) w':=by
   rcases h'.1 with rfl|h1
   ·refine .inl ?_;(have:j<listed.size:=by rw[z.size];omega);simp[this]
   ·exact .inr h1
  exact⟨aB,LN E hs hc hn hQ r _ a' w' (z.set I H) O aB h'.2⟩
 | (i,1):: r,listed,a,w,z,hB,X,h=>by
  simp only[I0,FH,DG]at hB;obtain⟨⟨⟨H,W,hf⟩,L,aD⟩,O⟩:=hB;obtain⟨o,v,h0,hy,hK⟩:=h;have I:i∈Region.ready md ops listed:=by simpa using W
  exact wpAnyL_first L h0 (UR E) (λc a w=>by cases o.dst with|none=>exact id|some t=>exact hQ c a t v w) hs hc hn H (λl w z W X=>VX aD z W X) (λd a' w' hL=>QV hL.1) r.length listed a w z (US h0 hf) I hy X
   (LN E hs hc hn hQ r _ _ w (z.set I H) O ((SB.bh L).2 X) hK)
 | (i,k+2):: r,listed,a,w,z,hB,X,h=>by
  simp only[I0,FH,DG]at hB;obtain⟨⟨⟨H,W,hf⟩,L⟩,O⟩:=hB;obtain⟨o,v,h0,hy,hK⟩:=h;have I:i∈Region.ready md ops listed:=by simpa using W
  exact wpAnyL_first L h0 (UR E) (λc a w=>by cases o.dst with|none=>exact id|some t=>exact hQ c a t v w) hs hc hn H (λ_ _ _ _ _=>trivial) (λd a' w' hL=>QV hL.1) r.length listed a w z (US h0 hf) I hy X
   (LN E hs hc hn hQ r _ _ w (z.set I H) O ((SB.bh L).2 X) hK)
end
section
variable {P:Program} {ops:Array Oper} {Q:Exit->Act->World->Prop} {aA:Nat} {S:World->Prop} {T:Act->World->Prop}
def VK{id:Nat}{a:Act}{w:World}{l:List Oper}(aA:Nat)(S:World->Prop)(n:Nat)(d:List (Nat×Nat))(Y:P.follows .mixedOrders=true)(O:NM l.toArray aA n d=true)(X:∀c a t v w,Q (.panic c) (Act.put a (some t) v) w->Q (.panic c) a w)(hS:S w.drew)(h:EI P l.toArray Q aA S (λa w=>wpList P l.toArray Q (l.drop n) a w) d a w.drew):(Code.region id l.toArray true).wp P Q a w:=by
 simp only[NM,FH,DG]at O;obtain⟨⟨⟨⟨⟨hsel,hn⟩,hsl⟩,hs⟩,hc⟩,hgo⟩:=O;have E:(l.drop n).length=l.toArray.size-n:=by simp
 have z:HeadInv .any l.toArray n (Array.replicate l.toArray.size false):=
  ⟨by simp,λj oj _ L=>(by rw[JX]at L;cases L),λt _ W=>getD_in (by simpa using W) (JX _ _)⟩
 have H:=LN (md:=.any) (T:=λa w=>wpList P l.toArray Q (l.drop n) a w) hsel hs hc hn X d _ a w.drew z hgo (.inr hS) h;refine Qa Y ?_
 have:=Qd (Q:=Q) (g:=l.toArray.size-n) (λlisted a' w' I=>by
  have:=Qb (md:=.any) (Q':=Q) (l.drop n) n listed a' w' (λj=>by simp[List.getElem?_drop]) (by rw[E];exact I.1) I.2
  rwa [E]at this) _ _ _ _ H
 rw[hsl,show n+(l.toArray.size-n)=l.toArray.size from by omega]at this;exact this
def VM{i:Nat}{o:Oper}{v:Value}{r:List (Nat×Nat)}{a:Act}{w:World}(z:ops[i]?=some o)(d:Region.wanted o (yielded ops a.tmps)=true)(E:∀w,S w->(execOp a.eval o).run P w=.ok (.value v) w)(h:EI P ops Q aA S T r (a.put o.dst v) w):EI P ops Q aA S T ((i,1):: r) a w:=
 ⟨o,v,z,.inl ⟨d,E⟩,h⟩
def VN{i:Nat}{o:Oper}{v:Value}{r:List (Nat×Nat)}{a:Act}{w:World}(z:ops[i]?=some o)(d:Region.wanted o (yielded ops a.tmps)=true)(E:∀w,(execOp a.eval o).run P w=.ok (.value v) w)(h:EI P ops Q aA S T r (a.put o.dst v) w):EI P ops Q aA S T ((i,2):: r) a w:=
 ⟨o,v,z,.inl ⟨d,λw _=>E w⟩,h⟩
def LK{a:Act}{w:World}(h:T a w):EI P ops Q aA S T [] a w:=h
def VO{o:Oper}{r:List (Nat×Nat)}{a:Act}{w:World}(E:ops[aA]?=some o)(d:Region.wanted o (yielded ops a.tmps)=true)(h:∀K:Act->World->Prop,(∀a w,EI P ops Q aA S T r a w->K a w)->o.wp P a w K Q):EI P ops Q aA S T ((aA,0):: r) a w:=by
 show wpOp P ops Q aA _ a w;unfold wpOp;simp only[E,d,Cg];exact .inl (h _ λa w z=>⟨by simp,z⟩)
def HX{i:Nat}{o:Oper}{v:Value}{r:List (Nat×Nat)}{a:Act}{w:World}(h:EI P ops Q aA S T r (a.put o.dst v) w)(z:ops[i]?=some o:=by rfl)(d:Region.wanted o (yielded ops a.tmps)=true:=by rfl)(E:∀w,S w->(execOp a.eval o).run P w=.ok (.value v) w:=by intro w' H;(try dsimp only at H);go_simp;try with_reducible rfl):EI P ops Q aA S T ((i,1):: r) a w:=VM z d E h
def HY{i:Nat}{o:Oper}{v:Value}{r:List (Nat×Nat)}{a:Act}{w:World}(h:EI P ops Q aA S T r (a.put o.dst v) w)(z:ops[i]?=some o:=by rfl)(d:Region.wanted o (yielded ops a.tmps)=true:=by rfl)(E:∀w,(execOp a.eval o).run P w=.ok (.value v) w:=by intro w';go_simp;try with_reducible rfl):EI P ops Q aA S T ((i,2):: r) a w:=VN z d E h
def LL{o:Oper}{r:List (Nat×Nat)}{a:Act}{w:World}(h:∀K:Act->World->Prop,(∀a w,EI P ops Q aA S T r a w->K a w)->o.wp P a w K Q)(z:ops[aA]?=some o:=by rfl)(d:Region.wanted o (yielded ops a.tmps)=true:=by rfl):
 EI P ops Q aA S T ((aA,0):: r) a w:=VO z d h
def LJ{id:Nat}{a:Act}{w:World}{l:List Oper}(aA:Nat)(S:World->Prop)(n:Nat)(d:List (Nat×Nat))(E:S w.drew)(h:EI P l.toArray Q aA S (λa w=>wpList P l.toArray Q (l.drop n) a w) d a w.drew)(z:P.follows .mixedOrders=true:=by kernel_rfl)(H:NM l.toArray aA n d=true:=by kernel_rfl)(I:∀c a t v w,Q (.panic c) (Act.put a (some t) v) w->Q (.panic c) a w:=by exact λ_ _ _ _ _ h=>h):(Code.region id l.toArray true).wp P Q a w:=VK aA S n d z H I E h
end
end
section
open Go.RowKit
attribute [local go_sem ↓] CE
def RU(l:List Pu):(B9 l).length=l.length*3:=by
 induction l with
 | nil=>rfl
 | cons p r ih=>obtain⟨a,b,c⟩:=p;simp only[B9,Cv,ih];omega
def RT:∀(l:List Pu) (k:Nat) (_:k<l.length) (p:Pu),B9 (l.set k p)=(((B9 l).set (k*3) (.int .i64 p.1)).set (k*3+1) (.int .i64 p.2.1)).set (k*3+2) (.int .i64 p.2.2)
 | [],k,h,p=>by simp at h
 | (a,b,c):: r,0,_,p=>by obtain⟨p1,p2,p3⟩:=p;simp[B9]
 | (a,b,c):: r,k+1,h,p=>by
  have z:=RT r k (by simpa using h) p;have d:(k+1)*3=k*3+1+1+1:=by omega
  simp only[Vb,B9,z,d]
def AW.bh{w:World}{g n cap:Nat}{l:List Pu}(h:w.ownsRow 0 113 3 (AJ g n cap) n (B9 l))(k:Nat)(d:k<l.length)(p:Pu):
 (((w.setCell (Aa g (k*3)) (A0 p.1)).setCell (Aa g (k*3+1)) (A0 p.2.1)).setCell (Aa g (k*3+2)) (A0 p.2.2)).ownsRow 0 113 3 (AJ g n cap) n (B9 (l.set k p)):=by
 rw[RT l k d p];exact(((h.stored (k*3) _).1.stored (k*3+1) _).1.stored (k*3+2) _).1
def X1{α:Type}(A C:List α)(x y:α):((A++y::x::C).set (A.length+1) y).set A.length x=A++x::y::C:=by
 have d:(A++y::x::C).set (A.length+1) y=A++y::y::C:=by
  rw[Kf _ _ (by omega)];simp
 rw[d,Kf _ _ (by omega)];simp
def AW.cF{w:World}{g n cap:Nat}{A C:List Pu}{x y:Pu}(h:w.ownsRow 0 113 3 (.slice (some ⟨g,0,none⟩) n cap) n (B9 (A++y::x::C))):
 (w.cell? ⟨g,A.length*3,none⟩=some (.int .i64 y.1)/\w.cell? ⟨g,A.length*3+1,none⟩=some (.int .i64 y.2.1)/\w.cell? ⟨g,A.length*3+2,none⟩=some (.int .i64 y.2.2))/\
 (w.cell? ⟨g,(A.length+1)*3,none⟩=some (.int .i64 x.1)/\w.cell? ⟨g,(A.length+1)*3+1,none⟩=some (.int .i64 x.2.1)/\w.cell? ⟨g,(A.length+1)*3+2,none⟩=some (.int .i64 x.2.2))/\∀o,w.frozen? ⟨g,o,none⟩=false:=by
 obtain⟨H,L,I⟩:=He (A++y::x::C) A.length (by simp);obtain⟨E,d,z⟩:=He (A++y::x::C) (A.length+1) (by simp);have O:(A++y::x::C)[A.length]'(by simp)=y:=by simp
 have W:(A++y::x::C)[A.length+1]'(by simp)=x:=by
  rw[Gm (by omega)];simp
 rw[O]at H L I;rw[W]at E d z;exact⟨⟨BC h rfl H,BC h rfl L,BC h rfl I⟩,⟨BC h rfl E,BC h rfl d,BC h rfl z⟩,λo=>G6 h rfl o⟩
def A0o{α:Type}{lt:α->α->Bool}(I:BT lt){m:List α}{x:α}{q:Nat}(hm:B1 lt m)(_hq:q<=m.length)(O:∀y∈m.drop q,lt x y=true)(X:∀z,(m.take q).getLast?=some z->lt x z=false):
 B1 lt (m.take q++x::m.drop q)/\Bh lt (m++[x]) (m.take q++x::m.drop q):=by
 have E:=DK q m;have hA:B1 lt (m.take q++m.drop q):=by rw[E];exact hm
 obtain⟨W,a2,Y⟩:=hA.an;have hx:∀y∈m.take q,lt x y=false:=by
  have H:B1 lt [x]:=MZ _ _;have:=I.cO W H λz y h d=>by
   simp at d;subst d;exact X z h
  exact λy d=>this y d x (by simp)
 refine⟨B1.cJ W (Db.2 ⟨λy d=>I.cm (O y d),a2⟩) λy d z h=>?_,?_⟩
 ·rcases BR.1 h with rfl|h
  ·exact hx y d
  ·exact Y y d z h
 ·have h3:=I.df O;have L:=(Bh.I (lt:=lt) (m.take q)).an h3;rw[<-Cc,E]at L;exact L
def Ts(w:World)(g cap wb:Nat)(len:Int)(l:List Pu)(a b:Nat)(hab:a<b)(hb:b<=l.length)(h:AW w (AJ g l.length cap) l)(hT:∀p∈l,AN p.2.1)(hl:1<=len/\len<=4611686018427387904)(hw:A7 w wb 0 (A0 len))(bH:wb≠g)(_hbig:l.length<=4294967296):
 Ag 243 #[AJ g l.length cap,A0 a,A0 b,.func (Fn.func 155) #[] #[A5 wb]] w (Al (.tuple #[]) λw'=>
  ∃m,AW w' (AJ g l.length cap) (l.take a++m++l.drop b)/\m.length=b-a/\Bh (Az len) ((l.take b).drop a) m/\B1 (Az len) m/\A3 (One g) w w'):=by
 have KW:=Fj len;obtain⟨n,hn⟩:∃n,l.length=n:=⟨_,rfl⟩;have bY:Hid (w.ownsRow 0 113 3 (AJ g n cap) n (B9 l)):=by have:=h;unfold AW at this;rw[hn]at this;exact this
 rw[hn]at hb ⊢;have aS:n<=cap/\cap<=9223372036854775807:=by
  obtain⟨a',c',e,h1,h2,_⟩:=B8 bY.o;cases e;unfold maxLen at h2;omega
 obtain⟨hc1,hc2⟩:=aS;have b6:=A1 hT;have cA:=A1 hw;have cF:=A1 hl;have a8:=A1 hn;have bJ:=A1 bH;have eia:wrap64 ((a:Int)+1)=(a:Int)+1:=by unfold wrap64;omega
 go_enter func243,ntmps243
 go_wp2;go_loopw [8] (λiv wr=>∃i:Nat,iv=A0 ((i:Int)+1)/\a<=i/\i+1<=b/\Hid (∃m,wr.ownsRow 0 113 3 (AJ g n cap) n (B9 (l.take a++m++l.drop (i+1)))/\m.length=i+1-a/\Bh (Az len) ((l.take (i+1)).drop a) m/\B1 (Az len) m/\A3 (One g) w wr)) (λiv _=>b-(intOf iv).toNat)
 case atStart=>
  refine⟨a,rfl,by omega,by omega,(l.take (a+1)).drop a,?_,?_,Bh.I _,?_,A3.I _ _⟩
  ·have e:l.take a++(l.take (a+1)).drop a++l.drop (a+1)=l:=by
    have:=DK (a+1) l
    conv=>rhs;rw[<-this]
    congr 1
    have h2:=DK a (l.take (a+1));rw[Kd]at h2;rw[show min a (a+1)=a by omega]at h2;exact h2
   rw[e];exact bY.o
  ·have:=a8.o;simp;omega
  ·have aT:((l.take (a+1)).drop a).length<=1:=by simp;omega
   match hx:(l.take (a+1)).drop a,aT with
   | [],_=>exact List.Pairwise.nil
   | [x],_=>exact MZ _ _
   | x::y::r,hl=>simp at hl
 case round=>
  obtain⟨i,rfl,hai,hib,hI⟩:=hrel;obtain⟨m,i1,i2,i3,i4,i5⟩:=hI.o;by_cases hi1:i+1<b
  ·obtain⟨w1,bC⟩:∃w1,w1=wr:=⟨_,rfl⟩;subst bC;(have aG:i+1<l.length:=by have:=a8.o;omega);have a6:=Fw aG;have a2:=Dn aG;have aX:=BV aG;generalize hx:(l[i+1]'aG)=x at a6 a2 aX;rw[a6]at i1;have b9:=A1 i1;have b7:=A1 i2;have b2:=A1 i3;have cC:=A1 i4;have cD:=A1 i5;have bA:Hid ((l.take (i+1+1)).drop a=(l.take (i+1)).drop a++[x]):=by
    unfold Hid;rw[a2,LB (by simp;omega)]
   have bQ:=A1 (b6.o x aX);(have aY:Hid ((l.take a).length=a):=by unfold Hid;have:=a8.o;simp;omega);(have bF:(i:Int)+1<(b:Int):=by omega);go_wp2
   have aD:Hid (∀(L:World) (q:Nat),q<=m.length->(∀y∈m.drop q,Az len x y=true)->(∀z,(m.take q).getLast?=some z->Az len x z=false)->L.ownsRow 0 113 3 (AJ g n cap) n (B9 ((l.take a++m.take q)++x::(m.drop q++l.drop (i+1+1))))->A3 (One g) w L->
    ∃m',L.ownsRow 0 113 3 (AJ g n cap) n (B9 (l.take a++m'++l.drop (i+1+1)))/\m'.length=i+1+1-a/\Bh (Az len) ((l.take (i+1+1)).drop a) m'/\B1 (Az len) m'/\A3 (One g) w L):=λL q hq h1 h2 h3 h4=>by
    obtain⟨d1,d2⟩:=A0o KW cC.o hq h1 h2;refine⟨m.take q++x::m.drop q,?_,?_,?_,d1,h4⟩
    ·(have e:l.take a++(m.take q++x::m.drop q)++l.drop (i+1+1)=(l.take a++m.take q)++x::(m.drop q++l.drop (i+1+1)):=by simp);rw[e];exact h3
    ·have:=b7.o;simp;omega
    ·rw[bA.o];exact(b2.o.an (Bh.I _)).Ap d2
   go_loopw [9] (λjv wr=>∃j q:Nat,jv=A0 (j:Int)/\j<=i+1/\Hid (j=a+q/\q<=m.length/\wr.ownsRow 0 113 3 (AJ g n cap) n (B9 ((l.take a++m.take q)++x::(m.drop q++l.drop (i+1+1))))/\(∀y∈m.drop q,Az len x y=true)/\A3 (One g) w wr)) (λjv _=>(intOf jv).toNat)
   case atStart=>
    refine⟨i+1,m.length,by go_num,As _,by have:=b7.o;omega,As _,?_,(λy hy=>by rw[Gn]at hy;cases hy),cD.o⟩;rw[C6,Gn,Es];exact b9.o
   case round=>
    obtain⟨j,q,rfl,bL,hJ⟩:=hrel;obtain⟨j1,j2,j3,j4,j5⟩:=hJ.o;by_cases bI:q=0
    ·subst bI;(have bM:j=a:=by omega);subst bM;have aM:=A1 (λnq=>aD.o (wr.drewN nq) 0 (Cf _) j4 (λz hz=>by simp at hz) (Ay j3 λ_ _=>rfl) (j5.ba nq));(have hjj:¬((j:Int)<(j:Int)):=by omega);clear hJ j1 j2 j3 j4 j5 aD;go_wp2;go_quiet (fail);go_wp2;go_roundw
     case rel=>exact⟨i+1,by go_num,by omega,by omega,aM.o _⟩
     case measure=>simp[intOf];omega
    ·obtain⟨q,rfl⟩:∃q',q=q'+1:=⟨q-1,by omega⟩;obtain⟨P,hP⟩:∃P,a+q=P:=⟨_,rfl⟩;(have bW:j=P+1:=by omega);subst bW;(have aA:q<m.length:=by omega);have aB:=Dn aA;have aO:=Fw aA;generalize hy:(m[q]'aA)=y at aB aO;(have aE:∀z,(m.take (q+1)).getLast?=some z->z=y:=λz hz=>by rw[aB]at hz;simpa using hz.symm);have aU:AN y.2.1:=by
      (have bR:y∈m:=by rw[<-hy];exact BV aA);have:=(b2.o.bG.DB KW bR);exact b6.o y (IB (Lu this))
     (have aJ:(l.take a++m.take q).length=P:=by have:=aY.o;rw[AY,this,BU];omega);(have e0:(l.take a++m.take (q+1))++x::(m.drop (q+1)++l.drop (i+1+1))=(l.take a++m.take q)++y::x::(m.drop (q+1)++l.drop (i+1+1)):=by rw[aB];simp);have aF:=j3;rw[e0]at aF;obtain⟨⟨y1,y2,y3⟩,⟨x1,x2,x3⟩,fz⟩:=AW.cF aF;rw[aJ]at y1 y2 y3 x1 x2 x3;have a0:=A1 (λL bK=>Mz L wb len x y bQ.o aU cF.o bK);have bU:=A1T len x y;have aN:=My (len:=len) (p:=x) (q:=y);generalize bT:GK len x y=cc at a0 bU aN;have aH:=j5.bH cA.o (λe=>bJ.o e);have b1:=A1 j3;have aZ:=A1 aF;have b5:=A1 j4;have b0:=A1 j5;have a3:=A1 aO;have HTQ:=A1 aB;have aK:=A1 aE;have O:=A1 aJ;have cE:=A1 hP;have aW:=A1 aA;have bO:=A1 bL;have a5:=A1 aN;(have hPn:(P:Int)+1<(n:Int):=by omega);(have hPn2:(P:Int)<(n:Int):=by omega);have hP0:=C3 P;(have hPa:(a:Int)<(P:Int)+1:=by omega);(have pk:(0:Int)<=(P:Int)+1:=by omega);(have bG:IntKind.i64.wrap (P:Int)=P:=by simp[IntKind.wrap,IntKind.bits,IntKind.signed];omega);(have ew1:IntKind.i64.wrap ((P:Int)+1-1)=P:=by rw[Js];exact bG);(have ew2:wrap64 ((P:Int)+1-1)=P:=by unfold wrap64;omega);(have ew3:wrap64 (P:Int)=P:=by unfold wrap64;omega);have tk:=Et (P+1);obtain⟨W,d,X⟩:=x;obtain⟨H,I,E⟩:=y;dsimp only at y1 y2 y3 x1 x2 x3;unfold Dt at a0;dsimp only at a0;have a7:Hid (∀L,A3 Ab wr L->A7 L g (P*3) (A0 H)/\A7 L g (P*3+1) (A0 I)/\A7 L g (P*3+2) (A0 E)/\A7 L g ((P+1)*3) (A0 W)/\A7 L g ((P+1)*3+1) (A0 d)/\A7 L g ((P+1)*3+2) (A0 X)):=λL hx=>
      ⟨hx.al y1,hx.al y2,hx.al y3,hx.al x1,hx.al x2,hx.al x3⟩
     have bZ:=a7.o wr.drew (A3.I _ wr).af;have aQ:=A1 (a0.o wr.drew aH);clear hJ j1 j2 j3 aF j4 j5 aB aO aE aJ hP aN aU hy bT e0 a0 aH aA fz;by_cases aR:cc<0
     ·(have bS:¬(0<=cc):=by omega);go_wp2;refine BP (λw'=>A7 w' g (P*3) (A0 H)/\A7 w' g (P*3+1) (A0 I)/\A7 w' g (P*3+2) (A0 E)/\A7 w' g ((P+1)*3) (A0 W)/\A7 w' g ((P+1)*3+1) (A0 d)/\A7 w' g ((P+1)*3+2) (A0 X)) 16
       (Bq [0,1,2,3,4,5,6,7,8,9,10,11,12,13,14,15] [14]) bZ ?_
      iterate 14 (refine Bg ?_;(try simp only[An]))
      refine Bw λK hK=>?_;go_simp;refine aQ.m ?_;rintro e Y⟨rfl,aL⟩;have k6:=((A3.I Ab wr).af).tr aL;refine hK _ _ (a7.o Y k6) (λhS=>?_);have b3:=A1 k6;have b8:=a7.o Y k6
      (try simp only[An])
      (refine Bg ?_;(try simp only[An]))
      refine Bl ?_;simp only[BI,BH];obtain⟨y1,y2,y3,x1,x2,x3⟩:=b8;have bX:Hid (Y.ownsRow 0 113 3 (AJ g n cap) n (B9 ((l.take a++m.take q)++(H,I,E):: (W,d,X):: (m.drop (q+1)++l.drop (i+1+1))))):=Ay aZ.o λg' hg=>b3.o.Ao g' (AB aZ.o hg) (λh=>h);have fz:∀o,Y.frozen? (Aa g o)=false:=λo=>G6 bX.o rfl o;go_wp2;refine LJ 15 (λw'=>A7 w' g (P*3) (A0 H)/\A7 w' g (P*3+1) (A0 I)/\A7 w' g (P*3+2) (A0 E)/\A7 w' g ((P+1)*3) (A0 W)/\A7 w' g ((P+1)*3+1) (A0 d)/\A7 w' g ((P+1)*3+2) (A0 X)) 16
       [(0,1),(1,1),(5,1),(6,1),(7,1),(8,1),(9,1),(10,2),(11,2),(12,2),(13,1),(14,1),(2,2),(3,2),(4,2),(15,0)] ⟨y1,y2,y3,x1,x2,x3⟩ ?_
      iterate 7 (refine HX ?_;(try simp only[An]))
      iterate 3 (refine HY ?_;(try simp only[An]))
      iterate 2 (refine HX ?_;(try simp only[An]))
      iterate 3 (refine HY ?_;(try simp only[An]))
      refine LL λK hK=>?_;go_simp;refine hK _ _ ?_
      (try simp only[An])
      refine LK ?_;simp only[BI,BH];have e1:((l.take a++m.take q)++(H,I,E):: (W,d,X):: (m.drop (q+1)++l.drop (i+1+1))).length=((l.take a++m.take q)++(H,I,E):: (W,d,X):: (m.drop (q+1)++l.drop (i+1+1))).length:=rfl;have aP:=AW.bh bX.o (P+1) (by have:=O.o;rw[AY,O.o];simp) (H,I,E);have bP:=AW.bh aP P (by have:=O.o;rw[Jh,AY,O.o];simp) (W,d,X);have a1:=X1 (l.take a++m.take q) (m.drop (q+1)++l.drop (i+1+1)) (W,d,X) (H,I,E);rw[O.o]at a1;rw[a1]at bP;have aI:∀hh,(((l.take a++m.take q)++(H,I,E):: (W,d,X):: (m.drop (q+1)++l.drop (i+1+1))).set (P+1) (H,I,E))[P]'hh=(H,I,E):=λhh=>by
       rw[A3I (by omega)];rw[Gm (by rw[O.o];exact As _)];simp[O.o]
      obtain⟨p1,p2,p3⟩:=He _ P (show P<(((l.take a++m.take q)++(H,I,E):: (W,d,X):: (m.drop (q+1)++l.drop (i+1+1))).set (P+1) (H,I,E)).length by rw[Jh,AY,O.o];simp);rw[aI]at p1 p2 p3;have z1:=BC aP rfl p1;have z2:=BC aP rfl p2;have z3:=BC aP rfl p3;dsimp only at aP bP z1 z2 z3;have bE:=A1 bP;have bV:∀o,((((Y.setCell (Aa g ((P+1)*3)) (A0 H)).setCell (Aa g ((P+1)*3+1)) (A0 I)).setCell (Aa g ((P+1)*3+2)) (A0 E))).drew.frozen? (Aa g o)=false:=λo=>G6 aP rfl o;have b4:Hid (A3 (One g) wr (((((((Y.setCell (Aa g ((P+1)*3)) (A0 H)).setCell (Aa g ((P+1)*3+1)) (A0 I)).setCell (Aa g ((P+1)*3+2)) (A0 E)).drew.setCell (Aa g (P*3)) (A0 W)).setCell (Aa g (P*3+1)) (A0 d)).setCell (Aa g (P*3+2)) (A0 X)))):=
       ((((((b3.o.aa (S':=One g) λ_ _ h=>h.elim).ao (b:=g) rfl _ _).ao (b:=g) rfl _ _).ao (b:=g) rfl _ _).af.ao (b:=g) rfl _ _).ao (b:=g) rfl _ _).ao (b:=g) rfl _ _
      have a4:Hid ((((((((Y.setCell (Aa g ((P+1)*3)) (A0 H)).setCell (Aa g ((P+1)*3+1)) (A0 I)).setCell (Aa g ((P+1)*3+2)) (A0 E)).drew.setCell (Aa g (P*3)) (A0 W)).setCell (Aa g (P*3+1)) (A0 d)).setCell (Aa g (P*3+2)) (A0 X))).ownsRow 0 113 3 (AJ g n cap) n (B9 ((l.take a++m.take q)++(W,d,X):: (H,I,E):: (m.drop (q+1)++l.drop (i+1+1))))):=Ay bE.o λ_ _=>rfl;have bD:((((Y.setCell (Aa g ((P+1)*3)) (A0 H)).setCell (Aa g ((P+1)*3+1)) (A0 I)).setCell (Aa g ((P+1)*3+2)) (A0 E))).drew.cell? (Aa g (P*3))=some (A0 H):=z1;have bN:((((Y.setCell (Aa g ((P+1)*3)) (A0 H)).setCell (Aa g ((P+1)*3+1)) (A0 I)).setCell (Aa g ((P+1)*3+2)) (A0 E))).drew.cell? (Aa g (P*3+1))=some (A0 I):=z2;have a9:((((Y.setCell (Aa g ((P+1)*3)) (A0 H)).setCell (Aa g ((P+1)*3+1)) (A0 I)).setCell (Aa g ((P+1)*3+2)) (A0 E))).drew.cell? (Aa g (P*3+2))=some (A0 E):=z3;generalize (((Y.setCell (Aa g ((P+1)*3)) (A0 H)).setCell (Aa g ((P+1)*3+1)) (A0 I)).setCell (Aa g ((P+1)*3+2)) (A0 E)).drew=w7 at bV b4 a4 bD bN a9 ⊢;go_wp2;go_roundw
      case rel=>
       refine⟨P,q,rfl,ER bO.o,cE.o.symm,ER aW.o,?_,?_,?_⟩
       ·(have e2:(l.take a++m.take q)++(W,d,X):: (m.drop q++l.drop (i+1+1))=(l.take a++m.take q)++(W,d,X):: (H,I,E):: (m.drop (q+1)++l.drop (i+1+1)):=by rw[a3.o];rfl);rw[e2];exact Ay a4.o λ_ _=>rfl
       ·intro z hz;rw[a3.o]at hz;rcases BR.1 hz with rfl|hz
        ·exact a5.o.1 aR
        ·exact b5.o z hz
       ·exact b0.o.tr b4.o
      case measure=>simp[intOf]
     ·(have bS:0<=cc:=by omega);have aM:Hid (∀L,A3 Ab wr L->∃m',L.ownsRow 0 113 3 (AJ g n cap) n (B9 (l.take a++m'++l.drop (i+1+1)))/\m'.length=i+1+1-a/\Bh (Az len) ((l.take (i+1+1)).drop a) m'/\B1 (Az len) m'/\A3 (One g) w L):=λL hx=>
       aD.o L (q+1) aW.o b5.o (λz hz=>by
        rw[aK.o z hz];cases hk:Az len (W,d,X) (H,I,E) with
        | false=>rfl
        | true=>exact absurd (a5.o.2 hk) aR) (Ay b1.o λg' hg=>hx.Ao g' (AB b1.o hg) (λh=>h)) (b0.o.Ap hx λ_ h _=>h.elim)
      go_wp2;refine BP (λw'=>A7 w' g (P*3) (A0 H)/\A7 w' g (P*3+1) (A0 I)/\A7 w' g (P*3+2) (A0 E)/\A7 w' g ((P+1)*3) (A0 W)/\A7 w' g ((P+1)*3+1) (A0 d)/\A7 w' g ((P+1)*3+2) (A0 X)) 16
       (Bq [0,1,2,3,4,5,6,7,8,9,10,11,12,13,14,15] [14]) bZ ?_
      iterate 14 (refine Bg ?_;(try simp only[An]))
      refine Bw λK hK=>?_;go_simp;refine aQ.m ?_;rintro e Y⟨rfl,aL⟩;have k6:=((A3.I Ab wr).af).tr aL;refine hK _ _ (a7.o Y k6) (λhS=>?_);have aV:=A1 (aM.o Y k6)
      (try simp only[An])
      (refine Bg ?_;(try simp only[An]))
      refine Bl ?_;simp only[BI,BH];go_wp2;go_roundw
      case rel=>exact⟨i+1,by go_num,by omega,by omega,aV.o⟩
      case measure=>simp[intOf];omega
  ·(have bB:i+1=b:=by omega);subst bB;have cB:=A1 hI.o;(have bF:¬((i:Int)+1<((i+1:Nat):Int)):=by omega);go_wp2;go_end0;obtain⟨m',q1,q2,q3,q4,q5⟩:=cB.o;refine⟨rfl,m',?_,q2,q3,q4,q5⟩;unfold AW;rw[Cc]at q1
   try rw[Cc]
   (have e:(l.take a++(m'++l.drop (i+1))).length=n:=by have:=a8.o;simp;omega);rw[e];exact q1
def F5(N:Nat):Prop:=∀(w:World) (v:Value) (wb:Nat) (len:Int) (l:List Pu),l.length<=N->AW w v l->(∀p∈l,AN p.2.1)->(1<=len/\len<=4611686018427387904)->w.cell? ⟨wb,0,none⟩=some (.int .i64 len)->(∀g,v.ownBlock=some g->wb≠g)->
 Calls Tryz.prog 154 #[v,.func (Fn.func 155) #[] #[.pointer (some ⟨wb,0,none⟩)]] w λe w'=>e=.returned (.tuple #[])/\AW w' v (E4 (Az len) l)/\A3 (λk=>v.ownBlock=some k) w w'
def QS{α:Type}{lt:α->α->Bool}(l:List α):(E4 lt l).length=l.length:=by
 have ins:∀(x:α) (s:List α),(EZ lt x s).length=s.length+1:=by
  intro x s
  induction s with
  | nil=>rfl
  | cons y r ih=>unfold EZ;split<;>simp[ih]
 have key:∀(l s:List α),(l.foldl (λs x=>EZ lt x s) s).length=s.length+l.length:=by
  intro l
  induction l with
  | nil=>intro s;simp
  | cons x r ih=>intro s;rw[PQ,ih,ins];simp;omega
 have:=key l [];simpa[E4] using this
def Tr(w:World)(v c:Value)(a b:Nat)(ha:b<=a+1)(hb:a<=4294967296):
 Ag 243 #[v,A0 a,A0 b,c] w (Al (.tuple #[]) λw'=>w=w'):=by
 have eia:wrap64 ((a:Int)+1)=(a:Int)+1:=by unfold wrap64;omega
 go_enter func243,ntmps243
 go_wp2;refine HV 1 ?_;rw[EV];go_wp2;go_end0;exact⟨rfl,rfl⟩
def WN(w:World)(v:Value)(wb:Nat)(len:Int)(l:List Pu)(hn:l.length<=19)(h:AW w v l)(L:∀p∈l,AN p.2.1)(hl:1<=len/\len<=4611686018427387904)(hw:A7 w wb 0 (A0 len))(d:∀g,v.ownBlock=some g->wb≠g):
 Ag 202 #[v,A0 l.length,.func (Fn.func 155) #[] #[A5 wb]] w (Al (.tuple #[]) λw'=>AW w' v (E4 (Az len) l)/\A3 (λk=>v.ownBlock=some k) w w'):=by
 have z:Hid (Ag 243 #[v,A0 ((0:Nat):Int),A0 l.length,.func (Fn.func 155) #[] #[A5 wb]] w (Al (.tuple #[]) λw'=>AW w' v (E4 (Az len) l)/\A3 (λk=>v.oB k) w w')):=by
  by_cases E:l.length=0
  ·have e:l=[]:=GR.1 E;subst e;refine(Tr w v _ 0 0 (by omega) (by omega)).mono ?_;rintro e w'⟨rfl,rfl⟩;exact⟨rfl,h,A3.I _ _⟩
  ·obtain⟨av,cap,rfl,h1,h2,h3,-,-⟩:=B8 h;obtain⟨g,rfl⟩:=h3 (by omega);refine(Ts w g cap wb len l 0 l.length (by omega) (As _) h L hl hw (d g rfl) (by omega)).mono ?_;rintro e w'⟨rfl,m,O,q2,X,q4,q5⟩;have e1:m=E4 (Az len) l:=(Fj len).eC q4 (by simpa using X);refine⟨rfl,?_,q5.aa λk _ H=>by have e:k=g:=H;subst e;rfl⟩;rw[<-e1];have:=O;simp only[ET,Es,Gn,FF]at this;exact this
 rw[show ((0:Nat):Int)=0 from rfl]at z;have h20:¬((20:Int)<=(l.length:Int)):=by omega
 go_enter func202,ntmps202
 go_wp2;refine HV 1 ?_;rw[EV];go_wp2_with (fail);refine z.m ?_;rintro e w2⟨rfl,hp,W⟩;have I:=A1 hp;have Y:=A1 W;go_wp2;refine HV 1 ?_;rw[EV];go_wp2;go_end0;exact⟨rfl,I.o,Y.o⟩
end
section
open Go.RowKit
structure DJ (w:World) (B0:Nat) (v:Value) (vs:List Value) (ws:List (List Pu)):Prop where
 Bv:w.ownsRow 0 97 1 v ws.length vs
 ls:∀(k:Nat) (h1:k<vs.length) (h2:k<ws.length),AW w (vs[k]'h1) (ws[k]'h2)
 lo:∀g,v.ownBlock=some g->B0<=g
 li:∀x∈vs,∀g,x.ownBlock=some g->B0<=g
 J9:vs.Pairwise λx y=>∀g,x.ownBlock=some g->¬y.ownBlock=some g
section
variable {w w':World} {B0:Nat} {v:Value} {vs:List Value} {ws:List (List Pu)}
def DJ.B5(h:DJ w B0 v vs ws):vs.length=ws.length:=by have:=h.Bv.1;omega
def DJ.bT(w:World)(B0:Nat):DJ w B0 (.slice none 0 0) [] []:=
 ⟨CD _ _ _ _,λk d=>by simp at d,λg h=>by simp[Value.ownBlock]at h,λx z=>by simp at z,List.Pairwise.nil⟩
def DJ.aj{S:Nat->Prop}(h:DJ w B0 v vs ws)(L:A3 S w w')(I:∀k,S k->k<B0):DJ w' B0 v vs ws:=
 ⟨Ay h.Bv λg d=>L.Ao g (AB h.Bv d) λE=>by have:=I g E;have:=h.lo g d;omega,
  λk z H=>Ay (h.ls k z H) λg d=>L.Ao g (AB (h.ls k z H) d) λE=>by have:=I g E;have:=h.li _ (BV z) g d;omega,h.lo,h.li,h.J9⟩
def DJ.aS(h:DJ w B0 v vs ws)(d:A3 Ab w w'):DJ w' B0 v vs ws:=h.aj d λ_ h=>h.elim
def DJ.lt(h:DJ w B0 v vs ws){x:Value}(E:x∈vs){g:Nat}(z:x.ownBlock=some g):g<w.heap.size:=by
 obtain⟨k,d,rfl⟩:=DU E;exact AB (h.ls k d (by have:=h.B5;omega)) z
def DJ.ne(h:DJ w B0 v vs ws){x:Value}(E:x∈vs){g:Nat}(z:x.ownBlock=some g):¬v.ownBlock=some g:=by
 obtain⟨k,d,rfl⟩:=DU E;exact Im (h.ls k d (by have:=h.B5;omega)) h.Bv (by decide) z
def DJ.cr{L:Value}(h:DJ w B0 v vs ws)(I:App w w' 97 1 v L (ws.length+1) (vs++[.slice none 0 0]))(hB:B0<=w.heap.size):DJ w' B0 L (vs++[.slice none 0 0]) (ws++[[]]):=by
 have hc:=I.Aj (S:=λk=>v.ownBlock=some k) λ_ h=>h;have hl:=h.B5;refine⟨?_,λk z O=>?_,λg d=>?_,λx E g d=>?_,?_⟩
 ·have e:(ws++[[]]).length=ws.length+1:=by simp
  rw[e];exact I.AA
 ·by_cases H:k<ws.length
  ·rw[Fa (show k<vs.length by omega),Fa H];exact Ay (h.ls k (by omega) H) λg d=>hc.Ao g (AB (h.ls k (by omega) H) d) (h.ne (BV (by omega)) d)
  ·have Y:(vs++[Value.slice none 0 0])[k]'z=.slice none 0 0:=by
    (have:k=vs.length:=by simp at z;omega);subst this;simp
   have X:(ws++[[]])[k]'O=[]:=by
    (have:k=ws.length:=by simp at O;omega);subst this;simp
   rw[Y,X];exact CD _ _ _ _
 ·rcases I.Cj with z|z
  ·rw[z]at d;exact h.lo g d
  ·rw[z]at d;cases d;exact hB
 ·rcases AU.1 E with E|E
  ·exact h.li x E g d
  ·simp at E;subst E;simp[Value.ownBlock]at d
 ·exact Ek.2 ⟨h.J9,MZ _ _,λx _ y W g _ d=>by simp at W;subst W;simp[Value.ownBlock]at d⟩
def DJ.fk{d:List (List Pu)}{z:List Value}{lv:Value}{l l':List Pu}(h:DJ w B0 v (z++[lv]) (d++[l]))(hc:A3 (λk=>lv.ownBlock=some k) w w')(hl:AW w' lv l'):DJ w' B0 v (z++[lv]) (d++[l']):=by
 have H:=h.B5;have hln:z.length=d.length:=by simpa using H
 refine⟨?_,λk Y X=>?_,h.lo,h.li,h.J9⟩
 ·have e:(d++[l']).length=(d++[l]).length:=by simp
  rw[e];exact Ay h.Bv λg E=>hc.Ao g (AB h.Bv E) λW=>h.ne (x:=lv) (by simp) W E
 ·by_cases hk:k<d.length
  ·(have L:k<(d++[l]).length:=by simp;omega);have O:=h.ls k Y L;rw[Fa hk]at O ⊢;refine Ay O λg E=>hc.Ao g (AB O E) λW=>?_;rw[Fa (show k<z.length by omega)]at E;exact(Ek.1 h.J9).2.2 _ (BV (show k<z.length by omega)) lv (by simp) g E W
  ·(have I:k=d.length:=by simp at X;omega);(have e2:(d++[l'])[k]'X=l':=by subst I;simp);have e1:(z++[lv])[k]'Y=lv:=by
    (have:k=z.length:=by omega);subst this;simp
   rw[e1,e2];exact hl
def DJ.e4{L n0 I:Nat}{z:List (List Pu)}{d:List Value}{lv lv':Value}{l l':List Pu}(h:DJ w B0 (.slice (some ⟨L,0,none⟩) n0 I) (d++[lv]) (z++[l]))(hc:A3 (λk=>lv.ownBlock=some k) w w')(hl:AW w' lv' l')(ho:∀g,lv'.ownBlock=some g->lv.ownBlock=some g\/w.heap.size<=g)(hB:B0<=w.heap.size):
 DJ (w'.setCell ⟨L,d.length,none⟩ lv') B0 (.slice (some ⟨L,0,none⟩) n0 I) (d++[lv']) (z++[l']):=by
 have Y:=h.B5;have hln:d.length=z.length:=by simpa using Y
 have aH:n0=(z++[l]).length:=by
  obtain⟨a',c',e,_⟩:=B8 h.Bv;cases e;rfl
 subst aH;have hg0:=AB h.Bv rfl;have O:=Ay h.Bv λg E=>hc.Ao g (AB h.Bv E) λH=>h.ne (x:=lv) (by simp) H E;have aI:∀g,lv'.ownBlock=some g->g≠L:=λg E e=>by
  subst e;exact Im hl O (by decide) E rfl
 have kz:A3 (One L) w' (w'.setCell ⟨L,d.length,none⟩ lv'):=(A3.I (One L) w').ao (b:=L) rfl _ _;have X:=(O.stored d.length lv').1;have aA:(d++[lv]).set d.length lv'=d++[lv']:=by rw[Kf _ _ (As _)];simp
 rw[aA]at X;refine⟨?_,λk W h2=>?_,h.lo,λx H g E=>?_,?_⟩
 ·have e:(z++[l']).length=(z++[l]).length:=by simp
  rw[e];exact X
 ·by_cases hk:k<z.length
  ·(have aG:k<(d++[lv]).length:=by simp;omega);(have aF:k<(z++[l]).length:=by simp;omega);have h3:=h.ls k aG aF;rw[Fa hk,Fa (show k<d.length by omega)]at h3 ⊢;have aB:d[k]'(by omega)∈d++[lv]:=AU.2 (.inl (BV (by omega)));refine Ay h3 λg E=>?_;have b1:=hc.Ao g (AB h3 E) λH=>(Ek.1 h.J9).2.2 _ (BV (show k<d.length by omega)) lv (by simp) g E H
   have b2:=kz.Ao g (Bk (AB h3 E) hc.Ak) λe=>h.ne aB E (by have e':=e;subst e';rfl);rw[b2,b1]
  ·(have aD:k=z.length:=by simp at h2;omega);(have e2:(z++[l'])[k]'h2=l':=by subst aD;simp);have e1:(d++[lv'])[k]'W=lv':=by
    (have:k=d.length:=by omega);subst this;simp
   rw[e1,e2];exact Ay hl λg E=>kz.Ao g (AB hl E) (aI g E)
 ·rcases AU.1 H with H|H
  ·exact h.li x (AU.2 (.inl H)) g E
  ·simp at H;subst H;rcases ho g E with W|W
   ·exact h.li lv (by simp) g W
   ·omega
 ·obtain⟨d1,d2,d3⟩:=Ek.1 h.J9;refine Ek.2 ⟨d1,MZ _ _,λx H y hy g E aE=>?_⟩;simp at hy;subst hy;rcases ho g aE with W|W
  ·exact d3 x H lv (by simp) g E W
  ·have:=h.lt (AU.2 (.inl H)) E;omega
end
def VR(len:Int)(l:List Pu)(i:Nat)(z:i<l.length)(d:Bool)(h:Pu)(ws:List (List Pu)):
 Ec len (l.drop i) d h ws=Ec len (l.drop (i+1)) false (l[i]'z) (Ew len ws d h (l[i]'z)):=by
 rw[Fw z];rfl
def GG(d:List (List Pu))(last:List Pu)(p:Pu):List (List Pu):=
 if last≠[]/\Cn p (last.getLastD (0,0,0))=0 then d++[last.dropLast++[p]] else d++[last++[p]]
def Qg(len:Int)(ws:List (List Pu))(d:Bool)(z p:Pu)(h:d=true\/BB p.2.1 len≠BB z.2.1 len):Ew len ws d z p=GG ws [] p:=by
 unfold Ew GG;dsimp only
 rw[Ah h];simp
def VT(len:Int)(d:List (List Pu))(l:List Pu)(z p:Pu)(h:BB p.2.1 len=BB z.2.1 len):Ew len (d++[l]) false z p=GG d l p:=by
 have e:(if (false=true\/BB p.2.1 len≠BB z.2.1 len) then (d++[l])++[[]] else d++[l])=d++[l]:=Ad (by simp[h]);have E:(d++[l]).getLastD []=l:=by rw[Ki];simp
 have H:(d++[l]).dropLast=d:=by simp
 unfold Ew GG;simp only[e,E,H]
end
end Go.Proofs.YtodcnkbblippnaaGreatDoor
