/- Part 17 of a proof: walks of the program. -/
import Derived.Test.YtodcnkbblippnabGreatDoorPart16
namespace Go.Proofs.YtodcnkbblippnabGreatDoor
set_option maxRecDepth 100000
set_option maxHeartbeats 32000000
set_option linter.defProp false
open Go.Proofs.Tryz
section
open Go.RowKit
attribute [local go_sem ↓] CE
section
variable {w w':World} {ab b xb jb B:Nat} {sv ov lv jo:Value} {A:Ar} {P P':PD} {Ft FT:Nat->Prop} {a c m:Nat} {J':Jn}
def Cj.jd(h:Cj w ab b xb jb sv ov lv jo A P Ft):JD w jb b A.j P (λk=>Ft k\/Df jb lv jo k):=
 ⟨lv,jo,Ft,h.jn,h.dk,h.lt,λk d=>h.Db k (.inr (.inr (.inr (.inr d)))),λ_ h=>h⟩
def Cj.ej(h:Cj w ab b xb jb sv ov lv jo A P Ft)(E:∀k,Ft k\/F7 ab xb jb sv ov lv jo k->FT k)(hI:Ap w (λk=>Ft k\/Df jb lv jo k) w' (λw' L=>JD w' jb b J' P' L)):Ap w FT w' (λw' L=>AD w' ab b {A with j:=J'} P' L):=by
 obtain⟨hc,F2,⟨lv',aA,O,h1,h2,h3,h4,h5⟩,hl,hs⟩:=hI;have z:∀k,(k=ab\/k=xb\/sv.ownBlock=some k\/ov.ownBlock=some k)->k<w.heap.size/\¬Ft k/\¬Df jb lv jo k:=λk d=>by
  rcases d with rfl|rfl|d|d
  ·exact⟨h.Ag.lt,h.Db _ (.inl rfl),λI=>(h.Fs _ I).1 rfl⟩
  ·exact⟨h.ix.lt,h.Db _ (.inr (.inl rfl)),λI=>(h.Fs _ I).2 rfl⟩
  ·exact⟨h.segs.lt d,h.Db k (.inr (.inr (.inl d))),(h.F9 k d).2.2⟩
  ·exact⟨h.AN.lt d,h.Db k (.inr (.inr (.inr (.inl d)))),(h.FY k d).2.2⟩
 have keep:∀k,(k=ab\/k=xb\/sv.ownBlock=some k\/ov.ownBlock=some k)->w'.heap[k]?=w.heap[k]?:=λk d=>hc.Al k (z k d).1 λI=>I.elim (z k d).2.1 (z k d).2.2;have out:∀k,(k=ab\/k=xb\/sv.ownBlock=some k\/ov.ownBlock=some k)->¬O k/\¬Df jb lv' aA k:=λk d=>
  ⟨λI=>(hs k (h5 k (.inl I))).elim (λY=>Y.elim (z k d).2.1 (z k d).2.2) λY=>by have:=(z k d).1;omega,
   λI=>(hs k (h5 k (.inr I))).elim (λY=>Y.elim (z k d).2.1 (z k d).2.2) λY=>by have:=(z k d).1;omega⟩
 have W:Cj w' ab b xb jb sv ov lv' aA {A with j:=J'} P' O:=by
  refine⟨(keep ab (.inl rfl)).trans h.Ag,(keep xb (.inr (.inl rfl))).trans h.ix,h.segs.aP λg H=>keep g (.inr (.inr (.inl H))),h.AN.aP λg H=>keep g (.inr (.inr (.inr H))),h1,h2,h3,λk d=>?_,λg H=>?_,λg H=>?_,λk d=>?_⟩
  ·rcases d with d|d|d|d|d
   ·exact(out k (.inl d)).1
   ·exact(out k (.inr (.inl d))).1
   ·exact(out k (.inr (.inr (.inl d)))).1
   ·exact(out k (.inr (.inr (.inr d)))).1
   ·exact h4 k d
  ·exact⟨(h.F9 g H).1,(h.F9 g H).2.1,(out g (.inr (.inr (.inl H)))).2⟩
  ·exact⟨(h.FY g H).1,(h.FY g H).2.1,(out g (.inr (.inr (.inr H)))).2⟩
  ·exact⟨λe=>(out ab (.inl rfl)).2 (e ▸ d),λe=>(out xb (.inr (.inl rfl))).2 (e ▸ d)⟩
 have sub:∀k,(Ft k\/Df jb lv jo k)->FT k:=λk d=>d.elim (λh=>E k (.inl h)) λh=>E k (.inr (.inr (.inr (.inr (.inr h)))));refine W.bL hc (λk _ d=>sub k d) (λk d=>(hs k (h5 k (.inl d))).imp (sub k) id) λk d=>?_;rcases d with d|d|d|d|d
 ·exact .inl (E k (.inr (.inl d)))
 ·exact .inl (E k (.inr (.inr (.inl d))))
 ·exact .inl (E k (.inr (.inr (.inr (.inl d)))))
 ·exact .inl (E k (.inr (.inr (.inr (.inr (.inl d))))))
 ·exact(hs k (h5 k (.inr d))).imp (sub k) id
def A2f(w:World)(p:Pu)(h:AD w ab b A P FT)(aS:∀k,FT k->k<w.heap.size)(hp:Bg p)(hn:A.j.AF=none->CD (A.j.A8+1)/\AW (A.j.A8+1)/\AW A.j.puts)(aR:A.j.Aj.length<=1073741824)(hL:Lets B w)(aI:∀k,FT k->B<=k)(hF:Fit P a c m)(hl:CM (a+1) (c+1) (m+33)):
 Ah 57 #[A5 ab,Dr p] w (Am (.tuple #[.bool (A.aa P p).1,A0 (A.aa P p).2.1]) λw'=>Ap w FT w' (λw' H=>AD w' ab b (A.aa P p).2.2.1 (A.aa P p).2.2.2 H)):=by
 obtain⟨E,z,d⟩:=p;unfold Dr;dsimp only
 obtain⟨s1,s2,s3⟩:=Ng A P;have aQ:C5 (w.aC #[A0 E,A0 z,A0 d] 90) w.heap.size E z d:=BK w _;have k0:A3 Aa w (w.aC #[A0 E,A0 z,A0 d] 90):=(A3.I _ w).aj _;have ST:=A1 (Qv _ (h.aJ k0))
 have aH:Hid (A.aa P (E,z,d)=if (A.C P).1≠0 then (false,(A.C P).1,(A.C P).2.1,(A.C P).2.2) else
  (((A.C P).2.1.j.aa (A.C P).2.2 (E,z,d)).1,((A.C P).2.1.j.aa (A.C P).2.2 (E,z,d)).2.1,{ (A.C P).2.1 with j:=((A.C P).2.1.j.aa (A.C P).2.2 (E,z,d)).2.2.1},((A.C P).2.1.j.aa (A.C P).2.2 (E,z,d)).2.2.2)):=rfl
 have aE:=hF.C (A:=A);generalize hR:A.aa P (E,z,d)=R at aH ⊢;generalize hX:A.C P=X at aH ST s1 s2 s3 aE;obtain⟨aJ,L,aB⟩:=X;dsimp only at aH ST s1 s2 s3 aE;have sz:w.heap.size<(w.aC #[A0 E,A0 z,A0 d] 90).heap.size:=by simp
 have aN:Hid (∀W,Ap (w.aC #[A0 E,A0 z,A0 d] 90) FT W (λw' H=>AD w' ab b L aB H)->∃jb,A6 W ab 2 (A5 jb)/\C5 W w.heap.size E z d/\
  Ah 99 #[A5 jb,.agg #[A0 E,A0 z,A0 d]] W.drew (Am (.tuple #[.bool (L.j.aa aB (E,z,d)).1,A0 (L.j.aa aB (E,z,d)).2.1]) λw'=>
   (A6 w' ab 2 (A5 jb)/\C5 w' w.heap.size E z d)/\Ap w FT w' (λw' H=>AD w' ab b {L with j:=(L.j.aa aB (E,z,d)).2.2.1} (L.j.aa aB (E,z,d)).2.2.2 H))):=λW h2=>by
  obtain⟨c2,aV,⟨xb,jb,sv,ov,lv,jo,Ft,hv,aA⟩,l2,q2⟩:=h2;have kd:A3 Aa W W.drew:=(A3.I _ W).af;have aG:=hv.aJ kd;have np:¬FT w.heap.size:=λI=>FQ _ (aS _ I);have aU:¬aV w.heap.size:=λI=>by rcases q2 _ I with h|h;exact np h;omega
  have O:=aQ.ak c2 np;refine⟨jb,hv.Ag.c2,O,(Zs W.drew (E,z,d) aG.jd hp (by rw[s2];exact hn) (by rw[s2];exact aR) (((hL.aS k0).ak c2 aI).aS kd) aE hl).mono ?_⟩;rintro e w'⟨rfl,hI⟩;have aF:∀k,(Ft k\/Df jb lv jo k)->aV k:=λk hk=>hk.elim (λh=>aA k (.inl h)) λh=>aA k (.inr (.inr (.inr (.inr (.inr h)))));refine⟨rfl,⟨(aG.Ag.ak hI.1 λI=>I.elim (hv.Db _ (.inl rfl)) λI=>(hv.Fs _ I).1 rfl).c2,O.af.ak hI.1 λI=>aU (aF _ I)⟩,?_⟩;exact((Ap.a8 (c2.af) q2 (aG.ej aA hI)).a7 k0)
 have aL:Hid (∀wx aM aT,Ap (w.aC #[A0 E,A0 z,A0 d] 90) FT wx (λw' H=>AD w' ab b aM aT H)->Ap w FT wx (λw' H=>AD w' ab b aM aT H)):=λwx aM aT I=>I.a7 k0;by_cases I:aJ=0
 case neg=>
  have aD:R=(false,aJ,L,aB):=by rw[aH.o,Af I]
  subst aD;have hxb:(aJ !=0)=true:=by simpa using I
  go_enter func57,ntmps57
  go_wp2_with (go_at_call 69;refine ST.m ?_;rintro e W⟨rfl,hI⟩;have aO:=A1 (aL.o _ _ _ hI));go_ret2;exact⟨rfl,aO.o⟩
 case pos=>
  subst I;have aD:R=((L.j.aa aB (E,z,d)).1,(L.j.aa aB (E,z,d)).2.1,{L with j:=(L.j.aa aB (E,z,d)).2.2.1},(L.j.aa aB (E,z,d)).2.2.2):=by rw[aH.o,Ac (by simp)]
  generalize hY:L.j.aa aB (E,z,d)=Y at aN aD;obtain⟨Y0,Y1,Y2,Y3⟩:=Y;dsimp only at aN aD;subst aD
  go_enter func57,ntmps57
  go_wp2_with (fail);refine ST.m ?_;rintro e W⟨rfl,hI⟩;obtain⟨jb,aK,O,aW⟩:=aN.o W hI;have aP:=A1 aW;have d2:A6 W.drew ab 2 (A5 jb):=aK;have e0:=O.af.c0;have e1:=O.af.c1;have e2:=O.af.c2;go_wp2;refine C3 (λw'=>A6 w' ab 2 (A5 jb)/\A6 w' w.heap.size 0 (A0 E)/\A6 w' w.heap.size 1 (A0 z)/\A6 w' w.heap.size 2 (A0 d)) 8
   (Bz [0,1,2,3,4,5,6,7] [5]) ⟨d2,e0,e1,e2⟩ ?_
  iterate 5 (refine Bj ?_;(try simp only[Ao]))
  refine Bt λK hK=>?_;go_simp;refine aP.m ?_;rintro e w3⟨rfl,⟨e4,eb⟩,hI⟩;refine hK _ _ ⟨e4,eb.c0,eb.c1,eb.c2⟩ (λhS=>?_);have aO:=A1 hI
  (try simp only[Ao])
  iterate 2 (refine Bj ?_;(try simp only[Ao]))
  refine Bo ?_;simp only[BO,BN];go_wp2;go_ret2;exact⟨rfl,aO.o⟩
def VP(w:World)(g:Nat)(h:AD w ab b A P FT)(hg:¬FT g)(W:g<w.heap.size)(Y:w.cell? ⟨ab,2,none⟩=some (.pointer (some ⟨jb,0,none⟩)))(hb:w.heap[g]?=some (.cells #[.func (Fn.func 69) #[.pointer (some ⟨ab,0,none⟩)] #[],.func (Fn.func 70) #[.pointer (some ⟨jb,0,none⟩)] #[],.func (Fn.func 71) #[.pointer (some ⟨b,0,none⟩)] #[]] 41 (0,0))):
 Calls Tryz.prog 68 #[.slice (some ⟨g,0,none⟩) 3 3] w λe w'=>e=.returned (.int .i64 (A.ae P).1)/\Ap w FT w' (λw' d=>AD w' ab b (A.ae P).2.1 (A.ae P).2.2 d):=by
 refine(A0a w g ab jb b (λn w'=>n=(A.C P).1/\Ap w FT w' (λw' d=>AD w' ab b (A.C P).2.1 (A.C P).2.2 d)/\w'.cell? ⟨ab,2,none⟩=w.cell? ⟨ab,2,none⟩)
  (λn w'=>(A.C P).1=0/\n=((A.C P).2.1.j.ae (A.C P).2.2).1/\Ap w FT w' (λw' d=>AD w' ab b (A.C P).2.1 ((A.C P).2.1.j.ae (A.C P).2.2).2 d))
  (λn w'=>(A.C P).1=0/\((A.C P).2.1.j.ae (A.C P).2.2).1=0/\n=((A.C P).2.1.j.ae (A.C P).2.2).2.aK.1/\Ap w FT w' (λw' d=>AD w' ab b (A.C P).2.1 ((A.C P).2.1.j.ae (A.C P).2.2).2.aK.2 d)) hb ?_ ?_ ?_).mono ?_
 ·refine(Qu w h).mono ?_;rintro e w'⟨I,z,E⟩;exact⟨_,I,⟨rfl,z,E⟩,z.1.Al g W hg⟩
 ·rintro w1⟨h0,⟨c1,aD,⟨xb,aA,sv,ov,lv,jo,Ft,hv,O⟩,E,H⟩,hc⟩ hk;have e:aA=jb:=by have:=hv.Ag.c2.symm.trans (hc.trans Y);simpa using this
  subst e;refine(Zq w1 hv.jd).mono ?_;rintro e w'⟨L,h6⟩;have hI:=Ap.a8 c1 H (hv.ej O h6);exact⟨_,L,⟨h0.symm,rfl,hI⟩,hI.1.Al g W hg⟩
 ·rintro w1⟨h0,aB,c1,aD,z,E,H⟩ -;refine(Ut z).mono ?_;rintro e w'⟨L,h6⟩;exact⟨_,L,h0,aB.symm,rfl,Ap.a8 c1 H h6⟩
 ·rintro e w'⟨n,rfl,⟨I,z,E,_⟩|⟨I,z,E,H⟩|⟨z,E,H,L⟩⟩
  ·subst z;unfold Ar.ae;rw[Af I];exact⟨rfl,E⟩
  ·subst E;unfold Ar.ae;rw[Ac (by simp[z]),Af I];exact⟨rfl,H⟩
  ·subst H;unfold Ar.ae;rw[Ac (by simp[z]),Ac (by simp[E])];exact⟨rfl,L⟩
def A2b(w:World)(h:AD w ab b A P FT)(L:∀k,FT k->k<w.heap.size):
 Ah 42 #[A5 ab] w (Am (A0 (A.ae P).1) λw'=>Ap w FT w' (λw' d=>AD w' ab b (A.ae P).2.1 (A.ae P).2.2 d)):=by
 obtain⟨jb,c2⟩:∃jb,A6 w ab 2 (A5 jb):=by
  obtain⟨xb,jb,sv,ov,lv,jo,Ft,hv,_⟩:=h;exact⟨jb,hv.Ag.c2⟩
 have c0:=h.bw.1;have z:A3 Aa w (w.aC #[.func (Fn.func 69) #[A5 ab] #[],.func (Fn.func 70) #[A5 jb] #[],.func (Fn.func 71) #[A5 b] #[]] 41).drew:=((A3.I _ w).aj _).af;have I:=A1 (VP _ w.heap.size (h.aJ z) (λW=>FQ _ (L _ W)) (by show w.heap.size<(w.alloc _).heap.size;simp) (z.ao c2) (BK w _));have aB:=A1 z;have d0:A6 w.drew ab 0 (A5 b):=c0;have d2:A6 w.drew ab 2 (A5 jb):=c2;have e0:=z.ao c0;have e2:=z.ao c2;have E:Hid (∀w' O Y,Ap (w.aC #[.func (Fn.func 69) #[A5 ab] #[],.func (Fn.func 70) #[A5 jb] #[],.func (Fn.func 71) #[A5 b] #[]] 41).drew FT w' (λw' d=>AD w' ab b O Y d)->Ap w FT w' (λw' d=>AD w' ab b O Y d)/\A6 w' ab 0 (A5 b)):=λw' O Y W=>by
  obtain⟨c,F,r,l,s⟩:=W;exact⟨Ap.a7 ⟨c,F,r,l,s⟩ aB.o,r.bw.1⟩
 generalize hR:A.ae P=R at I ⊢;obtain⟨R1,R2,R3⟩:=R;dsimp only at I ⊢
 go_enter func42,ntmps42
 go_wp2;refine C3 (λw'=>A6 w' ab 0 (A5 b)/\A6 w' ab 2 (A5 jb)) 13
  (Bz [0,1,2,3,4,5,6,7,8,9,10,11,12] [12]) ⟨d0,d2⟩ ?_
 iterate 12 (refine Bj ?_;(try simp only[Ao]))
 refine Bt λK hK=>?_;go_simp;refine hK _ _ ⟨e0,e2⟩ (λhS=>?_)
 (try simp only[Ao])
 refine Bo ?_;simp only[BO,BN];go_wp2_with (go_at_call 68;refine I.m ?_;rintro e w6⟨rfl,aA⟩;have H:=A1 (E.o _ _ _ aA).1);go_ret;exact⟨rfl,H.o⟩
end
def GF(len:Int)(p q:Pu):Int:=Jm (Ci (BA p.2.1 len) (BA q.2.1 len)) (Ck p q)
def OV{x y:Int}:Ci x y<0↔x<y:=by
 unfold Ci;split
 ·simp_all
 ·split<;>simp_all
def Md{x y:Int}:Ci x y=0↔x=y:=by
 unfold Ci;split
 ·constructor<;>intro h<;>omega
 ·split
  ·constructor<;>intro h<;>omega
  ·constructor<;>intro h<;>omega
def A1H{p q:Pu}:Ck p q<0↔(p.1<q.1\/p.1=q.1/\p.2.1<q.2.1):=by
 unfold Ck;by_cases h:Ci p.1 q.1=0
 ·rw[Ac (by simpa using h),OV];have:=Md.1 h;constructor
  ·exact λd=>.inr ⟨this,d⟩
  ·rintro (d|⟨_,d⟩)
   ·omega
   ·exact d
 ·rw[Af h,OV];have:¬p.1=q.1:=λe=>h (Md.2 e);constructor
  ·exact λd=>.inl d
  ·rintro (d|⟨d,_⟩)
   ·exact d
   ·exact absurd d this
def Mb{len:Int}{p q:Pu}:GF len p q<0↔AA len p q=true:=by
 unfold GF Jm AA;rw[decide_eq_true_iff];by_cases h:Ci (BA p.2.1 len) (BA q.2.1 len)=0
 ·rw[Ac (by simpa using h),A1H];have:=Md.1 h;constructor
  ·exact λd=>.inr ⟨this,d⟩
  ·rintro (d|⟨_,d⟩)
   ·omega
   ·exact d
 ·rw[Af h,OV];have:¬BA p.2.1 len=BA q.2.1 len:=λe=>h (Md.2 e);constructor
  ·exact λd=>.inl d
  ·rintro (d|⟨d,_⟩)
   ·exact d
   ·exact absurd d this
def Fb(len:Int):BS (AA len):=by
 refine⟨λx=>?_,λx y z=>?_,λx y z=>?_⟩
 ·unfold AA;simp
 ·unfold AA;simp only[DG];omega
 ·unfold AA;simp only[DG];omega
def A1E(len:Int)(p q:Pu):GF len p q = -1\/GF len p q=0\/GF len p q=1:=by
 unfold GF Jm;split
 ·exact OT _ _
 ·exact TY _ _
def Mc(w:World)(wb:Nat)(len:Int)(p q:Pu)(hp:AW p.2.1)(hq:AW q.2.1)(hl:1<=len/\len<=4611686018427387904)(hw:A6 w wb 0 (A0 len)):
 Ah 103 #[Dr p,Dr q,A5 wb] w (Am (A0 (GF len p q)) λw'=>A3 Aa w w'):=by
 obtain⟨W,z,H⟩:=p;obtain⟨I,E,O⟩:=q;unfold GF Dr;dsimp only at hp hq ⊢;have aN:=A1 (OO);have OR:=A1 (RW);have aK:=A1 (λd t (ht:AW t)=>MZ d t len ht hl);have aE:=A1 (λd=>NH d (W,z,H) (I,E,O));unfold Dr at aE;dsimp only at aE;obtain⟨x,hx⟩:∃x,BA z len=x:=⟨_,rfl⟩;obtain⟨y,hy⟩:∃y,BA E len=y:=⟨_,rfl⟩;have aD:=A1 (λd=>aK.o d z hp);have aA:=A1 (λd=>aK.o d E hq);rw[hx]at aD;rw[hy]at aA;rw[hx,hy];obtain⟨r,hr⟩:∃r,Ci x y=r:=⟨_,rfl⟩;obtain⟨s,hs⟩:∃s,Ck (W,z,H) (I,E,O)=s:=⟨_,rfl⟩;have aB:=A1 (λd=>aN.o d x y);rw[hr]at aB;rw[hs]at aE;rw[hr,hs];have b1:C5 ((w.alloc (.cells #[A0 W,A0 z,A0 H] 90)).alloc (.cells #[A0 I,A0 E,A0 O] 90)) w.heap.size W z H:=(D8 _ _ _ (by simp)).trans (BK w _);have b2:C5 ((w.alloc (.cells #[A0 W,A0 z,A0 H] 90)).alloc (.cells #[A0 I,A0 E,A0 O] 90)) (w.heap.size+1) I E O:=by
  have:=BK (w.alloc (.cells #[A0 W,A0 z,A0 H] 90)) (.cells #[A0 I,A0 E,A0 O] 90);simpa[C5] using this
 have k2:A3 Aa w ((w.alloc (.cells #[A0 W,A0 z,A0 H] 90)).alloc (.cells #[A0 I,A0 E,A0 O] 90)):=((A3.I _ w).aj _).aj _;have sz:((w.alloc (.cells #[A0 W,A0 z,A0 H] 90)).alloc (.cells #[A0 I,A0 E,A0 O] 90)).heap.size=w.heap.size+2:=by simp
 have aL:=A1 b1;have aH:=A1 b2;have aI:=A1 k2;have aO:=A1 sz;have aM:=A1 (k2.ao hw)
 go_enter func103,ntmps103
 go_wp2;generalize ((w.alloc (.cells #[A0 W,A0 z,A0 H] 90)).alloc (.cells #[A0 I,A0 E,A0 O] 90))=w2 at aL aH aI aO aM ⊢;have aF:Hid (∀d,A3 Aa w2 d->A6 d w.heap.size 0 (A0 W)/\A6 d w.heap.size 1 (A0 z)/\A6 d w.heap.size 2 (A0 H)/\A6 d (w.heap.size+1) 0 (A0 I)/\A6 d (w.heap.size+1) 1 (A0 E)/\A6 d (w.heap.size+1) 2 (A0 O)/\A6 d wb 0 (A0 len)):=λd hx=>by
  have e1:=aL.o.ak hx (λh=>h);have e2:=aH.o.ak hx (λh=>h);exact⟨e1.c0,e1.c1,e1.c2,e2.c0,e2.c1,e2.c2,hx.ao aM.o⟩
 have Y:=aF.o w2.drew (A3.I _ w2).af;refine C3 (λw'=>A6 w' w.heap.size 0 (A0 W)/\A6 w' w.heap.size 1 (A0 z)/\A6 w' w.heap.size 2 (A0 H)/\A6 w' (w.heap.size+1) 0 (A0 I)/\A6 w' (w.heap.size+1) 1 (A0 E)/\A6 w' (w.heap.size+1) 2 (A0 O)/\A6 w' wb 0 (A0 len)) 16
  (Bz [0,1,2,3,5,6,7,8,11,12,4,9,10,13,14,15] [4,9,10,13,14,15]) Y ?_
 iterate 10 (refine Bj ?_;(try simp only[Ao]))
 refine Bt λK L=>?_;go_simp;refine(aD.o _).mono ?_;rintro e w3⟨rfl,rfl⟩;refine L _ _ Y (λhS=>?_)
 (try simp only[Ao])
 refine Bt λK L=>?_;go_simp;refine(aA.o _).mono ?_;rintro e w3⟨rfl,rfl⟩;refine L _ _ Y (λhS=>?_)
 (try simp only[Ao])
 refine Bt λK L=>?_;go_simp;refine(aB.o _).mono ?_;rintro e w3⟨rfl,rfl⟩;refine L _ _ Y (λhS=>?_)
 (try simp only[Ao])
 refine Bt λK L=>?_;go_simp;refine(aE.o _).mono ?_;rintro e w4⟨rfl,aG⟩;have k4:A3 Aa w2 w4:=((A3.I Aa w2).af).tr aG;refine L _ _ (aF.o w4 k4) (λhS=>?_);have aP:=A1 k4
 (try simp only[Ao])
 refine Bt λK L=>?_;go_simp;have hb:(w4.alloc (.cells #[A0 r,A0 s] 3)).heap[w4.heap.size]?=some (.cells #[A0 r,A0 s] 3):=BK w4 _;have k5:A3 Aa w2 (w4.alloc (.cells #[A0 r,A0 s] 3)):=aP.o.aj _;refine L _ _ (aF.o _ k5) (λhS=>?_);have aJ:=A1 k5;have El:=A1 (OR.o (w4.alloc (.cells #[A0 r,A0 s] 3)) w4.heap.size r s (by simp only[A6,World.cell?,hb];rfl) (by simp only[A6,World.cell?,hb];rfl))
 (try simp only[Ao])
 refine Bt λK L=>?_;go_simp;refine El.m ?_;rintro e w5⟨rfl,rfl⟩;refine L _ _ (aF.o _ aJ.o) (λhS=>?_)
 (try simp only[Ao])
 refine Bo ?_;simp only[BO,BN];go_wp2;go_ret;exact⟨rfl,aI.o.tr aJ.o⟩
end
section
open Go
section
variable {P:Program} {ops:Array Oper} {md:Region.Mode} {Q:Exit->Act->World->Prop}
def SB(aA:Nat)(S:World->Prop)(listed:Array Bool)(w:World):Prop:=listed.getD aA false=true\/S w
def SB.br{aA i:Nat}{S:World->Prop}{listed:Array Bool}{w:World}(d:i≠aA):SB aA S (listed.setIfInBounds i true) w↔SB aA S listed w:=by
 unfold SB;have:(listed.setIfInBounds i true).getD aA false=listed.getD aA false:=by simp[Array.getD_eq_getD_getElem?,Array.getElem?_setIfInBounds_ne d]
 rw[this]
def wpAnyL(P:Program)(md:Region.Mode)(ops:Array Oper)(Q:Exit->Act->World->Prop)(S:Array Bool->World->Prop)(n:Nat)(L:Array Bool->Act->World->Prop):Nat->Array Bool->Act->World->Prop
 | 0,listed,a,w=>L listed a w
 | f+1,listed,a,w=>Region.ready md ops listed≠[]/\∀i∈Region.ready md ops listed,i<n/\wpOp P ops Q i (λa' w'=>S (listed.setIfInBounds i true) w'/\wpAnyL P md ops Q S n L f (listed.setIfInBounds i true) a' w') a w
def PO{S:Array Bool->World->Prop}{n g:Nat}{L:Array Bool->Act->World->Prop}(d:∀listed a w,L listed a w->wpAny P md ops Q g listed a w):
 ∀(f:Nat) (listed:Array Bool) (a:Act) (w:World),wpAnyL P md ops Q S n L f listed a w->wpAny P md ops Q (f+g) listed a w
 | 0,listed,a,w,h=>by rw[Gx];exact d _ _ _ h
 | f+1,listed,a,w,h=>by
  rw[show f+1+g=(f+g)+1 from by omega];exact⟨λH=>absurd H h.1,λi E=>K3 (λa' w' z=>PO d f _ a' w' z.2) (h.2 i E).2⟩
def wpAnyL_first{aL:World->Prop}{aP:World->Prop}{aA n i:Nat}{oi:Oper}{v:Value}{L:Array Bool->Act->World->Prop}(aF:i≠aA)(hi:ops[i]?=some oi)(aD:∀(j:Nat) (o:Oper) cs b,ops[j]?=some o->o.op≠.select cs b)(hQ:∀c a w,Q (.panic c) (a.put oi.dst v) w->Q (.panic c) a w)(hs:Region.sinkB md ops n=true)(hc:Region.chainB md ops n=true)(hn:n<ops.size)(aK:i<n)(aH:∀listed w,HeadInv md ops n listed->i∈Region.ready md ops listed->SB aA aL listed w->aP w)(aG:∀listed a w,L listed a w->∀j∈Region.ready md ops listed,n<=j):
 ∀(f:Nat) (listed:Array Bool) (a:Act) (w:World),HeadInv md ops n listed->
  (∀j oj,ops[j]?=some oj->j≠i->listed.getD j true=false->(∀e∈oj.after,Region.binds md e=true->e.on≠i)->oi.apart ops oj=true)->
  i∈Region.ready md ops listed->YieldsIf P ops aP oi v a->SB aA aL listed w->
  wpAnyL P md ops Q (SB aA aL) n L f (listed.setIfInBounds i true) (a.put oi.dst v) w->wpAnyL P md ops Q (SB aA aL) n L (f+1) listed a w:=by
 intro f
 induction f with
 | zero=>
  intro listed a w E _ O hy hS H;have z:=(I0.1 O).1;refine⟨λh=>(by rw[h]at O;cases O),λj hj=>?_⟩;have Y:j<n:=by
   rcases EW j n with h|h
   ·exact h
   ·exact absurd hj (Lu hs hc hn E _ i rfl aK z j h)
  refine⟨Y,?_⟩;by_cases d:j=i
  ·subst d;exact hy.wpOp hi (aH _ _ E O hS) ⟨(SB.br aF).2 hS,H⟩
  ·have:=aG _ _ _ H j (Kh hj d);omega
 | succ f ih=>
  intro listed a w E I O hy hS H;have z:=(I0.1 O).1;refine⟨λh=>(by rw[h]at O;cases O),λj hj=>?_⟩;have Y:j<n:=by
   rcases EW j n with h|h
   ·exact h
   ·exact absurd hj (Lu hs hc hn E _ i rfl aK z j h)
  refine⟨Y,?_⟩;by_cases d:j=i
  ·subst d;exact hy.wpOp hi (aH _ _ E O hS) ⟨(SB.br aF).2 hS,H⟩
  ·have h1:=(H.2 j (Kh hj d)).2;obtain⟨aB,oj,aE,hall⟩:=I0.1 hj;have aJ:∀e∈oj.after,Region.binds md e=true->e.on≠i:=λe he hb aO=>by
    have h1:=hall e he hb;rw[aO,getD_both z]at h1;cases h1
   have h2:=wpOp_putIf aE (I j oj aE d aB aJ) (λcs b=>aD i oi cs b hi) (λcs b=>aD j oj cs b aE) hQ hy h1;have W:∀k ok,ops[k]?=some ok->k≠i->(listed.setIfInBounds j true).getD k true=false->
    (∀e∈ok.after,Region.binds md e=true->e.on≠i)->oi.apart ops ok=true:=λk ok hk aN z aM=>by
    refine I k ok hk aN ?_ aM;by_cases aI:j=k
    ·subst aI;exact aB
    ·rw[LV true aI]at z;exact z
   refine K3 (λa' w' h3=>?_) h2;have h4:=h3.2.1;rw[Vg _ _ (Pd d)]at h4;have h5:=(SB.br aF).1 h4;refine⟨h5,ih (listed.setIfInBounds j true) a' w' (E.set hj Y) W (Kh O (Pd d)) h3.1 h5 ?_⟩;rw[Vg _ _ d];exact h3.2.2
def ED(P:Program)(ops:Array Oper)(Q:Exit->Act->World->Prop)(aA:Nat)(S:World->Prop)(T:Act->World->Prop):List (Nat×Nat)->Act->World->Prop
 | [],a,w=>T a w
 | (i,0):: r,a,w=>wpOp P ops Q i (λa' w'=>(i=aA\/S w')/\ED P ops Q aA S T r a' w') a w
 | (i,1):: r,a,w=>∃o v,ops[i]?=some o/\YieldsIf P ops S o v a/\ED P ops Q aA S T r (a.put o.dst v) w
 | (i,_+2):: r,a,w=>∃o v,ops[i]?=some o/\YieldsIf P ops (λ_=>True) o v a/\ED P ops Q aA S T r (a.put o.dst v) w
def N0(md:Region.Mode)(ops:Array Oper)(aA i:Nat):Bool:=match ops[aA]? with
 | some o=>o.after.any λe=>Region.binds md e&&decide (e.on=i)
 | none=>false
def HP(md:Region.Mode)(ops:Array Oper)(aA n:Nat):List (Nat×Nat)->Array Bool->Bool
 | [],listed=>Region.seqB md ops (ops.size-n) n listed
 | (i,0):: r,listed=>decide (i<n)&&decide (Region.ready md ops listed=[i])&&HP md ops aA n r (listed.setIfInBounds i true)
 | (i,1):: r,listed=>decide (i<n)&&((Region.ready md ops listed).contains i&&Region.free md ops listed i)&&(decide (i≠aA)&&N0 md ops aA i)&&HP md ops aA n r (listed.setIfInBounds i true)
 | (i,_+2):: r,listed=>decide (i<n)&&((Region.ready md ops listed).contains i&&Region.free md ops listed i)&&decide (i≠aA)&&HP md ops aA n r (listed.setIfInBounds i true)
def Nn(ops:Array Oper)(aA n:Nat)(d:List (Nat×Nat)):Bool:=
 Region.noSelect ops&&decide (n<ops.size)&&decide (d.length=n)&&Region.sinkB .any ops n&&Region.chainB .any ops n&&HP .any ops aA n d (Array.replicate ops.size false)
def Vy{aA i n:Nat}{S:World->Prop}{listed:Array Bool}{w:World}(h:N0 md ops aA i=true)(E:HeadInv md ops n listed)(I:i∈Region.ready md ops listed)(z:SB aA S listed w):S w:=by
 rcases z with L|z
 ·unfold N0 at h;cases ho:ops[aA]? with
  | none=>rw[ho]at h;cases h
  | some o=>
   rw[ho]at h;obtain⟨e,H,d⟩:=Array.any_eq_true'.1 h;simp only[FV,DG]at d;have:=E.closed aA o ho L e H d.1;rw[d.2,getD_both (I0.1 I).1]at this;cases this
 ·exact z
def Lr{aA n:Nat}{S:World->Prop}{T:Act->World->Prop}(E:Region.noSelect ops=true)(hs:Region.sinkB md ops n=true)(hc:Region.chainB md ops n=true)(hn:n<ops.size)(hQ:∀c a t v w,Q (.panic c) (Act.put a (some t) v) w->Q (.panic c) a w):
 ∀(aB:List (Nat×Nat)) (listed:Array Bool) (a:Act) (w:World),HeadInv md ops n listed->HP md ops aA n aB listed=true->SB aA S listed w->ED P ops Q aA S T aB a w->
 wpAnyL P md ops Q (SB aA S) n (λd a' w'=>Region.seqB md ops (ops.size-n) n d=true/\T a' w') aB.length listed a w
 | [],listed,a,w,_,hB,_,h=>⟨hB,h⟩
 | (i,0):: r,listed,a,w,z,hB,Y,h=>by
  simp only[HP,FV,DG]at hB;obtain⟨⟨H,W⟩,O⟩:=hB;refine⟨by rw[W];simp,λj hj=>?_⟩;have I:i∈Region.ready md ops listed:=by rw[W];simp
  rw[W]at hj;have:j=i:=by simpa using hj
  subst this;refine⟨H,K3 (λa' w' h'=>?_) h⟩;have aD:SB aA S (listed.setIfInBounds j true) w':=by
   rcases h'.1 with rfl|h1
   ·refine .inl ?_;(have:j<listed.size:=by rw[z.size];omega);simp[this]
   ·exact .inr h1
  exact⟨aD,Lr E hs hc hn hQ r _ a' w' (z.set I H) O aD h'.2⟩
 | (i,1):: r,listed,a,w,z,hB,Y,h=>by
  simp only[HP,FV,DG]at hB;obtain⟨⟨⟨H,W,hf⟩,L,aE⟩,O⟩:=hB;obtain⟨o,v,h0,hy,hK⟩:=h;have I:i∈Region.ready md ops listed:=by simpa using W
  exact wpAnyL_first L h0 (Uw E) (λc a w=>by cases o.dst with|none=>exact id|some t=>exact hQ c a t v w) hs hc hn H (λl w z W Y=>Vy aE z W Y) (λd a' w' hL=>Qw hL.1) r.length listed a w z (Ux h0 hf) I hy Y
   (Lr E hs hc hn hQ r _ _ w (z.set I H) O ((SB.br L).2 Y) hK)
 | (i,k+2):: r,listed,a,w,z,hB,Y,h=>by
  simp only[HP,FV,DG]at hB;obtain⟨⟨⟨H,W,hf⟩,L⟩,O⟩:=hB;obtain⟨o,v,h0,hy,hK⟩:=h;have I:i∈Region.ready md ops listed:=by simpa using W
  exact wpAnyL_first L h0 (Uw E) (λc a w=>by cases o.dst with|none=>exact id|some t=>exact hQ c a t v w) hs hc hn H (λ_ _ _ _ _=>trivial) (λd a' w' hL=>Qw hL.1) r.length listed a w z (Ux h0 hf) I hy Y
   (Lr E hs hc hn hQ r _ _ w (z.set I H) O ((SB.br L).2 Y) hK)
end
section
variable {P:Program} {ops:Array Oper} {Q:Exit->Act->World->Prop} {aA:Nat} {S:World->Prop} {T:Act->World->Prop}
def Vl{id:Nat}{a:Act}{w:World}{l:List Oper}(aA:Nat)(S:World->Prop)(n:Nat)(d:List (Nat×Nat))(hm:P.follows .mixedOrders=true)(O:Nn l.toArray aA n d=true)(Y:∀c a t v w,Q (.panic c) (Act.put a (some t) v) w->Q (.panic c) a w)(hS:S w.drew)(h:ED P l.toArray Q aA S (λa w=>wpList P l.toArray Q (l.drop n) a w) d a w.drew):(Code.region id l.toArray true).wp P Q a w:=by
 simp only[Nn,FV,DG]at O;obtain⟨⟨⟨⟨⟨hsel,hn⟩,hsl⟩,hs⟩,hc⟩,hgo⟩:=O;have E:(l.drop n).length=l.toArray.size-n:=by simp
 have z:HeadInv .any l.toArray n (Array.replicate l.toArray.size false):=
  ⟨by simp,λj oj _ L=>(by rw[Jy]at L;cases L),λt _ W=>getD_in (by simpa using W) (Jy _ _)⟩
 have H:=Lr (md:=.any) (T:=λa w=>wpList P l.toArray Q (l.drop n) a w) hsel hs hc hn Y d _ a w.drew z hgo (.inr hS) h;refine PK hm ?_
 have:=PO (Q:=Q) (g:=l.toArray.size-n) (λlisted a' w' I=>by
  have:=PM (md:=.any) (Q':=Q) (l.drop n) n listed a' w' (λj=>by simp[List.getElem?_drop]) (by rw[E];exact I.1) I.2
  rwa [E]at this) _ _ _ _ H
 rw[hsl,show n+(l.toArray.size-n)=l.toArray.size from by omega]at this;exact this
def Vn{i:Nat}{o:Oper}{v:Value}{r:List (Nat×Nat)}{a:Act}{w:World}(z:ops[i]?=some o)(d:Region.wanted o (yielded ops a.tmps)=true)(E:∀w,S w->(execOp a.eval o).run P w=.ok (.value v) w)(h:ED P ops Q aA S T r (a.put o.dst v) w):ED P ops Q aA S T ((i,1):: r) a w:=
 ⟨o,v,z,.inl ⟨d,E⟩,h⟩
def Vo{i:Nat}{o:Oper}{v:Value}{r:List (Nat×Nat)}{a:Act}{w:World}(z:ops[i]?=some o)(d:Region.wanted o (yielded ops a.tmps)=true)(E:∀w,(execOp a.eval o).run P w=.ok (.value v) w)(h:ED P ops Q aA S T r (a.put o.dst v) w):ED P ops Q aA S T ((i,2):: r) a w:=
 ⟨o,v,z,.inl ⟨d,λw _=>E w⟩,h⟩
def Lo{a:Act}{w:World}(h:T a w):ED P ops Q aA S T [] a w:=h
def Vp{o:Oper}{r:List (Nat×Nat)}{a:Act}{w:World}(E:ops[aA]?=some o)(d:Region.wanted o (yielded ops a.tmps)=true)(h:∀K:Act->World->Prop,(∀a w,ED P ops Q aA S T r a w->K a w)->o.wp P a w K Q):ED P ops Q aA S T ((aA,0):: r) a w:=by
 show wpOp P ops Q aA _ a w;unfold wpOp;simp only[E,d,Cg];exact .inl (h _ λa w z=>⟨by simp,z⟩)
def HJ{i:Nat}{o:Oper}{v:Value}{r:List (Nat×Nat)}{a:Act}{w:World}(h:ED P ops Q aA S T r (a.put o.dst v) w)(z:ops[i]?=some o:=by rfl)(d:Region.wanted o (yielded ops a.tmps)=true:=by rfl)(E:∀w,S w->(execOp a.eval o).run P w=.ok (.value v) w:=by intro w' H;(try dsimp only at H);go_simp;try with_reducible rfl):ED P ops Q aA S T ((i,1):: r) a w:=Vn z d E h
def HK{i:Nat}{o:Oper}{v:Value}{r:List (Nat×Nat)}{a:Act}{w:World}(h:ED P ops Q aA S T r (a.put o.dst v) w)(z:ops[i]?=some o:=by rfl)(d:Region.wanted o (yielded ops a.tmps)=true:=by rfl)(E:∀w,(execOp a.eval o).run P w=.ok (.value v) w:=by intro w';go_simp;try with_reducible rfl):ED P ops Q aA S T ((i,2):: r) a w:=Vo z d E h
def Lp{o:Oper}{r:List (Nat×Nat)}{a:Act}{w:World}(h:∀K:Act->World->Prop,(∀a w,ED P ops Q aA S T r a w->K a w)->o.wp P a w K Q)(z:ops[aA]?=some o:=by rfl)(d:Region.wanted o (yielded ops a.tmps)=true:=by rfl):
 ED P ops Q aA S T ((aA,0):: r) a w:=Vp z d h
def Ln{id:Nat}{a:Act}{w:World}{l:List Oper}(aA:Nat)(S:World->Prop)(n:Nat)(d:List (Nat×Nat))(E:S w.drew)(h:ED P l.toArray Q aA S (λa w=>wpList P l.toArray Q (l.drop n) a w) d a w.drew)(z:P.follows .mixedOrders=true:=by kernel_rfl)(H:Nn l.toArray aA n d=true:=by kernel_rfl)(I:∀c a t v w,Q (.panic c) (Act.put a (some t) v) w->Q (.panic c) a w:=by exact λ_ _ _ _ _ h=>h):(Code.region id l.toArray true).wp P Q a w:=Vl aA S n d z H I E h
end
end
section
open Go.RowKit
attribute [local go_sem ↓] CE
def Rx(l:List Pu):(Ba l).length=l.length*3:=by
 induction l with
 | nil=>rfl
 | cons p r ih=>obtain⟨a,b,c⟩:=p;simp only[Ba,CG,ih];omega
def Rw:∀(l:List Pu) (k:Nat) (_:k<l.length) (p:Pu),Ba (l.set k p)=(((Ba l).set (k*3) (.int .i64 p.1)).set (k*3+1) (.int .i64 p.2.1)).set (k*3+2) (.int .i64 p.2.2)
 | [],k,h,p=>by simp at h
 | (a,b,c):: r,0,_,p=>by obtain⟨p1,p2,p3⟩:=p;simp[Ba]
 | (a,b,c):: r,k+1,h,p=>by
  have z:=Rw r k (by simpa using h) p;have d:(k+1)*3=k*3+1+1+1:=by omega
  simp only[UP,Ba,z,d]
def AY.br{w:World}{g n cap:Nat}{l:List Pu}(h:w.ownsRow 0 90 3 (AJ g n cap) n (Ba l))(k:Nat)(d:k<l.length)(p:Pu):
 (((w.setCell (Ab g (k*3)) (A0 p.1)).setCell (Ab g (k*3+1)) (A0 p.2.1)).setCell (Ab g (k*3+2)) (A0 p.2.2)).ownsRow 0 90 3 (AJ g n cap) n (Ba (l.set k p)):=by
 rw[Rw l k d p];exact(((h.stored (k*3) _).1.stored (k*3+1) _).1.stored (k*3+2) _).1
def Wx{α:Type}(A C:List α)(x y:α):((A++y::x::C).set (A.length+1) y).set A.length x=A++x::y::C:=by
 have d:(A++y::x::C).set (A.length+1) y=A++y::y::C:=by
  rw[JQ _ _ (by omega)];simp
 rw[d,JQ _ _ (by omega)];simp
def AY.fN{w:World}{g n cap:Nat}{A C:List Pu}{x y:Pu}(h:w.ownsRow 0 90 3 (.slice (some ⟨g,0,none⟩) n cap) n (Ba (A++y::x::C))):
 (w.cell? ⟨g,A.length*3,none⟩=some (.int .i64 y.1)/\w.cell? ⟨g,A.length*3+1,none⟩=some (.int .i64 y.2.1)/\w.cell? ⟨g,A.length*3+2,none⟩=some (.int .i64 y.2.2))/\
 (w.cell? ⟨g,(A.length+1)*3,none⟩=some (.int .i64 x.1)/\w.cell? ⟨g,(A.length+1)*3+1,none⟩=some (.int .i64 x.2.1)/\w.cell? ⟨g,(A.length+1)*3+2,none⟩=some (.int .i64 x.2.2))/\∀o,w.frozen? ⟨g,o,none⟩=false:=by
 obtain⟨H,L,I⟩:=H4 (A++y::x::C) A.length (by simp);obtain⟨E,d,z⟩:=H4 (A++y::x::C) (A.length+1) (by simp);have O:(A++y::x::C)[A.length]'(by simp)=y:=by simp
 have W:(A++y::x::C)[A.length+1]'(by simp)=x:=by
  rw[Gf (by omega)];simp
 rw[O]at H L I;rw[W]at E d z;exact⟨⟨BF h rfl H,BF h rfl L,BF h rfl I⟩,⟨BF h rfl E,BF h rfl d,BF h rfl z⟩,λo=>G1 h rfl o⟩
def ZK{α:Type}{lt:α->α->Bool}(I:BS lt){m:List α}{x:α}{q:Nat}(hm:B1 lt m)(_hq:q<=m.length)(O:∀y∈m.drop q,lt x y=true)(Y:∀z,(m.take q).getLast?=some z->lt x z=false):
 B1 lt (m.take q++x::m.drop q)/\Bf lt (m++[x]) (m.take q++x::m.drop q):=by
 have E:=DO q m;have hA:B1 lt (m.take q++m.drop q):=by rw[E];exact hm
 obtain⟨W,a2,a3⟩:=hA.an;have hx:∀y∈m.take q,lt x y=false:=by
  have H:B1 lt [x]:=MA _ _;have:=I.cF W H λz y h d=>by
   simp at d;subst d;exact Y z h
  exact λy d=>this y d x (by simp)
 refine⟨B1.cB W (D7.2 ⟨λy d=>I.cd (O y d),a2⟩) λy d z h=>?_,?_⟩
 ·rcases BP.1 h with rfl|h
  ·exact hx y d
  ·exact a3 y d z h
 ·have h3:=I.cZ O;have L:=(Bf.I (lt:=lt) (m.take q)).an h3;rw[<-Cc,E]at L;exact L
def T9(w:World)(g cap wb:Nat)(len:Int)(l:List Pu)(a b:Nat)(hab:a<b)(hb:b<=l.length)(h:AY w (AJ g l.length cap) l)(hT:∀p∈l,AW p.2.1)(hl:1<=len/\len<=4611686018427387904)(hw:A6 w wb 0 (A0 len))(bH:wb≠g)(_hbig:l.length<=4294967296):
 Ah 193 #[AJ g l.length cap,A0 a,A0 b,.func (Fn.func 103) #[] #[A5 wb]] w (Am (.tuple #[]) λw'=>
  ∃m,AY w' (AJ g l.length cap) (l.take a++m++l.drop b)/\m.length=b-a/\Bf (AA len) ((l.take b).drop a) m/\B1 (AA len) m/\A3 (One g) w w'):=by
 have KW:=Fb len;obtain⟨n,hn⟩:∃n,l.length=n:=⟨_,rfl⟩;have bY:Hid (w.ownsRow 0 90 3 (AJ g n cap) n (Ba l)):=by have:=h;unfold AY at this;rw[hn]at this;exact this
 rw[hn]at hb ⊢;have aS:n<=cap/\cap<=9223372036854775807:=by
  obtain⟨a',c',e,h1,h2,_⟩:=B9 bY.o;cases e;unfold maxLen at h2;omega
 obtain⟨hc1,hc2⟩:=aS;have b6:=A1 hT;have cA:=A1 hw;have cF:=A1 hl;have a8:=A1 hn;have bJ:=A1 bH;have eia:wrap64 ((a:Int)+1)=(a:Int)+1:=by unfold wrap64;omega
 go_enter func193,ntmps193
 go_wp2;go_loopw [8] (λiv wr=>∃i:Nat,iv=A0 ((i:Int)+1)/\a<=i/\i+1<=b/\Hid (∃m,wr.ownsRow 0 90 3 (AJ g n cap) n (Ba (l.take a++m++l.drop (i+1)))/\m.length=i+1-a/\Bf (AA len) ((l.take (i+1)).drop a) m/\B1 (AA len) m/\A3 (One g) w wr)) (λiv _=>b-(intOf iv).toNat)
 case atStart=>
  refine⟨a,rfl,by omega,by omega,(l.take (a+1)).drop a,?_,?_,Bf.I _,?_,A3.I _ _⟩
  ·have e:l.take a++(l.take (a+1)).drop a++l.drop (a+1)=l:=by
    have:=DO (a+1) l
    conv=>rhs;rw[<-this]
    congr 1
    have h2:=DO a (l.take (a+1));rw[JO]at h2;rw[show min a (a+1)=a by omega]at h2;exact h2
   rw[e];exact bY.o
  ·have:=a8.o;simp;omega
  ·have aT:((l.take (a+1)).drop a).length<=1:=by simp;omega
   match hx:(l.take (a+1)).drop a,aT with
   | [],_=>exact List.Pairwise.nil
   | [x],_=>exact MA _ _
   | x::y::r,hl=>simp at hl
 case round=>
  obtain⟨i,rfl,hai,hib,hI⟩:=hrel;obtain⟨m,i1,i2,i3,i4,i5⟩:=hI.o;by_cases hi1:i+1<b
  ·obtain⟨w1,bC⟩:∃w1,w1=wr:=⟨_,rfl⟩;subst bC;(have aG:i+1<l.length:=by have:=a8.o;omega);have a6:=Fm aG;have a2:=Dl aG;have aX:=BV aG;generalize hx:(l[i+1]'aG)=x at a6 a2 aX;rw[a6]at i1;have b9:=A1 i1;have b7:=A1 i2;have b2:=A1 i3;have cC:=A1 i4;have cD:=A1 i5;have bA:Hid ((l.take (i+1+1)).drop a=(l.take (i+1)).drop a++[x]):=by
    unfold Hid;rw[a2,Lh (by simp;omega)]
   have bQ:=A1 (b6.o x aX);(have aY:Hid ((l.take a).length=a):=by unfold Hid;have:=a8.o;simp;omega);(have bF:(i:Int)+1<(b:Int):=by omega);go_wp2
   have aD:Hid (∀(L:World) (q:Nat),q<=m.length->(∀y∈m.drop q,AA len x y=true)->(∀z,(m.take q).getLast?=some z->AA len x z=false)->L.ownsRow 0 90 3 (AJ g n cap) n (Ba ((l.take a++m.take q)++x::(m.drop q++l.drop (i+1+1))))->A3 (One g) w L->
    ∃m',L.ownsRow 0 90 3 (AJ g n cap) n (Ba (l.take a++m'++l.drop (i+1+1)))/\m'.length=i+1+1-a/\Bf (AA len) ((l.take (i+1+1)).drop a) m'/\B1 (AA len) m'/\A3 (One g) w L):=λL q hq h1 h2 h3 h4=>by
    obtain⟨d1,d2⟩:=ZK KW cC.o hq h1 h2;refine⟨m.take q++x::m.drop q,?_,?_,?_,d1,h4⟩
    ·(have e:l.take a++(m.take q++x::m.drop q)++l.drop (i+1+1)=(l.take a++m.take q)++x::(m.drop q++l.drop (i+1+1)):=by simp);rw[e];exact h3
    ·have:=b7.o;simp;omega
    ·rw[bA.o];exact(b2.o.an (Bf.I _)).Av d2
   go_loopw [9] (λjv wr=>∃j q:Nat,jv=A0 (j:Int)/\j<=i+1/\Hid (j=a+q/\q<=m.length/\wr.ownsRow 0 90 3 (AJ g n cap) n (Ba ((l.take a++m.take q)++x::(m.drop q++l.drop (i+1+1))))/\(∀y∈m.drop q,AA len x y=true)/\A3 (One g) w wr)) (λjv _=>(intOf jv).toNat)
   case atStart=>
    refine⟨i+1,m.length,by go_num,Au _,by have:=b7.o;omega,Au _,?_,(λy hy=>by rw[Gg]at hy;cases hy),cD.o⟩;rw[C9,Gg,EY];exact b9.o
   case round=>
    obtain⟨j,q,rfl,bL,hJ⟩:=hrel;obtain⟨j1,j2,j3,j4,j5⟩:=hJ.o;by_cases bI:q=0
    ·subst bI;(have bM:j=a:=by omega);subst bM;have aM:=A1 (λnq=>aD.o (wr.drewN nq) 0 (Cz _) j4 (λz hz=>by simp at hz) (Ay j3 λ_ _=>rfl) (j5.bb nq));(have hjj:¬((j:Int)<(j:Int)):=by omega);clear hJ j1 j2 j3 j4 j5 aD;go_wp2;go_quiet (fail);go_wp2;go_roundw
     case rel=>exact⟨i+1,by go_num,by omega,by omega,aM.o _⟩
     case measure=>simp[intOf];omega
    ·obtain⟨q,rfl⟩:∃q',q=q'+1:=⟨q-1,by omega⟩;obtain⟨P,hP⟩:∃P,a+q=P:=⟨_,rfl⟩;(have bW:j=P+1:=by omega);subst bW;(have aA:q<m.length:=by omega);have aB:=Dl aA;have aO:=Fm aA;generalize hy:(m[q]'aA)=y at aB aO;(have aE:∀z,(m.take (q+1)).getLast?=some z->z=y:=λz hz=>by rw[aB]at hz;simpa using hz.symm);have aU:AW y.2.1:=by
      (have bR:y∈m:=by rw[<-hy];exact BV aA);have:=(b2.o.bF.Dy KW bR);exact b6.o y (Ik (Lb this))
     (have aJ:(l.take a++m.take q).length=P:=by have:=aY.o;rw[AZ,this,BU];omega);(have e0:(l.take a++m.take (q+1))++x::(m.drop (q+1)++l.drop (i+1+1))=(l.take a++m.take q)++y::x::(m.drop (q+1)++l.drop (i+1+1)):=by rw[aB];simp);have aF:=j3;rw[e0]at aF;obtain⟨⟨y1,y2,y3⟩,⟨x1,x2,x3⟩,fz⟩:=AY.fN aF;rw[aJ]at y1 y2 y3 x1 x2 x3;have a0:=A1 (λL bK=>Mc L wb len x y bQ.o aU cF.o bK);have bU:=A1E len x y;have aN:=Mb (len:=len) (p:=x) (q:=y);generalize bT:GF len x y=cc at a0 bU aN;have aH:=j5.bG cA.o (λe=>bJ.o e);have b1:=A1 j3;have aZ:=A1 aF;have b5:=A1 j4;have b0:=A1 j5;have a3:=A1 aO;have HTQ:=A1 aB;have aK:=A1 aE;have O:=A1 aJ;have cE:=A1 hP;have aW:=A1 aA;have bO:=A1 bL;have a5:=A1 aN;(have hPn:(P:Int)+1<(n:Int):=by omega);(have hPn2:(P:Int)<(n:Int):=by omega);have hP0:=Ce P;(have hPa:(a:Int)<(P:Int)+1:=by omega);(have pk:(0:Int)<=(P:Int)+1:=by omega);(have bG:IntKind.i64.wrap (P:Int)=P:=by simp[IntKind.wrap,IntKind.bits,IntKind.signed];omega);(have ew1:IntKind.i64.wrap ((P:Int)+1-1)=P:=by rw[J7];exact bG);(have ew2:wrap64 ((P:Int)+1-1)=P:=by unfold wrap64;omega);(have ew3:wrap64 (P:Int)=P:=by unfold wrap64;omega);have tk:=En (P+1);obtain⟨W,d,Y⟩:=x;obtain⟨H,I,E⟩:=y;dsimp only at y1 y2 y3 x1 x2 x3;unfold Dr at a0;dsimp only at a0;have a7:Hid (∀L,A3 Aa wr L->A6 L g (P*3) (A0 H)/\A6 L g (P*3+1) (A0 I)/\A6 L g (P*3+2) (A0 E)/\A6 L g ((P+1)*3) (A0 W)/\A6 L g ((P+1)*3+1) (A0 d)/\A6 L g ((P+1)*3+2) (A0 Y)):=λL hx=>
      ⟨hx.ao y1,hx.ao y2,hx.ao y3,hx.ao x1,hx.ao x2,hx.ao x3⟩
     have bZ:=a7.o wr.drew (A3.I _ wr).af;have aQ:=A1 (a0.o wr.drew aH);clear hJ j1 j2 j3 aF j4 j5 aB aO aE aJ hP aN aU hy bT e0 a0 aH aA fz;by_cases aR:cc<0
     ·(have bS:¬(0<=cc):=by omega);go_wp2;refine C3 (λw'=>A6 w' g (P*3) (A0 H)/\A6 w' g (P*3+1) (A0 I)/\A6 w' g (P*3+2) (A0 E)/\A6 w' g ((P+1)*3) (A0 W)/\A6 w' g ((P+1)*3+1) (A0 d)/\A6 w' g ((P+1)*3+2) (A0 Y)) 16
       (Bz [0,1,2,3,4,5,6,7,8,9,10,11,12,13,14,15] [14]) bZ ?_
      iterate 14 (refine Bj ?_;(try simp only[Ao]))
      refine Bt λK hK=>?_;go_simp;refine aQ.m ?_;rintro e w6⟨rfl,aL⟩;have k6:=((A3.I Aa wr).af).tr aL;refine hK _ _ (a7.o w6 k6) (λhS=>?_);have b3:=A1 k6;have b8:=a7.o w6 k6
      (try simp only[Ao])
      (refine Bj ?_;(try simp only[Ao]))
      refine Bo ?_;simp only[BO,BN];obtain⟨y1,y2,y3,x1,x2,x3⟩:=b8;have bX:Hid (w6.ownsRow 0 90 3 (AJ g n cap) n (Ba ((l.take a++m.take q)++(H,I,E):: (W,d,Y):: (m.drop (q+1)++l.drop (i+1+1))))):=Ay aZ.o λg' hg=>b3.o.Al g' (Az aZ.o hg) (λh=>h);have fz:∀o,w6.frozen? (Ab g o)=false:=λo=>G1 bX.o rfl o;go_wp2;refine Ln 15 (λw'=>A6 w' g (P*3) (A0 H)/\A6 w' g (P*3+1) (A0 I)/\A6 w' g (P*3+2) (A0 E)/\A6 w' g ((P+1)*3) (A0 W)/\A6 w' g ((P+1)*3+1) (A0 d)/\A6 w' g ((P+1)*3+2) (A0 Y)) 16
       [(0,1),(1,1),(5,1),(6,1),(7,1),(8,1),(9,1),(10,2),(11,2),(12,2),(13,1),(14,1),(2,2),(3,2),(4,2),(15,0)] ⟨y1,y2,y3,x1,x2,x3⟩ ?_
      iterate 7 (refine HJ ?_;(try simp only[Ao]))
      iterate 3 (refine HK ?_;(try simp only[Ao]))
      iterate 2 (refine HJ ?_;(try simp only[Ao]))
      iterate 3 (refine HK ?_;(try simp only[Ao]))
      refine Lp λK hK=>?_;go_simp;refine hK _ _ ?_
      (try simp only[Ao])
      refine Lo ?_;simp only[BO,BN];have e1:((l.take a++m.take q)++(H,I,E):: (W,d,Y):: (m.drop (q+1)++l.drop (i+1+1))).length=((l.take a++m.take q)++(H,I,E):: (W,d,Y):: (m.drop (q+1)++l.drop (i+1+1))).length:=rfl;have aP:=AY.br bX.o (P+1) (by have:=O.o;rw[AZ,O.o];simp) (H,I,E);have bP:=AY.br aP P (by have:=O.o;rw[IZ,AZ,O.o];simp) (W,d,Y);have a1:=Wx (l.take a++m.take q) (m.drop (q+1)++l.drop (i+1+1)) (W,d,Y) (H,I,E);rw[O.o]at a1;rw[a1]at bP;have aI:∀hh,(((l.take a++m.take q)++(H,I,E):: (W,d,Y):: (m.drop (q+1)++l.drop (i+1+1))).set (P+1) (H,I,E))[P]'hh=(H,I,E):=λhh=>by
       rw[A28 (by omega)];rw[Gf (by rw[O.o];exact Au _)];simp[O.o]
      obtain⟨p1,p2,p3⟩:=H4 _ P (show P<(((l.take a++m.take q)++(H,I,E):: (W,d,Y):: (m.drop (q+1)++l.drop (i+1+1))).set (P+1) (H,I,E)).length by rw[IZ,AZ,O.o];simp);rw[aI]at p1 p2 p3;have z1:=BF aP rfl p1;have z2:=BF aP rfl p2;have z3:=BF aP rfl p3;dsimp only at aP bP z1 z2 z3;have bE:=A1 bP;have bV:∀o,((((w6.setCell (Ab g ((P+1)*3)) (A0 H)).setCell (Ab g ((P+1)*3+1)) (A0 I)).setCell (Ab g ((P+1)*3+2)) (A0 E))).drew.frozen? (Ab g o)=false:=λo=>G1 aP rfl o;have b4:Hid (A3 (One g) wr (((((((w6.setCell (Ab g ((P+1)*3)) (A0 H)).setCell (Ab g ((P+1)*3+1)) (A0 I)).setCell (Ab g ((P+1)*3+2)) (A0 E)).drew.setCell (Ab g (P*3)) (A0 W)).setCell (Ab g (P*3+1)) (A0 d)).setCell (Ab g (P*3+2)) (A0 Y)))):=
       ((((((b3.o.ad (S':=One g) λ_ _ h=>h.elim).aq (b:=g) rfl _ _).aq (b:=g) rfl _ _).aq (b:=g) rfl _ _).af.aq (b:=g) rfl _ _).aq (b:=g) rfl _ _).aq (b:=g) rfl _ _
      have a4:Hid ((((((((w6.setCell (Ab g ((P+1)*3)) (A0 H)).setCell (Ab g ((P+1)*3+1)) (A0 I)).setCell (Ab g ((P+1)*3+2)) (A0 E)).drew.setCell (Ab g (P*3)) (A0 W)).setCell (Ab g (P*3+1)) (A0 d)).setCell (Ab g (P*3+2)) (A0 Y))).ownsRow 0 90 3 (AJ g n cap) n (Ba ((l.take a++m.take q)++(W,d,Y):: (H,I,E):: (m.drop (q+1)++l.drop (i+1+1))))):=Ay bE.o λ_ _=>rfl;have bD:((((w6.setCell (Ab g ((P+1)*3)) (A0 H)).setCell (Ab g ((P+1)*3+1)) (A0 I)).setCell (Ab g ((P+1)*3+2)) (A0 E))).drew.cell? (Ab g (P*3))=some (A0 H):=z1;have bN:((((w6.setCell (Ab g ((P+1)*3)) (A0 H)).setCell (Ab g ((P+1)*3+1)) (A0 I)).setCell (Ab g ((P+1)*3+2)) (A0 E))).drew.cell? (Ab g (P*3+1))=some (A0 I):=z2;have a9:((((w6.setCell (Ab g ((P+1)*3)) (A0 H)).setCell (Ab g ((P+1)*3+1)) (A0 I)).setCell (Ab g ((P+1)*3+2)) (A0 E))).drew.cell? (Ab g (P*3+2))=some (A0 E):=z3;generalize (((w6.setCell (Ab g ((P+1)*3)) (A0 H)).setCell (Ab g ((P+1)*3+1)) (A0 I)).setCell (Ab g ((P+1)*3+2)) (A0 E)).drew=w7 at bV b4 a4 bD bN a9 ⊢;go_wp2;go_roundw
      case rel=>
       refine⟨P,q,rfl,EJ bO.o,cE.o.symm,EJ aW.o,?_,?_,?_⟩
       ·(have e2:(l.take a++m.take q)++(W,d,Y):: (m.drop q++l.drop (i+1+1))=(l.take a++m.take q)++(W,d,Y):: (H,I,E):: (m.drop (q+1)++l.drop (i+1+1)):=by rw[a3.o];rfl);rw[e2];exact Ay a4.o λ_ _=>rfl
       ·intro z hz;rw[a3.o]at hz;rcases BP.1 hz with rfl|hz
        ·exact a5.o.1 aR
        ·exact b5.o z hz
       ·exact b0.o.tr b4.o
      case measure=>simp[intOf]
     ·(have bS:0<=cc:=by omega);have aM:Hid (∀L,A3 Aa wr L->∃m',L.ownsRow 0 90 3 (AJ g n cap) n (Ba (l.take a++m'++l.drop (i+1+1)))/\m'.length=i+1+1-a/\Bf (AA len) ((l.take (i+1+1)).drop a) m'/\B1 (AA len) m'/\A3 (One g) w L):=λL hx=>
       aD.o L (q+1) aW.o b5.o (λz hz=>by
        rw[aK.o z hz];cases hk:AA len (W,d,Y) (H,I,E) with
        | false=>rfl
        | true=>exact absurd (a5.o.2 hk) aR) (Ay b1.o λg' hg=>hx.Al g' (Az b1.o hg) (λh=>h)) (b0.o.Av hx λ_ h _=>h.elim)
      go_wp2;refine C3 (λw'=>A6 w' g (P*3) (A0 H)/\A6 w' g (P*3+1) (A0 I)/\A6 w' g (P*3+2) (A0 E)/\A6 w' g ((P+1)*3) (A0 W)/\A6 w' g ((P+1)*3+1) (A0 d)/\A6 w' g ((P+1)*3+2) (A0 Y)) 16
       (Bz [0,1,2,3,4,5,6,7,8,9,10,11,12,13,14,15] [14]) bZ ?_
      iterate 14 (refine Bj ?_;(try simp only[Ao]))
      refine Bt λK hK=>?_;go_simp;refine aQ.m ?_;rintro e w6⟨rfl,aL⟩;have k6:=((A3.I Aa wr).af).tr aL;refine hK _ _ (a7.o w6 k6) (λhS=>?_);have aV:=A1 (aM.o w6 k6)
      (try simp only[Ao])
      (refine Bj ?_;(try simp only[Ao]))
      refine Bo ?_;simp only[BO,BN];go_wp2;go_roundw
      case rel=>exact⟨i+1,by go_num,by omega,by omega,aV.o⟩
      case measure=>simp[intOf];omega
  ·(have bB:i+1=b:=by omega);subst bB;have cB:=A1 hI.o;(have bF:¬((i:Int)+1<((i+1:Nat):Int)):=by omega);go_wp2;go_end0;obtain⟨m',q1,q2,q3,q4,q5⟩:=cB.o;refine⟨rfl,m',?_,q2,q3,q4,q5⟩;unfold AY;rw[Cc]at q1
   try rw[Cc]
   (have e:(l.take a++(m'++l.drop (i+1))).length=n:=by have:=a8.o;simp;omega);rw[e];exact q1
def Fj(N:Nat):Prop:=∀(w:World) (v:Value) (wb:Nat) (len:Int) (l:List Pu),l.length<=N->AY w v l->(∀p∈l,AW p.2.1)->(1<=len/\len<=4611686018427387904)->w.cell? ⟨wb,0,none⟩=some (.int .i64 len)->(∀g,v.ownBlock=some g->wb≠g)->
 Calls Tryz.prog 102 #[v,.func (Fn.func 103) #[] #[.pointer (some ⟨wb,0,none⟩)]] w λe w'=>e=.returned (.tuple #[])/\AY w' v (DZ (AA len) l)/\A3 (λk=>v.ownBlock=some k) w w'
def Qt{α:Type}{lt:α->α->Bool}(l:List α):(DZ lt l).length=l.length:=by
 have ins:∀(x:α) (s:List α),(ET lt x s).length=s.length+1:=by
  intro x s
  induction s with
  | nil=>rfl
  | cons y r ih=>unfold ET;split<;>simp[ih]
 have key:∀(l s:List α),(l.foldl (λs x=>ET lt x s) s).length=s.length+l.length:=by
  intro l
  induction l with
  | nil=>intro s;simp
  | cons x r ih=>intro s;rw[MG,ih,ins];simp;omega
 have:=key l [];simpa[DZ] using this
def T8(w:World)(v c:Value)(a b:Nat)(ha:b<=a+1)(hb:a<=4294967296):
 Ah 193 #[v,A0 a,A0 b,c] w (Am (.tuple #[]) λw'=>w=w'):=by
 have eia:wrap64 ((a:Int)+1)=(a:Int)+1:=by unfold wrap64;omega
 go_enter func193,ntmps193
 go_wp2;refine HH 1 ?_;rw[EO];go_wp2;go_end0;exact⟨rfl,rfl⟩
def Wk(w:World)(v:Value)(wb:Nat)(len:Int)(l:List Pu)(hn:l.length<=19)(h:AY w v l)(L:∀p∈l,AW p.2.1)(hl:1<=len/\len<=4611686018427387904)(hw:A6 w wb 0 (A0 len))(d:∀g,v.ownBlock=some g->wb≠g):
 Ah 146 #[v,A0 l.length,.func (Fn.func 103) #[] #[A5 wb]] w (Am (.tuple #[]) λw'=>AY w' v (DZ (AA len) l)/\A3 (λk=>v.ownBlock=some k) w w'):=by
 have z:Hid (Ah 193 #[v,A0 ((0:Nat):Int),A0 l.length,.func (Fn.func 103) #[] #[A5 wb]] w (Am (.tuple #[]) λw'=>AY w' v (DZ (AA len) l)/\A3 (λk=>v.oB k) w w')):=by
  by_cases E:l.length=0
  ·have e:l=[]:=GK.1 E;subst e;refine(T8 w v _ 0 0 (by omega) (by omega)).mono ?_;rintro e w'⟨rfl,rfl⟩;exact⟨rfl,h,A3.I _ _⟩
  ·obtain⟨av,cap,rfl,h1,h2,h3,-,-⟩:=B9 h;obtain⟨g,rfl⟩:=h3 (by omega);refine(T9 w g cap wb len l 0 l.length (by omega) (Au _) h L hl hw (d g rfl) (by omega)).mono ?_;rintro e w'⟨rfl,m,O,q2,Y,q4,q5⟩;have e1:m=DZ (AA len) l:=(Fb len).et q4 (by simpa using Y);refine⟨rfl,?_,q5.ad λk _ H=>by have e:k=g:=H;subst e;rfl⟩;rw[<-e1];have:=O;simp only[EL,EY,Gg,Gh]at this;exact this
 rw[show ((0:Nat):Int)=0 from rfl]at z;have h20:¬((20:Int)<=(l.length:Int)):=by omega
 go_enter func146,ntmps146
 go_wp2;refine HH 1 ?_;rw[EO];go_wp2_with (fail);refine z.m ?_;rintro e w2⟨rfl,hp,W⟩;have I:=A1 hp;have aA:=A1 W;go_wp2;refine HH 1 ?_;rw[EO];go_wp2;go_end0;exact⟨rfl,I.o,aA.o⟩
end
section
open Go.RowKit
structure DD (w:World) (B0:Nat) (v:Value) (vs:List Value) (ws:List (List Pu)):Prop where
 Bu:w.ownsRow 0 72 1 v ws.length vs
 ls:∀(k:Nat) (h1:k<vs.length) (h2:k<ws.length),AY w (vs[k]'h1) (ws[k]'h2)
 lo:∀g,v.ownBlock=some g->B0<=g
 li:∀x∈vs,∀g,x.ownBlock=some g->B0<=g
 IS:vs.Pairwise λx y=>∀g,x.ownBlock=some g->¬y.ownBlock=some g
section
variable {w w':World} {B0:Nat} {v:Value} {vs:List Value} {ws:List (List Pu)}
def DD.B8(h:DD w B0 v vs ws):vs.length=ws.length:=by have:=h.Bu.1;omega
def DD.b9(w:World)(B0:Nat):DD w B0 (.slice none 0 0) [] []:=
 ⟨CL _ _ _ _,λk d=>by simp at d,λg h=>by simp[Value.ownBlock]at h,λx z=>by simp at z,List.Pairwise.nil⟩
def DD.ak{S:Nat->Prop}(h:DD w B0 v vs ws)(L:A3 S w w')(I:∀k,S k->k<B0):DD w' B0 v vs ws:=
 ⟨Ay h.Bu λg d=>L.Al g (Az h.Bu d) λE=>by have:=I g E;have:=h.lo g d;omega,
  λk z H=>Ay (h.ls k z H) λg d=>L.Al g (Az (h.ls k z H) d) λE=>by have:=I g E;have:=h.li _ (BV z) g d;omega,h.lo,h.li,h.IS⟩
def DD.aS(h:DD w B0 v vs ws)(d:A3 Aa w w'):DD w' B0 v vs ws:=h.ak d λ_ h=>h.elim
def DD.lt(h:DD w B0 v vs ws){x:Value}(E:x∈vs){g:Nat}(z:x.ownBlock=some g):g<w.heap.size:=by
 obtain⟨k,d,rfl⟩:=DQ E;exact Az (h.ls k d (by have:=h.B8;omega)) z
def DD.ne(h:DD w B0 v vs ws){x:Value}(E:x∈vs){g:Nat}(z:x.ownBlock=some g):¬v.ownBlock=some g:=by
 obtain⟨k,d,rfl⟩:=DQ E;exact I9 (h.ls k d (by have:=h.B8;omega)) h.Bu (by decide) z
def DD.cg{L:Value}(h:DD w B0 v vs ws)(I:App w w' 72 1 v L (ws.length+1) (vs++[.slice none 0 0]))(hB:B0<=w.heap.size):DD w' B0 L (vs++[.slice none 0 0]) (ws++[[]]):=by
 have hc:=I.An (S:=λk=>v.ownBlock=some k) λ_ h=>h;have hl:=h.B8;refine⟨?_,λk z O=>?_,λg d=>?_,λx E g d=>?_,?_⟩
 ·have e:(ws++[[]]).length=ws.length+1:=by simp
  rw[e];exact I.AF
 ·by_cases H:k<ws.length
  ·rw[EZ (show k<vs.length by omega),EZ H];exact Ay (h.ls k (by omega) H) λg d=>hc.Al g (Az (h.ls k (by omega) H) d) (h.ne (BV (by omega)) d)
  ·have e1:(vs++[Value.slice none 0 0])[k]'z=.slice none 0 0:=by
    (have:k=vs.length:=by simp at z;omega);subst this;simp
   have Y:(ws++[[]])[k]'O=[]:=by
    (have:k=ws.length:=by simp at O;omega);subst this;simp
   rw[e1,Y];exact CL _ _ _ _
 ·rcases I.Cy with z|z
  ·rw[z]at d;exact h.lo g d
  ·rw[z]at d;cases d;exact hB
 ·rcases AV.1 E with E|E
  ·exact h.li x E g d
  ·simp at E;subst E;simp[Value.ownBlock]at d
 ·exact Eg.2 ⟨h.IS,MA _ _,λx _ y W g _ d=>by simp at W;subst W;simp[Value.ownBlock]at d⟩
def DD.fa{d:List (List Pu)}{z:List Value}{lv:Value}{l l':List Pu}(h:DD w B0 v (z++[lv]) (d++[l]))(hc:A3 (λk=>lv.ownBlock=some k) w w')(hl:AY w' lv l'):DD w' B0 v (z++[lv]) (d++[l']):=by
 have H:=h.B8;have hln:z.length=d.length:=by simpa using H
 refine⟨?_,λk h1 Y=>?_,h.lo,h.li,h.IS⟩
 ·have e:(d++[l']).length=(d++[l]).length:=by simp
  rw[e];exact Ay h.Bu λg E=>hc.Al g (Az h.Bu E) λW=>h.ne (x:=lv) (by simp) W E
 ·by_cases hk:k<d.length
  ·(have L:k<(d++[l]).length:=by simp;omega);have O:=h.ls k h1 L;rw[EZ hk]at O ⊢;refine Ay O λg E=>hc.Al g (Az O E) λW=>?_;rw[EZ (show k<z.length by omega)]at E;exact(Eg.1 h.IS).2.2 _ (BV (show k<z.length by omega)) lv (by simp) g E W
  ·(have I:k=d.length:=by simp at Y;omega);(have e2:(d++[l'])[k]'Y=l':=by subst I;simp);have e1:(z++[lv])[k]'h1=lv:=by
    (have:k=z.length:=by omega);subst this;simp
   rw[e1,e2];exact hl
def DD.eX{L n0 I:Nat}{z:List (List Pu)}{d:List Value}{lv lv':Value}{l l':List Pu}(h:DD w B0 (.slice (some ⟨L,0,none⟩) n0 I) (d++[lv]) (z++[l]))(hc:A3 (λk=>lv.ownBlock=some k) w w')(hl:AY w' lv' l')(ho:∀g,lv'.ownBlock=some g->lv.ownBlock=some g\/w.heap.size<=g)(hB:B0<=w.heap.size):
 DD (w'.setCell ⟨L,d.length,none⟩ lv') B0 (.slice (some ⟨L,0,none⟩) n0 I) (d++[lv']) (z++[l']):=by
 have aA:=h.B8;have hln:d.length=z.length:=by simpa using aA
 have aI:n0=(z++[l]).length:=by
  obtain⟨a',c',e,_⟩:=B9 h.Bu;cases e;rfl
 subst aI;have hg0:=Az h.Bu rfl;have O:=Ay h.Bu λg E=>hc.Al g (Az h.Bu E) λH=>h.ne (x:=lv) (by simp) H E;have aJ:∀g,lv'.ownBlock=some g->g≠L:=λg E e=>by
  subst e;exact I9 hl O (by decide) E rfl
 have kz:A3 (One L) w' (w'.setCell ⟨L,d.length,none⟩ lv'):=(A3.I (One L) w').aq (b:=L) rfl _ _;have Y:=(O.stored d.length lv').1;have aB:(d++[lv]).set d.length lv'=d++[lv']:=by rw[JQ _ _ (Au _)];simp
 rw[aB]at Y;refine⟨?_,λk W h2=>?_,h.lo,λx H g E=>?_,?_⟩
 ·have e:(z++[l']).length=(z++[l]).length:=by simp
  rw[e];exact Y
 ·by_cases hk:k<z.length
  ·(have aH:k<(d++[lv]).length:=by simp;omega);(have aG:k<(z++[l]).length:=by simp;omega);have h3:=h.ls k aH aG;rw[EZ hk,EZ (show k<d.length by omega)]at h3 ⊢;have aD:d[k]'(by omega)∈d++[lv]:=AV.2 (.inl (BV (by omega)));refine Ay h3 λg E=>?_;have b1:=hc.Al g (Az h3 E) λH=>(Eg.1 h.IS).2.2 _ (BV (show k<d.length by omega)) lv (by simp) g E H
   have b2:=kz.Al g (Bm (Az h3 E) hc.Ak) λe=>h.ne aD E (by have e':=e;subst e';rfl);rw[b2,b1]
  ·(have aE:k=z.length:=by simp at h2;omega);(have e2:(z++[l'])[k]'h2=l':=by subst aE;simp);have e1:(d++[lv'])[k]'W=lv':=by
    (have:k=d.length:=by omega);subst this;simp
   rw[e1,e2];exact Ay hl λg E=>kz.Al g (Az hl E) (aJ g E)
 ·rcases AV.1 H with H|H
  ·exact h.li x (AV.2 (.inl H)) g E
  ·simp at H;subst H;rcases ho g E with W|W
   ·exact h.li lv (by simp) g W
   ·omega
 ·obtain⟨d1,d2,d3⟩:=Eg.1 h.IS;refine Eg.2 ⟨d1,MA _ _,λx H y hy g E aF=>?_⟩;simp at hy;subst hy;rcases ho g aF with W|W
  ·exact d3 x H lv (by simp) g E W
  ·have:=h.lt (AV.2 (.inl H)) E;omega
end
def Vs(len:Int)(l:List Pu)(i:Nat)(z:i<l.length)(d:Bool)(h:Pu)(ws:List (List Pu)):
 E9 len (l.drop i) d h ws=E9 len (l.drop (i+1)) false (l[i]'z) (Er len ws d h (l[i]'z)):=by
 rw[Fm z];rfl
def GA(d:List (List Pu))(last:List Pu)(p:Pu):List (List Pu):=
 if last≠[]/\Ck p (last.getLastD (0,0,0))=0 then d++[last.dropLast++[p]] else d++[last++[p]]
def PT(len:Int)(ws:List (List Pu))(d:Bool)(z p:Pu)(h:d=true\/BA p.2.1 len≠BA z.2.1 len):Er len ws d z p=GA ws [] p:=by
 unfold Er GA;dsimp only
 rw[Af h];simp
def Vu(len:Int)(d:List (List Pu))(l:List Pu)(z p:Pu)(h:BA p.2.1 len=BA z.2.1 len):Er len (d++[l]) false z p=GA d l p:=by
 have e:(if (false=true\/BA p.2.1 len≠BA z.2.1 len) then (d++[l])++[[]] else d++[l])=d++[l]:=Ac (by simp[h]);have E:(d++[l]).getLastD []=l:=by rw[JT];simp
 have H:(d++[l]).dropLast=d:=by simp
 unfold Er GA;simp only[e,E,H]
end
end Go.Proofs.YtodcnkbblippnabGreatDoor
