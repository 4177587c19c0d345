/- Part 2 of a proof: walks of the program. -/
import Derived.Test.YtodcnkbblippnaaGreatDoorPart01
namespace Go.Proofs.YtodcnkbblippnaaGreatDoor
set_option maxRecDepth 100000
set_option maxHeartbeats 32000000
set_option linter.defProp false
open Go.Proofs.Tryz
section
open Go.RowKit
attribute [local go_sem ↓] Go.wp_at_zero Go.wp_at_succ
def Tryz.df:(Tryz.prog.info? 125).map (λi=>(i.zero,i.size,i.bytes))=some (some (.agg #[.string ByteArray.empty,.pointer none]),2,24):=by kernel_rfl
def Tryz.eu:(Tryz.prog.info? 120).map (λi=>(i.zero,i.size,i.bytes))=some (some (.agg #[.slice none 0 0]),1,24):=by kernel_rfl
def Tryz.infoByte:(Tryz.prog.info? 5).map (λi=>(i.zero,i.size,i.bytes))=some (some (.int .u8 0),1,1):=by kernel_rfl
def Tryz.fj:(Tryz.prog.info? 9).map (λi=>(i.zero,i.size,i.bytes))=some (some (.string ByteArray.empty),1,16):=by kernel_rfl
def GO(room:Int):DN:=⟨room,0,0,0,0,0,0,false⟩
def A0x(room:Int)(w:gC):
 Ag 21 #[A0 room] w (Aj (A5 w.heap.size) λw'=>AM w' w.heap.size (.slice none 0 0) (.slice none 0 0) (.slice none 0 0) (GO room)/\w'.heap.size=w.heap.size+1/\A4 Aa w w'):=by
 go_enter func21,ntmps21
 go_wp2;go_ret;exact⟨rfl,Bn w _,iE,(A4.C _ w).ai _⟩
def A2G(w:gC)(b:Nat)(E z d:gD)(n:DN)(c:Int)(h:AM w b E z d n):
 Ag 35 #[A5 b,A0 c] w (Aj (.tuple #[]) λw'=>AM w' b E z d {n with CZ:=if c>0 then wrap64 (n.Bc+c) else 0}/\A4 (One b) w w'):=by
 have h4:=h.c4;have h5:=h.c5;have hf:=h.fz;have O:=A1 (h.s5 0);have X:=A1 ((h.s5 0).s5 (wrap64 (n.Bc+c)));have I:=A1 ((A4.C (One b) w).an rfl 5 (A0 0));have L:=A1 (((A4.C (One b) w).an rfl 5 (A0 0)).an rfl 5 (A0 (wrap64 (n.Bc+c))))
 go_enter func35,ntmps35
 go_wp2
 ·go_end0;exact⟨rfl,X.o,L.o⟩
 ·go_end0;exact⟨rfl,O.o,I.o⟩
def EU(n:DN)(c p:Int):DN:={n with E7:=if c>0 then wrap64 (n.Bc+c) else 0,BG:=if p<0 then wrap64 (-(wrap64 (p+1))) else p}
def A2h(w:gC)(b:Nat)(L I E:gD)(n:DN)(c p:Int)(h:AM w b L I E n):
 Ag 78 #[A5 b,A0 c,A0 p] w (Aj (.tuple #[]) λw'=>AM w' b L I E (EU n c p)/\A4 (One b) w w'):=by
 have h4:=h.c4;have h6:=h.c6;have h7:=h.c7;have hf:=h.fz;have Q:=A1 <| h
 go_enter func78,ntmps78
 go_wp2
 ·have z:0<c:=by assumption
  have d:p<0:=by assumption
  go_end0;have q:EU n c p = {n with E7:=wrap64 (n.Bc+c),BG:=wrap64 (-(wrap64 (p+1)))}:=by simp[EU,z,d]
  rw[q];exact⟨rfl,(((Q.o.s6 0).s6 _).s7 _).s7 _,((((A4.C (One b) w).an rfl 6 _).an rfl 6 _).an rfl 7 _).an rfl 7 _⟩
 ·have z:0<c:=by assumption
  have d:0<=p:=by assumption
  go_end0;have q:EU n c p = {n with E7:=wrap64 (n.Bc+c),BG:=p}:=by simp[EU,z];omega
  rw[q];exact⟨rfl,((Q.o.s6 0).s6 _).s7 _,(((A4.C (One b) w).an rfl 6 _).an rfl 6 _).an rfl 7 _⟩
 ·have z:c<=0:=by assumption
  have d:p<0:=by assumption
  go_end0;have q:EU n c p = {n with E7:=0,BG:=wrap64 (-(wrap64 (p+1)))}:=by simp[EU,d];omega
  rw[q];exact⟨rfl,((Q.o.s6 0).s7 _).s7 _,(((A4.C (One b) w).an rfl 6 _).an rfl 7 _).an rfl 7 _⟩
 ·have z:c<=0:=by assumption
  have d:0<=p:=by assumption
  go_end0;have q:EU n c p = {n with E7:=0,BG:=p}:=by simp[EU];omega
  rw[q];exact⟨rfl,(Q.o.s6 0).s7 _,((A4.C (One b) w).an rfl 6 _).an rfl 7 _⟩
def A2y(w:gC)(b:Nat)(E z d:gD)(n:DN)(h:AM w b E z d n):
 Ag 36 #[A5 b] w (Aj (.bool n.Bh) λw'=>w=w'):=by
 have h4:=h.br
 go_enter func36,ntmps36
 go_wp2;go_ret;exact⟨rfl,rfl⟩
def Zi(w:gC)(b:Nat)(E z d:gD)(n:DN)(h:AM w b E z d n):
 Ag 50 #[A5 b] w (Aj (A0 n.Bm) λw'=>w=w'):=by
 have h4:=h.c8
 go_enter func50,ntmps50
 go_wp2;go_ret;exact⟨rfl,rfl⟩
def A15(w:gC)(b:Nat)(E z d:gD)(n:DN)(h:AM w b E z d n):
 Ag 88 #[A5 b] w (Aj (A0 n.fulls) λw'=>w=w'):=by
 have h4:=h.c9
 go_enter func88,ntmps88
 go_wp2;go_ret;exact⟨rfl,rfl⟩
def CH(D:DS)(F:Nat->FC)(d:gE):Int×Int:=match lookup D.A6 d with
 | some f=>(((F f).1.length:Nat),0)
 | none=>(0,8)
def Yn(w:gC)(b:Nat)(D:DS)(F:Nat->FC)(vd vs vc:gD)(E:gF gD)(aA:Nat->gD)(h:Ca w b D F vd vs vc E aA)(d:gE):
 Ag 81 #[A5 b,.string d] w (Aj (.tuple #[A0 (CH D F d).1,A0 (CH D F d).2]) λw'=>w=w'):=by
 have hc:=h.Ae.c0;obtain⟨a,cap,rfl,hc1,O,z⟩:=h.A6.BW;have X:=h.A6;unfold maxLen at O;rcases JH D.A6 d with⟨Y,I⟩|⟨k,L,Y,I,h3⟩
 ·have q:Hid (CH D F d=(0,8)):=by unfold Hid CH;rw[I]
  have hfi:Bb D.A6 d<0:=iC
  go_enter func81,ntmps81
  go_wp2_with (go_at_call 77;refine(DR _ _ _ _ X).k ?_;rintro w' rfl);go_ret2;rw[q.o];exact⟨rfl,rfl⟩
 ·have q:Hid (CH D F d=((((F (D.A6[k]'L).2).1.length:Nat):Int),0)):=by unfold Hid CH;rw[I]
  have⟨hfb,hbs⟩:=h.cx k L;have⟨a',cap',hv,_,_⟩:=hbs.BW;rw[hv]at hfb;have hb0:=hfb.c0;obtain⟨g,rfl,hn,hp⟩:=z k L;have aB:=A1 <| Y
  go_enter func81,ntmps81
  go_wp2_with (go_at_call 77;refine(DR _ _ _ _ X).k ?_;rintro w' rfl;rw[aB.o]);go_ret2;rw[q.o];exact⟨rfl,rfl⟩
def My(w:gC)(b:Nat)(vd vs I:gD)(n:DN)(m:Nat)(d:gF gD)(a:Option Addr)(len cap:Nat)(h:AM w b vd vs I n)(hc:w.ownsRow 0 120 1 I m d)(hm:m<1099511627776):
 Ag 122 #[A5 b,.slice a len cap] w (Aj (.tuple #[]) λw'=>
  ∃E,AM w' b (.slice a len cap) vs E n/\w'.ownsRow 0 120 1 E (m+1) (d++[.slice a len cap])/\A4 (λk=>k=b\/I.ownBlock=some k) w w'/\(∀g,E.ownBlock=some g->I.ownBlock=some g\/w.heap.size<=g)):=by
 have⟨i0,hi,hz0,hz1,hz2⟩:=DQ Tryz.eu;have h2:=h.c2;have h0:=h.c0;have hf:=h.fz;have L:I.ownBlock≠some b:=by
  intro e;have⟨c,hh⟩:=B9 hc e;exact BR hh h iF rfl
 have hs:=A1 (h.s0 (.slice a len cap));have Y:=A1 ((OW hc (a:=(A9 b 0)) L (.slice a len cap)).alloc (.cells #[.slice a len cap] 120));have X:=A1 (Src.bb (size:=1) underlying93 (w.sC b 0 (.slice a len cap)) #[.slice a len cap] 120 w.heap.size iE 1 1 rfl (by simp[Value.oneCell']));have aB:=A1 (((A4.C (λk=>k=b\/I.oB k) w).an (.inl rfl) 0 (.slice a len cap)).ai (.cells #[.slice a len cap] 120));have aA:=A1 <| L
 go_enter func122,ntmps122
 go_wp2_with (at_builtin;go_loud (refine CX rfl (.tmp 12) (.tmp 15) 93 93 rfl 120 i0 _ 1 24 underlying93 hi hz0 hz1 hz2 rfl iF I m d (by rfl) Y.o _ 1 _ (by rfl) X.o iC ?_);intro a2 cap2 w1 O;have z:=(hs.o.ai _).C7 O.C7 aA.o;have h21:=z.c2;have hf1:=z.fz);go_end0;refine⟨rfl,_,z.s2 _,?_,?_,?_⟩
 ·refine OW O.AB (a:=(A9 b 2)) ?_ _;intro e;have⟨c,hh⟩:=B9 O.AB e;exact BR hh z iF rfl
 ·exact(aB.o.C7 O.C7 (λk hk _=>.inr hk)).an (.inl rfl) 2 _
 ·intro g hg;rcases O.BX with h|h
  ·exact .inl (h.symm.trans hg)
  ·right;rw[hg]at h;cases h;simp
def upd(F:Nat->FC)(f0:Nat)(c:FC):Nat->FC:=λf=>if f=f0 then c else F f
def CY(D:DS)(d:gE)(f0:Nat):Int×DS:=
 if d=ByteArray.empty\/Bb D.A6 d≥0 then (8,D) else
  ((bg D.n).2.1,if (bg D.n).1 then {D with A6:=D.A6++[(d,f0)],As:=D.As++[D.A6++[(d,f0)]],n:=(bg D.n).2.2} else {D with n:=(bg D.n).2.2})
def isEmpty_iff(s:gE):s.toList.isEmpty=true↔s=ByteArray.empty:=by
 rw[List.isEmpty_iff,L4];exact⟨λh=>A4w (by rw[h];rfl),λh=>by rw[h];rfl⟩
def Ca.eU{w:gC}{b:Nat}{D:DS}{F:Nat->FC}{O E z:gD}{d:gF gD}{L:Nat->gD}(h:Ca w b D F O E z d L){f0:Nat}(hf:w.heap.size<=f0)(c:FC):
 Ca w b D (upd F f0 c) O E z d L:=
 ⟨h.Ae,h.A6,h.AG,h.Am,h.Dj,λf I=>by
  have:f≠f0:=by have:=h.lt (.BN I);omega
  simp only[upd,this,Cf];exact h.BN f I,h.GL⟩
def Cj.n{b:Nat}{D:DS}{n:DN}{L E z:gD}{d:gF gD}{I:Nat->gD}{k:Nat}(h:Cj b {D with n:=n} L E z d I k):Cj b D L E z d I k:=by
 cases h using Cj.bL with
 | Ae=>exact .Ae
 | dir e=>exact .A6 e
 | Ad e=>exact .AG e
 | Am e=>exact .Am e
 | Dj h e=>exact .Dj h e
 | BN h=>exact .BN h
 | byt h e=>exact .bD h e
def Ca.bT{w w':gC}{b:Nat}{D:DS}{F:Nat->FC}{L I O:gD}{d:gF gD}{X:Nat->gD}{Ft:Nat->Prop}(h:Ca w b D F L I O d X)(z:∀k,Cj b D L I O d X k->Ft k){n:DN}(hb:AM w' b L I O n)(Y:A4 (One b) w w'):DF w Ft w' b {D with n:=n} F:=
 DF.bB (Y.ah λk _ E=>by cases E;exact z b .Ae) (h.al hb Y) λk E=>.inl (z k E.n)
def App.Am{w w':gC}{e size n:Nat}{v z:gD}{xs:gF gD}(h:App w w' e size v z n xs){S:Nat->Prop}(E:∀k,v.ownBlock=some k->S k):A4 S w w':=
 (A4.C S w).C7 h.C7 λk d _=>E k d
def Dd.av{w w':gC}{f:Nat}{d:gD}{Ad:Int}(h:Dd w f d Ad)(z:w'.heap[f]?=w.heap[f]?):Dd w' f d Ad:=z.trans h
def A2J{w w1 L w3 w5:gC}{b:Nat}{D:DS}{F:Nat->FC}{vd vs vc aB aE:gD}{Y:gF gD}{aI:Nat->gD}{Ft:Nat->Prop}{n1:DN}{a3:Option Addr}{X:Nat}{nd:gE}(hr:Ca w b D F vd vs vc Y aI)(E:∀k,Cj b D vd vs vc Y aI k->Ft k)(aK:AM w1 b vd vs vc n1)(aF:A4 (One b) w w1)(hA:App w1 L 125 2 (.slice none 0 0) aB D.A6.length (C8 D.A6))(hB:App ((L.alloc (.cells #[.slice none 0 0,.int .i64 0] 129)).alloc (.cells #[.string nd,.pointer (some ⟨L.heap.size,0,none⟩)] 125)) w3 125 2 aB (.slice a3 (D.A6.length+1) X) (D.A6.length+1) (C8 D.A6++[.string nd,.pointer (some ⟨L.heap.size,0,none⟩)]))(aJ:AM w5 b (.slice a3 (D.A6.length+1) X) vs aE n1)(aL:w5.ownsRow 0 120 1 aE (D.As.length+1) (Y++[.slice a3 (D.A6.length+1) X]))(aA:A4 (λk=>k=b\/vc.ownBlock=some k) w3 w5)(hv:∀g,aE.ownBlock=some g->vc.ownBlock=some g\/w3.heap.size<=g):
 w.heap.size<=L.heap.size/\DF w Ft w5 b {D with A6:=D.A6++[(nd,L.heap.size)],As:=D.As++[D.A6++[(nd,L.heap.size)]],n:=n1} (upd F L.heap.size ([],0)):=by
 have aD:∀k,aB.ownBlock=some k->k=w1.heap.size:=by
  intro k O;rcases hA.BX with h|h
  ·rw[h]at O;cases O
  ·rw[h]at O;cases O;rfl
 have s1:=aF.Ak;have s2:=hA.C7.size;have s3:=hB.C7.size;simp only[NA]at s3;have c13:=
  (((hA.Am (S:=λ_=>False) (by intro k O;simp[Value.ownBlock]at O)).ai (.cells #[.slice none 0 0,.int .i64 0] 129)).ai (.cells #[.string nd,.pointer (some ⟨L.heap.size,0,none⟩)] 125)).C7 hB.C7
    (λk O hlt=>by have:=aD k O;omega)
 have r1:=hr.al aK aF;have r3:=r1.aK λk O=>c13.Al k (r1.lt O) (λh=>h);have f0:Dd ((L.alloc (.cells #[.slice none 0 0,.int .i64 0] 129)).alloc (.cells #[.string nd,.pointer (some ⟨L.heap.size,0,none⟩)] 125)) L.heap.size (.slice none 0 0) 0:=by
  unfold Dd;rw[CW _ _ _ iE];exact Bn _ _
 have f3:=f0.av (hB.C7.block _ (by simp;omega) (λe=>by have:=Aw hA.AB e.symm;omega))
 have f5:=f3.av (aA.Al _ iC (by
  rintro (e|e)
  ·exact BR f3 r3.Ae iF e
  ·have⟨c,hh⟩:=B9 r3.Am e
   exact BR f3 hh iF rfl))
 have e3:Df w3 (.slice a3 (D.A6.length+1) X) (D.A6++[(nd,L.heap.size)]):=by
  have:=hB.AB;unfold Df;rw[LP];simpa[C8] using this
 have e5:=Au e3 λg hg=>aA.Al g (Aw e3 hg) (by
  have⟨c,hh⟩:=B9 e3 hg;rintro (e|e)
  ·exact BR hh r3.Ae iF e
  ·have⟨c',hh'⟩:=B9 r3.Am e
   exact BR hh hh' iF rfl)
 have aG:∀f,D.Aq f->f≠L.heap.size:=λf I=>by have:=hr.lt (.BN I);omega
 have r5:=r3.cG (F':=upd F L.heap.size ([],0)) (VB':=λf=>if f=L.heap.size then .slice none 0 0 else aI f) (es:=D.A6++[(nd,L.heap.size)]) aJ aL e5 aA (λk O=>O)
  (λf I=>by have:=aG f I;simp[upd,this])
  (λf I=>by
   obtain⟨e,d,rfl⟩:=I;rcases AX.1 d with d|d
   ·exact .inl (.inl ⟨e,d,rfl⟩)
   ·simp at d;subst d;right;simp only[upd,Cs]
    exact⟨f5,Cq _ _ _ _,rfl⟩)
 refine⟨iC,DF.bB ?_ r5 ?_⟩
 ·have a:=(aF.ah (S':=Ft) λk _ O=>by cases O;exact E b .Ae).AF c13 (λx hx=>hx.elim);refine a.AF aA ?_;rintro x (e|e) _
  ·subst e;exact E x .Ae
  ·exact E x (.Am e)
 ·intro k O;cases O using Cj.bL with
  | Ae=>exact .inl (E b .Ae)
  | dir e=>
   rcases hB.BX with h|h
   ·rw[h]at e;have:=aD _ e;right;omega
   ·rw[h]at e;cases e;right;simp;omega
  | Ad e=>exact .inl (E k (.AG e))
  | Am e=>
   rcases hv k e with h|h
   ·exact .inl (E k (.Am h))
   ·right;omega
  | Dj hm e=>
   rcases AX.1 hm with hm|hm
   ·exact .inl (E k (.Dj hm e))
   ·simp at hm;subst hm;rcases hB.BX with h|h
    ·rw[h]at e;have:=aD _ e;right;omega
    ·rw[h]at e;cases e;right;simp;omega
  | BN I=>
   rcases I with⟨e,d,rfl⟩|I|⟨c,z,I⟩
   ·rcases AX.1 d with d|d
    ·exact .inl (E _ (.BN (.inl ⟨e,d,rfl⟩)))
    ·simp at d;subst d;right;simp;omega
   ·exact .inl (E _ (.BN (.inr (.inl I))))
   ·rcases AX.1 z with z|z
    ·exact .inl (E _ (.BN (.inr (.inr ⟨c,z,I⟩))))
    ·simp at z;subst z;obtain⟨e,d,rfl⟩:=I;rcases AX.1 d with d|d
     ·exact .inl (E _ (.BN (.inl ⟨e,d,rfl⟩)))
     ·simp at d;subst d;right;simp;omega
  | byt I e=>
   rename_i f;by_cases hx:f=L.heap.size
   ·simp[hx,Value.ownBlock]at e
   ·simp only[hx,Cf]at e;have aH:D.Aq f:=by
     rcases I with⟨en,d,rfl⟩|I|⟨c,z,I⟩
     ·rcases AX.1 d with d|d
      ·exact .inl ⟨en,d,rfl⟩
      ·simp at d;subst d;exact absurd rfl hx
     ·exact .inr (.inl I)
     ·rcases AX.1 z with z|z
      ·exact .inr (.inr ⟨c,z,I⟩)
      ·simp at z;subst z;obtain⟨en,d,rfl⟩:=I;rcases AX.1 d with d|d
       ·exact .inl ⟨en,d,rfl⟩
       ·simp at d;subst d;exact absurd rfl hx
    exact .inl (E _ (.bD aH e))
def A2I{I w2 O:gC}{b:Nat}{D:DS}{F:Nat->FC}{vd X L E:gD}{d:gF gD}{aB:Nat->gD}{n1:DN}{v3:gD}{n2:Nat}{xs:gF gD}{o1 o2:Obj}(aA:AM I b vd X L n1)(r1:Ca I b {D with n:=n1} F vd X L d aB)(hA:App I w2 125 2 (.slice none 0 0) E D.A6.length (C8 D.A6))(hB:App ((w2.alloc o1).alloc o2) O 125 2 E v3 n2 xs):
 AM O b vd X L n1/\O.ownsRow 0 120 1 L D.As.length d:=by
 have Y:∀k,E.ownBlock=some k->k=I.heap.size:=by
  intro k z;rcases hA.BX with h|h
  ·rw[h]at z;cases z
  ·rw[h]at z;cases z;rfl
 have c13:=
  (((hA.Am (S:=λ_=>False) (by intro k z;simp[Value.ownBlock]at z)).ai o1).ai o2).C7 hB.C7 (λk z hlt=>by have:=Y k z;omega)
 refine⟨aA.Am c13 (λh=>h),Au r1.Am λg hg=>c13.Al g (Aw r1.Am hg) (λh=>h)⟩
def A2K(w:gC)(b:Nat)(D:DS)(F:Nat->FC)(Ft:Nat->Prop)(h:Dk w b D F Ft)(d:gE)(hs:D.A6.length<1099511627776/\D.As.length<1099511627776):
 Ag 83 #[A5 b,.string d] w λe w'=>∃f0,w.heap.size<=f0/\e=.returned (A0 (CY D d f0).1)/\DF w Ft w' b (CY D d f0).2 (upd F f0 ([],0)):=by
 obtain⟨vd,vs,vc,Y,aO,hr,aB⟩:=h;obtain⟨hs1,aK⟩:=hs;have hq:∀f0,w.heap.size<=f0->(CY D d f0).2=D->DF w Ft w b (CY D d f0).2 (upd F f0 ([],0)):=λf0 hf e=>by
  rw[e];exact DF.bB (A4.C _ _) (hr.eU hf _) λk hk=>.inl (aB k hk)
 have aM:=A1 hq;have aI:=A1 hr;have c0:=hr.Ae.c0;have hd:=A1 hr.A6;have aF:=A1 hr.Ae;have⟨ad,cap,hvd,_⟩:=hr.A6.BW;clear hr hvd;by_cases hn:d.toList.isEmpty=true
 ·have q:Hid (CY D d w.heap.size=(8,D)):=by unfold Hid CY;rw[Ai (.inl ((isEmpty_iff _).1 hn))]
  go_enter func83,ntmps83
  go_wp2;go_ret;exact⟨_,An _,by rw[q.o];rfl,aM.o _ (An _) (by rw[q.o])⟩
 ·have hn':d.toList.isEmpty=false:=by simpa using hn
  have aG:Hid (d≠ByteArray.empty):=λe=>hn ((isEmpty_iff _).2 e);clear hn;by_cases hx:(0:Int)<=Bb D.A6 d
  ·(have q:Hid (CY D d w.heap.size=(8,D)):=by unfold Hid CY;rw[Ai (.inr hx)])
   go_enter func83,ntmps83
   go_wp2_with (go_at_call 77;refine(DR _ _ _ _ hd.o).k ?_;rintro w' rfl);go_ret;exact⟨_,An _,by rw[q.o];rfl,aM.o _ (An _) (by rw[q.o])⟩
  ·have q:Hid (∀f0,CY D d f0=((bg D.n).2.1,if (bg D.n).1 then {D with A6:=D.A6++[(d,f0)],As:=D.As++[D.A6++[(d,f0)]],n:=(bg D.n).2.2} else {D with n:=(bg D.n).2.2})):=by
    intro f0;unfold CY;rw[Af (by rintro (h|h);exact aG h;exact hx h)]
   have hx':Bb D.A6 d<0:=iC;by_cases aD:(bg D.n).1=true
   ·have⟨i0,hi,hz0,hz1,hz2⟩:=DQ Tryz.df
    have fin:Hid (∀(I E w3 w5:gC) (aA L:gD) (a3:Option Addr) (z:Nat),AM I b vd vs vc (bg D.n).2.2->A4 (One b) w I->App I E 125 2 (.slice none 0 0) aA D.A6.length (C8 D.A6)->
     App ((E.alloc (.cells #[.slice none 0 0,A0 0] 129)).alloc (.cells #[.string d,A5 E.heap.size] 125)) w3 125 2 aA (.slice a3 (D.A6.length+1) z) (D.A6.length+1) (C8 D.A6++[.string d,A5 E.heap.size])->
     AM w5 b (.slice a3 (D.A6.length+1) z) vs L (bg D.n).2.2->w5.ownsRow 0 120 1 L (D.As.length+1) (Y++[.slice a3 (D.A6.length+1) z])->A4 (λk=>k=b\/vc.ownBlock=some k) w3 w5->(∀g,L.ownBlock=some g->vc.ownBlock=some g\/w3.heap.size<=g)->
     w.heap.size<=E.heap.size/\DF w Ft w5 b {D with A6:=D.A6++[(d,E.heap.size)],As:=D.As++[D.A6++[(d,E.heap.size)]],n:=(bg D.n).2.2} (upd F E.heap.size ([],0))):=
     λI E w3 w5 aA L a3 z h1 h2 h3 h4 h5 h6 h7 h8=>A2J aI.o aB h1 h2 h3 h4 h5 h6 h7 h8
    have aL:Hid (∀I,AM I b vd vs vc (bg D.n).2.2->A4 (One b) w I->Ca I b {D with n:=(bg D.n).2.2} F vd vs vc Y aO):=λI h1 h2=>aI.o.al h1 h2
    go_enter func83,ntmps83
    go_wp2_with (first
     | (go_at_call 77;refine(DR _ _ _ _ hd.o).k ?_;rintro w' rfl)
     | (go_at_call 121;refine(Hv _ _ _ _ _ _ aF.o).k ?_;rintro I⟨O,X⟩;have c01:=O.c0;have aN:=A1 (aL.o I O X))
     | (at_builtin;refine CX rfl (.const (.slice none 0 0)) (.tmp 28) 92 92 rfl 125 i0 _ 2 24 Fp hi hz0 hz1 hz2 rfl iF (.slice none 0 0) 0 [] (by rfl) (Cq _ 0 125 2) vd D.A6.length (C8 D.A6) (by rfl) (Src.bN Fp aN.o.A6 (PU _)) iC ?_;intro a2 cap2 E hA;simp only[Hj,Fh]at hA;have aJ:=A1 ((hA.AB.alloc (.cells #[.slice none 0 0,A0 0] 129)).alloc (.cells #[.string d,A5 E.heap.size] 125));have aH:=A1 (Src.bb (size:=2) Fp (E.alloc (.cells #[.slice none 0 0,A0 0] 129)) #[.string d,A5 E.heap.size] 125 (E.heap.size+1) iE 1 1 rfl (by simp[Value.oneCell'])))
     | (at_builtin;refine CX rfl (.tmp 31) (.tmp 36) 92 92 rfl 125 i0 _ 2 24 Fp hi hz0 hz1 hz2 rfl iF _ D.A6.length (C8 D.A6) (by rfl) aJ.o _ 1 _ (by rfl) aH.o iC ?_;intro a3 z w3 hB;have hm:=A1 (A2I O aN.o hA hB))
     | (go_at_call 122;refine(My _ b vd vs vc _ _ _ _ _ _ hm.o.1 hm.o.2 aK).k ?_;rintro w5⟨L,k1,k2,k3,k4⟩))
    go_ret;have⟨g1,g2⟩:=fin.o I E w3 w5 _ L a3 z O X hA hB k1 k2 k3 k4;refine⟨E.heap.size,g1,by rw[q.o];rfl,?_⟩;rw[q.o,aD];exact g2
   ·(have aE:(bg D.n).1=false:=by simpa using aD)
    go_enter func83,ntmps83
    go_wp2_with (first|(go_at_call 77;refine(DR _ _ _ _ hd.o).k ?_;rintro w' rfl)|(go_at_call 121;refine(Hv _ _ _ _ _ _ aF.o).k ?_;rintro I⟨O,X⟩));go_ret;refine⟨w.heap.size,An _,by rw[q.o];rfl,?_⟩;rw[q.o,aE];exact(aI.o.eU (An _) _).bT aB O X
def Q2{w w1 w3 w5:gC}{b:Nat}{D:DS}{F:Nat->FC}{vd vs vc vl Y:gD}{I:gF gD}{aE:Nat->gD}{Ft:Nat->Prop}{n1:DN}{es:gF AP}(hr:Ca w b D F vd vs vc I aE)(d:∀k,Cj b D vd vs vc I aE k->Ft k)(aG:AM w1 b vd vs vc n1)(aB:A4 (One b) w w1)(c13:A4 (λ_=>False) w1 w3)(e3:Df w3 vl es)(aD:∀g,vl.ownBlock=some g->w1.heap.size<=g)(aA:∀f,Dr f es->D.Aq f)(aF:AM w5 b vl vs Y n1)(aH:w5.ownsRow 0 120 1 Y (D.As.length+1) (I++[vl]))(O:A4 (λk=>k=b\/vc.ownBlock=some k) w3 w5)(hv:∀g,Y.ownBlock=some g->vc.ownBlock=some g\/w3.heap.size<=g):
 DF w Ft w5 b {D with A6:=es,As:=D.As++[es],n:=n1} F:=by
 have s1:=aB.Ak;have s3:=c13.Ak;have r1:=hr.al aG aB;have r3:=r1.aK λk X=>c13.Al k (r1.lt X) (λh=>h)
 have e5:=Au e3 λg hg=>O.Al g (Aw e3 hg) (by
  have⟨c,hh⟩:=B9 e3 hg;rintro (e|e)
  ·exact BR hh r3.Ae iF e
  ·have⟨c',hh'⟩:=B9 r3.Am e
   exact BR hh hh' iF rfl)
 have r5:=r3.cG (F':=F) (VB':=aE) (es:=es) aF aH e5 O (λk X=>X) (λf E=>⟨rfl,rfl⟩) (λf E=>.inl (aA f E));have L:∀f,({D with A6:=es,As:=D.As++[es],n:=n1}:DS).Aq f->D.Aq f:=by
  rintro f (E|E|⟨c,z,E⟩)
  ·exact aA f E
  ·exact .inr (.inl E)
  ·rcases AX.1 z with z|z
   ·exact .inr (.inr ⟨c,z,E⟩)
   ·simp at z;subst z;exact aA f E
 refine DF.bB ?_ r5 ?_
 ·have a:=(aB.ah (S':=Ft) λk _ X=>by cases X;exact d b .Ae).AF c13 (λx hx=>hx.elim);refine a.AF O ?_;rintro x (e|e) _
  ·subst e;exact d x .Ae
  ·exact d x (.Am e)
 ·intro k X;cases X using Cj.bL with
  | Ae=>exact .inl (d b .Ae)
  | dir e=>right;have:=aD _ e;omega
  | Ad e=>exact .inl (d k (.AG e))
  | Am e=>
   rcases hv k e with h|h
   ·exact .inl (d k (.Am h))
   ·right;omega
  | Dj hm e=>
   rcases AX.1 hm with hm|hm
   ·exact .inl (d k (.Dj hm e))
   ·simp at hm;subst hm;right;have:=aD _ e;omega
  | BN E=>exact .inl (d _ (.BN (L _ E)))
  | byt E e=>exact .inl (d _ (.bD (L _ E) e))
def Q1{w I L:gC}{b:Nat}{D:DS}{F:Nat->FC}{X O E:gD}{d:gF gD}{aA:Nat->gD}{n1:DN}(hr:Ca w b D F X O E d aA)(z:AM I b X O E n1)(Y:A4 (One b) w I)(c13:A4 (λ_=>False) I L):
 AM L b X O E n1/\L.ownsRow 0 120 1 E D.As.length d:=by
 have r1:=hr.al z Y;exact⟨z.Am c13 (λh=>h),Au r1.Am λg hg=>c13.Al g (Aw r1.Am hg) (λh=>h)⟩
def App.bE{w w':gC}{e size n:Nat}{z:gD}{xs:gF gD}(h:App w w' e size (.slice none 0 0) z n xs):A4 Aa w w':=h.Am (λk d=>by simp[Value.ownBlock]at d)
def App.AW{w w':gC}{e size n:Nat}{z:gD}{xs:gF gD}(h:App w w' e size (.slice none 0 0) z n xs):∀g,z.ownBlock=some g->w.heap.size<=g:=by
 intro g d;rcases h.BX with h|h
 ·rw[h]at d;cases d
 ·rw[h]at d;cases d;exact An _
def App.cD{z w w':gC}{e size n:Nat}{v I:gD}{xs:gF gD}(h:App w w' e size v I n xs)(L:A4 (λ_=>False) z w)(O:∀g,v.ownBlock=some g->z.heap.size<=g):
 A4 (λ_=>False) z w'/\∀g,I.ownBlock=some g->z.heap.size<=g:=by
 refine⟨L.C7 h.C7 λk X hlt=>by have:=O k X;omega,λg d=>?_⟩;rcases h.BX with E|E
 ·rw[E]at d;exact O g d
 ·rw[E]at d;cases d;exact L.Ak
def DB(D:DS)(d:gE):Int×DS:=
 if Bb D.A6 d<0 then (8,D) else
  let es:=D.A6.take (Bb D.A6 d).toNat++D.A6.drop ((Bb D.A6 d).toNat+1)
  ((bg D.n).2.1,if (bg D.n).1 then {D with A6:=es,As:=D.As++[es],n:=(bg D.n).2.2} else {D with n:=(bg D.n).2.2})
def Ze(w:gC)(b:Nat)(D:DS)(F:Nat->FC)(Ft:Nat->Prop)(h:Dk w b D F Ft)(nd:gE)(hs:D.A6.length<1099511627776/\D.As.length<1099511627776):
 Ag 193 #[A5 b,.string nd] w (Aj (A0 (DB D nd).1) λw'=>DF w Ft w' b (DB D nd).2 F):=by
 obtain⟨vd,vs,vc,vals,VB,hr,aG⟩:=h;obtain⟨hs1,aL⟩:=hs;have X:=A1 hr;have aR:=A1 aG;have c0:=hr.Ae.c0;have hd:=A1 hr.A6;have aF:=A1 hr.Ae;rcases PR D.A6 nd with⟨h1,h2⟩|⟨k,hk,h1,h2⟩
 ·have q:Hid (DB D nd=(8,D)):=by unfold Hid DB;rw[Ai iC]
  have hfi:Bb D.A6 nd<0:=iC
  go_enter func193,ntmps193
  go_wp2_with (go_at_call 77;refine(DR _ _ _ _ hd.o).k ?_;rintro w' rfl);go_ret;rw[q.o];exact⟨rfl,DF.bB (A4.C _ _) X.o λk hk=>.inl (aG k hk)⟩
 ·have q:Hid (DB D nd=((bg D.n).2.1,if (bg D.n).1 then {D with A6:=D.A6.take k++D.A6.drop (k+1),As:=D.As++[D.A6.take k++D.A6.drop (k+1)],n:=(bg D.n).2.2} else {D with n:=(bg D.n).2.2})):=by
   unfold Hid DB;rw[Af iC,h1];rfl
  have aT:=A1 h1;by_cases aA:(bg D.n).1=true
  ·have⟨i0,hi,hz0,hz1,hz2⟩:=DQ Tryz.df;obtain⟨a,cap,rfl,z1,z2,aE⟩:=X.o.A6.BW;obtain⟨g,rfl,_,_⟩:=aE k hk;unfold maxLen at z2;have aM:Hid (∀z,AM z b (AA g D.A6.length cap) vs vc (bg D.n).2.2->A4 (One b) w z->z.ownsRow 0 125 2 (AA g k cap) k ((C8 D.A6).take (k*2))/\Df z (AA g D.A6.length cap) D.A6):=λz g1 g2=>
    ⟨OX (X.o.al g1 g2).A6 iC,(X.o.al g1 g2).A6⟩
   have aK:∀u∈(C8 D.A6).take (k*2),u.oneCell'=true:=λu hu=>PU _ u (HD hu);have Y:=A1 aK;have aP:Hid (∀f,Dr f (D.A6.take k++D.A6.drop (k+1))->D.Aq f):=by
    rintro f⟨e,he,rfl⟩;rcases AX.1 he with he|he
    ·exact .inl ⟨e,HD he,rfl⟩
    ·exact .inl ⟨e,KU he,rfl⟩
   (have aH:(D.A6.take k++D.A6.drop (k+1)).length=k+(D.A6.length-(k+1)):=by simp;omega);have a0:Hid (∀(E O:gC) (v2 v3:gD),App E O 125 2 v2 v3 (k+(D.A6.length-(k+1))) ((C8 D.A6).take (k*2)++C8 (D.A6.drop (k+1)))->Df O v3 (D.A6.take k++D.A6.drop (k+1))):=by
    intro E O v2 v3 h;unfold Df;rw[aH,LP,<-A2k];exact h.AB
   by_cases aS:cap=k+1
   ·subst aS;have hz:D.A6.length=k+1:=iC;have aV:Hid (∀z E:gC,Df z (AA g D.A6.length (k+1)) D.A6->A4 Aa z E->Src Tryz.prog 2 92 (AA g 0 0) 0 [] E):=
     λz E _ _=>Jg E Fp _ 0 _ [] rfl iE iE
    have aU:Hid (∀(E O:gC) (v2 v3:gD),App E O 125 2 v2 v3 (k+0) ((C8 D.A6).take (k*2)++[])->Df O v3 (D.A6.take k++D.A6.drop (k+1))):=by
     intro E O v2 v3 h;refine a0.o E O v2 v3 ?_;rw[IG iC,show D.A6.length-(k+1)=0 from by omega];exact h
    clear hz
    go_enter func193,ntmps193
    go_wp2_with (first
     | (go_at_call 77;refine(DR _ _ _ _ hd.o).k ?_;rintro w' rfl;rw[aT.o])
     | (go_at_call 121;refine(Hv _ _ _ _ _ _ aF.o).k ?_;rintro z⟨d,I⟩;have aW:=d.c0;have aI:=A1 (aM.o z d I))
     | (at_builtin;refine CX rfl (.const (.slice none 0 0)) (.tmp 28) 92 92 rfl 125 i0 _ 2 24 Fp hi hz0 hz1 hz2 rfl iF (.slice none 0 0) 0 [] (by rfl) (Cq _ 0 125 2) (AA g k (k+1)) k ((C8 D.A6).take (k*2)) (by rfl) (Src.bN Fp aI.o.1 Y.o) iC ?_;intro a2 aQ E L;simp only[Hj,Fh]at L;have aB:=A1 L.AB;have aZ:=(d.Am L.bE (λh=>h)).c0;have aD:=A1 (aV.o z E aI.o.2 L.bE))
     | (at_builtin;refine CX rfl (.tmp 31) (.tmp 38) 92 92 rfl 125 i0 _ 2 24 Fp hi hz0 hz1 hz2 rfl iF _ k ((C8 D.A6).take (k*2)) (by rfl) aB.o _ _ _ (by rfl) aD.o iC ?_;intro a3 aJ O hB;have c13:=A1 (hB.cD L.bE L.AW);have hm:=A1 (Q1 X.o d I c13.o.1))
     | (go_at_call 122;refine(My _ b _ vs vc _ _ _ _ _ _ hm.o.1 hm.o.2 aL).k ?_;rintro w5⟨aY,k1,k2,k3,k4⟩))
    go_ret;rw[q.o,aA];have e3:=aU.o _ _ _ _ hB;exact⟨rfl,Q2 X.o aR.o d I c13.o.1 e3 c13.o.2 aP.o k1 k2 k3 k4⟩
   ·have aV:Hid (∀z E:gC,Df z (AA g D.A6.length cap) D.A6->A4 Aa z E->Src Tryz.prog 2 92 (.slice (some (A9 g ((k+1)*2))) (D.A6.length-(k+1)) (cap-(k+1))) (D.A6.length-(k+1)) (C8 (D.A6.drop (k+1))) E):=by
     intro z E h1 aX;have h2:=Au h1 λx hx=>aX.Al x (Aw h1 hx) (λh=>h);refine Jg E Fp _ _ _ _ (by rw[A2l,Cz]) ?_ (PU _);intro j u hu;rw[<-A2m,IF]at hu;(have aO:((A9 g ((k+1)*2)):Addr).add j=(A9 g ((k+1)*2+j)):=by unfold Addr.add;split<;>simp_all);rw[aO];exact Bu h2 rfl hu
    go_enter func193,ntmps193
    go_wp2_with (first
     | (go_at_call 77;refine(DR _ _ _ _ hd.o).k ?_;rintro w' rfl;rw[aT.o])
     | (go_at_call 121;refine(Hv _ _ _ _ _ _ aF.o).k ?_;rintro z⟨d,I⟩;have aW:=d.c0;have aI:=A1 (aM.o z d I))
     | (at_builtin;refine CX rfl (.const (.slice none 0 0)) (.tmp 28) 92 92 rfl 125 i0 _ 2 24 Fp hi hz0 hz1 hz2 rfl iF (.slice none 0 0) 0 [] (by rfl) (Cq _ 0 125 2) (AA g k cap) k ((C8 D.A6).take (k*2)) (by rfl) (Src.bN Fp aI.o.1 Y.o) iC ?_;intro a2 aQ E L;simp only[Hj,Fh]at L;have aB:=A1 L.AB;have aZ:=(d.Am L.bE (λh=>h)).c0;have aD:=A1 (aV.o z E aI.o.2 L.bE))
     | (at_builtin;refine CX rfl (.tmp 31) (.tmp 38) 92 92 rfl 125 i0 _ 2 24 Fp hi hz0 hz1 hz2 rfl iF _ k ((C8 D.A6).take (k*2)) (by rfl) aB.o _ _ _ (by rfl) aD.o iC ?_;intro a3 aJ O hB;have c13:=A1 (hB.cD L.bE L.AW);have hm:=A1 (Q1 X.o d I c13.o.1))
     | (go_at_call 122;refine(My _ b _ vs vc _ _ _ _ _ _ hm.o.1 hm.o.2 aL).k ?_;rintro w5⟨aY,k1,k2,k3,k4⟩))
    go_ret;rw[q.o,aA];have e3:=a0.o _ _ _ _ hB;exact⟨rfl,Q2 X.o aR.o d I c13.o.1 e3 c13.o.2 aP.o k1 k2 k3 k4⟩
  ·(have aN:(bg D.n).1=false:=by simpa using aA)
   go_enter func193,ntmps193
   go_wp2_with (first|(go_at_call 77;refine(DR _ _ _ _ hd.o).k ?_;rintro w' rfl;rw[aT.o])|(go_at_call 121;refine(Hv _ _ _ _ _ _ aF.o).k ?_;rintro z⟨d,I⟩));go_ret;rw[q.o,aN];exact⟨rfl,X.o.bT aG d I⟩
def DA(es:gF AP)(i:Nat)(d:gE):Nat->gF AP
 | 0=>[]
 | k+1=>DA es i d k++(match es[k]? with
  | some e=>if k≠i/\e.1≠d then [e] else []
  | none=>[])
def ML(es:gF AP)(i:Nat)(d:gE)(k:Nat):∀e∈DA es i d k,e∈es:=by
 induction k with
 | zero=>intro e h;cases h
 | succ k ih=>
  intro e h;simp only[DA]at h;rcases AX.1 h with h|h
  ·exact ih e h
  ·split at h
   ·rename_i x z;split at h
    ·simp at h;subst h;exact Mf z
    ·cases h
   ·cases h
def OH(es:gF AP)(i:Nat)(d:gE)(k:Nat):(DA es i d k).length<=k:=by
 induction k with
 | zero=>simp[DA]
 | succ k ih=>
  simp only[DA,B3];split
  ·split<;>simp<;>omega
  ·simp;omega
def Sp(es:gF AP)(i:Nat)(d:gE)(k:Nat)(z:k<es.length)(h:k≠i/\(es[k]'z).1≠d):DA es i d (k+1)=DA es i d k++[es[k]'z]:=by
 simp only[DA,Dx z];rw[Ai h]
def OI(es:gF AP)(i:Nat)(d:gE)(k:Nat)(z:k<es.length)(h:¬(k≠i/\(es[k]'z).1≠d)):DA es i d (k+1)=DA es i d k:=by
 simp only[DA,Dx z];rw[Af h,Gk]
def Da(D:DS)(oe d:gE):Int×DS:=match lookup D.A6 oe with
 | none=>(8,D)
 | some f=>if d=ByteArray.empty then (8,D) else
  let es:=DA D.A6 (Bb D.A6 oe).toNat d D.A6.length++[(d,f)]
  ((bg D.n).2.1,if (bg D.n).1 then {D with A6:=es,As:=D.As++[es],n:=(bg D.n).2.2} else {D with n:=(bg D.n).2.2})
def Z5(w:gC)(b:Nat)(D:DS)(F:Nat->FC)(Ft:Nat->Prop)(h:Dk w b D F Ft)(oe d:gE)(hs:D.A6.length<1099511627776/\D.As.length<1099511627776):
 Ag 242 #[A5 b,.string oe,.string d] w λe w'=>e=.returned (A0 (Da D oe d).1)/\DF w Ft w' b (Da D oe d).2 F:=by
 obtain⟨vd,vs,vc,vals,VB,hr,aD⟩:=h;obtain⟨hs1,aS⟩:=hs;have aH:=A1 hr;have aV:=A1 aD;have c0:=hr.Ae.c0;have hd:=A1 hr.A6;have aP:=A1 hr.Ae;rcases JH D.A6 oe with⟨h1,h2⟩|⟨k,I,h1,h2,h3⟩
 ·have q:Hid (Da D oe d=(8,D)):=by unfold Hid Da;rw[h2]
  have hfi:Bb D.A6 oe<0:=iC
  go_enter func242,ntmps242
  go_wp2_with (go_at_call 77;refine(DR _ _ _ _ hd.o).k ?_;rintro w' rfl);go_ret;rw[q.o];exact⟨rfl,DF.bB (A4.C _ _) aH.o λk I=>.inl (aD k I)⟩
 ·have aR:=A1 h1;by_cases hn:d.toList.isEmpty=true
  ·(have q:Hid (Da D oe d=(8,D)):=by unfold Hid Da;rw[h2];exact Ai ((isEmpty_iff _).1 hn))
   go_enter func242,ntmps242
   go_wp2_with (go_at_call 77;refine(DR _ _ _ _ hd.o).k ?_;rintro w' rfl;rw[aR.o]);go_ret;rw[q.o];exact⟨rfl,DF.bB (A4.C _ _) aH.o λk I=>.inl (aD k I)⟩
  ·(have hn':d.toList.isEmpty=false:=by simpa using hn);have q:Hid (Da D oe d=((bg D.n).2.1,if (bg D.n).1 then {D with A6:=DA D.A6 k d D.A6.length++[(d,(D.A6[k]'I).2)],As:=D.As++[DA D.A6 k d D.A6.length++[(d,(D.A6[k]'I).2)]],n:=(bg D.n).2.2} else {D with n:=(bg D.n).2.2})):=by
    unfold Hid Da;rw[h2];dsimp only;rw[Af (λe=>hn ((isEmpty_iff _).2 e)),h1];rfl
   by_cases aJ:(bg D.n).1=true
   ·have⟨i0,hi,hz0,hz1,hz2⟩:=DQ Tryz.df;obtain⟨a,cap,rfl,z1,z2,aG⟩:=aH.o.A6.BW;obtain⟨g,rfl,_,_⟩:=aG k I;unfold maxLen at z2
    have cells:Hid (∀w1 wr,AM w1 b (.slice (some (A9 g 0)) D.A6.length cap) vs vc (bg D.n).2.2->A4 (One b) w w1->A4 Aa w1 wr->A7 wr b 0 (.slice (some (A9 g 0)) D.A6.length cap)/\
     ∀j (hj:j<D.A6.length),A7 wr g (j*2) (.string (D.A6[j]'hj).1)/\A7 wr g (j*2+1) (A5 ((D.A6[j]'hj).2))):=by
     intro w1 wr g1 g2 g3;have r1:=aH.o.al g1 g2;have r3:=r1.aK λx hx=>g3.Al x (r1.lt hx) (λh=>h);exact⟨r3.Ae.c0,λj hj=>⟨Bu r3.A6 rfl (PV _ j hj),Bu r3.A6 rfl (PT _ j hj)⟩⟩
    go_enter func242,ntmps242
    go_wp2_with (first
     | (go_at_call 77;refine(DR _ _ _ _ hd.o).k ?_;rintro w' rfl;rw[aR.o])
     | (go_at_call 121;refine(Hv _ _ _ _ _ _ aP.o).k ?_;rintro w1⟨E,O⟩;have c01:=E.c0))
    go_loopw [10,35] (λv i wr=>∃j:Nat,j<=D.A6.length/\i=A0 j/\A4 Aa w1 wr/\Df wr v (DA D.A6 k d j)/\Hid (∀x,v.ownBlock=some x->w1.heap.size<=x)) (λ_ i _=>D.A6.length-(intOf i).toNat)
    ·exact⟨0,Cb _,rfl,A4.C _ _,Cq _ _ _ _,λx hx=>by simp[Value.ownBlock]at hx⟩
    ·obtain⟨j,hj,rfl,L,aT,aA⟩:=hrel;have aB:=A1 aT;have⟨cb,ce⟩:=cells.o w1 wr E O L;by_cases z:j<D.A6.length
     ·have⟨cn,cp⟩:=ce j z;by_cases Y:j=k
      ·(have aK:((j:Int)!=(k:Int))=false:=by simp[Y]);have q2:=A1 (OI D.A6 k d j z (λh=>h.1 Y));have aO:=A1 Y;go_wp2;go_roundw
       ·exact⟨j+1,iC,by go_num,L,by rw[q2.o];exact aB.o,aA⟩
       ·simp[intOf];omega
      ·(have aK:((j:Int)!=(k:Int))=true:=by rw[bne_iff_ne];omega);have aO:=A1 Y;by_cases X:(D.A6[j]'z).1=d
       ·have aM:=(Qg _ _).2 X;have q2:=A1 (OI D.A6 k d j z (λh=>h.2 X));go_wp2;go_roundw
        ·exact⟨j+1,iC,by go_num,L,by rw[q2.o];exact aB.o,aA⟩
        ·simp[intOf];omega
       ·have aM:=(Vm _ _).2 X;have q2:=A1 (Sp D.A6 k d j z ⟨aO.o,X⟩);have aI:=A1 (aB.o.alloc (.cells #[.string (D.A6[j]'z).1,A5 ((D.A6[j]'z).2)] 125));have aF:=A1 (Src.bb (size:=2) Fp wr #[.string (D.A6[j]'z).1,A5 ((D.A6[j]'z).2)] 125 wr.heap.size rfl 1 1 rfl (by simp[Value.oneCell']));have aU:=OH D.A6 k d j;go_wp2_with (at_builtin;refine CX rfl (.tmp 53) (.tmp 61) 92 92 rfl 125 i0 _ 2 24 Fp hi hz0 hz1 hz2 rfl iF _ _ _ (by rfl) aI.o _ 1 _ (by rfl) aF.o iC ?_;intro a3 aE w3 hB;have c13:=A1 (hB.cD (L.ai _) aA.o));go_roundw
        ·refine⟨j+1,iC,by go_num,c13.o.1,?_,c13.o.2⟩;rw[q2.o];have:=hB.AB;unfold Df;rw[LP,B3];exact this
        ·simp[intOf];omega
     ·have⟨cn,cp⟩:=ce k I;have aQ:j=D.A6.length:=iC;have aN:=aB.o;rw[aQ]at aN;have aI:=A1 (aN.alloc (.cells #[.string d,A5 ((D.A6[k]'I).2)] 125));have aF:=A1 (Src.bb (size:=2) Fp wr #[.string d,A5 ((D.A6[k]'I).2)] 125 wr.heap.size rfl 1 1 rfl (by simp[Value.oneCell']));have aU:=OH D.A6 k d D.A6.length
      go_wp2_with (first
       | (at_builtin;refine CX rfl (.tmp 65) (.tmp 76) 92 92 rfl 125 i0 _ 2 24 Fp hi hz0 hz1 hz2 rfl iF _ _ _ (by rfl) aI.o _ 1 _ (by rfl) aF.o iC ?_;intro a3 aE w3 hB;have c13:=A1 (hB.cD (L.ai _) aA.o);have hm:=A1 (Q1 aH.o E O c13.o.1))
       | (go_at_call 122;refine(My _ b _ vs vc _ _ _ _ _ _ hm.o.1 hm.o.2 aS).k ?_;rintro w5⟨vc',k1,k2,k3,k4⟩))
      go_ret;rw[q.o,aJ];have e3:Df w3 (.slice a3 ((DA D.A6 k d D.A6.length).length+1) aE) (DA D.A6 k d D.A6.length++[(d,(D.A6[k]'I).2)]):=by
       have:=hB.AB;unfold Df;rw[LP,B3];exact this
      refine⟨rfl,Q2 aH.o aV.o E O c13.o.1 e3 c13.o.2 ?_ k1 k2 k3 k4⟩;rintro f⟨e,he,rfl⟩;rcases AX.1 he with he|he
      ·exact .inl ⟨e,ML _ _ _ _ e he,rfl⟩
      ·simp at he;subst he;exact .inl ⟨_,BT I,rfl⟩
   ·(have aL:(bg D.n).1=false:=by simpa using aJ)
    go_enter func242,ntmps242
    go_wp2_with (first|(go_at_call 77;refine(DR _ _ _ _ hd.o).k ?_;rintro w' rfl;rw[aR.o])|(go_at_call 121;refine(Hv _ _ _ _ _ _ aP.o).k ?_;rintro w1⟨E,O⟩));go_ret;rw[q.o,aL];exact⟨rfl,aH.o.bT aD E O⟩
def Ef(D:DS):Int×DS:=
 ((bg D.n).2.1,if (bg D.n).2.1=0 then {D with AG:=D.A6,As:=[],n:=(bg D.n).2.2} else {D with n:=(bg D.n).2.2})
def Ca.aI{w w':gC}{b:Nat}{D:DS}{F:Nat->FC}{L vs vc:gD}{I:gF gD}{aA:Nat->gD}(h:Ca w b D F L vs vc I aA)(hb:AM w' b L L (.slice none 0 0) D.n)(hc:A4 (One b) w w'):Ca w' b {D with AG:=D.A6,As:=[]} F L L (.slice none 0 0) [] aA:=by
 have E:∀(k:Nat) (c:Array gD) (e:Nat),w.heap[k]?=some (Obj.cells c e (0,0))->e≠95->w'.heap[k]?=w.heap[k]?:=λk c e E he=>
  hc.Al k (Bv E) (BR E h.Ae he)
 have Y:=Au h.A6 λg O=>by have⟨c,hh⟩:=B9 h.A6 O;exact E g _ _ hh iF
 have d:∀f,({D with AG:=D.A6,As:=[]}:DS).Aq f->D.Aq f:=by
  rintro f (z|z|⟨c,hcm,z⟩)
  ·exact .inl z
  ·exact .inl z
  ·cases hcm
 refine⟨hb,Y,Y,Cq _ _ _ _,λi hi=>by simp at hi,λf z=>?_,λf f' g z X=>h.GL f f' g (d f z) (d f' X)⟩;have⟨h1,h2⟩:=h.BN f (d f z);refine⟨?_,Au h2 λg O=>by have⟨c,hh⟩:=B9 h2 O;exact E g _ _ hh iF⟩;unfold Dd at h1 ⊢;rw[E f _ _ h1 iF];exact h1
def XD(w:gC)(b:Nat)(D:DS)(F:Nat->FC)(Ft:Nat->Prop)(h:Dk w b D F Ft):
 Ag 86 #[A5 b] w (Aj (A0 (Ef D).1) λw'=>DF w Ft w' b (Ef D).2 F):=by
 obtain⟨vd,vs,vc,vals,VB,hr,d⟩:=h;obtain⟨ad,cap,rfl,_⟩:=hr.A6.BW;have aB:=A1 hr;have aA:=A1 hr.Ae;by_cases E:(bg D.n).2.1=0
 ·have q:Hid (Ef D=(0,{D with AG:=D.A6,As:=[],n:=(bg D.n).2.2})):=by unfold Hid Ef;rw[Ai E,E]
  have X:((bg D.n).2.1==0)=true:=by simpa using E
  have Y:=A1 <| E;clear E
  go_enter func86,ntmps86
  go_wp2_with (go_at_call 121;refine(Hv _ _ _ _ _ _ aA.o).k ?_;rintro w1⟨z,L⟩;have c01:=z.c0;have c11:=z.c1;have c21:=z.c2;have hf1:=z.fz);go_ret;refine⟨by rw[q.o];simp[Y.o],?_⟩;rw[q.o];have r1:=aB.o.al z L;have r2:=r1.aI ((z.s1 _).s2 (.slice none 0 0)) (((A4.C (One b) w1).an rfl 1 _).an rfl 2 (.slice none 0 0));refine DF.bB ?_ r2 ?_
  ·exact(((L.ah (S':=Ft) λk _ hk=>by cases hk;exact d b .Ae)).an (d b .Ae) 1 _).an (d b .Ae) 2 _
  ·intro k hk;left;cases hk using Cj.bL with
   | Ae=>exact d _ .Ae
   | dir e=>exact d _ (.A6 e)
   | Ad e=>exact d _ (.A6 e)
   | Am e=>simp[Value.ownBlock]at e
   | Dj hm e=>cases hm
   | BN I=>
    rcases I with I|I|⟨c,O,_⟩
    ·exact d _ (.BN (.inl I))
    ·exact d _ (.BN (.inl I))
    ·cases O
   | byt I e=>
    rcases I with I|I|⟨c,O,_⟩
    ·exact d _ (.bD (.inl I) e)
    ·exact d _ (.bD (.inl I) e)
    ·cases O
 ·have q:Hid (Ef D=((bg D.n).2.1,{D with n:=(bg D.n).2.2})):=by unfold Hid Ef;rw[Af E]
  have X:((bg D.n).2.1==0)=false:=by simpa using E
  go_enter func86,ntmps86
  go_wp2_with (go_at_call 121;refine(Hv _ _ _ _ _ _ aA.o).k ?_;rintro w1⟨z,L⟩);go_ret;refine⟨by rw[q.o];rfl,?_⟩;rw[q.o];exact aB.o.bT d z L
def AV(F:Nat->FC):gF AP->Nat
 | []=>0
 | e::r=>(F e.2).1.length+AV F r
def Lh(F:Nat->FC)(a c:gF AP):AV F (a++c)=AV F a+AV F c:=by
 induction a with
 | nil=>simp[AV]
 | cons e r ih=>simp[AV,ih];omega
def Rg(F:Nat->FC)(es:gF AP)(k:Nat)(d:k<es.length):AV F (es.take (k+1))=AV F (es.take k)+(F (es[k]'d).2).1.length:=by
 rw[Ds d,Lh];simp[AV]
def Xi(F:Nat->FC)(es:gF AP)(k:Nat):AV F (es.take k)<=AV F es:=by
 conv=>rhs;rw[<-Ec k es]
 rw[Lh];omega
def Kc(w:gC)(b:Nat)(D:DS)(F:Nat->FC)(Ft:Nat->Prop)(h:Dk w b D F Ft)(hu:AV F D.A6<=4611686018427387904):
 Ag 90 #[A5 b] w (Aj (A0 (AV F D.A6)) λw'=>A4 Aa w w'):=by
 obtain⟨vd,vs,vc,vals,VB,Y,hft⟩:=h;have c0:=Y.Ae.c0;obtain⟨a,cap,rfl,hc1,aA,E⟩:=Y.A6.BW;unfold maxLen at aA;have aD:=A1 Y
 go_enter func90,ntmps90
 go_wp2;go_loopw [3,11] (λt i wr=>∃k:Nat,k<=D.A6.length/\i=A0 k/\t=A0 (AV F (D.A6.take k))/\A4 Aa w wr) (λ_ i _=>D.A6.length-(intOf i).toNat)
 ·exact⟨0,Cb _,rfl,by simp[AV],A4.C _ _⟩
 ·obtain⟨k,hk,rfl,rfl,z⟩:=hrel;by_cases d:k<D.A6.length
  ·obtain⟨g,rfl,hn,hp⟩:=E k d;have⟨hfb,hbs⟩:=aD.o.cx k d;have⟨a',cap',hv,_,_⟩:=hbs.BW;rw[hv]at hfb;have O:g<w.heap.size:=GV w _ hn;have X:=Bv hfb;have hn':A7 wr g (k*2) (.string (D.A6[k]'d).1):=(DU (z.Al g O (λh=>h))).trans hn;have hp':A7 wr g (k*2+1) (A5 ((D.A6[k]'d).2)):=(DU (z.Al g O (λh=>h))).trans hp;have hb0:A7 wr ((D.A6[k]'d).2) 0 (.slice a' (F (D.A6[k]'d).2).1.length cap'):=(DU (z.Al _ X (λh=>h))).trans hfb.c0;have hsz:=z.Ak;have hflr:(D.A6[k]'d).2<wr.heap.size:=iC;have ht:=A1 (Rg F D.A6 k d);have aB:=Xi F D.A6 (k+1);rw[Rg F D.A6 k d]at aB;go_wp2;go_roundw
   ·exact⟨k+1,iC,by go_num,by rw[ht.o];go_num,z.ai _⟩
   ·simp[intOf];omega
  ·have L:D.A6.take k=D.A6:=Eu iC;have I:=A1 L;go_wp2;go_ret;exact⟨by rw[I.o];rfl,z⟩
def FP(D:DS)(F:Nat->FC)(d:gE)(at_ n:Int):gF UInt8×Int:=match lookup D.A6 d with
 | some f=>if at_<0\/n<0\/at_>(F f).1.length\/n>(F f).1.length-at_ then ([],9) else (((F f).1.drop at_.toNat).take n.toNat,0)
 | none=>([],8)
def Zn(w:gC)(b:Nat)(D:DS)(F:Nat->FC)(Ft:Nat->Prop)(h:Dk w b D F Ft)(E:gE)(p n:Int):
 Ag 82 #[A5 b,.string E,A0 p,A0 n] w (Aj (.tuple #[.string ⟨(FP D F E p n).1.toArray⟩,A0 (FP D F E p n).2]) λw'=>w=w'):=by
 obtain⟨vd,vs,vc,vals,VB,hr,hft⟩:=h;have c0:=hr.Ae.c0;have hd:=A1 hr.A6;obtain⟨a,cap,rfl,hc1,aF,L⟩:=hr.A6.BW;unfold maxLen at aF;rcases JH D.A6 E with⟨h1,h2⟩|⟨k,hk,h1,h2,h3⟩
 ·have q:Hid (FP D F E p n=([],8)):=by unfold Hid FP;rw[h2]
  have hfi:Bb D.A6 E<0:=iC
  go_enter func82,ntmps82
  go_wp2_with (go_at_call 77;refine(DR _ _ _ _ hd.o).k ?_;rintro w' rfl);go_ret2;rw[q.o];exact⟨rfl,rfl⟩
 ·have⟨hfb,z⟩:=hr.cx k hk;have⟨a',cap',hv,hl1,hl2⟩:=z.BW;unfold maxLen at hl2;rw[hv]at hfb z;have aB:=hfb.c0;have O:=A1 z;obtain⟨g,rfl,hn,hp⟩:=L k hk;have aD:=A1 h1;have aJ:=A1 h2;obtain⟨bs,z⟩:=iG ((F (D.A6[k]'hk).2).1);have aI:=A1 z;rw[z]at aB hl1 O;have hlen:(bs.length:Int)<=9223372036854775807:=iC
  have q:Hid (FP D F E p n=if p<0\/n<0\/p>bs.length\/n>bs.length-p then ([],9) else ((bs.drop p.toNat).take n.toNat,0)):=by
   unfold Hid FP;rw[aJ.o];dsimp only;rw[aI.o]
  by_cases aG:0<=p/\0<=n/\p<=bs.length/\n<=bs.length-p
  ·obtain⟨o1,o2,o3,o4⟩:=aG;obtain⟨d,rfl⟩:=Mr o1;obtain⟨n',rfl⟩:=Mr o2;have q2:Hid (FP D F E d n'=((bs.drop d).take n',0)):=by
    unfold Hid;rw[q.o,Af iC];simp
   have o5:d<=bs.length:=iC;have o6:n'<=bs.length-d:=iC;have⟨_,_,he,_,_,_,hnil,hform⟩:=B8 O.o;cases he;by_cases aA:cap'=d
   ·have aH:n'=0:=iC;subst aH;have cv:∀(x:Option Addr) (c:Nat),(convert 127 9 (.slice x 0 c)).run Tryz.prog w=.ok (.string ⟨#[]⟩) w:=by
     intro x c;cases x with
     | none=>
      rw[run_convert_bytes_string (P:=Tryz.prog) w 127 9 5 none 0 c Hx NC GX];rfl
     | some ad=>exact OA (P:=Tryz.prog) w 127 9 5 ad c [] Hx NC GX iE
    subst aA
    go_enter func82,ntmps82
    go_wp2_with (go_at_call 77;refine(DR _ _ _ _ hd.o).k ?_;rintro w' rfl;rw[aD.o]);go_ret2;rw[q2.o];exact⟨iE,rfl⟩
   ·obtain⟨I,aE⟩:∃I,a'=some (A9 I 0):=by
     cases ha:a' with
     | none=>have:=(hnil ha).2;omega
     | some ad=>obtain⟨g',rfl⟩:=hform ad ha;exact⟨g',rfl⟩
    subst aE;have cv:(convert 127 9 (.slice (some (A9 I d)) n' (cap'-d))).run Tryz.prog w=.ok (.string ⟨((bs.drop d).take n').toArray⟩) w:=by
     (have hl:((bs.drop d).take n').length=n':=by simp;omega)
     have:=OA (P:=Tryz.prog) w 127 9 5 (A9 I d) (cap'-d) ((bs.drop d).take n') Hx NC GX (by
      intro j hj;(have Y:d+j<bs.length:=by simp at hj;omega);(have X:((A9 I d):Addr).add j=(A9 I (d+j)):=by unfold Addr.add;split<;>simp_all);rw[X];have:=Bu O.o (g:=I) rfl (j:=d+j) (u:=.int .u8 (bs[d+j]'Y).toNat) (by simp[Et,List.getElem?_eq_getElem Y])
      simpa using this)
     rw[hl]at this;exact this
    go_enter func82,ntmps82
    go_wp2_with (go_at_call 77;refine(DR _ _ _ _ hd.o).k ?_;rintro w' rfl;rw[aD.o]);go_ret2;rw[q2.o];exact⟨rfl,rfl⟩
  ·have q2:Hid (FP D F E p n=([],9)):=by
    unfold Hid;rw[q.o,Ai iC]
   go_enter func82,ntmps82
   go_wp2_with (go_at_call 77;refine(DR _ _ _ _ hd.o).k ?_;rintro w' rfl;rw[aD.o])
   all_goals (go_ret2;rw[q2.o];exact⟨rfl,rfl⟩)
def Ca.cb{w w':gC}{b:Nat}{D:DS}{F:Nat->FC}{vd vs vc:gD}{L:gF gD}{aA:Nat->gD}{S:Nat->Prop}(h:Ca w b D F vd vs vc L aA){f:Nat}(hf:D.Aq f){vb':gD}{bs':gF UInt8}{s':Int}(h1:Dd w' f vb' s')(h2:Gm w' vb' bs')(hc:A4 S w w')(hS:∀k,S k->k=f\/(aA f).ownBlock=some k)(hv:∀g,vb'.ownBlock=some g->(aA f).ownBlock=some g\/w.heap.size<=g):
 Ca w' b D (upd F f (bs',s')) vd vs vc L (λx=>if x=f then vb' else aA x):=by
 have⟨hf1,hf2⟩:=h.BN f hf;have E:∀(k:Nat) (c:Array gD) (e:Nat),w.heap[k]?=some (Obj.cells c e (0,0))->e≠129->e≠5->w'.heap[k]?=w.heap[k]?:=λk c e E Y aD=>
  hc.Al k (Bv E) (λd=>by
   rcases hS k d with d|d
   ·exact BR E hf1 Y d
   ·have⟨c',hh⟩:=B9 hf2 d
    exact BR E hh aD rfl)
 refine⟨?_,?_,?_,?_,?_,?_,?_⟩
 ·have:=h.Ae;unfold AM at this ⊢;rw[E b _ _ this iF iF];exact this
 ·exact Au h.A6 λg z=>by have⟨c,hh⟩:=B9 h.A6 z;exact E g _ _ hh iF iF
 ·exact Au h.AG λg z=>by have⟨c,hh⟩:=B9 h.AG z;exact E g _ _ hh iF iF
 ·exact Au h.Am λg z=>by have⟨c,hh⟩:=B9 h.Am z;exact E g _ _ hh iF iF
 ·intro i hi;have⟨v,h1,h2⟩:=h.Dj i hi;exact⟨v,h1,Au h2 λg z=>by have⟨c,hh⟩:=B9 h2 z;exact E g _ _ hh iF iF⟩
 ·intro f2 I;by_cases Y:f2=f
  ·subst Y;simp only[upd,Cs];exact⟨h1,h2⟩
  ·have⟨g1,g2⟩:=h.BN f2 I;simp only[upd,Y,Cf];refine⟨g1.av (hc.Al f2 (Bv g1) (λd=>?_)),Au g2 λg z=>hc.Al g (Aw g2 z) (λd=>?_)⟩
   ·rcases hS _ d with d|d
    ·exact Y d
    ·have⟨c',hh⟩:=B9 hf2 d;exact BR g1 hh iF rfl
   ·rcases hS _ d with d|d
    ·have⟨c',hh⟩:=B9 g2 z;exact BR hh hf1 iF d
    ·exact Y (h.GL f2 f g I hf z d)
 ·have key:∀f2 g,D.Aq f2->f2≠f->(aA f2).ownBlock=some g->vb'.ownBlock=some g->False:=by
   intro f2 g h3 aB h4 h5;rcases hv g h5 with h6|h6
   ·exact aB (h.GL f2 f g h3 hf h4 h6)
   ·have:=Aw (h.BN f2 h3).2 h4;omega
  intro f1 f2 g k1 k2 X O;by_cases a1:f1=f<;>by_cases a2:f2=f
  ·rw[a1,a2]
  ·simp only[a1,Cs]at X;simp only[a2,Cf]at O;exact(key f2 g k2 a2 O X).elim
  ·simp only[a2,Cs]at O;simp only[a1,Cf]at X;exact(key f1 g k1 a1 X O).elim
  ·simp only[a1,Cf]at X;simp only[a2,Cf]at O;exact h.GL f1 f2 g k1 k2 X O
def Cj.cb{b:Nat}{D:DS}{O I E:gD}{d:gF gD}{z:Nat->gD}{f:Nat}{vb':gD}{N:Nat}(X:D.Aq f)(Y:∀g,vb'.ownBlock=some g->(z f).ownBlock=some g\/N<=g){k:Nat}(h:Cj b D O I E d (λx=>if x=f then vb' else z x) k):Cj b D O I E d z k\/N<=k:=by
 cases h using Cj.bL with
 | Ae=>exact .inl .Ae
 | dir e=>exact .inl (.A6 e)
 | Ad e=>exact .inl (.AG e)
 | Am e=>exact .inl (.Am e)
 | Dj h e=>exact .inl (.Dj h e)
 | BN h=>exact .inl (.BN h)
 | byt h e=>
  rename_i f2;by_cases L:f2=f
  ·simp only[L,Cs]at e;rcases Y k e with h|h
   ·exact .inl (.bD X h)
   ·exact .inr h
  ·simp only[L,Cf]at e;exact .inl (.bD h e)
def Ca.BX{w:gC}{b:Nat}{D:DS}{F:Nat->FC}{L X O:gD}{E:gF gD}{I:Nat->gD}(h:Ca w b D F L X O E I)(k:Nat)(z:k<D.A6.length):
 ∃g cap a' d,L=.slice (some ⟨g,0,none⟩) D.A6.length cap/\I (D.A6[k]'z).2=.slice a' (F (D.A6[k]'z).2).1.length d/\D.A6.length<=cap/\cap<=maxLen/\(F (D.A6[k]'z).2).1.length<=d/\d<=maxLen:=by
 have⟨a,cap,hv,h1,h2,hc⟩:=h.A6.BW;obtain⟨g,rfl,_,_⟩:=hc k z;have⟨a',d,h3,h4,h5⟩:=(h.cx k z).2.BW;exact⟨g,cap,a',d,hv,h3,h1,h2,h4,h5⟩
structure QR (w:gC) (b:Nat) (g k f n cap l cap':Nat) (a':Option Addr) (nd:gE) (Ad:Int):Prop where
 d:A7 w b 0 (AA g n cap)
 n:A7 w g (k*2) (.string nd)
 p:A7 w g (k*2+1) (A5 f)
 f0:A7 w f 0 (.slice a' l cap')
 f1:A7 w f 1 (A0 Ad)
 fz:∀o,w.frozen? (A9 f o)=false
 gf:¬g=f
 fg:¬f=g
 gb:¬g=b
 bg:¬b=g
 fb:¬f=b
 bf:¬b=f
def Ca.dN{w:gC}{b:Nat}{D:DS}{F:Nat->FC}{L X vc:gD}{E:gF gD}{I:Nat->gD}(h:Ca w b D F L X vc E I)(k:Nat)(d:k<D.A6.length){g cap z:Nat}{a':Option Addr}(Y:L=AA g D.A6.length cap)(O:I (D.A6[k]'d).2=.slice a' (F (D.A6[k]'d).2).1.length z):
 QR w b g k (D.A6[k]'d).2 D.A6.length cap (F (D.A6[k]'d).2).1.length z a' (D.A6[k]'d).1 (F (D.A6[k]'d).2).2:=by
 subst Y;have⟨hf,hb⟩:=h.cx k d;rw[O]at hf;have⟨c,hh⟩:=B9 h.A6 (g:=g) rfl
 exact⟨h.Ae.c0,Bu h.A6 rfl (PV _ k d),Bu h.A6 rfl (PT _ k d),hf.c0,hf.c1,hf.fz,λe=>BR hh hf iF e,λe=>BR hh hf iF e.symm,
  λe=>BR hh h.Ae iF e,λe=>BR hh h.Ae iF e.symm,λe=>BR hf h.Ae iF e,λe=>BR hf h.Ae iF e.symm⟩
def CP(D:DS)(F:Nat->FC)(d:gE):Int×DS×(Nat->FC):=match lookup D.A6 d with
 | none=>(8,D,F)
 | some f=>((bg D.n).2.1,{D with n:=(bg D.n).2.2},if (bg D.n).2.1=0 then upd F f ((F f).1,(F f).1.length) else F)
def XA(w:gC)(b:Nat)(D:DS)(F:Nat->FC)(Ft:Nat->Prop)(h:Dk w b D F Ft)(nd:gE):
 Ag 85 #[A5 b,.string nd] w (Aj (A0 (CP D F nd).1) λw'=>DF w Ft w' b (CP D F nd).2.1 (CP D F nd).2.2):=by
 obtain⟨vd,vs,vc,vals,aG,hr,Y⟩:=h;have c0:=hr.Ae.c0;have hd:=A1 hr.A6;have aD:=A1 hr.Ae;have aE:=A1 hr;rcases JH D.A6 nd with⟨h1,h2⟩|⟨k,z,h1,h2,h3⟩
 ·have q:Hid (CP D F nd=(8,D,F)):=by unfold Hid CP;rw[h2]
  have hfi:Bb D.A6 nd<0:=iC
  go_enter func85,ntmps85
  go_wp2_with (go_at_call 77;refine(DR _ _ _ _ hd.o).k ?_;rintro w' rfl);go_ret;rw[q.o];exact⟨rfl,DF.bB (A4.C _ _) aE.o λk z=>.inl (Y k z)⟩
 ·have q:Hid (CP D F nd=((bg D.n).2.1,{D with n:=(bg D.n).2.2},if (bg D.n).2.1=0 then upd F (D.A6[k]'z).2 ((F (D.A6[k]'z).2).1,(F (D.A6[k]'z).2).1.length) else F)):=by unfold Hid CP;rw[h2]
  have aH:=A1 h1;by_cases L:(bg D.n).2.1=0
  ·(have aB:((bg D.n).2.1==0)=true:=by simpa using L);have O:=A1 <| L;clear L;have hk0:=BJ k;have hk1:(k:Int)<(D.A6.length:Int):=iC;obtain⟨g,cap,a',aA,rfl,hv,z1,z2,z3,z4⟩:=aE.o.BX k z;have aF:=A1 hv;unfold maxLen at z2 z4;clear hv;obtain⟨f,hf⟩:=iG ((D.A6[k]'z).2);have I:Hid (D.Aq f):=.inl ⟨_,BT z,hf⟩
   have fin:Hid (∀w1,AM w1 b (AA g D.A6.length cap) vs vc (bg D.n).2.2->A4 (One b) w w1->QR w1 b g k f D.A6.length cap (F f).1.length aA a' (D.A6[k]'z).1 (F f).2/\
    DF w Ft (w1.sC f 1 (A0 (F f).1.length)).drew b {D with n:=(bg D.n).2.2} (upd F f ((F f).1,(F f).1.length))):=by
    intro w1 X E;have r1:=aE.o.al X E;subst hf;refine⟨r1.dN k z rfl aF.o,?_⟩;have⟨hf1,hf2⟩:=r1.cx k z;have r2:=r1.cb (S:=One (D.A6[k]'z).2) (w':=(w1.sC ((D.A6[k]'z).2) 1 (A0 (F (D.A6[k]'z).2).1.length)).drew) (f:=(D.A6[k]'z).2) I.o (vb':=aG (D.A6[k]'z).2) (bs':=(F (D.A6[k]'z).2).1) (s':=(F (D.A6[k]'z).2).1.length)
     (hf1.s1 _) (by
      refine OW hf2 (a:=(A9 ((D.A6[k]'z).2) 1)) ?_ _;intro e;have⟨c,hh⟩:=B9 hf2 e
      exact BR hh hf1 iF rfl) (((A4.C (One _) w1).an rfl 1 _).aa) (λk z=>.inl z) (λg hg=>.inl hg)
    refine DF.bB ?_ r2 ?_
    ·exact((E.ah (S':=Ft) λk _ z=>by cases z;exact Y b .Ae).an (Y _ (.BN I.o)) 1 _).aa
    ·intro x hx;rcases Cj.cb (N:=w.heap.size) (vb':=aG (D.A6[k]'z).2) (f:=(D.A6[k]'z).2) I.o (λg hg=>.inl hg) hx.n with h|h
     ·exact .inl (Y x h)
     ·exact .inr h
   rw[hf]at q;clear hf aF
   go_enter func85,ntmps85
   go_wp2_with (first
    | (go_at_call 77;refine(DR _ _ _ _ hd.o).k ?_;rintro w' rfl;rw[aH.o])
    | (go_at_call 121;refine(Hv _ _ _ _ _ _ aD.o).k ?_;rintro w1⟨X,E⟩))
   have⟨hat,haf⟩:=fin.o w1 X E;have aI:=A1 haf;have x1:=hat.d;have x2:=hat.p;have x3:=hat.f0;have x4:=hat.f1;have x5:=hat.fz;have x7:=hat.fg;clear haf hat;go_region_held3 (λw'=>w'.cell? ⟨b,0,none⟩=some (.slice (some ⟨g,0,none⟩) D.A6.length cap)/\w'.cell? ⟨g,k*2+1,none⟩=some (.pointer (some ⟨f,0,none⟩))/\w'.cell? ⟨f,0,none⟩=some (.slice a' (F f).1.length aA)) (refine⟨?_,?_,?_⟩<;>go_simp) (fail);go_wp2;go_ret;rw[q.o,Ai O.o];exact⟨rfl,aI.o⟩
  ·(have aB:((bg D.n).2.1==0)=false:=by simpa using L);have O:=A1 <| L
   go_enter func85,ntmps85
   go_wp2_with (first
    | (go_at_call 77;refine(DR _ _ _ _ hd.o).k ?_;rintro w' rfl;rw[aH.o])
    | (go_at_call 121;refine(Hv _ _ _ _ _ _ aD.o).k ?_;rintro w1⟨X,E⟩))
   go_ret;rw[q.o,Af O.o];exact⟨rfl,aE.o.bT Y X E⟩
end
end Go.Proofs.YtodcnkbblippnaaGreatDoor
