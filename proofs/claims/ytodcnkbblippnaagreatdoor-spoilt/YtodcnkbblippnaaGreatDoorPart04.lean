/- Part 4 of a proof: walks of the program. -/
import Derived.Test.YtodcnkbblippnaaGreatDoorPart02
namespace Go.Proofs.YtodcnkbblippnaaGreatDoor
set_option maxRecDepth 100000
set_option maxHeartbeats 32000000
set_option linter.defProp false
open Go.Proofs.Tryz
section
open Go.RowKit
attribute [local go_sem ↓] Go.wp_at_zero Go.wp_at_succ
def Tryz.cM:(Tryz.prog.info? 125).map (λi=>(i.zero,i.size,i.bytes))=some (some (.agg #[.string ByteArray.empty,.pointer none]),2,24):=by kernel_rfl
def Tryz.dT:(Tryz.prog.info? 120).map (λi=>(i.zero,i.size,i.bytes))=some (some (.agg #[.slice none 0 0]),1,24):=by kernel_rfl
def Tryz.infoByte:(Tryz.prog.info? 5).map (λi=>(i.zero,i.size,i.bytes))=some (some (.int .u8 0),1,1):=by kernel_rfl
def Tryz.eR:(Tryz.prog.info? 9).map (λi=>(i.zero,i.size,i.bytes))=some (some (.string ByteArray.empty),1,16):=by kernel_rfl
def IW(room:Int):DN:=⟨room,0,0,0,0,0,0,false⟩
def A0U(room:Int)(w:ga):
 Ag 21 #[A0 room] w (Am (A5 w.heap.size) λw'=>AK w' w.heap.size (.slice none 0 0) (.slice none 0 0) (.slice none 0 0) (IW room)/\w'.heap.size=w.heap.size+1/\A3 Ab w w'):=by
 go_enter func21,ntmps21
 go_wp2;go_ret;exact⟨rfl,BL w _,by simp,(A3.I _ w).al _⟩
def A2Y(w:ga)(b:Nat)(E z d:gd)(n:DN)(c:Int)(h:AK w b E z d n):
 Ag 35 #[A5 b,A0 c] w (Am (.tuple #[]) λw'=>AK w' b E z d {n with Ce:=if c>0 then wrap64 (n.AQ+c) else 0}/\A3 (One b) w w'):=by
 have h4:=h.c4;have h5:=h.c5;have hf:=h.fz;have L:=A1 (h.s5 0);have O:=A1 ((h.s5 0).s5 (wrap64 (n.AQ+c)));have H:=A1 ((A3.I (One b) w).aq rfl 5 (A0 0));have I:=A1 (((A3.I (One b) w).aq rfl 5 (A0 0)).aq rfl 5 (A0 (wrap64 (n.AQ+c))))
 go_enter func35,ntmps35
 go_wp2
 ·go_end0;exact⟨rfl,O.o,I.o⟩
 ·go_end0;exact⟨rfl,L.o,H.o⟩
def Ev(n:DN)(c p:Int):DN:={n with Cv:=if c>0 then wrap64 (n.AQ+c) else 0,BC:=if p<0 then wrap64 (-(wrap64 (p+1))) else p}
def A2A(w:ga)(b:Nat)(I H E:gd)(n:DN)(c p:Int)(h:AK w b I H E n):
 Ag 78 #[A5 b,A0 c,A0 p] w (Am (.tuple #[]) λw'=>AK w' b I H E (Ev n c p)/\A3 (One b) w w'):=by
 have h4:=h.c4;have h6:=h.c6;have h7:=h.c7;have hf:=h.fz;have Q:=A1 <| h
 go_enter func78,ntmps78
 go_wp2
 ·have z:0<c:=by assumption
  have d:p<0:=by assumption
  go_end0;have q:Ev n c p = {n with Cv:=wrap64 (n.AQ+c),BC:=wrap64 (-(wrap64 (p+1)))}:=by simp[Ev,z,d]
  rw[q];exact⟨rfl,(((Q.o.s6 0).s6 _).s7 _).s7 _,((((A3.I (One b) w).aq rfl 6 _).aq rfl 6 _).aq rfl 7 _).aq rfl 7 _⟩
 ·have z:0<c:=by assumption
  have d:0<=p:=by assumption
  go_end0;have q:Ev n c p = {n with Cv:=wrap64 (n.AQ+c),BC:=p}:=by simp[Ev,z];omega
  rw[q];exact⟨rfl,((Q.o.s6 0).s6 _).s7 _,(((A3.I (One b) w).aq rfl 6 _).aq rfl 6 _).aq rfl 7 _⟩
 ·have z:c<=0:=by assumption
  have d:p<0:=by assumption
  go_end0;have q:Ev n c p = {n with Cv:=0,BC:=wrap64 (-(wrap64 (p+1)))}:=by simp[Ev,d];omega
  rw[q];exact⟨rfl,((Q.o.s6 0).s7 _).s7 _,(((A3.I (One b) w).aq rfl 6 _).aq rfl 7 _).aq rfl 7 _⟩
 ·have z:c<=0:=by assumption
  have d:0<=p:=by assumption
  go_end0;have q:Ev n c p = {n with Cv:=0,BC:=p}:=by simp[Ev];omega
  rw[q];exact⟨rfl,(Q.o.s6 0).s7 _,((A3.I (One b) w).aq rfl 6 _).aq rfl 7 _⟩
def A2Q(w:ga)(b:Nat)(E z d:gd)(n:DN)(h:AK w b E z d n):
 Ag 36 #[A5 b] w (Am (.bool n.AW) λw'=>w=w'):=by
 have h4:=h.bW
 go_enter func36,ntmps36
 go_wp2;go_ret;exact⟨rfl,rfl⟩
def ZG(w:ga)(b:Nat)(E z d:gd)(n:DN)(h:AK w b E z d n):
 Ag 50 #[A5 b] w (Am (A0 n.Bl) λw'=>w=w'):=by
 have h4:=h.c8
 go_enter func50,ntmps50
 go_wp2;go_ret;exact⟨rfl,rfl⟩
def Cz(D:DS)(F:Nat->FC)(d:gg):Int×Int:=match lookup D.A4 d with
 | some f=>(((F f).1.length:Nat),0)
 | none=>(0,8)
def YL(w:ga)(b:Nat)(D:DS)(F:Nat->FC)(vd Y vc:gd)(E:gh gd)(aA:Nat->gd)(h:BY w b D F vd Y vc E aA)(d:gg):
 Ag 81 #[A5 b,.string d] w (Am (.tuple #[A0 (Cz D F d).1,A0 (Cz D F d).2]) λw'=>w=w'):=by
 have hc:=h.Ah.c0;obtain⟨a,cap,rfl,hc1,L,z⟩:=h.A4.Cd;have O:=h.A4;unfold maxLen at L;rcases Ju D.A4 d with⟨W,H⟩|⟨k,I,W,H,h3⟩
 ·have q:Hid (Cz D F d=(0,8)):=by unfold Hid Cz;rw[H]
  have hfi:B5 D.A4 d<0:=by omega
  go_enter func81,ntmps81
  go_wp2_with (go_at_call 77;refine(DB _ _ _ _ O).k ?_;rintro w' rfl);go_ret2;rw[q.o];exact⟨rfl,rfl⟩
 ·have q:Hid (Cz D F d=((((F (D.A4[k]'I).2).1.length:Nat):Int),0)):=by unfold Hid Cz;rw[H]
  have⟨hfb,hbs⟩:=h.cf k I;have⟨a',cap',hv,_,_⟩:=hbs.Cd;rw[hv]at hfb;have hb0:=hfb.c0;obtain⟨g,rfl,hn,hp⟩:=z k I;have aB:=A1 <| W
  go_enter func81,ntmps81
  go_wp2_with (go_at_call 77;refine(DB _ _ _ _ O).k ?_;rintro w' rfl;rw[aB.o]);go_ret2;rw[q.o];exact⟨rfl,rfl⟩
def MB(w:ga)(b:Nat)(vd vs H:gd)(n:DN)(m:Nat)(d:gh gd)(a:Option Addr)(len cap:Nat)(h:AK w b vd vs H n)(hc:w.ownsRow 0 120 1 H m d)(hm:m<1099511627776):
 Ag 122 #[A5 b,.slice a len cap] w (Am (.tuple #[]) λw'=>
  ∃E,AK w' b (.slice a len cap) vs E n/\w'.ownsRow 0 120 1 E (m+1) (d++[.slice a len cap])/\A3 (λk=>k=b\/H.ownBlock=some k) w w'/\(∀g,E.ownBlock=some g->H.ownBlock=some g\/w.heap.size<=g)):=by
 have⟨i0,hi,hz0,hz1,hz2⟩:=Eg Tryz.dT;have h2:=h.c2;have h0:=h.c0;have hf:=h.fz;have I:H.ownBlock≠some b:=by
  intro e;have⟨c,hh⟩:=Be hc e;exact BR hh h (by decide) rfl
 have hs:=A1 (h.s0 (.slice a len cap));have W:=A1 ((Pc hc (a:=(Ac b 0)) I (.slice a len cap)).alloc (.cells #[.slice a len cap] 120));have O:=A1 (Src.bh (size:=1) underlying93 (w.sC b 0 (.slice a len cap)) #[.slice a len cap] 120 w.heap.size (by simp) 1 1 rfl (by simp[Value.oneCell']));have aA:=A1 (((A3.I (λk=>k=b\/H.oB k) w).aq (.inl rfl) 0 (.slice a len cap)).al (.cells #[.slice a len cap] 120));have Y:=A1 <| I
 go_enter func122,ntmps122
 go_wp2_with (at_builtin;go_loud (refine Dj rfl (.tmp 12) (.tmp 15) 93 93 rfl 120 i0 _ 1 24 underlying93 hi hz0 hz1 hz2 rfl (by decide) H m d (by rfl) W.o _ 1 _ (by rfl) O.o (by omega) ?_);intro a2 cap2 w1 L;have z:=(hs.o.al _).Cx L.Cx Y.o;have h21:=z.c2;have hf1:=z.fz);go_end0;refine⟨rfl,_,z.s2 _,?_,?_,?_⟩
 ·refine Pc L.AE (a:=(Ac b 2)) ?_ _;intro e;have⟨c,hh⟩:=Be L.AE e;exact BR hh z (by decide) rfl
 ·exact(aA.o.Cx L.Cx (λk hk _=>.inr hk)).aq (.inl rfl) 2 _
 ·intro g hg;rcases L.CA with h|h
  ·exact .inl (h.symm.trans hg)
  ·right;rw[hg]at h;cases h;simp
def upd(F:Nat->FC)(f0:Nat)(c:FC):Nat->FC:=λf=>if f=f0 then c else F f
def CN(D:DS)(d:gg)(f0:Nat):Int×DS:=
 if d=ByteArray.empty\/B5 D.A4 d≥0 then (8,D) else
  ((bg D.n).2.1,if (bg D.n).1 then {D with A4:=D.A4++[(d,f0)],As:=D.As++[D.A4++[(d,f0)]],n:=(bg D.n).2.2} else {D with n:=(bg D.n).2.2})
def isEmpty_iff(s:gg):s.toList.isEmpty=true↔s=ByteArray.empty:=by
 rw[List.isEmpty_iff,KV];exact⟨λh=>A4N (by rw[h];rfl),λh=>by rw[h];rfl⟩
def BY.eu{w:ga}{b:Nat}{D:DS}{F:Nat->FC}{L E z:gd}{d:gh gd}{I:Nat->gd}(h:BY w b D F L E z d I){f0:Nat}(hf:w.heap.size<=f0)(c:FC):
 BY w b D (upd F f0 c) L E z d I:=
 ⟨h.Ah,h.A4,h.AI,h.Al,h.Df,λf H=>by
  have:f≠f0:=by have:=h.lt (.BK H);omega
  simp only[upd,this,C9];exact h.BK f H,h.Gq⟩
def C6.n{b:Nat}{D:DS}{n:DN}{I E z:gd}{d:gh gd}{H:Nat->gd}{k:Nat}(h:C6 b {D with n:=n} I E z d H k):C6 b D I E z d H k:=by
 cases h using C6.bJ with
 | Ah=>exact .Ah
 | dir e=>exact .A4 e
 | Ad e=>exact .AI e
 | Al e=>exact .Al e
 | Df h e=>exact .Df h e
 | BK h=>exact .BK h
 | byt h e=>exact .bA h e
def BY.bO{w w':ga}{b:Nat}{D:DS}{F:Nat->FC}{I H L:gd}{d:gh gd}{O:Nat->gd}{Ft:Nat->Prop}(h:BY w b D F I H L d O)(z:∀k,C6 b D I H L d O k->Ft k){n:DN}(Y:AK w' b I H L n)(W:A3 (One b) w w'):Dv w Ft w' b {D with n:=n} F:=
 Dv.bw (W.af λk _ E=>by cases E;exact z b .Ah) (h.ah Y W) λk E=>.inl (z k E.n)
def App.Al{w w':ga}{e size n:Nat}{v z:gd}{xs:gh gd}(h:App w w' e size v z n xs){S:Nat->Prop}(E:∀k,v.ownBlock=some k->S k):A3 S w w':=
 (A3.I S w).Cx h.Cx λk d _=>E k d
def CY.ay{w w':ga}{f:Nat}{d:gd}{Ad:Int}(h:CY w f d Ad)(z:w'.heap[f]?=w.heap[f]?):CY w' f d Ad:=z.trans h
def A25{w w1 I w3 w5:ga}{b:Nat}{D:DS}{F:Nat->FC}{vd vs vc aA aD:gd}{W:gh gd}{aI:Nat->gd}{Ft:Nat->Prop}{n1:DN}{a3:Option Addr}{O:Nat}{nd:gg}(hr:BY w b D F vd vs vc W aI)(E:∀k,C6 b D vd vs vc W aI k->Ft k)(aK:AK w1 b vd vs vc n1)(aE:A3 (One b) w w1)(hA:App w1 I 125 2 (.slice none 0 0) aA D.A4.length (BX D.A4))(hB:App ((I.alloc (.cells #[.slice none 0 0,.int .i64 0] 129)).alloc (.cells #[.string nd,.pointer (some ⟨I.heap.size,0,none⟩)] 125)) w3 125 2 aA (.slice a3 (D.A4.length+1) O) (D.A4.length+1) (BX D.A4++[.string nd,.pointer (some ⟨I.heap.size,0,none⟩)]))(aJ:AK w5 b (.slice a3 (D.A4.length+1) O) vs aD n1)(aL:w5.ownsRow 0 120 1 aD (D.As.length+1) (W++[.slice a3 (D.A4.length+1) O]))(Y:A3 (λk=>k=b\/vc.ownBlock=some k) w3 w5)(hv:∀g,aD.ownBlock=some g->vc.ownBlock=some g\/w3.heap.size<=g):
 w.heap.size<=I.heap.size/\Dv w Ft w5 b {D with A4:=D.A4++[(nd,I.heap.size)],As:=D.As++[D.A4++[(nd,I.heap.size)]],n:=n1} (upd F I.heap.size ([],0)):=by
 have aB:∀k,aA.ownBlock=some k->k=w1.heap.size:=by
  intro k L;rcases hA.CA with h|h
  ·rw[h]at L;cases L
  ·rw[h]at L;cases L;rfl
 have s1:=aE.Aj;have s2:=hA.Cx.size;have s3:=hB.Cx.size;simp only[Nz]at s3;have aG:=
  (((hA.Al (S:=λ_=>False) (by intro k L;simp[Value.ownBlock]at L)).al (.cells #[.slice none 0 0,.int .i64 0] 129)).al (.cells #[.string nd,.pointer (some ⟨I.heap.size,0,none⟩)] 125)).Cx hB.Cx
    (λk L hlt=>by have:=aB k L;omega)
 have r1:=hr.ah aK aE;have r3:=r1.aN λk L=>aG.An k (r1.lt L) (λh=>h);have f0:CY ((I.alloc (.cells #[.slice none 0 0,.int .i64 0] 129)).alloc (.cells #[.string nd,.pointer (some ⟨I.heap.size,0,none⟩)] 125)) I.heap.size (.slice none 0 0) 0:=by
  unfold CY;rw[Di _ _ _ (by simp)];exact BL _ _
 have f3:=f0.ay (hB.Cx.block _ (by simp;omega) (λe=>by have:=AF hA.AE e.symm;omega))
 have f5:=f3.ay (Y.An _ (by omega) (by
  rintro (e|e)
  ·exact BR f3 r3.Ah (by decide) e
  ·have⟨c,hh⟩:=Be r3.Al e
   exact BR f3 hh (by decide) rfl))
 have e3:D8 w3 (.slice a3 (D.A4.length+1) O) (D.A4++[(nd,I.heap.size)]):=by
  have:=hB.AE;unfold D8;rw[LS];simpa[BX] using this
 have e5:=Ax e3 λg hg=>Y.An g (AF e3 hg) (by
  have⟨c,hh⟩:=Be e3 hg;rintro (e|e)
  ·exact BR hh r3.Ah (by decide) e
  ·have⟨c',hh'⟩:=Be r3.Al e
   exact BR hh hh' (by decide) rfl)
 have aF:∀f,D.Ap f->f≠I.heap.size:=λf H=>by have:=hr.lt (.BK H);omega
 have r5:=r3.ct (F':=upd F I.heap.size ([],0)) (VB':=λf=>if f=I.heap.size then .slice none 0 0 else aI f) (es:=D.A4++[(nd,I.heap.size)]) aJ aL e5 Y (λk L=>L)
  (λf H=>by have:=aF f H;simp[upd,this])
  (λf H=>by
   obtain⟨e,d,rfl⟩:=H;rcases AU.1 d with d|d
   ·exact .inl (.inl ⟨e,d,rfl⟩)
   ·simp at d;subst d;right;simp only[upd,Cp]
    exact⟨f5,CT _ _ _ _,rfl⟩)
 refine⟨by omega,Dv.bw ?_ r5 ?_⟩
 ·have a:=(aE.af (S':=Ft) λk _ L=>by cases L;exact E b .Ah).Av aG (λx hx=>hx.elim);refine a.Av Y ?_;rintro x (e|e) _
  ·subst e;exact E x .Ah
  ·exact E x (.Al e)
 ·intro k L;cases L using C6.bJ with
  | Ah=>exact .inl (E b .Ah)
  | dir e=>
   rcases hB.CA with h|h
   ·rw[h]at e;have:=aB _ e;right;omega
   ·rw[h]at e;cases e;right;simp;omega
  | Ad e=>exact .inl (E k (.AI e))
  | Al e=>
   rcases hv k e with h|h
   ·exact .inl (E k (.Al h))
   ·right;omega
  | Df hm e=>
   rcases AU.1 hm with hm|hm
   ·exact .inl (E k (.Df hm e))
   ·simp at hm;subst hm;rcases hB.CA with h|h
    ·rw[h]at e;have:=aB _ e;right;omega
    ·rw[h]at e;cases e;right;simp;omega
  | BK H=>
   rcases H with⟨e,d,rfl⟩|H|⟨c,z,H⟩
   ·rcases AU.1 d with d|d
    ·exact .inl (E _ (.BK (.inl ⟨e,d,rfl⟩)))
    ·simp at d;subst d;right;simp;omega
   ·exact .inl (E _ (.BK (.inr (.inl H))))
   ·rcases AU.1 z with z|z
    ·exact .inl (E _ (.BK (.inr (.inr ⟨c,z,H⟩))))
    ·simp at z;subst z;obtain⟨e,d,rfl⟩:=H;rcases AU.1 d with d|d
     ·exact .inl (E _ (.BK (.inl ⟨e,d,rfl⟩)))
     ·simp at d;subst d;right;simp;omega
  | byt H e=>
   rename_i f;by_cases hx:f=I.heap.size
   ·simp[hx,Value.ownBlock]at e
   ·simp only[hx,C9]at e;have aH:D.Ap f:=by
     rcases H with⟨en,d,rfl⟩|H|⟨c,z,H⟩
     ·rcases AU.1 d with d|d
      ·exact .inl ⟨en,d,rfl⟩
      ·simp at d;subst d;exact absurd rfl hx
     ·exact .inr (.inl H)
     ·rcases AU.1 z with z|z
      ·exact .inr (.inr ⟨c,z,H⟩)
      ·simp at z;subst z;obtain⟨en,d,rfl⟩:=H;rcases AU.1 d with d|d
       ·exact .inl ⟨en,d,rfl⟩
       ·simp at d;subst d;exact absurd rfl hx
    exact .inl (E _ (.bA aH e))
def A24{I w2 O:ga}{b:Nat}{D:DS}{F:Nat->FC}{vd W L E:gd}{d:gh gd}{aB:Nat->gd}{n1:DN}{v3:gd}{n2:Nat}{xs:gh gd}{o1 o2:Obj}(aA:AK I b vd W L n1)(r1:BY I b {D with n:=n1} F vd W L d aB)(hA:App I w2 125 2 (.slice none 0 0) E D.A4.length (BX D.A4))(hB:App ((w2.alloc o1).alloc o2) O 125 2 E v3 n2 xs):
 AK O b vd W L n1/\O.ownsRow 0 120 1 L D.As.length d:=by
 have Y:∀k,E.ownBlock=some k->k=I.heap.size:=by
  intro k z;rcases hA.CA with h|h
  ·rw[h]at z;cases z
  ·rw[h]at z;cases z;rfl
 have H:=
  (((hA.Al (S:=λ_=>False) (by intro k z;simp[Value.ownBlock]at z)).al o1).al o2).Cx hB.Cx (λk z hlt=>by have:=Y k z;omega)
 refine⟨aA.Al H (λh=>h),Ax r1.Al λg hg=>H.An g (AF r1.Al hg) (λh=>h)⟩
def A26(w:ga)(b:Nat)(D:DS)(F:Nat->FC)(Ft:Nat->Prop)(h:Dh w b D F Ft)(d:gg)(hs:D.A4.length<1099511627776/\D.As.length<1099511627776):
 Ag 83 #[A5 b,.string d] w λe w'=>∃f0,w.heap.size<=f0/\e=.returned (A0 (CN D d f0).1)/\Dv w Ft w' b (CN D d f0).2 (upd F f0 ([],0)):=by
 obtain⟨vd,vs,vc,W,aN,hr,aA⟩:=h;obtain⟨hs1,aJ⟩:=hs;have hq:∀f0,w.heap.size<=f0->(CN D d f0).2=D->Dv w Ft w b (CN D d f0).2 (upd F f0 ([],0)):=λf0 hf e=>by
  rw[e];exact Dv.bw (A3.I _ _) (hr.eu hf _) λk hk=>.inl (aA k hk)
 have aL:=A1 hq;have aH:=A1 hr;have c0:=hr.Ah.c0;have hd:=A1 hr.A4;have aE:=A1 hr.Ah;have⟨ad,cap,hvd,_⟩:=hr.A4.Cd;clear hr hvd;by_cases hn:d.toList.isEmpty=true
 ·have q:Hid (CN D d w.heap.size=(8,D)):=by unfold Hid CN;rw[Ae (.inl ((isEmpty_iff _).1 hn))]
  go_enter func83,ntmps83
  go_wp2;go_ret;exact⟨_,Ao _,by rw[q.o];rfl,aL.o _ (Ao _) (by rw[q.o])⟩
 ·have hn':d.toList.isEmpty=false:=by simpa using hn
  have aF:Hid (d≠ByteArray.empty):=λe=>hn ((isEmpty_iff _).2 e);clear hn;by_cases hx:(0:Int)<=B5 D.A4 d
  ·(have q:Hid (CN D d w.heap.size=(8,D)):=by unfold Hid CN;rw[Ae (.inr hx)])
   go_enter func83,ntmps83
   go_wp2_with (go_at_call 77;refine(DB _ _ _ _ hd.o).k ?_;rintro w' rfl);go_ret;exact⟨_,Ao _,by rw[q.o];rfl,aL.o _ (Ao _) (by rw[q.o])⟩
  ·have q:Hid (∀f0,CN D d f0=((bg D.n).2.1,if (bg D.n).1 then {D with A4:=D.A4++[(d,f0)],As:=D.As++[D.A4++[(d,f0)]],n:=(bg D.n).2.2} else {D with n:=(bg D.n).2.2})):=by
    intro f0;unfold CN;rw[Aa (by rintro (h|h);exact aF h;exact hx h)]
   (have hx':B5 D.A4 d<0:=by omega);by_cases aB:(bg D.n).1=true
   ·have⟨i0,hi,hz0,hz1,hz2⟩:=Eg Tryz.cM
    have fin:Hid (∀(H E w3 w5:ga) (Y I:gd) (a3:Option Addr) (z:Nat),AK H b vd vs vc (bg D.n).2.2->A3 (One b) w H->App H E 125 2 (.slice none 0 0) Y D.A4.length (BX D.A4)->
     App ((E.alloc (.cells #[.slice none 0 0,A0 0] 129)).alloc (.cells #[.string d,A5 E.heap.size] 125)) w3 125 2 Y (.slice a3 (D.A4.length+1) z) (D.A4.length+1) (BX D.A4++[.string d,A5 E.heap.size])->
     AK w5 b (.slice a3 (D.A4.length+1) z) vs I (bg D.n).2.2->w5.ownsRow 0 120 1 I (D.As.length+1) (W++[.slice a3 (D.A4.length+1) z])->A3 (λk=>k=b\/vc.ownBlock=some k) w3 w5->(∀g,I.ownBlock=some g->vc.ownBlock=some g\/w3.heap.size<=g)->
     w.heap.size<=E.heap.size/\Dv w Ft w5 b {D with A4:=D.A4++[(d,E.heap.size)],As:=D.As++[D.A4++[(d,E.heap.size)]],n:=(bg D.n).2.2} (upd F E.heap.size ([],0))):=
     λH E w3 w5 Y I a3 z h1 h2 h3 h4 h5 h6 h7 h8=>A25 aH.o aA h1 h2 h3 h4 h5 h6 h7 h8
    have aK:Hid (∀H,AK H b vd vs vc (bg D.n).2.2->A3 (One b) w H->BY H b {D with n:=(bg D.n).2.2} F vd vs vc W aN):=λH h1 h2=>aH.o.ah h1 h2
    go_enter func83,ntmps83
    go_wp2_with (first
     | (go_at_call 77;refine(DB _ _ _ _ hd.o).k ?_;rintro w' rfl)
     | (go_at_call 121;refine(H9 _ _ _ _ _ _ aE.o).k ?_;rintro H⟨L,O⟩;have c01:=L.c0;have aM:=A1 (aK.o H L O))
     | (at_builtin;refine Dj rfl (.const (.slice none 0 0)) (.tmp 28) 92 92 rfl 125 i0 _ 2 24 underlying92 hi hz0 hz1 hz2 rfl (by decide) (.slice none 0 0) 0 [] (by rfl) (CT _ 0 125 2) vd D.A4.length (BX D.A4) (by rfl) (Src.bN underlying92 aM.o.A4 (Q6 _)) (by omega) ?_;intro a2 cap2 E hA;simp only[GF,Ff]at hA;have aI:=A1 ((hA.AE.alloc (.cells #[.slice none 0 0,A0 0] 129)).alloc (.cells #[.string d,A5 E.heap.size] 125));have aG:=A1 (Src.bh (size:=2) underlying92 (E.alloc (.cells #[.slice none 0 0,A0 0] 129)) #[.string d,A5 E.heap.size] 125 (E.heap.size+1) (by simp) 1 1 rfl (by simp[Value.oneCell'])))
     | (at_builtin;refine Dj rfl (.tmp 31) (.tmp 36) 92 92 rfl 125 i0 _ 2 24 underlying92 hi hz0 hz1 hz2 rfl (by decide) _ D.A4.length (BX D.A4) (by rfl) aI.o _ 1 _ (by rfl) aG.o (by omega) ?_;intro a3 z w3 hB;have hm:=A1 (A24 L aM.o hA hB))
     | (go_at_call 122;refine(MB _ b vd vs vc _ _ _ _ _ _ hm.o.1 hm.o.2 aJ).k ?_;rintro w5⟨I,k1,k2,k3,k4⟩))
    go_ret;have⟨g1,g2⟩:=fin.o H E w3 w5 _ I a3 z L O hA hB k1 k2 k3 k4;refine⟨E.heap.size,g1,by rw[q.o];rfl,?_⟩;rw[q.o,aB];exact g2
   ·(have aD:(bg D.n).1=false:=by simpa using aB)
    go_enter func83,ntmps83
    go_wp2_with (first|(go_at_call 77;refine(DB _ _ _ _ hd.o).k ?_;rintro w' rfl)|(go_at_call 121;refine(H9 _ _ _ _ _ _ aE.o).k ?_;rintro H⟨L,O⟩));go_ret;refine⟨w.heap.size,Ao _,by rw[q.o];rfl,?_⟩;rw[q.o,aD];exact(aH.o.eu (Ao _) _).bO aA L O
def Qd{w w1 w3 w5:ga}{b:Nat}{D:DS}{F:Nat->FC}{vd vs vc vl W:gd}{H:gh gd}{aE:Nat->gd}{Ft:Nat->Prop}{n1:DN}{es:gh AM}(hr:BY w b D F vd vs vc H aE)(d:∀k,C6 b D vd vs vc H aE k->Ft k)(aG:AK w1 b vd vs vc n1)(aB:A3 (One b) w w1)(Y:A3 (λ_=>False) w1 w3)(e3:D8 w3 vl es)(aD:∀g,vl.ownBlock=some g->w1.heap.size<=g)(aA:∀f,Dm f es->D.Ap f)(aF:AK w5 b vl vs W n1)(aH:w5.ownsRow 0 120 1 W (D.As.length+1) (H++[vl]))(L:A3 (λk=>k=b\/vc.ownBlock=some k) w3 w5)(hv:∀g,W.ownBlock=some g->vc.ownBlock=some g\/w3.heap.size<=g):
 Dv w Ft w5 b {D with A4:=es,As:=D.As++[es],n:=n1} F:=by
 have s1:=aB.Aj;have s3:=Y.Aj;have r1:=hr.ah aG aB;have r3:=r1.aN λk O=>Y.An k (r1.lt O) (λh=>h)
 have e5:=Ax e3 λg hg=>L.An g (AF e3 hg) (by
  have⟨c,hh⟩:=Be e3 hg;rintro (e|e)
  ·exact BR hh r3.Ah (by decide) e
  ·have⟨c',hh'⟩:=Be r3.Al e
   exact BR hh hh' (by decide) rfl)
 have r5:=r3.ct (F':=F) (VB':=aE) (es:=es) aF aH e5 L (λk O=>O) (λf E=>⟨rfl,rfl⟩) (λf E=>.inl (aA f E));have I:∀f,({D with A4:=es,As:=D.As++[es],n:=n1}:DS).Ap f->D.Ap f:=by
  rintro f (E|E|⟨c,z,E⟩)
  ·exact aA f E
  ·exact .inr (.inl E)
  ·rcases AU.1 z with z|z
   ·exact .inr (.inr ⟨c,z,E⟩)
   ·simp at z;subst z;exact aA f E
 refine Dv.bw ?_ r5 ?_
 ·have a:=(aB.af (S':=Ft) λk _ O=>by cases O;exact d b .Ah).Av Y (λx hx=>hx.elim);refine a.Av L ?_;rintro x (e|e) _
  ·subst e;exact d x .Ah
  ·exact d x (.Al e)
 ·intro k O;cases O using C6.bJ with
  | Ah=>exact .inl (d b .Ah)
  | dir e=>right;have:=aD _ e;omega
  | Ad e=>exact .inl (d k (.AI e))
  | Al e=>
   rcases hv k e with h|h
   ·exact .inl (d k (.Al h))
   ·right;omega
  | Df hm e=>
   rcases AU.1 hm with hm|hm
   ·exact .inl (d k (.Df hm e))
   ·simp at hm;subst hm;right;have:=aD _ e;omega
  | BK E=>exact .inl (d _ (.BK (I _ E)))
  | byt E e=>exact .inl (d _ (.bA (I _ E) e))
def Qc{w I L:ga}{b:Nat}{D:DS}{F:Nat->FC}{W O H:gd}{d:gh gd}{aA:Nat->gd}{n1:DN}(hr:BY w b D F W O H d aA)(E:AK I b W O H n1)(Y:A3 (One b) w I)(z:A3 (λ_=>False) I L):
 AK L b W O H n1/\L.ownsRow 0 120 1 H D.As.length d:=by
 have r1:=hr.ah E Y;exact⟨E.Al z (λh=>h),Ax r1.Al λg hg=>z.An g (AF r1.Al hg) (λh=>h)⟩
def App.bM{w w':ga}{e size n:Nat}{z:gd}{xs:gh gd}(h:App w w' e size (.slice none 0 0) z n xs):A3 Ab w w':=h.Al (λk d=>by simp[Value.ownBlock]at d)
def App.AR{w w':ga}{e size n:Nat}{z:gd}{xs:gh gd}(h:App w w' e size (.slice none 0 0) z n xs):∀g,z.ownBlock=some g->w.heap.size<=g:=by
 intro g d;rcases h.CA with h|h
 ·rw[h]at d;cases d
 ·rw[h]at d;cases d;exact Ao _
def App.cp{z w w':ga}{e size n:Nat}{v H:gd}{xs:gh gd}(h:App w w' e size v H n xs)(I:A3 (λ_=>False) z w)(L:∀g,v.ownBlock=some g->z.heap.size<=g):
 A3 (λ_=>False) z w'/\∀g,H.ownBlock=some g->z.heap.size<=g:=by
 refine⟨I.Cx h.Cx λk O hlt=>by have:=L k O;omega,λg d=>?_⟩;rcases h.CA with E|E
 ·rw[E]at d;exact L g d
 ·rw[E]at d;cases d;exact I.Aj
def Dn(D:DS)(d:gg):Int×DS:=
 if B5 D.A4 d<0 then (8,D) else
  let es:=D.A4.take (B5 D.A4 d).toNat++D.A4.drop ((B5 D.A4 d).toNat+1)
  ((bg D.n).2.1,if (bg D.n).1 then {D with A4:=es,As:=D.As++[es],n:=(bg D.n).2.2} else {D with n:=(bg D.n).2.2})
def ZE(w:ga)(b:Nat)(D:DS)(F:Nat->FC)(Ft:Nat->Prop)(h:Dh w b D F Ft)(nd:gg)(hs:D.A4.length<1099511627776/\D.As.length<1099511627776):
 Ag 193 #[A5 b,.string nd] w (Am (A0 (Dn D nd).1) λw'=>Dv w Ft w' b (Dn D nd).2 F):=by
 obtain⟨vd,vs,vc,vals,VB,hr,aG⟩:=h;obtain⟨hs1,aL⟩:=hs;have W:=A1 hr;have aR:=A1 aG;have c0:=hr.Ah.c0;have hd:=A1 hr.A4;have aF:=A1 hr.Ah;rcases Q4 D.A4 nd with⟨h1,h2⟩|⟨k,hk,h1,h2⟩
 ·have q:Hid (Dn D nd=(8,D)):=by unfold Hid Dn;rw[Ae (by omega)]
  have hfi:B5 D.A4 nd<0:=by omega
  go_enter func193,ntmps193
  go_wp2_with (go_at_call 77;refine(DB _ _ _ _ hd.o).k ?_;rintro w' rfl);go_ret;rw[q.o];exact⟨rfl,Dv.bw (A3.I _ _) W.o λk hk=>.inl (aG k hk)⟩
 ·have q:Hid (Dn D nd=((bg D.n).2.1,if (bg D.n).1 then {D with A4:=D.A4.take k++D.A4.drop (k+1),As:=D.As++[D.A4.take k++D.A4.drop (k+1)],n:=(bg D.n).2.2} else {D with n:=(bg D.n).2.2})):=by
   unfold Hid Dn;rw[Aa (by omega),h1];rfl
  have aT:=A1 h1;by_cases aA:(bg D.n).1=true
  ·have⟨i0,hi,hz0,hz1,hz2⟩:=Eg Tryz.cM;obtain⟨a,cap,rfl,z1,z2,aE⟩:=W.o.A4.Cd;obtain⟨g,rfl,_,_⟩:=aE k hk;unfold maxLen at z2;have aM:Hid (∀z,AK z b (AH g D.A4.length cap) vs vc (bg D.n).2.2->A3 (One b) w z->z.ownsRow 0 125 2 (AH g k cap) k ((BX D.A4).take (k*2))/\D8 z (AH g D.A4.length cap) D.A4):=λz g1 g2=>
    ⟨Tv (W.o.ah g1 g2).A4 (by omega),(W.o.ah g1 g2).A4⟩
   have aK:∀u∈(BX D.A4).take (k*2),u.oneCell'=true:=λu hu=>Q6 _ u (J6 hu);have Y:=A1 aK;have aP:Hid (∀f,Dm f (D.A4.take k++D.A4.drop (k+1))->D.Ap f):=by
    rintro f⟨e,he,rfl⟩;rcases AU.1 he with he|he
    ·exact .inl ⟨e,J6 he,rfl⟩
    ·exact .inl ⟨e,Mk he,rfl⟩
   (have aH:(D.A4.take k++D.A4.drop (k+1)).length=k+(D.A4.length-(k+1)):=by simp;omega);have a0:Hid (∀(E O:ga) (v2 v3:gd),App E O 125 2 v2 v3 (k+(D.A4.length-(k+1))) ((BX D.A4).take (k*2)++BX (D.A4.drop (k+1)))->D8 O v3 (D.A4.take k++D.A4.drop (k+1))):=by
    intro E O v2 v3 h;unfold D8;rw[aH,LS,<-A2D];exact h.AE
   by_cases aS:cap=k+1
   ·subst aS;(have hz:D.A4.length=k+1:=by omega);have aV:Hid (∀z E:ga,D8 z (AH g D.A4.length (k+1)) D.A4->A3 Ab z E->Src Tryz.prog 2 92 (AH g 0 0) 0 [] E):=
     λz E _ _=>Mc E underlying92 _ 0 _ [] rfl (by simp) (by simp)
    have aU:Hid (∀(E O:ga) (v2 v3:gd),App E O 125 2 v2 v3 (k+0) ((BX D.A4).take (k*2)++[])->D8 O v3 (D.A4.take k++D.A4.drop (k+1))):=by
     intro E O v2 v3 h;refine a0.o E O v2 v3 ?_;rw[KU (by omega),show D.A4.length-(k+1)=0 from by omega];exact h
    clear hz
    go_enter func193,ntmps193
    go_wp2_with (first
     | (go_at_call 77;refine(DB _ _ _ _ hd.o).k ?_;rintro w' rfl;rw[aT.o])
     | (go_at_call 121;refine(H9 _ _ _ _ _ _ aF.o).k ?_;rintro z⟨d,H⟩;have aW:=d.c0;have aI:=A1 (aM.o z d H))
     | (at_builtin;refine Dj rfl (.const (.slice none 0 0)) (.tmp 28) 92 92 rfl 125 i0 _ 2 24 underlying92 hi hz0 hz1 hz2 rfl (by decide) (.slice none 0 0) 0 [] (by rfl) (CT _ 0 125 2) (AH g k (k+1)) k ((BX D.A4).take (k*2)) (by rfl) (Src.bN underlying92 aI.o.1 Y.o) (by omega) ?_;intro a2 aQ E L;simp only[GF,Ff]at L;have aB:=A1 L.AE;have aZ:=(d.Al L.bM (λh=>h)).c0;have aD:=A1 (aV.o z E aI.o.2 L.bM))
     | (at_builtin;refine Dj rfl (.tmp 31) (.tmp 38) 92 92 rfl 125 i0 _ 2 24 underlying92 hi hz0 hz1 hz2 rfl (by decide) _ k ((BX D.A4).take (k*2)) (by rfl) aB.o _ _ _ (by rfl) aD.o (by omega) ?_;intro a3 aJ O hB;have I:=A1 (hB.cp L.bM L.AR);have hm:=A1 (Qc W.o d H I.o.1))
     | (go_at_call 122;refine(MB _ b _ vs vc _ _ _ _ _ _ hm.o.1 hm.o.2 aL).k ?_;rintro w5⟨aY,k1,k2,k3,k4⟩))
    go_ret;rw[q.o,aA];have e3:=aU.o _ _ _ _ hB;exact⟨rfl,Qd W.o aR.o d H I.o.1 e3 I.o.2 aP.o k1 k2 k3 k4⟩
   ·have aV:Hid (∀z E:ga,D8 z (AH g D.A4.length cap) D.A4->A3 Ab z E->Src Tryz.prog 2 92 (.slice (some (Ac g ((k+1)*2))) (D.A4.length-(k+1)) (cap-(k+1))) (D.A4.length-(k+1)) (BX (D.A4.drop (k+1))) E):=by
     intro z E h1 aX;have h2:=Ax h1 λx hx=>aX.An x (AF h1 hx) (λh=>h);refine Mc E underlying92 _ _ _ _ (by rw[A2E,CO]) ?_ (Q6 _);intro j u hu;rw[<-A2F,JN]at hu;(have aO:((Ac g ((k+1)*2)):Addr).add j=(Ac g ((k+1)*2+j)):=by unfold Addr.add;split<;>simp_all);rw[aO];exact BH h2 rfl hu
    go_enter func193,ntmps193
    go_wp2_with (first
     | (go_at_call 77;refine(DB _ _ _ _ hd.o).k ?_;rintro w' rfl;rw[aT.o])
     | (go_at_call 121;refine(H9 _ _ _ _ _ _ aF.o).k ?_;rintro z⟨d,H⟩;have aW:=d.c0;have aI:=A1 (aM.o z d H))
     | (at_builtin;refine Dj rfl (.const (.slice none 0 0)) (.tmp 28) 92 92 rfl 125 i0 _ 2 24 underlying92 hi hz0 hz1 hz2 rfl (by decide) (.slice none 0 0) 0 [] (by rfl) (CT _ 0 125 2) (AH g k cap) k ((BX D.A4).take (k*2)) (by rfl) (Src.bN underlying92 aI.o.1 Y.o) (by omega) ?_;intro a2 aQ E L;simp only[GF,Ff]at L;have aB:=A1 L.AE;have aZ:=(d.Al L.bM (λh=>h)).c0;have aD:=A1 (aV.o z E aI.o.2 L.bM))
     | (at_builtin;refine Dj rfl (.tmp 31) (.tmp 38) 92 92 rfl 125 i0 _ 2 24 underlying92 hi hz0 hz1 hz2 rfl (by decide) _ k ((BX D.A4).take (k*2)) (by rfl) aB.o _ _ _ (by rfl) aD.o (by omega) ?_;intro a3 aJ O hB;have I:=A1 (hB.cp L.bM L.AR);have hm:=A1 (Qc W.o d H I.o.1))
     | (go_at_call 122;refine(MB _ b _ vs vc _ _ _ _ _ _ hm.o.1 hm.o.2 aL).k ?_;rintro w5⟨aY,k1,k2,k3,k4⟩))
    go_ret;rw[q.o,aA];have e3:=a0.o _ _ _ _ hB;exact⟨rfl,Qd W.o aR.o d H I.o.1 e3 I.o.2 aP.o k1 k2 k3 k4⟩
  ·(have aN:(bg D.n).1=false:=by simpa using aA)
   go_enter func193,ntmps193
   go_wp2_with (first|(go_at_call 77;refine(DB _ _ _ _ hd.o).k ?_;rintro w' rfl;rw[aT.o])|(go_at_call 121;refine(H9 _ _ _ _ _ _ aF.o).k ?_;rintro z⟨d,H⟩));go_ret;rw[q.o,aN];exact⟨rfl,W.o.bO aG d H⟩
def Dt(es:gh AM)(i:Nat)(d:gg):Nat->gh AM
 | 0=>[]
 | k+1=>Dt es i d k++(match es[k]? with
  | some e=>if k≠i/\e.1≠d then [e] else []
  | none=>[])
def MN(es:gh AM)(i:Nat)(d:gg)(k:Nat):∀e∈Dt es i d k,e∈es:=by
 induction k with
 | zero=>intro e h;cases h
 | succ k ih=>
  intro e h;simp only[Dt]at h;rcases AU.1 h with h|h
  ·exact ih e h
  ·split at h
   ·rename_i x z;split at h
    ·simp at h;subst h;exact KM z
    ·cases h
   ·cases h
def OS(es:gh AM)(i:Nat)(d:gg)(k:Nat):(Dt es i d k).length<=k:=by
 induction k with
 | zero=>simp[Dt]
 | succ k ih=>
  simp only[Dt,AY];split
  ·split<;>simp<;>omega
  ·simp;omega
def SG(es:gh AM)(i:Nat)(d:gg)(k:Nat)(z:k<es.length)(h:k≠i/\(es[k]'z).1≠d):Dt es i d (k+1)=Dt es i d k++[es[k]'z]:=by
 simp only[Dt,DL z];rw[Ae h]
def OT(es:gh AM)(i:Nat)(d:gg)(k:Nat)(z:k<es.length)(h:¬(k≠i/\(es[k]'z).1≠d)):Dt es i d (k+1)=Dt es i d k:=by
 simp only[Dt,DL z];rw[Aa h,GJ]
def CU(D:DS)(oe d:gg):Int×DS:=match lookup D.A4 oe with
 | none=>(8,D)
 | some f=>if d=ByteArray.empty then (8,D) else
  let es:=Dt D.A4 (B5 D.A4 oe).toNat d D.A4.length++[(d,f)]
  ((bg D.n).2.1,if (bg D.n).1 then {D with A4:=es,As:=D.As++[es],n:=(bg D.n).2.2} else {D with n:=(bg D.n).2.2})
def Zu(w:ga)(b:Nat)(D:DS)(F:Nat->FC)(Ft:Nat->Prop)(h:Dh w b D F Ft)(oe d:gg)(hs:D.A4.length<1099511627776/\D.As.length<1099511627776):
 Ag 242 #[A5 b,.string oe,.string d] w λe w'=>e=.returned (A0 (CU D oe d).1)/\Dv w Ft w' b (CU D oe d).2 F:=by
 obtain⟨vd,vs,vc,vals,VB,hr,aD⟩:=h;obtain⟨hs1,aS⟩:=hs;have aH:=A1 hr;have aV:=A1 aD;have c0:=hr.Ah.c0;have hd:=A1 hr.A4;have aP:=A1 hr.Ah;rcases Ju D.A4 oe with⟨h1,h2⟩|⟨k,I,h1,h2,h3⟩
 ·have q:Hid (CU D oe d=(8,D)):=by unfold Hid CU;rw[h2]
  have hfi:B5 D.A4 oe<0:=by omega
  go_enter func242,ntmps242
  go_wp2_with (go_at_call 77;refine(DB _ _ _ _ hd.o).k ?_;rintro w' rfl);go_ret;rw[q.o];exact⟨rfl,Dv.bw (A3.I _ _) aH.o λk I=>.inl (aD k I)⟩
 ·have aR:=A1 h1;by_cases hn:d.toList.isEmpty=true
  ·(have q:Hid (CU D oe d=(8,D)):=by unfold Hid CU;rw[h2];exact Ae ((isEmpty_iff _).1 hn))
   go_enter func242,ntmps242
   go_wp2_with (go_at_call 77;refine(DB _ _ _ _ hd.o).k ?_;rintro w' rfl;rw[aR.o]);go_ret;rw[q.o];exact⟨rfl,Dv.bw (A3.I _ _) aH.o λk I=>.inl (aD k I)⟩
  ·(have hn':d.toList.isEmpty=false:=by simpa using hn);have q:Hid (CU D oe d=((bg D.n).2.1,if (bg D.n).1 then {D with A4:=Dt D.A4 k d D.A4.length++[(d,(D.A4[k]'I).2)],As:=D.As++[Dt D.A4 k d D.A4.length++[(d,(D.A4[k]'I).2)]],n:=(bg D.n).2.2} else {D with n:=(bg D.n).2.2})):=by
    unfold Hid CU;rw[h2];dsimp only;rw[Aa (λe=>hn ((isEmpty_iff _).2 e)),h1];rfl
   by_cases aJ:(bg D.n).1=true
   ·have⟨i0,hi,hz0,hz1,hz2⟩:=Eg Tryz.cM;obtain⟨a,cap,rfl,z1,z2,aG⟩:=aH.o.A4.Cd;obtain⟨g,rfl,_,_⟩:=aG k I;unfold maxLen at z2
    have cells:Hid (∀w1 wr,AK w1 b (.slice (some (Ac g 0)) D.A4.length cap) vs vc (bg D.n).2.2->A3 (One b) w w1->A3 Ab w1 wr->A7 wr b 0 (.slice (some (Ac g 0)) D.A4.length cap)/\
     ∀j (hj:j<D.A4.length),A7 wr g (j*2) (.string (D.A4[j]'hj).1)/\A7 wr g (j*2+1) (A5 ((D.A4[j]'hj).2))):=by
     intro w1 wr g1 g2 g3;have r1:=aH.o.ah g1 g2;have r3:=r1.aN λx hx=>g3.An x (r1.lt hx) (λh=>h);exact⟨r3.Ah.c0,λj hj=>⟨BH r3.A4 rfl (Q7 _ j hj),BH r3.A4 rfl (Q5 _ j hj)⟩⟩
    go_enter func242,ntmps242
    go_wp2_with (first
     | (go_at_call 77;refine(DB _ _ _ _ hd.o).k ?_;rintro w' rfl;rw[aR.o])
     | (go_at_call 121;refine(H9 _ _ _ _ _ _ aP.o).k ?_;rintro w1⟨H,O⟩;have c01:=H.c0))
    go_loopw [10,35] (λv i wr=>∃j:Nat,j<=D.A4.length/\i=A0 j/\A3 Ab w1 wr/\D8 wr v (Dt D.A4 k d j)/\Hid (∀x,v.ownBlock=some x->w1.heap.size<=x)) (λ_ i _=>D.A4.length-(intOf i).toNat)
    ·exact⟨0,Cb _,rfl,A3.I _ _,CT _ _ _ _,λx hx=>by simp[Value.ownBlock]at hx⟩
    ·obtain⟨j,hj,rfl,L,aT,aA⟩:=hrel;have aB:=A1 aT;have⟨cb,ce⟩:=cells.o w1 wr H O L;by_cases z:j<D.A4.length
     ·have⟨cn,cp⟩:=ce j z;by_cases Y:j=k
      ·(have aK:((j:Int)!=(k:Int))=false:=by simp[Y]);have q2:=A1 (OT D.A4 k d j z (λh=>h.1 Y));have aO:=A1 Y;go_wp2;go_roundw
       ·exact⟨j+1,by omega,by go_num,L,by rw[q2.o];exact aB.o,aA⟩
       ·simp[intOf];omega
      ·(have aK:((j:Int)!=(k:Int))=true:=by rw[bne_iff_ne];omega);have aO:=A1 Y;by_cases W:(D.A4[j]'z).1=d
       ·have aM:=(Qt _ _).2 W;have q2:=A1 (OT D.A4 k d j z (λh=>h.2 W));go_wp2;go_roundw
        ·exact⟨j+1,by omega,by go_num,L,by rw[q2.o];exact aB.o,aA⟩
        ·simp[intOf];omega
       ·have aM:=(VT _ _).2 W;have q2:=A1 (SG D.A4 k d j z ⟨aO.o,W⟩);have aI:=A1 (aB.o.alloc (.cells #[.string (D.A4[j]'z).1,A5 ((D.A4[j]'z).2)] 125));have aF:=A1 (Src.bh (size:=2) underlying92 wr #[.string (D.A4[j]'z).1,A5 ((D.A4[j]'z).2)] 125 wr.heap.size rfl 1 1 rfl (by simp[Value.oneCell']));have aU:=OS D.A4 k d j;go_wp2_with (at_builtin;refine Dj rfl (.tmp 53) (.tmp 61) 92 92 rfl 125 i0 _ 2 24 underlying92 hi hz0 hz1 hz2 rfl (by decide) _ _ _ (by rfl) aI.o _ 1 _ (by rfl) aF.o (by omega) ?_;intro a3 aE w3 hB;have E:=A1 (hB.cp (L.al _) aA.o));go_roundw
        ·refine⟨j+1,by omega,by go_num,E.o.1,?_,E.o.2⟩;rw[q2.o];have:=hB.AE;unfold D8;rw[LS,AY];exact this
        ·simp[intOf];omega
     ·have⟨cn,cp⟩:=ce k I;(have aQ:j=D.A4.length:=by omega);have aN:=aB.o;rw[aQ]at aN;have aI:=A1 (aN.alloc (.cells #[.string d,A5 ((D.A4[k]'I).2)] 125));have aF:=A1 (Src.bh (size:=2) underlying92 wr #[.string d,A5 ((D.A4[k]'I).2)] 125 wr.heap.size rfl 1 1 rfl (by simp[Value.oneCell']));have aU:=OS D.A4 k d D.A4.length
      go_wp2_with (first
       | (at_builtin;refine Dj rfl (.tmp 65) (.tmp 76) 92 92 rfl 125 i0 _ 2 24 underlying92 hi hz0 hz1 hz2 rfl (by decide) _ _ _ (by rfl) aI.o _ 1 _ (by rfl) aF.o (by omega) ?_;intro a3 aE w3 hB;have E:=A1 (hB.cp (L.al _) aA.o);have hm:=A1 (Qc aH.o H O E.o.1))
       | (go_at_call 122;refine(MB _ b _ vs vc _ _ _ _ _ _ hm.o.1 hm.o.2 aS).k ?_;rintro w5⟨vc',k1,k2,k3,k4⟩))
      go_ret;rw[q.o,aJ];have e3:D8 w3 (.slice a3 ((Dt D.A4 k d D.A4.length).length+1) aE) (Dt D.A4 k d D.A4.length++[(d,(D.A4[k]'I).2)]):=by
       have:=hB.AE;unfold D8;rw[LS,AY];exact this
      refine⟨rfl,Qd aH.o aV.o H O E.o.1 e3 E.o.2 ?_ k1 k2 k3 k4⟩;rintro f⟨e,he,rfl⟩;rcases AU.1 he with he|he
      ·exact .inl ⟨e,MN _ _ _ _ e he,rfl⟩
      ·simp at he;subst he;exact .inl ⟨_,BU I,rfl⟩
   ·(have aL:(bg D.n).1=false:=by simpa using aJ)
    go_enter func242,ntmps242
    go_wp2_with (first|(go_at_call 77;refine(DB _ _ _ _ hd.o).k ?_;rintro w' rfl;rw[aR.o])|(go_at_call 121;refine(H9 _ _ _ _ _ _ aP.o).k ?_;rintro w1⟨H,O⟩));go_ret;rw[q.o,aL];exact⟨rfl,aH.o.bO aD H O⟩
end
end Go.Proofs.YtodcnkbblippnaaGreatDoor
