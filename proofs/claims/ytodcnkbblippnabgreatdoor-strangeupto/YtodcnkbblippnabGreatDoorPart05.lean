/- Part 5 of a proof: walks of the program. -/
import Derived.Test.YtodcnkbblippnabGreatDoorPart03
namespace Go.Proofs.YtodcnkbblippnabGreatDoor
set_option maxRecDepth 100000
set_option maxHeartbeats 32000000
set_option linter.defProp false
open Go.Proofs.Tryz
section
open Go.RowKit
attribute [local go_sem ↓] Go.wp_at_zero Go.wp_at_succ
def Tryz.cI:(Tryz.prog.info? 70).map (λi=>(i.zero,i.size,i.bytes))=some (some (.agg #[.string ByteArray.empty,.pointer none]),2,24):=by kernel_rfl
def Tryz.cU:(Tryz.prog.info? 98).map (λi=>(i.zero,i.size,i.bytes))=some (some (.agg #[.slice none 0 0]),1,24):=by kernel_rfl
def Tryz.infoByte:(Tryz.prog.info? 5).map (λi=>(i.zero,i.size,i.bytes))=some (some (.int .u8 0),1,1):=by kernel_rfl
def Tryz.eM:(Tryz.prog.info? 9).map (λi=>(i.zero,i.size,i.bytes))=some (some (.string ByteArray.empty),1,16):=by kernel_rfl
def Io(room:Int):DN:=⟨room,0,0,0,0,0,0,false⟩
def YU(room:Int)(w:World):
 Aj 6 #[A0 room] w (Au (A7 w.heap.size) λw'=>AO w' w.heap.size (.slice none 0 0) (.slice none 0 0) (.slice none 0 0) (Io room)/\w'.heap.size=w.heap.size+1/\A5 Ab w w'):=by
 go_enter func6,ntmps6
 go_wp2;go_ret;exact⟨rfl,BN w _,by simp,(A5.C _ w).aj _⟩
def A1j(w:World)(b:Nat)(I H z:Value)(n:DN)(c:Int)(h:AO w b I H z n):
 Aj 45 #[A7 b,A0 c] w (Au (.tuple #[]) λw'=>AO w' b I H z {n with CP:=if c>0 then wrap64 (n.Bw+c) else 0}/\A5 (One b) w w'):=by
 have h4:=h.c4;have h5:=h.c5;have hf:=h.fz;have X:=A4 (h.s5 0);have Y:=A4 ((h.s5 0).s5 (wrap64 (n.Bw+c)));have O:=A4 ((A5.C (One b) w).ao rfl 5 (A0 0));have W:=A4 (((A5.C (One b) w).ao rfl 5 (A0 0)).ao rfl 5 (A0 (wrap64 (n.Bw+c))))
 go_enter func45,ntmps45
 go_wp2
 ·go_end0;exact⟨rfl,Y.o,W.o⟩
 ·go_end0;exact⟨rfl,X.o,O.o⟩
def Es(n:DN)(c p:Int):DN:={n with Dn:=if c>0 then wrap64 (n.Bw+c) else 0,BA:=if p<0 then wrap64 (-(wrap64 (p+1))) else p}
def A0V(w:World)(b:Nat)(W O I:Value)(n:DN)(c p:Int)(h:AO w b W O I n):
 Aj 17 #[A7 b,A0 c,A0 p] w (Au (.tuple #[]) λw'=>AO w' b W O I (Es n c p)/\A5 (One b) w w'):=by
 have h4:=h.c4;have h6:=h.c6;have h7:=h.c7;have hf:=h.fz;have Q:=A4 <| h
 go_enter func17,ntmps17
 go_wp2
 ·have H:0<c:=by assumption
  have z:p<0:=by assumption
  go_end0;have q:Es n c p = {n with Dn:=wrap64 (n.Bw+c),BA:=wrap64 (-(wrap64 (p+1)))}:=by simp[Es,H,z]
  rw[q];exact⟨rfl,(((Q.o.s6 0).s6 _).s7 _).s7 _,((((A5.C (One b) w).ao rfl 6 _).ao rfl 6 _).ao rfl 7 _).ao rfl 7 _⟩
 ·have H:0<c:=by assumption
  have z:0<=p:=by assumption
  go_end0;have q:Es n c p = {n with Dn:=wrap64 (n.Bw+c),BA:=p}:=by simp[Es,H];omega
  rw[q];exact⟨rfl,((Q.o.s6 0).s6 _).s7 _,(((A5.C (One b) w).ao rfl 6 _).ao rfl 6 _).ao rfl 7 _⟩
 ·have H:c<=0:=by assumption
  have z:p<0:=by assumption
  go_end0;have q:Es n c p = {n with Dn:=0,BA:=wrap64 (-(wrap64 (p+1)))}:=by simp[Es,z];omega
  rw[q];exact⟨rfl,((Q.o.s6 0).s7 _).s7 _,(((A5.C (One b) w).ao rfl 6 _).ao rfl 7 _).ao rfl 7 _⟩
 ·have H:c<=0:=by assumption
  have z:0<=p:=by assumption
  go_end0;have q:Es n c p = {n with Dn:=0,BA:=p}:=by simp[Es];omega
  rw[q];exact⟨rfl,(Q.o.s6 0).s7 _,((A5.C (One b) w).ao rfl 6 _).ao rfl 7 _⟩
def A1b(w:World)(b:Nat)(I H z:Value)(n:DN)(h:AO w b I H z n):
 Aj 73 #[A7 b] w (Au (.bool n.Bf) λw'=>w=w'):=by
 have h4:=h.bO
 go_enter func73,ntmps73
 go_wp2;go_ret;exact⟨rfl,rfl⟩
def XN(w:World)(b:Nat)(I H z:Value)(n:DN)(h:AO w b I H z n):
 Aj 21 #[A7 b] w (Au (A0 n.Bt) λw'=>w=w'):=by
 have h4:=h.c8
 go_enter func21,ntmps21
 go_wp2;go_ret;exact⟨rfl,rfl⟩
def Ct(D:DS)(F:Nat->FC)(name:ByteArray):Int×Int:=match lookup D.A6 name with
 | some f=>(((F f).1.length:Nat),0)
 | none=>(0,8)
def X0(w:World)(b:Nat)(D:DS)(F:Nat->FC)(vd vs vc:Value)(H:List Value)(aA:Nat->Value)(h:BY w b D F vd vs vc H aA)(name:ByteArray):
 Aj 167 #[A7 b,.string name] w (Au (.tuple #[A0 (Ct D F name).1,A0 (Ct D F name).2]) λw'=>w=w'):=by
 have hc:=h.Ai.c0;obtain⟨a,cap,rfl,hc1,W,z⟩:=h.A6.BV;have X:=h.A6;unfold maxLen at W;rcases IQ D.A6 name with⟨Y,I⟩|⟨k,O,Y,I,h3⟩
 ·have q:Hid (Ct D F name=(0,8)):=by unfold Hid Ct;rw[I]
  have hfi:B4 D.A6 name<0:=by omega
  go_enter func167,ntmps167
  go_wp2_with (go_at_call 24;refine(DC _ _ _ _ X).k ?_;rintro w' rfl);go_ret2;rw[q.o];exact⟨rfl,rfl⟩
 ·have q:Hid (Ct D F name=((((F (D.A6[k]'O).2).1.length:Nat):Int),0)):=by unfold Hid Ct;rw[I]
  have⟨hfb,hbs⟩:=h.cd k O;have⟨a',cap',hv,_,_⟩:=hbs.BV;rw[hv]at hfb;have hb0:=hfb.c0;obtain⟨g,rfl,hn,hp⟩:=z k O;have aB:=A4 <| Y
  go_enter func167,ntmps167
  go_wp2_with (go_at_call 24;refine(DC _ _ _ _ X).k ?_;rintro w' rfl;rw[aB.o]);go_ret2;rw[q.o];exact⟨rfl,rfl⟩
def Ly(w:World)(b:Nat)(vd vs O:Value)(n:DN)(m:Nat)(z:List Value)(a:Option Addr)(len cap:Nat)(h:AO w b vd vs O n)(hc:w.ownsRow 0 98 1 O m z)(hm:m<1099511627776):
 Aj 26 #[A7 b,.slice a len cap] w (Au (.tuple #[]) λw'=>
  ∃I,AO w' b (.slice a len cap) vs I n/\w'.ownsRow 0 98 1 I (m+1) (z++[.slice a len cap])/\A5 (λk=>k=b\/O.ownBlock=some k) w w'/\(∀g,I.ownBlock=some g->O.ownBlock=some g\/w.heap.size<=g)):=by
 have⟨i0,hi,hz0,hz1,hz2⟩:=Eb Tryz.cU;have h2:=h.c2;have h0:=h.c0;have hf:=h.fz;have W:O.ownBlock≠some b:=by
  intro e;have⟨c,hh⟩:=Bd hc e;exact BP hh h (by decide) rfl
 have hs:=A4 (h.s0 (.slice a len cap));have aA:=A4 ((NM hc (a:=(Ad b 0)) W (.slice a len cap)).alloc (.cells #[.slice a len cap] 98));have Y:=A4 (Src.ba (size:=1) underlying58 (w.sC b 0 (.slice a len cap)) #[.slice a len cap] 98 w.heap.size (by simp) 1 1 rfl (by simp[Value.oneCell']));have aD:=A4 (((A5.C (λk=>k=b\/O.oB k) w).ao (.inl rfl) 0 (.slice a len cap)).aj (.cells #[.slice a len cap] 98));have aB:=A4 <| W
 go_enter func26,ntmps26
 go_wp2_with (at_builtin;go_loud (refine De rfl (.tmp 12) (.tmp 15) 58 58 rfl 98 i0 _ 1 24 underlying58 hi hz0 hz1 hz2 rfl (by decide) O m z (by rfl) aA.o _ 1 _ (by rfl) Y.o (by omega) ?_);intro a2 cap2 w1 X;have H:=(hs.o.aj _).Cp X.Cp aB.o;have h21:=H.c2;have hf1:=H.fz);go_end0;refine⟨rfl,_,H.s2 _,?_,?_,?_⟩
 ·refine NM X.AP (a:=(Ad b 2)) ?_ _;intro e;have⟨c,hh⟩:=Bd X.AP e;exact BP hh H (by decide) rfl
 ·exact(aD.o.Cp X.Cp (λk hk _=>.inr hk)).ao (.inl rfl) 2 _
 ·intro g hg;rcases X.Cu with h|h
  ·exact .inl (h.symm.trans hg)
  ·right;rw[hg]at h;cases h;simp
def upd(F:Nat->FC)(f0:Nat)(c:FC):Nat->FC:=λf=>if f=f0 then c else F f
def Cy(D:DS)(name:ByteArray)(f0:Nat):Int×DS:=
 if name=ByteArray.empty\/B4 D.A6 name≥0 then (8,D) else
  ((bg D.n).2.1,if (bg D.n).1 then {D with A6:=D.A6++[(name,f0)],Ap:=D.Ap++[D.A6++[(name,f0)]],n:=(bg D.n).2.2} else {D with n:=(bg D.n).2.2})
def isEmpty_iff(s:ByteArray):s.toList.isEmpty=true↔s=ByteArray.empty:=by
 rw[List.isEmpty_iff,Kf];exact⟨λh=>A2F (by rw[h];rfl),λh=>by rw[h];rfl⟩
def BY.en{w:World}{b:Nat}{D:DS}{F:Nat->FC}{X I H:Value}{z:List Value}{W:Nat->Value}(h:BY w b D F X I H z W){f0:Nat}(hf:w.heap.size<=f0)(c:FC):
 BY w b D (upd F f0 c) X I H z W:=
 ⟨h.Ai,h.A6,h.AK,h.An,h.Da,λf O=>by
  have:f≠f0:=by have:=h.lt (.BL O);omega
  simp only[upd,this,C4];exact h.BL f O,h.Gb⟩
def C7.n{b:Nat}{D:DS}{n:DN}{W I H:Value}{z:List Value}{O:Nat->Value}{k:Nat}(h:C7 b {D with n:=n} W I H z O k):C7 b D W I H z O k:=by
 cases h using C7.bE with
 | Ai=>exact .Ai
 | dir e=>exact .A6 e
 | Ag e=>exact .AK e
 | An e=>exact .An e
 | Da h e=>exact .Da h e
 | BL h=>exact .BL h
 | byt h e=>exact .bw h e
def BY.bN{w w':World}{b:Nat}{D:DS}{F:Nat->FC}{W O X:Value}{z:List Value}{Y:Nat->Value}{Ft:Nat->Prop}(h:BY w b D F W O X z Y)(H:∀k,C7 b D W O X z Y k->Ft k){n:DN}(hb:AO w' b W O X n)(hc:A5 (One b) w w'):Ds w Ft w' b {D with n:=n} F:=
 Ds.bt (hc.ae λk _ I=>by cases I;exact H b .Ai) (h.ai hb hc) λk I=>.inl (H k I.n)
def App.An{w w':World}{e size n:Nat}{v H:Value}{xs:List Value}(h:App w w' e size v H n xs){S:Nat->Prop}(I:∀k,v.ownBlock=some k->S k):A5 S w w':=
 (A5.C S w).Cp h.Cp λk z _=>I k z
def CY.az{w w':World}{f:Nat}{z:Value}{Ag:Int}(h:CY w f z Ag)(H:w'.heap[f]?=w.heap[f]?):CY w' f z Ag:=H.trans h
def A1n{w w1 W w3 w5:World}{b:Nat}{D:DS}{F:Nat->FC}{vd vs vc aD aF:Value}{aA:List Value}{aK:Nat->Value}{Ft:Nat->Prop}{n1:DN}{a3:Option Addr}{Y:Nat}{name:ByteArray}(hr:BY w b D F vd vs vc aA aK)(I:∀k,C7 b D vd vs vc aA aK k->Ft k)(aM:AO w1 b vd vs vc n1)(aG:A5 (One b) w w1)(hA:App w1 W 70 2 (.slice none 0 0) aD D.A6.length (BW D.A6))(hB:App ((W.alloc (.cells #[.slice none 0 0,.int .i64 0] 68)).alloc (.cells #[.string name,.pointer (some ⟨W.heap.size,0,none⟩)] 70)) w3 70 2 aD (.slice a3 (D.A6.length+1) Y) (D.A6.length+1) (BW D.A6++[.string name,.pointer (some ⟨W.heap.size,0,none⟩)]))(aL:AO w5 b (.slice a3 (D.A6.length+1) Y) vs aF n1)(aN:w5.ownsRow 0 98 1 aF (D.Ap.length+1) (aA++[.slice a3 (D.A6.length+1) Y]))(aB:A5 (λk=>k=b\/vc.ownBlock=some k) w3 w5)(hv:∀g,aF.ownBlock=some g->vc.ownBlock=some g\/w3.heap.size<=g):
 w.heap.size<=W.heap.size/\Ds w Ft w5 b {D with A6:=D.A6++[(name,W.heap.size)],Ap:=D.Ap++[D.A6++[(name,W.heap.size)]],n:=n1} (upd F W.heap.size ([],0)):=by
 have aE:∀k,aD.ownBlock=some k->k=w1.heap.size:=by
  intro k X;rcases hA.Cu with h|h
  ·rw[h]at X;cases X
  ·rw[h]at X;cases X;rfl
 have s1:=aG.Am;have s2:=hA.Cp.size;have s3:=hB.Cp.size;simp only[MF]at s3;have aI:=
  (((hA.An (S:=λ_=>False) (by intro k X;simp[Value.ownBlock]at X)).aj (.cells #[.slice none 0 0,.int .i64 0] 68)).aj (.cells #[.string name,.pointer (some ⟨W.heap.size,0,none⟩)] 70)).Cp hB.Cp
    (λk X hlt=>by have:=aE k X;omega)
 have r1:=hr.ai aM aG;have r3:=r1.aM λk X=>aI.Ao k (r1.lt X) (λh=>h);have f0:CY ((W.alloc (.cells #[.slice none 0 0,.int .i64 0] 68)).alloc (.cells #[.string name,.pointer (some ⟨W.heap.size,0,none⟩)] 70)) W.heap.size (.slice none 0 0) 0:=by
  unfold CY;rw[CU _ _ _ (by simp)];exact BN _ _
 have f3:=f0.az (hB.Cp.block _ (by simp;omega) (λe=>by have:=AG hA.AP e.symm;omega))
 have f5:=f3.az (aB.Ao _ (by omega) (by
  rintro (e|e)
  ·exact BP f3 r3.Ai (by decide) e
  ·have⟨c,hh⟩:=Bd r3.An e
   exact BP f3 hh (by decide) rfl))
 have e3:CG w3 (.slice a3 (D.A6.length+1) Y) (D.A6++[(name,W.heap.size)]):=by
  have:=hB.AP;unfold CG;rw[KU];simpa[BW] using this
 have e5:=AA e3 λg hg=>aB.Ao g (AG e3 hg) (by
  have⟨c,hh⟩:=Bd e3 hg;rintro (e|e)
  ·exact BP hh r3.Ai (by decide) e
  ·have⟨c',hh'⟩:=Bd r3.An e
   exact BP hh hh' (by decide) rfl)
 have aH:∀f,D.As f->f≠W.heap.size:=λf O=>by have:=hr.lt (.BL O);omega
 have r5:=r3.ct (F':=upd F W.heap.size ([],0)) (VB':=λf=>if f=W.heap.size then .slice none 0 0 else aK f) (es:=D.A6++[(name,W.heap.size)]) aL aN e5 aB (λk X=>X)
  (λf O=>by have:=aH f O;simp[upd,this])
  (λf O=>by
   obtain⟨e,z,rfl⟩:=O;rcases AU.1 z with z|z
   ·exact .inl (.inl ⟨e,z,rfl⟩)
   ·simp at z;subst z;right;simp only[upd,Cn]
    exact⟨f5,CL _ _ _ _,rfl⟩)
 refine⟨by omega,Ds.bt ?_ r5 ?_⟩
 ·have a:=(aG.ae (S':=Ft) λk _ X=>by cases X;exact I b .Ai).AJ aI (λx hx=>hx.elim);refine a.AJ aB ?_;rintro x (e|e) _
  ·subst e;exact I x .Ai
  ·exact I x (.An e)
 ·intro k X;cases X using C7.bE with
  | Ai=>exact .inl (I b .Ai)
  | dir e=>
   rcases hB.Cu with h|h
   ·rw[h]at e;have:=aE _ e;right;omega
   ·rw[h]at e;cases e;right;simp;omega
  | Ag e=>exact .inl (I k (.AK e))
  | An e=>
   rcases hv k e with h|h
   ·exact .inl (I k (.An h))
   ·right;omega
  | Da hm e=>
   rcases AU.1 hm with hm|hm
   ·exact .inl (I k (.Da hm e))
   ·simp at hm;subst hm;rcases hB.Cu with h|h
    ·rw[h]at e;have:=aE _ e;right;omega
    ·rw[h]at e;cases e;right;simp;omega
  | BL O=>
   rcases O with⟨e,z,rfl⟩|O|⟨c,H,O⟩
   ·rcases AU.1 z with z|z
    ·exact .inl (I _ (.BL (.inl ⟨e,z,rfl⟩)))
    ·simp at z;subst z;right;simp;omega
   ·exact .inl (I _ (.BL (.inr (.inl O))))
   ·rcases AU.1 H with H|H
    ·exact .inl (I _ (.BL (.inr (.inr ⟨c,H,O⟩))))
    ·simp at H;subst H;obtain⟨e,z,rfl⟩:=O;rcases AU.1 z with z|z
     ·exact .inl (I _ (.BL (.inl ⟨e,z,rfl⟩)))
     ·simp at z;subst z;right;simp;omega
  | byt O e=>
   rename_i f;by_cases hx:f=W.heap.size
   ·simp[hx,Value.ownBlock]at e
   ·simp only[hx,C4]at e;have aJ:D.As f:=by
     rcases O with⟨en,z,rfl⟩|O|⟨c,H,O⟩
     ·rcases AU.1 z with z|z
      ·exact .inl ⟨en,z,rfl⟩
      ·simp at z;subst z;exact absurd rfl hx
     ·exact .inr (.inl O)
     ·rcases AU.1 H with H|H
      ·exact .inr (.inr ⟨c,H,O⟩)
      ·simp at H;subst H;obtain⟨en,z,rfl⟩:=O;rcases AU.1 z with z|z
       ·exact .inl ⟨en,z,rfl⟩
       ·simp at z;subst z;exact absurd rfl hx
    exact .inl (I _ (.bw aJ e))
def A1m{W w2 Y:World}{b:Nat}{D:DS}{F:Nat->FC}{vd vs X I:Value}{z:List Value}{aD:Nat->Value}{n1:DN}{v3:Value}{n2:Nat}{xs:List Value}{o1 o2:Obj}(aB:AO W b vd vs X n1)(r1:BY W b {D with n:=n1} F vd vs X z aD)(hA:App W w2 70 2 (.slice none 0 0) I D.A6.length (BW D.A6))(hB:App ((w2.alloc o1).alloc o2) Y 70 2 I v3 n2 xs):
 AO Y b vd vs X n1/\Y.ownsRow 0 98 1 X D.Ap.length z:=by
 have aA:∀k,I.ownBlock=some k->k=W.heap.size:=by
  intro k H;rcases hA.Cu with h|h
  ·rw[h]at H;cases H
  ·rw[h]at H;cases H;rfl
 have O:=
  (((hA.An (S:=λ_=>False) (by intro k H;simp[Value.ownBlock]at H)).aj o1).aj o2).Cp hB.Cp (λk H hlt=>by have:=aA k H;omega)
 refine⟨aB.An O (λh=>h),AA r1.An λg hg=>O.Ao g (AG r1.An hg) (λh=>h)⟩
def A1o(w:World)(b:Nat)(D:DS)(F:Nat->FC)(Ft:Nat->Prop)(h:D7 w b D F Ft)(name:ByteArray)(hs:D.A6.length<1099511627776/\D.Ap.length<1099511627776):
 Aj 7 #[A7 b,.string name] w λe w'=>∃f0,w.heap.size<=f0/\e=.returned (A0 (Cy D name f0).1)/\Ds w Ft w' b (Cy D name f0).2 (upd F f0 ([],0)):=by
 obtain⟨vd,vs,vc,Y,aO,hr,aB⟩:=h;obtain⟨hs1,aK⟩:=hs;have hq:∀f0,w.heap.size<=f0->(Cy D name f0).2=D->Ds w Ft w b (Cy D name f0).2 (upd F f0 ([],0)):=λf0 hf e=>by
  rw[e];exact Ds.bt (A5.C _ _) (hr.en hf _) λk hk=>.inl (aB k hk)
 have aM:=A4 hq;have aI:=A4 hr;have c0:=hr.Ai.c0;have hd:=A4 hr.A6;have aF:=A4 hr.Ai;have⟨ad,cap,hvd,_⟩:=hr.A6.BV;clear hr hvd;by_cases hn:name.toList.isEmpty=true
 ·have q:Hid (Cy D name w.heap.size=(8,D)):=by unfold Hid Cy;rw[Ah (.inl ((isEmpty_iff _).1 hn))]
  go_enter func7,ntmps7
  go_wp2;go_ret;exact⟨_,Aq _,by rw[q.o];rfl,aM.o _ (Aq _) (by rw[q.o])⟩
 ·have hn':name.toList.isEmpty=false:=by simpa using hn
  have aG:Hid (name≠ByteArray.empty):=λe=>hn ((isEmpty_iff _).2 e);clear hn;by_cases hx:(0:Int)<=B4 D.A6 name
  ·(have q:Hid (Cy D name w.heap.size=(8,D)):=by unfold Hid Cy;rw[Ah (.inr hx)])
   go_enter func7,ntmps7
   go_wp2_with (go_at_call 24;refine(DC _ _ _ _ hd.o).k ?_;rintro w' rfl);go_ret;exact⟨_,Aq _,by rw[q.o];rfl,aM.o _ (Aq _) (by rw[q.o])⟩
  ·have q:Hid (∀f0,Cy D name f0=((bg D.n).2.1,if (bg D.n).1 then {D with A6:=D.A6++[(name,f0)],Ap:=D.Ap++[D.A6++[(name,f0)]],n:=(bg D.n).2.2} else {D with n:=(bg D.n).2.2})):=by
    intro f0;unfold Cy;rw[Ae (by rintro (h|h);exact aG h;exact hx h)]
   (have hx':B4 D.A6 name<0:=by omega);by_cases aD:(bg D.n).1=true
   ·have⟨i0,hi,hz0,hz1,hz2⟩:=Eb Tryz.cI
    have fin:Hid (∀(I H w3 w5:World) (aA O:Value) (a3:Option Addr) (z:Nat),AO I b vd vs vc (bg D.n).2.2->A5 (One b) w I->App I H 70 2 (.slice none 0 0) aA D.A6.length (BW D.A6)->
     App ((H.alloc (.cells #[.slice none 0 0,A0 0] 68)).alloc (.cells #[.string name,A7 H.heap.size] 70)) w3 70 2 aA (.slice a3 (D.A6.length+1) z) (D.A6.length+1) (BW D.A6++[.string name,A7 H.heap.size])->
     AO w5 b (.slice a3 (D.A6.length+1) z) vs O (bg D.n).2.2->w5.ownsRow 0 98 1 O (D.Ap.length+1) (Y++[.slice a3 (D.A6.length+1) z])->A5 (λk=>k=b\/vc.ownBlock=some k) w3 w5->(∀g,O.ownBlock=some g->vc.ownBlock=some g\/w3.heap.size<=g)->
     w.heap.size<=H.heap.size/\Ds w Ft w5 b {D with A6:=D.A6++[(name,H.heap.size)],Ap:=D.Ap++[D.A6++[(name,H.heap.size)]],n:=(bg D.n).2.2} (upd F H.heap.size ([],0))):=
     λI H w3 w5 aA O a3 z h1 h2 h3 h4 h5 h6 h7 h8=>A1n aI.o aB h1 h2 h3 h4 h5 h6 h7 h8
    have aL:Hid (∀I,AO I b vd vs vc (bg D.n).2.2->A5 (One b) w I->BY I b {D with n:=(bg D.n).2.2} F vd vs vc Y aO):=λI h1 h2=>aI.o.ai h1 h2
    go_enter func7,ntmps7
    go_wp2_with (first
     | (go_at_call 24;refine(DC _ _ _ _ hd.o).k ?_;rintro w' rfl)
     | (go_at_call 25;refine(GU _ _ _ _ _ _ aF.o).k ?_;rintro I⟨W,X⟩;have c01:=W.c0;have aN:=A4 (aL.o I W X))
     | (at_builtin;refine De rfl (.const (.slice none 0 0)) (.tmp 28) 57 57 rfl 70 i0 _ 2 24 underlying57 hi hz0 hz1 hz2 rfl (by decide) (.slice none 0 0) 0 [] (by rfl) (CL _ 0 70 2) vd D.A6.length (BW D.A6) (by rfl) (Src.bM underlying57 aN.o.A6 (OC _)) (by omega) ?_;intro a2 cap2 H hA;simp only[GC,F7]at hA;have aJ:=A4 ((hA.AP.alloc (.cells #[.slice none 0 0,A0 0] 68)).alloc (.cells #[.string name,A7 H.heap.size] 70));have aH:=A4 (Src.ba (size:=2) underlying57 (H.alloc (.cells #[.slice none 0 0,A0 0] 68)) #[.string name,A7 H.heap.size] 70 (H.heap.size+1) (by simp) 1 1 rfl (by simp[Value.oneCell'])))
     | (at_builtin;refine De rfl (.tmp 31) (.tmp 36) 57 57 rfl 70 i0 _ 2 24 underlying57 hi hz0 hz1 hz2 rfl (by decide) _ D.A6.length (BW D.A6) (by rfl) aJ.o _ 1 _ (by rfl) aH.o (by omega) ?_;intro a3 z w3 hB;have hm:=A4 (A1m W aN.o hA hB))
     | (go_at_call 26;refine(Ly _ b vd vs vc _ _ _ _ _ _ hm.o.1 hm.o.2 aK).k ?_;rintro w5⟨O,k1,k2,k3,k4⟩))
    go_ret;have⟨g1,g2⟩:=fin.o I H w3 w5 _ O a3 z W X hA hB k1 k2 k3 k4;refine⟨H.heap.size,g1,by rw[q.o];rfl,?_⟩;rw[q.o,aD];exact g2
   ·(have aE:(bg D.n).1=false:=by simpa using aD)
    go_enter func7,ntmps7
    go_wp2_with (first|(go_at_call 24;refine(DC _ _ _ _ hd.o).k ?_;rintro w' rfl)|(go_at_call 25;refine(GU _ _ _ _ _ _ aF.o).k ?_;rintro I⟨W,X⟩));go_ret;refine⟨w.heap.size,Aq _,by rw[q.o];rfl,?_⟩;rw[q.o,aE];exact(aI.o.en (Aq _) _).bN aB W X
end
end Go.Proofs.YtodcnkbblippnabGreatDoor
