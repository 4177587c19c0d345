/- Part 2 of a proof: walks of the program. -/
import Derived.Deep.LoopGhost
import Derived.BigQuiet
import Derived.Deep.QuietTactic
import Derived.Test.YtodcnkbblippnaaGreatDoorPart01
namespace Go.Proofs.YtodcnkbblippnaaGreatDoor
set_option maxRecDepth 100000
set_option maxHeartbeats 32000000
set_option linter.defProp false
open Go.Proofs.Tryz
section
open Go.RowKit
structure DS where
 A5:List AN
 AF:List AN
 Aq:List (List AN)
 n:DN
abbrev FC:=List UInt8×Int
def Dd(f:Nat)(es:List AN):Prop:=∃e∈es,e.2=f
def DS.Ap(D:DS)(f:Nat):Prop:=Dd f D.A5\/Dd f D.AF\/∃c∈D.Aq,Dd f c
structure BV (w:World) (b:Nat) (D:DS) (F:Nat->FC) (vd vs vc:Value) (aA:List Value) (VB:Nat->Value):Prop where
 Af:AL w b vd vs vc D.n
 A5:D4 w vd D.A5
 AF:D4 w vs D.AF
 An:w.ownsRow 0 120 1 vc D.Aq.length aA
 D9:∀i (h:i<D.Aq.length),∃v,aA[i]?=some v/\D4 w v (D.Aq[i]'h)
 BH:∀f,D.Ap f->CY w f (VB f) (F f).2/\G0 w (VB f) (F f).1
 Gr:∀f f' g,D.Ap f->D.Ap f'->(VB f).ownBlock=some g->(VB f').ownBlock=some g->f=f'
def C5(b:Nat)(D:DS)(vd vs vc:Value)(aA:List Value)(VB:Nat->Value)(k:Nat):Prop:=
 k=b\/vd.ownBlock=some k\/vs.ownBlock=some k\/vc.ownBlock=some k\/(∃v∈aA,v.ownBlock=some k)\/D.Ap k\/∃f,D.Ap f/\(VB f).ownBlock=some k
section
variable {b:Nat} {D:DS} {vd vs vc:Value} {aA:List Value} {VB:Nat->Value}
def C5.Af:C5 b D vd vs vc aA VB b:=.inl rfl
def C5.A5{k:Nat}(h:vd.ownBlock=some k):C5 b D vd vs vc aA VB k:=.inr (.inl h)
def C5.AF{k:Nat}(h:vs.ownBlock=some k):C5 b D vd vs vc aA VB k:=.inr (.inr (.inl h))
def C5.An{k:Nat}(h:vc.ownBlock=some k):C5 b D vd vs vc aA VB k:=.inr (.inr (.inr (.inl h)))
def C5.D9{k:Nat}{v:Value}(d:v∈aA)(h:v.ownBlock=some k):C5 b D vd vs vc aA VB k:=.inr (.inr (.inr (.inr (.inl ⟨v,d,h⟩))))
def C5.BH{f:Nat}(h:D.Ap f):C5 b D vd vs vc aA VB f:=.inr (.inr (.inr (.inr (.inr (.inl h)))))
def C5.bx{f k:Nat}(d:D.Ap f)(h:(VB f).ownBlock=some k):C5 b D vd vs vc aA VB k:=.inr (.inr (.inr (.inr (.inr (.inr ⟨f,d,h⟩)))))
def C5.bH{d:(k:Nat)->C5 b D vd vs vc aA VB k->Prop}(Af:d b .Af)(dir:∀ {k} (e:vd.ownBlock=some k),d k (.A5 e))(Ad:∀ {k} (e:vs.ownBlock=some k),d k (.AF e))(An:∀ {k} (e:vc.ownBlock=some k),d k (.An e))(D9:∀ {k v} (E:v∈aA) (e:v.ownBlock=some k),d k (.D9 E e))(BH:∀ {f} (h:D.Ap f),d f (.BH h))(byt:∀ {f k} (z:D.Ap f) (e:(VB f).ownBlock=some k),d k (.bx z e)){k:Nat}(t:C5 b D vd vs vc aA VB k):d k t:=by
 rcases t with rfl|e|e|e|⟨v,E,e⟩|h|⟨f,z,e⟩
 ·exact Af
 ·exact dir e
 ·exact Ad e
 ·exact An e
 ·exact D9 E e
 ·exact BH h
 ·exact byt z e
end
def Da(w:World)(b:Nat)(D:DS)(F:Nat->FC)(Ft:Nat->Prop):Prop:=
 ∃vd vs vc aA VB,BV w b D F vd vs vc aA VB/\∀k,C5 b D vd vs vc aA VB k->Ft k
section
variable {w w':World} {b:Nat} {D:DS} {F:Nat->FC} {vd vs vc:Value} {aA:List Value} {VB:Nat->Value}
def BV.dx(h:BV w b D F vd vs vc aA VB):aA.length=D.Aq.length:=by have:=h.An.1;omega
def BV.lt(h:BV w b D F vd vs vc aA VB){k:Nat}(E:C5 b D vd vs vc aA VB k):k<w.heap.size:=by
 cases E using C5.bH with
 | Af=>exact By h.Af
 | dir e=>exact Ay h.A5 e
 | Ad e=>exact Ay h.AF e
 | An e=>exact Ay h.An e
 | D9 hv e=>
  obtain⟨i,z⟩:=List.getElem?_of_mem hv;have I:i<D.Aq.length:=by rw[<-h.dx];exact(HE.1 z).1
  obtain⟨v',d,L⟩:=h.D9 i I;rw[z]at d;cases d;exact Ay L e
 | BH hf=>exact By (h.BH _ hf).1
 | byt hf e=>exact Ay (h.BH _ hf).2 e
def BV.aI(h:BV w b D F vd vs vc aA VB)(z:Gc (C5 b D vd vs vc aA VB) w w'):BV w' b D F vd vs vc aA VB:=by
 refine⟨?_,?_,?_,?_,?_,?_,h.Gr⟩
 ·have:=h.Af;unfold AL at this ⊢;rw[z b .Af];exact this
 ·exact Aw h.A5 λg d=>z g (.A5 d)
 ·exact Aw h.AF λg d=>z g (.AF d)
 ·exact Aw h.An λg d=>z g (.An d)
 ·intro i O;obtain⟨v,E,L⟩:=h.D9 i O;exact⟨v,E,Aw L λg d=>z g (.D9 (Ld E) d)⟩
 ·intro f I;obtain⟨E,L⟩:=h.BH f I;refine⟨?_,Aw L λg d=>z g (.bx I d)⟩;unfold CY at E ⊢;rw[z f (.BH I)];exact E
def Da.aI{Ft:Nat->Prop}(h:Da w b D F Ft)(E:Gc Ft w w'):Da w' b D F Ft:=by
 obtain⟨vd,vs,vc,aA,VB,z,d⟩:=h;exact⟨vd,vs,vc,aA,VB,z.aI (E.ad d),d⟩
def BM{w:World}{g k:Nat}{c L:Array Value}{e E:Nat}(h:w.heap[g]?=some (.cells c e (0,0)))(z:w.heap[k]?=some (.cells L E (0,0)))(d:e≠E):g≠k:=by
 intro I;subst I;rw[h]at z;cases z;exact d rfl
def BV.ak(h:BV w b D F vd vs vc aA VB){n:DN}(O:AL w' b vd vs vc n)(hc:A4 (One b) w w'):BV w' b {D with n:=n} F vd vs vc aA VB:=by
 have z:∀(k:Nat) (c:Array Value) (e:Nat),w.heap[k]?=some (Obj.cells c e (0,0))->e≠95->w'.heap[k]?=w.heap[k]?:=λk c e z Y=>
  hc.Am k (By z) (BM z h.Af Y)
 refine⟨O,?_,?_,?_,?_,?_,h.Gr⟩
 ·exact Aw h.A5 λg d=>by obtain⟨c,E⟩:=B7 h.A5 d;exact z g _ _ E (by decide)
 ·exact Aw h.AF λg d=>by obtain⟨c,E⟩:=B7 h.AF d;exact z g _ _ E (by decide)
 ·exact Aw h.An λg d=>by obtain⟨c,E⟩:=B7 h.An d;exact z g _ _ E (by decide)
 ·intro i X;obtain⟨v,L,I⟩:=h.D9 i X;exact⟨v,L,Aw I λg d=>by obtain⟨c,E⟩:=B7 I d;exact z g _ _ E (by decide)⟩
 ·intro f W;obtain⟨L,I⟩:=h.BH f W;refine⟨?_,Aw I λg d=>by obtain⟨c,E⟩:=B7 I d;exact z g _ _ E (by decide)⟩;unfold CY at L ⊢;rw[z f _ _ L (by decide)];exact L
end
def lookup:List AN->ByteArray->Option Nat
 | [],_=>none
 | e::r,name=>if e.1=name then some e.2 else lookup r name
def IX(es:List AN)(name:ByteArray):(B6 es name = -1/\lookup es name=none)\/∃k,∃d:k<es.length,B6 es name=(k:Int)/\lookup es name=some (es[k]'d).2/\(es[k]'d).1=name:=by
 induction es with
 | nil=>exact .inl ⟨rfl,rfl⟩
 | cons e r ih=>
  by_cases h:e.1=name
  ·exact .inr ⟨0,by simp,by simp[B6,h],by simp[lookup,h],by simpa using h⟩
  ·rcases ih with⟨E,z⟩|⟨k,d,E,z,I⟩
   ·exact .inl ⟨by simp[B6,h,E],by simp[lookup,h,z]⟩
   ·exact .inr ⟨k+1,by simpa using d,by simp only[B6,h,C3,E];rw[Ae (by omega)];omega,by simp[lookup,h,z],by simpa using I⟩
def BV.cd{w:World}{b:Nat}{D:DS}{F:Nat->FC}{vd vs vc:Value}{aA:List Value}{VB:Nat->Value}(h:BV w b D F vd vs vc aA VB)(k:Nat)(d:k<D.A5.length):
 CY w (D.A5[k]'d).2 (VB (D.A5[k]'d).2) (F (D.A5[k]'d).2).2/\G0 w (VB (D.A5[k]'d).2) (F (D.A5[k]'d).2).1:=h.BH _ (.inl ⟨_,BT d,rfl⟩)
def G0.BP{w:World}{v:Value}{bs:List UInt8}(h:G0 w v bs):∃a cap,v=.slice a bs.length cap/\bs.length<=cap/\cap<=maxLen:=by
 obtain⟨a,cap,z,d,E,_⟩:=Bk h;exact⟨a,cap,z,d,E⟩
def Dq(w:World)(Ft:Nat->Prop)(w':World)(b:Nat)(D':DS)(F':Nat->FC):Prop:=
 A4 Ft w w'/\∃d,Da w' b D' F' d/\(∀k,d k->k<w'.heap.size)/\∀k,d k->Ft k\/w.heap.size<=k
def Dq.bu{w w':World}{Ft:Nat->Prop}{b:Nat}{D':DS}{F':Nat->FC}{vd vs vc:Value}{aA:List Value}{VB:Nat->Value}(E:A4 Ft w w')(h:BV w' b D' F' vd vs vc aA VB)(z:∀k,C5 b D' vd vs vc aA VB k->Ft k\/w.heap.size<=k):Dq w Ft w' b D' F':=
 ⟨E,_,⟨vd,vs,vc,aA,VB,h,λ_ d=>d⟩,λ_ d=>h.lt d,z⟩
def BV.cu{w w':World}{b:Nat}{D:DS}{F F':Nat->FC}{vd vs vc vl aD:Value}{aA:List Value}{VB VB':Nat->Value}{n:DN}{es:List AN}{S:Nat->Prop}(h:BV w b D F vd vs vc aA VB)(hb:AL w' b vl vs aD n)(aG:w'.ownsRow 0 120 1 aD (D.Aq.length+1) (aA++[vl]))(aE:D4 w' vl es)(hc:A4 S w w')(hS:∀k,S k->k=b\/vc.ownBlock=some k)(hF:∀f,D.Ap f->F' f=F f/\VB' f=VB f)(W:∀f,Dd f es->D.Ap f\/(CY w' f (VB' f) (F' f).2/\G0 w' (VB' f) (F' f).1/\(VB' f).ownBlock=none)):
 BV w' b {D with A5:=es,Aq:=D.Aq++[es],n:=n} F' vl vs aD (aA++[vl]) VB':=by
 have L:∀(k:Nat) (c:Array Value) (e:Nat),w.heap[k]?=some (Obj.cells c e (0,0))->e≠95->e≠120->w'.heap[k]?=w.heap[k]?:=λk c e L he aH=>
  hc.Am k (By L) (λhs=>by
   rcases hS k hs with hs|hs
   ·exact BM L h.Af he hs
   ·obtain⟨c',hh⟩:=B7 h.An hs
    exact BM L hh aH rfl)
 have I:∀f,({D with A5:=es,Aq:=D.Aq++[es],n:=n}:DS).Ap f->D.Ap f\/Dd f es:=by
  rintro f (d|d|⟨c,z,d⟩)
  ·exact .inr d
  ·exact .inl (.inr (.inl d))
  ·rcases AY.1 z with z|z
   ·exact .inl (.inr (.inr ⟨c,z,d⟩))
   ·simp at z;subst z;exact .inr d
 have O:∀f,D.Ap f->CY w' f (VB' f) (F' f).2/\G0 w' (VB' f) (F' f).1:=by
  intro f d;obtain⟨h1,Y⟩:=h.BH f d;rw[(hF f d).1,(hF f d).2];refine⟨?_,Aw Y λg E=>by obtain⟨c,hh⟩:=B7 Y E;exact L g _ _ hh (by decide) (by decide)⟩;unfold CY at h1 ⊢;rw[L f _ _ h1 (by decide) (by decide)];exact h1
 refine⟨hb,aE,?_,?_,?_,?_,?_⟩
 ·exact Aw h.AF λg E=>by obtain⟨c,hh⟩:=B7 h.AF E;exact L g _ _ hh (by decide) (by decide)
 ·simpa using aG
 ·intro i hi;by_cases X:i<D.Aq.length
  ·obtain⟨v,h1,Y⟩:=h.D9 i X;refine⟨v,by rw[IE (by rw[h.dx];exact X)];exact h1,?_⟩;simp only[FK X];(exact Aw Y λg E=>by obtain⟨c,hh⟩:=B7 Y E;exact L g _ _ hh (by decide) (by decide))
  ·(obtain rfl:i=D.Aq.length:=by simp at hi;omega);refine⟨vl,by rw[<-h.dx];simp,?_⟩;simpa using aE
 ·intro f d;rcases I f d with d|d
  ·exact O f d
  ·rcases W f d with d|⟨h1,Y,_⟩
   ·exact O f d
   ·exact⟨h1,Y⟩
 ·intro f f' g d aF E aB;have key:∀f,({D with A5:=es,Aq:=D.Aq++[es],n:=n}:DS).Ap f->(VB' f).ownBlock=some g->D.Ap f:=by
   intro f d E;rcases I f d with d|d
   ·exact d
   ·rcases W f d with d|⟨_,_,h3⟩
    ·exact d
    ·rw[h3]at E;cases E
  have k1:=key f d E;have k2:=key f' aF aB;rw[(hF f k1).2]at E;rw[(hF f' k2).2]at aB;exact h.Gr f f' g k1 k2 E aB
end
section
open Go.RowKit
attribute [local go_sem ↓] Go.wp_at_zero Go.wp_at_succ
def Dx(w:World)(v:Value)(es:List AN)(name:ByteArray)(h:D4 w v es):
 Ag 77 #[v,.string name] w (Aj (A0 (B6 es name)) λw'=>w=w'):=by
 obtain⟨a,cap,rfl,hc1,aA,z⟩:=h.BP;unfold maxLen at aA
 go_enter func77,ntmps77
 go_wp2;go_loop [5,8] (λj i=>∃k:Nat,k<=es.length/\i=A0 k/\Hid (∀m (W:m<k) (X:m<es.length),(es[m]'X).1≠name)) (λ_ i=>es.length-(intOf i).toNat)
 case atStart=>exact⟨0,Ce _,rfl,λm W=>absurd W (by omega)⟩
 case round=>
  obtain⟨k,hk,rfl,L⟩:=hrel;by_cases O:k<es.length
  ·obtain⟨g,rfl,hn,hp⟩:=z k O;by_cases I:(es[k]'O).1=name
   ·have ht:=(P6 _ _).2 I;have hf:=Hid.o L;have d:=A1e es name k O I (λm W=>hf m W (by omega));have E:=A1 <| d;clear d;go_wp2;go_ret;exact⟨by rw[E.o];rfl,rfl⟩
   ·have ht:=(TP _ _).2 I;have Y:=A1 <| I;go_wp2;go_round
    case rel=>exact⟨k+1,by omega,by go_num,λm W X=>by rcases F9 m k with h|h;exact L m h X;(obtain rfl:m=k:=(by omega));exact Y.o⟩
    case measure=>simp[intOf];omega
  ·have d:=A1c es name (λm W=>Hid.o L m (by omega) W);have E:=A1 <| d;clear d z;go_wp2;go_ret;exact⟨by rw[E.o];rfl,rfl⟩
def bg(n:DN):Bool×Int×DN:=
 let c:=wrap64 (n.B8+1)
 if n.Bh then (false,5,{n with B8:=c,Bj:=wrap64 (n.Bj+1)})
 else if c=n.CN then (true,5,{n with B8:=c,Bj:=wrap64 (n.Bj+1),Bh:=true})
 else if c=n.DJ then (false,5,{n with B8:=c,Bj:=wrap64 (n.Bj+1)})
 else (true,0,{n with B8:=c})
def GX(w:World)(b:Nat)(vd W vc:Value)(n:DN)(h:AL w b vd W vc n):
 Ag 121 #[A6 b] w (Aj (.tuple #[.bool (bg n).1,A0 (bg n).2.1]) λw'=>AL w' b vd W vc (bg n).2.2/\A4 (One b) w w'):=by
 have h4:=h.c4;have h5:=h.c5;have h6:=h.c6;have h8:=h.c8;have h10:=h.bk;have hf:=h.fz;have e1:=(h.s4 (wrap64 (n.B8+1)));have Y:=e1.s8 (wrap64 (n.Bj+1));have e3:=Y.cb true;have aA:=(A4.C (One b) w).aj rfl 4 (A0 (wrap64 (n.B8+1)));have L:=aA.aj rfl 8 (A0 (wrap64 (n.Bj+1)));have aF:=L.aj rfl 10 (.bool true);have aG:=A1 e1;have X:=A1 Y;have aD:=A1 e3;have aB:=A1 aA;have O:=A1 L;have aE:=A1 aF;by_cases I:n.Bh=true
 ·have q:Hid (bg n=(false,5,{n with B8:=wrap64 (n.B8+1),Bj:=wrap64 (n.Bj+1)})):=by unfold Hid;simp[bg,I]
  go_enter func121,ntmps121
  go_wp2;go_ret2;rw[q.o];exact⟨rfl,X.o,O.o⟩
 ·have d:n.Bh=false:=by simpa using I
  by_cases hc:(wrap64 (n.B8+1)==n.CN)=true
  ·(have q:Hid (bg n=(true,5,{n with B8:=wrap64 (n.B8+1),Bj:=wrap64 (n.Bj+1),Bh:=true})):=by unfold Hid;simp[bg,d,eq_of_beq hc])
   go_enter func121,ntmps121
   go_wp2;go_region_held3 (λw'=>w'.cell? ⟨b,4,none⟩=some (A0 (wrap64 (n.B8+1)))/\w'.cell? ⟨b,5,none⟩=some (A0 n.CN)) (refine⟨?_,?_⟩<;>go_simp) (fail);go_wp2;go_ret2;rw[q.o];exact⟨rfl,aD.o,aE.o.aa⟩
  ·(have z:(wrap64 (n.B8+1)==n.CN)=false:=by simpa using hc);by_cases hl:(wrap64 (n.B8+1)==n.DJ)=true
   ·have q:Hid (bg n=(false,5,{n with B8:=wrap64 (n.B8+1),Bj:=wrap64 (n.Bj+1)})):=by
     have:=Sc z;unfold Hid bg;dsimp only;rw[Ae (by rw[d];decide),Ae this,Ai (eq_of_beq hl)]
    go_enter func121,ntmps121
    go_wp2;go_region_held3 (λw'=>w'.cell? ⟨b,4,none⟩=some (A0 (wrap64 (n.B8+1)))/\w'.cell? ⟨b,5,none⟩=some (A0 n.CN)) (refine⟨?_,?_⟩<;>go_simp) (fail);go_wp2;go_region_held3 (λw'=>w'.cell? ⟨b,4,none⟩=some (A0 (wrap64 (n.B8+1)))/\w'.cell? ⟨b,6,none⟩=some (A0 n.DJ)) (refine⟨?_,?_⟩<;>go_simp) (fail);go_wp2;go_ret2;rw[q.o];exact⟨rfl,X.o,O.o.aa.aa⟩
   ·(have E:(wrap64 (n.B8+1)==n.DJ)=false:=by simpa using hl);have q:Hid (bg n=(true,0,{n with B8:=wrap64 (n.B8+1)})):=by
     have:=Sc z;have h2:=Sc E;unfold Hid bg;dsimp only;rw[Ae (by rw[d];decide),Ae this,Ae h2]
    go_enter func121,ntmps121
    go_wp2;go_region_held3 (λw'=>w'.cell? ⟨b,4,none⟩=some (A0 (wrap64 (n.B8+1)))/\w'.cell? ⟨b,5,none⟩=some (A0 n.CN)) (refine⟨?_,?_⟩<;>go_simp) (fail);go_wp2;go_region_held3 (λw'=>w'.cell? ⟨b,4,none⟩=some (A0 (wrap64 (n.B8+1)))/\w'.cell? ⟨b,6,none⟩=some (A0 n.DJ)) (refine⟨?_,?_⟩<;>go_simp) (fail);go_wp2;go_ret2;rw[q.o];exact⟨rfl,aG.o,aB.o.aa.aa⟩
def Tryz.cS:(Tryz.prog.info? 125).map (λi=>(i.zero,i.size,i.bytes))=some (some (.agg #[.string ByteArray.empty,.pointer none]),2,24):=by kernel_rfl
def Tryz.ea:(Tryz.prog.info? 120).map (λi=>(i.zero,i.size,i.bytes))=some (some (.agg #[.slice none 0 0]),1,24):=by kernel_rfl
def Tryz.infoByte:(Tryz.prog.info? 5).map (λi=>(i.zero,i.size,i.bytes))=some (some (.int .u8 0),1,1):=by kernel_rfl
def Tryz.eY:(Tryz.prog.info? 9).map (λi=>(i.zero,i.size,i.bytes))=some (some (.string ByteArray.empty),1,16):=by kernel_rfl
def Hb(room:Int):DN:=⟨room,0,0,0,0,0,0,false⟩
def Zn(room:Int)(w:World):
 Ag 21 #[A0 room] w (Aj (A6 w.heap.size) λw'=>AL w' w.heap.size (.slice none 0 0) (.slice none 0 0) (.slice none 0 0) (Hb room)/\w'.heap.size=w.heap.size+1/\A4 Aa w w'):=by
 go_enter func21,ntmps21
 go_wp2;go_ret;exact⟨rfl,Bf w _,by simp,(A4.C _ w).ah _⟩
def A1Q(w:World)(b:Nat)(E z d:Value)(n:DN)(c:Int)(h:AL w b E z d n):
 Ag 35 #[A6 b,A0 c] w (Aj (.tuple #[]) λw'=>AL w' b E z d {n with CN:=if c>0 then wrap64 (n.B8+c) else 0}/\A4 (One b) w w'):=by
 have h4:=h.c4;have h5:=h.c5;have hf:=h.fz;have O:=A1 (h.s5 0);have W:=A1 ((h.s5 0).s5 (wrap64 (n.B8+c)));have I:=A1 ((A4.C (One b) w).aj rfl 5 (A0 0));have L:=A1 (((A4.C (One b) w).aj rfl 5 (A0 0)).aj rfl 5 (A0 (wrap64 (n.B8+c))))
 go_enter func35,ntmps35
 go_wp2
 ·go_end0;exact⟨rfl,W.o,L.o⟩
 ·go_end0;exact⟨rfl,O.o,I.o⟩
def ED(n:DN)(c p:Int):DN:={n with DJ:=if c>0 then wrap64 (n.B8+c) else 0,BC:=if p<0 then wrap64 (-(wrap64 (p+1))) else p}
def A1s(w:World)(b:Nat)(L I E:Value)(n:DN)(c p:Int)(h:AL w b L I E n):
 Ag 78 #[A6 b,A0 c,A0 p] w (Aj (.tuple #[]) λw'=>AL w' b L I E (ED n c p)/\A4 (One b) w w'):=by
 have h4:=h.c4;have h6:=h.c6;have h7:=h.c7;have hf:=h.fz;have Q:=A1 <| h
 go_enter func78,ntmps78
 go_wp2
 ·have z:0<c:=by assumption
  have d:p<0:=by assumption
  go_end0;have q:ED n c p = {n with DJ:=wrap64 (n.B8+c),BC:=wrap64 (-(wrap64 (p+1)))}:=by simp[ED,z,d]
  rw[q];exact⟨rfl,(((Q.o.s6 0).s6 _).s7 _).s7 _,((((A4.C (One b) w).aj rfl 6 _).aj rfl 6 _).aj rfl 7 _).aj rfl 7 _⟩
 ·have z:0<c:=by assumption
  have d:0<=p:=by assumption
  go_end0;have q:ED n c p = {n with DJ:=wrap64 (n.B8+c),BC:=p}:=by simp[ED,z];omega
  rw[q];exact⟨rfl,((Q.o.s6 0).s6 _).s7 _,(((A4.C (One b) w).aj rfl 6 _).aj rfl 6 _).aj rfl 7 _⟩
 ·have z:c<=0:=by assumption
  have d:p<0:=by assumption
  go_end0;have q:ED n c p = {n with DJ:=0,BC:=wrap64 (-(wrap64 (p+1)))}:=by simp[ED,d];omega
  rw[q];exact⟨rfl,((Q.o.s6 0).s7 _).s7 _,(((A4.C (One b) w).aj rfl 6 _).aj rfl 7 _).aj rfl 7 _⟩
 ·have z:c<=0:=by assumption
  have d:0<=p:=by assumption
  go_end0;have q:ED n c p = {n with DJ:=0,BC:=p}:=by simp[ED];omega
  rw[q];exact⟨rfl,(Q.o.s6 0).s7 _,((A4.C (One b) w).aj rfl 6 _).aj rfl 7 _⟩
def A1I(w:World)(b:Nat)(E z d:Value)(n:DN)(h:AL w b E z d n):
 Ag 36 #[A6 b] w (Aj (.bool n.Bh) λw'=>w=w'):=by
 have h4:=h.bk
 go_enter func36,ntmps36
 go_wp2;go_ret;exact⟨rfl,rfl⟩
def Yb(w:World)(b:Nat)(E z d:Value)(n:DN)(h:AL w b E z d n):
 Ag 50 #[A6 b] w (Aj (A0 n.Bj) λw'=>w=w'):=by
 have h4:=h.c8
 go_enter func50,ntmps50
 go_wp2;go_ret;exact⟨rfl,rfl⟩
def A02(w:World)(b:Nat)(E z d:Value)(n:DN)(h:AL w b E z d n):
 Ag 88 #[A6 b] w (Aj (A0 n.fulls) λw'=>w=w'):=by
 have h4:=h.c9
 go_enter func88,ntmps88
 go_wp2;go_ret;exact⟨rfl,rfl⟩
def Cv(D:DS)(F:Nat->FC)(name:ByteArray):Int×Int:=match lookup D.A5 name with
 | some f=>(((F f).1.length:Nat),0)
 | none=>(0,8)
def X8(w:World)(b:Nat)(D:DS)(F:Nat->FC)(vd vs vc:Value)(E:List Value)(aA:Nat->Value)(h:BV w b D F vd vs vc E aA)(name:ByteArray):
 Ag 81 #[A6 b,.string name] w (Aj (.tuple #[A0 (Cv D F name).1,A0 (Cv D F name).2]) λw'=>w=w'):=by
 have hc:=h.Af.c0;obtain⟨a,cap,rfl,hc1,W,d⟩:=h.A5.BP;have X:=h.A5;unfold maxLen at W;rcases IX D.A5 name with⟨Y,L⟩|⟨k,O,Y,L,h3⟩
 ·have q:Hid (Cv D F name=(0,8)):=by unfold Hid Cv;rw[L]
  have hfi:B6 D.A5 name<0:=by omega
  go_enter func81,ntmps81
  go_wp2_with (go_at_call 77;refine(Dx _ _ _ _ X).mono ?_;rintro e w'⟨rfl,rfl⟩);go_ret2;rw[q.o];exact⟨rfl,rfl⟩
 ·have q:Hid (Cv D F name=((((F (D.A5[k]'O).2).1.length:Nat):Int),0)):=by unfold Hid Cv;rw[L]
  obtain⟨z,I⟩:=h.cd k O;obtain⟨a',cap',hv,_,_⟩:=I.BP;rw[hv]at z;have hb0:=z.c0;obtain⟨g,rfl,hn,hp⟩:=d k O;have aB:=A1 <| Y
  go_enter func81,ntmps81
  go_wp2_with (go_at_call 77;refine(Dx _ _ _ _ X).mono ?_;rintro e w'⟨rfl,rfl⟩;rw[aB.o]);go_ret2;rw[q.o];exact⟨rfl,rfl⟩
def Lw(w:World)(b:Nat)(vd vs I:Value)(n:DN)(m:Nat)(d:List Value)(a:Option Addr)(len cap:Nat)(h:AL w b vd vs I n)(hc:w.ownsRow 0 120 1 I m d)(hm:m<1099511627776):
 Ag 122 #[A6 b,.slice a len cap] w (Aj (.tuple #[]) λw'=>
  ∃E,AL w' b (.slice a len cap) vs E n/\w'.ownsRow 0 120 1 E (m+1) (d++[.slice a len cap])/\A4 (λk=>k=b\/I.ownBlock=some k) w w'/\(∀g,E.ownBlock=some g->I.ownBlock=some g\/w.heap.size<=g)):=by
 obtain⟨i0,hi,X,aA,aD⟩:=DG Tryz.ea;have h2:=h.c2;have h0:=h.c0;have hf:=h.fz;have L:I.ownBlock≠some b:=by
  intro e;obtain⟨c,hh⟩:=B7 hc e;exact BM hh h (by decide) rfl
 have hs:=A1 (h.s0 (.slice a len cap));have Y:=A1 ((NU hc (a:=(A9 b 0)) L (.slice a len cap)).alloc (.cells #[.slice a len cap] 120));have W:=A1 (Src.a8 (size:=1) underlying93 (w.sC b 0 (.slice a len cap)) #[.slice a len cap] 120 w.heap.size (by simp) 1 1 rfl (by simp[Value.oneCell']));have aE:=A1 (((A4.C (λk=>k=b\/I.oB k) w).aj (.inl rfl) 0 (.slice a len cap)).ah (.cells #[.slice a len cap] 120));have aB:=A1 <| L
 go_enter func122,ntmps122
 go_wp2_with (at_builtin;go_loud (refine CZ rfl (.tmp 12) (.tmp 15) 93 93 rfl 120 i0 _ 1 24 underlying93 hi X aA aD rfl (by decide) I m d (by rfl) Y.o _ 1 _ (by rfl) W.o (by omega) ?_);intro a2 cap2 w1 O;have z:=(hs.o.ah _).C4 O.C4 aB.o;have h21:=z.c2;have hf1:=z.fz);go_end0;refine⟨rfl,_,z.s2 _,?_,?_,?_⟩
 ·refine NU O.AE (a:=(A9 b 2)) ?_ _;intro e;obtain⟨c,hh⟩:=B7 O.AE e;exact BM hh z (by decide) rfl
 ·exact(aE.o.C4 O.C4 (λk hk _=>.inr hk)).aj (.inl rfl) 2 _
 ·intro g hg;rcases O.BS with h|h
  ·exact .inl (h.symm.trans hg)
  ·right;rw[hg]at h;cases h;simp
def upd(F:Nat->FC)(f0:Nat)(c:FC):Nat->FC:=λf=>if f=f0 then c else F f
def CM(D:DS)(name:ByteArray)(f0:Nat):Int×DS:=
 if name=ByteArray.empty\/B6 D.A5 name≥0 then (8,D) else
  ((bg D.n).2.1,if (bg D.n).1 then {D with A5:=D.A5++[(name,f0)],Aq:=D.Aq++[D.A5++[(name,f0)]],n:=(bg D.n).2.2} else {D with n:=(bg D.n).2.2})
def isEmpty_iff(s:ByteArray):s.toList.isEmpty=true↔s=ByteArray.empty:=by
 rw[List.isEmpty_iff,K4];exact⟨λh=>A3q (by rw[h];rfl),λh=>by rw[h];rfl⟩
def BV.eD{w:World}{b:Nat}{D:DS}{F:Nat->FC}{O E z:Value}{d:List Value}{L:Nat->Value}(h:BV w b D F O E z d L){f0:Nat}(hf:w.heap.size<=f0)(c:FC):
 BV w b D (upd F f0 c) O E z d L:=
 ⟨h.Af,h.A5,h.AF,h.An,h.D9,λf I=>by
  have:f≠f0:=by have:=h.lt (.BH I);omega
  simp only[upd,this,C3];exact h.BH f I,h.Gr⟩
def C5.n{b:Nat}{D:DS}{n:DN}{L E z:Value}{d:List Value}{I:Nat->Value}{k:Nat}(h:C5 b {D with n:=n} L E z d I k):C5 b D L E z d I k:=by
 cases h using C5.bH with
 | Af=>exact .Af
 | dir e=>exact .A5 e
 | Ad e=>exact .AF e
 | An e=>exact .An e
 | D9 h e=>exact .D9 h e
 | BH h=>exact .BH h
 | byt h e=>exact .bx h e
def BV.bP{w w':World}{b:Nat}{D:DS}{F:Nat->FC}{L I O:Value}{d:List Value}{W:Nat->Value}{Ft:Nat->Prop}(h:BV w b D F L I O d W)(z:∀k,C5 b D L I O d W k->Ft k){n:DN}(Y:AL w' b L I O n)(X:A4 (One b) w w'):Dq w Ft w' b {D with n:=n} F:=
 Dq.bu (X.ad λk _ E=>by cases E;exact z b .Af) (h.ak Y X) λk E=>.inl (z k E.n)
def App.An{w w':World}{e size n:Nat}{v z:Value}{xs:List Value}(h:App w w' e size v z n xs){S:Nat->Prop}(E:∀k,v.ownBlock=some k->S k):A4 S w w':=
 (A4.C S w).C4 h.C4 λk d _=>E k d
def CY.au{w w':World}{f:Nat}{d:Value}{Ad:Int}(h:CY w f d Ad)(z:w'.heap[f]?=w.heap[f]?):CY w' f d Ad:=z.trans h
def A1T{w w1 L w3 w5:World}{b:Nat}{D:DS}{F:Nat->FC}{vd vs vc aA aD:Value}{X:List Value}{aH:Nat->Value}{Ft:Nat->Prop}{n1:DN}{a3:Option Addr}{W:Nat}{name:ByteArray}(hr:BV w b D F vd vs vc X aH)(E:∀k,C5 b D vd vs vc X aH k->Ft k)(aK:AL w1 b vd vs vc n1)(aE:A4 (One b) w w1)(hA:App w1 L 125 2 (.slice none 0 0) aA D.A5.length (BU D.A5))(hB:App ((L.alloc (.cells #[.slice none 0 0,.int .i64 0] 129)).alloc (.cells #[.string name,.pointer (some ⟨L.heap.size,0,none⟩)] 125)) w3 125 2 aA (.slice a3 (D.A5.length+1) W) (D.A5.length+1) (BU D.A5++[.string name,.pointer (some ⟨L.heap.size,0,none⟩)]))(aI:AL w5 b (.slice a3 (D.A5.length+1) W) vs aD n1)(aL:w5.ownsRow 0 120 1 aD (D.Aq.length+1) (X++[.slice a3 (D.A5.length+1) W]))(Y:A4 (λk=>k=b\/vc.ownBlock=some k) w3 w5)(hv:∀g,aD.ownBlock=some g->vc.ownBlock=some g\/w3.heap.size<=g):
 w.heap.size<=L.heap.size/\Dq w Ft w5 b {D with A5:=D.A5++[(name,L.heap.size)],Aq:=D.Aq++[D.A5++[(name,L.heap.size)]],n:=n1} (upd F L.heap.size ([],0)):=by
 have aB:∀k,aA.ownBlock=some k->k=w1.heap.size:=by
  intro k O;rcases hA.BS with h|h
  ·rw[h]at O;cases O
  ·rw[h]at O;cases O;rfl
 have s1:=aE.Al;have s2:=hA.C4.size;have s3:=hB.C4.size;simp only[MH]at s3;have c13:=
  (((hA.An (S:=λ_=>False) (by intro k O;simp[Value.ownBlock]at O)).ah (.cells #[.slice none 0 0,.int .i64 0] 129)).ah (.cells #[.string name,.pointer (some ⟨L.heap.size,0,none⟩)] 125)).C4 hB.C4
    (λk O hlt=>by have:=aB k O;omega)
 have r1:=hr.ak aK aE;have r3:=r1.aI λk O=>c13.Am k (r1.lt O) (λh=>h);have f0:CY ((L.alloc (.cells #[.slice none 0 0,.int .i64 0] 129)).alloc (.cells #[.string name,.pointer (some ⟨L.heap.size,0,none⟩)] 125)) L.heap.size (.slice none 0 0) 0:=by
  unfold CY;rw[CQ _ _ _ (by simp)];exact Bf _ _
 have f3:=f0.au (hB.C4.block _ (by simp;omega) (λe=>by have:=Ay hA.AE e.symm;omega))
 have f5:=f3.au (Y.Am _ (by omega) (by
  rintro (e|e)
  ·exact BM f3 r3.Af (by decide) e
  ·obtain⟨c,hh⟩:=B7 r3.An e
   exact BM f3 hh (by decide) rfl))
 have e3:D4 w3 (.slice a3 (D.A5.length+1) W) (D.A5++[(name,L.heap.size)]):=by
  have:=hB.AE;unfold D4;rw[KN];simpa[BU] using this
 have e5:=Aw e3 λg hg=>Y.Am g (Ay e3 hg) (by
  obtain⟨c,hh⟩:=B7 e3 hg;rintro (e|e)
  ·exact BM hh r3.Af (by decide) e
  ·obtain⟨c',aJ⟩:=B7 r3.An e
   exact BM hh aJ (by decide) rfl)
 have aF:∀f,D.Ap f->f≠L.heap.size:=λf I=>by have:=hr.lt (.BH I);omega
 have r5:=r3.cu (F':=upd F L.heap.size ([],0)) (VB':=λf=>if f=L.heap.size then .slice none 0 0 else aH f) (es:=D.A5++[(name,L.heap.size)]) aI aL e5 Y (λk O=>O)
  (λf I=>by have:=aF f I;simp[upd,this])
  (λf I=>by
   obtain⟨e,d,rfl⟩:=I;rcases AY.1 d with d|d
   ·exact .inl (.inl ⟨e,d,rfl⟩)
   ·simp at d;subst d;right;simp only[upd,Ci]
    exact⟨f5,Cp _ _ _ _,rfl⟩)
 refine⟨by omega,Dq.bu ?_ r5 ?_⟩
 ·have a:=(aE.ad (S':=Ft) λk _ O=>by cases O;exact E b .Af).Au c13 (λx hx=>hx.elim);refine a.Au Y ?_;rintro x (e|e) _
  ·subst e;exact E x .Af
  ·exact E x (.An e)
 ·intro k O;cases O using C5.bH with
  | Af=>exact .inl (E b .Af)
  | dir e=>
   rcases hB.BS with h|h
   ·rw[h]at e;have:=aB _ e;right;omega
   ·rw[h]at e;cases e;right;simp;omega
  | Ad e=>exact .inl (E k (.AF e))
  | An e=>
   rcases hv k e with h|h
   ·exact .inl (E k (.An h))
   ·right;omega
  | D9 hm e=>
   rcases AY.1 hm with hm|hm
   ·exact .inl (E k (.D9 hm e))
   ·simp at hm;subst hm;rcases hB.BS with h|h
    ·rw[h]at e;have:=aB _ e;right;omega
    ·rw[h]at e;cases e;right;simp;omega
  | BH I=>
   rcases I with⟨e,d,rfl⟩|I|⟨c,z,I⟩
   ·rcases AY.1 d with d|d
    ·exact .inl (E _ (.BH (.inl ⟨e,d,rfl⟩)))
    ·simp at d;subst d;right;simp;omega
   ·exact .inl (E _ (.BH (.inr (.inl I))))
   ·rcases AY.1 z with z|z
    ·exact .inl (E _ (.BH (.inr (.inr ⟨c,z,I⟩))))
    ·simp at z;subst z;obtain⟨e,d,rfl⟩:=I;rcases AY.1 d with d|d
     ·exact .inl (E _ (.BH (.inl ⟨e,d,rfl⟩)))
     ·simp at d;subst d;right;simp;omega
  | byt I e=>
   rename_i f;by_cases hx:f=L.heap.size
   ·simp[hx,Value.ownBlock]at e
   ·simp only[hx,C3]at e;have aG:D.Ap f:=by
     rcases I with⟨en,d,rfl⟩|I|⟨c,z,I⟩
     ·rcases AY.1 d with d|d
      ·exact .inl ⟨en,d,rfl⟩
      ·simp at d;subst d;exact absurd rfl hx
     ·exact .inr (.inl I)
     ·rcases AY.1 z with z|z
      ·exact .inr (.inr ⟨c,z,I⟩)
      ·simp at z;subst z;obtain⟨en,d,rfl⟩:=I;rcases AY.1 d with d|d
       ·exact .inl ⟨en,d,rfl⟩
       ·simp at d;subst d;exact absurd rfl hx
    exact .inl (E _ (.bx aG e))
def A1S{I w2 O:World}{b:Nat}{D:DS}{F:Nat->FC}{Y W L E:Value}{d:List Value}{aB:Nat->Value}{n1:DN}{v3:Value}{n2:Nat}{xs:List Value}{o1 o2:Obj}(aA:AL I b Y W L n1)(r1:BV I b {D with n:=n1} F Y W L d aB)(hA:App I w2 125 2 (.slice none 0 0) E D.A5.length (BU D.A5))(hB:App ((w2.alloc o1).alloc o2) O 125 2 E v3 n2 xs):
 AL O b Y W L n1/\O.ownsRow 0 120 1 L D.Aq.length d:=by
 have X:∀k,E.ownBlock=some k->k=I.heap.size:=by
  intro k z;rcases hA.BS with h|h
  ·rw[h]at z;cases z
  ·rw[h]at z;cases z;rfl
 have c13:=
  (((hA.An (S:=λ_=>False) (by intro k z;simp[Value.ownBlock]at z)).ah o1).ah o2).C4 hB.C4 (λk z hlt=>by have:=X k z;omega)
 refine⟨aA.An c13 (λh=>h),Aw r1.An λg hg=>c13.Am g (Ay r1.An hg) (λh=>h)⟩
def A1U(w:World)(b:Nat)(D:DS)(F:Nat->FC)(Ft:Nat->Prop)(h:Da w b D F Ft)(name:ByteArray)(hs:D.A5.length<1099511627776/\D.Aq.length<1099511627776):
 Ag 83 #[A6 b,.string name] w λe w'=>∃f0,w.heap.size<=f0/\e=.returned (A0 (CM D name f0).1)/\Dq w Ft w' b (CM D name f0).2 (upd F f0 ([],0)):=by
 obtain⟨vd,vs,vc,W,aR,Y,aA⟩:=h;obtain⟨hs1,aK⟩:=hs;have hq:∀f0,w.heap.size<=f0->(CM D name f0).2=D->Dq w Ft w b (CM D name f0).2 (upd F f0 ([],0)):=λf0 hf e=>by
  rw[e];exact Dq.bu (A4.C _ _) (Y.eD hf _) λk hk=>.inl (aA k hk)
 have aQ:=A1 hq;have aO:=A1 Y;have c0:=Y.Af.c0;have hd:=A1 Y.A5;have aH:=A1 Y.Af;obtain⟨ad,cap,aN,_⟩:=Y.A5.BP;clear Y aN;by_cases hn:name.toList.isEmpty=true
 ·have q:Hid (CM D name w.heap.size=(8,D)):=by unfold Hid CM;rw[Ai (.inl ((isEmpty_iff _).1 hn))]
  go_enter func83,ntmps83
  go_wp2;go_ret;exact⟨_,Ao _,by rw[q.o];rfl,aQ.o _ (Ao _) (by rw[q.o])⟩
 ·have hn':name.toList.isEmpty=false:=by simpa using hn
  have aI:Hid (name≠ByteArray.empty):=λe=>hn ((isEmpty_iff _).2 e);clear hn;by_cases hx:(0:Int)<=B6 D.A5 name
  ·(have q:Hid (CM D name w.heap.size=(8,D)):=by unfold Hid CM;rw[Ai (.inr hx)])
   go_enter func83,ntmps83
   go_wp2_with (go_at_call 77;refine(Dx _ _ _ _ hd.o).mono ?_;rintro e w'⟨rfl,rfl⟩);go_ret;exact⟨_,Ao _,by rw[q.o];rfl,aQ.o _ (Ao _) (by rw[q.o])⟩
  ·have q:Hid (∀f0,CM D name f0=((bg D.n).2.1,if (bg D.n).1 then {D with A5:=D.A5++[(name,f0)],Aq:=D.Aq++[D.A5++[(name,f0)]],n:=(bg D.n).2.2} else {D with n:=(bg D.n).2.2})):=by
    intro f0;unfold CM;rw[Ae (by rintro (h|h);exact aI h;exact hx h)]
   (have hx':B6 D.A5 name<0:=by omega);by_cases aB:(bg D.n).1=true
   ·obtain⟨i0,hi,aD,aG,aF⟩:=DG Tryz.cS
    have fin:Hid (∀(I z w3 w5:World) (X E:Value) (a3:Option Addr) (d:Nat),AL I b vd vs vc (bg D.n).2.2->A4 (One b) w I->App I z 125 2 (.slice none 0 0) X D.A5.length (BU D.A5)->
     App ((z.alloc (.cells #[.slice none 0 0,A0 0] 129)).alloc (.cells #[.string name,A6 z.heap.size] 125)) w3 125 2 X (.slice a3 (D.A5.length+1) d) (D.A5.length+1) (BU D.A5++[.string name,A6 z.heap.size])->
     AL w5 b (.slice a3 (D.A5.length+1) d) vs E (bg D.n).2.2->w5.ownsRow 0 120 1 E (D.Aq.length+1) (W++[.slice a3 (D.A5.length+1) d])->A4 (λk=>k=b\/vc.ownBlock=some k) w3 w5->(∀g,E.ownBlock=some g->vc.ownBlock=some g\/w3.heap.size<=g)->
     w.heap.size<=z.heap.size/\Dq w Ft w5 b {D with A5:=D.A5++[(name,z.heap.size)],Aq:=D.Aq++[D.A5++[(name,z.heap.size)]],n:=(bg D.n).2.2} (upd F z.heap.size ([],0))):=
     λI z w3 w5 X E a3 d h1 h2 h3 h4 h5 h6 h7 h8=>A1T aO.o aA h1 h2 h3 h4 h5 h6 h7 h8
    have aL:Hid (∀I,AL I b vd vs vc (bg D.n).2.2->A4 (One b) w I->BV I b {D with n:=(bg D.n).2.2} F vd vs vc W aR):=λI h1 h2=>aO.o.ak h1 h2
    go_enter func83,ntmps83
    go_wp2_with (first
     | (go_at_call 77;refine(Dx _ _ _ _ hd.o).mono ?_;rintro e w'⟨rfl,rfl⟩)
     | (go_at_call 121;refine(GX _ _ _ _ _ _ aH.o).mono ?_;rintro e I⟨rfl,L,O⟩;have c01:=L.c0;have aP:=A1 (aL.o I L O))
     | (at_builtin;refine CZ rfl (.const (.slice none 0 0)) (.tmp 28) 92 92 rfl 125 i0 _ 2 24 underlying92 hi aD aG aF rfl (by decide) (.slice none 0 0) 0 [] (by rfl) (Cp _ 0 125 2) vd D.A5.length (BU D.A5) (by rfl) (Src.bO underlying92 aP.o.A5 (OG _)) (by omega) ?_;intro a2 cap2 z hA;simp only[GM,EU]at hA;have aJ:=A1 ((hA.AE.alloc (.cells #[.slice none 0 0,A0 0] 129)).alloc (.cells #[.string name,A6 z.heap.size] 125));have aM:=A1 (Src.a8 (size:=2) underlying92 (z.alloc (.cells #[.slice none 0 0,A0 0] 129)) #[.string name,A6 z.heap.size] 125 (z.heap.size+1) (by simp) 1 1 rfl (by simp[Value.oneCell'])))
     | (at_builtin;refine CZ rfl (.tmp 31) (.tmp 36) 92 92 rfl 125 i0 _ 2 24 underlying92 hi aD aG aF rfl (by decide) _ D.A5.length (BU D.A5) (by rfl) aJ.o _ 1 _ (by rfl) aM.o (by omega) ?_;intro a3 d w3 hB;have hm:=A1 (A1S L aP.o hA hB))
     | (go_at_call 122;refine(Lw _ b vd vs vc _ _ _ _ _ _ hm.o.1 hm.o.2 aK).mono ?_;rintro e w5⟨rfl,E,k1,k2,k3,k4⟩))
    go_ret;obtain⟨g1,g2⟩:=fin.o I z w3 w5 _ E a3 d L O hA hB k1 k2 k3 k4;refine⟨z.heap.size,g1,by rw[q.o];rfl,?_⟩;rw[q.o,aB];exact g2
   ·(have aE:(bg D.n).1=false:=by simpa using aB)
    go_enter func83,ntmps83
    go_wp2_with (first|(go_at_call 77;refine(Dx _ _ _ _ hd.o).mono ?_;rintro e w'⟨rfl,rfl⟩)|(go_at_call 121;refine(GX _ _ _ _ _ _ aH.o).mono ?_;rintro e I⟨rfl,L,O⟩));go_ret;refine⟨w.heap.size,Ao _,by rw[q.o];rfl,?_⟩;rw[q.o,aE];exact(aO.o.eD (Ao _) _).bP aA L O
def ON{w w1 w3 w5:World}{b:Nat}{D:DS}{F:Nat->FC}{vd vs vc vl X:Value}{I:List Value}{aD:Nat->Value}{Ft:Nat->Prop}{n1:DN}{es:List AN}(hr:BV w b D F vd vs vc I aD)(d:∀k,C5 b D vd vs vc I aD k->Ft k)(aG:AL w1 b vd vs vc n1)(aA:A4 (One b) w w1)(c13:A4 (λ_=>False) w1 w3)(e3:D4 w3 vl es)(aB:∀g,vl.ownBlock=some g->w1.heap.size<=g)(Y:∀f,Dd f es->D.Ap f)(aE:AL w5 b vl vs X n1)(aH:w5.ownsRow 0 120 1 X (D.Aq.length+1) (I++[vl]))(O:A4 (λk=>k=b\/vc.ownBlock=some k) w3 w5)(hv:∀g,X.ownBlock=some g->vc.ownBlock=some g\/w3.heap.size<=g):
 Dq w Ft w5 b {D with A5:=es,Aq:=D.Aq++[es],n:=n1} F:=by
 have s1:=aA.Al;have s3:=c13.Al;have r1:=hr.ak aG aA;have r3:=r1.aI λk W=>c13.Am k (r1.lt W) (λh=>h)
 have e5:=Aw e3 λg hg=>O.Am g (Ay e3 hg) (by
  obtain⟨c,hh⟩:=B7 e3 hg;rintro (e|e)
  ·exact BM hh r3.Af (by decide) e
  ·obtain⟨c',aF⟩:=B7 r3.An e
   exact BM hh aF (by decide) rfl)
 have r5:=r3.cu (F':=F) (VB':=aD) (es:=es) aE aH e5 O (λk W=>W) (λf E=>⟨rfl,rfl⟩) (λf E=>.inl (Y f E));have L:∀f,({D with A5:=es,Aq:=D.Aq++[es],n:=n1}:DS).Ap f->D.Ap f:=by
  rintro f (E|E|⟨c,z,E⟩)
  ·exact Y f E
  ·exact .inr (.inl E)
  ·rcases AY.1 z with z|z
   ·exact .inr (.inr ⟨c,z,E⟩)
   ·simp at z;subst z;exact Y f E
 refine Dq.bu ?_ r5 ?_
 ·have a:=(aA.ad (S':=Ft) λk _ W=>by cases W;exact d b .Af).Au c13 (λx hx=>hx.elim);refine a.Au O ?_;rintro x (e|e) _
  ·subst e;exact d x .Af
  ·exact d x (.An e)
 ·intro k W;cases W using C5.bH with
  | Af=>exact .inl (d b .Af)
  | dir e=>right;have:=aB _ e;omega
  | Ad e=>exact .inl (d k (.AF e))
  | An e=>
   rcases hv k e with h|h
   ·exact .inl (d k (.An h))
   ·right;omega
  | D9 hm e=>
   rcases AY.1 hm with hm|hm
   ·exact .inl (d k (.D9 hm e))
   ·simp at hm;subst hm;right;have:=aB _ e;omega
  | BH E=>exact .inl (d _ (.BH (L _ E)))
  | byt E e=>exact .inl (d _ (.bx (L _ E) e))
def OM{w I L:World}{b:Nat}{D:DS}{F:Nat->FC}{W O E:Value}{d:List Value}{aA:Nat->Value}{n1:DN}(hr:BV w b D F W O E d aA)(z:AL I b W O E n1)(X:A4 (One b) w I)(c13:A4 (λ_=>False) I L):
 AL L b W O E n1/\L.ownsRow 0 120 1 E D.Aq.length d:=by
 have Y:=hr.ak z X;exact⟨z.An c13 (λh=>h),Aw Y.An λg hg=>c13.Am g (Ay Y.An hg) (λh=>h)⟩
def App.bz{w w':World}{e size n:Nat}{z:Value}{xs:List Value}(h:App w w' e size (.slice none 0 0) z n xs):A4 Aa w w':=h.An (λk d=>by simp[Value.ownBlock]at d)
def App.AV{w w':World}{e size n:Nat}{z:Value}{xs:List Value}(h:App w w' e size (.slice none 0 0) z n xs):∀g,z.ownBlock=some g->w.heap.size<=g:=by
 intro g d;rcases h.BS with h|h
 ·rw[h]at d;cases d
 ·rw[h]at d;cases d;exact Ao _
def App.cr{z w w':World}{e size n:Nat}{v I:Value}{xs:List Value}(h:App w w' e size v I n xs)(L:A4 (λ_=>False) z w)(O:∀g,v.ownBlock=some g->z.heap.size<=g):
 A4 (λ_=>False) z w'/\∀g,I.ownBlock=some g->z.heap.size<=g:=by
 refine⟨L.C4 h.C4 λk W hlt=>by have:=O k W;omega,λg d=>?_⟩;rcases h.BS with E|E
 ·rw[E]at d;exact O g d
 ·rw[E]at d;cases d;exact L.Al
def Ds(D:DS)(name:ByteArray):Int×DS:=
 if B6 D.A5 name<0 then (8,D) else
  let es:=D.A5.take (B6 D.A5 name).toNat++D.A5.drop ((B6 D.A5 name).toNat+1)
  ((bg D.n).2.1,if (bg D.n).1 then {D with A5:=es,Aq:=D.Aq++[es],n:=(bg D.n).2.2} else {D with n:=(bg D.n).2.2})
def Y7(w:World)(b:Nat)(D:DS)(F:Nat->FC)(Ft:Nat->Prop)(h:Da w b D F Ft)(name:ByteArray)(hs:D.A5.length<1099511627776/\D.Aq.length<1099511627776):
 Ag 193 #[A6 b,.string name] w (Aj (A0 (Ds D name).1) λw'=>Dq w Ft w' b (Ds D name).2 F):=by
 obtain⟨vd,vs,vc,vals,VB,hr,aI⟩:=h;obtain⟨hs1,aN⟩:=hs;have aA:=A1 hr;have aT:=A1 aI;have c0:=hr.Af.c0;have hd:=A1 hr.A5;have aH:=A1 hr.Af;rcases OE D.A5 name with⟨h1,h2⟩|⟨k,hk,h1,h2⟩
 ·have q:Hid (Ds D name=(8,D)):=by unfold Hid Ds;rw[Ai (by omega)]
  have hfi:B6 D.A5 name<0:=by omega
  go_enter func193,ntmps193
  go_wp2_with (go_at_call 77;refine(Dx _ _ _ _ hd.o).mono ?_;rintro e w'⟨rfl,rfl⟩);go_ret;rw[q.o];exact⟨rfl,Dq.bu (A4.C _ _) aA.o λk hk=>.inl (aI k hk)⟩
 ·have q:Hid (Ds D name=((bg D.n).2.1,if (bg D.n).1 then {D with A5:=D.A5.take k++D.A5.drop (k+1),Aq:=D.Aq++[D.A5.take k++D.A5.drop (k+1)],n:=(bg D.n).2.2} else {D with n:=(bg D.n).2.2})):=by
   unfold Hid Ds;rw[Ae (by omega),h1];rfl
  have aV:=A1 h1;by_cases aD:(bg D.n).1=true
  ·obtain⟨i0,hi,W,Y,X⟩:=DG Tryz.cS;obtain⟨a,cap,rfl,z1,z2,aG⟩:=aA.o.A5.BP;obtain⟨g,rfl,_,_⟩:=aG k hk;unfold maxLen at z2;have aO:Hid (∀z,AL z b (AB g D.A5.length cap) vs vc (bg D.n).2.2->A4 (One b) w z->z.ownsRow 0 125 2 (AB g k cap) k ((BU D.A5).take (k*2))/\D4 z (AB g D.A5.length cap) D.A5):=λz g1 g2=>
    ⟨NV (aA.o.ak g1 g2).A5 (by omega),(aA.o.ak g1 g2).A5⟩
   have aM:∀u∈(BU D.A5).take (k*2),u.oneCell'=true:=λu hu=>OG _ u (H3 hu);have aB:=A1 aM;have aR:Hid (∀f,Dd f (D.A5.take k++D.A5.drop (k+1))->D.Ap f):=by
    rintro f⟨e,he,rfl⟩;rcases AY.1 he with he|he
    ·exact .inl ⟨e,H3 he,rfl⟩
    ·exact .inl ⟨e,K1 he,rfl⟩
   (have aJ:(D.A5.take k++D.A5.drop (k+1)).length=k+(D.A5.length-(k+1)):=by simp;omega);have a4:Hid (∀(E O:World) (v2 v3:Value),App E O 125 2 v2 v3 (k+(D.A5.length-(k+1))) ((BU D.A5).take (k*2)++BU (D.A5.drop (k+1)))->D4 O v3 (D.A5.take k++D.A5.drop (k+1))):=by
    intro E O v2 v3 h;unfold D4;rw[aJ,KN,<-A1u];exact h.AE
   by_cases aU:cap=k+1
   ·subst aU;(have hz:D.A5.length=k+1:=by omega);have aX:Hid (∀z E:World,D4 z (AB g D.A5.length (k+1)) D.A5->A4 Aa z E->Src Tryz.prog 2 92 (AB g 0 0) 0 [] E):=
     λz E _ _=>Iw E underlying92 _ 0 _ [] rfl (by simp) (by simp)
    have aW:Hid (∀(E O:World) (v2 v3:Value),App E O 125 2 v2 v3 (k+0) ((BU D.A5).take (k*2)++[])->D4 O v3 (D.A5.take k++D.A5.drop (k+1))):=by
     intro E O v2 v3 h;refine a4.o E O v2 v3 ?_;rw[I0 (by omega),show D.A5.length-(k+1)=0 from by omega];exact h
    clear hz
    go_enter func193,ntmps193
    go_wp2_with (first
     | (go_at_call 77;refine(Dx _ _ _ _ hd.o).mono ?_;rintro e w'⟨rfl,rfl⟩;rw[aV.o])
     | (go_at_call 121;refine(GX _ _ _ _ _ _ aH.o).mono ?_;rintro e z⟨rfl,d,I⟩;have aY:=d.c0;have aK:=A1 (aO.o z d I))
     | (at_builtin;refine CZ rfl (.const (.slice none 0 0)) (.tmp 28) 92 92 rfl 125 i0 _ 2 24 underlying92 hi W Y X rfl (by decide) (.slice none 0 0) 0 [] (by rfl) (Cp _ 0 125 2) (AB g k (k+1)) k ((BU D.A5).take (k*2)) (by rfl) (Src.bO underlying92 aK.o.1 aB.o) (by omega) ?_;intro a2 aS E L;simp only[GM,EU]at L;have aE:=A1 L.AE;have a1:=(d.An L.bz (λh=>h)).c0;have aF:=A1 (aX.o z E aK.o.2 L.bz))
     | (at_builtin;refine CZ rfl (.tmp 31) (.tmp 38) 92 92 rfl 125 i0 _ 2 24 underlying92 hi W Y X rfl (by decide) _ k ((BU D.A5).take (k*2)) (by rfl) aE.o _ _ _ (by rfl) aF.o (by omega) ?_;intro a3 aL O hB;have c13:=A1 (hB.cr L.bz L.AV);have hm:=A1 (OM aA.o d I c13.o.1))
     | (go_at_call 122;refine(Lw _ b _ vs vc _ _ _ _ _ _ hm.o.1 hm.o.2 aN).mono ?_;rintro e w5⟨rfl,a0,k1,k2,k3,k4⟩))
    go_ret;rw[q.o,aD];have e3:=aW.o _ _ _ _ hB;exact⟨rfl,ON aA.o aT.o d I c13.o.1 e3 c13.o.2 aR.o k1 k2 k3 k4⟩
   ·have aX:Hid (∀z E:World,D4 z (AB g D.A5.length cap) D.A5->A4 Aa z E->Src Tryz.prog 2 92 (.slice (some (A9 g ((k+1)*2))) (D.A5.length-(k+1)) (cap-(k+1))) (D.A5.length-(k+1)) (BU (D.A5.drop (k+1))) E):=by
     intro z E h1 aZ;have h2:=Aw h1 λx hx=>aZ.Am x (Ay h1 hx) (λh=>h);refine Iw E underlying92 _ _ _ _ (by rw[A1v,Cl]) ?_ (OG _);intro j u hu;rw[<-A1w,HY]at hu;(have aQ:((A9 g ((k+1)*2)):Addr).add j=(A9 g ((k+1)*2+j)):=by unfold Addr.add;split<;>simp_all);rw[aQ];exact BD h2 rfl hu
    go_enter func193,ntmps193
    go_wp2_with (first
     | (go_at_call 77;refine(Dx _ _ _ _ hd.o).mono ?_;rintro e w'⟨rfl,rfl⟩;rw[aV.o])
     | (go_at_call 121;refine(GX _ _ _ _ _ _ aH.o).mono ?_;rintro e z⟨rfl,d,I⟩;have aY:=d.c0;have aK:=A1 (aO.o z d I))
     | (at_builtin;refine CZ rfl (.const (.slice none 0 0)) (.tmp 28) 92 92 rfl 125 i0 _ 2 24 underlying92 hi W Y X rfl (by decide) (.slice none 0 0) 0 [] (by rfl) (Cp _ 0 125 2) (AB g k cap) k ((BU D.A5).take (k*2)) (by rfl) (Src.bO underlying92 aK.o.1 aB.o) (by omega) ?_;intro a2 aS E L;simp only[GM,EU]at L;have aE:=A1 L.AE;have a1:=(d.An L.bz (λh=>h)).c0;have aF:=A1 (aX.o z E aK.o.2 L.bz))
     | (at_builtin;refine CZ rfl (.tmp 31) (.tmp 38) 92 92 rfl 125 i0 _ 2 24 underlying92 hi W Y X rfl (by decide) _ k ((BU D.A5).take (k*2)) (by rfl) aE.o _ _ _ (by rfl) aF.o (by omega) ?_;intro a3 aL O hB;have c13:=A1 (hB.cr L.bz L.AV);have hm:=A1 (OM aA.o d I c13.o.1))
     | (go_at_call 122;refine(Lw _ b _ vs vc _ _ _ _ _ _ hm.o.1 hm.o.2 aN).mono ?_;rintro e w5⟨rfl,a0,k1,k2,k3,k4⟩))
    go_ret;rw[q.o,aD];have e3:=a4.o _ _ _ _ hB;exact⟨rfl,ON aA.o aT.o d I c13.o.1 e3 c13.o.2 aR.o k1 k2 k3 k4⟩
  ·(have aP:(bg D.n).1=false:=by simpa using aD)
   go_enter func193,ntmps193
   go_wp2_with (first|(go_at_call 77;refine(Dx _ _ _ _ hd.o).mono ?_;rintro e w'⟨rfl,rfl⟩;rw[aV.o])|(go_at_call 121;refine(GX _ _ _ _ _ _ aH.o).mono ?_;rintro e z⟨rfl,d,I⟩));go_ret;rw[q.o,aP];exact⟨rfl,aA.o.bP aI d I⟩
def Dk(es:List AN)(i:Nat)(name:ByteArray):Nat->List AN
 | 0=>[]
 | k+1=>Dk es i name k++(match es[k]? with
  | some e=>if k≠i/\e.1≠name then [e] else []
  | none=>[])
def LL(es:List AN)(i:Nat)(name:ByteArray)(k:Nat):∀e∈Dk es i name k,e∈es:=by
 induction k with
 | zero=>intro e h;cases h
 | succ k ih=>
  intro e h;simp only[Dk]at h;rcases AY.1 h with h|h
  ·exact ih e h
  ·split at h
   ·rename_i x d;split at h
    ·simp at h;subst h;exact Ld d
    ·cases h
   ·cases h
def NG(es:List AN)(i:Nat)(name:ByteArray)(k:Nat):(Dk es i name k).length<=k:=by
 induction k with
 | zero=>simp[Dk]
 | succ k ih=>
  simp only[Dk,Ba];split
  ·split<;>simp<;>omega
  ·simp;omega
def R6(es:List AN)(i:Nat)(name:ByteArray)(k:Nat)(d:k<es.length)(h:k≠i/\(es[k]'d).1≠name):Dk es i name (k+1)=Dk es i name k++[es[k]'d]:=by
 simp only[Dk,DQ d];rw[Ai h]
def NH(es:List AN)(i:Nat)(name:ByteArray)(k:Nat)(d:k<es.length)(h:¬(k≠i/\(es[k]'d).1≠name)):Dk es i name (k+1)=Dk es i name k:=by
 simp only[Dk,DQ d];rw[Ae h,EF]
def D3(D:DS)(old name:ByteArray):Int×DS:=match lookup D.A5 old with
 | none=>(8,D)
 | some f=>if name=ByteArray.empty then (8,D) else
  let es:=Dk D.A5 (B6 D.A5 old).toNat name D.A5.length++[(name,f)]
  ((bg D.n).2.1,if (bg D.n).1 then {D with A5:=es,Aq:=D.Aq++[es],n:=(bg D.n).2.2} else {D with n:=(bg D.n).2.2})
def XU(w:World)(b:Nat)(D:DS)(F:Nat->FC)(Ft:Nat->Prop)(h:Da w b D F Ft)(old name:ByteArray)(hs:D.A5.length<1099511627776/\D.Aq.length<1099511627776):
 Ag 242 #[A6 b,.string old,.string name] w λe w'=>e=.returned (A0 (D3 D old name).1)/\Dq w Ft w' b (D3 D old name).2 F:=by
 obtain⟨vd,vs,vc,vals,VB,hr,aB⟩:=h;obtain⟨hs1,aU⟩:=hs;have aG:=A1 hr;have aX:=A1 aB;have c0:=hr.Af.c0;have hd:=A1 hr.A5;have aR:=A1 hr.Af;rcases IX D.A5 old with⟨h1,h2⟩|⟨k,E,h1,h2,h3⟩
 ·have q:Hid (D3 D old name=(8,D)):=by unfold Hid D3;rw[h2]
  have hfi:B6 D.A5 old<0:=by omega
  go_enter func242,ntmps242
  go_wp2_with (go_at_call 77;refine(Dx _ _ _ _ hd.o).mono ?_;rintro e w'⟨rfl,rfl⟩);go_ret;rw[q.o];exact⟨rfl,Dq.bu (A4.C _ _) aG.o λk E=>.inl (aB k E)⟩
 ·have aT:=A1 h1;by_cases hn:name.toList.isEmpty=true
  ·(have q:Hid (D3 D old name=(8,D)):=by unfold Hid D3;rw[h2];exact Ai ((isEmpty_iff _).1 hn))
   go_enter func242,ntmps242
   go_wp2_with (go_at_call 77;refine(Dx _ _ _ _ hd.o).mono ?_;rintro e w'⟨rfl,rfl⟩;rw[aT.o]);go_ret;rw[q.o];exact⟨rfl,Dq.bu (A4.C _ _) aG.o λk E=>.inl (aB k E)⟩
  ·(have hn':name.toList.isEmpty=false:=by simpa using hn);have q:Hid (D3 D old name=((bg D.n).2.1,if (bg D.n).1 then {D with A5:=Dk D.A5 k name D.A5.length++[(name,(D.A5[k]'E).2)],Aq:=D.Aq++[Dk D.A5 k name D.A5.length++[(name,(D.A5[k]'E).2)]],n:=(bg D.n).2.2} else {D with n:=(bg D.n).2.2})):=by
    unfold Hid D3;rw[h2];dsimp only;rw[Ae (λe=>hn ((isEmpty_iff _).2 e)),h1];rfl
   by_cases aI:(bg D.n).1=true
   ·obtain⟨i0,hi,aK,aP,aO⟩:=DG Tryz.cS;obtain⟨a,cap,rfl,z1,z2,aF⟩:=aG.o.A5.BP;obtain⟨g,rfl,_,_⟩:=aF k E;unfold maxLen at z2
    have cells:Hid (∀X wr,AL X b (.slice (some (A9 g 0)) D.A5.length cap) vs vc (bg D.n).2.2->A4 (One b) w X->A4 Aa X wr->A8 wr b 0 (.slice (some (A9 g 0)) D.A5.length cap)/\
     ∀j (hj:j<D.A5.length),A8 wr g (j*2) (.string (D.A5[j]'hj).1)/\A8 wr g (j*2+1) (A6 ((D.A5[j]'hj).2))):=by
     intro X wr g1 g2 g3;have r1:=aG.o.ak g1 g2;have r3:=r1.aI λx hx=>g3.Am x (r1.lt hx) (λh=>h);exact⟨r3.Af.c0,λj hj=>⟨BD r3.A5 rfl (OH _ j hj),BD r3.A5 rfl (OF _ j hj)⟩⟩
    go_enter func242,ntmps242
    go_wp2_with (first
     | (go_at_call 77;refine(Dx _ _ _ _ hd.o).mono ?_;rintro e w'⟨rfl,rfl⟩;rw[aT.o])
     | (go_at_call 121;refine(GX _ _ _ _ _ _ aR.o).mono ?_;rintro e X⟨rfl,z,L⟩;have c01:=z.c0))
    go_loopw [10,35] (λv i wr=>∃j:Nat,j<=D.A5.length/\i=A0 j/\A4 Aa X wr/\D4 wr v (Dk D.A5 k name j)/\Hid (∀x,v.ownBlock=some x->X.heap.size<=x)) (λ_ i _=>D.A5.length-(intOf i).toNat)
    case atStart=>exact⟨0,Ce _,rfl,A4.C _ _,Cp _ _ _ _,λx hx=>by simp[Value.ownBlock]at hx⟩
    case round=>
     obtain⟨j,hj,rfl,I,aV,Y⟩:=hrel;have aA:=A1 aV;obtain⟨cb,ce⟩:=cells.o X wr z L I;by_cases d:j<D.A5.length
     ·obtain⟨cn,cp⟩:=ce j d;by_cases W:j=k
      ·(have aJ:((j:Int)!=(k:Int))=false:=by simp[W]);have q2:=A1 (NH D.A5 k name j d (λh=>h.1 W));have aQ:=A1 W;go_wp2;go_roundw
       case rel=>exact⟨j+1,by omega,by go_num,I,by rw[q2.o];exact aA.o,Y⟩
       case measure=>simp[intOf];omega
      ·(have aJ:((j:Int)!=(k:Int))=true:=by rw[bne_iff_ne];omega);have aQ:=A1 W;by_cases O:(D.A5[j]'d).1=name
       ·have aM:=(P6 _ _).2 O;have q2:=A1 (NH D.A5 k name j d (λh=>h.2 O));go_wp2;go_roundw
        case rel=>exact⟨j+1,by omega,by go_num,I,by rw[q2.o];exact aA.o,Y⟩
        case measure=>simp[intOf];omega
       ·have aM:=(TP _ _).2 O;have q2:=A1 (R6 D.A5 k name j d ⟨aQ.o,O⟩);have aH:=A1 (aA.o.alloc (.cells #[.string (D.A5[j]'d).1,A6 ((D.A5[j]'d).2)] 125));have aE:=A1 (Src.a8 (size:=2) underlying92 wr #[.string (D.A5[j]'d).1,A6 ((D.A5[j]'d).2)] 125 wr.heap.size rfl 1 1 rfl (by simp[Value.oneCell']));have aW:=NG D.A5 k name j;go_wp2_with (at_builtin;refine CZ rfl (.tmp 53) (.tmp 61) 92 92 rfl 125 i0 _ 2 24 underlying92 hi aK aP aO rfl (by decide) _ _ _ (by rfl) aH.o _ 1 _ (by rfl) aE.o (by omega) ?_;intro a3 aD w3 hB;have c13:=A1 (hB.cr (I.ah _) Y.o));go_roundw
        case rel=>
         refine⟨j+1,by omega,by go_num,c13.o.1,?_,c13.o.2⟩;rw[q2.o];have:=hB.AE;unfold D4;rw[KN,Ba];exact this
        case measure=>simp[intOf];omega
     ·obtain⟨cn,cp⟩:=ce k E;(have aS:j=D.A5.length:=by omega);have aN:=aA.o;rw[aS]at aN;have aH:=A1 (aN.alloc (.cells #[.string name,A6 ((D.A5[k]'E).2)] 125));have aE:=A1 (Src.a8 (size:=2) underlying92 wr #[.string name,A6 ((D.A5[k]'E).2)] 125 wr.heap.size rfl 1 1 rfl (by simp[Value.oneCell']));have aW:=NG D.A5 k name D.A5.length
      go_wp2_with (first
       | (at_builtin;refine CZ rfl (.tmp 65) (.tmp 76) 92 92 rfl 125 i0 _ 2 24 underlying92 hi aK aP aO rfl (by decide) _ _ _ (by rfl) aH.o _ 1 _ (by rfl) aE.o (by omega) ?_;intro a3 aD w3 hB;have c13:=A1 (hB.cr (I.ah _) Y.o);have hm:=A1 (OM aG.o z L c13.o.1))
       | (go_at_call 122;refine(Lw _ b _ vs vc _ _ _ _ _ _ hm.o.1 hm.o.2 aU).mono ?_;rintro e w5⟨rfl,vc',k1,k2,k3,k4⟩))
      go_ret;rw[q.o,aI];have e3:D4 w3 (.slice a3 ((Dk D.A5 k name D.A5.length).length+1) aD) (Dk D.A5 k name D.A5.length++[(name,(D.A5[k]'E).2)]):=by
       have:=hB.AE;unfold D4;rw[KN,Ba];exact this
      refine⟨rfl,ON aG.o aX.o z L c13.o.1 e3 c13.o.2 ?_ k1 k2 k3 k4⟩;rintro f⟨e,he,rfl⟩;rcases AY.1 he with he|he
      ·exact .inl ⟨e,LL _ _ _ _ e he,rfl⟩
      ·simp at he;subst he;exact .inl ⟨_,BT E,rfl⟩
   ·(have aL:(bg D.n).1=false:=by simpa using aI)
    go_enter func242,ntmps242
    go_wp2_with (first|(go_at_call 77;refine(Dx _ _ _ _ hd.o).mono ?_;rintro e w'⟨rfl,rfl⟩;rw[aT.o])|(go_at_call 121;refine(GX _ _ _ _ _ _ aR.o).mono ?_;rintro e X⟨rfl,z,L⟩));go_ret;rw[q.o,aL];exact⟨rfl,aG.o.bP aB z L⟩
def Gv(x y:Int):Int:=if x<y then -1 else if y<x then 1 else 0
def A2f(x y:Int)(w:World):Ag 130 #[A0 x,A0 y] w (Aj (A0 (Gv x y)) λw'=>w=w'):=by
 by_cases h:x<y
 ·have q:Hid (Gv x y = -1):=by unfold Hid Gv;rw[Ai h]
  go_enter func130,ntmps130
  go_wp2;go_ret;rw[q.o];exact⟨rfl,rfl⟩
 ·by_cases d:y<x
  ·(have q:Hid (Gv x y=1):=by unfold Hid Gv;rw[Ae h,Ai d])
   go_enter func130,ntmps130
   go_wp2;go_ret;rw[q.o];exact⟨rfl,rfl⟩
  ·(obtain rfl:x=y:=by omega);(have q:Hid (Gv x x=0):=by unfold Hid Gv;rw[Ae h,Ae d])
   go_enter func130,ntmps130
   go_wp2;go_ret;rw[q.o];exact⟨rfl,rfl⟩
def OW(t v y:Int)(w:World):Ag 163 #[.agg #[A0 t,A0 v],A0 y] w (Aj (A0 (Gv t y)) λw'=>A4 Aa w w'):=by
 go_enter func163,ntmps163
 go_wp2_with (go_at_call 130;refine(A2f _ _ _).mono ?_;rintro e w'⟨rfl,rfl⟩);go_ret;exact⟨rfl,(A4.C _ w).ah _⟩
def EP(l:List Pt)(t:Int):Bool:=(l[BB l t]?).any λx=>x.1==t
def Xp(w:World)(lv:Value)(L:List Pt)(t:Int)(hL:Cb w lv L)(hs:Dz L)(hl:L.length<1099511627776):
 Ag 162 #[lv,A0 t,.func (.func 163) #[] #[]] w (Aj (.tuple #[A0 (BB L t),.bool (EP L t)]) λw'=>A4 Aa w w'):=by
 obtain⟨a,cap,rfl,h1,h2,h3,_,_⟩:=Bk hL;unfold maxLen at h2;have aK:=A1 hL;have aM:=A1 hs;have aL:=A1 h3;have aE:=IP L t;have aJ:Hid (∀W,A4 Aa w W->∀k (hk:k<L.length),∃g,a=some (A9 g 0)/\A8 W g (k*2) (A0 (L[k]'hk).1)/\A8 W g (k*2+1) (A0 (L[k]'hk).2)):=by
  intro W hc k hk;obtain⟨g,rfl⟩:=aL.o (by omega);have hW:Cb W (AB g L.length cap) L:=Aw aK.o λg hg=>hc.Am g (Ay aK.o hg) (λh=>h);exact⟨g,rfl,hW.bn k hk⟩
 go_enter func162,ntmps162
 go_wp2;go_loopw [9,10] (λiv jv wq=>∃i j:Nat,i<=j/\j<=L.length/\iv=A0 i/\jv=A0 j/\Hid (i<=BB L t/\BB L t<=j)/\Hid (A4 Aa w wq)) (λiv jv _=>(intOf jv).toNat-(intOf iv).toNat)
 case atStart=>exact⟨0,L.length,Ce _,Ao _,rfl,rfl,⟨Ce _,aE⟩,A4.C _ _⟩
 case round=>
  obtain⟨i,j,hij,hj,rfl,rfl,E,d⟩:=hrel;by_cases hlt:i<j
  ·obtain⟨m,hm⟩:∃m,(i+j)/2=m:=⟨_,rfl⟩;(have aH:i<=m:=by omega);(have hmj:m<j:=by omega);(have O:m<L.length:=by omega);obtain⟨g,rfl,c1,c2⟩:=aJ.o _ d.o m O;obtain⟨⟨tm,vm⟩,aD⟩:∃x,L[m]'O=x:=⟨_,rfl⟩;rw[aD]at c1 c2;have aB:=A1 aD;have i0:=BR i;(have hsum:(i:Int)+(j:Int)<=9223372036854775807:=by omega);(have hlt':(i:Int)<(j:Int):=by omega);by_cases aF:tm<t
   ·(have hc:Gv tm t<0:=by unfold Gv;rw[Ai aF];omega);have hp:Hid (m+1<=BB L t):=by
     unfold Hid;apply PF;intro hn;have:=Kr aM.o (show BB L t<=m by omega) O;rw[aB.o]at this;simp only at this;omega
    go_wp2_with (go_at_call 163;refine(OW _ _ _ _).mono ?_;rintro e w'⟨rfl,z⟩;have I:=A1 z);go_roundw
    case rel=>exact⟨m+1,j,by omega,hj,by rw[show ((i:Int)+(j:Int))/2+1=((m+1:Nat):Int) from by omega],rfl,⟨hp.o,E.o.2⟩,d.o.tr I.o⟩
    case measure=>simp[intOf];omega
   ·have hc:0<=Gv tm t:=by
     unfold Gv;rw[Ae aF];split<;>omega
    have hp:Hid (BB L t<=m):=by
     unfold Hid;apply PF;intro hn;have:=JB (show m<BB L t by omega) O;rw[aB.o]at this;simp only at this;omega
    go_wp2_with (go_at_call 163;refine(OW _ _ _ _).mono ?_;rintro e w'⟨rfl,z⟩;have I:=A1 z);go_roundw
    case rel=>exact⟨i,m,aH,by omega,rfl,by rw[show ((i:Int)+(j:Int))/2=(m:Int) from by omega],⟨E.o.1,hp.o⟩,d.o.tr I.o⟩
    case measure=>simp[intOf];omega
  ·(obtain rfl:i=j:=by omega);(have aG:Hid (BB L t=i):=by have:=E.o;unfold Hid;omega);by_cases X:i<L.length
   ·obtain⟨g,rfl,c1,c2⟩:=aJ.o _ d.o i X;obtain⟨⟨Y,vi⟩,aA⟩:∃x,L[i]'X=x:=⟨_,rfl⟩;rw[aA]at c1 c2;have i0:=BR i;(have i1:(i:Int)<(L.length:Int):=by omega);have aI:Hid (EP L t=(Gv Y t==0)):=by
     unfold Hid EP;rw[aG.o,DQ X,aA];simp only[Option.any_some];unfold Gv;by_cases e1:Y<t
     ·rw[Ai e1];have:Y≠t:=by omega
      simp[this]
     ·rw[Ae e1];by_cases e2:t<Y
      ·rw[Ai e2];have:Y≠t:=by omega
       simp[this]
      ·rw[Ae e2];have:Y=t:=by omega
       simp[this]
    go_wp2_with (go_at_call 163;refine(OW _ _ _ _).mono ?_;rintro e w'⟨rfl,z⟩;have I:=A1 z);go_ret2;rw[aG.o,aI.o];exact⟨rfl,d.o.tr I.o⟩
   ·(have hil':(L.length:Int)<=(i:Int):=by omega);have aI:Hid (EP L t=false):=by
     unfold Hid EP;rw[aG.o,Lg (by omega)];rfl
    go_wp2;go_ret2;rw[aG.o,aI.o];exact⟨rfl,d.o⟩
structure ML (w:World) (b o:Nat) (L:List Pt) (lv:Value):Prop where
 CT:w.cell? ⟨b,o,none⟩=some lv
 Bp:Cb w lv L
 FP:Dz L
 CK:L.length<1099511627776
def Ml(w:World)(b o:Nat)(L:List Pt)(lv:Value)(t:Int)(h:ML w b o L lv):
 Ag 116 #[.pointer (some (A9 b o)),A0 t] w (Aj (.tuple #[A0 (BB L t),.bool (EP L t)]) λw'=>A4 Aa w w'):=by
 have hc:=h.CT;obtain⟨a,cap,rfl,_⟩:=Bk h.Bp;have H:=A1 h
 go_enter func116,ntmps116
 go_wp2_with (go_at_call 162;refine(Xp _ _ _ _ H.o.Bp H.o.FP H.o.CK).mono ?_;rintro e w'⟨rfl,d⟩;have z:=A1 d);go_ret2;exact⟨rfl,z.o⟩
def Tryz.cf:(Tryz.prog.info? 70).map (λi=>(i.zero,i.size,i.bytes))=some (some (.agg #[A0 0,A0 0]),2,16):=by kernel_rfl
def YH{l:List Pt}(z:Dz l)(t:Int):BB l (t+1)=BB l t+(if EP l t then 1 else 0):=by
 have L:=IP l t;by_cases h:EP l t=true
 ·rw[Ai h];unfold EP at h;by_cases O:BB l t<l.length
  ·rw[DQ O]at h;simp at h;refine LV z (by omega) (λi d I=>?_) λi d E=>?_
   ·by_cases e:i=BB l t
    ·subst e;omega
    ·have:=JB (show i<BB l t by omega) d;omega
   ·have:=Lb.1 z (BB l t) i O d (by omega);rw[h]at this;omega
  ·rw[Lg (by omega)]at h;cases h
 ·rw[Ae h,Pn];refine LV z L (λi d I=>?_) λi d E=>?_
  ·have:=JB I d;omega
  ·have h2:=Kr z E d;by_cases e:(l[i]'d).1=t
   ·exfalso;apply h;by_cases W:i=BB l t
    ·subst W;unfold EP;rw[DQ d];simpa using e
    ·have:=Lb.1 z (BB l t) i (by omega) d (by omega);have:=Kr z (Ao (BB l t)) (show BB l t<l.length by omega);omega
   ·omega
def YI{l:List Pt}(d:Dz l){a b:Int}(h:a<=b):BB l a<=BB l b:=by
 apply PF;intro hn;have hl:=IP l a;have h1:=JB (show BB l b<BB l a by omega) (by omega);have h2:=Kr d (Ao (BB l b)) (by omega);omega
def piece(l:List Pt)(a b:Int):List Pt:=l.filter λx=>decide (a<=x.1)&&decide (x.1<=b)
def YK{l:List Pt}(d:Dz l)(a b:Int):piece l a b=(l.take (BB l b+(if EP l b then 1 else 0))).drop (BB l a):=by
 rw[<-YH d b,<-A1b d a (b+1)];unfold piece
 congr 1
 funext x
 have:decide (x.1<=b)=decide (x.1<b+1):=by
  apply N8.2;simp;omega
 rw[this]
def A2G(w:World)(rb ro:Nat)(L:List Pt)(lv:Value)(a b:Int)(h:ML w rb ro L lv):
 Ag 80 #[.pointer (some (A9 rb ro)),A0 a,A0 b] w λe w'=>∃v,e=.returned v/\Cb w' v (piece L a b)/\A4 Aa w w'/\∀g,v.ownBlock=some g->w.heap.size<=g:=by
 have H:=A1 h;have hc:=h.CT;obtain⟨ad,cap,rfl,h1,h2,h3,h4,h5⟩:=Bk h.Bp;unfold maxLen at h2;have HA:=A1 h3;have aT:=Gz w _ hc;have aL:Hid (∀W,A4 Aa w W->ML W rb ro L (.slice ad L.length cap)):=λW I=>
  ⟨(Dy (I.Am rb aT (λh=>h))).trans H.o.CT,Aw H.o.Bp λg hg=>I.Am g (Ay H.o.Bp hg) (λh=>h),H.o.FP,H.o.CK⟩
 obtain⟨i0,hi,aF,aK,aI⟩:=DG Tryz.cf;have hsm:=h.CK;have aX:=A1 h4;have aW:=A1 h5;by_cases hab:b<a
 ·have q:Hid (piece L a b=[]):=by
   unfold Hid piece;rw[UM];intro x _;simp;omega
  go_enter func80,ntmps80
  go_wp2;go_ret;exact⟨_,rfl,by rw[q.o];exact Cp _ _ _ _,A4.C _ _,by simp[Value.ownBlock]⟩
 ·have aN:a<=b:=by omega
  have aJ:=YK H.o.FP a b;have hm:=YI H.o.FP aN;have aS:=IP L b;have X:EP L b=true->BB L b<L.length:=λhh=>by
   unfold EP at hh;apply PF;intro hn;rw[Lg (by omega)]at hh;cases hh
  obtain⟨i,aH⟩:∃i,BB L a=i:=⟨_,rfl⟩;obtain⟨j,Y⟩:∃j,BB L b=j:=⟨_,rfl⟩;obtain⟨hs,aE⟩:∃hs,EP L b=hs:=⟨_,rfl⟩;rw[aH,Y]at hm;rw[Y]at aS;rw[aE,Y]at X;rw[aH,Y,aE]at aJ;have aR:Hid (∀W,A4 Aa w W->Ag 116 #[.pointer (some (A9 rb ro)),A0 a] W λe w'=>∃x,e=.returned (.tuple #[A0 i,.bool x])/\A4 Aa W w'):=λW I=>
   (Ml W rb ro L _ a (aL.o W I)).mono (by rintro e w'⟨rfl,h⟩;rw[aH];exact⟨_,rfl,h⟩)
  have aV:Hid (∀W,A4 Aa w W->Ag 116 #[.pointer (some (A9 rb ro)),A0 b] W (Aj (.tuple #[A0 j,.bool hs]) λw'=>A4 Aa W w')):=λW I=>
   (Ml W rb ro L _ b (aL.o W I)).mono (by rintro e w'⟨rfl,h⟩;rw[Y,aE];exact⟨rfl,h⟩)
  have aQ:=A1 aJ;have O:Hid (∀W (n:Nat),A4 Aa w W->i<=n->n<=L.length->n=j+(if hs then 1 else 0)->∀v,(v=.slice (Option.map (λx=>x.add (i*2)) ad) (n-i) (cap-i)\/(n=i/\∃x c,v=.slice x 0 c))->Src Tryz.prog 2 66 v (n-i) (B3 (piece L a b)) W/\(piece L a b).length=n-i):=by
   intro W n I hin hnl hn v hv;(have aA:(piece L a b).length=n-i:=by rw[aQ.o,<-hn,Cl,BI];omega);have aP:=(aL.o W I).Bp;refine⟨?_,aA⟩;have aU:∀g,ad=some (A9 g 0)->∀(k:Nat) u,(B3 (piece L a b))[k]?=some u->A8 W g (i*2+k) u:=by
    intro g hg k u hk;subst hg;refine BD aP (g:=g) rfl ?_;rw[aQ.o,<-hn,<-LU,<-NQ,HY,MX]at hk;split at hk
    ·exact hk
    ·cases hk
   have aB:n-i=0->∀x c,Src Tryz.prog 2 66 (.slice x 0 c) 0 (B3 (piece L a b)) W:=by
    intro h0 x c;have:piece L a b=[]:=N0 (by omega);rw[this];cases x with
    | none=>exact Src.ofNil W underlying66 c
    | some y=>exact Iw W underlying66 _ 0 c [] rfl (by simp) (by simp)
   rcases hv with rfl|⟨hni,x,c,rfl⟩
   ·cases ad with
    | none=>
     have:=(aX.o rfl).1;(have h0:n-i=0:=by omega);rw[h0];exact aB h0 _ _
    | some x=>
     obtain⟨g,rfl⟩:=aW.o x rfl;refine Iw W underlying66 _ _ _ _ (by rw[Gj,aA]) (λk u hk=>?_) (Kp _);have hx:Addr.add (Addr.add (A9 g 0) (i*2)) k=(A9 g (i*2+k)):=by
      unfold Addr.add;by_cases h1:i*2=0<;>by_cases h2:k=0<;>simp[h1,h2]
     rw[hx];exact aU g rfl k u hk
   ·(have h0:n-i=0:=by omega);rw[h0];exact aB h0 x c
  have HLEN:Hid ((piece L a b).length=j+(if hs then 1 else 0)-i):=by
   unfold Hid;rw[aJ,Cl,BI];cases hs with
   | true=>have:=X rfl;simp;omega
   | false=>simp;omega
  have j0:=BR j;have iz:=BR i;have hij:(i:Int)<=(j:Int):=by omega
  have hjc:(j:Int)<=(cap:Int):=by omega
  have hic:(i:Int)<=(cap:Int):=by omega
  have hbyt:(0+(j+1-i))*16<=140737488355328:=by omega
  have aG:Hid (∀(W w3:World) (n:Nat) (b3:Option Addr) (d:Nat),A4 Aa w W->(piece L a b).length=n->App W w3 70 2 (.slice none 0 0) (.slice b3 (0+n) d) (0+n) ([]++B3 (piece L a b))->Cb w3 (.slice b3 n d) (piece L a b)/\A4 Aa w w3/\∀g,(Value.slice b3 n d).ownBlock=some g->w.heap.size<=g):=by
   intro W w3 n b3 d I hn hA;refine⟨?_,I.tr hA.bz,λg hg=>?_⟩
   ·have:=hA.AE;unfold Cb;rw[hn];simpa using this
   ·have:=hA.AV g (by simpa using hg);have:=I.Al;omega
  cases hs with
  | false=>
   by_cases aO:cap=i
   ·obtain rfl:i=cap:=aO.symm;(obtain rfl:j=i:=by omega);have aM:Hid (∀W x c,A4 Aa w W->Src Tryz.prog 2 66 (.slice x 0 c) 0 (B3 (piece L a b)) W/\(piece L a b).length=0):=λW x c I=>by
     have:=O.o W j I (Ao _) (by omega) (by simp) (.slice x 0 c) (.inr ⟨rfl,x,c,rfl⟩)
     rwa [MP]at this
    go_enter func80,ntmps80
    go_wp2_with (fail);refine(aR.o _ (A4.C _ _)).mono ?_;rintro e w1⟨x,rfl,k1⟩;have aD:=A1 k1;go_wp2_with (fail);refine(aV.o _ aD.o).mono ?_;rintro e w2⟨rfl,k2⟩;have E:=A1 <| aD.o.tr k2;have c2:=(aL.o _ E.o).CT;go_wp2_with (at_builtin;refine CZ rfl (.const (.slice none 0 0)) (.tmp 35) 66 66 rfl 70 i0 _ 2 16 underlying66 hi aF aK aI rfl (by decide) (.slice none 0 0) 0 [] (by rfl) (Cp _ 0 70 2) _ 0 _ (by rfl) (aM.o _ _ _ E.o).1 (by omega) ?_;intro b3 d w3 hA;have z:=A1 (aG.o _ w3 _ b3 d E.o (aM.o _ none 0 E.o).2 hA));go_ret;exact⟨_,rfl,z.o.1,z.o.2.1,z.o.2.2⟩
   ·skip
    go_enter func80,ntmps80
    go_wp2_with (fail);refine(aR.o _ (A4.C _ _)).mono ?_;rintro e w1⟨x,rfl,k1⟩;have aD:=A1 k1;go_wp2_with (fail);refine(aV.o _ aD.o).mono ?_;rintro e w2⟨rfl,k2⟩;have E:=A1 <| aD.o.tr k2;have c2:=(aL.o _ E.o).CT;go_wp2_with (at_builtin;refine CZ rfl (.const (.slice none 0 0)) (.tmp 35) 66 66 rfl 70 i0 _ 2 16 underlying66 hi aF aK aI rfl (by decide) (.slice none 0 0) 0 [] (by rfl) (Cp _ 0 70 2) _ (j-i) _ (by rfl) (O.o _ j E.o (by omega) (by omega) (by simp) _ (.inl rfl)).1 (by omega) ?_;intro b3 d w3 hA;have z:=A1 (aG.o _ w3 _ b3 d E.o (O.o _ j E.o (by omega) (by omega) (by simp) _ (.inl rfl)).2 hA));go_ret;exact⟨_,rfl,z.o.1,z.o.2.1,z.o.2.2⟩
  | true=>
   have hjl:=X rfl;(have hjc':(j:Int)+1<=(cap:Int):=by omega);(have hij':(i:Int)<=(j:Int)+1:=by omega);(have hjt:((j:Int)+1).toNat=j+1:=by omega);by_cases aO:cap=i
   ·exfalso;omega
   ·skip
    go_enter func80,ntmps80
    go_wp2_with (fail);refine(aR.o _ (A4.C _ _)).mono ?_;rintro e w1⟨x,rfl,k1⟩;have aD:=A1 k1;go_wp2_with (fail);refine(aV.o _ aD.o).mono ?_;rintro e w2⟨rfl,k2⟩;have E:=A1 <| aD.o.tr k2;have c2:=(aL.o _ E.o).CT;go_wp2_with (at_builtin;refine CZ rfl (.const (.slice none 0 0)) (.tmp 35) 66 66 rfl 70 i0 _ 2 16 underlying66 hi aF aK aI rfl (by decide) (.slice none 0 0) 0 [] (by rfl) (Cp _ 0 70 2) _ ((j+1)-i) _ (by rfl) (O.o _ (j+1) E.o (by omega) (by omega) (by simp) _ (.inl rfl)).1 (by omega) ?_;intro b3 d w3 hA;have z:=A1 (aG.o _ w3 _ b3 d E.o (O.o _ (j+1) E.o (by omega) (by omega) (by simp) _ (.inl rfl)).2 hA));go_ret;exact⟨_,rfl,z.o.1,z.o.2.1,z.o.2.2⟩
end
end Go.Proofs.YtodcnkbblippnaaGreatDoor
