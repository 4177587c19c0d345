/- Part 11 of a proof: walks of the program. -/
import Derived.Test.YtodcnkbblippnabGreatDoorPart08
namespace Go.Proofs.YtodcnkbblippnabGreatDoor
set_option maxRecDepth 100000
set_option maxHeartbeats 32000000
set_option linter.defProp false
open Go.Proofs.Tryz
section
open Go.RowKit
attribute [local go_sem ↓] Go.wp_at_zero Go.wp_at_succ
def A0g(w:World)(X:Option Addr)(cap:Nat)(L:List Pt)(vb:Nat)(t v:Int)(hL:El w (.slice X L.length cap) L)(hsm:L.length<1099511627776)(hv:w.heap[vb]?=some (.cells #[A0 t,A0 v] 88 (0,0))):
 Aj 90 #[.slice X L.length cap,A0 L.length,AN vb 1 1] w λe w'=>∃lv',e=.returned lv'/\HU w w' (.slice X L.length cap) (L.take L.length++(t,v):: L.drop L.length) lv':=by
 have⟨i0,hi0,hz0,hz1,hz2⟩:=Eb Tryz.cM;have⟨_,_,he,h1,h2,_,h4,h5⟩:=Bb hL;cases he;unfold maxLen at h2;have W:Hid (Src Tryz.prog 2 43 (AN vb 1 1) 1 [A0 t,A0 v] w):=Src.cw underlying43 hv 1 1 rfl (by simp[Value.oneCell']);have aA:Hid (∀H h z,App w z 88 2 (.slice X L.length cap) (.slice H (L.length+1) h) (L.length+1) (Bk L++[A0 t,A0 v])->HU w z (.slice X L.length cap) (L.take L.length++(t,v):: L.drop L.length) (.slice H (L.length+1) h)):=by
  intro H h z I;refine⟨?_,I.An λk hk=>hk,λg hg=>?_⟩
  ·have:=I.AP;unfold El;rw[Ez (Aq _),Ke (Aq _),RK,AX];exact this
  ·rcases I.Cu with e|e
   ·rw[e]at hg;exact .inl hg
   ·rw[e]at hg;cases hg;exact .inr (Aq _)
 have aB:=A4 hL;have q4:(0:Int)<=(L.length:Int):=Gn _;have Y:(L.length+1)*16<=140737488355328:=by omega
 by_cases hc:cap=L.length
 ·subst hc
  go_enter func90,ntmps90
  go_wp2_with (at_builtin;refine De rfl (.tmp 23) (.tmp 24) 43 43 rfl 88 i0 _ 2 16 underlying43 hi0 hz0 hz1 hz2 rfl (by decide) _ L.length (Bk L) (by rfl) aB.o _ 1 _ (by rfl) W.o Y ?_;intro H h z I;have O:=A4 (aA.o H h z I));go_ret;exact⟨_,rfl,O.o⟩
 ·go_enter func90,ntmps90
  go_wp2_with (at_builtin;refine De rfl (.tmp 23) (.tmp 24) 43 43 rfl 88 i0 _ 2 16 underlying43 hi0 hz0 hz1 hz2 rfl (by decide) _ L.length (Bk L) (by rfl) aB.o _ 1 _ (by rfl) W.o Y ?_;intro H h z I;have O:=A4 (aA.o H h z I));go_ret;exact⟨_,rfl,O.o⟩
def A0n(L:List Pt)(i:Nat)(X:i<=L.length)(t v:Int)(c:List Value)(h:c.take (i*2)=Bk (L.take i))(hlen:(L.length+1)*2<=c.length):
 (Dv (DJ c i t v) L i).take ((L.length+1)*2)=Bk (L.take i++(t,v):: L.drop i)/\(Dv (DJ c i t v) L i).length=c.length:=by
 have H:(Bk (L.drop i)).length=(L.length-i)*2:=by rw[Gt,CM]
 have z:(DJ c i t v).length=c.length:=Ol c i t v (by omega);refine⟨?_,by rw[Tv _ _ _ X (by omega),z]⟩;have O:(Bk (L.take i)++[A0 t,A0 v]).length=(i+1)*2:=by
  simp only[AX,Gt,BU,BM,Gk];omega
 have W:(DJ c i t v).take ((i+1)*2)=Bk (L.take i)++[A0 t,A0 v]:=by
  unfold DJ;rw[h,<-O,K5]
 have I:(Bk (L.take i)++[A0 t,A0 v]++Bk (L.drop i)).length=(L.length+1)*2:=by
  rw[AX,O,H];omega
 unfold Dv;rw[W,Tm,<-I,K5]
def A0f(w:World)(g cap:Nat)(L:List Pt)(i vb:Nat)(t v:Int)(hL:El w (AN g L.length cap) L)(hi:i<L.length)(hroom:cap<L.length+1)(hsm:L.length<1099511627776)(hv:w.heap[vb]?=some (.cells #[A0 t,A0 v] 88 (0,0))):
 Aj 90 #[AN g L.length cap,A0 i,AN vb 1 1] w λe w'=>∃lv',e=.returned lv'/\HU w w' (AN g L.length cap) (L.take i++(t,v):: L.drop i) lv':=by
 have⟨cur,hg,hcs,htake,hnc,hcm⟩:=RU hL;unfold maxLen at hcm;obtain rfl:cap=L.length:=by omega
 have⟨i0,hi0,hz0,hz1,hz2⟩:=Eb Tryz.cM;have aM:(Bk (L.drop i)).length=(L.length-i)*2:=by rw[Gt,CM]
 have Y:∀(b x y:Nat),Addr.add (Ad b x) y=(Ad b (x+y)):=λb x y=>by unfold Addr.add;by_cases h:y=0<;>simp[h]
 have aH:(Builtin.firstCells i0.size i (AN g i L.length)).run Tryz.prog w.drew=.ok (Bk (L.take i)).toArray w.drew:=
  QR w.drew i0.size i (Ad g 0) i L.length (Bk (L.take i)) (by rw[hz1,Gt,BU];omega) (λj u z=>by
   rw[Y,GC];refine BB (w:=w) hL (g:=g) rfl ?_;rw[<-NH,Pn]at z;split at z
   ·exact z
   ·cases z)
 have H:=Xn (P:=Tryz.prog) w 43 3 43 88 i0 _ .i64 underlying43 underlying3 hi0 hz0 (by omega) (some (Ad g 0)) i L.length (Bk (L.take i)) aH (L.length+1-i) (by omega) (by omega) (by omega) (by rw[hz2];omega) (by rw[hz2];exact growslice_fits (by omega) (by omega));rw[show i+(L.length+1-i)=L.length+1 from by omega,show ((L.length+1-i:Nat):Int)=(L.length:Int)+1-(i:Int) from by omega]at H;obtain⟨O,aN⟩:∃O,grownCap w (L.length+1) L.length 88=O:=⟨_,rfl⟩;have aA:=grownCap_ge w (L.length+1) L.length 88;have aO:grownCap w (L.length+1) L.length 88<=maxLen:=grownCap_le_maxLen w (L.length+1) L.length 88 (by unfold maxLen;omega);rw[aN]at H aA aO;obtain⟨c0,W⟩:∃c0,(Bk (L.take i)).toArray++Builtin.zeroCells (Value.agg #[A0 0,A0 0]).cells (L.length+1-i)++Builtin.zeroCells (Value.agg #[A0 0,A0 0]).cells (O-(L.length+1))=c0:=⟨_,rfl⟩;have I:c0.toList.length=O*2:=by
  rw[<-W];have e1:(Value.agg #[A0 0,A0 0]).cells.size=2:=rfl;simp only[PK,AX,Jh,size_zeroCells,e1,Gt,BU];omega
 have aL:c0.toList.take (i*2)=Bk (L.take i):=by
  rw[<-W,PK,PK,C6];have:(Bk (L.take i)).length=i*2:=by rw[Gt,BU];omega
  rw[<-this,K5]
 rw[W]at H;unfold maxLen at aO;have aI:((w.drew.aC c0 88)).heap[w.heap.size]?=some (.cells c0 88 (0,0)):=BN w.drew _;have aQ:=Bo hv;have aS:=Bo hg;have aP:((w.drew.aC c0 88)).heap[vb]?=some (.cells #[A0 t,A0 v] 88 (0,0)):=(CU w.drew _ _ aQ).trans hv;have aF:Hid (∀ty X,(Builtin.copy_ #[43,43] ty #[.slice (some (Ad w.heap.size (i*2))) (L.length+1-i) X,AN vb 1 1]).run Tryz.prog (w.drew.aC c0 88)=.ok (goInt ((1:Nat):Int)) ((w.drew.aC c0 88).setRow w.heap.size (DJ c0.toList i t v).toArray)):=λty X=>by
  have:=LH (P:=Tryz.prog) (w.drew.aC c0 88) 43 43 ty 88 i0 2 w.heap.size (i*2) (L.length+1-i) X (Ad vb 0) 1 1 1 c0 88 [A0 t,A0 v] underlying43 hi0 hz1 aI (by simp only[UX];split<;>omega) rfl
   (λj u z=>by
    rw[Y,GC];unfold World.cell?;rw[aP]
    match j,z with
    | 0,z=>simpa using z
    | 1,z=>simpa using z
    | j+2,z=>simp at z)
   (by rw[<-Jh,I];simp only[BM,Gk];omega) (by simp[Value.oneCell'])
  simpa[DJ] using this
 have aK:(DJ c0.toList i t v).length=O*2:=by rw[Ol _ _ _ _ (by omega),I]
 have aJ:((w.drew.aC c0 88).setRow w.heap.size (DJ c0.toList i t v).toArray).heap[w.heap.size]?=some (.cells (DJ c0.toList i t v).toArray 88 (0,0)):=Kr _ w.heap.size c0 _ 88 _ aI;have aD:Hid (∀ty X sc,(Builtin.copy_ #[43,43] ty #[.slice (some (Ad w.heap.size ((i+1)*2))) (L.length-i) X,.slice (some (Ad g (i*2))) (L.length-i) sc]).run Tryz.prog ((w.drew.aC c0 88).setRow w.heap.size (DJ c0.toList i t v).toArray).drew=.ok (goInt ((L.length-i:Nat):Int)) (((w.drew.aC c0 88).setRow w.heap.size (DJ c0.toList i t v).toArray).drew.setRow w.heap.size (Dv (DJ c0.toList i t v) L i).toArray)):=λty X sc=>
  LH (P:=Tryz.prog) ((w.drew.aC c0 88).setRow w.heap.size (DJ c0.toList i t v).toArray).drew 43 43 ty 88 i0 2 w.heap.size ((i+1)*2) (L.length-i) X (Ad g (i*2)) (L.length-i) sc (L.length-i) (DJ c0.toList i t v).toArray 88 (Bk (L.drop i)) underlying43 hi0 hz1 aJ (by simp) aM
   (λj u z=>by
    rw[Y];have h0:w.cell? (Ad g (i*2+j))=some u:=by
     refine BB (w:=w) hL (g:=g) rfl ?_;rw[<-NJ,Jb]at z;exact z
    refine(Dp ?_).trans h0
    exact(Jr _ w.heap.size g _ (by omega)).trans (CU w.drew _ _ aS))
   (by rw[aM,Le,aK];omega) (NI _)
 have aT:Hid (HU w (((w.drew.aC c0 88).setRow w.heap.size (DJ c0.toList i t v).toArray).drew.setRow w.heap.size (Dv (DJ c0.toList i t v) L i).toArray) (AN g L.length L.length) (L.take i++(t,v):: L.drop i) (AN w.heap.size (L.length+1) O)):=by
  have aR:(((w.drew.aC c0 88).setRow w.heap.size (DJ c0.toList i t v).toArray).drew.setRow w.heap.size (Dv (DJ c0.toList i t v) L i).toArray).heap[w.heap.size]?=some (.cells (Dv (DJ c0.toList i t v) L i).toArray 88 (0,0)):=Kr _ w.heap.size _ _ 88 _ aJ;have aB:(L.take i++(t,v):: L.drop i).length=L.length+1:=by simp;omega
  have⟨k1,k2⟩:=A0n L i (by omega) t v c0.toList aL (by omega);refine⟨?_,?_,λg' h'=>by simp[Value.ownBlock]at h';exact .inr (by omega)⟩
  ·unfold El;rw[aB];refine⟨by rw[Gt,aB],.inr ⟨w.heap.size,O,_,rfl,C8 _,aR,aA,by unfold maxLen;omega,?_,k1⟩⟩;rw[Le,k2,I]
  ·refine⟨rfl,rfl,rfl,by simp,λk hk hn=>?_⟩;(have aG:k≠w.heap.size:=by omega);rw[Jr _ _ k _ aG];exact(Jr _ _ k _ aG).trans (CU w.drew _ _ hk)
 have q1:((i:Int)==(L.length:Int))=false:=by simp;omega
 have q2:¬(O=i):=by omega
 have q3:¬(O=i+1):=by omega
 have q3':¬(L.length=i):=by omega
 have q4:(i:Int)<=(L.length:Int):=by omega
 have q8:((i:Int)+1).toNat=i+1:=by omega
 have q9:(i:Int)+1<=(L.length:Int)+1:=by omega
 have q10:=Cd i;have q11:(i:Int)<=(L.length:Int)+1:=by omega
 have q13:(0:Int)<=(i:Int)+1:=by omega
 have q12:IntKind.i64.wrap ((i:Int)+1)=(i:Int)+1:=by simp only[Jf];omega
 have q14:IntKind.i64.wrap ((L.length:Int)+1-(i:Int))=(L.length:Int)+1-(i:Int):=by simp only[Jf];omega
 have aE:=A4 H
 go_enter func90,ntmps90
 go_wp2_with (first
  | (at_builtin;refine Lib.wpList_append_run _ rfl (.tmp 34) (.tmp 39) 43 3 rfl _ _ (by rfl) (by rfl) _ _ aE.o ?_)
  | (refine Lv _ rfl (.tmp 43) (.tmp 44) 43 43 rfl _ _ (by rfl) (by rfl) (aF.o _ _) ?_))
 refine Ji 8 (by kernel_rfl) (by kernel_rfl) ?_;simp only[JY,EU,EL,DA,Dj]
 repeat still_step
 refine Jj ?_;refine Lv _ rfl (.tmp 50) (.tmp 53) 43 43 rfl _ _ (by rfl) (by rfl) (aD.o _ _ _) ?_;go_wp2;go_ret;exact⟨_,rfl,aT.o⟩
def A0h(w:World)(I:Option Addr)(cap:Nat)(L:List Pt)(i z:Nat)(t v:Int)(O:El w (.slice I L.length cap) L)(hi:i<=L.length)(H:L.length<1099511627776)(hv:w.heap[z]?=some (.cells #[.int .i64 t,.int .i64 v] 88 (0,0)))(X:(Value.slice I L.length cap).ownBlock≠some z):
 Calls Tryz.prog 90 #[.slice I L.length cap,.int .i64 i,.slice (some ⟨z,0,none⟩) 1 1] w λe w'=>∃lv',e=.returned lv'/\HU w w' (.slice I L.length cap) (L.take i++(t,v):: L.drop i) lv':=by
 by_cases Y:i=L.length
 ·subst Y;exact A0g w I cap L z t v O H hv
 ·have⟨_,_,he,h1,h2,h3,h4,h5⟩:=Bb O;cases he;obtain⟨g,rfl⟩:=h3 (by omega);have W:z≠g:=λe=>X (by simp[Value.ownBlock,e]);by_cases h:L.length+1<=cap
  ·exact A0e w g cap L i z t v O (by omega) h H hv W
  ·exact A0f w g cap L i z t v O (by omega) (by omega) H hv
def TC{l:List Pt}{t:Int}(h:EH l t=true):∃z:BR l t<l.length,(l[BR l t]'z).1=t:=by
 unfold EH at h;by_cases z:BR l t<l.length
 ·rw[Ef z]at h;exact⟨z,by simpa using h⟩
 ·rw[MS (by omega)]at h;cases h
def Tt(l:List Pt)(t v:Int):CT l t v=if EH l t then l.set (BR l t) (t,v) else l.take (BR l t)++(t,v):: l.drop (BR l t):=by
 rw[A0t];show _++_::(if EH l t then _ else _)=_;by_cases h:EH l t=true
 ·have⟨hl,_⟩:=TC h;rw[Ah h,Ah h,List.set_eq_take_append_cons_drop,Ah hl]
 ·rw[Ae h,Ae h]
def Ts{l:List Pt}{t v:Int}(h:l.length<1099511627775):(CT l t v).length<1099511627776:=by
 have:(CT l t v).length<=l.length+1:=by
  rw[Tt];split
  ·simp
  ·simp;omega
 omega
def Yc(w:World)(z I:Nat)(cs:Array Value)(T:Nat)(hT:T≠88)(L:List Pt)(lv:Value)(t v:Int)(h:Ho w z I cs T L lv)(aJ:L.length<1099511627775):
 Aj 54 #[.pointer (some (Ad z I)),.agg #[A0 t,A0 v]] w (Au (.tuple #[]) λw'=>∃lv',Ir w w' z I cs T lv (CT L t v) lv'):=by
 have H:=A4 h;obtain⟨Y,cap,rfl,h1,h2,h3,h4,h5⟩:=Bb h.Bx;unfold maxLen at h2;have aX:=A4 h3;have aK:=Tt L t v;have aM:=Jw L t;obtain⟨i,aD⟩:∃i,BR L t=i:=⟨_,rfl⟩;obtain⟨hs,aF⟩:∃hs,EH L t=hs:=⟨_,rfl⟩;have a0:Hid (hs=true->i<L.length):=λe=>by
  have⟨q,_⟩:=TC (aF.trans e);rw[aD]at q;exact q
 have aW:Hid (∀W,A5 Ab w W->Aj 67 #[.pointer (some (Ad z I)),A0 t] W (Au (.tuple #[A0 i,.bool hs]) λw'=>A5 Ab W w')):=λW hW=>
  (Ox W z I L _ t (H.o.An hW).cE).mono (by rintro e w'⟨rfl,h⟩;rw[aD,aF];exact⟨rfl,h⟩)
 rw[aD,aF]at aK;rw[aD]at aM;have aO:=A4 aK;have aR:=BN w (.cells #[A0 t,A0 v] 88);have aZ:=A4 aR;have hbl:=Bo h.Ai;have aQ:L.length<1099511627776:=h.DG;have iz:=Cd i;have aL:Hid (∀W,A5 Ab (w.aC #[A0 t,A0 v] 88) W->A5 Ab w W/\W.heap[w.heap.size]?=some (.cells #[A0 t,A0 v] 88 (0,0))/\Ho W z I cs T L (.slice Y L.length cap)):=λW hW=>by
  have h1:A5 Ab w W:=((A5.C _ w).aj _).tr hW;exact⟨h1,(hW.Ao _ (by simp) (λh=>h)).trans aZ.o,H.o.An h1⟩
 cases hs with
 | true=>
  have aN:=a0.o rfl;obtain⟨g,rfl⟩:=aX.o (by omega);have i1:(i:Int)<(L.length:Int):=by omega
  have aH:Hid (∀W n,A5 Ab (w.aC #[A0 t,A0 v] 88) W->Ir w (((W.drewN n).sC g (i*2) (A0 t)).sC g (i*2+1) (A0 v)) z I cs T (AN g L.length cap) (CT L t v) (AN g L.length cap)):=by
   intro W n hW;have⟨k1,k2,k3⟩:=aL.o W hW;have s1:=((AA k3.Bx (w':=W.drewN n) λ_ _=>rfl).stored (i*2) (A0 t)).1;have s2:=(s1.stored (i*2+1) (A0 v)).1;have e:=Ym L i (t,v) aN;simp only at e;rw[e]at s2;have⟨ce,hce⟩:=Bd k3.Bx (g:=g) rfl;(have aA:z≠g:=λe=>by subst e;rw[k3.Ai]at hce;cases hce;exact hT rfl);have X:CT L t v=L.set i (t,v):=aO.o;have aE:cs.setIfInBounds I (AN g L.length cap)=cs:=by
    have⟨aG,he⟩:=A3f.1 H.o.Cu;apply Array.ext_getElem?;intro k;by_cases hk:I=k
    ·subst hk;simp[aG,he]
    ·rw[A3e hk]
   refine⟨⟨?_,by rw[aE];exact H.o.Cu,?_,KM H.o.G6 t v,Ts aJ⟩,?_,λg hg=>.inl hg⟩
   ·rw[aE,GY _ _ _ _ aA,GY _ _ _ _ aA];exact k3.Ai
   ·rw[X];unfold El;rw[J9];exact s2
   ·exact(((k1.bb n).ae (S':=λk=>k=z\/(AN g L.length cap).oB k) (λ_ _ h=>h.elim)).ao (b:=g) (.inr rfl) (i*2) _).ao (b:=g) (.inr rfl) (i*2+1) _
  go_enter func54,ntmps54
  go_wp2_with (fail);refine(aW.o _ ((A5.C _ w).aj _)).k ?_;rintro w1 k1;have aP:=A4 k1;have⟨k2,k3,k4⟩:=aL.o w1 k1;have c0:=k4.cE.Ek;have p0:w1.cell? (Ad w.heap.size 0)=some (A0 t):=by simp[World.cell?,k3]
  have p1:w1.cell? (Ad w.heap.size 1)=some (A0 v):=by simp[World.cell?,k3]
  have⟨o0,o1⟩:=k4.Bx.bF i aN;have z0:=Ga k4.Bx (g:=g) rfl (i*2);have z1:=Ga k4.Bx (g:=g) rfl (i*2+1);go_wp2;refine Ji 7 (by kernel_rfl) (by kernel_rfl) ?_;simp only[JY,EU,EL,DA,Dj]
  repeat still_step
  refine Jj ?_;go_wp2;refine Mx (QZ rfl _ _ _) rfl ?_;exact⟨rfl,_,aH.o w1 1 aP.o⟩
 | false=>
  have aV:Hid (∀W,A5 Ab (w.aC #[A0 t,A0 v] 88) W->Aj 90 #[.slice Y L.length cap,A0 i,AN W.heap.size 1 1] (W.aC #[A0 t,A0 v] 88) λe w'=>∃lv',e=.returned lv'/\HU (W.aC #[A0 t,A0 v] 88) w' (.slice Y L.length cap) (L.take i++(t,v):: L.drop i) lv'):=λW hW=>by
   have⟨k1,k2,k3⟩:=aL.o W hW;exact A0h _ Y cap L i W.heap.size t v (AA k3.Bx λg hg=>CU _ _ _ (AG k3.Bx hg)) aM aQ (BN W _) (λe=>by have:=AG k3.Bx e;omega)
  have aH:Hid (∀W O lv',A5 Ab (w.aC #[A0 t,A0 v] 88) W->HU (W.aC #[A0 t,A0 v] 88) O (.slice Y L.length cap) (L.take i++(t,v):: L.drop i) lv'->
   (O.cell? (Ad z I)=some (.slice Y L.length cap)/\O.cell? (Ad w.heap.size 0)=some (A0 t)/\O.cell? (Ad w.heap.size 1)=some (A0 v))/\O.frozen? (Ad z I)=false/\Ir w (O.sC z I lv') z I cs T (.slice Y L.length cap) (CT L t v) lv'/\∃a c,lv'=.slice a (L.length+1) c):=by
   intro W O lv' hW hI;have⟨k1,k2,k3⟩:=aL.o W hW;have aS:(Value.slice Y L.length cap).ownBlock≠some z:=λe=>by
    have⟨c,hh⟩:=Bd k3.Bx e;rw[k3.Ai]at hh;cases hh;exact hT rfl
   have aT:(Value.slice Y L.length cap).ownBlock≠some w.heap.size:=λe=>by
    have:=AG H.o.Bx e;omega
   have aB:O.heap[z]?=some (.cells cs T (0,0)):=(hI.An.Ao z (by have:=Bo k3.Ai;simp;omega) aS).trans ((CU _ _ _ (Bo k3.Ai)).trans k3.Ai);have aI:O.heap[w.heap.size]?=some (.cells #[A0 t,A0 v] 88 (0,0)):=(hI.An.Ao _ (by have:=Bo k2;simp;omega) aT).trans ((CU _ _ _ (Bo k2)).trans k2);(have aU:(L.take i++(t,v):: L.drop i).length=L.length+1:=by simp;omega);(have X:CT L t v=L.take i++(t,v):: L.drop i:=by have:=aO.o;simpa using this);refine⟨⟨by simp[World.cell?,aB,H.o.Cu],by simp[World.cell?,aI],by simp[World.cell?,aI]⟩,by simp[World.frozen?,aB],⟨⟨CE aB,?_,?_,KM H.o.G6 t v,Ts aJ⟩,?_,?_⟩,?_⟩
   ·have aG:I<cs.size:=(A3f.1 H.o.Cu).1;simp[aG]
   ·rw[X];refine AA hI.Bx λg hg=>?_;have aA:g≠z:=λe=>by
     have⟨c,hh⟩:=Bd hI.Bx hg;subst e;rw[aB]at hh;cases hh;exact hT rfl
    exact GY _ _ _ _ (λe=>aA (by simpa using e))
   ·have c1:A5 (λk=>k=z\/(Value.slice Y L.length cap).oB k) w O:=((k1.aj (.cells #[A0 t,A0 v] 88)).ae (λ_ _ h=>h.elim)).AJ hI.An (λx hx _=>.inr hx);exact c1.ao (.inl rfl) I _
   ·intro g hg;rcases hI.AP g hg with h|h
    ·exact .inl h
    ·right;have:=k1.Am;simp at h;omega
   ·have⟨a,c,e,_⟩:=Bb hI.Bx;rw[aU]at e;exact⟨a,c,e⟩
  go_enter func54,ntmps54
  go_wp2_with (fail);refine(aW.o _ ((A5.C _ w).aj _)).k ?_;rintro w1 k1;have aP:=A4 k1;have⟨k2,k3,k4⟩:=aL.o w1 k1;have c0:=k4.cE.Ek;have p0:w1.cell? (Ad w.heap.size 0)=some (A0 t):=by simp[World.cell?,k3]
  have p1:w1.cell? (Ad w.heap.size 1)=some (A0 v):=by simp[World.cell?,k3]
  go_wp2;refine Ff (λw'=>w'.cell? (Ad z I)=some (.slice Y L.length cap)/\w'.cell? (Ad w.heap.size 0)=some (A0 t)/\w'.cell? (Ad w.heap.size 1)=some (A0 v)) 9
   (BD [0,1,2,3,4,5,6,7,8] [7,8]) (by kernel_rfl) (by kernel_rfl) (λ_ _ _ _ _ h=>h) ⟨c0,p0,p1⟩ ?_
  iterate 7 (refine DO (v:=?_) rfl (by rfl) ?_ ?_;rotate_left;(· (intro w' hS;(try dsimp only at hS);go_simp;try with_reducible rfl));(try simp only[BQ]))
  refine Dt rfl (by rfl) (λK hK=>?_);go_simp;refine hK _ _ ?_ (λhS=>?_)
  ·simp[World.cell?_alloc_some,c0,p0,p1]
  (try simp only[BQ])
  refine Dt rfl (by rfl) (λK hK=>?_);go_simp;refine(aV.o w1.drew aP.o.ad).mono ?_;rintro e O⟨lv',rfl,hI⟩;obtain⟨f1,f2,f3,a3,d3,rfl⟩:=aH.o w1.drew O lv' aP.o.ad hI;have aY:=A4 f3;refine hK _ _ f1 (λhS=>?_);obtain⟨f1,-,-⟩:=f1
  (try simp only[BQ])
  refine Fg ?_;simp only[DA,Dj];go_wp2;go_end0;exact⟨rfl,_,aY.o⟩
end
end Go.Proofs.YtodcnkbblippnabGreatDoor
