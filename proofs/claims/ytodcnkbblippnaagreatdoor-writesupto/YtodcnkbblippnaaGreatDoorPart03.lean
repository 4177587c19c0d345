/- Part 3 of a proof: walks of the program. -/
import Derived.StillTailTactics
import Derived.StillTactics
import Derived.Laws.BitsAllLaws
import Derived.Laws.BytesString
import Derived.Handy
import Derived.Test.YtodcnkbblippnaaGreatDoorPart02
namespace Go.Proofs.YtodcnkbblippnaaGreatDoor
set_option maxRecDepth 100000
set_option maxHeartbeats 32000000
set_option linter.defProp false
open Go.Proofs.Tryz
section
open Go.RowKit
attribute [local go_sem ↓] Go.wp_at_zero Go.wp_at_succ
structure He (w:World) (b o:Nat) (cs:Array Value) (T:Nat) (L:List Pt) (lv:Value):Prop where
 Af:w.heap[b]?=some (.cells cs T (0,0))
 BS:cs[o]?=some lv
 Bp:Cb w lv L
 FP:Dz L
 CK:L.length<1099511627776
def He.bX{w:World}{b o:Nat}{cs:Array Value}{T:Nat}{L:List Pt}{lv:Value}(h:He w b o cs T L lv):ML w b o L lv:=
 ⟨by simp[World.cell?,h.Af,h.BS],h.Bp,h.FP,h.CK⟩
def He.An{w w':World}{b o:Nat}{cs:Array Value}{T:Nat}{L:List Pt}{lv:Value}(h:He w b o cs T L lv)(d:A4 Aa w w'):He w' b o cs T L lv:=
 ⟨(d.Am b (By h.Af) (λh=>h)).trans h.Af,h.BS,Aw h.Bp λg z=>d.Am g (Ay h.Bp z) (λh=>h),h.FP,h.CK⟩
structure Hw (w w':World) (b o:Nat) (cs:Array Value) (T:Nat) (lv:Value) (L':List Pt) (lv':Value):Prop where
 Bp:He w' b o (cs.setIfInBounds o lv') T L' lv'
 An:A4 (λk=>k=b\/lv.ownBlock=some k) w w'
 AE:∀g,lv'.ownBlock=some g->lv.ownBlock=some g\/w.heap.size<=g
def A05(w:World)(X I:Nat)(cs:Array Value)(T:Nat)(hT:T≠70)(L:List Pt)(lv:Value)(t:Int)(h:He w X I cs T L lv):
 Ag 72 #[.pointer (some (A9 X I)),A0 t] w (Aj (.tuple #[]) λw'=>∃aT lv',(aT=L\/aT=L.drop (BB L t))/\Hw w w' X I cs T lv aT lv'):=by
 have H:=A1 h;obtain⟨ad,cap,rfl,h1,h2,h3,h4,h5⟩:=Bk h.Bp;unfold maxLen at h2;have HA:=A1 h3;have aW:=A1 h4;have aV:=A1 h5;obtain⟨i0,hi,aH,aN,aL⟩:=DG Tryz.cf;have hsm:=h.CK;have aS:=IP L t;obtain⟨i,aB⟩:∃i,BB L t=i:=⟨_,rfl⟩;rw[aB]at aS;have aQ:Hid (Ag 116 #[.pointer (some (A9 X I)),A0 t] w λe w'=>∃x,e=.returned (.tuple #[A0 i,.bool x])/\A4 Aa w w'):=
  (Ml w X I L _ t h.bX).mono (by rintro e w'⟨rfl,h⟩;rw[aB];exact⟨_,rfl,h⟩)
 have aO:=A1 aB;clear h h3 h4 h5 aB;have iz:=BR i;have hic:(i:Int)<=(L.length:Int):=by omega
 have hlc:(L.length:Int)<=(cap:Int):=by omega
 by_cases hgt:((L.length:Int)/2<(i:Int))
 ·
  have aI:Hid (∀W,A4 Aa w W->∀v m,(v=.slice (Option.map (λx=>x.add (i*2)) ad) m (cap-i)/\m=L.length-i\/(L.length=i/\m=0/\∃x c,v=.slice x 0 c))->Src Tryz.prog 2 66 v m (B3 (L.drop i)) W):=by
   intro W hW v m hv;have E:=(H.o.An hW).Bp;have aD:L.length-i=0->∀x c,Src Tryz.prog 2 66 (.slice x 0 c) 0 (B3 (L.drop i)) W:=by
    intro h0 x c;have:L.drop i=[]:=I0 (by omega);rw[this];cases x with
    | none=>exact Src.ofNil W underlying66 c
    | some y=>exact Iw W underlying66 _ 0 c [] rfl (by simp) (by simp)
   rcases hv with⟨rfl,rfl⟩|⟨hni,rfl,x,c,rfl⟩
   ·cases ad with
    | none=>
     have:=(aW.o rfl).1;(have h0:L.length-i=0:=by omega);rw[h0];exact aD h0 _ _
    | some x=>
     obtain⟨g,rfl⟩:=aV.o x rfl;refine Iw W underlying66 _ _ _ _ (by rw[Gj,Cl]) (λk u hk=>?_) (Kp _);have hx:Addr.add (Addr.add (A9 g 0) (i*2)) k=(A9 g (i*2+k)):=by
      unfold Addr.add;by_cases h1:i*2=0<;>by_cases h2:k=0<;>simp[h1,h2]
     rw[hx];refine BD E (g:=g) rfl ?_;rw[<-LU,HY]at hk;exact hk
   ·exact aD (by omega) x c
  have aK:Hid (∀(W Y:World) (m:Nat) (O:Option Addr) (d:Nat),A4 Aa w W->m=L.length-i->App W Y 70 2 (.slice none 0 0) (.slice O (0+m) d) (0+m) ([]++B3 (L.drop i))->
   Y.cell? (A9 X I)=some (.slice ad L.length cap)/\Y.frozen? (A9 X I)=false/\Hw w (Y.sC X I (.slice O m d)) X I cs T (.slice ad L.length cap) (L.drop i) (.slice O m d)):=by
   intro W Y m O d hW hm hA;subst hm;have aA:=(hA.bz.Am X (By (H.o.An hW).Af) (λh=>h)).trans (H.o.An hW).Af;have E:Cb Y (.slice O (L.length-i) d) (L.drop i):=by
    have:=hA.AE;unfold Cb;rw[Cl];simpa using this
   have aU:=hW.tr hA.bz;refine⟨by simp[World.cell?,aA,H.o.BS],by simp[World.frozen?,aA],⟨⟨BL aA,?_,?_,H.o.FP.ca i,by rw[Cl];omega⟩,?_,?_⟩⟩
   ·have aF:=(PM.1 H.o.BS).1;simp[aF]
   ·refine Aw E λg hg=>?_;have aP:g≠X:=λe=>by
     obtain⟨c,hh⟩:=B7 E hg;subst e;rw[aA]at hh;cases hh;exact hT rfl
    exact Fg _ _ _ _ (λe=>aP (by simpa using e))
   ·exact(aU.ad (λ_ _ h=>h.elim)).aj (.inl rfl) I _
   ·intro g hg;right;have:=hA.AV g (by simpa using hg);have:=hW.Al;omega
  by_cases aR:cap=i
  ·obtain rfl:i=cap:=aR.symm;(have aM:L.length=i:=by omega);have aG:=A1 aM;clear aM
   go_enter func72,ntmps72
   go_wp2_with (fail);refine aQ.m ?_;rintro e w1⟨x,rfl,k1⟩;have aE:=A1 k1;have c2:=(H.o.An k1).bX.CT;clear k1;go_wp2_with (at_builtin;refine CZ rfl (.const (.slice none 0 0)) (.tmp 26) 66 66 rfl 70 i0 _ 2 16 underlying66 hi aH aN aL rfl (by decide) (.slice none 0 0) 0 [] (by rfl) (Cp _ 0 70 2) _ 0 _ (by rfl) (aI.o _ aE.o _ 0 (.inr ⟨aG.o,rfl,_,_,rfl⟩)) (by omega) ?_;intro O d Y hA;have z:=A1 (aK.o _ Y 0 O d aE.o (by have:=aG.o;omega) hA);have y1:=z.o.1;have y2:=z.o.2.1;clear hA);go_end0;refine⟨rfl,_,.slice O 0 d,.inr rfl,?_⟩;rw[aO.o];have:=z.o.2.2;simpa using this
  ·go_enter func72,ntmps72
   go_wp2_with (fail);refine aQ.m ?_;rintro e w1⟨x,rfl,k1⟩;have aE:=A1 k1;have c2:=(H.o.An k1).bX.CT;go_wp2_with (at_builtin;refine CZ rfl (.const (.slice none 0 0)) (.tmp 26) 66 66 rfl 70 i0 _ 2 16 underlying66 hi aH aN aL rfl (by decide) (.slice none 0 0) 0 [] (by rfl) (Cp _ 0 70 2) _ (L.length-i) _ (by rfl) (aI.o _ aE.o _ _ (.inl ⟨rfl,rfl⟩)) (by omega) ?_;intro O d Y hA;have z:=A1 (aK.o _ Y _ O d aE.o rfl hA);have y1:=z.o.1;have y2:=z.o.2.1);go_end0;refine⟨rfl,_,.slice O (L.length-i) d,.inr rfl,?_⟩;rw[aO.o];have:=z.o.2.2;simpa using this
 ·have hgt':(i:Int)<=(L.length:Int)/2:=by omega
  go_enter func72,ntmps72
  go_wp2_with (fail);refine aQ.m ?_;rintro e w1⟨x,rfl,k1⟩;have aE:=A1 k1;have c2:=(H.o.An k1).bX.CT;go_wp2;go_end0;have hR:=H.o.An aE.o;refine⟨rfl,L,_,.inl rfl,⟨?_,aE.o.ad (λ_ _ h=>h.elim),λg hg=>.inl hg⟩⟩;have aJ:cs.setIfInBounds I (.slice ad L.length cap)=cs:=by
   obtain⟨aF,he⟩:=PM.1 H.o.BS;apply A31;intro k;by_cases hk:I=k
   ·subst hk;simp[aF,he]
   ·rw[V5 hk]
  rw[aJ];exact hR
def Lu{P:Program}(w:World){ops:Array Oper}{rest:List Oper}{o:Oper}{a:Act}{Q:Exit->Act->World->Prop}(z:o.guard=none)(d s:Operand)(t I:TypeId)(W:o.op=.call {callee:=.builtin .copy,args:=#[d,s],argTypes:=#[t,I]})(v u:Value)(L:a.eval d=v)(Y:a.eval s=u){E:Value}{w':World}(X:(Builtin.copy_ #[t,I] o.type #[v,u]).run P w=.ok E w')(h:wpList P ops Q rest (a.put o.dst E) w'):wpList P ops Q (o::rest) a w:=
 wpList_plain z λ_ O=>by
  unfold Oper.wp execOp;simp only[W,resolve,invoke,builtin,Sem.run_bind,Sem.run_pure,Result.andThen_ok,List.map_toArray,HC,List.map_nil,L,Y,X];exact O _ _ h
def Dr(d:List Value)(L:List Pt)(i:Nat):List Value:=d.take ((i+1)*2)++B3 (L.drop i)++d.drop ((i+1)*2+(B3 (L.drop i)).length)
def DF(c:List Value)(i:Nat)(t v:Int):List Value:=c.take (i*2)++[A0 t,A0 v]++c.drop (i*2+2)
def SY(L:List Pt)(i:Nat)(t v:Int):B3 (L.take i++(t,v):: L.drop i)=B3 (L.take i)++[A0 t,A0 v]++B3 (L.drop i):=by
 rw[Kq];simp[B3]
def T8(d:List Value)(L:List Pt)(i:Nat)(hi:i<=L.length)(hlen:(L.length+1)*2<=d.length):(Dr d L i).length=d.length:=by
 have h:(B3 (L.drop i)).length=(L.length-i)*2:=by rw[Gj,Cl]
 unfold Dr;simp only[Ba,BI,Cl,h];omega
def Ot(c:List Value)(i:Nat)(t v:Int)(h:i*2+2<=c.length):(DF c i t v).length=c.length:=by
 unfold DF;simp only[Ba,BI,Cl,Cq,ID];omega
def A0F(L:List Pt)(i:Nat)(hi:i<=L.length)(t v:Int)(d:List Value)(h:d.take (i*2)=B3 (L.take i))(hlen:(L.length+1)*2<=d.length):
 (DF (Dr d L i) i t v).take ((L.length+1)*2)=B3 (L.take i++(t,v):: L.drop i):=by
 have z:(B3 (L.drop i)).length=(L.length-i)*2:=by rw[Gj,Cl]
 have I:(d.take ((i+1)*2)).length=(i+1)*2:=by rw[BI];omega
 have O:(Dr d L i).take (i*2)=B3 (L.take i):=by
  unfold Dr;rw[C8,H0 (by rw[I];omega),K0,show min (i*2) ((i+1)*2)=i*2 from by omega,h]
 have W:(Dr d L i).drop (i*2+2)=B3 (L.drop i)++d.drop ((i+1)*2+(B3 (L.drop i)).length):=by
  unfold Dr;rw[C8]
  conv=>lhs;rw[show i*2+2=(d.take ((i+1)*2)).length from by rw[I];omega]
  rw[UO]
 have E:(B3 (L.take i)++[A0 t,A0 v]++B3 (L.drop i)).length=(L.length+1)*2:=by
  simp only[Ba,Gj,z,BI,Cq,ID];omega
 unfold DF;rw[O,W,SY,<-C8,<-E,Je]
structure I2 (w w':World) (lv:Value) (L':List Pt) (lv':Value):Prop where
 Bp:Cb w' lv' L'
 An:A4 (λk=>lv.ownBlock=some k) w w'
 AE:∀g,lv'.ownBlock=some g->lv.ownBlock=some g\/w.heap.size<=g
def A0v(w:World)(g cap:Nat)(L:List Pt)(i E:Nat)(t v:Int)(hL:Cb w (AB g L.length cap) L)(hi:i<L.length)(W:L.length+1<=cap)(hsm:L.length<1099511627776)(hv:w.heap[E]?=some (.cells #[A0 t,A0 v] 70 (0,0)))(aG:E≠g):
 Ag 139 #[AB g L.length cap,A0 i,AB E 1 1] w λe w'=>∃lv',e=.returned lv'/\I2 w w' (AB g L.length cap) (L.take i++(t,v):: L.drop i) lv':=by
 obtain⟨d,hg,aD,aB,_,aL⟩:=RH hL;unfold maxLen at aL;obtain⟨i0,X,hz0,Y,hz2⟩:=DG Tryz.cf;have aO:∀lb cb,(callFunc 181 #[AB E 1 1,.slice (some (A9 g ((i+1)*2))) lb cb]).run Tryz.prog w=.ok (.value (.bool false)) w:=λlb cb=>by
  have aQ:∀w,(Go.sizeOf 70).run Tryz.prog w=.ok 2 w:=λw=>by simp[sizeOf,typeInfo,X,Y]
  rw[Xs func181 (by kernel_rfl) (by kernel_rfl) (by kernel_rfl) (e:=Extern.SlicesOverlaps.overlaps #[66,66] #[4]) (by kernel_rfl),
   Lib.run_overlaps_apart w 66 4 70 underlying66 2 aQ (A9 E 0) (A9 g ((i+1)*2)) 1 1 lb cb aG 70 70 2 d.size (by simp[World.shape?,hv]) (by simp[World.shape?,hg]) (by rw[aD];omega) (by simp[World.frozen?,hv]) (by simp[World.frozen?,hv])]
  rfl
 have aK:(L.length+1)*2<=d.toList.length:=by have:=Lq (xs:=d);omega
 have z:(Dr d.toList L i).length=cap*2:=by rw[T8 _ _ _ (by omega) aK,Lq,aD]
 have aJ:(B3 (L.drop i)).length=(L.length-i)*2:=by rw[Gj,Cl]
 have aN:d.toList.take (i*2)=B3 (L.take i):=by
  rw[show i*2=min (i*2) (L.length*2) from by omega,<-K0,aB,NQ]
 have aR:∀(x y:Nat),Addr.add (A9 g x) y=(A9 g (x+y)):=λx y=>by unfold Addr.add;by_cases h:y=0<;>simp[h]
 have aS:∀(y:Nat),Addr.add (A9 E 0) y=(A9 E y):=λy=>by unfold Addr.add;by_cases h:y=0<;>simp[h]
 have aH:Hid (∀ty O sc,(Builtin.copy_ #[66,66] ty #[.slice (some (A9 g ((i+1)*2))) (L.length-i) O,.slice (some (A9 g (i*2))) (L.length+1-i) sc]).run Tryz.prog w.drew=.ok (goInt ((L.length-i:Nat):Int)) (w.drew.setRow g (Dr d.toList L i).toArray)):=λty O sc=>
  LJ w.drew _ _ ty 70 i0 2 g ((i+1)*2) _ O (A9 g (i*2)) _ sc (L.length-i) d 70 (B3 (L.drop i)) underlying66 X Y hg (by simp only[UB];split<;>omega) aJ
   (λj u I=>by
    rw[aR];refine BD (w:=w) hL (g:=g) rfl ?_
    rw[<-LU,HY]at I;exact I)
   (by rw[aJ,aD];omega) (Kp _)
 have aF:Hid (∀ty O,(Builtin.copy_ #[66,66] ty #[.slice (some (A9 g (i*2))) (L.length+1-i) O,AB E 1 1]).run Tryz.prog (w.drew.setRow g (Dr d.toList L i).toArray)=.ok (goInt ((1:Nat):Int)) ((w.drew.setRow g (Dr d.toList L i).toArray).setRow g (DF (Dr d.toList L i) i t v).toArray)):=λty O=>by
  have aA:(w.drew.setRow g (Dr d.toList L i).toArray).heap[g]?=some (.cells (Dr d.toList L i).toArray 70 (0,0)):=Kh w.drew g d _ 70 _ hg;have:=LJ (P:=Tryz.prog) (w.drew.setRow g (Dr d.toList L i).toArray) 66 66 ty 70 i0 2 g (i*2) (L.length+1-i) O (A9 E 0) 1 1 1 (Dr d.toList L i).toArray 70 [A0 t,A0 v] underlying66 X Y aA (by simp only[UB];split<;>omega) rfl
   (λj u I=>by
    rw[aS];have aM:(w.drew.setRow g (Dr d.toList L i).toArray).heap[E]?=some (.cells #[A0 t,A0 v] 70 (0,0)):=(Jv w.drew g E _ aG).trans hv;unfold World.cell?;rw[aM]
    match j,I with
    | 0,I=>simpa using I
    | 1,I=>simpa using I
    | j+2,I=>simp at I)
   (by simp only[La,z,Cq,ID];omega) (by simp[Value.oneCell'])
  simpa[DF] using this
 have aT:Hid (I2 w ((w.drew.setRow g (Dr d.toList L i).toArray).setRow g (DF (Dr d.toList L i) i t v).toArray) (AB g L.length cap) (L.take i++(t,v):: L.drop i) (AB g (L.length+1) cap)):=by
  have aA:(w.drew.setRow g (Dr d.toList L i).toArray).heap[g]?=some (.cells (Dr d.toList L i).toArray 70 (0,0)):=Kh w.drew g d _ 70 _ hg;have aP:((w.drew.setRow g (Dr d.toList L i).toArray).setRow g (DF (Dr d.toList L i) i t v).toArray).heap[g]?=some (.cells (DF (Dr d.toList L i) i t v).toArray 70 (0,0)):=Kh _ g _ _ 70 _ aA;have aE:(L.take i++(t,v):: L.drop i).length=L.length+1:=by simp;omega
  refine⟨?_,?_,λg' h'=>.inl h'⟩
  ·unfold Cb;rw[aE];refine⟨by rw[Gj,aE],.inr ⟨g,cap,_,rfl,Ce _,aP,W,by unfold maxLen;omega,?_,?_⟩⟩
   ·rw[La,Ot _ _ _ _ (by rw[z];omega),z]
   ·exact A0F L i (by omega) t v d.toList aN aK
  ·refine⟨rfl,rfl,rfl,by simp,λk hk hn=>?_⟩;have aI:k≠g:=λe=>hn (by simp[Value.ownBlock,e]);rw[Jv _ g k _ aI,Jv _ g k _ aI];rfl
 have q1:((i:Int)==(L.length:Int))=false:=by simp;omega
 have q2:¬(cap=i):=by omega
 have q3:¬(cap=i+1):=by omega
 have q4:(i:Int)<=(L.length:Int):=by omega
 have q7:((L.length:Int)+1).toNat=L.length+1:=by omega
 have q8:((i:Int)+1).toNat=i+1:=by omega
 have q9:(i:Int)+1<=(L.length:Int)+1:=by omega
 have q10:=BR i;have q11:(i:Int)<=(L.length:Int)+1:=by omega
 have q13:(0:Int)<=(i:Int)+1:=by omega
 have q12:IntKind.i64.wrap ((i:Int)+1)=(i:Int)+1:=by simp only[Jj];omega
 go_enter func139,ntmps139
 go_wp2_with (simp only[aO]);refine K9 8 (by kernel_rfl) (by kernel_rfl) ?_;simp only[KY,Fs,Fe,Du,Db]
 repeat still_step
 refine Ka ?_;refine Lu _ rfl (.tmp 73) (.tmp 76) 66 66 rfl _ _ (by rfl) (by rfl) (aH.o _ _ _) ?_;go_wp2_with (refine Lu _ rfl (.tmp 80) (.tmp 81) 66 66 rfl _ _ (by rfl) (by rfl) (aF.o _ _) ?_);go_ret;exact⟨_,rfl,aT.o⟩
def A0x(w:World)(Y:Option Addr)(cap:Nat)(L:List Pt)(vb:Nat)(t v:Int)(hL:Cb w (.slice Y L.length cap) L)(hsm:L.length<1099511627776)(hv:w.heap[vb]?=some (.cells #[A0 t,A0 v] 70 (0,0))):
 Ag 139 #[.slice Y L.length cap,A0 L.length,AB vb 1 1] w λe w'=>∃lv',e=.returned lv'/\I2 w w' (.slice Y L.length cap) (L.take L.length++(t,v):: L.drop L.length) lv':=by
 obtain⟨i0,aD,O,X,aA⟩:=DG Tryz.cf;obtain⟨_,_,he,h1,h2,_,h4,h5⟩:=Bk hL;cases he;unfold maxLen at h2;have W:Hid (Src Tryz.prog 2 66 (AB vb 1 1) 1 [A0 t,A0 v] w):=Src.b5 underlying66 hv 1 1 rfl (by simp[Value.oneCell']);have aE:Hid (∀z d h,App w h 70 2 (.slice Y L.length cap) (.slice z (L.length+1) d) (L.length+1) (B3 L++[A0 t,A0 v])->I2 w h (.slice Y L.length cap) (L.take L.length++(t,v):: L.drop L.length) (.slice z (L.length+1) d)):=by
  intro z d h E;refine⟨?_,E.An λk hk=>hk,λg hg=>?_⟩
  ·have:=E.AE;unfold Cb;rw[Ec (Ao _),I0 (Ao _),Kq,Ba];exact this
  ·rcases E.BS with e|e
   ·rw[e]at hg;exact .inl hg
   ·rw[e]at hg;cases hg;exact .inr (Ao _)
 have aF:=A1 hL;have q4:(0:Int)<=(L.length:Int):=Ge _;have aB:(L.length+1)*16<=140737488355328:=by omega
 by_cases hc:cap=L.length
 ·subst hc
  go_enter func139,ntmps139
  go_wp2_with (at_builtin;refine CZ rfl (.tmp 23) (.tmp 24) 66 66 rfl 70 i0 _ 2 16 underlying66 aD O X aA rfl (by decide) _ L.length (B3 L) (by rfl) aF.o _ 1 _ (by rfl) W.o aB ?_;intro z d h E;have I:=A1 (aE.o z d h E));go_ret;exact⟨_,rfl,I.o⟩
 ·go_enter func139,ntmps139
  go_wp2_with (at_builtin;refine CZ rfl (.tmp 23) (.tmp 24) 66 66 rfl 70 i0 _ 2 16 underlying66 aD O X aA rfl (by decide) _ L.length (B3 L) (by rfl) aF.o _ 1 _ (by rfl) W.o aB ?_;intro z d h E;have I:=A1 (aE.o z d h E));go_ret;exact⟨_,rfl,I.o⟩
def A0E(L:List Pt)(i:Nat)(W:i<=L.length)(t v:Int)(c:List Value)(d:c.take (i*2)=B3 (L.take i))(hlen:(L.length+1)*2<=c.length):
 (Dr (DF c i t v) L i).take ((L.length+1)*2)=B3 (L.take i++(t,v):: L.drop i)/\(Dr (DF c i t v) L i).length=c.length:=by
 have z:(B3 (L.drop i)).length=(L.length-i)*2:=by rw[Gj,Cl]
 have h:(DF c i t v).length=c.length:=Ot c i t v (by omega);refine⟨?_,by rw[T8 _ _ _ W (by omega),h]⟩;have I:(B3 (L.take i)++[A0 t,A0 v]).length=(i+1)*2:=by
  simp only[Ba,Gj,BI,Cq,ID];omega
 have O:(DF c i t v).take ((i+1)*2)=B3 (L.take i)++[A0 t,A0 v]:=by
  unfold DF;rw[d,<-I,Je]
 have E:(B3 (L.take i)++[A0 t,A0 v]++B3 (L.drop i)).length=(L.length+1)*2:=by
  rw[Ba,I,z];omega
 unfold Dr;rw[O,SY,<-E,Je]
def A0w(w:World)(g cap:Nat)(L:List Pt)(i vb:Nat)(t v:Int)(hL:Cb w (AB g L.length cap) L)(hi:i<L.length)(hroom:cap<L.length+1)(hsm:L.length<1099511627776)(hv:w.heap[vb]?=some (.cells #[A0 t,A0 v] 70 (0,0))):
 Ag 139 #[AB g L.length cap,A0 i,AB vb 1 1] w λe w'=>∃lv',e=.returned lv'/\I2 w w' (AB g L.length cap) (L.take i++(t,v):: L.drop i) lv':=by
 obtain⟨cur,hg,hcs,htake,hnc,aX⟩:=RH hL;unfold maxLen at aX;obtain rfl:cap=L.length:=by omega
 obtain⟨i0,Y,aU,aA,aL⟩:=DG Tryz.cf;have aJ:(B3 (L.drop i)).length=(L.length-i)*2:=by rw[Gj,Cl]
 have aB:∀(b x y:Nat),Addr.add (A9 b x) y=(A9 b (x+y)):=λb x y=>by unfold Addr.add;by_cases h:y=0<;>simp[h]
 have aQ:(Builtin.firstCells i0.size i (AB g i L.length)).run Tryz.prog w.drew=.ok (B3 (L.take i)).toArray w.drew:=
  QL w.drew i0.size i (A9 g 0) i L.length (B3 (L.take i)) (by rw[aA,Gj,BI];omega) (λj u d=>by
   rw[aB,GM];refine BD (w:=w) hL (g:=g) rfl ?_;rw[<-NQ,MX]at d;split at d
   ·exact d
   ·cases d)
 have z:=Xt (P:=Tryz.prog) w 66 3 66 70 i0 _ .i64 underlying66 underlying3 Y aU (by omega) (some (A9 g 0)) i L.length (B3 (L.take i)) aQ (L.length+1-i) (by omega) (by omega) (by omega) (by rw[aL];omega) (by rw[aL];exact growslice_fits (by omega) (by omega));rw[show i+(L.length+1-i)=L.length+1 from by omega,show ((L.length+1-i:Nat):Int)=(L.length:Int)+1-(i:Int) from by omega]at z;obtain⟨I,aG⟩:∃I,grownCap w (L.length+1) L.length 70=I:=⟨_,rfl⟩;have aN:=grownCap_ge w (L.length+1) L.length 70;have aK:grownCap w (L.length+1) L.length 70<=maxLen:=grownCap_le_maxLen w (L.length+1) L.length 70 (by unfold maxLen;omega);rw[aG]at z aN aK;obtain⟨c0,W⟩:∃c0,(B3 (L.take i)).toArray++Builtin.zeroCells (Value.agg #[A0 0,A0 0]).cells (L.length+1-i)++Builtin.zeroCells (Value.agg #[A0 0,A0 0]).cells (I-(L.length+1))=c0:=⟨_,rfl⟩;have E:c0.toList.length=I*2:=by
  rw[<-W];have e1:(Value.agg #[A0 0,A0 0]).cells.size=2:=rfl;simp only[PK,Ba,Lq,size_zeroCells,e1,Gj,BI];omega
 have aF:c0.toList.take (i*2)=B3 (L.take i):=by
  rw[<-W,PK,PK,C8];have:(B3 (L.take i)).length=i*2:=by rw[Gj,BI];omega
  rw[<-this,Je]
 rw[W]at z;unfold maxLen at aK;have aI:((w.drew.aC c0 70)).heap[w.heap.size]?=some (.cells c0 70 (0,0)):=Bf w.drew _;have aY:=By hv;have aS:=By hg;have aT:((w.drew.aC c0 70)).heap[vb]?=some (.cells #[A0 t,A0 v] 70 (0,0)):=(CQ w.drew _ _ aY).trans hv;have aP:Hid (∀O X,(Builtin.copy_ #[66,66] O #[.slice (some (A9 w.heap.size (i*2))) (L.length+1-i) X,AB vb 1 1]).run Tryz.prog (w.drew.aC c0 70)=.ok (goInt ((1:Nat):Int)) ((w.drew.aC c0 70).setRow w.heap.size (DF c0.toList i t v).toArray)):=λO X=>by
  have:=LJ (P:=Tryz.prog) (w.drew.aC c0 70) 66 66 O 70 i0 2 w.heap.size (i*2) (L.length+1-i) X (A9 vb 0) 1 1 1 c0 70 [A0 t,A0 v] underlying66 Y aA aI (by simp only[UB];split<;>omega) rfl
   (λj u d=>by
    rw[aB,GM];unfold World.cell?;rw[aT]
    match j,d with
    | 0,d=>simpa using d
    | 1,d=>simpa using d
    | j+2,d=>simp at d)
   (by rw[<-Lq,E];simp only[Cq,ID];omega) (by simp[Value.oneCell'])
  simpa[DF] using this
 have aM:(DF c0.toList i t v).length=I*2:=by rw[Ot _ _ _ _ (by omega),E]
 have aR:((w.drew.aC c0 70).setRow w.heap.size (DF c0.toList i t v).toArray).heap[w.heap.size]?=some (.cells (DF c0.toList i t v).toArray 70 (0,0)):=Kh _ w.heap.size c0 _ 70 _ aI;have aD:Hid (∀O X sc,(Builtin.copy_ #[66,66] O #[.slice (some (A9 w.heap.size ((i+1)*2))) (L.length-i) X,.slice (some (A9 g (i*2))) (L.length-i) sc]).run Tryz.prog ((w.drew.aC c0 70).setRow w.heap.size (DF c0.toList i t v).toArray).drew=.ok (goInt ((L.length-i:Nat):Int)) (((w.drew.aC c0 70).setRow w.heap.size (DF c0.toList i t v).toArray).drew.setRow w.heap.size (Dr (DF c0.toList i t v) L i).toArray)):=λO X sc=>
  LJ (P:=Tryz.prog) ((w.drew.aC c0 70).setRow w.heap.size (DF c0.toList i t v).toArray).drew 66 66 O 70 i0 2 w.heap.size ((i+1)*2) (L.length-i) X (A9 g (i*2)) (L.length-i) sc (L.length-i) (DF c0.toList i t v).toArray 70 (B3 (L.drop i)) underlying66 Y aA aR (by simp) aJ
   (λj u d=>by
    rw[aB];have h0:w.cell? (A9 g (i*2+j))=some u:=by
     refine BD (w:=w) hL (g:=g) rfl ?_;rw[<-LU,HY]at d;exact d
    refine(Dy ?_).trans h0
    exact(Jv _ w.heap.size g _ (by omega)).trans (CQ w.drew _ _ aS))
   (by rw[aJ,La,aM];omega) (Kp _)
 have aW:Hid (I2 w (((w.drew.aC c0 70).setRow w.heap.size (DF c0.toList i t v).toArray).drew.setRow w.heap.size (Dr (DF c0.toList i t v) L i).toArray) (AB g L.length L.length) (L.take i++(t,v):: L.drop i) (AB w.heap.size (L.length+1) I)):=by
  have aV:(((w.drew.aC c0 70).setRow w.heap.size (DF c0.toList i t v).toArray).drew.setRow w.heap.size (Dr (DF c0.toList i t v) L i).toArray).heap[w.heap.size]?=some (.cells (Dr (DF c0.toList i t v) L i).toArray 70 (0,0)):=Kh _ w.heap.size _ _ 70 _ aR;have aO:(L.take i++(t,v):: L.drop i).length=L.length+1:=by simp;omega
  obtain⟨k1,k2⟩:=A0E L i (by omega) t v c0.toList aF (by omega);refine⟨?_,?_,λg' h'=>by simp[Value.ownBlock]at h';exact .inr (by omega)⟩
  ·unfold Cb;rw[aO];refine⟨by rw[Gj,aO],.inr ⟨w.heap.size,I,_,rfl,Ce _,aV,aN,by unfold maxLen;omega,?_,k1⟩⟩;rw[La,k2,E]
  ·refine⟨rfl,rfl,rfl,by simp,λk hk hn=>?_⟩;(have aE:k≠w.heap.size:=by omega);rw[Jv _ _ k _ aE];exact(Jv _ _ k _ aE).trans (CQ w.drew _ _ hk)
 have q1:((i:Int)==(L.length:Int))=false:=by simp;omega
 have q2:¬(I=i):=by omega
 have q3:¬(I=i+1):=by omega
 have q3':¬(L.length=i):=by omega
 have q4:(i:Int)<=(L.length:Int):=by omega
 have q8:((i:Int)+1).toNat=i+1:=by omega
 have q9:(i:Int)+1<=(L.length:Int)+1:=by omega
 have q10:=BR i;have q11:(i:Int)<=(L.length:Int)+1:=by omega
 have q13:(0:Int)<=(i:Int)+1:=by omega
 have q12:IntKind.i64.wrap ((i:Int)+1)=(i:Int)+1:=by simp only[Jj];omega
 have q14:IntKind.i64.wrap ((L.length:Int)+1-(i:Int))=(L.length:Int)+1-(i:Int):=by simp only[Jj];omega
 have aH:=A1 z
 go_enter func139,ntmps139
 go_wp2_with (first
  | (at_builtin;refine Lib.wpList_append_run _ rfl (.tmp 34) (.tmp 39) 66 3 rfl _ _ (by rfl) (by rfl) _ _ aH.o ?_)
  | (refine Lu _ rfl (.tmp 43) (.tmp 44) 66 66 rfl _ _ (by rfl) (by rfl) (aP.o _ _) ?_))
 refine K9 8 (by kernel_rfl) (by kernel_rfl) ?_;simp only[KY,Fs,Fe,Du,Db]
 repeat still_step
 refine Ka ?_;refine Lu _ rfl (.tmp 50) (.tmp 53) 66 66 rfl _ _ (by rfl) (by rfl) (aD.o _ _ _) ?_;go_wp2;go_ret;exact⟨_,rfl,aW.o⟩
def A0y(w:World)(E:Option Addr)(cap:Nat)(L:List Pt)(i h:Nat)(t v:Int)(I:Cb w (.slice E L.length cap) L)(hi:i<=L.length)(z:L.length<1099511627776)(Y:w.heap[h]?=some (.cells #[.int .i64 t,.int .i64 v] 70 (0,0)))(W:(Value.slice E L.length cap).ownBlock≠some h):
 Calls Tryz.prog 139 #[.slice E L.length cap,.int .i64 i,.slice (some ⟨h,0,none⟩) 1 1] w λe w'=>∃lv',e=.returned lv'/\I2 w w' (.slice E L.length cap) (L.take i++(t,v):: L.drop i) lv':=by
 by_cases X:i=L.length
 ·subst X;exact A0x w E cap L h t v I z Y
 ·obtain⟨_,_,he,h1,h2,h3,h4,h5⟩:=Bk I;cases he;obtain⟨g,rfl⟩:=h3 (by omega);have O:h≠g:=λe=>W (by simp[Value.ownBlock,e]);by_cases d:L.length+1<=cap
  ·exact A0v w g cap L i h t v I (by omega) d z Y O
  ·exact A0w w g cap L i h t v I (by omega) (by omega) z Y
def Tf{l:List Pt}{t:Int}(h:EP l t=true):∃d:BB l t<l.length,(l[BB l t]'d).1=t:=by
 unfold EP at h;by_cases d:BB l t<l.length
 ·rw[DQ d]at h;exact⟨d,by simpa using h⟩
 ·rw[Lg (by omega)]at h;cases h
def T5(l:List Pt)(t v:Int):C2 l t v=if EP l t then l.set (BB l t) (t,v) else l.take (BB l t)++(t,v):: l.drop (BB l t):=by
 rw[Oq];show _++_::(if EP l t then _ else _)=_;by_cases h:EP l t=true
 ·obtain⟨d,_⟩:=Tf h;rw[Ai h,Ai h,A3E,Ai d]
 ·rw[Ae h,Ae h]
def T4{l:List Pt}{t v:Int}(h:l.length<1099511627775):(C2 l t v).length<1099511627776:=by
 have:(C2 l t v).length<=l.length+1:=by
  rw[T5];split
  ·simp
  ·simp;omega
 omega
def Yr(w:World)(z E:Nat)(cs:Array Value)(T:Nat)(hT:T≠70)(L:List Pt)(lv:Value)(t v:Int)(h:He w z E cs T L lv)(aJ:L.length<1099511627775):
 Ag 102 #[.pointer (some (A9 z E)),.agg #[A0 t,A0 v]] w (Aj (.tuple #[]) λw'=>∃lv',Hw w w' z E cs T lv (C2 L t v) lv'):=by
 have H:=A1 h;obtain⟨X,cap,rfl,h1,h2,h3,h4,h5⟩:=Bk h.Bp;unfold maxLen at h2;have aY:=A1 h3;have aK:=T5 L t v;have aM:=IP L t;obtain⟨i,aD⟩:∃i,BB L t=i:=⟨_,rfl⟩;obtain⟨hs,aF⟩:∃hs,EP L t=hs:=⟨_,rfl⟩;have a1:Hid (hs=true->i<L.length):=λe=>by
  obtain⟨q,_⟩:=Tf (aF.trans e);rw[aD]at q;exact q
 have aX:Hid (∀W,A4 Aa w W->Ag 116 #[.pointer (some (A9 z E)),A0 t] W (Aj (.tuple #[A0 i,.bool hs]) λw'=>A4 Aa W w')):=λW hW=>
  (Ml W z E L _ t (H.o.An hW).bX).mono (by rintro e w'⟨rfl,h⟩;rw[aD,aF];exact⟨rfl,h⟩)
 rw[aD,aF]at aK;rw[aD]at aM;have aP:=A1 aK;have aS:=Bf w (.cells #[A0 t,A0 v] 70);have a0:=A1 aS;have hbl:=By h.Af;have aR:L.length<1099511627776:=h.CK;have iz:=BR i;have aL:Hid (∀W,A4 Aa (w.aC #[A0 t,A0 v] 70) W->A4 Aa w W/\W.heap[w.heap.size]?=some (.cells #[A0 t,A0 v] 70 (0,0))/\He W z E cs T L (.slice X L.length cap)):=λW hW=>by
  have h1:A4 Aa w W:=((A4.C _ w).ah _).tr hW;exact⟨h1,(hW.Am _ (by simp) (λh=>h)).trans a0.o,H.o.An h1⟩
 cases hs with
 | true=>
  have aO:=a1.o rfl;obtain⟨g,rfl⟩:=aY.o (by omega);have i1:(i:Int)<(L.length:Int):=by omega
  have aH:Hid (∀W n,A4 Aa (w.aC #[A0 t,A0 v] 70) W->Hw w (((W.drewN n).sC g (i*2) (A0 t)).sC g (i*2+1) (A0 v)) z E cs T (AB g L.length cap) (C2 L t v) (AB g L.length cap)):=by
   intro W n hW;obtain⟨Y,k2,d⟩:=aL.o W hW;have s1:=((Aw d.Bp (w':=W.drewN n) λ_ _=>rfl).stored (i*2) (A0 t)).1;have s2:=(s1.stored (i*2+1) (A0 v)).1;have e:=Ko L i (t,v) aO;simp only at e;rw[e]at s2;obtain⟨ce,aN⟩:=B7 d.Bp (g:=g) rfl;(have aA:z≠g:=λe=>by subst e;rw[d.Af]at aN;cases aN;exact hT rfl);have O:C2 L t v=L.set i (t,v):=aP.o;have aE:cs.setIfInBounds E (AB g L.length cap)=cs:=by
    obtain⟨aG,he⟩:=PM.1 H.o.BS;apply A31;intro k;by_cases hk:E=k
    ·subst hk;simp[aG,he]
    ·rw[V5 hk]
   refine⟨⟨?_,by rw[aE];exact H.o.BS,?_,KJ H.o.FP t v,T4 aJ⟩,?_,λg hg=>.inl hg⟩
   ·rw[aE,Fg _ _ _ _ aA,Fg _ _ _ _ aA];exact d.Af
   ·rw[O];unfold Cb;rw[Hi];exact s2
   ·exact(((Y.aX n).ad (S':=λk=>k=z\/(AB g L.length cap).oB k) (λ_ _ h=>h.elim)).aj (b:=g) (.inr rfl) (i*2) _).aj (b:=g) (.inr rfl) (i*2+1) _
  go_enter func102,ntmps102
  go_wp2_with (fail);refine(aX.o _ ((A4.C _ w).ah _)).mono ?_;rintro e w1⟨rfl,Y⟩;have aQ:=A1 Y;obtain⟨k2,d,k4⟩:=aL.o w1 Y;have c0:=k4.bX.CT;have p0:w1.cell? (A9 w.heap.size 0)=some (A0 t):=by simp[World.cell?,d]
  have p1:w1.cell? (A9 w.heap.size 1)=some (A0 v):=by simp[World.cell?,d]
  obtain⟨o0,o1⟩:=k4.Bp.bn i aO;have z0:=Ez k4.Bp (g:=g) rfl (i*2);have z1:=Ez k4.Bp (g:=g) rfl (i*2+1);go_wp2;refine K9 7 (by kernel_rfl) (by kernel_rfl) ?_;simp only[KY,Fs,Fe,Du,Db]
  repeat still_step
  refine Ka ?_;go_wp2;refine Jb (IL rfl _ _ _) rfl ?_;exact⟨rfl,_,aH.o w1 1 aQ.o⟩
 | false=>
  have aW:Hid (∀W,A4 Aa (w.aC #[A0 t,A0 v] 70) W->Ag 139 #[.slice X L.length cap,A0 i,AB W.heap.size 1 1] (W.aC #[A0 t,A0 v] 70) λe w'=>∃lv',e=.returned lv'/\I2 (W.aC #[A0 t,A0 v] 70) w' (.slice X L.length cap) (L.take i++(t,v):: L.drop i) lv'):=λW hW=>by
   obtain⟨Y,k2,d⟩:=aL.o W hW;exact A0y _ X cap L i W.heap.size t v (Aw d.Bp λg hg=>CQ _ _ _ (Ay d.Bp hg)) aM aR (Bf W _) (λe=>by have:=Ay d.Bp e;omega)
  have aH:Hid (∀W I lv',A4 Aa (w.aC #[A0 t,A0 v] 70) W->I2 (W.aC #[A0 t,A0 v] 70) I (.slice X L.length cap) (L.take i++(t,v):: L.drop i) lv'->
   (I.cell? (A9 z E)=some (.slice X L.length cap)/\I.cell? (A9 w.heap.size 0)=some (A0 t)/\I.cell? (A9 w.heap.size 1)=some (A0 v))/\I.frozen? (A9 z E)=false/\Hw w (I.sC z E lv') z E cs T (.slice X L.length cap) (C2 L t v) lv'/\∃a c,lv'=.slice a (L.length+1) c):=by
   intro W I lv' hW hI;obtain⟨Y,k2,d⟩:=aL.o W hW;have aT:(Value.slice X L.length cap).ownBlock≠some z:=λe=>by
    obtain⟨c,hh⟩:=B7 d.Bp e;rw[d.Af]at hh;cases hh;exact hT rfl
   have aU:(Value.slice X L.length cap).ownBlock≠some w.heap.size:=λe=>by
    have:=Ay H.o.Bp e;omega
   have aB:I.heap[z]?=some (.cells cs T (0,0)):=(hI.An.Am z (by have:=By d.Af;simp;omega) aT).trans ((CQ _ _ _ (By d.Af)).trans d.Af);have aI:I.heap[w.heap.size]?=some (.cells #[A0 t,A0 v] 70 (0,0)):=(hI.An.Am _ (by have:=By k2;simp;omega) aU).trans ((CQ _ _ _ (By k2)).trans k2);(have aV:(L.take i++(t,v):: L.drop i).length=L.length+1:=by simp;omega);(have O:C2 L t v=L.take i++(t,v):: L.drop i:=by have:=aP.o;simpa using this);refine⟨⟨by simp[World.cell?,aB,H.o.BS],by simp[World.cell?,aI],by simp[World.cell?,aI]⟩,by simp[World.frozen?,aB],⟨⟨BL aB,?_,?_,KJ H.o.FP t v,T4 aJ⟩,?_,?_⟩,?_⟩
   ·have aG:E<cs.size:=(PM.1 H.o.BS).1;simp[aG]
   ·rw[O];refine Aw hI.Bp λg hg=>?_;have aA:g≠z:=λe=>by
     obtain⟨c,hh⟩:=B7 hI.Bp hg;subst e;rw[aB]at hh;cases hh;exact hT rfl
    exact Fg _ _ _ _ (λe=>aA (by simpa using e))
   ·have c1:A4 (λk=>k=z\/(Value.slice X L.length cap).oB k) w I:=((Y.ah (.cells #[A0 t,A0 v] 70)).ad (λ_ _ h=>h.elim)).Au hI.An (λx hx _=>.inr hx);exact c1.aj (.inl rfl) E _
   ·intro g hg;rcases hI.AE g hg with h|h
    ·exact .inl h
    ·right;have:=Y.Al;simp at h;omega
   ·obtain⟨a,c,e,_⟩:=Bk hI.Bp;rw[aV]at e;exact⟨a,c,e⟩
  go_enter func102,ntmps102
  go_wp2_with (fail);refine(aX.o _ ((A4.C _ w).ah _)).mono ?_;rintro e w1⟨rfl,Y⟩;have aQ:=A1 Y;obtain⟨k2,d,k4⟩:=aL.o w1 Y;have c0:=k4.bX.CT;have p0:w1.cell? (A9 w.heap.size 0)=some (A0 t):=by simp[World.cell?,d]
  have p1:w1.cell? (A9 w.heap.size 1)=some (A0 v):=by simp[World.cell?,d]
  go_wp2;refine Fw (λw'=>w'.cell? (A9 z E)=some (.slice X L.length cap)/\w'.cell? (A9 w.heap.size 0)=some (A0 t)/\w'.cell? (A9 w.heap.size 1)=some (A0 v)) 9
   (Bb [0,1,2,3,4,5,6,7,8] [7,8]) (by kernel_rfl) (by kernel_rfl) (λ_ _ _ _ _ h=>h) ⟨c0,p0,p1⟩ ?_
  iterate 7 (refine DM (v:=?_) rfl (by rfl) ?_ ?_;rotate_left;(· (intro w' hS;(try dsimp only at hS);go_simp;try with_reducible rfl));(try simp only[Ak]))
  refine Di rfl (by rfl) (λK hK=>?_);go_simp;refine hK _ _ ?_ (λhS=>?_)
  ·simp[World.cell?_alloc_some,c0,p0,p1]
  (try simp only[Ak])
  refine Di rfl (by rfl) (λK hK=>?_);go_simp;refine(aW.o w1.drew aQ.o.aa).mono ?_;rintro e I⟨lv',rfl,hI⟩;obtain⟨f1,f2,f3,a3,d3,rfl⟩:=aH.o w1.drew I lv' aQ.o.aa hI;have aZ:=A1 f3;refine hK _ _ f1 (λhS=>?_);obtain⟨f1,-,-⟩:=f1
  (try simp only[Ak])
  refine B4 ?_;simp only[Du,Db];go_wp2;go_end0;exact⟨rfl,_,aZ.o⟩
end
section
open Go
section
variable {P:Program} {Q:Exit->Act->World->Prop}
def Q9(y:Nat->Value)(i:Nat)(v:Value):Nat->Value:=λj=>if j=i then v else y j
def Gt(o:Oper):List Nat:=(o.after.toList.filter (Region.binds .any)).map (·.on)
def Fu(G:Nat->Value->World->Prop)(y:Nat->Value)(w:World):List Nat->Prop
 | []=>True
 | j::r=>G j (y j) w/\Fu G y w r
def Fu.of{G:Nat->Value->World->Prop}{y:Nat->Value}{w:World}:∀(l:List Nat),(∀j∈l,G j (y j) w)->Fu G y w l
 | [],_=>trivial
 | j::r,h=>⟨h j (by simp),Fu.of r λk d=>h k (by simp[d])⟩
def UZ(P:Program)(ops:Array Oper)(A:(Nat->Value)->Act)(S:World->Prop)(R:World->World->Prop)(G:Nat->Value->World->Prop)(Q:Exit->Act->World->Prop)(i:Nat)(o:Oper):Prop:=
 (∀y w,S w->Fu G y w (Gt o)->Region.wanted o (yielded ops (A y).tmps)=true->∀K:Act->World->Prop,(∀v a' w',G i v w'->a'=(A y).put o.dst v->R w w'->S w'->K a' w')->o.wp P (A y) w K Q)/\
 (∀y w,S w->Fu G y w (Gt o)->Region.wanted o (yielded ops (A y).tmps)=false->G i undef w)/\
 (∀y v,(A y).put o.dst v=A (Q9 y i v))
def FY(P:Program)(ops:Array Oper)(A:(Nat->Value)->Act)(S:World->Prop)(R:World->World->Prop)(G:Nat->Value->World->Prop)(Q:Exit->Act->World->Prop):Nat->List Oper->Prop
 | _,[]=>True
 | i,o::r=>UZ P ops A S R G Q i o/\FY P ops A S R G Q (i+1) r
def FY.eH{ops:Array Oper}{A:(Nat->Value)->Act}{S:World->Prop}{R:World->World->Prop}{G:Nat->Value->World->Prop}:∀ {k:Nat} {l:List Oper},FY P ops A S R G Q k l->∀(i:Nat) (o:Oper),l[i]?=some o->UZ P ops A S R G Q (k+i) o
 | _,[],_,i,o,h=>by simp at h
 | k,o'::r,hh,0,o,h=>by
  have:o'=o:=by simpa using h
  subst this;exact hh.1
 | k,o'::r,hh,i+1,o,h=>by
  have:=FY.eH hh.2 i o (by simpa using h)
  rwa [show k+1+i=k+(i+1) by omega]at this
def Gu(listed:Array Bool):Nat->Nat
 | 0=>0
 | k+1=>Gu listed k+(if listed.getD k true then 0 else 1)
def TJ(listed:Array Bool)(i:Nat):∀n,n<=i->Gu (listed.setIfInBounds i true) n=Gu listed n
 | 0,_=>rfl
 | n+1,h=>by
  unfold Gu;rw[TJ listed i n (by omega),Mi true (by omega)]
def TH(listed:Array Bool)(i:Nat)(E:listed.getD i true=false):∀n,i<n->Gu listed n=Gu (listed.setIfInBounds i true) n+1
 | 0,h=>by omega
 | n+1,h=>by
  unfold Gu;by_cases d:i=n
  ·subst d;have I:i<listed.size:=by
    rcases F9 i listed.size with z | z
    ·exact z
    ·simp[Array.getElem?_eq_none z]at E
   rw[TJ listed i i (Ao _),E];simp[I]
  ·rw[TH listed i E n (by omega),Mi true d];omega
def TF(listed:Array Bool):∀n,Gu listed n=0->∀j,j<n->listed.getD j true=true
 | 0,_,j,h=>by omega
 | n+1,h,j,hj=>by
  unfold Gu at h;rcases F9 j n with d | d
  ·exact TF listed n (by omega) j d
  ·(obtain rfl:j=n:=by omega);cases hg:listed.getD j true with
   | true=>rfl
   | false=>rw[hg]at h;simp at h
def TI(listed:Array Bool):∀n,Gu listed n≠0->∃j,j<n/\listed.getD j true=false
 | 0,h=>absurd rfl h
 | n+1,h=>by
  cases hg:listed.getD n true with
  | false=>exact⟨n,by omega,hg⟩
  | true=>
   unfold Gu at h;rw[hg]at h;obtain⟨j,hj,d⟩:=TI listed n (by simpa using h);exact⟨j,by omega,d⟩
def TG(m:Nat):∀n,n<=m->Gu (Array.replicate m false) n=n
 | 0,_=>rfl
 | n+1,h=>by
  unfold Gu;rw[TG m n (by omega)];have d:n<m:=by omega
  have:(Array.replicate m false).getD n true=false:=by simp[d]
  rw[this];simp
def Mp(ops:Array Oper)(n:Nat):Bool:=
 decide (n<ops.size)&&Region.sinkB .any ops n&&Region.chainB .any ops n &&
  ((List.range n).all λi=>((ops[i]?).map λo=>o.after.all λe=>!Region.binds .any e||decide (e.on<i)).getD false) &&
  Region.seqB .any ops (ops.size-n) n (List.replicate n true++List.replicate (ops.size-n) false).toArray
def Ye{ops:Array Oper}{n:Nat}{listed:Array Bool}(I:HeadInv .any ops n listed)(hn:n<ops.size)(d:((List.range n).all λi=>((ops[i]?).map λo=>o.after.all λe=>!Region.binds .any e||decide (e.on<i)).getD false)=true):
 ∀(i:Nat),i<n->listed.getD i true=false->∃k,k∈Region.ready .any ops listed:=by
 intro i
 induction i using Nat.strongRecOn with
 | _ i ih=>
  intro hi O;have z:ops[i]?=some (ops[i]'(by omega)):=A30 (by omega);obtain⟨o,z⟩:∃o,ops[i]?=some o:=⟨_,z⟩;by_cases hall:∀e∈o.after,Region.binds .any e=true->listed.getD e.on false=true
  ·exact⟨i,Ij.2 ⟨O,o,z,hall⟩⟩
  ·simp only[Classical.not_forall]at hall;obtain⟨e,he,X,E⟩:=hall;have L:=(N3.1 d) i (Lc.2 hi);rw[z]at L;simp only[HW,Option.getD_some,A32]at L;have W:=L e he;rw[X]at W;(have Y:e.on<i:=by simpa using W);refine ih e.on Y (by omega) (getD_in (by rw[I.size];omega) ?_);cases h:listed.getD e.on false with
   | true=>exact absurd h E
   | false=>rfl
def A1y{l:List Oper}{n:Nat}{A:(Nat->Value)->Act}{S:World->Prop}{R:World->World->Prop}{G:Nat->Value->World->Prop}(hB:Mp l.toArray n=true)(aN:FY P l.toArray A S R G Q 0 (l.take n))(aL:∀j v w w',R w w'->S w'->G j v w->G j v w')(aH:∀y w,S w->(∀j,j<n->G j (y j) w)->wpList P l.toArray Q (l.drop n) (A y) w):
 ∀(f:Nat) (listed:Array Bool) (y:Nat->Value) (w:World),HeadInv .any l.toArray n listed->Gu listed n=f->S w->(∀j,j<n->listed.getD j false=true->G j (y j) w)->
  wpAny P .any l.toArray Q (f+(l.toArray.size-n)) listed (A y) w:=by
 simp only[Mp,FZ,DO]at hB;obtain⟨⟨⟨⟨hn,hs⟩,hc⟩,aA⟩,aG⟩:=hB;intro f
 induction f with
 | zero=>
  intro listed y w d Y hS hG;have hall:=TF listed n Y;have aO:=d.size;have z:∀j,j<n->listed.getD j false=true:=λj L=>by
   have O:=hall j L;(have h2:j<listed.size:=by omega);simp[h2]at O ⊢;exact O
  have hL:listed=(List.replicate n true++List.replicate (l.toArray.size-n) false).toArray:=by
   refine Array.ext (by (simp[aO];have:n<l.length:=by simpa using hn);omega) λi O h2=>?_;rcases F9 i n with h|h
   ·have:=z i h;simp[O]at this;simp[this,h]
   ·have:=d.tail i h (by omega);simp[O]at this;simp[this,List.getElem_append,Nat.not_lt.2 h]
  rw[GM];have aK:(l.drop n).length=l.toArray.size-n:=by simp
  have:=PR (P:=P) (md:=.any) (ops:=l.toArray) (Q':=Q) (l.drop n) n listed (A y) w (λj=>by simp[List.getElem?_drop]) (by rw[aK,hL];exact aG) (aH y w hS λj L=>hG j L (z j L))
  rwa [aK]at this
 | succ f ih=>
  intro listed y w d Y hS hG;obtain⟨i0,aI,aB⟩:=TI listed n (by omega);have aE:f+1+(l.toArray.size-n)=(f+(l.toArray.size-n))+1:=by omega
  rw[aE];refine⟨λh0=>?_,λi hi=>?_⟩
  ·obtain⟨k,hk⟩:=Ye d hn aA i0 aI aB;rw[h0]at hk;cases hk
  ·have W:i<n:=by
    rcases F9 i n with h|h
    ·exact h
    ·exact absurd hi (Ly hs hc hn d _ i0 rfl aI aB i h)
   obtain⟨aP,o,ho,hall⟩:=Ij.1 hi;have aM:(l.take n)[i]?=some o:=by
    rw[List.getElem?_take_of_lt W];simpa using ho
   have O:=(N3.1 aA) i (Lc.2 W);rw[ho]at O;simp only[HW,Option.getD_some,A32]at O;have ob:=aN.eH i o aM;rw[GM]at ob;have I:Fu G y w (Gt o):=by
    refine Fu.of _ λj L=>?_;unfold Gt at L;rw[CD]at L;obtain⟨e,he,rfl⟩:=L;rw[Hg]at he;(have aJ:e∈o.after:=by simpa using he.1);have h2:=O e aJ;rw[he.2]at h2;(have h3:e.on<i:=by simpa using h2);exact hG e.on (by omega) (hall e aJ he.2)
   have E:∀v w',S w'->(R w w'\/w'=w)->G i v w'->wpAny P .any l.toArray Q (f+(l.toArray.size-n)) (listed.setIfInBounds i true) ((A y).put o.dst v) w':=by
    intro v w' X hR aF;rw[ob.2.2 y v];refine ih _ _ _ (d.set hi W) (by have:=TH listed i aP n W;omega) X λj L hl=>?_;unfold Q9;by_cases aD:j=i
    ·subst aD;simpa using aF
    ·rw[Ae aD];rw[Mi false (Ph aD)]at hl;rcases hR with hR|rfl
     ·exact aL j _ w w' hR X (hG j L hl)
     ·exact hG j L hl
   unfold wpOp;simp only[ho];split
   ·rename_i hw;exact .inl (ob.1 y w hS I hw _ λv a' w' aF aQ hR X=>aQ ▸ E v w' X (.inl hR) aF)
   ·rename_i hw;exact E _ w hS (.inr rfl) (ob.2.1 y w hS I (by simpa using hw))
def Hl{id:Nat}{a:Act}{w:World}{l:List Oper}(n:Nat)(A:(Nat->Value)->Act)(O:Nat->Value)(S:World->Prop)(R:World->World->Prop)(G:Nat->Value->World->Prop)(X:P.follows .mixedOrders=true)(L:Mp l.toArray n=true)(Y:a=A O)(hS:S w.drew)(E:∀j v w w',R w w'->S w'->G j v w->G j v w')(I:FY P l.toArray A S R G Q 0 (l.take n))(d:∀y w,S w->(∀j,j<n->G j (y j) w)->wpList P l.toArray Q (l.drop n) (A y) w):(Code.region id l.toArray true).wp P Q a w:=by
 have hn:n<l.toArray.size:=by
  simp only[Mp,FZ,DO]at L;exact L.1.1.1.1
 refine PQ X ?_;have h:HeadInv .any l.toArray n (Array.replicate l.toArray.size false):=
  ⟨by simp,λj oj _ z=>(by rw[JK]at z;cases z),λt _ W=>getD_in (by simpa using W) (JK _ _)⟩
 have H:=A1y L I E d n _ O w.drew h (TG _ n (by omega)) hS (λj _ z=>by rw[JK]at z;cases z);rw[show n+(l.toArray.size-n)=l.toArray.size by omega]at H;rw[Y];exact H
end
end
section
open Go.RowKit
def Jr(s:Nat):Nat:=(s/2) ^^^ (3988292384*(s &&& 1))
def Jq(s:Nat):Nat->Nat
 | 0=>s
 | n+1=>Jr (Jq s n)
def LB(s:Nat)(b:UInt8):Nat:=Jq (s ^^^ b.toNat) 8
def AW(s:Nat)(bs:List UInt8):Nat:=bs.foldl LB s
def Ue(s:Nat):s &&& 1<=1:=Nat.and_le_right
def Qr(s:Nat)(h:s<4294967296):Jr s<4294967296:=by
 unfold Jr;have:=Ue s;exact Uw (n:=32) (by omega) (by omega)
def WO(s n:Nat)(h:s<4294967296):Jq s n<4294967296:=by
 induction n with
 | zero=>exact h
 | succ n ih=>exact Qr _ ih
def WM(s:Nat)(b:UInt8)(h:s<4294967296):LB s b<4294967296:=by
 have:=b.toNat_lt;exact WO _ _ (Uw (n:=32) (by omega) (by omega))
def Jp(s:Nat)(bs:List UInt8)(h:s<4294967296):AW s bs<4294967296:=by
 unfold AW
 induction bs generalizing s with
 | nil=>exact h
 | cons b t ih=>exact ih _ (WM s b h)
def WJ(s:Nat)(a b:List UInt8):AW s (a++b)=AW (AW s a) b:=MY
def WH(s:Nat)(bs:List UInt8)(k:Nat)(d:k<bs.length):AW s (bs.take (k+1))=LB (AW s (bs.take k)) (bs[k]'d):=by
 rw[DL d,WJ];rfl
def A3j(w:World)(s:Nat)(text:ByteArray)(hs:s<4294967296)(hl:text.size<=9223372036854775807):
 Ag 165 #[.int .u32 s,.string text] w (Aj (.int .u32 (AW s text.data.toList)) λw'=>w=w'):=by
 go_enter func165,ntmps165
 go_wp2;go_loop [0,8] (λc i=>∃k x:Nat,k<=text.size/\i=A0 k/\c=.int .u32 x/\x<4294967296/\Hid (x=AW s (text.data.toList.take k))) (λ_ i=>text.size-(intOf i).toNat)
 case atStart=>exact⟨0,s,Ce _,rfl,rfl,hs,rfl⟩
 case round=>
  obtain⟨k,x,hk,rfl,rfl,hx,L⟩:=hrel;by_cases d:k<text.size
  ·have hb:=(text[k]'d).toNat_lt;have Y:bits .xor .u32 (x:Int) (((text[k]'d).toNat:Int) % 4294967296)=((x ^^^ (text[k]'d).toNat:Nat):Int):=by
    rw[show (((text[k]'d).toNat:Int) % 4294967296)=(((text[k]'d).toNat:Nat):Int) by omega];exact u32_xor_nat _ _ hx (by omega)
   have hy:x ^^^ (text[k]'d).toNat<4294967296:=Uw (n:=32) (by omega) (by omega);have I:Hid (Jq (x ^^^ (text[k]'d).toNat) 8=AW s (text.data.toList.take (k+1))):=by
    unfold Hid;rw[WH s _ k (by simpa using d),<-L.o];simp[LB];rfl
   generalize O:x ^^^ (text[k]'d).toNat=y at Y hy I;clear O hb L;go_wp2;clear Y;go_loop [0,17] (λc i=>∃j z:Nat,j<=8/\i=A0 j/\c=.int .u32 z/\z<4294967296/\Hid (z=Jq y j)) (λ_ i=>8-(intOf i).toNat)
   case atStart=>exact⟨0,y,Ce _,rfl,rfl,hy,rfl⟩
   case round=>
    obtain⟨j,z,hj,rfl,rfl,W,E⟩:=hrel;by_cases hj8:j<8
    ·have e1:bits .xor .u32 ((z:Int)/2) (3988292384*bits .and .u32 (z:Int) 1 % 4294967296)=((Jr z:Nat):Int):=by
      rw[show (1:Int)=((1:Nat):Int) from rfl,u32_and_nat z 1 W (by omega)];have:=Ue z;(have e2:(3988292384:Int)*((z &&& 1:Nat):Int) % 4294967296=((3988292384*(z &&& 1):Nat):Int):=by omega);rw[e2,show ((z:Int)/2)=((z/2:Nat):Int) by omega];exact u32_xor_nat _ _ (by omega) (by omega)
     have X:=Qr z W;(have h:Hid (Jr z=Jq y (j+1)):=by unfold Hid;rw[E.o];rfl);go_wp2;exact⟨⟨j+1,Jr z,by omega,by go_num,rfl,X,h⟩,by simp[intOf];omega⟩
    ·(obtain rfl:j=8:=by omega);(have h:Hid (z=AW s (text.data.toList.take (k+1))):=by unfold Hid;rw[E.o];exact I.o);go_wp2;exact⟨⟨k+1,z,by omega,by go_num,rfl,W,h⟩,by simp[intOf];omega⟩
  ·have h:Hid (x=AW s text.data.toList):=by
    unfold Hid;rw[L.o,Ec];simpa using by omega
   go_wp2;go_ret;rw[h.o];exact⟨rfl,rfl⟩
def extract_mk(l:List UInt8)(i j:Nat):(ByteArray.mk l.toArray).extract i j=⟨((l.drop i).take (j-i)).toArray⟩:=by
 apply ByteArray.ext;simp[ByteArray.data_extract]
def JQ(a b:List UInt8):(ByteArray.mk a.toArray)++(ByteArray.mk b.toArray)=⟨(a++b).toArray⟩:=by
 apply ByteArray.ext;simp[ByteArray.data_append]
def EY:List UInt8->Nat
 | []=>0
 | b::t=>b.toNat+256*EY t
def ZV(a b:List UInt8):EY (a++b)=EY a+256 ^ a.length*EY b:=by
 induction a with
 | nil=>simp[EY]
 | cons c t ih=>simp only[FL,EY,ih,Cq,JW];rw[Nat.mul_add,<-Pj,L6 (256 ^ t.length) 256];omega
def ZT(bs:List UInt8)(k:Nat)(d:k<bs.length):EY (bs.take (k+1))=EY (bs.take k)+(bs[k]'d).toNat*256 ^ k:=by
 rw[DL d,ZV];simp[EY,Nat.min_eq_left (Nat.le_of_lt d),Nat.mul_comm]
def A0t(w:World)(text:ByteArray)(hl:8<=text.size/\text.size<=9223372036854775807):
 Ag 168 #[.string text] w (Aj (A0 (wrap64 (EY (text.data.toList.take 8):Nat))) λw'=>w=w'):=by
 obtain⟨hl1,hl2⟩:=hl
 go_enter func168,ntmps168
 go_wp2;go_loop [3,5] (λc i=>∃k x:Nat,k<=8/\i=A0 k/\c=.int .u64 x/\x<18446744073709551616/\Hid (x<256 ^ k)/\Hid (x=EY (text.data.toList.take k))) (λ_ i=>8-(intOf i).toNat)
 case atStart=>exact⟨0,0,Ce _,rfl,rfl,by omega,(by unfold Hid;decide),rfl⟩
 case round=>
  obtain⟨k,x,hk,rfl,rfl,hx,I,X⟩:=hrel;by_cases hlt:k<8
  ·(have d:k<text.size:=by omega);have hb:=(text[k]'d).toNat_lt;have hb0:=hb;have h:Hid (x+(text[k]'d).toNat*256 ^ k=EY (text.data.toList.take (k+1))):=by
    unfold Hid;rw[ZT _ k (by simpa using d),<-X.o];rfl
   generalize E:(text[k]'d).toNat=b at hb h;obtain⟨y,L,z,e1⟩:∃y,y=x+b*256 ^ k/\y<256 ^ (k+1)/\bits .or .u64 (x:Int) (IntKind.u64.wrap (((text[k]'d).toNat:Int)*2 ^ (8*k)))=((y:Nat):Int):=by
    have h1:=I.o;(have O:(256:Nat) ^ k=2 ^ (8*k):=by rw[Nat.pow_mul]);have h3:b*256 ^ k<=255*256 ^ k:=Hy _ (by omega);have h5:(256:Nat) ^ (k+1)<=256 ^ 8:=A3u (by omega) (by omega);refine⟨_,rfl,by omega,?_⟩;rw[E,IntKind.wrap_u64,show ((b:Int)*2 ^ (8*k))=((b*2 ^ (8*k):Nat):Int) by push_cast;rfl];rw[<-O,show ((b*256 ^ k:Nat):Int) % 18446744073709551616=((b*256 ^ k:Nat):Int) by omega];rw[u64_or_nat _ _ hx (by omega)]
    congr 1
    have h7:=Nat.shiftLeft_add_eq_or_of_lt (i:=8*k) (b:=x) (by rw[<-O];exact h1) b;rw[Nat.shiftLeft_eq,<-O]at h7;rw[Nat.or_comm,<-h7];omega
   have W:y<18446744073709551616:=by
    have h5:(256:Nat) ^ (k+1)<=256 ^ 8:=A3u (by omega) (by omega);omega
   (have aA:Hid (y=EY (text.data.toList.take (k+1))):=by unfold Hid;rw[L];exact h.o);have Y:=A1 <| z;clear L E z h X I;go_wp2;exact⟨⟨k+1,y,by omega,by go_num,rfl,W,Y,aA⟩,by simp[intOf];omega⟩
  ·(obtain rfl:k=8:=by omega);go_wp2;go_ret;rw[X.o];exact⟨rfl,rfl⟩
def GS(n:Nat)(k:Nat):List UInt8:=(List.range k).map λi=>UInt8.ofNat (n/256 ^ i)
def ZX(n k:Nat):(GS n k).length=k:=by simp[GS]
def ZW(n k:Nat):GS n (k+1)=UInt8.ofNat n::GS (n/256) k:=by
 simp only[GS,List.range_succ_eq_map,HC,UH,Nat.pow_zero,Nat.div_one]
 congr 1
 apply MU;intro i _;simp only[Function.comp,Nat.succ_eq_add_one,JW,Nat.div_div_eq_div_mul];rw[L6 (256 ^ i) 256]
def ZU(n k:Nat):EY (GS n k)=n % 256 ^ k:=by
 induction k generalizing n with
 | zero=>simp[GS,EY,Nat.mod_one]
 | succ k ih=>
  rw[ZW,EY,ih,JW,L6 (256 ^ k) 256,Nat.mod_mul];simp
def F6(n:Int):Nat:=(n % 18446744073709551616).toNat
def A2S(n:Int):F6 n<18446744073709551616:=by unfold F6;omega
def TX(n:Int):n % 18446744073709551616=(F6 n:Int):=by unfold F6;omega
def AO(n:Int):List UInt8:=GS (F6 n) 8
def CL(n:Int):(AO n).length=8:=ZX _ _
def Vp(n:Int)(h : -9223372036854775808<=n/\n<=9223372036854775807):wrap64 (EY (AO n):Nat)=n:=by
 have d:EY (AO n)=F6 n:=by
  unfold AO;rw[ZU];have:=A2S n;have z:(256:Nat) ^ 8=18446744073709551616:=by decide
  rw[z];omega
 rw[d];have:=TX n;unfold wrap64;omega
def It(n:Nat)(k:Nat):List Value:=DY (GS n k)++List.replicate (8-k) (.int .u8 0)
def KI(w:World)(n:Int)(hn : -9223372036854775808<=n/\n<=9223372036854775807):
 Ag 239 #[A0 n] w (Aj (.string ⟨(AO n).toArray⟩) λw'=>A4 Aa w w'):=by
 obtain⟨n1,n2⟩:=hn;have eu:IntKind.u64.wrap n=(F6 n:Int):=by rw[IntKind.wrap_u64];exact TX n
 go_enter func239,ntmps239
 go_wp2;go_loopw [5] (λi wr=>∃k:Nat,k<=8/\i=A0 k/\Hid (A4 Aa w wr)/\Hid (wr.heap[w.heap.size]?=some (.cells (It (F6 n) k).toArray 318 (0,0)))) (λi _=>8-(intOf i).toNat)
 case atStart=>exact⟨0,Ce _,rfl,(A4.C _ _).ah _,by unfold Hid;show (w.heap.push _)[w.heap.size]?=_;rw[IG];rfl⟩
 case round=>
  obtain⟨k,hk,rfl,X,I⟩:=hrel;by_cases hlt:k<8
  ·(have hfz:wr.frozen? (A9 w.heap.size k)=false:=by have:=I.o;simp[World.frozen?,this]);have hce:wr.cell? (A9 w.heap.size k)=some (.int .u8 0):=by
    have:=I.o;have O:(It (F6 n) k)[k]?=some (.int .u8 0):=by
     (have Y:(DY (GS (F6 n) k)).length=k:=by simp[DY,GS]);unfold It;rw[HF (by omega),Y,List.getElem?_replicate];simp;omega
    simp[World.cell?,this,O]
   have d:=A1 (BL (o:=k) (v:=.int .u8 (F6 n/2 ^ (8*k) % 256:Nat)) I.o);have E:Hid (A4 Aa w (wr.sC w.heap.size k (.int .u8 (F6 n/2 ^ (8*k) % 256:Nat)))):=A4.a1 X.o (by simp) _;have L:Hid ((It (F6 n) k).toArray.setIfInBounds k (.int .u8 (F6 n/2 ^ (8*k) % 256:Nat))=(It (F6 n) (k+1)).toArray):=by
    unfold Hid;rcases(show k=0\/k=1\/k=2\/k=3\/k=4\/k=5\/k=6\/k=7 by omega) with rfl|rfl|rfl|rfl|rfl|rfl|rfl|rfl<;>simp[It,DY,GS,List.range_succ,List.replicate]
   (have e1:(F6 n:Int)/2 ^ (8*k) % 256=((F6 n/2 ^ (8*k) % 256:Nat):Int):=by push_cast;rfl);unfold Hid at d;rw[L.o]at d;have h:=A1 d;generalize hq:F6 n/2 ^ (8*k) % 256=q at h E e1;go_wp2;exact⟨⟨k+1,by omega,by go_num,E,h⟩,by simp[intOf];omega⟩
  ·(obtain rfl:k=8:=by omega);have cv:(convert 127 9 (AB w.heap.size 8 8)).run Tryz.prog wr=.ok (.string ⟨(AO n).toArray⟩) wr:=by
    have O:=CL n
    have:=Ny (P:=Tryz.prog) wr 127 9 5 (A9 w.heap.size 0) 8 (AO n) underlying127 underlying5 underlying9 (by
     intro j hj;(have z:((A9 w.heap.size 0):Addr).add j=(A9 w.heap.size j):=by unfold Addr.add;split<;>simp_all);rw[z];have W:=I.o;(have h3:(It (F6 n) 8)=DY (AO n):=by simp[It,AO]);rw[h3]at W
     simp[World.cell?,W,DY,List.getElem?_eq_getElem hj])
    rw[O]at this;exact this
   go_wp2;go_ret;exact⟨rfl,X.o⟩
def C9(s:Nat):List UInt8:=(AO s).take 4
def Hn(s:Nat):(C9 s).length=4:=by simp[C9,CL]
def WL(w:World)(s:Nat)(hs:s<4294967296):
 Ag 250 #[.int .u32 s] w (Aj (.string ⟨(C9 s).toArray⟩) λw'=>A4 Aa w w'):=by
 have h : -9223372036854775808<=(s:Int)/\(s:Int)<=9223372036854775807:=by omega
 have hl:=CL s
 go_enter func250,ntmps250
 go_wp2_with (go_at_call 239;refine(KI _ _ h).mono ?_;rintro e w'⟨rfl,d⟩);go_ret;exact⟨by rw[extract_mk];simp[C9],d⟩
def Be(s t v:Int):List UInt8:=UInt8.ofNat (s % 256).toNat::(AO t++AO v)
def Rw(w:World)(s t v:Int)(hs:0<=s/\s<256)(ht : -9223372036854775808<=t/\t<=9223372036854775807)(hv : -9223372036854775808<=v/\v<=9223372036854775807):
 Ag 195 #[.agg #[A0 s,A0 t,A0 v]] w (Aj (.string ⟨(Be s t v).toArray⟩) λw'=>A4 Aa w w'):=by
 go_enter func195,ntmps195
 go_wp2;refine Hl 15 (λy=>{tmps:=#[.agg #[A0 s,A0 t,A0 v],A6 w.heap.size,.string ⟨#[]⟩,y 0,y 1,y 2,y 3,y 4,y 5,y 6,y 7,y 8,y 9,y 10,y 11,y 12,y 13,y 14],defers:=[]}) (λ_=>undef)
  (λw'=>w'.heap[w.heap.size]?=some (.cells #[A0 s,A0 t,A0 v] 113 (0,0))/\A4 Aa w w') (A4 Aa)
  (λj x w'=>match j with
   | 0=>x=(A6 w.heap.size)
   | 1=>x=A0 s
   | 2=>x=.int .u8 s
   | 3=>∃g e,x=AB g 1 1/\w'.heap[g]?=some (.cells #[.int .u8 s] e (0,0))
   | 4=>x=.string ⟨#[UInt8.ofNat (s % 256).toNat]⟩
   | 5=>x=.pointer (some (A9 w.heap.size 1))
   | 6=>x=.pointer (some (A9 w.heap.size 1))
   | 7=>x=A0 t
   | 8=>x=.string ⟨(AO t).toArray⟩
   | 9=>x=.string ⟨(UInt8.ofNat (s % 256).toNat::AO t).toArray⟩
   | 10=>x=.pointer (some (A9 w.heap.size 1))
   | 11=>x=.pointer (some (A9 w.heap.size 2))
   | 12=>x=A0 v
   | 13=>x=.string ⟨(AO v).toArray⟩
   | 14=>x=.string ⟨(Be s t v).toArray⟩
   | _=>True)
  (by kernel_rfl) (by kernel_rfl) rfl ?_ ?_ ?_ ?_
 ·exact⟨(by show (w.heap.push _)[w.heap.size]?=_;rw[IG]),((A4.C _ _).ah _).aa⟩
 ·intro j x w1 w2 hR hS' Y;split at Y<;>first|exact Y|(obtain⟨g,e,h1,h2⟩:=Y;exact⟨g,e,h1,hR.ai h2 (by simp)⟩)
 ·simp only[Fs,Fe,FY,HR]
  repeat' (with_reducible apply And.intro)
  all_goals refine⟨?_,(by intro y d _ _ h;exact Bool.noConfusion h),λy x=>rfl⟩
  all_goals
   intro y d hS I hw K hK;obtain⟨E,O⟩:=hS;simp[Gt,Region.binds,Fu,List.filter_cons]at I;(have hc0:A8 d w.heap.size 0 (A0 s):=by simp[A8,World.cell?,E]);(have hc1:A8 d w.heap.size 1 (A0 t):=by simp[A8,World.cell?,E]);(have hc2:A8 d w.heap.size 2 (A0 v):=by simp[A8,World.cell?,E]);(have hw8:IntKind.u8.wrap s=s:=by simp[IntKind.wrap,IntKind.bits,IntKind.signed];omega);have hlt:=CL t;have hlv:=CL v;have L:=A1 E;have z:=A1 O;have aA:=A1 hK;have ap1:(ByteArray.mk #[UInt8.ofNat (s % 256).toNat])++(ByteArray.mk (AO t).toArray)=⟨(UInt8.ofNat (s % 256).toNat::AO t).toArray⟩:=JQ [_] _;have ap2:(ByteArray.mk (UInt8.ofNat (s % 256).toNat::AO t).toArray)++(ByteArray.mk (AO v).toArray)=⟨(Be s t v).toArray⟩:=JQ _ _
   try
    (have aB:∃g,y 3=AB g 1 1/\∃e,d.heap[g]?=some (.cells #[.int .u8 s] e (0,0)):=by with_reducible exact I);obtain⟨g,I,e,hg⟩:=aB;(have aF:A8 d g 0 (.int .u8 s):=by simp[A8,World.cell?,hg])
    have cv:(convert 127 9 (AB g 1 1)).run Tryz.prog d=.ok (.string ⟨#[UInt8.ofNat (s % 256).toNat]⟩) d:=Ny (P:=Tryz.prog) d 127 9 5 (A9 g 0) 1 [UInt8.ofNat (s % 256).toNat] underlying127 underlying5 underlying9 (by
     intro j hj;(have aE:j=0:=by simpa using hj);subst aE;(have X:((A9 g 0):Addr).add 0=(A9 g 0):=by unfold Addr.add;split<;>simp_all);(have aD:((UInt8.ofNat (s % 256).toNat).toNat:Int)=s:=by simp;omega);rw[X,aF]
     simp only[K3,aD])
  all_goals dsimp only
  all_goals try go_simp
  all_goals try with_reducible exact aA.o _ _ _ rfl (by simp[Act.put,I]) (A4.C _ _) ⟨L.o,z.o⟩
  all_goals try
   (have hd7:y 7=A0 t:=by with_reducible exact I);refine(KI d t ht).mono ?_;rintro e w2⟨rfl,W⟩;exact aA.o _ _ _ rfl (by simp[Act.put,I]) W ⟨W.ai L.o (by simp),z.o.Au W (by simp)⟩
  all_goals try
   (have hd12:y 12=A0 v:=by with_reducible exact I.1);refine(KI d v hv).mono ?_;rintro e w2⟨rfl,W⟩;exact aA.o _ _ _ rfl (by simp[Act.put,I]) W ⟨W.ai L.o (by simp),z.o.Au W (by simp)⟩
  ·exact aA.o _ _ _ ⟨d.heap.size,_,rfl,(by show (d.heap.push _)[d.heap.size]?=_;rw[IG])⟩ (by simp[Act.put,I]) ((A4.C _ _).ah _) ⟨((A4.C Aa d).ah _).ai L.o (by simp),z.o.ah _⟩
 ·intro y d hS Y;obtain⟨E,O⟩:=hS;have h14:y 14=.string ⟨(Be s t v).toArray⟩:=Y 14 (by omega);have z:=A1 O;go_wp2;go_ret;exact⟨rfl,z.o⟩
def BG(l:List UInt8):Int:=wrap64 (EY (l.take 8):Nat)
def Me(w:World)(l:List UInt8)(d:8<=l.length/\l.length<=9223372036854775807):
 Ag 168 #[.string ⟨l.toArray⟩] w (Aj (A0 (BG l)) λw'=>w=w'):=
 A0t w ⟨l.toArray⟩ d
def Mf(n:Int)(h : -9223372036854775808<=n/\n<=9223372036854775807)(r:List UInt8):BG (AO n++r)=n:=by
 unfold BG;rw[H0 (by rw[CL];omega),Ec (by rw[CL];omega)];exact Vp n h
def C7(w:World)(p:Nat)(s t v:Int):Prop:=w.heap[p]?=some (.cells #[.int .i64 s,.int .i64 t,.int .i64 v] 113 (0,0))
def C7.c0{w:World}{p:Nat}{s t v:Int}(h:C7 w p s t v):A8 w p 0 (A0 s):=by unfold C7 at h;simp[A8,World.cell?,h]
def C7.c1{w:World}{p:Nat}{s t v:Int}(h:C7 w p s t v):A8 w p 1 (A0 t):=by unfold C7 at h;simp[A8,World.cell?,h]
def C7.c2{w:World}{p:Nat}{s t v:Int}(h:C7 w p s t v):A8 w p 2 (A0 v):=by unfold C7 at h;simp[A8,World.cell?,h]
def C7.fz{w:World}{p:Nat}{s t v:Int}(h:C7 w p s t v)(o:Nat):w.frozen? (A9 p o)=false:=by unfold C7 at h;simp[World.frozen?,h]
def C7.lt{w:World}{p:Nat}{s t v:Int}(h:C7 w p s t v):p<w.heap.size:=By h
def C7.ai{S:Nat->Prop}{w w':World}{p:Nat}{s t v:Int}(h:C7 w p s t v)(d:A4 S w w')(z:¬S p):C7 w' p s t v:=d.ai h z
def C7.aa{w:World}{p:Nat}{s t v:Int}(h:C7 w p s t v):C7 w.drew p s t v:=by unfold C7 at h ⊢;exact h
def C7.bq{w:World}{p:Nat}{s t v:Int}(h:C7 w p s t v)(s' z d:Int):C7 (((w.setCell (A9 p 0) (A0 s')).setCell (A9 p 1) (A0 z)).setCell (A9 p 2) (A0 d)) p s' z d:=
 BL (o:=2) (v:=A0 d) (BL (o:=1) (v:=A0 z) (BL (o:=0) (v:=A0 s') h))
def Ru(w:World)(b:UInt8)(l:List UInt8)(hl:16<=l.length/\l.length<9223372036854775807):
 Ag 176 #[.string ⟨(b::l).toArray⟩] w (Aj (.tuple #[.agg #[A0 b.toNat,A0 (BG l),A0 (BG (l.drop 8))],.bool (decide (b.toNat<8))]) λw'=>A4 Aa w w'):=by
 obtain⟨hl1,hl2⟩:=hl;have hb:=b.toNat_lt
 go_enter func176,ntmps176
 go_wp2;refine Hl 12 (λy=>{tmps:=#[.string ⟨(b::l).toArray⟩,undef,A6 w.heap.size,.bool false,y 11,y 0,y 1,y 2,y 3,y 4,y 5,y 6,y 7,y 8,y 9,y 10,undef,undef,undef,undef],defers:=[]}) (λ_=>undef)
  (λw'=>C7 w' w.heap.size 0 0 0/\A4 Aa w w') (A4 Aa)
  (λj x w'=>match j with
   | 0=>x=.string ⟨(b::l).toArray⟩
   | 1=>x=.int .u8 b.toNat
   | 2=>x=A0 b.toNat
   | 3=>x=.string ⟨(b::l).toArray⟩
   | 4=>x=.string ⟨l.toArray⟩
   | 5=>x=A0 (BG l)
   | 6=>x=.string ⟨(b::l).toArray⟩
   | 7=>x=.string ⟨(l.drop 8).toArray⟩
   | 8=>x=A0 (BG (l.drop 8))
   | 9=>x=.agg #[A0 (BG l),A0 (BG (l.drop 8))]
   | 10=>x=.agg #[A0 b.toNat,A0 (BG l),A0 (BG (l.drop 8))]
   | 11=>∃p,x=(A6 p)/\w.heap.size<p/\C7 w' p 0 0 0
   | _=>True)
  (by kernel_rfl) (by kernel_rfl) rfl ?_ ?_ ?_ ?_
 ·exact⟨(by show (w.heap.push _)[w.heap.size]?=_;rw[IG]),((A4.C _ _).ah _).aa⟩
 ·intro j x w1 w2 hR aN W;split at W
  case h_12=>
   obtain⟨p,h1,h2,h3⟩:=W;exact⟨p,h1,h2,h3.ai hR (λh=>h)⟩
  all_goals exact W
 ·simp only[Fs,Fe,FY,HR]
  repeat' (with_reducible apply And.intro)
  all_goals refine⟨?_,(by intro y O _ _ h;exact Bool.noConfusion h),λy x=>rfl⟩
  all_goals
   intro y O hS hd hw K hK;obtain⟨I,d⟩:=hS;simp[Gt,Region.binds,Fu,List.filter_cons]at hd;have e0:(ByteArray.mk (b::l).toArray)[0]'(by show 0<l.length+1;omega)=b:=rfl;have e1:(ByteArray.mk (b::l).toArray).extract 1 (l.length+1)=⟨l.toArray⟩:=by
    rw[extract_mk];simp
   have e9:(ByteArray.mk (b::l).toArray).extract 9 (l.length+1)=⟨(l.drop 8).toArray⟩:=by
    rw[extract_mk,Du,Ec (by simp)]
   (have g1:(1:Int)<=(l.length:Int)+1:=by omega);(have g9:(9:Int)<=(l.length:Int)+1:=by omega);(have ew:IntKind.i64.wrap (b.toNat:Int)=b.toNat:=by simp[IntKind.wrap,IntKind.bits,IntKind.signed];omega);have E:=A1 I;have L:=A1 d;have aD:=A1 hK
  all_goals dsimp only
  all_goals try go_simp
  all_goals try with_reducible exact aD.o _ _ _ rfl (by simp[Act.put,hd]) (A4.C _ _) ⟨E.o,L.o⟩
  all_goals try
   (have hd4:y 4=.string ⟨l.toArray⟩:=by with_reducible exact hd);refine(Me O l (by omega)).mono ?_;rintro e w2⟨rfl,rfl⟩;exact aD.o _ _ _ rfl (by simp[Act.put,hd]) (A4.C _ _) ⟨E.o,L.o⟩
  all_goals try
   (have hd7:y 7=.string ⟨(l.drop 8).toArray⟩:=by with_reducible exact hd.1);refine(Me O (l.drop 8) (by rw[Cl];omega)).mono ?_;rintro e w2⟨rfl,rfl⟩;exact aD.o _ _ _ rfl (by simp[Act.put,hd]) (A4.C _ _) ⟨E.o,L.o⟩
  ·refine aD.o _ _ _ ⟨O.heap.size,rfl,?_,Bf O _⟩ (by simp[Act.put]) ((A4.C _ _).ah _) ⟨E.o.ai ((A4.C Aa _).ah _) (λh=>h),L.o.ah _⟩;exact E.o.lt
 ·intro y O hS W;obtain⟨I,d⟩:=hS;have h10:y 10=.agg #[A0 b.toNat,A0 (BG l),A0 (BG (l.drop 8))]:=W 10 (by omega);obtain⟨p,h11,aF,hp⟩:∃p,y 11=(A6 p)/\w.heap.size<p/\C7 O p 0 0 0:=W 11 (by omega);have c0:=hp.c0;have c1:=hp.c1;have c2:=hp.c2;have f0:=hp.fz 0;have f1:=hp.fz 1;have f2:=hp.fz 2;have h3:=hp.bq b.toNat (BG l) (BG (l.drop 8));have cr:A4 (One p) O (((O.setCell (A9 p 0) (A0 b.toNat)).setCell (A9 p 1) (A0 (BG l))).setCell (A9 p 2) (A0 (BG (l.drop 8)))):=(((A4.C (One p) O).aj rfl _ _).aj rfl _ _).aj rfl _ _;have aB:=A1 h3;have aA:=A1 (I.ai cr (λh=>by have h':w.heap.size=p:=h;omega));have aK:Hid (A4 Aa w (((O.setCell (A9 p 0) (A0 b.toNat)).setCell (A9 p 1) (A0 (BG l))).setCell (A9 p 2) (A0 (BG (l.drop 8))))):=d.Au cr (λk hk hlt2=>by have h':k=p:=hk;omega);have aO:Hid (w.heap.size<p):=aF;go_wp2;generalize (((O.setCell (A9 p 0) (A0 b.toNat)).setCell (A9 p 1) (A0 (BG l))).setCell (A9 p 2) (A0 (BG (l.drop 8))))=w3 at aB aA aK ⊢;obtain⟨X,aI⟩:∃X,BG l=X:=⟨_,rfl⟩;obtain⟨Y,aG⟩:∃Y,BG (l.drop 8)=Y:=⟨_,rfl⟩;rw[aI,aG]at aB ⊢;have aJ:Hid (((b.toNat:Int)<8)=(b.toNat<8)):=by unfold Hid;simp;omega
  obtain⟨n,hn⟩:∃n:Nat,b.toNat=n:=⟨_,rfl⟩;have aE:Hid (b.toNat=n/\BG l=X/\BG (l.drop 8)=Y):=⟨hn,aI,aG⟩;rw[hn]at aB aJ ⊢;have q0:=aB.o.c0;have q1:=aB.o.c1;have q2:=aB.o.c2;have r0:=aA.o.c0;have r1:=aA.o.c1;have r2:=aA.o.c2;have z0:=aA.o.fz 0;have z1:=aA.o.fz 1;have z2:=aA.o.fz 2;go_wp2;refine Hl 5 (λz=>{tmps:=#[.string ⟨(b::l).toArray⟩,undef,A6 w.heap.size,.bool false,A6 p,y 0,y 1,y 2,y 3,y 4,y 5,y 6,y 7,y 8,y 9,.agg #[A0 n,A0 X,A0 Y],z 0,z 1,z 2,z 3],defers:=[]}) (λ_=>undef)
   (λw'=>C7 w' p n X Y/\(∃a b c,C7 w' w.heap.size a b c)/\A4 Aa w w') (λw1 w2=>C7 w1 w.heap.size n X Y->C7 w2 w.heap.size n X Y)
   (λj x w'=>match j with
    | 0=>x=.agg #[A0 n,A0 X,A0 Y]
    | 1=>x=(A6 p)
    | 2=>x=A0 n
    | 3=>x=.bool (decide ((n:Int)<8))
    | 4=>C7 w' w.heap.size n X Y
    | _=>True)
   (by kernel_rfl) (by kernel_rfl) rfl ?_ ?_ ?_ ?_
  ·exact⟨aB.o.aa,⟨_,_,_,aA.o.aa⟩,aK.o.aa⟩
  ·intro j x w1 w2 hR aN W;split at W
   case h_5=>exact hR W
   all_goals exact W
  ·clear aB aA aK;simp only[Fs,Fe,FY,HR]
   repeat' (with_reducible apply And.intro)
   all_goals refine⟨?_,(by intro y O _ _ h;exact Bool.noConfusion h),λy x=>rfl⟩
   all_goals
    intro z wz hS hd hw K hK;obtain⟨I,⟨a1,a2,a3,d⟩,aL⟩:=hS;simp[Gt,Region.binds,Fu,List.filter_cons]at hd;have q0:=I.c0;have q1:=I.c1;have q2:=I.c2;have r0:=d.c0;have r1:=d.c1;have r2:=d.c2;have z0:=d.fz 0;have z1:=d.fz 1;have z2:=d.fz 2;have E:=A1 I;have L:=A1 d;have aH:=A1 aL;have aD:=A1 hK
   all_goals dsimp only
   all_goals try go_simp
   all_goals try with_reducible exact aD.o _ _ _ rfl (by simp[Act.put,hd]) (λh=>h) ⟨E.o,⟨_,_,_,L.o⟩,aH.o⟩
   have st:=L.o.bq n X Y;have cr:A4 (One w.heap.size) wz (((wz.setCell (A9 w.heap.size 0) (A0 n)).setCell (A9 w.heap.size 1) (A0 X)).setCell (A9 w.heap.size 2) (A0 Y)):=(((A4.C (One w.heap.size) wz).aj rfl _ _).aj rfl _ _).aj rfl _ _;refine aD.o undef _ _ st (by simp[Act.put,hd]) (λ_=>st) ⟨E.o.ai cr (λh=>by have h':p=w.heap.size:=h;have:=aO.o;omega),⟨_,_,_,st⟩,aH.o.Au cr (λk hk aF=>by have h':k=w.heap.size:=hk;omega)⟩
  ·intro z wz hS W;have h3:z 3=.bool (decide ((n:Int)<8)):=W 3 (by omega);have h4:C7 wz w.heap.size n X Y:=W 4 (by omega);have r0:=h4.c0;have r1:=h4.c1;have r2:=h4.c2;have aP:=A1 hS.2.2;have aM:decide ((n:Int)<8)=decide (n<8):=by
    by_cases h:n<8
    ·rw[Ct h,Ct (by omega)]
    ·rw[Cu h,Cu (by omega)]
   rw[aM]at h3;go_wp2;refine Jb (v:=.tuple #[.agg #[A0 n,A0 X,A0 Y],.bool (decide (n<8))]) (by simp[results,Tryz.results176,go_sem,r0,r1,r2]) rfl ?_;exact⟨by rw[aE.o.1,aE.o.2.1,aE.o.2.2],aP.o⟩
end
end Go.Proofs.YtodcnkbblippnaaGreatDoor
