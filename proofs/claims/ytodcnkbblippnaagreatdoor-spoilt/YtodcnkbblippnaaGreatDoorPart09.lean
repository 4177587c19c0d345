/- Part 9 of a proof: walks of the program. -/
import Derived.StillTailTactics
import Derived.StillTactics
import Derived.Test.YtodcnkbblippnaaGreatDoorPart06
namespace Go.Proofs.YtodcnkbblippnaaGreatDoor
set_option maxRecDepth 100000
set_option maxHeartbeats 32000000
set_option linter.defProp false
open Go.Proofs.Tryz
section
open Go.RowKit
attribute [local go_sem ↓] Go.wp_at_zero Go.wp_at_succ
def My{P:Program}(w:ga){ops:Array Oper}{rest:gh Oper}{o:Oper}{a:Act}{Q:Exit->Act->ga->Prop}(z:o.guard=none)(d s:Operand)(t t':TypeId)(L:o.op=.call {callee:=.builtin .copy,args:=#[d,s],argTypes:=#[t,t']})(v u:gd)(H:a.eval d=v)(W:a.eval s=u){E:gd}{w':ga}(O:(Builtin.copy_ #[t,t'] o.type #[v,u]).run P w=.ok E w')(h:wpList P ops Q rest (a.put o.dst E) w'):wpList P ops Q (o::rest) a w:=
 wpList_plain z λ_ I=>by
  unfold Oper.wp execOp;simp only[L,resolve,invoke,builtin,Sem.run_bind,Sem.run_pure,Result.andThen_ok,List.map_toArray,GY,List.map_nil,H,W,O];exact I _ _ h
def Dw(d:gh gd)(L:gh Pt)(i:Nat):gh Value:=d.take ((i+1)*2)++Bk (L.drop i)++d.drop ((i+1)*2+(Bk (L.drop i)).length)
def DJ(c:gh gd)(i:Nat)(t v:Int):gh Value:=c.take (i*2)++[A0 t,A0 v]++c.drop (i*2+2)
def UR(L:gh Pt)(i:Nat)(t v:Int):Bk (L.take i++(t,v):: L.drop i)=Bk (L.take i)++[A0 t,A0 v]++Bk (L.drop i):=by
 rw[Tm];simp[Bk]
def V4(d:gh gd)(L:gh Pt)(i:Nat)(hi:i<=L.length)(hlen:(L.length+1)*2<=d.length):(Dw d L i).length=d.length:=by
 have h:(Bk (L.drop i)).length=(L.length-i)*2:=by rw[GN,CO]
 unfold Dw;simp only[AY,BT,CO,h];omega
def PR(c:gh gd)(i:Nat)(t v:Int)(h:i*2+2<=c.length):(DJ c i t v).length=c.length:=by
 unfold DJ;simp only[AY,BT,CO,Cg,J7];omega
def A14(L:gh Pt)(i:Nat)(hi:i<=L.length)(t v:Int)(d:gh gd)(h:d.take (i*2)=Bk (L.take i))(hlen:(L.length+1)*2<=d.length):
 (DJ (Dw d L i) i t v).take ((L.length+1)*2)=Bk (L.take i++(t,v):: L.drop i):=by
 have z:(Bk (L.drop i)).length=(L.length-i)*2:=by rw[GN,CO]
 have H:(d.take ((i+1)*2)).length=(i+1)*2:=by rw[BT];omega
 have I:(Dw d L i).take (i*2)=Bk (L.take i):=by
  unfold Dw;rw[Ch,Hc (by rw[H];omega),KI,show min (i*2) ((i+1)*2)=i*2 from by omega,h]
 have O:(Dw d L i).drop (i*2+2)=Bk (L.drop i)++d.drop ((i+1)*2+(Bk (L.drop i)).length):=by
  unfold Dw;rw[Ch]
  conv=>lhs;rw[show i*2+2=(d.take ((i+1)*2)).length from by rw[H];omega]
  rw[WW]
 have E:(Bk (L.take i)++[A0 t,A0 v]++Bk (L.drop i)).length=(L.length+1)*2:=by
  simp only[AY,GN,z,BT,Cg,J7];omega
 unfold DJ;rw[I,O,UR,<-Ch,<-E,KJ]
structure Ik (w w':ga) (lv:gd) (L':gh Pt) (lv':gd):Prop where
 Bu:DT w' lv' L'
 Al:A3 (λk=>lv.ownBlock=some k) w w'
 AE:∀g,lv'.ownBlock=some g->lv.ownBlock=some g\/w.heap.size<=g
def A1U(w:ga)(g cap:Nat)(L:gh Pt)(i z:Nat)(t v:Int)(hL:DT w (AH g L.length cap) L)(hi:i<L.length)(I:L.length+1<=cap)(hsm:L.length<1099511627776)(hv:w.heap[z]?=some (.cells #[A0 t,A0 v] 70 (0,0)))(aB:z≠g):
 Ag 139 #[AH g L.length cap,A0 i,AH z 1 1] w λe w'=>∃lv',e=.returned lv'/\Ik w w' (AH g L.length cap) (L.take i++(t,v):: L.drop i) lv':=by
 have⟨cur,hg,hcs,htake,_,hcm⟩:=Tw hL;unfold maxLen at hcm;have⟨i0,hi0,hz0,hz1,hz2⟩:=Eg Tryz.cS;have aJ:∀lb cb,(callFunc 181 #[AH z 1 1,.slice (some (Ac g ((i+1)*2))) lb cb]).run Tryz.prog w=.ok (.value (.bool false)) w:=λlb cb=>by
  have aL:∀w,(Go.sizeOf 70).run Tryz.prog w=.ok 2 w:=λw=>by simp[sizeOf,typeInfo,hi0,hz1]
  rw[Z8 func181 (by kernel_rfl) (by kernel_rfl) (by kernel_rfl) (e:=Extern.SlicesOverlaps.overlaps #[66,66] #[4]) (by kernel_rfl),
   Lib.run_overlaps_apart w 66 4 70 Gz 2 aL (Ac z 0) (Ac g ((i+1)*2)) 1 1 lb cb aB 70 70 2 cur.size (by simp[World.shape?,hv]) (by simp[World.shape?,hg]) (by rw[hcs];omega) (by simp[World.frozen?,hv]) (by simp[World.frozen?,hv])]
  rfl
 have aG:(L.length+1)*2<=cur.toList.length:=by have:=Mu (xs:=cur);omega
 have d:(Dw cur.toList L i).length=cap*2:=by rw[V4 _ _ _ (by omega) aG,Mu,hcs]
 have aF:(Bk (L.drop i)).length=(L.length-i)*2:=by rw[GN,CO]
 have aI:cur.toList.take (i*2)=Bk (L.take i):=by
  rw[show i*2=min (i*2) (L.length*2) from by omega,<-KI,htake,P6]
 have aM:∀(x y:Nat),Addr.add (Ac g x) y=(Ac g (x+y)):=λx y=>by unfold Addr.add;by_cases h:y=0<;>simp[h]
 have aN:∀(y:Nat),Addr.add (Ac z 0) y=(Ac z y):=λy=>by unfold Addr.add;by_cases h:y=0<;>simp[h]
 have aD:Hid (∀W H sc,(Builtin.copy_ #[66,66] W #[.slice (some (Ac g ((i+1)*2))) (L.length-i) H,.slice (some (Ac g (i*2))) (L.length+1-i) sc]).run Tryz.prog w.drew=.ok (goInt ((L.length-i:Nat):Int)) (w.drew.setRow g (Dw cur.toList L i).toArray)):=λW H sc=>
  MK w.drew _ _ W 70 i0 2 g ((i+1)*2) _ H (Ac g (i*2)) _ sc (L.length-i) cur 70 (Bk (L.drop i)) Gz hi0 hz1 hg (by simp only[WE];split<;>omega) aF
   (λj u E=>by
    rw[aM];refine BH (w:=w) hL (g:=g) rfl ?_
    rw[<-P8,JN]at E;exact E)
   (by rw[aF,hcs];omega) (P7 _)
 have aA:Hid (∀W H,(Builtin.copy_ #[66,66] W #[.slice (some (Ac g (i*2))) (L.length+1-i) H,AH z 1 1]).run Tryz.prog (w.drew.setRow g (Dw cur.toList L i).toArray)=.ok (goInt ((1:Nat):Int)) ((w.drew.setRow g (Dw cur.toList L i).toArray).setRow g (DJ (Dw cur.toList L i) i t v).toArray)):=λW H=>by
  have O:(w.drew.setRow g (Dw cur.toList L i).toArray).heap[g]?=some (.cells (Dw cur.toList L i).toArray 70 (0,0)):=Li w.drew g cur _ 70 _ hg;have:=MK (P:=Tryz.prog) (w.drew.setRow g (Dw cur.toList L i).toArray) 66 66 W 70 i0 2 g (i*2) (L.length+1-i) H (Ac z 0) 1 1 1 (Dw cur.toList L i).toArray 70 [A0 t,A0 v] Gz hi0 hz1 O (by simp only[WE];split<;>omega) rfl
   (λj u E=>by
    rw[aN];have aH:(w.drew.setRow g (Dw cur.toList L i).toArray).heap[z]?=some (.cells #[A0 t,A0 v] 70 (0,0)):=(JY w.drew g z _ aB).trans hv;unfold World.cell?;rw[aH]
    match j,E with
    | 0,E=>simpa using E
    | 1,E=>simpa using E
    | j+2,E=>simp at E)
   (by simp only[Mi,d,Cg,J7];omega) (by simp[Value.oneCell'])
  simpa[DJ] using this
 have aO:Hid (Ik w ((w.drew.setRow g (Dw cur.toList L i).toArray).setRow g (DJ (Dw cur.toList L i) i t v).toArray) (AH g L.length cap) (L.take i++(t,v):: L.drop i) (AH g (L.length+1) cap)):=by
  have O:(w.drew.setRow g (Dw cur.toList L i).toArray).heap[g]?=some (.cells (Dw cur.toList L i).toArray 70 (0,0)):=Li w.drew g cur _ 70 _ hg;have aK:((w.drew.setRow g (Dw cur.toList L i).toArray).setRow g (DJ (Dw cur.toList L i) i t v).toArray).heap[g]?=some (.cells (DJ (Dw cur.toList L i) i t v).toArray 70 (0,0)):=Li _ g _ _ 70 _ O;have Y:(L.take i++(t,v):: L.drop i).length=L.length+1:=by simp;omega
  refine⟨?_,?_,λg' h'=>.inl h'⟩
  ·unfold DT;rw[Y];refine⟨by rw[GN,Y],.inr ⟨g,cap,_,rfl,Cb _,aK,I,by unfold maxLen;omega,?_,?_⟩⟩
   ·rw[Mi,PR _ _ _ _ (by rw[d];omega),d]
   ·exact A14 L i (by omega) t v cur.toList aI aG
  ·refine⟨rfl,rfl,rfl,by simp,λk hk hn=>?_⟩;have aE:k≠g:=λe=>hn (by simp[Value.ownBlock,e]);rw[JY _ g k _ aE,JY _ g k _ aE];rfl
 have q1:((i:Int)==(L.length:Int))=false:=by simp;omega
 have q2:¬(cap=i):=by omega
 have q3:¬(cap=i+1):=by omega
 have q4:(i:Int)<=(L.length:Int):=by omega
 have q7:((L.length:Int)+1).toNat=L.length+1:=by omega
 have q8:((i:Int)+1).toNat=i+1:=by omega
 have q9:(i:Int)+1<=(L.length:Int)+1:=by omega
 have q10:=C3 i;have q11:(i:Int)<=(L.length:Int)+1:=by omega
 have q13:(0:Int)<=(i:Int)+1:=by omega
 have q12:IntKind.i64.wrap ((i:Int)+1)=(i:Int)+1:=by simp only[Jb];omega
 go_enter func139,ntmps139
 go_wp2_with (simp only[aJ]);refine L6 8 (by kernel_rfl) (by kernel_rfl) ?_;simp only[M7,Fe,EZ,DW,Dz]
 repeat still_step
 refine L7 ?_;refine My _ rfl (.tmp 73) (.tmp 76) 66 66 rfl _ _ (by rfl) (by rfl) (aD.o _ _ _) ?_;go_wp2_with (refine My _ rfl (.tmp 80) (.tmp 81) 66 66 rfl _ _ (by rfl) (by rfl) (aA.o _ _) ?_);go_ret;exact⟨_,rfl,aO.o⟩
def Gj(d a b h A9:Int)(p:Pu):Bool:=decide (p.1=d)&&decide (a<=p.2.1)&&decide (p.2.1<=b)&&Ha p.2.1 h A9
def Er(d a b h A9:Int)(l:gh Pt)(p:Pu):gh Pt:=if Gj d a b h A9 p then CE l p.2.1 p.2.2 else l
def refQ(pd:gh Pu)(d a b h A9:Int):gh Pt:=pd.foldl (Er d a b h A9) []
def PQ(l:gh Pt)(t v:Int):l.length<=(CE l t v).length/\(CE l t v).length<=l.length+1:=by
 induction l with
 | nil=>simp[CE]
 | cons e r ih=>
  obtain⟨a,b⟩:=e;simp only[CE];split
  ·simp only[Cg];omega
  ·split<;>simp only[Cg]<;>omega
def ZH(pd:gh Pu)(k:Nat)(z:k<pd.length)(d a b h A9:Int):refQ (pd.take (k+1)) d a b h A9=Er d a b h A9 (refQ (pd.take k) d a b h A9) (pd[k]'z):=by
 unfold refQ;rw[Dy z,Mm];rfl
def ZL(pd:gh Pu)(d a b h A9:Int)(k:Nat)(hk:k<=pd.length):E4 (refQ (pd.take k) d a b h A9)/\(refQ (pd.take k) d a b h A9).length<=k:=by
 induction k with
 | zero=>simp[refQ,E4]
 | succ k ih=>
  have⟨h1,h2⟩:=ih (by omega);rw[ZH pd k (by omega)];unfold Er;split
  ·have:=(PQ (refQ (pd.take k) d a b h A9) (pd[k]'(by omega)).2.1 (pd[k]'(by omega)).2.2).2;exact⟨LP h1 _ _,by omega⟩
  ·exact⟨h1,by omega⟩
def A1W(w:ga)(O:Option Addr)(cap:Nat)(L:gh Pt)(vb:Nat)(t v:Int)(hL:DT w (.slice O L.length cap) L)(hsm:L.length<1099511627776)(hv:w.heap[vb]?=some (.cells #[A0 t,A0 v] 70 (0,0))):
 Ag 139 #[.slice O L.length cap,A0 L.length,AH vb 1 1] w λe w'=>∃lv',e=.returned lv'/\Ik w w' (.slice O L.length cap) (L.take L.length++(t,v):: L.drop L.length) lv':=by
 have⟨i0,hi0,hz0,hz1,hz2⟩:=Eg Tryz.cS;have⟨_,_,he,h1,h2,_,h4,h5⟩:=B9 hL;cases he;unfold maxLen at h2;have I:Hid (Src Tryz.prog 2 66 (AH vb 1 1) 1 [A0 t,A0 v] w):=Src.cv Gz hv 1 1 rfl (by simp[Value.oneCell']);have Y:Hid (∀z d h,App w h 70 2 (.slice O L.length cap) (.slice z (L.length+1) d) (L.length+1) (Bk L++[A0 t,A0 v])->Ik w h (.slice O L.length cap) (L.take L.length++(t,v):: L.drop L.length) (.slice z (L.length+1) d)):=by
  intro z d h E;refine⟨?_,E.Al λk hk=>hk,λg hg=>?_⟩
  ·have:=E.AE;unfold DT;rw[EG (Ao _),KU (Ao _),Tm,AY];exact this
  ·rcases E.CA with e|e
   ·rw[e]at hg;exact .inl hg
   ·rw[e]at hg;cases hg;exact .inr (Ao _)
 have aA:=A1 hL;have q4:(0:Int)<=(L.length:Int):=GK _;have W:(L.length+1)*16<=140737488355328:=by omega
 by_cases hc:cap=L.length
 ·subst hc
  go_enter func139,ntmps139
  go_wp2_with (at_builtin;refine Dj rfl (.tmp 23) (.tmp 24) 66 66 rfl 70 i0 _ 2 16 Gz hi0 hz0 hz1 hz2 rfl (by decide) _ L.length (Bk L) (by rfl) aA.o _ 1 _ (by rfl) I.o W ?_;intro z d h E;have H:=A1 (Y.o z d h E));go_ret;exact⟨_,rfl,H.o⟩
 ·go_enter func139,ntmps139
  go_wp2_with (at_builtin;refine Dj rfl (.tmp 23) (.tmp 24) 66 66 rfl 70 i0 _ 2 16 Gz hi0 hz0 hz1 hz2 rfl (by decide) _ L.length (Bk L) (by rfl) aA.o _ 1 _ (by rfl) I.o W ?_;intro z d h E;have H:=A1 (Y.o z d h E));go_ret;exact⟨_,rfl,H.o⟩
def A13(L:gh Pt)(i:Nat)(O:i<=L.length)(t v:Int)(c:gh gd)(d:c.take (i*2)=Bk (L.take i))(hlen:(L.length+1)*2<=c.length):
 (Dw (DJ c i t v) L i).take ((L.length+1)*2)=Bk (L.take i++(t,v):: L.drop i)/\(Dw (DJ c i t v) L i).length=c.length:=by
 have z:(Bk (L.drop i)).length=(L.length-i)*2:=by rw[GN,CO]
 have h:(DJ c i t v).length=c.length:=PR c i t v (by omega);refine⟨?_,by rw[V4 _ _ _ O (by omega),h]⟩;have H:(Bk (L.take i)++[A0 t,A0 v]).length=(i+1)*2:=by
  simp only[AY,GN,BT,Cg,J7];omega
 have I:(DJ c i t v).take ((i+1)*2)=Bk (L.take i)++[A0 t,A0 v]:=by
  unfold DJ;rw[d,<-H,KJ]
 have E:(Bk (L.take i)++[A0 t,A0 v]++Bk (L.drop i)).length=(L.length+1)*2:=by
  rw[AY,H,z];omega
 unfold Dw;rw[I,UR,<-E,KJ]
def A1V(w:ga)(g cap:Nat)(L:gh Pt)(i vb:Nat)(t v:Int)(hL:DT w (AH g L.length cap) L)(hi:i<L.length)(hroom:cap<L.length+1)(hsm:L.length<1099511627776)(hv:w.heap[vb]?=some (.cells #[A0 t,A0 v] 70 (0,0))):
 Ag 139 #[AH g L.length cap,A0 i,AH vb 1 1] w λe w'=>∃lv',e=.returned lv'/\Ik w w' (AH g L.length cap) (L.take i++(t,v):: L.drop i) lv':=by
 have⟨cur,hg,hcs,htake,hnc,hcm⟩:=Tw hL;unfold maxLen at hcm;obtain rfl:cap=L.length:=by omega
 have⟨i0,hi0,hz0,hz1,hz2⟩:=Eg Tryz.cS;have aM:(Bk (L.drop i)).length=(L.length-i)*2:=by rw[GN,CO]
 have W:∀(b x y:Nat),Addr.add (Ac b x) y=(Ac b (x+y)):=λb x y=>by unfold Addr.add;by_cases h:y=0<;>simp[h]
 have aH:(Builtin.firstCells i0.size i (AH g i L.length)).run Tryz.prog w.drew=.ok (Bk (L.take i)).toArray w.drew:=
  Sf w.drew i0.size i (Ac g 0) i L.length (Bk (L.take i)) (by rw[hz1,GN,BT];omega) (λj u d=>by
   rw[W,GF];refine BH (w:=w) hL (g:=g) rfl ?_;rw[<-P6,QK]at d;split at d
   ·exact d
   ·cases d)
 have z:=Z9 (P:=Tryz.prog) w 66 3 66 70 i0 _ .i64 Gz GV hi0 hz0 (by omega) (some (Ac g 0)) i L.length (Bk (L.take i)) aH (L.length+1-i) (by omega) (by omega) (by omega) (by rw[hz2];omega) (by rw[hz2];exact growslice_fits (by omega) (by omega));rw[show i+(L.length+1-i)=L.length+1 from by omega,show ((L.length+1-i:Nat):Int)=(L.length:Int)+1-(i:Int) from by omega]at z;obtain⟨H,aN⟩:∃H,grownCap w (L.length+1) L.length 70=H:=⟨_,rfl⟩;have aA:=grownCap_ge w (L.length+1) L.length 70;have aO:grownCap w (L.length+1) L.length 70<=maxLen:=grownCap_le_maxLen w (L.length+1) L.length 70 (by unfold maxLen;omega);rw[aN]at z aA aO;obtain⟨c0,I⟩:∃c0,(Bk (L.take i)).toArray++Builtin.zeroCells (Value.agg #[A0 0,A0 0]).cells (L.length+1-i)++Builtin.zeroCells (Value.agg #[A0 0,A0 0]).cells (H-(L.length+1))=c0:=⟨_,rfl⟩;have E:c0.toList.length=H*2:=by
  rw[<-I];have e1:(Value.agg #[A0 0,A0 0]).cells.size=2:=rfl;simp only[QZ,AY,Mu,size_zeroCells,e1,GN,BT];omega
 have aL:c0.toList.take (i*2)=Bk (L.take i):=by
  rw[<-I,QZ,QZ,Ch];have:(Bk (L.take i)).length=i*2:=by rw[GN,BT];omega
  rw[<-this,KJ]
 rw[I]at z;unfold maxLen at aO;have aI:((w.drew.aC c0 70)).heap[w.heap.size]?=some (.cells c0 70 (0,0)):=BL w.drew _;have aQ:=Bv hv;have aS:=Bv hg;have aP:((w.drew.aC c0 70)).heap[vb]?=some (.cells #[A0 t,A0 v] 70 (0,0)):=(Di w.drew _ _ aQ).trans hv;have aF:Hid (∀Y O,(Builtin.copy_ #[66,66] Y #[.slice (some (Ac w.heap.size (i*2))) (L.length+1-i) O,AH vb 1 1]).run Tryz.prog (w.drew.aC c0 70)=.ok (goInt ((1:Nat):Int)) ((w.drew.aC c0 70).setRow w.heap.size (DJ c0.toList i t v).toArray)):=λY O=>by
  have:=MK (P:=Tryz.prog) (w.drew.aC c0 70) 66 66 Y 70 i0 2 w.heap.size (i*2) (L.length+1-i) O (Ac vb 0) 1 1 1 c0 70 [A0 t,A0 v] Gz hi0 hz1 aI (by simp only[WE];split<;>omega) rfl
   (λj u d=>by
    rw[W,GF];unfold World.cell?;rw[aP]
    match j,d with
    | 0,d=>simpa using d
    | 1,d=>simpa using d
    | j+2,d=>simp at d)
   (by rw[<-Mu,E];simp only[Cg,J7];omega) (by simp[Value.oneCell'])
  simpa[DJ] using this
 have aK:(DJ c0.toList i t v).length=H*2:=by rw[PR _ _ _ _ (by omega),E]
 have aJ:((w.drew.aC c0 70).setRow w.heap.size (DJ c0.toList i t v).toArray).heap[w.heap.size]?=some (.cells (DJ c0.toList i t v).toArray 70 (0,0)):=Li _ w.heap.size c0 _ 70 _ aI;have aD:Hid (∀Y O sc,(Builtin.copy_ #[66,66] Y #[.slice (some (Ac w.heap.size ((i+1)*2))) (L.length-i) O,.slice (some (Ac g (i*2))) (L.length-i) sc]).run Tryz.prog ((w.drew.aC c0 70).setRow w.heap.size (DJ c0.toList i t v).toArray).drew=.ok (goInt ((L.length-i:Nat):Int)) (((w.drew.aC c0 70).setRow w.heap.size (DJ c0.toList i t v).toArray).drew.setRow w.heap.size (Dw (DJ c0.toList i t v) L i).toArray)):=λY O sc=>
  MK (P:=Tryz.prog) ((w.drew.aC c0 70).setRow w.heap.size (DJ c0.toList i t v).toArray).drew 66 66 Y 70 i0 2 w.heap.size ((i+1)*2) (L.length-i) O (Ac g (i*2)) (L.length-i) sc (L.length-i) (DJ c0.toList i t v).toArray 70 (Bk (L.drop i)) Gz hi0 hz1 aJ (by simp) aM
   (λj u d=>by
    rw[W];have h0:w.cell? (Ac g (i*2+j))=some u:=by
     refine BH (w:=w) hL (g:=g) rfl ?_;rw[<-P8,JN]at d;exact d
    refine(E3 ?_).trans h0
    exact(JY _ w.heap.size g _ (by omega)).trans (Di w.drew _ _ aS))
   (by rw[aM,Mi,aK];omega) (P7 _)
 have aT:Hid (Ik w (((w.drew.aC c0 70).setRow w.heap.size (DJ c0.toList i t v).toArray).drew.setRow w.heap.size (Dw (DJ c0.toList i t v) L i).toArray) (AH g L.length L.length) (L.take i++(t,v):: L.drop i) (AH w.heap.size (L.length+1) H)):=by
  have aR:(((w.drew.aC c0 70).setRow w.heap.size (DJ c0.toList i t v).toArray).drew.setRow w.heap.size (Dw (DJ c0.toList i t v) L i).toArray).heap[w.heap.size]?=some (.cells (Dw (DJ c0.toList i t v) L i).toArray 70 (0,0)):=Li _ w.heap.size _ _ 70 _ aJ;have aB:(L.take i++(t,v):: L.drop i).length=L.length+1:=by simp;omega
  have⟨k1,k2⟩:=A13 L i (by omega) t v c0.toList aL (by omega);refine⟨?_,?_,λg' h'=>by simp[Value.ownBlock]at h';exact .inr (by omega)⟩
  ·unfold DT;rw[aB];refine⟨by rw[GN,aB],.inr ⟨w.heap.size,H,_,rfl,Cb _,aR,aA,by unfold maxLen;omega,?_,k1⟩⟩;rw[Mi,k2,E]
  ·refine⟨rfl,rfl,rfl,by simp,λk hk hn=>?_⟩;(have aG:k≠w.heap.size:=by omega);rw[JY _ _ k _ aG];exact(JY _ _ k _ aG).trans (Di w.drew _ _ hk)
 have q1:((i:Int)==(L.length:Int))=false:=by simp;omega
 have q2:¬(H=i):=by omega
 have q3:¬(H=i+1):=by omega
 have q3':¬(L.length=i):=by omega
 have q4:(i:Int)<=(L.length:Int):=by omega
 have q8:((i:Int)+1).toNat=i+1:=by omega
 have q9:(i:Int)+1<=(L.length:Int)+1:=by omega
 have q10:=C3 i;have q11:(i:Int)<=(L.length:Int)+1:=by omega
 have q13:(0:Int)<=(i:Int)+1:=by omega
 have q12:IntKind.i64.wrap ((i:Int)+1)=(i:Int)+1:=by simp only[Jb];omega
 have q14:IntKind.i64.wrap ((L.length:Int)+1-(i:Int))=(L.length:Int)+1-(i:Int):=by simp only[Jb];omega
 have aE:=A1 z
 go_enter func139,ntmps139
 go_wp2_with (first
  | (at_builtin;refine Lib.wpList_append_run _ rfl (.tmp 34) (.tmp 39) 66 3 rfl _ _ (by rfl) (by rfl) _ _ aE.o ?_)
  | (refine My _ rfl (.tmp 43) (.tmp 44) 66 66 rfl _ _ (by rfl) (by rfl) (aF.o _ _) ?_))
 refine L6 8 (by kernel_rfl) (by kernel_rfl) ?_;simp only[M7,Fe,EZ,DW,Dz]
 repeat still_step
 refine L7 ?_;refine My _ rfl (.tmp 50) (.tmp 53) 66 66 rfl _ _ (by rfl) (by rfl) (aD.o _ _ _) ?_;go_wp2;go_ret;exact⟨_,rfl,aT.o⟩
def A1X(w:ga)(E:Option Addr)(cap:Nat)(L:gh Pt)(i h:Nat)(t v:Int)(H:DT w (.slice E L.length cap) L)(hi:i<=L.length)(z:L.length<1099511627776)(Y:w.heap[h]?=some (.cells #[.int .i64 t,.int .i64 v] 70 (0,0)))(O:(Value.slice E L.length cap).ownBlock≠some h):
 Calls Tryz.prog 139 #[.slice E L.length cap,.int .i64 i,.slice (some ⟨h,0,none⟩) 1 1] w λe w'=>∃lv',e=.returned lv'/\Ik w w' (.slice E L.length cap) (L.take i++(t,v):: L.drop i) lv':=by
 by_cases W:i=L.length
 ·subst W;exact A1W w E cap L h t v H z Y
 ·have⟨_,_,he,h1,h2,h3,h4,h5⟩:=B9 H;cases he;obtain⟨g,rfl⟩:=h3 (by omega);have I:h≠g:=λe=>O (by simp[Value.ownBlock,e]);by_cases d:L.length+1<=cap
  ·exact A1U w g cap L i h t v H (by omega) d z Y I
  ·exact A1V w g cap L i h t v H (by omega) (by omega) z Y
end
section
open Go.RowKit
def MO(l:gh Pu)(p:Pu)(k a b d A9:Int):refQ (l++[p]) k a b d A9=Er k a b d A9 (refQ l k a b d A9) p:=by unfold refQ;rw[Mm];rfl
def T7{k a b d A9:Int}{p:Pu}:Gj k a b d A9 p=true↔((p.1=k/\a<=p.2.1)/\p.2.1<=b)/\Ha p.2.1 d A9=true:=by
 unfold Gj;simp only[Gg,E0]
def T6{k a b d A9:Int}{l:gh Pt}{p:Pu}(h:p.1≠k\/p.2.1<a\/b<p.2.1):Er k a b d A9 l p=l:=by
 unfold Er;rw[Aa];intro e;have:=T7.1 e;omega
def T5{k a b d A9:Int}{l:gh Pt}{p:Pu}(h:p.1=k)(E:a<=p.2.1)(z:p.2.1<=b)(H:Ha p.2.1 d A9=true):Er k a b d A9 l p=CE l p.2.1 p.2.2:=by
 unfold Er;rw[Ae (T7.2 ⟨⟨⟨h,E⟩,z⟩,H⟩)]
def V3(t v:Int):∀l:gh Pt,(∀x∈l,x.1<t)->CE l t v=l++[(t,v)]
 | [],_=>rfl
 | (a,b):: r,h=>by
  have d:=h (a,b) (Bt ..);unfold CE;rw[Ae d,V3 t v r λx z=>h x (Bp _ z)];rfl
def IB(f:Nat->Pt)(n:Nat):gh Pt:=(List.range n).map f
def Zb(f:Nat->Pt)(n:Nat):IB f (n+1)=IB f n++[f n]:=by unfold IB;rw[List.range_succ,Ei];rfl
def OK(f:Nat->Pt)(n:Nat):(IB f n).length=n:=by unfold IB;simp
def Zc{f:Nat->Pt}{n:Nat}(h:∀i,i<n->(f i).1<(f n).1):∀x∈IB f n,x.1<(f n).1:=λx d=>by
 unfold IB at d;obtain⟨i,z,rfl⟩:=CC.1 d;exact h i (NN.1 z)
def I6(f:Nat->Pu)(n:Nat):gh Pu:=(List.range n).map f
def Sh(f:Nat->Pu)(n:Nat):I6 f (n+1)=I6 f n++[f n]:=by unfold I6;rw[List.range_succ,Ei];rfl
end
section
open Go.RowKit
attribute [local go_sem ↓] Go.wp_at_zero Go.wp_at_succ
def Vb{l:gh Pt}{t:Int}(h:EN l t=true):∃d:BP l t<l.length,(l[BP l t]'d).1=t:=by
 unfold EN at h;by_cases d:BP l t<l.length
 ·rw[DL d]at h;exact⟨d,by simpa using h⟩
 ·rw[NR (by omega)]at h;cases h
def UZ(l:gh Pt)(t v:Int):CE l t v=if EN l t then l.set (BP l t) (t,v) else l.take (BP l t)++(t,v):: l.drop (BP l t):=by
 rw[A19];show _++_::(if EN l t then _ else _)=_;by_cases h:EN l t=true
 ·have⟨hl,_⟩:=Vb h;rw[Ae h,Ae h,List.set_eq_take_append_cons_drop,Ae hl]
 ·rw[Aa h,Aa h]
def UY{l:gh Pt}{t v:Int}(h:l.length<1099511627775):(CE l t v).length<1099511627776:=by
 have:(CE l t v).length<=l.length+1:=by
  rw[UZ];split
  ·simp
  ·simp;omega
 omega
def A0a(w:ga)(d z:Nat)(cs:Array gd)(T:Nat)(hT:T≠70)(L:gh Pt)(lv:gd)(t v:Int)(h:HQ w d z cs T L lv)(aJ:L.length<1099511627775):
 Ag 102 #[.pointer (some (Ac d z)),.agg #[A0 t,A0 v]] w (Am (.tuple #[]) λw'=>∃lv',J2 w w' d z cs T lv (CE L t v) lv'):=by
 have H:=A1 h;obtain⟨O,cap,rfl,h1,h2,h3,h4,h5⟩:=B9 h.Bu;unfold maxLen at h2;have aX:=A1 h3;have aK:=UZ L t v;have aM:=K6 L t;obtain⟨i,aD⟩:∃i,BP L t=i:=⟨_,rfl⟩;obtain⟨hs,aF⟩:∃hs,EN L t=hs:=⟨_,rfl⟩;have a0:Hid (hs=true->i<L.length):=λe=>by
  have⟨q,_⟩:=Vb (aF.trans e);rw[aD]at q;exact q
 have aW:Hid (∀W,A3 Ab w W->Ag 116 #[.pointer (some (Ac d z)),A0 t] W (Am (.tuple #[A0 i,.bool hs]) λw'=>A3 Ab W w')):=λW hW=>
  (Q2 W d z L _ t (H.o.Al hW).cF).mono (by rintro e w'⟨rfl,h⟩;rw[aD,aF];exact⟨rfl,h⟩)
 rw[aD,aF]at aK;rw[aD]at aM;have aO:=A1 aK;have aR:=BL w (.cells #[A0 t,A0 v] 70);have aZ:=A1 aR;have hbl:=Bv h.Ah;have aQ:L.length<1099511627776:=h.CZ;have iz:=C3 i;have aL:Hid (∀W,A3 Ab (w.aC #[A0 t,A0 v] 70) W->A3 Ab w W/\W.heap[w.heap.size]?=some (.cells #[A0 t,A0 v] 70 (0,0))/\HQ W d z cs T L (.slice O L.length cap)):=λW hW=>by
  have h1:A3 Ab w W:=((A3.I _ w).al _).tr hW;exact⟨h1,(hW.An _ (by simp) (λh=>h)).trans aZ.o,H.o.Al h1⟩
 cases hs with
 | true=>
  have aN:=a0.o rfl;obtain⟨g,rfl⟩:=aX.o (by omega);have i1:(i:Int)<(L.length:Int):=by omega
  have aH:Hid (∀W n,A3 Ab (w.aC #[A0 t,A0 v] 70) W->J2 w (((W.drewN n).sC g (i*2) (A0 t)).sC g (i*2+1) (A0 v)) d z cs T (AH g L.length cap) (CE L t v) (AH g L.length cap)):=by
   intro W n hW;have⟨Y,k2,k3⟩:=aL.o W hW;have s1:=((Ax k3.Bu (w':=W.drewN n) λ_ _=>rfl).stored (i*2) (A0 t)).1;have s2:=(s1.stored (i*2+1) (A0 v)).1;have e:=A0l L i (t,v) aN;simp only at e;rw[e]at s2;have⟨ce,hce⟩:=Be k3.Bu (g:=g) rfl;(have aA:d≠g:=λe=>by subst e;rw[k3.Ah]at hce;cases hce;exact hT rfl);have I:CE L t v=L.set i (t,v):=aO.o;have aE:cs.setIfInBounds z (AH g L.length cap)=cs:=by
    have⟨aG,he⟩:=A5m.1 H.o.CA;apply Array.ext_getElem?;intro k;by_cases hk:z=k
    ·subst hk;simp[aG,he]
    ·rw[A5l hk]
   refine⟨⟨?_,by rw[aE];exact H.o.CA,?_,LP H.o.G4 t v,UY aJ⟩,?_,λg hg=>.inl hg⟩
   ·rw[aE,Hg _ _ _ _ aA,Hg _ _ _ _ aA];exact k3.Ah
   ·rw[I];unfold DT;rw[HU];exact s2
   ·exact(((Y.bb n).af (S':=λk=>k=d\/(AH g L.length cap).oB k) (λ_ _ h=>h.elim)).aq (b:=g) (.inr rfl) (i*2) _).aq (b:=g) (.inr rfl) (i*2+1) _
  go_enter func102,ntmps102
  go_wp2_with (fail);refine(aW.o _ ((A3.I _ w).al _)).k ?_;rintro w1 Y;have aP:=A1 Y;have⟨k2,k3,k4⟩:=aL.o w1 Y;have c0:=k4.cF.DK;have p0:w1.cell? (Ac w.heap.size 0)=some (A0 t):=by simp[World.cell?,k3]
  have p1:w1.cell? (Ac w.heap.size 1)=some (A0 v):=by simp[World.cell?,k3]
  have⟨o0,o1⟩:=k4.Bu.bx i aN;have z0:=Gk k4.Bu (g:=g) rfl (i*2);have z1:=Gk k4.Bu (g:=g) rfl (i*2+1);go_wp2;refine L6 7 (by kernel_rfl) (by kernel_rfl) ?_;simp only[M7,Fe,EZ,DW,Dz]
  repeat still_step
  refine L7 ?_;go_wp2;refine Nt (Ss rfl _ _ _) rfl ?_;exact⟨rfl,_,aH.o w1 1 aP.o⟩
 | false=>
  have aV:Hid (∀W,A3 Ab (w.aC #[A0 t,A0 v] 70) W->Ag 139 #[.slice O L.length cap,A0 i,AH W.heap.size 1 1] (W.aC #[A0 t,A0 v] 70) λe w'=>∃lv',e=.returned lv'/\Ik (W.aC #[A0 t,A0 v] 70) w' (.slice O L.length cap) (L.take i++(t,v):: L.drop i) lv'):=λW hW=>by
   have⟨Y,k2,k3⟩:=aL.o W hW;exact A1X _ O cap L i W.heap.size t v (Ax k3.Bu λg hg=>Di _ _ _ (AF k3.Bu hg)) aM aQ (BL W _) (λe=>by have:=AF k3.Bu e;omega)
  have aH:Hid (∀W E lv',A3 Ab (w.aC #[A0 t,A0 v] 70) W->Ik (W.aC #[A0 t,A0 v] 70) E (.slice O L.length cap) (L.take i++(t,v):: L.drop i) lv'->
   (E.cell? (Ac d z)=some (.slice O L.length cap)/\E.cell? (Ac w.heap.size 0)=some (A0 t)/\E.cell? (Ac w.heap.size 1)=some (A0 v))/\E.frozen? (Ac d z)=false/\J2 w (E.sC d z lv') d z cs T (.slice O L.length cap) (CE L t v) lv'/\∃a c,lv'=.slice a (L.length+1) c):=by
   intro W E lv' hW hI;have⟨Y,k2,k3⟩:=aL.o W hW;have aS:(Value.slice O L.length cap).ownBlock≠some d:=λe=>by
    have⟨c,hh⟩:=Be k3.Bu e;rw[k3.Ah]at hh;cases hh;exact hT rfl
   have aT:(Value.slice O L.length cap).ownBlock≠some w.heap.size:=λe=>by
    have:=AF H.o.Bu e;omega
   have aB:E.heap[d]?=some (.cells cs T (0,0)):=(hI.Al.An d (by have:=Bv k3.Ah;simp;omega) aS).trans ((Di _ _ _ (Bv k3.Ah)).trans k3.Ah);have aI:E.heap[w.heap.size]?=some (.cells #[A0 t,A0 v] 70 (0,0)):=(hI.Al.An _ (by have:=Bv k2;simp;omega) aT).trans ((Di _ _ _ (Bv k2)).trans k2);(have aU:(L.take i++(t,v):: L.drop i).length=L.length+1:=by simp;omega);(have I:CE L t v=L.take i++(t,v):: L.drop i:=by have:=aO.o;simpa using this);refine⟨⟨by simp[World.cell?,aB,H.o.CA],by simp[World.cell?,aI],by simp[World.cell?,aI]⟩,by simp[World.frozen?,aB],⟨⟨CL aB,?_,?_,LP H.o.G4 t v,UY aJ⟩,?_,?_⟩,?_⟩
   ·have aG:z<cs.size:=(A5m.1 H.o.CA).1;simp[aG]
   ·rw[I];refine Ax hI.Bu λg hg=>?_;have aA:g≠d:=λe=>by
     have⟨c,hh⟩:=Be hI.Bu hg;subst e;rw[aB]at hh;cases hh;exact hT rfl
    exact Hg _ _ _ _ (λe=>aA (by simpa using e))
   ·have c1:A3 (λk=>k=d\/(Value.slice O L.length cap).oB k) w E:=((Y.al (.cells #[A0 t,A0 v] 70)).af (λ_ _ h=>h.elim)).Av hI.Al (λx hx _=>.inr hx);exact c1.aq (.inl rfl) z _
   ·intro g hg;rcases hI.AE g hg with h|h
    ·exact .inl h
    ·right;have:=Y.Aj;simp at h;omega
   ·have⟨a,c,e,_⟩:=B9 hI.Bu;rw[aU]at e;exact⟨a,c,e⟩
  go_enter func102,ntmps102
  go_wp2_with (fail);refine(aW.o _ ((A3.I _ w).al _)).k ?_;rintro w1 Y;have aP:=A1 Y;have⟨k2,k3,k4⟩:=aL.o w1 Y;have c0:=k4.cF.DK;have p0:w1.cell? (Ac w.heap.size 0)=some (A0 t):=by simp[World.cell?,k3]
  have p1:w1.cell? (Ac w.heap.size 1)=some (A0 v):=by simp[World.cell?,k3]
  go_wp2;refine G0 (λw'=>w'.cell? (Ac d z)=some (.slice O L.length cap)/\w'.cell? (Ac w.heap.size 0)=some (A0 t)/\w'.cell? (Ac w.heap.size 1)=some (A0 v)) 9
   (BG [0,1,2,3,4,5,6,7,8] [7,8]) (by kernel_rfl) (by kernel_rfl) (λ_ _ _ _ _ h=>h) ⟨c0,p0,p1⟩ ?_
  iterate 7 (refine Ek (v:=?_) rfl (by rfl) ?_ ?_;rotate_left;(· (intro w' hS;(try dsimp only at hS);go_simp;try with_reducible rfl));(try simp only[Cs]))
  refine Eb rfl (by rfl) (λK hK=>?_);go_simp;refine hK _ _ ?_ (λhS=>?_)
  ·simp[World.cell?_alloc_some,c0,p0,p1]
  (try simp only[Cs])
  refine Eb rfl (by rfl) (λK hK=>?_);go_simp;refine(aV.o w1.drew aP.o.ag).mono ?_;rintro e E⟨lv',rfl,hI⟩;obtain⟨f1,f2,f3,a3,d3,rfl⟩:=aH.o w1.drew E lv' aP.o.ag hI;have aY:=A1 f3;refine hK _ _ f1 (λhS=>?_);obtain⟨f1,-,-⟩:=f1
  (try simp only[Cs])
  refine G1 ?_;simp only[DW,Dz];go_wp2;go_end0;exact⟨rfl,_,aY.o⟩
end
end Go.Proofs.YtodcnkbblippnaaGreatDoor
