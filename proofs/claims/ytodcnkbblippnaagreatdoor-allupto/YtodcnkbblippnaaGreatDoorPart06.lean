/- Part 6 of a proof: walks of the program. -/
import Derived.Test.YtodcnkbblippnaaGreatDoorShelf
import Derived.Lib.ItoaLen
import Derived.Test.YtodcnkbblippnaaGreatDoorPart03
import Derived.Test.YtodcnkbblippnaaGreatDoorPart04
import Derived.Test.YtodcnkbblippnaaGreatDoorPart05
namespace Go.Proofs.YtodcnkbblippnaaGreatDoor
set_option maxRecDepth 100000
set_option maxHeartbeats 32000000
set_option linter.defProp false
open Go.Proofs.Tryz
section
open Go.RowKit
attribute [local go_sem ↓] Go.wp_at_zero Go.wp_at_succ
def A1A(w:gC)(X:Option Addr)(cap:Nat)(L:gF Pt)(vb:Nat)(t v:Int)(hL:Ch w (.slice X L.length cap) L)(hsm:L.length<1099511627776)(hv:w.heap[vb]?=some (.cells #[A0 t,A0 v] 70 (0,0))):
 Ag 139 #[.slice X L.length cap,A0 L.length,AA vb 1 1] w λe w'=>∃lv',e=.returned lv'/\IJ w w' (.slice X L.length cap) (L.take L.length++(t,v):: L.drop L.length) lv':=by
 have⟨i0,hi0,hz0,hz1,hz2⟩:=DQ Tryz.cy;have⟨_,_,he,h1,h2,_,h4,h5⟩:=B8 hL;cases he;unfold maxLen at h2;have O:Hid (Src Tryz.prog 2 66 (AA vb 1 1) 1 [A0 t,A0 v] w):=Src.cj underlying66 hv 1 1 rfl (by simp[Value.oneCell']);have aA:Hid (∀z d h,App w h 70 2 (.slice X L.length cap) (.slice z (L.length+1) d) (L.length+1) (B7 L++[A0 t,A0 v])->IJ w h (.slice X L.length cap) (L.take L.length++(t,v):: L.drop L.length) (.slice z (L.length+1) d)):=by
  intro z d h E;refine⟨?_,E.Am λk hk=>hk,λg hg=>?_⟩
  ·have:=E.AB;unfold Ch;rw[Eu (An _),IG (An _),Lp,B3];exact this
  ·rcases E.BX with e|e
   ·rw[e]at hg;exact .inl hg
   ·rw[e]at hg;cases hg;exact .inr (An _)
 have aB:=A1 hL;have q4:(0:Int)<=(L.length:Int):=GA _;have Y:(L.length+1)*16<=140737488355328:=iC
 by_cases hc:cap=L.length
 ·subst hc
  go_enter func139,ntmps139
  go_wp2_with (at_builtin;refine CX rfl (.tmp 23) (.tmp 24) 66 66 rfl 70 i0 _ 2 16 underlying66 hi0 hz0 hz1 hz2 rfl iF _ L.length (B7 L) (by rfl) aB.o _ 1 _ (by rfl) O.o Y ?_;intro z d h E;have I:=A1 (aA.o z d h E));go_ret;exact⟨_,rfl,I.o⟩
 ·go_enter func139,ntmps139
  go_wp2_with (at_builtin;refine CX rfl (.tmp 23) (.tmp 24) 66 66 rfl 70 i0 _ 2 16 underlying66 hi0 hz0 hz1 hz2 rfl iF _ L.length (B7 L) (by rfl) aB.o _ 1 _ (by rfl) O.o Y ?_;intro z d h E;have I:=A1 (aA.o z d h E));go_ret;exact⟨_,rfl,I.o⟩
def A1H(L:gF Pt)(i:Nat)(X:i<=L.length)(t v:Int)(c:gF gD)(d:c.take (i*2)=B7 (L.take i))(hlen:(L.length+1)*2<=c.length):
 (DH (E5 c i t v) L i).take ((L.length+1)*2)=B7 (L.take i++(t,v):: L.drop i)/\(DH (E5 c i t v) L i).length=c.length:=by
 have z:(B7 (L.drop i)).length=(L.length-i)*2:=by rw[GH,Cz]
 have h:(E5 c i t v).length=c.length:=PA c i t v iC;refine⟨?_,by rw[Uy _ _ _ X iC,h]⟩;have I:(B7 (L.take i)++[A0 t,A0 v]).length=(i+1)*2:=by
  simp only[B3,GH,BK,CA,Jk];omega
 have O:(E5 c i t v).take ((i+1)*2)=B7 (L.take i)++[A0 t,A0 v]:=by
  unfold E5;rw[d,<-I,K0]
 have E:(B7 (L.take i)++[A0 t,A0 v]++B7 (L.drop i)).length=(L.length+1)*2:=by
  rw[B3,I,z];omega
 unfold DH;rw[O,Un,<-E,K0]
def A1z(w:gC)(g cap:Nat)(L:gF Pt)(i vb:Nat)(t v:Int)(hL:Ch w (AA g L.length cap) L)(hi:i<L.length)(hroom:cap<L.length+1)(hsm:L.length<1099511627776)(hv:w.heap[vb]?=some (.cells #[A0 t,A0 v] 70 (0,0))):
 Ag 139 #[AA g L.length cap,A0 i,AA vb 1 1] w λe w'=>∃lv',e=.returned lv'/\IJ w w' (AA g L.length cap) (L.take i++(t,v):: L.drop i) lv':=by
 have⟨cur,hg,hcs,htake,hnc,hcm⟩:=T9 hL;unfold maxLen at hcm;obtain rfl:cap=L.length:=iC
 have⟨i0,hi0,hz0,hz1,hz2⟩:=DQ Tryz.cy;have aM:(B7 (L.drop i)).length=(L.length-i)*2:=by rw[GH,Cz]
 have Y:∀(b x y:Nat),Addr.add (A9 b x) y=(A9 b (x+y)):=λb x y=>by unfold Addr.add;by_cases h:y=0<;>simp[h]
 have aH:(Builtin.firstCells i0.size i (AA g i L.length)).run Tryz.prog w.drew=.ok (B7 (L.take i)).toArray w.drew:=
  RZ w.drew i0.size i (A9 g 0) i L.length (B7 (L.take i)) (by rw[hz1,GH,BK];omega) (λj u d=>by
   rw[Y,Hj];refine Bu (w:=w) hL (g:=g) rfl ?_;rw[<-OT,NU]at d;split at d
   ·exact d
   ·cases d)
 have z:=YL (P:=Tryz.prog) w 66 3 66 70 i0 _ .i64 underlying66 Ia hi0 hz0 iC (some (A9 g 0)) i L.length (B7 (L.take i)) aH (L.length+1-i) iC iC iC (by rw[hz2];omega) (by rw[hz2];exact growslice_fits iC iC);rw[show i+(L.length+1-i)=L.length+1 from by omega,show ((L.length+1-i:Nat):Int)=(L.length:Int)+1-(i:Int) from by omega]at z;obtain⟨I,aN⟩:=iG (grownCap w (L.length+1) L.length 70);have aA:=grownCap_ge w (L.length+1) L.length 70;have aO:grownCap w (L.length+1) L.length 70<=maxLen:=grownCap_le_maxLen w (L.length+1) L.length 70 (by unfold maxLen;omega);rw[aN]at z aA aO;obtain⟨c0,O⟩:=iG ((B7 (L.take i)).toArray++Builtin.zeroCells (Value.agg #[A0 0,A0 0]).cells (L.length+1-i)++Builtin.zeroCells (Value.agg #[A0 0,A0 0]).cells (I-(L.length+1)));have E:c0.toList.length=I*2:=by
  rw[<-O];have e1:(Value.agg #[A0 0,A0 0]).cells.size=2:=rfl;simp only[QS,B3,Ms,size_zeroCells,e1,GH,BK];omega
 have aL:c0.toList.take (i*2)=B7 (L.take i):=by
  rw[<-O,QS,QS,Ci];have:(B7 (L.take i)).length=i*2:=by rw[GH,BK];omega
  rw[<-this,K0]
 rw[O]at z;unfold maxLen at aO;have aI:((w.drew.aC c0 70)).heap[w.heap.size]?=some (.cells c0 70 (0,0)):=Bn w.drew _;have aQ:=Bv hv;have aS:=Bv hg;have aP:((w.drew.aC c0 70)).heap[vb]?=some (.cells #[A0 t,A0 v] 70 (0,0)):=(CW w.drew _ _ aQ).trans hv;have aF:Hid (∀ty X,(Builtin.copy_ #[66,66] ty #[.slice (some (A9 w.heap.size (i*2))) (L.length+1-i) X,AA vb 1 1]).run Tryz.prog (w.drew.aC c0 70)=.ok (goInt ((1:Nat):Int)) ((w.drew.aC c0 70).setRow w.heap.size (E5 c0.toList i t v).toArray)):=λty X=>by
  have:=MG (P:=Tryz.prog) (w.drew.aC c0 70) 66 66 ty 70 i0 2 w.heap.size (i*2) (L.length+1-i) X (A9 vb 0) 1 1 1 c0 70 [A0 t,A0 v] underlying66 hi0 hz1 aI (by simp only[Wa];split<;>omega) rfl
   (λj u d=>by
    rw[Y,Hj];unfold World.cell?;rw[aP]
    match j,d with
    | 0,d=>simpa using d
    | 1,d=>simpa using d
    | j+2,d=>simp at d)
   (by rw[<-Ms,E];simp only[CA,Jk];omega) (by simp[Value.oneCell'])
  simpa[E5] using this
 have aK:(E5 c0.toList i t v).length=I*2:=by rw[PA _ _ _ _ iC,E]
 have aJ:((w.drew.aC c0 70).setRow w.heap.size (E5 c0.toList i t v).toArray).heap[w.heap.size]?=some (.cells (E5 c0.toList i t v).toArray 70 (0,0)):=Li _ w.heap.size c0 _ 70 _ aI;have aD:Hid (∀ty X sc,(Builtin.copy_ #[66,66] ty #[.slice (some (A9 w.heap.size ((i+1)*2))) (L.length-i) X,.slice (some (A9 g (i*2))) (L.length-i) sc]).run Tryz.prog ((w.drew.aC c0 70).setRow w.heap.size (E5 c0.toList i t v).toArray).drew=.ok (goInt ((L.length-i:Nat):Int)) (((w.drew.aC c0 70).setRow w.heap.size (E5 c0.toList i t v).toArray).drew.setRow w.heap.size (DH (E5 c0.toList i t v) L i).toArray)):=λty X sc=>
  MG (P:=Tryz.prog) ((w.drew.aC c0 70).setRow w.heap.size (E5 c0.toList i t v).toArray).drew 66 66 ty 70 i0 2 w.heap.size ((i+1)*2) (L.length-i) X (A9 g (i*2)) (L.length-i) sc (L.length-i) (E5 c0.toList i t v).toArray 70 (B7 (L.drop i)) underlying66 hi0 hz1 aJ iE aM
   (λj u d=>by
    rw[Y];have h0:w.cell? (A9 g (i*2+j))=some u:=by
     refine Bu (w:=w) hL (g:=g) rfl ?_;rw[<-MT,IF]at d;exact d
    refine(DU ?_).trans h0
    exact(Kj _ w.heap.size g _ iC).trans (CW w.drew _ _ aS))
   (by rw[aM,Me,aK];omega) (Lo _)
 have aT:Hid (IJ w (((w.drew.aC c0 70).setRow w.heap.size (E5 c0.toList i t v).toArray).drew.setRow w.heap.size (DH (E5 c0.toList i t v) L i).toArray) (AA g L.length L.length) (L.take i++(t,v):: L.drop i) (AA w.heap.size (L.length+1) I)):=by
  have aR:(((w.drew.aC c0 70).setRow w.heap.size (E5 c0.toList i t v).toArray).drew.setRow w.heap.size (DH (E5 c0.toList i t v) L i).toArray).heap[w.heap.size]?=some (.cells (DH (E5 c0.toList i t v) L i).toArray 70 (0,0)):=Li _ w.heap.size _ _ 70 _ aJ;have aB:(L.take i++(t,v):: L.drop i).length=L.length+1:=by simp;omega
  have⟨k1,k2⟩:=A1H L i iC t v c0.toList aL iC;refine⟨?_,?_,λg' h'=>by simp[Value.ownBlock]at h';exact .inr iC⟩
  ·unfold Ch;rw[aB];refine⟨by rw[GH,aB],.inr ⟨w.heap.size,I,_,rfl,Cb _,aR,aA,by unfold maxLen;omega,?_,k1⟩⟩;rw[Me,k2,E]
  ·refine⟨rfl,rfl,rfl,iE,λk hk hn=>?_⟩;have aG:k≠w.heap.size:=iC;rw[Kj _ _ k _ aG];exact(Kj _ _ k _ aG).trans (CW w.drew _ _ hk)
 have q1:((i:Int)==(L.length:Int))=false:=by simp;omega
 have q2:¬(I=i):=iC
 have q3:¬(I=i+1):=iC
 have q3':¬(L.length=i):=iC
 have q4:(i:Int)<=(L.length:Int):=iC
 have q8:((i:Int)+1).toNat=i+1:=iC
 have q9:(i:Int)+1<=(L.length:Int)+1:=iC
 have q10:=BJ i;have q11:(i:Int)<=(L.length:Int)+1:=iC
 have q13:(0:Int)<=(i:Int)+1:=iC
 have q12:IntKind.i64.wrap ((i:Int)+1)=(i:Int)+1:=by simp only[K8];omega
 have q14:IntKind.i64.wrap ((L.length:Int)+1-(i:Int))=(L.length:Int)+1-(i:Int):=by simp only[K8];omega
 have aE:=A1 z
 go_enter func139,ntmps139
 go_wp2_with (first
  | (at_builtin;refine Lib.wpList_append_run _ rfl (.tmp 34) (.tmp 39) 66 3 rfl _ _ (by rfl) (by rfl) _ _ aE.o ?_)
  | (refine Mw _ rfl (.tmp 43) (.tmp 44) 66 66 rfl _ _ (by rfl) (by rfl) (aF.o _ _) ?_))
 refine La 8 (by kernel_rfl) (by kernel_rfl) ?_;simp only[M1,FW,Fw,DK,Dm]
 repeat still_step
 refine Lb ?_;refine Mw _ rfl (.tmp 50) (.tmp 53) 66 66 rfl _ _ (by rfl) (by rfl) (aD.o _ _ _) ?_;go_wp2;go_ret;exact⟨_,rfl,aT.o⟩
def A1B(w:gC)(E:Option Addr)(cap:Nat)(L:gF Pt)(i h:Nat)(t v:Int)(I:Ch w (.slice E L.length cap) L)(hi:i<=L.length)(z:L.length<1099511627776)(hv:w.heap[h]?=some (.cells #[.int .i64 t,.int .i64 v] 70 (0,0)))(X:(Value.slice E L.length cap).ownBlock≠some h):
 Calls Tryz.prog 139 #[.slice E L.length cap,.int .i64 i,.slice (some ⟨h,0,none⟩) 1 1] w λe w'=>∃lv',e=.returned lv'/\IJ w w' (.slice E L.length cap) (L.take i++(t,v):: L.drop i) lv':=by
 by_cases Y:i=L.length
 ·subst Y;exact A1A w E cap L h t v I z hv
 ·have⟨_,_,he,h1,h2,h3,h4,h5⟩:=B8 I;cases he;obtain⟨g,rfl⟩:=h3 iC;have O:h≠g:=λe=>X (by simp[Value.ownBlock,e]);by_cases d:L.length+1<=cap
  ·exact A1y w g cap L i h t v I iC d z hv O
  ·exact A1z w g cap L i h t v I iC iC z hv
def UG{l:gF Pt}{t:Int}(h:Fa l t=true):∃d:BF l t<l.length,(l[BF l t]'d).1=t:=by
 unfold Fa at h;by_cases d:BF l t<l.length
 ·rw[Dx d]at h;exact⟨d,by simpa using h⟩
 ·rw[Mi iC]at h;cases h
def Uv(l:gF Pt)(t v:Int):Ce l t v=if Fa l t then l.set (BF l t) (t,v) else l.take (BF l t)++(t,v):: l.drop (BF l t):=by
 rw[Pz];show _++_::(if Fa l t then _ else _)=_;by_cases h:Fa l t=true
 ·have⟨hl,_⟩:=UG h;rw[Ai h,Ai h,A4G,Ai hl]
 ·rw[Af h,Af h]
def Uu{l:gF Pt}{t v:Int}(h:l.length<1099511627775):(Ce l t v).length<1099511627776:=by
 have:(Ce l t v).length<=l.length+1:=by
  rw[Uv];split
  ·simp
  ·simp;omega
 omega
def Zy(w:gC)(d z:Nat)(cs:Array gD)(T:Nat)(hT:T≠70)(L:gF Pt)(lv:gD)(t v:Int)(h:HV w d z cs T L lv)(aJ:L.length<1099511627775):
 Ag 102 #[.pointer (some (A9 d z)),.agg #[A0 t,A0 v]] w (Aj (.tuple #[]) λw'=>∃lv',Ic w w' d z cs T lv (Ce L t v) lv'):=by
 have H:=A1 h;obtain⟨O,cap,rfl,h1,h2,h3,h4,h5⟩:=B8 h.Bj;unfold maxLen at h2;have aX:=A1 h3;have aK:=Uv L t v;have aM:=Jx L t;obtain⟨i,aD⟩:=iG (BF L t);obtain⟨hs,aF⟩:=iG (Fa L t);have a0:Hid (hs=true->i<L.length):=λe=>by
  have⟨q,_⟩:=UG (aF.trans e);rw[aD]at q;exact q
 have aW:Hid (∀W,A4 Aa w W->Ag 116 #[.pointer (some (A9 d z)),A0 t] W (Aj (.tuple #[A0 i,.bool hs]) λw'=>A4 Aa W w')):=λW hW=>
  (Nc W d z L _ t (H.o.Am hW).b3).mono (by rintro e w'⟨rfl,h⟩;rw[aD,aF];exact⟨rfl,h⟩)
 rw[aD,aF]at aK;rw[aD]at aM;have aO:=A1 aK;have aR:=Bn w (.cells #[A0 t,A0 v] 70);have aZ:=A1 aR;have hbl:=Bv h.Ae;have aQ:L.length<1099511627776:=h.Cw;have iz:=BJ i;have aL:Hid (∀W,A4 Aa (w.aC #[A0 t,A0 v] 70) W->A4 Aa w W/\W.heap[w.heap.size]?=some (.cells #[A0 t,A0 v] 70 (0,0))/\HV W d z cs T L (.slice O L.length cap)):=λW hW=>by
  have h1:A4 Aa w W:=((A4.C _ w).ai _).tr hW;exact⟨h1,(hW.Al _ iE (λh=>h)).trans aZ.o,H.o.Am h1⟩
 cases hs with
 | true=>
  have aN:=a0.o rfl;obtain⟨g,rfl⟩:=aX.o iC;have i1:(i:Int)<(L.length:Int):=iC
  have aH:Hid (∀W n,A4 Aa (w.aC #[A0 t,A0 v] 70) W->Ic w (((W.drewN n).sC g (i*2) (A0 t)).sC g (i*2+1) (A0 v)) d z cs T (AA g L.length cap) (Ce L t v) (AA g L.length cap)):=by
   intro W n hW;have⟨X,k2,k3⟩:=aL.o W hW;have s1:=((Au k3.Bj (w':=W.drewN n) λ_ _=>rfl).stored (i*2) (A0 t)).1;have s2:=(s1.stored (i*2+1) (A0 v)).1;have e:=Ln L i (t,v) aN;simp only at e;rw[e]at s2;have⟨ce,hce⟩:=B9 k3.Bj (g:=g) rfl;(have aA:d≠g:=λe=>by subst e;rw[k3.Ae]at hce;cases hce;exact hT rfl);have I:Ce L t v=L.set i (t,v):=aO.o;have aE:cs.setIfInBounds z (AA g L.length cap)=cs:=by
    have⟨aG,he⟩:=QT.1 H.o.BX;apply A47;intro k;by_cases hk:z=k
    ·subst hk;simp[aG,he]
    ·rw[WK hk]
   refine⟨⟨?_,by rw[aE];exact H.o.BX,?_,LM H.o.Gf t v,Uu aJ⟩,?_,λg hg=>.inl hg⟩
   ·rw[aE,FB _ _ _ _ aA,FB _ _ _ _ aA];exact k3.Ae
   ·rw[I];unfold Ch;rw[HX];exact s2
   ·exact(((X.a7 n).ah (S':=λk=>k=d\/(AA g L.length cap).oB k) (λ_ _ h=>h.elim)).an (b:=g) (.inr rfl) (i*2) _).an (b:=g) (.inr rfl) (i*2+1) _
  go_enter func102,ntmps102
  go_wp2_with (fail);refine(aW.o _ ((A4.C _ w).ai _)).k ?_;rintro Y X;have aP:=A1 X;have⟨k2,k3,k4⟩:=aL.o Y X;have c0:=k4.b3.CQ;have p0:Y.cell? (A9 w.heap.size 0)=some (A0 t):=by simp[World.cell?,k3]
  have p1:Y.cell? (A9 w.heap.size 1)=some (A0 v):=by simp[World.cell?,k3]
  have⟨o0,o1⟩:=k4.Bj.bt i aN;have z0:=ER k4.Bj (g:=g) rfl (i*2);have z1:=ER k4.Bj (g:=g) rfl (i*2+1);go_wp2;refine La 7 (by kernel_rfl) (by kernel_rfl) ?_;simp only[M1,FW,Fw,DK,Dm]
  repeat still_step
  refine Lb ?_;go_wp2;refine JU (Jv rfl _ _ _) rfl ?_;exact⟨rfl,_,aH.o Y 1 aP.o⟩
 | false=>
  have aV:Hid (∀W,A4 Aa (w.aC #[A0 t,A0 v] 70) W->Ag 139 #[.slice O L.length cap,A0 i,AA W.heap.size 1 1] (W.aC #[A0 t,A0 v] 70) λe w'=>∃lv',e=.returned lv'/\IJ (W.aC #[A0 t,A0 v] 70) w' (.slice O L.length cap) (L.take i++(t,v):: L.drop i) lv'):=λW hW=>by
   have⟨X,k2,k3⟩:=aL.o W hW;exact A1B _ O cap L i W.heap.size t v (Au k3.Bj λg hg=>CW _ _ _ (Aw k3.Bj hg)) aM aQ (Bn W _) (λe=>by have:=Aw k3.Bj e;omega)
  have aH:Hid (∀W E lv',A4 Aa (w.aC #[A0 t,A0 v] 70) W->IJ (W.aC #[A0 t,A0 v] 70) E (.slice O L.length cap) (L.take i++(t,v):: L.drop i) lv'->
   (E.cell? (A9 d z)=some (.slice O L.length cap)/\E.cell? (A9 w.heap.size 0)=some (A0 t)/\E.cell? (A9 w.heap.size 1)=some (A0 v))/\E.frozen? (A9 d z)=false/\Ic w (E.sC d z lv') d z cs T (.slice O L.length cap) (Ce L t v) lv'/\∃a c,lv'=.slice a (L.length+1) c):=by
   intro W E lv' hW hI;have⟨X,k2,k3⟩:=aL.o W hW;have aS:(Value.slice O L.length cap).ownBlock≠some d:=λe=>by
    have⟨c,hh⟩:=B9 k3.Bj e;rw[k3.Ae]at hh;cases hh;exact hT rfl
   have aT:(Value.slice O L.length cap).ownBlock≠some w.heap.size:=λe=>by
    have:=Aw H.o.Bj e;omega
   have aB:E.heap[d]?=some (.cells cs T (0,0)):=(hI.Am.Al d (by have:=Bv k3.Ae;simp;omega) aS).trans ((CW _ _ _ (Bv k3.Ae)).trans k3.Ae);have aI:E.heap[w.heap.size]?=some (.cells #[A0 t,A0 v] 70 (0,0)):=(hI.Am.Al _ (by have:=Bv k2;simp;omega) aT).trans ((CW _ _ _ (Bv k2)).trans k2);(have aU:(L.take i++(t,v):: L.drop i).length=L.length+1:=by simp;omega);(have I:Ce L t v=L.take i++(t,v):: L.drop i:=by have:=aO.o;simpa using this);refine⟨⟨by simp[World.cell?,aB,H.o.BX],by simp[World.cell?,aI],by simp[World.cell?,aI]⟩,by simp[World.frozen?,aB],⟨⟨BQ aB,?_,?_,LM H.o.Gf t v,Uu aJ⟩,?_,?_⟩,?_⟩
   ·have aG:z<cs.size:=(QT.1 H.o.BX).1;simp[aG]
   ·rw[I];refine Au hI.Bj λg hg=>?_;have aA:g≠d:=λe=>by
     have⟨c,hh⟩:=B9 hI.Bj hg;subst e;rw[aB]at hh;cases hh;exact hT rfl
    exact FB _ _ _ _ (λe=>aA (by simpa using e))
   ·have c1:A4 (λk=>k=d\/(Value.slice O L.length cap).oB k) w E:=((X.ai (.cells #[A0 t,A0 v] 70)).ah (λ_ _ h=>h.elim)).AF hI.Am (λx hx _=>.inr hx);exact c1.an (.inl rfl) z _
   ·intro g hg;rcases hI.AB g hg with h|h
    ·exact .inl h
    ·right;have:=X.Ak;simp at h;omega
   ·have⟨a,c,e,_⟩:=B8 hI.Bj;rw[aU]at e;exact⟨a,c,e⟩
  go_enter func102,ntmps102
  go_wp2_with (fail);refine(aW.o _ ((A4.C _ w).ai _)).k ?_;rintro Y X;have aP:=A1 X;have⟨k2,k3,k4⟩:=aL.o Y X;have c0:=k4.b3.CQ;have p0:Y.cell? (A9 w.heap.size 0)=some (A0 t):=by simp[World.cell?,k3]
  have p1:Y.cell? (A9 w.heap.size 1)=some (A0 v):=by simp[World.cell?,k3]
  go_wp2;refine G1 (λw'=>w'.cell? (A9 d z)=some (.slice O L.length cap)/\w'.cell? (A9 w.heap.size 0)=some (A0 t)/\w'.cell? (A9 w.heap.size 1)=some (A0 v)) 9
   (Ba [0,1,2,3,4,5,6,7,8] [7,8]) (by kernel_rfl) (by kernel_rfl) (λ_ _ _ _ _ h=>h) ⟨c0,p0,p1⟩ ?_
  iterate 7 (refine E8 (v:=?_) rfl (by rfl) ?_ ?_;rotate_left;(· (intro w' hS;(try dsimp only at hS);go_simp;try with_reducible rfl));(try simp only[BO]))
  refine Dy rfl (by rfl) (λK hK=>?_);go_simp;refine hK _ _ ?_ (λhS=>?_)
  ·simp[World.cell?_alloc_some,c0,p0,p1]
  (try simp only[BO])
  refine Dy rfl (by rfl) (λK hK=>?_);go_simp;refine(aV.o Y.drew aP.o.aa).mono ?_;rintro e E⟨lv',rfl,hI⟩;obtain⟨f1,f2,f3,a3,d3,rfl⟩:=aH.o Y.drew E lv' aP.o.aa hI;have aY:=A1 f3;refine hK _ _ f1 (λhS=>?_);obtain⟨f1,-,-⟩:=f1
  (try simp only[BO])
  refine FD ?_;simp only[DK,Dm];go_wp2;go_end0;exact⟨rfl,_,aY.o⟩
def Gh:gF Nat->gF Nat->Nat->Nat
 | x::xs,y::ys,f=>if x=f then y else Gh xs ys f
 | _,_,_=>0
def Ll:∀(xs ys:gF Nat) (i f m:Nat),xs.Nodup->xs[i]?=some f->ys[i]?=some m->Gh xs ys f=m
 | [],_,i,_,_,_,h,_=>by simp at h
 | x::xs,[],i,_,_,_,_,h=>by simp at h
 | x::xs,y::ys,0,f,m,_,h1,h2=>by
  simp only[List.getElem?_cons_zero,Option.some.injEq]at h1 h2;subst h1;subst h2;simp[Gh]
 | x::xs,y::ys,i+1,f,m,hn,h1,h2=>by
  simp only[A4T]at h1 h2;have d:x≠f:=λe=>by subst e;exact(K3.1 hn).1 (Mf h1)
  simp only[Gh,d,Cf];exact Ll xs ys i f m (K3.1 hn).2 h1 h2
def ren(r:Nat->Nat)(es:gF AP):gF AP:=es.map λe=>(e.1,r e.2)
def DS.ren(r:Nat->Nat)(D:DS):DS:={A6:=Go.Proofs.YtodcnkbblippnaaGreatDoor.ren r D.A6,AG:=Go.Proofs.YtodcnkbblippnaaGreatDoor.ren r D.AG,As:=D.As.map (Go.Proofs.YtodcnkbblippnaaGreatDoor.ren r),n:=D.n}
def Ren.eq{L M:gF Nat}{es d:gF AP}(h:Ren L M es d)(I:L.Nodup):d=ren (Gh L M) es:=by
 apply List.ext_getElem
 ·simp[ren,h.1]
 ·intro k z h2;have E:k<es.length:=by rw[<-h.1];exact z
  have⟨q1,i,q2,q3⟩:=h.2 k E z;simp only[ren,List.getElem_map];rw[Ll L M i _ _ I q2 q3];exact Prod.ext q1 rfl
def CS.cF{N:Nat}{w:gC}{X L:Nat}{F:Nat->FC}{oe I:gF Nat}{O Y:gD}{E:Nat->gD}(h:CS N w X L F oe I O Y E){k:Nat}(d:CB X L O Y I E k\/k∈oe):∃c e,w.heap[k]?=some (.cells c e (0,0))/\e≠125/\e≠120/\e≠95:=by
 have hl:=h.ca;rcases d with (rfl|rfl|d|d|d|⟨m,hm,d⟩)|d
 ·exact⟨_,_,h.ob,iF⟩
 ·exact⟨_,_,h.mb,iF⟩
 ·have⟨c,hc⟩:=B9 h.ol d;exact⟨c,_,hc,iF⟩
 ·have⟨c,hc⟩:=B9 h.ml d;exact⟨c,_,hc,iF⟩
 ·obtain⟨i,z,rfl⟩:=DD d;exact⟨_,_,(h.BN i z iC).1,iF⟩
 ·obtain⟨i,z,rfl⟩:=DD hm;have⟨c,hc⟩:=B9 (h.BN i z iC).2 d;exact⟨c,_,hc,iF⟩
 ·have⟨c,hc⟩:=(h.IU k d).2;exact⟨c,_,hc,iF⟩
def CS.cf{N:Nat}{w:gC}{L z:Nat}{F:Nat->FC}{oe X:gF Nat}{E I:gD}{O:Nat->gD}(h:CS N w L z F oe X E I O){k e:Nat}{c:Array gD}(Y:w.heap[k]?=some (.cells c e (0,0)))(he:e=125\/e=120\/e=95):¬CF L z E I k:=by
 intro hc;have d:CB L z E I X O k:=by
  rcases hc with h|h|h|h
  ·exact .inl h
  ·exact .inr (.inl h)
  ·exact .inr (.inr (.inl h))
  ·exact .inr (.inr (.inr (.inl h)))
 have⟨c',e',h1,h2,h3,h4⟩:=h.cF (.inl d);rw[Y]at h1;cases h1;rcases he with e|e|e<;>simp_all
def Js(l:gF (gF AP)):Nat:=(l.map List.length).sum
def XW(l:gF (gF AP))(i:Nat)(h:i<l.length):Js (l.take (i+1))=Js (l.take i)+(l[i]'h).length:=by
 unfold Js;rw[Ds h,EM,List.sum_append];simp
structure CR (N:Nat) (w wr:gC) (b2 bo bm:Nat) (D:DS) (F:Nat->FC) (i:Nat) (L M:gF Nat) (vo vm v1 v2 vc:gD) (VB:Nat->gD) (vals:gF gD) (e1 e2:gF AP) (cs:gF (gF AP)):Prop where
 Hf:CS N wr bo bm F L M vo vm VB
 Ae:AM wr b2 v1 v2 vc D.n
 d1:Df wr v1 e1
 d2:Df wr v2 e2
 r1:Ren L M D.A6 e1
 r2:Ren L M D.AG e2
 ch:wr.ownsRow 0 120 1 vc i vals
 cl:cs.length=i
 Dj:∀k (h:k<cs.length),∃v,vals[k]?=some v/\Df wr v (cs[k]'h)
 Qe:∀k (h:k<cs.length) (h':k<D.As.length),Ren L M (D.As[k]' h') (cs[k]'h)
 Iz:L.length<=D.A6.length+D.AG.length+Js (D.As.take i)
 U7:∀f∈L,D.Aq f
 Am:A4 (λ_=>False) w wr
 nb:N<=b2
 Tr:∀g,v1.ownBlock=some g->N<=g
 Tq:∀g,v2.ownBlock=some g->N<=g
 P6:∀g,vc.ownBlock=some g->N<=g
 Tp:∀v∈vals,∀g,v.ownBlock=some g->N<=g
def CR.aZ{w wr aX w2 w3:gC}{b2 bo bm:Nat}{D:DS}{F:Nat->FC}{i nq:Nat}{L M aV aT:gF Nat}{vo vm v1 v2 vc aL aO v:gD}{aW aM:Nat->gD}{O:gF gD}{e1 e2 aA:gF AP}{cs:gF (gF AP)}{a3:Option Addr}{c3:Nat}(h:CR w.heap.size w wr b2 bo bm D F i L M vo vm v1 v2 vc aW O e1 e2 cs)(hi:i<D.As.length){es:gF AP}(aU:D.As[i]'hi=es)(hW:A4 (λ_=>False) wr aX)(I:EV w.heap.size aX bo bm F L M vo vm aW es es.length es.length v w2 aV aT aL aO aM aA)(hA:App ((w2.drewN nq).alloc (.cells #[v] 120)) w3 120 1 vc (.slice a3 (i+1) c3) (i+1) (O++[v])):
 CR w.heap.size w (w3.setCell ⟨b2,2,none⟩ (.slice a3 (i+1) c3)) b2 bo bm D F (i+1) aV aT aL aO v1 v2 (.slice a3 (i+1) c3) aM (O++[v]) e1 e2 (cs++[aA]):=by
 subst aU;have aD:=h.Hf.Am hW (λ_ _ h=>h) (λ_ _ h=>h);have aI:∀(k:Nat) (c:Array gD) (e:Nat),wr.heap[k]?=some (Obj.cells c e (0,0))->(e=125\/e=120\/e=95)->w2.heap[k]?=some (Obj.cells c e (0,0)):=λk c e d he=>by
  have Y:=(hW.Al k (Bv d) (λh=>h)).trans d;exact(I.Am.Al k (Bv Y) (aD.cf Y he)).trans Y
 have aB:∀(k:Nat) (c:Array gD) (e:Nat),w2.heap[k]?=some (Obj.cells c e (0,0))->e≠120->w3.heap[k]?=some (Obj.cells c e (0,0)):=λk c e d he=>by
  have Y:((w2.drewN nq).alloc (.cells #[v] 120)).heap[k]?=some (Obj.cells c e (0,0)):=(CW _ _ _ (by simpa using Bv d)).trans d;refine(hA.C7.block k (Bv Y) (λe2=>?_)).trans Y;have⟨c',hh⟩:=B9 h.ch e2.symm;have:=aI _ _ _ hh (.inr (.inl rfl));rw[d]at this;cases this;exact he rfl
 have aN:AM w3 b2 v1 v2 vc D.n:=aB _ _ _ (aI _ _ _ h.Ae (.inr (.inr rfl))) iF;have aP:=aN.s2 (.slice a3 (i+1) c3);have aF:A4 (One b2) w3 (w3.setCell ⟨b2,2,none⟩ (.slice a3 (i+1) c3)):=(A4.C (One b2) w3).an rfl 2 _;generalize hW4:w3.setCell ⟨b2,2,none⟩ (.slice a3 (i+1) c3)=W4 at aP aF ⊢;have E:∀(k:Nat) (c:Array gD) (e:Nat),w3.heap[k]?=some (Obj.cells c e (0,0))->e≠95->W4.heap[k]?=some (Obj.cells c e (0,0)):=λk c e d he=>
  (aF.Al k (Bv d) (λe2=>BR d aN he e2)).trans d
 have kE:∀(k:Nat) (c:Array gD),wr.heap[k]?=some (Obj.cells c 125 (0,0))->W4.heap[k]?=wr.heap[k]?:=λk c d=>
  (E _ _ _ (aB _ _ _ (aI _ _ _ d (.inl rfl)) iF) iF).trans d.symm
 have aS:∀(k:Nat) (c:Array gD),w2.heap[k]?=some (Obj.cells c 125 (0,0))->W4.heap[k]?=w2.heap[k]?:=λk c d=>
  (E _ _ _ (aB _ _ _ d iF) iF).trans d.symm
 have aE:∀ {v:gD} {es:gF AP},Df wr v es->Df W4 v es:=λhe=>Au he λg X=>by
  have⟨c,hh⟩:=B9 he X;exact kE _ _ hh
 have aR:Df W4 v aA:=Au I.DT λg X=>by
  have⟨c,hh⟩:=B9 I.DT X;exact aS _ _ hh
 have aG:∀ {es aK:gF AP},Ren L M es aK->Ren aV aT es aK:=λhr=>by
  have⟨o,q1,_⟩:=I.H9;have⟨o2,q2,_⟩:=I.Kr;rw[q1,q2];exact hr.ah
 have hsz1:=h.Am.Ak;have hsz2:=hW.Ak;have aH:O.length=i:=by simpa using h.ch.1
 refine⟨?_,aP,aE h.d1,aE h.d2,aG h.r1,aG h.r2,?_,by simp[h.cl],?_,?_,?_,?_,?_,h.nb,h.Tr,h.Tq,?_,?_⟩
 ·refine I.cs.aK (λk d=>?_) (λk d=>?_)
  ·have⟨c,e,Y,h2,h3,h4⟩:=I.cs.cF (.inl d);exact(E _ _ _ (aB _ _ _ Y h3) h4).trans Y.symm
  ·have⟨c,e,Y,h2,h3,h4⟩:=I.cs.cF (.inr d);exact(E _ _ _ (aB _ _ _ Y h3) h4).trans Y.symm
 ·exact Au hA.AB λg X=>by
   have⟨c,hh⟩:=B9 hA.AB X;exact(E _ _ _ hh iF).trans hh.symm
 ·intro k d;by_cases z:k<cs.length
  ·have⟨u,q1,q2⟩:=h.Dj k z;refine⟨u,?_,?_⟩
   ·rw[Jl (by rw[aH,<-h.cl];exact z)];exact q1
   ·simp only[Fy z];exact aE q2
  ·(obtain rfl:k=cs.length:=by simp at d;omega);refine⟨v,?_,?_⟩
   ·rw[Il (by rw[aH,h.cl];omega),aH,h.cl];simp
   ·simpa using aR
 ·intro k d aQ;by_cases z:k<cs.length
  ·simp only[Fy z];exact aG (h.Qe k z aQ)
  ·(obtain rfl:k=cs.length:=by simp at d;omega);have aJ:=h.cl;have:=I.ren;rw[C5]at this;simp only[aJ];(have e1:(cs++[aA])[i]'(by simp[aJ])=aA:=by simp[<-aJ]);rw[e1];exact this
 ·have⟨o,q1,q2,_⟩:=I.H9;have:=h.Iz;rw[XW _ _ hi,q1,B3];omega
 ·intro f hf;have⟨o,q1,_,q3⟩:=I.H9;rw[q1]at hf;rcases AX.1 hf with hf|hf
  ·exact h.U7 f hf
  ·exact .inr (.inr ⟨_,BT hi,q3 f hf⟩)
 ·have c1:=h.Am.tr hW
  have c2:=c1.AF I.Am (λx hx z=>by
   rcases hx with rfl|rfl|hx|hx
   ·have:=aD.IX;omega
   ·have:=aD.JE;omega
   ·have:=aD.JA x hx;omega
   ·have:=aD.JB x hx;omega)
  have c3:=((c2.a7 nq).ai (.cells #[v] 120)).C7 hA.C7 (λk d z=>by have:=h.P6 k d;omega);exact c3.AF aF (λx hx z=>by have:=h.nb;have:x=b2:=hx;omega)
 ·intro g X;rcases hA.BX with e|e
  ·rw[e]at X;exact h.P6 g X
  ·rw[e]at X;cases X;have:=I.Am.Ak;simp;omega
 ·intro u hu g X;rcases AX.1 hu with hu|hu
  ·exact h.Tp u hu g X
  ·simp at hu;subst hu;have:=I.AW g X;omega
def ZT{w W:gC}{b bo bm:Nat}{D:DS}{F:Nat->FC}{vd vs vc vo vm vl:gD}{aB:gF gD}{aG I:Nat->gD}{L M:gF Nat}{es:gF AP}(hr:Ca w b D F vd vs vc aB aG)(hc:A4 (λ_=>False) w W)(aD:CS w.heap.size W bo bm F L M vo vm I)(X:Df w vl es)(d:∀f,Dr f es->D.Aq f)(hF:∀f,D.Aq f->(F f).1.length<=1099511627776)(hn:es.length<1099511627776/\L.length<1099511627776):
 Calls Tryz.prog 87 #[vl,.pointer (some ⟨bo,0,none⟩),.pointer (some ⟨bm,0,none⟩)] W λe w'=>∃v aF aE O z aA Y,e=.returned v/\EV w.heap.size W bo bm F L M vo vm I es es.length es.length v w' aF aE O z aA Y:=by
 have hb:∀k,k<w.heap.size->W.heap[k]?=w.heap[k]?:=λk hk=>hc.Al k hk (λh=>h);refine(ZU w.heap.size W bo bm F L M vo vm I aD es vl (Au X λg E=>hb g (Aw X E)) (λg E=>Aw X E) hn λf hf=>?_).mono ?_
 ·have⟨h1,h2⟩:=hr.BN f (d f hf);refine⟨Bv h1,hF f (d f hf),aG f,(hb f (Bv h1)).trans h1,Au h2 λg E=>hb g (Aw h2 E),λg E=>Aw h2 E⟩
 ·rintro e w'⟨v,rfl,aF,aE,O,z,aA,Y,h⟩;exact⟨v,aF,aE,O,z,aA,Y,rfl,h⟩
def EV.cP{w W w':gC}{bo bm:Nat}{F:Nat->FC}{oe Y aB aA:gF Nat}{vo vm v I E:gD}{X O:Nat->gD}{es L:gF AP}{i cn:Nat}(h:EV w.heap.size W bo bm F oe Y vo vm X es i cn v w' aB aA I E O L)(hc:A4 (λ_=>False) w W)(d:CS w.heap.size W bo bm F oe Y vo vm X):A4 (λ_=>False) w w':=
 hc.AF h.Am (λx z hlt=>by
  rcases z with rfl|rfl|z|z
  ·have:=d.IX;omega
  ·have:=d.JE;omega
  ·have:=d.JA x z;omega
  ·have:=d.JB x z;omega)
def PF{r:Nat->Nat}{es:gF AP}{E:Nat}(h:Dr E (ren r es)):∃f,Dr f es/\r f=E:=by
 obtain⟨e,I,rfl⟩:=h;obtain⟨z,d,rfl⟩:=Cn.1 I;exact⟨z.2,⟨z,d,rfl⟩,rfl⟩
def DS.de{r:Nat->Nat}{D:DS}{z:Nat}(h:(D.ren r).Aq z):∃f,D.Aq f/\r f=z:=by
 rcases h with h|h|⟨c,E,h⟩
 ·have⟨f,h1,h2⟩:=PF h;exact⟨f,.inl h1,h2⟩
 ·have⟨f,h1,h2⟩:=PF h;exact⟨f,.inr (.inl h1),h2⟩
 ·obtain⟨c0,d,rfl⟩:=Cn.1 E;have⟨f,h1,h2⟩:=PF h;exact⟨f,.inr (.inr ⟨c0,d,h1⟩),h2⟩
def Ren.Aq{L M:gF Nat}{es d:gF AP}(h:Ren L M es d){f:Nat}(E:Dr f es):∃(i:Nat) (m:Nat),L[i]?=some f/\M[i]?=some m:=by
 obtain⟨e,I,rfl⟩:=E;obtain⟨k,z,rfl⟩:=DD I;have⟨_,i,h1,h2⟩:=h.2 k z (by rw[h.1];exact z);exact⟨i,_,h1,h2⟩
def CR.fA{w wr:gC}{b2 bo bm:Nat}{D:DS}{F:Nat->FC}{L M:gF Nat}{vo vm v1 v2 vc:gD}{aE:Nat->gD}{X:gF gD}{e1 e2:gF AP}{cs:gF (gF AP)}(h:CR w.heap.size w wr b2 bo bm D F D.As.length L M vo vm v1 v2 vc aE X e1 e2 cs):
 ∃r aF aD,Dk wr b2 (D.ren r) aF aD/\(∀k,aD k->w.heap.size<=k/\k<wr.heap.size)/\A4 (λ_=>False) w wr/\(∀f,D.Aq f->aF (r f)=F f)/\∀f d,D.Aq f->D.Aq d->r f=r d->f=d:=by
 have q1:=h.r1.eq h.Hf.IV;have q2:=h.r2.eq h.Hf.IV;have q3:cs=D.As.map (ren (Gh L M)):=by
  apply List.ext_getElem
  ·simp[h.cl]
  ·intro k h1 h2;rw[List.getElem_map];exact(h.Qe k h1 (by simpa using h2)).eq h.Hf.IV
 have aA:∀f,D.Aq f->∃(i:Nat) (m:Nat),L[i]?=some f/\M[i]?=some m:=by
  rintro f (I|I|⟨c,hc,I⟩)
  ·exact h.r1.Aq I
  ·exact h.r2.Aq I
  ·obtain⟨k,hk,rfl⟩:=DD hc;exact(h.Qe k (by rw[h.cl];exact hk) hk).Aq I
 have E:∀f,D.Aq f->Gh M L (Gh L M f)=f:=λf I=>by
  have⟨i,m,h1,h2⟩:=aA f I;rw[Ll L M i f m h.Hf.IV h1 h2,Ll M L i m f h.Hf.PX h2 h1]
 have Y:∀d,(D.ren (Gh L M)).Aq d->∃i,∃hi:i<M.length,∃aB:i<L.length,M[i]'hi=d/\L[i]'aB=Gh M L d:=λd z=>by
  obtain⟨f,h1,rfl⟩:=DS.de z;have⟨i,m,h2,h3⟩:=aA f h1;rw[E f h1,Ll L M i f m h.Hf.IV h2 h3];have⟨k1,k2⟩:=Ik.1 h2;have⟨k3,k4⟩:=Ik.1 h3;exact⟨i,k3,k1,k4,k2⟩
 have O:∀d,(D.ren (Gh L M)).Aq d->d∈M:=λd z=>by
  have⟨i,k1,_,k2,_⟩:=Y d z;rw[<-k2];exact BT k1
 have hv:Ca wr b2 (D.ren (Gh L M)) (λm=>F (Gh M L m)) v1 v2 vc X aE:=by
  refine⟨h.Ae,?_,?_,?_,?_,?_,?_⟩
  ·have:=h.d1;rw[q1]at this;exact this
  ·have:=h.d2;rw[q2]at this;exact this
  ·have:=h.ch;simpa[DS.ren] using this
  ·intro i hi;(have aB:i<cs.length:=by rw[h.cl];simpa[DS.ren] using hi);have⟨v,k1,k2⟩:=h.Dj i aB;refine⟨v,k1,?_⟩;subst q3;exact k2
  ·intro d z;have⟨i,k1,k2,k3,k4⟩:=Y d z;have:=h.Hf.BN i k1 k2;rw[k3,k4]at this;exact this
  ·exact λf d g I z=>h.Hf.GL f d g (O f I) (O d z)
 refine⟨Gh L M,λm=>F (Gh M L m),Cj b2 (D.ren (Gh L M)) v1 v2 vc X aE,⟨_,_,_,_,_,hv,λ_ h=>h⟩,λk hk=>⟨?_,hv.lt hk⟩,h.Am,λf I=>by simp only[E f I],λf d I z e=>by rw[<-E f I,<-E d z,e]⟩;cases hk using Cj.bL with
 | Ae=>exact h.nb
 | dir e=>exact h.Tr _ e
 | Ad e=>exact h.Tq _ e
 | Am e=>exact h.P6 _ e
 | Dj hm e=>exact h.Tp _ hm _ e
 | BN I=>exact h.Hf.Pa _ (O _ I)
 | byt I e=>exact h.Hf.Pb _ (O _ I) _ e
def A2Z(w:gC)(n:DN)(F:Nat->FC)(h:Nat->gD)(W:gC)(d:W=(((w.alloc (.cells #[.slice none 0 0,.slice none 0 0,.slice none 0 0,.int .i64 n.Av,.int .i64 n.Bc,.int .i64 n.CZ,.int .i64 n.E7,.int .i64 n.BG,.int .i64 n.Bm,.int .i64 n.fulls,.bool n.Bh] 95)).alloc (.cells #[.slice none 0 0] 138)).alloc (.cells #[.slice none 0 0] 138)).drew):
 CS w.heap.size W (w.heap.size+1) (w.heap.size+2) F [] [] (.slice none 0 0) (.slice none 0 0) h/\AM W w.heap.size (.slice none 0 0) (.slice none 0 0) (.slice none 0 0) n/\A4 (λ_=>False) w W:=by
 subst d;refine⟨⟨?_,?_,iC,Cq _ _ _ _,Cq _ _ _ _,by simp[Value.ownBlock],iE,iE,iE,iE,iE,iC,iC,by simp[Value.ownBlock],by simp[Value.ownBlock],iE,iE⟩,?_,(((A4.C _ w).ai _).ai _).ai _ |>.aa⟩
 ·show ((((w.alloc _).alloc _).alloc _).heap[w.heap.size+1]?)=_;rw[CW _ _ _ iE];have:=Bn (w.alloc (.cells #[.slice none 0 0,.slice none 0 0,.slice none 0 0,.int .i64 n.Av,.int .i64 n.Bc,.int .i64 n.CZ,.int .i64 n.E7,.int .i64 n.BG,.int .i64 n.Bm,.int .i64 n.fulls,.bool n.Bh] 95)) (.cells #[.slice none 0 0] 138);rw[NA]at this;exact this
 ·show ((((w.alloc _).alloc _).alloc _).heap[w.heap.size+2]?)=_;have:=Bn ((w.alloc (.cells #[.slice none 0 0,.slice none 0 0,.slice none 0 0,.int .i64 n.Av,.int .i64 n.Bc,.int .i64 n.CZ,.int .i64 n.E7,.int .i64 n.BG,.int .i64 n.Bm,.int .i64 n.fulls,.bool n.Bh] 95)).alloc (.cells #[.slice none 0 0] 138)) (.cells #[.slice none 0 0] 138);rw[NA,NA]at this;exact this
 ·show ((((w.alloc _).alloc _).alloc _).heap[w.heap.size]?)=_;rw[CW _ _ _ (by simp;omega),CW _ _ _ iE];exact Bn _ _
def A2Y{w W w2 z:gC}{bo bm:Nat}{D:DS}{F:Nat->FC}{vo vm v1 v2 aI aD:gD}{aF aG aK:Nat->gD}{L M aM aL:gF Nat}{e1 e2:gF AP}(aH:CS w.heap.size W bo bm F [] [] (.slice none 0 0) (.slice none 0 0) aF)(hb:AM W w.heap.size (.slice none 0 0) (.slice none 0 0) (.slice none 0 0) D.n)(hc:A4 (λ_=>False) w W)(E:EV w.heap.size W bo bm F [] [] (.slice none 0 0) (.slice none 0 0) aF D.A6 D.A6.length D.A6.length v1 w2 L M vo vm aG e1)(d:EV w.heap.size w2 bo bm F L M vo vm aG D.AG D.AG.length D.AG.length v2 z aM aL aI aD aK e2):
 AM z w.heap.size (.slice none 0 0) (.slice none 0 0) (.slice none 0 0) D.n/\CR w.heap.size w ((z.setCell ⟨w.heap.size,0,none⟩ v1).setCell ⟨w.heap.size,1,none⟩ v2) w.heap.size bo bm D F 0 aM aL aI aD v1 v2 (.slice none 0 0) aK [] e1 e2 []:=by
 have X:=E.cs;have c2:=E.cP hc aH;have c3:=d.cP c2 X;have Y:AM w2 w.heap.size (.slice none 0 0) (.slice none 0 0) (.slice none 0 0) D.n:=(E.Am.Al _ hb.lt (aH.cf hb (.inr (.inr rfl)))).trans hb;have aA:AM z w.heap.size (.slice none 0 0) (.slice none 0 0) (.slice none 0 0) D.n:=(d.Am.Al _ Y.lt (X.cf Y (.inr (.inr rfl)))).trans Y;refine⟨aA,?_⟩;have aJ:=(aA.s0 v1).s1 v2;have aB:A4 (One w.heap.size) z ((z.setCell ⟨w.heap.size,0,none⟩ v1).setCell ⟨w.heap.size,1,none⟩ v2):=((A4.C (One w.heap.size) z).an rfl 0 _).an rfl 1 _;generalize hW4:(z.setCell ⟨w.heap.size,0,none⟩ v1).setCell ⟨w.heap.size,1,none⟩ v2=W4 at aJ aB ⊢;have h:∀(k:Nat) (c:Array gD) (e:Nat),z.heap[k]?=some (Obj.cells c e (0,0))->e≠95->W4.heap[k]?=z.heap[k]?:=λk c e hk he=>
  aB.Al k (Bv hk) (λe2=>BR hk aA he e2)
 have d1:=Au E.DT λg I=>by
  have⟨c,hh⟩:=B9 E.DT I;exact d.Am.Al g (Bv hh) (X.cf hh (.inl rfl))
 have sz:=hc.Ak;have sz2:=E.Am.Ak;have aE:Ren aM aL D.A6 e1:=by
  have⟨o,q1,_⟩:=d.H9;have⟨o2,q2,_⟩:=d.Kr;have:=E.ren;rw[C5]at this;rw[q1,q2];exact this.ah
 refine⟨?_,aJ,?_,?_,aE,?_,Cq _ _ _ _,rfl,iE,iE,?_,?_,?_,An _,?_,?_,by simp[Value.ownBlock],iE⟩
 ·refine d.cs.aK (λk hk=>?_) (λk hk=>?_)
  ·have⟨c,e,q1,q2,q3,q4⟩:=d.cs.cF (.inl hk);exact h _ _ _ q1 q4
  ·have⟨c,e,q1,q2,q3,q4⟩:=d.cs.cF (.inr hk);exact h _ _ _ q1 q4
 ·exact Au d1 λg I=>by
   have⟨c,hh⟩:=B9 d1 I;exact h _ _ _ hh iF
 ·exact Au d.DT λg I=>by
   have⟨c,hh⟩:=B9 d.DT I;exact h _ _ _ hh iF
 ·have:=d.ren;rw[C5]at this;exact this
 ·have⟨o,q1,q2,_⟩:=E.H9;have⟨o2,q3,q4,_⟩:=d.H9;rw[q3,q1];simp;omega
 ·intro f O;have⟨o,q1,_,q2⟩:=E.H9;have⟨o2,q3,_,q4⟩:=d.H9;rw[q3,q1]at O;rcases AX.1 O with O|O
  ·simp at O;exact .inl (q2 f O)
  ·exact .inr (.inl (q4 f O))
 ·exact c3.AF aB (λx hx hlt=>by have:x=w.heap.size:=hx;omega)
 ·intro g I;have:=E.AW g I;omega
 ·intro g I;have:=d.AW g I;omega
end
section
open Go.RowKit
def Jw(r:Nat->Nat)(es:gF AP):(ren r es).length=es.length:=by simp[ren]
def Sl(r:Nat->Nat):ren r []=[]:=rfl
def MK(r:Nat->Nat)(a b:gF AP):ren r (a++b)=ren r a++ren r b:=by simp[ren]
def Z8(r:Nat->Nat)(es:gF AP)(k:Nat):(ren r es).take k=ren r (es.take k):=by simp[ren,List.map_take]
def Za(r:Nat->Nat)(es:gF AP)(k:Nat):(ren r es).drop k=ren r (es.drop k):=by simp[ren,List.map_drop]
def OG(r:Nat->Nat)(es:gF AP)(d:gE):Bb (ren r es) d=Bb es d:=by
 induction es with
 | nil=>rfl
 | cons e t ih=>simp only[ren,H4,Bb]at ih ⊢;rw[ih]
def Kp(r:Nat->Nat)(es:gF AP)(d:gE):lookup (ren r es) d=(lookup es d).map r:=by
 induction es with
 | nil=>rfl
 | cons e t ih=>
  simp only[ren,H4,lookup]at ih ⊢;by_cases h:e.1=d
  ·simp[h]
  ·simp[h,ih]
def Sm(r:Nat->Nat)(es:gF AP)(k:Nat):(ren r es)[k]?=(es[k]?).map λe=>(e.1,r e.2):=by simp[ren]
def Z9(r:Nat->Nat)(es:gF AP)(i:Nat)(d:gE)(k:Nat):DA (ren r es) i d k=ren r (DA es i d k):=by
 induction k with
 | zero=>rfl
 | succ k ih=>
  simp only[DA,ih,Sm,MK];cases es[k]? with
  | none=>simp[Sl]
  | some e=>
   simp only[ID];by_cases h:k≠i/\e.1≠d
   ·rw[Ai h,Ai h];rfl
   ·rw[Af h,Af h,Sl]
def Zb(r:Nat->Nat)(es:gF AP)(k:Nat):Fc (ren r es) k=Fc es k:=by
 induction k with
 | zero=>rfl
 | succ k ih=>
  simp only[Fc,ih,Sm];cases es[k]?<;>rfl
def Sn(r:Nat->Nat)(es:gF AP):dList (ren r es)=dList es:=by unfold dList;rw[Jw,Zb]
def Oe(r:Nat->Nat)(G F:Nat->FC)(es:gF AP)(h:∀f,Dr f es->G (r f)=F f):AV G (ren r es)=AV F es:=by
 induction es with
 | nil=>rfl
 | cons e t ih=>
  have I:=h e.2 ⟨e,iE,rfl⟩;have d:=ih λf z=>h f (by obtain⟨x,L,E⟩:=z;exact⟨x,BC _ L,E⟩);simp only[ren,H4,AV]at d ⊢;rw[I,d]
def TZ{es:gF AP}{d:gE}{f:Nat}(h:lookup es d=some f):Dr f es:=by
 induction es with
 | nil=>cases h
 | cons e t ih=>
  simp only[lookup]at h;by_cases z:e.1=d
  ·simp[z]at h;exact⟨e,iE,h⟩
  ·simp[z]at h;have⟨x,hx,hh⟩:=ih h;exact⟨x,BC _ hx,hh⟩
def ren_congr{r d:Nat->Nat}{es:gF AP}(h:∀f,Dr f es->d f=r f):ren d es=ren r es:=by
 unfold ren;exact NR λe z=>by rw[h e.2 ⟨e,z,rfl⟩]
def DS.ren_congr{r z:Nat->Nat}{D:DS}(h:∀f,D.Aq f->z f=r f):D.ren z=D.ren r:=by
 unfold DS.ren;rw[Go.Proofs.YtodcnkbblippnaaGreatDoor.ren_congr λf d=>h f (.inl d),Go.Proofs.YtodcnkbblippnaaGreatDoor.ren_congr (es:=D.AG) λf d=>h f (.inr (.inl d))]
 congr 1
 exact NR λc E=>Go.Proofs.YtodcnkbblippnaaGreatDoor.ren_congr λf d=>h f (.inr (.inr ⟨c,E,d⟩))
def AU(w:gC)(b:Nat)(D:DS)(F:Nat->FC)(Ft:Nat->Prop):Prop:=
 ∃r G,Dk w b (D.ren r) G Ft/\(∀f,D.Aq f->G (r f)=F f)/\∀f d,D.Aq f->D.Aq d->r f=r d->f=d
def EC(w:gC)(Ft:Nat->Prop)(w':gC)(b:Nat)(D':DS)(F':Nat->FC):Prop:=
 A4 Ft w w'/\∃d,AU w' b D' F' d/\(∀k,d k->k<w'.heap.size)/\∀k,d k->Ft k\/w.heap.size<=k
def AU.aK{w w':gC}{b:Nat}{D:DS}{F:Nat->FC}{Ft:Nat->Prop}(h:AU w b D F Ft)(I:Gz Ft w w'):AU w' b D F Ft:=by
 obtain⟨r,G,z,d,E⟩:=h;exact⟨r,G,z.aK I,d,E⟩
def AU.Ae{w:gC}{b:Nat}{D:DS}{F:Nat->FC}{Ft:Nat->Prop}(h:AU w b D F Ft):∃E z d,AM w b E z d D.n:=by
 obtain⟨r,G,⟨E,z,d,vals,VB,I,_⟩,_⟩:=h;exact⟨E,z,d,I.Ae⟩
def AU.of{w:gC}{b:Nat}{D:DS}{F:Nat->FC}{Ft:Nat->Prop}(h:Dk w b D F Ft):AU w b D F Ft:=by
 refine⟨id,F,?_,λ_ _=>rfl,λ_ _ _ _ h=>h⟩;have:D.ren id=D:=by
  have e:∀es,Go.Proofs.YtodcnkbblippnaaGreatDoor.ren id es=es:=λes=>by simp[Go.Proofs.YtodcnkbblippnaaGreatDoor.ren]
  have d:=funext e;unfold DS.ren;rw[d];simp
 rw[this];exact h
def DF.bl{w w':gC}{Ft:Nat->Prop}{b:Nat}{I D':DS}{E F':Nat->FC}{r:Nat->Nat}(h:DF w Ft w' b I E)(O:I=D'.ren r)(hG:∀f,D'.Aq f->E (r f)=F' f)(hi:∀f z,D'.Aq f->D'.Aq z->r f=r z->f=z):EC w Ft w' b D' F':=by
 obtain⟨Y,d,L,h3,X⟩:=h;subst O;exact⟨Y,d,⟨r,E,L,hG,hi⟩,h3,X⟩
def KG(D:DS)(r:Nat->Nat):(D.ren r).A6.length=D.A6.length/\(D.ren r).AG.length=D.AG.length/\(D.ren r).As.length=D.As.length/\Js (D.ren r).As=Js D.As:=by
 refine⟨Jw _ _,Jw _ _,by simp[DS.ren],?_⟩;unfold Js DS.ren;rw[Wk]
 congr 1
 exact NR λc _=>Jw r c
section
variable{w:gC}{b:Nat}{D:DS}{F:Nat->FC}{Ft:Nat->Prop}
def Tz(room:Int)(w:gC):
 Ag 21 #[A0 room] w (Aj (A5 w.heap.size) λw'=>AU w' w.heap.size ⟨[],[],[],GO room⟩ F (One w.heap.size)/\A4 Aa w w'/\w'.heap.size=w.heap.size+1):=by
 refine(A0x room w).mono ?_;rintro e w'⟨O,z,X,L⟩;refine⟨O,AU.of ⟨_,_,_,[],λ_=>.slice none 0 0,⟨z,Cq _ _ _ _,Cq _ _ _ _,Cq _ _ _ _,by intro i Y;simp at Y,?_,?_⟩,?_⟩,L,X⟩
 ·rintro f (⟨e,d,_⟩|⟨e,d,_⟩|⟨c,h,_⟩)
  ·cases d
  ·cases d
  ·cases h
 ·intro f f' g _ _ E;simp[Value.ownBlock]at E
 ·intro k I;cases I using Cj.bL with
  | Ae=>rfl
  | dir e=>simp[Value.ownBlock]at e
  | Ad e=>simp[Value.ownBlock]at e
  | Am e=>simp[Value.ownBlock]at e
  | Dj hm e=>cases hm
  | BN hf=>rcases hf with⟨e,d,_⟩|⟨e,d,_⟩|⟨c,h,_⟩<;>contradiction
  | byt hf e=>simp[Value.ownBlock]at e
def XE(h:AU w b D F Ft):
 Ag 86 #[A5 b] w (Aj (A0 (Ef D).1) λw'=>EC w Ft w' b (Ef D).2 F):=by
 obtain⟨r,G,h1,X,h3⟩:=h;refine(XD w b _ G Ft h1).mono ?_;rintro e w'⟨q1,q2⟩;have Y:(Ef (D.ren r)).2=(Ef D).2.ren r:=by
  unfold Ef;by_cases I:(bg D.n).2.1=0
  ·have E:(bg (D.ren r).n).2.1=0:=I;rw[Ai I,Ai E];rfl
  ·have E:¬(bg (D.ren r).n).2.1=0:=I;rw[Af I,Af E];rfl
 have z:∀f,(Ef D).2.Aq f->D.Aq f:=by
  intro f d;unfold Ef at d;simp only at d;split at d
  ·rcases d with d|d|⟨c,hc,_⟩
   ·exact .inl d
   ·exact .inl d
   ·cases hc
  ·exact d
 exact⟨q1,q2.bl Y (λf d=>X f (z f d)) λf O d L=>h3 f O (z f d) (z O L)⟩
def Gu{d:gE}{f:Nat}(h:lookup D.A6 d=some f):D.Aq f:=.inl (TZ h)
def Rr(h:AU w b D F Ft)(d:gE):
 Ag 85 #[A5 b,.string d] w (Aj (A0 (CP D F d).1) λw'=>EC w Ft w' b (CP D F d).2.1 (CP D F d).2.2):=by
 obtain⟨r,G,h1,L,h3⟩:=h;refine(XA w b _ G Ft h1 d).mono ?_;rintro e w'⟨X,q2⟩;have Y:lookup (D.ren r).A6 d=(lookup D.A6 d).map r:=Kp r D.A6 d;cases hx:lookup D.A6 d with
 | none=>
  rw[hx]at Y;have e1:CP (D.ren r) G d=(8,D.ren r,G):=by unfold CP;rw[Y];rfl
  have e2:CP D F d=(8,D,F):=by unfold CP;rw[hx]
  rw[e1]at X q2;rw[e2];exact⟨X,q2.bl rfl L h3⟩
 | some f=>
  rw[hx]at Y;have e1:CP (D.ren r) G d=((bg D.n).2.1,{D with n:=(bg D.n).2.2}.ren r,if (bg D.n).2.1=0 then upd G (r f) ((G (r f)).1,(G (r f)).1.length) else G):=by unfold CP;rw[Y];rfl
  have e2:CP D F d=((bg D.n).2.1,{D with n:=(bg D.n).2.2},if (bg D.n).2.1=0 then upd F f ((F f).1,(F f).1.length) else F):=by unfold CP;rw[hx]
  rw[e1]at X q2;rw[e2];refine⟨X,q2.bl rfl (λz E=>?_) h3⟩;have hf:=Gu hx;show (if (bg D.n).2.1=0 then upd G (r f) ((G (r f)).1,(G (r f)).1.length) else G) (r z)=(if (bg D.n).2.1=0 then upd F f ((F f).1,(F f).1.length) else F) z;by_cases O:(bg D.n).2.1=0
  ·rw[Ai O,Ai O];unfold upd;by_cases I:z=f
   ·subst I;simp[L z hf]
   ·have:r z≠r f:=λe=>I (h3 z f E hf e);simp only[this,I,Cf];exact L z E
  ·rw[Af O,Af O];exact L z E
def Oh{r:Nat->Nat}{G:Nat->FC}(I:∀f,D.Aq f->G (r f)=F f)(L:∀f d,D.Aq f->D.Aq d->r f=r d->f=d){f:Nat}(E:D.Aq f)(c:FC):∀d,D.Aq d->upd G (r f) c (r d)=upd F f c d:=λd z=>by
 unfold upd;by_cases h:d=f
 ·subst h;simp
 ·have:r d≠r f:=λe=>h (L d f z E e);simp only[this,h,Cf];exact I d z
def V4{r:Nat->Nat}{G:Nat->FC}(L:∀f,D.Aq f->G (r f)=F f)(O:∀f d,D.Aq f->D.Aq d->r f=r d->f=d){f:Nat}(I:D.Aq f)(data:gE)(n0 e:Int):
 (BP (D.ren r) G (r f) data n0 e).1=(BP D F f data n0 e).1/\(BP (D.ren r) G (r f) data n0 e).2.1=(BP D F f data n0 e).2.1.ren r/\(∀d,D.Aq d->(BP (D.ren r) G (r f) data n0 e).2.2 (r d)=(BP D F f data n0 e).2.2 d)/\(∀d,(BP D F f data n0 e).2.1.Aq d↔D.Aq d):=by
 have E:Gw (D.ren r) G=Gw D F:=by
  unfold Gw;have:AV G (D.ren r).A6=AV F D.A6:=Oe r G F D.A6 λf I=>L f (.inl I);rw[this];rfl
 unfold BP;rw[E];by_cases X:n0>Gw D F
 ·simp only[X,Cs];rw[L f I];refine⟨by first|trivial|rfl,?_,λd z=>Oh L O I _ d z,λd=>?_⟩
  ·by_cases h:e=0
   ·rw[Ai h,Ai h];rfl
   ·rw[Af h,Af h]
  ·by_cases h:e=0
   ·rw[Ai h];exact QM
   ·rw[Af h]
 ·simp only[X,Cf];rw[L f I];exact⟨by first|trivial|rfl,by first|trivial|rfl,λd z=>Oh L O I _ d z,λ_=>by first|trivial|exact QM⟩
def A31(h:AU w b D F Ft)(d data:gE)(hroom : -4611686018427387904<=D.n.Av/\D.n.Av<=9223372036854775807)(hu:AV F D.A6<=4611686018427387904)(hp:0<=D.n.BG/\D.n.BG<=9223372036854775807)(hl:∀f,lookup D.A6 d=some f->(F f).1.length+data.size<=70368744177664):
 Ag 84 #[A5 b,.string d,.string data] w (Aj (A0 (BA D F d data).1) λw'=>EC w Ft w' b (BA D F d data).2.1 (BA D F d data).2.2):=by
 obtain⟨r,G,h1,h2,h3⟩:=h;have E:lookup (D.ren r).A6 d=(lookup D.A6 d).map r:=Kp r D.A6 d
 refine(A30 w b _ G Ft h1 d data hroom (by
  have:AV G (D.ren r).A6=AV F D.A6:=Oe r G F D.A6 λf Y=>h2 f (.inl Y)
  rw[this];exact hu) hp (λf Y=>by
   rw[E]at Y;cases hx:lookup D.A6 d with
   | none=>rw[hx]at Y;cases Y
   | some f0=>
    rw[hx]at Y;simp at Y;subst Y
    rw[h2 f0 (Gu hx)];exact hl f0 hx)).mono ?_
 rintro e w'⟨X,q2⟩;cases hx:lookup D.A6 d with
 | none=>
  rw[hx]at E;have e1:BA (D.ren r) G d data=(8,D.ren r,G):=by unfold BA;rw[E];rfl
  have e2:BA D F d data=(8,D,F):=by unfold BA;rw[hx]
  rw[e1]at X q2;rw[e2];exact⟨X,q2.bl rfl h2 h3⟩
 | some f=>
  rw[hx]at E;have Y:=Gu hx;have aA:=Y;by_cases c1:(bg D.n).1=true
  ·have e1:BA (D.ren r) G d data=BP ({D with n:=(bg D.n).2.2}.ren r) G (r f) data data.size (bg D.n).2.1:=by
    unfold BA;rw[E];show (if (bg D.n).1=true then _ else _)=_;rw[Ai c1];rfl
   have e2:BA D F d data=BP {D with n:=(bg D.n).2.2} F f data data.size (bg D.n).2.1:=by
    unfold BA;rw[hx];show (if (bg D.n).1=true then _ else _)=_;rw[Ai c1]
   rw[e1]at X q2;rw[e2];have⟨k1,k2,k3,k4⟩:=V4 (D:={D with n:=(bg D.n).2.2}) (r:=r) (G:=G) (F:=F) h2 h3 aA data data.size (bg D.n).2.1;rw[k1]at X;exact⟨X,q2.bl k2 (λI z=>k3 I ((k4 I).1 z)) λI O z L=>h3 I O ((k4 I).1 z) ((k4 O).1 L)⟩
  ·by_cases c2:(bg D.n).2.2.Bh=false/\0<data.size
   ·have e1:BA (D.ren r) G d data=BP ({D with n:=(bg D.n).2.2}.ren r) G (r f) data ((bg D.n).2.2.BG % data.size) (bg D.n).2.1:=by
     unfold BA;rw[E];show (if (bg D.n).1=true then _ else if (bg D.n).2.2.Bh=false/\0<data.size then _ else _)=_;rw[Af c1,Ai c2];rfl
    have e2:BA D F d data=BP {D with n:=(bg D.n).2.2} F f data ((bg D.n).2.2.BG % data.size) (bg D.n).2.1:=by
     unfold BA;rw[hx];show (if (bg D.n).1=true then _ else if (bg D.n).2.2.Bh=false/\0<data.size then _ else _)=_;rw[Af c1,Ai c2]
    rw[e1]at X q2;rw[e2];have⟨k1,k2,k3,k4⟩:=V4 (D:={D with n:=(bg D.n).2.2}) (r:=r) (G:=G) (F:=F) h2 h3 aA data ((bg D.n).2.2.BG % data.size) (bg D.n).2.1;rw[k1]at X;exact⟨X,q2.bl k2 (λI z=>k3 I ((k4 I).1 z)) λI O z L=>h3 I O ((k4 I).1 z) ((k4 O).1 L)⟩
   ·have e1:BA (D.ren r) G d data=((bg D.n).2.1,{D with n:=(bg D.n).2.2}.ren r,G):=by
     unfold BA;rw[E];show (if (bg D.n).1=true then _ else if (bg D.n).2.2.Bh=false/\0<data.size then _ else _)=_;rw[Af c1,Af c2];rfl
    have e2:BA D F d data=((bg D.n).2.1,{D with n:=(bg D.n).2.2},F):=by
     unfold BA;rw[hx];show (if (bg D.n).1=true then _ else if (bg D.n).2.2.Bh=false/\0<data.size then _ else _)=_;rw[Af c1,Af c2]
    rw[e1]at X q2;rw[e2];exact⟨X,q2.bl rfl h2 h3⟩
def KC{es:gF AP}{n:DN}(z:∀f,Dr f es->D.Aq f)(f:Nat)(d:({D with A6:=es,As:=D.As++[es],n:=n}:DS).Aq f):D.Aq f:=by
 rcases d with d|d|⟨c,h,d⟩
 ·exact z f d
 ·exact .inr (.inl d)
 ·rcases AX.1 h with h|h
  ·exact .inr (.inr ⟨c,h,d⟩)
  ·simp at h;subst h;exact z f d
def Oj(r:Nat->Nat)(es:gF AP)(n:DN):({D.ren r with A6:=ren r es,As:=(D.ren r).As++[ren r es],n:=n}:DS)=({D with A6:=es,As:=D.As++[es],n:=n}:DS).ren r:=by
 simp[DS.ren]
def Zf(h:AU w b D F Ft)(d:gE)(hs:D.A6.length<1099511627776/\D.As.length<1099511627776):
 Ag 193 #[A5 b,.string d] w (Aj (A0 (DB D d).1) λw'=>EC w Ft w' b (DB D d).2 F):=by
 obtain⟨r,G,h1,h2,h3⟩:=h;have⟨l1,l2,l3,l4⟩:=KG D r;refine(Ze w b _ G Ft h1 d (by rw[l1,l3];exact hs)).mono ?_;rintro e w'⟨L,O⟩;have I:Bb (D.ren r).A6 d=Bb D.A6 d:=OG r D.A6 d;by_cases c1:Bb D.A6 d<0
 ·have e1:DB (D.ren r) d=(8,D.ren r):=by unfold DB;rw[I,Ai c1]
  have X:DB D d=(8,D):=by unfold DB;rw[Ai c1]
  rw[e1]at L O;rw[X];exact⟨L,O.bl rfl h2 h3⟩
 ·by_cases c2:(bg D.n).1=true
  ·have X:DB D d=((bg D.n).2.1,{D with A6:=D.A6.take (Bb D.A6 d).toNat++D.A6.drop ((Bb D.A6 d).toNat+1),As:=D.As++[D.A6.take (Bb D.A6 d).toNat++D.A6.drop ((Bb D.A6 d).toNat+1)],n:=(bg D.n).2.2}):=by
    unfold DB;rw[Af c1];simp only[c2,Cs]
   have e1:DB (D.ren r) d=((bg D.n).2.1,{D with A6:=D.A6.take (Bb D.A6 d).toNat++D.A6.drop ((Bb D.A6 d).toNat+1),As:=D.As++[D.A6.take (Bb D.A6 d).toNat++D.A6.drop ((Bb D.A6 d).toNat+1)],n:=(bg D.n).2.2}.ren r):=by
    have z:(bg (D.ren r).n).1=true:=c2;unfold DB;rw[I,Af c1];simp only[z,Cs];rw[<-Oj,MK,<-Z8,<-Za];rfl
   rw[e1]at L O;rw[X];have E:∀f,Dr f (D.A6.take (Bb D.A6 d).toNat++D.A6.drop ((Bb D.A6 d).toNat+1))->D.Aq f:=by
    rintro f⟨x,Y,he⟩;rcases AX.1 Y with Y|Y
    ·exact .inl ⟨x,HD Y,he⟩
    ·exact .inl ⟨x,KU Y,he⟩
   exact⟨L,O.bl rfl (λf hf=>h2 f (KC E f hf)) λf f' hf aA=>h3 f f' (KC E f hf) (KC E f' aA)⟩
  ·(have X:DB D d=((bg D.n).2.1,{D with n:=(bg D.n).2.2}):=by unfold DB;rw[Af c1];simp only[c2];rfl);have e1:DB (D.ren r) d=((bg D.n).2.1,{D with n:=(bg D.n).2.2}.ren r):=by
    have z:¬(bg (D.ren r).n).1=true:=c2;unfold DB;rw[I,Af c1];simp only[z];rfl
   rw[e1]at L O;rw[X];exact⟨L,O.bl rfl h2 h3⟩
def Z6(h:AU w b D F Ft)(oe d:gE)(hs:D.A6.length<1099511627776/\D.As.length<1099511627776):
 Ag 242 #[A5 b,.string oe,.string d] w (Aj (A0 (Da D oe d).1) λw'=>EC w Ft w' b (Da D oe d).2 F):=by
 obtain⟨r,G,h1,h2,h3⟩:=h;have⟨l1,l2,l3,l4⟩:=KG D r;refine(Z5 w b _ G Ft h1 oe d (by rw[l1,l3];exact hs)).mono ?_;rintro e w'⟨I,L⟩;have E:lookup (D.ren r).A6 oe=(lookup D.A6 oe).map r:=Kp r D.A6 oe;cases hx:lookup D.A6 oe with
 | none=>
  rw[hx]at E;have e1:Da (D.ren r) oe d=(8,D.ren r):=by unfold Da;rw[E];rfl
  have X:Da D oe d=(8,D):=by unfold Da;rw[hx]
  rw[e1]at I L;rw[X];exact⟨I,L.bl rfl h2 h3⟩
 | some f=>
  rw[hx]at E;by_cases c1:d=ByteArray.empty
  ·(have e1:Da (D.ren r) oe d=(8,D.ren r):=by unfold Da;rw[E];simp only[ID];rw[Ai c1]);(have X:Da D oe d=(8,D):=by unfold Da;rw[hx];simp only;rw[Ai c1]);rw[e1]at I L;rw[X];exact⟨I,L.bl rfl h2 h3⟩
  ·by_cases c2:(bg D.n).1=true
   ·have X:Da D oe d=((bg D.n).2.1,{D with A6:=DA D.A6 (Bb D.A6 oe).toNat d D.A6.length++[(d,f)],As:=D.As++[DA D.A6 (Bb D.A6 oe).toNat d D.A6.length++[(d,f)]],n:=(bg D.n).2.2}):=by
     unfold Da;rw[hx];simp only;rw[Af c1];simp only[c2,Cs]
    have e1:Da (D.ren r) oe d=((bg D.n).2.1,{D with A6:=DA D.A6 (Bb D.A6 oe).toNat d D.A6.length++[(d,f)],As:=D.As++[DA D.A6 (Bb D.A6 oe).toNat d D.A6.length++[(d,f)]],n:=(bg D.n).2.2}.ren r):=by
     have O:(bg (D.ren r).n).1=true:=c2;have aB:Bb (D.ren r).A6 oe=Bb D.A6 oe:=OG r D.A6 oe;unfold Da;rw[E];simp only[ID];rw[Af c1];simp only[O,Cs];rw[<-Oj,MK,<-Z9,aB,l1];rfl
    rw[e1]at I L;rw[X];have Y:∀f',Dr f' (DA D.A6 (Bb D.A6 oe).toNat d D.A6.length++[(d,f)])->D.Aq f':=by
     rintro f'⟨x,z,he⟩;rcases AX.1 z with z | z
     ·exact .inl ⟨x,ML _ _ _ _ x z,he⟩
     ·simp at z;subst z;cases he;exact Gu hx
    exact⟨I,L.bl rfl (λf hf=>h2 f (KC Y f hf)) λf f' hf aA=>h3 f f' (KC Y f hf) (KC Y f' aA)⟩
   ·(have X:Da D oe d=((bg D.n).2.1,{D with n:=(bg D.n).2.2}):=by unfold Da;rw[hx];simp only;rw[Af c1];simp only[c2];rfl);have e1:Da (D.ren r) oe d=((bg D.n).2.1,{D with n:=(bg D.n).2.2}.ren r):=by
     have O:¬(bg (D.ren r).n).1=true:=c2;unfold Da;rw[E];simp only[ID];rw[Af c1];simp only[O];rfl
    rw[e1]at I L;rw[X];exact⟨I,L.bl rfl h2 h3⟩
def A2L(h:AU w b D F Ft)(d:gE)(k:Nat)(hk:¬D.Aq k)(hs:D.A6.length<1099511627776/\D.As.length<1099511627776):
 Calls Tryz.prog 83 #[.pointer (some ⟨b,0,none⟩),.string d] w λe w'=>e=.returned (.int .i64 (CY D d k).1)/\EC w Ft w' b (CY D d k).2 (upd F k ([],0)):=by
 obtain⟨r,G,h1,h2,h3⟩:=h;have⟨l1,l2,l3,l4⟩:=KG D r;have X:∀f,D.Aq f->r f<w.heap.size:=by
  obtain⟨vd,vs,vc,vals,VB,hr,_⟩:=h1;intro f z;refine hr.lt (.BN ?_);rcases z with⟨x,I,rfl⟩|⟨x,I,rfl⟩|⟨c,O,x,I,rfl⟩
  ·exact .inl ⟨_,Ej I,rfl⟩
  ·exact .inr (.inl ⟨_,Ej I,rfl⟩)
  ·exact .inr (.inr ⟨_,Ej O,_,Ej I,rfl⟩)
 refine(A2K w b _ G Ft h1 d (by rw[l1,l3];exact hs)).mono ?_;rintro e w'⟨f0,q0,q1,q2⟩;have aB:Bb (D.ren r).A6 d=Bb D.A6 d:=OG r D.A6 d;have hG:∀f,D.Aq f->upd G f0 ([],0) (r f)=upd F k ([],0) f:=λf z=>by
  unfold upd;have n1:r f≠f0:=by have:=X f z;omega
  have n2:f≠k:=λe=>hk (e ▸ z);simp only[n1,n2,Cf];exact h2 f z
 by_cases c1:d=ByteArray.empty\/Bb D.A6 d≥0
 ·have e1:CY (D.ren r) d f0=(8,D.ren r):=by unfold CY;rw[aB,Ai c1]
  have e2:CY D d k=(8,D):=by unfold CY;rw[Ai c1]
  rw[e1]at q1 q2;rw[e2];exact⟨q1,q2.bl rfl hG h3⟩
 ·by_cases c2:(bg D.n).1=true
  ·have e2:CY D d k=((bg D.n).2.1,{D with A6:=D.A6++[(d,k)],As:=D.As++[D.A6++[(d,k)]],n:=(bg D.n).2.2}):=by
    unfold CY;rw[Af c1];simp only[c2,Cs]
   have E:∀f,D.Aq f->(λf=>if f=k then f0 else r f) f=r f:=λf z=>by
    have n2:f≠k:=λe=>hk (e ▸ z);simp only[n2,Cf]
   have aD:D.ren (λf=>if f=k then f0 else r f)=D.ren r:=DS.ren_congr E;have e1:CY (D.ren r) d f0=((bg D.n).2.1,{D with A6:=D.A6++[(d,k)],As:=D.As++[D.A6++[(d,k)]],n:=(bg D.n).2.2}.ren (λf=>if f=k then f0 else r f)):=by
    have aA:(bg (D.ren r).n).1=true:=c2;unfold CY;rw[aB,Af c1];simp only[aA,Cs];rw[<-Oj,aD,MK];have e3:ren (λf=>if f=k then f0 else r f) D.A6=(D.ren r).A6:=by
     have:=Ex DS.A6 aD;exact this
    rw[e3];(have e4:ren (λf=>if f=k then f0 else r f) [(d,k)]=[(d,f0)]:=by simp[ren]);rw[e4];rfl
   rw[e1]at q1 q2;rw[e2];have L:∀f,({D with A6:=D.A6++[(d,k)],As:=D.As++[D.A6++[(d,k)]],n:=(bg D.n).2.2}:DS).Aq f->D.Aq f\/f=k:=by
    have key:∀f,Dr f (D.A6++[(d,k)])->D.Aq f\/f=k:=by
     rintro f⟨x,I,rfl⟩;rcases AX.1 I with I|I
     ·exact .inl (.inl ⟨x,I,rfl⟩)
     ·simp at I;subst I;exact .inr rfl
    rintro f (z|z|⟨c,O,z⟩)
    ·exact key f z
    ·exact .inl (.inr (.inl z))
    ·rcases AX.1 O with O|O
     ·exact .inl (.inr (.inr ⟨c,O,z⟩))
     ·simp at O;subst O;exact key f z
   refine⟨q1,q2.bl rfl (λf z=>?_) λf f' z aE e=>?_⟩
   ·rcases L f z with h|h
    ·simp only[E f h];exact hG f h
    ·subst h;simp[upd]
   ·rcases L f z with h|h<;>rcases L f' aE with Y | Y
    ·simp only[E f h,E f' Y]at e;exact h3 f f' h Y e
    ·subst Y;simp only[E f h,Cs]at e;have:=X f h;omega
    ·subst h;simp only[E f' Y,Cs]at e;have:=X f' Y;omega
    ·rw[h,Y]
  ·(have e2:CY D d k=((bg D.n).2.1,{D with n:=(bg D.n).2.2}):=by unfold CY;rw[Af c1];simp only[c2];rfl);have e1:CY (D.ren r) d f0=((bg D.n).2.1,{D with n:=(bg D.n).2.2}.ren r):=by
    have aA:¬(bg (D.ren r).n).1=true:=c2;unfold CY;rw[aB,Af c1];simp only[aA];rfl
   rw[e1]at q1 q2;rw[e2];exact⟨q1,q2.bl rfl hG h3⟩
def Zo(h:AU w b D F Ft)(d:gE)(p n:Int):
 Ag 82 #[A5 b,.string d,A0 p,A0 n] w (Aj (.tuple #[.string ⟨(FP D F d p n).1.toArray⟩,A0 (FP D F d p n).2]) λw'=>w=w'):=by
 obtain⟨r,G,L,I,h3⟩:=h;have z:lookup (D.ren r).A6 d=(lookup D.A6 d).map r:=Kp r D.A6 d;have E:FP (D.ren r) G d p n=FP D F d p n:=by
  unfold FP;rw[z];cases hx:lookup D.A6 d with
  | none=>rfl
  | some f=>simp only[ID,I f (Gu hx)]
 have:=Zn w b _ G Ft L d p n
 rwa [E]at this
def Ot(h:AU w b D F Ft)(d:gE):
 Ag 81 #[A5 b,.string d] w (Aj (.tuple #[A0 (CH D F d).1,A0 (CH D F d).2]) λw'=>w=w'):=by
 obtain⟨r,G,h1,O,h3⟩:=h;have E:lookup (D.ren r).A6 d=(lookup D.A6 d).map r:=Kp r D.A6 d;have L:CH (D.ren r) G d=CH D F d:=by
  unfold CH;rw[E];cases hx:lookup D.A6 d with
  | none=>rfl
  | some f=>simp only[ID,O f (Gu hx)]
 obtain⟨vd,X,I,z,aA,Y,_⟩:=h1;have:=Yn w b _ G vd X I z aA Y d
 rwa [L]at this
def A0Z(h:AU w b D F Ft)(E:D.A6.length<1099511627776):
 Ag 76 #[A5 b] w λe w'=>∃v,e=.returned v/\w'.ownsRow 0 9 1 v D.A6.length (Gd (dList D.A6))/\A4 Aa w w'/\(∀g,v.ownBlock=some g->w.heap.size<=g):=by
 obtain⟨r,G,z,h2,h3⟩:=h;have⟨l1,l2,l3,l4⟩:=KG D r;have:=Pk w b _ G Ft z (by rw[l1];exact E);have d:dList (D.ren r).A6=dList D.A6:=Sn r D.A6
 rwa [l1,d]at this
def Xh(h:AU w b D F Ft)(hu:AV F D.A6<=4611686018427387904):
 Ag 90 #[A5 b] w (Aj (A0 (AV F D.A6)) λw'=>A4 Aa w w'):=by
 obtain⟨r,G,I,E,h3⟩:=h;have d:AV G (D.ren r).A6=AV F D.A6:=Oe r G F D.A6 λf z=>E f (.inl z);have:=Kc w b _ G Ft I (by rw[d];exact hu)
 rwa [d]at this
def UX(h:AU w b D F Ft):Ag 36 #[A5 b] w (Aj (.bool D.n.Bh) λw'=>w=w'):=by
 have⟨vd,vs,vc,h⟩:=h.Ae;exact A2y w b vd vs vc D.n h
def OK(h:AU w b D F Ft):Ag 50 #[A5 b] w (Aj (A0 D.n.Bm) λw'=>w=w'):=by
 have⟨vd,vs,vc,h⟩:=h.Ae;exact Zi w b vd vs vc D.n h
def UJ(h:AU w b D F Ft):Ag 88 #[A5 b] w (Aj (A0 D.n.fulls) λw'=>w=w'):=by
 have⟨vd,vs,vc,h⟩:=h.Ae;exact A15 w b vd vs vc D.n h
def V5(h:AU w b D F Ft)(c:Int):Ag 35 #[A5 b,A0 c] w (Aj (.tuple #[]) λw'=>EC w Ft w' b {D with n:={D.n with CZ:=if c>0 then wrap64 (D.n.Bc+c) else 0}} F):=by
 obtain⟨r,G,⟨vd,I,E,vals,VB,d,z⟩,L,X⟩:=h;refine(A2G w b vd I E D.n c d.Ae).mono ?_;rintro e w'⟨O,q2,Y⟩;exact⟨O,(d.bT z q2 Y).bl (D':={D with n:={D.n with CZ:=if c>0 then wrap64 (D.n.Bc+c) else 0}}) rfl L X⟩
def UP(h:AU w b D F Ft)(c p:Int):Ag 78 #[A5 b,A0 c,A0 p] w (Aj (.tuple #[]) λw'=>EC w Ft w' b {D with n:=EU D.n c p} F):=by
 obtain⟨r,G,⟨Y,E,vc,vals,VB,d,O⟩,z,X⟩:=h;refine(A2h w b Y E vc D.n c p d.Ae).mono ?_;rintro e w'⟨I,q2,L⟩;exact⟨I,(d.bT O q2 L).bl (D':={D with n:=EU D.n c p}) rfl z X⟩
def V9(r:Nat->Nat)(D:DS)(da:Int):Gx (D.ren r) da=ren r (Gx D da):=by
 unfold Gx;have:(D.ren r).As.length=D.As.length:=by simp[DS.ren]
 rw[this];cases G3 da D.As.length with
 | zero=>rfl
 | succ k=>
  show (D.As.map (ren r)).getD k []=ren r (D.As.getD k []);rw[HY,HY,QB];cases D.As[k]?<;>rfl
def Q8(D:DS)(da:Int)(f:Nat)(h:Dr f (Gx D da)):D.Aq f:=by
 unfold Gx at h;split at h
 ·exact .inr (.inl h)
 ·rename_i k _;rw[HY]at h;cases hx:D.As[k]? with
  | none=>rw[hx]at h;obtain⟨e,d,_⟩:=h;cases d
  | some c=>rw[hx]at h;exact .inr (.inr ⟨c,Mf hx,h⟩)
def A2U{r:Nat->Nat}{G:Nat->FC}(L:∀f,D.Aq f->G (r f)=F f)(O:∀f E,D.Aq f->D.Aq E->r f=r E->f=E){es:gF AP}(z:∀f,Dr f es->D.Aq f)(I:gF Int)(names:gF gE)(k:Nat):
 ∀f,D.Aq f->Eg (ren r es) I names G k (r f)=Eg es I names F k f:=by
 induction k with
 | zero=>exact L
 | succ k ih=>
  intro f h;simp only[Eg];cases names[k]? with
  | none=>exact ih f h
  | some nd=>
   simp only[Kp];cases hx:lookup es nd with
   | none=>exact ih f h
   | some f0=>
    have d:=z f0 (TZ hx);simp only[ID,ih f0 d];exact Oh ih O d _ f h
def A2S(h:AU w b D F Ft)(da:Int)(X:gD)(I:gF Int)(ht:Mo w X I)(aB:∀ad n c x,n≠0->X=.slice ad n c->ad=some x->¬Ft x.block)(O:D.A6.length<1099511627776/\D.AG.length<1099511627776/\D.As.length<1099511627776/\∀c∈D.As,c.length<1099511627776)(hdi : -9223372036854775808<=da/\da<=9223372036854775807)(aA:∀t∈I,-9223372036854775808<=t/\t<=9223372036854775807)(hF:∀f,D.Aq f->0<=(F f).2/\(F f).2<=(F f).1.length/\(F f).1.length<=1099511627776):
 Ag 32 #[A5 b,A0 da,X] w (Aj (.tuple #[]) λw'=>EC w Ft w' b (Fm D F da I).1 (Fm D F da I).2):=by
 obtain⟨r,G,h1,h2,h3⟩:=h;have⟨l1,l2,l3,l4⟩:=KG D r
 refine(A2R w b _ G Ft h1 da X I ht aB (by
  rw[l1,l2,l3];refine⟨O.1,O.2.1,O.2.2.1,λc hc=>?_⟩;obtain⟨c0,Y,rfl⟩:=Cn.1 hc
  rw[Jw];exact O.2.2.2 c0 Y) hdi aA (λf' z=>by
  obtain⟨f,L,rfl⟩:=DS.de z
  rw[h2 f L];exact hF f L)).mono ?_
 rintro e w'⟨L,q2⟩;have d:∀f,(Fm D F da I).1.Aq f->D.Aq f:=by
  rintro f (E|E|⟨c,hc,_⟩)
  ·exact Q8 D da f E
  ·exact Q8 D da f E
  ·cases hc
 refine⟨L,q2.bl (r:=r) ?_ (λf E=>?_) λf f' E z=>h3 f f' (d f E) (d f' z)⟩
 ·simp only[Fm,V9];rfl
 ·simp only[Fm,V9,Sn,Jw];exact A2U h2 h3 (Q8 D da) I _ _ f (d f E)
end
def Up(N:Nat):Nat->Prop:=λk=>N<=k
def AU.aa{w:gC}{b:Nat}{D:DS}{F:Nat->FC}{Ft:Nat->Prop}(h:AU w b D F Ft):AU w.drew b D F Ft:=h.aK λ_ _=>rfl
def EC.eb{w w':gC}{b:Nat}{D:DS}{F:Nat->FC}{Ft:Nat->Prop}(h:EC w.drew Ft w' b D F):EC w Ft w' b D F:=by
 obtain⟨d,z⟩:=h;exact⟨⟨d.os,d.DZ,d.E3,d.Ak,d.Al⟩,z⟩
section
variable{w:gC}{b fb:Nat}{D:DS}{F:Nat->FC}{Ft:Nat->Prop}{T:TypeId}{nd:gE}{s:Nat}
def V6(d:Bi w fb T (A5 b) nd s)(h:AU w b D F Ft)(k:Nat)(z:¬D.Aq k)(L:D.A6.length<1099511627776/\D.As.length<1099511627776):
 Ag 240 #[A5 fb] w (Aj (A0 (CY D nd k).1) λw'=>EC w Ft w' b (CY D nd k).2 (upd F k ([],0))):=by
 have c0:=d.c0;have c1:=d.c1;have CR:=A1 (A2L h.aa nd k z L);generalize hq:(CY D nd k).1=q at CR ⊢
 go_enter func240,ntmps240
 go_wp2;refine G1 (λw'=>A7 w' fb 0 (A5 b)/\A7 w' fb 1 (.string nd)) 8
  (Ba [0,1,2,3,4,5,6,7] []) (by kernel_rfl) (by kernel_rfl) (λ_ _ _ _ _ h=>h) ⟨c0,c1⟩ ?_
 iterate 8 (refine E8 (v:=?_) rfl (by rfl) ?_ ?_;rotate_left;(· (intro w' E;(try dsimp only at E);go_simp;try with_reducible rfl));(try simp only[BO]))
 refine FD ?_;simp only[DK,Dm];go_wp2_with (go_at_call 83;refine CR.k ?_;rintro w' O;have I:=A1 O);go_ret;exact⟨rfl,I.o.eb⟩
def XB(d:Bi w fb T (A5 b) nd s)(h:AU w b D F Ft):
 Ag 164 #[A5 fb] w (Aj (A0 (CP D F nd).1) λw'=>EC w Ft w' b (CP D F nd).2.1 (CP D F nd).2.2):=by
 have c0:=d.c0;have c1:=d.c1;have CR:=A1 (Rr h.aa nd);generalize hq:(CP D F nd).1=q at CR ⊢
 go_enter func164,ntmps164
 go_wp2;refine G1 (λw'=>A7 w' fb 0 (A5 b)/\A7 w' fb 1 (.string nd)) 8
  (Ba [0,1,2,3,4,5,6,7] []) (by kernel_rfl) (by kernel_rfl) (λ_ _ _ _ _ h=>h) ⟨c0,c1⟩ ?_
 iterate 8 (refine E8 (v:=?_) rfl (by rfl) ?_ ?_;rotate_left;(· (intro w' z;(try dsimp only at z);go_simp;try with_reducible rfl));(try simp only[BO]))
 refine FD ?_;simp only[DK,Dm];go_wp2_with (go_at_call 85;refine CR.k ?_;rintro w' I;have E:=A1 I);go_ret;exact⟨rfl,E.o.eb⟩
end
def Eh(D:DS)(F:Nat->FC)(nd:gE):gF UInt8×Int:=match lookup D.A6 nd with
 | some f=>((F f).1,0)
 | none=>([],8)
def AU.av{w w':gC}{b:Nat}{D:DS}{F:Nat->FC}{Ft:Nat->Prop}(h:AU w b D F Ft)(d:∀k,Ft k->k<w.heap.size)(E:A4 Aa w w'):AU w' b D F Ft:=h.aK λk z=>E.Al k (d k z) (λh=>h)
section
variable{w:gC}{b fb:Nat}{D:DS}{F:Nat->FC}{Ft:Nat->Prop}{T:TypeId}{nd:gE}{s:Nat}
def VN(hf:Bi w fb T (A5 b) nd s)(h:AU w b D F Ft):
 Ag 166 #[A5 fb] w (Aj (.tuple #[.string ⟨(Eh D F nd).1.toArray⟩,A0 (Eh D F nd).2]) λw'=>A4 Aa w w'):=by
 obtain⟨d,aA⟩:=iG ((CH D F nd).1);obtain⟨ze,I⟩:=iG ((CH D F nd).2);have aR:∀w',AU w' b D F Ft->Ag 81 #[A5 b,.string nd] w' λe X=>e=.returned (.tuple #[A0 d,A0 ze])/\w'=X:=λw' h=>by
  rw[<-aA,<-I];exact Ot h nd
 have aQ:∀w',AU w' b D F Ft->Ag 82 #[A5 b,.string nd,A0 0,A0 d] w' λe X=>e=.returned (.tuple #[.string ⟨(FP D F nd 0 d).1.toArray⟩,A0 (FP D F nd 0 d).2])/\w'=X:=λw' h=>Zo h nd 0 d;have aG:=A1 aR;have aP:=A1 aQ;have aB:(ze=0/\Hid ((FP D F nd 0 d).1=(Eh D F nd).1/\(FP D F nd 0 d).2=(Eh D F nd).2))\/(ze=8/\Hid ((Eh D F nd).1=[]/\(Eh D F nd).2=8)):=by
  unfold CH at aA I;unfold FP Eh Hid;cases hx:lookup D.A6 nd with
  | none=>rw[hx]at I;exact .inr ⟨I.symm,rfl,rfl⟩
  | some f=>
   rw[hx]at I aA;subst aA;refine .inl ⟨I.symm,?_⟩;dsimp only
   rw[Af iC];simp
 obtain⟨rs,aI⟩:=iG ((Eh D F nd).1);obtain⟨re,aN⟩:=iG ((Eh D F nd).2);rw[aI,aN]at aB ⊢
 go_enter func166,ntmps166
 go_wp2;refine I0 13 (λy=>{tmps:=#[A5 fb,undef,.string ⟨#[]⟩,A0 0,y 12,undef,y 9,y 0,y 1,y 2,y 3,y 4,y 5,y 6,y 7,y 8,y 10,y 11,undef,undef,undef,undef,undef,undef,undef,undef,undef,undef,undef,undef,undef,undef,undef],defers:=[]}) (λ_=>undef)
  (λw'=>Bi w' fb T (A5 b) nd s/\AU w' b D F Ft/\A4 Aa w w') (A4 Aa)
  (λj x w'=>match j with
   | 0=>x=(A5 fb)
   | 1=>x=(A5 fb)
   | 2=>x=(A5 fb)
   | 3=>x=(A5 b)
   | 4=>x=(A5 fb)
   | 5=>x=(A5 fb)
   | 6=>x=.pointer (some (A9 fb 1))
   | 7=>x=.string nd
   | 8=>x=.tuple #[A0 d,A0 ze]
   | 9=>x=.tuple #[A0 d,A0 ze]
   | 10=>x=A0 d
   | 11=>x=A0 ze
   | 12=>x=A0 d
   | _=>True)
  (by kernel_rfl) (by kernel_rfl) rfl ?_ ?_ ?_ ?_
 ·exact⟨hf,h.aa,(A4.C _ _).aa⟩
 ·intro j x w1 w2 hR aM Y;split at Y<;>exact Y
 ·simp only[FW,Fw,Gl,IB]
  repeat' (with_reducible apply And.intro)
  all_goals refine⟨?_,(by intro y O _ _ h;exact Bool.noConfusion h),λy x=>rfl⟩
  all_goals
   intro y O hS hd hw K hK;obtain⟨E,aD,aE⟩:=hS;simp[GN,Region.binds,FZ,List.filter_cons]at hd;have c0:=E.c0;have c1:=E.c1;have L:Hid (Bi O fb T (A5 b) nd s/\AU O b D F Ft/\A4 Aa w O):=⟨E,aD,aE⟩;have aF:=A1 hK
  all_goals dsimp only
  all_goals try go_simp
  all_goals try with_reducible exact aF.o _ _ _ rfl (by simp[Act.put,hd]) (A4.C _ _) L.o
  all_goals try
   (have aH:y 3=(A5 b):=by with_reducible exact hd.1);refine(aG.o O L.o.2.1).k ?_;rintro w2 rfl;exact aF.o _ _ _ rfl (by simp[Act.put,hd]) (A4.C _ _) L.o
 ·intro y O hS Y;have aL:=Y 11 iC;have aJ:=Y 12 iC;have L:=A1 hS;rcases aB with⟨rfl,aB⟩|⟨rfl,aB⟩
  ·(have aO:∀w',AU w' b D F Ft->Ag 82 #[A5 b,.string nd,A0 0,A0 d] w' λe X=>e=.returned (.tuple #[.string ⟨rs.toArray⟩,A0 re])/\w'=X:=by rw[<-aB.o.1,<-aB.o.2];exact aP.o);have aK:=A1 aO;go_wp2;refine I0 13 (λz=>{tmps:=#[A5 fb,undef,z 12,A0 0,A0 d,A0 0,y 9,y 0,y 1,y 2,y 3,y 4,y 5,y 6,y 7,y 8,y 10,A0 0,A0 0,.bool false,undef,z 0,z 1,z 2,z 3,z 4,z 5,z 6,z 7,z 8,z 9,z 10,z 11],defers:=[]}) (λj=>if j=12 then .string ⟨#[]⟩ else undef)
    (λw'=>Bi w' fb T (A5 b) nd s/\AU w' b D F Ft/\A4 Aa w w') (A4 Aa)
    (λj x w'=>match j with
     | 0=>x=(A5 fb)
     | 1=>x=(A5 fb)
     | 2=>x=(A5 fb)
     | 3=>x=(A5 b)
     | 4=>x=(A5 fb)
     | 5=>x=(A5 fb)
     | 6=>x=.pointer (some (A9 fb 1))
     | 7=>x=.string nd
     | 8=>x=A0 d
     | 9=>x=.tuple #[.string ⟨rs.toArray⟩,A0 re]
     | 10=>x=.string ⟨rs.toArray⟩
     | 11=>x=A0 re
     | 12=>x=.string ⟨rs.toArray⟩
     | _=>True)
    (by kernel_rfl) (by kernel_rfl) rfl ?_ ?_ ?_ ?_
   ·exact⟨L.o.1,L.o.2.1.aa,L.o.2.2.aa⟩
   ·intro j x w1 w2 hR aM Y;split at Y<;>exact Y
   ·clear L aL aJ;simp only[FW,Fw,Gl,IB]
    repeat' (with_reducible apply And.intro)
    all_goals refine⟨?_,(by intro y O _ _ h;exact Bool.noConfusion h),λy x=>rfl⟩
    all_goals
     intro z O hS hd hw K hK;obtain⟨E,aD,aE⟩:=hS;simp[GN,Region.binds,FZ,List.filter_cons]at hd;have c0:=E.c0;have c1:=E.c1;have L:Hid (Bi O fb T (A5 b) nd s/\AU O b D F Ft/\A4 Aa w O):=⟨E,aD,aE⟩;have aF:=A1 hK
    all_goals dsimp only
    all_goals try go_simp
    all_goals try with_reducible exact aF.o _ _ _ rfl (by simp[Act.put,hd]) (A4.C _ _) L.o
    all_goals try
     (have aH:z 3=(A5 b):=by with_reducible exact hd.1);refine(aK.o O L.o.2.1).k ?_;rintro w2 rfl;exact aF.o _ _ _ rfl (by simp[Act.put,hd]) (A4.C _ _) L.o
   ·intro z wz hZ Y;have z11:=Y 11 iC;have z12:=Y 12 iC;have aS:=A1 hZ;go_wp2;go_ret2;exact⟨rfl,aS.o.2.2⟩
  ·go_wp2;go_ret2;rw[aB.o.1,aB.o.2];exact⟨rfl,L.o.2.2⟩
end
def A4.gi{S:Nat->Prop}{w:gC}(k:Nat)(os:Array Obj):A4 S w (Go.Sort.grow (w.drewN k) os):=
 ⟨rfl,rfl,rfl,(by show w.heap.size<=(w.heap++os).size;simp),λj d _=>(by show (w.heap++os)[j]?=_;rw[Array.getElem?_append_left d])⟩
def EF(lt:gF UInt8)(n:Int):gF UInt8:=lt++Lib.repeatL [48] (19-(Lib.itoa n).length)++Lib.itoa n
def Di(s:Int):gF UInt8:=if s=1 then [108] else if s=2 then [115] else if s=3 then [105] else if s=4 then [100] else []
def BU(s n:Int):gF UInt8:=if s=1\/s=2 then EF (Di s) n else Di s
def Ps(w:gC)(s:Int):Ag 133 #[A0 s] w (Aj (.bool (decide (s=1\/s=2))) λw'=>w=w'):=by
 go_enter func133,ntmps133
 by_cases h:s=1
 ·subst h;go_wp2;go_ret;exact⟨rfl,rfl⟩
 ·by_cases d:s=2
  ·subst d;go_wp2;go_ret;exact⟨rfl,rfl⟩
  ·go_wp2;go_ret;exact⟨by simp[h,d],rfl⟩
def A0E(w:gC)(s:Int)(k:Nat)(hs:s=k/\(k=1\/k=2))(lt:gF UInt8)(n:Int)(hn : -9223372036854775808<=n/\n<=9223372036854775807)(hlt:lt.length<=1000)(Y:(Lib.itoa n).length<=19)(hl:A7 w 0 k (.string ⟨lt.toArray⟩))(L:Lib.TabIs Tryz.prog w "internal/strconv.uint64pow10" .u64 Lib.pow10Tab):
 Ag 134 #[A0 s,A0 n] w (Aj (.string ⟨(EF lt n).toArray⟩) λw'=>A4 Aa w w'):=by
 obtain⟨rfl,hk⟩:=hs;obtain⟨aI,aN⟩:=hn;have aA:(k:Int)<5:=iC
 have X:(k:Int)=1\/(k:Int)=2:=iC
 have aH:decide ((k:Int)=1\/(k:Int)=2)=true:=CN X;have aK:=A1 (Tryz.strconv_Itoa n aI aN w L);have aS:∀w',_:=λw'=>Tryz.strings_Repeat ⟨#[48]⟩ (19-(Lib.itoa n).length) w' iC (by show 1*_<=_;omega);have I:=A1 aS;have E:Hid (EF lt n=lt++Lib.repeatL [48] (19-(Lib.itoa n).length)++Lib.itoa n):=rfl;have z:=Lib.repeatL_length [48] (19-(Lib.itoa n).length);generalize aJ:Lib.itoa n=dg at aK Y I E z;clear aS aJ L;obtain⟨c,hc,hcl⟩:∃c:Nat,19-dg.length=c/\dg.length+c=19:=⟨_,rfl,iC⟩;rw[hc]at I E z;clear hc;obtain⟨d,O⟩:=iG (Lib.repeatL [48] c);have aE:Hid (∀w':gC,Ag 174 #[.string ⟨#[48]⟩,A0 (c:Int)] w' λe aM=>e=.returned (.string ⟨d.toArray⟩)/\Below w'.heap.size w' aM):=by
  rw[<-O];exact I.o
 rw[O]at E z;clear O I;have hrl2:d.length<=19:=by rw[z];simp;omega
 clear z;generalize aB:EF lt n=nm at E ⊢;have aP:=A1 hl;clear aB hl
 go_enter func134,ntmps134
 go_wp2_with (fail);refine(Ps w k).k ?_;rintro w0 rfl;rw[aH];have HK1:=A1 hk;have HK2:=A1 X;have aO:=A1 aA;clear hk X aA aH;go_wp2_with (go_at_call 173;refine aK.k ?_;rintro w1 hw;have aR:=A1 hw;clear hw);have aD:Hid (A4 Aa w w1):=by
  have⟨k,os,he⟩:=aR.o;rw[he];exact A4.gi k os
 have aG:=A1 (aD.o.ad aP.o);clear aR aK aP;refine I0 10 (λy=>{tmps:=#[A0 k,A0 n,undef,undef,.string ⟨#[]⟩,.string ⟨dg.toArray⟩,A0 k,.bool true,.bool false,undef,undef,undef,A0 n,.string ⟨dg.toArray⟩,y 0,y 1,y 2,y 3,y 4,y 5,y 6,y 7,y 8,y 9],defers:=[]}) (λ_=>undef)
  (λw'=>A7 w' 0 k (.string ⟨lt.toArray⟩)/\A4 Aa w1 w') (A4 Aa)
  (λj x w'=>match j with
   | 0=>x=A0 k
   | 1=>x=.pointer (some (A9 0 k))
   | 2=>x=.string ⟨lt.toArray⟩
   | 3=>x=.string ⟨dg.toArray⟩
   | 4=>x=A0 dg.length
   | 5=>x=A0 (c:Int)
   | 6=>x=.string ⟨d.toArray⟩
   | 7=>x=.string ⟨(lt++d).toArray⟩
   | 8=>x=.string ⟨dg.toArray⟩
   | 9=>x=.string ⟨nm.toArray⟩
   | _=>True)
  (by kernel_rfl) (by kernel_rfl) rfl ?_ ?_ ?_ ?_
 ·exact⟨aG.o,(A4.C _ _).aa⟩
 ·intro j x w1 w2 hR hS' hG;split at hG<;>exact hG
 ·clear aG;simp only[FW,Fw,Gl,IB]
  repeat' (with_reducible apply And.intro)
  all_goals refine⟨?_,(by intro y wx _ _ h;exact Bool.noConfusion h),λy x=>rfl⟩
  all_goals
   intro y wx hS Y hw K hK;obtain⟨c0,aL⟩:=hS;simp[GN,Region.binds,FZ,List.filter_cons]at Y;have hk5:=aO.o;have hk0:=BJ k;have ap1:=KJ lt d;have g1:¬(9223372036854775807<lt.length+d.length):=iC;have g2:¬(9223372036854775807<lt.length+d.length+dg.length):=iC;(have g3:¬(9223372036854775807<lt.length+(d.length+dg.length)):=iC);(have ap2:(ByteArray.mk (lt++d).toArray)++(ByteArray.mk dg.toArray)=⟨nm.toArray⟩:=by rw[KJ,E.o]);have ew:IntKind.i64.wrap (c:Int)=c:=E9 iC;have ew2:(19:Int)-(dg.length:Int)=(c:Int):=iC;have aF:Hid (A7 wx 0 k (.string ⟨lt.toArray⟩)/\A4 Aa w1 wx):=⟨c0,aL⟩;have aQ:=A1 hK
  all_goals dsimp only
  all_goals try go_simp
  all_goals try with_reducible exact aQ.o _ _ _ rfl (by simp[Act.put,Y]) (A4.C _ _) aF.o
  all_goals try
   (have hd5:y 5=A0 (c:Int):=by with_reducible exact Y);refine(aE.o wx).k ?_;rintro w2 hb;have hc:A4 Aa wx w2:=A4.dd hb;exact aQ.o _ _ _ rfl (by simp[Act.put,Y]) hc ⟨hc.ad aF.o.1,aF.o.2.tr hc⟩
 ·intro y wx hS hG;have h9:y 9=.string ⟨nm.toArray⟩:=hG 9 iC;have aF:=A1 hS;go_wp2;go_ret;exact⟨rfl,aD.o.tr aF.o.2⟩
def TP(w:gC)(k:Nat)(hk:k=3\/k=4)(lt:gF UInt8)(n:Int)(hl:A7 w 0 k (.string ⟨lt.toArray⟩)):
 Ag 134 #[A0 k,A0 n] w (Aj (.string ⟨lt.toArray⟩) λw'=>w=w'):=by
 have hk1:(k:Int)<5:=iC
 have hk0:=BJ k;have d:decide ((k:Int)=1\/(k:Int)=2)=false:=CO iC
 go_enter func134,ntmps134
 go_wp2_with (fail);refine(Ps w k).k ?_;rintro w0 rfl;rw[d];go_wp2;go_ret;exact⟨rfl,rfl⟩
def Ic.a1{w d w':gC}{b o:Nat}{cs:Array gD}{T:Nat}{lv lv':gD}{z:gF Pt}(h:Ic d w' b o cs T lv z lv')(E:A4 Aa w d):Ic w w' b o cs T lv z lv':=
 ⟨h.Bj,(E.aS).tr h.Am,λg I=>(h.AB g I).imp id λh=>AO E.Ak h⟩
def A1l(w:gC)(O d:Nat)(cs:Array gD)(T:Nat)(hT:T≠70)(A8 ld t v:Int)(L:gF Pt)(lv:gD)(hsr:d<8)(h:HV w O (7+d) cs T L lv)(aH:L.length<1099511627775)(h3:cs[3]?=some (A0 ld))(h4:cs[5]?=some (A0 A8))(hl:1<=ld/\ld<=4611686018427387904)(hc:Ay A8):
 Ag 60 #[A5 O,.agg #[A0 d,A0 t,A0 v]] w (Aj (.tuple #[]) λw'=>
  ((AN A8 ld<=t/\∃lv',Ic w w' O (7+d) cs T lv (Ce L t v) lv')\/(t<AN A8 ld/\A4 Aa w w'))):=by
 have c3:A7 w O 3 (A0 ld):=by simp[A7,World.cell?,h.Ae,h3]
 have c4:A7 w O 5 (A0 A8):=by simp[A7,World.cell?,h.Ae,h4]
 have aJ:∀w',A4 Aa w w'->_:=λw' X=>MY w' O A8 ld (X.ad c3) (X.ad c4) hl hc;generalize ho:AN A8 ld=o at aJ ⊢;have aL:∀w',A4 Aa w w'->_:=λw' X=>Zy w' O (7+d) cs T hT L lv t v (h.Am X) aH;have aB:=A1 aJ;have aD:=A1 aL
 go_enter func60,ntmps60
 go_wp2;have hb:(w.alloc (.cells #[A0 d,A0 t,A0 v] 113)).heap[w.heap.size]?=some (.cells #[A0 d,A0 t,A0 v] 113 (0,0)):=by show (w.heap.push _)[w.heap.size]?=_;rw[Jp]
 have I:Hid ((w.alloc (.cells #[A0 d,A0 t,A0 v] 113)).heap[w.heap.size]?=some (.cells #[A0 d,A0 t,A0 v] 113 (0,0))/\A4 Aa w (w.alloc (.cells #[A0 d,A0 t,A0 v] 113))):=⟨hb,(A4.C _ w).ai _⟩;generalize (w.alloc (.cells #[A0 d,A0 t,A0 v] 113))=w1 at I ⊢;refine I0 5 (λy=>{tmps:=#[A5 O,.agg #[A0 d,A0 t,A0 v],undef,A5 w.heap.size,y 0,y 1,y 2,y 3,y 4,undef,undef,undef,undef,undef,undef,undef,undef,undef,undef],defers:=[]}) (λ_=>undef)
  (λw'=>w'.heap[w.heap.size]?=some (.cells #[A0 d,A0 t,A0 v] 113 (0,0))/\A4 Aa w w') (A4 Aa)
  (λj x w'=>match j with
   | 0=>x=.pointer (some (A9 w.heap.size 1))
   | 1=>x=.pointer (some (A9 w.heap.size 1))
   | 2=>x=A0 t
   | 3=>x=(A5 O)
   | 4=>x=A0 o
   | _=>True)
  (by kernel_rfl) (by kernel_rfl) rfl ?_ ?_ ?_ ?_
 ·exact⟨I.o.1,I.o.2.aa⟩
 ·intro j x w1 w2 hR hS' hG;split at hG<;>exact hG
 ·clear I;simp only[FW,Fw,Gl,IB]
  repeat' (with_reducible apply And.intro)
  all_goals refine⟨?_,(by intro y z _ _ h;exact Bool.noConfusion h),λy x=>rfl⟩
  all_goals
   intro y z Y hd hw K hK;obtain⟨aA,aG⟩:=Y;simp[GN,Region.binds,FZ,List.filter_cons]at hd;(have p1:A7 z w.heap.size 1 (A0 t):=by simp[A7,World.cell?,aA]);have E:Hid (z.heap[w.heap.size]?=some (.cells #[A0 d,A0 t,A0 v] 113 (0,0))/\A4 Aa w z):=⟨aA,aG⟩;have aK:=A1 hK
  all_goals dsimp only
  all_goals try go_simp
  all_goals try with_reducible exact aK.o _ _ _ rfl (by simp[Act.put,hd]) (A4.C _ _) E.o
  all_goals
   refine(aB.o z E.o.2).k ?_;rintro w2 X;exact aK.o _ _ _ rfl (by simp[Act.put,hd]) X ⟨X.aj E.o.1 iE,E.o.2.tr X⟩
 ·intro y z Y hG;have h2:y 2=A0 t:=hG 2 iC;have h4:y 4=A0 o:=hG 4 iC;have p0:A7 z w.heap.size 0 (A0 d):=by simp[A7,World.cell?,Y.1]
  have p1:A7 z w.heap.size 1 (A0 t):=by simp[A7,World.cell?,Y.1]
  have p2:A7 z w.heap.size 2 (A0 v):=by simp[A7,World.cell?,Y.1]
  have E:=A1 Y;have hsrI:(d:Int)<8:=iC
  by_cases aE:o<=t
  ·go_wp2;refine G1 (λw'=>A7 w' w.heap.size 0 (A0 d)/\A7 w' w.heap.size 1 (A0 t)/\A7 w' w.heap.size 2 (A0 v)) 8
    (Ba [0,1,2,3,4,5,6,7] []) (by kernel_rfl) (by kernel_rfl) (λ_ _ _ _ _ h=>h) ⟨p0,p1,p2⟩ ?_
   iterate 8 (refine E8 (v:=?_) rfl (by rfl) ?_ ?_;rotate_left;(· (intro w' Y;(try dsimp only at Y);go_simp;try with_reducible rfl));(try simp only[BO]))
   refine FD ?_;simp only[DK,Dm];have aI:=A1 (aD.o z.drew E.o.2.aa);go_wp2_with (go_at_call 102;refine aI.k ?_;rintro w2⟨lv',hR⟩;have aF:=A1 hR);go_end0
   first|exact⟨rfl,lv',aF.o.before E.o.2.drew⟩|exact⟨rfl,.inl ⟨lv',aF.o.before E.o.2.drew⟩⟩|exact⟨rfl,.inl ⟨aE,lv',aF.o.a1 E.o.2.aa⟩⟩
  ·have hlt:t<o:=iC;go_wp2;go_end0;exact⟨rfl,.inr E.o.2⟩
def Ge(mu:Int)(jv:gD)(ld wc A8:Int)(ro:Bool)(lv:Nat->gD):Array Value:=
 #[.int .i32 mu,.int .u32 0,jv,.int .i64 ld,.int .i64 wc,.int .i64 A8,.bool ro,lv 0,lv 1,lv 2,lv 3,lv 4,lv 5,lv 6,lv 7]
def By(w:gC)(sb:Nat)(mu:Int)(jv:gD)(ld wc A8:Int)(ro:Bool)(lv:Nat->gD):Prop:=
 w.heap[sb]?=some (.cells (Ge mu jv ld wc A8 ro lv) 111 (0,0))
section
variable{w:gC}{sb:Nat}{mu:Int}{jv:gD}{ld wc A8:Int}{ro:Bool}{lv:Nat->gD}
def By.c0(h:By w sb mu jv ld wc A8 ro lv):A7 w sb 0 (.int .i32 mu):=by unfold By at h;simp[A7,World.cell?,h,Ge]
def By.c2(h:By w sb mu jv ld wc A8 ro lv):A7 w sb 2 jv:=by unfold By at h;simp[A7,World.cell?,h,Ge]
def By.c3(h:By w sb mu jv ld wc A8 ro lv):A7 w sb 3 (A0 ld):=by unfold By at h;simp[A7,World.cell?,h,Ge]
def By.cW(h:By w sb mu jv ld wc A8 ro lv):A7 w sb 4 (A0 wc):=by unfold By at h;simp[A7,World.cell?,h,Ge]
def By.cK(h:By w sb mu jv ld wc A8 ro lv):A7 w sb 5 (A0 A8):=by unfold By at h;simp[A7,World.cell?,h,Ge]
def By.cR(h:By w sb mu jv ld wc A8 ro lv):A7 w sb 6 (.bool ro):=by unfold By at h;simp[A7,World.cell?,h,Ge]
def By.fz(h:By w sb mu jv ld wc A8 ro lv)(o:Nat):w.frozen? (A9 sb o)=false:=by unfold By at h;simp[World.frozen?,h]
def By.lt(h:By w sb mu jv ld wc A8 ro lv):sb<w.heap.size:=Bv h
def By.Am{S:Nat->Prop}{w':gC}(h:By w sb mu jv ld wc A8 ro lv)(z:A4 S w w')(d:¬S sb):By w' sb mu jv ld wc A8 ro lv:=(z.Al sb h.lt d).trans h
def By.s0(h:By w sb mu jv ld wc A8 ro lv)(x:Int):By (w.setCell (A9 sb 0) (.int .i32 x)) sb x jv ld wc A8 ro lv:=BQ h
def By.sK(h:By w sb mu jv ld wc A8 ro lv)(x:Int):By (w.setCell (A9 sb 5) (A0 x)) sb mu jv ld wc x ro lv:=BQ h
def By.sR(h:By w sb mu jv ld wc A8 ro lv)(x:Bool):By (w.setCell (A9 sb 6) (.bool x)) sb mu jv ld wc A8 x lv:=BQ h
def Yg{mu:Int}{jv:gD}{ld wc A8:Int}{ro:Bool}{lv:Nat->gD}{k:Nat}(d:k<8):(Ge mu jv ld wc A8 ro lv)[7+k]?=some (lv k):=by
 match k,d with
 | 0,_=>rfl
 | 1,_=>rfl
 | 2,_=>rfl
 | 3,_=>rfl
 | 4,_=>rfl
 | 5,_=>rfl
 | 6,_=>rfl
 | 7,_=>rfl
def Iq(lv:Nat->gD)(k:Nat)(v:gD):Nat->Value:=λi=>if i=k then v else lv i
def Yf{mu:Int}{jv:gD}{ld wc A8:Int}{ro:Bool}{lv:Nat->gD}{k:Nat}(d:k<8)(v:gD):(Ge mu jv ld wc A8 ro lv).setIfInBounds (7+k) v=Ge mu jv ld wc A8 ro (Iq lv k v):=by
 match k,d with
 | 0,_=>rfl
 | 1,_=>rfl
 | 2,_=>rfl
 | 3,_=>rfl
 | 4,_=>rfl
 | 5,_=>rfl
 | 6,_=>rfl
 | 7,_=>rfl
end
structure EA (w:gC) (lv:Nat->gD) (L:Nat->gF Pt):Prop where
 Bj:∀k,k<8->Ch w (lv k) (L k)
 Gf:∀k,k<8->DV (L k)
 Cw:∀k,k<8->(L k).length<1099511627775
 Lj:∀i j,i<8->j<8->i≠j->∀g,(lv i).ownBlock=some g->(lv j).ownBlock≠some g
def F6(lv:Nat->gD)(g:Nat):Prop:=∃k,k<8/\(lv k).ownBlock=some g
def EA.lt{w:gC}{lv:Nat->gD}{L:Nat->gF Pt}(h:EA w lv L){g:Nat}(z:F6 lv g):g<w.heap.size:=by
 obtain⟨k,d,e⟩:=z;exact Aw (h.Bj k d) e
def EA.Am{S:Nat->Prop}{w w':gC}{lv:Nat->gD}{L:Nat->gF Pt}(h:EA w lv L)(I:A4 S w w')(E:∀g,F6 lv g->¬S g):EA w' lv L:=
 ⟨λk d=>Au (h.Bj k d) λg z=>I.Al g (Aw (h.Bj k d) z) (E g ⟨k,d,z⟩),h.Gf,h.Cw,h.Lj⟩
def EA.bZ{w:gC}{lv:Nat->gD}{L:Nat->gF Pt}(h:EA w lv L){g:Nat}(z:F6 lv g):∃c,w.heap[g]?=some (.cells c 70 (0,0)):=by
 obtain⟨k,d,e⟩:=z;exact B9 (h.Bj k d) e
def EA.ne{w:gC}{lv:Nat->gD}{L:Nat->gF Pt}(h:EA w lv L){sb:Nat}{c:Array gD}{T:TypeId}(z:w.heap[sb]?=some (.cells c T (0,0)))(d:T≠70):¬F6 lv sb:=λE=>by
 have⟨c',hh⟩:=h.bZ E;rw[z]at hh;cases hh;exact d rfl
def EA.dZ{w:gC}{lv:Nat->gD}{L:Nat->gF Pt}(h:EA w lv L){sb:Nat}{mu:Int}{jv:gD}{ld wc A8:Int}{ro:Bool}(z:By w sb mu jv ld wc A8 ro lv){k:Nat}(d:k<8):
 HV w sb (7+k) (Ge mu jv ld wc A8 ro lv) 111 (L k) (lv k):=
 ⟨z,Yg d,h.Bj k d,h.Gf k d,Nat.lt_trans (h.Cw k d) iF⟩
def HH(L:Nat->gF Pt)(k:Nat)(l:gF Pt):Nat->gF Pt:=λi=>if i=k then l else L i
def Xj{lv:Nat->gD}{k:Nat}{v:gD}{g:Nat}(h:F6 (Iq lv k v) g):F6 lv g\/v.ownBlock=some g:=by
 obtain⟨i,d,e⟩:=h;unfold Iq at e;split at e
 ·exact .inr e
 ·exact .inl ⟨i,d,e⟩
def EA.al{w w':gC}{lv:Nat->gD}{L:Nat->gF Pt}(h:EA w lv L){sb:Nat}{mu:Int}{jv:gD}{ld wc A8:Int}{ro:Bool}(hb:By w sb mu jv ld wc A8 ro lv){k:Nat}(hk:k<8){aA:gF Pt}{lv':gD}{t:Nat}(hR:Ic w w' sb (7+k) (Ge mu jv ld wc A8 ro lv) t (lv k) aA lv')(ht:t=111)(hl:aA.length<1099511627775):
 By w' sb mu jv ld wc A8 ro (Iq lv k lv')/\EA w' (Iq lv k lv') (HH L k aA)/\A4 (λx=>x=sb\/F6 lv x) w w'/\∀g,F6 (Iq lv k lv') g->F6 lv g\/w.heap.size<=g:=by
 subst ht;have Y:=hR.Bj.Ae;rw[Yf hk]at Y;have O:=hR.AB;have hc:A4 (λx=>x=sb\/F6 lv x) w w':=hR.Am.ah λx _ z=>z.imp id λe=>⟨k,hk,e⟩
 have aB:=h.ne hb iF;refine⟨Y,⟨?_,?_,?_,?_⟩,hc,λg E=>?_⟩
 ·intro i I;unfold Iq HH;by_cases e:i=k
  ·simp only[e,Cs];exact hR.Bj.Bj
  ·simp only[e,Cf];exact Au (h.Bj i I) λg E=>hR.Am.Al g (Aw (h.Bj i I) E) λz=>by
    rcases z with rfl|z
    ·exact aB ⟨i,I,E⟩
    ·exact h.Lj k i hk I (λx=>e x.symm) g z E
 ·intro i I;unfold HH;by_cases e:i=k
  ·simp only[e,Cs];exact hR.Bj.Gf
  ·simp only[e,Cf];exact h.Gf i I
 ·intro i I;unfold HH;by_cases e:i=k
  ·simp only[e,Cs];exact hl
  ·simp only[e,Cf];exact h.Cw i I
 ·intro i j I hj X g E d;unfold Iq at E d;by_cases e:i=k
  ·subst e;have e2:¬j=i:=λx=>X x.symm;simp only[Cs]at E;simp only[e2,Cf]at d;rcases O g E with z|z
   ·exact h.Lj i j hk hj X g z d
   ·have:=Aw (h.Bj j hj) d;omega
  ·simp only[e,Cf]at E;by_cases e2:j=k
   ·subst e2;simp only[Cs]at d;rcases O g d with z|z
    ·exact h.Lj i j I hk X g E z
    ·have:=Aw (h.Bj i I) E;omega
   ·simp only[e2,Cf]at d;exact h.Lj i j I hj X g E d
 ·rcases Xj E with z|z
  ·exact .inl z
  ·rcases O g z with hy|hy
   ·exact .inl ⟨k,hk,hy⟩
   ·exact .inr hy
def By.bG{w:gC}{sb:Nat}{jv:gD}{ld wc A8:Int}{ro:Bool}{lv:Nat->gD}{L:Nat->gF Pt}(h:By w sb 0 jv ld wc A8 ro lv)(d:EA w lv L):
 By (w.setCell ⟨sb,0,none⟩ (.int .i32 1)) sb 1 jv ld wc A8 ro lv/\EA (w.setCell ⟨sb,0,none⟩ (.int .i32 1)) lv L/\A4 (One sb) w (w.setCell ⟨sb,0,none⟩ (.int .i32 1)):=
 ⟨h.s0 1,d.Am ((A4.C (One sb) w).an rfl 0 _) (λg z e=>d.ne h iF (e ▸ z)),(A4.C (One sb) w).an rfl 0 _⟩
def By.dn{w w':gC}{sb:Nat}{mu:Int}{jv:gD}{ld wc A8:Int}{ro:Bool}{lv:Nat->gD}(h:By w sb 0 jv ld wc A8 ro lv)(I:By w' sb mu jv ld wc A8 ro lv)(L:A4 (One sb) w w'):
 A4 (λ_=>False) w (w'.setCell ⟨sb,0,none⟩ (.int .i32 0)):=by
 have z:=I.s0 0;have d:=L.an (b:=sb) rfl 0 (.int .i32 0);refine⟨d.os,d.DZ,d.E3,d.Ak,λk E _=>?_⟩;by_cases e:k=sb
 ·subst e;unfold By at h z;rw[h,z]
 ·exact d.Al k E e
def L9(w:gC)(Ft:Nat->Prop)(fb:Nat)(w':gC)(b:Nat)(D':DS)(F':Nat->FC):Prop:=
 A4 (λk=>Ft k\/k=fb) w w'/\∃d,AU w' b D' F' d/\(∀k,d k->k<w'.heap.size)/\∀k,d k->Ft k\/w.heap.size<=k
def HT(D:DS)(F:Nat->FC)(nd:gE)(pc:gF UInt8):Bool:=
 decide ((CH (BA D F nd ⟨pc.toArray⟩).2.1 (BA D F nd ⟨pc.toArray⟩).2.2 nd).1-(CH D F nd).1=pc.length)
def UY(D:DS)(F:Nat->FC)(nd:gE):0<=(CH D F nd).1:=by
 unfold CH;cases lookup D.A6 nd<;>simp
section
variable{w:gC}{b fb:Nat}{D:DS}{F:Nat->FC}{Ft:Nat->Prop}{T:TypeId}{nd:gE}{s:Nat}
def addF(hf:Bi w fb T (A5 b) nd s)(hs:s<4294967296)(h:AU w b D F Ft)(aR:∀k,Ft k->k<w.heap.size)(hn:¬Ft fb)(l:gF UInt8)(hroom : -4611686018427387904<=D.n.Av/\D.n.Av<=9223372036854775807)(hu:AV F D.A6<=4611686018427387904)(hp:0<=D.n.BG/\D.n.BG<=9223372036854775807)(hl:∀f,lookup D.A6 nd=some f->(F f).1.length+(l.length+4)<=70368744177664)(hll:l.length<=4611686018427387904)(hz:(CH (BA D F nd ⟨(l++Cl (AY s l)).toArray⟩).2.1 (BA D F nd ⟨(l++Cl (AY s l)).toArray⟩).2.2 nd).1<=70368744177664/\(CH D F nd).1<=70368744177664):
 Ag 237 #[A5 fb,.string ⟨l.toArray⟩] w (Aj (.tuple #[.bool (HT D F nd (l++Cl (AY s l))),A0 (BA D F nd ⟨(l++Cl (AY s l)).toArray⟩).1]) λw'=>Bi w' fb T (A5 b) nd (AY s l)/\L9 w Ft fb w' b (BA D F nd ⟨(l++Cl (AY s l)).toArray⟩).2.1 (BA D F nd ⟨(l++Cl (AY s l)).toArray⟩).2.2):=by
 obtain⟨aA,a0⟩:=hz;have aO:=A1 (RW w fb T _ nd s l hf hs iC);have aF:(l++Cl (AY s l)).length=l.length+4:=by simp[I2]
 generalize hs1:AY s l=s1 at aO aF aA ⊢;generalize hpc:l++Cl s1=pc at aO aF aA ⊢;have bC:∀w',AU w' b D F Ft->_:=λw' h'=>A31 h' nd ⟨pc.toArray⟩ hroom hu hp (λf hf=>by have:=hl f hf;show _+pc.length<=_;omega);have r1:=UY D F nd;have r2:=UY (BA D F nd ⟨pc.toArray⟩).2.1 (BA D F nd ⟨pc.toArray⟩).2.2 nd;have O:HT D F nd pc=decide ((CH (BA D F nd ⟨pc.toArray⟩).2.1 (BA D F nd ⟨pc.toArray⟩).2.2 nd).1-(CH D F nd).1=pc.length):=rfl;obtain⟨D',aM⟩:=iG ((BA D F nd ⟨pc.toArray⟩).2.1);obtain⟨F',aI⟩:=iG ((BA D F nd ⟨pc.toArray⟩).2.2);obtain⟨er,aK⟩:=iG ((BA D F nd ⟨pc.toArray⟩).1);rw[aM,aI]at O r2 aA ⊢;rw[aK];rw[aM,aI,aK]at bC;have bE:∀w',AU w' b D F Ft->_:=λw' h'=>Ot h' nd;have bB:∀w' d,AU w' b D' F' d->_:=λw' d h'=>Ot h' nd;obtain⟨zn,aE⟩:=iG ((CH D F nd).1);obtain⟨ze,aZ⟩:=iG ((CH D F nd).2);obtain⟨yn,aH⟩:=iG ((CH D' F' nd).1);obtain⟨ye,aQ⟩:=iG ((CH D' F' nd).2);rw[aE,aH]at O;rw[aE]at r1 a0;rw[aH]at r2 aA;rw[aE,aZ]at bE;rw[aH,aQ]at bB;rw[O];obtain⟨ok,O⟩:=iG (decide (yn-zn=(pc.length:Int)));rw[O];have aY:=A1 O;have a8:=A1 bC;have aP:=A1 bE;have a5:=A1 bB;have H:=A1 h;have aS:=A1 aR;have bD:=A1 hn
 go_enter func237,ntmps237
 go_wp2_with (go_at_call 214;refine aO.k ?_;rintro w1⟨a9,bA⟩;have a1:=A1 a9;have aD:=A1 bA);have E:Hid (Bi w1 fb T (A5 b) nd s1/\AU w1 b D F Ft):=⟨a1.o,H.o.aK λk hk=>aD.o.Al k (aS.o k hk) (λe=>bD.o (e ▸ hk))⟩;refine I0 13 (λy=>{tmps:=#[A5 fb,.string ⟨l.toArray⟩,undef,undef,.bool false,A0 0,.string ⟨pc.toArray⟩,y 12,undef,undef,undef,undef,A5 fb,.string ⟨l.toArray⟩,.string ⟨pc.toArray⟩,y 9,y 0,y 1,y 2,y 3,y 4,y 5,y 6,y 7,y 8,y 10,y 11,undef,undef,undef,undef,undef,undef,undef,undef,undef,undef,undef,undef,undef,undef,undef,undef,undef,undef,undef,undef,undef,undef,undef,undef,undef,undef,undef,undef,undef],defers:=[]}) (λ_=>undef)
  (λw'=>Bi w' fb T (A5 b) nd s1/\AU w' b D F Ft/\A4 Aa w1 w') (A4 Aa)
  (λj x w'=>match j with
   | 0=>x=(A5 fb)
   | 1=>x=(A5 fb)
   | 2=>x=(A5 fb)
   | 3=>x=(A5 b)
   | 4=>x=(A5 fb)
   | 5=>x=(A5 fb)
   | 6=>x=.pointer (some (A9 fb 1))
   | 7=>x=.string nd
   | 8=>x=.tuple #[A0 zn,A0 ze]
   | 9=>x=.tuple #[A0 zn,A0 ze]
   | 10=>x=A0 zn
   | 11=>x=A0 ze
   | 12=>x=A0 zn
   | _=>True)
  (by kernel_rfl) (by kernel_rfl) rfl ?_ ?_ ?_ ?_
 ·exact⟨E.o.1,E.o.2.aa,(A4.C _ _).aa⟩
 ·intro j x w1 w2 hR a6 Y;split at Y<;>exact Y
 ·clear E;simp only[FW,Fw,Gl,IB]
  repeat' (with_reducible apply And.intro)
  all_goals refine⟨?_,(by intro y L _ _ h;exact Bool.noConfusion h),λy x=>rfl⟩
  all_goals
   intro zz L hS hd hw K hK;obtain⟨I,aG,aB⟩:=hS;simp[GN,Region.binds,FZ,List.filter_cons]at hd;have c0:=I.c0;have c1:=I.c1;have X:Hid (Bi L fb T (A5 b) nd s1/\AU L b D F Ft/\A4 Aa w1 L):=⟨I,aG,aB⟩;have aJ:=A1 hK
  all_goals dsimp only
  all_goals try go_simp
  all_goals try with_reducible exact aJ.o _ _ _ rfl (by simp[Act.put,hd]) (A4.C _ _) X.o
  all_goals
   refine(aP.o L X.o.2.1).k ?_;rintro w2 rfl;exact aJ.o _ _ _ rfl (by simp[Act.put,hd]) (A4.C _ _) X.o
 intro y L hS Y;have h11:=Y 11 iC;have h12:=Y 12 iC;have c0:=hS.1.c0;have c1:=hS.1.c1;have X:=A1 hS;go_wp2;refine G1 (λw'=>A7 w' fb 0 (A5 b)/\A7 w' fb 1 (.string nd)) 9
  (Ba [0,1,2,3,4,5,6,7,8] []) (by kernel_rfl) (by kernel_rfl) (λ_ _ _ _ _ h=>h) ⟨c0,c1⟩ ?_
 iterate 9 (refine E8 (v:=?_) rfl (by rfl) ?_ ?_;rotate_left;(· (intro w' hS;(try dsimp only at hS);go_simp;try with_reducible rfl));(try simp only[BO]))
 refine FD ?_;simp only[DK,Dm];have aX:=A1 (a8.o L.drew X.o.2.1.aa);go_wp2_with (go_at_call 84;refine aX.k ?_;rintro w3 hA;have bF:=A1 hA);have aW:=bF.o.eb;obtain⟨aL,d,aV,aU,aT⟩:=aW;have hsz:=X.o.1.lt;have E:Hid (Bi w3 fb T (A5 b) nd s1/\AU w3 b D' F' d):=⟨X.o.1.aj aL bD.o,aV⟩;have a2:=A1 aL;have a3:=A1 aU;have a7:=A1 aT;have a4:Hid (∀w',AU w' b D' F' d->_):=λw' h'=>a5.o w' d h';refine I0 13 (λz=>{tmps:=#[A5 fb,.string ⟨l.toArray⟩,undef,undef,.bool false,A0 0,.string ⟨pc.toArray⟩,A0 zn,A0 ze,A0 er,z 12,undef,A5 fb,.string ⟨l.toArray⟩,.string ⟨pc.toArray⟩,y 9,y 0,y 1,y 2,y 3,y 4,y 5,y 6,y 7,y 8,y 10,A0 ze,A5 fb,A5 fb,A5 fb,A5 b,A5 fb,A5 fb,.pointer (some (A9 fb 1)),.string nd,.string ⟨pc.toArray⟩,A0 er,z 9,z 0,z 1,z 2,z 3,z 4,z 5,z 6,z 7,z 8,z 10,z 11,undef,undef,undef,undef,undef,undef,undef],defers:=[]}) (λ_=>undef)
  (λw'=>Bi w' fb T (A5 b) nd s1/\AU w' b D' F' d/\A4 Aa w3 w') (A4 Aa)
  (λj x w'=>match j with
   | 0=>x=(A5 fb)
   | 1=>x=(A5 fb)
   | 2=>x=(A5 fb)
   | 3=>x=(A5 b)
   | 4=>x=(A5 fb)
   | 5=>x=(A5 fb)
   | 6=>x=.pointer (some (A9 fb 1))
   | 7=>x=.string nd
   | 8=>x=.tuple #[A0 yn,A0 ye]
   | 9=>x=.tuple #[A0 yn,A0 ye]
   | 10=>x=A0 yn
   | 11=>x=A0 ye
   | 12=>x=A0 yn
   | _=>True)
  (by kernel_rfl) (by kernel_rfl) rfl ?_ ?_ ?_ ?_
 ·exact⟨E.o.1,E.o.2.aa,(A4.C _ _).aa⟩
 ·intro j x w1 w2 hR a6 Y;split at Y<;>exact Y
 ·clear E;simp only[FW,Fw,Gl,IB]
  repeat' (with_reducible apply And.intro)
  all_goals refine⟨?_,(by intro y L _ _ h;exact Bool.noConfusion h),λy x=>rfl⟩
  all_goals
   intro zz L hS hd hw K hK;obtain⟨I,aG,aB⟩:=hS;simp[GN,Region.binds,FZ,List.filter_cons]at hd;have c0:=I.c0;have c1:=I.c1;have X:Hid (Bi L fb T (A5 b) nd s1/\AU L b D' F' d/\A4 Aa w3 L):=⟨I,aG,aB⟩;have aJ:=A1 hK
  all_goals dsimp only
  all_goals try go_simp
  all_goals try with_reducible exact aJ.o _ _ _ rfl (by simp[Act.put,hd]) (A4.C _ _) X.o
  all_goals
   refine(a4.o L X.o.2.1).k ?_;rintro w2 rfl;exact aJ.o _ _ _ rfl (by simp[Act.put,hd]) (A4.C _ _) X.o
 intro z wz hZ Y;have z11:=Y 11 iC;have z12:z 12=A0 yn:=Y 12 iC;have aN:=A1 hZ;have hbe:(yn-zn==(l.length:Int)+4)=ok:=by
  rw[<-aY.o,aF,O5];simp
 go_wp2;go_ret2
 exact⟨rfl,aN.o.1,(((aD.o.ah (λ_ _ h=>.inr h)).AF X.o.2.2 (λ_ h _=>h.elim)).AF a2.o (λ_ h _=>.inl h)).AF aN.o.2.2 (λ_ h _=>h.elim),
  d,aN.o.2.1,λk hk=>Bp (a3.o k hk) aN.o.2.2.Ak,λk hk=>(a7.o k hk).imp id λh=>AO (AO aD.o.Ak X.o.2.2.Ak) h⟩
end
def AI(nd:gF UInt8):Nat:=AY 4294967295 nd
def Lets(B:Nat)(w:gC):Prop:=
 B<=w.heap.size/\∀w',Below B w w'->(∀k:Nat,1<=k->k<=4->w'.cell? ⟨0,k,none⟩=some (.string ⟨(Di k).toArray⟩))/\Lib.TabIs Tryz.prog w' "internal/strconv.uint64pow10" .u64 Lib.pow10Tab
def Lets.aj{B:Nat}{w w':gC}{S:Nat->Prop}(h:Lets B w)(d:A4 S w w')(E:∀k,S k->B<=k):Lets B w':=
 ⟨AO h.1 d.Ak,λI z=>h.2 I ((d.ej h.1 λk hk L=>by have:=E k L;omega).trans z)⟩
def Lets.aL{B:Nat}{w w':gC}(h:Lets B w)(d:A4 Aa w w'):Lets B w':=h.aj d λ_ h=>h.elim
def TV(s:Int):(Di s).length<=1:=by
 unfold Di;split
 ·simp
 ·split
  ·simp
  ·split
   ·simp
   ·split<;>simp
def A0F(lt:gF UInt8)(n:Int):(EF lt n).length=lt.length+(19-(Lib.itoa n).length)+(Lib.itoa n).length:=by
 unfold EF;have:=Lib.repeatL_length [48] (19-(Lib.itoa n).length);simp only[B3,this];simp
def Tw{s n:Int}(h:(Lib.itoa n).length<=19):(BU s n).length<=100:=by
 have h1:=TV s;unfold BU;split
 ·rw[A0F];omega
 ·omega
def N1{B:Nat}{n:Int}(w:gC)(k:Nat)(d:1<=k/\k<=4)(hn : -9223372036854775808<=n/\n<=9223372036854775807)(E:(Lib.itoa n).length<=19)(I:Lets B w):
 Calls Tryz.prog 134 #[.int .i64 k,.int .i64 n] w λe w'=>e=.returned (.string ⟨(BU k n).toArray⟩)/\A4 (λ_=>False) w w':=by
 have⟨h1,h2⟩:=I.2 w (O6 _ _);have z:=h1 k d.1 d.2;by_cases h:k=1\/k=2
 ·have e:BU k n=EF (Di k) n:=by unfold BU;rw[Ai iC]
  rw[e];exact A0E w k k ⟨rfl,h⟩ (Di k) n hn (by have:=TV k;omega) E z h2
 ·have e:BU k n=Di k:=by unfold BU;rw[Af iC]
  rw[e];refine(TP w k iC (Di k) n z).k ?_;rintro w' rfl;exact⟨rfl,A4.C _ _⟩
def CK(n:Int):Prop:=0<=n/\n<=9223372036854775807/\(Lib.itoa n).length<=19
section
variable{B:Nat}{n:Int}{p:gD}
def PQ(w:gC)(z k:Nat)(hk:1<=k/\k<=4)(hn:CK n)(hL:Lets B w):
 Ag 125 #[A5 z,A0 k,A0 n] w (Aj (.agg #[A5 z,.string ⟨(BU k n).toArray⟩,.int .u32 (AI (BU k n))]) λw'=>A4 Aa w w'):=by
 obtain⟨hn1,aD,hd⟩:=hn;have aG:∀w',A4 Aa w w'->_:=λw' hc=>N1 (n:=n) w' k hk ⟨iC,aD⟩ hd (hL.aL hc);have I:(BU k n).length<=9223372036854775807:=by
  have:=Tw (s:=k) hd;omega
 generalize hnm:BU k n=nm at aG I ⊢;have aH:∀w',_:=λw'=>VP w' 4294967295 nm iC I;obtain⟨s0,E⟩:=iG (AI nm);have Y:∀w',Ag 165 #[.int .u32 4294967295,.string ⟨nm.toArray⟩] w' λe aB=>e=.returned (.int .u32 s0)/\w'=aB:=by rw[<-E];exact aH
 rw[E];have X:=A1 aG;have aA:=A1 Y
 go_enter func125,ntmps125
 go_wp2_with (fail);refine(X.o _ ((A4.C _ _).ai _)).k ?_;rintro d O;have h:d.heap[w.heap.size]?=some (.cells #[.pointer none,.string ⟨#[]⟩,.int .u32 0] 160 (0,0)):=O.aj (by show (w.heap.push _)[w.heap.size]?=_;rw[Jp]) iE;have c0:A7 d w.heap.size 0 (.pointer none):=by simp[A7,World.cell?,h]
 have c1:A7 d w.heap.size 1 (.string ⟨#[]⟩):=by simp[A7,World.cell?,h]
 have c2:A7 d w.heap.size 2 (.int .u32 0):=by simp[A7,World.cell?,h]
 have f0:d.frozen? (A9 w.heap.size 0)=false:=by simp[World.frozen?,h]
 have f1:d.frozen? (A9 w.heap.size 1)=false:=by simp[World.frozen?,h]
 have f2:d.frozen? (A9 w.heap.size 2)=false:=by simp[World.frozen?,h]
 have L:=BQ (o:=2) (v:=.int .u32 s0) (BQ (o:=1) (v:=.string ⟨nm.toArray⟩) (BQ (o:=0) (v:=(A5 z)) h));have k1:A4 Aa w d:=((A4.C Aa w).ai _).tr O;have k3:A4 Aa w (((d.setCell (A9 w.heap.size 0) (A5 z)).setCell (A9 w.heap.size 1) (.string ⟨nm.toArray⟩)).setCell (A9 w.heap.size 2) (.int .u32 s0)):=((k1.bc iE _).bc iE _).bc iE _;have aE:=A1 L;have aF:=A1 k3;go_wp2_with (go_at_call 165;refine(aA.o _).k ?_;rintro w' rfl);generalize (((d.setCell (A9 w.heap.size 0) (A5 z)).setCell (A9 w.heap.size 1) (.string ⟨nm.toArray⟩)).setCell (A9 w.heap.size 2) (.int .u32 s0))=w3 at aE aF ⊢;have L:=aE.o;have r0:A7 w3 w.heap.size 0 (A5 z):=by simp[A7,World.cell?,L]
 have r1:A7 w3 w.heap.size 1 (.string ⟨nm.toArray⟩):=by simp[A7,World.cell?,L]
 have r2:A7 w3 w.heap.size 2 (.int .u32 s0):=by simp[A7,World.cell?,L]
 refine JU (v:=.agg #[A5 z,.string ⟨nm.toArray⟩,.int .u32 s0]) (by simp[results,Tryz.results125,go_sem,r0,r1,r2]) rfl ?_;exact⟨rfl,aF.o⟩
def U5(w:gC)(z:Nat)(X:CK n)(O:Lets B w):
 Ag 192 #[A5 z,A0 n] w λe w'=>∃E,e=.returned (A5 E)/\Bi w' E 237 (A5 z) ⟨(BU 1 n).toArray⟩ (AI (BU 1 n))/\A4 Aa w w'/\w.heap.size<=E:=by
 have d:=A1 (PQ w z 1 iC X O);rw[show ((1:Nat):Int)=1 from rfl]at d;generalize hnm:BU 1 n=nm at d ⊢;generalize hs0:AI nm=s0 at d ⊢
 go_enter func192,ntmps192
 go_wp2_with (go_at_call 125;refine d.k ?_;rintro h L;have I:=A1 L);go_ret;exact⟨h.heap.size,rfl,(by show (h.heap.push _)[h.heap.size]?=_;rw[Jp]),I.o.ai _,I.o.Ak⟩
def Cc(w:gC)(xb:Nat)(T:TypeId)(b:Nat)(nd:gF UInt8)(s:Nat)(n:Int)(v:gD):Prop:=w.heap[xb]?=some (.cells #[.pointer (some ⟨b,0,none⟩),.string ⟨nd.toArray⟩,.int .u32 s,.int .i64 n,v] T (0,0))
section
variable{w w':gC}{xb:Nat}{T:TypeId}{b:Nat}{nd:gF UInt8}{s:Nat}{v:gD}
def Cc.c0(h:Cc w xb T b nd s n v):A7 w xb 0 (A5 b):=by unfold Cc at h;simp[A7,World.cell?,h]
def Cc.c1(h:Cc w xb T b nd s n v):A7 w xb 1 (.string ⟨nd.toArray⟩):=by unfold Cc at h;simp[A7,World.cell?,h]
def Cc.c2(h:Cc w xb T b nd s n v):A7 w xb 2 (.int .u32 s):=by unfold Cc at h;simp[A7,World.cell?,h]
def Cc.c3(h:Cc w xb T b nd s n v):A7 w xb 3 (A0 n):=by unfold Cc at h;simp[A7,World.cell?,h]
def Cc.c4(h:Cc w xb T b nd s n v):A7 w xb 4 v:=by unfold Cc at h;simp[A7,World.cell?,h]
def Cc.fz(h:Cc w xb T b nd s n v)(o:Nat):w.frozen? (A9 xb o)=false:=by unfold Cc at h;simp[World.frozen?,h]
def Cc.lt(h:Cc w xb T b nd s n v):xb<w.heap.size:=Bv h
def Cc.s3(h:Cc w xb T b nd s n v)(x:Int):Cc (w.setCell (A9 xb 3) (A0 x)) xb T b nd s x v:=BQ h
def Cc.s4(h:Cc w xb T b nd s n v)(x:gD):Cc (w.setCell (A9 xb 4) x) xb T b nd s n x:=BQ h
def Cc.aa(h:Cc w xb T b nd s n v):Cc w.drew xb T b nd s n v:=by unfold Cc at h ⊢;exact h
def Cc.aj{S:Nat->Prop}(h:Cc w xb T b nd s n v)(d:A4 S w w')(z:¬S xb):Cc w' xb T b nd s n v:=d.aj h z
end
def RT(w:gC)(z:Nat)(X:CK n)(O:Lets B w):
 Ag 175 #[A5 z,A0 n] w λe w'=>∃E,e=.returned (A5 E)/\Cc w' E 182 z (BU 2 n) (AI (BU 2 n)) n (.slice none 0 0)/\A4 Aa w w'/\w.heap.size<=E:=by
 have d:=A1 (PQ w z 2 iC X O);rw[show ((2:Nat):Int)=2 from rfl]at d;generalize hnm:BU 2 n=nm at d ⊢;generalize hs0:AI nm=s0 at d ⊢
 go_enter func175,ntmps175
 go_wp2_with (go_at_call 125;refine d.k ?_;rintro h L;have I:=A1 L);go_ret;exact⟨h.heap.size,rfl,(by show (h.heap.push _)[h.heap.size]?=_;rw[Jp]),I.o.ai _,I.o.Ak⟩
end
def EC.a1{w z w':gC}{b:Nat}{D:DS}{F:Nat->FC}{Ft:Nat->Prop}(h:EC z Ft w' b D F)(E:A4 Aa w z):EC w Ft w' b D F:=by
 obtain⟨X,d,L,Y,O⟩:=h;exact⟨(E.aS).tr X,d,L,Y,λk I=>(O k I).imp id λh=>AO E.Ak h⟩
section
variable{B b:Nat}{D:DS}{F:Nat->FC}{Ft:Nat->Prop}{n:Int}
def L9.a1{w z w':gC}{E:Nat}(h:L9 z Ft E w' b D F)(I:A4 Aa w z):L9 w Ft E w' b D F:=by
 obtain⟨Y,d,O,h3,X⟩:=h;exact⟨(I.aS).tr Y,d,O,h3,λk L=>(X k L).imp id λh=>AO I.Ak h⟩
def A4r(w:gC)(L:Nat)(z:gE)(s:Nat)(d t v:Int)(aF:0<=d/\d<256)(ht : -9223372036854775808<=t/\t<=9223372036854775807)(hv : -9223372036854775808<=v/\v<=9223372036854775807)(hf:Bi w L 237 (A5 b) z s)(hs:s<4294967296)(h:AU w b D F Ft)(I:∀k,Ft k->k<w.heap.size)(hn:¬Ft L)(hroom : -4611686018427387904<=D.n.Av/\D.n.Av<=9223372036854775807)(hu:AV F D.A6<=4611686018427387904)(hp:0<=D.n.BG/\D.n.BG<=9223372036854775807)(hl:∀f,lookup D.A6 z=some f->(F f).1.length+21<=70368744177664)(hz:(CH (BA D F z ⟨(Bg d t v++Cl (AY s (Bg d t v))).toArray⟩).2.1 (BA D F z ⟨(Bg d t v++Cl (AY s (Bg d t v))).toArray⟩).2.2 z).1<=70368744177664/\(CH D F z).1<=70368744177664):
 Ag 191 #[A5 L,.agg #[A0 d,A0 t,A0 v]] w (Aj (.tuple #[.bool (HT D F z (Bg d t v++Cl (AY s (Bg d t v)))),A0 (BA D F z ⟨(Bg d t v++Cl (AY s (Bg d t v))).toArray⟩).1]) λw'=>
  Bi w' L 237 (A5 b) z (AY s (Bg d t v))/\L9 w Ft L w' b (BA D F z ⟨(Bg d t v++Cl (AY s (Bg d t v))).toArray⟩).2.1 (BA D F z ⟨(Bg d t v++Cl (AY s (Bg d t v))).toArray⟩).2.2):=by
 have PB:∀w',_:=λw'=>SX w' d t v aF ht hv;have aB:(Bg d t v).length=17:=by simp[Bg,CT]
 generalize hle:Bg d t v=l at PB aB hz ⊢;have AD:∀w',A4 Aa w w'->_:=λw' hc=>addF (hf.aj hc iE) hs (h.av I hc) (λk hk=>Bp (I k hk) hc.Ak) hn l hroom hu hp (λf hf=>by have:=hl f hf;omega) iC hz;obtain⟨ok,aK⟩:=iG (HT D F z (l++Cl (AY s l)));obtain⟨er,aE⟩:=iG ((BA D F z ⟨(l++Cl (AY s l)).toArray⟩).1);rw[aK,aE]at AD ⊢;have hlb:=hf.lt;have aH:=A1 PB;have aI:=A1 AD;have aA:=A1 I
 go_enter func191,ntmps191
 go_wp2;have hb:(w.alloc (.cells #[A0 d,A0 t,A0 v] 113)).heap[w.heap.size]?=some (.cells #[A0 d,A0 t,A0 v] 113 (0,0)):=by show (w.heap.push _)[w.heap.size]?=_;rw[Jp]
 have p0:(w.alloc (.cells #[A0 d,A0 t,A0 v] 113)).drew.cell? (A9 w.heap.size 0)=some (A0 d):=by show (w.alloc _).cell? _=_;simp only[World.cell?,hb];rfl
 have p1:(w.alloc (.cells #[A0 d,A0 t,A0 v] 113)).drew.cell? (A9 w.heap.size 1)=some (A0 t):=by show (w.alloc _).cell? _=_;simp only[World.cell?,hb];rfl
 have p2:(w.alloc (.cells #[A0 d,A0 t,A0 v] 113)).drew.cell? (A9 w.heap.size 2)=some (A0 v):=by show (w.alloc _).cell? _=_;simp only[World.cell?,hb];rfl
 have Y:Hid (A4 Aa w (w.alloc (.cells #[A0 d,A0 t,A0 v] 113)).drew):=((A4.C _ w).ai _).aa;refine G1 (λw'=>w'.cell? (A9 w.heap.size 0)=some (A0 d)/\w'.cell? (A9 w.heap.size 1)=some (A0 t)/\w'.cell? (A9 w.heap.size 2)=some (A0 v)) 8
  (Ba [0,1,2,3,4,5,6,7] [4,5]) (by kernel_rfl) (by kernel_rfl) (λ_ _ _ _ _ h=>h) ⟨p0,p1,p2⟩ ?_
 generalize (w.alloc (.cells #[A0 d,A0 t,A0 v] 113)).drew=w1 at p0 p1 p2 Y ⊢
 iterate 4 (refine E8 (v:=?_) rfl (by rfl) ?_ ?_;rotate_left;(· (intro w' hS;(try dsimp only at hS);go_simp;try with_reducible rfl));(try simp only[BO]))
 refine Dy rfl (by rfl) (λK hK=>?_);go_simp;refine(aH.o w1).k ?_;rintro w2 E;have q0:=E.ad p0;have q1:=E.ad p1;have q2:=E.ad p2;refine hK _ _ ⟨q0,q1,q2⟩ (λhS=>?_);have X:Hid (A4 Aa w w2):=Y.o.tr E
 (try simp only[BO])
 refine Dy rfl (by rfl) (λK hK=>?_);go_simp;refine(aI.o w2 X.o).k ?_;rintro w3⟨aM,O⟩;have k3:=O.1;have aL:¬((λk=>Ft k\/k=L) w.heap.size):=by
  rintro (h|h)
  ·have:=aA.o _ h;omega
  ·omega
 have kc:∀o u,w2.cell? (A9 w.heap.size o)=some u->w3.cell? (A9 w.heap.size o)=some u:=by
  intro o u hu;have aJ:w.heap.size<w2.heap.size:=by
   rcases Fg w.heap.size w2.heap.size with h|h
   ·exact h
   ·unfold World.cell? at hu;rw[O7 h]at hu;simp at hu
  unfold World.cell? at hu ⊢;rw[k3.Al _ aJ aL];exact hu
 refine hK _ _ ⟨kc 0 _ q0,kc 1 _ q1,kc 2 _ q2⟩ (λhS=>?_);have aG:=A1 aM;have aD:=A1 (O.a1 X.o)
 (try simp only[BO])
 iterate 2 (refine E8 (v:=?_) rfl (by rfl) ?_ ?_;rotate_left;(· (intro w' hS;(try dsimp only at hS);go_simp;try with_reducible rfl));(try simp only[BO]))
 refine FD ?_;simp only[DK,Dm];go_wp2;go_ret2;exact⟨rfl,aG.o,aD.o⟩
end
section
variable{B b:Nat}{D:DS}{F:Nat->FC}{Ft:Nat->Prop}{n:Int}
def LN(nm:gF UInt8)(d:Int):gF UInt8:=AQ d++Cl (AY (AI nm) (AQ d))
def Kg(nm:gF UInt8):AI nm<4294967296:=Kd _ _ iC
def A0z(w:gC)(E:Int)(k:Nat)(z aR:DS)(X aP:Nat->FC)(e1 e2:Int)(h:AU w b D F Ft)(aF:∀k,Ft k->k<w.heap.size)(hn:CK n)(hL:Lets B w)(ha : -9223372036854775808<=E/\E<=9223372036854775807)(hk:¬D.Aq k)(hs:D.A6.length<1099511627776/\D.As.length<1099511627776)(h1:CY D ⟨(BU 1 n).toArray⟩ k=(e1,z))(a9:upd F k ([],0)=X)(h2:BA z X ⟨(BU 1 n).toArray⟩ ⟨(LN (BU 1 n) E).toArray⟩=(e2,aR,aP))(hroom : -4611686018427387904<=z.n.Av/\z.n.Av<=9223372036854775807)(hu:AV X z.A6<=4611686018427387904)(hp:0<=z.n.BG/\z.n.BG<=9223372036854775807)(hl:∀f,lookup z.A6 ⟨(BU 1 n).toArray⟩=some f->(X f).1.length+12<=70368744177664)(hz:(CH aR aP ⟨(BU 1 n).toArray⟩).1<=70368744177664/\(CH z X ⟨(BU 1 n).toArray⟩).1<=70368744177664):
 Ag 236 #[A5 b,A0 n,A0 E] w λe w'=>
  (e1≠0/\e=.returned (.tuple #[.pointer none,A0 e1])/\EC w Ft w' b z X)\/
  (e1=0/\e2≠0/\e=.returned (.tuple #[.pointer none,A0 e2])/\EC w Ft w' b aR aP)\/
  (e1=0/\e2=0/\∃d,e=.returned (.tuple #[A5 d,A0 0])/\w.heap.size<=d/\Bi w' d 237 (A5 b) ⟨(BU 1 n).toArray⟩ (AY (AI (BU 1 n)) (AQ E))/\
   A4 Ft w w'/\∃Y,AU w' b aR aP Y/\(∀k,Y k->k<w'.heap.size)/\(∀k,Y k->Ft k\/w.heap.size<=k)/\¬Y d):=by
 have bF:=A1 (U5 w b hn hL);have aM:=Kg (BU 1 n);generalize hnm:BU 1 n=nm at bF aM h1 h2 hl hz ⊢;have CR:∀w' d,A4 Aa w w'->Bi w' d 237 (A5 b) ⟨nm.toArray⟩ (AI nm)->_:=λw' d hc hf=>V6 hf (h.av aF hc) k hk hs;rw[h1,a9]at CR;have AD:∀w' d aD,Bi w' d 237 (A5 b) ⟨nm.toArray⟩ (AI nm)->AU w' b z X aD->(∀k,aD k->k<w'.heap.size)->¬aD d->_:=
  λw' d aD hf hr aL aX=>addF hf aM hr aL aX (AQ E) hroom hu hp (λf hf=>by have:=hl f hf;rw[CT];exact this) (by rw[CT];omega) (by
   show (CH (BA z X _ ⟨(LN nm E).toArray⟩).2.1 (BA z X _ ⟨(LN nm E).toArray⟩).2.2 _).1<=_/\_
   rw[h2];exact hz)
 have e0:AQ E++Cl (AY (AI nm) (AQ E))=LN nm E:=rfl;rw[e0,h2]at AD;have bK:∀w',_:=λw'=>LL w' E ha;generalize hle:AQ E=l at AD bK ⊢;generalize hok:HT z X ⟨nm.toArray⟩ (LN nm E)=ok at AD;dsimp only at CR AD;have aW:=A1 CR;have bG:=A1 AD;have a1:=A1 bK;have a0:=A1 aF;rcases QN (e1=0) with aE|aE
 ·subst aE
  go_enter func236,ntmps236
  go_wp2_with (first
   | (go_at_call 192;refine bF.m ?_;rintro e w1⟨d,rfl,hb,hc,aG⟩;have aS:=A1 hb;have aT:=A1 hc;have aB:=A1 aG)
   | (go_at_call 240;refine(aW.o _ _ aT.o aS.o).k ?_;rintro w2 hA;have aY:=A1 hA))
  have⟨hk2,Ft2,hr2,hl2,hf2⟩:=aY.o;have bJ:=aS.o.lt;have aJ:¬Ft d:=λh=>by have:=a0.o d h;have:=aB.o;omega
  have aI:¬Ft2 d:=λh=>by rcases hf2 d h with h|h;exact aJ h;omega
  have a7:=aS.o.aj hk2 aJ;have aO:=hk2.Ak;refine G1 (λ_=>True) 10
   (Ba [0,1,2,3,4,5,6,7,8,9] [4,5]) (by kernel_rfl) (by kernel_rfl) (λ_ _ _ _ _ h=>h) trivial ?_
  have a8:=A1 a7;have a6:=A1 hr2;have aQ:=A1 hl2;have aU:=A1 hf2;have bA:=A1 hk2;have aK:=A1 aI;have aZ:=A1 bJ;have bC:=A1 aO
  iterate 4 (refine E8 (v:=?_) rfl (by rfl) ?_ ?_;rotate_left;(· (intro w' hS;(try dsimp only at hS);go_simp;try with_reducible rfl));(try simp only[BO]))
  refine Dy rfl (by rfl) (λK hK=>?_);go_simp;refine(a1.o w2.drew).k ?_;rintro w3 O;refine hK _ _ trivial (λhS=>?_);have aV:A4 Aa w2 w3:=⟨O.os,O.DZ,O.E3,O.Ak,O.Al⟩;have L:=A1 aV
  (try simp only[BO])
  refine Dy rfl (by rfl) (λK hK=>?_);go_simp;refine(bG.o w3 d Ft2 (a8.o.aj L.o iE) (a6.o.av aQ.o L.o) (λk hk=>Bp (aQ.o k hk) L.o.Ak) aK.o).k ?_;rintro w4⟨bI,bH,I,bE,bB,aN⟩;refine hK _ _ trivial (λhS=>?_);have bD:=A1 bI;have aA:Hid (A4 Ft w w4/\AU w4 b aR aP I/\(∀k,I k->k<w4.heap.size)/\(∀k,I k->Ft k\/w.heap.size<=k)/\¬I d):=by
   have a2:=bC.o;have a3:=L.o.Ak;have a4:=aZ.o;have a5:=aB.o;refine⟨((((aT.o.aS).tr bA.o).AF L.o (λ_ h _=>h.elim)).AF bH (λx hx aF=>?_)),bE,bB,λk hk=>?_,λhx=>?_⟩
   ·rcases hx with hx|rfl
    ·exact(aU.o x hx).resolve_right iC
    ·omega
   ·rcases aN k hk with h|h
    ·exact(aU.o k h).imp id (λh=>iC)
    ·exact .inr iC
   ·rcases aN d hx with h|h
    ·exact aK.o h
    ·omega
  (try simp only[BO])
  iterate 4 (refine E8 (v:=?_) rfl (by rfl) ?_ ?_;rotate_left;(· (intro w' hS;(try dsimp only at hS);go_simp;try with_reducible rfl));(try simp only[BO]))
  refine FD ?_;simp only[DK,Dm];rcases QN (e2=0) with aH|aH
  ·subst aH;go_wp2;go_ret2;exact⟨d,rfl,aB.o,bD.o,aA.o.1,I,aA.o.2.1,aA.o.2.2.1,aA.o.2.2.2.1,aA.o.2.2.2.2⟩
  ·go_wp2;go_ret2;exact .inr (.inl ⟨trivial,aH,rfl,aA.o.1,I,aA.o.2.1,aA.o.2.2.1,aA.o.2.2.2.1⟩)
 ·go_enter func236,ntmps236
  go_wp2_with (first
   | (go_at_call 192;refine bF.m ?_;rintro e w1⟨d,rfl,hb,hc,aG⟩;have aS:=A1 hb;have aT:=A1 hc;have aB:=A1 aG)
   | (go_at_call 240;refine(aW.o _ _ aT.o aS.o).k ?_;rintro w2 hA;have aY:=A1 hA))
  go_ret2;exact .inl ⟨aE,rfl,aY.o.a1 aT.o⟩
end
end
section
open Go.RowKit
attribute [local go_sem ↓] Go.wp_at_zero Go.wp_at_succ
def E2:Nat->Nat->gF UInt8->gF Pu×Bool
 | 0,_,_=>([],true)
 | k+1,s,l=>if l.length<21 then ([],true) else
  if Cl (AY s (l.take 17))=(l.drop 17).take 4/\(l.headD 0).toNat<8 then
   ((((l.headD 0).toNat:Int),BM (l.drop 1),BM (l.drop 9)):: (E2 k (AY s (l.take 17)) (l.drop 21)).1,(E2 k (AY s (l.take 17)) (l.drop 21)).2)
  else ([],false)
def SD{k s:Nat}{l:gF UInt8}(h:l.length<21):E2 k s l=([],true):=by cases k<;>simp[E2,h]
def SH{k s:Nat}{b:UInt8}{d t r:gF UInt8}(z:d.length=16)(E:t.length=4)(h:Cl (AY s (b::d))=t)(Y:b.toNat<8):
 E2 (k+1) s (b::d++t++r)=(((b.toNat:Int),BM d,BM (d.drop 8)):: (E2 k (AY s (b::d)) r).1,(E2 k (AY s (b::d)) r).2):=by
 have L:(b::d++t++r).take 17=b::d:=by simp[z]
 have e2:((b::d++t++r).drop 17).take 4=t:=by simp[z,E]
 have O:(b::d++t++r).drop 21=r:=by
  rw[Mm,IG (by simp[z,E])];simp[z,E]
 have X:BM ((b::d++t++r).drop 1)=BM d:=by
  have e:(b::d++t++r).drop 1=d++(t++r):=iE
  unfold BM;rw[e,HC iC]
 have I:BM ((b::d++t++r).drop 9)=BM (d.drop 8):=by
  have e:(b::d++t++r).drop 9=d.drop 8++(t++r):=by
   simp only[Ga,Ci,DK];rw[Ml iC]
  unfold BM;rw[e,HC (by simp;omega)]
 simp only[E2,L,e2,O,X,I];rw[Af (by simp[z,E];omega),Ai (by simpa using⟨h,Y⟩)];rfl
def Zq{k s:Nat}{b:UInt8}{d t r:gF UInt8}(z:d.length=16)(E:t.length=4)(h:¬(Cl (AY s (b::d))=t/\b.toNat<8)):
 E2 (k+1) s (b::d++t++r)=([],false):=by
 have I:(b::d++t++r).take 17=b::d:=by simp[z]
 have L:((b::d++t++r).drop 17).take 4=t:=by simp[z,E]
 simp only[E2,I,L];rw[Af (by simp[z,E];omega),Af (by simpa using h)]
def A0Q{l:gF UInt8}(h:21<=l.length):∃(b:UInt8) (d t r:gF UInt8),l=b::d++t++r/\d.length=16/\t.length=4:=by
 cases l with
 | nil=>simp at h
 | cons b l=>
  simp at h;refine⟨b,l.take 16,(l.drop 16).take 4,l.drop 20,?_,by simp;omega,by simp;omega⟩;simp only[Ga,Ci,List.cons.injEq,true_and];rw[show l.drop 20=(l.drop 16).drop 4 by simp,Ec,Ec]
def A13{l:gF UInt8}(h:12<=l.length):∃(d t r:gF UInt8),l=d++t++r/\d.length=8/\t.length=4:=by
 refine⟨l.take 8,(l.drop 8).take 4,l.drop 12,?_,by simp;omega,by simp;omega⟩;rw[Ci,show l.drop 12=(l.drop 8).drop 4 by simp,Ec,Ec]
def GF(s:Nat)(d:Int)(l:gF UInt8):gF Pu×Int:=
 if l.length<12 then ([],0) else
 if Cl (AY s (l.take 8))=(l.drop 8).take 4/\BM l=d then
  (if (E2 l.length (AY s (l.take 8)) (l.drop 12)).2=true then ((E2 l.length (AY s (l.take 8)) (l.drop 12)).1,0) else ([],7))
 else ([],7)
def SJ{s:Nat}{E:Int}{d t r:gF UInt8}(h:d.length=8)(z:t.length=4):
 GF s E (d++t++r)=if Cl (AY s d)=t/\BM d=E then (if (E2 (r.length+12) (AY s d) r).2=true then ((E2 (r.length+12) (AY s d) r).1,0) else ([],7)) else ([],7):=by
 have L:(d++t++r).take 8=d:=by simp[h]
 have Y:((d++t++r).drop 8).take 4=t:=by simp[h,z]
 have O:(d++t++r).drop 12=r:=by
  rw[Mm,IG (by simp[h,z])];simp[h,z]
 have X:BM (d++t++r)=BM d:=by unfold BM;rw[Ci,HC iC]
 have I:(d++t++r).length=r.length+12:=by simp[h,z];omega
 unfold GF;rw[Af (by simp[h,z];omega),L,Y,O,X,I]
def B1(w:gC)(v:gD)(l:gF Pu):Prop:=w.ownsRow 0 113 3 v l.length (B5 l)
def J5:(Tryz.prog.info? 113).map (λi=>(i.zero,i.size,i.bytes))=some (some (.agg #[A0 0,A0 0,A0 0]),3,24):=by kernel_rfl
end
end Go.Proofs.YtodcnkbblippnaaGreatDoor
