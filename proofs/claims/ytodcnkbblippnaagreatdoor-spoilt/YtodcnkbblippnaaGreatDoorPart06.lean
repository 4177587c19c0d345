/- Part 6 of a proof: walks of the program. -/
import Derived.BigQuiet
import Derived.Deep.QuietTactic
import Derived.Test.YtodcnkbblippnaaGreatDoorPart03
import Derived.Test.YtodcnkbblippnaaGreatDoorPart04
namespace Go.Proofs.YtodcnkbblippnaaGreatDoor
set_option maxRecDepth 100000
set_option maxHeartbeats 32000000
set_option linter.defProp false
open Go.Proofs.Tryz
section
open Go.RowKit
def Wp(w:ga)(s:Nat)(l:gh UInt8)(h:s<4294967296)(d:l.length<=9223372036854775807):
 Ag 165 #[.int .u32 s,.string ⟨l.toArray⟩] w (Am (.int .u32 (AP s l)) λw'=>w=w'):=
 A4G w s ⟨l.toArray⟩ h d
def Bd(w:ga)(h:Nat)(T:TypeId)(p:gd)(d:gg)(s:Nat):Prop:=w.heap[h]?=some (.cells #[p,.string d,.int .u32 s] T (0,0))
def Bd.c0{w:ga}{d:Nat}{T:TypeId}{p:gd}{z:gg}{s:Nat}(h:Bd w d T p z s):A7 w d 0 p:=by unfold Bd at h;simp[A7,World.cell?,h]
def Bd.c1{w:ga}{z:Nat}{T:TypeId}{p:gd}{d:gg}{s:Nat}(h:Bd w z T p d s):A7 w z 1 (.string d):=by unfold Bd at h;simp[A7,World.cell?,h]
def Bd.c2{w:ga}{d:Nat}{T:TypeId}{p:gd}{z:gg}{s:Nat}(h:Bd w d T p z s):A7 w d 2 (.int .u32 s):=by unfold Bd at h;simp[A7,World.cell?,h]
def Bd.fz{w:ga}{d:Nat}{T:TypeId}{p:gd}{z:gg}{s:Nat}(h:Bd w d T p z s)(o:Nat):w.frozen? (Ac d o)=false:=by unfold Bd at h;simp[World.frozen?,h]
def Bd.lt{w:ga}{d:Nat}{T:TypeId}{p:gd}{z:gg}{s:Nat}(h:Bd w d T p z s):d<w.heap.size:=Bv h
def Bd.s2{w:ga}{d:Nat}{T:TypeId}{p:gd}{z:gg}{s:Nat}(h:Bd w d T p z s)(s':Nat):Bd (w.setCell (Ac d 2) (.int .u32 s')) d T p z s':=CL h
def Bd.an{S:Nat->Prop}{w w':ga}{d:Nat}{T:TypeId}{p:gd}{z:gg}{s:Nat}(h:Bd w d T p z s)(E:A3 S w w')(H:¬S d):Bd w' d T p z s:=E.an h H
def Se(w:ga)(z:Nat)(T:TypeId)(p:gd)(L:gg)(s:Nat)(l:gh UInt8)(h:Bd w z T p L s)(O:s<4294967296)(hl:l.length<=9223372036854775803):
 Ag 214 #[A5 z,.string ⟨l.toArray⟩] w (Am (.string ⟨(l++BM (AP s l)).toArray⟩) λw'=>Bd w' z T p L (AP s l)/\A3 (One z) w w'):=by
 have c2:=h.c2;have fz:=h.fz 2;have I:=h.s2 (AP s l);have E:=I5 s l O;obtain⟨s1,d⟩:∃s1,AP s l=s1:=⟨_,rfl⟩;have hq:=A1 d;rw[d]at I E ⊢;have c3:=I.c2;have Y:A3 (One z) w (w.sC z 2 (.int .u32 s1)):=(A3.I _ w).aq (show One z z from rfl) 2 _;have ap:=Kw l (BM s1);have hsb:=Hh s1;have aB:=A1 I;have aA:=A1 Y;have H:l.length<=9223372036854775807:=by omega
 go_enter func214,ntmps214
 go_wp2_with (first|(go_at_call 165;refine(Wp _ _ _ O H).k ?_;rintro w' rfl;rw[hq.o])|(go_at_call 250;refine(Y7 _ _ E).k ?_;rintro w' W));go_ret;exact⟨rfl,aB.o.an W (by simp),aA.o.Av W (by simp)⟩
def Of(w:ga)(L:Nat)(T:TypeId)(p:gd)(Y:gg)(s:Nat)(l t:gh UInt8)(h:Bd w L T p Y s)(hs:s<4294967296)(ht:t.length=4)(hl:l.length<=9223372036854775803):
 Ag 167 #[A5 L,.string ⟨(l++t).toArray⟩] w (Am (.tuple #[.string ⟨l.toArray⟩,.bool (decide (BM (AP s l)=t))]) λw'=>Bd w' L T p Y (AP s l)/\A3 (One L) w w'):=by
 have d:(l++BM (AP s l)==l++t)=decide (BM (AP s l)=t):=by
  by_cases z:BM (AP s l)=t
  ·rw[CM z,z];exact W2 _
  ·rw[De z];exact Ic.2 λh=>z (WZ h)
 generalize hbb:decide (BM (AP s l)=t)=bb at d ⊢;have O:=A1 d;have hlt0:((ByteArray.mk (l++t).toArray).size:Int)=(l.length:Int)+4:=by show (((l++t).length:Nat):Int)=_;simp[ht]
 have hn4:¬((l.length:Int)+4<4):=by omega
 go_enter func167,ntmps167
 go_wp2;refine Hx 11 (λy=>{tmps:=#[A5 L,.string ⟨(l++t).toArray⟩,undef,undef,.string ⟨#[]⟩,.bool false,y 10,undef,.string ⟨(l++t).toArray⟩,A0 ((l.length:Int)+4),.bool false,y 0,y 1,y 2,y 3,y 4,y 5,y 6,y 7,y 8,y 9,undef,undef,undef,undef,undef,undef,undef,undef],defers:=[]}) (λ_=>undef)
  (λw'=>Bd w' L T p Y s/\A3 Ab w w') (A3 Ab)
  (λj x w'=>match j with
   | 0=>x=.string ⟨(l++t).toArray⟩
   | 1=>x=.string ⟨(l++t).toArray⟩
   | 2=>x=A0 ((l.length:Int)+4)
   | 3=>x=A0 l.length
   | 4=>x=.string ⟨l.toArray⟩
   | 5=>x=.string ⟨(l++t).toArray⟩
   | 6=>x=.string ⟨(l++t).toArray⟩
   | 7=>x=A0 ((l.length:Int)+4)
   | 8=>x=A0 l.length
   | 9=>x=.string ⟨t.toArray⟩
   | 10=>x=.string ⟨l.toArray⟩
   | _=>True)
  (by kernel_rfl) (by kernel_rfl) rfl ?_ ?_ ?_ ?_
 ·exact⟨h,(A3.I _ _).ag⟩
 ·intro j x w1 w2 hR hS' W;split at W<;>exact W
 ·simp only[Fe,EZ,FY,HK]
  repeat' (with_reducible apply And.intro)
  all_goals refine⟨?_,(by intro y wx _ _ h;exact Bool.noConfusion h),λy x=>rfl⟩
  all_goals
   intro y wx hS hd hw K hK;obtain⟨H,I⟩:=hS;simp[Gr,Region.binds,Fi,List.filter_cons]at hd;have e1:(ByteArray.mk (l++t).toArray).extract 0 l.length=⟨l.toArray⟩:=by
    rw[extract_mk];simp
   have e9:(ByteArray.mk (l++t).toArray).extract l.length (l.length+4)=⟨t.toArray⟩:=by
    rw[extract_mk,WW,show l.length+4-l.length=t.length by omega,Cf]
   (have g1:(l.length:Int)<=(l.length:Int)+4:=by omega);have ew:IntKind.i64.wrap (l.length:Int)=l.length:=En (by omega);have aA:=A1 H;have E:=A1 I;have aE:=A1 hK
  all_goals dsimp only
  all_goals try go_simp
  all_goals try with_reducible exact aE.o _ _ _ rfl (by simp[Act.put,hd]) (A3.I _ _) ⟨aA.o,E.o⟩
 ·intro y wx hS W;obtain⟨H,I⟩:=hS;have h10:y 10=.string ⟨l.toArray⟩:=W 10 (by omega);have h9:y 9=.string ⟨t.toArray⟩:=W 9 (by omega);have hk:=H;have E:=A1 I;have ap:=Kw l t;have hq:=O.o;have aF:=A1 (Se wx L T p Y s l hk hs hl);have hlt:(ByteArray.mk (l++t).toArray).size=l.length+4:=by show (l++t).length=_;simp[ht]
  go_wp2_with (go_at_call 214;refine aF.k ?_;rintro w'⟨hb,hc⟩;have aB:=A1 hb;have aD:=A1 hc);go_ret2;exact⟨rfl,aB.o,E.o.af (λ_ _ h=>h.elim) |>.tr aD.o⟩
def XC(w:ga)(z:Nat)(l:gh UInt8)(hl:l.length<4):
 Ag 167 #[A5 z,.string ⟨l.toArray⟩] w (Am (.tuple #[.string ⟨#[]⟩,.bool false]) λw'=>w=w'):=by
 have h:(ByteArray.mk l.toArray).size=l.length:=by show l.toArray.size=_;simp
 have d:((ByteArray.mk l.toArray).size:Int)<4:=by rw[h];omega
 generalize htx:ByteArray.mk l.toArray=tx at d ⊢
 go_enter func167,ntmps167
 go_wp2;go_ret2;exact⟨rfl,rfl⟩
end
section
open Go.RowKit
attribute [local go_sem ↓] Go.wp_at_zero Go.wp_at_succ

def Gt(x y:Int):Int:=if x<y then -1 else if y<x then 1 else 0
def A3r(x y:Int)(w:ga):Ag 130 #[A0 x,A0 y] w (Am (A0 (Gt x y)) λw'=>w=w'):=by
 by_cases h:x<y
 ·have q:Hid (Gt x y = -1):=by unfold Hid Gt;rw[Ae h]
  go_enter func130,ntmps130
  go_wp2;go_ret;rw[q.o];exact⟨rfl,rfl⟩
 ·by_cases d:y<x
  ·(have q:Hid (Gt x y=1):=by unfold Hid Gt;rw[Aa h,Ae d])
   go_enter func130,ntmps130
   go_wp2;go_ret;rw[q.o];exact⟨rfl,rfl⟩
  ·(obtain rfl:x=y:=by omega);(have q:Hid (Gt x x=0):=by unfold Hid Gt;rw[Aa h,Aa d])
   go_enter func130,ntmps130
   go_wp2;go_ret;rw[q.o];exact⟨rfl,rfl⟩
def Qn(t v y:Int)(w:ga):Ag 163 #[.agg #[A0 t,A0 v],A0 y] w (Am (A0 (Gt t y)) λw'=>A3 Ab w w'):=by
 go_enter func163,ntmps163
 go_wp2_with (go_at_call 130;refine(A3r _ _ _).k ?_;rintro w' rfl);go_ret;exact⟨rfl,(A3.I _ w).al _⟩
def EN(l:gh Pt)(t:Int):Bool:=(l[BP l t]?).any λx=>x.1==t
def Z7(w:ga)(lv:gd)(L:gh Pt)(t:Int)(hL:DT w lv L)(hs:E4 L)(hl:L.length<1099511627776):
 Ag 162 #[lv,A0 t,.func (.func 163) #[] #[]] w (Am (.tuple #[A0 (BP L t),.bool (EN L t)]) λw'=>A3 Ab w w'):=by
 obtain⟨a,cap,rfl,h1,h2,h3,_,_⟩:=B9 hL;unfold maxLen at h2;have aK:=A1 hL;have aM:=A1 hs;have aL:=A1 h3;have aE:=K6 L t;have aJ:Hid (∀W,A3 Ab w W->∀k (hk:k<L.length),∃g,a=some (Ac g 0)/\A7 W g (k*2) (A0 (L[k]'hk).1)/\A7 W g (k*2+1) (A0 (L[k]'hk).2)):=by
  intro W hc k hk;obtain⟨g,rfl⟩:=aL.o (by omega);have hW:DT W (AH g L.length cap) L:=Ax aK.o λg hg=>hc.An g (AF aK.o hg) (λh=>h);exact⟨g,rfl,hW.bx k hk⟩
 go_enter func162,ntmps162
 go_wp2;go_loopw [9,10] (λiv jv wq=>∃i j:Nat,i<=j/\j<=L.length/\iv=A0 i/\jv=A0 j/\Hid (i<=BP L t/\BP L t<=j)/\Hid (A3 Ab w wq)) (λiv jv _=>(intOf jv).toNat-(intOf iv).toNat)
 ·exact⟨0,L.length,Cb _,Ao _,rfl,rfl,⟨Cb _,aE⟩,A3.I _ _⟩
 ·obtain⟨i,j,hij,hj,rfl,rfl,E,d⟩:=hrel;by_cases hlt:i<j
  ·obtain⟨m,hm⟩:∃m,(i+j)/2=m:=⟨_,rfl⟩;(have aH:i<=m:=by omega);(have hmj:m<j:=by omega);(have I:m<L.length:=by omega);obtain⟨g,rfl,c1,c2⟩:=aJ.o _ d.o m I;obtain⟨⟨tm,vm⟩,aD⟩:∃x,L[m]'I=x:=⟨_,rfl⟩;rw[aD]at c1 c2;have aB:=A1 aD;have i0:=C3 i;(have hsum:(i:Int)+(j:Int)<=9223372036854775807:=by omega);(have hlt':(i:Int)<(j:Int):=by omega);by_cases aF:tm<t
   ·(have hc:Gt tm t<0:=by unfold Gt;rw[Ae aF];omega);have hp:Hid (m+1<=BP L t):=by
     unfold Hid;apply QV;intro hn;have:=Lr aM.o (show BP L t<=m by omega) I;rw[aB.o]at this;simp only at this;omega
    go_wp2_with (go_at_call 163;refine(Qn _ _ _ _).k ?_;rintro w' z;have H:=A1 z);go_roundw
    ·exact⟨m+1,j,by omega,hj,by rw[show ((i:Int)+(j:Int))/2+1=((m+1:Nat):Int) from by omega],rfl,⟨hp.o,E.o.2⟩,d.o.tr H.o⟩
    ·simp[intOf];omega
   ·have hc:0<=Gt tm t:=by
     unfold Gt;rw[Aa aF];split<;>omega
    have hp:Hid (BP L t<=m):=by
     unfold Hid;apply QV;intro hn;have:=Lq (show m<BP L t by omega) I;rw[aB.o]at this;simp only at this;omega
    go_wp2_with (go_at_call 163;refine(Qn _ _ _ _).k ?_;rintro w' z;have H:=A1 z);go_roundw
    ·exact⟨i,m,aH,by omega,rfl,by rw[show ((i:Int)+(j:Int))/2=(m:Int) from by omega],⟨E.o.1,hp.o⟩,d.o.tr H.o⟩
    ·simp[intOf];omega
  ·(obtain rfl:i=j:=by omega);(have aG:Hid (BP L t=i):=by have:=E.o;unfold Hid;omega);by_cases O:i<L.length
   ·obtain⟨g,rfl,c1,c2⟩:=aJ.o _ d.o i O;obtain⟨⟨Y,vi⟩,aA⟩:∃x,L[i]'O=x:=⟨_,rfl⟩;rw[aA]at c1 c2;have i0:=C3 i;(have i1:(i:Int)<(L.length:Int):=by omega);have aI:Hid (EN L t=(Gt Y t==0)):=by
     unfold Hid EN;rw[aG.o,DL O,aA];simp only[Option.any_some];unfold Gt;by_cases e1:Y<t
     ·rw[Ae e1];have:Y≠t:=by omega
      simp[this]
     ·rw[Aa e1];by_cases e2:t<Y
      ·rw[Ae e2];have:Y≠t:=by omega
       simp[this]
      ·rw[Aa e2];have:Y=t:=by omega
       simp[this]
    go_wp2_with (go_at_call 163;refine(Qn _ _ _ _).k ?_;rintro w' z;have H:=A1 z);go_ret2;rw[aG.o,aI.o];exact⟨rfl,d.o.tr H.o⟩
   ·(have hil':(L.length:Int)<=(i:Int):=by omega);have aI:Hid (EN L t=false):=by
     unfold Hid EN;rw[aG.o,NR (by omega)];rfl
    go_wp2;go_ret2;rw[aG.o,aI.o];exact⟨rfl,d.o⟩
structure ND (w:ga) (b o:Nat) (L:gh Pt) (lv:gd):Prop where
 DK:w.cell? ⟨b,o,none⟩=some lv
 Bu:DT w lv L
 G4:E4 L
 CZ:L.length<1099511627776
def Q2(w:ga)(b o:Nat)(L:gh Pt)(lv:gd)(t:Int)(h:ND w b o L lv):
 Ag 116 #[.pointer (some (Ac b o)),A0 t] w (Am (.tuple #[A0 (BP L t),.bool (EN L t)]) λw'=>A3 Ab w w'):=by
 have hc:=h.DK;obtain⟨a,cap,rfl,_⟩:=B9 h.Bu;have H:=A1 h
 go_enter func116,ntmps116
 go_wp2_with (go_at_call 162;refine(Z7 _ _ _ _ H.o.Bu H.o.G4 H.o.CZ).k ?_;rintro w' d;have z:=A1 d);go_ret2;exact⟨rfl,z.o⟩
def Tryz.cS:(Tryz.prog.info? 70).map (λi=>(i.zero,i.size,i.bytes))=some (some (.agg #[A0 0,A0 0]),2,16):=by kernel_rfl
def A0p{l:gh Pt}(z:E4 l)(t:Int):BP l (t+1)=BP l t+(if EN l t then 1 else 0):=by
 have I:=K6 l t;by_cases h:EN l t=true
 ·rw[Ae h];unfold EN at h;by_cases L:BP l t<l.length
  ·rw[DL L]at h;simp at h;refine Tn z (by omega) (λi d H=>?_) λi d E=>?_
   ·by_cases e:i=BP l t
    ·subst e;omega
    ·have:=Lq (show i<BP l t by omega) d;omega
   ·have:=Ij.1 z (BP l t) i L d (by omega);rw[h]at this;omega
  ·rw[NR (by omega)]at h;cases h
 ·rw[Aa h,QG];refine Tn z I (λi d H=>?_) λi d E=>?_
  ·have:=Lq H d;omega
  ·have h2:=Lr z E d;by_cases e:(l[i]'d).1=t
   ·exfalso;apply h;by_cases O:i=BP l t
    ·subst O;unfold EN;rw[DL d];simpa using e
    ·have:=Ij.1 z (BP l t) i (by omega) d (by omega);have:=Lr z (Ao (BP l t)) (show BP l t<l.length by omega);omega
   ·omega
def A0q{l:gh Pt}(d:E4 l){a b:Int}(h:a<=b):BP l a<=BP l b:=by
 apply QV;intro hn;have hl:=K6 l a;have h1:=Lq (show BP l b<BP l a by omega) (by omega);have h2:=Lr d (Ao (BP l b)) (by omega);omega
def piece(l:gh Pt)(a b:Int):gh Pt:=l.filter λx=>decide (a<=x.1)&&decide (x.1<=b)
def A0r{l:gh Pt}(d:E4 l)(a b:Int):piece l a b=(l.take (BP l b+(if EN l b then 1 else 0))).drop (BP l a):=by
 rw[<-A0p d b,<-A2w d a (b+1)];unfold piece
 congr 1
 funext x
 have:decide (x.1<=b)=decide (x.1<b+1):=by
  apply Xd.2;simp;omega
 rw[this]
def A35(w:ga)(rb ro:Nat)(L:gh Pt)(lv:gd)(a b:Int)(h:ND w rb ro L lv):
 Ag 80 #[.pointer (some (Ac rb ro)),A0 a,A0 b] w λe w'=>∃v,e=.returned v/\DT w' v (piece L a b)/\A3 Ab w w'/\∀g,v.ownBlock=some g->w.heap.size<=g:=by
 have H:=A1 h;have hc:=h.DK;obtain⟨ad,cap,rfl,h1,h2,h3,h4,h5⟩:=B9 h.Bu;unfold maxLen at h2;have HA:=A1 h3;have aR:=HL w _ hc;have aJ:Hid (∀W,A3 Ab w W->ND W rb ro L (.slice ad L.length cap)):=λW I=>
  ⟨(E3 (I.An rb aR (λh=>h))).trans H.o.DK,Ax H.o.Bu λg hg=>I.An g (AF H.o.Bu hg) (λh=>h),H.o.G4,H.o.CZ⟩
 have⟨i0,hi,hz0,hz1,hz2⟩:=Eg Tryz.cS;have hsm:=h.CZ;have aV:=A1 h4;have aU:=A1 h5;by_cases hab:b<a
 ·have q:Hid (piece L a b=[]):=by
   unfold Hid piece;rw[A5b];intro x _;simp;omega
  go_enter func80,ntmps80
  go_wp2;go_ret;exact⟨_,rfl,by rw[q.o];exact CT _ _ _ _,A3.I _ _,by simp[Value.ownBlock]⟩
 ·have aL:a<=b:=by omega
  have aI:=A0r H.o.G4 a b;have hm:=A0q H.o.G4 aL;have aQ:=K6 L b;have Y:EN L b=true->BP L b<L.length:=λhh=>by
   unfold EN at hh;apply QV;intro hn;rw[NR (by omega)]at hh;cases hh
  obtain⟨i,aH⟩:∃i,BP L a=i:=⟨_,rfl⟩;obtain⟨j,aA⟩:∃j,BP L b=j:=⟨_,rfl⟩;obtain⟨hs,aF⟩:∃hs,EN L b=hs:=⟨_,rfl⟩;rw[aH,aA]at hm;rw[aA]at aQ;rw[aF,aA]at Y;rw[aH,aA,aF]at aI;have aP:Hid (∀W,A3 Ab w W->Ag 116 #[.pointer (some (Ac rb ro)),A0 a] W λe w'=>∃x,e=.returned (.tuple #[A0 i,.bool x])/\A3 Ab W w'):=λW I=>
   (Q2 W rb ro L _ a (aJ.o W I)).mono (by rintro e w'⟨rfl,h⟩;rw[aH];exact⟨_,rfl,h⟩)
  have aT:Hid (∀W,A3 Ab w W->Ag 116 #[.pointer (some (Ac rb ro)),A0 b] W (Am (.tuple #[A0 j,.bool hs]) λw'=>A3 Ab W w')):=λW I=>
   (Q2 W rb ro L _ b (aJ.o W I)).mono (by rintro e w'⟨rfl,h⟩;rw[aA,aF];exact⟨rfl,h⟩)
  have aO:=A1 aI;have O:Hid (∀W (n:Nat),A3 Ab w W->i<=n->n<=L.length->n=j+(if hs then 1 else 0)->∀v,(v=.slice (Option.map (λx=>x.add (i*2)) ad) (n-i) (cap-i)\/(n=i/\∃x c,v=.slice x 0 c))->Src Tryz.prog 2 66 v (n-i) (Bk (piece L a b)) W/\(piece L a b).length=n-i):=by
   intro W n I hin hnl hn v hv;(have aB:(piece L a b).length=n-i:=by rw[aO.o,<-hn,CO,BT];omega);have aN:=(aJ.o W I).Bu;refine⟨?_,aB⟩;have aS:∀g,ad=some (Ac g 0)->∀(k:Nat) u,(Bk (piece L a b))[k]?=some u->A7 W g (i*2+k) u:=by
    intro g hg k u hk;subst hg;refine BH aN (g:=g) rfl ?_;rw[aO.o,<-hn,<-P8,<-P6,JN,QK]at hk;split at hk
    ·exact hk
    ·cases hk
   have aD:n-i=0->∀x c,Src Tryz.prog 2 66 (.slice x 0 c) 0 (Bk (piece L a b)) W:=by
    intro h0 x c;have:piece L a b=[]:=NU (by omega);rw[this];cases x with
    | none=>exact Src.ofNil W Gz c
    | some y=>exact Mc W Gz _ 0 c [] rfl (by simp) (by simp)
   rcases hv with rfl|⟨hni,x,c,rfl⟩
   ·cases ad with
    | none=>
     have:=(aV.o rfl).1;(have h0:n-i=0:=by omega);rw[h0];exact aD h0 _ _
    | some x=>
     obtain⟨g,rfl⟩:=aU.o x rfl;refine Mc W Gz _ _ _ _ (by rw[GN,aB]) (λk u hk=>?_) (P7 _);have hx:Addr.add (Addr.add (Ac g 0) (i*2)) k=(Ac g (i*2+k)):=by
      unfold Addr.add;by_cases h1:i*2=0<;>by_cases h2:k=0<;>simp[h1,h2]
     rw[hx];exact aS g rfl k u hk
   ·(have h0:n-i=0:=by omega);rw[h0];exact aD h0 x c
  have HLEN:Hid ((piece L a b).length=j+(if hs then 1 else 0)-i):=by
   unfold Hid;rw[aI,CO,BT];cases hs with
   | true=>have:=Y rfl;simp;omega
   | false=>simp;omega
  have j0:=C3 j;have iz:=C3 i;have hij:(i:Int)<=(j:Int):=by omega
  have hjc:(j:Int)<=(cap:Int):=by omega
  have hic:(i:Int)<=(cap:Int):=by omega
  have hbyt:(0+(j+1-i))*16<=140737488355328:=by omega
  have aG:Hid (∀(W w3:ga) (n:Nat) (b3:Option Addr) (d:Nat),A3 Ab w W->(piece L a b).length=n->App W w3 70 2 (.slice none 0 0) (.slice b3 (0+n) d) (0+n) ([]++Bk (piece L a b))->DT w3 (.slice b3 n d) (piece L a b)/\A3 Ab w w3/\∀g,(Value.slice b3 n d).ownBlock=some g->w.heap.size<=g):=by
   intro W w3 n b3 d I hn hA;refine⟨?_,I.tr hA.bM,λg hg=>?_⟩
   ·have:=hA.AE;unfold DT;rw[hn];simpa using this
   ·have:=hA.AR g (by simpa using hg);have:=I.Aj;omega
  cases hs with
  | false=>
   by_cases aM:cap=i
   ·obtain rfl:i=cap:=aM.symm;(obtain rfl:j=i:=by omega);have aK:Hid (∀W x c,A3 Ab w W->Src Tryz.prog 2 66 (.slice x 0 c) 0 (Bk (piece L a b)) W/\(piece L a b).length=0):=λW x c I=>by
     have:=O.o W j I (Ao _) (by omega) (by simp) (.slice x 0 c) (.inr ⟨rfl,x,c,rfl⟩)
     rwa [WC]at this
    go_enter func80,ntmps80
    go_wp2_with (fail);refine(aP.o _ (A3.I _ _)).mono ?_;rintro e w1⟨x,rfl,k1⟩;have aE:=A1 k1;go_wp2_with (fail);refine(aT.o _ aE.o).k ?_;rintro w2 k2;have E:=A1 <| aE.o.tr k2;have c2:=(aJ.o _ E.o).DK;go_wp2_with (at_builtin;refine Dj rfl (.const (.slice none 0 0)) (.tmp 35) 66 66 rfl 70 i0 _ 2 16 Gz hi hz0 hz1 hz2 rfl (by decide) (.slice none 0 0) 0 [] (by rfl) (CT _ 0 70 2) _ 0 _ (by rfl) (aK.o _ _ _ E.o).1 (by omega) ?_;intro b3 d w3 hA;have z:=A1 (aG.o _ w3 _ b3 d E.o (aK.o _ none 0 E.o).2 hA));go_ret;exact⟨_,rfl,z.o.1,z.o.2.1,z.o.2.2⟩
   ·skip
    go_enter func80,ntmps80
    go_wp2_with (fail);refine(aP.o _ (A3.I _ _)).mono ?_;rintro e w1⟨x,rfl,k1⟩;have aE:=A1 k1;go_wp2_with (fail);refine(aT.o _ aE.o).k ?_;rintro w2 k2;have E:=A1 <| aE.o.tr k2;have c2:=(aJ.o _ E.o).DK;go_wp2_with (at_builtin;refine Dj rfl (.const (.slice none 0 0)) (.tmp 35) 66 66 rfl 70 i0 _ 2 16 Gz hi hz0 hz1 hz2 rfl (by decide) (.slice none 0 0) 0 [] (by rfl) (CT _ 0 70 2) _ (j-i) _ (by rfl) (O.o _ j E.o (by omega) (by omega) (by simp) _ (.inl rfl)).1 (by omega) ?_;intro b3 d w3 hA;have z:=A1 (aG.o _ w3 _ b3 d E.o (O.o _ j E.o (by omega) (by omega) (by simp) _ (.inl rfl)).2 hA));go_ret;exact⟨_,rfl,z.o.1,z.o.2.1,z.o.2.2⟩
  | true=>
   have hjl:=Y rfl;(have hjc':(j:Int)+1<=(cap:Int):=by omega);(have hij':(i:Int)<=(j:Int)+1:=by omega);(have hjt:((j:Int)+1).toNat=j+1:=by omega);by_cases aM:cap=i
   ·exfalso;omega
   ·skip
    go_enter func80,ntmps80
    go_wp2_with (fail);refine(aP.o _ (A3.I _ _)).mono ?_;rintro e w1⟨x,rfl,k1⟩;have aE:=A1 k1;go_wp2_with (fail);refine(aT.o _ aE.o).k ?_;rintro w2 k2;have E:=A1 <| aE.o.tr k2;have c2:=(aJ.o _ E.o).DK;go_wp2_with (at_builtin;refine Dj rfl (.const (.slice none 0 0)) (.tmp 35) 66 66 rfl 70 i0 _ 2 16 Gz hi hz0 hz1 hz2 rfl (by decide) (.slice none 0 0) 0 [] (by rfl) (CT _ 0 70 2) _ ((j+1)-i) _ (by rfl) (O.o _ (j+1) E.o (by omega) (by omega) (by simp) _ (.inl rfl)).1 (by omega) ?_;intro b3 d w3 hA;have z:=A1 (aG.o _ w3 _ b3 d E.o (O.o _ (j+1) E.o (by omega) (by omega) (by simp) _ (.inl rfl)).2 hA));go_ret;exact⟨_,rfl,z.o.1,z.o.2.1,z.o.2.2⟩
structure HQ (w:ga) (b o:Nat) (cs:Array gd) (T:Nat) (L:gh Pt) (lv:gd):Prop where
 Ah:w.heap[b]?=some (.cells cs T (0,0))
 CA:cs[o]?=some lv
 Bu:DT w lv L
 G4:E4 L
 CZ:L.length<1099511627776
def HQ.cF{w:ga}{b o:Nat}{d:Array gd}{T:Nat}{L:gh Pt}{lv:gd}(h:HQ w b o d T L lv):ND w b o L lv:=
 ⟨by simp[World.cell?,h.Ah,h.CA],h.Bu,h.G4,h.CZ⟩
def HQ.Al{w w':ga}{b o:Nat}{d:Array gd}{T:Nat}{L:gh Pt}{lv:gd}(h:HQ w b o d T L lv)(z:A3 Ab w w'):HQ w' b o d T L lv:=
 ⟨(z.An b (Bv h.Ah) (λh=>h)).trans h.Ah,h.CA,Ax h.Bu λg E=>z.An g (AF h.Bu E) (λh=>h),h.G4,h.CZ⟩
structure J2 (w w':ga) (b o:Nat) (cs:Array gd) (T:Nat) (lv:gd) (L':gh Pt) (lv':gd):Prop where
 Bu:HQ w' b o (cs.setIfInBounds o lv') T L' lv'
 Al:A3 (λk=>k=b\/lv.ownBlock=some k) w w'
 AE:∀g,lv'.ownBlock=some g->lv.ownBlock=some g\/w.heap.size<=g
end
end Go.Proofs.YtodcnkbblippnaaGreatDoor
