/- Part 8 of a proof: walks of the program. -/
import Derived.StillTailTactics
import Derived.StillTactics
import Derived.Test.YtodcnkbblippnabGreatDoorPart04
import Derived.Test.YtodcnkbblippnabGreatDoorPart07
namespace Go.Proofs.YtodcnkbblippnabGreatDoor
set_option maxRecDepth 100000
set_option maxHeartbeats 32000000
set_option linter.defProp false
open Go.Proofs.Tryz
section
open Go.RowKit
def UG(w:World)(s:Nat)(l:List UInt8)(z:s<4294967296)(h:l.length<=9223372036854775807):
 Aj 118 #[.int .u32 s,.string ⟨l.toArray⟩] w (Au (.int .u32 (AV s l)) λw'=>w=w'):=
 A2y w s ⟨l.toArray⟩ z h
def Be(w:World)(h:Nat)(T:TypeId)(p:Value)(name:ByteArray)(s:Nat):Prop:=w.heap[h]?=some (.cells #[p,.string name,.int .u32 s] T (0,0))
def Be.c0{w:World}{z:Nat}{T:TypeId}{p:Value}{name:ByteArray}{s:Nat}(h:Be w z T p name s):Aa w z 0 p:=by unfold Be at h;simp[Aa,World.cell?,h]
def Be.c1{w:World}{z:Nat}{T:TypeId}{p:Value}{name:ByteArray}{s:Nat}(h:Be w z T p name s):Aa w z 1 (.string name):=by unfold Be at h;simp[Aa,World.cell?,h]
def Be.c2{w:World}{z:Nat}{T:TypeId}{p:Value}{name:ByteArray}{s:Nat}(h:Be w z T p name s):Aa w z 2 (.int .u32 s):=by unfold Be at h;simp[Aa,World.cell?,h]
def Be.fz{w:World}{z:Nat}{T:TypeId}{p:Value}{name:ByteArray}{s:Nat}(h:Be w z T p name s)(o:Nat):w.frozen? (Ad z o)=false:=by unfold Be at h;simp[World.frozen?,h]
def Be.lt{w:World}{z:Nat}{T:TypeId}{p:Value}{name:ByteArray}{s:Nat}(h:Be w z T p name s):z<w.heap.size:=Bo h
def Be.s2{w:World}{z:Nat}{T:TypeId}{p:Value}{name:ByteArray}{s:Nat}(h:Be w z T p name s)(s':Nat):Be (w.setCell (Ad z 2) (.int .u32 s')) z T p name s':=CE h
def Be.ak{S:Nat->Prop}{w w':World}{z:Nat}{T:TypeId}{p:Value}{name:ByteArray}{s:Nat}(h:Be w z T p name s)(H:A5 S w w')(I:¬S z):Be w' z T p name s:=H.ak h I
def QQ(w:World)(H:Nat)(T:TypeId)(p:Value)(name:ByteArray)(s:Nat)(l:List UInt8)(h:Be w H T p name s)(X:s<4294967296)(hl:l.length<=9223372036854775803):
 Aj 169 #[A7 H,.string ⟨l.toArray⟩] w (Au (.string ⟨(l++Ca (AV s l)).toArray⟩) λw'=>Be w' H T p name (AV s l)/\A5 (One H) w w'):=by
 have c2:=h.c2;have fz:=h.fz 2;have W:=h.s2 (AV s l);have I:=Jk s l X;obtain⟨s1,z⟩:∃s1,AV s l=s1:=⟨_,rfl⟩;have hq:=A4 z;rw[z]at W I ⊢;have c3:=W.c2;have k1:A5 (One H) w (w.sC H 2 (.int .u32 s1)):=(A5.C _ w).ao (show One H H from rfl) 2 _;have ap:=JV l (Ca s1);have hsb:=Hd s1;have aB:=A4 W;have aA:=A4 k1;have O:l.length<=9223372036854775807:=by omega
 go_enter func169,ntmps169
 go_wp2_with (first|(go_at_call 118;refine(UG _ _ _ X O).k ?_;rintro w' rfl;rw[hq.o])|(go_at_call 205;refine(Wi _ _ I).k ?_;rintro w' Y));go_ret;exact⟨rfl,aB.o.ak Y (by simp),aA.o.AJ Y (by simp)⟩
def Nd(w:World)(X:Nat)(T:TypeId)(p:Value)(name:ByteArray)(s:Nat)(l t:List UInt8)(h:Be w X T p name s)(hs:s<4294967296)(ht:t.length=4)(hl:l.length<=9223372036854775803):
 Aj 120 #[A7 X,.string ⟨(l++t).toArray⟩] w (Au (.tuple #[.string ⟨l.toArray⟩,.bool (decide (Ca (AV s l)=t))]) λw'=>Be w' X T p name (AV s l)/\A5 (One X) w w'):=by
 have z:(l++Ca (AV s l)==l++t)=decide (Ca (AV s l)=t):=by
  by_cases H:Ca (AV s l)=t
  ·rw[CJ H,H];exact Um _
  ·rw[Dw H];exact Hn.2 λh=>H (Ve h)
 generalize hbb:decide (Ca (AV s l)=t)=bb at z ⊢;have Y:=A4 z;have hlt0:((ByteArray.mk (l++t).toArray).size:Int)=(l.length:Int)+4:=by show (((l++t).length:Nat):Int)=_;simp[ht]
 have hn4:¬((l.length:Int)+4<4):=by omega
 go_enter func120,ntmps120
 go_wp2;refine Hb 11 (λy=>{tmps:=#[A7 X,.string ⟨(l++t).toArray⟩,undef,undef,.string ⟨#[]⟩,.bool false,y 10,undef,.string ⟨(l++t).toArray⟩,A0 ((l.length:Int)+4),.bool false,y 0,y 1,y 2,y 3,y 4,y 5,y 6,y 7,y 8,y 9,undef,undef,undef,undef,undef,undef,undef,undef],defers:=[]}) (λ_=>undef)
  (λw'=>Be w' X T p name s/\A5 Ab w w') (A5 Ab)
  (λj x w'=>match j with
   | 0=>x=.string ⟨(l++t).toArray⟩
   | 1=>x=.string ⟨(l++t).toArray⟩
   | 2=>x=A0 ((l.length:Int)+4)
   | 3=>x=A0 l.length
   | 4=>x=.string ⟨l.toArray⟩
   | 5=>x=.string ⟨(l++t).toArray⟩
   | 6=>x=.string ⟨(l++t).toArray⟩
   | 7=>x=A0 ((l.length:Int)+4)
   | 8=>x=A0 l.length
   | 9=>x=.string ⟨t.toArray⟩
   | 10=>x=.string ⟨l.toArray⟩
   | _=>True)
  (by kernel_rfl) (by kernel_rfl) rfl ?_ ?_ ?_ ?_
 ·exact⟨h,(A5.C _ _).ad⟩
 ·intro j x w1 w2 hR hS' hG;split at hG<;>exact hG
 ·simp only[EU,EL,FP,HJ]
  repeat' (with_reducible apply And.intro)
  all_goals refine⟨?_,(by intro y wx _ _ h;exact Bool.noConfusion h),λy x=>rfl⟩
  all_goals
   intro y wx hS hd hw K hK;obtain⟨O,W⟩:=hS;simp[Gc,Region.binds,Fc,List.filter_cons]at hd;have e1:(ByteArray.mk (l++t).toArray).extract 0 l.length=⟨l.toArray⟩:=by
    rw[extract_mk];simp
   have e9:(ByteArray.mk (l++t).toArray).extract l.length (l.length+4)=⟨t.toArray⟩:=by
    rw[extract_mk,Vb,show l.length+4-l.length=t.length by omega,Cj]
   (have g1:(l.length:Int)<=(l.length:Int)+4:=by omega);have ew:IntKind.i64.wrap (l.length:Int)=l.length:=GN (by omega);have aA:=A4 O;have I:=A4 W;have aE:=A4 hK
  all_goals dsimp only
  all_goals try go_simp
  all_goals try with_reducible exact aE.o _ _ _ rfl (by simp[Act.put,hd]) (A5.C _ _) ⟨aA.o,I.o⟩
 ·intro y wx hS hG;obtain⟨O,W⟩:=hS;have h10:y 10=.string ⟨l.toArray⟩:=hG 10 (by omega);have h9:y 9=.string ⟨t.toArray⟩:=hG 9 (by omega);have hk:=O;have I:=A4 W;have ap:=JV l t;have hq:=Y.o;have aF:=A4 (QQ wx X T p name s l hk hs hl);have hlt:(ByteArray.mk (l++t).toArray).size=l.length+4:=by show (l++t).length=_;simp[ht]
  go_wp2_with (go_at_call 169;refine aF.k ?_;rintro w'⟨hb,hc⟩;have aB:=A4 hb;have aD:=A4 hc);go_ret2;exact⟨rfl,aB.o,I.o.ae (λ_ _ h=>h.elim) |>.tr aD.o⟩
def VI(w:World)(H:Nat)(l:List UInt8)(hl:l.length<4):
 Aj 120 #[A7 H,.string ⟨l.toArray⟩] w (Au (.tuple #[.string ⟨#[]⟩,.bool false]) λw'=>w=w'):=by
 have z:(ByteArray.mk l.toArray).size=l.length:=by show l.toArray.size=_;simp
 have h:((ByteArray.mk l.toArray).size:Int)<4:=by rw[z];omega
 generalize htx:ByteArray.mk l.toArray=tx at h ⊢
 go_enter func120,ntmps120
 go_wp2;go_ret2;exact⟨rfl,rfl⟩
end
section
open Go.RowKit
attribute [local go_sem ↓] Go.wp_at_zero Go.wp_at_succ
def GK(h a b z Ac:Int)(p:Pu):Bool:=decide (p.1=h)&&decide (a<=p.2.1)&&decide (p.2.1<=b)&&H5 p.2.1 z Ac
def Fk(h a b z Ac:Int)(l:List Pt)(p:Pu):List Pt:=if GK h a b z Ac p then CT l p.2.1 p.2.2 else l
def refQ(puts:List Pu)(h a b z Ac:Int):List Pt:=puts.foldl (Fk h a b z Ac) []
def Oj(l:List Pt)(t v:Int):l.length<=(CT l t v).length/\(CT l t v).length<=l.length+1:=by
 induction l with
 | nil=>simp[CT]
 | cons e r ih=>
  obtain⟨a,b⟩:=e;simp only[CT];split
  ·simp only[BM];omega
  ·split<;>simp only[BM]<;>omega
def XO(puts:List Pu)(k:Nat)(H:k<puts.length)(h a b z Ac:Int):refQ (puts.take (k+1)) h a b z Ac=Fk h a b z Ac (refQ (puts.take k) h a b z Ac) (puts[k]'H):=by
 unfold refQ;rw[Dz H,MT];rfl
def XS(puts:List Pu)(h a b z Ac:Int)(k:Nat)(hk:k<=puts.length):E7 (refQ (puts.take k) h a b z Ac)/\(refQ (puts.take k) h a b z Ac).length<=k:=by
 induction k with
 | zero=>simp[refQ,E7]
 | succ k ih=>
  have⟨h1,h2⟩:=ih (by omega);rw[XO puts k (by omega)];unfold Fk;split
  ·have:=(Oj (refQ (puts.take k) h a b z Ac) (puts[k]'(by omega)).2.1 (puts[k]'(by omega)).2.2).2;exact⟨KM h1 _ _,by omega⟩
  ·exact⟨h1,by omega⟩
def Gf(x y:Int):Int:=if x<y then -1 else if y<x then 1 else 0
def A1F(x y:Int)(w:World):Aj 81 #[A0 x,A0 y] w (Au (A0 (Gf x y)) λw'=>w=w'):=by
 by_cases h:x<y
 ·have q:Hid (Gf x y = -1):=by unfold Hid Gf;rw[Ah h]
  go_enter func81,ntmps81
  go_wp2;go_ret;rw[q.o];exact⟨rfl,rfl⟩
 ·by_cases z:y<x
  ·(have q:Hid (Gf x y=1):=by unfold Hid Gf;rw[Ae h,Ah z])
   go_enter func81,ntmps81
   go_wp2;go_ret;rw[q.o];exact⟨rfl,rfl⟩
  ·(obtain rfl:x=y:=by omega);(have q:Hid (Gf x x=0):=by unfold Hid Gf;rw[Ae h,Ae z])
   go_enter func81,ntmps81
   go_wp2;go_ret;rw[q.o];exact⟨rfl,rfl⟩
def OP(t v y:Int)(w:World):Aj 114 #[.agg #[A0 t,A0 v],A0 y] w (Au (A0 (Gf t y)) λw'=>A5 Ab w w'):=by
 go_enter func114,ntmps114
 go_wp2_with (go_at_call 81;refine(A1F _ _ _).k ?_;rintro w' rfl);go_ret;exact⟨rfl,(A5.C _ w).aj _⟩
def EH(l:List Pt)(t:Int):Bool:=(l[BR l t]?).any λx=>x.1==t
def Xl(w:World)(lv:Value)(L:List Pt)(t:Int)(hL:El w lv L)(hs:E7 L)(hl:L.length<1099511627776):
 Aj 113 #[lv,A0 t,.func (.func 114) #[] #[]] w (Au (.tuple #[A0 (BR L t),.bool (EH L t)]) λw'=>A5 Ab w w'):=by
 obtain⟨a,cap,rfl,h1,h2,h3,_,_⟩:=Bb hL;unfold maxLen at h2;have aK:=A4 hL;have aM:=A4 hs;have aL:=A4 h3;have aE:=Jw L t;have aJ:Hid (∀W,A5 Ab w W->∀k (hk:k<L.length),∃g,a=some (Ad g 0)/\Aa W g (k*2) (A0 (L[k]'hk).1)/\Aa W g (k*2+1) (A0 (L[k]'hk).2)):=by
  intro W hc k hk;obtain⟨g,rfl⟩:=aL.o (by omega);have hW:El W (AN g L.length cap) L:=AA aK.o λg hg=>hc.Ao g (AG aK.o hg) (λh=>h);exact⟨g,rfl,hW.bF k hk⟩
 go_enter func113,ntmps113
 go_wp2;go_loopw [9,10] (λiv jv wq=>∃i j:Nat,i<=j/\j<=L.length/\iv=A0 i/\jv=A0 j/\Hid (i<=BR L t/\BR L t<=j)/\Hid (A5 Ab w wq)) (λiv jv _=>(intOf jv).toNat-(intOf iv).toNat)
 ·exact⟨0,L.length,C8 _,Aq _,rfl,rfl,⟨C8 _,aE⟩,A5.C _ _⟩
 ·obtain⟨i,j,hij,hj,rfl,rfl,I,z⟩:=hrel;by_cases hlt:i<j
  ·obtain⟨m,hm⟩:∃m,(i+j)/2=m:=⟨_,rfl⟩;(have aH:i<=m:=by omega);(have hmj:m<j:=by omega);(have X:m<L.length:=by omega);obtain⟨g,rfl,c1,c2⟩:=aJ.o _ z.o m X;obtain⟨⟨tm,vm⟩,aD⟩:∃x,L[m]'X=x:=⟨_,rfl⟩;rw[aD]at c1 c2;have aB:=A4 aD;have i0:=Cd i;(have hsum:(i:Int)+(j:Int)<=9223372036854775807:=by omega);(have hlt':(i:Int)<(j:Int):=by omega);by_cases aF:tm<t
   ·(have hc:Gf tm t<0:=by unfold Gf;rw[Ah aF];omega);have hp:Hid (m+1<=BR L t):=by
     unfold Hid;apply PF;intro hn;have:=Kz aM.o (show BR L t<=m by omega) X;rw[aB.o]at this;simp only at this;omega
    go_wp2_with (go_at_call 114;refine(OP _ _ _ _).k ?_;rintro w' H;have O:=A4 H);go_roundw
    ·exact⟨m+1,j,by omega,hj,by rw[show ((i:Int)+(j:Int))/2+1=((m+1:Nat):Int) from by omega],rfl,⟨hp.o,I.o.2⟩,z.o.tr O.o⟩
    ·simp[intOf];omega
   ·have hc:0<=Gf tm t:=by
     unfold Gf;rw[Ae aF];split<;>omega
    have hp:Hid (BR L t<=m):=by
     unfold Hid;apply PF;intro hn;have:=Ky (show m<BR L t by omega) X;rw[aB.o]at this;simp only at this;omega
    go_wp2_with (go_at_call 114;refine(OP _ _ _ _).k ?_;rintro w' H;have O:=A4 H);go_roundw
    ·exact⟨i,m,aH,by omega,rfl,by rw[show ((i:Int)+(j:Int))/2=(m:Int) from by omega],⟨I.o.1,hp.o⟩,z.o.tr O.o⟩
    ·simp[intOf];omega
  ·(obtain rfl:i=j:=by omega);(have aG:Hid (BR L t=i):=by have:=I.o;unfold Hid;omega);by_cases Y:i<L.length
   ·obtain⟨g,rfl,c1,c2⟩:=aJ.o _ z.o i Y;obtain⟨⟨ti,vi⟩,aA⟩:∃x,L[i]'Y=x:=⟨_,rfl⟩;rw[aA]at c1 c2;have i0:=Cd i;(have i1:(i:Int)<(L.length:Int):=by omega);have aI:Hid (EH L t=(Gf ti t==0)):=by
     unfold Hid EH;rw[aG.o,Ef Y,aA];simp only[Option.any_some];unfold Gf;by_cases e1:ti<t
     ·rw[Ah e1];have:ti≠t:=by omega
      simp[this]
     ·rw[Ae e1];by_cases e2:t<ti
      ·rw[Ah e2];have:ti≠t:=by omega
       simp[this]
      ·rw[Ae e2];have:ti=t:=by omega
       simp[this]
    go_wp2_with (go_at_call 114;refine(OP _ _ _ _).k ?_;rintro w' H;have O:=A4 H);go_ret2;rw[aG.o,aI.o];exact⟨rfl,z.o.tr O.o⟩
   ·(have hil':(L.length:Int)<=(i:Int):=by omega);have aI:Hid (EH L t=false):=by
     unfold Hid EH;rw[aG.o,MS (by omega)];rfl
    go_wp2;go_ret2;rw[aG.o,aI.o];exact⟨rfl,z.o⟩
structure MI (w:World) (b o:Nat) (L:List Pt) (lv:Value):Prop where
 Ek:w.cell? ⟨b,o,none⟩=some lv
 Bx:El w lv L
 G6:E7 L
 DG:L.length<1099511627776
def Ox(w:World)(b o:Nat)(L:List Pt)(lv:Value)(t:Int)(h:MI w b o L lv):
 Aj 67 #[.pointer (some (Ad b o)),A0 t] w (Au (.tuple #[A0 (BR L t),.bool (EH L t)]) λw'=>A5 Ab w w'):=by
 have hc:=h.Ek;obtain⟨a,cap,rfl,_⟩:=Bb h.Bx;have H:=A4 h
 go_enter func67,ntmps67
 go_wp2_with (go_at_call 113;refine(Xl _ _ _ _ H.o.Bx H.o.G6 H.o.DG).k ?_;rintro w' z;have I:=A4 z);go_ret2;exact⟨rfl,I.o⟩
def Tryz.cM:(Tryz.prog.info? 88).map (λi=>(i.zero,i.size,i.bytes))=some (some (.agg #[A0 0,A0 0]),2,16):=by kernel_rfl
def Yp{l:List Pt}(H:E7 l)(t:Int):BR l (t+1)=BR l t+(if EH l t then 1 else 0):=by
 have W:=Jw l t;by_cases h:EH l t=true
 ·rw[Ah h];unfold EH at h;by_cases X:BR l t<l.length
  ·rw[Ef X]at h;simp at h;refine RL H (by omega) (λi z O=>?_) λi z I=>?_
   ·by_cases e:i=BR l t
    ·subst e;omega
    ·have:=Ky (show i<BR l t by omega) z;omega
   ·have:=Lg.1 H (BR l t) i X z (by omega);rw[h]at this;omega
  ·rw[MS (by omega)]at h;cases h
 ·rw[Ae h,Pg];refine RL H W (λi z O=>?_) λi z I=>?_
  ·have:=Ky O z;omega
  ·have h2:=Kz H I z;by_cases e:(l[i]'z).1=t
   ·exfalso;apply h;by_cases Y:i=BR l t
    ·subst Y;unfold EH;rw[Ef z];simpa using e
    ·have:=Lg.1 H (BR l t) i (by omega) z (by omega);have:=Kz H (Aq (BR l t)) (show BR l t<l.length by omega);omega
   ·omega
def Yq{l:List Pt}(z:E7 l){a b:Int}(h:a<=b):BR l a<=BR l b:=by
 apply PF;intro hn;have hl:=Jw l a;have h1:=Ky (show BR l b<BR l a by omega) (by omega);have h2:=Kz z (Aq (BR l b)) (by omega);omega
def piece(l:List Pt)(a b:Int):List Pt:=l.filter λx=>decide (a<=x.1)&&decide (x.1<=b)
def Yr{l:List Pt}(h:E7 l)(a b:Int):piece l a b=(l.take (BR l b+(if EH l b then 1 else 0))).drop (BR l a):=by
 rw[<-Yp h b,<-A0P h a (b+1)];unfold piece
 congr 1
 funext x
 have:decide (x.1<=b)=decide (x.1<b+1):=by
  apply Vl.2;simp;omega
 rw[this]
def A14(w:World)(rb ro:Nat)(L:List Pt)(lv:Value)(a b:Int)(h:MI w rb ro L lv):
 Aj 41 #[.pointer (some (Ad rb ro)),A0 a,A0 b] w λe w'=>∃v,e=.returned v/\El w' v (piece L a b)/\A5 Ab w w'/\∀g,v.ownBlock=some g->w.heap.size<=g:=by
 have H:=A4 h;have hc:=h.Ek;obtain⟨ad,cap,rfl,h1,h2,h3,h4,h5⟩:=Bb h.Bx;unfold maxLen at h2;have HA:=A4 h3;have aS:=H7 w _ hc;have aK:Hid (∀W,A5 Ab w W->MI W rb ro L (.slice ad L.length cap)):=λW X=>
  ⟨(Dp (X.Ao rb aS (λh=>h))).trans H.o.Ek,AA H.o.Bx λg hg=>X.Ao g (AG H.o.Bx hg) (λh=>h),H.o.G6,H.o.DG⟩
 have⟨i0,hi,hz0,hz1,hz2⟩:=Eb Tryz.cM;have hsm:=h.DG;have aW:=A4 h4;have aV:=A4 h5;by_cases hab:b<a
 ·have q:Hid (piece L a b=[]):=by
   unfold Hid piece;rw[A26];intro x _;simp;omega
  go_enter func41,ntmps41
  go_wp2;go_ret;exact⟨_,rfl,by rw[q.o];exact CL _ _ _ _,A5.C _ _,by simp[Value.ownBlock]⟩
 ·have aM:a<=b:=by omega
  have aJ:=Yr H.o.G6 a b;have hm:=Yq H.o.G6 aM;have aR:=Jw L b;have aA:EH L b=true->BR L b<L.length:=λhh=>by
   unfold EH at hh;apply PF;intro hn;rw[MS (by omega)]at hh;cases hh
  obtain⟨i,aI⟩:∃i,BR L a=i:=⟨_,rfl⟩;obtain⟨j,aB⟩:∃j,BR L b=j:=⟨_,rfl⟩;obtain⟨hs,aG⟩:∃hs,EH L b=hs:=⟨_,rfl⟩;rw[aI,aB]at hm;rw[aB]at aR;rw[aG,aB]at aA;rw[aI,aB,aG]at aJ;have aQ:Hid (∀W,A5 Ab w W->Aj 67 #[.pointer (some (Ad rb ro)),A0 a] W λe w'=>∃x,e=.returned (.tuple #[A0 i,.bool x])/\A5 Ab W w'):=λW X=>
   (Ox W rb ro L _ a (aK.o W X)).mono (by rintro e w'⟨rfl,h⟩;rw[aI];exact⟨_,rfl,h⟩)
  have aU:Hid (∀W,A5 Ab w W->Aj 67 #[.pointer (some (Ad rb ro)),A0 b] W (Au (.tuple #[A0 j,.bool hs]) λw'=>A5 Ab W w')):=λW X=>
   (Ox W rb ro L _ b (aK.o W X)).mono (by rintro e w'⟨rfl,h⟩;rw[aB,aG];exact⟨rfl,h⟩)
  have aP:=A4 aJ;have Y:Hid (∀W (n:Nat),A5 Ab w W->i<=n->n<=L.length->n=j+(if hs then 1 else 0)->∀v,(v=.slice (Option.map (λx=>x.add (i*2)) ad) (n-i) (cap-i)\/(n=i/\∃x c,v=.slice x 0 c))->Src Tryz.prog 2 43 v (n-i) (Bk (piece L a b)) W/\(piece L a b).length=n-i):=by
   intro W n X hin hnl hn v hv;(have aD:(piece L a b).length=n-i:=by rw[aP.o,<-hn,CM,BU];omega);have aO:=(aK.o W X).Bx;refine⟨?_,aD⟩;have aT:∀g,ad=some (Ad g 0)->∀(k:Nat) u,(Bk (piece L a b))[k]?=some u->Aa W g (i*2+k) u:=by
    intro g hg k u hk;subst hg;refine BB aO (g:=g) rfl ?_;rw[aP.o,<-hn,<-NJ,<-NH,Jb,Pn]at hk;split at hk
    ·exact hk
    ·cases hk
   have aE:n-i=0->∀x c,Src Tryz.prog 2 43 (.slice x 0 c) 0 (Bk (piece L a b)) W:=by
    intro h0 x c;have:piece L a b=[]:=MV (by omega);rw[this];cases x with
    | none=>exact Src.ofNil W underlying43 c
    | some y=>exact L9 W underlying43 _ 0 c [] rfl (by simp) (by simp)
   rcases hv with rfl|⟨hni,x,c,rfl⟩
   ·cases ad with
    | none=>
     have:=(aW.o rfl).1;(have h0:n-i=0:=by omega);rw[h0];exact aE h0 _ _
    | some x=>
     obtain⟨g,rfl⟩:=aV.o x rfl;refine L9 W underlying43 _ _ _ _ (by rw[Gt,aD]) (λk u hk=>?_) (NI _);have hx:Addr.add (Addr.add (Ad g 0) (i*2)) k=(Ad g (i*2+k)):=by
      unfold Addr.add;by_cases h1:i*2=0<;>by_cases h2:k=0<;>simp[h1,h2]
     rw[hx];exact aT g rfl k u hk
   ·(have h0:n-i=0:=by omega);rw[h0];exact aE h0 x c
  have HLEN:Hid ((piece L a b).length=j+(if hs then 1 else 0)-i):=by
   unfold Hid;rw[aJ,CM,BU];cases hs with
   | true=>have:=aA rfl;simp;omega
   | false=>simp;omega
  have j0:=Cd j;have iz:=Cd i;have hij:(i:Int)<=(j:Int):=by omega
  have hjc:(j:Int)<=(cap:Int):=by omega
  have hic:(i:Int)<=(cap:Int):=by omega
  have hbyt:(0+(j+1-i))*16<=140737488355328:=by omega
  have aH:Hid (∀(W w3:World) (n:Nat) (b3:Option Addr) (z:Nat),A5 Ab w W->(piece L a b).length=n->App W w3 88 2 (.slice none 0 0) (.slice b3 (0+n) z) (0+n) ([]++Bk (piece L a b))->El w3 (.slice b3 n z) (piece L a b)/\A5 Ab w w3/\∀g,(Value.slice b3 n z).ownBlock=some g->w.heap.size<=g):=by
   intro W w3 n b3 z X hn hA;refine⟨?_,X.tr hA.bL,λg hg=>?_⟩
   ·have:=hA.AP;unfold El;rw[hn];simpa using this
   ·have:=hA.AS g (by simpa using hg);have:=X.Am;omega
  cases hs with
  | false=>
   by_cases aN:cap=i
   ·obtain rfl:i=cap:=aN.symm;(obtain rfl:j=i:=by omega);have aL:Hid (∀W x c,A5 Ab w W->Src Tryz.prog 2 43 (.slice x 0 c) 0 (Bk (piece L a b)) W/\(piece L a b).length=0):=λW x c X=>by
     have:=Y.o W j X (Aq _) (by omega) (by simp) (.slice x 0 c) (.inr ⟨rfl,x,c,rfl⟩)
     rwa [UU]at this
    go_enter func41,ntmps41
    go_wp2_with (fail);refine(aQ.o _ (A5.C _ _)).mono ?_;rintro e w1⟨x,rfl,k1⟩;have aF:=A4 k1;go_wp2_with (fail);refine(aU.o _ aF.o).k ?_;rintro w2 k2;have O:=A4 <| aF.o.tr k2;have c2:=(aK.o _ O.o).Ek;go_wp2_with (at_builtin;refine De rfl (.const (.slice none 0 0)) (.tmp 35) 43 43 rfl 88 i0 _ 2 16 underlying43 hi hz0 hz1 hz2 rfl (by decide) (.slice none 0 0) 0 [] (by rfl) (CL _ 0 88 2) _ 0 _ (by rfl) (aL.o _ _ _ O.o).1 (by omega) ?_;intro b3 z w3 hA;have I:=A4 (aH.o _ w3 _ b3 z O.o (aL.o _ none 0 O.o).2 hA));go_ret;exact⟨_,rfl,I.o.1,I.o.2.1,I.o.2.2⟩
   ·skip
    go_enter func41,ntmps41
    go_wp2_with (fail);refine(aQ.o _ (A5.C _ _)).mono ?_;rintro e w1⟨x,rfl,k1⟩;have aF:=A4 k1;go_wp2_with (fail);refine(aU.o _ aF.o).k ?_;rintro w2 k2;have O:=A4 <| aF.o.tr k2;have c2:=(aK.o _ O.o).Ek;go_wp2_with (at_builtin;refine De rfl (.const (.slice none 0 0)) (.tmp 35) 43 43 rfl 88 i0 _ 2 16 underlying43 hi hz0 hz1 hz2 rfl (by decide) (.slice none 0 0) 0 [] (by rfl) (CL _ 0 88 2) _ (j-i) _ (by rfl) (Y.o _ j O.o (by omega) (by omega) (by simp) _ (.inl rfl)).1 (by omega) ?_;intro b3 z w3 hA;have I:=A4 (aH.o _ w3 _ b3 z O.o (Y.o _ j O.o (by omega) (by omega) (by simp) _ (.inl rfl)).2 hA));go_ret;exact⟨_,rfl,I.o.1,I.o.2.1,I.o.2.2⟩
  | true=>
   have hjl:=aA rfl;(have hjc':(j:Int)+1<=(cap:Int):=by omega);(have hij':(i:Int)<=(j:Int)+1:=by omega);(have hjt:((j:Int)+1).toNat=j+1:=by omega);by_cases aN:cap=i
   ·exfalso;omega
   ·skip
    go_enter func41,ntmps41
    go_wp2_with (fail);refine(aQ.o _ (A5.C _ _)).mono ?_;rintro e w1⟨x,rfl,k1⟩;have aF:=A4 k1;go_wp2_with (fail);refine(aU.o _ aF.o).k ?_;rintro w2 k2;have O:=A4 <| aF.o.tr k2;have c2:=(aK.o _ O.o).Ek;go_wp2_with (at_builtin;refine De rfl (.const (.slice none 0 0)) (.tmp 35) 43 43 rfl 88 i0 _ 2 16 underlying43 hi hz0 hz1 hz2 rfl (by decide) (.slice none 0 0) 0 [] (by rfl) (CL _ 0 88 2) _ ((j+1)-i) _ (by rfl) (Y.o _ (j+1) O.o (by omega) (by omega) (by simp) _ (.inl rfl)).1 (by omega) ?_;intro b3 z w3 hA;have I:=A4 (aH.o _ w3 _ b3 z O.o (Y.o _ (j+1) O.o (by omega) (by omega) (by simp) _ (.inl rfl)).2 hA));go_ret;exact⟨_,rfl,I.o.1,I.o.2.1,I.o.2.2⟩
structure Ho (w:World) (b o:Nat) (cs:Array Value) (T:Nat) (L:List Pt) (lv:Value):Prop where
 Ai:w.heap[b]?=some (.cells cs T (0,0))
 Cu:cs[o]?=some lv
 Bx:El w lv L
 G6:E7 L
 DG:L.length<1099511627776
def Ho.cE{w:World}{b o:Nat}{z:Array Value}{T:Nat}{L:List Pt}{lv:Value}(h:Ho w b o z T L lv):MI w b o L lv:=
 ⟨by simp[World.cell?,h.Ai,h.Cu],h.Bx,h.G6,h.DG⟩
def Ho.An{w w':World}{b o:Nat}{z:Array Value}{T:Nat}{L:List Pt}{lv:Value}(h:Ho w b o z T L lv)(H:A5 Ab w w'):Ho w' b o z T L lv:=
 ⟨(H.Ao b (Bo h.Ai) (λh=>h)).trans h.Ai,h.Cu,AA h.Bx λg I=>H.Ao g (AG h.Bx I) (λh=>h),h.G6,h.DG⟩
structure Ir (w w':World) (b o:Nat) (cs:Array Value) (T:Nat) (lv:Value) (L':List Pt) (lv':Value):Prop where
 Bx:Ho w' b o (cs.setIfInBounds o lv') T L' lv'
 An:A5 (λk=>k=b\/lv.ownBlock=some k) w w'
 AP:∀g,lv'.ownBlock=some g->lv.ownBlock=some g\/w.heap.size<=g
def Lv{P:Program}(w:World){ops:Array Oper}{rest:List Oper}{o:Oper}{a:Act}{Q:Exit->Act->World->Prop}(z:o.guard=none)(d s:Operand)(t I:TypeId)(X:o.op=.call {callee:=.builtin .copy,args:=#[d,s],argTypes:=#[t,I]})(v u:Value)(O:a.eval d=v)(hs:a.eval s=u){H:Value}{w':World}(Y:(Builtin.copy_ #[t,I] o.type #[v,u]).run P w=.ok H w')(h:wpList P ops Q rest (a.put o.dst H) w'):wpList P ops Q (o::rest) a w:=
 wpList_plain z λ_ W=>by
  unfold Oper.wp execOp;simp only[X,resolve,invoke,builtin,Sem.run_bind,Sem.run_pure,Result.andThen_ok,List.map_toArray,F8,List.map_nil,O,hs,Y];exact W _ _ h
def Dv(h:List Value)(L:List Pt)(i:Nat):List Value:=h.take ((i+1)*2)++Bk (L.drop i)++h.drop ((i+1)*2+(Bk (L.drop i)).length)
def DJ(c:List Value)(i:Nat)(t v:Int):List Value:=c.take (i*2)++[A0 t,A0 v]++c.drop (i*2+2)
def Tm(L:List Pt)(i:Nat)(t v:Int):Bk (L.take i++(t,v):: L.drop i)=Bk (L.take i)++[A0 t,A0 v]++Bk (L.drop i):=by
 rw[RK];simp[Bk]
def Tv(h:List Value)(L:List Pt)(i:Nat)(hi:i<=L.length)(hlen:(L.length+1)*2<=h.length):(Dv h L i).length=h.length:=by
 have z:(Bk (L.drop i)).length=(L.length-i)*2:=by rw[Gt,CM]
 unfold Dv;simp only[AX,BU,CM,z];omega
def Ol(c:List Value)(i:Nat)(t v:Int)(h:i*2+2<=c.length):(DJ c i t v).length=c.length:=by
 unfold DJ;simp only[AX,BU,CM,BM,Gk];omega
def A0o(L:List Pt)(i:Nat)(hi:i<=L.length)(t v:Int)(h:List Value)(z:h.take (i*2)=Bk (L.take i))(hlen:(L.length+1)*2<=h.length):
 (DJ (Dv h L i) i t v).take ((L.length+1)*2)=Bk (L.take i++(t,v):: L.drop i):=by
 have H:(Bk (L.drop i)).length=(L.length-i)*2:=by rw[Gt,CM]
 have O:(h.take ((i+1)*2)).length=(i+1)*2:=by rw[BU];omega
 have W:(Dv h L i).take (i*2)=Bk (L.take i):=by
  unfold Dv;rw[C6,GW (by rw[O];omega),K4,show min (i*2) ((i+1)*2)=i*2 from by omega,z]
 have X:(Dv h L i).drop (i*2+2)=Bk (L.drop i)++h.drop ((i+1)*2+(Bk (L.drop i)).length):=by
  unfold Dv;rw[C6]
  conv=>lhs;rw[show i*2+2=(h.take ((i+1)*2)).length from by rw[O];omega]
  rw[Vb]
 have I:(Bk (L.take i)++[A0 t,A0 v]++Bk (L.drop i)).length=(L.length+1)*2:=by
  simp only[AX,Gt,H,BU,BM,Gk];omega
 unfold DJ;rw[W,X,Tm,<-C6,<-I,K5]
structure HU (w w':World) (lv:Value) (L':List Pt) (lv':Value):Prop where
 Bx:El w' lv' L'
 An:A5 (λk=>lv.ownBlock=some k) w w'
 AP:∀g,lv'.ownBlock=some g->lv.ownBlock=some g\/w.heap.size<=g
def A0e(w:World)(g cap:Nat)(L:List Pt)(i H:Nat)(t v:Int)(hL:El w (AN g L.length cap) L)(hi:i<L.length)(W:L.length+1<=cap)(hsm:L.length<1099511627776)(hv:w.heap[H]?=some (.cells #[A0 t,A0 v] 88 (0,0)))(aD:H≠g):
 Aj 90 #[AN g L.length cap,A0 i,AN H 1 1] w λe w'=>∃lv',e=.returned lv'/\HU w w' (AN g L.length cap) (L.take i++(t,v):: L.drop i) lv':=by
 have⟨cur,hg,hcs,htake,_,hcm⟩:=RU hL;unfold maxLen at hcm;have⟨i0,hi0,hz0,hz1,hz2⟩:=Eb Tryz.cM;have aK:∀lb cb,(callFunc 134 #[AN H 1 1,.slice (some (Ad g ((i+1)*2))) lb cb]).run Tryz.prog w=.ok (.value (.bool false)) w:=λlb cb=>by
  have aM:∀w,(Go.sizeOf 88).run Tryz.prog w=.ok 2 w:=λw=>by simp[sizeOf,typeInfo,hi0,hz1]
  rw[Xm func134 (by kernel_rfl) (by kernel_rfl) (by kernel_rfl) (e:=Extern.SlicesOverlaps.overlaps #[43,43] #[4]) (by kernel_rfl),
   Lib.run_overlaps_apart w 43 4 88 underlying43 2 aM (Ad H 0) (Ad g ((i+1)*2)) 1 1 lb cb aD 88 88 2 cur.size (by simp[World.shape?,hv]) (by simp[World.shape?,hg]) (by rw[hcs];omega) (by simp[World.frozen?,hv]) (by simp[World.frozen?,hv])]
  rfl
 have aH:(L.length+1)*2<=cur.toList.length:=by have:=Jh (xs:=cur);omega
 have z:(Dv cur.toList L i).length=cap*2:=by rw[Tv _ _ _ (by omega) aH,Jh,hcs]
 have aG:(Bk (L.drop i)).length=(L.length-i)*2:=by rw[Gt,CM]
 have aJ:cur.toList.take (i*2)=Bk (L.take i):=by
  rw[show i*2=min (i*2) (L.length*2) from by omega,<-K4,htake,NH]
 have aN:∀(x y:Nat),Addr.add (Ad g x) y=(Ad g (x+y)):=λx y=>by unfold Addr.add;by_cases h:y=0<;>simp[h]
 have aO:∀(y:Nat),Addr.add (Ad H 0) y=(Ad H y):=λy=>by unfold Addr.add;by_cases h:y=0<;>simp[h]
 have aE:Hid (∀Y O sc,(Builtin.copy_ #[43,43] Y #[.slice (some (Ad g ((i+1)*2))) (L.length-i) O,.slice (some (Ad g (i*2))) (L.length+1-i) sc]).run Tryz.prog w.drew=.ok (goInt ((L.length-i:Nat):Int)) (w.drew.setRow g (Dv cur.toList L i).toArray)):=λY O sc=>
  LH w.drew _ _ Y 88 i0 2 g ((i+1)*2) _ O (Ad g (i*2)) _ sc (L.length-i) cur 88 (Bk (L.drop i)) underlying43 hi0 hz1 hg (by simp only[UX];split<;>omega) aG
   (λj u I=>by
    rw[aN];refine BB (w:=w) hL (g:=g) rfl ?_
    rw[<-NJ,Jb]at I;exact I)
   (by rw[aG,hcs];omega) (NI _)
 have aB:Hid (∀Y O,(Builtin.copy_ #[43,43] Y #[.slice (some (Ad g (i*2))) (L.length+1-i) O,AN H 1 1]).run Tryz.prog (w.drew.setRow g (Dv cur.toList L i).toArray)=.ok (goInt ((1:Nat):Int)) ((w.drew.setRow g (Dv cur.toList L i).toArray).setRow g (DJ (Dv cur.toList L i) i t v).toArray)):=λY O=>by
  have X:(w.drew.setRow g (Dv cur.toList L i).toArray).heap[g]?=some (.cells (Dv cur.toList L i).toArray 88 (0,0)):=Kr w.drew g cur _ 88 _ hg;have:=LH (P:=Tryz.prog) (w.drew.setRow g (Dv cur.toList L i).toArray) 43 43 Y 88 i0 2 g (i*2) (L.length+1-i) O (Ad H 0) 1 1 1 (Dv cur.toList L i).toArray 88 [A0 t,A0 v] underlying43 hi0 hz1 X (by simp only[UX];split<;>omega) rfl
   (λj u I=>by
    rw[aO];have aI:(w.drew.setRow g (Dv cur.toList L i).toArray).heap[H]?=some (.cells #[A0 t,A0 v] 88 (0,0)):=(Jr w.drew g H _ aD).trans hv;unfold World.cell?;rw[aI]
    match j,I with
    | 0,I=>simpa using I
    | 1,I=>simpa using I
    | j+2,I=>simp at I)
   (by simp only[Le,z,BM,Gk];omega) (by simp[Value.oneCell'])
  simpa[DJ] using this
 have aP:Hid (HU w ((w.drew.setRow g (Dv cur.toList L i).toArray).setRow g (DJ (Dv cur.toList L i) i t v).toArray) (AN g L.length cap) (L.take i++(t,v):: L.drop i) (AN g (L.length+1) cap)):=by
  have X:(w.drew.setRow g (Dv cur.toList L i).toArray).heap[g]?=some (.cells (Dv cur.toList L i).toArray 88 (0,0)):=Kr w.drew g cur _ 88 _ hg;have aL:((w.drew.setRow g (Dv cur.toList L i).toArray).setRow g (DJ (Dv cur.toList L i) i t v).toArray).heap[g]?=some (.cells (DJ (Dv cur.toList L i) i t v).toArray 88 (0,0)):=Kr _ g _ _ 88 _ X;have aA:(L.take i++(t,v):: L.drop i).length=L.length+1:=by simp;omega
  refine⟨?_,?_,λg' h'=>.inl h'⟩
  ·unfold El;rw[aA];refine⟨by rw[Gt,aA],.inr ⟨g,cap,_,rfl,C8 _,aL,W,by unfold maxLen;omega,?_,?_⟩⟩
   ·rw[Le,Ol _ _ _ _ (by rw[z];omega),z]
   ·exact A0o L i (by omega) t v cur.toList aJ aH
  ·refine⟨rfl,rfl,rfl,by simp,λk hk hn=>?_⟩;have aF:k≠g:=λe=>hn (by simp[Value.ownBlock,e]);rw[Jr _ g k _ aF,Jr _ g k _ aF];rfl
 have q1:((i:Int)==(L.length:Int))=false:=by simp;omega
 have q2:¬(cap=i):=by omega
 have q3:¬(cap=i+1):=by omega
 have q4:(i:Int)<=(L.length:Int):=by omega
 have q7:((L.length:Int)+1).toNat=L.length+1:=by omega
 have q8:((i:Int)+1).toNat=i+1:=by omega
 have q9:(i:Int)+1<=(L.length:Int)+1:=by omega
 have q10:=Cd i;have q11:(i:Int)<=(L.length:Int)+1:=by omega
 have q13:(0:Int)<=(i:Int)+1:=by omega
 have q12:IntKind.i64.wrap ((i:Int)+1)=(i:Int)+1:=by simp only[Jf];omega
 go_enter func90,ntmps90
 go_wp2_with (simp only[aK]);refine Ji 8 (by kernel_rfl) (by kernel_rfl) ?_;simp only[JY,EU,EL,DA,Dj]
 repeat still_step
 refine Jj ?_;refine Lv _ rfl (.tmp 73) (.tmp 76) 43 43 rfl _ _ (by rfl) (by rfl) (aE.o _ _ _) ?_;go_wp2_with (refine Lv _ rfl (.tmp 80) (.tmp 81) 43 43 rfl _ _ (by rfl) (by rfl) (aB.o _ _) ?_);go_ret;exact⟨_,rfl,aP.o⟩
end
end Go.Proofs.YtodcnkbblippnabGreatDoor
