/- Part 4 of a proof: walks of the program. -/
import Derived.Deep.RegionLaw
import Derived.BigRegion
import Derived.Test.YtodcnkbblippnaaGreatDoorPart03
namespace Go.Proofs.YtodcnkbblippnaaGreatDoor
set_option maxRecDepth 100000
set_option maxHeartbeats 32000000
set_option linter.defProp false
open Go.Proofs.Tryz
section
open Go.RowKit
def Ug(w:World)(s:Nat)(l:List UInt8)(h:s<4294967296)(d:l.length<=9223372036854775807):
 Ag 165 #[.int .u32 s,.string ⟨l.toArray⟩] w (Aj (.int .u32 (AW s l)) λw'=>w=w'):=
 A3j w s ⟨l.toArray⟩ h d
def Bg(w:World)(d:Nat)(T:TypeId)(p:Value)(name:ByteArray)(s:Nat):Prop:=w.heap[d]?=some (.cells #[p,.string name,.int .u32 s] T (0,0))
def Bg.c0{w:World}{d:Nat}{T:TypeId}{p:Value}{name:ByteArray}{s:Nat}(h:Bg w d T p name s):A8 w d 0 p:=by unfold Bg at h;simp[A8,World.cell?,h]
def Bg.c1{w:World}{d:Nat}{T:TypeId}{p:Value}{name:ByteArray}{s:Nat}(h:Bg w d T p name s):A8 w d 1 (.string name):=by unfold Bg at h;simp[A8,World.cell?,h]
def Bg.c2{w:World}{d:Nat}{T:TypeId}{p:Value}{name:ByteArray}{s:Nat}(h:Bg w d T p name s):A8 w d 2 (.int .u32 s):=by unfold Bg at h;simp[A8,World.cell?,h]
def Bg.fz{w:World}{d:Nat}{T:TypeId}{p:Value}{name:ByteArray}{s:Nat}(h:Bg w d T p name s)(o:Nat):w.frozen? (A9 d o)=false:=by unfold Bg at h;simp[World.frozen?,h]
def Bg.lt{w:World}{d:Nat}{T:TypeId}{p:Value}{name:ByteArray}{s:Nat}(h:Bg w d T p name s):d<w.heap.size:=By h
def Bg.s2{w:World}{d:Nat}{T:TypeId}{p:Value}{name:ByteArray}{s:Nat}(h:Bg w d T p name s)(s':Nat):Bg (w.setCell (A9 d 2) (.int .u32 s')) d T p name s':=BL h
def Bg.ai{S:Nat->Prop}{w w':World}{d:Nat}{T:TypeId}{p:Value}{name:ByteArray}{s:Nat}(h:Bg w d T p name s)(z:A4 S w w')(E:¬S d):Bg w' d T p name s:=z.ai h E
def QH(w:World)(z:Nat)(T:TypeId)(p:Value)(name:ByteArray)(s:Nat)(l:List UInt8)(h:Bg w z T p name s)(O:s<4294967296)(hl:l.length<=9223372036854775803):
 Ag 214 #[A6 z,.string ⟨l.toArray⟩] w (Aj (.string ⟨(l++C9 (AW s l)).toArray⟩) λw'=>Bg w' z T p name (AW s l)/\A4 (One z) w w'):=by
 have c2:=h.c2;have fz:=h.fz 2;have L:=h.s2 (AW s l);have E:=Jp s l O;obtain⟨s1,d⟩:∃s1,AW s l=s1:=⟨_,rfl⟩;have Y:=A1 d;rw[d]at L E ⊢;have c3:=L.c2;have X:A4 (One z) w (w.sC z 2 (.int .u32 s1)):=(A4.C _ w).aj (show One z z from rfl) 2 _;have ap:=JQ l (C9 s1);have hsb:=Hn s1;have aB:=A1 L;have aA:=A1 X;have I:l.length<=9223372036854775807:=by omega
 go_enter func214,ntmps214
 go_wp2_with (first|(go_at_call 165;refine(Ug _ _ _ O I).mono ?_;rintro e w'⟨rfl,rfl⟩;rw[Y.o])|(go_at_call 250;refine(WL _ _ E).mono ?_;rintro e w'⟨rfl,W⟩));go_ret;exact⟨rfl,aB.o.ai W (by simp),aA.o.Au W (by simp)⟩
def Nl(w:World)(O:Nat)(T:TypeId)(p:Value)(name:ByteArray)(s:Nat)(l t:List UInt8)(h:Bg w O T p name s)(hs:s<4294967296)(ht:t.length=4)(hl:l.length<=9223372036854775803):
 Ag 167 #[A6 O,.string ⟨(l++t).toArray⟩] w (Aj (.tuple #[.string ⟨l.toArray⟩,.bool (decide (C9 (AW s l)=t))]) λw'=>Bg w' O T p name (AW s l)/\A4 (One O) w w'):=by
 have d:(l++C9 (AW s l)==l++t)=decide (C9 (AW s l)=t):=by
  by_cases z:C9 (AW s l)=t
  ·rw[Ct z,z];exact TU _
  ·rw[Cu z];exact Hu.2 λh=>z (UR h)
 generalize hbb:decide (C9 (AW s l)=t)=bb at d ⊢;have W:=A1 d;have hlt0:((ByteArray.mk (l++t).toArray).size:Int)=(l.length:Int)+4:=by show (((l++t).length:Nat):Int)=_;simp[ht]
 have hn4:¬((l.length:Int)+4<4):=by omega
 go_enter func167,ntmps167
 go_wp2;refine Hl 11 (λy=>{tmps:=#[A6 O,.string ⟨(l++t).toArray⟩,undef,undef,.string ⟨#[]⟩,.bool false,y 10,undef,.string ⟨(l++t).toArray⟩,A0 ((l.length:Int)+4),.bool false,y 0,y 1,y 2,y 3,y 4,y 5,y 6,y 7,y 8,y 9,undef,undef,undef,undef,undef,undef,undef,undef],defers:=[]}) (λ_=>undef)
  (λw'=>Bg w' O T p name s/\A4 Aa w w') (A4 Aa)
  (λj x w'=>match j with
   | 0=>x=.string ⟨(l++t).toArray⟩
   | 1=>x=.string ⟨(l++t).toArray⟩
   | 2=>x=A0 ((l.length:Int)+4)
   | 3=>x=A0 l.length
   | 4=>x=.string ⟨l.toArray⟩
   | 5=>x=.string ⟨(l++t).toArray⟩
   | 6=>x=.string ⟨(l++t).toArray⟩
   | 7=>x=A0 ((l.length:Int)+4)
   | 8=>x=A0 l.length
   | 9=>x=.string ⟨t.toArray⟩
   | 10=>x=.string ⟨l.toArray⟩
   | _=>True)
  (by kernel_rfl) (by kernel_rfl) rfl ?_ ?_ ?_ ?_
 ·exact⟨h,(A4.C _ _).aa⟩
 ·intro j x w1 w2 hR hS' X;split at X<;>exact X
 ·simp only[Fs,Fe,FY,HR]
  repeat' (with_reducible apply And.intro)
  all_goals refine⟨?_,(by intro y wx _ _ h;exact Bool.noConfusion h),λy x=>rfl⟩
  all_goals
   intro y wx hS hd hw K hK;obtain⟨I,L⟩:=hS;simp[Gt,Region.binds,Fu,List.filter_cons]at hd;have e1:(ByteArray.mk (l++t).toArray).extract 0 l.length=⟨l.toArray⟩:=by
    rw[extract_mk];simp
   have e9:(ByteArray.mk (l++t).toArray).extract l.length (l.length+4)=⟨t.toArray⟩:=by
    rw[extract_mk,UO,show l.length+4-l.length=t.length by omega,Cc]
   (have g1:(l.length:Int)<=(l.length:Int)+4:=by omega);(have ew:IntKind.i64.wrap (l.length:Int)=l.length:=by simp[IntKind.wrap,IntKind.bits,IntKind.signed];omega);have Y:=A1 I;have E:=A1 L;have aD:=A1 hK
  all_goals dsimp only
  all_goals try go_simp
  all_goals try with_reducible exact aD.o _ _ _ rfl (by simp[Act.put,hd]) (A4.C _ _) ⟨Y.o,E.o⟩
 ·intro y wx hS X;obtain⟨I,L⟩:=hS;have h10:y 10=.string ⟨l.toArray⟩:=X 10 (by omega);have h9:y 9=.string ⟨t.toArray⟩:=X 9 (by omega);have hk:=I;have E:=A1 L;have ap:=JQ l t;have hq:=W.o;have aE:=A1 (QH wx O T p name s l hk hs hl);have hlt:(ByteArray.mk (l++t).toArray).size=l.length+4:=by show (l++t).length=_;simp[ht]
  go_wp2_with (go_at_call 214;refine aE.m ?_;rintro e w'⟨rfl,hb,hc⟩;have aA:=A1 hb;have aB:=A1 hc);go_ret2;exact⟨rfl,aA.o,E.o.ad (λ_ _ h=>h.elim) |>.tr aB.o⟩
def VP(w:World)(z:Nat)(l:List UInt8)(hl:l.length<4):
 Ag 167 #[A6 z,.string ⟨l.toArray⟩] w (Aj (.tuple #[.string ⟨#[]⟩,.bool false]) λw'=>w=w'):=by
 have h:(ByteArray.mk l.toArray).size=l.length:=by show l.toArray.size=_;simp
 have d:((ByteArray.mk l.toArray).size:Int)<4:=by rw[h];omega
 generalize htx:ByteArray.mk l.toArray=tx at d ⊢
 go_enter func167,ntmps167
 go_wp2;go_ret2;exact⟨rfl,rfl⟩
end
section
open Go.RowKit
attribute [local go_sem ↓] Go.wp_at_zero Go.wp_at_succ
def DW(D:DS):Int×DS:=
 ((bg D.n).2.1,if (bg D.n).2.1=0 then {D with AF:=D.A5,Aq:=[],n:=(bg D.n).2.2} else {D with n:=(bg D.n).2.2})
def BV.aF{w w':World}{b:Nat}{D:DS}{F:Nat->FC}{L vs vc:Value}{I:List Value}{aA:Nat->Value}(h:BV w b D F L vs vc I aA)(hb:AL w' b L L (.slice none 0 0) D.n)(hc:A4 (One b) w w'):BV w' b {D with AF:=D.A5,Aq:=[]} F L L (.slice none 0 0) [] aA:=by
 have E:∀(k:Nat) (c:Array Value) (e:Nat),w.heap[k]?=some (Obj.cells c e (0,0))->e≠95->w'.heap[k]?=w.heap[k]?:=λk c e E he=>
  hc.Am k (By E) (BM E h.Af he)
 have hd:=Aw h.A5 λg O=>by obtain⟨c,Y⟩:=B7 h.A5 O;exact E g _ _ Y (by decide)
 have d:∀f,({D with AF:=D.A5,Aq:=[]}:DS).Ap f->D.Ap f:=by
  rintro f (z|z|⟨c,hcm,z⟩)
  ·exact .inl z
  ·exact .inl z
  ·cases hcm
 refine⟨hb,hd,hd,Cp _ _ _ _,λi hi=>by simp at hi,λf z=>?_,λf f' g z X=>h.Gr f f' g (d f z) (d f' X)⟩;obtain⟨W,h2⟩:=h.BH f (d f z);refine⟨?_,Aw h2 λg O=>by obtain⟨c,Y⟩:=B7 h2 O;exact E g _ _ Y (by decide)⟩;unfold CY at W ⊢;rw[E f _ _ W (by decide)];exact W
def Wb(w:World)(b:Nat)(D:DS)(F:Nat->FC)(Ft:Nat->Prop)(h:Da w b D F Ft):
 Ag 86 #[A6 b] w (Aj (A0 (DW D).1) λw'=>Dq w Ft w' b (DW D).2 F):=by
 obtain⟨vd,vs,vc,vals,VB,hr,d⟩:=h;obtain⟨ad,cap,rfl,_⟩:=hr.A5.BP;have aA:=A1 hr;have Y:=A1 hr.Af;by_cases E:(bg D.n).2.1=0
 ·have q:Hid (DW D=(0,{D with AF:=D.A5,Aq:=[],n:=(bg D.n).2.2})):=by unfold Hid DW;rw[Ai E,E]
  have W:((bg D.n).2.1==0)=true:=by simpa using E
  have X:=A1 <| E;clear E
  go_enter func86,ntmps86
  go_wp2_with (go_at_call 121;refine(GX _ _ _ _ _ _ Y.o).mono ?_;rintro e w1⟨rfl,z,L⟩;have c01:=z.c0;have c11:=z.c1;have c21:=z.c2;have hf1:=z.fz);go_ret;refine⟨by rw[q.o];simp[X.o],?_⟩;rw[q.o];have r1:=aA.o.ak z L;have r2:=r1.aF ((z.s1 _).s2 (.slice none 0 0)) (((A4.C (One b) w1).aj rfl 1 _).aj rfl 2 (.slice none 0 0));refine Dq.bu ?_ r2 ?_
  ·exact(((L.ad (S':=Ft) λk _ hk=>by cases hk;exact d b .Af)).aj (d b .Af) 1 _).aj (d b .Af) 2 _
  ·intro k hk;left;cases hk using C5.bH with
   | Af=>exact d _ .Af
   | dir e=>exact d _ (.A5 e)
   | Ad e=>exact d _ (.A5 e)
   | An e=>simp[Value.ownBlock]at e
   | D9 hm e=>cases hm
   | BH I=>
    rcases I with I|I|⟨c,O,_⟩
    ·exact d _ (.BH (.inl I))
    ·exact d _ (.BH (.inl I))
    ·cases O
   | byt I e=>
    rcases I with I|I|⟨c,O,_⟩
    ·exact d _ (.bx (.inl I) e)
    ·exact d _ (.bx (.inl I) e)
    ·cases O
 ·have q:Hid (DW D=((bg D.n).2.1,{D with n:=(bg D.n).2.2})):=by unfold Hid DW;rw[Ae E]
  have W:((bg D.n).2.1==0)=false:=by simpa using E
  go_enter func86,ntmps86
  go_wp2_with (go_at_call 121;refine(GX _ _ _ _ _ _ Y.o).mono ?_;rintro e w1⟨rfl,z,L⟩);go_ret;refine⟨by rw[q.o];rfl,?_⟩;rw[q.o];exact aA.o.bP d z L
def AX(F:Nat->FC):List AN->Nat
 | []=>0
 | e::r=>(F e.2).1.length+AX F r
def Kg(F:Nat->FC)(a c:List AN):AX F (a++c)=AX F a+AX F c:=by
 induction a with
 | nil=>simp[AX]
 | cons e r ih=>simp[AX,ih];omega
def Q7(F:Nat->FC)(es:List AN)(k:Nat)(d:k<es.length):AX F (es.take (k+1))=AX F (es.take k)+(F (es[k]'d).2).1.length:=by
 rw[DL d,Kg];simp[AX]
def VN(F:Nat->FC)(es:List AN)(k:Nat):AX F (es.take k)<=AX F es:=by
 conv=>rhs;rw[<-E0 k es]
 rw[Kg];omega
def Jo(w:World)(b:Nat)(D:DS)(F:Nat->FC)(Ft:Nat->Prop)(h:Da w b D F Ft)(hu:AX F D.A5<=4611686018427387904):
 Ag 90 #[A6 b] w (Aj (A0 (AX F D.A5)) λw'=>A4 Aa w w'):=by
 obtain⟨vd,vs,vc,vals,VB,hr,hft⟩:=h;have c0:=hr.Af.c0;obtain⟨a,cap,rfl,hc1,aB,I⟩:=hr.A5.BP;unfold maxLen at aB;have aE:=A1 hr
 go_enter func90,ntmps90
 go_wp2;go_loopw [3,11] (λt i wr=>∃k:Nat,k<=D.A5.length/\i=A0 k/\t=A0 (AX F (D.A5.take k))/\A4 Aa w wr) (λ_ i _=>D.A5.length-(intOf i).toNat)
 case atStart=>exact⟨0,Ce _,rfl,by simp[AX],A4.C _ _⟩
 case round=>
  obtain⟨k,hk,rfl,rfl,z⟩:=hrel;by_cases d:k<D.A5.length
  ·obtain⟨g,rfl,hn,hp⟩:=I k d;obtain⟨E,Y⟩:=aE.o.cd k d;obtain⟨a',L,hv,_,_⟩:=Y.BP;rw[hv]at E;have X:g<w.heap.size:=Gz w _ hn;have aA:=By E;have hn':A8 wr g (k*2) (.string (D.A5[k]'d).1):=(Dy (z.Am g X (λh=>h))).trans hn;have hp':A8 wr g (k*2+1) (A6 ((D.A5[k]'d).2)):=(Dy (z.Am g X (λh=>h))).trans hp;have hb0:A8 wr ((D.A5[k]'d).2) 0 (.slice a' (F (D.A5[k]'d).2).1.length L):=(Dy (z.Am _ aA (λh=>h))).trans E.c0;have hsz:=z.Al;(have hflr:(D.A5[k]'d).2<wr.heap.size:=by omega);have ht:=A1 (Q7 F D.A5 k d);have aD:=VN F D.A5 (k+1);rw[Q7 F D.A5 k d]at aD;go_wp2;go_roundw
   case rel=>exact⟨k+1,by omega,by go_num,by rw[ht.o];go_num,z.ah _⟩
   case measure=>simp[intOf];omega
  ·have W:D.A5.take k=D.A5:=Ec (by omega);have O:=A1 W;go_wp2;go_ret;exact⟨by rw[O.o];rfl,z⟩
def Fp(D:DS)(F:Nat->FC)(name:ByteArray)(at_ n:Int):List UInt8×Int:=match lookup D.A5 name with
 | some f=>if at_<0\/n<0\/at_>(F f).1.length\/n>(F f).1.length-at_ then ([],9) else (((F f).1.drop at_.toNat).take n.toNat,0)
 | none=>([],8)
def Yg(w:World)(b:Nat)(D:DS)(F:Nat->FC)(Ft:Nat->Prop)(h:Da w b D F Ft)(name:ByteArray)(p n:Int):
 Ag 82 #[A6 b,.string name,A0 p,A0 n] w (Aj (.tuple #[.string ⟨(Fp D F name p n).1.toArray⟩,A0 (Fp D F name p n).2]) λw'=>w=w'):=by
 obtain⟨vd,vs,vc,vals,VB,hr,hft⟩:=h;have c0:=hr.Af.c0;have hd:=A1 hr.A5;obtain⟨a,cap,rfl,hc1,aJ,O⟩:=hr.A5.BP;unfold maxLen at aJ;rcases IX D.A5 name with⟨h1,h2⟩|⟨k,hk,h1,h2,h3⟩
 ·have q:Hid (Fp D F name p n=([],8)):=by unfold Hid Fp;rw[h2]
  have hfi:B6 D.A5 name<0:=by omega
  go_enter func82,ntmps82
  go_wp2_with (go_at_call 77;refine(Dx _ _ _ _ hd.o).mono ?_;rintro e w'⟨rfl,rfl⟩);go_ret2;rw[q.o];exact⟨rfl,rfl⟩
 ·obtain⟨aA,z⟩:=hr.cd k hk;obtain⟨a',E,hv,aG,aL⟩:=z.BP;unfold maxLen at aL;rw[hv]at aA z;have aH:=aA.c0;have W:=A1 z;obtain⟨g,rfl,hn,hp⟩:=O k hk;have aE:=A1 h1;have aM:=A1 h2;obtain⟨bs,z⟩:∃bs,(F (D.A5[k]'hk).2).1=bs:=⟨_,rfl⟩;have aN:=A1 z;rw[z]at aH aG W;have hlen:(bs.length:Int)<=9223372036854775807:=by omega
  have q:Hid (Fp D F name p n=if p<0\/n<0\/p>bs.length\/n>bs.length-p then ([],9) else ((bs.drop p.toNat).take n.toNat,0)):=by
   unfold Hid Fp;rw[aM.o];dsimp only;rw[aN.o]
  by_cases aF:0<=p/\0<=n/\p<=bs.length/\n<=bs.length-p
  ·obtain⟨o1,o2,o3,o4⟩:=aF;obtain⟨d,rfl⟩:=Lp o1;obtain⟨n',rfl⟩:=Lp o2;have q2:Hid (Fp D F name d n'=((bs.drop d).take n',0)):=by
    unfold Hid;rw[q.o,Ae (by omega)];simp
   (have o5:d<=bs.length:=by omega);(have o6:n'<=bs.length-d:=by omega);obtain⟨_,_,he,_,_,_,X,I⟩:=Bk W.o;cases he;by_cases aD:E=d
   ·(have aK:n'=0:=by omega);subst aK;have cv:∀(x:Option Addr) (c:Nat),(convert 127 9 (.slice x 0 c)).run Tryz.prog w=.ok (.string ⟨#[]⟩) w:=by
     intro x c;cases x with
     | none=>
      rw[run_convert_bytes_string (P:=Tryz.prog) w 127 9 5 none 0 c underlying127 underlying5 underlying9];rfl
     | some ad=>exact Ny (P:=Tryz.prog) w 127 9 5 ad c [] underlying127 underlying5 underlying9 (by simp)
    subst aD
    go_enter func82,ntmps82
    go_wp2_with (go_at_call 77;refine(Dx _ _ _ _ hd.o).mono ?_;rintro e w'⟨rfl,rfl⟩;rw[aE.o]);go_ret2;rw[q2.o];exact⟨by simp,rfl⟩
   ·obtain⟨L,aI⟩:∃L,a'=some (A9 L 0):=by
     cases ha:a' with
     | none=>have:=(X ha).2;omega
     | some ad=>obtain⟨g',rfl⟩:=I ad ha;exact⟨g',rfl⟩
    subst aI;have cv:(convert 127 9 (.slice (some (A9 L d)) n' (E-d))).run Tryz.prog w=.ok (.string ⟨((bs.drop d).take n').toArray⟩) w:=by
     (have hl:((bs.drop d).take n').length=n':=by simp;omega)
     have:=Ny (P:=Tryz.prog) w 127 9 5 (A9 L d) (E-d) ((bs.drop d).take n') underlying127 underlying5 underlying9 (by
      intro j hj;(have aB:d+j<bs.length:=by simp at hj;omega);(have Y:((A9 L d):Addr).add j=(A9 L (d+j)):=by unfold Addr.add;split<;>simp_all);rw[Y];have:=BD W.o (g:=L) rfl (j:=d+j) (u:=.int .u8 (bs[d+j]'aB).toNat) (by simp[DY,List.getElem?_eq_getElem aB])
      simpa using this)
     rw[hl]at this;exact this
    go_enter func82,ntmps82
    go_wp2_with (go_at_call 77;refine(Dx _ _ _ _ hd.o).mono ?_;rintro e w'⟨rfl,rfl⟩;rw[aE.o]);go_ret2;rw[q2.o];exact⟨rfl,rfl⟩
  ·have q2:Hid (Fp D F name p n=([],9)):=by
    unfold Hid;rw[q.o,Ai (by omega)]
   go_enter func82,ntmps82
   go_wp2_with (go_at_call 77;refine(Dx _ _ _ _ hd.o).mono ?_;rintro e w'⟨rfl,rfl⟩;rw[aE.o])
   all_goals (go_ret2;rw[q2.o];exact⟨rfl,rfl⟩)
def BV.b1{w w':World}{b:Nat}{D:DS}{F:Nat->FC}{vd vs vc:Value}{O:List Value}{aA:Nat->Value}{S:Nat->Prop}(h:BV w b D F vd vs vc O aA){f:Nat}(hf:D.Ap f){vb':Value}{bs':List UInt8}{s':Int}(h1:CY w' f vb' s')(h2:G0 w' vb' bs')(hc:A4 S w w')(hS:∀k,S k->k=f\/(aA f).ownBlock=some k)(hv:∀g,vb'.ownBlock=some g->(aA f).ownBlock=some g\/w.heap.size<=g):
 BV w' b D (upd F f (bs',s')) vd vs vc O (λx=>if x=f then vb' else aA x):=by
 obtain⟨aD,aB⟩:=h.BH f hf;have I:∀(k:Nat) (c:Array Value) (e:Nat),w.heap[k]?=some (Obj.cells c e (0,0))->e≠129->e≠5->w'.heap[k]?=w.heap[k]?:=λk c e I Y aF=>
  hc.Am k (By I) (λd=>by
   rcases hS k d with d|d
   ·exact BM I aD Y d
   ·obtain⟨c',z⟩:=B7 aB d
    exact BM I z aF rfl)
 refine⟨?_,?_,?_,?_,?_,?_,?_⟩
 ·have:=h.Af;unfold AL at this ⊢;rw[I b _ _ this (by decide) (by decide)];exact this
 ·exact Aw h.A5 λg E=>by obtain⟨c,z⟩:=B7 h.A5 E;exact I g _ _ z (by decide) (by decide)
 ·exact Aw h.AF λg E=>by obtain⟨c,z⟩:=B7 h.AF E;exact I g _ _ z (by decide) (by decide)
 ·exact Aw h.An λg E=>by obtain⟨c,z⟩:=B7 h.An E;exact I g _ _ z (by decide) (by decide)
 ·intro i hi;obtain⟨v,h1,h2⟩:=h.D9 i hi;exact⟨v,h1,Aw h2 λg E=>by obtain⟨c,z⟩:=B7 h2 E;exact I g _ _ z (by decide) (by decide)⟩
 ·intro f2 L;by_cases Y:f2=f
  ·subst Y;simp only[upd,Ci];exact⟨h1,h2⟩
  ·obtain⟨g1,g2⟩:=h.BH f2 L;simp only[upd,Y,C3];refine⟨g1.au (hc.Am f2 (By g1) (λd=>?_)),Aw g2 λg E=>hc.Am g (Ay g2 E) (λd=>?_)⟩
   ·rcases hS _ d with d|d
    ·exact Y d
    ·obtain⟨c',z⟩:=B7 aB d;exact BM g1 z (by decide) rfl
   ·rcases hS _ d with d|d
    ·obtain⟨c',z⟩:=B7 g2 E;exact BM z aD (by decide) d
    ·exact Y (h.Gr f2 f g L hf E d)
 ·have key:∀f2 g,D.Ap f2->f2≠f->(aA f2).ownBlock=some g->vb'.ownBlock=some g->False:=by
   intro f2 g h3 aE h4 h5;rcases hv g h5 with h6|h6
   ·exact aE (h.Gr f2 f g h3 hf h4 h6)
   ·have:=Ay (h.BH f2 h3).2 h4;omega
  intro f1 f2 g k1 k2 X W;by_cases a1:f1=f<;>by_cases a2:f2=f
  ·rw[a1,a2]
  ·simp only[a1,Ci]at X;simp only[a2,C3]at W;exact(key f2 g k2 a2 W X).elim
  ·simp only[a2,Ci]at W;simp only[a1,C3]at X;exact(key f1 g k1 a1 X W).elim
  ·simp only[a1,C3]at X;simp only[a2,C3]at W;exact h.Gr f1 f2 g k1 k2 X W
def C5.b1{b:Nat}{D:DS}{O I E:Value}{d:List Value}{z:Nat->Value}{f:Nat}{vb':Value}{N:Nat}(W:D.Ap f)(X:∀g,vb'.ownBlock=some g->(z f).ownBlock=some g\/N<=g){k:Nat}(h:C5 b D O I E d (λx=>if x=f then vb' else z x) k):C5 b D O I E d z k\/N<=k:=by
 cases h using C5.bH with
 | Af=>exact .inl .Af
 | dir e=>exact .inl (.A5 e)
 | Ad e=>exact .inl (.AF e)
 | An e=>exact .inl (.An e)
 | D9 h e=>exact .inl (.D9 h e)
 | BH h=>exact .inl (.BH h)
 | byt h e=>
  rename_i f2;by_cases L:f2=f
  ·simp only[L,Ci]at e;rcases X k e with h|h
   ·exact .inl (.bx W h)
   ·exact .inr h
  ·simp only[L,C3]at e;exact .inl (.bx h e)
def BV.BS{w:World}{b:Nat}{D:DS}{F:Nat->FC}{L W vc:Value}{z:List Value}{I:Nat->Value}(h:BV w b D F L W vc z I)(k:Nat)(E:k<D.A5.length):
 ∃g cap a' d,L=.slice (some ⟨g,0,none⟩) D.A5.length cap/\I (D.A5[k]'E).2=.slice a' (F (D.A5[k]'E).2).1.length d/\D.A5.length<=cap/\cap<=maxLen/\(F (D.A5[k]'E).2).1.length<=d/\d<=maxLen:=by
 obtain⟨a,cap,hv,Y,O,hc⟩:=h.A5.BP;obtain⟨g,rfl,_,_⟩:=hc k E;obtain⟨a',d,h3,X,h5⟩:=(h.cd k E).2.BP;exact⟨g,cap,a',d,hv,h3,Y,O,X,h5⟩
structure PJ (w:World) (b:Nat) (g k f n cap l cap':Nat) (a':Option Addr) (name:ByteArray) (Ad:Int):Prop where
 d:A8 w b 0 (AB g n cap)
 n:A8 w g (k*2) (.string name)
 p:A8 w g (k*2+1) (A6 f)
 f0:A8 w f 0 (.slice a' l cap')
 f1:A8 w f 1 (A0 Ad)
 fz:∀o,w.frozen? (A9 f o)=false
 gf:¬g=f
 fg:¬f=g
 gb:¬g=b
 bg:¬b=g
 fb:¬f=b
 bf:¬b=f
def BV.dz{w:World}{b:Nat}{D:DS}{F:Nat->FC}{W Y vc:Value}{I:List Value}{O:Nat->Value}(h:BV w b D F W Y vc I O)(k:Nat)(d:k<D.A5.length){g cap z:Nat}{a':Option Addr}(h1:W=AB g D.A5.length cap)(X:O (D.A5[k]'d).2=.slice a' (F (D.A5[k]'d).2).1.length z):
 PJ w b g k (D.A5[k]'d).2 D.A5.length cap (F (D.A5[k]'d).2).1.length z a' (D.A5[k]'d).1 (F (D.A5[k]'d).2).2:=by
 subst h1;obtain⟨E,hb⟩:=h.cd k d;rw[X]at E;obtain⟨c,L⟩:=B7 h.A5 (g:=g) rfl
 exact⟨h.Af.c0,BD h.A5 rfl (OH _ k d),BD h.A5 rfl (OF _ k d),E.c0,E.c1,E.fz,λe=>BM L E (by decide) e,λe=>BM L E (by decide) e.symm,
  λe=>BM L h.Af (by decide) e,λe=>BM L h.Af (by decide) e.symm,λe=>BM E h.Af (by decide) e,λe=>BM E h.Af (by decide) e.symm⟩
def Cz(D:DS)(F:Nat->FC)(name:ByteArray):Int×DS×(Nat->FC):=match lookup D.A5 name with
 | none=>(8,D,F)
 | some f=>((bg D.n).2.1,{D with n:=(bg D.n).2.2},if (bg D.n).2.1=0 then upd F f ((F f).1,(F f).1.length) else F)
def W8(w:World)(b:Nat)(D:DS)(F:Nat->FC)(Ft:Nat->Prop)(h:Da w b D F Ft)(name:ByteArray):
 Ag 85 #[A6 b,.string name] w (Aj (A0 (Cz D F name).1) λw'=>Dq w Ft w' b (Cz D F name).2.1 (Cz D F name).2.2):=by
 obtain⟨vd,vs,vc,vals,aJ,hr,Y⟩:=h;have c0:=hr.Af.c0;have hd:=A1 hr.A5;have aE:=A1 hr.Af;have aH:=A1 hr;rcases IX D.A5 name with⟨h1,h2⟩|⟨k,z,h1,h2,h3⟩
 ·have q:Hid (Cz D F name=(8,D,F)):=by unfold Hid Cz;rw[h2]
  have hfi:B6 D.A5 name<0:=by omega
  go_enter func85,ntmps85
  go_wp2_with (go_at_call 77;refine(Dx _ _ _ _ hd.o).mono ?_;rintro e w'⟨rfl,rfl⟩);go_ret;rw[q.o];exact⟨rfl,Dq.bu (A4.C _ _) aH.o λk z=>.inl (Y k z)⟩
 ·have q:Hid (Cz D F name=((bg D.n).2.1,{D with n:=(bg D.n).2.2},if (bg D.n).2.1=0 then upd F (D.A5[k]'z).2 ((F (D.A5[k]'z).2).1,(F (D.A5[k]'z).2).1.length) else F)):=by unfold Hid Cz;rw[h2]
  have aK:=A1 h1;by_cases O:(bg D.n).2.1=0
  ·(have aD:((bg D.n).2.1==0)=true:=by simpa using O);have W:=A1 <| O;clear O;have hk0:=BR k;(have hk1:(k:Int)<(D.A5.length:Int):=by omega);obtain⟨g,cap,a',aA,rfl,hv,z1,z2,z3,z4⟩:=aH.o.BS k z;have aI:=A1 hv;unfold maxLen at z2 z4;clear hv;obtain⟨f,hf⟩:∃f,(D.A5[k]'z).2=f:=⟨_,rfl⟩;have L:Hid (D.Ap f):=.inl ⟨_,BT z,hf⟩
   have fin:Hid (∀w1,AL w1 b (AB g D.A5.length cap) vs vc (bg D.n).2.2->A4 (One b) w w1->PJ w1 b g k f D.A5.length cap (F f).1.length aA a' (D.A5[k]'z).1 (F f).2/\
    Dq w Ft (w1.sC f 1 (A0 (F f).1.length)).drew b {D with n:=(bg D.n).2.2} (upd F f ((F f).1,(F f).1.length))):=by
    intro w1 X I;have r1:=aH.o.ak X I;subst hf;refine⟨r1.dz k z rfl aI.o,?_⟩;obtain⟨aG,aF⟩:=r1.cd k z;have r2:=r1.b1 (S:=One (D.A5[k]'z).2) (w':=(w1.sC ((D.A5[k]'z).2) 1 (A0 (F (D.A5[k]'z).2).1.length)).drew) (f:=(D.A5[k]'z).2) L.o (vb':=aJ (D.A5[k]'z).2) (bs':=(F (D.A5[k]'z).2).1) (s':=(F (D.A5[k]'z).2).1.length)
     (aG.s1 _) (by
      refine NU aF (a:=(A9 ((D.A5[k]'z).2) 1)) ?_ _;intro e;obtain⟨c,hh⟩:=B7 aF e
      exact BM hh aG (by decide) rfl) (((A4.C (One _) w1).aj rfl 1 _).aa) (λk z=>.inl z) (λg hg=>.inl hg)
    refine Dq.bu ?_ r2 ?_
    ·exact((I.ad (S':=Ft) λk _ z=>by cases z;exact Y b .Af).aj (Y _ (.BH L.o)) 1 _).aa
    ·intro x hx;rcases C5.b1 (N:=w.heap.size) (vb':=aJ (D.A5[k]'z).2) (f:=(D.A5[k]'z).2) L.o (λg hg=>.inl hg) hx.n with h|h
     ·exact .inl (Y x h)
     ·exact .inr h
   rw[hf]at q;clear hf aI
   go_enter func85,ntmps85
   go_wp2_with (first
    | (go_at_call 77;refine(Dx _ _ _ _ hd.o).mono ?_;rintro e w'⟨rfl,rfl⟩;rw[aK.o])
    | (go_at_call 121;refine(GX _ _ _ _ _ _ aE.o).mono ?_;rintro e w1⟨rfl,X,I⟩))
   obtain⟨E,aB⟩:=fin.o w1 X I;have aL:=A1 aB;have x1:=E.d;have x2:=E.p;have x3:=E.f0;have x4:=E.f1;have x5:=E.fz;have x7:=E.fg;clear aB E;go_region_held3 (λw'=>w'.cell? ⟨b,0,none⟩=some (.slice (some ⟨g,0,none⟩) D.A5.length cap)/\w'.cell? ⟨g,k*2+1,none⟩=some (.pointer (some ⟨f,0,none⟩))/\w'.cell? ⟨f,0,none⟩=some (.slice a' (F f).1.length aA)) (refine⟨?_,?_,?_⟩<;>go_simp) (fail);go_wp2;go_ret;rw[q.o,Ai W.o];exact⟨rfl,aL.o⟩
  ·(have aD:((bg D.n).2.1==0)=false:=by simpa using O);have W:=A1 <| O
   go_enter func85,ntmps85
   go_wp2_with (first
    | (go_at_call 77;refine(Dx _ _ _ _ hd.o).mono ?_;rintro e w'⟨rfl,rfl⟩;rw[aK.o])
    | (go_at_call 121;refine(GX _ _ _ _ _ _ aE.o).mono ?_;rintro e w1⟨rfl,X,I⟩))
   go_ret;rw[q.o,Ae W.o];exact⟨rfl,aH.o.bP Y X I⟩
def BV.aa{w:World}{b:Nat}{D:DS}{F:Nat->FC}{L E z:Value}{d:List Value}{I:Nat->Value}(h:BV w b D F L E z d I):BV w.drew b D F L E z d I:=
 ⟨h.Af,h.A5,h.AF,h.An,h.D9,h.BH,h.Gr⟩
def Da.aa{w:World}{b:Nat}{D:DS}{F:Nat->FC}{Ft:Nat->Prop}(h:Da w b D F Ft):Da w.drew b D F Ft:=by
 obtain⟨W,I,E,d,O,L,z⟩:=h;exact⟨W,I,E,d,O,L.aa,z⟩
def A2v(s:ByteArray):byteCells s=DY s.data.toList:=rfl
def Mm(s:ByteArray)(m:Nat):(s.extract 0 m).data.toList=s.data.toList.take m:=by
 simp[ByteArray.data_extract]
def G9(D:DS)(F:Nat->FC):Int:=max (D.n.AA-AX F D.A5) 0
def BK(D:DS)(F:Nat->FC)(f:Nat)(data:ByteArray)(n0:Int)(e:Int):Int×DS×(Nat->FC):=
 if n0>G9 D F then
  (if e=0 then 6 else e,if e=0 then {D with n:={D.n with Bj:=wrap64 (D.n.Bj+1),fulls:=wrap64 (D.n.fulls+1)}} else D,upd F f ((F f).1++data.data.toList.take (G9 D F).toNat,(F f).2))
 else (e,D,upd F f ((F f).1++data.data.toList.take n0.toNat,(F f).2))
def Bx(D:DS)(F:Nat->FC)(name data:ByteArray):Int×DS×(Nat->FC):=match lookup D.A5 name with
 | none=>(8,D,F)
 | some f=>
  let r:=bg D.n
  let D1:={D with n:=r.2.2}
  if r.1 then BK D1 F f data data.size r.2.1
  else if r.2.2.Bh=false/\0<data.size then BK D1 F f data (r.2.2.BC % data.size) r.2.1
  else (r.2.1,D1,F)
def A23{w w2 W Y:World}{b:Nat}{D:DS}{F:Nat->FC}{vd vs vc v3:Value}{z:List Value}{O:Nat->Value}{Ft:Nat->Prop}{f:Nat}{n2:DN}{news:List UInt8}(hc:A4 Ft w w2)(h2:BV w2 b D F vd vs vc z O)(d:∀k,C5 b D vd vs vc z O k->Ft k)(hf:D.Ap f)(hW:AL W b vd vs vc n2)(I:A4 (One b) w2 W)(hA:App W Y 5 1 (O f) v3 ((F f).1.length+news.length) (DY (F f).1++DY news)):
 CY Y f (O f) (F f).2/\Dq w Ft (Y.setCell ⟨f,0,none⟩ v3) b {D with n:=n2} (upd F f ((F f).1++news,(F f).2)):=by
 have rW:=h2.ak hW I;obtain⟨L,aD⟩:=rW.BH f hf
 have E:=L.au (hA.C4.block f (By L) (λe=>by
  obtain⟨c,hh⟩:=B7 aD e.symm
  exact BM hh L (by decide) rfl))
 refine⟨E,?_⟩;have X:G0 Y v3 ((F f).1++news):=by
  have:=hA.AE;unfold G0;rw[A2u,Ba];exact this
 have aA:G0 (Y.setCell ⟨f,0,none⟩ v3) v3 ((F f).1++news):=by
  refine NU X (a:=⟨f,0,none⟩) ?_ _;intro e;obtain⟨c,hh⟩:=B7 X e;exact BM hh E (by decide) rfl
 have aB:=(hA.An (S:=λk=>k=f\/(O f).ownBlock=some k) (λk hk=>.inr hk)).aj (.inl rfl) 0 v3;have hv:∀g,v3.ownBlock=some g->(O f).ownBlock=some g\/W.heap.size<=g:=by
  intro g hg;rcases hA.BS with h|h
  ·exact .inl (h.symm.trans hg)
  ·rw[hg]at h;cases h;exact .inr (Ao _)
 have r3:=rW.b1 hf (E.s0 v3) aA aB (λk hk=>hk) hv;have s1:=hc.Al;have s2:=I.Al;refine Dq.bu ?_ r3 ?_
 ·refine(hc.Au I (S':=One b) λx hx _=>by cases hx;exact d b .Af).Au aB ?_;rintro x (rfl|hx) _
  ·exact d _ (.BH hf)
  ·exact d _ (.bx hf hx)
 ·intro x hx;rcases C5.b1 (N:=w.heap.size) (vb':=v3) (f:=f) hf (λg hg=>(hv g hg).imp id λh=>by omega) hx.n with h|h
  ·exact .inl (d x h)
  ·exact .inr h
def A24(w:World)(b:Nat)(D:DS)(F:Nat->FC)(Ft:Nat->Prop)(h:Da w b D F Ft)(name data:ByteArray)(hroom : -4611686018427387904<=D.n.AA/\D.n.AA<=9223372036854775807)(hu:AX F D.A5<=4611686018427387904)(hp:0<=D.n.BC/\D.n.BC<=9223372036854775807)(hl:∀f,lookup D.A5 name=some f->(F f).1.length+data.size<=70368744177664):
 Ag 84 #[A6 b,.string name,.string data] w (Aj (A0 (Bx D F name data).1) λw'=>Dq w Ft w' b (Bx D F name data).2.1 (Bx D F name data).2.2):=by
 obtain⟨vd,vs,vc,aO,bN,hr,a2⟩:=h;have c0:=hr.Af.c0;have hd:=A1 hr.A5;have aN:=A1 hr.Af;have bW:=A1 hr;rcases IX D.A5 name with⟨h1,h2⟩|⟨k,hk,h1,h2,h3⟩
 ·have q:Hid (Bx D F name data=(8,D,F)):=by unfold Hid Bx;rw[h2]
  have hfi:B6 D.A5 name<0:=by omega
  go_enter func84,ntmps84
  go_wp2_with (go_at_call 77;refine(Dx _ _ _ _ hd.o).mono ?_;rintro e w'⟨rfl,rfl⟩);go_ret;rw[q.o];exact⟨rfl,Dq.bu (A4.C _ _) bW.o λk hk=>.inl (a2 k hk)⟩
 ·obtain⟨g,cap,a',aE,rfl,hv,z1,z2,z3,z4⟩:=hr.BS k hk;generalize hf:(D.A5[k]'hk).2=f at hv h2 z3;have hl1:=hl f h2;have bP:=A1 hv;unfold maxLen at z2 z4;have a3:Hid (D.Ap f):=.inl ⟨_,BT hk,hf⟩;have a6:=A1 h1;have H2:=A1 h2;have bE:=A1 hu;have bB:=A1 a2;obtain⟨i0,hi,aR,aT,aS⟩:=DG Tryz.infoByte;have hk0:=BR k;have hk1:(k:Int)<(D.A5.length:Int):=by omega
  have bC:Hid (∀w1,AL w1 b (AB g D.A5.length cap) vs vc (bg D.n).2.2->A4 (One b) w w1->
   BV w1 b {D with n:=(bg D.n).2.2} F (AB g D.A5.length cap) vs vc aO bN/\Da w1 b {D with n:=(bg D.n).2.2} F Ft):=by
   intro w1 z Y;have r1:=hr.ak z Y;exact⟨r1,_,_,_,_,_,r1,λk hk=>a2 k hk.n⟩
  have bD:Hid (∀w1 X,AL w1 b (AB g D.A5.length cap) vs vc (bg D.n).2.2->A4 (One b) w w1->A4 Aa w1.drew X->
   BV X b {D with n:=(bg D.n).2.2} F (AB g D.A5.length cap) vs vc aO bN/\A4 Ft w X/\PJ X b g k f D.A5.length cap (F f).1.length aE a' (D.A5[k]'hk).1 (F f).2/\AL X b (AB g D.A5.length cap) vs vc (bg D.n).2.2):=by
   intro w1 X z Y aB;have r1:=(hr.ak z Y).aa;have r2:=r1.aI λx hx=>aB.Am x (r1.lt hx) (λh=>h);refine⟨r2,?_,?_,r2.Af⟩
   ·exact((Y.ad (S':=Ft) λk _ hk=>by cases hk;exact a2 b .Af).aa).Au aB (λx hx=>hx.elim)
   ·subst hf;exact r2.dz k hk rfl bP.o
  have a4:Hid (-4611686018427387904<=(bg D.n).2.2.AA/\(bg D.n).2.2.AA<=9223372036854775807/\0<=(bg D.n).2.2.BC/\(bg D.n).2.2.BC<=9223372036854775807):=by
   unfold Hid bg;dsimp only;split
   ·exact⟨hroom.1,hroom.2,hp.1,hp.2⟩
   ·split
    ·exact⟨hroom.1,hroom.2,hp.1,hp.2⟩
    ·split<;>exact⟨hroom.1,hroom.2,hp.1,hp.2⟩
  have q:Hid (Bx D F name data=(let r:=bg D.n
   let D1:={D with n:=r.2.2}
   if r.1 then BK D1 F f data data.size r.2.1
   else if r.2.2.Bh=false/\0<data.size then BK D1 F f data (r.2.2.BC % data.size) r.2.1
   else (r.2.1,D1,F))):=by unfold Hid Bx;rw[h2]
  obtain⟨O,bF⟩:∃O,(bg D.n).2.2=O:=⟨_,rfl⟩;obtain⟨e1,bR⟩:∃e1,(bg D.n).2.1=e1:=⟨_,rfl⟩;obtain⟨d1,bV⟩:∃d1,(bg D.n).1=d1:=⟨_,rfl⟩;have bA:Hid (bg D.n=(d1,e1,O)):=by unfold Hid;rw[<-bF,<-bR,<-bV]
  rw[bF]at bC bD a4;have a7:Hid (∀(W:World),AL W b (AB g D.A5.length cap) vs vc D.n->Ag 121 #[A6 b] W (Aj (.tuple #[.bool d1,A0 e1]) λw'=>AL w' b (AB g D.A5.length cap) vs vc O/\A4 (One b) W w')):=by
   intro W hW;have:=GX W b _ _ _ _ hW;rw[bA.o]at this;exact this
  rw[bA.o]at q;obtain⟨r1,r2,r3,r4⟩:=a4.o;have hun:(0:Int)<=AX F D.A5:=Ge _;have hul:(AX F D.A5:Int)<=4611686018427387904:=by have:=bE.o;omega
  have hw:IntKind.i64.wrap (O.AA-(AX F D.A5:Int))=O.AA-(AX F D.A5:Int):=by simp only[Jj];omega
  obtain⟨L,hL⟩:∃L,(if O.AA-(AX F D.A5:Int)<0 then 0 else O.AA-(AX F D.A5:Int))=L:=⟨_,rfl⟩;have bS:0<=L:=by rw[<-hL];split<;>omega
  have hLm:L<=9223372036854775807:=by rw[<-hL];split<;>omega
  have aQ:Hid (G9 {D with n:=O} F=L):=by unfold Hid G9;show max (O.AA-(AX F D.A5:Int)) 0=L;rw[<-hL];split<;>omega
  have bK:Hid (∀(X W:World) (n2:DN),BV X b {D with n:=O} F (AB g D.A5.length cap) vs vc aO bN->AL W b (AB g D.A5.length cap) vs vc n2->A4 (One b) X W->W.ownsRow 0 5 1 (.slice a' (F f).1.length aE) (F f).1.length (DY (F f).1)):=by
   intro X W n2 h2 hW hc;have:=((h2.ak hW hc).BH f a3.o).2;rw[bP.o]at this;exact this
  have bM:Hid (∀(X W w3:World) (n2:DN) (s:ByteArray) (b3:Option Addr) (aA:Nat),BV X b {D with n:=O} F (AB g D.A5.length cap) vs vc aO bN->A4 Ft w X->AL W b (AB g D.A5.length cap) vs vc n2->A4 (One b) X W->
   App W w3 5 1 (.slice a' (F f).1.length aE) (.slice b3 ((F f).1.length+s.size) aA) ((F f).1.length+s.size) (DY (F f).1++byteCells s)->
   CY w3 f (.slice a' (F f).1.length aE) (F f).2/\Dq w Ft (w3.sC f 0 (.slice b3 ((F f).1.length+s.size) aA)) b {D with n:=n2} (upd F f ((F f).1++s.data.toList,(F f).2))):=by
   intro X W w3 n2 s b3 aA h2 hc hW bU hA;have:=A23 (n2:=n2) (f:=f) (v3:=.slice b3 ((F f).1.length+s.size) aA) (news:=s.data.toList) hc h2 (λk hk=>bB.o k hk.n) a3.o hW bU (by rw[bP.o];simpa[A2v] using hA);rw[bP.o]at this;exact this
  obtain⟨l,rfl⟩:=Lp bS;have BE:(if e1=0 then True else True):=by split<;>trivial
  cases d1 with
  | true=>
   by_cases a1:(l:Int)<(data.size:Int)
   ·by_cases he:e1=0
    ·(have bI:(e1==0)=true:=by simpa using he);have aM:=A1 he;(have a5:l<=data.size:=by omega);(have aI:(data.extract 0 l).size=l:=by simp;omega)
     go_enter func84,ntmps84
     go_wp2_with (first
      | (go_at_call 77;refine(Dx _ _ _ _ hd.o).mono ?_;rintro e w'⟨rfl,rfl⟩;rw[a6.o])
      | (go_at_call 121;refine(a7.o _ aN.o).mono ?_;rintro e w1⟨rfl,z,Y⟩))
     obtain⟨bO,aY⟩:=bC.o w1 z Y;have aL:=A1 aY;have aU:=z.c3;go_region_held3 (λw'=>w'.cell? ⟨b,3,none⟩=some (A0 O.AA)) (first|exact(AL.An (w:=w1.drew) z aB (λh=>h)).c3|go_simp) ((go_at_call 90;refine(Jo _ b _ F Ft aL.o.aa bE.o).mono ?_;rintro e X⟨rfl,aB⟩));obtain⟨aV,aX,aD,aP⟩:=bD.o w1 X z Y aB;have aG:=A1 aV;have aK:=A1 aX;have aF:=A1 aP;have x1:=aD.d;have x2:=aD.p;have x3:=aD.f0;have x8:=aD.gb;have x9:=aD.bf;have aZ:=aD.fb;have y8:=aP.c8;have y9:=aP.c9;have yz:=aP.fz;go_wp2;have aH:=A1 (bK.o X ((X.sC b 8 (A0 (wrap64 (O.Bj+1)))).sC b 9 (A0 (wrap64 (O.fulls+1)))).drew {O with Bj:=wrap64 (O.Bj+1),fulls:=wrap64 (O.fulls+1)} aG.o ((aF.o.s8 _).s9 _) ((((A4.C (One b) X).aj rfl 8 _).aj rfl 9 _).aa));(have aJ:((F f).1.length+(data.extract 0 l).size)*1<=140737488355328:=by rw[aI];omega);go_region_law
      ((refine Jt ?_ (.tmp 90) (.tmp 93) 127 9 ?_ 5 i0 _ 1 1 underlying127 hi aR aT aS rfl MN (.slice a' (F f).1.length aE) (F f).1.length (DY (F f).1) ?_ aH.o (.string (data.extract 0 l)) (data.extract 0 l).size (byteCells (data.extract 0 l)) ?_ (MK _ underlying9 (data.extract 0 l)) aJ ?_;(· rfl);(· rfl);(· rfl);(· rfl);intro b3 aA w3 hA;have E:=A1 (bM.o X ((X.sC b 8 (A0 (wrap64 (O.Bj+1)))).sC b 9 (A0 (wrap64 (O.fulls+1)))).drew w3 {O with Bj:=wrap64 (O.Bj+1),fulls:=wrap64 (O.fulls+1)} (data.extract 0 l) b3 aA aG.o aK.o ((aF.o.s8 _).s9 _) ((((A4.C (One b) X).aj rfl 8 _).aj rfl 9 _).aa) hA);have aW:=E.o.1.fz;have a0:=E.o.1.c0))
     go_wp2;go_ret;have q1:=q.o;have q2:BK {D with n:=O} F f data (data.size:Int) e1=(6,{D with n:={O with Bj:=wrap64 (O.Bj+1),fulls:=wrap64 (O.fulls+1)}},upd F f ((F f).1++data.data.toList.take l,(F f).2)):=by
      unfold BK;rw[aQ.o,Ai a1,Ai aM.o,Ai aM.o,EG]
     have I:=E.o.2;rw[Mm,aI]at I;rw[q1,q2];exact⟨rfl,I⟩
    ·(have bI:(e1==0)=false:=by simpa using he);have aM:=A1 he;(have a5:l<=data.size:=by omega);(have aI:(data.extract 0 l).size=l:=by simp;omega)
     go_enter func84,ntmps84
     go_wp2_with (first
      | (go_at_call 77;refine(Dx _ _ _ _ hd.o).mono ?_;rintro e w'⟨rfl,rfl⟩;rw[a6.o])
      | (go_at_call 121;refine(a7.o _ aN.o).mono ?_;rintro e w1⟨rfl,z,Y⟩))
     obtain⟨bO,aY⟩:=bC.o w1 z Y;have aL:=A1 aY;have aU:=z.c3;go_region_held3 (λw'=>w'.cell? ⟨b,3,none⟩=some (A0 O.AA)) (first|exact(AL.An (w:=w1.drew) z aB (λh=>h)).c3|go_simp) ((go_at_call 90;refine(Jo _ b _ F Ft aL.o.aa bE.o).mono ?_;rintro e X⟨rfl,aB⟩));obtain⟨aV,aX,aD,aP⟩:=bD.o w1 X z Y aB;have aG:=A1 aV;have aK:=A1 aX;have aF:=A1 aP;have x1:=aD.d;have x2:=aD.p;have x3:=aD.f0;have x8:=aD.gb;have x9:=aD.bf;have aZ:=aD.fb;go_wp2;have aH:=A1 (bK.o X X.drew O aG.o aF.o ((A4.C (One b) X).aa));(have aJ:((F f).1.length+(data.extract 0 l).size)*1<=140737488355328:=by rw[aI];omega);go_region_law
      ((refine Jt ?_ (.tmp 90) (.tmp 93) 127 9 ?_ 5 i0 _ 1 1 underlying127 hi aR aT aS rfl MN (.slice a' (F f).1.length aE) (F f).1.length (DY (F f).1) ?_ aH.o (.string (data.extract 0 l)) (data.extract 0 l).size (byteCells (data.extract 0 l)) ?_ (MK _ underlying9 (data.extract 0 l)) aJ ?_;(· rfl);(· rfl);(· rfl);(· rfl);intro b3 aA w3 hA;have E:=A1 (bM.o X X.drew w3 O (data.extract 0 l) b3 aA aG.o aK.o aF.o ((A4.C (One b) X).aa) hA);have aW:=E.o.1.fz;have a0:=E.o.1.c0))
     go_wp2;go_ret;have q1:=q.o;have q2:BK {D with n:=O} F f data (data.size:Int) e1=(e1,{D with n:=O},upd F f ((F f).1++data.data.toList.take l,(F f).2)):=by
      unfold BK;rw[aQ.o,Ai a1,Ae aM.o,Ae aM.o,EG]
     have I:=E.o.2;rw[Mm,aI]at I;rw[q1,q2];exact⟨rfl,I⟩
   ·(have bH:(data.size:Int)<=l:=by omega)
    go_enter func84,ntmps84
    go_wp2_with (first
     | (go_at_call 77;refine(Dx _ _ _ _ hd.o).mono ?_;rintro e w'⟨rfl,rfl⟩;rw[a6.o])
     | (go_at_call 121;refine(a7.o _ aN.o).mono ?_;rintro e w1⟨rfl,z,Y⟩))
    obtain⟨bO,aY⟩:=bC.o w1 z Y;have aL:=A1 aY;have aU:=z.c3;go_region_held3 (λw'=>w'.cell? ⟨b,3,none⟩=some (A0 O.AA)) (first|exact(AL.An (w:=w1.drew) z aB (λh=>h)).c3|go_simp) ((go_at_call 90;refine(Jo _ b _ F Ft aL.o.aa bE.o).mono ?_;rintro e X⟨rfl,aB⟩));obtain⟨aV,aX,aD,aP⟩:=bD.o w1 X z Y aB;have aG:=A1 aV;have aK:=A1 aX;have aF:=A1 aP;have x1:=aD.d;have x2:=aD.p;have x3:=aD.f0;have x8:=aD.gb;have x9:=aD.bf;have aZ:=aD.fb;go_wp2;have aH:=A1 (bK.o X X.drew O aG.o aF.o ((A4.C (One b) X).aa));(have aJ:((F f).1.length+data.size)*1<=140737488355328:=by omega);go_region_law
     ((refine Jt ?_ (.tmp 90) (.tmp 93) 127 9 ?_ 5 i0 _ 1 1 underlying127 hi aR aT aS rfl MN (.slice a' (F f).1.length aE) (F f).1.length (DY (F f).1) ?_ aH.o (.string data) data.size (byteCells data) ?_ (MK _ underlying9 data) aJ ?_;(· rfl);(· rfl);(· rfl);(· rfl);intro b3 aA w3 hA;have E:=A1 (bM.o X X.drew w3 O data b3 aA aG.o aK.o aF.o ((A4.C (One b) X).aa) hA);have aW:=E.o.1.fz;have a0:=E.o.1.c0))
    go_wp2;go_ret;have q1:=q.o;have q2:BK {D with n:=O} F f data (data.size:Int) e1=(e1,{D with n:=O},upd F f ((F f).1++data.data.toList,(F f).2)):=by
     unfold BK;rw[aQ.o,Ae (by omega),EG,Ec (by show data.data.toList.length<=data.data.size;rw[Lq];exact Ao _)]
    have I:=E.o.2;rw[q1,q2];exact⟨rfl,I⟩
  | false=>
   have bG:Hid (e1=5/\O.Bh=O.Bh):=by
    have:=bA.o;unfold Hid;unfold bg at this;dsimp only at this;split at this
    ·cases this;exact⟨rfl,rfl⟩
    ·split at this
     ·cases this
     ·split at this
      ·cases this;exact⟨rfl,rfl⟩
      ·cases this
   by_cases hC:O.Bh=false/\0<data.size
   ·obtain⟨a9,bJ⟩:=hC;(have bL:(0:Int)<(data.size:Int):=by omega);obtain⟨m,hm⟩:=Lp (N7 O.BC (b:=(data.size:Int)) (by omega));(have hml:(m:Int)<(data.size:Int):=by rw[<-hm];exact UY _ bL);have qC:Hid (Bx D F name data=BK {D with n:=O} F f data (m:Int) e1):=by
     have:=q.o;rw[<-hm];unfold Hid;rw[this];simp only[PG,C3,a9,bJ,and_self,Ci]
    (have aM:Hid (¬e1=0):=by have:=bG.o.1;unfold Hid;omega);(have bI:(e1==0)=false:=by have:=bG.o.1;simp[this]);by_cases a1:(l:Int)<(m:Int)
    ·(have a5:l<=data.size:=by omega);(have aI:(data.extract 0 l).size=l:=by simp;omega)
     go_enter func84,ntmps84
     go_wp2_with (first
      | (go_at_call 77;refine(Dx _ _ _ _ hd.o).mono ?_;rintro e w'⟨rfl,rfl⟩;rw[a6.o])
      | (go_at_call 121;refine(a7.o _ aN.o).mono ?_;rintro e w1⟨rfl,z,Y⟩;have bQ:=z.c7;have a8:=z.bk))
     obtain⟨bO,aY⟩:=bC.o w1 z Y;have aL:=A1 aY;have aU:=z.c3;go_region_held3 (λw'=>w'.cell? ⟨b,3,none⟩=some (A0 O.AA)) (first|exact(AL.An (w:=w1.drew) z aB (λh=>h)).c3|go_simp) ((go_at_call 90;refine(Jo _ b _ F Ft aL.o.aa bE.o).mono ?_;rintro e X⟨rfl,aB⟩));obtain⟨aV,aX,aD,aP⟩:=bD.o w1 X z Y aB;have aG:=A1 aV;have aK:=A1 aX;have aF:=A1 aP;have x1:=aD.d;have x2:=aD.p;have x3:=aD.f0;have x8:=aD.gb;have x9:=aD.bf;have aZ:=aD.fb;go_wp2;have aH:=A1 (bK.o X X.drew O aG.o aF.o ((A4.C (One b) X).aa));(have aJ:((F f).1.length+(data.extract 0 l).size)*1<=140737488355328:=by rw[aI];omega);go_region_law
      ((refine Jt ?_ (.tmp 90) (.tmp 93) 127 9 ?_ 5 i0 _ 1 1 underlying127 hi aR aT aS rfl MN (.slice a' (F f).1.length aE) (F f).1.length (DY (F f).1) ?_ aH.o (.string (data.extract 0 l)) (data.extract 0 l).size (byteCells (data.extract 0 l)) ?_ (MK _ underlying9 (data.extract 0 l)) aJ ?_;(· rfl);(· rfl);(· rfl);(· rfl);intro b3 aA w3 hA;have E:=A1 (bM.o X X.drew w3 O (data.extract 0 l) b3 aA aG.o aK.o aF.o ((A4.C (One b) X).aa) hA);have aW:=E.o.1.fz;have a0:=E.o.1.c0))
     go_wp2;go_ret;have q1:=qC.o;have q2:BK {D with n:=O} F f data (m:Int) e1=(e1,{D with n:=O},upd F f ((F f).1++data.data.toList.take l,(F f).2)):=by
      unfold BK;rw[aQ.o,Ai a1,Ae aM.o,Ae aM.o,EG]
     have I:=E.o.2;rw[Mm,aI]at I;rw[q1,q2];exact⟨rfl,I⟩
    ·(have bH:(m:Int)<=l:=by omega);(have a5:m<=data.size:=by omega);(have aI:(data.extract 0 m).size=m:=by simp;omega)
     go_enter func84,ntmps84
     go_wp2_with (first
      | (go_at_call 77;refine(Dx _ _ _ _ hd.o).mono ?_;rintro e w'⟨rfl,rfl⟩;rw[a6.o])
      | (go_at_call 121;refine(a7.o _ aN.o).mono ?_;rintro e w1⟨rfl,z,Y⟩;have bQ:=z.c7;have a8:=z.bk))
     obtain⟨bO,aY⟩:=bC.o w1 z Y;have aL:=A1 aY;have aU:=z.c3;go_region_held3 (λw'=>w'.cell? ⟨b,3,none⟩=some (A0 O.AA)) (first|exact(AL.An (w:=w1.drew) z aB (λh=>h)).c3|go_simp) ((go_at_call 90;refine(Jo _ b _ F Ft aL.o.aa bE.o).mono ?_;rintro e X⟨rfl,aB⟩));obtain⟨aV,aX,aD,aP⟩:=bD.o w1 X z Y aB;have aG:=A1 aV;have aK:=A1 aX;have aF:=A1 aP;have x1:=aD.d;have x2:=aD.p;have x3:=aD.f0;have x8:=aD.gb;have x9:=aD.bf;have aZ:=aD.fb;go_wp2;have aH:=A1 (bK.o X X.drew O aG.o aF.o ((A4.C (One b) X).aa));(have aJ:((F f).1.length+(data.extract 0 m).size)*1<=140737488355328:=by rw[aI];omega);go_region_law
      ((refine Jt ?_ (.tmp 90) (.tmp 93) 127 9 ?_ 5 i0 _ 1 1 underlying127 hi aR aT aS rfl MN (.slice a' (F f).1.length aE) (F f).1.length (DY (F f).1) ?_ aH.o (.string (data.extract 0 m)) (data.extract 0 m).size (byteCells (data.extract 0 m)) ?_ (MK _ underlying9 (data.extract 0 m)) aJ ?_;(· rfl);(· rfl);(· rfl);(· rfl);intro b3 aA w3 hA;have E:=A1 (bM.o X X.drew w3 O (data.extract 0 m) b3 aA aG.o aK.o aF.o ((A4.C (One b) X).aa) hA);have aW:=E.o.1.fz;have a0:=E.o.1.c0))
     go_wp2;go_ret;have q1:=qC.o;have q2:BK {D with n:=O} F f data (m:Int) e1=(e1,{D with n:=O},upd F f ((F f).1++data.data.toList.take m,(F f).2)):=by
      unfold BK;rw[aQ.o,Ae (by omega),EG]
     have I:=E.o.2;rw[Mm,aI]at I;rw[q1,q2];exact⟨rfl,I⟩
   ·have qC:Hid (Bx D F name data=(e1,{D with n:=O},F)):=by
     have:=q.o;unfold Hid;rw[this];simp only[PG,C3,hC]
    by_cases a9:O.Bh=true
    ·go_enter func84,ntmps84
     go_wp2_with (first
      | (go_at_call 77;refine(Dx _ _ _ _ hd.o).mono ?_;rintro e w'⟨rfl,rfl⟩;rw[a6.o])
      | (go_at_call 121;refine(a7.o _ aN.o).mono ?_;rintro e w1⟨rfl,z,Y⟩;have a8:=z.bk))
     go_ret;rw[qC.o];exact⟨rfl,bW.o.bP bB.o z Y⟩
    ·(have bT:O.Bh=false:=by simpa using a9);have bJ:(data.size:Int)<=0:=by
      have:¬0<data.size:=λh=>hC ⟨bT,h⟩;omega
     go_enter func84,ntmps84
     go_wp2_with (first
      | (go_at_call 77;refine(Dx _ _ _ _ hd.o).mono ?_;rintro e w'⟨rfl,rfl⟩;rw[a6.o])
      | (go_at_call 121;refine(a7.o _ aN.o).mono ?_;rintro e w1⟨rfl,z,Y⟩;have a8:=z.bk))
     go_ret;rw[qC.o];exact⟨rfl,bW.o.bP bB.o z Y⟩
def less(a b:ByteArray):Bool:=Op.bytesLess a.toList b.toList
def FN(l:List ByteArray):List Value:=l.map Value.string
def EC(l:List ByteArray)(x:ByteArray):Nat->Nat
 | 0=>0
 | k+1=>match l[k]? with
  | some y=>if less x y then EC l x k else k+1
  | none=>k+1
def ins(l:List ByteArray)(x:ByteArray):List ByteArray:=l.take (EC l x l.length)++x::l.drop (EC l x l.length)
def ES(es:List AN):Nat->List ByteArray
 | 0=>[]
 | k+1=>match es[k]? with
  | some e=>ins (ES es k) e.1
  | none=>ES es k
def dList(es:List AN):List ByteArray:=ES es es.length
def T3(l:List ByteArray)(x:ByteArray)(k:Nat):EC l x k<=k:=by
 induction k with
 | zero=>simp[EC]
 | succ k ih=>
  simp only[EC];split
  ·split<;>omega
  ·omega
def A0C(l:List ByteArray)(x:ByteArray):(ins l x).length=l.length+1:=by
 have:=T3 l x l.length;simp[ins];omega
def Mt(es:List AN)(k:Nat)(hk:k<=es.length):(ES es k).length=k:=by
 induction k with
 | zero=>rfl
 | succ k ih=>
  simp only[ES,DQ (show k<es.length by omega)];rw[A0C,ih (by omega)]
def Ms(es:List AN)(k:Nat)(d:k<es.length):ES es (k+1)=ins (ES es k) (es[k]'d).1:=by
 simp only[ES,DQ d]
def T2(l:List ByteArray)(x:ByteArray)(k:Nat)(d:k<l.length)(h:less x (l[k]'d)=true):EC l x (k+1)=EC l x k:=by
 simp only[EC,DQ d];rw[Ai h]
def T1(l:List ByteArray)(x:ByteArray)(k:Nat)(d:k<l.length)(h:less x (l[k]'d)=false):EC l x (k+1)=k+1:=by
 simp only[EC,DQ d];rw[Ae (by simp[h])]
def Wq(l:List ByteArray)(x:ByteArray)(m:Nat)(h:m<l.length):
 ((FN (l.take (m+1)++x::l.drop (m+1))).set (m+1) (.string (l[m]'h))).set m (.string x)=FN (l.take m++x::l.drop m):=by
 have z:=DL h;have I:=FW h;have E:(l.take m).length=m:=by simp;omega
 rw[z,I];unfold FN;simp only[EV,HC,C8,FL,EU];have d:(List.map Value.string (l.take m)).length=m:=by simpa using E
 rw[IB _ _ (by omega),d,show m+1-m=1 from by omega];simp only[Pp,UE];rw[IB _ _ (by omega),d,MP];rfl
def Of(w:World)(b:Nat)(D:DS)(F:Nat->FC)(Ft:Nat->Prop)(h:Da w b D F Ft)(hs:D.A5.length<1099511627776):
 Ag 76 #[A6 b] w λe w'=>∃v,e=.returned v/\w'.ownsRow 0 9 1 v D.A5.length (FN (dList D.A5))/\A4 Aa w w'/\(∀g,v.ownBlock=some g->w.heap.size<=g):=by
 obtain⟨vd,vs,vc,vals,VB,hr,hft⟩:=h;have bB:=A1 hr;have c0:=hr.Af.c0;obtain⟨i0,hi,aL,aS,aP⟩:=DG Tryz.eY;obtain⟨a,cap,rfl,z1,z2,aB⟩:=bB.o.A5.BP;unfold maxLen at z2;have a1:i0.bytes*D.A5.length<=281474976710656:=by rw[aP];omega
 have a4:D.A5.length<=maxLen:=by unfold maxLen;omega
 have a2:=A1 a1;have a6:=A1 a4
 go_enter func76,ntmps76
 go_wp2_with (at_make;refine wpList_make_own _ rfl _ _ 121 rfl 0 9 i0 _ 1 underlying121 hi aL aS _ _ _ D.A5.length rfl rfl rfl a2.o a6.o (Ce _) ?_;intro w1 aD aO;have c01:=aO.cell c0 (by simp);have aT:=A1 aD);go_loopw [3,18] (λv i wr=>∃k:Nat,k<=D.A5.length/\i=A0 k/\A4 Aa w wr/\Hid (wr.ownsRow 0 9 1 v k (FN (ES D.A5 k)))/\Hid (∀x,v.oB x->w.heap.size<=x)) (λ_ i _=>D.A5.length-(intOf i).toNat)
 case atStart=>exact⟨0,Ce _,rfl,(A4.C _ w).C4 aO (λk hk=>by cases hk),aT.o,λx hx=>by cases hx;exact Ao _⟩
 case round=>
  obtain⟨k,hk,rfl,O,aN,aR⟩:=hrel;by_cases d:k<D.A5.length
  ·obtain⟨g,rfl,hn,hp⟩:=aB k d;have aK:g<w.heap.size:=Gz w _ hn;have a0:A8 wr g (k*2) (.string (D.A5[k]'d).1):=(Dy (O.Am g aK (λh=>h))).trans hn;have hp':A8 wr g (k*2+1) (A6 ((D.A5[k]'d).2)):=(Dy (O.Am g aK (λh=>h))).trans hp;have hsz:=O.Al;have X:=A1 ((aN.o.alloc (.cells #[.string (D.A5[k]'d).1,A6 ((D.A5[k]'d).2)] 125)).alloc (.cells #[.string (D.A5[k]'d).1] 9));have aM:=A1 (Src.a8 (size:=1) underlying121 (wr.alloc (.cells #[.string (D.A5[k]'d).1,A6 ((D.A5[k]'d).2)] 125)) #[.string (D.A5[k]'d).1] 9 (wr.heap.size+1) (by simp) 1 1 rfl (by simp[Value.oneCell']));generalize hx:(D.A5[k]'d).1=x at a0 X aM;have bA:=A1 hx;go_wp2_with (at_builtin;refine CZ rfl (.tmp 22) (.tmp 25) 121 121 rfl 9 i0 _ 1 16 underlying121 hi aL aS aP rfl (by decide) _ _ _ (by rfl) X.o _ 1 _ (by rfl) aM.o (by omega) ?_;intro a3 z w3 hB);have hl:=A1 (Mt D.A5 k hk);obtain⟨l,aA⟩:∃l,ES D.A5 k=l:=⟨_,rfl⟩;have a9:=A1 aA;(have a7:l.length=k:=by rw[<-aA];exact hl.o);have aF:w3.ownsRow 0 9 1 (.slice a3 (k+1) z) (k+1) (FN (l.take k++x::l.drop k)):=by
    have:=hB.AE;rw[aA]at this;rw[Ec (by omega),I0 (by omega)];simpa[FN] using this
   have aV:=A1 aF;have c13:=A1 (hB.cr ((O.ah _).ah _) aR.o);(have hmax:z<=maxLen:=by obtain⟨_,_,he,h1,h2,_⟩:=Bk aF;cases he;exact h2);obtain⟨I,aZ⟩:∃I,a3=some (A9 I 0):=by
    obtain⟨_,_,he,h1,h2,h3,_⟩:=Bk aF;cases he;exact h3 (by omega)
   have aI:=A1 a7;subst aZ;have a5:=A1 c13.o.1;have W:=A1 (c13.o.2);have fin:Hid (∀(wq:World) (j:Nat),j<=k->EC l x k=j->wq.ownsRow 0 9 1 (AB I (k+1) z) (k+1) (FN (l.take j++x::l.drop j))->wq.ownsRow 0 9 1 (AB I (k+1) z) (k+1) (FN (ES D.A5 (k+1)))):=by
    intro wq j hj hp h;rw[Ms D.A5 k d,a9.o,bA.o,ins,aI.o,hp];exact h
   go_loopw [6] (λi wq=>∃j:Nat,j<=k/\i=A0 j/\Hid (A4 Aa w wq)/\Hid (wq.ownsRow 0 9 1 (AB I (k+1) z) (k+1) (FN (l.take j++x::l.drop j)))/\Hid (EC l x k=EC l x j)) (λi _=>(intOf i).toNat)
   case atStart=>exact⟨k,Ao _,rfl,a5,aV,rfl⟩
   case round=>
    obtain⟨j,hj,rfl,aE,E,aH⟩:=hrel;by_cases aX:j=0
    ·subst aX;rw[show ((0:Nat):Int)=0 from rfl];go_wp2;go_quiet (fail);go_wp2;go_roundw
     case rel=>
      refine⟨k+1,by omega,by go_num,aE.o.aX _,?_,W.o⟩;exact fin.o _ 0 (by omega) (by rw[aH.o];rfl) E.o
     case measure=>simp[intOf];omega
    ·(have hj1:(0:Int)<(j:Int):=by omega);(have hj2:0<j:=by omega);(have L:j-1<l.length:=by have:=aI.o;omega);(have aW:j<=l.length:=by have:=aI.o;omega);obtain⟨y,hy⟩:∃y,l[j-1]'L=y:=⟨_,rfl⟩
     have g1:A8 wr I (j-1) (.string y):=BD E.o rfl (by
      unfold FN;rw[EV,IE (by simp;omega)]
      simp[List.getElem?_take,L,hy];omega)
     have g2:A8 wr I j (.string x):=BD E.o rfl (by
      unfold FN;rw[EV,HF (by simp;omega)]
      simp[Nat.min_eq_left aW])
     have gz:∀o,wr.frozen? (A9 I o)=false:=λo=>Ez E.o rfl o;by_cases aG:less x y=true
     ·have aQ:Op.bytesLess x.toList y.toList=true:=aG;have aJ:=A1 aG;have aU:=A1 hy;go_wp2;go_quiet (fail);go_wp2;go_region;go_wp2;go_roundw
      case rel=>
       refine⟨j-1,by omega,by go_num,?_,?_,?_⟩
       ·have h1:=((aE.o.a1 (p:=(A9 I j)) (λh=>by have:=W.o I rfl;simp at h;omega) (.string y)).a1 (p:=(A9 I (j-1))) (λh=>by have:=W.o I rfl;simp at h;omega) (.string x));exact⟨h1.os,h1.DC,h1.DE,h1.Al,h1.Am⟩
       ·have s1:=(E.o.stored j (.string y)).1;have s2:=(s1.stored (j-1) (.string x)).1;have e:=Wq l x (j-1) L;rw[show j-1+1=j from by omega,aU.o]at e;rw[e]at s2;exact s2
       ·have:=T2 l x (j-1) L (by rw[aU.o];exact aJ.o);rw[show j-1+1=j from by omega]at this;unfold Hid;rw[aH.o];exact this
      case measure=>simp[intOf];omega
     ·(have Y:less x y=false:=by simpa using aG);have aQ:Op.bytesLess x.toList y.toList=false:=Y;have aJ:=A1 Y;have aU:=A1 hy;go_wp2;go_quiet (fail);go_wp2;go_roundw
      case rel=>
       refine⟨k+1,by omega,by go_num,aE.o.aX _,?_,W.o⟩;refine fin.o _ j hj ?_ E.o;have:=T1 l x (j-1) L (by rw[aU.o];exact aJ.o);rw[show j-1+1=j from by omega]at this;rw[aH.o];exact this
      case measure=>simp[intOf];omega
  ·(have a8:k=D.A5.length:=by omega);have aY:=A1 a8;go_wp2;go_ret;refine⟨_,rfl,?_,O,aR.o⟩;have:=aN.o;rw[aY.o]at this;exact this
def FA(c:Int)(n:Nat):Nat:=((if c<0 then -(c+1) else c) % ((n:Int)+1)).toNat
def JC(c:Int)(n:Nat):FA c n<=n:=by
 unfold FA;have h1:=N7 (if c<0 then -(c+1) else c) (b:=(n:Int)+1) (by omega);have h2:=UY (if c<0 then -(c+1) else c) (b:=(n:Int)+1) (by omega);omega
def RC(c:Int)(n:Int)(w:World)(d : -9223372036854775808<=c/\c<=9223372036854775807)(z:0<=n/\n<=4611686018427387904):
 Ag 75 #[A0 c,A0 n] w (Aj (A0 (FA c n.toNat)) λw'=>w=w'):=by
 obtain⟨h1,h2⟩:=d;obtain⟨h,h4⟩:=z;by_cases d:c<0
 ·have q:Hid ((FA c n.toNat:Int) = -((c+1).tmod (n+1))):=by
   unfold Hid FA;rw[Ai d,Px h,Px (N7 _ (by omega)),<-A3W (by omega),PA]
  go_enter func75,ntmps75
  go_wp2;go_ret;rw[q.o];exact⟨rfl,rfl⟩
 ·have q:Hid ((FA c n.toNat:Int)=c % (n+1)):=by
   unfold Hid FA;rw[Ae d,Px h,Px (N7 _ (by omega))]
  go_enter func75,ntmps75
  go_wp2;go_ret;rw[q.o];exact⟨rfl,rfl⟩
def Lm(w:World)(v:Value)(h:List Int):Prop:=
 ∃E cap,v=.slice E h.length cap/\h.length<=9223372036854775807/\∀j (I:j<h.length),∃z d,E=some ⟨z,d,none⟩/\z<w.heap.size/\w.cell? ⟨z,d+j,none⟩=some (.int .i64 (h[j]'I))
def FB(c:FC)(t:Int):FC:=
 let m:=c.2.toNat+FA t (c.1.length-c.2.toNat)
 (c.1.take m,(c.1.take m).length)
def DX(dir:List AN)(d:List Int)(names:List ByteArray)(F:Nat->FC):Nat->(Nat->FC)
 | 0=>F
 | k+1=>let G:=DX dir d names F k
  match names[k]? with
  | none=>G
  | some name=>match lookup dir name with
   | some f=>upd G f (FB (G f) (d.getD k 0))
   | none=>G
def Ga(D:DS)(dirs:Int):List AN:=match FA dirs D.Aq.length with
 | 0=>D.AF
 | k+1=>D.Aq.getD k []
def F5(D:DS)(F:Nat->FC)(dirs:Int)(d:List Int):DS×(Nat->FC):=
 let dir:=Ga D dirs
 ({A5:=dir,AF:=dir,Aq:=[],n:={D.n with Bh:=false,CN:=0,DJ:=0}},DX dir d (dList dir) F dir.length)
def A0B(l:List ByteArray)(x y:ByteArray):y∈ins l x↔y=x\/y∈l:=by
 unfold ins;constructor
 ·intro h;rcases AY.1 h with h|h
  ·exact .inr (H3 h)
  ·rcases BX.1 h with h|h
   ·exact .inl h
   ·exact .inr (K1 h)
 ·rintro (rfl|h)
  ·simp
  ·rw[<-E0 (EC l x l.length) l]at h;rcases AY.1 h with h|h
   ·exact AY.2 (.inl h)
   ·exact AY.2 (.inr (BW _ h))
def A1L(es:List AN)(k:Nat)(z:k<=es.length)(y:ByteArray):y∈ES es k↔∃e∈es.take k,e.1=y:=by
 induction k with
 | zero=>simp[ES]
 | succ k ih=>
  have h:=DL (l:=es) (i:=k) z;rw[Ms es k z,A0B,ih (by omega)];constructor
  ·rintro (rfl|⟨e,d,rfl⟩)
   ·exact⟨es[k],by rw[h];exact AY.2 (.inr (Jf.2 rfl)),rfl⟩
   ·exact⟨e,by rw[h];exact AY.2 (.inl d),rfl⟩
  ·rintro⟨e,d,rfl⟩;rw[h]at d;rcases AY.1 d with d|d
   ·exact .inr ⟨e,d,rfl⟩
   ·simp at d;subst d;exact .inl rfl
def A1J(es:List AN)(y:ByteArray):y∈dList es↔∃e∈es,e.1=y:=by
 have:=A1L es es.length (Ao _) y
 rwa [Cc]at this
def BV.eh{w w':World}{b:Nat}{D:DS}{F:Nat->FC}{vd Y vc vl:Value}{z:List Value}{aB:Nat->Value}{es:List AN}(h:BV w b D F vd Y vc z aB)(hl:(vl=Y/\es=D.AF)\/∃k,∃E:k<D.Aq.length,z[k]?=some vl/\es=D.Aq[k]'E)(hb:AL w' b vl Y vc D.n)(hc:A4 (One b) w w'):
 BV w' b {D with A5:=es} F vl Y vc z aB/\∀k,C5 b {D with A5:=es} vl Y vc z aB k->C5 b D vd Y vc z aB k:=by
 have E:∀(k:Nat) (c:Array Value) (e:Nat),w.heap[k]?=some (Obj.cells c e (0,0))->e≠95->w'.heap[k]?=w.heap[k]?:=λk c e E he=>
  hc.Am k (By E) (BM E h.Af he)
 have aA:D4 w vl es:=by
  rcases hl with⟨rfl,rfl⟩|⟨k,E,X,rfl⟩
  ·exact h.AF
  ·obtain⟨v,W,h3⟩:=h.D9 k E;rw[X]at W;cases W;exact h3
 have aE:∀f,Dd f es->D.Ap f:=by
  intro f I;rcases hl with⟨_,rfl⟩|⟨k,E,_,rfl⟩
  ·exact .inr (.inl I)
  ·exact .inr (.inr ⟨_,BT E,I⟩)
 have d:∀f,({D with A5:=es}:DS).Ap f->D.Ap f:=by
  rintro f (I|I|I)
  ·exact aE f I
  ·exact .inr (.inl I)
  ·exact .inr (.inr I)
 refine⟨⟨hb,?_,?_,?_,?_,?_,λf f' g I aD=>h.Gr f f' g (d f I) (d f' aD)⟩,?_⟩
 ·exact Aw aA λg L=>by obtain⟨c,O⟩:=B7 aA L;exact E g _ _ O (by decide)
 ·exact Aw h.AF λg L=>by obtain⟨c,O⟩:=B7 h.AF L;exact E g _ _ O (by decide)
 ·exact Aw h.An λg L=>by obtain⟨c,O⟩:=B7 h.An L;exact E g _ _ O (by decide)
 ·intro i hi;obtain⟨v,X,W⟩:=h.D9 i hi;exact⟨v,X,Aw W λg L=>by obtain⟨c,O⟩:=B7 W L;exact E g _ _ O (by decide)⟩
 ·intro f I;obtain⟨X,W⟩:=h.BH f (d f I);refine⟨X.au (E f _ _ X (by decide)),Aw W λg L=>by obtain⟨c,O⟩:=B7 W L;exact E g _ _ O (by decide)⟩
 ·intro k E;cases E using C5.bH with
  | Af=>exact .Af
  | dir e=>
   rcases hl with⟨rfl,_⟩|⟨j,_,X,_⟩
   ·exact .AF e
   ·exact .D9 (Ld X) e
  | Ad e=>exact .AF e
  | An e=>exact .An e
  | D9 hm e=>exact .D9 hm e
  | BH I=>exact .BH (d _ I)
  | byt I e=>exact .bx (d _ I) e
def Da.cq{w w':World}{b:Nat}{D:DS}{F:Nat->FC}{Ft:Nat->Prop}(h:Da w b D F Ft)(d:w'.heap=w.heap):Da w' b D F Ft:=h.aI λk _=>by rw[d]
def A4.cq{S:Nat->Prop}{a w w':World}(h:A4 S a w)(d:w'.heap=w.heap)(I:w'.os=w.os)(E:w'.tape=w.tape)(L:w'.output=w.output):A4 S a w':=
 ⟨I.trans h.os,E.trans h.DC,L.trans h.DE,by rw[d];exact h.Al,λk z O=>by rw[d];exact h.Am k z O⟩
end
end Go.Proofs.YtodcnkbblippnaaGreatDoor
