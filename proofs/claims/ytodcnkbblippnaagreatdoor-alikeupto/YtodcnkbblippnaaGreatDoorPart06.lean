/- Part 6 of a proof: walks of the program. -/
import Derived.Test.YtodcnkbblippnaaGreatDoorShelf
import Derived.Lib.ItoaLen
import Derived.Lib.AtoiAllCases
import Derived.Test.YtodcnkbblippnaaGreatDoorPart05
namespace Go.Proofs.YtodcnkbblippnaaGreatDoor
set_option maxRecDepth 100000
set_option maxHeartbeats 32000000
set_option linter.defProp false
open Go.Proofs.Tryz
section
open Go.RowKit
def A3.fM{S:Nat->Prop}{w:World}(k:Nat)(os:Array Obj):A3 S w (Go.Sort.grow (w.drewN k) os):=
 ⟨rfl,rfl,rfl,(by show w.heap.size<=(w.heap++os).size;simp),λj d _=>(by show (w.heap++os)[j]?=_;rw[Array.getElem?_append_left d])⟩
def Ee(lt:List UInt8)(n:Int):List UInt8:=lt++Lib.repeatL [48] (19-(Lib.itoa n).length)++Lib.itoa n
def D7(s:Int):List UInt8:=if s=1 then [108] else if s=2 then [115] else if s=3 then [105] else if s=4 then [100] else []
def BO(s n:Int):List UInt8:=if s=1\/s=2 then Ee (D7 s) n else D7 s
def OD(w:World)(s:Int):Ag 133 #[A0 s] w (Al (.bool (decide (s=1\/s=2))) λw'=>w=w'):=by
 go_enter func133,ntmps133
 by_cases h:s=1
 ·subst h;go_wp2;go_ret;exact⟨rfl,rfl⟩
 ·by_cases d:s=2
  ·subst d;go_wp2;go_ret;exact⟨rfl,rfl⟩
  ·go_wp2;go_ret;exact⟨by simp[h,d],rfl⟩
def Z7(w:World)(s:Int)(k:Nat)(hs:s=k/\(k=1\/k=2))(lt:List UInt8)(n:Int)(hn : -9223372036854775808<=n/\n<=9223372036854775807)(hlt:lt.length<=1000)(W:(Lib.itoa n).length<=19)(hl:A7 w 0 k (.string ⟨lt.toArray⟩))(I:Lib.TabIs Tryz.prog w "internal/strconv.uint64pow10" .u64 Lib.pow10Tab):
 Ag 134 #[A0 s,A0 n] w (Al (.string ⟨(Ee lt n).toArray⟩) λw'=>A3 Ab w w'):=by
 obtain⟨rfl,hk⟩:=hs;obtain⟨aI,aN⟩:=hn;have aA:(k:Int)<5:=by omega
 have O:(k:Int)=1\/(k:Int)=2:=by omega
 have aH:decide ((k:Int)=1\/(k:Int)=2)=true:=CH O;have aK:=A1 (Tryz.strconv_Itoa n aI aN w I);have aS:∀w',_:=λw'=>Tryz.strings_Repeat ⟨#[48]⟩ (19-(Lib.itoa n).length) w' (by omega) (by show 1*_<=_;omega);have H:=A1 aS;have E:Hid (Ee lt n=lt++Lib.repeatL [48] (19-(Lib.itoa n).length)++Lib.itoa n):=rfl;have z:=Lib.repeatL_length [48] (19-(Lib.itoa n).length);generalize aJ:Lib.itoa n=dg at aK W H E z;clear aS aJ I;obtain⟨c,Y,hcl⟩:∃c:Nat,19-dg.length=c/\dg.length+c=19:=⟨_,rfl,by omega⟩;rw[Y]at H E z;clear Y;obtain⟨d,L⟩:∃d,Lib.repeatL [48] c=d:=⟨_,rfl⟩;have aE:Hid (∀w':World,Ag 174 #[.string ⟨#[48]⟩,A0 (c:Int)] w' λe aM=>e=.returned (.string ⟨d.toArray⟩)/\Below w'.heap.size w' aM):=by
  rw[<-L];exact H.o
 rw[L]at E z;clear L H;have hrl2:d.length<=19:=by rw[z];simp;omega
 clear z;generalize aB:Ee lt n=nm at E ⊢;have aP:=A1 hl;clear aB hl
 go_enter func134,ntmps134
 go_wp2_with (fail);refine(OD w k).mono ?_;rintro e w0⟨rfl,rfl⟩;rw[aH];have HK1:=A1 hk;have HK2:=A1 O;have aO:=A1 aA;clear hk O aA aH;go_wp2_with (go_at_call 173;refine aK.m ?_;rintro e w1⟨rfl,hw⟩;have aR:=A1 hw;clear hw);have aD:Hid (A3 Ab w w1):=by
  obtain⟨k,os,he⟩:=aR.o;rw[he];exact A3.fM k os
 have aG:=A1 (aD.o.al aP.o);clear aR aK aP;refine Hc 10 (λy=>{tmps:=#[A0 k,A0 n,undef,undef,.string ⟨#[]⟩,.string ⟨dg.toArray⟩,A0 k,.bool true,.bool false,undef,undef,undef,A0 n,.string ⟨dg.toArray⟩,y 0,y 1,y 2,y 3,y 4,y 5,y 6,y 7,y 8,y 9],defers:=[]}) (λ_=>undef)
  (λw'=>A7 w' 0 k (.string ⟨lt.toArray⟩)/\A3 Ab w1 w') (A3 Ab)
  (λj x w'=>match j with
   | 0=>x=A0 k
   | 1=>x=.pointer (some (Aa 0 k))
   | 2=>x=.string ⟨lt.toArray⟩
   | 3=>x=.string ⟨dg.toArray⟩
   | 4=>x=A0 dg.length
   | 5=>x=A0 (c:Int)
   | 6=>x=.string ⟨d.toArray⟩
   | 7=>x=.string ⟨(lt++d).toArray⟩
   | 8=>x=.string ⟨dg.toArray⟩
   | 9=>x=.string ⟨nm.toArray⟩
   | _=>True)
  (by kernel_rfl) (by kernel_rfl) rfl ?_ ?_ ?_ ?_
 ·exact⟨aG.o,(A3.I _ _).af⟩
 ·intro j x w1 w2 hR hS' hG;split at hG<;>exact hG
 ·clear aG;simp only[F8,ET,FG,HJ]
  repeat' (with_reducible apply And.intro)
  all_goals refine⟨?_,(by intro y X _ _ h;exact Bool.noConfusion h),λy x=>rfl⟩
  all_goals
   intro y X hS W hw K hK;obtain⟨c0,aL⟩:=hS;simp[Gd,Region.binds,Fc,List.filter_cons]at W;have hk5:=aO.o;have hk0:=C3 k;have ap1:=K7 lt d;(have g1:¬(9223372036854775807<lt.length+d.length):=by omega);(have g2:¬(9223372036854775807<lt.length+d.length+dg.length):=by omega);(have g3:¬(9223372036854775807<lt.length+(d.length+dg.length)):=by omega);(have ap2:(ByteArray.mk (lt++d).toArray)++(ByteArray.mk dg.toArray)=⟨nm.toArray⟩:=by rw[K7,E.o]);(have ew:IntKind.i64.wrap (c:Int)=c:=by simp[IntKind.wrap,IntKind.bits,IntKind.signed];omega);(have ew2:(19:Int)-(dg.length:Int)=(c:Int):=by omega);have aF:Hid (A7 X 0 k (.string ⟨lt.toArray⟩)/\A3 Ab w1 X):=⟨c0,aL⟩;have aQ:=A1 hK
  all_goals dsimp only
  all_goals try go_simp
  all_goals try with_reducible exact aQ.o _ _ _ rfl (by simp[Act.put,W]) (A3.I _ _) aF.o
  all_goals try
   (have hd5:y 5=A0 (c:Int):=by with_reducible exact W);refine(aE.o X).mono ?_;rintro e w2⟨rfl,hb⟩;have Y:A3 Ab X w2:=A3.cT hb;exact aQ.o _ _ _ rfl (by simp[Act.put,W]) Y ⟨Y.al aF.o.1,aF.o.2.tr Y⟩
 ·intro y X hS hG;have h9:y 9=.string ⟨nm.toArray⟩:=hG 9 (by omega);have aF:=A1 hS;go_wp2;go_ret;exact⟨rfl,aD.o.tr aF.o.2⟩
def SR(w:World)(k:Nat)(hk:k=3\/k=4)(lt:List UInt8)(n:Int)(hl:A7 w 0 k (.string ⟨lt.toArray⟩)):
 Ag 134 #[A0 k,A0 n] w (Al (.string ⟨lt.toArray⟩) λw'=>w=w'):=by
 have hk1:(k:Int)<5:=by omega
 have hk0:=C3 k;have d:decide ((k:Int)=1\/(k:Int)=2)=false:=CZ (by omega)
 go_enter func134,ntmps134
 go_wp2_with (fail);refine(OD w k).mono ?_;rintro e w0⟨rfl,rfl⟩;rw[d];go_wp2;go_ret;exact⟨rfl,rfl⟩
def AE(name:List UInt8):Nat:=AT 4294967295 name
def Lets(B:Nat)(w:World):Prop:=
 B<=w.heap.size/\∀w',Below B w w'->(∀k:Nat,1<=k->k<=4->w'.cell? ⟨0,k,none⟩=some (.string ⟨(D7 k).toArray⟩))/\Lib.TabIs Tryz.prog w' "internal/strconv.uint64pow10" .u64 Lib.pow10Tab
def Lets.aj{B:Nat}{w w':World}{S:Nat->Prop}(h:Lets B w)(d:A3 S w w')(E:∀k,S k->B<=k):Lets B w':=
 ⟨AM h.1 d.Ak,λH z=>h.2 H ((d.dW h.1 λk hk I=>by have:=E k I;omega).trans z)⟩
def Lets.aS{B:Nat}{w w':World}(h:Lets B w)(d:A3 Ab w w'):Lets B w':=h.aj d λ_ h=>h.elim
def SZ(s:Int):(D7 s).length<=1:=by
 unfold D7;split
 ·simp
 ·split
  ·simp
  ·split
   ·simp
   ·split<;>simp
def Z8(lt:List UInt8)(n:Int):(Ee lt n).length=lt.length+(19-(Lib.itoa n).length)+(Lib.itoa n).length:=by
 unfold Ee;have:=Lib.repeatL_length [48] (19-(Lib.itoa n).length);simp only[AY,this];simp
def Ss{s n:Int}(h:(Lib.itoa n).length<=19):(BO s n).length<=100:=by
 have h1:=SZ s;unfold BO;split
 ·rw[Z8];omega
 ·omega
def Mb{B:Nat}{n:Int}(w:World)(k:Nat)(d:1<=k/\k<=4)(hn : -9223372036854775808<=n/\n<=9223372036854775807)(E:(Lib.itoa n).length<=19)(L:Lets B w):
 Calls Tryz.prog 134 #[.int .i64 k,.int .i64 n] w λe w'=>e=.returned (.string ⟨(BO k n).toArray⟩)/\A3 (λ_=>False) w w':=by
 obtain⟨I,H⟩:=L.2 w (Nj _ _);have z:=I k d.1 d.2;by_cases h:k=1\/k=2
 ·have e:BO k n=Ee (D7 k) n:=by unfold BO;rw[Ah (by omega)]
  rw[e];exact Z7 w k k ⟨rfl,h⟩ (D7 k) n hn (by have:=SZ k;omega) E z H
 ·have e:BO k n=D7 k:=by unfold BO;rw[Ad (by omega)]
  rw[e];refine(SR w k (by omega) (D7 k) n z).mono ?_;rintro e w'⟨rfl,rfl⟩;exact⟨rfl,A3.I _ _⟩
def CJ(n:Int):Prop:=0<=n/\n<=9223372036854775807/\(Lib.itoa n).length<=19
section
variable {B:Nat} {n:Int} {p:Value}
def OP(w:World)(z k:Nat)(hk:1<=k/\k<=4)(hn:CJ n)(hL:Lets B w):
 Ag 125 #[A5 z,A0 k,A0 n] w (Al (.agg #[A5 z,.string ⟨(BO k n).toArray⟩,.int .u32 (AE (BO k n))]) λw'=>A3 Ab w w'):=by
 obtain⟨hn1,aA,hd⟩:=hn;have aE:∀w',A3 Ab w w'->_:=λw' hc=>Mb (n:=n) w' k hk ⟨by omega,aA⟩ hd (hL.aS hc);have H:(BO k n).length<=9223372036854775807:=by
  have:=Ss (s:=k) hd;omega
 generalize hnm:BO k n=nm at aE H ⊢;have aF:∀w',_:=λw'=>UM w' 4294967295 nm (by omega) H;obtain⟨s0,E⟩:∃s0,AE nm=s0:=⟨_,rfl⟩;have W:∀w',Ag 165 #[.int .u32 4294967295,.string ⟨nm.toArray⟩] w' λe Y=>e=.returned (.int .u32 s0)/\w'=Y:=by rw[<-E];exact aF
 rw[E];have O:=A1 aE;have X:=A1 W
 go_enter func125,ntmps125
 go_wp2_with (fail);refine(O.o _ ((A3.I _ _).ak _)).mono ?_;rintro e d⟨rfl,L⟩;have h:d.heap[w.heap.size]?=some (.cells #[.pointer none,.string ⟨#[]⟩,.int .u32 0] 160 (0,0)):=L.aj (by show (w.heap.push _)[w.heap.size]?=_;rw[IG]) (by simp);have c0:A7 d w.heap.size 0 (.pointer none):=by simp[A7,World.cell?,h]
 have c1:A7 d w.heap.size 1 (.string ⟨#[]⟩):=by simp[A7,World.cell?,h]
 have c2:A7 d w.heap.size 2 (.int .u32 0):=by simp[A7,World.cell?,h]
 have f0:d.frozen? (Aa w.heap.size 0)=false:=by simp[World.frozen?,h]
 have f1:d.frozen? (Aa w.heap.size 1)=false:=by simp[World.frozen?,h]
 have f2:d.frozen? (Aa w.heap.size 2)=false:=by simp[World.frozen?,h]
 have I:=Cq (o:=2) (v:=.int .u32 s0) (Cq (o:=1) (v:=.string ⟨nm.toArray⟩) (Cq (o:=0) (v:=(A5 z)) h));have k1:A3 Ab w d:=((A3.I Ab w).ak _).tr L;have k3:A3 Ab w (((d.setCell (Aa w.heap.size 0) (A5 z)).setCell (Aa w.heap.size 1) (.string ⟨nm.toArray⟩)).setCell (Aa w.heap.size 2) (.int .u32 s0)):=((k1.bt (by simp) _).bt (by simp) _).bt (by simp) _;have aB:=A1 I;have aD:=A1 k3;go_wp2_with (go_at_call 165;refine(X.o _).mono ?_;rintro e w'⟨rfl,rfl⟩);generalize (((d.setCell (Aa w.heap.size 0) (A5 z)).setCell (Aa w.heap.size 1) (.string ⟨nm.toArray⟩)).setCell (Aa w.heap.size 2) (.int .u32 s0))=w3 at aB aD ⊢;have I:=aB.o;have r0:A7 w3 w.heap.size 0 (A5 z):=by simp[A7,World.cell?,I]
 have r1:A7 w3 w.heap.size 1 (.string ⟨nm.toArray⟩):=by simp[A7,World.cell?,I]
 have r2:A7 w3 w.heap.size 2 (.int .u32 s0):=by simp[A7,World.cell?,I]
 refine ME (v:=.agg #[A5 z,.string ⟨nm.toArray⟩,.int .u32 s0]) (by simp[results,Tryz.results125,go_sem,r0,r1,r2]) rfl ?_;exact⟨rfl,aD.o⟩
def T6(w:World)(z:Nat)(O:CJ n)(L:Lets B w):
 Ag 192 #[A5 z,A0 n] w λe w'=>∃E,e=.returned (A5 E)/\Bd w' E 237 (A5 z) ⟨(BO 1 n).toArray⟩ (AE (BO 1 n))/\A3 Ab w w'/\w.heap.size<=E:=by
 have d:=A1 (OP w z 1 (by omega) O L);rw[show ((1:Nat):Int)=1 from rfl]at d;generalize hnm:BO 1 n=nm at d ⊢;generalize hs0:AE nm=s0 at d ⊢
 go_enter func192,ntmps192
 go_wp2_with (go_at_call 125;refine d.m ?_;rintro e h⟨rfl,I⟩;have H:=A1 I);go_ret;exact⟨h.heap.size,rfl,(by show (h.heap.push _)[h.heap.size]?=_;rw[IG]),H.o.ak _,H.o.Ak⟩
def BZ(w:World)(xb:Nat)(T:TypeId)(b:Nat)(name:List UInt8)(s:Nat)(n:Int)(v:Value):Prop:=w.heap[xb]?=some (.cells #[.pointer (some ⟨b,0,none⟩),.string ⟨name.toArray⟩,.int .u32 s,.int .i64 n,v] T (0,0))
section
variable {w w':World} {xb:Nat} {T:TypeId} {b:Nat} {name:List UInt8} {s:Nat} {v:Value}
def BZ.c0(h:BZ w xb T b name s n v):A7 w xb 0 (A5 b):=by unfold BZ at h;simp[A7,World.cell?,h]
def BZ.c1(h:BZ w xb T b name s n v):A7 w xb 1 (.string ⟨name.toArray⟩):=by unfold BZ at h;simp[A7,World.cell?,h]
def BZ.c2(h:BZ w xb T b name s n v):A7 w xb 2 (.int .u32 s):=by unfold BZ at h;simp[A7,World.cell?,h]
def BZ.c3(h:BZ w xb T b name s n v):A7 w xb 3 (A0 n):=by unfold BZ at h;simp[A7,World.cell?,h]
def BZ.c4(h:BZ w xb T b name s n v):A7 w xb 4 v:=by unfold BZ at h;simp[A7,World.cell?,h]
def BZ.fz(h:BZ w xb T b name s n v)(o:Nat):w.frozen? (Aa xb o)=false:=by unfold BZ at h;simp[World.frozen?,h]
def BZ.lt(h:BZ w xb T b name s n v):xb<w.heap.size:=By h
def BZ.s3(h:BZ w xb T b name s n v)(x:Int):BZ (w.setCell (Aa xb 3) (A0 x)) xb T b name s x v:=Cq h
def BZ.s4(h:BZ w xb T b name s n v)(x:Value):BZ (w.setCell (Aa xb 4) x) xb T b name s n x:=Cq h
def BZ.af(h:BZ w xb T b name s n v):BZ w.drew xb T b name s n v:=by unfold BZ at h ⊢;exact h
def BZ.aj{S:Nat->Prop}(h:BZ w xb T b name s n v)(d:A3 S w w')(z:¬S xb):BZ w' xb T b name s n v:=d.aj h z
end
def QX(w:World)(z:Nat)(O:CJ n)(L:Lets B w):
 Ag 175 #[A5 z,A0 n] w λe w'=>∃E,e=.returned (A5 E)/\BZ w' E 182 z (BO 2 n) (AE (BO 2 n)) n (.slice none 0 0)/\A3 Ab w w'/\w.heap.size<=E:=by
 have d:=A1 (OP w z 2 (by omega) O L);rw[show ((2:Nat):Int)=2 from rfl]at d;generalize hnm:BO 2 n=nm at d ⊢;generalize hs0:AE nm=s0 at d ⊢
 go_enter func175,ntmps175
 go_wp2_with (go_at_call 125;refine d.m ?_;rintro e h⟨rfl,I⟩;have H:=A1 I);go_ret;exact⟨h.heap.size,rfl,(by show (h.heap.push _)[h.heap.size]?=_;rw[IG]),H.o.ak _,H.o.Ak⟩
end
def Ev.a6{w z w':World}{b:Nat}{D:DS}{F:Nat->FC}{Ft:Nat->Prop}(h:Ev z Ft w' b D F)(E:A3 Ab w z):Ev w Ft w' b D F:=by
 obtain⟨O,d,I,W,L⟩:=h;exact⟨(E.aa λ_ _ h=>h.elim).tr O,d,I,W,λk H=>(L k H).imp id λh=>AM E.Ak h⟩
section
variable {B b:Nat} {D:DS} {F:Nat->FC} {Ft:Nat->Prop} {n:Int}
def Kn.a6{w z w':World}{E:Nat}(h:Kn z Ft E w' b D F)(H:A3 Ab w z):Kn w Ft E w' b D F:=by
 obtain⟨W,d,L,X,O⟩:=h;exact⟨(H.aa λ_ _ h=>h.elim).tr W,d,L,X,λk I=>(O k I).imp id λh=>AM H.Ak h⟩
def A3g(w:World)(H:Nat)(name:ByteArray)(s:Nat)(d t v:Int)(aF:0<=d/\d<256)(ht : -9223372036854775808<=t/\t<=9223372036854775807)(hv : -9223372036854775808<=v/\v<=9223372036854775807)(Y:Bd w H 237 (A5 b) name s)(hs:s<4294967296)(h:B3 w b D F Ft)(E:∀k,Ft k->k<w.heap.size)(hn:¬Ft H)(hroom : -4611686018427387904<=D.n.AH/\D.n.AH<=9223372036854775807)(hu:B4 F D.A4<=4611686018427387904)(hp:0<=D.n.BJ/\D.n.BJ<=9223372036854775807)(hl:∀f,lookup D.A4 name=some f->(F f).1.length+21<=70368744177664)(hz:(CC (Bp D F name ⟨(Bc d t v++Ca (AT s (Bc d t v))).toArray⟩).2.1 (Bp D F name ⟨(Bc d t v++Ca (AT s (Bc d t v))).toArray⟩).2.2 name).1<=70368744177664/\(CC D F name).1<=70368744177664):
 Ag 191 #[A5 H,.agg #[A0 d,A0 t,A0 v]] w (Al (.tuple #[.bool (H7 D F name (Bc d t v++Ca (AT s (Bc d t v)))),A0 (Bp D F name ⟨(Bc d t v++Ca (AT s (Bc d t v))).toArray⟩).1]) λw'=>
  Bd w' H 237 (A5 b) name (AT s (Bc d t v))/\Kn w Ft H w' b (Bp D F name ⟨(Bc d t v++Ca (AT s (Bc d t v))).toArray⟩).2.1 (Bp D F name ⟨(Bc d t v++Ca (AT s (Bc d t v))).toArray⟩).2.2):=by
 have PB:∀w',_:=λw'=>RQ w' d t v aF ht hv;have aB:(Bc d t v).length=17:=by simp[Bc,CL]
 generalize hle:Bc d t v=l at PB aB hz ⊢;have AD:∀w',A3 Ab w w'->_:=λw' hc=>addF (Y.aj hc (by simp)) hs (h.aH E hc) (λk hk=>Bk (E k hk) hc.Ak) hn l hroom hu hp (λf Y=>by have:=hl f Y;omega) (by omega) hz;obtain⟨ok,aK⟩:∃ok,H7 D F name (l++Ca (AT s l))=ok:=⟨_,rfl⟩;obtain⟨er,aE⟩:∃er,(Bp D F name ⟨(l++Ca (AT s l)).toArray⟩).1=er:=⟨_,rfl⟩;rw[aK,aE]at AD ⊢;have hlb:=Y.lt;have aH:=A1 PB;have aI:=A1 AD;have aA:=A1 E
 go_enter func191,ntmps191
 go_wp2;have hb:(w.alloc (.cells #[A0 d,A0 t,A0 v] 113)).heap[w.heap.size]?=some (.cells #[A0 d,A0 t,A0 v] 113 (0,0)):=by show (w.heap.push _)[w.heap.size]?=_;rw[IG]
 have p0:(w.alloc (.cells #[A0 d,A0 t,A0 v] 113)).drew.cell? (Aa w.heap.size 0)=some (A0 d):=by show (w.alloc _).cell? _=_;simp only[World.cell?,hb];rfl
 have p1:(w.alloc (.cells #[A0 d,A0 t,A0 v] 113)).drew.cell? (Aa w.heap.size 1)=some (A0 t):=by show (w.alloc _).cell? _=_;simp only[World.cell?,hb];rfl
 have p2:(w.alloc (.cells #[A0 d,A0 t,A0 v] 113)).drew.cell? (Aa w.heap.size 2)=some (A0 v):=by show (w.alloc _).cell? _=_;simp only[World.cell?,hb];rfl
 have O:Hid (A3 Ab w (w.alloc (.cells #[A0 d,A0 t,A0 v] 113)).drew):=((A3.I _ w).ak _).af;refine FJ (λw'=>w'.cell? (Aa w.heap.size 0)=some (A0 d)/\w'.cell? (Aa w.heap.size 1)=some (A0 t)/\w'.cell? (Aa w.heap.size 2)=some (A0 v)) 8
  (Bq [0,1,2,3,4,5,6,7] [4,5]) (by kernel_rfl) (by kernel_rfl) (λ_ _ _ _ _ h=>h) ⟨p0,p1,p2⟩ ?_
 generalize (w.alloc (.cells #[A0 d,A0 t,A0 v] 113)).drew=w1 at p0 p1 p2 O ⊢
 iterate 4 (refine E8 (v:=?_) rfl (by rfl) ?_ ?_;rotate_left;(· (intro w' W;(try dsimp only at W);go_simp;try with_reducible rfl));(try simp only[An]))
 refine DW rfl (by rfl) (λK hK=>?_);go_simp;refine(aH.o w1).mono ?_;rintro e X⟨rfl,z⟩;have q0:=z.al p0;have q1:=z.al p1;have q2:=z.al p2;refine hK _ _ ⟨q0,q1,q2⟩ (λW=>?_);have L:Hid (A3 Ab w X):=O.o.tr z
 (try simp only[An])
 refine DW rfl (by rfl) (λK hK=>?_);go_simp;refine(aI.o X L.o).mono ?_;rintro e w3⟨rfl,aM,I⟩;have k3:=I.1;have aL:¬((λk=>Ft k\/k=H) w.heap.size):=by
  rintro (h|h)
  ·have:=aA.o _ h;omega
  ·omega
 have kc:∀o u,X.cell? (Aa w.heap.size o)=some u->w3.cell? (Aa w.heap.size o)=some u:=by
  intro o u hu;have aJ:w.heap.size<X.heap.size:=by
   rcases F7 w.heap.size X.heap.size with h|h
   ·exact h
   ·unfold World.cell? at hu;rw[Nk h]at hu;simp at hu
  unfold World.cell? at hu ⊢;rw[k3.Ao _ aJ aL];exact hu
 refine hK _ _ ⟨kc 0 _ q0,kc 1 _ q1,kc 2 _ q2⟩ (λW=>?_);have aG:=A1 aM;have aD:=A1 (I.a6 L.o)
 (try simp only[An])
 iterate 2 (refine E8 (v:=?_) rfl (by rfl) ?_ ?_;rotate_left;(· (intro w' W;(try dsimp only at W);go_simp;try with_reducible rfl));(try simp only[An]))
 refine Bl ?_;simp only[DE,Dp];go_wp2;go_ret2;exact⟨rfl,aG.o,aD.o⟩
end
section
variable {B b:Nat} {D:DS} {F:Nat->FC} {Ft:Nat->Prop} {n:Int}
def L3(nm:List UInt8)(ahead:Int):List UInt8:=AQ ahead++Ca (AT (AE nm) (AQ ahead))
def Jx(nm:List UInt8):AE nm<4294967296:=Ju _ _ (by omega)
def Z0(w:World)(ahead:Int)(k:Nat)(z aR:DS)(L aP:Nat->FC)(e1 e2:Int)(h:B3 w b D F Ft)(aB:∀k,Ft k->k<w.heap.size)(hn:CJ n)(hL:Lets B w)(ha : -9223372036854775808<=ahead/\ahead<=9223372036854775807)(hk:¬D.Au k)(hs:D.A4.length<1099511627776/\D.Av.length<1099511627776)(h1:CM D ⟨(BO 1 n).toArray⟩ k=(e1,z))(bB:upd F k ([],0)=L)(h2:Bp z L ⟨(BO 1 n).toArray⟩ ⟨(L3 (BO 1 n) ahead).toArray⟩=(e2,aR,aP))(hroom : -4611686018427387904<=z.n.AH/\z.n.AH<=9223372036854775807)(hu:B4 L z.A4<=4611686018427387904)(hp:0<=z.n.BJ/\z.n.BJ<=9223372036854775807)(hl:∀f,lookup z.A4 ⟨(BO 1 n).toArray⟩=some f->(L f).1.length+12<=70368744177664)(hz:(CC aR aP ⟨(BO 1 n).toArray⟩).1<=70368744177664/\(CC z L ⟨(BO 1 n).toArray⟩).1<=70368744177664):
 Ag 236 #[A5 b,A0 n,A0 ahead] w λe w'=>
  (e1≠0/\e=.returned (.tuple #[.pointer none,A0 e1])/\Ev w Ft w' b z L)\/
  (e1=0/\e2≠0/\e=.returned (.tuple #[.pointer none,A0 e2])/\Ev w Ft w' b aR aP)\/
  (e1=0/\e2=0/\∃d,e=.returned (.tuple #[A5 d,A0 0])/\w.heap.size<=d/\Bd w' d 237 (A5 b) ⟨(BO 1 n).toArray⟩ (AT (AE (BO 1 n)) (AQ ahead))/\
   A3 Ft w w'/\∃O,B3 w' b aR aP O/\(∀k,O k->k<w'.heap.size)/\(∀k,O k->Ft k\/w.heap.size<=k)/\¬O d):=by
 have bH:=A1 (T6 w b hn hL);have aK:=Jx (BO 1 n);generalize hnm:BO 1 n=nm at bH aK h1 h2 hl hz ⊢;have CR:∀w' d,A3 Ab w w'->Bd w' d 237 (A5 b) ⟨nm.toArray⟩ (AE nm)->_:=λw' d hc hf=>TZ hf (h.aH aB hc) k hk hs;rw[h1,bB]at CR;have AD:∀w' d Y,Bd w' d 237 (A5 b) ⟨nm.toArray⟩ (AE nm)->B3 w' b z L Y->(∀k,Y k->k<w'.heap.size)->¬Y d->_:=
  λw' d Y hf hr aJ aY=>addF hf aK hr aJ aY (AQ ahead) hroom hu hp (λf hf=>by have:=hl f hf;rw[CL];exact this) (by rw[CL];omega) (by
   show (CC (Bp z L _ ⟨(L3 nm ahead).toArray⟩).2.1 (Bp z L _ ⟨(L3 nm ahead).toArray⟩).2.2 _).1<=_/\_
   rw[h2];exact hz)
 have e0:AQ ahead++Ca (AT (AE nm) (AQ ahead))=L3 nm ahead:=rfl;rw[e0,h2]at AD;have bM:∀w',_:=λw'=>L0 w' ahead ha;generalize hle:AQ ahead=l at AD bM ⊢;generalize hok:H7 z L ⟨nm.toArray⟩ (L3 nm ahead)=ok at AD;dsimp only at CR AD;have aW:=A1 CR;have bI:=A1 AD;have a6:=A1 bM;have a1:=A1 aB;rcases PZ (e1=0) with aA|aA
 ·subst aA
  go_enter func236,ntmps236
  go_wp2_with (first
   | (go_at_call 192;refine bH.m ?_;rintro e w1⟨d,rfl,hb,hc,aE⟩;have aS:=A1 hb;have aT:=A1 hc;have X:=A1 aE)
   | (go_at_call 240;refine(aW.o _ _ aT.o aS.o).mono ?_;rintro e w2⟨rfl,hA⟩;have aZ:=A1 hA))
  obtain⟨aD,aM,aX,bA,aO⟩:=aZ.o;have bL:=aS.o.lt;have aH:¬Ft d:=λh=>by have:=a1.o d h;have:=X.o;omega
  have aG:¬aM d:=λh=>by rcases aO d h with h|h;exact aH h;omega
  have a8:=aS.o.aj aD aH;have aN:=aD.Ak;refine FJ (λ_=>True) 10
   (Bq [0,1,2,3,4,5,6,7,8,9] [4,5]) (by kernel_rfl) (by kernel_rfl) (λ_ _ _ _ _ h=>h) trivial ?_
  have a9:=A1 a8;have a7:=A1 aX;have aQ:=A1 bA;have aU:=A1 aO;have bC:=A1 aD;have aI:=A1 aG;have a0:=A1 bL;have bE:=A1 aN
  iterate 4 (refine E8 (v:=?_) rfl (by rfl) ?_ ?_;rotate_left;(· (intro w' hS;(try dsimp only at hS);go_simp;try with_reducible rfl));(try simp only[An]))
  refine DW rfl (by rfl) (λK hK=>?_);go_simp;refine(a6.o w2.drew).mono ?_;rintro e w3⟨rfl,I⟩;refine hK _ _ trivial (λhS=>?_);have aV:A3 Ab w2 w3:=⟨I.os,I.FK,I.FM,I.Ak,I.Ao⟩;have H:=A1 aV
  (try simp only[An])
  refine DW rfl (by rfl) (λK hK=>?_);go_simp;refine(bI.o w3 d aM (a9.o.aj H.o (by simp)) (a7.o.aH aQ.o H.o) (λk hk=>Bk (aQ.o k hk) H.o.Ak) aI.o).mono ?_;rintro e w4⟨rfl,bK,bJ,E,bG,bD,aL⟩;refine hK _ _ trivial (λhS=>?_);have bF:=A1 bK;have W:Hid (A3 Ft w w4/\B3 w4 b aR aP E/\(∀k,E k->k<w4.heap.size)/\(∀k,E k->Ft k\/w.heap.size<=k)/\¬E d):=by
   have a2:=bE.o;have a3:=H.o.Ak;have a4:=a0.o;have a5:=X.o;refine⟨((((aT.o.aa λ_ _ h=>h.elim).tr bC.o).Ap H.o (λ_ h _=>h.elim)).Ap bJ (λx hx aB=>?_)),bG,bD,λk hk=>?_,λhx=>?_⟩
   ·rcases hx with hx|rfl
    ·exact(aU.o x hx).resolve_right (by omega)
    ·omega
   ·rcases aL k hk with h|h
    ·exact(aU.o k h).imp id (λh=>by omega)
    ·exact .inr (by omega)
   ·rcases aL d hx with h|h
    ·exact aI.o h
    ·omega
  (try simp only[An])
  iterate 4 (refine E8 (v:=?_) rfl (by rfl) ?_ ?_;rotate_left;(· (intro w' hS;(try dsimp only at hS);go_simp;try with_reducible rfl));(try simp only[An]))
  refine Bl ?_;simp only[DE,Dp];rcases PZ (e2=0) with aF|aF
  ·subst aF;go_wp2;go_ret2;exact⟨d,rfl,X.o,bF.o,W.o.1,E,W.o.2.1,W.o.2.2.1,W.o.2.2.2.1,W.o.2.2.2.2⟩
  ·go_wp2;go_ret2;exact .inr (.inl ⟨trivial,aF,rfl,W.o.1,E,W.o.2.1,W.o.2.2.1,W.o.2.2.2.1⟩)
 ·go_enter func236,ntmps236
  go_wp2_with (first
   | (go_at_call 192;refine bH.m ?_;rintro e w1⟨d,rfl,hb,hc,aE⟩;have aS:=A1 hb;have aT:=A1 hc;have X:=A1 aE)
   | (go_at_call 240;refine(aW.o _ _ aT.o aS.o).mono ?_;rintro e w2⟨rfl,hA⟩;have aZ:=A1 hA))
  go_ret2;exact .inl ⟨aA,rfl,aZ.o.a6 aT.o⟩
end
end
abbrev Pt:=Int×Int
def CU:List Pt->Int->Int->List Pt
 | [],t,v=>[(t,v)]
 | (a,b):: r,t,v=>if a<t then (a,b):: CU r t v else if a=t then (t,v):: r else (t,v):: (a,b):: r
def Dv(l:List Pt):Prop:=l.Pairwise λx y=>x.1<y.1
def A0t{l:List Pt}{t v:Int}{x:Pt}(h:x∈CU l t v):x=(t,v)\/x∈l:=by
 induction l with
 | nil=>simp[CU]at h;exact .inl h
 | cons e r ih=>
  obtain⟨a,b⟩:=e;simp only[CU]at h;split at h
  ·rcases BR.1 h with h|h
   ·exact .inr (by simp[h])
   ·rcases ih h with h|h
    ·exact .inl h
    ·exact .inr (Bx _ h)
  ·split at h
   ·rcases BR.1 h with h|h
    ·exact .inl h
    ·exact .inr (Bx _ h)
   ·rcases BR.1 h with h|h
    ·exact .inl h
    ·exact .inr h
def L1{l:List Pt}(h:Dv l)(t v:Int):Dv (CU l t v):=by
 induction l with
 | nil=>simp[CU,Dv]
 | cons e r ih=>
  obtain⟨a,b⟩:=e;have z:=Db.1 h;simp only[CU];split
  ·rename_i E;refine Db.2 ⟨λx d=>?_,ih z.2⟩;rcases A0t d with rfl|d
   ·exact E
   ·exact z.1 x d
  ·rename_i E;split
   ·rename_i H;subst H;exact Db.2 ⟨λx d=>z.1 x d,z.2⟩
   ·rename_i H;refine Db.2 ⟨λx d=>?_,h⟩;rcases BR.1 d with rfl|d
    ·show t<a;omega
    ·have:=z.1 x d;show t<x.1;simp only at this;omega
def BG(l:List Pt)(t:Int):Nat:=(l.takeWhile λx=>decide (x.1<t)).length
def IT(l:List Pt)(t:Int):BG l t<=l.length:=by
 unfold BG;exact(List.takeWhile_sublist _).length_le
def JI{l:List Pt}{t:Int}{i:Nat}(h:i<BG l t)(z:i<l.length):(l[i]'z).1<t:=by
 unfold BG at h
 induction l generalizing i with
 | nil=>simp at z
 | cons e r ih=>
  by_cases d:e.1<t
  ·simp only[PK,d,P6,Cg,Cv]at h;cases i with
   | zero=>exact d
   | succ i=>simp only[PM];exact ih (by omega) _
  ·simp[d]at h
def KG{l:List Pt}(H:Dv l){t:Int}{i:Nat}(h:BG l t<=i)(z:i<l.length):t<=(l[i]'z).1:=by
 unfold BG at h
 induction l generalizing i with
 | nil=>simp at z
 | cons e r ih=>
  have d:=Db.1 H;by_cases E:e.1<t
  ·simp only[PK,E,P6,Cg,Cv]at h;cases i with
   | zero=>omega
   | succ i=>simp only[PM];exact ih d.2 (by omega) _
  ·cases i with
   | zero=>simp only[Ly];omega
   | succ i=>
    have:=d.1 (r[i]'(by simpa using z)) (BV _);simp only[PM];omega
def RW{l:List Pt}(I:Dv l){t:Int}{k:Nat}(hk:k<=l.length)(H:∀i (z:i<l.length),i<k->(l[i]'z).1<t)(E:∀i (z:i<l.length),k<=i->t<=(l[i]'z).1):BG l t=k:=by
 rcases PF (BG l t) k with h|h|h
 ·have d:BG l t<l.length:=by omega
  have:=H _ d h;have:=KG I (As (BG l t)) d;omega
 ·exact h
 ·have hp:=IT l t;have d:k<l.length:=by omega
  have:=JI h d;have:=E k d (As k);omega
def A0v(l:List Pt)(t v:Int):CU l t v=l.take (BG l t)++(t,v):: (if (l[BG l t]?).any (λx=>x.1==t) then l.drop (BG l t+1) else l.drop (BG l t)):=by
 unfold BG
 induction l with
 | nil=>simp[CU]
 | cons e r ih=>
  obtain⟨a,b⟩:=e;simp only[CU];by_cases h:a<t
  ·simp only[h,Cg,PK,P6,Cv,F8,DE,A3J,Fx,ih]
  ·by_cases d:a=t
   ·subst d;simp
   ·simp[h,d]
def Ty{l:List Pt}(X:Dv l)(p:Int->Bool)(t v:Int):(CU l t v).filter (λx=>p x.1)=if p t then CU (l.filter λx=>p x.1) t v else l.filter (λx=>p x.1):=by
 induction l with
 | nil=>by_cases h:p t<;>simp[CU,h]
 | cons e r L=>
  obtain⟨a,b⟩:=e;have E:=Db.1 X;have L:=L E.2;simp only[CU];by_cases H:a<t
  ·simp only[H,Cg,Fb,L];by_cases h:p t<;>by_cases z:p a<;>simp[h,z,CU,H]
  ·by_cases I:a=t
   ·subst I;simp only[H,C4,Cg,Fb];by_cases h:p a<;>simp[h,CU]
   ·simp only[H,I,C4,Fb];by_cases h:p t
    ·by_cases z:p a
     ·simp[h,z,CU,H,I]
     ·simp only[h,z,Cg];have hall:∀x∈r.filter (λx=>p x.1),t<x.1:=λx Y=>by
       have:=E.1 x (GQ.1 Y).1;simp only at this;omega
      cases hr:r.filter (λx=>p x.1) with
      | nil=>simp[CU]
      | cons y ys=>
       obtain⟨c,d⟩:=y;have:=hall (c,d) (by rw[hr];simp);simp only at this;(have W:¬c<t:=by omega);(have O:¬c=t:=by omega);simp[CU,W,O]
    ·by_cases z:p a<;>simp[h,z]
def Dv.ck{l:List Pt}(h:Dv l)(k:Nat):Dv (l.drop k):=A3O (List.drop_sublist k l) h
def A0S{l:List Pt}(W:Dv l)(a b:Int):l.filter (λx=>decide (a<=x.1)&&decide (x.1<b))=(l.take (BG l b)).drop (BG l a):=by
 unfold BG
 induction l with
 | nil=>simp
 | cons e r h=>
  have d:=Db.1 W;have h:=h d.2;by_cases z:e.1<b
  ·by_cases H:e.1<a
   ·(have:¬a<=e.1:=by omega);simp[H,z,this,h]
   ·(have O:a<=e.1:=by omega);have L:r.takeWhile (λx=>decide (x.1<a))=[]:=by
     cases r with
     | nil=>rfl
     | cons y ys=>have:=d.1 y (by simp);rw[PK];have:¬y.1<a:=by omega
                  simp[this]
    simp only[L,IC,Dp]at h;simp[H,z,O,h]
  ·(have I:∀x∈r,¬x.1<b:=λx E=>by have:=d.1 x E;omega);have:r.filter (λx=>decide (a<=x.1)&&decide (x.1<b))=[]:=by
    rw[Vn];intro x E;have:=I x E;simp[this]
   simp[z,this]
section
open Go.RowKit
def Bj:List Pt->List Value
 | []=>[]
 | (t,v):: r=>A0 t::A0 v::Bj r
def G5(l:List Pt):(Bj l).length=l.length*2:=by
 induction l with
 | nil=>rfl
 | cons e r ih=>obtain⟨n,f⟩:=e;simp only[Bj,Cv,ih];omega
def RV(a b:List Pt):Bj (a++b)=Bj a++Bj b:=by
 induction a with
 | nil=>rfl
 | cons e r ih=>obtain⟨n,f⟩:=e;simp[Bj,ih]
def O5(l:List Pt)(k:Nat):(Bj l).take (k*2)=Bj (l.take k):=by
 induction l generalizing k with
 | nil=>simp[Bj]
 | cons e r ih=>
  obtain⟨n,f⟩:=e
  match k with
  | 0=>simp[Bj]
  | k+1=>rw[show (k+1)*2=k*2+1+1 from by omega];simp[Bj,ih]
def M4(l:List Pt)(k:Nat):(Bj l).drop (k*2)=Bj (l.drop k):=by
 induction l generalizing k with
 | nil=>simp[Bj]
 | cons e r ih=>
  obtain⟨n,f⟩:=e
  match k with
  | 0=>simp[Bj]
  | k+1=>rw[show (k+1)*2=k*2+1+1 from by omega];simp[Bj,ih]
def Yk(l:List Pt)(k:Nat)(h:k<l.length):(Bj l)[k*2]?=some (A0 (l[k]'h).1):=by
 induction l generalizing k with
 | nil=>simp at h
 | cons e r ih=>
  obtain⟨n,f⟩:=e
  match k with
  | 0=>simp[Bj]
  | k+1=>
   have:=ih k (by simpa using h);rw[show (k+1)*2=k*2+1+1 from by omega];simpa[Bj] using this
def Yj(l:List Pt)(k:Nat)(h:k<l.length):(Bj l)[k*2+1]?=some (A0 (l[k]'h).2):=by
 induction l generalizing k with
 | nil=>simp at h
 | cons e r ih=>
  obtain⟨n,f⟩:=e
  match k with
  | 0=>simp[Bj]
  | k+1=>
   have:=ih k (by simpa using h);rw[show (k+1)*2+1=k*2+1+1+1 from by omega];simpa[Bj] using this
def Yl(l:List Pt)(k:Nat)(p:Pt)(h:k<l.length):((Bj l).set (k*2) (A0 p.1)).set (k*2+1) (A0 p.2)=Bj (l.set k p):=by
 induction l generalizing k with
 | nil=>simp at h
 | cons e r ih=>
  obtain⟨n,f⟩:=e
  match k with
  | 0=>simp[Bj]
  | k+1=>
   have:=ih k (by simpa using h);rw[show (k+1)*2=k*2+1+1 from by omega];simp only[Bj,Vb];rw[this]
def M3(l:List Pt):∀u∈Bj l,u.oneCell'=true:=by
 induction l with
 | nil=>simp[Bj]
 | cons e r ih=>
  obtain⟨n,f⟩:=e;intro u hu;simp only[Bj,BR]at hu;rcases hu with rfl|rfl|hu
  ·rfl
  ·rfl
  ·exact ih u hu
def Dm(w:World)(v:Value)(l:List Pt):Prop:=w.ownsRow 0 70 2 v l.length (Bj l)
def Dm.bz{w:World}{g n cap:Nat}{l:List Pt}(h:Dm w (AJ g n cap) l)(k:Nat)(d:k<l.length):A7 w g (k*2) (A0 (l[k]'d).1)/\A7 w g (k*2+1) (A0 (l[k]'d).2):=by
 have z:n=l.length:=by
  obtain⟨_,_,e,_⟩:=B8 h;cases e;rfl
 subst z;exact⟨BC h rfl (Yk l k d),BC h rfl (Yj l k d)⟩
abbrev Pu:=Int×Int×Int
def B9:List Pu->List Value
 | []=>[]
 | (s,t,v):: r=>A0 s::A0 t::A0 v::B9 r
def IS(a b:List Pu):B9 (a++b)=B9 a++B9 b:=by
 induction a with
 | nil=>rfl
 | cons e r ih=>obtain⟨n,f,g⟩:=e;simp[B9,ih]
def He(l:List Pu)(k:Nat)(h:k<l.length):(B9 l)[k*3]?=some (A0 (l[k]'h).1)/\(B9 l)[k*3+1]?=some (A0 (l[k]'h).2.1)/\(B9 l)[k*3+2]?=some (A0 (l[k]'h).2.2):=by
 induction l generalizing k with
 | nil=>simp at h
 | cons e r ih=>
  obtain⟨n,f,g⟩:=e
  match k with
  | 0=>simp[B9]
  | k+1=>
   obtain⟨z,d,E⟩:=ih k (by simpa using h);rw[show (k+1)*3=k*3+1+1+1 from by omega];refine⟨by simpa[B9] using z,by simpa[B9] using d,by simpa[B9] using E⟩
def I3(l:List Pu):∀u∈B9 l,u.oneCell'=true:=by
 induction l with
 | nil=>simp[B9]
 | cons e r ih=>
  obtain⟨n,f,g⟩:=e;intro u hu;simp only[B9,BR]at hu;rcases hu with rfl|rfl|rfl|hu
  ·rfl
  ·rfl
  ·rfl
  ·exact ih u hu
end
section
open Go.RowKit
attribute [local go_sem ↓] Go.wp_at_zero Go.wp_at_succ
def DA:Nat->Nat->List UInt8->List Pu×Bool
 | 0,_,_=>([],true)
 | k+1,s,l=>if l.length<21 then ([],true) else
  if Ca (AT s (l.take 17))=(l.drop 17).take 4/\(l.headD 0).toNat<8 then
   ((((l.headD 0).toNat:Int),BL (l.drop 1),BL (l.drop 9)):: (DA k (AT s (l.take 17)) (l.drop 21)).1,(DA k (AT s (l.take 17)) (l.drop 21)).2)
  else ([],false)
def RC{k s:Nat}{l:List UInt8}(h:l.length<21):DA k s l=([],true):=by cases k<;>simp[DA,h]
def RF{k s:Nat}{b:UInt8}{d t r:List UInt8}(z:d.length=16)(E:t.length=4)(h:Ca (AT s (b::d))=t)(W:b.toNat<8):
 DA (k+1) s (b::d++t++r)=(((b.toNat:Int),BL d,BL (d.drop 8)):: (DA k (AT s (b::d)) r).1,(DA k (AT s (b::d)) r).2):=by
 have I:(b::d++t++r).take 17=b::d:=by simp[z]
 have X:((b::d++t++r).drop 17).take 4=t:=by simp[z,E]
 have L:(b::d++t++r).drop 21=r:=by
  rw[LC,Jl (by simp[z,E])];simp[z,E]
 have O:BL ((b::d++t++r).drop 1)=BL d:=by
  have e:(b::d++t++r).drop 1=d++(t++r):=by simp
  unfold BL;rw[e,GP (by omega)]
 have H:BL ((b::d++t++r).drop 9)=BL (d.drop 8):=by
  have e:(b::d++t++r).drop 9=d.drop 8++(t++r):=by
   simp only[Fx,Cc,DE];rw[LB (by omega)]
  unfold BL;rw[e,GP (by simp;omega)]
 simp only[DA,I,X,L,O,H];rw[Ad (by simp[z,E];omega),Ah (by simpa using⟨h,W⟩)];rfl
def XY{k s:Nat}{b:UInt8}{d t r:List UInt8}(z:d.length=16)(E:t.length=4)(h:¬(Ca (AT s (b::d))=t/\b.toNat<8)):
 DA (k+1) s (b::d++t++r)=([],false):=by
 have H:(b::d++t++r).take 17=b::d:=by simp[z]
 have I:((b::d++t++r).drop 17).take 4=t:=by simp[z,E]
 simp only[DA,H,I];rw[Ad (by simp[z,E];omega),Ad (by simpa using h)]
def Zi{l:List UInt8}(h:21<=l.length):∃(b:UInt8) (d t r:List UInt8),l=b::d++t++r/\d.length=16/\t.length=4:=by
 cases l with
 | nil=>simp at h
 | cons b l=>
  simp at h;refine⟨b,l.take 16,(l.drop 16).take 4,l.drop 20,?_,by simp;omega,by simp;omega⟩;simp only[Fx,Cc,List.cons.injEq,true_and];rw[show l.drop 20=(l.drop 16).drop 4 by simp,DK,DK]
def A0K{l:List UInt8}(h:12<=l.length):∃(d t r:List UInt8),l=d++t++r/\d.length=8/\t.length=4:=by
 refine⟨l.take 8,(l.drop 8).take 4,l.drop 12,?_,by simp;omega,by simp;omega⟩;rw[Cc,show l.drop 12=(l.drop 8).drop 4 by simp,DK,DK]
def G4(s:Nat)(ahead:Int)(l:List UInt8):List Pu×Int:=
 if l.length<12 then ([],0) else
 if Ca (AT s (l.take 8))=(l.drop 8).take 4/\BL l=ahead then
  (if (DA l.length (AT s (l.take 8)) (l.drop 12)).2=true then ((DA l.length (AT s (l.take 8)) (l.drop 12)).1,0) else ([],7))
 else ([],7)
def RG{s:Nat}{ahead:Int}{d t r:List UInt8}(h:d.length=8)(z:t.length=4):
 G4 s ahead (d++t++r)=if Ca (AT s d)=t/\BL d=ahead then (if (DA (r.length+12) (AT s d) r).2=true then ((DA (r.length+12) (AT s d) r).1,0) else ([],7)) else ([],7):=by
 have H:(d++t++r).take 8=d:=by simp[h]
 have O:((d++t++r).drop 8).take 4=t:=by simp[h,z]
 have I:(d++t++r).drop 12=r:=by
  rw[LC,Jl (by simp[h,z])];simp[h,z]
 have L:BL (d++t++r)=BL d:=by unfold BL;rw[Cc,GP (by omega)]
 have E:(d++t++r).length=r.length+12:=by simp[h,z];omega
 unfold G4;rw[Ad (by simp[h,z];omega),H,O,I,L,E]
def AW(w:World)(v:Value)(l:List Pu):Prop:=w.ownsRow 0 113 3 v l.length (B9 l)
def Ih:(Tryz.prog.info? 113).map (λi=>(i.zero,i.size,i.bytes))=some (some (.agg #[A0 0,A0 0,A0 0]),3,24):=by kernel_rfl
section
variable {w:World} {b B:Nat} {D:DS} {F:Nat->FC} {Ft:Nat->Prop} {n:Int}
def Gs(D:DS)(F:Nat->FC)(nm:List UInt8)(ahead:Int):List Pu×Int:=
 if (DP D F ⟨nm.toArray⟩).2≠0 then ([],(DP D F ⟨nm.toArray⟩).2) else G4 (AE nm) ahead (DP D F ⟨nm.toArray⟩).1
def Y5(w:World)(ahead:Int)(h:B3 w b D F Ft)(aJ:∀k,Ft k->k<w.heap.size)(hn:CJ n)(hL:Lets B w)(aI:(DP D F ⟨(BO 1 n).toArray⟩).1.length<=70368744177664):
 Ag 149 #[A5 b,A0 n,A0 ahead] w λe w'=>∃v,e=.returned (.tuple #[v,A0 (Gs D F (BO 1 n) ahead).2])/\AW w' v (Gs D F (BO 1 n) ahead).1/\(∀g,v.ownBlock=some g->w.heap.size<=g)/\A3 Ab w w':=by
 have cG:=A1 (T6 w b hn hL);generalize hnm:BO 1 n=nm at cG aI ⊢;have aU:Hid (AE nm<4294967296):=Jx nm;have H:=A1 h;have b2:=A1 aJ;obtain⟨R,hR⟩:∃R,Gs D F nm ahead=R:=⟨_,rfl⟩;rw[hR];unfold Gs at hR;obtain⟨al,aS⟩:∃al,(DP D F ⟨nm.toArray⟩).1=al:=⟨_,rfl⟩;obtain⟨ae,bP⟩:∃ae,(DP D F ⟨nm.toArray⟩).2=ae:=⟨_,rfl⟩
 have cQ:Hid (∀w1 lb,A3 Ab w w1->Bd w1 lb 237 (A5 b) ⟨nm.toArray⟩ (AE nm)->
  Ag 166 #[A5 lb] w1 (Al (.tuple #[.string ⟨al.toArray⟩,A0 ae]) λw'=>A3 Ab w1 w')):=λw1 lb k1 hf=>by
  have:=UF hf (H.o.aH b2.o k1)
  rwa [aS,bP]at this
 rw[aS,bP]at hR;rw[aS]at aI;generalize hs:AE nm=s0 at cG aU hR cQ;have cL:=A1 hR;obtain⟨i0,hi,b3,cI,cC⟩:=E7 Ih
 go_enter func149,ntmps149
 go_wp2_with (go_at_call 192;refine cG.m ?_;rintro e w1⟨lb,rfl,bR,bC,cN⟩;have cD:=A1 (cQ.o w1 lb bC bR);have bZ:=A1 bR;have b4:=A1 bC;have a7:=A1 cN);refine cD.m ?_;rintro e w2⟨rfl,bD⟩;have cM:=A1 (bZ.o.aj bD (λh=>h));have aX:Hid (A3 Ab w w2):=b4.o.tr bD;have aA:Hid (∀x:Int,R=([],x)->∀w3,A3 Ab w w3->∃v,(Ending.returned (.tuple #[.slice none 0 0,A0 x]):Ending)=.returned (.tuple #[v,A0 R.2])/\AW w3 v R.1/\(∀g,v.ownBlock=some g->w.heap.size<=g)/\A3 Ab w w3):=λx hx w3 h3=>by
  subst hx;exact⟨_,rfl,CD _ _ _ _,λg hg=>by simp[Value.ownBlock]at hg,h3⟩
 by_cases he:ae=0
 case neg=>
  have L:R=([],ae):=by rw[<-cL.o,Ah he]
  go_wp2;go_ret2;exact aA.o _ L _ aX.o
 case pos=>
 subst he;have E:(ByteArray.mk al.toArray).size=al.length:=by show al.toArray.size=_;simp
 by_cases aY:al.length<12
 case pos=>
  have L:R=([],0):=by rw[<-cL.o,Ad (by simp)];unfold G4;rw[Ah aY]
  go_wp2;go_ret2;exact aA.o _ L _ aX.o
 case neg=>
 obtain⟨hd,t4,r,rfl,aE,z⟩:=A0K (l:=al) (by omega);have cO:R=if Ca (AT s0 hd)=t4/\BL hd=ahead then (if (DA (r.length+12) (AT s0 hd) r).2=true then ((DA (r.length+12) (AT s0 hd) r).1,0) else ([],7)) else ([],7):=by
  rw[<-cL.o,Ad (by simp),RG aE z]
 have aH:=A1 cO;have bU:=A1 (Nv w2.drew lb 237 _ _ s0 hd t4 cM.o aU.o z (by omega));have e1:(ByteArray.mk (hd++t4++r).toArray).extract 0 12=⟨(hd++t4).toArray⟩:=by
  rw[extract_mk,Dp,GP (by simp[aE,z]),Er (by simp[aE,z])]
 obtain⟨tx,a5⟩:∃tx,ByteArray.mk (hd++t4++r).toArray=tx:=⟨_,rfl⟩;have bE:tx.extract 12 (r.length+12)=⟨r.toArray⟩:=by
  rw[<-a5,extract_mk]
  congr 2
  rw[LC,Jl (by simp[aE,z]),Es,show 12-(hd++t4).length=0 by simp[aE,z],Dp,Er (by omega)]
 have aQ:(hd++t4++r).length=r.length+12:=by simp[aE,z];omega
 rw[a5]at e1 E ⊢;rw[aQ]at E aI aY;have bN:(0:Int)<=(r.length:Int):=Gp _;generalize b8:r.length=rl at E aI aY bE bN;have aT:=A1 b8;go_wp2;refine BP (λ_=>True) 10
  (Bq [0,1,2,3,4,5,6,7,8,9] [5]) trivial ?_
 iterate 5 (refine Bg ?_;(try simp only[An]))
 refine Bw λK hK=>?_;go_simp;refine bU.m ?_;rintro e w3⟨rfl,b5,b9⟩;refine hK _ _ trivial (λhS=>?_);have a3:=A1 b5;have aG:Hid (A3 Ab w w3):=aX.o.af.Ap b9 λk hk aJ=>by cases hk;have:=a7.o;omega
 (try simp only[An])
 iterate 4 (refine Bg ?_;(try simp only[An]))
 refine Bl ?_;simp only[BI,BH];by_cases Y:Ca (AT s0 hd)=t4
 case neg=>
  have L:R=([],7):=by rw[aH.o,Ad (λh=>Y h.1)]
  have aP:decide (Ca (AT s0 hd)=t4)=false:=CZ Y;go_wp2;go_ret2;exact aA.o _ L _ aG.o
 case pos=>
 have aP:decide (Ca (AT s0 hd)=t4)=true:=CH Y;have aV:=A1 (Mg w3 hd (by omega));have cH:Hid (-9223372036854775808<=BL hd/\BL hd<=9223372036854775807):=by unfold Hid BL wrap64;omega
 generalize hih2:BL hd=ih at aV aH cH;obtain⟨s1,bK⟩:∃s1,AT s0 hd=s1:=⟨_,rfl⟩;have bB:Hid (s1<4294967296):=by rw[<-bK];exact Ju _ _ aU.o
 rw[bK]at aH a3 aP Y ⊢;have bX:=A1 Y;rw[aP];by_cases aD:ih=ahead
 case neg=>
  have L:R=([],7):=by rw[aH.o,Ad (λh=>aD h.2)]
  have bH:(ih !=ahead)=true:=by simpa using aD
  go_wp2_with (go_at_call 168;refine aV.m ?_;rintro e w4⟨rfl,rfl⟩);go_ret2;exact aA.o _ L _ aG.o
 case pos=>
 have aW:Hid (R=if (DA (rl+12) s1 r).2=true then ((DA (rl+12) s1 r).1,0) else ([],7)):=by
  have:=aH.o;rw[Ah ⟨bX.o,aD⟩]at this
  rwa [aT.o]at this
 generalize hP:DA (rl+12) s1 r=P at aW;have cX:=A1 hP;have bH:(ih !=ahead)=false:=by simpa using aD
 go_wp2_with (go_at_call 168;refine aV.m ?_;rintro e w4⟨rfl,rfl⟩);go_loopw [9,13] (λtv v wr=>∃(l:List UInt8) (k:Nat) (W:List Pu),tv=.string ⟨l.toArray⟩/\W.length*21+l.length<=rl/\Hid (∃s,s<4294967296/\Bd wr lb 237 (A5 b) ⟨nm.toArray⟩ s/\AW wr v W/\(∀g,v.ownBlock=some g->w3.heap.size<=g)/\(A3 Ab w wr/\w3.heap.size<=wr.heap.size)/\l.length<=k/\P=(W++(DA k s l).1,(DA k s l).2))) (λtv _ _=>match tv with | .string x=>x.size|_=>0)
 case atStart=>exact⟨r,rl+12,[],rfl,by simp[aT.o],s1,bB.o,a3.o,CD _ _ _ _,λg hg=>by simp[Value.ownBlock]at hg,⟨aG.o,As _⟩,by have:=aT.o;omega,by rw[cX.o];simp⟩
 case round=>
  obtain⟨l,k,W,rfl,bG,hI⟩:=hrel;have E:(ByteArray.mk l.toArray).size=l.length:=by show l.toArray.size=_;simp
  by_cases a0:l.length<21
  case pos=>
   obtain⟨s,-,-,i3,i4,⟨i5,-⟩,-,i7⟩:=hI.o;rw[RC a0]at i7;simp only[FF]at i7;have bW:R=(W,0):=by
    have:=aW.o;rw[i7]at this;simpa using this
   subst bW;go_wp2;go_ret2;exact⟨_,rfl,i3,λg hg=>AM aG.o.Ak (i4 g hg),i5⟩
  case neg=>
   obtain⟨c,d,t,q,rfl,O,z⟩:=Zi (l:=l) (by omega);obtain⟨s,i1,i2,i3,i4,⟨i5,cA⟩,i6,i7⟩:=hI.o;obtain⟨k,rfl⟩:∃k',k=k'+1:=⟨k-1,by simp at i6;omega⟩;obtain⟨ap,cp,rfl,hcap1,a4,-⟩:=B8 i3;unfold maxLen at a4;have bU:=A1 (Nv wr.drew lb 237 _ _ s (c::d) t i2 i1 z (by simp;omega));have e1:(ByteArray.mk (c::d++t++q).toArray).extract 0 21=⟨(c::d++t).toArray⟩:=by
    rw[extract_mk,Dp,GP (by simp[O,z]),Er (by simp[O,z])]
   (have aQ:(c::d++t++q).length=q.length+21:=by simp[O,z];omega);obtain⟨ty,a6⟩:∃ty,ByteArray.mk (c::d++t++q).toArray=ty:=⟨_,rfl⟩;have e2:ty.extract 21 (q.length+21)=⟨q.toArray⟩:=by
    rw[<-a6,extract_mk]
    congr 2
    rw[LC,Jl (by simp[O,z]),Es,show 21-(c::d++t).length=0 by simp[O,z],Dp,Er (by omega)]
   rw[a6]at e1 E ⊢;rw[aQ]at E bG a0 i6;have aL:=λh1 h2=>@RF k s c d t q O z h1 h2;have bJ:=λh=>@XY k s c d t q O z h;generalize hRP:DA (k+1) s (c::d++t++q)=RP at i7 aL bJ;have cB:=A1 aL;have bA:=A1 bJ;have a9:=A1 i7;have H2:=A1 i2;have cS:=A1 i3;have bT:=A1 i4;have cT:=A1 i5;have bY:=A1 cA;have cP:=A1 i6;have cV:=A1 (λw5=>RN w5 c d (by omega));obtain⟨s',bF⟩:∃s',AT s (c::d)=s':=⟨_,rfl⟩;(have bS:Hid (s'<4294967296):=by rw[<-bF];exact Ju _ _ i1);rw[bF]at bU cB bA;generalize cF:q.length=ql at E bG a0 cP e2;have aO:=A1 cF;have hq0:=C3 ql;go_wp2;refine BP (λ_=>True) 10
    (Bq [0,1,2,3,4,5,6,7,8,9] [5]) trivial ?_
   iterate 5 (refine Bg ?_;(try simp only[An]))
   refine Bw λK hK=>?_;go_simp;refine bU.m ?_;rintro e w5⟨rfl,b6,a2⟩;refine hK _ _ trivial (λhS=>?_);have cE:=A1 b6;have bI:Hid (lb<w3.heap.size):=a3.o.lt;(have aZ:Hid (A3 Ab w w5):=cT.o.af.Ap a2 λx hx aJ=>by cases hx;have:=a7.o;omega);have bO:Hid (AW w5 (.slice ap W.length cp) W):=Ay cS.o λg hg=>a2.Ao g (AB cS.o hg) (λe=>by cases e;have:=bT.o _ hg;have:=bI.o;omega);have b7:Hid (w3.heap.size<=w5.heap.size):=AM bY.o a2.Ak
   (try simp only[An])
   iterate 4 (refine Bg ?_;(try simp only[An]))
   refine Bl ?_;simp only[BI,BH];have aF:=A1 (cV.o w5);have aN:Hid (¬(Ca s'=t/\c.toNat<8)->R=([],7)):=λh=>by
    have h1:=a9.o;rw[bA.o h]at h1;have h2:=aW.o;rw[h1]at h2;simpa using h2
   obtain⟨x1,cJ⟩:∃x1,BL d=x1:=⟨_,rfl⟩;obtain⟨x2,bV⟩:∃x2,BL (d.drop 8)=x2:=⟨_,rfl⟩;rw[cJ,bV]at aF cB;have aK:Hid (∀I,A3 Ab w5 I->C5 (I.alloc (.cells #[A0 c.toNat,A0 x1,A0 x2] 113)) I.heap.size c.toNat x1 x2/\A3 Ab w5 (I.alloc (.cells #[A0 c.toNat,A0 x1,A0 x2] 113))):=λI X=>
    ⟨BN I _,X.ak _⟩
   by_cases Y:Ca s'=t
   case neg=>
    have L:=aN.o (λh=>Y h.1);rw[show decide (Ca s'=t)=false from CZ Y];go_wp2_with (go_at_call 176;refine aF.m ?_;rintro e I⟨rfl,X⟩;obtain⟨b1,k7⟩:=aK.o I X;have q0:=b1.c0;have q1:=b1.c1;have q2:=b1.c2;have a1:=A1 k7);go_ret2;exact aA.o _ L _ (aZ.o.tr a1.o)
   case pos=>
   rw[show decide (Ca s'=t)=true from CH Y];by_cases aD:c.toNat<8
   case neg=>
    have L:=aN.o (λh=>aD h.2);rw[show decide (c.toNat<8)=false from CZ aD]at aF;go_wp2_with (go_at_call 176;refine aF.m ?_;rintro e I⟨rfl,X⟩;obtain⟨b1,k7⟩:=aK.o I X;have q0:=b1.c0;have q1:=b1.c1;have q2:=b1.c2;have a1:=A1 k7);go_ret2;exact aA.o _ L _ (aZ.o.tr a1.o)
   case pos=>
    have bL:Hid (∀I,A3 Ab w5 I->
     (((I.alloc (.cells #[A0 c.toNat,A0 x1,A0 x2] 113)).alloc (.cells #[A0 c.toNat,A0 x1,A0 x2] 113)).ownsRow 0 113 3 (.slice ap W.length cp) W.length (B9 W))/\
     ∀w8 a8 aB,App ((I.alloc (.cells #[A0 c.toNat,A0 x1,A0 x2] 113)).alloc (.cells #[A0 c.toNat,A0 x1,A0 x2] 113)) w8 113 3 (.slice ap W.length cp) (.slice a8 (W.length+1) aB) (W.length+1) (B9 W++B9 [((c.toNat:Int),x1,x2)])->
      Bd w8 lb 237 (A5 b) ⟨nm.toArray⟩ s'/\AW w8 (.slice a8 (W.length+1) aB) (W++[((c.toNat:Int),x1,x2)])/\(∀g,(Value.slice a8 (W.length+1) aB).ownBlock=some g->w3.heap.size<=g)/\A3 Ab w w8/\w3.heap.size<=w8.heap.size):=λI X=>by
     have k9:A3 Ab w5 ((I.alloc (.cells #[A0 c.toNat,A0 x1,A0 x2] 113)).alloc (.cells #[A0 c.toNat,A0 x1,A0 x2] 113)):=(aK.o I X).2.ak _;generalize ((I.alloc (.cells #[A0 c.toNat,A0 x1,A0 x2] 113)).alloc (.cells #[A0 c.toNat,A0 x1,A0 x2] 113))=w9 at k9 ⊢;refine⟨Ay bO.o λg hg=>k9.Ao g (AB bO.o hg) (λh=>h),λw8 a8 aB hA=>?_⟩;have aR:=hA.Aj (S:=λk=>(Value.slice ap W.length cp).ownBlock=some k) λ_ h=>h;have bQ:w3.heap.size<=w9.heap.size:=AM b7.o k9.Ak;refine⟨(cE.o.aj k9 (λh=>h)).aj aR (λhg=>by have:=bT.o _ hg;have:=bI.o;omega),?_,?_,?_,?_⟩
     ·have:=hA.AA;unfold AW;rw[IS];simpa using this
     ·intro g hg;rcases hA.Cj with h|h
      ·rw[h]at hg;exact bT.o g hg
      ·rw[h]at hg;cases hg;exact bQ
     ·exact(aZ.o.tr k9).Ap aR λx hx aJ=>by have:=bT.o x hx;have:=aG.o.Ak;omega
     ·exact AM bQ aR.Ak
    rw[show decide (c.toNat<8)=true from CH aD]at aF
    go_wp2_with (first
     | (go_at_call 176;refine aF.m ?_;rintro e I⟨rfl,X⟩;obtain⟨b1,k7⟩:=aK.o I X;have q0:=b1.c0;have q1:=b1.c1;have q2:=b1.c2;have b0:=A1 X)
     | (at_builtin
        have aM:=A1 (bL.o I b0.o);have bM:=A1 (Src.bb (size:=3) (B:=I.heap.size+1) underlying97 (I.alloc (.cells #[A0 c.toNat,A0 x1,A0 x2] 113)) #[A0 c.toNat,A0 x1,A0 x2] 113 (by simp) 1 1 rfl (I3 [((c.toNat:Int),x1,x2)]));refine D4 rfl (.tmp 80) (.tmp 82) 97 97 rfl 113 i0 _ 3 24 underlying97 hi b3 cI cC rfl (by decide) (.slice ap W.length cp) W.length (B9 W) (by rfl) aM.o.1 _ 1 _ (by rfl) bM.o (by omega) ?_;intro a8 aB w8 hA;have cU:=A1 (aM.o.2 w8 a8 aB hA)
        clear hA))
    go_roundw
    case rel=>
     obtain⟨r1,r2,r3,r4,r5⟩:=cU.o;refine⟨q,k,W++[((c.toNat:Int),x1,x2)],rfl,by have:=aO.o;simp;omega,s',bS.o,r1,r2,r3,⟨r4,r5⟩,by have:=cP.o;have:=aO.o;omega,?_⟩;rw[a9.o,cB.o Y aD];simp
    case measure=>
     (have e:(ByteArray.mk q.toArray).size=q.length:=by show q.toArray.size=_;simp);have:=aO.o;simp only[e,E];omega
end
end
section
open Go.RowKit
structure PD where
 D:DS
 F:Nat->FC
def Il:List AL->Nat
 | []=>0
 | e::r=>max (e.2+1) (Il r)
def OV{es:List AL}{f:Nat}(h:Df f es):f<Il es:=by
 induction es with
 | nil=>obtain⟨e,d,_⟩:=h;cases d
 | cons x t ih=>
  obtain⟨e,d,rfl⟩:=h;unfold Il;rcases BR.1 d with rfl|d
  ·omega
  ·have:=ih ⟨e,d,rfl⟩;omega
def K6:List (List AL)->Nat
 | []=>0
 | c::r=>max (Il c) (K6 r)
def A12{l:List (List AL)}{c:List AL}{f:Nat}(d:c∈l)(h:Df f c):f<K6 l:=by
 induction l with
 | nil=>cases d
 | cons x t ih=>
  unfold K6;rcases BR.1 d with rfl|d
  ·have:=OV h;omega
  ·have:=ih d;omega
def DS.AS(D:DS):Nat:=max (Il D.A4) (max (Il D.AO) (K6 D.Av))
def DS.cB(D:DS):¬D.Au D.AS:=by
 intro h;have:D.AS<D.AS:=by
  rcases h with h|h|⟨c,d,h⟩
  ·have:=OV h;unfold DS.AS at *;omega
  ·have:=OV h;unfold DS.AS at *;omega
  ·have:=A12 d h;unfold DS.AS at *;omega
 omega
abbrev Bs:=List UInt8
def A8(l:Bs):ByteArray:=⟨l.toArray⟩
def FO{a b:Bs}:A8 a=A8 b↔a=b:=by
 constructor
 ·intro h;have:=Ei (λx=>x.data.toList) h;simpa[A8] using this
 ·rintro rfl;rfl
def G8(b:ByteArray):A8 b.data.toList=b:=by simp[A8]
def PD.ai(P:PD)(nm:ByteArray):Int×PD:=((CM P.D nm P.D.AS).1,⟨(CM P.D nm P.D.AS).2,upd P.F P.D.AS ([],0)⟩)
def PD.an(P:PD)(nm:ByteArray)(l:Bs):Int×PD:=((Bp P.D P.F nm (A8 l)).1,⟨(Bp P.D P.F nm (A8 l)).2.1,(Bp P.D P.F nm (A8 l)).2.2⟩)
def PD.ae(P:PD)(nm:ByteArray):Int×PD:=((CA P.D P.F nm).1,⟨(CA P.D P.F nm).2.1,(CA P.D P.F nm).2.2⟩)
def PD.aJ(P:PD):Int×PD:=((DH P.D).1,⟨(DH P.D).2,P.F⟩)
def PD.az(P:PD)(nm:ByteArray):Int×PD:=((Dg P.D nm).1,⟨(Dg P.D nm).2,P.F⟩)
def PD.aO(P:PD)(old nm:ByteArray):Int×PD:=((CQ P.D old nm).1,⟨(CQ P.D old nm).2,P.F⟩)
structure Fit (P:PD) (a c m:Nat):Prop where
 A4:P.D.A4.length<=a
 AO:P.D.AO.length<=a
 Fs:∀l∈P.D.Av,l.length<=a
 Aj:P.D.Av.length<=c
 B5:∀f,P.D.Au f->(P.F f).1.length<=m
 AH : -4611686018427387904<=P.D.n.AH/\P.D.n.AH<=9223372036854775807
 BJ:0<=P.D.n.BJ/\P.D.n.BJ<=9223372036854775807
def Fit.aa{P:PD}{a c m a' z m':Nat}(h:Fit P a c m)(d:a<=a')(L:c<=z)(E:m<=m'):Fit P a' z m':=
 ⟨AM h.A4 d,AM h.AO d,λl I=>AM (h.Fs l I) d,AM h.Aj L,λf H=>AM (h.B5 f H) E,h.AH,h.BJ⟩
def Nr{F:Nat->FC}{m:Nat}:∀(es:List AL),(∀f,Df f es->(F f).1.length<=m)->B4 F es<=es.length*m
 | [],_=>by simp[B4]
 | e::r,h=>by
  have h1:=h e.2 ⟨e,BF ..,rfl⟩;have h2:=Nr r λf d=>h f (by obtain⟨x,E,z⟩:=d;exact⟨x,Bx _ E,z⟩);simp only[B4,Cv,HM,V7];omega
def Fit.dK{P:PD}{a c m:Nat}(h:Fit P a c m):B4 P.F P.D.A4<=a*m:=
 AM (Nr _ λf d=>h.B5 f (.inl d)) (Hq _ h.A4)
def Uq(n:DN):(bg n).2.2.AH=n.AH/\(bg n).2.2.BJ=n.BJ:=by
 unfold bg;dsimp only
 split
 ·exact⟨rfl,rfl⟩
 ·split
  ·exact⟨rfl,rfl⟩
  ·split<;>exact⟨rfl,rfl⟩
def Fit.bK{P:PD}{a c m:Nat}(h:Fit P a c m):Fit ⟨{P.D with n:=(bg P.D.n).2.2},P.F⟩ a c m:=
 ⟨h.A4,h.AO,h.Fs,h.Aj,h.B5,by have:=(Uq P.D.n).1;show _<=(Go.Proofs.YtodcnkbblippnaaGreatDoor.bg P.D.n).2.2.AH/\(Go.Proofs.YtodcnkbblippnaaGreatDoor.bg P.D.n).2.2.AH<=_;rw[this];exact h.AH,by have:=(Uq P.D.n).2;show _<=(Go.Proofs.YtodcnkbblippnaaGreatDoor.bg P.D.n).2.2.BJ/\(Go.Proofs.YtodcnkbblippnaaGreatDoor.bg P.D.n).2.2.BJ<=_;rw[this];exact h.BJ⟩
def A0U{es:List AL}{nm:ByteArray}(h:¬B2 es nm<0):(B2 es nm).toNat<es.length:=by
 have:=TL es nm;omega
def Fit.ag{P:PD}{a c m a':Nat}(h:Fit P a c m){es:List AL}(I:es.length<=a')(L:a<=a')(H:∀f,Df f es->(P.F f).1.length<=m):Fit ⟨{P.D with A4:=es,Av:=P.D.Av++[es],n:=(Go.Proofs.YtodcnkbblippnaaGreatDoor.bg P.D.n).2.2},P.F⟩ a' (c+1) m:=by
 have O:=h.bK;refine⟨I,AM h.AO L,λl z=>?_,?_,λf d=>?_,O.AH,O.BJ⟩
 ·rcases AU.1 z with z|z
  ·exact AM (h.Fs l z) L
  ·simp at z;subst z;exact I
 ·have:=h.Aj;simp;omega
 ·rcases d with d|d|⟨x,E,d⟩
  ·exact H f d
  ·exact h.B5 f (.inr (.inl d))
  ·rcases AU.1 E with E|E
   ·exact h.B5 f (.inr (.inr ⟨x,E,d⟩))
   ·simp at E;subst E;exact H f d
def Fit.ai{P:PD}{a c m:Nat}(h:Fit P a c m)(nm:ByteArray):Fit (P.ai nm).2 (a+1) (c+1) m:=by
 have z:Fit ⟨P.D,upd P.F P.D.AS ([],0)⟩ a c m:=⟨h.A4,h.AO,h.Fs,h.Aj,λf H=>by
  unfold upd;by_cases E:f=P.D.AS
  ·simp[E]
  ·simp only[E,C4];exact h.B5 f H,h.AH,h.BJ⟩
 unfold PD.ai CM;split
 ·exact z.aa (by omega) (by omega) (As _)
 ·dsimp only
  split
  ·refine z.ag (a':=a+1) ?_ (by omega) ?_
   ·have:=h.A4;simp;omega
   ·rintro f⟨x,d,rfl⟩;rcases AU.1 d with d|d
    ·exact z.B5 _ (.inl ⟨x,d,rfl⟩)
    ·simp at d;subst d;simp[upd]
  ·exact z.bK.aa (by omega) (by omega) (As _)
def Fit.cQ{P:PD}{a c m:Nat}(h:Fit P a c m)(f:Nat)(x:FC)(E:x.1.length<=m):Fit ⟨P.D,Go.Proofs.YtodcnkbblippnaaGreatDoor.upd P.F f x⟩ a c m:=⟨h.A4,h.AO,h.Fs,h.Aj,λg z=>by
 unfold Go.Proofs.YtodcnkbblippnaaGreatDoor.upd;by_cases d:g=f
 ·simp[d];exact E
 ·simp only[d,C4];exact h.B5 g z,h.AH,h.BJ⟩
def Fit.dU{P:PD}{a c m:Nat}(h:Fit P a c m){f:Nat}(H:P.D.Au f)(l:Bs)(E e:Int):Fit ⟨(BA P.D P.F f (A8 l) E e).2.1,(BA P.D P.F f (A8 l) E e).2.2⟩ a c (m+l.length):=by
 have d:=h.aa (As a) (As c) (PG m l.length);have hl:=h.B5 f H;have hu:∀k:Nat,((P.F f).1++(A8 l).data.toList.take k).length<=m+l.length:=λk=>by
  simp only[AY,BU,A8];omega
 unfold BA;split
 ·by_cases z:e=0
  ·simp only[z,Cg];have:=d.cQ f ((P.F f).1++(A8 l).data.toList.take (FU P.D P.F).toNat,(P.F f).2) (hu _);exact⟨this.A4,this.AO,this.Fs,this.Aj,this.B5,this.AH,this.BJ⟩
  ·simp only[z,C4];exact d.cQ f _ (hu _)
 ·exact d.cQ f _ (hu _)
def Fit.an{P:PD}{a c m:Nat}(h:Fit P a c m)(nm:ByteArray)(l:Bs):Fit (P.an nm l).2 a c (m+l.length):=by
 unfold PD.an Bp;cases hx:lookup P.D.A4 nm with
 | none=>exact h.aa (As _) (As _) (by omega)
 | some f=>
  have d:=FQ hx;dsimp only
  split
  ·exact h.bK.dU (P:=⟨{P.D with n:=(bg P.D.n).2.2},P.F⟩) d l _ _
  ·split
   ·exact h.bK.dU (P:=⟨{P.D with n:=(bg P.D.n).2.2},P.F⟩) d l _ _
   ·exact h.bK.aa (As _) (As _) (by omega)
def Fit.ae{P:PD}{a c m:Nat}(h:Fit P a c m)(nm:ByteArray):Fit (P.ae nm).2 a c m:=by
 unfold PD.ae CA;cases hx:lookup P.D.A4 nm with
 | none=>exact h
 | some f=>
  have d:=FQ hx;dsimp only
  split
  ·exact h.bK.cQ (P:=⟨{P.D with n:=(bg P.D.n).2.2},P.F⟩) f _ (h.B5 f d)
  ·exact h.bK
def Fit.aJ{P:PD}{a c m:Nat}(h:Fit P a c m):Fit P.aJ.2 a c m:=by
 unfold PD.aJ DH;dsimp only
 split
 ·have z:=h.bK;refine⟨h.A4,h.A4,λl E=>(by cases E),Cf _,λf d=>h.B5 f ?_,z.AH,z.BJ⟩;rcases d with d|d|⟨x,H,_⟩
  ·exact .inl d
  ·exact .inl d
  ·cases H
 ·exact h.bK
def Fit.az{P:PD}{a c m:Nat}(h:Fit P a c m)(nm:ByteArray):Fit (P.az nm).2 a (c+1) m:=by
 unfold PD.az Dg;split
 ·exact h.aa (As _) (by omega) (As _)
 ·rename_i d;have hl:=A0U d;dsimp only
  split
  ·refine h.ag (a':=a) ?_ (As _) ?_
   ·have:=h.A4;simp;omega
   ·rintro f⟨x,d,rfl⟩;rcases AU.1 d with d|d
    ·exact h.B5 _ (.inl ⟨x,IB d,rfl⟩)
    ·exact h.B5 _ (.inl ⟨x,Lu d,rfl⟩)
  ·exact h.bK.aa (As _) (by omega) (As _)
def XH(es:List AL)(i:Nat)(nm:ByteArray)(k:Nat):(Dk es i nm k).length<=k:=by
 induction k with
 | zero=>simp[Dk]
 | succ k ih=>
  simp only[Dk,AY];cases es[k]? with
  | none=>simp;omega
  | some e=>
   dsimp only
   split
   ·simp;omega
   ·simp;omega
def Fit.aO{P:PD}{a c m:Nat}(h:Fit P a c m)(old nm:ByteArray):Fit (P.aO old nm).2 (a+1) (c+1) m:=by
 unfold PD.aO CQ;cases hx:lookup P.D.A4 old with
 | none=>exact h.aa (by omega) (by omega) (As _)
 | some f=>
  dsimp only
  split
  ·exact h.aa (by omega) (by omega) (As _)
  ·dsimp only
   split
   ·refine h.ag (a':=a+1) ?_ (by omega) ?_
    ·have h1:=h.A4;have h2:=XH P.D.A4 (B2 P.D.A4 old).toNat nm P.D.A4.length;simp;omega
    ·rintro g⟨x,d,rfl⟩;rcases AU.1 d with d | d
     ·exact h.B5 _ (.inl ⟨x,LZ _ _ _ _ x d,rfl⟩)
     ·simp at d;subst d;exact h.B5 _ (FQ hx)
   ·exact h.bK.aa (by omega) (by omega) (As _)
end
section
open Go.RowKit
attribute [local go_sem ↓] Go.wp_at_zero Go.wp_at_succ
def S0:∀(m u d:Nat) (r:List UInt8),u<m->d*10 ^ Lib.nDigits u+u<18446744073709551616->Lib.parseUint10 d (Lib.decDigits u++r)=Lib.parseUint10 (d*10 ^ Lib.nDigits u+u) r
 | 0,u,d,r,h,_=>by omega
 | m+1,u,d,r,h,hb=>by
  have one:∀(a x:Nat) (r:List UInt8),x<10->a*10+x<18446744073709551616->Lib.parseUint10 a (UInt8.ofNat (48+x):: r)=Lib.parseUint10 (a*10+x) r:=λa x r hx ha=>by
   (have e:(UInt8.ofNat (48+x)).toNat=48+x:=by simp;omega);simp only[Lib.parseUint10,e];rw[Ah (by omega),Ad (by omega),Ad (by omega)]
   congr 1;omega
  by_cases z:u<10
  ·rw[Lib.decDigits_one z,PT z]at *;simp only[Fx,Es,Nat.pow_one];exact one d u r z (by simpa using hb)
  ·rw[Vu z,Kb]at *;have e:d*(10 ^ Lib.nDigits (u/10)*10)+u=(d*10 ^ Lib.nDigits (u/10)+u/10)*10+u % 10:=by
    rw[<-PE,HM];omega
   rw[e]at hb ⊢;have E:Lib.decDigits u=Lib.decDigits (u/10)++[UInt8.ofNat (48+u % 10)]:=by
    rw[Lib.decDigits,P5 z]
   rw[E,Cc,S0 m (u/10) d _ (by omega) (by omega)];exact one _ _ r (by omega) hb
def Yt(c:Nat)(r:List UInt8):Lib.parseUint10 0 (List.replicate c 48++r)=Lib.parseUint10 0 r:=by
 induction c with
 | zero=>rfl
 | succ c ih=>simp only[Vc,Fx,Lib.parseUint10];exact ih
def SU(k:Nat):∀u,u<10 ^ k->1<=k->Lib.nDigits u<=k:=by
 induction k with
 | zero=>intro u _ h;omega
 | succ k ih=>
  intro u hu _;by_cases h:u<10
  ·rw[PT h];omega
  ·rw[Vu h];rw[Kb]at hu;cases k with
   | zero=>simp at hu;omega
   | succ k=>have:=ih (u/10) (by omega) (by omega);omega
def Mf{n:Int}(h:0<=n):Lib.itoa n=Lib.decDigits n.toNat:=by unfold Lib.itoa;rw[Ad (by omega)]
def HD{n:Int}(d:0<=n)(h1:n<=4611686018427387904):CJ n:=by
 refine⟨d,by omega,?_⟩;rw[Mf d,Vv];exact SU 19 _ (by omega) (by omega)
def Rl(c:Nat):Lib.repeatL [48] c=List.replicate c 48:=by
 induction c with
 | zero=>rfl
 | succ c ih=>simp[Lib.repeatL,ih,List.replicate_succ]
def A1b(u:Nat):∃b r,Lib.decDigits u=b::r/\48<=b.toNat/\b.toNat<=57:=by
 induction u using Nat.strongRecOn with
 | ind u ih=>
  by_cases h:u<10
  ·exact⟨_,_,Lib.decDigits_one h,by simp;omega,by simp;omega⟩
  ·obtain⟨b,r,z,d,E⟩:=ih (u/10) (by omega);refine⟨b,r++[UInt8.ofNat (48+u % 10)],?_,d,E⟩;rw[Lib.decDigits,P5 h,z];rfl
def A2m{n:Int}(H:0<=n)(h1:n<=9223372036854775807)(c:Nat):Lib.atoiAll (Lib.repeatL [48] c++Lib.itoa n)=.ok n:=by
 rw[Rl,Mf H];obtain⟨b,r,h,hb1,hb2⟩:=A1b n.toNat;have d:Lib.parseMag (List.replicate c 48++Lib.decDigits n.toNat)=.ok n.toNat:=by
  unfold Lib.parseMag;rw[Ad (by rw[h];simp),Yt];have:=S0 (n.toNat+1) n.toNat 0 [] (by omega) (by omega);rw[FF]at this;rw[this];simp[Lib.parseUint10]
 have I:∃b r,List.replicate c 48++Lib.decDigits n.toNat=b::r/\b.toNat≠43/\b.toNat≠45:=by
  cases c with
  | zero=>exact⟨b,r,by simpa using h,by omega,by omega⟩
  | succ c=>exact⟨48,List.replicate c 48++Lib.decDigits n.toNat,by simp[List.replicate_succ],by decide,by decide⟩
 obtain⟨b2,r2,e,z,E⟩:=I;rw[e]at d ⊢;rw[Lib.atoiAll_plain _ _ z E,d];unfold Lib.signless;dsimp only
 rw[Ad (by omega)]
 congr 1
 omega
def TF(a b:List UInt8):Lib.hasPrefix (a++b) a=true:=by
 unfold Lib.hasPrefix;simp
def W8(lt:List UInt8)(n:Int):Lib.trimPrefix (Ee lt n) lt=Lib.repeatL [48] (19-(Lib.itoa n).length)++Lib.itoa n:=by
 unfold Lib.trimPrefix Ee;rw[Cc,Ah (TF _ _),Vp]
def E5(lt nm:List UInt8):Option Int:=match Lib.atoiAll (Lib.trimPrefix nm lt) with
 | .ok v=>if 0<v/\v<=4611686018427387904/\Ee lt v=nm then some v else none
 | _=>none
def Ma(lt:List UInt8){n:Int}(h:0<n)(d:n<=4611686018427387904):E5 lt (Ee lt n)=some n:=by
 unfold E5;rw[W8,A2m (by omega) (by omega)];dsimp only
 rw[Ah ⟨h,d,rfl⟩]
def Ae(n:Int):List UInt8:=BO 1 n
def AF(n:Int):List UInt8:=BO 2 n
def AI:List UInt8:=[105]
def Bo:List UInt8:=[100]
def isNum(n:Int):Bool:=decide (1<=n/\n<=4611686018427387904)
def I8(nm:List UInt8):Int×Int:=if nm=Bo then (4,0) else (0,0)
def H3(nm:List UInt8):Int×Int:=if nm=AI then (3,0) else I8 nm
def H4(nm:List UInt8):Int×Int:=match E5 [115] nm with
 | some v=>(2,v)
 | none=>H3 nm
def Bf(nm:List UInt8):Int×Int:=match E5 [108] nm with
 | some v=>(1,v)
 | none=>H4 nm
def FP(nm:List UInt8)(k:Nat):Int×Int:=if k=1 then Bf nm else if k=2 then H4 nm else if k=3 then H3 nm else if k=4 then I8 nm else (0,0)
def Q3(s:List UInt8)(v:Int):Prop:=Lib.atoiAll s=.ok v\/(∀x,Lib.atoiAll s≠.ok x)/\isNum v=false/\(s=[]->v=0)
def Ut:∀x,Lib.atoiAll []≠.ok x:=by
 intro x;have:Lib.atoiAll []=.syntax:=by decide +kernel
 rw[this];intro h;cases h
def Qt(l:List UInt8):Lib.trimPrefix l l=[]:=by
 unfold Lib.trimPrefix;have:Lib.hasPrefix l l=true:=by simpa using TF l []
 rw[Ah this];simp
def SJ{lt nm:List UInt8}{v:Int}(h:Q3 (Lib.trimPrefix nm lt) v):E5 lt nm=if isNum v=true/\Ee lt v=nm then some v else none:=by
 unfold E5;rcases h with h|⟨h,z,-⟩
 ·rw[h];dsimp only
  by_cases d:0<v/\v<=4611686018427387904/\Ee lt v=nm
  ·rw[Ah d,Ah ⟨by unfold isNum;exact CH ⟨by omega,d.2.1⟩,d.2.2⟩]
  ·rw[Ad d,Ad];rintro⟨E,z⟩;unfold isNum at E;have:=JL E;exact d ⟨by omega,this.2,z⟩
 ·rw[z,Ad (by simp)];cases hx:Lib.atoiAll (Lib.trimPrefix nm lt) with
  | ok x=>exact absurd hx (h x)
  | «syntax»=>rfl
  | range=>rfl
def SP(nm:List UInt8):FP nm 1=Bf nm:=by simp[FP]
def SO(nm:List UInt8):FP nm 2=H4 nm:=by simp[FP]
def SM(nm:List UInt8):FP nm 3=H3 nm:=by simp[FP]
def SL(nm:List UInt8):FP nm 4=I8 nm:=by simp[FP]
def SK(nm:List UInt8):FP nm 5=(0,0):=by simp[FP]
def Z5{nm:List UInt8}{k:Nat}{v:Int}(hk:1<=k/\k<=4)(h:Q3 (Lib.trimPrefix nm (D7 k)) v):
 FP nm k=if isNum v=decide ((k:Int)=1\/(k:Int)=2)/\BO k v=nm then ((k:Int),v) else FP nm (k+1):=by
 have L:k=1\/k=2\/k=3\/k=4:=by omega
 rcases L with rfl|rfl|rfl|rfl
 ·have e:BO ((1:Nat):Int) v=Ee [108] v:=rfl;have z:decide (((1:Nat):Int)=1\/((1:Nat):Int)=2)=true:=by decide
  have:=SJ h;rw[show D7 ((1:Nat):Int)=[108] from rfl]at this;rw[SP,SO,e,z,Bf,this];by_cases d:isNum v=true/\Ee [108] v=nm
  ·rw[Ah d,Ah d];rfl
  ·rw[Ad d,Ad d]
 ·have e:BO ((2:Nat):Int) v=Ee [115] v:=rfl;have z:decide (((2:Nat):Int)=1\/((2:Nat):Int)=2)=true:=by decide
  have:=SJ h;rw[show D7 ((2:Nat):Int)=[115] from rfl]at this;rw[SO,SM,e,z,H4,this];by_cases d:isNum v=true/\Ee [115] v=nm
  ·rw[Ah d,Ah d];rfl
  ·rw[Ad d,Ad d]
 ·have e:BO ((3:Nat):Int) v=AI:=rfl;have z:decide (((3:Nat):Int)=1\/((3:Nat):Int)=2)=false:=by decide
  rw[SM,SL,e,z,H3];by_cases d:nm=AI
  ·subst d;have E:isNum v=false/\v=0:=by
    rw[show D7 ((3:Nat):Int)=AI from rfl,Qt]at h;rcases h with h|⟨_,I,H⟩
    ·exact absurd h (Ut v)
    ·exact⟨I,H rfl⟩
   rw[Ah rfl,Ah ⟨E.1,rfl⟩,E.2];rfl
  ·rw[Ad d,Ad (λh=>d h.2.symm)]
 ·have e:BO ((4:Nat):Int) v=Bo:=rfl;have z:decide (((4:Nat):Int)=1\/((4:Nat):Int)=2)=false:=by decide
  rw[SL,SK,e,z,I8];by_cases d:nm=Bo
  ·subst d;have E:isNum v=false/\v=0:=by
    rw[show D7 ((4:Nat):Int)=Bo from rfl,Qt]at h;rcases h with h|⟨_,I,H⟩
    ·exact absurd h (Ut v)
    ·exact⟨I,H rfl⟩
   rw[Ah rfl,Ah ⟨E.1,rfl⟩,E.2];rfl
  ·rw[Ad d,Ad (λh=>d h.2.symm)]
end
end Go.Proofs.YtodcnkbblippnaaGreatDoor
