/- Part 6 of a proof: walks of the program. -/
import Derived.Test.YtodcnkbblippnabGreatDoorShelf
import Derived.Lib.ItoaLen
import Derived.Lib.AtoiAllCases
import Derived.Test.YtodcnkbblippnabGreatDoorPart05
namespace Go.Proofs.YtodcnkbblippnabGreatDoor
set_option maxRecDepth 100000
set_option maxHeartbeats 32000000
set_option linter.defProp false
open Go.Proofs.Tryz
section
open Go.RowKit
def A3.fC{S:Nat->Prop}{w:World}(k:Nat)(os:Array Obj):A3 S w (Go.Sort.grow (w.drewN k) os):=
 ⟨rfl,rfl,rfl,(by show w.heap.size<=(w.heap++os).size;simp),λj d _=>(by show (w.heap++os)[j]?=_;rw[Array.getElem?_append_left d])⟩
def Ec(lt:List UInt8)(n:Int):List UInt8:=lt++Lib.repeatL [48] (19-(Lib.itoa n).length)++Lib.itoa n
def D3(s:Int):List UInt8:=if s=1 then [108] else if s=2 then [115] else if s=3 then [105] else if s=4 then [100] else []
def BL(s n:Int):List UInt8:=if s=1\/s=2 then Ec (D3 s) n else D3 s
def Og(w:World)(s:Int):Ah 84 #[A0 s] w (Am (.bool (decide (s=1\/s=2))) λw'=>w=w'):=by
 go_enter func84,ntmps84
 by_cases h:s=1
 ·subst h;go_wp2;go_ret;exact⟨rfl,rfl⟩
 ·by_cases d:s=2
  ·subst d;go_wp2;go_ret;exact⟨rfl,rfl⟩
  ·go_wp2;go_ret;exact⟨by simp[h,d],rfl⟩
def YE(w:World)(s:Int)(k:Nat)(hs:s=k/\(k=1\/k=2))(lt:List UInt8)(n:Int)(hn : -9223372036854775808<=n/\n<=9223372036854775807)(hlt:lt.length<=1000)(W:(Lib.itoa n).length<=19)(hl:A6 w 0 k (.string ⟨lt.toArray⟩))(I:Lib.TabIs Tryz.prog w "internal/strconv.uint64pow10" .u64 Lib.pow10Tab):
 Ah 85 #[A0 s,A0 n] w (Am (.string ⟨(Ec lt n).toArray⟩) λw'=>A3 Aa w w'):=by
 obtain⟨rfl,hk⟩:=hs;obtain⟨aI,aN⟩:=hn;have aA:(k:Int)<5:=by omega
 have O:(k:Int)=1\/(k:Int)=2:=by omega
 have aH:decide ((k:Int)=1\/(k:Int)=2)=true:=Cv O;have aK:=A1 (Tryz.strconv_Itoa n aI aN w I);have aS:∀w',_:=λw'=>Tryz.strings_Repeat ⟨#[48]⟩ (19-(Lib.itoa n).length) w' (by omega) (by show 1*_<=_;omega);have H:=A1 aS;have E:Hid (Ec lt n=lt++Lib.repeatL [48] (19-(Lib.itoa n).length)++Lib.itoa n):=rfl;have z:=Lib.repeatL_length [48] (19-(Lib.itoa n).length);generalize aJ:Lib.itoa n=dg at aK W H E z;clear aS aJ I;obtain⟨c,hc,hcl⟩:∃c:Nat,19-dg.length=c/\dg.length+c=19:=⟨_,rfl,by omega⟩;rw[hc]at H E z;clear hc;obtain⟨d,L⟩:∃d,Lib.repeatL [48] c=d:=⟨_,rfl⟩;have aE:Hid (∀w':World,Ah 127 #[.string ⟨#[48]⟩,A0 (c:Int)] w' λe aM=>e=.returned (.string ⟨d.toArray⟩)/\Below w'.heap.size w' aM):=by
  rw[<-L];exact H.o
 rw[L]at E z;clear L H;have hrl2:d.length<=19:=by rw[z];simp;omega
 clear z;generalize aB:Ec lt n=nm at E ⊢;have aP:=A1 hl;clear aB hl
 go_enter func85,ntmps85
 go_wp2_with (fail);refine(Og w k).mono ?_;rintro e w0⟨rfl,rfl⟩;rw[aH];have HK1:=A1 hk;have HK2:=A1 O;have aO:=A1 aA;clear hk O aA aH;go_wp2_with (go_at_call 126;refine aK.m ?_;rintro e w1⟨rfl,hw⟩;have aR:=A1 hw;clear hw);have aD:Hid (A3 Aa w w1):=by
  obtain⟨k,os,he⟩:=aR.o;rw[he];exact A3.fC k os
 have aG:=A1 (aD.o.ao aP.o);clear aR aK aP;refine H0 10 (λy=>{tmps:=#[A0 k,A0 n,undef,undef,.string ⟨#[]⟩,.string ⟨dg.toArray⟩,A0 k,.bool true,.bool false,undef,undef,undef,A0 n,.string ⟨dg.toArray⟩,y 0,y 1,y 2,y 3,y 4,y 5,y 6,y 7,y 8,y 9],defers:=[]}) (λ_=>undef)
  (λw'=>A6 w' 0 k (.string ⟨lt.toArray⟩)/\A3 Aa w1 w') (A3 Aa)
  (λj x w'=>match j with
   | 0=>x=A0 k
   | 1=>x=.pointer (some (Ab 0 k))
   | 2=>x=.string ⟨lt.toArray⟩
   | 3=>x=.string ⟨dg.toArray⟩
   | 4=>x=A0 dg.length
   | 5=>x=A0 (c:Int)
   | 6=>x=.string ⟨d.toArray⟩
   | 7=>x=.string ⟨(lt++d).toArray⟩
   | 8=>x=.string ⟨dg.toArray⟩
   | 9=>x=.string ⟨nm.toArray⟩
   | _=>True)
  (by kernel_rfl) (by kernel_rfl) rfl ?_ ?_ ?_ ?_
 ·exact⟨aG.o,(A3.I _ _).af⟩
 ·intro j x w1 w2 hR hS' hG;split at hG<;>exact hG
 ·clear aG;simp only[EX,EL,Fy,Hv]
  repeat' (with_reducible apply And.intro)
  all_goals refine⟨?_,(by intro y Y _ _ h;exact Bool.noConfusion h),λy x=>rfl⟩
  all_goals
   intro y Y hS W hw K hK;obtain⟨c0,aL⟩:=hS;simp[G8,Region.binds,F6,List.filter_cons]at W;have hk5:=aO.o;have hk0:=Ce k;have ap1:=JJ lt d;(have g1:¬(9223372036854775807<lt.length+d.length):=by omega);(have g2:¬(9223372036854775807<lt.length+d.length+dg.length):=by omega);(have g3:¬(9223372036854775807<lt.length+(d.length+dg.length)):=by omega);(have ap2:(ByteArray.mk (lt++d).toArray)++(ByteArray.mk dg.toArray)=⟨nm.toArray⟩:=by rw[JJ,E.o]);(have ew:IntKind.i64.wrap (c:Int)=c:=by simp[IntKind.wrap,IntKind.bits,IntKind.signed];omega);(have ew2:(19:Int)-(dg.length:Int)=(c:Int):=by omega);have aF:Hid (A6 Y 0 k (.string ⟨lt.toArray⟩)/\A3 Aa w1 Y):=⟨c0,aL⟩;have aQ:=A1 hK
  all_goals dsimp only
  all_goals try go_simp
  all_goals try with_reducible exact aQ.o _ _ _ rfl (by simp[Act.put,W]) (A3.I _ _) aF.o
  all_goals try
   (have hd5:y 5=A0 (c:Int):=by with_reducible exact W);refine(aE.o Y).mono ?_;rintro e w2⟨rfl,hb⟩;have hc:A3 Aa Y w2:=A3.cL hb;exact aQ.o _ _ _ rfl (by simp[Act.put,W]) hc ⟨hc.ao aF.o.1,aF.o.2.tr hc⟩
 ·intro y Y hS hG;have h9:y 9=.string ⟨nm.toArray⟩:=hG 9 (by omega);have aF:=A1 hS;go_wp2;go_ret;exact⟨rfl,aD.o.tr aF.o.2⟩
def Sq(w:World)(k:Nat)(hk:k=3\/k=4)(lt:List UInt8)(n:Int)(hl:A6 w 0 k (.string ⟨lt.toArray⟩)):
 Ah 85 #[A0 k,A0 n] w (Am (.string ⟨lt.toArray⟩) λw'=>w=w'):=by
 have hk1:(k:Int)<5:=by omega
 have hk0:=Ce k;have d:decide ((k:Int)=1\/(k:Int)=2)=false:=D4 (by omega)
 go_enter func85,ntmps85
 go_wp2_with (fail);refine(Og w k).mono ?_;rintro e w0⟨rfl,rfl⟩;rw[d];go_wp2;go_ret;exact⟨rfl,rfl⟩
def AE(name:List UInt8):Nat:=AU 4294967295 name
def Lets(B:Nat)(w:World):Prop:=
 B<=w.heap.size/\∀w',Below B w w'->(∀k:Nat,1<=k->k<=4->w'.cell? ⟨0,k,none⟩=some (.string ⟨(D3 k).toArray⟩))/\Lib.TabIs Tryz.prog w' "internal/strconv.uint64pow10" .u64 Lib.pow10Tab
def Lets.ak{B:Nat}{w w':World}{S:Nat->Prop}(h:Lets B w)(d:A3 S w w')(E:∀k,S k->B<=k):Lets B w':=
 ⟨AQ h.1 d.Ak,λH z=>h.2 H ((d.dN h.1 λk hk I=>by have:=E k I;omega).trans z)⟩
def Lets.aS{B:Nat}{w w':World}(h:Lets B w)(d:A3 Aa w w'):Lets B w':=h.ak d λ_ h=>h.elim
def Sw(s:Int):(D3 s).length<=1:=by
 unfold D3;split
 ·simp
 ·split
  ·simp
  ·split
   ·simp
   ·split<;>simp
def YF(lt:List UInt8)(n:Int):(Ec lt n).length=lt.length+(19-(Lib.itoa n).length)+(Lib.itoa n).length:=by
 unfold Ec;have:=Lib.repeatL_length [48] (19-(Lib.itoa n).length);simp only[AZ,this];simp
def S6{s n:Int}(h:(Lib.itoa n).length<=19):(BL s n).length<=100:=by
 have h1:=Sw s;unfold BL;split
 ·rw[YF];omega
 ·omega
def LL{B:Nat}{n:Int}(w:World)(k:Nat)(d:1<=k/\k<=4)(hn : -9223372036854775808<=n/\n<=9223372036854775807)(E:(Lib.itoa n).length<=19)(L:Lets B w):
 Calls Tryz.prog 85 #[.int .i64 k,.int .i64 n] w λe w'=>e=.returned (.string ⟨(BL k n).toArray⟩)/\A3 (λ_=>False) w w':=by
 obtain⟨I,H⟩:=L.2 w (MV _ _);have z:=I k d.1 d.2;by_cases h:k=1\/k=2
 ·have e:BL k n=Ec (D3 k) n:=by unfold BL;rw[Af (by omega)]
  rw[e];exact YE w k k ⟨rfl,h⟩ (D3 k) n hn (by have:=Sw k;omega) E z H
 ·have e:BL k n=D3 k:=by unfold BL;rw[Ac (by omega)]
  rw[e];refine(Sq w k (by omega) (D3 k) n z).mono ?_;rintro e w'⟨rfl,rfl⟩;exact⟨rfl,A3.I _ _⟩
def CD(n:Int):Prop:=0<=n/\n<=9223372036854775807/\(Lib.itoa n).length<=19
section
variable {B:Nat} {n:Int} {p:Value}
def Oy(w:World)(z k:Nat)(hk:1<=k/\k<=4)(hn:CD n)(hL:Lets B w):
 Ah 76 #[A5 z,A0 k,A0 n] w (Am (.agg #[A5 z,.string ⟨(BL k n).toArray⟩,.int .u32 (AE (BL k n))]) λw'=>A3 Aa w w'):=by
 obtain⟨hn1,aB,hd⟩:=hn;have aF:∀w',A3 Aa w w'->_:=λw' hc=>LL (n:=n) w' k hk ⟨by omega,aB⟩ hd (hL.aS hc);have H:(BL k n).length<=9223372036854775807:=by
  have:=S6 (s:=k) hd;omega
 generalize hnm:BL k n=nm at aF H ⊢;have aG:∀w',_:=λw'=>Us w' 4294967295 nm (by omega) H;obtain⟨s0,E⟩:∃s0,AE nm=s0:=⟨_,rfl⟩;have W:∀w',Ah 118 #[.int .u32 4294967295,.string ⟨nm.toArray⟩] w' λe aA=>e=.returned (.int .u32 s0)/\w'=aA:=by rw[<-E];exact aG
 rw[E];have O:=A1 aF;have Y:=A1 W
 go_enter func76,ntmps76
 go_wp2_with (fail);refine(O.o _ ((A3.I _ _).aj _)).mono ?_;rintro e d⟨rfl,L⟩;have h:d.heap[w.heap.size]?=some (.cells #[.pointer none,.string ⟨#[]⟩,.int .u32 0] 119 (0,0)):=L.ak (by show (w.heap.push _)[w.heap.size]?=_;rw[Ip]) (by simp);have c0:A6 d w.heap.size 0 (.pointer none):=by simp[A6,World.cell?,h]
 have c1:A6 d w.heap.size 1 (.string ⟨#[]⟩):=by simp[A6,World.cell?,h]
 have c2:A6 d w.heap.size 2 (.int .u32 0):=by simp[A6,World.cell?,h]
 have f0:d.frozen? (Ab w.heap.size 0)=false:=by simp[World.frozen?,h]
 have f1:d.frozen? (Ab w.heap.size 1)=false:=by simp[World.frozen?,h]
 have f2:d.frozen? (Ab w.heap.size 2)=false:=by simp[World.frozen?,h]
 have I:=CH (o:=2) (v:=.int .u32 s0) (CH (o:=1) (v:=.string ⟨nm.toArray⟩) (CH (o:=0) (v:=(A5 z)) h));have k1:A3 Aa w d:=((A3.I Aa w).aj _).tr L;have k3:A3 Aa w (((d.setCell (Ab w.heap.size 0) (A5 z)).setCell (Ab w.heap.size 1) (.string ⟨nm.toArray⟩)).setCell (Ab w.heap.size 2) (.int .u32 s0)):=((k1.bp (by simp) _).bp (by simp) _).bp (by simp) _;have aD:=A1 I;have aE:=A1 k3;go_wp2_with (go_at_call 118;refine(Y.o _).mono ?_;rintro e w'⟨rfl,rfl⟩);generalize (((d.setCell (Ab w.heap.size 0) (A5 z)).setCell (Ab w.heap.size 1) (.string ⟨nm.toArray⟩)).setCell (Ab w.heap.size 2) (.int .u32 s0))=w3 at aD aE ⊢;have I:=aD.o;have r0:A6 w3 w.heap.size 0 (A5 z):=by simp[A6,World.cell?,I]
 have r1:A6 w3 w.heap.size 1 (.string ⟨nm.toArray⟩):=by simp[A6,World.cell?,I]
 have r2:A6 w3 w.heap.size 2 (.int .u32 s0):=by simp[A6,World.cell?,I]
 refine Mh (v:=.agg #[A5 z,.string ⟨nm.toArray⟩,.int .u32 s0]) (by simp[results,Tryz.results76,go_sem,r0,r1,r2]) rfl ?_;exact⟨rfl,aE.o⟩
def SG(w:World)(z:Nat)(O:CD n)(L:Lets B w):
 Ah 145 #[A5 z,A0 n] w λe w'=>∃E,e=.returned (A5 E)/\Bc w' E 196 (A5 z) ⟨(BL 1 n).toArray⟩ (AE (BL 1 n))/\A3 Aa w w'/\w.heap.size<=E:=by
 have d:=A1 (Oy w z 1 (by omega) O L);rw[show ((1:Nat):Int)=1 from rfl]at d;generalize hnm:BL 1 n=nm at d ⊢;generalize hs0:AE nm=s0 at d ⊢
 go_enter func145,ntmps145
 go_wp2_with (go_at_call 76;refine d.m ?_;rintro e h⟨rfl,I⟩;have H:=A1 I);go_ret;exact⟨h.heap.size,rfl,(by show (h.heap.push _)[h.heap.size]?=_;rw[Ip]),H.o.aj _,H.o.Ak⟩
def BZ(w:World)(xb:Nat)(T:TypeId)(b:Nat)(name:List UInt8)(s:Nat)(n:Int)(v:Value):Prop:=w.heap[xb]?=some (.cells #[.pointer (some ⟨b,0,none⟩),.string ⟨name.toArray⟩,.int .u32 s,.int .i64 n,v] T (0,0))
section
variable {w w':World} {xb:Nat} {T:TypeId} {b:Nat} {name:List UInt8} {s:Nat} {v:Value}
def BZ.c0(h:BZ w xb T b name s n v):A6 w xb 0 (A5 b):=by unfold BZ at h;simp[A6,World.cell?,h]
def BZ.c1(h:BZ w xb T b name s n v):A6 w xb 1 (.string ⟨name.toArray⟩):=by unfold BZ at h;simp[A6,World.cell?,h]
def BZ.c2(h:BZ w xb T b name s n v):A6 w xb 2 (.int .u32 s):=by unfold BZ at h;simp[A6,World.cell?,h]
def BZ.c3(h:BZ w xb T b name s n v):A6 w xb 3 (A0 n):=by unfold BZ at h;simp[A6,World.cell?,h]
def BZ.c4(h:BZ w xb T b name s n v):A6 w xb 4 v:=by unfold BZ at h;simp[A6,World.cell?,h]
def BZ.fz(h:BZ w xb T b name s n v)(o:Nat):w.frozen? (Ab xb o)=false:=by unfold BZ at h;simp[World.frozen?,h]
def BZ.lt(h:BZ w xb T b name s n v):xb<w.heap.size:=Bw h
def BZ.s3(h:BZ w xb T b name s n v)(x:Int):BZ (w.setCell (Ab xb 3) (A0 x)) xb T b name s x v:=CH h
def BZ.s4(h:BZ w xb T b name s n v)(x:Value):BZ (w.setCell (Ab xb 4) x) xb T b name s n x:=CH h
def BZ.af(h:BZ w xb T b name s n v):BZ w.drew xb T b name s n v:=by unfold BZ at h ⊢;exact h
def BZ.ak{S:Nat->Prop}(h:BZ w xb T b name s n v)(d:A3 S w w')(z:¬S xb):BZ w' xb T b name s n v:=d.ak h z
end
def Qy(w:World)(z:Nat)(O:CD n)(L:Lets B w):
 Ah 128 #[A5 z,A0 n] w λe w'=>∃E,e=.returned (A5 E)/\BZ w' E 139 z (BL 2 n) (AE (BL 2 n)) n (.slice none 0 0)/\A3 Aa w w'/\w.heap.size<=E:=by
 have d:=A1 (Oy w z 2 (by omega) O L);rw[show ((2:Nat):Int)=2 from rfl]at d;generalize hnm:BL 2 n=nm at d ⊢;generalize hs0:AE nm=s0 at d ⊢
 go_enter func128,ntmps128
 go_wp2_with (go_at_call 76;refine d.m ?_;rintro e h⟨rfl,I⟩;have H:=A1 I);go_ret;exact⟨h.heap.size,rfl,(by show (h.heap.push _)[h.heap.size]?=_;rw[Ip]),H.o.aj _,H.o.Ak⟩
end
def Eh.a7{w z w':World}{b:Nat}{D:DS}{F:Nat->FC}{Ft:Nat->Prop}(h:Eh z Ft w' b D F)(E:A3 Aa w z):Eh w Ft w' b D F:=by
 obtain⟨O,d,I,W,L⟩:=h;exact⟨(E.ad λ_ _ h=>h.elim).tr O,d,I,W,λk H=>(L k H).imp id λh=>AQ E.Ak h⟩
section
variable {B b:Nat} {D:DS} {F:Nat->FC} {Ft:Nat->Prop} {n:Int}
def K0.a7{w z w':World}{E:Nat}(h:K0 z Ft E w' b D F)(H:A3 Aa w z):K0 w Ft E w' b D F:=by
 obtain⟨W,d,L,Y,O⟩:=h;exact⟨(H.ad λ_ _ h=>h.elim).tr W,d,L,Y,λk I=>(O k I).imp id λh=>AQ H.Ak h⟩
def A2G(w:World)(H:Nat)(name:ByteArray)(s:Nat)(d t v:Int)(aF:0<=d/\d<256)(ht : -9223372036854775808<=t/\t<=9223372036854775807)(hv : -9223372036854775808<=v/\v<=9223372036854775807)(hf:Bc w H 196 (A5 b) name s)(hs:s<4294967296)(h:B3 w b D F Ft)(E:∀k,Ft k->k<w.heap.size)(hn:¬Ft H)(hroom : -4611686018427387904<=D.n.AB/\D.n.AB<=9223372036854775807)(hu:B4 F D.A4<=4611686018427387904)(hp:0<=D.n.Bq/\D.n.Bq<=9223372036854775807)(hl:∀f,lookup D.A4 name=some f->(F f).1.length+21<=70368744177664)(hz:(Cx (Bl D F name ⟨(Bb d t v++Ca (AU s (Bb d t v))).toArray⟩).2.1 (Bl D F name ⟨(Bb d t v++Ca (AU s (Bb d t v))).toArray⟩).2.2 name).1<=70368744177664/\(Cx D F name).1<=70368744177664):
 Ah 144 #[A5 H,.agg #[A0 d,A0 t,A0 v]] w (Am (.tuple #[.bool (GW D F name (Bb d t v++Ca (AU s (Bb d t v)))),A0 (Bl D F name ⟨(Bb d t v++Ca (AU s (Bb d t v))).toArray⟩).1]) λw'=>
  Bc w' H 196 (A5 b) name (AU s (Bb d t v))/\K0 w Ft H w' b (Bl D F name ⟨(Bb d t v++Ca (AU s (Bb d t v))).toArray⟩).2.1 (Bl D F name ⟨(Bb d t v++Ca (AU s (Bb d t v))).toArray⟩).2.2):=by
 have PB:∀w',_:=λw'=>Rt w' d t v aF ht hv;have aB:(Bb d t v).length=17:=by simp[Bb,CJ]
 generalize hle:Bb d t v=l at PB aB hz ⊢;have AD:∀w',A3 Aa w w'->_:=λw' hc=>addF (hf.ak hc (by simp)) hs (h.aI E hc) (λk hk=>Bm (E k hk) hc.Ak) hn l hroom hu hp (λf hf=>by have:=hl f hf;omega) (by omega) hz;obtain⟨ok,aK⟩:∃ok,GW D F name (l++Ca (AU s l))=ok:=⟨_,rfl⟩;obtain⟨er,aE⟩:∃er,(Bl D F name ⟨(l++Ca (AU s l)).toArray⟩).1=er:=⟨_,rfl⟩;rw[aK,aE]at AD ⊢;have hlb:=hf.lt;have aH:=A1 PB;have aI:=A1 AD;have aA:=A1 E
 go_enter func144,ntmps144
 go_wp2;have hb:(w.alloc (.cells #[A0 d,A0 t,A0 v] 90)).heap[w.heap.size]?=some (.cells #[A0 d,A0 t,A0 v] 90 (0,0)):=by show (w.heap.push _)[w.heap.size]?=_;rw[Ip]
 have p0:(w.alloc (.cells #[A0 d,A0 t,A0 v] 90)).drew.cell? (Ab w.heap.size 0)=some (A0 d):=by show (w.alloc _).cell? _=_;simp only[World.cell?,hb];rfl
 have p1:(w.alloc (.cells #[A0 d,A0 t,A0 v] 90)).drew.cell? (Ab w.heap.size 1)=some (A0 t):=by show (w.alloc _).cell? _=_;simp only[World.cell?,hb];rfl
 have p2:(w.alloc (.cells #[A0 d,A0 t,A0 v] 90)).drew.cell? (Ab w.heap.size 2)=some (A0 v):=by show (w.alloc _).cell? _=_;simp only[World.cell?,hb];rfl
 have O:Hid (A3 Aa w (w.alloc (.cells #[A0 d,A0 t,A0 v] 90)).drew):=((A3.I _ w).aj _).af;refine FA (λw'=>w'.cell? (Ab w.heap.size 0)=some (A0 d)/\w'.cell? (Ab w.heap.size 1)=some (A0 t)/\w'.cell? (Ab w.heap.size 2)=some (A0 v)) 8
  (Bz [0,1,2,3,4,5,6,7] [4,5]) (by kernel_rfl) (by kernel_rfl) (λ_ _ _ _ _ h=>h) ⟨p0,p1,p2⟩ ?_
 generalize (w.alloc (.cells #[A0 d,A0 t,A0 v] 90)).drew=w1 at p0 p1 p2 O ⊢
 iterate 4 (refine E8 (v:=?_) rfl (by rfl) ?_ ?_;rotate_left;(· (intro w' W;(try dsimp only at W);go_simp;try with_reducible rfl));(try simp only[Ao]))
 refine DY rfl (by rfl) (λK hK=>?_);go_simp;refine(aH.o w1).mono ?_;rintro e Y⟨rfl,z⟩;have q0:=z.ao p0;have q1:=z.ao p1;have q2:=z.ao p2;refine hK _ _ ⟨q0,q1,q2⟩ (λW=>?_);have L:Hid (A3 Aa w Y):=O.o.tr z
 (try simp only[Ao])
 refine DY rfl (by rfl) (λK hK=>?_);go_simp;refine(aI.o Y L.o).mono ?_;rintro e w3⟨rfl,aM,I⟩;have k3:=I.1;have aL:¬((λk=>Ft k\/k=H) w.heap.size):=by
  rintro (h|h)
  ·have:=aA.o _ h;omega
  ·omega
 have kc:∀o u,Y.cell? (Ab w.heap.size o)=some u->w3.cell? (Ab w.heap.size o)=some u:=by
  intro o u hu;have aJ:w.heap.size<Y.heap.size:=by
   rcases EW w.heap.size Y.heap.size with h|h
   ·exact h
   ·unfold World.cell? at hu;rw[MW h]at hu;simp at hu
  unfold World.cell? at hu ⊢;rw[k3.Al _ aJ aL];exact hu
 refine hK _ _ ⟨kc 0 _ q0,kc 1 _ q1,kc 2 _ q2⟩ (λW=>?_);have aG:=A1 aM;have aD:=A1 (I.a7 L.o)
 (try simp only[Ao])
 iterate 2 (refine E8 (v:=?_) rfl (by rfl) ?_ ?_;rotate_left;(· (intro w' W;(try dsimp only at W);go_simp;try with_reducible rfl));(try simp only[Ao]))
 refine Bo ?_;simp only[DE,Dq];go_wp2;go_ret2;exact⟨rfl,aG.o,aD.o⟩
end
section
variable {B b:Nat} {D:DS} {F:Nat->FC} {Ft:Nat->Prop} {n:Int}
def KE(nm:List UInt8)(ahead:Int):List UInt8:=AO ahead++Ca (AU (AE nm) (AO ahead))
def Jb(nm:List UInt8):AE nm<4294967296:=J8 _ _ (by omega)
def YA(w:World)(ahead:Int)(k:Nat)(z aS:DS)(L aQ:Nat->FC)(e1 e2:Int)(h:B3 w b D F Ft)(aD:∀k,Ft k->k<w.heap.size)(hn:CD n)(hL:Lets B w)(ha : -9223372036854775808<=ahead/\ahead<=9223372036854775807)(hk:¬D.Aq k)(hs:D.A4.length<1099511627776/\D.As.length<1099511627776)(h1:CK D ⟨(BL 1 n).toArray⟩ k=(e1,z))(bC:upd F k ([],0)=L)(h2:Bl z L ⟨(BL 1 n).toArray⟩ ⟨(KE (BL 1 n) ahead).toArray⟩=(e2,aS,aQ))(hroom : -4611686018427387904<=z.n.AB/\z.n.AB<=9223372036854775807)(hu:B4 L z.A4<=4611686018427387904)(hp:0<=z.n.Bq/\z.n.Bq<=9223372036854775807)(hl:∀f,lookup z.A4 ⟨(BL 1 n).toArray⟩=some f->(L f).1.length+12<=70368744177664)(hz:(Cx aS aQ ⟨(BL 1 n).toArray⟩).1<=70368744177664/\(Cx z L ⟨(BL 1 n).toArray⟩).1<=70368744177664):
 Ah 191 #[A5 b,A0 n,A0 ahead] w λe w'=>
  (e1≠0/\e=.returned (.tuple #[.pointer none,A0 e1])/\Eh w Ft w' b z L)\/
  (e1=0/\e2≠0/\e=.returned (.tuple #[.pointer none,A0 e2])/\Eh w Ft w' b aS aQ)\/
  (e1=0/\e2=0/\∃d,e=.returned (.tuple #[A5 d,A0 0])/\w.heap.size<=d/\Bc w' d 196 (A5 b) ⟨(BL 1 n).toArray⟩ (AU (AE (BL 1 n)) (AO ahead))/\
   A3 Ft w w'/\∃O,B3 w' b aS aQ O/\(∀k,O k->k<w'.heap.size)/\(∀k,O k->Ft k\/w.heap.size<=k)/\¬O d):=by
 have bI:=A1 (SG w b hn hL);have aL:=Jb (BL 1 n);generalize hnm:BL 1 n=nm at bI aL h1 h2 hl hz ⊢;have CR:∀w' d,A3 Aa w w'->Bc w' d 196 (A5 b) ⟨nm.toArray⟩ (AE nm)->_:=λw' d hc hf=>TH hf (h.aI aD hc) k hk hs;rw[h1,bC]at CR;have AD:∀w' d aA,Bc w' d 196 (A5 b) ⟨nm.toArray⟩ (AE nm)->B3 w' b z L aA->(∀k,aA k->k<w'.heap.size)->¬aA d->_:=
  λw' d aA hf hr aK aZ=>addF hf aL hr aK aZ (AO ahead) hroom hu hp (λf hf=>by have:=hl f hf;rw[CJ];exact this) (by rw[CJ];omega) (by
   show (Cx (Bl z L _ ⟨(KE nm ahead).toArray⟩).2.1 (Bl z L _ ⟨(KE nm ahead).toArray⟩).2.2 _).1<=_/\_
   rw[h2];exact hz)
 have e0:AO ahead++Ca (AU (AE nm) (AO ahead))=KE nm ahead:=rfl;rw[e0,h2]at AD;have bN:∀w',_:=λw'=>KA w' ahead ha;generalize hle:AO ahead=l at AD bN ⊢;generalize hok:GW z L ⟨nm.toArray⟩ (KE nm ahead)=ok at AD;dsimp only at CR AD;have aX:=A1 CR;have bJ:=A1 AD;have a7:=A1 bN;have a6:=A1 aD;rcases Py (e1=0) with aB|aB
 ·subst aB
  go_enter func191,ntmps191
  go_wp2_with (first
   | (go_at_call 145;refine bI.m ?_;rintro e w1⟨d,rfl,hb,hc,aF⟩;have aT:=A1 hb;have aU:=A1 hc;have Y:=A1 aF)
   | (go_at_call 202;refine(aX.o _ _ aU.o aT.o).mono ?_;rintro e w2⟨rfl,hA⟩;have a0:=A1 hA))
  obtain⟨aE,aN,aY,bB,aP⟩:=a0.o;have bM:=aT.o.lt;have aI:¬Ft d:=λh=>by have:=a6.o d h;have:=Y.o;omega
  have aH:¬aN d:=λh=>by rcases aP d h with h|h;exact aI h;omega
  have a9:=aT.o.ak aE aI;have aO:=aE.Ak;refine FA (λ_=>True) 10
   (Bz [0,1,2,3,4,5,6,7,8,9] [4,5]) (by kernel_rfl) (by kernel_rfl) (λ_ _ _ _ _ h=>h) trivial ?_
  have bA:=A1 a9;have a8:=A1 aY;have aR:=A1 bB;have aV:=A1 aP;have bD:=A1 aE;have aJ:=A1 aH;have a1:=A1 bM;have bF:=A1 aO
  iterate 4 (refine E8 (v:=?_) rfl (by rfl) ?_ ?_;rotate_left;(· (intro w' hS;(try dsimp only at hS);go_simp;try with_reducible rfl));(try simp only[Ao]))
  refine DY rfl (by rfl) (λK hK=>?_);go_simp;refine(a7.o w2.drew).mono ?_;rintro e w3⟨rfl,I⟩;refine hK _ _ trivial (λhS=>?_);have aW:A3 Aa w2 w3:=⟨I.os,I.FB,I.FF,I.Ak,I.Al⟩;have H:=A1 aW
  (try simp only[Ao])
  refine DY rfl (by rfl) (λK hK=>?_);go_simp;refine(bJ.o w3 d aN (bA.o.ak H.o (by simp)) (a8.o.aI aR.o H.o) (λk hk=>Bm (aR.o k hk) H.o.Ak) aJ.o).mono ?_;rintro e w4⟨rfl,bL,bK,E,bH,bE,aM⟩;refine hK _ _ trivial (λhS=>?_);have bG:=A1 bL;have W:Hid (A3 Ft w w4/\B3 w4 b aS aQ E/\(∀k,E k->k<w4.heap.size)/\(∀k,E k->Ft k\/w.heap.size<=k)/\¬E d):=by
   have a2:=bF.o;have a3:=H.o.Ak;have a4:=a1.o;have a5:=Y.o;refine⟨((((aU.o.ad λ_ _ h=>h.elim).tr bD.o).Av H.o (λ_ h _=>h.elim)).Av bK (λx hx aD=>?_)),bH,bE,λk hk=>?_,λhx=>?_⟩
   ·rcases hx with hx|rfl
    ·exact(aV.o x hx).resolve_right (by omega)
    ·omega
   ·rcases aM k hk with h|h
    ·exact(aV.o k h).imp id (λh=>by omega)
    ·exact .inr (by omega)
   ·rcases aM d hx with h|h
    ·exact aJ.o h
    ·omega
  (try simp only[Ao])
  iterate 4 (refine E8 (v:=?_) rfl (by rfl) ?_ ?_;rotate_left;(· (intro w' hS;(try dsimp only at hS);go_simp;try with_reducible rfl));(try simp only[Ao]))
  refine Bo ?_;simp only[DE,Dq];rcases Py (e2=0) with aG|aG
  ·subst aG;go_wp2;go_ret2;exact⟨d,rfl,Y.o,bG.o,W.o.1,E,W.o.2.1,W.o.2.2.1,W.o.2.2.2.1,W.o.2.2.2.2⟩
  ·go_wp2;go_ret2;exact .inr (.inl ⟨trivial,aG,rfl,W.o.1,E,W.o.2.1,W.o.2.2.1,W.o.2.2.2.1⟩)
 ·go_enter func191,ntmps191
  go_wp2_with (first
   | (go_at_call 145;refine bI.m ?_;rintro e w1⟨d,rfl,hb,hc,aF⟩;have aT:=A1 hb;have aU:=A1 hc;have Y:=A1 aF)
   | (go_at_call 202;refine(aX.o _ _ aU.o aT.o).mono ?_;rintro e w2⟨rfl,hA⟩;have a0:=A1 hA))
  go_ret2;exact .inl ⟨aB,rfl,a0.o.a7 aU.o⟩
end
end
abbrev Pt:=Int×Int
def Cs:List Pt->Int->Int->List Pt
 | [],t,v=>[(t,v)]
 | (a,b):: r,t,v=>if a<t then (a,b):: Cs r t v else if a=t then (t,v):: r else (t,v):: (a,b):: r
def DM(l:List Pt):Prop:=l.Pairwise λx y=>x.1<y.1
def ZP{l:List Pt}{t v:Int}{x:Pt}(h:x∈Cs l t v):x=(t,v)\/x∈l:=by
 induction l with
 | nil=>simp[Cs]at h;exact .inl h
 | cons e r ih=>
  obtain⟨a,b⟩:=e;simp only[Cs]at h;split at h
  ·rcases BP.1 h with h|h
   ·exact .inr (by simp[h])
   ·rcases ih h with h|h
    ·exact .inl h
    ·exact .inr (Br _ h)
  ·split at h
   ·rcases BP.1 h with h|h
    ·exact .inl h
    ·exact .inr (Br _ h)
   ·rcases BP.1 h with h|h
    ·exact .inl h
    ·exact .inr h
def KB{l:List Pt}(h:DM l)(t v:Int):DM (Cs l t v):=by
 induction l with
 | nil=>simp[Cs,DM]
 | cons e r ih=>
  obtain⟨a,b⟩:=e;have z:=D7.1 h;simp only[Cs];split
  ·rename_i E;refine D7.2 ⟨λx d=>?_,ih z.2⟩;rcases ZP d with rfl|d
   ·exact E
   ·exact z.1 x d
  ·rename_i E;split
   ·rename_i H;subst H;exact D7.2 ⟨λx d=>z.1 x d,z.2⟩
   ·rename_i H;refine D7.2 ⟨λx d=>?_,h⟩;rcases BP.1 d with rfl|d
    ·show t<a;omega
    ·have:=z.1 x d;show t<x.1;simp only at this;omega
def BQ(l:List Pt)(t:Int):Nat:=(l.takeWhile λx=>decide (x.1<t)).length
def Jk(l:List Pt)(t:Int):BQ l t<=l.length:=by
 unfold BQ;exact(List.takeWhile_sublist _).length_le
def Ki{l:List Pt}{t:Int}{i:Nat}(h:i<BQ l t)(z:i<l.length):(l[i]'z).1<t:=by
 unfold BQ at h
 induction l generalizing i with
 | nil=>simp at z
 | cons e r ih=>
  by_cases d:e.1<t
  ·simp only[Pk,d,OL,Cg,CG]at h;cases i with
   | zero=>exact d
   | succ i=>simp only[Pm];exact ih (by omega) _
  ·simp[d]at h
def Kj{l:List Pt}(H:DM l){t:Int}{i:Nat}(h:BQ l t<=i)(z:i<l.length):t<=(l[i]'z).1:=by
 unfold BQ at h
 induction l generalizing i with
 | nil=>simp at z
 | cons e r ih=>
  have d:=D7.1 H;by_cases E:e.1<t
  ·simp only[Pk,E,OL,Cg,CG]at h;cases i with
   | zero=>omega
   | succ i=>simp only[Pm];exact ih d.2 (by omega) _
  ·cases i with
   | zero=>simp only[JU];omega
   | succ i=>
    have:=d.1 (r[i]'(by simpa using z)) (BV _);simp only[Pm];omega
def Rz{l:List Pt}(I:DM l){t:Int}{k:Nat}(hk:k<=l.length)(H:∀i (z:i<l.length),i<k->(l[i]'z).1<t)(E:∀i (z:i<l.length),k<=i->t<=(l[i]'z).1):BQ l t=k:=by
 rcases Ph (BQ l t) k with h|h|h
 ·have d:BQ l t<l.length:=by omega
  have:=H _ d h;have:=Kj I (Au (BQ l t)) d;omega
 ·exact h
 ·have hp:=Jk l t;have d:k<l.length:=by omega
  have:=Ki h d;have:=E k d (Au k);omega
def ZR(l:List Pt)(t v:Int):Cs l t v=l.take (BQ l t)++(t,v):: (if (l[BQ l t]?).any (λx=>x.1==t) then l.drop (BQ l t+1) else l.drop (BQ l t)):=by
 unfold BQ
 induction l with
 | nil=>simp[Cs]
 | cons e r ih=>
  obtain⟨a,b⟩:=e;simp only[Cs];by_cases h:a<t
  ·simp only[h,Cg,Pk,OL,CG,EX,DE,A29,Fo,ih]
  ·by_cases d:a=t
   ·subst d;simp
   ·simp[h,d]
def Tf{l:List Pt}(Y:DM l)(p:Int->Bool)(t v:Int):(Cs l t v).filter (λx=>p x.1)=if p t then Cs (l.filter λx=>p x.1) t v else l.filter (λx=>p x.1):=by
 induction l with
 | nil=>by_cases h:p t<;>simp[Cs,h]
 | cons e r L=>
  obtain⟨a,b⟩:=e;have E:=D7.1 Y;have L:=L E.2;simp only[Cs];by_cases H:a<t
  ·simp only[H,Cg,F4,L];by_cases h:p t<;>by_cases z:p a<;>simp[h,z,Cs,H]
  ·by_cases I:a=t
   ·subst I;simp only[H,C4,Cg,F4];by_cases h:p a<;>simp[h,Cs]
   ·simp only[H,I,C4,F4];by_cases h:p t
    ·by_cases z:p a
     ·simp[h,z,Cs,H,I]
     ·simp only[h,z,Cg];have hall:∀x∈r.filter (λx=>p x.1),t<x.1:=λx hx=>by
       have:=E.1 x (GJ.1 hx).1;simp only at this;omega
      cases hr:r.filter (λx=>p x.1) with
      | nil=>simp[Cs]
      | cons y ys=>
       obtain⟨c,d⟩:=y;have:=hall (c,d) (by rw[hr];simp);simp only at this;(have W:¬c<t:=by omega);(have O:¬c=t:=by omega);simp[Cs,W,O]
    ·by_cases z:p a<;>simp[h,z]
def A0B{l:List Pt}(W:DM l)(a b:Int):l.filter (λx=>decide (a<=x.1)&&decide (x.1<b))=(l.take (BQ l b)).drop (BQ l a):=by
 unfold BQ
 induction l with
 | nil=>simp
 | cons e r h=>
  have d:=D7.1 W;have h:=h d.2;by_cases z:e.1<b
  ·by_cases H:e.1<a
   ·(have:¬a<=e.1:=by omega);simp[H,z,this,h]
   ·(have O:a<=e.1:=by omega);have L:r.takeWhile (λx=>decide (x.1<a))=[]:=by
     cases r with
     | nil=>rfl
     | cons y ys=>have:=d.1 y (by simp);rw[Pk];have:¬y.1<a:=by omega
                  simp[this]
    simp only[L,Il,Dq]at h;simp[H,z,O,h]
  ·(have I:∀x∈r,¬x.1<b:=λx E=>by have:=d.1 x E;omega);have:r.filter (λx=>decide (a<=x.1)&&decide (x.1<b))=[]:=by
    rw[A3c];intro x E;have:=I x E;simp[this]
   simp[z,this]
section
open Go.RowKit
def Bi:List Pt->List Value
 | []=>[]
 | (t,v):: r=>A0 t::A0 v::Bi r
def Gn(l:List Pt):(Bi l).length=l.length*2:=by
 induction l with
 | nil=>rfl
 | cons e r ih=>obtain⟨n,f⟩:=e;simp only[Bi,CG,ih];omega
def Ry(a b:List Pt):Bi (a++b)=Bi a++Bi b:=by
 induction a with
 | nil=>rfl
 | cons e r ih=>obtain⟨n,f⟩:=e;simp[Bi,ih]
def NJ(l:List Pt)(k:Nat):(Bi l).take (k*2)=Bi (l.take k):=by
 induction l generalizing k with
 | nil=>simp[Bi]
 | cons e r ih=>
  obtain⟨n,f⟩:=e
  match k with
  | 0=>simp[Bi]
  | k+1=>rw[show (k+1)*2=k*2+1+1 from by omega];simp[Bi,ih]
def NL(l:List Pt)(k:Nat):(Bi l).drop (k*2)=Bi (l.drop k):=by
 induction l generalizing k with
 | nil=>simp[Bi]
 | cons e r ih=>
  obtain⟨n,f⟩:=e
  match k with
  | 0=>simp[Bi]
  | k+1=>rw[show (k+1)*2=k*2+1+1 from by omega];simp[Bi,ih]
def XS(l:List Pt)(k:Nat)(h:k<l.length):(Bi l)[k*2]?=some (A0 (l[k]'h).1):=by
 induction l generalizing k with
 | nil=>simp at h
 | cons e r ih=>
  obtain⟨n,f⟩:=e
  match k with
  | 0=>simp[Bi]
  | k+1=>
   have:=ih k (by simpa using h);rw[show (k+1)*2=k*2+1+1 from by omega];simpa[Bi] using this
def XR(l:List Pt)(k:Nat)(h:k<l.length):(Bi l)[k*2+1]?=some (A0 (l[k]'h).2):=by
 induction l generalizing k with
 | nil=>simp at h
 | cons e r ih=>
  obtain⟨n,f⟩:=e
  match k with
  | 0=>simp[Bi]
  | k+1=>
   have:=ih k (by simpa using h);rw[show (k+1)*2+1=k*2+1+1+1 from by omega];simpa[Bi] using this
def XT(l:List Pt)(k:Nat)(p:Pt)(h:k<l.length):((Bi l).set (k*2) (A0 p.1)).set (k*2+1) (A0 p.2)=Bi (l.set k p):=by
 induction l generalizing k with
 | nil=>simp at h
 | cons e r ih=>
  obtain⟨n,f⟩:=e
  match k with
  | 0=>simp[Bi]
  | k+1=>
   have:=ih k (by simpa using h);rw[show (k+1)*2=k*2+1+1 from by omega];simp only[Bi,UP];rw[this]
def NK(l:List Pt):∀u∈Bi l,u.oneCell'=true:=by
 induction l with
 | nil=>simp[Bi]
 | cons e r ih=>
  obtain⟨n,f⟩:=e;intro u hu;simp only[Bi,BP]at hu;rcases hu with rfl|rfl|hu
  ·rfl
  ·rfl
  ·exact ih u hu
def CX(w:World)(v:Value)(l:List Pt):Prop:=w.ownsRow 0 88 2 v l.length (Bi l)
def CX.bw{w:World}{g n cap:Nat}{l:List Pt}(h:CX w (AJ g n cap) l)(k:Nat)(d:k<l.length):A6 w g (k*2) (A0 (l[k]'d).1)/\A6 w g (k*2+1) (A0 (l[k]'d).2):=by
 have z:n=l.length:=by
  obtain⟨_,_,e,_⟩:=B9 h;cases e;rfl
 subst z;exact⟨BF h rfl (XS l k d),BF h rfl (XR l k d)⟩
abbrev Pu:=Int×Int×Int
def Ba:List Pu->List Value
 | []=>[]
 | (s,t,v):: r=>A0 s::A0 t::A0 v::Ba r
def Iz(a b:List Pu):Ba (a++b)=Ba a++Ba b:=by
 induction a with
 | nil=>rfl
 | cons e r ih=>obtain⟨n,f,g⟩:=e;simp[Ba,ih]
def H4(l:List Pu)(k:Nat)(h:k<l.length):(Ba l)[k*3]?=some (A0 (l[k]'h).1)/\(Ba l)[k*3+1]?=some (A0 (l[k]'h).2.1)/\(Ba l)[k*3+2]?=some (A0 (l[k]'h).2.2):=by
 induction l generalizing k with
 | nil=>simp at h
 | cons e r ih=>
  obtain⟨n,f,g⟩:=e
  match k with
  | 0=>simp[Ba]
  | k+1=>
   obtain⟨z,d,E⟩:=ih k (by simpa using h);rw[show (k+1)*3=k*3+1+1+1 from by omega];refine⟨by simpa[Ba] using z,by simpa[Ba] using d,by simpa[Ba] using E⟩
def HS(l:List Pu):∀u∈Ba l,u.oneCell'=true:=by
 induction l with
 | nil=>simp[Ba]
 | cons e r ih=>
  obtain⟨n,f,g⟩:=e;intro u hu;simp only[Ba,BP]at hu;rcases hu with rfl|rfl|rfl|hu
  ·rfl
  ·rfl
  ·rfl
  ·exact ih u hu
end
section
open Go.RowKit
attribute [local go_sem ↓] Go.wp_at_zero Go.wp_at_succ
def Dx:Nat->Nat->List UInt8->List Pu×Bool
 | 0,_,_=>([],true)
 | k+1,s,l=>if l.length<21 then ([],true) else
  if Ca (AU s (l.take 17))=(l.drop 17).take 4/\(l.headD 0).toNat<8 then
   ((((l.headD 0).toNat:Int),BH (l.drop 1),BH (l.drop 9)):: (Dx k (AU s (l.take 17)) (l.drop 21)).1,(Dx k (AU s (l.take 17)) (l.drop 21)).2)
  else ([],false)
def Rc{k s:Nat}{l:List UInt8}(h:l.length<21):Dx k s l=([],true):=by cases k<;>simp[Dx,h]
def Rg{k s:Nat}{b:UInt8}{d t r:List UInt8}(z:d.length=16)(E:t.length=4)(h:Ca (AU s (b::d))=t)(W:b.toNat<8):
 Dx (k+1) s (b::d++t++r)=(((b.toNat:Int),BH d,BH (d.drop 8)):: (Dx k (AU s (b::d)) r).1,(Dx k (AU s (b::d)) r).2):=by
 have I:(b::d++t++r).take 17=b::d:=by simp[z]
 have Y:((b::d++t++r).drop 17).take 4=t:=by simp[z,E]
 have L:(b::d++t++r).drop 21=r:=by
  rw[Li,JW (by simp[z,E])];simp[z,E]
 have O:BH ((b::d++t++r).drop 1)=BH d:=by
  have e:(b::d++t++r).drop 1=d++(t++r):=by simp
  unfold BH;rw[e,GI (by omega)]
 have H:BH ((b::d++t++r).drop 9)=BH (d.drop 8):=by
  have e:(b::d++t++r).drop 9=d.drop 8++(t++r):=by
   simp only[Fo,Cc,DE];rw[Lh (by omega)]
  unfold BH;rw[e,GI (by simp;omega)]
 simp only[Dx,I,Y,L,O,H];rw[Ac (by simp[z,E];omega),Af (by simpa using⟨h,W⟩)];rfl
def XB{k s:Nat}{b:UInt8}{d t r:List UInt8}(z:d.length=16)(E:t.length=4)(h:¬(Ca (AU s (b::d))=t/\b.toNat<8)):
 Dx (k+1) s (b::d++t++r)=([],false):=by
 have H:(b::d++t++r).take 17=b::d:=by simp[z]
 have I:((b::d++t++r).drop 17).take 4=t:=by simp[z,E]
 simp only[Dx,H,I];rw[Ac (by simp[z,E];omega),Ac (by simpa using h)]
def YP{l:List UInt8}(h:21<=l.length):∃(b:UInt8) (d t r:List UInt8),l=b::d++t++r/\d.length=16/\t.length=4:=by
 cases l with
 | nil=>simp at h
 | cons b l=>
  simp at h;refine⟨b,l.take 16,(l.drop 16).take 4,l.drop 20,?_,by simp;omega,by simp;omega⟩;simp only[Fo,Cc,List.cons.injEq,true_and];rw[show l.drop 20=(l.drop 16).drop 4 by simp,DO,DO]
def A0g{l:List UInt8}(h:12<=l.length):∃(d t r:List UInt8),l=d++t++r/\d.length=8/\t.length=4:=by
 refine⟨l.take 8,(l.drop 8).take 4,l.drop 12,?_,by simp;omega,by simp;omega⟩;rw[Cc,show l.drop 12=(l.drop 8).drop 4 by simp,DO,DO]
def FZ(s:Nat)(ahead:Int)(l:List UInt8):List Pu×Int:=
 if l.length<12 then ([],0) else
 if Ca (AU s (l.take 8))=(l.drop 8).take 4/\BH l=ahead then
  (if (Dx l.length (AU s (l.take 8)) (l.drop 12)).2=true then ((Dx l.length (AU s (l.take 8)) (l.drop 12)).1,0) else ([],7))
 else ([],7)
def Rh{s:Nat}{ahead:Int}{d t r:List UInt8}(h:d.length=8)(z:t.length=4):
 FZ s ahead (d++t++r)=if Ca (AU s d)=t/\BH d=ahead then (if (Dx (r.length+12) (AU s d) r).2=true then ((Dx (r.length+12) (AU s d) r).1,0) else ([],7)) else ([],7):=by
 have H:(d++t++r).take 8=d:=by simp[h]
 have O:((d++t++r).drop 8).take 4=t:=by simp[h,z]
 have I:(d++t++r).drop 12=r:=by
  rw[Li,JW (by simp[h,z])];simp[h,z]
 have L:BH (d++t++r)=BH d:=by unfold BH;rw[Cc,GI (by omega)]
 have E:(d++t++r).length=r.length+12:=by simp[h,z];omega
 unfold FZ;rw[Ac (by simp[h,z];omega),H,O,I,L,E]
def AY(w:World)(v:Value)(l:List Pu):Prop:=w.ownsRow 0 90 3 v l.length (Ba l)
def I4:(Tryz.prog.info? 90).map (λi=>(i.zero,i.size,i.bytes))=some (some (.agg #[A0 0,A0 0,A0 0]),3,24):=by kernel_rfl
section
variable {w:World} {b B:Nat} {D:DS} {F:Nat->FC} {Ft:Nat->Prop} {n:Int}
def Gm(D:DS)(F:Nat->FC)(nm:List UInt8)(ahead:Int):List Pu×Int:=
 if (DJ D F ⟨nm.toArray⟩).2≠0 then ([],(DJ D F ⟨nm.toArray⟩).2) else FZ (AE nm) ahead (DJ D F ⟨nm.toArray⟩).1
def XE(w:World)(ahead:Int)(h:B3 w b D F Ft)(aK:∀k,Ft k->k<w.heap.size)(hn:CD n)(hL:Lets B w)(aJ:(DJ D F ⟨(BL 1 n).toArray⟩).1.length<=70368744177664):
 Ah 100 #[A5 b,A0 n,A0 ahead] w λe w'=>∃v,e=.returned (.tuple #[v,A0 (Gm D F (BL 1 n) ahead).2])/\AY w' v (Gm D F (BL 1 n) ahead).1/\(∀g,v.ownBlock=some g->w.heap.size<=g)/\A3 Aa w w':=by
 have cH:=A1 (SG w b hn hL);generalize hnm:BL 1 n=nm at cH aJ ⊢;have aV:Hid (AE nm<4294967296):=Jb nm;have H:=A1 h;have b3:=A1 aK;obtain⟨R,hR⟩:∃R,Gm D F nm ahead=R:=⟨_,rfl⟩;rw[hR];unfold Gm at hR;obtain⟨al,aT⟩:∃al,(DJ D F ⟨nm.toArray⟩).1=al:=⟨_,rfl⟩;obtain⟨ae,bQ⟩:∃ae,(DJ D F ⟨nm.toArray⟩).2=ae:=⟨_,rfl⟩
 have cS:Hid (∀w1 lb,A3 Aa w w1->Bc w1 lb 196 (A5 b) ⟨nm.toArray⟩ (AE nm)->
  Ah 119 #[A5 lb] w1 (Am (.tuple #[.string ⟨al.toArray⟩,A0 ae]) λw'=>A3 Aa w1 w')):=λw1 lb k1 hf=>by
  have:=Uo hf (H.o.aI b3.o k1)
  rwa [aT,bQ]at this
 rw[aT,bQ]at hR;rw[aT]at aJ;generalize hs:AE nm=s0 at cH aV hR cS;have cM:=A1 hR;obtain⟨i0,hi,b4,cJ,cD⟩:=E4 I4
 go_enter func100,ntmps100
 go_wp2_with (go_at_call 145;refine cH.m ?_;rintro e w1⟨lb,rfl,bS,bD,cO⟩;have cE:=A1 (cS.o w1 lb bD bS);have b0:=A1 bS;have b5:=A1 bD;have a9:=A1 cO);refine cE.m ?_;rintro e w2⟨rfl,bE⟩;have cN:=A1 (b0.o.ak bE (λh=>h));have aY:Hid (A3 Aa w w2):=b5.o.tr bE;have aB:Hid (∀x:Int,R=([],x)->∀w3,A3 Aa w w3->∃v,(Ending.returned (.tuple #[.slice none 0 0,A0 x]):Ending)=.returned (.tuple #[v,A0 R.2])/\AY w3 v R.1/\(∀g,v.ownBlock=some g->w.heap.size<=g)/\A3 Aa w w3):=λx hx w3 h3=>by
  subst hx;exact⟨_,rfl,CL _ _ _ _,λg hg=>by simp[Value.ownBlock]at hg,h3⟩
 by_cases he:ae=0
 case neg=>
  have L:R=([],ae):=by rw[<-cM.o,Af he]
  go_wp2;go_ret2;exact aB.o _ L _ aY.o
 case pos=>
 subst he;have E:(ByteArray.mk al.toArray).size=al.length:=by show al.toArray.size=_;simp
 by_cases aZ:al.length<12
 case pos=>
  have L:R=([],0):=by rw[<-cM.o,Ac (by simp)];unfold FZ;rw[Af aZ]
  go_wp2;go_ret2;exact aB.o _ L _ aY.o
 case neg=>
 obtain⟨hd,t4,r,rfl,aF,z⟩:=A0g (l:=al) (by omega);have cP:R=if Ca (AU s0 hd)=t4/\BH hd=ahead then (if (Dx (r.length+12) (AU s0 hd) r).2=true then ((Dx (r.length+12) (AU s0 hd) r).1,0) else ([],7)) else ([],7):=by
  rw[<-cM.o,Ac (by simp),Rh aF z]
 have aI:=A1 cP;have bV:=A1 (N5 w2.drew lb 196 _ _ s0 hd t4 cN.o aV.o z (by omega));have e1:(ByteArray.mk (hd++t4++r).toArray).extract 0 12=⟨(hd++t4).toArray⟩:=by
  rw[extract_mk,Dq,GI (by simp[aF,z]),Em (by simp[aF,z])]
 obtain⟨tx,a6⟩:∃tx,ByteArray.mk (hd++t4++r).toArray=tx:=⟨_,rfl⟩;have bF:tx.extract 12 (r.length+12)=⟨r.toArray⟩:=by
  rw[<-a6,extract_mk]
  congr 2
  rw[Li,JW (by simp[aF,z]),EY,show 12-(hd++t4).length=0 by simp[aF,z],Dq,Em (by omega)]
 have aR:(hd++t4++r).length=r.length+12:=by simp[aF,z];omega
 rw[a6]at e1 E ⊢;rw[aR]at E aJ aZ;have bO:(0:Int)<=(r.length:Int):=Gi _;generalize b9:r.length=rl at E aJ aZ bF bO;have aU:=A1 b9;go_wp2;refine C3 (λ_=>True) 10
  (Bz [0,1,2,3,4,5,6,7,8,9] [5]) trivial ?_
 iterate 5 (refine Bj ?_;(try simp only[Ao]))
 refine Bt λK hK=>?_;go_simp;refine bV.m ?_;rintro e w3⟨rfl,b6,cA⟩;refine hK _ _ trivial (λhS=>?_);have a4:=A1 b6;have aH:Hid (A3 Aa w w3):=aY.o.af.Av cA λk hk aK=>by cases hk;have:=a9.o;omega
 (try simp only[Ao])
 iterate 4 (refine Bj ?_;(try simp only[Ao]))
 refine Bo ?_;simp only[BO,BN];by_cases aA:Ca (AU s0 hd)=t4
 case neg=>
  have L:R=([],7):=by rw[aI.o,Ac (λh=>aA h.1)]
  have aQ:decide (Ca (AU s0 hd)=t4)=false:=D4 aA;go_wp2;go_ret2;exact aB.o _ L _ aH.o
 case pos=>
 have aQ:decide (Ca (AU s0 hd)=t4)=true:=Cv aA;have aW:=A1 (LR w3 hd (by omega));have cI:Hid (-9223372036854775808<=BH hd/\BH hd<=9223372036854775807):=by unfold Hid BH wrap64;omega
 generalize hih2:BH hd=ih at aW aI cI;obtain⟨s1,bL⟩:∃s1,AU s0 hd=s1:=⟨_,rfl⟩;have bC:Hid (s1<4294967296):=by rw[<-bL];exact J8 _ _ aV.o
 rw[bL]at aI a4 aQ aA ⊢;have bY:=A1 aA;rw[aQ];by_cases aE:ih=ahead
 case neg=>
  have L:R=([],7):=by rw[aI.o,Ac (λh=>aE h.2)]
  have bI:(ih !=ahead)=true:=by simpa using aE
  go_wp2_with (go_at_call 121;refine aW.m ?_;rintro e w4⟨rfl,rfl⟩);go_ret2;exact aB.o _ L _ aH.o
 case pos=>
 have aX:Hid (R=if (Dx (rl+12) s1 r).2=true then ((Dx (rl+12) s1 r).1,0) else ([],7)):=by
  have:=aI.o;rw[Af ⟨bY.o,aE⟩]at this
  rwa [aU.o]at this
 generalize hP:Dx (rl+12) s1 r=P at aX;have cY:=A1 hP;have bI:(ih !=ahead)=false:=by simpa using aE
 go_wp2_with (go_at_call 121;refine aW.m ?_;rintro e w4⟨rfl,rfl⟩);go_loopw [9,13] (λtv v wr=>∃(l:List UInt8) (k:Nat) (W:List Pu),tv=.string ⟨l.toArray⟩/\W.length*21+l.length<=rl/\Hid (∃s,s<4294967296/\Bc wr lb 196 (A5 b) ⟨nm.toArray⟩ s/\AY wr v W/\(∀g,v.ownBlock=some g->w3.heap.size<=g)/\(A3 Aa w wr/\w3.heap.size<=wr.heap.size)/\l.length<=k/\P=(W++(Dx k s l).1,(Dx k s l).2))) (λtv _ _=>match tv with | .string x=>x.size|_=>0)
 case atStart=>exact⟨r,rl+12,[],rfl,by simp[aU.o],s1,bC.o,a4.o,CL _ _ _ _,λg hg=>by simp[Value.ownBlock]at hg,⟨aH.o,Au _⟩,by have:=aU.o;omega,by rw[cY.o];simp⟩
 case round=>
  obtain⟨l,k,W,rfl,bH,hI⟩:=hrel;have E:(ByteArray.mk l.toArray).size=l.length:=by show l.toArray.size=_;simp
  by_cases a1:l.length<21
  case pos=>
   obtain⟨s,-,-,i3,i4,⟨i5,-⟩,-,i7⟩:=hI.o;rw[Rc a1]at i7;simp only[Gh]at i7;have bX:R=(W,0):=by
    have:=aX.o;rw[i7]at this;simpa using this
   subst bX;go_wp2;go_ret2;exact⟨_,rfl,i3,λg hg=>AQ aH.o.Ak (i4 g hg),i5⟩
  case neg=>
   obtain⟨c,d,t,q,rfl,O,z⟩:=YP (l:=l) (by omega);obtain⟨s,i1,i2,i3,i4,⟨i5,cB⟩,i6,i7⟩:=hI.o;obtain⟨k,rfl⟩:∃k',k=k'+1:=⟨k-1,by simp at i6;omega⟩;obtain⟨ap,cp,rfl,hcap1,a5,-⟩:=B9 i3;unfold maxLen at a5;have bV:=A1 (N5 wr.drew lb 196 _ _ s (c::d) t i2 i1 z (by simp;omega));have e1:(ByteArray.mk (c::d++t++q).toArray).extract 0 21=⟨(c::d++t).toArray⟩:=by
    rw[extract_mk,Dq,GI (by simp[O,z]),Em (by simp[O,z])]
   (have aR:(c::d++t++q).length=q.length+21:=by simp[O,z];omega);obtain⟨ty,a7⟩:∃ty,ByteArray.mk (c::d++t++q).toArray=ty:=⟨_,rfl⟩;have e2:ty.extract 21 (q.length+21)=⟨q.toArray⟩:=by
    rw[<-a7,extract_mk]
    congr 2
    rw[Li,JW (by simp[O,z]),EY,show 21-(c::d++t).length=0 by simp[O,z],Dq,Em (by omega)]
   rw[a7]at e1 E ⊢;rw[aR]at E bH a1 i6;have aM:=λh1 h2=>@Rg k s c d t q O z h1 h2;have bK:=λh=>@XB k s c d t q O z h;generalize hRP:Dx (k+1) s (c::d++t++q)=RP at i7 aM bK;have cC:=A1 aM;have bB:=A1 bK;have bA:=A1 i7;have H2:=A1 i2;have cT:=A1 i3;have bU:=A1 i4;have cU:=A1 i5;have bZ:=A1 cB;have cQ:=A1 i6;have cX:=A1 (λw5=>Rr w5 c d (by omega));obtain⟨s',bG⟩:∃s',AU s (c::d)=s':=⟨_,rfl⟩;(have bT:Hid (s'<4294967296):=by rw[<-bG];exact J8 _ _ i1);rw[bG]at bV cC bB;generalize cG:q.length=ql at E bH a1 cQ e2;have aP:=A1 cG;have hq0:=Ce ql;go_wp2;refine C3 (λ_=>True) 10
    (Bz [0,1,2,3,4,5,6,7,8,9] [5]) trivial ?_
   iterate 5 (refine Bj ?_;(try simp only[Ao]))
   refine Bt λK hK=>?_;go_simp;refine bV.m ?_;rintro e w5⟨rfl,b7,a3⟩;refine hK _ _ trivial (λhS=>?_);have cF:=A1 b7;have bJ:Hid (lb<w3.heap.size):=a4.o.lt;(have a0:Hid (A3 Aa w w5):=cU.o.af.Av a3 λx hx aK=>by cases hx;have:=a9.o;omega);have bP:Hid (AY w5 (.slice ap W.length cp) W):=Ay cT.o λg hg=>a3.Al g (Az cT.o hg) (λe=>by cases e;have:=bU.o _ hg;have:=bJ.o;omega);have b8:Hid (w3.heap.size<=w5.heap.size):=AQ bZ.o a3.Ak
   (try simp only[Ao])
   iterate 4 (refine Bj ?_;(try simp only[Ao]))
   refine Bo ?_;simp only[BO,BN];have aG:=A1 (cX.o w5);have aO:Hid (¬(Ca s'=t/\c.toNat<8)->R=([],7)):=λh=>by
    have h1:=bA.o;rw[bB.o h]at h1;have h2:=aX.o;rw[h1]at h2;simpa using h2
   obtain⟨x1,cL⟩:∃x1,BH d=x1:=⟨_,rfl⟩;obtain⟨x2,bW⟩:∃x2,BH (d.drop 8)=x2:=⟨_,rfl⟩;rw[cL,bW]at aG cC;have aL:Hid (∀I,A3 Aa w5 I->C5 (I.alloc (.cells #[A0 c.toNat,A0 x1,A0 x2] 90)) I.heap.size c.toNat x1 x2/\A3 Aa w5 (I.alloc (.cells #[A0 c.toNat,A0 x1,A0 x2] 90))):=λI Y=>
    ⟨BK I _,Y.aj _⟩
   by_cases aA:Ca s'=t
   case neg=>
    have L:=aO.o (λh=>aA h.1);rw[show decide (Ca s'=t)=false from D4 aA];go_wp2_with (go_at_call 129;refine aG.m ?_;rintro e I⟨rfl,Y⟩;obtain⟨b1,k7⟩:=aL.o I Y;have q0:=b1.c0;have q1:=b1.c1;have q2:=b1.c2;have a2:=A1 k7);go_ret2;exact aB.o _ L _ (a0.o.tr a2.o)
   case pos=>
   rw[show decide (Ca s'=t)=true from Cv aA];by_cases aE:c.toNat<8
   case neg=>
    have L:=aO.o (λh=>aE h.2);rw[show decide (c.toNat<8)=false from D4 aE]at aG;go_wp2_with (go_at_call 129;refine aG.m ?_;rintro e I⟨rfl,Y⟩;obtain⟨b1,k7⟩:=aL.o I Y;have q0:=b1.c0;have q1:=b1.c1;have q2:=b1.c2;have a2:=A1 k7);go_ret2;exact aB.o _ L _ (a0.o.tr a2.o)
   case pos=>
    have bM:Hid (∀I,A3 Aa w5 I->
     (((I.alloc (.cells #[A0 c.toNat,A0 x1,A0 x2] 90)).alloc (.cells #[A0 c.toNat,A0 x1,A0 x2] 90)).ownsRow 0 90 3 (.slice ap W.length cp) W.length (Ba W))/\
     ∀w8 a8 aD,App ((I.alloc (.cells #[A0 c.toNat,A0 x1,A0 x2] 90)).alloc (.cells #[A0 c.toNat,A0 x1,A0 x2] 90)) w8 90 3 (.slice ap W.length cp) (.slice a8 (W.length+1) aD) (W.length+1) (Ba W++Ba [((c.toNat:Int),x1,x2)])->
      Bc w8 lb 196 (A5 b) ⟨nm.toArray⟩ s'/\AY w8 (.slice a8 (W.length+1) aD) (W++[((c.toNat:Int),x1,x2)])/\(∀g,(Value.slice a8 (W.length+1) aD).ownBlock=some g->w3.heap.size<=g)/\A3 Aa w w8/\w3.heap.size<=w8.heap.size):=λI Y=>by
     have k9:A3 Aa w5 ((I.alloc (.cells #[A0 c.toNat,A0 x1,A0 x2] 90)).alloc (.cells #[A0 c.toNat,A0 x1,A0 x2] 90)):=(aL.o I Y).2.aj _;generalize ((I.alloc (.cells #[A0 c.toNat,A0 x1,A0 x2] 90)).alloc (.cells #[A0 c.toNat,A0 x1,A0 x2] 90))=w9 at k9 ⊢;refine⟨Ay bP.o λg hg=>k9.Al g (Az bP.o hg) (λh=>h),λw8 a8 aD hA=>?_⟩;have aS:=hA.An (S:=λk=>(Value.slice ap W.length cp).ownBlock=some k) λ_ h=>h;have bR:w3.heap.size<=w9.heap.size:=AQ b8.o k9.Ak;refine⟨(cF.o.ak k9 (λh=>h)).ak aS (λhg=>by have:=bU.o _ hg;have:=bJ.o;omega),?_,?_,?_,?_⟩
     ·have:=hA.AF;unfold AY;rw[Iz];simpa using this
     ·intro g hg;rcases hA.Cy with h|h
      ·rw[h]at hg;exact bU.o g hg
      ·rw[h]at hg;cases hg;exact bR
     ·exact(a0.o.tr k9).Av aS λx hx aK=>by have:=bU.o x hx;have:=aH.o.Ak;omega
     ·exact AQ bR aS.Ak
    rw[show decide (c.toNat<8)=true from Cv aE]at aG
    go_wp2_with (first
     | (go_at_call 129;refine aG.m ?_;rintro e I⟨rfl,Y⟩;obtain⟨b1,k7⟩:=aL.o I Y;have q0:=b1.c0;have q1:=b1.c1;have q2:=b1.c2;have b2:=A1 Y)
     | (at_builtin
        have aN:=A1 (bM.o I b2.o);have bN:=A1 (Src.bc (size:=3) (B:=I.heap.size+1) underlying72 (I.alloc (.cells #[A0 c.toNat,A0 x1,A0 x2] 90)) #[A0 c.toNat,A0 x1,A0 x2] 90 (by simp) 1 1 rfl (HS [((c.toNat:Int),x1,x2)]));refine D9 rfl (.tmp 80) (.tmp 82) 72 72 rfl 90 i0 _ 3 24 underlying72 hi b4 cJ cD rfl (by decide) (.slice ap W.length cp) W.length (Ba W) (by rfl) aN.o.1 _ 1 _ (by rfl) bN.o (by omega) ?_;intro a8 aD w8 hA;have cV:=A1 (aN.o.2 w8 a8 aD hA)
        clear hA))
    go_roundw
    case rel=>
     obtain⟨r1,r2,r3,r4,r5⟩:=cV.o;refine⟨q,k,W++[((c.toNat:Int),x1,x2)],rfl,by have:=aP.o;simp;omega,s',bT.o,r1,r2,r3,⟨r4,r5⟩,by have:=cQ.o;have:=aP.o;omega,?_⟩;rw[bA.o,cC.o aA aE];simp
    case measure=>
     (have e:(ByteArray.mk q.toArray).size=q.length:=by show q.toArray.size=_;simp);have:=aP.o;simp only[e,E];omega
end
end
section
open Go.RowKit
structure PD where
 D:DS
 F:Nat->FC
def I8:List AL->Nat
 | []=>0
 | e::r=>max (e.2+1) (I8 r)
def OE{es:List AL}{f:Nat}(h:Dc f es):f<I8 es:=by
 induction es with
 | nil=>obtain⟨e,d,_⟩:=h;cases d
 | cons x t ih=>
  obtain⟨e,d,rfl⟩:=h;unfold I8;rcases BP.1 d with rfl|d
  ·omega
  ·have:=ih ⟨e,d,rfl⟩;omega
def JI:List (List AL)->Nat
 | []=>0
 | c::r=>max (I8 c) (JI r)
def A1N{l:List (List AL)}{c:List AL}{f:Nat}(d:c∈l)(h:Dc f c):f<JI l:=by
 induction l with
 | nil=>cases d
 | cons x t ih=>
  unfold JI;rcases BP.1 d with rfl|d
  ·have:=OE h;omega
  ·have:=ih d;omega
def DS.AT(D:DS):Nat:=max (I8 D.A4) (max (I8 D.AM) (JI D.As))
def DS.cv(D:DS):¬D.Aq D.AT:=by
 intro h;have:D.AT<D.AT:=by
  rcases h with h|h|⟨c,d,h⟩
  ·have:=OE h;unfold DS.AT at *;omega
  ·have:=OE h;unfold DS.AT at *;omega
  ·have:=A1N d h;unfold DS.AT at *;omega
 omega
abbrev Bs:=List UInt8
def A7(l:Bs):ByteArray:=⟨l.toArray⟩
def FH{a b:Bs}:A7 a=A7 b↔a=b:=by
 constructor
 ·intro h;have:=EB (λx=>x.data.toList) h;simpa[A7] using this
 ·rintro rfl;rfl
def G3(b:ByteArray):A7 b.data.toList=b:=by simp[A7]
def PD.ai(P:PD)(nm:ByteArray):Int×PD:=((CK P.D nm P.D.AT).1,⟨(CK P.D nm P.D.AT).2,upd P.F P.D.AT ([],0)⟩)
def PD.an(P:PD)(nm:ByteArray)(l:Bs):Int×PD:=((Bl P.D P.F nm (A7 l)).1,⟨(Bl P.D P.F nm (A7 l)).2.1,(Bl P.D P.F nm (A7 l)).2.2⟩)
def PD.ae(P:PD)(nm:ByteArray):Int×PD:=((Cw P.D P.F nm).1,⟨(Cw P.D P.F nm).2.1,(Cw P.D P.F nm).2.2⟩)
def PD.aK(P:PD):Int×PD:=((DC P.D).1,⟨(DC P.D).2,P.F⟩)
def PD.az(P:PD)(nm:ByteArray):Int×PD:=((Dd P.D nm).1,⟨(Dd P.D nm).2,P.F⟩)
def PD.aO(P:PD)(old nm:ByteArray):Int×PD:=((CN P.D old nm).1,⟨(CN P.D old nm).2,P.F⟩)
structure Fit (P:PD) (a c m:Nat):Prop where
 A4:P.D.A4.length<=a
 AM:P.D.AM.length<=a
 Fi:∀l∈P.D.As,l.length<=a
 An:P.D.As.length<=c
 B8:∀f,P.D.Aq f->(P.F f).1.length<=m
 AB : -4611686018427387904<=P.D.n.AB/\P.D.n.AB<=9223372036854775807
 Bq:0<=P.D.n.Bq/\P.D.n.Bq<=9223372036854775807
def Fit.ad{P:PD}{a c m a' z m':Nat}(h:Fit P a c m)(d:a<=a')(L:c<=z)(E:m<=m'):Fit P a' z m':=
 ⟨AQ h.A4 d,AQ h.AM d,λl I=>AQ (h.Fi l I) d,AQ h.An L,λf H=>AQ (h.B8 f H) E,h.AB,h.Bq⟩
def N1{F:Nat->FC}{m:Nat}:∀(es:List AL),(∀f,Dc f es->(F f).1.length<=m)->B4 F es<=es.length*m
 | [],_=>by simp[B4]
 | e::r,h=>by
  have h1:=h e.2 ⟨e,BD ..,rfl⟩;have h2:=N1 r λf d=>h f (by obtain⟨x,E,z⟩:=d;exact⟨x,Br _ E,z⟩);simp only[B4,CG,Hy,UJ];omega
def Fit.dB{P:PD}{a c m:Nat}(h:Fit P a c m):B4 P.F P.D.A4<=a*m:=
 AQ (N1 _ λf d=>h.B8 f (.inl d)) (Hi _ h.A4)
def U9(n:DN):(bg n).2.2.AB=n.AB/\(bg n).2.2.Bq=n.Bq:=by
 unfold bg;dsimp only
 split
 ·exact⟨rfl,rfl⟩
 ·split
  ·exact⟨rfl,rfl⟩
  ·split<;>exact⟨rfl,rfl⟩
def Fit.bJ{P:PD}{a c m:Nat}(h:Fit P a c m):Fit ⟨{P.D with n:=(bg P.D.n).2.2},P.F⟩ a c m:=
 ⟨h.A4,h.AM,h.Fi,h.An,h.B8,by have:=(U9 P.D.n).1;show _<=(Go.Proofs.YtodcnkbblippnabGreatDoor.bg P.D.n).2.2.AB/\(Go.Proofs.YtodcnkbblippnabGreatDoor.bg P.D.n).2.2.AB<=_;rw[this];exact h.AB,by have:=(U9 P.D.n).2;show _<=(Go.Proofs.YtodcnkbblippnabGreatDoor.bg P.D.n).2.2.Bq/\(Go.Proofs.YtodcnkbblippnabGreatDoor.bg P.D.n).2.2.Bq<=_;rw[this];exact h.Bq⟩
def A0D{es:List AL}{nm:ByteArray}(h:¬B2 es nm<0):(B2 es nm).toNat<es.length:=by
 have:=Tu es nm;omega
def Fit.ag{P:PD}{a c m a':Nat}(h:Fit P a c m){es:List AL}(I:es.length<=a')(L:a<=a')(H:∀f,Dc f es->(P.F f).1.length<=m):Fit ⟨{P.D with A4:=es,As:=P.D.As++[es],n:=(Go.Proofs.YtodcnkbblippnabGreatDoor.bg P.D.n).2.2},P.F⟩ a' (c+1) m:=by
 have O:=h.bJ;refine⟨I,AQ h.AM L,λl z=>?_,?_,λf d=>?_,O.AB,O.Bq⟩
 ·rcases AV.1 z with z|z
  ·exact AQ (h.Fi l z) L
  ·simp at z;subst z;exact I
 ·have:=h.An;simp;omega
 ·rcases d with d|d|⟨x,E,d⟩
  ·exact H f d
  ·exact h.B8 f (.inr (.inl d))
  ·rcases AV.1 E with E|E
   ·exact h.B8 f (.inr (.inr ⟨x,E,d⟩))
   ·simp at E;subst E;exact H f d
def Fit.ai{P:PD}{a c m:Nat}(h:Fit P a c m)(nm:ByteArray):Fit (P.ai nm).2 (a+1) (c+1) m:=by
 have z:Fit ⟨P.D,upd P.F P.D.AT ([],0)⟩ a c m:=⟨h.A4,h.AM,h.Fi,h.An,λf H=>by
  unfold upd;by_cases E:f=P.D.AT
  ·simp[E]
  ·simp only[E,C4];exact h.B8 f H,h.AB,h.Bq⟩
 unfold PD.ai CK;split
 ·exact z.ad (by omega) (by omega) (Au _)
 ·dsimp only
  split
  ·refine z.ag (a':=a+1) ?_ (by omega) ?_
   ·have:=h.A4;simp;omega
   ·rintro f⟨x,d,rfl⟩;rcases AV.1 d with d|d
    ·exact z.B8 _ (.inl ⟨x,d,rfl⟩)
    ·simp at d;subst d;simp[upd]
  ·exact z.bJ.ad (by omega) (by omega) (Au _)
def Fit.cI{P:PD}{a c m:Nat}(h:Fit P a c m)(f:Nat)(x:FC)(E:x.1.length<=m):Fit ⟨P.D,Go.Proofs.YtodcnkbblippnabGreatDoor.upd P.F f x⟩ a c m:=⟨h.A4,h.AM,h.Fi,h.An,λg z=>by
 unfold Go.Proofs.YtodcnkbblippnabGreatDoor.upd;by_cases d:g=f
 ·simp[d];exact E
 ·simp only[d,C4];exact h.B8 g z,h.AB,h.Bq⟩
def Fit.dL{P:PD}{a c m:Nat}(h:Fit P a c m){f:Nat}(H:P.D.Aq f)(l:Bs)(E e:Int):Fit ⟨(By P.D P.F f (A7 l) E e).2.1,(By P.D P.F f (A7 l) E e).2.2⟩ a c (m+l.length):=by
 have d:=h.ad (Au a) (Au c) (UO m l.length);have hl:=h.B8 f H;have hu:∀k:Nat,((P.F f).1++(A7 l).data.toList.take k).length<=m+l.length:=λk=>by
  simp only[AZ,BU,A7];omega
 unfold By;split
 ·by_cases z:e=0
  ·simp only[z,Cg];have:=d.cI f ((P.F f).1++(A7 l).data.toList.take (FL P.D P.F).toNat,(P.F f).2) (hu _);exact⟨this.A4,this.AM,this.Fi,this.An,this.B8,this.AB,this.Bq⟩
  ·simp only[z,C4];exact d.cI f _ (hu _)
 ·exact d.cI f _ (hu _)
def Fit.an{P:PD}{a c m:Nat}(h:Fit P a c m)(nm:ByteArray)(l:Bs):Fit (P.an nm l).2 a c (m+l.length):=by
 unfold PD.an Bl;cases hx:lookup P.D.A4 nm with
 | none=>exact h.ad (Au _) (Au _) (by omega)
 | some f=>
  have d:=FJ hx;dsimp only
  split
  ·exact h.bJ.dL (P:=⟨{P.D with n:=(bg P.D.n).2.2},P.F⟩) d l _ _
  ·split
   ·exact h.bJ.dL (P:=⟨{P.D with n:=(bg P.D.n).2.2},P.F⟩) d l _ _
   ·exact h.bJ.ad (Au _) (Au _) (by omega)
def Fit.ae{P:PD}{a c m:Nat}(h:Fit P a c m)(nm:ByteArray):Fit (P.ae nm).2 a c m:=by
 unfold PD.ae Cw;cases hx:lookup P.D.A4 nm with
 | none=>exact h
 | some f=>
  have d:=FJ hx;dsimp only
  split
  ·exact h.bJ.cI (P:=⟨{P.D with n:=(bg P.D.n).2.2},P.F⟩) f _ (h.B8 f d)
  ·exact h.bJ
def Fit.aK{P:PD}{a c m:Nat}(h:Fit P a c m):Fit P.aK.2 a c m:=by
 unfold PD.aK DC;dsimp only
 split
 ·have z:=h.bJ;refine⟨h.A4,h.A4,λl E=>(by cases E),Cz _,λf d=>h.B8 f ?_,z.AB,z.Bq⟩;rcases d with d|d|⟨x,H,_⟩
  ·exact .inl d
  ·exact .inl d
  ·cases H
 ·exact h.bJ
def Fit.az{P:PD}{a c m:Nat}(h:Fit P a c m)(nm:ByteArray):Fit (P.az nm).2 a (c+1) m:=by
 unfold PD.az Dd;split
 ·exact h.ad (Au _) (by omega) (Au _)
 ·rename_i d;have hl:=A0D d;dsimp only
  split
  ·refine h.ag (a':=a) ?_ (Au _) ?_
   ·have:=h.A4;simp;omega
   ·rintro f⟨x,d,rfl⟩;rcases AV.1 d with d|d
    ·exact h.B8 _ (.inl ⟨x,Ik d,rfl⟩)
    ·exact h.B8 _ (.inl ⟨x,Lb d,rfl⟩)
  ·exact h.bJ.ad (Au _) (by omega) (Au _)
def Xh(es:List AL)(i:Nat)(nm:ByteArray)(k:Nat):(Di es i nm k).length<=k:=by
 induction k with
 | zero=>simp[Di]
 | succ k ih=>
  simp only[Di,AZ];cases es[k]? with
  | none=>simp;omega
  | some e=>
   dsimp only
   split
   ·simp;omega
   ·simp;omega
def Fit.aO{P:PD}{a c m:Nat}(h:Fit P a c m)(old nm:ByteArray):Fit (P.aO old nm).2 (a+1) (c+1) m:=by
 unfold PD.aO CN;cases hx:lookup P.D.A4 old with
 | none=>exact h.ad (by omega) (by omega) (Au _)
 | some f=>
  dsimp only
  split
  ·exact h.ad (by omega) (by omega) (Au _)
  ·dsimp only
   split
   ·refine h.ag (a':=a+1) ?_ (by omega) ?_
    ·have h1:=h.A4;have h2:=Xh P.D.A4 (B2 P.D.A4 old).toNat nm P.D.A4.length;simp;omega
    ·rintro g⟨x,d,rfl⟩;rcases AV.1 d with d | d
     ·exact h.B8 _ (.inl ⟨x,LD _ _ _ _ x d,rfl⟩)
     ·simp at d;subst d;exact h.B8 _ (FJ hx)
   ·exact h.bJ.ad (by omega) (by omega) (Au _)
end
section
open Go.RowKit
attribute [local go_sem ↓] Go.wp_at_zero Go.wp_at_succ
def RF:∀(m u d:Nat) (r:List UInt8),u<m->d*10 ^ Lib.nDigits u+u<18446744073709551616->Lib.parseUint10 d (Lib.decDigits u++r)=Lib.parseUint10 (d*10 ^ Lib.nDigits u+u) r
 | 0,u,d,r,h,_=>by omega
 | m+1,u,d,r,h,hb=>by
  have one:∀(a x:Nat) (r:List UInt8),x<10->a*10+x<18446744073709551616->Lib.parseUint10 a (UInt8.ofNat (48+x):: r)=Lib.parseUint10 (a*10+x) r:=λa x r hx ha=>by
   (have e:(UInt8.ofNat (48+x)).toNat=48+x:=by simp;omega);simp only[Lib.parseUint10,e];rw[Af (by omega),Ac (by omega),Ac (by omega)]
   congr 1;omega
  by_cases z:u<10
  ·rw[Lib.decDigits_one z,Pq z]at *;simp only[Fo,EY,Nat.pow_one];exact one d u r z (by simpa using hb)
  ·rw[V7 z,JM]at *;have e:d*(10 ^ Lib.nDigits (u/10)*10)+u=(d*10 ^ Lib.nDigits (u/10)+u/10)*10+u % 10:=by
    rw[<-Pg,Hy];omega
   rw[e]at hb ⊢;have E:Lib.decDigits u=Lib.decDigits (u/10)++[UInt8.ofNat (48+u % 10)]:=by
    rw[Lib.decDigits,OK z]
   rw[E,Cc,RF m (u/10) d _ (by omega) (by omega)];exact one _ _ r (by omega) hb
def XZ(c:Nat)(r:List UInt8):Lib.parseUint10 0 (List.replicate c 48++r)=Lib.parseUint10 0 r:=by
 induction c with
 | zero=>rfl
 | succ c ih=>simp only[UQ,Fo,Lib.parseUint10];exact ih
def Ss(k:Nat):∀u,u<10 ^ k->1<=k->Lib.nDigits u<=k:=by
 induction k with
 | zero=>intro u _ h;omega
 | succ k ih=>
  intro u hu _;by_cases h:u<10
  ·rw[Pq h];omega
  ·rw[V7 h];rw[JM]at hu;cases k with
   | zero=>simp at hu;omega
   | succ k=>have:=ih (u/10) (by omega) (by omega);omega
def LQ{n:Int}(h:0<=n):Lib.itoa n=Lib.decDigits n.toNat:=by unfold Lib.itoa;rw[Ac (by omega)]
def Hs{n:Int}(d:0<=n)(h1:n<=4611686018427387904):CD n:=by
 refine⟨d,by omega,?_⟩;rw[LQ d,V8];exact Ss 19 _ (by omega) (by omega)
def QT(c:Nat):Lib.repeatL [48] c=List.replicate c 48:=by
 induction c with
 | zero=>rfl
 | succ c ih=>simp[Lib.repeatL,ih,List.replicate_succ]
def A0V(u:Nat):∃b r,Lib.decDigits u=b::r/\48<=b.toNat/\b.toNat<=57:=by
 induction u using Nat.strongRecOn with
 | ind u ih=>
  by_cases h:u<10
  ·exact⟨_,_,Lib.decDigits_one h,by simp;omega,by simp;omega⟩
  ·obtain⟨b,r,z,d,E⟩:=ih (u/10) (by omega);refine⟨b,r++[UInt8.ofNat (48+u % 10)],?_,d,E⟩;rw[Lib.decDigits,OK h,z];rfl
def A16{n:Int}(H:0<=n)(h1:n<=9223372036854775807)(c:Nat):Lib.atoiAll (Lib.repeatL [48] c++Lib.itoa n)=.ok n:=by
 rw[QT,LQ H];obtain⟨b,r,h,hb1,hb2⟩:=A0V n.toNat;have d:Lib.parseMag (List.replicate c 48++Lib.decDigits n.toNat)=.ok n.toNat:=by
  unfold Lib.parseMag;rw[Ac (by rw[h];simp),XZ];have:=RF (n.toNat+1) n.toNat 0 [] (by omega) (by omega);rw[Gh]at this;rw[this];simp[Lib.parseUint10]
 have I:∃b r,List.replicate c 48++Lib.decDigits n.toNat=b::r/\b.toNat≠43/\b.toNat≠45:=by
  cases c with
  | zero=>exact⟨b,r,by simpa using h,by omega,by omega⟩
  | succ c=>exact⟨48,List.replicate c 48++Lib.decDigits n.toNat,by simp[List.replicate_succ],by decide,by decide⟩
 obtain⟨b2,r2,e,z,E⟩:=I;rw[e]at d ⊢;rw[Lib.atoiAll_plain _ _ z E,d];unfold Lib.signless;dsimp only
 rw[Ac (by omega)]
 congr 1
 omega
def Tn(a b:List UInt8):Lib.hasPrefix (a++b) a=true:=by
 unfold Lib.hasPrefix;simp
def VG(lt:List UInt8)(n:Int):Lib.trimPrefix (Ec lt n) lt=Lib.repeatL [48] (19-(Lib.itoa n).length)++Lib.itoa n:=by
 unfold Lib.trimPrefix Ec;rw[Cc,Af (Tn _ _),V0]
def E0(lt nm:List UInt8):Option Int:=match Lib.atoiAll (Lib.trimPrefix nm lt) with
 | .ok v=>if 0<v/\v<=4611686018427387904/\Ec lt v=nm then some v else none
 | _=>none
def LK(lt:List UInt8){n:Int}(h:0<n)(d:n<=4611686018427387904):E0 lt (Ec lt n)=some n:=by
 unfold E0;rw[VG,A16 (by omega) (by omega)];dsimp only
 rw[Af ⟨h,d,rfl⟩]
def Ae(n:Int):List UInt8:=BL 1 n
def AG(n:Int):List UInt8:=BL 2 n
def AI:List UInt8:=[105]
def Bk:List UInt8:=[100]
def isNum(n:Int):Bool:=decide (1<=n/\n<=4611686018427387904)
def HY(nm:List UInt8):Int×Int:=if nm=Bk then (4,0) else (0,0)
def GR(nm:List UInt8):Int×Int:=if nm=AI then (3,0) else HY nm
def GS(nm:List UInt8):Int×Int:=match E0 [115] nm with
 | some v=>(2,v)
 | none=>GR nm
def Be(nm:List UInt8):Int×Int:=match E0 [108] nm with
 | some v=>(1,v)
 | none=>GS nm
def FI(nm:List UInt8)(k:Nat):Int×Int:=if k=1 then Be nm else if k=2 then GS nm else if k=3 then GR nm else if k=4 then HY nm else (0,0)
def PA(s:List UInt8)(v:Int):Prop:=Lib.atoiAll s=.ok v\/(∀x,Lib.atoiAll s≠.ok x)/\isNum v=false/\(s=[]->v=0)
def Uc:∀x,Lib.atoiAll []≠.ok x:=by
 intro x;have:Lib.atoiAll []=.syntax:=by decide +kernel
 rw[this];intro h;cases h
def Q6(l:List UInt8):Lib.trimPrefix l l=[]:=by
 unfold Lib.trimPrefix;have:Lib.hasPrefix l l=true:=by simpa using Tn l []
 rw[Af this];simp
def Si{lt nm:List UInt8}{v:Int}(h:PA (Lib.trimPrefix nm lt) v):E0 lt nm=if isNum v=true/\Ec lt v=nm then some v else none:=by
 unfold E0;rcases h with h|⟨h,z,-⟩
 ·rw[h];dsimp only
  by_cases d:0<v/\v<=4611686018427387904/\Ec lt v=nm
  ·rw[Af d,Af ⟨by unfold isNum;exact Cv ⟨by omega,d.2.1⟩,d.2.2⟩]
  ·rw[Ac d,Ac];rintro⟨E,z⟩;unfold isNum at E;have:=NU E;exact d ⟨by omega,this.2,z⟩
 ·rw[z,Ac (by simp)];cases hx:Lib.atoiAll (Lib.trimPrefix nm lt) with
  | ok x=>exact absurd hx (h x)
  | «syntax»=>rfl
  | range=>rfl
def Sn(nm:List UInt8):FI nm 1=Be nm:=by simp[FI]
def Sm(nm:List UInt8):FI nm 2=GS nm:=by simp[FI]
def Sl(nm:List UInt8):FI nm 3=GR nm:=by simp[FI]
def Sk(nm:List UInt8):FI nm 4=HY nm:=by simp[FI]
def Sj(nm:List UInt8):FI nm 5=(0,0):=by simp[FI]
def YC{nm:List UInt8}{k:Nat}{v:Int}(hk:1<=k/\k<=4)(h:PA (Lib.trimPrefix nm (D3 k)) v):
 FI nm k=if isNum v=decide ((k:Int)=1\/(k:Int)=2)/\BL k v=nm then ((k:Int),v) else FI nm (k+1):=by
 have L:k=1\/k=2\/k=3\/k=4:=by omega
 rcases L with rfl|rfl|rfl|rfl
 ·have e:BL ((1:Nat):Int) v=Ec [108] v:=rfl;have z:decide (((1:Nat):Int)=1\/((1:Nat):Int)=2)=true:=by decide
  have:=Si h;rw[show D3 ((1:Nat):Int)=[108] from rfl]at this;rw[Sn,Sm,e,z,Be,this];by_cases d:isNum v=true/\Ec [108] v=nm
  ·rw[Af d,Af d];rfl
  ·rw[Ac d,Ac d]
 ·have e:BL ((2:Nat):Int) v=Ec [115] v:=rfl;have z:decide (((2:Nat):Int)=1\/((2:Nat):Int)=2)=true:=by decide
  have:=Si h;rw[show D3 ((2:Nat):Int)=[115] from rfl]at this;rw[Sm,Sl,e,z,GS,this];by_cases d:isNum v=true/\Ec [115] v=nm
  ·rw[Af d,Af d];rfl
  ·rw[Ac d,Ac d]
 ·have e:BL ((3:Nat):Int) v=AI:=rfl;have z:decide (((3:Nat):Int)=1\/((3:Nat):Int)=2)=false:=by decide
  rw[Sl,Sk,e,z,GR];by_cases d:nm=AI
  ·subst d;have E:isNum v=false/\v=0:=by
    rw[show D3 ((3:Nat):Int)=AI from rfl,Q6]at h;rcases h with h|⟨_,I,H⟩
    ·exact absurd h (Uc v)
    ·exact⟨I,H rfl⟩
   rw[Af rfl,Af ⟨E.1,rfl⟩,E.2];rfl
  ·rw[Ac d,Ac (λh=>d h.2.symm)]
 ·have e:BL ((4:Nat):Int) v=Bk:=rfl;have z:decide (((4:Nat):Int)=1\/((4:Nat):Int)=2)=false:=by decide
  rw[Sk,Sj,e,z,HY];by_cases d:nm=Bk
  ·subst d;have E:isNum v=false/\v=0:=by
    rw[show D3 ((4:Nat):Int)=Bk from rfl,Q6]at h;rcases h with h|⟨_,I,H⟩
    ·exact absurd h (Uc v)
    ·exact⟨I,H rfl⟩
   rw[Af rfl,Af ⟨E.1,rfl⟩,E.2];rfl
  ·rw[Ac d,Ac (λh=>d h.2.symm)]
end
end Go.Proofs.YtodcnkbblippnabGreatDoor
