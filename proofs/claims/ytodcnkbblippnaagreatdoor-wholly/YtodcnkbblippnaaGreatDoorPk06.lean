/- Part 6 of a proof: walks of the program. -/
import Derived.Test.YtodcnkbblippnaaGreatDoorShelk
import Derived.Lib.ItoaLen
import Derived.Lib.AtoiAllCases
import Derived.Test.YtodcnkbblippnaaGreatDoorPk05
namespace Go.Proofs.YtodcnkbblippnaaGreatDoor
set_option maxRecDepth 100000
set_option maxHeartbeats 32000000
set_option linter.defProp false
open Go.Proofs.Tryz
section
open Go.RowKit
def A3.fS{S:Nat->Prop}{w:World}(k:Nat)(os:Array Obj):A3 S w (Go.Sort.grow (w.drewN k) os):=
 ⟨rfl,rfl,rfl,(by show w.heap.size<=(w.heap++os).size;simp),λj d _=>(by show (w.heap++os)[j]?=_;rw[Array.getElem?_append_left d])⟩
def El(lt:List UInt8)(n:Int):List UInt8:=lt++Lib.repeatL [48] (19-(Lib.itoa n).length)++Lib.itoa n
def D9(s:Int):List UInt8:=if s=1 then [108] else if s=2 then [115] else if s=3 then [105] else if s=4 then [100] else []
def BP(s n:Int):List UInt8:=if s=1\/s=2 then El (D9 s) n else D9 s
def OV(w:World)(s:Int):Af 133 #[A0 s] w (Aj (.bool (decide (s=1\/s=2))) λw'=>w=w'):=by
 go_enter func133,ntmps133
 by_cases h:s=1
 ·subst h;go_wp2;go_ret;exact⟨rfl,rfl⟩
 ·by_cases d:s=2
  ·subst d;go_wp2;go_ret;exact⟨rfl,rfl⟩
  ·go_wp2;go_ret;exact⟨by simp[h,d],rfl⟩
def ZJ(w:World)(s:Int)(k:Nat)(hs:s=k/\(k=1\/k=2))(lt:List UInt8)(n:Int)(hn : -9223372036854775808<=n/\n<=9223372036854775807)(hlt:lt.length<=1000)(W:(Lib.itoa n).length<=19)(hl:A7 w 0 k (.string ⟨lt.toArray⟩))(I:Lib.TabIs Tryz.prog w "internal/strconv.uint64pow10" .u64 Lib.pow10Tab):
 Af 134 #[A0 s,A0 n] w (Aj (.string ⟨(El lt n).toArray⟩) λw'=>A3 Ab w w'):=by
 obtain⟨rfl,hk⟩:=hs;obtain⟨aI,aN⟩:=hn;have aA:(k:Int)<5:=by omega
 have O:(k:Int)=1\/(k:Int)=2:=by omega
 have aH:decide ((k:Int)=1\/(k:Int)=2)=true:=CE O;have aK:=A1 (Tryz.strconv_Itoa n aI aN w I);have aS:∀w',_:=λw'=>Tryz.strings_Repeat ⟨#[48]⟩ (19-(Lib.itoa n).length) w' (by omega) (by show 1*_<=_;omega);have H:=A1 aS;have E:Hid (El lt n=lt++Lib.repeatL [48] (19-(Lib.itoa n).length)++Lib.itoa n):=rfl;have z:=Lib.repeatL_length [48] (19-(Lib.itoa n).length);generalize aJ:Lib.itoa n=dg at aK W H E z;clear aS aJ I;obtain⟨c,hc,hcl⟩:∃c:Nat,19-dg.length=c/\dg.length+c=19:=⟨_,rfl,by omega⟩;rw[hc]at H E z;clear hc;obtain⟨d,L⟩:∃d,Lib.repeatL [48] c=d:=⟨_,rfl⟩;have aE:Hid (∀w':World,Af 174 #[.string ⟨#[48]⟩,A0 (c:Int)] w' λe aM=>e=.returned (.string ⟨d.toArray⟩)/\Below w'.heap.size w' aM):=by
  rw[<-L];exact H.o
 rw[L]at E z;clear L H;have hrl2:d.length<=19:=by rw[z];simp;omega
 clear z;generalize aB:El lt n=nm at E ⊢;have aP:=A1 hl;clear aB hl
 go_enter func134,ntmps134
 go_wp2_with (fail);refine(OV w k).mono ?_;rintro e w0⟨rfl,rfl⟩;rw[aH];have HK1:=A1 hk;have HK2:=A1 O;have aO:=A1 aA;clear hk O aA aH;go_wp2_with (go_at_call 173;refine aK.m ?_;rintro e w1⟨rfl,hw⟩;have aR:=A1 hw;clear hw);have aD:Hid (A3 Ab w w1):=by
  obtain⟨k,os,he⟩:=aR.o;rw[he];exact A3.fS k os
 have aG:=A1 (aD.o.ao aP.o);clear aR aK aP;refine Hf 10 (λy=>{tmps:=#[A0 k,A0 n,undef,undef,.string ⟨#[]⟩,.string ⟨dg.toArray⟩,A0 k,.bool true,.bool false,undef,undef,undef,A0 n,.string ⟨dg.toArray⟩,y 0,y 1,y 2,y 3,y 4,y 5,y 6,y 7,y 8,y 9],defers:=[]}) (λ_=>undef)
  (λw'=>A7 w' 0 k (.string ⟨lt.toArray⟩)/\A3 Ab w1 w') (A3 Ab)
  (λj x w'=>match j with
   | 0=>x=A0 k
   | 1=>x=.pointer (some (Ac 0 k))
   | 2=>x=.string ⟨lt.toArray⟩
   | 3=>x=.string ⟨dg.toArray⟩
   | 4=>x=A0 dg.length
   | 5=>x=A0 (c:Int)
   | 6=>x=.string ⟨d.toArray⟩
   | 7=>x=.string ⟨(lt++d).toArray⟩
   | 8=>x=.string ⟨dg.toArray⟩
   | 9=>x=.string ⟨nm.toArray⟩
   | _=>True)
  (by kernel_rfl) (by kernel_rfl) rfl ?_ ?_ ?_ ?_
 ·exact⟨aG.o,(A3.I _ _).af⟩
 ·intro j x w1 w2 hR hS' hG;split at hG<;>exact hG
 ·clear aG;simp only[Fa,EV,FO,HK]
  repeat' (with_reducible apply And.intro)
  all_goals refine⟨?_,(by intro y Y _ _ h;exact Bool.noConfusion h),λy x=>rfl⟩
  all_goals
   intro y Y hS W hw K hK;obtain⟨c0,aL⟩:=hS;simp[Gk,Region.binds,Fe,List.filter_cons]at W;have hk5:=aO.o;have hk0:=C2 k;have ap1:=K5 lt d;(have g1:¬(9223372036854775807<lt.length+d.length):=by omega);(have g2:¬(9223372036854775807<lt.length+d.length+dg.length):=by omega);(have g3:¬(9223372036854775807<lt.length+(d.length+dg.length)):=by omega);(have ap2:(ByteArray.mk (lt++d).toArray)++(ByteArray.mk dg.toArray)=⟨nm.toArray⟩:=by rw[K5,E.o]);(have ew:IntKind.i64.wrap (c:Int)=c:=by simp[IntKind.wrap,IntKind.bits,IntKind.signed];omega);(have ew2:(19:Int)-(dg.length:Int)=(c:Int):=by omega);have aF:Hid (A7 Y 0 k (.string ⟨lt.toArray⟩)/\A3 Ab w1 Y):=⟨c0,aL⟩;have aQ:=A1 hK
  all_goals dsimp only
  all_goals try go_simp
  all_goals try with_reducible exact aQ.o _ _ _ rfl (by simp[Act.put,W]) (A3.I _ _) aF.o
  all_goals try
   (have hd5:y 5=A0 (c:Int):=by with_reducible exact W);refine(aE.o Y).mono ?_;rintro e w2⟨rfl,hb⟩;have hc:A3 Ab Y w2:=A3.cP hb;exact aQ.o _ _ _ rfl (by simp[Act.put,W]) hc ⟨hc.ao aF.o.1,aF.o.2.tr hc⟩
 ·intro y Y hS hG;have h9:y 9=.string ⟨nm.toArray⟩:=hG 9 (by omega);have aF:=A1 hS;go_wp2;go_ret;exact⟨rfl,aD.o.tr aF.o.2⟩
def Tb(w:World)(k:Nat)(hk:k=3\/k=4)(lt:List UInt8)(n:Int)(hl:A7 w 0 k (.string ⟨lt.toArray⟩)):
 Af 134 #[A0 k,A0 n] w (Aj (.string ⟨lt.toArray⟩) λw'=>w=w'):=by
 have hk1:(k:Int)<5:=by omega
 have hk0:=C2 k;have d:decide ((k:Int)=1\/(k:Int)=2)=false:=D2 (by omega)
 go_enter func134,ntmps134
 go_wp2_with (fail);refine(OV w k).mono ?_;rintro e w0⟨rfl,rfl⟩;rw[d];go_wp2;go_ret;exact⟨rfl,rfl⟩
def AH(name:List UInt8):Nat:=AW 4294967295 name
def Lets(B:Nat)(w:World):Prop:=
 B<=w.heap.size/\∀w',Below B w w'->(∀k:Nat,1<=k->k<=4->w'.cell? ⟨0,k,none⟩=some (.string ⟨(D9 k).toArray⟩))/\Lib.TabIs Tryz.prog w' "internal/strconv.uint64pow10" .u64 Lib.pow10Tab
def Lets.aj{B:Nat}{w w':World}{S:Nat->Prop}(h:Lets B w)(d:A3 S w w')(E:∀k,S k->B<=k):Lets B w':=
 ⟨AR h.1 d.Ao,λH z=>h.2 H ((d.de h.1 λk hk I=>by have:=E k I;omega).trans z)⟩
def Lets.aM{B:Nat}{w w':World}(h:Lets B w)(d:A3 Ab w w'):Lets B w':=h.aj d λ_ h=>h.elim
def Tg(s:Int):(D9 s).length<=1:=by
 unfold D9;split
 ·simp
 ·split
  ·simp
  ·split
   ·simp
   ·split<;>simp
def ZK(lt:List UInt8)(n:Int):(El lt n).length=lt.length+(19-(Lib.itoa n).length)+(Lib.itoa n).length:=by
 unfold El;have:=Lib.repeatL_length [48] (19-(Lib.itoa n).length);simp only[B1,this];simp
def SP{s n:Int}(h:(Lib.itoa n).length<=19):(BP s n).length<=100:=by
 have h1:=Tg s;unfold BP;split
 ·rw[ZK];omega
 ·omega
def Mm{B:Nat}{n:Int}(w:World)(k:Nat)(d:1<=k/\k<=4)(hn : -9223372036854775808<=n/\n<=9223372036854775807)(E:(Lib.itoa n).length<=19)(L:Lets B w):
 Calls Tryz.prog 134 #[.int .i64 k,.int .i64 n] w λe w'=>e=.returned (.string ⟨(BP k n).toArray⟩)/\A3 (λ_=>False) w w':=by
 obtain⟨I,H⟩:=L.2 w (Nv _ _);have z:=I k d.1 d.2;by_cases h:k=1\/k=2
 ·have e:BP k n=El (D9 k) n:=by unfold BP;rw[Ai (by omega)]
  rw[e];exact ZJ w k k ⟨rfl,h⟩ (D9 k) n hn (by have:=Tg k;omega) E z H
 ·have e:BP k n=D9 k:=by unfold BP;rw[Ae (by omega)]
  rw[e];refine(Tb w k (by omega) (D9 k) n z).mono ?_;rintro e w'⟨rfl,rfl⟩;exact⟨rfl,A3.I _ _⟩
def CM(n:Int):Prop:=0<=n/\n<=9223372036854775807/\(Lib.itoa n).length<=19
section
variable {B:Nat} {n:Int} {p:Value}
def Pc(w:World)(z k:Nat)(hk:1<=k/\k<=4)(hn:CM n)(hL:Lets B w):
 Af 125 #[A5 z,A0 k,A0 n] w (Aj (.agg #[A5 z,.string ⟨(BP k n).toArray⟩,.int .u32 (AH (BP k n))]) λw'=>A3 Ab w w'):=by
 obtain⟨hn1,aB,hd⟩:=hn;have aF:∀w',A3 Ab w w'->_:=λw' hc=>Mm (n:=n) w' k hk ⟨by omega,aB⟩ hd (hL.aM hc);have H:(BP k n).length<=9223372036854775807:=by
  have:=SP (s:=k) hd;omega
 generalize hnm:BP k n=nm at aF H ⊢;have aG:∀w',_:=λw'=>V6 w' 4294967295 nm (by omega) H;obtain⟨s0,E⟩:∃s0,AH nm=s0:=⟨_,rfl⟩;have W:∀w',Af 165 #[.int .u32 4294967295,.string ⟨nm.toArray⟩] w' λe aA=>e=.returned (.int .u32 s0)/\w'=aA:=by rw[<-E];exact aG
 rw[E];have O:=A1 aF;have Y:=A1 W
 go_enter func125,ntmps125
 go_wp2_with (fail);refine(O.o _ ((A3.I _ _).ai _)).mono ?_;rintro e d⟨rfl,L⟩;have h:d.heap[w.heap.size]?=some (.cells #[.pointer none,.string ⟨#[]⟩,.int .u32 0] 160 (0,0)):=L.aj (by show (w.heap.push _)[w.heap.size]?=_;rw[IB]) (by simp);have c0:A7 d w.heap.size 0 (.pointer none):=by simp[A7,World.cell?,h]
 have c1:A7 d w.heap.size 1 (.string ⟨#[]⟩):=by simp[A7,World.cell?,h]
 have c2:A7 d w.heap.size 2 (.int .u32 0):=by simp[A7,World.cell?,h]
 have f0:d.frozen? (Ac w.heap.size 0)=false:=by simp[World.frozen?,h]
 have f1:d.frozen? (Ac w.heap.size 1)=false:=by simp[World.frozen?,h]
 have f2:d.frozen? (Ac w.heap.size 2)=false:=by simp[World.frozen?,h]
 have I:=Ct (o:=2) (v:=.int .u32 s0) (Ct (o:=1) (v:=.string ⟨nm.toArray⟩) (Ct (o:=0) (v:=(A5 z)) h));have k1:A3 Ab w d:=((A3.I Ab w).ai _).tr L;have k3:A3 Ab w (((d.setCell (Ac w.heap.size 0) (A5 z)).setCell (Ac w.heap.size 1) (.string ⟨nm.toArray⟩)).setCell (Ac w.heap.size 2) (.int .u32 s0)):=((k1.bq (by simp) _).bq (by simp) _).bq (by simp) _;have aD:=A1 I;have aE:=A1 k3;go_wp2_with (go_at_call 165;refine(Y.o _).mono ?_;rintro e w'⟨rfl,rfl⟩);generalize (((d.setCell (Ac w.heap.size 0) (A5 z)).setCell (Ac w.heap.size 1) (.string ⟨nm.toArray⟩)).setCell (Ac w.heap.size 2) (.int .u32 s0))=w3 at aD aE ⊢;have I:=aD.o;have r0:A7 w3 w.heap.size 0 (A5 z):=by simp[A7,World.cell?,I]
 have r1:A7 w3 w.heap.size 1 (.string ⟨nm.toArray⟩):=by simp[A7,World.cell?,I]
 have r2:A7 w3 w.heap.size 2 (.int .u32 s0):=by simp[A7,World.cell?,I]
 refine MU (v:=.agg #[A5 z,.string ⟨nm.toArray⟩,.int .u32 s0]) (by simp[results,Tryz.results125,go_sem,r0,r1,r2]) rfl ?_;exact⟨rfl,aE.o⟩
def Tn(w:World)(z:Nat)(O:CM n)(L:Lets B w):
 Af 192 #[A5 z,A0 n] w λe w'=>∃E,e=.returned (A5 E)/\Bd w' E 237 (A5 z) ⟨(BP 1 n).toArray⟩ (AH (BP 1 n))/\A3 Ab w w'/\w.heap.size<=E:=by
 have d:=A1 (Pc w z 1 (by omega) O L);rw[show ((1:Nat):Int)=1 from rfl]at d;generalize hnm:BP 1 n=nm at d ⊢;generalize hs0:AH nm=s0 at d ⊢
 go_enter func192,ntmps192
 go_wp2_with (go_at_call 125;refine d.m ?_;rintro e h⟨rfl,I⟩;have H:=A1 I);go_ret;exact⟨h.heap.size,rfl,(by show (h.heap.push _)[h.heap.size]?=_;rw[IB]),H.o.ai _,H.o.Ao⟩
def C5(w:World)(xb:Nat)(T:TypeId)(b:Nat)(name:List UInt8)(s:Nat)(n:Int)(v:Value):Prop:=w.heap[xb]?=some (.cells #[.pointer (some ⟨b,0,none⟩),.string ⟨name.toArray⟩,.int .u32 s,.int .i64 n,v] T (0,0))
section
variable {w w':World} {xb:Nat} {T:TypeId} {b:Nat} {name:List UInt8} {s:Nat} {v:Value}
def C5.c0(h:C5 w xb T b name s n v):A7 w xb 0 (A5 b):=by unfold C5 at h;simp[A7,World.cell?,h]
def C5.c1(h:C5 w xb T b name s n v):A7 w xb 1 (.string ⟨name.toArray⟩):=by unfold C5 at h;simp[A7,World.cell?,h]
def C5.c2(h:C5 w xb T b name s n v):A7 w xb 2 (.int .u32 s):=by unfold C5 at h;simp[A7,World.cell?,h]
def C5.c3(h:C5 w xb T b name s n v):A7 w xb 3 (A0 n):=by unfold C5 at h;simp[A7,World.cell?,h]
def C5.c4(h:C5 w xb T b name s n v):A7 w xb 4 v:=by unfold C5 at h;simp[A7,World.cell?,h]
def C5.fz(h:C5 w xb T b name s n v)(o:Nat):w.frozen? (Ac xb o)=false:=by unfold C5 at h;simp[World.frozen?,h]
def C5.lt(h:C5 w xb T b name s n v):xb<w.heap.size:=Bz h
def C5.s3(h:C5 w xb T b name s n v)(x:Int):C5 (w.setCell (Ac xb 3) (A0 x)) xb T b name s x v:=Ct h
def C5.s4(h:C5 w xb T b name s n v)(x:Value):C5 (w.setCell (Ac xb 4) x) xb T b name s n x:=Ct h
def C5.af(h:C5 w xb T b name s n v):C5 w.drew xb T b name s n v:=by unfold C5 at h ⊢;exact h
def C5.aj{S:Nat->Prop}(h:C5 w xb T b name s n v)(d:A3 S w w')(z:¬S xb):C5 w' xb T b name s n v:=d.aj h z
end
def Rh(w:World)(z:Nat)(O:CM n)(L:Lets B w):
 Af 175 #[A5 z,A0 n] w λe w'=>∃E,e=.returned (A5 E)/\C5 w' E 182 z (BP 2 n) (AH (BP 2 n)) n (.slice none 0 0)/\A3 Ab w w'/\w.heap.size<=E:=by
 have d:=A1 (Pc w z 2 (by omega) O L);rw[show ((2:Nat):Int)=2 from rfl]at d;generalize hnm:BP 2 n=nm at d ⊢;generalize hs0:AH nm=s0 at d ⊢
 go_enter func175,ntmps175
 go_wp2_with (go_at_call 125;refine d.m ?_;rintro e h⟨rfl,I⟩;have H:=A1 I);go_ret;exact⟨h.heap.size,rfl,(by show (h.heap.push _)[h.heap.size]?=_;rw[IB]),H.o.ai _,H.o.Ao⟩
end
def Eu.a6{w z w':World}{b:Nat}{D:DS}{F:Nat->FC}{Ft:Nat->Prop}(h:Eu z Ft w' b D F)(E:A3 Ab w z):Eu w Ft w' b D F:=by
 obtain⟨O,d,I,W,L⟩:=h;exact⟨(E.aa λ_ _ h=>h.elim).tr O,d,I,W,λk H=>(L k H).imp id λh=>AR E.Ao h⟩
section
variable {B b:Nat} {D:DS} {F:Nat->FC} {Ft:Nat->Prop} {n:Int}
def Kq.a6{w z w':World}{E:Nat}(h:Kq z Ft E w' b D F)(H:A3 Ab w z):Kq w Ft E w' b D F:=by
 obtain⟨W,d,L,Y,O⟩:=h;exact⟨(H.aa λ_ _ h=>h.elim).tr W,d,L,Y,λk I=>(O k I).imp id λh=>AR H.Ao h⟩
def A3U(w:World)(H:Nat)(name:ByteArray)(s:Nat)(d t v:Int)(aF:0<=d/\d<256)(ht : -9223372036854775808<=t/\t<=9223372036854775807)(hv : -9223372036854775808<=v/\v<=9223372036854775807)(hf:Bd w H 237 (A5 b) name s)(hs:s<4294967296)(h:B3 w b D F Ft)(E:∀k,Ft k->k<w.heap.size)(hn:¬Ft H)(hroom : -4611686018427387904<=D.n.AG/\D.n.AG<=9223372036854775807)(hu:B6 F D.A4<=4611686018427387904)(hp:0<=D.n.Bv/\D.n.Bv<=9223372036854775807)(hl:∀f,lookup D.A4 name=some f->(F f).1.length+21<=70368744177664)(hz:(CH (Bp D F name ⟨(Bb d t v++Cd (AW s (Bb d t v))).toArray⟩).2.1 (Bp D F name ⟨(Bb d t v++Cd (AW s (Bb d t v))).toArray⟩).2.2 name).1<=70368744177664/\(CH D F name).1<=70368744177664):
 Af 191 #[A5 H,.agg #[A0 d,A0 t,A0 v]] w (Aj (.tuple #[.bool (Hb D F name (Bb d t v++Cd (AW s (Bb d t v)))),A0 (Bp D F name ⟨(Bb d t v++Cd (AW s (Bb d t v))).toArray⟩).1]) λw'=>
  Bd w' H 237 (A5 b) name (AW s (Bb d t v))/\Kq w Ft H w' b (Bp D F name ⟨(Bb d t v++Cd (AW s (Bb d t v))).toArray⟩).2.1 (Bp D F name ⟨(Bb d t v++Cd (AW s (Bb d t v))).toArray⟩).2.2):=by
 have PB:∀w',_:=λw'=>S8 w' d t v aF ht hv;have aB:(Bb d t v).length=17:=by simp[Bb,CP]
 generalize hle:Bb d t v=l at PB aB hz ⊢;have AD:∀w',A3 Ab w w'->_:=λw' hc=>addF (hf.aj hc (by simp)) hs (h.ay E hc) (λk hk=>Bq (E k hk) hc.Ao) hn l hroom hu hp (λf hf=>by have:=hl f hf;omega) (by omega) hz;obtain⟨ok,aK⟩:∃ok,Hb D F name (l++Cd (AW s l))=ok:=⟨_,rfl⟩;obtain⟨er,aE⟩:∃er,(Bp D F name ⟨(l++Cd (AW s l)).toArray⟩).1=er:=⟨_,rfl⟩;rw[aK,aE]at AD ⊢;have hlb:=hf.lt;have aH:=A1 PB;have aI:=A1 AD;have aA:=A1 E
 go_enter func191,ntmps191
 go_wp2;have hb:(w.alloc (.cells #[A0 d,A0 t,A0 v] 113)).heap[w.heap.size]?=some (.cells #[A0 d,A0 t,A0 v] 113 (0,0)):=by show (w.heap.push _)[w.heap.size]?=_;rw[IB]
 have p0:(w.alloc (.cells #[A0 d,A0 t,A0 v] 113)).drew.cell? (Ac w.heap.size 0)=some (A0 d):=by show (w.alloc _).cell? _=_;simp only[World.cell?,hb];rfl
 have p1:(w.alloc (.cells #[A0 d,A0 t,A0 v] 113)).drew.cell? (Ac w.heap.size 1)=some (A0 t):=by show (w.alloc _).cell? _=_;simp only[World.cell?,hb];rfl
 have p2:(w.alloc (.cells #[A0 d,A0 t,A0 v] 113)).drew.cell? (Ac w.heap.size 2)=some (A0 v):=by show (w.alloc _).cell? _=_;simp only[World.cell?,hb];rfl
 have O:Hid (A3 Ab w (w.alloc (.cells #[A0 d,A0 t,A0 v] 113)).drew):=((A3.I _ w).ai _).af;refine FQ (λw'=>w'.cell? (Ac w.heap.size 0)=some (A0 d)/\w'.cell? (Ac w.heap.size 1)=some (A0 t)/\w'.cell? (Ac w.heap.size 2)=some (A0 v)) 8
  (Br [0,1,2,3,4,5,6,7] [4,5]) (by kernel_rfl) (by kernel_rfl) (λ_ _ _ _ _ h=>h) ⟨p0,p1,p2⟩ ?_
 generalize (w.alloc (.cells #[A0 d,A0 t,A0 v] 113)).drew=w1 at p0 p1 p2 O ⊢
 iterate 4 (refine Ec (v:=?_) rfl (by rfl) ?_ ?_;rotate_left;(· (intro w' W;(try dsimp only at W);go_simp;try with_reducible rfl));(try simp only[An]))
 refine DY rfl (by rfl) (λK hK=>?_);go_simp;refine(aH.o w1).mono ?_;rintro e Y⟨rfl,z⟩;have q0:=z.ao p0;have q1:=z.ao p1;have q2:=z.ao p2;refine hK _ _ ⟨q0,q1,q2⟩ (λW=>?_);have L:Hid (A3 Ab w Y):=O.o.tr z
 (try simp only[An])
 refine DY rfl (by rfl) (λK hK=>?_);go_simp;refine(aI.o Y L.o).mono ?_;rintro e w3⟨rfl,aM,I⟩;have k3:=I.1;have aL:¬((λk=>Ft k\/k=H) w.heap.size):=by
  rintro (h|h)
  ·have:=aA.o _ h;omega
  ·omega
 have kc:∀o u,Y.cell? (Ac w.heap.size o)=some u->w3.cell? (Ac w.heap.size o)=some u:=by
  intro o u hu;have aJ:w.heap.size<Y.heap.size:=by
   rcases F9 w.heap.size Y.heap.size with h|h
   ·exact h
   ·unfold World.cell? at hu;rw[Nw h]at hu;simp at hu
  unfold World.cell? at hu ⊢;rw[k3.Ap _ aJ aL];exact hu
 refine hK _ _ ⟨kc 0 _ q0,kc 1 _ q1,kc 2 _ q2⟩ (λW=>?_);have aG:=A1 aM;have aD:=A1 (I.a6 L.o)
 (try simp only[An])
 iterate 2 (refine Ec (v:=?_) rfl (by rfl) ?_ ?_;rotate_left;(· (intro w' W;(try dsimp only at W);go_simp;try with_reducible rfl));(try simp only[An]))
 refine Bl ?_;simp only[DJ,Dq];go_wp2;go_ret2;exact⟨rfl,aG.o,aD.o⟩
end
section
variable {B b:Nat} {D:DS} {F:Nat->FC} {Ft:Nat->Prop} {n:Int}
def L9(nm:List UInt8)(ahead:Int):List UInt8:=AS ahead++Cd (AW (AH nm) (AS ahead))
def Jt(nm:List UInt8):AH nm<4294967296:=Jq _ _ (by omega)
def ZF(w:World)(ahead:Int)(k:Nat)(z aS:DS)(L aQ:Nat->FC)(e1 e2:Int)(h:B3 w b D F Ft)(aD:∀k,Ft k->k<w.heap.size)(hn:CM n)(hL:Lets B w)(ha : -9223372036854775808<=ahead/\ahead<=9223372036854775807)(hk:¬D.Au k)(hs:D.A4.length<1099511627776/\D.Av.length<1099511627776)(h1:CT D ⟨(BP 1 n).toArray⟩ k=(e1,z))(bC:upd F k ([],0)=L)(h2:Bp z L ⟨(BP 1 n).toArray⟩ ⟨(L9 (BP 1 n) ahead).toArray⟩=(e2,aS,aQ))(hroom : -4611686018427387904<=z.n.AG/\z.n.AG<=9223372036854775807)(hu:B6 L z.A4<=4611686018427387904)(hp:0<=z.n.Bv/\z.n.Bv<=9223372036854775807)(hl:∀f,lookup z.A4 ⟨(BP 1 n).toArray⟩=some f->(L f).1.length+12<=70368744177664)(hz:(CH aS aQ ⟨(BP 1 n).toArray⟩).1<=70368744177664/\(CH z L ⟨(BP 1 n).toArray⟩).1<=70368744177664):
 Af 236 #[A5 b,A0 n,A0 ahead] w λe w'=>
  (e1≠0/\e=.returned (.tuple #[.pointer none,A0 e1])/\Eu w Ft w' b z L)\/
  (e1=0/\e2≠0/\e=.returned (.tuple #[.pointer none,A0 e2])/\Eu w Ft w' b aS aQ)\/
  (e1=0/\e2=0/\∃d,e=.returned (.tuple #[A5 d,A0 0])/\w.heap.size<=d/\Bd w' d 237 (A5 b) ⟨(BP 1 n).toArray⟩ (AW (AH (BP 1 n)) (AS ahead))/\
   A3 Ft w w'/\∃O,B3 w' b aS aQ O/\(∀k,O k->k<w'.heap.size)/\(∀k,O k->Ft k\/w.heap.size<=k)/\¬O d):=by
 have bI:=A1 (Tn w b hn hL);have aL:=Jt (BP 1 n);generalize hnm:BP 1 n=nm at bI aL h1 h2 hl hz ⊢;have CR:∀w' d,A3 Ab w w'->Bd w' d 237 (A5 b) ⟨nm.toArray⟩ (AH nm)->_:=λw' d hc hf=>Um hf (h.ay aD hc) k hk hs;rw[h1,bC]at CR;have AD:∀w' d aA,Bd w' d 237 (A5 b) ⟨nm.toArray⟩ (AH nm)->B3 w' b z L aA->(∀k,aA k->k<w'.heap.size)->¬aA d->_:=
  λw' d aA hf hr aK aZ=>addF hf aL hr aK aZ (AS ahead) hroom hu hp (λf hf=>by have:=hl f hf;rw[CP];exact this) (by rw[CP];omega) (by
   show (CH (Bp z L _ ⟨(L9 nm ahead).toArray⟩).2.1 (Bp z L _ ⟨(L9 nm ahead).toArray⟩).2.2 _).1<=_/\_
   rw[h2];exact hz)
 have e0:AS ahead++Cd (AW (AH nm) (AS ahead))=L9 nm ahead:=rfl;rw[e0,h2]at AD;have bN:∀w',_:=λw'=>L7 w' ahead ha;generalize hle:AS ahead=l at AD bN ⊢;generalize hok:Hb z L ⟨nm.toArray⟩ (L9 nm ahead)=ok at AD;dsimp only at CR AD;have aX:=A1 CR;have bJ:=A1 AD;have a7:=A1 bN;have a6:=A1 aD;rcases Qc (e1=0) with aB|aB
 ·subst aB
  go_enter func236,ntmps236
  go_wp2_with (first
   | (go_at_call 192;refine bI.m ?_;rintro e w1⟨d,rfl,hb,hc,aF⟩;have aT:=A1 hb;have aU:=A1 hc;have Y:=A1 aF)
   | (go_at_call 240;refine(aX.o _ _ aU.o aT.o).mono ?_;rintro e w2⟨rfl,hA⟩;have a0:=A1 hA))
  obtain⟨aE,aN,aY,bB,aP⟩:=a0.o;have bM:=aT.o.lt;have aI:¬Ft d:=λh=>by have:=a6.o d h;have:=Y.o;omega
  have aH:¬aN d:=λh=>by rcases aP d h with h|h;exact aI h;omega
  have a9:=aT.o.aj aE aI;have aO:=aE.Ao;refine FQ (λ_=>True) 10
   (Br [0,1,2,3,4,5,6,7,8,9] [4,5]) (by kernel_rfl) (by kernel_rfl) (λ_ _ _ _ _ h=>h) trivial ?_
  have bA:=A1 a9;have a8:=A1 aY;have aR:=A1 bB;have aV:=A1 aP;have bD:=A1 aE;have aJ:=A1 aH;have a1:=A1 bM;have bF:=A1 aO
  iterate 4 (refine Ec (v:=?_) rfl (by rfl) ?_ ?_;rotate_left;(· (intro w' hS;(try dsimp only at hS);go_simp;try with_reducible rfl));(try simp only[An]))
  refine DY rfl (by rfl) (λK hK=>?_);go_simp;refine(a7.o w2.drew).mono ?_;rintro e w3⟨rfl,I⟩;refine hK _ _ trivial (λhS=>?_);have aW:A3 Ab w2 w3:=⟨I.os,I.Fg,I.Fk,I.Ao,I.Ap⟩;have H:=A1 aW
  (try simp only[An])
  refine DY rfl (by rfl) (λK hK=>?_);go_simp;refine(bJ.o w3 d aN (bA.o.aj H.o (by simp)) (a8.o.ay aR.o H.o) (λk hk=>Bq (aR.o k hk) H.o.Ao) aJ.o).mono ?_;rintro e w4⟨rfl,bL,bK,E,bH,bE,aM⟩;refine hK _ _ trivial (λhS=>?_);have bG:=A1 bL;have W:Hid (A3 Ft w w4/\B3 w4 b aS aQ E/\(∀k,E k->k<w4.heap.size)/\(∀k,E k->Ft k\/w.heap.size<=k)/\¬E d):=by
   have a2:=bF.o;have a3:=H.o.Ao;have a4:=a1.o;have a5:=Y.o;refine⟨((((aU.o.aa λ_ _ h=>h.elim).tr bD.o).Aw H.o (λ_ h _=>h.elim)).Aw bK (λx hx aD=>?_)),bH,bE,λk hk=>?_,λhx=>?_⟩
   ·rcases hx with hx|rfl
    ·exact(aV.o x hx).resolve_right (by omega)
    ·omega
   ·rcases aM k hk with h|h
    ·exact(aV.o k h).imp id (λh=>by omega)
    ·exact .inr (by omega)
   ·rcases aM d hx with h|h
    ·exact aJ.o h
    ·omega
  (try simp only[An])
  iterate 4 (refine Ec (v:=?_) rfl (by rfl) ?_ ?_;rotate_left;(· (intro w' hS;(try dsimp only at hS);go_simp;try with_reducible rfl));(try simp only[An]))
  refine Bl ?_;simp only[DJ,Dq];rcases Qc (e2=0) with aG|aG
  ·subst aG;go_wp2;go_ret2;exact⟨d,rfl,Y.o,bG.o,W.o.1,E,W.o.2.1,W.o.2.2.1,W.o.2.2.2.1,W.o.2.2.2.2⟩
  ·go_wp2;go_ret2;exact .inr (.inl ⟨trivial,aG,rfl,W.o.1,E,W.o.2.1,W.o.2.2.1,W.o.2.2.2.1⟩)
 ·go_enter func236,ntmps236
  go_wp2_with (first
   | (go_at_call 192;refine bI.m ?_;rintro e w1⟨d,rfl,hb,hc,aF⟩;have aT:=A1 hb;have aU:=A1 hc;have Y:=A1 aF)
   | (go_at_call 240;refine(aX.o _ _ aU.o aT.o).mono ?_;rintro e w2⟨rfl,hA⟩;have a0:=A1 hA))
  go_ret2;exact .inl ⟨aB,rfl,a0.o.a6 aU.o⟩
end
end
abbrev Pt:=Int×Int
def CA:List Pt->Int->Int->List Pt
 | [],t,v=>[(t,v)]
 | (a,b):: r,t,v=>if a<t then (a,b):: CA r t v else if a=t then (t,v):: r else (t,v):: (a,b):: r
def Dz(l:List Pt):Prop:=l.Pairwise λx y=>x.1<y.1
def A1q{l:List Pt}{t v:Int}{x:Pt}(h:x∈CA l t v):x=(t,v)\/x∈l:=by
 induction l with
 | nil=>simp[CA]at h;exact .inl h
 | cons e r ih=>
  obtain⟨a,b⟩:=e;simp only[CA]at h;split at h
  ·rcases BQ.1 h with h|h
   ·exact .inr (by simp[h])
   ·rcases ih h with h|h
    ·exact .inl h
    ·exact .inr (Bw _ h)
  ·split at h
   ·rcases BQ.1 h with h|h
    ·exact .inl h
    ·exact .inr (Bw _ h)
   ·rcases BQ.1 h with h|h
    ·exact .inl h
    ·exact .inr h
def L8{l:List Pt}(h:Dz l)(t v:Int):Dz (CA l t v):=by
 induction l with
 | nil=>simp[CA,Dz]
 | cons e r ih=>
  obtain⟨a,b⟩:=e;have z:=Dc.1 h;simp only[CA];split
  ·rename_i E;refine Dc.2 ⟨λx d=>?_,ih z.2⟩;rcases A1q d with rfl|d
   ·exact E
   ·exact z.1 x d
  ·rename_i E;split
   ·rename_i H;subst H;exact Dc.2 ⟨λx d=>z.1 x d,z.2⟩
   ·rename_i H;refine Dc.2 ⟨λx d=>?_,h⟩;rcases BQ.1 d with rfl|d
    ·show t<a;omega
    ·have:=z.1 x d;show t<x.1;simp only at this;omega
def BH(l:List Pt)(t:Int):Nat:=(l.takeWhile λx=>decide (x.1<t)).length
def IM(l:List Pt)(t:Int):BH l t<=l.length:=by
 unfold BH;exact(List.takeWhile_sublist _).length_le
def JE{l:List Pt}{t:Int}{i:Nat}(h:i<BH l t)(z:i<l.length):(l[i]'z).1<t:=by
 unfold BH at h
 induction l generalizing i with
 | nil=>simp at z
 | cons e r ih=>
  by_cases d:e.1<t
  ·simp only[PZ,d,MG,Ch,Cx]at h;cases i with
   | zero=>exact d
   | succ i=>simp only[Q2];exact ih (by omega) _
  ·simp[d]at h
def KL{l:List Pt}(H:Dz l){t:Int}{i:Nat}(h:BH l t<=i)(z:i<l.length):t<=(l[i]'z).1:=by
 unfold BH at h
 induction l generalizing i with
 | nil=>simp at z
 | cons e r ih=>
  have d:=Dc.1 H;by_cases E:e.1<t
  ·simp only[PZ,E,MG,Ch,Cx]at h;cases i with
   | zero=>omega
   | succ i=>simp only[Q2];exact ih d.2 (by omega) _
  ·cases i with
   | zero=>simp only[Ki];omega
   | succ i=>
    have:=d.1 (r[i]'(by simpa using z)) (BY _);simp only[Q2];omega
def Se{l:List Pt}(I:Dz l){t:Int}{k:Nat}(hk:k<=l.length)(H:∀i (z:i<l.length),i<k->(l[i]'z).1<t)(E:∀i (z:i<l.length),k<=i->t<=(l[i]'z).1):BH l t=k:=by
 rcases PX (BH l t) k with h|h|h
 ·have d:BH l t<l.length:=by omega
  have:=H _ d h;have:=KL I (As (BH l t)) d;omega
 ·exact h
 ·have hp:=IM l t;have d:k<l.length:=by omega
  have:=JE h d;have:=E k d (As k);omega
def A1s(l:List Pt)(t v:Int):CA l t v=l.take (BH l t)++(t,v):: (if (l[BH l t]?).any (λx=>x.1==t) then l.drop (BH l t+1) else l.drop (BH l t)):=by
 unfold BH
 induction l with
 | nil=>simp[CA]
 | cons e r ih=>
  obtain⟨a,b⟩:=e;simp only[CA];by_cases h:a<t
  ·simp only[h,Ch,PZ,MG,Cx,Fa,DJ,A4r,Fz,ih]
  ·by_cases d:a=t
   ·subst d;simp
   ·simp[h,d]
def TS{l:List Pt}(Y:Dz l)(p:Int->Bool)(t v:Int):(CA l t v).filter (λx=>p x.1)=if p t then CA (l.filter λx=>p x.1) t v else l.filter (λx=>p x.1):=by
 induction l with
 | nil=>by_cases h:p t<;>simp[CA,h]
 | cons e r L=>
  obtain⟨a,b⟩:=e;have E:=Dc.1 Y;have L:=L E.2;simp only[CA];by_cases H:a<t
  ·simp only[H,Ch,Fc,L];by_cases h:p t<;>by_cases z:p a<;>simp[h,z,CA,H]
  ·by_cases I:a=t
   ·subst I;simp only[H,C7,Ch,Fc];by_cases h:p a<;>simp[h,CA]
   ·simp only[H,I,C7,Fc];by_cases h:p t
    ·by_cases z:p a
     ·simp[h,z,CA,H,I]
     ·simp only[h,z,Ch];have hall:∀x∈r.filter (λx=>p x.1),t<x.1:=λx hx=>by
       have:=E.1 x (GX.1 hx).1;simp only at this;omega
      cases hr:r.filter (λx=>p x.1) with
      | nil=>simp[CA]
      | cons y ys=>
       obtain⟨c,d⟩:=y;have:=hall (c,d) (by rw[hr];simp);simp only at this;(have W:¬c<t:=by omega);(have O:¬c=t:=by omega);simp[CA,W,O]
    ·by_cases z:p a<;>simp[h,z]
def Dz.cf{l:List Pt}(h:Dz l)(k:Nat):Dz (l.drop k):=A4w (List.drop_sublist k l) h
def A1O{l:List Pt}(W:Dz l)(a b:Int):l.filter (λx=>decide (a<=x.1)&&decide (x.1<b))=(l.take (BH l b)).drop (BH l a):=by
 unfold BH
 induction l with
 | nil=>simp
 | cons e r h=>
  have d:=Dc.1 W;have h:=h d.2;by_cases z:e.1<b
  ·by_cases H:e.1<a
   ·(have:¬a<=e.1:=by omega);simp[H,z,this,h]
   ·(have O:a<=e.1:=by omega);have L:r.takeWhile (λx=>decide (x.1<a))=[]:=by
     cases r with
     | nil=>rfl
     | cons y ys=>have:=d.1 y (by simp);rw[PZ];have:¬y.1<a:=by omega
                  simp[this]
    simp only[L,Iw,Dq]at h;simp[H,z,O,h]
  ·(have I:∀x∈r,¬x.1<b:=λx E=>by have:=d.1 x E;omega);have:r.filter (λx=>decide (a<=x.1)&&decide (x.1<b))=[]:=by
    rw[VE];intro x E;have:=I x E;simp[this]
   simp[z,this]
section
open Go.RowKit
def Bj:List Pt->List Value
 | []=>[]
 | (t,v):: r=>A0 t::A0 v::Bj r
def Gb(l:List Pt):(Bj l).length=l.length*2:=by
 induction l with
 | nil=>rfl
 | cons e r ih=>obtain⟨n,f⟩:=e;simp only[Bj,Cx,ih];omega
def Sd(a b:List Pt):Bj (a++b)=Bj a++Bj b:=by
 induction a with
 | nil=>rfl
 | cons e r ih=>obtain⟨n,f⟩:=e;simp[Bj,ih]
def On(l:List Pt)(k:Nat):(Bj l).take (k*2)=Bj (l.take k):=by
 induction l generalizing k with
 | nil=>simp[Bj]
 | cons e r ih=>
  obtain⟨n,f⟩:=e
  match k with
  | 0=>simp[Bj]
  | k+1=>rw[show (k+1)*2=k*2+1+1 from by omega];simp[Bj,ih]
def Mg(l:List Pt)(k:Nat):(Bj l).drop (k*2)=Bj (l.drop k):=by
 induction l generalizing k with
 | nil=>simp[Bj]
 | cons e r ih=>
  obtain⟨n,f⟩:=e
  match k with
  | 0=>simp[Bj]
  | k+1=>rw[show (k+1)*2=k*2+1+1 from by omega];simp[Bj,ih]
def YW(l:List Pt)(k:Nat)(h:k<l.length):(Bj l)[k*2]?=some (A0 (l[k]'h).1):=by
 induction l generalizing k with
 | nil=>simp at h
 | cons e r ih=>
  obtain⟨n,f⟩:=e
  match k with
  | 0=>simp[Bj]
  | k+1=>
   have:=ih k (by simpa using h);rw[show (k+1)*2=k*2+1+1 from by omega];simpa[Bj] using this
def YV(l:List Pt)(k:Nat)(h:k<l.length):(Bj l)[k*2+1]?=some (A0 (l[k]'h).2):=by
 induction l generalizing k with
 | nil=>simp at h
 | cons e r ih=>
  obtain⟨n,f⟩:=e
  match k with
  | 0=>simp[Bj]
  | k+1=>
   have:=ih k (by simpa using h);rw[show (k+1)*2+1=k*2+1+1+1 from by omega];simpa[Bj] using this
def YX(l:List Pt)(k:Nat)(p:Pt)(h:k<l.length):((Bj l).set (k*2) (A0 p.1)).set (k*2+1) (A0 p.2)=Bj (l.set k p):=by
 induction l generalizing k with
 | nil=>simp at h
 | cons e r ih=>
  obtain⟨n,f⟩:=e
  match k with
  | 0=>simp[Bj]
  | k+1=>
   have:=ih k (by simpa using h);rw[show (k+1)*2=k*2+1+1 from by omega];simp only[Bj,Vs];rw[this]
def Mf(l:List Pt):∀u∈Bj l,u.oneCell'=true:=by
 induction l with
 | nil=>simp[Bj]
 | cons e r ih=>
  obtain⟨n,f⟩:=e;intro u hu;simp only[Bj,BQ]at hu;rcases hu with rfl|rfl|hu
  ·rfl
  ·rfl
  ·exact ih u hu
def Du(w:World)(v:Value)(l:List Pt):Prop:=w.ownsRow 0 70 2 v l.length (Bj l)
def Du.bz{w:World}{g n cap:Nat}{l:List Pt}(h:Du w (AM g n cap) l)(k:Nat)(d:k<l.length):A7 w g (k*2) (A0 (l[k]'d).1)/\A7 w g (k*2+1) (A0 (l[k]'d).2):=by
 have z:n=l.length:=by
  obtain⟨_,_,e,_⟩:=B9 h;cases e;rfl
 subst z;exact⟨BF h rfl (YW l k d),BF h rfl (YV l k d)⟩
abbrev Pu:=Int×Int×Int
def Ba:List Pu->List Value
 | []=>[]
 | (s,t,v):: r=>A0 s::A0 t::A0 v::Ba r
def IL(a b:List Pu):Ba (a++b)=Ba a++Ba b:=by
 induction a with
 | nil=>rfl
 | cons e r ih=>obtain⟨n,f,g⟩:=e;simp[Ba,ih]
def Hi(l:List Pu)(k:Nat)(h:k<l.length):(Ba l)[k*3]?=some (A0 (l[k]'h).1)/\(Ba l)[k*3+1]?=some (A0 (l[k]'h).2.1)/\(Ba l)[k*3+2]?=some (A0 (l[k]'h).2.2):=by
 induction l generalizing k with
 | nil=>simp at h
 | cons e r ih=>
  obtain⟨n,f,g⟩:=e
  match k with
  | 0=>simp[Ba]
  | k+1=>
   obtain⟨z,d,E⟩:=ih k (by simpa using h);rw[show (k+1)*3=k*3+1+1+1 from by omega];refine⟨by simpa[Ba] using z,by simpa[Ba] using d,by simpa[Ba] using E⟩
def I6(l:List Pu):∀u∈Ba l,u.oneCell'=true:=by
 induction l with
 | nil=>simp[Ba]
 | cons e r ih=>
  obtain⟨n,f,g⟩:=e;intro u hu;simp only[Ba,BQ]at hu;rcases hu with rfl|rfl|rfl|hu
  ·rfl
  ·rfl
  ·rfl
  ·exact ih u hu
end
section
open Go.RowKit
attribute [local go_sem ↓] Go.wp_at_zero Go.wp_at_succ
def DE:Nat->Nat->List UInt8->List Pu×Bool
 | 0,_,_=>([],true)
 | k+1,s,l=>if l.length<21 then ([],true) else
  if Cd (AW s (l.take 17))=(l.drop 17).take 4/\(l.headD 0).toNat<8 then
   ((((l.headD 0).toNat:Int),BM (l.drop 1),BM (l.drop 9)):: (DE k (AW s (l.take 17)) (l.drop 21)).1,(DE k (AW s (l.take 17)) (l.drop 21)).2)
  else ([],false)
def RT{k s:Nat}{l:List UInt8}(h:l.length<21):DE k s l=([],true):=by cases k<;>simp[DE,h]
def RW{k s:Nat}{b:UInt8}{d t r:List UInt8}(z:d.length=16)(E:t.length=4)(h:Cd (AW s (b::d))=t)(W:b.toNat<8):
 DE (k+1) s (b::d++t++r)=(((b.toNat:Int),BM d,BM (d.drop 8)):: (DE k (AW s (b::d)) r).1,(DE k (AW s (b::d)) r).2):=by
 have I:(b::d++t++r).take 17=b::d:=by simp[z]
 have Y:((b::d++t++r).drop 17).take 4=t:=by simp[z,E]
 have L:(b::d++t++r).drop 21=r:=by
  rw[LL,Ji (by simp[z,E])];simp[z,E]
 have O:BM ((b::d++t++r).drop 1)=BM d:=by
  have e:(b::d++t++r).drop 1=d++(t++r):=by simp
  unfold BM;rw[e,GW (by omega)]
 have H:BM ((b::d++t++r).drop 9)=BM (d.drop 8):=by
  have e:(b::d++t++r).drop 9=d.drop 8++(t++r):=by
   simp only[Fz,Cc,DJ];rw[LK (by omega)]
  unfold BM;rw[e,GW (by simp;omega)]
 simp only[DE,I,Y,L,O,H];rw[Ae (by simp[z,E];omega),Ai (by simpa using⟨h,W⟩)];rfl
def YD{k s:Nat}{b:UInt8}{d t r:List UInt8}(z:d.length=16)(E:t.length=4)(h:¬(Cd (AW s (b::d))=t/\b.toNat<8)):
 DE (k+1) s (b::d++t++r)=([],false):=by
 have H:(b::d++t++r).take 17=b::d:=by simp[z]
 have I:((b::d++t++r).drop 17).take 4=t:=by simp[z,E]
 simp only[DE,H,I];rw[Ae (by simp[z,E];omega),Ae (by simpa using h)]
def ZU{l:List UInt8}(h:21<=l.length):∃(b:UInt8) (d t r:List UInt8),l=b::d++t++r/\d.length=16/\t.length=4:=by
 cases l with
 | nil=>simp at h
 | cons b l=>
  simp at h;refine⟨b,l.take 16,(l.drop 16).take 4,l.drop 20,?_,by simp;omega,by simp;omega⟩;simp only[Fz,Cc,List.cons.injEq,true_and];rw[show l.drop 20=(l.drop 16).drop 4 by simp,DM,DM]
def A1H{l:List UInt8}(h:12<=l.length):∃(d t r:List UInt8),l=d++t++r/\d.length=8/\t.length=4:=by
 refine⟨l.take 8,(l.drop 8).take 4,l.drop 12,?_,by simp;omega,by simp;omega⟩;rw[Cc,show l.drop 12=(l.drop 8).drop 4 by simp,DM,DM]
def Ga(s:Nat)(ahead:Int)(l:List UInt8):List Pu×Int:=
 if l.length<12 then ([],0) else
 if Cd (AW s (l.take 8))=(l.drop 8).take 4/\BM l=ahead then
  (if (DE l.length (AW s (l.take 8)) (l.drop 12)).2=true then ((DE l.length (AW s (l.take 8)) (l.drop 12)).1,0) else ([],7))
 else ([],7)
def RX{s:Nat}{ahead:Int}{d t r:List UInt8}(h:d.length=8)(z:t.length=4):
 Ga s ahead (d++t++r)=if Cd (AW s d)=t/\BM d=ahead then (if (DE (r.length+12) (AW s d) r).2=true then ((DE (r.length+12) (AW s d) r).1,0) else ([],7)) else ([],7):=by
 have H:(d++t++r).take 8=d:=by simp[h]
 have O:((d++t++r).drop 8).take 4=t:=by simp[h,z]
 have I:(d++t++r).drop 12=r:=by
  rw[LL,Ji (by simp[h,z])];simp[h,z]
 have L:BM (d++t++r)=BM d:=by unfold BM;rw[Cc,GW (by omega)]
 have E:(d++t++r).length=r.length+12:=by simp[h,z];omega
 unfold Ga;rw[Ae (by simp[h,z];omega),H,O,I,L,E]
def AZ(w:World)(v:Value)(l:List Pu):Prop:=w.ownsRow 0 113 3 v l.length (Ba l)
def Ij:(Tryz.prog.info? 113).map (λi=>(i.zero,i.size,i.bytes))=some (some (.agg #[A0 0,A0 0,A0 0]),3,24):=by kernel_rfl
section
variable {w:World} {b B:Nat} {D:DS} {F:Nat->FC} {Ft:Nat->Prop} {n:Int}
def Gz(D:DS)(F:Nat->FC)(nm:List UInt8)(ahead:Int):List Pu×Int:=
 if (DQ D F ⟨nm.toArray⟩).2≠0 then ([],(DQ D F ⟨nm.toArray⟩).2) else Ga (AH nm) ahead (DQ D F ⟨nm.toArray⟩).1
def YG(w:World)(ahead:Int)(h:B3 w b D F Ft)(aK:∀k,Ft k->k<w.heap.size)(hn:CM n)(hL:Lets B w)(aJ:(DQ D F ⟨(BP 1 n).toArray⟩).1.length<=70368744177664):
 Af 149 #[A5 b,A0 n,A0 ahead] w λe w'=>∃v,e=.returned (.tuple #[v,A0 (Gz D F (BP 1 n) ahead).2])/\AZ w' v (Gz D F (BP 1 n) ahead).1/\(∀g,v.ownBlock=some g->w.heap.size<=g)/\A3 Ab w w':=by
 have cH:=A1 (Tn w b hn hL);generalize hnm:BP 1 n=nm at cH aJ ⊢;have aV:Hid (AH nm<4294967296):=Jt nm;have H:=A1 h;have b3:=A1 aK;obtain⟨R,hR⟩:∃R,Gz D F nm ahead=R:=⟨_,rfl⟩;rw[hR];unfold Gz at hR;obtain⟨al,aT⟩:∃al,(DQ D F ⟨nm.toArray⟩).1=al:=⟨_,rfl⟩;obtain⟨ae,bQ⟩:∃ae,(DQ D F ⟨nm.toArray⟩).2=ae:=⟨_,rfl⟩
 have cS:Hid (∀w1 lb,A3 Ab w w1->Bd w1 lb 237 (A5 b) ⟨nm.toArray⟩ (AH nm)->
  Af 166 #[A5 lb] w1 (Aj (.tuple #[.string ⟨al.toArray⟩,A0 ae]) λw'=>A3 Ab w1 w')):=λw1 lb k1 hf=>by
  have:=V4 hf (H.o.ay b3.o k1)
  rwa [aT,bQ]at this
 rw[aT,bQ]at hR;rw[aT]at aJ;generalize hs:AH nm=s0 at cH aV hR cS;have cM:=A1 hR;obtain⟨i0,hi,b4,cJ,cD⟩:=E9 Ij
 go_enter func149,ntmps149
 go_wp2_with (go_at_call 192;refine cH.m ?_;rintro e w1⟨lb,rfl,bS,bD,cO⟩;have cE:=A1 (cS.o w1 lb bD bS);have b0:=A1 bS;have b5:=A1 bD;have a9:=A1 cO);refine cE.m ?_;rintro e w2⟨rfl,bE⟩;have cN:=A1 (b0.o.aj bE (λh=>h));have aY:Hid (A3 Ab w w2):=b5.o.tr bE;have aB:Hid (∀x:Int,R=([],x)->∀w3,A3 Ab w w3->∃v,(Ending.returned (.tuple #[.slice none 0 0,A0 x]):Ending)=.returned (.tuple #[v,A0 R.2])/\AZ w3 v R.1/\(∀g,v.ownBlock=some g->w.heap.size<=g)/\A3 Ab w w3):=λx hx w3 h3=>by
  subst hx;exact⟨_,rfl,CL _ _ _ _,λg hg=>by simp[Value.ownBlock]at hg,h3⟩
 by_cases he:ae=0
 case neg=>
  have L:R=([],ae):=by rw[<-cM.o,Ai he]
  go_wp2;go_ret2;exact aB.o _ L _ aY.o
 case pos=>
 subst he;have E:(ByteArray.mk al.toArray).size=al.length:=by show al.toArray.size=_;simp
 by_cases aZ:al.length<12
 case pos=>
  have L:R=([],0):=by rw[<-cM.o,Ae (by simp)];unfold Ga;rw[Ai aZ]
  go_wp2;go_ret2;exact aB.o _ L _ aY.o
 case neg=>
 obtain⟨hd,t4,r,rfl,aF,z⟩:=A1H (l:=al) (by omega);have cP:R=if Cd (AW s0 hd)=t4/\BM hd=ahead then (if (DE (r.length+12) (AW s0 hd) r).2=true then ((DE (r.length+12) (AW s0 hd) r).1,0) else ([],7)) else ([],7):=by
  rw[<-cM.o,Ae (by simp),RX aF z]
 have aI:=A1 cP;have bV:=A1 (NI w2.drew lb 237 _ _ s0 hd t4 cN.o aV.o z (by omega));have e1:(ByteArray.mk (hd++t4++r).toArray).extract 0 12=⟨(hd++t4).toArray⟩:=by
  rw[extract_mk,Dq,GW (by simp[aF,z]),Er (by simp[aF,z])]
 obtain⟨tx,a6⟩:∃tx,ByteArray.mk (hd++t4++r).toArray=tx:=⟨_,rfl⟩;have bF:tx.extract 12 (r.length+12)=⟨r.toArray⟩:=by
  rw[<-a6,extract_mk]
  congr 2
  rw[LL,Ji (by simp[aF,z]),Et,show 12-(hd++t4).length=0 by simp[aF,z],Dq,Er (by omega)]
 have aR:(hd++t4++r).length=r.length+12:=by simp[aF,z];omega
 rw[a6]at e1 E ⊢;rw[aR]at E aJ aZ;have bO:(0:Int)<=(r.length:Int):=Gv _;generalize b9:r.length=rl at E aJ aZ bF bO;have aU:=A1 b9;go_wp2;refine BR (λ_=>True) 10
  (Br [0,1,2,3,4,5,6,7,8,9] [5]) trivial ?_
 iterate 5 (refine Bf ?_;(try simp only[An]))
 refine Bn λK hK=>?_;go_simp;refine bV.m ?_;rintro e w3⟨rfl,b6,cA⟩;refine hK _ _ trivial (λhS=>?_);have a4:=A1 b6;have aH:Hid (A3 Ab w w3):=aY.o.af.Aw cA λk hk aK=>by cases hk;have:=a9.o;omega
 (try simp only[An])
 iterate 4 (refine Bf ?_;(try simp only[An]))
 refine Bl ?_;simp only[BK,BJ];by_cases aA:Cd (AW s0 hd)=t4
 case neg=>
  have L:R=([],7):=by rw[aI.o,Ae (λh=>aA h.1)]
  have aQ:decide (Cd (AW s0 hd)=t4)=false:=D2 aA;go_wp2;go_ret2;exact aB.o _ L _ aH.o
 case pos=>
 have aQ:decide (Cd (AW s0 hd)=t4)=true:=CE aA;have aW:=A1 (Mt w3 hd (by omega));have cI:Hid (-9223372036854775808<=BM hd/\BM hd<=9223372036854775807):=by unfold Hid BM wrap64;omega
 generalize hih2:BM hd=ih at aW aI cI;obtain⟨s1,bL⟩:∃s1,AW s0 hd=s1:=⟨_,rfl⟩;have bC:Hid (s1<4294967296):=by rw[<-bL];exact Jq _ _ aV.o
 rw[bL]at aI a4 aQ aA ⊢;have bY:=A1 aA;rw[aQ];by_cases aE:ih=ahead
 case neg=>
  have L:R=([],7):=by rw[aI.o,Ae (λh=>aE h.2)]
  have bI:(ih !=ahead)=true:=by simpa using aE
  go_wp2_with (go_at_call 168;refine aW.m ?_;rintro e w4⟨rfl,rfl⟩);go_ret2;exact aB.o _ L _ aH.o
 case pos=>
 have aX:Hid (R=if (DE (rl+12) s1 r).2=true then ((DE (rl+12) s1 r).1,0) else ([],7)):=by
  have:=aI.o;rw[Ai ⟨bY.o,aE⟩]at this
  rwa [aU.o]at this
 generalize hP:DE (rl+12) s1 r=P at aX;have cY:=A1 hP;have bI:(ih !=ahead)=false:=by simpa using aE
 go_wp2_with (go_at_call 168;refine aW.m ?_;rintro e w4⟨rfl,rfl⟩);go_loopw [9,13] (λtv v wr=>∃(l:List UInt8) (k:Nat) (W:List Pu),tv=.string ⟨l.toArray⟩/\W.length*21+l.length<=rl/\Hid (∃s,s<4294967296/\Bd wr lb 237 (A5 b) ⟨nm.toArray⟩ s/\AZ wr v W/\(∀g,v.ownBlock=some g->w3.heap.size<=g)/\(A3 Ab w wr/\w3.heap.size<=wr.heap.size)/\l.length<=k/\P=(W++(DE k s l).1,(DE k s l).2))) (λtv _ _=>match tv with | .string x=>x.size|_=>0)
 case atStart=>exact⟨r,rl+12,[],rfl,by simp[aU.o],s1,bC.o,a4.o,CL _ _ _ _,λg hg=>by simp[Value.ownBlock]at hg,⟨aH.o,As _⟩,by have:=aU.o;omega,by rw[cY.o];simp⟩
 case round=>
  obtain⟨l,k,W,rfl,bH,hI⟩:=hrel;have E:(ByteArray.mk l.toArray).size=l.length:=by show l.toArray.size=_;simp
  by_cases a1:l.length<21
  case pos=>
   obtain⟨s,-,-,i3,i4,⟨i5,-⟩,-,i7⟩:=hI.o;rw[RT a1]at i7;simp only[FA]at i7;have bX:R=(W,0):=by
    have:=aX.o;rw[i7]at this;simpa using this
   subst bX;go_wp2;go_ret2;exact⟨_,rfl,i3,λg hg=>AR aH.o.Ao (i4 g hg),i5⟩
  case neg=>
   obtain⟨c,d,t,q,rfl,O,z⟩:=ZU (l:=l) (by omega);obtain⟨s,i1,i2,i3,i4,⟨i5,cB⟩,i6,i7⟩:=hI.o;obtain⟨k,rfl⟩:∃k',k=k'+1:=⟨k-1,by simp at i6;omega⟩;obtain⟨ap,cp,rfl,hcap1,a5,-⟩:=B9 i3;unfold maxLen at a5;have bV:=A1 (NI wr.drew lb 237 _ _ s (c::d) t i2 i1 z (by simp;omega));have e1:(ByteArray.mk (c::d++t++q).toArray).extract 0 21=⟨(c::d++t).toArray⟩:=by
    rw[extract_mk,Dq,GW (by simp[O,z]),Er (by simp[O,z])]
   (have aR:(c::d++t++q).length=q.length+21:=by simp[O,z];omega);obtain⟨ty,a7⟩:∃ty,ByteArray.mk (c::d++t++q).toArray=ty:=⟨_,rfl⟩;have e2:ty.extract 21 (q.length+21)=⟨q.toArray⟩:=by
    rw[<-a7,extract_mk]
    congr 2
    rw[LL,Ji (by simp[O,z]),Et,show 21-(c::d++t).length=0 by simp[O,z],Dq,Er (by omega)]
   rw[a7]at e1 E ⊢;rw[aR]at E bH a1 i6;have aM:=λh1 h2=>@RW k s c d t q O z h1 h2;have bK:=λh=>@YD k s c d t q O z h;generalize hRP:DE (k+1) s (c::d++t++q)=RP at i7 aM bK;have cC:=A1 aM;have bB:=A1 bK;have bA:=A1 i7;have H2:=A1 i2;have cT:=A1 i3;have bU:=A1 i4;have cU:=A1 i5;have bZ:=A1 cB;have cQ:=A1 i6;have cX:=A1 (λw5=>S6 w5 c d (by omega));obtain⟨s',bG⟩:∃s',AW s (c::d)=s':=⟨_,rfl⟩;(have bT:Hid (s'<4294967296):=by rw[<-bG];exact Jq _ _ i1);rw[bG]at bV cC bB;generalize cG:q.length=ql at E bH a1 cQ e2;have aP:=A1 cG;have hq0:=C2 ql;go_wp2;refine BR (λ_=>True) 10
    (Br [0,1,2,3,4,5,6,7,8,9] [5]) trivial ?_
   iterate 5 (refine Bf ?_;(try simp only[An]))
   refine Bn λK hK=>?_;go_simp;refine bV.m ?_;rintro e w5⟨rfl,b7,a3⟩;refine hK _ _ trivial (λhS=>?_);have cF:=A1 b7;have bJ:Hid (lb<w3.heap.size):=a4.o.lt;(have a0:Hid (A3 Ab w w5):=cU.o.af.Aw a3 λx hx aK=>by cases hx;have:=a9.o;omega);have bP:Hid (AZ w5 (.slice ap W.length cp) W):=Az cT.o λg hg=>a3.Ap g (AI cT.o hg) (λe=>by cases e;have:=bU.o _ hg;have:=bJ.o;omega);have b8:Hid (w3.heap.size<=w5.heap.size):=AR bZ.o a3.Ao
   (try simp only[An])
   iterate 4 (refine Bf ?_;(try simp only[An]))
   refine Bl ?_;simp only[BK,BJ];have aG:=A1 (cX.o w5);have aO:Hid (¬(Cd s'=t/\c.toNat<8)->R=([],7)):=λh=>by
    have h1:=bA.o;rw[bB.o h]at h1;have h2:=aX.o;rw[h1]at h2;simpa using h2
   obtain⟨x1,cL⟩:∃x1,BM d=x1:=⟨_,rfl⟩;obtain⟨x2,bW⟩:∃x2,BM (d.drop 8)=x2:=⟨_,rfl⟩;rw[cL,bW]at aG cC;have aL:Hid (∀I,A3 Ab w5 I->C8 (I.alloc (.cells #[A0 c.toNat,A0 x1,A0 x2] 113)) I.heap.size c.toNat x1 x2/\A3 Ab w5 (I.alloc (.cells #[A0 c.toNat,A0 x1,A0 x2] 113))):=λI Y=>
    ⟨BO I _,Y.ai _⟩
   by_cases aA:Cd s'=t
   case neg=>
    have L:=aO.o (λh=>aA h.1);rw[show decide (Cd s'=t)=false from D2 aA];go_wp2_with (go_at_call 176;refine aG.m ?_;rintro e I⟨rfl,Y⟩;obtain⟨b1,k7⟩:=aL.o I Y;have q0:=b1.c0;have q1:=b1.c1;have q2:=b1.c2;have a2:=A1 k7);go_ret2;exact aB.o _ L _ (a0.o.tr a2.o)
   case pos=>
   rw[show decide (Cd s'=t)=true from CE aA];by_cases aE:c.toNat<8
   case neg=>
    have L:=aO.o (λh=>aE h.2);rw[show decide (c.toNat<8)=false from D2 aE]at aG;go_wp2_with (go_at_call 176;refine aG.m ?_;rintro e I⟨rfl,Y⟩;obtain⟨b1,k7⟩:=aL.o I Y;have q0:=b1.c0;have q1:=b1.c1;have q2:=b1.c2;have a2:=A1 k7);go_ret2;exact aB.o _ L _ (a0.o.tr a2.o)
   case pos=>
    have bM:Hid (∀I,A3 Ab w5 I->
     (((I.alloc (.cells #[A0 c.toNat,A0 x1,A0 x2] 113)).alloc (.cells #[A0 c.toNat,A0 x1,A0 x2] 113)).ownsRow 0 113 3 (.slice ap W.length cp) W.length (Ba W))/\
     ∀w8 a8 aD,App ((I.alloc (.cells #[A0 c.toNat,A0 x1,A0 x2] 113)).alloc (.cells #[A0 c.toNat,A0 x1,A0 x2] 113)) w8 113 3 (.slice ap W.length cp) (.slice a8 (W.length+1) aD) (W.length+1) (Ba W++Ba [((c.toNat:Int),x1,x2)])->
      Bd w8 lb 237 (A5 b) ⟨nm.toArray⟩ s'/\AZ w8 (.slice a8 (W.length+1) aD) (W++[((c.toNat:Int),x1,x2)])/\(∀g,(Value.slice a8 (W.length+1) aD).ownBlock=some g->w3.heap.size<=g)/\A3 Ab w w8/\w3.heap.size<=w8.heap.size):=λI Y=>by
     have k9:A3 Ab w5 ((I.alloc (.cells #[A0 c.toNat,A0 x1,A0 x2] 113)).alloc (.cells #[A0 c.toNat,A0 x1,A0 x2] 113)):=(aL.o I Y).2.ai _;generalize ((I.alloc (.cells #[A0 c.toNat,A0 x1,A0 x2] 113)).alloc (.cells #[A0 c.toNat,A0 x1,A0 x2] 113))=w9 at k9 ⊢;refine⟨Az bP.o λg hg=>k9.Ap g (AI bP.o hg) (λh=>h),λw8 a8 aD hA=>?_⟩;have aS:=hA.Ak (S:=λk=>(Value.slice ap W.length cp).ownBlock=some k) λ_ h=>h;have bR:w3.heap.size<=w9.heap.size:=AR b8.o k9.Ao;refine⟨(cF.o.aj k9 (λh=>h)).aj aS (λhg=>by have:=bU.o _ hg;have:=bJ.o;omega),?_,?_,?_,?_⟩
     ·have:=hA.AB;unfold AZ;rw[IL];simpa using this
     ·intro g hg;rcases hA.Ck with h|h
      ·rw[h]at hg;exact bU.o g hg
      ·rw[h]at hg;cases hg;exact bR
     ·exact(a0.o.tr k9).Aw aS λx hx aK=>by have:=bU.o x hx;have:=aH.o.Ao;omega
     ·exact AR bR aS.Ao
    rw[show decide (c.toNat<8)=true from CE aE]at aG
    go_wp2_with (first
     | (go_at_call 176;refine aG.m ?_;rintro e I⟨rfl,Y⟩;obtain⟨b1,k7⟩:=aL.o I Y;have q0:=b1.c0;have q1:=b1.c1;have q2:=b1.c2;have b2:=A1 Y)
     | (at_builtin
        have aN:=A1 (bM.o I b2.o);have bN:=A1 (Src.bb (size:=3) (B:=I.heap.size+1) underlying97 (I.alloc (.cells #[A0 c.toNat,A0 x1,A0 x2] 113)) #[A0 c.toNat,A0 x1,A0 x2] 113 (by simp) 1 1 rfl (I6 [((c.toNat:Int),x1,x2)]));refine D5 rfl (.tmp 80) (.tmp 82) 97 97 rfl 113 i0 _ 3 24 underlying97 hi b4 cJ cD rfl (by decide) (.slice ap W.length cp) W.length (Ba W) (by rfl) aN.o.1 _ 1 _ (by rfl) bN.o (by omega) ?_;intro a8 aD w8 hA;have cV:=A1 (aN.o.2 w8 a8 aD hA)
        clear hA))
    go_roundw
    case rel=>
     obtain⟨r1,r2,r3,r4,r5⟩:=cV.o;refine⟨q,k,W++[((c.toNat:Int),x1,x2)],rfl,by have:=aP.o;simp;omega,s',bT.o,r1,r2,r3,⟨r4,r5⟩,by have:=cQ.o;have:=aP.o;omega,?_⟩;rw[bA.o,cC.o aA aE];simp
    case measure=>
     (have e:(ByteArray.mk q.toArray).size=q.length:=by show q.toArray.size=_;simp);have:=aP.o;simp only[e,E];omega
end
end
section
open Go.RowKit
structure PD where
 D:DS
 F:Nat->FC
def Io:List AO->Nat
 | []=>0
 | e::r=>max (e.2+1) (Io r)
def Ph{es:List AO}{f:Nat}(h:Dg f es):f<Io es:=by
 induction es with
 | nil=>obtain⟨e,d,_⟩:=h;cases d
 | cons x t ih=>
  obtain⟨e,d,rfl⟩:=h;unfold Io;rcases BQ.1 d with rfl|d
  ·omega
  ·have:=ih ⟨e,d,rfl⟩;omega
def K3:List (List AO)->Nat
 | []=>0
 | c::r=>max (Io c) (K3 r)
def A2Z{l:List (List AO)}{c:List AO}{f:Nat}(d:c∈l)(h:Dg f c):f<K3 l:=by
 induction l with
 | nil=>cases d
 | cons x t ih=>
  unfold K3;rcases BQ.1 d with rfl|d
  ·have:=Ph h;omega
  ·have:=ih d;omega
def DS.AU(D:DS):Nat:=max (Io D.A4) (max (Io D.AP) (K3 D.Av))
def DS.cz(D:DS):¬D.Au D.AU:=by
 intro h;have:D.AU<D.AU:=by
  rcases h with h|h|⟨c,d,h⟩
  ·have:=Ph h;unfold DS.AU at *;omega
  ·have:=Ph h;unfold DS.AU at *;omega
  ·have:=A2Z d h;unfold DS.AU at *;omega
 omega
abbrev Bs:=List UInt8
def A9(l:Bs):ByteArray:=⟨l.toArray⟩
def FY{a b:Bs}:A9 a=A9 b↔a=b:=by
 constructor
 ·intro h;have:=EK (λx=>x.data.toList) h;simpa[A9] using this
 ·rintro rfl;rfl
def Ge(b:ByteArray):A9 b.data.toList=b:=by simp[A9]
def PD.ak(P:PD)(nm:ByteArray):Int×PD:=((CT P.D nm P.D.AU).1,⟨(CT P.D nm P.D.AU).2,upd P.F P.D.AU ([],0)⟩)
def PD.an(P:PD)(nm:ByteArray)(l:Bs):Int×PD:=((Bp P.D P.F nm (A9 l)).1,⟨(Bp P.D P.F nm (A9 l)).2.1,(Bp P.D P.F nm (A9 l)).2.2⟩)
def PD.ae(P:PD)(nm:ByteArray):Int×PD:=((CG P.D P.F nm).1,⟨(CG P.D P.F nm).2.1,(CG P.D P.F nm).2.2⟩)
def PD.aJ(P:PD):Int×PD:=((DK P.D).1,⟨(DK P.D).2,P.F⟩)
def PD.aH(P:PD)(nm:ByteArray):Int×PD:=((Dh P.D nm).1,⟨(Dh P.D nm).2,P.F⟩)
def PD.aO(P:PD)(old nm:ByteArray):Int×PD:=((CV P.D old nm).1,⟨(CV P.D old nm).2,P.F⟩)
structure Fit (P:PD) (a c m:Nat):Prop where
 A4:P.D.A4.length<=a
 AP:P.D.AP.length<=a
 Fs:∀l∈P.D.Av,l.length<=a
 Ak:P.D.Av.length<=c
 B5:∀f,P.D.Au f->(P.F f).1.length<=m
 AG : -4611686018427387904<=P.D.n.AG/\P.D.n.AG<=9223372036854775807
 Bv:0<=P.D.n.Bv/\P.D.n.Bv<=9223372036854775807
def Fit.aa{P:PD}{a c m a' z m':Nat}(h:Fit P a c m)(d:a<=a')(L:c<=z)(E:m<=m'):Fit P a' z m':=
 ⟨AR h.A4 d,AR h.AP d,λl I=>AR (h.Fs l I) d,AR h.Ak L,λf H=>AR (h.B5 f H) E,h.AG,h.Bv⟩
def ND{F:Nat->FC}{m:Nat}:∀(es:List AO),(∀f,Dg f es->(F f).1.length<=m)->B6 F es<=es.length*m
 | [],_=>by simp[B6]
 | e::r,h=>by
  have h1:=h e.2 ⟨e,BC ..,rfl⟩;have h2:=ND r λf d=>h f (by obtain⟨x,E,z⟩:=d;exact⟨x,Bw _ E,z⟩);simp only[B6,Cx,HN,Vn];omega
def Fit.dM{P:PD}{a c m:Nat}(h:Fit P a c m):B6 P.F P.D.A4<=a*m:=
 AR (ND _ λf d=>h.B5 f (.inl d)) (Hv _ h.A4)
def UM(n:DN):(bg n).2.2.AG=n.AG/\(bg n).2.2.Bv=n.Bv:=by
 unfold bg;dsimp only
 split
 ·exact⟨rfl,rfl⟩
 ·split
  ·exact⟨rfl,rfl⟩
  ·split<;>exact⟨rfl,rfl⟩
def Fit.bK{P:PD}{a c m:Nat}(h:Fit P a c m):Fit ⟨{P.D with n:=(bg P.D.n).2.2},P.F⟩ a c m:=
 ⟨h.A4,h.AP,h.Fs,h.Ak,h.B5,by have:=(UM P.D.n).1;show _<=(Go.Proofs.YtodcnkbblippnaaGreatDoor.bg P.D.n).2.2.AG/\(Go.Proofs.YtodcnkbblippnaaGreatDoor.bg P.D.n).2.2.AG<=_;rw[this];exact h.AG,by have:=(UM P.D.n).2;show _<=(Go.Proofs.YtodcnkbblippnaaGreatDoor.bg P.D.n).2.2.Bv/\(Go.Proofs.YtodcnkbblippnaaGreatDoor.bg P.D.n).2.2.Bv<=_;rw[this];exact h.Bv⟩
def A1Q{es:List AO}{nm:ByteArray}(h:¬B4 es nm<0):(B4 es nm).toNat<es.length:=by
 have:=U9 es nm;omega
def Fit.ag{P:PD}{a c m a':Nat}(h:Fit P a c m){es:List AO}(I:es.length<=a')(L:a<=a')(H:∀f,Dg f es->(P.F f).1.length<=m):Fit ⟨{P.D with A4:=es,Av:=P.D.Av++[es],n:=(Go.Proofs.YtodcnkbblippnaaGreatDoor.bg P.D.n).2.2},P.F⟩ a' (c+1) m:=by
 have O:=h.bK;refine⟨I,AR h.AP L,λl z=>?_,?_,λf d=>?_,O.AG,O.Bv⟩
 ·rcases AV.1 z with z|z
  ·exact AR (h.Fs l z) L
  ·simp at z;subst z;exact I
 ·have:=h.Ak;simp;omega
 ·rcases d with d|d|⟨x,E,d⟩
  ·exact H f d
  ·exact h.B5 f (.inr (.inl d))
  ·rcases AV.1 E with E|E
   ·exact h.B5 f (.inr (.inr ⟨x,E,d⟩))
   ·simp at E;subst E;exact H f d
def Fit.ak{P:PD}{a c m:Nat}(h:Fit P a c m)(nm:ByteArray):Fit (P.ak nm).2 (a+1) (c+1) m:=by
 have z:Fit ⟨P.D,upd P.F P.D.AU ([],0)⟩ a c m:=⟨h.A4,h.AP,h.Fs,h.Ak,λf H=>by
  unfold upd;by_cases E:f=P.D.AU
  ·simp[E]
  ·simp only[E,C7];exact h.B5 f H,h.AG,h.Bv⟩
 unfold PD.ak CT;split
 ·exact z.aa (by omega) (by omega) (As _)
 ·dsimp only
  split
  ·refine z.ag (a':=a+1) ?_ (by omega) ?_
   ·have:=h.A4;simp;omega
   ·rintro f⟨x,d,rfl⟩;rcases AV.1 d with d|d
    ·exact z.B5 _ (.inl ⟨x,d,rfl⟩)
    ·simp at d;subst d;simp[upd]
  ·exact z.bK.aa (by omega) (by omega) (As _)
def Fit.cN{P:PD}{a c m:Nat}(h:Fit P a c m)(f:Nat)(x:FC)(E:x.1.length<=m):Fit ⟨P.D,Go.Proofs.YtodcnkbblippnaaGreatDoor.upd P.F f x⟩ a c m:=⟨h.A4,h.AP,h.Fs,h.Ak,λg z=>by
 unfold Go.Proofs.YtodcnkbblippnaaGreatDoor.upd;by_cases d:g=f
 ·simp[d];exact E
 ·simp only[d,C7];exact h.B5 g z,h.AG,h.Bv⟩
def Fit.dW{P:PD}{a c m:Nat}(h:Fit P a c m){f:Nat}(H:P.D.Au f)(l:Bs)(E e:Int):Fit ⟨(BB P.D P.F f (A9 l) E e).2.1,(BB P.D P.F f (A9 l) E e).2.2⟩ a c (m+l.length):=by
 have d:=h.aa (As a) (As c) (Vr m l.length);have hl:=h.B5 f H;have hu:∀k:Nat,((P.F f).1++(A9 l).data.toList.take k).length<=m+l.length:=λk=>by
  simp only[B1,BW,A9];omega
 unfold BB;split
 ·by_cases z:e=0
  ·simp only[z,Ch];have:=d.cN f ((P.F f).1++(A9 l).data.toList.take (G2 P.D P.F).toNat,(P.F f).2) (hu _);exact⟨this.A4,this.AP,this.Fs,this.Ak,this.B5,this.AG,this.Bv⟩
  ·simp only[z,C7];exact d.cN f _ (hu _)
 ·exact d.cN f _ (hu _)
def Fit.an{P:PD}{a c m:Nat}(h:Fit P a c m)(nm:ByteArray)(l:Bs):Fit (P.an nm l).2 a c (m+l.length):=by
 unfold PD.an Bp;cases hx:lookup P.D.A4 nm with
 | none=>exact h.aa (As _) (As _) (by omega)
 | some f=>
  have d:=G0 hx;dsimp only
  split
  ·exact h.bK.dW (P:=⟨{P.D with n:=(bg P.D.n).2.2},P.F⟩) d l _ _
  ·split
   ·exact h.bK.dW (P:=⟨{P.D with n:=(bg P.D.n).2.2},P.F⟩) d l _ _
   ·exact h.bK.aa (As _) (As _) (by omega)
def Fit.ae{P:PD}{a c m:Nat}(h:Fit P a c m)(nm:ByteArray):Fit (P.ae nm).2 a c m:=by
 unfold PD.ae CG;cases hx:lookup P.D.A4 nm with
 | none=>exact h
 | some f=>
  have d:=G0 hx;dsimp only
  split
  ·exact h.bK.cN (P:=⟨{P.D with n:=(bg P.D.n).2.2},P.F⟩) f _ (h.B5 f d)
  ·exact h.bK
def Fit.aJ{P:PD}{a c m:Nat}(h:Fit P a c m):Fit P.aJ.2 a c m:=by
 unfold PD.aJ DK;dsimp only
 split
 ·have z:=h.bK;refine⟨h.A4,h.A4,λl E=>(by cases E),Cq _,λf d=>h.B5 f ?_,z.AG,z.Bv⟩;rcases d with d|d|⟨x,H,_⟩
  ·exact .inl d
  ·exact .inl d
  ·cases H
 ·exact h.bK
def Fit.aH{P:PD}{a c m:Nat}(h:Fit P a c m)(nm:ByteArray):Fit (P.aH nm).2 a (c+1) m:=by
 unfold PD.aH Dh;split
 ·exact h.aa (As _) (by omega) (As _)
 ·rename_i d;have hl:=A1Q d;dsimp only
  split
  ·refine h.ag (a':=a) ?_ (As _) ?_
   ·have:=h.A4;simp;omega
   ·rintro f⟨x,d,rfl⟩;rcases AV.1 d with d|d
    ·exact h.B5 _ (.inl ⟨x,HQ d,rfl⟩)
    ·exact h.B5 _ (.inl ⟨x,LB d,rfl⟩)
  ·exact h.bK.aa (As _) (by omega) (As _)
def Yk(es:List AO)(i:Nat)(nm:ByteArray)(k:Nat):(Dm es i nm k).length<=k:=by
 induction k with
 | zero=>simp[Dm]
 | succ k ih=>
  simp only[Dm,B1];cases es[k]? with
  | none=>simp;omega
  | some e=>
   dsimp only
   split
   ·simp;omega
   ·simp;omega
def Fit.aO{P:PD}{a c m:Nat}(h:Fit P a c m)(old nm:ByteArray):Fit (P.aO old nm).2 (a+1) (c+1) m:=by
 unfold PD.aO CV;cases hx:lookup P.D.A4 old with
 | none=>exact h.aa (by omega) (by omega) (As _)
 | some f=>
  dsimp only
  split
  ·exact h.aa (by omega) (by omega) (As _)
  ·dsimp only
   split
   ·refine h.ag (a':=a+1) ?_ (by omega) ?_
    ·have h1:=h.A4;have h2:=Yk P.D.A4 (B4 P.D.A4 old).toNat nm P.D.A4.length;simp;omega
    ·rintro g⟨x,d,rfl⟩;rcases AV.1 d with d | d
     ·exact h.B5 _ (.inl ⟨x,Ma _ _ _ _ x d,rfl⟩)
     ·simp at d;subst d;exact h.B5 _ (G0 hx)
   ·exact h.bK.aa (by omega) (by omega) (As _)
end
section
open Go.RowKit
attribute [local go_sem ↓] Go.wp_at_zero Go.wp_at_succ
def Si:∀(m u d:Nat) (r:List UInt8),u<m->d*10 ^ Lib.nDigits u+u<18446744073709551616->Lib.parseUint10 d (Lib.decDigits u++r)=Lib.parseUint10 (d*10 ^ Lib.nDigits u+u) r
 | 0,u,d,r,h,_=>by omega
 | m+1,u,d,r,h,hb=>by
  have one:∀(a x:Nat) (r:List UInt8),x<10->a*10+x<18446744073709551616->Lib.parseUint10 a (UInt8.ofNat (48+x):: r)=Lib.parseUint10 (a*10+x) r:=λa x r hx ha=>by
   (have e:(UInt8.ofNat (48+x)).toNat=48+x:=by simp;omega);simp only[Lib.parseUint10,e];rw[Ai (by omega),Ae (by omega),Ae (by omega)]
   congr 1;omega
  by_cases z:u<10
  ·rw[Lib.decDigits_one z,Q6 z]at *;simp only[Fz,Et,Nat.pow_one];exact one d u r z (by simpa using hb)
  ·rw[VL z,K9]at *;have e:d*(10 ^ Lib.nDigits (u/10)*10)+u=(d*10 ^ Lib.nDigits (u/10)+u/10)*10+u % 10:=by
    rw[<-PW,HN];omega
   rw[e]at hb ⊢;have E:Lib.decDigits u=Lib.decDigits (u/10)++[UInt8.ofNat (48+u % 10)]:=by
    rw[Lib.decDigits,Pq z]
   rw[E,Cc,Si m (u/10) d _ (by omega) (by omega)];exact one _ _ r (by omega) hb
def Z7(c:Nat)(r:List UInt8):Lib.parseUint10 0 (List.replicate c 48++r)=Lib.parseUint10 0 r:=by
 induction c with
 | zero=>rfl
 | succ c ih=>simp only[Vt,Fz,Lib.parseUint10];exact ih
def Td(k:Nat):∀u,u<10 ^ k->1<=k->Lib.nDigits u<=k:=by
 induction k with
 | zero=>intro u _ h;omega
 | succ k ih=>
  intro u hu _;by_cases h:u<10
  ·rw[Q6 h];omega
  ·rw[VL h];rw[K9]at hu;cases k with
   | zero=>simp at hu;omega
   | succ k=>have:=ih (u/10) (by omega) (by omega);omega
def Mr{n:Int}(h:0<=n):Lib.itoa n=Lib.decDigits n.toNat:=by unfold Lib.itoa;rw[Ae (by omega)]
def HH{n:Int}(d:0<=n)(h1:n<=4611686018427387904):CM n:=by
 refine⟨d,by omega,?_⟩;rw[Mr d,VM];exact Td 19 _ (by omega) (by omega)
def RB(c:Nat):Lib.repeatL [48] c=List.replicate c 48:=by
 induction c with
 | zero=>rfl
 | succ c ih=>simp[Lib.repeatL,ih,List.replicate_succ]
def A17(u:Nat):∃b r,Lib.decDigits u=b::r/\48<=b.toNat/\b.toNat<=57:=by
 induction u using Nat.strongRecOn with
 | ind u ih=>
  by_cases h:u<10
  ·exact⟨_,_,Lib.decDigits_one h,by simp;omega,by simp;omega⟩
  ·obtain⟨b,r,z,d,E⟩:=ih (u/10) (by omega);refine⟨b,r++[UInt8.ofNat (48+u % 10)],?_,d,E⟩;rw[Lib.decDigits,Pq h,z];rfl
def A3k{n:Int}(H:0<=n)(h1:n<=9223372036854775807)(c:Nat):Lib.atoiAll (Lib.repeatL [48] c++Lib.itoa n)=.ok n:=by
 rw[RB,Mr H];obtain⟨b,r,h,hb1,hb2⟩:=A17 n.toNat;have d:Lib.parseMag (List.replicate c 48++Lib.decDigits n.toNat)=.ok n.toNat:=by
  unfold Lib.parseMag;rw[Ae (by rw[h];simp),Z7];have:=Si (n.toNat+1) n.toNat 0 [] (by omega) (by omega);rw[FA]at this;rw[this];simp[Lib.parseUint10]
 have I:∃b r,List.replicate c 48++Lib.decDigits n.toNat=b::r/\b.toNat≠43/\b.toNat≠45:=by
  cases c with
  | zero=>exact⟨b,r,by simpa using h,by omega,by omega⟩
  | succ c=>exact⟨48,List.replicate c 48++Lib.decDigits n.toNat,by simp[List.replicate_succ],by decide,by decide⟩
 obtain⟨b2,r2,e,z,E⟩:=I;rw[e]at d ⊢;rw[Lib.atoiAll_plain _ _ z E,d];unfold Lib.signless;dsimp only
 rw[Ae (by omega)]
 congr 1
 omega
def U0(a b:List UInt8):Lib.hasPrefix (a++b) a=true:=by
 unfold Lib.hasPrefix;simp
def WH(lt:List UInt8)(n:Int):Lib.trimPrefix (El lt n) lt=Lib.repeatL [48] (19-(Lib.itoa n).length)++Lib.itoa n:=by
 unfold Lib.trimPrefix El;rw[Cc,Ai (U0 _ _),VG]
def E7(lt nm:List UInt8):Option Int:=match Lib.atoiAll (Lib.trimPrefix nm lt) with
 | .ok v=>if 0<v/\v<=4611686018427387904/\El lt v=nm then some v else none
 | _=>none
def Ml(lt:List UInt8){n:Int}(h:0<n)(d:n<=4611686018427387904):E7 lt (El lt n)=some n:=by
 unfold E7;rw[WH,A3k (by omega) (by omega)];dsimp only
 rw[Ai ⟨h,d,rfl⟩]
def Ah(n:Int):List UInt8:=BP 1 n
def AJ(n:Int):List UInt8:=BP 2 n
def AL:List UInt8:=[105]
def Bo:List UInt8:=[100]
def isNum(n:Int):Bool:=decide (1<=n/\n<=4611686018427387904)
def Ic(nm:List UInt8):Int×Int:=if nm=Bo then (4,0) else (0,0)
def H6(nm:List UInt8):Int×Int:=if nm=AL then (3,0) else Ic nm
def H7(nm:List UInt8):Int×Int:=match E7 [115] nm with
 | some v=>(2,v)
 | none=>H6 nm
def Bg(nm:List UInt8):Int×Int:=match E7 [108] nm with
 | some v=>(1,v)
 | none=>H7 nm
def FZ(nm:List UInt8)(k:Nat):Int×Int:=if k=1 then Bg nm else if k=2 then H7 nm else if k=3 then H6 nm else if k=4 then Ic nm else (0,0)
def Qf(s:List UInt8)(v:Int):Prop:=Lib.atoiAll s=.ok v\/(∀x,Lib.atoiAll s≠.ok x)/\isNum v=false/\(s=[]->v=0)
def UP:∀x,Lib.atoiAll []≠.ok x:=by
 intro x;have:Lib.atoiAll []=.syntax:=by decide +kernel
 rw[this];intro h;cases h
def QG(l:List UInt8):Lib.trimPrefix l l=[]:=by
 unfold Lib.trimPrefix;have:Lib.hasPrefix l l=true:=by simpa using U0 l []
 rw[Ai this];simp
def T4{lt nm:List UInt8}{v:Int}(h:Qf (Lib.trimPrefix nm lt) v):E7 lt nm=if isNum v=true/\El lt v=nm then some v else none:=by
 unfold E7;rcases h with h|⟨h,z,-⟩
 ·rw[h];dsimp only
  by_cases d:0<v/\v<=4611686018427387904/\El lt v=nm
  ·rw[Ai d,Ai ⟨by unfold isNum;exact CE ⟨by omega,d.2.1⟩,d.2.2⟩]
  ·rw[Ae d,Ae];rintro⟨E,z⟩;unfold isNum at E;have:=I8 E;exact d ⟨by omega,this.2,z⟩
 ·rw[z,Ae (by simp)];cases hx:Lib.atoiAll (Lib.trimPrefix nm lt) with
  | ok x=>exact absurd hx (h x)
  | «syntax»=>rfl
  | range=>rfl
def T9(nm:List UInt8):FZ nm 1=Bg nm:=by simp[FZ]
def T8(nm:List UInt8):FZ nm 2=H7 nm:=by simp[FZ]
def T7(nm:List UInt8):FZ nm 3=H6 nm:=by simp[FZ]
def T6(nm:List UInt8):FZ nm 4=Ic nm:=by simp[FZ]
def T5(nm:List UInt8):FZ nm 5=(0,0):=by simp[FZ]
def ZH{nm:List UInt8}{k:Nat}{v:Int}(hk:1<=k/\k<=4)(h:Qf (Lib.trimPrefix nm (D9 k)) v):
 FZ nm k=if isNum v=decide ((k:Int)=1\/(k:Int)=2)/\BP k v=nm then ((k:Int),v) else FZ nm (k+1):=by
 have L:k=1\/k=2\/k=3\/k=4:=by omega
 rcases L with rfl|rfl|rfl|rfl
 ·have e:BP ((1:Nat):Int) v=El [108] v:=rfl;have z:decide (((1:Nat):Int)=1\/((1:Nat):Int)=2)=true:=by decide
  have:=T4 h;rw[show D9 ((1:Nat):Int)=[108] from rfl]at this;rw[T9,T8,e,z,Bg,this];by_cases d:isNum v=true/\El [108] v=nm
  ·rw[Ai d,Ai d];rfl
  ·rw[Ae d,Ae d]
 ·have e:BP ((2:Nat):Int) v=El [115] v:=rfl;have z:decide (((2:Nat):Int)=1\/((2:Nat):Int)=2)=true:=by decide
  have:=T4 h;rw[show D9 ((2:Nat):Int)=[115] from rfl]at this;rw[T8,T7,e,z,H7,this];by_cases d:isNum v=true/\El [115] v=nm
  ·rw[Ai d,Ai d];rfl
  ·rw[Ae d,Ae d]
 ·have e:BP ((3:Nat):Int) v=AL:=rfl;have z:decide (((3:Nat):Int)=1\/((3:Nat):Int)=2)=false:=by decide
  rw[T7,T6,e,z,H6];by_cases d:nm=AL
  ·subst d;have E:isNum v=false/\v=0:=by
    rw[show D9 ((3:Nat):Int)=AL from rfl,QG]at h;rcases h with h|⟨_,I,H⟩
    ·exact absurd h (UP v)
    ·exact⟨I,H rfl⟩
   rw[Ai rfl,Ai ⟨E.1,rfl⟩,E.2];rfl
  ·rw[Ae d,Ae (λh=>d h.2.symm)]
 ·have e:BP ((4:Nat):Int) v=Bo:=rfl;have z:decide (((4:Nat):Int)=1\/((4:Nat):Int)=2)=false:=by decide
  rw[T6,T5,e,z,Ic];by_cases d:nm=Bo
  ·subst d;have E:isNum v=false/\v=0:=by
    rw[show D9 ((4:Nat):Int)=Bo from rfl,QG]at h;rcases h with h|⟨_,I,H⟩
    ·exact absurd h (UP v)
    ·exact⟨I,H rfl⟩
   rw[Ai rfl,Ai ⟨E.1,rfl⟩,E.2];rfl
  ·rw[Ae d,Ae (λh=>d h.2.symm)]
end
end Go.Proofs.YtodcnkbblippnaaGreatDoor
