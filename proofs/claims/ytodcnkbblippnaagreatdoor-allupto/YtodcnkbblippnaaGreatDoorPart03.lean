/- Part 3 of a proof: walks of the program. -/
import Derived.Lib.AppendZeros
import Derived.Lib.Overlaps
import Derived.Lib.SliceRun
import Derived.Laws.BitsAllLaws
import Derived.Laws.BytesString
import Derived.Handy
import Derived.BigQuiet
import Derived.Deep.QuietTactic
import Derived.StillTailTactics
import Derived.StillTactics
import Derived.Test.YtodcnkbblippnaaGreatDoorPart02
namespace Go.Proofs.YtodcnkbblippnaaGreatDoor
set_option maxRecDepth 100000
set_option maxHeartbeats 32000000
set_option linter.defProp false
open Go.Proofs.Tryz
section
open Go.RowKit
section
variable{P:Program}
def MG(w:gC)(dT sT ty elem:TypeId)(i:TypeInfo)(size:Nat)(g o z L:Nat)(a:Addr)(h E k:Nat)(d:Array gD)(t:TypeId)(cs:gF gD)(hu:P.underlying dT=some (.slice elem))(hi:P.info? elem=some i)(I:i.size=size)(hg:w.heap[g]?=some (.cells d t (0,0)))(hn:Nat.min h z=k)(aA:cs.length=k*size)(Y:∀j v,cs[j]?=some v->w.cell? (a.add j)=some v)(X:o+cs.length<=d.size)(h1:∀v∈cs,v.oneCell'=true):
 (Builtin.copy_ #[dT,sT] ty #[.slice (some (A9 g o)) z L,.slice (some a) h E]).run P w =
  .ok (goInt k) (w.setRow g (d.toList.take o++cs++d.toList.drop (o+cs.length)).toArray):=by
 subst I;have hf:=RZ (P:=P) w i.size k a h E cs aA Y;have O:=run_storeCells_at P g o t cs 0 d w hg (by simpa using X) h1;simp only[Qv]at O;simp[Builtin.copy_,run_underlying hu,Builtin.lenOf,sizeOf,typeInfo,hi,hn,hf,O]
def YL(w:gC)(t tn ty e:TypeId)(i:TypeInfo)(z:gD)(kn:IntKind)(ht:P.underlying t=some (.slice e))(aA:P.underlying tn=some (.int kn))(hi:P.info? e=some i)(hz:i.zero=some z)(hs0:0<i.size)(h:Option Addr)(len cap:Nat)(d:gF gD)(X:(Builtin.firstCells i.size len (.slice h len cap)).run P w.drew=.ok d.toArray w.drew)(n:Nat)(h0:0<n)(hgrow:cap<len+n)(h63:((len+n:Nat):Int)<=9223372036854775807)(h48:n*i.bytes<=281474976710656)(hcap:Builtin.nextslicecap (len+n) cap*i.bytes<=281474976710656):
 (Builtin.append_ #[t,tn] ty #[.slice h len cap,.int .i64 n]).run P w =
  .ok (.slice (some ⟨w.heap.size,0,none⟩) (len+n) (grownCap w (len+n) cap e)) (w.drew.alloc (.cells (d.toArray++Builtin.zeroCells z.cells n++Builtin.zeroCells z.cells (grownCap w (len+n) cap e-(len+n))) e)):=by
 have hw:IntKind.i64.wrap (n:Int)=n:=by rw[K8];omega
 have Y:¬((n:Int)<0):=iC
 have O:¬(281474976710656<(n:Int)*(i.bytes:Int)):=by rw[<-Int.natCast_mul];omega
 have aB:¬(n*i.size=0):=Nat.mul_ne_zero iC iC;have E:¬(len+n<=cap):=iC
 have I:¬(281474976710656<Builtin.nextslicecap (len+n) cap*i.bytes):=iC
 have L:¬(9223372036854775807<(len:Int)+(n:Int)):=iC
 simp[Builtin.append_,run_underlying ht,run_underlying aA,sizeOf,typeInfo,zeroValue,hi,hz,asInt,asIntOf,hw,Y,aB,O,E,I,L,Question.forced,X,newRow,grownCap]
def T9{w:gC}{z e size n g cap:Nat}{xs:gF gD}(h:w.ownsRow z e size (.slice (some ⟨g,0,none⟩) n cap) n xs):∃d:Array gD,w.heap[g]?=some (.cells d e (0,0))/\d.size=cap*size/\d.toList.take (n*size)=xs/\n<=cap/\cap<=maxLen:=by
 rcases h.2 with⟨I,_⟩|⟨g',cap',d,I,_,Y,L,E,O,X⟩
 ·cases I
 ·cases I;exact⟨d,Y,O,X,L,E⟩
end
def Kf(s:Nat):Nat:=(s/2) ^^^ (3988292384*(s &&& 1))
def Ke(s:Nat):Nat->Nat
 | 0=>s
 | n+1=>Kf (Ke s n)
def MD(s:Nat)(b:UInt8):Nat:=Ke (s ^^^ b.toNat) 8
def AY(s:Nat)(bs:gF UInt8):Nat:=bs.foldl MD s
def VM(s:Nat):s &&& 1<=1:=Nat.and_le_right
def RB(s:Nat)(h:s<4294967296):Kf s<4294967296:=by
 unfold Kf;have:=VM s;exact W5 (n:=32) iC iC
def XZ(s n:Nat)(h:s<4294967296):Ke s n<4294967296:=by
 induction n with
 | zero=>exact h
 | succ n ih=>exact RB _ ih
def XY(s:Nat)(b:UInt8)(h:s<4294967296):MD s b<4294967296:=by
 have:=b.toNat_lt;exact XZ _ _ (W5 (n:=32) iC iC)
def Kd(s:Nat)(bs:gF UInt8)(h:s<4294967296):AY s bs<4294967296:=by
 unfold AY
 induction bs generalizing s with
 | nil=>exact h
 | cons b t ih=>exact ih _ (XY s b h)
def XV(s:Nat)(a b:gF UInt8):AY s (a++b)=AY (AY s a) b:=NV
def XU(s:Nat)(bs:gF UInt8)(k:Nat)(d:k<bs.length):AY s (bs.take (k+1))=MD (AY s (bs.take k)) (bs[k]'d):=by
 rw[Ds d,XV];rfl
def A4p(w:gC)(s:Nat)(text:gE)(hs:s<4294967296)(hl:text.size<=9223372036854775807):
 Ag 165 #[.int .u32 s,.string text] w (Aj (.int .u32 (AY s text.data.toList)) λw'=>w=w'):=by
 go_enter func165,ntmps165
 go_wp2;go_loop [0,8] (λc i=>∃k x:Nat,k<=text.size/\i=A0 k/\c=.int .u32 x/\x<4294967296/\Hid (x=AY s (text.data.toList.take k))) (λ_ i=>text.size-(intOf i).toNat)
 ·exact⟨0,s,Cb _,rfl,rfl,hs,rfl⟩
 ·obtain⟨k,x,hk,rfl,rfl,hx,L⟩:=hrel;by_cases d:k<text.size
  ·have hb:=(text[k]'d).toNat_lt;have e0:bits .xor .u32 (x:Int) (((text[k]'d).toNat:Int) % 4294967296)=((x ^^^ (text[k]'d).toNat:Nat):Int):=by
    rw[show (((text[k]'d).toNat:Int) % 4294967296)=(((text[k]'d).toNat:Nat):Int) by omega];exact u32_xor_nat _ _ hx iC
   have hy:x ^^^ (text[k]'d).toNat<4294967296:=W5 (n:=32) iC iC;have I:Hid (Ke (x ^^^ (text[k]'d).toNat) 8=AY s (text.data.toList.take (k+1))):=by
    unfold Hid;rw[XU s _ k (by simpa using d),<-L.o];simp[MD];rfl
   generalize O:x ^^^ (text[k]'d).toNat=y at e0 hy I;clear O hb L;go_wp2;clear e0;go_loop [0,17] (λc i=>∃j z:Nat,j<=8/\i=A0 j/\c=.int .u32 z/\z<4294967296/\Hid (z=Ke y j)) (λ_ i=>8-(intOf i).toNat)
   ·exact⟨0,y,Cb _,rfl,rfl,hy,rfl⟩
   ·obtain⟨j,z,hj,rfl,rfl,X,E⟩:=hrel;by_cases hj8:j<8
    ·have e1:bits .xor .u32 ((z:Int)/2) (3988292384*bits .and .u32 (z:Int) 1 % 4294967296)=((Kf z:Nat):Int):=by
      rw[show (1:Int)=((1:Nat):Int) from rfl,u32_and_nat z 1 X iC];have:=VM z;(have e2:(3988292384:Int)*((z &&& 1:Nat):Int) % 4294967296=((3988292384*(z &&& 1):Nat):Int):=iC);rw[e2,show ((z:Int)/2)=((z/2:Nat):Int) by omega];exact u32_xor_nat _ _ iC iC
     have Y:=RB z X;(have h:Hid (Kf z=Ke y (j+1)):=by unfold Hid;rw[E.o];rfl);go_wp2;exact⟨⟨j+1,Kf z,iC,by go_num,rfl,Y,h⟩,by simp[intOf];omega⟩
    ·(obtain rfl:j=8:=iC);(have h:Hid (z=AY s (text.data.toList.take (k+1))):=by unfold Hid;rw[E.o];exact I.o);go_wp2;exact⟨⟨k+1,z,iC,by go_num,rfl,X,h⟩,by simp[intOf];omega⟩
  ·have h:Hid (x=AY s text.data.toList):=by
    unfold Hid;rw[L.o,Eu];simpa using by omega
   go_wp2;go_ret;rw[h.o];exact⟨rfl,rfl⟩
end
section
open Go.RowKit
attribute [local go_sem ↓] Go.wp_at_zero Go.wp_at_succ
def EJ(t ld A8:Int):Bool:=decide (t+ld>A8)
def Ay(x:Int):Prop:=-9223372036854775808<=x/\x<=9223372036854775807
def VO(t ld A8:Int)(w:gC)(d:Ay t)(z:1<=ld/\ld<=4611686018427387904)(E:Ay A8)(hg:A8<=9223372036854775807):
 Ag 123 #[A0 t,A0 ld,A0 A8] w (Aj (.bool (EJ t ld A8)) λw'=>w=w'):=by
 obtain⟨t1,t2⟩:=d;obtain⟨l1,l2⟩:=z;obtain⟨c1,c2⟩:=E;by_cases h:9223372036854775807-ld<t
 ·have q:Hid (EJ t ld A8=true):=by unfold Hid EJ;simp;omega
  go_enter func123,ntmps123
  go_wp2;go_ret;rw[q.o];exact⟨rfl,rfl⟩
 ·have h':t<=9223372036854775807-ld:=iC
  have hw:t+ld<=9223372036854775807:=iC
  by_cases h2:A8<t+ld
  ·(have q:Hid (EJ t ld A8=true):=by unfold Hid EJ;simp;omega)
   go_enter func123,ntmps123
   go_wp2;go_ret;rw[q.o];exact⟨rfl,rfl⟩
  ·(have q:Hid (EJ t ld A8=false):=by unfold Hid EJ;simp;omega)
   go_enter func123,ntmps123
   go_wp2;go_ret;rw[q.o];exact⟨rfl,rfl⟩
def DL(A8 d:Int):Int:=if A8>9223372036854775807-d then 9223372036854775807 else A8+d
def Rl(A8 d:Int)(w:gC)(E:Ay A8)(z:0<=d/\d<=9223372036854775807):
 Ag 44 #[A0 A8,A0 d] w (Aj (A0 (DL A8 d)) λw'=>w=w'):=by
 obtain⟨c1,c2⟩:=E;obtain⟨t1,t2⟩:=z;by_cases h:9223372036854775807-d<A8
 ·have q:Hid (DL A8 d=9223372036854775807):=by unfold Hid DL;rw[Ai h]
  go_enter func44,ntmps44
  go_wp2;go_ret;rw[q.o];exact⟨rfl,rfl⟩
 ·have q:Hid (DL A8 d=A8+d):=by unfold Hid DL;rw[Af h]
  have h3 : -9223372036854775808<=A8+d:=iC
  go_enter func44,ntmps44
  go_wp2;go_ret;rw[q.o];exact⟨rfl,rfl⟩
def FM(s:Int):Bool:=decide (0<=s)&&decide (s<8)
def MM(s:Int)(w:gC):Ag 91 #[A0 s] w (Aj (.bool (FM s)) λw'=>w=w'):=by
 by_cases h:0<=s
 ·by_cases d:s<8
  ·(have q:Hid (FM s=true):=by unfold Hid FM;simp[h,d])
   go_enter func91,ntmps91
   go_wp2;go_ret;rw[q.o];exact⟨rfl,rfl⟩
  ·(have q:Hid (FM s=false):=by unfold Hid FM;simp[d])
   go_enter func91,ntmps91
   go_wp2;go_ret;rw[q.o];exact⟨rfl,rfl⟩
 ·have q:Hid (FM s=false):=by unfold Hid FM;simp[h]
  go_enter func91,ntmps91
  go_wp2;go_ret;rw[q.o];exact⟨rfl,rfl⟩
end
section
open Go.RowKit
def extract_mk(l:gF UInt8)(i j:Nat):(ByteArray.mk l.toArray).extract i j=⟨((l.drop i).take (j-i)).toArray⟩:=by
 apply ByteArray.ext;simp[ByteArray.data_extract]
def KJ(a b:gF UInt8):(ByteArray.mk a.toArray)++(ByteArray.mk b.toArray)=⟨(a++b).toArray⟩:=by
 apply ByteArray.ext;simp[ByteArray.data_append]
def Fk:gF UInt8->Nat
 | []=>0
 | b::t=>b.toNat+256*Fk t
def A04(a b:gF UInt8):Fk (a++b)=Fk a+256 ^ a.length*Fk b:=by
 induction a with
 | nil=>simp[Fk]
 | cons c t ih=>simp only[Ga,Fk,ih,CA,KO];rw[Nat.mul_add,<-Qs,Ma (256 ^ t.length) 256];omega
def A02(bs:gF UInt8)(k:Nat)(d:k<bs.length):Fk (bs.take (k+1))=Fk (bs.take k)+(bs[k]'d).toNat*256 ^ k:=by
 rw[Ds d,A04];simp[Fk,Nat.min_eq_left (Nat.le_of_lt d),Nat.mul_comm]
def A1w(w:gC)(text:gE)(hl:8<=text.size/\text.size<=9223372036854775807):
 Ag 168 #[.string text] w (Aj (A0 (wrap64 (Fk (text.data.toList.take 8):Nat))) λw'=>w=w'):=by
 obtain⟨hl1,hl2⟩:=hl
 go_enter func168,ntmps168
 go_wp2;go_loop [3,5] (λc i=>∃k x:Nat,k<=8/\i=A0 k/\c=.int .u64 x/\x<18446744073709551616/\Hid (x<256 ^ k)/\Hid (x=Fk (text.data.toList.take k))) (λ_ i=>8-(intOf i).toNat)
 ·exact⟨0,0,Cb _,rfl,rfl,iC,(by unfold Hid;decide),rfl⟩
 ·obtain⟨k,x,hk,rfl,rfl,hx,I,Y⟩:=hrel;by_cases hlt:k<8
  ·have d:k<text.size:=iC;have hb:=(text[k]'d).toNat_lt;have hb0:=hb;have h:Hid (x+(text[k]'d).toNat*256 ^ k=Fk (text.data.toList.take (k+1))):=by
    unfold Hid;rw[A02 _ k (by simpa using d),<-Y.o];rfl
   generalize E:(text[k]'d).toNat=b at hb h;obtain⟨y,L,z,e1⟩:∃y,y=x+b*256 ^ k/\y<256 ^ (k+1)/\bits .or .u64 (x:Int) (IntKind.u64.wrap (((text[k]'d).toNat:Int)*2 ^ (8*k)))=((y:Nat):Int):=by
    have h1:=I.o;(have O:(256:Nat) ^ k=2 ^ (8*k):=by rw[Nat.pow_mul]);have h3:b*256 ^ k<=255*256 ^ k:=Ih _ iC;have h5:(256:Nat) ^ (k+1)<=256 ^ 8:=Nat.pow_le_pow_right iC iC;refine⟨_,rfl,iC,?_⟩;rw[E,IntKind.wrap_u64,show ((b:Int)*2 ^ (8*k))=((b*2 ^ (8*k):Nat):Int) by push_cast;rfl];rw[<-O,show ((b*256 ^ k:Nat):Int) % 18446744073709551616=((b*256 ^ k:Nat):Int) by omega];rw[u64_or_nat _ _ hx iC]
    congr 1
    have h7:=Nat.shiftLeft_add_eq_or_of_lt (i:=8*k) (b:=x) (by rw[<-O];exact h1) b;rw[Nat.shiftLeft_eq,<-O]at h7;rw[Nat.or_comm,<-h7];omega
   have X:y<18446744073709551616:=by
    have h5:(256:Nat) ^ (k+1)<=256 ^ 8:=Nat.pow_le_pow_right iC iC;omega
   (have aB:Hid (y=Fk (text.data.toList.take (k+1))):=by unfold Hid;rw[L];exact h.o);have aA:=A1 <| z;clear L E z h Y I;go_wp2;exact⟨⟨k+1,y,iC,by go_num,rfl,X,aA,aB⟩,by simp[intOf];omega⟩
  ·(obtain rfl:k=8:=iC);go_wp2;go_ret;rw[Y.o];exact⟨rfl,rfl⟩
def Ho(n:Nat)(k:Nat):gF UInt8:=(List.range k).map λi=>UInt8.ofNat (n/256 ^ i)
def A06(n k:Nat):(Ho n k).length=k:=by simp[Ho]
def A05(n k:Nat):Ho n (k+1)=UInt8.ofNat n::Ho (n/256) k:=by
 simp only[Ho,List.range_succ_eq_map,H4,Wk,Nat.pow_zero,Nat.div_one]
 congr 1
 apply NR;intro i _;simp only[Function.comp,Nat.succ_eq_add_one,KO,Nat.div_div_eq_div_mul];rw[Ma (256 ^ i) 256]
def A03(n k:Nat):Fk (Ho n k)=n % 256 ^ k:=by
 induction k generalizing n with
 | zero=>simp[Ho,Fk,Nat.mod_one]
 | succ k ih=>
  rw[A05,Fk,ih,KO,Ma (256 ^ k) 256,Nat.mod_mul];simp
def Fo(n:Int):Nat:=(n % 18446744073709551616).toNat
def A3N(n:Int):Fo n<18446744073709551616:=by unfold Fo;omega
def Vv(n:Int):n % 18446744073709551616=(Fo n:Int):=by unfold Fo;omega
def AQ(n:Int):gF UInt8:=Ho (Fo n) 8
def CT(n:Int):(AQ n).length=8:=A06 _ _
def WU(n:Int)(h : -9223372036854775808<=n/\n<=9223372036854775807):wrap64 (Fk (AQ n):Nat)=n:=by
 have d:Fk (AQ n)=Fo n:=by
  unfold AQ;rw[A03];have:=A3N n;have z:(256:Nat) ^ 8=18446744073709551616:=iF
  rw[z];omega
 rw[d];have:=Vv n;unfold wrap64;omega
def Jd(n:Nat)(k:Nat):gF Value:=Et (Ho n k)++List.replicate (8-k) (.int .u8 0)
def LL(w:gC)(n:Int)(hn : -9223372036854775808<=n/\n<=9223372036854775807):
 Ag 239 #[A0 n] w (Aj (.string ⟨(AQ n).toArray⟩) λw'=>A4 Aa w w'):=by
 obtain⟨n1,n2⟩:=hn;have eu:IntKind.u64.wrap n=(Fo n:Int):=by rw[IntKind.wrap_u64];exact Vv n
 go_enter func239,ntmps239
 go_wp2;go_loopw [5] (λi wr=>∃k:Nat,k<=8/\i=A0 k/\Hid (A4 Aa w wr)/\Hid (wr.heap[w.heap.size]?=some (.cells (Jd (Fo n) k).toArray 318 (0,0)))) (λi _=>8-(intOf i).toNat)
 ·exact⟨0,Cb _,rfl,(A4.C _ _).ai _,by unfold Hid;show (w.heap.push _)[w.heap.size]?=_;rw[Jp];rfl⟩
 ·obtain⟨k,hk,rfl,Y,I⟩:=hrel;by_cases hlt:k<8
  ·(have hfz:wr.frozen? (A9 w.heap.size k)=false:=by have:=I.o;simp[World.frozen?,this]);have hce:wr.cell? (A9 w.heap.size k)=some (.int .u8 0):=by
    have:=I.o;have O:(Jd (Fo n) k)[k]?=some (.int .u8 0):=by
     (have h1:(Et (Ho (Fo n) k)).length=k:=by simp[Et,Ho]);unfold Jd;rw[Il iC,h1,List.getElem?_replicate];simp;omega
    simp[World.cell?,this,O]
   have d:=A1 (BQ (o:=k) (v:=.int .u8 (Fo n/2 ^ (8*k) % 256:Nat)) I.o);have E:Hid (A4 Aa w (wr.sC w.heap.size k (.int .u8 (Fo n/2 ^ (8*k) % 256:Nat)))):=A4.bc Y.o iE _;have L:Hid ((Jd (Fo n) k).toArray.setIfInBounds k (.int .u8 (Fo n/2 ^ (8*k) % 256:Nat))=(Jd (Fo n) (k+1)).toArray):=by
    unfold Hid;rcases(show k=0\/k=1\/k=2\/k=3\/k=4\/k=5\/k=6\/k=7 by omega) with rfl|rfl|rfl|rfl|rfl|rfl|rfl|rfl<;>simp[Jd,Et,Ho,List.range_succ,List.replicate]
   (have e1:(Fo n:Int)/2 ^ (8*k) % 256=((Fo n/2 ^ (8*k) % 256:Nat):Int):=by push_cast;rfl);unfold Hid at d;rw[L.o]at d;have h:=A1 d;generalize hq:Fo n/2 ^ (8*k) % 256=q at h E e1;go_wp2;exact⟨⟨k+1,iC,by go_num,E,h⟩,by simp[intOf];omega⟩
  ·(obtain rfl:k=8:=iC);have cv:(convert 127 9 (AA w.heap.size 8 8)).run Tryz.prog wr=.ok (.string ⟨(AQ n).toArray⟩) wr:=by
    have O:=CT n
    have:=OA (P:=Tryz.prog) wr 127 9 5 (A9 w.heap.size 0) 8 (AQ n) Hx NC GX (by
     intro j hj;(have z:((A9 w.heap.size 0):Addr).add j=(A9 w.heap.size j):=by unfold Addr.add;split<;>simp_all);rw[z];have X:=I.o;(have h3:(Jd (Fo n) 8)=Et (AQ n):=by simp[Jd,AQ]);rw[h3]at X
     simp[World.cell?,X,Et,List.getElem?_eq_getElem hj])
    rw[O]at this;exact this
   go_wp2;go_ret;exact⟨rfl,Y.o⟩
def Cl(s:Nat):gF UInt8:=(AQ s).take 4
def I2(s:Nat):(Cl s).length=4:=by simp[Cl,CT]
def XX(w:gC)(s:Nat)(hs:s<4294967296):
 Ag 250 #[.int .u32 s] w (Aj (.string ⟨(Cl s).toArray⟩) λw'=>A4 Aa w w'):=by
 have h : -9223372036854775808<=(s:Int)/\(s:Int)<=9223372036854775807:=iC
 have hl:=CT s
 go_enter func250,ntmps250
 go_wp2_with (go_at_call 239;refine(LL _ _ h).k ?_;rintro w' d);go_ret;exact⟨by rw[extract_mk];simp[Cl],d⟩
def LH(w:gC)(x:Int):Ag 63 #[A0 x] w (Aj (.bool (decide (0<=x/\x<8))) λw'=>w=w'):=by
 obtain⟨q,d⟩:=iG (decide (0<=x/\x<8));rw[d];have h:=A1 d;by_cases h1:0<=x<;>by_cases h2:x<8
 all_goals try (exfalso;omega)
 all_goals
  go_enter func63,ntmps63
  go_wp2;go_ret;refine⟨?_,rfl⟩;rw[<-h.o];simp
  try omega
def LG(w:gC)(x:Int):Ag 58 #[A0 x] w (Aj (.bool (decide (1<=x/\x<=4611686018427387904))) λw'=>w=w'):=by
 obtain⟨q,d⟩:=iG (decide (1<=x/\x<=4611686018427387904));rw[d];have h:=A1 d;by_cases h1:1<=x<;>by_cases h2:x<=4611686018427387904
 all_goals try (exfalso;omega)
 all_goals
  go_enter func58,ntmps58
  go_wp2;go_ret;refine⟨?_,rfl⟩;rw[<-h.o];simp
  try omega
def AN(A8 ld:Int):Int:=if A8 < -9223372036854775808+ld then -9223372036854775808 else A8-ld+1
def A0q(A8 ld t:Int)(d:Ay t):decide (AN A8 ld<=t)=EJ t ld A8:=by
 obtain⟨t1,t2⟩:=d;unfold AN EJ;split<;>simp<;>omega
def MY(w:gC)(d:Nat)(A8 ld:Int)(c3:A7 w d 3 (A0 ld))(c4:A7 w d 5 (A0 A8))(L:1<=ld/\ld<=4611686018427387904)(O:Ay A8):
 Ag 71 #[A5 d] w (Aj (A0 (AN A8 ld)) λw'=>A4 Aa w w'):=by
 obtain⟨l1,l2⟩:=L;obtain⟨k1,k2⟩:=O;have ew:IntKind.i64.wrap (-9223372036854775808+ld) = -9223372036854775808+ld:=E9 iC
 go_enter func71,ntmps71
 go_wp2;refine G1 (λw'=>A7 w' d 3 (A0 ld)/\A7 w' d 5 (A0 A8)) 9
  (Ba [0,1,2,3,4,5,6,7,8] []) (by kernel_rfl) (by kernel_rfl) (λ_ _ _ _ _ h=>h) ⟨c3,c4⟩ ?_
 iterate 9 (refine E8 (v:=?_) rfl (by rfl) ?_ ?_;rotate_left;(· (intro w' I;(try dsimp only at I);go_simp;try with_reducible rfl));(try simp only[BO]))
 refine FD ?_;simp only[DK,Dm];have d3:A7 w.drew d 3 (A0 ld):=c3;have d4:A7 w.drew d 5 (A0 A8):=c4;have E:Hid (A4 Aa w w.drew):=(A4.C _ w).aa;generalize w.drew=w1 at d3 d4 E ⊢;by_cases h:A8 < -9223372036854775808+ld
 ·have z:Hid (AN A8 ld = -9223372036854775808):=by unfold Hid AN;rw[Ai h]
  go_wp2;go_ret;rw[z.o];exact⟨rfl,E.o⟩
 ·have z:Hid (AN A8 ld=A8-ld+1):=by unfold Hid AN;rw[Af h]
  have ew2:IntKind.i64.wrap (A8-ld)=A8-ld:=E9 iC;have ew3:IntKind.i64.wrap (A8-ld+1)=A8-ld+1:=E9 iC;go_wp2;refine G1 (λw'=>A7 w' d 3 (A0 ld)/\A7 w' d 5 (A0 A8)) 10
   (Ba [0,1,2,3,4,5,6,7,8,9] []) (by kernel_rfl) (by kernel_rfl) (λ_ _ _ _ _ h=>h) ⟨d3,d4⟩ ?_
  iterate 10 (refine E8 (v:=?_) rfl (by rfl) ?_ ?_;rotate_left;(· (intro w' I;(try dsimp only at I);go_simp;try with_reducible rfl));(try simp only[BO]))
  refine FD ?_;simp only[DK,Dm];go_wp2;go_ret;rw[z.o];exact⟨rfl,E.o.aa⟩
def JR(ld wa:Int):Bool:=decide (1<=ld/\ld<=4611686018427387904/\1<=wa/\wa<=4611686018427387904)
def A23(w:gC)(ld wa:Int):
 Ag 45 #[.agg #[A0 ld,A0 wa]] w (Aj (.bool (JR ld wa)) λw'=>A4 Aa w w'):=by
 obtain⟨q,d⟩:=iG (JR ld wa);rw[d];have h:=A1 d;by_cases h1:1<=ld<;>by_cases h2:ld<=4611686018427387904<;>by_cases h3:1<=wa<;>by_cases h4:wa<=4611686018427387904
 all_goals try (exfalso;omega)
 all_goals
  go_enter func45,ntmps45
  go_wp2;go_ret;refine⟨?_,(A4.C _ _).ai _⟩;rw[<-h.o];simp[JR]
  try omega
def GC(t d:Int):Int:=t/d
def X3(w:gC)(t d:Int)(X:Ay t)(Y:1<=d/\d<=4611686018427387904):
 Ag 124 #[A0 t,A0 d] w (Aj (A0 (GC t d)) λw'=>w=w'):=by
 obtain⟨t1,t2⟩:=X;obtain⟨w1,w2⟩:=Y;have O:t.tmod d+d*t.tdiv d=t:=Int.tmod_add_mul_tdiv t d;have L:t.tmod d<d:=QH t iC;have e3 : -d<t.tmod d:=Int.lt_tmod_of_pos t iC;have E:t.tmod d<0->t/d=t.tdiv d-1:=λh=>
  ((A43 (r:=t.tmod d+d) (q:=t.tdiv d-1) (by omega:(0:Int)<d)).2 ⟨by rw[WB];omega,iC,iC⟩).1
 have I:0<=t.tmod d->t/d=t.tdiv d:=λh=>
  ((A43 (r:=t.tmod d) (q:=t.tdiv d) (by omega:(0:Int)<d)).2 ⟨O,h,L⟩).1
 have b1 : -9223372036854775808<=t/d:=(Int.le_ediv_iff_mul_le iC).2 iC;have b2:t/d<9223372036854775808:=(Int.ediv_lt_iff_lt_mul iC).2 iC;have z:Hid ((t.tmod d<0->wrap64 (t.tdiv d-1)=GC t d)/\(0<=t.tmod d->t.tdiv d=GC t d)):=by
  refine⟨λh=>?_,λh=>(I h).symm⟩;have:=E h;unfold GC wrap64;omega
 clear O L e3 E I b1 b2
 go_enter func124,ntmps124
 go_wp2
 ·rename_i h;go_ret;rw[<-z.o.1 h];exact⟨rfl,rfl⟩
 ·rename_i h;go_ret;rw[<-z.o.2 h];exact⟨rfl,rfl⟩
def Bg(s t v:Int):gF UInt8:=UInt8.ofNat (s % 256).toNat::(AQ t++AQ v)
def SX(w:gC)(s t v:Int)(hs:0<=s/\s<256)(ht : -9223372036854775808<=t/\t<=9223372036854775807)(hv : -9223372036854775808<=v/\v<=9223372036854775807):
 Ag 195 #[.agg #[A0 s,A0 t,A0 v]] w (Aj (.string ⟨(Bg s t v).toArray⟩) λw'=>A4 Aa w w'):=by
 go_enter func195,ntmps195
 go_wp2;refine I0 15 (λy=>{tmps:=#[.agg #[A0 s,A0 t,A0 v],A5 w.heap.size,.string ⟨#[]⟩,y 0,y 1,y 2,y 3,y 4,y 5,y 6,y 7,y 8,y 9,y 10,y 11,y 12,y 13,y 14],defers:=[]}) (λ_=>undef)
  (λw'=>w'.heap[w.heap.size]?=some (.cells #[A0 s,A0 t,A0 v] 113 (0,0))/\A4 Aa w w') (A4 Aa)
  (λj x w'=>match j with
   | 0=>x=(A5 w.heap.size)
   | 1=>x=A0 s
   | 2=>x=.int .u8 s
   | 3=>∃g e,x=AA g 1 1/\w'.heap[g]?=some (.cells #[.int .u8 s] e (0,0))
   | 4=>x=.string ⟨#[UInt8.ofNat (s % 256).toNat]⟩
   | 5=>x=.pointer (some (A9 w.heap.size 1))
   | 6=>x=.pointer (some (A9 w.heap.size 1))
   | 7=>x=A0 t
   | 8=>x=.string ⟨(AQ t).toArray⟩
   | 9=>x=.string ⟨(UInt8.ofNat (s % 256).toNat::AQ t).toArray⟩
   | 10=>x=.pointer (some (A9 w.heap.size 1))
   | 11=>x=.pointer (some (A9 w.heap.size 2))
   | 12=>x=A0 v
   | 13=>x=.string ⟨(AQ v).toArray⟩
   | 14=>x=.string ⟨(Bg s t v).toArray⟩
   | _=>True)
  (by kernel_rfl) (by kernel_rfl) rfl ?_ ?_ ?_ ?_
 ·exact⟨(by show (w.heap.push _)[w.heap.size]?=_;rw[Jp]),((A4.C _ _).ai _).aa⟩
 ·intro j x w1 w2 hR hS' hG;split at hG<;>first|exact hG|(obtain⟨g,e,h1,h2⟩:=hG;exact⟨g,e,h1,hR.aj h2 iE⟩)
 ·simp only[FW,Fw,Gl,IB]
  repeat' (with_reducible apply And.intro)
  all_goals refine⟨?_,(by intro y d _ _ h;exact Bool.noConfusion h),λy x=>rfl⟩
  all_goals
   intro y d hS I hw K hK;obtain⟨E,O⟩:=hS;simp[GN,Region.binds,FZ,List.filter_cons]at I;(have hc0:A7 d w.heap.size 0 (A0 s):=by simp[A7,World.cell?,E]);(have hc1:A7 d w.heap.size 1 (A0 t):=by simp[A7,World.cell?,E]);(have hc2:A7 d w.heap.size 2 (A0 v):=by simp[A7,World.cell?,E]);(have hw8:IntKind.u8.wrap s=s:=by simp[IntKind.wrap,IntKind.bits,IntKind.signed];omega);have hlt:=CT t;have hlv:=CT v;have L:=A1 E;have z:=A1 O;have aA:=A1 hK;have ap1:(ByteArray.mk #[UInt8.ofNat (s % 256).toNat])++(ByteArray.mk (AQ t).toArray)=⟨(UInt8.ofNat (s % 256).toNat::AQ t).toArray⟩:=KJ [_] _;have ap2:(ByteArray.mk (UInt8.ofNat (s % 256).toNat::AQ t).toArray)++(ByteArray.mk (AQ v).toArray)=⟨(Bg s t v).toArray⟩:=KJ _ _
   try
    (have aB:∃g,y 3=AA g 1 1/\∃e,d.heap[g]?=some (.cells #[.int .u8 s] e (0,0)):=by with_reducible exact I);obtain⟨g,I,e,hg⟩:=aB;(have aF:A7 d g 0 (.int .u8 s):=by simp[A7,World.cell?,hg])
    have cv:(convert 127 9 (AA g 1 1)).run Tryz.prog d=.ok (.string ⟨#[UInt8.ofNat (s % 256).toNat]⟩) d:=OA (P:=Tryz.prog) d 127 9 5 (A9 g 0) 1 [UInt8.ofNat (s % 256).toNat] Hx NC GX (by
     intro j hj;(have aE:j=0:=by simpa using hj);subst aE;(have Y:((A9 g 0):Addr).add 0=(A9 g 0):=by unfold Addr.add;split<;>simp_all);(have aD:((UInt8.ofNat (s % 256).toNat).toNat:Int)=s:=by simp;omega);rw[Y,aF]
     simp only[KY,aD])
  all_goals dsimp only
  all_goals try go_simp
  all_goals try with_reducible exact aA.o _ _ _ rfl (by simp[Act.put,I]) (A4.C _ _) ⟨L.o,z.o⟩
  all_goals try
   (have hd7:y 7=A0 t:=by with_reducible exact I);refine(LL d t ht).k ?_;rintro w2 X;exact aA.o _ _ _ rfl (by simp[Act.put,I]) X ⟨X.aj L.o iE,z.o.AF X iE⟩
  all_goals try
   (have hd12:y 12=A0 v:=by with_reducible exact I.1);refine(LL d v hv).k ?_;rintro w2 X;exact aA.o _ _ _ rfl (by simp[Act.put,I]) X ⟨X.aj L.o iE,z.o.AF X iE⟩
  ·exact aA.o _ _ _ ⟨d.heap.size,_,rfl,(by show (d.heap.push _)[d.heap.size]?=_;rw[Jp])⟩ (by simp[Act.put,I]) ((A4.C _ _).ai _) ⟨((A4.C Aa d).ai _).aj L.o iE,z.o.ai _⟩
 ·intro y d hS hG;obtain⟨E,O⟩:=hS;have h14:y 14=.string ⟨(Bg s t v).toArray⟩:=hG 14 iC;have z:=A1 O;go_wp2;go_ret;exact⟨rfl,z.o⟩
def BM(l:gF UInt8):Int:=wrap64 (Fk (l.take 8):Nat)
def N6(w:gC)(l:gF UInt8)(d:8<=l.length/\l.length<=9223372036854775807):
 Ag 168 #[.string ⟨l.toArray⟩] w (Aj (A0 (BM l)) λw'=>w=w'):=
 A1w w ⟨l.toArray⟩ d
def N7(n:Int)(h : -9223372036854775808<=n/\n<=9223372036854775807)(r:gF UInt8):BM (AQ n++r)=n:=by
 unfold BM;rw[HC (by rw[CT];omega),Eu (by rw[CT];omega)];exact WU n h
def Cg(w:gC)(p:Nat)(s t v:Int):Prop:=w.heap[p]?=some (.cells #[.int .i64 s,.int .i64 t,.int .i64 v] 113 (0,0))
def Cg.c0{w:gC}{p:Nat}{s t v:Int}(h:Cg w p s t v):A7 w p 0 (A0 s):=by unfold Cg at h;simp[A7,World.cell?,h]
def Cg.c1{w:gC}{p:Nat}{s t v:Int}(h:Cg w p s t v):A7 w p 1 (A0 t):=by unfold Cg at h;simp[A7,World.cell?,h]
def Cg.c2{w:gC}{p:Nat}{s t v:Int}(h:Cg w p s t v):A7 w p 2 (A0 v):=by unfold Cg at h;simp[A7,World.cell?,h]
def Cg.fz{w:gC}{p:Nat}{s t v:Int}(h:Cg w p s t v)(o:Nat):w.frozen? (A9 p o)=false:=by unfold Cg at h;simp[World.frozen?,h]
def Cg.lt{w:gC}{p:Nat}{s t v:Int}(h:Cg w p s t v):p<w.heap.size:=Bv h
def Cg.aj{S:Nat->Prop}{w w':gC}{p:Nat}{s t v:Int}(h:Cg w p s t v)(d:A4 S w w')(z:¬S p):Cg w' p s t v:=d.aj h z
def Cg.aa{w:gC}{p:Nat}{s t v:Int}(h:Cg w p s t v):Cg w.drew p s t v:=by unfold Cg at h ⊢;exact h
def Cg.bw{w:gC}{p:Nat}{s t v:Int}(h:Cg w p s t v)(s' z d:Int):Cg (((w.setCell (A9 p 0) (A0 s')).setCell (A9 p 1) (A0 z)).setCell (A9 p 2) (A0 d)) p s' z d:=
 BQ (o:=2) (v:=A0 d) (BQ (o:=1) (v:=A0 z) (BQ (o:=0) (v:=A0 s') h))
def SS(w:gC)(b:UInt8)(l:gF UInt8)(hl:16<=l.length/\l.length<9223372036854775807):
 Ag 176 #[.string ⟨(b::l).toArray⟩] w (Aj (.tuple #[.agg #[A0 b.toNat,A0 (BM l),A0 (BM (l.drop 8))],.bool (decide (b.toNat<8))]) λw'=>A4 Aa w w'):=by
 obtain⟨hl1,hl2⟩:=hl;have hb:=b.toNat_lt
 go_enter func176,ntmps176
 go_wp2;refine I0 12 (λy=>{tmps:=#[.string ⟨(b::l).toArray⟩,undef,A5 w.heap.size,.bool false,y 11,y 0,y 1,y 2,y 3,y 4,y 5,y 6,y 7,y 8,y 9,y 10,undef,undef,undef,undef],defers:=[]}) (λ_=>undef)
  (λw'=>Cg w' w.heap.size 0 0 0/\A4 Aa w w') (A4 Aa)
  (λj x w'=>match j with
   | 0=>x=.string ⟨(b::l).toArray⟩
   | 1=>x=.int .u8 b.toNat
   | 2=>x=A0 b.toNat
   | 3=>x=.string ⟨(b::l).toArray⟩
   | 4=>x=.string ⟨l.toArray⟩
   | 5=>x=A0 (BM l)
   | 6=>x=.string ⟨(b::l).toArray⟩
   | 7=>x=.string ⟨(l.drop 8).toArray⟩
   | 8=>x=A0 (BM (l.drop 8))
   | 9=>x=.agg #[A0 (BM l),A0 (BM (l.drop 8))]
   | 10=>x=.agg #[A0 b.toNat,A0 (BM l),A0 (BM (l.drop 8))]
   | 11=>∃p,x=(A5 p)/\w.heap.size<p/\Cg w' p 0 0 0
   | _=>True)
  (by kernel_rfl) (by kernel_rfl) rfl ?_ ?_ ?_ ?_
 ·exact⟨(by show (w.heap.push _)[w.heap.size]?=_;rw[Jp]),((A4.C _ _).ai _).aa⟩
 ·intro j x w1 w2 hR aN X;split at X
  case h_12=>
   obtain⟨p,h1,h2,h3⟩:=X;exact⟨p,h1,h2,h3.aj hR (λh=>h)⟩
  all_goals exact X
 ·simp only[FW,Fw,Gl,IB]
  repeat' (with_reducible apply And.intro)
  all_goals refine⟨?_,(by intro y O _ _ h;exact Bool.noConfusion h),λy x=>rfl⟩
  all_goals
   intro y O hS hd hw K hK;obtain⟨I,d⟩:=hS;simp[GN,Region.binds,FZ,List.filter_cons]at hd;have e0:(ByteArray.mk (b::l).toArray)[0]'(by show 0<l.length+1;omega)=b:=rfl;have e1:(ByteArray.mk (b::l).toArray).extract 1 (l.length+1)=⟨l.toArray⟩:=by
    rw[extract_mk];simp
   have e9:(ByteArray.mk (b::l).toArray).extract 9 (l.length+1)=⟨(l.drop 8).toArray⟩:=by
    rw[extract_mk,DK,Eu iE]
   have g1:(1:Int)<=(l.length:Int)+1:=iC;have g9:(9:Int)<=(l.length:Int)+1:=iC;have ew:IntKind.i64.wrap (b.toNat:Int)=b.toNat:=E9 iC;have E:=A1 I;have L:=A1 d;have aD:=A1 hK
  all_goals dsimp only
  all_goals try go_simp
  all_goals try with_reducible exact aD.o _ _ _ rfl (by simp[Act.put,hd]) (A4.C _ _) ⟨E.o,L.o⟩
  all_goals try
   (have hd4:y 4=.string ⟨l.toArray⟩:=by with_reducible exact hd);refine(N6 O l iC).k ?_;rintro w2 rfl;exact aD.o _ _ _ rfl (by simp[Act.put,hd]) (A4.C _ _) ⟨E.o,L.o⟩
  all_goals try
   (have hd7:y 7=.string ⟨(l.drop 8).toArray⟩:=by with_reducible exact hd.1);refine(N6 O (l.drop 8) (by rw[Cz];omega)).k ?_;rintro w2 rfl;exact aD.o _ _ _ rfl (by simp[Act.put,hd]) (A4.C _ _) ⟨E.o,L.o⟩
  ·refine aD.o _ _ _ ⟨O.heap.size,rfl,?_,Bn O _⟩ (by simp[Act.put]) ((A4.C _ _).ai _) ⟨E.o.aj ((A4.C Aa _).ai _) (λh=>h),L.o.ai _⟩;exact E.o.lt
 ·intro y O hS X;obtain⟨I,d⟩:=hS;have h10:y 10=.agg #[A0 b.toNat,A0 (BM l),A0 (BM (l.drop 8))]:=X 10 iC;obtain⟨p,h11,aF,hp⟩:∃p,y 11=(A5 p)/\w.heap.size<p/\Cg O p 0 0 0:=X 11 iC;have c0:=hp.c0;have c1:=hp.c1;have c2:=hp.c2;have f0:=hp.fz 0;have f1:=hp.fz 1;have f2:=hp.fz 2;have h3:=hp.bw b.toNat (BM l) (BM (l.drop 8));have cr:A4 (One p) O (((O.setCell (A9 p 0) (A0 b.toNat)).setCell (A9 p 1) (A0 (BM l))).setCell (A9 p 2) (A0 (BM (l.drop 8)))):=(((A4.C (One p) O).an rfl _ _).an rfl _ _).an rfl _ _;have aB:=A1 h3;have aA:=A1 (I.aj cr (λh=>by have h':w.heap.size=p:=h;omega));have aK:Hid (A4 Aa w (((O.setCell (A9 p 0) (A0 b.toNat)).setCell (A9 p 1) (A0 (BM l))).setCell (A9 p 2) (A0 (BM (l.drop 8))))):=d.AF cr (λk hk hlt2=>by have h':k=p:=hk;omega);have aO:Hid (w.heap.size<p):=aF;go_wp2;generalize (((O.setCell (A9 p 0) (A0 b.toNat)).setCell (A9 p 1) (A0 (BM l))).setCell (A9 p 2) (A0 (BM (l.drop 8))))=w3 at aB aA aK ⊢;obtain⟨Y,aI⟩:=iG (BM l);obtain⟨jv,aG⟩:=iG (BM (l.drop 8));rw[aI,aG]at aB ⊢;have aJ:Hid (((b.toNat:Int)<8)=(b.toNat<8)):=by unfold Hid;simp;omega
  obtain⟨n,hn⟩:∃n:Nat,b.toNat=n:=⟨_,rfl⟩;have aE:Hid (b.toNat=n/\BM l=Y/\BM (l.drop 8)=jv):=⟨hn,aI,aG⟩;rw[hn]at aB aJ ⊢;have q0:=aB.o.c0;have q1:=aB.o.c1;have q2:=aB.o.c2;have r0:=aA.o.c0;have r1:=aA.o.c1;have r2:=aA.o.c2;have z0:=aA.o.fz 0;have z1:=aA.o.fz 1;have z2:=aA.o.fz 2;go_wp2;refine I0 5 (λz=>{tmps:=#[.string ⟨(b::l).toArray⟩,undef,A5 w.heap.size,.bool false,A5 p,y 0,y 1,y 2,y 3,y 4,y 5,y 6,y 7,y 8,y 9,.agg #[A0 n,A0 Y,A0 jv],z 0,z 1,z 2,z 3],defers:=[]}) (λ_=>undef)
   (λw'=>Cg w' p n Y jv/\(∃a b c,Cg w' w.heap.size a b c)/\A4 Aa w w') (λw1 w2=>Cg w1 w.heap.size n Y jv->Cg w2 w.heap.size n Y jv)
   (λj x w'=>match j with
    | 0=>x=.agg #[A0 n,A0 Y,A0 jv]
    | 1=>x=(A5 p)
    | 2=>x=A0 n
    | 3=>x=.bool (decide ((n:Int)<8))
    | 4=>Cg w' w.heap.size n Y jv
    | _=>True)
   (by kernel_rfl) (by kernel_rfl) rfl ?_ ?_ ?_ ?_
  ·exact⟨aB.o.aa,⟨_,_,_,aA.o.aa⟩,aK.o.aa⟩
  ·intro j x w1 w2 hR aN X;split at X
   case h_5=>exact hR X
   all_goals exact X
  ·clear aB aA aK;simp only[FW,Fw,Gl,IB]
   repeat' (with_reducible apply And.intro)
   all_goals refine⟨?_,(by intro y O _ _ h;exact Bool.noConfusion h),λy x=>rfl⟩
   all_goals
    intro z wz hS hd hw K hK;obtain⟨I,⟨a1,a2,a3,d⟩,aL⟩:=hS;simp[GN,Region.binds,FZ,List.filter_cons]at hd;have q0:=I.c0;have q1:=I.c1;have q2:=I.c2;have r0:=d.c0;have r1:=d.c1;have r2:=d.c2;have z0:=d.fz 0;have z1:=d.fz 1;have z2:=d.fz 2;have E:=A1 I;have L:=A1 d;have aH:=A1 aL;have aD:=A1 hK
   all_goals dsimp only
   all_goals try go_simp
   all_goals try with_reducible exact aD.o _ _ _ rfl (by simp[Act.put,hd]) (λh=>h) ⟨E.o,⟨_,_,_,L.o⟩,aH.o⟩
   have st:=L.o.bw n Y jv;have cr:A4 (One w.heap.size) wz (((wz.setCell (A9 w.heap.size 0) (A0 n)).setCell (A9 w.heap.size 1) (A0 Y)).setCell (A9 w.heap.size 2) (A0 jv)):=(((A4.C (One w.heap.size) wz).an rfl _ _).an rfl _ _).an rfl _ _;refine aD.o undef _ _ st (by simp[Act.put,hd]) (λ_=>st) ⟨E.o.aj cr (λh=>by have h':p=w.heap.size:=h;have:=aO.o;omega),⟨_,_,_,st⟩,aH.o.AF cr (λk hk aF=>by have h':k=w.heap.size:=hk;omega)⟩
  ·intro z wz hS X;have h3:z 3=.bool (decide ((n:Int)<8)):=X 3 iC;have h4:Cg wz w.heap.size n Y jv:=X 4 iC;have r0:=h4.c0;have r1:=h4.c1;have r2:=h4.c2;have aP:=A1 hS.2.2;have aM:decide ((n:Int)<8)=decide (n<8):=by
    by_cases h:n<8
    ·rw[CN h,CN iC]
    ·rw[CO h,CO iC]
   rw[aM]at h3;go_wp2;refine JU (v:=.tuple #[.agg #[A0 n,A0 Y,A0 jv],.bool (decide (n<8))]) (by simp[results,Tryz.results176,go_sem,r0,r1,r2]) rfl ?_;exact⟨by rw[aE.o.1,aE.o.2.1,aE.o.2.2],aP.o⟩
def VP(w:gC)(s:Nat)(l:gF UInt8)(h:s<4294967296)(d:l.length<=9223372036854775807):
 Ag 165 #[.int .u32 s,.string ⟨l.toArray⟩] w (Aj (.int .u32 (AY s l)) λw'=>w=w'):=
 A4p w s ⟨l.toArray⟩ h d
def Bi(w:gC)(h:Nat)(T:TypeId)(p:gD)(d:gE)(s:Nat):Prop:=w.heap[h]?=some (.cells #[p,.string d,.int .u32 s] T (0,0))
def Bi.c0{w:gC}{d:Nat}{T:TypeId}{p:gD}{z:gE}{s:Nat}(h:Bi w d T p z s):A7 w d 0 p:=by unfold Bi at h;simp[A7,World.cell?,h]
def Bi.c1{w:gC}{z:Nat}{T:TypeId}{p:gD}{d:gE}{s:Nat}(h:Bi w z T p d s):A7 w z 1 (.string d):=by unfold Bi at h;simp[A7,World.cell?,h]
def Bi.c2{w:gC}{d:Nat}{T:TypeId}{p:gD}{z:gE}{s:Nat}(h:Bi w d T p z s):A7 w d 2 (.int .u32 s):=by unfold Bi at h;simp[A7,World.cell?,h]
def Bi.fz{w:gC}{d:Nat}{T:TypeId}{p:gD}{z:gE}{s:Nat}(h:Bi w d T p z s)(o:Nat):w.frozen? (A9 d o)=false:=by unfold Bi at h;simp[World.frozen?,h]
def Bi.lt{w:gC}{d:Nat}{T:TypeId}{p:gD}{z:gE}{s:Nat}(h:Bi w d T p z s):d<w.heap.size:=Bv h
def Bi.s2{w:gC}{d:Nat}{T:TypeId}{p:gD}{z:gE}{s:Nat}(h:Bi w d T p z s)(s':Nat):Bi (w.setCell (A9 d 2) (.int .u32 s')) d T p z s':=BQ h
def Bi.aj{S:Nat->Prop}{w w':gC}{d:Nat}{T:TypeId}{p:gD}{z:gE}{s:Nat}(h:Bi w d T p z s)(E:A4 S w w')(I:¬S d):Bi w' d T p z s:=E.aj h I
def RW(w:gC)(z:Nat)(T:TypeId)(p:gD)(O:gE)(s:Nat)(l:gF UInt8)(h:Bi w z T p O s)(X:s<4294967296)(hl:l.length<=9223372036854775803):
 Ag 214 #[A5 z,.string ⟨l.toArray⟩] w (Aj (.string ⟨(l++Cl (AY s l)).toArray⟩) λw'=>Bi w' z T p O (AY s l)/\A4 (One z) w w'):=by
 have c2:=h.c2;have fz:=h.fz 2;have L:=h.s2 (AY s l);have E:=Kd s l X;obtain⟨s1,d⟩:=iG (AY s l);have hq:=A1 d;rw[d]at L E ⊢;have c3:=L.c2;have k1:A4 (One z) w (w.sC z 2 (.int .u32 s1)):=(A4.C _ w).an (show One z z from rfl) 2 _;have ap:=KJ l (Cl s1);have hsb:=I2 s1;have aB:=A1 L;have aA:=A1 k1;have I:l.length<=9223372036854775807:=iC
 go_enter func214,ntmps214
 go_wp2_with (first|(go_at_call 165;refine(VP _ _ _ X I).k ?_;rintro w' rfl;rw[hq.o])|(go_at_call 250;refine(XX _ _ E).k ?_;rintro w' Y));go_ret;exact⟨rfl,aB.o.aj Y iE,aA.o.AF Y iE⟩
def Oi(w:gC)(O:Nat)(T:TypeId)(p:gD)(nd:gE)(s:Nat)(l t:gF UInt8)(h:Bi w O T p nd s)(hs:s<4294967296)(ht:t.length=4)(hl:l.length<=9223372036854775803):
 Ag 167 #[A5 O,.string ⟨(l++t).toArray⟩] w (Aj (.tuple #[.string ⟨l.toArray⟩,.bool (decide (Cl (AY s l)=t))]) λw'=>Bi w' O T p nd (AY s l)/\A4 (One O) w w'):=by
 have d:(l++Cl (AY s l)==l++t)=decide (Cl (AY s l)=t):=by
  by_cases z:Cl (AY s l)=t
  ·rw[CN z,z];exact Vr _
  ·rw[CO z];exact I8.2 λh=>z (Wv h)
 generalize hbb:decide (Cl (AY s l)=t)=bb at d ⊢;have X:=A1 d;have hlt0:((ByteArray.mk (l++t).toArray).size:Int)=(l.length:Int)+4:=by show (((l++t).length:Nat):Int)=_;simp[ht]
 have hn4:¬((l.length:Int)+4<4):=iC
 go_enter func167,ntmps167
 go_wp2;refine I0 11 (λy=>{tmps:=#[A5 O,.string ⟨(l++t).toArray⟩,undef,undef,.string ⟨#[]⟩,.bool false,y 10,undef,.string ⟨(l++t).toArray⟩,A0 ((l.length:Int)+4),.bool false,y 0,y 1,y 2,y 3,y 4,y 5,y 6,y 7,y 8,y 9,undef,undef,undef,undef,undef,undef,undef,undef],defers:=[]}) (λ_=>undef)
  (λw'=>Bi w' O T p nd s/\A4 Aa w w') (A4 Aa)
  (λj x w'=>match j with
   | 0=>x=.string ⟨(l++t).toArray⟩
   | 1=>x=.string ⟨(l++t).toArray⟩
   | 2=>x=A0 ((l.length:Int)+4)
   | 3=>x=A0 l.length
   | 4=>x=.string ⟨l.toArray⟩
   | 5=>x=.string ⟨(l++t).toArray⟩
   | 6=>x=.string ⟨(l++t).toArray⟩
   | 7=>x=A0 ((l.length:Int)+4)
   | 8=>x=A0 l.length
   | 9=>x=.string ⟨t.toArray⟩
   | 10=>x=.string ⟨l.toArray⟩
   | _=>True)
  (by kernel_rfl) (by kernel_rfl) rfl ?_ ?_ ?_ ?_
 ·exact⟨h,(A4.C _ _).aa⟩
 ·intro j x w1 w2 hR hS' Y;split at Y<;>exact Y
 ·simp only[FW,Fw,Gl,IB]
  repeat' (with_reducible apply And.intro)
  all_goals refine⟨?_,(by intro y wx _ _ h;exact Bool.noConfusion h),λy x=>rfl⟩
  all_goals
   intro y wx hS hd hw K hK;obtain⟨I,L⟩:=hS;simp[GN,Region.binds,FZ,List.filter_cons]at hd;have e1:(ByteArray.mk (l++t).toArray).extract 0 l.length=⟨l.toArray⟩:=by
    rw[extract_mk];simp
   have e9:(ByteArray.mk (l++t).toArray).extract l.length (l.length+4)=⟨t.toArray⟩:=by
    rw[extract_mk,Ws,show l.length+4-l.length=t.length by omega,C5]
   have g1:(l.length:Int)<=(l.length:Int)+4:=iC;have ew:IntKind.i64.wrap (l.length:Int)=l.length:=E9 iC;have aA:=A1 I;have E:=A1 L;have aE:=A1 hK
  all_goals dsimp only
  all_goals try go_simp
  all_goals try with_reducible exact aE.o _ _ _ rfl (by simp[Act.put,hd]) (A4.C _ _) ⟨aA.o,E.o⟩
 ·intro y wx hS Y;obtain⟨I,L⟩:=hS;have h10:y 10=.string ⟨l.toArray⟩:=Y 10 iC;have h9:y 9=.string ⟨t.toArray⟩:=Y 9 iC;have hk:=I;have E:=A1 L;have ap:=KJ l t;have hq:=X.o;have aF:=A1 (RW wx O T p nd s l hk hs hl);have hlt:(ByteArray.mk (l++t).toArray).size=l.length+4:=by show (l++t).length=_;simp[ht]
  go_wp2_with (go_at_call 214;refine aF.k ?_;rintro w'⟨hb,hc⟩;have aB:=A1 hb;have aD:=A1 hc);go_ret2;exact⟨rfl,aB.o,E.o.ah (λ_ _ h=>h.elim) |>.tr aD.o⟩
def Xk(w:gC)(z:Nat)(l:gF UInt8)(hl:l.length<4):
 Ag 167 #[A5 z,.string ⟨l.toArray⟩] w (Aj (.tuple #[.string ⟨#[]⟩,.bool false]) λw'=>w=w'):=by
 have h:(ByteArray.mk l.toArray).size=l.length:=by show l.toArray.size=_;simp
 have d:((ByteArray.mk l.toArray).size:Int)<4:=by rw[h];omega
 generalize htx:ByteArray.mk l.toArray=tx at d ⊢
 go_enter func167,ntmps167
 go_wp2;go_ret2;exact⟨rfl,rfl⟩
end
section
open Go.RowKit
attribute [local go_sem ↓] Go.wp_at_zero Go.wp_at_succ
def Iw(ld d A8:Int)(x:Int)(l:gF Pu):Bool:=l.any λp=>EJ p.2.1 ld A8&&(GC p.2.1 d==GC x d)
def HP(p:Pu)(l:gF Pu):Bool:=l.any λq=>q.1==p.1&&q.2.1==p.2.1
def F8(ld d A8:Int)(pd:gF Pu):Nat->Nat
 | 0=>0
 | k+1=>F8 ld d A8 pd k+(if Iw ld d A8 (pd.getD k (0,0,0)).2.1 pd && ! HP (pd.getD k (0,0,0)) (pd.take k) then 1 else 0)
def Ud(ld d A8:Int)(pd:gF Pu)(k:Nat):F8 ld d A8 pd k<=k:=by
 induction k with
 | zero=>exact An _
 | succ k ih=>simp only[F8];split<;>omega
def VE{α:Type}(f:α->Bool)(l:gF α)(k:Nat)(d:k<l.length):(l.take (k+1)).any f=((l.take k).any f||f (l[k]'d)):=by
 rw[Ds d,Ww];simp
def A1k(w:gC)(pv:gD)(pd:gF Pu)(ld d A8:Int)(hp:GZ w pv pd)(aV:pd.length<1099511627776)(aO:∀p∈pd,Ay p.2.1)(hl:1<=ld/\ld<=4611686018427387904)(hw:1<=d/\d<=4611686018427387904)(hc:Ay A8):
 Ag 95 #[pv,A0 ld,A0 d,A0 A8] w (Aj (A0 (F8 ld d A8 pd pd.length)) λw'=>A4 Aa w w'):=by
 obtain⟨ap,cp,rfl,aZ,aX,aG⟩:=hp.BW;unfold maxLen at aX;obtain⟨m,hm⟩:=iG pd.length;have a3:Hid (∀w' k (I:k<pd.length),Ag 123 #[A0 (pd[k]'I).2.1,A0 ld,A0 A8] w' λe aH=>e=.returned (.bool (EJ (pd[k]'I).2.1 ld A8))/\w'=aH):=λw' k I=>VO _ ld A8 w' (aO _ (BT I)) hl hc hc.2;have WI:Hid (∀w' k (I:k<pd.length),Ag 124 #[A0 (pd[k]'I).2.1,A0 d] w' λe aH=>e=.returned (A0 (GC (pd[k]'I).2.1 d))/\w'=aH):=λw' k I=>X3 w' _ d (aO _ (BT I)) hw;have aA:Hid (∀wr,A4 Aa w wr->∀k (I:k<pd.length),∃g,ap=some (A9 g 0)/\A7 wr g (k*3) (A0 (pd[k]'I).1)/\A7 wr g (k*3+1) (A0 (pd[k]'I).2.1)):=λwr O k I=>by
  obtain⟨g,h1,-,h2,h3,-⟩:=aG k I;exact⟨g,h1,O.ad h2,O.ad h3⟩
 have aS:=A1 hm;rw[hm]at aZ aV ⊢
 go_enter func95,ntmps95
 go_wp2;go_loopw [9,10] (λnv iv wr=>∃k:Nat,k<=m/\iv=A0 k/\nv=A0 (F8 ld d A8 pd k)/\Hid (A4 Aa w wr)) (λ_ iv _=>m-(intOf iv).toNat)
 ·exact⟨0,iC,by go_num,rfl,A4.C _ _⟩
 ·obtain⟨k,I,rfl,rfl,O⟩:=hrel;obtain⟨w0,aY⟩:=iH wr;subst aY;have hkk:=BJ k;by_cases hlt:k<m
  ·(have h:k<pd.length:=by have:=aS.o;omega);go_wp2;go_loopw [11,12] (λav jv wq=>∃j:Nat,j<=m/\jv=A0 j/\av=.bool (Iw ld d A8 (pd[k]'h).2.1 (pd.take j))/\Hid (A4 Aa w wq)) (λ_ jv _=>m-(intOf jv).toNat)
   ·exact⟨0,iC,by go_num,rfl,O⟩
   ·obtain⟨j,hj,rfl,rfl,aE⟩:=hrel;have hjj:=BJ j;by_cases hjl:j<m
    ·(have z:j<pd.length:=by have:=aS.o;omega);obtain⟨g,rfl,a0,a1⟩:=aA.o wr aE.o k h;have⟨g',e,b0,b1⟩:=aA.o wr aE.o j z;cases e;have e9:Iw ld d A8 (pd[k]'h).2.1 (pd.take (j+1))=(Iw ld d A8 (pd[k]'h).2.1 (pd.take j)||(EJ (pd[j]'z).2.1 ld A8&&(GC (pd[j]'z).2.1 d==GC (pd[k]'h).2.1 d))):=VE _ _ _ z;have aT:=A1 (a3.o wr j z);have a2:=A1 (WI.o wr j z);have aR:=A1 (WI.o wr k h);obtain⟨Y,L⟩:=iG (Iw ld d A8 (pd[k]'h).2.1 (pd.take j));obtain⟨xa,aN⟩:=iG (EJ (pd[j]'z).2.1 ld A8);obtain⟨xj,aP⟩:=iG (GC (pd[j]'z).2.1 d);obtain⟨xk,aL⟩:=iG (GC (pd[k]'h).2.1 d);rw[aN]at aT;rw[aP]at a2;rw[aL]at aR;rw[L,aN,aP,aL]at e9;rw[L];have aF:=A1 e9;(have hb:(xj==xk)=true\/(xj==xk)=false:=by cases (xj==xk)<;>simp);obtain⟨tk,aD⟩:=iG ((pd[k]'h).2.1);generalize htj:(pd[j]'z).2.1=tj at aT a2 b1;rw[aD]at aR a1;rcases hb with hb|hb<;>cases Y<;>cases xa
     all_goals
      go_wp2_with (fail);refine aT.k ?_;rintro w1 rfl;go_wp2_with (fail);refine a2.k ?_;rintro w1 rfl;go_wp2_with (fail);refine aR.k ?_;rintro w1 rfl;go_wp2;go_roundw
      ·exact⟨j+1,iC,by go_num,by rw[aF.o,hb];rfl,aE⟩
      ·simp[intOf];omega
    ·(obtain rfl:j=m:=iC);obtain⟨w2,aU⟩:=iH wr;subst aU;rw[show pd.take j=pd from Eu (by have:=aS.o;omega)];obtain⟨Y,L⟩:=iG (Iw ld d A8 (pd[k]'h).2.1 pd);rw[L];have aW:F8 ld d A8 pd (k+1)=F8 ld d A8 pd k+(if Y && ! HP (pd[k]'h) (pd.take k) then 1 else 0):=by
      simp only[F8];rw[show pd.getD k (0,0,0)=pd[k]'h by simp[List.getD,List.getElem?_eq_getElem h],L]
     have X:=A1 aW;have aM:Hid (F8 ld d A8 pd k<=k):=Ud _ _ _ _ _;generalize hkn:F8 ld d A8 pd k=kn at X aM ⊢;go_wp2;go_loopw [11,16] (λav jv wq=>∃i:Nat,i<=k/\jv=A0 i/\av=.bool (Y && ! HP (pd[k]'h) (pd.take i))/\Hid (A4 Aa w wq)) (λ_ jv _=>k-(intOf jv).toNat)
     ·exact⟨0,iC,by go_num,by simp[HP],aE⟩
     ·obtain⟨i,hi,rfl,rfl,aB⟩:=hrel;have hii:=BJ i;by_cases hil:i<k
      ·have E:i<pd.length:=iC;obtain⟨g,rfl,a0,a1⟩:=aA.o wr aB.o k h;have⟨g',e,b0,b1⟩:=aA.o wr aB.o i E;cases e;have e9:HP (pd[k]'h) (pd.take (i+1))=(HP (pd[k]'h) (pd.take i)||((pd[i]'E).1==(pd[k]'h).1&&(pd[i]'E).2.1==(pd[k]'h).2.1)):=VE _ _ _ E;obtain⟨ko,aI⟩:=iG (HP (pd[k]'h) (pd.take i));obtain⟨tk,aD⟩:=iG ((pd[k]'h).2.1);obtain⟨ti,aQ⟩:=iG ((pd[i]'E).2.1);obtain⟨sk,aJ⟩:=iG ((pd[k]'h).1);obtain⟨si,aK⟩:=iG ((pd[i]'E).1);rw[aI,aD,aQ,aJ,aK]at e9;rw[aI];rw[aD]at a1;rw[aQ]at b1;rw[aJ]at a0;rw[aK]at b0;have aF:=A1 e9;(have hb:(si==sk)=true\/(si==sk)=false:=by cases (si==sk)<;>simp);(have hd:(ti==tk)=true\/(ti==tk)=false:=by cases (ti==tk)<;>simp);rcases hb with hb|hb<;>rcases hd with hd|hd
       all_goals
        go_wp2;go_quiet (fail);go_wp2;go_roundw
        ·exact⟨i+1,iC,by go_num,by rw[aF.o,hb,hd];cases Y<;>cases ko<;>rfl,aB.o.a7 _⟩
        ·simp[intOf];omega
      ·(obtain rfl:i=k:=iC);generalize aI:HP (pd[i]'h) (pd.take i)=ko at X ⊢;have hk0:=aM.o;have ew:IntKind.i64.wrap ((kn:Int)+1)=(kn:Int)+1:=E9 iC;cases Y<;>cases ko
       all_goals
        go_wp2;go_roundw
        ·exact⟨i+1,iC,by go_num,by rw[X.o];simp,aB⟩
        ·simp[intOf];omega
  ·(obtain rfl:k=m:=iC);go_wp2;go_ret;exact⟨rfl,O.o⟩
def GQ(x y:Int):Int:=if x<y then -1 else if y<x then 1 else 0
def A26(x y:Int)(w:gC):Ag 130 #[A0 x,A0 y] w (Aj (A0 (GQ x y)) λw'=>w=w'):=by
 by_cases h:x<y
 ·have q:Hid (GQ x y = -1):=by unfold Hid GQ;rw[Ai h]
  go_enter func130,ntmps130
  go_wp2;go_ret;rw[q.o];exact⟨rfl,rfl⟩
 ·by_cases d:y<x
  ·(have q:Hid (GQ x y=1):=by unfold Hid GQ;rw[Af h,Ai d])
   go_enter func130,ntmps130
   go_wp2;go_ret;rw[q.o];exact⟨rfl,rfl⟩
  ·(obtain rfl:x=y:=iC);(have q:Hid (GQ x x=0):=by unfold Hid GQ;rw[Af h,Af d])
   go_enter func130,ntmps130
   go_wp2;go_ret;rw[q.o];exact⟨rfl,rfl⟩
def Qa(t v y:Int)(w:gC):Ag 163 #[.agg #[A0 t,A0 v],A0 y] w (Aj (A0 (GQ t y)) λw'=>A4 Aa w w'):=by
 go_enter func163,ntmps163
 go_wp2_with (go_at_call 130;refine(A26 _ _ _).k ?_;rintro w' rfl);go_ret;exact⟨rfl,(A4.C _ w).ai _⟩
def Fa(l:gF Pt)(t:Int):Bool:=(l[BF l t]?).any λx=>x.1==t
def YG(w:gC)(lv:gD)(L:gF Pt)(t:Int)(hL:Ch w lv L)(hs:DV L)(hl:L.length<1099511627776):
 Ag 162 #[lv,A0 t,.func (.func 163) #[] #[]] w (Aj (.tuple #[A0 (BF L t),.bool (Fa L t)]) λw'=>A4 Aa w w'):=by
 obtain⟨a,cap,rfl,h1,h2,h3,_,_⟩:=B8 hL;unfold maxLen at h2;have aK:=A1 hL;have aM:=A1 hs;have aL:=A1 h3;have aE:=Jx L t;have aJ:Hid (∀W,A4 Aa w W->∀k (hk:k<L.length),∃g,a=some (A9 g 0)/\A7 W g (k*2) (A0 (L[k]'hk).1)/\A7 W g (k*2+1) (A0 (L[k]'hk).2)):=by
  intro W hc k hk;obtain⟨g,rfl⟩:=aL.o iC;have hW:Ch W (AA g L.length cap) L:=Au aK.o λg hg=>hc.Al g (Aw aK.o hg) (λh=>h);exact⟨g,rfl,hW.bt k hk⟩
 go_enter func162,ntmps162
 go_wp2;go_loopw [9,10] (λiv jv wq=>∃i j:Nat,i<=j/\j<=L.length/\iv=A0 i/\jv=A0 j/\Hid (i<=BF L t/\BF L t<=j)/\Hid (A4 Aa w wq)) (λiv jv _=>(intOf jv).toNat-(intOf iv).toNat)
 ·exact⟨0,L.length,Cb _,An _,rfl,rfl,⟨Cb _,aE⟩,A4.C _ _⟩
 ·obtain⟨i,j,hij,hj,rfl,rfl,E,d⟩:=hrel;by_cases hlt:i<j
  ·obtain⟨m,hm⟩:=iG ((i+j)/2);have aH:i<=m:=iC;have hmj:m<j:=iC;have O:m<L.length:=iC;obtain⟨g,rfl,c1,c2⟩:=aJ.o _ d.o m O;obtain⟨⟨tm,vm⟩,aD⟩:∃x,L[m]'O=x:=⟨_,rfl⟩;rw[aD]at c1 c2;have aB:=A1 aD;have i0:=BJ i;have hsum:(i:Int)+(j:Int)<=9223372036854775807:=iC;have hlt':(i:Int)<(j:Int):=iC;by_cases aF:tm<t
   ·(have hc:GQ tm t<0:=by unfold GQ;rw[Ai aF];omega);have hp:Hid (m+1<=BF L t):=by
     unfold Hid;apply QO;intro hn;have:=Lq aM.o (show BF L t<=m by omega) O;rw[aB.o]at this;simp only at this;omega
    go_wp2_with (go_at_call 163;refine(Qa _ _ _ _).k ?_;rintro w' z;have I:=A1 z);go_roundw
    ·exact⟨m+1,j,iC,hj,by rw[show ((i:Int)+(j:Int))/2+1=((m+1:Nat):Int) from by omega],rfl,⟨hp.o,E.o.2⟩,d.o.tr I.o⟩
    ·simp[intOf];omega
   ·have hc:0<=GQ tm t:=by
     unfold GQ;rw[Af aF];split<;>omega
    have hp:Hid (BF L t<=m):=by
     unfold Hid;apply QO;intro hn;have:=Ks (show m<BF L t by omega) O;rw[aB.o]at this;simp only at this;omega
    go_wp2_with (go_at_call 163;refine(Qa _ _ _ _).k ?_;rintro w' z;have I:=A1 z);go_roundw
    ·exact⟨i,m,aH,iC,rfl,by rw[show ((i:Int)+(j:Int))/2=(m:Int) from by omega],⟨E.o.1,hp.o⟩,d.o.tr I.o⟩
    ·simp[intOf];omega
  ·(obtain rfl:i=j:=iC);(have aG:Hid (BF L t=i):=by have:=E.o;unfold Hid;omega);by_cases X:i<L.length
   ·obtain⟨g,rfl,c1,c2⟩:=aJ.o _ d.o i X;obtain⟨⟨Y,vi⟩,aA⟩:∃x,L[i]'X=x:=⟨_,rfl⟩;rw[aA]at c1 c2;have i0:=BJ i;have i1:(i:Int)<(L.length:Int):=iC;have aI:Hid (Fa L t=(GQ Y t==0)):=by
     unfold Hid Fa;rw[aG.o,Dx X,aA];simp only[Option.any_some];unfold GQ;by_cases e1:Y<t
     ·rw[Ai e1];have:Y≠t:=iC
      simp[this]
     ·rw[Af e1];by_cases e2:t<Y
      ·rw[Ai e2];have:Y≠t:=iC
       simp[this]
      ·rw[Af e2];have:Y=t:=iC
       simp[this]
    go_wp2_with (go_at_call 163;refine(Qa _ _ _ _).k ?_;rintro w' z;have I:=A1 z);go_ret2;rw[aG.o,aI.o];exact⟨rfl,d.o.tr I.o⟩
   ·have hil':(L.length:Int)<=(i:Int):=iC;have aI:Hid (Fa L t=false):=by
     unfold Hid Fa;rw[aG.o,Mi iC];rfl
    go_wp2;go_ret2;rw[aG.o,aI.o];exact⟨rfl,d.o⟩
structure NH (w:gC) (b o:Nat) (L:gF Pt) (lv:gD):Prop where
 CQ:w.cell? ⟨b,o,none⟩=some lv
 Bj:Ch w lv L
 Gf:DV L
 Cw:L.length<1099511627776
def Nc(w:gC)(b o:Nat)(L:gF Pt)(lv:gD)(t:Int)(h:NH w b o L lv):
 Ag 116 #[.pointer (some (A9 b o)),A0 t] w (Aj (.tuple #[A0 (BF L t),.bool (Fa L t)]) λw'=>A4 Aa w w'):=by
 have hc:=h.CQ;obtain⟨a,cap,rfl,_⟩:=B8 h.Bj;have H:=A1 h
 go_enter func116,ntmps116
 go_wp2_with (go_at_call 162;refine(YG _ _ _ _ H.o.Bj H.o.Gf H.o.Cw).k ?_;rintro w' d;have z:=A1 d);go_ret2;exact⟨rfl,z.o⟩
def Tryz.cy:(Tryz.prog.info? 70).map (λi=>(i.zero,i.size,i.bytes))=some (some (.agg #[A0 0,A0 0]),2,16):=by kernel_rfl
def ZN{l:gF Pt}(z:DV l)(t:Int):BF l (t+1)=BF l t+(if Fa l t then 1 else 0):=by
 have L:=Jx l t;by_cases h:Fa l t=true
 ·rw[Ai h];unfold Fa at h;by_cases O:BF l t<l.length
  ·rw[Dx O]at h;simp at h;refine MU z iC (λi d I=>?_) λi d E=>?_
   ·by_cases e:i=BF l t
    ·subst e;omega
    ·have:=Ks (show i<BF l t by omega) d;omega
   ·have:=K1.1 z (BF l t) i O d iC;rw[h]at this;omega
  ·rw[Mi iC]at h;cases h
 ·rw[Af h,Qv];refine MU z L (λi d I=>?_) λi d E=>?_
  ·have:=Ks I d;omega
  ·have h2:=Lq z E d;by_cases e:(l[i]'d).1=t
   ·exfalso;apply h;by_cases X:i=BF l t
    ·subst X;unfold Fa;rw[Dx d];simpa using e
    ·have:=K1.1 z (BF l t) i iC d iC;have:=Lq z (An (BF l t)) (show BF l t<l.length by omega);omega
   ·omega
def ZO{l:gF Pt}(d:DV l){a b:Int}(h:a<=b):BF l a<=BF l b:=by
 apply QO;intro hn;have hl:=Jx l a;have h1:=Ks (show BF l b<BF l a by omega) iC;have h2:=Lq d (An (BF l b)) iC;omega
def piece(l:gF Pt)(a b:Int):gF Pt:=l.filter λx=>decide (a<=x.1)&&decide (x.1<=b)
def ZP{l:gF Pt}(d:DV l)(a b:Int):piece l a b=(l.take (BF l b+(if Fa l b then 1 else 0))).drop (BF l a):=by
 rw[<-ZN d b,<-A2c d a (b+1)];unfold piece
 congr 1
 funext x
 have:decide (x.1<=b)=decide (x.1<b+1):=by
  apply O5.2;simp;omega
 rw[this]
def A3C(w:gC)(rb ro:Nat)(L:gF Pt)(lv:gD)(a b:Int)(h:NH w rb ro L lv):
 Ag 80 #[.pointer (some (A9 rb ro)),A0 a,A0 b] w λe w'=>∃v,e=.returned v/\Ch w' v (piece L a b)/\A4 Aa w w'/\∀g,v.ownBlock=some g->w.heap.size<=g:=by
 have H:=A1 h;have hc:=h.CQ;obtain⟨ad,cap,rfl,h1,h2,h3,h4,h5⟩:=B8 h.Bj;unfold maxLen at h2;have HA:=A1 h3;have aQ:=GV w _ hc;have aI:Hid (∀W,A4 Aa w W->NH W rb ro L (.slice ad L.length cap)):=λW I=>
  ⟨(DU (I.Al rb aQ (λh=>h))).trans H.o.CQ,Au H.o.Bj λg hg=>I.Al g (Aw H.o.Bj hg) (λh=>h),H.o.Gf,H.o.Cw⟩
 have⟨i0,hi,hz0,hz1,hz2⟩:=DQ Tryz.cy;have hsm:=h.Cw;have aU:=A1 h4;have aT:=A1 h5;by_cases hab:b<a
 ·have q:Hid (piece L a b=[]):=by
   unfold Hid piece;rw[Wq];intro x _;simp;omega
  go_enter func80,ntmps80
  go_wp2;go_ret;exact⟨_,rfl,by rw[q.o];exact Cq _ _ _ _,A4.C _ _,by simp[Value.ownBlock]⟩
 ·have aK:a<=b:=iC
  have aH:=ZP H.o.Gf a b;have hm:=ZO H.o.Gf aK;have aP:=Jx L b;have X:Fa L b=true->BF L b<L.length:=λhh=>by
   unfold Fa at hh;apply QO;intro hn;rw[Mi iC]at hh;cases hh
  obtain⟨i,aG⟩:=iG (BF L a);obtain⟨j,Y⟩:=iG (BF L b);obtain⟨hs,aE⟩:=iG (Fa L b);rw[aG,Y]at hm;rw[Y]at aP;rw[aE,Y]at X;rw[aG,Y,aE]at aH;have aO:Hid (∀W,A4 Aa w W->Ag 116 #[.pointer (some (A9 rb ro)),A0 a] W λe w'=>∃x,e=.returned (.tuple #[A0 i,.bool x])/\A4 Aa W w'):=λW I=>
   (Nc W rb ro L _ a (aI.o W I)).mono (by rintro e w'⟨rfl,h⟩;rw[aG];exact⟨_,rfl,h⟩)
  have aS:Hid (∀W,A4 Aa w W->Ag 116 #[.pointer (some (A9 rb ro)),A0 b] W (Aj (.tuple #[A0 j,.bool hs]) λw'=>A4 Aa W w')):=λW I=>
   (Nc W rb ro L _ b (aI.o W I)).mono (by rintro e w'⟨rfl,h⟩;rw[Y,aE];exact⟨rfl,h⟩)
  have aN:=A1 aH;have O:Hid (∀W (n:Nat),A4 Aa w W->i<=n->n<=L.length->n=j+(if hs then 1 else 0)->∀v,(v=.slice (Option.map (λx=>x.add (i*2)) ad) (n-i) (cap-i)\/(n=i/\∃x c,v=.slice x 0 c))->Src Tryz.prog 2 66 v (n-i) (B7 (piece L a b)) W/\(piece L a b).length=n-i):=by
   intro W n I hin hnl hn v hv;(have aA:(piece L a b).length=n-i:=by rw[aN.o,<-hn,Cz,BK];omega);have aM:=(aI.o W I).Bj;refine⟨?_,aA⟩;have aR:∀g,ad=some (A9 g 0)->∀(k:Nat) u,(B7 (piece L a b))[k]?=some u->A7 W g (i*2+k) u:=by
    intro g hg k u hk;subst hg;refine Bu aM (g:=g) rfl ?_;rw[aN.o,<-hn,<-MT,<-OT,IF,NU]at hk;split at hk
    ·exact hk
    ·cases hk
   have aB:n-i=0->∀x c,Src Tryz.prog 2 66 (.slice x 0 c) 0 (B7 (piece L a b)) W:=by
    intro h0 x c;have:piece L a b=[]:=NX iC;rw[this];cases x with
    | none=>exact Src.ofNil W underlying66 c
    | some y=>exact Jg W underlying66 _ 0 c [] rfl iE iE
   rcases hv with rfl|⟨hni,x,c,rfl⟩
   ·cases ad with
    | none=>
     have:=(aU.o rfl).1;have h0:n-i=0:=iC;rw[h0];exact aB h0 _ _
    | some x=>
     obtain⟨g,rfl⟩:=aT.o x rfl;refine Jg W underlying66 _ _ _ _ (by rw[GH,aA]) (λk u hk=>?_) (Lo _);have hx:Addr.add (Addr.add (A9 g 0) (i*2)) k=(A9 g (i*2+k)):=by
      unfold Addr.add;by_cases h1:i*2=0<;>by_cases h2:k=0<;>simp[h1,h2]
     rw[hx];exact aR g rfl k u hk
   ·have h0:n-i=0:=iC;rw[h0];exact aB h0 x c
  have HLEN:Hid ((piece L a b).length=j+(if hs then 1 else 0)-i):=by
   unfold Hid;rw[aH,Cz,BK];cases hs with
   | true=>have:=X rfl;simp;omega
   | false=>simp;omega
  have j0:=BJ j;have iz:=BJ i;have hij:(i:Int)<=(j:Int):=iC
  have hjc:(j:Int)<=(cap:Int):=iC
  have hic:(i:Int)<=(cap:Int):=iC
  have hbyt:(0+(j+1-i))*16<=140737488355328:=iC
  have aF:Hid (∀(W w3:gC) (n:Nat) (b3:Option Addr) (d:Nat),A4 Aa w W->(piece L a b).length=n->App W w3 70 2 (.slice none 0 0) (.slice b3 (0+n) d) (0+n) ([]++B7 (piece L a b))->Ch w3 (.slice b3 n d) (piece L a b)/\A4 Aa w w3/\∀g,(Value.slice b3 n d).ownBlock=some g->w.heap.size<=g):=by
   intro W w3 n b3 d I hn hA;refine⟨?_,I.tr hA.bE,λg hg=>?_⟩
   ·have:=hA.AB;unfold Ch;rw[hn];simpa using this
   ·have:=hA.AW g (by simpa using hg);have:=I.Ak;omega
  cases hs with
  | false=>
   by_cases aL:cap=i
   ·obtain rfl:i=cap:=aL.symm;(obtain rfl:j=i:=iC);have aJ:Hid (∀W x c,A4 Aa w W->Src Tryz.prog 2 66 (.slice x 0 c) 0 (B7 (piece L a b)) W/\(piece L a b).length=0):=λW x c I=>by
     have:=O.o W j I (An _) iC iE (.slice x 0 c) (.inr ⟨rfl,x,c,rfl⟩)
     rwa [NM]at this
    go_enter func80,ntmps80
    go_wp2_with (fail);refine(aO.o _ (A4.C _ _)).mono ?_;rintro e w1⟨x,rfl,k1⟩;have aD:=A1 k1;go_wp2_with (fail);refine(aS.o _ aD.o).k ?_;rintro w2 k2;have E:=A1 <| aD.o.tr k2;have c2:=(aI.o _ E.o).CQ;go_wp2_with (at_builtin;refine CX rfl (.const (.slice none 0 0)) (.tmp 35) 66 66 rfl 70 i0 _ 2 16 underlying66 hi hz0 hz1 hz2 rfl iF (.slice none 0 0) 0 [] (by rfl) (Cq _ 0 70 2) _ 0 _ (by rfl) (aJ.o _ _ _ E.o).1 iC ?_;intro b3 d w3 hA;have z:=A1 (aF.o _ w3 _ b3 d E.o (aJ.o _ none 0 E.o).2 hA));go_ret;exact⟨_,rfl,z.o.1,z.o.2.1,z.o.2.2⟩
   ·skip
    go_enter func80,ntmps80
    go_wp2_with (fail);refine(aO.o _ (A4.C _ _)).mono ?_;rintro e w1⟨x,rfl,k1⟩;have aD:=A1 k1;go_wp2_with (fail);refine(aS.o _ aD.o).k ?_;rintro w2 k2;have E:=A1 <| aD.o.tr k2;have c2:=(aI.o _ E.o).CQ;go_wp2_with (at_builtin;refine CX rfl (.const (.slice none 0 0)) (.tmp 35) 66 66 rfl 70 i0 _ 2 16 underlying66 hi hz0 hz1 hz2 rfl iF (.slice none 0 0) 0 [] (by rfl) (Cq _ 0 70 2) _ (j-i) _ (by rfl) (O.o _ j E.o iC iC iE _ (.inl rfl)).1 iC ?_;intro b3 d w3 hA;have z:=A1 (aF.o _ w3 _ b3 d E.o (O.o _ j E.o iC iC iE _ (.inl rfl)).2 hA));go_ret;exact⟨_,rfl,z.o.1,z.o.2.1,z.o.2.2⟩
  | true=>
   have hjl:=X rfl;have hjc':(j:Int)+1<=(cap:Int):=iC;have hij':(i:Int)<=(j:Int)+1:=iC;(have hjt:((j:Int)+1).toNat=j+1:=iC);by_cases aL:cap=i
   ·exfalso;omega
   ·skip
    go_enter func80,ntmps80
    go_wp2_with (fail);refine(aO.o _ (A4.C _ _)).mono ?_;rintro e w1⟨x,rfl,k1⟩;have aD:=A1 k1;go_wp2_with (fail);refine(aS.o _ aD.o).k ?_;rintro w2 k2;have E:=A1 <| aD.o.tr k2;have c2:=(aI.o _ E.o).CQ;go_wp2_with (at_builtin;refine CX rfl (.const (.slice none 0 0)) (.tmp 35) 66 66 rfl 70 i0 _ 2 16 underlying66 hi hz0 hz1 hz2 rfl iF (.slice none 0 0) 0 [] (by rfl) (Cq _ 0 70 2) _ ((j+1)-i) _ (by rfl) (O.o _ (j+1) E.o iC iC iE _ (.inl rfl)).1 iC ?_;intro b3 d w3 hA;have z:=A1 (aF.o _ w3 _ b3 d E.o (O.o _ (j+1) E.o iC iC iE _ (.inl rfl)).2 hA));go_ret;exact⟨_,rfl,z.o.1,z.o.2.1,z.o.2.2⟩
structure HV (w:gC) (b o:Nat) (cs:Array gD) (T:Nat) (L:gF Pt) (lv:gD):Prop where
 Ae:w.heap[b]?=some (.cells cs T (0,0))
 BX:cs[o]?=some lv
 Bj:Ch w lv L
 Gf:DV L
 Cw:L.length<1099511627776
def HV.b3{w:gC}{b o:Nat}{cs:Array gD}{T:Nat}{L:gF Pt}{lv:gD}(h:HV w b o cs T L lv):NH w b o L lv:=
 ⟨by simp[World.cell?,h.Ae,h.BX],h.Bj,h.Gf,h.Cw⟩
def HV.Am{w w':gC}{b o:Nat}{cs:Array gD}{T:Nat}{L:gF Pt}{lv:gD}(h:HV w b o cs T L lv)(d:A4 Aa w w'):HV w' b o cs T L lv:=
 ⟨(d.Al b (Bv h.Ae) (λh=>h)).trans h.Ae,h.BX,Au h.Bj λg z=>d.Al g (Aw h.Bj z) (λh=>h),h.Gf,h.Cw⟩
structure Ic (w w':gC) (b o:Nat) (cs:Array gD) (T:Nat) (lv:gD) (L':gF Pt) (lv':gD):Prop where
 Bj:HV w' b o (cs.setIfInBounds o lv') T L' lv'
 Am:A4 (λk=>k=b\/lv.ownBlock=some k) w w'
 AB:∀g,lv'.ownBlock=some g->lv.ownBlock=some g\/w.heap.size<=g
def A18(w:gC)(X I:Nat)(cs:Array gD)(T:Nat)(hT:T≠70)(L:gF Pt)(lv:gD)(t:Int)(h:HV w X I cs T L lv):
 Ag 72 #[.pointer (some (A9 X I)),A0 t] w (Aj (.tuple #[]) λw'=>∃aQ lv',(aQ=L\/aQ=L.drop (BF L t))/\Ic w w' X I cs T lv aQ lv'):=by
 have H:=A1 h;obtain⟨ad,cap,rfl,h1,h2,h3,h4,h5⟩:=B8 h.Bj;unfold maxLen at h2;have HA:=A1 h3;have aT:=A1 h4;have aS:=A1 h5;have⟨i0,hi,hz0,hz1,hz2⟩:=DQ Tryz.cy;have hsm:=h.Cw;have aP:=Jx L t;obtain⟨i,aB⟩:=iG (BF L t);rw[aB]at aP;have aN:Hid (Ag 116 #[.pointer (some (A9 X I)),A0 t] w λe w'=>∃x,e=.returned (.tuple #[A0 i,.bool x])/\A4 Aa w w'):=
  (Nc w X I L _ t h.b3).mono (by rintro e w'⟨rfl,h⟩;rw[aB];exact⟨_,rfl,h⟩)
 have aL:=A1 aB;clear h h3 h4 h5 aB;have iz:=BJ i;have hic:(i:Int)<=(L.length:Int):=iC
 have hlc:(L.length:Int)<=(cap:Int):=iC
 by_cases hgt:((L.length:Int)/2<(i:Int))
 ·
  have aH:Hid (∀W,A4 Aa w W->∀v m,(v=.slice (Option.map (λx=>x.add (i*2)) ad) m (cap-i)/\m=L.length-i\/(L.length=i/\m=0/\∃x c,v=.slice x 0 c))->Src Tryz.prog 2 66 v m (B7 (L.drop i)) W):=by
   intro W hW v m hv;have E:=(H.o.Am hW).Bj;have aD:L.length-i=0->∀x c,Src Tryz.prog 2 66 (.slice x 0 c) 0 (B7 (L.drop i)) W:=by
    intro h0 x c;have:L.drop i=[]:=IG iC;rw[this];cases x with
    | none=>exact Src.ofNil W underlying66 c
    | some y=>exact Jg W underlying66 _ 0 c [] rfl iE iE
   rcases hv with⟨rfl,rfl⟩|⟨hni,rfl,x,c,rfl⟩
   ·cases ad with
    | none=>
     have:=(aT.o rfl).1;have h0:L.length-i=0:=iC;rw[h0];exact aD h0 _ _
    | some x=>
     obtain⟨g,rfl⟩:=aS.o x rfl;refine Jg W underlying66 _ _ _ _ (by rw[GH,Cz]) (λk u hk=>?_) (Lo _);have hx:Addr.add (Addr.add (A9 g 0) (i*2)) k=(A9 g (i*2+k)):=by
      unfold Addr.add;by_cases h1:i*2=0<;>by_cases h2:k=0<;>simp[h1,h2]
     rw[hx];refine Bu E (g:=g) rfl ?_;rw[<-MT,IF]at hk;exact hk
   ·exact aD iC x c
  have aJ:Hid (∀(W Y:gC) (m:Nat) (O:Option Addr) (d:Nat),A4 Aa w W->m=L.length-i->App W Y 70 2 (.slice none 0 0) (.slice O (0+m) d) (0+m) ([]++B7 (L.drop i))->
   Y.cell? (A9 X I)=some (.slice ad L.length cap)/\Y.frozen? (A9 X I)=false/\Ic w (Y.sC X I (.slice O m d)) X I cs T (.slice ad L.length cap) (L.drop i) (.slice O m d)):=by
   intro W Y m O d hW hm hA;subst hm;have aA:=(hA.bE.Al X (Bv (H.o.Am hW).Ae) (λh=>h)).trans (H.o.Am hW).Ae;have E:Ch Y (.slice O (L.length-i) d) (L.drop i):=by
    have:=hA.AB;unfold Ch;rw[Cz];simpa using this
   have aR:=hW.tr hA.bE;refine⟨by simp[World.cell?,aA,H.o.BX],by simp[World.frozen?,aA],⟨⟨BQ aA,?_,?_,H.o.Gf.ct i,by rw[Cz];omega⟩,?_,?_⟩⟩
   ·have aF:=(QT.1 H.o.BX).1;simp[aF]
   ·refine Au E λg hg=>?_;have aM:g≠X:=λe=>by
     have⟨c,hh⟩:=B9 E hg;subst e;rw[aA]at hh;cases hh;exact hT rfl
    exact FB _ _ _ _ (λe=>aM (by simpa using e))
   ·exact(aR.ah (λ_ _ h=>h.elim)).an (.inl rfl) I _
   ·intro g hg;right;have:=hA.AW g (by simpa using hg);have:=hW.Ak;omega
  by_cases aO:cap=i
  ·obtain rfl:i=cap:=aO.symm;have aK:L.length=i:=iC;have aG:=A1 aK;clear aK
   go_enter func72,ntmps72
   go_wp2_with (fail);refine aN.m ?_;rintro e w1⟨x,rfl,k1⟩;have aE:=A1 k1;have c2:=(H.o.Am k1).b3.CQ;clear k1;go_wp2_with (at_builtin;refine CX rfl (.const (.slice none 0 0)) (.tmp 26) 66 66 rfl 70 i0 _ 2 16 underlying66 hi hz0 hz1 hz2 rfl iF (.slice none 0 0) 0 [] (by rfl) (Cq _ 0 70 2) _ 0 _ (by rfl) (aH.o _ aE.o _ 0 (.inr ⟨aG.o,rfl,_,_,rfl⟩)) iC ?_;intro O d Y hA;have z:=A1 (aJ.o _ Y 0 O d aE.o (by have:=aG.o;omega) hA);have y1:=z.o.1;have y2:=z.o.2.1;clear hA);go_end0;refine⟨rfl,_,.slice O 0 d,.inr rfl,?_⟩;rw[aL.o];have:=z.o.2.2;simpa using this
  ·go_enter func72,ntmps72
   go_wp2_with (fail);refine aN.m ?_;rintro e w1⟨x,rfl,k1⟩;have aE:=A1 k1;have c2:=(H.o.Am k1).b3.CQ;go_wp2_with (at_builtin;refine CX rfl (.const (.slice none 0 0)) (.tmp 26) 66 66 rfl 70 i0 _ 2 16 underlying66 hi hz0 hz1 hz2 rfl iF (.slice none 0 0) 0 [] (by rfl) (Cq _ 0 70 2) _ (L.length-i) _ (by rfl) (aH.o _ aE.o _ _ (.inl ⟨rfl,rfl⟩)) iC ?_;intro O d Y hA;have z:=A1 (aJ.o _ Y _ O d aE.o rfl hA);have y1:=z.o.1;have y2:=z.o.2.1);go_end0;refine⟨rfl,_,.slice O (L.length-i) d,.inr rfl,?_⟩;rw[aL.o];have:=z.o.2.2;simpa using this
 ·have hgt':(i:Int)<=(L.length:Int)/2:=iC
  go_enter func72,ntmps72
  go_wp2_with (fail);refine aN.m ?_;rintro e w1⟨x,rfl,k1⟩;have aE:=A1 k1;have c2:=(H.o.Am k1).b3.CQ;go_wp2;go_end0;have hR:=H.o.Am aE.o;refine⟨rfl,L,_,.inl rfl,⟨?_,aE.o.ah (λ_ _ h=>h.elim),λg hg=>.inl hg⟩⟩;have aI:cs.setIfInBounds I (.slice ad L.length cap)=cs:=by
   have⟨aF,he⟩:=QT.1 H.o.BX;apply A47;intro k;by_cases hk:I=k
   ·subst hk;simp[aF,he]
   ·rw[WK hk]
  rw[aI];exact hR
def Mw{P:Program}(w:gC){ops:Array Oper}{rest:gF Oper}{o:Oper}{a:Act}{Q:Exit->Act->gC->Prop}(z:o.guard=none)(d s:Operand)(t I:TypeId)(X:o.op=.call {callee:=.builtin .copy,args:=#[d,s],argTypes:=#[t,I]})(v u:gD)(L:a.eval d=v)(hs:a.eval s=u){E:gD}{w':gC}(Y:(Builtin.copy_ #[t,I] o.type #[v,u]).run P w=.ok E w')(h:wpList P ops Q rest (a.put o.dst E) w'):wpList P ops Q (o::rest) a w:=
 wpList_plain z λ_ O=>by
  unfold Oper.wp execOp;simp only[X,resolve,invoke,builtin,Sem.run_bind,Sem.run_pure,Result.andThen_ok,List.map_toArray,H4,List.map_nil,L,hs,Y];exact O _ _ h
def DH(d:gF gD)(L:gF Pt)(i:Nat):gF Value:=d.take ((i+1)*2)++B7 (L.drop i)++d.drop ((i+1)*2+(B7 (L.drop i)).length)
def E5(c:gF gD)(i:Nat)(t v:Int):gF Value:=c.take (i*2)++[A0 t,A0 v]++c.drop (i*2+2)
def Un(L:gF Pt)(i:Nat)(t v:Int):B7 (L.take i++(t,v):: L.drop i)=B7 (L.take i)++[A0 t,A0 v]++B7 (L.drop i):=by
 rw[Lp];simp[B7]
def Uy(d:gF gD)(L:gF Pt)(i:Nat)(hi:i<=L.length)(hlen:(L.length+1)*2<=d.length):(DH d L i).length=d.length:=by
 have h:(B7 (L.drop i)).length=(L.length-i)*2:=by rw[GH,Cz]
 unfold DH;simp only[B3,BK,Cz,h];omega
def PA(c:gF gD)(i:Nat)(t v:Int)(h:i*2+2<=c.length):(E5 c i t v).length=c.length:=by
 unfold E5;simp only[B3,BK,Cz,CA,Jk];omega
def A1I(L:gF Pt)(i:Nat)(hi:i<=L.length)(t v:Int)(d:gF gD)(h:d.take (i*2)=B7 (L.take i))(hlen:(L.length+1)*2<=d.length):
 (E5 (DH d L i) i t v).take ((L.length+1)*2)=B7 (L.take i++(t,v):: L.drop i):=by
 have z:(B7 (L.drop i)).length=(L.length-i)*2:=by rw[GH,Cz]
 have I:(d.take ((i+1)*2)).length=(i+1)*2:=by rw[BK];omega
 have O:(DH d L i).take (i*2)=B7 (L.take i):=by
  unfold DH;rw[Ci,HC (by rw[I];omega),KQ,show min (i*2) ((i+1)*2)=i*2 from by omega,h]
 have X:(DH d L i).drop (i*2+2)=B7 (L.drop i)++d.drop ((i+1)*2+(B7 (L.drop i)).length):=by
  unfold DH;rw[Ci]
  conv=>lhs;rw[show i*2+2=(d.take ((i+1)*2)).length from by rw[I];omega]
  rw[Ws]
 have E:(B7 (L.take i)++[A0 t,A0 v]++B7 (L.drop i)).length=(L.length+1)*2:=by
  simp only[B3,GH,z,BK,CA,Jk];omega
 unfold E5;rw[O,X,Un,<-Ci,<-E,K0]
structure IJ (w w':gC) (lv:gD) (L':gF Pt) (lv':gD):Prop where
 Bj:Ch w' lv' L'
 Am:A4 (λk=>lv.ownBlock=some k) w w'
 AB:∀g,lv'.ownBlock=some g->lv.ownBlock=some g\/w.heap.size<=g
def A1y(w:gC)(g cap:Nat)(L:gF Pt)(i z:Nat)(t v:Int)(hL:Ch w (AA g L.length cap) L)(hi:i<L.length)(O:L.length+1<=cap)(hsm:L.length<1099511627776)(hv:w.heap[z]?=some (.cells #[A0 t,A0 v] 70 (0,0)))(aD:z≠g):
 Ag 139 #[AA g L.length cap,A0 i,AA z 1 1] w λe w'=>∃lv',e=.returned lv'/\IJ w w' (AA g L.length cap) (L.take i++(t,v):: L.drop i) lv':=by
 have⟨cur,hg,hcs,htake,_,hcm⟩:=T9 hL;unfold maxLen at hcm;have⟨i0,hi0,hz0,hz1,hz2⟩:=DQ Tryz.cy;have aK:∀lb cb,(callFunc 181 #[AA z 1 1,.slice (some (A9 g ((i+1)*2))) lb cb]).run Tryz.prog w=.ok (.value (.bool false)) w:=λlb cb=>by
  have aM:∀w,(Go.sizeOf 70).run Tryz.prog w=.ok 2 w:=λw=>by simp[sizeOf,typeInfo,hi0,hz1]
  rw[YK func181 (by kernel_rfl) (by kernel_rfl) (by kernel_rfl) (e:=Extern.SlicesOverlaps.overlaps #[66,66] #[4]) (by kernel_rfl),
   Lib.run_overlaps_apart w 66 4 70 underlying66 2 aM (A9 z 0) (A9 g ((i+1)*2)) 1 1 lb cb aD 70 70 2 cur.size (by simp[World.shape?,hv]) (by simp[World.shape?,hg]) (by rw[hcs];omega) (by simp[World.frozen?,hv]) (by simp[World.frozen?,hv])]
  rfl
 have aH:(L.length+1)*2<=cur.toList.length:=by have:=Ms (xs:=cur);omega
 have d:(DH cur.toList L i).length=cap*2:=by rw[Uy _ _ _ iC aH,Ms,hcs]
 have aG:(B7 (L.drop i)).length=(L.length-i)*2:=by rw[GH,Cz]
 have aJ:cur.toList.take (i*2)=B7 (L.take i):=by
  rw[show i*2=min (i*2) (L.length*2) from by omega,<-KQ,htake,OT]
 have aN:∀(x y:Nat),Addr.add (A9 g x) y=(A9 g (x+y)):=λx y=>by unfold Addr.add;by_cases h:y=0<;>simp[h]
 have aO:∀(y:Nat),Addr.add (A9 z 0) y=(A9 z y):=λy=>by unfold Addr.add;by_cases h:y=0<;>simp[h]
 have aE:Hid (∀Y I sc,(Builtin.copy_ #[66,66] Y #[.slice (some (A9 g ((i+1)*2))) (L.length-i) I,.slice (some (A9 g (i*2))) (L.length+1-i) sc]).run Tryz.prog w.drew=.ok (goInt ((L.length-i:Nat):Int)) (w.drew.setRow g (DH cur.toList L i).toArray)):=λY I sc=>
  MG w.drew _ _ Y 70 i0 2 g ((i+1)*2) _ I (A9 g (i*2)) _ sc (L.length-i) cur 70 (B7 (L.drop i)) underlying66 hi0 hz1 hg (by simp only[Wa];split<;>omega) aG
   (λj u E=>by
    rw[aN];refine Bu (w:=w) hL (g:=g) rfl ?_
    rw[<-MT,IF]at E;exact E)
   (by rw[aG,hcs];omega) (Lo _)
 have aB:Hid (∀Y I,(Builtin.copy_ #[66,66] Y #[.slice (some (A9 g (i*2))) (L.length+1-i) I,AA z 1 1]).run Tryz.prog (w.drew.setRow g (DH cur.toList L i).toArray)=.ok (goInt ((1:Nat):Int)) ((w.drew.setRow g (DH cur.toList L i).toArray).setRow g (E5 (DH cur.toList L i) i t v).toArray)):=λY I=>by
  have X:(w.drew.setRow g (DH cur.toList L i).toArray).heap[g]?=some (.cells (DH cur.toList L i).toArray 70 (0,0)):=Li w.drew g cur _ 70 _ hg;have:=MG (P:=Tryz.prog) (w.drew.setRow g (DH cur.toList L i).toArray) 66 66 Y 70 i0 2 g (i*2) (L.length+1-i) I (A9 z 0) 1 1 1 (DH cur.toList L i).toArray 70 [A0 t,A0 v] underlying66 hi0 hz1 X (by simp only[Wa];split<;>omega) rfl
   (λj u E=>by
    rw[aO];have aI:(w.drew.setRow g (DH cur.toList L i).toArray).heap[z]?=some (.cells #[A0 t,A0 v] 70 (0,0)):=(Kj w.drew g z _ aD).trans hv;unfold World.cell?;rw[aI]
    match j,E with
    | 0,E=>simpa using E
    | 1,E=>simpa using E
    | j+2,E=>simp at E)
   (by simp only[Me,d,CA,Jk];omega) (by simp[Value.oneCell'])
  simpa[E5] using this
 have aP:Hid (IJ w ((w.drew.setRow g (DH cur.toList L i).toArray).setRow g (E5 (DH cur.toList L i) i t v).toArray) (AA g L.length cap) (L.take i++(t,v):: L.drop i) (AA g (L.length+1) cap)):=by
  have X:(w.drew.setRow g (DH cur.toList L i).toArray).heap[g]?=some (.cells (DH cur.toList L i).toArray 70 (0,0)):=Li w.drew g cur _ 70 _ hg;have aL:((w.drew.setRow g (DH cur.toList L i).toArray).setRow g (E5 (DH cur.toList L i) i t v).toArray).heap[g]?=some (.cells (E5 (DH cur.toList L i) i t v).toArray 70 (0,0)):=Li _ g _ _ 70 _ X;have aA:(L.take i++(t,v):: L.drop i).length=L.length+1:=by simp;omega
  refine⟨?_,?_,λg' h'=>.inl h'⟩
  ·unfold Ch;rw[aA];refine⟨by rw[GH,aA],.inr ⟨g,cap,_,rfl,Cb _,aL,O,by unfold maxLen;omega,?_,?_⟩⟩
   ·rw[Me,PA _ _ _ _ (by rw[d];omega),d]
   ·exact A1I L i iC t v cur.toList aJ aH
  ·refine⟨rfl,rfl,rfl,iE,λk hk hn=>?_⟩;have aF:k≠g:=λe=>hn (by simp[Value.ownBlock,e]);rw[Kj _ g k _ aF,Kj _ g k _ aF];rfl
 have q1:((i:Int)==(L.length:Int))=false:=by simp;omega
 have q2:¬(cap=i):=iC
 have q3:¬(cap=i+1):=iC
 have q4:(i:Int)<=(L.length:Int):=iC
 have q7:((L.length:Int)+1).toNat=L.length+1:=iC
 have q8:((i:Int)+1).toNat=i+1:=iC
 have q9:(i:Int)+1<=(L.length:Int)+1:=iC
 have q10:=BJ i;have q11:(i:Int)<=(L.length:Int)+1:=iC
 have q13:(0:Int)<=(i:Int)+1:=iC
 have q12:IntKind.i64.wrap ((i:Int)+1)=(i:Int)+1:=by simp only[K8];omega
 go_enter func139,ntmps139
 go_wp2_with (simp only[aK]);refine La 8 (by kernel_rfl) (by kernel_rfl) ?_;simp only[M1,FW,Fw,DK,Dm]
 repeat still_step
 refine Lb ?_;refine Mw _ rfl (.tmp 73) (.tmp 76) 66 66 rfl _ _ (by rfl) (by rfl) (aE.o _ _ _) ?_;go_wp2_with (refine Mw _ rfl (.tmp 80) (.tmp 81) 66 66 rfl _ _ (by rfl) (by rfl) (aB.o _ _) ?_);go_ret;exact⟨_,rfl,aP.o⟩
def Tryz.fJ:(Tryz.prog.info? 70).map (λi=>(i.zero,i.size,i.bytes))=some (some (.agg #[A0 0,A0 0]),2,16):=by kernel_rfl
def GG(d a b ld A8:Int)(p:Pu):Bool:=decide (p.1=d)&&decide (a<=p.2.1)&&decide (p.2.1<=b)&&EJ p.2.1 ld A8
def FG(d a b ld A8:Int)(l:gF Pt)(p:Pu):gF Pt:=if GG d a b ld A8 p then Ce l p.2.1 p.2.2 else l
def refQ(pd:gF Pu)(d a b ld A8:Int):gF Pt:=pd.foldl (FG d a b ld A8) []
def Py(l:gF Pt)(t v:Int):l.length<=(Ce l t v).length/\(Ce l t v).length<=l.length+1:=by
 induction l with
 | nil=>simp[Ce]
 | cons e r ih=>
  obtain⟨a,b⟩:=e;simp only[Ce];split
  ·simp only[CA];omega
  ·split<;>simp only[CA]<;>omega
def Sw(pd:gF Pu)(k:Nat)(h:k<pd.length)(d a b ld A8:Int):refQ (pd.take (k+1)) d a b ld A8=FG d a b ld A8 (refQ (pd.take k) d a b ld A8) (pd[k]'h):=by
 unfold refQ;rw[Ds h,NV];rfl
def OM(pd:gF Pu)(d a b ld A8:Int)(k:Nat)(hk:k<=pd.length):DV (refQ (pd.take k) d a b ld A8)/\(refQ (pd.take k) d a b ld A8).length<=k:=by
 induction k with
 | zero=>simp[refQ,DV]
 | succ k ih=>
  have⟨h1,h2⟩:=ih iC;rw[Sw pd k iC];unfold FG;split
  ·have:=(Py (refQ (pd.take k) d a b ld A8) (pd[k]' iC).2.1 (pd[k]' iC).2.2).2;exact⟨LM h1 _ _,iC⟩
  ·exact⟨h1,iC⟩
def Uw{l:gF Pt}{t:Int}(v:Int){j:Nat}(d:BF l t=j)(z:∀h:j<l.length,(l[j]'h).1≠t):Ce l t v=l.take j++(t,v):: l.drop j:=by
 rw[Pz,d];have:(l[j]?).any (λx=>x.1==t)=false:=by
  by_cases h:j<l.length
  ·rw[Dx h];simpa using z h
  ·rw[Mi iC];rfl
 rw[this];simp
def A1L{l:gF Pt}{t:Int}(v:Int){j:Nat}(d:BF l t=j)(h:j<l.length)(z:(l[j]'h).1=t):Ce l t v=l.set j (t,v):=by
 rw[Pz,d];have:(l[j]?).any (λx=>x.1==t)=true:=by rw[Dx h];simpa using z
 rw[this,A4G];simp[h]
def Yp(l:gF Pt)(x:Pt)(i:Nat)(d:i<l.length):(l.take (i+1)++x::l.drop (i+1)).set (i+1) (l[i]'d)=l.take i++(l[i]'d):: l.drop i:=by
 have h:(l.take (i+1)).length=i+1:=by simp;omega
 rw[Jj _ _ iC,h,NM,Wf,Ds d,Ci,FY d];rfl
def T3(l:gF Pt)(x y:Pt)(i:Nat)(hi:i<=l.length):(l.take i++x::l.drop i).set i y=l.take i++y::l.drop i:=by
 have d:(l.take i).length=i:=by simp;omega
 rw[Jj _ _ iC,d,NM,Wf]
def SM(w:gC)(pv:gD)(pd:gF Pu)(m:Nat)(hp:GZ w pv pd)(hm:m<=pd.length)(hl:pd.length<1099511627776)(hP:∀p∈pd,Ay p.2.1)(d a b ld A8:Int)(bE:1<=ld/\ld<=4611686018427387904)(aY:Ay A8):
 Ag 92 #[pv,A0 m,A0 d,A0 a,A0 b,A0 ld,A0 A8] w λe w'=>∃v,e=.returned v/\Ch w' v (refQ (pd.take m) d a b ld A8)/\A4 Aa w w'/\∀g,v.ownBlock=some g->w.heap.size<=g:=by
 obtain⟨ap,cp,rfl,hp1,b5,a9⟩:=hp.BW;unfold maxLen at b5;have cE:=A1 a9;have cD:=A1 bE;have cA:=A1 aY;have b9:=A1 hP;have⟨i0,hi0,hz0,hz1,hz2⟩:=DQ Tryz.fJ
 go_enter func92,ntmps92
 go_wp2;go_loopw [15,16] (λlv iv wr=>∃k:Nat,k<=m/\iv=A0 k/\Hid (Ch wr lv (refQ (pd.take k) d a b ld A8))/\Hid (A4 Aa w wr)/\Hid (∀g,lv.ownBlock=some g->w.heap.size<=g)) (λ_ iv _=>m-(intOf iv).toNat)
 ·exact⟨0,Cb _,rfl,Cq _ _ _ _,A4.C _ _,by simp[Hid,Value.ownBlock]⟩
 ·obtain⟨k,hk,rfl,a1,aU,aD⟩:=hrel;obtain⟨X,b8⟩:=iH wr;subst b8;by_cases hlk:k<m
  ·obtain⟨g,rfl,I,q1,q2,q3⟩:=cE.o k iC;obtain⟨⟨s,t,v⟩,hx⟩:∃p,pd[k]' iC=p:=⟨_,rfl⟩;rw[hx]at q1 q2 q3;have bY:=hx ▸ BT _;have q1:=(DU (aU.o.Al g I (λh=>h))).trans q1;have q2:=(DU (aU.o.Al g I (λh=>h))).trans q2;have q3:=(DU (aU.o.Al g I (λh=>h))).trans q3;obtain⟨L,hL⟩:=iG (refQ (pd.take k) d a b ld A8);have bK:=OM pd d a b ld A8 k iC;rw[hL]at bK a1;obtain⟨a4,aK⟩:=bK;have bX:=A1 a4;obtain⟨al,bJ⟩:=iG (EJ t ld A8);have aS:Hid (∀W:gC,Ag 123 #[A0 t,A0 ld,A0 A8] W (Aj (.bool al) λw'=>W=w')):=λW=>by
    rw[<-bJ];exact VO t ld A8 W (b9.o _ bY) cD.o cA.o cA.o.2
   have bO:Hid (refQ (pd.take (k+1)) d a b ld A8=if decide (s=d)&&decide (a<=t)&&decide (t<=b)&&al then Ce L t v else L):=by
    unfold Hid;rw[Sw pd k iC,hL,hx];simp only[FG,GG,bJ]
   have hi0':(0:Int)<=(k:Int):=GA _;have hi1':(k:Int)<(pd.length:Int):=iC;have bR:Hid (Ch (X.aC #[A0 s,A0 t,A0 v] 141) u15 L):=Au a1.o λg I=>CW _ _ _ (Aw a1.o I);have cB:Hid (A4 Aa w (X.aC #[A0 s,A0 t,A0 v] 141)):=aU.o.ai _;have aM:Hid ((decide (s=d)&&decide (a<=t)&&decide (t<=b)&&al)=false->∃k':Nat,k'<=m/\A0 ((k:Int)+1)=A0 k'/\Hid (Ch (X.aC #[A0 s,A0 t,A0 v] 141) u15 (refQ (pd.take k') d a b ld A8))/\Hid (A4 Aa w (X.aC #[A0 s,A0 t,A0 v] 141))/\Hid (∀g,u15.ownBlock=some g->w.heap.size<=g)):=λhf=>
    ⟨k+1,iC,by go_num,by unfold Hid;rw[bO.o,hf];exact bR.o,cB.o,aD.o⟩
   have hkm:(k:Int)<(m:Int):=iC;by_cases hs:s=d
   ·subst hs;by_cases hf:t<a
    ·have hr:=A1 (show ¬a<=t by omega);go_wp2_with (go_at_call 123;refine(aS.o _).k ?_;rintro w' rfl);go_roundw
     ·exact aM.o (by have h0:decide (a<=t)=false:=CO (by have:=hr.o;omega);simp[h0])
     ·simp[intOf];omega
    ·have bS:a<=t:=iC;by_cases ht:b<t
     ·have hr:=A1 (show ¬t<=b by omega);go_wp2_with (go_at_call 123;refine(aS.o _).k ?_;rintro w' rfl);go_roundw
      ·exact aM.o (by have h0:decide (t<=b)=false:=CO (by have:=hr.o;omega);simp[h0])
      ·simp[intOf];omega
     ·have bT:t<=b:=iC;cases al with
      | false=>
       go_wp2_with (go_at_call 123;refine(aS.o _).k ?_;rintro w' rfl);go_roundw
       ·exact aM.o iE
       ·simp[intOf];omega
      | true=>
       (have a5:Hid (refQ (pd.take (k+1)) s a b ld A8=Ce L t v):=by have:=bO.o;unfold Hid;simpa[bS,bT] using this);obtain⟨aL,cL,rfl,hcl1,bH,bI,_,_⟩:=B8 bR.o;unfold maxLen at bH;have bZ:=A1 bI;have bU:=Bn X (.cells #[A0 s,A0 t,A0 v] 141);have cF:=A1 bU;go_wp2_with (go_at_call 123;refine(aS.o _).k ?_;rintro w' rfl);go_loopw [19] (λav wq=>∃j:Nat,j<=L.length/\av=A0 j/\Hid (∀i (hi:i<L.length),i<j->(L[i]'hi).1<t)/\Hid (A4 Aa (X.aC #[A0 s,A0 t,A0 v] 141) wq)) (λav _=>L.length-(intOf av).toNat)
       ·exact⟨0,Cb _,rfl,λi hi h=>iC,A4.C _ _⟩
       ·obtain⟨j,hj,rfl,Y,aZ⟩:=hrel;obtain⟨O,bV⟩:=iH wr;subst bV;have a7:O.heap[X.heap.size]?=some (.cells #[A0 s,A0 t,A0 v] 141 (0,0)):=(aZ.o.Al _ iE (λh=>h)).trans cF.o;(have b1:A7 O X.heap.size 1 (A0 t):=by simp[A7,World.cell?,a7]);(have b2:A7 O X.heap.size 2 (A0 v):=by simp[A7,World.cell?,a7]);have a0:=A1 a7;have aI:Hid (Ch O (.slice aL L.length cL) L):=Au bR.o λg I=>aZ.o.Al g (Aw bR.o I) (λh=>h);have aQ:Hid (A4 Aa w O):=cB.o.tr aZ.o;by_cases aO:j<L.length
        ·obtain⟨g2,rfl⟩:=bZ.o iC;obtain⟨⟨tj,vj⟩,bL⟩:∃x,L[j]'aO=x:=⟨_,rfl⟩;have⟨d1,d2⟩:=aI.o.bt j aO;rw[bL]at d1 d2;have aN:=A1 bL;have j0:=BJ j;have j1:(j:Int)<(L.length:Int):=iC;by_cases b6:tj<t
         ·go_wp2;go_quiet (fail);go_wp2;go_roundw
          ·refine⟨j+1,iC,by go_num,λi hi h=>?_,aZ.o.a7 _⟩;by_cases a6:i=j
           ·subst a6;rw[aN.o];exact b6
           ·exact Y.o i hi iC
          ·simp[intOf];omega
         ·have bN:t<=tj:=iC;have aW:Hid (BF L t=j):=MU bX.o hj Y.o λi hi h=>by
           by_cases a6:i=j
           ·subst a6;rw[aN.o];exact bN
           ·have:=K1.1 bX.o j i aO hi iC;rw[aN.o]at this;simp only at this;omega
          by_cases bA:tj=t
          ·subst bA;have aB:Hid (∀n,Ch ((O.drewN n).sC g2 (j*2+1) (A0 v)) (AA g2 L.length cL) (Ce L tj v)/\A4 Aa w ((O.drewN n).sC g2 (j*2+1) (A0 v))):=by
            intro n;have s1:=(aI.o.stored (j*2+1) (A0 v)).1;rw[ZK L j v aO,aN.o]at s1;have bQ:Ce L tj v=L.set j (tj,v):=A1L v aW.o aO (by rw[aN.o]);refine⟨?_,?_⟩
            ·rw[bQ];unfold Ch;rw[HX];exact Au s1 λg _=>rfl
            ·have hgw:w.heap.size<=g2:=aD.o g2 rfl;exact(aQ.o.a7 n).bc (p:=(A9 g2 (j*2+1))) (λh=>by simp at h;omega) (A0 v)
           have gz:O.frozen? (A9 g2 (j*2+1))=false:=ER aI.o rfl _;go_wp2;go_quiet (fail);go_wp2;go_quiet (fail);go_wp2;go_roundw
           ·exact⟨k+1,iC,by go_num,by unfold Hid;rw[a5.o];exact(aB.o _).1,(aB.o _).2,aD.o⟩
           ·simp[intOf];omega
          ·(have aP:Hid (Ce L t v=L.take j++(t,v):: L.drop j):=Uw v aW.o λh=>by rw[aN.o];exact bA);have aR:j<=L.length:=hj;(have hne:(tj==t)=false:=by simpa using bA);have aF:(L.length+1)*16<=140737488355328:=iC;have aA:Hid (∀n,((O.drewN n).aC #[A0 0,A0 0] 70).ownsRow 0 70 2 (AA g2 L.length cL) L.length (B7 L)):=λn=>Au aI.o λg I=>CW _ _ _ (Aw aI.o I);have aV:Hid (∀n,Src Tryz.prog 2 66 (AA O.heap.size 1 1) 1 [A0 0,A0 0] ((O.drewN n).aC #[A0 0,A0 0] 70)):=
            λn=>Src.bb underlying66 (O.drewN n) #[A0 0,A0 0] 70 O.heap.size iE 1 1 rfl (by simp[Value.oneCell'])
           have bB:Hid (∀n w3 a3 z,App ((O.drewN n).aC #[A0 0,A0 0] 70) w3 70 2 (AA g2 L.length cL) (.slice a3 (L.length+1) z) (L.length+1) (B7 L++[A0 0,A0 0])->
            w3.heap[X.heap.size]?=some (.cells #[A0 s,A0 t,A0 v] 141 (0,0))/\A4 Aa w w3/\(∀g,(Value.slice a3 (L.length+1) z).ownBlock=some g->w.heap.size<=g)/\w3.ownsRow 0 70 2 (.slice a3 (L.length+1) z) (L.length+1) (B7 (L.take L.length++(0,0):: L.drop L.length))):=by
            intro n w3 a3 z hA;have b7:=aQ.o.Ak;refine⟨?_,?_,?_,?_⟩
            ·have h5:((O.drewN n).aC #[A0 0,A0 0] 70).heap[X.heap.size]?=some (.cells #[A0 s,A0 t,A0 v] 141 (0,0)):=(CW _ _ _ (by simpa using Bv a0.o)).trans a0.o
             exact(hA.C7.block _ (Bv h5) (λe=>by
              have⟨c,hh⟩:=B9 (aA.o n) e.symm
              exact BR h5 hh iF rfl)).trans h5
            ·exact((aQ.o.a7 n).ai _).C7 hA.C7 λk hk bW=>by have:=aD.o k hk;omega
            ·intro g I;rcases hA.BX with e|e
             ·rw[e]at I;exact aD.o g I
             ·rw[e]at I;cases I;simp;omega
            ·have:=hA.AB;rw[Eu (An _),IG (An _),Lp];exact this
           go_wp2;go_quiet (fail);go_wp2;go_quiet (fail);go_wp2_with (at_builtin;refine CX rfl (.tmp 91) (.tmp 93) 66 66 rfl 70 i0 _ 2 16 underlying66 hi0 hz0 hz1 hz2 rfl iF _ L.length (B7 L) (by rfl) (aA.o _) _ 1 _ (by rfl) (aV.o _) aF ?_;intro a3 z w3 hA;have bC:=A1 (bB.o _ w3 a3 z hA));have⟨hbx3,hc3,hfr3,hrow3⟩:=bC.o;have⟨_,_,e3,_,hcap3',h3s,_⟩:=B8 hrow3;cases e3;obtain⟨E,rfl⟩:=h3s iC;unfold maxLen at hcap3';have aT:=A1 hbx3;have a8:=A1 hc3;have aJ:=A1 hrow3;have bP:w.heap.size<=E:=hfr3 E rfl;go_loopw [20] (λkv wz=>∃i:Nat,j<=i/\i<=L.length/\kv=A0 i/\Hid (A4 Aa w wz)/\Hid (wz.heap[X.heap.size]?=some (.cells #[A0 s,A0 t,A0 v] 141 (0,0)))/\Hid (∃x,wz.ownsRow 0 70 2 (AA E (L.length+1) z) (L.length+1) (B7 (L.take i++x::L.drop i)))) (λkv _=>(intOf kv).toNat)
           ·exact⟨L.length,aR,An _,rfl,a8.o,aT.o,(0,0),aJ.o⟩
           ·obtain⟨i,b4,bG,rfl,aX,aG,bF⟩:=hrel;have⟨⟨x1,x2⟩,hrx⟩:=bF.o;have aE:=A1 hrx;have z0:=ER hrx (g:=E) rfl (i*2);have z1:=ER hrx (g:=E) rfl (i*2+1);(have xl:(L.take i++(x1,x2):: L.drop i).length=L.length+1:=by simp;omega);have o0:=Bu hrx (g:=E) rfl (MS _ i (by rw[xl];omega));have o1:=Bu hrx (g:=E) rfl (MR _ i (by rw[xl];omega));(have iB:(i:Int)<((L.length+1:Nat):Int):=iC);have iA:=BJ i;have bD:(L.take i++(x1,x2):: L.drop i)[i]'(by rw[xl];omega)=(x1,x2):=by
             rw[Gj (by simp;omega)];simp[Nat.min_eq_left bG]
            rw[bD]at o0 o1;have aH:=A1 xl;have iD:(i:Int)<(L.length:Int)+1:=iC;by_cases b3:j<i
            ·have h1:(i-1)<L.length:=iC;obtain⟨⟨ti,vi⟩,bM⟩:∃y,L[i-1]'h1=y:=⟨_,rfl⟩;have b0:(L.take i++(x1,x2):: L.drop i)[i-1]'(by rw[aH.o];omega)=(ti,vi):=by
              rw[Fy (by simp;omega)];simp[bM]
             have c0:=Bu aE.o (g:=E) rfl (MS _ (i-1) (by rw[aH.o];omega));have c1:=Bu aE.o (g:=E) rfl (MR _ (i-1) (by rw[aH.o];omega));rw[b0]at c0 c1;have hgt':(j:Int)<(i:Int):=iC;have i1:(0:Int)<=(i:Int)-1:=iC;(have i3:((i:Int)-1).toNat=i-1:=iC);have cC:Hid (∀wy:gC,wy=((wr.sC E (i*2) (A0 ti)).sC E (i*2+1) (A0 vi))->A4 Aa w wy/\wy.heap[X.heap.size]?=some (.cells #[A0 s,A0 t,A0 v] 141 (0,0))/\wy.ownsRow 0 70 2 (AA E (L.length+1) z) (L.length+1) (B7 (L.take (i-1)++(ti,vi):: L.drop (i-1)))):=by
              intro wy hy;subst hy;have s1:=(aE.o.stored (i*2) (A0 ti)).1;have s2:=(s1.stored (i*2+1) (A0 vi)).1;have e:=Ln (L.take i++(x1,x2):: L.drop i) i (ti,vi) (by rw[aH.o];omega);have e2:=Yp L (x1,x2) (i-1) h1;rw[show i-1+1=i from by omega,bM]at e2;simp only at e;rw[e,e2]at s2;have⟨ce,hce⟩:=B9 aE.o (g:=E) rfl;refine⟨(aX.o.bc (p:=(A9 E (i*2))) (λh=>by simp at h;omega) _).bc (p:=(A9 E (i*2+1))) (λh=>by simp at h;omega) _,?_,s2⟩;have a2:X.heap.size≠E:=λe=>BR aG.o hce iF e;rw[FB _ _ _ _ a2,FB _ _ _ _ a2];exact aG.o
             go_wp2;go_roundw
             ·have⟨k1,k2,k3⟩:=cC.o _ rfl;exact⟨i-1,iC,iC,by go_num,k1,k2,(ti,vi),k3⟩
             ·simp[intOf];omega
            ·(obtain rfl:i=j:=iC);(have p1:A7 wr X.heap.size 1 (A0 t):=by simp[A7,World.cell?,aG.o]);(have p2:A7 wr X.heap.size 2 (A0 v):=by simp[A7,World.cell?,aG.o]);have aB:Hid (∀wy:gC,wy=((wr.sC E (i*2) (A0 t)).sC E (i*2+1) (A0 v))->Ch wy (AA E (L.length+1) z) (Ce L t v)/\A4 Aa w wy):=by
              intro wy hy;subst hy;have s1:=(aE.o.stored (i*2) (A0 t)).1;have s2:=(s1.stored (i*2+1) (A0 v)).1;have e:=Ln (L.take i++(x1,x2):: L.drop i) i (t,v) (by rw[aH.o];omega);simp only at e;rw[e,T3 L (x1,x2) (t,v) i aR,<-aP.o]at s2;(have aK:(Ce L t v).length=L.length+1:=by rw[aP.o];simp;try omega);refine⟨?_,(aX.o.bc (p:=(A9 E (i*2))) (λh=>by simp at h;omega) _).bc (p:=(A9 E (i*2+1))) (λh=>by simp at h;omega) _⟩;unfold Ch;rw[aK];exact s2
             go_wp2;go_roundw
             ·exact⟨k+1,iC,by go_num,by unfold Hid;rw[a5.o];exact(aB.o _ rfl).1,(aB.o _ rfl).2,by intro g I;simp[Value.ownBlock]at I;omega⟩
             ·simp[intOf];omega
        ·(obtain rfl:j=L.length:=iC);(have aW:Hid (BF L t=L.length):=MU bX.o (An _) (λi hi h=>Y.o i hi h) λi hi h=>iC);(have aP:Hid (Ce L t v=L.take L.length++(t,v):: L.drop L.length):=Uw v aW.o λh=>iC);have aR:L.length<=L.length:=hj;have aF:(L.length+1)*16<=140737488355328:=iC;have aA:Hid (∀n,((O.drewN n).aC #[A0 0,A0 0] 70).ownsRow 0 70 2 (.slice aL L.length cL) L.length (B7 L)):=λn=>Au aI.o λg I=>CW _ _ _ (Aw aI.o I);have aV:Hid (∀n,Src Tryz.prog 2 66 (AA O.heap.size 1 1) 1 [A0 0,A0 0] ((O.drewN n).aC #[A0 0,A0 0] 70)):=
          λn=>Src.bb underlying66 (O.drewN n) #[A0 0,A0 0] 70 O.heap.size iE 1 1 rfl (by simp[Value.oneCell'])
         have bB:Hid (∀n w3 a3 z,App ((O.drewN n).aC #[A0 0,A0 0] 70) w3 70 2 (.slice aL L.length cL) (.slice a3 (L.length+1) z) (L.length+1) (B7 L++[A0 0,A0 0])->
          w3.heap[X.heap.size]?=some (.cells #[A0 s,A0 t,A0 v] 141 (0,0))/\A4 Aa w w3/\(∀g,(Value.slice a3 (L.length+1) z).ownBlock=some g->w.heap.size<=g)/\w3.ownsRow 0 70 2 (.slice a3 (L.length+1) z) (L.length+1) (B7 (L.take L.length++(0,0):: L.drop L.length))):=by
          intro n w3 a3 z hA;have b7:=aQ.o.Ak;refine⟨?_,?_,?_,?_⟩
          ·have h5:((O.drewN n).aC #[A0 0,A0 0] 70).heap[X.heap.size]?=some (.cells #[A0 s,A0 t,A0 v] 141 (0,0)):=(CW _ _ _ (by simpa using Bv a0.o)).trans a0.o
           exact(hA.C7.block _ (Bv h5) (λe=>by
            have⟨c,hh⟩:=B9 (aA.o n) e.symm
            exact BR h5 hh iF rfl)).trans h5
          ·exact((aQ.o.a7 n).ai _).C7 hA.C7 λk hk bW=>by have:=aD.o k hk;omega
          ·intro g I;rcases hA.BX with e|e
           ·rw[e]at I;exact aD.o g I
           ·rw[e]at I;cases I;simp;omega
          ·have:=hA.AB;rw[Eu (An _),IG (An _),Lp];exact this
         go_wp2;go_quiet (fail);go_wp2;go_quiet (fail);go_wp2_with (at_builtin;refine CX rfl (.tmp 91) (.tmp 93) 66 66 rfl 70 i0 _ 2 16 underlying66 hi0 hz0 hz1 hz2 rfl iF _ L.length (B7 L) (by rfl) (aA.o _) _ 1 _ (by rfl) (aV.o _) aF ?_;intro a3 z w3 hA;have bC:=A1 (bB.o _ w3 a3 z hA));have⟨hbx3,hc3,hfr3,hrow3⟩:=bC.o;have⟨_,_,e3,_,hcap3',h3s,_⟩:=B8 hrow3;cases e3;obtain⟨E,rfl⟩:=h3s iC;unfold maxLen at hcap3';have aT:=A1 hbx3;have a8:=A1 hc3;have aJ:=A1 hrow3;have bP:w.heap.size<=E:=hfr3 E rfl;go_loopw [20] (λkv wz=>∃i:Nat,L.length<=i/\i<=L.length/\kv=A0 i/\Hid (A4 Aa w wz)/\Hid (wz.heap[X.heap.size]?=some (.cells #[A0 s,A0 t,A0 v] 141 (0,0)))/\Hid (∃x,wz.ownsRow 0 70 2 (AA E (L.length+1) z) (L.length+1) (B7 (L.take i++x::L.drop i)))) (λkv _=>(intOf kv).toNat)
         ·exact⟨L.length,aR,An _,rfl,a8.o,aT.o,(0,0),aJ.o⟩
         ·obtain⟨i,b4,bG,rfl,aX,aG,bF⟩:=hrel;have⟨⟨x1,x2⟩,hrx⟩:=bF.o;have aE:=A1 hrx;have z0:=ER hrx (g:=E) rfl (i*2);have z1:=ER hrx (g:=E) rfl (i*2+1);(have xl:(L.take i++(x1,x2):: L.drop i).length=L.length+1:=by simp;omega);have o0:=Bu hrx (g:=E) rfl (MS _ i (by rw[xl];omega));have o1:=Bu hrx (g:=E) rfl (MR _ i (by rw[xl];omega));(have iB:(i:Int)<((L.length+1:Nat):Int):=iC);have iA:=BJ i;have bD:(L.take i++(x1,x2):: L.drop i)[i]'(by rw[xl];omega)=(x1,x2):=by
           rw[Gj (by simp;omega)];simp[Nat.min_eq_left bG]
          rw[bD]at o0 o1;have aH:=A1 xl;have iD:(i:Int)<(L.length:Int)+1:=iC;by_cases b3:L.length<i
          ·omega
          ·(obtain rfl:i=L.length:=iC);(have p1:A7 wr X.heap.size 1 (A0 t):=by simp[A7,World.cell?,aG.o]);(have p2:A7 wr X.heap.size 2 (A0 v):=by simp[A7,World.cell?,aG.o]);have aB:Hid (∀wy:gC,wy=((wr.sC E (L.length*2) (A0 t)).sC E (L.length*2+1) (A0 v))->Ch wy (AA E (L.length+1) z) (Ce L t v)/\A4 Aa w wy):=by
            intro wy hy;subst hy;have s1:=(aE.o.stored (L.length*2) (A0 t)).1;have s2:=(s1.stored (L.length*2+1) (A0 v)).1;have e:=Ln (L.take L.length++(x1,x2):: L.drop L.length) L.length (t,v) (by rw[aH.o];omega);simp only at e;rw[e,T3 L (x1,x2) (t,v) L.length aR,<-aP.o]at s2;(have aK:(Ce L t v).length=L.length+1:=by rw[aP.o];simp;try omega);refine⟨?_,(aX.o.bc (p:=(A9 E (L.length*2))) (λh=>by simp at h;omega) _).bc (p:=(A9 E (L.length*2+1))) (λh=>by simp at h;omega) _⟩;unfold Ch;rw[aK];exact s2
           go_wp2;go_roundw
           ·exact⟨k+1,iC,by go_num,by unfold Hid;rw[a5.o];exact(aB.o _ rfl).1,(aB.o _ rfl).2,by intro g I;simp[Value.ownBlock]at I;omega⟩
           ·simp[intOf];omega
   ·(have hs':(s==d)=false:=by simpa using hs);have hr:=A1 hs;go_wp2_with (go_at_call 123;refine(aS.o _).k ?_;rintro w' rfl);go_roundw
    ·exact aM.o (by have h0:=CO hr.o;simp[h0])
    ·simp[intOf];omega
  ·(obtain rfl:k=m:=iC);go_wp2;go_ret;exact⟨_,rfl,a1.o,aU.o,aD.o⟩
end
end Go.Proofs.YtodcnkbblippnaaGreatDoor
