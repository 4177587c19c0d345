/- Part 4 of a proof: walks of the program. -/
import Derived.Lib.AppendZeros
import Derived.Lib.Overlaps
import Derived.Lib.SliceRun
import Derived.Laws.BitsAllLaws
import Derived.BigQuiet
import Derived.Deep.QuietTactic
import Derived.Laws.BytesString
import Derived.Handy
import Derived.Test.YtodcnkbblippnabGreatDoorPart03
namespace Go.Proofs.YtodcnkbblippnabGreatDoor
set_option maxRecDepth 100000
set_option maxHeartbeats 32000000
set_option linter.defProp false
open Go.Proofs.Tryz
section
open Go.RowKit
section
variable{P:Program}
def LH(w:World)(dT sT ty elem:TypeId)(i:TypeInfo)(size:Nat)(g o I X:Nat)(a:Addr)(z O k:Nat)(h:Array Value)(t:TypeId)(H:List Value)(hu:P.underlying dT=some (.slice elem))(hi:P.info? elem=some i)(W:i.size=size)(hg:w.heap[g]?=some (.cells h t (0,0)))(hn:Nat.min z I=k)(aD:H.length=k*size)(aB:∀j v,H[j]?=some v->w.cell? (a.add j)=some v)(aA:o+H.length<=h.size)(h1:∀v∈H,v.oneCell'=true):
 (Builtin.copy_ #[dT,sT] ty #[.slice (some (Ad g o)) I X,.slice (some a) z O]).run P w =
  .ok (goInt k) (w.setRow g (h.toList.take o++H++h.toList.drop (o+H.length)).toArray):=by
 subst W;have hf:=QR (P:=P) w i.size k a z O H aD aB;have Y:=run_storeCells_at P g o t H 0 h w hg (by simpa using aA) h1;simp only[Pg]at Y;simp[Builtin.copy_,run_underlying hu,Builtin.lenOf,sizeOf,typeInfo,hi,hn,hf,Y]
def Xn(w:World)(t tn ty e:TypeId)(i:TypeInfo)(z:Value)(kn:IntKind)(ht:P.underlying t=some (.slice e))(aB:P.underlying tn=some (.int kn))(hi:P.info? e=some i)(hz:i.zero=some z)(hs0:0<i.size)(H:Option Addr)(len cap:Nat)(h:List Value)(Y:(Builtin.firstCells i.size len (.slice H len cap)).run P w.drew=.ok h.toArray w.drew)(n:Nat)(h0:0<n)(hgrow:cap<len+n)(h63:((len+n:Nat):Int)<=9223372036854775807)(h48:n*i.bytes<=281474976710656)(hcap:Builtin.nextslicecap (len+n) cap*i.bytes<=281474976710656):
 (Builtin.append_ #[t,tn] ty #[.slice H len cap,.int .i64 n]).run P w =
  .ok (.slice (some ⟨w.heap.size,0,none⟩) (len+n) (grownCap w (len+n) cap e)) (w.drew.alloc (.cells (h.toArray++Builtin.zeroCells z.cells n++Builtin.zeroCells z.cells (grownCap w (len+n) cap e-(len+n))) e)):=by
 have hw:IntKind.i64.wrap (n:Int)=n:=by rw[Jf];omega
 have aA:¬((n:Int)<0):=by omega
 have X:¬(281474976710656<(n:Int)*(i.bytes:Int)):=by rw[<-Int.natCast_mul];omega
 have aD:¬(n*i.size=0):=Nat.mul_ne_zero (by omega) (by omega);have I:¬(len+n<=cap):=by omega
 have O:¬(281474976710656<Builtin.nextslicecap (len+n) cap*i.bytes):=by omega
 have W:¬(9223372036854775807<(len:Int)+(n:Int)):=by omega
 simp[Builtin.append_,run_underlying ht,run_underlying aB,sizeOf,typeInfo,zeroValue,hi,hz,asInt,asIntOf,hw,aA,aD,X,I,O,W,Question.forced,Y,newRow,grownCap]
def RU{w:World}{H e size n g cap:Nat}{xs:List Value}(h:w.ownsRow H e size (.slice (some ⟨g,0,none⟩) n cap) n xs):∃z:Array Value,w.heap[g]?=some (.cells z e (0,0))/\z.size=cap*size/\z.toList.take (n*size)=xs/\n<=cap/\cap<=maxLen:=by
 rcases h.2 with⟨O,_⟩|⟨g',cap',z,O,_,hg,W,I,X,Y⟩
 ·cases O
 ·cases O;exact⟨z,hg,X,Y,W,I⟩
end
def Jm(s:Nat):Nat:=(s/2) ^^^ (3988292384*(s &&& 1))
def Jl(s:Nat):Nat->Nat
 | 0=>s
 | n+1=>Jm (Jl s n)
def LD(s:Nat)(b:UInt8):Nat:=Jl (s ^^^ b.toNat) 8
def AV(s:Nat)(bs:List UInt8):Nat:=bs.foldl LD s
def UC(s:Nat):s &&& 1<=1:=Nat.and_le_right
def Qv(s:Nat)(h:s<4294967296):Jm s<4294967296:=by
 unfold Jm;have:=UC s;exact UT (n:=32) (by omega) (by omega)
def Wk(s n:Nat)(h:s<4294967296):Jl s n<4294967296:=by
 induction n with
 | zero=>exact h
 | succ n ih=>exact Qv _ ih
def Wj(s:Nat)(b:UInt8)(h:s<4294967296):LD s b<4294967296:=by
 have:=b.toNat_lt;exact Wk _ _ (UT (n:=32) (by omega) (by omega))
def Jk(s:Nat)(bs:List UInt8)(h:s<4294967296):AV s bs<4294967296:=by
 unfold AV
 induction bs generalizing s with
 | nil=>exact h
 | cons b t ih=>exact ih _ (Wj s b h)
def Wg(s:Nat)(a b:List UInt8):AV s (a++b)=AV (AV s a) b:=MT
def Wf(s:Nat)(bs:List UInt8)(k:Nat)(h:k<bs.length):AV s (bs.take (k+1))=LD (AV s (bs.take k)) (bs[k]'h):=by
 rw[Dz h,Wg];rfl
def A2y(w:World)(s:Nat)(text:ByteArray)(hs:s<4294967296)(hl:text.size<=9223372036854775807):
 Aj 118 #[.int .u32 s,.string text] w (Au (.int .u32 (AV s text.data.toList)) λw'=>w=w'):=by
 go_enter func118,ntmps118
 go_wp2;go_loop [0,8] (λc i=>∃k x:Nat,k<=text.size/\i=A0 k/\c=.int .u32 x/\x<4294967296/\Hid (x=AV s (text.data.toList.take k))) (λ_ i=>text.size-(intOf i).toNat)
 ·exact⟨0,s,C8 _,rfl,rfl,hs,rfl⟩
 ·obtain⟨k,x,hk,rfl,rfl,hx,W⟩:=hrel;by_cases h:k<text.size
  ·have hb:=(text[k]'h).toNat_lt;have e0:bits .xor .u32 (x:Int) (((text[k]'h).toNat:Int) % 4294967296)=((x ^^^ (text[k]'h).toNat:Nat):Int):=by
    rw[show (((text[k]'h).toNat:Int) % 4294967296)=(((text[k]'h).toNat:Nat):Int) by omega];exact u32_xor_nat _ _ hx (by omega)
   have hy:x ^^^ (text[k]'h).toNat<4294967296:=UT (n:=32) (by omega) (by omega);have O:Hid (Jl (x ^^^ (text[k]'h).toNat) 8=AV s (text.data.toList.take (k+1))):=by
    unfold Hid;rw[Wf s _ k (by simpa using h),<-W.o];simp[LD];rfl
   generalize X:x ^^^ (text[k]'h).toNat=y at e0 hy O;clear X hb W;go_wp2;clear e0;go_loop [0,17] (λc i=>∃j z:Nat,j<=8/\i=A0 j/\c=.int .u32 z/\z<4294967296/\Hid (z=Jl y j)) (λ_ i=>8-(intOf i).toNat)
   ·exact⟨0,y,C8 _,rfl,rfl,hy,rfl⟩
   ·obtain⟨j,z,hj,rfl,rfl,Y,I⟩:=hrel;by_cases hj8:j<8
    ·have e1:bits .xor .u32 ((z:Int)/2) (3988292384*bits .and .u32 (z:Int) 1 % 4294967296)=((Jm z:Nat):Int):=by
      rw[show (1:Int)=((1:Nat):Int) from rfl,u32_and_nat z 1 Y (by omega)];have:=UC z;(have e2:(3988292384:Int)*((z &&& 1:Nat):Int) % 4294967296=((3988292384*(z &&& 1):Nat):Int):=by omega);rw[e2,show ((z:Int)/2)=((z/2:Nat):Int) by omega];exact u32_xor_nat _ _ (by omega) (by omega)
     have aA:=Qv z Y;(have H:Hid (Jm z=Jl y (j+1)):=by unfold Hid;rw[I.o];rfl);go_wp2;exact⟨⟨j+1,Jm z,by omega,by go_num,rfl,aA,H⟩,by simp[intOf];omega⟩
    ·(obtain rfl:j=8:=by omega);(have H:Hid (z=AV s (text.data.toList.take (k+1))):=by unfold Hid;rw[I.o];exact O.o);go_wp2;exact⟨⟨k+1,z,by omega,by go_num,rfl,Y,H⟩,by simp[intOf];omega⟩
  ·have H:Hid (x=AV s text.data.toList):=by
    unfold Hid;rw[W.o,Ez];simpa using by omega
   go_wp2;go_ret;rw[H.o];exact⟨rfl,rfl⟩

end
section
open Go.RowKit
attribute [local go_sem ↓] Go.wp_at_zero Go.wp_at_succ

def E1(c n:Int):Int:=(if c<0 then -(c+1) else c) % n
def JH(c n:Int)(h:0<n):0<=E1 c n/\E1 c n<n:=by
 unfold E1;exact⟨Lr _ (by omega),PC _ h⟩
def Ob(w:World)(c n:Int)(W:AY c)(X:0<n/\n<=9223372036854775807):
 Aj 11 #[A0 c,A0 n] w (Au (A0 (E1 c n)) λw'=>w=w'):=by
 obtain⟨c1,c2⟩:=W;obtain⟨O,n2⟩:=X;have H:=JH c n O;have n0:¬n=0:=by omega
 have nm:¬n = -1:=by omega
 by_cases h:c<0
 ·have e1:IntKind.i64.wrap (c+1)=c+1:=by simp[IntKind.wrap,IntKind.bits,IntKind.signed];omega
  have e2:IntKind.i64.wrap (-(c+1)) = -(c+1):=by simp[IntKind.wrap,IntKind.bits,IntKind.signed];omega
  have z:E1 c n = -((c+1).tmod n):=by unfold E1;rw[Ah h,<-PA,A3a (by omega)]
  rw[z]at H ⊢;have I:IntKind.i64.wrap (-((c+1).tmod n)) = -((c+1).tmod n):=by simp[IntKind.wrap,IntKind.bits,IntKind.signed];omega
  go_enter func11,ntmps11
  go_wp2;go_ret;exact⟨rfl,rfl⟩
 ·have z:E1 c n=c % n:=by unfold E1;rw[Ae h]
  rw[z]at H ⊢;have I:IntKind.i64.wrap (c % n)=c % n:=by simp[IntKind.wrap,IntKind.bits,IntKind.signed];omega
  go_enter func11,ntmps11
  go_wp2;go_ret;exact⟨rfl,rfl⟩
def A19(w:World)(sv:Value)(k t v:Int)(L:List Pt)(h:Aj 16 #[sv,A0 k,A0 t,A0 t] w λe w'=>∃x,e=.returned (.tuple #[x,A0 0])/\El w' x L/\A5 Ab w w'):
 Aj 13 #[sv,A0 k,A0 t,A0 v] w (Au (.bool (decide (L=[(t,v)]))) λw'=>A5 Ab w w'):=by
 have H:=A4 h;obtain⟨R,hR⟩:∃R,decide (L=[(t,v)])=R:=⟨_,rfl⟩;rw[hR];have aB:=A4 hR;clear h hR
 go_enter func13,ntmps13
 go_wp2_with (fail);refine H.m ?_;rintro e w1⟨x,rfl,X,hc⟩;have aA:=A4 hc;have HX:=A4 X;obtain⟨a,cap,rfl,O,W,hs,-⟩:=Bb X;unfold maxLen at W;clear hc H;by_cases h1:L.length=1
 ·obtain⟨g,rfl⟩:=hs (by omega);obtain⟨⟨t',v'⟩,rfl⟩:=V8.1 h1;obtain⟨q0,q1⟩:=X.bF 0 (by simp);simp only[Nat.zero_mul,GC,Kb]at q0 q1;have I:R=(decide (t'=t)&&decide (v'=v)):=by
   rw[<-aB.o];simp
  clear X hs;simp only[Pk]at O ⊢;by_cases Y:t'=t
  ·by_cases h3:v'=v
   ·subst Y h3;(have z:R=true:=by rw[I];simp);subst z;clear I;go_wp2;go_ret;exact⟨rfl,aA.o⟩
   ·(have z:R=false:=by rw[I];simp[h3]);subst z;clear I;(have hb:(v'==v)=false:=by simpa using h3);subst Y;go_wp2;go_ret;exact⟨rfl,aA.o⟩
  ·(have z:R=false:=by rw[I];simp[Y]);subst z;clear I;(have hb:(t'==t)=false:=by simpa using Y);go_wp2;go_ret;exact⟨rfl,aA.o⟩
 ·have z:R=false:=by
   rw[<-aB.o,A09];intro e;subst e;exact h1 rfl
  subst z;have hb:((L.length:Int)==1)=false:=Hn.2 (by omega);clear X hs;go_wp2;go_ret;exact⟨rfl,aA.o⟩
end
section
open Go.RowKit
def Oe(w:World)(x:Int):Aj 33 #[A0 x] w (Au (.bool (decide (0<=x/\x<8))) λw'=>w=w'):=by
 obtain⟨q,h⟩:∃q,decide (0<=x/\x<8)=q:=⟨_,rfl⟩;rw[h];have z:=A4 h;by_cases h1:0<=x<;>by_cases h2:x<8
 all_goals try (exfalso;omega)
 all_goals
  go_enter func33,ntmps33
  go_wp2;go_ret;refine⟨?_,rfl⟩;rw[<-z.o];simp
  try omega
def Tf(w:World)(x:Int):Aj 28 #[A0 x] w (Au (.bool (decide (1<=x/\x<=4611686018427387904))) λw'=>w=w'):=by
 obtain⟨q,h⟩:∃q,decide (1<=x/\x<=4611686018427387904)=q:=⟨_,rfl⟩;rw[h];have z:=A4 h;by_cases h1:1<=x<;>by_cases h2:x<=4611686018427387904
 all_goals try (exfalso;omega)
 all_goals
  go_enter func28,ntmps28
  go_wp2;go_ret;refine⟨?_,rfl⟩;rw[<-z.o];simp
  try omega
def Bu(Ac h:Int):Int:=if Ac < -9223372036854775808+h then -9223372036854775808 else Ac-h+1
def YM(Ac h t:Int)(z:AY t):decide (Bu Ac h<=t)=H5 t h Ac:=by
 obtain⟨t1,t2⟩:=z;unfold Bu H5;split<;>simp<;>omega
def NU(w:World)(H:Nat)(Ac z:Int)(c3:Aa w H 3 (A0 z))(c4:Aa w H 5 (A0 Ac))(X:1<=z/\z<=4611686018427387904)(Y:AY Ac):
 Aj 39 #[A7 H] w (Au (A0 (Bu Ac z)) λw'=>A5 Ab w w'):=by
 obtain⟨l1,l2⟩:=X;obtain⟨k1,k2⟩:=Y;have ew:IntKind.i64.wrap (-9223372036854775808+z) = -9223372036854775808+z:=GN (by omega)
 go_enter func39,ntmps39
 go_wp2;refine Ff (λw'=>Aa w' H 3 (A0 z)/\Aa w' H 5 (A0 Ac)) 9
  (BD [0,1,2,3,4,5,6,7,8] []) (by kernel_rfl) (by kernel_rfl) (λ_ _ _ _ _ h=>h) ⟨c3,c4⟩ ?_
 iterate 9 (refine DO (v:=?_) rfl (by rfl) ?_ ?_;rotate_left;(· (intro w' W;(try dsimp only at W);go_simp;try with_reducible rfl));(try simp only[BQ]))
 refine Fg ?_;simp only[DA,Dj];have d3:Aa w.drew H 3 (A0 z):=c3;have d4:Aa w.drew H 5 (A0 Ac):=c4;have O:Hid (A5 Ab w w.drew):=(A5.C _ w).ad;generalize w.drew=w1 at d3 d4 O ⊢;by_cases h:Ac < -9223372036854775808+z
 ·have I:Hid (Bu Ac z = -9223372036854775808):=by unfold Hid Bu;rw[Ah h]
  go_wp2;go_ret;rw[I.o];exact⟨rfl,O.o⟩
 ·have I:Hid (Bu Ac z=Ac-z+1):=by unfold Hid Bu;rw[Ae h]
  have ew2:IntKind.i64.wrap (Ac-z)=Ac-z:=GN (by omega);have ew3:IntKind.i64.wrap (Ac-z+1)=Ac-z+1:=GN (by omega);go_wp2;refine Ff (λw'=>Aa w' H 3 (A0 z)/\Aa w' H 5 (A0 Ac)) 10
   (BD [0,1,2,3,4,5,6,7,8,9] []) (by kernel_rfl) (by kernel_rfl) (λ_ _ _ _ _ h=>h) ⟨d3,d4⟩ ?_
  iterate 10 (refine DO (v:=?_) rfl (by rfl) ?_ ?_;rotate_left;(· (intro w' W;(try dsimp only at W);go_simp;try with_reducible rfl));(try simp only[BQ]))
  refine Fg ?_;simp only[DA,Dj];go_wp2;go_ret;rw[I.o];exact⟨rfl,O.o.ad⟩
def extract_mk(l:List UInt8)(i j:Nat):(ByteArray.mk l.toArray).extract i j=⟨((l.drop i).take (j-i)).toArray⟩:=by
 apply ByteArray.ext;simp[ByteArray.data_extract]
def JV(a b:List UInt8):(ByteArray.mk a.toArray)++(ByteArray.mk b.toArray)=⟨(a++b).toArray⟩:=by
 apply ByteArray.ext;simp[ByteArray.data_append]
def EO:List UInt8->Nat
 | []=>0
 | b::t=>b.toNat+256*EO t
def Zu(a b:List UInt8):EO (a++b)=EO a+256 ^ a.length*EO b:=by
 induction a with
 | nil=>simp[EO]
 | cons c t ih=>simp only[Fb,EO,ih,BM,K0];rw[Nat.mul_add,<-Pe,Lb (256 ^ t.length) 256];omega
def Zs(bs:List UInt8)(k:Nat)(h:k<bs.length):EO (bs.take (k+1))=EO (bs.take k)+(bs[k]'h).toNat*256 ^ k:=by
 rw[Dz h,Zu];simp[EO,Nat.min_eq_left (Nat.le_of_lt h),Nat.mul_comm]
def A0d(w:World)(text:ByteArray)(hl:8<=text.size/\text.size<=9223372036854775807):
 Aj 121 #[.string text] w (Au (A0 (wrap64 (EO (text.data.toList.take 8):Nat))) λw'=>w=w'):=by
 obtain⟨hl1,hl2⟩:=hl
 go_enter func121,ntmps121
 go_wp2;go_loop [3,5] (λc i=>∃k x:Nat,k<=8/\i=A0 k/\c=.int .u64 x/\x<18446744073709551616/\Hid (x<256 ^ k)/\Hid (x=EO (text.data.toList.take k))) (λ_ i=>8-(intOf i).toNat)
 ·exact⟨0,0,C8 _,rfl,rfl,by omega,(by unfold Hid;decide),rfl⟩
 ·obtain⟨k,x,hk,rfl,rfl,hx,O,hq⟩:=hrel;by_cases hlt:k<8
  ·(have h:k<text.size:=by omega);have hb:=(text[k]'h).toNat_lt;have hb0:=hb;have z:Hid (x+(text[k]'h).toNat*256 ^ k=EO (text.data.toList.take (k+1))):=by
    unfold Hid;rw[Zs _ k (by simpa using h),<-hq.o];rfl
   generalize I:(text[k]'h).toNat=b at hb z;obtain⟨y,W,H,e1⟩:∃y,y=x+b*256 ^ k/\y<256 ^ (k+1)/\bits .or .u64 (x:Int) (IntKind.u64.wrap (((text[k]'h).toNat:Int)*2 ^ (8*k)))=((y:Nat):Int):=by
    have h1:=O.o;(have X:(256:Nat) ^ k=2 ^ (8*k):=by rw[Nat.pow_mul]);have h3:b*256 ^ k<=255*256 ^ k:=HM _ (by omega);have h5:(256:Nat) ^ (k+1)<=256 ^ 8:=A2I (by omega) (by omega);refine⟨_,rfl,by omega,?_⟩;rw[I,IntKind.wrap_u64,show ((b:Int)*2 ^ (8*k))=((b*2 ^ (8*k):Nat):Int) by push_cast;rfl];rw[<-X,show ((b*256 ^ k:Nat):Int) % 18446744073709551616=((b*256 ^ k:Nat):Int) by omega];rw[u64_or_nat _ _ hx (by omega)]
    congr 1
    have h7:=Nat.shiftLeft_add_eq_or_of_lt (i:=8*k) (b:=x) (by rw[<-X];exact h1) b;rw[Nat.shiftLeft_eq,<-X]at h7;rw[Nat.or_comm,<-h7];omega
   have Y:y<18446744073709551616:=by
    have h5:(256:Nat) ^ (k+1)<=256 ^ 8:=A2I (by omega) (by omega);omega
   (have aB:Hid (y=EO (text.data.toList.take (k+1))):=by unfold Hid;rw[W];exact z.o);have aA:=A4 <| H;clear W I H z hq O;go_wp2;exact⟨⟨k+1,y,by omega,by go_num,rfl,Y,aA,aB⟩,by simp[intOf];omega⟩
  ·(obtain rfl:k=8:=by omega);go_wp2;go_ret;rw[hq.o];exact⟨rfl,rfl⟩
def GM(n:Nat)(k:Nat):List UInt8:=(List.range k).map λi=>UInt8.ofNat (n/256 ^ i)
def Zw(n k:Nat):(GM n k).length=k:=by simp[GM]
def Zv(n k:Nat):GM n (k+1)=UInt8.ofNat n::GM (n/256) k:=by
 simp only[GM,List.range_succ_eq_map,F8,MQ,Nat.pow_zero,Nat.div_one]
 congr 1
 apply K9;intro i _;simp only[Function.comp,Nat.succ_eq_add_one,K0,Nat.div_div_eq_div_mul];rw[Lb (256 ^ i) 256]
def Zt(n k:Nat):EO (GM n k)=n % 256 ^ k:=by
 induction k generalizing n with
 | zero=>simp[GM,EO,Nat.mod_one]
 | succ k ih=>
  rw[Zv,EO,ih,K0,Lb (256 ^ k) 256,Nat.mod_mul];simp
def EP(n:Int):Nat:=(n % 18446744073709551616).toNat
def A2a(n:Int):EP n<18446744073709551616:=by unfold EP;omega
def Ur(n:Int):n % 18446744073709551616=(EP n:Int):=by unfold EP;omega
def AR(n:Int):List UInt8:=GM (EP n) 8
def CD(n:Int):(AR n).length=8:=Zw _ _
def Vq(n:Int)(h : -9223372036854775808<=n/\n<=9223372036854775807):wrap64 (EO (AR n):Nat)=n:=by
 have z:EO (AR n)=EP n:=by
  unfold AR;rw[Zt];have:=A2a n;have H:(256:Nat) ^ 8=18446744073709551616:=by decide
  rw[H];omega
 rw[z];have:=Ur n;unfold wrap64;omega
def Ip(n:Nat)(k:Nat):List Value:=E6 (GM n k)++List.replicate (8-k) (.int .u8 0)
def KL(w:World)(n:Int)(hn : -9223372036854775808<=n/\n<=9223372036854775807):
 Aj 201 #[A0 n] w (Au (.string ⟨(AR n).toArray⟩) λw'=>A5 Ab w w'):=by
 obtain⟨n1,n2⟩:=hn;have eu:IntKind.u64.wrap n=(EP n:Int):=by rw[IntKind.wrap_u64];exact Ur n
 go_enter func201,ntmps201
 go_wp2;go_loopw [5] (λi wr=>∃k:Nat,k<=8/\i=A0 k/\Hid (A5 Ab w wr)/\Hid (wr.heap[w.heap.size]?=some (.cells (Ip (EP n) k).toArray 285 (0,0)))) (λi _=>8-(intOf i).toNat)
 ·exact⟨0,C8 _,rfl,(A5.C _ _).aj _,by unfold Hid;show (w.heap.push _)[w.heap.size]?=_;rw[IA];rfl⟩
 ·obtain⟨k,hk,rfl,hc,O⟩:=hrel;by_cases hlt:k<8
  ·(have hfz:wr.frozen? (Ad w.heap.size k)=false:=by have:=O.o;simp[World.frozen?,this]);have hce:wr.cell? (Ad w.heap.size k)=some (.int .u8 0):=by
    have:=O.o;have X:(Ip (EP n) k)[k]?=some (.int .u8 0):=by
     (have h1:(E6 (GM (EP n) k)).length=k:=by simp[E6,GM]);unfold Ip;rw[Ht (by omega),h1,List.getElem?_replicate];simp;omega
    simp[World.cell?,this,X]
   have h:=A4 (CE (o:=k) (v:=.int .u8 (EP n/2 ^ (8*k) % 256:Nat)) O.o);have I:Hid (A5 Ab w (wr.sC w.heap.size k (.int .u8 (EP n/2 ^ (8*k) % 256:Nat)))):=A5.bn hc.o (by simp) _;have W:Hid ((Ip (EP n) k).toArray.setIfInBounds k (.int .u8 (EP n/2 ^ (8*k) % 256:Nat))=(Ip (EP n) (k+1)).toArray):=by
    unfold Hid;rcases(show k=0\/k=1\/k=2\/k=3\/k=4\/k=5\/k=6\/k=7 by omega) with rfl|rfl|rfl|rfl|rfl|rfl|rfl|rfl<;>simp[Ip,E6,GM,List.range_succ,List.replicate]
   (have e1:(EP n:Int)/2 ^ (8*k) % 256=((EP n/2 ^ (8*k) % 256:Nat):Int):=by push_cast;rfl);unfold Hid at h;rw[W.o]at h;have z:=A4 h;generalize hq:EP n/2 ^ (8*k) % 256=q at z I e1;go_wp2;exact⟨⟨k+1,by omega,by go_num,I,z⟩,by simp[intOf];omega⟩
  ·(obtain rfl:k=8:=by omega);have cv:(convert 66 9 (AN w.heap.size 8 8)).run Tryz.prog wr=.ok (.string ⟨(AR n).toArray⟩) wr:=by
    have X:=CD n
    have:=Ns (P:=Tryz.prog) wr 66 9 5 (Ad w.heap.size 0) 8 (AR n) underlying66 underlying5 underlying9 (by
     intro j hj;(have H:((Ad w.heap.size 0):Addr).add j=(Ad w.heap.size j):=by unfold Addr.add;split<;>simp_all);rw[H];have Y:=O.o;(have h3:(Ip (EP n) 8)=E6 (AR n):=by simp[Ip,AR]);rw[h3]at Y
     simp[World.cell?,Y,E6,List.getElem?_eq_getElem hj])
    rw[X]at this;exact this
   go_wp2;go_ret;exact⟨rfl,hc.o⟩
def Ca(s:Nat):List UInt8:=(AR s).take 4
def Hd(s:Nat):(Ca s).length=4:=by simp[Ca,CD]
def Wi(w:World)(s:Nat)(hs:s<4294967296):
 Aj 205 #[.int .u32 s] w (Au (.string ⟨(Ca s).toArray⟩) λw'=>A5 Ab w w'):=by
 have z : -9223372036854775808<=(s:Int)/\(s:Int)<=9223372036854775807:=by omega
 have hl:=CD s
 go_enter func205,ntmps205
 go_wp2_with (go_at_call 201;refine(KL _ _ z).k ?_;rintro w' h);go_ret;exact⟨by rw[extract_mk];simp[Ca],h⟩
end
section
open Go.RowKit
attribute [local go_sem ↓] Go.wp_at_zero Go.wp_at_succ
def IE(c:Int):Int:=E1 c 1099511627776-549755813888
def WN(c:Int): -549755813888<=IE c/\IE c<549755813888:=by
 have:=JH c 1099511627776 (by decide);unfold IE;omega
def ZK(w:World)(c:Int)(H:AY c):Aj 9 #[A0 c] w (Au (A0 (IE c)) λw'=>w=w'):=by
 have h:=A4 (Ob w c 1099511627776 H (by decide));have z:=JH c 1099511627776 (by decide);unfold IE;generalize E1 c 1099511627776=pc at h z ⊢;have ew:IntKind.i64.wrap (pc-549755813888)=pc-549755813888:=by simp[IntKind.wrap,IntKind.bits,IntKind.signed];omega
 go_enter func9,ntmps9
 go_wp2_with (go_at_call 11;refine h.m ?_;rintro e w'⟨rfl,rfl⟩);go_ret;exact⟨rfl,rfl⟩
end
section
open Go.RowKit
def B9(s t v:Int):List UInt8:=UInt8.ofNat (s % 256).toNat::(AR t++AR v)
def RF(w:World)(s t v:Int)(hs:0<=s/\s<256)(ht : -9223372036854775808<=t/\t<=9223372036854775807)(hv : -9223372036854775808<=v/\v<=9223372036854775807):
 Aj 160 #[.agg #[A0 s,A0 t,A0 v]] w (Au (.string ⟨(B9 s t v).toArray⟩) λw'=>A5 Ab w w'):=by
 go_enter func160,ntmps160
 go_wp2;refine Hb 15 (λy=>{tmps:=#[.agg #[A0 s,A0 t,A0 v],A7 w.heap.size,.string ⟨#[]⟩,y 0,y 1,y 2,y 3,y 4,y 5,y 6,y 7,y 8,y 9,y 10,y 11,y 12,y 13,y 14],defers:=[]}) (λ_=>undef)
  (λw'=>w'.heap[w.heap.size]?=some (.cells #[A0 s,A0 t,A0 v] 90 (0,0))/\A5 Ab w w') (A5 Ab)
  (λj x w'=>match j with
   | 0=>x=(A7 w.heap.size)
   | 1=>x=A0 s
   | 2=>x=.int .u8 s
   | 3=>∃g e,x=AN g 1 1/\w'.heap[g]?=some (.cells #[.int .u8 s] e (0,0))
   | 4=>x=.string ⟨#[UInt8.ofNat (s % 256).toNat]⟩
   | 5=>x=.pointer (some (Ad w.heap.size 1))
   | 6=>x=.pointer (some (Ad w.heap.size 1))
   | 7=>x=A0 t
   | 8=>x=.string ⟨(AR t).toArray⟩
   | 9=>x=.string ⟨(UInt8.ofNat (s % 256).toNat::AR t).toArray⟩
   | 10=>x=.pointer (some (Ad w.heap.size 1))
   | 11=>x=.pointer (some (Ad w.heap.size 2))
   | 12=>x=A0 v
   | 13=>x=.string ⟨(AR v).toArray⟩
   | 14=>x=.string ⟨(B9 s t v).toArray⟩
   | _=>True)
  (by kernel_rfl) (by kernel_rfl) rfl ?_ ?_ ?_ ?_
 ·exact⟨(by show (w.heap.push _)[w.heap.size]?=_;rw[IA]),((A5.C _ _).aj _).ad⟩
 ·intro j x w1 w2 hR hS' hG;split at hG<;>first|exact hG|(obtain⟨g,e,h1,h2⟩:=hG;exact⟨g,e,h1,hR.ak h2 (by simp)⟩)
 ·simp only[EU,EL,FP,HJ]
  repeat' (with_reducible apply And.intro)
  all_goals refine⟨?_,(by intro y z _ _ h;exact Bool.noConfusion h),λy x=>rfl⟩
  all_goals
   intro y z hS O hw K hK;obtain⟨I,X⟩:=hS;simp[Gc,Region.binds,Fc,List.filter_cons]at O;(have hc0:Aa z w.heap.size 0 (A0 s):=by simp[Aa,World.cell?,I]);(have hc1:Aa z w.heap.size 1 (A0 t):=by simp[Aa,World.cell?,I]);(have hc2:Aa z w.heap.size 2 (A0 v):=by simp[Aa,World.cell?,I]);(have hw8:IntKind.u8.wrap s=s:=by simp[IntKind.wrap,IntKind.bits,IntKind.signed];omega);have hlt:=CD t;have hlv:=CD v;have W:=A4 I;have H:=A4 X;have aB:=A4 hK;have ap1:(ByteArray.mk #[UInt8.ofNat (s % 256).toNat])++(ByteArray.mk (AR t).toArray)=⟨(UInt8.ofNat (s % 256).toNat::AR t).toArray⟩:=JV [_] _;have ap2:(ByteArray.mk (UInt8.ofNat (s % 256).toNat::AR t).toArray)++(ByteArray.mk (AR v).toArray)=⟨(B9 s t v).toArray⟩:=JV _ _
   try
    (have aD:∃g,y 3=AN g 1 1/\∃e,z.heap[g]?=some (.cells #[.int .u8 s] e (0,0)):=by with_reducible exact O);obtain⟨g,O,e,hg⟩:=aD;(have aG:Aa z g 0 (.int .u8 s):=by simp[Aa,World.cell?,hg])
    have cv:(convert 66 9 (AN g 1 1)).run Tryz.prog z=.ok (.string ⟨#[UInt8.ofNat (s % 256).toNat]⟩) z:=Ns (P:=Tryz.prog) z 66 9 5 (Ad g 0) 1 [UInt8.ofNat (s % 256).toNat] underlying66 underlying5 underlying9 (by
     intro j hj;(have aF:j=0:=by simpa using hj);subst aF;(have aA:((Ad g 0):Addr).add 0=(Ad g 0):=by unfold Addr.add;split<;>simp_all);(have aE:((UInt8.ofNat (s % 256).toNat).toNat:Int)=s:=by simp;omega);rw[aA,aG]
     simp only[Kb,aE])
  all_goals dsimp only
  all_goals try go_simp
  all_goals try with_reducible exact aB.o _ _ _ rfl (by simp[Act.put,O]) (A5.C _ _) ⟨W.o,H.o⟩
  all_goals try
   (have hd7:y 7=A0 t:=by with_reducible exact O);refine(KL z t ht).k ?_;rintro w2 Y;exact aB.o _ _ _ rfl (by simp[Act.put,O]) Y ⟨Y.ak W.o (by simp),H.o.AJ Y (by simp)⟩
  all_goals try
   (have hd12:y 12=A0 v:=by with_reducible exact O.1);refine(KL z v hv).k ?_;rintro w2 Y;exact aB.o _ _ _ rfl (by simp[Act.put,O]) Y ⟨Y.ak W.o (by simp),H.o.AJ Y (by simp)⟩
  ·exact aB.o _ _ _ ⟨z.heap.size,_,rfl,(by show (z.heap.push _)[z.heap.size]?=_;rw[IA])⟩ (by simp[Act.put,O]) ((A5.C _ _).aj _) ⟨((A5.C Ab z).aj _).ak W.o (by simp),H.o.aj _⟩
 ·intro y z hS hG;obtain⟨I,X⟩:=hS;have h14:y 14=.string ⟨(B9 s t v).toArray⟩:=hG 14 (by omega);have H:=A4 X;go_wp2;go_ret;exact⟨rfl,H.o⟩
def BK(l:List UInt8):Int:=wrap64 (EO (l.take 8):Nat)
def Md(w:World)(l:List UInt8)(h:8<=l.length/\l.length<=9223372036854775807):
 Aj 121 #[.string ⟨l.toArray⟩] w (Au (A0 (BK l)) λw'=>w=w'):=
 A0d w ⟨l.toArray⟩ h
def Me(n:Int)(h : -9223372036854775808<=n/\n<=9223372036854775807)(r:List UInt8):BK (AR n++r)=n:=by
 unfold BK;rw[GW (by rw[CD];omega),Ez (by rw[CD];omega)];exact Vq n h
def C5(w:World)(p:Nat)(s t v:Int):Prop:=w.heap[p]?=some (.cells #[.int .i64 s,.int .i64 t,.int .i64 v] 90 (0,0))
def C5.c0{w:World}{p:Nat}{s t v:Int}(h:C5 w p s t v):Aa w p 0 (A0 s):=by unfold C5 at h;simp[Aa,World.cell?,h]
def C5.c1{w:World}{p:Nat}{s t v:Int}(h:C5 w p s t v):Aa w p 1 (A0 t):=by unfold C5 at h;simp[Aa,World.cell?,h]
def C5.c2{w:World}{p:Nat}{s t v:Int}(h:C5 w p s t v):Aa w p 2 (A0 v):=by unfold C5 at h;simp[Aa,World.cell?,h]
def C5.fz{w:World}{p:Nat}{s t v:Int}(h:C5 w p s t v)(o:Nat):w.frozen? (Ad p o)=false:=by unfold C5 at h;simp[World.frozen?,h]
def C5.lt{w:World}{p:Nat}{s t v:Int}(h:C5 w p s t v):p<w.heap.size:=Bo h
def C5.ak{S:Nat->Prop}{w w':World}{p:Nat}{s t v:Int}(h:C5 w p s t v)(z:A5 S w w')(H:¬S p):C5 w' p s t v:=z.ak h H
def C5.ad{w:World}{p:Nat}{s t v:Int}(h:C5 w p s t v):C5 w.drew p s t v:=by unfold C5 at h ⊢;exact h
def C5.bp{w:World}{p:Nat}{s t v:Int}(h:C5 w p s t v)(s' H z:Int):C5 (((w.setCell (Ad p 0) (A0 s')).setCell (Ad p 1) (A0 H)).setCell (Ad p 2) (A0 z)) p s' H z:=
 CE (o:=2) (v:=A0 z) (CE (o:=1) (v:=A0 H) (CE (o:=0) (v:=A0 s') h))
def RC(w:World)(b:UInt8)(l:List UInt8)(hl:16<=l.length/\l.length<9223372036854775807):
 Aj 129 #[.string ⟨(b::l).toArray⟩] w (Au (.tuple #[.agg #[A0 b.toNat,A0 (BK l),A0 (BK (l.drop 8))],.bool (decide (b.toNat<8))]) λw'=>A5 Ab w w'):=by
 obtain⟨hl1,hl2⟩:=hl;have hb:=b.toNat_lt
 go_enter func129,ntmps129
 go_wp2;refine Hb 12 (λy=>{tmps:=#[.string ⟨(b::l).toArray⟩,undef,A7 w.heap.size,.bool false,y 11,y 0,y 1,y 2,y 3,y 4,y 5,y 6,y 7,y 8,y 9,y 10,undef,undef,undef,undef],defers:=[]}) (λ_=>undef)
  (λw'=>C5 w' w.heap.size 0 0 0/\A5 Ab w w') (A5 Ab)
  (λj x w'=>match j with
   | 0=>x=.string ⟨(b::l).toArray⟩
   | 1=>x=.int .u8 b.toNat
   | 2=>x=A0 b.toNat
   | 3=>x=.string ⟨(b::l).toArray⟩
   | 4=>x=.string ⟨l.toArray⟩
   | 5=>x=A0 (BK l)
   | 6=>x=.string ⟨(b::l).toArray⟩
   | 7=>x=.string ⟨(l.drop 8).toArray⟩
   | 8=>x=A0 (BK (l.drop 8))
   | 9=>x=.agg #[A0 (BK l),A0 (BK (l.drop 8))]
   | 10=>x=.agg #[A0 b.toNat,A0 (BK l),A0 (BK (l.drop 8))]
   | 11=>∃p,x=(A7 p)/\w.heap.size<p/\C5 w' p 0 0 0
   | _=>True)
  (by kernel_rfl) (by kernel_rfl) rfl ?_ ?_ ?_ ?_
 ·exact⟨(by show (w.heap.push _)[w.heap.size]?=_;rw[IA]),((A5.C _ _).aj _).ad⟩
 ·intro j x w1 w2 hR aN Y;split at Y
  case h_12=>
   obtain⟨p,h1,h2,h3⟩:=Y;exact⟨p,h1,h2,h3.ak hR (λh=>h)⟩
  all_goals exact Y
 ·simp only[EU,EL,FP,HJ]
  repeat' (with_reducible apply And.intro)
  all_goals refine⟨?_,(by intro y X _ _ h;exact Bool.noConfusion h),λy x=>rfl⟩
  all_goals
   intro y X hS hd hw K hK;obtain⟨O,H⟩:=hS;simp[Gc,Region.binds,Fc,List.filter_cons]at hd;have e0:(ByteArray.mk (b::l).toArray)[0]'(by show 0<l.length+1;omega)=b:=rfl;have e1:(ByteArray.mk (b::l).toArray).extract 1 (l.length+1)=⟨l.toArray⟩:=by
    rw[extract_mk];simp
   have e9:(ByteArray.mk (b::l).toArray).extract 9 (l.length+1)=⟨(l.drop 8).toArray⟩:=by
    rw[extract_mk,DA,Ez (by simp)]
   (have g1:(1:Int)<=(l.length:Int)+1:=by omega);(have g9:(9:Int)<=(l.length:Int)+1:=by omega);have ew:IntKind.i64.wrap (b.toNat:Int)=b.toNat:=GN (by omega);have I:=A4 O;have W:=A4 H;have aD:=A4 hK
  all_goals dsimp only
  all_goals try go_simp
  all_goals try with_reducible exact aD.o _ _ _ rfl (by simp[Act.put,hd]) (A5.C _ _) ⟨I.o,W.o⟩
  all_goals try
   (have hd4:y 4=.string ⟨l.toArray⟩:=by with_reducible exact hd);refine(Md X l (by omega)).k ?_;rintro w2 rfl;exact aD.o _ _ _ rfl (by simp[Act.put,hd]) (A5.C _ _) ⟨I.o,W.o⟩
  all_goals try
   (have hd7:y 7=.string ⟨(l.drop 8).toArray⟩:=by with_reducible exact hd.1);refine(Md X (l.drop 8) (by rw[CM];omega)).k ?_;rintro w2 rfl;exact aD.o _ _ _ rfl (by simp[Act.put,hd]) (A5.C _ _) ⟨I.o,W.o⟩
  ·refine aD.o _ _ _ ⟨X.heap.size,rfl,?_,BN X _⟩ (by simp[Act.put]) ((A5.C _ _).aj _) ⟨I.o.ak ((A5.C Ab _).aj _) (λh=>h),W.o.aj _⟩;exact I.o.lt
 ·intro y X hS Y;obtain⟨O,H⟩:=hS;have h10:y 10=.agg #[A0 b.toNat,A0 (BK l),A0 (BK (l.drop 8))]:=Y 10 (by omega);obtain⟨p,h11,aF,hp⟩:∃p,y 11=(A7 p)/\w.heap.size<p/\C5 X p 0 0 0:=Y 11 (by omega);have c0:=hp.c0;have c1:=hp.c1;have c2:=hp.c2;have f0:=hp.fz 0;have f1:=hp.fz 1;have f2:=hp.fz 2;have h3:=hp.bp b.toNat (BK l) (BK (l.drop 8));have cr:A5 (One p) X (((X.setCell (Ad p 0) (A0 b.toNat)).setCell (Ad p 1) (A0 (BK l))).setCell (Ad p 2) (A0 (BK (l.drop 8)))):=(((A5.C (One p) X).ao rfl _ _).ao rfl _ _).ao rfl _ _;have aB:=A4 h3;have aA:=A4 (O.ak cr (λh=>by have h':w.heap.size=p:=h;omega));have aK:Hid (A5 Ab w (((X.setCell (Ad p 0) (A0 b.toNat)).setCell (Ad p 1) (A0 (BK l))).setCell (Ad p 2) (A0 (BK (l.drop 8))))):=H.AJ cr (λk hk hlt2=>by have h':k=p:=hk;omega);have aO:Hid (w.heap.size<p):=aF;go_wp2;generalize (((X.setCell (Ad p 0) (A0 b.toNat)).setCell (Ad p 1) (A0 (BK l))).setCell (Ad p 2) (A0 (BK (l.drop 8))))=w3 at aB aA aK ⊢;obtain⟨iv,aI⟩:∃iv,BK l=iv:=⟨_,rfl⟩;obtain⟨jv,aG⟩:∃jv,BK (l.drop 8)=jv:=⟨_,rfl⟩;rw[aI,aG]at aB ⊢;have aJ:Hid (((b.toNat:Int)<8)=(b.toNat<8)):=by unfold Hid;simp;omega
  obtain⟨n,hn⟩:∃n:Nat,b.toNat=n:=⟨_,rfl⟩;have aE:Hid (b.toNat=n/\BK l=iv/\BK (l.drop 8)=jv):=⟨hn,aI,aG⟩;rw[hn]at aB aJ ⊢;have q0:=aB.o.c0;have q1:=aB.o.c1;have q2:=aB.o.c2;have r0:=aA.o.c0;have r1:=aA.o.c1;have r2:=aA.o.c2;have z0:=aA.o.fz 0;have z1:=aA.o.fz 1;have z2:=aA.o.fz 2;go_wp2;refine Hb 5 (λz=>{tmps:=#[.string ⟨(b::l).toArray⟩,undef,A7 w.heap.size,.bool false,A7 p,y 0,y 1,y 2,y 3,y 4,y 5,y 6,y 7,y 8,y 9,.agg #[A0 n,A0 iv,A0 jv],z 0,z 1,z 2,z 3],defers:=[]}) (λ_=>undef)
   (λw'=>C5 w' p n iv jv/\(∃a b c,C5 w' w.heap.size a b c)/\A5 Ab w w') (λw1 w2=>C5 w1 w.heap.size n iv jv->C5 w2 w.heap.size n iv jv)
   (λj x w'=>match j with
    | 0=>x=.agg #[A0 n,A0 iv,A0 jv]
    | 1=>x=(A7 p)
    | 2=>x=A0 n
    | 3=>x=.bool (decide ((n:Int)<8))
    | 4=>C5 w' w.heap.size n iv jv
    | _=>True)
   (by kernel_rfl) (by kernel_rfl) rfl ?_ ?_ ?_ ?_
  ·exact⟨aB.o.ad,⟨_,_,_,aA.o.ad⟩,aK.o.ad⟩
  ·intro j x w1 w2 hR aN Y;split at Y
   case h_5=>exact hR Y
   all_goals exact Y
  ·clear aB aA aK;simp only[EU,EL,FP,HJ]
   repeat' (with_reducible apply And.intro)
   all_goals refine⟨?_,(by intro y X _ _ h;exact Bool.noConfusion h),λy x=>rfl⟩
   all_goals
    intro z wz hS hd hw K hK;obtain⟨O,⟨a1,a2,a3,H⟩,aL⟩:=hS;simp[Gc,Region.binds,Fc,List.filter_cons]at hd;have q0:=O.c0;have q1:=O.c1;have q2:=O.c2;have r0:=H.c0;have r1:=H.c1;have r2:=H.c2;have z0:=H.fz 0;have z1:=H.fz 1;have z2:=H.fz 2;have I:=A4 O;have W:=A4 H;have aH:=A4 aL;have aD:=A4 hK
   all_goals dsimp only
   all_goals try go_simp
   all_goals try with_reducible exact aD.o _ _ _ rfl (by simp[Act.put,hd]) (λh=>h) ⟨I.o,⟨_,_,_,W.o⟩,aH.o⟩
   have st:=W.o.bp n iv jv;have cr:A5 (One w.heap.size) wz (((wz.setCell (Ad w.heap.size 0) (A0 n)).setCell (Ad w.heap.size 1) (A0 iv)).setCell (Ad w.heap.size 2) (A0 jv)):=(((A5.C (One w.heap.size) wz).ao rfl _ _).ao rfl _ _).ao rfl _ _;refine aD.o undef _ _ st (by simp[Act.put,hd]) (λ_=>st) ⟨I.o.ak cr (λh=>by have h':p=w.heap.size:=h;have:=aO.o;omega),⟨_,_,_,st⟩,aH.o.AJ cr (λk hk aF=>by have h':k=w.heap.size:=hk;omega)⟩
  ·intro z wz hS Y;have h3:z 3=.bool (decide ((n:Int)<8)):=Y 3 (by omega);have h4:C5 wz w.heap.size n iv jv:=Y 4 (by omega);have r0:=h4.c0;have r1:=h4.c1;have r2:=h4.c2;have aP:=A4 hS.2.2;have aM:decide ((n:Int)<8)=decide (n<8):=by
    by_cases h:n<8
    ·rw[CJ h,CJ (by omega)]
    ·rw[Dw h,Dw (by omega)]
   rw[aM]at h3;go_wp2;refine Mx (v:=.tuple #[.agg #[A0 n,A0 iv,A0 jv],.bool (decide (n<8))]) (by simp[results,Tryz.results129,go_sem,r0,r1,r2]) rfl ?_;exact⟨by rw[aE.o.1,aE.o.2.1,aE.o.2.2],aP.o⟩
end
end Go.Proofs.YtodcnkbblippnabGreatDoor
