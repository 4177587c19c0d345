/- Part 3 of a proof: walks of the program. -/
import Derived.Laws.BitsAllLaws
import Derived.Laws.BytesString
import Derived.Handy
import Derived.Test.YtodcnkbblippnaaGreatDoorPart02
namespace Go.Proofs.YtodcnkbblippnaaGreatDoor
set_option maxRecDepth 100000
set_option maxHeartbeats 32000000
set_option linter.defProp false
open Go.Proofs.Tryz
section
open Go.RowKit
def Fl(s:Nat):Nat:=(s/2) ^^^ (3988292384*(s &&& 1))
def Ed(s:Nat):Nat->Nat
 | 0=>s
 | n+1=>Fl (Ed s n)
def MF(s:Nat)(b:UInt8):Nat:=Ed (s ^^^ b.toNat) 8
def AP(s:Nat)(bs:gh UInt8):Nat:=bs.foldl MF s
def Wl(s:Nat):s &&& 1<=1:=Nat.and_le_right
def RN(s:Nat)(h:s<4294967296):Fl s<4294967296:=by
 unfold Fl;have:=Wl s;exact Mf (n:=32) (by omega) (by omega)
def RM(s n:Nat)(h:s<4294967296):Ed s n<4294967296:=by
 induction n with
 | zero=>exact h
 | succ n ih=>exact RN _ ih
def Y8(s:Nat)(b:UInt8)(h:s<4294967296):MF s b<4294967296:=by
 have:=b.toNat_lt;exact RM _ _ (Mf (n:=32) (by omega) (by omega))
def I5(s:Nat)(bs:gh UInt8)(h:s<4294967296):AP s bs<4294967296:=by
 unfold AP
 induction bs generalizing s with
 | nil=>exact h
 | cons b t ih=>exact ih _ (Y8 s b h)
def RL(s:Nat)(a b:gh UInt8):AP s (a++b)=AP (AP s a) b:=Mm
def Y5(s:Nat)(bs:gh UInt8)(k:Nat)(d:k<bs.length):AP s (bs.take (k+1))=MF (AP s (bs.take k)) (bs[k]'d):=by
 rw[Dy d,RL];rfl
def A4G(w:ga)(s:Nat)(text:gg)(hs:s<4294967296)(hl:text.size<=9223372036854775807):
 Ag 165 #[.int .u32 s,.string text] w (Am (.int .u32 (AP s text.data.toList)) λw'=>w=w'):=by
 go_enter func165,ntmps165
 go_wp2;go_loop [0,8] (λc i=>∃k x:Nat,k<=text.size/\i=A0 k/\c=.int .u32 x/\x<4294967296/\Hid (x=AP s (text.data.toList.take k))) (λ_ i=>text.size-(intOf i).toNat)
 ·exact⟨0,s,Cb _,rfl,rfl,hs,rfl⟩
 ·obtain⟨k,x,hk,rfl,rfl,hx,I⟩:=hrel;by_cases d:k<text.size
  ·have hb:=(text[k]'d).toNat_lt;have Y:bits .xor .u32 (x:Int) (((text[k]'d).toNat:Int) % 4294967296)=((x ^^^ (text[k]'d).toNat:Nat):Int):=by
    rw[show (((text[k]'d).toNat:Int) % 4294967296)=(((text[k]'d).toNat:Nat):Int) by omega];exact u32_xor_nat _ _ hx (by omega)
   have hy:x ^^^ (text[k]'d).toNat<4294967296:=Mf (n:=32) (by omega) (by omega);have H:Hid (Ed (x ^^^ (text[k]'d).toNat) 8=AP s (text.data.toList.take (k+1))):=by
    unfold Hid;rw[Y5 s _ k (by simpa using d),<-I.o];simp[MF];rfl
   generalize L:x ^^^ (text[k]'d).toNat=y at Y hy H;clear L hb I;go_wp2;clear Y;go_loop [0,17] (λc i=>∃j z:Nat,j<=8/\i=A0 j/\c=.int .u32 z/\z<4294967296/\Hid (z=Ed y j)) (λ_ i=>8-(intOf i).toNat)
   ·exact⟨0,y,Cb _,rfl,rfl,hy,rfl⟩
   ·obtain⟨j,z,hj,rfl,rfl,O,E⟩:=hrel;by_cases hj8:j<8
    ·have e1:bits .xor .u32 ((z:Int)/2) (3988292384*bits .and .u32 (z:Int) 1 % 4294967296)=((Fl z:Nat):Int):=by
      rw[show (1:Int)=((1:Nat):Int) from rfl,u32_and_nat z 1 O (by omega)];have:=Wl z;(have e2:(3988292384:Int)*((z &&& 1:Nat):Int) % 4294967296=((3988292384*(z &&& 1):Nat):Int):=by omega);rw[e2,show ((z:Int)/2)=((z/2:Nat):Int) by omega];exact u32_xor_nat _ _ (by omega) (by omega)
     have W:=RN z O;(have h:Hid (Fl z=Ed y (j+1)):=by unfold Hid;rw[E.o];rfl);go_wp2;exact⟨⟨j+1,Fl z,by omega,by go_num,rfl,W,h⟩,by simp[intOf];omega⟩
    ·(obtain rfl:j=8:=by omega);(have h:Hid (z=AP s (text.data.toList.take (k+1))):=by unfold Hid;rw[E.o];exact H.o);go_wp2;exact⟨⟨k+1,z,by omega,by go_num,rfl,O,h⟩,by simp[intOf];omega⟩
  ·have h:Hid (x=AP s text.data.toList):=by
    unfold Hid;rw[I.o,EG];simpa using by omega
   go_wp2;go_ret;rw[h.o];exact⟨rfl,rfl⟩
end
section
open Go.RowKit
attribute [local go_sem ↓] Go.wp_at_zero Go.wp_at_succ
def Ha(t d A9:Int):Bool:=decide (t+d>A9)
def AT(x:Int):Prop:=-9223372036854775808<=x/\x<=9223372036854775807
end
section
open Go.RowKit
def extract_mk(l:gh UInt8)(i j:Nat):(ByteArray.mk l.toArray).extract i j=⟨((l.drop i).take (j-i)).toArray⟩:=by
 apply ByteArray.ext;simp[ByteArray.data_extract]
def Kw(a b:gh UInt8):(ByteArray.mk a.toArray)++(ByteArray.mk b.toArray)=⟨(a++b).toArray⟩:=by
 apply ByteArray.ext;simp[ByteArray.data_append]
def BD:gh UInt8->Nat
 | []=>0
 | b::t=>b.toNat+256*BD t
def Pz(bs:gh UInt8):BD bs<256 ^ bs.length:=by
 induction bs with
 | nil=>simp[BD]
 | cons b t ih=>
  have:=b.toNat_lt;simp only[BD,Cg,J4];omega
def PA(a b:gh UInt8):BD (a++b)=BD a+256 ^ a.length*BD b:=by
 induction a with
 | nil=>simp[BD]
 | cons c t ih=>simp only[FD,BD,ih,Cg,J4];rw[Nat.mul_add,<-J5,Hb (256 ^ t.length) 256];omega
def A1n(bs:gh UInt8)(k:Nat)(d:k<bs.length):BD (bs.take (k+1))=BD (bs.take k)+(bs[k]'d).toNat*256 ^ k:=by
 rw[Dy d,PA];simp[BD,Nat.min_eq_left (Nat.le_of_lt d),Nat.mul_comm]
def A1T(w:ga)(text:gg)(hl:8<=text.size/\text.size<=9223372036854775807):
 Ag 168 #[.string text] w (Am (A0 (wrap64 (BD (text.data.toList.take 8):Nat))) λw'=>w=w'):=by
 obtain⟨hl1,hl2⟩:=hl
 go_enter func168,ntmps168
 go_wp2;go_loop [3,5] (λc i=>∃k x:Nat,k<=8/\i=A0 k/\c=.int .u64 x/\x<18446744073709551616/\Hid (x<256 ^ k)/\Hid (x=BD (text.data.toList.take k))) (λ_ i=>8-(intOf i).toNat)
 ·exact⟨0,0,Cb _,rfl,rfl,by omega,(by unfold Hid;decide),rfl⟩
 ·obtain⟨k,x,hk,rfl,rfl,hx,H,W⟩:=hrel;by_cases hlt:k<8
  ·(have d:k<text.size:=by omega);have hb:=(text[k]'d).toNat_lt;have hb0:=hb;have h:Hid (x+(text[k]'d).toNat*256 ^ k=BD (text.data.toList.take (k+1))):=by
    unfold Hid;rw[A1n _ k (by simpa using d),<-W.o];rfl
   generalize E:(text[k]'d).toNat=b at hb h;obtain⟨y,I,z,e1⟩:∃y,y=x+b*256 ^ k/\y<256 ^ (k+1)/\bits .or .u64 (x:Int) (IntKind.u64.wrap (((text[k]'d).toNat:Int)*2 ^ (8*k)))=((y:Nat):Int):=by
    have h1:=H.o;(have L:(256:Nat) ^ k=2 ^ (8*k):=by rw[Nat.pow_mul]);have h3:b*256 ^ k<=255*256 ^ k:=Gd _ (by omega);have h5:(256:Nat) ^ (k+1)<=256 ^ 8:=Nat.pow_le_pow_right (by omega) (by omega);refine⟨_,rfl,by omega,?_⟩;rw[E,IntKind.wrap_u64,show ((b:Int)*2 ^ (8*k))=((b*2 ^ (8*k):Nat):Int) by push_cast;rfl];rw[<-L,show ((b*256 ^ k:Nat):Int) % 18446744073709551616=((b*256 ^ k:Nat):Int) by omega];rw[u64_or_nat _ _ hx (by omega)]
    congr 1
    have h7:=Nat.shiftLeft_add_eq_or_of_lt (i:=8*k) (b:=x) (by rw[<-L];exact h1) b;rw[Nat.shiftLeft_eq,<-L]at h7;rw[Nat.or_comm,<-h7];omega
   have O:y<18446744073709551616:=by
    have h5:(256:Nat) ^ (k+1)<=256 ^ 8:=Nat.pow_le_pow_right (by omega) (by omega);omega
   (have aA:Hid (y=BD (text.data.toList.take (k+1))):=by unfold Hid;rw[I];exact h.o);have Y:=A1 <| z;clear I E z h W H;go_wp2;exact⟨⟨k+1,y,by omega,by go_num,rfl,O,Y,aA⟩,by simp[intOf];omega⟩
  ·(obtain rfl:k=8:=by omega);go_wp2;go_ret;rw[W.o];exact⟨rfl,rfl⟩
def Gm(n:Nat)(k:Nat):gh UInt8:=(List.range k).map λi=>UInt8.ofNat (n/256 ^ i)
def A1q(n k:Nat):(Gm n k).length=k:=by simp[Gm]
def A1p(n k:Nat):Gm n (k+1)=UInt8.ofNat n::Gm (n/256) k:=by
 simp only[Gm,List.range_succ_eq_map,GY,WO,Nat.pow_zero,Nat.div_one]
 congr 1
 apply NP;intro i _;simp only[Function.comp,Nat.succ_eq_add_one,J4,Nat.div_div_eq_div_mul];rw[Hb (256 ^ i) 256]
def UB(n k:Nat):BD (Gm n k)=n % 256 ^ k:=by
 induction k generalizing n with
 | zero=>simp[Gm,BD,Nat.mod_one]
 | succ k ih=>
  rw[A1p,BD,ih,J4,Hb (256 ^ k) 256,Nat.mod_mul];simp
def ED(n:Int):Nat:=(n % 18446744073709551616).toNat
def A4b(n:Int):ED n<18446744073709551616:=by unfold ED;omega
def W8(n:Int):n % 18446744073709551616=(ED n:Int):=by unfold ED;omega
def AO(n:Int):gh UInt8:=Gm (ED n) 8
def CQ(n:Int):(AO n).length=8:=A1q _ _
def Xk(n:Int)(h : -9223372036854775808<=n/\n<=9223372036854775807):wrap64 (BD (AO n):Nat)=n:=by
 have d:BD (AO n)=ED n:=by
  unfold AO;rw[UB];have:=A4b n;have z:(256:Nat) ^ 8=18446744073709551616:=by decide
  rw[z];omega
 rw[d];have:=W8 n;unfold wrap64;omega
def IZ(n:Nat)(k:Nat):gh Value:=Ea (Gm n k)++List.replicate (8-k) (.int .u8 0)
def LO(w:ga)(n:Int)(hn : -9223372036854775808<=n/\n<=9223372036854775807):
 Ag 239 #[A0 n] w (Am (.string ⟨(AO n).toArray⟩) λw'=>A3 Ab w w'):=by
 obtain⟨n1,n2⟩:=hn;have eu:IntKind.u64.wrap n=(ED n:Int):=by rw[IntKind.wrap_u64];exact W8 n
 go_enter func239,ntmps239
 go_wp2;go_loopw [5] (λi wr=>∃k:Nat,k<=8/\i=A0 k/\Hid (A3 Ab w wr)/\Hid (wr.heap[w.heap.size]?=some (.cells (IZ (ED n) k).toArray 318 (0,0)))) (λi _=>8-(intOf i).toNat)
 ·exact⟨0,Cb _,rfl,(A3.I _ _).al _,by unfold Hid;show (w.heap.push _)[w.heap.size]?=_;rw[Jd];rfl⟩
 ·obtain⟨k,hk,rfl,W,H⟩:=hrel;by_cases hlt:k<8
  ·(have hfz:wr.frozen? (Ac w.heap.size k)=false:=by have:=H.o;simp[World.frozen?,this]);have hce:wr.cell? (Ac w.heap.size k)=some (.int .u8 0):=by
    have:=H.o;have L:(IZ (ED n) k)[k]?=some (.int .u8 0):=by
     (have Y:(Ea (Gm (ED n) k)).length=k:=by simp[Ea,Gm]);unfold IZ;rw[HV (by omega),Y,List.getElem?_replicate];simp;omega
    simp[World.cell?,this,L]
   have d:=A1 (CL (o:=k) (v:=.int .u8 (ED n/2 ^ (8*k) % 256:Nat)) H.o);have E:Hid (A3 Ab w (wr.sC w.heap.size k (.int .u8 (ED n/2 ^ (8*k) % 256:Nat)))):=A3.bn W.o (by simp) _;have I:Hid ((IZ (ED n) k).toArray.setIfInBounds k (.int .u8 (ED n/2 ^ (8*k) % 256:Nat))=(IZ (ED n) (k+1)).toArray):=by
    unfold Hid;rcases(show k=0\/k=1\/k=2\/k=3\/k=4\/k=5\/k=6\/k=7 by omega) with rfl|rfl|rfl|rfl|rfl|rfl|rfl|rfl<;>simp[IZ,Ea,Gm,List.range_succ,List.replicate]
   (have e1:(ED n:Int)/2 ^ (8*k) % 256=((ED n/2 ^ (8*k) % 256:Nat):Int):=by push_cast;rfl);unfold Hid at d;rw[I.o]at d;have h:=A1 d;generalize hq:ED n/2 ^ (8*k) % 256=q at h E e1;go_wp2;exact⟨⟨k+1,by omega,by go_num,E,h⟩,by simp[intOf];omega⟩
  ·(obtain rfl:k=8:=by omega);have cv:(convert 127 9 (AH w.heap.size 8 8)).run Tryz.prog wr=.ok (.string ⟨(AO n).toArray⟩) wr:=by
    have L:=CQ n
    have:=OJ (P:=Tryz.prog) wr 127 9 5 (Ac w.heap.size 0) 8 (AO n) GA KA FR (by
     intro j hj;(have z:((Ac w.heap.size 0):Addr).add j=(Ac w.heap.size j):=by unfold Addr.add;split<;>simp_all);rw[z];have O:=H.o;(have h3:(IZ (ED n) 8)=Ea (AO n):=by simp[IZ,AO]);rw[h3]at O
     simp[World.cell?,O,Ea,List.getElem?_eq_getElem hj])
    rw[L]at this;exact this
   go_wp2;go_ret;exact⟨rfl,W.o⟩
def BM(s:Nat):gh UInt8:=(AO s).take 4
def Hh(s:Nat):(BM s).length=4:=by simp[BM,CQ]
def Y7(w:ga)(s:Nat)(hs:s<4294967296):
 Ag 250 #[.int .u32 s] w (Am (.string ⟨(BM s).toArray⟩) λw'=>A3 Ab w w'):=by
 have h : -9223372036854775808<=(s:Int)/\(s:Int)<=9223372036854775807:=by omega
 have hl:=CQ s
 go_enter func250,ntmps250
 go_wp2_with (go_at_call 239;refine(LO _ _ h).k ?_;rintro w' d);go_ret;exact⟨by rw[extract_mk];simp[BM],d⟩
end
section
open Go.RowKit
attribute [local go_sem ↓] Go.wp_at_zero Go.wp_at_succ
def Du(c n:Int):Int:=(if c<0 then -(c+1) else c) % n
def Ia(c n:Int)(d:0<n):0<=Du c n/\Du c n<n:=by
 unfold Du;exact⟨Ms _ (by omega),QT _ d⟩
def Jy(w:ga)(c n:Int)(I:AT c)(L:0<n/\n<=9223372036854775807):
 Ag 20 #[A0 c,A0 n] w (Am (A0 (Du c n)) λw'=>w=w'):=by
 obtain⟨c1,c2⟩:=I;obtain⟨H,n2⟩:=L;have z:=Ia c n H;have n0:¬n=0:=by omega
 have nm:¬n = -1:=by omega
 by_cases h:c<0
 ·have e1:IntKind.i64.wrap (c+1)=c+1:=by simp[IntKind.wrap,IntKind.bits,IntKind.signed];omega
  have e2:IntKind.i64.wrap (-(c+1)) = -(c+1):=by simp[IntKind.wrap,IntKind.bits,IntKind.signed];omega
  have d:Du c n = -((c+1).tmod n):=by unfold Du;rw[Ae h,<-QS,X5 (by omega)]
  rw[d]at z ⊢;have E:IntKind.i64.wrap (-((c+1).tmod n)) = -((c+1).tmod n):=by simp[IntKind.wrap,IntKind.bits,IntKind.signed];omega
  go_enter func20,ntmps20
  go_wp2;go_ret;exact⟨rfl,rfl⟩
 ·have d:Du c n=c % n:=by unfold Du;rw[Aa h]
  rw[d]at z ⊢;have E:IntKind.i64.wrap (c % n)=c % n:=by simp[IntKind.wrap,IntKind.bits,IntKind.signed];omega
  go_enter func20,ntmps20
  go_wp2;go_ret;exact⟨rfl,rfl⟩
end
section
open Go.RowKit
def PH(w:ga)(x:Int):Ag 63 #[A0 x] w (Am (.bool (decide (0<=x/\x<8))) λw'=>w=w'):=by
 obtain⟨q,d⟩:∃q,decide (0<=x/\x<8)=q:=⟨_,rfl⟩;rw[d];have h:=A1 d;by_cases h1:0<=x<;>by_cases h2:x<8
 all_goals try (exfalso;omega)
 all_goals
  go_enter func63,ntmps63
  go_wp2;go_ret;refine⟨?_,rfl⟩;rw[<-h.o];simp
  try omega
def UK(w:ga)(x:Int):Ag 58 #[A0 x] w (Am (.bool (decide (1<=x/\x<=4611686018427387904))) λw'=>w=w'):=by
 obtain⟨q,d⟩:∃q,decide (1<=x/\x<=4611686018427387904)=q:=⟨_,rfl⟩;rw[d];have h:=A1 d;by_cases h1:1<=x<;>by_cases h2:x<=4611686018427387904
 all_goals try (exfalso;omega)
 all_goals
  go_enter func58,ntmps58
  go_wp2;go_ret;refine⟨?_,rfl⟩;rw[<-h.o];simp
  try omega
def Bo(A9 d:Int):Int:=if A9 < -9223372036854775808+d then -9223372036854775808 else A9-d+1
def A0M(A9 d t:Int)(h:AT t):decide (Bo A9 d<=t)=Ha t d A9:=by
 obtain⟨t1,t2⟩:=h;unfold Bo Ha;split<;>simp<;>omega
def Pg(w:ga)(z:Nat)(A9 d:Int)(c3:A7 w z 3 (A0 d))(c4:A7 w z 5 (A0 A9))(L:1<=d/\d<=4611686018427387904)(O:AT A9):
 Ag 71 #[A5 z] w (Am (A0 (Bo A9 d)) λw'=>A3 Ab w w'):=by
 obtain⟨l1,l2⟩:=L;obtain⟨k1,k2⟩:=O;have ew:IntKind.i64.wrap (-9223372036854775808+d) = -9223372036854775808+d:=En (by omega)
 go_enter func71,ntmps71
 go_wp2;refine G0 (λw'=>A7 w' z 3 (A0 d)/\A7 w' z 5 (A0 A9)) 9
  (BG [0,1,2,3,4,5,6,7,8] []) (by kernel_rfl) (by kernel_rfl) (λ_ _ _ _ _ h=>h) ⟨c3,c4⟩ ?_
 iterate 9 (refine Ek (v:=?_) rfl (by rfl) ?_ ?_;rotate_left;(· (intro w' I;(try dsimp only at I);go_simp;try with_reducible rfl));(try simp only[Cs]))
 refine G1 ?_;simp only[DW,Dz];have d3:A7 w.drew z 3 (A0 d):=c3;have d4:A7 w.drew z 5 (A0 A9):=c4;have H:Hid (A3 Ab w w.drew):=(A3.I _ w).ag;generalize w.drew=w1 at d3 d4 H ⊢;by_cases h:A9 < -9223372036854775808+d
 ·have E:Hid (Bo A9 d = -9223372036854775808):=by unfold Hid Bo;rw[Ae h]
  go_wp2;go_ret;rw[E.o];exact⟨rfl,H.o⟩
 ·have E:Hid (Bo A9 d=A9-d+1):=by unfold Hid Bo;rw[Aa h]
  have ew2:IntKind.i64.wrap (A9-d)=A9-d:=En (by omega);have ew3:IntKind.i64.wrap (A9-d+1)=A9-d+1:=En (by omega);go_wp2;refine G0 (λw'=>A7 w' z 3 (A0 d)/\A7 w' z 5 (A0 A9)) 10
   (BG [0,1,2,3,4,5,6,7,8,9] []) (by kernel_rfl) (by kernel_rfl) (λ_ _ _ _ _ h=>h) ⟨d3,d4⟩ ?_
  iterate 10 (refine Ek (v:=?_) rfl (by rfl) ?_ ?_;rotate_left;(· (intro w' I;(try dsimp only at I);go_simp;try with_reducible rfl));(try simp only[Cs]))
  refine G1 ?_;simp only[DW,Dz];go_wp2;go_ret;rw[E.o];exact⟨rfl,H.o.ag⟩
end
def R5{a b:Nat}(h:a ^^^ b=0):a=b:=by
 have e:a ^^^ b ^^^ b=a:=by rw[Nat.xor_assoc,Nat.xor_self,Nat.xor_zero]
 rw[<-e,h,Nat.zero_xor]
def R0(a b c:Nat):a ^^^ (b ^^^ c)=b ^^^ (a ^^^ c):=by rw[<-Nat.xor_assoc,Nat.xor_comm a,Nat.xor_assoc]
def Xf(a b:Nat):(a ^^^ b)/2=a/2 ^^^ b/2:=by
 have:=Nat.shiftRight_xor_distrib (a:=a) (b:=b) (i:=1);simpa[Nat.shiftRight_succ] using this
def Y9(a b:Nat):Fl (a ^^^ b)=Fl a ^^^ Fl b:=by
 have h:(a ^^^ b) % 2=a % 2 ^^^ b % 2:=Nat.xor_mod_two_pow (n:=1);unfold Fl;rw[Xf,Nat.and_one_is_mod,Nat.and_one_is_mod,Nat.and_one_is_mod,h];rcases Nat.mod_two_eq_zero_or_one a with d|d<;>rcases Nat.mod_two_eq_zero_or_one b with z|z
 ·rw[d,z];simp
 ·rw[d,z];simp[Nat.xor_assoc]
 ·rw[d,z];simp only[Nat.mul_zero,Nat.xor_zero];rw[Nat.xor_assoc,Nat.xor_comm (b/2),Nat.xor_assoc]
 ·rw[d,z,Nat.xor_self,Nat.mul_zero,KF,Nat.xor_zero,Nat.xor_assoc,R0 3988292384,Nat.xor_self,Nat.xor_zero]
def Ou(a b:Nat):∀n,Ed (a ^^^ b) n=Ed a n ^^^ Ed b n
 | 0=>rfl
 | n+1=>by unfold Ed;rw[Ou a b n,Y9]
def MG(s m:Nat):∀n,Ed s (m+n)=Ed (Ed s m) n
 | 0=>rfl
 | n+1=>by
  show Fl (Ed s (m+n))=Fl (Ed (Ed s m) n);rw[MG s m n]
def Yb(y:Nat):Fl (2*y)=y:=by
 unfold Fl;rw[Nat.and_one_is_mod,show (2*y) % 2=0 by omega,show 2*y/2=y by omega];simp
def Ov(y:Nat):∀n,Ed (2 ^ n*y) n=y
 | 0=>by simp[Ed]
 | n+1=>by
  rw[Nat.add_comm n 1,MG];have e:Ed (2 ^ (1+n)*y) 1=2 ^ n*y:=by
   show Fl (2 ^ (1+n)*y)=_;rw[Nat.pow_add,Nat.pow_one,J5,Yb]
  rw[e,Ov y n]
def Ya{s:Nat}(h:s<4294967296)(h0:s≠0):Fl s≠0:=by
 unfold Fl;rw[Nat.and_one_is_mod];rcases Nat.mod_two_eq_zero_or_one s with d|d
 ·rw[d];simp;omega
 ·rw[d,KF];intro e;have:=R5 e;omega
def Ow{s:Nat}(h:s<4294967296)(d:s≠0):∀n,Ed s n≠0
 | 0=>d
 | n+1=>Ya (RM s n h) (Ow h d n)
def A3X{m a n:Nat}(d:m<4294967296)(h:m≠0)(hn:a<=n):Ed (2 ^ a*m) n≠0:=by
 obtain⟨k,rfl⟩:∃k,n=a+k:=⟨n-a,by omega⟩;rw[MG,Ov];exact Ow d h k
def J1{b:Nat}(d:b<256)(L:Nat):b+256*L=b ^^^ 256*L:=by
 apply Nat.eq_of_testBit_eq;intro j;rw[Nat.add_comm,show (256:Nat)=2 ^ 8 from rfl,Nat.testBit_two_pow_mul_add _ d,Nat.testBit_xor,Nat.testBit_two_pow_mul];by_cases h:j<8
 ·rw[Ae h];simp[show ¬(j≥8) by omega]
 ·rw[Aa h,Nat.testBit_lt_two_pow (Bi d (show 2 ^ 8<=2 ^ j from Nat.pow_le_pow_right (by decide) (by omega)))];simp[show j≥8 by omega]
def Ot:∀(bs:gh UInt8) (r:Nat),AP r bs=Ed (r ^^^ BD bs) (8*bs.length)
 | [],r=>by simp[AP,BD,Ed]
 | b::t,r=>by
  have e:AP r (b::t)=AP (Ed (r ^^^ b.toNat) 8) t:=rfl;rw[e,Ot t,BD,J1 b.toNat_lt,<-Nat.xor_assoc,Cg,show 8*(t.length+1)=8+8*t.length by omega,MG,Ou (r ^^^ b.toNat),show (256:Nat)*BD t=2 ^ 8*BD t from rfl,Ov]
def Cu(l es:gh UInt8):gh UInt8:=List.zipWith (· ^^^ ·) l es
def Kg:∀(l es:gh UInt8),l.length=es.length->BD (Cu l es)=BD l ^^^ BD es
 | [],[],_=>by simp[Cu,BD]
 | a::l,e::es,h=>by
  have E:=Kg l es (by simpa using h);have z:Cu (a::l) (e::es)=(a ^^^ e):: Cu l es:=rfl;have I:(a ^^^ e).toNat=a.toNat ^^^ e.toNat:=UInt8.toNat_xor ..;have H:a.toNat ^^^ e.toNat<256:=Mf (n:=8) a.toNat_lt e.toNat_lt;rw[z,BD,BD,BD,E,I,J1 H,J1 a.toNat_lt,J1 e.toNat_lt];have d:∀x y:Nat,256*(x ^^^ y)=256*x ^^^ 256*y:=λx y=>by
   have:=Nat.shiftLeft_xor_distrib (a:=x) (b:=y) (i:=8);rw[Nat.shiftLeft_eq,Nat.shiftLeft_eq,Nat.shiftLeft_eq]at this;rw[Hb,Hb 256 x,Hb 256 y];exact this
  rw[d];simp only[Nat.xor_assoc]
  congr 1
  rw[R0]
def LK:∀ {a b:gh UInt8},a.length=b.length->BD a=BD b->a=b
 | [],[],_,_=>rfl
 | x::a,y::b,h,e=>by
  have h1:=x.toNat_lt;have h2:=y.toNat_lt;simp only[BD]at e;have z:x=y:=UInt8.toNat_inj.1 (by omega);have d:=LK (a:=a) (b:=b) (by simpa using h) (by omega);rw[z,d]
def Uz{r:Nat}(h:r<4294967296):BD (BM r)=r:=by
 have e:BM r=Gm r 4:=by
  have d:ED r=r:=by unfold ED;omega
  unfold BM AO Gm;rw[d,<-List.map_take,List.take_range];rfl
 rw[e,UB];omega
def Tp{s:Nat}{d t:gh UInt8}(L:s<4294967296)(E:t.length=4):BM (AP s d)=t↔AP s (d++t)=0:=by
 have z:=I5 s d L;rw[RL,Ot t,E];have H:BD t<4294967296:=by have:=Pz t;rw[E]at this;exact this
 constructor
 ·rintro rfl;rw[Uz z,Nat.xor_self];decide
 ·intro h;refine LK (by rw[Hh,E]) ?_;rw[Uz z];by_cases I:AP s d ^^^ BD t=0
  ·exact R5 I
  ·exact absurd h (Ow (Mf (n:=32) z H) I _)
def Hv(es:gh UInt8):Prop:=∃a m,BD es=2 ^ a*m/\m<4294967296
def A3W{s:Nat}{l es:gh UInt8}(E:l.length=es.length)(W:Hv es)(O:BD es≠0)(h:AP s l=0):AP s (Cu l es)≠0:=by
 obtain⟨a,m,e,I⟩:=W;have z:(Cu l es).length=l.length:=by simp[Cu,E]
 rw[Ot]at h ⊢;rw[z,Kg l es E,<-Nat.xor_assoc,Ou,h,Nat.zero_xor,e];have d:m≠0:=λh=>O (by rw[e,h,Nat.mul_zero]);refine A3X I d ?_;have H:=Pz es;rw[e,show (256:Nat)=2 ^ 8 from rfl,<-Nat.pow_mul,<-E]at H;have L:2 ^ a<=2 ^ a*m:=Nat.le_mul_of_pos_right _ (Nat.pos_of_ne_zero d);exact ET ((Nat.pow_lt_pow_iff_right (a:=2) (by decide)).1 (WH L H))
def P9{s:Nat}{d t E z:gh UInt8}(Y:s<4294967296)(O:d.length=E.length)(L:t.length=4)(H:z.length=4)(hb:Hv (E++z))(h0:BD (E++z)≠0)(h:BM (AP s d)=t):BM (AP s (Cu d E))≠Cu t z:=by
 intro hx;have I:(Cu t z).length=4:=by simp[Cu,L,H]
 have h1:=(Tp Y L).1 h;have W:=(Tp Y I).1 hx;have e:Cu d E++Cu t z=Cu (d++t) (E++z):=by unfold Cu;rw[List.zipWith_append O]
 rw[e]at W;exact A3W (by simp[O,L,H]) hb h0 h1 W
section
open Go.RowKit

def Bc(s t v:Int):gh UInt8:=UInt8.ofNat (s % 256).toNat::(AO t++AO v)
def Th(w:ga)(s t v:Int)(hs:0<=s/\s<256)(ht : -9223372036854775808<=t/\t<=9223372036854775807)(hv : -9223372036854775808<=v/\v<=9223372036854775807):
 Ag 195 #[.agg #[A0 s,A0 t,A0 v]] w (Am (.string ⟨(Bc s t v).toArray⟩) λw'=>A3 Ab w w'):=by
 go_enter func195,ntmps195
 go_wp2;refine Hx 15 (λy=>{tmps:=#[.agg #[A0 s,A0 t,A0 v],A5 w.heap.size,.string ⟨#[]⟩,y 0,y 1,y 2,y 3,y 4,y 5,y 6,y 7,y 8,y 9,y 10,y 11,y 12,y 13,y 14],defers:=[]}) (λ_=>undef)
  (λw'=>w'.heap[w.heap.size]?=some (.cells #[A0 s,A0 t,A0 v] 113 (0,0))/\A3 Ab w w') (A3 Ab)
  (λj x w'=>match j with
   | 0=>x=(A5 w.heap.size)
   | 1=>x=A0 s
   | 2=>x=.int .u8 s
   | 3=>∃g e,x=AH g 1 1/\w'.heap[g]?=some (.cells #[.int .u8 s] e (0,0))
   | 4=>x=.string ⟨#[UInt8.ofNat (s % 256).toNat]⟩
   | 5=>x=.pointer (some (Ac w.heap.size 1))
   | 6=>x=.pointer (some (Ac w.heap.size 1))
   | 7=>x=A0 t
   | 8=>x=.string ⟨(AO t).toArray⟩
   | 9=>x=.string ⟨(UInt8.ofNat (s % 256).toNat::AO t).toArray⟩
   | 10=>x=.pointer (some (Ac w.heap.size 1))
   | 11=>x=.pointer (some (Ac w.heap.size 2))
   | 12=>x=A0 v
   | 13=>x=.string ⟨(AO v).toArray⟩
   | 14=>x=.string ⟨(Bc s t v).toArray⟩
   | _=>True)
  (by kernel_rfl) (by kernel_rfl) rfl ?_ ?_ ?_ ?_
 ·exact⟨(by show (w.heap.push _)[w.heap.size]?=_;rw[Jd]),((A3.I _ _).al _).ag⟩
 ·intro j x w1 w2 hR hS' Y;split at Y<;>first|exact Y|(obtain⟨g,e,h1,h2⟩:=Y;exact⟨g,e,h1,hR.an h2 (by simp)⟩)
 ·simp only[Fe,EZ,FY,HK]
  repeat' (with_reducible apply And.intro)
  all_goals refine⟨?_,(by intro y d _ _ h;exact Bool.noConfusion h),λy x=>rfl⟩
  all_goals
   intro y d hS H hw K hK;obtain⟨E,L⟩:=hS;simp[Gr,Region.binds,Fi,List.filter_cons]at H;(have hc0:A7 d w.heap.size 0 (A0 s):=by simp[A7,World.cell?,E]);(have hc1:A7 d w.heap.size 1 (A0 t):=by simp[A7,World.cell?,E]);(have hc2:A7 d w.heap.size 2 (A0 v):=by simp[A7,World.cell?,E]);(have hw8:IntKind.u8.wrap s=s:=by simp[IntKind.wrap,IntKind.bits,IntKind.signed];omega);have hlt:=CQ t;have hlv:=CQ v;have I:=A1 E;have z:=A1 L;have aA:=A1 hK;have ap1:(ByteArray.mk #[UInt8.ofNat (s % 256).toNat])++(ByteArray.mk (AO t).toArray)=⟨(UInt8.ofNat (s % 256).toNat::AO t).toArray⟩:=Kw [_] _;have ap2:(ByteArray.mk (UInt8.ofNat (s % 256).toNat::AO t).toArray)++(ByteArray.mk (AO v).toArray)=⟨(Bc s t v).toArray⟩:=Kw _ _
   try
    (have aB:∃g,y 3=AH g 1 1/\∃e,d.heap[g]?=some (.cells #[.int .u8 s] e (0,0)):=by with_reducible exact H);obtain⟨g,H,e,hg⟩:=aB;(have aF:A7 d g 0 (.int .u8 s):=by simp[A7,World.cell?,hg])
    have cv:(convert 127 9 (AH g 1 1)).run Tryz.prog d=.ok (.string ⟨#[UInt8.ofNat (s % 256).toNat]⟩) d:=OJ (P:=Tryz.prog) d 127 9 5 (Ac g 0) 1 [UInt8.ofNat (s % 256).toNat] GA KA FR (by
     intro j hj;(have aE:j=0:=by simpa using hj);subst aE;(have W:((Ac g 0):Addr).add 0=(Ac g 0):=by unfold Addr.add;split<;>simp_all);(have aD:((UInt8.ofNat (s % 256).toNat).toNat:Int)=s:=by simp;omega);rw[W,aF]
     simp only[Ml,aD])
  all_goals dsimp only
  all_goals try go_simp
  all_goals try with_reducible exact aA.o _ _ _ rfl (by simp[Act.put,H]) (A3.I _ _) ⟨I.o,z.o⟩
  all_goals try
   (have hd7:y 7=A0 t:=by with_reducible exact H);refine(LO d t ht).k ?_;rintro w2 O;exact aA.o _ _ _ rfl (by simp[Act.put,H]) O ⟨O.an I.o (by simp),z.o.Av O (by simp)⟩
  all_goals try
   (have hd12:y 12=A0 v:=by with_reducible exact H.1);refine(LO d v hv).k ?_;rintro w2 O;exact aA.o _ _ _ rfl (by simp[Act.put,H]) O ⟨O.an I.o (by simp),z.o.Av O (by simp)⟩
  ·exact aA.o _ _ _ ⟨d.heap.size,_,rfl,(by show (d.heap.push _)[d.heap.size]?=_;rw[Jd])⟩ (by simp[Act.put,H]) ((A3.I _ _).al _) ⟨((A3.I Ab d).al _).an I.o (by simp),z.o.al _⟩
 ·intro y d hS Y;obtain⟨E,L⟩:=hS;have h14:y 14=.string ⟨(Bc s t v).toArray⟩:=Y 14 (by omega);have z:=A1 L;go_wp2;go_ret;exact⟨rfl,z.o⟩
def BI(l:gh UInt8):Int:=wrap64 (BD (l.take 8):Nat)
def N4(w:ga)(l:gh UInt8)(d:8<=l.length/\l.length<=9223372036854775807):
 Ag 168 #[.string ⟨l.toArray⟩] w (Am (A0 (BI l)) λw'=>w=w'):=
 A1T w ⟨l.toArray⟩ d
def N5(n:Int)(h : -9223372036854775808<=n/\n<=9223372036854775807)(r:gh UInt8):BI (AO n++r)=n:=by
 unfold BI;rw[Hc (by rw[CQ];omega),EG (by rw[CQ];omega)];exact Xk n h
def C5(w:ga)(p:Nat)(s t v:Int):Prop:=w.heap[p]?=some (.cells #[.int .i64 s,.int .i64 t,.int .i64 v] 113 (0,0))
def C5.c0{w:ga}{p:Nat}{s t v:Int}(h:C5 w p s t v):A7 w p 0 (A0 s):=by unfold C5 at h;simp[A7,World.cell?,h]
def C5.c1{w:ga}{p:Nat}{s t v:Int}(h:C5 w p s t v):A7 w p 1 (A0 t):=by unfold C5 at h;simp[A7,World.cell?,h]
def C5.c2{w:ga}{p:Nat}{s t v:Int}(h:C5 w p s t v):A7 w p 2 (A0 v):=by unfold C5 at h;simp[A7,World.cell?,h]
def C5.fz{w:ga}{p:Nat}{s t v:Int}(h:C5 w p s t v)(o:Nat):w.frozen? (Ac p o)=false:=by unfold C5 at h;simp[World.frozen?,h]
def C5.lt{w:ga}{p:Nat}{s t v:Int}(h:C5 w p s t v):p<w.heap.size:=Bv h
def C5.an{S:Nat->Prop}{w w':ga}{p:Nat}{s t v:Int}(h:C5 w p s t v)(d:A3 S w w')(z:¬S p):C5 w' p s t v:=d.an h z
def C5.ag{w:ga}{p:Nat}{s t v:Int}(h:C5 w p s t v):C5 w.drew p s t v:=by unfold C5 at h ⊢;exact h
def C5.bl{w:ga}{p:Nat}{s t v:Int}(h:C5 w p s t v)(s' t' d:Int):C5 (((w.setCell (Ac p 0) (A0 s')).setCell (Ac p 1) (A0 t')).setCell (Ac p 2) (A0 d)) p s' t' d:=
 CL (o:=2) (v:=A0 d) (CL (o:=1) (v:=A0 t') (CL (o:=0) (v:=A0 s') h))
def Te(w:ga)(b:UInt8)(l:gh UInt8)(hl:16<=l.length/\l.length<9223372036854775807):
 Ag 176 #[.string ⟨(b::l).toArray⟩] w (Am (.tuple #[.agg #[A0 b.toNat,A0 (BI l),A0 (BI (l.drop 8))],.bool (decide (b.toNat<8))]) λw'=>A3 Ab w w'):=by
 obtain⟨hl1,hl2⟩:=hl;have hb:=b.toNat_lt
 go_enter func176,ntmps176
 go_wp2;refine Hx 12 (λy=>{tmps:=#[.string ⟨(b::l).toArray⟩,undef,A5 w.heap.size,.bool false,y 11,y 0,y 1,y 2,y 3,y 4,y 5,y 6,y 7,y 8,y 9,y 10,undef,undef,undef,undef],defers:=[]}) (λ_=>undef)
  (λw'=>C5 w' w.heap.size 0 0 0/\A3 Ab w w') (A3 Ab)
  (λj x w'=>match j with
   | 0=>x=.string ⟨(b::l).toArray⟩
   | 1=>x=.int .u8 b.toNat
   | 2=>x=A0 b.toNat
   | 3=>x=.string ⟨(b::l).toArray⟩
   | 4=>x=.string ⟨l.toArray⟩
   | 5=>x=A0 (BI l)
   | 6=>x=.string ⟨(b::l).toArray⟩
   | 7=>x=.string ⟨(l.drop 8).toArray⟩
   | 8=>x=A0 (BI (l.drop 8))
   | 9=>x=.agg #[A0 (BI l),A0 (BI (l.drop 8))]
   | 10=>x=.agg #[A0 b.toNat,A0 (BI l),A0 (BI (l.drop 8))]
   | 11=>∃p,x=(A5 p)/\w.heap.size<p/\C5 w' p 0 0 0
   | _=>True)
  (by kernel_rfl) (by kernel_rfl) rfl ?_ ?_ ?_ ?_
 ·exact⟨(by show (w.heap.push _)[w.heap.size]?=_;rw[Jd]),((A3.I _ _).al _).ag⟩
 ·intro j x w1 w2 hR aN O;split at O
  case h_12=>
   obtain⟨p,h1,h2,h3⟩:=O;exact⟨p,h1,h2,h3.an hR (λh=>h)⟩
  all_goals exact O
 ·simp only[Fe,EZ,FY,HK]
  repeat' (with_reducible apply And.intro)
  all_goals refine⟨?_,(by intro y L _ _ h;exact Bool.noConfusion h),λy x=>rfl⟩
  all_goals
   intro y L hS hd hw K hK;obtain⟨H,d⟩:=hS;simp[Gr,Region.binds,Fi,List.filter_cons]at hd;have e0:(ByteArray.mk (b::l).toArray)[0]'(by show 0<l.length+1;omega)=b:=rfl;have e1:(ByteArray.mk (b::l).toArray).extract 1 (l.length+1)=⟨l.toArray⟩:=by
    rw[extract_mk];simp
   have e9:(ByteArray.mk (b::l).toArray).extract 9 (l.length+1)=⟨(l.drop 8).toArray⟩:=by
    rw[extract_mk,DW,EG (by simp)]
   (have g1:(1:Int)<=(l.length:Int)+1:=by omega);(have g9:(9:Int)<=(l.length:Int)+1:=by omega);have ew:IntKind.i64.wrap (b.toNat:Int)=b.toNat:=En (by omega);have E:=A1 H;have I:=A1 d;have aD:=A1 hK
  all_goals dsimp only
  all_goals try go_simp
  all_goals try with_reducible exact aD.o _ _ _ rfl (by simp[Act.put,hd]) (A3.I _ _) ⟨E.o,I.o⟩
  all_goals try
   (have hd4:y 4=.string ⟨l.toArray⟩:=by with_reducible exact hd);refine(N4 L l (by omega)).k ?_;rintro w2 rfl;exact aD.o _ _ _ rfl (by simp[Act.put,hd]) (A3.I _ _) ⟨E.o,I.o⟩
  all_goals try
   (have hd7:y 7=.string ⟨(l.drop 8).toArray⟩:=by with_reducible exact hd.1);refine(N4 L (l.drop 8) (by rw[CO];omega)).k ?_;rintro w2 rfl;exact aD.o _ _ _ rfl (by simp[Act.put,hd]) (A3.I _ _) ⟨E.o,I.o⟩
  ·refine aD.o _ _ _ ⟨L.heap.size,rfl,?_,BL L _⟩ (by simp[Act.put]) ((A3.I _ _).al _) ⟨E.o.an ((A3.I Ab _).al _) (λh=>h),I.o.al _⟩;exact E.o.lt
 ·intro y L hS O;obtain⟨H,d⟩:=hS;have h10:y 10=.agg #[A0 b.toNat,A0 (BI l),A0 (BI (l.drop 8))]:=O 10 (by omega);obtain⟨p,h11,aF,hp⟩:∃p,y 11=(A5 p)/\w.heap.size<p/\C5 L p 0 0 0:=O 11 (by omega);have c0:=hp.c0;have c1:=hp.c1;have c2:=hp.c2;have f0:=hp.fz 0;have f1:=hp.fz 1;have f2:=hp.fz 2;have h3:=hp.bl b.toNat (BI l) (BI (l.drop 8));have cr:A3 (One p) L (((L.setCell (Ac p 0) (A0 b.toNat)).setCell (Ac p 1) (A0 (BI l))).setCell (Ac p 2) (A0 (BI (l.drop 8)))):=(((A3.I (One p) L).aq rfl _ _).aq rfl _ _).aq rfl _ _;have aB:=A1 h3;have aA:=A1 (H.an cr (λh=>by have h':w.heap.size=p:=h;omega));have aK:Hid (A3 Ab w (((L.setCell (Ac p 0) (A0 b.toNat)).setCell (Ac p 1) (A0 (BI l))).setCell (Ac p 2) (A0 (BI (l.drop 8))))):=d.Av cr (λk hk hlt2=>by have h':k=p:=hk;omega);have aO:Hid (w.heap.size<p):=aF;go_wp2;generalize (((L.setCell (Ac p 0) (A0 b.toNat)).setCell (Ac p 1) (A0 (BI l))).setCell (Ac p 2) (A0 (BI (l.drop 8))))=w3 at aB aA aK ⊢;obtain⟨W,aI⟩:∃W,BI l=W:=⟨_,rfl⟩;obtain⟨Y,aG⟩:∃Y,BI (l.drop 8)=Y:=⟨_,rfl⟩;rw[aI,aG]at aB ⊢;have aJ:Hid (((b.toNat:Int)<8)=(b.toNat<8)):=by unfold Hid;simp;omega
  obtain⟨n,hn⟩:∃n:Nat,b.toNat=n:=⟨_,rfl⟩;have aE:Hid (b.toNat=n/\BI l=W/\BI (l.drop 8)=Y):=⟨hn,aI,aG⟩;rw[hn]at aB aJ ⊢;have q0:=aB.o.c0;have q1:=aB.o.c1;have q2:=aB.o.c2;have r0:=aA.o.c0;have r1:=aA.o.c1;have r2:=aA.o.c2;have z0:=aA.o.fz 0;have z1:=aA.o.fz 1;have z2:=aA.o.fz 2;go_wp2;refine Hx 5 (λz=>{tmps:=#[.string ⟨(b::l).toArray⟩,undef,A5 w.heap.size,.bool false,A5 p,y 0,y 1,y 2,y 3,y 4,y 5,y 6,y 7,y 8,y 9,.agg #[A0 n,A0 W,A0 Y],z 0,z 1,z 2,z 3],defers:=[]}) (λ_=>undef)
   (λw'=>C5 w' p n W Y/\(∃a b c,C5 w' w.heap.size a b c)/\A3 Ab w w') (λw1 w2=>C5 w1 w.heap.size n W Y->C5 w2 w.heap.size n W Y)
   (λj x w'=>match j with
    | 0=>x=.agg #[A0 n,A0 W,A0 Y]
    | 1=>x=(A5 p)
    | 2=>x=A0 n
    | 3=>x=.bool (decide ((n:Int)<8))
    | 4=>C5 w' w.heap.size n W Y
    | _=>True)
   (by kernel_rfl) (by kernel_rfl) rfl ?_ ?_ ?_ ?_
  ·exact⟨aB.o.ag,⟨_,_,_,aA.o.ag⟩,aK.o.ag⟩
  ·intro j x w1 w2 hR aN O;split at O
   case h_5=>exact hR O
   all_goals exact O
  ·clear aB aA aK;simp only[Fe,EZ,FY,HK]
   repeat' (with_reducible apply And.intro)
   all_goals refine⟨?_,(by intro y L _ _ h;exact Bool.noConfusion h),λy x=>rfl⟩
   all_goals
    intro z wz hS hd hw K hK;obtain⟨H,⟨a1,a2,a3,d⟩,aL⟩:=hS;simp[Gr,Region.binds,Fi,List.filter_cons]at hd;have q0:=H.c0;have q1:=H.c1;have q2:=H.c2;have r0:=d.c0;have r1:=d.c1;have r2:=d.c2;have z0:=d.fz 0;have z1:=d.fz 1;have z2:=d.fz 2;have E:=A1 H;have I:=A1 d;have aH:=A1 aL;have aD:=A1 hK
   all_goals dsimp only
   all_goals try go_simp
   all_goals try with_reducible exact aD.o _ _ _ rfl (by simp[Act.put,hd]) (λh=>h) ⟨E.o,⟨_,_,_,I.o⟩,aH.o⟩
   have st:=I.o.bl n W Y;have cr:A3 (One w.heap.size) wz (((wz.setCell (Ac w.heap.size 0) (A0 n)).setCell (Ac w.heap.size 1) (A0 W)).setCell (Ac w.heap.size 2) (A0 Y)):=(((A3.I (One w.heap.size) wz).aq rfl _ _).aq rfl _ _).aq rfl _ _;refine aD.o undef _ _ st (by simp[Act.put,hd]) (λ_=>st) ⟨E.o.an cr (λh=>by have h':p=w.heap.size:=h;have:=aO.o;omega),⟨_,_,_,st⟩,aH.o.Av cr (λk hk aF=>by have h':k=w.heap.size:=hk;omega)⟩
  ·intro z wz hS O;have h3:z 3=.bool (decide ((n:Int)<8)):=O 3 (by omega);have h4:C5 wz w.heap.size n W Y:=O 4 (by omega);have r0:=h4.c0;have r1:=h4.c1;have r2:=h4.c2;have aP:=A1 hS.2.2;have aM:decide ((n:Int)<8)=decide (n<8):=by
    by_cases h:n<8
    ·rw[CM h,CM (by omega)]
    ·rw[De h,De (by omega)]
   rw[aM]at h3;go_wp2;refine Nt (v:=.tuple #[.agg #[A0 n,A0 W,A0 Y],.bool (decide (n<8))]) (by simp[results,Tryz.results176,go_sem,r0,r1,r2]) rfl ?_;exact⟨by rw[aE.o.1,aE.o.2.1,aE.o.2.2],aP.o⟩
end
end Go.Proofs.YtodcnkbblippnaaGreatDoor
