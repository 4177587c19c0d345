/- Part 4 of a proof: walks of the program. -/
import Derived.Laws.BitsAllLaws
import Derived.Laws.BytesString
import Derived.Handy
import Derived.Test.YtodcnkbblippnaaGreatDoorPart02
namespace Go.Proofs.YtodcnkbblippnaaGreatDoor
set_option maxRecDepth 100000
set_option maxHeartbeats 32000000
set_option linter.defProp false
open Go.Proofs.Tryz
section
open Go
section
variable {P:Program} {Q:Exit->Act->World->Prop}
def KN(y:Nat->Value)(i:Nat)(v:Value):Nat->Value:=λj=>if j=i then v else y j
def Ec(o:Oper):List Nat:=(o.after.toList.filter (Region.binds .any)).map (·.on)
def DC(G:Nat->Value->World->Prop)(y:Nat->Value)(w:World):List Nat->Prop
 | []=>True
 | j::r=>G j (y j) w/\DC G y w r
def DC.of{G:Nat->Value->World->Prop}{y:Nat->Value}{w:World}:∀(l:List Nat),(∀j∈l,G j (y j) w)->DC G y w l
 | [],_=>trivial
 | j::r,h=>⟨h j (by simp),DC.of r λk d=>h k (by simp[d])⟩
def NP(P:Program)(ops:Array Oper)(A:(Nat->Value)->Act)(S:World->Prop)(R:World->World->Prop)(G:Nat->Value->World->Prop)(Q:Exit->Act->World->Prop)(i:Nat)(o:Oper):Prop:=
 (∀y w,S w->DC G y w (Ec o)->Region.wanted o (yielded ops (A y).tmps)=true->∀K:Act->World->Prop,(∀v a' w',G i v w'->a'=(A y).put o.dst v->R w w'->S w'->K a' w')->o.wp P (A y) w K Q)/\
 (∀y w,S w->DC G y w (Ec o)->Region.wanted o (yielded ops (A y).tmps)=false->G i undef w)/\
 (∀y v,(A y).put o.dst v=A (KN y i v))
def DV(P:Program)(ops:Array Oper)(A:(Nat->Value)->Act)(S:World->Prop)(R:World->World->Prop)(G:Nat->Value->World->Prop)(Q:Exit->Act->World->Prop):Nat->List Oper->Prop
 | _,[]=>True
 | i,o::r=>NP P ops A S R G Q i o/\DV P ops A S R G Q (i+1) r
def DV.cU{ops:Array Oper}{A:(Nat->Value)->Act}{S:World->Prop}{R:World->World->Prop}{G:Nat->Value->World->Prop}:∀ {k:Nat} {l:List Oper},DV P ops A S R G Q k l->∀(i:Nat) (o:Oper),l[i]?=some o->NP P ops A S R G Q (k+i) o
 | _,[],_,i,o,h=>by simp at h
 | k,o'::r,hh,0,o,h=>by
  have:o'=o:=by simpa using h
  subst this;exact hh.1
 | k,o'::r,hh,i+1,o,h=>by
  have:=DV.cU hh.2 i o (by simpa using h)
  rwa [show k+1+i=k+(i+1) by omega]at this
def Ed(listed:Array Bool):Nat->Nat
 | 0=>0
 | k+1=>Ed listed k+(if listed.getD k true then 0 else 1)
def MQ(listed:Array Bool)(i:Nat):∀n,n<=i->Ed (listed.setIfInBounds i true) n=Ed listed n
 | 0,_=>rfl
 | n+1,h=>by
  unfold Ed;rw[MQ listed i n (by omega),Ih true (by omega)]
def MO(listed:Array Bool)(i:Nat)(z:listed.getD i true=false):∀n,i<n->Ed listed n=Ed (listed.setIfInBounds i true) n+1
 | 0,h=>by omega
 | n+1,h=>by
  unfold Ed;by_cases d:i=n
  ·subst d;have E:i<listed.size:=by
    rcases Eg i listed.size with y | y
    ·exact y
    ·simp[Array.getElem?_eq_none y]at z
   rw[MQ listed i i (Aw _),z];simp[E]
  ·rw[MO listed i z n (by omega),Ih true d];omega
def MM(listed:Array Bool):∀n,Ed listed n=0->∀j,j<n->listed.getD j true=true
 | 0,_,j,h=>by omega
 | n+1,h,j,hj=>by
  unfold Ed at h;rcases Eg j n with d | d
  ·exact MM listed n (by omega) j d
  ·(obtain rfl:j=n:=by omega);cases hg:listed.getD j true with
   | true=>rfl
   | false=>rw[hg]at h;simp at h
def MP(listed:Array Bool):∀n,Ed listed n≠0->∃j,j<n/\listed.getD j true=false
 | 0,h=>absurd rfl h
 | n+1,h=>by
  cases hg:listed.getD n true with
  | false=>exact⟨n,by omega,hg⟩
  | true=>
   unfold Ed at h;rw[hg]at h;obtain⟨j,hj,d⟩:=MP listed n (by simpa using h);exact⟨j,by omega,d⟩
def MN(m:Nat):∀n,n<=m->Ed (Array.replicate m false) n=n
 | 0,_=>rfl
 | n+1,h=>by
  unfold Ed;rw[MN m n (by omega)];have d:n<m:=by omega
  have:(Array.replicate m false).getD n true=false:=by simp[d]
  rw[this];simp
def Io(ops:Array Oper)(n:Nat):Bool:=
 decide (n<ops.size)&&Region.sinkB .any ops n&&Region.chainB .any ops n &&
  ((List.range n).all λi=>((ops[i]?).map λo=>o.after.all λe=>!Region.binds .any e||decide (e.on<i)).getD false) &&
  Region.seqB .any ops (ops.size-n) n (List.replicate n true++List.replicate (ops.size-n) false).toArray
def Pn{ops:Array Oper}{n:Nat}{listed:Array Bool}(H:HeadInv .any ops n listed)(hn:n<ops.size)(y:((List.range n).all λi=>((ops[i]?).map λo=>o.after.all λe=>!Region.binds .any e||decide (e.on<i)).getD false)=true):
 ∀(i:Nat),i<n->listed.getD i true=false->∃k,k∈Region.ready .any ops listed:=by
 intro i
 induction i using Nat.strongRecOn with
 | _ i ih=>
  intro V J;have z:ops[i]?=some (ops[i]'(by omega)):=TF (by omega);obtain⟨o,z⟩:∃o,ops[i]?=some o:=⟨_,z⟩;by_cases d:∀e∈o.after,Region.binds .any e=true->listed.getD e.on false=true
  ·exact⟨i,FH.2 ⟨J,o,z,d⟩⟩
  ·simp only[Classical.not_forall]at d;obtain⟨e,W,O,E⟩:=d;have I:=(Kl.1 y) i (List.mem_range.2 V);rw[z]at I;simp only[FO,Option.getD_some,TH]at I;have L:=I e W;rw[O]at L;(have U:e.on<i:=by simpa using L);refine ih e.on U (by omega) (getD_in (by rw[H.size];omega) ?_);cases h:listed.getD e.on false with
   | true=>exact absurd h E
   | false=>rfl
def RV{l:List Oper}{n:Nat}{A:(Nat->Value)->Act}{S:World->Prop}{R:World->World->Prop}{G:Nat->Value->World->Prop}(hB:Io l.toArray n=true)(aK:DV P l.toArray A S R G Q 0 (l.take n))(aI:∀j v w w',R w w'->S w'->G j v w->G j v w')(aE:∀y w,S w->(∀j,j<n->G j (y j) w)->wpList P l.toArray Q (l.drop n) (A y) w):
 ∀(f:Nat) (listed:Array Bool) (y:Nat->Value) (w:World),HeadInv .any l.toArray n listed->Ed listed n=f->S w->(∀j,j<n->listed.getD j false=true->G j (y j) w)->
  wpAny P .any l.toArray Q (f+(l.toArray.size-n)) listed (A y) w:=by
 simp only[Io,Ek,De]at hB;obtain⟨⟨⟨⟨hn,hs⟩,hc⟩,W⟩,aD⟩:=hB;intro f
 induction f with
 | zero=>
  intro listed y w d V hS hG;have H:=MM listed n V;have aL:=d.size;have z:∀j,j<n->listed.getD j false=true:=λj J=>by
   have L:=H j J;(have h2:j<listed.size:=by omega);simp[h2]at L ⊢;exact L
  have hL:listed=(List.replicate n true++List.replicate (l.toArray.size-n) false).toArray:=by
   refine Array.ext (by (simp[aL];have:n<l.length:=by simpa using hn);omega) λi L h2=>?_;rcases Eg i n with h|h
   ·have:=z i h;simp[L]at this;simp[this,h]
   ·have:=d.tail i h (by omega);simp[L]at this;simp[this,List.getElem_append,Nat.not_lt.2 h]
  rw[ED];have aH:(l.drop n).length=l.toArray.size-n:=by simp
  have:=KC (P:=P) (md:=.any) (ops:=l.toArray) (Q':=Q) (l.drop n) n listed (A y) w (λj=>by simp[List.getElem?_drop]) (by rw[aH,hL];exact aD) (aE y w hS λj J=>hG j J (z j J))
  rwa [aH]at this
 | succ f ih=>
  intro listed y w d V hS hG;obtain⟨i0,aF,Y⟩:=MP listed n (by omega);have aA:f+1+(l.toArray.size-n)=(f+(l.toArray.size-n))+1:=by omega
  rw[aA];refine⟨λh0=>?_,λi hi=>?_⟩
  ·obtain⟨k,hk⟩:=Pn d hn W i0 aF Y;rw[h0]at hk;cases hk
  ·have O:i<n:=by
    rcases Eg i n with h|h
    ·exact h
    ·exact absurd hi (HF hs hc hn d _ i0 rfl aF Y i h)
   obtain⟨aM,o,ho,H⟩:=FH.1 hi;have aJ:(l.take n)[i]?=some o:=by
    rw[List.getElem?_take_of_lt O];simpa using ho
   have L:=(Kl.1 W) i (List.mem_range.2 O);rw[ho]at L;simp only[FO,Option.getD_some,TH]at L;have ob:=aK.cU i o aJ;rw[ED]at ob;have I:DC G y w (Ec o):=by
    refine DC.of _ λj J=>?_;unfold Ec at J;rw[DL]at J;obtain⟨e,he,rfl⟩:=J;rw[Gf]at he;(have aG:e∈o.after:=by simpa using he.1);have h2:=L e aG;rw[he.2]at h2;(have h3:e.on<i:=by simpa using h2);exact hG e.on (by omega) (H e aG he.2)
   have E:∀v w',S w'->(R w w'\/w'=w)->G i v w'->wpAny P .any l.toArray Q (f+(l.toArray.size-n)) (listed.setIfInBounds i true) ((A y).put o.dst v) w':=by
    intro v w' U hR aB;rw[ob.2.2 y v];refine ih _ _ _ (d.set hi O) (by have:=MO listed i aM n O;omega) U λj J hl=>?_;unfold KN;by_cases Z:j=i
    ·subst Z;simpa using aB
    ·rw[Ad Z];rw[Ih false (K6 Z)]at hl;rcases hR with hR|rfl
     ·exact aI j _ w w' hR U (hG j J hl)
     ·exact hG j J hl
   unfold wpOp;simp only[ho];split
   ·rename_i hw;exact .inl (ob.1 y w hS I hw _ λv a' w' aB aN hR U=>aN ▸ E v w' U (.inl hR) aB)
   ·rename_i hw;exact E _ w hS (.inr rfl) (ob.2.1 y w hS I (by simpa using hw))
def EW{id:Nat}{a:Act}{w:World}{l:List Oper}(n:Nat)(A:(Nat->Value)->Act)(L:Nat->Value)(S:World->Prop)(R:World->World->Prop)(G:Nat->Value->World->Prop)(U:P.follows .mixedOrders=true)(J:Io l.toArray n=true)(V:a=A L)(W:S w.drew)(E:∀j v w w',R w w'->S w'->G j v w->G j v w')(I:DV P l.toArray A S R G Q 0 (l.take n))(d:∀y w,S w->(∀j,j<n->G j (y j) w)->wpList P l.toArray Q (l.drop n) (A y) w):(Code.region id l.toArray true).wp P Q a w:=by
 have hn:n<l.toArray.size:=by
  simp only[Io,Ek,De]at J;exact J.1.1.1.1
 refine Ky U ?_;have h:HeadInv .any l.toArray n (Array.replicate l.toArray.size false):=
  ⟨by simp,λj oj _ z=>(by rw[GK]at z;cases z),λt _ O=>getD_in (by simpa using O) (GK _ _)⟩
 have H:=RV J I E d n _ L w.drew h (MN _ n (by omega)) W (λj _ z=>by rw[GK]at z;cases z);rw[show n+(l.toArray.size-n)=l.toArray.size by omega]at H;rw[V];exact H
end
end
section
open Go.RowKit
def Gq(s:Nat):Nat:=(s/2) ^^^ (3988292384*(s &&& 1))
def Gp(s:Nat):Nat->Nat
 | 0=>s
 | n+1=>Gq (Gp s n)
def HH(s:Nat)(b:UInt8):Nat:=Gp (s ^^^ b.toNat) 8
def Ay(s:Nat)(bs:List UInt8):Nat:=bs.foldl HH s
def N0(s:Nat):s &&& 1<=1:=Nat.and_le_right
def KV(s:Nat)(h:s<4294967296):Gq s<4294967296:=by
 unfold Gq;have:=N0 s;exact Ni (n:=32) (by omega) (by omega)
def Oy(s n:Nat)(h:s<4294967296):Gp s n<4294967296:=by
 induction n with
 | zero=>exact h
 | succ n ih=>exact KV _ ih
def Ox(s:Nat)(b:UInt8)(h:s<4294967296):HH s b<4294967296:=by
 have:=b.toNat_lt;exact Oy _ _ (Ni (n:=32) (by omega) (by omega))
def Gn(s:Nat)(bs:List UInt8)(h:s<4294967296):Ay s bs<4294967296:=by
 unfold Ay
 induction bs generalizing s with
 | nil=>exact h
 | cons b t ih=>exact ih _ (Ox s b h)
def Ov(s:Nat)(a b:List UInt8):Ay s (a++b)=Ay (Ay s a) b:=NA
def Ou(s:Nat)(bs:List UInt8)(k:Nat)(d:k<bs.length):Ay s (bs.take (k+1))=HH (Ay s (bs.take k)) (bs[k]'d):=by
 rw[D9 d,Ov];rfl
def T1(w:World)(s:Nat)(text:ByteArray)(Z:s<4294967296)(hl:text.size<=9223372036854775807):
 Ac 165 #[.int .u32 s,.string text] w (Ak (.int .u32 (Ay s text.data.toList)) λw'=>w=w'):=by
 go_enter func165,ntmps165
 go_wp2;go_loop [0,8] (λc i=>∃k x:Nat,k<=text.size/\i=A0 k/\c=.int .u32 x/\x<4294967296/\Hid (x=Ay s (text.data.toList.take k))) (λ_ i=>text.size-(intOf i).toNat)
 case atStart=>exact⟨0,s,CL _,rfl,rfl,Z,rfl⟩
 case round=>
  obtain⟨k,x,hk,rfl,rfl,hx,I⟩:=hrel;by_cases d:k<text.size
  ·have W:=(text[k]'d).toNat_lt;have U:bits .xor .u32 (x:Int) (((text[k]'d).toNat:Int) % 4294967296)=((x ^^^ (text[k]'d).toNat:Nat):Int):=by
    rw[show (((text[k]'d).toNat:Int) % 4294967296)=(((text[k]'d).toNat:Nat):Int) by omega];exact u32_xor_nat _ _ hx (by omega)
   have V:x ^^^ (text[k]'d).toNat<4294967296:=Ni (n:=32) (by omega) (by omega);have H:Hid (Gp (x ^^^ (text[k]'d).toNat) 8=Ay s (text.data.toList.take (k+1))):=by
    unfold Hid;rw[Ou s _ k (by simpa using d),<-I.o];simp[HH];rfl
   generalize J:x ^^^ (text[k]'d).toNat=y at U V H;clear J W I;go_wp2;clear U;go_loop [0,17] (λc i=>∃j z:Nat,j<=8/\i=A0 j/\c=.int .u32 z/\z<4294967296/\Hid (z=Gp y j)) (λ_ i=>8-(intOf i).toNat)
   case atStart=>exact⟨0,y,CL _,rfl,rfl,V,rfl⟩
   case round=>
    obtain⟨j,z,hj,rfl,rfl,L,E⟩:=hrel;by_cases hj8:j<8
    ·have e1:bits .xor .u32 ((z:Int)/2) (3988292384*bits .and .u32 (z:Int) 1 % 4294967296)=((Gq z:Nat):Int):=by
      rw[show (1:Int)=((1:Nat):Int) from rfl,u32_and_nat z 1 L (by omega)];have:=N0 z;(have Y:(3988292384:Int)*((z &&& 1:Nat):Int) % 4294967296=((3988292384*(z &&& 1):Nat):Int):=by omega);rw[Y,show ((z:Int)/2)=((z/2:Nat):Int) by omega];exact u32_xor_nat _ _ (by omega) (by omega)
     have O:=KV z L;(have h:Hid (Gq z=Gp y (j+1)):=by unfold Hid;rw[E.o];rfl);go_wp2;exact⟨⟨j+1,Gq z,by omega,by go_num,rfl,O,h⟩,by simp[intOf];omega⟩
    ·(obtain rfl:j=8:=by omega);(have h:Hid (z=Ay s (text.data.toList.take (k+1))):=by unfold Hid;rw[E.o];exact H.o);go_wp2;exact⟨⟨k+1,z,by omega,by go_num,rfl,L,h⟩,by simp[intOf];omega⟩
  ·have h:Hid (x=Ay s text.data.toList):=by
    unfold Hid;rw[I.o,EF];simpa using by omega
   go_wp2;go_ret;rw[h.o];exact⟨rfl,rfl⟩
def extract_mk(l:List UInt8)(i j:Nat):(ByteArray.mk l.toArray).extract i j=⟨((l.drop i).take (j-i)).toArray⟩:=by
 apply ByteArray.ext;simp[ByteArray.data_extract]
def GP(a b:List UInt8):(ByteArray.mk a.toArray)++(ByteArray.mk b.toArray)=⟨(a++b).toArray⟩:=by
 apply ByteArray.ext;simp[ByteArray.data_append]
def Dq:List UInt8->Nat
 | []=>0
 | b::t=>b.toNat+256*Dq t
def QM(a b:List UInt8):Dq (a++b)=Dq a+256 ^ a.length*Dq b:=by
 induction a with
 | nil=>simp[Dq]
 | cons c t ih=>simp only[Fc,Dq,ih,Cr,IE];rw[Nat.mul_add,<-Nat.mul_assoc,K8 (256 ^ t.length) 256];omega
def QK(bs:List UInt8)(k:Nat)(d:k<bs.length):Dq (bs.take (k+1))=Dq (bs.take k)+(bs[k]'d).toNat*256 ^ k:=by
 rw[D9 d,QM];simp[Dq,Nat.min_eq_left (Nat.le_of_lt d),Nat.mul_comm]
def Rb(w:World)(text:ByteArray)(hl:8<=text.size/\text.size<=9223372036854775807):
 Ac 168 #[.string text] w (Ak (A0 (wrap64 (Dq (text.data.toList.take 8):Nat))) λw'=>w=w'):=by
 obtain⟨hl1,hl2⟩:=hl
 go_enter func168,ntmps168
 go_wp2;go_loop [3,5] (λc i=>∃k x:Nat,k<=8/\i=A0 k/\c=.int .u64 x/\x<18446744073709551616/\Hid (x<256 ^ k)/\Hid (x=Dq (text.data.toList.take k))) (λ_ i=>8-(intOf i).toNat)
 case atStart=>exact⟨0,0,CL _,rfl,rfl,by omega,(by unfold Hid;decide),rfl⟩
 case round=>
  obtain⟨k,x,hk,rfl,rfl,hx,H,O⟩:=hrel;by_cases hlt:k<8
  ·(have d:k<text.size:=by omega);have W:=(text[k]'d).toNat_lt;have hb0:=W;have h:Hid (x+(text[k]'d).toNat*256 ^ k=Dq (text.data.toList.take (k+1))):=by
    unfold Hid;rw[QK _ k (by simpa using d),<-O.o];rfl
   generalize E:(text[k]'d).toNat=b at W h;obtain⟨y,I,z,e1⟩:∃y,y=x+b*256 ^ k/\y<256 ^ (k+1)/\bits .or .u64 (x:Int) (IntKind.u64.wrap (((text[k]'d).toNat:Int)*2 ^ (8*k)))=((y:Nat):Int):=by
    have Z:=H.o;(have J:(256:Nat) ^ k=2 ^ (8*k):=by rw[Nat.pow_mul]);have h3:b*256 ^ k<=255*256 ^ k:=GS _ (by omega);have h5:(256:Nat) ^ (k+1)<=256 ^ 8:=Ta (by omega) (by omega);refine⟨_,rfl,by omega,?_⟩;rw[E,IntKind.wrap_u64,show ((b:Int)*2 ^ (8*k))=((b*2 ^ (8*k):Nat):Int) by push_cast;rfl];rw[<-J,show ((b*256 ^ k:Nat):Int) % 18446744073709551616=((b*256 ^ k:Nat):Int) by omega];rw[u64_or_nat _ _ hx (by omega)]
    congr 1
    have Y:=Nat.shiftLeft_add_eq_or_of_lt (i:=8*k) (b:=x) (by rw[<-J];exact Z) b;rw[Nat.shiftLeft_eq,<-J]at Y;rw[Nat.or_comm,<-Y];omega
   have L:y<18446744073709551616:=by
    have h5:(256:Nat) ^ (k+1)<=256 ^ 8:=Ta (by omega) (by omega);omega
   (have V:Hid (y=Dq (text.data.toList.take (k+1))):=by unfold Hid;rw[I];exact h.o);have U:=A1 <| z;clear I E z h O H;go_wp2;exact⟨⟨k+1,y,by omega,by go_num,rfl,L,U,V⟩,by simp[intOf];omega⟩
  ·(obtain rfl:k=8:=by omega);go_wp2;go_ret;rw[O.o];exact⟨rfl,rfl⟩
def Ex(n:Nat)(k:Nat):List UInt8:=(List.range k).map λi=>UInt8.ofNat (n/256 ^ i)
def QO(n k:Nat):(Ex n k).length=k:=by simp[Ex]
def QN(n k:Nat):Ex n (k+1)=UInt8.ofNat n::Ex (n/256) k:=by
 simp only[Ex,List.range_succ_eq_map,ET,List.map_map,Nat.pow_zero,Nat.div_one]
 congr 1
 apply Ke;intro i _;simp only[Function.comp,Nat.succ_eq_add_one,IE,Nat.div_div_eq_div_mul];rw[K8 (256 ^ i) 256]
def QL(n k:Nat):Dq (Ex n k)=n % 256 ^ k:=by
 induction k generalizing n with
 | zero=>simp[Ex,Dq,Nat.mod_one]
 | succ k ih=>
  rw[QN,Dq,ih,IE,K8 (256 ^ k) 256,Nat.mod_mul];simp
def Ds(n:Int):Nat:=(n % 18446744073709551616).toNat
def SL(n:Int):Ds n<18446744073709551616:=by unfold Ds;omega
def MZ(n:Int):n % 18446744073709551616=(Ds n:Int):=by unfold Ds;omega
def AG(n:Int):List UInt8:=Ex (Ds n) 8
def CO(n:Int):(AG n).length=8:=QO _ _
def NU(n:Int)(h : -9223372036854775808<=n/\n<=9223372036854775807):wrap64 (Dq (AG n):Nat)=n:=by
 have d:Dq (AG n)=Ds n:=by
  unfold AG;rw[QL];have:=SL n;have y:(256:Nat) ^ 8=18446744073709551616:=by decide
  rw[y];omega
 rw[d];have:=MZ n;unfold wrap64;omega
def FM(n:Nat)(k:Nat):List Value:=Df (Ex n k)++List.replicate (8-k) (.int .u8 0)
def Hj(w:World)(n:Int)(hn : -9223372036854775808<=n/\n<=9223372036854775807):
 Ac 239 #[A0 n] w (Ak (.string ⟨(AG n).toArray⟩) λw'=>A2 A7 w w'):=by
 obtain⟨n1,n2⟩:=hn;have eu:IntKind.u64.wrap n=(Ds n:Int):=by rw[IntKind.wrap_u64];exact MZ n
 go_enter func239,ntmps239
 go_wp2;go_loopw [5] (λi wr=>∃k:Nat,k<=8/\i=A0 k/\Hid (A2 A7 w wr)/\Hid (wr.heap[w.heap.size]?=some (.cells (FM (Ds n) k).toArray 318 (0,0)))) (λi _=>8-(intOf i).toNat)
 case atStart=>exact⟨0,CL _,rfl,(A2.C _ _).ae _,by unfold Hid;show (w.heap.push _)[w.heap.size]?=_;rw[FW];rfl⟩
 case round=>
  obtain⟨k,hk,rfl,L,E⟩:=hrel;by_cases hlt:k<8
  ·(have hfz:wr.frozen? (A8 w.heap.size k)=false:=by have:=E.o;simp[World.frozen?,this]);have hce:wr.cell? (A8 w.heap.size k)=some (.int .u8 0):=by
    have:=E.o;have I:(FM (Ds n) k)[k]?=some (.int .u8 0):=by
     (have O:(Df (Ex (Ds n) k)).length=k:=by simp[Df,Ex]);unfold FM;rw[IL (by omega),O,List.getElem?_replicate];simp;omega
    simp[World.cell?,this,I]
   have d:=A1 (Ca (o:=k) (v:=.int .u8 (Ds n/2 ^ (8*k) % 256:Nat)) E.o);have z:Hid (A2 A7 w (wr.sC w.heap.size k (.int .u8 (Ds n/2 ^ (8*k) % 256:Nat)))):=A2.a1 L.o (by simp) _;have H:Hid ((FM (Ds n) k).toArray.setIfInBounds k (.int .u8 (Ds n/2 ^ (8*k) % 256:Nat))=(FM (Ds n) (k+1)).toArray):=by
    unfold Hid;rcases(show k=0\/k=1\/k=2\/k=3\/k=4\/k=5\/k=6\/k=7 by omega) with rfl|rfl|rfl|rfl|rfl|rfl|rfl|rfl<;>simp[FM,Df,Ex,List.range_succ,List.replicate]
   (have V:(Ds n:Int)/2 ^ (8*k) % 256=((Ds n/2 ^ (8*k) % 256:Nat):Int):=by push_cast;rfl);unfold Hid at d;rw[H.o]at d;have h:=A1 d;generalize hq:Ds n/2 ^ (8*k) % 256=q at h z V;go_wp2;exact⟨⟨k+1,by omega,by go_num,z,h⟩,by simp[intOf];omega⟩
  ·(obtain rfl:k=8:=by omega);have cv:(convert 127 9 (AH w.heap.size 8 8)).run Tryz.prog wr=.ok (.string ⟨(AG n).toArray⟩) wr:=by
    have I:=CO n
    have:=Ja (P:=Tryz.prog) wr 127 9 5 (A8 w.heap.size 0) 8 (AG n) underlying127 underlying5 underlying9 (by
     intro j W;(have y:((A8 w.heap.size 0):Addr).add j=(A8 w.heap.size j):=by unfold Addr.add;split<;>simp_all);rw[y];have J:=E.o;(have U:(FM (Ds n) 8)=Df (AG n):=by simp[FM,AG]);rw[U]at J
     simp[World.cell?,J,Df,List.getElem?_eq_getElem W])
    rw[I]at this;exact this
   go_wp2;go_ret;exact⟨rfl,L.o⟩
def Bm(s:Nat):List UInt8:=(AG s).take 4
def EY(s:Nat):(Bm s).length=4:=by simp[Bm,CO]
def Ow(w:World)(s:Nat)(hs:s<4294967296):
 Ac 250 #[.int .u32 s] w (Ak (.string ⟨(Bm s).toArray⟩) λw'=>A2 A7 w w'):=by
 have h : -9223372036854775808<=(s:Int)/\(s:Int)<=9223372036854775807:=by omega
 have hl:=CO s
 go_enter func250,ntmps250
 go_wp2_with (go_at_call 239;refine(Hj _ _ h).mono ?_;rintro e w'⟨rfl,d⟩);go_ret;exact⟨by rw[extract_mk];simp[Bm],d⟩
def AW(s t v:Int):List UInt8:=UInt8.ofNat (s % 256).toNat::(AG t++AG v)
def Lu(w:World)(s t v:Int)(hs:0<=s/\s<256)(ht : -9223372036854775808<=t/\t<=9223372036854775807)(hv : -9223372036854775808<=v/\v<=9223372036854775807):
 Ac 195 #[.agg #[A0 s,A0 t,A0 v]] w (Ak (.string ⟨(AW s t v).toArray⟩) λw'=>A2 A7 w w'):=by
 go_enter func195,ntmps195
 go_wp2;refine EW 15 (λy=>{tmps:=#[.agg #[A0 s,A0 t,A0 v],A4 w.heap.size,.string ⟨#[]⟩,y 0,y 1,y 2,y 3,y 4,y 5,y 6,y 7,y 8,y 9,y 10,y 11,y 12,y 13,y 14],defers:=[]}) (λ_=>undef)
  (λw'=>w'.heap[w.heap.size]?=some (.cells #[A0 s,A0 t,A0 v] 113 (0,0))/\A2 A7 w w') (A2 A7)
  (λj x w'=>match j with
   | 0=>x=(A4 w.heap.size)
   | 1=>x=A0 s
   | 2=>x=.int .u8 s
   | 3=>∃g e,x=AH g 1 1/\w'.heap[g]?=some (.cells #[.int .u8 s] e (0,0))
   | 4=>x=.string ⟨#[UInt8.ofNat (s % 256).toNat]⟩
   | 5=>x=.pointer (some (A8 w.heap.size 1))
   | 6=>x=.pointer (some (A8 w.heap.size 1))
   | 7=>x=A0 t
   | 8=>x=.string ⟨(AG t).toArray⟩
   | 9=>x=.string ⟨(UInt8.ofNat (s % 256).toNat::AG t).toArray⟩
   | 10=>x=.pointer (some (A8 w.heap.size 1))
   | 11=>x=.pointer (some (A8 w.heap.size 2))
   | 12=>x=A0 v
   | 13=>x=.string ⟨(AG v).toArray⟩
   | 14=>x=.string ⟨(AW s t v).toArray⟩
   | _=>True)
  (by kernel_rfl) (by kernel_rfl) rfl ?_ ?_ ?_ ?_
 ·exact⟨(by show (w.heap.push _)[w.heap.size]?=_;rw[FW]),((A2.C _ _).ae _).I⟩
 ·intro j x w1 w2 hR hS' U;split at U<;>first|exact U|(obtain⟨g,e,h1,h2⟩:=U;exact⟨g,e,h1,hR.Ap h2 (by simp)⟩)
 ·simp only[Ei,Eh,DV,Fx]
  repeat' (with_reducible apply And.intro)
  all_goals refine⟨?_,(by intro y d _ _ h;exact Bool.noConfusion h),λy x=>rfl⟩
  all_goals
   intro y d hS H hw K hK;obtain⟨E,J⟩:=hS;simp[Ec,Region.binds,DC,List.filter_cons]at H;(have hc0:A5 d w.heap.size 0 (A0 s):=by simp[A5,World.cell?,E]);(have hc1:A5 d w.heap.size 1 (A0 t):=by simp[A5,World.cell?,E]);(have hc2:A5 d w.heap.size 2 (A0 v):=by simp[A5,World.cell?,E]);(have hw8:IntKind.u8.wrap s=s:=by simp[IntKind.wrap,IntKind.bits,IntKind.signed];omega);have hlt:=CO t;have hlv:=CO v;have I:=A1 E;have z:=A1 J;have V:=A1 hK;have ap1:(ByteArray.mk #[UInt8.ofNat (s % 256).toNat])++(ByteArray.mk (AG t).toArray)=⟨(UInt8.ofNat (s % 256).toNat::AG t).toArray⟩:=GP [_] _;have ap2:(ByteArray.mk (UInt8.ofNat (s % 256).toNat::AG t).toArray)++(ByteArray.mk (AG v).toArray)=⟨(AW s t v).toArray⟩:=GP _ _
   try
    (have W:∃g,y 3=AH g 1 1/\∃e,d.heap[g]?=some (.cells #[.int .u8 s] e (0,0)):=by with_reducible exact H);obtain⟨g,H,e,hg⟩:=W;(have aA:A5 d g 0 (.int .u8 s):=by simp[A5,World.cell?,hg])
    have cv:(convert 127 9 (AH g 1 1)).run Tryz.prog d=.ok (.string ⟨#[UInt8.ofNat (s % 256).toNat]⟩) d:=Ja (P:=Tryz.prog) d 127 9 5 (A8 g 0) 1 [UInt8.ofNat (s % 256).toNat] underlying127 underlying5 underlying9 (by
     intro j hj;(have Z:j=0:=by simpa using hj);subst Z;(have O:((A8 g 0):Addr).add 0=(A8 g 0):=by unfold Addr.add;split<;>simp_all);(have Y:((UInt8.ofNat (s % 256).toNat).toNat:Int)=s:=by simp;omega);rw[O,aA]
     simp only[Hs,Y])
  all_goals dsimp only
  all_goals try go_simp
  all_goals try with_reducible exact V.o _ _ _ rfl (by simp[Act.put,H]) (A2.C _ _) ⟨I.o,z.o⟩
  all_goals try
   (have hd7:y 7=A0 t:=by with_reducible exact H);refine(Hj d t ht).mono ?_;rintro e w2⟨rfl,L⟩;exact V.o _ _ _ rfl (by simp[Act.put,H]) L ⟨L.Ap I.o (by simp),z.o.As L (by simp)⟩
  all_goals try
   (have hd12:y 12=A0 v:=by with_reducible exact H.1);refine(Hj d v hv).mono ?_;rintro e w2⟨rfl,L⟩;exact V.o _ _ _ rfl (by simp[Act.put,H]) L ⟨L.Ap I.o (by simp),z.o.As L (by simp)⟩
  ·exact V.o _ _ _ ⟨d.heap.size,_,rfl,(by show (d.heap.push _)[d.heap.size]?=_;rw[FW])⟩ (by simp[Act.put,H]) ((A2.C _ _).ae _) ⟨((A2.C A7 d).ae _).Ap I.o (by simp),z.o.ae _⟩
 ·intro y d hS U;obtain⟨E,J⟩:=hS;have h14:y 14=.string ⟨(AW s t v).toArray⟩:=U 14 (by omega);have z:=A1 J;go_wp2;go_ret;exact⟨rfl,z.o⟩
def B1(l:List UInt8):Int:=wrap64 (Dq (l.take 8):Nat)
def Ic(w:World)(l:List UInt8)(d:8<=l.length/\l.length<=9223372036854775807):
 Ac 168 #[.string ⟨l.toArray⟩] w (Ak (A0 (B1 l)) λw'=>w=w'):=
 Rb w ⟨l.toArray⟩ d
def JC(n:Int)(h : -9223372036854775808<=n/\n<=9223372036854775807)(r:List UInt8):B1 (AG n++r)=n:=by
 unfold B1;rw[GU (by rw[CO];omega),EF (by rw[CO];omega)];exact NU n h
def Bk(w:World)(p:Nat)(s t v:Int):Prop:=w.heap[p]?=some (.cells #[.int .i64 s,.int .i64 t,.int .i64 v] 113 (0,0))
def Bk.c0{w:World}{p:Nat}{s t v:Int}(h:Bk w p s t v):A5 w p 0 (A0 s):=by unfold Bk at h;simp[A5,World.cell?,h]
def Bk.c1{w:World}{p:Nat}{s t v:Int}(h:Bk w p s t v):A5 w p 1 (A0 t):=by unfold Bk at h;simp[A5,World.cell?,h]
def Bk.c2{w:World}{p:Nat}{s t v:Int}(h:Bk w p s t v):A5 w p 2 (A0 v):=by unfold Bk at h;simp[A5,World.cell?,h]
def Bk.fz{w:World}{p:Nat}{s t v:Int}(h:Bk w p s t v)(o:Nat):w.frozen? (A8 p o)=false:=by unfold Bk at h;simp[World.frozen?,h]
def Bk.lt{w:World}{p:Nat}{s t v:Int}(h:Bk w p s t v):p<w.heap.size:=CD h
def Bk.Ap{S:Nat->Prop}{w w':World}{p:Nat}{s t v:Int}(h:Bk w p s t v)(d:A2 S w w')(y:¬S p):Bk w' p s t v:=d.Ap h y
def Bk.I{w:World}{p:Nat}{s t v:Int}(h:Bk w p s t v):Bk w.drew p s t v:=by unfold Bk at h ⊢;exact h
def Bk.a8{w:World}{p:Nat}{s t v:Int}(h:Bk w p s t v)(s' y d:Int):Bk (((w.setCell (A8 p 0) (A0 s')).setCell (A8 p 1) (A0 y)).setCell (A8 p 2) (A0 d)) p s' y d:=
 Ca (o:=2) (v:=A0 d) (Ca (o:=1) (v:=A0 y) (Ca (o:=0) (v:=A0 s') h))
def Ls(w:World)(b:UInt8)(l:List UInt8)(hl:16<=l.length/\l.length<9223372036854775807):
 Ac 176 #[.string ⟨(b::l).toArray⟩] w (Ak (.tuple #[.agg #[A0 b.toNat,A0 (B1 l),A0 (B1 (l.drop 8))],.bool (decide (b.toNat<8))]) λw'=>A2 A7 w w'):=by
 obtain⟨hl1,hl2⟩:=hl;have hb:=b.toNat_lt
 go_enter func176,ntmps176
 go_wp2;refine EW 12 (λy=>{tmps:=#[.string ⟨(b::l).toArray⟩,undef,A4 w.heap.size,.bool false,y 11,y 0,y 1,y 2,y 3,y 4,y 5,y 6,y 7,y 8,y 9,y 10,undef,undef,undef,undef],defers:=[]}) (λ_=>undef)
  (λw'=>Bk w' w.heap.size 0 0 0/\A2 A7 w w') (A2 A7)
  (λj x w'=>match j with
   | 0=>x=.string ⟨(b::l).toArray⟩
   | 1=>x=.int .u8 b.toNat
   | 2=>x=A0 b.toNat
   | 3=>x=.string ⟨(b::l).toArray⟩
   | 4=>x=.string ⟨l.toArray⟩
   | 5=>x=A0 (B1 l)
   | 6=>x=.string ⟨(b::l).toArray⟩
   | 7=>x=.string ⟨(l.drop 8).toArray⟩
   | 8=>x=A0 (B1 (l.drop 8))
   | 9=>x=.agg #[A0 (B1 l),A0 (B1 (l.drop 8))]
   | 10=>x=.agg #[A0 b.toNat,A0 (B1 l),A0 (B1 (l.drop 8))]
   | 11=>∃p,x=(A4 p)/\w.heap.size<p/\Bk w' p 0 0 0
   | _=>True)
  (by kernel_rfl) (by kernel_rfl) rfl ?_ ?_ ?_ ?_
 ·exact⟨(by show (w.heap.push _)[w.heap.size]?=_;rw[FW]),((A2.C _ _).ae _).I⟩
 ·intro j x w1 w2 hR aK L;split at L
  case h_12=>
   obtain⟨p,h1,h2,h3⟩:=L;exact⟨p,h1,h2,h3.Ap hR (λh=>h)⟩
  all_goals exact L
 ·simp only[Ei,Eh,DV,Fx]
  repeat' (with_reducible apply And.intro)
  all_goals refine⟨?_,(by intro y J _ _ h;exact Bool.noConfusion h),λy x=>rfl⟩
  all_goals
   intro y J hS V hw K hK;obtain⟨H,d⟩:=hS;simp[Ec,Region.binds,DC,List.filter_cons]at V;have e0:(ByteArray.mk (b::l).toArray)[0]'(by show 0<l.length+1;omega)=b:=rfl;have e1:(ByteArray.mk (b::l).toArray).extract 1 (l.length+1)=⟨l.toArray⟩:=by
    rw[extract_mk];simp
   have e9:(ByteArray.mk (b::l).toArray).extract 9 (l.length+1)=⟨(l.drop 8).toArray⟩:=by
    rw[extract_mk,Dh,EF (by simp)]
   (have g1:(1:Int)<=(l.length:Int)+1:=by omega);(have g9:(9:Int)<=(l.length:Int)+1:=by omega);(have ew:IntKind.i64.wrap (b.toNat:Int)=b.toNat:=by simp[IntKind.wrap,IntKind.bits,IntKind.signed];omega);have E:=A1 H;have I:=A1 d;have Z:=A1 hK
  all_goals dsimp only
  all_goals try go_simp
  all_goals try with_reducible exact Z.o _ _ _ rfl (by simp[Act.put,V]) (A2.C _ _) ⟨E.o,I.o⟩
  all_goals try
   (have hd4:y 4=.string ⟨l.toArray⟩:=by with_reducible exact V);refine(Ic J l (by omega)).mono ?_;rintro e w2⟨rfl,rfl⟩;exact Z.o _ _ _ rfl (by simp[Act.put,V]) (A2.C _ _) ⟨E.o,I.o⟩
  all_goals try
   (have hd7:y 7=.string ⟨(l.drop 8).toArray⟩:=by with_reducible exact V.1);refine(Ic J (l.drop 8) (by rw[CS];omega)).mono ?_;rintro e w2⟨rfl,rfl⟩;exact Z.o _ _ _ rfl (by simp[Act.put,V]) (A2.C _ _) ⟨E.o,I.o⟩
  ·refine Z.o _ _ _ ⟨J.heap.size,rfl,?_,Bw J _⟩ (by simp[Act.put]) ((A2.C _ _).ae _) ⟨E.o.Ap ((A2.C A7 _).ae _) (λh=>h),I.o.ae _⟩;exact E.o.lt
 ·intro y J hS L;obtain⟨H,d⟩:=hS;have h10:y 10=.agg #[A0 b.toNat,A0 (B1 l),A0 (B1 (l.drop 8))]:=L 10 (by omega);obtain⟨p,h11,aB,hp⟩:∃p,y 11=(A4 p)/\w.heap.size<p/\Bk J p 0 0 0:=L 11 (by omega);have c0:=hp.c0;have c1:=hp.c1;have c2:=hp.c2;have f0:=hp.fz 0;have f1:=hp.fz 1;have f2:=hp.fz 2;have h3:=hp.a8 b.toNat (B1 l) (B1 (l.drop 8));have cr:A2 (One p) J (((J.setCell (A8 p 0) (A0 b.toNat)).setCell (A8 p 1) (A0 (B1 l))).setCell (A8 p 2) (A0 (B1 (l.drop 8)))):=(((A2.C (One p) J).ak rfl _ _).ak rfl _ _).ak rfl _ _;have Y:=A1 h3;have W:=A1 (H.Ap cr (λh=>by have h':w.heap.size=p:=h;omega));have aH:Hid (A2 A7 w (((J.setCell (A8 p 0) (A0 b.toNat)).setCell (A8 p 1) (A0 (B1 l))).setCell (A8 p 2) (A0 (B1 (l.drop 8))))):=d.As cr (λk hk hlt2=>by have h':k=p:=hk;omega);have aL:Hid (w.heap.size<p):=aB;go_wp2;generalize (((J.setCell (A8 p 0) (A0 b.toNat)).setCell (A8 p 1) (A0 (B1 l))).setCell (A8 p 2) (A0 (B1 (l.drop 8))))=w3 at Y W aH ⊢;obtain⟨O,aF⟩:∃O,B1 l=O:=⟨_,rfl⟩;obtain⟨U,aD⟩:∃U,B1 (l.drop 8)=U:=⟨_,rfl⟩;rw[aF,aD]at Y ⊢;have aG:Hid (((b.toNat:Int)<8)=(b.toNat<8)):=by unfold Hid;simp;omega
  obtain⟨n,hn⟩:∃n:Nat,b.toNat=n:=⟨_,rfl⟩;have aA:Hid (b.toNat=n/\B1 l=O/\B1 (l.drop 8)=U):=⟨hn,aF,aD⟩;rw[hn]at Y aG ⊢;have q0:=Y.o.c0;have q1:=Y.o.c1;have q2:=Y.o.c2;have r0:=W.o.c0;have r1:=W.o.c1;have r2:=W.o.c2;have z0:=W.o.fz 0;have z1:=W.o.fz 1;have z2:=W.o.fz 2;go_wp2;refine EW 5 (λz=>{tmps:=#[.string ⟨(b::l).toArray⟩,undef,A4 w.heap.size,.bool false,A4 p,y 0,y 1,y 2,y 3,y 4,y 5,y 6,y 7,y 8,y 9,.agg #[A0 n,A0 O,A0 U],z 0,z 1,z 2,z 3],defers:=[]}) (λ_=>undef)
   (λw'=>Bk w' p n O U/\(∃a b c,Bk w' w.heap.size a b c)/\A2 A7 w w') (λw1 w2=>Bk w1 w.heap.size n O U->Bk w2 w.heap.size n O U)
   (λj x w'=>match j with
    | 0=>x=.agg #[A0 n,A0 O,A0 U]
    | 1=>x=(A4 p)
    | 2=>x=A0 n
    | 3=>x=.bool (decide ((n:Int)<8))
    | 4=>Bk w' w.heap.size n O U
    | _=>True)
   (by kernel_rfl) (by kernel_rfl) rfl ?_ ?_ ?_ ?_
  ·exact⟨Y.o.I,⟨_,_,_,W.o.I⟩,aH.o.I⟩
  ·intro j x w1 w2 hR aK L;split at L
   case h_5=>exact hR L
   all_goals exact L
  ·clear Y W aH;simp only[Ei,Eh,DV,Fx]
   repeat' (with_reducible apply And.intro)
   all_goals refine⟨?_,(by intro y J _ _ h;exact Bool.noConfusion h),λy x=>rfl⟩
   all_goals
    intro z wz hS V hw K hK;obtain⟨H,⟨a1,a2,a3,d⟩,aI⟩:=hS;simp[Ec,Region.binds,DC,List.filter_cons]at V;have q0:=H.c0;have q1:=H.c1;have q2:=H.c2;have r0:=d.c0;have r1:=d.c1;have r2:=d.c2;have z0:=d.fz 0;have z1:=d.fz 1;have z2:=d.fz 2;have E:=A1 H;have I:=A1 d;have aE:=A1 aI;have Z:=A1 hK
   all_goals dsimp only
   all_goals try go_simp
   all_goals try with_reducible exact Z.o _ _ _ rfl (by simp[Act.put,V]) (λh=>h) ⟨E.o,⟨_,_,_,I.o⟩,aE.o⟩
   have st:=I.o.a8 n O U;have cr:A2 (One w.heap.size) wz (((wz.setCell (A8 w.heap.size 0) (A0 n)).setCell (A8 w.heap.size 1) (A0 O)).setCell (A8 w.heap.size 2) (A0 U)):=(((A2.C (One w.heap.size) wz).ak rfl _ _).ak rfl _ _).ak rfl _ _;refine Z.o undef _ _ st (by simp[Act.put,V]) (λ_=>st) ⟨E.o.Ap cr (λh=>by have h':p=w.heap.size:=h;have:=aL.o;omega),⟨_,_,_,st⟩,aE.o.As cr (λk hk aB=>by have h':k=w.heap.size:=hk;omega)⟩
  ·intro z wz hS L;have h3:z 3=.bool (decide ((n:Int)<8)):=L 3 (by omega);have h4:Bk wz w.heap.size n O U:=L 4 (by omega);have r0:=h4.c0;have r1:=h4.c1;have r2:=h4.c2;have aM:=A1 hS.2.2;have aJ:decide ((n:Int)<8)=decide (n<8):=by
    by_cases h:n<8
    ·rw[Cc h,Cc (by omega)]
    ·rw[Cj h,Cj (by omega)]
   rw[aJ]at h3;go_wp2;refine MV (v:=.tuple #[.agg #[A0 n,A0 O,A0 U],.bool (decide (n<8))]) (by simp[results,Tryz.results176,go_sem,r0,r1,r2]) rfl ?_;exact⟨by rw[aA.o.1,aA.o.2.1,aA.o.2.2],aM.o⟩
def N2(w:World)(s:Nat)(l:List UInt8)(h:s<4294967296)(d:l.length<=9223372036854775807):
 Ac 165 #[.int .u32 s,.string ⟨l.toArray⟩] w (Ak (.int .u32 (Ay s l)) λw'=>w=w'):=
 T1 w s ⟨l.toArray⟩ h d
def AK(w:World)(d:Nat)(T:TypeId)(p:Value)(name:ByteArray)(s:Nat):Prop:=w.heap[d]?=some (.cells #[p,.string name,.int .u32 s] T (0,0))
def AK.c0{w:World}{d:Nat}{T:TypeId}{p:Value}{name:ByteArray}{s:Nat}(h:AK w d T p name s):A5 w d 0 p:=by unfold AK at h;simp[A5,World.cell?,h]
def AK.c1{w:World}{d:Nat}{T:TypeId}{p:Value}{name:ByteArray}{s:Nat}(h:AK w d T p name s):A5 w d 1 (.string name):=by unfold AK at h;simp[A5,World.cell?,h]
def AK.c2{w:World}{d:Nat}{T:TypeId}{p:Value}{name:ByteArray}{s:Nat}(h:AK w d T p name s):A5 w d 2 (.int .u32 s):=by unfold AK at h;simp[A5,World.cell?,h]
def AK.fz{w:World}{d:Nat}{T:TypeId}{p:Value}{name:ByteArray}{s:Nat}(h:AK w d T p name s)(o:Nat):w.frozen? (A8 d o)=false:=by unfold AK at h;simp[World.frozen?,h]
def AK.lt{w:World}{d:Nat}{T:TypeId}{p:Value}{name:ByteArray}{s:Nat}(h:AK w d T p name s):d<w.heap.size:=CD h
def AK.s2{w:World}{d:Nat}{T:TypeId}{p:Value}{name:ByteArray}{s:Nat}(h:AK w d T p name s)(s':Nat):AK (w.setCell (A8 d 2) (.int .u32 s')) d T p name s':=Ca h
def AK.Ap{S:Nat->Prop}{w w':World}{d:Nat}{T:TypeId}{p:Value}{name:ByteArray}{s:Nat}(h:AK w d T p name s)(y:A2 S w w')(z:¬S d):AK w' d T p name s:=y.Ap h z
def L8(w:World)(y:Nat)(T:TypeId)(p:Value)(name:ByteArray)(s:Nat)(l:List UInt8)(h:AK w y T p name s)(I:s<4294967296)(hl:l.length<=9223372036854775803):
 Ac 214 #[A4 y,.string ⟨l.toArray⟩] w (Ak (.string ⟨(l++Bm (Ay s l)).toArray⟩) λw'=>AK w' y T p name (Ay s l)/\A2 (One y) w w'):=by
 have c2:=h.c2;have fz:=h.fz 2;have H:=h.s2 (Ay s l);have z:=Gn s l I;obtain⟨s1,d⟩:∃s1,Ay s l=s1:=⟨_,rfl⟩;have O:=A1 d;rw[d]at H z ⊢;have c3:=H.c2;have L:A2 (One y) w (w.sC y 2 (.int .u32 s1)):=(A2.C _ w).ak (show One y y from rfl) 2 _;have ap:=GP l (Bm s1);have hsb:=EY s1;have V:=A1 H;have U:=A1 L;have E:l.length<=9223372036854775807:=by omega
 go_enter func214,ntmps214
 go_wp2_with (first|(go_at_call 165;refine(N2 _ _ _ I E).mono ?_;rintro e w'⟨rfl,rfl⟩;rw[O.o])|(go_at_call 250;refine(Ow _ _ z).mono ?_;rintro e w'⟨rfl,J⟩));go_ret;exact⟨rfl,V.o.Ap J (by simp),U.o.As J (by simp)⟩
def J0(w:World)(J:Nat)(T:TypeId)(p:Value)(name:ByteArray)(s:Nat)(l t:List UInt8)(h:AK w J T p name s)(hs:s<4294967296)(Z:t.length=4)(hl:l.length<=9223372036854775803):
 Ac 167 #[A4 J,.string ⟨(l++t).toArray⟩] w (Ak (.tuple #[.string ⟨l.toArray⟩,.bool (decide (Bm (Ay s l)=t))]) λw'=>AK w' J T p name (Ay s l)/\A2 (One J) w w'):=by
 have d:(l++Bm (Ay s l)==l++t)=decide (Bm (Ay s l)=t):=by
  by_cases z:Bm (Ay s l)=t
  ·rw[Cc z,z];exact MX _
  ·rw[Cj z];exact GO.2 λh=>z (List.append_cancel_left h)
 generalize hbb:decide (Bm (Ay s l)=t)=bb at d ⊢;have L:=A1 d;have hlt0:((ByteArray.mk (l++t).toArray).size:Int)=(l.length:Int)+4:=by show (((l++t).length:Nat):Int)=_;simp[Z]
 have hn4:¬((l.length:Int)+4<4):=by omega
 go_enter func167,ntmps167
 go_wp2;refine EW 11 (λy=>{tmps:=#[A4 J,.string ⟨(l++t).toArray⟩,undef,undef,.string ⟨#[]⟩,.bool false,y 10,undef,.string ⟨(l++t).toArray⟩,A0 ((l.length:Int)+4),.bool false,y 0,y 1,y 2,y 3,y 4,y 5,y 6,y 7,y 8,y 9,undef,undef,undef,undef,undef,undef,undef,undef],defers:=[]}) (λ_=>undef)
  (λw'=>AK w' J T p name s/\A2 A7 w w') (A2 A7)
  (λj x w'=>match j with
   | 0=>x=.string ⟨(l++t).toArray⟩
   | 1=>x=.string ⟨(l++t).toArray⟩
   | 2=>x=A0 ((l.length:Int)+4)
   | 3=>x=A0 l.length
   | 4=>x=.string ⟨l.toArray⟩
   | 5=>x=.string ⟨(l++t).toArray⟩
   | 6=>x=.string ⟨(l++t).toArray⟩
   | 7=>x=A0 ((l.length:Int)+4)
   | 8=>x=A0 l.length
   | 9=>x=.string ⟨t.toArray⟩
   | 10=>x=.string ⟨l.toArray⟩
   | _=>True)
  (by kernel_rfl) (by kernel_rfl) rfl ?_ ?_ ?_ ?_
 ·exact⟨h,(A2.C _ _).I⟩
 ·intro j x w1 w2 hR hS' O;split at O<;>exact O
 ·simp only[Ei,Eh,DV,Fx]
  repeat' (with_reducible apply And.intro)
  all_goals refine⟨?_,(by intro y V _ _ h;exact Bool.noConfusion h),λy x=>rfl⟩
  all_goals
   intro y V W Y hw K hK;obtain⟨H,I⟩:=W;simp[Ec,Region.binds,DC,List.filter_cons]at Y;have e1:(ByteArray.mk (l++t).toArray).extract 0 l.length=⟨l.toArray⟩:=by
    rw[extract_mk];simp
   have e9:(ByteArray.mk (l++t).toArray).extract l.length (l.length+4)=⟨t.toArray⟩:=by
    rw[extract_mk,NF,show l.length+4-l.length=t.length by omega,CP]
   (have g1:(l.length:Int)<=(l.length:Int)+4:=by omega);(have ew:IntKind.i64.wrap (l.length:Int)=l.length:=by simp[IntKind.wrap,IntKind.bits,IntKind.signed];omega);have U:=A1 H;have E:=A1 I;have aD:=A1 hK
  all_goals dsimp only
  all_goals try go_simp
  all_goals try with_reducible exact aD.o _ _ _ rfl (by simp[Act.put,Y]) (A2.C _ _) ⟨U.o,E.o⟩
 ·intro y V W O;obtain⟨H,I⟩:=W;have h10:y 10=.string ⟨l.toArray⟩:=O 10 (by omega);have h9:y 9=.string ⟨t.toArray⟩:=O 9 (by omega);have hk:=H;have E:=A1 I;have ap:=GP l t;have hq:=L.o;have aE:=A1 (L8 V J T p name s l hk hs hl);have hlt:(ByteArray.mk (l++t).toArray).size=l.length+4:=by show (l++t).length=_;simp[Z]
  go_wp2_with (go_at_call 214;refine aE.m ?_;rintro e w'⟨rfl,hb,hc⟩;have aA:=A1 hb;have aB:=A1 hc);go_ret2;exact⟨rfl,aA.o,E.o.U (λ_ _ h=>h.elim) |>.tr aB.o⟩
def Ob(w:World)(y:Nat)(l:List UInt8)(hl:l.length<4):
 Ac 167 #[A4 y,.string ⟨l.toArray⟩] w (Ak (.tuple #[.string ⟨#[]⟩,.bool false]) λw'=>w=w'):=by
 have h:(ByteArray.mk l.toArray).size=l.length:=by show l.toArray.size=_;simp
 have d:((ByteArray.mk l.toArray).size:Int)<4:=by rw[h];omega
 generalize htx:ByteArray.mk l.toArray=tx at d ⊢
 go_enter func167,ntmps167
 go_wp2;go_ret2;exact⟨rfl,rfl⟩
end
section
open Go.RowKit
attribute [local go_sem ↓] Go.wp_at_zero Go.wp_at_succ
def DI(D:DS):Int×DS:=
 ((bg D.n).2.1,if (bg D.n).2.1=0 then {D with BT:=D.A3,AI:=[],n:=(bg D.n).2.2} else {D with n:=(bg D.n).2.2})
def Bt.aM{w w':World}{b:Nat}{D:DS}{F:Nat->FC}{H vs vc:Value}{E:List Value}{W:Nat->Value}(h:Bt w b D F H vs vc E W)(Z:Au w' b H H (.slice none 0 0) D.n)(hc:A2 (One b) w w'):Bt w' b {D with BT:=D.A3,AI:=[]} F H H (.slice none 0 0) [] W:=by
 have z:∀(k:Nat) (c:Array Value) (e:Nat),w.heap[k]?=some (Obj.cells c e (0,0))->e≠95->w'.heap[k]?=w.heap[k]?:=λk c e z he=>
  hc.Ao k (CD z) (Cb z h.Ae he)
 have U:=Aq h.A3 λg I=>by obtain⟨c,O⟩:=BA h.A3 I;exact z g _ _ O (by decide)
 have d:∀f,({D with BT:=D.A3,AI:=[]}:DS).AM f->D.AM f:=by
  rintro f (y|y|⟨c,hcm,y⟩)
  ·exact .inl y
  ·exact .inl y
  ·cases hcm
 refine⟨Z,U,U,BW _ _ _ _,λi hi=>by simp at hi,λf y=>?_,λf Y g y L=>h.Fv f Y g (d f y) (d Y L)⟩;obtain⟨J,V⟩:=h.BN f (d f y);refine⟨?_,Aq V λg I=>by obtain⟨c,O⟩:=BA V I;exact z g _ _ O (by decide)⟩;unfold Ct at J ⊢;rw[z f _ _ J (by decide)];exact J
def Ol(w:World)(b:Nat)(D:DS)(F:Nat->FC)(Ft:Nat->Prop)(h:Du w b D F Ft):
 Ac 86 #[A4 b] w (Ak (A0 (DI D).1) λw'=>Cz w Ft w' b (DI D).2 F):=by
 obtain⟨vd,vs,vc,vals,VB,V,d⟩:=h;obtain⟨ad,cap,rfl,_⟩:=V.A3.BU;have Y:=A1 V;have O:=A1 V.Ae;by_cases z:(bg D.n).2.1=0
 ·have q:Hid (DI D=(0,{D with BT:=D.A3,AI:=[],n:=(bg D.n).2.2})):=by unfold Hid DI;rw[Am z,z]
  have J:((bg D.n).2.1==0)=true:=by simpa using z
  have L:=A1 <| z;clear z
  go_enter func86,ntmps86
  go_wp2_with (go_at_call 121;refine(EB _ _ _ _ _ _ O.o).mono ?_;rintro e W⟨rfl,y,H⟩;have c01:=y.c0;have c11:=y.c1;have c21:=y.c2;have hf1:=y.fz);go_ret;refine⟨by rw[q.o];simp[L.o],?_⟩;rw[q.o];have Z:=Y.o.ag y H;have r2:=Z.aM ((y.s1 _).s2 (.slice none 0 0)) (((A2.C (One b) W).ak rfl 1 _).ak rfl 2 (.slice none 0 0));refine Cz.a7 ?_ r2 ?_
  ·exact(((H.U (S':=Ft) λk _ U=>by cases U;exact d b .Ae)).ak (d b .Ae) 1 _).ak (d b .Ae) 2 _
  ·intro k U;left;cases U using BP.bt with
   | Ae=>exact d _ .Ae
   | dir e=>exact d _ (.A3 e)
   | CZ e=>exact d _ (.A3 e)
   | Aj e=>simp[Value.ownBlock]at e
   | D2 hm e=>cases hm
   | BN E=>
    rcases E with E|E|⟨c,I,_⟩
    ·exact d _ (.BN (.inl E))
    ·exact d _ (.BN (.inl E))
    ·cases I
   | byt E e=>
    rcases E with E|E|⟨c,I,_⟩
    ·exact d _ (.bk (.inl E) e)
    ·exact d _ (.bk (.inl E) e)
    ·cases I
 ·have q:Hid (DI D=((bg D.n).2.1,{D with n:=(bg D.n).2.2})):=by unfold Hid DI;rw[Ad z]
  have J:((bg D.n).2.1==0)=false:=by simpa using z
  go_enter func86,ntmps86
  go_wp2_with (go_at_call 121;refine(EB _ _ _ _ _ _ O.o).mono ?_;rintro e W⟨rfl,y,H⟩);go_ret;refine⟨by rw[q.o];rfl,?_⟩;rw[q.o];exact Y.o.bu d y H
def AT(F:Nat->FC):List AL->Nat
 | []=>0
 | e::r=>(F e.2).1.length+AT F r
def HD(F:Nat->FC)(a c:List AL):AT F (a++c)=AT F a+AT F c:=by
 induction a with
 | nil=>simp[AT]
 | cons e r ih=>simp[AT,ih];omega
def KK(F:Nat->FC)(es:List AL)(k:Nat)(d:k<es.length):AT F (es.take (k+1))=AT F (es.take k)+(F (es[k]'d).2).1.length:=by
 rw[D9 d,HD];simp[AT]
def O9(F:Nat->FC)(es:List AL)(k:Nat):AT F (es.take k)<=AT F es:=by
 conv=>rhs;rw[<-EG k es]
 rw[HD];omega
def H5(w:World)(b:Nat)(D:DS)(F:Nat->FC)(Ft:Nat->Prop)(h:Du w b D F Ft)(hu:AT F D.A3<=4611686018427387904):
 Ac 90 #[A4 b] w (Ak (A0 (AT F D.A3)) λw'=>A2 A7 w w'):=by
 obtain⟨vd,vs,vc,vals,VB,V,hft⟩:=h;have c0:=V.Ae.c0;obtain⟨a,cap,rfl,hc1,W,E⟩:=V.A3.BU;unfold maxLen at W;have aA:=A1 V
 go_enter func90,ntmps90
 go_wp2;go_loopw [3,11] (λt i wr=>∃k:Nat,k<=D.A3.length/\i=A0 k/\t=A0 (AT F (D.A3.take k))/\A2 A7 w wr) (λ_ i _=>D.A3.length-(intOf i).toNat)
 case atStart=>exact⟨0,CL _,rfl,by simp[AT],A2.C _ _⟩
 case round=>
  obtain⟨k,hk,rfl,rfl,y⟩:=hrel;by_cases d:k<D.A3.length
  ·obtain⟨g,rfl,Z,hp⟩:=E k d;obtain⟨z,O⟩:=aA.o.bB k d;obtain⟨a',H,hv,_,_⟩:=O.BU;rw[hv]at z;have L:g<w.heap.size:=Gb w _ Z;have U:=CD z;have hn':A5 wr g (k*2) (.string (D.A3[k]'d).1):=(GQ (y.Ao g L (λh=>h))).trans Z;have hp':A5 wr g (k*2+1) (A4 ((D.A3[k]'d).2)):=(GQ (y.Ao g L (λh=>h))).trans hp;have hb0:A5 wr ((D.A3[k]'d).2) 0 (.slice a' (F (D.A3[k]'d).2).1.length H):=(GQ (y.Ao _ U (λh=>h))).trans z.c0;have hsz:=y.Af;(have hflr:(D.A3[k]'d).2<wr.heap.size:=by omega);have ht:=A1 (KK F D.A3 k d);have Y:=O9 F D.A3 (k+1);rw[KK F D.A3 k d]at Y;go_wp2;go_roundw
   case rel=>exact⟨k+1,by omega,by go_num,by rw[ht.o];go_num,y.ae _⟩
   case measure=>simp[intOf];omega
  ·have J:D.A3.take k=D.A3:=EF (by omega);have I:=A1 J;go_wp2;go_ret;exact⟨by rw[I.o];rfl,y⟩
def Dz(D:DS)(F:Nat->FC)(name:ByteArray)(at_ n:Int):List UInt8×Int:=match lookup D.A3 name with
 | some f=>if at_<0\/n<0\/at_>(F f).1.length\/n>(F f).1.length-at_ then ([],9) else (((F f).1.drop at_.toNat).take n.toNat,0)
 | none=>([],8)
def Pq(w:World)(b:Nat)(D:DS)(F:Nat->FC)(Ft:Nat->Prop)(h:Du w b D F Ft)(name:ByteArray)(p n:Int):
 Ac 82 #[A4 b,.string name,A0 p,A0 n] w (Ak (.tuple #[.string ⟨(Dz D F name p n).1.toArray⟩,A0 (Dz D F name p n).2]) λw'=>w=w'):=by
 obtain⟨vd,vs,vc,vals,VB,hr,hft⟩:=h;have c0:=hr.Ae.c0;have Z:=A1 hr.A3;obtain⟨a,cap,rfl,hc1,aH,J⟩:=hr.A3.BU;unfold maxLen at aH;rcases GC D.A3 name with⟨h1,h2⟩|⟨k,hk,h1,h2,h3⟩
 ·have q:Hid (Dz D F name p n=([],8)):=by unfold Hid Dz;rw[h2]
  have hfi:AN D.A3 name<0:=by omega
  go_enter func82,ntmps82
  go_wp2_with (go_at_call 77;refine(CE _ _ _ _ Z.o).mono ?_;rintro e w'⟨rfl,rfl⟩);go_ret2;rw[q.o];exact⟨rfl,rfl⟩
 ·obtain⟨V,y⟩:=hr.bB k hk;obtain⟨a',z,hv,aE,aJ⟩:=y.BU;unfold maxLen at aJ;rw[hv]at V y;have aF:=V.c0;have L:=A1 y;obtain⟨g,rfl,hn,hp⟩:=J k hk;have aB:=A1 h1;have aK:=A1 h2;obtain⟨bs,y⟩:∃bs,(F (D.A3[k]'hk).2).1=bs:=⟨_,rfl⟩;have aL:=A1 y;rw[y]at aF aE L;have hlen:(bs.length:Int)<=9223372036854775807:=by omega
  have q:Hid (Dz D F name p n=if p<0\/n<0\/p>bs.length\/n>bs.length-p then ([],9) else ((bs.drop p.toNat).take n.toNat,0)):=by
   unfold Hid Dz;rw[aK.o];dsimp only;rw[aL.o]
  by_cases aD:0<=p/\0<=n/\p<=bs.length/\n<=bs.length-p
  ·obtain⟨o1,o2,o3,o4⟩:=aD;obtain⟨d,rfl⟩:=IQ o1;obtain⟨E,rfl⟩:=IQ o2;have Y:Hid (Dz D F name d E=((bs.drop d).take E,0)):=by
    unfold Hid;rw[q.o,Ad (by omega)];simp
   (have o5:d<=bs.length:=by omega);(have o6:E<=bs.length-d:=by omega);obtain⟨_,_,he,_,_,_,O,H⟩:=AR L.o;cases he;by_cases aA:z=d
   ·(have aI:E=0:=by omega);subst aI;have cv:∀(x:Option Addr) (c:Nat),(convert 127 9 (.slice x 0 c)).run Tryz.prog w=.ok (.string ⟨#[]⟩) w:=by
     intro x c;cases x with
     | none=>
      rw[run_convert_bytes_string (P:=Tryz.prog) w 127 9 5 none 0 c underlying127 underlying5 underlying9];rfl
     | some ad=>exact Ja (P:=Tryz.prog) w 127 9 5 ad c [] underlying127 underlying5 underlying9 (by simp)
    subst aA
    go_enter func82,ntmps82
    go_wp2_with (go_at_call 77;refine(CE _ _ _ _ Z.o).mono ?_;rintro e w'⟨rfl,rfl⟩;rw[aB.o]);go_ret2;rw[Y.o];exact⟨by simp,rfl⟩
   ·obtain⟨I,aG⟩:∃I,a'=some (A8 I 0):=by
     cases ha:a' with
     | none=>have:=(O ha).2;omega
     | some ad=>obtain⟨g',rfl⟩:=H ad ha;exact⟨g',rfl⟩
    subst aG;have cv:(convert 127 9 (.slice (some (A8 I d)) E (z-d))).run Tryz.prog w=.ok (.string ⟨((bs.drop d).take E).toArray⟩) w:=by
     (have hl:((bs.drop d).take E).length=E:=by simp;omega)
     have:=Ja (P:=Tryz.prog) w 127 9 5 (A8 I d) (z-d) ((bs.drop d).take E) underlying127 underlying5 underlying9 (by
      intro j hj;(have W:d+j<bs.length:=by simp at hj;omega);(have U:((A8 I d):Addr).add j=(A8 I (d+j)):=by unfold Addr.add;split<;>simp_all);rw[U];have:=Be L.o (g:=I) rfl (j:=d+j) (u:=.int .u8 (bs[d+j]'W).toNat) (by simp[Df,List.getElem?_eq_getElem W])
      simpa using this)
     rw[hl]at this;exact this
    go_enter func82,ntmps82
    go_wp2_with (go_at_call 77;refine(CE _ _ _ _ Z.o).mono ?_;rintro e w'⟨rfl,rfl⟩;rw[aB.o]);go_ret2;rw[Y.o];exact⟨rfl,rfl⟩
  ·have Y:Hid (Dz D F name p n=([],9)):=by
    unfold Hid;rw[q.o,Am (by omega)]
   go_enter func82,ntmps82
   go_wp2_with (go_at_call 77;refine(CE _ _ _ _ Z.o).mono ?_;rintro e w'⟨rfl,rfl⟩;rw[aB.o])
   all_goals (go_ret2;rw[Y.o];exact⟨rfl,rfl⟩)
def Bt.bD{w w':World}{b:Nat}{D:DS}{F:Nat->FC}{vd vs vc:Value}{I:List Value}{U:Nat->Value}{S:Nat->Prop}(h:Bt w b D F vd vs vc I U){f:Nat}(hf:D.AM f){vb':Value}{bs':List UInt8}{s':Int}(h1:Ct w' f vb' s')(h2:Fh w' vb' bs')(hc:A2 S w w')(hS:∀k,S k->k=f\/(U f).ownBlock=some k)(hv:∀g,vb'.ownBlock=some g->(U f).ownBlock=some g\/w.heap.size<=g):
 Bt w' b D (upd F f (bs',s')) vd vs vc I (λx=>if x=f then vb' else U x):=by
 obtain⟨W,V⟩:=h.BN f hf;have E:∀(k:Nat) (c:Array Value) (e:Nat),w.heap[k]?=some (Obj.cells c e (0,0))->e≠129->e≠5->w'.heap[k]?=w.heap[k]?:=λk c e E O aB=>
  hc.Ao k (CD E) (λd=>by
   rcases hS k d with d|d
   ·exact Cb E W O d
   ·obtain⟨c',y⟩:=BA V d
    exact Cb E y aB rfl)
 refine⟨?_,?_,?_,?_,?_,?_,?_⟩
 ·have:=h.Ae;unfold Au at this ⊢;rw[E b _ _ this (by decide) (by decide)];exact this
 ·exact Aq h.A3 λg z=>by obtain⟨c,y⟩:=BA h.A3 z;exact E g _ _ y (by decide) (by decide)
 ·exact Aq h.BT λg z=>by obtain⟨c,y⟩:=BA h.BT z;exact E g _ _ y (by decide) (by decide)
 ·exact Aq h.Aj λg z=>by obtain⟨c,y⟩:=BA h.Aj z;exact E g _ _ y (by decide) (by decide)
 ·intro i hi;obtain⟨v,h1,h2⟩:=h.D2 i hi;exact⟨v,h1,Aq h2 λg z=>by obtain⟨c,y⟩:=BA h2 z;exact E g _ _ y (by decide) (by decide)⟩
 ·intro f2 H;by_cases O:f2=f
  ·subst O;simp only[upd,BM];exact⟨h1,h2⟩
  ·obtain⟨g1,g2⟩:=h.BN f2 H;simp only[upd,O,BG];refine⟨g1.au (hc.Ao f2 (CD g1) (λd=>?_)),Aq g2 λg z=>hc.Ao g (Av g2 z) (λd=>?_)⟩
   ·rcases hS _ d with d|d
    ·exact O d
    ·obtain⟨c',y⟩:=BA V d;exact Cb g1 y (by decide) rfl
   ·rcases hS _ d with d|d
    ·obtain⟨c',y⟩:=BA g2 z;exact Cb y W (by decide) d
    ·exact O (h.Fv f2 f g H hf z d)
 ·have key:∀f2 g,D.AM f2->f2≠f->(U f2).ownBlock=some g->vb'.ownBlock=some g->False:=by
   intro f2 g h3 aA h4 h5;rcases hv g h5 with h6|h6
   ·exact aA (h.Fv f2 f g h3 hf h4 h6)
   ·have:=Av (h.BN f2 h3).2 h4;omega
  intro f1 f2 g k1 k2 L J;by_cases Y:f1=f<;>by_cases Z:f2=f
  ·rw[Y,Z]
  ·simp only[Y,BM]at L;simp only[Z,BG]at J;exact(key f2 g k2 Z J L).elim
  ·simp only[Z,BM]at J;simp only[Y,BG]at L;exact(key f1 g k1 Y L J).elim
  ·simp only[Y,BG]at L;simp only[Z,BG]at J;exact h.Fv f1 f2 g k1 k2 L J
def BP.bD{b:Nat}{D:DS}{I E z:Value}{d:List Value}{y:Nat->Value}{f:Nat}{vb':Value}{N:Nat}(J:D.AM f)(L:∀g,vb'.ownBlock=some g->(y f).ownBlock=some g\/N<=g){k:Nat}(h:BP b D I E z d (λx=>if x=f then vb' else y x) k):BP b D I E z d y k\/N<=k:=by
 cases h using BP.bt with
 | Ae=>exact .inl .Ae
 | dir e=>exact .inl (.A3 e)
 | CZ e=>exact .inl (.BT e)
 | Aj e=>exact .inl (.Aj e)
 | D2 h e=>exact .inl (.D2 h e)
 | BN h=>exact .inl (.BN h)
 | byt h e=>
  rename_i f2;by_cases H:f2=f
  ·simp only[H,BM]at e;rcases L k e with h|h
   ·exact .inl (.bk J h)
   ·exact .inr h
  ·simp only[H,BG]at e;exact .inl (.bk h e)
def Bt.BJ{w:World}{b:Nat}{D:DS}{F:Nat->FC}{H J W:Value}{y:List Value}{E:Nat->Value}(h:Bt w b D F H J W y E)(k:Nat)(z:k<D.A3.length):
 ∃g cap a' d,H=.slice (some ⟨g,0,none⟩) D.A3.length cap/\E (D.A3[k]'z).2=.slice a' (F (D.A3[k]'z).2).1.length d/\D.A3.length<=cap/\cap<=maxLen/\(F (D.A3[k]'z).2).1.length<=d/\d<=maxLen:=by
 obtain⟨a,cap,Y,O,I,Z⟩:=h.A3.BU;obtain⟨g,rfl,_,_⟩:=Z k z;obtain⟨a',d,V,L,U⟩:=(h.bB k z).2.BU;exact⟨g,cap,a',d,Y,V,O,I,L,U⟩
structure Ks (w:World) (b:Nat) (g k f n cap l cap':Nat) (a':Option Addr) (name:ByteArray) (CZ:Int):Prop where
 d:A5 w b 0 (AH g n cap)
 n:A5 w g (k*2) (.string name)
 p:A5 w g (k*2+1) (A4 f)
 f0:A5 w f 0 (.slice a' l cap')
 f1:A5 w f 1 (A0 CZ)
 fz:∀o,w.frozen? (A8 f o)=false
 gf:¬g=f
 fg:¬f=g
 gb:¬g=b
 bg:¬b=g
 fb:¬f=b
 bf:¬b=f
def Bt.cF{w:World}{b:Nat}{D:DS}{F:Nat->FC}{J O V:Value}{E:List Value}{I:Nat->Value}(h:Bt w b D F J O V E I)(k:Nat)(d:k<D.A3.length){g cap y:Nat}{a':Option Addr}(U:J=AH g D.A3.length cap)(L:I (D.A3[k]'d).2=.slice a' (F (D.A3[k]'d).2).1.length y):
 Ks w b g k (D.A3[k]'d).2 D.A3.length cap (F (D.A3[k]'d).2).1.length y a' (D.A3[k]'d).1 (F (D.A3[k]'d).2).2:=by
 subst U;obtain⟨z,hb⟩:=h.bB k d;rw[L]at z;obtain⟨c,H⟩:=BA h.A3 (g:=g) rfl
 exact⟨h.Ae.c0,Be h.A3 rfl (JP _ k d),Be h.A3 rfl (JN _ k d),z.c0,z.c1,z.fz,λe=>Cb H z (by decide) e,λe=>Cb H z (by decide) e.symm,
  λe=>Cb H h.Ae (by decide) e,λe=>Cb H h.Ae (by decide) e.symm,λe=>Cb z h.Ae (by decide) e,λe=>Cb z h.Ae (by decide) e.symm⟩
def CJ(D:DS)(F:Nat->FC)(name:ByteArray):Int×DS×(Nat->FC):=match lookup D.A3 name with
 | none=>(8,D,F)
 | some f=>((bg D.n).2.1,{D with n:=(bg D.n).2.2},if (bg D.n).2.1=0 then upd F f ((F f).1,(F f).1.length) else F)
def Oi(w:World)(b:Nat)(D:DS)(F:Nat->FC)(Ft:Nat->Prop)(h:Du w b D F Ft)(name:ByteArray):
 Ac 85 #[A4 b,.string name] w (Ak (A0 (CJ D F name).1) λw'=>Cz w Ft w' b (CJ D F name).2.1 (CJ D F name).2.2):=by
 obtain⟨vd,vs,vc,vals,aF,hr,O⟩:=h;have c0:=hr.Ae.c0;have hd:=A1 hr.A3;have Z:=A1 hr.Ae;have aD:=A1 hr;rcases GC D.A3 name with⟨h1,h2⟩|⟨k,y,h1,h2,h3⟩
 ·have q:Hid (CJ D F name=(8,D,F)):=by unfold Hid CJ;rw[h2]
  have hfi:AN D.A3 name<0:=by omega
  go_enter func85,ntmps85
  go_wp2_with (go_at_call 77;refine(CE _ _ _ _ hd.o).mono ?_;rintro e w'⟨rfl,rfl⟩);go_ret;rw[q.o];exact⟨rfl,Cz.a7 (A2.C _ _) aD.o λk y=>.inl (O k y)⟩
 ·have q:Hid (CJ D F name=((bg D.n).2.1,{D with n:=(bg D.n).2.2},if (bg D.n).2.1=0 then upd F (D.A3[k]'y).2 ((F (D.A3[k]'y).2).1,(F (D.A3[k]'y).2).1.length) else F)):=by unfold Hid CJ;rw[h2]
  have aG:=A1 h1;by_cases I:(bg D.n).2.1=0
  ·(have Y:((bg D.n).2.1==0)=true:=by simpa using I);have J:=A1 <| I;clear I;have hk0:=C3 k;(have hk1:(k:Int)<(D.A3.length:Int):=by omega);obtain⟨g,cap,a',V,rfl,hv,z1,z2,z3,z4⟩:=aD.o.BJ k y;have aE:=A1 hv;unfold maxLen at z2 z4;clear hv;obtain⟨f,hf⟩:∃f,(D.A3[k]'y).2=f:=⟨_,rfl⟩;have H:Hid (D.AM f):=.inl ⟨_,Cx y,hf⟩
   have fin:Hid (∀U,Au U b (AH g D.A3.length cap) vs vc (bg D.n).2.2->A2 (One b) w U->Ks U b g k f D.A3.length cap (F f).1.length V a' (D.A3[k]'y).1 (F f).2/\
    Cz w Ft (U.sC f 1 (A0 (F f).1.length)).drew b {D with n:=(bg D.n).2.2} (upd F f ((F f).1,(F f).1.length))):=by
    intro U L E;have r1:=aD.o.ag L E;subst hf;refine⟨r1.cF k y rfl aE.o,?_⟩;obtain⟨aB,aA⟩:=r1.bB k y;have r2:=r1.bD (S:=One (D.A3[k]'y).2) (w':=(U.sC ((D.A3[k]'y).2) 1 (A0 (F (D.A3[k]'y).2).1.length)).drew) (f:=(D.A3[k]'y).2) H.o (vb':=aF (D.A3[k]'y).2) (bs':=(F (D.A3[k]'y).2).1) (s':=(F (D.A3[k]'y).2).1.length)
     (aB.s1 _) (by
      refine Jo aA (a:=(A8 ((D.A3[k]'y).2) 1)) ?_ _;intro e;obtain⟨c,hh⟩:=BA aA e
      exact Cb hh aB (by decide) rfl) (((A2.C (One _) U).ak rfl 1 _).I) (λk y=>.inl y) (λg hg=>.inl hg)
    refine Cz.a7 ?_ r2 ?_
    ·exact((E.U (S':=Ft) λk _ y=>by cases y;exact O b .Ae).ak (O _ (.BN H.o)) 1 _).I
    ·intro x hx;rcases BP.bD (N:=w.heap.size) (vb':=aF (D.A3[k]'y).2) (f:=(D.A3[k]'y).2) H.o (λg hg=>.inl hg) hx.n with h|h
     ·exact .inl (O x h)
     ·exact .inr h
   rw[hf]at q;clear hf aE
   go_enter func85,ntmps85
   go_wp2_with (first
    | (go_at_call 77;refine(CE _ _ _ _ hd.o).mono ?_;rintro e w'⟨rfl,rfl⟩;rw[aG.o])
    | (go_at_call 121;refine(EB _ _ _ _ _ _ Z.o).mono ?_;rintro e U⟨rfl,L,E⟩))
   obtain⟨z,W⟩:=fin.o U L E;have aH:=A1 W;have x1:=z.d;have x2:=z.p;have x3:=z.f0;have x4:=z.f1;have x5:=z.fz;have x7:=z.fg;clear W z;go_region_held3 (λw'=>w'.cell? ⟨b,0,none⟩=some (.slice (some ⟨g,0,none⟩) D.A3.length cap)/\w'.cell? ⟨g,k*2+1,none⟩=some (.pointer (some ⟨f,0,none⟩))/\w'.cell? ⟨f,0,none⟩=some (.slice a' (F f).1.length V)) (refine⟨?_,?_,?_⟩<;>go_simp) (fail);go_wp2;go_ret;rw[q.o,Am J.o];exact⟨rfl,aH.o⟩
  ·(have Y:((bg D.n).2.1==0)=false:=by simpa using I);have J:=A1 <| I
   go_enter func85,ntmps85
   go_wp2_with (first
    | (go_at_call 77;refine(CE _ _ _ _ hd.o).mono ?_;rintro e w'⟨rfl,rfl⟩;rw[aG.o])
    | (go_at_call 121;refine(EB _ _ _ _ _ _ Z.o).mono ?_;rintro e U⟨rfl,L,E⟩))
   go_ret;rw[q.o,Ad J.o];exact⟨rfl,aD.o.bu O L E⟩
end
end Go.Proofs.YtodcnkbblippnaaGreatDoor
