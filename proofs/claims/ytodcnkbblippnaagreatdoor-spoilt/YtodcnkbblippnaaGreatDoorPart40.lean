/- Part 40 of a proof: walks of the program. -/
import Derived.Lib.SlBytesRow
import Derived.Test.YtodcnkbblippnaaGreatDoorPart34
import Derived.Test.YtodcnkbblippnaaGreatDoorPart39
namespace Go.Proofs.YtodcnkbblippnaaGreatDoor
set_option maxRecDepth 100000
set_option maxHeartbeats 32000000
set_option linter.defProp false
open Go.Proofs.Tryz
section
open Go.RowKit
def Ej(w:ga)(g:Nat)(l:Bs):Prop:=∃d:Array gd,w.heap[g]?=some (.cells d 5 (d.size,d.size+1))/\l.length<=d.size/\∀i (h:i<l.length),d[i]?=some (.int .u8 ((l[i]'h).toNat:Int))
section
variable{w w':ga}{g:Nat}{l x:Bs}
def Ej.of{c:Nat}(h:w.heap[g]?=some (.cells (bytesRow ⟨x.toArray⟩ c) 5 ((bytesRow ⟨x.toArray⟩ c).size,(bytesRow ⟨x.toArray⟩ c).size+1))):Ej w g x:=by
 refine⟨_,h,?_,λi d=>?_⟩
 ·unfold bytesRow;simp only[Array.size_append,Array.size_map,Array.size_replicate];have:x.toArray.size=x.length:=by simp
  omega
 ·have:=bytesRow_at ⟨x.toArray⟩ c i (by simpa using d);rw[this];simp
def Ej.DK(h:Ej w g l){i:Nat}(d:i<l.length):A7 w g i (.int .u8 ((l[i]'d).toNat:Int)):=by
 obtain⟨cs,z,-,E⟩:=h;simp only[A7,World.cell?,z];exact E i d
def Ej.fz(h:Ej w g l){i:Nat}(hi:i<l.length):w.frozen? (Ac g i)=false:=by
 obtain⟨cs,d,h2,-⟩:=h;simp only[World.frozen?,d];simp;omega
def Ej.bl(h:Ej w g l){i:Nat}(v:UInt8):Ej (w.setCell (Ac g i) (.int .u8 (v.toNat:Int))) g (l.set i v):=by
 obtain⟨E,H,z,I⟩:=h;refine⟨E.setIfInBounds i (.int .u8 (v.toNat:Int)),?_,?_,λj d=>?_⟩
 ·rw[Array.size_setIfInBounds];simp[World.setCell,Array.getElem?_modify,H]
 ·rw[Array.size_setIfInBounds,HU];exact z
 ·rw[HU]at d;rw[Array.getElem?_setIfInBounds];by_cases e:i=j
  ·subst e;rw[Ae rfl,Ae (by omega)];simp
  ·rw[Aa e,I j d];simp[e]
def Ej.fi(h:Ej w g l):Lib.Bytes w g 0 ⟨l.toArray⟩:=λi z=>by
 have d:i<l.length:=z;rw[GF,h.DK d];rfl
def Ej.Al{S:Nat->Prop}(h:Ej w g l)(H:A3 S w w')(I:¬S g):Ej w' g l:=by
 obtain⟨z,E,d⟩:=h;exact⟨z,H.an E I,d⟩
def Ej.e3(h:Ej w g l){n:Nat}(d:l.length=n)(cap:Nat):(convert 127 9 (AH g n cap)).run Tryz.prog w=.ok (.string ⟨l.toArray⟩) w:=by
 have e:n=(ByteArray.mk l.toArray).size:=by rw[<-d];rfl
 rw[e];exact Lib.run_convert_whole (P:=Tryz.prog) w 127 5 9 GA KA FR g 0 ⟨l.toArray⟩ h.fi cap
end
def A22{P:PD}{i a k:Nat}{z:Int}{nm:Bs}(I:P.Ai.Pairwise (· < ·))(E:k<P.Ai.length)(d:P.Ai[k]'E=nm)(O:k≠i):GS P i a z nm=P.bs nm:=by
 unfold GS;rw[Aa];intro h;obtain⟨L,e⟩:=Ht.1 h;rcases Nat.lt_or_gt_of_ne O with H|H
 ·have:=Ij.1 I k i E L H;rw[e,d]at this;exact Hs _ this
 ·have:=Ij.1 I i k L E H;rw[e,d]at this;exact Hs _ this
def A21{P:PD}{a k:Nat}{d:Int}{nm x:Bs}(z:k<P.Ai.length)(h:P.Ai[k]'z=nm)(E:P.bs nm=some x):GS P k a d nm=some (Dc x a d 32):=by
 unfold GS;rw[Ae (by rw[DL z,h]),E];rfl
section
variable{w:ga}{g:Nat}{x:Bs}
def A3k(n:Int):bits .and .i64 n 1=n % 2:=by
 have d:(BitVec.ofInt 64 1).toNat=2 ^ 1-1:=by decide
 have key:(BitVec.ofInt 64 n &&& BitVec.ofInt 64 1).toNat=(n % ((2 ^ 64:Nat):Int)).toNat % 2 ^ 1:=by
  rw[BitVec.toNat_and,BitVec.toNat_ofInt,d,Nat.and_two_pow_sub_one_eq_mod]
 show IntKind.i64.wrap ((BitVec.ofInt 64 n &&& BitVec.ofInt 64 1).toNat:Nat)=n % 2;rw[key,Jb];omega
def VA(d:Int)(j:Nat):(bits .and .i64 (d/2 ^ j) 1==1)=decide ((d >>> j) % 2=1):=by
 rw[A3k,Int.shiftRight_eq_div_pow,Int.natCast_pow,show ((2:Nat):Int)=2 from rfl];by_cases h:d/2 ^ j % 2=1
 ·rw[h];rfl
 ·rw[De h];simpa using h
def A3i(b:UInt8)(r:Nat)(hr:r<8):bits .xor .u8 (b.toNat:Int) (2 ^ r % 256)=(((b ^^^ UInt8.ofNat (2 ^ r)).toNat:Nat):Int):=by
 have d:2 ^ r<=2 ^ 7:=Nat.pow_le_pow_right (by decide) (by omega);have h:((2 ^ r:Nat):Int)=(2:Int) ^ r:=by rw[Int.natCast_pow];rfl
 have h3:=b.toNat_lt;rw[<-h];generalize 2 ^ r=z at d ⊢;rw[show ((z:Int) % 256)=(z:Int) by omega,u8_xor_nat _ _ (by omega) (by omega),UInt8.toNat_xor,UInt8.toNat_ofNat',Nat.mod_eq_of_lt (show z<2 ^ 8 by omega)]
def Ej.fS{a j q r:Nat}{d:Int}(h:Ej w g (Dc x a d j))(I:(d >>> j) % 2=1)(z:q<(Dc x a d j).length)(e:q=(a+j)/8/\r=(a+j) % 8)(E:a+j<8*x.length):
 Ej (w.setCell ⟨g,q,none⟩ (.int .u8 (bits .xor .u8 (((Dc x a d j)[q]'z).toNat:Int) (2 ^ r % 256)))).drew g (Dc x a d (j+1)):=by
 have H:Dc x a d (j+1)=(Dc x a d j).set q ((Dc x a d j)[q]'z ^^^ UInt8.ofNat (2 ^ r)):=by
  show (if a+j<8*x.length/\(d >>> j) % 2=1 then _ else Dc x a d j)=_;rw[Ae ⟨E,I⟩];unfold LR;rw[<-e.1,<-e.2,He,DL z];rfl
 rw[H,A3i _ r (by omega)];exact h.bl _
end
def Qj{k n:Nat}(h:k<n):n-(intOf (A0 ((k:Int)+1))).toNat<n-(intOf (A0 (k:Int))).toNat:=by simp[intOf];omega
def Yz{l:Bs}{a j:Nat}{d:Int}(h:8*l.length<=a+j)(hj:j<=32):Dc l a d j=Dc l a d 32:=by
 have:=RR l a d h (32-j);rw[show j+(32-j)=32 by omega]at this;exact this.symm
end
section
open Go.RowKit
attribute [local go_sem ↓] CJ
def NB(k:Nat):Prop:=∀(w:ga) (g cap n wb:Nat) (len:Int) (A U V Z:gh Pu),U.length+V.length<=k->U≠[]->V≠[]->n=(A++U++V++Z).length->w.ownsRow 0 113 3 (.slice (some ⟨g,0,none⟩) n cap) n (Bb (A++U++V++Z))->
 (∀p∈U++V,AT p.2.1)->B3 (Az len) U->B3 (Az len) V->(1<=len/\len<=4611686018427387904)->w.cell? ⟨wb,0,none⟩=some (.int .i64 len)->wb≠g->n<=4294967296->
 Calls Tryz.prog 244 #[.slice (some ⟨g,0,none⟩) n cap,.int .i64 A.length,.int .i64 ((A.length+U.length:Nat):Int),.int .i64 ((A.length+U.length+V.length:Nat):Int),.func (Fn.func 155) #[] #[.pointer (some ⟨wb,0,none⟩)]] w λe w'=>e=.returned (.tuple #[])/\
  ∃M,w'.ownsRow 0 113 3 (.slice (some ⟨g,0,none⟩) n cap) n (Bb (A++M++Z))/\M.length=U.length+V.length/\B3 (Az len) M/\Bh (Az len) (U++V) M/\A3 (One g) w w'
def XR{a b n nn s0 r0 s r:Nat}(hn:n<=4294967296)(hb:b<=n)(h1:s0<=s)(h2:s<r)(h3:r<=r0)(h4:r0<b)(h5:r0<=nn)(h6:nn<=s0+b)(h7:nn<=8589934592)(h8:a<=s0)(h9:a+r0<=nn):
 wrap64 ((s:Int)+(r:Int))=((s+r:Nat):Int)/\IntKind.u64.wrap ((s+r:Nat):Int)=((s+r:Nat):Int)/\wrap64 (((s+r:Nat):Int)/2)=(((s+r)/2:Nat):Int)/\s<=(s+r)/2/\(s+r)/2<r/\(s+r)/2<n/\nn-1-(s+r)/2<n/\
 wrap64 (((nn-1:Nat):Int)-(((s+r)/2:Nat):Int))=((nn-1-(s+r)/2:Nat):Int)/\IntKind.i64.wrap (((nn-1:Nat):Int)-(((s+r)/2:Nat):Int))=((nn-1-(s+r)/2:Nat):Int)/\wrap64 ((((s+r)/2:Nat):Int)+1)=(((s+r)/2+1:Nat):Int)/\(a<=(s+r)/2/\(s+r)/2<b/\a<=nn-1-(s+r)/2/\nn-1-(s+r)/2<b):=by
 refine⟨by unfold wrap64;omega,?_,by unfold wrap64;omega,by omega,by omega,by omega,by omega,by unfold wrap64;omega,?_,by unfold wrap64;omega,by omega,by omega,by omega,by omega⟩
 ·simp[IntKind.wrap,IntKind.bits,IntKind.signed];omega
 ·simp[IntKind.wrap,IntKind.bits,IntKind.signed];omega
def GL{x:Int}{k:Nat}(h:x=(k:Int))(hk:k<=9223372036854775807):wrap64 x=(k:Int)/\IntKind.i64.wrap x=(k:Int):=by
 subst h;refine⟨by unfold wrap64;omega,?_⟩;simp[IntKind.wrap,IntKind.bits,IntKind.signed];omega
def XT{a b m mid nn s0:Nat}(hmid:(a+b)/2=mid)(hnn:nn=mid+m)(h:mid<m)(hs:s0=nn-b)(h5:nn<=8589934592):(nn:Int)-(b:Int)=(s0:Int)/\s0<=9223372036854775807:=by omega
def XS{a m b lu lv ab mid nn p n:Nat}(hbig:n<=4294967296)(hbn:b<=n)(hm:a+lu=m)(hb:m+lv=b)(hab:a+b=ab)(hmid:ab/2=mid)(hnn:nn=mid+m)(hp:nn-1=p)(h1:2<=lu)(h2:2<=lv):
 (wrap64 ((m:Int)-(a:Int))=(lu:Int)/\IntKind.i64.wrap ((m:Int)-(a:Int))=(lu:Int))/\(wrap64 ((b:Int)-(m:Int))=(lv:Int)/\IntKind.i64.wrap ((b:Int)-(m:Int))=(lv:Int))/\((lu:Int)==1)=false/\((lv:Int)==1)=false/\
 (wrap64 ((a:Int)+(b:Int))=(ab:Int)/\IntKind.i64.wrap ((a:Int)+(b:Int))=(ab:Int))/\IntKind.u64.wrap (ab:Int)=(ab:Int)/\(wrap64 ((ab:Int)/2)=(mid:Int)/\IntKind.i64.wrap ((ab:Int)/2)=(mid:Int))/\
 (wrap64 ((mid:Int)+(m:Int))=(nn:Int)/\IntKind.i64.wrap ((mid:Int)+(m:Int))=(nn:Int))/\(wrap64 ((nn:Int)-1)=(p:Int)/\IntKind.i64.wrap ((nn:Int)-1)=(p:Int)):=by
 refine⟨GL (by omega) (by omega),GL (by omega) (by omega),by rw[Ic];omega,by rw[Ic];omega,GL (by omega) (by omega),?_,GL (by omega) (by omega),GL (by omega) (by omega),GL (by omega) (by omega)⟩;simp[IntKind.wrap,IntKind.bits,IntKind.signed];omega
section
variable{w w' wr:ga}{g cap n k wb a s m e b mid:Nat}{len:Int}{A U1 U2 V1 V2 Z:gh Pu}
def XQ(hk:NB k)(aJ:(U1++U2).length+(V1++V2).length<=k+1)(hn:n=(A++(U1++U2)++(V1++V2)++Z).length)(h:wr.ownsRow 0 113 3 (.slice (some ⟨g,0,none⟩) n cap) n (Bb (A++(U1++U2)++(V1++V2)++Z)))(hc:A3 (One g) w wr)(hT:∀p∈(U1++U2)++(V1++V2),AT p.2.1)(aE:B3 (Az len) (U1++U2))(aG:B3 (Az len) (V1++V2))(hl:1<=len/\len<=4611686018427387904)(hw:w.cell? ⟨wb,0,none⟩=some (.int .i64 len))(Y:wb≠g)(O:n<=4294967296)(h1:∀x y,U1.getLast?=some x->V2.head?=some y->Az len y x=false)(h2:∀x y,V1.getLast?=some y->U2.head?=some x->Az len y x=true)(ea:A.length=a)(es:a+U1.length=s)(em:s+U2.length=m)(ee:m+V1.length=e)(eb:e+V2.length=b)(aD:s+V1.length=mid)(lm1:a<mid)(lm2:mid<b):
 ∃aI aH:ga->Prop,((U2=[]\/V1=[])->aI wr)/\
  (U2≠[]->V1≠[]->∀cv,Calls Tryz.prog 263 #[.slice (some ⟨g,0,none⟩) n cap,.int .i64 s,.int .i64 m,.int .i64 e,cv] wr λx w'=>x=.returned (.tuple #[])/\aI w')/\
  (∀w',aI w'->(U1=[]\/V1=[])->aH w')/\
  (∀w',aI w'->U1≠[]->V1≠[]->Calls Tryz.prog 244 #[.slice (some ⟨g,0,none⟩) n cap,.int .i64 a,.int .i64 s,.int .i64 mid,.func (Fn.func 155) #[] #[.pointer (some ⟨wb,0,none⟩)]] w' λx z=>x=.returned (.tuple #[])/\aH z)/\
  (∀w',aH w'->(U2=[]\/V2=[])->∃M,w'.ownsRow 0 113 3 (.slice (some ⟨g,0,none⟩) n cap) n (Bb (A++M++Z))/\M.length=(U1++U2).length+(V1++V2).length/\B3 (Az len) M/\Bh (Az len) ((U1++U2)++(V1++V2)) M/\A3 (One g) w w')/\
  (∀w',aH w'->U2≠[]->V2≠[]->Calls Tryz.prog 244 #[.slice (some ⟨g,0,none⟩) n cap,.int .i64 mid,.int .i64 e,.int .i64 b,.func (Fn.func 155) #[] #[.pointer (some ⟨wb,0,none⟩)]] w' λx z=>x=.returned (.tuple #[])/\
   ∃M,z.ownsRow 0 113 3 (.slice (some ⟨g,0,none⟩) n cap) n (Bb (A++M++Z))/\M.length=(U1++U2).length+(V1++V2).length/\B3 (Az len) M/\Bh (Az len) ((U1++U2)++(V1++V2)) M/\A3 (One g) w z):=by
 have KW:=Fp len;obtain⟨u1,u2,-⟩:=B3.ak aE;obtain⟨v1,v2,-⟩:=B3.ak aG;have aA:n=A.length+U1.length+U2.length+V1.length+V2.length+Z.length:=by rw[hn];simp;omega
 have I:∀w',A3 (One g) w w'->w'.cell? ⟨wb,0,none⟩=some (.int .i64 len):=λw' aK=>aK.bq hw λe=>Y e;have hUV':U1.length+U2.length+(V1.length+V2.length)<=k+1:=by simpa using aJ
 have aF:∀(w':ga) (d aB:gh Pu),w'.ownsRow 0 113 3 (.slice (some ⟨g,0,none⟩) n cap) n (Bb (A++(d++aB)++Z))->d.length=U1.length+V1.length->aB.length=U2.length+V2.length->B3 (Az len) d->B3 (Az len) aB->Bh (Az len) (U1++V1) d->Bh (Az len) (U2++V2) aB->A3 (One g) w w'->
  ∃M,w'.ownsRow 0 113 3 (.slice (some ⟨g,0,none⟩) n cap) n (Bb (A++M++Z))/\M.length=(U1++U2).length+(V1++V2).length/\B3 (Az len) M/\Bh (Az len) ((U1++U2)++(V1++V2)) M/\A3 (One g) w w':=λw' d aB q0 q1 q2 q3 q4 q5 q6 q7=>by
  have⟨j1,j2⟩:=KW.eZ aE aG (KW.cD u1 v2 h1) (KW.du v1 u2 h2) q3 q4 q5 q6;exact⟨d++aB,q0,by simp;omega,j1,j2,q7⟩
 refine⟨λw'=>w'.ownsRow 0 113 3 (.slice (some ⟨g,0,none⟩) n cap) n (Bb (A++(U1++V1)++(U2++(V2++Z))))/\A3 (One g) w w',
  λw'=>∃d,w'.ownsRow 0 113 3 (.slice (some ⟨g,0,none⟩) n cap) n (Bb (A++d++(U2++(V2++Z))))/\d.length=U1.length+V1.length/\B3 (Az len) d/\Bh (Az len) (U1++V1) d/\A3 (One g) w w',
  λH=>⟨?_,hc⟩,λH hy cv=>?_,λw' L H=>?_,λw' L H hy=>?_,λw' L H=>?_,λw' L H hy=>?_⟩
 ·have e:A++(U1++U2)++(V1++V2)++Z=A++(U1++V1)++(U2++(V2++Z)):=by rcases H with rfl|rfl<;>simp
  rwa [e]at h
 ·have e:A++(U1++U2)++(V1++V2)++Z=(A++U1)++U2++V1++(V2++Z):=by simp
  rw[e]at h;have:=Zd wr g cap n (A++U1) U2 V1 (V2++Z) cv H hy (by rw[aA,AY,AY,AY,AY,AY];omega) h;have l1:(A++U1).length=s:=by rw[AY];omega
  rw[l1,em,ee]at this;refine this.mono ?_;rintro x w'⟨rfl,W,r2⟩;refine⟨rfl,?_,hc.Av r2 λ_ h _=>h⟩;have e:(A++U1)++V1++U2++(V2++Z)=A++(U1++V1)++(U2++(V2++Z)):=by simp
  rwa [e]at W
 ·refine⟨U1++V1,L.1,by simp,?_,Bh.I _,L.2⟩;rcases H with rfl|rfl
  ·simpa using v1
  ·simpa using u1
 ·have:=hk w' g cap n wb len A U1 V1 (U2++(V2++Z)) (by omega) H hy (by rw[aA];simp only[AY];omega) (by have:=L.1;rwa [<-Ch A U1 V1]at this) (λp E=>hT p (by simp at E ⊢;rcases E with E|E<;>simp[E])) u1 v1 hl (I w' L.2) Y O;rw[ea,es,aD]at this;refine this.mono ?_;rintro x z⟨rfl,M,W,r2,r3,r4,r5⟩;exact⟨rfl,M,W,r2,r3,r4,L.2.Av r5 λ_ h _=>h⟩
 ·obtain⟨d,W,r2,r3,r4,r5⟩:=L;refine aF w' d (U2++V2) ?_ r2 (by simp) r3 ?_ r4 (Bh.I _) r5
  ·(have e:A++(d++(U2++V2))++Z=A++d++(U2++(V2++Z)):=by simp);rw[e];exact W
  ·rcases H with rfl|rfl
   ·simpa using v2
   ·simpa using u2
 ·obtain⟨d,W,r2,r3,r4,r5⟩:=L;have lM:(A++d).length=mid:=by rw[AY];omega
  have:=hk w' g cap n wb len (A++d) U2 V2 Z (by omega) H hy (by rw[aA];simp only[AY];omega) (by have e:A++d++U2++V2++Z=A++d++(U2++(V2++Z)):=(by simp);rw[e];exact W) (λp E=>hT p (by simp at E ⊢;rcases E with E|E<;>simp[E])) u2 v2 hl (I w' r5) Y O;rw[lM,show mid+U2.length=e by omega,eb]at this;refine this.mono ?_;rintro x z⟨rfl,M,q1,q2,q3,q4,q5⟩;refine⟨rfl,aF z d M ?_ r2 q2 r3 q3 r4 q4 (r5.Av q5 λ_ h _=>h)⟩;rw[<-Ch A d M];exact q1
end
section
variable{w wr:ga}{g cap n k wb a m b mid nn s0 r0 s:Nat}{len:Int}{A U V Z D:gh Pu}
def XP(hk:NB k)(aK:U.length+V.length<=k+1)(aO:2<=U.length)(aQ:2<=V.length)(hn:n=(A++U++V++Z).length)(hD:D=A++U++V++Z)(h:wr.ownsRow 0 113 3 (.slice (some ⟨g,0,none⟩) n cap) n (Bb D))(aR:A3 (λ_=>False) w wr)(hT:∀p∈U++V,AT p.2.1)(aL:B3 (Az len) U)(aN:B3 (Az len) V)(hl:1<=len/\len<=4611686018427387904)(hw:w.cell? ⟨wb,0,none⟩=some (.int .i64 len))(aM:wb≠g)(aI:n<=4294967296)(ha:A.length=a)(hm:a+U.length=m)(hb:m+V.length=b)(O:(a+b)/2=mid)(aP:nn=mid+m)(aH:if mid<m then s0=nn-b/\r0=mid else s0=a/\r0=m)(hs:Gf (Az len) D nn s0 r0 s s):
 ∃(e:Nat) (u1 H I v2:Bool) (aF aE:ga->Prop),(wrap64 ((nn:Int)-(s:Int))=(e:Int)/\IntKind.i64.wrap ((nn:Int)-(s:Int))=(e:Int))/\
  (decide (s<m)=H/\decide (m<e)=I/\decide (a<s)=u1/\decide (s<mid)=I/\decide (mid<e)=H/\decide (e<b)=v2)/\((u1=true\/H=true)/\(I=true\/v2=true))/\
  ((H=false\/I=false)->aF wr)/\
  (H=true->I=true->∀cv,Calls Tryz.prog 263 #[.slice (some ⟨g,0,none⟩) n cap,.int .i64 s,.int .i64 m,.int .i64 e,cv] wr λx w'=>x=.returned (.tuple #[])/\aF w')/\
  (∀w',aF w'->(u1=false\/I=false)->aE w')/\
  (∀w',aF w'->u1=true->I=true->Calls Tryz.prog 244 #[.slice (some ⟨g,0,none⟩) n cap,.int .i64 a,.int .i64 s,.int .i64 mid,.func (Fn.func 155) #[] #[.pointer (some ⟨wb,0,none⟩)]] w' λx aA=>x=.returned (.tuple #[])/\aE aA)/\
  (∀w',aE w'->(H=false\/v2=false)->∃M,w'.ownsRow 0 113 3 (.slice (some ⟨g,0,none⟩) n cap) n (Bb (A++M++Z))/\M.length=U.length+V.length/\B3 (Az len) M/\Bh (Az len) (U++V) M/\A3 (One g) w w')/\
  (∀w',aE w'->H=true->v2=true->Calls Tryz.prog 244 #[.slice (some ⟨g,0,none⟩) n cap,.int .i64 mid,.int .i64 e,.int .i64 b,.func (Fn.func 155) #[] #[.pointer (some ⟨wb,0,none⟩)]] w' λx aA=>x=.returned (.tuple #[])/\
   ∃M,aA.ownsRow 0 113 3 (.slice (some ⟨g,0,none⟩) n cap) n (Bb (A++M++Z))/\M.length=U.length+V.length/\B3 (Az len) M/\Bh (Az len) (U++V) M/\A3 (One g) w aA):=by
 have hbn:b<=n:=by rw[hn];simp;omega
 have hs3:=hs.2.2.1;have hg:r0<=nn/\nn<=8589934592/\a<mid/\mid<b:=by split at aH<;>omega
 obtain⟨g3,g5,g6,g7⟩:=hg;have⟨U1,U2,V1,V2,hU,hV,c1,c2,c3,c4,c5⟩:=A2V hD aO aQ (by rw[ha,hm,hb,O];exact aP) (by rw[ha,hm,hb,O];exact aH) hs;rw[ha,hm,hb,O]at c3;rw[ha]at c1;rw[ha,hm]at c2;generalize he:nn-s=e at c2;have lU:U.length=U1.length+U2.length:=by rw[hU,AY]
 have lV:V.length=V1.length+V2.length:=by rw[hV,AY]
 have aJ:=@List.length_pos_iff _ U1;have aB:=@List.length_pos_iff _ U2;have aD:=@List.length_pos_iff _ V1;have aG:=@List.length_pos_iff _ V2;have⟨aF,aE,p1,p2,p3,p4,p5,p6⟩:=XQ (w:=w) (wr:=wr) (g:=g) (cap:=cap) (n:=n) (wb:=wb) (a:=a) (s:=s) (m:=m) (e:=e) (b:=b) (mid:=mid) (len:=len) (A:=A) (U1:=U1) (U2:=U2) (V1:=V1) (V2:=V2) (Z:=Z) hk (by rw[<-hU,<-hV];exact aK) (by rw[<-hU,<-hV];exact hn)
  (by rw[<-hU,<-hV,<-hD];exact h) (aR.af λ_ _ h=>h.elim) (by rw[<-hU,<-hV];exact hT) (by rw[<-hU];exact aL) (by rw[<-hV];exact aN) hl hw aM aI c4 c5 ha c1 (by omega) (by omega) (by omega) (by omega) g6 g7
 rw[<-hU,<-hV]at p5 p6;obtain⟨u1,W⟩:∃u1,decide (U1≠[])=u1:=⟨_,rfl⟩;obtain⟨H,z⟩:∃H,decide (U2≠[])=H:=⟨_,rfl⟩;obtain⟨I,d⟩:∃I,decide (V1≠[])=I:=⟨_,rfl⟩;obtain⟨v2,Y⟩:∃v2,decide (V2≠[])=v2:=⟨_,rfl⟩;have E:∀ {L:gh Pu} {x:Bool},decide (L≠[])=x->(x=true->L≠[])/\(x=false->L=[]):=λh=>by
  subst h;exact⟨λh=>by simpa using h,λh=>by simpa using h⟩
 refine⟨e,u1,H,I,v2,aF,aE,GL (by omega) (by omega),⟨z ▸ LV.2 (by rw[<-aB];omega),d ▸ LV.2 (by rw[<-aD];omega),W ▸ LV.2 (by rw[<-aJ];omega),d ▸ LV.2 (by rw[<-aD];omega),z ▸ LV.2 (by rw[<-aB];omega),Y ▸ LV.2 (by rw[<-aG];omega)⟩,⟨?_,?_⟩,
  λh=>p1 (h.imp (E z).2 (E d).2),λh h'=>p2 ((E z).1 h) ((E d).1 h'),λw' q h=>p3 w' q (h.imp (E W).2 (E d).2),λw' q h h'=>p4 w' q ((E W).1 h) ((E d).1 h'),λw' q h=>p5 w' q (h.imp (E z).2 (E Y).2),λw' q h h'=>p6 w' q ((E z).1 h) ((E Y).1 h')⟩
 ·rw[<-W,<-z];simp only[E0,<-aJ,<-aB];omega
 ·rw[<-d,<-Y];simp only[E0,<-aD,<-aG];omega
end
section
variable{w w':ga}{g cap n:Nat}
def XV{k:Nat}(hk:NB k)(w:ga)(g cap n wb:Nat)(len:Int)(A U V Z:gh Pu)(aZ:U.length+V.length<=k+1)(hU:2<=U.length)(hV:2<=V.length)(hn:n=(A++U++V++Z).length)(h:w.ownsRow 0 113 3 (AH g n cap) n (Bb (A++U++V++Z)))(hT:∀p∈U++V,AT p.2.1)(aR:B3 (Az len) U)(a3:B3 (Az len) V)(hl:1<=len/\len<=4611686018427387904)(hw:A7 w wb 0 (A0 len))(aV:wb≠g)(I:n<=4294967296):
 Ag 244 #[AH g n cap,A0 A.length,A0 ((A.length+U.length:Nat):Int),A0 ((A.length+U.length+V.length:Nat):Int),.func (Fn.func 155) #[] #[A5 wb]] w (Am (.tuple #[]) λw'=>
  ∃M,w'.ownsRow 0 113 3 (AH g n cap) n (Bb (A++M++Z))/\M.length=U.length+V.length/\B3 (Az len) M/\Bh (Az len) (U++V) M/\A3 (One g) w w'):=by
 obtain⟨D,hD⟩:∃D,D=A++U++V++Z:=⟨_,rfl⟩;obtain⟨a,ha⟩:∃a,A.length=a:=⟨_,rfl⟩;obtain⟨m,hm⟩:∃m,a+U.length=m:=⟨_,rfl⟩;obtain⟨b,hb⟩:∃b,m+V.length=b:=⟨_,rfl⟩;obtain⟨mid,H⟩:∃mid,(a+b)/2=mid:=⟨_,rfl⟩;obtain⟨nn,aG⟩:∃nn,nn=mid+m:=⟨_,rfl⟩;obtain⟨s0,r0,E⟩:∃s0 r0,if mid<m then s0=nn-b/\r0=mid else s0=a/\r0=m:=by
  split
  ·exact⟨_,_,rfl,rfl⟩
  ·exact⟨_,_,rfl,rfl⟩
 have aO:b<=n:=by rw[hn];simp;omega
 have a9:s0<r0/\r0<b/\r0<=nn/\nn<=s0+b/\nn<=8589934592/\a<mid/\mid<b/\a<=s0/\a+r0<=nn:=by split at E<;>omega
 obtain⟨g1,g2,g3,g4,g5,g6,g7,g8,g9⟩:=a9;have aD:Hid (∀s r,s0<=s->s<r->r<=r0->_):=λs r q1 q2 q3=>XR (a:=a) (nn:=nn) I aO q1 q2 q3 g2 g3 g4 g5 g8 g9;rw[<-hD]at h;have aA:Hid (∀wr s,A3 Ab w wr->Gf (Az len) D nn s0 r0 s s->_):=λwr s q1 q2=>XP hk aZ hU hV hn hD (Ax h λg' hg=>q1.An g' (AF h hg) (λh=>h)) q1 hT aR a3 hl hw aV I ha hm hb H aG E q2;have a5:Hid (∀z,A3 Ab w z->∀q (hq:q<n) x,D[q]?=some x->A7 z g (q*3) (A0 x.1)/\A7 z g (q*3+1) (A0 x.2.1)/\A7 z g (q*3+2) (A0 x.2.2)):=λz hx q hq x bI=>by
  have⟨e1,e2⟩:=Ht.1 bI;have⟨y1,y2,y3⟩:=AX.bz h q e1 x e2;exact⟨hx.ao y1,hx.ao y2,hx.ao y3⟩
 have aF:Hid (∀q,a<=q->q<b->∃x,D[q]?=some x/\AT x.2.1):=λq hq1 hq2=>by
  obtain⟨j,rfl⟩:∃j,q=A.length+j:=⟨q-A.length,by omega⟩;have hj:j<(U++V).length:=by simp;omega
  have e:D[A.length+j]?=some ((U++V)[j]'hj):=by
   rw[hD,Ch A U V,J9 (by simp at hj ⊢;omega),HV (by omega)];simp only[A4U];exact DL hj
  exact⟨_,e,hT _ (BU hj)⟩
 obtain⟨lu,aK⟩:∃lu,U.length=lu:=⟨_,rfl⟩;obtain⟨lv,aP⟩:∃lv,V.length=lv:=⟨_,rfl⟩;obtain⟨ab,aM⟩:∃ab,a+b=ab:=⟨_,rfl⟩;obtain⟨p,hp⟩:∃p,nn-1=p:=⟨_,rfl⟩;have⟨⟨w1,w1'⟩,⟨w2,w2'⟩,f1,f2,⟨w3,w3'⟩,w4,⟨w5,w5'⟩,⟨w6,w6'⟩,⟨w7,w7'⟩⟩:=XS (lu:=lu) (lv:=lv) I aO (by rw[<-aK];exact hm) (by rw[<-aP];exact hb) aM (by rw[<-aM];exact H) aG hp (by rw[<-aK];exact hU) (by rw[<-aP];exact hV);have bL:=Na (Ic.1 f1);have bE:=Na (Ic.1 f2);rw[hp]at aD;have O:Hid (if mid<m then (wrap64 ((nn:Int)-(b:Int))=(s0:Int)/\IntKind.i64.wrap ((nn:Int)-(b:Int))=(s0:Int))/\r0=mid else s0=a/\r0=m):=by
  unfold Hid;split at E
  ·rename_i aB;rw[Ae aB];have⟨q1,q2⟩:=XT H aG aB E.1 g5;exact⟨GL q1 q2,E.2⟩
  ·rename_i aB;rw[Aa aB];exact E
 have aS:n<=cap/\cap<=9223372036854775807:=by
  have⟨a',c',e,h1,h2,_⟩:=B9 h;cases e;unfold maxLen at h2;omega
 obtain⟨hc1,hc2⟩:=aS;have bR:=A1 hw;have a0:=A1 hl;have bV:=A1 hp;have a2:=A1 <| ET g1;rw[ha,hm,hb];clear h hT hw hl aV hk I hn ha hm hb H aG E g1 g2 g3 g4 g5 g6 g7 g8 g9 aM aK aP aZ hU hV aR a3 hD aO hp;by_cases aE:mid<m
 all_goals
  have a4:=O.o
  first
   | rw[Ae aE]at a4
   | rw[Aa aE]at a4
 focus
  obtain⟨⟨x1,x2⟩,hr⟩:=a4;have bJ:=A1 hr;have bD:Hid (∀_:Nat,s0=s0):=λ_=>rfl;have bF:=F5.2 aE;clear hr
 rotate_left
 focus
  obtain⟨hs,hr⟩:=a4;have bJ:=A1 hr;have bD:Hid (∀_:Nat,s0=a):=λ_=>hs;have bF:=Na (by omega);clear hr hs
 all_goals
  clear O aE
  go_enter func244,ntmps244
  go_wp2;go_loopw [20,21] (λiv jv wr=>∃(s r:Nat),iv=A0 (s:Int)/\jv=A0 (r:Int)/\Hid (Gf (Az len) D nn s0 r0 s r/\A3 Ab w wr)) (λiv jv _=>(intOf jv).toNat-(intOf iv).toNat)
  case atStart=>exact⟨s0,r0,by first|go_num|rw[bD.o 0],by rw[bJ.o],Gf.fp D nn a2.o,A3.I _ _⟩
  case round=>
   obtain⟨s,r,rfl,rfl,hI⟩:=hrel;have⟨i1,i2⟩:=hI.o;by_cases Y:s<r
   ·have⟨n1,n2,n3,n4,n5,n6,n7,n8,n9,n10,l1,l2,l3,l4⟩:=aD.o s r i1.1 Y i1.2.2.1;generalize hc:(s+r)/2=c at n3 n4 n5 n6 n7 n8 n9 n10 l1 l2 l3 l4;generalize hd:p-c=d at n7 n8 n9 l3 l4;generalize aT:s+r=sr at n1 n2 n3;have hp:=bV.o;have⟨x,hx,hxT⟩:=aF.o c l1 l2;have⟨y,hy,hyT⟩:=aF.o d l3 l4;(have aN:D[nn-1-c]?=some y:=by rw[hp,hd];exact hy);have bC:Hid (∀z,A3 Ab wr z->(A7 z g (d*3) (A0 y.1)/\A7 z g (d*3+1) (A0 y.2.1)/\A7 z g (d*3+2) (A0 y.2.2))/\A7 z g (c*3) (A0 x.1)/\A7 z g (c*3+1) (A0 x.2.1)/\A7 z g (c*3+2) (A0 x.2.2)):=λz aJ=>by
     have aY:=i2.tr aJ;exact⟨a5.o z aY d n7 y hy,a5.o z aY c n6 x hx⟩
    have a1:=A1 (λz aJ=>Nn z wb len y x hyT hxT a0.o aJ);have aH:=Nl (len:=len) (p:=y) (q:=x);generalize bH:H7 len y x=cc at a1 aH;have aI:=i2.ao bR.o
    have bW:Hid (¬cc<0->Gf (Az len) D nn s0 r0 (c+1) r):=λhc=>i1.up ⟨n4,n5⟩ hx aN (by
     cases hk:Az len y x with
     | false=>rfl
     | true=>exact absurd (aH.2 hk) hc)
    have bK:Hid (cc<0->Gf (Az len) D nn s0 r0 s c):=λhc=>i1.eL ⟨n4,n5⟩ hx aN (aH.1 hc);have DI:=F5.2 n7;have CI:=F5.2 n6;have D0:=C3 d;have C0:=C3 c;have tD:=EH d;have tC:=EH c;have hsrI:=F5.2 Y;obtain⟨xa,xb,xc⟩:=x;obtain⟨ya,yb,yc⟩:=y;unfold DA at a1;dsimp only at a1 bC;have bO:=bC.o wr.drew (A3.I _ wr).ag;have aQ:=A1 (a1.o wr.drew aI);have W:=A1 (And.intro i2 (And.intro n4 n5));clear hI i1 i2 n4 n5 n6 n7 hc hd aT hx hy aN hxT hyT bH a1 aI Y aD a5 aF aH hp aA l1 l2 l3 l4;rcases QU (cc<0) with L|L
    focus
     have aL:=Int.not_le.2 L;have a8:=CM L
    rotate_left
    focus
     have aL:=QR.1 L;have a8:=De L
    all_goals
     go_wp2;clear n1 n2 n3;refine Cc (λw'=>(A7 w' g (d*3) (A0 ya)/\A7 w' g (d*3+1) (A0 yb)/\A7 w' g (d*3+2) (A0 yc))/\A7 w' g (c*3) (A0 xa)/\A7 w' g (c*3+1) (A0 xb)/\A7 w' g (c*3+2) (A0 xc)) 12
      (BG [0,1,2,3,4,5,6,7,8,9,10,11] [11]) bO ?_
     iterate 11 refine Bq ?_
     refine Bx λK hK=>?_;go_simp;refine aQ.m ?_;rintro e w6⟨rfl,aX⟩;have k6:=((A3.I Ab wr).ag).tr aX;refine hK _ _ (bC.o w6 k6) (λhS=>?_);have bS:=A1 k6;clear hK K hS aX k6 bO aQ;refine C8 ?_;go_wp2;go_roundw
     case rel=>
      have⟨f1,f2,f3⟩:=W.o
      first
       | exact⟨c+1,r,rfl,rfl,bW.o (by first|exact aL|exact QR.2 aL),f1.tr bS.o⟩
       | exact⟨s,c,rfl,rfl,bK.o L,f1.tr bS.o⟩
     case measure=>
      have⟨f1,f2,f3⟩:=W.o
      first
       | exact Ps f2 f3
       | exact Pv f2 f3
   ·obtain rfl:s=r:=KG i1.2.1 (HS Y);have⟨e,u1,u2,v1,v2,R1,R2,⟨y1,y2⟩,⟨D1,D2,D3,D4,D5,D6⟩,⟨ou,ov⟩,p1,p2,p3,p4,p5,p6⟩:=aA.o wr s i2 i1;have bB:=A1 p1;have P2:=A1 p2;have bA:=A1 p3;have bP:=A1 p4;have bG:=A1 p5;have bT:=A1 p6;have bQ:=A1 ou;have bN:=A1 ov;have hno:¬((s:Int)<(s:Int)):=Mr _;clear hI i1 i2 Y aD a5 aF aA p1 p2 p3 p4 p5 p6 ou ov a0 bR bJ bD bV a2 w1 w1' w2 w2' f1 bL f2 bE w3 w3' w4 w5 w5' w6 w6' w7 w7';cases u1<;>cases u2<;>cases v1<;>cases v2
    all_goals first
     | (exfalso;have:=bQ.o;revert this;decide)
     | (exfalso;have:=bN.o;revert this;decide)
     | skip
    all_goals
     simp only[E0,decide_eq_false_iff_not]at D1 D2 D3 D4 D5 D6
    all_goals first
     | have bU:=A1 (P2.o rfl rfl (.func (Fn.func 155) #[] #[A5 wb]))
     | have a6:=A1 (bB.o (.inl rfl))
     | have a6:=A1 (bB.o (.inr rfl))
    all_goals first
     | have aU:=A1 (λw' q=>bP.o w' q rfl rfl)
     | have aU:=A1 (λw' q=>bA.o w' q (.inl rfl))
     | have aU:=A1 (λw' q=>bA.o w' q (.inr rfl))
    all_goals first
     | have aW:=A1 (λw' q=>bT.o w' q rfl rfl)
     | have aW:=A1 (λw' q=>bG.o w' q (.inl rfl))
     | have aW:=A1 (λw' q=>bG.o w' q (.inr rfl))
    all_goals clear bB P2 bA bP bG bT bQ bN
    all_goals go_wp2_with (fail)
    all_goals try
     (go_at_call 263;refine bU.m ?_;rintro x w4⟨rfl,hR⟩;have a6:=A1 hR;clear hR bU;go_wp2_with (fail))
    all_goals first
     | (go_at_call 244;refine(aU.o _ a6.o).mono ?_;rintro x w5⟨rfl,hR⟩;have bM:=A1 hR;clear hR aU;go_wp2_with (fail))
     | have bM:=A1 (aU.o _ a6.o)
    all_goals first
     | (go_at_call 244;refine(aW.o _ bM.o).mono ?_;rintro x w6⟨rfl,hR⟩;have a7:=A1 hR;clear hR aW;go_wp2_with (fail))
     | have a7:=A1 (aW.o _ bM.o)
    all_goals go_end0
    all_goals first
     | exact⟨rfl,a7.o⟩
     | exact⟨rfl,by simpa only[Ch] using a7.o⟩
end
def RG:∀k,NB k
 | 0=>λw g cap n wb len A U V Z hk hu hv=>by
  have:=JM.2 hu;omega
 | k+1=>λw g cap n wb len A U V Z hk hu hv L h O E I Y W z d=>by
  have lu:=JM.2 hu;have lv:=JM.2 hv;by_cases h1:U.length=1
  ·obtain⟨x,rfl⟩:=A45.1 h1;(have e:A++[x]++V++Z=A++x::(V++Z):=by simp);rw[e]at L h;have:=XU w g cap n wb len A V Z x hv L h (by simpa using O) I Y W z d;simp only[WQ]at this ⊢;refine this.mono ?_;rintro x' w'⟨rfl,M,q1,q2,q3,q4,q5⟩;exact⟨rfl,M,q1,by rw[q2];omega,q3,by simpa using q4,q5⟩
  ·by_cases h2:V.length=1
   ·obtain⟨x,rfl⟩:=A45.1 h2;(have e:A++U++[x]++Z=A++(U++x::Z):=by simp);rw[e]at L h;have:=XW w g cap n wb len A U Z x (by omega) L h (λp H=>O p (by simp at H ⊢;rcases H with H|H<;>simp[H])) E Y W z d;simp only[WQ]at this ⊢;exact this
   ·exact XV (RG k) w g cap n wb len A U V Z hk (by omega) (by omega) L h O E I Y W z d
end
end Go.Proofs.YtodcnkbblippnaaGreatDoor
