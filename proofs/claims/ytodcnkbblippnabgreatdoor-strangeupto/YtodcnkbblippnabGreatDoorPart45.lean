/- Part 45 of a proof: walks of the program. -/
import Derived.Test.YtodcnkbblippnabGreatDoorPart41
namespace Go.Proofs.YtodcnkbblippnabGreatDoor
set_option maxRecDepth 100000
set_option maxHeartbeats 32000000
set_option linter.defProp false
open Go.Proofs.Tryz
section
open Go.RowKit
attribute [local go_sem ↓] Cz
def MG(k:Nat):Prop:=∀(w:World) (g cap n wb:Nat) (len:Int) (A U V Z:List Pu),U.length+V.length<=k->U≠[]->V≠[]->n=(A++U++V++Z).length->w.ownsRow 0 90 3 (.slice (some ⟨g,0,none⟩) n cap) n (Ba (A++U++V++Z))->
 (∀p∈U++V,AY p.2.1)->B3 (AE len) U->B3 (AE len) V->(1<=len/\len<=4611686018427387904)->w.cell? ⟨wb,0,none⟩=some (.int .i64 len)->wb≠g->n<=4294967296->
 Calls Tryz.prog 194 #[.slice (some ⟨g,0,none⟩) n cap,.int .i64 A.length,.int .i64 ((A.length+U.length:Nat):Int),.int .i64 ((A.length+U.length+V.length:Nat):Int),.func (Fn.func 103) #[] #[.pointer (some ⟨wb,0,none⟩)]] w λe w'=>e=.returned (.tuple #[])/\
  ∃M,w'.ownsRow 0 90 3 (.slice (some ⟨g,0,none⟩) n cap) n (Ba (A++M++Z))/\M.length=U.length+V.length/\B3 (AE len) M/\Bg (AE len) (U++V) M/\A5 (One g) w w'
def VZ{a b n nn s0 r0 s r:Nat}(hn:n<=4294967296)(hb:b<=n)(h1:s0<=s)(h2:s<r)(h3:r<=r0)(h4:r0<b)(h5:r0<=nn)(h6:nn<=s0+b)(h7:nn<=8589934592)(h8:a<=s0)(h9:a+r0<=nn):
 wrap64 ((s:Int)+(r:Int))=((s+r:Nat):Int)/\IntKind.u64.wrap ((s+r:Nat):Int)=((s+r:Nat):Int)/\wrap64 (((s+r:Nat):Int)/2)=(((s+r)/2:Nat):Int)/\s<=(s+r)/2/\(s+r)/2<r/\(s+r)/2<n/\nn-1-(s+r)/2<n/\
 wrap64 (((nn-1:Nat):Int)-(((s+r)/2:Nat):Int))=((nn-1-(s+r)/2:Nat):Int)/\IntKind.i64.wrap (((nn-1:Nat):Int)-(((s+r)/2:Nat):Int))=((nn-1-(s+r)/2:Nat):Int)/\wrap64 ((((s+r)/2:Nat):Int)+1)=(((s+r)/2+1:Nat):Int)/\(a<=(s+r)/2/\(s+r)/2<b/\a<=nn-1-(s+r)/2/\nn-1-(s+r)/2<b):=by
 refine⟨by unfold wrap64;omega,?_,by unfold wrap64;omega,by omega,by omega,by omega,by omega,by unfold wrap64;omega,?_,by unfold wrap64;omega,by omega,by omega,by omega,by omega⟩
 ·simp[IntKind.wrap,IntKind.bits,IntKind.signed];omega
 ·simp[IntKind.wrap,IntKind.bits,IntKind.signed];omega
def Gq{x:Int}{k:Nat}(h:x=(k:Int))(hk:k<=9223372036854775807):wrap64 x=(k:Int)/\IntKind.i64.wrap x=(k:Int):=by
 subst h;refine⟨by unfold wrap64;omega,?_⟩;simp[IntKind.wrap,IntKind.bits,IntKind.signed];omega
def W2{a b m mid nn s0:Nat}(hmid:(a+b)/2=mid)(hnn:nn=mid+m)(h:mid<m)(hs:s0=nn-b)(h5:nn<=8589934592):(nn:Int)-(b:Int)=(s0:Int)/\s0<=9223372036854775807:=by omega
def W0{a m b lu lv ab mid nn p n:Nat}(hbig:n<=4294967296)(hbn:b<=n)(hm:a+lu=m)(hb:m+lv=b)(hab:a+b=ab)(hmid:ab/2=mid)(hnn:nn=mid+m)(hp:nn-1=p)(h1:2<=lu)(h2:2<=lv):
 (wrap64 ((m:Int)-(a:Int))=(lu:Int)/\IntKind.i64.wrap ((m:Int)-(a:Int))=(lu:Int))/\(wrap64 ((b:Int)-(m:Int))=(lv:Int)/\IntKind.i64.wrap ((b:Int)-(m:Int))=(lv:Int))/\((lu:Int)==1)=false/\((lv:Int)==1)=false/\
 (wrap64 ((a:Int)+(b:Int))=(ab:Int)/\IntKind.i64.wrap ((a:Int)+(b:Int))=(ab:Int))/\IntKind.u64.wrap (ab:Int)=(ab:Int)/\(wrap64 ((ab:Int)/2)=(mid:Int)/\IntKind.i64.wrap ((ab:Int)/2)=(mid:Int))/\
 (wrap64 ((mid:Int)+(m:Int))=(nn:Int)/\IntKind.i64.wrap ((mid:Int)+(m:Int))=(nn:Int))/\(wrap64 ((nn:Int)-1)=(p:Int)/\IntKind.i64.wrap ((nn:Int)-1)=(p:Int)):=by
 refine⟨Gq (by omega) (by omega),Gq (by omega) (by omega),by rw[Hn];omega,by rw[Hn];omega,Gq (by omega) (by omega),?_,Gq (by omega) (by omega),Gq (by omega) (by omega),Gq (by omega) (by omega)⟩;simp[IntKind.wrap,IntKind.bits,IntKind.signed];omega
section
variable{w w' wr:World}{g cap n k wb a s m e b mid:Nat}{len:Int}{A U1 U2 V1 V2 Z:List Pu}
def VY(hk:MG k)(aK:(U1++U2).length+(V1++V2).length<=k+1)(hn:n=(A++(U1++U2)++(V1++V2)++Z).length)(h:wr.ownsRow 0 90 3 (.slice (some ⟨g,0,none⟩) n cap) n (Ba (A++(U1++U2)++(V1++V2)++Z)))(hc:A5 (One g) w wr)(hT:∀p∈(U1++U2)++(V1++V2),AY p.2.1)(aF:B3 (AE len) (U1++U2))(aH:B3 (AE len) (V1++V2))(hl:1<=len/\len<=4611686018427387904)(hw:w.cell? ⟨wb,0,none⟩=some (.int .i64 len))(aA:wb≠g)(Y:n<=4294967296)(h1:∀x y,U1.getLast?=some x->V2.head?=some y->AE len y x=false)(h2:∀x y,V1.getLast?=some y->U2.head?=some x->AE len y x=true)(ea:A.length=a)(es:a+U1.length=s)(em:s+U2.length=m)(ee:m+V1.length=e)(eb:e+V2.length=b)(aE:s+V1.length=mid)(lm1:a<mid)(lm2:mid<b):
 ∃aJ aI:World->Prop,((U2=[]\/V1=[])->aJ wr)/\
  (U2≠[]->V1≠[]->∀cv,Calls Tryz.prog 217 #[.slice (some ⟨g,0,none⟩) n cap,.int .i64 s,.int .i64 m,.int .i64 e,cv] wr λx w'=>x=.returned (.tuple #[])/\aJ w')/\
  (∀w',aJ w'->(U1=[]\/V1=[])->aI w')/\
  (∀w',aJ w'->U1≠[]->V1≠[]->Calls Tryz.prog 194 #[.slice (some ⟨g,0,none⟩) n cap,.int .i64 a,.int .i64 s,.int .i64 mid,.func (Fn.func 103) #[] #[.pointer (some ⟨wb,0,none⟩)]] w' λx H=>x=.returned (.tuple #[])/\aI H)/\
  (∀w',aI w'->(U2=[]\/V2=[])->∃M,w'.ownsRow 0 90 3 (.slice (some ⟨g,0,none⟩) n cap) n (Ba (A++M++Z))/\M.length=(U1++U2).length+(V1++V2).length/\B3 (AE len) M/\Bg (AE len) ((U1++U2)++(V1++V2)) M/\A5 (One g) w w')/\
  (∀w',aI w'->U2≠[]->V2≠[]->Calls Tryz.prog 194 #[.slice (some ⟨g,0,none⟩) n cap,.int .i64 mid,.int .i64 e,.int .i64 b,.func (Fn.func 103) #[] #[.pointer (some ⟨wb,0,none⟩)]] w' λx H=>x=.returned (.tuple #[])/\
   ∃M,H.ownsRow 0 90 3 (.slice (some ⟨g,0,none⟩) n cap) n (Ba (A++M++Z))/\M.length=(U1++U2).length+(V1++V2).length/\B3 (AE len) M/\Bg (AE len) ((U1++U2)++(V1++V2)) M/\A5 (One g) w H):=by
 have KW:=FY len;obtain⟨u1,u2,-⟩:=B3.al aF;obtain⟨v1,v2,-⟩:=B3.al aH;have aB:n=A.length+U1.length+U2.length+V1.length+V2.length+Z.length:=by rw[hn];simp;omega
 have W:∀w',A5 (One g) w w'->w'.cell? ⟨wb,0,none⟩=some (.int .i64 len):=λw' aL=>aL.bB hw λe=>aA e;have hUV':U1.length+U2.length+(V1.length+V2.length)<=k+1:=by simpa using aK
 have aG:∀(w':World) (z aD:List Pu),w'.ownsRow 0 90 3 (.slice (some ⟨g,0,none⟩) n cap) n (Ba (A++(z++aD)++Z))->z.length=U1.length+V1.length->aD.length=U2.length+V2.length->B3 (AE len) z->B3 (AE len) aD->Bg (AE len) (U1++V1) z->Bg (AE len) (U2++V2) aD->A5 (One g) w w'->
  ∃M,w'.ownsRow 0 90 3 (.slice (some ⟨g,0,none⟩) n cap) n (Ba (A++M++Z))/\M.length=(U1++U2).length+(V1++V2).length/\B3 (AE len) M/\Bg (AE len) ((U1++U2)++(V1++V2)) M/\A5 (One g) w w':=λw' z aD q0 q1 q2 q3 q4 q5 q6 q7=>by
  have⟨j1,j2⟩:=KW.eU aF aH (KW.cD u1 v2 h1) (KW.dc v1 u2 h2) q3 q4 q5 q6;exact⟨z++aD,q0,by simp;omega,j1,j2,q7⟩
 refine⟨λw'=>w'.ownsRow 0 90 3 (.slice (some ⟨g,0,none⟩) n cap) n (Ba (A++(U1++V1)++(U2++(V2++Z))))/\A5 (One g) w w',
  λw'=>∃z,w'.ownsRow 0 90 3 (.slice (some ⟨g,0,none⟩) n cap) n (Ba (A++z++(U2++(V2++Z))))/\z.length=U1.length+V1.length/\B3 (AE len) z/\Bg (AE len) (U1++V1) z/\A5 (One g) w w',
  λO=>⟨?_,hc⟩,λO hy cv=>?_,λw' X O=>?_,λw' X O hy=>?_,λw' X O=>?_,λw' X O hy=>?_⟩
 ·have e:A++(U1++U2)++(V1++V2)++Z=A++(U1++V1)++(U2++(V2++Z)):=by rcases O with rfl|rfl<;>simp
  rwa [e]at h
 ·have e:A++(U1++U2)++(V1++V2)++Z=(A++U1)++U2++V1++(V2++Z):=by simp
  rw[e]at h;have:=Xp wr g cap n (A++U1) U2 V1 (V2++Z) cv O hy (by rw[aB,AX,AX,AX,AX,AX];omega) h;have l1:(A++U1).length=s:=by rw[AX];omega
  rw[l1,em,ee]at this;refine this.mono ?_;rintro x w'⟨rfl,r1,r2⟩;refine⟨rfl,?_,hc.AJ r2 λ_ h _=>h⟩;have e:(A++U1)++V1++U2++(V2++Z)=A++(U1++V1)++(U2++(V2++Z)):=by simp
  rwa [e]at r1
 ·refine⟨U1++V1,X.1,by simp,?_,Bg.C _,X.2⟩;rcases O with rfl|rfl
  ·simpa using v1
  ·simpa using u1
 ·have:=hk w' g cap n wb len A U1 V1 (U2++(V2++Z)) (by omega) O hy (by rw[aB];simp only[AX];omega) (by have:=X.1;rwa [<-C6 A U1 V1]at this) (λp I=>hT p (by simp at I ⊢;rcases I with I|I<;>simp[I])) u1 v1 hl (W w' X.2) aA Y;rw[ea,es,aE]at this;refine this.mono ?_;rintro x H⟨rfl,M,r1,r2,r3,r4,r5⟩;exact⟨rfl,M,r1,r2,r3,r4,X.2.AJ r5 λ_ h _=>h⟩
 ·obtain⟨z,r1,r2,r3,r4,r5⟩:=X;refine aG w' z (U2++V2) ?_ r2 (by simp) r3 ?_ r4 (Bg.C _) r5
  ·(have e:A++(z++(U2++V2))++Z=A++z++(U2++(V2++Z)):=by simp);rw[e];exact r1
  ·rcases O with rfl|rfl
   ·simpa using v2
   ·simpa using u2
 ·obtain⟨z,r1,r2,r3,r4,r5⟩:=X;have lM:(A++z).length=mid:=by rw[AX];omega
  have:=hk w' g cap n wb len (A++z) U2 V2 Z (by omega) O hy (by rw[aB];simp only[AX];omega) (by have e:A++z++U2++V2++Z=A++z++(U2++(V2++Z)):=(by simp);rw[e];exact r1) (λp I=>hT p (by simp at I ⊢;rcases I with I|I<;>simp[I])) u2 v2 hl (W w' r5) aA Y;rw[lM,show mid+U2.length=e by omega,eb]at this;refine this.mono ?_;rintro x H⟨rfl,M,q1,q2,q3,q4,q5⟩;refine⟨rfl,aG H z M ?_ r2 q2 r3 q3 r4 q4 (r5.AJ q5 λ_ h _=>h)⟩;rw[<-C6 A z M];exact q1
end
section
variable{w wr:World}{g cap n k wb a m b mid nn s0 r0 s:Nat}{len:Int}{A U V Z D:List Pu}
def VX(hk:MG k)(aL:U.length+V.length<=k+1)(aP:2<=U.length)(aR:2<=V.length)(hn:n=(A++U++V++Z).length)(hD:D=A++U++V++Z)(h:wr.ownsRow 0 90 3 (.slice (some ⟨g,0,none⟩) n cap) n (Ba D))(aS:A5 (λ_=>False) w wr)(hT:∀p∈U++V,AY p.2.1)(aM:B3 (AE len) U)(aO:B3 (AE len) V)(hl:1<=len/\len<=4611686018427387904)(hw:w.cell? ⟨wb,0,none⟩=some (.int .i64 len))(aN:wb≠g)(aJ:n<=4294967296)(ha:A.length=a)(hm:a+U.length=m)(hb:m+V.length=b)(X:(a+b)/2=mid)(aQ:nn=mid+m)(aI:if mid<m then s0=nn-b/\r0=mid else s0=a/\r0=m)(hs:G5 (AE len) D nn s0 r0 s s):
 ∃(e:Nat) (u1 O W v2:Bool) (aG aF:World->Prop),(wrap64 ((nn:Int)-(s:Int))=(e:Int)/\IntKind.i64.wrap ((nn:Int)-(s:Int))=(e:Int))/\
  (decide (s<m)=O/\decide (m<e)=W/\decide (a<s)=u1/\decide (s<mid)=W/\decide (mid<e)=O/\decide (e<b)=v2)/\((u1=true\/O=true)/\(W=true\/v2=true))/\
  ((O=false\/W=false)->aG wr)/\
  (O=true->W=true->∀cv,Calls Tryz.prog 217 #[.slice (some ⟨g,0,none⟩) n cap,.int .i64 s,.int .i64 m,.int .i64 e,cv] wr λx w'=>x=.returned (.tuple #[])/\aG w')/\
  (∀w',aG w'->(u1=false\/W=false)->aF w')/\
  (∀w',aG w'->u1=true->W=true->Calls Tryz.prog 194 #[.slice (some ⟨g,0,none⟩) n cap,.int .i64 a,.int .i64 s,.int .i64 mid,.func (Fn.func 103) #[] #[.pointer (some ⟨wb,0,none⟩)]] w' λx aB=>x=.returned (.tuple #[])/\aF aB)/\
  (∀w',aF w'->(O=false\/v2=false)->∃M,w'.ownsRow 0 90 3 (.slice (some ⟨g,0,none⟩) n cap) n (Ba (A++M++Z))/\M.length=U.length+V.length/\B3 (AE len) M/\Bg (AE len) (U++V) M/\A5 (One g) w w')/\
  (∀w',aF w'->O=true->v2=true->Calls Tryz.prog 194 #[.slice (some ⟨g,0,none⟩) n cap,.int .i64 mid,.int .i64 e,.int .i64 b,.func (Fn.func 103) #[] #[.pointer (some ⟨wb,0,none⟩)]] w' λx aB=>x=.returned (.tuple #[])/\
   ∃M,aB.ownsRow 0 90 3 (.slice (some ⟨g,0,none⟩) n cap) n (Ba (A++M++Z))/\M.length=U.length+V.length/\B3 (AE len) M/\Bg (AE len) (U++V) M/\A5 (One g) w aB):=by
 have hbn:b<=n:=by rw[hn];simp;omega
 have hs3:=hs.2.2.1;have hg:r0<=nn/\nn<=8589934592/\a<mid/\mid<b:=by split at aI<;>omega
 obtain⟨g3,g5,g6,g7⟩:=hg;have⟨U1,U2,V1,V2,hU,hV,c1,c2,c3,c4,c5⟩:=A1g hD aP aR (by rw[ha,hm,hb,X];exact aQ) (by rw[ha,hm,hb,X];exact aI) hs;rw[ha,hm,hb,X]at c3;rw[ha]at c1;rw[ha,hm]at c2;generalize he:nn-s=e at c2;have lU:U.length=U1.length+U2.length:=by rw[hU,AX]
 have lV:V.length=V1.length+V2.length:=by rw[hV,AX]
 have aK:=@List.length_pos_iff _ U1;have aD:=@List.length_pos_iff _ U2;have aE:=@List.length_pos_iff _ V1;have aH:=@List.length_pos_iff _ V2;have⟨aG,aF,p1,p2,p3,p4,p5,p6⟩:=VY (w:=w) (wr:=wr) (g:=g) (cap:=cap) (n:=n) (wb:=wb) (a:=a) (s:=s) (m:=m) (e:=e) (b:=b) (mid:=mid) (len:=len) (A:=A) (U1:=U1) (U2:=U2) (V1:=V1) (V2:=V2) (Z:=Z) hk (by rw[<-hU,<-hV];exact aL) (by rw[<-hU,<-hV];exact hn)
  (by rw[<-hU,<-hV,<-hD];exact h) (aS.ae λ_ _ h=>h.elim) (by rw[<-hU,<-hV];exact hT) (by rw[<-hU];exact aM) (by rw[<-hV];exact aO) hl hw aN aJ c4 c5 ha c1 (by omega) (by omega) (by omega) (by omega) g6 g7
 rw[<-hU,<-hV]at p5 p6;obtain⟨u1,Y⟩:∃u1,decide (U1≠[])=u1:=⟨_,rfl⟩;obtain⟨O,H⟩:∃O,decide (U2≠[])=O:=⟨_,rfl⟩;obtain⟨W,z⟩:∃W,decide (V1≠[])=W:=⟨_,rfl⟩;obtain⟨v2,aA⟩:∃v2,decide (V2≠[])=v2:=⟨_,rfl⟩;have I:∀ {L:List Pu} {x:Bool},decide (L≠[])=x->(x=true->L≠[])/\(x=false->L=[]):=λh=>by
  subst h;exact⟨λh=>by simpa using h,λh=>by simpa using h⟩
 refine⟨e,u1,O,W,v2,aG,aF,Gq (by omega) (by omega),⟨H ▸ KV.2 (by rw[<-aD];omega),z ▸ KV.2 (by rw[<-aE];omega),Y ▸ KV.2 (by rw[<-aK];omega),z ▸ KV.2 (by rw[<-aE];omega),H ▸ KV.2 (by rw[<-aD];omega),aA ▸ KV.2 (by rw[<-aH];omega)⟩,⟨?_,?_⟩,
  λh=>p1 (h.imp (I H).2 (I z).2),λh h'=>p2 ((I H).1 h) ((I z).1 h'),λw' q h=>p3 w' q (h.imp (I Y).2 (I z).2),λw' q h h'=>p4 w' q ((I Y).1 h) ((I z).1 h'),λw' q h=>p5 w' q (h.imp (I H).2 (I aA).2),λw' q h h'=>p6 w' q ((I H).1 h) ((I aA).1 h')⟩
 ·rw[<-Y,<-H];simp only[DT,<-aK,<-aD];omega
 ·rw[<-z,<-aA];simp only[DT,<-aE,<-aH];omega
end
section
variable{w w':World}{g cap n:Nat}
def W6{k:Nat}(hk:MG k)(w:World)(g cap n wb:Nat)(len:Int)(A U V Z:List Pu)(a0:U.length+V.length<=k+1)(hU:2<=U.length)(hV:2<=V.length)(hn:n=(A++U++V++Z).length)(h:w.ownsRow 0 90 3 (AN g n cap) n (Ba (A++U++V++Z)))(hT:∀p∈U++V,AY p.2.1)(aS:B3 (AE len) U)(a4:B3 (AE len) V)(hl:1<=len/\len<=4611686018427387904)(hw:Aa w wb 0 (A0 len))(aW:wb≠g)(O:n<=4294967296):
 Aj 194 #[AN g n cap,A0 A.length,A0 ((A.length+U.length:Nat):Int),A0 ((A.length+U.length+V.length:Nat):Int),.func (Fn.func 103) #[] #[A7 wb]] w (Au (.tuple #[]) λw'=>
  ∃M,w'.ownsRow 0 90 3 (AN g n cap) n (Ba (A++M++Z))/\M.length=U.length+V.length/\B3 (AE len) M/\Bg (AE len) (U++V) M/\A5 (One g) w w'):=by
 obtain⟨D,hD⟩:∃D,D=A++U++V++Z:=⟨_,rfl⟩;obtain⟨a,ha⟩:∃a,A.length=a:=⟨_,rfl⟩;obtain⟨m,hm⟩:∃m,a+U.length=m:=⟨_,rfl⟩;obtain⟨b,hb⟩:∃b,m+V.length=b:=⟨_,rfl⟩;obtain⟨mid,I⟩:∃mid,(a+b)/2=mid:=⟨_,rfl⟩;obtain⟨nn,aH⟩:∃nn,nn=mid+m:=⟨_,rfl⟩;obtain⟨s0,r0,H⟩:∃s0 r0,if mid<m then s0=nn-b/\r0=mid else s0=a/\r0=m:=by
  split
  ·exact⟨_,_,rfl,rfl⟩
  ·exact⟨_,_,rfl,rfl⟩
 have aP:b<=n:=by rw[hn];simp;omega
 have bA:s0<r0/\r0<b/\r0<=nn/\nn<=s0+b/\nn<=8589934592/\a<mid/\mid<b/\a<=s0/\a+r0<=nn:=by split at H<;>omega
 obtain⟨g1,g2,g3,g4,g5,g6,g7,g8,g9⟩:=bA;have aE:Hid (∀s r,s0<=s->s<r->r<=r0->_):=λs r q1 q2 q3=>VZ (a:=a) (nn:=nn) O aP q1 q2 q3 g2 g3 g4 g5 g8 g9;rw[<-hD]at h;have aB:Hid (∀wr s,A5 Ab w wr->G5 (AE len) D nn s0 r0 s s->_):=λwr s q1 q2=>VX hk a0 hU hV hn hD (AA h λg' hg=>q1.Ao g' (AG h hg) (λh=>h)) q1 hT aS a4 hl hw aW O ha hm hb I aH H q2;have a6:Hid (∀z,A5 Ab w z->∀q (hq:q<n) x,D[q]?=some x->Aa z g (q*3) (A0 x.1)/\Aa z g (q*3+1) (A0 x.2.1)/\Aa z g (q*3+2) (A0 x.2.2)):=λz hx q hq x bJ=>by
  have⟨e1,e2⟩:=Hs.1 bJ;have⟨y1,y2,y3⟩:=AZ.bu h q e1 x e2;exact⟨hx.an y1,hx.an y2,hx.an y3⟩
 have aG:Hid (∀q,a<=q->q<b->∃x,D[q]?=some x/\AY x.2.1):=λq hq1 hq2=>by
  obtain⟨j,rfl⟩:∃j,q=A.length+j:=⟨q-A.length,by omega⟩;have hj:j<(U++V).length:=by simp;omega
  have e:D[A.length+j]?=some ((U++V)[j]'hj):=by
   rw[hD,C6 A U V,Iw (by simp at hj ⊢;omega),Ht (by omega)];simp only[A2N];exact Ef hj
  exact⟨_,e,hT _ (BS hj)⟩
 obtain⟨lu,aL⟩:∃lu,U.length=lu:=⟨_,rfl⟩;obtain⟨lv,aQ⟩:∃lv,V.length=lv:=⟨_,rfl⟩;obtain⟨ab,aN⟩:∃ab,a+b=ab:=⟨_,rfl⟩;obtain⟨p,hp⟩:∃p,nn-1=p:=⟨_,rfl⟩;have⟨⟨w1,w1'⟩,⟨w2,w2'⟩,f1,f2,⟨w3,w3'⟩,w4,⟨w5,w5'⟩,⟨w6,w6'⟩,⟨w7,w7'⟩⟩:=W0 (lu:=lu) (lv:=lv) O aP (by rw[<-aL];exact hm) (by rw[<-aQ];exact hb) aN (by rw[<-aN];exact I) aH hp (by rw[<-aL];exact hU) (by rw[<-aQ];exact hV);have bM:=Mj (Hn.1 f1);have bF:=Mj (Hn.1 f2);rw[hp]at aE;have X:Hid (if mid<m then (wrap64 ((nn:Int)-(b:Int))=(s0:Int)/\IntKind.i64.wrap ((nn:Int)-(b:Int))=(s0:Int))/\r0=mid else s0=a/\r0=m):=by
  unfold Hid;split at H
  ·rename_i aD;rw[Ah aD];have⟨q1,q2⟩:=W2 I aH aD H.1 g5;exact⟨Gq q1 q2,H.2⟩
  ·rename_i aD;rw[Ae aD];exact H
 have aT:n<=cap/\cap<=9223372036854775807:=by
  have⟨a',c',e,h1,h2,_⟩:=Bb h;cases e;unfold maxLen at h2;omega
 obtain⟨hc1,hc2⟩:=aT;have bT:=A4 hw;have a1:=A4 hl;have bX:=A4 hp;have a3:=A4 <| ES g1;rw[ha,hm,hb];clear h hT hw hl aW hk O hn ha hm hb I aH H g1 g2 g3 g4 g5 g6 g7 g8 g9 aN aL aQ a0 hU hV aS a4 hD aP hp;by_cases aF:mid<m
 all_goals
  have a5:=X.o
  first
   | rw[Ah aF]at a5
   | rw[Ae aF]at a5
 focus
  obtain⟨⟨x1,x2⟩,hr⟩:=a5;have bK:=A4 hr;have bE:Hid (∀_:Nat,s0=s0):=λ_=>rfl;have bG:=EW.2 aF;clear hr
 rotate_left
 focus
  obtain⟨hs,hr⟩:=a5;have bK:=A4 hr;have bE:Hid (∀_:Nat,s0=a):=λ_=>hs;have bG:=Mj (by omega);clear hr hs
 all_goals
  clear X aF
  go_enter func194,ntmps194
  go_wp2;go_loopw [20,21] (λiv jv wr=>∃(s r:Nat),iv=A0 (s:Int)/\jv=A0 (r:Int)/\Hid (G5 (AE len) D nn s0 r0 s r/\A5 Ab w wr)) (λiv jv _=>(intOf jv).toNat-(intOf iv).toNat)
  case atStart=>exact⟨s0,r0,by first|go_num|rw[bE.o 0],by rw[bK.o],G5.fc D nn a3.o,A5.C _ _⟩
  case round=>
   obtain⟨s,r,rfl,rfl,hI⟩:=hrel;have⟨i1,i2⟩:=hI.o;by_cases aA:s<r
   ·have⟨n1,n2,n3,n4,n5,n6,n7,n8,n9,n10,l1,l2,l3,l4⟩:=aE.o s r i1.1 aA i1.2.2.1;generalize hc:(s+r)/2=c at n3 n4 n5 n6 n7 n8 n9 n10 l1 l2 l3 l4;generalize hd:p-c=d at n7 n8 n9 l3 l4;generalize aU:s+r=sr at n1 n2 n3;have hp:=bX.o;have⟨x,hx,hxT⟩:=aG.o c l1 l2;have⟨y,hy,hyT⟩:=aG.o d l3 l4;(have aO:D[nn-1-c]?=some y:=by rw[hp,hd];exact hy);have bD:Hid (∀z,A5 Ab wr z->(Aa z g (d*3) (A0 y.1)/\Aa z g (d*3+1) (A0 y.2.1)/\Aa z g (d*3+2) (A0 y.2.2))/\Aa z g (c*3) (A0 x.1)/\Aa z g (c*3+1) (A0 x.2.1)/\Aa z g (c*3+2) (A0 x.2.2)):=λz aK=>by
     have aZ:=i2.tr aK;exact⟨a6.o z aZ d n7 y hy,a6.o z aZ c n6 x hx⟩
    have a2:=A4 (λz aK=>Ms z wb len y x hyT hxT a1.o aK);have aI:=Mr (len:=len) (p:=y) (q:=x);generalize bI:GP len y x=cc at a2 aI;have aJ:=i2.an bT.o
    have bY:Hid (¬cc<0->G5 (AE len) D nn s0 r0 (c+1) r):=λhc=>i1.up ⟨n4,n5⟩ hx aO (by
     cases hk:AE len y x with
     | false=>rfl
     | true=>exact absurd (aI.2 hk) hc)
    have bL:Hid (cc<0->G5 (AE len) D nn s0 r0 s c):=λhc=>i1.eF ⟨n4,n5⟩ hx aO (aI.1 hc);have DI:=EW.2 n7;have CI:=EW.2 n6;have D0:=Cd d;have C0:=Cd c;have tD:=EA d;have tC:=EA c;have hsrI:=EW.2 aA;obtain⟨xa,xb,xc⟩:=x;obtain⟨ya,yb,yc⟩:=y;unfold DB at a2;dsimp only at a2 bD;have bP:=bD.o wr.drew (A5.C _ wr).ad;have aR:=A4 (a2.o wr.drew aJ);have Y:=A4 (And.intro i2 (And.intro n4 n5));clear hI i1 i2 n4 n5 n6 n7 hc hd aU hx hy aO hxT hyT bI a2 aJ aA aE a6 aG aI hp aB l1 l2 l3 l4;rcases PE (cc<0) with W|W
    focus
     have aM:=Int.not_le.2 W;have a9:=CJ W
    rotate_left
    focus
     have aM:=Pz.1 W;have a9:=Dw W
    all_goals
     go_wp2;clear n1 n2 n3;refine Ce (λw'=>(Aa w' g (d*3) (A0 ya)/\Aa w' g (d*3+1) (A0 yb)/\Aa w' g (d*3+2) (A0 yc))/\Aa w' g (c*3) (A0 xa)/\Aa w' g (c*3+1) (A0 xb)/\Aa w' g (c*3+2) (A0 xc)) 12
      (BD [0,1,2,3,4,5,6,7,8,9,10,11] [11]) bP ?_
     iterate 11 refine Bq ?_
     refine By λK hK=>?_;go_simp;refine aR.m ?_;rintro e w6⟨rfl,aY⟩;have k6:=((A5.C Ab wr).ad).tr aY;refine hK _ _ (bD.o w6 k6) (λhS=>?_);have bU:=A4 k6;clear hK K hS aY k6 bP aR;refine Cc ?_;go_wp2;go_roundw
     case rel=>
      have⟨f1,f2,f3⟩:=Y.o
      first
       | exact⟨c+1,r,rfl,rfl,bY.o (by first|exact aM|exact Pz.2 aM),f1.tr bU.o⟩
       | exact⟨s,c,rfl,rfl,bL.o W,f1.tr bU.o⟩
     case measure=>
      have⟨f1,f2,f3⟩:=Y.o
      first
       | exact O3 f2 f3
       | exact O4 f2 f3
   ·obtain rfl:s=r:=K1 i1.2.1 (Iu aA);have⟨e,u1,u2,v1,v2,R1,R2,⟨y1,y2⟩,⟨D1,D2,D3,D4,D5,D6⟩,⟨ou,ov⟩,p1,p2,p3,p4,p5,p6⟩:=aB.o wr s i2 i1;have bC:=A4 p1;have bS:=A4 p2;have bB:=A4 p3;have bQ:=A4 p4;have bH:=A4 p5;have bV:=A4 p6;have bR:=A4 ou;have bO:=A4 ov;have hno:¬((s:Int)<(s:Int)):=Lo _;clear hI i1 i2 aA aE a6 aG aB p1 p2 p3 p4 p5 p6 ou ov a1 bT bK bE bX a3 w1 w1' w2 w2' f1 bM f2 bF w3 w3' w4 w5 w5' w6 w6' w7 w7';cases u1<;>cases u2<;>cases v1<;>cases v2
    all_goals first
     | (exfalso;have:=bR.o;revert this;decide)
     | (exfalso;have:=bO.o;revert this;decide)
     | skip
    all_goals
     simp only[DT,A09]at D1 D2 D3 D4 D5 D6
    all_goals first
     | have bW:=A4 (bS.o rfl rfl (.func (Fn.func 103) #[] #[A7 wb]))
     | have a7:=A4 (bC.o (.inl rfl))
     | have a7:=A4 (bC.o (.inr rfl))
    all_goals first
     | have aV:=A4 (λw' q=>bQ.o w' q rfl rfl)
     | have aV:=A4 (λw' q=>bB.o w' q (.inl rfl))
     | have aV:=A4 (λw' q=>bB.o w' q (.inr rfl))
    all_goals first
     | have aX:=A4 (λw' q=>bV.o w' q rfl rfl)
     | have aX:=A4 (λw' q=>bH.o w' q (.inl rfl))
     | have aX:=A4 (λw' q=>bH.o w' q (.inr rfl))
    all_goals clear bC bS bB bQ bH bV bR bO
    all_goals go_wp2_with (fail)
    all_goals try
     (go_at_call 217;refine bW.m ?_;rintro x w4⟨rfl,hR⟩;have a7:=A4 hR;clear hR bW;go_wp2_with (fail))
    all_goals first
     | (go_at_call 194;refine(aV.o _ a7.o).mono ?_;rintro x w5⟨rfl,hR⟩;have bN:=A4 hR;clear hR aV;go_wp2_with (fail))
     | have bN:=A4 (aV.o _ a7.o)
    all_goals first
     | (go_at_call 194;refine(aX.o _ bN.o).mono ?_;rintro x w6⟨rfl,hR⟩;have a8:=A4 hR;clear hR aX;go_wp2_with (fail))
     | have a8:=A4 (aX.o _ bN.o)
    all_goals go_end0
    all_goals first
     | exact⟨rfl,a8.o⟩
     | exact⟨rfl,by simpa only[C6] using a8.o⟩
end
def Qo:∀k,MG k
 | 0=>λw g cap n wb len A U V Z hk hu hv=>by
  have:=Ja.2 hu;omega
 | k+1=>λw g cap n wb len A U V Z hk hu hv X h Y I W hl hw H z=>by
  have lu:=Ja.2 hu;have lv:=Ja.2 hv;by_cases h1:U.length=1
  ·obtain⟨x,rfl⟩:=V8.1 h1;(have e:A++[x]++V++Z=A++x::(V++Z):=by simp);rw[e]at X h;have:=W5 w g cap n wb len A V Z x hv X h (by simpa using Y) W hl hw H z;simp only[Pk]at this ⊢;refine this.mono ?_;rintro x' w'⟨rfl,M,q1,q2,q3,q4,q5⟩;exact⟨rfl,M,q1,by rw[q2];omega,q3,by simpa using q4,q5⟩
  ·by_cases h2:V.length=1
   ·obtain⟨x,rfl⟩:=V8.1 h2;(have e:A++U++[x]++Z=A++(U++x::Z):=by simp);rw[e]at X h;have:=W8 w g cap n wb len A U Z x (by omega) X h (λp O=>Y p (by simp at O ⊢;rcases O with O|O<;>simp[O])) I hl hw H z;simp only[Pk]at this ⊢;exact this
   ·exact W6 (Qo k) w g cap n wb len A U V Z hk (by omega) (by omega) X h Y I W hl hw H z
end
end Go.Proofs.YtodcnkbblippnabGreatDoor
