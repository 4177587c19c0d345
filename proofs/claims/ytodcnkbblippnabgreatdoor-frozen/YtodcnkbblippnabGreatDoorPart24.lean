/- Part 24 of a proof: walks of the program. -/
import Derived.Test.YtodcnkbblippnabGreatDoorPart23
namespace Go.Proofs.YtodcnkbblippnabGreatDoor
set_option maxRecDepth 100000
set_option maxHeartbeats 32000000
set_option linter.defProp false
open Go.Proofs.Tryz
section
open Go.RowKit
attribute [local go_sem ↓] CE
def Mp(k:Nat):Prop:=∀(w:World) (g cap n wb:Nat) (len:Int) (A U V Z:List Pu),U.length+V.length<=k->U≠[]->V≠[]->n=(A++U++V++Z).length->w.ownsRow 0 90 3 (.slice (some ⟨g,0,none⟩) n cap) n (Ba (A++U++V++Z))->
 (∀p∈U++V,AW p.2.1)->B1 (AA len) U->B1 (AA len) V->(1<=len/\len<=4611686018427387904)->w.cell? ⟨wb,0,none⟩=some (.int .i64 len)->wb≠g->n<=4294967296->
 Calls Tryz.prog 194 #[.slice (some ⟨g,0,none⟩) n cap,.int .i64 A.length,.int .i64 ((A.length+U.length:Nat):Int),.int .i64 ((A.length+U.length+V.length:Nat):Int),.func (Fn.func 103) #[] #[.pointer (some ⟨wb,0,none⟩)]] w λe w'=>e=.returned (.tuple #[])/\
  ∃M,w'.ownsRow 0 90 3 (.slice (some ⟨g,0,none⟩) n cap) n (Ba (A++M++Z))/\M.length=U.length+V.length/\B1 (AA len) M/\Bf (AA len) (U++V) M/\A3 (One g) w w'
def VT{a b n nn s0 r0 s r:Nat}(hn:n<=4294967296)(hb:b<=n)(h1:s0<=s)(h2:s<r)(h3:r<=r0)(h4:r0<b)(h5:r0<=nn)(h6:nn<=s0+b)(h7:nn<=8589934592)(h8:a<=s0)(h9:a+r0<=nn):
 wrap64 ((s:Int)+(r:Int))=((s+r:Nat):Int)/\IntKind.u64.wrap ((s+r:Nat):Int)=((s+r:Nat):Int)/\wrap64 (((s+r:Nat):Int)/2)=(((s+r)/2:Nat):Int)/\s<=(s+r)/2/\(s+r)/2<r/\(s+r)/2<n/\nn-1-(s+r)/2<n/\
 wrap64 (((nn-1:Nat):Int)-(((s+r)/2:Nat):Int))=((nn-1-(s+r)/2:Nat):Int)/\IntKind.i64.wrap (((nn-1:Nat):Int)-(((s+r)/2:Nat):Int))=((nn-1-(s+r)/2:Nat):Int)/\wrap64 ((((s+r)/2:Nat):Int)+1)=(((s+r)/2+1:Nat):Int)/\(a<=(s+r)/2/\(s+r)/2<b/\a<=nn-1-(s+r)/2/\nn-1-(s+r)/2<b):=by
 refine⟨by unfold wrap64;omega,?_,by unfold wrap64;omega,by omega,by omega,by omega,by omega,by unfold wrap64;omega,?_,by unfold wrap64;omega,by omega,by omega,by omega,by omega⟩
 ·simp[IntKind.wrap,IntKind.bits,IntKind.signed];omega
 ·simp[IntKind.wrap,IntKind.bits,IntKind.signed];omega
def Gk{x:Int}{k:Nat}(h:x=(k:Int))(hk:k<=9223372036854775807):wrap64 x=(k:Int)/\IntKind.i64.wrap x=(k:Int):=by
 subst h;refine⟨by unfold wrap64;omega,?_⟩;simp[IntKind.wrap,IntKind.bits,IntKind.signed];omega
def VV{a b m mid nn s0:Nat}(hmid:(a+b)/2=mid)(hnn:nn=mid+m)(h:mid<m)(hs:s0=nn-b)(h5:nn<=8589934592):(nn:Int)-(b:Int)=(s0:Int)/\s0<=9223372036854775807:=by omega
def VU{a m b lu lv ab mid nn p n:Nat}(hbig:n<=4294967296)(hbn:b<=n)(hm:a+lu=m)(hb:m+lv=b)(hab:a+b=ab)(hmid:ab/2=mid)(hnn:nn=mid+m)(hp:nn-1=p)(h1:2<=lu)(h2:2<=lv):
 (wrap64 ((m:Int)-(a:Int))=(lu:Int)/\IntKind.i64.wrap ((m:Int)-(a:Int))=(lu:Int))/\(wrap64 ((b:Int)-(m:Int))=(lv:Int)/\IntKind.i64.wrap ((b:Int)-(m:Int))=(lv:Int))/\((lu:Int)==1)=false/\((lv:Int)==1)=false/\
 (wrap64 ((a:Int)+(b:Int))=(ab:Int)/\IntKind.i64.wrap ((a:Int)+(b:Int))=(ab:Int))/\IntKind.u64.wrap (ab:Int)=(ab:Int)/\(wrap64 ((ab:Int)/2)=(mid:Int)/\IntKind.i64.wrap ((ab:Int)/2)=(mid:Int))/\
 (wrap64 ((mid:Int)+(m:Int))=(nn:Int)/\IntKind.i64.wrap ((mid:Int)+(m:Int))=(nn:Int))/\(wrap64 ((nn:Int)-1)=(p:Int)/\IntKind.i64.wrap ((nn:Int)-1)=(p:Int)):=by
 refine⟨Gk (by omega) (by omega),Gk (by omega) (by omega),by rw[Hc];omega,by rw[Hc];omega,Gk (by omega) (by omega),?_,Gk (by omega) (by omega),Gk (by omega) (by omega),Gk (by omega) (by omega)⟩;simp[IntKind.wrap,IntKind.bits,IntKind.signed];omega
section
variable {w w' wr:World} {g cap n k wb a s m e b mid:Nat} {len:Int} {A U1 U2 V1 V2 Z:List Pu}
def VS(hk:Mp k)(aJ:(U1++U2).length+(V1++V2).length<=k+1)(hn:n=(A++(U1++U2)++(V1++V2)++Z).length)(h:wr.ownsRow 0 90 3 (.slice (some ⟨g,0,none⟩) n cap) n (Ba (A++(U1++U2)++(V1++V2)++Z)))(hc:A3 (One g) w wr)(hT:∀p∈(U1++U2)++(V1++V2),AW p.2.1)(aE:B1 (AA len) (U1++U2))(aG:B1 (AA len) (V1++V2))(hl:1<=len/\len<=4611686018427387904)(hw:w.cell? ⟨wb,0,none⟩=some (.int .i64 len))(Y:wb≠g)(O:n<=4294967296)(h1:∀x y,U1.getLast?=some x->V2.head?=some y->AA len y x=false)(h2:∀x y,V1.getLast?=some y->U2.head?=some x->AA len y x=true)(ea:A.length=a)(es:a+U1.length=s)(em:s+U2.length=m)(ee:m+V1.length=e)(eb:e+V2.length=b)(aD:s+V1.length=mid)(lm1:a<mid)(lm2:mid<b):
 ∃aI aH:World->Prop,((U2=[]\/V1=[])->aI wr)/\
  (U2≠[]->V1≠[]->∀cv,Calls Tryz.prog 217 #[.slice (some ⟨g,0,none⟩) n cap,.int .i64 s,.int .i64 m,.int .i64 e,cv] wr λx w'=>x=.returned (.tuple #[])/\aI w')/\
  (∀w',aI w'->(U1=[]\/V1=[])->aH w')/\
  (∀w',aI w'->U1≠[]->V1≠[]->Calls Tryz.prog 194 #[.slice (some ⟨g,0,none⟩) n cap,.int .i64 a,.int .i64 s,.int .i64 mid,.func (Fn.func 103) #[] #[.pointer (some ⟨wb,0,none⟩)]] w' λx z=>x=.returned (.tuple #[])/\aH z)/\
  (∀w',aH w'->(U2=[]\/V2=[])->∃M,w'.ownsRow 0 90 3 (.slice (some ⟨g,0,none⟩) n cap) n (Ba (A++M++Z))/\M.length=(U1++U2).length+(V1++V2).length/\B1 (AA len) M/\Bf (AA len) ((U1++U2)++(V1++V2)) M/\A3 (One g) w w')/\
  (∀w',aH w'->U2≠[]->V2≠[]->Calls Tryz.prog 194 #[.slice (some ⟨g,0,none⟩) n cap,.int .i64 mid,.int .i64 e,.int .i64 b,.func (Fn.func 103) #[] #[.pointer (some ⟨wb,0,none⟩)]] w' λx z=>x=.returned (.tuple #[])/\
   ∃M,z.ownsRow 0 90 3 (.slice (some ⟨g,0,none⟩) n cap) n (Ba (A++M++Z))/\M.length=(U1++U2).length+(V1++V2).length/\B1 (AA len) M/\Bf (AA len) ((U1++U2)++(V1++V2)) M/\A3 (One g) w z):=by
 have KW:=Fb len;obtain⟨u1,u2,-⟩:=B1.an aE;obtain⟨v1,v2,-⟩:=B1.an aG;have aA:n=A.length+U1.length+U2.length+V1.length+V2.length+Z.length:=by rw[hn];simp;omega
 have I:∀w',A3 (One g) w w'->w'.cell? ⟨wb,0,none⟩=some (.int .i64 len):=λw' aK=>aK.bG hw λe=>Y e;have hUV':U1.length+U2.length+(V1.length+V2.length)<=k+1:=by simpa using aJ
 have aF:∀(w':World) (d aB:List Pu),w'.ownsRow 0 90 3 (.slice (some ⟨g,0,none⟩) n cap) n (Ba (A++(d++aB)++Z))->d.length=U1.length+V1.length->aB.length=U2.length+V2.length->B1 (AA len) d->B1 (AA len) aB->Bf (AA len) (U1++V1) d->Bf (AA len) (U2++V2) aB->A3 (One g) w w'->
  ∃M,w'.ownsRow 0 90 3 (.slice (some ⟨g,0,none⟩) n cap) n (Ba (A++M++Z))/\M.length=(U1++U2).length+(V1++V2).length/\B1 (AA len) M/\Bf (AA len) ((U1++U2)++(V1++V2)) M/\A3 (One g) w w':=λw' d aB q0 q1 q2 q3 q4 q5 q6 q7=>by
  obtain⟨j1,j2⟩:=KW.eV aE aG (KW.cF u1 v2 h1) (KW.dr v1 u2 h2) q3 q4 q5 q6;exact⟨d++aB,q0,by simp;omega,j1,j2,q7⟩
 refine⟨λw'=>w'.ownsRow 0 90 3 (.slice (some ⟨g,0,none⟩) n cap) n (Ba (A++(U1++V1)++(U2++(V2++Z))))/\A3 (One g) w w',
  λw'=>∃d,w'.ownsRow 0 90 3 (.slice (some ⟨g,0,none⟩) n cap) n (Ba (A++d++(U2++(V2++Z))))/\d.length=U1.length+V1.length/\B1 (AA len) d/\Bf (AA len) (U1++V1) d/\A3 (One g) w w',
  λH=>⟨?_,hc⟩,λH hy cv=>?_,λw' L H=>?_,λw' L H hy=>?_,λw' L H=>?_,λw' L H hy=>?_⟩
 ·have e:A++(U1++U2)++(V1++V2)++Z=A++(U1++V1)++(U2++(V2++Z)):=by rcases H with rfl|rfl<;>simp
  rwa [e]at h
 ·have e:A++(U1++U2)++(V1++V2)++Z=(A++U1)++U2++V1++(V2++Z):=by simp
  rw[e]at h;have:=WU wr g cap n (A++U1) U2 V1 (V2++Z) cv H hy (by rw[aA,AZ,AZ,AZ,AZ,AZ];omega) h;have l1:(A++U1).length=s:=by rw[AZ];omega
  rw[l1,em,ee]at this;refine this.mono ?_;rintro x w'⟨rfl,W,r2⟩;refine⟨rfl,?_,hc.Av r2 λ_ h _=>h⟩;have e:(A++U1)++V1++U2++(V2++Z)=A++(U1++V1)++(U2++(V2++Z)):=by simp
  rwa [e]at W
 ·refine⟨U1++V1,L.1,by simp,?_,Bf.I _,L.2⟩;rcases H with rfl|rfl
  ·simpa using v1
  ·simpa using u1
 ·have:=hk w' g cap n wb len A U1 V1 (U2++(V2++Z)) (by omega) H hy (by rw[aA];simp only[AZ];omega) (by have:=L.1;rwa [<-Cc A U1 V1]at this) (λp E=>hT p (by simp at E ⊢;rcases E with E|E<;>simp[E])) u1 v1 hl (I w' L.2) Y O;rw[ea,es,aD]at this;refine this.mono ?_;rintro x z⟨rfl,M,W,r2,r3,r4,r5⟩;exact⟨rfl,M,W,r2,r3,r4,L.2.Av r5 λ_ h _=>h⟩
 ·obtain⟨d,W,r2,r3,r4,r5⟩:=L;refine aF w' d (U2++V2) ?_ r2 (by simp) r3 ?_ r4 (Bf.I _) r5
  ·(have e:A++(d++(U2++V2))++Z=A++d++(U2++(V2++Z)):=by simp);rw[e];exact W
  ·rcases H with rfl|rfl
   ·simpa using v2
   ·simpa using u2
 ·obtain⟨d,W,r2,r3,r4,r5⟩:=L;have lM:(A++d).length=mid:=by rw[AZ];omega
  have:=hk w' g cap n wb len (A++d) U2 V2 Z (by omega) H hy (by rw[aA];simp only[AZ];omega) (by have e:A++d++U2++V2++Z=A++d++(U2++(V2++Z)):=(by simp);rw[e];exact W) (λp E=>hT p (by simp at E ⊢;rcases E with E|E<;>simp[E])) u2 v2 hl (I w' r5) Y O;rw[lM,show mid+U2.length=e by omega,eb]at this;refine this.mono ?_;rintro x z⟨rfl,M,q1,q2,q3,q4,q5⟩;refine⟨rfl,aF z d M ?_ r2 q2 r3 q3 r4 q4 (r5.Av q5 λ_ h _=>h)⟩;rw[<-Cc A d M];exact q1
end
section
variable {w wr:World} {g cap n k wb a m b mid nn s0 r0 s:Nat} {len:Int} {A U V Z D:List Pu}
def VR(hk:Mp k)(aK:U.length+V.length<=k+1)(aO:2<=U.length)(aQ:2<=V.length)(hn:n=(A++U++V++Z).length)(hD:D=A++U++V++Z)(h:wr.ownsRow 0 90 3 (.slice (some ⟨g,0,none⟩) n cap) n (Ba D))(aR:A3 (λ_=>False) w wr)(hT:∀p∈U++V,AW p.2.1)(aL:B1 (AA len) U)(aN:B1 (AA len) V)(hl:1<=len/\len<=4611686018427387904)(hw:w.cell? ⟨wb,0,none⟩=some (.int .i64 len))(aM:wb≠g)(aI:n<=4294967296)(ha:A.length=a)(hm:a+U.length=m)(hb:m+V.length=b)(O:(a+b)/2=mid)(aP:nn=mid+m)(aH:if mid<m then s0=nn-b/\r0=mid else s0=a/\r0=m)(hs:FU (AA len) D nn s0 r0 s s):
 ∃(e:Nat) (u1 H I v2:Bool) (aF aE:World->Prop),(wrap64 ((nn:Int)-(s:Int))=(e:Int)/\IntKind.i64.wrap ((nn:Int)-(s:Int))=(e:Int))/\
  (decide (s<m)=H/\decide (m<e)=I/\decide (a<s)=u1/\decide (s<mid)=I/\decide (mid<e)=H/\decide (e<b)=v2)/\((u1=true\/H=true)/\(I=true\/v2=true))/\
  ((H=false\/I=false)->aF wr)/\
  (H=true->I=true->∀cv,Calls Tryz.prog 217 #[.slice (some ⟨g,0,none⟩) n cap,.int .i64 s,.int .i64 m,.int .i64 e,cv] wr λx w'=>x=.returned (.tuple #[])/\aF w')/\
  (∀w',aF w'->(u1=false\/I=false)->aE w')/\
  (∀w',aF w'->u1=true->I=true->Calls Tryz.prog 194 #[.slice (some ⟨g,0,none⟩) n cap,.int .i64 a,.int .i64 s,.int .i64 mid,.func (Fn.func 103) #[] #[.pointer (some ⟨wb,0,none⟩)]] w' λx aA=>x=.returned (.tuple #[])/\aE aA)/\
  (∀w',aE w'->(H=false\/v2=false)->∃M,w'.ownsRow 0 90 3 (.slice (some ⟨g,0,none⟩) n cap) n (Ba (A++M++Z))/\M.length=U.length+V.length/\B1 (AA len) M/\Bf (AA len) (U++V) M/\A3 (One g) w w')/\
  (∀w',aE w'->H=true->v2=true->Calls Tryz.prog 194 #[.slice (some ⟨g,0,none⟩) n cap,.int .i64 mid,.int .i64 e,.int .i64 b,.func (Fn.func 103) #[] #[.pointer (some ⟨wb,0,none⟩)]] w' λx aA=>x=.returned (.tuple #[])/\
   ∃M,aA.ownsRow 0 90 3 (.slice (some ⟨g,0,none⟩) n cap) n (Ba (A++M++Z))/\M.length=U.length+V.length/\B1 (AA len) M/\Bf (AA len) (U++V) M/\A3 (One g) w aA):=by
 have hbn:b<=n:=by rw[hn];simp;omega
 have hs3:=hs.2.2.1;have hg:r0<=nn/\nn<=8589934592/\a<mid/\mid<b:=by split at aH<;>omega
 obtain⟨g3,g5,g6,g7⟩:=hg;obtain⟨U1,U2,V1,V2,hU,hV,c1,c2,c3,c4,c5⟩:=A01 hD aO aQ (by rw[ha,hm,hb,O];exact aP) (by rw[ha,hm,hb,O];exact aH) hs;rw[ha,hm,hb,O]at c3;rw[ha]at c1;rw[ha,hm]at c2;generalize he:nn-s=e at c2;have lU:U.length=U1.length+U2.length:=by rw[hU,AZ]
 have lV:V.length=V1.length+V2.length:=by rw[hV,AZ]
 have aJ:=@List.length_pos_iff _ U1;have aB:=@List.length_pos_iff _ U2;have aD:=@List.length_pos_iff _ V1;have aG:=@List.length_pos_iff _ V2;obtain⟨aF,aE,p1,p2,p3,p4,p5,p6⟩:=VS (w:=w) (wr:=wr) (g:=g) (cap:=cap) (n:=n) (wb:=wb) (a:=a) (s:=s) (m:=m) (e:=e) (b:=b) (mid:=mid) (len:=len) (A:=A) (U1:=U1) (U2:=U2) (V1:=V1) (V2:=V2) (Z:=Z) hk (by rw[<-hU,<-hV];exact aK) (by rw[<-hU,<-hV];exact hn)
  (by rw[<-hU,<-hV,<-hD];exact h) (aR.ad λ_ _ h=>h.elim) (by rw[<-hU,<-hV];exact hT) (by rw[<-hU];exact aL) (by rw[<-hV];exact aN) hl hw aM aI c4 c5 ha c1 (by omega) (by omega) (by omega) (by omega) g6 g7
 rw[<-hU,<-hV]at p5 p6;obtain⟨u1,W⟩:∃u1,decide (U1≠[])=u1:=⟨_,rfl⟩;obtain⟨H,z⟩:∃H,decide (U2≠[])=H:=⟨_,rfl⟩;obtain⟨I,d⟩:∃I,decide (V1≠[])=I:=⟨_,rfl⟩;obtain⟨v2,Y⟩:∃v2,decide (V2≠[])=v2:=⟨_,rfl⟩;have E:∀ {L:List Pu} {x:Bool},decide (L≠[])=x->(x=true->L≠[])/\(x=false->L=[]):=λh=>by
  subst h;exact⟨λh=>by simpa using h,λh=>by simpa using h⟩
 refine⟨e,u1,H,I,v2,aF,aE,Gk (by omega) (by omega),⟨z ▸ KI.2 (by rw[<-aB];omega),d ▸ KI.2 (by rw[<-aD];omega),W ▸ KI.2 (by rw[<-aJ];omega),d ▸ KI.2 (by rw[<-aD];omega),z ▸ KI.2 (by rw[<-aB];omega),Y ▸ KI.2 (by rw[<-aG];omega)⟩,⟨?_,?_⟩,
  λh=>p1 (h.imp (E z).2 (E d).2),λh h'=>p2 ((E z).1 h) ((E d).1 h'),λw' q h=>p3 w' q (h.imp (E W).2 (E d).2),λw' q h h'=>p4 w' q ((E W).1 h) ((E d).1 h'),λw' q h=>p5 w' q (h.imp (E z).2 (E Y).2),λw' q h h'=>p6 w' q ((E z).1 h) ((E Y).1 h')⟩
 ·rw[<-W,<-z];simp only[DG,<-aJ,<-aB];omega
 ·rw[<-d,<-Y];simp only[DG,<-aD,<-aG];omega
end
section
variable {w w':World} {g cap n:Nat}
def VX{k:Nat}(hk:Mp k)(w:World)(g cap n wb:Nat)(len:Int)(A U V Z:List Pu)(a1:U.length+V.length<=k+1)(hU:2<=U.length)(hV:2<=V.length)(hn:n=(A++U++V++Z).length)(h:w.ownsRow 0 90 3 (AJ g n cap) n (Ba (A++U++V++Z)))(hT:∀p∈U++V,AW p.2.1)(aR:B1 (AA len) U)(a5:B1 (AA len) V)(hl:1<=len/\len<=4611686018427387904)(hw:A6 w wb 0 (A0 len))(aX:wb≠g)(I:n<=4294967296):
 Ah 194 #[AJ g n cap,A0 A.length,A0 ((A.length+U.length:Nat):Int),A0 ((A.length+U.length+V.length:Nat):Int),.func (Fn.func 103) #[] #[A5 wb]] w (Am (.tuple #[]) λw'=>
  ∃M,w'.ownsRow 0 90 3 (AJ g n cap) n (Ba (A++M++Z))/\M.length=U.length+V.length/\B1 (AA len) M/\Bf (AA len) (U++V) M/\A3 (One g) w w'):=by
 obtain⟨D,hD⟩:∃D,D=A++U++V++Z:=⟨_,rfl⟩;obtain⟨a,ha⟩:∃a,A.length=a:=⟨_,rfl⟩;obtain⟨m,hm⟩:∃m,a+U.length=m:=⟨_,rfl⟩;obtain⟨b,hb⟩:∃b,m+V.length=b:=⟨_,rfl⟩;obtain⟨mid,H⟩:∃mid,(a+b)/2=mid:=⟨_,rfl⟩;obtain⟨nn,aG⟩:∃nn,nn=mid+m:=⟨_,rfl⟩;obtain⟨s0,r0,E⟩:∃s0 r0,if mid<m then s0=nn-b/\r0=mid else s0=a/\r0=m:=by
  split
  ·exact⟨_,_,rfl,rfl⟩
  ·exact⟨_,_,rfl,rfl⟩
 have aO:b<=n:=by rw[hn];simp;omega
 have bG:s0<r0/\r0<b/\r0<=nn/\nn<=s0+b/\nn<=8589934592/\a<mid/\mid<b/\a<=s0/\a+r0<=nn:=by split at E<;>omega
 obtain⟨g1,g2,g3,g4,g5,g6,g7,g8,g9⟩:=bG;have aD:Hid (∀s r,s0<=s->s<r->r<=r0->_):=λs r q1 q2 q3=>VT (a:=a) (nn:=nn) I aO q1 q2 q3 g2 g3 g4 g5 g8 g9;rw[<-hD]at h;have aA:Hid (∀wr s,A3 Aa w wr->FU (AA len) D nn s0 r0 s s->_):=λwr s q1 q2=>VR hk a1 hU hV hn hD (Ay h λg' hg=>q1.Al g' (Az h hg) (λh=>h)) q1 hT aR a5 hl hw aX I ha hm hb H aG E q2;have a7:Hid (∀z,A3 Aa w z->∀q (hq:q<n) x,D[q]?=some x->A6 z g (q*3) (A0 x.1)/\A6 z g (q*3+1) (A0 x.2.1)/\A6 z g (q*3+2) (A0 x.2.2)):=λz hx q hq x bR=>by
  obtain⟨e1,e2⟩:=Hk.1 bR;obtain⟨y1,y2,y3⟩:=AY.bz h q e1 x e2;exact⟨hx.ao y1,hx.ao y2,hx.ao y3⟩
 have aF:Hid (∀q,a<=q->q<b->∃x,D[q]?=some x/\AW x.2.1):=λq hq1 hq2=>by
  obtain⟨j,rfl⟩:∃j,q=A.length+j:=⟨q-A.length,by omega⟩;have hj:j<(U++V).length:=by simp;omega
  have e:D[A.length+j]?=some ((U++V)[j]'hj):=by
   rw[hD,Cc A U V,Im (by simp at hj ⊢;omega),Hl (by omega)];simp only[A2U];exact E2 hj
  exact⟨_,e,hT _ (BV hj)⟩
 obtain⟨lu,aK⟩:∃lu,U.length=lu:=⟨_,rfl⟩;obtain⟨lv,aP⟩:∃lv,V.length=lv:=⟨_,rfl⟩;obtain⟨ab,aM⟩:∃ab,a+b=ab:=⟨_,rfl⟩;obtain⟨p,hp⟩:∃p,nn-1=p:=⟨_,rfl⟩;obtain⟨⟨w1,bC⟩,⟨w2,bO⟩,f1,f2,⟨w3,a9⟩,w4,⟨w5,bD⟩,⟨w6,bE⟩,⟨w7,bF⟩⟩:=VU (lu:=lu) (lv:=lv) I aO (by rw[<-aK];exact hm) (by rw[<-aP];exact hb) aM (by rw[<-aM];exact H) aG hp (by rw[<-aK];exact hU) (by rw[<-aP];exact hV);have bU:=LZ (Hc.1 f1);have bL:=LZ (Hc.1 f2);rw[hp]at aD;have O:Hid (if mid<m then (wrap64 ((nn:Int)-(b:Int))=(s0:Int)/\IntKind.i64.wrap ((nn:Int)-(b:Int))=(s0:Int))/\r0=mid else s0=a/\r0=m):=by
  unfold Hid;split at E
  ·rename_i aB;rw[Af aB];obtain⟨q1,q2⟩:=VV H aG aB E.1 g5;exact⟨Gk q1 q2,E.2⟩
  ·rename_i aB;rw[Ac aB];exact E
 have aS:n<=cap/\cap<=9223372036854775807:=by
  obtain⟨a',c',e,h1,h2,_⟩:=B9 h;cases e;unfold maxLen at h2;omega
 obtain⟨hc1,hc2⟩:=aS;have b0:=A1 hw;have a2:=A1 hl;have b4:=A1 hp;have a4:=A1 <| EJ g1;rw[ha,hm,hb];clear h hT hw hl aX hk I hn ha hm hb H aG E g1 g2 g3 g4 g5 g6 g7 g8 g9 aM aK aP a1 hU hV aR a5 hD aO hp;by_cases aE:mid<m
 all_goals
  have a6:=O.o
  first
   | rw[Af aE]at a6
   | rw[Ac aE]at a6
 focus
  obtain⟨⟨x1,x2⟩,hr⟩:=a6;have bS:=A1 hr;have bK:Hid (∀_:Nat,s0=s0):=λ_=>rfl;have bN:=EM.2 aE;clear hr
 rotate_left
 focus
  obtain⟨hs,hr⟩:=a6;have bS:=A1 hr;have bK:Hid (∀_:Nat,s0=a):=λ_=>hs;have bN:=LZ (by omega);clear hr hs
 all_goals
  clear O aE
  go_enter func194,ntmps194
  go_wp2;go_loopw [20,21] (λiv jv wr=>∃(s r:Nat),iv=A0 (s:Int)/\jv=A0 (r:Int)/\Hid (FU (AA len) D nn s0 r0 s r/\A3 Aa w wr)) (λiv jv _=>(intOf jv).toNat-(intOf iv).toNat)
  case atStart=>exact⟨s0,r0,by first|go_num|rw[bK.o 0],by rw[bS.o],FU.fh D nn a4.o,A3.I _ _⟩
  case round=>
   obtain⟨s,r,rfl,rfl,hI⟩:=hrel;obtain⟨i1,i2⟩:=hI.o;by_cases Y:s<r
   ·obtain⟨n1,n2,n3,n4,n5,n6,n7,n8,n9,bM,l1,l2,l3,l4⟩:=aD.o s r i1.1 Y i1.2.2.1;generalize hc:(s+r)/2=c at n3 n4 n5 n6 n7 n8 n9 bM l1 l2 l3 l4;generalize hd:p-c=d at n7 n8 n9 l3 l4;generalize aU:s+r=sr at n1 n2 n3;have hp:=b4.o;obtain⟨x,hx,aV⟩:=aF.o c l1 l2;obtain⟨y,hy,aT⟩:=aF.o d l3 l4;(have aN:D[nn-1-c]?=some y:=by rw[hp,hd];exact hy);have bJ:Hid (∀z,A3 Aa wr z->(A6 z g (d*3) (A0 y.1)/\A6 z g (d*3+1) (A0 y.2.1)/\A6 z g (d*3+2) (A0 y.2.2))/\A6 z g (c*3) (A0 x.1)/\A6 z g (c*3+1) (A0 x.2.1)/\A6 z g (c*3+2) (A0 x.2.2)):=λz aJ=>by
     have a0:=i2.tr aJ;exact⟨a7.o z a0 d n7 y hy,a7.o z a0 c n6 x hx⟩
    have a3:=A1 (λz aJ=>Mc z wb len y x aT aV a2.o aJ);have aH:=Mb (len:=len) (p:=y) (q:=x);generalize bQ:GF len y x=cc at a3 aH;have aI:=i2.ao b0.o
    have b8:Hid (¬cc<0->FU (AA len) D nn s0 r0 (c+1) r):=λhc=>i1.up ⟨n4,n5⟩ hx aN (by
     cases hk:AA len y x with
     | false=>rfl
     | true=>exact absurd (aH.2 hk) hc)
    have bT:Hid (cc<0->FU (AA len) D nn s0 r0 s c):=λhc=>i1.eH ⟨n4,n5⟩ hx aN (aH.1 hc);have DI:=EM.2 n7;have CI:=EM.2 n6;have D0:=Ce d;have C0:=Ce c;have tD:=En d;have tC:=En c;have hsrI:=EM.2 Y;obtain⟨xa,xb,xc⟩:=x;obtain⟨ya,yb,yc⟩:=y;unfold Dr at a3;dsimp only at a3 bJ;have bX:=bJ.o wr.drew (A3.I _ wr).af;have aQ:=A1 (a3.o wr.drew aI);have W:=A1 (And.intro i2 (And.intro n4 n5));clear hI i1 i2 n4 n5 n6 n7 hc hd aU hx hy aN aV aT bQ a3 aI Y aD a7 aF aH hp aA l1 l2 l3 l4;rcases Py (cc<0) with L|L
    focus
     have aL:=Int.not_le.2 L;have bB:=Cv L
    rotate_left
    focus
     have aL:=Pv.1 L;have bB:=D4 L
    all_goals
     go_wp2;clear n1 n2 n3;refine C3 (λw'=>(A6 w' g (d*3) (A0 ya)/\A6 w' g (d*3+1) (A0 yb)/\A6 w' g (d*3+2) (A0 yc))/\A6 w' g (c*3) (A0 xa)/\A6 w' g (c*3+1) (A0 xb)/\A6 w' g (c*3+2) (A0 xc)) 12
      (Bz [0,1,2,3,4,5,6,7,8,9,10,11] [11]) bX ?_
     iterate 11 (refine Bj ?_;(try simp only[Ao]))
     refine Bt λK hK=>?_;go_simp;refine aQ.m ?_;rintro e w6⟨rfl,aZ⟩;have k6:=((A3.I Aa wr).af).tr aZ;refine hK _ _ (bJ.o w6 k6) (λhS=>?_);have b1:=A1 k6;clear hK K hS aZ k6 bX aQ
     (try simp only[Ao])
     refine Bo ?_;simp only[BO,BN];go_wp2;go_roundw
     case rel=>
      obtain⟨f1,f2,f3⟩:=W.o
      first
       | exact⟨c+1,r,rfl,rfl,b8.o (by first|exact aL|exact Pv.2 aL),f1.tr b1.o⟩
       | exact⟨s,c,rfl,rfl,bT.o L,f1.tr b1.o⟩
     case measure=>
      obtain⟨f1,f2,f3⟩:=W.o
      first
       | exact O5 f2 f3
       | exact O6 f2 f3
   ·obtain rfl:s=r:=L6 i1.2.1 (Ii Y);obtain⟨e,u1,u2,v1,v2,R1,R2,⟨y1,y2⟩,⟨b7,b9,cA,b6,b5,cB⟩,⟨ou,ov⟩,p1,p2,p3,p4,p5,p6⟩:=aA.o wr s i2 i1;have bI:=A1 p1;have P2:=A1 p2;have bH:=A1 p3;have bY:=A1 p4;have bP:=A1 p5;have b2:=A1 p6;have bZ:=A1 ou;have bW:=A1 ov;have hno:¬((s:Int)<(s:Int)):=MS _;clear hI i1 i2 Y aD a7 aF aA p1 p2 p3 p4 p5 p6 ou ov a2 b0 bS bK b4 a4 w1 bC w2 bO f1 bU f2 bL w3 a9 w4 w5 bD w6 bE w7 bF;cases u1<;>cases u2<;>cases v1<;>cases v2
    all_goals first
     | (exfalso;have:=bZ.o;revert this;decide)
     | (exfalso;have:=bW.o;revert this;decide)
     | skip
    all_goals
     simp only[DG,A0U]at b7 b9 cA b6 b5 cB
    all_goals first
     | have b3:=A1 (P2.o rfl rfl (.func (Fn.func 103) #[] #[A5 wb]))
     | have a8:=A1 (bI.o (.inl rfl))
     | have a8:=A1 (bI.o (.inr rfl))
    all_goals first
     | have aW:=A1 (λw' q=>bY.o w' q rfl rfl)
     | have aW:=A1 (λw' q=>bH.o w' q (.inl rfl))
     | have aW:=A1 (λw' q=>bH.o w' q (.inr rfl))
    all_goals first
     | have aY:=A1 (λw' q=>b2.o w' q rfl rfl)
     | have aY:=A1 (λw' q=>bP.o w' q (.inl rfl))
     | have aY:=A1 (λw' q=>bP.o w' q (.inr rfl))
    all_goals clear bI P2 bH bY bP b2 bZ bW
    all_goals go_wp2_with (fail)
    all_goals try
     (go_at_call 217;refine b3.m ?_;rintro x w4⟨rfl,hR⟩;have a8:=A1 hR;clear hR b3;go_wp2_with (fail))
    all_goals first
     | (go_at_call 194;refine(aW.o _ a8.o).mono ?_;rintro x w5⟨rfl,hR⟩;have bV:=A1 hR;clear hR aW;go_wp2_with (fail))
     | have bV:=A1 (aW.o _ a8.o)
    all_goals first
     | (go_at_call 194;refine(aY.o _ bV.o).mono ?_;rintro x w6⟨rfl,hR⟩;have bA:=A1 hR;clear hR aY;go_wp2_with (fail))
     | have bA:=A1 (aY.o _ bV.o)
    all_goals go_end0
    all_goals first
     | exact⟨rfl,bA.o⟩
     | exact⟨rfl,by simpa only[Cc] using bA.o⟩
end
def Qh:∀k,Mp k
 | 0=>λw g cap n wb len A U V Z hk hu hv=>by
  have:=J0.2 hu;omega
 | k+1=>λw g cap n wb len A U V Z hk hu hv L h O E I Y W z d=>by
  have lu:=J0.2 hu;have lv:=J0.2 hv;by_cases h1:U.length=1
  ·obtain⟨x,rfl⟩:=UT.1 h1;(have e:A++[x]++V++Z=A++x::(V++Z):=by simp);rw[e]at L h;have:=VW w g cap n wb len A V Z x hv L h (by simpa using O) I Y W z d;simp only[Pl]at this ⊢;refine this.mono ?_;rintro x' w'⟨rfl,M,q1,q2,q3,q4,q5⟩;exact⟨rfl,M,q1,by rw[q2];omega,q3,by simpa using q4,q5⟩
  ·by_cases h2:V.length=1
   ·obtain⟨x,rfl⟩:=UT.1 h2;(have e:A++U++[x]++Z=A++(U++x::Z):=by simp);rw[e]at L h;have:=VY w g cap n wb len A U Z x (by omega) L h (λp H=>O p (by simp at H ⊢;rcases H with H|H<;>simp[H])) E Y W z d;simp only[Pl]at this ⊢;exact this
   ·exact VX (Qh k) w g cap n wb len A U V Z hk (by omega) (by omega) L h O E I Y W z d
section
variable {α:Type} {lt:α->α->Bool}
def Ge(lt:α->α->Bool)(a b:Nat)(l l':List α):Prop:=l'.length=l.length/\B1 lt ((l'.drop a).take (b-a))/\∀p q,p+q<=a\/b<=p->(l'.drop p).take q=(l.drop p).take q
def Sd{A M M' Z:List α}(h:M'.length=M.length)(d:B1 lt M'):Ge lt A.length (A.length+M.length) (A++M++Z) (A++M'++Z):=by
 refine⟨by simp[h],?_,λp q hp=>?_⟩
 ·rw[A03 rfl (by omega) (λhx=>by omega)];exact d
 ·exact(A02 h p q (by omega))
def Ep.a8{l l':List α}{C j b:Nat}(h:Ep lt C (λi=>i<j) l)(z:Ge lt (j*C) b l l')(H:b=j*C+C\/(b=l.length/\l.length<=j*C+C))(hj:j*C<=l.length):Ep lt C (λi=>i<j+1) l':=λi d=>by
 rcases Nat.lt_or_eq_of_le (A2R d) with d|rfl
 ·rw[z.2.2 _ _ (.inl ?_)]
  ·exact h i d
  ·have:=Hi C (show i+1<=j from d);rw[Hy]at this;omega
 ·have E:=z.2.1;rcases H with rfl|⟨rfl,H⟩
  ·rwa [A2U]at E
  ·have e:(l'.drop (i*C)).take C=(l'.drop (i*C)).take (l.length-i*C):=by
    rw[Em (by rw[CP,z.1];omega),Em (by rw[CP,z.1];omega)]
   rw[e];exact E
def Ep.cx{l l':List α}{B a b j:Nat}(h:Ep lt B (λi=>j<=i) l)(E:Ge lt a b l l')(z:b<=j*B):Ep lt B (λi=>j<=i) l':=λi d=>by
 rw[E.2.2 _ _ (.inr (AQ z (Hi B d)))];exact h i d
def Ep.cC{l:List α}{C j:Nat}(h:Ep lt C (λi=>i<j) l)(z:l.length<=j*C):Ep lt C (λ_=>True) l:=λi _=>by
 rcases EW i j with d|d
 ·exact h i d
 ·rw[MK (AQ z (Hi C d)),List.take_nil];exact List.Pairwise.nil
def Ge.aI{l:List α}{a b:Nat}(h:B1 lt ((l.drop a).take (b-a))):Ge lt a b l l:=⟨rfl,h,λ_ _ _=>rfl⟩
def KP{l:List α}{a q r:Nat}(h:B1 lt ((l.drop a).take q))(d:r<=q):B1 lt ((l.drop a).take r):=by
 have:=h.b8 r
 rwa [JO,Mw d]at this
end
def Wj{n B C:Nat}(hn:n<=4294967296)(hB:B<=n)(hC:2*B=C):
 wrap64 (2*(B:Int))=(C:Int)/\IntKind.i64.wrap (2*(B:Int))=(C:Int)/\wrap64 ((B:Int)*2)=(C:Int)/\IntKind.i64.wrap ((B:Int)*2)=(C:Int):=by
 have d:=Gk (x:=2*(B:Int)) (k:=C) (by omega) (by omega);have h:=Gk (x:=(B:Int)*2) (k:=C) (by omega) (by omega);exact⟨d.1,d.2,h.1,h.2⟩
def YK{n b c:Nat}(h:b<=n)(hc:b+20=c):n+21-(intOf (A0 (c:Int))).toNat<n+21-(intOf (A0 (b:Int))).toNat:=by simp[intOf];omega
def YJ{n b c C:Nat}(h:b<=n)(hC:20<=C)(hc:b+C=c):n+C+1-(intOf (A0 (c:Int))).toNat<n+C+1-(intOf (A0 (b:Int))).toNat:=by simp[intOf];omega
def Sv{n B C:Nat}(h:B<n)(hB:20<=B)(hC:2*B=C):n-(intOf (A0 (C:Int))).toNat<n-(intOf (A0 (B:Int))).toNat:=by simp[intOf];omega
def A11(a:Nat){B:Nat}(h:20<=B):a<a+B/\a+B<a+2*B/\a+B-a<=B/\a+2*B-(a+B)<=B/\20<=2*B:=by omega
def A0L{a B n:Nat}(h:¬a+2*B<=n):n<=a+2*B/\n-(a+B)<=B/\(¬a+B<n->n-a<=B):=by omega
section
variable {w w':World} {g cap n wb:Nat} {len:Int} {l:List Pu}
def Way(g cap n:Nat)(len:Int)(l:List Pu)(w h:World)(d:List Pu):Prop:=h.ownsRow 0 90 3 (.slice (some ⟨g,0,none⟩) n cap) n (Ba d)/\d.length=n/\Bf (AA len) l d/\A3 (One g) w h
def Vx(hT:∀p∈l,AW p.2.1)(hl:1<=len/\len<=4611686018427387904)(hw:A6 w wb 0 (A0 len))(I:wb≠g)(L:n<=4294967296)(Y:World)(d:List Pu)(a b:Nat)(H:a<b)(hb:b<=n)(h:Way g cap n len l w Y d):
 Ah 193 #[AJ g n cap,A0 a,A0 b,.func (Fn.func 103) #[] #[A5 wb]] Y (Am (.tuple #[]) λw'=>∃E,Way g cap n len l w w' E/\Ge (AA len) a b d E):=by
 obtain⟨h1,h2,h3,h4⟩:=h;subst h2;refine(T9 Y g cap wb len d a b H hb h1 (λp hp=>hT p (h3.bF.Dy (Fb len) hp)) hl (h4.bG hw λe=>I e) I L).mono ?_;rintro e w'⟨rfl,m,W,q2,q3,q4,q5⟩;have hM:((d.drop a).take (b-a)).length=b-a:=by rw[BU,CP];omega
 have aA:(d.take a).length=a:=by rw[BU];omega
 have O:d=d.take a++(d.drop a).take (b-a)++d.drop b:=by
  have:=Qr d (EJ H) (Au b);simpa using this
 have hN:=Sd (lt:=AA len) (A:=d.take a) (Z:=d.drop b) (q2.trans hM.symm) q4;rw[<-O,aA,hM,show a+(b-a)=b by omega]at hN;have z:=hN.1;refine⟨rfl,d.take a++m++d.drop b,⟨?_,z,?_,h4.tr q5⟩,hN⟩
 ·unfold AY at W;rw[z]at W;exact W
 ·refine h3.Av ?_;have e:(d.take b).drop a=(d.drop a).take (b-a):=List.drop_take ..;rw[e]at q3;have:=((Bf.I (lt:=AA len) (d.take a)).an q3).an (Bf.I (d.drop b))
  rwa [<-O]at this
def Vw(hT:∀p∈l,AW p.2.1)(hl:1<=len/\len<=4611686018427387904)(hw:A6 w wb 0 (A0 len))(I:wb≠g)(O:n<=4294967296)(wx:World)(d:List Pu)(a m b:Nat)(aA:a<m)(aD:m<b)(hb:b<=n)(h:Way g cap n len l w wx d)(s1:B1 (AA len) ((d.drop a).take (m-a)))(s2:B1 (AA len) ((d.drop m).take (b-m))):
 Ah 194 #[AJ g n cap,A0 a,A0 m,A0 b,.func (Fn.func 103) #[] #[A5 wb]] wx (Am (.tuple #[]) λw'=>∃z,Way g cap n len l w w' z/\Ge (AA len) a b d z):=by
 obtain⟨h1,h2,h3,h4⟩:=h;have W:=Qr d (EJ aA) (EJ aD);have lA:(d.take a).length=a:=by rw[BU];omega
 have E:((d.drop a).take (m-a)).length=m-a:=by rw[BU,CP];omega
 have H:((d.drop m).take (b-m)).length=b-m:=by rw[BU,CP];omega
 obtain⟨A,hA⟩:∃A,d.take a=A:=⟨_,rfl⟩;obtain⟨U,hU⟩:∃U,(d.drop a).take (m-a)=U:=⟨_,rfl⟩;obtain⟨V,hV⟩:∃V,(d.drop m).take (b-m)=V:=⟨_,rfl⟩;obtain⟨Z,hZ⟩:∃Z,d.drop b=Z:=⟨_,rfl⟩;rw[hA,hU,hV,hZ]at W;rw[hA]at lA;rw[hU]at E s1;rw[hV]at H s2;subst W;have aB:U≠[]:=λe=>by rw[e]at E;simp at E;omega
 have Y:V≠[]:=λe=>by rw[e]at H;simp at H;omega
 have:=Qh _ wx g cap n wb len A U V Z (Au _) aB Y h2.symm h1 (λp L=>hT p (h3.bF.Dy (Fb len) (by simp at L ⊢;rcases L with L|L<;>simp[L]))) s1 s2 hl (h4.bG hw λe=>I e) I O;rw[lA,E,H,show a+(m-a)=m by omega,show m+(b-m)=b by omega]at this;refine this.mono ?_;rintro e w'⟨rfl,M,q1,q2,q3,q4,q5⟩;have hN:=Sd (lt:=AA len) (A:=A) (M:=U++V) (M':=M) (Z:=Z) (by rw[AZ,E,H];exact q2) q3;have ee:A++(U++V)++Z=A++U++V++Z:=by simp
 rw[ee,lA,AZ,E,H,show a+(m-a+(b-m))=b by omega]at hN;refine⟨rfl,A++M++Z,⟨q1,hN.1.trans h2,h3.Av ?_,h4.tr q5⟩,hN⟩;have:=((Bf.I (lt:=AA len) A).an q4).an (Bf.I Z)
 rwa [ee]at this
def Wi(w:World)(g cap wb:Nat)(len:Int)(l:List Pu)(Y:l.length<=4294967296)(h:AY w (AJ g l.length cap) l)(hT:∀p∈l,AW p.2.1)(hl:1<=len/\len<=4611686018427387904)(hw:A6 w wb 0 (A0 len))(aM:wb≠g):
 Ah 146 #[AJ g l.length cap,A0 l.length,.func (Fn.func 103) #[] #[A5 wb]] w (Am (.tuple #[]) λw'=>AY w' (AJ g l.length cap) (DZ (AA len) l)/\A3 (One g) w w'):=by
 obtain⟨n,hn⟩:∃n,l.length=n:=⟨_,rfl⟩;have h0:Hid (Way g cap n len l w w l):=by unfold AY at h;rw[hn]at h;exact⟨h,hn,Bf.I _,A3.I _ _⟩
 rw[hn]at Y ⊢;have aS:Hid (∀wx z a b,a<b->b<=n->Way g cap n len l w wx z->_):=λwx z a b q1 q2 q3=>Vx hT hl hw aM Y wx z a b q1 q2 q3;have aL:Hid (∀wx z a m b,a<m->m<b->b<=n->Way g cap n len l w wx z->_->_->_):=λwx z a m b q1 q2 q3 q4 q5 q6=>Vw hT hl hw aM Y wx z a m b q1 q2 q3 q4 q5 q6;have aV:Hid (∀wx,Ah 193 #[AJ g n cap,A0 n,A0 n,.func (Fn.func 103) #[] #[A5 wb]] wx (Am (.tuple #[]) λw'=>wx=w')):=λwx=>T8 wx _ _ n n (by omega) (by omega);have a5:Hid (∀B C,B<=n->2*B=C->_):=λB C q1 q2=>Wj (B:=B) (C:=C) Y q1 q2;have a7:Hid (∀a b c m B C:Nat,a<=n->B<=n->2*B=C->a+C=b->b+C=c->a+B=m->(wrap64 ((a:Int)+(B:Int))=(m:Int)/\IntKind.i64.wrap ((a:Int)+(B:Int))=(m:Int))/\(wrap64 ((b:Int)+(C:Int))=(c:Int)/\IntKind.i64.wrap ((b:Int)+(C:Int))=(c:Int))):=λa b c m B C q1 q2 q3 q4 q5 q6=>⟨Gk (by omega) (by omega),Gk (by omega) (by omega)⟩
 have a0:Hid (∀a b c:Nat,a<=n->a+20=b->b+20=c->wrap64 ((b:Int)+20)=(c:Int)/\IntKind.i64.wrap ((b:Int)+20)=(c:Int)):=λa b c L W hc=>Gk (by omega) (by omega);have aY:Hid (∀w' z,Way g cap n len l w w' z->B1 (AA len) z->AY w' (AJ g n cap) (DZ (AA len) l)/\A3 (One g) w w'):=λw' z q1 q2=>by
  obtain⟨a1,a2,a3,a4⟩:=q1;have e1:=(Fb len).et q2 a3;refine⟨?_,a4⟩;unfold AY;rw[<-e1,a2];exact a1
 go_enter func146,ntmps146
 go_wp2;go_loopw [7,8] (λav bv wr=>∃(j:Nat) (z:List Pu),av=A0 ((j*20:Nat):Int)/\bv=A0 ((j*20+20:Nat):Int)/\Hid (j*20<=n/\Way g cap n len l w wr z/\Ep (AA len) 20 (λi=>i<j) z)) (λ_ bv _=>n+21-(intOf bv).toNat)
 case atStart=>exact⟨0,l,by go_num,by go_num,Cz _,h0.o,λi hi=>absurd hi (UK i)⟩
 case round=>
  obtain⟨j,z,rfl,rfl,hI⟩:=hrel;obtain⟨i1,i2,i3⟩:=hI.o;obtain⟨a,L⟩:∃a,j*20=a:=⟨_,rfl⟩;obtain⟨b,W⟩:∃b,a+20=b:=⟨_,rfl⟩;obtain⟨c,hc⟩:∃c,b+20=c:=⟨_,rfl⟩;have aA:(j+1)*20=b:=by rw[Hy,L];exact W
  have aD:=A1 (And.intro L (And.intro aA hc));rw[L]at i1 ⊢;rw[W];obtain⟨z1,z2⟩:=a0.o a b c i1 W hc;have E:=i2.2.1;by_cases H:b<=n
  ·have aI:=MR.2 H;have aZ:=A1 (aS.o wr z a b (by rw[<-W];exact Nat.lt_add_of_pos_right (by decide)) H i2);have K:Hid (∀d,Ge (AA len) a b z d->Ep (AA len) 20 (λi=>i<j+1) d):=λd O=>i3.a8 (by rw[L];exact O) (.inl (by rw[L];exact W.symm)) (by rw[L,E];exact i1);have aR:=A1 H;go_wp2_with (go_at_call 193;refine aZ.m ?_;rintro e w2⟨rfl,d,hW,O⟩;have aG:=A1 hW;have I:=A1 (K.o d O));go_roundw
   case rel=>exact⟨j+1,d,by rw[aD.o.2.1],by rw[aD.o.2.1,aD.o.2.2],by rw[aD.o.2.1];exact aR.o,aG.o,I.o⟩
   case measure=>
    exact YK aR.o aD.o.2.2
  ·have aI:¬((b:Int)<=(n:Int)):=λh=>H (MR.1 h);have K:Hid (∀d,Ge (AA len) a n z d->Ep (AA len) 20 (λ_=>True) d):=λd O=>(i3.a8 (by rw[L];exact O) (.inr ⟨E.symm,by rw[L,E];rw[W];exact EJ (Nat.lt_of_not_le H)⟩) (by rw[L,E];exact i1)).cC (by rw[O.1,aA,E];exact EJ (Nat.lt_of_not_le H))
   have aZ:Hid (Ah 193 #[AJ g n cap,A0 a,A0 n,.func (Fn.func 103) #[] #[A5 wb]] wr (Am (.tuple #[]) λw'=>∃d,Way g cap n len l w w' d/\Ge (AA len) a n z d)):=by
    by_cases aK:a<n
    ·exact aS.o wr z a n aK (Au _) i2
    ·obtain rfl:a=n:=L6 i1 (Ii aK);refine(aV.o wr).mono ?_;rintro e w'⟨rfl,rfl⟩;exact⟨rfl,z,i2,Ge.aI (by rw[UI,EL];exact List.Pairwise.nil)⟩
   go_wp2_with (go_at_call 193;refine aZ.m ?_;rintro e w2⟨rfl,d,hW,O⟩;have aG:=A1 hW;have I:=A1 (K.o d O));go_loopw [6] (λbv wr=>∃(B:Nat) (z:List Pu),bv=A0 (B:Int)/\Hid (20<=B/\Way g cap n len l w wr z/\Ep (AA len) B (λ_=>True) z)) (λbv _=>n-(intOf bv).toNat)
   case atStart=>exact⟨20,d,by go_num,Au _,aG.o,I.o⟩
   case round=>
    obtain⟨B,aH,rfl,hI⟩:=hrel;obtain⟨i1,i2,i3⟩:=hI.o;by_cases aE:B<n
    ·have aU:=EM.2 aE;obtain⟨C,hC⟩:∃C,2*B=C:=⟨_,rfl⟩;obtain⟨z1,z2,z3,z4⟩:=a5.o B C (EJ aE) hC;have aN:=A1 (And.intro i1 (And.intro i2 i3));have aJ:=A1 aE;have a6:=A1 hC;generalize wr=w3 at aN ⊢;go_wp2;go_loopw [7,8] (λav bv wr=>∃(j:Nat) (z:List Pu),av=A0 ((j*C:Nat):Int)/\bv=A0 ((j*C+C:Nat):Int)/\Hid (j*C<=n/\Way g cap n len l w wr z/\Ep (AA len) C (λi=>i<j) z/\Ep (AA len) B (λi=>2*j<=i) z)) (λ_ bv _=>n+C+1-(intOf bv).toNat)
     case atStart=>exact⟨0,aH,by simp,by simp,by simp,aN.o.2.1,λi hi=>absurd hi (UK i),λi _=>aN.o.2.2 i trivial⟩
     case round=>
      obtain⟨j,z,rfl,rfl,hI⟩:=hrel;obtain⟨i1,i2,i3,i4⟩:=hI.o;obtain⟨a,L⟩:∃a,j*C=a:=⟨_,rfl⟩;obtain⟨b,W⟩:∃b,a+C=b:=⟨_,rfl⟩;obtain⟨c,hc⟩:∃c,b+C=c:=⟨_,rfl⟩;obtain⟨m,aF⟩:∃m,a+B=m:=⟨_,rfl⟩;have hC:=a6.o;(have aA:(j+1)*C=b:=by rw[Hy,L,UJ];exact W);(have aP:2*j*B=a:=by rw[<-L,<-hC,L4 2 j,Pg]);(have aQ:(2*j+1)*B=m:=by rw[Hy,aP,UJ];exact aF);(have aO:2*(j+1)*B=b:=by rw[<-aA,<-hC,L4 2 (j+1),Pg]);rw[L]at i1 ⊢;rw[W];obtain⟨⟨y1,y2⟩,y3,y4⟩:=a7.o a b c m B C i1 (EJ aJ.o) hC W hc aF;have s1:=i4 (2*j) (Au _);have s2:=i4 (2*j+1) (Hj _);rw[aP]at s1;rw[aQ]at s2;have E:=i2.2.1;obtain⟨k1,k2,k3,k4,k5⟩:=A11 a aN.o.1;rw[aF]at k1 k2 k3 k4;rw[hC]at k2 k4 k5;rw[W]at k2 k4;have aD:=A1 (And.intro aA (And.intro hc k5));by_cases H:b<=n
      ·have aI:=MR.2 H;have aT:=A1 (aL.o wr z a m b k1 k2 H i2 (KP s1 k3) (KP s2 k4));have K:Hid (∀d,Ge (AA len) a b z d->Ep (AA len) C (λi=>i<j+1) d/\Ep (AA len) B (λi=>2*(j+1)<=i) d):=λd O=>
        ⟨i3.a8 (by rw[L];exact O) (.inl (by rw[L];exact W.symm)) (by rw[L,E];exact i1),Ep.cx (λi hi=>i4 i (AQ (Nat.mul_le_mul_left 2 (Hj j)) hi)) O (by rw[aO];exact Au _)⟩
       have aR:=A1 H;go_wp2_with (go_at_call 194;refine aT.m ?_;rintro e w4⟨rfl,d,hW,O⟩;have aG:=A1 hW;have I:=A1 (K.o d O));go_roundw
       case rel=>exact⟨j+1,d,by rw[aD.o.1],by rw[aD.o.1,aD.o.2.1],by rw[aD.o.1];exact aR.o,aG.o,I.o.1,I.o.2⟩
       case measure=>exact YJ aR.o aD.o.2.2 aD.o.2.1
      ·have aI:¬((b:Int)<=(n:Int)):=λh=>H (MR.1 h);obtain⟨e1,e2,e3⟩:=A0L (a:=a) (B:=B) (n:=n) (by rw[hC,W];exact H);rw[hC,W]at e1;rw[aF]at e2 e3;have K:Hid (∀d,Ge (AA len) a n z d->Ep (AA len) C (λ_=>True) d):=λd O=>(i3.a8 (by rw[L];exact O) (.inr ⟨E.symm,by rw[L,E,W];exact e1⟩) (by rw[L,E];exact i1)).cC (by rw[O.1,aA,E];exact e1)
       have aB:=A1 (And.intro k5 (And.intro hC aN.o.1));by_cases hm:m<n
       ·have aX:=EM.2 hm;have aT:=A1 (aL.o wr z a m n k1 hm (Au _) i2 (KP s1 k3) (KP s2 e2));go_wp2_with (go_at_call 194;refine aT.m ?_;rintro e w4⟨rfl,d,hW,O⟩;have aG:=A1 hW;have I:=A1 (K.o d O));go_roundw
        case rel=>exact⟨C,d,rfl,aB.o.1,aG.o,I.o⟩
        case measure=>exact Sv aJ.o aB.o.2.2 aB.o.2.1
       ·have aX:¬((m:Int)<(n:Int)):=λh=>hm (EM.1 h);have I:=A1 (K.o z (Ge.aI (KP s1 (e3 hm))));have aG:=A1 i2;go_wp2;go_roundw
        case rel=>exact⟨C,z,rfl,aB.o.1,aG.o,I.o⟩
        case measure=>exact Sv aJ.o aB.o.2.2 aB.o.2.1
    ·have aU:¬((B:Int)<(n:Int)):=λh=>aE (EM.1 h);have aW:=A1 (aY.o wr aH i2 (i3.Cl (by rw[i2.2.1];exact Ii aE)));go_wp2;go_end0;exact⟨rfl,aW.o⟩
end
def Wq(N:Nat)(hN:N<=4294967296):Fj N:=by
 intro w v wb len l hn h z H E d;have ST:Hid (Ah 146 #[v,A0 l.length,.func (Fn.func 103) #[] #[A5 wb]] w (Am (.tuple #[]) λw'=>AY w' v (DZ (AA len) l)/\A3 (λk=>v.oB k) w w')):=by
  by_cases L:l.length<=19
  ·exact Wk w v wb len l L h z H E d
  ·obtain⟨av,cap,rfl,W,I,h3,-,-⟩:=B9 h;obtain⟨g,rfl⟩:=h3 (by omega);refine(Wi w g cap wb len l (by omega) h z H E (d g rfl)).mono ?_;rintro e w'⟨rfl,Y,q2⟩;exact⟨rfl,Y,q2.ad λk _ O=>by have e:=O;subst e;rfl⟩
 obtain⟨av,cap,rfl,W,I,-⟩:=B9 h
 go_enter func102,ntmps102
 go_wp2_with (go_at_call 146;refine ST.m ?_;rintro e w2⟨rfl,hp,hc⟩;have aB:=A1 hp;have aA:=A1 hc);go_end0;exact⟨rfl,aB.o,aA.o⟩
end
end Go.Proofs.YtodcnkbblippnabGreatDoor
