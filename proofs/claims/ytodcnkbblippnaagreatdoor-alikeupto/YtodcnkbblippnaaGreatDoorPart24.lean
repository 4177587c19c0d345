/- Part 24 of a proof: walks of the program. -/
import Derived.Test.YtodcnkbblippnaaGreatDoorPart23
namespace Go.Proofs.YtodcnkbblippnaaGreatDoor
set_option maxRecDepth 100000
set_option maxHeartbeats 32000000
set_option linter.defProp false
open Go.Proofs.Tryz
section
open Go.RowKit
attribute [local go_sem ↓] CE
def MN(k:Nat):Prop:=∀(w:World) (g cap n wb:Nat) (len:Int) (A U V Z:List Pu),U.length+V.length<=k->U≠[]->V≠[]->n=(A++U++V++Z).length->w.ownsRow 0 113 3 (.slice (some ⟨g,0,none⟩) n cap) n (B9 (A++U++V++Z))->
 (∀p∈U++V,AN p.2.1)->B1 (Az len) U->B1 (Az len) V->(1<=len/\len<=4611686018427387904)->w.cell? ⟨wb,0,none⟩=some (.int .i64 len)->wb≠g->n<=4294967296->
 Calls Tryz.prog 244 #[.slice (some ⟨g,0,none⟩) n cap,.int .i64 A.length,.int .i64 ((A.length+U.length:Nat):Int),.int .i64 ((A.length+U.length+V.length:Nat):Int),.func (Fn.func 155) #[] #[.pointer (some ⟨wb,0,none⟩)]] w λe w'=>e=.returned (.tuple #[])/\
  ∃M,w'.ownsRow 0 113 3 (.slice (some ⟨g,0,none⟩) n cap) n (B9 (A++M++Z))/\M.length=U.length+V.length/\B1 (Az len) M/\Bh (Az len) (U++V) M/\A3 (One g) w w'
def Wn{a b n nn s0 r0 s r:Nat}(hn:n<=4294967296)(hb:b<=n)(h1:s0<=s)(h2:s<r)(h3:r<=r0)(h4:r0<b)(h5:r0<=nn)(h6:nn<=s0+b)(h7:nn<=8589934592)(h8:a<=s0)(h9:a+r0<=nn):
 wrap64 ((s:Int)+(r:Int))=((s+r:Nat):Int)/\IntKind.u64.wrap ((s+r:Nat):Int)=((s+r:Nat):Int)/\wrap64 (((s+r:Nat):Int)/2)=(((s+r)/2:Nat):Int)/\s<=(s+r)/2/\(s+r)/2<r/\(s+r)/2<n/\nn-1-(s+r)/2<n/\
 wrap64 (((nn-1:Nat):Int)-(((s+r)/2:Nat):Int))=((nn-1-(s+r)/2:Nat):Int)/\IntKind.i64.wrap (((nn-1:Nat):Int)-(((s+r)/2:Nat):Int))=((nn-1-(s+r)/2:Nat):Int)/\wrap64 ((((s+r)/2:Nat):Int)+1)=(((s+r)/2+1:Nat):Int)/\(a<=(s+r)/2/\(s+r)/2<b/\a<=nn-1-(s+r)/2/\nn-1-(s+r)/2<b):=by
 refine⟨by unfold wrap64;omega,?_,by unfold wrap64;omega,by omega,by omega,by omega,by omega,by unfold wrap64;omega,?_,by unfold wrap64;omega,by omega,by omega,by omega,by omega⟩
 ·simp[IntKind.wrap,IntKind.bits,IntKind.signed];omega
 ·simp[IntKind.wrap,IntKind.bits,IntKind.signed];omega
def Gq{x:Int}{k:Nat}(h:x=(k:Int))(hk:k<=9223372036854775807):wrap64 x=(k:Int)/\IntKind.i64.wrap x=(k:Int):=by
 subst h;refine⟨by unfold wrap64;omega,?_⟩;simp[IntKind.wrap,IntKind.bits,IntKind.signed];omega
def Wp{a b m mid nn s0:Nat}(hmid:(a+b)/2=mid)(hnn:nn=mid+m)(h:mid<m)(hs:s0=nn-b)(h5:nn<=8589934592):(nn:Int)-(b:Int)=(s0:Int)/\s0<=9223372036854775807:=by omega
def Wo{a m b lu lv ab mid nn p n:Nat}(hbig:n<=4294967296)(hbn:b<=n)(hm:a+lu=m)(hb:m+lv=b)(hab:a+b=ab)(hmid:ab/2=mid)(hnn:nn=mid+m)(hp:nn-1=p)(h1:2<=lu)(h2:2<=lv):
 (wrap64 ((m:Int)-(a:Int))=(lu:Int)/\IntKind.i64.wrap ((m:Int)-(a:Int))=(lu:Int))/\(wrap64 ((b:Int)-(m:Int))=(lv:Int)/\IntKind.i64.wrap ((b:Int)-(m:Int))=(lv:Int))/\((lu:Int)==1)=false/\((lv:Int)==1)=false/\
 (wrap64 ((a:Int)+(b:Int))=(ab:Int)/\IntKind.i64.wrap ((a:Int)+(b:Int))=(ab:Int))/\IntKind.u64.wrap (ab:Int)=(ab:Int)/\(wrap64 ((ab:Int)/2)=(mid:Int)/\IntKind.i64.wrap ((ab:Int)/2)=(mid:Int))/\
 (wrap64 ((mid:Int)+(m:Int))=(nn:Int)/\IntKind.i64.wrap ((mid:Int)+(m:Int))=(nn:Int))/\(wrap64 ((nn:Int)-1)=(p:Int)/\IntKind.i64.wrap ((nn:Int)-1)=(p:Int)):=by
 refine⟨Gq (by omega) (by omega),Gq (by omega) (by omega),by rw[GA];omega,by rw[GA];omega,Gq (by omega) (by omega),?_,Gq (by omega) (by omega),Gq (by omega) (by omega),Gq (by omega) (by omega)⟩;simp[IntKind.wrap,IntKind.bits,IntKind.signed];omega
section
variable {w w' wr:World} {g cap n k wb a s m e b mid:Nat} {len:Int} {A U1 U2 V1 V2 Z:List Pu}
def Wm(hk:MN k)(aI:(U1++U2).length+(V1++V2).length<=k+1)(hn:n=(A++(U1++U2)++(V1++V2)++Z).length)(h:wr.ownsRow 0 113 3 (.slice (some ⟨g,0,none⟩) n cap) n (B9 (A++(U1++U2)++(V1++V2)++Z)))(hc:A3 (One g) w wr)(hT:∀p∈(U1++U2)++(V1++V2),AN p.2.1)(aD:B1 (Az len) (U1++U2))(aF:B1 (Az len) (V1++V2))(hl:1<=len/\len<=4611686018427387904)(hw:w.cell? ⟨wb,0,none⟩=some (.int .i64 len))(X:wb≠g)(O:n<=4294967296)(h1:∀x y,U1.getLast?=some x->V2.head?=some y->Az len y x=false)(h2:∀x y,V1.getLast?=some y->U2.head?=some x->Az len y x=true)(ea:A.length=a)(es:a+U1.length=s)(em:s+U2.length=m)(ee:m+V1.length=e)(eb:e+V2.length=b)(aB:s+V1.length=mid)(lm1:a<mid)(lm2:mid<b):
 ∃aH aG:World->Prop,((U2=[]\/V1=[])->aH wr)/\
  (U2≠[]->V1≠[]->∀cv,Calls Tryz.prog 263 #[.slice (some ⟨g,0,none⟩) n cap,.int .i64 s,.int .i64 m,.int .i64 e,cv] wr λx w'=>x=.returned (.tuple #[])/\aH w')/\
  (∀w',aH w'->(U1=[]\/V1=[])->aG w')/\
  (∀w',aH w'->U1≠[]->V1≠[]->Calls Tryz.prog 244 #[.slice (some ⟨g,0,none⟩) n cap,.int .i64 a,.int .i64 s,.int .i64 mid,.func (Fn.func 155) #[] #[.pointer (some ⟨wb,0,none⟩)]] w' λx z=>x=.returned (.tuple #[])/\aG z)/\
  (∀w',aG w'->(U2=[]\/V2=[])->∃M,w'.ownsRow 0 113 3 (.slice (some ⟨g,0,none⟩) n cap) n (B9 (A++M++Z))/\M.length=(U1++U2).length+(V1++V2).length/\B1 (Az len) M/\Bh (Az len) ((U1++U2)++(V1++V2)) M/\A3 (One g) w w')/\
  (∀w',aG w'->U2≠[]->V2≠[]->Calls Tryz.prog 244 #[.slice (some ⟨g,0,none⟩) n cap,.int .i64 mid,.int .i64 e,.int .i64 b,.func (Fn.func 155) #[] #[.pointer (some ⟨wb,0,none⟩)]] w' λx z=>x=.returned (.tuple #[])/\
   ∃M,z.ownsRow 0 113 3 (.slice (some ⟨g,0,none⟩) n cap) n (B9 (A++M++Z))/\M.length=(U1++U2).length+(V1++V2).length/\B1 (Az len) M/\Bh (Az len) ((U1++U2)++(V1++V2)) M/\A3 (One g) w z):=by
 have KW:=Fj len;obtain⟨u1,u2,-⟩:=B1.an aD;obtain⟨v1,v2,-⟩:=B1.an aF;have Y:n=A.length+U1.length+U2.length+V1.length+V2.length+Z.length:=by rw[hn];simp;omega
 have I:∀w',A3 (One g) w w'->w'.cell? ⟨wb,0,none⟩=some (.int .i64 len):=λw' aJ=>aJ.bH hw λe=>X e;have hUV':U1.length+U2.length+(V1.length+V2.length)<=k+1:=by simpa using aI
 have aE:∀(w':World) (d aA:List Pu),w'.ownsRow 0 113 3 (.slice (some ⟨g,0,none⟩) n cap) n (B9 (A++(d++aA)++Z))->d.length=U1.length+V1.length->aA.length=U2.length+V2.length->B1 (Az len) d->B1 (Az len) aA->Bh (Az len) (U1++V1) d->Bh (Az len) (U2++V2) aA->A3 (One g) w w'->
  ∃M,w'.ownsRow 0 113 3 (.slice (some ⟨g,0,none⟩) n cap) n (B9 (A++M++Z))/\M.length=(U1++U2).length+(V1++V2).length/\B1 (Az len) M/\Bh (Az len) ((U1++U2)++(V1++V2)) M/\A3 (One g) w w':=λw' d aA q0 q1 q2 q3 q4 q5 q6 q7=>by
  obtain⟨j1,j2⟩:=KW.e2 aD aF (KW.cO u1 v2 h1) (KW.dA v1 u2 h2) q3 q4 q5 q6;exact⟨d++aA,q0,by simp;omega,j1,j2,q7⟩
 refine⟨λw'=>w'.ownsRow 0 113 3 (.slice (some ⟨g,0,none⟩) n cap) n (B9 (A++(U1++V1)++(U2++(V2++Z))))/\A3 (One g) w w',
  λw'=>∃d,w'.ownsRow 0 113 3 (.slice (some ⟨g,0,none⟩) n cap) n (B9 (A++d++(U2++(V2++Z))))/\d.length=U1.length+V1.length/\B1 (Az len) d/\Bh (Az len) (U1++V1) d/\A3 (One g) w w',
  λH=>⟨?_,hc⟩,λH hy cv=>?_,λw' L H=>?_,λw' L H hy=>?_,λw' L H=>?_,λw' L H hy=>?_⟩
 ·have e:A++(U1++U2)++(V1++V2)++Z=A++(U1++V1)++(U2++(V2++Z)):=by rcases H with rfl|rfl<;>simp
  rwa [e]at h
 ·have e:A++(U1++U2)++(V1++V2)++Z=(A++U1)++U2++V1++(V2++Z):=by simp
  rw[e]at h;have:=Xj wr g cap n (A++U1) U2 V1 (V2++Z) cv H hy (by rw[Y,AY,AY,AY,AY,AY];omega) h;have l1:(A++U1).length=s:=by rw[AY];omega
  rw[l1,em,ee]at this;refine this.mono ?_;rintro x w'⟨rfl,W,r2⟩;refine⟨rfl,?_,hc.Ap r2 λ_ h _=>h⟩;have e:(A++U1)++V1++U2++(V2++Z)=A++(U1++V1)++(U2++(V2++Z)):=by simp
  rwa [e]at W
 ·refine⟨U1++V1,L.1,by simp,?_,Bh.I _,L.2⟩;rcases H with rfl|rfl
  ·simpa using v1
  ·simpa using u1
 ·have:=hk w' g cap n wb len A U1 V1 (U2++(V2++Z)) (by omega) H hy (by rw[Y];simp only[AY];omega) (by have:=L.1;rwa [<-Cc A U1 V1]at this) (λp E=>hT p (by simp at E ⊢;rcases E with E|E<;>simp[E])) u1 v1 hl (I w' L.2) X O;rw[ea,es,aB]at this;refine this.mono ?_;rintro x z⟨rfl,M,W,r2,r3,r4,r5⟩;exact⟨rfl,M,W,r2,r3,r4,L.2.Ap r5 λ_ h _=>h⟩
 ·obtain⟨d,W,r2,r3,r4,r5⟩:=L;refine aE w' d (U2++V2) ?_ r2 (by simp) r3 ?_ r4 (Bh.I _) r5
  ·(have e:A++(d++(U2++V2))++Z=A++d++(U2++(V2++Z)):=by simp);rw[e];exact W
  ·rcases H with rfl|rfl
   ·simpa using v2
   ·simpa using u2
 ·obtain⟨d,W,r2,r3,r4,r5⟩:=L;have lM:(A++d).length=mid:=by rw[AY];omega
  have:=hk w' g cap n wb len (A++d) U2 V2 Z (by omega) H hy (by rw[Y];simp only[AY];omega) (by have e:A++d++U2++V2++Z=A++d++(U2++(V2++Z)):=(by simp);rw[e];exact W) (λp E=>hT p (by simp at E ⊢;rcases E with E|E<;>simp[E])) u2 v2 hl (I w' r5) X O;rw[lM,show mid+U2.length=e by omega,eb]at this;refine this.mono ?_;rintro x z⟨rfl,M,q1,q2,q3,q4,q5⟩;refine⟨rfl,aE z d M ?_ r2 q2 r3 q3 r4 q4 (r5.Ap q5 λ_ h _=>h)⟩;rw[<-Cc A d M];exact q1
end
section
variable {w wr:World} {g cap n k wb a m b mid nn s0 r0 s:Nat} {len:Int} {A U V Z D:List Pu}
def Wl(hk:MN k)(aJ:U.length+V.length<=k+1)(aN:2<=U.length)(aP:2<=V.length)(hn:n=(A++U++V++Z).length)(hD:D=A++U++V++Z)(h:wr.ownsRow 0 113 3 (.slice (some ⟨g,0,none⟩) n cap) n (B9 D))(aQ:A3 (λ_=>False) w wr)(hT:∀p∈U++V,AN p.2.1)(aK:B1 (Az len) U)(aM:B1 (Az len) V)(hl:1<=len/\len<=4611686018427387904)(hw:w.cell? ⟨wb,0,none⟩=some (.int .i64 len))(aL:wb≠g)(aH:n<=4294967296)(ha:A.length=a)(hm:a+U.length=m)(hb:m+V.length=b)(O:(a+b)/2=mid)(aO:nn=mid+m)(aG:if mid<m then s0=nn-b/\r0=mid else s0=a/\r0=m)(hs:G0 (Az len) D nn s0 r0 s s):
 ∃(e:Nat) (u1 H I v2:Bool) (aE aD:World->Prop),(wrap64 ((nn:Int)-(s:Int))=(e:Int)/\IntKind.i64.wrap ((nn:Int)-(s:Int))=(e:Int))/\
  (decide (s<m)=H/\decide (m<e)=I/\decide (a<s)=u1/\decide (s<mid)=I/\decide (mid<e)=H/\decide (e<b)=v2)/\((u1=true\/H=true)/\(I=true\/v2=true))/\
  ((H=false\/I=false)->aE wr)/\
  (H=true->I=true->∀cv,Calls Tryz.prog 263 #[.slice (some ⟨g,0,none⟩) n cap,.int .i64 s,.int .i64 m,.int .i64 e,cv] wr λx w'=>x=.returned (.tuple #[])/\aE w')/\
  (∀w',aE w'->(u1=false\/I=false)->aD w')/\
  (∀w',aE w'->u1=true->I=true->Calls Tryz.prog 244 #[.slice (some ⟨g,0,none⟩) n cap,.int .i64 a,.int .i64 s,.int .i64 mid,.func (Fn.func 155) #[] #[.pointer (some ⟨wb,0,none⟩)]] w' λx Y=>x=.returned (.tuple #[])/\aD Y)/\
  (∀w',aD w'->(H=false\/v2=false)->∃M,w'.ownsRow 0 113 3 (.slice (some ⟨g,0,none⟩) n cap) n (B9 (A++M++Z))/\M.length=U.length+V.length/\B1 (Az len) M/\Bh (Az len) (U++V) M/\A3 (One g) w w')/\
  (∀w',aD w'->H=true->v2=true->Calls Tryz.prog 244 #[.slice (some ⟨g,0,none⟩) n cap,.int .i64 mid,.int .i64 e,.int .i64 b,.func (Fn.func 155) #[] #[.pointer (some ⟨wb,0,none⟩)]] w' λx Y=>x=.returned (.tuple #[])/\
   ∃M,Y.ownsRow 0 113 3 (.slice (some ⟨g,0,none⟩) n cap) n (B9 (A++M++Z))/\M.length=U.length+V.length/\B1 (Az len) M/\Bh (Az len) (U++V) M/\A3 (One g) w Y):=by
 have hbn:b<=n:=by rw[hn];simp;omega
 have hs3:=hs.2.2.1;have hg:r0<=nn/\nn<=8589934592/\a<mid/\mid<b:=by split at aG<;>omega
 obtain⟨g3,g5,g6,g7⟩:=hg;obtain⟨U1,U2,V1,V2,hU,hV,c1,c2,c3,c4,c5⟩:=A1h hD aN aP (by rw[ha,hm,hb,O];exact aO) (by rw[ha,hm,hb,O];exact aG) hs;rw[ha,hm,hb,O]at c3;rw[ha]at c1;rw[ha,hm]at c2;generalize he:nn-s=e at c2;have lU:U.length=U1.length+U2.length:=by rw[hU,AY]
 have lV:V.length=V1.length+V2.length:=by rw[hV,AY]
 have aI:=@List.length_pos_iff _ U1;have aA:=@List.length_pos_iff _ U2;have aB:=@List.length_pos_iff _ V1;have aF:=@List.length_pos_iff _ V2;obtain⟨aE,aD,p1,p2,p3,p4,p5,p6⟩:=Wm (w:=w) (wr:=wr) (g:=g) (cap:=cap) (n:=n) (wb:=wb) (a:=a) (s:=s) (m:=m) (e:=e) (b:=b) (mid:=mid) (len:=len) (A:=A) (U1:=U1) (U2:=U2) (V1:=V1) (V2:=V2) (Z:=Z) hk (by rw[<-hU,<-hV];exact aJ) (by rw[<-hU,<-hV];exact hn)
  (by rw[<-hU,<-hV,<-hD];exact h) (aQ.aa λ_ _ h=>h.elim) (by rw[<-hU,<-hV];exact hT) (by rw[<-hU];exact aK) (by rw[<-hV];exact aM) hl hw aL aH c4 c5 ha c1 (by omega) (by omega) (by omega) (by omega) g6 g7
 rw[<-hU,<-hV]at p5 p6;obtain⟨u1,W⟩:∃u1,decide (U1≠[])=u1:=⟨_,rfl⟩;obtain⟨H,z⟩:∃H,decide (U2≠[])=H:=⟨_,rfl⟩;obtain⟨I,d⟩:∃I,decide (V1≠[])=I:=⟨_,rfl⟩;obtain⟨v2,X⟩:∃v2,decide (V2≠[])=v2:=⟨_,rfl⟩;have E:∀ {L:List Pu} {x:Bool},decide (L≠[])=x->(x=true->L≠[])/\(x=false->L=[]):=λh=>by
  subst h;exact⟨λh=>by simpa using h,λh=>by simpa using h⟩
 refine⟨e,u1,H,I,v2,aE,aD,Gq (by omega) (by omega),⟨z ▸ L8.2 (by rw[<-aA];omega),d ▸ L8.2 (by rw[<-aB];omega),W ▸ L8.2 (by rw[<-aI];omega),d ▸ L8.2 (by rw[<-aB];omega),z ▸ L8.2 (by rw[<-aA];omega),X ▸ L8.2 (by rw[<-aF];omega)⟩,⟨?_,?_⟩,
  λh=>p1 (h.imp (E z).2 (E d).2),λh h'=>p2 ((E z).1 h) ((E d).1 h'),λw' q h=>p3 w' q (h.imp (E W).2 (E d).2),λw' q h h'=>p4 w' q ((E W).1 h) ((E d).1 h'),λw' q h=>p5 w' q (h.imp (E z).2 (E X).2),λw' q h h'=>p6 w' q ((E z).1 h) ((E X).1 h')⟩
 ·rw[<-W,<-z];simp only[DG,<-aI,<-aA];omega
 ·rw[<-d,<-X];simp only[DG,<-aB,<-aF];omega
end
section
variable {w w':World} {g cap n:Nat}
def Wr{k:Nat}(hk:MN k)(w:World)(g cap n wb:Nat)(len:Int)(A U V Z:List Pu)(a0:U.length+V.length<=k+1)(hU:2<=U.length)(hV:2<=V.length)(hn:n=(A++U++V++Z).length)(h:w.ownsRow 0 113 3 (AJ g n cap) n (B9 (A++U++V++Z)))(hT:∀p∈U++V,AN p.2.1)(aQ:B1 (Az len) U)(a4:B1 (Az len) V)(hl:1<=len/\len<=4611686018427387904)(hw:A7 w wb 0 (A0 len))(aW:wb≠g)(I:n<=4294967296):
 Ag 244 #[AJ g n cap,A0 A.length,A0 ((A.length+U.length:Nat):Int),A0 ((A.length+U.length+V.length:Nat):Int),.func (Fn.func 155) #[] #[A5 wb]] w (Al (.tuple #[]) λw'=>
  ∃M,w'.ownsRow 0 113 3 (AJ g n cap) n (B9 (A++M++Z))/\M.length=U.length+V.length/\B1 (Az len) M/\Bh (Az len) (U++V) M/\A3 (One g) w w'):=by
 obtain⟨D,hD⟩:∃D,D=A++U++V++Z:=⟨_,rfl⟩;obtain⟨a,ha⟩:∃a,A.length=a:=⟨_,rfl⟩;obtain⟨m,hm⟩:∃m,a+U.length=m:=⟨_,rfl⟩;obtain⟨b,hb⟩:∃b,m+V.length=b:=⟨_,rfl⟩;obtain⟨mid,H⟩:∃mid,(a+b)/2=mid:=⟨_,rfl⟩;obtain⟨nn,aF⟩:∃nn,nn=mid+m:=⟨_,rfl⟩;obtain⟨s0,r0,E⟩:∃s0 r0,if mid<m then s0=nn-b/\r0=mid else s0=a/\r0=m:=by
  split
  ·exact⟨_,_,rfl,rfl⟩
  ·exact⟨_,_,rfl,rfl⟩
 have aN:b<=n:=by rw[hn];simp;omega
 have bF:s0<r0/\r0<b/\r0<=nn/\nn<=s0+b/\nn<=8589934592/\a<mid/\mid<b/\a<=s0/\a+r0<=nn:=by split at E<;>omega
 obtain⟨g1,g2,g3,g4,g5,g6,g7,g8,g9⟩:=bF;have aB:Hid (∀s r,s0<=s->s<r->r<=r0->_):=λs r q1 q2 q3=>Wn (a:=a) (nn:=nn) I aN q1 q2 q3 g2 g3 g4 g5 g8 g9;rw[<-hD]at h;have Y:Hid (∀wr s,A3 Ab w wr->G0 (Az len) D nn s0 r0 s s->_):=λwr s q1 q2=>Wl hk a0 hU hV hn hD (Ay h λg' hg=>q1.Ao g' (AB h hg) (λh=>h)) q1 hT aQ a4 hl hw aW I ha hm hb H aF E q2;have a6:Hid (∀z,A3 Ab w z->∀q (hq:q<n) x,D[q]?=some x->A7 z g (q*3) (A0 x.1)/\A7 z g (q*3+1) (A0 x.2.1)/\A7 z g (q*3+2) (A0 x.2.2)):=λz hx q hq x bQ=>by
  obtain⟨e1,e2⟩:=Hr.1 bQ;obtain⟨y1,y2,y3⟩:=AW.bA h q e1 x e2;exact⟨hx.al y1,hx.al y2,hx.al y3⟩
 have aE:Hid (∀q,a<=q->q<b->∃x,D[q]?=some x/\AN x.2.1):=λq hq1 hq2=>by
  obtain⟨j,rfl⟩:∃j,q=A.length+j:=⟨q-A.length,by omega⟩;have hj:j<(U++V).length:=by simp;omega
  have e:D[A.length+j]?=some ((U++V)[j]'hj):=by
   rw[hD,Cc A U V,IE (by simp at hj ⊢;omega),Hs (by omega)];simp only[A3v];exact E2 hj
  exact⟨_,e,hT _ (BV hj)⟩
 obtain⟨lu,aJ⟩:∃lu,U.length=lu:=⟨_,rfl⟩;obtain⟨lv,aO⟩:∃lv,V.length=lv:=⟨_,rfl⟩;obtain⟨ab,aL⟩:∃ab,a+b=ab:=⟨_,rfl⟩;obtain⟨p,hp⟩:∃p,nn-1=p:=⟨_,rfl⟩;obtain⟨⟨w1,bB⟩,⟨w2,bN⟩,f1,f2,⟨w3,a8⟩,w4,⟨w5,bC⟩,⟨w6,bD⟩,⟨w7,bE⟩⟩:=Wo (lu:=lu) (lv:=lv) I aN (by rw[<-aJ];exact hm) (by rw[<-aO];exact hb) aL (by rw[<-aL];exact H) aF hp (by rw[<-aJ];exact hU) (by rw[<-aO];exact hV);have bT:=Mo (GA.1 f1);have bK:=Mo (GA.1 f2);rw[hp]at aB;have O:Hid (if mid<m then (wrap64 ((nn:Int)-(b:Int))=(s0:Int)/\IntKind.i64.wrap ((nn:Int)-(b:Int))=(s0:Int))/\r0=mid else s0=a/\r0=m):=by
  unfold Hid;split at E
  ·rename_i aA;rw[Ah aA];obtain⟨q1,q2⟩:=Wp H aF aA E.1 g5;exact⟨Gq q1 q2,E.2⟩
  ·rename_i aA;rw[Ad aA];exact E
 have aR:n<=cap/\cap<=9223372036854775807:=by
  obtain⟨a',c',e,h1,h2,_⟩:=B8 h;cases e;unfold maxLen at h2;omega
 obtain⟨hc1,hc2⟩:=aR;have bZ:=A1 hw;have a1:=A1 hl;have b3:=A1 hp;have a3:=A1 <| ER g1;rw[ha,hm,hb];clear h hT hw hl aW hk I hn ha hm hb H aF E g1 g2 g3 g4 g5 g6 g7 g8 g9 aL aJ aO a0 hU hV aQ a4 hD aN hp;by_cases aD:mid<m
 all_goals
  have a5:=O.o
  first
   | rw[Ah aD]at a5
   | rw[Ad aD]at a5
 focus
  obtain⟨⟨x1,x2⟩,hr⟩:=a5;have bR:=A1 hr;have bJ:Hid (∀_:Nat,s0=s0):=λ_=>rfl;have bM:=EU.2 aD;clear hr
 rotate_left
 focus
  obtain⟨hs,hr⟩:=a5;have bR:=A1 hr;have bJ:Hid (∀_:Nat,s0=a):=λ_=>hs;have bM:=Mo (by omega);clear hr hs
 all_goals
  clear O aD
  go_enter func244,ntmps244
  go_wp2;go_loopw [20,21] (λiv jv wr=>∃(s r:Nat),iv=A0 (s:Int)/\jv=A0 (r:Int)/\Hid (G0 (Az len) D nn s0 r0 s r/\A3 Ab w wr)) (λiv jv _=>(intOf jv).toNat-(intOf iv).toNat)
  case atStart=>exact⟨s0,r0,by first|go_num|rw[bJ.o 0],by rw[bR.o],G0.fq D nn a3.o,A3.I _ _⟩
  case round=>
   obtain⟨s,r,rfl,rfl,hI⟩:=hrel;obtain⟨i1,i2⟩:=hI.o;by_cases X:s<r
   ·obtain⟨n1,n2,n3,n4,n5,n6,n7,n8,n9,bL,l1,l2,l3,l4⟩:=aB.o s r i1.1 X i1.2.2.1;generalize hc:(s+r)/2=c at n3 n4 n5 n6 n7 n8 n9 bL l1 l2 l3 l4;generalize hd:p-c=d at n7 n8 n9 l3 l4;generalize aT:s+r=sr at n1 n2 n3;have hp:=b3.o;obtain⟨x,hx,aU⟩:=aE.o c l1 l2;obtain⟨y,hy,aS⟩:=aE.o d l3 l4;(have aM:D[nn-1-c]?=some y:=by rw[hp,hd];exact hy);have bI:Hid (∀z,A3 Ab wr z->(A7 z g (d*3) (A0 y.1)/\A7 z g (d*3+1) (A0 y.2.1)/\A7 z g (d*3+2) (A0 y.2.2))/\A7 z g (c*3) (A0 x.1)/\A7 z g (c*3+1) (A0 x.2.1)/\A7 z g (c*3+2) (A0 x.2.2)):=λz aI=>by
     have aZ:=i2.tr aI;exact⟨a6.o z aZ d n7 y hy,a6.o z aZ c n6 x hx⟩
    have a2:=A1 (λz aI=>Mz z wb len y x aS aU a1.o aI);have aG:=My (len:=len) (p:=y) (q:=x);generalize bP:GK len y x=cc at a2 aG;have aH:=i2.al bZ.o
    have b7:Hid (¬cc<0->G0 (Az len) D nn s0 r0 (c+1) r):=λhc=>i1.up ⟨n4,n5⟩ hx aM (by
     cases hk:Az len y x with
     | false=>rfl
     | true=>exact absurd (aG.2 hk) hc)
    have bS:Hid (cc<0->G0 (Az len) D nn s0 r0 s c):=λhc=>i1.eO ⟨n4,n5⟩ hx aM (aG.1 hc);have DI:=EU.2 n7;have CI:=EU.2 n6;have D0:=C3 d;have C0:=C3 c;have tD:=Et d;have tC:=Et c;have hsrI:=EU.2 X;obtain⟨xa,xb,xc⟩:=x;obtain⟨ya,yb,yc⟩:=y;unfold Dt at a2;dsimp only at a2 bI;have bW:=bI.o wr.drew (A3.I _ wr).af;have aP:=A1 (a2.o wr.drew aH);have W:=A1 (And.intro i2 (And.intro n4 n5));clear hI i1 i2 n4 n5 n6 n7 hc hd aT hx hy aM aU aS bP a2 aH X aB a6 aE aG hp Y l1 l2 l3 l4;rcases PZ (cc<0) with L|L
    focus
     have aK:=Int.not_le.2 L;have bA:=CH L
    rotate_left
    focus
     have aK:=PX.1 L;have bA:=CZ L
    all_goals
     go_wp2;clear n1 n2 n3;refine BP (λw'=>(A7 w' g (d*3) (A0 ya)/\A7 w' g (d*3+1) (A0 yb)/\A7 w' g (d*3+2) (A0 yc))/\A7 w' g (c*3) (A0 xa)/\A7 w' g (c*3+1) (A0 xb)/\A7 w' g (c*3+2) (A0 xc)) 12
      (Bq [0,1,2,3,4,5,6,7,8,9,10,11] [11]) bW ?_
     iterate 11 (refine Bg ?_;(try simp only[An]))
     refine Bw λK hK=>?_;go_simp;refine aP.m ?_;rintro e w6⟨rfl,aY⟩;have k6:=((A3.I Ab wr).af).tr aY;refine hK _ _ (bI.o w6 k6) (λhS=>?_);have b0:=A1 k6;clear hK K hS aY k6 bW aP
     (try simp only[An])
     refine Bl ?_;simp only[BI,BH];go_wp2;go_roundw
     case rel=>
      obtain⟨f1,f2,f3⟩:=W.o
      first
       | exact⟨c+1,r,rfl,rfl,b7.o (by first|exact aK|exact PX.2 aK),f1.tr b0.o⟩
       | exact⟨s,c,rfl,rfl,bS.o L,f1.tr b0.o⟩
     case measure=>
      obtain⟨f1,f2,f3⟩:=W.o
      first
       | exact Oo f2 f3
       | exact Oq f2 f3
   ·obtain rfl:s=r:=Jg i1.2.1 (Iz X);obtain⟨e,u1,u2,v1,v2,R1,R2,⟨y1,y2⟩,⟨b6,b8,b9,b5,b4,cA⟩,⟨ou,ov⟩,p1,p2,p3,p4,p5,p6⟩:=Y.o wr s i2 i1;have bH:=A1 p1;have P2:=A1 p2;have bG:=A1 p3;have bX:=A1 p4;have bO:=A1 p5;have b1:=A1 p6;have bY:=A1 ou;have bV:=A1 ov;have hno:¬((s:Int)<(s:Int)):=LF _;clear hI i1 i2 X aB a6 aE Y p1 p2 p3 p4 p5 p6 ou ov a1 bZ bR bJ b3 a3 w1 bB w2 bN f1 bT f2 bK w3 a8 w4 w5 bC w6 bD w7 bE;cases u1<;>cases u2<;>cases v1<;>cases v2
    all_goals first
     | (exfalso;have:=bY.o;revert this;decide)
     | (exfalso;have:=bV.o;revert this;decide)
     | skip
    all_goals
     simp only[DG,decide_eq_false_iff_not]at b6 b8 b9 b5 b4 cA
    all_goals first
     | have b2:=A1 (P2.o rfl rfl (.func (Fn.func 155) #[] #[A5 wb]))
     | have a7:=A1 (bH.o (.inl rfl))
     | have a7:=A1 (bH.o (.inr rfl))
    all_goals first
     | have aV:=A1 (λw' q=>bX.o w' q rfl rfl)
     | have aV:=A1 (λw' q=>bG.o w' q (.inl rfl))
     | have aV:=A1 (λw' q=>bG.o w' q (.inr rfl))
    all_goals first
     | have aX:=A1 (λw' q=>b1.o w' q rfl rfl)
     | have aX:=A1 (λw' q=>bO.o w' q (.inl rfl))
     | have aX:=A1 (λw' q=>bO.o w' q (.inr rfl))
    all_goals clear bH P2 bG bX bO b1 bY bV
    all_goals go_wp2_with (fail)
    all_goals try
     (go_at_call 263;refine b2.m ?_;rintro x w4⟨rfl,hR⟩;have a7:=A1 hR;clear hR b2;go_wp2_with (fail))
    all_goals first
     | (go_at_call 244;refine(aV.o _ a7.o).mono ?_;rintro x w5⟨rfl,hR⟩;have bU:=A1 hR;clear hR aV;go_wp2_with (fail))
     | have bU:=A1 (aV.o _ a7.o)
    all_goals first
     | (go_at_call 244;refine(aX.o _ bU.o).mono ?_;rintro x w6⟨rfl,hR⟩;have a9:=A1 hR;clear hR aX;go_wp2_with (fail))
     | have a9:=A1 (aX.o _ bU.o)
    all_goals go_end0
    all_goals first
     | exact⟨rfl,a9.o⟩
     | exact⟨rfl,by simpa only[Cc] using a9.o⟩
end
def QG:∀k,MN k
 | 0=>λw g cap n wb len A U V Z hk hu Y=>by
  have:=Ji.2 hu;omega
 | k+1=>λw g cap n wb len A U V Z hk hu Y L h O E I X W z d=>by
  have lu:=Ji.2 hu;have lv:=Ji.2 Y;by_cases h1:U.length=1
  ·obtain⟨x,rfl⟩:=A3G.1 h1;(have e:A++[x]++V++Z=A++x::(V++Z):=by simp);rw[e]at L h;have:=Wq w g cap n wb len A V Z x Y L h (by simpa using O) I X W z d;simp only[Vf]at this ⊢;refine this.mono ?_;rintro x' w'⟨rfl,M,q1,q2,q3,q4,q5⟩;exact⟨rfl,M,q1,by rw[q2];omega,q3,by simpa using q4,q5⟩
  ·by_cases h2:V.length=1
   ·obtain⟨x,rfl⟩:=A3G.1 h2;(have e:A++U++[x]++Z=A++(U++x::Z):=by simp);rw[e]at L h;have:=Ws w g cap n wb len A U Z x (by omega) L h (λp H=>O p (by simp at H ⊢;rcases H with H|H<;>simp[H])) E X W z d;simp only[Vf]at this ⊢;exact this
   ·exact Wr (QG k) w g cap n wb len A U V Z hk (by omega) (by omega) L h O E I X W z d
section
variable {α:Type} {lt:α->α->Bool}
def Gk(lt:α->α->Bool)(a b:Nat)(l l':List α):Prop:=l'.length=l.length/\B1 lt ((l'.drop a).take (b-a))/\∀p q,p+q<=a\/b<=p->(l'.drop p).take q=(l.drop p).take q
def SC{A M M' Z:List α}(h:M'.length=M.length)(d:B1 lt M'):Gk lt A.length (A.length+M.length) (A++M++Z) (A++M'++Z):=by
 refine⟨by simp[h],?_,λp q hp=>?_⟩
 ·rw[A1j rfl (by omega) (λhx=>by omega)];exact d
 ·exact(A1i h p q (by omega))
def Eu.a7{l l':List α}{C j b:Nat}(h:Eu lt C (λi=>i<j) l)(z:Gk lt (j*C) b l l')(H:b=j*C+C\/(b=l.length/\l.length<=j*C+C))(hj:j*C<=l.length):Eu lt C (λi=>i<j+1) l':=λi d=>by
 rcases Nat.lt_or_eq_of_le (A3s d) with d|rfl
 ·rw[z.2.2 _ _ (.inl ?_)]
  ·exact h i d
  ·have:=Hq C (show i+1<=j from d);rw[HM]at this;omega
 ·have E:=z.2.1;rcases H with rfl|⟨rfl,H⟩
  ·rwa [A3v]at E
  ·have e:(l'.drop (i*C)).take C=(l'.drop (i*C)).take (l.length-i*C):=by
    rw[Er (by rw[Cu,z.1];omega),Er (by rw[Cu,z.1];omega)]
   rw[e];exact E
def Eu.cE{l l':List α}{B a b j:Nat}(h:Eu lt B (λi=>j<=i) l)(E:Gk lt a b l l')(z:b<=j*B):Eu lt B (λi=>j<=i) l':=λi d=>by
 rw[E.2.2 _ _ (.inr (AM z (Hq B d)))];exact h i d
def Eu.cL{l:List α}{C j:Nat}(h:Eu lt C (λi=>i<j) l)(z:l.length<=j*C):Eu lt C (λ_=>True) l:=λi _=>by
 rcases F7 i j with d|d
 ·exact h i d
 ·rw[N7 (AM z (Hq C d)),List.take_nil];exact List.Pairwise.nil
def Gk.aH{l:List α}{a b:Nat}(h:B1 lt ((l.drop a).take (b-a))):Gk lt a b l l:=⟨rfl,h,λ_ _ _=>rfl⟩
def Ld{l:List α}{a q r:Nat}(h:B1 lt ((l.drop a).take q))(d:r<=q):B1 lt ((l.drop a).take r):=by
 have:=h.b9 r
 rwa [Kd,MV d]at this
end
def WM{n B C:Nat}(hn:n<=4294967296)(hB:B<=n)(hC:2*B=C):
 wrap64 (2*(B:Int))=(C:Int)/\IntKind.i64.wrap (2*(B:Int))=(C:Int)/\wrap64 ((B:Int)*2)=(C:Int)/\IntKind.i64.wrap ((B:Int)*2)=(C:Int):=by
 have d:=Gq (x:=2*(B:Int)) (k:=C) (by omega) (by omega);have h:=Gq (x:=(B:Int)*2) (k:=C) (by omega) (by omega);exact⟨d.1,d.2,h.1,h.2⟩
def Zd{n b c:Nat}(h:b<=n)(hc:b+20=c):n+21-(intOf (A0 (c:Int))).toNat<n+21-(intOf (A0 (b:Int))).toNat:=by simp[intOf];omega
def Zc{n b c C:Nat}(h:b<=n)(hC:20<=C)(hc:b+C=c):n+C+1-(intOf (A0 (c:Int))).toNat<n+C+1-(intOf (A0 (b:Int))).toNat:=by simp[intOf];omega
def SY{n B C:Nat}(h:B<n)(hB:20<=B)(hC:2*B=C):n-(intOf (A0 (C:Int))).toNat<n-(intOf (A0 (B:Int))).toNat:=by simp[intOf];omega
def A2h(a:Nat){B:Nat}(h:20<=B):a<a+B/\a+B<a+2*B/\a+B-a<=B/\a+2*B-(a+B)<=B/\20<=2*B:=by omega
def A02{a B n:Nat}(h:¬a+2*B<=n):n<=a+2*B/\n-(a+B)<=B/\(¬a+B<n->n-a<=B):=by omega
section
variable {w w':World} {g cap n wb:Nat} {len:Int} {l:List Pu}
def Way(g cap n:Nat)(len:Int)(l:List Pu)(w h:World)(d:List Pu):Prop:=h.ownsRow 0 113 3 (.slice (some ⟨g,0,none⟩) n cap) n (B9 d)/\d.length=n/\Bh (Az len) l d/\A3 (One g) w h
def VW(hT:∀p∈l,AN p.2.1)(hl:1<=len/\len<=4611686018427387904)(hw:A7 w wb 0 (A0 len))(I:wb≠g)(L:n<=4294967296)(X:World)(d:List Pu)(a b:Nat)(H:a<b)(hb:b<=n)(h:Way g cap n len l w X d):
 Ag 243 #[AJ g n cap,A0 a,A0 b,.func (Fn.func 155) #[] #[A5 wb]] X (Al (.tuple #[]) λw'=>∃E,Way g cap n len l w w' E/\Gk (Az len) a b d E):=by
 obtain⟨h1,h2,h3,h4⟩:=h;subst h2;refine(Ts X g cap wb len d a b H hb h1 (λp hp=>hT p (h3.bG.DB (Fj len) hp)) hl (h4.bH hw λe=>I e) I L).mono ?_;rintro e w'⟨rfl,m,W,q2,q3,q4,q5⟩;have hM:((d.drop a).take (b-a)).length=b-a:=by rw[BU,Cu];omega
 have Y:(d.take a).length=a:=by rw[BU];omega
 have O:d=d.take a++(d.drop a).take (b-a)++d.drop b:=by
  have:=QQ d (ER H) (As b);simpa using this
 have hN:=SC (lt:=Az len) (A:=d.take a) (Z:=d.drop b) (q2.trans hM.symm) q4;rw[<-O,Y,hM,show a+(b-a)=b by omega]at hN;have z:=hN.1;refine⟨rfl,d.take a++m++d.drop b,⟨?_,z,?_,h4.tr q5⟩,hN⟩
 ·unfold AW at W;rw[z]at W;exact W
 ·refine h3.Ap ?_;have e:(d.take b).drop a=(d.drop a).take (b-a):=List.drop_take ..;rw[e]at q3;have:=((Bh.I (lt:=Az len) (d.take a)).an q3).an (Bh.I (d.drop b))
  rwa [<-O]at this
def VV(hT:∀p∈l,AN p.2.1)(hl:1<=len/\len<=4611686018427387904)(hw:A7 w wb 0 (A0 len))(I:wb≠g)(O:n<=4294967296)(wx:World)(d:List Pu)(a m b:Nat)(Y:a<m)(aB:m<b)(hb:b<=n)(h:Way g cap n len l w wx d)(s1:B1 (Az len) ((d.drop a).take (m-a)))(s2:B1 (Az len) ((d.drop m).take (b-m))):
 Ag 244 #[AJ g n cap,A0 a,A0 m,A0 b,.func (Fn.func 155) #[] #[A5 wb]] wx (Al (.tuple #[]) λw'=>∃z,Way g cap n len l w w' z/\Gk (Az len) a b d z):=by
 obtain⟨h1,h2,h3,h4⟩:=h;have W:=QQ d (ER Y) (ER aB);have lA:(d.take a).length=a:=by rw[BU];omega
 have E:((d.drop a).take (m-a)).length=m-a:=by rw[BU,Cu];omega
 have H:((d.drop m).take (b-m)).length=b-m:=by rw[BU,Cu];omega
 obtain⟨A,hA⟩:∃A,d.take a=A:=⟨_,rfl⟩;obtain⟨U,hU⟩:∃U,(d.drop a).take (m-a)=U:=⟨_,rfl⟩;obtain⟨V,hV⟩:∃V,(d.drop m).take (b-m)=V:=⟨_,rfl⟩;obtain⟨Z,hZ⟩:∃Z,d.drop b=Z:=⟨_,rfl⟩;rw[hA,hU,hV,hZ]at W;rw[hA]at lA;rw[hU]at E s1;rw[hV]at H s2;subst W;have aA:U≠[]:=λe=>by rw[e]at E;simp at E;omega
 have X:V≠[]:=λe=>by rw[e]at H;simp at H;omega
 have:=QG _ wx g cap n wb len A U V Z (As _) aA X h2.symm h1 (λp L=>hT p (h3.bG.DB (Fj len) (by simp at L ⊢;rcases L with L|L<;>simp[L]))) s1 s2 hl (h4.bH hw λe=>I e) I O;rw[lA,E,H,show a+(m-a)=m by omega,show m+(b-m)=b by omega]at this;refine this.mono ?_;rintro e w'⟨rfl,M,q1,q2,q3,q4,q5⟩;have hN:=SC (lt:=Az len) (A:=A) (M:=U++V) (M':=M) (Z:=Z) (by rw[AY,E,H];exact q2) q3;have ee:A++(U++V)++Z=A++U++V++Z:=by simp
 rw[ee,lA,AY,E,H,show a+(m-a+(b-m))=b by omega]at hN;refine⟨rfl,A++M++Z,⟨q1,hN.1.trans h2,h3.Ap ?_,h4.tr q5⟩,hN⟩;have:=((Bh.I (lt:=Az len) A).an q4).an (Bh.I Z)
 rwa [ee]at this
def WL(w:World)(g cap wb:Nat)(len:Int)(l:List Pu)(X:l.length<=4294967296)(h:AW w (AJ g l.length cap) l)(hT:∀p∈l,AN p.2.1)(hl:1<=len/\len<=4611686018427387904)(hw:A7 w wb 0 (A0 len))(aL:wb≠g):
 Ag 202 #[AJ g l.length cap,A0 l.length,.func (Fn.func 155) #[] #[A5 wb]] w (Al (.tuple #[]) λw'=>AW w' (AJ g l.length cap) (E4 (Az len) l)/\A3 (One g) w w'):=by
 obtain⟨n,hn⟩:∃n,l.length=n:=⟨_,rfl⟩;have h0:Hid (Way g cap n len l w w l):=by unfold AW at h;rw[hn]at h;exact⟨h,hn,Bh.I _,A3.I _ _⟩
 rw[hn]at X ⊢;have aR:Hid (∀wx z a b,a<b->b<=n->Way g cap n len l w wx z->_):=λwx z a b q1 q2 q3=>VW hT hl hw aL X wx z a b q1 q2 q3;have aK:Hid (∀wx z a m b,a<m->m<b->b<=n->Way g cap n len l w wx z->_->_->_):=λwx z a m b q1 q2 q3 q4 q5 q6=>VV hT hl hw aL X wx z a m b q1 q2 q3 q4 q5 q6;have aU:Hid (∀wx,Ag 243 #[AJ g n cap,A0 n,A0 n,.func (Fn.func 155) #[] #[A5 wb]] wx (Al (.tuple #[]) λw'=>wx=w')):=λwx=>Tr wx _ _ n n (by omega) (by omega);have a0:Hid (∀B C,B<=n->2*B=C->_):=λB C q1 q2=>WM (B:=B) (C:=C) X q1 q2;have a6:Hid (∀a b c m B C:Nat,a<=n->B<=n->2*B=C->a+C=b->b+C=c->a+B=m->(wrap64 ((a:Int)+(B:Int))=(m:Int)/\IntKind.i64.wrap ((a:Int)+(B:Int))=(m:Int))/\(wrap64 ((b:Int)+(C:Int))=(c:Int)/\IntKind.i64.wrap ((b:Int)+(C:Int))=(c:Int))):=λa b c m B C q1 q2 q3 q4 q5 q6=>⟨Gq (by omega) (by omega),Gq (by omega) (by omega)⟩
 have aZ:Hid (∀a b c:Nat,a<=n->a+20=b->b+20=c->wrap64 ((b:Int)+20)=(c:Int)/\IntKind.i64.wrap ((b:Int)+20)=(c:Int)):=λa b c L W hc=>Gq (by omega) (by omega);have aX:Hid (∀w' z,Way g cap n len l w w' z->B1 (Az len) z->AW w' (AJ g n cap) (E4 (Az len) l)/\A3 (One g) w w'):=λw' z q1 q2=>by
  obtain⟨a1,a2,a3,a4⟩:=q1;have e1:=(Fj len).eC q2 a3;refine⟨?_,a4⟩;unfold AW;rw[<-e1,a2];exact a1
 go_enter func202,ntmps202
 go_wp2;go_loopw [7,8] (λav bv wr=>∃(j:Nat) (z:List Pu),av=A0 ((j*20:Nat):Int)/\bv=A0 ((j*20+20:Nat):Int)/\Hid (j*20<=n/\Way g cap n len l w wr z/\Eu (Az len) 20 (λi=>i<j) z)) (λ_ bv _=>n+21-(intOf bv).toNat)
 case atStart=>exact⟨0,l,by go_num,by go_num,Cf _,h0.o,λi hi=>absurd hi (MT i)⟩
 case round=>
  obtain⟨j,z,rfl,rfl,hI⟩:=hrel;obtain⟨i1,i2,i3⟩:=hI.o;obtain⟨a,L⟩:∃a,j*20=a:=⟨_,rfl⟩;obtain⟨b,W⟩:∃b,a+20=b:=⟨_,rfl⟩;obtain⟨c,hc⟩:∃c,b+20=c:=⟨_,rfl⟩;have Y:(j+1)*20=b:=by rw[HM,L];exact W
  have aB:=A1 (And.intro L (And.intro Y hc));rw[L]at i1 ⊢;rw[W];obtain⟨z1,z2⟩:=aZ.o a b c i1 W hc;have E:=i2.2.1;by_cases H:b<=n
  ·have aH:=Nd.2 H;have aY:=A1 (aR.o wr z a b (by rw[<-W];exact Nat.lt_add_of_pos_right (by decide)) H i2);have K:Hid (∀d,Gk (Az len) a b z d->Eu (Az len) 20 (λi=>i<j+1) d):=λd O=>i3.a7 (by rw[L];exact O) (.inl (by rw[L];exact W.symm)) (by rw[L,E];exact i1);have aQ:=A1 H;go_wp2_with (go_at_call 243;refine aY.m ?_;rintro e w2⟨rfl,d,hW,O⟩;have aF:=A1 hW;have I:=A1 (K.o d O));go_roundw
   case rel=>exact⟨j+1,d,by rw[aB.o.2.1],by rw[aB.o.2.1,aB.o.2.2],by rw[aB.o.2.1];exact aQ.o,aF.o,I.o⟩
   case measure=>
    exact Zd aQ.o aB.o.2.2
  ·have aH:¬((b:Int)<=(n:Int)):=λh=>H (Nd.1 h);have K:Hid (∀d,Gk (Az len) a n z d->Eu (Az len) 20 (λ_=>True) d):=λd O=>(i3.a7 (by rw[L];exact O) (.inr ⟨E.symm,by rw[L,E];rw[W];exact ER (Nat.lt_of_not_le H)⟩) (by rw[L,E];exact i1)).cL (by rw[O.1,Y,E];exact ER (Nat.lt_of_not_le H))
   have aY:Hid (Ag 243 #[AJ g n cap,A0 a,A0 n,.func (Fn.func 155) #[] #[A5 wb]] wr (Al (.tuple #[]) λw'=>∃d,Way g cap n len l w w' d/\Gk (Az len) a n z d)):=by
    by_cases aJ:a<n
    ·exact aR.o wr z a n aJ (As _) i2
    ·obtain rfl:a=n:=Jg i1 (Iz aJ);refine(aU.o wr).mono ?_;rintro e w'⟨rfl,rfl⟩;exact⟨rfl,z,i2,Gk.aH (by rw[V6,ET];exact List.Pairwise.nil)⟩
   go_wp2_with (go_at_call 243;refine aY.m ?_;rintro e w2⟨rfl,d,hW,O⟩;have aF:=A1 hW;have I:=A1 (K.o d O));go_loopw [6] (λbv wr=>∃(B:Nat) (z:List Pu),bv=A0 (B:Int)/\Hid (20<=B/\Way g cap n len l w wr z/\Eu (Az len) B (λ_=>True) z)) (λbv _=>n-(intOf bv).toNat)
   case atStart=>exact⟨20,d,by go_num,As _,aF.o,I.o⟩
   case round=>
    obtain⟨B,aG,rfl,hI⟩:=hrel;obtain⟨i1,i2,i3⟩:=hI.o;by_cases aD:B<n
    ·have aT:=EU.2 aD;obtain⟨C,hC⟩:∃C,2*B=C:=⟨_,rfl⟩;obtain⟨z1,z2,z3,z4⟩:=a0.o B C (ER aD) hC;have aM:=A1 (And.intro i1 (And.intro i2 i3));have aI:=A1 aD;have a5:=A1 hC;generalize wr=w3 at aM ⊢;go_wp2;go_loopw [7,8] (λav bv wr=>∃(j:Nat) (z:List Pu),av=A0 ((j*C:Nat):Int)/\bv=A0 ((j*C+C:Nat):Int)/\Hid (j*C<=n/\Way g cap n len l w wr z/\Eu (Az len) C (λi=>i<j) z/\Eu (Az len) B (λi=>2*j<=i) z)) (λ_ bv _=>n+C+1-(intOf bv).toNat)
     case atStart=>exact⟨0,aG,by simp,by simp,by simp,aM.o.2.1,λi hi=>absurd hi (MT i),λi _=>aM.o.2.2 i trivial⟩
     case round=>
      obtain⟨j,z,rfl,rfl,hI⟩:=hrel;obtain⟨i1,i2,i3,i4⟩:=hI.o;obtain⟨a,L⟩:∃a,j*C=a:=⟨_,rfl⟩;obtain⟨b,W⟩:∃b,a+C=b:=⟨_,rfl⟩;obtain⟨c,hc⟩:∃c,b+C=c:=⟨_,rfl⟩;obtain⟨m,aE⟩:∃m,a+B=m:=⟨_,rfl⟩;have hC:=a5.o;(have Y:(j+1)*C=b:=by rw[HM,L,V7];exact W);(have aO:2*j*B=a:=by rw[<-L,<-hC,Lo 2 j,PE]);(have aP:(2*j+1)*B=m:=by rw[HM,aO,V7];exact aE);(have aN:2*(j+1)*B=b:=by rw[<-Y,<-hC,Lo 2 (j+1),PE]);rw[L]at i1 ⊢;rw[W];obtain⟨⟨y1,y2⟩,y3,y4⟩:=a6.o a b c m B C i1 (ER aI.o) hC W hc aE;have s1:=i4 (2*j) (As _);have s2:=i4 (2*j+1) (Gl _);rw[aO]at s1;rw[aP]at s2;have E:=i2.2.1;obtain⟨k1,k2,k3,k4,k5⟩:=A2h a aM.o.1;rw[aE]at k1 k2 k3 k4;rw[hC]at k2 k4 k5;rw[W]at k2 k4;have aB:=A1 (And.intro Y (And.intro hc k5));by_cases H:b<=n
      ·have aH:=Nd.2 H;have aS:=A1 (aK.o wr z a m b k1 k2 H i2 (Ld s1 k3) (Ld s2 k4));have K:Hid (∀d,Gk (Az len) a b z d->Eu (Az len) C (λi=>i<j+1) d/\Eu (Az len) B (λi=>2*(j+1)<=i) d):=λd O=>
        ⟨i3.a7 (by rw[L];exact O) (.inl (by rw[L];exact W.symm)) (by rw[L,E];exact i1),Eu.cE (λi hi=>i4 i (AM (Nat.mul_le_mul_left 2 (Gl j)) hi)) O (by rw[aN];exact As _)⟩
       have aQ:=A1 H;go_wp2_with (go_at_call 244;refine aS.m ?_;rintro e w4⟨rfl,d,hW,O⟩;have aF:=A1 hW;have I:=A1 (K.o d O));go_roundw
       case rel=>exact⟨j+1,d,by rw[aB.o.1],by rw[aB.o.1,aB.o.2.1],by rw[aB.o.1];exact aQ.o,aF.o,I.o.1,I.o.2⟩
       case measure=>exact Zc aQ.o aB.o.2.2 aB.o.2.1
      ·have aH:¬((b:Int)<=(n:Int)):=λh=>H (Nd.1 h);obtain⟨e1,e2,e3⟩:=A02 (a:=a) (B:=B) (n:=n) (by rw[hC,W];exact H);rw[hC,W]at e1;rw[aE]at e2 e3;have K:Hid (∀d,Gk (Az len) a n z d->Eu (Az len) C (λ_=>True) d):=λd O=>(i3.a7 (by rw[L];exact O) (.inr ⟨E.symm,by rw[L,E,W];exact e1⟩) (by rw[L,E];exact i1)).cL (by rw[O.1,Y,E];exact e1)
       have aA:=A1 (And.intro k5 (And.intro hC aM.o.1));by_cases hm:m<n
       ·have aW:=EU.2 hm;have aS:=A1 (aK.o wr z a m n k1 hm (As _) i2 (Ld s1 k3) (Ld s2 e2));go_wp2_with (go_at_call 244;refine aS.m ?_;rintro e w4⟨rfl,d,hW,O⟩;have aF:=A1 hW;have I:=A1 (K.o d O));go_roundw
        case rel=>exact⟨C,d,rfl,aA.o.1,aF.o,I.o⟩
        case measure=>exact SY aI.o aA.o.2.2 aA.o.2.1
       ·have aW:¬((m:Int)<(n:Int)):=λh=>hm (EU.1 h);have I:=A1 (K.o z (Gk.aH (Ld s1 (e3 hm))));have aF:=A1 i2;go_wp2;go_roundw
        case rel=>exact⟨C,z,rfl,aA.o.1,aF.o,I.o⟩
        case measure=>exact SY aI.o aA.o.2.2 aA.o.2.1
    ·have aT:¬((B:Int)<(n:Int)):=λh=>aD (EU.1 h);have aV:=A1 (aX.o wr aG i2 (i3.Co (by rw[i2.2.1];exact Iz aD)));go_wp2;go_end0;exact⟨rfl,aV.o⟩
end
def WU(N:Nat)(hN:N<=4294967296):F5 N:=by
 intro w v wb len l hn h z H E d;have ST:Hid (Ag 202 #[v,A0 l.length,.func (Fn.func 155) #[] #[A5 wb]] w (Al (.tuple #[]) λw'=>AW w' v (E4 (Az len) l)/\A3 (λk=>v.oB k) w w')):=by
  by_cases L:l.length<=19
  ·exact WN w v wb len l L h z H E d
  ·obtain⟨av,cap,rfl,W,I,h3,-,-⟩:=B8 h;obtain⟨g,rfl⟩:=h3 (by omega);refine(WL w g cap wb len l (by omega) h z H E (d g rfl)).mono ?_;rintro e w'⟨rfl,X,q2⟩;exact⟨rfl,X,q2.aa λk _ O=>by have e:=O;subst e;rfl⟩
 obtain⟨av,cap,rfl,W,I,-⟩:=B8 h
 go_enter func154,ntmps154
 go_wp2_with (go_at_call 202;refine ST.m ?_;rintro e w2⟨rfl,hp,Y⟩;have aB:=A1 hp;have aA:=A1 Y);go_end0;exact⟨rfl,aB.o,aA.o⟩
end
end Go.Proofs.YtodcnkbblippnaaGreatDoor
