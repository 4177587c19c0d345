/- Part 24 of a proof: walks of the program. -/
import Derived.Shelf.Spec.SearchS
import Derived.Shelf.SlicesE.Clone
import Derived.Test.YtodcnkbblippnaaGreatDoorPart22
import Derived.Test.YtodcnkbblippnaaGreatDoorPart23
namespace Go.Proofs.YtodcnkbblippnaaGreatDoor
set_option maxRecDepth 100000
set_option maxHeartbeats 32000000
set_option linter.defProp false
open Go.Proofs.Tryz
section
open Go.RowKit
def BF(l:gh Pu)(k t:Int):Option Int:=l.foldl (λo p=>if p.1=k/\p.2.1=t then some p.2.2 else o) none
def IK(l:gh Pu)(p:Pu)(k t:Int):BF (l++[p]) k t=if p.1=k/\p.2.1=t then some p.2.2 else BF l k t:=by simp[BF]
def A1t(l:gh Pu)(k t:Int):∀o,l.foldl (λo p=>if p.1=k/\p.2.1=t then some p.2.2 else o) o=(BF l k t).or o:=by
 induction l with
 | nil=>intro o;simp[BF]
 | cons p r ih=>
  intro o;have h:=ih (if p.1=k/\p.2.1=t then some p.2.2 else o);have d:=ih (if p.1=k/\p.2.1=t then some p.2.2 else none);unfold BF at h d ⊢;simp only[QM]at h d ⊢;rw[h,d];cases r.foldl (λo p=>if p.1=k/\p.2.1=t then some p.2.2 else o) none with
  | some x=>simp
  | none=>
   simp only[Option.none_or];split<;>simp
def GR(a b:gh Pu)(k t:Int):BF (a++b) k t=(BF b k t).or (BF a k t):=by
 have:=A1t b k t (BF a k t);unfold BF at this ⊢;rw[Mm,this]
def UE(l:gh Pu)(k t:Int)(q:Pu->Bool)(E:∀p∈l,p.1=k->p.2.1=t->q p=true):BF (l.filter q) k t=BF l k t:=by
 induction l with
 | nil=>rfl
 | cons p r ih=>
  have d:=ih λx z=>E x (Bp _ z);have e:∀x:Pu,∀l:gh Pu,BF (x::l) k t=(BF l k t).or (BF [x] k t):=λx l=>GR [x] l k t;by_cases h:q p=true
  ·rw[Ja h,e p r,e p (r.filter q),d]
  ·rw[KT h,e p r,d];have:¬(p.1=k/\p.2.1=t):=λz=>h (E p (Bt ..) z.1 z.2);simp[BF,this]
def UD{l:gh Pu}{k t:Int}:BF l k t=none↔∀p∈l,¬(p.1=k/\p.2.1=t):=by
 induction l with
 | nil=>simp[BF]
 | cons p r ih=>
  have e:BF (p::r) k t=(BF r k t).or (BF [p] k t):=GR [p] r k t;rw[e,Option.or_eq_none_iff,ih];simp only[BB,forall_eq_or_imp];constructor
  ·rintro⟨z,d⟩;exact⟨λh=>by simp[BF,h]at d,z⟩
  ·rintro⟨z,d⟩;exact⟨d,by simp[BF,z]⟩
def A1s{l:gh Pu}{k t v:Int}(h:BF l k t=some v):(k,t,v)∈l:=by
 induction l with
 | nil=>cases h
 | cons p r ih=>
  have e:BF (p::r) k t=(BF r k t).or (BF [p] k t):=GR [p] r k t;rw[e]at h;cases hr:BF r k t with
  | some x=>
   rw[hr]at h;simp at h;subst h;exact Bp _ (ih hr)
  | none=>
   rw[hr]at h;simp only[Option.none_or]at h;by_cases d:p.1=k/\p.2.1=t
   ·simp[BF,d]at h;obtain⟨a,b,c⟩:=p
    simp_all
   ·simp[BF,d]at h
def IL{len:Int}{p q:Pu}:Az len p q=true↔Bz p.2.1 len<Bz q.2.1 len\/Bz p.2.1 len=Bz q.2.1 len/\(p.1<q.1\/p.1=q.1/\p.2.1<q.2.1):=by simp[Az]
def A1E{len:Int}{p q r:Pu}(h1:Az len p q=true)(h2:Az len q r=true):Az len p r=true:=by
 rw[IL]at *;omega
def A1H{len:Int}{p q:Pu}(h:Az len p q=true):¬(p.1=q.1/\p.2.1=q.2.1):=by
 rw[IL]at h;rintro⟨h1,d⟩;rw[d]at h;omega
def VO{p q:Pu}:Cr p q=0↔p.1=q.1/\p.2.1=q.2.1:=by
 have h:∀x y:Int,Cn x y=0↔x=y:=λx y=>by
  unfold Cn;by_cases d:x<y
  ·simp[d];omega
  ·by_cases z:y<x
   ·simp[d,z];omega
   ·simp[d,z];omega
 unfold Cr;by_cases d:Cn p.1 q.1=0
 ·simp[h,(h _ _).1 d]
 ·simp only[Kd,d,Pm,Cp,false_iff];exact λE=>d ((h _ _).2 E.1)
def A3H{p q:Pu}:Cr p q<0↔p.1<q.1\/p.1=q.1/\p.2.1<q.2.1:=by
 unfold Cr;by_cases h:p.1=q.1
 ·have:Cn p.1 q.1=0:=by rw[h];simp[Cn]
  rw[Aa (by simp[this]),Qp];omega
 ·have:Cn p.1 q.1≠0:=by
   unfold Cn;by_cases d:p.1<q.1
   ·simp[d]
   ·rw[Aa d,Ae (by omega)];simp
  rw[Ae this,Qp];omega
def A1F{len:Int}{p q:Pu}(h:Bz p.2.1 len=Bz q.2.1 len)(E:Az len p q=false)(z:Cr p q≠0):Az len q p=true:=by
 have d:¬(Az len p q=true):=by simp[E]
 rw[IL]at d ⊢;rw[Kd,VO]at z;omega
def A1G{len:Int}{p q:Pu}(h:Bz p.2.1 len≠Bz q.2.1 len)(z:Az len p q=false):Bz q.2.1 len<Bz p.2.1 len:=by
 have d:¬(Az len p q=true):=by simp[z]
 rw[IL]at d;omega
def YH(len:Int)(h:BS (Az len))(l:gh Pu)(k t:Int):BF (Ec (Az len) l) k t=BF l k t:=by
 have E:=h.cu l (k,t,0);have d:∀m:gh Pu,∀p∈m,p.1=k->p.2.1=t->eqv (Az len) (k,t,0) p=true:=λm p _ H z=>by
  subst H z;simp[eqv,Az]
 rw[<-UE l k t _ (d l),<-UE (Ec (Az len) l) k t _ (d _),E]
structure WI (len:Int) (ws:gh (gh Pu)) (s:gh Pu):Prop where
 M1:ws.flatten.Pairwise (λa b=>Az len a b=true)
 A8:∀k t,BF ws.flatten k t=BF s k t
 DG:∀x∈ws.flatten,x∈s
 ne:∀w∈ws,w≠[]
 Gl:∀w∈ws,∀p∈w,∀q∈w,Bz p.2.1 len=Bz q.2.1 len
 M4:ws.Pairwise λw w'=>∀p∈w,∀q∈w',Bz p.2.1 len<Bz q.2.1 len
 B4:ws.flatten.length<=s.length
def WI.cC{len:Int}{ws:gh (gh Pu)}{s:gh Pu}(h:WI len ws s)(p:Pu)(L:∀x∈ws.flatten,Bz x.2.1 len<Bz p.2.1 len):WI len (ws++[[p]]) (s++[p]):=by
 have e:(ws++[[p]]).flatten=ws.flatten++[p]:=by simp
 have I:∀w∈ws,∀x∈w,x∈ws.flatten:=λw d x z=>NO.2 ⟨w,d,z⟩;refine⟨?_,λk t=>?_,λx z=>?_,λw d=>?_,λw d=>?_,?_,?_⟩
 ·rw[e,Ez];refine⟨h.M1,by simp,λa H b E=>?_⟩;simp at E;subst E;rw[IL];exact .inl (L a H)
 ·rw[e,IK,IK,h.A8]
 ·rw[e]at z;rcases AU.1 z with z|z
  ·exact FV _ (h.DG x z)
  ·exact Hr _ z
 ·rcases AU.1 d with d|d
  ·exact h.ne w d
  ·simp at d;subst d;simp
 ·rcases AU.1 d with d|d
  ·exact h.Gl w d
  ·simp at d;subst d;intro a H b E;simp at H E;subst H E;rfl
 ·rw[Ez];refine⟨h.M4,by simp,λa H b E x z y hy=>?_⟩;simp at E;subst E;simp at hy;subst hy;exact L x (I a H x z)
 ·rw[e,AY,AY];have:=h.B4;simp only[WQ];omega
def WI.ah{len:Int}{d:gh (gh Pu)}{w w':gh Pu}{s s':gh Pu}{q:Pu}(h:WI len (d++[w]) s)(hq:q∈w)(L:(d.flatten++w').Pairwise (λa b=>Az len a b=true))(I:∀k t,BF (d.flatten++w') k t=BF s' k t)(W:∀x∈w',x∈s')(Y:∀x∈s,x∈s')(aA:w'≠[])(E:∀p∈w',Bz p.2.1 len=Bz q.2.1 len)(hlen:w'.length+s.length<=w.length+s'.length):WI len (d++[w']) s':=by
 have e:∀v:gh Pu,(d++[v]).flatten=d.flatten++v:=λv=>by simp
 have O:=Ez.1 h.M4;refine⟨by rw[e];exact L,λk t=>by rw[e];exact I k t,λx H=>?_,λv z=>?_,λv z=>?_,?_,?_⟩
 ·rw[e]at H;rcases AU.1 H with H|H
  ·exact Y x (h.DG x (by rw[e];exact FV _ H))
  ·exact W x H
 ·rcases AU.1 z with z|z
  ·exact h.ne v (FV _ z)
  ·simp at z;subst z;exact aA
 ·rcases AU.1 z with z|z
  ·exact h.Gl v (FV _ z)
  ·simp at z;subst z;intro a ha b hb;rw[E a ha,E b hb]
 ·rw[Ez];refine⟨O.1,by simp,λa ha b hb x H y hy=>?_⟩;simp at hb;subst hb;rw[E y hy];exact O.2.2 a ha w (by simp) x H q hq
 ·rw[e];have:=h.B4;rw[e]at this;simp only[AY]at this ⊢;omega
def WI.a7{len:Int}{z:gh (gh Pu)}{I:gh Pu}{q E p:Pu}{s:gh Pu}(h:WI len (z++[I++[q]]) s)(hq:q.1=E.1/\q.2.1=E.2.1)(hp:Az len p E=false):
 ∃Y w1,EJ len (z++[I++[q]]) false E p=Y++[w1++[p]]/\WI len (Y++[w1++[p]]) (s++[p]):=by
 have aE:Az len p q=false:=by
  have:Az len p q=Az len p E:=by unfold Az;rw[hq.1,hq.2]
  rw[this];exact hp
 have O:q∈I++[q]:=by simp
 have e:∀v:gh Pu,(z++[v]).flatten=z.flatten++v:=λv=>by simp
 have H:=h.M1;rw[e]at H;have hall:∀x∈z.flatten++(I++[q]),x=q\/Az len x q=true:=λx d=>by
  rw[<-Ch]at d H;rcases AU.1 d with d|d
  ·exact .inr ((Ez.1 H).2.2 x d q (by simp))
  ·exact .inl (by simpa using d)
 unfold EJ;dsimp only
 by_cases L:Bz p.2.1 len=Bz E.2.1 len
 ·have hw:Bz p.2.1 len=Bz q.2.1 len:=by rw[L,hq.2]
  have W:¬(false=true\/Bz p.2.1 len≠Bz E.2.1 len):=by simp[L]
  simp only[Aa W];have hl:(z++[I++[q]]).getLastD []=I++[q]:=by simp
  have aF:(I++[q]).getLastD (0,0,0)=q:=by simp
  have hd:(z++[I++[q]]).dropLast=z:=by simp
  have aB:(I++[q]).dropLast=I:=by simp
  rw[hl,aF,hd,aB];by_cases hz:Cr p q=0
  ·rw[Ae ⟨by simp,hz⟩];have hk:=VO.1 hz;refine⟨z,I,rfl,h.ah O ?_ (λk t=>?_) (λx d=>?_) (λx d=>FV _ d) (by simp) (λx d=>?_) (by simp)⟩
   ·rw[<-Ch]at H ⊢;have ha:=Ez.1 H;rw[Ez];refine⟨ha.1,by simp,λa aG b hb=>?_⟩;simp at hb;subst hb;have:=ha.2.2 a aG q (by simp);rw[IL]at this ⊢;rw[hk.1,hk.2];exact this
   ·rw[<-Ch,IK,IK,<-h.A8,e,<-Ch,IK];by_cases d:p.1=k/\p.2.1=t
    ·simp[d]
    ·rw[Aa d,Aa d,Aa (by rw[<-hk.1,<-hk.2];exact d)]
   ·rcases AU.1 d with d|d
    ·exact FV _ (h.DG x (by rw[e];simp[d]))
    ·exact Hr _ d
   ·rcases AU.1 d with d|d
    ·exact h.Gl _ (by simp) x (by simp[d]) q O
    ·simp at d;subst d;exact hw
  ·rw[Aa (by simp[hz])];have aA:=A1F hw aE hz;refine⟨z,I++[q],rfl,h.ah O ?_ (λk t=>?_) (λx d=>?_) (λx d=>FV _ d) (by simp) (λx d=>?_) (by simp;omega)⟩
   ·rw[<-Ch,Ez];refine⟨H,by simp,λa ha b hb=>?_⟩;simp at hb;subst hb;rcases hall a ha with rfl|d
    ·exact aA
    ·exact A1E d aA
   ·rw[<-Ch,IK,IK,<-h.A8,e]
   ·rcases AU.1 d with d|d
    ·exact FV _ (h.DG x (by rw[e];exact Hr _ d))
    ·exact Hr _ d
   ·rcases AU.1 d with d|d
    ·exact h.Gl _ (by simp) x d q O
    ·simp at d;subst d;exact hw
 ·have W:false=true\/Bz p.2.1 len≠Bz E.2.1 len:=.inr L;simp only[Ae W];have hl:(z++[I++[q]]++[[]]).getLastD []=([]:gh Pu):=by simp
  have hd:(z++[I++[q]]++[[]]).dropLast=z++[I++[q]]:=by simp
  rw[hl,hd,Aa (by simp)];refine⟨z++[I++[q]],[],by simp,?_⟩;have aD:Bz q.2.1 len<Bz p.2.1 len:=by
   have:=A1G L hp;rw[hq.2];exact this
  have:=h.cC p λx d=>?_
  ·simpa using this
  ·rw[e]at d;rcases hall x d with rfl|d
   ·exact aD
   ·rw[IL]at d;omega
def Rg{len:Int}:∀(r:gh Pu) (z:gh (gh Pu)) (H:gh Pu) (q d:Pu) (s:gh Pu),WI len (z++[H++[q]]) s->q.1=d.1/\q.2.1=d.2.1->B3 (Az len) (d::r)->WI len (El len r false d (z++[H++[q]])) (s++r)
 | [],z,H,q,d,s,h,_,_=>by simpa[El] using h
 | p::r,z,H,q,d,s,h,hq,ha=>by
  have E:=D7.1 ha;have⟨ws1,w1,h1,h2⟩:=h.a7 hq (E.1 p (Bt ..));unfold El;rw[h1];have:=Rg r ws1 w1 p p (s++[p]) h2 ⟨rfl,rfl⟩ E.2;simpa using this
def Xq{len:Int}(s:gh Pu)(z:B3 (Az len) s):WI len (El len s true (0,0,0) []) s:=by
 cases s with
 | nil=>exact⟨by simp[El],λ_ _=>rfl,λx h=>by simp[El]at h,λw d=>by simp[El]at d,λw d=>by simp[El]at d,by simp[El],by simp[El]⟩
 | cons p r=>
  unfold El;have e:EJ len [] true (0,0,0) p=[]++[[]++[p]]:=by simp[EJ]
  rw[e];have H:WI len [] []:=⟨by simp,λ_ _=>rfl,λx h=>by simp at h,λw d=>by simp at d,λw d=>by simp at d,by simp,by simp⟩;have E:=H.cC p (by simp);have:=Rg r [] [] p p [p] (by simpa using E) ⟨rfl,rfl⟩ z;simpa using this
def HH{len:Int}(E:BS (Az len))(l:gh Pu):WI len (By len l) l:=by
 have h:=Xq (len:=len) (Ec (Az len) l) (E.ew l);have d:∀x∈Ec (Az len) l,x∈l:=λx I=>Bh.DG E (E.cu l).bE I;have z:(Ec (Az len) l).length=l.length:=by
  have H:∀(l s:gh Pu),(l.foldl (λs x=>Fa (Az len) x s) s).length=s.length+l.length:=by
   intro l
   induction l with
   | nil=>intro s;rfl
   | cons x r ih=>
    intro s;have L:∀m:gh Pu,(Fa (Az len) x m).length=m.length+1:=by
     intro m
     induction m with
     | nil=>rfl
     | cons y m ihm=>unfold Fa;split<;>simp[ihm]
    rw[QM,ih,L,Cg];omega
  have:=H l [];simpa[Ec] using this
 exact⟨h.M1,λk t=>by rw[<-YH len E l k t];exact h.A8 k t,λx I=>d x (h.DG x I),h.ne,h.Gl,h.M4,by rw[<-z];exact h.B4⟩
def WI.EV{len:Int}{ws:gh (gh Pu)}{s:gh Pu}(h:WI len ws s){w:gh Pu}(I:w∈ws):Cw Cr w=true:=by
 have z:=List.Pairwise.sublist (NL I) h.M1;have L:=h.Gl w I;have E:∀m:gh Pu,(∀x∈m,x∈w)->m.Pairwise (λa b=>Az len a b=true)->Cw Cr m=true:=by
  intro m
  induction m with
  | nil=>intro _ _;rfl
  | cons a m ih=>
   intro H z;cases m with
   | nil=>rfl
   | cons b m=>
    have d:=D7.1 z;simp only[Cw,Gg,E0];refine⟨?_,ih (λx O=>H x (Bp _ O)) d.2⟩;have:=d.1 b (Bt ..);rw[IL]at this;have e:=L a (H a (Bt ..)) b (H b (by simp));rw[A3H];omega
 exact E w (λ_ h=>h) z
def Hm{ws:gh (gh Pu)}(h:∀w∈ws,w≠[]):ws.length<=ws.flatten.length:=by
 induction ws with
 | nil=>simp
 | cons w r ih=>
  have h1:=ih λx d=>h x (Bp _ d);have h2:=JM.2 (h w (Bt ..));rw[JO,AY,Cg];omega
def K0(ws:gh (gh Pu)):Dr ws=17*ws.flatten.length+4*ws.length:=by
 unfold Dr
 induction ws with
 | nil=>rfl
 | cons w r ih=>
  rw[GY,WK,ih,JO,AY,Cg];omega
section
variable{P P':PD}{A:Ar}{sg cl:gh (Int×gh Pu)}{ol:Option (gh Pu)}{N R:Nat}{wa od:Int}
def Lay.bX(h:Lay P A sg cl ol):∀p∈Au cl++ol.getD [],B8 p:=by
 intro p d;rcases AU.1 d with d|d
 ·have⟨x,hx,d⟩:=List.mem_flatMap.1 d;exact(h.CV x hx).2 p d
 ·cases ol with
  | none=>simp at d
  | some l=>exact h.AE.2.2.2.1 p (by simpa using d)
def Lay.cN(h:Lay P A sg cl ol):∀p∈Au sg,B8 p:=by
 intro p d;have⟨x,hx,d⟩:=List.mem_flatMap.1 d;exact(h.BN x hx).1.1 p d
def C4(o:Int)(a b:gh Pu):Prop:=(∀k t,o<=t->BF a k t=BF b k t)/\(∀p∈a,∃q∈b,q.1=p.1/\q.2.1=p.2.1)/\a.length<=b.length
def Lay.aR(h:Lay P A sg cl ol)(hw:BS (Az wa)){K n:Nat}(hn:(Au cl++ol.getD []).length<=n)(hn2:n<=1099511627776)(Y:P.Ai.length<=K)(hsl:sg.length<=K)(hjl:A.j.Ak.length<=K)(hll:A.AN.length<=K)(hc:Cm P (N+4*K+4*n+8) (R+29*n+12+8*K))(H:isNum (A.j.A8+1)=true)(hln:A.A8+n<=4611686018427387904):
 (A.aR P wa).1=0/\Cm (A.aR P wa).2.2 N R/\
  ∃d,(A.aR P wa).2.1=⟨⟨A.j.A8+1,(sg++BW A.A8 d).map (·.1)⟩,⟨[],A.j.A8,0,none⟩,A.A8+d.length,[]⟩/\Lay (A.aR P wa).2.2 (A.aR P wa).2.1 (sg++BW A.A8 d) [] none/\
   (∀m,(A.aR P wa).2.2.bs m≠none->m∈Ay::(sg++BW A.A8 d).map λx=>Aw x.1)/\d.length<=d.flatten.length/\d.flatten.length<=(Au cl++ol.getD []).length/\(∀k t,BF (B7 (sg++BW A.A8 d) [] none) k t=BF (B7 sg cl ol) k t)/\(∀p∈d.flatten,B8 p):=by
 have E:=h.pd (by rw[AY]at hn;omega);have z:=HH hw (Au cl++ol.getD []);generalize L:By wa (Au cl++ol.getD [])=d at z;have O:=Hm z.ne;have I:=z.B4;have hcost:=K0 d;have e:A.aR P wa=A.aF P (sg.map (·.1)) d:=by
  unfold Ar.aR;rw[E,Aa (by simp),L,h.sd]
 rw[e];have⟨r1,r2,r3,r4,r5⟩:=h.aF (N:=N) (R:=R) (K:=K) sg d (hc.af (by omega) (by omega)) Y (λ_ h=>h) (IC.1 (by rw[h.sd];exact h.DH.EV))
  (λl W=>⟨λp E=>h.bX p (z.DG p (NO.2 ⟨l,W,E⟩)),z.EV W⟩) H (by omega)
 refine⟨r1,r3,d,r2,r4,r5,O,I,λk t=>?_,λp E=>h.bX p (z.DG p E)⟩;unfold B7;have e1:Au (sg++BW A.A8 d)=Au sg++d.flatten:=by
  have:=@Ly d A.A8;unfold Au at this ⊢;rw[WV,this]
 rw[e1];simp only[Au,List.flatMap_nil,Option.getD_none,GJ];rw[GR,GR,z.A8];rfl
def Gn(sd:gh (Int×gh Pu))(od:Int):gh (gh Pu)->gh (Int×gh Pu)
 | []=>[]
 | l::r=>if l.any (λp=>decide (od<=p.2.1))=false then Gn sd od r else
  match sd.find? λs=>decide (s.2=l) with
  | none=>Gn sd od r
  | some s=>s::Gn sd od r
def Ki(sd:gh (Int×gh Pu))(od:Int):∀ws,(BJ sd od ws).1=(Gn sd od ws).map (·.1)
 | []=>rfl
 | l::r=>by
  have d:=Ki sd od r;unfold BJ Gn;split
  ·exact d
  ·cases sd.find? λs=>decide (s.2=l) with
   | none=>exact d
   | some s=>simp[d]
def LL{sd:gh (Int×gh Pu)}{od:Int}:∀ {ws:gh (gh Pu)} {x:Int×gh Pu},x∈Gn sd od ws->x∈sd/\x.2∈ws
 | l::r,x,h=>by
  unfold Gn at h;split at h
  ·have:=LL h;exact⟨this.1,Bp _ this.2⟩
  ·cases hx:sd.find? λs=>decide (s.2=l) with
   | none=>rw[hx]at h;have:=LL h;exact⟨this.1,Bp _ this.2⟩
   | some s=>
    rw[hx]at h;rcases BB.1 h with rfl|h
    ·have d:=List.find?_some hx;simp at d;exact⟨A4Z hx,by rw[d];exact Bt ..⟩
    ·have:=LL h;exact⟨this.1,Bp _ this.2⟩
def Jz{sd:gh (Int×gh Pu)}{od:Int}:∀ {ws:gh (gh Pu)} {l:gh Pu},l∈(BJ sd od ws).2->l∈ws
 | w::r,l,h=>by
  unfold BJ at h;split at h
  ·exact Bp _ (Jz h)
  ·cases hx:sd.find? λs=>decide (s.2=w) with
   | none=>
    rw[hx]at h;rcases BB.1 h with rfl|h
    ·exact Bt ..
    ·exact Bp _ (Jz h)
   | some s=>rw[hx]at h;exact Bp _ (Jz h)
def Ko{α:Type}(p:gh α->Bool)(ws:gh (gh α)):(ws.filter p).flatten.Sublist ws.flatten:=by
 induction ws with
 | nil=>exact A5e _
 | cons w r ih=>
  rw[Fh];split
  ·rw[JO,JO];exact List.Sublist.append (A5e _) ih
  ·rw[JO];exact ih.trans (List.sublist_append_right _ _)
def E2(od:Int)(ws:gh (gh Pu)):gh (gh Pu):=ws.filter λl=>l.any λp=>decide (od<=p.2.1)
def Kh(sd:gh (Int×gh Pu))(od:Int):∀ws,((Gn sd od ws).map (·.2)++(BJ sd od ws).2).Perm (E2 od ws)
 | []=>List.Perm.refl _
 | l::r=>by
  have h:=Kh sd od r;unfold BJ Gn E2;by_cases d:l.any (λp=>decide (od<=p.2.1))=false
  ·rw[Ae d,Ae d,KT (by simp[d])];exact h
  ·rw[Aa d,Aa d,Ja (by simpa using d)];cases hx:sd.find? λs=>decide (s.2=l) with
   | none=>
    dsimp only
    exact List.perm_middle.trans (h.cons _)
   | some s=>
    have z:=List.find?_some hx;simp at z;dsimp only
    rw[GY,z];exact h.cons _
def UF{len:Int}{ws:gh (gh Pu)}{s:gh Pu}(h:WI len ws s)(od k t:Int)(ht:od<=t):BF (E2 od ws).flatten k t=BF s k t:=by
 rw[<-h.A8];clear h;unfold E2
 induction ws with
 | nil=>rfl
 | cons w r ih=>
  by_cases d:w.any (λp=>decide (od<=p.2.1))=true
  ·(have e:(w::r).filter (λl=>l.any λp=>decide (od<=p.2.1))=w::r.filter (λl=>l.any λp=>decide (od<=p.2.1)):=by simp only[Fh,d,Cp]);rw[e,JO,JO,GR,GR,ih]
  ·(have e:(w::r).filter (λl=>l.any λp=>decide (od<=p.2.1))=r.filter (λl=>l.any λp=>decide (od<=p.2.1)):=by simp only[Fh,d];rfl);rw[e,JO,GR,ih];have:BF w k t=none:=UD.2 λp z hx=>d (QN.2 ⟨p,z,by simp;omega⟩);rw[this,WA]
def J3(l:gh Pu):Prop:=l.Pairwise λa b=>¬(a.1=b.1/\a.2.1=b.2.1)
def J3.A8{l:gh Pu}(h:J3 l){k t v:Int}:BF l k t=some v↔(k,t,v)∈l:=by
 refine⟨A1s,λd=>?_⟩
 induction l with
 | nil=>cases d
 | cons p r ih=>
  have z:=D7.1 h;have e:BF (p::r) k t=(BF r k t).or (BF [p] k t):=GR [p] r k t;rw[e];rcases BB.1 d with rfl|d
  ·have:BF r k t=none:=UD.2 λq H E=>z.1 q H ⟨E.1.symm,E.2.symm⟩;rw[this];simp[BF]
  ·rw[ih z.2 d];simp
def J3.fT{l l':gh Pu}(h:J3 l)(z:l.Perm l'):J3 l':=(z.pairwise_iff (R:=λa b:Pu=>¬(a.1=b.1/\a.2.1=b.2.1)) λh d=>h ⟨d.1.symm,d.2.symm⟩).1 h
def J3.dV{l l':gh Pu}(h:J3 l)(d:l.Perm l')(k t:Int):BF l k t=BF l' k t:=by
 have z:=h.fT d;cases hx:BF l k t with
 | some v=>exact(z.A8.2 (d.mem_iff.1 (h.A8.1 hx))).symm
 | none=>
  cases hy:BF l' k t with
  | none=>rfl
  | some v=>rw[h.A8.2 (d.mem_iff.2 (z.A8.1 hy))]at hx;cases hx
def WI.dH{len:Int}{ws:gh (gh Pu)}{s:gh Pu}(h:WI len ws s)(od:Int):J3 (E2 od ws).flatten:=by
 have z:(E2 od ws).flatten.Pairwise (λa b=>Az len a b=true):=h.M1.sublist (Ko _ _);exact z.imp λd=>A1H d
def Wn{od:Int}{ws:gh (gh Pu)}{w:gh Pu}(h:w∈E2 od ws):w∈ws:=(GX.1 h).1
def Lay.aP(h:Lay P A sg cl ol)(hw:BS (Az wa)){K n:Nat}(hn:(B7 sg cl ol).length<=n)(hn2:n<=1099511627776)(hK:P.Ai.length<=K)(hsl:sg.length<=K)(hjl:A.j.Ak.length<=K)(hll:A.AN.length<=K)(hc:Cm P (N+4*K+4*n+8) (R+29*n+12+8*K))(aQ:isNum (A.j.A8+1)=true)(hln:A.A8+n<=4611686018427387904):
 (A.aP P wa od).1=0/\Cm (A.aP P wa od).2.2 N R/\
  ∃Y lh,(A.aP P wa od).2.1=⟨⟨A.j.A8+1,Y.map (·.1)⟩,⟨[],A.j.A8,0,none⟩,lh,[]⟩/\lh<=A.A8+n/\Lay (A.aP P wa od).2.2 (A.aP P wa od).2.1 Y [] none/\
   (∀m,(A.aP P wa od).2.2.bs m≠none->m∈Ay::Y.map λx=>Aw x.1)/\(Y.map (·.2)).Perm (E2 od (By wa (B7 sg cl ol)))/\∀k t,od<=t->BF (B7 Y [] none) k t=BF (B7 sg cl ol) k t:=by
 have aR:(B7 sg cl ol).length=(Au sg).length+(Au cl++ol.getD []).length:=by unfold B7;rw[AY]
 have I:=h.pd (by rw[AY]at aR;omega);have E:=HH hw (B7 sg cl ol);obtain⟨ws,aH⟩:∃ws,By wa (B7 sg cl ol)=ws:=⟨_,rfl⟩;rw[aH]at E;obtain⟨k0,aF⟩:∃k0,Gn sg od ws=k0:=⟨_,rfl⟩;obtain⟨H,aI⟩:∃H,(BJ sg od ws).2=H:=⟨_,rfl⟩;have d:=Kh sg od ws;rw[aF,aI]at d;obtain⟨z,aJ⟩:∃z,k0.mergeSort (λx y=>decide (x.1<=y.1))=z:=⟨_,rfl⟩;have aD:z.Perm k0:=by rw[<-aJ];exact A4X _ _
 have aT:z.map (·.1)=((BJ sg od ws).1).mergeSort λx y=>decide (x<=y):=by
  rw[Ki,aF,<-aJ,A42 (s:=λx y:Int=>decide (x<=y))];intro a _ b _;rfl
 have L:∀x∈z,x∈sg/\x.2∈ws:=λx hx=>LL (by rw[aF];exact aD.mem_iff.1 hx);have aP:(E2 od ws).Nodup:=by
  have h1:(E2 od ws).Pairwise λw w'=>∀p∈w,∀q∈w',Bz p.2.1 wa<Bz q.2.1 wa:=E.M4.sublist Hf;have O:∀w∈E2 od ws,w≠[]:=λw hw=>E.ne w (Wn hw);clear d;generalize E2 od ws=v at h1 O
  induction v with
  | nil=>simp
  | cons w r ih=>
   have aO:=D7.1 h1;refine KL.2 ⟨λhm=>?_,ih aO.2 λx hx=>O x (Bp _ hx)⟩;have⟨p,I⟩:=A5c w (O w (Bt ..));have:=aO.1 w hm p I p I;omega
 have aN:(z.map (·.2)).Nodup:=by
  have h1:(k0.map (·.2)++H).Nodup:=d.nodup_iff.2 aP;have O:=(GW.1 h1).1;exact(aD.map (·.2)).nodup_iff.2 O
 have aL:(sg.map (·.1)).Pairwise (· < ·):=IC.1 (by rw[h.sd];exact h.DH.EV);have aE:∀x∈sg,∀y∈sg,x.1=y.1->x=y:=λx hx y hy e=>by
  obtain⟨i,hi,rfl⟩:=DV hx;obtain⟨j,hj,rfl⟩:=DV hy;have I:=Ij.1 aL;rcases QF i j with W|W|W
  ·have:=I i j (by simpa using hi) (by simpa using hj) W;simp at this;omega
  ·subst W;rfl
  ·have:=I j i (by simpa using hj) (by simpa using hi) W;simp at this;omega
 have aA:(z.map (·.1)).Pairwise (· < ·):=by
  have h1:z.Pairwise λx y=>x.1<=y.1:=by
   have:=WN (le:=λx y:Int×gh Pu=>decide (x.1<=y.1)) (λa b c h1 O=>by simp at *;omega) (λa b=>by simp;omega) k0;rw[aJ]at this;(exact this.imp λh=>by simpa using h)
  have O:z.Pairwise λx y=>x.2≠y.2:=Mj.1 aN;rw[Mj];have h3:=h1.and O;refine A5f (λ{a b} ha hb aM=>?_) h3;rcases A5i aM.1 with h|h
  ·exact h
  ·exact absurd (ES Prod.snd (aE a (L a ha).1 b (L b hb).1 h)) aM.2
 have aG:∀l∈H,l∈ws:=λl hl=>Jz (by rw[aI];exact hl);have aB:(Au z++H.flatten).Perm (E2 od ws).flatten:=by
  have h1:(z.map (·.2)++H).Perm (E2 od ws):=((aD.map (·.2)).append_right _).trans d;have O:=h1.flatten;rw[WT]at O;have e:(z.map (·.2)).flatten=Au z:=by unfold Au;rw[WU]
  rwa [e]at O
 have hfl:H.length<=H.flatten.length:=Hm λw hw=>E.ne w (aG w hw);have hcount:H.flatten.length<=n:=by
  have h1:=aB.length_eq;have O:(E2 od ws).flatten.length<=ws.flatten.length:=(Ko _ ws).length_le;have h3:=E.B4;rw[AY]at h1;omega
 have hkl:z.length<=K:=by
  have:(z.map (·.1)).length<=(sg.map (·.1)).length:=Jp (aA.imp λh=>X6 h) λx hx=>by
   obtain⟨y,hy,rfl⟩:=CC.1 hx;exact E5 (L y hy).1
  simp only[FW]at this;omega
 have hcost:=K0 H;have aS:∀p∈B7 sg cl ol,B8 p:=λp I=>by
  rcases AU.1 I with I|I
  ·exact h.cN p I
  ·exact h.bX p I
 have e:A.aP P wa od=A.aF P (z.map (·.1)) H:=by
  unfold Ar.aP;rw[h.b4];dsimp only
  have e2:sg.flatMap (·.2)++(P.pd A.j.Ak).1=B7 sg cl ol:=by rw[I];rfl
  rw[e2,aH,<-aT,aI,I,Aa (by simp)]
 rw[e,aH];have⟨r1,r2,r3,r4,r5⟩:=h.aF (N:=N) (R:=R) (K:=K) z H (hc.af (by omega) (by omega)) hK (λx hx=>(L x hx).1) aA
  (λl hl=>⟨λp I=>aS p (E.DG p (NO.2 ⟨l,aG l hl,I⟩)),E.EV (aG l hl)⟩) aQ (by omega)
 have aK:(BW A.A8 H).map (·.2)=H:=by
  have aU:∀(l:gh (gh Pu)) (a:Int),(BW a l).map (·.2)=l:=by
   intro l
   induction l with
   | nil=>intro a;rfl
   | cons x r ih=>intro a;simp[BW,ih]
  exact aU _ _
 refine⟨r1,r3,z++BW A.A8 H,A.A8+H.length,r2,by omega,r4,r5,?_,λk t ht=>?_⟩
 ·rw[Ei,aK];exact((aD.map (·.2)).append_right _).trans d
 ·have e1:B7 (z++BW A.A8 H) [] none=Au z++H.flatten:=by
   have:=@Ly H A.A8;unfold B7 Au at *;simp[this]
  rw[e1,(E.dH od |>.dV aB.symm k t).symm,UF E od k t ht]
end
def A18{l:gh Pt}(h:E4 l)(t v:Int)(x:Pt):x∈CE l t v↔x=(t,v)\/(x∈l/\x.1≠t):=by
 induction l with
 | nil=>simp[CE]
 | cons e r ih=>
  obtain⟨a,b⟩:=e;have z:=D7.1 h;have E:=ih z.2;simp only[CE];by_cases H:a<t
  ·rw[Ae H];simp only[BB,E];constructor
   ·rintro (rfl|h|⟨h,d⟩)
    ·exact .inr ⟨.inl rfl,by simp only;omega⟩
    ·exact .inl h
    ·exact .inr ⟨.inr h,d⟩
   ·rintro (h|⟨h|h,d⟩)
    ·exact .inr (.inl h)
    ·exact .inl h
    ·exact .inr (.inr ⟨h,d⟩)
  ·rw[Aa H];by_cases d:a=t
   ·subst d;rw[Ae rfl];simp only[BB];constructor
    ·rintro (h|h)
     ·exact .inl h
     ·exact .inr ⟨.inr h,λe=>by have:=z.1 x h;simp only at this;omega⟩
    ·rintro (h|⟨h|h,d⟩)
     ·exact .inl h
     ·subst h;exact absurd rfl d
     ·exact .inr h
   ·rw[Aa d];simp only[BB];constructor
    ·rintro (h|h|h)
     ·exact .inl h
     ·subst h;exact .inr ⟨.inl rfl,d⟩
     ·exact .inr ⟨.inr h,λe=>by have:=z.1 x h;simp only at this;omega⟩
    ·rintro (h|⟨h|h,_⟩)
     ·exact .inl h
     ·exact .inr (.inl h)
     ·exact .inr (.inr h)
def ZJ(l:gh Pu)(p:Pu)(k a b d A9:Int):refQ (l++[p]) k a b d A9=Er k a b d A9 (refQ l k a b d A9) p:=by unfold refQ;rw[Mm];rfl
def OW(l:gh Pu)(k a b d A9:Int):E4 (refQ l k a b d A9):=by
 have:=(ZL l k a b d A9 l.length (Ao _)).1
 rwa [Cf]at this
def SQ(k a b O A9:Int)(x:Pt):∀n (l:gh Pu),l.length=n->(x∈refQ l k a b O A9↔(a<=x.1/\x.1<=b/\Ha x.1 O A9=true)/\BF l k x.1=some x.2):=by
 intro n
 induction n with
 | zero=>
  intro l L;obtain rfl:l=[]:=GG.1 L;simp[refQ,BF]
 | succ n ih=>
  intro l L;have H:l≠[]:=λh=>by subst h;simp at L
  obtain⟨p,hp⟩:∃p,l=l.dropLast++[p]:=⟨l.getLast H,(NX H).symm⟩;have Y:l.dropLast.length=n:=by rw[WR,L];rfl
  have d:=ih l.dropLast Y;rw[hp,ZJ,IK];generalize l.dropLast=m at d;unfold Er;by_cases E:Gj k a b O A9 p=true
  ·rw[Ae E,A18 (OW _ _ _ _ _ _),d];unfold Gj at E;simp only[Gg,E0]at E;obtain⟨⟨⟨q1,q2⟩,q3⟩,q4⟩:=E;by_cases z:p.2.1=x.1
   ·rw[Ae ⟨q1,z⟩];constructor
    ·rintro (h|⟨_,h⟩)
     ·subst h;exact⟨⟨q2,q3,q4⟩,rfl⟩
     ·exact absurd z.symm h
    ·rintro⟨_,h⟩;refine .inl ?_;(have:p.2.2=x.2:=by simpa using h);rw[z,this]
   ·rw[Aa λh=>z h.2];constructor
    ·rintro (h|⟨h,_⟩)
     ·subst h;exact absurd rfl z
     ·exact h
    ·intro h;exact .inr ⟨h,λe=>z e.symm⟩
  ·rw[Aa E,d];by_cases I:p.1=k/\p.2.1=x.1
   ·rw[Ae I]
    have W:¬(a<=x.1/\x.1<=b/\Ha x.1 O A9=true):=λh=>E (by
     unfold Gj;rw[I.1,I.2];simp only[Qf,O3,Gg,E0]
     exact⟨⟨h.1,h.2.1⟩,h.2.2⟩)
    simp only[W,false_and]
   ·rw[Aa I]
def RY:∀ {l l':gh Pt},E4 l->E4 l'->(∀x,x∈l↔x∈l')->l=l'
 | [],[],_,_,_=>rfl
 | [],y::r,_,_,h=>by have:=(h y).2 (Bt ..);cases this
 | x::r,[],_,_,h=>by have:=(h x).1 (Bt ..);cases this
 | x::r,y::s,h1,h2,h=>by
  have E:=D7.1 h1;have d:=D7.1 h2;have I:x=y:=by
   rcases BB.1 ((h x).1 (Bt ..)) with e|e
   ·exact e
   ·rcases BB.1 ((h y).2 (Bt ..)) with L|L
    ·exact L.symm
    ·have a:=d.1 x e;have b:=E.1 y L;omega
  subst I
  congr 1
  refine RY E.2 d.2 λz=>⟨λH=>?_,λH=>?_⟩
  ·rcases BB.1 ((h z).1 (Bp _ H)) with e|e
   ·subst e;have:=E.1 z H;omega
   ·exact e
  ·rcases BB.1 ((h z).2 (Bp _ H)) with e|e
   ·subst e;have:=d.1 z H;omega
   ·exact e
def ZK{l l':gh Pu}{k a b z A9:Int}(h:∀t,a<=t->t<=b->Ha t z A9=true->BF l k t=BF l' k t):refQ l k a b z A9=refQ l' k a b z A9:=by
 refine RY (OW _ _ _ _ _ _) (OW _ _ _ _ _ _) λx=>?_;rw[SQ k a b z A9 x _ l rfl,SQ k a b z A9 x _ l' rfl];constructor
 ·rintro⟨d,E⟩;exact⟨d,by rw[<-h x.1 d.1 d.2.1 d.2.2];exact E⟩
 ·rintro⟨d,E⟩;exact⟨d,by rw[h x.1 d.1 d.2.1 d.2.2];exact E⟩
def Tryz.fs:Go.Shelf.Ren:=⟨fun|26=>138|33=>179|34=>180|38=>234|n=>n,fun|0=>0|3=>3|4=>4|9=>9|24=>121|40=>232|n=>n,fun|n=>n⟩
def Tryz.eD:Go.Proofs.Lays2.n26 Tryz.prog Tryz.fs:={
 mixed:=by kernel_rfl
 f26:=func138.trans (ES some (by kernel_rfl))
 f33:=func179.trans (ES some (by kernel_rfl))
 f34:=func180.trans (ES some (by kernel_rfl))
 f38:=func234.trans (ES some (by kernel_rfl))
 t0:=underlying0
 a0:=isAgg0
 z0:=sizeOf0
 v0:=zeroValue0
 t3:=GV
 a3:=isAgg3
 z3:=sizeOf3
 v3:=zeroValue3
 t4:=underlying4
 a4:=isAgg4
 z4:=sizeOf4
 v4:=zeroValue4
 t9:=FR
 a9:=isAgg9
 z9:=sizeOf9
 v9:=zeroValue9
 t24:=Hp
 a24:=isAgg121
 z24:=sizeOf121
 v24:=zeroValue121
 t40:=underlying232
 a40:=isAgg232
 z40:=sizeOf232
 v40:=zeroValue232}
def Tryz.fB:Go.Shelf.Ren:=⟨fun|41=>153|n=>n,fun|22=>97|23=>113|4=>4|n=>n,fun|n=>n⟩
def Tryz.eB:Go.Proofs.SlLaysE0.n41 Tryz.prog Tryz.fB:={
 mixed:=by kernel_rfl
 f41:=⟨Tryz.f153.name,by decide,func153.trans (ES some (by kernel_rfl))⟩
 t4:=underlying4
 a4:=isAgg4
 z4:=sizeOf4
 v4:=zeroValue4
 t22:=Gy
 a22:=isAgg97
 z22:=sizeOf97
 v22:=zeroValue97}
def VU(a b:gh UInt8):Op.bytesLess a b=decide (a<b):=by
 induction a generalizing b with
 | nil=>cases b with
  | nil=>simp[Op.bytesLess]
  | cons y r=>simp[Op.bytesLess]
 | cons x a ih=>
  cases b with
  | nil=>simp[Op.bytesLess]
  | cons y r=>
   unfold Op.bytesLess;rw[ih r];by_cases h:x<y
   ·simp[h,List.cons_lt_cons_iff]
   ·by_cases d:x=y
    ·subst d;simp
    ·(have:¬(x::a<y::r):=by rw[JP];simp[h,d]);simp[h,d,this]
end
end Go.Proofs.YtodcnkbblippnaaGreatDoor
