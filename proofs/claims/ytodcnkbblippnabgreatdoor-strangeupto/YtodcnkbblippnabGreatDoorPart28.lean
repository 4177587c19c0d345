/- Part 28 of a proof: walks of the program. -/
import Derived.Shelf.Spec.SearchS
import Derived.Shelf.SlicesE.Clone
import Derived.Test.YtodcnkbblippnabGreatDoorPart26
import Derived.Test.YtodcnkbblippnabGreatDoorPart27
namespace Go.Proofs.YtodcnkbblippnabGreatDoor
set_option maxRecDepth 100000
set_option maxHeartbeats 32000000
set_option linter.defProp false
open Go.Proofs.Tryz
section
open Go.RowKit
def BC(l:List Pu)(k t:Int):Option Int:=l.foldl (λo p=>if p.1=k/\p.2.1=t then some p.2.2 else o) none
def HH(l:List Pu)(p:Pu)(k t:Int):BC (l++[p]) k t=if p.1=k/\p.2.1=t then some p.2.2 else BC l k t:=by simp[BC]
def ZA(l:List Pu)(k t:Int):∀o,l.foldl (λo p=>if p.1=k/\p.2.1=t then some p.2.2 else o) o=(BC l k t).or o:=by
 induction l with
 | nil=>intro o;simp[BC]
 | cons p r ih=>
  intro o;have z:=ih (if p.1=k/\p.2.1=t then some p.2.2 else o);have h:=ih (if p.1=k/\p.2.1=t then some p.2.2 else none);unfold BC at z h ⊢;simp only[Pp]at z h ⊢;rw[z,h];cases r.foldl (λo p=>if p.1=k/\p.2.1=t then some p.2.2 else o) none with
  | some x=>simp
  | none=>
   simp only[Option.none_or];split<;>simp
def Gz(a b:List Pu)(k t:Int):BC (a++b) k t=(BC b k t).or (BC a k t):=by
 have:=ZA b k t (BC a k t);unfold BC at this ⊢;rw[MT,this]
def T8(l:List Pu)(k t:Int)(q:Pu->Bool)(I:∀p∈l,p.1=k->p.2.1=t->q p=true):BC (l.filter q) k t=BC l k t:=by
 induction l with
 | nil=>rfl
 | cons p r ih=>
  have z:=ih λx H=>I x (Bn _ H);have e:∀x:Pu,∀l:List Pu,BC (x::l) k t=(BC l k t).or (BC [x] k t):=λx l=>Gz [x] l k t;by_cases h:q p=true
  ·rw[Iy h,e p r,e p (r.filter q),z]
  ·rw[Kd h,e p r,z];have:¬(p.1=k/\p.2.1=t):=λH=>h (I p (Bp ..) H.1 H.2);simp[BC,this]
def T7{l:List Pu}{k t:Int}:BC l k t=none↔∀p∈l,¬(p.1=k/\p.2.1=t):=by
 induction l with
 | nil=>simp[BC]
 | cons p r ih=>
  have e:BC (p::r) k t=(BC r k t).or (BC [p] k t):=Gz [p] r k t;rw[e,Option.or_eq_none_iff,ih];simp only[BF,forall_eq_or_imp];constructor
  ·rintro⟨H,z⟩;exact⟨λh=>by simp[BC,h]at z,H⟩
  ·rintro⟨H,z⟩;exact⟨z,by simp[BC,H]⟩
def Zz{l:List Pu}{k t v:Int}(h:BC l k t=some v):(k,t,v)∈l:=by
 induction l with
 | nil=>cases h
 | cons p r ih=>
  have e:BC (p::r) k t=(BC r k t).or (BC [p] k t):=Gz [p] r k t;rw[e]at h;cases hr:BC r k t with
  | some x=>
   rw[hr]at h;simp at h;subst h;exact Bn _ (ih hr)
  | none=>
   rw[hr]at h;simp only[Option.none_or]at h;by_cases z:p.1=k/\p.2.1=t
   ·simp[BC,z]at h;obtain⟨a,b,c⟩:=p
    simp_all
   ·simp[BC,z]at h
def Ic{len:Int}{p q:Pu}:AE len p q=true↔BH p.2.1 len<BH q.2.1 len\/BH p.2.1 len=BH q.2.1 len/\(p.1<q.1\/p.1=q.1/\p.2.1<q.2.1):=by simp[AE]
def ZO{len:Int}{p q r:Pu}(h1:AE len p q=true)(h2:AE len q r=true):AE len p r=true:=by
 rw[Ic]at *;omega
def ZR{len:Int}{p q:Pu}(h:AE len p q=true):¬(p.1=q.1/\p.2.1=q.2.1):=by
 rw[Ic]at h;rintro⟨h1,z⟩;rw[z]at h;omega
def Uc{p q:Pu}:Cq p q=0↔p.1=q.1/\p.2.1=q.2.1:=by
 have h:∀x y:Int,Ch x y=0↔x=y:=λx y=>by
  unfold Ch;by_cases z:x<y
  ·simp[z];omega
  ·by_cases H:y<x
   ·simp[z,H];omega
   ·simp[z,H];omega
 unfold Cq;by_cases z:Ch p.1 q.1=0
 ·simp[h,(h _ _).1 z]
 ·simp only[JC,z,NY,Cn,false_iff];exact λI=>z ((h _ _).2 I.1)
def A1K{p q:Pu}:Cq p q<0↔p.1<q.1\/p.1=q.1/\p.2.1<q.2.1:=by
 unfold Cq;by_cases z:p.1=q.1
 ·have:Ch p.1 q.1=0:=by rw[z];simp[Ch]
  rw[Ae (by simp[this]),OS];omega
 ·have:Ch p.1 q.1≠0:=by
   unfold Ch;by_cases h:p.1<q.1
   ·simp[h]
   ·rw[Ae h,Ah (by omega)];simp
  rw[Ah this,OS];omega
def ZP{len:Int}{p q:Pu}(h:BH p.2.1 len=BH q.2.1 len)(I:AE len p q=false)(H:Cq p q≠0):AE len q p=true:=by
 have z:¬(AE len p q=true):=by simp[I]
 rw[Ic]at z ⊢;rw[JC,Uc]at H;omega
def ZQ{len:Int}{p q:Pu}(h:BH p.2.1 len≠BH q.2.1 len)(H:AE len p q=false):BH q.2.1 len<BH p.2.1 len:=by
 have z:¬(AE len p q=true):=by simp[H]
 rw[Ic]at z;omega
def WX(len:Int)(z:BX (AE len))(l:List Pu)(k t:Int):BC (E8 (AE len) l) k t=BC l k t:=by
 have I:=z.cv l (k,t,0);have h:∀m:List Pu,∀p∈m,p.1=k->p.2.1=t->eqv (AE len) (k,t,0) p=true:=λm p _ O H=>by
  subst O H;simp[eqv,AE]
 rw[<-T8 l k t _ (h l),<-T8 (E8 (AE len) l) k t _ (h _),I]
structure WI (len:Int) (ws:List (List Pu)) (s:List Pu):Prop where
 L0:ws.flatten.Pairwise (λa b=>AE len a b=true)
 A8:∀k t,BC ws.flatten k t=BC s k t
 DP:∀x∈ws.flatten,x∈s
 ne:∀w∈ws,w≠[]
 Gv:∀w∈ws,∀p∈w,∀q∈w,BH p.2.1 len=BH q.2.1 len
 MA:ws.Pairwise λw w'=>∀p∈w,∀q∈w',BH p.2.1 len<BH q.2.1 len
 Bi:ws.flatten.length<=s.length
def WI.cC{len:Int}{ws:List (List Pu)}{s:List Pu}(h:WI len ws s)(p:Pu)(X:∀x∈ws.flatten,BH x.2.1 len<BH p.2.1 len):WI len (ws++[[p]]) (s++[p]):=by
 have e:(ws++[[p]]).flatten=ws.flatten++[p]:=by simp
 have W:∀w∈ws,∀x∈w,x∈ws.flatten:=λw z x H=>Pj.2 ⟨w,z,H⟩;refine⟨?_,λk t=>?_,λx H=>?_,λw z=>?_,λw z=>?_,?_,?_⟩
 ·rw[e,Eu];refine⟨h.L0,by simp,λa O b I=>?_⟩;simp at I;subst I;rw[Ic];exact .inl (X a O)
 ·rw[e,HH,HH,h.A8]
 ·rw[e]at H;rcases AU.1 H with H|H
  ·exact Fx _ (h.DP x H)
  ·exact GX _ H
 ·rcases AU.1 z with z|z
  ·exact h.ne w z
  ·simp at z;subst z;simp
 ·rcases AU.1 z with z|z
  ·exact h.Gv w z
  ·simp at z;subst z;intro a O b I;simp at O I;subst O I;rfl
 ·rw[Eu];refine⟨h.MA,by simp,λa O b I x H y Y=>?_⟩;simp at I;subst I;simp at Y;subst Y;exact X x (W a O x H)
 ·rw[e,AX,AX];have:=h.Bi;simp only[Pk];omega
def WI.ai{len:Int}{z:List (List Pu)}{w w':List Pu}{s s':List Pu}{q:Pu}(h:WI len (z++[w]) s)(hq:q∈w)(X:(z.flatten++w').Pairwise (λa b=>AE len a b=true))(W:∀k t,BC (z.flatten++w') k t=BC s' k t)(aA:∀x∈w',x∈s')(aB:∀x∈s,x∈s')(aD:w'≠[])(I:∀p∈w',BH p.2.1 len=BH q.2.1 len)(hlen:w'.length+s.length<=w.length+s'.length):WI len (z++[w']) s':=by
 have e:∀v:List Pu,(z++[v]).flatten=z.flatten++v:=λv=>by simp
 have Y:=Eu.1 h.MA;refine⟨by rw[e];exact X,λk t=>by rw[e];exact W k t,λx O=>?_,λv H=>?_,λv H=>?_,?_,?_⟩
 ·rw[e]at O;rcases AU.1 O with O|O
  ·exact aB x (h.DP x (by rw[e];exact Fx _ O))
  ·exact aA x O
 ·rcases AU.1 H with H|H
  ·exact h.ne v (Fx _ H)
  ·simp at H;subst H;exact aD
 ·rcases AU.1 H with H|H
  ·exact h.Gv v (Fx _ H)
  ·simp at H;subst H;intro a ha b hb;rw[I a ha,I b hb]
 ·rw[Eu];refine⟨Y.1,by simp,λa ha b hb x O y hy=>?_⟩;simp at hb;subst hb;rw[I y hy];exact Y.2.2 a ha w (by simp) x O q hq
 ·rw[e];have:=h.Bi;rw[e]at this;simp only[AX]at this ⊢;omega
def WI.a8{len:Int}{H:List (List Pu)}{W:List Pu}{q I p:Pu}{s:List Pu}(h:WI len (H++[W++[q]]) s)(hq:q.1=I.1/\q.2.1=I.2.1)(hp:AE len p I=false):
 ∃aB w1,EC len (H++[W++[q]]) false I p=aB++[w1++[p]]/\WI len (aB++[w1++[p]]) (s++[p]):=by
 have aG:AE len p q=false:=by
  have:AE len p q=AE len p I:=by unfold AE;rw[hq.1,hq.2]
  rw[this];exact hp
 have Y:q∈W++[q]:=by simp
 have e:∀v:List Pu,(H++[v]).flatten=H.flatten++v:=λv=>by simp
 have O:=h.L0;rw[e]at O;have hall:∀x∈H.flatten++(W++[q]),x=q\/AE len x q=true:=λx z=>by
  rw[<-C6]at z O;rcases AU.1 z with z|z
  ·exact .inr ((Eu.1 O).2.2 x z q (by simp))
  ·exact .inl (by simpa using z)
 unfold EC;dsimp only
 by_cases X:BH p.2.1 len=BH I.2.1 len
 ·have hw:BH p.2.1 len=BH q.2.1 len:=by rw[X,hq.2]
  have aA:¬(false=true\/BH p.2.1 len≠BH I.2.1 len):=by simp[X]
  simp only[Ae aA];have hl:(H++[W++[q]]).getLastD []=W++[q]:=by simp
  have aH:(W++[q]).getLastD (0,0,0)=q:=by simp
  have hd:(H++[W++[q]]).dropLast=H:=by simp
  have aE:(W++[q]).dropLast=W:=by simp
  rw[hl,aH,hd,aE];by_cases hz:Cq p q=0
  ·rw[Ah ⟨by simp,hz⟩];have hk:=Uc.1 hz;refine⟨H,W,rfl,h.ai Y ?_ (λk t=>?_) (λx z=>?_) (λx z=>Fx _ z) (by simp) (λx z=>?_) (by simp)⟩
   ·rw[<-C6]at O ⊢;have ha:=Eu.1 O;rw[Eu];refine⟨ha.1,by simp,λa aI b hb=>?_⟩;simp at hb;subst hb;have:=ha.2.2 a aI q (by simp);rw[Ic]at this ⊢;rw[hk.1,hk.2];exact this
   ·rw[<-C6,HH,HH,<-h.A8,e,<-C6,HH];by_cases z:p.1=k/\p.2.1=t
    ·simp[z]
    ·rw[Ae z,Ae z,Ae (by rw[<-hk.1,<-hk.2];exact z)]
   ·rcases AU.1 z with z|z
    ·exact Fx _ (h.DP x (by rw[e];simp[z]))
    ·exact GX _ z
   ·rcases AU.1 z with z|z
    ·exact h.Gv _ (by simp) x (by simp[z]) q Y
    ·simp at z;subst z;exact hw
  ·rw[Ae (by simp[hz])];have aD:=ZP hw aG hz;refine⟨H,W++[q],rfl,h.ai Y ?_ (λk t=>?_) (λx z=>?_) (λx z=>Fx _ z) (by simp) (λx z=>?_) (by simp;omega)⟩
   ·rw[<-C6,Eu];refine⟨O,by simp,λa ha b hb=>?_⟩;simp at hb;subst hb;rcases hall a ha with rfl|z
    ·exact aD
    ·exact ZO z aD
   ·rw[<-C6,HH,HH,<-h.A8,e]
   ·rcases AU.1 z with z|z
    ·exact Fx _ (h.DP x (by rw[e];exact GX _ z))
    ·exact GX _ z
   ·rcases AU.1 z with z|z
    ·exact h.Gv _ (by simp) x z q Y
    ·simp at z;subst z;exact hw
 ·have aA:false=true\/BH p.2.1 len≠BH I.2.1 len:=.inr X;simp only[Ah aA];have hl:(H++[W++[q]]++[[]]).getLastD []=([]:List Pu):=by simp
  have hd:(H++[W++[q]]++[[]]).dropLast=H++[W++[q]]:=by simp
  rw[hl,hd,Ae (by simp)];refine⟨H++[W++[q]],[],by simp,?_⟩;have aF:BH q.2.1 len<BH p.2.1 len:=by
   have:=ZQ X hp;rw[hq.2];exact this
  have:=h.cC p λx z=>?_
  ·simpa using this
  ·rw[e]at z;rcases hall x z with rfl|z
   ·exact aF
   ·rw[Ic]at z;omega
def PW{len:Int}:∀(r:List Pu) (H:List (List Pu)) (O:List Pu) (q z:Pu) (s:List Pu),WI len (H++[O++[q]]) s->q.1=z.1/\q.2.1=z.2.1->B3 (AE len) (z::r)->WI len (Ej len r false z (H++[O++[q]])) (s++r)
 | [],H,O,q,z,s,h,_,_=>by simpa[Ej] using h
 | p::r,H,O,q,z,s,h,hq,ha=>by
  have I:=Di.1 ha;have⟨ws1,w1,h1,h2⟩:=h.a8 hq (I.1 p (Bp ..));unfold Ej;rw[h1];have:=PW r ws1 w1 p p (s++[p]) h2 ⟨rfl,rfl⟩ I.2;simpa using this
def Vw{len:Int}(s:List Pu)(H:B3 (AE len) s):WI len (Ej len s true (0,0,0) []) s:=by
 cases s with
 | nil=>exact⟨by simp[Ej],λ_ _=>rfl,λx z=>by simp[Ej]at z,λw h=>by simp[Ej]at h,λw h=>by simp[Ej]at h,by simp[Ej],by simp[Ej]⟩
 | cons p r=>
  unfold Ej;have e:EC len [] true (0,0,0) p=[]++[[]++[p]]:=by simp[EC]
  rw[e];have O:WI len [] []:=⟨by simp,λ_ _=>rfl,λx z=>by simp at z,λw h=>by simp at h,λw h=>by simp at h,by simp,by simp⟩;have I:=O.cC p (by simp);have:=PW r [] [] p p [p] (by simpa using I) ⟨rfl,rfl⟩ H;simpa using this
def JK{len:Int}(I:BX (AE len))(l:List Pu):WI len (Dd len l) l:=by
 have h:=Vw (len:=len) (E8 (AE len) l) (I.ep l);have z:∀x∈E8 (AE len) l,x∈l:=λx W=>Bg.DP I (I.cv l).bA W;have H:(E8 (AE len) l).length=l.length:=by
  have O:∀(l s:List Pu),(l.foldl (λs x=>EZ (AE len) x s) s).length=s.length+l.length:=by
   intro l
   induction l with
   | nil=>intro s;rfl
   | cons x r ih=>
    intro s;have X:∀m:List Pu,(EZ (AE len) x m).length=m.length+1:=by
     intro m
     induction m with
     | nil=>rfl
     | cons y m ihm=>unfold EZ;split<;>simp[ihm]
    rw[Pp,ih,X,BM];omega
  have:=O l [];simpa[E8] using this
 exact⟨h.L0,λk t=>by rw[<-WX len I l k t];exact h.A8 k t,λx W=>z x (h.DP x W),h.ne,h.Gv,h.MA,by rw[<-H];exact h.Bi⟩
def WI.Fj{len:Int}{ws:List (List Pu)}{s:List Pu}(h:WI len ws s){w:List Pu}(W:w∈ws):Cs Cq w=true:=by
 have H:=List.Pairwise.sublist (A2Q W) h.L0;have X:=h.Gv w W;have I:∀m:List Pu,(∀x∈m,x∈w)->m.Pairwise (λa b=>AE len a b=true)->Cs Cq m=true:=by
  intro m
  induction m with
  | nil=>intro _ _;rfl
  | cons a m ih=>
   intro O H;cases m with
   | nil=>rfl
   | cons b m=>
    have z:=Di.1 H;simp only[Cs,Gp,DT];refine⟨?_,ih (λx Y=>O x (Bn _ Y)) z.2⟩;have:=z.1 b (Bp ..);rw[Ic]at this;have e:=X a (O a (Bp ..)) b (O b (by simp));rw[A1K];omega
 exact I w (λ_ h=>h) H
def IX{ws:List (List Pu)}(h:∀w∈ws,w≠[]):ws.length<=ws.flatten.length:=by
 induction ws with
 | nil=>simp
 | cons w r ih=>
  have h1:=ih λx z=>h x (Bn _ z);have h2:=Ja.2 (h w (Bp ..));rw[HS,AX,BM];omega
def Kt(ws:List (List Pu)):CC ws=17*ws.flatten.length+4*ws.length:=by
 unfold CC
 induction ws with
 | nil=>rfl
 | cons w r ih=>
  rw[F8,K6,ih,HS,AX,BM];omega
section
variable{P P':PD}{A:Ar}{sg cl:List (Int×List Pu)}{ol:Option (List Pu)}{N R:Nat}{Ay oldest:Int}
def Lay.cf(h:Lay P A sg cl ol):∀p∈Az cl++ol.getD [],B8 p:=by
 intro p z;rcases AU.1 z with z|z
 ·have⟨x,hx,z⟩:=List.mem_flatMap.1 z;exact(h.CQ x hx).2 p z
 ·cases ol with
  | none=>simp at z
  | some l=>exact h.AP.2.2.2.1 p (by simpa using z)
def Lay.ee(h:Lay P A sg cl ol):∀p∈Az sg,B8 p:=by
 intro p z;have⟨x,hx,z⟩:=List.mem_flatMap.1 z;exact(h.BT x hx).1.1 p z
def Ci(o:Int)(a b:List Pu):Prop:=(∀k t,o<=t->BC a k t=BC b k t)/\(∀p∈a,∃q∈b,q.1=p.1/\q.2.1=p.2.1)/\a.length<=b.length
def Lay.aQ(h:Lay P A sg cl ol)(hw:BX (AE Ay)){K n:Nat}(hn:(Az cl++ol.getD []).length<=n)(hn2:n<=1099511627776)(hK:P.Av.length<=K)(hsl:sg.length<=K)(hjl:A.j.Al.length<=K)(hll:A.AM.length<=K)(hc:Cm P (N+4*K+4*n+8) (R+29*n+12+8*K))(I:isNum (A.j.A8+1)=true)(hln:A.A8+n<=4611686018427387904):
 (A.aQ P Ay).1=0/\Cm (A.aQ P Ay).2.2 N R/\
  ∃fresh,(A.aQ P Ay).2.1=⟨⟨A.j.A8+1,(sg++Cf A.A8 fresh).map (·.1)⟩,⟨[],A.j.A8,0,none⟩,A.A8+fresh.length,[]⟩/\Lay (A.aQ P Ay).2.2 (A.aQ P Ay).2.1 (sg++Cf A.A8 fresh) [] none/\
   (∀m,(A.aQ P Ay).2.2.bs m≠none->m∈AF::(sg++Cf A.A8 fresh).map λx=>Aw x.1)/\fresh.length<=fresh.flatten.length/\fresh.flatten.length<=(Az cl++ol.getD []).length/\(∀k t,BC (Cl (sg++Cf A.A8 fresh) [] none) k t=BC (Cl sg cl ol) k t)/\(∀p∈fresh.flatten,B8 p):=by
 have H:=h.puts (by rw[AX]at hn;omega);have z:=JK hw (Az cl++ol.getD []);generalize W:Dd Ay (Az cl++ol.getD [])=fresh at z;have X:=IX z.ne;have O:=z.Bi;have hcost:=Kt fresh;have e:A.aQ P Ay=A.ay P (sg.map (·.1)) fresh:=by
  unfold Ar.aQ;rw[H,Ae (by simp),W,h.segs]
 rw[e];have⟨r1,r2,r3,r4,r5⟩:=h.ay (N:=N) (R:=R) (K:=K) sg fresh (hc.ae (by omega) (by omega)) hK (λ_ h=>h) (IH.1 (by rw[h.segs];exact h.E2.Fj))
  (λl Y=>⟨λp H=>h.cf p (z.DP p (Pj.2 ⟨l,Y,H⟩)),z.Fj Y⟩) I (by omega)
 refine⟨r1,r3,fresh,r2,r4,r5,X,O,λk t=>?_,λp H=>h.cf p (z.DP p H)⟩;unfold Cl;have e1:Az (sg++Cf A.A8 fresh)=Az sg++fresh.flatten:=by
  have:=@LP fresh A.A8;unfold Az at this ⊢;rw[A23,this]
 rw[e1];simp only[Az,List.flatMap_nil,Option.getD_none,Fz];rw[Gz,Gz,z.A8];rfl
def Hj(segs:List (Int×List Pu))(oldest:Int):List (List Pu)->List (Int×List Pu)
 | []=>[]
 | l::r=>if l.any (λp=>decide (oldest<=p.2.1))=false then Hj segs oldest r else
  match segs.find? λs=>decide (s.2=l) with
  | none=>Hj segs oldest r
  | some s=>s::Hj segs oldest r
def Ta(segs:List (Int×List Pu))(oldest:Int):∀ws,(C3 segs oldest ws).1=(Hj segs oldest ws).map (·.1)
 | []=>rfl
 | l::r=>by
  have h:=Ta segs oldest r;unfold C3 Hj;split
  ·exact h
  ·cases segs.find? λs=>decide (s.2=l) with
   | none=>exact h
   | some s=>simp[h]
def M7{segs:List (Int×List Pu)}{oldest:Int}:∀ {ws:List (List Pu)} {x:Int×List Pu},x∈Hj segs oldest ws->x∈segs/\x.2∈ws
 | l::r,x,h=>by
  unfold Hj at h;split at h
  ·have:=M7 h;exact⟨this.1,Bn _ this.2⟩
  ·cases hx:segs.find? λs=>decide (s.2=l) with
   | none=>rw[hx]at h;have:=M7 h;exact⟨this.1,Bn _ this.2⟩
   | some s=>
    rw[hx]at h;rcases BF.1 h with rfl|h
    ·have z:=List.find?_some hx;simp at z;exact⟨A2U hx,by rw[z];exact Bp ..⟩
    ·have:=M7 h;exact⟨this.1,Bn _ this.2⟩
def M8{segs:List (Int×List Pu)}{oldest:Int}:∀ {ws:List (List Pu)} {l:List Pu},l∈(C3 segs oldest ws).2->l∈ws
 | w::r,l,h=>by
  unfold C3 at h;split at h
  ·exact Bn _ (M8 h)
  ·cases hx:segs.find? λs=>decide (s.2=w) with
   | none=>
    rw[hx]at h;rcases BF.1 h with rfl|h
    ·exact Bp ..
    ·exact Bn _ (M8 h)
   | some s=>rw[hx]at h;exact Bn _ (M8 h)
def TG{α:Type}(p:List α->Bool)(ws:List (List α)):(ws.filter p).flatten.Sublist ws.flatten:=by
 induction ws with
 | nil=>exact A28 _
 | cons w r ih=>
  rw[Fa];split
  ·rw[HS,HS];exact List.Sublist.append (A28 _) ih
  ·rw[HS];exact ih.trans (List.sublist_append_right _ _)
def G1(oldest:Int)(ws:List (List Pu)):List (List Pu):=ws.filter λl=>l.any λp=>decide (oldest<=p.2.1)
def T9(segs:List (Int×List Pu))(oldest:Int):∀ws,((Hj segs oldest ws).map (·.2)++(C3 segs oldest ws).2).Perm (G1 oldest ws)
 | []=>List.Perm.refl _
 | l::r=>by
  have z:=T9 segs oldest r;unfold C3 Hj G1;by_cases h:l.any (λp=>decide (oldest<=p.2.1))=false
  ·rw[Ah h,Ah h,Kd (by simp[h])];exact z
  ·rw[Ae h,Ae h,Iy (by simpa using h)];cases hx:segs.find? λs=>decide (s.2=l) with
   | none=>
    dsimp only
    exact List.perm_middle.trans (z.cons _)
   | some s=>
    have H:=List.find?_some hx;simp at H;dsimp only
    rw[F8,H];exact z.cons _
def ZB{len:Int}{ws:List (List Pu)}{s:List Pu}(h:WI len ws s)(oldest k t:Int)(ht:oldest<=t):BC (G1 oldest ws).flatten k t=BC s k t:=by
 rw[<-h.A8];clear h;unfold G1
 induction ws with
 | nil=>rfl
 | cons w r ih=>
  by_cases z:w.any (λp=>decide (oldest<=p.2.1))=true
  ·(have e:(w::r).filter (λl=>l.any λp=>decide (oldest<=p.2.1))=w::r.filter (λl=>l.any λp=>decide (oldest<=p.2.1)):=by simp only[Fa,z,Cn]);rw[e,HS,HS,Gz,Gz,ih]
  ·(have e:(w::r).filter (λl=>l.any λp=>decide (oldest<=p.2.1))=r.filter (λl=>l.any λp=>decide (oldest<=p.2.1)):=by simp only[Fa,z];rfl);rw[e,HS,Gz,ih];have:BC w k t=none:=T7.2 λp H hx=>z (Pr.2 ⟨p,H,by simp;omega⟩);rw[this,UQ]
def Is(l:List Pu):Prop:=l.Pairwise λa b=>¬(a.1=b.1/\a.2.1=b.2.1)
def Is.A8{l:List Pu}(h:Is l){k t v:Int}:BC l k t=some v↔(k,t,v)∈l:=by
 refine⟨Zz,λz=>?_⟩
 induction l with
 | nil=>cases z
 | cons p r ih=>
  have H:=Di.1 h;have e:BC (p::r) k t=(BC r k t).or (BC [p] k t):=Gz [p] r k t;rw[e];rcases BF.1 z with rfl|z
  ·have:BC r k t=none:=T7.2 λq O I=>H.1 q O ⟨I.1.symm,I.2.symm⟩;rw[this];simp[BC]
  ·rw[ih H.2 z];simp
def Is.fG{l l':List Pu}(h:Is l)(H:l.Perm l'):Is l':=(H.pairwise_iff (R:=λa b:Pu=>¬(a.1=b.1/\a.2.1=b.2.1)) λh z=>h ⟨z.1.symm,z.2.symm⟩).1 h
def Is.eS{l l':List Pu}(h:Is l)(z:l.Perm l')(k t:Int):BC l k t=BC l' k t:=by
 have H:=h.fG z;cases hx:BC l k t with
 | some v=>exact(H.A8.2 (z.mem_iff.1 (h.A8.1 hx))).symm
 | none=>
  cases hy:BC l' k t with
  | none=>rfl
  | some v=>rw[h.A8.2 (z.mem_iff.2 (H.A8.1 hy))]at hx;cases hx
def WI.eB{len:Int}{ws:List (List Pu)}{s:List Pu}(h:WI len ws s)(oldest:Int):Is (G1 oldest ws).flatten:=by
 have H:(G1 oldest ws).flatten.Pairwise (λa b=>AE len a b=true):=h.L0.sublist (TG _ _);exact H.imp λz=>ZR z
def A2w{oldest:Int}{ws:List (List Pu)}{w:List Pu}(h:w∈G1 oldest ws):w∈ws:=(GF.1 h).1
def Lay.aX(h:Lay P A sg cl ol)(hw:BX (AE Ay)){K n:Nat}(hn:(Cl sg cl ol).length<=n)(hn2:n<=1099511627776)(hK:P.Av.length<=K)(hsl:sg.length<=K)(hjl:A.j.Al.length<=K)(hll:A.AM.length<=K)(hc:Cm P (N+4*K+4*n+8) (R+29*n+12+8*K))(aR:isNum (A.j.A8+1)=true)(hln:A.A8+n<=4611686018427387904):
 (A.aX P Ay oldest).1=0/\Cm (A.aX P Ay oldest).2.2 N R/\
  ∃aA last,(A.aX P Ay oldest).2.1=⟨⟨A.j.A8+1,aA.map (·.1)⟩,⟨[],A.j.A8,0,none⟩,last,[]⟩/\last<=A.A8+n/\Lay (A.aX P Ay oldest).2.2 (A.aX P Ay oldest).2.1 aA [] none/\
   (∀m,(A.aX P Ay oldest).2.2.bs m≠none->m∈AF::aA.map λx=>Aw x.1)/\(aA.map (·.2)).Perm (G1 oldest (Dd Ay (Cl sg cl ol)))/\∀k t,oldest<=t->BC (Cl aA [] none) k t=BC (Cl sg cl ol) k t:=by
 have aS:(Cl sg cl ol).length=(Az sg).length+(Az cl++ol.getD []).length:=by unfold Cl;rw[AX]
 have O:=h.puts (by rw[AX]at aS;omega);have I:=JK hw (Cl sg cl ol);obtain⟨ws,aI⟩:∃ws,Dd Ay (Cl sg cl ol)=ws:=⟨_,rfl⟩;rw[aI]at I;obtain⟨k0,aG⟩:∃k0,Hj sg oldest ws=k0:=⟨_,rfl⟩;obtain⟨fresh,aJ⟩:∃fresh,(C3 sg oldest ws).2=fresh:=⟨_,rfl⟩;have z:=T9 sg oldest ws;rw[aG,aJ]at z;obtain⟨H,aK⟩:∃H,k0.mergeSort (λx y=>decide (x.1<=y.1))=H:=⟨_,rfl⟩;have aE:H.Perm k0:=by rw[<-aK];exact List.mergeSort_perm _ _
 have aU:H.map (·.1)=((C3 sg oldest ws).1).mergeSort λx y=>decide (x<=y):=by
  rw[Ta,aG,<-aK,List.map_mergeSort (s:=λx y:Int=>decide (x<=y))];intro a _ b _;rfl
 have W:∀x∈H,x∈sg/\x.2∈ws:=λx hx=>M7 (by rw[aG];exact aE.mem_iff.1 hx);have aQ:(G1 oldest ws).Nodup:=by
  have h1:(G1 oldest ws).Pairwise λw w'=>∀p∈w,∀q∈w',BH p.2.1 Ay<BH q.2.1 Ay:=I.MA.sublist GG;have X:∀w∈G1 oldest ws,w≠[]:=λw hw=>I.ne w (A2w hw);clear z;generalize G1 oldest ws=v at h1 X
  induction v with
  | nil=>simp
  | cons w r ih=>
   have aP:=Di.1 h1;refine J8.2 ⟨λhm=>?_,ih aP.2 λx hx=>X x (Bn _ hx)⟩;have⟨p,O⟩:=List.exists_mem_of_ne_nil w (X w (Bp ..));have:=aP.1 w hm p O p O;omega
 have aO:(H.map (·.2)).Nodup:=by
  have h1:(k0.map (·.2)++fresh).Nodup:=z.nodup_iff.2 aQ;have X:=(GD.1 h1).1;exact(aE.map (·.2)).nodup_iff.2 X
 have aM:(sg.map (·.1)).Pairwise (· < ·):=IH.1 (by rw[h.segs];exact h.E2.Fj);have aF:∀x∈sg,∀y∈sg,x.1=y.1->x=y:=λx hx y hy e=>by
  obtain⟨i,hi,rfl⟩:=Ee hx;obtain⟨j,hj,rfl⟩:=Ee hy;have O:=Lg.1 aM;rcases UY i j with Y|Y|Y
  ·have:=O i j (by simpa using hi) (by simpa using hj) Y;simp at this;omega
  ·subst Y;rfl
  ·have:=O j i (by simpa using hj) (by simpa using hi) Y;simp at this;omega
 have aB:(H.map (·.1)).Pairwise (· < ·):=by
  have h1:H.Pairwise λx y=>x.1<=y.1:=by
   have:=A2R (le:=λx y:Int×List Pu=>decide (x.1<=y.1)) (λa b c h1 X=>by simp at *;omega) (λa b=>by simp;omega) k0;rw[aK]at this;(exact this.imp λh=>by simpa using h)
  have X:H.Pairwise λx y=>x.2≠y.2:=Lf.1 aO;rw[Lf];have h3:=h1.and X;refine List.Pairwise.imp_of_mem (λ{a b} ha hb aN=>?_) h3;rcases Int.lt_or_eq_of_le aN.1 with h|h
  ·exact h
  ·exact absurd (E5 Prod.snd (aF a (W a ha).1 b (W b hb).1 h)) aN.2
 have aH:∀l∈fresh,l∈ws:=λl hl=>M8 (by rw[aJ];exact hl);have aD:(Az H++fresh.flatten).Perm (G1 oldest ws).flatten:=by
  have h1:(H.map (·.2)++fresh).Perm (G1 oldest ws):=((aE.map (·.2)).append_right _).trans z;have X:=h1.flatten;rw[List.flatten_append]at X;have e:(H.map (·.2)).flatten=Az H:=by unfold Az;rw[A22]
  rwa [e]at X
 have hfl:fresh.length<=fresh.flatten.length:=IX λw hw=>I.ne w (aH w hw);have hcount:fresh.flatten.length<=n:=by
  have h1:=aD.length_eq;have X:(G1 oldest ws).flatten.length<=ws.flatten.length:=(TG _ ws).length_le;have h3:=I.Bi;rw[AX]at h1;omega
 have hkl:H.length<=K:=by
  have:(H.map (·.1)).length<=(sg.map (·.1)).length:=I9 (aB.imp λh=>Int.ne_of_lt h) λx hx=>by
   obtain⟨y,hy,rfl⟩:=C9.1 hx;exact DD (W y hy).1
  simp only[H9]at this;omega
 have hcost:=Kt fresh;have aT:∀p∈Cl sg cl ol,B8 p:=λp O=>by
  rcases AU.1 O with O|O
  ·exact h.ee p O
  ·exact h.cf p O
 have e:A.aX P Ay oldest=A.ay P (H.map (·.1)) fresh:=by
  unfold Ar.aX;rw[h.dY];dsimp only
  have e2:sg.flatMap (·.2)++(P.puts A.j.Al).1=Cl sg cl ol:=by rw[O];rfl
  rw[e2,aI,<-aU,aJ,O,Ae (by simp)]
 rw[e,aI];have⟨r1,r2,r3,r4,r5⟩:=h.ay (N:=N) (R:=R) (K:=K) H fresh (hc.ae (by omega) (by omega)) hK (λx hx=>(W x hx).1) aB
  (λl hl=>⟨λp O=>aT p (I.DP p (Pj.2 ⟨l,aH l hl,O⟩)),I.Fj (aH l hl)⟩) aR (by omega)
 have aL:(Cf A.A8 fresh).map (·.2)=fresh:=by
  have aV:∀(l:List (List Pu)) (a:Int),(Cf a l).map (·.2)=l:=by
   intro l
   induction l with
   | nil=>intro a;rfl
   | cons x r ih=>intro a;simp[Cf,ih]
  exact aV _ _
 refine⟨r1,r3,H++Cf A.A8 fresh,A.A8+fresh.length,r2,by omega,r4,r5,?_,λk t ht=>?_⟩
 ·rw[Ed,aL];exact((aE.map (·.2)).append_right _).trans z
 ·have e1:Cl (H++Cf A.A8 fresh) [] none=Az H++fresh.flatten:=by
   have:=@LP fresh A.A8;unfold Cl Az at *;simp[this]
  rw[e1,(I.eB oldest |>.eS aD.symm k t).symm,ZB I oldest k t ht]
end
def A0s{l:List Pt}(h:E7 l)(t v:Int)(x:Pt):x∈CT l t v↔x=(t,v)\/(x∈l/\x.1≠t):=by
 induction l with
 | nil=>simp[CT]
 | cons e r ih=>
  obtain⟨a,b⟩:=e;have H:=Di.1 h;have I:=ih H.2;simp only[CT];by_cases O:a<t
  ·rw[Ah O];simp only[BF,I];constructor
   ·rintro (rfl|h|⟨h,z⟩)
    ·exact .inr ⟨.inl rfl,by simp only;omega⟩
    ·exact .inl h
    ·exact .inr ⟨.inr h,z⟩
   ·rintro (h|⟨h|h,z⟩)
    ·exact .inr (.inl h)
    ·exact .inl h
    ·exact .inr (.inr ⟨h,z⟩)
  ·rw[Ae O];by_cases z:a=t
   ·subst z;rw[Ah rfl];simp only[BF];constructor
    ·rintro (h|h)
     ·exact .inl h
     ·exact .inr ⟨.inr h,λe=>by have:=H.1 x h;simp only at this;omega⟩
    ·rintro (h|⟨h|h,z⟩)
     ·exact .inl h
     ·subst h;exact absurd rfl z
     ·exact .inr h
   ·rw[Ae z];simp only[BF];constructor
    ·rintro (h|h|h)
     ·exact .inl h
     ·subst h;exact .inr ⟨.inl rfl,z⟩
     ·exact .inr ⟨.inr h,λe=>by have:=H.1 x h;simp only at this;omega⟩
    ·rintro (h|⟨h|h,_⟩)
     ·exact .inl h
     ·exact .inr (.inl h)
     ·exact .inr (.inr h)
def XQ(l:List Pu)(p:Pu)(k a b h Ac:Int):refQ (l++[p]) k a b h Ac=Fk k a b h Ac (refQ l k a b h Ac) p:=by unfold refQ;rw[MT];rfl
def LL(l:List Pu)(k a b h Ac:Int):E7 (refQ l k a b h Ac):=by
 have:=(XS l k a b h Ac l.length (Aq _)).1
 rwa [Cj]at this
def Nz(k a b z Ac:Int)(x:Pt):∀n (l:List Pu),l.length=n->(x∈refQ l k a b z Ac↔(a<=x.1/\x.1<=b/\H5 x.1 z Ac=true)/\BC l k x.1=some x.2):=by
 intro n
 induction n with
 | zero=>
  intro l Y;obtain rfl:l=[]:=G4.1 Y;simp[refQ,BC]
 | succ n ih=>
  intro l Y;have W:l≠[]:=λh=>by subst h;simp at Y
  obtain⟨p,hp⟩:∃p,l=l.dropLast++[p]:=⟨l.getLast W,(Ln W).symm⟩;have aB:l.dropLast.length=n:=by rw[V9,Y];rfl
  have H:=ih l.dropLast aB;rw[hp,XQ,HH];generalize l.dropLast=m at H;unfold Fk;by_cases O:GK k a b z Ac p=true
  ·rw[Ah O,A0s (LL _ _ _ _ _ _),H];unfold GK at O;simp only[Gp,DT]at O;obtain⟨⟨⟨q1,q2⟩,q3⟩,q4⟩:=O;by_cases I:p.2.1=x.1
   ·rw[Ah ⟨q1,I⟩];constructor
    ·rintro (h|⟨_,h⟩)
     ·subst h;exact⟨⟨q2,q3,q4⟩,rfl⟩
     ·exact absurd I.symm h
    ·rintro⟨_,h⟩;refine .inl ?_;(have:p.2.2=x.2:=by simpa using h);rw[I,this]
   ·rw[Ae λh=>I h.2];constructor
    ·rintro (h|⟨h,_⟩)
     ·subst h;exact absurd rfl I
     ·exact h
    ·intro h;exact .inr ⟨h,λe=>I e.symm⟩
  ·rw[Ae O,H];by_cases X:p.1=k/\p.2.1=x.1
   ·rw[Ah X]
    have aA:¬(a<=x.1/\x.1<=b/\H5 x.1 z Ac=true):=λh=>O (by
     unfold GK;rw[X.1,X.2];simp only[OL,N2,Gp,DT]
     exact⟨⟨h.1,h.2.1⟩,h.2.2⟩)
    simp only[aA,false_and]
   ·rw[Ae X]
def Nj:∀ {l l':List Pt},E7 l->E7 l'->(∀x,x∈l↔x∈l')->l=l'
 | [],[],_,_,_=>rfl
 | [],y::r,_,_,h=>by have:=(h y).2 (Bp ..);cases this
 | x::r,[],_,_,h=>by have:=(h x).1 (Bp ..);cases this
 | x::r,y::s,h1,h2,h=>by
  have I:=Di.1 h1;have H:=Di.1 h2;have W:x=y:=by
   rcases BF.1 ((h x).1 (Bp ..)) with e|e
   ·exact e
   ·rcases BF.1 ((h y).2 (Bp ..)) with X|X
    ·exact X.symm
    ·have a:=H.1 x e;have b:=I.1 y X;omega
  subst W
  congr 1
  refine Nj I.2 H.2 λz=>⟨λO=>?_,λO=>?_⟩
  ·rcases BF.1 ((h z).1 (Bn _ O)) with e|e
   ·subst e;have:=I.1 z O;omega
   ·exact e
  ·rcases BF.1 ((h z).2 (Bn _ O)) with e|e
   ·subst e;have:=H.1 z O;omega
   ·exact e
def XR{l l':List Pu}{k a b z Ac:Int}(h:∀t,a<=t->t<=b->H5 t z Ac=true->BC l k t=BC l' k t):refQ l k a b z Ac=refQ l' k a b z Ac:=by
 refine Nj (LL _ _ _ _ _ _) (LL _ _ _ _ _ _) λx=>?_;rw[Nz k a b z Ac x _ l rfl,Nz k a b z Ac x _ l' rfl];constructor
 ·rintro⟨H,I⟩;exact⟨H,by rw[<-h x.1 H.1 H.2.1 H.2.2];exact I⟩
 ·rintro⟨H,I⟩;exact⟨H,by rw[h x.1 H.1 H.2.1 H.2.2];exact I⟩
def Tryz.fi:Go.Shelf.Ren:=⟨fun|26=>89|33=>132|34=>133|38=>189|n=>n,fun|0=>0|3=>3|4=>4|9=>9|24=>106|40=>189|n=>n,fun|n=>n⟩
def Tryz.ey:Go.Proofs.Lays2.n26 Tryz.prog Tryz.fi:={
 mixed:=by kernel_rfl
 f26:=func89.trans (E5 some (by kernel_rfl))
 f33:=func132.trans (E5 some (by kernel_rfl))
 f34:=func133.trans (E5 some (by kernel_rfl))
 f38:=func189.trans (E5 some (by kernel_rfl))
 t0:=underlying0
 a0:=isAgg0
 z0:=sizeOf0
 v0:=zeroValue0
 t3:=underlying3
 a3:=isAgg3
 z3:=sizeOf3
 v3:=zeroValue3
 t4:=underlying4
 a4:=isAgg4
 z4:=sizeOf4
 v4:=zeroValue4
 t9:=underlying9
 a9:=isAgg9
 z9:=sizeOf9
 v9:=zeroValue9
 t24:=underlying106
 a24:=isAgg106
 z24:=sizeOf106
 v24:=zeroValue106
 t40:=underlying189
 a40:=isAgg189
 z40:=sizeOf189
 v40:=zeroValue189}
def Tryz.fr:Go.Shelf.Ren:=⟨fun|41=>101|n=>n,fun|22=>72|23=>90|4=>4|n=>n,fun|n=>n⟩
def Tryz.eu:Go.Proofs.SlLaysE0.n41 Tryz.prog Tryz.fr:={
 mixed:=by kernel_rfl
 f41:=⟨Tryz.f101.name,by decide,func101.trans (E5 some (by kernel_rfl))⟩
 t4:=underlying4
 a4:=isAgg4
 z4:=sizeOf4
 v4:=zeroValue4
 t22:=underlying72
 a22:=isAgg72
 z22:=sizeOf72
 v22:=zeroValue72}
def Uh(a b:List UInt8):Op.bytesLess a b=decide (a<b):=by
 induction a generalizing b with
 | nil=>cases b with
  | nil=>simp[Op.bytesLess]
  | cons y r=>simp[Op.bytesLess]
 | cons x a ih=>
  cases b with
  | nil=>simp[Op.bytesLess]
  | cons y r=>
   unfold Op.bytesLess;rw[ih r];by_cases z:x<y
   ·simp[z,List.cons_lt_cons_iff]
   ·by_cases h:x=y
    ·subst h;simp
    ·(have:¬(x::a<y::r):=by rw[Jc];simp[z,h]);simp[z,h,this]
end
end Go.Proofs.YtodcnkbblippnabGreatDoor
