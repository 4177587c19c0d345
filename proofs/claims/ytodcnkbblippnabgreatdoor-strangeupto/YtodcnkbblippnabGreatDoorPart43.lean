/- Part 43 of a proof: walks of the program. -/
import Derived.Test.YtodcnkbblippnabGreatDoorPart41
import Derived.Test.YtodcnkbblippnabGreatDoorPart42
namespace Go.Proofs.YtodcnkbblippnabGreatDoor
set_option maxRecDepth 100000
set_option maxHeartbeats 32000000
set_option linter.defProp false
open Go.Proofs.Tryz
section
open Go.RowKit
section
variable{P P':PD}{A:Ar}{ps pl:List Pu}{sg:List (Int×List Pu)}{N R K:Nat}
def YT{n:Int}(h:0<=n/\n<=9223372036854775807):(Af n).length<=20:=by
 have:=Jz h;rw[HG,LI];simp only[BM,AX,List.length_replicate];have:=this.2.2;omega
def Si{n:Int}(h:0<=n/\n<=9223372036854775807):(Aw n).length<=20:=by
 have:=Jz h;rw[Hf,LI];simp only[BM,AX,List.length_replicate];have:=this.2.2;omega
def Sv:∀(fresh:List (List Pu)) (last:Int) (kept:List Int) {P:PD},Cm P (N+3*fresh.length) (R+CC fresh)->0<=last->last+fresh.length<=9223372036854775807->
 (∀n,last<n->n<=last+fresh.length->P.bs (Aw n)=none)->
 (PD.ah fresh last kept P).1=0/\(PD.ah fresh last kept P).2.1=last+fresh.length/\(PD.ah fresh last kept P).2.2.1.length=kept.length+fresh.length/\Cm (PD.ah fresh last kept P).2.2.2 N R/\
  ∀m,(∀n,last<n->n<=last+fresh.length->m≠Aw n)->(PD.ah fresh last kept P).2.2.2.bs m=P.bs m
 | [],last,kept,P,hc,h0,I,hn=>⟨rfl,by simp[PD.ah],by simp[PD.ah],by simpa[PD.ah,CC] using hc,λm _=>rfl⟩
 | l::r,last,kept,P,hc,h0,I,hn=>by
  simp only[BM]at I hn;have h:CC (l::r)=(17*l.length+4)+CC r:=by simp[CC]
  have⟨a1,a2,a3⟩:=Cm.aH (N:=N+3*r.length) (R:=R+CC (l::r)) (nm:=Aw (last+1)) (hc.ae (by simp;omega) (Aq _)) (hn _ (by omega) (by omega)) (QK _) (AB (Aw (last+1))) (Cb l) (by rw[HC,h];omega);rw[HC]at a2;have O:=a2.ae (N':=N+3*r.length) (R':=R+CC r) (Aq _) (by rw[h];omega);have⟨b1,b2,b3,b4,b6⟩:=Sv r (last+1) (kept++[last+1]) O (by omega) (by omega) λn hlt hle=>by
   (have H:Aw n≠Aw (last+1):=λe=>by have:=Sj (by omega) (by omega) e;omega);rw[a3,Ae H];exact hn n (by omega) (by omega)
  have e:PD.ah (l::r) last kept P=PD.ah r (last+1) (kept++[last+1]) (P.aI (last+1) l).2:=by
   conv=>lhs;unfold PD.ah
   rw[Ae (by unfold PD.aI;simp[a1])]
  have W:(P.aI (last+1) l).2=(P.aH (Aw (last+1)) (AB (Aw (last+1))) (Cb l)).2:=rfl;rw[e,W];refine⟨b1,by rw[b2];simp only[BM];omega,by rw[b3];simp;omega,b4,λm z=>?_⟩;simp only[BM]at z;rw[b6 m λn I h2=>z n (by omega) (by omega),a3,Ae (z _ (by omega) (by omega))]
def XA(kept:List Int)(fresh:List (List Pu)){L:Nat}(hc:Cm P (A.AM.length+K+3*fresh.length+5+L) (CC fresh+12+8*(kept.length+fresh.length)))(hl:∀nm∈A.AM,P.bs nm≠none)(hK:P.Av.length<=K)(hL:A.j.Al.length+A.ix.segs.length+fresh.length+2<=L)(h0:0<=A.A8/\A.A8+fresh.length<=9223372036854775807)(aB:∀n,A.A8<n->n<=A.A8+fresh.length->P.bs (Aw n)=none):
 (A.ay P kept fresh).1=0/\∀m,(A.ay P kept fresh).2.2.bs m≠none->m∈AF::(AF::A.j.Al.map Af++A.ix.segs.map Aw++(List.range fresh.length).map λ(i:Nat)=>Aw (A.A8+1+i)):=by
 have⟨s1,s3,s4⟩:=Cm.av (N:=K+3*fresh.length+5+L) (R:=CC fresh+12+8*(kept.length+fresh.length)) A.AM (hc.ae (by omega) (Aq _)) hl;have es:A.aa P=(0,{A with AM:=[]},(PD.av A.AM P).2):=by
  unfold Ar.aa;rw[Ae (by simp[s1])]
 generalize (PD.av A.AM P).2=P1 at s3 s4 es;have W:(({A with AM:=[]}:Ar).aV P1).length<=K:=by
  refine AH ?_ hK;refine I9 (MY GG s3.cb) λm h=>?_;rw[EF,<-s4];exact(HD.1 h).1
 have⟨w1,w2,w3⟩:=Cm.aw (A:={A with AM:=[]}) s3 (K:=K) (M:=3*fresh.length+5+L) W (by omega);generalize aG:({A with AM:=[]}:Ar).aw P1=Q2 at w1 w2 w3;have⟨g1,g2,g3,g4,g6⟩:=Sv (N:=5+L) (R:=12+8*(kept.length+fresh.length)) fresh A.A8 kept (w2.ae (by omega) (by omega)) h0.1 h0.2 λn h1 h2=>by
  rw[w3];split
  ·rw[s4];exact aB n h1 h2
  ·rfl
 generalize aD:PD.ah fresh A.A8 kept Q2.2=Q3 at g1 g2 g3 g4 g6;have X:Q3.2.2.2.bs Bl=none:=by
  rw[g6 _ λn _ _=>(IG n).symm,w3,Ae];unfold Ar.Av;intro h;simp only[AU,BF,C9]at h;rcases h with (e|⟨n,_,e⟩)|⟨n,_,e⟩
  ·exact Ih e.symm
  ·exact IU n e
  ·exact IG n e
 obtain⟨O,aF⟩:∃O,({A with AM:=[],A8:=Q3.2.1}:Ar)=O:=⟨_,rfl⟩;have H:(O.ai Q3.2.2.2 Q3.2.2.1).1=0/\Cm (O.ai Q3.2.2.2 Q3.2.2.1).2.2 (1+L) 0/\∀m,m≠AF->(O.ai Q3.2.2.2 Q3.2.2.1).2.2.bs m=Q3.2.2.2.bs m:=by
  unfold Ar.ai;by_cases I:O.ix.AW=O.j.A8+1/\O.ix.segs=Q3.2.2.1
  ·rw[Ah I];exact⟨rfl,g4.ae (by omega) (by omega),λ_ _=>rfl⟩
  ·rw[Ae I];have⟨t1,t2,t3⟩:=Cm.ai (N:=1+L) (R:=12+8*(kept.length+fresh.length)) (g4.ae (by omega) (Aq _)) (O.j.A8+1) Q3.2.2.1 X (by rw[g3];exact Aq _);rw[Ae (by simp[t1])];exact⟨rfl,t2.ae (Aq _) (C8 _),λm h=>by dsimp only;rw[t3,Ae h]⟩
 generalize hT:O.ai Q3.2.2.2 Q3.2.2.1=T at H;obtain⟨t1,t2,t3⟩:=H;have Y:∀m,T.2.2.bs m≠none->m∈AF::(AF::A.j.Al.map Af++A.ix.segs.map Aw++(List.range fresh.length).map λ(i:Nat)=>Aw (A.A8+1+i)):=λm hb=>by
  by_cases hi:m=AF
  ·subst hi;exact Bp ..
  ·rw[t3 m hi]at hb;by_cases hf:∃n,A.A8<n/\n<=A.A8+fresh.length/\m=Aw n
   ·obtain⟨n,h1,h2,rfl⟩:=hf;refine Bn _ (GX _ (C9.2 ⟨(n-A.A8-1).toNat,K8.2 (by omega),?_⟩));(have e:A.A8+1+((n-A.A8-1).toNat:Int)=n:=by omega);rw[e]
   ·rw[g6 m λn h1 h2 e=>hf ⟨n,h1,h2,e⟩,w3]at hb;split at hb
    ·rename_i aA;exact Bn _ (Fx _ aA)
    ·exact absurd rfl hb
 have z:(T.2.1.a6 T.2.2).1=0/\∀m,(T.2.1.a6 T.2.2).2.2.bs m≠none->T.2.2.bs m≠none:=by
  have aE:(T.2.1.aV T.2.2).length<=L:=
   AH (I9 (MY GG t2.cb) λm h=>Y m (HD.1 h).1) (by simp;omega)
  have⟨c1,c2,c3⟩:=Cm.aw (A:=T.2.1) t2 aE (M:=1) rfl;obtain⟨d1,-,d3⟩:=Cm.du c2;unfold Ar.a6;rw[Ae (by simp[c1])];refine⟨d1,λm h=>?_⟩;dsimp only at h;rw[d3,c3]at h;split at h
  ·exact h
  ·exact absurd rfl h
 have e:A.ay P kept fresh=T.2.1.a6 T.2.2:=by
  unfold Ar.ay;rw[es];dsimp only
  rw[Ae (by decide),aG,Ae (by simp[w1]),aD,Ae (by simp[g1]),aF,hT,Ae (by simp[t1])]
 rw[e];exact⟨z.1,λm h=>Y m (z.2 m h)⟩
def Ec.I(h:Ec P A sg pl)(X:Cm P (N+A.AM.length+3) R)(p:Pu)(hR:33<=R):
 (A.I P p).1=true/\(A.I P p).2.1=0/\(∃s,(A.I P p).2.2.1 = {A with AM:=[],j:=⟨A.j.Al++[A.j.A8+1],A.j.A8+1,pl.length,some (A.j.A8+1,s)⟩})/\Cm (A.I P p).2.2.2 N (R-33)/\
  ∀m,(A.I P p).2.2.2.bs m=if m=Af (A.j.A8+1) then some (DH (Af (A.j.A8+1)) pl.length [p]) else P.bs m:=by
 have hN:=h.bk;have⟨s1,s3,s4⟩:=Cm.av (N:=N+3) (R:=R) A.AM (X.ae (by omega) (Aq _)) h.AM;have es:A.aa P=(0,{A with AM:=[]},(PD.av A.AM P).2):=by
  unfold Ar.aa;rw[Ae (by simp[s1])]
 generalize (PD.av A.AM P).2=P1 at s3 s4 es;have H:P1.bs (Af (A.j.A8+1))=none:=by rw[s4];exact h.dU X ⟨by omega,by omega⟩
 obtain⟨n,W⟩:∃n,A.j.A8+1=n:=⟨_,rfl⟩;rw[W]at H;have⟨a1,a2,a3⟩:=Cm.cA (N:=N+2) s3 H (T0 n);have⟨b0,b1,b2,b3⟩:=Cm.I (N:=N+1) (nm:=Af n) (c:=[]) a2 (by rw[a3,Ah rfl]) (AB (Af n)) (AR pl.length) (by rw[CD];omega);rw[CD]at b2;have Y:((P1.af (A9 (Af n))).2.I (A9 (Af n)) (AB (Af n)) (AR pl.length)).2.2.bs (Af n)=some (DH (Af n) pl.length []):=by
  rw[b3,Ah rfl];simp[DH,DQ]
 have⟨c0,c1,c2,c3⟩:=Cm.I (N:=N) b2 Y (Eg (Af n) pl.length []) (B9 p.1 p.2.1 p.2.2) (by rw[EE];omega);rw[EE]at c2;have⟨q1,q2⟩:=O7 (Af n) pl.length [] p;have I:A.j.au P1=(0,⟨A.j.Al++[n],n,pl.length,some (n,Eg (Af n) pl.length [])⟩,((P1.af (A9 (Af n))).2.I (A9 (Af n)) (AB (Af n)) (AR pl.length)).2.2):=by
  unfold Jn.au;rw[W,Ae (by simp[a1])];dsimp only
  rw[h.Oc,Ae (by simp[b1])];rfl
 have O:A.j.I P1 p=(true,0,⟨A.j.Al++[n],n,pl.length,some (n,AV (Eg (Af n) pl.length []) (B9 p.1 p.2.1 p.2.2))⟩,(((P1.af (A9 (Af n))).2.I (A9 (Af n)) (AB (Af n)) (AR pl.length)).2.2.I (A9 (Af n)) (Eg (Af n) pl.length []) (B9 p.1 p.2.1 p.2.2)).2.2):=by
  unfold Jn.I;rw[Ah h.AP,I];dsimp only
  rw[Ae (by decide)];unfold Jn.ax;dsimp only
  rw[c0,c1]
 have e:A.I P p=(true,0,{A with AM:=[],j:=⟨A.j.Al++[n],n,pl.length,some (n,AV (Eg (Af n) pl.length []) (B9 p.1 p.2.1 p.2.2))⟩},(((P1.af (A9 (Af n))).2.I (A9 (Af n)) (AB (Af n)) (AR pl.length)).2.2.I (A9 (Af n)) (Eg (Af n) pl.length []) (B9 p.1 p.2.1 p.2.2)).2.2):=by
  unfold Ar.I;rw[es];dsimp only
  rw[Ae (by decide),O]
 rw[e,W];refine⟨rfl,rfl,⟨_,rfl⟩,c2.ae (Aq _) (by omega),λm=>?_⟩;dsimp only
 rw[c3];by_cases z:m=Af n
 ·rw[Ah z,Ah z,<-q1];rfl
 ·rw[Ae z,Ae z,b3,Ae z,a3,Ae z,s4]
def QF(h:∀n,P'.bs (Aw n)=P.bs (Aw n)):∀l:List Int,P'.segs l=P.segs l
 | []=>rfl
 | n::r=>by
  have e:P'.BT n=P.BT n:=by
   unfold PD.BT PD.aT;rw[GR,GR,h n]
  unfold PD.segs;rw[e,QF h r]
def Rw:∀(l:List Int) (z:List Pu),(∀n∈l,P.bs (Af n)≠none/\P'.bs (Af n)=P.bs (Af n))->P'.aU l z=P.aU l z
 | [],_,_=>rfl
 | n::r,z,h=>by
  have e:∀a,P'.aY n a=P.aY n a:=λa=>by
   cases hb:P.bs (Af n) with
   | none=>exact absurd hb (h n (Bp ..)).1
   | some c=>rw[IT hb,IT ((h n (Bp ..)).2.trans hb)]
  unfold PD.aU;rw[e];split
  ·rfl
  ·exact Rw r _ λm H=>h m (Bn _ H)
def Rz:∀(l r:List Int) (H z:List Pu),P.aU l H=(z,0)->P.aU (l++r) H=P.aU r z
 | [],r,H,z,h=>by cases h;rfl
 | n::l,r,H,z,h=>by
  unfold PD.aU at h;rw[Fb]
  conv=>lhs;unfold PD.aU
  split at h
  ·rename_i I;have:=E5 Prod.snd h;exact absurd this I
  ·rename_i O;rw[Ae O];exact Rz l r _ _ h
def Ec.bl(h:Ec P A sg pl)(hc:Cm P N R){p:Pu}(W:B8 p)(hl:pl.length<=1099511627776)(I:∀m,P'.bs m=if m=Af (A.j.A8+1) then some (DH (Af (A.j.A8+1)) pl.length [p]) else P.bs m):
 P'.segs A.ix.segs=some sg/\P'.puts (A.j.Al++[A.j.A8+1])=(pl++[p],0):=by
 have hN:=h.bk;have H:=h.dU hc (n:=A.j.A8+1) ⟨by omega,by omega⟩;refine⟨(QF (P:=P) (λn=>by rw[I,Ae (EY _ n).symm]) _).trans h.segs,?_⟩;have Y:P'.aU A.j.Al []=(pl,0):=by
  rw[Rw A.j.Al [] λn hn=>?_]
  ·exact h.puts
  ·have z:=(JF (first:=A.ix.AW) (by rw[<-h.Al];exact hn)).2.2;exact⟨z,by rw[I,Ae λe=>z (by rw[e];exact H)]⟩
 show P'.aU (A.j.Al++[A.j.A8+1]) []=_;rw[Rz _ _ _ _ Y];have X:P'.aY (A.j.A8+1) pl.length=([p],0):=LY (t:=[]) (by constructor<;>omega) (λq O=>by simp at O;subst O;exact W) (by decide) (by rw[I,Ah rfl,Fz]);unfold PD.aU;rw[X,Ae (by simp)];rfl
def ZS(sg:List (Int×List Pu))(oldest:Int)(ws:List (List Pu)):(C3 sg oldest ws).1.length+(C3 sg oldest ws).2.length<=ws.length/\(C3 sg oldest ws).2.flatten.length<=ws.flatten.length:=by
 induction ws with
 | nil=>exact⟨Aq _,Aq _⟩
 | cons l r ih=>
  obtain⟨i1,i2⟩:=ih;unfold C3;simp only[HS,AX,BM];split
  ·exact⟨by omega,by omega⟩
  ·split
   ·simp only[HS,AX,BM];exact⟨by omega,by omega⟩
   ·simp only[BM];exact⟨by omega,by omega⟩
def Ec.aX{Ay oldest:Int}{s:Nat}{p:Pu}(h:Ec P A sg pl)(W:Cm P N R)(hp:B8 p)(Y:∀m,P'.bs m=if m=Af (A.j.A8+1) then some (DH (Af (A.j.A8+1)) pl.length [p]) else P.bs m)(hw:BX (AE Ay)){n:Nat}(hn:(sg.flatMap (·.2)++(pl++[p])).length<=n)(hn2:n<=1099511627776)(hK:P'.Av.length<=K)(hsl:A.ix.segs.length<=K)(hjl:A.j.Al.length+1<=K)(hc:Cm P' (3*K+4*n+7) (29*n+12)):
 (({A with AM:=[],j:=⟨A.j.Al++[A.j.A8+1],A.j.A8+1,pl.length,some (A.j.A8+1,s)⟩}:Ar).aX P' Ay oldest).1=0/\
   (∀m,(({A with AM:=[],j:=⟨A.j.Al++[A.j.A8+1],A.j.A8+1,pl.length,some (A.j.A8+1,s)⟩}:Ar).aX P' Ay oldest).2.2.bs m≠none->m.length<=20)/\
   ∀a c m:Nat,Fit P' a c m->Fit (({A with AM:=[],j:=⟨A.j.Al++[A.j.A8+1],A.j.A8+1,pl.length,some (A.j.A8+1,s)⟩}:Ar).aX P' Ay oldest).2.2 (a+n+2) (c+2*a+2*n+4) (m+29*n+12)/\(({A with AM:=[],j:=⟨A.j.Al++[A.j.A8+1],A.j.A8+1,pl.length,some (A.j.A8+1,s)⟩}:Ar).aX P' Ay oldest).2.2.D.Ap=[]/\(({A with AM:=[],j:=⟨A.j.Al++[A.j.A8+1],A.j.A8+1,pl.length,some (A.j.A8+1,s)⟩}:Ar).aX P' Ay oldest).2.2.D.AK=(({A with AM:=[],j:=⟨A.j.Al++[A.j.A8+1],A.j.A8+1,pl.length,some (A.j.A8+1,s)⟩}:Ar).aX P' Ay oldest).2.2.D.A6:=by
 have hN:=h.bk;have hl:pl.length<=1099511627776:=by simp only[AX,BM]at hn;omega
 obtain⟨r1,r2⟩:=h.bl W hp hl Y;have I:=JK hw (sg.flatMap (·.2)++(pl++[p]));have hfl:=IX I.ne;have hfl2:=I.Bi;unfold Ar.aX;dsimp only
 rw[r1];dsimp only
 rw[r2,Ae (by simp)];dsimp only
 obtain⟨k1,k2⟩:=ZS sg oldest (Dd Ay (sg.flatMap (·.2)++(pl++[p])));generalize C3 sg oldest (Dd Ay (sg.flatMap (·.2)++(pl++[p])))=kf at k1 k2;have hcost:=Kt kf.2;have O:(kf.1.mergeSort λx y=>decide (x<=y)).length=kf.1.length:=V7 _;have X:=XA (A:={A with AM:=[],j:=⟨A.j.Al++[A.j.A8+1],A.j.A8+1,pl.length,some (A.j.A8+1,s)⟩}) (K:=K) (L:=2*K+n+2) (kf.1.mergeSort λx y=>decide (x<=y)) kf.2 (hc.ae ?_ ?_) (λnm H=>by cases H) hK ?_ ⟨by dsimp only;omega,by dsimp only;omega⟩ λm h1 h2=>?_
 ·refine⟨X.1,λm H=>?_,λa c m hF=>⟨(hF.ay _ kf.2).ae (by omega) (by omega) (by rw[O];omega),Xz _ _ X.1⟩⟩;have H:=X.2 m H;simp only[AU,BF,C9,K8,A2S,or_false]at H;rcases H with rfl|((rfl|⟨k,z,rfl⟩)|⟨k,z,rfl⟩)|⟨k,z,rfl⟩
  ·decide
  ·decide
  ·refine YT ?_;rcases z with z|rfl
   ·have:=hN.2.2.2.2 k z;omega
   ·omega
  ·refine Si ?_;have:=hN.2.2.2.1 k z;omega
  ·refine Si ?_;omega
 ·simp only[Gk];omega
 ·rw[O];omega
 ·simp only[AX,BM,Gk];omega
 ·dsimp only at h1 h2;rw[Y,Ae (EY _ m).symm];exact h.eJ W ⟨h1,by omega⟩
end
def Rel(L:Nat->List Pt)(puts:List Pu)(h Ac:Int):Prop:=∀k:Nat,k<8->(L k).filter (λx=>decide (Bu Ac h<=x.1))=refQ puts k (-9223372036854775808) 9223372036854775807 h Ac
def XP(puts:List Pu)(s a b l c a' O l' I:Int)(g:Int->Bool)(h:∀p∈puts,GK s a' O l' I p=(GK s a b l c p&&g p.2.1)):
 refQ puts s a' O l' I=(refQ puts s a b l c).filter (λx=>g x.1):=by
 have key:∀(W:List Pu) (z:List Pt),E7 z->(∀p∈W,GK s a' O l' I p=(GK s a b l c p&&g p.2.1))->
  W.foldl (Fk s a' O l' I) (z.filter λx=>g x.1)=(W.foldl (Fk s a b l c) z).filter (λx=>g x.1):=by
  intro W
  induction W with
  | nil=>intro z _ _;rfl
  | cons p r ih=>
   intro z hs hp;have X:=hp p (by simp);simp only[Pp];by_cases q:GK s a b l c p=true
   ·(have e1:Fk s a b l c z p=CT z p.2.1 p.2.2:=by unfold Fk;rw[Ah q]);have Y:Fk s a' O l' I (z.filter λx=>g x.1) p=(CT z p.2.1 p.2.2).filter (λx=>g x.1):=by
     unfold Fk;rw[X,q,N2,Tu hs]
    rw[e1,Y];exact ih _ (KM hs _ _) λp H=>hp p (Bn _ H)
   ·(have q':GK s a b l c p=false:=by simpa using q);(have e1:Fk s a b l c z p=z:=by unfold Fk;rw[q'];rfl);have Y:Fk s a' O l' I (z.filter λx=>g x.1) p=z.filter λx=>g x.1:=by
     unfold Fk;rw[X,q',Vk];rfl
    rw[e1,Y];exact ih _ hs λp H=>hp p (Bn _ H)
 exact key puts [] List.Pairwise.nil h
def UE{t h Ac:Int}(z:AY t):H5 t h Ac=decide (Bu Ac h<=t):=(YM Ac h t z).symm
def Rel.cG{L:Nat->List Pt}{puts:List Pu}{z Ac:Int}(h:Rel L puts z Ac)(I:∀p∈puts,AY p.2.1){k:Nat}(O:k<8)(a b:Int):
 piece (L k) (max a (Bu Ac z)) b=refQ puts k a b z Ac:=by
 have e:=XP puts k (-9223372036854775808) 9223372036854775807 z Ac a b z Ac (λt=>decide (a<=t)&&decide (t<=b)) λp H=>by
  have⟨h1,h2⟩:=I p H;unfold GK;have d1:=CJ h1;have d2:=CJ h2;rw[d1,d2];cases decide (p.1=(k:Int))<;>cases decide (a<=p.2.1)<;>cases decide (p.2.1<=b)<;>cases H5 p.2.1 z Ac<;>rfl
 rw[e,<-h k O,A25];unfold piece
 congr 1
 funext x
 apply Vl.2;simp only[Gp,DT];omega
def Rel.b4(h Ac:Int):Rel (λ_=>[]) [] h Ac:=λ_ _=>by simp[refQ]
def Rel.ax{L:Nat->List Pt}{puts:List Pu}{z Ac:Int}(h:Rel L puts z Ac)(X:∀k,k<8->E7 (L k)){s:Nat}(hs8:s<8){t v:Int}(O:AY t):
 Rel (FL L (Bu Ac z) s t v) (puts++[((s:Int),t,v)]) z Ac:=by
 intro k I;have Y:refQ (puts++[((s:Int),t,v)]) k (-9223372036854775808) 9223372036854775807 z Ac=Fk k (-9223372036854775808) 9223372036854775807 z Ac (refQ puts k (-9223372036854775808) 9223372036854775807 z Ac) ((s:Int),t,v):=by
  unfold refQ;rw[MT];rfl
 rw[Y,<-h k I];obtain⟨t1,t2⟩:=O;have d1:=CJ t1;have d2:=CJ t2;unfold Fk GK;simp only[d1,d2,Bool.and_true,UE (⟨t1,t2⟩:AY t)];unfold FL;by_cases H:Bu Ac z<=t
 ·rw[Ah H];unfold I3;by_cases e:k=s
  ·subst e;have f:=Tu (X k I) (λx=>decide (Bu Ac z<=x)) t v;simp only[CJ H]at f ⊢;simp only[Cn]at f ⊢;simpa using f
  ·have W:¬(s:Int)=(k:Int):=λx=>e (by omega);simp[e,W]
 ·rw[Ae H];have:decide (Bu Ac z<=t)=false:=Dw H;simp[this]

def XM{L:Nat->List Pt}{a b:List Pu}{z Ac:Int}(h:Rel L a z Ac)(_ha:∀p∈b,B8 p)(X:Ci (Bu Ac z) a b):Rel L b z Ac:=λk I=>by
 rw[h k I];refine XR λt W O H=>X.1 _ _ ?_;rw[UE ⟨W,O⟩]at H;exact KE H
structure Wd (P:PD) (a m:Nat):Prop where
 A6:P.D.A6.length<=a
 AK:P.D.AK.length<=a
 Fu:∀l∈P.D.Ap,l.length<=a
 Bi:∀f,P.D.As f->(P.F f).1.length<=m
def Fit.wd{P:PD}{a c m:Nat}(h:Fit P a c m):Wd P a m:=⟨h.A6,h.AK,h.Fu,h.Bi⟩
def Wd.BO{P:PD}{a c m a' m':Nat}(h:Wd P a m)(z:Fit P a' c m'):Fit P a c m:=⟨h.A6,h.AK,h.Fu,z.An,h.Bi,z.B1,z.BA⟩
def BG(P:PD)(k:Nat):Prop:=∀f,P.D.As f->f<k
def BG.ae{P:PD}{k z:Nat}(h:BG P k)(H:k<=z):BG P z:=λf I=>Bm (h f I) H
def Mk{k:Nat}:∀ {es:List AI},(∀e∈es,e.2<k)->Il es<=k
 | [],_=>C8 _
 | e::r,h=>by
  have:=h e (Bp ..);have:=Mk λx z=>h x (Bn _ z);unfold Il;omega
def Ue{k:Nat}:∀ {l:List (List AI)},(∀c∈l,∀e∈c,e.2<k)->JS l<=k
 | [],_=>C8 _
 | c::r,h=>by
  have:=Mk (h c (Bp ..));have:=Ue λx z=>h x (Bn _ z);unfold JS;omega
def BG.AS{P:PD}{k:Nat}(h:BG P k):P.D.AS<=k:=by
 have h1:=Mk λe z=>h _ (.inl ⟨e,z,rfl⟩);have h2:=Mk λe z=>h _ (.inr (.inl ⟨e,z,rfl⟩));have h3:=Ue λc H e z=>h _ (.inr (.inr ⟨c,H,e,z,rfl⟩));unfold DS.AS;omega
def BG.A6{P:PD}{k:Nat}(h:BG P k):∀e∈P.D.A6,e.2<k:=λe z=>h _ (.inl ⟨e,z,rfl⟩)
def HK(P P':PD):Prop:=P'.D.AK=P.D.AK/\((P'.D.A6=P.D.A6/\P'.D.Ap=P.D.Ap)\/P'.D.Ap=P.D.Ap++[P'.D.A6])
def HK.wd{P P':PD}{a m:Nat}(h:HK P P')(H:Wd P a m)(I:P'.D.A6.length<=a)(O:∀f,P'.D.As f->(P'.F f).1.length<=m):Wd P' a m:=
 ⟨I,by rw[h.1];exact H.AK,λl z=>by
  rcases h.2 with⟨_,e⟩|e
  ·rw[e]at z;exact H.Fu l z
  ·rw[e]at z;rcases AU.1 z with z|z
   ·exact H.Fu l z
   ·simp at z;subst z;exact I,O⟩
def HK.An{P P':PD}(h:HK P P'):∀l∈P'.D.Ap,l∈P.D.Ap\/l=P'.D.A6:=λl z=>by
 rcases h.2 with⟨_,e⟩|e
 ·rw[e]at z;exact .inl z
 ·rw[e]at z;rcases AU.1 z with z|z
  ·exact .inl z
  ·exact .inr (by simpa using z)
def HK.As{P P':PD}(h:HK P P'){p:Nat->Prop}(I:∀f,P.D.As f->p f)(H:∀e∈P'.D.A6,p e.2):∀f,P'.D.As f->p f:=by
 rintro f (⟨e,he,rfl⟩|⟨e,he,rfl⟩|⟨l,z,e,he,rfl⟩)
 ·exact H e he
 ·rw[h.1]at he;exact I _ (.inr (.inl ⟨e,he,rfl⟩))
 ·rcases h.An l z with z|rfl
  ·exact I _ (.inr (.inr ⟨l,z,e,he,rfl⟩))
  ·exact H e he
section
variable{P P':PD}{A:Ar}{J:Jn}{a m k:Nat}
def Extra.dm{nm:Bs}(h:Extra P nm P'):HK P P':=⟨h.AK,by
 rcases h.Hl with⟨d1,d2⟩|⟨_,d1,d2⟩
 ·exact .inl ⟨d1,d2⟩
 ·exact .inr (by rw[d2,d1])⟩
def Extra.Er{nm:Bs}(h:Extra P nm P'):∀e∈P'.D.A6,e∈P.D.A6\/e.2=P.D.AS:=λe z=>by
 rcases h.Hl with⟨d1,_⟩|⟨_,d1,_⟩
 ·rw[d1]at z;exact .inl z
 ·rw[d1]at z;rcases AU.1 z with z|z
  ·exact .inl z
  ·simp at z;subst z;exact .inr rfl
def BG.bJ{nm:Bs}(h:BG P k)(H:Extra P nm P'):BG P' (k+1):=by
 refine H.dm.As (λf I=>A2J (h f I)) λe z=>?_;rcases H.Er e z with z|z
 ·exact A2J (h.A6 e z)
 ·have:=h.AS;omega
def Wd.bJ{nm:Bs}(h:Wd P a m)(z:Extra P nm P')(X:P.dl+1<=a)(Y:(P'.F P.D.AS).1.length<=m):Wd P' a m:=by
 unfold PD.dl at X;have I:∀f,(f≠P.D.AS->P.D.As f)->(P'.F f).1.length<=m:=λf I=>by
  by_cases e:f=P.D.AS
  ·rw[e];exact Y
  ·rw[z.Ep f e];exact h.Bi f (I e)
 refine z.dm.wd h ?_ (z.dm.As (λf W=>I f λ_=>W) λe H=>I _ λO=>?_)
 ·rcases z.Hl with⟨d1,_⟩|⟨_,d1,_⟩
  ·rw[d1];omega
  ·rw[d1];simp;omega
 ·rcases z.Er e H with H|H
  ·exact .inl ⟨e,H,rfl⟩
  ·exact absurd H O
def Vo(P:PD)(nm:Bs)(s:Nat)(l:Bs):((P.aH nm s l).2.F P.D.AS).1.length<=l.length+4:=by
 have⟨e1,e2⟩:=KT P nm;have z:(P.af (A9 nm)).2.F P.D.AS=([],0):=by unfold PD.af;simp[upd]
 unfold PD.aH;split
 ·rw[z];simp
 ·rename_i I;have H:=e2 (Ey I);have⟨a1,a2,a3,a4⟩:=Iq (AT s l) H;have h:(((P.af (A9 nm)).2.I (A9 nm) s l).2.2.F P.D.AS).1.length<=l.length+4:=by
   show (((P.af (A9 nm)).2.al (A9 nm) (AT s l)).2.F P.D.AS).1.length<=l.length+4;rcases a4 with e|⟨j,e⟩
   ·rw[e,z];simp
   ·rw[e];simp only[upd,Cn,z,F7,BU,EN];omega
  split
  ·exact h
  ·unfold PD.aq Cx;split
   ·exact h
   ·dsimp only
    split
    ·unfold upd;split
     ·rename_i e;rw[<-e];exact h
     ·exact h
    ·exact h
def Wd.aH(h:Wd P a m)(nm:Bs)(s:Nat)(l:Bs)(z:P.dl+1<=a)(H:l.length+4<=m):Wd (P.aH nm s l).2 a m:=h.bJ (JP P nm s l).1 z (AH (Vo P nm s l) H)
def BG.aH(h:BG P k)(nm:Bs)(s:Nat)(l:Bs):BG (P.aH nm s l).2 (k+1):=h.bJ (JP P nm s l).1
def LB(P:PD)(x:ByteArray):(P.aq x).2.D.A6=P.D.A6/\(P.aq x).2.D.AK=P.D.AK/\(P.aq x).2.D.Ap=P.D.Ap/\∀f,((P.aq x).2.F f).1=(P.F f).1:=by
 cases hx:lookup P.D.A6 x with
 | none=>
  have e:(P.aq x).2=P:=by unfold PD.aq Cx;rw[hx]
  rw[e];exact⟨rfl,rfl,rfl,λ_=>rfl⟩
 | some g=>
  have⟨a1,a2,a3,a4⟩:=ID hx;refine⟨a1,a2,a3,λf=>?_⟩;rcases a4 with e|e
  ·rw[e]
  ·rw[e];unfold upd;split
   ·rename_i h;rw[h]
   ·rfl
def Ot(H:P'.D.A6=P.D.A6)(z:P'.D.AK=P.D.AK)(I:P'.D.Ap=P.D.Ap)(f:Nat)(h:P'.D.As f):P.D.As f:=by
 unfold DS.As at h ⊢;rwa [H,z,I]at h
def Wd.az(h:Wd P a m)(H:P'.D.A6=P.D.A6)(z:P'.D.AK=P.D.AK)(I:P'.D.Ap=P.D.Ap)(W:∀f,(P'.F f).1=(P.F f).1):Wd P' a m:=
 ⟨by rw[H];exact h.A6,by rw[z];exact h.AK,by rw[I];exact h.Fu,λf O=>by rw[W];exact h.Bi f (Ot H z I f O)⟩
def Wd.aq(h:Wd P a m)(x:ByteArray):Wd (P.aq x).2 a m:=by
 have⟨h1,h2,h3,h4⟩:=LB P x;exact h.az h1 h2 h3 h4
def BG.aq(h:BG P k)(x:ByteArray):BG (P.aq x).2 k:=by
 have⟨h1,h2,h3,_⟩:=LB P x;exact λf z=>h f (Ot h1 h2 h3 f z)
def Wd.av:∀(l:List Bs) {P:PD},Wd P a m->Wd (PD.av l P).2 a m
 | [],_,h=>h
 | nm::r,P,h=>by
  unfold PD.av;split
  ·exact h.aq _
  ·exact Wd.av r (h.aq _)
def BG.av:∀(l:List Bs) {P:PD},BG P k->BG (PD.av l P).2 k
 | [],_,h=>h
 | nm::r,P,h=>by
  unfold PD.av;split
  ·exact h.aq _
  ·exact BG.av r (h.aq _)
def Wd.aa(h:Wd P a m):Wd (A.aa P).2.2 a m:=by unfold Ar.aa;split<;>exact Wd.av _ h
def BG.aa(h:BG P k):BG (A.aa P).2.2 k:=by unfold Ar.aa;split<;>exact BG.av _ h
def Wd.aN(h:Wd P a m):Wd P.aN.2 a m:=by
 unfold PD.aN E4;dsimp only
 split
 ·refine⟨h.A6,h.A6,λl z=>(by cases z),?_⟩;rintro f (hf|hf|⟨l,z,_⟩)
  ·exact h.Bi f (.inl hf)
  ·exact h.Bi f (.inl hf)
  ·cases z
 ·exact⟨h.A6,h.AK,h.Fu,h.Bi⟩
def BG.aN(h:BG P k):BG P.aN.2 k:=by
 unfold PD.aN E4;dsimp only
 split
 ·rintro f (hf|hf|⟨l,hl,_⟩)
  ·exact h f (.inl hf)
  ·exact h f (.inl hf)
  ·cases hl
 ·exact h
def Ny(P:PD)(x:ByteArray):HK P (P.aG x).2/\(P.aG x).2.F=P.F/\(∀e∈(P.aG x).2.D.A6,e∈P.D.A6)/\((P.aG x).1=0->(P.aG x).2.dl+1=P.dl):=by
 unfold PD.aG Dx;by_cases I:B4 P.D.A6 x<0
 ·rw[Ah I];exact⟨⟨rfl,.inl ⟨rfl,rfl⟩⟩,rfl,λ_ h=>h,λh=>(by cases h)⟩
 ·rw[Ae I];have hl:=TJ P.D.A6 x;dsimp only
  by_cases H:(bg P.D.n).1=true
  ·rw[Ah H];refine⟨⟨rfl,.inr rfl⟩,rfl,λe z=>?_,λ_=>?_⟩
   ·rcases AU.1 z with z|z
    ·exact Iv z
    ·exact Lh z
   ·unfold PD.dl;simp;omega
  ·rw[Ae H];exact⟨⟨rfl,.inl ⟨rfl,rfl⟩⟩,rfl,λ_ h=>h,λh=>absurd (GS h) H⟩
def Wd.aG(h:Wd P a m)(x:ByteArray):Wd (P.aG x).2 a m:=by
 have⟨h1,h2,h3,_⟩:=Ny P x;have:=TP P x;refine h1.wd h ?_ ?_
 ·have:=h.A6;unfold PD.dl at *;omega
 ·rw[h2];exact h1.As (λf z=>h.Bi f z) λe H=>h.Bi _ (.inl ⟨e,h3 e H,rfl⟩)
def BG.aG(h:BG P k)(x:ByteArray):BG (P.aG x).2 k:=by
 have⟨h1,_,h3,_⟩:=Ny P x;exact h1.As (λf z=>h f z) λe H=>h.A6 e (h3 e H)
def Wd.aL:∀(l:List Bs) {P:PD},Wd P a m->Wd (PD.aL l P).2 a m
 | [],_,h=>h
 | nm::r,P,h=>by
  unfold PD.aL;split
  ·exact h.aG _
  ·exact Wd.aL r (h.aG _)
def BG.aL:∀(l:List Bs) {P:PD},BG P k->BG (PD.aL l P).2 k
 | [],_,h=>h
 | nm::r,P,h=>by
  unfold PD.aL;split
  ·exact h.aG _
  ·exact BG.aL r (h.aG _)
def Rf:∀(l:List Bs) (P:PD),(PD.aL l P).1=0->(PD.aL l P).2.dl+l.length=P.dl
 | [],_,_=>rfl
 | nm::r,P,h=>by
  unfold PD.aL at h ⊢;split at h
  ·rename_i z;exact absurd h z
  ·rename_i z;rw[Ae z];have:=Rf r _ h;have:=(Ny P (A9 nm)).2.2.2 (Ey z);simp only[BM];omega
def TI{α:Type}(p:α->Bool):∀l:List α,(l.filter p).length+(l.filter λx=>!p x).length=l.length
 | []=>rfl
 | x::r=>by
  have:=TI p r;cases hx:p x with
  | true=>simp[hx];omega
  | false=>simp[hx];omega
def W9(O:GV P)(h:(A.aw P).1=0):(A.aw P).2.dl<=A.Av.length:=by
 have h1:=Rf (A.aV P) P h;have z:=O.aS.cb;have h2:(A.a1 P).length<=A.Av.length:=I9 (z.filter _) λx I=>by
  have:=(GF.1 I).2;simpa using this
 have H:(A.a1 P).length+(A.aV P).length=P.Av.length:=by
  unfold Ar.a1 Ar.aV;exact TI _ _
 rw[IZ]at H;have h4:(PD.aL (A.aV P) P).2.dl=(A.aw P).2.dl:=rfl;omega
def Sr:∀(fresh:List (List Pu)) (last:Int) (kept:List Int) {P:PD} {k:Nat},Wd P a m->BG P k->P.dl+fresh.length<=a->(∀l∈fresh,17*l.length+4<=m)->
 Wd (PD.ah fresh last kept P).2.2.2 a m/\BG (PD.ah fresh last kept P).2.2.2 (k+fresh.length)
 | [],_,_,_,_,h,hi,_,_=>⟨h,hi⟩
 | l::r,last,kept,P,k,h,hi,hd,hl=>by
  simp only[BM]at hd;have I:Wd (P.aI (last+1) l).2 a m:=h.aH _ _ _ (by omega) (by rw[HC];exact hl l (Bp ..));have H:BG (P.aI (last+1) l).2 (k+1):=hi.aH _ _ _;have hdl:(P.aI (last+1) l).2.dl<=P.dl+1:=Mm P _ _ _;have z:PD.ah (l::r) last kept P=if (P.aI (last+1) l).1≠0 then ((P.aI (last+1) l).1,last+1,kept,(P.aI (last+1) l).2) else PD.ah r (last+1) (kept++[last+1]) (P.aI (last+1) l).2:=rfl
  rw[z];split
  ·exact⟨I,H.ae (by simp)⟩
  ·have⟨i1,i2⟩:=Sr r (last+1) (kept++[last+1]) I H (by omega) λx O=>hl x (Bn _ O);exact⟨i1,i2.ae (by simp;omega)⟩
def R5(P:PD)(old nm:ByteArray):HK P (P.aO old nm).2/\(P.aO old nm).2.F=P.F/\∀e∈(P.aO old nm).2.D.A6,∃d∈P.D.A6,d.2=e.2:=by
 unfold PD.aO CZ;cases hx:lookup P.D.A6 old with
 | none=>exact⟨⟨rfl,.inl ⟨rfl,rfl⟩⟩,rfl,λe h=>⟨e,h,rfl⟩⟩
 | some f=>
  dsimp only
  split
  ·exact⟨⟨rfl,.inl ⟨rfl,rfl⟩⟩,rfl,λe h=>⟨e,h,rfl⟩⟩
  ·dsimp only
   split
   ·refine⟨⟨rfl,.inr rfl⟩,rfl,λe h=>?_⟩;rcases AU.1 h with h|h
    ·exact⟨e,LK _ _ _ _ e h,rfl⟩
    ·simp at h;subst h;exact⟨_,Ea hx,rfl⟩
   ·exact⟨⟨rfl,.inl ⟨rfl,rfl⟩⟩,rfl,λe h=>⟨e,h,rfl⟩⟩
def Wd.aO(h:Wd P a m)(old nm:ByteArray)(z:P.dl+1<=a):Wd (P.aO old nm).2 a m:=by
 have⟨h1,h2,h3⟩:=R5 P old nm;have:=TO P old nm;refine h1.wd h (by unfold PD.dl at *;omega) ?_;rw[h2];exact h1.As (λf H=>h.Bi f H) λe I=>by have⟨d,z,e2⟩:=h3 e I;rw[<-e2];exact h.Bi _ (.inl ⟨d,z,rfl⟩)
def BG.aO(h:BG P k)(old nm:ByteArray):BG (P.aO old nm).2 k:=by
 have⟨h1,_,h3⟩:=R5 P old nm;exact h1.As (λf z=>h f z) λe H=>by have⟨d,hd,e2⟩:=h3 e H;rw[<-e2];exact h.A6 d hd
def Yf(h:Wd P a m)(I:BG P k)(first:Int)(segs:List Int)(hd:P.dl+2<=a)(hl:12+8*segs.length<=m):Wd (P.ai first segs).2 a m/\BG (P.ai first segs).2 (k+1):=by
 have hlen:(Co first segs).length=8+8*segs.length:=by unfold Co;rw[AX,CD,JO]
 have H:Wd (P.aH Bl (AB AF) (Co first segs)).2 a m:=h.aH _ _ _ (by omega) (by omega);have z:=I.aH Bl (AB AF) (Co first segs);have:=Mm P Bl (AB AF) (Co first segs);unfold PD.ai;split
 ·exact⟨H,z⟩
 ·exact⟨H.aO _ _ (by omega),z.aO _ _⟩
def A2f(h:Wd P a m)(z:BG P k)(segs:List Int)(H:P.dl+2<=a)(I:12+8*segs.length<=m):Wd (A.ai P segs).2.2 a m/\BG (A.ai P segs).2.2 (k+1):=by
 have:=Yf h z (A.j.A8+1) segs H I;unfold Ar.ai;split
 ·exact⟨h,z.ae (by omega)⟩
 ·split<;>exact this
def A1M(h:Wd P a m)(z:BG P k):Wd (A.a6 P).2.2 a m/\BG (A.a6 P).2.2 k:=by
 unfold Ar.a6;split
 ·exact⟨Wd.aL _ h,BG.aL _ z⟩
 ·exact⟨(Wd.aL _ h).aN,(BG.aL _ z).aN⟩
def YY(h:GV P)(z:P'.D.A6=P.D.A6):GV P':=⟨by rw[z];exact h.As,by rw[z];exact h.Cg⟩
def X5(A:Ar)(P:PD):(A.aa P).2.2.D.A6=P.D.A6:=by
 have key:∀(l:List Bs) (Q:PD),(PD.av l Q).2.D.A6=Q.D.A6:=by
  intro l
  induction l with
  | nil=>intro Q;rfl
  | cons nm r ih=>
   intro Q;unfold PD.av;split
   ·exact(LB Q _).1
   ·rw[ih,(LB Q _).1]
 unfold Ar.aa;split<;>exact key _ _
def Xy(h:Wd P a m)(hi:BG P k)(hn:GV P)(kept:List Int)(fresh:List (List Pu))(hd:A.Av.length+fresh.length+2<=a)(Y:∀l∈fresh,17*l.length+4<=m)(hk:12+8*(kept.length+fresh.length)<=m):
 Wd (A.ay P kept fresh).2.2 a m/\BG (A.ay P kept fresh).2.2 (k+fresh.length+1):=by
 have O:Wd (A.aa P).2.2 a m:=h.aa;have I:BG (A.aa P).2.2 k:=hi.aa;have n1:GV (A.aa P).2.2:=YY hn (X5 A P);have z:(A.aa P).2.1.Av=A.Av:=by unfold Ar.aa;split<;>rfl
 unfold Ar.ay;dsimp only
 split
 ·exact⟨O,I.ae (by omega)⟩
 ·have X:Wd ((A.aa P).2.1.aw (A.aa P).2.2).2 a m:=Wd.aL _ O;have W:BG ((A.aa P).2.1.aw (A.aa P).2.2).2 k:=BG.aL _ I;split
  ·exact⟨X,W.ae (by omega)⟩
  ·rename_i h2;have H:=W9 n1 (Ey h2);rw[z]at H;have⟨w3,i3⟩:=Sr fresh (A.aa P).2.1.A8 kept X W (by omega) Y;have⟨d3,d4⟩:=Mn fresh (A.aa P).2.1.A8 kept ((A.aa P).2.1.aw (A.aa P).2.2).2;split
   ·exact⟨w3,i3.ae (by omega)⟩
   ·have⟨w4,i4⟩:=A2f (A:={ (A.aa P).2.1 with A8:=(PD.ah fresh (A.aa P).2.1.A8 kept ((A.aa P).2.1.aw (A.aa P).2.2).2).2.1}) w3 i3 (PD.ah fresh (A.aa P).2.1.A8 kept ((A.aa P).2.1.aw (A.aa P).2.2).2).2.2.1 (by omega) (by omega);split
    ·exact⟨w4,i4⟩
    ·exact A1M w4 i4
def Un(h:BG P k)(J:Jn):BG (J.au P).2.2 (k+1):=h.bJ (My P J).1
def A2k(h:BG P k)(x:ByteArray)(l:Bs):BG (P.al x l).2 k:=by
 cases hx:lookup P.D.A6 x with
 | none=>
  have e:(P.al x l).2=P:=by unfold PD.al Bj;rw[hx]
  rw[e];exact h
 | some g=>
  have⟨a1,a2,a3,_⟩:=Iq l hx;exact λf z=>h f (Ot a1 a2 a3 f z)
def A2h(h:BG P k)(p:Pu):BG (A.I P p).2.2.2 (k+1):=by
 have z:∀(J:Jn) {Q:PD} {k:Nat},BG Q k->BG (J.ax Q p).2.2.2 k:=λJ Q k H=>by
  unfold Jn.ax;split
  ·exact H
  ·exact A2k H _ _
 unfold Ar.I;split
 ·exact h.aa.ae (by omega)
 ·dsimp only
  unfold Jn.I;split
  ·split
   ·exact Un h.aa _
   ·exact z _ (Un h.aa _)
  ·exact(z _ h.aa).ae (by omega)
end
end
end Go.Proofs.YtodcnkbblippnabGreatDoor
