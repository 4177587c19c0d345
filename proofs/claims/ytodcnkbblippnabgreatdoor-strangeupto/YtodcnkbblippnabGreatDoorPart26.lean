/- Part 26 of a proof: walks of the program. -/
import Derived.Test.YtodcnkbblippnabGreatDoorPart25
namespace Go.Proofs.YtodcnkbblippnabGreatDoor
set_option maxRecDepth 100000
set_option maxHeartbeats 32000000
set_option linter.defProp false
open Go.Proofs.Tryz
section
open Go.RowKit
def HG(n:Int):Af n=108::(Lib.repeatL [48] (19-(Lib.itoa n).length)++Lib.itoa n):=by simp[Af,BJ,E0,CO]
def Hf(n:Int):Aw n=115::(Lib.repeatL [48] (19-(Lib.itoa n).length)++Lib.itoa n):=by simp[Aw,BJ,E0,CO]
def SP{lt:Bs}{a b:Int}(z:isNum a=true)(I:isNum b=true)(h:E0 lt a=E0 lt b):a=b:=by
 unfold isNum at z I;simp at z I;have H:=LV lt (n:=a) (by omega) (by omega);have O:=LV lt (n:=b) (by omega) (by omega);rw[h,O]at H;simpa using H.symm
def FJ{a b:Int}(z:isNum a=true)(H:isNum b=true)(h:Af a=Af b):a=b:=SP (lt:=CO 1) z H (by simpa[Af,BJ] using h)
def KF{a b:Int}(z:isNum a=true)(H:isNum b=true)(h:Aw a=Aw b):a=b:=SP (lt:=CO 2) z H (by simpa[Aw,BJ] using h)
def EY(a b:Int):Af a≠Aw b:=by rw[HG,Hf];simp
def H0(a:Int):Af a≠AF:=by rw[HG];simp[AF]
def IF(a:Int):Aw a≠AF:=by rw[Hf];simp[AF]
def IU(a:Int):Af a≠Bl:=by rw[HG];simp[Bl]
def IG(a:Int):Aw a≠Bl:=by rw[Hf];simp[Bl]
def Ih:AF≠Bl:=by simp[AF,Bl]
def JE{n:Int}(h:isNum n=true):Bc (Af n)=(1,n):=by
 have z:1<=n/\n<=4611686018427387904:=by unfold isNum at h;simpa using h
 unfold Bc;have e:Du [108] (Af n)=some n:=by
  have:=LV (CO 1) (n:=n) (by omega) z.2;simpa[Af,BJ,CO] using this
 rw[e]
def IN{c d:UInt8}{r:Bs}(h:c≠d):Du [c] (d::r)=none:=by
 cases hx:Du [c] (d::r) with
 | none=>rfl
 | some v=>have:=(KH hx).2;simp[E0]at this;exact absurd this.1 h
def LS{n:Int}(h:isNum n=true):Bc (Aw n)=(2,n):=by
 have z:1<=n/\n<=4611686018427387904:=by unfold isNum at h;simpa using h
 have e:Du [115] (Aw n)=some n:=by
  have:=LV (CO 2) (n:=n) (by omega) z.2;simpa[Aw,BJ,CO] using this
 have H:Du [108] (Aw n)=none:=by rw[Hf];exact IN (by decide)
 unfold Bc Gy;rw[H,e]
def SC:Bc AF=(3,0):=by
 have z:Du [108] AF=none:=IN (by decide);have h:Du [115] AF=none:=IN (by decide);unfold Bc Gy;rw[z,h];simp[Gx]
def T0(a:Int):Af a≠[]:=by rw[HG];simp
def QK(a:Int):Aw a≠[]:=by rw[Hf];simp
def ET(P:PD):Int->List (Int×List Pu)->Prop
 | _,[]=>True
 | a,x::r=>P.aY x.1 a=(x.2,0)/\ET P (a+x.2.length) r
def Az(l:List (Int×List Pu)):List Pu:=l.flatMap (·.2)
def UP(P:PD)(j:Jn)(cl:List (Int×List Pu)):Option (List Pu)->Prop
 | none=>j.AP=none/\j.Al=cl.map (·.1)
 | some l=>j.AP=some (j.A8,Eg (Af j.A8) j.puts l)/\j.Al=cl.map (·.1)++[j.A8]/\P.bs (Af j.A8)=some (DH (Af j.A8) j.puts l)/\(∀p∈l,B8 p)/\isNum j.A8=true
structure Lay (P:PD) (A:Ar) (sg cl:List (Int×List Pu)) (ol:Option (List Pu)):Prop where
 E2:MZ A.ix
 ix:(P.bs AF=none/\A.ix=⟨1,[]⟩)\/P.bs AF=some (AT (AB AF) (Co A.ix.AW A.ix.segs))
 segs:sg.map (·.1)=A.ix.segs
 BT:∀x∈sg,((∀p∈x.2,B8 p)/\Cs Cq x.2=true)/\P.bs (Aw x.1)=some (AT (AB (Aw x.1)) (Cb x.2))
 CQ:∀x∈cl,(isNum x.1=true/\x.1<=A.j.A8)/\∀p∈x.2,B8 p
 J3:∀x∈cl,ol≠none->x.1≠A.j.A8
 EI:(∀x∈cl,A.ix.AW<=x.1)/\(ol≠none->A.ix.AW<=A.j.A8)
 Al:ET P 0 cl
 GA:A.j.puts=((Az cl).length:Int)
 AP:UP P A.j cl ol
 Eh:0<=A.j.A8/\A.ix.AW<=A.j.A8+1/\∀n,isNum n=true->P.bs (Af n)≠none->n<=A.j.A8
 DY:0<=A.A8/\∀n,isNum n=true->P.bs (Aw n)≠none->n<=A.A8
 AM:∀nm∈A.AM,P.bs nm≠none
 H3:A.j.Al.Pairwise (· < ·)
 DZ:∀nm,P.bs nm≠none->(Bc nm).1≠0
 Hh:∀n,isNum n=true->A.ix.AW<=n->P.bs (Af n)≠none->n∈A.j.Al
def Cl(sg cl:List (Int×List Pu))(ol:Option (List Pu)):List Pu:=Az sg++(Az cl++ol.getD [])
section
variable{P P':PD}{A:Ar}{sg cl:List (Int×List Pu)}{ol:Option (List Pu)}{N R:Nat}
def ET.az(z:∀m,P'.bs m=P.bs m):∀ {a:Int} {l:List (Int×List Pu)},ET P a l->ET P' a l
 | _,[],_=>trivial
 | a,x::r,h=>by
  obtain⟨I,H⟩:=h;refine⟨?_,H.az z⟩;rw[<-I];unfold PD.aY Gs;have e:∀Q:PD,DV Q.D Q.F ⟨(Af x.1).toArray⟩=match Q.bs (Af x.1) with|some c=>(c,0)|none=>([],8):=λQ=>@GR Q (Af x.1)
  rw[e P',e P,z]
def Zi{n:Int}(h:P'.bs (Af n)=P.bs (Af n))(a:Int):P'.aY n a=P.aY n a:=by
 unfold PD.aY Gs;have e:∀Q:PD,DV Q.D Q.F ⟨(Af n).toArray⟩=match Q.bs (Af n) with|some c=>(c,0)|none=>([],8):=λQ=>@GR Q (Af n)
 rw[e P',e P,h]
def ET.bx:∀ {a:Int} {l:List (Int×List Pu)},ET P a l->(∀x∈l,P'.bs (Af x.1)=P.bs (Af x.1))->ET P' a l
 | _,[],_,_=>trivial
 | a,x::_,h,hb=>⟨(Zi (hb x (Bp ..)) a).trans h.1,h.2.bx λy z=>hb y (Bn _ z)⟩
def ET.bS:∀ {a:Int} {l:List (Int×List Pu)} {x:Int×List Pu},ET P a l->P.aY x.1 (a+(Az l).length)=(x.2,0)->ET P a (l++[x])
 | a,[],x,_,h=>⟨by simpa[Az] using h,trivial⟩
 | a,y::r,x,h,h2=>⟨h.1,h.2.bS (by
  rw[<-h2];congr 1
  simp only[Az,Kc,AX];omega)⟩
def NC:∀ {l:List (Int×List Pu)} {z:List Pu},ET P z.length l->P.aU (l.map (·.1)) z=(z++Az l,0)
 | [],z,_=>by simp[PD.aU,Az]
 | x::r,z,h=>by
  obtain⟨H,I⟩:=h;simp only[F8,PD.aU];rw[H];dsimp only
  rw[Ae (by simp),NC (by simpa using I)];simp[Az,List.append_assoc]
def Zl{n a:Int}{l:List Pu}(h:P.aY n a=(l,0)):P.bs (Af n)≠none:=by
 intro z;have e:DV P.D P.F ⟨(Af n).toArray⟩=([],8):=by have:=@GR P (Af n);unfold PD.CK at this;rw[z]at this;exact this
 unfold PD.aY Gs at h;rw[e]at h;simp at h
def ET.DP:∀ {a:Int} {l:List (Int×List Pu)} {x:Int×List Pu},ET P a l->x∈l->P.bs (Af x.1)≠none
 | a,y::r,x,h,z=>by
  rcases BF.1 z with rfl|z
  ·exact Zl h.1
  ·exact h.2.DP z
def Lay.cZ(h:Lay P A sg cl ol)(hl:(Az cl).length<=1099511627776):AY A.j.puts:=by rw[h.GA];constructor<;>omega
def Lay.puts(h:Lay P A sg cl ol)(H:(Az cl).length<=1099511627776):P.puts A.j.Al=(Az cl++ol.getD [],0):=by
 have z:=h.AP;unfold PD.puts;cases ol with
 | none=>
  rw[z.2,NC h.Al];simp
 | some l=>
  obtain⟨-,O,I,W,h4⟩:=z
  have X:ET P 0 (cl++[(A.j.A8,l)]):=h.Al.bS (by
   have:=h.GA;rw[N1,<-this]
   exact LY (t:=[]) (h.cZ H) W (by simp) (by simpa using I))
  have e:cl.map (·.1)++[A.j.A8]=(cl++[(A.j.A8,l)]).map (·.1):=by simp
  rw[O,e,NC X];simp[Az]
def Lay.dY(h:Lay P A sg cl ol):P.segs A.ix.segs=some sg:=by
 rw[<-h.segs];have z:∀l:List (Int×List Pu),(∀x∈l,x∈sg)->P.segs (l.map (·.1))=some l:=by
  intro l
  induction l with
  | nil=>intro _;rfl
  | cons x r ih=>
   intro H;have⟨⟨h1,h2⟩,h3⟩:=h.BT x (H x (Bp ..));simp only[F8,PD.segs];rw[Xb h1 h2 h3];dsimp only
   rw[ih λy I=>H y (Bn _ I)];rfl
 exact z sg λ_ h=>h
def Lay.az(h:Lay P A sg cl ol)(z:∀m,P'.bs m=P.bs m):Lay P' A sg cl ol:=by
 refine⟨h.E2,by rw[z];exact h.ix,h.segs,λx H=>by rw[z];exact h.BT x H,h.CQ,h.J3,h.EI,h.Al.az z,h.GA,?_,⟨h.Eh.1,h.Eh.2.1,λn O H=>h.Eh.2.2 n O (by rw[<-z];exact H)⟩,
  ⟨h.DY.1,λn O H=>h.DY.2 n O (by rw[<-z];exact H)⟩,λnm I=>by rw[z];exact h.AM nm I,h.H3,λnm I=>h.DZ nm (by rw[<-z];exact I),λn X W Y=>h.Hh n X W (by rw[<-z];exact Y)⟩
 have:=h.AP;cases ol with
 | none=>exact this
 | some l=>unfold UP at this ⊢;rw[z];exact this
def Lay.aa(h:Lay P A sg cl ol)(I:Cm P (N+A.AM.length) R):(A.aa P).1=0/\(A.aa P).2.1 = {A with AM:=[]}/\Cm (A.aa P).2.2 N R/\(∀m,(A.aa P).2.2.bs m=P.bs m)/\Lay (A.aa P).2.2 {A with AM:=[]} sg cl ol:=by
 have⟨h1,h2,h3⟩:=Cm.av A.AM I h.AM;have e:A.aa P=(0,{A with AM:=[]},(P.av A.AM).2):=by unfold Ar.aa;rw[Ae (by simp[h1])]
 have z:=h.az h3;rw[e];exact⟨rfl,rfl,h2,h3,⟨z.E2,z.ix,z.segs,z.BT,z.CQ,z.J3,z.EI,z.Al,z.GA,z.AP,z.Eh,z.DY,λnm H=>(by cases H),z.H3,z.DZ,z.Hh⟩⟩
def Lay.au(h:Lay P A sg cl none)(hc:Cm P (N+2) R)(hn:isNum (A.j.A8+1)=true)(hR:12<=R):
 (A.j.au P).1=0/\Cm (A.j.au P).2.2 N (R-12)/\Lay (A.j.au P).2.2 {A with j:=(A.j.au P).2.1} sg cl (some [])/\(A.j.au P).2.1.AP≠none:=by
 obtain⟨n,Y⟩:∃n,A.j.A8+1=n:=⟨_,rfl⟩;have h0:P.bs (Af n)=none:=by
  cases H:P.bs (Af n) with
  | none=>rfl
  | some c=>have:=h.Eh.2.2 n (Y ▸ hn) (by rw[H];simp);omega
 have⟨a1,a2,a3⟩:=Cm.cA (N:=N+1) hc h0 (T0 n);obtain⟨-,b1,b2,b3⟩:=Cm.I (N:=N) (nm:=Af n) (c:=[]) a2 (by rw[a3];simp) (AB (Af n)) (AR A.j.puts) (by rw[CD];omega);rw[CD]at b2;have W:=h.AP;have e:A.j.au P=(0,⟨A.j.Al++[n],n,A.j.puts,some (n,AV (AB (Af n)) (AR A.j.puts))⟩,((P.af (A9 (Af n))).2.I (A9 (Af n)) (AB (Af n)) (AR A.j.puts)).2.2):=by
  unfold Jn.au;rw[Y,Ae (by simp[a1])];dsimp only
  rw[Ae (by simp[b1])]
 rw[e];dsimp only
 have z:∀m,m≠Af n->((P.af (A9 (Af n))).2.I (A9 (Af n)) (AB (Af n)) (AR A.j.puts)).2.2.bs m=P.bs m:=λm X=>by rw[b3,Ae X,a3,Ae X]
 have I:=b3 (Af n);rw[Ah rfl,F7]at I;generalize ((P.af (A9 (Af n))).2.I (A9 (Af n)) (AB (Af n)) (AR A.j.puts)).2.2=P2 at z I b2;have O:=Y ▸ hn;have aA:∀x∈cl,x.1≠n:=λx H e=>by have:=(h.CQ x H).1.2;omega
 refine⟨rfl,b2,⟨h.E2,?_,h.segs,λx H=>?_,λx H=>?_,λx H _=>aA x H,⟨h.EI.1,λ_=>by have:=h.Eh.2.1;dsimp only;omega⟩,?_,h.GA,?_,?_,?_,λnm X=>?_,?_,λnm X=>?_,λk h1 h2 h3=>?_⟩,by simp⟩
 ·rw[z _ (H0 n).symm];exact h.ix
 ·rw[z _ (EY n x.1).symm];exact h.BT x H
 ·have⟨⟨c1,c2⟩,c3⟩:=h.CQ x H;exact⟨⟨c1,by dsimp only;omega⟩,c3⟩
 ·exact h.Al.bx λx H=>z _ λe=>aA x H (FJ (h.CQ x H).1.1 O e)
 ·refine⟨rfl,by dsimp only;rw[W.2],?_,by simp,O⟩;dsimp only
  rw[I];simp[DH,DQ]
 ·refine⟨by have:=h.Eh.1;dsimp only;omega,by have:=h.Eh.2.1;dsimp only;omega,λk hk H=>?_⟩;dsimp only
  by_cases e:Af k=Af n
  ·have:=FJ hk O e;omega
  ·rw[z _ e]at H;have:=h.Eh.2.2 k hk H;omega
 ·refine⟨h.DY.1,λk hk H=>h.DY.2 k hk ?_⟩
  rwa [z _ (EY n k).symm]at H
 ·by_cases e:nm=Af n
  ·subst e;rw[I];simp
  ·rw[z _ e];exact h.AM nm X
 ·dsimp only
  refine Eu.2 ⟨h.H3,by simp,λa ha b hb=>?_⟩;simp at hb;subst hb;rw[W.2]at ha;obtain⟨x,H,rfl⟩:=C9.1 ha;have:=(h.CQ x H).1.2;omega
 ·by_cases e:nm=Af n
  ·subst e;rw[JE O];simp
  ·rw[z _ e]at X;exact h.DZ nm X
 ·dsimp only
  by_cases e:Af k=Af n
  ·have:=FJ h1 O e;subst this;simp
  ·rw[z _ e]at h3;exact Fx _ (h.Hh k h1 h2 h3)
def Lay.ax{l:List Pu}(h:Lay P A sg cl (some l))(hc:Cm P (N+1) R)(p:Pu)(hp:B8 p)(hR:21<=R):
 (A.j.ax P p).1=true/\(A.j.ax P p).2.1=0/\Cm (A.j.ax P p).2.2.2 N (R-21)/\Lay (A.j.ax P p).2.2.2 {A with j:=(A.j.ax P p).2.2.1} sg cl (some (l++[p])):=by
 have⟨Y,h2,h3,h4,h5⟩:=h.AP;obtain⟨n,hnn⟩:∃n,A.j.A8=n:=⟨_,rfl⟩;have⟨b0,b1,b2,b3⟩:=Cm.I (N:=N) hc h3 (Eg (Af A.j.A8) A.j.puts l) (B9 p.1 p.2.1 p.2.2) (by rw[EE];omega);rw[EE]at b2;have⟨q1,q2⟩:=O7 (Af A.j.A8) A.j.puts l p;unfold Jn.ax;rw[Y];dsimp only
 refine⟨b0,b1,b2,?_⟩;have z:∀m,m≠Af A.j.A8->(P.I (A9 (Af A.j.A8)) (Eg (Af A.j.A8) A.j.puts l) (B9 p.1 p.2.1 p.2.2)).2.2.bs m=P.bs m:=λm O=>by rw[b3,Ae O]
 have I:=b3 (Af A.j.A8);rw[Ah rfl]at I;generalize (P.I (A9 (Af A.j.A8)) (Eg (Af A.j.A8) A.j.puts l) (B9 p.1 p.2.1 p.2.2)).2.2=P2 at z I b2;refine⟨h.E2,?_,h.segs,λx H=>?_,h.CQ,λx H _=>h.J3 x H (by simp),⟨h.EI.1,λ_=>h.EI.2 (by simp)⟩,?_,h.GA,⟨?_,h2,?_,?_,h5⟩,⟨h.Eh.1,h.Eh.2.1,λk X H=>?_⟩,⟨h.DY.1,λk X H=>?_⟩,λnm O=>?_,h.H3,λnm O=>?_,λk Y aA W=>?_⟩
 ·rw[z _ (H0 _).symm];exact h.ix
 ·rw[z _ (EY _ x.1).symm];exact h.BT x H
 ·exact h.Al.bx λx H=>z _ λe=>h.J3 x H (by simp) (FJ (h.CQ x H).1.1 h5 e)
 ·dsimp only;rw[q2]
 ·dsimp only;rw[I,q1]
 ·intro x H;rcases AU.1 H with H|H
  ·exact h4 x H
  ·simp at H;subst H;exact hp
 ·by_cases e:Af k=Af A.j.A8
  ·have:=FJ X h5 e;show k<=A.j.A8;omega
  ·rw[z _ e]at H;exact h.Eh.2.2 k X H
 ·rw[z _ (EY _ k).symm]at H;exact h.DY.2 k X H
 ·by_cases e:nm=Af A.j.A8
  ·subst e;rw[I];simp
  ·rw[z _ e];exact h.AM nm O
 ·by_cases e:nm=Af A.j.A8
  ·subst e;rw[JE h5];simp
  ·rw[z _ e]at O;exact h.DZ nm O
 ·by_cases e:Af k=Af A.j.A8
  ·have:=FJ Y h5 e;subst this;show A.j.A8∈A.j.Al;rw[h2];simp
  ·rw[z _ e]at W;exact h.Hh k Y aA W
def Lay.I(h:Lay P A sg cl ol)(H:Cm P (N+A.AM.length+3) R)(I:ol=none->isNum (A.j.A8+1)=true)(p:Pu)(z:B8 p)(hR:33<=R):
 (A.I P p).1=true/\(A.I P p).2.1=0/\Cm (A.I P p).2.2.2 N (R-33)/\Lay (A.I P p).2.2.2 (A.I P p).2.2.1 sg cl (some (ol.getD []++[p]))/\(A.I P p).2.2.1.AM=[]:=by
 have⟨s1,s2,s3,s4,s5⟩:=h.aa (N:=N+3) (H.ae (by omega) (Aq _));unfold Ar.I;rw[Ae (by simp[s1])];dsimp only
 rw[s2];dsimp only
 generalize (A.aa P).2.2=P1 at s3 s4 s5;cases ol with
 | none=>
  have⟨b1,b2,b3,b4⟩:=Lay.au (N:=N+1) s5 s3 (I rfl) (by omega);dsimp only at b1 b2 b3 b4;have⟨p1,p2,p3,p4⟩:=b3.ax (N:=N) b2 p z (by omega);dsimp only at p1 p2 p3 p4;have e:A.j.I P1 p=(A.j.au P1).2.1.ax (A.j.au P1).2.2 p:=by
   unfold Jn.I;rw[Ah h.AP.1,Ae (by simp[b1])]
  rw[e];exact⟨p1,p2,p3.ae (Aq _) (by omega),p4,rfl⟩
 | some l=>
  have⟨p1,p2,p3,p4⟩:=s5.ax (N:=N) (s3.ae (by omega) (Aq _)) p z (by omega);dsimp only at p1 p2 p3 p4;have e:A.j.I P1 p=A.j.ax P1 p:=by
   unfold Jn.I;rw[Ae (by rw[h.AP.1];simp)]
  rw[e];exact⟨p1,p2,p3.ae (Aq _) (by omega),p4,rfl⟩
end
def OS{x y:Int}:Ch x y<0↔x<y:=by
 unfold Ch;by_cases h:x<y
 ·simp[h]
 ·rw[Ae h];split<;>simp<;>omega
def IH:∀ {l:List Int},Cs Ch l=true↔l.Pairwise (· < ·)
 | []=>by simp[Cs]
 | [x]=>by simp[Cs]
 | x::y::r=>by
  have X:=@IH (y::r);simp only[Cs,Gp,DT,OS,X];constructor
  ·rintro⟨W,O⟩;refine Di.2 ⟨λz H=>?_,O⟩;rcases BF.1 H with rfl|H
   ·exact W
   ·exact Int.lt_trans W ((Di.1 O).1 z H)
  ·intro h;have I:=Di.1 h;exact⟨I.1 y (Bp ..),I.2⟩
def I9{α:Type}[DecidableEq α]:∀ {l l':List α},l.Nodup->(∀x∈l,x∈l')->l.length<=l'.length
 | [],l',_,_=>by simp
 | x::r,l',h,hs=>by
  have z:=J8.1 h;have I:=hs x (Bp ..);have ih:=I9 (l':=l'.erase x) z.2 λy H=>(V5 (λe=>z.1 (by subst e;exact H))).2 (hs y (Bn _ H))
  have hl:=A2X I;have:0<l'.length:=A2W I;simp only[BM];omega
def Cf:Int->List (List Pu)->List (Int×List Pu)
 | _,[]=>[]
 | last,l::r=>(last+1,l):: Cf (last+1) r
def Gw:∀ {l:List (List Pu)} {last:Int} {x:Int×List Pu},x∈Cf last l->last<x.1/\x.1<=last+l.length/\x.2∈l
 | [],_,_,h=>by cases h
 | a::r,last,x,h=>by
  rcases BF.1 h with rfl|h
  ·simp;omega
  ·have⟨h1,h2,h3⟩:=Gw h;simp only[BM];exact⟨by omega,by omega,Bn _ h3⟩
def NX:∀ {l:List (List Pu)} {last:Int},((Cf last l).map (·.1)).Pairwise (· < ·)
 | [],_=>by simp[Cf]
 | a::r,last=>by
  simp only[Cf,F8];refine Di.2 ⟨λz H=>?_,NX⟩;obtain⟨x,h,rfl⟩:=C9.1 H;exact(Gw h).1
def LQ:∀ {l:List (List Pu)} {last:Int},(Cf last l).length=l.length
 | [],_=>rfl
 | a::r,last=>by simp[Cf,LQ]
def LP:∀ {l:List (List Pu)} {last:Int},Az (Cf last l)=l.flatten
 | [],_=>rfl
 | a::r,last=>by
  have:=@LP r (last+1);unfold Az at this ⊢;simp[Cf,this]
def CC(l:List (List Pu)):Nat:=(l.map λx=>17*x.length+4).sum
section
variable{P P':PD}{A:Ar}{sg cl:List (Int×List Pu)}{ol:Option (List Pu)}{N R:Nat}
def Cm.ah:∀(fresh:List (List Pu)) (last:Int) (kept:List Int) {P:PD},Cm P (N+3*fresh.length) (R+CC fresh)->0<=last->last+fresh.length<=4611686018427387904->
 (∀n,isNum n=true->last<n->P.bs (Aw n)=none)->
 (PD.ah fresh last kept P).1=0/\(PD.ah fresh last kept P).2.1=last+fresh.length/\(PD.ah fresh last kept P).2.2.1=kept++(Cf last fresh).map (·.1)/\Cm (PD.ah fresh last kept P).2.2.2 N R/\
  (∀x∈Cf last fresh,(PD.ah fresh last kept P).2.2.2.bs (Aw x.1)=some (AT (AB (Aw x.1)) (Cb x.2)))/\
  ∀m,(∀x∈Cf last fresh,m≠Aw x.1)->(PD.ah fresh last kept P).2.2.2.bs m=P.bs m
 | [],last,kept,P,hc,h0,h1,hn=>⟨rfl,by simp[PD.ah],by simp[PD.ah,Cf],by simpa[PD.ah,CC] using hc,⟨λx H=>by simp[Cf]at H,λm _=>rfl⟩⟩
 | l::r,last,kept,P,hc,h0,h1,hn=>by
  simp only[BM]at h1;have z:isNum (last+1)=true:=by unfold isNum;simp;omega
  have h:CC (l::r)=(17*l.length+4)+CC r:=by simp[CC]
  have⟨a1,a2,a3⟩:=Cm.aH (N:=N+3*r.length) (R:=R+CC (l::r)) (nm:=Aw (last+1)) (hc.ae (by simp;omega) (Aq _)) (hn _ z (by omega)) (QK _) (AB (Aw (last+1))) (Cb l) (by rw[HC,h];omega);rw[HC]at a2;have W:=a2.ae (N':=N+3*r.length) (R':=R+CC r) (Aq _) (by rw[h];omega);have⟨b1,b2,b3,b4,b5,b6⟩:=Cm.ah r (last+1) (kept++[last+1]) W (by omega) (by omega) λn X hlt=>by
   (have I:Aw n≠Aw (last+1):=λe=>by have:=KF X z e;omega);rw[a3,Ae I];exact hn n X (by omega)
  have e:PD.ah (l::r) last kept P=PD.ah r (last+1) (kept++[last+1]) (P.aI (last+1) l).2:=by
   conv=>lhs;unfold PD.ah
   rw[Ae (by unfold PD.aI;simp[a1])]
  have e2:(P.aI (last+1) l).2=(P.aH (Aw (last+1)) (AB (Aw (last+1))) (Cb l)).2:=rfl;rw[e,e2];refine⟨b1,by rw[b2];simp only[BM];omega,by rw[b3];simp[Cf],b4,λx H=>?_,λm hm=>?_⟩
  ·rcases BF.1 H with rfl|H
   ·dsimp only
    rw[b6 _ λy Y e=>?_,a3,Ah rfl];have Y:=Gw Y;(have O:isNum y.1=true:=by unfold isNum;simp;omega);have:=KF z O e;omega
   ·exact b5 x H
  ·rw[b6 m λx H=>hm x (Bn _ H),a3,Ae (hm _ (Bp ..))]
def HD{nm:Bs}:nm∈A.aV P↔P.bs nm≠none/\nm∉A.Av:=by
 unfold Ar.aV;rw[GF,EF];simp
def Cm.aw(I:Cm P N R){K M:Nat}(hK:(A.aV P).length<=K)(hN:N=M+K):(A.aw P).1=0/\Cm (A.aw P).2 M R/\∀m,(A.aw P).2.bs m=if m∈A.Av then P.bs m else none:=by
 have⟨h1,h2,h3⟩:=Cm.aL (N:=M) (A.aV P) (I.ae (by omega) (Aq _)) (MY GG I.cb) λm z=>(HD.1 z).1
 refine⟨h1,h2,λm=>?_⟩;show (PD.aL (A.aV P) P).2.bs m=_;rw[h3];by_cases z:m∈A.Av
 ·rw[Ae (λh=>(HD.1 h).2 z),Ah z]
 ·rw[Ae z];by_cases H:P.bs m=none
  ·rw[H];simp
  ·rw[Ah (HD.2 ⟨H,z⟩)]
def Cm.ai(hc:Cm P (N+4) R)(first:Int)(segs:List Int)(H:P.bs Bl=none)(hR:12+8*segs.length<=R):
 (P.ai first segs).1=0/\Cm (P.ai first segs).2 N (R-(12+8*segs.length))/\∀m,(P.ai first segs).2.bs m=if m=AF then some (AT (AB AF) (Co first segs)) else P.bs m:=by
 have W:(Co first segs).length=8+8*segs.length:=by unfold Co;rw[AX,CD,JO]
 obtain⟨X,Y,I⟩:=Cm.aH (N:=N+1) hc H (by simp[Bl]) (AB AF) (Co first segs) (by omega);obtain⟨O,b2,b3⟩:=Cm.ft (N:=N) (nm:=AF) Y (by rw[I,Ah rfl]) (by simp[AF]) Ih.symm;unfold PD.ai;rw[Ae (by simp[X])];refine⟨O,by have:=b2;rw[W]at this;exact this.ae (Aq _) (by omega),λm=>?_⟩;rw[b3];by_cases h:m=AF
 ·simp[h]
 ·rw[Ae h,Ae h];by_cases z:m=Bl
  ·rw[Ah z,z,H]
  ·rw[Ae z,I,Ae z]
def Lay.fI(h:Lay P A sg cl ol){x:Int×List Pu}(z:x∈sg):P.bs (Aw x.1)≠none:=by rw[(h.BT x z).2];simp
def Lay.cL(h:Lay P A sg cl ol){x:Int×List Pu}(z:x∈sg):isNum x.1=true:=h.E2.segs _ (by rw[<-h.segs];exact DD z)
def Lay.cP(h:Lay P A sg cl ol){x:Int×List Pu}(z:x∈sg):x.1<=A.A8:=h.DY.2 _ (h.cL z) (h.fI z)
def Lay.ay(h:Lay P A sg cl ol){K:Nat}(Y:List (Int×List Pu))(fresh:List (List Pu))(hc:Cm P (N+A.AM.length+K+3*fresh.length+8+A.j.Al.length+sg.length+fresh.length) (R+CC fresh+12+8*(Y.length+fresh.length)))(hK:P.Av.length<=K)(aA:∀x∈Y,x∈sg)(aO:(Y.map (·.1)).Pairwise (· < ·))(hf:∀l∈fresh,(∀p∈l,B8 p)/\Cs Cq l=true)(hn:isNum (A.j.A8+1)=true)(a1:A.A8+fresh.length<=4611686018427387904):
 (A.ay P (Y.map (·.1)) fresh).1=0/\(A.ay P (Y.map (·.1)) fresh).2.1=⟨⟨A.j.A8+1,(Y++Cf A.A8 fresh).map (·.1)⟩,⟨[],A.j.A8,0,none⟩,A.A8+fresh.length,[]⟩/\Cm (A.ay P (Y.map (·.1)) fresh).2.2 N R/\
  Lay (A.ay P (Y.map (·.1)) fresh).2.2 (A.ay P (Y.map (·.1)) fresh).2.1 (Y++Cf A.A8 fresh) [] none/\
  (∀m,(A.ay P (Y.map (·.1)) fresh).2.2.bs m≠none->m∈AF::(Y++Cf A.A8 fresh).map λx=>Aw x.1):=by
 have⟨s1,s2,s3,s4,s5⟩:=h.aa (N:=N+K+3*fresh.length+8+A.j.Al.length+sg.length+fresh.length) (R:=R+CC fresh+12+8*(Y.length+fresh.length)) (hc.ae (by omega) (Aq _));have aM:(({A with AM:=[]}:Ar).aV (A.aa P).2.2).length<=K:=by
  refine AH ?_ hK;refine I9 (MY GG s3.cb) λm W=>?_;rw[EF,<-s4];exact(HD.1 W).1
 have⟨w1,w2,w3⟩:=Cm.aw (A:={A with AM:=[]}) s3 (K:=K) (M:=N+3*fresh.length+8+A.j.Al.length+sg.length+fresh.length) aM (by omega);have O:∀m,m∈({A with AM:=[]}:Ar).Av↔m=AF\/(∃n∈A.j.Al,m=Af n)\/∃x∈sg,m=Aw x.1:=λm=>by
  unfold Ar.Av;dsimp only
  rw[<-h.segs];simp[eq_comm]
 have aK:∀n,isNum n=true->A.A8<n->(({A with AM:=[]}:Ar).aw (A.aa P).2.2).2.bs (Aw n)=none:=λn hk hlt=>by
  rw[w3];split
  ·rw[s4];cases z:P.bs (Aw n) with
   | none=>rfl
   | some c=>have:=h.DY.2 n hk (by rw[z];simp);omega
  ·rfl
 have⟨g1,g2,g3,g4,g5,g6⟩:=Cm.ah (N:=N+8+A.j.Al.length+sg.length+fresh.length) (R:=R+12+8*(Y.length+fresh.length)) fresh A.A8 (Y.map (·.1)) (w2.ae (by omega) (by omega)) h.DY.1 a1 aK;generalize a3:(({A with AM:=[]}:Ar).aw (A.aa P).2.2).2=P1 at w3 aK g1 g2 g3 g4 g5 g6;generalize a4:(PD.ah fresh A.A8 (Y.map (·.1)) P1).2.2.2=P2 at g4 g5 g6;obtain⟨ns,aD⟩:∃ns,Y++Cf A.A8 fresh=ns:=⟨_,rfl⟩;have aJ:ns.map (·.1)=Y.map (·.1)++(Cf A.A8 fresh).map (·.1):=by rw[<-aD,Ed]
 have aW:ns.length=Y.length+fresh.length:=by rw[<-aD,AX,LQ]
 have aP:P2.bs Bl=none:=by
  rw[g6 _ λx _=>(IG x.1).symm,w3,Ae];rw[O];rintro (e|⟨n,_,e⟩|⟨x,_,e⟩)
  ·exact Ih e.symm
  ·exact IU n e.symm
  ·exact IG x.1 e.symm
 have aB:∀x∈ns,isNum x.1=true:=λx z=>by
  rw[<-aD]at z;rcases AU.1 z with z|z
  ·exact h.cL (aA x z)
  ·have:=Gw z;have:=h.DY.1;unfold isNum;simp;omega
 have aY:∀x∈ns,x.1<=A.A8+fresh.length:=λx z=>by
  rw[<-aD]at z;rcases AU.1 z with z|z
  ·have:=h.cP (aA x z);omega
  ·have:=Gw z;omega
 have aH:(ns.map (·.1)).Pairwise (· < ·):=by
  rw[aJ];refine Eu.2 ⟨aO,NX,λa ha b hb=>?_⟩;obtain⟨x,z,rfl⟩:=C9.1 ha;obtain⟨y,hy,rfl⟩:=C9.1 hb;have h1:=h.cP (aA x z);have h2:=Gw hy;omega
 have aF:∀x∈ns,((∀p∈x.2,B8 p)/\Cs Cq x.2=true)/\P2.bs (Aw x.1)=some (AT (AB (Aw x.1)) (Cb x.2)):=λx z=>by
  rw[<-aD]at z;rcases AU.1 z with z|z
  ·have a0:=h.BT x (aA x z);refine⟨a0.1,?_⟩;rw[g6 _ λy hy e=>?_,w3,Ah ((O _).2 (.inr (.inr ⟨x,aA x z,rfl⟩))),s4,a0.2];have h2:=Gw hy;have h3:=h.DY.1;have:=KF (h.cL (aA x z)) (by unfold isNum;simp;omega) e;have h1:=h.cP (aA x z);omega
  ·exact⟨hf _ (Gw z).2.2,g5 x z⟩
 have aN:∃aE,(({A with AM:=[],A8:=A.A8+fresh.length}:Ar).ai P2 (ns.map (·.1)))=(0,⟨⟨A.j.A8+1,ns.map (·.1)⟩,⟨[],A.j.A8,0,none⟩,A.A8+fresh.length,[]⟩,aE)/\Cm aE (N+4+A.j.Al.length+sg.length+fresh.length) R/\((aE.bs AF=none/\A.j.A8=0/\ns=[])\/aE.bs AF=some (AT (AB AF) (Co (A.j.A8+1) (ns.map (·.1)))))/\∀m,m≠AF->aE.bs m=P2.bs m:=by
  unfold Ar.ai;dsimp only
  by_cases H:A.ix.AW=A.j.A8+1/\A.ix.segs=ns.map (·.1)
  ·rw[Ah H];have aR:cl=[]:=by
    cases aR:cl with
    | nil=>rfl
    | cons x r=>
     (have z:x∈cl:=by rw[aR];exact Bp ..);have h1:=h.EI.1 x z;have h2:=(h.CQ x z).1.2;have:=H.1;omega
   have a2:ol=none:=by
    cases ol with
    | none=>rfl
    | some l=>have:=h.EI.2 (by simp);have:=H.1;omega
   subst aR a2;have hj:A.j=⟨[],A.j.A8,0,none⟩:=by
    have h1:=h.AP;have h2:=h.GA;(have e:∀j:Jn,j.AP=none->j.Al=[]->j.puts=0->j=⟨[],j.A8,0,none⟩:=λj a b c=>by cases j;simp_all);exact e _ h1.1 (by simpa using h1.2) (by simpa[Az] using h2)
   have hi:A.ix=⟨A.j.A8+1,ns.map (·.1)⟩:=by
    have e:∀i:Ix,i=⟨i.AW,i.segs⟩:=λi=>rfl;rw[e A.ix,H.1,H.2]
   refine⟨P2,?_,g4.ae (by omega) (by omega),?_,λ_ _=>rfl⟩
   ·conv=>lhs;rw[hj,hi]
   ·rw[g6 _ λx _=>(IF x.1).symm,w3,Ah ((O _).2 (.inl rfl)),s4];rcases h.ix with⟨h1,h2⟩|h2
    ·rw[h2]at H;exact .inl ⟨h1,by have:=H.1;dsimp only at this;omega,by simpa using H.2⟩
    ·exact .inr (by rw[h2,H.1,H.2])
  ·rw[Ae H];have⟨t1,t2,t3⟩:=Cm.ai (N:=N+4+A.j.Al.length+sg.length+fresh.length) (R:=R+12+8*ns.length) (g4.ae (by omega) (by rw[aW];omega)) (A.j.A8+1) (ns.map (·.1)) aP (by simp);rw[Ae (by simp[t1])];refine⟨_,rfl,t2.ae (Aq _) (by simp;omega),.inr (by rw[t3,Ah rfl]),λm W=>by rw[t3,Ae W]⟩
 obtain⟨aE,t1,t2,t3,t4⟩:=aN;have aV:∀m,aE.bs m≠none->m=AF\/(∃n∈A.j.Al,m=Af n)\/(∃x∈sg,m=Aw x.1)\/∃x∈Cf A.A8 fresh,m=Aw x.1:=λm W=>by
  by_cases e:m=AF
  ·exact .inl e
  ·rw[t4 m e]at W;by_cases e2:∃x∈Cf A.A8 fresh,m=Aw x.1
   ·exact .inr (.inr (.inr e2))
   ·rw[g6 m λx z e3=>e2 ⟨x,z,e3⟩,w3]at W;by_cases e3:m∈({A with AM:=[]}:Ar).Av
    ·rcases(O m).1 e3 with h|h|h
     ·exact .inl h
     ·exact .inr (.inl h)
     ·exact .inr (.inr (.inl h))
    ·rw[Ae e3]at W;exact absurd rfl W
 obtain⟨aG,aI⟩:∃aG:Ar,(⟨⟨A.j.A8+1,ns.map (·.1)⟩,⟨[],A.j.A8,0,none⟩,A.A8+fresh.length,[]⟩:Ar)=aG:=⟨_,rfl⟩;have I:∀m,m∈aG.Av↔m=AF\/∃x∈ns,m=Aw x.1:=λm=>by
  rw[<-aI];unfold Ar.Av;dsimp only;simp[eq_comm]
 have aQ:(aG.aV aE).length<=1+A.j.Al.length+sg.length+fresh.length:=by
  have h1:(aG.aV aE).length<=(AF::(A.j.Al.map Af++(sg.map (λx=>Aw x.1)++(Cf A.A8 fresh).map λx=>Aw x.1))).length:=
   I9 (MY GG t2.cb) λm W=>by
    rcases aV m (HD.1 W).1 with h|⟨n,h1,h2⟩|⟨n,h1,h2⟩|⟨n,h1,h2⟩
    ·subst h;exact Bp ..
    ·subst h2;exact Bn _ (Fx _ (DD h1))
    ·subst h2;exact Bn _ (GX _ (Fx _ (C9.2 ⟨n,h1,rfl⟩)))
    ·subst h2;exact Bn _ (GX _ (GX _ (C9.2 ⟨n,h1,rfl⟩)))
  simp only[BM,AX,H9,LQ]at h1;omega
 have⟨v1,v2,v3⟩:=Cm.aw (A:=aG) (t2.ae (N':=N+1+(1+A.j.Al.length+sg.length+fresh.length)) (by omega) (Aq _)) aQ (M:=N+1) (by omega);have⟨d1,d2,d3⟩:=Cm.du (N:=N) v2;obtain⟨aS,aX⟩:∃aS,(aG.aw aE).2.aN.2=aS:=⟨_,rfl⟩;have aZ:A.ay P (Y.map (·.1)) fresh=(0,aG,aS):=by
  unfold Ar.ay;dsimp only
  rw[Ae (by simp[s1]),s2,Ae (by simp[w1]),a3];dsimp only
  rw[Ae (by simp[g1]),g2,g3,a4,<-aJ,t1,aI];dsimp only
  rw[Ae (by simp)];unfold Ar.a6;rw[Ae (by simp[v1]),d1,aX]
 rw[aX]at d2 d3;have X:∀m,aS.bs m=if m∈aG.Av then aE.bs m else none:=λm=>by rw[d3,v3]
 have aL:∀x∈ns,aS.bs (Aw x.1)=some (AT (AB (Aw x.1)) (Cb x.2)):=λx z=>by
  rw[X,Ah ((I _).2 (.inr ⟨x,z,rfl⟩)),t4 _ (IF _)];exact(aF x z).2
 have aU:aS.bs AF=aE.bs AF:=by rw[X,Ah ((I _).2 (.inl rfl))]
 rw[aZ];dsimp only
 rw[aD];refine⟨rfl,aI.symm,d2,?_,λm W=>?_⟩
 ·rw[<-aI];refine⟨⟨hn,λn W=>?_,IH.2 aH⟩,?_,rfl,λx z=>⟨(aF x z).1,aL x z⟩,λx z=>(by cases z),λx z=>(by cases z),⟨λx z=>(by cases z),λh=>absurd rfl h⟩,trivial,rfl,⟨rfl,rfl⟩,⟨h.Eh.1,Ha _,λn hk z=>?_⟩,⟨by have:=h.DY.1;dsimp only;omega,λn hk z=>?_⟩,λnm W=>(by cases W),List.Pairwise.nil,λnm W=>?_,λn hk _ z=>?_⟩
  ·obtain⟨x,z,rfl⟩:=C9.1 W;exact aB x z
  ·rw[aU];rcases t3 with⟨q1,q2,q3⟩|q
   ·exact .inl ⟨q1,by dsimp only;rw[q2,q3];rfl⟩
   ·exact .inr q
  ·rw[X,Ae]at z
   ·exact absurd rfl z
   ·rw[I];rintro (e|⟨x,_,e⟩)
    ·exact H0 n e
    ·exact EY n x.1 e
  ·rw[X]at z;split at z
   ·rename_i W;rcases(I _).1 W with e|⟨x,aT,e⟩
    ·exact absurd e (IF n)
    ·have:=KF hk (aB x aT) e;rw[this];exact aY x aT
   ·exact absurd rfl z
  ·rw[X]at W;split at W
   ·rename_i h2;rcases(I _).1 h2 with e|⟨x,z,e⟩
    ·subst e;rw[SC];simp
    ·subst e;rw[LS (aB x z)];simp
   ·exact absurd rfl W
  ·rw[X,Ae]at z
   ·exact absurd rfl z
   ·rw[I];rintro (e|⟨x,_,e⟩)
    ·exact H0 n e
    ·exact EY n x.1 e
 ·rw[X]at W;split at W
  ·rename_i h2;rcases(I _).1 h2 with e|⟨x,z,e⟩
   ·subst e;exact Bp ..
   ·subst e;exact Bn _ (C9.2 ⟨x,z,rfl⟩)
  ·exact absurd rfl W
end
end
end Go.Proofs.YtodcnkbblippnabGreatDoor
