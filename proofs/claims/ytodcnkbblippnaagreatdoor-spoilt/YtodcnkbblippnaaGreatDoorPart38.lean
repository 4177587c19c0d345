/- Part 38 of a proof: walks of the program. -/
import Derived.Test.YtodcnkbblippnaaGreatDoorPart37
namespace Go.Proofs.YtodcnkbblippnaaGreatDoor
set_option maxRecDepth 100000
set_option maxHeartbeats 32000000
set_option linter.defProp false
open Go.Proofs.Tryz
section
open Go.RowKit
def Ca(t:Nat):Int×Int:=(t,700000*(t:Int))
def IX{t t':Nat}(h:t<=t'):I3 (Ca t) (Ca t'):=⟨by simp only[Ca];omega,by simp only[Ca];omega⟩
structure PB (P:PD) (t:Nat):Prop where
 BQ:Fit P (3*t+20) (3000000*(t+1)) (40*t+1000)
 Ap:Bg P (700000*(t+1))
 refQ:0<=P.D.n.Bl/\P.D.n.Bl<=t
 HI:0<=P.D.n.fulls/\P.D.n.fulls<=t
def PB.af{P:PD}{t t':Nat}(h:PB P t)(ht:t<=t'):PB P t':=
 ⟨h.BQ.af (by omega) (by omega) (by omega),h.Ap.af (by omega),by have:=h.refQ;omega,by have:=h.HI;omega⟩
def HP(P:PD)(e:Int)(P':PD):Prop:=(e=0/\P'.D.n.Bl=P.D.n.Bl/\P'.D.n.fulls=P.D.n.fulls/\P'.D.n.AW=P.D.n.AW)\/
 (e=5/\P'.D.n.Bl=P.D.n.Bl+1/\P'.D.n.fulls=P.D.n.fulls)\/(e=6/\P'.D.n.Bl=P.D.n.Bl+1/\P'.D.n.fulls=P.D.n.fulls+1/\P'.D.n.AW=P.D.n.AW)
section
variable{bd:Int×Int}{P P':PD}{A:Ar}{sg cl:gh (Int×gh Pu)}{ol:Option (gh Pu)}{pd:gh Pu}{Ad:Nat}{o:Int}{t:Nat}
def Ct.dm{e:Int}(h:Ct P.D.n e P'.D.n)(z:PB P t)(ht:t<=330000)(he:e=0\/e=5\/e=6):HP P e P':=by
 have h1:=z.refQ;have h2:=z.HI;have E:wrap64 (P.D.n.Bl+1)=P.D.n.Bl+1:=by unfold wrap64;omega
 have H:wrap64 (P.D.n.fulls+1)=P.D.n.fulls+1:=by unfold wrap64;omega
 rcases h with⟨a,b,c,d,f⟩|⟨a,b,c⟩|⟨a,b,c,d⟩
 ·exact .inl ⟨by omega,c,d,f⟩
 ·exact .inr (.inl ⟨a,b.trans E,c⟩)
 ·exact .inr (.inr ⟨a,b.trans E,c.trans H,d⟩)
def HP.refQ{e:Int}(h:HP P e P')(d:PB P t):(0<=P'.D.n.Bl/\P'.D.n.Bl<=(t+1:Nat))/\0<=P'.D.n.fulls/\P'.D.n.fulls<=(t+1:Nat):=by
 have h1:=d.refQ;have h2:=d.HI;rcases h with⟨_,b,c,_⟩|⟨_,b,c⟩|⟨_,b,c,_⟩<;>rw[b,c]<;>omega
def Zq{l:gh Int}(d:l.Pairwise (· < ·)){t:Nat}(h:∀x∈l,1<=x/\x<=t):l.length<=t:=by
 have:=Jp (l':=(List.range t).map λ(i:Nat)=>(i:Int)+1) (d.imp λh=>X6 h) λx z=>by
  have⟨h1,h2⟩:=h x z;exact CC.2 ⟨(x-1).toNat,NN.2 (by omega),by omega⟩
 simpa using this
structure QA (A:Ar) (P:PD) (sg cl:gh (Int×gh Pu)) (ol:Option (gh Pu)) (t:Nat):Prop where
 j:0<=A.j.A8/\A.j.A8<=t
 jn:isNum (A.j.A8+1)=true
 s:0<=A.A8/\A.A8<=700000*(t:Int)
 Ak:A.j.Ak.length<=t
 sd:A.ix.sd.length<=t/\sg.length<=t
 Ck:(B7 sg cl ol).length<=t/\(Au cl++ol.getD []).length<=t
 Ai:P.Ai.length<=3*t+20
 Nk:A.Ai.length<=2*t+1
def SI.bD(h:SI (Ca t) A P pd Ad o sg cl ol)(Y:PB P t)(hl:pd.length<=t)(ht:t<=330000):QA A P sg cl ol t:=by
 have W:=h.AV.EB.1;have H:=h.Ew.2.1;have h3:=h.AV.Ep.1;have I:=h.Ew.2.2;simp only[Ca]at H I;have hall:=h.Ck.2.2;have h5:(B7 sg cl ol).length=(Au sg).length+(Au cl++ol.getD []).length:=by unfold B7;rw[AY]
 have hseg:sg.length<=(Au sg).length:=by
  have:=Hm (ws:=sg.map (·.2)) λw hw=>by
   obtain⟨x,d,rfl⟩:=CC.1 hw;exact h.Ew.1.2.2 x d
  rw[FW]at this;unfold Au;rw[WU];exact this
 have hsl:A.ix.sd.length=sg.length:=by rw[<-h.AV.sd,FW]
 have z:A.j.Ak.length<=t:=by
  refine Zq h.AV.Hl λx d=>?_;rw[h.AV.bQ]at d;have O:∀y∈cl,1<=y.1/\y.1<=t:=λy hy=>by
   have q:=(h.AV.CV y hy).1;have L:=q.1;unfold isNum at L;simp at L;have:=q.2;omega
  cases ol with
  | none=>
   obtain⟨y,hy,rfl⟩:=CC.1 d;exact O y hy
  | some l=>
   unfold shut at d;rw[Ei]at d;rcases AU.1 d with d|d
   ·obtain⟨y,hy,rfl⟩:=CC.1 d;exact O y hy
   ·simp at d;have q:=h.AV.AE.2.2.2.2;unfold isNum at q;simp at q;omega
 have E:P.Ai.length<=3*t+20:=by rw[HJ];exact Y.BQ.A4
 refine⟨⟨W,H⟩,by unfold isNum;simp;omega,⟨h3,I⟩,z,⟨by omega,by omega⟩,⟨by omega,by omega⟩,E,?_⟩;unfold Ar.Ai;simp only[AY,Cg,FW];omega
end
structure St (t:Nat) (A:Ar) (P:PD) (pd:gh Pu) (Ad:Nat) (o:Int) (ro:Bool):Prop where
 pb:PB P t
 di:DI (Ca t) P pd Ad o
 rd:Reads (Ca t) P pd o
 si:ro=false->∃sg cl ol,SI (Ca t) A P pd Ad o sg cl ol/\A.AN.length<=3*t+20
 pu:∀p∈pd,B8 p
 B4:pd.length<=t
 le:Ad<=pd.length
 AW:P.D.n.AW=false
section
variable{P P':PD}{A A':Ar}{pd:gh Pu}{Ad:Nat}{o:Int}{t:Nat}{ro:Bool}
def St.af{t':Nat}(h:St t A P pd Ad o ro)(d:t<=t'):St t' A P pd Ad o ro:=
 ⟨h.pb.af d,h.di.aZ (IX d),h.rd.aZ (IX d),λe=>by have⟨sg,cl,ol,h1,h2⟩:=h.si e;exact⟨sg,cl,ol,h1.aZ (IX d),by omega⟩,h.pu,by have:=h.B4;omega,h.le,h.AW⟩
def St.dq{q:gh Pu}(E:PB P t)(z:DI (Ca t) P q Ad o)(L:Reads (Ca t) P q o)(H:∀p∈q,B8 p)(I:q.length<=t)(h:Ad<=q.length)(d:P.D.n.AW=false):St t A P q Ad o true:=
 ⟨E,z,L,λe=>(by cases e),H,I,h,d⟩
def St.ae(h:St t A P pd Ad o false)(ht:t+1<=330000)(p:Pu)(L:B8 p):
 PB (A.ae P p).2.2.2 (t+1)/\HP P (A.ae P p).2.1 (A.ae P p).2.2.2/\DI (Ca (t+1)) (A.ae P p).2.2.2 (pd++[p]) Ad o/\
  ((A.ae P p).1=true->Reads (Ca (t+1)) (A.ae P p).2.2.2 (pd++[p]) o)/\((A.ae P p).1=false->DI (Ca (t+1)) (A.ae P p).2.2.2 pd Ad o/\Reads (Ca (t+1)) (A.ae P p).2.2.2 pd o)/\
  ((A.ae P p).2.1=0->(A.ae P p).1=true/\St (t+1) (A.ae P p).2.2.1 (A.ae P p).2.2.2 (pd++[p]) Ad o false)/\((A.ae P p).2.1=6->P.D.n.AA-B6 P.F P.D.A4<200):=by
 have⟨sg,cl,ol,hS,hll⟩:=h.si rfl;have W:=hS.bD h.pb h.B4 (by omega);have hj:=W.j;have O:=hS.aZ (IX (Hq t));have⟨a1,a2,a3,a4⟩:=O.ae (λ_=>⟨W.jn,by simp only[Ca];omega⟩) p L;have z:=hS.eU (λ_=>W.jn) p L (by omega);have d:=(A4C A P p).dm h.pb (by omega) z;have⟨r1,r2⟩:=d.refQ h.pb;have I:PB (A.ae P p).2.2.2 (t+1):=⟨(h.pb.BQ.fw p).af (by omega) (by omega) (by omega),(A4l h.pb.Ap p).af (by omega),r1,r2⟩;have hlen:=h.B4;have hle:=h.le;refine⟨I,d,a1,a2,a3,λe=>?_,λe=>A4n e⟩;have⟨b1,b2,b3⟩:=a4 e;refine⟨b1,I,a1,a2 b1,λ_=>⟨sg,cl,_,b2,by rw[b3];simp⟩,λq H=>?_,by simp;omega,by simp;omega,?_⟩
 ·rcases AU.1 H with H|H
  ·exact h.pu q H
  ·simp at H;subst H;exact L
 ·rcases d with⟨_,_,_,E⟩|⟨E,_⟩|⟨E,_⟩
  ·rw[E];exact h.AW
  ·rw[e]at E;cases E
  ·rw[e]at E;cases E
def St.ad(h:St t A P pd Ad o false)(ht:t+1<=330000):
 PB (A.ad P).2.2 (t+1)/\HP P (A.ad P).1 (A.ad P).2.2/\DI (Ca (t+1)) (A.ad P).2.2 pd Ad o/\Reads (Ca (t+1)) (A.ad P).2.2 pd o/\
  ((A.ad P).1=0->St (t+1) (A.ad P).2.1 (A.ad P).2.2 pd pd.length o false)/\(A.ad P).1≠6:=by
 have⟨sg,cl,ol,hS,hll⟩:=h.si rfl;have H:=hS.aZ (IX (Hq t));have⟨⟨a1,a2⟩,a3⟩:=H.ad;have hcode:=hS.fV (by omega);have d:=(A4B A P).dm h.pb (by omega) (by omega);have⟨r1,r2⟩:=d.refQ h.pb;have E:PB (A.ad P).2.2 (t+1):=⟨h.pb.BQ.fL.af (by omega) (by omega) (by omega),(A4k h.pb.Ap).af (by omega),r1,r2⟩;have hlen:=h.B4;refine⟨E,d,a1,a2,λe=>?_,Wa A P⟩;have⟨b1,b2,b3⟩:=a3 e;refine⟨E,b1.di,a2,λ_=>⟨sg,cl,ol,b1,by rw[b2];simp⟩,h.pu,by omega,Ao _,?_⟩;rcases d with⟨_,_,_,z⟩|⟨z,_⟩|⟨z,_⟩
 ·rw[z];exact h.AW
 ·rw[e]at z;cases z
 ·rw[e]at z;cases z
def PB.aF{sg cl:gh (Int×gh Pu)}{ol:Option (gh Pu)}(h:PB P t)(Y:Gc P)(W:QA A P sg cl ol t)(ht:t+1<=330000)(E:gh Int)(d:gh (gh Pu))(hk:E.length<=t)(hf:d.length<=t)(I:∀l∈d,l.length<=t)(L:(A.aF P E d).1=0\/(A.aF P E d).1=5\/(A.aF P E d).1=6):PB (A.aF P E d).2.2 (t+1)/\HP P (A.aF P E d).1 (A.aF P E d).2.2:=by
 have z:=(A4u A P E d).dm h (by omega) L;have⟨r1,r2⟩:=z.refQ h;have hc:=W.Nk;have O:=h.BQ.aF (A:=A) E d;have⟨w,i⟩:=Zr (a:=3*(t+1)+20) (m:=40*(t+1)+1000) (A:=A) (h.BQ.af (a':=3*(t+1)+20) (m':=40*(t+1)+1000) (by omega) (Ao _) (by omega)).wd h.Ap Y E d (by omega) (λl H=>by have:=I l H;omega) (by omega);exact⟨⟨(w.BQ O).af (Ao _) (by omega) (Ao _),i.af (by omega),r1,r2⟩,z⟩
def St.aR{wa:Int}(h:St t A P pd Ad o false)(Y:BS (Az wa))(ht:t+1<=330000):
 PB (A.aR P wa).2.2 (t+1)/\HP P (A.aR P wa).1 (A.aR P wa).2.2/\DI (Ca (t+1)) (A.aR P wa).2.2 pd Ad o/\Reads (Ca (t+1)) (A.aR P wa).2.2 pd o/\
  ((A.aR P wa).1=0->St (t+1) (A.aR P wa).2.1 (A.aR P wa).2.2 pd pd.length o false):=by
 have⟨sg,cl,ol,hS,hll⟩:=h.si rfl;have E:=hS.bD h.pb h.B4 (by omega);have⟨n1,n2⟩:=E.Ck;have⟨n3,n4⟩:=E.sd;have n5:=E.Ai;have n6:=E.Ak;have n7:=E.s;have aA:=hS.aZ (IX (Hq t));have⟨⟨a1,a2⟩,a3⟩:=aA.aR Y E.jn n1 (by omega) (by omega) (by simp only[Ca];omega) (by omega);have I:=hS.fP Y E.jn n1 (by omega) (by omega) (by omega);have hp:=hS.AV.pd hS.CZ;have L:=HH Y (Au cl++ol.getD []);have hfl:=Hm L.ne;have hfl2:=L.B4;have e:A.aR P wa=A.aF P A.ix.sd (By wa (Au cl++ol.getD [])):=by
  unfold Ar.aR;rw[hp,Aa (by simp)]
 have z:=h.pb.aF (A:=A) h.di.bc E ht A.ix.sd (By wa (Au cl++ol.getD [])) n3 (by omega) (λl hl=>by
  have:=(NL hl).length_le
  omega) (by rw[<-e];exact I)
 rw[<-e]at z;obtain⟨O,d⟩:=z;have hlen:=h.B4;refine⟨O,d,a1,a2,λW=>?_⟩;have⟨sg',b1,b2,_⟩:=a3 W;refine⟨O,b1.di,a2,λ_=>⟨sg',[],none,b1,by rw[b2];simp⟩,h.pu,by omega,Ao _,?_⟩;rcases d with⟨_,_,_,H⟩|⟨H,_⟩|⟨H,_⟩
 ·rw[H];exact h.AW
 ·rw[W]at H;cases H
 ·rw[W]at H;cases H
def St.aP{wa:Int}(h:St t A P pd Ad o false)(hw:BS (Az wa))(ht:t+1<=330000):
 PB (A.aP P wa o).2.2 (t+1)/\HP P (A.aP P wa o).1 (A.aP P wa o).2.2/\DI (Ca (t+1)) (A.aP P wa o).2.2 pd Ad o/\Reads (Ca (t+1)) (A.aP P wa o).2.2 pd o/\
  ((A.aP P wa o).1=0->St (t+1) (A.aP P wa o).2.1 (A.aP P wa o).2.2 pd pd.length o false):=by
 have⟨sg,cl,ol,hS,hll⟩:=h.si rfl;have H:=hS.bD h.pb h.B4 (by omega);have⟨n1,n2⟩:=H.Ck;have⟨n3,n4⟩:=H.sd;have n5:=H.Ai;have n6:=H.Ak;have n7:=H.s;have aB:=hS.aZ (IX (Hq t));have⟨⟨a1,a2⟩,a3⟩:=aB.aP hw H.jn n1 (by omega) (by omega) (by simp only[Ca];omega) (by omega);have L:=hS.fJ hw H.jn n1 (by omega) (by omega) (by omega);have hp:=hS.AV.pd hS.CZ;have O:=HH hw (B7 sg cl ol);have hfl:=Hm O.ne;have hfl2:=O.B4;have I:=Kh sg o (By wa (B7 sg cl ol));have aA:=I.length_eq;have hal:(E2 o (By wa (B7 sg cl ol))).length<=(By wa (B7 sg cl ol)).length:=J8 _ _;rw[AY,FW]at aA;have hks:(BJ sg o (By wa (B7 sg cl ol))).1.length=(Gn sg o (By wa (B7 sg cl ol))).length:=by rw[Ki,FW]
 have e:A.aP P wa o=A.aF P ((BJ sg o (By wa (B7 sg cl ol))).1.mergeSort λx y=>decide (x<=y)) (BJ sg o (By wa (B7 sg cl ol))).2:=by
  unfold Ar.aP;rw[hS.AV.b4];dsimp only
  have z:sg.flatMap (·.2)++(P.pd A.j.Ak).1=B7 sg cl ol:=by rw[hp];rfl
  rw[z,hp,Aa (by simp)]
 have E:=h.pb.aF (A:=A) h.di.bc H ht ((BJ sg o (By wa (B7 sg cl ol))).1.mergeSort λx y=>decide (x<=y)) (BJ sg o (By wa (B7 sg cl ol))).2 (by rw[NQ];omega) (by omega) (λl hl=>by
  have:=(NL (Jz hl)).length_le
  omega) (by rw[<-e];exact L)
 rw[<-e]at E;obtain⟨W,d⟩:=E;have hlen:=h.B4;refine⟨W,d,a1,a2,λY=>?_⟩;have⟨sg',b1,b2,_⟩:=a3 Y;refine⟨W,b1.di,a2,λ_=>⟨sg',[],none,b1,by rw[b2];simp⟩,h.pu,by omega,Ao _,?_⟩;rcases d with⟨_,_,_,z⟩|⟨z,_⟩|⟨z,_⟩
 ·rw[z];exact h.AW
 ·rw[Y]at z;cases z
 ·rw[Y]at z;cases z
def St.aT(d:PB P t)(H:DI (Ca t) P pd Ad o)(I:Reads (Ca t) P pd o)(L:∀p∈pd,B8 p)(O:pd.length<=t)(z:Ad<=pd.length)(h:P.D.n.AW=false)(ht:t<=330000):
 ∃A E,Ar.aT P=.ok (A,E)/\St t A P pd Ad o false/\C4 o E pd/\(∀p∈E,B8 p):=by
 have⟨A',sg,cl,h1,h2,h3,h4⟩:=SI.aT H (by simp only[Ca];omega) I z (by omega);refine⟨A',_,h1,⟨d,H,I,λ_=>⟨sg,cl,none,h2,?_⟩,L,O,z,h⟩,h3,λp d=>?_⟩
 ·rw[h4];have h5:(A'.aX P).length<=P.Ai.length:=J8 _ _;have h6:P.Ai.length<=3*t+20:=by rw[HJ];exact d.BQ.A4
  omega
 ·rcases AU.1 d with d|d
  ·exact h2.AV.cN p d
  ·exact h2.AV.bX p d
def PB.b8(h:PB P t)(n:DN)(E:n.AA=P.D.n.AA)(d:0<=n.BC/\n.BC<=9223372036854775807)(H:n.Bl=P.D.n.Bl)(z:n.fulls=P.D.n.fulls):PB ⟨{P.D with n:=n},P.F⟩ t:=
 ⟨⟨h.BQ.A4,h.BQ.AI,h.BQ.Fb,h.BQ.Al,h.BQ.B4,by rw[E];exact h.BQ.AA,d⟩,h.Ap,by rw[H];exact h.refQ,by rw[z];exact h.HI⟩
def Hu(t:Nat)(P:PD)(pd:gh Pu)(Ad:Nat)(o:Int)(h:Bool):Prop:=
 PB P t/\DI (Ca t) P pd Ad o/\(∀p∈pd,B8 p)/\pd.length<=t/\Ad<=pd.length/\
  (P.D.n.AW=true\/∃d,Ad<=d/\d<=pd.length/\(h=false->d=pd.length)/\∀z n,o<=z->d<=n->n<=pd.length->C4 z (pd.take d) (pd.take n)->DI (Ca t) P (pd.take n) Ad z/\Reads (Ca t) P (pd.take n) z)
def A29(h:PB P t)(hd:DI (Ca t) P pd Ad o)(I:Int)(d:gh Int):PB (P.aW I d) t:=by
 have E:=Vz P.D I;generalize W:Ga P.D I=s at E;have L:(P.aW I d).D.A4=s:=by unfold PD.aW Fw;dsimp only;exact W
 have aD:(P.aW I d).D.AI=s:=by unfold PD.aW Fw;dsimp only;exact W
 have Y:(P.aW I d).D.As=[]:=rfl;have O:∀e∈s,P.D.Ap e.2:=λe z=>by
  rcases BB.1 E with E|E
  ·rw[E]at z;exact .inr (.inl ⟨e,z,rfl⟩)
  ·exact .inr (.inr ⟨s,E,e,z,rfl⟩)
 have H:∀f,(P.aW I d).D.Ap f->P.D.Ap f/\∃e∈s,e.2=f:=λf hf=>by
  rcases hf with⟨e,z,rfl⟩|⟨e,z,rfl⟩|⟨l,hl,_⟩
  ·rw[L]at z;exact⟨O e z,e,z,rfl⟩
  ·rw[aD]at z;exact⟨O e z,e,z,rfl⟩
  ·rw[Y]at hl;cases hl
 have aA:s.length<=3*t+20:=by
  rcases BB.1 E with E|E
  ·rw[E];exact h.BQ.AI
  ·exact h.BQ.Fb s E
 have hr:∀e∈s,0<=(P.F e.2).2/\(P.F e.2).2<=(P.F e.2).1.length:=λe z=>by
  have⟨ix,sg,cl,lo,nb,hL,_⟩:=hd.DP s E;have hv:vw P.F s e.1.data.toList=some (P.F e.2):=by
   unfold vw;rw[FO];cases hk:lookup s e.1 with
   | none=>exact absurd rfl (Jt.1 hk e z)
   | some g=>
    have⟨i,hi,e1⟩:=DV (DY hk);have⟨j,hj,e2⟩:=DV z;have:i=j:=Kb (hd.Cj s E) (by simpa using hi) (by simpa using hj) (by simp[e1,e2]);subst this;rw[e1]at e2;rw[<-e2];rfl
  exact hL.E7 _ _ hv
 refine⟨⟨by rw[L];exact aA,by rw[aD];exact aA,λl hl=>(by rw[Y]at hl;cases hl),(by rw[Y];simp),λf hf=>?_,h.BQ.AA,h.BQ.BC⟩,λf hf=>h.Ap f (H f hf).1,h.refQ,h.HI⟩;obtain⟨h1,e,z,rfl⟩:=H f hf;have hF:(P.aW I d).F=E1 s d (dList s) P.F s.length:=by unfold PD.aW Fw;dsimp only;rw[W]
 rw[hF];have aB:=h.BQ.B4 _ h1;rcases Vx s d (dList s) P.F hr s.length e z with⟨q,_⟩|⟨x,q⟩
 ·rw[q];exact aB
 ·rw[q];have⟨j,_,_,j3⟩:=Qh (hr e z) x;rw[j3];simp only[BT];omega
def Hu.aW(H:PB P t)(E:DI (Ca t) P pd Ad o)(L:∀p∈pd,B8 p)(O:pd.length<=t)(z:Ad<=pd.length)(ht:t<=330000)(h:Int)(d:gh Int):
 Hu t (P.aW h d) pd Ad o true/\(P.aW h d).D.n.AW=false:=by
 have⟨h1,n,h2,h3,h4⟩:=E.aW h d (by omega);exact⟨⟨A29 H E h d,h1,L,O,z,.inr ⟨n,h2,h3,λe=>(by cases e),λY m W _ _ I=>h4 Y _ W I⟩⟩,rfl⟩
def Hu.b8{z:Bool}(h:Hu t P pd Ad o z)(n:DN)(h1:n.AA=P.D.n.AA)(L:0<=n.BC/\n.BC<=9223372036854775807)(h3:n.Bl=P.D.n.Bl)(W:n.fulls=P.D.n.fulls)(h5:n.AW=P.D.n.AW):Hu t ⟨{P.D with n:=n},P.F⟩ pd Ad o z:=by
 obtain⟨g1,E,g3,g4,g5,H⟩:=h;refine⟨g1.b8 n h1 L h3 W,⟨E.DP,E.Ap,E.Cj,E.CG⟩,g3,g4,g5,?_⟩;rcases H with H|⟨n0,I,k2,O,k4⟩
 ·exact .inl (h5.trans H)
 ·refine .inr ⟨n0,I,k2,O,λo2 n2 Y q2 q3 q4=>?_⟩;have⟨d,r⟩:=k4 o2 n2 Y q2 q3 q4;exact⟨⟨d.DP,d.Ap,d.Cj,d.CG⟩,r.ay λ_=>rfl⟩
end
end
section
variable{P:PD}{A:Ar}{J:Jn}{nm oe:gg}
def Si(P:PD):P.av.2.D.n.AA=P.D.n.AA:=by
 unfold PD.av DC;dsimp only
 split<;>exact Ib _
def Sk(P:PD)(nm:gg):(P.aG nm).2.D.n.AA=P.D.n.AA:=by
 unfold PD.aG Dn;split
 ·rfl
 ·dsimp only
  split<;>exact Ib _
def Zf(P:PD)(oe nm:gg):(P.aM oe nm).2.D.n.AA=P.D.n.AA:=by
 unfold PD.aM CU;split
 ·rfl
 ·split
  ·rfl
  ·dsimp only
   split<;>exact Ib _
def OL(P:PD)(nm:gg)(s:Nat)(l:Bs):(P.ae nm s l).2.2.D.n.AA=P.D.n.AA:=Sn P nm (AS s l)
def Ll(P:PD)(nm:Bs)(s:Nat)(l:Bs):(P.aH nm s l).2.D.n.AA=P.D.n.AA:=by
 unfold PD.aH;split
 ·exact Ji P _
 ·split
  ·exact(OL _ _ _ _).trans (Ji P _)
  ·exact(ML _ _).trans ((OL _ _ _ _).trans (Ji P _))
def Lm:∀(l:gh Bs) (P:PD),(PD.aK l P).2.D.n.AA=P.D.n.AA
 | [],_=>rfl
 | nm::r,P=>by
  unfold PD.aK;split
  ·exact Sk P _
  ·exact(Lm r _).trans (Sk P _)
def Sl(J:Jn)(P:PD)(p:Pu):(J.ax P p).2.2.2.D.n.AA=P.D.n.AA:=by
 unfold Jn.ax;split
 ·rfl
 ·exact OL P _ _ _
def Zi(J:Jn)(P:PD)(p:Pu):(J.ae P p).2.2.2.D.n.AA=P.D.n.AA:=by
 unfold Jn.ae;split
 ·split
  ·exact ON J P
  ·exact(Sl _ _ p).trans (ON J P)
 ·exact Sl J P p
def Zl(A:Ar)(P:PD)(p:Pu):(A.ae P p).2.2.2.D.n.AA=P.D.n.AA:=by
 unfold Ar.ae;split
 ·exact Jh A P
 ·exact(Zi _ _ p).trans (Jh A P)
def Zh(J:Jn)(P:PD):(J.ad P).2.D.n.AA=P.D.n.AA:=by
 unfold Jn.ad;split
 ·rfl
 ·exact ML P _
def Zk(A:Ar)(P:PD):(A.ad P).2.2.D.n.AA=P.D.n.AA:=by
 unfold Ar.ad;split
 ·exact Jh A P
 ·have h:=(Zh (A.C P).2.1.j (A.C P).2.2).trans (Jh A P);split
  ·exact h
  ·exact(Si _).trans h
def OM:∀(z:gh (gh Pu)) (h:Int) (d:gh Int) (P:PD),(PD.aj z h d P).2.2.2.D.n.AA=P.D.n.AA
 | [],_,_,_=>rfl
 | l::r,h,d,P=>by
  unfold PD.aj;split
  ·exact Ll P _ _ _
  ·exact(OM r _ _ _).trans (Ll P _ _ _)
def Zg(P:PD)(first:Int)(sd:gh Int):(P.ah first sd).2.D.n.AA=P.D.n.AA:=by
 unfold PD.ah;split
 ·exact Ll P _ _ _
 ·exact(Zf _ _ _).trans (Ll P _ _ _)
def Sm(A:Ar)(P:PD)(sd:gh Int):(A.ah P sd).2.2.D.n.AA=P.D.n.AA:=by
 have:=Zg P (A.j.A8+1) sd;unfold Ar.ah;split
 ·rfl
 ·split<;>exact this
def Zj(A:Ar)(P:PD):(A.a6 P).2.2.D.n.AA=P.D.n.AA:=by
 unfold Ar.a6;split
 ·exact Lm _ P
 ·exact(Si _).trans (Lm _ P)
def Ze(A:Ar)(P:PD)(H:gh Int)(E:gh (gh Pu)):(A.aF P H E).2.2.D.n.AA=P.D.n.AA:=by
 unfold Ar.aF;dsimp only
 have h:=Jh A P;have z:((A.C P).2.1.au (A.C P).2.2).2.D.n.AA=P.D.n.AA:=(Lm _ _).trans h;have d:∀l k,(PD.aj E l k ((A.C P).2.1.au (A.C P).2.2).2).2.2.2.D.n.AA=P.D.n.AA:=λl k=>(OM _ _ _ _).trans z
 split
 ·exact h
 ·split
  ·exact z
  ·split
   ·exact d _ _
   ·split
    ·exact(Sm _ _ _).trans (d _ _)
    ·exact(Zj _ _).trans ((Sm _ _ _).trans (d _ _))
end
def hollow(room:Int):PD:=⟨⟨[],[],[],IW room⟩,λ_=>([],0)⟩
section
variable{room:Int}{o:Int}
def V7:CW (Ca 0) (vw (hollow room).F []) ⟨1,[]⟩ [] [] none:=by
 have d:∀nm,vw (hollow room).F [] nm=none:=λnm=>rfl;refine⟨⟨⟨by decide,by simp,by decide⟩,by simp[Ca],by simp⟩,.inl ⟨rfl,rfl⟩,rfl,by simp,by simp,trivial,?_,by simp,?_,?_,?_⟩
 ·intro n l h;cases h
 ·intro n _ _ h;exact absurd (d _) h
 ·intro nm h;exact absurd (d nm) h
 ·intro nm c h;rw[d]at h;cases h
def PX(f:Nat):¬(hollow room).D.Ap f:=λh=>by
 simp[DS.Ap,hollow,Dm]at h
def A2n(hr : -4611686018427387904<=room/\room<=9223372036854775807):PB (hollow room) 0:=by
 refine⟨⟨Cb _,Cb _,?_,Cb _,λf d=>absurd d (PX f),hr,⟨I0 _,by simp[hollow,IW]⟩⟩,λf d=>absurd d (PX f),⟨I0 _,I0 _⟩,⟨I0 _,I0 _⟩⟩;intro l h;cases h
def V8:DI (Ca 0) (hollow room) [] 0 o:=by
 have d:∀s∈Bn (hollow room),s=[]:=λs d=>by simpa[Bn,hollow] using d
 refine⟨λs h=>?_,λs h=>?_,λs h=>?_,by simp[Bn,hollow]⟩
 ·rw[d s h];refine⟨⟨1,[]⟩,[],[],none,0,V7,Ao _,C4.I _ _,?_,λ_=>Ao _⟩;intro n l e;cases e
 ·rw[d s h];exact List.Pairwise.nil
 ·rw[d s h];exact List.Pairwise.nil
def A2m:Reads (Ca 0) (hollow room) [] o:=Whole.bu (P:=hollow room) ⟨⟨1,[]⟩,[],[],none,V7,Cb _,C4.I _ _⟩
def A2p(hr : -4611686018427387904<=room/\room<=9223372036854775807):Hu 0 (hollow room) [] 0 o false:=by
 refine⟨A2n hr,V8,?_,Ao _,Ao _,.inr ⟨0,Ao _,Ao _,λ_=>rfl,?_⟩⟩
 ·intro p d;cases d
 ·intro o' n _ _ h _;obtain rfl:n=0:=by simpa using h
  exact⟨V8,A2m⟩
def PY(room:Int)(nm:Bs):(hollow room).bs nm=none:=rfl
def A2o{room:Int}{N R:Nat}(hN:N<=4611686018427387904)(hR:(R:Int)<=room):Cm (hollow room) N R:=
 ⟨rfl,rfl,rfl,by simp only[hollow,IW];omega,by simp only[hollow,IW,B6];omega,by simp[hollow],by simp[hollow]⟩
end
section
open Go.RowKit
section
variable{P:PD}{A:Ar}{ps pl:gh Pu}{sg:gh (Int×gh Pu)}{N R a c m:Nat}
def PD.sz(P:PD)(nm:Bs):Nat:=((P.bs nm).getD []).length
def SR(nm:Bs):(P.aS nm).1.length<=P.sz nm:=by
 unfold PD.aS;rw[FQ];unfold PD.sz;cases hb:P.bs nm with
 | none=>simp
 | some x=>
  dsimp only
  rw[Aa (by simp)];unfold G2;split
  ·rename_i h;split at h
   ·cases h
   ·split at h
    ·cases h;simp
    ·cases h
  ·simp
def UO:∀(k:Nat) (l:Bs),(Fs k l).length*8<=l.length
 | 0,_=>by simp[Fs]
 | k+1,l=>by
  unfold Fs;split
  ·simp
  ·have:=UO k (l.drop 8);rw[CO]at this;simp only[Cg];omega
def A2b{ix:Ix}(h:P.CK=some ix):ix.sd.Pairwise (· < ·)/\ix.sd.length*8<=P.sz Ay:=by
 have hr:=@SR P Ay;unfold PD.CK indexOf at h;split at h
 ·cases h;exact⟨List.Pairwise.nil,Cb _⟩
 ·split at h
  ·cases h
  ·split at h
   ·cases h
   ·split at h
    ·rename_i d;cases h;have:=UO (P.aS Ay).1.length (P.aS Ay).1;refine⟨IC.1 d,?_⟩;dsimp only
     rw[List.length_tail];unfold Et;omega
    ·cases h
def Sd:∀(k:Nat) (l:Bs) (r:gh Pu×Bs),DO k l=some r->r.1.length*17<=l.length
 | 0,l,r,h=>by cases h;simp
 | k+1,l,r,h=>by
  unfold DO at h;split at h
  ·cases h;simp
  ·split at h
   ·cases hx:DO k (l.drop 17) with
    | none=>rw[hx]at h;cases h
    | some q=>
     rw[hx]at h;cases h;have:=Sd k (l.drop 17) q hx;rw[CO]at this;simp only[Cg];omega
   ·cases h
def YS{n:Int}{l:gh Pu}(h:P.BN n=some l):l.length*17<=P.sz (Aw n)/\P.bs (Aw n)≠none:=by
 have d:=@SR P (Aw n);unfold PD.BN Hj at h;split at h
 ·cases h
 ·rename_i E;refine⟨?_,λz=>E (by unfold PD.aS;rw[FQ,z];simp)⟩;cases hx:DO (P.aS (Aw n)).1.length (P.aS (Aw n)).1 with
  | none=>rw[hx]at h;cases h
  | some q=>
   rw[hx]at h;dsimp only at h;split at h
   ·cases h;exact AJ (Sd _ _ q hx) d
   ·cases h
def S6:∀(z:gh Int) (l:gh (Int×gh Pu)),P.sd z=some l->(l.flatMap (·.2)).length*17<=((z.map Aw).map P.sz).sum/\∀n∈z,P.bs (Aw n)≠none
 | [],l,h=>by cases h;exact⟨by simp,λn I=>by cases I⟩
 | n::r,l,h=>by
  unfold PD.sd at h;cases hs:P.BN n with
  | none=>rw[hs]at h;cases h
  | some x=>
   rw[hs]at h;cases hr:P.sd r with
   | none=>rw[hr]at h;cases h
   | some y=>
    rw[hr]at h;cases h;obtain⟨i1,E⟩:=S6 r y hr;obtain⟨j1,H⟩:=YS hs;simp only[KR,AY,GY,WK];refine⟨by omega,λk d=>?_⟩;rcases BB.1 d with rfl|d
    ·exact H
    ·exact E k d
end
end
section
open Go.MuLone Go.RowKit
attribute [local go_sem ↓] Go.wp_at_zero Go.wp_at_succ CJ
def boxed(w:ga)(sb:Nat)(k t v:Int):World:=
 (((w.alloc (.cells #[.pointer (some ⟨sb,0,none⟩)] 36)).alloc (.cells #[.int .i64 k] 3)).alloc (.cells #[.int .i64 t] 3)).alloc (.cells #[.int .i64 v] 3)
def JK(w:ga)(x sb:Nat)(k t v:Int):Prop:=
 w.cell? ⟨x,0,none⟩=some (.pointer (some ⟨sb,0,none⟩))/\w.cell? ⟨x+1,0,none⟩=some (.int .i64 k)/\w.cell? ⟨x+2,0,none⟩=some (.int .i64 t)/\w.cell? ⟨x+3,0,none⟩=some (.int .i64 v)
section
variable{w w' w2:ga}{sb ab b B:Nat}{mu ld wc A9:Int}{ro:Bool}{lv:Nat->gd}{L L':Nat->gh Pt}{A A':Ar}{P P':PD}{F0 FT:Nat->Prop}{a c m N:Nat}
def VY(w:ga)(sb:Nat)(k t v:Int):A3 Ab w (boxed w sb k t v):=((((A3.I _ w).al _).al _).al _).al _
def A33(w:ga)(sb:Nat)(k t v:Int):(boxed w sb k t v).heap.size=w.heap.size+4:=by unfold boxed;simp
def VZ(w:ga)(sb:Nat)(k t v:Int):JK (boxed w sb k t v) w.heap.size sb k t v:=by
 unfold boxed;refine⟨?_,?_,?_,?_⟩
 all_goals unfold World.cell?
 ·rw[Di _ _ _ (by simp;try omega),Di _ _ _ (by simp;try omega),Di _ _ _ (by simp),BL];rfl
 ·rw[Di _ _ _ (by simp;try omega),Di _ _ _ (by simp)];have:=BL (w.aC #[A5 sb] 36) (.cells #[A0 k] 3);have e:(w.aC #[A5 sb] 36).heap.size=w.heap.size+1:=by simp
  rw[e]at this;simp only[this];rfl
 ·rw[Di _ _ _ (by simp)];have:=BL ((w.aC #[A5 sb] 36).aC #[A0 k] 3) (.cells #[A0 t] 3);have e:((w.aC #[A5 sb] 36).aC #[A0 k] 3).heap.size=w.heap.size+2:=by simp
  rw[e]at this;simp only[this];rfl
 ·have:=BL (((w.aC #[A5 sb] 36).aC #[A0 k] 3).aC #[A0 t] 3) (.cells #[A0 v] 3);have e:(((w.aC #[A5 sb] 36).aC #[A0 k] 3).aC #[A0 t] 3).heap.size=w.heap.size+3:=by simp
  rw[e]at this;simp only[this];rfl
def JK.Al{S:Nat->Prop}{x:Nat}{k t v:Int}(h:JK w x sb k t v)(hc:A3 S w w')(hS:∀i,i<4->¬S (x+i)):JK w' x sb k t v:=by
 obtain⟨E,I,z,W⟩:=h;have d:∀i u,i<4->w.cell? (Ac (x+i) 0)=some u->w'.cell? (Ac (x+i) 0)=some u:=λi u Y hu=>by
  have H:=HL w _ hu;have O:=hc.An (x+i) H (hS i Y);unfold World.cell? at hu ⊢;rw[O];exact hu
 exact⟨d 0 _ (by omega) E,d 1 _ (by omega) I,d 2 _ (by omega) z,d 3 _ (by omega) W⟩
def A0d(w:ga)(x:Nat)(p:Pu)(n:Int)(Q:ga->Prop)(h:JK w x sb p.1 p.2.1 p.2.2)(d:Ag 66 #[A5 sb,DA p] w (Am (A0 n) λw'=>Q w')):
 Ag 65 #[A5 x,A5 (x+1),A5 (x+2),A5 (x+3)] w (Am (A0 n) λw'=>Q w'):=by
 obtain⟨p1,p2,p3⟩:=p;unfold DA at d;dsimp only at d h;obtain⟨x0,x1,x2,x3⟩:=h;have z:=A1 d
 go_enter func65,ntmps65
 go_wp2_with (go_at_call 66;refine z.k ?_;rintro w2 H;have E:=A1 H);go_ret;exact⟨rfl,E.o⟩
def SF.bU(h:SF w sb ab b 0 ld wc A9 ro L A P FT):Aq w FT (w.setCell ⟨sb,0,none⟩ (.int .i32 1)) (λw' d=>SF w' sb ab b 1 ld wc A9 ro L A P d):=h.DK 0 _ λ_ h=>h.s0 1
def ZZ(w:ga)(p:Pu)(h:SF w sb ab b 0 ld wc A9 false L A P FT)(aD:∀k,FT k->k<w.heap.size)(hp:B8 p)(hn:A.j.AE=none->CH (A.j.A8+1)/\AT (A.j.A8+1)/\AT A.j.pd)(aA:A.j.Ak.length<=1073741824)(hL:Lets B w)(H:∀k,FT k->B<=k)(hF:Fit P a c m)(aF:CP (a+1) (c+1) (m+33))(aH:∀k,k<8->(L k).length<1099511627000)(hl:1<=ld/\ld<=4611686018427387904)(hc:AT A9):
 Ag 23 #[A5 sb,A0 p.1,A0 p.2.1,A0 p.2.2] w (Am (A0 (A.ae P p).2.1) λw'=>
  Aq w FT w' (λw' d=>SF w' sb ab b 0 ld wc A9 (decide ((A.ae P p).2.1≠0)) (if (A.ae P p).1=true then Fq L (Bo A9 ld) p.1.toNat p.2.1 p.2.2 else L) (A.ae P p).2.2.1 (A.ae P p).2.2.2 d)):=by
 have aL:Hid (∀w',Ag 63 #[A0 p.1] w' λe I=>e=.returned (.bool true)/\w'=I):=λw'=>by
  have:=PH w' p.1
  rwa [CM hp.1]at this
 have W:=VY w sb p.1 p.2.1 p.2.2;have hX:=VZ w sb p.1 p.2.1 p.2.2;have hZ:=A33 w sb p.1 p.2.1 p.2.2;generalize aK:boxed w sb p.1 p.2.1 p.2.2=w0 at W hX hZ;unfold boxed at aK;have hV:=h.aJ W;have Y:=hL.aO W;have z:=hV.bU;have E:JK (w0.sC sb 0 (.int .i32 1)) w.heap.size sb p.1 p.2.1 p.2.2:=hX.Al z.1 λi _ hx=>by have:=aD _ hx;omega
 have aJ:Hid (Aq w FT (w0.sC sb 0 (.int .i32 1)) (λw' d=>SF w' sb ab b 1 ld wc A9 false L A P d)):=z.a8 W;have⟨k1,F1,s1,s2,s3⟩:=aJ.o;have aB:=Y.an z.1 H;have aE:=hL.1
 have O:=A1 (A3Q (w0.sC sb 0 (.int .i32 1)) w.heap.size (A.ae P p).2.1 s1 (A0d _ w.heap.size p _ _ E
  (A4F _ p s1 s2 hp hn aA aB (λk hk=>(s3 k hk).elim (H k) λh=>AJ aE h) hF aF aH hl hc)))
 have ST:Hid (∀wx R,Aq (w0.sC sb 0 (.int .i32 1)) F1 wx R->Aq w FT wx R):=λwx R h=>Aq.a7 k1 s3 h;obtain⟨x0,x1,x2,x3⟩:=hX;obtain⟨y0,y1,y2,y3⟩:=E;have c0:A7 w0 sb 0 (.int .i32 0):=by obtain⟨lv,F0,q,-⟩:=hV;exact q.Ah.c0
 have f0:w0.frozen? (Ac sb 0)=false:=by obtain⟨lv,F0,q,-⟩:=hV;exact q.Ah.fz 0
 obtain⟨p1,p2,p3⟩:=p;dsimp only at *;generalize hR:A.ae P (p1,p2,p3)=R at O ⊢;obtain⟨aN,R2,R3,R4⟩:=R;dsimp only at O ⊢;generalize hL2:(if aN=true then Fq L (Bo A9 ld) p1.toNat p2 p3 else L)=L2 at O ⊢
 go_enter_defers func23,ntmps23
 go_wp2_with (first
  | (go_at_call 61;refine(LI Tryz.bC (Ac sb 0) _ c0 f0).k ?_;rintro w' rfl)
  | (go_at_call 63;refine(aL.o _).k ?_;rintro w' rfl))
 refine O.k ?_;rintro w2 hS;have aI:=A1 (ST.o _ _ hS);go_wp2;refine LJ (f:=62) (args:=#[A5 sb]) (by simp) (by simp[go_sem]) ?_;refine(Lf Tryz.bC (Ac sb 0) .returning _ ?_ ?_).mono ?_
 ·obtain⟨-,aM,⟨aG,aO,a1,-⟩,-,-⟩:=aI.o;exact a1.Ah.c0
 ·obtain⟨-,aM,⟨aG,aO,a1,-⟩,-,-⟩:=aI.o;exact a1.Ah.fz 0
 rintro e u' I⟨rfl,rfl,rfl⟩;exact⟨_,OP rfl _ _ _,rfl,SFto.DK aI.o 0 _ λlv h=>h.s0 0⟩
def A2u(w:ga)(x:Nat)(n:Int)(Q:ga->Prop)(h:BA w sb mu (A5 ab) ld wc A9 ro lv)(O:A7 w x 0 (A5 sb))(d:Ag 68 #[A5 ab,A0 wc] w.drew (Am (A0 n) λw'=>Q w')):
 Ag 67 #[A5 x] w (Am (A0 n) λw'=>Q w'):=by
 have c2:=h.c2;have H:=h.cW;have z:=A1 d
 go_enter func67,ntmps67
 go_wp2;refine Cc (λw'=>A7 w' x 0 (A5 sb)/\A7 w' sb 2 (A5 ab)/\A7 w' sb 4 (A0 wc)) 8
  (BG [0,1,2,3,4,5,6,7] []) ⟨O,c2,H⟩ ?_
 iterate 8 refine Bq ?_
 refine C8 ?_;go_wp2_with (go_at_call 68;refine z.k ?_;rintro w2 E;have I:=A1 E);go_ret;exact⟨rfl,I.o⟩
def A3u(w:ga)(x:Nat)(n o:Int)(Q:ga->Prop)(h:BA w sb mu (A5 ab) ld wc A9 ro lv)(O:A7 w x 0 (A5 sb))(aE:Ag 71 #[A5 sb] w.drew (Am (A0 o) λw'=>A3 Ab w.drew w'))(Y:∀w2,A3 Ab w w2->Ag 70 #[A5 ab,A0 wc,A0 o] w2 (Am (A0 n) λw'=>Q w')):
 Ag 69 #[A5 x] w (Am (A0 n) λw'=>Q w'):=by
 have c2:=h.c2;have I:=h.cW;have aA:=A1 Y;have aB:Hid (Ag 71 #[A5 sb] w.drew (Am (A0 o) λw'=>(A7 w' x 0 (A5 sb)/\A7 w' sb 2 (A5 ab)/\A7 w' sb 4 (A0 wc))/\A3 Ab w w')):=by
  refine aE.k ?_;rintro w' z;have d:A3 Ab w w':=(A3.I _ w).ag.tr z;exact⟨rfl,⟨d.ao O,d.ao c2,d.ao I⟩,d⟩
 go_enter func69,ntmps69
 go_wp2;refine Cc (λw'=>A7 w' x 0 (A5 sb)/\A7 w' sb 2 (A5 ab)/\A7 w' sb 4 (A0 wc)) 10
  (BG [0,1,2,3,4,5,6,7,8,9] [9]) ⟨O,c2,I⟩ ?_
 iterate 9 refine Bq ?_
 refine Bx λK hK=>?_;go_simp;refine aB.k ?_;rintro w2⟨E,z⟩;refine hK _ _ E (λW=>?_);have H:=A1 (aA.o w2 z);refine C8 ?_;go_wp2_with (go_at_call 70;refine H.k ?_;rintro w3 W;have aD:=A1 W);go_ret;exact⟨rfl,aD.o⟩
def RQ(w:ga)(f g:Nat)(I:(f=24/\g=67)\/(f=25/\g=69))(n:Int)(Q:ga->Prop)(c0:w.cell? (Ac sb 0)=some (.int .i32 0))(f0:w.frozen? (Ac sb 0)=false)(hz:sb<w.heap.size)(aB:∀W,W=(w.alloc (.cells #[A5 sb] 36)).setCell (Ac sb 0) (.int .i32 1)->Ag 64 #[A5 sb,.func (Fn.func g) #[] #[A5 w.heap.size]] W (Am (A0 n) λw'=>w'.cell? (Ac sb 0)=some (.int .i32 1)/\w'.frozen? (Ac sb 0)=false/\Q w')):
 Ag f #[A5 sb] w (Am (A0 n) λw'=>∃w2,Q w2/\w'=w2.setCell (Ac sb 0) (.int .i32 0)):=by
 have hA:A3 Ab w (w.alloc (.cells #[A5 sb] 36)):=(A3.I _ w).al _;have E:=BL w (.cells #[A5 sb] 36);have a0:=hA.ao c0;have Y:(w.alloc (.cells #[A5 sb] 36)).frozen? (Ac sb 0)=false:=by
  have z:=hA.An sb hz (λh=>h);unfold World.frozen? at f0 ⊢;rw[z];exact f0
 have aA:=A1 (aB _ rfl);have H:(w.alloc (.cells #[A5 sb] 36)).cell? (Ac w.heap.size 0)=some (A5 sb):=Gu E;have d:w.heap.size≠sb:=by omega
 have b1:((w.alloc (.cells #[A5 sb] 36)).sC sb 0 (.int .i32 1)).cell? (Ac w.heap.size 0)=some (A5 sb):=by
  have O:=(A3.I (One sb) (w.alloc (.cells #[A5 sb] 36))).aq (b:=sb) rfl 0 (.int .i32 1);have z:=O.An w.heap.size (by simp) (λh=>d h);unfold World.cell? at H ⊢;rw[z];exact H
 generalize hw0:(w.alloc (.cells #[A5 sb] 36))=w0 at a0 Y aA H b1;rcases I with⟨rfl,rfl⟩|⟨rfl,rfl⟩
 focus go_enter_defers func24,ntmps24
 rotate_left
 focus go_enter_defers func25,ntmps25
 all_goals
  go_wp2_with (go_at_call 61;refine(LI Tryz.bC (Ac sb 0) _ a0 Y).k ?_;rintro w' rfl);refine aA.k ?_;rintro w2⟨u0,uf,hS⟩;have aD:=A1 hS;go_wp2;refine LJ (f:=62) (args:=#[A5 sb]) (by simp) (by simp[go_sem]) ?_;refine(Lf Tryz.bC (Ac sb 0) .returning _ ?_ ?_).mono ?_
  ·exact u0
  ·exact uf
  rintro e u' w''⟨rfl,rfl,rfl⟩;exact⟨_,OP rfl _ _ _,rfl,_,aD.o,rfl⟩
def RO(w:ga)(n:Int)(Q:ga->Prop)(c0:w.cell? (Ac sb 0)=some (.int .i32 0))(f0:w.frozen? (Ac sb 0)=false)(z:sb<w.heap.size)(h:∀d,d=(w.alloc (.cells #[A5 sb] 36)).setCell (Ac sb 0) (.int .i32 1)->Ag 64 #[A5 sb,.func (Fn.func 67) #[] #[A5 w.heap.size]] d (Am (A0 n) λw'=>w'.cell? (Ac sb 0)=some (.int .i32 1)/\w'.frozen? (Ac sb 0)=false/\Q w')):
 Ag 24 #[A5 sb] w (Am (A0 n) λw'=>∃w2,Q w2/\w'=w2.setCell (Ac sb 0) (.int .i32 0)):=
 RQ w _ _ (.inl ⟨rfl,rfl⟩) n Q c0 f0 z h
def Yg(w:ga)(n:Int)(Q:ga->Prop)(c0:w.cell? (Ac sb 0)=some (.int .i32 0))(f0:w.frozen? (Ac sb 0)=false)(z:sb<w.heap.size)(h:∀d,d=(w.alloc (.cells #[A5 sb] 36)).setCell (Ac sb 0) (.int .i32 1)->Ag 64 #[A5 sb,.func (Fn.func 69) #[] #[A5 w.heap.size]] d (Am (A0 n) λw'=>w'.cell? (Ac sb 0)=some (.int .i32 1)/\w'.frozen? (Ac sb 0)=false/\Q w')):
 Ag 25 #[A5 sb] w (Am (A0 n) λw'=>∃w2,Q w2/\w'=w2.setCell (Ac sb 0) (.int .i32 0)):=
 RQ w _ _ (.inr ⟨rfl,rfl⟩) n Q c0 f0 z h
def Yf(w:ga)(n:Int)(Q:ga->Prop)(c0:A7 w sb 0 (.int .i32 0))(f0:w.frozen? (Ac sb 0)=false)(c2:A7 (w.setCell (Ac sb 0) (.int .i32 1)) sb 2 (A5 ab))(H:Ag 64 #[A5 sb,.func (Fn.func 74) #[A5 ab] #[]] (w.setCell (Ac sb 0) (.int .i32 1)) (Am (A0 n) λw'=>A7 w' sb 0 (.int .i32 1)/\w'.frozen? (Ac sb 0)=false/\Q w')):
 Ag 31 #[A5 sb] w (Am (A0 n) λw'=>∃w2,Q w2/\w'=w2.setCell (Ac sb 0) (.int .i32 0)):=by
 have I:=A1 H
 go_enter_defers func31,ntmps31
 go_wp2_with (go_at_call 61;refine(LI Tryz.bC (Ac sb 0) _ c0 f0).k ?_;rintro w' rfl);refine I.k ?_;rintro w2⟨z,d,h⟩;have E:=A1 h;go_wp2;refine LJ (f:=62) (args:=#[A5 sb]) (by simp) (by simp[go_sem]) ?_;refine(Lf Tryz.bC (Ac sb 0) .returning _ ?_ ?_).mono ?_
 ·exact z
 ·exact d
 rintro e u' w''⟨rfl,rfl,rfl⟩;exact⟨_,OP rfl _ _ _,rfl,_,E.o,rfl⟩
end
end
section
open Go.MuLone Go.RowKit
section
variable{w w' w2:ga}{sb ab b B:Nat}{mu ld wc A9:Int}{ro:Bool}{lv:Nat->gd}{L L':Nat->gh Pt}{A A':Ar}{P P':PD}{F0 FT:Nat->Prop}{a c m N:Nat}
def SF.c0(h:SF w sb ab b mu ld wc A9 ro L A P FT):A7 w sb 0 (.int .i32 mu)/\w.frozen? (Ac sb 0)=false/\sb<w.heap.size/\A7 w sb 2 (A5 ab):=by
 obtain⟨lv,F0,q,-⟩:=h;exact⟨q.Ah.c0,q.Ah.fz 0,q.Ah.lt,q.Ah.c2⟩
def SF.b2(h:SF w sb ab b mu ld wc A9 ro L A P FT)(E:∀k,FT k->B<=k)(f:Nat)(args:gh gd)(n:Int)(Y:Lets B w)(I:∀z F0,AD z ab b A P F0->(∀k,F0 k->k<z.heap.size)->Lets B z->(∀k,F0 k->B<=k)->Calls Tryz.prog f args.toArray z λe w'=>e=.returned (.int .i64 n)/\Aq z F0 w' (λw' d=>AD w' ab b A' P' d)):
 Calls Tryz.prog f args.toArray w λe w'=>e=.returned (.int .i64 n)/\Aq w FT w' (λw' d=>SF w' sb ab b mu ld wc A9 ro L A' P' d):=by
 obtain⟨lv,F0,q,H⟩:=h;refine(I w F0 q.ar q.lt Y (λk O=>E k (H k (.inl O)))).k ?_;rintro w' W;exact⟨rfl,q.dZ H W⟩
def A2s(w:ga)(n:Int)(h:SF w sb ab b 0 ld wc A9 false L A P FT)(aD:∀k,FT k->k<w.heap.size)(hL:Lets B w)(O:∀k,FT k->B<=k)(aK:∀d F0,AD d ab b A P F0->(∀k,F0 k->k<d.heap.size)->Lets B d->(∀k,F0 k->B<=k)->Ag 68 #[A5 ab,A0 wc] d (Am (A0 n) λw'=>Aq d F0 w' (λw' z=>AD w' ab b A' P' z))):
 Ag 24 #[A5 sb] w (Am (A0 n) λw'=>Aq w FT w' (λw' z=>SF w' sb ab b 0 ld wc A9 (decide (n≠0)) L A' P' z)):=by
 obtain⟨c0,f0,hz,-⟩:=h.c0;have W:A3 Ab w (w.aC #[A5 sb] 36):=(A3.I _ w).al _;have aA:=BL w (.cells #[A5 sb] 36);have aE:=hL.1;refine(RO w n (λw2=>Aq w FT w2 (λw' z=>SF w' sb ab b 1 ld wc A9 (decide (n≠0)) L A' P' z)) c0 f0 hz (λd aH=>?_)).mono ?_
 ·have H:=(h.aJ W).bU;rw[<-aH]at H;obtain⟨Y,aF,s1,s2,s3⟩:=H;have aB:=(hL.aO W).an Y O;have b0:(w.aC #[A5 sb] 36).cell? (Ac w.heap.size 0)=some (A5 sb):=Gu aA;have hx:d.cell? (Ac w.heap.size 0)=some (A5 sb):=by
   have hb:=Y.An w.heap.size (by simp) (λhx=>Ge _ (aD _ hx));unfold World.cell? at b0 ⊢;rw[hb];exact b0
  have I:∀k,aF k->B<=k:=λk hk=>(s3 k hk).elim (O k) λh=>AJ aE (AJ W.Aj h)
  obtain⟨aG,aJ,q,hs⟩:=s1;have s1:SF d sb ab b 1 ld wc A9 false L A P aF:=⟨aG,aJ,q,hs⟩;have body:Ag 67 #[A5 w.heap.size] d (Am (A0 n) λw'=>Aq d aF w' (λw' z=>SF w' sb ab b 1 ld wc A9 false L A' P' z)):=by
   have kd:A3 Ab d d.drew:=(A3.I _ d).ag;refine A2u d w.heap.size n _ q.Ah hx ?_;refine((s1.aJ kd).b2 I _ [A5 ab,A0 wc] n (aB.aO kd) aK).k ?_;rintro w' E;exact⟨rfl,E.a8 kd⟩
  refine(A3R d w.heap.size n s1 body).k ?_;rintro w' E;have aI:=(Aq.a7 Y s3 E).a8 W;obtain⟨-,F3,q3,-,-⟩:=E;obtain⟨d0,df,-,-⟩:=q3.c0;exact⟨rfl,d0,df,aI⟩
 ·rintro e w'⟨rfl,w2,E,rfl⟩;exact⟨rfl,SFto.DK E 0 _ λlv h=>h.s0 0⟩
def A3t(w:ga)(n:Int)(h:SF w sb ab b 0 ld wc A9 false L A P FT)(aD:∀k,FT k->k<w.heap.size)(hL:Lets B w)(O:∀k,FT k->B<=k)(hl:1<=ld/\ld<=4611686018427387904)(hc:AT A9)(aK:∀d F0,AD d ab b A P F0->(∀k,F0 k->k<d.heap.size)->Lets B d->(∀k,F0 k->B<=k)->Ag 70 #[A5 ab,A0 wc,A0 (Bo A9 ld)] d (Am (A0 n) λw'=>Aq d F0 w' (λw' z=>AD w' ab b A' P' z))):
 Ag 25 #[A5 sb] w (Am (A0 n) λw'=>Aq w FT w' (λw' z=>SF w' sb ab b 0 ld wc A9 (decide (n≠0)) L A' P' z)):=by
 obtain⟨c0,f0,hz,-⟩:=h.c0;have W:A3 Ab w (w.aC #[A5 sb] 36):=(A3.I _ w).al _;have aA:=BL w (.cells #[A5 sb] 36);have aE:=hL.1;refine(Yg w n (λw2=>Aq w FT w2 (λw' z=>SF w' sb ab b 1 ld wc A9 (decide (n≠0)) L A' P' z)) c0 f0 hz (λd aH=>?_)).mono ?_
 ·have H:=(h.aJ W).bU;rw[<-aH]at H;obtain⟨Y,aF,s1,s2,s3⟩:=H;have aB:=(hL.aO W).an Y O;have b0:(w.aC #[A5 sb] 36).cell? (Ac w.heap.size 0)=some (A5 sb):=Gu aA;have hx:d.cell? (Ac w.heap.size 0)=some (A5 sb):=by
   have hb:=Y.An w.heap.size (by simp) (λhx=>Ge _ (aD _ hx));unfold World.cell? at b0 ⊢;rw[hb];exact b0
  have I:∀k,aF k->B<=k:=λk hk=>(s3 k hk).elim (O k) λh=>AJ aE (AJ W.Aj h)
  obtain⟨aG,aJ,q,hs⟩:=s1;have s1:SF d sb ab b 1 ld wc A9 false L A P aF:=⟨aG,aJ,q,hs⟩;have body:Ag 69 #[A5 w.heap.size] d (Am (A0 n) λw'=>Aq d aF w' (λw' z=>SF w' sb ab b 1 ld wc A9 false L A' P' z)):=by
   have kd:A3 Ab d d.drew:=(A3.I _ d).ag;refine A3u d w.heap.size n (Bo A9 ld) _ q.Ah hx (Pg d.drew sb A9 ld (q.Ah.Al kd λh=>h).c3 (q.Ah.Al kd λh=>h).cK hl hc) λw2 kk=>?_;refine((s1.aJ kk).b2 I _ [A5 ab,A0 wc,A0 (Bo A9 ld)] n (aB.aO kk) aK).k ?_;rintro w' E;exact⟨rfl,E.a8 kk⟩
  refine(A3S d w.heap.size n s1 body).k ?_;rintro w' E;have aI:=(Aq.a7 Y s3 E).a8 W;obtain⟨-,F3,q3,-,-⟩:=E;obtain⟨d0,df,-,-⟩:=q3.c0;exact⟨rfl,d0,df,aI⟩
 ·rintro e w'⟨rfl,w2,E,rfl⟩;exact⟨rfl,SFto.DK E 0 _ λlv h=>h.s0 0⟩
def XI(w:ga)(n:Int)(h:SF w sb ab b 0 ld wc A9 false L A P FT)(W:Lets B w)(E:∀k,FT k->B<=k)(aA:∀z F0,AD z ab b A P F0->(∀k,F0 k->k<z.heap.size)->Lets B z->(∀k,F0 k->B<=k)->Ag 74 #[A5 ab] z (Am (A0 n) λw'=>Aq z F0 w' (λw' d=>AD w' ab b A' P' d))):
 Ag 31 #[A5 sb] w (Am (A0 n) λw'=>Aq w FT w' (λw' d=>SF w' sb ab b 0 ld wc A9 (decide (n≠0)) L A' P' d)):=by
 obtain⟨c0,f0,-,-⟩:=h.c0;have I:=W.1;have⟨k1,F1,s1,s2,s3⟩:=h.bU;obtain⟨-,-,-,c2⟩:=s1.c0;refine(Yf (ab:=ab) w n (λw2=>Aq w FT w2 (λw' d=>SF w' sb ab b 1 ld wc A9 (decide (n≠0)) L A' P' d)) c0 f0 c2 ?_).mono ?_
 ·refine(A3P _ 0 n s1 (s1.b2 (λk hk=>(s3 k hk).elim (E k) λh=>AJ I h) _ [A5 ab] n (W.an k1 E) aA)).k ?_;rintro w' H;have O:=Aq.a7 k1 s3 H;obtain⟨-,F3,q3,-,-⟩:=H;obtain⟨d0,Y,-,-⟩:=q3.c0;exact⟨rfl,d0,Y,O⟩
 ·rintro e w'⟨rfl,w2,H,rfl⟩;exact⟨rfl,SFto.DK H 0 _ λlv h=>h.s0 0⟩
end
end
section
open Go.MuLone Go.RowKit
attribute [local go_sem ↓] Go.wp_at_zero Go.wp_at_succ CJ
def A0N(w:ga):Eh w (λ_=>.slice none 0 0) (λ_=>[]):=
 ⟨λ_ _=>CT _ _ _ _,λ_ _=>List.Pairwise.nil,λ_ _=>by simp,λ_ _ _ _ _ g h=>by simp[Value.ownBlock]at h⟩
def Gp(o:Int)(d:gh Pu):Nat->gh Pt:=d.foldl (λL p=>Fq L o p.1.toNat p.2.1 p.2.2) (λ_=>[])
def PE(o:Int)(d:gh Pu)(p:Pu):Gp o (d++[p])=Fq (Gp o d) o p.1.toNat p.2.1 p.2.2:=by simp[Gp]
def PF(o:Int)(k:Nat):∀n (d:gh Pu),d.length=n->(Gp o d k).length<=n
 | 0,d,h=>by obtain rfl:=GG.1 h;simp[Gp]
 | n+1,d,h=>by
  have z:d≠[]:=λe=>by subst e;simp at h
  have E:=(NX z).symm;rw[E,PE];have h1:=PF o k n d.dropLast (by rw[WR];omega);have h2:=PC (Gp o d.dropLast) o (d.getLast z).1.toNat (d.getLast z).2.1 (d.getLast z).2.2 k;omega
def A0J{P:PD}{n:Int}(h:Ar.aT P=.error n):n≠0:=by
 unfold Ar.aT at h;split at h
 ·cases h;decide
 ·split at h
  ·cases h;decide
  ·split at h
   ·cases h;decide
   ·split at h
    ·rename_i d;cases h;exact d
    ·cases h
section
variable{w w' w2:ga}{sb ab b B:Nat}{mu ld wc A9:Int}{ro:Bool}{lv:Nat->gd}{L L':Nat->gh Pt}{A A':Ar}{P P':PD}{F0 Ft FT:Nat->Prop}{a c m N:Nat}
def TK(w:ga)(ld wc A9:Int)(hl:1<=ld/\ld<=4611686018427387904)(hw:1<=wc/\wc<=4611686018427387904)(hc:AT A9)(aK:∀k,Ft k->k<w.heap.size)(aW:∀A d,Ar.aT P=.ok (A,d)->d.length<1099511627000/\∀p∈d,0<=p.1/\p.1<8)(a5:∀E,A3 Ab w E->Ag 59 #[A5 b] E λe w'=>
  (∃n,Ar.aT P=.error n/\e=.returned (.tuple #[.pointer none,.slice none 0 0,A0 n])/\A3 Ab E w')\/
  (∃A d ab v FT,Ar.aT P=.ok (A,d)/\e=.returned (.tuple #[A5 ab,v,A0 0])/\AX w' v d/\AD w' ab b A P FT/\(∀k,FT k->Ft k\/E.heap.size<=k)/\(∀k,FT k->k<w'.heap.size)/\(∀g,v.ownBlock=some g->¬FT g/\E.heap.size<=g)/\A3 Ab E w')):
 Ag 22 #[A5 b,.agg #[A0 ld,A0 wc],A0 A9] w λe w'=>
  (∃n,Ar.aT P=.error n/\e=.returned (.tuple #[.pointer none,A0 n])/\A3 Ab w w')\/
  (∃A d ab sb,Ar.aT P=.ok (A,d)/\e=.returned (.tuple #[A5 sb,A0 0])/\w.heap.size<=sb/\Aq w Ft w' (λw' H=>SF w' sb ab b 0 ld wc A9 false (Gp (Bo A9 ld) d) A P H)):=by
 have aS:Hid (∀w',Ag 58 #[A0 ld] w' λe aF=>e=.returned (.bool true)/\w'=aF):=λw'=>by
  have:=UK w' ld
  rwa [CM hl]at this
 have a0:Hid (∀w',Ag 58 #[A0 wc] w' λe aF=>e=.returned (.bool true)/\w'=aF):=λw'=>by
  have:=UK w' wc
  rwa [CM hw]at this
 have hA:=(A3.I Ab w).al (.cells #[A0 ld,A0 wc] 48);have aE:=BL w (.cells #[A0 ld,A0 wc] 48);generalize hw0:(w.alloc (.cells #[A0 ld,A0 wc] 48))=w0 at hA aE;have q0:A7 w0 w.heap.size 0 (A0 ld):=Gu aE;have q1:A7 w0 w.heap.size 1 (A0 wc):=Gu aE;have a4:=A1 (a5 w0 hA);have aP:=A1 hA;have HLT:=A1 aK;have aX:=A1 aW;have a9:=A1 hl;have bA:=A1 hc
 go_enter func22,ntmps22
 go_wp2_with (fail);refine(aS.o _).k ?_;rintro w' rfl;go_wp2_with (fail);refine(a0.o _).k ?_;rintro w' rfl;go_wp2_with (fail);refine a4.m ?_;rintro e E (⟨n,hO,rfl,O⟩|⟨A,d,ab,v,FT,hO,rfl,hp,ha,hf1,hf2,hf3,O⟩)
 ·have hn:=A0J hO;have hnb:(n !=0)=true:=by simpa using hn
  have aU:=A1 hO;have aL:=A1 (aP.o.tr O);go_wp2;go_ret2;exact .inl ⟨n,aU.o,rfl,aL.o⟩
 ·obtain⟨va,z,rfl,v1,v2,v3,-⟩:=B9 hp;unfold maxLen at v2;have r0:=O.ao q0;have r1:=O.ao q1;have⟨aN,aD⟩:=aX.o A d hO;have aL:Hid (A3 Ab w E):=aP.o.tr O;have a3:=A1 hp;have a1:=A1 ha;have aR:Hid (∀k,FT k->Ft k\/w.heap.size<=k):=λk h=>(hf1 k h).imp id (AJ aP.o.Aj)
  have aH:=A1 hf2;have a2:=A1 hf3;have aU:=A1 hO;have aV:=A1 aN;have aQ:=A1 aD;have aT:FH 0 (A5 ab) ld wc A9 false (λ_=>.slice none 0 0) = #[.int .i32 0,.int .u32 0,A5 ab,A0 ld,A0 wc,A0 A9,.bool false,.slice none 0 0,.slice none 0 0,.slice none 0 0,.slice none 0 0,.slice none 0 0,.slice none 0 0,.slice none 0 0,.slice none 0 0]:=rfl
  have ST:Hid (∀w2,w2=E.alloc (.cells (FH 0 (A5 ab) ld wc A9 false (λ_=>.slice none 0 0)) 111)->
   Aq w Ft w2 (λw' H=>SF w' E.heap.size ab b 0 ld wc A9 false (Gp (Bo A9 ld) (d.take 0)) A P H/\∀g,(Value.slice va d.length z).oB g->¬H g)/\AX w2 (.slice va d.length z) d):=λw2 e=>by
   subst e;have kA:A3 Ab E (E.alloc (.cells (FH 0 (A5 ab) ld wc A9 false (λ_=>.slice none 0 0)) 111)):=(A3.I _ E).al _;have hb:BA (E.alloc (.cells (FH 0 (A5 ab) ld wc A9 false (λ_=>.slice none 0 0)) 111)) E.heap.size 0 (A5 ab) ld wc A9 false (λ_=>.slice none 0 0):=BL E _;have nS:¬FT E.heap.size:=λh=>Ge _ (aH.o _ h);refine⟨⟨(aL.o.tr kA).aY,λk=>FT k\/Own E.heap.size (λ_=>.slice none 0 0) k,⟨⟨_,FT,⟨hb,A0N _,a1.o.aJ kA,λk O=>Bi (aH.o k O) kA.Aj,nS,λk O=>?_⟩,λ_ h=>h⟩,λg hg hx=>?_⟩,λk O=>?_,λk O=>?_⟩,Ax a3.o λg hg=>kA.An g (AF a3.o hg) (λh=>h)⟩
   ·obtain⟨i,_,hi⟩:=O;simp[Value.ownBlock]at hi
   ·rcases hx with hx|rfl|⟨i,_,hi⟩
    ·exact(a2.o g hg).1 hx
    ·have:=AF a3.o hg;omega
    ·simp[Value.ownBlock]at hi
   ·rcases O with O|rfl|⟨i,_,hi⟩
    ·exact Bi (aH.o k O) kA.Aj
    ·simp
    ·simp[Value.ownBlock]at hi
   ·rcases O with O|rfl|⟨i,_,hi⟩
    ·exact aR.o k O
    ·exact .inr aL.o.Aj
    ·simp[Value.ownBlock]at hi
  have aY:Hid (w.heap.size<=E.heap.size):=aL.o.Aj;rw[aT]at ST;have aZ:=A1 (ST.o _ rfl);go_wp2;go_loopw [43] (λiv wr=>∃k:Nat,k<=d.length/\iv=A0 k/\Hid (Aq w Ft wr (λw' H=>SF w' E.heap.size ab b 0 ld wc A9 false (Gp (Bo A9 ld) (d.take k)) A P H/\∀g,(Value.slice va d.length z).oB g->¬H g)/\AX wr (.slice va d.length z) d)) (λiv _=>d.length-(intOf iv).toNat)
  ·exact⟨0,by omega,by go_num,aZ.o⟩
  ·obtain⟨k,O,rfl,hI⟩:=hrel;obtain⟨aA,aJ⟩:∃aA,aA=wr:=⟨_,rfl⟩;subst aJ;have k0:=C3 k;by_cases aB:k<d.length
   ·(have kI:(k:Int)<(d.length:Int):=by omega);obtain⟨g,o,rfl,hgl,c1,c2,c3⟩:=HR.at hI.o.2.rd k aB;have aO:d.take (k+1)=d.take k++[d[k]'aB]:=Dy aB;have aD:=aQ.o _ (BU aB);have aN:=aV.o;generalize hp:(d[k]'aB)=p at c1 c2 c3 aO aD;have aG:Hid (∀w3,A3 Ab aA w3->Ag 60 #[A5 E.heap.size,DA p] w3 (Am (.tuple #[]) λw'=>(Aq w Ft w' (λw' H=>SF w' E.heap.size ab b 0 ld wc A9 false (Gp (Bo A9 ld) (d.take (k+1))) A P H/\∀W,(Value.slice (some (Ac g o)) d.length z).oB W->¬H W)/\AX w' (.slice (some (Ac g o)) d.length z) d))):=λw3 k3=>by
     have⟨⟨i1,F1,⟨i2,i3⟩,i4,i5⟩,i6⟩:=hI.o;have aI:∀j,j<8->(Gp (Bo A9 ld) (d.take k) j).length<1099511627000:=λj _=>by
      have:=PF (Bo A9 ld) j _ (d.take k) rfl;rw[BT]at this;omega
     refine(UJ w3 p (i2.aJ k3) aD aI a9.o bA.o).k ?_;rintro w'⟨q1,a8,q2,q3,q4⟩;have aM:A3 Ft w w3:=i1.b5 k3;have Y:∀W,(Value.slice (some (Ac g o)) d.length z).oB W->W<aA.heap.size:=λW I=>AF i6 I;refine⟨rfl,⟨aM.Av q1 λx hx aK=>(i5 x hx).resolve_right (by omega),a8,⟨by rw[aO,PE];exact q2,λW I hx=>?_⟩,q3,λx hx=>?_⟩,?_⟩
     ·rcases q4 W hx with hy|hy
      ·exact i3 W I hy
      ·have:=Y W I;have:=k3.Aj;omega
     ·rcases q4 x hx with hy|hy
      ·exact i5 x hy
      ·exact .inr (AJ aM.Aj hy)
     ·exact Ax (Ax i6 λW I=>k3.An W (Y W I) λh=>h) λW I=>q1.An W (Bi (Y W I) k3.Aj) (i3 W I)
    obtain⟨p1,p2,p3⟩:=p;unfold DA at aG;dsimp only at c1 c2 c3 aG;go_wp2_with (go_at_call 60;refine(aG.o _ ((A3.I _ aA).al _)).k ?_;rintro w3 hS;have a6:=A1 hS);go_roundw
    ·exact⟨k+1,by omega,by go_num,a6.o⟩
    ·simp[intOf];omega
   ·(obtain rfl:k=d.length:=by omega);have a7:=A1 hI.o.1;go_wp2;go_ret2;refine .inr ⟨A,d,ab,E.heap.size,aU.o,rfl,aY.o,?_⟩;have h:=a7.o;rw[Cf]at h;exact h.fq λ_ _ h=>h.1
end
end
section
open Go.RowKit
attribute [local go_sem ↓] Go.wp_at_zero Go.wp_at_succ


end
section
open Go.RowKit
abbrev Kind:=ga->(Nat->Prop)->Prop
def Ma(R:Kind):Prop:=∀(w w':ga) (S FT:Nat->Prop),R w FT->(∀k,FT k->k<w.heap.size)->A3 S w w'->(∀k,FT k->¬S k)->R w' FT
def KD(b:Nat)(P:PD):Kind:=λw FT=>Bf w b P FT
def KS(z ab b:Nat)(d E A9:Int)(h:Bool)(L:Nat->gh Pt)(A:Ar)(P:PD):Kind:=λw FT=>SF w z ab b 0 d E A9 h L A P FT
def KD.Hi(b:Nat)(P:PD):Ma (KD b P):=λ_ _ _ _ h z H E=>Bf.aN h λk d=>H.An k (z k d) (E k d)
def KS.Hi(Y ab b:Nat)(W E A9:Int)(z:Bool)(L:Nat->gh Pt)(A:Ar)(P:PD):Ma (KS Y ab b W E A9 z L A P):=λw w' S FT h hl hc O=>by
 obtain⟨lv,F0,I,d⟩:=h;exact⟨lv,F0,I.Al hc λk H=>O k (d k H),d⟩
def SF.dk{w:ga}{Y ab b:Nat}{O W E A9:Int}{z:Bool}{L:Nat->gh Pt}{A:Ar}{P:PD}{FT:Nat->Prop}(h:SF w Y ab b O W E A9 z L A P FT):∃Ft,Bf w b P Ft/\(∀k,Ft k->k<w.heap.size)/\∀k,Ft k->FT k:=by
 obtain⟨lv,F0,I,d⟩:=h;have⟨xb,jb,sv,ov,l,jo,Ft,h3,h4⟩:=I.ar;exact⟨Ft,h3.dk,h3.lt,λk H=>d k (.inl (h4 k (.inl H)))⟩
end
section
open Go.RowKit
attribute [local go_sem ↓] Go.wp_at_zero Go.wp_at_succ
def A3.br{S:Nat->Prop}{a b c:ga}(h:A3 Ab a b)(k:A3 S b c)(d:∀x,S x->a.heap.size<=x):A3 Ab a c:=h.Av k λx z hlt=>by have:=d x z;omega
end
end Go.Proofs.YtodcnkbblippnaaGreatDoor
