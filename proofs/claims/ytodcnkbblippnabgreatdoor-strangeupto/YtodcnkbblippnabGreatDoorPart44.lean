/- Part 44 of a proof: walks of the program. -/
import Derived.Test.YtodcnkbblippnabGreatDoorPart43
namespace Go.Proofs.YtodcnkbblippnabGreatDoor
set_option maxRecDepth 100000
set_option maxHeartbeats 32000000
set_option linter.defProp false
open Go.Proofs.Tryz
section
open Go.RowKit
def Db(t:Nat):Int×Int:=(t,700000*(t:Int))
def Uo{t z:Nat}(h:t<=z):HY (Db t) (Db z):=⟨by simp only[Db];omega,by simp only[Db];omega⟩
structure PB (P:PD) (t:Nat):Prop where
 BO:Fit P (3*t+20) (3000000*(t+1)) (40*t+1000)
 As:BG P (700000*(t+1))
 refQ:0<=P.D.n.Bt/\P.D.n.Bt<=t
 Mg:0<=P.D.n.fulls/\P.D.n.fulls<=t
def JZ(P:PD)(e:Int)(P':PD):Prop:=(e=0/\P'.D.n.Bt=P.D.n.Bt/\P'.D.n.fulls=P.D.n.fulls/\P'.D.n.Bf=P.D.n.Bf)\/
 (e=5/\P'.D.n.Bt=P.D.n.Bt+1/\P'.D.n.fulls=P.D.n.fulls)\/(e=6/\P'.D.n.Bt=P.D.n.Bt+1/\P'.D.n.fulls=P.D.n.fulls+1/\P'.D.n.Bf=P.D.n.Bf)
section
variable{bd:Int×Int}{P P':PD}{A:Ar}{sg cl:List (Int×List Pu)}{ol:Option (List Pu)}{puts:List Pu}{Ag:Nat}{o:Int}{t:Nat}
def CA.dM{e:Int}(h:CA P.D.n e P'.D.n)(z:PB P t)(ht:t<=330000)(he:e=0\/e=5\/e=6):JZ P e P':=by
 have h1:=z.refQ;have h2:=z.Mg;have H:wrap64 (P.D.n.Bt+1)=P.D.n.Bt+1:=by unfold wrap64;omega
 have I:wrap64 (P.D.n.fulls+1)=P.D.n.fulls+1:=by unfold wrap64;omega
 rcases h with⟨a,b,c,d,f⟩|⟨a,b,c⟩|⟨a,b,c,d⟩
 ·exact .inl ⟨by omega,c,d,f⟩
 ·exact .inr (.inl ⟨a,b.trans H,c⟩)
 ·exact .inr (.inr ⟨a,b.trans H,c.trans I,d⟩)
def JZ.refQ{e:Int}(h:JZ P e P')(z:PB P t):(0<=P'.D.n.Bt/\P'.D.n.Bt<=(t+1:Nat))/\0<=P'.D.n.fulls/\P'.D.n.fulls<=(t+1:Nat):=by
 have h1:=z.refQ;have h2:=z.Mg;rcases h with⟨_,b,c,_⟩|⟨_,b,c⟩|⟨_,b,c,_⟩<;>rw[b,c]<;>omega
def Xx{l:List Int}(z:l.Pairwise (· < ·)){t:Nat}(h:∀x∈l,1<=x/\x<=t):l.length<=t:=by
 have:=I9 (l':=(List.range t).map λ(i:Nat)=>(i:Int)+1) (z.imp λh=>Int.ne_of_lt h) λx H=>by
  have⟨h1,h2⟩:=h x H;exact C9.2 ⟨(x-1).toNat,K8.2 (by omega),by omega⟩
 simpa using this
structure US (A:Ar) (P:PD) (sg cl:List (Int×List Pu)) (ol:Option (List Pu)) (t:Nat):Prop where
 j:0<=A.j.A8/\A.j.A8<=t
 jn:isNum (A.j.A8+1)=true
 s:0<=A.A8/\A.A8<=700000*(t:Int)
 Al:A.j.Al.length<=t
 segs:A.ix.segs.length<=t/\sg.length<=t
 CK:(Cl sg cl ol).length<=t/\(Az cl++ol.getD []).length<=t
 Av:P.Av.length<=3*t+20
 Mq:A.Av.length<=2*t+1
def SI.bk(h:SI (Db t) A P puts Ag o sg cl ol)(hp:PB P t)(hl:puts.length<=t)(ht:t<=330000):US A P sg cl ol t:=by
 have h1:=h.B7.Eh.1;have W:=h.EK.2.1;have h3:=h.B7.DY.1;have X:=h.EK.2.2;simp only[Db]at W X;have hall:=h.CK.2.2;have h5:(Cl sg cl ol).length=(Az sg).length+(Az cl++ol.getD []).length:=by unfold Cl;rw[AX]
 have hseg:sg.length<=(Az sg).length:=by
  have:=IX (ws:=sg.map (·.2)) λw hw=>by
   obtain⟨x,z,rfl⟩:=C9.1 hw;exact h.EK.1.2.2 x z
  rw[H9]at this;unfold Az;rw[A22];exact this
 have hsl:A.ix.segs.length=sg.length:=by rw[<-h.B7.segs,H9]
 have H:A.j.Al.length<=t:=by
  refine Xx h.B7.H3 λx z=>?_;rw[h.B7.bR]at z;have hc:∀y∈cl,1<=y.1/\y.1<=t:=λy I=>by
   have q:=(h.B7.CQ y I).1;have Y:=q.1;unfold isNum at Y;simp at Y;have:=q.2;omega
  cases ol with
  | none=>
   obtain⟨y,I,rfl⟩:=C9.1 z;exact hc y I
  | some l=>
   unfold shut at z;rw[Ed]at z;rcases AU.1 z with z|z
   ·obtain⟨y,I,rfl⟩:=C9.1 z;exact hc y I
   ·simp at z;have q:=h.B7.AP.2.2.2.2;unfold isNum at q;simp at q;omega
 have O:P.Av.length<=3*t+20:=by rw[IZ];exact hp.BO.A6
 refine⟨⟨h1,W⟩,by unfold isNum;simp;omega,⟨h3,X⟩,H,⟨by omega,by omega⟩,⟨by omega,by omega⟩,O,?_⟩;unfold Ar.Av;simp only[AX,BM,H9];omega
end
structure St (t:Nat) (A:Ar) (P:PD) (puts:List Pu) (Ag:Nat) (o:Int) (ro:Bool):Prop where
 pb:PB P t
 di:DI (Db t) P puts Ag o
 rd:Reads (Db t) P puts o
 si:ro=false->∃sg cl ol,SI (Db t) A P puts Ag o sg cl ol/\A.AM.length<=3*t+20
 pu:∀p∈puts,B8 p
 Bi:puts.length<=t
 le:Ag<=puts.length
 Bf:P.D.n.Bf=false
section
variable{P P':PD}{A A':Ar}{puts:List Pu}{Ag:Nat}{o:Int}{t:Nat}{ro:Bool}
def St.I(h:St t A P puts Ag o false)(ht:t+1<=330000)(p:Pu)(X:B8 p):
 PB (A.I P p).2.2.2 (t+1)/\JZ P (A.I P p).2.1 (A.I P p).2.2.2/\DI (Db (t+1)) (A.I P p).2.2.2 (puts++[p]) Ag o/\
  ((A.I P p).1=true->Reads (Db (t+1)) (A.I P p).2.2.2 (puts++[p]) o)/\((A.I P p).1=false->DI (Db (t+1)) (A.I P p).2.2.2 puts Ag o/\Reads (Db (t+1)) (A.I P p).2.2.2 puts o)/\
  ((A.I P p).2.1=0->(A.I P p).1=true/\St (t+1) (A.I P p).2.2.1 (A.I P p).2.2.2 (puts++[p]) Ag o false)/\((A.I P p).2.1=6->P.D.n.B1-B6 P.F P.D.A6<200):=by
 have⟨sg,cl,ol,hS,hll⟩:=h.si rfl;have hN:=hS.bk h.pb h.Bi (by omega);have hj:=hN.j;have Y:=hS.bc (Uo (It t));have⟨a1,a2,a3,a4⟩:=Y.I (λ_=>⟨hN.jn,by simp only[Db];omega⟩) p X;have H:=hS.eP (λ_=>hN.jn) p X (by omega);have z:=(A2u A P p).dM h.pb (by omega) H;have⟨r1,r2⟩:=z.refQ h.pb;have W:PB (A.I P p).2.2.2 (t+1):=⟨(h.pb.BO.dj p).ae (by omega) (by omega) (by omega),(A2h h.pb.As p).ae (by omega),r1,r2⟩;have hlen:=h.Bi;have hle:=h.le;refine⟨W,z,a1,a2,a3,λe=>?_,λe=>A2i e⟩;have⟨b1,b2,b3⟩:=a4 e;refine⟨b1,W,a1,a2 b1,λ_=>⟨sg,cl,_,b2,by rw[b3];simp⟩,λq O=>?_,by simp;omega,by simp;omega,?_⟩
 ·rcases AU.1 O with O|O
  ·exact h.pu q O
  ·simp at O;subst O;exact X
 ·rcases z with⟨_,_,_,I⟩|⟨I,_⟩|⟨I,_⟩
  ·rw[I];exact h.Bf
  ·rw[e]at I;cases I
  ·rw[e]at I;cases I
def PB.ay{sg cl:List (Int×List Pu)}{ol:Option (List Pu)}(h:PB P t)(Y:GV P)(X:US A P sg cl ol t)(ht:t+1<=330000)(kept:List Int)(fresh:List (List Pu))(hk:kept.length<=t)(hf:fresh.length<=t)(I:∀l∈fresh,l.length<=t)(O:(A.ay P kept fresh).1=0\/(A.ay P kept fresh).1=5\/(A.ay P kept fresh).1=6):PB (A.ay P kept fresh).2.2 (t+1)/\JZ P (A.ay P kept fresh).1 (A.ay P kept fresh).2.2:=by
 have z:=(A2o A P kept fresh).dM h (by omega) O;have⟨r1,r2⟩:=z.refQ h;have hc:=X.Mq;have W:=h.BO.ay (A:=A) kept fresh;have⟨w,i⟩:=Xy (a:=3*(t+1)+20) (m:=40*(t+1)+1000) (A:=A) (h.BO.ae (a':=3*(t+1)+20) (m':=40*(t+1)+1000) (by omega) (Aq _) (by omega)).wd h.As Y kept fresh (by omega) (λl H=>by have:=I l H;omega) (by omega);exact⟨⟨(w.BO W).ae (Aq _) (by omega) (Aq _),i.ae (by omega),r1,r2⟩,z⟩
def St.aQ{Ay:Int}(h:St t A P puts Ag o false)(hw:BX (AE Ay))(ht:t+1<=330000):
 PB (A.aQ P Ay).2.2 (t+1)/\JZ P (A.aQ P Ay).1 (A.aQ P Ay).2.2/\DI (Db (t+1)) (A.aQ P Ay).2.2 puts Ag o/\Reads (Db (t+1)) (A.aQ P Ay).2.2 puts o/\
  ((A.aQ P Ay).1=0->St (t+1) (A.aQ P Ay).2.1 (A.aQ P Ay).2.2 puts puts.length o false):=by
 have⟨sg,cl,ol,hS,hll⟩:=h.si rfl;have I:=hS.bk h.pb h.Bi (by omega);have⟨n1,n2⟩:=I.CK;have⟨n3,n4⟩:=I.segs;have n5:=I.Av;have n6:=I.Al;have n7:=I.s;have aA:=hS.bc (Uo (It t));have⟨⟨a1,a2⟩,a3⟩:=aA.aQ hw I.jn n1 (by omega) (by omega) (by simp only[Db];omega) (by omega);have W:=hS.fC hw I.jn n1 (by omega) (by omega) (by omega);have hp:=hS.B7.puts hS.DG;have X:=JK hw (Az cl++ol.getD []);have hfl:=IX X.ne;have hfl2:=X.Bi;have e:A.aQ P Ay=A.ay P A.ix.segs (Dd Ay (Az cl++ol.getD [])):=by
  unfold Ar.aQ;rw[hp,Ae (by simp)]
 have H:=h.pb.ay (A:=A) h.di.bq I ht A.ix.segs (Dd Ay (Az cl++ol.getD [])) n3 (by omega) (λl hl=>by
  have:=(A2Q hl).length_le
  omega) (by rw[<-e];exact W)
 rw[<-e]at H;obtain⟨Y,z⟩:=H;have hlen:=h.Bi;refine⟨Y,z,a1,a2,λe0=>?_⟩;have⟨sg',b1,b2,_⟩:=a3 e0;refine⟨Y,b1.di,a2,λ_=>⟨sg',[],none,b1,by rw[b2];simp⟩,h.pu,by omega,Aq _,?_⟩;rcases z with⟨_,_,_,O⟩|⟨O,_⟩|⟨O,_⟩
 ·rw[O];exact h.Bf
 ·rw[e0]at O;cases O
 ·rw[e0]at O;cases O
def St.aR(h:PB P t)(O:DI (Db t) P puts Ag o)(W:Reads (Db t) P puts o)(X:∀p∈puts,B8 p)(Y:puts.length<=t)(H:Ag<=puts.length)(z:P.D.n.Bf=false)(ht:t<=330000):
 ∃A I,Ar.aR P=.ok (A,I)/\St t A P puts Ag o false/\Ci o I puts/\(∀p∈I,B8 p):=by
 have⟨A',sg,cl,h1,h2,h3,h4⟩:=SI.aR O (by simp only[Db];omega) W H (by omega);refine⟨A',_,h1,⟨h,O,W,λ_=>⟨sg,cl,none,h2,?_⟩,X,Y,H,z⟩,h3,λp h=>?_⟩
 ·rw[h4];have h5:(A'.a1 P).length<=P.Av.length:=MR _ _;have h6:P.Av.length<=3*t+20:=by rw[IZ];exact h.BO.A6
  omega
 ·rcases AU.1 h with h|h
  ·exact h2.B7.ee p h
  ·exact h2.B7.cf p h
def PB.b2(h:PB P t)(n:DN)(I:n.B1=P.D.n.B1)(z:0<=n.BA/\n.BA<=9223372036854775807)(O:n.Bt=P.D.n.Bt)(H:n.fulls=P.D.n.fulls):PB ⟨{P.D with n:=n},P.F⟩ t:=
 ⟨⟨h.BO.A6,h.BO.AK,h.BO.Fu,h.BO.An,h.BO.Bi,by rw[I];exact h.BO.B1,z⟩,h.As,by rw[O];exact h.refQ,by rw[H];exact h.Mg⟩
def Hw(t:Nat)(P:PD)(puts:List Pu)(Ag:Nat)(o:Int)(z:Bool):Prop:=
 PB P t/\DI (Db t) P puts Ag o/\(∀p∈puts,B8 p)/\puts.length<=t/\Ag<=puts.length/\
  (P.D.n.Bf=true\/∃h,Ag<=h/\h<=puts.length/\(z=false->h=puts.length)/\∀H n,o<=H->h<=n->n<=puts.length->Ci H (puts.take h) (puts.take n)->DI (Db t) P (puts.take n) Ag H/\Reads (Db t) P (puts.take n) H)
def A1r(h:PB P t)(hd:DI (Db t) P puts Ag o)(H:Int)(z:List Int):PB (P.aW H z) t:=by
 have O:=U3 P.D H;generalize aA:G0 P.D H=s at O;have X:(P.aW H z).D.A6=s:=by unfold PD.aW Fq;dsimp only;exact aA
 have aF:(P.aW H z).D.AK=s:=by unfold PD.aW Fq;dsimp only;exact aA
 have aB:(P.aW H z).D.Ap=[]:=rfl;have Y:∀e∈s,P.D.As e.2:=λe I=>by
  rcases BF.1 O with O|O
  ·rw[O]at I;exact .inr (.inl ⟨e,I,rfl⟩)
  ·exact .inr (.inr ⟨s,O,e,I,rfl⟩)
 have W:∀f,(P.aW H z).D.As f->P.D.As f/\∃e∈s,e.2=f:=λf hf=>by
  rcases hf with⟨e,I,rfl⟩|⟨e,I,rfl⟩|⟨l,hl,_⟩
  ·rw[X]at I;exact⟨Y e I,e,I,rfl⟩
  ·rw[aF]at I;exact⟨Y e I,e,I,rfl⟩
  ·rw[aB]at hl;cases hl
 have aD:s.length<=3*t+20:=by
  rcases BF.1 O with O|O
  ·rw[O];exact h.BO.AK
  ·exact h.BO.Fu s O
 have hr:∀e∈s,0<=(P.F e.2).2/\(P.F e.2).2<=(P.F e.2).1.length:=λe I=>by
  have⟨ix,sg,cl,lo,nb,hL,_⟩:=hd.E3 s O;have hv:vw P.F s e.1.data.toList=some (P.F e.2):=by
   unfold vw;rw[Fm];cases hk:lookup s e.1 with
   | none=>exact absurd rfl (IP.1 hk e I)
   | some g=>
    have⟨i,hi,e1⟩:=Ee (Ea hk);have⟨j,hj,e2⟩:=Ee I;have:i=j:=JB (hd.Cg s O) (by simpa using hi) (by simpa using hj) (by simp[e1,e2]);subst this;rw[e1]at e2;rw[<-e2];rfl
  exact hL.E9 _ _ hv
 refine⟨⟨by rw[X];exact aD,by rw[aF];exact aD,λl hl=>(by rw[aB]at hl;cases hl),(by rw[aB];simp),λf hf=>?_,h.BO.B1,h.BO.BA⟩,λf hf=>h.As f (W f hf).1,h.refQ,h.Mg⟩;obtain⟨h1,e,I,rfl⟩:=W f hf;have hF:(P.aW H z).F=DU s z (dList s) P.F s.length:=by unfold PD.aW Fq;dsimp only;rw[aA]
 rw[hF];have aE:=h.BO.Bi _ h1;rcases TZ s z (dList s) P.F hr s.length e I with⟨q,_⟩|⟨x,q⟩
 ·rw[q];exact aE
 ·rw[q];have⟨j,_,_,j3⟩:=OM (hr e I) x;rw[j3];simp only[BU];omega
def Hw.aW(O:PB P t)(I:DI (Db t) P puts Ag o)(X:∀p∈puts,B8 p)(Y:puts.length<=t)(H:Ag<=puts.length)(ht:t<=330000)(z:Int)(h:List Int):
 Hw t (P.aW z h) puts Ag o true/\(P.aW z h).D.n.Bf=false:=by
 have⟨h1,n,h2,h3,h4⟩:=I.aW z h (by omega);exact⟨⟨A1r O I z h,h1,X,Y,H,.inr ⟨n,h2,h3,λe=>(by cases e),λo' m h5 _ _ W=>h4 o' _ h5 W⟩⟩,rfl⟩
def Hw.b2{z:Bool}(h:Hw t P puts Ag o z)(n:DN)(h1:n.B1=P.D.n.B1)(W:0<=n.BA/\n.BA<=9223372036854775807)(h3:n.Bt=P.D.n.Bt)(Y:n.fulls=P.D.n.fulls)(h5:n.Bf=P.D.n.Bf):Hw t ⟨{P.D with n:=n},P.F⟩ puts Ag o z:=by
 obtain⟨g1,H,g3,g4,g5,I⟩:=h;refine⟨g1.b2 n h1 W h3 Y,⟨H.E3,H.As,H.Cg,H.CH⟩,g3,g4,g5,?_⟩;rcases I with I|⟨n0,O,k2,X,k4⟩
 ·exact .inl (h5.trans I)
 ·refine .inr ⟨n0,O,k2,X,λo2 n2 q1 q2 q3 q4=>?_⟩;have⟨d,r⟩:=k4 o2 n2 q1 q2 q3 q4;exact⟨⟨d.E3,d.As,d.Cg,d.CH⟩,r.az λ_=>rfl⟩
end
end

def hollow(room:Int):PD:=⟨⟨[],[],[],Io room⟩,λ_=>([],0)⟩
section
variable{room:Int}{o:Int}
def Tz:CW (Db 0) (vw (hollow room).F []) ⟨1,[]⟩ [] [] none:=by
 have z:∀nm,vw (hollow room).F [] nm=none:=λnm=>rfl;refine⟨⟨⟨by decide,by simp,by decide⟩,by simp[Db],by simp⟩,.inl ⟨rfl,rfl⟩,rfl,by simp,by simp,trivial,?_,by simp,?_,?_,?_⟩
 ·intro n l h;cases h
 ·intro n _ _ h;exact absurd (z _) h
 ·intro nm h;exact absurd (z nm) h
 ·intro nm c h;rw[z]at h;cases h
def Ou(f:Nat):¬(hollow room).D.As f:=λh=>by
 simp[DS.As,hollow,D9]at h
def A0E(hr : -4611686018427387904<=room/\room<=9223372036854775807):PB (hollow room) 0:=by
 refine⟨⟨C8 _,C8 _,?_,C8 _,λf h=>absurd h (Ou f),hr,⟨Ha _,by simp[hollow,Io]⟩⟩,λf h=>absurd h (Ou f),⟨Ha _,Ha _⟩,⟨Ha _,Ha _⟩⟩;intro l z;cases z
def TA:DI (Db 0) (hollow room) [] 0 o:=by
 have z:∀s∈Br (hollow room),s=[]:=λs z=>by simpa[Br,hollow] using z
 refine⟨λs h=>?_,λs h=>?_,λs h=>?_,by simp[Br,hollow]⟩
 ·rw[z s h];refine⟨⟨1,[]⟩,[],[],none,0,Tz,Aq _,Ci.C _ _,?_,λ_=>Aq _⟩;intro n l e;cases e
 ·rw[z s h];exact List.Pairwise.nil
 ·rw[z s h];exact List.Pairwise.nil
def A0D:Reads (Db 0) (hollow room) [] o:=Whole.bl (P:=hollow room) ⟨⟨1,[]⟩,[],[],none,Tz,C8 _,Ci.C _ _⟩
def A0G(hr : -4611686018427387904<=room/\room<=9223372036854775807):Hw 0 (hollow room) [] 0 o false:=by
 refine⟨A0E hr,TA,?_,Aq _,Aq _,.inr ⟨0,Aq _,Aq _,λ_=>rfl,?_⟩⟩
 ·intro p h;cases h
 ·intro o' n _ _ z _;obtain rfl:n=0:=by simpa using z
  exact⟨TA,A0D⟩
def A0H(room:Int)(nm:Bs):(hollow room).bs nm=none:=rfl
def A0F{room:Int}{N R:Nat}(hN:N<=4611686018427387904)(hR:(R:Int)<=room):Cm (hollow room) N R:=
 ⟨rfl,rfl,rfl,by simp only[hollow,Io];omega,by simp only[hollow,Io,B6];omega,by simp[hollow],by simp[hollow]⟩
end
section
open Go.RowKit
def Qq(g:Bs->Nat):∀(L M:List Bs),L.Nodup->(∀x∈L,x∈M)->(L.map g).sum<=(M.map g).sum
 | [],_,_,_=>C8 _
 | x::r,M,hn,hs=>by
  have H:=List.perm_cons_erase (hs x (Bp ..));have z:=J8.1 hn;have ih:=Qq g r (M.erase x) z.2 λy h=>(V5 λe=>z.1 (by rw[<-e];exact h)).2 (hs y (Bn _ h))
  have e:(M.map g).sum=g x+((M.erase x).map g).sum:=by
   have:=(H.map g).sum_nat;simpa using this
  rw[F8,K6,e];omega
def SY:∀ {es:List AI} {e:AI},(es.map (·.1)).Nodup->e∈es->lookup es e.1=some e.2
 | x::r,e,hn,h=>by
  have H:=J8.1 hn;unfold lookup;rcases BF.1 h with rfl|h
  ·simp
  ·have z:x.1≠e.1:=λq=>H.1 (C9.2 ⟨e,h,q.symm⟩);simp only[z,C4];exact SY H.2 h
def Qa(F:Nat->FC):∀es:List AI,B6 F es=(es.map λe=>(F e.2).1.length).sum
 | []=>rfl
 | e::r=>by
  rw[F8,K6,<-Qa F r];simp[B6]
section
variable{P:PD}{A:Ar}{ps pl:List Pu}{sg:List (Int×List Pu)}{N R a c m:Nat}
def PD.sz(P:PD)(nm:Bs):Nat:=((P.bs nm).getD []).length
def Cm.eA(h:Cm P N R)(L:List Bs)(W:L.Nodup)(I:∀x∈L,P.bs x≠none):(L.map P.sz).sum<=B6 P.F P.D.A6:=by
 refine AH (Qq P.sz L P.Av W λx O=>EF.2 (I x O)) ?_;have z:(P.Av.map P.sz).sum=(P.D.A6.map λe=>P.sz e.1.data.toList).sum:=by
  unfold PD.Av;have:=((JR P.D.A6).map λb=>P.sz b.data.toList).sum_nat;simpa[List.map_map,Function.comp_def] using this
 rw[z,Qa];refine Nat.le_of_eq (E5 List.sum (K9 λe H=>?_));unfold PD.sz PD.bs PD.fl;rw[Fm,SY h.Cg H];rfl
def Ri(nm:Bs):(P.aT nm).1.length<=P.sz nm:=by
 unfold PD.aT;rw[GR];unfold PD.sz;cases hb:P.bs nm with
 | none=>simp
 | some x=>
  dsimp only
  rw[Ae (by simp)];unfold Hc;split
  ·rename_i h;split at h
   ·cases h
   ·split at h
    ·cases h;simp
    ·cases h
  ·simp
def Tj:∀(k:Nat) (l:Bs),(Fo k l).length*8<=l.length
 | 0,_=>by simp[Fo]
 | k+1,l=>by
  unfold Fo;split
  ·simp
  ·have:=Tj k (l.drop 8);rw[CM]at this;simp only[BM];omega
def Om{ix:Ix}(h:P.CV=some ix):ix.segs.Pairwise (· < ·)/\ix.segs.length*8<=P.sz AF:=by
 have hr:=@Ri P AF;unfold PD.CV indexOf at h;split at h
 ·cases h;exact⟨List.Pairwise.nil,C8 _⟩
 ·split at h
  ·cases h
  ·split at h
   ·cases h
   ·split at h
    ·rename_i z;cases h;have:=Tj (P.aT AF).1.length (P.aT AF).1;refine⟨IH.1 z,?_⟩;dsimp only
     rw[List.length_tail];unfold Eo;omega
    ·cases h
def QP:∀(k:Nat) (l:Bs) (r:List Pu×Bs),DL k l=some r->r.1.length*17<=l.length
 | 0,l,r,h=>by cases h;simp
 | k+1,l,r,h=>by
  unfold DL at h;split at h
  ·cases h;simp
  ·split at h
   ·cases hx:DL k (l.drop 17) with
    | none=>rw[hx]at h;cases h
    | some q=>
     rw[hx]at h;cases h;have:=QP k (l.drop 17) q hx;rw[CM]at this;simp only[BM];omega
   ·cases h
def Xa{n:Int}{l:List Pu}(h:P.BT n=some l):l.length*17<=P.sz (Aw n)/\P.bs (Aw n)≠none:=by
 have z:=@Ri P (Aw n);unfold PD.BT Hz at h;split at h
 ·cases h
 ·rename_i I;refine⟨?_,λH=>I (by unfold PD.aT;rw[GR,H];simp)⟩;cases hx:DL (P.aT (Aw n)).1.length (P.aT (Aw n)).1 with
  | none=>rw[hx]at h;cases h
  | some q=>
   rw[hx]at h;dsimp only at h;split at h
   ·cases h;exact AH (QP _ _ q hx) z
   ·cases h
def No:∀(H:List Int) (l:List (Int×List Pu)),P.segs H=some l->(l.flatMap (·.2)).length*17<=((H.map Aw).map P.sz).sum/\∀n∈H,P.bs (Aw n)≠none
 | [],l,h=>by cases h;exact⟨by simp,λn W=>by cases W⟩
 | n::r,l,h=>by
  unfold PD.segs at h;cases hs:P.BT n with
  | none=>rw[hs]at h;cases h
  | some x=>
   rw[hs]at h;cases hr:P.segs r with
   | none=>rw[hr]at h;cases h
   | some y=>
    rw[hr]at h;cases h;obtain⟨i1,I⟩:=No r y hr;obtain⟨j1,O⟩:=Xa hs;simp only[Kc,AX,F8,K6];refine⟨by omega,λk z=>?_⟩;rcases BF.1 z with rfl|z
    ·exact O
    ·exact I k z
def Rp:∀(k s:Nat) (l:Bs),(Dh k s l).1.length*21<=l.length
 | 0,_,_=>by simp[Dh]
 | k+1,s,l=>by
  unfold Dh;split
  ·simp
  ·split
   ·have:=Rp k (AV s (l.take 17)) (l.drop 21);rw[CM]at this;simp only[BM];omega
   ·simp
def Y6(s:Nat)(ahead:Int)(l:Bs):(Ew s ahead l).1.length*17<=l.length:=by
 unfold Ew;split
 ·simp
 ·split
  ·split
   ·have:=Rp l.length (AV s (l.take 8)) (l.drop 12);rw[CM]at this;dsimp only
    omega
   ·simp
  ·simp
def Rv:∀(l:List Int) (z:List Pu),(∀n∈l,P.bs (Af n)≠none)->(P.aU l z).1.length*17<=z.length*17+((l.map Af).map P.sz).sum
 | [],z,_=>by simp[PD.aU]
 | n::r,z,h=>by
  unfold PD.aU;cases hb:P.bs (Af n) with
  | none=>exact absurd hb (h n (Bp ..))
  | some x=>
   rw[IT hb];split
   ·simp
   ·refine AH (Rv r _ λk H=>h k (Bn _ H)) ?_;have:=Y6 (AB (Af n)) z.length x;(have e:P.sz (Af n)=x.length:=by unfold PD.sz;rw[hb];rfl);simp only[AX,F8,K6];omega
def Ec.Am(h:Ec P A sg pl)(hc:Cm P N R):(sg.flatMap (·.2)++pl).length*17<=B6 P.F P.D.A6:=by
 have I:=h.bk;obtain⟨s1,s2⟩:=No _ _ h.segs;have hl:∀n∈A.j.Al,P.bs (Af n)≠none:=λn H=>(JF (first:=A.ix.AW) (by rw[<-h.Al];exact H)).2.2
 have l1:=Rv A.j.Al [] hl;have l2:(P.aU A.j.Al []).1=pl:=E5 Prod.fst h.puts;rw[l2]at l1;have X:(A.ix.segs.map Aw++A.j.Al.map Af).Nodup:=by
  refine GD.2 ⟨?_,?_,λx z y hy e=>?_⟩
  ·refine Lf.2 ((Om h.CV).1.imp_of_mem λ{a b} Y W O e=>?_);have:=Sj (by have:=I.2.2.2.1 a Y;omega) (by have:=I.2.2.2.1 b W;omega) e;omega
  ·refine Lf.2 ((show A.j.Al.Pairwise (· < ·) by rw[h.Al];exact O5 _ hc.up).imp_of_mem λ{a b} Y W O e=>?_);have h1:=I.2.2.2.2 a Y;have h2:=I.2.2.2.2 b W;have:=FJ (by unfold isNum;simp;omega) (by unfold isNum;simp;omega) e;omega
  ·obtain⟨n,_,rfl⟩:=C9.1 z;obtain⟨k,_,rfl⟩:=C9.1 hy;exact EY k n e.symm
 have:=hc.eA _ X λx z=>by
  rcases AU.1 z with z|z
  ·obtain⟨n,H,rfl⟩:=C9.1 z;exact s2 n H
  ·obtain⟨n,H,rfl⟩:=C9.1 z;exact hl n H
 rw[Ed,List.sum_append]at this;rw[AX];simp only[Gk]at l1;omega
end

section
variable{P:PD}{A:Ar}{ps pl:List Pu}{sg:List (Int×List Pu)}{N R i T:Nat}
def A1k(nm:ByteArray):(P.af nm).2.D.n.B1=P.D.n.B1:=by
 unfold PD.af Cy;dsimp only
 split
 ·rfl
 ·split
  ·exact(J4 _).1
  ·exact(J4 _).1
def A2j(nm:ByteArray)(l:Bs):(P.al nm l).2.D.n.B1=P.D.n.B1:=by
 unfold PD.al Bj;cases lookup P.D.A6 nm with
 | none=>rfl
 | some f=>
  dsimp only
  split
  ·unfold BI;split<;>(try dsimp only)<;>(try split)<;>exact(J4 _).1
  ·split
   ·unfold BI;split<;>(try dsimp only)<;>(try split)<;>exact(J4 _).1
   ·exact(J4 _).1
structure G2 (P:PD) (i T:Nat):Prop where
 cm:Cm P (1000000000000-2*i) (1152921504606846976-T)
 B1:P.D.n.B1=1152921504606846976
 BO:Fit P i i T
 NZ:P.bs []=none
 Kq:∀nm,P.bs nm≠none->nm.length<=T
def G2.cg(h:G2 P i T)(hT:T<=1048576):B6 P.F P.D.A6<=T:=by
 have z:=h.cm.B1;rw[h.B1]at z;omega
def G2.hollow:G2 (Go.Proofs.YtodcnkbblippnabGreatDoor.hollow 1152921504606846976) 0 0:=
 ⟨A0F (by omega) (by omega),rfl,⟨Aq _,Aq _,λl H=>(by cases H),Aq _,λf z=>absurd z (Ou f),⟨by decide,by decide⟩,⟨by decide,by decide⟩⟩,rfl,λnm h=>absurd (A0H _ nm) h⟩
def PD.B7(P:PD)(nm l:Bs):PD:=((P.af (A9 nm)).2.al (A9 nm) l).2
def G2.B7(h:G2 P i T)(nm l:Bs)(hi:i+1<=400000)(hT:T+nm.length+l.length<=1048576):G2 (P.B7 nm l) (i+1) (T+nm.length+l.length):=by
 have O:Cm P (1000000000000-2*(i+1)+2) (1152921504606846976-(T+nm.length+l.length)+l.length+nm.length):=h.cm.ae (by omega) (by omega);have I:Fit (P.B7 nm l) (i+1) (i+1) (T+nm.length+l.length):=((h.BO.af (A9 nm)).al (A9 nm) l).ae (Aq _) (Aq _) (by omega);have z:(P.B7 nm l).D.n.B1=1152921504606846976:=by unfold PD.B7;rw[A2j,A1k,h.B1]
 have key:∃c,(nm=[]/\(P.af (A9 nm)).2.bs nm=none\/(P.af (A9 nm)).2.bs nm=some c)/\Cm (P.af (A9 nm)).2 (1000000000000-2*(i+1)+1) (1152921504606846976-(T+nm.length+l.length)+l.length)/\∀m,m≠nm->(P.af (A9 nm)).2.bs m=P.bs m:=by
  have same:∀(hx:A9 nm=ByteArray.empty\/B4 P.D.A6 (A9 nm)≥0),Cm (P.af (A9 nm)).2 (1000000000000-2*(i+1)+1) (1152921504606846976-(T+nm.length+l.length)+l.length)/\∀m,(P.af (A9 nm)).2.bs m=P.bs m:=λhx=>by
   have aA:∀e∈P.D.A6,e.2≠P.D.AS:=λe he hf=>P.D.b3 (.inl ⟨e,he,hf⟩);(have e:(P.af (A9 nm)).2=⟨P.D,upd P.F P.D.AS ([],0)⟩:=by unfold PD.af Cy;rw[Ah hx]);rw[e];refine⟨⟨O.Bf,O.CP,O.Dn,by have:=O.Bw;dsimp only;omega,?_,O.As,O.Cg⟩,λm=>?_⟩
   ·have:=O.B1;dsimp only
    rw[N9 _ _ _ _ aA];omega
   ·unfold PD.bs PD.fl;dsimp only
    cases hk:lookup P.D.A6 (A9 m) with
    | none=>rfl
    | some f=>
     have:f≠P.D.AS:=aA _ (Ea hk);simp[upd,this]
  by_cases hn:nm=[]
  ·subst hn;obtain⟨s1,s2⟩:=same (.inl rfl);exact⟨[],.inl ⟨rfl,by rw[s2];exact h.NZ⟩,s1,λm _=>s2 m⟩
  ·cases H:P.bs nm with
   | none=>
    obtain⟨-,a2,a3⟩:=Cm.cA (N:=1000000000000-2*(i+1)+1) (O.ae (by omega) (Aq _)) H hn;exact⟨[],.inr (by rw[a3,Ah rfl]),a2.ae (Aq _) (by omega),λm hm=>by rw[a3,Ae hm]⟩
   | some c=>
    have hx:B4 P.D.A6 (A9 nm)≥0:=by
     rcases Kg (B4 P.D.A6 (A9 nm)) 0 with h0|h0
     ·have:=(Ik P.D.A6 (A9 nm)).1 h0;rw[GQ.2 (KR.2 this)]at H;cases H
     ·exact h0
    obtain⟨s1,s2⟩:=same (.inr hx);exact⟨c,.inr (by rw[s2];exact H),s1,λm _=>s2 m⟩
 obtain⟨c,W,k2,k3⟩:=key;rcases W with⟨rfl,H⟩|H
 ·have e:P.B7 [] l=(P.af (A9 [])).2:=by
   unfold PD.B7 PD.al Bj;rw[KR.1 (GQ.1 H)]
  rw[e]at I z ⊢;refine⟨k2.ae (by omega) (by simp only[Gk];omega),z,I,H,λm hm=>?_⟩;by_cases Y:m=[]
  ·subst Y;exact C8 _
  ·rw[k3 m Y]at hm;have:=h.Kq m hm;omega
 ·obtain⟨-,b2,b3⟩:=Cm.dT (N:=1000000000000-2*(i+1)) k2 H l (by omega);refine⟨b2.ae (Aq _) (by omega),z,I,?_,λm hm=>?_⟩
  ·show (P.B7 nm l).bs []=none;unfold PD.B7;rw[b3];by_cases hn:[]=nm
   ·subst hn;exfalso;(have h0:(P.af (A9 [])).2=⟨P.D,upd P.F P.D.AS ([],0)⟩:=by unfold PD.af Cy;rw[Ah (.inl rfl)]);rw[h0]at H;have h1:=h.NZ;rw[GQ,KR]at h1;have h2:(⟨P.D,upd P.F P.D.AS ([],0)⟩:PD).bs []=none:=GQ.2 (KR.2 h1);rw[h2]at H;cases H
   ·rw[Ae hn,k3 _ hn];exact h.NZ
  ·have X:((P.af (A9 nm)).2.al (A9 nm) l).2.bs m≠none:=hm;rw[b3]at X;by_cases Y:m=nm
   ·subst Y;omega
   ·rw[Ae Y,k3 m Y]at X;have:=h.Kq m X;omega
def RE{l:Bs}(h:(l.headD 0).toNat<8):B8 (Jt l):=by
 refine⟨⟨?_,?_⟩,Oh _,Oh _⟩<;>(unfold Jt;dsimp only;omega)
def QN:∀(k:Nat) (l:Bs) (r:List Pu×Bs),DL k l=some r->∀p∈r.1,B8 p
 | 0,l,r,h,p,z=>by cases h;cases z
 | k+1,l,r,h,p,z=>by
  unfold DL at h;split at h
  ·cases h;cases z
  ·split at h
   ·rename_i H;cases hx:DL k (l.drop 17) with
    | none=>rw[hx]at h;cases h
    | some q=>
     rw[hx]at h;cases h;rcases BF.1 z with rfl|z
     ·exact RE H
     ·exact QN k _ q hx p z
   ·cases h
def Xc{n:Int}{l:List Pu}(h:P.BT n=some l):∀p∈l,B8 p:=by
 unfold PD.BT Hz at h;split at h
 ·cases h
 ·cases hx:DL (P.aT (Aw n)).1.length (P.aT (Aw n)).1 with
  | none=>rw[hx]at h;cases h
  | some q=>
   rw[hx]at h;dsimp only at h;split at h
   ·cases h;exact QN _ _ q hx
   ·cases h
def QG:∀(H:List Int) (l:List (Int×List Pu)),P.segs H=some l->∀p∈l.flatMap (·.2),B8 p
 | [],l,h,p,z=>by cases h;cases z
 | n::r,l,h,p,z=>by
  unfold PD.segs at h;cases hs:P.BT n with
  | none=>rw[hs]at h;cases h
  | some x=>
   rw[hs]at h;cases hr:P.segs r with
   | none=>rw[hr]at h;cases h
   | some y=>
    rw[hr]at h;cases h;rw[Kc]at z;rcases AU.1 z with z|z
    ·exact Xc hs p z
    ·exact QG r y hr p z
def Rm:∀(k s:Nat) (l:Bs),∀p∈(Dh k s l).1,B8 p
 | 0,_,_,p,h=>by cases h
 | k+1,s,l,p,h=>by
  unfold Dh at h;split at h
  ·cases h
  ·split at h
   ·rename_i z;rcases BF.1 h with rfl|h
    ·exact RE z.2
    ·exact Rm k _ _ p h
   ·cases h
def Y4(s:Nat)(ahead:Int)(l:Bs):∀p∈(Ew s ahead l).1,B8 p:=by
 intro p h;unfold Ew at h;split at h
 ·cases h
 ·split at h
  ·split at h
   ·exact Rm _ _ _ p h
   ·cases h
  ·cases h
def Rx:∀(l:List Int) (z:List Pu),(∀n∈l,P.bs (Af n)≠none)->(∀p∈z,B8 p)->∀p∈(P.aU l z).1,B8 p
 | [],z,_,ha,p,hp=>ha p hp
 | n::r,z,h,ha,p,hp=>by
  unfold PD.aU at hp;cases hb:P.bs (Af n) with
  | none=>exact absurd hb (h n (Bp ..))
  | some x=>
   rw[IT hb]at hp;split at hp
   ·cases hp
   ·exact Rx r _ (λk H=>h k (Bn _ H)) (λq I=>(AU.1 I).elim (ha q) (Y4 _ _ _ q)) p hp
def Ec.ok(h:Ec P A sg pl):∀p∈sg.flatMap (·.2)++pl,B8 p:=by
 intro p z;rcases AU.1 z with z|z
 ·exact QG _ _ h.segs p z
 ·have I:∀n∈A.j.Al,P.bs (Af n)≠none:=λn W=>(JF (first:=A.ix.AW) (by rw[<-h.Al];exact W)).2.2
  have O:(P.aU A.j.Al []).1=pl:=E5 Prod.fst h.puts;exact Rx _ [] I (λq H=>by cases H) p (by rw[O];exact z)
end
end
end Go.Proofs.YtodcnkbblippnabGreatDoor
