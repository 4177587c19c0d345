/- Part 20 of a proof: walks of the program. -/
import Derived.Test.YtodcnkbblippnaaGreatDoorPart19
namespace Go.Proofs.YtodcnkbblippnaaGreatDoor
set_option maxRecDepth 100000
set_option maxHeartbeats 32000000
set_option linter.defProp false
open Go.Proofs.Tryz
section
open Go.RowKit
def Cs(t:Nat):Int×Int:=(t,700000*(t:Int))
def Iq{t t':Nat}(h:t<=t'):Hw (Cs t) (Cs t'):=⟨by simp only[Cs];omega,by simp only[Cs];omega⟩
structure PB (P:PD) (t:Nat):Prop where
 CV:Fit P (3*t+20) (3000000*(t+1)) (40*t+1000)
 Au:Br P (700000*(t+1))
 refQ:0<=P.D.n.Bt/\P.D.n.Bt<=t
 L4:0<=P.D.n.fulls/\P.D.n.fulls<=t
def PB.aa{P:PD}{t t':Nat}(h:PB P t)(ht:t<=t'):PB P t':=
 ⟨h.CV.aa (by omega) (by omega) (by omega),h.Au.aa (by omega),by have:=h.refQ;omega,by have:=h.L4;omega⟩
def Hm(P:PD)(e:Int)(P':PD):Prop:=(e=0/\P'.D.n.Bt=P.D.n.Bt/\P'.D.n.fulls=P.D.n.fulls/\P'.D.n.AX=P.D.n.AX)\/
 (e=5/\P'.D.n.Bt=P.D.n.Bt+1/\P'.D.n.fulls=P.D.n.fulls)\/(e=6/\P'.D.n.Bt=P.D.n.Bt+1/\P'.D.n.fulls=P.D.n.fulls+1/\P'.D.n.AX=P.D.n.AX)
section
variable {bd:Int×Int} {P P':PD} {A:Ar} {sg cl:List (Int×List Pu)} {ol:Option (List Pu)} {puts:List Pu} {Ac:Nat} {o:Int} {t:Nat}
def Cp.dr{e:Int}(h:Cp P.D.n e P'.D.n)(z:PB P t)(ht:t<=330000)(he:e=0\/e=5\/e=6):Hm P e P':=by
 have h1:=z.refQ;have h2:=z.L4;have E:wrap64 (P.D.n.Bt+1)=P.D.n.Bt+1:=by unfold wrap64;omega
 have H:wrap64 (P.D.n.fulls+1)=P.D.n.fulls+1:=by unfold wrap64;omega
 rcases h with⟨a,b,c,d,f⟩|⟨a,b,c⟩|⟨a,b,c,d⟩
 ·exact .inl ⟨by omega,c,d,f⟩
 ·exact .inr (.inl ⟨a,b.trans E,c⟩)
 ·exact .inr (.inr ⟨a,b.trans E,c.trans H,d⟩)
def Hm.refQ{e:Int}(h:Hm P e P')(d:PB P t):(0<=P'.D.n.Bt/\P'.D.n.Bt<=(t+1:Nat))/\0<=P'.D.n.fulls/\P'.D.n.fulls<=(t+1:Nat):=by
 have h1:=d.refQ;have h2:=d.L4;rcases h with⟨_,b,c,_⟩|⟨_,b,c⟩|⟨_,b,c,_⟩<;>rw[b,c]<;>omega
def Xw{l:List Int}(d:l.Pairwise (· < ·)){t:Nat}(h:∀x∈l,1<=x/\x<=t):l.length<=t:=by
 have:=IX (l':=(List.range t).map λ(i:Nat)=>(i:Int)+1) (d.imp λh=>Vw h) λx z=>by
  obtain⟨h1,h2⟩:=h x z;exact Ct.2 ⟨(x-1).toNat,Lt.2 (by omega),by omega⟩
 simpa using this
structure Py (A:Ar) (P:PD) (sg cl:List (Int×List Pu)) (ol:Option (List Pu)) (t:Nat):Prop where
 j:0<=A.j.A9/\A.j.A9<=t
 jn:isNum (A.j.A9+1)=true
 s:0<=A.A9/\A.A9<=700000*(t:Int)
 Am:A.j.Am.length<=t
 segs:A.ix.segs.length<=t/\sg.length<=t
 Co:(B6 sg cl ol).length<=t/\(Aw cl++ol.getD []).length<=t
 Ax:P.Ax.length<=3*t+20
 Mx:A.Ax.length<=2*t+1
def SI.bF(h:SI (Cs t) A P puts Ac o sg cl ol)(Y:PB P t)(hl:puts.length<=t)(ht:t<=330000):Py A P sg cl ol t:=by
 have X:=h.AV.EB.1;have I:=h.Ef.2.1;have h3:=h.AV.Em.1;have L:=h.Ef.2.2;simp only[Cs]at I L;have hall:=h.Co.2.2;have h5:(B6 sg cl ol).length=(Aw sg).length+(Aw cl++ol.getD []).length:=by unfold B6;rw[AY]
 have hseg:sg.length<=(Aw sg).length:=by
  have:=H6 (ws:=sg.map (·.2)) λw hw=>by
   obtain⟨x,d,rfl⟩:=Ct.1 hw;exact h.Ef.1.2.2 x d
  rw[F9]at this;unfold Aw;rw[Vk];exact this
 have hsl:A.ix.segs.length=sg.length:=by rw[<-h.AV.segs,F9]
 have z:A.j.Am.length<=t:=by
  refine Xw h.AV.H5 λx d=>?_;rw[h.AV.bS]at d;have W:∀y∈cl,1<=y.1/\y.1<=t:=λy E=>by
   have q:=(h.AV.CT y E).1;have O:=q.1;unfold isNum at O;simp at O;have:=q.2;omega
  cases ol with
  | none=>
   obtain⟨y,E,rfl⟩:=Ct.1 d;exact W y E
  | some l=>
   unfold shut at d;rw[El]at d;rcases AU.1 d with d|d
   ·obtain⟨y,E,rfl⟩:=Ct.1 d;exact W y E
   ·simp at d;have q:=h.AV.AA.2.2.2.2;unfold isNum at q;simp at q;omega
 have H:P.Ax.length<=3*t+20:=by rw[Hk];exact Y.CV.A4
 refine⟨⟨X,I⟩,by unfold isNum;simp;omega,⟨h3,L⟩,z,⟨by omega,by omega⟩,⟨by omega,by omega⟩,H,?_⟩;unfold Ar.Ax;simp only[AY,Cv,F9];omega
end
structure St (t:Nat) (A:Ar) (P:PD) (puts:List Pu) (Ac:Nat) (o:Int) (ro:Bool):Prop where
 pb:PB P t
 di:DI (Cs t) P puts Ac o
 rd:Reads (Cs t) P puts o
 si:ro=false->∃sg cl ol,SI (Cs t) A P puts Ac o sg cl ol/\A.AP.length<=3*t+20
 pu:∀p∈puts,Bi p
 B5:puts.length<=t
 le:Ac<=puts.length
 AX:P.D.n.AX=false
section
variable {P P':PD} {A A':Ar} {puts:List Pu} {Ac:Nat} {o:Int} {t:Nat} {ro:Bool}
def EP.bc{bd:Int×Int}{V:View}{d n:Int}{ahead:Nat}(h:EP bd V puts Ac o n ahead)(z:o<=d):EP bd V puts Ac d n ahead:=by
 obtain⟨ix,sg,cl,l,nb,c,H,E,I,r⟩:=h;exact⟨ix,sg,cl,l,nb,c,H,E,I.bc z,r⟩
def SI.bc{bd:Int×Int}{sg cl:List (Int×List Pu)}{ol:Option (List Pu)}{H:Int}(h:SI bd A P puts Ac o sg cl ol)(d:o<=H):SI bd A P puts Ac H sg cl ol:=
 ⟨h.di.bc d,h.AV,by obtain⟨nb,E,z,L⟩:=h.HI;exact⟨nb,E,z.bc d,L⟩,h.Gy,λl e=>by
  obtain⟨f,E,z⟩:=h.AA l e
  exact⟨f,E,λs I=>(z s I).imp id λq=>⟨q.1,q.2.bc d⟩⟩,h.CP,h.Ef⟩
def St.bc{z:Int}(h:St t A P puts Ac o ro)(d:o<=z):St t A P puts Ac z ro:=
 ⟨h.pb,h.di.bc d,h.rd.bc d,λe=>by obtain⟨sg,cl,ol,H,E⟩:=h.si e;exact⟨sg,cl,ol,H.bc d,E⟩,h.pu,h.B5,h.le,h.AX⟩
def St.aa{t':Nat}(h:St t A P puts Ac o ro)(d:t<=t'):St t' A P puts Ac o ro:=
 ⟨h.pb.aa d,h.di.a1 (Iq d),h.rd.a1 (Iq d),λe=>by obtain⟨sg,cl,ol,z,h2⟩:=h.si e;exact⟨sg,cl,ol,z.a1 (Iq d),by omega⟩,h.pu,by have:=h.B5;omega,h.le,h.AX⟩
def St.dw{q:List Pu}(E:PB P t)(z:DI (Cs t) P q Ac o)(L:Reads (Cs t) P q o)(H:∀p∈q,Bi p)(I:q.length<=t)(h:Ac<=q.length)(d:P.D.n.AX=false):St t A P q Ac o true:=
 ⟨E,z,L,λe=>(by cases e),H,I,h,d⟩
def St.ad(h:St t A P puts Ac o false)(ht:t+1<=330000)(p:Pu)(L:Bi p):
 PB (A.ad P p).2.2.2 (t+1)/\Hm P (A.ad P p).2.1 (A.ad P p).2.2.2/\DI (Cs (t+1)) (A.ad P p).2.2.2 (puts++[p]) Ac o/\
  ((A.ad P p).1=true->Reads (Cs (t+1)) (A.ad P p).2.2.2 (puts++[p]) o)/\((A.ad P p).1=false->DI (Cs (t+1)) (A.ad P p).2.2.2 puts Ac o/\Reads (Cs (t+1)) (A.ad P p).2.2.2 puts o)/\
  ((A.ad P p).2.1=0->(A.ad P p).1=true/\St (t+1) (A.ad P p).2.2.1 (A.ad P p).2.2.2 (puts++[p]) Ac o false)/\((A.ad P p).2.1=6->P.D.n.AH-B4 P.F P.D.A4<200):=by
 obtain⟨sg,cl,ol,X,hll⟩:=h.si rfl;have W:=X.bF h.pb h.B5 (by omega);have hj:=W.j;have O:=X.a1 (Iq (Gl t));obtain⟨a1,a2,a3,a4⟩:=O.ad (λ_=>⟨W.jn,by simp only[Cs];omega⟩) p L;have E:=X.eX (λ_=>W.jn) p L (by omega);have d:=(A2Q A P p).dr h.pb (by omega) E;obtain⟨r1,r2⟩:=d.refQ h.pb;have I:PB (A.ad P p).2.2.2 (t+1):=⟨(h.pb.CV.fy p).aa (by omega) (by omega) (by omega),(A2z h.pb.Au p).aa (by omega),r1,r2⟩;have hlen:=h.B5;have hle:=h.le;refine⟨I,d,a1,a2,a3,λe=>?_,λe=>A2B e⟩;obtain⟨Y,b2,b3⟩:=a4 e;refine⟨Y,I,a1,a2 Y,λ_=>⟨sg,cl,_,b2,by rw[b3];simp⟩,λq H=>?_,by simp;omega,by simp;omega,?_⟩
 ·rcases AU.1 H with H|H
  ·exact h.pu q H
  ·simp at H;subst H;exact L
 ·rcases d with⟨_,_,_,z⟩|⟨z,_⟩|⟨z,_⟩
  ·rw[z];exact h.AX
  ·rw[e]at z;cases z
  ·rw[e]at z;cases z
def St.ae(h:St t A P puts Ac o false)(ht:t+1<=330000):
 PB (A.ae P).2.2 (t+1)/\Hm P (A.ae P).1 (A.ae P).2.2/\DI (Cs (t+1)) (A.ae P).2.2 puts Ac o/\Reads (Cs (t+1)) (A.ae P).2.2 puts o/\
  ((A.ae P).1=0->St (t+1) (A.ae P).2.1 (A.ae P).2.2 puts puts.length o false)/\(A.ae P).1≠6:=by
 obtain⟨sg,cl,ol,O,hll⟩:=h.si rfl;have H:=O.a1 (Iq (Gl t));obtain⟨⟨a1,L⟩,X⟩:=H.ae;have hcode:=O.fW (by omega);have d:=(A2P A P).dr h.pb (by omega) (by omega);obtain⟨W,r2⟩:=d.refQ h.pb;have E:PB (A.ae P).2.2 (t+1):=⟨h.pb.CV.fO.aa (by omega) (by omega) (by omega),(A2y h.pb.Au).aa (by omega),W,r2⟩;have hlen:=h.B5;refine⟨E,d,a1,L,λe=>?_,Uv A P⟩;obtain⟨I,Y,b3⟩:=X e;refine⟨E,I.di,L,λ_=>⟨sg,cl,ol,I,by rw[Y];simp⟩,h.pu,by omega,As _,?_⟩;rcases d with⟨_,_,_,z⟩|⟨z,_⟩|⟨z,_⟩
 ·rw[z];exact h.AX
 ·rw[e]at z;cases z
 ·rw[e]at z;cases z
def PB.ay{sg cl:List (Int×List Pu)}{ol:Option (List Pu)}(h:PB P t)(L:FY P)(I:Py A P sg cl ol t)(ht:t+1<=330000)(kept:List Int)(fresh:List (List Pu))(hk:kept.length<=t)(hf:fresh.length<=t)(H:∀l∈fresh,l.length<=t)(X:(A.ay P kept fresh).1=0\/(A.ay P kept fresh).1=5\/(A.ay P kept fresh).1=6):PB (A.ay P kept fresh).2.2 (t+1)/\Hm P (A.ay P kept fresh).1 (A.ay P kept fresh).2.2:=by
 have d:=(A2I A P kept fresh).dr h (by omega) X;obtain⟨z,O⟩:=d.refQ h;have hc:=I.Mx;have E:=h.CV.ay (A:=A) kept fresh;obtain⟨w,i⟩:=Xx (a:=3*(t+1)+20) (m:=40*(t+1)+1000) (A:=A) (h.CV.aa (a':=3*(t+1)+20) (m':=40*(t+1)+1000) (by omega) (As _) (by omega)).wd h.Au L kept fresh (by omega) (λl W=>by have:=H l W;omega) (by omega);exact⟨⟨(w.CV E).aa (As _) (by omega) (As _),i.aa (by omega),z,O⟩,d⟩
def St.aR{Ai:Int}(h:St t A P puts Ac o false)(Y:BT (Az Ai))(ht:t+1<=330000):
 PB (A.aR P Ai).2.2 (t+1)/\Hm P (A.aR P Ai).1 (A.aR P Ai).2.2/\DI (Cs (t+1)) (A.aR P Ai).2.2 puts Ac o/\Reads (Cs (t+1)) (A.aR P Ai).2.2 puts o/\
  ((A.aR P Ai).1=0->St (t+1) (A.aR P Ai).2.1 (A.aR P Ai).2.2 puts puts.length o false):=by
 obtain⟨sg,cl,ol,W,hll⟩:=h.si rfl;have E:=W.bF h.pb h.B5 (by omega);obtain⟨n1,n2⟩:=E.Co;obtain⟨n3,n4⟩:=E.segs;have n5:=E.Ax;have n6:=E.Am;have n7:=E.s;have aA:=W.a1 (Iq (Gl t));obtain⟨⟨a1,a2⟩,a3⟩:=aA.aR Y E.jn n1 (by omega) (by omega) (by simp only[Cs];omega) (by omega);have I:=W.fR Y E.jn n1 (by omega) (by omega) (by omega);have hp:=W.AV.puts W.CP;have L:=Hj Y (Aw cl++ol.getD []);have hfl:=H6 L.ne;have hfl2:=L.B5;have e:A.aR P Ai=A.ay P A.ix.segs (Bz Ai (Aw cl++ol.getD [])):=by
  unfold Ar.aR;rw[hp,Ad (by simp)]
 have z:=h.pb.ay (A:=A) h.di.bj E ht A.ix.segs (Bz Ai (Aw cl++ol.getD [])) n3 (by omega) (λl hl=>by
  have:=(MY hl).length_le
  omega) (by rw[<-e];exact I)
 rw[<-e]at z;obtain⟨O,d⟩:=z;have hlen:=h.B5;refine⟨O,d,a1,a2,λe0=>?_⟩;obtain⟨X,b1,b2,_⟩:=a3 e0;refine⟨O,b1.di,a2,λ_=>⟨X,[],none,b1,by rw[b2];simp⟩,h.pu,by omega,As _,?_⟩;rcases d with⟨_,_,_,H⟩|⟨H,_⟩|⟨H,_⟩
 ·rw[H];exact h.AX
 ·rw[e0]at H;cases H
 ·rw[e0]at H;cases H
def St.aQ{Ai:Int}(h:St t A P puts Ac o false)(hw:BT (Az Ai))(ht:t+1<=330000):
 PB (A.aQ P Ai o).2.2 (t+1)/\Hm P (A.aQ P Ai o).1 (A.aQ P Ai o).2.2/\DI (Cs (t+1)) (A.aQ P Ai o).2.2 puts Ac o/\Reads (Cs (t+1)) (A.aQ P Ai o).2.2 puts o/\
  ((A.aQ P Ai o).1=0->St (t+1) (A.aQ P Ai o).2.1 (A.aQ P Ai o).2.2 puts puts.length o false):=by
 obtain⟨sg,cl,ol,O,hll⟩:=h.si rfl;have H:=O.bF h.pb h.B5 (by omega);obtain⟨n1,n2⟩:=H.Co;obtain⟨n3,n4⟩:=H.segs;have n5:=H.Ax;have n6:=H.Am;have n7:=H.s;have aB:=O.a1 (Iq (Gl t));obtain⟨⟨a1,a2⟩,a3⟩:=aB.aQ hw H.jn n1 (by omega) (by omega) (by simp only[Cs];omega) (by omega);have L:=O.fN hw H.jn n1 (by omega) (by omega) (by omega);have hp:=O.AV.puts O.CP;have W:=Hj hw (B6 sg cl ol);have hfl:=H6 W.ne;have hfl2:=W.B5;have I:=JR sg o (Bz Ai (B6 sg cl ol));have Y:=I.length_eq;have hal:(DQ o (Bz Ai (B6 sg cl ol))).length<=(Bz Ai (B6 sg cl ol)).length:=Jj _ _;rw[AY,F9]at Y;have hks:(BK sg o (Bz Ai (B6 sg cl ol))).1.length=(G9 sg o (Bz Ai (B6 sg cl ol))).length:=by rw[JS,F9]
 have e:A.aQ P Ai o=A.ay P ((BK sg o (Bz Ai (B6 sg cl ol))).1.mergeSort λx y=>decide (x<=y)) (BK sg o (Bz Ai (B6 sg cl ol))).2:=by
  unfold Ar.aQ;rw[O.AV.b8];dsimp only
  have z:sg.flatMap (·.2)++(P.puts A.j.Am).1=B6 sg cl ol:=by rw[hp];rfl
  rw[z,hp,Ad (by simp)]
 have E:=h.pb.ay (A:=A) h.di.bj H ht ((BK sg o (Bz Ai (B6 sg cl ol))).1.mergeSort λx y=>decide (x<=y)) (BK sg o (Bz Ai (B6 sg cl ol))).2 (by rw[N2];omega) (by omega) (λl hl=>by
  have:=(MY (J5 hl)).length_le
  omega) (by rw[<-e];exact L)
 rw[<-e]at E;obtain⟨X,d⟩:=E;have hlen:=h.B5;refine⟨X,d,a1,a2,λe0=>?_⟩;obtain⟨aA,b1,b2,_⟩:=a3 e0;refine⟨X,b1.di,a2,λ_=>⟨aA,[],none,b1,by rw[b2];simp⟩,h.pu,by omega,As _,?_⟩;rcases d with⟨_,_,_,z⟩|⟨z,_⟩|⟨z,_⟩
 ·rw[z];exact h.AX
 ·rw[e0]at z;cases z
 ·rw[e0]at z;cases z
def St.aT(d:PB P t)(I:DI (Cs t) P puts Ac o)(L:Reads (Cs t) P puts o)(O:∀p∈puts,Bi p)(Y:puts.length<=t)(z:Ac<=puts.length)(h:P.D.n.AX=false)(ht:t<=330000):
 ∃A H,Ar.aT P=.ok (A,H)/\St t A P puts Ac o false/\C9 o H puts/\(∀p∈H,Bi p):=by
 obtain⟨A',sg,cl,X,E,h3,W⟩:=SI.aT I (by simp only[Cs];omega) L z (by omega);refine⟨A',_,X,⟨d,I,L,λ_=>⟨sg,cl,none,E,?_⟩,O,Y,z,h⟩,h3,λp d=>?_⟩
 ·rw[W];have h5:(A'.aX P).length<=P.Ax.length:=Jj _ _;have h6:P.Ax.length<=3*t+20:=by rw[Hk];exact d.CV.A4
  omega
 ·rcases AU.1 d with d|d
  ·exact E.AV.cX p d
  ·exact E.AV.b0 p d
def PB.ca(h:PB P t)(n:DN)(E:n.AH=P.D.n.AH)(d:0<=n.BJ/\n.BJ<=9223372036854775807)(H:n.Bt=P.D.n.Bt)(z:n.fulls=P.D.n.fulls):PB ⟨{P.D with n:=n},P.F⟩ t:=
 ⟨⟨h.CV.A4,h.CV.AO,h.CV.Fs,h.CV.Aj,h.CV.B5,by rw[E];exact h.CV.AH,d⟩,h.Au,by rw[H];exact h.refQ,by rw[z];exact h.L4⟩
def GW(t:Nat)(P:PD)(puts:List Pu)(Ac:Nat)(o:Int)(h:Bool):Prop:=
 PB P t/\DI (Cs t) P puts Ac o/\(∀p∈puts,Bi p)/\puts.length<=t/\Ac<=puts.length/\
  (P.D.n.AX=true\/∃d,Ac<=d/\d<=puts.length/\(h=false->d=puts.length)/\∀z n,o<=z->d<=n->n<=puts.length->C9 z (puts.take d) (puts.take n)->DI (Cs t) P (puts.take n) Ac z/\Reads (Cs t) P (puts.take n) z)
def St.dJ(h:St t A P puts Ac o ro)(d:Bool):GW t P puts Ac o d:=
 ⟨h.pb,h.di,h.pu,h.B5,h.le,.inr ⟨puts.length,h.le,As _,λ_=>rfl,λo' n z h2 h3 _=>by
  have e:n=puts.length:=by omega
  subst e;rw[C6]
  exact⟨h.di.bc z,h.rd.bc z⟩⟩⟩
def A1r(h:PB P t)(hd:DI (Cs t) P puts Ac o)(z:Int)(d:List Int):PB (P.aV z d) t:=by
 have H:=U4 P.D z;generalize W:FV P.D z=s at H;have L:(P.aV z d).D.A4=s:=by unfold PD.aV Fm;dsimp only;exact W
 have aB:(P.aV z d).D.AO=s:=by unfold PD.aV Fm;dsimp only;exact W
 have X:(P.aV z d).D.Av=[]:=rfl;have O:∀e∈s,P.D.Au e.2:=λe E=>by
  rcases BR.1 H with H|H
  ·rw[H]at E;exact .inr (.inl ⟨e,E,rfl⟩)
  ·exact .inr (.inr ⟨s,H,e,E,rfl⟩)
 have I:∀f,(P.aV z d).D.Au f->P.D.Au f/\∃e∈s,e.2=f:=λf hf=>by
  rcases hf with⟨e,E,rfl⟩|⟨e,E,rfl⟩|⟨l,hl,_⟩
  ·rw[L]at E;exact⟨O e E,e,E,rfl⟩
  ·rw[aB]at E;exact⟨O e E,e,E,rfl⟩
  ·rw[X]at hl;cases hl
 have Y:s.length<=3*t+20:=by
  rcases BR.1 H with H|H
  ·rw[H];exact h.CV.AO
  ·exact h.CV.Fs s H
 have hr:∀e∈s,0<=(P.F e.2).2/\(P.F e.2).2<=(P.F e.2).1.length:=λe E=>by
  obtain⟨ix,sg,cl,lo,nb,hL,_⟩:=hd.DM s H;have hv:vw P.F s e.1.data.toList=some (P.F e.2):=by
   unfold vw;rw[G8];cases hk:lookup s e.1 with
   | none=>exact absurd rfl (J0.1 hk e E)
   | some g=>
    obtain⟨i,hi,e1⟩:=DU (E6 hk);obtain⟨j,hj,e2⟩:=DU E;have:i=j:=JN (hd.Cl s H) (by simpa using hi) (by simpa using hj) (by simp[e1,e2]);subst this;rw[e1]at e2;rw[<-e2];rfl
  exact hL.DX _ _ hv
 refine⟨⟨by rw[L];exact Y,by rw[aB];exact Y,λl hl=>(by rw[X]at hl;cases hl),(by rw[X];simp),λf hf=>?_,h.CV.AH,h.CV.BJ⟩,λf hf=>h.Au f (I f hf).1,h.refQ,h.L4⟩;obtain⟨h1,e,E,rfl⟩:=I f hf;have hF:(P.aV z d).F=DO s d (dList s) P.F s.length:=by unfold PD.aV Fm;dsimp only;rw[W]
 rw[hF];have aA:=h.CV.B5 _ h1;rcases U0 s d (dList s) P.F hr s.length e E with⟨q,_⟩|⟨x,q⟩
 ·rw[q];exact aA
 ·rw[q];obtain⟨j,_,_,j3⟩:=P7 (hr e E) x;rw[j3];simp only[BU];omega
def GW.aV(X:PB P t)(E:DI (Cs t) P puts Ac o)(I:∀p∈puts,Bi p)(Y:puts.length<=t)(z:Ac<=puts.length)(ht:t<=330000)(h:Int)(d:List Int):
 GW t (P.aV h d) puts Ac o true/\(P.aV h d).D.n.AX=false:=by
 obtain⟨O,n,H,h3,L⟩:=E.aV h d (by omega);exact⟨⟨A1r X E h d,O,I,Y,z,.inr ⟨n,H,h3,λe=>(by cases e),λo' m W _ _ h6=>L o' _ W h6⟩⟩,rfl⟩
def GW.ca{z:Bool}(h:GW t P puts Ac o z)(n:DN)(Y:n.AH=P.D.n.AH)(L:0<=n.BJ/\n.BJ<=9223372036854775807)(h3:n.Bt=P.D.n.Bt)(W:n.fulls=P.D.n.fulls)(h5:n.AX=P.D.n.AX):GW t ⟨{P.D with n:=n},P.F⟩ puts Ac o z:=by
 obtain⟨g1,E,g3,g4,g5,H⟩:=h;refine⟨g1.ca n Y L h3 W,⟨E.DM,E.Au,E.Cl,E.CK⟩,g3,g4,g5,?_⟩;rcases H with H|⟨n0,I,k2,O,k4⟩
 ·exact .inl (h5.trans H)
 ·refine .inr ⟨n0,I,k2,O,λo2 n2 X q2 q3 q4=>?_⟩;obtain⟨d,r⟩:=k4 o2 n2 X q2 q3 q4;exact⟨⟨d.DM,d.Au,d.Cl,d.CK⟩,r.aH λ_=>rfl⟩
end
end
section
variable {P:PD} {A:Ar} {J:Jn} {nm old:ByteArray}
def R7(P:PD):P.aJ.2.D.n.AH=P.D.n.AH:=by
 unfold PD.aJ DH;dsimp only
 split<;>exact HH _
def R9(P:PD)(nm:ByteArray):(P.az nm).2.D.n.AH=P.D.n.AH:=by
 unfold PD.az Dg;split
 ·rfl
 ·dsimp only
  split<;>exact HH _
def Xl(P:PD)(old nm:ByteArray):(P.aO old nm).2.D.n.AH=P.D.n.AH:=by
 unfold PD.aO CQ;split
 ·rfl
 ·split
  ·rfl
  ·dsimp only
   split<;>exact HH _
def NP(P:PD)(nm:ByteArray)(s:Nat)(l:Bs):(P.ad nm s l).2.2.D.n.AH=P.D.n.AH:=Rc P nm (AR s l)
def KA(P:PD)(nm:Bs)(s:Nat)(l:Bs):(P.aI nm s l).2.D.n.AH=P.D.n.AH:=by
 unfold PD.aI;split
 ·exact IN P _
 ·split
  ·exact(NP _ _ _ _).trans (IN P _)
  ·exact(LX _ _).trans ((NP _ _ _ _).trans (IN P _))
def KB:∀(l:List Bs) (P:PD),(PD.aL l P).2.D.n.AH=P.D.n.AH
 | [],_=>rfl
 | nm::r,P=>by
  unfold PD.aL;split
  ·exact R9 P _
  ·exact(KB r _).trans (R9 P _)
def Ra(J:Jn)(P:PD)(p:Pu):(J.av P p).2.2.2.D.n.AH=P.D.n.AH:=by
 unfold Jn.av;split
 ·rfl
 ·exact NP P _ _ _
def Xo(J:Jn)(P:PD)(p:Pu):(J.ad P p).2.2.2.D.n.AH=P.D.n.AH:=by
 unfold Jn.ad;split
 ·split
  ·exact NR J P
  ·exact(Ra _ _ p).trans (NR J P)
 ·exact Ra J P p
def Xr(A:Ar)(P:PD)(p:Pu):(A.ad P p).2.2.2.D.n.AH=P.D.n.AH:=by
 unfold Ar.ad;split
 ·exact IM A P
 ·exact(Xo _ _ p).trans (IM A P)
def Xn(J:Jn)(P:PD):(J.ae P).2.D.n.AH=P.D.n.AH:=by
 unfold Jn.ae;split
 ·rfl
 ·exact LX P _
def Xq(A:Ar)(P:PD):(A.ae P).2.2.D.n.AH=P.D.n.AH:=by
 unfold Ar.ae;split
 ·exact IM A P
 ·have h:=(Xn (A.C P).2.1.j (A.C P).2.2).trans (IM A P);split
  ·exact h
  ·exact(R7 _).trans h
def NQ:∀(fresh:List (List Pu)) (last:Int) (kept:List Int) (P:PD),(PD.ah fresh last kept P).2.2.2.D.n.AH=P.D.n.AH
 | [],_,_,_=>rfl
 | l::r,last,kept,P=>by
  unfold PD.ah;split
  ·exact KA P _ _ _
  ·exact(NQ r _ _ _).trans (KA P _ _ _)
def Xm(P:PD)(d:Int)(segs:List Int):(P.ag d segs).2.D.n.AH=P.D.n.AH:=by
 unfold PD.ag;split
 ·exact KA P _ _ _
 ·exact(Xl _ _ _).trans (KA P _ _ _)
def Rb(A:Ar)(P:PD)(segs:List Int):(A.ag P segs).2.2.D.n.AH=P.D.n.AH:=by
 have:=Xm P (A.j.A9+1) segs;unfold Ar.ag;split
 ·rfl
 ·split<;>exact this
def Xp(A:Ar)(P:PD):(A.aY P).2.2.D.n.AH=P.D.n.AH:=by
 unfold Ar.aY;split
 ·exact KB _ P
 ·exact(R7 _).trans (KB _ P)
def Xk(A:Ar)(P:PD)(kept:List Int)(fresh:List (List Pu)):(A.ay P kept fresh).2.2.D.n.AH=P.D.n.AH:=by
 unfold Ar.ay;dsimp only
 have h:=IM A P;have z:((A.C P).2.1.aq (A.C P).2.2).2.D.n.AH=P.D.n.AH:=(KB _ _).trans h;have d:∀l k,(PD.ah fresh l k ((A.C P).2.1.aq (A.C P).2.2).2).2.2.2.D.n.AH=P.D.n.AH:=λl k=>(NQ _ _ _ _).trans z
 split
 ·exact h
 ·split
  ·exact z
  ·split
   ·exact d _ _
   ·split
    ·exact(Rb _ _ _).trans (d _ _)
    ·exact(Xp _ _).trans ((Rb _ _ _).trans (d _ _))
end
section
open Go.RowKit
def C8(k:Nat)(n:DN)(e:Int)(d:DN):Prop:=
 d.Cb=n.Cb/\d.Cr=n.Cr/\(0<=n.AZ->n.AZ+k<=4611686018427387904->n.AZ<=d.AZ/\d.AZ<=n.AZ+k/\
  (e=5->n.AX=true\/(d.AX=true/\n.AZ<n.Cb/\n.Cb<=d.AZ)\/(d.AX=false/\n.AZ<n.Cr/\n.Cr<=d.AZ))/\(e≠5->d.AX=n.AX/\¬(n.AZ<n.Cr/\n.Cr<=d.AZ)))
def C8.I(n:DN){e:Int}(d:e≠5):C8 0 n e n:=⟨rfl,rfl,λ_ _=>⟨Hv _,by omega,λh=>absurd h d,λ_=>⟨rfl,λh=>by omega⟩⟩⟩
def C8.aa{n d:DN}{e:Int}{k z:Nat}(h:C8 k n e d)(hk:k<=z):C8 z n e d:=⟨h.1,h.2.1,λE h1=>by
 obtain⟨a,b,c⟩:=h.2.2 E (by omega)
 exact⟨a,by omega,c⟩⟩
def C8.Ap{n L n2:DN}{a e:Int}{E I:Nat}(h:C8 E n a L)(ha:a=0)(O:C8 I L e n2):C8 (E+I) n e n2:=by
 obtain⟨c1,f1,g1⟩:=h;obtain⟨c2,f2,X⟩:=O;refine⟨c2.trans c1,f2.trans f1,λW hk=>?_⟩;obtain⟨a1,a2,-,Y⟩:=g1 W (by omega);obtain⟨d1,d2⟩:=Y (by omega);obtain⟨b1,b2,z,H⟩:=X (by omega) (by omega);rw[f1]at z H;rw[c1,d1]at z;refine⟨by omega,by omega,λd=>(z d).imp id (Or.imp (λh=>⟨h.1,by omega,h.2.2⟩) λh=>⟨h.1,by omega,h.2.2⟩),λd=>?_⟩;obtain⟨x1,x2⟩:=H d;exact⟨x1.trans d1,by omega⟩
def Q9{x:Int}(h0:0<=x)(h1:x+1<=4611686018427387904):wrap64 (x+1)=x+1:=by
 unfold wrap64;omega
def K5(n:DN):C8 1 n (bg n).2.1 (bg n).2.2:=by
 have z:(bg n).2.2.Cb=n.Cb/\(bg n).2.2.Cr=n.Cr:=by
  unfold bg;dsimp only;split
  ·exact⟨rfl,rfl⟩
  ·split
   ·exact⟨rfl,rfl⟩
   ·split<;>exact⟨rfl,rfl⟩
 refine⟨z.1,z.2,λI h1=>?_⟩;have E:=Q9 I (by omega);unfold bg;rw[E];dsimp only
 split
 ·rename_i d;exact⟨by dsimp only;omega,by dsimp only;omega,λ_=>.inl d,λh=>absurd rfl h⟩
 ·rename_i d;split
  ·rename_i hk;exact⟨by dsimp only;omega,by dsimp only;omega,λ_=>.inr (.inl ⟨rfl,by omega,by dsimp only;omega⟩),λh=>absurd rfl h⟩
  ·split
   ·rename_i H;exact⟨by dsimp only;omega,by dsimp only;omega,λ_=>.inr (.inr ⟨by simpa using d,by omega,by dsimp only;omega⟩),λh=>absurd rfl h⟩
   ·rename_i H;exact⟨by dsimp only;omega,by dsimp only;omega,λh=>(by cases h),λ_=>⟨rfl,λh=>by dsimp only at h;omega⟩⟩
section
variable {P:PD} {A:Ar} {J:Jn} {nm old:ByteArray}
def La(P:PD)(nm:ByteArray):C8 1 P.D.n (P.ai nm).1 (P.ai nm).2.D.n:=by
 unfold PD.ai CM;split
 ·exact(C8.I _ (by simp)).aa (by omega)
 ·have:=K5 P.D.n;dsimp only
  split<;>exact this
def Mv(P:PD)(nm:ByteArray):C8 1 P.D.n (P.ae nm).1 (P.ae nm).2.D.n:=by
 unfold PD.ae CA;split
 ·exact(C8.I _ (by simp)).aa (by omega)
 ·exact K5 P.D.n
def U6(P:PD):C8 1 P.D.n P.aJ.1 P.aJ.2.D.n:=by
 have:=K5 P.D.n;unfold PD.aJ DH;dsimp only
 split<;>exact this
def U8(P:PD)(nm:ByteArray):C8 1 P.D.n (P.az nm).1 (P.az nm).2.D.n:=by
 have:=K5 P.D.n;unfold PD.az Dg;split
 ·exact(C8.I _ (by simp)).aa (by omega)
 ·dsimp only
  split<;>exact this
def A1K(P:PD)(old nm:ByteArray):C8 1 P.D.n (P.aO old nm).1 (P.aO old nm).2.D.n:=by
 have:=K5 P.D.n;unfold PD.aO CQ;split
 ·exact(C8.I _ (by simp)).aa (by omega)
 ·split
  ·exact(C8.I _ (by simp)).aa (by omega)
  ·dsimp only
   split<;>exact this
def C8.cL{n d n2:DN}{k:Nat}(h:C8 k n 0 d)(H:n2.Cb=d.Cb)(z:n2.Cr=d.Cr)(I:n2.AZ=d.AZ)(E:n2.AX=d.AX):C8 k n 6 n2:=by
 obtain⟨a,b,c⟩:=h;refine⟨H.trans a,z.trans b,λx y=>?_⟩;obtain⟨c1,c2,-,c4⟩:=c x y;rw[I,E];exact⟨c1,c2,λh=>(by cases h),λ_=>c4 (by decide)⟩
def Ub(D:DS)(F:Nat->FC)(f:Nat)(x:ByteArray)(d e:Int)(n:DN)(h:C8 1 n e D.n)(z:e=0\/e=5):C8 1 n (BA D F f x d e).1 (BA D F f x d e).2.1.n:=by
 unfold BA;split
 ·dsimp only
  rcases z with rfl|rfl
  ·rw[Ah rfl,Ah rfl];exact h.cL rfl rfl rfl rfl
  ·rw[Ad (by decide),Ad (by decide)];exact h
 ·exact h
def A1S(P:PD)(nm:ByteArray)(l:Bs):C8 1 P.D.n (P.an nm l).1 (P.an nm l).2.D.n:=by
 have d:=K5 P.D.n;have h:=Gh P.D.n;unfold PD.an Bp;split
 ·exact(C8.I _ (by simp)).aa (by omega)
 ·dsimp only
  split
  ·exact Ub _ _ _ _ _ _ _ d h
  ·split
   ·exact Ub _ _ _ _ _ _ _ d h
   ·exact d
def Mw(P:PD)(nm:ByteArray)(s:Nat)(l:Bs):C8 1 P.D.n (P.ad nm s l).2.1 (P.ad nm s l).2.2.D.n:=A1S P nm (AR s l)
def Mu(P:PD)(nm:Bs)(s:Nat)(l:Bs):C8 3 P.D.n (P.aI nm s l).1 (P.aI nm s l).2.D.n:=by
 unfold PD.aI;split
 ·exact(La P _).aa (by omega)
 ·rename_i d;split
  ·exact((La P _).Ap (Cz d) (Mw _ _ _ _)).aa (by omega)
  ·rename_i h;exact((La P _).Ap (Cz d) (Mw _ _ _ _)).Ap (Cz h) (Mv _ _)
def U7:∀(l:List Bs) (P:PD),C8 l.length P.D.n (PD.ax l P).1 (PD.ax l P).2.D.n
 | [],P=>C8.I _ (by simp[PD.ax])
 | nm::r,P=>by
  unfold PD.ax;split
  ·exact(Mv P _).aa (by simp)
  ·rename_i d;exact((Mv P _).Ap (Cz d) (U7 r _)).aa (by simp;omega)
def Pa:∀(l:List Bs) (P:PD),C8 l.length P.D.n (PD.aL l P).1 (PD.aL l P).2.D.n
 | [],P=>C8.I _ (by simp[PD.aL])
 | nm::r,P=>by
  unfold PD.aL;split
  ·exact(U8 P _).aa (by simp)
  ·rename_i d;exact((U8 P _).Ap (Cz d) (Pa r _)).aa (by simp;omega)
def Jb(A:Ar)(P:PD):C8 A.AP.length P.D.n (A.C P).1 (A.C P).2.2.D.n:=by
 have:=U7 A.AP P;unfold Ar.C;split
 ·exact this
 ·rename_i d;rw[Cz d]at this;exact this
def Pb(J:Jn)(P:PD):C8 2 P.D.n (J.au P).1 (J.au P).2.2.D.n:=by
 unfold Jn.au;split
 ·exact(La P _).aa (by omega)
 ·rename_i d;have:=(La P _).Ap (Cz d) (Mw (P.ai (A8 (Ae (J.A9+1)))).2 (A8 (Ae (J.A9+1))) (AE (Ae (J.A9+1))) (AQ J.puts));dsimp only
  split
  ·exact this
  ·rename_i h;rw[Cz h]at this;exact this
def U9(J:Jn)(P:PD)(p:Pu):C8 1 P.D.n (J.av P p).2.1 (J.av P p).2.2.2.D.n:=by
 unfold Jn.av;split
 ·exact(C8.I _ (by simp)).aa (by omega)
 ·exact Mw P _ _ _
def A1N(J:Jn)(P:PD)(p:Pu):C8 3 P.D.n (J.ad P p).2.1 (J.ad P p).2.2.2.D.n:=by
 unfold Jn.ad;split
 ·split
  ·exact(Pb J P).aa (by omega)
  ·rename_i d;exact(Pb J P).Ap (Cz d) (U9 _ _ p)
 ·exact(U9 J P p).aa (by omega)
def A1R(A:Ar)(P:PD)(p:Pu):C8 (A.AP.length+3) P.D.n (A.ad P p).2.1 (A.ad P p).2.2.2.D.n:=by
 unfold Ar.ad;split
 ·exact(Jb A P).aa (by omega)
 ·rename_i d;exact(Jb A P).Ap (Cz d) (A1N _ _ p)
def A1M(J:Jn)(P:PD):C8 1 P.D.n (J.ae P).1 (J.ae P).2.D.n:=by
 unfold Jn.ae;split
 ·exact(C8.I _ (by simp)).aa (by omega)
 ·exact Mv P _
def A1Q(A:Ar)(P:PD):C8 (A.AP.length+2) P.D.n (A.ae P).1 (A.ae P).2.2.D.n:=by
 unfold Ar.ae;split
 ·exact(Jb A P).aa (by omega)
 ·rename_i z;have h:=(Jb A P).Ap (Cz z) (A1M (A.C P).2.1.j (A.C P).2.2);split
  ·exact h.aa (by omega)
  ·rename_i d;exact h.Ap (Cz d) (U6 _)
def Ua:∀(fresh:List (List Pu)) (last:Int) (kept:List Int) (P:PD),C8 (3*fresh.length) P.D.n (PD.ah fresh last kept P).1 (PD.ah fresh last kept P).2.2.2.D.n
 | [],_,_,P=>C8.I _ (by simp[PD.ah])
 | l::r,last,kept,P=>by
  unfold PD.ah;split
  ·exact(Mu P _ _ _).aa (by simp;omega)
  ·rename_i d;exact((Mu P _ _ _).Ap (Cz d) (Ua r _ _ _)).aa (by simp;omega)
def A1L(P:PD)(d:Int)(segs:List Int):C8 4 P.D.n (P.ag d segs).1 (P.ag d segs).2.D.n:=by
 unfold PD.ag;split
 ·exact(Mu P _ _ _).aa (by omega)
 ·rename_i h;exact(Mu P _ _ _).Ap (Cz h) (A1K _ _ _)
def A1P(A:Ar)(P:PD)(segs:List Int):C8 4 P.D.n (A.ag P segs).1 (A.ag P segs).2.2.D.n:=by
 have:=A1L P (A.j.A9+1) segs;unfold Ar.ag;split
 ·exact(C8.I _ (by simp)).aa (by omega)
 ·split
  ·exact this
  ·rename_i d;rw[Cz d]at this;exact this
def S7(A:Ar)(P:PD):(A.aU P).length<=P.dl:=by
 rw[<-Hk];exact Jj _ _
def A1O(A:Ar)(P:PD):C8 (P.dl+1) P.D.n (A.aY P).1 (A.aY P).2.2.D.n:=by
 have d:=(Pa (A.aU P) P).aa (S7 A P);unfold Ar.aY;split
 ·exact d.aa (by omega)
 ·rename_i h;exact d.Ap (Cz h) (U6 _)
def A1J(A:Ar)(P:PD)(kept:List Int)(fresh:List (List Pu)):C8 (A.AP.length+2*P.dl+4*fresh.length+7) P.D.n (A.ay P kept fresh).1 (A.ay P kept fresh).2.2.D.n:=by
 have d:(A.C P).2.2.dl=P.dl:=by unfold PD.dl;rw[NI]
 unfold Ar.ay;dsimp only
 split
 ·exact(Jb A P).aa (by omega)
 ·rename_i O;have X:=S7 (A.C P).2.1 (A.C P).2.2;rw[d]at X;have L:C8 ((A.C P).2.1.aU (A.C P).2.2).length (A.C P).2.2.D.n ((A.C P).2.1.aq (A.C P).2.2).1 ((A.C P).2.1.aq (A.C P).2.2).2.D.n:=Pa _ _;have h:=(Jb A P).Ap (Cz O) L;have d2:((A.C P).2.1.aq (A.C P).2.2).2.dl<=P.dl:=by rw[<-d];exact Mr _ _
  split
  ·exact h.aa (by omega)
  ·rename_i H;have z:=h.Ap (Cz H) (Ua fresh (A.C P).2.1.A9 kept ((A.C P).2.1.aq (A.C P).2.2).2);obtain⟨d3,-⟩:=K1 fresh (A.C P).2.1.A9 kept ((A.C P).2.1.aq (A.C P).2.2).2;split
   ·exact z.aa (by omega)
   ·rename_i W;have E:=z.Ap (Cz W) (A1P { (A.C P).2.1 with A9:=(PD.ah fresh (A.C P).2.1.A9 kept ((A.C P).2.1.aq (A.C P).2.2).2).2.1} _ (PD.ah fresh (A.C P).2.1.A9 kept ((A.C P).2.1.aq (A.C P).2.2).2).2.2.1);have d4:=OY { (A.C P).2.1 with A9:=(PD.ah fresh (A.C P).2.1.A9 kept ((A.C P).2.1.aq (A.C P).2.2).2).2.1} (PD.ah fresh (A.C P).2.1.A9 kept ((A.C P).2.1.aq (A.C P).2.2).2).2.2.2 (PD.ah fresh (A.C P).2.1.A9 kept ((A.C P).2.1.aq (A.C P).2.2).2).2.2.1;split
    ·exact E.aa (by omega)
    ·rename_i I;exact(E.Ap (Cz I) (A1O _ _)).aa (by omega)
def A2F{l:Bs}(h:(P.an nm l).1=0)(I:0<=P.D.n.AZ)(H:P.D.n.AZ+1<=4611686018427387904):(P.an nm l).2.D.n.AZ=P.D.n.AZ+1:=by
 have E:=Q9 I H;have d:(bg P.D.n).2.2.AZ=P.D.n.AZ+1:=by
  unfold bg;rw[E];dsimp only
  split
  ·rfl
  ·split
   ·rfl
   ·split<;>rfl
 have key:∀(D:DS) (F:Nat->FC) (f:Nat) (x:ByteArray) (z e:Int),(BA D F f x z e).2.1.n.AZ=D.n.AZ:=λD F f x z e=>by
  unfold BA;split
  ·dsimp only
   split<;>rfl
  ·rfl
 unfold PD.an Bp at h ⊢;cases hf:lookup P.D.A4 nm with
 | none=>rw[hf]at h;cases h
 | some f=>
  dsimp only
  split
  ·rw[key];exact d
  ·split
   ·rw[key];exact d
   ·exact d
def RL{p:Pu}{x:Int×Nat}(d:J.AA=some x)(h:(J.av P p).2.1=0)(E:0<=P.D.n.AZ)(z:P.D.n.AZ+1<=4611686018427387904):P.D.n.AZ+1<=(J.av P p).2.2.2.D.n.AZ:=by
 unfold Jn.av at h ⊢;rw[d]at h ⊢;exact Int.le_of_eq (A2F h E z).symm
def A2A{p:Pu}(h:(A.ad P p).2.1=0)(W:0<=P.D.n.AZ)(z:P.D.n.AZ+(A.AP.length+3)<=4611686018427387904):P.D.n.AZ+1<=(A.ad P p).2.2.2.D.n.AZ:=by
 have c1:=(Jb A P).2.2 W (by omega);have O:(A.C P).1=0:=by
  by_cases e:(A.C P).1=0
  ·exact e
  ·unfold Ar.ad at h;rw[Ah e]at h;exact absurd h e
 have e:A.ad P p=(((A.C P).2.1.j.ad (A.C P).2.2 p).1,((A.C P).2.1.j.ad (A.C P).2.2 p).2.1,{ (A.C P).2.1 with j:=((A.C P).2.1.j.ad (A.C P).2.2 p).2.2.1},((A.C P).2.1.j.ad (A.C P).2.2 p).2.2.2):=by
  unfold Ar.ad;rw[Ad (nn O)]
 rw[e]at h ⊢;dsimp only at h ⊢;generalize (A.C P).2.1.j=J at h ⊢;generalize (A.C P).2.2=Q at h c1 ⊢;obtain⟨d1,d2,-⟩:=c1;unfold Jn.ad at h ⊢;split at h
 ·rename_i E;rw[Ah E];by_cases d:(J.au Q).1=0
  ·rw[Ad (nn d)]at h ⊢;have c2:=(Pb J Q).2.2 (by omega) (by omega);have L:(J.au Q).2.1.AA≠none:=by
    unfold Jn.au at d ⊢;split at d
    ·rename_i z;exact absurd d z
    ·rename_i z;rw[Ad z];dsimp only at d ⊢;split at d
     ·rename_i H;exact absurd d H
     ·rename_i H;rw[Ad H];simp
   obtain⟨x,I⟩:=Lm.1 L;have:=RL I h (by omega) (by omega);omega
  ·rw[Ah d]at h;exact absurd h d
 ·rename_i E;rw[Ad E];obtain⟨x,I⟩:=Lm.1 E;have:=RL I h (by omega) (by omega);omega
end
section
variable {P:PD} {A:Ar} {a m:Nat}
def A2C{nm:ByteArray}{l:Bs}(h:Wd P a m)(hl:l.length<=m)(hr:((a*m+m:Nat):Int)<=P.D.n.AH):(P.an nm l).1≠6:=λe=>by
 have h6:=Po e;have hu:=Nr (F:=P.F) (m:=m) P.D.A4 λf d=>h.B5 f (.inl d);have:=Hq m h.A4;omega
def Q7{nm:Bs}{s:Nat}{l:Bs}(h:Wd P a m)(d:P.dl+1<=a)(E:l.length+4<=m)(H:((a*m+m:Nat):Int)<=P.D.n.AH):(P.aI nm s l).1≠6:=by
 have z:Wd (P.ai (A8 nm)).2 a m:=h.bJ (K0 P nm).1 d (by unfold PD.ai;simp[upd]);unfold PD.aI;split
 ·exact TY P _
 ·split
  ·refine A2C (l:=AR s l) z (by rw[Ez];exact E) ?_;rw[IN];exact H
  ·exact Ny _ _
def Sw:∀(fresh:List (List Pu)) (last:Int) (kept:List Int) {P:PD},Wd P a m->P.dl+fresh.length<=a->(∀l∈fresh,17*l.length+4<=m)->((a*m+m:Nat):Int)<=P.D.n.AH->(PD.ah fresh last kept P).1≠6
 | [],_,_,_,_,_,_,_=>by simp[PD.ah]
 | l::r,last,kept,P,h,hd,hl,hr=>by
  simp only[Cv]at hd;have z:(Cd l).length+4<=m:=by rw[I2];exact hl l (BF ..)
  have d:PD.ah (l::r) last kept P=if (P.aK (last+1) l).1≠0 then ((P.aK (last+1) l).1,last+1,kept,(P.aK (last+1) l).2) else PD.ah r (last+1) (kept++[last+1]) (P.aK (last+1) l).2:=rfl
  rw[d];split
  ·exact Q7 h (by omega) z hr
  ·have hdl:(P.aK (last+1) l).2.dl<=P.dl+1:=L7 P _ _ _;exact Sw r _ _ (h.aI _ _ _ (by omega) z) (by omega) (λx E=>hl x (Bx _ E)) (by rw[show (P.aK (last+1) l).2.D.n.AH=P.D.n.AH from KA P _ _ _];exact hr)
def Xz(P:PD)(old nm:ByteArray):(P.aO old nm).1≠6:=by
 have hb:=Gh P.D.n;unfold PD.aO CQ;split
 ·simp
 ·split
  ·simp
  ·dsimp only;omega
def XI(P:PD)(nm:ByteArray):(P.az nm).1≠6:=by
 have hb:=Gh P.D.n;unfold PD.az Dg;split
 ·simp
 ·dsimp only;omega
def NY:∀(l:List Bs) (P:PD),(PD.aL l P).1≠6
 | [],P=>by simp[PD.aL]
 | nm::r,P=>by
  unfold PD.aL;split
  ·exact XI P _
  ·exact NY r _
def A2x(h:Wd P a m)(segs:List Int)(d:P.dl+1<=a)(hl:12+8*segs.length<=m)(E:((a*m+m:Nat):Int)<=P.D.n.AH):(A.ag P segs).1≠6:=by
 have z:(P.ag (A.j.A9+1) segs).1≠6:=by
  unfold PD.ag;split
  ·refine Q7 h d ?_ E;unfold Ch;rw[AY,J7,CL];omega
  ·exact Xz _ _ _
 unfold Ar.ag;split
 ·simp
 ·split
  ·exact z
  ·simp
def A1Y(A:Ar)(P:PD):(A.aY P).1≠6:=by
 unfold Ar.aY;split
 ·exact NY _ P
 ·exact QA _
def Xy{k:Nat}(h:Wd P a m)(hi:Br P k)(hn:FY P)(kept:List Int)(fresh:List (List Pu))(hd:A.Ax.length+fresh.length+2<=a)(E:∀l∈fresh,17*l.length+4<=m)(hk:12+8*(kept.length+fresh.length)<=m)(H:((a*m+m:Nat):Int)<=P.D.n.AH):
 (A.ay P kept fresh).1≠6:=by
 have O:Wd (A.C P).2.2 a m:=h.C;have i1:Br (A.C P).2.2 k:=hi.C;have n1:FY (A.C P).2.2:=SA hn (NI A P);have z:(A.C P).2.1.Ax=A.Ax:=by unfold Ar.C;split<;>rfl
 have a0:=IM A P;have I:((A.C P).2.1.aq (A.C P).2.2).2.D.n.AH=P.D.n.AH:=(KB _ _).trans a0;unfold Ar.ay;dsimp only
 split
 ·exact NH A P
 ·have L:Wd ((A.C P).2.1.aq (A.C P).2.2).2 a m:=Wd.aL _ O;have Y:Br ((A.C P).2.1.aq (A.C P).2.2).2 k:=Br.aL _ i1;split
  ·exact NY _ _
  ·rename_i W;have d:=QH n1 (Cz W);rw[z]at d;obtain⟨X,i3⟩:=Oj fresh (A.C P).2.1.A9 kept L Y (by omega) E;obtain⟨d3,d4⟩:=K1 fresh (A.C P).2.1.A9 kept ((A.C P).2.1.aq (A.C P).2.2).2;split
   ·exact Sw _ _ _ L (by omega) E (by rw[I];exact H)
   ·have h4:=A2x (A:={ (A.C P).2.1 with A9:=(PD.ah fresh (A.C P).2.1.A9 kept ((A.C P).2.1.aq (A.C P).2.2).2).2.1}) X (PD.ah fresh (A.C P).2.1.A9 kept ((A.C P).2.1.aq (A.C P).2.2).2).2.2.1 (by omega) (by omega) (by rw[NQ,I];exact H);split
    ·exact h4
    ·exact A1Y _ _
end
end
section
open Go.MuLone Go.RowKit
attribute [local go_sem ↓] Go.wp_at_zero Go.wp_at_succ CE
section
variable {w w' w2:World} {sb ab b B:Nat} {mu aA aB A6:Int} {ro:Bool} {lv:Nat->Value} {L L':Nat->List Pt} {A A':Ar} {P P':PD} {F0 FT:Nat->Prop} {a c m N:Nat}
def A3d(w:World)(p:Pu)(h:SF w sb ab b mu aA aB A6 ro L A P FT)(_hFT:∀k,FT k->k<w.heap.size)(hp:Bi p)(hn:A.j.AA=none->CJ (A.j.A9+1)/\AN (A.j.A9+1)/\AN A.j.puts)(aG:A.j.Am.length<=1073741824)(hL:Lets B w)(aH:∀k,FT k->B<=k)(hF:Fit P a c m)(aI:CN (a+1) (c+1) (m+33))(aJ:∀k,k<8->(L k).length<1099511627000)(hl:1<=aA/\aA<=4611686018427387904)(hc:AN A6):
 Ag 66 #[A5 sb,Dt p] w (Al (A0 (A.ad P p).2.1) λw'=>
  Aq w FT w' (λw' d=>SF w' sb ab b mu aA aB A6 ro (if (A.ad P p).1=true then Fk L (Ba A6 aA) p.1.toNat p.2.1 p.2.2 else L) (A.ad P p).2.2.1 (A.ad P p).2.2.2 d)):=by
 have hA:A3 Ab w (w.alloc (.cells #[A0 p.1,A0 p.2.1,A0 p.2.2] 113)):=(A3.I _ w).ak _;have E:=BN w (.cells #[A0 p.1,A0 p.2.1,A0 p.2.2] 113);have Y:w.heap.size<(w.alloc (.cells #[A0 p.1,A0 p.2.1,A0 p.2.2] 113)).heap.size:=by simp
 generalize aK:(w.alloc (.cells #[A0 p.1,A0 p.2.1,A0 p.2.2] 113))=w0 at hA E Y;have I:A3 Ab w w0.drew:=hA.af;obtain⟨lv,F0,h1,h2⟩:=h;have hV:=h1.aw I;have nx:¬F0 w.heap.size:=λhx=>FZ _ (h1.lt _ hx)
 have aD:Hid (Ag 105 #[A5 ab,Dt p] w0.drew (Al (.tuple #[.bool (A.ad P p).1,A0 (A.ad P p).2.1]) λz=>
  (A7 z sb 2 (A5 ab)/\z.heap[w.heap.size]?=some (.cells #[A0 p.1,A0 p.2.1,A0 p.2.2] 113 (0,0)))/\
  Aq w FT z (λw' d=>SF w' sb ab b mu aA aB A6 ro L (A.ad P p).2.2.1 (A.ad P p).2.2.2 d))):=by
  refine(A2u w0.drew p hV.ar hV.lt hp hn aG (hL.aS I) (λk hk=>aH k (h2 k (.inl hk))) hF aI).mono ?_;rintro e z⟨rfl,H⟩;exact⟨rfl,⟨(hV.Af.Aj H.1 hV.ns).c2,(H.1.Ao _ Y nx).trans E⟩,(hV.eh h2 H).a6 I⟩
 have O:Hid (∀z,Aq w FT z (λw' d=>SF w' sb ab b mu aA aB A6 ro L (A.ad P p).2.2.1 (A.ad P p).2.2.2 d)->Ag 60 #[A5 sb,Dt p] z (Al (.tuple #[]) λw'=>
  Aq w FT w' (λw' d=>SF w' sb ab b mu aA aB A6 ro (Fk L (Ba A6 aA) p.1.toNat p.2.1 p.2.2) (A.ad P p).2.2.1 (A.ad P p).2.2.2 d))):=λz H=>by
  obtain⟨c1,F1,h3,h4,h5⟩:=H;refine(Tj z p h3 hp.1 aJ hl hc).mono ?_;rintro e w'⟨rfl,h6⟩;exact⟨rfl,Aq.a7 c1 h5 h6⟩
 have c2:A7 w0 sb 2 (A5 ab):=(h1.aw hA).Af.c2;obtain⟨p1,X,W⟩:=p;unfold Dt at aD O ⊢;dsimp only at aD O E aK ⊢;have q0:A7 w0 w.heap.size 0 (A0 p1):=Gg E;have q1:A7 w0 w.heap.size 1 (A0 X):=Gg E;have q2:A7 w0 w.heap.size 2 (A0 W):=Gg E;generalize hR:A.ad P (p1,X,W)=R at aD O ⊢;obtain⟨aE,R2,R3,R4⟩:=R;dsimp only at aD O ⊢;generalize hL2:Fk L (Ba A6 aA) p1.toNat X W=L2 at O ⊢;have tail:∀aE:Bool,aE=true\/aE=false:=by intro x;cases x<;>simp
 go_enter func66,ntmps66
 go_wp2;refine BP (λw'=>A7 w' sb 2 (A5 ab)/\A7 w' w.heap.size 0 (A0 p1)/\A7 w' w.heap.size 1 (A0 X)/\A7 w' w.heap.size 2 (A0 W)) 10
  (Bq [0,1,2,3,4,5,6,7,8,9] [5]) ⟨c2,q0,q1,q2⟩ ?_
 iterate 5 (refine Bg ?_;(try simp only[An]))
 refine Bw λK hK=>?_;go_simp;refine aD.m ?_;rintro e z⟨rfl,⟨y2,hh⟩,H⟩;have r0:A7 z w.heap.size 0 (A0 p1):=Gg hh;have r1:A7 z w.heap.size 1 (A0 X):=Gg hh;have r2:A7 z w.heap.size 2 (A0 W):=Gg hh;refine hK _ _ ⟨y2,r0,r1,r2⟩ (λhS=>?_);have aF:=A1 (O.o z H);have aM:=A1 H
 (try simp only[An])
 iterate 4 (refine Bg ?_;(try simp only[An]))
 refine Bl ?_;simp only[BI,BH];cases aE
 ·go_wp2;go_ret;exact⟨rfl,by simpa using aM.o⟩
 ·go_wp2_with (go_at_call 60;refine aF.m ?_;rintro e w2⟨rfl,hS⟩;have aL:=A1 hS);go_ret;exact⟨rfl,by simpa using aL.o⟩
def Uk(w:World)(d:Value)(h:Bm w sb mu (A5 ab) aA aB A6 true lv):
 Ag 64 #[A5 sb,d] w (Al (A0 4) λw'=>w=w'):=by
 have c6:=h.cR
 go_enter func64,ntmps64
 go_wp2;go_ret;exact⟨rfl,rfl⟩
def A14(w:World)(x:Nat)(n:Int)(h:SF w sb ab b mu aA aB A6 false L A P FT)(Y:Ag 65 #[A5 x,A5 (x+1),A5 (x+2),A5 (x+3)] w (Al (A0 n) λw'=>Aq w FT w' (λw' d=>SF w' sb ab b mu aA aB A6 false L' A' P' d))):
 Ag 64 #[A5 sb,.func (Fn.func 65) #[] #[A5 x,A5 (x+1),A5 (x+2),A5 (x+3)]] w (Al (A0 n) λw'=>Aq w FT w' (λw' d=>SF w' sb ab b mu aA aB A6 (decide (n≠0)) L' A' P' d)):=by
 obtain⟨lv,F0,h1,h2⟩:=h;have c6:=h1.Af.cR;have W:=A1 Y;by_cases O:n=0
 ·subst O
  go_enter func64,ntmps64
  go_wp2_with (go_at_call 65;refine W.m ?_;rintro e w2⟨rfl,E⟩;have I:=A1 E;obtain⟨-,X,⟨H,aD,z,-⟩,-,-⟩:=E;have y6:=z.Af.cR;have f6:=z.Af.fz 6);go_ret;exact⟨rfl,SFto.D9 I.o 6 _ λlv h=>h.sR false⟩
 ·have hb:(n !=0)=true:=by simpa using O
  have e0:decide (n≠0)=true:=by simpa using O
  rw[e0]
  go_enter func64,ntmps64
  go_wp2_with (go_at_call 65;refine W.m ?_;rintro e w2⟨rfl,E⟩;have I:=A1 E;obtain⟨-,X,⟨H,aD,z,-⟩,-,-⟩:=E;have y6:=z.Af.cR;have f6:=z.Af.fz 6);go_ret;exact⟨rfl,SFto.D9 I.o 6 _ λlv h=>h.sR true⟩
def A15(w:World)(x:Nat)(n:Int)(h:SF w sb ab b mu aA aB A6 false L A P FT)(Y:Ag 67 #[A5 x] w (Al (A0 n) λw'=>Aq w FT w' (λw' d=>SF w' sb ab b mu aA aB A6 false L' A' P' d))):
 Ag 64 #[A5 sb,.func (Fn.func 67) #[] #[A5 x]] w (Al (A0 n) λw'=>Aq w FT w' (λw' d=>SF w' sb ab b mu aA aB A6 (decide (n≠0)) L' A' P' d)):=by
 obtain⟨lv,F0,h1,h2⟩:=h;have c6:=h1.Af.cR;have W:=A1 Y;by_cases O:n=0
 ·subst O
  go_enter func64,ntmps64
  go_wp2_with (go_at_call 67;refine W.m ?_;rintro e w2⟨rfl,E⟩;have I:=A1 E;obtain⟨-,X,⟨H,aD,z,-⟩,-,-⟩:=E;have y6:=z.Af.cR;have f6:=z.Af.fz 6);go_ret;exact⟨rfl,SFto.D9 I.o 6 _ λlv h=>h.sR false⟩
 ·have hb:(n !=0)=true:=by simpa using O
  have e0:decide (n≠0)=true:=by simpa using O
  rw[e0]
  go_enter func64,ntmps64
  go_wp2_with (go_at_call 67;refine W.m ?_;rintro e w2⟨rfl,E⟩;have I:=A1 E;obtain⟨-,X,⟨H,aD,z,-⟩,-,-⟩:=E;have y6:=z.Af.cR;have f6:=z.Af.fz 6);go_ret;exact⟨rfl,SFto.D9 I.o 6 _ λlv h=>h.sR true⟩
def A16(w:World)(x:Nat)(n:Int)(h:SF w sb ab b mu aA aB A6 false L A P FT)(Y:Ag 69 #[A5 x] w (Al (A0 n) λw'=>Aq w FT w' (λw' d=>SF w' sb ab b mu aA aB A6 false L' A' P' d))):
 Ag 64 #[A5 sb,.func (Fn.func 69) #[] #[A5 x]] w (Al (A0 n) λw'=>Aq w FT w' (λw' d=>SF w' sb ab b mu aA aB A6 (decide (n≠0)) L' A' P' d)):=by
 obtain⟨lv,F0,h1,h2⟩:=h;have c6:=h1.Af.cR;have W:=A1 Y;by_cases O:n=0
 ·subst O
  go_enter func64,ntmps64
  go_wp2_with (go_at_call 69;refine W.m ?_;rintro e w2⟨rfl,E⟩;have I:=A1 E;obtain⟨-,X,⟨H,aD,z,-⟩,-,-⟩:=E;have y6:=z.Af.cR;have f6:=z.Af.fz 6);go_ret;exact⟨rfl,SFto.D9 I.o 6 _ λlv h=>h.sR false⟩
 ·have hb:(n !=0)=true:=by simpa using O
  have e0:decide (n≠0)=true:=by simpa using O
  rw[e0]
  go_enter func64,ntmps64
  go_wp2_with (go_at_call 69;refine W.m ?_;rintro e w2⟨rfl,E⟩;have I:=A1 E;obtain⟨-,X,⟨H,aD,z,-⟩,-,-⟩:=E;have y6:=z.Af.cR;have f6:=z.Af.fz 6);go_ret;exact⟨rfl,SFto.D9 I.o 6 _ λlv h=>h.sR true⟩
def A13(w:World)(_x:Nat)(n:Int)(h:SF w sb ab b mu aA aB A6 false L A P FT)(Y:Ag 74 #[A5 ab] w (Al (A0 n) λw'=>Aq w FT w' (λw' d=>SF w' sb ab b mu aA aB A6 false L' A' P' d))):
 Ag 64 #[A5 sb,.func (Fn.func 74) #[A5 ab] #[]] w (Al (A0 n) λw'=>Aq w FT w' (λw' d=>SF w' sb ab b mu aA aB A6 (decide (n≠0)) L' A' P' d)):=by
 obtain⟨lv,F0,h1,h2⟩:=h;have c6:=h1.Af.cR;have W:=A1 Y;by_cases O:n=0
 ·subst O
  go_enter func64,ntmps64
  go_wp2_with (go_at_call 74;refine W.m ?_;rintro e w2⟨rfl,E⟩;have I:=A1 E;obtain⟨-,X,⟨H,aD,z,-⟩,-,-⟩:=E;have y6:=z.Af.cR;have f6:=z.Af.fz 6);go_ret;exact⟨rfl,SFto.D9 I.o 6 _ λlv h=>h.sR false⟩
 ·have hb:(n !=0)=true:=by simpa using O
  have e0:decide (n≠0)=true:=by simpa using O
  rw[e0]
  go_enter func64,ntmps64
  go_wp2_with (go_at_call 74;refine W.m ?_;rintro e w2⟨rfl,E⟩;have I:=A1 E;obtain⟨-,X,⟨H,aD,z,-⟩,-,-⟩:=E;have y6:=z.Af.cR;have f6:=z.Af.fz 6);go_ret;exact⟨rfl,SFto.D9 I.o 6 _ λlv h=>h.sR true⟩
end
def boxed(w:World)(sb:Nat)(k t v:Int):World:=
 (((w.alloc (.cells #[.pointer (some ⟨sb,0,none⟩)] 36)).alloc (.cells #[.int .i64 k] 3)).alloc (.cells #[.int .i64 t] 3)).alloc (.cells #[.int .i64 v] 3)
def Iw(w:World)(x sb:Nat)(k t v:Int):Prop:=
 w.cell? ⟨x,0,none⟩=some (.pointer (some ⟨sb,0,none⟩))/\w.cell? ⟨x+1,0,none⟩=some (.int .i64 k)/\w.cell? ⟨x+2,0,none⟩=some (.int .i64 t)/\w.cell? ⟨x+3,0,none⟩=some (.int .i64 v)
section
variable {w w' w2:World} {sb ab b B:Nat} {mu aA aB A6:Int} {ro:Bool} {lv:Nat->Value} {L L':Nat->List Pt} {A A':Ar} {P P':PD} {F0 FT:Nat->Prop} {a c m N:Nat}
def Pm(w:World)(sb:Nat)(k t v:Int):A3 Ab w (boxed w sb k t v):=((((A3.I _ w).ak _).ak _).ak _).ak _
def A2g(w:World)(sb:Nat)(k t v:Int):(boxed w sb k t v).heap.size=w.heap.size+4:=by unfold boxed;simp
def Pn(w:World)(sb:Nat)(k t v:Int):Iw (boxed w sb k t v) w.heap.size sb k t v:=by
 unfold boxed;refine⟨?_,?_,?_,?_⟩
 all_goals unfold World.cell?
 ·rw[Dc _ _ _ (by simp;try omega),Dc _ _ _ (by simp;try omega),Dc _ _ _ (by simp),BN];rfl
 ·rw[Dc _ _ _ (by simp;try omega),Dc _ _ _ (by simp)];have:=BN (w.aC #[A5 sb] 36) (.cells #[A0 k] 3);have e:(w.aC #[A5 sb] 36).heap.size=w.heap.size+1:=by simp
  rw[e]at this;simp only[this];rfl
 ·rw[Dc _ _ _ (by simp)];have:=BN ((w.aC #[A5 sb] 36).aC #[A0 k] 3) (.cells #[A0 t] 3);have e:((w.aC #[A5 sb] 36).aC #[A0 k] 3).heap.size=w.heap.size+2:=by simp
  rw[e]at this;simp only[this];rfl
 ·have:=BN (((w.aC #[A5 sb] 36).aC #[A0 k] 3).aC #[A0 t] 3) (.cells #[A0 v] 3);have e:(((w.aC #[A5 sb] 36).aC #[A0 k] 3).aC #[A0 t] 3).heap.size=w.heap.size+3:=by simp
  rw[e]at this;simp only[this];rfl
def Iw.Aj{S:Nat->Prop}{x:Nat}{k t v:Int}(h:Iw w x sb k t v)(hc:A3 S w w')(Y:∀i,i<4->¬S (x+i)):Iw w' x sb k t v:=by
 obtain⟨E,I,z,W⟩:=h;have d:∀i u,i<4->w.cell? (Aa (x+i) 0)=some u->w'.cell? (Aa (x+i) 0)=some u:=λi u X hu=>by
  have H:=GN w _ hu;have O:=hc.Ao (x+i) H (Y i X);unfold World.cell? at hu ⊢;rw[O];exact hu
 exact⟨d 0 _ (by omega) E,d 1 _ (by omega) I,d 2 _ (by omega) z,d 3 _ (by omega) W⟩
def Yd(w:World)(x:Nat)(p:Pu)(n:Int)(Q:World->Prop)(h:Iw w x sb p.1 p.2.1 p.2.2)(d:Ag 66 #[A5 sb,Dt p] w (Al (A0 n) λw'=>Q w')):
 Ag 65 #[A5 x,A5 (x+1),A5 (x+2),A5 (x+3)] w (Al (A0 n) λw'=>Q w'):=by
 obtain⟨p1,p2,p3⟩:=p;unfold Dt at d;dsimp only at d h;obtain⟨x0,x1,x2,x3⟩:=h;have z:=A1 d
 go_enter func65,ntmps65
 go_wp2_with (go_at_call 66;refine z.m ?_;rintro e w2⟨rfl,H⟩;have E:=A1 H);go_ret;exact⟨rfl,E.o⟩
def SF.bM(h:SF w sb ab b 0 aA aB A6 ro L A P FT):Aq w FT (w.setCell ⟨sb,0,none⟩ (.int .i32 1)) (λw' d=>SF w' sb ab b 1 aA aB A6 ro L A P d):=h.D9 0 _ λ_ h=>h.s0 1
def Y9(w:World)(p:Pu)(h:SF w sb ab b 0 aA aB A6 false L A P FT)(aE:∀k,FT k->k<w.heap.size)(hp:Bi p)(hn:A.j.AA=none->CJ (A.j.A9+1)/\AN (A.j.A9+1)/\AN A.j.puts)(Y:A.j.Am.length<=1073741824)(hL:Lets B w)(H:∀k,FT k->B<=k)(hF:Fit P a c m)(aG:CN (a+1) (c+1) (m+33))(aI:∀k,k<8->(L k).length<1099511627000)(hl:1<=aA/\aA<=4611686018427387904)(hc:AN A6):
 Ag 23 #[A5 sb,A0 p.1,A0 p.2.1,A0 p.2.2] w (Al (A0 (A.ad P p).2.1) λw'=>
  Aq w FT w' (λw' d=>SF w' sb ab b 0 aA aB A6 (decide ((A.ad P p).2.1≠0)) (if (A.ad P p).1=true then Fk L (Ba A6 aA) p.1.toNat p.2.1 p.2.2 else L) (A.ad P p).2.2.1 (A.ad P p).2.2.2 d)):=by
 have aM:Hid (∀w',Ag 63 #[A0 p.1] w' λe I=>e=.returned (.bool true)/\w'=I):=λw'=>by
  have:=KX w' p.1
  rwa [CH hp.1]at this
 have W:=Pm w sb p.1 p.2.1 p.2.2;have hX:=Pn w sb p.1 p.2.1 p.2.2;have hZ:=A2g w sb p.1 p.2.1 p.2.2;generalize aL:boxed w sb p.1 p.2.1 p.2.2=w0 at W hX hZ;unfold boxed at aL;have hV:=h.aw W;have X:=hL.aS W;have z:=hV.bM;have E:Iw (w0.sC sb 0 (.int .i32 1)) w.heap.size sb p.1 p.2.1 p.2.2:=hX.Aj z.1 λi _ hx=>by have:=aE _ hx;omega
 have aK:Hid (Aq w FT (w0.sC sb 0 (.int .i32 1)) (λw' d=>SF w' sb ab b 1 aA aB A6 false L A P d)):=z.a6 W;obtain⟨k1,aO,s1,s2,s3⟩:=aK.o;have aD:=X.aj z.1 H;have aF:=hL.1
 have O:=A1 (A14 (w0.sC sb 0 (.int .i32 1)) w.heap.size (A.ad P p).2.1 s1 (Yd _ w.heap.size p _ _ E
  (A3d _ p s1 s2 hp hn Y aD (λk hk=>(s3 k hk).elim (H k) λh=>AM aF h) hF aG aI hl hc)))
 have ST:Hid (∀wx R,Aq (w0.sC sb 0 (.int .i32 1)) aO wx R->Aq w FT wx R):=λwx R h=>Aq.a7 k1 s3 h;obtain⟨x0,x1,x2,x3⟩:=hX;obtain⟨y0,y1,y2,y3⟩:=E;have c0:A7 w0 sb 0 (.int .i32 0):=by obtain⟨lv,F0,q,-⟩:=hV;exact q.Af.c0
 have f0:w0.frozen? (Aa sb 0)=false:=by obtain⟨lv,F0,q,-⟩:=hV;exact q.Af.fz 0
 obtain⟨p1,p2,p3⟩:=p;dsimp only at *;generalize hR:A.ad P (p1,p2,p3)=R at O ⊢;obtain⟨aP,R2,R3,R4⟩:=R;dsimp only at O ⊢;generalize hL2:(if aP=true then Fk L (Ba A6 aA) p1.toNat p2 p3 else L)=L2 at O ⊢
 go_enter_defers func23,ntmps23
 go_wp2_with (first
  | (go_at_call 61;refine(HF Tryz.bl (Aa sb 0) _ c0 f0).mono ?_;rintro e w'⟨rfl,rfl⟩)
  | (go_at_call 63;refine(aM.o _).mono ?_;rintro e w'⟨rfl,rfl⟩))
 refine O.m ?_;rintro e w2⟨rfl,hS⟩;have aJ:=A1 (ST.o _ _ hS);go_wp2;refine HG (f:=62) (args:=#[A5 sb]) (by simp) (by simp[go_sem]) ?_;refine(Hz Tryz.bl (Aa sb 0) .returning _ ?_ ?_).mono ?_
 ·obtain⟨-,aN,⟨aH,aQ,a1,-⟩,-,-⟩:=aJ.o;exact a1.Af.c0
 ·obtain⟨-,aN,⟨aH,aQ,a1,-⟩,-,-⟩:=aJ.o;exact a1.Af.fz 0
 rintro e u' I⟨rfl,rfl,rfl⟩;exact⟨_,JE rfl _ _ _,rfl,SFto.D9 aJ.o 0 _ λlv h=>h.s0 0⟩
def A0Q(w:World)(x:Nat)(n:Int)(Q:World->Prop)(h:Bm w sb mu (A5 ab) aA aB A6 ro lv)(O:A7 w x 0 (A5 sb))(d:Ag 68 #[A5 ab,A0 aB] w.drew (Al (A0 n) λw'=>Q w')):
 Ag 67 #[A5 x] w (Al (A0 n) λw'=>Q w'):=by
 have c2:=h.c2;have H:=h.cW;have z:=A1 d
 go_enter func67,ntmps67
 go_wp2;refine BP (λw'=>A7 w' x 0 (A5 sb)/\A7 w' sb 2 (A5 ab)/\A7 w' sb 4 (A0 aB)) 8
  (Bq [0,1,2,3,4,5,6,7] []) ⟨O,c2,H⟩ ?_
 iterate 8 (refine Bg ?_;(try simp only[An]))
 refine Bl ?_;simp only[BI,BH];go_wp2_with (go_at_call 68;refine z.m ?_;rintro e w2⟨rfl,E⟩;have I:=A1 E);go_ret;exact⟨rfl,I.o⟩
def A1I(w:World)(x:Nat)(n o:Int)(Q:World->Prop)(h:Bm w sb mu (A5 ab) aA aB A6 ro lv)(O:A7 w x 0 (A5 sb))(aG:Ag 71 #[A5 sb] w.drew (Al (A0 o) λw'=>A3 Ab w.drew w'))(X:∀w2,A3 Ab w w2->Ag 70 #[A5 ab,A0 aB,A0 o] w2 (Al (A0 n) λw'=>Q w')):
 Ag 69 #[A5 x] w (Al (A0 n) λw'=>Q w'):=by
 have c2:=h.c2;have I:=h.cW;have aD:=A1 X;have aE:Hid (Ag 71 #[A5 sb] w.drew (Al (A0 o) λw'=>(A7 w' x 0 (A5 sb)/\A7 w' sb 2 (A5 ab)/\A7 w' sb 4 (A0 aB))/\A3 Ab w w')):=by
  refine aG.mono ?_;rintro e w'⟨rfl,z⟩;have d:A3 Ab w w':=(A3.I _ w).af.tr z;exact⟨rfl,⟨d.al O,d.al c2,d.al I⟩,d⟩
 go_enter func69,ntmps69
 go_wp2;refine BP (λw'=>A7 w' x 0 (A5 sb)/\A7 w' sb 2 (A5 ab)/\A7 w' sb 4 (A0 aB)) 10
  (Bq [0,1,2,3,4,5,6,7,8,9] [9]) ⟨O,c2,I⟩ ?_
 iterate 9 (refine Bg ?_;(try simp only[An]))
 refine Bw λK Y=>?_;go_simp;refine aE.m ?_;rintro e w2⟨rfl,E,z⟩;refine Y _ _ E (λW=>?_);have H:=A1 (aD.o w2 z)
 (try simp only[An])
 refine Bl ?_;simp only[BI,BH];go_wp2_with (go_at_call 70;refine H.m ?_;rintro e w3⟨rfl,W⟩;have aF:=A1 W);go_ret;exact⟨rfl,aF.o⟩
def QN(w:World)(f g:Nat)(I:(f=24/\g=67)\/(f=25/\g=69))(n:Int)(Q:World->Prop)(c0:w.cell? (Aa sb 0)=some (.int .i32 0))(f0:w.frozen? (Aa sb 0)=false)(hz:sb<w.heap.size)(aE:∀W,W=(w.alloc (.cells #[A5 sb] 36)).setCell (Aa sb 0) (.int .i32 1)->Ag 64 #[A5 sb,.func (Fn.func g) #[] #[A5 w.heap.size]] W (Al (A0 n) λw'=>w'.cell? (Aa sb 0)=some (.int .i32 1)/\w'.frozen? (Aa sb 0)=false/\Q w')):
 Ag f #[A5 sb] w (Al (A0 n) λw'=>∃w2,Q w2/\w'=w2.setCell (Aa sb 0) (.int .i32 0)):=by
 have Y:A3 Ab w (w.alloc (.cells #[A5 sb] 36)):=(A3.I _ w).ak _;have E:=BN w (.cells #[A5 sb] 36);have a0:=Y.al c0;have X:(w.alloc (.cells #[A5 sb] 36)).frozen? (Aa sb 0)=false:=by
  have z:=Y.Ao sb hz (λh=>h);unfold World.frozen? at f0 ⊢;rw[z];exact f0
 have aD:=A1 (aE _ rfl);have H:(w.alloc (.cells #[A5 sb] 36)).cell? (Aa w.heap.size 0)=some (A5 sb):=Gg E;have d:w.heap.size≠sb:=by omega
 have b1:((w.alloc (.cells #[A5 sb] 36)).sC sb 0 (.int .i32 1)).cell? (Aa w.heap.size 0)=some (A5 sb):=by
  have O:=(A3.I (One sb) (w.alloc (.cells #[A5 sb] 36))).ao (b:=sb) rfl 0 (.int .i32 1);have z:=O.Ao w.heap.size (by simp) (λh=>d h);unfold World.cell? at H ⊢;rw[z];exact H
 generalize hw0:(w.alloc (.cells #[A5 sb] 36))=w0 at a0 X aD H b1;rcases I with⟨rfl,rfl⟩|⟨rfl,rfl⟩
 focus go_enter_defers func24,ntmps24
 rotate_left
 focus go_enter_defers func25,ntmps25
 all_goals
  go_wp2_with (go_at_call 61;refine(HF Tryz.bl (Aa sb 0) _ a0 X).mono ?_;rintro e w'⟨rfl,rfl⟩);refine aD.m ?_;rintro e w2⟨rfl,u0,uf,hS⟩;have aF:=A1 hS;go_wp2;refine HG (f:=62) (args:=#[A5 sb]) (by simp) (by simp[go_sem]) ?_;refine(Hz Tryz.bl (Aa sb 0) .returning _ ?_ ?_).mono ?_
  ·exact u0
  ·exact uf
  rintro e u' w''⟨rfl,rfl,rfl⟩;exact⟨_,JE rfl _ _ _,rfl,_,aF.o,rfl⟩
def QM(w:World)(n:Int)(Q:World->Prop)(c0:w.cell? (Aa sb 0)=some (.int .i32 0))(f0:w.frozen? (Aa sb 0)=false)(z:sb<w.heap.size)(h:∀d,d=(w.alloc (.cells #[A5 sb] 36)).setCell (Aa sb 0) (.int .i32 1)->Ag 64 #[A5 sb,.func (Fn.func 67) #[] #[A5 w.heap.size]] d (Al (A0 n) λw'=>w'.cell? (Aa sb 0)=some (.int .i32 1)/\w'.frozen? (Aa sb 0)=false/\Q w')):
 Ag 24 #[A5 sb] w (Al (A0 n) λw'=>∃w2,Q w2/\w'=w2.setCell (Aa sb 0) (.int .i32 0)):=
 QN w _ _ (.inl ⟨rfl,rfl⟩) n Q c0 f0 z h
def WJ(w:World)(n:Int)(Q:World->Prop)(c0:w.cell? (Aa sb 0)=some (.int .i32 0))(f0:w.frozen? (Aa sb 0)=false)(z:sb<w.heap.size)(h:∀d,d=(w.alloc (.cells #[A5 sb] 36)).setCell (Aa sb 0) (.int .i32 1)->Ag 64 #[A5 sb,.func (Fn.func 69) #[] #[A5 w.heap.size]] d (Al (A0 n) λw'=>w'.cell? (Aa sb 0)=some (.int .i32 1)/\w'.frozen? (Aa sb 0)=false/\Q w')):
 Ag 25 #[A5 sb] w (Al (A0 n) λw'=>∃w2,Q w2/\w'=w2.setCell (Aa sb 0) (.int .i32 0)):=
 QN w _ _ (.inr ⟨rfl,rfl⟩) n Q c0 f0 z h
def WH(w:World)(n:Int)(Q:World->Prop)(c0:A7 w sb 0 (.int .i32 0))(f0:w.frozen? (Aa sb 0)=false)(c2:A7 (w.setCell (Aa sb 0) (.int .i32 1)) sb 2 (A5 ab))(H:Ag 64 #[A5 sb,.func (Fn.func 74) #[A5 ab] #[]] (w.setCell (Aa sb 0) (.int .i32 1)) (Al (A0 n) λw'=>A7 w' sb 0 (.int .i32 1)/\w'.frozen? (Aa sb 0)=false/\Q w')):
 Ag 31 #[A5 sb] w (Al (A0 n) λw'=>∃w2,Q w2/\w'=w2.setCell (Aa sb 0) (.int .i32 0)):=by
 have I:=A1 H
 go_enter_defers func31,ntmps31
 go_wp2_with (go_at_call 61;refine(HF Tryz.bl (Aa sb 0) _ c0 f0).mono ?_;rintro e w'⟨rfl,rfl⟩);refine I.m ?_;rintro e w2⟨rfl,z,d,h⟩;have E:=A1 h;go_wp2;refine HG (f:=62) (args:=#[A5 sb]) (by simp) (by simp[go_sem]) ?_;refine(Hz Tryz.bl (Aa sb 0) .returning _ ?_ ?_).mono ?_
 ·exact z
 ·exact d
 rintro e u' w''⟨rfl,rfl,rfl⟩;exact⟨_,JE rfl _ _ _,rfl,_,E.o,rfl⟩
end
end
section
open Go.MuLone Go.RowKit
section
variable {w w' w2:World} {sb ab b B:Nat} {mu aA aB A6:Int} {ro:Bool} {lv:Nat->Value} {L L':Nat->List Pt} {A A':Ar} {P P':PD} {F0 FT:Nat->Prop} {a c m N:Nat}
def SF.c0(h:SF w sb ab b mu aA aB A6 ro L A P FT):A7 w sb 0 (.int .i32 mu)/\w.frozen? (Aa sb 0)=false/\sb<w.heap.size/\A7 w sb 2 (A5 ab):=by
 obtain⟨lv,F0,q,-⟩:=h;exact⟨q.Af.c0,q.Af.fz 0,q.Af.lt,q.Af.c2⟩
def SF.b6(h:SF w sb ab b mu aA aB A6 ro L A P FT)(E:∀k,FT k->B<=k)(f:Nat)(args:List Value)(n:Int)(W:Lets B w)(I:∀z F0,AD z ab b A P F0->(∀k,F0 k->k<z.heap.size)->Lets B z->(∀k,F0 k->B<=k)->Calls Tryz.prog f args.toArray z λe w'=>e=.returned (.int .i64 n)/\Aq z F0 w' (λw' d=>AD w' ab b A' P' d)):
 Calls Tryz.prog f args.toArray w λe w'=>e=.returned (.int .i64 n)/\Aq w FT w' (λw' d=>SF w' sb ab b mu aA aB A6 ro L A' P' d):=by
 obtain⟨lv,F0,q,H⟩:=h;refine(I w F0 q.ar q.lt W (λk O=>E k (H k (.inl O)))).mono ?_;rintro e w'⟨rfl,X⟩;exact⟨rfl,q.eh H X⟩
def A0O(w:World)(n:Int)(h:SF w sb ab b 0 aA aB A6 false L A P FT)(aF:∀k,FT k->k<w.heap.size)(hL:Lets B w)(O:∀k,FT k->B<=k)(aM:∀d F0,AD d ab b A P F0->(∀k,F0 k->k<d.heap.size)->Lets B d->(∀k,F0 k->B<=k)->Ag 68 #[A5 ab,A0 aB] d (Al (A0 n) λw'=>Aq d F0 w' (λw' z=>AD w' ab b A' P' z))):
 Ag 24 #[A5 sb] w (Al (A0 n) λw'=>Aq w FT w' (λw' z=>SF w' sb ab b 0 aA aB A6 (decide (n≠0)) L A' P' z)):=by
 obtain⟨c0,f0,hz,-⟩:=h.c0;have W:A3 Ab w (w.aC #[A5 sb] 36):=(A3.I _ w).ak _;have aD:=BN w (.cells #[A5 sb] 36);have aG:=hL.1;refine(QM w n (λw2=>Aq w FT w2 (λw' z=>SF w' sb ab b 1 aA aB A6 (decide (n≠0)) L A' P' z)) c0 f0 hz (λd aJ=>?_)).mono ?_
 ·have H:=(h.aw W).bM;rw[<-aJ]at H;obtain⟨X,aH,s1,s2,s3⟩:=H;have aE:=(hL.aS W).aj X O;have b0:(w.aC #[A5 sb] 36).cell? (Aa w.heap.size 0)=some (A5 sb):=Gg aD;have hx:d.cell? (Aa w.heap.size 0)=some (A5 sb):=by
   have hb:=X.Ao w.heap.size (by simp) (λhx=>FZ _ (aF _ hx));unfold World.cell? at b0 ⊢;rw[hb];exact b0
  have I:∀k,aH k->B<=k:=λk hk=>(s3 k hk).elim (O k) λh=>AM aG (AM W.Ak h)
  obtain⟨aI,aL,q,hs⟩:=s1;have s1:SF d sb ab b 1 aA aB A6 false L A P aH:=⟨aI,aL,q,hs⟩;have body:Ag 67 #[A5 w.heap.size] d (Al (A0 n) λw'=>Aq d aH w' (λw' z=>SF w' sb ab b 1 aA aB A6 false L A' P' z)):=by
   have Y:A3 Ab d d.drew:=(A3.I _ d).af;refine A0Q d w.heap.size n _ q.Af hx ?_;refine((s1.aw Y).b6 I _ [A5 ab,A0 aB] n (aE.aS Y) aM).mono ?_;rintro e w'⟨rfl,E⟩;exact⟨rfl,E.a6 Y⟩
  refine(A15 d w.heap.size n s1 body).mono ?_;rintro e w'⟨rfl,E⟩;have aK:=(Aq.a7 X s3 E).a6 W;obtain⟨-,F3,q3,-,-⟩:=E;obtain⟨d0,df,-,-⟩:=q3.c0;exact⟨rfl,d0,df,aK⟩
 ·rintro e w'⟨rfl,w2,E,rfl⟩;exact⟨rfl,SFto.D9 E 0 _ λlv h=>h.s0 0⟩
def A1H(w:World)(n:Int)(h:SF w sb ab b 0 aA aB A6 false L A P FT)(aF:∀k,FT k->k<w.heap.size)(hL:Lets B w)(O:∀k,FT k->B<=k)(hl:1<=aA/\aA<=4611686018427387904)(hc:AN A6)(aM:∀d F0,AD d ab b A P F0->(∀k,F0 k->k<d.heap.size)->Lets B d->(∀k,F0 k->B<=k)->Ag 70 #[A5 ab,A0 aB,A0 (Ba A6 aA)] d (Al (A0 n) λw'=>Aq d F0 w' (λw' z=>AD w' ab b A' P' z))):
 Ag 25 #[A5 sb] w (Al (A0 n) λw'=>Aq w FT w' (λw' z=>SF w' sb ab b 0 aA aB A6 (decide (n≠0)) L A' P' z)):=by
 obtain⟨c0,f0,hz,-⟩:=h.c0;have W:A3 Ab w (w.aC #[A5 sb] 36):=(A3.I _ w).ak _;have aD:=BN w (.cells #[A5 sb] 36);have aG:=hL.1;refine(WJ w n (λw2=>Aq w FT w2 (λw' z=>SF w' sb ab b 1 aA aB A6 (decide (n≠0)) L A' P' z)) c0 f0 hz (λd aJ=>?_)).mono ?_
 ·have H:=(h.aw W).bM;rw[<-aJ]at H;obtain⟨X,aH,s1,s2,s3⟩:=H;have aE:=(hL.aS W).aj X O;have b0:(w.aC #[A5 sb] 36).cell? (Aa w.heap.size 0)=some (A5 sb):=Gg aD;have hx:d.cell? (Aa w.heap.size 0)=some (A5 sb):=by
   have hb:=X.Ao w.heap.size (by simp) (λhx=>FZ _ (aF _ hx));unfold World.cell? at b0 ⊢;rw[hb];exact b0
  have I:∀k,aH k->B<=k:=λk hk=>(s3 k hk).elim (O k) λh=>AM aG (AM W.Ak h)
  obtain⟨aI,aL,q,hs⟩:=s1;have s1:SF d sb ab b 1 aA aB A6 false L A P aH:=⟨aI,aL,q,hs⟩;have body:Ag 69 #[A5 w.heap.size] d (Al (A0 n) λw'=>Aq d aH w' (λw' z=>SF w' sb ab b 1 aA aB A6 false L A' P' z)):=by
   have kd:A3 Ab d d.drew:=(A3.I _ d).af;refine A1I d w.heap.size n (Ba A6 aA) _ q.Af hx (M8 d.drew sb A6 aA (q.Af.Aj kd λh=>h).c3 (q.Af.Aj kd λh=>h).cK hl hc) λw2 Y=>?_;refine((s1.aw Y).b6 I _ [A5 ab,A0 aB,A0 (Ba A6 aA)] n (aE.aS Y) aM).mono ?_;rintro e w'⟨rfl,E⟩;exact⟨rfl,E.a6 Y⟩
  refine(A16 d w.heap.size n s1 body).mono ?_;rintro e w'⟨rfl,E⟩;have aK:=(Aq.a7 X s3 E).a6 W;obtain⟨-,F3,q3,-,-⟩:=E;obtain⟨d0,df,-,-⟩:=q3.c0;exact⟨rfl,d0,df,aK⟩
 ·rintro e w'⟨rfl,w2,E,rfl⟩;exact⟨rfl,SFto.D9 E 0 _ λlv h=>h.s0 0⟩
def We(w:World)(n:Int)(h:SF w sb ab b 0 aA aB A6 false L A P FT)(X:Lets B w)(E:∀k,FT k->B<=k)(aD:∀z F0,AD z ab b A P F0->(∀k,F0 k->k<z.heap.size)->Lets B z->(∀k,F0 k->B<=k)->Ag 74 #[A5 ab] z (Al (A0 n) λw'=>Aq z F0 w' (λw' d=>AD w' ab b A' P' d))):
 Ag 31 #[A5 sb] w (Al (A0 n) λw'=>Aq w FT w' (λw' d=>SF w' sb ab b 0 aA aB A6 (decide (n≠0)) L A' P' d)):=by
 obtain⟨c0,f0,-,-⟩:=h.c0;have I:=X.1;obtain⟨W,F1,s1,s2,s3⟩:=h.bM;obtain⟨-,-,-,c2⟩:=s1.c0;refine(WH (ab:=ab) w n (λw2=>Aq w FT w2 (λw' d=>SF w' sb ab b 1 aA aB A6 (decide (n≠0)) L A' P' d)) c0 f0 c2 ?_).mono ?_
 ·refine(A13 _ 0 n s1 (s1.b6 (λk hk=>(s3 k hk).elim (E k) λh=>AM I h) _ [A5 ab] n (X.aj W E) aD)).mono ?_;rintro e w'⟨rfl,H⟩;have O:=Aq.a7 W s3 H;obtain⟨-,F3,q3,-,-⟩:=H;obtain⟨d0,Y,-,-⟩:=q3.c0;exact⟨rfl,d0,Y,O⟩
 ·rintro e w'⟨rfl,w2,H,rfl⟩;exact⟨rfl,SFto.D9 H 0 _ λlv h=>h.s0 0⟩
end
end
end Go.Proofs.YtodcnkbblippnaaGreatDoor
