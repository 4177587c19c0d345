/- Part 20 of a proof: walks of the program. -/
import Derived.Test.YtodcnkbblippnaaGreatDoorPk19
namespace Go.Proofs.YtodcnkbblippnaaGreatDoor
set_option maxRecDepth 100000
set_option maxHeartbeats 32000000
set_option linter.defProp false
open Go.Proofs.Tryz
section
open Go.RowKit
def Cv(t:Nat):Int×Int:=(t,400000*(t:Int))
def Ha{t d:Nat}(h:t<=d):HD (Cv t) (Cv d):=⟨by simp only[Cv];omega,by simp only[Cv];omega⟩
structure PB (P:PD) (t:Nat):Prop where
 CQ:Fit P (3*t+20) (2000000*(t+1)) (40*t+1000)
 Au:Bu P (400000*(t+1))
 refQ:0<=P.D.n.Bm/\P.D.n.Bm<=t
 La:0<=P.D.n.fulls/\P.D.n.fulls<=t
def PB.aa{P:PD}{t d:Nat}(h:PB P t)(ht:t<=d):PB P d:=
 ⟨h.CQ.aa (by omega) (by omega) (by omega),h.Au.aa (by omega),by have:=h.refQ;omega,by have:=h.La;omega⟩
def Hs(P:PD)(e:Int)(P':PD):Prop:=(e=0/\P'.D.n.Bm=P.D.n.Bm/\P'.D.n.fulls=P.D.n.fulls/\P'.D.n.AF=P.D.n.AF)\/
 (e=5/\P'.D.n.Bm=P.D.n.Bm+1/\P'.D.n.fulls=P.D.n.fulls)\/(e=6/\P'.D.n.Bm=P.D.n.Bm+1/\P'.D.n.fulls=P.D.n.fulls+1/\P'.D.n.AF=P.D.n.AF)
section
variable {bd:Int×Int} {P P':PD} {A:Ar} {sg cl:List (Int×List Pu)} {ol:Option (List Pu)} {puts:List Pu} {A8:Nat} {o:Int} {t:Nat}
def Cs.dq{e:Int}(h:Cs P.D.n e P'.D.n)(z:PB P t)(ht:t<=200000)(he:e=0\/e=5\/e=6):Hs P e P':=by
 have h1:=z.refQ;have h2:=z.La;have E:wrap64 (P.D.n.Bm+1)=P.D.n.Bm+1:=by unfold wrap64;omega
 have H:wrap64 (P.D.n.fulls+1)=P.D.n.fulls+1:=by unfold wrap64;omega
 rcases h with⟨a,b,c,d,f⟩|⟨a,b,c⟩|⟨a,b,c,d⟩
 ·exact .inl ⟨by omega,c,d,f⟩
 ·exact .inr (.inl ⟨a,b.trans E,c⟩)
 ·exact .inr (.inr ⟨a,b.trans E,c.trans H,d⟩)
def Hs.refQ{e:Int}(h:Hs P e P')(d:PB P t):(0<=P'.D.n.Bm/\P'.D.n.Bm<=(t+1:Nat))/\0<=P'.D.n.fulls/\P'.D.n.fulls<=(t+1:Nat):=by
 have h1:=d.refQ;have h2:=d.La;rcases h with⟨_,b,c,_⟩|⟨_,b,c⟩|⟨_,b,c,_⟩<;>rw[b,c]<;>omega
def Y9{l:List Int}(d:l.Pairwise (· < ·)){t:Nat}(h:∀x∈l,1<=x/\x<=t):l.length<=t:=by
 have:=IS (l':=(List.range t).map λ(i:Nat)=>(i:Int)+1) (d.imp λh=>VP h) λx z=>by
  obtain⟨h1,h2⟩:=h x z;exact Cr.2 ⟨(x-1).toNat,Kg.2 (by omega),by omega⟩
 simpa using this
structure PR (A:Ar) (P:PD) (sg cl:List (Int×List Pu)) (ol:Option (List Pu)) (t:Nat):Prop where
 j:0<=A.j.Aa/\A.j.Aa<=t
 jn:isNum (A.j.Aa+1)=true
 s:0<=A.Aa/\A.Aa<=400000*(t:Int)
 Am:A.j.Am.length<=t
 segs:A.ix.segs.length<=t/\sg.length<=t
 Cp:(B7 sg cl ol).length<=t/\(Ax cl++ol.getD []).length<=t
 Ay:P.Ay.length<=3*t+20
 MM:A.Ay.length<=2*t+1
def SI.bF(h:SI (Cv t) A P puts A8 o sg cl ol)(hp:PB P t)(hl:puts.length<=t)(ht:t<=200000):PR A P sg cl ol t:=by
 have Y:=h.AX.EG.1;have I:=h.Ee.2.1;have h3:=h.AX.Ev.1;have L:=h.Ee.2.2;simp only[Cv]at I L;have hall:=h.Cp.2.2;have h5:(B7 sg cl ol).length=(Ax sg).length+(Ax cl++ol.getD []).length:=by unfold B7;rw[B1]
 have hseg:sg.length<=(Ax sg).length:=by
  have:=H9 (ws:=sg.map (·.2)) λw hw=>by
   obtain⟨x,d,rfl⟩:=Cr.1 hw;exact h.Ee.1.2.2 x d
  rw[Fx]at this;unfold Ax;rw[VA];exact this
 have hsl:A.ix.segs.length=sg.length:=by rw[<-h.AX.segs,Fx]
 have z:A.j.Am.length<=t:=by
  refine Y9 h.AX.H8 λx d=>?_;rw[h.AX.bS]at d;have W:∀y∈cl,1<=y.1/\y.1<=t:=λy E=>by
   have q:=(h.AX.CW y E).1;have O:=q.1;unfold isNum at O;simp at O;have:=q.2;omega
  cases ol with
  | none=>
   obtain⟨y,E,rfl⟩:=Cr.1 d;exact W y E
  | some l=>
   unfold shut at d;rw[Eg]at d;rcases AV.1 d with d|d
   ·obtain⟨y,E,rfl⟩:=Cr.1 d;exact W y E
   ·simp at d;have q:=h.AX.AB.2.2.2.2;unfold isNum at q;simp at q;omega
 have H:P.Ay.length<=3*t+20:=by rw[Ho];exact hp.CQ.A4
 refine⟨⟨Y,I⟩,by unfold isNum;simp;omega,⟨h3,L⟩,z,⟨by omega,by omega⟩,⟨by omega,by omega⟩,H,?_⟩;unfold Ar.Ay;simp only[B1,Cx,Fx];omega
end
structure St (t:Nat) (A:Ar) (P:PD) (puts:List Pu) (A8:Nat) (o:Int) (ro:Bool):Prop where
 pb:PB P t
 di:DI (Cv t) P puts A8 o
 rd:Reads (Cv t) P puts o
 si:ro=false->∃sg cl ol,SI (Cv t) A P puts A8 o sg cl ol/\A.AQ.length<=3*t+20
 pu:∀p∈puts,Bh p
 B5:puts.length<=t
 le:A8<=puts.length
 AF:P.D.n.AF=false
section
variable {P P':PD} {A A':Ar} {puts:List Pu} {A8:Nat} {o:Int} {t:Nat} {ro:Bool}
def ET.bc{bd:Int×Int}{V:View}{d n:Int}{ahead:Nat}(h:ET bd V puts A8 o n ahead)(z:o<=d):ET bd V puts A8 d n ahead:=by
 obtain⟨ix,sg,cl,l,nb,c,H,E,I,r⟩:=h;exact⟨ix,sg,cl,l,nb,c,H,E,I.bc z,r⟩
def SI.bc{bd:Int×Int}{sg cl:List (Int×List Pu)}{ol:Option (List Pu)}{H:Int}(h:SI bd A P puts A8 o sg cl ol)(d:o<=H):SI bd A P puts A8 H sg cl ol:=
 ⟨h.di.bc d,h.AX,by obtain⟨nb,E,z,L⟩:=h.Hq;exact⟨nb,E,z.bc d,L⟩,h.Gj,λl e=>by
  obtain⟨f,E,z⟩:=h.AB l e
  exact⟨f,E,λs I=>(z s I).imp id λq=>⟨q.1,q.2.bc d⟩⟩,h.CO,h.Ee⟩
def St.bc{z:Int}(h:St t A P puts A8 o ro)(d:o<=z):St t A P puts A8 z ro:=
 ⟨h.pb,h.di.bc d,h.rd.bc d,λe=>by obtain⟨sg,cl,ol,H,E⟩:=h.si e;exact⟨sg,cl,ol,H.bc d,E⟩,h.pu,h.B5,h.le,h.AF⟩
def St.aa{z:Nat}(h:St t A P puts A8 o ro)(d:t<=z):St z A P puts A8 o ro:=
 ⟨h.pb.aa d,h.di.aW (Ha d),h.rd.aW (Ha d),λe=>by obtain⟨sg,cl,ol,E,h2⟩:=h.si e;exact⟨sg,cl,ol,E.aW (Ha d),by omega⟩,h.pu,by have:=h.B5;omega,h.le,h.AF⟩
def St.du{q:List Pu}(E:PB P t)(z:DI (Cv t) P q A8 o)(L:Reads (Cv t) P q o)(H:∀p∈q,Bh p)(I:q.length<=t)(h:A8<=q.length)(d:P.D.n.AF=false):St t A P q A8 o true:=
 ⟨E,z,L,λe=>(by cases e),H,I,h,d⟩
def St.ad(h:St t A P puts A8 o false)(ht:t+1<=200000)(p:Pu)(L:Bh p):
 PB (A.ad P p).2.2.2 (t+1)/\Hs P (A.ad P p).2.1 (A.ad P p).2.2.2/\DI (Cv (t+1)) (A.ad P p).2.2.2 (puts++[p]) A8 o/\
  ((A.ad P p).1=true->Reads (Cv (t+1)) (A.ad P p).2.2.2 (puts++[p]) o)/\((A.ad P p).1=false->DI (Cv (t+1)) (A.ad P p).2.2.2 puts A8 o/\Reads (Cv (t+1)) (A.ad P p).2.2.2 puts o)/\
  ((A.ad P p).2.1=0->(A.ad P p).1=true/\St (t+1) (A.ad P p).2.2.1 (A.ad P p).2.2.2 (puts++[p]) A8 o false)/\((A.ad P p).2.1=6->P.D.n.AG-B6 P.F P.D.A4<200):=by
 obtain⟨sg,cl,ol,Y,hll⟩:=h.si rfl;have W:=Y.bF h.pb h.B5 (by omega);have hj:=W.j;have O:=Y.aW (Ha (Ep t));obtain⟨a1,a2,a3,a4⟩:=O.ad (λ_=>⟨W.jn,by simp only[Cv];omega⟩) p L;have E:=Y.e3 (λ_=>W.jn) p L (by omega);have d:=(A3P A P p).dq h.pb (by omega) E;obtain⟨r1,r2⟩:=d.refQ h.pb;have I:PB (A.ad P p).2.2.2 (t+1):=⟨(h.pb.CQ.fH p).aa (by omega) (by omega) (by omega),(A3y h.pb.Au p).aa (by omega),r1,r2⟩;have hlen:=h.B5;have hle:=h.le;refine⟨I,d,a1,a2,a3,λe=>?_,λe=>A3A e⟩;obtain⟨b1,b2,b3⟩:=a4 e;refine⟨b1,I,a1,a2 b1,λ_=>⟨sg,cl,_,b2,by rw[b3];simp⟩,λq H=>?_,by simp;omega,by simp;omega,?_⟩
 ·rcases AV.1 H with H|H
  ·exact h.pu q H
  ·simp at H;subst H;exact L
 ·rcases d with⟨_,_,_,z⟩|⟨z,_⟩|⟨z,_⟩
  ·rw[z];exact h.AF
  ·rw[e]at z;cases z
  ·rw[e]at z;cases z
def St.ae(h:St t A P puts A8 o false)(ht:t+1<=200000):
 PB (A.ae P).2.2 (t+1)/\Hs P (A.ae P).1 (A.ae P).2.2/\DI (Cv (t+1)) (A.ae P).2.2 puts A8 o/\Reads (Cv (t+1)) (A.ae P).2.2 puts o/\
  ((A.ae P).1=0->St (t+1) (A.ae P).2.1 (A.ae P).2.2 puts puts.length o false)/\(A.ae P).1≠6:=by
 obtain⟨sg,cl,ol,O,hll⟩:=h.si rfl;have H:=O.aW (Ha (Ep t));obtain⟨⟨a1,L⟩,Y⟩:=H.ae;have hcode:=O.gh (by omega);have d:=(A3O A P).dq h.pb (by omega) (by omega);obtain⟨W,r2⟩:=d.refQ h.pb;have E:PB (A.ae P).2.2 (t+1):=⟨h.pb.CQ.fV.aa (by omega) (by omega) (by omega),(A3x h.pb.Au).aa (by omega),W,r2⟩;have hlen:=h.B5;refine⟨E,d,a1,L,λe=>?_,UR A P⟩;obtain⟨I,b2,b3⟩:=Y e;refine⟨E,I.di,L,λ_=>⟨sg,cl,ol,I,by rw[b2];simp⟩,h.pu,by omega,As _,?_⟩;rcases d with⟨_,_,_,z⟩|⟨z,_⟩|⟨z,_⟩
 ·rw[z];exact h.AF
 ·rw[e]at z;cases z
 ·rw[e]at z;cases z
def PB.aG{sg cl:List (Int×List Pu)}{ol:Option (List Pu)}(h:PB P t)(L:G5 P)(I:PR A P sg cl ol t)(ht:t+1<=200000)(kept:List Int)(fresh:List (List Pu))(hk:kept.length<=t)(hf:fresh.length<=t)(H:∀l∈fresh,l.length<=t)(Y:(A.aG P kept fresh).1=0\/(A.aG P kept fresh).1=5\/(A.aG P kept fresh).1=6):PB (A.aG P kept fresh).2.2 (t+1)/\Hs P (A.aG P kept fresh).1 (A.aG P kept fresh).2.2:=by
 have d:=(A3H A P kept fresh).dq h (by omega) Y;obtain⟨z,O⟩:=d.refQ h;have hc:=I.MM;have E:=h.CQ.aG (A:=A) kept fresh;obtain⟨w,i⟩:=Ya (a:=3*(t+1)+20) (m:=40*(t+1)+1000) (A:=A) (h.CQ.aa (a':=3*(t+1)+20) (m':=40*(t+1)+1000) (by omega) (As _) (by omega)).wd h.Au L kept fresh (by omega) (λl W=>by have:=H l W;omega) (by omega);exact⟨⟨(w.CQ E).aa (As _) (by omega) (As _),i.aa (by omega),z,O⟩,d⟩
def St.aS{Al:Int}(h:St t A P puts A8 o false)(hw:BU (AA Al))(ht:t+1<=200000):
 PB (A.aS P Al).2.2 (t+1)/\Hs P (A.aS P Al).1 (A.aS P Al).2.2/\DI (Cv (t+1)) (A.aS P Al).2.2 puts A8 o/\Reads (Cv (t+1)) (A.aS P Al).2.2 puts o/\
  ((A.aS P Al).1=0->St (t+1) (A.aS P Al).2.1 (A.aS P Al).2.2 puts puts.length o false):=by
 obtain⟨sg,cl,ol,W,hll⟩:=h.si rfl;have E:=W.bF h.pb h.B5 (by omega);obtain⟨n1,n2⟩:=E.Cp;obtain⟨n3,n4⟩:=E.segs;have n5:=E.Ay;have n6:=E.Am;have n7:=E.s;have aB:=W.aW (Ha (Ep t));obtain⟨⟨a1,a2⟩,a3⟩:=aB.aS hw E.jn n1 (by omega) (by omega) (by simp only[Cv];omega) (by omega);have I:=W.fY hw E.jn n1 (by omega) (by omega) (by omega);have hp:=W.AX.puts W.CO;have L:=Hn hw (Ax cl++ol.getD []);have hfl:=H9 L.ne;have hfl2:=L.B5;have e:A.aS P Al=A.aG P A.ix.segs (BA Al (Ax cl++ol.getD [])):=by
  unfold Ar.aS;rw[hp,Ae (by simp)]
 have z:=h.pb.aG (A:=A) h.di.bh E ht A.ix.segs (BA Al (Ax cl++ol.getD [])) n3 (by omega) (λl hl=>by
  have:=(Nc hl).length_le
  omega) (by rw[<-e];exact I)
 rw[<-e]at z;obtain⟨O,d⟩:=z;have hlen:=h.B5;refine⟨O,d,a1,a2,λY=>?_⟩;obtain⟨aA,b1,b2,_⟩:=a3 Y;refine⟨O,b1.di,a2,λ_=>⟨aA,[],none,b1,by rw[b2];simp⟩,h.pu,by omega,As _,?_⟩;rcases d with⟨_,_,_,H⟩|⟨H,_⟩|⟨H,_⟩
 ·rw[H];exact h.AF
 ·rw[Y]at H;cases H
 ·rw[Y]at H;cases H
def St.aQ{Al:Int}(h:St t A P puts A8 o false)(hw:BU (AA Al))(ht:t+1<=200000):
 PB (A.aQ P Al o).2.2 (t+1)/\Hs P (A.aQ P Al o).1 (A.aQ P Al o).2.2/\DI (Cv (t+1)) (A.aQ P Al o).2.2 puts A8 o/\Reads (Cv (t+1)) (A.aQ P Al o).2.2 puts o/\
  ((A.aQ P Al o).1=0->St (t+1) (A.aQ P Al o).2.1 (A.aQ P Al o).2.2 puts puts.length o false):=by
 obtain⟨sg,cl,ol,O,hll⟩:=h.si rfl;have H:=O.bF h.pb h.B5 (by omega);obtain⟨n1,n2⟩:=H.Cp;obtain⟨n3,n4⟩:=H.segs;have n5:=H.Ay;have n6:=H.Am;have n7:=H.s;have aD:=O.aW (Ha (Ep t));obtain⟨⟨a1,a2⟩,a3⟩:=aD.aQ hw H.jn n1 (by omega) (by omega) (by simp only[Cv];omega) (by omega);have L:=O.fT hw H.jn n1 (by omega) (by omega) (by omega);have hp:=O.AX.puts O.CO;have W:=Hn hw (B7 sg cl ol);have hfl:=H9 W.ne;have hfl2:=W.B5;have I:=JM sg o (BA Al (B7 sg cl ol));have aA:=I.length_eq;have hal:(DR o (BA Al (B7 sg cl ol))).length<=(BA Al (B7 sg cl ol)).length:=Jg _ _;rw[B1,Fx]at aA;have hks:(BL sg o (BA Al (B7 sg cl ol))).1.length=(Gf sg o (BA Al (B7 sg cl ol))).length:=by rw[JN,Fx]
 have e:A.aQ P Al o=A.aG P ((BL sg o (BA Al (B7 sg cl ol))).1.mergeSort λx y=>decide (x<=y)) (BL sg o (BA Al (B7 sg cl ol))).2:=by
  unfold Ar.aQ;rw[O.AX.b8];dsimp only
  have z:sg.flatMap (·.2)++(P.puts A.j.Am).1=B7 sg cl ol:=by rw[hp];rfl
  rw[z,hp,Ae (by simp)]
 have E:=h.pb.aG (A:=A) h.di.bh H ht ((BL sg o (BA Al (B7 sg cl ol))).1.mergeSort λx y=>decide (x<=y)) (BL sg o (BA Al (B7 sg cl ol))).2 (by rw[Nh];omega) (by omega) (λl hl=>by
  have:=(Nc (J3 hl)).length_le
  omega) (by rw[<-e];exact L)
 rw[<-e]at E;obtain⟨Y,d⟩:=E;have hlen:=h.B5;refine⟨Y,d,a1,a2,λe0=>?_⟩;obtain⟨aB,b1,b2,_⟩:=a3 e0;refine⟨Y,b1.di,a2,λ_=>⟨aB,[],none,b1,by rw[b2];simp⟩,h.pu,by omega,As _,?_⟩;rcases d with⟨_,_,_,z⟩|⟨z,_⟩|⟨z,_⟩
 ·rw[z];exact h.AF
 ·rw[e0]at z;cases z
 ·rw[e0]at z;cases z
def St.aU(d:PB P t)(I:DI (Cv t) P puts A8 o)(L:Reads (Cv t) P puts o)(O:∀p∈puts,Bh p)(hl:puts.length<=t)(z:A8<=puts.length)(h:P.D.n.AF=false)(ht:t<=200000):
 ∃A H,Ar.aU P=.ok (A,H)/\St t A P puts A8 o false/\Cb o H puts/\(∀p∈H,Bh p):=by
 obtain⟨A',sg,cl,Y,E,h3,W⟩:=SI.aU I (by simp only[Cv];omega) L z (by omega);refine⟨A',_,Y,⟨d,I,L,λ_=>⟨sg,cl,none,E,?_⟩,O,hl,z,h⟩,h3,λp d=>?_⟩
 ·rw[W];have h5:(A'.aY P).length<=P.Ay.length:=Jg _ _;have h6:P.Ay.length<=3*t+20:=by rw[Ho];exact d.CQ.A4
  omega
 ·rcases AV.1 d with d|d
  ·exact E.AX.cT p d
  ·exact E.AX.bZ p d
def PB.bl(h:PB P t)(n:DN)(E:n.AG=P.D.n.AG)(d:0<=n.Bv/\n.Bv<=9223372036854775807)(H:n.Bm=P.D.n.Bm)(z:n.fulls=P.D.n.fulls):PB ⟨{P.D with n:=n},P.F⟩ t:=
 ⟨⟨h.CQ.A4,h.CQ.AP,h.CQ.Fs,h.CQ.Ak,h.CQ.B5,by rw[E];exact h.CQ.AG,d⟩,h.Au,by rw[H];exact h.refQ,by rw[z];exact h.La⟩
def St.bl(h:St t A P puts A8 o ro)(n:DN)(H:n.AG=P.D.n.AG)(z:0<=n.Bv/\n.Bv<=9223372036854775807)(L:n.Bm=P.D.n.Bm)(E:n.fulls=P.D.n.fulls)(I:n.AF=P.D.n.AF):St t A ⟨{P.D with n:=n},P.F⟩ puts A8 o ro:=
 ⟨h.pb.bl n H z L E,⟨h.di.Dw,h.di.Au,h.di.Ce,h.di.Cu⟩,h.rd.ay λ_=>rfl,λe=>by
  obtain⟨sg,cl,ol,q,d⟩:=h.si e
  exact⟨sg,cl,ol,⟨⟨q.di.Dw,q.di.Au,q.di.Ce,q.di.Cu⟩,q.AX.ay λ_=>rfl,q.Hq,q.Gj,q.AB,q.CO,q.Ee⟩,d⟩,h.pu,h.B5,h.le,I.trans h.AF⟩
def G8(t:Nat)(P:PD)(puts:List Pu)(A8:Nat)(o:Int)(h:Bool):Prop:=
 PB P t/\DI (Cv t) P puts A8 o/\(∀p∈puts,Bh p)/\puts.length<=t/\A8<=puts.length/\
  (P.D.n.AF=true\/∃d,A8<=d/\d<=puts.length/\(h=false->d=puts.length)/\∀z n,o<=z->d<=n->n<=puts.length->Cb z (puts.take d) (puts.take n)->DI (Cv t) P (puts.take n) A8 z/\Reads (Cv t) P (puts.take n) z)
def St.dK(h:St t A P puts A8 o ro)(d:Bool):G8 t P puts A8 o d:=
 ⟨h.pb,h.di,h.pu,h.B5,h.le,.inr ⟨puts.length,h.le,As _,λ_=>rfl,λo' n z h2 h3 _=>by
  have e:n=puts.length:=by omega
  subst e;rw[Cl]
  exact⟨h.di.bc z,h.rd.bc z⟩⟩⟩
def A2n(h:PB P t)(hd:DI (Cv t) P puts A8 o)(z:Int)(d:List Int):PB (P.aT z d) t:=by
 have H:=Uq P.D z;generalize W:G3 P.D z=s at H;have L:(P.aT z d).D.A4=s:=by unfold PD.aT Fp;dsimp only;exact W
 have aD:(P.aT z d).D.AP=s:=by unfold PD.aT Fp;dsimp only;exact W
 have Y:(P.aT z d).D.Av=[]:=rfl;have O:∀e∈s,P.D.Au e.2:=λe E=>by
  rcases BQ.1 H with H|H
  ·rw[H]at E;exact .inr (.inl ⟨e,E,rfl⟩)
  ·exact .inr (.inr ⟨s,H,e,E,rfl⟩)
 have I:∀f,(P.aT z d).D.Au f->P.D.Au f/\∃e∈s,e.2=f:=λf hf=>by
  rcases hf with⟨e,E,rfl⟩|⟨e,E,rfl⟩|⟨l,hl,_⟩
  ·rw[L]at E;exact⟨O e E,e,E,rfl⟩
  ·rw[aD]at E;exact⟨O e E,e,E,rfl⟩
  ·rw[Y]at hl;cases hl
 have aA:s.length<=3*t+20:=by
  rcases BQ.1 H with H|H
  ·rw[H];exact h.CQ.AP
  ·exact h.CQ.Fs s H
 have hr:∀e∈s,0<=(P.F e.2).2/\(P.F e.2).2<=(P.F e.2).1.length:=λe E=>by
  obtain⟨ix,sg,cl,lo,nb,hL,_⟩:=hd.Dw s H;have hv:vw P.F s e.1.data.toList=some (P.F e.2):=by
   unfold vw;rw[Ge];cases hk:lookup s e.1 with
   | none=>exact absurd rfl (IV.1 hk e E)
   | some g=>
    obtain⟨i,hi,e1⟩:=DW (E8 hk);obtain⟨j,hj,e2⟩:=DW E;have:i=j:=JI (hd.Ce s H) (by simpa using hi) (by simpa using hj) (by simp[e1,e2]);subst this;rw[e1]at e2;rw[<-e2];rfl
  exact hL.DZ _ _ hv
 refine⟨⟨by rw[L];exact aA,by rw[aD];exact aA,λl hl=>(by rw[Y]at hl;cases hl),(by rw[Y];simp),λf hf=>?_,h.CQ.AG,h.CQ.Bv⟩,λf hf=>h.Au f (I f hf).1,h.refQ,h.La⟩;obtain⟨h1,e,E,rfl⟩:=I f hf;have hF:(P.aT z d).F=DP s d (dList s) P.F s.length:=by unfold PD.aT Fp;dsimp only;rw[W]
 rw[hF];have aB:=h.CQ.B5 _ h1;rcases Un s d (dList s) P.F hr s.length e E with⟨q,_⟩|⟨x,q⟩
 ·rw[q];exact aB
 ·rw[q];obtain⟨j,_,_,j3⟩:=Pr (hr e E) x;rw[j3];simp only[BW];omega
def G8.aT(Y:PB P t)(E:DI (Cv t) P puts A8 o)(I:∀p∈puts,Bh p)(hl:puts.length<=t)(z:A8<=puts.length)(ht:t<=200000)(h:Int)(d:List Int):
 G8 t (P.aT h d) puts A8 o true/\(P.aT h d).D.n.AF=false:=by
 obtain⟨O,n,H,h3,L⟩:=E.aT h d (by omega);exact⟨⟨A2n Y E h d,O,I,hl,z,.inr ⟨n,H,h3,λe=>(by cases e),λo' m W _ _ h6=>L o' _ W h6⟩⟩,rfl⟩
def G8.aa{E:Nat}{d:Bool}(h:G8 t P puts A8 o d)(z:t<=E):G8 E P puts A8 o d:=by
 obtain⟨Y,I,h3,h4,h5,h6⟩:=h;refine⟨Y.aa z,I.aW (Ha z),h3,by omega,h5,h6.imp id ?_⟩;rintro⟨n0,g1,L,g3,g4⟩
 exact⟨n0,g1,L,g3,λo2 n H k2 O k4=>by
  obtain⟨W,q2⟩:=g4 o2 n H k2 O k4
  exact⟨W.aW (Ha z),q2.aW (Ha z)⟩⟩
def G8.bl{z:Bool}(h:G8 t P puts A8 o z)(n:DN)(h1:n.AG=P.D.n.AG)(L:0<=n.Bv/\n.Bv<=9223372036854775807)(h3:n.Bm=P.D.n.Bm)(W:n.fulls=P.D.n.fulls)(h5:n.AF=P.D.n.AF):G8 t ⟨{P.D with n:=n},P.F⟩ puts A8 o z:=by
 obtain⟨g1,E,g3,g4,g5,H⟩:=h;refine⟨g1.bl n h1 L h3 W,⟨E.Dw,E.Au,E.Ce,E.Cu⟩,g3,g4,g5,?_⟩;rcases H with H|⟨n0,I,k2,O,k4⟩
 ·exact .inl (h5.trans H)
 ·refine .inr ⟨n0,I,k2,O,λo2 n2 Y q2 q3 q4=>?_⟩;obtain⟨d,r⟩:=k4 o2 n2 Y q2 q3 q4;exact⟨⟨d.Dw,d.Au,d.Ce,d.Cu⟩,r.ay λ_=>rfl⟩
end
end
section
variable {P:PD} {A:Ar} {J:Jn} {nm old:ByteArray}
def Ro(P:PD):P.aJ.2.D.n.AG=P.D.n.AG:=by
 unfold PD.aJ DK;dsimp only
 split<;>exact HJ _
def Rq(P:PD)(nm:ByteArray):(P.aH nm).2.D.n.AG=P.D.n.AG:=by
 unfold PD.aH Dh;split
 ·rfl
 ·dsimp only
  split<;>exact HJ _
def XV(P:PD)(old nm:ByteArray):(P.aO old nm).2.D.n.AG=P.D.n.AG:=by
 unfold PD.aO CV;split
 ·rfl
 ·split
  ·rfl
  ·dsimp only
   split<;>exact HJ _
def O4(P:PD)(nm:ByteArray)(s:Nat)(l:Bs):(P.ad nm s l).2.2.D.n.AG=P.D.n.AG:=Rt P nm (AT s l)
def KG(P:PD)(nm:Bs)(s:Nat)(l:Bs):(P.aI nm s l).2.D.n.AG=P.D.n.AG:=by
 unfold PD.aI;split
 ·exact II P _
 ·split
  ·exact(O4 _ _ _ _).trans (II P _)
  ·exact(M7 _ _).trans ((O4 _ _ _ _).trans (II P _))
def KH:∀(l:List Bs) (P:PD),(PD.aL l P).2.D.n.AG=P.D.n.AG
 | [],_=>rfl
 | nm::r,P=>by
  unfold PD.aL;split
  ·exact Rq P _
  ·exact(KH r _).trans (Rq P _)
def Rr(J:Jn)(P:PD)(p:Pu):(J.aw P p).2.2.2.D.n.AG=P.D.n.AG:=by
 unfold Jn.aw;split
 ·rfl
 ·exact O4 P _ _ _
def XY(J:Jn)(P:PD)(p:Pu):(J.ad P p).2.2.2.D.n.AG=P.D.n.AG:=by
 unfold Jn.ad;split
 ·split
  ·exact O6 J P
  ·exact(Rr _ _ p).trans (O6 J P)
 ·exact Rr J P p
def Y5(A:Ar)(P:PD)(p:Pu):(A.ad P p).2.2.2.D.n.AG=P.D.n.AG:=by
 unfold Ar.ad;split
 ·exact IH A P
 ·exact(XY _ _ p).trans (IH A P)
def XX(J:Jn)(P:PD):(J.ae P).2.D.n.AG=P.D.n.AG:=by
 unfold Jn.ae;split
 ·rfl
 ·exact M7 P _
def Y4(A:Ar)(P:PD):(A.ae P).2.2.D.n.AG=P.D.n.AG:=by
 unfold Ar.ae;split
 ·exact IH A P
 ·have h:=(XX (A.C P).2.1.j (A.C P).2.2).trans (IH A P);split
  ·exact h
  ·exact(Ro _).trans h
def O5:∀(fresh:List (List Pu)) (last:Int) (kept:List Int) (P:PD),(PD.ah fresh last kept P).2.2.2.D.n.AG=P.D.n.AG
 | [],_,_,_=>rfl
 | l::r,last,kept,P=>by
  unfold PD.ah;split
  ·exact KG P _ _ _
  ·exact(O5 r _ _ _).trans (KG P _ _ _)
def XW(P:PD)(d:Int)(segs:List Int):(P.ag d segs).2.D.n.AG=P.D.n.AG:=by
 unfold PD.ag;split
 ·exact KG P _ _ _
 ·exact(XV _ _ _).trans (KG P _ _ _)
def Rs(A:Ar)(P:PD)(segs:List Int):(A.ag P segs).2.2.D.n.AG=P.D.n.AG:=by
 have:=XW P (A.j.Aa+1) segs;unfold Ar.ag;split
 ·rfl
 ·split<;>exact this
def XZ(A:Ar)(P:PD):(A.aZ P).2.2.D.n.AG=P.D.n.AG:=by
 unfold Ar.aZ;split
 ·exact KH _ P
 ·exact(Ro _).trans (KH _ P)
def XU(A:Ar)(P:PD)(kept:List Int)(fresh:List (List Pu)):(A.aG P kept fresh).2.2.D.n.AG=P.D.n.AG:=by
 unfold Ar.aG;dsimp only
 have h:=IH A P;have z:((A.C P).2.1.av (A.C P).2.2).2.D.n.AG=P.D.n.AG:=(KH _ _).trans h;have d:∀l k,(PD.ah fresh l k ((A.C P).2.1.av (A.C P).2.2).2).2.2.2.D.n.AG=P.D.n.AG:=λl k=>(O5 _ _ _ _).trans z
 split
 ·exact h
 ·split
  ·exact z
  ·split
   ·exact d _ _
   ·split
    ·exact(Rs _ _ _).trans (d _ _)
    ·exact(XZ _ _).trans ((Rs _ _ _).trans (d _ _))
end
section
open Go.RowKit
def Ca(k:Nat)(n:DN)(e:Int)(n':DN):Prop:=
 n'.BX=n.BX/\n'.BV=n.BV/\(0<=n.AY->n.AY+k<=4611686018427387904->n.AY<=n'.AY/\n'.AY<=n.AY+k/\
  (e=5->n.AF=true\/(n'.AF=true/\n.AY<n.BX/\n.BX<=n'.AY)\/(n'.AF=false/\n.AY<n.BV/\n.BV<=n'.AY))/\(e≠5->n'.AF=n.AF/\¬(n.AY<n.BV/\n.BV<=n'.AY)))
def Ca.I(n:DN){e:Int}(d:e≠5):Ca 0 n e n:=⟨rfl,rfl,λ_ _=>⟨HC _,by omega,λh=>absurd h d,λ_=>⟨rfl,λh=>by omega⟩⟩⟩
def Ca.aa{n n':DN}{e:Int}{k d:Nat}(h:Ca k n e n')(hk:k<=d):Ca d n e n':=⟨h.1,h.2.1,λz h1=>by
 obtain⟨a,b,c⟩:=h.2.2 z (by omega)
 exact⟨a,by omega,c⟩⟩
def Ca.Aw{n L n2:DN}{a e:Int}{E I:Nat}(h:Ca E n a L)(ha:a=0)(O:Ca I L e n2):Ca (E+I) n e n2:=by
 obtain⟨c1,f1,g1⟩:=h;obtain⟨c2,f2,Y⟩:=O;refine⟨c2.trans c1,f2.trans f1,λW hk=>?_⟩;obtain⟨a1,a2,-,a4⟩:=g1 W (by omega);obtain⟨d1,d2⟩:=a4 (by omega);obtain⟨b1,b2,z,H⟩:=Y (by omega) (by omega);rw[f1]at z H;rw[c1,d1]at z;refine⟨by omega,by omega,λd=>(z d).imp id (Or.imp (λh=>⟨h.1,by omega,h.2.2⟩) λh=>⟨h.1,by omega,h.2.2⟩),λd=>?_⟩;obtain⟨x1,x2⟩:=H d;exact⟨x1.trans d1,by omega⟩
def Ql{x:Int}(h0:0<=x)(h1:x+1<=4611686018427387904):wrap64 (x+1)=x+1:=by
 unfold wrap64;omega
def K2(n:DN):Ca 1 n (bg n).2.1 (bg n).2.2:=by
 have z:(bg n).2.2.BX=n.BX/\(bg n).2.2.BV=n.BV:=by
  unfold bg;dsimp only;split
  ·exact⟨rfl,rfl⟩
  ·split
   ·exact⟨rfl,rfl⟩
   ·split<;>exact⟨rfl,rfl⟩
 refine⟨z.1,z.2,λI h1=>?_⟩;have E:=Ql I (by omega);unfold bg;rw[E];dsimp only
 split
 ·rename_i d;exact⟨by dsimp only;omega,by dsimp only;omega,λ_=>.inl d,λh=>absurd rfl h⟩
 ·rename_i d;split
  ·rename_i hk;exact⟨by dsimp only;omega,by dsimp only;omega,λ_=>.inr (.inl ⟨rfl,by omega,by dsimp only;omega⟩),λh=>absurd rfl h⟩
  ·split
   ·rename_i H;exact⟨by dsimp only;omega,by dsimp only;omega,λ_=>.inr (.inr ⟨by simpa using d,by omega,by dsimp only;omega⟩),λh=>absurd rfl h⟩
   ·rename_i H;exact⟨by dsimp only;omega,by dsimp only;omega,λh=>(by cases h),λ_=>⟨rfl,λh=>by dsimp only at h;omega⟩⟩
section
variable {P:PD} {A:Ar} {J:Jn} {nm old:ByteArray}
def Lf(P:PD)(nm:ByteArray):Ca 1 P.D.n (P.ak nm).1 (P.ak nm).2.D.n:=by
 unfold PD.ak CT;split
 ·exact(Ca.I _ (by simp)).aa (by omega)
 ·have:=K2 P.D.n;dsimp only
  split<;>exact this
def MK(P:PD)(nm:ByteArray):Ca 1 P.D.n (P.ae nm).1 (P.ae nm).2.D.n:=by
 unfold PD.ae CG;split
 ·exact(Ca.I _ (by simp)).aa (by omega)
 ·exact K2 P.D.n
def Us(P:PD):Ca 1 P.D.n P.aJ.1 P.aJ.2.D.n:=by
 have:=K2 P.D.n;unfold PD.aJ DK;dsimp only
 split<;>exact this
def Uu(P:PD)(nm:ByteArray):Ca 1 P.D.n (P.aH nm).1 (P.aH nm).2.D.n:=by
 have:=K2 P.D.n;unfold PD.aH Dh;split
 ·exact(Ca.I _ (by simp)).aa (by omega)
 ·dsimp only
  split<;>exact this
def A2H(P:PD)(old nm:ByteArray):Ca 1 P.D.n (P.aO old nm).1 (P.aO old nm).2.D.n:=by
 have:=K2 P.D.n;unfold PD.aO CV;split
 ·exact(Ca.I _ (by simp)).aa (by omega)
 ·split
  ·exact(Ca.I _ (by simp)).aa (by omega)
  ·dsimp only
   split<;>exact this
def Ca.cH{n n' n2:DN}{k:Nat}(h:Ca k n 0 n')(E:n2.BX=n'.BX)(d:n2.BV=n'.BV)(H:n2.AY=n'.AY)(z:n2.AF=n'.AF):Ca k n 6 n2:=by
 obtain⟨a,b,c⟩:=h;refine⟨E.trans a,d.trans b,λx y=>?_⟩;obtain⟨c1,c2,-,c4⟩:=c x y;rw[H,z];exact⟨c1,c2,λh=>(by cases h),λ_=>c4 (by decide)⟩
def Ux(D:DS)(F:Nat->FC)(f:Nat)(x:ByteArray)(d e:Int)(n:DN)(h:Ca 1 n e D.n)(z:e=0\/e=5):Ca 1 n (BB D F f x d e).1 (BB D F f x d e).2.1.n:=by
 unfold BB;split
 ·dsimp only
  rcases z with rfl|rfl
  ·rw[Ai rfl,Ai rfl];exact h.cH rfl rfl rfl rfl
  ·rw[Ae (by decide),Ae (by decide)];exact h
 ·exact h
def A2P(P:PD)(nm:ByteArray)(l:Bs):Ca 1 P.D.n (P.an nm l).1 (P.an nm l).2.D.n:=by
 have d:=K2 P.D.n;have h:=Gp P.D.n;unfold PD.an Bp;split
 ·exact(Ca.I _ (by simp)).aa (by omega)
 ·dsimp only
  split
  ·exact Ux _ _ _ _ _ _ _ d h
  ·split
   ·exact Ux _ _ _ _ _ _ _ d h
   ·exact d
def ML(P:PD)(nm:ByteArray)(s:Nat)(l:Bs):Ca 1 P.D.n (P.ad nm s l).2.1 (P.ad nm s l).2.2.D.n:=A2P P nm (AT s l)
def MJ(P:PD)(nm:Bs)(s:Nat)(l:Bs):Ca 3 P.D.n (P.aI nm s l).1 (P.aI nm s l).2.D.n:=by
 unfold PD.aI;split
 ·exact(Lf P _).aa (by omega)
 ·rename_i d;split
  ·exact((Lf P _).Aw (CD d) (ML _ _ _ _)).aa (by omega)
  ·rename_i h;exact((Lf P _).Aw (CD d) (ML _ _ _ _)).Aw (CD h) (MK _ _)
def Ut:∀(l:List Bs) (P:PD),Ca l.length P.D.n (PD.az l P).1 (PD.az l P).2.D.n
 | [],P=>Ca.I _ (by simp[PD.az])
 | nm::r,P=>by
  unfold PD.az;split
  ·exact(MK P _).aa (by simp)
  ·rename_i d;exact((MK P _).Aw (CD d) (Ut r _)).aa (by simp;omega)
def Pw:∀(l:List Bs) (P:PD),Ca l.length P.D.n (PD.aL l P).1 (PD.aL l P).2.D.n
 | [],P=>Ca.I _ (by simp[PD.aL])
 | nm::r,P=>by
  unfold PD.aL;split
  ·exact(Uu P _).aa (by simp)
  ·rename_i d;exact((Uu P _).Aw (CD d) (Pw r _)).aa (by simp;omega)
def J8(A:Ar)(P:PD):Ca A.AQ.length P.D.n (A.C P).1 (A.C P).2.2.D.n:=by
 have:=Ut A.AQ P;unfold Ar.C;split
 ·exact this
 ·rename_i d;rw[CD d]at this;exact this
def Px(J:Jn)(P:PD):Ca 2 P.D.n (J.ax P).1 (J.ax P).2.2.D.n:=by
 unfold Jn.ax;split
 ·exact(Lf P _).aa (by omega)
 ·rename_i d;have:=(Lf P _).Aw (CD d) (ML (P.ak (A9 (Ah (J.Aa+1)))).2 (A9 (Ah (J.Aa+1))) (AH (Ah (J.Aa+1))) (AS J.puts));dsimp only
  split
  ·exact this
  ·rename_i h;rw[CD h]at this;exact this
def Uv(J:Jn)(P:PD)(p:Pu):Ca 1 P.D.n (J.aw P p).2.1 (J.aw P p).2.2.2.D.n:=by
 unfold Jn.aw;split
 ·exact(Ca.I _ (by simp)).aa (by omega)
 ·exact ML P _ _ _
def A2K(J:Jn)(P:PD)(p:Pu):Ca 3 P.D.n (J.ad P p).2.1 (J.ad P p).2.2.2.D.n:=by
 unfold Jn.ad;split
 ·split
  ·exact(Px J P).aa (by omega)
  ·rename_i d;exact(Px J P).Aw (CD d) (Uv _ _ p)
 ·exact(Uv J P p).aa (by omega)
def A2O(A:Ar)(P:PD)(p:Pu):Ca (A.AQ.length+3) P.D.n (A.ad P p).2.1 (A.ad P p).2.2.2.D.n:=by
 unfold Ar.ad;split
 ·exact(J8 A P).aa (by omega)
 ·rename_i d;exact(J8 A P).Aw (CD d) (A2K _ _ p)
def A2J(J:Jn)(P:PD):Ca 1 P.D.n (J.ae P).1 (J.ae P).2.D.n:=by
 unfold Jn.ae;split
 ·exact(Ca.I _ (by simp)).aa (by omega)
 ·exact MK P _
def A2N(A:Ar)(P:PD):Ca (A.AQ.length+2) P.D.n (A.ae P).1 (A.ae P).2.2.D.n:=by
 unfold Ar.ae;split
 ·exact(J8 A P).aa (by omega)
 ·rename_i z;have h:=(J8 A P).Aw (CD z) (A2J (A.C P).2.1.j (A.C P).2.2);split
  ·exact h.aa (by omega)
  ·rename_i d;exact h.Aw (CD d) (Us _)
def Uw:∀(fresh:List (List Pu)) (last:Int) (kept:List Int) (P:PD),Ca (3*fresh.length) P.D.n (PD.ah fresh last kept P).1 (PD.ah fresh last kept P).2.2.2.D.n
 | [],_,_,P=>Ca.I _ (by simp[PD.ah])
 | l::r,last,kept,P=>by
  unfold PD.ah;split
  ·exact(MJ P _ _ _).aa (by simp;omega)
  ·rename_i d;exact((MJ P _ _ _).Aw (CD d) (Uw r _ _ _)).aa (by simp;omega)
def A2I(P:PD)(d:Int)(segs:List Int):Ca 4 P.D.n (P.ag d segs).1 (P.ag d segs).2.D.n:=by
 unfold PD.ag;split
 ·exact(MJ P _ _ _).aa (by omega)
 ·rename_i h;exact(MJ P _ _ _).Aw (CD h) (A2H _ _ _)
def A2M(A:Ar)(P:PD)(segs:List Int):Ca 4 P.D.n (A.ag P segs).1 (A.ag P segs).2.2.D.n:=by
 have:=A2I P (A.j.Aa+1) segs;unfold Ar.ag;split
 ·exact(Ca.I _ (by simp)).aa (by omega)
 ·split
  ·exact this
  ·rename_i d;rw[CD d]at this;exact this
def Sp(A:Ar)(P:PD):(A.aV P).length<=P.dl:=by
 rw[<-Ho];exact Jg _ _
def A2L(A:Ar)(P:PD):Ca (P.dl+1) P.D.n (A.aZ P).1 (A.aZ P).2.2.D.n:=by
 have d:=(Pw (A.aV P) P).aa (Sp A P);unfold Ar.aZ;split
 ·exact d.aa (by omega)
 ·rename_i h;exact d.Aw (CD h) (Us _)
def A2G(A:Ar)(P:PD)(kept:List Int)(fresh:List (List Pu)):Ca (A.AQ.length+2*P.dl+4*fresh.length+7) P.D.n (A.aG P kept fresh).1 (A.aG P kept fresh).2.2.D.n:=by
 have d:(A.C P).2.2.dl=P.dl:=by unfold PD.dl;rw[NW]
 unfold Ar.aG;dsimp only
 split
 ·exact(J8 A P).aa (by omega)
 ·rename_i O;have Y:=Sp (A.C P).2.1 (A.C P).2.2;rw[d]at Y;have L:Ca ((A.C P).2.1.aV (A.C P).2.2).length (A.C P).2.2.D.n ((A.C P).2.1.av (A.C P).2.2).1 ((A.C P).2.1.av (A.C P).2.2).2.D.n:=Pw _ _;have h:=(J8 A P).Aw (CD O) L;have d2:((A.C P).2.1.av (A.C P).2.2).2.dl<=P.dl:=by rw[<-d];exact MF _ _
  split
  ·exact h.aa (by omega)
  ·rename_i H;have z:=h.Aw (CD H) (Uw fresh (A.C P).2.1.Aa kept ((A.C P).2.1.av (A.C P).2.2).2);obtain⟨d3,-⟩:=JX fresh (A.C P).2.1.Aa kept ((A.C P).2.1.av (A.C P).2.2).2;split
   ·exact z.aa (by omega)
   ·rename_i W;have E:=z.Aw (CD W) (A2M { (A.C P).2.1 with Aa:=(PD.ah fresh (A.C P).2.1.Aa kept ((A.C P).2.1.av (A.C P).2.2).2).2.1} _ (PD.ah fresh (A.C P).2.1.Aa kept ((A.C P).2.1.av (A.C P).2.2).2).2.2.1);have d4:=Pm { (A.C P).2.1 with Aa:=(PD.ah fresh (A.C P).2.1.Aa kept ((A.C P).2.1.av (A.C P).2.2).2).2.1} (PD.ah fresh (A.C P).2.1.Aa kept ((A.C P).2.1.av (A.C P).2.2).2).2.2.2 (PD.ah fresh (A.C P).2.1.Aa kept ((A.C P).2.1.av (A.C P).2.2).2).2.2.1;split
    ·exact E.aa (by omega)
    ·rename_i I;exact(E.Aw (CD I) (A2L _ _)).aa (by omega)
def A3E{l:Bs}(h:(P.an nm l).1=0)(I:0<=P.D.n.AY)(H:P.D.n.AY+1<=4611686018427387904):(P.an nm l).2.D.n.AY=P.D.n.AY+1:=by
 have E:=Ql I H;have d:(bg P.D.n).2.2.AY=P.D.n.AY+1:=by
  unfold bg;rw[E];dsimp only
  split
  ·rfl
  ·split
   ·rfl
   ·split<;>rfl
 have key:∀(D:DS) (F:Nat->FC) (f:Nat) (x:ByteArray) (z e:Int),(BB D F f x z e).2.1.n.AY=D.n.AY:=λD F f x z e=>by
  unfold BB;split
  ·dsimp only
   split<;>rfl
  ·rfl
 unfold PD.an Bp at h ⊢;cases hf:lookup P.D.A4 nm with
 | none=>rw[hf]at h;cases h
 | some f=>
  dsimp only
  split
  ·rw[key];exact d
  ·split
   ·rw[key];exact d
   ·exact d
def S3{p:Pu}{x:Int×Nat}(d:J.AB=some x)(h:(J.aw P p).2.1=0)(E:0<=P.D.n.AY)(z:P.D.n.AY+1<=4611686018427387904):P.D.n.AY+1<=(J.aw P p).2.2.2.D.n.AY:=by
 unfold Jn.aw at h ⊢;rw[d]at h ⊢;exact Int.le_of_eq (A3E h E z).symm
def A3z{p:Pu}(h:(A.ad P p).2.1=0)(W:0<=P.D.n.AY)(z:P.D.n.AY+(A.AQ.length+3)<=4611686018427387904):P.D.n.AY+1<=(A.ad P p).2.2.2.D.n.AY:=by
 have c1:=(J8 A P).2.2 W (by omega);have O:(A.C P).1=0:=by
  by_cases e:(A.C P).1=0
  ·exact e
  ·unfold Ar.ad at h;rw[Ai e]at h;exact absurd h e
 have e:A.ad P p=(((A.C P).2.1.j.ad (A.C P).2.2 p).1,((A.C P).2.1.j.ad (A.C P).2.2 p).2.1,{ (A.C P).2.1 with j:=((A.C P).2.1.j.ad (A.C P).2.2 p).2.2.1},((A.C P).2.1.j.ad (A.C P).2.2 p).2.2.2):=by
  unfold Ar.ad;rw[Ae (nn O)]
 rw[e]at h ⊢;dsimp only at h ⊢;generalize (A.C P).2.1.j=J at h ⊢;generalize (A.C P).2.2=Q at h c1 ⊢;obtain⟨d1,d2,-⟩:=c1;unfold Jn.ad at h ⊢;split at h
 ·rename_i E;rw[Ai E];by_cases d:(J.ax Q).1=0
  ·rw[Ae (nn d)]at h ⊢;have c2:=(Px J Q).2.2 (by omega) (by omega);have L:(J.ax Q).2.1.AB≠none:=by
    unfold Jn.ax at d ⊢;split at d
    ·rename_i z;exact absurd d z
    ·rename_i z;rw[Ae z];dsimp only at d ⊢;split at d
     ·rename_i H;exact absurd d H
     ·rename_i H;rw[Ae H];simp
   obtain⟨x,I⟩:=Ls.1 L;have:=S3 I h (by omega) (by omega);omega
  ·rw[Ai d]at h;exact absurd h d
 ·rename_i E;rw[Ae E];obtain⟨x,I⟩:=Ls.1 E;have:=S3 I h (by omega) (by omega);omega
end
section
variable {P:PD} {A:Ar} {a m:Nat}
def A3B{nm:ByteArray}{l:Bs}(h:Wd P a m)(hl:l.length<=m)(hr:((a*m+m:Nat):Int)<=P.D.n.AG):(P.an nm l).1≠6:=λe=>by
 have h6:=PJ e;have hu:=ND (F:=P.F) (m:=m) P.D.A4 λf d=>h.B5 f (.inl d);have:=Hv m h.A4;omega
def Qj{nm:Bs}{s:Nat}{l:Bs}(h:Wd P a m)(d:P.dl+1<=a)(E:l.length+4<=m)(H:((a*m+m:Nat):Int)<=P.D.n.AG):(P.aI nm s l).1≠6:=by
 have z:Wd (P.ak (A9 nm)).2 a m:=h.bJ (JV P nm).1 d (by unfold PD.ak;simp[upd]);unfold PD.aI;split
 ·exact Ul P _
 ·split
  ·refine A3B (l:=AT s l) z (by rw[EE];exact E) ?_;rw[II];exact H
  ·exact NM _ _
def SS:∀(fresh:List (List Pu)) (last:Int) (kept:List Int) {P:PD},Wd P a m->P.dl+fresh.length<=a->(∀l∈fresh,17*l.length+4<=m)->((a*m+m:Nat):Int)<=P.D.n.AG->(PD.ah fresh last kept P).1≠6
 | [],_,_,_,_,_,_,_=>by simp[PD.ah]
 | l::r,last,kept,P,h,hd,hl,hr=>by
  simp only[Cx]at hd;have z:(Cf l).length+4<=m:=by rw[I4];exact hl l (BC ..)
  have d:PD.ah (l::r) last kept P=if (P.aK (last+1) l).1≠0 then ((P.aK (last+1) l).1,last+1,kept,(P.aK (last+1) l).2) else PD.ah r (last+1) (kept++[last+1]) (P.aK (last+1) l).2:=rfl
  rw[d];split
  ·exact Qj h (by omega) z hr
  ·have hdl:(P.aK (last+1) l).2.dl<=P.dl+1:=Lc P _ _ _;exact SS r _ _ (h.aI _ _ _ (by omega) z) (by omega) (λx E=>hl x (Bw _ E)) (by rw[show (P.aK (last+1) l).2.D.n.AG=P.D.n.AG from KG P _ _ _];exact hr)
def Yc(P:PD)(old nm:ByteArray):(P.aO old nm).1≠6:=by
 have hb:=Gp P.D.n;unfold PD.aO CV;split
 ·simp
 ·split
  ·simp
  ·dsimp only;omega
def Yl(P:PD)(nm:ByteArray):(P.aH nm).1≠6:=by
 have hb:=Gp P.D.n;unfold PD.aH Dh;split
 ·simp
 ·dsimp only;omega
def Od:∀(l:List Bs) (P:PD),(PD.aL l P).1≠6
 | [],P=>by simp[PD.aL]
 | nm::r,P=>by
  unfold PD.aL;split
  ·exact Yl P _
  ·exact Od r _
def A3w(h:Wd P a m)(segs:List Int)(d:P.dl+1<=a)(hl:12+8*segs.length<=m)(E:((a*m+m:Nat):Int)<=P.D.n.AG):(A.ag P segs).1≠6:=by
 have z:(P.ag (A.j.Aa+1) segs).1≠6:=by
  unfold PD.ag;split
  ·refine Qj h d ?_ E;unfold Ci;rw[B1,J5,CP];omega
  ·exact Yc _ _ _
 unfold Ar.ag;split
 ·simp
 ·split
  ·exact z
  ·simp
def A2V(A:Ar)(P:PD):(A.aZ P).1≠6:=by
 unfold Ar.aZ;split
 ·exact Od _ P
 ·exact QN _
def Yb{k:Nat}(h:Wd P a m)(hi:Bu P k)(hn:G5 P)(kept:List Int)(fresh:List (List Pu))(hd:A.Ay.length+fresh.length+2<=a)(E:∀l∈fresh,17*l.length+4<=m)(hk:12+8*(kept.length+fresh.length)<=m)(H:((a*m+m:Nat):Int)<=P.D.n.AG):
 (A.aG P kept fresh).1≠6:=by
 have O:Wd (A.C P).2.2 a m:=h.C;have i1:Bu (A.C P).2.2 k:=hi.C;have n1:G5 (A.C P).2.2:=SY hn (NW A P);have z:(A.C P).2.1.Ay=A.Ay:=by unfold Ar.C;split<;>rfl
 have a0:=IH A P;have I:((A.C P).2.1.av (A.C P).2.2).2.D.n.AG=P.D.n.AG:=(KH _ _).trans a0;unfold Ar.aG;dsimp only
 split
 ·exact NV A P
 ·have L:Wd ((A.C P).2.1.av (A.C P).2.2).2 a m:=Wd.aL _ O;have i2:Bu ((A.C P).2.1.av (A.C P).2.2).2 k:=Bu.aL _ i1;split
  ·exact Od _ _
  ·rename_i W;have d:=QU n1 (CD W);rw[z]at d;obtain⟨Y,i3⟩:=OF fresh (A.C P).2.1.Aa kept L i2 (by omega) E;obtain⟨d3,d4⟩:=JX fresh (A.C P).2.1.Aa kept ((A.C P).2.1.av (A.C P).2.2).2;split
   ·exact SS _ _ _ L (by omega) E (by rw[I];exact H)
   ·have h4:=A3w (A:={ (A.C P).2.1 with Aa:=(PD.ah fresh (A.C P).2.1.Aa kept ((A.C P).2.1.av (A.C P).2.2).2).2.1}) Y (PD.ah fresh (A.C P).2.1.Aa kept ((A.C P).2.1.av (A.C P).2.2).2).2.2.1 (by omega) (by omega) (by rw[O5,I];exact H);split
    ·exact h4
    ·exact A2V _ _
end
end
section
open Go.MuLone Go.RowKit
attribute [local go_sem ↓] Go.wp_at_zero Go.wp_at_succ CJ
section
variable {w w' w2:World} {sb ab b B:Nat} {mu Ad aA A6:Int} {ro:Bool} {lv:Nat->Value} {L L':Nat->List Pt} {A A':Ar} {P P':PD} {F0 FT:Nat->Prop} {a c m N:Nat}
def A3R(w:World)(p:Pu)(h:SF w sb ab b mu Ad aA A6 ro L A P FT)(_hFT:∀k,FT k->k<w.heap.size)(hp:Bh p)(hn:A.j.AB=none->CM (A.j.Aa+1)/\AE (A.j.Aa+1)/\AE A.j.puts)(aG:A.j.Am.length<=1073741824)(hL:Lets B w)(aH:∀k,FT k->B<=k)(hF:Fit P a c m)(aI:CU (a+1) (c+1) (m+33))(aJ:∀k,k<8->(L k).length<1099511627000)(hl:1<=Ad/\Ad<=4611686018427387904)(hc:AE A6):
 Af 66 #[A5 sb,Dv p] w (Aj (A0 (A.ad P p).2.1) λw'=>
  Aq w FT w' (λw' d=>SF w' sb ab b mu Ad aA A6 ro (if (A.ad P p).1=true then Fm L (Bc A6 Ad) p.1.toNat p.2.1 p.2.2 else L) (A.ad P p).2.2.1 (A.ad P p).2.2.2 d)):=by
 have hA:A3 Ab w (w.alloc (.cells #[A0 p.1,A0 p.2.1,A0 p.2.2] 113)):=(A3.I _ w).ai _;have E:=BO w (.cells #[A0 p.1,A0 p.2.1,A0 p.2.2] 113);have aB:w.heap.size<(w.alloc (.cells #[A0 p.1,A0 p.2.1,A0 p.2.2] 113)).heap.size:=by simp
 generalize aK:(w.alloc (.cells #[A0 p.1,A0 p.2.1,A0 p.2.2] 113))=w0 at hA E aB;have I:A3 Ab w w0.drew:=hA.af;obtain⟨lv,F0,h1,h2⟩:=h;have hV:=h1.au I;have nx:¬F0 w.heap.size:=λhx=>G6 _ (h1.lt _ hx)
 have aD:Hid (Af 105 #[A5 ab,Dv p] w0.drew (Aj (.tuple #[.bool (A.ad P p).1,A0 (A.ad P p).2.1]) λz=>
  (A7 z sb 2 (A5 ab)/\z.heap[w.heap.size]?=some (.cells #[A0 p.1,A0 p.2.1,A0 p.2.2] 113 (0,0)))/\
  Aq w FT z (λw' d=>SF w' sb ab b mu Ad aA A6 ro L (A.ad P p).2.2.1 (A.ad P p).2.2.2 d))):=by
  refine(A3t w0.drew p hV.ar hV.lt hp hn aG (hL.aM I) (λk hk=>aH k (h2 k (.inl hk))) hF aI).mono ?_;rintro e z⟨rfl,H⟩;exact⟨rfl,⟨(hV.Ag.Ak H.1 hV.ns).c2,(H.1.Ap _ aB nx).trans E⟩,(hV.ej h2 H).a6 I⟩
 have O:Hid (∀z,Aq w FT z (λw' d=>SF w' sb ab b mu Ad aA A6 ro L (A.ad P p).2.2.1 (A.ad P p).2.2.2 d)->Af 60 #[A5 sb,Dv p] z (Aj (.tuple #[]) λw'=>
  Aq w FT w' (λw' d=>SF w' sb ab b mu Ad aA A6 ro (Fm L (Bc A6 Ad) p.1.toNat p.2.1 p.2.2) (A.ad P p).2.2.1 (A.ad P p).2.2.2 d))):=λz H=>by
  obtain⟨c1,F1,h3,h4,h5⟩:=H;refine(TD z p h3 hp.1 aJ hl hc).mono ?_;rintro e w'⟨rfl,h6⟩;exact⟨rfl,Aq.a7 c1 h5 h6⟩
 have c2:A7 w0 sb 2 (A5 ab):=(h1.au hA).Ag.c2;obtain⟨p1,Y,W⟩:=p;unfold Dv at aD O ⊢;dsimp only at aD O E aK ⊢;have q0:A7 w0 w.heap.size 0 (A0 p1):=Gn E;have q1:A7 w0 w.heap.size 1 (A0 Y):=Gn E;have q2:A7 w0 w.heap.size 2 (A0 W):=Gn E;generalize hR:A.ad P (p1,Y,W)=R at aD O ⊢;obtain⟨aE,R2,R3,R4⟩:=R;dsimp only at aD O ⊢;generalize hL2:Fm L (Bc A6 Ad) p1.toNat Y W=L2 at O ⊢;have tail:∀aE:Bool,aE=true\/aE=false:=by intro x;cases x<;>simp
 go_enter func66,ntmps66
 go_wp2;refine BR (λw'=>A7 w' sb 2 (A5 ab)/\A7 w' w.heap.size 0 (A0 p1)/\A7 w' w.heap.size 1 (A0 Y)/\A7 w' w.heap.size 2 (A0 W)) 10
  (Br [0,1,2,3,4,5,6,7,8,9] [5]) ⟨c2,q0,q1,q2⟩ ?_
 iterate 5 (refine Bf ?_;(try simp only[An]))
 refine Bn λK hK=>?_;go_simp;refine aD.m ?_;rintro e z⟨rfl,⟨y2,hh⟩,H⟩;have r0:A7 z w.heap.size 0 (A0 p1):=Gn hh;have r1:A7 z w.heap.size 1 (A0 Y):=Gn hh;have r2:A7 z w.heap.size 2 (A0 W):=Gn hh;refine hK _ _ ⟨y2,r0,r1,r2⟩ (λhS=>?_);have aF:=A1 (O.o z H);have aM:=A1 H
 (try simp only[An])
 iterate 4 (refine Bf ?_;(try simp only[An]))
 refine Bl ?_;simp only[BK,BJ];cases aE
 ·go_wp2;go_ret;exact⟨rfl,by simpa using aM.o⟩
 ·go_wp2_with (go_at_call 60;refine aF.m ?_;rintro e w2⟨rfl,hS⟩;have aL:=A1 hS);go_ret;exact⟨rfl,by simpa using aL.o⟩
def UG(w:World)(d:Value)(h:Bt w sb mu (A5 ab) Ad aA A6 true lv):
 Af 64 #[A5 sb,d] w (Aj (A0 4) λw'=>w=w'):=by
 have c6:=h.cR
 go_enter func64,ntmps64
 go_wp2;go_ret;exact⟨rfl,rfl⟩
def A21(w:World)(x:Nat)(n:Int)(h:SF w sb ab b mu Ad aA A6 false L A P FT)(aD:Af 65 #[A5 x,A5 (x+1),A5 (x+2),A5 (x+3)] w (Aj (A0 n) λw'=>Aq w FT w' (λw' d=>SF w' sb ab b mu Ad aA A6 false L' A' P' d))):
 Af 64 #[A5 sb,.func (Fn.func 65) #[] #[A5 x,A5 (x+1),A5 (x+2),A5 (x+3)]] w (Aj (A0 n) λw'=>Aq w FT w' (λw' d=>SF w' sb ab b mu Ad aA A6 (decide (n≠0)) L' A' P' d)):=by
 obtain⟨lv,F0,h1,h2⟩:=h;have c6:=h1.Ag.cR;have W:=A1 aD;by_cases O:n=0
 ·subst O
  go_enter func64,ntmps64
  go_wp2_with (go_at_call 65;refine W.m ?_;rintro e w2⟨rfl,E⟩;have I:=A1 E;obtain⟨-,aB,⟨H,aE,z,-⟩,-,-⟩:=E;have y6:=z.Ag.cR;have f6:=z.Ag.fz 6);go_ret;exact⟨rfl,SFto.Di I.o 6 _ λlv h=>h.sR false⟩
 ·have hb:(n !=0)=true:=by simpa using O
  have Y:decide (n≠0)=true:=by simpa using O
  rw[Y]
  go_enter func64,ntmps64
  go_wp2_with (go_at_call 65;refine W.m ?_;rintro e w2⟨rfl,E⟩;have I:=A1 E;obtain⟨-,aB,⟨H,aE,z,-⟩,-,-⟩:=E;have y6:=z.Ag.cR;have f6:=z.Ag.fz 6);go_ret;exact⟨rfl,SFto.Di I.o 6 _ λlv h=>h.sR true⟩
def A22(w:World)(x:Nat)(n:Int)(h:SF w sb ab b mu Ad aA A6 false L A P FT)(aD:Af 67 #[A5 x] w (Aj (A0 n) λw'=>Aq w FT w' (λw' d=>SF w' sb ab b mu Ad aA A6 false L' A' P' d))):
 Af 64 #[A5 sb,.func (Fn.func 67) #[] #[A5 x]] w (Aj (A0 n) λw'=>Aq w FT w' (λw' d=>SF w' sb ab b mu Ad aA A6 (decide (n≠0)) L' A' P' d)):=by
 obtain⟨lv,F0,h1,h2⟩:=h;have c6:=h1.Ag.cR;have W:=A1 aD;by_cases O:n=0
 ·subst O
  go_enter func64,ntmps64
  go_wp2_with (go_at_call 67;refine W.m ?_;rintro e w2⟨rfl,E⟩;have I:=A1 E;obtain⟨-,aB,⟨H,aE,z,-⟩,-,-⟩:=E;have y6:=z.Ag.cR;have f6:=z.Ag.fz 6);go_ret;exact⟨rfl,SFto.Di I.o 6 _ λlv h=>h.sR false⟩
 ·have hb:(n !=0)=true:=by simpa using O
  have Y:decide (n≠0)=true:=by simpa using O
  rw[Y]
  go_enter func64,ntmps64
  go_wp2_with (go_at_call 67;refine W.m ?_;rintro e w2⟨rfl,E⟩;have I:=A1 E;obtain⟨-,aB,⟨H,aE,z,-⟩,-,-⟩:=E;have y6:=z.Ag.cR;have f6:=z.Ag.fz 6);go_ret;exact⟨rfl,SFto.Di I.o 6 _ λlv h=>h.sR true⟩
def A23(w:World)(x:Nat)(n:Int)(h:SF w sb ab b mu Ad aA A6 false L A P FT)(aD:Af 69 #[A5 x] w (Aj (A0 n) λw'=>Aq w FT w' (λw' d=>SF w' sb ab b mu Ad aA A6 false L' A' P' d))):
 Af 64 #[A5 sb,.func (Fn.func 69) #[] #[A5 x]] w (Aj (A0 n) λw'=>Aq w FT w' (λw' d=>SF w' sb ab b mu Ad aA A6 (decide (n≠0)) L' A' P' d)):=by
 obtain⟨lv,F0,h1,h2⟩:=h;have c6:=h1.Ag.cR;have W:=A1 aD;by_cases O:n=0
 ·subst O
  go_enter func64,ntmps64
  go_wp2_with (go_at_call 69;refine W.m ?_;rintro e w2⟨rfl,E⟩;have I:=A1 E;obtain⟨-,aB,⟨H,aE,z,-⟩,-,-⟩:=E;have y6:=z.Ag.cR;have f6:=z.Ag.fz 6);go_ret;exact⟨rfl,SFto.Di I.o 6 _ λlv h=>h.sR false⟩
 ·have hb:(n !=0)=true:=by simpa using O
  have Y:decide (n≠0)=true:=by simpa using O
  rw[Y]
  go_enter func64,ntmps64
  go_wp2_with (go_at_call 69;refine W.m ?_;rintro e w2⟨rfl,E⟩;have I:=A1 E;obtain⟨-,aB,⟨H,aE,z,-⟩,-,-⟩:=E;have y6:=z.Ag.cR;have f6:=z.Ag.fz 6);go_ret;exact⟨rfl,SFto.Di I.o 6 _ λlv h=>h.sR true⟩
def A20(w:World)(_x:Nat)(n:Int)(h:SF w sb ab b mu Ad aA A6 false L A P FT)(aD:Af 74 #[A5 ab] w (Aj (A0 n) λw'=>Aq w FT w' (λw' d=>SF w' sb ab b mu Ad aA A6 false L' A' P' d))):
 Af 64 #[A5 sb,.func (Fn.func 74) #[A5 ab] #[]] w (Aj (A0 n) λw'=>Aq w FT w' (λw' d=>SF w' sb ab b mu Ad aA A6 (decide (n≠0)) L' A' P' d)):=by
 obtain⟨lv,F0,h1,h2⟩:=h;have c6:=h1.Ag.cR;have W:=A1 aD;by_cases O:n=0
 ·subst O
  go_enter func64,ntmps64
  go_wp2_with (go_at_call 74;refine W.m ?_;rintro e w2⟨rfl,E⟩;have I:=A1 E;obtain⟨-,aB,⟨H,aE,z,-⟩,-,-⟩:=E;have y6:=z.Ag.cR;have f6:=z.Ag.fz 6);go_ret;exact⟨rfl,SFto.Di I.o 6 _ λlv h=>h.sR false⟩
 ·have hb:(n !=0)=true:=by simpa using O
  have Y:decide (n≠0)=true:=by simpa using O
  rw[Y]
  go_enter func64,ntmps64
  go_wp2_with (go_at_call 74;refine W.m ?_;rintro e w2⟨rfl,E⟩;have I:=A1 E;obtain⟨-,aB,⟨H,aE,z,-⟩,-,-⟩:=E;have y6:=z.Ag.cR;have f6:=z.Ag.fz 6);go_ret;exact⟨rfl,SFto.Di I.o 6 _ λlv h=>h.sR true⟩
end
def boxed(w:World)(sb:Nat)(k t v:Int):World:=
 (((w.alloc (.cells #[.pointer (some ⟨sb,0,none⟩)] 36)).alloc (.cells #[.int .i64 k] 3)).alloc (.cells #[.int .i64 t] 3)).alloc (.cells #[.int .i64 v] 3)
def Jd(w:World)(x sb:Nat)(k t v:Int):Prop:=
 w.cell? ⟨x,0,none⟩=some (.pointer (some ⟨sb,0,none⟩))/\w.cell? ⟨x+1,0,none⟩=some (.int .i64 k)/\w.cell? ⟨x+2,0,none⟩=some (.int .i64 t)/\w.cell? ⟨x+3,0,none⟩=some (.int .i64 v)
section
variable {w w' w2:World} {sb ab b B:Nat} {mu Ad aA A6:Int} {ro:Bool} {lv:Nat->Value} {L L':Nat->List Pt} {A A':Ar} {P P':PD} {F0 FT:Nat->Prop} {a c m N:Nat}
def UK(w:World)(sb:Nat)(k t v:Int):A3 Ab w (boxed w sb k t v):=((((A3.I _ w).ai _).ai _).ai _).ai _
def A3e(w:World)(sb:Nat)(k t v:Int):(boxed w sb k t v).heap.size=w.heap.size+4:=by unfold boxed;simp
def UL(w:World)(sb:Nat)(k t v:Int):Jd (boxed w sb k t v) w.heap.size sb k t v:=by
 unfold boxed;refine⟨?_,?_,?_,?_⟩
 all_goals unfold World.cell?
 ·rw[Dd _ _ _ (by simp;try omega),Dd _ _ _ (by simp;try omega),Dd _ _ _ (by simp),BO];rfl
 ·rw[Dd _ _ _ (by simp;try omega),Dd _ _ _ (by simp)];have:=BO (w.aC #[A5 sb] 36) (.cells #[A0 k] 3);have e:(w.aC #[A5 sb] 36).heap.size=w.heap.size+1:=by simp
  rw[e]at this;simp only[this];rfl
 ·rw[Dd _ _ _ (by simp)];have:=BO ((w.aC #[A5 sb] 36).aC #[A0 k] 3) (.cells #[A0 t] 3);have e:((w.aC #[A5 sb] 36).aC #[A0 k] 3).heap.size=w.heap.size+2:=by simp
  rw[e]at this;simp only[this];rfl
 ·have:=BO (((w.aC #[A5 sb] 36).aC #[A0 k] 3).aC #[A0 t] 3) (.cells #[A0 v] 3);have e:(((w.aC #[A5 sb] 36).aC #[A0 k] 3).aC #[A0 t] 3).heap.size=w.heap.size+3:=by simp
  rw[e]at this;simp only[this];rfl
def Jd.Ak{S:Nat->Prop}{x:Nat}{k t v:Int}(h:Jd w x sb k t v)(hc:A3 S w w')(hS:∀i,i<4->¬S (x+i)):Jd w' x sb k t v:=by
 obtain⟨E,I,z,W⟩:=h;have d:∀i u,i<4->w.cell? (Ac (x+i) 0)=some u->w'.cell? (Ac (x+i) 0)=some u:=λi u Y hu=>by
  have H:=GV w _ hu;have O:=hc.Ap (x+i) H (hS i Y);unfold World.cell? at hu ⊢;rw[O];exact hu
 exact⟨d 0 _ (by omega) E,d 1 _ (by omega) I,d 2 _ (by omega) z,d 3 _ (by omega) W⟩
def YP(w:World)(x:Nat)(p:Pu)(n:Int)(Q:World->Prop)(h:Jd w x sb p.1 p.2.1 p.2.2)(d:Af 66 #[A5 sb,Dv p] w (Aj (A0 n) λw'=>Q w')):
 Af 65 #[A5 x,A5 (x+1),A5 (x+2),A5 (x+3)] w (Aj (A0 n) λw'=>Q w'):=by
 obtain⟨p1,p2,p3⟩:=p;unfold Dv at d;dsimp only at d h;obtain⟨x0,x1,x2,x3⟩:=h;have z:=A1 d
 go_enter func65,ntmps65
 go_wp2_with (go_at_call 66;refine z.m ?_;rintro e w2⟨rfl,H⟩;have E:=A1 H);go_ret;exact⟨rfl,E.o⟩
def SF.bM(h:SF w sb ab b 0 Ad aA A6 ro L A P FT):Aq w FT (w.setCell ⟨sb,0,none⟩ (.int .i32 1)) (λw' d=>SF w' sb ab b 1 Ad aA A6 ro L A P d):=h.Di 0 _ λ_ h=>h.s0 1
def YM(w:World)(p:Pu)(h:SF w sb ab b 0 Ad aA A6 false L A P FT)(aE:∀k,FT k->k<w.heap.size)(hp:Bh p)(hn:A.j.AB=none->CM (A.j.Aa+1)/\AE (A.j.Aa+1)/\AE A.j.puts)(aB:A.j.Am.length<=1073741824)(hL:Lets B w)(H:∀k,FT k->B<=k)(hF:Fit P a c m)(aG:CU (a+1) (c+1) (m+33))(aI:∀k,k<8->(L k).length<1099511627000)(hl:1<=Ad/\Ad<=4611686018427387904)(hc:AE A6):
 Af 23 #[A5 sb,A0 p.1,A0 p.2.1,A0 p.2.2] w (Aj (A0 (A.ad P p).2.1) λw'=>
  Aq w FT w' (λw' d=>SF w' sb ab b 0 Ad aA A6 (decide ((A.ad P p).2.1≠0)) (if (A.ad P p).1=true then Fm L (Bc A6 Ad) p.1.toNat p.2.1 p.2.2 else L) (A.ad P p).2.2.1 (A.ad P p).2.2.2 d)):=by
 have aM:Hid (∀w',Af 63 #[A0 p.1] w' λe I=>e=.returned (.bool true)/\w'=I):=λw'=>by
  have:=Ms w' p.1
  rwa [CE hp.1]at this
 have W:=UK w sb p.1 p.2.1 p.2.2;have hX:=UL w sb p.1 p.2.1 p.2.2;have hZ:=A3e w sb p.1 p.2.1 p.2.2;generalize aL:boxed w sb p.1 p.2.1 p.2.2=w0 at W hX hZ;unfold boxed at aL;have hV:=h.au W;have Y:=hL.aM W;have z:=hV.bM;have E:Jd (w0.sC sb 0 (.int .i32 1)) w.heap.size sb p.1 p.2.1 p.2.2:=hX.Ak z.1 λi _ hx=>by have:=aE _ hx;omega
 have aK:Hid (Aq w FT (w0.sC sb 0 (.int .i32 1)) (λw' d=>SF w' sb ab b 1 Ad aA A6 false L A P d)):=z.a6 W;obtain⟨k1,aO,s1,s2,s3⟩:=aK.o;have aD:=Y.aj z.1 H;have aF:=hL.1
 have O:=A1 (A21 (w0.sC sb 0 (.int .i32 1)) w.heap.size (A.ad P p).2.1 s1 (YP _ w.heap.size p _ _ E
  (A3R _ p s1 s2 hp hn aB aD (λk hk=>(s3 k hk).elim (H k) λh=>AR aF h) hF aG aI hl hc)))
 have ST:Hid (∀wx R,Aq (w0.sC sb 0 (.int .i32 1)) aO wx R->Aq w FT wx R):=λwx R h=>Aq.a7 k1 s3 h;obtain⟨x0,x1,x2,x3⟩:=hX;obtain⟨y0,y1,y2,y3⟩:=E;have c0:A7 w0 sb 0 (.int .i32 0):=by obtain⟨lv,F0,q,-⟩:=hV;exact q.Ag.c0
 have f0:w0.frozen? (Ac sb 0)=false:=by obtain⟨lv,F0,q,-⟩:=hV;exact q.Ag.fz 0
 obtain⟨p1,p2,p3⟩:=p;dsimp only at *;generalize hR:A.ad P (p1,p2,p3)=R at O ⊢;obtain⟨aP,R2,R3,R4⟩:=R;dsimp only at O ⊢;generalize hL2:(if aP=true then Fm L (Bc A6 Ad) p1.toNat p2 p3 else L)=L2 at O ⊢
 go_enter_defers func23,ntmps23
 go_wp2_with (first
  | (go_at_call 61;refine(J0 Tryz.bu (Ac sb 0) _ c0 f0).mono ?_;rintro e w'⟨rfl,rfl⟩)
  | (go_at_call 63;refine(aM.o _).mono ?_;rintro e w'⟨rfl,rfl⟩))
 refine O.m ?_;rintro e w2⟨rfl,hS⟩;have aJ:=A1 (ST.o _ _ hS);go_wp2;refine J2 (f:=62) (args:=#[A5 sb]) (by simp) (by simp[go_sem]) ?_;refine(IC Tryz.bu (Ac sb 0) .returning _ ?_ ?_).mono ?_
 ·obtain⟨-,aN,⟨aH,aQ,a1,-⟩,-,-⟩:=aJ.o;exact a1.Ag.c0
 ·obtain⟨-,aN,⟨aH,aQ,a1,-⟩,-,-⟩:=aJ.o;exact a1.Ag.fz 0
 rintro e u' I⟨rfl,rfl,rfl⟩;exact⟨_,M8 rfl _ _ _,rfl,SFto.Di aJ.o 0 _ λlv h=>h.s0 0⟩
def A1M(w:World)(x:Nat)(n:Int)(Q:World->Prop)(h:Bt w sb mu (A5 ab) Ad aA A6 ro lv)(O:A7 w x 0 (A5 sb))(d:Af 68 #[A5 ab,A0 aA] w.drew (Aj (A0 n) λw'=>Q w')):
 Af 67 #[A5 x] w (Aj (A0 n) λw'=>Q w'):=by
 have c2:=h.c2;have H:=h.cW;have z:=A1 d
 go_enter func67,ntmps67
 go_wp2;refine BR (λw'=>A7 w' x 0 (A5 sb)/\A7 w' sb 2 (A5 ab)/\A7 w' sb 4 (A0 aA)) 8
  (Br [0,1,2,3,4,5,6,7] []) ⟨O,c2,H⟩ ?_
 iterate 8 (refine Bf ?_;(try simp only[An]))
 refine Bl ?_;simp only[BK,BJ];go_wp2_with (go_at_call 68;refine z.m ?_;rintro e w2⟨rfl,E⟩;have I:=A1 E);go_ret;exact⟨rfl,I.o⟩
def A2F(w:World)(x:Nat)(n o:Int)(Q:World->Prop)(h:Bt w sb mu (A5 ab) Ad aA A6 ro lv)(O:A7 w x 0 (A5 sb))(aF:Af 71 #[A5 sb] w.drew (Aj (A0 o) λw'=>A3 Ab w.drew w'))(Y:∀w2,A3 Ab w w2->Af 70 #[A5 ab,A0 aA,A0 o] w2 (Aj (A0 n) λw'=>Q w')):
 Af 69 #[A5 x] w (Aj (A0 n) λw'=>Q w'):=by
 have c2:=h.c2;have I:=h.cW;have aB:=A1 Y;have aD:Hid (Af 71 #[A5 sb] w.drew (Aj (A0 o) λw'=>(A7 w' x 0 (A5 sb)/\A7 w' sb 2 (A5 ab)/\A7 w' sb 4 (A0 aA))/\A3 Ab w w')):=by
  refine aF.mono ?_;rintro e w'⟨rfl,z⟩;have d:A3 Ab w w':=(A3.I _ w).af.tr z;exact⟨rfl,⟨d.ao O,d.ao c2,d.ao I⟩,d⟩
 go_enter func69,ntmps69
 go_wp2;refine BR (λw'=>A7 w' x 0 (A5 sb)/\A7 w' sb 2 (A5 ab)/\A7 w' sb 4 (A0 aA)) 10
  (Br [0,1,2,3,4,5,6,7,8,9] [9]) ⟨O,c2,I⟩ ?_
 iterate 9 (refine Bf ?_;(try simp only[An]))
 refine Bn λK hK=>?_;go_simp;refine aD.m ?_;rintro e w2⟨rfl,E,z⟩;refine hK _ _ E (λW=>?_);have H:=A1 (aB.o w2 z)
 (try simp only[An])
 refine Bl ?_;simp only[BK,BJ];go_wp2_with (go_at_call 70;refine H.m ?_;rintro e w3⟨rfl,W⟩;have aE:=A1 W);go_ret;exact⟨rfl,aE.o⟩
def R0(w:World)(f g:Nat)(I:(f=24/\g=67)\/(f=25/\g=69))(n:Int)(Q:World->Prop)(c0:w.cell? (Ac sb 0)=some (.int .i32 0))(f0:w.frozen? (Ac sb 0)=false)(hz:sb<w.heap.size)(aD:∀W,W=(w.alloc (.cells #[A5 sb] 36)).setCell (Ac sb 0) (.int .i32 1)->Af 64 #[A5 sb,.func (Fn.func g) #[] #[A5 w.heap.size]] W (Aj (A0 n) λw'=>w'.cell? (Ac sb 0)=some (.int .i32 1)/\w'.frozen? (Ac sb 0)=false/\Q w')):
 Af f #[A5 sb] w (Aj (A0 n) λw'=>∃w2,Q w2/\w'=w2.setCell (Ac sb 0) (.int .i32 0)):=by
 have hA:A3 Ab w (w.alloc (.cells #[A5 sb] 36)):=(A3.I _ w).ai _;have E:=BO w (.cells #[A5 sb] 36);have a0:=hA.ao c0;have Y:(w.alloc (.cells #[A5 sb] 36)).frozen? (Ac sb 0)=false:=by
  have z:=hA.Ap sb hz (λh=>h);unfold World.frozen? at f0 ⊢;rw[z];exact f0
 have aB:=A1 (aD _ rfl);have H:(w.alloc (.cells #[A5 sb] 36)).cell? (Ac w.heap.size 0)=some (A5 sb):=Gn E;have d:w.heap.size≠sb:=by omega
 have b1:((w.alloc (.cells #[A5 sb] 36)).sC sb 0 (.int .i32 1)).cell? (Ac w.heap.size 0)=some (A5 sb):=by
  have O:=(A3.I (One sb) (w.alloc (.cells #[A5 sb] 36))).aq (b:=sb) rfl 0 (.int .i32 1);have z:=O.Ap w.heap.size (by simp) (λh=>d h);unfold World.cell? at H ⊢;rw[z];exact H
 generalize hw0:(w.alloc (.cells #[A5 sb] 36))=w0 at a0 Y aB H b1;rcases I with⟨rfl,rfl⟩|⟨rfl,rfl⟩
 focus go_enter_defers func24,ntmps24
 rotate_left
 focus go_enter_defers func25,ntmps25
 all_goals
  go_wp2_with (go_at_call 61;refine(J0 Tryz.bu (Ac sb 0) _ a0 Y).mono ?_;rintro e w'⟨rfl,rfl⟩);refine aB.m ?_;rintro e w2⟨rfl,u0,uf,hS⟩;have aE:=A1 hS;go_wp2;refine J2 (f:=62) (args:=#[A5 sb]) (by simp) (by simp[go_sem]) ?_;refine(IC Tryz.bu (Ac sb 0) .returning _ ?_ ?_).mono ?_
  ·exact u0
  ·exact uf
  rintro e u' w''⟨rfl,rfl,rfl⟩;exact⟨_,M8 rfl _ _ _,rfl,_,aE.o,rfl⟩
def QZ(w:World)(n:Int)(Q:World->Prop)(c0:w.cell? (Ac sb 0)=some (.int .i32 0))(f0:w.frozen? (Ac sb 0)=false)(z:sb<w.heap.size)(h:∀d,d=(w.alloc (.cells #[A5 sb] 36)).setCell (Ac sb 0) (.int .i32 1)->Af 64 #[A5 sb,.func (Fn.func 67) #[] #[A5 w.heap.size]] d (Aj (A0 n) λw'=>w'.cell? (Ac sb 0)=some (.int .i32 1)/\w'.frozen? (Ac sb 0)=false/\Q w')):
 Af 24 #[A5 sb] w (Aj (A0 n) λw'=>∃w2,Q w2/\w'=w2.setCell (Ac sb 0) (.int .i32 0)):=
 R0 w _ _ (.inl ⟨rfl,rfl⟩) n Q c0 f0 z h
def R5(w:World)(n:Int)(Q:World->Prop)(c0:w.cell? (Ac sb 0)=some (.int .i32 0))(f0:w.frozen? (Ac sb 0)=false)(z:sb<w.heap.size)(h:∀d,d=(w.alloc (.cells #[A5 sb] 36)).setCell (Ac sb 0) (.int .i32 1)->Af 64 #[A5 sb,.func (Fn.func 69) #[] #[A5 w.heap.size]] d (Aj (A0 n) λw'=>w'.cell? (Ac sb 0)=some (.int .i32 1)/\w'.frozen? (Ac sb 0)=false/\Q w')):
 Af 25 #[A5 sb] w (Aj (A0 n) λw'=>∃w2,Q w2/\w'=w2.setCell (Ac sb 0) (.int .i32 0)):=
 R0 w _ _ (.inr ⟨rfl,rfl⟩) n Q c0 f0 z h
def QY(w:World)(n:Int)(Q:World->Prop)(c0:A7 w sb 0 (.int .i32 0))(f0:w.frozen? (Ac sb 0)=false)(c2:A7 (w.setCell (Ac sb 0) (.int .i32 1)) sb 2 (A5 ab))(H:Af 64 #[A5 sb,.func (Fn.func 74) #[A5 ab] #[]] (w.setCell (Ac sb 0) (.int .i32 1)) (Aj (A0 n) λw'=>A7 w' sb 0 (.int .i32 1)/\w'.frozen? (Ac sb 0)=false/\Q w')):
 Af 31 #[A5 sb] w (Aj (A0 n) λw'=>∃w2,Q w2/\w'=w2.setCell (Ac sb 0) (.int .i32 0)):=by
 have I:=A1 H
 go_enter_defers func31,ntmps31
 go_wp2_with (go_at_call 61;refine(J0 Tryz.bu (Ac sb 0) _ c0 f0).mono ?_;rintro e w'⟨rfl,rfl⟩);refine I.m ?_;rintro e w2⟨rfl,z,d,h⟩;have E:=A1 h;go_wp2;refine J2 (f:=62) (args:=#[A5 sb]) (by simp) (by simp[go_sem]) ?_;refine(IC Tryz.bu (Ac sb 0) .returning _ ?_ ?_).mono ?_
 ·exact z
 ·exact d
 rintro e u' w''⟨rfl,rfl,rfl⟩;exact⟨_,M8 rfl _ _ _,rfl,_,E.o,rfl⟩
end
end
section
open Go.MuLone Go.RowKit
section
variable {w w' w2:World} {sb ab b B:Nat} {mu Ad aA A6:Int} {ro:Bool} {lv:Nat->Value} {L L':Nat->List Pt} {A A':Ar} {P P':PD} {F0 FT:Nat->Prop} {a c m N:Nat}
def SF.c0(h:SF w sb ab b mu Ad aA A6 ro L A P FT):A7 w sb 0 (.int .i32 mu)/\w.frozen? (Ac sb 0)=false/\sb<w.heap.size/\A7 w sb 2 (A5 ab):=by
 obtain⟨lv,F0,q,-⟩:=h;exact⟨q.Ag.c0,q.Ag.fz 0,q.Ag.lt,q.Ag.c2⟩
def SF.b5(h:SF w sb ab b mu Ad aA A6 ro L A P FT)(E:∀k,FT k->B<=k)(f:Nat)(args:List Value)(n:Int)(W:Lets B w)(I:∀z F0,AD z ab b A P F0->(∀k,F0 k->k<z.heap.size)->Lets B z->(∀k,F0 k->B<=k)->Calls Tryz.prog f args.toArray z λe w'=>e=.returned (.int .i64 n)/\Aq z F0 w' (λw' d=>AD w' ab b A' P' d)):
 Calls Tryz.prog f args.toArray w λe w'=>e=.returned (.int .i64 n)/\Aq w FT w' (λw' d=>SF w' sb ab b mu Ad aA A6 ro L A' P' d):=by
 obtain⟨lv,F0,q,H⟩:=h;refine(I w F0 q.ar q.lt W (λk O=>E k (H k (.inl O)))).mono ?_;rintro e w'⟨rfl,Y⟩;exact⟨rfl,q.ej H Y⟩
def A1L(w:World)(n:Int)(h:SF w sb ab b 0 Ad aA A6 false L A P FT)(aE:∀k,FT k->k<w.heap.size)(hL:Lets B w)(O:∀k,FT k->B<=k)(aL:∀d F0,AD d ab b A P F0->(∀k,F0 k->k<d.heap.size)->Lets B d->(∀k,F0 k->B<=k)->Af 68 #[A5 ab,A0 aA] d (Aj (A0 n) λw'=>Aq d F0 w' (λw' z=>AD w' ab b A' P' z))):
 Af 24 #[A5 sb] w (Aj (A0 n) λw'=>Aq w FT w' (λw' z=>SF w' sb ab b 0 Ad aA A6 (decide (n≠0)) L A' P' z)):=by
 obtain⟨c0,f0,hz,-⟩:=h.c0;have W:A3 Ab w (w.aC #[A5 sb] 36):=(A3.I _ w).ai _;have aB:=BO w (.cells #[A5 sb] 36);have aF:=hL.1;refine(QZ w n (λw2=>Aq w FT w2 (λw' z=>SF w' sb ab b 1 Ad aA A6 (decide (n≠0)) L A' P' z)) c0 f0 hz (λd aI=>?_)).mono ?_
 ·have H:=(h.au W).bM;rw[<-aI]at H;obtain⟨Y,aG,s1,s2,s3⟩:=H;have aD:=(hL.aM W).aj Y O;have b0:(w.aC #[A5 sb] 36).cell? (Ac w.heap.size 0)=some (A5 sb):=Gn aB;have hx:d.cell? (Ac w.heap.size 0)=some (A5 sb):=by
   have hb:=Y.Ap w.heap.size (by simp) (λhx=>G6 _ (aE _ hx));unfold World.cell? at b0 ⊢;rw[hb];exact b0
  have I:∀k,aG k->B<=k:=λk hk=>(s3 k hk).elim (O k) λh=>AR aF (AR W.Ao h)
  obtain⟨aH,aK,q,hs⟩:=s1;have s1:SF d sb ab b 1 Ad aA A6 false L A P aG:=⟨aH,aK,q,hs⟩;have body:Af 67 #[A5 w.heap.size] d (Aj (A0 n) λw'=>Aq d aG w' (λw' z=>SF w' sb ab b 1 Ad aA A6 false L A' P' z)):=by
   have kd:A3 Ab d d.drew:=(A3.I _ d).af;refine A1M d w.heap.size n _ q.Ag hx ?_;refine((s1.au kd).b5 I _ [A5 ab,A0 aA] n (aD.aM kd) aL).mono ?_;rintro e w'⟨rfl,E⟩;exact⟨rfl,E.a6 kd⟩
  refine(A22 d w.heap.size n s1 body).mono ?_;rintro e w'⟨rfl,E⟩;have aJ:=(Aq.a7 Y s3 E).a6 W;obtain⟨-,F3,q3,-,-⟩:=E;obtain⟨d0,df,-,-⟩:=q3.c0;exact⟨rfl,d0,df,aJ⟩
 ·rintro e w'⟨rfl,w2,E,rfl⟩;exact⟨rfl,SFto.Di E 0 _ λlv h=>h.s0 0⟩
def A2D(w:World)(n:Int)(h:SF w sb ab b 0 Ad aA A6 false L A P FT)(aE:∀k,FT k->k<w.heap.size)(hL:Lets B w)(O:∀k,FT k->B<=k)(hl:1<=Ad/\Ad<=4611686018427387904)(hc:AE A6)(aL:∀d F0,AD d ab b A P F0->(∀k,F0 k->k<d.heap.size)->Lets B d->(∀k,F0 k->B<=k)->Af 70 #[A5 ab,A0 aA,A0 (Bc A6 Ad)] d (Aj (A0 n) λw'=>Aq d F0 w' (λw' z=>AD w' ab b A' P' z))):
 Af 25 #[A5 sb] w (Aj (A0 n) λw'=>Aq w FT w' (λw' z=>SF w' sb ab b 0 Ad aA A6 (decide (n≠0)) L A' P' z)):=by
 obtain⟨c0,f0,hz,-⟩:=h.c0;have W:A3 Ab w (w.aC #[A5 sb] 36):=(A3.I _ w).ai _;have aB:=BO w (.cells #[A5 sb] 36);have aF:=hL.1;refine(R5 w n (λw2=>Aq w FT w2 (λw' z=>SF w' sb ab b 1 Ad aA A6 (decide (n≠0)) L A' P' z)) c0 f0 hz (λd aI=>?_)).mono ?_
 ·have H:=(h.au W).bM;rw[<-aI]at H;obtain⟨Y,aG,s1,s2,s3⟩:=H;have aD:=(hL.aM W).aj Y O;have b0:(w.aC #[A5 sb] 36).cell? (Ac w.heap.size 0)=some (A5 sb):=Gn aB;have hx:d.cell? (Ac w.heap.size 0)=some (A5 sb):=by
   have hb:=Y.Ap w.heap.size (by simp) (λhx=>G6 _ (aE _ hx));unfold World.cell? at b0 ⊢;rw[hb];exact b0
  have I:∀k,aG k->B<=k:=λk hk=>(s3 k hk).elim (O k) λh=>AR aF (AR W.Ao h)
  obtain⟨aH,aK,q,hs⟩:=s1;have s1:SF d sb ab b 1 Ad aA A6 false L A P aG:=⟨aH,aK,q,hs⟩;have body:Af 69 #[A5 w.heap.size] d (Aj (A0 n) λw'=>Aq d aG w' (λw' z=>SF w' sb ab b 1 Ad aA A6 false L A' P' z)):=by
   have kd:A3 Ab d d.drew:=(A3.I _ d).af;refine A2F d w.heap.size n (Bc A6 Ad) _ q.Ag hx (Mj d.drew sb A6 Ad (q.Ag.Ak kd λh=>h).c3 (q.Ag.Ak kd λh=>h).cK hl hc) λw2 kk=>?_;refine((s1.au kk).b5 I _ [A5 ab,A0 aA,A0 (Bc A6 Ad)] n (aD.aM kk) aL).mono ?_;rintro e w'⟨rfl,E⟩;exact⟨rfl,E.a6 kk⟩
  refine(A23 d w.heap.size n s1 body).mono ?_;rintro e w'⟨rfl,E⟩;have aJ:=(Aq.a7 Y s3 E).a6 W;obtain⟨-,F3,q3,-,-⟩:=E;obtain⟨d0,df,-,-⟩:=q3.c0;exact⟨rfl,d0,df,aJ⟩
 ·rintro e w'⟨rfl,w2,E,rfl⟩;exact⟨rfl,SFto.Di E 0 _ λlv h=>h.s0 0⟩
def WO(w:World)(n:Int)(h:SF w sb ab b 0 Ad aA A6 false L A P FT)(Y:Lets B w)(E:∀k,FT k->B<=k)(aB:∀z F0,AD z ab b A P F0->(∀k,F0 k->k<z.heap.size)->Lets B z->(∀k,F0 k->B<=k)->Af 74 #[A5 ab] z (Aj (A0 n) λw'=>Aq z F0 w' (λw' d=>AD w' ab b A' P' d))):
 Af 31 #[A5 sb] w (Aj (A0 n) λw'=>Aq w FT w' (λw' d=>SF w' sb ab b 0 Ad aA A6 (decide (n≠0)) L A' P' d)):=by
 obtain⟨c0,f0,-,-⟩:=h.c0;have I:=Y.1;obtain⟨W,F1,s1,s2,s3⟩:=h.bM;obtain⟨-,-,-,c2⟩:=s1.c0;refine(QY (ab:=ab) w n (λw2=>Aq w FT w2 (λw' d=>SF w' sb ab b 1 Ad aA A6 (decide (n≠0)) L A' P' d)) c0 f0 c2 ?_).mono ?_
 ·refine(A20 _ 0 n s1 (s1.b5 (λk hk=>(s3 k hk).elim (E k) λh=>AR I h) _ [A5 ab] n (Y.aj W E) aB)).mono ?_;rintro e w'⟨rfl,H⟩;have O:=Aq.a7 W s3 H;obtain⟨-,F3,q3,-,-⟩:=H;obtain⟨d0,df,-,-⟩:=q3.c0;exact⟨rfl,d0,df,O⟩
 ·rintro e w'⟨rfl,w2,H,rfl⟩;exact⟨rfl,SFto.Di H 0 _ λlv h=>h.s0 0⟩
end
end
end Go.Proofs.YtodcnkbblippnaaGreatDoor
