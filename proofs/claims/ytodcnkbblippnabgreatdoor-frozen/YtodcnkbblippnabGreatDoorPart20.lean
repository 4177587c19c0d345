/- Part 20 of a proof: walks of the program. -/
import Derived.Test.YtodcnkbblippnabGreatDoorPart19
namespace Go.Proofs.YtodcnkbblippnabGreatDoor
set_option maxRecDepth 100000
set_option maxHeartbeats 32000000
set_option linter.defProp false
open Go.Proofs.Tryz
section
open Go.RowKit
def Cp(t:Nat):Int×Int:=(t,400000*(t:Int))
def Ib{t d:Nat}(h:t<=d):Hq (Cp t) (Cp d):=⟨by simp only[Cp];omega,by simp only[Cp];omega⟩
structure PB (P:PD) (t:Nat):Prop where
 CT:Fit P (3*t+20) (2000000*(t+1)) (40*t+1000)
 Aq:Bn P (400000*(t+1))
 refQ:0<=P.D.n.B5/\P.D.n.B5<=t
 KF:0<=P.D.n.fulls/\P.D.n.fulls<=t
def PB.ad{P:PD}{t d:Nat}(h:PB P t)(ht:t<=d):PB P d:=
 ⟨h.CT.ad (by omega) (by omega) (by omega),h.Aq.ad (by omega),by have:=h.refQ;omega,by have:=h.KF;omega⟩
def Hf(P:PD)(e:Int)(P':PD):Prop:=(e=0/\P'.D.n.B5=P.D.n.B5/\P'.D.n.fulls=P.D.n.fulls/\P'.D.n.AS=P.D.n.AS)\/
 (e=5/\P'.D.n.B5=P.D.n.B5+1/\P'.D.n.fulls=P.D.n.fulls)\/(e=6/\P'.D.n.B5=P.D.n.B5+1/\P'.D.n.fulls=P.D.n.fulls+1/\P'.D.n.AS=P.D.n.AS)
section
variable {bd:Int×Int} {P P':PD} {A:Ar} {sg cl:List (Int×List Pu)} {ol:Option (List Pu)} {puts:List Pu} {Ad:Nat} {o:Int} {t:Nat}
def Cn.de{e:Int}(h:Cn P.D.n e P'.D.n)(z:PB P t)(ht:t<=200000)(he:e=0\/e=5\/e=6):Hf P e P':=by
 have h1:=z.refQ;have h2:=z.KF;have E:wrap64 (P.D.n.B5+1)=P.D.n.B5+1:=by unfold wrap64;omega
 have H:wrap64 (P.D.n.fulls+1)=P.D.n.fulls+1:=by unfold wrap64;omega
 rcases h with⟨a,b,c,d,f⟩|⟨a,b,c⟩|⟨a,b,c,d⟩
 ·exact .inl ⟨by omega,c,d,f⟩
 ·exact .inr (.inl ⟨a,b.trans E,c⟩)
 ·exact .inr (.inr ⟨a,b.trans E,c.trans H,d⟩)
def Hf.refQ{e:Int}(h:Hf P e P')(d:PB P t):(0<=P'.D.n.B5/\P'.D.n.B5<=(t+1:Nat))/\0<=P'.D.n.fulls/\P'.D.n.fulls<=(t+1:Nat):=by
 have h1:=d.refQ;have h2:=d.KF;rcases h with⟨_,b,c,_⟩|⟨_,b,c⟩|⟨_,b,c,_⟩<;>rw[b,c]<;>omega
def X6{l:List Int}(d:l.Pairwise (· < ·)){t:Nat}(h:∀x∈l,1<=x/\x<=t):l.length<=t:=by
 have:=ID (l':=(List.range t).map λ(i:Nat)=>(i:Int)+1) (d.imp λh=>Va h) λx z=>by
  obtain⟨h1,h2⟩:=h x z;exact CA.2 ⟨(x-1).toNat,MB.2 (by omega),by omega⟩
 simpa using this
structure Pc (A:Ar) (P:PD) (sg cl:List (Int×List Pu)) (ol:Option (List Pu)) (t:Nat):Prop where
 j:0<=A.j.A8/\A.j.A8<=t
 jn:isNum (A.j.A8+1)=true
 s:0<=A.A8/\A.A8<=400000*(t:Int)
 Aj:A.j.Aj.length<=t
 segs:A.ix.segs.length<=t/\sg.length<=t
 Cl:(B6 sg cl ol).length<=t/\(Aw cl++ol.getD []).length<=t
 Ax:P.Ax.length<=3*t+20
 Ma:A.Ax.length<=2*t+1
def SI.bE(h:SI (Cp t) A P puts Ad o sg cl ol)(hp:PB P t)(hl:puts.length<=t)(ht:t<=200000):Pc A P sg cl ol t:=by
 have Y:=h.AX.Ew.1;have I:=h.Ed.2.1;have h3:=h.AX.Ei.1;have L:=h.Ed.2.2;simp only[Cp]at I L;have hall:=h.Cl.2.2;have h5:(B6 sg cl ol).length=(Aw sg).length+(Aw cl++ol.getD []).length:=by unfold B6;rw[AZ]
 have hseg:sg.length<=(Aw sg).length:=by
  have:=GV (ws:=sg.map (·.2)) λw hw=>by
   obtain⟨x,d,rfl⟩:=CA.1 hw;exact h.Ed.1.2.2 x d
  rw[FR]at this;unfold Aw;rw[UX];exact this
 have hsl:A.ix.segs.length=sg.length:=by rw[<-h.AX.segs,FR]
 have z:A.j.Aj.length<=t:=by
  refine X6 h.AX.GU λx d=>?_;rw[h.AX.bU]at d;have W:∀y∈cl,1<=y.1/\y.1<=t:=λy E=>by
   have q:=(h.AX.CO y E).1;have O:=q.1;unfold isNum at O;simp at O;have:=q.2;omega
  cases ol with
  | none=>
   obtain⟨y,E,rfl⟩:=CA.1 d;exact W y E
  | some l=>
   unfold shut at d;rw[E6]at d;rcases AV.1 d with d|d
   ·obtain⟨y,E,rfl⟩:=CA.1 d;exact W y E
   ·simp at d;have q:=h.AX.AF.2.2.2.2;unfold isNum at q;simp at q;omega
 have H:P.Ax.length<=3*t+20:=by rw[Ha];exact hp.CT.A4
 refine⟨⟨Y,I⟩,by unfold isNum;simp;omega,⟨h3,L⟩,z,⟨by omega,by omega⟩,⟨by omega,by omega⟩,H,?_⟩;unfold Ar.Ax;simp only[AZ,CG,FR];omega
end
structure St (t:Nat) (A:Ar) (P:PD) (puts:List Pu) (Ad:Nat) (o:Int) (ro:Bool):Prop where
 pb:PB P t
 di:DI (Cp t) P puts Ad o
 rd:Reads (Cp t) P puts o
 si:ro=false->∃sg cl ol,SI (Cp t) A P puts Ad o sg cl ol/\A.AN.length<=3*t+20
 pu:∀p∈puts,Bg p
 B8:puts.length<=t
 le:Ad<=puts.length
 AS:P.D.n.AS=false
section
variable {P P':PD} {A A':Ar} {puts:List Pu} {Ad:Nat} {o:Int} {t:Nat} {ro:Bool}
def St.ad{z:Nat}(h:St t A P puts Ad o ro)(d:t<=z):St z A P puts Ad o ro:=
 ⟨h.pb.ad d,h.di.a6 (Ib d),h.rd.a6 (Ib d),λe=>by obtain⟨sg,cl,ol,E,h2⟩:=h.si e;exact⟨sg,cl,ol,E.a6 (Ib d),by omega⟩,h.pu,by have:=h.B8;omega,h.le,h.AS⟩
def St.dm{q:List Pu}(E:PB P t)(z:DI (Cp t) P q Ad o)(L:Reads (Cp t) P q o)(H:∀p∈q,Bg p)(I:q.length<=t)(h:Ad<=q.length)(d:P.D.n.AS=false):St t A P q Ad o true:=
 ⟨E,z,L,λe=>(by cases e),H,I,h,d⟩
def St.aa(h:St t A P puts Ad o false)(ht:t+1<=200000)(p:Pu)(L:Bg p):
 PB (A.aa P p).2.2.2 (t+1)/\Hf P (A.aa P p).2.1 (A.aa P p).2.2.2/\DI (Cp (t+1)) (A.aa P p).2.2.2 (puts++[p]) Ad o/\
  ((A.aa P p).1=true->Reads (Cp (t+1)) (A.aa P p).2.2.2 (puts++[p]) o)/\((A.aa P p).1=false->DI (Cp (t+1)) (A.aa P p).2.2.2 puts Ad o/\Reads (Cp (t+1)) (A.aa P p).2.2.2 puts o)/\
  ((A.aa P p).2.1=0->(A.aa P p).1=true/\St (t+1) (A.aa P p).2.2.1 (A.aa P p).2.2.2 (puts++[p]) Ad o false)/\((A.aa P p).2.1=6->P.D.n.AB-B4 P.F P.D.A4<200):=by
 obtain⟨sg,cl,ol,Y,hll⟩:=h.si rfl;have W:=Y.bE h.pb h.B8 (by omega);have hj:=W.j;have O:=Y.a6 (Ib (Hj t));obtain⟨a1,a2,a3,a4⟩:=O.aa (λ_=>⟨W.jn,by simp only[Cp];omega⟩) p L;have E:=Y.eQ (λ_=>W.jn) p L (by omega);have d:=(A2B A P p).de h.pb (by omega) E;obtain⟨r1,r2⟩:=d.refQ h.pb;have I:PB (A.aa P p).2.2.2 (t+1):=⟨(h.pb.CT.fp p).ad (by omega) (by omega) (by omega),(A2k h.pb.Aq p).ad (by omega),r1,r2⟩;have hlen:=h.B8;have hle:=h.le;refine⟨I,d,a1,a2,a3,λe=>?_,λe=>A2m e⟩;obtain⟨b1,b2,b3⟩:=a4 e;refine⟨b1,I,a1,a2 b1,λ_=>⟨sg,cl,_,b2,by rw[b3];simp⟩,λq H=>?_,by simp;omega,by simp;omega,?_⟩
 ·rcases AV.1 H with H|H
  ·exact h.pu q H
  ·simp at H;subst H;exact L
 ·rcases d with⟨_,_,_,z⟩|⟨z,_⟩|⟨z,_⟩
  ·rw[z];exact h.AS
  ·rw[e]at z;cases z
  ·rw[e]at z;cases z
def St.ae(h:St t A P puts Ad o false)(ht:t+1<=200000):
 PB (A.ae P).2.2 (t+1)/\Hf P (A.ae P).1 (A.ae P).2.2/\DI (Cp (t+1)) (A.ae P).2.2 puts Ad o/\Reads (Cp (t+1)) (A.ae P).2.2 puts o/\
  ((A.ae P).1=0->St (t+1) (A.ae P).2.1 (A.ae P).2.2 puts puts.length o false)/\(A.ae P).1≠6:=by
 obtain⟨sg,cl,ol,O,hll⟩:=h.si rfl;have H:=O.a6 (Ib (Hj t));obtain⟨⟨a1,L⟩,Y⟩:=H.ae;have hcode:=O.fP (by omega);have d:=(A2A A P).de h.pb (by omega) (by omega);obtain⟨W,r2⟩:=d.refQ h.pb;have E:PB (A.ae P).2.2 (t+1):=⟨h.pb.CT.fF.ad (by omega) (by omega) (by omega),(A2j h.pb.Aq).ad (by omega),W,r2⟩;have hlen:=h.B8;refine⟨E,d,a1,L,λe=>?_,Ue A P⟩;obtain⟨I,b2,b3⟩:=Y e;refine⟨E,I.di,L,λ_=>⟨sg,cl,ol,I,by rw[b2];simp⟩,h.pu,by omega,Au _,?_⟩;rcases d with⟨_,_,_,z⟩|⟨z,_⟩|⟨z,_⟩
 ·rw[z];exact h.AS
 ·rw[e]at z;cases z
 ·rw[e]at z;cases z
def PB.ay{sg cl:List (Int×List Pu)}{ol:Option (List Pu)}(h:PB P t)(L:FP P)(I:Pc A P sg cl ol t)(ht:t+1<=200000)(kept:List Int)(fresh:List (List Pu))(hk:kept.length<=t)(hf:fresh.length<=t)(H:∀l∈fresh,l.length<=t)(Y:(A.ay P kept fresh).1=0\/(A.ay P kept fresh).1=5\/(A.ay P kept fresh).1=6):PB (A.ay P kept fresh).2.2 (t+1)/\Hf P (A.ay P kept fresh).1 (A.ay P kept fresh).2.2:=by
 have d:=(A2t A P kept fresh).de h (by omega) Y;obtain⟨z,O⟩:=d.refQ h;have hc:=I.Ma;have E:=h.CT.ay (A:=A) kept fresh;obtain⟨w,i⟩:=X7 (a:=3*(t+1)+20) (m:=40*(t+1)+1000) (A:=A) (h.CT.ad (a':=3*(t+1)+20) (m':=40*(t+1)+1000) (by omega) (Au _) (by omega)).wd h.Aq L kept fresh (by omega) (λl W=>by have:=H l W;omega) (by omega);exact⟨⟨(w.CT E).ad (Au _) (by omega) (Au _),i.ad (by omega),z,O⟩,d⟩
def St.aT{Ai:Int}(h:St t A P puts Ad o false)(hw:BS (AA Ai))(ht:t+1<=200000):
 PB (A.aT P Ai).2.2 (t+1)/\Hf P (A.aT P Ai).1 (A.aT P Ai).2.2/\DI (Cp (t+1)) (A.aT P Ai).2.2 puts Ad o/\Reads (Cp (t+1)) (A.aT P Ai).2.2 puts o/\
  ((A.aT P Ai).1=0->St (t+1) (A.aT P Ai).2.1 (A.aT P Ai).2.2 puts puts.length o false):=by
 obtain⟨sg,cl,ol,W,hll⟩:=h.si rfl;have E:=W.bE h.pb h.B8 (by omega);obtain⟨n1,n2⟩:=E.Cl;obtain⟨n3,n4⟩:=E.segs;have n5:=E.Ax;have n6:=E.Aj;have n7:=E.s;have aB:=W.a6 (Ib (Hj t));obtain⟨⟨a1,a2⟩,a3⟩:=aB.aT hw E.jn n1 (by omega) (by omega) (by simp only[Cp];omega) (by omega);have I:=W.fI hw E.jn n1 (by omega) (by omega) (by omega);have hp:=W.AX.puts W.CQ;have L:=H9 hw (Aw cl++ol.getD []);have hfl:=GV L.ne;have hfl2:=L.B8;have e:A.aT P Ai=A.ay P A.ix.segs (Bx Ai (Aw cl++ol.getD [])):=by
  unfold Ar.aT;rw[hp,Ac (by simp)]
 have z:=h.pb.ay (A:=A) h.di.bh E ht A.ix.segs (Bx Ai (Aw cl++ol.getD [])) n3 (by omega) (λl hl=>by
  have:=(Mz hl).length_le
  omega) (by rw[<-e];exact I)
 rw[<-e]at z;obtain⟨O,d⟩:=z;have hlen:=h.B8;refine⟨O,d,a1,a2,λY=>?_⟩;obtain⟨aA,b1,b2,_⟩:=a3 Y;refine⟨O,b1.di,a2,λ_=>⟨aA,[],none,b1,by rw[b2];simp⟩,h.pu,by omega,Au _,?_⟩;rcases d with⟨_,_,_,H⟩|⟨H,_⟩|⟨H,_⟩
 ·rw[H];exact h.AS
 ·rw[Y]at H;cases H
 ·rw[Y]at H;cases H
def St.aQ{Ai:Int}(h:St t A P puts Ad o false)(hw:BS (AA Ai))(ht:t+1<=200000):
 PB (A.aQ P Ai o).2.2 (t+1)/\Hf P (A.aQ P Ai o).1 (A.aQ P Ai o).2.2/\DI (Cp (t+1)) (A.aQ P Ai o).2.2 puts Ad o/\Reads (Cp (t+1)) (A.aQ P Ai o).2.2 puts o/\
  ((A.aQ P Ai o).1=0->St (t+1) (A.aQ P Ai o).2.1 (A.aQ P Ai o).2.2 puts puts.length o false):=by
 obtain⟨sg,cl,ol,O,hll⟩:=h.si rfl;have H:=O.bE h.pb h.B8 (by omega);obtain⟨n1,n2⟩:=H.Cl;obtain⟨n3,n4⟩:=H.segs;have n5:=H.Ax;have n6:=H.Aj;have n7:=H.s;have aD:=O.a6 (Ib (Hj t));obtain⟨⟨a1,a2⟩,a3⟩:=aD.aQ hw H.jn n1 (by omega) (by omega) (by simp only[Cp];omega) (by omega);have L:=O.fD hw H.jn n1 (by omega) (by omega) (by omega);have hp:=O.AX.puts O.CQ;have W:=H9 hw (B6 sg cl ol);have hfl:=GV W.ne;have hfl2:=W.B8;have I:=Js sg o (Bx Ai (B6 sg cl ol));have aA:=I.length_eq;have hal:(DK o (Bx Ai (B6 sg cl ol))).length<=(Bx Ai (B6 sg cl ol)).length:=J1 _ _;rw[AZ,FR]at aA;have hks:(BG sg o (Bx Ai (B6 sg cl ol))).1.length=(G4 sg o (Bx Ai (B6 sg cl ol))).length:=by rw[Jt,FR]
 have e:A.aQ P Ai o=A.ay P ((BG sg o (Bx Ai (B6 sg cl ol))).1.mergeSort λx y=>decide (x<=y)) (BG sg o (Bx Ai (B6 sg cl ol))).2:=by
  unfold Ar.aQ;rw[O.AX.b7];dsimp only
  have z:sg.flatMap (·.2)++(P.puts A.j.Aj).1=B6 sg cl ol:=by rw[hp];rfl
  rw[z,hp,Ac (by simp)]
 have E:=h.pb.ay (A:=A) h.di.bh H ht ((BG sg o (Bx Ai (B6 sg cl ol))).1.mergeSort λx y=>decide (x<=y)) (BG sg o (Bx Ai (B6 sg cl ol))).2 (by rw[ME];omega) (by omega) (λl hl=>by
  have:=(Mz (IM hl)).length_le
  omega) (by rw[<-e];exact L)
 rw[<-e]at E;obtain⟨Y,d⟩:=E;have hlen:=h.B8;refine⟨Y,d,a1,a2,λe0=>?_⟩;obtain⟨aB,b1,b2,_⟩:=a3 e0;refine⟨Y,b1.di,a2,λ_=>⟨aB,[],none,b1,by rw[b2];simp⟩,h.pu,by omega,Au _,?_⟩;rcases d with⟨_,_,_,z⟩|⟨z,_⟩|⟨z,_⟩
 ·rw[z];exact h.AS
 ·rw[e0]at z;cases z
 ·rw[e0]at z;cases z
def St.aU(d:PB P t)(I:DI (Cp t) P puts Ad o)(L:Reads (Cp t) P puts o)(O:∀p∈puts,Bg p)(hl:puts.length<=t)(z:Ad<=puts.length)(h:P.D.n.AS=false)(ht:t<=200000):
 ∃A H,Ar.aU P=.ok (A,H)/\St t A P puts Ad o false/\C8 o H puts/\(∀p∈H,Bg p):=by
 obtain⟨A',sg,cl,Y,E,h3,W⟩:=SI.aU I (by simp only[Cp];omega) L z (by omega);refine⟨A',_,Y,⟨d,I,L,λ_=>⟨sg,cl,none,E,?_⟩,O,hl,z,h⟩,h3,λp d=>?_⟩
 ·rw[W];have h5:(A'.aY P).length<=P.Ax.length:=J1 _ _;have h6:P.Ax.length<=3*t+20:=by rw[Ha];exact d.CT.A4
  omega
 ·rcases AV.1 d with d|d
  ·exact E.AX.cP p d
  ·exact E.AX.b0 p d
def PB.bt(h:PB P t)(n:DN)(E:n.AB=P.D.n.AB)(d:0<=n.Bq/\n.Bq<=9223372036854775807)(H:n.B5=P.D.n.B5)(z:n.fulls=P.D.n.fulls):PB ⟨{P.D with n:=n},P.F⟩ t:=
 ⟨⟨h.CT.A4,h.CT.AM,h.CT.Fi,h.CT.An,h.CT.B8,by rw[E];exact h.CT.AB,d⟩,h.Aq,by rw[H];exact h.refQ,by rw[z];exact h.KF⟩
def St.bt(h:St t A P puts Ad o ro)(n:DN)(H:n.AB=P.D.n.AB)(z:0<=n.Bq/\n.Bq<=9223372036854775807)(L:n.B5=P.D.n.B5)(E:n.fulls=P.D.n.fulls)(I:n.AS=P.D.n.AS):St t A ⟨{P.D with n:=n},P.F⟩ puts Ad o ro:=
 ⟨h.pb.bt n H z L E,⟨h.di.Ds,h.di.Aq,h.di.Cb,h.di.Co⟩,h.rd.aI λ_=>rfl,λe=>by
  obtain⟨sg,cl,ol,q,d⟩:=h.si e
  exact⟨sg,cl,ol,⟨⟨q.di.Ds,q.di.Aq,q.di.Cb,q.di.Co⟩,q.AX.aI λ_=>rfl,q.Hu,q.Gt,q.AF,q.CQ,q.Ed⟩,d⟩,h.pu,h.B8,h.le,I.trans h.AS⟩
def GM(t:Nat)(P:PD)(puts:List Pu)(Ad:Nat)(o:Int)(h:Bool):Prop:=
 PB P t/\DI (Cp t) P puts Ad o/\(∀p∈puts,Bg p)/\puts.length<=t/\Ad<=puts.length/\
  (P.D.n.AS=true\/∃d,Ad<=d/\d<=puts.length/\(h=false->d=puts.length)/\∀z n,o<=z->d<=n->n<=puts.length->C8 z (puts.take d) (puts.take n)->DI (Cp t) P (puts.take n) Ad z/\Reads (Cp t) P (puts.take n) z)
def St.cX(h:St t A P puts Ad o ro)(d:Bool):GM t P puts Ad o d:=
 ⟨h.pb,h.di,h.pu,h.B8,h.le,.inr ⟨puts.length,h.le,Au _,λ_=>rfl,λo' n z h2 h3 _=>by
  have e:n=puts.length:=by omega
  subst e;rw[C9]
  exact⟨h.di.bQ z,h.rd.bQ z⟩⟩⟩
def A1b(h:PB P t)(hd:DI (Cp t) P puts Ad o)(z:Int)(d:List Int):PB (P.aW z d) t:=by
 have H:=TK P.D z;generalize W:FM P.D z=s at H;have L:(P.aW z d).D.A4=s:=by unfold PD.aW Fg;dsimp only;exact W
 have aD:(P.aW z d).D.AM=s:=by unfold PD.aW Fg;dsimp only;exact W
 have Y:(P.aW z d).D.As=[]:=rfl;have O:∀e∈s,P.D.Aq e.2:=λe E=>by
  rcases BP.1 H with H|H
  ·rw[H]at E;exact .inr (.inl ⟨e,E,rfl⟩)
  ·exact .inr (.inr ⟨s,H,e,E,rfl⟩)
 have I:∀f,(P.aW z d).D.Aq f->P.D.Aq f/\∃e∈s,e.2=f:=λf hf=>by
  rcases hf with⟨e,E,rfl⟩|⟨e,E,rfl⟩|⟨l,hl,_⟩
  ·rw[L]at E;exact⟨O e E,e,E,rfl⟩
  ·rw[aD]at E;exact⟨O e E,e,E,rfl⟩
  ·rw[Y]at hl;cases hl
 have aA:s.length<=3*t+20:=by
  rcases BP.1 H with H|H
  ·rw[H];exact h.CT.AM
  ·exact h.CT.Fi s H
 have hr:∀e∈s,0<=(P.F e.2).2/\(P.F e.2).2<=(P.F e.2).1.length:=λe E=>by
  obtain⟨ix,sg,cl,lo,nb,hL,_⟩:=hd.Ds s H;have hv:vw P.F s e.1.data.toList=some (P.F e.2):=by
   unfold vw;rw[G3];cases hk:lookup s e.1 with
   | none=>exact absurd rfl (IG.1 hk e E)
   | some g=>
    obtain⟨i,hi,e1⟩:=DQ (E1 hk);obtain⟨j,hj,e2⟩:=DQ E;have:i=j:=Jp (hd.Cb s H) (by simpa using hi) (by simpa using hj) (by simp[e1,e2]);subst this;rw[e1]at e2;rw[<-e2];rfl
  exact hL.DT _ _ hv
 refine⟨⟨by rw[L];exact aA,by rw[aD];exact aA,λl hl=>(by rw[Y]at hl;cases hl),(by rw[Y];simp),λf hf=>?_,h.CT.AB,h.CT.Bq⟩,λf hf=>h.Aq f (I f hf).1,h.refQ,h.KF⟩;obtain⟨h1,e,E,rfl⟩:=I f hf;have hF:(P.aW z d).F=DH s d (dList s) P.F s.length:=by unfold PD.aW Fg;dsimp only;rw[W]
 rw[hF];have aB:=h.CT.B8 _ h1;rcases TI s d (dList s) P.F hr s.length e E with⟨q,_⟩|⟨x,q⟩
 ·rw[q];exact aB
 ·rw[q];obtain⟨j,_,_,j3⟩:=OM (hr e E) x;rw[j3];simp only[BU];omega
def GM.aW(Y:PB P t)(E:DI (Cp t) P puts Ad o)(I:∀p∈puts,Bg p)(hl:puts.length<=t)(z:Ad<=puts.length)(ht:t<=200000)(h:Int)(d:List Int):
 GM t (P.aW h d) puts Ad o true/\(P.aW h d).D.n.AS=false:=by
 obtain⟨O,n,H,h3,L⟩:=E.aW h d (by omega);exact⟨⟨A1b Y E h d,O,I,hl,z,.inr ⟨n,H,h3,λe=>(by cases e),λo' m W _ _ h6=>L o' _ W h6⟩⟩,rfl⟩
def GM.bt{z:Bool}(h:GM t P puts Ad o z)(n:DN)(h1:n.AB=P.D.n.AB)(L:0<=n.Bq/\n.Bq<=9223372036854775807)(h3:n.B5=P.D.n.B5)(W:n.fulls=P.D.n.fulls)(h5:n.AS=P.D.n.AS):GM t ⟨{P.D with n:=n},P.F⟩ puts Ad o z:=by
 obtain⟨g1,E,g3,g4,g5,H⟩:=h;refine⟨g1.bt n h1 L h3 W,⟨E.Ds,E.Aq,E.Cb,E.Co⟩,g3,g4,g5,?_⟩;rcases H with H|⟨n0,I,k2,O,k4⟩
 ·exact .inl (h5.trans H)
 ·refine .inr ⟨n0,I,k2,O,λo2 n2 Y q2 q3 q4=>?_⟩;obtain⟨d,r⟩:=k4 o2 n2 Y q2 q3 q4;exact⟨⟨d.Ds,d.Aq,d.Cb,d.Co⟩,r.aI λ_=>rfl⟩
end
end
section
variable {P:PD} {A:Ar} {J:Jn} {nm old:ByteArray}
def QF(P:PD):P.aK.2.D.n.AB=P.D.n.AB:=by
 unfold PD.aK DC;dsimp only
 split<;>exact Ht _
def QH(P:PD)(nm:ByteArray):(P.az nm).2.D.n.AB=P.D.n.AB:=by
 unfold PD.az Dd;split
 ·rfl
 ·dsimp only
  split<;>exact Ht _
def WW(P:PD)(old nm:ByteArray):(P.aO old nm).2.D.n.AB=P.D.n.AB:=by
 unfold PD.aO CN;split
 ·rfl
 ·split
  ·rfl
  ·dsimp only
   split<;>exact Ht _
def Nq(P:PD)(nm:ByteArray)(s:Nat)(l:Bs):(P.aa nm s l).2.2.D.n.AB=P.D.n.AB:=QL P nm (AR s l)
def Ke(P:PD)(nm:Bs)(s:Nat)(l:Bs):(P.aH nm s l).2.D.n.AB=P.D.n.AB:=by
 unfold PD.aH;split
 ·exact Iv P _
 ·split
  ·exact(Nq _ _ _ _).trans (Iv P _)
  ·exact(LB _ _).trans ((Nq _ _ _ _).trans (Iv P _))
def Kf:∀(l:List Bs) (P:PD),(PD.aM l P).2.D.n.AB=P.D.n.AB
 | [],_=>rfl
 | nm::r,P=>by
  unfold PD.aM;split
  ·exact QH P _
  ·exact(Kf r _).trans (QH P _)
def QJ(J:Jn)(P:PD)(p:Pu):(J.aw P p).2.2.2.D.n.AB=P.D.n.AB:=by
 unfold Jn.aw;split
 ·rfl
 ·exact Nq P _ _ _
def WZ(J:Jn)(P:PD)(p:Pu):(J.aa P p).2.2.2.D.n.AB=P.D.n.AB:=by
 unfold Jn.aa;split
 ·split
  ·exact Ns J P
  ·exact(QJ _ _ p).trans (Ns J P)
 ·exact QJ J P p
def X2(A:Ar)(P:PD)(p:Pu):(A.aa P p).2.2.2.D.n.AB=P.D.n.AB:=by
 unfold Ar.aa;split
 ·exact Iu A P
 ·exact(WZ _ _ p).trans (Iu A P)
def WY(J:Jn)(P:PD):(J.ae P).2.D.n.AB=P.D.n.AB:=by
 unfold Jn.ae;split
 ·rfl
 ·exact LB P _
def X1(A:Ar)(P:PD):(A.ae P).2.2.D.n.AB=P.D.n.AB:=by
 unfold Ar.ae;split
 ·exact Iu A P
 ·have h:=(WY (A.C P).2.1.j (A.C P).2.2).trans (Iu A P);split
  ·exact h
  ·exact(QF _).trans h
def Nr:∀(fresh:List (List Pu)) (last:Int) (kept:List Int) (P:PD),(PD.ah fresh last kept P).2.2.2.D.n.AB=P.D.n.AB
 | [],_,_,_=>rfl
 | l::r,last,kept,P=>by
  unfold PD.ah;split
  ·exact Ke P _ _ _
  ·exact(Nr r _ _ _).trans (Ke P _ _ _)
def WX(P:PD)(d:Int)(segs:List Int):(P.ag d segs).2.D.n.AB=P.D.n.AB:=by
 unfold PD.ag;split
 ·exact Ke P _ _ _
 ·exact(WW _ _ _).trans (Ke P _ _ _)
def QK(A:Ar)(P:PD)(segs:List Int):(A.ag P segs).2.2.D.n.AB=P.D.n.AB:=by
 have:=WX P (A.j.A8+1) segs;unfold Ar.ag;split
 ·rfl
 ·split<;>exact this
def X0(A:Ar)(P:PD):(A.aZ P).2.2.D.n.AB=P.D.n.AB:=by
 unfold Ar.aZ;split
 ·exact Kf _ P
 ·exact(QF _).trans (Kf _ P)
def WV(A:Ar)(P:PD)(kept:List Int)(fresh:List (List Pu)):(A.ay P kept fresh).2.2.D.n.AB=P.D.n.AB:=by
 unfold Ar.ay;dsimp only
 have h:=Iu A P;have z:((A.C P).2.1.au (A.C P).2.2).2.D.n.AB=P.D.n.AB:=(Kf _ _).trans h;have d:∀l k,(PD.ah fresh l k ((A.C P).2.1.au (A.C P).2.2).2).2.2.2.D.n.AB=P.D.n.AB:=λl k=>(Nr _ _ _ _).trans z
 split
 ·exact h
 ·split
  ·exact z
  ·split
   ·exact d _ _
   ·split
    ·exact(QK _ _ _).trans (d _ _)
    ·exact(X0 _ _).trans ((QK _ _ _).trans (d _ _))
end
section
open Go.RowKit
def C7(k:Nat)(n:DN)(e:Int)(d:DN):Prop:=
 d.BT=n.BT/\d.BJ=n.BJ/\(0<=n.AP->n.AP+k<=4611686018427387904->n.AP<=d.AP/\d.AP<=n.AP+k/\
  (e=5->n.AS=true\/(d.AS=true/\n.AP<n.BT/\n.BT<=d.AP)\/(d.AS=false/\n.AP<n.BJ/\n.BJ<=d.AP))/\(e≠5->d.AS=n.AS/\¬(n.AP<n.BJ/\n.BJ<=d.AP)))
def C7.I(n:DN){e:Int}(d:e≠5):C7 0 n e n:=⟨rfl,rfl,λ_ _=>⟨Hp _,by omega,λh=>absurd h d,λ_=>⟨rfl,λh=>by omega⟩⟩⟩
def C7.ad{n d:DN}{e:Int}{k z:Nat}(h:C7 k n e d)(hk:k<=z):C7 z n e d:=⟨h.1,h.2.1,λE h1=>by
 obtain⟨a,b,c⟩:=h.2.2 E (by omega)
 exact⟨a,by omega,c⟩⟩
def C7.Av{n L n2:DN}{a e:Int}{E I:Nat}(h:C7 E n a L)(ha:a=0)(O:C7 I L e n2):C7 (E+I) n e n2:=by
 obtain⟨c1,f1,g1⟩:=h;obtain⟨c2,f2,Y⟩:=O;refine⟨c2.trans c1,f2.trans f1,λW hk=>?_⟩;obtain⟨a1,a2,-,a4⟩:=g1 W (by omega);obtain⟨d1,d2⟩:=a4 (by omega);obtain⟨b1,b2,z,H⟩:=Y (by omega) (by omega);rw[f1]at z H;rw[c1,d1]at z;refine⟨by omega,by omega,λd=>(z d).imp id (Or.imp (λh=>⟨h.1,by omega,h.2.2⟩) λh=>⟨h.1,by omega,h.2.2⟩),λd=>?_⟩;obtain⟨x1,x2⟩:=H d;exact⟨x1.trans d1,by omega⟩
def PH{x:Int}(h0:0<=x)(h1:x+1<=4611686018427387904):wrap64 (x+1)=x+1:=by
 unfold wrap64;omega
def JH(n:DN):C7 1 n (bg n).2.1 (bg n).2.2:=by
 have z:(bg n).2.2.BT=n.BT/\(bg n).2.2.BJ=n.BJ:=by
  unfold bg;dsimp only;split
  ·exact⟨rfl,rfl⟩
  ·split
   ·exact⟨rfl,rfl⟩
   ·split<;>exact⟨rfl,rfl⟩
 refine⟨z.1,z.2,λI h1=>?_⟩;have E:=PH I (by omega);unfold bg;rw[E];dsimp only
 split
 ·rename_i d;exact⟨by dsimp only;omega,by dsimp only;omega,λ_=>.inl d,λh=>absurd rfl h⟩
 ·rename_i d;split
  ·rename_i hk;exact⟨by dsimp only;omega,by dsimp only;omega,λ_=>.inr (.inl ⟨rfl,by omega,by dsimp only;omega⟩),λh=>absurd rfl h⟩
  ·split
   ·rename_i H;exact⟨by dsimp only;omega,by dsimp only;omega,λ_=>.inr (.inr ⟨by simpa using d,by omega,by dsimp only;omega⟩),λh=>absurd rfl h⟩
   ·rename_i H;exact⟨by dsimp only;omega,by dsimp only;omega,λh=>(by cases h),λ_=>⟨rfl,λh=>by dsimp only at h;omega⟩⟩
section
variable {P:PD} {A:Ar} {J:Jn} {nm old:ByteArray}
def KK(P:PD)(nm:ByteArray):C7 1 P.D.n (P.ai nm).1 (P.ai nm).2.D.n:=by
 unfold PD.ai CK;split
 ·exact(C7.I _ (by simp)).ad (by omega)
 ·have:=JH P.D.n;dsimp only
  split<;>exact this
def M8(P:PD)(nm:ByteArray):C7 1 P.D.n (P.ae nm).1 (P.ae nm).2.D.n:=by
 unfold PD.ae Cw;split
 ·exact(C7.I _ (by simp)).ad (by omega)
 ·exact JH P.D.n
def TM(P:PD):C7 1 P.D.n P.aK.1 P.aK.2.D.n:=by
 have:=JH P.D.n;unfold PD.aK DC;dsimp only
 split<;>exact this
def TO(P:PD)(nm:ByteArray):C7 1 P.D.n (P.az nm).1 (P.az nm).2.D.n:=by
 have:=JH P.D.n;unfold PD.az Dd;split
 ·exact(C7.I _ (by simp)).ad (by omega)
 ·dsimp only
  split<;>exact this
def A1v(P:PD)(old nm:ByteArray):C7 1 P.D.n (P.aO old nm).1 (P.aO old nm).2.D.n:=by
 have:=JH P.D.n;unfold PD.aO CN;split
 ·exact(C7.I _ (by simp)).ad (by omega)
 ·split
  ·exact(C7.I _ (by simp)).ad (by omega)
  ·dsimp only
   split<;>exact this
def C7.cC{n d n2:DN}{k:Nat}(h:C7 k n 0 d)(H:n2.BT=d.BT)(z:n2.BJ=d.BJ)(I:n2.AP=d.AP)(E:n2.AS=d.AS):C7 k n 6 n2:=by
 obtain⟨a,b,c⟩:=h;refine⟨H.trans a,z.trans b,λx y=>?_⟩;obtain⟨c1,c2,-,c4⟩:=c x y;rw[I,E];exact⟨c1,c2,λh=>(by cases h),λ_=>c4 (by decide)⟩
def TR(D:DS)(F:Nat->FC)(f:Nat)(x:ByteArray)(d e:Int)(n:DN)(h:C7 1 n e D.n)(z:e=0\/e=5):C7 1 n (By D F f x d e).1 (By D F f x d e).2.1.n:=by
 unfold By;split
 ·dsimp only
  rcases z with rfl|rfl
  ·rw[Af rfl,Af rfl];exact h.cC rfl rfl rfl rfl
  ·rw[Ac (by decide),Ac (by decide)];exact h
 ·exact h
def A1D(P:PD)(nm:ByteArray)(l:Bs):C7 1 P.D.n (P.an nm l).1 (P.an nm l).2.D.n:=by
 have d:=JH P.D.n;have h:=Gb P.D.n;unfold PD.an Bl;split
 ·exact(C7.I _ (by simp)).ad (by omega)
 ·dsimp only
  split
  ·exact TR _ _ _ _ _ _ _ d h
  ·split
   ·exact TR _ _ _ _ _ _ _ d h
   ·exact d
def M9(P:PD)(nm:ByteArray)(s:Nat)(l:Bs):C7 1 P.D.n (P.aa nm s l).2.1 (P.aa nm s l).2.2.D.n:=A1D P nm (AR s l)
def M7(P:PD)(nm:Bs)(s:Nat)(l:Bs):C7 3 P.D.n (P.aH nm s l).1 (P.aH nm s l).2.D.n:=by
 unfold PD.aH;split
 ·exact(KK P _).ad (by omega)
 ·rename_i d;split
  ·exact((KK P _).Av (Cu d) (M9 _ _ _ _)).ad (by omega)
  ·rename_i h;exact((KK P _).Av (Cu d) (M9 _ _ _ _)).Av (Cu h) (M8 _ _)
def TN:∀(l:List Bs) (P:PD),C7 l.length P.D.n (PD.ax l P).1 (PD.ax l P).2.D.n
 | [],P=>C7.I _ (by simp[PD.ax])
 | nm::r,P=>by
  unfold PD.ax;split
  ·exact(M8 P _).ad (by simp)
  ·rename_i d;exact((M8 P _).Av (Cu d) (TN r _)).ad (by simp;omega)
def OP:∀(l:List Bs) (P:PD),C7 l.length P.D.n (PD.aM l P).1 (PD.aM l P).2.D.n
 | [],P=>C7.I _ (by simp[PD.aM])
 | nm::r,P=>by
  unfold PD.aM;split
  ·exact(TO P _).ad (by simp)
  ·rename_i d;exact((TO P _).Av (Cu d) (OP r _)).ad (by simp;omega)
def IU(A:Ar)(P:PD):C7 A.AN.length P.D.n (A.C P).1 (A.C P).2.2.D.n:=by
 have:=TN A.AN P;unfold Ar.C;split
 ·exact this
 ·rename_i d;rw[Cu d]at this;exact this
def OQ(J:Jn)(P:PD):C7 2 P.D.n (J.av P).1 (J.av P).2.2.D.n:=by
 unfold Jn.av;split
 ·exact(KK P _).ad (by omega)
 ·rename_i d;have:=(KK P _).Av (Cu d) (M9 (P.ai (A7 (Ae (J.A8+1)))).2 (A7 (Ae (J.A8+1))) (AE (Ae (J.A8+1))) (AO J.puts));dsimp only
  split
  ·exact this
  ·rename_i h;rw[Cu h]at this;exact this
def TP(J:Jn)(P:PD)(p:Pu):C7 1 P.D.n (J.aw P p).2.1 (J.aw P p).2.2.2.D.n:=by
 unfold Jn.aw;split
 ·exact(C7.I _ (by simp)).ad (by omega)
 ·exact M9 P _ _ _
def A1y(J:Jn)(P:PD)(p:Pu):C7 3 P.D.n (J.aa P p).2.1 (J.aa P p).2.2.2.D.n:=by
 unfold Jn.aa;split
 ·split
  ·exact(OQ J P).ad (by omega)
  ·rename_i d;exact(OQ J P).Av (Cu d) (TP _ _ p)
 ·exact(TP J P p).ad (by omega)
def A1C(A:Ar)(P:PD)(p:Pu):C7 (A.AN.length+3) P.D.n (A.aa P p).2.1 (A.aa P p).2.2.2.D.n:=by
 unfold Ar.aa;split
 ·exact(IU A P).ad (by omega)
 ·rename_i d;exact(IU A P).Av (Cu d) (A1y _ _ p)
def A1x(J:Jn)(P:PD):C7 1 P.D.n (J.ae P).1 (J.ae P).2.D.n:=by
 unfold Jn.ae;split
 ·exact(C7.I _ (by simp)).ad (by omega)
 ·exact M8 P _
def A1B(A:Ar)(P:PD):C7 (A.AN.length+2) P.D.n (A.ae P).1 (A.ae P).2.2.D.n:=by
 unfold Ar.ae;split
 ·exact(IU A P).ad (by omega)
 ·rename_i z;have h:=(IU A P).Av (Cu z) (A1x (A.C P).2.1.j (A.C P).2.2);split
  ·exact h.ad (by omega)
  ·rename_i d;exact h.Av (Cu d) (TM _)
def TQ:∀(fresh:List (List Pu)) (last:Int) (kept:List Int) (P:PD),C7 (3*fresh.length) P.D.n (PD.ah fresh last kept P).1 (PD.ah fresh last kept P).2.2.2.D.n
 | [],_,_,P=>C7.I _ (by simp[PD.ah])
 | l::r,last,kept,P=>by
  unfold PD.ah;split
  ·exact(M7 P _ _ _).ad (by simp;omega)
  ·rename_i d;exact((M7 P _ _ _).Av (Cu d) (TQ r _ _ _)).ad (by simp;omega)
def A1w(P:PD)(d:Int)(segs:List Int):C7 4 P.D.n (P.ag d segs).1 (P.ag d segs).2.D.n:=by
 unfold PD.ag;split
 ·exact(M7 P _ _ _).ad (by omega)
 ·rename_i h;exact(M7 P _ _ _).Av (Cu h) (A1v _ _ _)
def A1A(A:Ar)(P:PD)(segs:List Int):C7 4 P.D.n (A.ag P segs).1 (A.ag P segs).2.2.D.n:=by
 have:=A1w P (A.j.A8+1) segs;unfold Ar.ag;split
 ·exact(C7.I _ (by simp)).ad (by omega)
 ·split
  ·exact this
  ·rename_i d;rw[Cu d]at this;exact this
def RL(A:Ar)(P:PD):(A.aV P).length<=P.dl:=by
 rw[<-Ha];exact J1 _ _
def A1z(A:Ar)(P:PD):C7 (P.dl+1) P.D.n (A.aZ P).1 (A.aZ P).2.2.D.n:=by
 have d:=(OP (A.aV P) P).ad (RL A P);unfold Ar.aZ;split
 ·exact d.ad (by omega)
 ·rename_i h;exact d.Av (Cu h) (TM _)
def A1u(A:Ar)(P:PD)(kept:List Int)(fresh:List (List Pu)):C7 (A.AN.length+2*P.dl+4*fresh.length+7) P.D.n (A.ay P kept fresh).1 (A.ay P kept fresh).2.2.D.n:=by
 have d:(A.C P).2.2.dl=P.dl:=by unfold PD.dl;rw[Ni]
 unfold Ar.ay;dsimp only
 split
 ·exact(IU A P).ad (by omega)
 ·rename_i O;have Y:=RL (A.C P).2.1 (A.C P).2.2;rw[d]at Y;have L:C7 ((A.C P).2.1.aV (A.C P).2.2).length (A.C P).2.2.D.n ((A.C P).2.1.au (A.C P).2.2).1 ((A.C P).2.1.au (A.C P).2.2).2.D.n:=OP _ _;have h:=(IU A P).Av (Cu O) L;have d2:((A.C P).2.1.au (A.C P).2.2).2.dl<=P.dl:=by rw[<-d];exact M3 _ _
  split
  ·exact h.ad (by omega)
  ·rename_i H;have z:=h.Av (Cu H) (TQ fresh (A.C P).2.1.A8 kept ((A.C P).2.1.au (A.C P).2.2).2);obtain⟨d3,-⟩:=JC fresh (A.C P).2.1.A8 kept ((A.C P).2.1.au (A.C P).2.2).2;split
   ·exact z.ad (by omega)
   ·rename_i W;have E:=z.Av (Cu W) (A1A { (A.C P).2.1 with A8:=(PD.ah fresh (A.C P).2.1.A8 kept ((A.C P).2.1.au (A.C P).2.2).2).2.1} _ (PD.ah fresh (A.C P).2.1.A8 kept ((A.C P).2.1.au (A.C P).2.2).2).2.2.1);have d4:=OH { (A.C P).2.1 with A8:=(PD.ah fresh (A.C P).2.1.A8 kept ((A.C P).2.1.au (A.C P).2.2).2).2.1} (PD.ah fresh (A.C P).2.1.A8 kept ((A.C P).2.1.au (A.C P).2.2).2).2.2.2 (PD.ah fresh (A.C P).2.1.A8 kept ((A.C P).2.1.au (A.C P).2.2).2).2.2.1;split
    ·exact E.ad (by omega)
    ·rename_i I;exact(E.Av (Cu I) (A1z _ _)).ad (by omega)
def A2q{l:Bs}(h:(P.an nm l).1=0)(I:0<=P.D.n.AP)(H:P.D.n.AP+1<=4611686018427387904):(P.an nm l).2.D.n.AP=P.D.n.AP+1:=by
 have E:=PH I H;have d:(bg P.D.n).2.2.AP=P.D.n.AP+1:=by
  unfold bg;rw[E];dsimp only
  split
  ·rfl
  ·split
   ·rfl
   ·split<;>rfl
 have key:∀(D:DS) (F:Nat->FC) (f:Nat) (x:ByteArray) (z e:Int),(By D F f x z e).2.1.n.AP=D.n.AP:=λD F f x z e=>by
  unfold By;split
  ·dsimp only
   split<;>rfl
  ·rfl
 unfold PD.an Bl at h ⊢;cases hf:lookup P.D.A4 nm with
 | none=>rw[hf]at h;cases h
 | some f=>
  dsimp only
  split
  ·rw[key];exact d
  ·split
   ·rw[key];exact d
   ·exact d
def Rp{p:Pu}{x:Int×Nat}(d:J.AF=some x)(h:(J.aw P p).2.1=0)(E:0<=P.D.n.AP)(z:P.D.n.AP+1<=4611686018427387904):P.D.n.AP+1<=(J.aw P p).2.2.2.D.n.AP:=by
 unfold Jn.aw at h ⊢;rw[d]at h ⊢;exact Int.le_of_eq (A2q h E z).symm
def A2l{p:Pu}(h:(A.aa P p).2.1=0)(W:0<=P.D.n.AP)(z:P.D.n.AP+(A.AN.length+3)<=4611686018427387904):P.D.n.AP+1<=(A.aa P p).2.2.2.D.n.AP:=by
 have c1:=(IU A P).2.2 W (by omega);have O:(A.C P).1=0:=by
  by_cases e:(A.C P).1=0
  ·exact e
  ·unfold Ar.aa at h;rw[Af e]at h;exact absurd h e
 have e:A.aa P p=(((A.C P).2.1.j.aa (A.C P).2.2 p).1,((A.C P).2.1.j.aa (A.C P).2.2 p).2.1,{ (A.C P).2.1 with j:=((A.C P).2.1.j.aa (A.C P).2.2 p).2.2.1},((A.C P).2.1.j.aa (A.C P).2.2 p).2.2.2):=by
  unfold Ar.aa;rw[Ac (nn O)]
 rw[e]at h ⊢;dsimp only at h ⊢;generalize (A.C P).2.1.j=J at h ⊢;generalize (A.C P).2.2=Q at h c1 ⊢;obtain⟨d1,d2,-⟩:=c1;unfold Jn.aa at h ⊢;split at h
 ·rename_i E;rw[Af E];by_cases d:(J.av Q).1=0
  ·rw[Ac (nn d)]at h ⊢;have c2:=(OQ J Q).2.2 (by omega) (by omega);have L:(J.av Q).2.1.AF≠none:=by
    unfold Jn.av at d ⊢;split at d
    ·rename_i z;exact absurd d z
    ·rename_i z;rw[Ac z];dsimp only at d ⊢;split at d
     ·rename_i H;exact absurd d H
     ·rename_i H;rw[Ac H];simp
   obtain⟨x,I⟩:=L3.1 L;have:=Rp I h (by omega) (by omega);omega
  ·rw[Af d]at h;exact absurd h d
 ·rename_i E;rw[Ac E];obtain⟨x,I⟩:=L3.1 E;have:=Rp I h (by omega) (by omega);omega
end
section
variable {P:PD} {A:Ar} {a m:Nat}
def A2n{nm:ByteArray}{l:Bs}(h:Wd P a m)(hl:l.length<=m)(hr:((a*m+m:Nat):Int)<=P.D.n.AB):(P.an nm l).1≠6:=λe=>by
 have h6:=P6 e;have hu:=N1 (F:=P.F) (m:=m) P.D.A4 λf d=>h.B8 f (.inl d);have:=Hi m h.A4;omega
def PF{nm:Bs}{s:Nat}{l:Bs}(h:Wd P a m)(d:P.dl+1<=a)(E:l.length+4<=m)(H:((a*m+m:Nat):Int)<=P.D.n.AB):(P.aH nm s l).1≠6:=by
 have z:Wd (P.ai (A7 nm)).2 a m:=h.bI (JB P nm).1 d (by unfold PD.ai;simp[upd]);unfold PD.aH;split
 ·exact TG P _
 ·split
  ·refine A2n (l:=AR s l) z (by rw[Eu];exact E) ?_;rw[Iv];exact H
  ·exact N8 _ _
def S9:∀(fresh:List (List Pu)) (last:Int) (kept:List Int) {P:PD},Wd P a m->P.dl+fresh.length<=a->(∀l∈fresh,17*l.length+4<=m)->((a*m+m:Nat):Int)<=P.D.n.AB->(PD.ah fresh last kept P).1≠6
 | [],_,_,_,_,_,_,_=>by simp[PD.ah]
 | l::r,last,kept,P,h,hd,hl,hr=>by
  simp only[CG]at hd;have z:(Cd l).length+4<=m:=by rw[HR];exact hl l (BD ..)
  have d:PD.ah (l::r) last kept P=if (P.aL (last+1) l).1≠0 then ((P.aL (last+1) l).1,last+1,kept,(P.aL (last+1) l).2) else PD.ah r (last+1) (kept++[last+1]) (P.aL (last+1) l).2:=rfl
  rw[d];split
  ·exact PF h (by omega) z hr
  ·have hdl:(P.aL (last+1) l).2.dl<=P.dl+1:=KH P _ _ _;exact S9 r _ _ (h.aH _ _ _ (by omega) z) (by omega) (λx E=>hl x (Br _ E)) (by rw[show (P.aL (last+1) l).2.D.n.AB=P.D.n.AB from Ke P _ _ _];exact hr)
def X9(P:PD)(old nm:ByteArray):(P.aO old nm).1≠6:=by
 have hb:=Gb P.D.n;unfold PD.aO CN;split
 ·simp
 ·split
  ·simp
  ·dsimp only;omega
def Xi(P:PD)(nm:ByteArray):(P.az nm).1≠6:=by
 have hb:=Gb P.D.n;unfold PD.az Dd;split
 ·simp
 ·dsimp only;omega
def NA:∀(l:List Bs) (P:PD),(PD.aM l P).1≠6
 | [],P=>by simp[PD.aM]
 | nm::r,P=>by
  unfold PD.aM;split
  ·exact Xi P _
  ·exact NA r _
def A2i(h:Wd P a m)(segs:List Int)(d:P.dl+1<=a)(hl:12+8*segs.length<=m)(E:((a*m+m:Nat):Int)<=P.D.n.AB):(A.ag P segs).1≠6:=by
 have z:(P.ag (A.j.A8+1) segs).1≠6:=by
  unfold PD.ag;split
  ·refine PF h d ?_ E;unfold Ch;rw[AZ,IP,CJ];omega
  ·exact X9 _ _ _
 unfold Ar.ag;split
 ·simp
 ·split
  ·exact z
  ·simp
def A1J(A:Ar)(P:PD):(A.aZ P).1≠6:=by
 unfold Ar.aZ;split
 ·exact NA _ P
 ·exact Qb _
def X8{k:Nat}(h:Wd P a m)(hi:Bn P k)(hn:FP P)(kept:List Int)(fresh:List (List Pu))(hd:A.Ax.length+fresh.length+2<=a)(E:∀l∈fresh,17*l.length+4<=m)(hk:12+8*(kept.length+fresh.length)<=m)(H:((a*m+m:Nat):Int)<=P.D.n.AB):
 (A.ay P kept fresh).1≠6:=by
 have O:Wd (A.C P).2.2 a m:=h.C;have i1:Bn (A.C P).2.2 k:=hi.C;have n1:FP (A.C P).2.2:=Sc hn (Ni A P);have z:(A.C P).2.1.Ax=A.Ax:=by unfold Ar.C;split<;>rfl
 have a0:=Iu A P;have I:((A.C P).2.1.au (A.C P).2.2).2.D.n.AB=P.D.n.AB:=(Kf _ _).trans a0;unfold Ar.ay;dsimp only
 split
 ·exact Nh A P
 ·have L:Wd ((A.C P).2.1.au (A.C P).2.2).2 a m:=Wd.aM _ O;have i2:Bn ((A.C P).2.1.au (A.C P).2.2).2 k:=Bn.aM _ i1;split
  ·exact NA _ _
  ·rename_i W;have d:=Qi n1 (Cu W);rw[z]at d;obtain⟨Y,i3⟩:=O1 fresh (A.C P).2.1.A8 kept L i2 (by omega) E;obtain⟨d3,d4⟩:=JC fresh (A.C P).2.1.A8 kept ((A.C P).2.1.au (A.C P).2.2).2;split
   ·exact S9 _ _ _ L (by omega) E (by rw[I];exact H)
   ·have h4:=A2i (A:={ (A.C P).2.1 with A8:=(PD.ah fresh (A.C P).2.1.A8 kept ((A.C P).2.1.au (A.C P).2.2).2).2.1}) Y (PD.ah fresh (A.C P).2.1.A8 kept ((A.C P).2.1.au (A.C P).2.2).2).2.2.1 (by omega) (by omega) (by rw[Nr,I];exact H);split
    ·exact h4
    ·exact A1J _ _
end
end
section
open Go.MuLone Go.RowKit
attribute [local go_sem ↓] Go.wp_at_zero Go.wp_at_succ CE
section
variable {w w' w2:World} {sb ab b B:Nat} {mu aA aB A9:Int} {ro:Bool} {lv:Nat->Value} {L L':Nat->List Pt} {A A':Ar} {P P':PD} {F0 FT:Nat->Prop} {a c m N:Nat}
def A2D(w:World)(p:Pu)(h:SF w sb ab b mu aA aB A9 ro L A P FT)(_hFT:∀k,FT k->k<w.heap.size)(hp:Bg p)(hn:A.j.AF=none->CD (A.j.A8+1)/\AW (A.j.A8+1)/\AW A.j.puts)(aH:A.j.Aj.length<=1073741824)(hL:Lets B w)(aI:∀k,FT k->B<=k)(hF:Fit P a c m)(aJ:CM (a+1) (c+1) (m+33))(aK:∀k,k<8->(L k).length<1099511627000)(hl:1<=aA/\aA<=4611686018427387904)(hc:AW A9):
 Ah 36 #[A5 sb,Dr p] w (Am (A0 (A.aa P p).2.1) λw'=>
  Ap w FT w' (λw' d=>SF w' sb ab b mu aA aB A9 ro (if (A.aa P p).1=true then Fc L (Bv A9 aA) p.1.toNat p.2.1 p.2.2 else L) (A.aa P p).2.2.1 (A.aa P p).2.2.2 d)):=by
 have hA:A3 Aa w (w.alloc (.cells #[A0 p.1,A0 p.2.1,A0 p.2.2] 90)):=(A3.I _ w).aj _;have E:=BK w (.cells #[A0 p.1,A0 p.2.1,A0 p.2.2] 90);have aD:w.heap.size<(w.alloc (.cells #[A0 p.1,A0 p.2.1,A0 p.2.2] 90)).heap.size:=by simp
 generalize aL:(w.alloc (.cells #[A0 p.1,A0 p.2.1,A0 p.2.2] 90))=w0 at hA E aD;have I:A3 Aa w w0.drew:=hA.af;obtain⟨lv,F0,h1,h2⟩:=h;have hV:=h1.aJ I;have nx:¬F0 w.heap.size:=λhx=>FQ _ (h1.lt _ hx)
 have aE:Hid (Ah 57 #[A5 ab,Dr p] w0.drew (Am (.tuple #[.bool (A.aa P p).1,A0 (A.aa P p).2.1]) λz=>
  (A6 z sb 2 (A5 ab)/\z.heap[w.heap.size]?=some (.cells #[A0 p.1,A0 p.2.1,A0 p.2.2] 90 (0,0)))/\
  Ap w FT z (λw' d=>SF w' sb ab b mu aA aB A9 ro L (A.aa P p).2.2.1 (A.aa P p).2.2.2 d))):=by
  refine(A2f w0.drew p hV.ar hV.lt hp hn aH (hL.aS I) (λk hk=>aI k (h2 k (.inl hk))) hF aJ).mono ?_;rintro e z⟨rfl,H⟩;exact⟨rfl,⟨(hV.Ag.An H.1 hV.ns).c2,(H.1.Al _ aD nx).trans E⟩,(hV.ea h2 H).a7 I⟩
 have O:Hid (∀z,Ap w FT z (λw' d=>SF w' sb ab b mu aA aB A9 ro L (A.aa P p).2.2.1 (A.aa P p).2.2.2 d)->Ah 30 #[A5 sb,Dr p] z (Am (.tuple #[]) λw'=>
  Ap w FT w' (λw' d=>SF w' sb ab b mu aA aB A9 ro (Fc L (Bv A9 aA) p.1.toNat p.2.1 p.2.2) (A.aa P p).2.2.1 (A.aa P p).2.2.2 d))):=λz H=>by
  obtain⟨c1,F1,h3,h4,h5⟩:=H;refine(T0 z p h3 hp.1 aK hl hc).mono ?_;rintro e w'⟨rfl,h6⟩;exact⟨rfl,Ap.a8 c1 h5 h6⟩
 have c2:A6 w0 sb 2 (A5 ab):=(h1.aJ hA).Ag.c2;obtain⟨p1,Y,W⟩:=p;unfold Dr at aE O ⊢;dsimp only at aE O E aL ⊢;have q0:A6 w0 w.heap.size 0 (A0 p1):=FN E;have q1:A6 w0 w.heap.size 1 (A0 Y):=FN E;have q2:A6 w0 w.heap.size 2 (A0 W):=FN E;generalize hR:A.aa P (p1,Y,W)=R at aE O ⊢;obtain⟨aF,R2,R3,R4⟩:=R;dsimp only at aE O ⊢;generalize hL2:Fc L (Bv A9 aA) p1.toNat Y W=L2 at O ⊢;have tail:∀aF:Bool,aF=true\/aF=false:=by intro x;cases x<;>simp
 go_enter func36,ntmps36
 go_wp2;refine C3 (λw'=>A6 w' sb 2 (A5 ab)/\A6 w' w.heap.size 0 (A0 p1)/\A6 w' w.heap.size 1 (A0 Y)/\A6 w' w.heap.size 2 (A0 W)) 10
  (Bz [0,1,2,3,4,5,6,7,8,9] [5]) ⟨c2,q0,q1,q2⟩ ?_
 iterate 5 (refine Bj ?_;(try simp only[Ao]))
 refine Bt λK hK=>?_;go_simp;refine aE.m ?_;rintro e z⟨rfl,⟨y2,hh⟩,H⟩;have r0:A6 z w.heap.size 0 (A0 p1):=FN hh;have r1:A6 z w.heap.size 1 (A0 Y):=FN hh;have r2:A6 z w.heap.size 2 (A0 W):=FN hh;refine hK _ _ ⟨y2,r0,r1,r2⟩ (λhS=>?_);have aG:=A1 (O.o z H);have aN:=A1 H
 (try simp only[Ao])
 iterate 4 (refine Bj ?_;(try simp only[Ao]))
 refine Bo ?_;simp only[BO,BN];cases aF
 ·go_wp2;go_ret;exact⟨rfl,by simpa using aN.o⟩
 ·go_wp2_with (go_at_call 30;refine aG.m ?_;rintro e w2⟨rfl,hS⟩;have aM:=A1 hS);go_ret;exact⟨rfl,by simpa using aM.o⟩
def U0(w:World)(d:Value)(h:BB w sb mu (A5 ab) aA aB A9 true lv):
 Ah 34 #[A5 sb,d] w (Am (A0 4) λw'=>w=w'):=by
 have c6:=h.cR
 go_enter func34,ntmps34
 go_wp2;go_ret;exact⟨rfl,rfl⟩
def A1P(w:World)(x:Nat)(n:Int)(h:SF w sb ab b mu aA aB A9 false L A P FT)(aE:Ah 35 #[A5 x,A5 (x+1),A5 (x+2),A5 (x+3)] w (Am (A0 n) λw'=>Ap w FT w' (λw' d=>SF w' sb ab b mu aA aB A9 false L' A' P' d))):
 Ah 34 #[A5 sb,.func (Fn.func 35) #[] #[A5 x,A5 (x+1),A5 (x+2),A5 (x+3)]] w (Am (A0 n) λw'=>Ap w FT w' (λw' d=>SF w' sb ab b mu aA aB A9 (decide (n≠0)) L' A' P' d)):=by
 obtain⟨lv,F0,h1,h2⟩:=h;have c6:=h1.Ag.cR;have W:=A1 aE;by_cases O:n=0
 ·subst O
  go_enter func34,ntmps34
  go_wp2_with (go_at_call 35;refine W.m ?_;rintro e w2⟨rfl,E⟩;have I:=A1 E;obtain⟨-,aD,⟨H,aF,z,-⟩,-,-⟩:=E;have y6:=z.Ag.cR;have f6:=z.Ag.fz 6);go_ret;exact⟨rfl,SFto.DW I.o 6 _ λlv h=>h.sR false⟩
 ·have hb:(n !=0)=true:=by simpa using O
  have Y:decide (n≠0)=true:=by simpa using O
  rw[Y]
  go_enter func34,ntmps34
  go_wp2_with (go_at_call 35;refine W.m ?_;rintro e w2⟨rfl,E⟩;have I:=A1 E;obtain⟨-,aD,⟨H,aF,z,-⟩,-,-⟩:=E;have y6:=z.Ag.cR;have f6:=z.Ag.fz 6);go_ret;exact⟨rfl,SFto.DW I.o 6 _ λlv h=>h.sR true⟩
def A1Q(w:World)(x:Nat)(n:Int)(h:SF w sb ab b mu aA aB A9 false L A P FT)(aE:Ah 43 #[A5 x] w (Am (A0 n) λw'=>Ap w FT w' (λw' d=>SF w' sb ab b mu aA aB A9 false L' A' P' d))):
 Ah 34 #[A5 sb,.func (Fn.func 43) #[] #[A5 x]] w (Am (A0 n) λw'=>Ap w FT w' (λw' d=>SF w' sb ab b mu aA aB A9 (decide (n≠0)) L' A' P' d)):=by
 obtain⟨lv,F0,h1,h2⟩:=h;have c6:=h1.Ag.cR;have W:=A1 aE;by_cases O:n=0
 ·subst O
  go_enter func34,ntmps34
  go_wp2_with (go_at_call 43;refine W.m ?_;rintro e w2⟨rfl,E⟩;have I:=A1 E;obtain⟨-,aD,⟨H,aF,z,-⟩,-,-⟩:=E;have y6:=z.Ag.cR;have f6:=z.Ag.fz 6);go_ret;exact⟨rfl,SFto.DW I.o 6 _ λlv h=>h.sR false⟩
 ·have hb:(n !=0)=true:=by simpa using O
  have Y:decide (n≠0)=true:=by simpa using O
  rw[Y]
  go_enter func34,ntmps34
  go_wp2_with (go_at_call 43;refine W.m ?_;rintro e w2⟨rfl,E⟩;have I:=A1 E;obtain⟨-,aD,⟨H,aF,z,-⟩,-,-⟩:=E;have y6:=z.Ag.cR;have f6:=z.Ag.fz 6);go_ret;exact⟨rfl,SFto.DW I.o 6 _ λlv h=>h.sR true⟩
def A1R(w:World)(x:Nat)(n:Int)(h:SF w sb ab b mu aA aB A9 false L A P FT)(aE:Ah 37 #[A5 x] w (Am (A0 n) λw'=>Ap w FT w' (λw' d=>SF w' sb ab b mu aA aB A9 false L' A' P' d))):
 Ah 34 #[A5 sb,.func (Fn.func 37) #[] #[A5 x]] w (Am (A0 n) λw'=>Ap w FT w' (λw' d=>SF w' sb ab b mu aA aB A9 (decide (n≠0)) L' A' P' d)):=by
 obtain⟨lv,F0,h1,h2⟩:=h;have c6:=h1.Ag.cR;have W:=A1 aE;by_cases O:n=0
 ·subst O
  go_enter func34,ntmps34
  go_wp2_with (go_at_call 37;refine W.m ?_;rintro e w2⟨rfl,E⟩;have I:=A1 E;obtain⟨-,aD,⟨H,aF,z,-⟩,-,-⟩:=E;have y6:=z.Ag.cR;have f6:=z.Ag.fz 6);go_ret;exact⟨rfl,SFto.DW I.o 6 _ λlv h=>h.sR false⟩
 ·have hb:(n !=0)=true:=by simpa using O
  have Y:decide (n≠0)=true:=by simpa using O
  rw[Y]
  go_enter func34,ntmps34
  go_wp2_with (go_at_call 37;refine W.m ?_;rintro e w2⟨rfl,E⟩;have I:=A1 E;obtain⟨-,aD,⟨H,aF,z,-⟩,-,-⟩:=E;have y6:=z.Ag.cR;have f6:=z.Ag.fz 6);go_ret;exact⟨rfl,SFto.DW I.o 6 _ λlv h=>h.sR true⟩
def A1O(w:World)(_x:Nat)(n:Int)(h:SF w sb ab b mu aA aB A9 false L A P FT)(aE:Ah 42 #[A5 ab] w (Am (A0 n) λw'=>Ap w FT w' (λw' d=>SF w' sb ab b mu aA aB A9 false L' A' P' d))):
 Ah 34 #[A5 sb,.func (Fn.func 42) #[A5 ab] #[]] w (Am (A0 n) λw'=>Ap w FT w' (λw' d=>SF w' sb ab b mu aA aB A9 (decide (n≠0)) L' A' P' d)):=by
 obtain⟨lv,F0,h1,h2⟩:=h;have c6:=h1.Ag.cR;have W:=A1 aE;by_cases O:n=0
 ·subst O
  go_enter func34,ntmps34
  go_wp2_with (go_at_call 42;refine W.m ?_;rintro e w2⟨rfl,E⟩;have I:=A1 E;obtain⟨-,aD,⟨H,aF,z,-⟩,-,-⟩:=E;have y6:=z.Ag.cR;have f6:=z.Ag.fz 6);go_ret;exact⟨rfl,SFto.DW I.o 6 _ λlv h=>h.sR false⟩
 ·have hb:(n !=0)=true:=by simpa using O
  have Y:decide (n≠0)=true:=by simpa using O
  rw[Y]
  go_enter func34,ntmps34
  go_wp2_with (go_at_call 42;refine W.m ?_;rintro e w2⟨rfl,E⟩;have I:=A1 E;obtain⟨-,aD,⟨H,aF,z,-⟩,-,-⟩:=E;have y6:=z.Ag.cR;have f6:=z.Ag.fz 6);go_ret;exact⟨rfl,SFto.DW I.o 6 _ λlv h=>h.sR true⟩
end
def boxed(w:World)(sb:Nat)(k t v:Int):World:=
 (((w.alloc (.cells #[.pointer (some ⟨sb,0,none⟩)] 33)).alloc (.cells #[.int .i64 k] 3)).alloc (.cells #[.int .i64 t] 3)).alloc (.cells #[.int .i64 v] 3)
def IY(w:World)(x sb:Nat)(k t v:Int):Prop:=
 w.cell? ⟨x,0,none⟩=some (.pointer (some ⟨sb,0,none⟩))/\w.cell? ⟨x+1,0,none⟩=some (.int .i64 k)/\w.cell? ⟨x+2,0,none⟩=some (.int .i64 t)/\w.cell? ⟨x+3,0,none⟩=some (.int .i64 v)
section
variable {w w' w2:World} {sb ab b B:Nat} {mu aA aB A9:Int} {ro:Bool} {lv:Nat->Value} {L L':Nat->List Pt} {A A':Ar} {P P':PD} {F0 FT:Nat->Prop} {a c m N:Nat}
def U7(w:World)(sb:Nat)(k t v:Int):A3 Aa w (boxed w sb k t v):=((((A3.I _ w).aj _).aj _).aj _).aj _
def A10(w:World)(sb:Nat)(k t v:Int):(boxed w sb k t v).heap.size=w.heap.size+4:=by unfold boxed;simp
def U8(w:World)(sb:Nat)(k t v:Int):IY (boxed w sb k t v) w.heap.size sb k t v:=by
 unfold boxed;refine⟨?_,?_,?_,?_⟩
 all_goals unfold World.cell?
 ·rw[D8 _ _ _ (by simp;try omega),D8 _ _ _ (by simp;try omega),D8 _ _ _ (by simp),BK];rfl
 ·rw[D8 _ _ _ (by simp;try omega),D8 _ _ _ (by simp)];have:=BK (w.aC #[A5 sb] 33) (.cells #[A0 k] 3);have e:(w.aC #[A5 sb] 33).heap.size=w.heap.size+1:=by simp
  rw[e]at this;simp only[this];rfl
 ·rw[D8 _ _ _ (by simp)];have:=BK ((w.aC #[A5 sb] 33).aC #[A0 k] 3) (.cells #[A0 t] 3);have e:((w.aC #[A5 sb] 33).aC #[A0 k] 3).heap.size=w.heap.size+2:=by simp
  rw[e]at this;simp only[this];rfl
 ·have:=BK (((w.aC #[A5 sb] 33).aC #[A0 k] 3).aC #[A0 t] 3) (.cells #[A0 v] 3);have e:(((w.aC #[A5 sb] 33).aC #[A0 k] 3).aC #[A0 t] 3).heap.size=w.heap.size+3:=by simp
  rw[e]at this;simp only[this];rfl
def IY.An{S:Nat->Prop}{x:Nat}{k t v:Int}(h:IY w x sb k t v)(hc:A3 S w w')(hS:∀i,i<4->¬S (x+i)):IY w' x sb k t v:=by
 obtain⟨E,I,z,W⟩:=h;have d:∀i u,i<4->w.cell? (Ab (x+i) 0)=some u->w'.cell? (Ab (x+i) 0)=some u:=λi u Y hu=>by
  have H:=Hd w _ hu;have O:=hc.Al (x+i) H (hS i Y);unfold World.cell? at hu ⊢;rw[O];exact hu
 exact⟨d 0 _ (by omega) E,d 1 _ (by omega) I,d 2 _ (by omega) z,d 3 _ (by omega) W⟩
def XL(w:World)(x:Nat)(p:Pu)(n:Int)(Q:World->Prop)(h:IY w x sb p.1 p.2.1 p.2.2)(d:Ah 36 #[A5 sb,Dr p] w (Am (A0 n) λw'=>Q w')):
 Ah 35 #[A5 x,A5 (x+1),A5 (x+2),A5 (x+3)] w (Am (A0 n) λw'=>Q w'):=by
 obtain⟨p1,p2,p3⟩:=p;unfold Dr at d;dsimp only at d h;obtain⟨x0,x1,x2,x3⟩:=h;have z:=A1 d
 go_enter func35,ntmps35
 go_wp2_with (go_at_call 36;refine z.m ?_;rintro e w2⟨rfl,H⟩;have E:=A1 H);go_ret;exact⟨rfl,E.o⟩
def SF.bP(h:SF w sb ab b 0 aA aB A9 ro L A P FT):Ap w FT (w.setCell ⟨sb,0,none⟩ (.int .i32 1)) (λw' d=>SF w' sb ab b 1 aA aB A9 ro L A P d):=h.DW 0 _ λ_ h=>h.s0 1
def XI(w:World)(p:Pu)(h:SF w sb ab b 0 aA aB A9 false L A P FT)(aF:∀k,FT k->k<w.heap.size)(hp:Bg p)(hn:A.j.AF=none->CD (A.j.A8+1)/\AW (A.j.A8+1)/\AW A.j.puts)(aD:A.j.Aj.length<=1073741824)(hL:Lets B w)(H:∀k,FT k->B<=k)(hF:Fit P a c m)(aH:CM (a+1) (c+1) (m+33))(aJ:∀k,k<8->(L k).length<1099511627000)(hl:1<=aA/\aA<=4611686018427387904)(hc:AW A9):
 Ah 12 #[A5 sb,A0 p.1,A0 p.2.1,A0 p.2.2] w (Am (A0 (A.aa P p).2.1) λw'=>
  Ap w FT w' (λw' d=>SF w' sb ab b 0 aA aB A9 (decide ((A.aa P p).2.1≠0)) (if (A.aa P p).1=true then Fc L (Bv A9 aA) p.1.toNat p.2.1 p.2.2 else L) (A.aa P p).2.2.1 (A.aa P p).2.2.2 d)):=by
 have aN:Hid (∀w',Ah 33 #[A0 p.1] w' λe I=>e=.returned (.bool true)/\w'=I):=λw'=>by
  have:=Of w' p.1
  rwa [Cv hp.1]at this
 have W:=U7 w sb p.1 p.2.1 p.2.2;have hX:=U8 w sb p.1 p.2.1 p.2.2;have hZ:=A10 w sb p.1 p.2.1 p.2.2;generalize aM:boxed w sb p.1 p.2.1 p.2.2=w0 at W hX hZ;unfold boxed at aM;have hV:=h.aJ W;have Y:=hL.aS W;have z:=hV.bP;have E:IY (w0.sC sb 0 (.int .i32 1)) w.heap.size sb p.1 p.2.1 p.2.2:=hX.An z.1 λi _ hx=>by have:=aF _ hx;omega
 have aL:Hid (Ap w FT (w0.sC sb 0 (.int .i32 1)) (λw' d=>SF w' sb ab b 1 aA aB A9 false L A P d)):=z.a7 W;obtain⟨k1,aP,s1,s2,s3⟩:=aL.o;have aE:=Y.ak z.1 H;have aG:=hL.1
 have O:=A1 (A1P (w0.sC sb 0 (.int .i32 1)) w.heap.size (A.aa P p).2.1 s1 (XL _ w.heap.size p _ _ E
  (A2D _ p s1 s2 hp hn aD aE (λk hk=>(s3 k hk).elim (H k) λh=>AQ aG h) hF aH aJ hl hc)))
 have ST:Hid (∀wx R,Ap (w0.sC sb 0 (.int .i32 1)) aP wx R->Ap w FT wx R):=λwx R h=>Ap.a8 k1 s3 h;obtain⟨x0,x1,x2,x3⟩:=hX;obtain⟨y0,y1,y2,y3⟩:=E;have c0:A6 w0 sb 0 (.int .i32 0):=by obtain⟨lv,F0,q,-⟩:=hV;exact q.Ag.c0
 have f0:w0.frozen? (Ab sb 0)=false:=by obtain⟨lv,F0,q,-⟩:=hV;exact q.Ag.fz 0
 obtain⟨p1,p2,p3⟩:=p;dsimp only at *;generalize hR:A.aa P (p1,p2,p3)=R at O ⊢;obtain⟨aQ,R2,R3,R4⟩:=R;dsimp only at O ⊢;generalize hL2:(if aQ=true then Fc L (Bv A9 aA) p1.toNat p2 p3 else L)=L2 at O ⊢
 go_enter_defers func12,ntmps12
 go_wp2_with (first
  | (go_at_call 31;refine(Kv Tryz.bD (Ab sb 0) _ c0 f0).mono ?_;rintro e w'⟨rfl,rfl⟩)
  | (go_at_call 33;refine(aN.o _).mono ?_;rintro e w'⟨rfl,rfl⟩))
 refine O.m ?_;rintro e w2⟨rfl,hS⟩;have aK:=A1 (ST.o _ _ hS);go_wp2;refine Kw (f:=32) (args:=#[A5 sb]) (by simp) (by simp[go_sem]) ?_;refine(Ka Tryz.bD (Ab sb 0) .returning _ ?_ ?_).mono ?_
 ·obtain⟨-,aO,⟨aI,aR,a1,-⟩,-,-⟩:=aK.o;exact a1.Ag.c0
 ·obtain⟨-,aO,⟨aI,aR,a1,-⟩,-,-⟩:=aK.o;exact a1.Ag.fz 0
 rintro e u' I⟨rfl,rfl,rfl⟩;exact⟨_,Nv rfl _ _ _,rfl,SFto.DW aK.o 0 _ λlv h=>h.s0 0⟩
def A0z(w:World)(x:Nat)(n:Int)(Q:World->Prop)(h:BB w sb mu (A5 ab) aA aB A9 ro lv)(O:A6 w x 0 (A5 sb))(d:Ah 44 #[A5 ab,A0 aB] w.drew (Am (A0 n) λw'=>Q w')):
 Ah 43 #[A5 x] w (Am (A0 n) λw'=>Q w'):=by
 have c2:=h.c2;have H:=h.cW;have z:=A1 d
 go_enter func43,ntmps43
 go_wp2;refine C3 (λw'=>A6 w' x 0 (A5 sb)/\A6 w' sb 2 (A5 ab)/\A6 w' sb 4 (A0 aB)) 8
  (Bz [0,1,2,3,4,5,6,7] []) ⟨O,c2,H⟩ ?_
 iterate 8 (refine Bj ?_;(try simp only[Ao]))
 refine Bo ?_;simp only[BO,BN];go_wp2_with (go_at_call 44;refine z.m ?_;rintro e w2⟨rfl,E⟩;have I:=A1 E);go_ret;exact⟨rfl,I.o⟩
def A1t(w:World)(x:Nat)(n o:Int)(Q:World->Prop)(h:BB w sb mu (A5 ab) aA aB A9 ro lv)(O:A6 w x 0 (A5 sb))(aG:Ah 39 #[A5 sb] w.drew (Am (A0 o) λw'=>A3 Aa w.drew w'))(Y:∀w2,A3 Aa w w2->Ah 38 #[A5 ab,A0 aB,A0 o] w2 (Am (A0 n) λw'=>Q w')):
 Ah 37 #[A5 x] w (Am (A0 n) λw'=>Q w'):=by
 have c2:=h.c2;have I:=h.cW;have aD:=A1 Y;have aE:Hid (Ah 39 #[A5 sb] w.drew (Am (A0 o) λw'=>(A6 w' x 0 (A5 sb)/\A6 w' sb 2 (A5 ab)/\A6 w' sb 4 (A0 aB))/\A3 Aa w w')):=by
  refine aG.mono ?_;rintro e w'⟨rfl,z⟩;have d:A3 Aa w w':=(A3.I _ w).af.tr z;exact⟨rfl,⟨d.ao O,d.ao c2,d.ao I⟩,d⟩
 go_enter func37,ntmps37
 go_wp2;refine C3 (λw'=>A6 w' x 0 (A5 sb)/\A6 w' sb 2 (A5 ab)/\A6 w' sb 4 (A0 aB)) 10
  (Bz [0,1,2,3,4,5,6,7,8,9] [9]) ⟨O,c2,I⟩ ?_
 iterate 9 (refine Bj ?_;(try simp only[Ao]))
 refine Bt λK hK=>?_;go_simp;refine aE.m ?_;rintro e w2⟨rfl,E,z⟩;refine hK _ _ E (λW=>?_);have H:=A1 (aD.o w2 z)
 (try simp only[Ao])
 refine Bo ?_;simp only[BO,BN];go_wp2_with (go_at_call 38;refine H.m ?_;rintro e w3⟨rfl,W⟩;have aF:=A1 W);go_ret;exact⟨rfl,aF.o⟩
def Qo(w:World)(f g:Nat)(I:(f=19/\g=43)\/(f=14/\g=37))(n:Int)(Q:World->Prop)(c0:w.cell? (Ab sb 0)=some (.int .i32 0))(f0:w.frozen? (Ab sb 0)=false)(hz:sb<w.heap.size)(aE:∀W,W=(w.alloc (.cells #[A5 sb] 33)).setCell (Ab sb 0) (.int .i32 1)->Ah 34 #[A5 sb,.func (Fn.func g) #[] #[A5 w.heap.size]] W (Am (A0 n) λw'=>w'.cell? (Ab sb 0)=some (.int .i32 1)/\w'.frozen? (Ab sb 0)=false/\Q w')):
 Ah f #[A5 sb] w (Am (A0 n) λw'=>∃w2,Q w2/\w'=w2.setCell (Ab sb 0) (.int .i32 0)):=by
 have hA:A3 Aa w (w.alloc (.cells #[A5 sb] 33)):=(A3.I _ w).aj _;have E:=BK w (.cells #[A5 sb] 33);have a0:=hA.ao c0;have Y:(w.alloc (.cells #[A5 sb] 33)).frozen? (Ab sb 0)=false:=by
  have z:=hA.Al sb hz (λh=>h);unfold World.frozen? at f0 ⊢;rw[z];exact f0
 have aD:=A1 (aE _ rfl);have H:(w.alloc (.cells #[A5 sb] 33)).cell? (Ab w.heap.size 0)=some (A5 sb):=FN E;have d:w.heap.size≠sb:=by omega
 have b1:((w.alloc (.cells #[A5 sb] 33)).sC sb 0 (.int .i32 1)).cell? (Ab w.heap.size 0)=some (A5 sb):=by
  have O:=(A3.I (One sb) (w.alloc (.cells #[A5 sb] 33))).aq (b:=sb) rfl 0 (.int .i32 1);have z:=O.Al w.heap.size (by simp) (λh=>d h);unfold World.cell? at H ⊢;rw[z];exact H
 generalize hw0:(w.alloc (.cells #[A5 sb] 33))=w0 at a0 Y aD H b1;rcases I with⟨rfl,rfl⟩|⟨rfl,rfl⟩
 focus go_enter_defers func19,ntmps19
 rotate_left
 focus go_enter_defers func14,ntmps14
 all_goals
  go_wp2_with (go_at_call 31;refine(Kv Tryz.bD (Ab sb 0) _ a0 Y).mono ?_;rintro e w'⟨rfl,rfl⟩);refine aD.m ?_;rintro e w2⟨rfl,u0,uf,hS⟩;have aF:=A1 hS;go_wp2;refine Kw (f:=32) (args:=#[A5 sb]) (by simp) (by simp[go_sem]) ?_;refine(Ka Tryz.bD (Ab sb 0) .returning _ ?_ ?_).mono ?_
  ·exact u0
  ·exact uf
  rintro e u' w''⟨rfl,rfl,rfl⟩;exact⟨_,Nv rfl _ _ _,rfl,_,aF.o,rfl⟩
def Qn(w:World)(n:Int)(Q:World->Prop)(c0:w.cell? (Ab sb 0)=some (.int .i32 0))(f0:w.frozen? (Ab sb 0)=false)(z:sb<w.heap.size)(h:∀d,d=(w.alloc (.cells #[A5 sb] 33)).setCell (Ab sb 0) (.int .i32 1)->Ah 34 #[A5 sb,.func (Fn.func 43) #[] #[A5 w.heap.size]] d (Am (A0 n) λw'=>w'.cell? (Ab sb 0)=some (.int .i32 1)/\w'.frozen? (Ab sb 0)=false/\Q w')):
 Ah 19 #[A5 sb] w (Am (A0 n) λw'=>∃w2,Q w2/\w'=w2.setCell (Ab sb 0) (.int .i32 0)):=
 Qo w _ _ (.inl ⟨rfl,rfl⟩) n Q c0 f0 z h
def Qp(w:World)(n:Int)(Q:World->Prop)(c0:w.cell? (Ab sb 0)=some (.int .i32 0))(f0:w.frozen? (Ab sb 0)=false)(z:sb<w.heap.size)(h:∀d,d=(w.alloc (.cells #[A5 sb] 33)).setCell (Ab sb 0) (.int .i32 1)->Ah 34 #[A5 sb,.func (Fn.func 37) #[] #[A5 w.heap.size]] d (Am (A0 n) λw'=>w'.cell? (Ab sb 0)=some (.int .i32 1)/\w'.frozen? (Ab sb 0)=false/\Q w')):
 Ah 14 #[A5 sb] w (Am (A0 n) λw'=>∃w2,Q w2/\w'=w2.setCell (Ab sb 0) (.int .i32 0)):=
 Qo w _ _ (.inr ⟨rfl,rfl⟩) n Q c0 f0 z h
def Qm(w:World)(n:Int)(Q:World->Prop)(c0:A6 w sb 0 (.int .i32 0))(f0:w.frozen? (Ab sb 0)=false)(c2:A6 (w.setCell (Ab sb 0) (.int .i32 1)) sb 2 (A5 ab))(H:Ah 34 #[A5 sb,.func (Fn.func 42) #[A5 ab] #[]] (w.setCell (Ab sb 0) (.int .i32 1)) (Am (A0 n) λw'=>A6 w' sb 0 (.int .i32 1)/\w'.frozen? (Ab sb 0)=false/\Q w')):
 Ah 18 #[A5 sb] w (Am (A0 n) λw'=>∃w2,Q w2/\w'=w2.setCell (Ab sb 0) (.int .i32 0)):=by
 have I:=A1 H
 go_enter_defers func18,ntmps18
 go_wp2_with (go_at_call 31;refine(Kv Tryz.bD (Ab sb 0) _ c0 f0).mono ?_;rintro e w'⟨rfl,rfl⟩);refine I.m ?_;rintro e w2⟨rfl,z,d,h⟩;have E:=A1 h;go_wp2;refine Kw (f:=32) (args:=#[A5 sb]) (by simp) (by simp[go_sem]) ?_;refine(Ka Tryz.bD (Ab sb 0) .returning _ ?_ ?_).mono ?_
 ·exact z
 ·exact d
 rintro e u' w''⟨rfl,rfl,rfl⟩;exact⟨_,Nv rfl _ _ _,rfl,_,E.o,rfl⟩
end
end
section
open Go.MuLone Go.RowKit
section
variable {w w' w2:World} {sb ab b B:Nat} {mu aA aB A9:Int} {ro:Bool} {lv:Nat->Value} {L L':Nat->List Pt} {A A':Ar} {P P':PD} {F0 FT:Nat->Prop} {a c m N:Nat}
def SF.c0(h:SF w sb ab b mu aA aB A9 ro L A P FT):A6 w sb 0 (.int .i32 mu)/\w.frozen? (Ab sb 0)=false/\sb<w.heap.size/\A6 w sb 2 (A5 ab):=by
 obtain⟨lv,F0,q,-⟩:=h;exact⟨q.Ag.c0,q.Ag.fz 0,q.Ag.lt,q.Ag.c2⟩
def SF.b5(h:SF w sb ab b mu aA aB A9 ro L A P FT)(E:∀k,FT k->B<=k)(f:Nat)(args:List Value)(n:Int)(W:Lets B w)(I:∀z F0,AD z ab b A P F0->(∀k,F0 k->k<z.heap.size)->Lets B z->(∀k,F0 k->B<=k)->Calls Tryz.prog f args.toArray z λe w'=>e=.returned (.int .i64 n)/\Ap z F0 w' (λw' d=>AD w' ab b A' P' d)):
 Calls Tryz.prog f args.toArray w λe w'=>e=.returned (.int .i64 n)/\Ap w FT w' (λw' d=>SF w' sb ab b mu aA aB A9 ro L A' P' d):=by
 obtain⟨lv,F0,q,H⟩:=h;refine(I w F0 q.ar q.lt W (λk O=>E k (H k (.inl O)))).mono ?_;rintro e w'⟨rfl,Y⟩;exact⟨rfl,q.ea H Y⟩
def A0y(w:World)(n:Int)(h:SF w sb ab b 0 aA aB A9 false L A P FT)(aF:∀k,FT k->k<w.heap.size)(hL:Lets B w)(O:∀k,FT k->B<=k)(aM:∀d F0,AD d ab b A P F0->(∀k,F0 k->k<d.heap.size)->Lets B d->(∀k,F0 k->B<=k)->Ah 44 #[A5 ab,A0 aB] d (Am (A0 n) λw'=>Ap d F0 w' (λw' z=>AD w' ab b A' P' z))):
 Ah 19 #[A5 sb] w (Am (A0 n) λw'=>Ap w FT w' (λw' z=>SF w' sb ab b 0 aA aB A9 (decide (n≠0)) L A' P' z)):=by
 obtain⟨c0,f0,hz,-⟩:=h.c0;have W:A3 Aa w (w.aC #[A5 sb] 33):=(A3.I _ w).aj _;have aD:=BK w (.cells #[A5 sb] 33);have aG:=hL.1;refine(Qn w n (λw2=>Ap w FT w2 (λw' z=>SF w' sb ab b 1 aA aB A9 (decide (n≠0)) L A' P' z)) c0 f0 hz (λd aJ=>?_)).mono ?_
 ·have H:=(h.aJ W).bP;rw[<-aJ]at H;obtain⟨Y,aH,s1,s2,s3⟩:=H;have aE:=(hL.aS W).ak Y O;have b0:(w.aC #[A5 sb] 33).cell? (Ab w.heap.size 0)=some (A5 sb):=FN aD;have hx:d.cell? (Ab w.heap.size 0)=some (A5 sb):=by
   have hb:=Y.Al w.heap.size (by simp) (λhx=>FQ _ (aF _ hx));unfold World.cell? at b0 ⊢;rw[hb];exact b0
  have I:∀k,aH k->B<=k:=λk hk=>(s3 k hk).elim (O k) λh=>AQ aG (AQ W.Ak h)
  obtain⟨aI,aL,q,hs⟩:=s1;have s1:SF d sb ab b 1 aA aB A9 false L A P aH:=⟨aI,aL,q,hs⟩;have body:Ah 43 #[A5 w.heap.size] d (Am (A0 n) λw'=>Ap d aH w' (λw' z=>SF w' sb ab b 1 aA aB A9 false L A' P' z)):=by
   have kd:A3 Aa d d.drew:=(A3.I _ d).af;refine A0z d w.heap.size n _ q.Ag hx ?_;refine((s1.aJ kd).b5 I _ [A5 ab,A0 aB] n (aE.aS kd) aM).mono ?_;rintro e w'⟨rfl,E⟩;exact⟨rfl,E.a7 kd⟩
  refine(A1Q d w.heap.size n s1 body).mono ?_;rintro e w'⟨rfl,E⟩;have aK:=(Ap.a8 Y s3 E).a7 W;obtain⟨-,F3,q3,-,-⟩:=E;obtain⟨d0,df,-,-⟩:=q3.c0;exact⟨rfl,d0,df,aK⟩
 ·rintro e w'⟨rfl,w2,E,rfl⟩;exact⟨rfl,SFto.DW E 0 _ λlv h=>h.s0 0⟩
def A1r(w:World)(n:Int)(h:SF w sb ab b 0 aA aB A9 false L A P FT)(aF:∀k,FT k->k<w.heap.size)(hL:Lets B w)(O:∀k,FT k->B<=k)(hl:1<=aA/\aA<=4611686018427387904)(hc:AW A9)(aM:∀d F0,AD d ab b A P F0->(∀k,F0 k->k<d.heap.size)->Lets B d->(∀k,F0 k->B<=k)->Ah 38 #[A5 ab,A0 aB,A0 (Bv A9 aA)] d (Am (A0 n) λw'=>Ap d F0 w' (λw' z=>AD w' ab b A' P' z))):
 Ah 14 #[A5 sb] w (Am (A0 n) λw'=>Ap w FT w' (λw' z=>SF w' sb ab b 0 aA aB A9 (decide (n≠0)) L A' P' z)):=by
 obtain⟨c0,f0,hz,-⟩:=h.c0;have W:A3 Aa w (w.aC #[A5 sb] 33):=(A3.I _ w).aj _;have aD:=BK w (.cells #[A5 sb] 33);have aG:=hL.1;refine(Qp w n (λw2=>Ap w FT w2 (λw' z=>SF w' sb ab b 1 aA aB A9 (decide (n≠0)) L A' P' z)) c0 f0 hz (λd aJ=>?_)).mono ?_
 ·have H:=(h.aJ W).bP;rw[<-aJ]at H;obtain⟨Y,aH,s1,s2,s3⟩:=H;have aE:=(hL.aS W).ak Y O;have b0:(w.aC #[A5 sb] 33).cell? (Ab w.heap.size 0)=some (A5 sb):=FN aD;have hx:d.cell? (Ab w.heap.size 0)=some (A5 sb):=by
   have hb:=Y.Al w.heap.size (by simp) (λhx=>FQ _ (aF _ hx));unfold World.cell? at b0 ⊢;rw[hb];exact b0
  have I:∀k,aH k->B<=k:=λk hk=>(s3 k hk).elim (O k) λh=>AQ aG (AQ W.Ak h)
  obtain⟨aI,aL,q,hs⟩:=s1;have s1:SF d sb ab b 1 aA aB A9 false L A P aH:=⟨aI,aL,q,hs⟩;have body:Ah 37 #[A5 w.heap.size] d (Am (A0 n) λw'=>Ap d aH w' (λw' z=>SF w' sb ab b 1 aA aB A9 false L A' P' z)):=by
   have kd:A3 Aa d d.drew:=(A3.I _ d).af;refine A1t d w.heap.size n (Bv A9 aA) _ q.Ag hx (NT d.drew sb A9 aA (q.Ag.An kd λh=>h).c3 (q.Ag.An kd λh=>h).cK hl hc) λw2 kk=>?_;refine((s1.aJ kk).b5 I _ [A5 ab,A0 aB,A0 (Bv A9 aA)] n (aE.aS kk) aM).mono ?_;rintro e w'⟨rfl,E⟩;exact⟨rfl,E.a7 kk⟩
  refine(A1R d w.heap.size n s1 body).mono ?_;rintro e w'⟨rfl,E⟩;have aK:=(Ap.a8 Y s3 E).a7 W;obtain⟨-,F3,q3,-,-⟩:=E;obtain⟨d0,df,-,-⟩:=q3.c0;exact⟨rfl,d0,df,aK⟩
 ·rintro e w'⟨rfl,w2,E,rfl⟩;exact⟨rfl,SFto.DW E 0 _ λlv h=>h.s0 0⟩
def VJ(w:World)(n:Int)(h:SF w sb ab b 0 aA aB A9 false L A P FT)(Y:Lets B w)(E:∀k,FT k->B<=k)(aD:∀z F0,AD z ab b A P F0->(∀k,F0 k->k<z.heap.size)->Lets B z->(∀k,F0 k->B<=k)->Ah 42 #[A5 ab] z (Am (A0 n) λw'=>Ap z F0 w' (λw' d=>AD w' ab b A' P' d))):
 Ah 18 #[A5 sb] w (Am (A0 n) λw'=>Ap w FT w' (λw' d=>SF w' sb ab b 0 aA aB A9 (decide (n≠0)) L A' P' d)):=by
 obtain⟨c0,f0,-,-⟩:=h.c0;have I:=Y.1;obtain⟨W,F1,s1,s2,s3⟩:=h.bP;obtain⟨-,-,-,c2⟩:=s1.c0;refine(Qm (ab:=ab) w n (λw2=>Ap w FT w2 (λw' d=>SF w' sb ab b 1 aA aB A9 (decide (n≠0)) L A' P' d)) c0 f0 c2 ?_).mono ?_
 ·refine(A1O _ 0 n s1 (s1.b5 (λk hk=>(s3 k hk).elim (E k) λh=>AQ I h) _ [A5 ab] n (Y.ak W E) aD)).mono ?_;rintro e w'⟨rfl,H⟩;have O:=Ap.a8 W s3 H;obtain⟨-,F3,q3,-,-⟩:=H;obtain⟨d0,df,-,-⟩:=q3.c0;exact⟨rfl,d0,df,O⟩
 ·rintro e w'⟨rfl,w2,H,rfl⟩;exact⟨rfl,SFto.DW H 0 _ λlv h=>h.s0 0⟩
end
end
end Go.Proofs.YtodcnkbblippnabGreatDoor
