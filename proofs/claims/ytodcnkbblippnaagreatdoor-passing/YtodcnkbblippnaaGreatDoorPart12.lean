/- Part 12 of a proof: walks of the program. -/
import Derived.Test.YtodcnkbblippnaaGreatDoorPart11
namespace Go.Proofs.YtodcnkbblippnaaGreatDoor
set_option maxRecDepth 100000
set_option maxHeartbeats 32000000
set_option linter.defProp false
open Go.Proofs.Tryz
section
open Go.RowKit
structure CF (w:World) (B0:Nat) (v:Value) (vs:List Value) (ws:List (List Pu)):Prop where
 AU:w.ownsRow 0 97 1 v ws.length vs
 ls:∀(k:Nat) (h1:k<vs.length) (h2:k<ws.length),AO w (vs[k]'h1) (ws[k]'h2)
 lo:∀g,v.ownBlock=some g->B0<=g
 li:∀x∈vs,∀g,x.ownBlock=some g->B0<=g
 G8:vs.Pairwise λx y=>∀g,x.ownBlock=some g->¬y.ownBlock=some g
section
variable {w w':World} {B0:Nat} {v:Value} {vs:List Value} {ws:List (List Pu)}
def CF.BF(h:CF w B0 v vs ws):vs.length=ws.length:=by have:=h.AU.1;omega
def CF.bx(w:World)(B0:Nat):CF w B0 (.slice none 0 0) [] []:=
 ⟨BW _ _ _ _,λk d=>by simp at d,λg h=>by simp[Value.ownBlock]at h,λx y=>by simp at y,List.Pairwise.nil⟩
def CF.Ap{S:Nat->Prop}(h:CF w B0 v vs ws)(I:A2 S w w')(H:∀k,S k->k<B0):CF w' B0 v vs ws:=
 ⟨Aq h.AU λg d=>I.Ao g (Av h.AU d) λz=>by have:=H g z;have:=h.lo g d;omega,
  λk y E=>Aq (h.ls k y E) λg d=>I.Ao g (Av (h.ls k y E) d) λz=>by have:=H g z;have:=h.li _ (Cx y) g d;omega,h.lo,h.li,h.G8⟩
def CF.ao(h:CF w B0 v vs ws)(d:A2 A7 w w'):CF w' B0 v vs ws:=h.Ap d λ_ h=>h.elim
def CF.lt(h:CF w B0 v vs ws){x:Value}(z:x∈vs){g:Nat}(y:x.ownBlock=some g):g<w.heap.size:=by
 obtain⟨k,d,rfl⟩:=GW z;exact Av (h.ls k d (by have:=h.BF;omega)) y
def CF.ne(h:CF w B0 v vs ws){x:Value}(z:x∈vs){g:Nat}(y:x.ownBlock=some g):¬v.ownBlock=some g:=by
 obtain⟨k,d,rfl⟩:=GW z;exact FL (h.ls k d (by have:=h.BF;omega)) h.AU (by decide) y
def CF.ee{J:Value}(h:CF w B0 v vs ws)(I:App w w' 97 1 v J (ws.length+1) (vs++[.slice none 0 0]))(W:B0<=w.heap.size):CF w' B0 J (vs++[.slice none 0 0]) (ws++[[]]):=by
 have Y:=I.Aj (S:=λk=>v.ownBlock=some k) λ_ h=>h;have hl:=h.BF;refine⟨?_,λk z L=>?_,λg d=>?_,λx E g d=>?_,?_⟩
 ·have e:(ws++[[]]).length=ws.length+1:=by simp
  rw[e];exact I.AA
 ·by_cases H:k<ws.length
  ·rw[Fb (show k<vs.length by omega),Fb H];exact Aq (h.ls k (by omega) H) λg d=>Y.Ao g (Av (h.ls k (by omega) H) d) (h.ne (Cx (by omega)) d)
  ·have V:(vs++[Value.slice none 0 0])[k]'z=.slice none 0 0:=by
    (have:k=vs.length:=by simp at z;omega);subst this;simp
   have U:(ws++[[]])[k]'L=[]:=by
    (have:k=ws.length:=by simp at L;omega);subst this;simp
   rw[V,U];exact BW _ _ _ _
 ·rcases I.BJ with z|z
  ·rw[z]at d;exact h.lo g d
  ·rw[z]at d;cases d;exact W
 ·rcases B3.1 E with E|E
  ·exact h.li x E g d
  ·simp at E;subst E;simp[Value.ownBlock]at d
 ·exact DU.2 ⟨h.G8,Kc _ _,λx _ y O g _ d=>by simp at O;subst O;simp[Value.ownBlock]at d⟩
def CF.dD{d:List (List Pu)}{y:List Value}{lv:Value}{l l':List Pu}(h:CF w B0 v (y++[lv]) (d++[l]))(V:A2 (λk=>lv.ownBlock=some k) w w')(Z:AO w' lv l'):CF w' B0 v (y++[lv]) (d++[l']):=by
 have E:=h.BF;have hln:y.length=d.length:=by simpa using E
 refine⟨?_,λk U O=>?_,h.lo,h.li,h.G8⟩
 ·have e:(d++[l']).length=(d++[l]).length:=by simp
  rw[e];exact Aq h.AU λg z=>V.Ao g (Av h.AU z) λL=>h.ne (x:=lv) (by simp) L z
 ·by_cases W:k<d.length
  ·(have I:k<(d++[l]).length:=by simp;omega);have J:=h.ls k U I;rw[Fb W]at J ⊢;refine Aq J λg z=>V.Ao g (Av J z) λL=>?_;rw[Fb (show k<y.length by omega)]at z;exact(DU.1 h.G8).2.2 _ (Cx (show k<y.length by omega)) lv (by simp) g z L
  ·(have H:k=d.length:=by simp at O;omega);(have Y:(d++[l'])[k]'O=l':=by subst H;simp);have e1:(y++[lv])[k]'U=lv:=by
    (have:k=y.length:=by omega);subst this;simp
   rw[e1,Y];exact Z
def CF.dt{J n0 I:Nat}{z:List (List Pu)}{d:List Value}{lv lv':Value}{l l':List Pu}(h:CF w B0 (.slice (some ⟨J,0,none⟩) n0 I) (d++[lv]) (z++[l]))(hc:A2 (λk=>lv.ownBlock=some k) w w')(hl:AO w' lv' l')(ho:∀g,lv'.ownBlock=some g->lv.ownBlock=some g\/w.heap.size<=g)(hB:B0<=w.heap.size):
 CF (w'.setCell ⟨J,d.length,none⟩ lv') B0 (.slice (some ⟨J,0,none⟩) n0 I) (d++[lv']) (z++[l']):=by
 have V:=h.BF;have hln:d.length=z.length:=by simpa using V
 have aF:n0=(z++[l]).length:=by
  obtain⟨a',c',e,_⟩:=AR h.AU;cases e;rfl
 subst aF;have hg0:=Av h.AU rfl;have L:=Aq h.AU λg E=>hc.Ao g (Av h.AU E) λH=>h.ne (x:=lv) (by simp) H E;have aG:∀g,lv'.ownBlock=some g->g≠J:=λg E e=>by
  subst e;exact FL hl L (by decide) E rfl
 have kz:A2 (One J) w' (w'.setCell ⟨J,d.length,none⟩ lv'):=(A2.C (One J) w').ak (b:=J) rfl _ _;have U:=(L.stored d.length lv').1;have W:(d++[lv]).set d.length lv'=d++[lv']:=by rw[Hr _ _ (Aw _)];simp
 rw[W]at U;refine⟨?_,λk O h2=>?_,h.lo,λx H g E=>?_,?_⟩
 ·have e:(z++[l']).length=(z++[l]).length:=by simp
  rw[e];exact U
 ·by_cases hk:k<z.length
  ·(have aE:k<(d++[lv]).length:=by simp;omega);(have aD:k<(z++[l]).length:=by simp;omega);have Z:=h.ls k aE aD;rw[Fb hk,Fb (show k<d.length by omega)]at Z ⊢;have Y:d[k]'(by omega)∈d++[lv]:=B3.2 (.inl (Cx (by omega)));refine Aq Z λg E=>?_;have b1:=hc.Ao g (Av Z E) λH=>(DU.1 h.G8).2.2 _ (Cx (show k<d.length by omega)) lv (by simp) g E H
   have b2:=kz.Ao g (Bc (Av Z E) hc.Af) λe=>h.ne Y E (by have e':=e;subst e';rfl);rw[b2,b1]
  ·(have aA:k=z.length:=by simp at h2;omega);(have e2:(z++[l'])[k]'h2=l':=by subst aA;simp);have e1:(d++[lv'])[k]'O=lv':=by
    (have:k=d.length:=by omega);subst this;simp
   rw[e1,e2];exact Aq hl λg E=>kz.Ao g (Av hl E) (aG g E)
 ·rcases B3.1 H with H|H
  ·exact h.li x (B3.2 (.inl H)) g E
  ·simp at H;subst H;rcases ho g E with O|O
   ·exact h.li lv (by simp) g O
   ·omega
 ·obtain⟨d1,d2,d3⟩:=DU.1 h.G8;refine DU.2 ⟨d1,Kc _ _,λx H y hy g E aB=>?_⟩;simp at hy;subst hy;rcases ho g aB with O|O
  ·exact d3 x H lv (by simp) g E O
  ·have:=h.lt (B3.2 (.inl H)) E;omega
end
def O4(len:Int)(l:List Pu)(i:Nat)(y:i<l.length)(d:Bool)(h:Pu)(ws:List (List Pu)):
 CX len (l.drop i) d h ws=CX len (l.drop (i+1)) false (l[i]'y) (Di len ws d h (l[i]'y)):=by
 rw[EH y];rfl
def Ev(d:List (List Pu))(last:List Pu)(p:Pu):List (List Pu):=
 if last≠[]/\BI p (last.getLastD (0,0,0))=0 then d++[last.dropLast++[p]] else d++[last++[p]]
def KH(len:Int)(ws:List (List Pu))(d:Bool)(y p:Pu)(h:d=true\/AY p.2.1 len≠AY y.2.1 len):Di len ws d y p=Ev ws [] p:=by
 unfold Di Ev;dsimp only
 rw[Am h];simp
def O6(len:Int)(d:List (List Pu))(l:List Pu)(y p:Pu)(h:AY p.2.1 len=AY y.2.1 len):Di len (d++[l]) false y p=Ev d l p:=by
 have e:(if (false=true\/AY p.2.1 len≠AY y.2.1 len) then (d++[l])++[[]] else d++[l])=d++[l]:=Ad (by simp[h]);have z:(d++[l]).getLastD []=l:=by rw[Kg];simp
 have E:(d++[l]).dropLast=d:=by simp
 unfold Di Ev;simp only[e,z,E]
end
section
open Go.RowKit
attribute [local go_sem ↓] C5
def Tryz.dE:(Tryz.prog.info? 97).map (λi=>(i.zero,i.size,i.bytes))=some (some (.slice none 0 0),1,24):=by kernel_rfl
def Lr:∃d,Tryz.prog.info? 97=some d/\d.zero=some (.slice none 0 0)/\d.size=1/\d.bytes=24:=by
 have h:=Tryz.dE;cases hx:Tryz.prog.info? 97 with
 | none=>rw[hx]at h;cases h
 | some i=>rw[hx]at h;simp at h;exact⟨i,rfl,h.1,h.2.1,h.2.2⟩
section
variable {N:Nat}
def Mx(hS:Iz N)(hN:N<=134217728)(w:World)(v:Value)(len:Int)(l:List Pu)(hl:l.length<=N)(h:AO w v l)(hT:∀p∈l,AE p.2.1)(bI:1<=len/\len<=4611686018427387904):
 Ac 109 #[v,A0 len] w λe w'=>∃v' Y,e=.returned v'/\CF w' w.heap.size v' Y (BB len l)/\A2 A7 w w':=by
 obtain⟨i0,hi,fK,fC,fE⟩:=Lr;obtain⟨j0,hj,fN,fG,e0⟩:=Dr FK;have k0:A2 A7 w (w.alloc (.cells #[A0 len] 3)):=(A2.C _ w).ae _;have dT:(w.alloc (.cells #[A0 len] 3)).heap[w.heap.size]?=some (.cells #[A0 len] 3 (0,0)):=Bw w _;have fR:=A1 (Sk _ v l (Aq h λg hg=>k0.Ao g (Av h hg) (λh=>h)) (by omega));have fY:=A1 k0;have fL:=A1 dT;have dO:Hid ((w.alloc (.cells #[A0 len] 3)).heap.size=w.heap.size+1):=by unfold Hid;simp
 have cI:Hid (∀Z vx,AO Z vx l->A5 Z w.heap.size 0 (A0 len)->(∀g,vx.ownBlock=some g->w.heap.size≠g)->_):=λZ vx h1 h2 h3=>hS Z vx w.heap.size len l hl h1 hT bI h2 h3;have cB:Hid (BB len l=CX len (D5 (AV len) l) true (0,0,0) []):=rfl;have cA:∀p∈D5 (AV len) l,AE p.2.1:=λp hp=>hT p (((F4 len).bI l).bw.DG (F4 len) hp);have cU:(D5 (AV len) l).length=l.length:=KY l;obtain⟨R,hR⟩:∃R,BB len l=R:=⟨_,rfl⟩;rw[hR]at cB ⊢;obtain⟨U,dU⟩:∃U,D5 (AV len) l=U:=⟨_,rfl⟩;rw[dU]at cB cA cU cI;have eK:=A1 cA;have b9:=A1 bI;have hsn:U.length<=134217728:=by omega
 have fO:=A1 cU;clear hR dU h hT k0 dT cA hS hl bI cU
 go_enter func109,ntmps109
 go_wp2_with (fail);refine fR.m ?_;rintro e w1⟨v1,rfl,eM,cN,cH⟩;have c1:A5 w1 w.heap.size 0 (A0 len):=cH.af (by simp only[World.cell?,fL.o];rfl);have dV:=A1 (cI.o w1 v1 eM c1 (λg hg=>by have:=cN g hg;have:=dO.o;omega));have fZ:Hid (A2 A7 w w1):=fY.o.tr cH;have dF:Hid (∀g,v1.ownBlock=some g->w.heap.size<g):=λg hg=>by have:=cN g hg;have:=dO.o;omega
 have fQ:=A1 c1;clear eM cN cH c1 fR cI;go_wp2_with (fail);refine dV.m ?_;rintro e w2⟨rfl,cC,cV⟩;have e2:U.length=l.length:=fO.o;obtain⟨sa,scap,rfl,s1,s2,s3,-⟩:=AR cC;unfold maxLen at s2;have c2:A5 w2 w.heap.size 0 (A0 len):=cV.bq fQ.o (λh=>EE _ (dF.o _ h));have gB:Hid (A2 A7 w w2):=fZ.o.As cV λx L bC=>by have:=dF.o x L;omega
 have cD:=A1 cC;have fV:=A1 c2;have fU:Hid (w.heap.size<w2.heap.size):=Gb w2 _ c2;have e3:=A1 s3;clear cC cV dV fQ c2 e2 s3;have eD:Hid (∀Z,A2 A7 w2 Z->∀i (hi:i<U.length),∃g,sa=some (A8 g 0)/\A5 Z g (i*3) (A0 (U[i]'hi).1)/\A5 Z g (i*3+1) (A0 (U[i]'hi).2.1)/\A5 Z g (i*3+2) (A0 (U[i]'hi).2.2)):=λZ L i hi=>by
  obtain⟨g,rfl⟩:=e3.o (by omega);obtain⟨q1,q2,q3⟩:=Fl U i hi;exact⟨g,rfl,L.af (Be cD.o rfl q1),L.af (Be cD.o rfl q2),L.af (Be cD.o rfl q3)⟩
 go_wp2;go_loopw [6,18] (λv6 iv wr=>∃(i:Nat) (E:List (List Pu)) (Y:List Value),iv=A0 i/\i<=U.length/\Hid (CF wr w2.heap.size v6 Y E/\A2 A7 w2 wr/\E.length<=i/\(∀x∈E,x.length<=i)/\(0<i->∃a0 l0,E=a0++[l0]/\l0≠[])/\R=CX len (U.drop i) (decide (i=0)) (if i=0 then (0,0,0) else U.getD (i-1) (0,0,0)) E)) (λ_ iv _=>U.length-(intOf iv).toNat)
 case atStart=>exact⟨0,[],[],rfl,by omega,CF.bx _ _,A2.C _ _,Aw _,λx L=>by simp at L,λh=>absurd h (EE 0),by simpa using cB.o⟩
 case round=>
  obtain⟨i,E,Y,rfl,hii,hI⟩:=hrel;by_cases aT:i<U.length
  case neg=>
   (obtain rfl:i=U.length:=by omega);obtain⟨i1,i2,i3,i4,i5,i6⟩:=hI.o;rw[Fz]at i6;have fP:R=E:=i6;subst fP;have aP:=A1 i1;have dC:=A1 i2;(have eV:¬((U.length:Int)<(U.length:Int)):=by omega);clear i1 i2 i3 i4 i5 i6 hI;obtain⟨ap,cp,rfl,hcap1,hcap2,-⟩:=AR aP.o.AU;go_wp2;go_ret;exact⟨_,rfl,⟨Y,aP.o.AU,aP.o.ls,λg hg=>FQ (Bc fU.o (aP.o.lo g hg)),λx L g hg=>FQ (Bc fU.o (aP.o.li x L g hg)),aP.o.G8⟩,gB.o.tr dC.o⟩
  case pos=>
   obtain⟨i1,i2,i3,i4,i5,i6⟩:=hI.o;obtain⟨g,rfl,p1,p2,p3⟩:=eD.o wr i2 i aT;rw[O4 len U i aT]at i6;have cP:=eK.o _ (Cx aT);obtain⟨p,hp⟩:∃p,(U[i]'aT)=p:=⟨_,rfl⟩;rw[hp]at p1 p2 p3 i6 cP;obtain⟨I,H,J⟩:=p;dsimp only at p1 p2 p3 cP;have cS:Bk (wr.alloc (.cells #[A0 I,A0 H,A0 J] 113)) wr.heap.size I H J:=Bw wr _;have kp:A2 A7 wr (wr.alloc (.cells #[A0 I,A0 H,A0 J] 113)):=(A2.C _ wr).ae _;(have eV:(i:Int)<(U.length:Int):=by omega);have hk0:=C3 i;have aP:=A1 i1;have dC:=A1 i2;have eF:=A1 i3;have dJ:=A1 i4;have fT:=A1 i5;have fM:Hid (w2.heap.size<=wr.heap.size):=i2.Af;have a4:=A1 cS;have aZ:=A1 kp;(have eS:Hid (∀k:Nat,k<=i->(k+1)*24<=140737488355328):=λk hk=>by omega);have aX:Hid (∀cG,Di len E (decide (i=0)) (if i=0 then (0,0,0) else U.getD (i-1) (0,0,0)) (I,H,J)=cG->R=CX len (U.drop (i+1)) (decide (i+1=0)) (if i+1=0 then (0,0,0) else U.getD (i+1-1) (0,0,0)) cG):=λcG h=>by
    (have eT:U.getD i (0,0,0)=(I,H,J):=by rw[Tn,E4 aT,hp];rfl);rw[Ad (Nat.succ_ne_zero i),Nat.add_sub_cancel,eT,i6,h];simp
   obtain⟨a7,a2,e6,bZ,eN,dL,-⟩:=AR i1.AU;have dY:=A1 dL;clear dL;unfold maxLen at eN;obtain⟨pk,aY⟩:∃pk,wr.heap.size=pk:=⟨_,rfl⟩;rw[aY]at a4 fM;have aM:=A1 aY;by_cases aJ:i=0
   focus
    subst e6;(have hz:((i:Int)==0)=true:=by simp[aJ]);have aL:Hid (Di len E (decide (i=0)) (if i=0 then (0,0,0) else U.getD (i-1) (0,0,0)) (I,H,J)=Ev E [] (I,H,J)):=KH len E _ _ _ (.inl (by simp[aJ]));clear hI i1 i2 i3 i4 i5 i6 cS kp hp aY aJ;go_wp2;rw[aM.o];go_quiet (fail);have aG:=A1 (aP.o.ao (aZ.o.aU nq));have aA:=A1 (a4.o.Ap ((A2.C A7 _).aU nq) (λh=>h));have dB:=A1 (dC.o.tr (aZ.o.aU nq));generalize ((wr.alloc (.cells #[A0 I,A0 H,A0 J] 113)).drewN nq)=wY at aG aA dB ⊢
   rotate_left
   focus
    obtain⟨P,cQ⟩:∃P,P=i-1:=⟨_,rfl⟩;(have bD:P<U.length:=by omega);obtain⟨gq,fH,q1,q2,q3⟩:=eD.o wr i2 P bD;cases fH;have bR:=eK.o _ (Cx bD);(have bK:U.getD P (0,0,0)=U[P]'bD:=by rw[Tn,E4 bD];rfl);obtain⟨q,hq⟩:∃q,(U[P]'bD)=q:=⟨_,rfl⟩;rw[hq]at q2 bR bK;obtain⟨qa,qb,qc⟩:=q;dsimp only at q2 bR;have bG:=A1 (λZ=>IX Z H len cP b9.o);have bE:=A1 (λZ=>IX Z qb len bR b9.o);have aN:Hid (AY H len≠AY qb len->Di len E (decide (i=0)) (if i=0 then (0,0,0) else U.getD (i-1) (0,0,0)) (I,H,J)=Ev E [] (I,H,J)):=λh=>by
     rw[Ad aJ,<-cQ,bK];exact KH len E _ _ _ (.inr h)
    have aH:Hid (∀a0 l0,E=a0++[l0]->AY H len=AY qb len->Di len E (decide (i=0)) (if i=0 then (0,0,0) else U.getD (i-1) (0,0,0)) (I,H,J)=Ev a0 l0 (I,H,J)):=λa0 l0 e h=>by
     rw[Ad aJ,<-cQ,bK,Cj aJ,e];exact O6 len a0 l0 _ _ h
    (have hz:((i:Int)==0)=false:=by simpa using aJ);obtain⟨dD,eH⟩:∃dD,AY H len=dD:=⟨_,rfl⟩;obtain⟨eQ,dS⟩:∃eQ,AY qb len=eQ:=⟨_,rfl⟩;rw[eH]at bG aN aH;rw[dS]at bE aN aH;(have eP0:IntKind.i64.wrap ((i:Int)-1)=(P:Int):=by simp[IntKind.wrap,IntKind.bits,IntKind.signed];omega);(have eP1:wrap64 ((i:Int)-1)=(P:Int):=by unfold wrap64;omega);have hP0:=C3 P;(have hPn:(P:Int)<(U.length:Int):=by omega);have eR:=A1 (aZ.o.af q2);(have dR:Hid (0<i):=by unfold Hid;omega);have bU:=A1 (aZ.o.af (i2.af fV.o));clear hI i1 i2 i3 i4 i5 i6 cS kp hp aY aJ cQ bR bK hq q1 q2 q3 eH dS;by_cases bL:dD=eQ
   rotate_left
   focus
    subst e6;(have eW:(dD !=eQ)=true:=by simpa using bL);have aL:=A1 (aN.o bL);clear bL aN aH;go_wp2;rw[aM.o];generalize wr.alloc (.cells #[A0 I,A0 H,A0 J] 113)=wA at a4 aZ eR bU ⊢;have aG:=A1 (aP.o.ao aZ.o.I);have aA:=A1 a4.o.I;have dB:=A1 (dC.o.tr aZ.o.I);have z1:=aA.o.c1;have z2:A5 wA.drew g (P*3+1) (A0 qb):=eR.o;have z3:A5 wA.drew w.heap.size 0 (A0 len):=bU.o;refine BH (λw'=>A5 w' pk 1 (A0 H)/\A5 w' g (P*3+1) (A0 qb)/\A5 w' w.heap.size 0 (A0 len)) 18
     (Bj [0,1,2,3,4,5,6,8,9,10,11,12,13,14,15,7,16,17] [7,16]) ⟨z1,z2,z3⟩ ?_
    iterate 15 (refine B5 ?_;(try simp only[An]))
    refine B7 λK hK=>?_;go_simp;refine(bG.o _).mono ?_;rintro e w3⟨rfl,rfl⟩;refine hK _ _ ⟨z1,z2,z3⟩ (λhS=>?_);clear hK K hS
    (try simp only[An])
    refine B7 λK hK=>?_;go_simp;refine(bE.o _).mono ?_;rintro e w3⟨rfl,rfl⟩;refine hK _ _ ⟨z1,z2,z3⟩ (λhS=>?_);clear hK K hS bG bE
    (try simp only[An])
    (refine B5 ?_;(try simp only[An]))
    refine Bd ?_;simp only[BD,BC];generalize wA.drew=wY at aG aA dB z1 z2 z3 ⊢;clear z1 z2 z3
   rotate_left 2
   focus
    subst bL;(have eW:(dD !=dD)=false:=by simp);obtain⟨E,d,rfl,aK⟩:=fT.o dR.o;have aL:=A1 (aH.o E d rfl rfl);(have bO:(E++[d]).length=E.length+1:=by simp);have cE:=aP.o.BF;obtain⟨Y,lv,rfl⟩:∃fJ lv,Y=fJ++[lv]:=by
     (have dZ:Y≠[]:=by intro h;subst h;simp at cE);exact⟨Y.dropLast,Y.getLast dZ,(NH dZ).symm⟩
    (have aS:Y.length=E.length:=by simpa using cE);have aU:AO wr lv d:=by
     have h1:=aP.o.ls Y.length (by simp) (by simp;omega);(have e1:(Y++[lv])[Y.length]'(by simp)=lv:=by simp);(have e2:(E++[d])[Y.length]'(by simp;omega)=d:=by rw[IK (by omega)];simp[aS]);rw[e1,e2]at h1;exact h1
    obtain⟨la,z,rfl,l1,l2,l3,-⟩:=AR aU;obtain⟨V,rfl⟩:=l3 (Nw.2 aK);unfold maxLen at l2;obtain⟨l0,q0,aV⟩:∃l0 q0,d=l0++[q0]:=⟨d.dropLast,d.getLast aK,(NH aK).symm⟩;obtain⟨O,bM⟩:∃O,O=l0.length:=⟨_,rfl⟩;(have cX:d.length=O+1:=by rw[aV,bM];simp);rw[bO]at e6 bZ;subst e6;obtain⟨g0,rfl⟩:=dY.o (by rw[bO];omega);obtain⟨c1,c2,c3⟩:=Fl d O (by omega);(have eO:d[O]'(by omega)=q0:=by subst aV;rw[IK (by omega)];simp[bM]);rw[eO]at c1 c2 c3;have b0:Hid (d.length<=i):=dJ.o d (by simp);(have bH:Hid (E.length+1<=i+1):=by have:=eF.o;rw[bO]at this;unfold Hid;omega);have fS:Hid (∀Z,A2 A7 wr Z->A5 Z g0 E.length (AH V (O+1) z)/\A5 Z V (O*3) (A0 q0.1)/\A5 Z V (O*3+1) (A0 q0.2.1)/\A5 Z V (O*3+2) (A0 q0.2.2)):=λZ L=>
     ⟨L.af (by rw[<-aS,<-cX];exact Be aP.o.AU rfl (by rw[IL (Aw _)];simp)),L.af (Be aU rfl c1),L.af (Be aU rfl c2),L.af (Be aU rfl c3)⟩
    have fI:Hid (V≠pk):=by
     have h1:=Av aU (g:=V) rfl;have h2:=aM.o;unfold Hid;omega
    have dW:=A1 (λZ=>Ji Z (I,H,J) q0);have bQ:Hid (¬BI (I,H,J) q0=0->Ev E d (I,H,J)=E++[d++[(I,H,J)]]):=λh=>by
     unfold Ev;rw[Ad];rintro⟨-,h2⟩;rw[aV]at h2;simp at h2;exact h h2
    have bS:Hid (BI (I,H,J) q0=0->Ev E d (I,H,J)=E++[l0++[(I,H,J)]]):=λh=>by
     unfold Ev;rw[Am ⟨aK,by rw[aV];simpa using h⟩,aV];simp
    obtain⟨cc,cF⟩:∃cc,BI (I,H,J) q0=cc:=⟨_,rfl⟩;rw[cF]at bQ bS;have eY:=A1 aV;have e9:=A1 bM;have e5:=A1 cX;have b8:=A1 aU;(have fD:O+1<=i:=by have:=dJ.o d (by simp);omega);(have hgt:(0:Int)<(O:Int)+1:=by omega);(have em:IntKind.i64.wrap (O:Int)=(O:Int):=by simp[IntKind.wrap,IntKind.bits,IntKind.signed];omega);(have em0:IntKind.i64.wrap ((O:Int)+1-1)=(O:Int):=by rw[Hw];exact em);(have em1:wrap64 ((O:Int)+1-1)=(O:Int):=by unfold wrap64;omega);have hm00:=C3 O;(have hm01:(O:Int)<(O:Int)+1:=by omega);(have bP:IntKind.i64.wrap (E.length:Int)=(E.length:Int):=by have:=bH.o;simp[IntKind.wrap,IntKind.bits,IntKind.signed];omega);(have dG:IntKind.i64.wrap ((E.length:Int)+1-1)=(E.length:Int):=by rw[Hw];exact bP);(have dN:wrap64 ((E.length:Int)+1-1)=(E.length:Int):=by have:=bH.o;unfold wrap64;omega);have eP:(0:Int)<=(E.length:Int):=EU _;(have dP:(E.length:Int)<(E.length:Int)+1:=by omega);obtain⟨eJ,dH,dI⟩:=q0;unfold CH at dW;dsimp only at fS dW;rw[cF]at dW;clear aN aH aK cE aS aU l1 l3 aV bM cX c1 c2 c3 eO bO cF bZ dY fT fD;go_wp2;rw[aM.o];generalize wr.alloc (.cells #[A0 I,A0 H,A0 J] 113)=wA at a4 aZ eR bU ⊢;have aG:=A1 (aP.o.ao aZ.o.I);have aA:=A1 a4.o.I;have dB:=A1 (dC.o.tr aZ.o.I);have z1:=aA.o.c1;have z2:A5 wA.drew g (P*3+1) (A0 qb):=eR.o;have z3:A5 wA.drew w.heap.size 0 (A0 len):=bU.o;refine BH (λw'=>A5 w' pk 1 (A0 H)/\A5 w' g (P*3+1) (A0 qb)/\A5 w' w.heap.size 0 (A0 len)) 18
     (Bj [0,1,2,3,4,5,6,8,9,10,11,12,13,14,15,7,16,17] [7,16]) ⟨z1,z2,z3⟩ ?_
    iterate 15 (refine B5 ?_;(try simp only[An]))
    refine B7 λK hK=>?_;go_simp;refine(bG.o _).mono ?_;rintro e w3⟨rfl,rfl⟩;refine hK _ _ ⟨z1,z2,z3⟩ (λhS=>?_);clear hK K hS
    (try simp only[An])
    refine B7 λK hK=>?_;go_simp;refine(bE.o _).mono ?_;rintro e w3⟨rfl,rfl⟩;refine hK _ _ ⟨z1,z2,z3⟩ (λhS=>?_);clear hK K hS bG bE
    (try simp only[An])
    (refine B5 ?_;(try simp only[An]))
    refine Bd ?_;simp only[BD,BC];have aO:=A1 (λZ (L:A2 A7 wA Z)=>fS.o Z (aZ.o.tr L));have oc:=(aO.o wA.drew (A2.C _ wA).I).1;go_wp2;have gA:=(aO.o wA.drew.drew (A2.C _ wA).I.I);have f0:=aA.o.I.c0;have f1:=aA.o.I.c1;have f2:=aA.o.I.c2;obtain⟨d0,d1,d2,d3⟩:=gA;refine BH (λw'=>A5 w' g0 E.length (AH V (O+1) z)/\A5 w' V (O*3) (A0 eJ)/\A5 w' V (O*3+1) (A0 dH)/\A5 w' V (O*3+2) (A0 dI)/\A5 w' pk 0 (A0 I)/\A5 w' pk 1 (A0 H)/\A5 w' pk 2 (A0 J)) 13
     (Bj [0,1,2,3,4,5,6,7,8,9,10,11,12] [11]) ⟨d0,d1,d2,d3,f0,f1,f2⟩ ?_
    iterate 11 (refine B5 ?_;(try simp only[An]))
    refine B7 λK hK=>?_;go_simp;refine(dW.o _).mono ?_;rintro e W⟨rfl,cZ⟩;have k6:A2 A7 wA W:=((A2.C A7 wA).I.I).tr cZ;have bA:=aA.o.Ap ((A2.C A7 wA.drew).I.tr cZ) (λh=>h);refine hK _ _ ⟨(aO.o W k6).1,(aO.o W k6).2.1,(aO.o W k6).2.2.1,(aO.o W k6).2.2.2,bA.c0,bA.c1,bA.c2⟩ (λhS=>?_);have bT:=A1 (aP.o.ao (aZ.o.tr k6));have eA:=A1 (dC.o.tr (aZ.o.As k6 λ_ h _=>h));have aF:=A1 bA;have cL:=A1 k6;have a6:Hid (AO W (AH V d.length z) d):=Aq b8.o λg hg=>(aZ.o.tr k6).Ao g (Av b8.o hg) (λh=>h)
    clear hK K hS cZ k6 bA f0 f1 f2 d0 d1 d2 d3 oc z1 z2 z3 dW aG aA dB
    (try simp only[An])
    by_cases a3:cc=0
    ·(have fB:(cc==0)=true:=by simpa using a3);have aB:=A1 (aL.o.trans (bS.o a3));have a9:=A1 (aX.o _ aB.o);clear a3 bS bQ aL aX aB
     (refine B5 ?_;(try simp only[An]))
     refine Bd ?_;simp only[BD,BC];go_wp2;obtain⟨d0,d1,d2,d3⟩:=aO.o W.drew cL.o.I;have f0:=aF.o.I.c0;have f1:=aF.o.I.c1;have f2:=aF.o.I.c2;refine BH (λw'=>A5 w' g0 E.length (AH V (O+1) z)/\A5 w' V (O*3) (A0 eJ)/\A5 w' V (O*3+1) (A0 dH)/\A5 w' V (O*3+2) (A0 dI)/\A5 w' pk 0 (A0 I)/\A5 w' pk 1 (A0 H)/\A5 w' pk 2 (A0 J)) 6
      (Bj [0,1,2,3,4,5] []) ⟨d0,d1,d2,d3,f0,f1,f2⟩ ?_
     iterate 6 (refine B5 ?_;(try simp only[An]))
     refine Bd ?_;simp only[BD,BC];have fz:∀o,W.drew.frozen? (A8 V o)=false:=λo=>Fm (a6.o:W.drew.ownsRow 0 113 3 (AH V d.length z) d.length (Bv d)) rfl o;obtain⟨-,b1,b2,b3⟩:=aO.o W cL.o;have fy:∀o,W.frozen? (A8 V o)=false:=λo=>Fm a6.o rfl o;(have eI:O<d.length:=by rw[e5.o];exact Nat.lt_succ_self _);have eZ:=AO.a8 (w:=W) (g:=V) (n:=d.length) (cap:=z) (l:=d) a6.o O eI (I,H,J);have a5:d.set O (I,H,J)=l0++[(I,H,J)]:=by
      rw[eY.o,e9.o,Hr _ _ (Aw _)];simp
     (have cJ:(l0++[(I,H,J)]).length=d.length:=by rw[<-a5,Kf]);rw[a5]at eZ;(have kc:A2 (λk=>(AH V d.length z).ownBlock=some k) W (((W.sC V (O*3) (A0 I)).sC V (O*3+1) (A0 H)).sC V (O*3+2) (A0 J)).drew:=(((((A2.C (One V) W).ak (b:=V) rfl _ _).ak (b:=V) rfl _ _).ak (b:=V) rfl _ _).I).U (S':=λk=>(AH V d.length z).ownBlock=some k) λk _ h=>by cases h;rfl);have aE:=A1 (bT.o.dD kc (l':=l0++[(I,H,J)]) (by unfold AO;rw[cJ];exact Aq eZ λ_ _=>rfl));have fW:=A1 (eA.o.As (S':=λk=>(AH V d.length z).ownBlock=some k) kc λy hy bC=>absurd bC (Nj.2 (bT.o.li (AH V d.length z) (by simp) y hy)));(have e7:Hid ((l0++[(I,H,J)]).length<=i+1):=by rw[cJ];exact K9 b0.o);clear eZ a5 cJ kc eI a6 cL f0 f1 f2;go_wp2;go_roundw
     case rel=>
      exact⟨i+1,E++[l0++[(I,H,J)]],Y++[AH V d.length z],by go_num,aT,aE.o,fW.o,(by rw[B2];exact bH.o),(λx L=>(B3.1 L).elim (λL=>K9 (dJ.o x (B3.2 (.inl L)))) (λL=>by rw[Ge.1 L];exact e7.o)),λ_=>⟨E,_,rfl,by simp⟩,a9.o⟩
     case measure=>simp[intOf];omega
    (have fB:(cc==0)=false:=by simpa using a3);have aB:=A1 (aL.o.trans (bQ.o a3));clear a3 bS bQ aL;obtain⟨la,aR⟩:∃la:Option Addr,la=some (A8 V 0):=⟨_,rfl⟩;(have cY:Hid (CF W w2.heap.size (AH g0 (E.length+1) a2) (Y++[.slice la d.length z]) (E++[d])):=by subst aR;exact bT.o);have eG:Hid (∀x∈E++[d],x.length<=i):=dJ.o;have cO:Hid (d.length<=i):=b0.o;have bV:Hid (¬(Value.slice la d.length z).ownBlock=some pk):=λh=>by
     rw[aR]at h;cases h;exact fI.o rfl
    clear aR a6 bT
    (refine B5 ?_;(try simp only[An]))
    refine Bd ?_;simp only[BD,BC]
   rotate_left
   iterate 2
    focus
     have bB:Hid ((wY.alloc (.cells #[.slice none 0 0] 97)).ownsRow 0 97 1 (.slice a7 E.length a2) E.length Y):=Aq aG.o.AU λg hg=>((A2.C A7 wY).ae _).Ao g (Av aG.o.AU hg) (λh=>h)
     have bW:=A1 (Src.aW (size:=1) (B:=wY.heap.size) underlying174 wY #[.slice none 0 0] 97 (by simp) 1 1 rfl (by simp[Value.oneCell']));have cM:=A1 (dB.o.ae (.cells #[.slice none 0 0] 97));have b4:=A1 (aG.o.ao ((A2.C A7 wY).ae (.cells #[.slice none 0 0] 97)));have bX:=A1 (aA.o.Ap ((A2.C A7 wY).ae (.cells #[.slice none 0 0] 97)) (λh=>h));(have bY:Hid ((E.length+1)*24<=140737488355328):=by have h1:=eF.o;unfold Hid;omega);have dM:Hid (∀g,(Value.slice a7 E.length a2).ownBlock=some g->pk≠g):=λg hg e=>by
      subst e;have:=Av aP.o.AU hg;have h2:=aM.o;omega
     (have bP:IntKind.i64.wrap (E.length:Int)=(E.length:Int):=by have:=eF.o;simp[IntKind.wrap,IntKind.bits,IntKind.signed];omega);(have dG:IntKind.i64.wrap ((E.length:Int)+1-1)=(E.length:Int):=by rw[Hw];exact bP);(have dN:wrap64 ((E.length:Int)+1-1)=(E.length:Int):=by have:=eF.o;unfold wrap64;omega);have eP:(0:Int)<=(E.length:Int):=EU _;(have dP:(E.length:Int)<(E.length:Int)+1:=by omega);go_wp2_with (at_builtin;refine C7 rfl (.tmp 42) (.tmp 43) 174 174 rfl 97 i0 _ 1 24 underlying174 hi fK fC fE rfl (by decide) (.slice a7 E.length a2) E.length Y (by rfl) bB.o _ 1 _ (by rfl) bW.o bY.o ?_;intro a8 aD w8 hA;have dQ:=A1 hA;clear hA;obtain⟨a8',c8',e8,r1,r2,r3,-⟩:=AR dQ.o.AA;cases e8;obtain⟨g0,rfl⟩:=r3 (Nat.succ_pos _);clear r3;have e4:A5 w8 g0 E.length (.slice none 0 0):=Be dQ.o.AA rfl (by rw[<-aG.o.BF,IL (Aw _)];simp));go_quiet (fail);have cT:=dQ.o.Aj (S:=λk=>(Value.slice a7 E.length a2).ownBlock=some k) λ_ h=>h;have dA:=A1 ((b4.o.ee dQ.o cM.o.Af).ao ((A2.C A7 w8).aU nq));have aF:=A1 ((bX.o.Ap cT (λh=>dM.o _ h rfl)).Ap ((A2.C A7 w8).aU nq) (λh=>h));have eA:=A1 ((cM.o.As (S':=λk=>(Value.slice a7 E.length a2).ownBlock=some k) cT λy hy bC=>absurd bC (Nj.2 (aP.o.lo y hy))).tr ((A2.C A7 w8).aU nq));generalize w8.drewN nq=W at dA aF eA ⊢;obtain⟨d,aI⟩:∃d:List Pu,d=[]:=⟨_,rfl⟩;obtain⟨la,aR⟩:∃la:Option Addr,la=none:=⟨_,rfl⟩;obtain⟨z,bJ⟩:∃z:Nat,z=0:=⟨_,rfl⟩;(have cY:Hid (CF W w2.heap.size (AH g0 (E.length+1) aD) (Y++[.slice la d.length z]) (E++[d])):=by subst aI aR bJ;exact dA.o);(have aB:Hid (Di len E (decide (i=0)) (if i=0 then (0,0,0) else U.getD (i-1) (0,0,0)) (I,H,J)=E++[d++[(I,H,J)]]):=by unfold Hid;rw[aL.o];subst aI;simp[Ev]);have eG:Hid (∀x∈E++[d],x.length<=i):=λx L=>by
      rcases B3.1 L with L|L
      ·exact dJ.o x L
      ·rw[Ge.1 L,aI];exact CL _
     have bH:Hid (E.length+1<=i+1):=K7 eF.o;(have cO:Hid (d.length<=i):=by rw[aI];exact CL _);(have bV:Hid (¬(Value.slice la d.length z).ownBlock=some pk):=by rw[aR];simp[Hid,Value.ownBlock]);clear aI aR bJ e4 cT dA dQ b4 cM bX bB bW bY dM aL bP dG dN eP dP
    rotate_left
   all_goals
    have eC:Hid (A5 W g0 E.length (.slice la d.length z)):=by
     (have aS:Y.length=E.length:=by have:=cY.o.BF;simpa using this);rw[<-aS];exact Be cY.o.AU rfl (by rw[IL (Aw _)];simp)
    have oc:=eC.o;have eU:Hid (AO W (.slice la d.length z) d):=by
     (have aS:Y.length=E.length:=by have:=cY.o.BF;simpa using this);have h1:=cY.o.ls Y.length (by simp) (by simp;omega);(have e1:(Y++[Value.slice la d.length z])[Y.length]'(by simp)=.slice la d.length z:=by simp);(have e2:(E++[d])[Y.length]'(by simp;omega)=d:=by rw[IK (by omega)];simp[aS]);rw[e1,e2]at h1;exact h1
    obtain⟨la',lcap',fA,la1,eX,-⟩:=AR eU.o;cases fA;unfold maxLen at eX;have f0:=aF.o.I.c0;have f1:=aF.o.I.c1;have f2:=aF.o.I.c2;have dK:A5 W.drew g0 E.length (.slice la d.length z):=oc;go_wp2;refine BH (λw'=>A5 w' g0 E.length (.slice la d.length z)/\A5 w' pk 0 (A0 I)/\A5 w' pk 1 (A0 H)/\A5 w' pk 2 (A0 J)) 7
     (Bj [0,1,2,3,4,5,6] [5,6]) ⟨dK,f0,f1,f2⟩ ?_
    iterate 5 (refine B5 ?_;(try simp only[An]))
    refine B7 λK hK=>?_;go_simp;have ka:A2 A7 W (W.alloc (.cells #[A0 I,A0 H,A0 J] 113)).drew:=((A2.C _ _).ae _).I;have bF:=aF.o.Ap ka (λh=>h);have eL:Hid (AO (W.alloc (.cells #[A0 I,A0 H,A0 J] 113)).drew (.slice la d.length z) d):=Aq eU.o λg hg=>ka.Ao g (Av eU.o hg) (λh=>h);have aW:=A1 (cY.o.ao ka);have b7:Hid (Src Tryz.prog 3 97 (AH W.heap.size 1 1) 1 #[A0 I,A0 H,A0 J].toList (W.alloc (.cells #[A0 I,A0 H,A0 J] 113)).drew):=by
     have hb:(W.alloc (.cells #[A0 I,A0 H,A0 J] 113)).drew.heap[W.heap.size]?=some (.cells #[A0 I,A0 H,A0 J] 113 (0,0)):=Bw W _;exact Src.bJ underlying97 hb 1 1 rfl (FE [(I,H,J)])
    refine hK _ _ ⟨ka.af oc,bF.c0,bF.c1,bF.c2⟩ (λhS=>?_);have eE:=A1 bF;have fF:=A1 ka;clear hK K hS bF ka oc f0 f1 f2 dK
    (try simp only[An])
    refine Em rfl (by rfl) (λK hK=>?_);refine H0 (.tmp 78) (.tmp 80) 97 97 rfl 113 j0 _ 3 24 underlying97 hj fN fG e0 rfl (by decide) (.slice la d.length z) d.length (Bv d) (by rfl) eL.o _ 1 _ (by rfl) b7.o (eS.o _ cO.o) ?_;intro a8 aD w8 hA;have a1:=hA.Aj (S:=λk=>(Value.slice la d.length z).ownBlock=some k) λ_ h=>h;have b6:AO w8 (.slice a8 (d.length+1) aD) (d++[(I,H,J)]):=by
     (have e:(d++[(I,H,J)]).length=d.length+1:=by simp);unfold AO;rw[G1,e];exact hA.AA
    have dE:∀g,(Value.slice a8 (d.length+1) aD).ownBlock=some g->(Value.slice la d.length z).ownBlock=some g\/(W.alloc (.cells #[A0 I,A0 H,A0 J] 113)).drew.heap.size<=g:=λg hg=>by
     rcases hA.BJ with h|h
     ·rw[h]at hg;exact .inl hg
     ·rw[h]at hg;cases hg;exact .inr (Aw _)
    have dX:w2.heap.size<=(W.alloc (.cells #[A0 I,A0 H,A0 J] 113)).drew.heap.size:=Az eA.o.Af fF.o.Af;(have b5:Y.length=E.length:=by have:=cY.o.BF;simpa using this);have aE:=aW.o.dt a1 b6 dE dX;rw[b5]at aE;have aE:=A1 aE;(have aQ:Value.slice la d.length z∈Y++[Value.slice la d.length z]:=by simp);have bN:=eE.o.Ap a1 bV.o;have eB:A5 w8 g0 E.length (.slice la d.length z):=a1.bq (fF.o.af eC.o) (λh=>aW.o.ne aQ h rfl);have hofz8:w8.frozen? (A8 g0 E.length)=false:=by
     have hb:=a1.Ao g0 (Av aW.o.AU rfl) (λh=>aW.o.ne aQ h rfl);have:=Fm aW.o.AU (g:=g0) rfl E.length;unfold World.frozen? at this ⊢;rw[hb];exact this
    refine hK _ _ ⟨eB,bN.c0,bN.c1,bN.c2⟩ (λhS=>?_);have fX:Hid (A2 A7 w2 (w8.sC g0 E.length (.slice a8 (d.length+1) aD))):=((eA.o.tr fF.o).As (S':=λk=>(Value.slice la d.length z).ownBlock=some k) a1 λy hy bC=>by have:=aW.o.li _ aQ _ hy;omega).a1 (p:=(A8 g0 E.length)) (λh=>by have:=aW.o.lo g0 rfl;have h':g0<w2.heap.size:=h;omega) _;have a9:=A1 (aX.o _ aB.o);clear hK K hS hA a1 b6 dE dX bN b7 eL b5 aX aB
    (try simp only[An])
    refine Bd ?_;simp only[BD,BC];go_wp2;go_roundw
    case rel=>
     exact⟨i+1,E++[d++[(I,H,J)]],Y++[.slice a8 (d.length+1) aD],by go_num,aT,aE.o,fX.o,(by rw[B2];exact bH.o),(λx L=>(B3.1 L).elim (λL=>K9 (eG.o x (B3.2 (.inl L)))) (λL=>by rw[Ge.1 L,B2];exact K7 cO.o)),λ_=>⟨E,_,rfl,by simp⟩,a9.o⟩
    case measure=>simp[intOf];omega
end
def O5(len:Int)(I:List (List Pu))(H:Bool)(J p:Pu):
 (Di len I H J p).length<=I.length+1/\C8 (Di len I H J p)<=C8 I+1/\∀x∈Di len I H J p,∀y∈x,y=p\/∃z∈I,y∈z:=by
 obtain⟨d,V,h1,h2,W⟩:∃d,(if H=true\/AY p.2.1 len≠AY J.2.1 len then I++[[]] else I)=d/\(d.length<=I.length+1)/\C8 d=C8 I/\(∀x∈d,∀y∈x,∃z∈I,y∈z)/\True:=by
  refine⟨_,rfl,?_⟩;split
  ·refine⟨by simp,by simp[C8],λx E y h=>?_,trivial⟩;rcases B3.1 E with E|E
   ·exact⟨x,E,h⟩
   ·simp at E;subst E;simp at h
  ·exact⟨by omega,rfl,λx E y h=>⟨x,E,h⟩,trivial⟩
 have hl1:d=[]\/d.length<=I.length+1:=.inr h1;have O:d.dropLast.length+1<=I.length+1:=by
  rw[Tk];have:d.length<=I.length+1:=h1;omega
 have key:∀t:List Pu,t.length<=(d.getLastD []).length+1->C8 (d.dropLast++[t])<=C8 I+1:=λt Z=>by
  rw[HG,<-h2];rcases ND d with rfl|⟨a,b,L⟩
  ·simp[C8]at Z ⊢;omega
  ·rw[Tv]at L;subst L;(have Y:(a++[b]).getLastD []=b:=by rw[Kg];simp);rw[Y]at Z;rw[List.dropLast_concat,HG];simp[C8];omega
 have U:∀y∈d.getLastD [],∃z∈I,y∈z:=λy h=>by
  rcases ND d with rfl|⟨a,b,L⟩
  ·simp at h
  ·rw[Tv]at L;subst L;(have Y:(a++[b]).getLastD []=b:=by rw[Kg];simp);rw[Y]at h;exact W.1 b (by simp) y h
 unfold Di;dsimp only
 rw[V];split
 ·refine⟨by simpa using O,key _ (by simp),λx E y h=>?_⟩;rcases B3.1 E with E|E
  ·exact .inr (W.1 x (NG _ E) y h)
  ·rw[Ge]at E;subst E;rcases B3.1 h with h|h
   ·exact .inr (U y (NG _ h))
   ·exact .inl (Ge.1 h)
 ·refine⟨by simpa using O,key _ (by simp),λx E y h=>?_⟩;rcases B3.1 E with E|E
  ·exact .inr (W.1 x (NG _ E) y h)
  ·rw[Ge]at E;subst E;rcases B3.1 h with h|h
   ·exact .inr (U y h)
   ·exact .inl (Ge.1 h)
def KF(len:Int):∀(l:List Pu) (d:Bool) (E:Pu) (H:List (List Pu)),
 (CX len l d E H).length<=H.length+l.length/\C8 (CX len l d E H)<=C8 H+l.length/\∀x∈CX len l d E H,∀y∈x,y∈l\/∃z∈H,y∈z
 | [],_,_,H=>⟨Aw _,Aw _,λx J y I=>.inr ⟨x,J,I⟩⟩
 | p::r,d,E,H=>by
  obtain⟨s1,s2,s3⟩:=O5 len H d E p;obtain⟨h1,h2,O⟩:=KF len r false p (Di len H d E p);unfold CX;refine⟨by simp;omega,by simp;omega,λx J y I=>?_⟩;rcases O x J y I with h|⟨z,L,h⟩
  ·exact .inl (BK _ h)
  ·rcases s3 z L y h with rfl|h
   ·exact .inl Ce
   ·exact .inr h
def Ot{l:List (List Pu)}{x:List Pu}(h:x∈l):x.length<=C8 l:=by
 induction l with
 | nil=>cases h
 | cons a r ih=>
  rw[J3];rcases Cf.1 h with rfl|h
  ·omega
  ·have:=ih h;omega
def JH(len:Int)(l:List Pu):(BB len l).length<=l.length/\C8 (BB len l)<=l.length/\∀x∈BB len l,(∀p∈x,p∈l)/\x.length<=l.length:=by
 obtain⟨d,y,E⟩:=KF len (D5 (AV len) l) true (0,0,0) [];rw[KY]at d y;have e:CX len (D5 (AV len) l) true (0,0,0) []=BB len l:=rfl;rw[e]at d y E;have d:(BB len l).length<=l.length:=by simpa using d
 have y:C8 (BB len l)<=l.length:=by
  have e0:C8 []=0:=rfl;omega
 refine⟨d,y,λx H=>⟨λp I=>?_,?_⟩⟩
 ·rcases E x H p I with h|⟨z,J,-⟩
  ·exact((F4 len).bI l).bw.DG (F4 len) h
  ·cases J
 ·have:=Ot H;omega
section
variable {N ab b a c m B:Nat} {A:Ar} {P:PD} {FT:Nat->Prop}
def SP(hS:Iz N)(hN:N<=134217728)(w:World)(h:AD w ab b A P FT)(a0:∀k,FT k->k<w.heap.size)(Ax:Int)(hw:1<=Ax/\Ax<=4611686018427387904)(aA:(P.Ag A.j.Ah).1.length<=N)(W:∀p∈(P.Ag A.j.Ah).1,Cw p)(aX:0<=A.A9/\A.A9+N<=9223372036854775807)(aN:AE (A.j.A9+1))(aM:∀x∈A.ix.A6,AE x)(hF:Fit P a c m)(L:BL (a+N+2) (c+2*a+2*N+4) (m+29*N+12+8*A.ix.A6.length))(hm:A.j.Ah.length*m<=70368744177664)(hkl:A.ix.A6.length+N<=134217728)(hn:∀n∈A.ix.A6,By n)(aL:∀n∈A.j.Ah,By n)(aY:A.j.Ah.length<=1073741824)(hL:Lets B w)(aP:∀k,FT k->B<=k):
 Ac 68 #[A4 ab,A0 Ax] w (Ak (A0 (A.CB P Ax).1) λw'=>Al w FT w' (λw' z=>AD w' ab b (A.CB P Ax).2.1 (A.CB P Ax).2.2 z)):=by
 obtain⟨xb,jb,sv,ov,lv,jo,Ft,hv,hsub⟩:=id h;have c2:=hv.Ae.c2;have aU:=A1 (Je w hv.dk hv.lt hv.jn hF ⟨by have:=L.a;omega,by have:=L.c;omega,by have:=L.m;omega⟩ hm aL hL);have aG:Hid (A.CB P Ax=if (P.Ag A.j.Ah).2≠0 then ((P.Ag A.j.Ah).2,A,P) else A.ay P A.ix.A6 (BB Ax (P.Ag A.j.Ah).1)):=rfl;have Y:=A1 (JH Ax (P.Ag A.j.Ah).1);generalize hR:A.CB P Ax=R at aG ⊢;generalize hPS:P.Ag A.j.Ah=PS at aU aG Y aA W;obtain⟨ps,pe⟩:=PS;dsimp only at aU aG Y aA W;have H:=A1 h;have a9:=A1 hv;have I:=A1 a0;have aE:=A1 W
 have a1:Hid (∀d kv fv,A2 A7 w d->Cs d kv A.ix.A6->(∀g,kv.oB g->w.heap.size<=g)->K4 d fv (BB Ax ps) FT->pe=0->
  Ac 107 #[A4 ab,kv,fv] d (Ak (A0 R.1) λw'=>Al w FT w' (λw' z=>AD w' ab b R.2.1 R.2.2 z))):=λd kv fv O J aB hf he=>by
  obtain⟨z1,z2,z3⟩:=Y.o;have V:R=A.ay P A.ix.A6 (BB Ax ps):=by rw[aG.o,Ad (by simp[he])]
  rw[V]
  refine(Le d (H.o.an O) (λk J=>Bc (I.o k J) O.Af) kv A.ix.A6 J (λg y=>⟨λU=>by have:=aB g y;have:=I.o g U;omega,Az hL.1 (aB g y)⟩) fv (BB Ax ps) hf
   (λl L=>⟨λp Z=>aE.o p ((z3 l L).1 p Z),by have:=(z3 l L).2;omega⟩) ⟨aX.1,by omega⟩ aN aM hF ⟨by have:=L.a;omega,by have:=L.c;omega,by have:=L.m;omega⟩ (by omega) hn aL hn (by omega) aY (hL.ao O) aP).mono ?_
  rintro e w'⟨h1,h2⟩;exact⟨h1,Al.aZ (O.U λ_ _ h=>h.elim) (λk J=>J.elim .inl λh=>.inr (aB k h)) h2⟩
 have aJ:Hid (∀d,A2 A7 w d->pe≠0->R.1=pe/\Al w FT d (λw' z=>AD w' ab b R.2.1 R.2.2 z)):=λd O he=>by
  have V:R=(pe,A,P):=by rw[aG.o,Am he]
  subst V;exact⟨rfl,O.U λ_ _ h=>h.elim,FT,H.o.an O,λk J=>Bc (I.o k J) O.Af,λk J=>.inl J⟩
 have aQ:Hid (∀d v,AO d v ps->_):=λd v U=>Mx hS hN d v Ax ps aA U (λp Z=>(aE.o p Z).2.1) hw;have aZ:Hid (A.ix.A6.length*8<=140737488355328):=by unfold Hid;omega
 go_enter func68,ntmps68
 go_wp2_with (fail);refine aU.m ?_;rintro e w1⟨v1,rfl,aR,ho1,aD⟩;by_cases Z:pe=0
 case neg=>
  have a3:=A1 (aJ.o w1 aD Z);have hpb:(pe !=0)=true:=by simpa using Z
  go_wp2;go_ret;exact⟨by rw[a3.o.1];rfl,a3.o.2⟩
 case pos=>
  subst Z;have aO:=a9.o.an aD;have d1:=aO.Ae.c1;have d4:=aO.ix.c4;have a6:=A1 (Sl w1 sv A.ix.A6 aO.A6 aZ.o);have a2:=A1 aD;have aK:=A1 aR;go_wp2_with (fail);refine a6.m ?_;rintro e w2⟨v2,rfl,aW,aT,aF⟩;have aI:=A1 aW;have aS:=A1 aT;have aV:Hid (A2 A7 w w2):=a2.o.tr aF;have a8:=A1 (aQ.o w2 v1 (Aq aK.o λg y=>aF.Ao g (Av aK.o y) (λh=>h)));go_wp2_with (fail);refine a8.m ?_;rintro e w3⟨v3,vs,rfl,E,aH⟩;have a4:A2 A7 w w3:=aV.o.tr aH
  have a5:=A1 (a1.o w3 v2 v3 a4 (Aq aI.o λg y=>aH.Ao g (Av aI.o y) (λh=>h)) (λg y=>Az a2.o.Af (aS.o g y))
   ⟨vs,E.BF,E.AU,E.ls,λg y U=>by have:=E.lo g y;have:=I.o g U;have:=aV.o.Af;omega,λx U g y hf=>by have:=E.li x U g y;have:=I.o g hf;have:=aV.o.Af;omega⟩ (by simp))
  go_wp2_with (fail);refine a5.m ?_;rintro e w4⟨rfl,hI⟩;have a7:=A1 hI;go_wp2;go_ret;exact⟨rfl,a7.o⟩
end
def Mm{n:Int}(h:isNum n=true):1<=n/\n<=4611686018427387904:=by
 unfold isNum at h;simpa using h
def Ie{P:PD}{ix:Ix}(h:P.aT=some ix):(1<=ix.BR/\ix.BR<=4611686018427387904)/\∀n∈ix.A6,1<=n/\n<=4611686018427387904:=by
 unfold PD.aT indexOf at h;split at h
 ·cases h;exact⟨⟨by decide,by decide⟩,λn y=>by cases y⟩
 ·split at h
  ·cases h
  ·rename_i z;split at h
   ·cases h
   ·rename_i d;split at h
    ·cases h;(have d:(Dw (P.aO AF).1).all isNum=true:=by simpa using d);rw[Kl]at d;generalize hi:Dw (P.aO AF).1=l at *;cases l with
     | nil=>simp at z
     | cons x r=>exact⟨Mm (d x Ce),λn y=>Mm (d n (BK _ y))⟩
    ·cases h
def L7:∀(k:Nat) (l:Bs) (r:List Pu×Bs),Dj k l=some r->r.1.length<=l.length
 | 0,l,r,h=>by cases h;exact CL _
 | k+1,l,r,h=>by
  unfold Dj at h;split at h
  ·cases h;exact CL _
  ·rename_i hl;split at h
   ·cases hx:Dj k (l.drop 17) with
    | none=>rw[hx]at h;cases h
    | some q=>
     rw[hx]at h;cases h;have:=L7 k (l.drop 17) q hx;simp only[Cr];rw[CS]at this;omega
   ·cases h
def OT{P:PD}{a c m:Nat}(d:Fit P a c m){n:Int}{l:List Pu}(h:P.CY n=some l):l.length<=m:=by
 unfold PD.CY FZ at h;split at h
 ·cases h
 ·cases hx:Dj (P.aO (AJ n)).1.length (P.aO (AJ n)).1 with
  | none=>rw[hx]at h;cases h
  | some q=>
   rw[hx]at h;dsimp only at h;split at h
   ·cases h;exact Az (L7 _ _ q hx) (Lk d _)
   ·cases h
def J7{P:PD}{a c m:Nat}(H:Fit P a c m):∀(E:List Int) (l:List (Int×List Pu)),P.A6 E=some l->l.length=E.length/\∀x∈l,x.2.length<=m
 | [],l,h=>by cases h;exact⟨rfl,λx z=>by cases z⟩
 | n::r,l,h=>by
  unfold PD.A6 at h;cases z:P.CY n with
  | none=>rw[z]at h;cases h
  | some q=>
   rw[z]at h;dsimp only at h;cases hy:P.A6 r with
   | none=>rw[hy]at h;cases h
   | some y=>
    rw[hy]at h;cases h;obtain⟨J,I⟩:=J7 H r y hy;refine⟨by simp[J],λx d=>?_⟩;rcases Cf.1 d with rfl|d
    ·exact OT H z
    ·exact I x d
def E1(l:List Bs):List Int:=l.filterMap λnm=>if (Bg nm).1=2 then some (Bg nm).2 else none
def OW(a b:List Bs):E1 (a++b)=E1 a++E1 b:=by simp[E1]
def CM(w:World)(ab b xb:Nat)(last:Int):Prop:=w.heap[ab]?=some (.cells #[.pointer (some ⟨b,0,none⟩),.pointer (some ⟨xb,0,none⟩),.pointer none,.int .i64 last,.slice none 0 0] 150 (0,0))
section
variable {w w':World} {ab b xb:Nat} {last:Int}
def CM.c0(h:CM w ab b xb last):A5 w ab 0 (A4 b):=by unfold CM at h;simp[A5,World.cell?,h]
def CM.c1(h:CM w ab b xb last):A5 w ab 1 (A4 xb):=by unfold CM at h;simp[A5,World.cell?,h]
def CM.c2(h:CM w ab b xb last):A5 w ab 2 (.pointer none):=by unfold CM at h;simp[A5,World.cell?,h]
def CM.c3(h:CM w ab b xb last):A5 w ab 3 (A0 last):=by unfold CM at h;simp[A5,World.cell?,h]
def CM.fz(h:CM w ab b xb last)(o:Nat):w.frozen? (A8 ab o)=false:=by unfold CM at h;simp[World.frozen?,h]
def CM.s3(h:CM w ab b xb last)(x:Int):CM (w.setCell (A8 ab 3) (A0 x)) ab b xb x:=Ca h
def CM.s2(h:CM w ab b xb last)(d:Nat):C0 (w.setCell (A8 ab 2) (A4 d)) ab b xb d last (.slice none 0 0):=Ca h
def CM.dB(h:CM w ab b xb last):ab<w.heap.size:=CD h
def CM.Ap{S:Nat->Prop}(h:CM w ab b xb last)(d:A2 S w w')(y:¬S ab):CM w' ab b xb last:=d.Ap h y
end
def Ef.dN{S:Nat->Prop}{w w':World}{E b:Nat}{v:Value}{l:List (Int×List Pu)}(h:Ef w E b v l)(I:A2 S w w')(H:∀k,S k->k<E):Ef w' E b v l:=by
 obtain⟨z,W,J,L,U⟩:=h;refine⟨z,W,Aq J λg d=>I.Ao g (Av J d) λy=>by have:=H g y;have:=L g d;omega,L,λk V Y=>?_⟩;obtain⟨O,s1,s2,s3,s4⟩:=U k V Y;exact⟨O,s1.Ap I (λy=>by have:=H _ y;omega),Aq s2 λg d=>I.Ao g (Av s2 d) λy=>by have:=H g y;have:=s4 g d;omega,s3,s4⟩
section
variable {b a c m B:Nat} {P:PD} {Ft:Nat->Prop}
def Qb(h:P.aT=none):Ar.aP P=.error 7:=by unfold Ar.aP;rw[h]
def Qe{ix:Ix}(h:P.aT=some ix)(d:P.ad.any (λnm=>decide ((Bg nm).1=0))=true):Ar.aP P=.error 7:=by
 unfold Ar.aP;rw[h];dsimp only;rw[Am d]
def Q8{ix:Ix}(h:P.aT=some ix)(d:P.ad.any (λnm=>decide ((Bg nm).1=0))=false)(y:P.A6 ix.A6=none):Ar.aP P=.error 7:=by
 unfold Ar.aP;rw[h];dsimp only;rw[Ad (by simp[d]),y]
def Q9{ix:Ix}{l:List (Int×List Pu)}(h:P.aT=some ix)(y:P.ad.any (λnm=>decide ((Bg nm).1=0))=false)(z:P.A6 ix.A6=some l)(d:(P.Ag (Bn ix.BR P.ad)).2≠0):Ar.aP P=.error (P.Ag (Bn ix.BR P.ad)).2:=by
 unfold Ar.aP;rw[h];dsimp only;rw[Ad (by simp[y]),z];dsimp only;rw[Am d]
def Ar.Bq(P:PD)(ix:Ix):Ar:=⟨ix,P.bC ix.BR,(E1 P.ad).getLastD 0,[]⟩
def Qa{ix:Ix}{l:List (Int×List Pu)}(h:P.aT=some ix)(y:P.ad.any (λnm=>decide ((Bg nm).1=0))=false)(z:P.A6 ix.A6=some l)(d:(P.Ag (Bn ix.BR P.ad)).2=0):
 Ar.aP P=.ok ({Ar.Bq P ix with AS:=(Ar.Bq P ix).aQ P},l.flatMap (·.2)++(P.Ag (Bn ix.BR P.ad)).1):=by
 unfold Ar.aP;rw[h];dsimp only;rw[Ad (by simp[y]),z];dsimp only;rw[Ad (by simp[d])];rfl
def SO(w:World)(h:B4 w b P Ft)(U:∀k,Ft k->k<w.heap.size)(hF:Fit P a c m)(hl:BL a c m)(dM:a*m<=70368744177664)(hL:Lets B w)(hE:Fg w)(cM:∀nm∈P.ad,nm.length<=281474976710656)(aK:∀ix,P.aT=some ix->ix.A6.length<=1073741824/\ix.A6.length*m<=4398046511104)(bQ:∀bG,(P.Ag (Bn bG P.ad)).1.length<=1099511627776):
 Ac 59 #[A4 b] w λe w'=>
  (∃n,Ar.aP P=.error n/\e=.returned (.tuple #[.pointer none,.slice none 0 0,A0 n])/\A2 A7 w w')\/
  (∃A ps ab v FT,Ar.aP P=.ok (A,ps)/\e=.returned (.tuple #[A4 ab,v,A0 0])/\AO w' v ps/\AD w' ab b A P FT/\(∀k,FT k->Ft k\/w.heap.size<=k)/\(∀k,FT k->k<w'.heap.size)/\(∀g,v.ownBlock=some g->¬FT g/\w.heap.size<=g)/\A2 A7 w w'):=by
 obtain⟨i0,hi,dK,eE,dY⟩:=Dr FK;have eT:=A1 (Pz w h U hF hl hL);have eX:Hid (∀d,A2 A7 w d->Ac 76 #[A4 b] d λe w'=>∃v,e=.returned v/\Cl w' v P.ad/\A2 A7 d w'/\(∀g,v.ownBlock=some g->d.heap.size<=g)):=λd V=>Jt (AP.au h U V) hF hl;have eV:Hid (∀d,A2 A7 w d->∀nm∈P.ad,Ac 97 #[.string ⟨nm.toArray⟩] d (Ak (.tuple #[A0 (Bg nm).1,A0 (Bg nm).2]) λw'=>A2 A7 d w')):=λd V nm hm=>LR d nm (cM nm hm) (hE.ao V) (hL.ao V);have bL:P.ad.length<=a:=by rw[GA];exact hF.A3
 have bR:P.ad.length<=1073741824:=Az bL hl.a;have eW:Hid (∀ix,P.aT=some ix->∀d ab xb sv,A2 A7 w d->A5 d ab 0 (A4 b)->A5 d ab 1 (A4 xb)->A5 d xb 4 sv->C4 d sv ix.A6->_):=
  λix L d ab xb sv V h0 h1 h4 hs=>L3 (ab:=ab) (xb:=xb) (sv:=sv) d ix.A6 h0 h1 h4 hs (AP.au h U V) (λk z=>Bc (U k z) V.Af) hF hl (λn hn=>by have:=(Ie L).2 n hn;exact Fo (by omega) this.2) (aK ix L).1 (hL.ao V)
 have eY:Hid (∀ix,P.aT=some ix->∀d,A2 A7 w d->_):=λix L d V=>R1 d (AP.au h U V) (λk z=>Bc (U k z) V.Af) hF hl dM (Ie L).1 (hL.ao V) (hE.ao V) cM;have e2:Hid (∀ix,P.aT=some ix->∀d ab xb Y sv lv,A2 A7 w d->Bu d ab b xb Y sv (.slice none 0 0) lv (.pointer none) (Ar.Bq P ix) P Ft->_):=λix L d ab xb Y sv lv V hv=>
  Lz d hv hF hl (λn hn=>by have:=(Ie L).2 n hn;exact Fo (by omega) this.2) (λn hn=>by obtain⟨_,h2,_⟩:=M8 hn;exact Fo (by omega) h2.2) (aK ix L).1 (Az (Js _ _) bR) (hL.ao V)
 have e0:Hid (∀ix,P.aT=some ix->∀l,P.A6 ix.A6=some l->∀d dD v,Ef d dD b v l->(Ac 101 #[v] d λe w'=>∃v',e=.returned v'/\AO w' v' (l.flatMap (·.2))/\(∀g,v'.ownBlock=some g->d.heap.size<=g)/\A2 A7 d w')/\(l.flatMap (·.2)).length<=4398046511104):=λix L l hs d dD v hv=>by
  obtain⟨s1,s2⟩:=J7 hF ix.A6 l hs;refine⟨Ly d dD v l hv (by rw[s1];exact(aK ix L).1) s2 (by rw[s1];exact(aK ix L).2),Az ?_ (aK ix L).2⟩;rw[<-s1];clear hs s1 hv
  induction l with
  | nil=>exact CL _
  | cons x r ih=>
   have:=ih (λy hy=>s2 y (BK _ hy));have:=s2 x Ce;rw[Kj,B2,Cr,ID];omega
 have eL:=A1 (Qb (P:=P));have eJ:=A1 (λix=>Qe (P:=P) (ix:=ix));have eP:=A1 (λix=>Q8 (P:=P) (ix:=ix));have eO:=A1 (λix l=>Q9 (P:=P) (ix:=ix) (l:=l));have eM:=A1 (λix l=>Qa (P:=P) (ix:=ix) (l:=l));have dV:=A1 bQ;have eN:Hid (∀d,A2 A7 w d->B4 d b P Ft):=λd V=>AP.au h U V;have aT:=A1 U;have FIX:=A1 (λ(ix:Ix) (L:P.aT=some ix)=>(Ie L).1);generalize hO:Ar.aP P=O at eL eJ eP eO eM ⊢
 go_enter func59,ntmps59
 go_wp2_with (fail);refine eT.m ?_;rintro e d (⟨L,rfl,hc1⟩|⟨ix,xb,sv,L,rfl,hfx,hsv,hso,hxb,hc1⟩)
 ·have aS:=A1 (eL.o L);have dN:=A1 hc1;go_wp2;go_ret3;exact .inl ⟨7,aS.o,rfl,dN.o⟩
 have dZ:CM (d.aC #[A4 b,A4 xb,.pointer none,A0 0,.slice none 0 0] 150) d.heap.size b xb 0:=Bw d _;have eR:Hid (A2 A7 d (d.aC #[A4 b,A4 xb,.pointer none,A0 0,.slice none 0 0] 150)):=(A2.C _ d).ae _;have cO:=A1 hc1;have eD:=A1 (eX.o _ (cO.o.tr eR.o));have aS:=A1 L;have bJ:=A1 hfx;have bF:=A1 hsv;have bO:=A1 hso;have aW:=A1 hxb;have dT:=A1 dZ;have cY:Hid (d.heap.size<(d.aC #[A4 b,A4 xb,.pointer none,A0 0,.slice none 0 0] 150).heap.size):=by unfold Hid;simp
 go_wp2_with (fail);refine eD.m ?_;rintro e w2⟨v,rfl,hv,b2,dX⟩;obtain⟨na,cL,rfl,nc1,dH⟩:=(Cl.rd hv).BU;unfold maxLen at dH;have e3:=A1 (Cl.rd hv);have cA:Hid (A2 A7 d w2):=eR.o.tr b2;have eQ:=A1 (dT.o.Ap b2 (λh=>h));have bX:Hid (∀g,(Value.slice na P.ad.length cL).ownBlock=some g->d.heap.size<g):=λg H=>Bc cY.o (dX g H);generalize eB:d.heap.size=ab at eQ bX ⊢;have aI:=A1 eB;go_wp2;go_loopw [30] (λiv wr=>∃k:Nat,iv=A0 k/\k<=P.ad.length/\Hid (CM wr ab b xb ((E1 (P.ad.take k)).getLastD 0)/\(P.ad.take k).any (λnm=>decide ((Bg nm).1=0))=false/\A2 A7 w wr/\A2 (One ab) w2 wr)) (λiv _=>P.ad.length-(intOf iv).toNat)
 case atStart=>exact⟨0,rfl,by omega,eQ.o,by simp,cO.o.tr cA.o,A2.C _ _⟩
 case round=>
  obtain⟨k,rfl,z,hI⟩:=hrel;obtain⟨i1,i2,i3,i4⟩:=hI.o;by_cases aO:k<P.ad.length
  ·obtain⟨g,o,rfl,d1⟩:=Es.at e3.o k aO;have aM:=Cx aO;have bK:P.ad.take (k+1)=P.ad.take k++[P.ad[k]'aO]:=D9 aO;generalize a2:(P.ad[k]'aO)=nm at d1 aM bK;have e1:=i4.bq d1 (λh=>by have h':g=ab:=h;have:=bX.o g rfl;omega);have aQ:=A1 (eV.o wr i3 nm aM);have bM:=LS nm;have aG:Hid ((E1 (P.ad.take (k+1))).getLastD 0=if (Bg nm).1=2 then (Bg nm).2 else (E1 (P.ad.take k)).getLastD 0):=by
    unfold Hid;rw[bK,OW];by_cases V:(Bg nm).1=2
    ·(have e:E1 [nm]=[(Bg nm).2]:=by simp[E1,V]);rw[Am V,e,MC]
    ·(have e:E1 [nm]=[]:=by simp[E1,V]);rw[Ad V,e,EI]
   (have aU:Hid (¬(Bg nm).1=0->(P.ad.take (k+1)).any (λnm=>decide ((Bg nm).1=0))=false):=λhz=>by rw[bK,Tw,i2];simp[hz]);have aN:Hid ((Bg nm).1=0->P.ad.any (λnm=>decide ((Bg nm).1=0))=true):=λhz=>NI.2 ⟨nm,aM,by simp[hz]⟩;generalize hX:Bg nm=X at aQ aG aU aN bM;obtain⟨s,n⟩:=X;dsimp only at aQ aG aU aN bM;obtain⟨r1,r2⟩:=bM;have b0:=A1 i1;have bD:=A1 i3;have dU:=A1 i4;(have dJ:(k:Int)<(P.ad.length:Int):=by omega);have hk0:=C3 k;by_cases bB:s=0
   ·subst bB;have aJ:=A1 (eJ.o ix aS.o (aN.o rfl));go_wp2_with (go_at_call 97;refine aQ.m ?_;rintro e w6⟨rfl,Z⟩;have aE:=A1 Z);go_ret3;exact .inl ⟨7,aJ.o,rfl,bD.o.tr aE.o⟩
   ·(have hsb0:(s==0)=false:=by simpa using bB);by_cases a4:s=2
    ·subst a4;(have bI:Hid ((E1 (P.ad.take (k+1))).getLastD 0=n):=by rw[aG.o,Am rfl];rfl);go_wp2_with (fail);refine aQ.m ?_;rintro e w6⟨rfl,Z⟩;have eA:=b0.o.Ap Z (λh=>h);have g63:=eA.c3;have f63:=eA.fz 3;have dE:=A1 (eA.s3 n);have aE:=A1 Z;go_wp2;go_roundw
     case rel=>
      have k7:A2 (One ab) wr (w6.sC ab 3 (A0 n)):=(aE.o.U (S':=One ab) λ_ _ h=>h.elim).ak (b:=ab) rfl 3 _;exact⟨k+1,by go_num,by omega,by rw[bI.o];exact dE.o,aU.o (by decide),bD.o.As k7 λx L U=>by have e':x=ab:=L;have:=aI.o;have:=cO.o.Af;omega,dU.o.tr k7⟩
     case measure=>simp[intOf];omega
    ·(have hsb2:(s==2)=false:=by simpa using a4);(have bI:Hid ((E1 (P.ad.take (k+1))).getLastD 0=(E1 (P.ad.take k)).getLastD 0):=by rw[aG.o,Ad a4];rfl);have bW:=A1 (aU.o bB);go_wp2_with (go_at_call 97;refine aQ.m ?_;rintro e w6⟨rfl,Z⟩;have aE:=A1 Z);go_roundw
     case rel=>exact⟨k+1,by go_num,by omega,by rw[bI.o];exact b0.o.Ap aE.o (λh=>h),bW.o,bD.o.tr aE.o,dU.o.As aE.o λ_ h _=>h.elim⟩
     case measure=>simp[intOf];omega
  ·(have cX:k=P.ad.length:=by omega);subst cX;rw[CP]at i1 i2;(have dJ:¬((P.ad.length:Int)<(P.ad.length:Int)):=by omega);have b1:A2 (One ab) d wr:=(cA.o.U (S':=One ab) λ_ _ h=>h.elim).tr i4;(have b3:xb≠ab:=by have:=bJ.o.lt;have:=aI.o;omega);have bV:=bJ.o.Ap b1 b3;(have cH:C4 wr sv ix.A6:=Cq.Aj bF.o b1 λg H h=>by have h':g=ab:=h;have:=Cq.lt bF.o H;have:=aI.o;omega);have eG:=A1 (eW.o ix aS.o wr ab xb sv i3 i1.c0 i1.c1 bV.c4 cH);have b0:=A1 i1;have eF:=A1 i2;have bD:=A1 i3;have dU:=A1 i4;have bY:=A1 b3;have cB:=A1 bV;have dS:=A1 cH;have cN:Hid (ab<wr.heap.size):=b0.o.dB;go_wp2_with (fail);refine eG.m ?_;rintro e w3 (⟨hs,rfl,hc3⟩|⟨l,v3,hs,rfl,hv3,hc3⟩)
   ·have aJ:=A1 (eP.o ix aS.o eF.o hs);have aF:=A1 hc3;go_wp2;go_ret3;exact .inl ⟨7,aJ.o,rfl,bD.o.tr aF.o⟩
   have d3:=(cB.o.Ap hc3 (λh=>h)).c3;have aL:=A1 hs;have cU:=A1 hv3;have aF:=A1 hc3;have cZ:Hid (A2 A7 w w3):=bD.o.tr hc3;have eH:=A1 (eY.o ix aS.o w3 cZ.o);have eI:=A1 (eO.o ix l aS.o eF.o aL.o);have dQ:=A1 (eM.o ix l aS.o eF.o aL.o);have cF:=A1 (dV.o ix.BR);go_wp2_with (fail);refine eH.m ?_;rintro e w4 (⟨hp,rfl,hc4⟩|⟨hp,Y,lv,v4,rfl,hj,hv4,hjf,hvo4,hc4⟩)
   ·have aJ:=A1 (eI.o hp);have a7:=A1 hc4;generalize (P.Ag (Bn ix.BR P.ad)).2=E at hp aJ ⊢;(have bQ:(E !=0)=true:=by simpa using hp);go_wp2;go_ret3;exact .inl ⟨E,aJ.o,rfl,cZ.o.tr a7.o⟩
   have dI:=A1 (dQ.o hp);have hpe:(P.Ag (Bn ix.BR P.ad)).2=0:=hp;have b4:=b0.o.Ap (aF.o.tr hc4) (λh=>h);have g42:=b4.c2;have f42:=b4.fz 2;have eS:=A1 (b4.s2 Y);have aP:A2 (One ab) w4 (w4.sC ab 2 (A4 Y)):=(A2.C (One ab) w4).ak (b:=ab) rfl 2 _;have cJ:A2 (One ab) w3 (w4.sC ab 2 (A4 Y)):=(hc4.U (S':=One ab) λ_ _ h=>h.elim).tr aP;have bP:A2 (One ab) wr (w4.sC ab 2 (A4 Y)):=(aF.o.U (S':=One ab) λ_ _ h=>h.elim).tr cJ;(have bU:w.heap.size<=ab:=by have:=aI.o;have:=cO.o.Af;omega);(have cP:A2 A7 w (w4.sC ab 2 (A4 Y)):=bD.o.As bP λx L U=>by have e':x=ab:=L;omega);have hr3:wr.heap.size<=w3.heap.size:=aF.o.Af;(have aA:∀g,sv.ownBlock=some g->g<ab:=λg H=>by have:=Cq.lt bF.o H;have:=aI.o;omega);(have bA:xb<ab:=by have:=bJ.o.lt;have:=aI.o;omega);(have W:∀k,C9 Y lv (.pointer none) k->ab<k:=λk z=>by have:=hjf k z;have:=cN.o;omega);(have j5:Cy (w4.sC ab 2 (A4 Y)) Y b lv (.pointer none) (P.bC ix.BR):=hj.Aj aP λk z h=>by have e':k=ab:=h;have:=W k z;omega);have eK:Bu (w4.sC ab 2 (A4 Y)) ab b xb Y sv (.slice none 0 0) lv (.pointer none) (Ar.Bq P ix) P Ft:=
    ⟨eS.o,cB.o.Ap bP bY.o,Cq.Aj dS.o bP (λg H h=>by have e':g=ab:=h;have:=aA g H;omega),Cq.bx,j5,eN.o _ cP,λk z=>Bc (aT.o k z) cP.Af,
     λk z hf=>by
      have h0:=aT.o k hf;rcases z with rfl|rfl|z|z|z
      ·omega
      ·have:=aW.o;omega
      ·have:=bO.o k z;have:=aW.o;omega
      ·simp[Value.ownBlock]at z
      ·have:=W k z;omega,
     λg H=>⟨by have:=aA g H;omega,by have:=bO.o g H;omega,λh=>by have:=W g h;have:=aA g H;omega⟩,
     λg H=>by simp[Value.ownBlock]at H,
     λk z=>⟨by have:=W k z;omega,by have:=W k z;omega⟩⟩
   have dC:=A1 (e2.o ix aS.o _ ab xb Y sv lv cP eK);have aR:=A1 eK;have cE:=A1 hv4;have aZ:=A1 hvo4;have a7:=A1 hc4;have cV:=A1 cJ;have dA:=A1 cP;have aB:=A1 bU;have bN:=A1 aA;have bC:=A1 bA;have a0:=A1 W;obtain⟨bS,b9,rfl,v41,eC,-⟩:=AR hv4;unfold maxLen at eC;go_wp2_with (fail);refine dC.m ?_;rintro e w6⟨v5,v6,rfl,b5,-,bT,-,Z⟩;obtain⟨J,I,rfl,v51,dR,-⟩:=AR b5;unfold maxLen at dR;have b6:=eS.o.Ap Z (λh=>h);have g64:=b6.c4;have f64:=b6.fz 4;have dE:=A1 (b6.s4 (Value.slice J ((Ar.Bq P ix).aQ P).length I));have aP:A2 (One ab) w6 (w6.sC ab 4 (Value.slice J ((Ar.Bq P ix).aQ P).length I)):=(A2.C (One ab) w6).ak (b:=ab) rfl 4 _;have aH:A2 (One ab) (w4.sC ab 2 (A4 Y)) (w6.sC ab 4 (Value.slice J ((Ar.Bq P ix).aQ P).length I)):=(Z.U (S':=One ab) λ_ _ h=>h.elim).tr aP;(have bH:A2 A7 w (w6.sC ab 4 (Value.slice J ((Ar.Bq P ix).aQ P).length I)):=dA.o.As aH λx L U=>by have e':x=ab:=L;have:=aB.o;omega);(have h45:w4.heap.size<=(w4.sC ab 2 (A4 Y)).heap.size:=by simp);(have aD:∀g,(Value.slice J ((Ar.Bq P ix).aQ P).length I).ownBlock=some g->w4.heap.size<=g:=λg H=>by have:=bT g H;omega);(have h34:ab<w4.heap.size:=by have:=cN.o;have:=aF.o.Af;have:=a7.o.Af;omega);have eZ:Bu (w6.sC ab 4 (Value.slice J ((Ar.Bq P ix).aQ P).length I)) ab b xb Y sv (Value.slice J ((Ar.Bq P ix).aQ P).length I) lv (.pointer none) {Ar.Bq P ix with AS:=(Ar.Bq P ix).aQ P} P Ft:=
    ⟨dE.o,aR.o.ix.Ap aH bY.o,Cq.Aj aR.o.A6 aH (λg H h=>by have e':g=ab:=h;have:=bN.o g H;omega),
     Cq.Aj (Cl.rd b5) aP (λg H h=>by have e':g=ab:=h;have:=aD g H;omega),
     aR.o.jn.Aj aH (λk z h=>by have e':k=ab:=h;have:=a0.o k z;omega),eN.o _ bH,λk z=>Bc (aT.o k z) bH.Af,
     λk z hf=>by
      rcases z with h|h|h|h|h
      ·exact aR.o.Cg k (.inl h) hf
      ·exact aR.o.Cg k (.inr (.inl h)) hf
      ·exact aR.o.Cg k (.inr (.inr (.inl h))) hf
      ·have:=aD k h;have:=aT.o k hf;have:=aB.o;omega
      ·exact aR.o.Cg k (.inr (.inr (.inr (.inr h)))) hf,
     aR.o.DP,
     λg H=>⟨by have:=aD g H;omega,by have:=aD g H;have:=bC.o;omega,λh=>by have:=bT g H;have:=aR.o.jn.lt h;omega⟩,
     aR.o.E0⟩
   have cC:Hid (∀k,El ab xb Y sv (Value.slice J ((Ar.Bq P ix).aQ P).length I) lv (.pointer none) k->w.heap.size<=k):=λk z=>by
    rcases z with rfl|rfl|h|h|h
    ·exact aB.o
    ·exact aW.o
    ·have:=bO.o k h;have:=aW.o;omega
    ·have:=aD k h;have:=aB.o;omega
    ·have:=a0.o k h;have:=aB.o;omega
   have dL:A2 (One ab) w3 (w6.sC ab 4 (Value.slice J ((Ar.Bq P ix).aQ P).length I)):=cV.o.tr aH;have a5:=e0.o ix aS.o l aL.o (w6.sC ab 4 (Value.slice J ((Ar.Bq P ix).aQ P).length I)) wr.heap.size v3 (cU.o.dN dL λk z=>by have e':k=ab:=z;have:=cN.o;omega);have a1:=dI.o;generalize hPL:l.flatMap (·.2)=PL at a5 a1;have cQ:=A1 a1;have dB:=A1 a5.1;have dO:=A1 a5.2;have bZ:=A1 eZ;have bE:=A1 bH;have aX:Hid (AO (w6.sC ab 4 (Value.slice J ((Ar.Bq P ix).aQ P).length I)) (.slice bS (P.Ag (Bn ix.BR P.ad)).1.length b9) (P.Ag (Bn ix.BR P.ad)).1):=Aq cE.o λg H=>by
    have h1:=aZ.o g H;have hlt4:=Av cE.o H;(have a2:g≠ab:=by have:=cN.o;have:=aF.o.Af;omega);have e1:=aH.Ao g (by omega) (λh=>a2 h);rw[e1];exact EV _ _ _ _ (λe=>a2 e)
   (have HO47:Hid (∀g,(Value.slice bS (P.Ag (Bn ix.BR P.ad)).1.length b9).ownBlock=some g->w.heap.size<=g):=λg H=>by have:=aZ.o g H;have:=cZ.o.Af;omega);go_wp2_with (fail);refine dB.m ?_;rintro e w8⟨v8,rfl,cD,cS,b7⟩;obtain⟨a8,a6,rfl,v81,dP,-⟩:=AR cD;unfold maxLen at dP;have dW:=A1 cD;have a3:=A1 cS;have cG:=A1 b7;have cI:=A1 (Src.bo underlying97 (Aq aX.o λg H=>b7.Ao g (Av aX.o H) (λh=>h)) (FE (P.Ag (Bn ix.BR P.ad)).1));(have cT:Hid ((PL.length+(P.Ag (Bn ix.BR P.ad)).1.length)*24<=140737488355328):=by have:=dO.o;have:=cF.o;unfold Hid;omega);go_wp2_with (at_builtin;refine C7 rfl (.tmp 84) (.tmp 85) 97 97 rfl 113 i0 _ 3 24 underlying97 hi dK eE dY rfl (by decide) (.slice a8 PL.length a6) PL.length (Bv PL) (by rfl) dW.o _ (P.Ag (Bn ix.BR P.ad)).1.length _ (by rfl) cI.o cT.o ?_;intro a9 b8 w9 hA;have eU:=A1 hA);go_ret3;have hA:=eU.o;have dF:=hA.Aj (S:=λk=>(Value.slice a8 PL.length a6).ownBlock=some k) λ_ h=>h;have aV:A2 (λk=>(Value.slice a8 PL.length a6).ownBlock=some k) (w6.sC ab 4 (Value.slice J ((Ar.Bq P ix).aQ P).length I)) w9:=(cG.o.U λ_ _ h=>h.elim).tr dF;have dG:=cG.o.Af;have aY:∀g,(Value.slice a9 (PL.length+(P.Ag (Bn ix.BR P.ad)).1.length) b8).ownBlock=some g->(w6.sC ab 4 (Value.slice J ((Ar.Bq P ix).aQ P).length I)).heap.size<=g:=λg H=>by
    rcases hA.BJ with h|h
    ·rw[h]at H;exact a3.o g H
    ·rw[h]at H;cases H;exact dG
   refine .inr ⟨_,_,ab,_,λk=>Ft k\/El ab xb Y sv (Value.slice J ((Ar.Bq P ix).aQ P).length I) lv (.pointer none) k,cQ.o,rfl,?_,⟨xb,Y,sv,(Value.slice J ((Ar.Bq P ix).aQ P).length I),lv,.pointer none,Ft,bZ.o.aq (λk z=>aV.Ao k (bZ.o.by z) λh=>by have:=a3.o k h;have:=bZ.o.by z;omega) aV.Af,λ_ h=>h⟩,λk z=>?_,λk z=>Bc (bZ.o.by z) aV.Af,λg H=>⟨λhf=>?_,?_⟩,?_⟩
   ·(have e:(PL++(P.Ag (Bn ix.BR P.ad)).1).length=PL.length+(P.Ag (Bn ix.BR P.ad)).1.length:=by simp);unfold AO;rw[G1,e];exact hA.AA
   ·rcases z with z|z
    ·exact .inl z
    ·exact .inr (cC.o k z)
   ·have:=aY g H;have:=bZ.o.by hf;omega
   ·have:=aY g H;have:=bE.o.Af;omega
   ·exact bE.o.As aV λx L U=>by have:=a3.o x L;have:=bE.o.Af;omega
end
section
def OL(w:World)(E:Nat)(oldest:Int)(p:Pu)(H:A5 w E 0 (A0 oldest)):
 Ac 111 #[CH p,A4 E] w (Ak (.bool (decide (oldest<=p.2.1))) λw'=>A2 A7 w w'):=by
 obtain⟨y,z,h⟩:=p;unfold CH;dsimp only
 have d:Bk (w.aC #[A0 y,A0 z,A0 h] 113) w.heap.size y z h:=Bw w _;have k:A2 A7 w (w.aC #[A0 y,A0 z,A0 h] 113):=(A2.C _ w).ae _;have c1:=d.c1;have hw2:=k.af H;have K:=A1 k
 go_enter func111,ntmps111
 go_wp2;go_ret;exact⟨rfl,K.o⟩
def Rv(w:World)(v:Value)(l:List Pu)(h:AO w v l)(ob:Nat)(oldest:Int)(hw:A5 w ob 0 (A0 oldest)):
 Ac 159 #[v,.func (Fn.func 111) #[] #[A4 ob]] w λe w'=>∃i:Int,e=.returned (A0 i)/\decide (0<=i)=l.any (λp=>decide (oldest<=p.2.1))/\A2 A7 w w':=by
 obtain⟨va,vcap,rfl,v1,v2,v3,-⟩:=AR h;unfold maxLen at v2;have H:=A1 h;have aH:=A1 hw;have aG:=A1 v3
 go_enter func159,ntmps159
 go_wp2;go_loopw [8] (λiv wr=>∃k:Nat,iv=A0 k/\k<=l.length/\Hid ((l.take k).any (λp=>decide (oldest<=p.2.1))=false/\A2 A7 w wr)) (λiv _=>l.length-(intOf iv).toNat)
 case atStart=>exact⟨0,rfl,by omega,by simp,A2.C _ _⟩
 case round=>
  obtain⟨k,rfl,hk,hI⟩:=hrel;obtain⟨V,I⟩:=hI.o;by_cases y:k<l.length
  ·obtain⟨g,rfl⟩:=aG.o (by omega);obtain⟨q1,q2,q3⟩:=Fl l k y;have L:l.take (k+1)=l.take k++[l[k]'y]:=D9 y;have z:=Cx y;generalize hp:(l[k]'y)=p at q1 q2 q3 L z;have e1:=I.af (Be H.o rfl q1);have e2:=I.af (Be H.o rfl q2);have e3:=I.af (Be H.o rfl q3);have O:=A1 (OL wr ob oldest p (I.af aH.o));have U:=A1 I;(have aE:Hid (decide (oldest<=p.2.1)=false->(l.take (k+1)).any (λp=>decide (oldest<=p.2.1))=false):=λh=>by rw[L,Tw,V];simp at h ⊢;exact h);have aD:Hid (decide (oldest<=p.2.1)=true->l.any (λp=>decide (oldest<=p.2.1))=true):=λh=>NI.2 ⟨p,z,h⟩;generalize hd:decide (oldest<=p.2.1)=d at O aE aD;obtain⟨p1,p2,p3⟩:=p;unfold CH at O;dsimp only at e1 e2 e3 O;(have W:(k:Int)<(l.length:Int):=by omega);have Z:=C3 k;cases d with
   | true=>
    have aA:=A1 (aD.o rfl);go_wp2_with (fail);refine O.m ?_;rintro e w6⟨rfl,J⟩;have E:=A1 J;go_wp2;go_ret;exact⟨_,rfl,by rw[aA.o];exact Cc Z,U.o.tr E.o⟩
   | false=>
    have aB:=A1 (aE.o rfl);go_wp2_with (fail);refine O.m ?_;rintro e w6⟨rfl,J⟩;have E:=A1 J;go_wp2;go_roundw
    case rel=>exact⟨k+1,by go_num,by omega,aB.o,U.o.tr E.o⟩
    case measure=>simp[intOf];omega
  ·(have Y:k=l.length:=by omega);subst Y;rw[CP]at V;have aF:=A1 V;have U:=A1 I;(have W:¬((l.length:Int)<(l.length:Int)):=by omega);clear hI V I;go_wp2;go_ret;exact⟨_,rfl,by rw[aF.o];rfl,U.o⟩
def S9(w:World)(v:Value)(l:List Pu)(h:AO w v l)(y:Nat)(oldest:Int)(I:A5 w y 0 (A0 oldest)):
 Ac 110 #[v,.func (Fn.func 111) #[] #[A4 y]] w (Ak (.bool (l.any (λp=>decide (oldest<=p.2.1)))) λw'=>A2 A7 w w'):=by
 have z:=A1 (Rv w v l h y oldest I);obtain⟨va,vcap,rfl,v1,v2,-⟩:=AR h;generalize hd:l.any (λp=>decide (oldest<=p.2.1))=d at z ⊢
 go_enter func110,ntmps110
 go_wp2_with (fail);refine z.m ?_;rintro e w1⟨i,rfl,J,L⟩;have E:=A1 J;have H:=A1 L;go_wp2;go_ret;exact⟨by rw[<-E.o];rfl,H.o⟩
end
end
end Go.Proofs.YtodcnkbblippnaaGreatDoor
