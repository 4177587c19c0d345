/- Part 21 of a proof: walks of the program. -/
import Derived.Test.YtodcnkbblippnabGreatDoorPart20
namespace Go.Proofs.YtodcnkbblippnabGreatDoor
set_option maxRecDepth 100000
set_option maxHeartbeats 32000000
set_option linter.defProp false
open Go.Proofs.Tryz
section
open Go.RowKit
structure CN (a c m:Nat):Prop where
 a:a<=1073741824
 c:c<=1000000000000
 m:m<=4294967296
def Fit.ec{P:PD}{a c m:Nat}(h:Fit P a c m)(z:CN a c m):B6 P.F P.D.A6<=4611686018427387904:=
 AH h.cg (AH (HN z.a z.m) (by decide))
def JQ{P:PD}{a c m:Nat}(h:Fit P a c m)(nm:ByteArray):(Ct P.D P.F nm).1<=m:=by
 unfold Ct;cases hx:lookup P.D.A6 nm with
 | none=>simp
 | some f=>have:=h.Bi f (FK hx);simp;omega
section
variable{w:World}{b fb:Nat}{P:PD}{Ft:Nat->Prop}{T:TypeId}{name:ByteArray}{s a c m:Nat}
def A1p(O:Be w fb T (A7 b) name s)(h:Bh w b P Ft)(I:Fit P a c m)(H:CN a c m):
 Aj 202 #[A7 fb] w (Au (A0 (P.af name).1) λw'=>Ax w Ft w' (λw' z=>Bh w' b (P.af name).2 z)):=
 TY O h P.D.AS P.D.b3 (by have:=I.A6;have:=I.An;have:=H.a;have:=H.c;omega)
def VV(H:Be w fb T (A7 b) name s)(h:Bh w b P Ft):
 Aj 116 #[A7 fb] w (Au (A0 (P.aq name).1) λw'=>Ax w Ft w' (λw' z=>Bh w' b (P.aq name).2 z)):=VR H h
def Je(w:World)(Ft:Nat->Prop)(fb:Nat)(w':World)(b:Nat)(P:PD):Prop:=Ki w Ft fb w' b P.D P.F
def A2C(H:Be w fb T (A7 b) name s)(W:s<4294967296)(h:Bh w b P Ft)(I:∀k,Ft k->k<w.heap.size)(Y:¬Ft fb)(l:Bs)(hll:l.length<=4294967296)(z:Fit P a c m)(O:CN a c m):
 Aj 192 #[A7 fb,.string ⟨l.toArray⟩] w (Au (.tuple #[.bool (P.I name s l).1,A0 (P.I name s l).2.1]) λw'=>Be w' fb T (A7 b) name (AV s l)/\Je w Ft fb w' b (P.I name s l).2.2):=by
 have hm:=O.m;have hp:(AT s l).length=l.length+4:=by simp[AT,Hd]
 have X:=z.al name (AT s l);have hz:=JQ X name;have hz2:=JQ z name
 exact addF H W h I Y l z.B1 (z.ec O) z.BA (λf H=>by have:=z.Bi f (FK H);omega) (by omega) ⟨by
  show (Ct (P.al name (AT s l)).2.D (P.al name (AT s l)).2.F name).1<=_;omega,by omega⟩
def PN(nm l:Bs)(hs:s<4294967296)(h:Bh w b P Ft)(aB:∀k,Ft k->k<w.heap.size)(aM:l.length<=4294967296)(hF:Fit P a c m)(hl:CN (a+1) (c+1) m):
 Aj 161 #[.agg #[A7 b,.string ⟨nm.toArray⟩,.int .u32 s],.string ⟨l.toArray⟩] w (Au (A0 (P.aH nm s l).1) λw'=>Ax w Ft w' (λw' aE=>Bh w' b (P.aH nm s l).2 aE)):=by
 have aN:CN a c m:=⟨by have:=hl.a;omega,by have:=hl.c;omega,hl.m⟩;have aI:Be (w.aC #[A7 b,.string (A9 nm),.int .u32 s] 119) w.heap.size 119 (A7 b) (A9 nm) s:=BN w _;have k0:A5 Ab w (w.aC #[A7 b,.string (A9 nm),.int .u32 s] 119):=(A5.C _ w).aj _;have h0:Bh (w.aC #[A7 b,.string (A9 nm),.int .u32 s] 119) b P Ft:=B5.az h aB k0;have CR:=A4 (A1p aI h0 hF aN);have AD:Hid (∀I,Be I w.heap.size 119 (A7 b) (A9 nm) s->∀z,Bh I b (P.af (A9 nm)).2 z->(∀k,z k->k<I.heap.size)->¬z w.heap.size->_):=λI q1 z q2 q3 q4=>A2C q1 hs q2 q3 q4 l aM (hF.af (A9 nm)) hl;have aF:Hid (∀I,Be I w.heap.size 119 (A7 b) (A9 nm) (AV s l)->∀z,Bh I b ((P.af (A9 nm)).2.I (A9 nm) s l).2.2 z->_):=λI q1 z q2=>VV q1 q2;have aT:=A4 aI;have a2:=A4 k0;have aH:=A4 aB
 have W:Hid (P.aH nm s l=if (P.af (A9 nm)).1≠0 then P.af (A9 nm) else
  if ((P.af (A9 nm)).2.I (A9 nm) s l).2.1≠0 then ((P.af (A9 nm)).2.I (A9 nm) s l).2 else
  ((P.af (A9 nm)).2.I (A9 nm) s l).2.2.aq (A9 nm)):=rfl
 generalize hR:P.aH nm s l=R at W ⊢;generalize hC:P.af (A9 nm)=C at W CR AD aF;generalize hD:C.2.I (A9 nm) s l=D at W AD aF;generalize hE:D.2.2.aq (A9 nm)=E at W aF
 go_enter func161,ntmps161
 go_wp2_with (fail);refine CR.k ?_;rintro I⟨aJ,z,q2,q3,q4⟩;have aK:=A4 (aT.o.ak aJ λh=>Gj _ (aH.o _ h));have aW:Hid (A5 (λk=>Ft k) w I):=(a2.o.aZ).tr aJ;have aR:Hid (w.heap.size<I.heap.size):=aK.o.lt;have a6:=A4 q2;have a1:=A4 q3;have aL:Hid (∀k,z k->Ft k\/w.heap.size<k):=λk X=>(q4 k X).imp id λh=>by simp at h;omega
 have a0:Hid (¬z w.heap.size):=λX=>(aL.o _ X).elim (λh=>Gj _ (aH.o _ h)) λh=>Gj _ h
 have aG:=A4 (AD.o I aK.o z q2 q3 a0.o);by_cases hc:C.1=0
 case neg=>
  have hR:R=C:=by rw[W.o,Ah hc]
  have hb:(C.1 !=0)=true:=by simpa using hc
  go_wp2;go_ret;subst hR;exact⟨rfl,aW.o,z,a6.o,a1.o,λk X=>(aL.o k X).imp id ES⟩
 case pos=>
 have hb:(C.1 !=0)=false:=by simpa using hc
 have aX:Hid (R=if D.2.1≠0 then D.2 else E):=by rw[W.o,Ae (by simpa using hc)];rfl
 have aO:∀O,(Be O w.heap.size 119 (A7 b) (A9 nm) (AV s l)/\Je I z w.heap.size O b D.2.2)->Hid (A5 (λk=>Ft k) w O/\∃H,Bh O b D.2.2 H/\(∀k,H k->k<O.heap.size)/\(∀k,H k->Ft k\/w.heap.size<k)/\Aj 116 #[A7 w.heap.size] O (Au (A0 E.1) λw'=>Ax O H w' (λw' aE=>Bh w' b E.2 aE))):=by
  rintro O⟨aA,Y,H,p2,p3,p4⟩;refine⟨aW.o.AJ Y λx hx aB=>hx.elim (λh=>(aL.o x h).resolve_right (by omega)) λh=>by omega,H,p2,p3,λk X=>(p4 k X).elim (λh=>aL.o k h) λh=>.inr (by have:=aR.o;omega),aF.o O aA H p2⟩
 have aD:=A4 aO;by_cases hd:D.2.1=0
 case neg=>
  have hR:R=D.2:=by rw[aX.o,Ah hd]
  have aS:(D.2.1 !=0)=true:=by simpa using hd
  go_wp2_with (go_at_call 192;refine aG.k ?_;rintro O⟨aA,Y⟩;have a4:=aD.o O ⟨aA,Y⟩);go_ret;subst hR;obtain⟨k2,H,p2,p3,p5,-⟩:=a4.o;exact⟨rfl,k2,H,p2,p3,λk X=>(p5 k X).imp id ES⟩
 case pos=>
 have aS:(D.2.1 !=0)=false:=by simpa using hd
 have hR:R=E:=by rw[aX.o,Ae (by simpa using hd)]
 subst hR;go_wp2_with (fail);refine aG.k ?_;rintro O⟨aA,Y⟩;have⟨k2,H,p2,p3,p5,sy⟩:=(aD.o O ⟨aA,Y⟩).o;have aV:=A4 k2;have aY:=A4 p5;have aF:=A4 sy;go_wp2_with (go_at_call 116;refine aF.k ?_;rintro w3⟨aU,aP,r2,r3,r4⟩;have aQ:=A4 aU;have a3:=A4 r2;have aZ:=A4 r3;have a5:=A4 r4);go_ret;exact⟨rfl,aV.o.AJ aQ.o λx hx aB=>(aY.o x hx).resolve_right (by omega),aP,a3.o,aZ.o,λk X=>(a5.o k X).elim (λh=>(aY.o k h).imp id ES) λh=>.inr (by have:=aV.o.Am;omega)⟩
end
def JX{P:PD}{a c m:Nat}(h:Fit P a c m)(nm:Bs):(P.CK nm).1.length<=m:=by
 unfold PD.CK DV;cases hx:lookup P.D.A6 (A9 nm) with
 | none=>simp
 | some f=>exact h.Bi f (FK hx)
section
variable{w:World}{b:Nat}{P:PD}{Ft:Nat->Prop}{a c m:Nat}
def Rt(nm:Bs)(h:Bh w b P Ft)(I:∀k,Ft k->k<w.heap.size)(hF:Fit P a c m)(hl:CN a c m):
 Aj 77 #[.agg #[A7 b,.string ⟨nm.toArray⟩,.int .u32 (AB nm)]] w (Au (.tuple #[.string ⟨(P.aT nm).1.toArray⟩,A0 (P.aT nm).2]) λw'=>A5 Ab w w'):=by
 have aF:=JX hF nm;have hm:=hl.m;have aD:=Jo nm;obtain⟨s,hs⟩:∃s,AB nm=s:=⟨_,rfl⟩
 have aE:Hid (P.aT nm=if (P.CK nm).2≠0 then ([],(P.CK nm).2) else match Hc s (P.CK nm).1 with
  | some d=>(d,0)
  | none=>([],7)):=by rw[<-hs];rfl
 generalize Y:P.aT nm=R at aE ⊢;rw[hs]at aD ⊢;have aA:Be (w.aC #[A7 b,.string (A9 nm),.int .u32 s] 119) w.heap.size 119 (A7 b) (A9 nm) s:=BN w _;have k0:A5 Ab w (w.aC #[A7 b,.string (A9 nm),.int .u32 s] 119):=(A5.C _ w).aj _;have aN:=A4 (UD aA (B5.az h I k0));obtain⟨x,hx⟩:∃x,P.CK nm=x:=⟨_,rfl⟩;have O:Hid (Aj 119 #[A7 w.heap.size] (w.aC #[A7 b,.string (A9 nm),.int .u32 s] 119) (Au (.tuple #[.string ⟨x.1.toArray⟩,A0 x.2]) λw'=>A5 Ab (w.aC #[A7 b,.string (A9 nm),.int .u32 s] 119) w')):=by
  rw[<-hx];exact aN.o
 rw[hx]at aE aF;obtain⟨t,ae⟩:=x;dsimp only at aE aF O;have aJ:=A4 aA;have aL:=A4 k0;have aI:=A4 aD
 go_enter func77,ntmps77
 by_cases he:ae=0
 case neg=>
  have hb:(ae !=0)=true:=by simpa using he
  have Y:R=([],ae):=by rw[aE.o,Ah he]
  subst Y;go_wp2_with (go_at_call 119;refine O.k ?_;rintro z H;have aH:=A4 H);go_ret2;exact⟨rfl,aL.o.tr aH.o⟩
 case pos=>
 subst he
 have aG:Hid (R=match Hc s t with
  | some d=>(d,0)
  | none=>([],7)):=by rw[aE.o,Ae (by simp)];rfl
 have aO:Hid (∀z,Be z w.heap.size 119 (A7 b) (A9 nm) s->∃(d:Bs) (ok:Bool),R=(if ok then (d,0) else ([],7))/\Aj 120 #[A7 w.heap.size,.string ⟨t.toArray⟩] z (Au (.tuple #[.string ⟨d.toArray⟩,.bool ok]) λw'=>A5 (One w.heap.size) z w')):=λz aK=>by
  by_cases h4:t.length<4
  ·refine⟨[],false,?_,?_⟩
   ·rw[aG.o];unfold Hc;rw[Ah h4];rfl
   ·refine(VI z w.heap.size t h4).k ?_;rintro w' rfl;exact⟨rfl,A5.C _ _⟩
  ·refine⟨t.take (t.length-4),decide (Ca (AV s (t.take (t.length-4)))=t.drop (t.length-4)),?_,?_⟩
   ·rw[aG.o];unfold Hc;rw[Ae h4];by_cases hq:Ca (AV s (t.take (t.length-4)))=t.drop (t.length-4)
    ·rw[Ah hq,CJ hq];rfl
    ·rw[Ae hq,Dw hq];rfl
   ·have:=Nd z w.heap.size 119 (A7 b) (A9 nm) s (t.take (t.length-4)) (t.drop (t.length-4)) aK aI.o (by rw[CM];omega) (by rw[BU];omega);rw[DK]at this;refine this.mono ?_;rintro e w'⟨h1,h2,h3⟩;exact⟨h1,h3⟩
 go_wp2_with (fail);refine O.k ?_;rintro z H;have⟨d,ok,Y,hun⟩:=aO.o z (aJ.o.ak H (λh=>h));have aM:Hid (A5 Ab w z):=aL.o.tr H;have aB:=A4 hun;cases ok with
 | false=>
  simp only[PG,C4]at Y;subst Y;go_wp2_with (go_at_call 120;refine aB.k ?_;rintro w2 W;have X:=A4 W);go_ret2;exact⟨rfl,aM.o.AJ X.o λx hx I=>by cases hx;omega⟩
 | true=>
  simp only[Cn]at Y;subst Y;go_wp2_with (go_at_call 120;refine aB.k ?_;rintro w2 W;have X:=A4 W);go_ret2;exact⟨rfl,aM.o.AJ X.o λx hx I=>by cases hx;omega⟩
end
def Tryz.cO:(Tryz.prog.info? 3).map (λi=>(i.zero,i.size,i.bytes))=some (some (A0 0),1,8):=by kernel_rfl
def A0c{k:Nat}{l:Bs}(h:l.length<8):Fo k l=[]:=by cases k<;>simp[Fo,h]
def Oh(l:Bs): -9223372036854775808<=BK l/\BK l<=9223372036854775807:=by unfold BK wrap64;omega
def A0a(w:World)(I:Bs)(hl0:I.length<=4294967296):
 Calls Tryz.prog 78 #[.string ⟨I.toArray⟩] w λe w'=>∃v,e=.returned v/\DF w' v (Eo I)/\(∀g,v.ownBlock=some g->w.heap.size<=g)/\A5 (λ_=>False) w w':=by
 obtain⟨R,hR⟩:∃R,Eo I=R:=⟨_,rfl⟩;have aU:Hid (Fo I.length I=R):=hR;rw[hR];obtain⟨i0,hi,aG,aJ,aK⟩:∃i0,Tryz.prog.info? 3=some i0/\i0.zero=some (.int .i64 0)/\i0.size=1/\i0.bytes=8:=by
  have h:=Tryz.cO;cases hx:Tryz.prog.info? 3 with
  | none=>rw[hx]at h;cases h
  | some i=>rw[hx]at h;simp at h;exact⟨i,rfl,h.1,h.2.1,h.2.2⟩
 go_enter func78,ntmps78
 go_wp2;go_loopw [0,3] (λtv v wr=>∃(l:Bs) (k:Nat) (z:List Int),tv=.string ⟨l.toArray⟩/\z.length*8+l.length<=I.length/\Hid (DF wr v z/\(∀g,v.ownBlock=some g->w.heap.size<=g)/\A5 (λ_=>False) w wr/\l.length<=k/\R=z++Fo k l)) (λtv _ _=>match tv with | .string x=>x.size|_=>0)
 ·exact⟨I,I.length,[],rfl,by simp,CL _ _ _ _,λg O=>by simp[Value.ownBlock]at O,A5.C _ _,Aq _,by rw[aU.o];rfl⟩
 ·obtain⟨l,k,z,rfl,aB,hI⟩:=hrel;have H:(ByteArray.mk l.toArray).size=l.length:=by show l.toArray.size=_;simp
  by_cases h8:l.length<8
  case pos=>
   obtain⟨i1,i2,i3,-,i5⟩:=hI.o;rw[A0c h8,Fz]at i5;subst i5;(have aF:¬(8<=(l.length:Int)):=by omega);have aP:=A4 i1;have aT:=A4 i2;have aQ:=A4 i3;go_wp2;go_ret;exact⟨_,rfl,aP.o,aT.o,aQ.o⟩
  case neg=>
   have⟨i1,i2,i3,i4,i5⟩:=hI.o;obtain⟨k,rfl⟩:∃k',k=k'+1:=⟨k-1,by omega⟩;have aI:Hid (R=(z++[BK l])++Fo k (l.drop 8)):=by
    unfold Hid;rw[i5];simp[Fo,h8]
   have X:=A4 (Md wr l (by omega));have hx:=Oh l;generalize hxe:BK l=x at aI X hx;obtain⟨ap,cp,rfl,hcap1,aA,-⟩:=Bb i1;unfold maxLen at aA;have e2:(ByteArray.mk l.toArray).extract 8 l.length=⟨(l.drop 8).toArray⟩:=by
    rw[extract_mk,Ez (by rw[CM];omega)]
   have Y:(l.drop 8).length=l.length-8:=CM;generalize hq:l.drop 8=q at e2 aI Y;generalize htx:ByteArray.mk l.toArray=tx at e2 H X ⊢;generalize hll:l.length=ll at e2 H Y aB h8 i4;(have h8i:(8:Int)<=(ll:Int):=by omega);have aN:=A4 i1;have aO:=A4 i2;have aM:=A4 i3;have aR:=A4 i4;have W:=A4 Y;have aE:=A4 aB
   go_wp2_with (first
    | (go_at_call 121;refine X.k ?_;rintro w4 rfl)
    | (at_builtin
       have aD:Hid ((wr.alloc (.cells #[.int .i64 x] 3)).ownsRow 0 3 1 (.slice ap z.length cp) z.length (DR z)):=AA aN.o λg O=>CU _ _ _ (AG aN.o O);have aH:=A4 (Src.ba (size:=1) (B:=wr.heap.size) underlying120 wr #[.int .i64 x] 3 (by simp) 1 1 rfl (JJ [x]));refine De rfl (.tmp 9) (.tmp 12) 120 120 rfl 3 i0 _ 1 8 underlying120 hi aG aJ aK rfl (by decide) (.slice ap z.length cp) z.length (DR z) (by rfl) aD.o _ 1 _ (by rfl) aH.o (by have:=aE.o;omega) ?_;intro a8 cap8 w8 hA;have aS:=A4 hA
       clear hA))
   go_roundw
   ·have hA:=aS.o;have aL:=hA.An (S:=λk=>(Value.slice ap z.length cp).ownBlock=some k) λ_ h=>h;have k9:A5 (λ_=>False) wr (wr.alloc (.cells #[.int .i64 x] 3)):=(A5.C _ wr).aj _;refine⟨q,k,z++[x],rfl,by have:=aE.o;have:=W.o;simp;omega,?_,?_,?_,by have:=aR.o;have:=W.o;omega,aI.o⟩
    ·(have e:(z++[x]).length=z.length+1:=by simp);unfold DF;rw[KK,e];exact hA.AP
    ·intro g O;rcases hA.Cu with h|h
     ·rw[h]at O;exact aO.o g O
     ·rw[h]at O;cases O;exact AH aM.o.Am k9.Am
    ·exact(aM.o.tr k9).AJ aL λy hy aF=>by have:=aO.o y hy;omega
   ·(have e:(ByteArray.mk q.toArray).size=q.length:=by show q.toArray.size=_;simp);have:=W.o;simp only[e,H];omega
def Tryz.fm:(Tryz.prog.info? 231).map (·.size)=some 2:=by kernel_rfl
def Tryz.fK:liesAt Tryz.prog Tryz.prog.depth 231 (2/Tryz.prog.cellsOf 231) 0 231 1=true:=by kernel_rfl
def GI(B b:Nat)(l:List UInt8)(w:World):Prop:=Lib.IsBuilder 231 5 B b (Lib.byteCells l) w
def A1D(B b:Nat)(bs:List Value)(w:World)(h:Lib.IsBuilder 231 5 B b bs w):
 Aj 200 #[A7 b] w (Au (.tuple #[]) λw'=>(Lib.BuilderAt 231 5 B b (A7 b) bs w'/\Below B w w')):=by
 have⟨j,hj,hjs⟩:=A2G.1 Tryz.fm;rcases h with h|h
 ·have I:=h.cell0;have z:=h.shape;have hfz:=h.frozen0;have H:=A4 h
  go_enter func200,ntmps200
  go_wp2;rw[Lib.run_to_unsafe w (Ad b 0) underlying229 underlying176 hj (by rw[hjs];decide) z (Nat.zero_lt_succ 1)];simp only[Result.andThen];rw[UR];go_wp2;rw[Xm func219 (by kernel_rfl) (by kernel_rfl) (by kernel_rfl) (e:=Extern.AbiNoEscape.same) (by kernel_rfl)];rw[Lib.run_noEscape];simp only[Result.andThen];rw[UR];go_wp2;rw[Lib.run_from_unsafe w (Ad b 0) underlying176 underlying229 hj z Tryz.fK];simp only[Result.andThen];rw[UR];go_wp2;go_end0;exact⟨rfl,H.o.used _,(N3 B w).setCell (p:=(Ad b 0)) H.o.1 _⟩
 ·have I:=h.cell0;have H:=A4 h
  go_enter func200,ntmps200
  go_wp2;rw[Lib.run_neq_ptr_same w _ underlying229 hj];go_wp2;go_end0;exact⟨rfl,H.o,N3 B _⟩
def Vp(B b:Nat)(bs:List Value)(s:ByteArray)(w:World)(h:Lib.IsBuilder 231 5 B b bs w)(hlen:bs.length+s.size<=140737488355328)(hBw:B<=w.heap.size):
 Aj 159 #[A7 b,.string s] w (Au (.tuple #[A0 s.size,.nilIface]) λw'=>(Lib.BuilderAt 231 5 B b (A7 b) (bs++Lib.strCells s) w'/\Below B w w')):=by
 have⟨i0,hi,hz0,hz1,hz2⟩:=Eb Tryz.infoByte
 go_enter func159,ntmps159
 go_wp2_with (go_at_call 200;refine(A1D B b bs _ h).mono ?_);rintro e Y⟨rfl,h1,X⟩;obtain⟨hB,v,I,W,aB⟩:=h1;have c0:Y.cell? (Ad b 0)=some (A7 b):=by rw[Pw I];rfl
 have c1:Y.cell? (Ad b 1)=some v:=by rw[Pw I];rfl
 go_wp2_with (at_builtin;refine Lib.wpList_append_own_string _ rfl _ _ 66 9 rfl B 5 i0 underlying66 underlying9 hi hz0 hz1 hz2 _ _ _ rfl W s rfl ?c3 ?c4 ?c5 ?_)
 case c3=>unfold maxLen;omega
 case c4=>omega
 case c5=>have:=X.size;omega
 intro v' w2 z H _;have aA:b<Y.heap.size:=by
  rcases F6 b Y.heap.size with h' | h'
  ·exact h'
  ·simp[Array.getElem?_eq_none h']at I
 have O:w2.heap[b]?=some (.cells #[A7 b,v] 231 (0,0)):=by
  rw[H.block b aA (λe=>aB e.symm)];exact I
 have d0:w2.cell? (Ad b 0)=some (A7 b):=by rw[Pw O];rfl
 have d1:w2.cell? (Ad b 1)=some v:=by rw[Pw O];rfl
 have f1:w2.frozen? (Ad b 1)=false:=Lib.frozen_of_heap O 1;obtain⟨ao,n',cap,rfl⟩:∃ao n' cap,v'=.slice ao n' cap:=by
  rcases z.2 with⟨hv,_⟩|⟨g,cap,cur,hv,_⟩
  ·exact⟨_,_,_,hv⟩
  ·exact⟨_,_,_,hv⟩
 go_wp2;go_ret2;refine⟨rfl,?_,?_⟩
 ·exact Lib.BuilderAt.put (T:=231) (e:=5) hB O (bs':=bs++Lib.strCells s) (by simpa[Lib.strCells_length] using z) (by decide)
 ·exact(X.grown H (by have:=X.size;omega) (λk hk=>(W.lt k hk).1)).setCell (p:=(Ad b 1)) hB _
def WK(l:List UInt8):Lib.strCells ⟨l.toArray⟩=Lib.byteCells l:=by
 simp[Lib.strCells,Lib.byteCells]
def N5{B b:Nat}{l t:List UInt8}(w:World)(h:GI B b l w)(z:l.length+t.length<=140737488355328)(H:B<=w.heap.size):
 Calls Tryz.prog 159 #[.pointer (some ⟨b,0,none⟩),.string ⟨t.toArray⟩] w λe w'=>e=.returned (.tuple #[.int .i64 t.length,.nilIface])/\GI B b (l++t) w'/\Below B w w':=by
 have O:(ByteArray.mk t.toArray).size=t.length:=by show t.toArray.size=_;simp
 refine(Vp B b (Lib.byteCells l) ⟨t.toArray⟩ w h (by rw[Lib.byteCells_length,O];exact z) H).k ?_;rintro w'⟨I,W⟩;refine⟨by rw[O],.inr ?_,W⟩;rw[WK]at I;have:Lib.byteCells (l++t)=Lib.byteCells l++Lib.byteCells t:=by simp[Lib.byteCells]
 rw[this];exact I
def A1Y{B b:Nat}{l:List UInt8}(w:World)(h:GI B b l w)(z:B<=w.heap.size):
 Aj 162 #[A7 b] w (Au (.string ⟨l.toArray⟩) λw'=>Below B w w'):=Tryz.Builder_String_any B b l w h z
def Uj(w:World):GI w.heap.size w.heap.size [] (w.alloc (.cells #[.pointer none,.slice none 0 0] 231)):=
 .inl ⟨Aq _,_,BN w _,CL _ _ _ _,by simp[Value.ownBlock]⟩
def GI.ak{B b:Nat}{l:List UInt8}{w w':World}{S:Nat->Prop}(h:GI B b l w)(O:A5 S w w')(I:∀k,S k->k<B):GI B b l w':=by
 have key:∀p,Lib.BuilderAt 231 5 B b p (Lib.byteCells l) w->Lib.BuilderAt 231 5 B b p (Lib.byteCells l) w':=by
  rintro p⟨Y,v,W,z,X⟩;refine⟨Y,v,O.ak W (λh=>by have:=I _ h;omega),?_,X⟩;exact AA z λg H=>O.Ao g (AG z H) (λh=>by have:=I _ h;have:=(z.lt g H).1;omega)
 exact h.imp (key _) (key _)
end
section
open Go.RowKit
attribute [local go_sem ↓] Cz
def ZZ(w:World)(x:Int):Aj 122 #[A0 x] w (Au (.bool false) λw'=>w=w'):=by
 go_enter func122,ntmps122
 go_wp2;go_ret;exact⟨rfl,rfl⟩
def OO(w:World)(x y:Int):Aj 81 #[A0 x,A0 y] w (Au (A0 (Ch x y)) λw'=>w=w'):=by
 have h:=A4 (ZZ);unfold Ch
 go_enter func81,ntmps81
 by_cases z:x<y
 ·rw[Ah z];go_wp2_with (go_at_call 122;refine(h.o _ _).k ?_;rintro w' rfl);go_ret;exact⟨rfl,rfl⟩
 ·by_cases H:y<x
  ·rw[Ae z,Ah H];go_wp2_with (go_at_call 122;refine(h.o _ _).k ?_;rintro w' rfl);go_ret;exact⟨rfl,rfl⟩
  ·rw[Ae z,Ae H];go_wp2_with (go_at_call 122;refine(h.o _ _).k ?_;rintro w' rfl);go_ret;exact⟨rfl,rfl⟩
def Jy(a b:Int):Int:=if a≠0 then a else b
def S9(w:World)(g:Nat)(a b:Int)(h0:Aa w g 0 (A0 a))(h1:Aa w g 1 (A0 b)):
 Aj 104 #[AN g 2 2] w (Au (A0 (Jy a b)) λw'=>w=w'):=by
 unfold Jy
 go_enter func104,ntmps104
 by_cases h:a=0
 ·subst h;rw[Ae (by simp)];by_cases z:b=0
  ·subst z;go_wp2;refine IB 3 ?_;rw[G8];go_wp2;rw[G8];go_wp2;rw[G8];go_wp2;go_ret;exact⟨rfl,rfl⟩
  ·(have hb':(b !=0)=true:=by simpa using z);go_wp2;refine IB 2 ?_;rw[G8];go_wp2;rw[G8];go_wp2;go_ret;exact⟨rfl,rfl⟩
 ·rw[Ah h];have ha':(a !=0)=true:=by simpa using h
  go_wp2;refine IB 1 ?_;rw[G8];go_wp2;go_ret;exact⟨rfl,rfl⟩
def A1J(p q:Pu):Cq p q=Jy (Ch p.1 q.1) (Ch p.2.1 q.2.1):=rfl
def DB(p:Pu):Value:=.agg #[A0 p.1,A0 p.2.1,A0 p.2.2]
def NF(w:World)(p q:Pu):Aj 106 #[DB p,DB q] w (Au (A0 (Cq p q)) λw'=>A5 Ab w w'):=by
 obtain⟨I,z,W⟩:=p;obtain⟨H,O,Y⟩:=q;rw[A1J];unfold DB;dsimp only
 have aI:=A4 (OO);have OR:=A4 (S9);obtain⟨x,hx⟩:∃x,Ch I H=x:=⟨_,rfl⟩;obtain⟨y,hy⟩:∃y,Ch z O=y:=⟨_,rfl⟩;rw[hx,hy];have b1:C5 ((w.alloc (.cells #[A0 I,A0 z,A0 W] 90)).alloc (.cells #[A0 H,A0 O,A0 Y] 90)) w.heap.size I z W:=(CU _ _ _ (by simp)).trans (BN w _);have b2:C5 ((w.alloc (.cells #[A0 I,A0 z,A0 W] 90)).alloc (.cells #[A0 H,A0 O,A0 Y] 90)) (w.heap.size+1) H O Y:=by
  have:=BN (w.alloc (.cells #[A0 I,A0 z,A0 W] 90)) (.cells #[A0 H,A0 O,A0 Y] 90);simpa[C5] using this
 have k2:A5 Ab w ((w.alloc (.cells #[A0 I,A0 z,A0 W] 90)).alloc (.cells #[A0 H,A0 O,A0 Y] 90)):=((A5.C _ w).aj _).aj _;have sz:((w.alloc (.cells #[A0 I,A0 z,A0 W] 90)).alloc (.cells #[A0 H,A0 O,A0 Y] 90)).heap.size=w.heap.size+2:=by simp
 have aB:=A4 b1;have aA:=A4 b2;have aH:=A4 k2;have aK:=A4 sz
 go_enter func106,ntmps106
 go_wp2;generalize ((w.alloc (.cells #[A0 I,A0 z,A0 W] 90)).alloc (.cells #[A0 H,A0 O,A0 Y] 90))=w2 at aB aA aH aK ⊢;refine Ce (λw'=>Aa w' w.heap.size 0 (A0 I)/\Aa w' w.heap.size 1 (A0 z)/\Aa w' (w.heap.size+1) 0 (A0 H)/\Aa w' (w.heap.size+1) 1 (A0 O)) 14
  (BD [0,1,2,3,5,6,7,8,9,10,4,11,12,13] [4,11,12,13]) ⟨aB.o.c0,aB.o.c1,aA.o.c0,aA.o.c1⟩ ?_
 iterate 10 refine Bq ?_
 refine By λK X=>?_;go_simp;have aD:=A4 aB.o.ad;have aF:=A4 aA.o.ad;refine(aI.o _ _ _).k ?_;rintro w3 rfl;rw[hx];refine X _ _ ⟨aD.o.c0,aD.o.c1,aF.o.c0,aF.o.c1⟩ (λhS=>?_);refine By λK X=>?_;go_simp;refine(aI.o _ _ _).k ?_;rintro w4 rfl;rw[hy];refine X _ _ ⟨aD.o.c0,aD.o.c1,aF.o.c0,aF.o.c1⟩ (λhS=>?_);refine By λK X=>?_;go_simp;have ka:A5 Ab w2 (w2.alloc (.cells #[A0 x,A0 y] 3)).drew:=((A5.C _ _).aj _).ad;have aG:=aB.o.ak ka (λh=>h);have aE:=aA.o.ak ka (λh=>h);have hb:(w2.alloc (.cells #[A0 x,A0 y] 3)).drew.heap[w2.heap.size]?=some (.cells #[A0 x,A0 y] 3):=BN w2 _;refine X _ _ ⟨aG.c0,aG.c1,aE.c0,aE.c1⟩ (λhS=>?_);refine By λK X=>?_;go_simp;refine(OR.o _ _ x y (by simp only[Aa,World.cell?,hb];rfl) (by simp only[Aa,World.cell?,hb];rfl)).k ?_;rintro w5 rfl;refine X _ _ ⟨aG.c0,aG.c1,aE.c0,aE.c1⟩ (λhS=>?_);have aJ:Hid (A5 Ab w (w2.alloc (.cells #[A0 x,A0 y] 3)).drew):=aH.o.tr ka;refine Cc ?_;go_wp2;go_ret;exact⟨rfl,aJ.o⟩
def VA{t len:Int}(h:1<=len):BH t len=if t.tmod len<0 then t.tdiv len-1 else t.tdiv len:=by
 unfold BH;have e1:=Int.mul_ediv_add_emod t len;have e2:=Lr t (b:=len) (by omega);have e3:=PC t (b:=len) (by omega);have f1:=A3b t len;have f3:t.tmod len<len:=Vg t (by omega);have f4 : -len<t.tmod len:=by
  by_cases h0:0<=t
  ·have:=Int.tmod_nonneg len h0;omega
  ·have:=Vg (-t) (b:=len) (by omega);rw[PA]at this;omega
 obtain⟨q,W⟩:∃q,t/len=q:=⟨_,rfl⟩;obtain⟨r,X⟩:∃r,t % len=r:=⟨_,rfl⟩;obtain⟨z,I⟩:∃z,t.tdiv len=z:=⟨_,rfl⟩;obtain⟨O,H⟩:∃O,t.tmod len=O:=⟨_,rfl⟩;rw[W,X]at e1;rw[X]at e2 e3;rw[I,H]at f1;rw[H]at f3 f4;rw[W,I,H];have key:len*(q-z)=O-r:=by
  have:len*(q-z)=len*q-len*z:=Int.mul_sub ..;omega
 by_cases Y:O<0
 ·rw[Ah Y];have h1 : -(2*len)<len*(q-z):=by omega
  have h2:len*(q-z)<0:=by omega
  have k1:q-z<0:=by
   rcases Kg (q-z) 0 with h|h
   ·exact h
   ·have:=Int.mul_nonneg (a:=len) (by omega) h;omega
  have k2 : -2<q-z:=by
   rcases Kg (-2) (q-z) with h|h
   ·exact h
   ·have:len*(q-z)<=len*(-2):=Vh h (by omega);omega
  omega
 ·rw[Ae Y];have h1 : -len<len*(q-z):=by omega
  have h2:len*(q-z)<len:=by omega
  have k1:q-z<1:=by
   rcases Kg (q-z) 1 with h|h
   ·exact h
   ·have:len*1<=len*(q-z):=Vh h (by omega);omega
  have k2 : -1<q-z:=by
   rcases Kg (-1) (q-z) with h|h
   ·exact h
   ·have:len*(q-z)<=len*(-1):=Vh h (by omega);omega
  omega
def VN{t len:Int}(W:AY t)(H:1<=len)(O:t.tmod len<0):AY (t.tdiv len-1):=by
 obtain⟨t1,t2⟩:=W;have f1:=A3b t len;have f4 : -len<t.tmod len:=by
  by_cases X:0<=t
  ·have:=Int.tmod_nonneg len X;omega
  ·have:=Vg (-t) (b:=len) (by omega);rw[PA]at this;omega
 obtain⟨q,I⟩:∃q,t.tdiv len=q:=⟨_,rfl⟩;obtain⟨r,z⟩:∃r,t.tmod len=r:=⟨_,rfl⟩;rw[I,z]at f1;rw[z]at f4 O;rw[I];constructor
 ·rcases Kg 0 q with h|h
  ·omega
  ·have:len*q<=1*q:=Int.mul_le_mul_of_nonpos_right H h;omega
 ·rcases Kg (q-1) 0 with h|h
  ·omega
  ·have h2:1*(q-1)<=len*(q-1):=Int.mul_le_mul_of_nonneg_right H h;have h3:len*(q-1)=len*q-len*1:=Int.mul_sub ..;omega
def N7(w:World)(t len:Int)(I:AY t)(z:1<=len/\len<=4611686018427387904):
 Aj 105 #[A0 t,A0 len] w (Au (A0 (BH t len)) λw'=>w=w'):=by
 obtain⟨t1,t2⟩:=I;have hl0:¬len=0:=by omega
 rw[VA z.1]
 go_enter func105,ntmps105
 by_cases h:t.tmod len<0
 ·rw[Ah h];have H:wrap64 (t.tdiv len-1)=t.tdiv len-1:=by
   have:=VN ⟨t1,t2⟩ z.1 h;unfold AY at this;unfold wrap64;omega
  go_wp2
  all_goals first|(exfalso;omega)|skip
  go_ret;refine⟨?_,rfl⟩;show Ending.returned (A0 (wrap64 (t.tdiv len-1)))=_;rw[H]
 ·rw[Ae h];go_wp2
  all_goals first|(exfalso;omega)|skip
  go_ret;exact⟨rfl,rfl⟩
def QX{α:Type}(cmp:α->α->Int):∀(l:List α) (k:Nat) (h:k+1<l.length),Cs cmp (l.drop k)=(decide (cmp (l[k]'(by omega)) (l[k+1]'h)<0)&&Cs cmp (l.drop (k+1))):=by
 intro l k h;rw[Fy (by omega:k<l.length),Fy h];rfl
def QW{α:Type}(cmp:α->α->Int)(l:List α)(k:Nat)(h:l.length<=k+1):Cs cmp (l.drop k)=true:=by
 have:(l.drop k).length<=1:=by rw[CM];omega
 match hx:l.drop k with
 | []=>rfl
 | [x]=>rfl
 | x::y::r=>rw[hx]at this;simp at this
def OQ(x y:Int):Ch x y = -1\/Ch x y=0\/Ch x y=1:=by
 unfold Ch;split
 ·exact .inl rfl
 ·split
  ·exact .inr (.inr rfl)
  ·exact .inr (.inl rfl)
def Xw(w:World)(v:Value)(l:List Int)(h:Dc w v l)(hl:l.length<1099511627776):
 Aj 80 #[v,.func (.func 81) #[] #[]] w (Au (.bool (Cs Ch l)) λw'=>∃n,w'=w.drewN n):=by
 obtain⟨a,cap,rfl,h1,h2⟩:=h.BV;unfold maxLen at h2;have aG:Hid (Cs Ch l=Cs Ch (l.drop 0)):=rfl;generalize hR:Cs Ch l=R at aG ⊢;have H:=A4 h
 go_enter func80,ntmps80
 go_wp2;go_loopw [5] (λiv wr=>∃k:Nat,iv=A0 ((k:Int)+1)/\k<=l.length/\(∃n,wr=w.drewN n)/\Hid (R=Cs Ch (l.drop k))) (λiv _=>l.length+1-(intOf iv).toNat)
 ·exact⟨0,rfl,by omega,⟨0,rfl⟩,aG.o⟩
 ·obtain⟨k,rfl,hk,⟨n,rfl⟩,Y⟩:=hrel;by_cases I:k+1<l.length
  ·obtain⟨g,o,rfl,c1⟩:=Dc.at H.o k (by omega);have⟨g',o',e,c2⟩:=Dc.at H.o (k+1) I;cases e;have z:=Y.o;rw[QX Ch l k I]at z;have X:=OQ (l[k]'(by omega)) (l[k+1]'I);have aA:=A4 (λn=>OO (w.drewN n) (l[k]'(by omega)) (l[k+1]'I));obtain⟨x,hx⟩:∃x,(l[k]'(by omega))=x:=⟨_,rfl⟩;obtain⟨y,hy⟩:∃y,(l[k+1]'I)=y:=⟨_,rfl⟩;rw[hx]at c1 z X aA;rw[hy]at c2 z X aA;generalize aE:Ch x y=cc at z X aA;have d1:∀n,Aa (w.drewN n) g (o+k) (A0 x):=λn=>c1;have d2:∀n,Aa (w.drewN n) g (o+(k+1)) (A0 y):=λn=>c2;have W:=A4 z;clear c1 c2 hx hy aE z Y;(have aD:(k:Int)+1<(l.length:Int):=by omega);have hk0:=Cd k;(have hki2:(k:Int)<(l.length:Int):=by omega);have aF:IntKind.i64.wrap (k:Int)=k:=GN (by omega);(have ew1:IntKind.i64.wrap ((k:Int)+1-1)=k:=by rw[Jg];exact aF);(have tk:((k:Int)+1).toNat=k+1:=by omega);(have pk:(0:Int)<=(k:Int)+1:=by omega);by_cases hc:cc<0
   ·have O:Hid (R=Cs Ch (l.drop (k+1))):=by
     have:=W.o;rw[CJ hc,N2]at this;exact this
    clear W;(have aB:¬(0<=cc):=by omega);go_wp2;refine Ce (λw'=>Aa w' g (o+k) (A0 x)/\Aa w' g (o+(k+1)) (A0 y)) 11
     (BD [0,1,2,3,4,5,6,7,8,9,10] [10]) ⟨d1 (n+1),d2 (n+1)⟩ ?_
    iterate 10 refine Bq ?_
    refine By λK hK=>?_;go_simp;refine(aA.o (n+1)).k ?_;rintro w3 rfl;refine hK _ _ ⟨d1 (n+1),d2 (n+1)⟩ (λhS=>?_);clear hK K hS;refine Cc ?_;go_wp2;go_roundw
    ·exact⟨k+1,by go_num,by omega,⟨n+1,rfl⟩,O.o⟩
    ·simp[intOf];omega
   ·have O:R=false:=by
     have:=W.o;rw[Dw hc,Vk]at this;exact this
    clear W;subst O;(have aB:0<=cc:=by omega);go_wp2;refine Ce (λw'=>Aa w' g (o+k) (A0 x)/\Aa w' g (o+(k+1)) (A0 y)) 11
     (BD [0,1,2,3,4,5,6,7,8,9,10] [10]) ⟨d1 (n+1),d2 (n+1)⟩ ?_
    iterate 10 refine Bq ?_
    refine By λK hK=>?_;go_simp;refine(aA.o (n+1)).k ?_;rintro w3 rfl;refine hK _ _ ⟨d1 (n+1),d2 (n+1)⟩ (λhS=>?_);refine Cc ?_;go_wp2;go_ret;exact⟨rfl,_,rfl⟩
  ·(have O:R=true:=by rw[Y.o,QW Ch l k (by omega)]);subst O;(have aD:¬((k:Int)+1<(l.length:Int)):=by omega);go_wp2;go_ret;exact⟨rfl,_,rfl⟩
def Ud(p q:Pu):Cq p q = -1\/Cq p q=0\/Cq p q=1:=by
 unfold Cq;split<;>exact OQ _ _
def Xv(w:World)(v:Value)(l:List Pu)(h:Hp w v l)(hl:l.length<1099511627776):
 Aj 130 #[v,.func (.func 106) #[] #[]] w (Au (.bool (Cs Cq l)) λw'=>A5 Ab w w'):=by
 obtain⟨a,cap,rfl,h1,h2⟩:=h.BV;unfold maxLen at h2;have aR:Hid (Cs Cq l=Cs Cq (l.drop 0)):=rfl;generalize hR:Cs Cq l=R at aR ⊢;have H:=A4 h
 go_enter func130,ntmps130
 go_wp2;go_loopw [5] (λiv wr=>∃k:Nat,iv=A0 ((k:Int)+1)/\k<=l.length/\Hid (A5 Ab w wr)/\Hid (R=Cs Cq (l.drop k))) (λiv _=>l.length+1-(intOf iv).toNat)
 ·exact⟨0,rfl,by omega,A5.C _ _,aR.o⟩
 ·obtain⟨k,rfl,hk,I,aE⟩:=hrel;by_cases Y:k+1<l.length
  ·obtain⟨g,o,rfl,-,c1,c2,c3⟩:=Hp.at H.o k (by omega);obtain⟨g',o',e,-,c4,c5,c6⟩:=Hp.at H.o (k+1) Y;cases e;have z:=aE.o;rw[QX Cq l k Y]at z;have aB:=Ud (l[k]'(by omega)) (l[k+1]'Y);have aF:=A4 (λO=>NF O (l[k]'(by omega)) (l[k+1]'Y));obtain⟨x,hx⟩:∃x,(l[k]'(by omega))=x:=⟨_,rfl⟩;obtain⟨y,hy⟩:∃y,(l[k+1]'Y)=y:=⟨_,rfl⟩;rw[hx]at c1 c2 c3 z aB aF;rw[hy]at c4 c5 c6 z aB aF;obtain⟨x1,x2,x3⟩:=x;obtain⟨y1,y2,y3⟩:=y;generalize hcc:Cq (x1,x2,x3) (y1,y2,y3)=cc at z aB aF;dsimp only at c1 c2 c3 c4 c5 c6;have d1:=I.o.ad.an c1;have d2:=I.o.ad.an c2;have d3:=I.o.ad.an c3;have d4:=I.o.ad.an c4;have d5:=I.o.ad.an c5;have d6:=I.o.ad.an c6;have aG:=A4 z;have aK:=A4 c1;have aN:=A4 c2;have aM:=A4 c3;have aH:=A4 c4;have aO:=A4 c5;have aI:=A4 c6;(have aJ:(k:Int)+1<(l.length:Int):=by omega);have hk0:=Cd k;(have hki2:(k:Int)<(l.length:Int):=by omega);have aL:IntKind.i64.wrap (k:Int)=k:=GN (by omega);(have ew1:IntKind.i64.wrap ((k:Int)+1-1)=k:=by rw[Jg];exact aL);(have tk:((k:Int)+1).toNat=k+1:=by omega);(have pk:(0:Int)<=(k:Int)+1:=by omega);have aA:Hid (∀O,A5 Ab wr.drew O->(Aa O g (o+k*3) (A0 x1)/\Aa O g (o+k*3+1) (A0 x2)/\Aa O g (o+k*3+2) (A0 x3)/\Aa O g (o+(k+1)*3) (A0 y1)/\Aa O g (o+(k+1)*3+1) (A0 y2)/\Aa O g (o+(k+1)*3+2) (A0 y3))/\A5 Ab w O):=λO hx=>
    ⟨⟨hx.an (I.o.ad.an aK.o),hx.an (I.o.ad.an aN.o),hx.an (I.o.ad.an aM.o),hx.an (I.o.ad.an aH.o),hx.an (I.o.ad.an aO.o),hx.an (I.o.ad.an aI.o)⟩,I.o.ad.tr hx⟩
   by_cases aD:cc<0
   ·have W:Hid (R=Cs Cq (l.drop (k+1))):=by
     have:=aG.o;rw[CJ aD,N2]at this;exact this
    (have aP:¬(0<=cc):=by omega);go_wp2;refine Ce (λw'=>Aa w' g (o+k*3) (A0 x1)/\Aa w' g (o+k*3+1) (A0 x2)/\Aa w' g (o+k*3+2) (A0 x3)/\Aa w' g (o+(k+1)*3) (A0 y1)/\Aa w' g (o+(k+1)*3+1) (A0 y2)/\Aa w' g (o+(k+1)*3+2) (A0 y3)) 11
     (BD [0,1,2,3,4,5,6,7,8,9,10] [10]) ⟨d1,d2,d3,d4,d5,d6⟩ ?_
    iterate 10 refine Bq ?_
    refine By λK hK=>?_;go_simp;refine(aF.o _).k ?_;rintro w3 X;refine hK _ _ (aA.o w3 X).1 (λhS=>?_);have aQ:=A4 (aA.o w3 X).2;refine Cc ?_;go_wp2;go_roundw
    ·exact⟨k+1,by go_num,by omega,aQ.o,W.o⟩
    ·simp[intOf];omega
   ·have W:R=false:=by
     have:=aG.o;rw[Dw aD,Vk]at this;exact this
    subst W;(have aP:0<=cc:=by omega);go_wp2;refine Ce (λw'=>Aa w' g (o+k*3) (A0 x1)/\Aa w' g (o+k*3+1) (A0 x2)/\Aa w' g (o+k*3+2) (A0 x3)/\Aa w' g (o+(k+1)*3) (A0 y1)/\Aa w' g (o+(k+1)*3+1) (A0 y2)/\Aa w' g (o+(k+1)*3+2) (A0 y3)) 11
     (BD [0,1,2,3,4,5,6,7,8,9,10] [10]) ⟨d1,d2,d3,d4,d5,d6⟩ ?_
    iterate 10 refine Bq ?_
    refine By λK hK=>?_;go_simp;refine(aF.o _).k ?_;rintro w3 X;refine hK _ _ (aA.o w3 X).1 (λhS=>?_);have aQ:=A4 (aA.o w3 X).2;refine Cc ?_;go_wp2;go_ret;exact⟨rfl,aQ.o⟩
  ·(have W:R=true:=by rw[aE.o,QW Cq l k (by omega)]);subst W;(have aJ:¬((k:Int)+1<(l.length:Int)):=by omega);go_wp2;go_ret;exact⟨rfl,I.o⟩
end
end Go.Proofs.YtodcnkbblippnabGreatDoor
