/- Part 46 of a proof: walks of the program. -/
import Derived.Test.YtodcnkbblippnabGreatDoorPart44
namespace Go.Proofs.YtodcnkbblippnabGreatDoor
set_option maxRecDepth 100000
set_option maxHeartbeats 32000000
set_option linter.defProp false
open Go.Proofs.Tryz
section
open Go.MuLone Go.RowKit
attribute [local go_sem ↓] Go.wp_at_zero Go.wp_at_succ Cz
def boxed(w:World)(sb:Nat)(k t v:Int):World:=
 (((w.alloc (.cells #[.pointer (some ⟨sb,0,none⟩)] 33)).alloc (.cells #[.int .i64 k] 3)).alloc (.cells #[.int .i64 t] 3)).alloc (.cells #[.int .i64 v] 3)
def J7(w:World)(x sb:Nat)(k t v:Int):Prop:=
 w.cell? ⟨x,0,none⟩=some (.pointer (some ⟨sb,0,none⟩))/\w.cell? ⟨x+1,0,none⟩=some (.int .i64 k)/\w.cell? ⟨x+2,0,none⟩=some (.int .i64 t)/\w.cell? ⟨x+3,0,none⟩=some (.int .i64 v)
section
variable{w w' w2:World}{sb ab b B:Nat}{mu aA Ak Ac:Int}{ro:Bool}{lv:Nat->Value}{L L':Nat->List Pt}{A A':Ar}{P P':PD}{F0 FT:Nat->Prop}{a c m N:Nat}
def Uk(w:World)(sb:Nat)(k t v:Int):A5 Ab w (boxed w sb k t v):=((((A5.C _ w).aj _).aj _).aj _).aj _
def A12(w:World)(sb:Nat)(k t v:Int):(boxed w sb k t v).heap.size=w.heap.size+4:=by unfold boxed;simp
def Ul(w:World)(sb:Nat)(k t v:Int):J7 (boxed w sb k t v) w.heap.size sb k t v:=by
 unfold boxed;refine⟨?_,?_,?_,?_⟩
 all_goals unfold World.cell?
 ·rw[CU _ _ _ (by simp;try omega),CU _ _ _ (by simp;try omega),CU _ _ _ (by simp),BN];rfl
 ·rw[CU _ _ _ (by simp;try omega),CU _ _ _ (by simp)];have:=BN (w.aC #[A7 sb] 33) (.cells #[A0 k] 3);have e:(w.aC #[A7 sb] 33).heap.size=w.heap.size+1:=by simp
  rw[e]at this;simp only[this];rfl
 ·rw[CU _ _ _ (by simp)];have:=BN ((w.aC #[A7 sb] 33).aC #[A0 k] 3) (.cells #[A0 t] 3);have e:((w.aC #[A7 sb] 33).aC #[A0 k] 3).heap.size=w.heap.size+2:=by simp
  rw[e]at this;simp only[this];rfl
 ·have:=BN (((w.aC #[A7 sb] 33).aC #[A0 k] 3).aC #[A0 t] 3) (.cells #[A0 v] 3);have e:(((w.aC #[A7 sb] 33).aC #[A0 k] 3).aC #[A0 t] 3).heap.size=w.heap.size+3:=by simp
  rw[e]at this;simp only[this];rfl
def J7.An{S:Nat->Prop}{x:Nat}{k t v:Int}(h:J7 w x sb k t v)(hc:A5 S w w')(hS:∀i,i<4->¬S (x+i)):J7 w' x sb k t v:=by
 obtain⟨I,W,H,Y⟩:=h;have z:∀i u,i<4->w.cell? (Ad (x+i) 0)=some u->w'.cell? (Ad (x+i) 0)=some u:=λi u hi hu=>by
  have O:=H7 w _ hu;have X:=hc.Ao (x+i) O (hS i hi);unfold World.cell? at hu ⊢;rw[X];exact hu
 exact⟨z 0 _ (by omega) I,z 1 _ (by omega) W,z 2 _ (by omega) H,z 3 _ (by omega) Y⟩
def Ye(w:World)(x:Nat)(p:Pu)(n:Int)(Q:World->Prop)(z:J7 w x sb p.1 p.2.1 p.2.2)(h:Aj 36 #[A7 sb,DB p] w (Au (A0 n) λw'=>Q w')):
 Aj 35 #[A7 x,A7 (x+1),A7 (x+2),A7 (x+3)] w (Au (A0 n) λw'=>Q w'):=by
 obtain⟨p1,p2,p3⟩:=p;unfold DB at h;dsimp only at h z;obtain⟨x0,x1,x2,x3⟩:=z;have H:=A4 h
 go_enter func35,ntmps35
 go_wp2_with (go_at_call 36;refine H.k ?_;rintro w2 O;have I:=A4 O);go_ret;exact⟨rfl,I.o⟩
def SF.bX(h:SF w sb ab b 0 aA Ak Ac ro L A P FT):Ax w FT (w.setCell ⟨sb,0,none⟩ (.int .i32 1)) (λw' z=>SF w' sb ab b 1 aA Ak Ac ro L A P z):=h.Ek 0 _ λ_ h=>h.s0 1
def RA(w:World)(p:Pu)(h:SF w sb ab b 0 aA Ak Ac false L A P FT)(aF:∀k,FT k->k<w.heap.size)(hp:B8 p)(hn:A.j.AP=none->Cv (A.j.A8+1)/\AY (A.j.A8+1)/\AY A.j.puts)(aD:A.j.Al.length<=1073741824)(hL:Lets B w)(O:∀k,FT k->B<=k)(hF:Fit P a c m)(aH:CN (a+1) (c+1) (m+33))(aJ:∀k,k<8->(L k).length<1099511627000)(hl:1<=aA/\aA<=4611686018427387904)(hc:AY Ac):
 Aj 12 #[A7 sb,A0 p.1,A0 p.2.1,A0 p.2.2] w (Au (A0 (A.I P p).2.1) λw'=>
  Ax w FT w' (λw' z=>SF w' sb ab b 0 aA Ak Ac (decide ((A.I P p).2.1≠0)) (if (A.I P p).1=true then FL L (Bu Ac aA) p.1.toNat p.2.1 p.2.2 else L) (A.I P p).2.2.1 (A.I P p).2.2.2 z)):=by
 have aN:Hid (∀w',Aj 33 #[A0 p.1] w' λe W=>e=.returned (.bool true)/\w'=W):=λw'=>by
  have:=Oe w' p.1
  rwa [CJ hp.1]at this
 have Y:=Uk w sb p.1 p.2.1 p.2.2;have hX:=Ul w sb p.1 p.2.1 p.2.2;have hZ:=A12 w sb p.1 p.2.1 p.2.2;generalize aM:boxed w sb p.1 p.2.1 p.2.2=w0 at Y hX hZ;unfold boxed at aM;have hV:=h.aJ Y;have aB:=hL.aP Y;have H:=hV.bX;have I:J7 (w0.sC sb 0 (.int .i32 1)) w.heap.size sb p.1 p.2.1 p.2.2:=hX.An H.1 λi _ hx=>by have:=aF _ hx;omega
 have aL:Hid (Ax w FT (w0.sC sb 0 (.int .i32 1)) (λw' z=>SF w' sb ab b 1 aA Ak Ac false L A P z)):=H.a7 Y;have⟨k1,F1,s1,s2,s3⟩:=aL.o;have aE:=aB.ak H.1 O;have aG:=hL.1
 have X:=A4 (A1R (w0.sC sb 0 (.int .i32 1)) w.heap.size (A.I P p).2.1 s1 (Ye _ w.heap.size p _ _ I
  (A2x _ p s1 s2 hp hn aD aE (λk hk=>(s3 k hk).elim (O k) λh=>AH aG h) hF aH aJ hl hc)))
 have ST:Hid (∀wx R,Ax (w0.sC sb 0 (.int .i32 1)) F1 wx R->Ax w FT wx R):=λwx R h=>Ax.a8 k1 s3 h;obtain⟨x0,x1,x2,x3⟩:=hX;obtain⟨y0,y1,y2,y3⟩:=I;have c0:Aa w0 sb 0 (.int .i32 0):=by obtain⟨lv,F0,q,-⟩:=hV;exact q.Ai.c0
 have f0:w0.frozen? (Ad sb 0)=false:=by obtain⟨lv,F0,q,-⟩:=hV;exact q.Ai.fz 0
 obtain⟨p1,p2,p3⟩:=p;dsimp only at *;generalize hR:A.I P (p1,p2,p3)=R at X ⊢;obtain⟨aP,R2,R3,R4⟩:=R;dsimp only at X ⊢;generalize hL2:(if aP=true then FL L (Bu Ac aA) p1.toNat p2 p3 else L)=L2 at X ⊢
 go_enter_defers func12,ntmps12
 go_wp2_with (first
  | (go_at_call 31;refine(LZ Tryz.bK (Ad sb 0) _ c0 f0).k ?_;rintro w' rfl)
  | (go_at_call 33;refine(aN.o _).k ?_;rintro w' rfl))
 refine X.k ?_;rintro w2 hS;have aK:=A4 (ST.o _ _ hS);go_wp2;refine M1 (f:=32) (args:=#[A7 sb]) (by simp) (by simp[go_sem]) ?_;refine(Lx Tryz.bK (Ad sb 0) .returning _ ?_ ?_).mono ?_
 ·obtain⟨-,aO,⟨aI,aQ,a1,-⟩,-,-⟩:=aK.o;exact a1.Ai.c0
 ·obtain⟨-,aO,⟨aI,aQ,a1,-⟩,-,-⟩:=aK.o;exact a1.Ai.fz 0
 rintro e u' W⟨rfl,rfl,rfl⟩;exact⟨_,QY rfl _ _ _,rfl,SFto.Ek aK.o 0 _ λlv h=>h.s0 0⟩
def A0O(w:World)(x:Nat)(n:Int)(Q:World->Prop)(h:Bz w sb mu (A7 ab) aA Ak Ac ro lv)(X:Aa w x 0 (A7 sb))(z:Aj 44 #[A7 ab,A0 Ak] w.drew (Au (A0 n) λw'=>Q w')):
 Aj 43 #[A7 x] w (Au (A0 n) λw'=>Q w'):=by
 have c2:=h.c2;have O:=h.cW;have H:=A4 z
 go_enter func43,ntmps43
 go_wp2;refine Ce (λw'=>Aa w' x 0 (A7 sb)/\Aa w' sb 2 (A7 ab)/\Aa w' sb 4 (A0 Ak)) 8
  (BD [0,1,2,3,4,5,6,7] []) ⟨X,c2,O⟩ ?_
 iterate 8 refine Bq ?_
 refine Cc ?_;go_wp2_with (go_at_call 44;refine H.k ?_;rintro w2 I;have W:=A4 I);go_ret;exact⟨rfl,W.o⟩
def A1H(w:World)(x:Nat)(n o:Int)(Q:World->Prop)(h:Bz w sb mu (A7 ab) aA Ak Ac ro lv)(X:Aa w x 0 (A7 sb))(aG:Aj 39 #[A7 sb] w.drew (Au (A0 o) λw'=>A5 Ab w.drew w'))(aB:∀w2,A5 Ab w w2->Aj 38 #[A7 ab,A0 Ak,A0 o] w2 (Au (A0 n) λw'=>Q w')):
 Aj 37 #[A7 x] w (Au (A0 n) λw'=>Q w'):=by
 have c2:=h.c2;have W:=h.cW;have aD:=A4 aB;have aE:Hid (Aj 39 #[A7 sb] w.drew (Au (A0 o) λw'=>(Aa w' x 0 (A7 sb)/\Aa w' sb 2 (A7 ab)/\Aa w' sb 4 (A0 Ak))/\A5 Ab w w')):=by
  refine aG.k ?_;rintro w' H;have z:A5 Ab w w':=(A5.C _ w).ad.tr H;exact⟨rfl,⟨z.an X,z.an c2,z.an W⟩,z⟩
 go_enter func37,ntmps37
 go_wp2;refine Ce (λw'=>Aa w' x 0 (A7 sb)/\Aa w' sb 2 (A7 ab)/\Aa w' sb 4 (A0 Ak)) 10
  (BD [0,1,2,3,4,5,6,7,8,9] [9]) ⟨X,c2,W⟩ ?_
 iterate 9 refine Bq ?_
 refine By λK hK=>?_;go_simp;refine aE.k ?_;rintro w2⟨I,H⟩;refine hK _ _ I (λY=>?_);have O:=A4 (aD.o w2 H);refine Cc ?_;go_wp2_with (go_at_call 38;refine O.k ?_;rintro w3 Y;have aF:=A4 Y);go_ret;exact⟨rfl,aF.o⟩
def Qy(w:World)(f g:Nat)(W:(f=19/\g=43)\/(f=14/\g=37))(n:Int)(Q:World->Prop)(c0:w.cell? (Ad sb 0)=some (.int .i32 0))(f0:w.frozen? (Ad sb 0)=false)(hz:sb<w.heap.size)(aD:∀Y,Y=(w.alloc (.cells #[A7 sb] 33)).setCell (Ad sb 0) (.int .i32 1)->Aj 34 #[A7 sb,.func (Fn.func g) #[] #[A7 w.heap.size]] Y (Au (A0 n) λw'=>w'.cell? (Ad sb 0)=some (.int .i32 1)/\w'.frozen? (Ad sb 0)=false/\Q w')):
 Aj f #[A7 sb] w (Au (A0 n) λw'=>∃w2,Q w2/\w'=w2.setCell (Ad sb 0) (.int .i32 0)):=by
 have hA:A5 Ab w (w.alloc (.cells #[A7 sb] 33)):=(A5.C _ w).aj _;have I:=BN w (.cells #[A7 sb] 33);have a0:=hA.an c0;have fa:(w.alloc (.cells #[A7 sb] 33)).frozen? (Ad sb 0)=false:=by
  have H:=hA.Ao sb hz (λh=>h);unfold World.frozen? at f0 ⊢;rw[H];exact f0
 have aB:=A4 (aD _ rfl);have O:(w.alloc (.cells #[A7 sb] 33)).cell? (Ad w.heap.size 0)=some (A7 sb):=Gg I;have z:w.heap.size≠sb:=by omega
 have b1:((w.alloc (.cells #[A7 sb] 33)).sC sb 0 (.int .i32 1)).cell? (Ad w.heap.size 0)=some (A7 sb):=by
  have X:=(A5.C (One sb) (w.alloc (.cells #[A7 sb] 33))).ao (b:=sb) rfl 0 (.int .i32 1);have H:=X.Ao w.heap.size (by simp) (λh=>z h);unfold World.cell? at O ⊢;rw[H];exact O
 generalize hw0:(w.alloc (.cells #[A7 sb] 33))=w0 at a0 fa aB O b1;rcases W with⟨rfl,rfl⟩|⟨rfl,rfl⟩
 focus go_enter_defers func19,ntmps19
 rotate_left
 focus go_enter_defers func14,ntmps14
 all_goals
  go_wp2_with (go_at_call 31;refine(LZ Tryz.bK (Ad sb 0) _ a0 fa).k ?_;rintro w' rfl);refine aB.k ?_;rintro w2⟨u0,uf,hS⟩;have aE:=A4 hS;go_wp2;refine M1 (f:=32) (args:=#[A7 sb]) (by simp) (by simp[go_sem]) ?_;refine(Lx Tryz.bK (Ad sb 0) .returning _ ?_ ?_).mono ?_
  ·exact u0
  ·exact uf
  rintro e u' w''⟨rfl,rfl,rfl⟩;exact⟨_,QY rfl _ _ _,rfl,_,aE.o,rfl⟩
def Qx(w:World)(n:Int)(Q:World->Prop)(c0:w.cell? (Ad sb 0)=some (.int .i32 0))(f0:w.frozen? (Ad sb 0)=false)(H:sb<w.heap.size)(z:∀h,h=(w.alloc (.cells #[A7 sb] 33)).setCell (Ad sb 0) (.int .i32 1)->Aj 34 #[A7 sb,.func (Fn.func 43) #[] #[A7 w.heap.size]] h (Au (A0 n) λw'=>w'.cell? (Ad sb 0)=some (.int .i32 1)/\w'.frozen? (Ad sb 0)=false/\Q w')):
 Aj 19 #[A7 sb] w (Au (A0 n) λw'=>∃w2,Q w2/\w'=w2.setCell (Ad sb 0) (.int .i32 0)):=
 Qy w _ _ (.inl ⟨rfl,rfl⟩) n Q c0 f0 H z
def WL(w:World)(n:Int)(Q:World->Prop)(c0:w.cell? (Ad sb 0)=some (.int .i32 0))(f0:w.frozen? (Ad sb 0)=false)(H:sb<w.heap.size)(z:∀h,h=(w.alloc (.cells #[A7 sb] 33)).setCell (Ad sb 0) (.int .i32 1)->Aj 34 #[A7 sb,.func (Fn.func 37) #[] #[A7 w.heap.size]] h (Au (A0 n) λw'=>w'.cell? (Ad sb 0)=some (.int .i32 1)/\w'.frozen? (Ad sb 0)=false/\Q w')):
 Aj 14 #[A7 sb] w (Au (A0 n) λw'=>∃w2,Q w2/\w'=w2.setCell (Ad sb 0) (.int .i32 0)):=
 Qy w _ _ (.inr ⟨rfl,rfl⟩) n Q c0 f0 H z
end
end
section
open Go.MuLone Go.RowKit
section
variable{w w' w2:World}{sb ab b B:Nat}{mu aA Ak Ac:Int}{ro:Bool}{lv:Nat->Value}{L L':Nat->List Pt}{A A':Ar}{P P':PD}{F0 FT:Nat->Prop}{a c m N:Nat}
def SF.c0(h:SF w sb ab b mu aA Ak Ac ro L A P FT):Aa w sb 0 (.int .i32 mu)/\w.frozen? (Ad sb 0)=false/\sb<w.heap.size/\Aa w sb 2 (A7 ab):=by
 obtain⟨lv,F0,q,-⟩:=h;exact⟨q.Ai.c0,q.Ai.fz 0,q.Ai.lt,q.Ai.c2⟩
def SF.b9(h:SF w sb ab b mu aA Ak Ac ro L A P FT)(I:∀k,FT k->B<=k)(f:Nat)(args:List Value)(n:Int)(hL:Lets B w)(W:∀H F0,AD H ab b A P F0->(∀k,F0 k->k<H.heap.size)->Lets B H->(∀k,F0 k->B<=k)->Calls Tryz.prog f args.toArray H λe w'=>e=.returned (.int .i64 n)/\Ax H F0 w' (λw' z=>AD w' ab b A' P' z)):
 Calls Tryz.prog f args.toArray w λe w'=>e=.returned (.int .i64 n)/\Ax w FT w' (λw' z=>SF w' sb ab b mu aA Ak Ac ro L A' P' z):=by
 obtain⟨lv,F0,q,O⟩:=h;refine(W w F0 q.ar q.lt hL (λk X=>I k (O k (.inl X)))).k ?_;rintro w' Y;exact⟨rfl,q.dS O Y⟩
def A0M(w:World)(n:Int)(h:SF w sb ab b 0 aA Ak Ac false L A P FT)(aE:∀k,FT k->k<w.heap.size)(hL:Lets B w)(X:∀k,FT k->B<=k)(aL:∀z F0,AD z ab b A P F0->(∀k,F0 k->k<z.heap.size)->Lets B z->(∀k,F0 k->B<=k)->Aj 44 #[A7 ab,A0 Ak] z (Au (A0 n) λw'=>Ax z F0 w' (λw' H=>AD w' ab b A' P' H))):
 Aj 19 #[A7 sb] w (Au (A0 n) λw'=>Ax w FT w' (λw' H=>SF w' sb ab b 0 aA Ak Ac (decide (n≠0)) L A' P' H)):=by
 obtain⟨c0,f0,hz,-⟩:=h.c0;have Y:A5 Ab w (w.aC #[A7 sb] 33):=(A5.C _ w).aj _;have aB:=BN w (.cells #[A7 sb] 33);have aF:=hL.1;refine(Qx w n (λw2=>Ax w FT w2 (λw' H=>SF w' sb ab b 1 aA Ak Ac (decide (n≠0)) L A' P' H)) c0 f0 hz (λz aI=>?_)).mono ?_
 ·have O:=(h.aJ Y).bX;rw[<-aI]at O;obtain⟨k1,aG,s1,s2,s3⟩:=O;have aD:=(hL.aP Y).ak k1 X;have b0:(w.aC #[A7 sb] 33).cell? (Ad w.heap.size 0)=some (A7 sb):=Gg aB;have hx:z.cell? (Ad w.heap.size 0)=some (A7 sb):=by
   have hb:=k1.Ao w.heap.size (by simp) (λhx=>Gj _ (aE _ hx));unfold World.cell? at b0 ⊢;rw[hb];exact b0
  have W:∀k,aG k->B<=k:=λk hk=>(s3 k hk).elim (X k) λh=>AH aF (AH Y.Am h)
  obtain⟨aH,aK,q,hs⟩:=s1;have s1:SF z sb ab b 1 aA Ak Ac false L A P aG:=⟨aH,aK,q,hs⟩;have body:Aj 43 #[A7 w.heap.size] z (Au (A0 n) λw'=>Ax z aG w' (λw' H=>SF w' sb ab b 1 aA Ak Ac false L A' P' H)):=by
   have kd:A5 Ab z z.drew:=(A5.C _ z).ad;refine A0O z w.heap.size n _ q.Ai hx ?_;refine((s1.aJ kd).b9 W _ [A7 ab,A0 Ak] n (aD.aP kd) aL).k ?_;rintro w' I;exact⟨rfl,I.a7 kd⟩
  refine(A1S z w.heap.size n s1 body).k ?_;rintro w' I;have aJ:=(Ax.a8 k1 s3 I).a7 Y;obtain⟨-,F3,q3,-,-⟩:=I;obtain⟨d0,df,-,-⟩:=q3.c0;exact⟨rfl,d0,df,aJ⟩
 ·rintro e w'⟨rfl,w2,I,rfl⟩;exact⟨rfl,SFto.Ek I 0 _ λlv h=>h.s0 0⟩
def A1G(w:World)(n:Int)(h:SF w sb ab b 0 aA Ak Ac false L A P FT)(aE:∀k,FT k->k<w.heap.size)(hL:Lets B w)(X:∀k,FT k->B<=k)(hl:1<=aA/\aA<=4611686018427387904)(hc:AY Ac)(aL:∀z F0,AD z ab b A P F0->(∀k,F0 k->k<z.heap.size)->Lets B z->(∀k,F0 k->B<=k)->Aj 38 #[A7 ab,A0 Ak,A0 (Bu Ac aA)] z (Au (A0 n) λw'=>Ax z F0 w' (λw' H=>AD w' ab b A' P' H))):
 Aj 14 #[A7 sb] w (Au (A0 n) λw'=>Ax w FT w' (λw' H=>SF w' sb ab b 0 aA Ak Ac (decide (n≠0)) L A' P' H)):=by
 obtain⟨c0,f0,hz,-⟩:=h.c0;have Y:A5 Ab w (w.aC #[A7 sb] 33):=(A5.C _ w).aj _;have aB:=BN w (.cells #[A7 sb] 33);have aF:=hL.1;refine(WL w n (λw2=>Ax w FT w2 (λw' H=>SF w' sb ab b 1 aA Ak Ac (decide (n≠0)) L A' P' H)) c0 f0 hz (λz aI=>?_)).mono ?_
 ·have O:=(h.aJ Y).bX;rw[<-aI]at O;obtain⟨k1,aG,s1,s2,s3⟩:=O;have aD:=(hL.aP Y).ak k1 X;have b0:(w.aC #[A7 sb] 33).cell? (Ad w.heap.size 0)=some (A7 sb):=Gg aB;have hx:z.cell? (Ad w.heap.size 0)=some (A7 sb):=by
   have hb:=k1.Ao w.heap.size (by simp) (λhx=>Gj _ (aE _ hx));unfold World.cell? at b0 ⊢;rw[hb];exact b0
  have W:∀k,aG k->B<=k:=λk hk=>(s3 k hk).elim (X k) λh=>AH aF (AH Y.Am h)
  obtain⟨aH,aK,q,hs⟩:=s1;have s1:SF z sb ab b 1 aA Ak Ac false L A P aG:=⟨aH,aK,q,hs⟩;have body:Aj 37 #[A7 w.heap.size] z (Au (A0 n) λw'=>Ax z aG w' (λw' H=>SF w' sb ab b 1 aA Ak Ac false L A' P' H)):=by
   have kd:A5 Ab z z.drew:=(A5.C _ z).ad;refine A1H z w.heap.size n (Bu Ac aA) _ q.Ai hx (NU z.drew sb Ac aA (q.Ai.An kd λh=>h).c3 (q.Ai.An kd λh=>h).cK hl hc) λw2 kk=>?_;refine((s1.aJ kk).b9 W _ [A7 ab,A0 Ak,A0 (Bu Ac aA)] n (aD.aP kk) aL).k ?_;rintro w' I;exact⟨rfl,I.a7 kk⟩
  refine(A1T z w.heap.size n s1 body).k ?_;rintro w' I;have aJ:=(Ax.a8 k1 s3 I).a7 Y;obtain⟨-,F3,q3,-,-⟩:=I;obtain⟨d0,df,-,-⟩:=q3.c0;exact⟨rfl,d0,df,aJ⟩
 ·rintro e w'⟨rfl,w2,I,rfl⟩;exact⟨rfl,SFto.Ek I 0 _ λlv h=>h.s0 0⟩
end
end
section
open Go.MuLone Go.RowKit
attribute [local go_sem ↓] Go.wp_at_zero Go.wp_at_succ Cz
def YN(w:World):Ei w (λ_=>.slice none 0 0) (λ_=>[]):=
 ⟨λ_ _=>CL _ _ _ _,λ_ _=>List.Pairwise.nil,λ_ _=>by simp,λ_ _ _ _ _ g h=>by simp[Value.ownBlock]at h⟩
def En(o:Int)(h:List Pu):Nat->List Pt:=h.foldl (λL p=>FL L o p.1.toNat p.2.1 p.2.2) (λ_=>[])
def M9(o:Int)(h:List Pu)(p:Pu):En o (h++[p])=FL (En o h) o p.1.toNat p.2.1 p.2.2:=by simp[En]
def Ma(o:Int)(k:Nat):∀n (z:List Pu),z.length=n->(En o z k).length<=n
 | 0,z,h=>by obtain rfl:=G4.1 h;simp[En]
 | n+1,z,h=>by
  have H:z≠[]:=λe=>by subst e;simp at h
  have I:=(Ln H).symm;rw[I,M9];have h1:=Ma o k n z.dropLast (by rw[V9];omega);have h2:=Td (En o z.dropLast) o (z.getLast H).1.toNat (z.getLast H).2.1 (z.getLast H).2.2 k;omega
def YJ{P:PD}{n:Int}(h:Ar.aR P=.error n):n≠0:=by
 unfold Ar.aR at h;split at h
 ·cases h;decide
 ·split at h
  ·cases h;decide
  ·split at h
   ·cases h;decide
   ·split at h
    ·rename_i z;cases h;exact z
    ·cases h
section
variable{w w' w2:World}{sb ab b B:Nat}{mu aA Ak Ac:Int}{ro:Bool}{lv:Nat->Value}{L L':Nat->List Pt}{A A':Ar}{P P':PD}{F0 Ft FT:Nat->Prop}{a c m N:Nat}
def Sc(w:World)(aA Ak Ac:Int)(hl:1<=aA/\aA<=4611686018427387904)(hw:1<=Ak/\Ak<=4611686018427387904)(hc:AY Ac)(aM:∀k,Ft k->k<w.heap.size)(aY:∀A z,Ar.aR P=.ok (A,z)->z.length<1099511627000/\∀p∈z,0<=p.1/\p.1<8)(a7:∀I,A5 Ab w I->Aj 29 #[A7 b] I λe w'=>
  (∃n,Ar.aR P=.error n/\e=.returned (.tuple #[.pointer none,.slice none 0 0,A0 n])/\A5 Ab I w')\/
  (∃A z ab v FT,Ar.aR P=.ok (A,z)/\e=.returned (.tuple #[A7 ab,v,A0 0])/\AZ w' v z/\AD w' ab b A P FT/\(∀k,FT k->Ft k\/I.heap.size<=k)/\(∀k,FT k->k<w'.heap.size)/\(∀g,v.ownBlock=some g->¬FT g/\I.heap.size<=g)/\A5 Ab I w')):
 Aj 10 #[A7 b,.agg #[A0 aA,A0 Ak],A0 Ac] w λe w'=>
  (∃n,Ar.aR P=.error n/\e=.returned (.tuple #[.pointer none,A0 n])/\A5 Ab w w')\/
  (∃A z ab sb,Ar.aR P=.ok (A,z)/\e=.returned (.tuple #[A7 sb,A0 0])/\w.heap.size<=sb/\Ax w Ft w' (λw' O=>SF w' sb ab b 0 aA Ak Ac false (En (Bu Ac aA) z) A P O)):=by
 have aU:Hid (∀w',Aj 28 #[A0 aA] w' λe aH=>e=.returned (.bool true)/\w'=aH):=λw'=>by
  have:=Tf w' aA
  rwa [CJ hl]at this
 have a2:Hid (∀w',Aj 28 #[A0 Ak] w' λe aH=>e=.returned (.bool true)/\w'=aH):=λw'=>by
  have:=Tf w' Ak
  rwa [CJ hw]at this
 have hA:=(A5.C Ab w).aj (.cells #[A0 aA,A0 Ak] 38);have aG:=BN w (.cells #[A0 aA,A0 Ak] 38);generalize hw0:(w.alloc (.cells #[A0 aA,A0 Ak] 38))=w0 at hA aG;have q0:Aa w0 w.heap.size 0 (A0 aA):=Gg aG;have q1:Aa w0 w.heap.size 1 (A0 Ak):=Gg aG;have a6:=A4 (a7 w0 hA);have aR:=A4 hA;have HLT:=A4 aM;have aZ:=A4 aY;have bB:=A4 hl;have bC:=A4 hc
 go_enter func10,ntmps10
 go_wp2_with (fail);refine(aU.o _).k ?_;rintro w' rfl;go_wp2_with (fail);refine(a2.o _).k ?_;rintro w' rfl;go_wp2_with (fail);refine a6.m ?_;rintro e I (⟨n,hO,rfl,X⟩|⟨A,z,ab,v,FT,hO,rfl,hp,ha,hf1,hf2,hf3,X⟩)
 ·have hn:=YJ hO;have hnb:(n !=0)=true:=by simpa using hn
  have aW:=A4 hO;have aN:=A4 (aR.o.tr X);go_wp2;go_ret2;exact .inl ⟨n,aW.o,rfl,aN.o⟩
 ·obtain⟨va,H,rfl,v1,v2,v3,-⟩:=Bb hp;unfold maxLen at v2;have r0:=X.an q0;have r1:=X.an q1;have⟨aP,aF⟩:=aZ.o A z hO;have aN:Hid (A5 Ab w I):=aR.o.tr X;have a5:=A4 hp;have a3:=A4 ha;have aT:Hid (∀k,FT k->Ft k\/w.heap.size<=k):=λk h=>(hf1 k h).imp id (AH aR.o.Am)
  have aJ:=A4 hf2;have a4:=A4 hf3;have aW:=A4 hO;have aX:=A4 aP;have aS:=A4 aF;have aV:FF 0 (A7 ab) aA Ak Ac false (λ_=>.slice none 0 0) = #[.int .i32 0,.int .u32 0,A7 ab,A0 aA,A0 Ak,A0 Ac,.bool false,.slice none 0 0,.slice none 0 0,.slice none 0 0,.slice none 0 0,.slice none 0 0,.slice none 0 0,.slice none 0 0,.slice none 0 0]:=rfl
  have ST:Hid (∀w2,w2=I.alloc (.cells (FF 0 (A7 ab) aA Ak Ac false (λ_=>.slice none 0 0)) 86)->
   Ax w Ft w2 (λw' O=>SF w' I.heap.size ab b 0 aA Ak Ac false (En (Bu Ac aA) (z.take 0)) A P O/\∀g,(Value.slice va z.length H).oB g->¬O g)/\AZ w2 (.slice va z.length H) z):=λw2 e=>by
   subst e;have kA:A5 Ab I (I.alloc (.cells (FF 0 (A7 ab) aA Ak Ac false (λ_=>.slice none 0 0)) 86)):=(A5.C _ I).aj _;have hb:Bz (I.alloc (.cells (FF 0 (A7 ab) aA Ak Ac false (λ_=>.slice none 0 0)) 86)) I.heap.size 0 (A7 ab) aA Ak Ac false (λ_=>.slice none 0 0):=BN I _;have nS:¬FT I.heap.size:=λh=>Gj _ (aJ.o _ h);refine⟨⟨(aN.o.tr kA).aZ,λk=>FT k\/Own I.heap.size (λ_=>.slice none 0 0) k,⟨⟨_,FT,⟨hb,YN _,a3.o.aJ kA,λk X=>Bm (aJ.o k X) kA.Am,nS,λk X=>?_⟩,λ_ h=>h⟩,λg hg hx=>?_⟩,λk X=>?_,λk X=>?_⟩,AA a5.o λg hg=>kA.Ao g (AG a5.o hg) (λh=>h)⟩
   ·obtain⟨i,_,hi⟩:=X;simp[Value.ownBlock]at hi
   ·rcases hx with hx|rfl|⟨i,_,hi⟩
    ·exact(a4.o g hg).1 hx
    ·have:=AG a5.o hg;omega
    ·simp[Value.ownBlock]at hi
   ·rcases X with X|rfl|⟨i,_,hi⟩
    ·exact Bm (aJ.o k X) kA.Am
    ·simp
    ·simp[Value.ownBlock]at hi
   ·rcases X with X|rfl|⟨i,_,hi⟩
    ·exact aT.o k X
    ·exact .inr aN.o.Am
    ·simp[Value.ownBlock]at hi
  have a0:Hid (w.heap.size<=I.heap.size):=aN.o.Am;rw[aV]at ST;have a1:=A4 (ST.o _ rfl);go_wp2;go_loopw [43] (λiv wr=>∃k:Nat,k<=z.length/\iv=A0 k/\Hid (Ax w Ft wr (λw' O=>SF w' I.heap.size ab b 0 aA Ak Ac false (En (Bu Ac aA) (z.take k)) A P O/\∀g,(Value.slice va z.length H).oB g->¬O g)/\AZ wr (.slice va z.length H) z)) (λiv _=>z.length-(intOf iv).toNat)
  ·exact⟨0,by omega,by go_num,a1.o⟩
  ·obtain⟨k,X,rfl,hI⟩:=hrel;obtain⟨aD,aL⟩:∃aD,aD=wr:=⟨_,rfl⟩;subst aL;have k0:=Cd k;by_cases aE:k<z.length
   ·(have kI:(k:Int)<(z.length:Int):=by omega);obtain⟨g,o,rfl,hgl,c1,c2,c3⟩:=Hp.at hI.o.2.rd k aE;have aQ:z.take (k+1)=z.take k++[z[k]'aE]:=Dz aE;have aF:=aS.o _ (BS aE);have aP:=aX.o;generalize hp:(z[k]'aE)=p at c1 c2 c3 aQ aF;have aI:Hid (∀w3,A5 Ab aD w3->Aj 30 #[A7 I.heap.size,DB p] w3 (Au (.tuple #[]) λw'=>(Ax w Ft w' (λw' O=>SF w' I.heap.size ab b 0 aA Ak Ac false (En (Bu Ac aA) (z.take (k+1))) A P O/\∀Y,(Value.slice (some (Ad g o)) z.length H).oB Y->¬O Y)/\AZ w' (.slice (some (Ad g o)) z.length H) z))):=λw3 k3=>by
     have⟨⟨i1,F1,⟨i2,i3⟩,i4,i5⟩,i6⟩:=hI.o;have aK:∀j,j<8->(En (Bu Ac aA) (z.take k) j).length<1099511627000:=λj _=>by
      have:=Ma (Bu Ac aA) j _ (z.take k) rfl;rw[BU]at this;omega
     refine(Te w3 p (i2.aJ k3) aF aK bB.o bC.o).k ?_;rintro w'⟨q1,bA,q2,q3,q4⟩;have aO:A5 Ft w w3:=i1.b0 k3;have aB:∀Y,(Value.slice (some (Ad g o)) z.length H).oB Y->Y<aD.heap.size:=λY W=>AG i6 W;refine⟨rfl,⟨aO.AJ q1 λx hx aM=>(i5 x hx).resolve_right (by omega),bA,⟨by rw[aQ,M9];exact q2,λY W hx=>?_⟩,q3,λx hx=>?_⟩,?_⟩
     ·rcases q4 Y hx with hy|hy
      ·exact i3 Y W hy
      ·have:=aB Y W;have:=k3.Am;omega
     ·rcases q4 x hx with hy|hy
      ·exact i5 x hy
      ·exact .inr (AH aO.Am hy)
     ·exact AA (AA i6 λY W=>k3.Ao Y (aB Y W) λh=>h) λY W=>q1.Ao Y (Bm (aB Y W) k3.Am) (i3 Y W)
    obtain⟨p1,p2,p3⟩:=p;unfold DB at aI;dsimp only at c1 c2 c3 aI;go_wp2_with (go_at_call 30;refine(aI.o _ ((A5.C _ aD).aj _)).k ?_;rintro w3 hS;have a8:=A4 hS);go_roundw
    ·exact⟨k+1,by omega,by go_num,a8.o⟩
    ·simp[intOf];omega
   ·(obtain rfl:k=z.length:=by omega);have a9:=A4 hI.o.1;go_wp2;go_ret2;refine .inr ⟨A,z,ab,I.heap.size,aW.o,rfl,a0.o,?_⟩;have h:=a9.o;rw[Cj]at h;exact h.fe λ_ _ h=>h.1
end
end
section
open Go.RowKit
attribute [local go_sem ↓] Go.wp_at_zero Go.wp_at_succ


end
section
open Go.RowKit
abbrev Kind:=World->(Nat->Prop)->Prop
def L7(R:Kind):Prop:=∀(w w':World) (S FT:Nat->Prop),R w FT->(∀k,FT k->k<w.heap.size)->A5 S w w'->(∀k,FT k->¬S k)->R w' FT
def KD(b:Nat)(P:PD):Kind:=λw FT=>Bh w b P FT
def KS(H ab b:Nat)(h Ak Ac:Int)(z:Bool)(L:Nat->List Pt)(A:Ar)(P:PD):Kind:=λw FT=>SF w H ab b 0 h Ak Ac z L A P FT
def KD.Hy(b:Nat)(P:PD):L7 (KD b P):=λ_ _ _ _ h H O I=>Bh.aM h λk z=>O.Ao k (H k z) (I k z)
def KS.Hy(Y ab b:Nat)(z Ak Ac:Int)(I:Bool)(L:Nat->List Pt)(A:Ar)(P:PD):L7 (KS Y ab b z Ak Ac I L A P):=λw w' S FT h hl hc X=>by
 obtain⟨lv,F0,W,H⟩:=h;exact⟨lv,F0,W.An hc λk O=>X k (H k O),H⟩
def SF.dk{w:World}{Y ab b:Nat}{X z Ak Ac:Int}{I:Bool}{L:Nat->List Pt}{A:Ar}{P:PD}{FT:Nat->Prop}(h:SF w Y ab b X z Ak Ac I L A P FT):∃Ft,Bh w b P Ft/\(∀k,Ft k->k<w.heap.size)/\∀k,Ft k->FT k:=by
 obtain⟨lv,F0,W,H⟩:=h;have⟨xb,jb,sv,ov,l,jo,Ft,h3,h4⟩:=W.ar;exact⟨Ft,h3.dk,h3.lt,λk O=>H k (.inl (h4 k (.inl O)))⟩
end
section
open Go.RowKit
attribute [local go_sem ↓] Go.wp_at_zero Go.wp_at_succ
def A5.bH{S:Nat->Prop}{a b c:World}(h:A5 Ab a b)(k:A5 S b c)(z:∀x,S x->a.heap.size<=x):A5 Ab a c:=h.AJ k λx H hlt=>by have:=z x H;omega
end
section
open Go.RowKit
def Env(B:Nat)(w:World):Prop:=Lets B w/\HV w/\1<B/\2<B
def Env.ak{B:Nat}{w w':World}{S:Nat->Prop}(h:Env B w)(O:A5 S w w')(H:∀k,S k->B<=k):Env B w':=by
 obtain⟨I,⟨⟨e1,a1,Y⟩,e2,a2,b2⟩,X,W⟩:=h;refine⟨I.ak O H,⟨⟨e1,?_,Y⟩,e2,?_,b2⟩,X,W⟩
 ·rw[<-a1];have:=O.Ao 1 (Bm X I.1) λz=>by have:=H _ z;omega
  simp only[World.cell?,this]
 ·rw[<-a2];have:=O.Ao 2 (Bm W I.1) λz=>by have:=H _ z;omega
  simp only[World.cell?,this]
def Env.aP{B:Nat}{w w':World}(h:Env B w)(z:A5 Ab w w'):Env B w':=h.ak z λ_ h=>h.elim
def Mc{n:Int}(h:isNum n=true):Cv n:=by
 unfold isNum at h;simp at h;exact HF (by omega) h.2
def YP{W:Int×Int}{nm:Bs}(h:F5 W nm):nm.length<=281474976710656:=by
 have O:∀(c:UInt8) (n:Int),1<=n->n<=4611686018427387904->(c::(Lib.repeatL [48] (19-(Lib.itoa n).length)++Lib.itoa n)).length<=281474976710656:=λc n z I=>by
  rw[KB z I,BM,LN];omega
 by_cases I:(Bc nm).1=1
 ·have⟨⟨a,b⟩,e⟩:=LU I;rw[<-e,HG];exact O _ _ a b
 ·by_cases H:(Bc nm).1=2
  ·have⟨⟨a,b⟩,e⟩:=LR H;rw[<-e,Hf];exact O _ _ a b
  ·have z:=h.1;unfold Bc at z I H;cases hx:Du [108] nm with
   | some v=>rw[hx]at I;exact absurd rfl I
   | none=>
    rw[hx]at z H;dsimp only at z H;unfold Gy at z H;cases hy:Du [115] nm with
    | some v=>rw[hy]at H;exact absurd rfl H
    | none=>
     rw[hy]at z;dsimp only at z;unfold Gx Hg at z;split at z
     ·rename_i e;subst e;decide
     ·split at z
      ·rename_i e;subst e;decide
      ·exact absurd rfl z
def Ro:∀(k s:Nat) (l:List UInt8),(Dh k s l).1.length*21<=l.length
 | 0,_,_=>by simp[Dh]
 | k+1,s,l=>by
  unfold Dh;split
  ·simp
  ·rename_i hl;split
   ·have:=Ro k (AV s (l.take 17)) (l.drop 21);rw[CM]at this;simp only[BM];omega
   ·simp
def Zk{P:PD}{a c m:Nat}(H:Fit P a c m)(n h:Int):(P.aY n h).1.length*21<=m:=by
 have key:∀l:List UInt8,l.length<=m->∀s,(Ew s h l).1.length*21<=m:=λl hl s=>by
  unfold Ew;split
  ·simp
  ·split
   ·split
    ·have:=Ro l.length (AV s (l.take 8)) (l.drop 12);rw[CM]at this;dsimp only;omega
    ·simp
   ·simp
 unfold PD.aY Gs;split
 ·simp
 ·refine key _ ?_ _;unfold DV;split
  ·rename_i f z;exact H.Bi f (FK z)
  ·exact C8 _
def Ru{P:PD}{a c m:Nat}(H:Fit P a c m)(l:List Int):(P.puts l).1.length*21<=l.length*m:=by
 have key:∀(l:List Int) (h:List Pu),(P.aU l h).1.length*21<=h.length*21+l.length*m:=by
  intro l
  induction l with
  | nil=>intro h;simp[PD.aU]
  | cons n r ih=>
   intro h;unfold PD.aU;split
   ·simp
   ·have z:=ih (h++(P.aY n h.length).1);have h2:=Zk H n h.length;rw[AX]at z;rw[BM,Hq];omega
 have:=key l [];simpa[PD.puts] using this
section
variable{w:World}{B sb ab b:Nat}{aA Ak Ac:Int}{L:Nat->List Pt}{A:Ar}{P:PD}{FT:Nat->Prop}{puts:List Pu}{Ag t N:Nat}{o:Int}
def Yb(w:World)(p:Pu)(h:SF w sb ab b 0 aA Ak Ac false L A P FT)(I:∀k,FT k->k<w.heap.size)(z:St t A P puts Ag o false)(ht:t+1<=330000)(hp:B8 p)(hL:Lets B w)(O:∀k,FT k->B<=k)(W:∀k,k<8->(L k).length<=t)(hl:1<=aA/\aA<=4611686018427387904)(hc:AY Ac):
 Aj 12 #[A7 sb,A0 p.1,A0 p.2.1,A0 p.2.2] w (Au (A0 (A.I P p).2.1) λw'=>
  Ax w FT w' (λw' H=>SF w' sb ab b 0 aA Ak Ac (decide ((A.I P p).2.1≠0)) (if (A.I P p).1=true then FL L (Bu Ac aA) p.1.toNat p.2.1 p.2.2 else L) (A.I P p).2.2.1 (A.I P p).2.2.2 H)):=by
 have⟨sg,cl,ol,hI,_⟩:=z.si rfl;have X:=hI.bk z.pb z.Bi (by omega);have hj:=X.j;exact RA w p h I hp (λ_=>⟨HF (by omega) (by omega),by constructor<;>omega,hI.B7.cZ hI.DG⟩) (by have:=X.Al;omega) hL O z.pb.BO ⟨by omega,by omega,by omega⟩ (λk Y=>by have:=W k Y;omega) hl hc
def WV{L:Nat->List Pt}(h:∀k,E7 (L k))(o:Int)(k:Nat)(t v:Int):∀i,E7 (FL L o k t v i):=λi=>by
 unfold FL;split
 ·unfold I3;split
  ·exact KM (h k) _ _
  ·exact h i
 ·exact h i
def Rg(aA Ac:Int)(z:List Pu)(hp:∀p∈z,B8 p):Rel (En (Bu Ac aA) z) z aA Ac:=by
 have key:∀n (l:List Pu),l.length=n->(∀p∈l,B8 p)->Rel (En (Bu Ac aA) l) l aA Ac/\∀k,E7 (En (Bu Ac aA) l k):=by
  intro n
  induction n with
  | zero=>
   intro l h _;obtain rfl:=G4.1 h;exact⟨Rel.b4 aA Ac,λ_=>List.Pairwise.nil⟩
  | succ n ih=>
   intro l h H;rcases Lk l with rfl|⟨r,p,rfl⟩
   ·cases h
   ·rw[Vd]at h H ⊢;have⟨i1,i2⟩:=ih r (by simpa using h) λx hx=>H x (Fx _ hx);have I:=H p (by simp);rw[M9];obtain⟨k,t,v⟩:=p;obtain⟨⟨Y,X⟩,O,_⟩:=I;dsimp only at Y X O ⊢;obtain⟨W,rfl⟩:∃W:Nat,k=W:=⟨k.toNat,by omega⟩;exact⟨i1.ax (λj _=>i2 j) (by omega) O,WV i2 _ _ _ _⟩
 exact(key _ z rfl hp).1
def Zx{W O:List (Int×List Pu)}{I:Option (List Pu)}(h:Lay P A W O I):∀n∈A.j.Al,Cv n:=λn H=>by
 rw[h.bR]at H;obtain⟨x,z,rfl⟩:=C9.1 H;cases I with
 | none=>exact Mc (h.CQ x z).1.1
 | some l=>
  rcases AU.1 z with z|z
  ·exact Mc (h.CQ x z).1.1
  ·simp at z;subst z;exact Mc h.AP.2.2.2.2
def LX{x y a b:Nat}(z:x<=a)(h:y<=b){c:Nat}(H:a*b<=c):x*y<=c:=AH (HN z h) H
def A0L(X:FN N)(hN:N<=330000)(w:World)(h:SF w sb ab b 0 aA Ak Ac false L A P FT)(Y:∀k,FT k->k<w.heap.size)(H:St t A P puts Ag o false)(ht:t+1<=330000)(hpN:puts.length<=N)(hw:1<=Ak/\Ak<=4611686018427387904)(hL:Lets B w)(aB:∀k,FT k->B<=k):
 Aj 19 #[A7 sb] w (Au (A0 (A.aQ P Ak).1) λw'=>Ax w FT w' (λw' O=>SF w' sb ab b 0 aA Ak Ac (decide ((A.aQ P Ak).1≠0)) L (A.aQ P Ak).2.1 (A.aQ P Ak).2.2 O)):=by
 have⟨sg,cl,ol,hI,_⟩:=H.si rfl;have z:=hI.bk H.pb H.Bi (by omega);have hj:=z.j;have hs:=z.s;have hsg:=z.segs;have hlg:=z.Al;have hall:=hI.CK.2.2;have hl0:(Cl sg cl ol).length=(Az sg).length+(Az cl++ol.getD []).length:=by unfold Cl;rw[AX]
 have hp:=hI.B7.puts hI.DG;refine A0M w (A.aQ P Ak).1 h Y hL aB (A':=(A.aQ P Ak).2.1) (P':=(A.aQ P Ak).2.2) λw1 F0 hA h0 W I=>?_;exact A2c X (by omega) w1 hA h0 Ak hw (by rw[hp];dsimp only;omega) (by rw[hp];exact hI.B7.cf) ⟨hs.1,by omega⟩ (by constructor<;>omega) (λx hx=>Th (hI.B7.E2.segs x hx)) H.pb.BO ⟨by omega,by omega,by omega⟩
  (LX (a:=330000) (b:=13201000) (by omega) (by omega) (by decide)) (by omega) (λn hn=>Mc (hI.B7.E2.segs n hn)) (Zx hI.B7) (by omega) W I
def Sb(w:World)(Ft:Nat->Prop)(hd:Bh w b P Ft)(z:∀k,Ft k->k<w.heap.size)(I:PB P t)(aB:DI (Db t) P puts Ag (Bu Ac aA))(hr:Reads (Db t) P puts (Bu Ac aA))(hq:∀p∈puts,B8 p)(Y:puts.length<=t)(aG:Ag<=puts.length)(H:P.D.n.Bf=false)(ht:t<=330000)(hE:Env B w)(hl:1<=aA/\aA<=4611686018427387904)(hw:1<=Ak/\Ak<=4611686018427387904)(hc:AY Ac):
 Calls Tryz.prog 10 #[.pointer (some ⟨b,0,none⟩),.agg #[.int .i64 aA,.int .i64 Ak],.int .i64 Ac] w λe w'=>
  ∃A ab sb L,e=.returned (.tuple #[.pointer (some ⟨sb,0,none⟩),.int .i64 0])/\w.heap.size<=sb/\(∃ps,Ar.aR P=.ok (A,ps))/\St t A P puts Ag (Bu Ac aA) false/\Rel L puts aA Ac/\(∀k,k<8->(L k).length<=t)/\Ax w Ft w' (λw' aE=>SF w' sb ab b 0 aA Ak Ac false L A P aE):=by
 have⟨A,ps,h1,h2,h3,h4⟩:=St.aR I aB hr hq Y aG H ht;have⟨sg,cl,ol,hI,_⟩:=h2.si rfl;have O:=hI.bk I Y (by omega);have hpl:=h3.2.2;have W:=hI.B7.CV;refine(Sc w aA Ak Ac hl hw hc z (P:=P) (Ft:=Ft) (b:=b) (λA' aF h=>by rw[h1]at h;cases h;exact⟨by omega,λp I=>(h4 p I).1⟩) λw1 hk=>?_).mono ?_
 ·have X:=hE.aP hk;refine Us w1 (B5.az hd z hk) (λk aD=>Bm (z k aD) hk.Am) I.BO ⟨by omega,by omega,by omega⟩ (LX (a:=990020) (b:=13201000) (by omega) (by omega) (by decide)) X.1 X.2.1 (λnm hm=>YP (aB.Av nm λe=>EF.1 hm (GQ.2 e))) (λix hx=>?_) (λfirst=>?_)
  ·rw[W]at hx;cases hx;have:=O.segs;exact⟨by omega,LX (a:=330000) (b:=13201000) (by omega) (by omega) (by decide)⟩
  ·have h5:=Ru I.BO (Bv first P.Av);have h6:=IS first P.Av
   have h7:=O.Av;have h8:(Bv first P.Av).length*(40*t+1000)<=13069254020000:=LX (a:=990020) (b:=13201000) (by omega) (by omega) (by decide);omega
 ·rintro e w' (⟨n,q1,-⟩|⟨A',aF,ab,sb,q1,rfl,q2,q3⟩)
  ·rw[h1]at q1;cases q1
  ·rw[h1]at q1;cases q1;refine⟨A,ab,sb,_,rfl,q2,⟨_,h1⟩,h2,?_,λk hk=>AH (Ma _ k _ ps rfl) (by omega),q3⟩;exact XM (Rg aA Ac ps h4) hq h3
end
end
end Go.Proofs.YtodcnkbblippnabGreatDoor
