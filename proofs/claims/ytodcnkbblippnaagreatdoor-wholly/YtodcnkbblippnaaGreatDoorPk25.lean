/- Part 25 of a proof: walks of the program. -/
import Derived.Test.YtodcnkbblippnaaGreatDoorPk24
namespace Go.Proofs.YtodcnkbblippnaaGreatDoor
set_option maxRecDepth 100000
set_option maxHeartbeats 32000000
set_option linter.defProp false
open Go.Proofs.Tryz
section
open Go.RowKit
attribute [local go_sem ↓] Go.wp_at_zero Go.wp_at_succ
section
variable {w w':World} {t t' H xb sb ab b B N:Nat} {aA A6:Int} {puts:List Pu} {A8:Nat} {ro aB:Bool} {P:PD} {sv:Value}
def A0v(w:World)(a d c3:Int)(z:Value)(h:KO t H xb sb ab b aA A6 puts A8 ro P w)(W:P.D.n.AF=false)(hcl : -549755813888<=A6/\A6<=549755813888+100*(t:Int)):
 Af 73 #[A5 xb,.agg #[A0 3,A0 a,A0 d,A0 c3,z]] w (Aj (.bool true) λw'=>E4 t H xb w w'):=by
 have I:=(A3.I Ab w).ai (BI 3 a d c3 z);obtain⟨o0,o1,o2,o3,-⟩:=GP w 3 a d c3 z;have b1:A7 (w.alloc (BI 3 a d c3 z)) xb 1 (A5 sb):=(h.au I).Ag.c1;have Y:Hid (Af 37 #[A5 sb,A0 a,A0 d,A0 c3] (w.alloc (BI 3 a d c3 z)).drew λe w'=>(∃x y,e=.returned (.tuple #[x,y]))/\A3 Ab w w'):=by
  refine((h.au I.af).fw a d c3).mono ?_;rintro e w'⟨h1,h2⟩;exact⟨h1,I.af.tr h2⟩
 have aH:=A1 h;have aF:Hid (∀w',A3 Ab w w'->Af 36 #[A5 b] w' λe aD=>e=.returned (.bool false)/\w'=aD):=λw' O=>by
  have:=(h.au O).AF
  rwa [W]at this
 have E:Hid (∀w',A3 Ab w w'->E4 t H xb w w'):=λw' O=>⟨O.aa λ_ _ h=>h.elim,(KI.ck (h.au O) W hcl).aa (Ep t)⟩
 unfold BI at o0 o1 o2 o3 b1 Y;clear h W I hcl
 go_enter func73,ntmps73
 go_wp2;refine BR (λw'=>A7 w' xb 1 (A5 sb)/\A7 w' w.heap.size 1 (A0 a)/\A7 w' w.heap.size 2 (A0 d)/\A7 w' w.heap.size 3 (A0 c3)) 10
  (Br [0,1,2,3,4,5,6,7,8,9] []) ⟨b1,o1,o2,o3⟩ ?_
 iterate 10 (refine Bf ?_;(try simp only[An]))
 refine Bl ?_;simp only[BK,BJ];go_wp2_with (fail);refine Y.m ?_;rintro e w2⟨⟨x,y,rfl⟩,L⟩;have x0:=(aH.o.au L).Ag.c0;have aE:=A1 (aF.o w2 L);have aG:=A1 (E.o w2 L);clear aF E L Y;go_wp2_with (go_at_call 36;refine aE.m ?_;rintro e w3⟨rfl,rfl⟩);go_ret;exact⟨rfl,aG.o⟩
def A0x(w:World)(d a z c3:Int)(E:Value)(h:KO t H xb sb ab b aA A6 puts A8 ro P w)(Y:P.D.n.AF=false)(hcl : -549755813888<=A6/\A6<=549755813888+100*(t:Int))(hk:d∉([1,2,3,4,6,7,8,9,10,11]:List Int)):
 Af 73 #[A5 xb,.agg #[A0 d,A0 a,A0 z,A0 c3,E]] w (Aj (.bool true) λw'=>E4 t H xb w w'):=by
 have I:=(A3.I Ab w).ai (BI d a z c3 E);obtain⟨o0,-⟩:=GP w d a z c3 E;have b0:A7 (w.alloc (BI d a z c3 E)) xb 0 (A5 b):=(h.au I).Ag.c0;have b1:A7 (w.alloc (BI d a z c3 E)) xb 1 (A5 sb):=(h.au I).Ag.c1;have aE:Hid (Af 36 #[A5 b] (w.alloc (BI d a z c3 E)) λe aD=>e=.returned (.bool false)/\(w.alloc (BI d a z c3 E))=aD):=by
  have:=(h.au I).AF
  rwa [Y]at this
 have W:Hid (E4 t H xb w (w.alloc (BI d a z c3 E))):=⟨I.aa λ_ _ h=>h.elim,(KI.ck (h.au I) Y hcl).aa (Ep t)⟩;simp only[BQ,A4f,or_false,not_or]at hk;obtain⟨h1,h2,h3,h4,h6,h7,h8,h9,L,O⟩:=hk;have n1:(d==1)=false:=Ea.2 h1;have n2:(d==2)=false:=Ea.2 h2;have n3:(d==3)=false:=Ea.2 h3;have n4:(d==4)=false:=Ea.2 h4;have n6:(d==6)=false:=Ea.2 h6;have n7:(d==7)=false:=Ea.2 h7;have n8:(d==8)=false:=Ea.2 h8;have n9:(d==9)=false:=Ea.2 h9;have n10:(d==10)=false:=Ea.2 L;have n11:(d==11)=false:=Ea.2 O;unfold BI at o0 b0 b1 aE W;clear h Y I hcl h1 h2 h3 h4 h6 h7 h8 h9 L O
 go_enter func73,ntmps73
 go_wp2_with (go_at_call 36;refine aE.m ?_;rintro e w3⟨rfl,rfl⟩);go_ret;exact⟨rfl,W.o⟩
def A0t(w:World)(a Y c3:Int)(tv:Value)(h:KO t H xb sb ab b aA A6 puts A8 ro P w)(hd:P.D.n.AF=false)(hcl : -549755813888<=A6/\A6<=549755813888+100*(t:Int))(ht:t<=200000)(ha:AE a):
 Af 73 #[A5 xb,.agg #[A0 4,A0 a,A0 Y,A0 c3,tv]] w (Aj (.bool true) λw'=>E4 t H xb w w'):=by
 have hA:=(A3.I Ab w).ai (BI 4 a Y c3 tv);obtain⟨o0,o1,o2,o3,-⟩:=GP w 4 a Y c3 tv;have b1:A7 (w.alloc (BI 4 a Y c3 tv)) xb 1 (A5 sb):=(h.au hA).Ag.c1;obtain⟨p1,aI,-⟩:=KM a 100 ha (by decide);have aK:=A1 p1;clear p1;generalize D6 a 100=pc at aK aI;have aG:H<=xb:=by obtain⟨L,A,FT,k1,-⟩:=h;exact k1.up
 have W:FF A6 pc=A6+pc:=by unfold FF;split<;>omega
 have aF:Hid (Af 27 #[A5 sb,A0 pc] (w.alloc (BI 4 a Y c3 tv)).drew (Aj (A0 0) λw'=>CN w' xb ⟨A5 b,A5 sb,A6⟩/\
  (Af 38 #[A5 sb] w' (Aj (.agg #[.bool ro,A0 (A6+pc)]) λE=>CN E xb ⟨A5 b,A5 sb,A6⟩/\
   CN (E.sC xb 2 (A0 (A6+pc))) xb ⟨A5 b,A5 sb,A6+pc⟩/\(Af 36 #[A5 b] (E.sC xb 2 (A0 (A6+pc))) λe aJ=>e=.returned (.bool false)/\(E.sC xb 2 (A0 (A6+pc)))=aJ)/\E4 t H xb w (E.sC xb 2 (A0 (A6+pc))))))):=by
  refine((h.au hA.af).dd pc (by omega)).mono ?_;rintro e w'⟨rfl,k1,L,A,FT,k2,k3⟩;rw[W]at k2 k3;obtain⟨lv,F0,q,-⟩:=k2.Em;refine⟨rfl,k2.Ag,(R6 w' q.Ag).mono ?_⟩;rintro e E⟨rfl,k4⟩;have d:=k2.Ag.au k4;have hc:A3 (One xb) E (E.sC xb 2 (A0 (A6+pc))):=(A3.I (One xb) E).aq (b:=xb) rfl 2 _;have hk:=k3 _ (d.s2 (A6+pc)) ((k4.aa (S':=One xb) λ_ _ h=>h.elim).tr hc);have z:=hk.AF;rw[hd]at z;exact⟨rfl,d,d.s2 _,z,(((hA.af.aa (S':=Up H) λ_ _ h=>h.elim).tr k1).Aw k4 λ_ h _=>h.elim).Aw hc λ_ e _=>(by cases e;exact aG),KI.ck (hk.aa (Ep t)) hd ⟨by omega,by omega⟩⟩
 have hfd:∀w':World,(Instr.field 74 (.agg #[.bool ro,A0 (A6+pc)]) 1).run Tryz.prog w'=.ok (A0 (A6+pc)) w':=λ_=>by kernel_rfl
 unfold BI at o0 o1 o2 o3 b1 aF;clear h hd hA hcl W
 go_enter func73,ntmps73
 go_wp2;refine BR (λw'=>A7 w' xb 1 (A5 sb)/\A7 w' w.heap.size 1 (A0 a)) 7
  (Br [0,1,2,3,4,5,6] [6]) ⟨b1,o1⟩ ?_
 iterate 6 (refine Bf ?_;(try simp only[An]))
 refine Bn λK hK=>?_;go_simp;refine(aK.o _).mono ?_;rintro e E⟨rfl,rfl⟩;refine hK _ _ ⟨b1,o1⟩ (λhS=>?_)
 (try simp only[An])
 refine Bl ?_;simp only[BK,BJ];go_wp2_with (fail);refine aF.m ?_;rintro e E⟨rfl,d,aD⟩;have x1:=d.c1;have ST:=A1 aD;clear aD aF d;go_wp2_with (fail);refine ST.m ?_;rintro e w3⟨rfl,O,aE,z,I⟩;have y2:=O.c2;have f2:=O.fz 2;have z0:=aE.c0;have aL:=A1 z;have aH:=A1 I;clear O aE z I ST;go_wp2_with (go_at_call 36;refine aL.m ?_;rintro e w4⟨rfl,rfl⟩);go_ret;exact⟨rfl,aH.o⟩
def A0F(W:DU N)(hN:N<=200000)(w:World)(I a z c3:Int)(E:Value)(h:KI t H xb w)(ht:t+3<=200000)(aG:t+2<=N)(hE:Env B w)(L:B<=H)(ha:AE a)(hb:AE z)(aH:AE c3)(aF:F7 H w E):
 Calls Tryz.prog 73 #[.pointer (some ⟨xb,0,none⟩),.agg #[.int .i64 I,.int .i64 a,.int .i64 z,.int .i64 c3,E]] w λe w'=>e=.returned (.bool true)/\E4 t H xb w w':=by
 by_cases h1:I=1
 ·subst h1;exact A0y W hN w a z c3 E h ht aG hE L ha
 by_cases h9:I=9
 ·subst h9;exact A0D w a z c3 E h (by omega) ha aF
 by_cases aD:I=10
 ·subst aD;exact A0C w a z c3 E h ha
 by_cases aE:I=11
 ·subst aE;exact A0B w a z c3 E h ha hb
 obtain⟨A6,d,⟨sb,ab,b,aA,puts,A8,ro,P,O,Y⟩|⟨b,puts,A8,aB,P,O⟩⟩:=h
 ·by_cases h2:I=2
  ·subst h2;exact A0w w a z c3 E O Y d (by omega) hE.1 L ha hb aH
  by_cases h3:I=3
  ·subst h3;exact A0v w a z c3 E O Y d
  by_cases h4:I=4
  ·subst h4;exact A0t w a z c3 E O Y d (by omega) ha
  by_cases h6:I=6
  ·subst h6;exact A0u W hN w a z c3 E O Y d (by omega) hE.1 L (by omega)
  by_cases h7:I=7
  ·subst h7;exact A0A W hN w a z c3 E O Y d (by omega) hE.1 L (by omega)
  by_cases h8:I=8
  ·subst h8;exact A0E W hN w a z c3 E O Y d (by omega) hE.1 L (by omega)
  exact A0x w I a z c3 E O Y d (by simp[h1,h2,h3,h4,h6,h7,h8,h9,aD,aE])
 ·exact A0z w I a z c3 E O d ⟨h1,h9,aD,aE⟩
end
section
variable {w w':World} {t H xb B N g o n:Nat} {A6:Int}
def Jv(c:Int):Int:=D6 c 1099511627776-549755813888
def Xi(c:Int): -549755813888<=Jv c/\Jv c<549755813888:=by
 have:=HI c 1099511627776 (by decide);unfold Jv;omega
def A0G(w:World)(c:Int)(z:AE c):Af 30 #[A0 c] w (Aj (A0 (Jv c)) λw'=>w=w'):=by
 have d:=A1 (JL w c 1099511627776 z (by decide));have h:=HI c 1099511627776 (by decide);unfold Jv;generalize D6 c 1099511627776=pc at d h ⊢;have ew:IntKind.i64.wrap (pc-549755813888)=pc-549755813888:=by simp[IntKind.wrap,IntKind.bits,IntKind.signed];omega
 go_enter func30,ntmps30
 go_wp2_with (go_at_call 20;refine d.m ?_;rintro e w'⟨rfl,rfl⟩);go_ret;exact⟨rfl,rfl⟩
def Trb(w:World)(xb:Nat)(w':World):Prop:=A3 (λ_=>False) w w'/\∃A6 h ab b d puts A8 P,KO 190000 w.heap.size xb h ab b d A6 puts A8 false P w'/\P.D.n.AF=false/\Still P/\(-549755813888<=A6/\A6<=549755813888+100*190000)
def KI.eY(W:DU 200000)(h:KI t H xb w)(ht:t<=189000)(Al:Int)(L:AE Al)(hE:Env B w)(Y:B<=H):
 Af 33 #[A5 xb,A0 Al] w (Aj (.bool true) λw'=>A3 (Up H) w w'/\∃A6 E ab b d puts A8 P,KO 190000 H xb E ab b d A6 puts A8 false P w'/\P.D.n.AF=false/\Still P/\(-549755813888<=A6/\A6<=549755813888+100*190000)):=by
 obtain⟨A6,aA,O⟩:=h;have key:∀ {b:Nat} {sv:Value} {puts:List Pu} {A8:Nat} {z:Bool} {P:PD},KC t H xb b sv A6 puts A8 z P w->Af 33 #[A5 xb,A0 Al] w (Aj (.bool true) λw'=>A3 (Up H) w w'/\∃A6 E ab b d puts A8 P,KO 190000 H xb E ab b d A6 puts A8 false P w'/\P.D.n.AF=false/\Still P/\(-549755813888<=A6/\A6<=549755813888+100*190000)):=λO=>by
  refine(Mp W (by decide) w Al L O (by omega) (by omega) hE Y).mono ?_;rintro e w'⟨rfl,I,E,ab,b2,m,P2,q1,-,-,q4,q5,-⟩;exact⟨rfl,I,A6,E,ab,b2,_,_,_,P2,q1.aa (by omega),q4,q5,aA.1,by omega⟩
 rcases O with⟨E,ab,b,d,puts,A8,ro,P,I,-⟩|⟨b,puts,A8,z,P,I⟩
 ·exact key (I.ca false)
 ·exact key I
def A0r(O:DU 200000)(w:World)(A6:Int)(hcl : -549755813888<=A6/\A6<549755813888)(cap:Nat)(hS:PN w g o n)(hn:n<=180000)(hg:n≠0->g<w.heap.size)(hE:Env B w)(sv:Value)(Y:sv=.slice (some (Ac g o)) n cap\/(n=0/\∃x,sv=.slice x 0 cap)):
 Af 29 #[A0 A6,sv] w λe w'=>∃xb,e=.returned (A5 xb)/\Trb w xb w':=by
 have z:∃a,sv=.slice a n cap/\(n≠0->a=some (Ac g o)):=by
  rcases Y with rfl|⟨rfl,x,rfl⟩
  ·exact⟨_,rfl,λ_=>rfl⟩
  ·exact⟨x,rfl,λh=>absurd rfl h⟩
 obtain⟨ad,rfl,aA⟩:=z;have aJ:=A1 (TA (B:=B) O ⟨by decide,by decide⟩ w A6 (by constructor<;>omega) hE);have aM:=A1 hS;have aK:=A1 hg;have aH:=A1 aA;have aF:=A1 hE;have aD:=A1 hcl;have hnI:(n:Int)<=180000:=by omega
 clear Y hE hcl hS hg aA
 go_enter func29,ntmps29
 go_wp2_with (fail);refine aJ.m ?_;rintro e w1⟨xb,rfl,k1,sb,ab,b,P,h1,h2,-⟩;have aL:Hid (A3 (Up w.heap.size) w w1/\KI 0 w.heap.size xb w1):=⟨k1.aa λ_ _ h=>h.elim,A6,⟨aD.o.1,by have:=aD.o.2;omega⟩,.inl ⟨sb,ab,b,_,[],0,false,P,h1,h2⟩⟩;clear aJ k1 h1 h2;go_wp2;go_loopw [6,7] (λiv _ wr=>∃k:Nat,k<=n/\iv=A0 k/\Hid (A3 (Up w.heap.size) w wr/\KI k w.heap.size xb wr)) (λiv _ _=>n-(intOf iv).toNat)
 case atStart=>exact⟨0,Cq _,rfl,aL⟩
 case round=>
  obtain⟨k,hk,rfl,d⟩:=hrel;obtain⟨W,aG⟩:∃W,W=wr:=⟨_,rfl⟩;subst aG;have k0:=C2 k;have aE:Hid (Env B W):=aF.o.aj d.o.1 λx e=>by unfold Up at e;have:=aF.o.1.1;omega
  by_cases aI:k<n
  ·(have i1:(k:Int)<(n:Int):=by omega);obtain rfl:=aH.o (by omega);have hgl:=aK.o (by omega);obtain⟨kd,a,b3,c3,tv,ia,ib,ic,s0,s1,s2,s3,s4,aB⟩:=aM.o k aI;(have up:∀x u,A7 w g x u->A7 W g x u:=λx u hu=>K4 d.o.1 hu λe=>by unfold Up at e;omega);have s0:=up _ _ s0;have s1:=up _ _ s1;have s2:=up _ _ s2;have s3:=up _ _ s3;have s4:=up _ _ s4;(have ek:IntKind.i64.wrap ((k:Int)+1)=(k:Int)+1:=by simp[IntKind.wrap,IntKind.bits,IntKind.signed];omega);have ST:=A1 (A0F O (by decide) W kd a b3 c3 tv d.o.2 (by omega) (by omega) aE.o aF.o.1.1 ia ib ic (aB.aj d.o.1));clear up aB;go_wp2_with (go_at_call 73;refine ST.m ?_;rintro e w5⟨rfl,k5,E⟩;have I:=A1 k5;have L:=A1 E);go_roundw
   case rel=>exact⟨k+1,by omega,by simp,d.o.1.tr I.o,L.o⟩
   case measure=>simp[intOf];omega
  ·(obtain rfl:k=n:=by omega);(have i1:¬(k:Int)<(k:Int):=by omega);have ST:=A1 (d.o.2.eY O (by omega) 50 ⟨by decide,by decide⟩ aE.o aF.o.1.1);go_wp2_with (go_at_call 33;refine ST.m ?_;rintro e w5⟨rfl,k5,E⟩;have I:=A1 k5;have L:=A1 E);go_ret;exact⟨xb,rfl,⟨d.o.1.os.symm ▸ I.o.os,I.o.Fg.trans d.o.1.Fg,I.o.Fk.trans d.o.1.Fk,AR d.o.1.Ao I.o.Ao,λi hi _=>(d.o.1.tr I.o).Ap i hi (by unfold Up;omega)⟩,L.o⟩
end
def FD(t H xb sb ab b:Nat)(aA A6:Int)(puts:List Pu)(A8:Nat)(w:World):Prop:=∃P,KO t H xb sb ab b aA A6 puts A8 false P w/\P.D.n.AF=false/\Still P
section
variable {w w':World} {t H xb sb ab b B N:Nat} {aA A6:Int} {puts:List Pu} {A8:Nat}
def FD.Ag(h:FD t H xb sb ab b aA A6 puts A8 w):CN w xb ⟨A5 b,A5 sb,A6⟩:=by obtain⟨P,d,-⟩:=h;exact d.Ag
def FD.au(h:FD t H xb sb ab b aA A6 puts A8 w)(E:A3 Ab w w'):FD t H xb sb ab b aA A6 puts A8 w':=by obtain⟨P,z,d⟩:=h;exact⟨P,z.au E,d⟩
def FD.aw(h:FD t H xb sb ab b aA A6 puts A8 w)(L:t+1<=200000)(Y:Lets B w)(d:B<=H)(k a v:Int)(hp:Bh (k,a,v)):
 Af 23 #[A5 sb,A0 k,A0 a,A0 v] w (Aj (A0 0) λw'=>A3 (Up H) w w'/\FD (t+1) H xb sb ab b aA A6 (puts++[(k,a,v)]) A8 w'):=by
 obtain⟨P,z,I,h3⟩:=h;refine(z.aw I L Y d (k,a,v) hp).mono ?_;rintro e w'⟨cd,P2,q,rfl,E,k2,O,k4,-⟩;obtain⟨rfl,W,k6⟩:=k4.eO h3 z.pu.2.2.2.1;obtain rfl:q=_:=k2.elim id λh=>absurd rfl h.2;exact⟨rfl,E,P2,O,k6,W⟩
def FD.cy(d:DU N)(hN:N<=200000)(f:Nat)(hf:Jl f)(h:FD t H xb sb ab b aA A6 puts A8 w)(Y:t+1<=200000)(E:t<=N)(hL:Lets B w)(z:B<=H):
 Af f #[A5 sb] w (Aj (A0 0) λw'=>A3 (Up H) w w'/\FD (t+1) H xb sb ab b aA A6 puts puts.length w'):=by
 obtain⟨P,L,W,h3⟩:=h;refine(L.cy d hN f hf W Y E hL z).mono ?_;rintro e w'⟨cd,P2,rfl,O,I,k4⟩;obtain⟨rfl,k5,k6⟩:=k4.eO h3 L.pu.2.2.2.1;rw[Ai rfl]at I;exact⟨rfl,O,P2,I,k6,k5⟩
def FD.aT(h:FD t H xb sb ab b aA A6 puts A8 w)(W:DU N)(hN:N<=200000)(ht:t+3<=200000)(aD:t+2<=N)(d z:Int)(I:Value)(aB:AE d)(aE:AE z)(L:F7 H w I)(hE:Env B w)(E:B<=H):
 Calls Tryz.prog 32 #[.pointer (some ⟨b,0,none⟩),.int .i64 d,I] w λe w'=>e=.returned (.tuple #[])/\A3 (Up H) w w'/\
  Calls Tryz.prog 33 #[.pointer (some ⟨xb,0,none⟩),.int .i64 z] w' λe w2=>e=.returned (.bool true)/\A3 (Up H) w' w2/\∃sb ab b m,FD t H xb sb ab b (1+D6 z 300) A6 (puts.take m) A8 w2/\A8<=m:=by
 obtain⟨P,h1,h2,h3⟩:=h;obtain⟨ts,k1,k2,k3⟩:=L;refine((h1.ca true).aT (A3.I _ w) (by omega) d I ts aB k1 k2 (λad n c x e0 e1 e2=>.inl (k3 ad n c x e0 e1 e2))).mono ?_;rintro e w1⟨rfl,g1,P2,g2,-,-⟩;refine⟨rfl,g1,(Mp W hN w1 z aE g2 ht aD (hE.aj g1 λk hk=>AR E hk) E).mono ?_⟩;rintro e w2⟨rfl,g3,O,Y,b2,m,aF,q1,q2,q3,q4,q5,-⟩;exact⟨rfl,g3,O,Y,b2,m,⟨aF,q1,q4,q5⟩,q2⟩
end
def I5(l:List Pu)(now v v2:Int):List Pu:=((l++[(2,now,v)])++[(2,now+5,v)])++[(2,now,v2)]
def No(t H xb:Nat)(now v v2:Int)(w:World):Prop:=∃sb ab b aA l r A8,FD t H xb sb ab b aA now (I5 l now v v2++r) A8 w/\(I5 l now v v2).length<=A8/\∀p∈r,p.1=3
section
variable {w:World} {t H xb sb ab b B N:Nat} {aA now v v2:Int}
def Ty{l r:List Pu}{A8:Nat}(h:FD t H xb sb ab b aA now (I5 l now v v2++r) A8 w)(L:∀p∈r,p.1=3):
 (Af 26 #[A5 sb,A0 2,A0 now,A0 v2] w (Aj (.bool true) λw'=>A3 Ab w w'))/\
 (Af 26 #[A5 sb,A0 2,A0 (now+5),A0 v] w (Aj (.bool true) λw'=>A3 Ab w w')):=by
 obtain⟨P,E,-⟩:=h;obtain⟨I,O⟩:=A0Z (now:=now) (v:=v) (v2:=v2) (Ad:=1000) l r L (by unfold FM;simp only[Dn];omega) (by unfold FM;simp only[Dn];omega);have d:=E.dL 2 (by decide) now v2;have z:=E.dL 2 (by decide) (now+5) v;unfold I5 at d z;rw[show (((2:Nat):Int))=2 from rfl]at d z;rw[I]at d;rw[O]at z;simp only[MG]at d z;exact⟨d,z⟩
def A0H(l r:List Pu)(m:Nat)(z:(I5 l now v v2).length<=m)(E:∀p∈r,p.1=3):∃d,(I5 l now v v2++r).take m=I5 l now v v2++d/\∀p∈d,p.1=3:=by
 refine⟨r.take (m-(I5 l now v v2).length),?_,λp h=>E p (HQ h)⟩;rw[List.take_append,Er z]
end
end
section
open Go.ChangeAt Go.ChangeShapes Go.RowKit Go.WideShapes
def Tryz.ev:Tryz.prog.cellsOf 72=5:=by kernel_rfl
section
variable {H:Type} {enc:TypeId×Value->H} {W:World} {sp:Nat->Bool} {aA:Nat}
def SD{I:List Value}{x:DataW H×List MemPlace}(h:DataW.trod enc Tryz.prog W 0 sp true aA 72 I=some x):
 ∃z a b c O,I=[.int .i64 z,.int .i64 a,.int .i64 b,.int .i64 c,O]/\AE a/\AE b/\AE c/\6<=Rows.uptoBulk x.1/\F7 W.heap.size W O:=by
 obtain⟨xs,n,rfl,L,Y,hx,E⟩:=DataW.trod_struct underlying72 h;rw[Tryz.ev]at Y;have hx5:xs.length=5:=hx;have d:6<=Rows.uptoBulk x.1:=by
  have h5:=A28 (xs.map (·.1));rw[Fx]at h5;rw[L];simp only[Rows.uptoBulk];omega
 match I,Y with
 | [c0,c1,c2,c3,c4],_=>
 have f0:DataW.trod enc Tryz.prog W 0 sp true n 3 (([c0,c1,c2,c3,c4].drop 0).take (Tryz.prog.cellsOf 3))=xs[0]?:=E 0 _ rfl;have f1:DataW.trod enc Tryz.prog W 0 sp true n 3 (([c0,c1,c2,c3,c4].drop 1).take (Tryz.prog.cellsOf 3))=xs[1]?:=E 1 _ rfl;have f2:DataW.trod enc Tryz.prog W 0 sp true n 3 (([c0,c1,c2,c3,c4].drop 2).take (Tryz.prog.cellsOf 3))=xs[2]?:=E 2 _ rfl;have f3:DataW.trod enc Tryz.prog W 0 sp true n 3 (([c0,c1,c2,c3,c4].drop 3).take (Tryz.prog.cellsOf 3))=xs[3]?:=E 3 _ rfl;have f4:DataW.trod enc Tryz.prog W 0 sp true n 26 (([c0,c1,c2,c3,c4].drop 4).take (Tryz.prog.cellsOf 26))=xs[4]?:=E 4 _ rfl;rw[Tryz.fG]at f4;rw[Tryz.ez]at f0 f1 f2 f3;rw[E5 (by omega)]at f0 f1 f2 f3 f4;obtain⟨z,e0,-,-⟩:=Nt underlying3 f0;obtain⟨a,e1,-,w1⟩:=Nt underlying3 f1;obtain⟨b,e2,-,w2⟩:=Nt underlying3 f2;obtain⟨c,e3,-,w3⟩:=Nt underlying3 f3;obtain rfl:c0=.int .i64 z:=(Jk (show [c0]=[.int .i64 z] from e0)).1;obtain rfl:c1=.int .i64 a:=(Jk (show [c1]=[.int .i64 a] from e1)).1;obtain rfl:c2=.int .i64 b:=(Jk (show [c2]=[.int .i64 b] from e2)).1;obtain rfl:c3=.int .i64 c:=(Jk (show [c3]=[.int .i64 c] from e3)).1;exact⟨z,a,b,c,c4,rfl,Gx w1,Gx w2,Gx w3,d,NL f4⟩
def XL{v:Value}{d:DataW H}{ps:List MemPlace}(hv:∃a len cap,v=.slice a len cap)(h:DataW.Trod enc Tryz.prog W 0 (λ_=>true) true 55 v d ps)(hd:Rows.uptoBulk d<=1048576):
 ∃g o n cap,PN W g o n/\n<=180000/\(n≠0->g<W.heap.size)/\(v=.slice (some ⟨g,o,none⟩) n cap\/(n=0/\∃x,v=.slice x 0 cap)):=by
 obtain⟨ad,Y,cp,rfl⟩:=hv;obtain⟨aA,h⟩:=h;rcases Deep.open_slice underlying55 h with⟨L,-⟩|⟨a,len,cap,m,n,E,Pl,L,-,hlc,-,hm,hx,aD⟩
 ·simp[Value.cells]at L;obtain⟨rfl,rfl,rfl⟩:=L;exact⟨0,0,0,0,λi O=>absurd O (Lt _),by decide,λh=>absurd rfl h,.inr ⟨rfl,none,rfl⟩⟩
 ·simp[Value.cells]at L;obtain⟨rfl,rfl,rfl⟩:=L;rw[Tryz.ev]at aD;have aF:Y<=180000:=by
   have e:d=.slice ((List.range Y).map E) ((List.range (m-Y)).map λj=>E (Y+j)):=EK Prod.fst hx;rw[e]at hd;simp only[Rows.uptoBulk]at hd;have:=A27 ((List.range Y).map E) λx hx=>by
    obtain⟨i,O,rfl⟩:=Cr.1 hx;have hi':=Kg.1 O;obtain⟨aE,hc,ht⟩:=aD i (by rw[hm];split<;>omega);obtain⟨_,_,_,_,_,-,-,-,-,h6,-⟩:=SD ht;exact h6
   simp only[Fx,A4m]at this;omega
  by_cases h0:Y=0
  ·subst h0;exact⟨0,0,0,cp,λi O=>absurd O (Lt _),by decide,λh=>absurd rfl h,.inr ⟨rfl,some a,rfl⟩⟩
  ·have key:∀i,i<Y->∃kd x y z tv,AE x/\AE y/\AE z/\W.cell? ((a.add (i*5)).add 0)=some (.int .i64 kd)/\W.cell? ((a.add (i*5)).add 1)=some (.int .i64 x)/\W.cell? ((a.add (i*5)).add 2)=some (.int .i64 y)/\W.cell? ((a.add (i*5)).add 3)=some (.int .i64 z)/\W.cell? ((a.add (i*5)).add 4)=some tv/\F7 W.heap.size W tv:=λi O=>by
    obtain⟨aE,hc,ht⟩:=aD i (by rw[hm];split<;>omega);obtain⟨-,-,I⟩:=World.cells?_some hc;obtain⟨kd,x,y,z,tv,rfl,ix,iy,iz,-,aB⟩:=SD ht;exact⟨kd,x,y,z,tv,ix,iy,iz,I 0 (by decide),I 1 (by decide),I 2 (by decide),I 3 (by decide),I 4 (by decide),aB⟩
   obtain⟨g,o,spot⟩:=a;obtain⟨kd,_,_,_,_,-,-,-,k0,-⟩:=key 0 (by omega);have aG:spot=none:=by
    cases spot with
    | none=>rfl
    | some s=>
     simp[Addr.add,World.cell?]at k0;split at k0<;>cases k0
   subst aG;have hg:g<W.heap.size:=by
    have:=GV W _ k0;simpa[Addr.add] using this
   refine⟨g,o,Y,cp,λi O=>?_,aF,λ_=>hg,.inl rfl⟩;obtain⟨kd,x,y,z,tv,ix,iy,iz,s0,s1,s2,s3,s4,aB⟩:=key i O;have ha:∀j,((⟨g,o,none⟩:Addr).add (i*5)).add j=⟨g,o+i*5+j,none⟩:=λj=>by
    unfold Addr.add;by_cases h1:i*5=0<;>by_cases h2:j=0<;>simp[h1,h2]
   rw[ha]at s0 s1 s2 s3 s4;exact⟨kd,x,y,z,tv,ix,iy,iz,s0,s1,s2,s3,s4,aB⟩
end
end
end Go.Proofs.YtodcnkbblippnaaGreatDoor
