/- Part 16 of a proof: walks of the program. -/
import Derived.Test.YtodcnkbblippnabGreatDoorPart15
namespace Go.Proofs.YtodcnkbblippnabGreatDoor
set_option maxRecDepth 100000
set_option maxHeartbeats 32000000
set_option linter.defProp false
open Go.Proofs.Tryz
section
open Go.RowKit
def Ki(w:World)(Ft:Nat->Prop)(fb:Nat)(w':World)(b:Nat)(D':DS)(F':Nat->FC):Prop:=
 A5 (λk=>Ft k\/k=fb) w w'/\∃h,B5 w' b D' F' h/\(∀k,h k->k<w'.heap.size)/\∀k,h k->Ft k\/w.heap.size<=k
def H6(D:DS)(F:Nat->FC)(name:ByteArray)(pc:List UInt8):Bool:=
 decide ((Ct (Bj D F name ⟨pc.toArray⟩).2.1 (Bj D F name ⟨pc.toArray⟩).2.2 name).1-(Ct D F name).1=pc.length)
def TR(D:DS)(F:Nat->FC)(name:ByteArray):0<=(Ct D F name).1:=by
 unfold Ct;cases lookup D.A6 name<;>simp
section
variable{w:World}{b fb:Nat}{D:DS}{F:Nat->FC}{Ft:Nat->Prop}{T:TypeId}{name:ByteArray}{s:Nat}
def addF(hf:Be w fb T (A7 b) name s)(hs:s<4294967296)(h:B5 w b D F Ft)(aS:∀k,Ft k->k<w.heap.size)(hn:¬Ft fb)(l:List UInt8)(hroom : -4611686018427387904<=D.n.B1/\D.n.B1<=9223372036854775807)(hu:B6 F D.A6<=4611686018427387904)(hp:0<=D.n.BA/\D.n.BA<=9223372036854775807)(hl:∀f,lookup D.A6 name=some f->(F f).1.length+(l.length+4)<=70368744177664)(hll:l.length<=4611686018427387904)(hz:(Ct (Bj D F name ⟨(l++Ca (AV s l)).toArray⟩).2.1 (Bj D F name ⟨(l++Ca (AV s l)).toArray⟩).2.2 name).1<=70368744177664/\(Ct D F name).1<=70368744177664):
 Aj 192 #[A7 fb,.string ⟨l.toArray⟩] w (Au (.tuple #[.bool (H6 D F name (l++Ca (AV s l))),A0 (Bj D F name ⟨(l++Ca (AV s l)).toArray⟩).1]) λw'=>Be w' fb T (A7 b) name (AV s l)/\Ki w Ft fb w' b (Bj D F name ⟨(l++Ca (AV s l)).toArray⟩).2.1 (Bj D F name ⟨(l++Ca (AV s l)).toArray⟩).2.2):=by
 obtain⟨aB,a1⟩:=hz;have aP:=A4 (QQ w fb T _ name s l hf hs (by omega));have aG:(l++Ca (AV s l)).length=l.length+4:=by simp[Hd]
 generalize hs1:AV s l=s1 at aP aG aB ⊢;generalize hpc:l++Ca s1=pc at aP aG aB ⊢;have bD:∀w',B5 w' b D F Ft->_:=λw' h'=>Uu h' name ⟨pc.toArray⟩ hroom hu hp (λf hf=>by have:=hl f hf;show _+pc.length<=_;omega);have r1:=TR D F name;have r2:=TR (Bj D F name ⟨pc.toArray⟩).2.1 (Bj D F name ⟨pc.toArray⟩).2.2 name;have Y:H6 D F name pc=decide ((Ct (Bj D F name ⟨pc.toArray⟩).2.1 (Bj D F name ⟨pc.toArray⟩).2.2 name).1-(Ct D F name).1=pc.length):=rfl;obtain⟨D',aN⟩:∃D',(Bj D F name ⟨pc.toArray⟩).2.1=D':=⟨_,rfl⟩;obtain⟨F',aJ⟩:∃F',(Bj D F name ⟨pc.toArray⟩).2.2=F':=⟨_,rfl⟩;obtain⟨er,aL⟩:∃er,(Bj D F name ⟨pc.toArray⟩).1=er:=⟨_,rfl⟩;rw[aN,aJ]at Y r2 aB ⊢;rw[aL];rw[aN,aJ,aL]at bD;have bF:∀w',B5 w' b D F Ft->_:=λw' h'=>Nk h' name;have bC:∀w' I,B5 w' b D' F' I->_:=λw' I h'=>Nk h' name;obtain⟨zn,aF⟩:∃zn,(Ct D F name).1=zn:=⟨_,rfl⟩;obtain⟨ze,a0⟩:∃ze,(Ct D F name).2=ze:=⟨_,rfl⟩;obtain⟨yn,aI⟩:∃yn,(Ct D' F' name).1=yn:=⟨_,rfl⟩;obtain⟨ye,aR⟩:∃ye,(Ct D' F' name).2=ye:=⟨_,rfl⟩;rw[aF,aI]at Y;rw[aF]at r1 a1;rw[aI]at r2 aB;rw[aF,a0]at bF;rw[aI,aR]at bC;rw[Y];obtain⟨ok,Y⟩:∃ok,decide (yn-zn=(pc.length:Int))=ok:=⟨_,rfl⟩;rw[Y];have aZ:=A4 Y;have a9:=A4 bD;have aQ:=A4 bF;have a6:=A4 bC;have H:=A4 h;have aT:=A4 aS;have bE:=A4 hn
 go_enter func192,ntmps192
 go_wp2_with (go_at_call 169;refine aP.k ?_;rintro w1⟨bA,bB⟩;have a2:=A4 bA;have aE:=A4 bB);have O:Hid (Be w1 fb T (A7 b) name s1/\B5 w1 b D F Ft):=⟨a2.o,H.o.aM λk hk=>aE.o.Ao k (aT.o k hk) (λe=>bE.o (e ▸ hk))⟩;refine Hb 13 (λy=>{tmps:=#[A7 fb,.string ⟨l.toArray⟩,undef,undef,.bool false,A0 0,.string ⟨pc.toArray⟩,y 12,undef,undef,undef,undef,A7 fb,.string ⟨l.toArray⟩,.string ⟨pc.toArray⟩,y 9,y 0,y 1,y 2,y 3,y 4,y 5,y 6,y 7,y 8,y 10,y 11,undef,undef,undef,undef,undef,undef,undef,undef,undef,undef,undef,undef,undef,undef,undef,undef,undef,undef,undef,undef,undef,undef,undef,undef,undef,undef,undef,undef,undef],defers:=[]}) (λ_=>undef)
  (λw'=>Be w' fb T (A7 b) name s1/\B5 w' b D F Ft/\A5 Ab w1 w') (A5 Ab)
  (λj x w'=>match j with
   | 0=>x=(A7 fb)
   | 1=>x=(A7 fb)
   | 2=>x=(A7 fb)
   | 3=>x=(A7 b)
   | 4=>x=(A7 fb)
   | 5=>x=(A7 fb)
   | 6=>x=.pointer (some (Ad fb 1))
   | 7=>x=.string name
   | 8=>x=.tuple #[A0 zn,A0 ze]
   | 9=>x=.tuple #[A0 zn,A0 ze]
   | 10=>x=A0 zn
   | 11=>x=A0 ze
   | 12=>x=A0 zn
   | _=>True)
  (by kernel_rfl) (by kernel_rfl) rfl ?_ ?_ ?_ ?_
 ·exact⟨O.o.1,O.o.2.ad,(A5.C _ _).ad⟩
 ·intro j x w1 w2 hR a7 hG;split at hG<;>exact hG
 ·clear O;simp only[EU,EL,FP,HJ]
  repeat' (with_reducible apply And.intro)
  all_goals refine⟨?_,(by intro y X _ _ h;exact Bool.noConfusion h),λy x=>rfl⟩
  all_goals
   intro zz X hS hd hw K hK;obtain⟨W,aH,aD⟩:=hS;simp[Gc,Region.binds,Fc,List.filter_cons]at hd;have c0:=W.c0;have c1:=W.c1;have aA:Hid (Be X fb T (A7 b) name s1/\B5 X b D F Ft/\A5 Ab w1 X):=⟨W,aH,aD⟩;have aK:=A4 hK
  all_goals dsimp only
  all_goals try go_simp
  all_goals try with_reducible exact aK.o _ _ _ rfl (by simp[Act.put,hd]) (A5.C _ _) aA.o
  all_goals
   refine(aQ.o X aA.o.2.1).k ?_;rintro w2 rfl;exact aK.o _ _ _ rfl (by simp[Act.put,hd]) (A5.C _ _) aA.o
 intro y X hS hG;have h11:=hG 11 (by omega);have h12:=hG 12 (by omega);have c0:=hS.1.c0;have c1:=hS.1.c1;have aA:=A4 hS;go_wp2;refine Ff (λw'=>Aa w' fb 0 (A7 b)/\Aa w' fb 1 (.string name)) 9
  (BD [0,1,2,3,4,5,6,7,8] []) (by kernel_rfl) (by kernel_rfl) (λ_ _ _ _ _ h=>h) ⟨c0,c1⟩ ?_
 iterate 9 (refine DO (v:=?_) rfl (by rfl) ?_ ?_;rotate_left;(· (intro w' hS;(try dsimp only at hS);go_simp;try with_reducible rfl));(try simp only[BQ]))
 refine Fg ?_;simp only[DA,Dj];have aY:=A4 (a9.o X.drew aA.o.2.1.ad);go_wp2_with (go_at_call 8;refine aY.k ?_;rintro w3 hA;have bG:=A4 hA);have aX:=bG.o.ds;obtain⟨aM,I,aW,aV,aU⟩:=aX;have hsz:=aA.o.1.lt;have O:Hid (Be w3 fb T (A7 b) name s1/\B5 w3 b D' F' I):=⟨aA.o.1.ak aM bE.o,aW⟩;have a3:=A4 aM;have a4:=A4 aV;have a8:=A4 aU;have a5:Hid (∀w',B5 w' b D' F' I->_):=λw' h'=>a6.o w' I h';refine Hb 13 (λz=>{tmps:=#[A7 fb,.string ⟨l.toArray⟩,undef,undef,.bool false,A0 0,.string ⟨pc.toArray⟩,A0 zn,A0 ze,A0 er,z 12,undef,A7 fb,.string ⟨l.toArray⟩,.string ⟨pc.toArray⟩,y 9,y 0,y 1,y 2,y 3,y 4,y 5,y 6,y 7,y 8,y 10,A0 ze,A7 fb,A7 fb,A7 fb,A7 b,A7 fb,A7 fb,.pointer (some (Ad fb 1)),.string name,.string ⟨pc.toArray⟩,A0 er,z 9,z 0,z 1,z 2,z 3,z 4,z 5,z 6,z 7,z 8,z 10,z 11,undef,undef,undef,undef,undef,undef,undef],defers:=[]}) (λ_=>undef)
  (λw'=>Be w' fb T (A7 b) name s1/\B5 w' b D' F' I/\A5 Ab w3 w') (A5 Ab)
  (λj x w'=>match j with
   | 0=>x=(A7 fb)
   | 1=>x=(A7 fb)
   | 2=>x=(A7 fb)
   | 3=>x=(A7 b)
   | 4=>x=(A7 fb)
   | 5=>x=(A7 fb)
   | 6=>x=.pointer (some (Ad fb 1))
   | 7=>x=.string name
   | 8=>x=.tuple #[A0 yn,A0 ye]
   | 9=>x=.tuple #[A0 yn,A0 ye]
   | 10=>x=A0 yn
   | 11=>x=A0 ye
   | 12=>x=A0 yn
   | _=>True)
  (by kernel_rfl) (by kernel_rfl) rfl ?_ ?_ ?_ ?_
 ·exact⟨O.o.1,O.o.2.ad,(A5.C _ _).ad⟩
 ·intro j x w1 w2 hR a7 hG;split at hG<;>exact hG
 ·clear O;simp only[EU,EL,FP,HJ]
  repeat' (with_reducible apply And.intro)
  all_goals refine⟨?_,(by intro y X _ _ h;exact Bool.noConfusion h),λy x=>rfl⟩
  all_goals
   intro zz X hS hd hw K hK;obtain⟨W,aH,aD⟩:=hS;simp[Gc,Region.binds,Fc,List.filter_cons]at hd;have c0:=W.c0;have c1:=W.c1;have aA:Hid (Be X fb T (A7 b) name s1/\B5 X b D' F' I/\A5 Ab w3 X):=⟨W,aH,aD⟩;have aK:=A4 hK
  all_goals dsimp only
  all_goals try go_simp
  all_goals try with_reducible exact aK.o _ _ _ rfl (by simp[Act.put,hd]) (A5.C _ _) aA.o
  all_goals
   refine(a5.o X aA.o.2.1).k ?_;rintro w2 rfl;exact aK.o _ _ _ rfl (by simp[Act.put,hd]) (A5.C _ _) aA.o
 intro z wz hZ hG;have z11:=hG 11 (by omega);have z12:z 12=A0 yn:=hG 12 (by omega);have aO:=A4 hZ;have hbe:(yn-zn==(l.length:Int)+4)=ok:=by
  rw[<-aZ.o,aG,Vl];simp
 go_wp2;go_ret2
 exact⟨rfl,aO.o.1,(((aE.o.ae (λ_ _ h=>.inr h)).AJ aA.o.2.2 (λ_ h _=>h.elim)).AJ a3.o (λ_ h _=>.inl h)).AJ aO.o.2.2 (λ_ h _=>h.elim),
  I,aO.o.2.1,λk hk=>Bm (a4.o k hk) aO.o.2.2.Am,λk hk=>(a8.o k hk).imp id λh=>AH (AH aE.o.Am aA.o.2.2.Am) h⟩
end
def AB(name:List UInt8):Nat:=AV 4294967295 name
def Lets(B:Nat)(w:World):Prop:=
 B<=w.heap.size/\∀w',Below B w w'->(∀k:Nat,1<=k->k<=4->w'.cell? ⟨0,k,none⟩=some (.string ⟨(CO k).toArray⟩))/\Lib.TabIs Tryz.prog w' "internal/strconv.uint64pow10" .u64 Lib.pow10Tab
def Lets.ak{B:Nat}{w w':World}{S:Nat->Prop}(h:Lets B w)(z:A5 S w w')(I:∀k,S k->B<=k):Lets B w':=
 ⟨AH h.1 z.Am,λO H=>h.2 O ((z.dB h.1 λk hk W=>by have:=I k W;omega).trans H)⟩
def Lets.aP{B:Nat}{w w':World}(h:Lets B w)(z:A5 Ab w w'):Lets B w':=h.ak z λ_ h=>h.elim
def SS(s:Int):(CO s).length<=1:=by
 unfold CO;split
 ·simp
 ·split
  ·simp
  ·split
   ·simp
   ·split<;>simp
def Z7(lt:List UInt8)(n:Int):(E0 lt n).length=lt.length+(19-(Lib.itoa n).length)+(Lib.itoa n).length:=by
 unfold E0;have:=Lib.repeatL_length [48] (19-(Lib.itoa n).length);simp only[AX,this];simp
def Sm{s n:Int}(h:(Lib.itoa n).length<=19):(BJ s n).length<=100:=by
 have h1:=SS s;unfold BJ;split
 ·rw[Z7];omega
 ·omega
def LW{B:Nat}{n:Int}(w:World)(k:Nat)(z:1<=k/\k<=4)(hn : -9223372036854775808<=n/\n<=9223372036854775807)(I:(Lib.itoa n).length<=19)(O:Lets B w):
 Calls Tryz.prog 85 #[.int .i64 k,.int .i64 n] w λe w'=>e=.returned (.string ⟨(BJ k n).toArray⟩)/\A5 (λ_=>False) w w':=by
 have⟨h1,h2⟩:=O.2 w (N3 _ _);have H:=h1 k z.1 z.2;by_cases h:k=1\/k=2
 ·have e:BJ k n=E0 (CO k) n:=by unfold BJ;rw[Ah (by omega)]
  rw[e];exact Z6 w k k ⟨rfl,h⟩ (CO k) n hn (by have:=SS k;omega) I H h2
 ·have e:BJ k n=CO k:=by unfold BJ;rw[Ae (by omega)]
  rw[e];refine(SO w k (by omega) (CO k) n H).k ?_;rintro w' rfl;exact⟨rfl,A5.C _ _⟩
def Cv(n:Int):Prop:=0<=n/\n<=9223372036854775807/\(Lib.itoa n).length<=19
section
variable{B:Nat}{n:Int}{p:Value}
def Oy(w:World)(H k:Nat)(hk:1<=k/\k<=4)(hn:Cv n)(hL:Lets B w):
 Aj 76 #[A7 H,A0 k,A0 n] w (Au (.agg #[A7 H,.string ⟨(BJ k n).toArray⟩,.int .u32 (AB (BJ k n))]) λw'=>A5 Ab w w'):=by
 obtain⟨hn1,aE,hd⟩:=hn;have aH:∀w',A5 Ab w w'->_:=λw' hc=>LW (n:=n) w' k hk ⟨by omega,aE⟩ hd (hL.aP hc);have O:(BJ k n).length<=9223372036854775807:=by
  have:=Sm (s:=k) hd;omega
 generalize hnm:BJ k n=nm at aH O ⊢;have aI:∀w',_:=λw'=>UG w' 4294967295 nm (by omega) O;obtain⟨s0,I⟩:∃s0,AB nm=s0:=⟨_,rfl⟩;have aA:∀w',Aj 118 #[.int .u32 4294967295,.string ⟨nm.toArray⟩] w' λe aD=>e=.returned (.int .u32 s0)/\w'=aD:=by rw[<-I];exact aI
 rw[I];have Y:=A4 aH;have aB:=A4 aA
 go_enter func76,ntmps76
 go_wp2_with (fail);refine(Y.o _ ((A5.C _ _).aj _)).k ?_;rintro h X;have z:h.heap[w.heap.size]?=some (.cells #[.pointer none,.string ⟨#[]⟩,.int .u32 0] 119 (0,0)):=X.ak (by show (w.heap.push _)[w.heap.size]?=_;rw[IA]) (by simp);have c0:Aa h w.heap.size 0 (.pointer none):=by simp[Aa,World.cell?,z]
 have c1:Aa h w.heap.size 1 (.string ⟨#[]⟩):=by simp[Aa,World.cell?,z]
 have c2:Aa h w.heap.size 2 (.int .u32 0):=by simp[Aa,World.cell?,z]
 have f0:h.frozen? (Ad w.heap.size 0)=false:=by simp[World.frozen?,z]
 have f1:h.frozen? (Ad w.heap.size 1)=false:=by simp[World.frozen?,z]
 have f2:h.frozen? (Ad w.heap.size 2)=false:=by simp[World.frozen?,z]
 have W:=CE (o:=2) (v:=.int .u32 s0) (CE (o:=1) (v:=.string ⟨nm.toArray⟩) (CE (o:=0) (v:=(A7 H)) z));have k1:A5 Ab w h:=((A5.C Ab w).aj _).tr X;have k3:A5 Ab w (((h.setCell (Ad w.heap.size 0) (A7 H)).setCell (Ad w.heap.size 1) (.string ⟨nm.toArray⟩)).setCell (Ad w.heap.size 2) (.int .u32 s0)):=((k1.bn (by simp) _).bn (by simp) _).bn (by simp) _;have aF:=A4 W;have aG:=A4 k3;go_wp2_with (go_at_call 118;refine(aB.o _).k ?_;rintro w' rfl);generalize (((h.setCell (Ad w.heap.size 0) (A7 H)).setCell (Ad w.heap.size 1) (.string ⟨nm.toArray⟩)).setCell (Ad w.heap.size 2) (.int .u32 s0))=w3 at aF aG ⊢;have W:=aF.o;have r0:Aa w3 w.heap.size 0 (A7 H):=by simp[Aa,World.cell?,W]
 have r1:Aa w3 w.heap.size 1 (.string ⟨nm.toArray⟩):=by simp[Aa,World.cell?,W]
 have r2:Aa w3 w.heap.size 2 (.int .u32 s0):=by simp[Aa,World.cell?,W]
 refine Mx (v:=.agg #[A7 H,.string ⟨nm.toArray⟩,.int .u32 s0]) (by simp[results,Tryz.results76,go_sem,r0,r1,r2]) rfl ?_;exact⟨rfl,aG.o⟩
def T3(w:World)(H:Nat)(Y:Cv n)(X:Lets B w):
 Aj 145 #[A7 H,A0 n] w λe w'=>∃I,e=.returned (A7 I)/\Be w' I 196 (A7 H) ⟨(BJ 1 n).toArray⟩ (AB (BJ 1 n))/\A5 Ab w w'/\w.heap.size<=I:=by
 have h:=A4 (Oy w H 1 (by omega) Y X);rw[show ((1:Nat):Int)=1 from rfl]at h;generalize hnm:BJ 1 n=nm at h ⊢;generalize hs0:AB nm=s0 at h ⊢
 go_enter func145,ntmps145
 go_wp2_with (go_at_call 76;refine h.k ?_;rintro z W;have O:=A4 W);go_ret;exact⟨z.heap.size,rfl,(by show (z.heap.push _)[z.heap.size]?=_;rw[IA]),O.o.aj _,O.o.Am⟩
def BZ(w:World)(xb:Nat)(T:TypeId)(b:Nat)(name:List UInt8)(s:Nat)(n:Int)(v:Value):Prop:=w.heap[xb]?=some (.cells #[.pointer (some ⟨b,0,none⟩),.string ⟨name.toArray⟩,.int .u32 s,.int .i64 n,v] T (0,0))
section
variable{w w':World}{xb:Nat}{T:TypeId}{b:Nat}{name:List UInt8}{s:Nat}{v:Value}
def BZ.c0(h:BZ w xb T b name s n v):Aa w xb 0 (A7 b):=by unfold BZ at h;simp[Aa,World.cell?,h]
def BZ.c1(h:BZ w xb T b name s n v):Aa w xb 1 (.string ⟨name.toArray⟩):=by unfold BZ at h;simp[Aa,World.cell?,h]
def BZ.c2(h:BZ w xb T b name s n v):Aa w xb 2 (.int .u32 s):=by unfold BZ at h;simp[Aa,World.cell?,h]
def BZ.c3(h:BZ w xb T b name s n v):Aa w xb 3 (A0 n):=by unfold BZ at h;simp[Aa,World.cell?,h]
def BZ.c4(h:BZ w xb T b name s n v):Aa w xb 4 v:=by unfold BZ at h;simp[Aa,World.cell?,h]
def BZ.fz(h:BZ w xb T b name s n v)(o:Nat):w.frozen? (Ad xb o)=false:=by unfold BZ at h;simp[World.frozen?,h]
def BZ.lt(h:BZ w xb T b name s n v):xb<w.heap.size:=Bo h
def BZ.s3(h:BZ w xb T b name s n v)(x:Int):BZ (w.setCell (Ad xb 3) (A0 x)) xb T b name s x v:=CE h
def BZ.s4(h:BZ w xb T b name s n v)(x:Value):BZ (w.setCell (Ad xb 4) x) xb T b name s n x:=CE h
def BZ.ad(h:BZ w xb T b name s n v):BZ w.drew xb T b name s n v:=by unfold BZ at h ⊢;exact h
def BZ.ak{S:Nat->Prop}(h:BZ w xb T b name s n v)(z:A5 S w w')(H:¬S xb):BZ w' xb T b name s n v:=z.ak h H
end
def QJ(w:World)(H:Nat)(Y:Cv n)(X:Lets B w):
 Aj 128 #[A7 H,A0 n] w λe w'=>∃I,e=.returned (A7 I)/\BZ w' I 139 H (BJ 2 n) (AB (BJ 2 n)) n (.slice none 0 0)/\A5 Ab w w'/\w.heap.size<=I:=by
 have h:=A4 (Oy w H 2 (by omega) Y X);rw[show ((2:Nat):Int)=2 from rfl]at h;generalize hnm:BJ 2 n=nm at h ⊢;generalize hs0:AB nm=s0 at h ⊢
 go_enter func128,ntmps128
 go_wp2_with (go_at_call 76;refine h.k ?_;rintro z W;have O:=A4 W);go_ret;exact⟨z.heap.size,rfl,(by show (z.heap.push _)[z.heap.size]?=_;rw[IA]),O.o.aj _,O.o.Am⟩
end
def Ev.a7{w H w':World}{b:Nat}{D:DS}{F:Nat->FC}{Ft:Nat->Prop}(h:Ev H Ft w' b D F)(I:A5 Ab w H):Ev w Ft w' b D F:=by
 obtain⟨Y,z,W,h3,X⟩:=h;exact⟨(I.aZ).tr Y,z,W,h3,λk O=>(X k O).imp id λh=>AH I.Am h⟩
section
variable{B b:Nat}{D:DS}{F:Nat->FC}{Ft:Nat->Prop}{n:Int}
def Ki.a7{w H w':World}{I:Nat}(h:Ki H Ft I w' b D F)(O:A5 Ab w H):Ki w Ft I w' b D F:=by
 obtain⟨h1,z,X,h3,Y⟩:=h;exact⟨(O.aZ).tr h1,z,X,h3,λk W=>(Y k W).imp id λh=>AH O.Am h⟩
def A2A(w:World)(O:Nat)(name:ByteArray)(s:Nat)(z t v:Int)(aF:0<=z/\z<256)(ht : -9223372036854775808<=t/\t<=9223372036854775807)(hv : -9223372036854775808<=v/\v<=9223372036854775807)(hf:Be w O 196 (A7 b) name s)(hs:s<4294967296)(h:B5 w b D F Ft)(I:∀k,Ft k->k<w.heap.size)(hn:¬Ft O)(hroom : -4611686018427387904<=D.n.B1/\D.n.B1<=9223372036854775807)(hu:B6 F D.A6<=4611686018427387904)(hp:0<=D.n.BA/\D.n.BA<=9223372036854775807)(hl:∀f,lookup D.A6 name=some f->(F f).1.length+21<=70368744177664)(hz:(Ct (Bj D F name ⟨(B9 z t v++Ca (AV s (B9 z t v))).toArray⟩).2.1 (Bj D F name ⟨(B9 z t v++Ca (AV s (B9 z t v))).toArray⟩).2.2 name).1<=70368744177664/\(Ct D F name).1<=70368744177664):
 Aj 144 #[A7 O,.agg #[A0 z,A0 t,A0 v]] w (Au (.tuple #[.bool (H6 D F name (B9 z t v++Ca (AV s (B9 z t v)))),A0 (Bj D F name ⟨(B9 z t v++Ca (AV s (B9 z t v))).toArray⟩).1]) λw'=>
  Be w' O 196 (A7 b) name (AV s (B9 z t v))/\Ki w Ft O w' b (Bj D F name ⟨(B9 z t v++Ca (AV s (B9 z t v))).toArray⟩).2.1 (Bj D F name ⟨(B9 z t v++Ca (AV s (B9 z t v))).toArray⟩).2.2):=by
 have PB:∀w',_:=λw'=>RF w' z t v aF ht hv;have aB:(B9 z t v).length=17:=by simp[B9,CD]
 generalize hle:B9 z t v=l at PB aB hz ⊢;have AD:∀w',A5 Ab w w'->_:=λw' hc=>addF (hf.ak hc (by simp)) hs (h.az I hc) (λk hk=>Bm (I k hk) hc.Am) hn l hroom hu hp (λf hf=>by have:=hl f hf;omega) (by omega) hz;obtain⟨ok,aK⟩:∃ok,H6 D F name (l++Ca (AV s l))=ok:=⟨_,rfl⟩;obtain⟨er,aE⟩:∃er,(Bj D F name ⟨(l++Ca (AV s l)).toArray⟩).1=er:=⟨_,rfl⟩;rw[aK,aE]at AD ⊢;have hlb:=hf.lt;have aH:=A4 PB;have aI:=A4 AD;have aA:=A4 I
 go_enter func144,ntmps144
 go_wp2;have hb:(w.alloc (.cells #[A0 z,A0 t,A0 v] 90)).heap[w.heap.size]?=some (.cells #[A0 z,A0 t,A0 v] 90 (0,0)):=by show (w.heap.push _)[w.heap.size]?=_;rw[IA]
 have p0:(w.alloc (.cells #[A0 z,A0 t,A0 v] 90)).drew.cell? (Ad w.heap.size 0)=some (A0 z):=by show (w.alloc _).cell? _=_;simp only[World.cell?,hb];rfl
 have p1:(w.alloc (.cells #[A0 z,A0 t,A0 v] 90)).drew.cell? (Ad w.heap.size 1)=some (A0 t):=by show (w.alloc _).cell? _=_;simp only[World.cell?,hb];rfl
 have p2:(w.alloc (.cells #[A0 z,A0 t,A0 v] 90)).drew.cell? (Ad w.heap.size 2)=some (A0 v):=by show (w.alloc _).cell? _=_;simp only[World.cell?,hb];rfl
 have Y:Hid (A5 Ab w (w.alloc (.cells #[A0 z,A0 t,A0 v] 90)).drew):=((A5.C _ w).aj _).ad;refine Ff (λw'=>w'.cell? (Ad w.heap.size 0)=some (A0 z)/\w'.cell? (Ad w.heap.size 1)=some (A0 t)/\w'.cell? (Ad w.heap.size 2)=some (A0 v)) 8
  (BD [0,1,2,3,4,5,6,7] [4,5]) (by kernel_rfl) (by kernel_rfl) (λ_ _ _ _ _ h=>h) ⟨p0,p1,p2⟩ ?_
 generalize (w.alloc (.cells #[A0 z,A0 t,A0 v] 90)).drew=w1 at p0 p1 p2 Y ⊢
 iterate 4 (refine DO (v:=?_) rfl (by rfl) ?_ ?_;rotate_left;(· (intro w' hS;(try dsimp only at hS);go_simp;try with_reducible rfl));(try simp only[BQ]))
 refine Dt rfl (by rfl) (λK hK=>?_);go_simp;refine(aH.o w1).k ?_;rintro w2 H;have q0:=H.an p0;have q1:=H.an p1;have q2:=H.an p2;refine hK _ _ ⟨q0,q1,q2⟩ (λhS=>?_);have X:Hid (A5 Ab w w2):=Y.o.tr H
 (try simp only[BQ])
 refine Dt rfl (by rfl) (λK hK=>?_);go_simp;refine(aI.o w2 X.o).k ?_;rintro w3⟨aM,W⟩;have k3:=W.1;have aL:¬((λk=>Ft k\/k=O) w.heap.size):=by
  rintro (h|h)
  ·have:=aA.o _ h;omega
  ·omega
 have kc:∀o u,w2.cell? (Ad w.heap.size o)=some u->w3.cell? (Ad w.heap.size o)=some u:=by
  intro o u hu;have aJ:w.heap.size<w2.heap.size:=by
   rcases F6 w.heap.size w2.heap.size with h|h
   ·exact h
   ·unfold World.cell? at hu;rw[N4 h]at hu;simp at hu
  unfold World.cell? at hu ⊢;rw[k3.Ao _ aJ aL];exact hu
 refine hK _ _ ⟨kc 0 _ q0,kc 1 _ q1,kc 2 _ q2⟩ (λhS=>?_);have aG:=A4 aM;have aD:=A4 (W.a7 X.o)
 (try simp only[BQ])
 iterate 2 (refine DO (v:=?_) rfl (by rfl) ?_ ?_;rotate_left;(· (intro w' hS;(try dsimp only at hS);go_simp;try with_reducible rfl));(try simp only[BQ]))
 refine Fg ?_;simp only[DA,Dj];go_wp2;go_ret2;exact⟨rfl,aG.o,aD.o⟩
end
section
variable{B b:Nat}{D:DS}{F:Nat->FC}{Ft:Nat->Prop}{n:Int}
def KQ(nm:List UInt8)(ahead:Int):List UInt8:=AR ahead++Ca (AV (AB nm) (AR ahead))
def Jo(nm:List UInt8):AB nm<4294967296:=Jk _ _ (by omega)
def YW(w:World)(ahead:Int)(k:Nat)(H aR:DS)(X aP:Nat->FC)(e1 e2:Int)(h:B5 w b D F Ft)(aF:∀k,Ft k->k<w.heap.size)(hn:Cv n)(hL:Lets B w)(ha : -9223372036854775808<=ahead/\ahead<=9223372036854775807)(hk:¬D.As k)(hs:D.A6.length<1099511627776/\D.Ap.length<1099511627776)(h1:Cy D ⟨(BJ 1 n).toArray⟩ k=(e1,H))(a9:upd F k ([],0)=X)(h2:Bj H X ⟨(BJ 1 n).toArray⟩ ⟨(KQ (BJ 1 n) ahead).toArray⟩=(e2,aR,aP))(hroom : -4611686018427387904<=H.n.B1/\H.n.B1<=9223372036854775807)(hu:B6 X H.A6<=4611686018427387904)(hp:0<=H.n.BA/\H.n.BA<=9223372036854775807)(hl:∀f,lookup H.A6 ⟨(BJ 1 n).toArray⟩=some f->(X f).1.length+12<=70368744177664)(hz:(Ct aR aP ⟨(BJ 1 n).toArray⟩).1<=70368744177664/\(Ct H X ⟨(BJ 1 n).toArray⟩).1<=70368744177664):
 Aj 191 #[A7 b,A0 n,A0 ahead] w λe w'=>
  (e1≠0/\e=.returned (.tuple #[.pointer none,A0 e1])/\Ev w Ft w' b H X)\/
  (e1=0/\e2≠0/\e=.returned (.tuple #[.pointer none,A0 e2])/\Ev w Ft w' b aR aP)\/
  (e1=0/\e2=0/\∃z,e=.returned (.tuple #[A7 z,A0 0])/\w.heap.size<=z/\Be w' z 196 (A7 b) ⟨(BJ 1 n).toArray⟩ (AV (AB (BJ 1 n)) (AR ahead))/\
   A5 Ft w w'/\∃Y,B5 w' b aR aP Y/\(∀k,Y k->k<w'.heap.size)/\(∀k,Y k->Ft k\/w.heap.size<=k)/\¬Y z):=by
 have bF:=A4 (T3 w b hn hL);have aM:=Jo (BJ 1 n);generalize hnm:BJ 1 n=nm at bF aM h1 h2 hl hz ⊢;have CR:∀w' z,A5 Ab w w'->Be w' z 196 (A7 b) ⟨nm.toArray⟩ (AB nm)->_:=λw' z hc hf=>TY hf (h.az aF hc) k hk hs;rw[h1,a9]at CR;have AD:∀w' z aD,Be w' z 196 (A7 b) ⟨nm.toArray⟩ (AB nm)->B5 w' b H X aD->(∀k,aD k->k<w'.heap.size)->¬aD z->_:=
  λw' z aD hf hr aL aX=>addF hf aM hr aL aX (AR ahead) hroom hu hp (λf hf=>by have:=hl f hf;rw[CD];exact this) (by rw[CD];omega) (by
   show (Ct (Bj H X _ ⟨(KQ nm ahead).toArray⟩).2.1 (Bj H X _ ⟨(KQ nm ahead).toArray⟩).2.2 _).1<=_/\_
   rw[h2];exact hz)
 have e0:AR ahead++Ca (AV (AB nm) (AR ahead))=KQ nm ahead:=rfl;rw[e0,h2]at AD;have bK:∀w',_:=λw'=>KL w' ahead ha;generalize hle:AR ahead=l at AD bK ⊢;generalize hok:H6 H X ⟨nm.toArray⟩ (KQ nm ahead)=ok at AD;dsimp only at CR AD;have aW:=A4 CR;have bG:=A4 AD;have a1:=A4 bK;have a0:=A4 aF;rcases PE (e1=0) with aE|aE
 ·subst aE
  go_enter func191,ntmps191
  go_wp2_with (first
   | (go_at_call 145;refine bF.m ?_;rintro e w1⟨z,rfl,hb,hc,aG⟩;have aS:=A4 hb;have aT:=A4 hc;have aB:=A4 aG)
   | (go_at_call 202;refine(aW.o _ _ aT.o aS.o).k ?_;rintro w2 hA;have aY:=A4 hA))
  have⟨hk2,Ft2,hr2,hl2,hf2⟩:=aY.o;have bJ:=aS.o.lt;have aJ:¬Ft z:=λh=>by have:=a0.o z h;have:=aB.o;omega
  have aI:¬Ft2 z:=λh=>by rcases hf2 z h with h|h;exact aJ h;omega
  have a7:=aS.o.ak hk2 aJ;have aO:=hk2.Am;refine Ff (λ_=>True) 10
   (BD [0,1,2,3,4,5,6,7,8,9] [4,5]) (by kernel_rfl) (by kernel_rfl) (λ_ _ _ _ _ h=>h) trivial ?_
  have a8:=A4 a7;have a6:=A4 hr2;have aQ:=A4 hl2;have aU:=A4 hf2;have bA:=A4 hk2;have aK:=A4 aI;have aZ:=A4 bJ;have bC:=A4 aO
  iterate 4 (refine DO (v:=?_) rfl (by rfl) ?_ ?_;rotate_left;(· (intro w' hS;(try dsimp only at hS);go_simp;try with_reducible rfl));(try simp only[BQ]))
  refine Dt rfl (by rfl) (λK hK=>?_);go_simp;refine(a1.o w2.drew).k ?_;rintro w3 W;refine hK _ _ trivial (λhS=>?_);have aV:A5 Ab w2 w3:=⟨W.os,W.FR,W.FU,W.Am,W.Ao⟩;have O:=A4 aV
  (try simp only[BQ])
  refine Dt rfl (by rfl) (λK hK=>?_);go_simp;refine(bG.o w3 z Ft2 (a8.o.ak O.o (by simp)) (a6.o.az aQ.o O.o) (λk hk=>Bm (aQ.o k hk) O.o.Am) aK.o).k ?_;rintro w4⟨bI,bH,I,bE,bB,aN⟩;refine hK _ _ trivial (λhS=>?_);have bD:=A4 bI;have aA:Hid (A5 Ft w w4/\B5 w4 b aR aP I/\(∀k,I k->k<w4.heap.size)/\(∀k,I k->Ft k\/w.heap.size<=k)/\¬I z):=by
   have a2:=bC.o;have a3:=O.o.Am;have a4:=aZ.o;have a5:=aB.o;refine⟨((((aT.o.aZ).tr bA.o).AJ O.o (λ_ h _=>h.elim)).AJ bH (λx hx aF=>?_)),bE,bB,λk hk=>?_,λhx=>?_⟩
   ·rcases hx with hx|rfl
    ·exact(aU.o x hx).resolve_right (by omega)
    ·omega
   ·rcases aN k hk with h|h
    ·exact(aU.o k h).imp id (λh=>by omega)
    ·exact .inr (by omega)
   ·rcases aN z hx with h|h
    ·exact aK.o h
    ·omega
  (try simp only[BQ])
  iterate 4 (refine DO (v:=?_) rfl (by rfl) ?_ ?_;rotate_left;(· (intro w' hS;(try dsimp only at hS);go_simp;try with_reducible rfl));(try simp only[BQ]))
  refine Fg ?_;simp only[DA,Dj];rcases PE (e2=0) with aH|aH
  ·subst aH;go_wp2;go_ret2;exact⟨z,rfl,aB.o,bD.o,aA.o.1,I,aA.o.2.1,aA.o.2.2.1,aA.o.2.2.2.1,aA.o.2.2.2.2⟩
  ·go_wp2;go_ret2;exact .inr (.inl ⟨trivial,aH,rfl,aA.o.1,I,aA.o.2.1,aA.o.2.2.1,aA.o.2.2.2.1⟩)
 ·go_enter func191,ntmps191
  go_wp2_with (first
   | (go_at_call 145;refine bF.m ?_;rintro e w1⟨z,rfl,hb,hc,aG⟩;have aS:=A4 hb;have aT:=A4 hc;have aB:=A4 aG)
   | (go_at_call 202;refine(aW.o _ _ aT.o aS.o).k ?_;rintro w2 hA;have aY:=A4 hA))
  go_ret2;exact .inl ⟨aE,rfl,aY.o.a7 aT.o⟩
end
end
section
open Go.RowKit
attribute [local go_sem ↓] Go.wp_at_zero Go.wp_at_succ
def Dh:Nat->Nat->List UInt8->List Pu×Bool
 | 0,_,_=>([],true)
 | k+1,s,l=>if l.length<21 then ([],true) else
  if Ca (AV s (l.take 17))=(l.drop 17).take 4/\(l.headD 0).toNat<8 then
   ((((l.headD 0).toNat:Int),BK (l.drop 1),BK (l.drop 9)):: (Dh k (AV s (l.take 17)) (l.drop 21)).1,(Dh k (AV s (l.take 17)) (l.drop 21)).2)
  else ([],false)
def Rl{k s:Nat}{l:List UInt8}(h:l.length<21):Dh k s l=([],true):=by cases k<;>simp[Dh,h]
def Rq{k s:Nat}{b:UInt8}{d t r:List UInt8}(z:d.length=16)(H:t.length=4)(h:Ca (AV s (b::d))=t)(Y:b.toNat<8):
 Dh (k+1) s (b::d++t++r)=(((b.toNat:Int),BK d,BK (d.drop 8)):: (Dh k (AV s (b::d)) r).1,(Dh k (AV s (b::d)) r).2):=by
 have O:(b::d++t++r).take 17=b::d:=by simp[z]
 have e2:((b::d++t++r).drop 17).take 4=t:=by simp[z,H]
 have W:(b::d++t++r).drop 21=r:=by
  rw[Lm,Ke (by simp[z,H])];simp[z,H]
 have X:BK ((b::d++t++r).drop 1)=BK d:=by
  have e:(b::d++t++r).drop 1=d++(t++r):=by simp
  unfold BK;rw[e,GW (by omega)]
 have I:BK ((b::d++t++r).drop 9)=BK (d.drop 8):=by
  have e:(b::d++t++r).drop 9=d.drop 8++(t++r):=by
   simp only[Fb,C6,DA];rw[Ll (by omega)]
  unfold BK;rw[e,GW (by simp;omega)]
 simp only[Dh,O,e2,W,X,I];rw[Ae (by simp[z,H];omega),Ah (by simpa using⟨h,Y⟩)];rfl
def XY{k s:Nat}{b:UInt8}{d t r:List UInt8}(z:d.length=16)(H:t.length=4)(h:¬(Ca (AV s (b::d))=t/\b.toNat<8)):
 Dh (k+1) s (b::d++t++r)=([],false):=by
 have I:(b::d++t++r).take 17=b::d:=by simp[z]
 have O:((b::d++t++r).drop 17).take 4=t:=by simp[z,H]
 simp only[Dh,I,O];rw[Ae (by simp[z,H];omega),Ae (by simpa using h)]
def Zh{l:List UInt8}(h:21<=l.length):∃(b:UInt8) (d t r:List UInt8),l=b::d++t++r/\d.length=16/\t.length=4:=by
 cases l with
 | nil=>simp at h
 | cons b l=>
  simp at h;refine⟨b,l.take 16,(l.drop 16).take 4,l.drop 20,?_,by simp;omega,by simp;omega⟩;simp only[Fb,C6,List.cons.injEq,true_and];rw[show l.drop 20=(l.drop 16).drop 4 by simp,DK,DK]
def A0I{l:List UInt8}(h:12<=l.length):∃(d t r:List UInt8),l=d++t++r/\d.length=8/\t.length=4:=by
 refine⟨l.take 8,(l.drop 8).take 4,l.drop 12,?_,by simp;omega,by simp;omega⟩;rw[C6,show l.drop 12=(l.drop 8).drop 4 by simp,DK,DK]
def Ew(s:Nat)(ahead:Int)(l:List UInt8):List Pu×Int:=
 if l.length<12 then ([],0) else
 if Ca (AV s (l.take 8))=(l.drop 8).take 4/\BK l=ahead then
  (if (Dh l.length (AV s (l.take 8)) (l.drop 12)).2=true then ((Dh l.length (AV s (l.take 8)) (l.drop 12)).1,0) else ([],7))
 else ([],7)
def Rr{s:Nat}{ahead:Int}{d t r:List UInt8}(h:d.length=8)(z:t.length=4):
 Ew s ahead (d++t++r)=if Ca (AV s d)=t/\BK d=ahead then (if (Dh (r.length+12) (AV s d) r).2=true then ((Dh (r.length+12) (AV s d) r).1,0) else ([],7)) else ([],7):=by
 have I:(d++t++r).take 8=d:=by simp[h]
 have X:((d++t++r).drop 8).take 4=t:=by simp[h,z]
 have O:(d++t++r).drop 12=r:=by
  rw[Lm,Ke (by simp[h,z])];simp[h,z]
 have W:BK (d++t++r)=BK d:=by unfold BK;rw[C6,GW (by omega)]
 have H:(d++t++r).length=r.length+12:=by simp[h,z];omega
 unfold Ew;rw[Ae (by simp[h,z];omega),I,X,O,W,H]
def AZ(w:World)(v:Value)(l:List Pu):Prop:=w.ownsRow 0 90 3 v l.length (Ba l)
def Ig:(Tryz.prog.info? 90).map (λi=>(i.zero,i.size,i.bytes))=some (some (.agg #[A0 0,A0 0,A0 0]),3,24):=by kernel_rfl
end
end Go.Proofs.YtodcnkbblippnabGreatDoor
