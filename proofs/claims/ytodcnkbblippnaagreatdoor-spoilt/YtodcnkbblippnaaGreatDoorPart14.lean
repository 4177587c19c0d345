/- Part 14 of a proof: walks of the program. -/
import Derived.Test.YtodcnkbblippnaaGreatDoorShelf
import Derived.Lib.ItoaLen
import Derived.Test.YtodcnkbblippnaaGreatDoorPart09
import Derived.Test.YtodcnkbblippnaaGreatDoorPart13
namespace Go.Proofs.YtodcnkbblippnaaGreatDoor
set_option maxRecDepth 100000
set_option maxHeartbeats 32000000
set_option linter.defProp false
open Go.Proofs.Tryz
section
open Go.RowKit
def A3.fI{S:Nat->Prop}{w:ga}(k:Nat)(os:Array Obj):A3 S w (Go.Sort.grow (w.drewN k) os):=
 ⟨rfl,rfl,rfl,(by show w.heap.size<=(w.heap++os).size;simp),λj d _=>(by show (w.heap++os)[j]?=_;rw[Array.getElem?_append_left d])⟩
def Em(lt:gh UInt8)(n:Int):gh UInt8:=lt++Lib.repeatL [48] (19-(Lib.itoa n).length)++Lib.itoa n
def Dd(s:Int):gh UInt8:=if s=1 then [108] else if s=2 then [115] else if s=3 then [105] else if s=4 then [100] else []
def BO(s n:Int):gh UInt8:=if s=1\/s=2 then Em (Dd s) n else Dd s
def PJ(w:ga)(s:Int):Ag 133 #[A0 s] w (Am (.bool (decide (s=1\/s=2))) λw'=>w=w'):=by
 go_enter func133,ntmps133
 by_cases h:s=1
 ·subst h;go_wp2;go_ret;exact⟨rfl,rfl⟩
 ·by_cases d:s=2
  ·subst d;go_wp2;go_ret;exact⟨rfl,rfl⟩
  ·go_wp2;go_ret;exact⟨by simp[h,d],rfl⟩
def A01(w:ga)(s:Int)(k:Nat)(hs:s=k/\(k=1\/k=2))(lt:gh UInt8)(n:Int)(hn : -9223372036854775808<=n/\n<=9223372036854775807)(hlt:lt.length<=1000)(W:(Lib.itoa n).length<=19)(hl:A7 w 0 k (.string ⟨lt.toArray⟩))(I:Lib.TabIs Tryz.prog w "internal/strconv.uint64pow10" .u64 Lib.pow10Tab):
 Ag 134 #[A0 s,A0 n] w (Am (.string ⟨(Em lt n).toArray⟩) λw'=>A3 Ab w w'):=by
 obtain⟨rfl,hk⟩:=hs;obtain⟨aI,aN⟩:=hn;have aA:(k:Int)<5:=by omega
 have O:(k:Int)=1\/(k:Int)=2:=by omega
 have aH:decide ((k:Int)=1\/(k:Int)=2)=true:=CM O;have aK:=A1 (Tryz.strconv_Itoa n aI aN w I);have aS:∀w',_:=λw'=>Tryz.strings_Repeat ⟨#[48]⟩ (19-(Lib.itoa n).length) w' (by omega) (by show 1*_<=_;omega);have H:=A1 aS;have E:Hid (Em lt n=lt++Lib.repeatL [48] (19-(Lib.itoa n).length)++Lib.itoa n):=rfl;have z:=Lib.repeatL_length [48] (19-(Lib.itoa n).length);generalize aJ:Lib.itoa n=dg at aK W H E z;clear aS aJ I;obtain⟨c,hc,hcl⟩:∃c:Nat,19-dg.length=c/\dg.length+c=19:=⟨_,rfl,by omega⟩;rw[hc]at H E z;clear hc;obtain⟨d,L⟩:∃d,Lib.repeatL [48] c=d:=⟨_,rfl⟩;have aE:Hid (∀w':ga,Ag 174 #[.string ⟨#[48]⟩,A0 (c:Int)] w' λe aM=>e=.returned (.string ⟨d.toArray⟩)/\Below w'.heap.size w' aM):=by
  rw[<-L];exact H.o
 rw[L]at E z;clear L H;have hrl2:d.length<=19:=by rw[z];simp;omega
 clear z;generalize aB:Em lt n=nm at E ⊢;have aP:=A1 hl;clear aB hl
 go_enter func134,ntmps134
 go_wp2_with (fail);refine(PJ w k).k ?_;rintro w0 rfl;rw[aH];have HK1:=A1 hk;have HK2:=A1 O;have aO:=A1 aA;clear hk O aA aH;go_wp2_with (go_at_call 173;refine aK.k ?_;rintro w1 hw;have aR:=A1 hw;clear hw);have aD:Hid (A3 Ab w w1):=by
  have⟨k,os,he⟩:=aR.o;rw[he];exact A3.fI k os
 have aG:=A1 (aD.o.ao aP.o);clear aR aK aP;refine Hx 10 (λy=>{tmps:=#[A0 k,A0 n,undef,undef,.string ⟨#[]⟩,.string ⟨dg.toArray⟩,A0 k,.bool true,.bool false,undef,undef,undef,A0 n,.string ⟨dg.toArray⟩,y 0,y 1,y 2,y 3,y 4,y 5,y 6,y 7,y 8,y 9],defers:=[]}) (λ_=>undef)
  (λw'=>A7 w' 0 k (.string ⟨lt.toArray⟩)/\A3 Ab w1 w') (A3 Ab)
  (λj x w'=>match j with
   | 0=>x=A0 k
   | 1=>x=.pointer (some (Ac 0 k))
   | 2=>x=.string ⟨lt.toArray⟩
   | 3=>x=.string ⟨dg.toArray⟩
   | 4=>x=A0 dg.length
   | 5=>x=A0 (c:Int)
   | 6=>x=.string ⟨d.toArray⟩
   | 7=>x=.string ⟨(lt++d).toArray⟩
   | 8=>x=.string ⟨dg.toArray⟩
   | 9=>x=.string ⟨nm.toArray⟩
   | _=>True)
  (by kernel_rfl) (by kernel_rfl) rfl ?_ ?_ ?_ ?_
 ·exact⟨aG.o,(A3.I _ _).ag⟩
 ·intro j x w1 w2 hR hS' hG;split at hG<;>exact hG
 ·clear aG;simp only[Fe,EZ,FY,HK]
  repeat' (with_reducible apply And.intro)
  all_goals refine⟨?_,(by intro y Y _ _ h;exact Bool.noConfusion h),λy x=>rfl⟩
  all_goals
   intro y Y hS W hw K hK;obtain⟨c0,aL⟩:=hS;simp[Gr,Region.binds,Fi,List.filter_cons]at W;have hk5:=aO.o;have hk0:=C3 k;have ap1:=Kw lt d;(have g1:¬(9223372036854775807<lt.length+d.length):=by omega);(have g2:¬(9223372036854775807<lt.length+d.length+dg.length):=by omega);(have g3:¬(9223372036854775807<lt.length+(d.length+dg.length)):=by omega);(have ap2:(ByteArray.mk (lt++d).toArray)++(ByteArray.mk dg.toArray)=⟨nm.toArray⟩:=by rw[Kw,E.o]);have ew:IntKind.i64.wrap (c:Int)=c:=En (by omega);(have ew2:(19:Int)-(dg.length:Int)=(c:Int):=by omega);have aF:Hid (A7 Y 0 k (.string ⟨lt.toArray⟩)/\A3 Ab w1 Y):=⟨c0,aL⟩;have aQ:=A1 hK
  all_goals dsimp only
  all_goals try go_simp
  all_goals try with_reducible exact aQ.o _ _ _ rfl (by simp[Act.put,W]) (A3.I _ _) aF.o
  all_goals try
   (have hd5:y 5=A0 (c:Int):=by with_reducible exact W);refine(aE.o Y).k ?_;rintro w2 hb;have hc:A3 Ab Y w2:=A3.cI hb;exact aQ.o _ _ _ rfl (by simp[Act.put,W]) hc ⟨hc.ao aF.o.1,aF.o.2.tr hc⟩
 ·intro y Y hS hG;have h9:y 9=.string ⟨nm.toArray⟩:=hG 9 (by omega);have aF:=A1 hS;go_wp2;go_ret;exact⟨rfl,aD.o.tr aF.o.2⟩
def Uf(w:ga)(k:Nat)(hk:k=3\/k=4)(lt:gh UInt8)(n:Int)(hl:A7 w 0 k (.string ⟨lt.toArray⟩)):
 Ag 134 #[A0 k,A0 n] w (Am (.string ⟨lt.toArray⟩) λw'=>w=w'):=by
 have hk1:(k:Int)<5:=by omega
 have hk0:=C3 k;have d:decide ((k:Int)=1\/(k:Int)=2)=false:=De (by omega)
 go_enter func134,ntmps134
 go_wp2_with (fail);refine(PJ w k).k ?_;rintro w0 rfl;rw[d];go_wp2;go_ret;exact⟨rfl,rfl⟩
def J2.a8{w d w':ga}{b o:Nat}{z:Array gd}{T:Nat}{lv lv':gd}{E:gh Pt}(h:J2 d w' b o z T lv E lv')(H:A3 Ab w d):J2 w w' b o z T lv E lv':=
 ⟨h.Bu,(H.aY).tr h.Al,λg I=>(h.AE g I).imp id λh=>AJ H.Aj h⟩
def A1I(w:ga)(I d:Nat)(cs:Array gd)(T:Nat)(hT:T≠70)(A9 W t v:Int)(L:gh Pt)(lv:gd)(hsr:d<8)(h:HQ w I (7+d) cs T L lv)(aH:L.length<1099511627775)(h3:cs[3]?=some (A0 W))(h4:cs[5]?=some (A0 A9))(hl:1<=W/\W<=4611686018427387904)(hc:AT A9):
 Ag 60 #[A5 I,.agg #[A0 d,A0 t,A0 v]] w (Am (.tuple #[]) λw'=>
  ((Bo A9 W<=t/\∃lv',J2 w w' I (7+d) cs T lv (CE L t v) lv')\/(t<Bo A9 W/\A3 Ab w w'))):=by
 have c3:A7 w I 3 (A0 W):=by simp[A7,World.cell?,h.Ah,h3]
 have c4:A7 w I 5 (A0 A9):=by simp[A7,World.cell?,h.Ah,h4]
 have aJ:∀w',A3 Ab w w'->_:=λw' O=>Pg w' I A9 W (O.ao c3) (O.ao c4) hl hc;generalize ho:Bo A9 W=o at aJ ⊢;have aL:∀w',A3 Ab w w'->_:=λw' O=>A0a w' I (7+d) cs T hT L lv t v (h.Al O) aH;have aB:=A1 aJ;have aD:=A1 aL
 go_enter func60,ntmps60
 go_wp2;have hb:(w.alloc (.cells #[A0 d,A0 t,A0 v] 113)).heap[w.heap.size]?=some (.cells #[A0 d,A0 t,A0 v] 113 (0,0)):=by show (w.heap.push _)[w.heap.size]?=_;rw[Jd]
 have H:Hid ((w.alloc (.cells #[A0 d,A0 t,A0 v] 113)).heap[w.heap.size]?=some (.cells #[A0 d,A0 t,A0 v] 113 (0,0))/\A3 Ab w (w.alloc (.cells #[A0 d,A0 t,A0 v] 113))):=⟨hb,(A3.I _ w).al _⟩;generalize (w.alloc (.cells #[A0 d,A0 t,A0 v] 113))=w1 at H ⊢;refine Hx 5 (λy=>{tmps:=#[A5 I,.agg #[A0 d,A0 t,A0 v],undef,A5 w.heap.size,y 0,y 1,y 2,y 3,y 4,undef,undef,undef,undef,undef,undef,undef,undef,undef,undef],defers:=[]}) (λ_=>undef)
  (λw'=>w'.heap[w.heap.size]?=some (.cells #[A0 d,A0 t,A0 v] 113 (0,0))/\A3 Ab w w') (A3 Ab)
  (λj x w'=>match j with
   | 0=>x=.pointer (some (Ac w.heap.size 1))
   | 1=>x=.pointer (some (Ac w.heap.size 1))
   | 2=>x=A0 t
   | 3=>x=(A5 I)
   | 4=>x=A0 o
   | _=>True)
  (by kernel_rfl) (by kernel_rfl) rfl ?_ ?_ ?_ ?_
 ·exact⟨H.o.1,H.o.2.ag⟩
 ·intro j x w1 w2 hR hS' hG;split at hG<;>exact hG
 ·clear H;simp only[Fe,EZ,FY,HK]
  repeat' (with_reducible apply And.intro)
  all_goals refine⟨?_,(by intro y z _ _ h;exact Bool.noConfusion h),λy x=>rfl⟩
  all_goals
   intro y z Y hd hw K hK;obtain⟨aA,aG⟩:=Y;simp[Gr,Region.binds,Fi,List.filter_cons]at hd;(have p1:A7 z w.heap.size 1 (A0 t):=by simp[A7,World.cell?,aA]);have E:Hid (z.heap[w.heap.size]?=some (.cells #[A0 d,A0 t,A0 v] 113 (0,0))/\A3 Ab w z):=⟨aA,aG⟩;have aK:=A1 hK
  all_goals dsimp only
  all_goals try go_simp
  all_goals try with_reducible exact aK.o _ _ _ rfl (by simp[Act.put,hd]) (A3.I _ _) E.o
  all_goals
   refine(aB.o z E.o.2).k ?_;rintro w2 O;exact aK.o _ _ _ rfl (by simp[Act.put,hd]) O ⟨O.an E.o.1 (by simp),E.o.2.tr O⟩
 ·intro y z Y hG;have h2:y 2=A0 t:=hG 2 (by omega);have h4:y 4=A0 o:=hG 4 (by omega);have p0:A7 z w.heap.size 0 (A0 d):=by simp[A7,World.cell?,Y.1]
  have p1:A7 z w.heap.size 1 (A0 t):=by simp[A7,World.cell?,Y.1]
  have p2:A7 z w.heap.size 2 (A0 v):=by simp[A7,World.cell?,Y.1]
  have E:=A1 Y;have hsrI:(d:Int)<8:=by omega
  by_cases aE:o<=t
  ·go_wp2;refine G0 (λw'=>A7 w' w.heap.size 0 (A0 d)/\A7 w' w.heap.size 1 (A0 t)/\A7 w' w.heap.size 2 (A0 v)) 8
    (BG [0,1,2,3,4,5,6,7] []) (by kernel_rfl) (by kernel_rfl) (λ_ _ _ _ _ h=>h) ⟨p0,p1,p2⟩ ?_
   iterate 8 (refine Ek (v:=?_) rfl (by rfl) ?_ ?_;rotate_left;(· (intro w' Y;(try dsimp only at Y);go_simp;try with_reducible rfl));(try simp only[Cs]))
   refine G1 ?_;simp only[DW,Dz];have aI:=A1 (aD.o z.drew E.o.2.ag);go_wp2_with (go_at_call 102;refine aI.k ?_;rintro w2⟨lv',hR⟩;have aF:=A1 hR);go_end0
   first|exact⟨rfl,lv',aF.o.before E.o.2.drew⟩|exact⟨rfl,.inl ⟨lv',aF.o.before E.o.2.drew⟩⟩|exact⟨rfl,.inl ⟨aE,lv',aF.o.a8 E.o.2.ag⟩⟩
  ·(have hlt:t<o:=by omega);go_wp2;go_end0;exact⟨rfl,.inr E.o.2⟩
def FH(mu:Int)(jv:gd)(ld wc A9:Int)(ro:Bool)(lv:Nat->gd):Array Value:=
 #[.int .i32 mu,.int .u32 0,jv,.int .i64 ld,.int .i64 wc,.int .i64 A9,.bool ro,lv 0,lv 1,lv 2,lv 3,lv 4,lv 5,lv 6,lv 7]
def BA(w:ga)(sb:Nat)(mu:Int)(jv:gd)(ld wc A9:Int)(ro:Bool)(lv:Nat->gd):Prop:=
 w.heap[sb]?=some (.cells (FH mu jv ld wc A9 ro lv) 111 (0,0))
section
variable{w:ga}{sb:Nat}{mu:Int}{jv:gd}{ld wc A9:Int}{ro:Bool}{lv:Nat->gd}
def BA.c0(h:BA w sb mu jv ld wc A9 ro lv):A7 w sb 0 (.int .i32 mu):=by unfold BA at h;simp[A7,World.cell?,h,FH]
def BA.c2(h:BA w sb mu jv ld wc A9 ro lv):A7 w sb 2 jv:=by unfold BA at h;simp[A7,World.cell?,h,FH]
def BA.c3(h:BA w sb mu jv ld wc A9 ro lv):A7 w sb 3 (A0 ld):=by unfold BA at h;simp[A7,World.cell?,h,FH]
def BA.cW(h:BA w sb mu jv ld wc A9 ro lv):A7 w sb 4 (A0 wc):=by unfold BA at h;simp[A7,World.cell?,h,FH]
def BA.cK(h:BA w sb mu jv ld wc A9 ro lv):A7 w sb 5 (A0 A9):=by unfold BA at h;simp[A7,World.cell?,h,FH]
def BA.cR(h:BA w sb mu jv ld wc A9 ro lv):A7 w sb 6 (.bool ro):=by unfold BA at h;simp[A7,World.cell?,h,FH]
def BA.fz(h:BA w sb mu jv ld wc A9 ro lv)(o:Nat):w.frozen? (Ac sb o)=false:=by unfold BA at h;simp[World.frozen?,h]
def BA.lt(h:BA w sb mu jv ld wc A9 ro lv):sb<w.heap.size:=Bv h
def BA.Al{S:Nat->Prop}{w':ga}(h:BA w sb mu jv ld wc A9 ro lv)(z:A3 S w w')(d:¬S sb):BA w' sb mu jv ld wc A9 ro lv:=(z.An sb h.lt d).trans h
def BA.s0(h:BA w sb mu jv ld wc A9 ro lv)(x:Int):BA (w.setCell (Ac sb 0) (.int .i32 x)) sb x jv ld wc A9 ro lv:=CL h
def BA.sR(h:BA w sb mu jv ld wc A9 ro lv)(x:Bool):BA (w.setCell (Ac sb 6) (.bool x)) sb mu jv ld wc A9 x lv:=CL h
def Ym{mu:Int}{jv:gd}{ld wc A9:Int}{ro:Bool}{lv:Nat->gd}{k:Nat}(d:k<8):(FH mu jv ld wc A9 ro lv)[7+k]?=some (lv k):=by
 match k,d with
 | 0,_=>rfl
 | 1,_=>rfl
 | 2,_=>rfl
 | 3,_=>rfl
 | 4,_=>rfl
 | 5,_=>rfl
 | 6,_=>rfl
 | 7,_=>rfl
def Iu(lv:Nat->gd)(k:Nat)(v:gd):Nat->Value:=λi=>if i=k then v else lv i
def Yl{mu:Int}{jv:gd}{ld wc A9:Int}{ro:Bool}{lv:Nat->gd}{k:Nat}(d:k<8)(v:gd):(FH mu jv ld wc A9 ro lv).setIfInBounds (7+k) v=FH mu jv ld wc A9 ro (Iu lv k v):=by
 match k,d with
 | 0,_=>rfl
 | 1,_=>rfl
 | 2,_=>rfl
 | 3,_=>rfl
 | 4,_=>rfl
 | 5,_=>rfl
 | 6,_=>rfl
 | 7,_=>rfl
end
structure Eh (w:ga) (lv:Nat->gd) (L:Nat->gh Pt):Prop where
 Bu:∀k,k<8->DT w (lv k) (L k)
 G4:∀k,k<8->E4 (L k)
 CZ:∀k,k<8->(L k).length<1099511627775
 Lj:∀i j,i<8->j<8->i≠j->∀g,(lv i).ownBlock=some g->(lv j).ownBlock≠some g
def EK(lv:Nat->gd)(g:Nat):Prop:=∃k,k<8/\(lv k).ownBlock=some g
def Eh.lt{w:ga}{lv:Nat->gd}{L:Nat->gh Pt}(h:Eh w lv L){g:Nat}(z:EK lv g):g<w.heap.size:=by
 obtain⟨k,d,e⟩:=z;exact AF (h.Bu k d) e
def Eh.Al{S:Nat->Prop}{w w':ga}{lv:Nat->gd}{L:Nat->gh Pt}(h:Eh w lv L)(H:A3 S w w')(E:∀g,EK lv g->¬S g):Eh w' lv L:=
 ⟨λk d=>Ax (h.Bu k d) λg z=>H.An g (AF (h.Bu k d) z) (E g ⟨k,d,z⟩),h.G4,h.CZ,h.Lj⟩
def Eh.cZ{w:ga}{lv:Nat->gd}{L:Nat->gh Pt}(h:Eh w lv L){g:Nat}(z:EK lv g):∃c,w.heap[g]?=some (.cells c 70 (0,0)):=by
 obtain⟨k,d,e⟩:=z;exact Be (h.Bu k d) e
def Eh.ne{w:ga}{lv:Nat->gd}{L:Nat->gh Pt}(h:Eh w lv L){sb:Nat}{c:Array gd}{T:TypeId}(z:w.heap[sb]?=some (.cells c T (0,0)))(d:T≠70):¬EK lv sb:=λE=>by
 have⟨c',hh⟩:=h.cZ E;rw[z]at hh;cases hh;exact d rfl
def Eh.eG{w:ga}{lv:Nat->gd}{L:Nat->gh Pt}(h:Eh w lv L){sb:Nat}{mu:Int}{jv:gd}{ld wc A9:Int}{ro:Bool}(z:BA w sb mu jv ld wc A9 ro lv){k:Nat}(d:k<8):
 HQ w sb (7+k) (FH mu jv ld wc A9 ro lv) 111 (L k) (lv k):=
 ⟨z,Ym d,h.Bu k d,h.G4 k d,Nat.lt_trans (h.CZ k d) (by decide)⟩
def Iv(L:Nat->gh Pt)(k:Nat)(l:gh Pt):Nat->gh Pt:=λi=>if i=k then l else L i
def XA{lv:Nat->gd}{k:Nat}{v:gd}{g:Nat}(h:EK (Iu lv k v) g):EK lv g\/v.ownBlock=some g:=by
 obtain⟨i,d,e⟩:=h;unfold Iu at e;split at e
 ·exact .inr e
 ·exact .inl ⟨i,d,e⟩
def Eh.ah{w w':ga}{lv:Nat->gd}{L:Nat->gh Pt}(h:Eh w lv L){sb:Nat}{mu:Int}{jv:gd}{ld wc A9:Int}{ro:Bool}(hb:BA w sb mu jv ld wc A9 ro lv){k:Nat}(Y:k<8){aA:gh Pt}{lv':gd}{t:Nat}(hR:J2 w w' sb (7+k) (FH mu jv ld wc A9 ro lv) t (lv k) aA lv')(ht:t=111)(hl:aA.length<1099511627775):
 BA w' sb mu jv ld wc A9 ro (Iu lv k lv')/\Eh w' (Iu lv k lv') (Iv L k aA)/\A3 (λx=>x=sb\/EK lv x) w w'/\∀g,EK (Iu lv k lv') g->EK lv g\/w.heap.size<=g:=by
 subst ht;have W:=hR.Bu.Ah;rw[Yl Y]at W;have I:=hR.AE;have hc:A3 (λx=>x=sb\/EK lv x) w w':=hR.Al.af λx _ z=>z.imp id λe=>⟨k,Y,e⟩
 have aB:=h.ne hb (by decide);refine⟨W,⟨?_,?_,?_,?_⟩,hc,λg E=>?_⟩
 ·intro i H;unfold Iu Iv;by_cases e:i=k
  ·simp only[e,Cp];exact hR.Bu.Bu
  ·simp only[e,C9];exact Ax (h.Bu i H) λg E=>hR.Al.An g (AF (h.Bu i H) E) λz=>by
    rcases z with rfl|z
    ·exact aB ⟨i,H,E⟩
    ·exact h.Lj k i Y H (λx=>e x.symm) g z E
 ·intro i H;unfold Iv;by_cases e:i=k
  ·simp only[e,Cp];exact hR.Bu.G4
  ·simp only[e,C9];exact h.G4 i H
 ·intro i H;unfold Iv;by_cases e:i=k
  ·simp only[e,Cp];exact hl
  ·simp only[e,C9];exact h.CZ i H
 ·intro i j H hj O g E d;unfold Iu at E d;by_cases e:i=k
  ·subst e;have e2:¬j=i:=λx=>O x.symm;simp only[Cp]at E;simp only[e2,C9]at d;rcases I g E with z|z
   ·exact h.Lj i j Y hj O g z d
   ·have:=AF (h.Bu j hj) d;omega
  ·simp only[e,C9]at E;by_cases e2:j=k
   ·subst e2;simp only[Cp]at d;rcases I g d with z|z
    ·exact h.Lj i j H Y O g E z
    ·have:=AF (h.Bu i H) E;omega
   ·simp only[e2,C9]at d;exact h.Lj i j H hj O g E d
 ·rcases XA E with z|z
  ·exact .inl z
  ·rcases I g z with hy|hy
   ·exact .inl ⟨k,Y,hy⟩
   ·exact .inr hy
def BA.bU{w:ga}{sb:Nat}{jv:gd}{ld wc A9:Int}{ro:Bool}{lv:Nat->gd}{L:Nat->gh Pt}(h:BA w sb 0 jv ld wc A9 ro lv)(d:Eh w lv L):
 BA (w.setCell ⟨sb,0,none⟩ (.int .i32 1)) sb 1 jv ld wc A9 ro lv/\Eh (w.setCell ⟨sb,0,none⟩ (.int .i32 1)) lv L/\A3 (One sb) w (w.setCell ⟨sb,0,none⟩ (.int .i32 1)):=
 ⟨h.s0 1,d.Al ((A3.I (One sb) w).aq rfl 0 _) (λg z e=>d.ne h (by decide) (e ▸ z)),(A3.I (One sb) w).aq rfl 0 _⟩
def BA.er{w w':ga}{sb:Nat}{mu:Int}{jv:gd}{ld wc A9:Int}{ro:Bool}{lv:Nat->gd}(h:BA w sb 0 jv ld wc A9 ro lv)(H:BA w' sb mu jv ld wc A9 ro lv)(I:A3 (One sb) w w'):
 A3 (λ_=>False) w (w'.setCell ⟨sb,0,none⟩ (.int .i32 0)):=by
 have z:=H.s0 0;have d:=I.aq (b:=sb) rfl 0 (.int .i32 0);refine⟨d.os,d.G3,d.G5,d.Aj,λk E _=>?_⟩;by_cases e:k=sb
 ·subst e;unfold BA at h z;rw[h,z]
 ·exact d.An k E e
def L1(w:ga)(Ft:Nat->Prop)(fb:Nat)(w':ga)(b:Nat)(D':DS)(F':Nat->FC):Prop:=
 A3 (λk=>Ft k\/k=fb) w w'/\∃d,B1 w' b D' F' d/\(∀k,d k->k<w'.heap.size)/\∀k,d k->Ft k\/w.heap.size<=k
def Hn(D:DS)(F:Nat->FC)(nd:gg)(pc:gh UInt8):Bool:=
 decide ((Cz (Bj D F nd ⟨pc.toArray⟩).2.1 (Bj D F nd ⟨pc.toArray⟩).2.2 nd).1-(Cz D F nd).1=pc.length)
def Vp(D:DS)(F:Nat->FC)(nd:gg):0<=(Cz D F nd).1:=by
 unfold Cz;cases lookup D.A4 nd<;>simp
section
variable{w:ga}{b fb:Nat}{D:DS}{F:Nat->FC}{Ft:Nat->Prop}{T:TypeId}{nd:gg}{s:Nat}
def addF(hf:Bd w fb T (A5 b) nd s)(hs:s<4294967296)(h:B1 w b D F Ft)(aR:∀k,Ft k->k<w.heap.size)(hn:¬Ft fb)(l:gh UInt8)(hroom : -4611686018427387904<=D.n.AA/\D.n.AA<=9223372036854775807)(hu:B6 F D.A4<=4611686018427387904)(hp:0<=D.n.BC/\D.n.BC<=9223372036854775807)(hl:∀f,lookup D.A4 nd=some f->(F f).1.length+(l.length+4)<=70368744177664)(hll:l.length<=4611686018427387904)(hz:(Cz (Bj D F nd ⟨(l++BM (AP s l)).toArray⟩).2.1 (Bj D F nd ⟨(l++BM (AP s l)).toArray⟩).2.2 nd).1<=70368744177664/\(Cz D F nd).1<=70368744177664):
 Ag 237 #[A5 fb,.string ⟨l.toArray⟩] w (Am (.tuple #[.bool (Hn D F nd (l++BM (AP s l))),A0 (Bj D F nd ⟨(l++BM (AP s l)).toArray⟩).1]) λw'=>Bd w' fb T (A5 b) nd (AP s l)/\L1 w Ft fb w' b (Bj D F nd ⟨(l++BM (AP s l)).toArray⟩).2.1 (Bj D F nd ⟨(l++BM (AP s l)).toArray⟩).2.2):=by
 obtain⟨aA,a0⟩:=hz;have aO:=A1 (Se w fb T _ nd s l hf hs (by omega));have aF:(l++BM (AP s l)).length=l.length+4:=by simp[Hh]
 generalize hs1:AP s l=s1 at aO aF aA ⊢;generalize hpc:l++BM s1=pc at aO aF aA ⊢;have bC:∀w',B1 w' b D F Ft->_:=λw' h'=>Wc h' nd ⟨pc.toArray⟩ hroom hu hp (λf hf=>by have:=hl f hf;show _+pc.length<=_;omega);have r1:=Vp D F nd;have r2:=Vp (Bj D F nd ⟨pc.toArray⟩).2.1 (Bj D F nd ⟨pc.toArray⟩).2.2 nd;have O:Hn D F nd pc=decide ((Cz (Bj D F nd ⟨pc.toArray⟩).2.1 (Bj D F nd ⟨pc.toArray⟩).2.2 nd).1-(Cz D F nd).1=pc.length):=rfl;obtain⟨D',aM⟩:∃D',(Bj D F nd ⟨pc.toArray⟩).2.1=D':=⟨_,rfl⟩;obtain⟨F',aI⟩:∃F',(Bj D F nd ⟨pc.toArray⟩).2.2=F':=⟨_,rfl⟩;obtain⟨er,aK⟩:∃er,(Bj D F nd ⟨pc.toArray⟩).1=er:=⟨_,rfl⟩;rw[aM,aI]at O r2 aA ⊢;rw[aK];rw[aM,aI,aK]at bC;have bE:∀w',B1 w' b D F Ft->_:=λw' h'=>MH h' nd;have bB:∀w' d,B1 w' b D' F' d->_:=λw' d h'=>MH h' nd;obtain⟨zn,aE⟩:∃zn,(Cz D F nd).1=zn:=⟨_,rfl⟩;obtain⟨ze,aZ⟩:∃ze,(Cz D F nd).2=ze:=⟨_,rfl⟩;obtain⟨yn,aH⟩:∃yn,(Cz D' F' nd).1=yn:=⟨_,rfl⟩;obtain⟨ye,aQ⟩:∃ye,(Cz D' F' nd).2=ye:=⟨_,rfl⟩;rw[aE,aH]at O;rw[aE]at r1 a0;rw[aH]at r2 aA;rw[aE,aZ]at bE;rw[aH,aQ]at bB;rw[O];obtain⟨ok,O⟩:∃ok,decide (yn-zn=(pc.length:Int))=ok:=⟨_,rfl⟩;rw[O];have aY:=A1 O;have a8:=A1 bC;have aP:=A1 bE;have a5:=A1 bB;have H:=A1 h;have aS:=A1 aR;have bD:=A1 hn
 go_enter func237,ntmps237
 go_wp2_with (go_at_call 214;refine aO.k ?_;rintro w1⟨a9,bA⟩;have a1:=A1 a9;have aD:=A1 bA);have E:Hid (Bd w1 fb T (A5 b) nd s1/\B1 w1 b D F Ft):=⟨a1.o,H.o.aN λk hk=>aD.o.An k (aS.o k hk) (λe=>bD.o (e ▸ hk))⟩;refine Hx 13 (λy=>{tmps:=#[A5 fb,.string ⟨l.toArray⟩,undef,undef,.bool false,A0 0,.string ⟨pc.toArray⟩,y 12,undef,undef,undef,undef,A5 fb,.string ⟨l.toArray⟩,.string ⟨pc.toArray⟩,y 9,y 0,y 1,y 2,y 3,y 4,y 5,y 6,y 7,y 8,y 10,y 11,undef,undef,undef,undef,undef,undef,undef,undef,undef,undef,undef,undef,undef,undef,undef,undef,undef,undef,undef,undef,undef,undef,undef,undef,undef,undef,undef,undef,undef],defers:=[]}) (λ_=>undef)
  (λw'=>Bd w' fb T (A5 b) nd s1/\B1 w' b D F Ft/\A3 Ab w1 w') (A3 Ab)
  (λj x w'=>match j with
   | 0=>x=(A5 fb)
   | 1=>x=(A5 fb)
   | 2=>x=(A5 fb)
   | 3=>x=(A5 b)
   | 4=>x=(A5 fb)
   | 5=>x=(A5 fb)
   | 6=>x=.pointer (some (Ac fb 1))
   | 7=>x=.string nd
   | 8=>x=.tuple #[A0 zn,A0 ze]
   | 9=>x=.tuple #[A0 zn,A0 ze]
   | 10=>x=A0 zn
   | 11=>x=A0 ze
   | 12=>x=A0 zn
   | _=>True)
  (by kernel_rfl) (by kernel_rfl) rfl ?_ ?_ ?_ ?_
 ·exact⟨E.o.1,E.o.2.ag,(A3.I _ _).ag⟩
 ·intro j x w1 w2 hR a6 Y;split at Y<;>exact Y
 ·clear E;simp only[Fe,EZ,FY,HK]
  repeat' (with_reducible apply And.intro)
  all_goals refine⟨?_,(by intro y L _ _ h;exact Bool.noConfusion h),λy x=>rfl⟩
  all_goals
   intro zz L hS hd hw K hK;obtain⟨I,aG,aB⟩:=hS;simp[Gr,Region.binds,Fi,List.filter_cons]at hd;have c0:=I.c0;have c1:=I.c1;have W:Hid (Bd L fb T (A5 b) nd s1/\B1 L b D F Ft/\A3 Ab w1 L):=⟨I,aG,aB⟩;have aJ:=A1 hK
  all_goals dsimp only
  all_goals try go_simp
  all_goals try with_reducible exact aJ.o _ _ _ rfl (by simp[Act.put,hd]) (A3.I _ _) W.o
  all_goals
   refine(aP.o L W.o.2.1).k ?_;rintro w2 rfl;exact aJ.o _ _ _ rfl (by simp[Act.put,hd]) (A3.I _ _) W.o
 intro y L hS Y;have h11:=Y 11 (by omega);have h12:=Y 12 (by omega);have c0:=hS.1.c0;have c1:=hS.1.c1;have W:=A1 hS;go_wp2;refine G0 (λw'=>A7 w' fb 0 (A5 b)/\A7 w' fb 1 (.string nd)) 9
  (BG [0,1,2,3,4,5,6,7,8] []) (by kernel_rfl) (by kernel_rfl) (λ_ _ _ _ _ h=>h) ⟨c0,c1⟩ ?_
 iterate 9 (refine Ek (v:=?_) rfl (by rfl) ?_ ?_;rotate_left;(· (intro w' hS;(try dsimp only at hS);go_simp;try with_reducible rfl));(try simp only[Cs]))
 refine G1 ?_;simp only[DW,Dz];have aX:=A1 (a8.o L.drew W.o.2.1.ag);go_wp2_with (go_at_call 84;refine aX.k ?_;rintro w3 hA;have bF:=A1 hA);have aW:=bF.o.dF;obtain⟨aL,d,aV,aU,aT⟩:=aW;have hsz:=W.o.1.lt;have E:Hid (Bd w3 fb T (A5 b) nd s1/\B1 w3 b D' F' d):=⟨W.o.1.an aL bD.o,aV⟩;have a2:=A1 aL;have a3:=A1 aU;have a7:=A1 aT;have a4:Hid (∀w',B1 w' b D' F' d->_):=λw' h'=>a5.o w' d h';refine Hx 13 (λz=>{tmps:=#[A5 fb,.string ⟨l.toArray⟩,undef,undef,.bool false,A0 0,.string ⟨pc.toArray⟩,A0 zn,A0 ze,A0 er,z 12,undef,A5 fb,.string ⟨l.toArray⟩,.string ⟨pc.toArray⟩,y 9,y 0,y 1,y 2,y 3,y 4,y 5,y 6,y 7,y 8,y 10,A0 ze,A5 fb,A5 fb,A5 fb,A5 b,A5 fb,A5 fb,.pointer (some (Ac fb 1)),.string nd,.string ⟨pc.toArray⟩,A0 er,z 9,z 0,z 1,z 2,z 3,z 4,z 5,z 6,z 7,z 8,z 10,z 11,undef,undef,undef,undef,undef,undef,undef],defers:=[]}) (λ_=>undef)
  (λw'=>Bd w' fb T (A5 b) nd s1/\B1 w' b D' F' d/\A3 Ab w3 w') (A3 Ab)
  (λj x w'=>match j with
   | 0=>x=(A5 fb)
   | 1=>x=(A5 fb)
   | 2=>x=(A5 fb)
   | 3=>x=(A5 b)
   | 4=>x=(A5 fb)
   | 5=>x=(A5 fb)
   | 6=>x=.pointer (some (Ac fb 1))
   | 7=>x=.string nd
   | 8=>x=.tuple #[A0 yn,A0 ye]
   | 9=>x=.tuple #[A0 yn,A0 ye]
   | 10=>x=A0 yn
   | 11=>x=A0 ye
   | 12=>x=A0 yn
   | _=>True)
  (by kernel_rfl) (by kernel_rfl) rfl ?_ ?_ ?_ ?_
 ·exact⟨E.o.1,E.o.2.ag,(A3.I _ _).ag⟩
 ·intro j x w1 w2 hR a6 Y;split at Y<;>exact Y
 ·clear E;simp only[Fe,EZ,FY,HK]
  repeat' (with_reducible apply And.intro)
  all_goals refine⟨?_,(by intro y L _ _ h;exact Bool.noConfusion h),λy x=>rfl⟩
  all_goals
   intro zz L hS hd hw K hK;obtain⟨I,aG,aB⟩:=hS;simp[Gr,Region.binds,Fi,List.filter_cons]at hd;have c0:=I.c0;have c1:=I.c1;have W:Hid (Bd L fb T (A5 b) nd s1/\B1 L b D' F' d/\A3 Ab w3 L):=⟨I,aG,aB⟩;have aJ:=A1 hK
  all_goals dsimp only
  all_goals try go_simp
  all_goals try with_reducible exact aJ.o _ _ _ rfl (by simp[Act.put,hd]) (A3.I _ _) W.o
  all_goals
   refine(a4.o L W.o.2.1).k ?_;rintro w2 rfl;exact aJ.o _ _ _ rfl (by simp[Act.put,hd]) (A3.I _ _) W.o
 intro z wz hZ Y;have z11:=Y 11 (by omega);have z12:z 12=A0 yn:=Y 12 (by omega);have aN:=A1 hZ;have hbe:(yn-zn==(l.length:Int)+4)=ok:=by
  rw[<-aY.o,aF,Xd];simp
 go_wp2;go_ret2
 exact⟨rfl,aN.o.1,(((aD.o.af (λ_ _ h=>.inr h)).Av W.o.2.2 (λ_ h _=>h.elim)).Av a2.o (λ_ h _=>.inl h)).Av aN.o.2.2 (λ_ h _=>h.elim),
  d,aN.o.2.1,λk hk=>Bi (a3.o k hk) aN.o.2.2.Aj,λk hk=>(a7.o k hk).imp id λh=>AJ (AJ aD.o.Aj W.o.2.2.Aj) h⟩
end
def AB(nd:gh UInt8):Nat:=AP 4294967295 nd
def Lets(B:Nat)(w:ga):Prop:=
 B<=w.heap.size/\∀w',Below B w w'->(∀k:Nat,1<=k->k<=4->w'.cell? ⟨0,k,none⟩=some (.string ⟨(Dd k).toArray⟩))/\Lib.TabIs Tryz.prog w' "internal/strconv.uint64pow10" .u64 Lib.pow10Tab
def Lets.an{B:Nat}{w w':ga}{S:Nat->Prop}(h:Lets B w)(d:A3 S w w')(E:∀k,S k->B<=k):Lets B w':=
 ⟨AJ h.1 d.Aj,λH z=>h.2 H ((d.dM h.1 λk hk I=>by have:=E k I;omega).trans z)⟩
def Lets.aO{B:Nat}{w w':ga}(h:Lets B w)(d:A3 Ab w w'):Lets B w':=h.an d λ_ h=>h.elim
def Ul(s:Int):(Dd s).length<=1:=by
 unfold Dd;split
 ·simp
 ·split
  ·simp
  ·split
   ·simp
   ·split<;>simp
def A02(lt:gh UInt8)(n:Int):(Em lt n).length=lt.length+(19-(Lib.itoa n).length)+(Lib.itoa n).length:=by
 unfold Em;have:=Lib.repeatL_length [48] (19-(Lib.itoa n).length);simp only[AY,this];simp
def TU{s n:Int}(h:(Lib.itoa n).length<=19):(BO s n).length<=100:=by
 have h1:=Ul s;unfold BO;split
 ·rw[A02];omega
 ·omega
def MX{B:Nat}{n:Int}(w:ga)(k:Nat)(d:1<=k/\k<=4)(hn : -9223372036854775808<=n/\n<=9223372036854775807)(E:(Lib.itoa n).length<=19)(H:Lets B w):
 Calls Tryz.prog 134 #[.int .i64 k,.int .i64 n] w λe w'=>e=.returned (.string ⟨(BO k n).toArray⟩)/\A3 (λ_=>False) w w':=by
 have⟨h1,h2⟩:=H.2 w (O4 _ _);have z:=h1 k d.1 d.2;by_cases h:k=1\/k=2
 ·have e:BO k n=Em (Dd k) n:=by unfold BO;rw[Ae (by omega)]
  rw[e];exact A01 w k k ⟨rfl,h⟩ (Dd k) n hn (by have:=Ul k;omega) E z h2
 ·have e:BO k n=Dd k:=by unfold BO;rw[Aa (by omega)]
  rw[e];refine(Uf w k (by omega) (Dd k) n z).k ?_;rintro w' rfl;exact⟨rfl,A3.I _ _⟩
def CH(n:Int):Prop:=0<=n/\n<=9223372036854775807/\(Lib.itoa n).length<=19
section
variable{B:Nat}{n:Int}{p:gd}
def Q3(w:ga)(z k:Nat)(hk:1<=k/\k<=4)(hn:CH n)(hL:Lets B w):
 Ag 125 #[A5 z,A0 k,A0 n] w (Am (.agg #[A5 z,.string ⟨(BO k n).toArray⟩,.int .u32 (AB (BO k n))]) λw'=>A3 Ab w w'):=by
 obtain⟨hn1,aB,hd⟩:=hn;have aF:∀w',A3 Ab w w'->_:=λw' hc=>MX (n:=n) w' k hk ⟨by omega,aB⟩ hd (hL.aO hc);have H:(BO k n).length<=9223372036854775807:=by
  have:=TU (s:=k) hd;omega
 generalize hnm:BO k n=nm at aF H ⊢;have aG:∀w',_:=λw'=>Wp w' 4294967295 nm (by omega) H;obtain⟨s0,E⟩:∃s0,AB nm=s0:=⟨_,rfl⟩;have W:∀w',Ag 165 #[.int .u32 4294967295,.string ⟨nm.toArray⟩] w' λe aA=>e=.returned (.int .u32 s0)/\w'=aA:=by rw[<-E];exact aG
 rw[E];have O:=A1 aF;have Y:=A1 W
 go_enter func125,ntmps125
 go_wp2_with (fail);refine(O.o _ ((A3.I _ _).al _)).k ?_;rintro d L;have h:d.heap[w.heap.size]?=some (.cells #[.pointer none,.string ⟨#[]⟩,.int .u32 0] 160 (0,0)):=L.an (by show (w.heap.push _)[w.heap.size]?=_;rw[Jd]) (by simp);have c0:A7 d w.heap.size 0 (.pointer none):=by simp[A7,World.cell?,h]
 have c1:A7 d w.heap.size 1 (.string ⟨#[]⟩):=by simp[A7,World.cell?,h]
 have c2:A7 d w.heap.size 2 (.int .u32 0):=by simp[A7,World.cell?,h]
 have f0:d.frozen? (Ac w.heap.size 0)=false:=by simp[World.frozen?,h]
 have f1:d.frozen? (Ac w.heap.size 1)=false:=by simp[World.frozen?,h]
 have f2:d.frozen? (Ac w.heap.size 2)=false:=by simp[World.frozen?,h]
 have I:=CL (o:=2) (v:=.int .u32 s0) (CL (o:=1) (v:=.string ⟨nm.toArray⟩) (CL (o:=0) (v:=(A5 z)) h));have k1:A3 Ab w d:=((A3.I Ab w).al _).tr L;have k3:A3 Ab w (((d.setCell (Ac w.heap.size 0) (A5 z)).setCell (Ac w.heap.size 1) (.string ⟨nm.toArray⟩)).setCell (Ac w.heap.size 2) (.int .u32 s0)):=((k1.bn (by simp) _).bn (by simp) _).bn (by simp) _;have aD:=A1 I;have aE:=A1 k3;go_wp2_with (go_at_call 165;refine(Y.o _).k ?_;rintro w' rfl);generalize (((d.setCell (Ac w.heap.size 0) (A5 z)).setCell (Ac w.heap.size 1) (.string ⟨nm.toArray⟩)).setCell (Ac w.heap.size 2) (.int .u32 s0))=w3 at aD aE ⊢;have I:=aD.o;have r0:A7 w3 w.heap.size 0 (A5 z):=by simp[A7,World.cell?,I]
 have r1:A7 w3 w.heap.size 1 (.string ⟨nm.toArray⟩):=by simp[A7,World.cell?,I]
 have r2:A7 w3 w.heap.size 2 (.int .u32 s0):=by simp[A7,World.cell?,I]
 refine Nt (v:=.agg #[A5 z,.string ⟨nm.toArray⟩,.int .u32 s0]) (by simp[results,Tryz.results125,go_sem,r0,r1,r2]) rfl ?_;exact⟨rfl,aE.o⟩
def Uu(w:ga)(z:Nat)(O:CH n)(L:Lets B w):
 Ag 192 #[A5 z,A0 n] w λe w'=>∃E,e=.returned (A5 E)/\Bd w' E 237 (A5 z) ⟨(BO 1 n).toArray⟩ (AB (BO 1 n))/\A3 Ab w w'/\w.heap.size<=E:=by
 have d:=A1 (Q3 w z 1 (by omega) O L);rw[show ((1:Nat):Int)=1 from rfl]at d;generalize hnm:BO 1 n=nm at d ⊢;generalize hs0:AB nm=s0 at d ⊢
 go_enter func192,ntmps192
 go_wp2_with (go_at_call 125;refine d.k ?_;rintro h I;have H:=A1 I);go_ret;exact⟨h.heap.size,rfl,(by show (h.heap.push _)[h.heap.size]?=_;rw[Jd]),H.o.al _,H.o.Aj⟩
def BZ(w:ga)(xb:Nat)(T:TypeId)(b:Nat)(nd:gh UInt8)(s:Nat)(n:Int)(v:gd):Prop:=w.heap[xb]?=some (.cells #[.pointer (some ⟨b,0,none⟩),.string ⟨nd.toArray⟩,.int .u32 s,.int .i64 n,v] T (0,0))
section
variable{w w':ga}{xb:Nat}{T:TypeId}{b:Nat}{nd:gh UInt8}{s:Nat}{v:gd}
def BZ.c0(h:BZ w xb T b nd s n v):A7 w xb 0 (A5 b):=by unfold BZ at h;simp[A7,World.cell?,h]
def BZ.c1(h:BZ w xb T b nd s n v):A7 w xb 1 (.string ⟨nd.toArray⟩):=by unfold BZ at h;simp[A7,World.cell?,h]
def BZ.c2(h:BZ w xb T b nd s n v):A7 w xb 2 (.int .u32 s):=by unfold BZ at h;simp[A7,World.cell?,h]
def BZ.c3(h:BZ w xb T b nd s n v):A7 w xb 3 (A0 n):=by unfold BZ at h;simp[A7,World.cell?,h]
def BZ.c4(h:BZ w xb T b nd s n v):A7 w xb 4 v:=by unfold BZ at h;simp[A7,World.cell?,h]
def BZ.fz(h:BZ w xb T b nd s n v)(o:Nat):w.frozen? (Ac xb o)=false:=by unfold BZ at h;simp[World.frozen?,h]
def BZ.lt(h:BZ w xb T b nd s n v):xb<w.heap.size:=Bv h
def BZ.s3(h:BZ w xb T b nd s n v)(x:Int):BZ (w.setCell (Ac xb 3) (A0 x)) xb T b nd s x v:=CL h
def BZ.s4(h:BZ w xb T b nd s n v)(x:gd):BZ (w.setCell (Ac xb 4) x) xb T b nd s n x:=CL h
def BZ.ag(h:BZ w xb T b nd s n v):BZ w.drew xb T b nd s n v:=by unfold BZ at h ⊢;exact h
def BZ.an{S:Nat->Prop}(h:BZ w xb T b nd s n v)(d:A3 S w w')(z:¬S xb):BZ w' xb T b nd s n v:=d.an h z
end
def S9(w:ga)(z:Nat)(O:CH n)(L:Lets B w):
 Ag 175 #[A5 z,A0 n] w λe w'=>∃E,e=.returned (A5 E)/\BZ w' E 182 z (BO 2 n) (AB (BO 2 n)) n (.slice none 0 0)/\A3 Ab w w'/\w.heap.size<=E:=by
 have d:=A1 (Q3 w z 2 (by omega) O L);rw[show ((2:Nat):Int)=2 from rfl]at d;generalize hnm:BO 2 n=nm at d ⊢;generalize hs0:AB nm=s0 at d ⊢
 go_enter func175,ntmps175
 go_wp2_with (go_at_call 125;refine d.k ?_;rintro h I;have H:=A1 I);go_ret;exact⟨h.heap.size,rfl,(by show (h.heap.push _)[h.heap.size]?=_;rw[Jd]),H.o.al _,H.o.Aj⟩
end
def EA.a8{w z w':ga}{b:Nat}{D:DS}{F:Nat->FC}{Ft:Nat->Prop}(h:EA z Ft w' b D F)(E:A3 Ab w z):EA w Ft w' b D F:=by
 obtain⟨O,d,I,W,L⟩:=h;exact⟨(E.aY).tr O,d,I,W,λk H=>(L k H).imp id λh=>AJ E.Aj h⟩
section
variable{B b:Nat}{D:DS}{F:Nat->FC}{Ft:Nat->Prop}{n:Int}
def L1.a8{w z w':ga}{E:Nat}(h:L1 z Ft E w' b D F)(H:A3 Ab w z):L1 w Ft E w' b D F:=by
 obtain⟨W,d,L,Y,O⟩:=h;exact⟨(H.aY).tr W,d,L,Y,λk I=>(O k I).imp id λh=>AJ H.Aj h⟩
def A4I(w:ga)(I:Nat)(z:gg)(s:Nat)(d t v:Int)(aF:0<=d/\d<256)(ht : -9223372036854775808<=t/\t<=9223372036854775807)(hv : -9223372036854775808<=v/\v<=9223372036854775807)(hf:Bd w I 237 (A5 b) z s)(hs:s<4294967296)(h:B1 w b D F Ft)(H:∀k,Ft k->k<w.heap.size)(hn:¬Ft I)(hroom : -4611686018427387904<=D.n.AA/\D.n.AA<=9223372036854775807)(hu:B6 F D.A4<=4611686018427387904)(hp:0<=D.n.BC/\D.n.BC<=9223372036854775807)(hl:∀f,lookup D.A4 z=some f->(F f).1.length+21<=70368744177664)(hz:(Cz (Bj D F z ⟨(Bc d t v++BM (AP s (Bc d t v))).toArray⟩).2.1 (Bj D F z ⟨(Bc d t v++BM (AP s (Bc d t v))).toArray⟩).2.2 z).1<=70368744177664/\(Cz D F z).1<=70368744177664):
 Ag 191 #[A5 I,.agg #[A0 d,A0 t,A0 v]] w (Am (.tuple #[.bool (Hn D F z (Bc d t v++BM (AP s (Bc d t v)))),A0 (Bj D F z ⟨(Bc d t v++BM (AP s (Bc d t v))).toArray⟩).1]) λw'=>
  Bd w' I 237 (A5 b) z (AP s (Bc d t v))/\L1 w Ft I w' b (Bj D F z ⟨(Bc d t v++BM (AP s (Bc d t v))).toArray⟩).2.1 (Bj D F z ⟨(Bc d t v++BM (AP s (Bc d t v))).toArray⟩).2.2):=by
 have PB:∀w',_:=λw'=>Th w' d t v aF ht hv;have aB:(Bc d t v).length=17:=by simp[Bc,CQ]
 generalize hle:Bc d t v=l at PB aB hz ⊢;have AD:∀w',A3 Ab w w'->_:=λw' hc=>addF (hf.an hc (by simp)) hs (h.ay H hc) (λk hk=>Bi (H k hk) hc.Aj) hn l hroom hu hp (λf hf=>by have:=hl f hf;omega) (by omega) hz;obtain⟨ok,aK⟩:∃ok,Hn D F z (l++BM (AP s l))=ok:=⟨_,rfl⟩;obtain⟨er,aE⟩:∃er,(Bj D F z ⟨(l++BM (AP s l)).toArray⟩).1=er:=⟨_,rfl⟩;rw[aK,aE]at AD ⊢;have hlb:=hf.lt;have aH:=A1 PB;have aI:=A1 AD;have aA:=A1 H
 go_enter func191,ntmps191
 go_wp2;have hb:(w.alloc (.cells #[A0 d,A0 t,A0 v] 113)).heap[w.heap.size]?=some (.cells #[A0 d,A0 t,A0 v] 113 (0,0)):=by show (w.heap.push _)[w.heap.size]?=_;rw[Jd]
 have p0:(w.alloc (.cells #[A0 d,A0 t,A0 v] 113)).drew.cell? (Ac w.heap.size 0)=some (A0 d):=by show (w.alloc _).cell? _=_;simp only[World.cell?,hb];rfl
 have p1:(w.alloc (.cells #[A0 d,A0 t,A0 v] 113)).drew.cell? (Ac w.heap.size 1)=some (A0 t):=by show (w.alloc _).cell? _=_;simp only[World.cell?,hb];rfl
 have p2:(w.alloc (.cells #[A0 d,A0 t,A0 v] 113)).drew.cell? (Ac w.heap.size 2)=some (A0 v):=by show (w.alloc _).cell? _=_;simp only[World.cell?,hb];rfl
 have W:Hid (A3 Ab w (w.alloc (.cells #[A0 d,A0 t,A0 v] 113)).drew):=((A3.I _ w).al _).ag;refine G0 (λw'=>w'.cell? (Ac w.heap.size 0)=some (A0 d)/\w'.cell? (Ac w.heap.size 1)=some (A0 t)/\w'.cell? (Ac w.heap.size 2)=some (A0 v)) 8
  (BG [0,1,2,3,4,5,6,7] [4,5]) (by kernel_rfl) (by kernel_rfl) (λ_ _ _ _ _ h=>h) ⟨p0,p1,p2⟩ ?_
 generalize (w.alloc (.cells #[A0 d,A0 t,A0 v] 113)).drew=w1 at p0 p1 p2 W ⊢
 iterate 4 (refine Ek (v:=?_) rfl (by rfl) ?_ ?_;rotate_left;(· (intro w' Y;(try dsimp only at Y);go_simp;try with_reducible rfl));(try simp only[Cs]))
 refine Eb rfl (by rfl) (λK hK=>?_);go_simp;refine(aH.o w1).k ?_;rintro w2 E;have q0:=E.ao p0;have q1:=E.ao p1;have q2:=E.ao p2;refine hK _ _ ⟨q0,q1,q2⟩ (λY=>?_);have O:Hid (A3 Ab w w2):=W.o.tr E
 (try simp only[Cs])
 refine Eb rfl (by rfl) (λK hK=>?_);go_simp;refine(aI.o w2 O.o).k ?_;rintro w3⟨aM,L⟩;have k3:=L.1;have aL:¬((λk=>Ft k\/k=I) w.heap.size):=by
  rintro (h|h)
  ·have:=aA.o _ h;omega
  ·omega
 have kc:∀o u,w2.cell? (Ac w.heap.size o)=some u->w3.cell? (Ac w.heap.size o)=some u:=by
  intro o u hu;have aJ:w.heap.size<w2.heap.size:=by
   rcases Fc w.heap.size w2.heap.size with h|h
   ·exact h
   ·unfold World.cell? at hu;rw[O5 h]at hu;simp at hu
  unfold World.cell? at hu ⊢;rw[k3.An _ aJ aL];exact hu
 refine hK _ _ ⟨kc 0 _ q0,kc 1 _ q1,kc 2 _ q2⟩ (λY=>?_);have aG:=A1 aM;have aD:=A1 (L.a8 O.o)
 (try simp only[Cs])
 iterate 2 (refine Ek (v:=?_) rfl (by rfl) ?_ ?_;rotate_left;(· (intro w' Y;(try dsimp only at Y);go_simp;try with_reducible rfl));(try simp only[Cs]))
 refine G1 ?_;simp only[DW,Dz];go_wp2;go_ret2;exact⟨rfl,aG.o,aD.o⟩
end
section
variable{B b:Nat}{D:DS}{F:Nat->FC}{Ft:Nat->Prop}{n:Int}
def LQ(nm:gh UInt8)(d:Int):gh UInt8:=AO d++BM (AP (AB nm) (AO d))
def Iw(nm:gh UInt8):AB nm<4294967296:=I5 _ _ (by omega)
def A0W(w:ga)(E:Int)(k:Nat)(z aQ:DS)(O aO:Nat->FC)(e1 e2:Int)(h:B1 w b D F Ft)(aE:∀k,Ft k->k<w.heap.size)(hn:CH n)(hL:Lets B w)(ha : -9223372036854775808<=E/\E<=9223372036854775807)(hk:¬D.Ap k)(hs:D.A4.length<1099511627776/\D.As.length<1099511627776)(h1:CN D ⟨(BO 1 n).toArray⟩ k=(e1,z))(a8:upd F k ([],0)=O)(h2:Bj z O ⟨(BO 1 n).toArray⟩ ⟨(LQ (BO 1 n) E).toArray⟩=(e2,aQ,aO))(hroom : -4611686018427387904<=z.n.AA/\z.n.AA<=9223372036854775807)(hu:B6 O z.A4<=4611686018427387904)(hp:0<=z.n.BC/\z.n.BC<=9223372036854775807)(hl:∀f,lookup z.A4 ⟨(BO 1 n).toArray⟩=some f->(O f).1.length+12<=70368744177664)(hz:(Cz aQ aO ⟨(BO 1 n).toArray⟩).1<=70368744177664/\(Cz z O ⟨(BO 1 n).toArray⟩).1<=70368744177664):
 Ag 236 #[A5 b,A0 n,A0 E] w λe w'=>
  (e1≠0/\e=.returned (.tuple #[.pointer none,A0 e1])/\EA w Ft w' b z O)\/
  (e1=0/\e2≠0/\e=.returned (.tuple #[.pointer none,A0 e2])/\EA w Ft w' b aQ aO)\/
  (e1=0/\e2=0/\∃d,e=.returned (.tuple #[A5 d,A0 0])/\w.heap.size<=d/\Bd w' d 237 (A5 b) ⟨(BO 1 n).toArray⟩ (AP (AB (BO 1 n)) (AO E))/\
   A3 Ft w w'/\∃W,B1 w' b aQ aO W/\(∀k,W k->k<w'.heap.size)/\(∀k,W k->Ft k\/w.heap.size<=k)/\¬W d):=by
 have bE:=A1 (Uu w b hn hL);have aL:=Iw (BO 1 n);generalize hnm:BO 1 n=nm at bE aL h1 h2 hl hz ⊢;have CR:∀w' d,A3 Ab w w'->Bd w' d 237 (A5 b) ⟨nm.toArray⟩ (AB nm)->_:=λw' d hc hf=>Vw hf (h.ay aE hc) k hk hs;rw[h1,a8]at CR;have AD:∀w' d aB,Bd w' d 237 (A5 b) ⟨nm.toArray⟩ (AB nm)->B1 w' b z O aB->(∀k,aB k->k<w'.heap.size)->¬aB d->_:=
  λw' d aB hf hr aK aW=>addF hf aL hr aK aW (AO E) hroom hu hp (λf hf=>by have:=hl f hf;rw[CQ];exact this) (by rw[CQ];omega) (by
   show (Cz (Bj z O _ ⟨(LQ nm E).toArray⟩).2.1 (Bj z O _ ⟨(LQ nm E).toArray⟩).2.2 _).1<=_/\_
   rw[h2];exact hz)
 have e0:AO E++BM (AP (AB nm) (AO E))=LQ nm E:=rfl;rw[e0,h2]at AD;have bJ:∀w',_:=λw'=>LO w' E ha;generalize hle:AO E=l at AD bJ ⊢;generalize hok:Hn z O ⟨nm.toArray⟩ (LQ nm E)=ok at AD;dsimp only at CR AD;have aV:=A1 CR;have bF:=A1 AD;have a0:=A1 bJ;have aZ:=A1 aE;rcases QU (e1=0) with aD|aD
 ·subst aD
  go_enter func236,ntmps236
  go_wp2_with (first
   | (go_at_call 192;refine bE.m ?_;rintro e w1⟨d,rfl,hb,hc,aF⟩;have aR:=A1 hb;have aS:=A1 hc;have aA:=A1 aF)
   | (go_at_call 240;refine(aV.o _ _ aS.o aR.o).k ?_;rintro w2 hA;have aX:=A1 hA))
  have⟨hk2,Ft2,hr2,hl2,hf2⟩:=aX.o;have bI:=aR.o.lt;have aI:¬Ft d:=λh=>by have:=aZ.o d h;have:=aA.o;omega
  have aH:¬Ft2 d:=λh=>by rcases hf2 d h with h|h;exact aI h;omega
  have a6:=aR.o.an hk2 aI;have aN:=hk2.Aj;refine G0 (λ_=>True) 10
   (BG [0,1,2,3,4,5,6,7,8,9] [4,5]) (by kernel_rfl) (by kernel_rfl) (λ_ _ _ _ _ h=>h) trivial ?_
  have a7:=A1 a6;have a1:=A1 hr2;have aP:=A1 hl2;have aT:=A1 hf2;have a9:=A1 hk2;have aJ:=A1 aH;have aY:=A1 bI;have bB:=A1 aN
  iterate 4 (refine Ek (v:=?_) rfl (by rfl) ?_ ?_;rotate_left;(· (intro w' hS;(try dsimp only at hS);go_simp;try with_reducible rfl));(try simp only[Cs]))
  refine Eb rfl (by rfl) (λK hK=>?_);go_simp;refine(a0.o w2.drew).k ?_;rintro w3 L;refine hK _ _ trivial (λhS=>?_);have aU:A3 Ab w2 w3:=⟨L.os,L.G3,L.G5,L.Aj,L.An⟩;have I:=A1 aU
  (try simp only[Cs])
  refine Eb rfl (by rfl) (λK hK=>?_);go_simp;refine(bF.o w3 d Ft2 (a7.o.an I.o (by simp)) (a1.o.ay aP.o I.o) (λk hk=>Bi (aP.o k hk) I.o.Aj) aJ.o).k ?_;rintro w4⟨bH,bG,H,bD,bA,aM⟩;refine hK _ _ trivial (λhS=>?_);have bC:=A1 bH;have Y:Hid (A3 Ft w w4/\B1 w4 b aQ aO H/\(∀k,H k->k<w4.heap.size)/\(∀k,H k->Ft k\/w.heap.size<=k)/\¬H d):=by
   have a2:=bB.o;have a3:=I.o.Aj;have a4:=aY.o;have a5:=aA.o;refine⟨((((aS.o.aY).tr a9.o).Av I.o (λ_ h _=>h.elim)).Av bG (λx hx aE=>?_)),bD,bA,λk hk=>?_,λhx=>?_⟩
   ·rcases hx with hx|rfl
    ·exact(aT.o x hx).resolve_right (by omega)
    ·omega
   ·rcases aM k hk with h|h
    ·exact(aT.o k h).imp id (λh=>by omega)
    ·exact .inr (by omega)
   ·rcases aM d hx with h|h
    ·exact aJ.o h
    ·omega
  (try simp only[Cs])
  iterate 4 (refine Ek (v:=?_) rfl (by rfl) ?_ ?_;rotate_left;(· (intro w' hS;(try dsimp only at hS);go_simp;try with_reducible rfl));(try simp only[Cs]))
  refine G1 ?_;simp only[DW,Dz];rcases QU (e2=0) with aG|aG
  ·subst aG;go_wp2;go_ret2;exact⟨d,rfl,aA.o,bC.o,Y.o.1,H,Y.o.2.1,Y.o.2.2.1,Y.o.2.2.2.1,Y.o.2.2.2.2⟩
  ·go_wp2;go_ret2;exact .inr (.inl ⟨trivial,aG,rfl,Y.o.1,H,Y.o.2.1,Y.o.2.2.1,Y.o.2.2.2.1⟩)
 ·go_enter func236,ntmps236
  go_wp2_with (first
   | (go_at_call 192;refine bE.m ?_;rintro e w1⟨d,rfl,hb,hc,aF⟩;have aR:=A1 hb;have aS:=A1 hc;have aA:=A1 aF)
   | (go_at_call 240;refine(aV.o _ _ aS.o aR.o).k ?_;rintro w2 hA;have aX:=A1 hA))
  go_ret2;exact .inl ⟨aD,rfl,aX.o.a8 aS.o⟩
end
end
section
open Go.RowKit
attribute [local go_sem ↓] Go.wp_at_zero Go.wp_at_succ
def Da:Nat->Nat->gh UInt8->gh Pu×Bool
 | 0,_,_=>([],true)
 | k+1,s,l=>if l.length<21 then ([],true) else
  if BM (AP s (l.take 17))=(l.drop 17).take 4/\(l.headD 0).toNat<8 then
   ((((l.headD 0).toNat:Int),BI (l.drop 1),BI (l.drop 9)):: (Da k (AP s (l.take 17)) (l.drop 21)).1,(Da k (AP s (l.take 17)) (l.drop 21)).2)
  else ([],false)
def MP{k s:Nat}{l:gh UInt8}(h:l.length<21):Da k s l=([],true):=by cases k<;>simp[Da,h]
def MR{k s:Nat}{b:UInt8}{d t r:gh UInt8}(z:d.length=16)(E:t.length=4)(h:BM (AP s (b::d))=t)(W:b.toNat<8):
 Da (k+1) s (b::d++t++r)=(((b.toNat:Int),BI d,BI (d.drop 8)):: (Da k (AP s (b::d)) r).1,(Da k (AP s (b::d)) r).2):=by
 have I:(b::d++t++r).take 17=b::d:=by simp[z]
 have Y:((b::d++t++r).drop 17).take 4=t:=by simp[z,E]
 have L:(b::d++t++r).drop 21=r:=by
  rw[Mp,KU (by simp[z,E])];simp[z,E]
 have O:BI ((b::d++t++r).drop 1)=BI d:=by
  have e:(b::d++t++r).drop 1=d++(t++r):=by simp
  unfold BI;rw[e,Hc (by omega)]
 have H:BI ((b::d++t++r).drop 9)=BI (d.drop 8):=by
  have e:(b::d++t++r).drop 9=d.drop 8++(t++r):=by
   simp only[FD,Ch,DW];rw[Mo (by omega)]
  unfold BI;rw[e,Hc (by simp;omega)]
 simp only[Da,I,Y,L,O,H];rw[Aa (by simp[z,E];omega),Ae (by simpa using⟨h,W⟩)];rfl
def OX{k s:Nat}{b:UInt8}{d t r:gh UInt8}(z:d.length=16)(E:t.length=4)(h:¬(BM (AP s (b::d))=t/\b.toNat<8)):
 Da (k+1) s (b::d++t++r)=([],false):=by
 have H:(b::d++t++r).take 17=b::d:=by simp[z]
 have I:((b::d++t++r).drop 17).take 4=t:=by simp[z,E]
 simp only[Da,H,I];rw[Aa (by simp[z,E];omega),Aa (by simpa using h)]
def Ur{l:gh UInt8}(h:21<=l.length):∃(b:UInt8) (d t r:gh UInt8),l=b::d++t++r/\d.length=16/\t.length=4:=by
 cases l with
 | nil=>simp at h
 | cons b l=>
  simp at h;refine⟨b,l.take 16,(l.drop 16).take 4,l.drop 20,?_,by simp;omega,by simp;omega⟩;simp only[FD,Ch,List.cons.injEq,true_and];rw[show l.drop 20=(l.drop 16).drop 4 by simp,DU,DU]
def V9{l:gh UInt8}(h:12<=l.length):∃(d t r:gh UInt8),l=d++t++r/\d.length=8/\t.length=4:=by
 refine⟨l.take 8,(l.drop 8).take 4,l.drop 12,?_,by simp;omega,by simp;omega⟩;rw[Ch,show l.drop 12=(l.drop 8).drop 4 by simp,DU,DU]
def Ee(s:Nat)(d:Int)(l:gh UInt8):gh Pu×Int:=
 if l.length<12 then ([],0) else
 if BM (AP s (l.take 8))=(l.drop 8).take 4/\BI l=d then
  (if (Da l.length (AP s (l.take 8)) (l.drop 12)).2=true then ((Da l.length (AP s (l.take 8)) (l.drop 12)).1,0) else ([],7))
 else ([],7)
def Lp{s:Nat}{E:Int}{d t r:gh UInt8}(h:d.length=8)(z:t.length=4):
 Ee s E (d++t++r)=if BM (AP s d)=t/\BI d=E then (if (Da (r.length+12) (AP s d) r).2=true then ((Da (r.length+12) (AP s d) r).1,0) else ([],7)) else ([],7):=by
 have I:(d++t++r).take 8=d:=by simp[h]
 have W:((d++t++r).drop 8).take 4=t:=by simp[h,z]
 have L:(d++t++r).drop 12=r:=by
  rw[Mp,KU (by simp[h,z])];simp[h,z]
 have O:BI (d++t++r)=BI d:=by unfold BI;rw[Ch,Hc (by omega)]
 have H:(d++t++r).length=r.length+12:=by simp[h,z];omega
 unfold Ee;rw[Aa (by simp[h,z];omega),I,W,L,O,H]
def AX(w:ga)(v:gd)(l:gh Pu):Prop:=w.ownsRow 0 113 3 v l.length (Bb l)
def IN:(Tryz.prog.info? 113).map (λi=>(i.zero,i.size,i.bytes))=some (some (.agg #[A0 0,A0 0,A0 0]),3,24):=by kernel_rfl
end
end Go.Proofs.YtodcnkbblippnaaGreatDoor
