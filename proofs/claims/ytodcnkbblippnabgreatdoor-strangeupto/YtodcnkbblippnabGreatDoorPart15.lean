/- Part 15 of a proof: walks of the program. -/
import Derived.Test.YtodcnkbblippnabGreatDoorShelf
import Derived.Lib.ItoaLen
import Derived.Test.YtodcnkbblippnabGreatDoorPart11
import Derived.Test.YtodcnkbblippnabGreatDoorPart14
namespace Go.Proofs.YtodcnkbblippnabGreatDoor
set_option maxRecDepth 100000
set_option maxHeartbeats 32000000
set_option linter.defProp false
open Go.Proofs.Tryz
section
open Go.RowKit
def A5.fx{S:Nat->Prop}{w:World}(k:Nat)(os:Array Obj):A5 S w (Go.Sort.grow (w.drewN k) os):=
 ⟨rfl,rfl,rfl,(by show w.heap.size<=(w.heap++os).size;simp),λj h _=>(by show (w.heap++os)[j]?=_;rw[Array.getElem?_append_left h])⟩
def E0(lt:List UInt8)(n:Int):List UInt8:=lt++Lib.repeatL [48] (19-(Lib.itoa n).length)++Lib.itoa n
def CO(s:Int):List UInt8:=if s=1 then [108] else if s=2 then [115] else if s=3 then [105] else if s=4 then [100] else []
def BJ(s n:Int):List UInt8:=if s=1\/s=2 then E0 (CO s) n else CO s
def Of(w:World)(s:Int):Aj 84 #[A0 s] w (Au (.bool (decide (s=1\/s=2))) λw'=>w=w'):=by
 go_enter func84,ntmps84
 by_cases z:s=1
 ·subst z;go_wp2;go_ret;exact⟨rfl,rfl⟩
 ·by_cases h:s=2
  ·subst h;go_wp2;go_ret;exact⟨rfl,rfl⟩
  ·go_wp2;go_ret;exact⟨by simp[z,h],rfl⟩
def Z6(w:World)(s:Int)(k:Nat)(hs:s=k/\(k=1\/k=2))(lt:List UInt8)(n:Int)(hn : -9223372036854775808<=n/\n<=9223372036854775807)(hlt:lt.length<=1000)(hd:(Lib.itoa n).length<=19)(hl:Aa w 0 k (.string ⟨lt.toArray⟩))(W:Lib.TabIs Tryz.prog w "internal/strconv.uint64pow10" .u64 Lib.pow10Tab):
 Aj 85 #[A0 s,A0 n] w (Au (.string ⟨(E0 lt n).toArray⟩) λw'=>A5 Ab w w'):=by
 obtain⟨rfl,hk⟩:=hs;obtain⟨aI,aN⟩:=hn;have aA:(k:Int)<5:=by omega
 have Y:(k:Int)=1\/(k:Int)=2:=by omega
 have aH:decide ((k:Int)=1\/(k:Int)=2)=true:=CJ Y;have aK:=A4 (Tryz.strconv_Itoa n aI aN w W);have aS:∀w',_:=λw'=>Tryz.strings_Repeat ⟨#[48]⟩ (19-(Lib.itoa n).length) w' (by omega) (by show 1*_<=_;omega);have O:=A4 aS;have I:Hid (E0 lt n=lt++Lib.repeatL [48] (19-(Lib.itoa n).length)++Lib.itoa n):=rfl;have H:=Lib.repeatL_length [48] (19-(Lib.itoa n).length);generalize aJ:Lib.itoa n=dg at aK hd O I H;clear aS aJ W;obtain⟨c,hc,hcl⟩:∃c:Nat,19-dg.length=c/\dg.length+c=19:=⟨_,rfl,by omega⟩;rw[hc]at O I H;clear hc;obtain⟨z,X⟩:∃z,Lib.repeatL [48] c=z:=⟨_,rfl⟩;have aE:Hid (∀w':World,Aj 127 #[.string ⟨#[48]⟩,A0 (c:Int)] w' λe aM=>e=.returned (.string ⟨z.toArray⟩)/\Below w'.heap.size w' aM):=by
  rw[<-X];exact O.o
 rw[X]at I H;clear X O;have hrl2:z.length<=19:=by rw[H];simp;omega
 clear H;generalize aB:E0 lt n=nm at I ⊢;have aP:=A4 hl;clear aB hl
 go_enter func85,ntmps85
 go_wp2_with (fail);refine(Of w k).k ?_;rintro w0 rfl;rw[aH];have HK1:=A4 hk;have HK2:=A4 Y;have aO:=A4 aA;clear hk Y aA aH;go_wp2_with (go_at_call 126;refine aK.k ?_;rintro w1 hw;have aR:=A4 hw;clear hw);have aD:Hid (A5 Ab w w1):=by
  have⟨k,os,he⟩:=aR.o;rw[he];exact A5.fx k os
 have aG:=A4 (aD.o.an aP.o);clear aR aK aP;refine Hb 10 (λy=>{tmps:=#[A0 k,A0 n,undef,undef,.string ⟨#[]⟩,.string ⟨dg.toArray⟩,A0 k,.bool true,.bool false,undef,undef,undef,A0 n,.string ⟨dg.toArray⟩,y 0,y 1,y 2,y 3,y 4,y 5,y 6,y 7,y 8,y 9],defers:=[]}) (λ_=>undef)
  (λw'=>Aa w' 0 k (.string ⟨lt.toArray⟩)/\A5 Ab w1 w') (A5 Ab)
  (λj x w'=>match j with
   | 0=>x=A0 k
   | 1=>x=.pointer (some (Ad 0 k))
   | 2=>x=.string ⟨lt.toArray⟩
   | 3=>x=.string ⟨dg.toArray⟩
   | 4=>x=A0 dg.length
   | 5=>x=A0 (c:Int)
   | 6=>x=.string ⟨z.toArray⟩
   | 7=>x=.string ⟨(lt++z).toArray⟩
   | 8=>x=.string ⟨dg.toArray⟩
   | 9=>x=.string ⟨nm.toArray⟩
   | _=>True)
  (by kernel_rfl) (by kernel_rfl) rfl ?_ ?_ ?_ ?_
 ·exact⟨aG.o,(A5.C _ _).ad⟩
 ·intro j x w1 w2 hR hS' hG;split at hG<;>exact hG
 ·clear aG;simp only[EU,EL,FP,HJ]
  repeat' (with_reducible apply And.intro)
  all_goals refine⟨?_,(by intro y wx _ _ h;exact Bool.noConfusion h),λy x=>rfl⟩
  all_goals
   intro y wx hS hd hw K hK;obtain⟨c0,aL⟩:=hS;simp[Gc,Region.binds,Fc,List.filter_cons]at hd;have hk5:=aO.o;have hk0:=Cd k;have ap1:=JV lt z;(have g1:¬(9223372036854775807<lt.length+z.length):=by omega);(have g2:¬(9223372036854775807<lt.length+z.length+dg.length):=by omega);(have g3:¬(9223372036854775807<lt.length+(z.length+dg.length)):=by omega);(have ap2:(ByteArray.mk (lt++z).toArray)++(ByteArray.mk dg.toArray)=⟨nm.toArray⟩:=by rw[JV,I.o]);have ew:IntKind.i64.wrap (c:Int)=c:=GN (by omega);(have ew2:(19:Int)-(dg.length:Int)=(c:Int):=by omega);have aF:Hid (Aa wx 0 k (.string ⟨lt.toArray⟩)/\A5 Ab w1 wx):=⟨c0,aL⟩;have aQ:=A4 hK
  all_goals dsimp only
  all_goals try go_simp
  all_goals try with_reducible exact aQ.o _ _ _ rfl (by simp[Act.put,hd]) (A5.C _ _) aF.o
  all_goals try
   (have hd5:y 5=A0 (c:Int):=by with_reducible exact hd);refine(aE.o wx).k ?_;rintro w2 hb;have hc:A5 Ab wx w2:=A5.cF hb;exact aQ.o _ _ _ rfl (by simp[Act.put,hd]) hc ⟨hc.an aF.o.1,aF.o.2.tr hc⟩
 ·intro y wx hS hG;have h9:y 9=.string ⟨nm.toArray⟩:=hG 9 (by omega);have aF:=A4 hS;go_wp2;go_ret;exact⟨rfl,aD.o.tr aF.o.2⟩
def SO(w:World)(k:Nat)(hk:k=3\/k=4)(lt:List UInt8)(n:Int)(hl:Aa w 0 k (.string ⟨lt.toArray⟩)):
 Aj 85 #[A0 k,A0 n] w (Au (.string ⟨lt.toArray⟩) λw'=>w=w'):=by
 have hk1:(k:Int)<5:=by omega
 have hk0:=Cd k;have h:decide ((k:Int)=1\/(k:Int)=2)=false:=Dw (by omega)
 go_enter func85,ntmps85
 go_wp2_with (fail);refine(Of w k).k ?_;rintro w0 rfl;rw[h];go_wp2;go_ret;exact⟨rfl,rfl⟩
def Ir.a7{w z w':World}{b o:Nat}{H:Array Value}{T:Nat}{lv lv':Value}{I:List Pt}(h:Ir z w' b o H T lv I lv')(O:A5 Ab w z):Ir w w' b o H T lv I lv':=
 ⟨h.Bx,(O.aZ).tr h.An,λg W=>(h.AP g W).imp id λh=>AH O.Am h⟩
def ZT(w:World)(X H:Nat)(cs:Array Value)(T:Nat)(hT:T≠88)(Ac z t v:Int)(L:List Pt)(lv:Value)(hsr:H<8)(h:Ho w X (7+H) cs T L lv)(aH:L.length<1099511627775)(h3:cs[3]?=some (A0 z))(h4:cs[5]?=some (A0 Ac))(hl:1<=z/\z<=4611686018427387904)(hc:AY Ac):
 Aj 30 #[A7 X,.agg #[A0 H,A0 t,A0 v]] w (Au (.tuple #[]) λw'=>
  ((Bu Ac z<=t/\∃lv',Ir w w' X (7+H) cs T lv (CT L t v) lv')\/(t<Bu Ac z/\A5 Ab w w'))):=by
 have c3:Aa w X 3 (A0 z):=by simp[Aa,World.cell?,h.Ai,h3]
 have c4:Aa w X 5 (A0 Ac):=by simp[Aa,World.cell?,h.Ai,h4]
 have aJ:∀w',A5 Ab w w'->_:=λw' Y=>NU w' X Ac z (Y.an c3) (Y.an c4) hl hc;generalize ho:Bu Ac z=o at aJ ⊢;have aL:∀w',A5 Ab w w'->_:=λw' Y=>Yc w' X (7+H) cs T hT L lv t v (h.An Y) aH;have aB:=A4 aJ;have aD:=A4 aL
 go_enter func30,ntmps30
 go_wp2;have hb:(w.alloc (.cells #[A0 H,A0 t,A0 v] 90)).heap[w.heap.size]?=some (.cells #[A0 H,A0 t,A0 v] 90 (0,0)):=by show (w.heap.push _)[w.heap.size]?=_;rw[IA]
 have W:Hid ((w.alloc (.cells #[A0 H,A0 t,A0 v] 90)).heap[w.heap.size]?=some (.cells #[A0 H,A0 t,A0 v] 90 (0,0))/\A5 Ab w (w.alloc (.cells #[A0 H,A0 t,A0 v] 90))):=⟨hb,(A5.C _ w).aj _⟩;generalize (w.alloc (.cells #[A0 H,A0 t,A0 v] 90))=w1 at W ⊢;refine Hb 5 (λy=>{tmps:=#[A7 X,.agg #[A0 H,A0 t,A0 v],undef,A7 w.heap.size,y 0,y 1,y 2,y 3,y 4,undef,undef,undef,undef,undef,undef,undef,undef,undef,undef],defers:=[]}) (λ_=>undef)
  (λw'=>w'.heap[w.heap.size]?=some (.cells #[A0 H,A0 t,A0 v] 90 (0,0))/\A5 Ab w w') (A5 Ab)
  (λj x w'=>match j with
   | 0=>x=.pointer (some (Ad w.heap.size 1))
   | 1=>x=.pointer (some (Ad w.heap.size 1))
   | 2=>x=A0 t
   | 3=>x=(A7 X)
   | 4=>x=A0 o
   | _=>True)
  (by kernel_rfl) (by kernel_rfl) rfl ?_ ?_ ?_ ?_
 ·exact⟨W.o.1,W.o.2.ad⟩
 ·intro j x w1 w2 hR hS' hG;split at hG<;>exact hG
 ·clear W;simp only[EU,EL,FP,HJ]
  repeat' (with_reducible apply And.intro)
  all_goals refine⟨?_,(by intro y I _ _ h;exact Bool.noConfusion h),λy x=>rfl⟩
  all_goals
   intro y I hS hd hw K hK;obtain⟨aA,aG⟩:=hS;simp[Gc,Region.binds,Fc,List.filter_cons]at hd;(have p1:Aa I w.heap.size 1 (A0 t):=by simp[Aa,World.cell?,aA]);have O:Hid (I.heap[w.heap.size]?=some (.cells #[A0 H,A0 t,A0 v] 90 (0,0))/\A5 Ab w I):=⟨aA,aG⟩;have aK:=A4 hK
  all_goals dsimp only
  all_goals try go_simp
  all_goals try with_reducible exact aK.o _ _ _ rfl (by simp[Act.put,hd]) (A5.C _ _) O.o
  all_goals
   refine(aB.o I O.o.2).k ?_;rintro w2 Y;exact aK.o _ _ _ rfl (by simp[Act.put,hd]) Y ⟨Y.ak O.o.1 (by simp),O.o.2.tr Y⟩
 ·intro y I hS hG;have h2:y 2=A0 t:=hG 2 (by omega);have h4:y 4=A0 o:=hG 4 (by omega);have p0:Aa I w.heap.size 0 (A0 H):=by simp[Aa,World.cell?,hS.1]
  have p1:Aa I w.heap.size 1 (A0 t):=by simp[Aa,World.cell?,hS.1]
  have p2:Aa I w.heap.size 2 (A0 v):=by simp[Aa,World.cell?,hS.1]
  have O:=A4 hS;have hsrI:(H:Int)<8:=by omega
  by_cases aE:o<=t
  ·go_wp2;refine Ff (λw'=>Aa w' w.heap.size 0 (A0 H)/\Aa w' w.heap.size 1 (A0 t)/\Aa w' w.heap.size 2 (A0 v)) 8
    (BD [0,1,2,3,4,5,6,7] []) (by kernel_rfl) (by kernel_rfl) (λ_ _ _ _ _ h=>h) ⟨p0,p1,p2⟩ ?_
   iterate 8 (refine DO (v:=?_) rfl (by rfl) ?_ ?_;rotate_left;(· (intro w' hS;(try dsimp only at hS);go_simp;try with_reducible rfl));(try simp only[BQ]))
   refine Fg ?_;simp only[DA,Dj];have aI:=A4 (aD.o I.drew O.o.2.ad);go_wp2_with (go_at_call 54;refine aI.k ?_;rintro w2⟨lv',hR⟩;have aF:=A4 hR);go_end0
   first|exact⟨rfl,lv',aF.o.before O.o.2.drew⟩|exact⟨rfl,.inl ⟨lv',aF.o.before O.o.2.drew⟩⟩|exact⟨rfl,.inl ⟨aE,lv',aF.o.a7 O.o.2.ad⟩⟩
  ·(have hlt:t<o:=by omega);go_wp2;go_end0;exact⟨rfl,.inr O.o.2⟩
def FF(mu:Int)(jv:Value)(aA Ak Ac:Int)(ro:Bool)(lv:Nat->Value):Array Value:=
 #[.int .i32 mu,.int .u32 0,jv,.int .i64 aA,.int .i64 Ak,.int .i64 Ac,.bool ro,lv 0,lv 1,lv 2,lv 3,lv 4,lv 5,lv 6,lv 7]
def Bz(w:World)(sb:Nat)(mu:Int)(jv:Value)(aA Ak Ac:Int)(ro:Bool)(lv:Nat->Value):Prop:=
 w.heap[sb]?=some (.cells (FF mu jv aA Ak Ac ro lv) 86 (0,0))
section
variable{w:World}{sb:Nat}{mu:Int}{jv:Value}{aA Ak Ac:Int}{ro:Bool}{lv:Nat->Value}
def Bz.c0(h:Bz w sb mu jv aA Ak Ac ro lv):Aa w sb 0 (.int .i32 mu):=by unfold Bz at h;simp[Aa,World.cell?,h,FF]
def Bz.c2(h:Bz w sb mu jv aA Ak Ac ro lv):Aa w sb 2 jv:=by unfold Bz at h;simp[Aa,World.cell?,h,FF]
def Bz.c3(h:Bz w sb mu jv aA Ak Ac ro lv):Aa w sb 3 (A0 aA):=by unfold Bz at h;simp[Aa,World.cell?,h,FF]
def Bz.cW(h:Bz w sb mu jv aA Ak Ac ro lv):Aa w sb 4 (A0 Ak):=by unfold Bz at h;simp[Aa,World.cell?,h,FF]
def Bz.cK(h:Bz w sb mu jv aA Ak Ac ro lv):Aa w sb 5 (A0 Ac):=by unfold Bz at h;simp[Aa,World.cell?,h,FF]
def Bz.cR(h:Bz w sb mu jv aA Ak Ac ro lv):Aa w sb 6 (.bool ro):=by unfold Bz at h;simp[Aa,World.cell?,h,FF]
def Bz.fz(h:Bz w sb mu jv aA Ak Ac ro lv)(o:Nat):w.frozen? (Ad sb o)=false:=by unfold Bz at h;simp[World.frozen?,h]
def Bz.lt(h:Bz w sb mu jv aA Ak Ac ro lv):sb<w.heap.size:=Bo h
def Bz.An{S:Nat->Prop}{w':World}(h:Bz w sb mu jv aA Ak Ac ro lv)(H:A5 S w w')(z:¬S sb):Bz w' sb mu jv aA Ak Ac ro lv:=(H.Ao sb h.lt z).trans h
def Bz.s0(h:Bz w sb mu jv aA Ak Ac ro lv)(x:Int):Bz (w.setCell (Ad sb 0) (.int .i32 x)) sb x jv aA Ak Ac ro lv:=CE h
def Bz.sR(h:Bz w sb mu jv aA Ak Ac ro lv)(x:Bool):Bz (w.setCell (Ad sb 6) (.bool x)) sb mu jv aA Ak Ac x lv:=CE h
def WU{mu:Int}{jv:Value}{aA Ak Ac:Int}{ro:Bool}{lv:Nat->Value}{k:Nat}(h:k<8):(FF mu jv aA Ak Ac ro lv)[7+k]?=some (lv k):=by
 match k,h with
 | 0,_=>rfl
 | 1,_=>rfl
 | 2,_=>rfl
 | 3,_=>rfl
 | 4,_=>rfl
 | 5,_=>rfl
 | 6,_=>rfl
 | 7,_=>rfl
def I2(lv:Nat->Value)(k:Nat)(v:Value):Nat->Value:=λi=>if i=k then v else lv i
def WT{mu:Int}{jv:Value}{aA Ak Ac:Int}{ro:Bool}{lv:Nat->Value}{k:Nat}(h:k<8)(v:Value):(FF mu jv aA Ak Ac ro lv).setIfInBounds (7+k) v=FF mu jv aA Ak Ac ro (I2 lv k v):=by
 match k,h with
 | 0,_=>rfl
 | 1,_=>rfl
 | 2,_=>rfl
 | 3,_=>rfl
 | 4,_=>rfl
 | 5,_=>rfl
 | 6,_=>rfl
 | 7,_=>rfl
end
structure Ei (w:World) (lv:Nat->Value) (L:Nat->List Pt):Prop where
 Bx:∀k,k<8->El w (lv k) (L k)
 G6:∀k,k<8->E7 (L k)
 DG:∀k,k<8->(L k).length<1099511627775
 Ks:∀i j,i<8->j<8->i≠j->∀g,(lv i).ownBlock=some g->(lv j).ownBlock≠some g
def ED(lv:Nat->Value)(g:Nat):Prop:=∃k,k<8/\(lv k).ownBlock=some g
def Ei.lt{w:World}{lv:Nat->Value}{L:Nat->List Pt}(h:Ei w lv L){g:Nat}(H:ED lv g):g<w.heap.size:=by
 obtain⟨k,z,e⟩:=H;exact AG (h.Bx k z) e
def Ei.An{S:Nat->Prop}{w w':World}{lv:Nat->Value}{L:Nat->List Pt}(h:Ei w lv L)(O:A5 S w w')(I:∀g,ED lv g->¬S g):Ei w' lv L:=
 ⟨λk z=>AA (h.Bx k z) λg H=>O.Ao g (AG (h.Bx k z) H) (I g ⟨k,z,H⟩),h.G6,h.DG,h.Ks⟩
def Ei.cS{w:World}{lv:Nat->Value}{L:Nat->List Pt}(h:Ei w lv L){g:Nat}(H:ED lv g):∃c,w.heap[g]?=some (.cells c 88 (0,0)):=by
 obtain⟨k,z,e⟩:=H;exact Bd (h.Bx k z) e
def Ei.ne{w:World}{lv:Nat->Value}{L:Nat->List Pt}(h:Ei w lv L){sb:Nat}{c:Array Value}{T:TypeId}(H:w.heap[sb]?=some (.cells c T (0,0)))(z:T≠88):¬ED lv sb:=λI=>by
 have⟨c',hh⟩:=h.cS I;rw[H]at hh;cases hh;exact z rfl
def Ei.ez{w:World}{lv:Nat->Value}{L:Nat->List Pt}(h:Ei w lv L){sb:Nat}{mu:Int}{jv:Value}{aA Ak Ac:Int}{ro:Bool}(H:Bz w sb mu jv aA Ak Ac ro lv){k:Nat}(z:k<8):
 Ho w sb (7+k) (FF mu jv aA Ak Ac ro lv) 86 (L k) (lv k):=
 ⟨H,WU z,h.Bx k z,h.G6 k z,Nat.lt_trans (h.DG k z) (by decide)⟩
def I3(L:Nat->List Pt)(k:Nat)(l:List Pt):Nat->List Pt:=λi=>if i=k then l else L i
def VH{lv:Nat->Value}{k:Nat}{v:Value}{g:Nat}(h:ED (I2 lv k v) g):ED lv g\/v.ownBlock=some g:=by
 obtain⟨i,z,e⟩:=h;unfold I2 at e;split at e
 ·exact .inr e
 ·exact .inl ⟨i,z,e⟩
def Ei.ai{w w':World}{lv:Nat->Value}{L:Nat->List Pt}(h:Ei w lv L){sb:Nat}{mu:Int}{jv:Value}{aA Ak Ac:Int}{ro:Bool}(hb:Bz w sb mu jv aA Ak Ac ro lv){k:Nat}(hk:k<8){aB:List Pt}{lv':Value}{t:Nat}(hR:Ir w w' sb (7+k) (FF mu jv aA Ak Ac ro lv) t (lv k) aB lv')(ht:t=86)(hl:aB.length<1099511627775):
 Bz w' sb mu jv aA Ak Ac ro (I2 lv k lv')/\Ei w' (I2 lv k lv') (I3 L k aB)/\A5 (λx=>x=sb\/ED lv x) w w'/\∀g,ED (I2 lv k lv') g->ED lv g\/w.heap.size<=g:=by
 subst ht;have Y:=hR.Bx.Ai;rw[WT hk]at Y;have W:=hR.AP;have hc:A5 (λx=>x=sb\/ED lv x) w w':=hR.An.ae λx _ H=>H.imp id λe=>⟨k,hk,e⟩
 have aD:=h.ne hb (by decide);refine⟨Y,⟨?_,?_,?_,?_⟩,hc,λg I=>?_⟩
 ·intro i O;unfold I2 I3;by_cases e:i=k
  ·simp only[e,Cn];exact hR.Bx.Bx
  ·simp only[e,C4];exact AA (h.Bx i O) λg I=>hR.An.Ao g (AG (h.Bx i O) I) λH=>by
    rcases H with rfl|H
    ·exact aD ⟨i,O,I⟩
    ·exact h.Ks k i hk O (λx=>e x.symm) g H I
 ·intro i O;unfold I3;by_cases e:i=k
  ·simp only[e,Cn];exact hR.Bx.G6
  ·simp only[e,C4];exact h.G6 i O
 ·intro i O;unfold I3;by_cases e:i=k
  ·simp only[e,Cn];exact hl
  ·simp only[e,C4];exact h.DG i O
 ·intro i j O hj X g I z;unfold I2 at I z;by_cases e:i=k
  ·subst e;have e2:¬j=i:=λx=>X x.symm;simp only[Cn]at I;simp only[e2,C4]at z;rcases W g I with H|H
   ·exact h.Ks i j hk hj X g H z
   ·have:=AG (h.Bx j hj) z;omega
  ·simp only[e,C4]at I;by_cases e2:j=k
   ·subst e2;simp only[Cn]at z;rcases W g z with H|H
    ·exact h.Ks i j O hk X g I H
    ·have:=AG (h.Bx i O) I;omega
   ·simp only[e2,C4]at z;exact h.Ks i j O hj X g I z
 ·rcases VH I with H|H
  ·exact .inl H
  ·rcases W g H with hy|hy
   ·exact .inl ⟨k,hk,hy⟩
   ·exact .inr hy
def Bz.bX{w:World}{sb:Nat}{jv:Value}{aA Ak Ac:Int}{ro:Bool}{lv:Nat->Value}{L:Nat->List Pt}(h:Bz w sb 0 jv aA Ak Ac ro lv)(z:Ei w lv L):
 Bz (w.setCell ⟨sb,0,none⟩ (.int .i32 1)) sb 1 jv aA Ak Ac ro lv/\Ei (w.setCell ⟨sb,0,none⟩ (.int .i32 1)) lv L/\A5 (One sb) w (w.setCell ⟨sb,0,none⟩ (.int .i32 1)):=
 ⟨h.s0 1,z.An ((A5.C (One sb) w).ao rfl 0 _) (λg H e=>z.ne h (by decide) (e ▸ H)),(A5.C (One sb) w).ao rfl 0 _⟩
def Bz.ej{w w':World}{sb:Nat}{mu:Int}{jv:Value}{aA Ak Ac:Int}{ro:Bool}{lv:Nat->Value}(h:Bz w sb 0 jv aA Ak Ac ro lv)(O:Bz w' sb mu jv aA Ak Ac ro lv)(W:A5 (One sb) w w'):
 A5 (λ_=>False) w (w'.setCell ⟨sb,0,none⟩ (.int .i32 0)):=by
 have H:=O.s0 0;have z:=W.ao (b:=sb) rfl 0 (.int .i32 0);refine⟨z.os,z.FR,z.FU,z.Am,λk I _=>?_⟩;by_cases e:k=sb
 ·subst e;unfold Bz at h H;rw[h,H]
 ·exact z.Ao k I e
end
end Go.Proofs.YtodcnkbblippnabGreatDoor
