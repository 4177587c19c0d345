/- Part 20 of a proof: walks of the program. -/
import Derived.Test.YtodcnkbblippnaaGreatDoorPart19
namespace Go.Proofs.YtodcnkbblippnaaGreatDoor
set_option maxRecDepth 100000
set_option maxHeartbeats 32000000
set_option linter.defProp false
open Go.Proofs.Tryz
section
open Go.RowKit
attribute [local go_sem ↓] Go.wp_at_zero Go.wp_at_succ
structure WN where
 life:Int
 Vy:Int
 AA:Int
 A2o:Int
 dv:Value
 sv:Value
 pv:Value
 AF:Int
 fell:Bool
 CG:Bool
 CA:Int
 win:Int
 dirs:Int
 tv:Value
 lv:Value
 FD:Int
def FM(n:WN):Array Value:=
 #[A0 n.life,A0 n.Vy,A0 n.AA,A0 n.A2o,n.dv,n.sv,n.pv,A0 n.AF,.bool n.fell,.bool n.CG,A0 n.CA,A0 n.win,A0 n.dirs,n.tv,n.lv,A0 n.FD]
def AP(w:World)(wb:Nat)(n:WN):Prop:=w.heap[wb]?=some (.cells (FM n) 40 (0,0))
section
variable {w w':World} {wb:Nat} {n:WN}
def AP.c0(h:AP w wb n):A8 w wb 0 (A0 n.life):=by unfold AP at h;simp[A8,World.cell?,h,FM]
def AP.c2(h:AP w wb n):A8 w wb 2 (A0 n.AA):=by unfold AP at h;simp[A8,World.cell?,h,FM]
def AP.c4(h:AP w wb n):A8 w wb 4 (n.dv):=by unfold AP at h;simp[A8,World.cell?,h,FM]
def AP.s4(h:AP w wb n)(x:Value):AP (w.setCell (A9 wb 4) (x)) wb {n with dv:=x}:=BL h
def AP.c5(h:AP w wb n):A8 w wb 5 (n.sv):=by unfold AP at h;simp[A8,World.cell?,h,FM]
def AP.s5(h:AP w wb n)(x:Value):AP (w.setCell (A9 wb 5) (x)) wb {n with sv:=x}:=BL h
def AP.c6(h:AP w wb n):A8 w wb 6 (n.pv):=by unfold AP at h;simp[A8,World.cell?,h,FM]
def AP.s6(h:AP w wb n)(x:Value):AP (w.setCell (A9 wb 6) (x)) wb {n with pv:=x}:=BL h
def AP.c7(h:AP w wb n):A8 w wb 7 (A0 n.AF):=by unfold AP at h;simp[A8,World.cell?,h,FM]
def AP.s7(h:AP w wb n)(x:Int):AP (w.setCell (A9 wb 7) (A0 x)) wb {n with AF:=x}:=BL h
def AP.c8(h:AP w wb n):A8 w wb 8 (.bool n.fell):=by unfold AP at h;simp[A8,World.cell?,h,FM]
def AP.s8(h:AP w wb n)(x:Bool):AP (w.setCell (A9 wb 8) (.bool x)) wb {n with fell:=x}:=BL h
def AP.c9(h:AP w wb n):A8 w wb 9 (.bool n.CG):=by unfold AP at h;simp[A8,World.cell?,h,FM]
def AP.s9(h:AP w wb n)(x:Bool):AP (w.setCell (A9 wb 9) (.bool x)) wb {n with CG:=x}:=BL h
def AP.bk(h:AP w wb n):A8 w wb 10 (A0 n.CA):=by unfold AP at h;simp[A8,World.cell?,h,FM]
def AP.cb(h:AP w wb n)(x:Int):AP (w.setCell (A9 wb 10) (A0 x)) wb {n with CA:=x}:=BL h
def AP.ds(h:AP w wb n):A8 w wb 11 (A0 n.win):=by unfold AP at h;simp[A8,World.cell?,h,FM]
def AP.eO(h:AP w wb n)(x:Int):AP (w.setCell (A9 wb 11) (A0 x)) wb {n with win:=x}:=BL h
def AP.dc(h:AP w wb n):A8 w wb 12 (A0 n.dirs):=by unfold AP at h;simp[A8,World.cell?,h,FM]
def AP.ez(h:AP w wb n)(x:Int):AP (w.setCell (A9 wb 12) (A0 x)) wb {n with dirs:=x}:=BL h
def AP.dJ(h:AP w wb n):A8 w wb 13 (n.tv):=by unfold AP at h;simp[A8,World.cell?,h,FM]
def AP.ev(h:AP w wb n)(x:Value):AP (w.setCell (A9 wb 13) (x)) wb {n with tv:=x}:=BL h
def AP.ej(h:AP w wb n):A8 w wb 14 (n.lv):=by unfold AP at h;simp[A8,World.cell?,h,FM]
def AP.eV(h:AP w wb n)(x:Value):AP (w.setCell (A9 wb 14) (x)) wb {n with lv:=x}:=BL h
def AP.cL(h:AP w wb n):A8 w wb 15 (A0 n.FD):=by unfold AP at h;simp[A8,World.cell?,h,FM]
def AP.e6(h:AP w wb n)(x:Int):AP (w.setCell (A9 wb 15) (A0 x)) wb {n with FD:=x}:=BL h
def AP.fz(h:AP w wb n)(o:Nat):w.frozen? (A9 wb o)=false:=by unfold AP at h;simp[World.frozen?,h]
def AP.lt(h:AP w wb n):wb<w.heap.size:=By h
def AP.An{S:Nat->Prop}(h:AP w wb n)(d:A4 S w w')(z:¬S wb):AP w' wb n:=(d.Am wb h.lt z).trans h
def AP.al(h:AP w wb n)(d:A4 Aa w w'):AP w' wb n:=h.An d (λh=>h)
def A2H{F:Nat->FC}(w:World)(life d room A7 count:Int):
 Calls Tryz.prog 16 #[.agg #[.int .i64 life,.int .i64 d,.int .i64 room,.int .i64 A7],.int .i64 count] w λe w'=>∃wb b,e=.returned (.pointer (some ⟨wb,0,none⟩))/\
  AP w' wb ⟨life,d,room,A7,.pointer (some ⟨b,0,none⟩),.pointer none,.slice none 0 0,0,false,false,A7,d,0,.slice none 0 0,.slice none 0 0,count⟩/\AU w' b ⟨[],[],[],Hb (DU room)⟩ F (One b)/\w.heap.size<=b/\b<wb/\A4 (λ_=>False) w w':=by
 have hA:=(A4.C (λ_=>False) w).ah (.cells #[.int .i64 life,.int .i64 d,.int .i64 room,.int .i64 A7] 23);have z:=Bf w (.cells #[.int .i64 life,.int .i64 d,.int .i64 room,.int .i64 A7] 23);generalize hw0:(w.alloc (.cells #[.int .i64 life,.int .i64 d,.int .i64 room,.int .i64 A7] 23))=w0 at hA z;have Y:w0.cell? ⟨w.heap.size,0,none⟩=some (.int .i64 life):=by simp only[World.cell?,z];rfl
 have q1:w0.cell? ⟨w.heap.size,1,none⟩=some (.int .i64 d):=by simp only[World.cell?,z];rfl
 have q2:w0.cell? ⟨w.heap.size,2,none⟩=some (.int .i64 room):=by simp only[World.cell?,z];rfl
 have q3:w0.cell? ⟨w.heap.size,3,none⟩=some (.int .i64 A7):=by simp only[World.cell?,z];rfl
 have aA:=A1 hA;have aD:=A1 (QQ w0.drew room);have aE:Hid (Calls Tryz.prog 21 #[.int .i64 (DU room)] w0.drew λe w'=>e=.returned (.pointer (some ⟨w0.heap.size,0,none⟩))/\AU w' w0.heap.size ⟨[],[],[],Hb (DU room)⟩ F (One w0.heap.size)/\A4 (λ_=>False) w0.drew w'/\w'.heap.size=w0.heap.size+1):=S7 _ _
 go_enter func16,ntmps16
 go_wp2;refine Fw (λw'=>w'.cell? ⟨w.heap.size,0,none⟩=some (.int .i64 life)/\w'.cell? ⟨w.heap.size,1,none⟩=some (.int .i64 d)/\w'.cell? ⟨w.heap.size,2,none⟩=some (.int .i64 room)/\w'.cell? ⟨w.heap.size,3,none⟩=some (.int .i64 A7)) 11
  [(0,true),(1,true),(2,true),(5,true),(6,true),(7,true),(8,true),(9,true),(3,false),(4,false),(10,true)] (by kernel_rfl) (by kernel_rfl) (λ_ _ _ _ _ h=>h) ⟨Y,q1,q2,q3⟩ ?_
 iterate 8 (refine DM (v:=?_) rfl (by rfl) ?_ ?_;rotate_left;(· (intro w' I;(try dsimp only at I);go_simp;try with_reducible rfl));(try simp only[Ak]))
 refine Di rfl (by rfl) (λK X=>?_);go_simp;refine aD.o.mono ?_;rintro e L⟨rfl,rfl⟩;refine X _ _ ⟨Y,q1,q2,q3⟩ (λI=>?_)
 (try simp only[Ak])
 refine Di rfl (by rfl) (λK X=>?_);go_simp;refine aE.o.mono ?_;rintro e L⟨rfl,hd,E,hs⟩;refine X _ _ ⟨E.ag Y,E.ag q1,E.ag q2,E.ag q3⟩ (λI=>?_);have aF:=A1 hd;have O:=A1 E;have aB:=A1 hs;clear X K I hd E hs
 (try simp only[Ak])
 (refine DM (v:=?_) rfl (by rfl) ?_ ?_;rotate_left;(· (intro w' I;(try dsimp only at I);go_simp;try with_reducible rfl));(try simp only[Ak]))
 refine B4 ?_;simp only[Du,Db];go_wp2;go_ret;have W:=(A4.C (λ_=>False) L).ah (.cells (FM ⟨life,d,room,A7,.pointer (some ⟨w0.heap.size,0,none⟩),.pointer none,.slice none 0 0,0,false,false,A7,d,0,.slice none 0 0,.slice none 0 0,count⟩) 40);refine⟨L.heap.size,w0.heap.size,rfl,Bf L _,aF.o.au (λk hk=>by unfold One at hk;have:=aB.o;omega) W,aA.o.Al,by have:=aB.o;omega,?_⟩;exact(aA.o.Au (S':=λ_=>False) (⟨O.o.os,O.o.DC,O.o.DE,O.o.Al,O.o.Am⟩:A4 (λ_=>False) w0 L) λ_ h _=>h).Au W λ_ h _=>h
end
end
section
open Go.RowKit
def GR:List (Value×Int)->List Value
 | []=>[]
 | (v,i):: r=>v::.int .i64 i::GR r
def ZC(a b:List (Value×Int)):GR (a++b)=GR a++GR b:=by
 induction a with
 | nil=>rfl
 | cons e r ih=>obtain⟨v,i⟩:=e;simp[GR,ih]
def Pw(w:World)(v:Value)(l:List (Value×Int)):Prop:=w.ownsRow 0 91 2 v l.length (GR l)
def FG(wb:Nat)(n:WN)(k:Nat):Prop:=k=wb\/n.pv.ownBlock=some k\/n.lv.ownBlock=some k
abbrev Kind:=World->(Nat->Prop)->Prop
def Iv(R:Kind):Prop:=∀(w w':World) (S FT:Nat->Prop),R w FT->(∀k,FT k->k<w.heap.size)->A4 S w w'->(∀k,FT k->¬S k)->R w' FT
structure LW (w:World) (H wb:Nat) (n:WN) (b:Nat) (life:Int) (R:Kind) (FT:Nat->Prop) (puts:List Pu) (ls:List (Value×Int)):Prop where
 Af:AP w wb n
 D8:n.dv=(A6 b)
 FU:n.life=life
 DR:Iv R
 Eg:R w FT
 lt:∀k,FT k->k<w.heap.size
 Dw:GL w n.pv puts
 EA:Pw w n.lv ls
 nw:∀k,FG wb n k->¬FT k
 E2:∀k,FG wb n k->H<=k
 Fy:∀k,FT k->H<=k
section
variable {w w':World} {H wb:Nat} {n:WN} {b:Nat} {life:Int} {R R':Kind} {FT:Nat->Prop} {puts:List Pu} {ls:List (Value×Int)}
def LW.br{S:Nat->Prop}(h:LW w H wb n b life R FT puts ls)(z:A4 S w w')(E:∀k,FG wb n k->¬S k)(L:∀k,FT k->¬S k):LW w' H wb n b life R FT puts ls:=
 ⟨h.Af.An z (E wb (.inl rfl)),h.D8,h.FU,h.DR,h.DR _ _ _ _ h.Eg h.lt z L,λk I=>Bi (h.lt k I) z.Al,Aw h.Dw λg d=>z.Am g (Ay h.Dw d) (E g (.inr (.inl d))),Aw h.EA λg d=>z.Am g (Ay h.EA d) (E g (.inr (.inr d))),h.nw,h.E2,h.Fy⟩
def LW.al(h:LW w H wb n b life R FT puts ls)(d:A4 Aa w w'):LW w' H wb n b life R FT puts ls:=h.br d (λ_ _ h=>h) λ_ _ h=>h
def LW.Al(h:LW w H wb n b life R FT puts ls):H<=w.heap.size:=by
 have:=h.E2 wb (.inl rfl);have:=h.Af.lt;omega
def LW.cg(h:LW w H wb n b life R FT puts ls){k:Nat}(d:FG wb n k):k<w.heap.size:=by
 rcases d with rfl|d|d
 ·exact h.Af.lt
 ·exact Ay h.Dw d
 ·exact Ay h.EA d
def LW.cG(h:LW w H wb n b life R FT puts ls)(hs:Iv R')(X:As w FT w' R'):A4 (Up H) w w'/\∃d,LW w' H wb n b life R' d puts ls:=by
 obtain⟨L,d,h1,Y,W⟩:=X;have hz:=h.Al;refine⟨L.ad λx _ O=>h.Fy x O,d,h.Af.An L (h.nw wb (.inl rfl)),h.D8,h.FU,hs,h1,Y,?_,?_,?_,h.E2,?_⟩
 ·exact Aw h.Dw λg E=>L.Am g (Ay h.Dw E) (h.nw g (.inr (.inl E)))
 ·exact Aw h.EA λg E=>L.Am g (Ay h.EA E) (h.nw g (.inr (.inr E)))
 ·intro k I O;rcases W k O with z|z
  ·exact h.nw k I z
  ·have:=h.cg I;omega
 ·intro k I;rcases W k I with z|z
  ·exact h.Fy k z
  ·exact AQ hz z
def LW.ck(h:LW w H wb n b life R FT puts ls):n.pv.ownBlock≠some wb:=λe=>by
 obtain⟨c,d⟩:=B7 h.Dw e;have:=h.Af;unfold AP at this;rw[d]at this;cases this
def LW.b2(h:LW w H wb n b life R FT puts ls):n.lv.ownBlock≠some wb:=λe=>by
 obtain⟨c,d⟩:=B7 h.EA e;have:=h.Af;unfold AP at this;rw[d]at this;cases this
def LW.dY(h:LW w H wb n b life R FT puts ls){g:Nat}(z:n.pv.ownBlock=some g):n.lv.ownBlock≠some g:=λe=>by
 obtain⟨c,E⟩:=B7 h.EA e;obtain⟨c',d⟩:=B7 h.Dw z;rw[E]at d;cases d
def LW.CT{n':WN}(h:LW w H wb n b life R FT puts ls)(o:Nat)(u:Value)(Y:AP (w.setCell ⟨wb,o,none⟩ u) wb n')(W:n'.dv=n.dv)(X:n'.life=n.life)(I:n'.pv=n.pv)(O:n'.lv=n.lv):
 A4 (Up H) w (w.setCell ⟨wb,o,none⟩ u)/\LW (w.setCell ⟨wb,o,none⟩ u) H wb n' b life R FT puts ls:=by
 have E:=(A4.C (One wb) w).aj (b:=wb) rfl o u;have L:∀k,FG wb n' k->FG wb n k:=λk d=>by unfold FG at d ⊢;rwa [I,O]at d
 refine⟨E.ad λx _ e=>by cases e;exact h.E2 _ (.inl rfl),Y,W.trans h.D8,X.trans h.FU,h.DR,h.DR _ _ _ _ h.Eg h.lt E (λk d e=>h.nw wb (.inl rfl) (by cases e;exact d)),λk d=>Bi (h.lt k d) E.Al,?_,?_,λk d=>h.nw k (L k d),λk d=>h.E2 k (L k d),h.Fy⟩
 ·rw[I];exact Aw h.Dw λg z=>E.Am g (Ay h.Dw z) λe=>h.ck (by cases e;exact z)
 ·rw[O];exact Aw h.EA λg z=>E.Am g (Ay h.EA z) λe=>h.b2 (by cases e;exact z)
def LW.ef{E:Value}{z:List Pu}(h:LW w H wb n b life R FT puts ls)(O:GL w E z)(X:∀g,E.ownBlock=some g->H<=g/\¬FT g):
 A4 (Up H) w (w.setCell ⟨wb,6,none⟩ E)/\LW (w.setCell ⟨wb,6,none⟩ E) H wb {n with pv:=E} b life R FT z ls:=by
 have L:=(A4.C (One wb) w).aj (b:=wb) rfl 6 E;have W:E.ownBlock≠some wb:=λe=>by
  obtain⟨c,Y⟩:=B7 O e;have:=h.Af;unfold AP at this;rw[Y]at this;cases this
 refine⟨L.ad λx _ e=>by cases e;exact h.E2 _ (.inl rfl),h.Af.s6 E,h.D8,h.FU,h.DR,h.DR _ _ _ _ h.Eg h.lt L (λk d e=>h.nw wb (.inl rfl) (by cases e;exact d)),λk d=>Bi (h.lt k d) L.Al,?_,?_,?_,?_,h.Fy⟩
 ·exact Aw O λg I=>L.Am g (Ay O I) λe=>W (by cases e;exact I)
 ·exact Aw h.EA λg I=>L.Am g (Ay h.EA I) λe=>h.b2 (by cases e;exact I)
 ·rintro k (rfl|d|d)
  ·exact h.nw _ (.inl rfl)
  ·exact(X k d).2
  ·exact h.nw k (.inr (.inr d))
 ·rintro k (rfl|d|d)
  ·exact h.E2 _ (.inl rfl)
  ·exact(X k d).1
  ·exact h.E2 k (.inr (.inr d))
def App.cm{e size:Nat}{v d:Value}{n:Nat}{xs:List Value}(h:App w w' e size v d n xs):A4 (λk=>v.ownBlock=some k) w w':=(A4.C _ w).C4 h.C4 λ_ e _=>e
def LW.eR{I:Value}{p:Pu}(h:LW w H wb n b life R FT puts ls)(hA:App w w' 141 3 n.pv I (puts.length+1) (AZ puts++AZ [p])):
 w'.cell? (A9 wb 6)=some n.pv/\w'.frozen? (A9 wb 6)=false/\A4 (Up H) w (w'.setCell (A9 wb 6) I)/\LW (w'.setCell (A9 wb 6) I) H wb {n with pv:=I} b life R FT (puts++[p]) ls:=by
 have X:=hA.cm;have z:=h.Af.An X h.ck;have W:=(A4.C (One wb) w').aj (b:=wb) rfl 6 I;have O:∀k,FT k->k<w'.heap.size:=λk d=>Bi (h.lt k d) X.Al;have aA:=h.DR _ _ _ _ h.Eg h.lt X λk d e=>h.nw k (.inr (.inl e)) d;have aD:=Aw h.EA λg E=>X.Am g (Ay h.EA E) λe=>h.dY e E;have L:GL w' I (puts++[p]):=by
  unfold GL;have:=hA.AE;rw[<-Ib]at this;simpa using this
 have Y:I.ownBlock≠some wb:=λe=>by
  obtain⟨c,hh⟩:=B7 L e;unfold AP at z;rw[hh]at z;cases z
 have aB:=h.Al;have hH:∀g,I.ownBlock=some g->H<=g/\¬FT g:=λg E=>by
  rcases hA.BS with e|e
  ·rw[e]at E;exact⟨h.E2 g (.inr (.inl E)),h.nw g (.inr (.inl E))⟩
  ·rw[e]at E;cases E;exact⟨aB,λhx=>by have:=h.lt _ hx;omega⟩
 refine⟨z.c6,z.fz 6,(X.ad λx _ e=>h.E2 x (.inr (.inl e))).aj (h.E2 wb (.inl rfl)) 6 _,⟨z.s6 I,h.D8,h.FU,h.DR,h.DR _ _ _ _ aA O W (λk d e=>h.nw wb (.inl rfl) (by cases e;exact d)),λk d=>Bi (O k d) W.Al,?_,?_,?_,?_,h.Fy⟩⟩
 ·exact Aw L λg E=>Fg _ _ _ _ λe=>Y (by rw[E];congr 1)
 ·exact Aw aD λg E=>Fg _ _ _ _ λe=>h.b2 (by rw[E];congr 1)
 ·rintro k (rfl|d|d)
  ·exact h.nw _ (.inl rfl)
  ·exact(hH k d).2
  ·exact h.nw k (.inr (.inr d))
 ·rintro k (rfl|d|d)
  ·exact h.E2 _ (.inl rfl)
  ·exact(hH k d).1
  ·exact h.E2 k (.inr (.inr d))
def LW.dh{I:Value}{p:Value×Int}(h:LW w H wb n b life R FT puts ls)(Y:App w w' 91 2 n.lv I (ls.length+1) (GR ls++GR [p])):
 w'.cell? (A9 wb 14)=some n.lv/\w'.frozen? (A9 wb 14)=false/\A4 (λk=>k=wb\/n.lv.ownBlock=some k) w (w'.setCell (A9 wb 14) I)/\LW (w'.setCell (A9 wb 14) I) H wb {n with lv:=I} b life R FT puts (ls++[p])/\(I.ownBlock=n.lv.ownBlock\/I.ownBlock=some w.heap.size):=by
 have X:=Y.cm;have z:=h.Af.An X h.b2;have W:=(A4.C (One wb) w').aj (b:=wb) rfl 14 I;have O:∀k,FT k->k<w'.heap.size:=λk d=>Bi (h.lt k d) X.Al;have aB:=h.DR _ _ _ _ h.Eg h.lt X λk d e=>h.nw k (.inr (.inr e)) d;have aE:=Aw h.Dw λg E=>X.Am g (Ay h.Dw E) λe=>h.dY E e;have L:Pw w' I (ls++[p]):=by
  unfold Pw;have:=Y.AE;rw[<-ZC]at this;simpa using this
 have aA:I.ownBlock≠some wb:=λe=>by
  obtain⟨c,hh⟩:=B7 L e;unfold AP at z;rw[hh]at z;cases z
 have aD:=h.Al;have hH:∀g,I.ownBlock=some g->H<=g/\¬FT g:=λg E=>by
  rcases Y.BS with e|e
  ·rw[e]at E;exact⟨h.E2 g (.inr (.inr E)),h.nw g (.inr (.inr E))⟩
  ·rw[e]at E;cases E;exact⟨aD,λhx=>by have:=h.lt _ hx;omega⟩
 refine⟨z.ej,z.fz 14,(X.ad (S':=λk=>k=wb\/n.lv.ownBlock=some k) λx _ e=>.inr e).aj (.inl rfl) 14 _,⟨z.eV I,h.D8,h.FU,h.DR,h.DR _ _ _ _ aB O W (λk d e=>h.nw wb (.inl rfl) (by cases e;exact d)),λk d=>Bi (O k d) W.Al,?_,?_,?_,?_,h.Fy⟩,Y.BS⟩
 ·exact Aw aE λg E=>Fg _ _ _ _ λe=>h.ck (by rw[E];congr 1)
 ·exact Aw L λg E=>Fg _ _ _ _ λe=>aA (by rw[E];congr 1)
 ·rintro k (rfl|d|d)
  ·exact h.nw _ (.inl rfl)
  ·exact h.nw k (.inr (.inl d))
  ·exact(hH k d).2
 ·rintro k (rfl|d|d)
  ·exact h.E2 _ (.inl rfl)
  ·exact h.E2 k (.inr (.inl d))
  ·exact(hH k d).1
end
def KD(b:Nat)(P:PD):Kind:=λw FT=>Bu w b P FT
def KS(h ab b:Nat)(life win A7:Int)(d:Bool)(L:Nat->List Pt)(A:Ar)(P:PD):Kind:=λw FT=>SF w h ab b 0 life win A7 d L A P FT
def KD.DR(b:Nat)(P:PD):Iv (KD b P):=λ_ _ _ _ h z I E=>Bu.aI h λk d=>I.Am k (z k d) (E k d)
def KS.DR(W ab b:Nat)(life win A7:Int)(z:Bool)(L:Nat->List Pt)(A:Ar)(P:PD):Iv (KS W ab b life win A7 z L A P):=λw w' S FT h hl X O=>by
 obtain⟨lv,F0,I,d⟩:=h;exact⟨lv,F0,I.An X λk E=>O k (d k E),d⟩
def SF.dk{w:World}{Y ab b:Nat}{X life win A7:Int}{E:Bool}{L:Nat->List Pt}{A:Ar}{P:PD}{FT:Nat->Prop}(h:SF w Y ab b X life win A7 E L A P FT):∃Ft,Bu w b P Ft/\(∀k,Ft k->k<w.heap.size)/\∀k,Ft k->FT k:=by
 obtain⟨lv,F0,W,z⟩:=h;obtain⟨xb,jb,sv,ov,l,jo,Ft,d,O⟩:=W.ar;exact⟨Ft,d.dk,d.lt,λk I=>z k (.inl (O k (.inl I)))⟩
end
section
open Go.RowKit
attribute [local go_sem ↓] Go.wp_at_zero Go.wp_at_succ
def A4.bQ{S:Nat->Prop}{a b c:World}(h:A4 Aa a b)(k:A4 S b c)(d:∀x,S x->a.heap.size<=x):A4 Aa a c:=h.Au k λx z hlt=>by have:=d x z;omega
section
variable {w w':World} {wb:Nat} {n:WN} {b:Nat} {D:DS} {F:Nat->FC} {Ft:Nat->Prop}
def Su(w:World)(h:AP w wb n)(hd:n.dv=(A6 b))(hr:AU w b D F Ft)(W:∀k,Ft k->k<w.heap.size):
 Ag 48 #[A6 wb] w (Aj (.agg #[A0 D.n.Bj,A0 D.n.fulls]) λw'=>A4 Aa w w'):=by
 have Y:=(A4.C Aa w).ah (.cells #[A0 0,A0 0] 85);have d:=Bf w (.cells #[A0 0,A0 0] 85);have c4:=(h.al Y).c4;rw[hd]at c4;have z:=hr.au W Y;generalize hw0:(w.alloc (.cells #[A0 0,A0 0] 85))=w0 at Y d c4 z;have aD:=A1 (NJ z.aa);have aE:=A1 (Ti z.aa);obtain⟨I,aA⟩:∃I,D.n.Bj=I:=⟨_,rfl⟩;obtain⟨E,aB⟩:∃E,D.n.fulls=E:=⟨_,rfl⟩;rw[aA]at aD ⊢;rw[aB]at aE ⊢;have aG:=A1 Y;have aF:=A1 d;have r0:A8 w0 w.heap.size 0 (A0 0):=CP d;have r1:A8 w0 w.heap.size 1 (A0 0):=CP d;have f0:w0.frozen? (A9 w.heap.size 0)=false:=by simp[World.frozen?,d]
 have f1:w0.frozen? (A9 w.heap.size 1)=false:=by simp[World.frozen?,d]
 clear h hd hr W Y d z aA aB
 go_enter func48,ntmps48
 go_wp2;refine Fw (λw'=>A8 w' wb 4 (A6 b)) 11
  (Bb [0,1,2,3,5,6,7,8,4,9,10] [4,9]) (by kernel_rfl) (by kernel_rfl) (λ_ _ _ _ _ h=>h) c4 ?_
 iterate 8 (refine DM (v:=?_) rfl (by rfl) ?_ ?_;rotate_left;(· (intro w' O;(try dsimp only at O);go_simp;try with_reducible rfl));(try simp only[Ak]))
 refine Di rfl (by rfl) (λK X=>?_);go_simp;refine aD.m ?_;rintro e w1⟨rfl,rfl⟩;refine X _ _ c4 (λO=>?_);clear X K O
 (try simp only[Ak])
 refine Di rfl (by rfl) (λK X=>?_);go_simp;refine aE.m ?_;rintro e w1⟨rfl,rfl⟩;refine X _ _ c4 (λO=>?_);clear X K O
 (try simp only[Ak])
 (refine DM (v:=?_) rfl (by rfl) ?_ ?_;rotate_left;(· (intro w' O;(try dsimp only at O);go_simp;try with_reducible rfl));(try simp only[Ak]))
 refine B4 ?_;simp only[Du,Db];go_wp2;have hk:A4 Aa w ((w0.setCell (A9 w.heap.size 0) (A0 I)).setCell (A9 w.heap.size 1) (A0 E)):=by
  have k:∀(p:Addr),p.block=w.heap.size->p.block<w.heap.size->False:=λp e h=>by omega
  exact(aG.o.a1 (k _ rfl) _).a1 (k _ rfl) _
 have hh:((w0.setCell (A9 w.heap.size 0) (A0 I)).setCell (A9 w.heap.size 1) (A0 E)).heap[w.heap.size]?=some (.cells #[A0 I,A0 E] 85 (0,0)):=BL (BL aF.o);generalize ((w0.setCell (A9 w.heap.size 0) (A0 I)).setCell (A9 w.heap.size 1) (A0 E))=w2 at hk hh ⊢;have d0:A8 w2 w.heap.size 0 (A0 I):=by simp[A8,World.cell?,hh]
 have d1:A8 w2 w.heap.size 1 (A0 E):=by simp[A8,World.cell?,hh]
 refine Jb (v:=.agg #[A0 I,A0 E]) (by simp[results,Tryz.results48,go_sem,d0,d1]) rfl ⟨rfl,hk.aa⟩
end
section
variable {H wb sb ab b:Nat} {n:WN} {life win A7:Int} {ro:Bool} {L:Nat->List Pt} {A:Ar} {P:PD} {FT:Nat->Prop} {puts:List Pu} {ls:List (Value×Int)}
def No(w:World)(m:Nat)(h:LW w H wb n b life (KS sb ab b life win A7 ro L A P) FT puts ls)(aN:n.sv=(A6 sb))(a4:n.CG=ro)(aO:n.CA=A7)(hm:m<=puts.length)(a7:puts.length<1099511627776)(aT:∀p∈puts,Ax p.2.1)(aX:∀k,k<8->(L k).length<1099511627776)(hl:1<=life/\life<=4611686018427387904)(hc:Ax A7):
 Ag 89 #[A6 wb,A0 m] w λe w'=>∃t,e=.returned (.bool t)/\(t=true↔F7 L (puts.take m) life A7)/\A4 Aa w w':=by
 obtain⟨lv,F0,aH,-⟩:=h.Eg;have hs:=aH.Af;have hr:=aH.DT;have c5:=h.Af.c5;rw[aN]at c5;have ST:=A1 (Qu w hs);have aM:=A1 h.Af;have hp:=h.Dw;have aZ:=h.FU;have a2:Hid (∀w' (k:Nat),A4 Aa w w'->k<8->_):=λw' k hw hk=>LP w' k (-9223372036854775808) 9223372036854775807 (hs.An hw (λh=>h)) (hr.An hw (λ_ _ h=>h)) hk hl hc;have aV:∀w',A4 Aa w w'->GL w' n.pv puts:=λw' hw=>Aw hp λg hg=>hw.Am g (Ay hp hg) (λh=>h);have bD:Hid (∀w' (k:Nat),A4 Aa w w'->_):=λw' k hw=>Rp w' n.pv puts m (aV w' hw) hm a7 aT k (-9223372036854775808) 9223372036854775807 life A7 hl hc;have a8:Hid (∀k:Nat,(refQ (puts.take m) k (-9223372036854775808) 9223372036854775807 life A7).length<1099511627776):=λk=>by
  have:=Rf (puts.take m) k (-9223372036854775808) 9223372036854775807 life A7;rw[BI]at this;omega
 have aU:Hid (∀k:Nat,k<8->(piece (L k) (max (-9223372036854775808) (AT A7 life)) 9223372036854775807).length<1099511627776):=λk hk=>Pk (MV _ _) (aX k hk);have bF:Hid ((∀k:Nat,k<8->piece (L k) (max (-9223372036854775808) (AT A7 life)) 9223372036854775807=refQ (puts.take m) k (-9223372036854775808) 9223372036854775807 life A7)↔F7 L (puts.take m) life A7):=PC;clear h hs hr hp aV aT hl hc aH aX
 go_enter func89,ntmps89
 go_wp2_with (go_at_call 38;refine ST.m ?_;rintro e w1⟨rfl,aY⟩;have aQ:=A1 aY;clear aY);have O:A4 Aa w (w1.alloc (.cells #[.bool ro,A0 A7] 74)):=aQ.o.ah _;have aI:=Bf w1 (.cells #[.bool ro,A0 A7] 74);have d0:A8 (w1.alloc (.cells #[.bool ro,A0 A7] 74)) w1.heap.size 0 (.bool ro):=CP aI;have d1:A8 (w1.alloc (.cells #[.bool ro,A0 A7] 74)) w1.heap.size 1 (A0 A7):=CP aI;clear aI;generalize (w1.alloc (.cells #[.bool ro,A0 A7] 74))=w2 at O d0 d1 ⊢;have b9:=(aM.o.al O).c9;rw[a4]at b9;have aK:=(aM.o.al O).bk;rw[aO]at aK;have aJ:=A1 O;clear O aQ ST;refine Bt (λw'=>A8 w' w1.heap.size 0 (.bool ro)/\A8 w' w1.heap.size 1 (A0 A7)/\A8 w' wb 9 (.bool ro)/\A8 w' wb 10 (A0 A7)) 15
  (Bb [0,1,2,3,4,5,6,7,8,9,10,11,12,13,14] []) ⟨d0,d1,b9,aK⟩ ?_
 iterate 15 (refine B1 ?_;(try simp only[Ak]))
 refine B4 ?_;simp only[Bm,Bl];go_wp2;clear d0 d1 b9 aK;have d:Hid (A4 Aa w w2.drew):=aJ.o.aa;go_loopw [6] (λiv wr=>∃k:Nat,k<=8/\iv=A0 k/\Hid (A4 Aa w wr)/\Hid (∀i:Nat,i<k->piece (L i) (max (-9223372036854775808) (AT A7 life)) 9223372036854775807=refQ (puts.take m) i (-9223372036854775808) 9223372036854775807 life A7)) (λiv _=>8-(intOf iv).toNat)
 case atStart=>exact⟨0,by omega,rfl,d.o,λi hi=>absurd hi (JX _)⟩
 case round=>
  obtain⟨k,hk,rfl,aE,hE⟩:=hrel;obtain⟨w0,bB⟩:∃w0,w0=wr:=⟨_,rfl⟩;subst bB;have k0:=BR k;by_cases aG:k<8
  ·(have k1:(k:Int)<8:=by omega);have e5:=(aM.o.al aE.o).c5;rw[aN]at e5;have a3:=A1 (a2.o w0 k aE.o aG);obtain⟨pk,aB⟩:∃pk,piece (L k) (max (-9223372036854775808) (AT A7 life)) 9223372036854775807=pk:=⟨_,rfl⟩;have W:=aU.o k aG;rw[aB]at a3 W;have a6:=A1 W;clear a2 d aJ c5 W aU;go_wp2_with (go_at_call 37;refine a3.m ?_;rintro e w3⟨v,rfl,hv,aS,bC⟩;have bE:=A1 hv;have d:Hid (A4 Aa w w3):=aE.o.tr aS;clear hv aS bC);have g6:=(aM.o.al d.o).c6;have g0:=(aM.o.al d.o).c0;rw[aZ]at g0;have aF:=(aM.o.al d.o).bk;rw[aO]at aF;have a9:=A1 (bD.o w3.drew k d.o.aa);obtain⟨rk,I⟩:∃rk,refQ (puts.take m) (k:Int) (-9223372036854775808) 9223372036854775807 life A7=rk:=⟨_,rfl⟩;have X:=a8.o k;rw[I]at a9 X;have a1:=A1 X;clear bD X;refine Bt (λw'=>A8 w' wb 6 n.pv/\A8 w' wb 0 (A0 life)/\A8 w' wb 10 (A0 A7)) 16
    (Bb [0,1,2,3,4,5,6,7,8,9,10,11,12,13,14,15] [15]) ⟨g6,g0,aF⟩ ?_
   iterate 15 (refine B1 ?_;(try simp only[Ak]))
   refine Bd λK hK=>?_;go_simp;refine a9.m ?_;rintro e w4⟨v2,rfl,aW,z,aR⟩;refine hK _ _ ⟨z.ag g6,z.ag g0,z.ag aF⟩ (λhS=>?_);have aP:Hid (A4 Aa w w4):=d.o.aa.tr z;have aD:Hid (Ag 93 #[v,v2] w4 (Aj (.bool (decide (pk=rk))) λw'=>A4 Aa w4 w')):=by
    have bA:Cb w4 v _:=Aw bE.o λg hg=>z.Am g (Ay bE.o hg) (λh=>h);exact QJ w4 v v2 _ _ bA aW a6.o a1.o
   clear hK K hS aW z aR bE a9 a3 g6 g0 aF e5
   (try simp only[Ak])
   refine B4 ?_;simp only[Bm,Bl];by_cases E:pk=rk
   ·have Y:Hid (Ag 93 #[v,v2] w4 (Aj (.bool true) λw'=>A4 Aa w4 w')):=by
     have:=aD.o;rw[Ct E]at this;exact this
    have a0:Hid (∀i:Nat,i<k+1->piece (L i) (max (-9223372036854775808) (AT A7 life)) 9223372036854775807=refQ (puts.take m) i (-9223372036854775808) 9223372036854775807 life A7):=λi hi=>by
     by_cases e:i=k
     ·subst e;rw[aB,I];exact E
     ·exact hE.o i (by omega)
    clear aD E aB I hE;go_wp2_with (go_at_call 93;refine Y.m ?_;rintro e w5⟨rfl,aA⟩;have aL:Hid (A4 Aa w w5):=aP.o.tr aA;clear aA);go_roundw
    case rel=>exact⟨k+1,by omega,by go_num,aL.o,a0.o⟩
    case measure=>simp[intOf];omega
   ·have Y:Hid (Ag 93 #[v,v2] w4 (Aj (.bool false) λw'=>A4 Aa w4 w')):=by
     have:=aD.o;rw[Cu E]at this;exact this
    have bG:Hid (¬F7 L (puts.take m) life A7):=λhT=>E (by rw[<-aB,<-I];exact bF.o.2 hT k aG);clear aD E aB I hE;go_wp2_with (go_at_call 93;refine Y.m ?_;rintro e w5⟨rfl,aA⟩;have aL:Hid (A4 Aa w w5):=aP.o.tr aA;clear aA);go_ret;exact⟨false,rfl,⟨λh=>(by cases h),λhT=>absurd hT bG.o⟩,aL.o⟩
  ·(obtain rfl:k=8:=by omega);have a5:Hid (F7 L (puts.take m) life A7):=bF.o.1 hE.o;clear a2 bD d aJ c5 hE;go_wp2;go_ret;exact⟨true,rfl,⟨λ_=>a5.o,λ_=>rfl⟩,aE.o⟩
def A0L:(Tryz.prog.info? 141).map (λi=>(i.zero,i.size,i.bytes))=some (some (.agg #[A0 0,A0 0,A0 0]),3,24):=by kernel_rfl
def A04(w:World)(h:LW w H wb n b life (KS sb ab b life win A7 ro L A P) FT puts ls)(aJ:n.sv=(A6 sb))(aP:n.CG=ro)(aM:n.CA=A7){n0 Ad:Nat}(O:n.AF=Ad)(h0:Ad<=n0/\n0<=puts.length)(W:n.fell=false->n0=puts.length)(hT:F7 L (puts.take n0) life A7)(aG:puts.length<1099511627776)(aQ:∀p∈puts,Ax p.2.1)(aT:∀k,k<8->(L k).length<1099511627776)(hl:1<=life/\life<=4611686018427387904)(hc:Ax A7):
 Ag 52 #[A6 wb] w (Aj (.bool true) λw'=>A4 (Up H) w w'/\∃m pv,n0<=m/\m<=puts.length/\F7 L (puts.take m) life A7/\LW w' H wb {n with fell:=false,pv:=pv} b life (KS sb ab b life win A7 ro L A P) FT (puts.take m) ls):=by
 obtain⟨aL,aE⟩:=h0;have a1:Hid (∀w',A4 Aa w w'->∀m:Nat,m<=puts.length->_):=λw' hw m hm=>No w' m (h.al hw) aJ aP aM hm aG aQ aT hl hc;obtain⟨ap,cp,aI,z,X,a9⟩:=h.Dw.BP;unfold maxLen at X;obtain⟨i0,hi,aN,aU,aS⟩:=DG A0L;have c6:=h.Af.c6;rw[aI]at c6;have aW:Hid (∀m,m<=puts.length->∀w',A4 Aa w w'->Src Tryz.prog 3 37 (.slice ap m cp) m (AZ (puts.take m)) w'):=λm hm w' hw=>by
  have Y:=Aw h.Dw λg hg=>hw.Am g (Ay h.Dw hg) (λh=>h);rw[aI]at Y;by_cases e:m=puts.length
  ·subst e;rw[Cc];exact Src.bO underlying37 Y (Hp _)
  ·obtain⟨a2,c2,q1,q2,q3,q4,-⟩:=Bk Y;cases q1;obtain⟨g,rfl⟩:=q4 (by omega);have:=Src.fH underlying37 Y (Hp _) 0 m cp (by omega);rw[Nat.zero_mul,Db,Yx]at this;exact this
 obtain⟨M,hM⟩:∃M,puts.length=M:=⟨_,rfl⟩;have a3:=A1 h;have aZ:=A1 hM;have bG:=A1 hT;rw[hM]at a1 aW z c6 aG aE;have bH:=A1 W;have c8:=h.Af.c8;have c7:=h.Af.c7;rw[O]at c7;obtain⟨fl,I⟩:∃fl,n.fell=fl:=⟨_,rfl⟩;rw[I]at c8;have a5:=A1 I;have bD:=A1 aL;have bE:=A1 aE;clear h hT aQ hM aI a9 W aT hl hc I aL aE;have aO:Hid (∀m':Nat,n0<=m'->m'<M->wrap64 (m':Int)=(m':Int)/\¬((m':Int)<(Ad:Int))/\wrap64 (((m'+1:Nat):Int)-1)=(m':Int)):=λm' h1 h2=>by
  have h3:=bD.o;refine⟨by unfold wrap64;omega,by omega,by unfold wrap64;omega⟩
 go_enter func52,ntmps52
 go_wp2;go_loopw [3] (λnv wr=>∃m:Nat,nv=A0 m/\Hid (n0<=m/\m<=M/\A4 Aa w wr)) (λnv _=>(intOf nv).toNat)
 case atStart=>exact⟨M,rfl,bE.o,Ao _,A4.C _ _⟩
 case round=>
  obtain⟨m,rfl,E⟩:=hrel;have bF:=A1 (a1.o wr E.o.2.2 m E.o.2.1);have m0:=BR m;have bC:(m:Int)<1099511627776:=by have:=E.o.2.1;omega
  go_wp2_with (fail);refine bF.m ?_;rintro e w1⟨t,rfl,ht,aV⟩;have aH:=A1 ht;have d:Hid (A4 Aa w w1):=E.o.2.2.tr aV;clear aV ht bF a1;cases t with
  | true=>
   have d6:=d.o.ag c6;have bA:=a3.o.al d.o;have e6:=bA.Af.fz 6;have bB:=A1 bA;have aR:=A1 (aW.o m E.o.2.1 w1 d.o);have hmcp:m<=cp:=AQ E.o.2.1 z;have a8:=A1 E.o;clear E bA aW c6 c7 c8;go_wp2_with (at_builtin;refine CZ rfl (.tmp 30) (.tmp 36) 37 37 rfl 141 i0 _ 3 24 underlying37 hi aN aU aS rfl (by decide) (.slice none 0 0) 0 [] (by rfl) (Cp _ 0 141 3) (.slice ap m cp) m (AZ (puts.take m)) (by rfl) aR.o (by omega) ?_;intro a2 aD w2 hA;simp only[GM,EU]at hA;have a0:=A1 hA;clear hA aR;have aA:A4 Aa w1 w2:=a0.o.bz;have d6:=aA.ag d6;have aX:=A1 (bB.o.al aA);have e8:=aX.o.Af.fz 8;have e6:=aX.o.Af.fz 6;have d8:=aX.o.Af.c8;have a6:=A1 aA;clear aA);go_wp2;go_ret;(have a7:(puts.take m).length=m:=by rw[BI,aZ.o];exact Jd a8.o.2.1);have h3:GL w2 (.slice a2 m aD) (puts.take m):=by
    have:=a0.o.AE;unfold GL;rw[a7];exact this
   have aF:∀g,(Value.slice a2 m aD).ownBlock=some g->H<=g/\¬FT g:=λg hg=>by
    rcases a0.o.BS with h|h
    ·rw[h]at hg;simp[Value.ownBlock]at hg
    ·rw[h]at hg;cases hg;exact⟨bB.o.Al,λhx=>by have:=bB.o.lt _ hx;omega⟩
   obtain⟨k3,aK⟩:=aX.o.ef h3 aF;obtain⟨k4,aY⟩:=aK.CT 8 (.bool false) (aK.Af.s8 false) rfl rfl rfl rfl;refine⟨rfl,((d.o.tr a6.o).ad (S':=Up H) λ_ _ h=>h.elim).tr (k3.Au k4 λ_ h _=>h),m,_,a8.o.1,by rw[aZ.o];exact a8.o.2.1,aH.o.1 trivial,aY⟩
  | false=>
   have aB:n0<m:=by
    rcases F9 n0 m with h|h
    ·exact h
    ·(have e:m=n0:=by have:=E.o.1;omega);subst e;exact absurd (aH.o.2 bG.o) (by simp)
   have I:fl=true:=by
    cases fl with
    | true=>rfl
    | false=>
     have:=bH.o a5.o;have h1:=E.o.2.1;have h2:=aZ.o;omega
   subst I;obtain⟨m',rfl⟩:∃m',m=m'+1:=⟨m-1,(Nat.sub_add_cancel (Pk (Ce _) aB)).symm⟩;have d8:=d.o.ag c8;have d7:=d.o.ag c7;obtain⟨e1,hsm,e2⟩:=aO.o m' (Pm aB) (Nat.lt_of_succ_le E.o.2.1);have a4:Hid (n0<=m'/\m'<=M/\A4 Aa w w1):=⟨Pm aB,A3y E.o.2.1,d.o⟩;clear E aB aH aW c6 c7 c8 bG hi aN aU aS z X O aJ aP aM m0 bC aO aG e2;go_wp2;rw[e1];go_roundw
   case rel=>exact⟨m',rfl,a4.o⟩
   case measure=>simp[intOf]
end
end
section
open Go.RowKit
def Env(B:Nat)(w:World):Prop:=Lets B w/\I3 w/\1<B/\2<B
def Env.ai{B:Nat}{w w':World}{S:Nat->Prop}(h:Env B w)(I:A4 S w w')(z:∀k,S k->B<=k):Env B w':=by
 obtain⟨E,⟨⟨Y,a1,X⟩,e2,a2,b2⟩,W,O⟩:=h;refine⟨E.ai I z,⟨⟨Y,?_,X⟩,e2,?_,b2⟩,W,O⟩
 ·rw[<-a1];have:=I.Am 1 (Bi W E.1) λd=>by have:=z _ d;omega
  simp only[World.cell?,this]
 ·rw[<-a2];have:=I.Am 2 (Bi O E.1) λd=>by have:=z _ d;omega
  simp only[World.cell?,this]
def Env.aM{B:Nat}{w w':World}(h:Env B w)(d:A4 Aa w w'):Env B w':=h.ai d λ_ h=>h.elim
def Mc{n:Int}(h:isNum n=true):CJ n:=by
 unfold isNum at h;simp at h;exact Hq (by omega) h.2
def Zj{O:Int×Int}{nm:Bs}(h:Fq O nm):nm.length<=281474976710656:=by
 have I:∀(c:UInt8) (n:Int),1<=n->n<=4611686018427387904->(c::(Lib.repeatL [48] (19-(Lib.itoa n).length)++Lib.itoa n)).length<=281474976710656:=λc n d E=>by
  rw[Kt d E,Cq,LY];omega
 by_cases E:(Bn nm).1=1
 ·obtain⟨⟨a,b⟩,e⟩:=Oa E;rw[<-e,IV];exact I _ _ a b
 ·by_cases z:(Bn nm).1=2
  ·obtain⟨⟨a,b⟩,e⟩:=O8 z;rw[<-e,Ih];exact I _ _ a b
  ·have d:=h.1;unfold Bn at d E z;cases hx:E8 [108] nm with
   | some v=>rw[hx]at E;exact absurd rfl E
   | none=>
    rw[hx]at d z;dsimp only at d z;unfold H8 at d z;cases hy:E8 [115] nm with
    | some v=>rw[hy]at z;exact absurd rfl z
    | none=>
     rw[hy]at d;dsimp only at d;unfold H7 Ii at d;split at d
     ·rename_i e;subst e;decide
     ·split at d
      ·rename_i e;subst e;decide
      ·exact absurd rfl d
def Rk:∀(k s:Nat) (l:List UInt8),(DD k s l).1.length*21<=l.length
 | 0,_,_=>by simp[DD]
 | k+1,s,l=>by
  unfold DD;split
  ·simp
  ·rename_i hl;split
   ·have:=Rk k (AW s (l.take 17)) (l.drop 21);rw[Cl]at this;simp only[Cq];omega
   ·simp
def ZK{P:PD}{a c m:Nat}(z:Fit P a c m)(n d:Int):(P.aT n d).1.length*21<=m:=by
 have key:∀l:List UInt8,l.length<=m->∀s,(Gh s d l).1.length*21<=m:=λl hl s=>by
  unfold Gh;split
  ·simp
  ·split
   ·split
    ·have:=Rk l.length (AW s (l.take 8)) (l.drop 12);rw[Cl]at this;dsimp only;omega
    ·simp
   ·simp
 unfold PD.aT GD;split
 ·simp
 ·refine key _ ?_ _;unfold DZ;split
  ·rename_i f h;exact z.Bo f (G7 h)
  ·exact Ce _
def Yp{P:PD}{a c m:Nat}(z:Fit P a c m)(l:List Int):(P.puts l).1.length*21<=l.length*m:=by
 have key:∀(l:List Int) (d:List Pu),(P.bh l d).1.length*21<=d.length*21+l.length*m:=by
  intro l
  induction l with
  | nil=>intro d;simp[PD.bh]
  | cons n r ih=>
   intro d;unfold PD.bh;split
   ·simp
   ·have h:=ih (d++(P.aT n d.length).1);have h2:=ZK z n d.length;rw[Ba]at h;rw[Cq,Hz];omega
 have:=key l [];simpa[PD.puts] using this
section
variable {w:World} {B sb ab b:Nat} {life win A7:Int} {L:Nat->List Pt} {A:Ar} {P:PD} {FT:Nat->Prop} {puts:List Pu} {Ad t N:Nat} {o:Int}
def Rr(w:World)(p:Pu)(h:SF w sb ab b 0 life win A7 false L A P FT)(E:∀k,FT k->k<w.heap.size)(d:St t A P puts Ad o false)(ht:t+1<=200000)(hp:Bq p)(hL:Lets B w)(O:∀k,FT k->B<=k)(W:∀k,k<8->(L k).length<=t)(hl:1<=life/\life<=4611686018427387904)(hc:Ax A7):
 Ag 23 #[A6 sb,A0 p.1,A0 p.2.1,A0 p.2.2] w (Aj (A0 (A.af P p).2.1) λw'=>
  As w FT w' (λw' z=>SF w' sb ab b 0 life win A7 (decide ((A.af P p).2.1≠0)) (if (A.af P p).1=true then Es L (AT A7 life) p.1.toNat p.2.1 p.2.2 else L) (A.af P p).2.2.1 (A.af P p).2.2.2 z)):=by
 obtain⟨sg,cl,ol,I,_⟩:=d.si rfl;have X:=I.bZ d.pb d.Bo (by omega);have hj:=X.j;exact Rs w p h E hp (λ_=>⟨Hq (by omega) (by omega),by constructor<;>omega,I.Bc.du I.CK⟩) (by have:=X.Av;omega) hL O d.pb.CU ⟨by omega,by omega,by omega⟩ (λk Y=>by have:=W k Y;omega) hl hc
def W2(w:World)(h:SF w sb ab b 0 life win A7 false L A P FT)(_hFT:∀k,FT k->k<w.heap.size)(W:Lets B w)(d:∀k,FT k->B<=k):
 Ag 31 #[A6 sb] w (Aj (A0 (A.ae P).1) λw'=>As w FT w' (λw' z=>SF w' sb ab b 0 life win A7 (decide ((A.ae P).1≠0)) L (A.ae P).2.1 (A.ae P).2.2 z)):=
 W5 w (A.ae P).1 h W d (A':=(A.ae P).2.1) (P':=(A.ae P).2.2) λE _ O I _ _=>A2U E O I
def X4{L:Nat->List Pt}(h:∀k,Dz (L k))(o:Int)(k:Nat)(t v:Int):∀i,Dz (Es L o k t v i):=λi=>by
 unfold Es;split
 ·unfold H5;split
  ·exact KJ (h k) _ _
  ·exact h i
 ·exact h i
def Ya(life A7:Int)(h:List Pu)(hp:∀p∈h,Bq p):Rel (Gp (AT A7 life) h) h life A7:=by
 have key:∀n (l:List Pu),l.length=n->(∀p∈l,Bq p)->Rel (Gp (AT A7 life) l) l life A7/\∀k,Dz (Gp (AT A7 life) l k):=by
  intro n
  induction n with
  | zero=>
   intro l d _;obtain rfl:=Hj.1 d;exact⟨Rel.bN life A7,λ_=>List.Pairwise.nil⟩
  | succ n ih=>
   intro l d z;rcases Lj l with rfl|⟨r,p,rfl⟩
   ·cases d
   ·rw[UQ]at d z ⊢;obtain⟨i1,I⟩:=ih r (by simpa using d) λx hx=>z x (FJ _ hx);have E:=z p (by simp);rw[Oi];obtain⟨k,t,v⟩:=p;obtain⟨⟨Y,X⟩,O,_⟩:=E;dsimp only at Y X O ⊢;obtain⟨W,rfl⟩:∃W:Nat,k=W:=⟨k.toNat,by omega⟩;exact⟨i1.ay (λj _=>I j) (by omega) O,X4 I _ _ _ _⟩
 exact(key _ h rfl hp).1
def ZY{O I:List (Int×List Pu)}{E:Option (List Pu)}(h:Lay P A O I E):∀n∈A.j.Av,CJ n:=λn z=>by
 rw[h.bS]at z;obtain⟨x,d,rfl⟩:=CD.1 z;cases E with
 | none=>exact Mc (h.CO x d).1.1
 | some l=>
  rcases AY.1 d with d|d
  ·exact Mc (h.CO x d).1.1
  ·simp at d;subst d;exact Mc h.AE.2.2.2.2
def KB{x y a b:Nat}(h:x<=a)(d:y<=b){c:Nat}(z:a*b<=c):x*y<=c:=AQ (UA h d) z
def A06(X:GY N)(hN:N<=200000)(w:World)(h:SF w sb ab b 0 life win A7 false L A P FT)(Y:∀k,FT k->k<w.heap.size)(E:St t A P puts Ad o false)(ht:t+1<=200000)(hpN:puts.length<=N)(hw:1<=win/\win<=4611686018427387904)(hL:Lets B w)(aA:∀k,FT k->B<=k):
 Ag 24 #[A6 sb] w (Aj (A0 (A.aO P win).1) λw'=>As w FT w' (λw' O=>SF w' sb ab b 0 life win A7 (decide ((A.aO P win).1≠0)) L (A.aO P win).2.1 (A.aO P win).2.2 O)):=by
 obtain⟨sg,cl,ol,z,_⟩:=E.si rfl;have d:=z.bZ E.pb E.Bo (by omega);have hj:=d.j;have hs:=d.s;have hsg:=d.segs;have hlg:=d.Av;have hall:=z.CH.2.2;have hl0:(Dl sg cl ol).length=(AG sg).length+(AG cl++ol.getD []).length:=by unfold Dl;rw[Ba]
 have hp:=z.Bc.puts z.CK;refine A07 w (A.aO P win).1 h Y hL aA (A':=(A.aO P win).2.1) (P':=(A.aO P win).2.2) λw1 F0 hA h0 W I=>?_;exact A2V X (by omega) w1 hA h0 win hw (by rw[hp];dsimp only;omega) (by rw[hp];exact z.Bc.cw) ⟨hs.1,by omega⟩ (by constructor<;>omega) (λx hx=>SQ (z.Bc.Ea.segs x hx)) E.pb.CU ⟨by omega,by omega,by omega⟩
  (KB (a:=200000) (b:=8001000) (by omega) (by omega) (by decide)) (by omega) (λn hn=>Mc (z.Bc.Ea.segs n hn)) (ZY z.Bc) (by omega) W I
def RT(w:World)(Ft:Nat->Prop)(hd:Bu w b P Ft)(z:∀k,Ft k->k<w.heap.size)(I:PB P t)(aA:DI (CC t) P puts Ad (AT A7 life))(hr:Reads (CC t) P puts (AT A7 life))(hq:∀p∈puts,Bq p)(Y:puts.length<=t)(aF:Ad<=puts.length)(E:P.D.n.Bh=false)(ht:t<=200000)(hE:Env B w)(hl:1<=life/\life<=4611686018427387904)(hw:1<=win/\win<=4611686018427387904)(hc:Ax A7):
 Calls Tryz.prog 22 #[.pointer (some ⟨b,0,none⟩),.agg #[.int .i64 life,.int .i64 win],.int .i64 A7] w λe w'=>
  ∃A ab sb L,e=.returned (.tuple #[.pointer (some ⟨sb,0,none⟩),.int .i64 0])/\w.heap.size<=sb/\(∃ps,Ar.aQ P=.ok (A,ps))/\St t A P puts Ad (AT A7 life) false/\Rel L puts life A7/\(∀k,k<8->(L k).length<=t)/\As w Ft w' (λw' aD=>SF w' sb ab b 0 life win A7 false L A P aD):=by
 obtain⟨A,ps,h1,h2,h3,h4⟩:=St.aQ I aA hr hq Y aF E ht;obtain⟨sg,cl,ol,hI,_⟩:=h2.si rfl;have O:=hI.bZ I Y (by omega);have hpl:=h3.2.2;have W:=hI.Bc.aZ;refine(RU w life win A7 hl hw hc z (P:=P) (Ft:=Ft) (b:=b) (λA' aE h=>by rw[h1]at h;cases h;exact⟨by omega,λp I=>(h4 p I).1⟩) λw1 hk=>?_).mono ?_
 ·have X:=hE.aM hk;refine U3 w1 (AU.au hd z hk) (λk aB=>Bi (z k aB) hk.Al) I.CU ⟨by omega,by omega,by omega⟩ (KB (a:=600020) (b:=8001000) (by omega) (by omega) (by decide)) X.1 X.2.1 (λnm hm=>Zj (aA.Az nm λe=>H6.1 hm (Is.2 e))) (λix hx=>?_) (λd=>?_)
  ·rw[W]at hx;cases hx;have:=O.segs;exact⟨by omega,KB (a:=200000) (b:=8001000) (by omega) (by omega) (by decide)⟩
  ·have h5:=Yp I.CU (BO d P.Az);have h6:=M6 d P.Az;have h7:=O.Az;have h8:(BO d P.Az).length*(40*t+1000)<=4800760020000:=KB (a:=600020) (b:=8001000) (by omega) (by omega) (by decide);omega
 ·rintro e w' (⟨n,q1,-⟩|⟨A',aE,ab,sb,q1,rfl,q2,q3⟩)
  ·rw[h1]at q1;cases q1
  ·rw[h1]at q1;cases q1;refine⟨A,ab,sb,_,rfl,q2,⟨_,h1⟩,h2,?_,λk hk=>AQ (Oj _ k _ ps rfl) (by omega),q3⟩;exact Rb (Ya life A7 ps h4) hq h3
end
end
section
open Go.MuLone Go.RowKit
attribute [local go_sem ↓] Go.wp_at_zero Go.wp_at_succ Cw
section
variable {w w' w2:World} {sb ab b:Nat} {mu life win A7:Int} {ro:Bool} {lv:Nat->Value} {L:Nat->List Pt} {A:Ar} {P:PD} {F0 FT:Nat->Prop}
def Rt(w:World)(k t v:Int)(h:SF w sb ab b 0 life win A7 true L A P FT)(aA:∀k,FT k->k<w.heap.size)(hk:0<=k/\k<8):
 Ag 23 #[A6 sb,A0 k,A0 t,A0 v] w (Aj (A0 4) λw'=>As w FT w' (λw' z=>SF w' sb ab b 0 life win A7 true L A P z)):=by
 have aE:Hid (∀w',Ag 63 #[A0 k] w' λe E=>e=.returned (.bool true)/\w'=E):=λw'=>by
  have:=KG w' k
  rwa [Ct hk]at this
 have Y:=P9 w sb k t v;have W:=Pa w sb k t v;generalize aD:boxed w sb k t v=w0 at Y W;unfold boxed at aD;have hV:=h.al Y;have I:=hV.bJ;have O:Iz (w0.sC sb 0 (.int .i32 1)) w.heap.size sb k t v:=W.An I.1 λi _ hx=>by have:=aA _ hx;omega
 have d:Hid (As w FT (w0.sC sb 0 (.int .i32 1)) (λw' z=>SF w' sb ab b 1 life win A7 true L A P z)):=I.aY Y;have aG:Hid (∀X,Ag 64 #[A6 sb,X] (w0.sC sb 0 (.int .i32 1)) (Aj (A0 4) λw'=>(w0.sC sb 0 (.int .i32 1))=w')):=λX=>by
  obtain⟨k1,F1,s1,s2,s3⟩:=d.o;obtain⟨lv,F0,q,-⟩:=s1;exact TO _ X q.Af
 have c0:A8 w0 sb 0 (.int .i32 0):=by obtain⟨lv,F0,q,-⟩:=hV;exact q.Af.c0
 have f0:w0.frozen? (A9 sb 0)=false:=by obtain⟨lv,F0,q,-⟩:=hV;exact q.Af.fz 0
 obtain⟨x0,x1,x2,x3⟩:=W;obtain⟨y0,y1,y2,y3⟩:=O
 go_enter_defers func23,ntmps23
 go_wp2_with (fail);refine(HM Tryz.bc (A9 sb 0) _ c0 f0).mono ?_;rintro e w'⟨rfl,rfl⟩;go_wp2_with (go_at_call 63;refine(aE.o _).mono ?_;rintro e w'⟨rfl,rfl⟩);refine(aG.o _).mono ?_;rintro e w2⟨rfl,rfl⟩;go_wp2;refine HN (f:=62) (args:=#[A6 sb]) (by simp) (by simp[go_sem]) ?_;refine(HL Tryz.bc (A9 sb 0) .returning _ ?_ ?_).mono ?_
 ·obtain⟨-,aF,⟨aB,aH,a1,-⟩,-,-⟩:=d.o;exact a1.Af.c0
 ·obtain⟨-,aF,⟨aB,aH,a1,-⟩,-,-⟩:=d.o;exact a1.Af.fz 0
 rintro e u' E⟨rfl,rfl,rfl⟩;exact⟨_,Jx rfl _ _ _,rfl,SFto.CT d.o 0 _ λlv h=>h.s0 0⟩
def Yu(w:World)(k t v:Int)(h:SF w sb ab b 0 life win A7 ro L A P FT)(Y:∀k,FT k->k<w.heap.size)(hk:¬(0<=k/\k<8)):
 Ag 23 #[A6 sb,A0 k,A0 t,A0 v] w (Aj (A0 2) λw'=>As w FT w' (λw' d=>SF w' sb ab b 0 life win A7 ro L A P d)):=by
 have aD:Hid (∀w',Ag 63 #[A0 k] w' λe E=>e=.returned (.bool false)/\w'=E):=λw'=>by
  have:=KG w' k
  rwa [Cu hk]at this
 have X:=P9 w sb k t v;have W:=Pa w sb k t v;generalize aB:boxed w sb k t v=w0 at X W;unfold boxed at aB;have hV:=h.al X;have I:=hV.bJ;have O:Iz (w0.sC sb 0 (.int .i32 1)) w.heap.size sb k t v:=W.An I.1 λi _ hx=>by have:=Y _ hx;omega
 have z:Hid (As w FT (w0.sC sb 0 (.int .i32 1)) (λw' d=>SF w' sb ab b 1 life win A7 ro L A P d)):=I.aY X;have c0:A8 w0 sb 0 (.int .i32 0):=by obtain⟨lv,F0,q,-⟩:=hV;exact q.Af.c0
 have f0:w0.frozen? (A9 sb 0)=false:=by obtain⟨lv,F0,q,-⟩:=hV;exact q.Af.fz 0
 obtain⟨x0,x1,x2,x3⟩:=W;obtain⟨y0,y1,y2,y3⟩:=O
 go_enter_defers func23,ntmps23
 go_wp2_with (first
  | (go_at_call 61;refine(HM Tryz.bc (A9 sb 0) _ c0 f0).mono ?_;rintro e w'⟨rfl,rfl⟩)
  | (go_at_call 63;refine(aD.o _).mono ?_;rintro e w'⟨rfl,rfl⟩))
 refine HN (f:=62) (args:=#[A6 sb]) (by simp) (by simp[go_sem]) ?_;refine(HL Tryz.bc (A9 sb 0) .returning _ ?_ ?_).mono ?_
 ·obtain⟨-,aE,⟨aA,aF,a1,-⟩,-,-⟩:=z.o;exact a1.Af.c0
 ·obtain⟨-,aE,⟨aA,aF,a1,-⟩,-,-⟩:=z.o;exact a1.Af.fz 0
 rintro e u' E⟨rfl,rfl,rfl⟩;exact⟨_,Jx rfl _ _ _,rfl,SFto.CT z.o 0 _ λlv h=>h.s0 0⟩
def SF.ep{n:Int}{w2:World}(h:As w FT w2 (λw' d=>SF w' sb ab b 1 life win A7 ro L A P d)):As w FT (w2.setCell (A9 sb 0) (.int .i32 n)) (λw' d=>SF w' sb ab b n life win A7 ro L A P d):=SFto.CT h 0 _ λ_ h=>h.s0 n
def QR(z:World)(h:SF z sb ab b 0 life win A7 true L A P FT)(E:Value):
 Calls Tryz.prog 64 #[.pointer (some ⟨sb,0,none⟩),E] (z.setCell ⟨sb,0,none⟩ (.int .i32 1)) λe w'=>e=.returned (.int .i64 4)/\w'.cell? ⟨sb,0,none⟩=some (.int .i32 1)/\w'.frozen? ⟨sb,0,none⟩=false/\As z FT w' (λw' d=>SF w' sb ab b 1 life win A7 true L A P d):=by
 have O:=h.bJ;obtain⟨I,X,s1,s2,s3⟩:=O;obtain⟨lv,F0,q,W⟩:=s1;refine(TO _ E q.Af).mono ?_;rintro e w'⟨rfl,rfl⟩;exact⟨rfl,q.Af.c0,q.Af.fz 0,I,X,⟨lv,F0,q,W⟩,s2,s3⟩
def A08(w:World)(h:SF w sb ab b 0 life win A7 true L A P FT)(_hFT:∀k,FT k->k<w.heap.size):
 Ag 24 #[A6 sb] w (Aj (A0 4) λw'=>As w FT w' (λw' d=>SF w' sb ab b 0 life win A7 true L A P d)):=by
 obtain⟨c0,f0,X,-⟩:=h.c0;refine(Qt w 4 (λw'=>As w FT w' (λw' d=>SF w' sb ab b 1 life win A7 true L A P d)) c0 f0 X λw1 E=>?_).mono ?_
 ·subst E;have I:=(A4.C Aa w).ah (.cells #[A6 sb] 36);refine(QR _ (h.al I) _).mono ?_;rintro e w'⟨rfl,O,z,W⟩;exact⟨rfl,O,z,W.aY I⟩
 ·rintro e w'⟨rfl,w2,z,rfl⟩;exact⟨rfl,SF.ep z⟩
def W6(w:World)(h:SF w sb ab b 0 life win A7 true L A P FT):
 Ag 31 #[A6 sb] w (Aj (A0 4) λw'=>As w FT w' (λw' d=>SF w' sb ab b 0 life win A7 true L A P d)):=by
 obtain⟨c0,f0,hz,-⟩:=h.c0;have z:=h.bJ;have c2:A8 (w.sC sb 0 (.int .i32 1)) sb 2 (A6 ab):=by
  obtain⟨k1,F1,s1,s2,s3⟩:=z;exact s1.c0.2.2.2
 refine(Qs w 4 (λw'=>As w FT w' (λw' d=>SF w' sb ab b 1 life win A7 true L A P d)) c0 f0 c2 (QR _ h _)).mono ?_;rintro e w'⟨rfl,w2,E,rfl⟩;exact⟨rfl,SF.ep E⟩
end
end
section
open Go.RowKit
attribute [local go_sem ↓] Go.wp_at_zero Go.wp_at_succ
def A2a(w:World)(b:Nat)(D:DS)(F:Nat->FC)(Ft:Nat->Prop)(h:Da w b D F Ft)(hs:D.A5.length<549755813888/\D.AF.length<549755813888/\∀l∈D.Aq,l.length<1099511627776)(b0:∀l:List Nat,l.Nodup->(∀f∈l,D.Ap f)->l.length<1099511627776)(hs2:D.Aq.length<1099511627776)(hF:∀f,D.Ap f->(F f).1.length<=1099511627776):
 Ag 47 #[A6 b] w λe w'=>∃b2 r bK aL,e=.returned (A6 b2)/\Da w' b2 (D.ren r) bK aL/\(∀k,aL k->w.heap.size<=k/\k<w'.heap.size)/\A4 Aa w w'/\
  (∀f,D.Ap f->bK (r f)=F f)/\∀f f',D.Ap f->D.Ap f'->r f=r f'->f=f':=by
 obtain⟨vd,vs,vc,vals,bN,Y,hft⟩:=h;obtain⟨hsA,hsB,b1⟩:=hs;have b8:=A1 b1;have b4:=A1 b0;have aA:=A1 Y;have bQ:=A1 hF;have c0:=Y.Af.c0;have c1:=Y.Af.c1;have c2:=Y.Af.c2;have c3:=Y.Af.c3;have c4:=Y.Af.c4;have c5:=Y.Af.c5;have c6:=Y.Af.c6;have c7:=Y.Af.c7;have c8:=Y.Af.c8;have c9:=Y.Af.c9;have c10:=Y.Af.bk;obtain⟨ac,pc,rfl,hc1,bV,aJ,hcnone,hcform⟩:=Bk Y.An;unfold maxLen at bV;have aX:=A1 aJ
 have cB:Hid (∀(vl:Value) (es:List AN) (W:World) (L M:List Nat) (vo vm:Value) (aS:Nat->Value),D4 w vl es->(∀f,Dd f es->D.Ap f)->es.length<1099511627776->A4 Aa w W->CS w.heap.size W (w.heap.size+1) (w.heap.size+2) F L M vo vm aS->L.length<1099511627776->
  Ag 87 #[vl,A6 (w.heap.size+1),A6 (w.heap.size+2)] W λe w'=>∃v cF cC a8 bA a9 bS,e=.returned v/\EE w.heap.size W (w.heap.size+1) (w.heap.size+2) F L M vo vm aS es es.length es.length v w' cF cC a8 bA a9 bS):=
  λvl es W L M vo vm aS h1 h2 h3 h4 h5 h6=>YO aA.o h4 h5 h1 h2 bQ.o ⟨h3,h6⟩
 have b7:Hid (∀W,A4 Aa w W->W.cell? (A9 b 0)=some vd/\W.cell? (A9 b 1)=some vs):=λW hc=>
  ⟨(Dy (hc.Am b aA.o.Af.lt (λh=>h))).trans aA.o.Af.c0,(Dy (hc.Am b aA.o.Af.lt (λh=>h))).trans aA.o.Af.c1⟩
 have bC:w.heap.size≠b:=by have:=aA.o.Af.lt;omega
 go_enter func47,ntmps47
 go_wp2;refine K9 33 (by kernel_rfl) (by kernel_rfl) ?_;simp only[KY,Fs,Fe,Du,Db]
 repeat still_step
 refine Ka ?_;go_wp2;generalize bX:(((w.alloc (.cells #[.slice none 0 0,.slice none 0 0,.slice none 0 0,A0 D.n.AA,A0 D.n.B8,A0 D.n.CN,A0 D.n.DJ,A0 D.n.BC,A0 D.n.Bj,A0 D.n.fulls,.bool D.n.Bh] 95)).alloc (.cells #[.slice none 0 0] 138)).alloc (.cells #[.slice none 0 0] 138)).drew=W1;obtain⟨bW,cA,a7⟩:=A19 w D.n F bN W1 bX.symm;have b3:=A1 cA;have aD:=A1 bW;have O:=A1 a7;refine Fw (λw'=>w'.cell? (A9 b 0)=some vd/\w'.cell? (A9 b 1)=some vs) 17
  (Bb [0,1,2,3,4,5,6,8,9,10,11,12,7,13,14,15,16] [7,13,16]) (by kernel_rfl) (by kernel_rfl) (λ_ _ _ _ _ h=>h) (b7.o _ O.o.aa) ?_
 iterate 12 (refine DM (v:=?_) rfl (by rfl) ?_ ?_;rotate_left;(· (intro w' X;(try dsimp only at X);go_simp;try with_reducible rfl));(try simp only[Ak]))
 refine Di rfl (by rfl) (λK hK=>?_);go_simp;refine(cB.o vd D.A5 _ _ _ _ _ _ aA.o.A5 (λf hf=>.inl hf) (by omega) O.o.aa (aD.o.An (A4.C Aa W1).aa (λ_ _ h=>h) (λ_ _ h=>h)) (by simp)).mono ?_;rintro e w2⟨v1,L,M,vo,vm,a9,e1,rfl,aN⟩;obtain⟨a1,k1,rfl,-⟩:=D4.BP aN.EZ;have aQ:=A1 aN;have aR:=A1 <| aN.cD O.o.aa (aD.o.An (A4.C Aa W1).aa (λ_ _ h=>h) (λ_ _ h=>h));have hL:L.length<=D.A5.length:=by
  obtain⟨o,q1,q2,_⟩:=aN.GF;rw[q1];simpa using q2
 refine hK _ _ (b7.o _ aR.o) (λX=>?_)
 (try simp only[Ak])
 refine Di rfl (by rfl) (λK hK=>?_);go_simp;refine(cB.o vs D.AF _ _ _ _ _ _ aA.o.AF (λf hf=>.inr (.inl hf)) (by omega) aR.o aQ.o.cs (by omega)).mono ?_;rintro e w3⟨v2,cF,cC,a8,bA,VB3,e2,rfl,aT⟩;obtain⟨a2,k2,rfl,-⟩:=D4.BP aT.EZ;have a4:Hid (A4 Aa w w3):=aT.cD aR.o aQ.o.cs;have aK:=A18 (aD.o.An (A4.C Aa W1).aa (λ_ _ h=>h) (λ_ _ h=>h)) ((b3.o:AL W1.drew _ _ _ _ _)) O.o.aa aQ.o aT;have z0:=aK.1.c0;have z1:=aK.1.c1;have zf:=aK.1.fz;have bJ:=A1 aK.2;refine hK _ _ (b7.o _ a4.o) (λX=>?_);obtain⟨s0,s1⟩:=X
 (try simp only[Ak])
 iterate 2 (refine DM (v:=?_) rfl (by rfl) ?_ ?_;rotate_left;(· (intro w' X;(try dsimp only at X);go_simp;try with_reducible rfl));(try simp only[Ak]))
 refine Di rfl (by rfl) (λK hK=>?_);go_simp;refine hK _ _ ?_ (λX=>?_)
 ·simp[World.cell?_setCell_far,bC,s0,s1]
 (try simp only[Ak])
 have c2b:w3.cell? (A9 b 2)=some (.slice ac D.Aq.length pc):=(Dy (a4.o.Am b aA.o.Af.lt (λh=>h))).trans c2;refine B4 ?_;simp only[Du,Db];go_wp2;generalize hW4:(w3.setCell (A9 w.heap.size 0) (.slice a1 e1.length k1)).setCell (A9 w.heap.size 1) (.slice a2 e2.length k2)=W4 at bJ ⊢;go_loopw [67] (λiv wr=>∃i:Nat,i<=D.Aq.length/\iv=A0 i/\Hid (∃L M vo vm z bN d cs,CR w.heap.size w wr w.heap.size (w.heap.size+1) (w.heap.size+2) D F i L M vo vm (.slice a1 e1.length k1) (.slice a2 e2.length k2) z bN d e1 e2 cs)) (λiv _=>D.Aq.length-(intOf iv).toNat)
 case atStart=>exact⟨0,Ce _,rfl,_,_,_,_,_,_,_,_,bJ.o⟩
 case round=>
  obtain⟨i,hi,rfl,bI⟩:=hrel;by_cases aG:i<D.Aq.length
  ·obtain⟨bL,cD,a3,bE,z,bF,d,cs,k0⟩:=bI.o;have aI:=A1 k0;obtain⟨gc,rfl⟩:=aX.o (by omega);obtain⟨vk,bY,bB⟩:=aA.o.D9 i aG;have bR:=Ay aA.o.An (g:=gc) rfl;have m1:wr.cell? (A9 gc i)=some vk:=(Dy (k0.An.Am gc bR (λh=>h))).trans (BD aA.o.An (g:=gc) rfl bY);obtain⟨E,I,rfl,hk1,hk2,-⟩:=D4.BP bB;have bD:=A1 bB;obtain⟨es,aF⟩:∃es,D.Aq[i]'aG=es:=⟨_,rfl⟩;(have bG:es.length<1099511627776:=by rw[<-aF];exact b8.o _ (BT aG));have bO:bL.length<1099511627776:=b4.o _ k0.GJ.Ie k0.SH;rw[aF]at bD;have b6:=A1 aF;have aY:Hid (∀f,Dd f es->D.Ap f):=λf hf=>.inr (.inr ⟨_,BT aG,aF ▸ hf⟩);have hi0:=BR i;(have hi1:(i:Int)<(D.Aq.length:Int):=by omega);rw[aF]at m1;obtain⟨p0,hp,b9,b5,bZ⟩:=DG Tryz.ea;have hsz:w.heap.size<wr.heap.size:=aI.o.Af.lt;have aM:Hid (CS w.heap.size ((wr.alloc (.cells #[.slice E es.length I] 120)).drew) (w.heap.size+1) (w.heap.size+2) F bL cD a3 bE bF):=aI.o.GJ.An ((A4.C Aa wr).ah (.cells #[.slice E es.length I] 120)).aa (λ_ _ h=>h) (λ_ _ h=>h);have bM:Hid (A4 Aa w ((wr.alloc (.cells #[.slice E es.length I] 120)).drew)):=(aI.o.An.ah (.cells #[.slice E es.length I] 120)).aa;have aZ:=Bf wr (.cells #[.slice E es.length I] 120);(have n0:(wr.alloc (.cells #[.slice E es.length I] 120)).cell? (A9 wr.heap.size 0)=some (.slice E es.length I):=by unfold World.cell?;rw[aZ];rfl);have n1:(wr.alloc (.cells #[.slice E es.length I] 120)).cell? (A9 w.heap.size 2)=some z:=(aI.o.Af.ah (.cells #[.slice E es.length I] 120)).c2;have cE:=A1 aZ;go_wp2;refine Fw (λw'=>w'.cell? (A9 w.heap.size 2)=some z/\w'.cell? (A9 wr.heap.size 0)=some (.slice E es.length I)) 12
    (Bb [0,1,2,3,4,5,6,7,8,9,10,11] [8,10,11]) (by kernel_rfl) (by kernel_rfl) (λ_ _ _ _ _ h=>h) ⟨n1,n0⟩ ?_
   iterate 8 (refine DM (v:=?_) rfl (by rfl) ?_ ?_;rotate_left;(· (intro w' X;(try dsimp only at X);go_simp;try with_reducible rfl));(try simp only[Ak]))
   refine Di rfl (by rfl) (λK hK=>?_);go_simp;refine(cB.o _ es _ _ _ _ _ _ bD.o aY.o bG bM.o aM.o bO).mono ?_;rintro e w5⟨v5,L5,M5,vo5,vm5,VB5,aE,rfl,aB⟩;obtain⟨a5,k5,rfl,-⟩:=D4.BP aB.EZ;have bT:=A1 aB;have bH:AL w5 w.heap.size (.slice a1 e1.length k1) (.slice a2 e2.length k2) z D.n:=
    (aB.An.Am _ (by simp;omega) (aM.o.b3 (aI.o.Af.ah (.cells #[.slice E es.length I] 120)) (.inr (.inr rfl)))).trans (aI.o.Af.ah (.cells #[.slice E es.length I] 120))
   have a0:w5.heap[wr.heap.size]?=some (.cells #[.slice E es.length I] 120 (0,0)):=(aB.An.Am _ (by simp) (aM.o.b3 cE.o (.inr (.inl rfl)))).trans cE.o;have aO:w5.ownsRow 0 120 1 z i d:=Aw aI.o.ch λg hg=>by
    obtain⟨c,hh⟩:=B7 aI.o.ch hg;have h1:((wr.alloc (.cells #[.slice E es.length I] 120)).drew).heap[g]?=some (Obj.cells c 120 (0,0)):=(CQ _ _ _ (By hh)).trans hh;exact((aB.An.Am _ (By h1) (aM.o.b3 h1 (.inr (.inl rfl)))).trans h1).trans hh.symm
   have p1:=bH.c2;(have p2:w5.cell? (A9 wr.heap.size 0)=some (.slice E es.length I):=by simp[World.cell?,a0]);have aH:=A1 bH;have aV:=A1 a0;have aP:Hid ((w5.alloc (.cells #[.slice a5 aE.length k5] 120)).ownsRow 0 120 1 z i d):=Aw aO λg hg=>CQ _ _ _ (Ay aO hg);have aU:Hid (∀w6 v6 n xs,App (w5.alloc (.cells #[.slice a5 aE.length k5] 120)) w6 120 1 z v6 n xs->(w6.cell? (A9 w.heap.size 2)=some z/\w6.cell? (A9 wr.heap.size 0)=some (.slice E es.length I))/\w6.frozen? (A9 w.heap.size 2)=false):=by
    intro w6 v6 n xs hA
    have x1:w6.heap[w.heap.size]?=w5.heap[w.heap.size]?:=(hA.C4.block _ (by have:=aH.o.lt;simp;omega) (λe=>by
     obtain⟨c,hh⟩:=B7 aP.o e.symm
     exact BM hh (aH.o.ah _) (by decide) rfl)).trans (CQ _ _ _ aH.o.lt)
    have x2:w6.heap[wr.heap.size]?=w5.heap[wr.heap.size]?:=(hA.C4.block _ (by have:=By aV.o;simp;omega) (λe=>by
     have:=Ay aI.o.ch e.symm;omega)).trans (CQ _ _ _ (By aV.o))
    exact⟨⟨(Dy x1).trans aH.o.c2,by simp[World.cell?,x2,aV.o]⟩,(aH.o.au x1).fz 2⟩
   have bU:Hid (Src Tryz.prog 1 93 (AB w5.heap.size 1 1) 1 [.slice a5 aE.length k5] (w5.alloc (.cells #[.slice a5 aE.length k5] 120))):=
    Src.a8 underlying93 w5 #[.slice a5 aE.length k5] 120 w5.heap.size rfl 1 1 rfl (by simp[Value.oneCell'])
   (have bP:(i+1)*24<=140737488355328:=by omega);refine hK _ _ ⟨p1,p2⟩ (λX=>?_)
   (try simp only[Ak])
   (refine DM (v:=?_) rfl (by rfl) ?_ ?_;rotate_left;(· (intro w' X;(try dsimp only at X);go_simp;try with_reducible rfl));(try simp only[Ak]))
   refine Di rfl (by rfl) (λK hK=>?_);go_simp;refine hK _ _ ?_ (λX=>?_)
   ·simp[World.cell?_alloc_some,p1,p2]
   (try simp only[Ak])
   refine Di rfl (by rfl) (λK hK=>?_);refine Hm (.tmp 75) (.tmp 81) 93 93 (by rfl) 120 p0 _ 1 24 underlying93 hp b9 b5 bZ rfl (by decide) z i d (by rfl) aP.o _ 1 _ (by rfl) bU.o bP ?_;intro a6 k6 w6 hA;obtain⟨r1,r2⟩:=aU.o _ _ _ _ hA;have aW:=A1 (aI.o.a7 (nq:=0) aG b6.o (((A4.C Aa wr).ah (.cells #[.slice E es.length I] 120)).aa) bT.o hA);refine hK _ _ r1 (λX=>?_);obtain⟨r1,-⟩:=r1
   (try simp only[Ak])
   refine B4 ?_;simp only[Du,Db];go_wp2;go_roundw
   case rel=>exact⟨i+1,by omega,by go_num,_,_,_,_,_,_,_,_,aW.o⟩
   case measure=>simp[intOf];omega
  ·(obtain rfl:i=D.Aq.length:=by omega);obtain⟨bL,cD,a3,bE,z,bF,d,cs,k0⟩:=bI.o;obtain⟨r,bK,aL,q1,q2,q3,q4,q5⟩:=k0.fc;have cJ:=A1 q1;have cL:=A1 q2;have cH:=A1 q4;have cI:=A1 q5;have cG:=A1 q3;go_wp2;go_ret;exact⟨_,r,bK,aL,rfl,cJ.o,cL.o,cG.o,cH.o,cI.o⟩
def S0:∀ {l m:List Nat},l.Nodup->(∀x∈l,x∈m)->l.length<=m.length
 | [],_,_,_=>Ce _
 | x::r,m,h,hs=>by
  have E:=hs x (BQ ..);have z:=MT.1 h;have:=S0 (m:=m.erase x) z.2 λy d=>(A3J λe=>z.1 (by rw[<-e];exact d)).2 (hs y (BW _ d))
  rw[A3M E]at this;have:=A3L E;simp only[Cq];omega
def V0(D:DS)(F:Nat->FC):Prop:=∃K,K<1099511627776/\(∀f,D.Ap f->f<K)/\D.A5.length<549755813888/\D.AF.length<549755813888/\(∀l∈D.Aq,l.length<1099511627776)/\D.Aq.length<1099511627776/\∀f,D.Ap f->(F f).1.length<=1099511627776
def TE{w:World}{b:Nat}{D:DS}{F:Nat->FC}{Ft:Nat->Prop}(h:AU w b D F Ft)(hC:V0 D F):
 Ag 47 #[A6 b] w λe w'=>∃X z,e=.returned (A6 X)/\AU w' X D F z/\(∀k,z k->w.heap.size<=k/\k<w'.heap.size)/\A4 Aa w w':=by
 obtain⟨r,G,h1,h2,h3⟩:=h;obtain⟨K,c1,c2,c3,c4,c5,c6,c7⟩:=hC;obtain⟨l1,l2,l3,l4⟩:=JN D r
 refine(A2a w b _ G Ft h1 ⟨by rw[l1];exact c3,by rw[l2];exact c4,λl Y=>?_⟩ (λl hn Y=>?_) (by rw[l3];exact c6) (λf' d=>by
  obtain⟨f,E,rfl⟩:=DS.cQ d
  rw[h2 f E];exact c7 f E)).mono ?_
 ·obtain⟨l0,E,rfl⟩:=CD.1 Y;rw[IM];exact c5 l0 E
 ·have:=S0 (m:=(List.range K).map r) hn λx I=>by
   obtain⟨f,E,rfl⟩:=DS.cQ (Y x I);exact Ed (Lc.2 (c2 f E))
  rw[HD,A3K]at this;omega
 rintro e w'⟨X,W,aA,z,E,q2,q3,q4,q5,q6⟩;have L:(D.ren r).ren W=D.ren (λf=>W (r f)):=by
  have e:∀es:List AN,Go.Proofs.YtodcnkbblippnaaGreatDoor.ren W (Go.Proofs.YtodcnkbblippnaaGreatDoor.ren r es)=Go.Proofs.YtodcnkbblippnaaGreatDoor.ren (λf=>W (r f)) es:=λes=>by simp[Go.Proofs.YtodcnkbblippnaaGreatDoor.ren]
  simp only[DS.ren,e,UH]
  congr 1
  exact MU λc _=>e c
 have hid:∀f,D.Ap f->(D.ren r).Ap (r f):=by
  rintro f (⟨x,I,rfl⟩|⟨x,I,rfl⟩|⟨c,hc,x,I,rfl⟩)
  ·exact .inl ⟨_,Ed I,rfl⟩
  ·exact .inr (.inl ⟨_,Ed I,rfl⟩)
  ·exact .inr (.inr ⟨_,Ed hc,_,Ed I,rfl⟩)
 refine⟨X,z,E,⟨λf=>W (r f),aA,L ▸ q2,λf O=>?_,λf f' O d e=>?_⟩,q3,q4⟩
 ·rw[q5 (r f) (hid f O),h2 f O]
 ·exact h3 f f' O d (q6 _ _ (hid f O) (hid f' d) e)
end
end Go.Proofs.YtodcnkbblippnaaGreatDoor
