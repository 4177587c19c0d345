/-
  The statement WritesUptoCardSaid is proved: the law Writes answers true for every setting and every script of at most 1048576 bytes; there is no other condition.
  Part 15 of 33.
-/
import Derived.Test.YtodcnkbblippnaaGreatDoorPart14
import Derived.Shelf.Strings.BuilderK
namespace Go.Proofs.YtodcnkbblippnaaGreatDoor
open Go.RowKit
attribute [local go_sem ↓] A0p
def A4q (p:Pu):Prop:=(0≤p.1∧p.1<8)∧A0P p.2.1∧A0P p.2.2
theorem A7J (a b:List Pu):A3c (a ++ b)=A3c a ++ A3c b:=by simp [A3c]
theorem A7g (s t v:Int):(A1N s t v).length=17:=by simp [A1N,A0v]
theorem A3B (l:List Pu):(A3c l).length=17*l.length:=by
 induction l with
 | nil=>rfl
 | cons p r ih=>
  have:A3c (p :: r)=A1N p.1 p.2.1 p.2.2 ++ A3c r:=rfl
  rw [this,List.length_append,ih,A7g,List.length_cons];omega
theorem Chg.ofBelowB {B:Nat} {w w':World} (h:Below B w w'):Chg (fun k=>B≤k) w w':=⟨h.os,h.tape,h.output,h.size,fun k _ hn=>h.block k (by omega)⟩
section
variable {w:World} {b B:Nat} {P:PD} {Ft:Nat→Prop} {a c m:Nat} {n:Int}
set_option maxRecDepth 100000 in
set_option maxHeartbeats 4000000 in
theorem A6z (w:World) (pv:Value) (l:List Pu) (h:A1A w b P Ft) (hlt:∀ k,Ft k→k<w.heap.size) (hF:Fit P a c m) (hl:Lim (a+1) (c+1) m) (hn:A1j n) (hL:A2i B w)
 (hp:RdP w pv l) (hpo:∀ p∈l,A4q p) (hpl:l.length≤134217728):
 Calls Tryz.prog 151 #[.pointer (some ⟨b,0,none⟩),.int .i64 n,pv] w fun e w'=>
  ((P.newSeg n l).1≠0∧e=.returned (.tuple #[.pointer none,.int .i64 (P.newSeg n l).1])∨(P.newSeg n l).1=0∧∃ gb,e=.returned (.tuple #[.pointer (some ⟨gb,0,none⟩),.int .i64 0]))∧A0A w Ft w' (fun w' Ft'=>A1A w' b (P.newSeg n l).2 Ft'):=by
 have SO:=A0b (A4s w b hn hL)
 have WR:Hid (∀ w1,Chg (fun _=>False) w w1→_):=fun w1 hc=>B4D (A1d n) (A3c l) (A4O (A1d n)) (A0R.same h hlt hc) (fun k hk=>Nat.lt_of_lt_of_le (hlt k hk) hc.size) (by rw [A3B];omega) hF hl
 obtain ⟨X,hX⟩:∃ X,P.newSeg n l=X:=⟨_,rfl⟩
 have hX1:P.write (A1d n) (A1m (A1d n)) (A3c l)=X:=hX
 rw [hX]
 rw [hX1] at WR
 have hnm:A1d n=A2b 2 n:=rfl
 rw [← hnm] at SO
 obtain ⟨nm,hnme⟩:∃ nm,A1d n=nm:=⟨_,rfl⟩
 rw [hnme] at SO WR
 obtain ⟨s0,hs0⟩:∃ s0,A1m nm=s0:=⟨_,rfl⟩
 rw [hs0] at SO WR
 obtain ⟨pa,pcap,rfl,hcap1,hcap2⟩:=hp.form
 unfold maxLen at hcap2
 have HP:=A0b hp
 have HLT:=A0b hlt
 clear hX hX1 hnm hnme hs0 h hlt hF hl hn hL hp
 go_enter Tryz.func151,Tryz.ntmps151
 go_wp2_with (fail)
 refine SO.out.mono ?_
 rintro e w1 ⟨gb,rfl,hf1,hc1,hgb⟩
 have HF1:=A0b hf1
 have HC1:=A0b hc1
 have HGB:=A0b hgb
 have f4:=hf1.fz 4
 have g4:=hf1.c4
 have F2:=A0b (hf1.s4 (.slice pa l.length pcap))
 have C2:Hid (Chg (fun _=>False) w (w1.setCell ⟨gb,4,none⟩ (.slice pa l.length pcap))):=hc1.setCell (p:=⟨gb,4,none⟩) (fun h=>by have h':gb<w.heap.size:=h;omega) _
 clear SO hf1 hc1 hgb
 have HG1:=A0b HF1.out.lt
 obtain ⟨w2,hw2⟩:∃ w2,w1.setCell ⟨gb,4,none⟩ (.slice pa l.length pcap)=w2:=⟨_,rfl⟩
 have hw2s:w1.heap.size=w2.heap.size:=by rw [← hw2];simp
 rw [hw2] at F2 C2
 have HG2:Hid (gb<w2.heap.size):=F2.out.lt
 have BN:=A0b (B5A w2)
 have F3:=A0b (F2.out.keep ((Chg.refl (fun _=>False) w2).alloc (.cells #[.pointer none,.slice none 0 0] 260)) (fun h=>h))
 have C3:Hid (Chg (fun _=>False) w (w2.alloc (.cells #[.pointer none,.slice none 0 0] 260))):=C2.out.alloc _
 have HB0:Hid (w.heap.size≤w2.heap.size):=C2.out.size
 go_wp2
 clear hw2 hw2s HF1 HC1 g4 f4 HG1 F2 C2
 generalize hw3:w2.alloc (.cells #[.pointer none,.slice none 0 0] 260)=w3 at BN F3 C3 ⊢
 have HB3:Hid (w2.heap.size≤w3.heap.size):=by rw [← hw3];show w2.heap.size≤_;simp
 clear hw3
 generalize w2.heap.size=bb at BN HG2 HB0 HB3 ⊢
 go_loopw [22] (fun iv wr=>∃ k:Nat,iv=.int .i64 k∧k≤l.length∧Hid (B0E bb bb (A3c (l.take k)) wr∧A0S wr gb 182 b nm s0 n (.slice pa l.length pcap)∧Chg (fun _=>False) w wr∧bb≤wr.heap.size)) (fun iv _=>l.length - (intOf iv).toNat)
 case atStart=>exact ⟨0,rfl,by omega,by simpa [A3c] using BN.out,F3.out,C3.out,HB3.out⟩
 case round=>
  obtain ⟨k,rfl,hk,hI⟩:=hrel
  by_cases hk1:k<l.length
  ·obtain ⟨i1,i2,i3,i4⟩:=hI.out
   obtain ⟨g,o,rfl,-,c1,c2,c3⟩:=RdP.at HP.out k hk1
   have hx:=hpo _ (List.getElem_mem hk1)
   have htk:l.take (k+1)=l.take k ++ [l[k]'hk1]:=List.take_succ_eq_append_getElem hk1
   obtain ⟨x,hxe⟩:∃ x,(l[k]'hk1)=x:=⟨_,rfl⟩
   rw [hxe] at c1 c2 c3 hx htk
   obtain ⟨x1,x2,x3⟩:=x
   dsimp only at c1 c2 c3
   have d1:=i3.cellKeep c1
   have d2:=i3.cellKeep c2
   have d3:=i3.cellKeep c3
   obtain ⟨⟨hs1,hs2⟩,ht,hv⟩:=hx
   dsimp only at hs1 hs2 ht hv
   have PB:=A0b (fun wx=>A5e wx x1 x2 x3 ⟨hs1,by omega⟩ ht hv)
   have HTK:Hid (A3c (l.take (k+1))=A3c (l.take k) ++ A1N x1 x2 x3):=by unfold Hid;rw [htk,A7J];simp [A3c]
   have hlk:(A3c (l.take k)).length≤17*l.length:=by rw [A3B,List.length_take];omega
   obtain ⟨pk,hpk⟩:∃ pk,A3c (l.take k)=pk:=⟨_,rfl⟩
   rw [hpk] at i1 HTK hlk
   have hpb:=A7g x1 x2 x3
   obtain ⟨pb,hpbe⟩:∃ pb,A1N x1 x2 x3=pb:=⟨_,rfl⟩
   rw [hpbe] at PB HTK hpb
   have I1:=A0b i1
   have I2:=A0b i2
   have I3:=A0b i3
   have I4:=A0b i4
   have WS:Hid (∀ w6,Chg (fun _=>False) wr w6→_):=fun w6 h6=>A2k (t:=pb) w6 (I1.out.keep h6 (fun _ h=>h.elim)) (by omega) (Nat.le_trans I4.out h6.size)
   have hki:(k:Int)<(l.length:Int):=by omega
   have hk0:(0:Int)≤(k:Int):=Int.natCast_nonneg _
   clear i1 i2 i3 i4 hI c1 c2 c3 hxe htk hpk hpbe ht hv hs1 hs2
   go_wp2_with (fail)
   refine (PB.out _).mono ?_
   rintro e w6 ⟨rfl,hc6⟩
   have C6:Hid (Chg (fun _=>False) wr w6):=((Chg.refl (fun _=>False) wr).alloc _).trans hc6 fun _ h _=>h
   have WS6:=A0b (WS.out w6 C6.out)
   clear hc6 PB WS
   go_wp2_with (go_at_call 194;refine WS6.out.mono ?_;rintro e w7 ⟨rfl,hbu,hb7⟩;have HBU:=A0b hbu;have HB7:=A0b hb7;clear hbu hb7)
   go_roundw
   case rel=>
    have c7:Chg (fun k=>bb≤k) w6 w7:=Chg.ofBelowB HB7.out
    refine ⟨k+1,by go_num,by omega,by rw [HTK.out];exact HBU.out,(I2.out.keep C6.out (fun h=>h)).keep c7 (fun h=>by have:=HG2.out;omega),?_,?_⟩
    ·exact (I3.out.trans C6.out fun _ h _=>h).trans c7 fun x hx hlt=>by have:=HB0.out;omega
    ·exact Nat.le_trans I4.out (Nat.le_trans C6.out.size HB7.out.size)
   case measure=>simp [intOf];omega
  ·obtain ⟨i1,i2,i3,i4⟩:=hI.out
   obtain rfl:k=l.length:=by omega
   rw [List.take_length] at i1
   have I1:=A0b i1
   have I2:=A0b i2
   have I3:=A0b i3
   have I4:=A0b i4
   have BS:=A0b (B3v wr.drew (I1.out.keep ((Chg.refl (fun _=>False) _).drew) (fun _ h=>h.elim)) I4.out)
   have hki:¬ ((l.length:Int)<(l.length:Int)):=by omega
   have AFT:Hid (∀ wx,Below bb wr.drew wx→(wx.cell? ⟨gb,0,none⟩=some (.pointer (some ⟨b,0,none⟩))∧wx.cell? ⟨gb,1,none⟩=some (.string ⟨nm.toArray⟩)∧wx.cell? ⟨gb,2,none⟩=some (.int .u32 s0))∧Chg (fun _=>False) w wx):=fun wx hx=>by
    have cx:Chg (fun k=>bb≤k) wr.drew wx:=Chg.ofBelowB hx
    have fx:=I2.out.drew.keep cx (fun h=>by have:=HG2.out;omega)
    exact ⟨⟨fx.c0,fx.c1,fx.c2⟩,I3.out.drew.trans cx fun x hx hlt=>by have:=HB0.out;omega⟩
   have e0:=I2.out.drew.c0
   have e1:=I2.out.drew.c1
   have e2:=I2.out.drew.c2
   clear i1 i2 i3 i4 hI
   obtain ⟨X1,X2⟩:=X
   dsimp only at WR
   have SX:Hid (∀ wx,Below bb wr.drew wx→∀ wy,A0A wx Ft wy (fun w' Ft'=>A1A w' b X2 Ft')→(wy.cell? ⟨gb,0,none⟩=some (.pointer (some ⟨b,0,none⟩))∧wy.cell? ⟨gb,1,none⟩=some (.string ⟨nm.toArray⟩)∧wy.cell? ⟨gb,2,none⟩=some (.int .u32 s0))∧A0A w Ft wy (fun w' Ft'=>A1A w' b X2 Ft')):=fun wx hx wy hy=>by
    have cx:Chg (fun k=>bb≤k) wr.drew wx:=Chg.ofBelowB hx
    have fx:=(I2.out.drew.keep cx (fun h=>by have:=HG2.out;omega)).keep hy.1 (fun h=>by have:=HLT.out _ h;have:=HGB.out;omega)
    exact ⟨⟨fx.c0,fx.c1,fx.c2⟩,hy.before (AFT.out wx hx).2⟩
   by_cases hx:X1=0
   case neg=>
    have hxb:(X1 != 0)=true:=by simpa using hx
    go_wp2
    refine A0e (fun w'=>w'.cell? ⟨gb,0,none⟩=some (.pointer (some ⟨b,0,none⟩))∧w'.cell? ⟨gb,1,none⟩=some (.string ⟨nm.toArray⟩)∧w'.cell? ⟨gb,2,none⟩=some (.int .u32 s0)) 6
     [(0,true),(1,true),(2,true),(3,true),(4,false),(5,false)] (by kernel_rfl) (by kernel_rfl) (fun _ _ _ _ _ h=>h) ⟨e0,e1,e2⟩ ?_
    iterate 4 (refine A0d (v:=?_) rfl (by rfl) ?_ ?_;rotate_left;(· (intro w' hS;(try dsimp only at hS);go_simp;try with_reducible rfl));(try simp only [Act.put,List.setIfInBounds_toArray,List.set_cons_zero,List.set_cons_succ,List.getElem_toArray,List.getElem_cons_zero,List.getElem_cons_succ]))
    refine A0i rfl (by rfl) (fun K hK=>?_)
    go_simp
    refine BS.out.mono ?_
    rintro e w9 ⟨rfl,hb9⟩
    refine hK _ _ (AFT.out w9 hb9).1 (fun hS=>?_)
    have WR9:=A0b (WR.out w9 (AFT.out w9 hb9).2)
    have SX9:=A0b (SX.out w9 hb9)
    clear hK K hS hb9 BS AFT SX WR
    (try simp only [Act.put,List.setIfInBounds_toArray,List.set_cons_zero,List.set_cons_succ,List.getElem_toArray,List.getElem_cons_zero,List.getElem_cons_succ])
    refine A0i rfl (by rfl) (fun K hK=>?_)
    go_simp
    refine WR9.out.mono ?_
    rintro e w10 ⟨rfl,hI⟩
    refine hK _ _ (SX9.out w10 hI).1 (fun hS=>?_)
    have HI:=A0b (SX9.out w10 hI).2
    clear hK K hS hI WR9 SX9
    (try simp only [Act.put,List.setIfInBounds_toArray,List.set_cons_zero,List.set_cons_succ,List.getElem_toArray,List.getElem_cons_zero,List.getElem_cons_succ])
    refine A0k ?_
    simp only [List.drop_succ_cons,List.drop_zero]
    go_wp2
    go_ret2
    exact ⟨rfl,HI.out⟩
   case pos=>
    subst hx
    go_wp2
    refine A0e (fun w'=>w'.cell? ⟨gb,0,none⟩=some (.pointer (some ⟨b,0,none⟩))∧w'.cell? ⟨gb,1,none⟩=some (.string ⟨nm.toArray⟩)∧w'.cell? ⟨gb,2,none⟩=some (.int .u32 s0)) 6
     [(0,true),(1,true),(2,true),(3,true),(4,false),(5,false)] (by kernel_rfl) (by kernel_rfl) (fun _ _ _ _ _ h=>h) ⟨e0,e1,e2⟩ ?_
    iterate 4 (refine A0d (v:=?_) rfl (by rfl) ?_ ?_;rotate_left;(· (intro w' hS;(try dsimp only at hS);go_simp;try with_reducible rfl));(try simp only [Act.put,List.setIfInBounds_toArray,List.set_cons_zero,List.set_cons_succ,List.getElem_toArray,List.getElem_cons_zero,List.getElem_cons_succ]))
    refine A0i rfl (by rfl) (fun K hK=>?_)
    go_simp
    refine BS.out.mono ?_
    rintro e w9 ⟨rfl,hb9⟩
    refine hK _ _ (AFT.out w9 hb9).1 (fun hS=>?_)
    have WR9:=A0b (WR.out w9 (AFT.out w9 hb9).2)
    have SX9:=A0b (SX.out w9 hb9)
    clear hK K hS hb9 BS AFT SX WR
    (try simp only [Act.put,List.setIfInBounds_toArray,List.set_cons_zero,List.set_cons_succ,List.getElem_toArray,List.getElem_cons_zero,List.getElem_cons_succ])
    refine A0i rfl (by rfl) (fun K hK=>?_)
    go_simp
    refine WR9.out.mono ?_
    rintro e w10 ⟨rfl,hI⟩
    refine hK _ _ (SX9.out w10 hI).1 (fun hS=>?_)
    have HI:=A0b (SX9.out w10 hI).2
    clear hK K hS hI WR9 SX9
    (try simp only [Act.put,List.setIfInBounds_toArray,List.set_cons_zero,List.set_cons_succ,List.getElem_toArray,List.getElem_cons_zero,List.getElem_cons_succ])
    refine A0k ?_
    simp only [List.drop_succ_cons,List.drop_zero]
    go_wp2
    go_ret2
    exact ⟨⟨_,rfl⟩,HI.out⟩
end
end Go.Proofs.YtodcnkbblippnaaGreatDoor
namespace Go.Proofs.YtodcnkbblippnaaGreatDoor
open Go.RowKit
attribute [local go_sem ↓] A0p
theorem B2G {P:PD} {a c m:Nat} (h:Fit P a c m) (nm:Bs):(P.read nm).1.length≤m:=by
 have h1:=A8A h nm
 unfold PD.read
 split
 ·simp
 ·split
  ·rename_i d hd
   unfold A4n at hd
   split at hd
   ·cases hd
   ·split at hd
    ·cases hd;simp only [List.length_take];omega
    ·cases hd
  ·simp
theorem A4Y:∀ (k:Nat) (l:Bs),(A5I k l).length*8≤l.length
 | 0,l=>by simp [A5I]
 | k+1,l=>by
  unfold A5I
  split
  ·simp
  ·have:=A4Y k (l.drop 8)
   simp only [List.length_cons,List.length_drop] at this ⊢
   omega
theorem Chg.cellKeepS {S:Nat→Prop} {w w':World} (h:Chg S w w') {p:Addr} {v:Value} (hc:w.cell? p=some v) (hn:¬ S p.block):w'.cell? p=some v:=by
 have hb:=World.block_lt_of_cell? w _ hc
 have:=h.block p.block hb hn
 unfold World.cell? at hc ⊢
 rw [this];exact hc
theorem RdI.tail {w:World} {g o n cap:Nat} {l:List Int} (h:RdI w (.slice (some ⟨g,o,none⟩) n cap) l) (hl:0<l.length) (a':Option Addr) (ha:1<l.length→a'=some ⟨g,o+1,none⟩) (hg:∀ x,a'=some x→x.block=g):RdI w (.slice a' (n - 1) (cap - 1)) l.tail:=by
 obtain ⟨h1,a,c,e,h2,h3,h4,h5⟩:=h
 cases e
 have hlt:l.tail.length=l.length - 1:=List.length_tail
 refine ⟨by rw [A3W];omega,a',cap - 1,by rw [hlt],by omega,by omega,fun x hx=>?_,fun j u hj=>?_⟩
 ·unfold Value.ownBlock at hx
  cases a' with
  | none=>simp at hx
  | some y=>
   simp only at hx
   have:=hg y rfl
   cases hx
   rw [this];exact h4 g rfl
 ·have hj2:(A0X l)[j+1]?=some u:=by
   cases l with
   | nil=>simp at hl
   | cons x r=>simpa [A0X] using hj
  obtain ⟨g',o',e,hc⟩:=h5 _ _ hj2
  cases e
  have hj3:j+1<(A0X l).length:=(List.getElem?_eq_some_iff.1 hj2).1
  rw [A3W] at hj3
  exact ⟨g,o+1,ha (by omega),by rw [show o+1+j=o+(j+1) by omega];exact hc⟩
section
variable {w:World} {b B:Nat} {P:PD} {Ft:Nat→Prop} {a c m:Nat} {n:Int}
set_option maxRecDepth 100000 in
set_option maxHeartbeats 4000000 in
theorem A7x (w:World) (h:A1A w b P Ft) (hlt:∀ k,Ft k→k<w.heap.size) (hF:Fit P a c m) (hl:Lim a c m) (hL:A2i B w):
 Calls Tryz.prog 96 #[.pointer (some ⟨b,0,none⟩)] w fun e w'=>
  (P.index=none∧e=.returned (.tuple #[.pointer none,.int .i64 7])∧Chg (fun _=>False) w w')∨
  ∃ ix xb v,P.index=some ix∧e=.returned (.tuple #[.pointer (some ⟨xb,0,none⟩),.int .i64 0])∧A0S w' xb 162 b A0N (A1m A0N) ix.first v∧RdI w' v ix.segs∧(∀ g,v.ownBlock=some g→xb<g)∧w.heap.size≤xb∧Chg (fun _=>False) w w':=by
 have FO:=A0b (A4R w b 3 (by omega) (A2c (n:=0) (by omega) (by omega)) hL)
 have RD:Hid (∀ w1,Chg (fun _=>False) w w1→_):=fun w1 hc=>B5s A0N (A0R.same h hlt hc) (fun k hk=>Nat.lt_of_lt_of_le (hlt k hk) hc.size) hF hl
 have hrl:(P.read A0N).1.length≤4294967296:=Nat.le_trans (B2G hF A0N) hl.m
 obtain ⟨X,hX⟩:∃ X,P.index=X:=⟨_,rfl⟩
 have HX:Hid (A4o (P.read A0N)=X):=hX
 rw [hX]
 have hnm:A2b 3 0=A0N:=rfl
 rw [show ((3:Nat):Int)=3 from rfl,hnm] at FO
 obtain ⟨nm,hnme⟩:∃ nm,A0N=nm:=⟨_,rfl⟩
 rw [hnme] at FO RD HX hrl ⊢
 obtain ⟨s0,hs0⟩:∃ s0,A1m nm=s0:=⟨_,rfl⟩
 rw [hs0] at FO RD ⊢
 obtain ⟨⟨dt,de⟩,hde⟩:∃ x,P.read nm=x:=⟨_,rfl⟩
 rw [hde] at RD HX hrl
 dsimp only at RD hrl
 clear hX hnm hnme hs0 hde h hlt hF hl hL
 go_enter Tryz.func96,Tryz.ntmps96
 go_wp2_with (fail)
 refine FO.out.mono ?_
 rintro e w1 ⟨rfl,hc1⟩
 have hxb:A0S (w1.alloc (.cells #[.pointer (some ⟨b,0,none⟩),.string ⟨nm.toArray⟩,.int .u32 s0,.int .i64 1,.slice none 0 0] 162)) w1.heap.size 162 b nm s0 1 (.slice none 0 0):=heap_alloc_new w1 _
 have C2:Hid (Chg (fun _=>False) w (w1.alloc (.cells #[.pointer (some ⟨b,0,none⟩),.string ⟨nm.toArray⟩,.int .u32 s0,.int .i64 1,.slice none 0 0] 162))):=hc1.alloc _
 have HXB:Hid (w.heap.size≤w1.heap.size):=hc1.size
 have RD1:=A0b (RD.out _ C2.out)
 have HF1:=A0b hxb
 have g0:=hxb.c0
 have g1:=hxb.c1
 have g2:=hxb.c2
 clear hc1 hxb FO RD
 go_wp2_with (fail)
 refine RD1.out.mono ?_
 rintro e w2 ⟨rfl,hc2⟩
 have HF2:=A0b (HF1.out.keep hc2 (fun h=>h))
 have HC2:Hid (Chg (fun _=>False) w w2):=C2.out.trans hc2 fun _ h _=>h
 have HW2:Hid (w1.heap.size<w2.heap.size):=HF2.out.lt
 clear hc2 RD1 HF1 C2 g0 g1 g2
 generalize w1.heap.size=xb at *
 by_cases h8:de=8
 case pos=>
  subst h8
  have hX0:Hid (X=some ⟨1,[]⟩):=by unfold Hid;rw [← HX.out];unfold A4o;rw [if_pos rfl]
  go_wp2
  go_ret2
  exact .inr ⟨⟨1,[]⟩,xb,_,hX0.out,rfl,HF2.out,A4a.nil,fun g hg=>by simp [Value.ownBlock] at hg,HXB.out,HC2.out⟩
 case neg=>
 have h8b:(de == 8)=false:=by simpa using h8
 have IO:=A0b (B1i w2 dt hrl)
 have HLN:Hid ((A3w dt).length*8≤dt.length):=A4Y _ _
 have HX2:Hid ((if de≠0∨A3w dt = []∨dt.length≠(A3w dt).length*8 then none else
  if (A3w dt).all A0W=false then none else
  if A1Y A3u (A3w dt).tail then some ⟨(A3w dt).headD 0,(A3w dt).tail⟩ else none)=X):=by
  rw [← HX.out];unfold A4o;rw [if_neg h8];rfl
 obtain ⟨ns,hns⟩:∃ ns,A3w dt=ns:=⟨_,rfl⟩
 rw [hns] at IO HLN HX2
 clear hns HX
 go_wp2_with (fail)
 refine IO.out.mono ?_
 rintro e w3 ⟨v,rfl,hv,hvo,hc3⟩
 have HF3:=A0b (HF2.out.keep hc3 (fun h=>h))
 have HC3:Hid (Chg (fun _=>False) w w3):=HC2.out.trans hc3 fun _ h _=>h
 obtain ⟨ap,cp,rfl,hcap1,hcap2,hcn,-⟩:=A0g hv
 unfold maxLen at hcap2
 have HV:=A0b hv
 have HVO:Hid (∀ g,(Value.slice ap ns.length cp).ownBlock=some g→w2.heap.size≤g):=hvo
 have HW3:=A0b hc3.size
 clear hv hvo hc3 IO HF2
 by_cases hbad:de≠0∨ns = []∨dt.length≠ns.length*8
 case pos=>
  have hX0:Hid (X=none):=by unfold Hid;rw [← HX2.out,if_pos hbad]
  by_cases h0:de=0
  ·subst h0
   by_cases hn0:ns = []
   ·subst hn0
    go_wp2
    go_ret2
    exact .inl ⟨hX0.out,rfl,HC3.out⟩
   ·have hne:((ns.length:Int) == 0)=false:=by
     have:ns.length≠0:=fun e=>hn0 (List.length_eq_zero_iff.1 e)
     simp;omega
    have hd:((dt.length:Int) != wrap64 ((ns.length:Int)*8))=true:=by
     have:dt.length≠ns.length*8:=by rcases hbad with h | h | h;exact absurd rfl h;exact absurd h hn0;exact h
     have:=HLN.out
     have ew:wrap64 ((ns.length:Int)*8)=(ns.length:Int)*8:=by unfold wrap64;omega
     rw [ew];simp;omega
    go_wp2
    go_ret2
    exact .inl ⟨hX0.out,rfl,HC3.out⟩
  ·have hb:(de != 0)=true:=by simpa using h0
   go_wp2
   go_ret2
   exact .inl ⟨hX0.out,rfl,HC3.out⟩
 case neg=>
  have hz:de=0∧ns≠[]∧dt.length=ns.length*8:=⟨Classical.byContradiction fun h=>hbad (.inl h),fun h=>hbad (.inr (.inl h)),Classical.byContradiction fun h=>hbad (.inr (.inr h))⟩
  obtain ⟨rfl,hn0,hd0⟩:=hz
  have HX3:Hid ((if ns.all A0W=false then none else if A1Y A3u ns.tail then some ⟨ns.headD 0,ns.tail⟩ else none)=X):=by rw [← HX2.out,if_neg hbad];rfl
  have hpos:0<ns.length:=List.length_pos_iff.2 hn0
  have hne:((ns.length:Int) == 0)=false:=by simp;omega
  have hd:((dt.length:Int) != wrap64 ((ns.length:Int)*8))=false:=by
   have ew:wrap64 ((ns.length:Int)*8)=(ns.length:Int)*8:=by unfold wrap64;omega
   rw [ew];simp;omega
  obtain ⟨g,rfl⟩:=hcn hpos
  have HBG:Hid (ns.length≤1099511627776):=by unfold Hid;omega
  clear hbad HX2 hd0 hrl HLN
  go_wp2
  go_loopw [44] (fun iv wr=>∃ k:Nat,iv=.int .i64 k∧k≤ns.length∧wr=w3∧Hid ((ns.take k).all A0W=true)) (fun iv _=>ns.length - (intOf iv).toNat)
  case atStart=>exact ⟨0,rfl,by omega,rfl,by unfold Hid;rfl⟩
  case round=>
   obtain ⟨k,rfl,hk,rfl,hI⟩:=hrel
   by_cases hk1:k<ns.length
   ·have hcell:wr.cell? ⟨g,k,none⟩=some (.int .i64 (ns[k]'hk1)):=A0j HV.out rfl (A4U ns k hk1)
    have htk:ns.take (k+1)=ns.take k ++ [ns[k]'hk1]:=List.take_succ_eq_append_getElem hk1
    have hmem:(ns[k]'hk1)∈ns:=List.getElem_mem hk1
    obtain ⟨x,hx⟩:∃ x,(ns[k]'hk1)=x:=⟨_,rfl⟩
    rw [hx] at hcell htk hmem
    have IN:=A0b (A4Z wr x)
    have hki:(k:Int)<(ns.length:Int):=by omega
    have hk0:(0:Int)≤(k:Int):=Int.natCast_nonneg _
    have HTK:=A0b htk
    have HMEM:=A0b hmem
    clear hx htk hmem
    by_cases hn:A0W x=true
    ·have hI2:Hid ((ns.take (k+1)).all A0W=true):=by unfold Hid;rw [HTK.out,List.all_append,hI.out];simp [hn]
     rw [hn] at IN
     go_wp2_with (go_at_call 128;refine IN.out.mono ?_;rintro e w4 ⟨rfl,rfl⟩)
     go_roundw
     case rel=>exact ⟨k+1,by go_num,by omega,trivial,hI2.out⟩
     case measure=>simp [intOf];omega
    ·have hnf:A0W x=false:=by simpa using hn
     have hX0:Hid (X=none):=by
      unfold Hid;rw [← HX3.out,if_pos]
      have:¬ ns.all A0W=true:=fun h=>hn (List.all_eq_true.1 h x HMEM.out)
      simpa using this
     rw [hnf] at IN
     go_wp2_with (go_at_call 128;refine IN.out.mono ?_;rintro e w4 ⟨rfl,rfl⟩)
     go_ret2
     exact .inl ⟨hX0.out,rfl,HC3.out⟩
   ·obtain rfl:k=ns.length:=by omega
    have hall:ns.all A0W=true:=by have:=hI.out;rwa [List.take_length] at this
    have HX4:Hid ((if A1Y A3u ns.tail then some (Ix.mk (ns.headD 0) ns.tail) else none)=X):=by have:=HX3.out;rwa [if_neg (by simp [hall])] at this
    have hcell:wr.drew.cell? ⟨g,0,none⟩=some (.int .i64 (ns.headD 0)):=by
     have h0:=A4U ns 0 hpos
     have:(ns[0]'hpos)=ns.headD 0:=by cases ns with
      | nil=>simp at hpos
      | cons x r=>rfl
     rw [this] at h0
     exact A0j HV.out rfl h0
    have hki:¬ ((ns.length:Int)<(ns.length:Int)):=by omega
    have f3:=HF3.out.drew.fz 3
    have f4:=HF3.out.drew.fz 4
    have g3:=HF3.out.drew.c3
    have g4:=HF3.out.drew.c4
    clear hI HX3 hall
    obtain ⟨h0,hh0⟩:∃ h0,ns.headD 0=h0:=⟨_,rfl⟩
    rw [hh0] at hcell HX4
    clear hh0
    have hn1:(1:Int)≤(ns.length:Int):=by omega
    obtain ⟨a',ha'⟩:∃ a':Option Addr,(if cp=1 then some (⟨g,0,none⟩:Addr) else some ⟨g,1,none⟩)=a':=⟨_,rfl⟩
    have HT:=A0b (RdI.tail (A5p.rd HV.out) hpos a' (fun h=>by rw [← ha',if_neg (by omega)]) (fun x hx=>by rw [← ha'] at hx;split at hx <;> cases hx <;> rfl))
    have hab:∀ x,a'=some x→x.block=g:=fun x hx=>by rw [← ha'] at hx;split at hx <;> cases hx <;> rfl
    have hto:∀ g',(Value.slice a' (ns.length - 1) (cp - 1)).ownBlock=some g'→g'=g:=fun g' hg=>by
     unfold Value.ownBlock at hg
     cases hx:a' with
     | none=>rw [hx] at hg;simp at hg
     | some y=>rw [hx] at hg;have:=hab y hx;simp at hg;omega
    clear hab
    have HTO:=A0b hto
    have HGN:Hid (w2.heap.size≤g):=HVO.out g rfl
    have hF9:A0S (wr.setCell ⟨xb,3,none⟩ (.int .i64 h0)).drew xb 162 b nm s0 h0 (.slice none 0 0):=(HF3.out.s3 h0).drew
    have k9:Chg (One xb) wr (wr.setCell ⟨xb,3,none⟩ (.int .i64 h0)).drew:=((Chg.refl (One xb) wr).setAt (b:=xb) rfl 3 _).drew
    have hcell2:(wr.setCell ⟨xb,3,none⟩ (.int .i64 h0)).drew.cell? ⟨g,0,none⟩=some (.int .i64 h0):=k9.cellKeepS hcell (fun h=>by have h':g=xb:=h;have:=HGN.out;have:=HW2.out;omega)
    have F9:=A0b hF9
    have K9:=A0b k9
    clear hto hF9 k9
    go_wp2
    refine A0e (fun w'=>w'.cell? ⟨g,0,none⟩=some (.int .i64 h0)) 10
     [(0,true),(1,true),(2,true),(3,true),(4,true),(5,true),(6,true),(7,true),(8,true),(9,false)] (by kernel_rfl) (by kernel_rfl) (fun _ _ _ _ _ h=>h) hcell ?_
    iterate 9 (refine A0d (v:=?_) rfl (by rfl) ?_ ?_;rotate_left;(· (intro w' hS;(try dsimp only at hS);go_simp;try with_reducible rfl));(try simp only [Act.put,List.setIfInBounds_toArray,List.set_cons_zero,List.set_cons_succ,List.getElem_toArray,List.getElem_cons_zero,List.getElem_cons_succ]))
    refine A0i rfl (by rfl) (fun K hK=>?_)
    go_simp
    refine hK _ _ hcell2 (fun hS=>?_)
    clear hK K hS g3 g4 f3 f4 hcell
    (try simp only [Act.put,List.setIfInBounds_toArray,List.set_cons_zero,List.set_cons_succ,List.getElem_toArray,List.getElem_cons_zero,List.getElem_cons_succ])
    refine A0k ?_
    simp only [List.drop_succ_cons,List.drop_zero]
    generalize (wr.setCell ⟨xb,3,none⟩ (.int .i64 h0)).drew=w9 at F9 K9 hcell2 ⊢
    have f94:=F9.out.fz 4
    have g94:=F9.out.c4
    have F10:=A0b (F9.out.s4 (.slice a' (ns.length - 1) (cp - 1)))
    have c104:=F10.out.c4
    have k10:Chg (One xb) wr (w9.setCell ⟨xb,4,none⟩ (.slice a' (ns.length - 1) (cp - 1))):=K9.out.setAt rfl 4 _
    have C10:Hid (Chg (fun _=>False) w (w9.setCell ⟨xb,4,none⟩ (.slice a' (ns.length - 1) (cp - 1)))):=HC3.out.trans k10 fun x hx hlt=>by have hx':x=xb:=hx;have:=HXB.out;omega
    have R10:Hid (RdI (w9.setCell ⟨xb,4,none⟩ (.slice a' (ns.length - 1) (cp - 1))) (.slice a' (ns.length - 1) (cp - 1)) ns.tail):=A4a.chg HT.out k10 fun g' hg hx=>by
     have hx':g'=xb:=hx
     have:=HTO.out g' hg
     have:=HGN.out
     have:=HW2.out
     omega
    have RI:=A0b (B4q _ _ _ R10.out (by rw [List.length_tail];have:=HBG.out;omega))
    clear k10
    by_cases hr:A1Y A3u ns.tail=true
    ·rw [hr] at RI
     have hX0:Hid (X=some ⟨h0,ns.tail⟩):=by unfold Hid;rw [← HX4.out,if_pos hr]
     go_wp2_with (go_at_call 129;refine RI.out.mono ?_;rintro e w5 ⟨rfl,nn,rfl⟩)
     go_ret2
     have kk:=(Chg.refl (fun _=>False) (w9.setCell ⟨xb,4,none⟩ (.slice a' (ns.length - 1) (cp - 1)))).drewN nn
     exact .inr ⟨_,xb,_,hX0.out,rfl,F10.out.keep kk (fun h=>h),A4a.chg R10.out kk (fun _ _ h=>h),fun g' hg=>by have:=HTO.out g' hg;have:=HGN.out;have:=HW2.out;omega,HXB.out,C10.out.trans kk fun _ h _=>h⟩
    ·have hrf:A1Y A3u ns.tail=false:=by simpa using hr
     rw [hrf] at RI
     have hX0:Hid (X=none):=by unfold Hid;rw [← HX4.out,if_neg hr]
     go_wp2_with (go_at_call 129;refine RI.out.mono ?_;rintro e w5 ⟨rfl,nn,rfl⟩)
     go_ret2
     exact .inl ⟨hX0.out,rfl,C10.out.drewN nn⟩
end
end Go.Proofs.YtodcnkbblippnaaGreatDoor
namespace Go.Proofs.YtodcnkbblippnaaGreatDoor
open Go.RowKit
attribute [local go_sem ↓] A0p
theorem B1w {B b:Nat} {l:List UInt8} (w:World) (h:B0E B b l w) (hBw:B≤w.heap.size):
 Calls Tryz.prog 197 #[.pointer (some ⟨b,0,none⟩)] w fun e w'=>e=.returned (.string ⟨l.toArray⟩)∧Below B w w'∧∀ k o,w.heap[k]?=some o→k≠b→(∀ c fz,o≠.cells c 5 fz)→w'.heap[k]?=some o:=by
 refine (Any.Builder_String_any_k Tryz.lays169 Tryz.Builder_Extra_169 B b l w (h.imp Lib.BuilderAtF.of Lib.BuilderAtF.of) hBw).mono ?_
 rintro e w' ⟨h1,_,h2,h3⟩
 exact ⟨h1,h2,fun k o hk hb ho=>h3 k o hk (fun e=>hb (by simpa using e)) ho⟩
theorem A0z.s1 {w:World} {fb:Nat} {T:TypeId} {p:Value} {name:ByteArray} {s:Nat} (h:A0z w fb T p name s) (nm:ByteArray):A0z (w.setCell ⟨fb,1,none⟩ (.string nm)) fb T p nm s:=A0h h
theorem Chg.trans' {Ft:Nat→Prop} {x:Nat} {w w1 w2:World} (h:Chg Ft w w1) (k:Chg (One x) w1 w2):Chg (fun k=>Ft k∨k=x) w w2:=
 (h.mono fun _ _ h=>.inl h).trans k fun _ h _=>.inr h
theorem A0z.drew {w:World} {fb:Nat} {T:TypeId} {p:Value} {name:ByteArray} {s:Nat} (h:A0z w fb T p name s):A0z w.drew fb T p name s:=by unfold A0z at h ⊢;exact h
section
variable {w:World} {b B xb:Nat} {P:PD} {Ft:Nat→Prop} {a c m:Nat} {n:Int}
theorem B4J (h:A1A w b P Ft) (old nm:ByteArray) (hF:Fit P a c m) (hl:Lim a c m):
 Calls Tryz.prog 242 #[.pointer (some ⟨b,0,none⟩),.string old,.string nm] w fun e w'=>e=.returned (.int .i64 (P.rename old nm).1)∧A0A w Ft w' (fun w' Ft'=>A1A w' b (P.rename old nm).2 Ft'):=
 B5k h old nm (by have:=hF.dir;have:=hF.chg;have:=hl.a;have:=hl.c;omega)
theorem A4m (first:Int) (segs:List Int):(A8K first segs).length=8+8*segs.length:=by
 unfold A8K
 rw [List.length_append,A0v]
 congr 1
 induction segs with
 | nil=>rfl
 | cons x r ih=>simp only [List.flatMap_cons,List.length_append,ih,A0v,List.length_cons];omega
theorem Fit.write {P:PD} {a c m:Nat} (h:Fit P a c m) (nm:Bs) (s:Nat) (l:Bs):Fit (P.write nm s l).2 (a+1) (c+1) (m+l.length+4):=by
 have h1:=h.create (nmB nm)
 have hp:(A0L s l).length=l.length+4:=by simp [A0L,A1i]
 have h2:=h1.append (nmB nm) (A0L s l)
 rw [hp] at h2
 unfold PD.write
 split
 ·exact h1.mono (Nat.le_refl _) (Nat.le_refl _) (by omega)
 ·split
  ·exact h2.mono (Nat.le_refl _) (Nat.le_refl _) (by omega)
  ·exact (h2.sync (nmB nm)).mono (Nat.le_refl _) (Nat.le_refl _) (by omega)
theorem Fit.turnIx {P:PD} {a c m:Nat} (h:Fit P a c m) (first:Int) (segs:List Int):Fit (P.turn first segs).2 (a+2) (c+2) (m+12+8*segs.length):=by
 have h1:=h.write A2N (A1m A0N) (A8K first segs)
 rw [A4m] at h1
 unfold PD.turn
 split
 ·exact h1.mono (by omega) (by omega) (by omega)
 ·exact (h1.rename (nmB A2N) (nmB A0N)).mono (by omega) (by omega) (by omega)
set_option maxRecDepth 100000 in
set_option maxHeartbeats 4000000 in
theorem B3z (w:World) (first f0:Int) (sv v0:Value) (segs:List Int) (hX:A0S w xb 162 b A0N (A1m A0N) f0 v0) (h:A1A w b P Ft) (hlt:∀ k,Ft k→k<w.heap.size) (hn:¬ Ft xb) (hF:Fit P a c m) (hl:Lim (a+2) (c+2) (m+12+8*segs.length)) (hL:A2i B w)
 (hs:RdI w sv segs) (hf:A0P first) (hsr:∀ x∈segs,A0P x) (hsl:segs.length≤134217728):
 Calls Tryz.prog 200 #[.pointer (some ⟨xb,0,none⟩),.int .i64 first,sv] w fun e w'=>
  e=.returned (.int .i64 (P.turn first segs).1)∧A0S w' xb 162 b A0N (A1m A0N) (if (P.turn first segs).1=0 then first else f0) (if (P.turn first segs).1=0 then sv else v0)∧A9b w Ft xb w' b (P.turn first segs).2:=by
 have hxl:=hX.lt
 have hnm:A2b 4 0=A2N:=rfl
 have NO:Hid (∀ w1,Chg (fun _=>False) w w1→Calls Tryz.prog 134 #[.int .i64 4,.int .i64 0] w1 fun e w'=>e=.returned (.string ⟨A2N.toArray⟩)∧Chg (fun _=>False) w1 w'):=fun w1 hc=>by
  have:=A4H (n:=0) w1 4 (by omega) (by omega) (by decide +kernel) (hL.keep0 hc)
  rw [show ((4:Nat):Int)=4 from rfl,hnm] at this
  exact this
 have hi:=A4m first segs
 have hlw:Lim (a+1) (c+1) m:=⟨by have:=hl.a;omega,by have:=hl.c;omega,by have:=hl.m;omega⟩
 have WR:Hid (∀ w1,Chg (fun _=>False) w w1→_):=fun w1 hc=>B4D A2N (A8K first segs) (A4O A0N) (A0R.same h hlt hc) (fun k hk=>Nat.lt_of_lt_of_le (hlt k hk) hc.size) (by rw [hi];omega) hF hlw
 have RN:Hid (∀ w1 Ft1,A1A w1 b (P.write A2N (A1m A0N) (A8K first segs)).2 Ft1→_):=fun w1 Ft1 h1=>B4J h1 (nmB A2N) (nmB A0N) (hF.write _ _ _) ⟨by have:=hl.a;omega,by have:=hl.c;omega,by rw [hi];have:=hl.m;omega⟩
 have HR:Hid (P.turn first segs=if (P.write A2N (A1m A0N) (A8K first segs)).1≠0 then P.write A2N (A1m A0N) (A8K first segs) else (P.write A2N (A1m A0N) (A8K first segs)).2.rename (nmB A2N) (nmB A0N)):=rfl
 obtain ⟨R,hR⟩:∃ R,P.turn first segs=R:=⟨_,rfl⟩
 rw [hR] at HR ⊢
 have IB:Hid (∀ wx x,A0P x→_):=fun wx x hx=>A2h wx x hx
 have hib:A8K first segs=A1h first ++ segs.flatMap A1h:=rfl
 obtain ⟨dn,hdn⟩:∃ dn,A2N=dn:=⟨_,rfl⟩
 obtain ⟨nm,hnme⟩:∃ nm,A0N=nm:=⟨_,rfl⟩
 rw [hnme] at hX WR RN HR ⊢
 rw [hdn] at NO WR RN HR
 obtain ⟨s0,hs0⟩:∃ s0,A1m nm=s0:=⟨_,rfl⟩
 rw [hs0] at hX WR RN HR ⊢
 obtain ⟨W,hW⟩:∃ W,P.write dn s0 (A8K first segs)=W:=⟨_,rfl⟩
 rw [hW] at WR RN HR
 obtain ⟨Q,hQ⟩:∃ Q,W.2.rename (nmB dn) (nmB nm)=Q:=⟨_,rfl⟩
 rw [hQ] at RN HR
 obtain ⟨il,hil⟩:∃ il,A8K first segs=il:=⟨_,rfl⟩
 rw [hil] at WR hib hi
 have HIB:=A0b hib
 have HI:=A0b hi
 obtain ⟨pa,pcap,rfl,hcap1,hcap2⟩:=hs.form
 unfold maxLen at hcap2
 have HS:=A0b hs
 have HLT:=A0b hlt
 have HN:=A0b hn
 have HX:=A0b hX
 have HFI:=A0b hf
 have HSR:=A0b hsr
 have HXL:=A0b hxl
 have BN:=A0b (B5A w)
 have C1:Hid (Chg (fun _=>False) w (w.alloc (.cells #[.pointer none,.slice none 0 0] 260))):=(Chg.refl _ w).alloc _
 have IBF:=A0b (IB.out (w.alloc (.cells #[.pointer none,.slice none 0 0] 260)) first hf)
 clear hR hnm hib hnme hdn hs0 hW hQ hil hi hlw h hlt hn hF hl hL hs hX hf hsr hxl
 go_enter Tryz.func200,Tryz.ntmps200
 go_wp2_with (fail)
 refine IBF.out.mono ?_
 rintro e w1 ⟨rfl,hc1⟩
 have BU1:Hid (B0E w.heap.size w.heap.size [] w1):=BN.out.keep hc1 (fun _ h=>h.elim)
 have K1:Hid (Chg (fun _=>False) w w1):=C1.out.trans hc1 fun _ h _=>h
 have L1:Hid (w.heap.size<w1.heap.size):=Nat.lt_of_lt_of_le (by simp) hc1.size
 have WS1:=A0b (A2k (t:=A1h first) w1 BU1.out (by rw [A0v];simp) K1.out.size)
 clear hc1 IBF BN C1
 go_wp2_with (fail)
 refine WS1.out.mono ?_
 rintro e w2 ⟨rfl,hbu,hb2⟩
 have BU2:Hid (B0E w.heap.size w.heap.size (A1h first) w2):=hbu
 have K2:Hid (Chg (fun _=>False) w w2):=K1.out.trans (Chg.ofBelowB hb2) fun x hx hlt=>by omega
 have L2:Hid (w.heap.size<w2.heap.size):=Nat.lt_of_lt_of_le L1.out hb2.size
 clear hbu hb2 WS1 BU1 K1 L1
 go_wp2
 obtain ⟨bb,hbb⟩:∃ bb,w.heap.size=bb:=⟨_,rfl⟩
 rw [hbb] at BU2 L2 ⊢
 have HBB:=A0b hbb
 clear hbb
 go_loopw [18] (fun iv wr=>∃ k:Nat,iv=.int .i64 k∧k≤segs.length∧Hid (B0E bb bb (A1h first ++ (segs.take k).flatMap A1h) wr∧Chg (fun _=>False) w wr∧bb<wr.heap.size)) (fun iv _=>segs.length - (intOf iv).toNat)
 case atStart=>exact ⟨0,rfl,by omega,by simpa using BU2.out,K2.out,L2.out⟩
 case round=>
  obtain ⟨k,rfl,hk,hI⟩:=hrel
  by_cases hk1:k<segs.length
  ·obtain ⟨i1,i2,i3⟩:=hI.out
   obtain ⟨g,o,rfl,c1⟩:=RdI.at HS.out k hk1
   have hx:=HSR.out _ (List.getElem_mem hk1)
   have htk:segs.take (k+1)=segs.take k ++ [segs[k]'hk1]:=List.take_succ_eq_append_getElem hk1
   obtain ⟨x,hxe⟩:∃ x,(segs[k]'hk1)=x:=⟨_,rfl⟩
   rw [hxe] at c1 hx htk
   have d1:=i2.cellKeep c1
   have IBX:=A0b (IB.out wr x hx)
   have HTK:Hid ((segs.take (k+1)).flatMap A1h=(segs.take k).flatMap A1h ++ A1h x):=by unfold Hid;rw [htk];simp
   have hlk:(A1h first ++ (segs.take k).flatMap A1h).length≤8+8*segs.length:=by
    have:=A4m first (segs.take k)
    unfold A8K at this
    rw [this,List.length_take];omega
   obtain ⟨pk,hpk⟩:∃ pk,A1h first ++ (segs.take k).flatMap A1h=pk:=⟨_,rfl⟩
   have HTK2:Hid (A1h first ++ (segs.take (k+1)).flatMap A1h=pk ++ A1h x):=by unfold Hid;rw [HTK.out,← List.append_assoc,hpk]
   rw [hpk] at i1 hlk
   have hxl:=A0v x
   obtain ⟨ib,hib⟩:∃ ib,A1h x=ib:=⟨_,rfl⟩
   rw [hib] at IBX HTK2 hxl
   have I1:=A0b i1
   have I2:=A0b i2
   have I3:=A0b i3
   have WS:Hid (∀ w6,Chg (fun _=>False) wr w6→_):=fun w6 h6=>A2k (t:=ib) w6 (I1.out.keep h6 (fun _ h=>h.elim)) (by omega) (Nat.le_trans (Nat.le_of_lt I3.out) h6.size)
   have hki:(k:Int)<(segs.length:Int):=by omega
   have hk0:(0:Int)≤(k:Int):=Int.natCast_nonneg _
   clear i1 i2 i3 hI c1 hxe htk hpk hib hx hlk hxl HTK
   go_wp2_with (fail)
   refine IBX.out.mono ?_
   rintro e w6 ⟨rfl,hc6⟩
   have C6:=A0b hc6
   have WS6:=A0b (WS.out w6 hc6)
   clear hc6 IBX WS
   go_wp2_with (go_at_call 194;refine WS6.out.mono ?_;rintro e w7 ⟨rfl,hbu,hb7⟩;have HBU:=A0b hbu;have HB7:=A0b hb7;clear hbu hb7)
   go_roundw
   case rel=>
    have c7:Chg (fun k=>bb≤k) w6 w7:=Chg.ofBelowB HB7.out
    refine ⟨k+1,by go_num,by omega,by rw [HTK2.out];exact HBU.out,?_,?_⟩
    ·exact (I2.out.trans C6.out fun _ h _=>h).trans c7 fun x hx hlt=>by have:=HBB.out;omega
    ·exact Nat.lt_of_lt_of_le I3.out (Nat.le_trans C6.out.size HB7.out.size)
   case measure=>simp [intOf];omega
  ·obtain ⟨i1,i2,i3⟩:=hI.out
   obtain rfl:k=segs.length:=by omega
   rw [List.take_length,← HIB.out] at i1
   have hki:¬ ((segs.length:Int)<(segs.length:Int)):=by omega
   have fx:=HX.out.keep i2 (fun h=>h)
   have g0:=fx.c0
   have g1:=fx.c1
   have g2:=fx.c2
   have HFA:A0z (wr.alloc (.cells #[.pointer (some ⟨b,0,none⟩),.string (nmB nm),.int .u32 s0] 160)) wr.heap.size 160 (.pointer (some ⟨b,0,none⟩)) (nmB nm) s0:=heap_alloc_new wr _
   have ka:Chg (fun _=>False) wr (wr.alloc (.cells #[.pointer (some ⟨b,0,none⟩),.string (nmB nm),.int .u32 s0] 160)):=(Chg.refl _ wr).alloc _
   have NOA:=A0b (NO.out _ (i2.trans ka fun _ h _=>h))
   have KA:=A0b ka
   have FA:=A0b HFA
   have I1:=A0b i1
   have I2:=A0b i2
   have I3:=A0b i3
   have FX:=A0b fx
   clear i1 i2 i3 ka HFA NO hI fx
   go_wp2_with (fail)
   refine NOA.out.mono ?_
   rintro e w5 ⟨rfl,hc5⟩
   have FB5:=FA.out.keep hc5 (fun h=>h)
   have K5:Chg (fun _=>False) wr w5:=KA.out.trans hc5 fun _ h _=>h
   have h51:=FB5.c1
   have hz51:=FB5.fz 1
   have FB6:=A0b (FB5.s1 ⟨dn.toArray⟩)
   have K6:Hid (Chg (fun _=>False) wr (w5.setCell ⟨wr.heap.size,1,none⟩ (.string ⟨dn.toArray⟩))):=K5.setCell (p:=⟨wr.heap.size,1,none⟩) (fun h=>by have h':wr.heap.size<wr.heap.size:=h;omega) _
   clear hc5 FB5 K5 NOA FA KA
   generalize hdb:wr.heap.size=db at *
   have HDB:=A0b hdb
   clear hdb
   go_wp2
   generalize w5.setCell ⟨db,1,none⟩ (.string ⟨dn.toArray⟩)=w6 at FB6 K6 ⊢
   have BU6:Hid (B0E bb bb il w6.drew):=I1.out.keep K6.out.drew (fun _ h=>h.elim)
   have BS:=A0b (B1w w6.drew BU6.out (by have:=I3.out;have:=HDB.out;have:=K6.out.size;show bb≤w6.heap.size;omega))
   have AFT:Hid (∀ wx,Below bb w6.drew wx→(∀ k o,w6.drew.heap[k]?=some o→k≠bb→(∀ c fz,o≠.cells c 5 fz)→wx.heap[k]?=some o)→A0z wx db 160 (.pointer (some ⟨b,0,none⟩)) ⟨dn.toArray⟩ s0∧Chg (fun _=>False) w wx):=fun wx hx ho=>
    ⟨ho db _ FB6.out.drew (by have:=I3.out;have:=HDB.out;omega) (fun c fz e=>by cases e),(I2.out.trans K6.out.drew fun _ h _=>h).trans (Chg.ofBelowB hx) fun x hx hlt=>by have:=HBB.out;omega⟩
   have W2:Hid (∀ wx,A0z wx db 160 (.pointer (some ⟨b,0,none⟩)) ⟨dn.toArray⟩ s0→Chg (fun _=>False) w wx→∀ wy,A0A wx Ft wy (fun w' Ft'=>A1A w' b W.2 Ft')→A0z wy db 160 (.pointer (some ⟨b,0,none⟩)) ⟨dn.toArray⟩ s0∧A0S wy xb 162 b nm s0 f0 v0∧A0A w Ft wy (fun w' Ft'=>A1A w' b W.2 Ft')):=fun wx hf hx wy hy=>
    ⟨hf.keep hy.1 (fun h=>by have:=HLT.out _ h;have:=I2.out.size;have:=HDB.out;omega),(HX.out.keep hx (fun h=>h)).keep hy.1 HN.out,hy.before hx⟩
   have e0:=FB6.out.drew.c0
   have e1:=FB6.out.drew.c1
   have e2:=FB6.out.drew.c2
   obtain ⟨W1,W3⟩:=W
   dsimp only at WR RN W2 HR
   clear h51 hz51 g0 g1 g2 HI HIB
   by_cases hw:W1=0
   case neg=>
    have hR1:R=(W1,W3):=by rw [HR.out,if_pos hw]
    subst hR1
    have hwb:(W1 != 0)=true:=by simpa using hw
    refine A0e (fun w'=>w'.cell? ⟨db,0,none⟩=some (.pointer (some ⟨b,0,none⟩))∧w'.cell? ⟨db,1,none⟩=some (.string ⟨dn.toArray⟩)∧w'.cell? ⟨db,2,none⟩=some (.int .u32 s0)) 3
     [(0,true),(1,false),(2,false)] (by kernel_rfl) (by kernel_rfl) (fun _ _ _ _ _ h=>h) ⟨e0,e1,e2⟩ ?_
    (refine A0d (v:=?_) rfl (by rfl) ?_ ?_;rotate_left;(· (intro w' hS;(try dsimp only at hS);go_simp;try with_reducible rfl));(try simp only [Act.put,List.setIfInBounds_toArray,List.set_cons_zero,List.set_cons_succ,List.getElem_toArray,List.getElem_cons_zero]))
    refine A0i rfl (by rfl) (fun K hK=>?_)
    go_simp
    refine BS.out.mono ?_
    rintro e w9 ⟨rfl,hb9,ho9⟩
    obtain ⟨q1,q2⟩:=AFT.out w9 hb9 ho9
    refine hK _ _ ⟨q1.c0,q1.c1,q1.c2⟩ (fun hS=>?_)
    have WR9:=A0b (WR.out w9 q2)
    have W29:=A0b (W2.out w9 q1 q2)
    clear hK K hS hb9 ho9 q1 q2 BS AFT WR W2
    (try simp only [Act.put,List.setIfInBounds_toArray,List.set_cons_zero,List.set_cons_succ,List.getElem_toArray,List.getElem_cons_zero,List.getElem_cons_succ])
    refine A0i rfl (by rfl) (fun K hK=>?_)
    go_simp
    refine WR9.out.mono ?_
    rintro e w10 ⟨rfl,hI⟩
    obtain ⟨q1,q2,q3⟩:=W29.out w10 hI
    refine hK _ _ ⟨q1.c0,q1.c1,q1.c2⟩ (fun hS=>?_)
    have Q2:=A0b q2
    have Q3:=A0b q3
    clear hK K hS hI WR9 W29 q1 q2 q3
    (try simp only [Act.put,List.setIfInBounds_toArray,List.set_cons_zero,List.set_cons_succ,List.getElem_toArray,List.getElem_cons_zero,List.getElem_cons_succ])
    refine A0k ?_
    simp only [List.drop_succ_cons,List.drop_zero]
    go_wp2
    go_ret
    dsimp only
    obtain ⟨r1,Ft',r2,r3,r4⟩:=Q3.out
    exact ⟨rfl,Q2.out,r1.mono fun _ _ h=>.inl h,Ft',r2,r3,r4⟩
   case pos=>
    subst hw
    have hR1:R=Q:=by rw [HR.out,if_neg (by simp)]
    subst hR1
    clear HR
    refine A0e (fun w'=>w'.cell? ⟨db,0,none⟩=some (.pointer (some ⟨b,0,none⟩))∧w'.cell? ⟨db,1,none⟩=some (.string ⟨dn.toArray⟩)∧w'.cell? ⟨db,2,none⟩=some (.int .u32 s0)) 3
     [(0,true),(1,false),(2,false)] (by kernel_rfl) (by kernel_rfl) (fun _ _ _ _ _ h=>h) ⟨e0,e1,e2⟩ ?_
    (refine A0d (v:=?_) rfl (by rfl) ?_ ?_;rotate_left;(· (intro w' hS;(try dsimp only at hS);go_simp;try with_reducible rfl));(try simp only [Act.put,List.setIfInBounds_toArray,List.set_cons_zero,List.set_cons_succ,List.getElem_toArray,List.getElem_cons_zero]))
    refine A0i rfl (by rfl) (fun K hK=>?_)
    go_simp
    refine BS.out.mono ?_
    rintro e w9 ⟨rfl,hb9,ho9⟩
    obtain ⟨q1,q2⟩:=AFT.out w9 hb9 ho9
    refine hK _ _ ⟨q1.c0,q1.c1,q1.c2⟩ (fun hS=>?_)
    have WR9:=A0b (WR.out w9 q2)
    have W29:=A0b (W2.out w9 q1 q2)
    have F29:=A0b q1
    have C29:=A0b q2
    clear hK K hS hb9 ho9 q1 q2 BS AFT WR W2
    (try simp only [Act.put,List.setIfInBounds_toArray,List.set_cons_zero,List.set_cons_succ,List.getElem_toArray,List.getElem_cons_zero,List.getElem_cons_succ])
    refine A0i rfl (by rfl) (fun K hK=>?_)
    go_simp
    refine WR9.out.mono ?_
    rintro e w10 ⟨rfl,hI⟩
    obtain ⟨q1,q2,q3⟩:=W29.out w10 hI
    refine hK _ _ ⟨q1.c0,q1.c1,q1.c2⟩ (fun hS=>?_)
    obtain ⟨r1,-⟩:=q3
    obtain ⟨-,Ft1,r2,r3,r5⟩:=hI
    have D9:=A0b F29.out.lt
    have S9:=A0b C29.out.size
    have R4:Hid (∀ k,Ft1 k→Ft k∨w.heap.size≤k):=fun k hk=>(r5 k hk).imp id fun h=>Nat.le_trans S9.out h
    have R1:=A0b r1
    have RN1:=A0b (RN.out w10.drew Ft1 (A0R.same r2 r3 (Chg.refl _ w10).drew))
    have R3:=A0b r3
    have x0:=q2.drew.c0
    have x1:=q2.drew.c1
    have x2:=q1.drew.c1
    have NF1:Hid (¬ Ft1 xb):=fun h=>by rcases R4.out _ h with h | h;exact HN.out h;have:=HXL.out;omega
    have NF2:Hid (¬ Ft1 db):=fun h=>by
     rcases r5 _ h with h | h
     ·have:=HLT.out _ h;have:=I2.out.size;have:=HDB.out;omega
     ·have:=D9.out;omega
    have AF:Hid (∀ wz,A0A w10.drew Ft1 wz (fun w' Ft'=>A1A w' b R.2 Ft')→(A0S wz xb 162 b nm s0 f0 v0∧A0z wz db 160 (.pointer (some ⟨b,0,none⟩)) ⟨dn.toArray⟩ s0)∧A0A w Ft wz (fun w' Ft'=>A1A w' b R.2 Ft')):=fun wz hz=>
     ⟨⟨q2.drew.keep hz.1 NF1.out,q1.drew.keep hz.1 NF2.out⟩,by
      obtain ⟨z1,Ft2,z2,z3,z4⟩:=hz
      exact ⟨(R1.out.drew).trans z1 fun x hx hlt=>(R4.out x hx).resolve_right (by omega),Ft2,z2,z3,fun k hk=>(z4 k hk).elim (fun h=>R4.out k h) fun h=>.inr (Nat.le_trans R1.out.size h)⟩⟩
    clear hK K hS WR9 W29 q1 q2 r1 r2 r3 r5 RN F29 C29
    (try simp only [Act.put,List.setIfInBounds_toArray,List.set_cons_zero,List.set_cons_succ,List.getElem_toArray,List.getElem_cons_zero,List.getElem_cons_succ])
    refine A0k ?_
    simp only [List.drop_succ_cons,List.drop_zero]
    obtain ⟨R1',R2'⟩:=R
    dsimp only at RN1 AF
    have HFIN:Hid (∀ wz,A0S wz xb 162 b nm s0 f0 v0→A0A w Ft wz (fun w' Ft'=>A1A w' b R2' Ft')→A0S ((wz.setCell ⟨xb,3,none⟩ (.int .i64 first)).setCell ⟨xb,4,none⟩ (.slice pa segs.length pcap)) xb 162 b nm s0 first (.slice pa segs.length pcap)∧A9b w Ft xb ((wz.setCell ⟨xb,3,none⟩ (.int .i64 first)).setCell ⟨xb,4,none⟩ (.slice pa segs.length pcap)) b ⟨R2'.D,R2'.F⟩):=fun wz hx hz=>by
     obtain ⟨z1,Ft2,z2,z3,z4⟩:=hz
     have kz:Chg (One xb) wz ((wz.setCell ⟨xb,3,none⟩ (.int .i64 first)).setCell ⟨xb,4,none⟩ (.slice pa segs.length pcap)):=((Chg.refl (One xb) wz).setAt (b:=xb) rfl 3 _).setAt rfl 4 _
     have hn2:¬ Ft2 xb:=fun h=>by rcases z4 _ h with h | h;exact HN.out h;have:=HXL.out;omega
     exact ⟨(hx.s3 first).s4 _,z1.trans' kz,Ft2,A0R.frame z2 (kz.same z3 fun k hk e=>by have e':k=xb:=e;subst e';exact hn2 hk),fun k hk=>Nat.lt_of_lt_of_le (z3 k hk) kz.size,z4⟩
    have e0':=x0
    by_cases hr:R1'=0
    case neg=>
     have hrb:(R1' != 0)=true:=by simpa using hr
     go_wp2
     refine A0e (fun w'=>w'.cell? ⟨xb,0,none⟩=some (.pointer (some ⟨b,0,none⟩))∧w'.cell? ⟨xb,1,none⟩=some (.string ⟨nm.toArray⟩)∧w'.cell? ⟨db,1,none⟩=some (.string ⟨dn.toArray⟩)) 13
      [(0,true),(1,true),(2,true),(3,true),(4,true),(5,true),(6,true),(7,true),(8,true),(9,true),(10,true),(11,true),(12,false)] (by kernel_rfl) (by kernel_rfl) (fun _ _ _ _ _ h=>h) ⟨x0,x1,x2⟩ ?_
     iterate 12 (refine A0d (v:=?_) rfl (by rfl) ?_ ?_;rotate_left;(· (intro w' hS;(try dsimp only at hS);go_simp;try with_reducible rfl));(try simp only [Act.put,List.setIfInBounds_toArray,List.set_cons_zero,List.set_cons_succ,List.getElem_toArray,List.getElem_cons_zero,List.getElem_cons_succ]))
     refine A0i rfl (by rfl) (fun K hK=>?_)
     go_simp
     refine RN1.out.mono ?_
     rintro e w11 ⟨rfl,hI⟩
     obtain ⟨⟨y1,y2⟩,y3⟩:=AF.out w11 hI
     refine hK _ _ ⟨y1.c0,y1.c1,y2.c1⟩ (fun hS=>?_)
     have Y1:=A0b y1
     have Y3:=A0b y3
     clear hK K hS hI RN1 AF y1 y2 y3
     (try simp only [Act.put,List.setIfInBounds_toArray,List.set_cons_zero,List.set_cons_succ,List.getElem_toArray,List.getElem_cons_zero,List.getElem_cons_succ])
     refine A0k ?_
     simp only [List.drop_succ_cons,List.drop_zero]
     go_wp2
     go_ret
     dsimp only
     obtain ⟨r1,Ft',r2,r3,r4⟩:=Y3.out
     exact ⟨rfl,Y1.out,r1.mono fun _ _ h=>.inl h,Ft',r2,r3,r4⟩
    case pos=>
     subst hr
     go_wp2
     refine A0e (fun w'=>w'.cell? ⟨xb,0,none⟩=some (.pointer (some ⟨b,0,none⟩))∧w'.cell? ⟨xb,1,none⟩=some (.string ⟨nm.toArray⟩)∧w'.cell? ⟨db,1,none⟩=some (.string ⟨dn.toArray⟩)) 13
      [(0,true),(1,true),(2,true),(3,true),(4,true),(5,true),(6,true),(7,true),(8,true),(9,true),(10,true),(11,true),(12,false)] (by kernel_rfl) (by kernel_rfl) (fun _ _ _ _ _ h=>h) ⟨x0,x1,x2⟩ ?_
     iterate 12 (refine A0d (v:=?_) rfl (by rfl) ?_ ?_;rotate_left;(· (intro w' hS;(try dsimp only at hS);go_simp;try with_reducible rfl));(try simp only [Act.put,List.setIfInBounds_toArray,List.set_cons_zero,List.set_cons_succ,List.getElem_toArray,List.getElem_cons_zero,List.getElem_cons_succ]))
     refine A0i rfl (by rfl) (fun K hK=>?_)
     go_simp
     refine RN1.out.mono ?_
     rintro e w11 ⟨rfl,hI⟩
     obtain ⟨⟨y1,y2⟩,y3⟩:=AF.out w11 hI
     refine hK _ _ ⟨y1.c0,y1.c1,y2.c1⟩ (fun hS=>?_)
     have FIN:=A0b (HFIN.out w11 y1 y3)
     have g3:=y1.c3
     have z3:=y1.fz 3
     have g4:=(y1.s3 first).c4
     have z4:=(y1.s3 first).fz 4
     clear hK K hS hI RN1 AF y1 y2 y3 HFIN
     (try simp only [Act.put,List.setIfInBounds_toArray,List.set_cons_zero,List.set_cons_succ,List.getElem_toArray,List.getElem_cons_zero,List.getElem_cons_succ])
     refine A0k ?_
     simp only [List.drop_succ_cons,List.drop_zero]
     go_wp2
     go_ret
     exact ⟨rfl,FIN.out.1,FIN.out.2⟩
end
end Go.Proofs.YtodcnkbblippnaaGreatDoor
