/-
  The statement WritesUptoCardSaid is proved: the law Writes answers true for every setting and every script of at most 1048576 bytes; there is no other condition.
  Part 31 of 33.
-/
import Derived.Test.YtodcnkbblippnaaGreatDoorPart30
import Derived.Test.YtodcnkbblippnaaGreatDoorPart09
import Derived.Test.YtodcnkbblippnaaGreatDoorPart27
import Derived.Test.YtodcnkbblippnaaGreatDoorPart29
namespace Go.Proofs.YtodcnkbblippnaaGreatDoor
open Go.RowKit
attribute [local go_sem ↓] Go.wp_at_zero Go.wp_at_succ
theorem B3u:A1Z (A2T (fun _=>[]) (A0m 0 5) 1 2 3 1) (max 0 (A0m 0 5)) 9 = [(2,3)]:=by decide +kernel
theorem B2O {L':Nat→List Pt} (h:A3r (A2T (fun _=>[]) (A0m 0 5) 1 2 3) L' (A0m (A0M 0 7) 5)):A1Z (L' 1) (max 0 (A0m (A0M 0 7) 5)) 9 = []:=by
 rcases h 1 (by omega) with e | e
 ·rw [e];decide +kernel
 ·rw [e];decide +kernel
theorem A4g {B:Nat} (w:World) (room:Int) (b:Nat) (Ft:Nat→Prop) (h:A1A w b (A0y room) Ft) (hlt:∀ k,Ft k→k<w.heap.size) (hr:0≤room∧room≤9223372036854775807) (hE:Env B w) (life win clock:Int)
 (hl:1≤life∧life≤4611686018427387904) (hw:1≤win∧win≤4611686018427387904) (hc:A0P clock):
 Calls Tryz.prog 22 #[.pointer (some ⟨b,0,none⟩),.agg #[.int .i64 life,.int .i64 win],.int .i64 clock] w fun e w'=>
  ∃ ab sb,e=.returned (.tuple #[.pointer (some ⟨sb,0,none⟩),.int .i64 0])∧w.heap.size≤sb∧A0A w Ft w' (fun w' FT'=>SF w' sb ab b 0 life win clock false (fun _=>[]) ⟨⟨1,[]⟩,⟨[],0,0,none⟩,0,[]⟩ (A0y room) FT'):=by
 refine (B4R w life win clock hl hw hc hlt (P:=A0y room) (Ft:=Ft) (b:=b) (fun A ps h=>by rw [A4l] at h;cases h;simp) fun w1 hk=>?_).mono ?_
 ·refine B0L w1 (A0R.same h hlt hk) (fun k hk2=>Nat.lt_of_lt_of_le (hlt k hk2) hk.size) (A4T hr) ⟨by omega,by omega,by omega⟩ (by omega) (hE.1.keep0 hk) (hE.2.1.keep0 hk) (fun nm hm=>by cases hm) (fun ix hx=>?_) (fun first=>?_)
  ·rw [A7a (A4E room A0N)] at hx;cases hx;simp
  ·rw [show (A0y room).names = [] from rfl];simp [A0B,PD.puts,PD.putsK]
 ·rintro e w' (⟨n,h1,-⟩ | ⟨A,ps,ab,sb,h1,rfl,h2,h3⟩)
  ·rw [A4l] at h1;cases h1
  ·rw [A4l] at h1;cases h1
   exact ⟨ab,sb,rfl,h2,h3⟩
theorem B0R {B sb ab b:Nat} {FT:Nat→Prop} {life win clock:Int} (w:World) (room:Int) (p:Pu) (h:SF w sb ab b 0 life win clock false (fun _=>[]) ⟨⟨1,[]⟩,⟨[],0,0,none⟩,0,[]⟩ (A0y room) FT) (hFT:∀ k,FT k→k<w.heap.size) (hr:1000≤room∧room≤9223372036854775807) (hp:A4q p) (hL:A2i B w) (hLB:∀ k,FT k→B≤k)
 (hl:1≤life∧life≤4611686018427387904) (hc:A0P clock):
 Calls Tryz.prog 23 #[.pointer (some ⟨sb,0,none⟩),.int .i64 p.1,.int .i64 p.2.1,.int .i64 p.2.2] w fun e w'=>e=.returned (.int .i64 0)∧
  ∃ A' P',A0A w FT w' (fun w' FT'=>SF w' sb ab b 0 life win clock false (A2T (fun _=>[]) (A0m clock life) p.1.toNat p.2.1 p.2.2) A' P' FT'):=by
 have hcm:Cm (A0y room) (3+0+3) 33:=A8D (by omega) (by omega)
 obtain ⟨a1,a2,-,-,-⟩:=(Lay.empty (A4E room)).add (N:=3) (by simpa using hcm) (fun _=>rfl) p hp (by omega)
 have hn1:A1j (0+1)∧A0P (0+1)∧A0P 0:=⟨A2c (by omega) (by omega),by constructor <;> omega,by constructor <;> omega⟩
 refine (B4y w p h hFT hp (fun _=>hn1) (by simp) hL hLB (A4T (by omega)) ⟨by omega,by omega,by omega⟩ (fun _ _=>by simp) hl hc).mono ?_
 rintro e w' ⟨rfl,hI⟩
 rw [a2] at hI ⊢
 rw [a1] at hI
 exact ⟨rfl,_,_,hI⟩
set_option maxRecDepth 100000 in
set_option maxHeartbeats 8000000 in
theorem B2u {B:Nat} (w:World) (hE:Env B w):
 Calls Tryz.prog 15 #[] w fun e w'=>e=.returned (.bool true)∧Chg (fun _=>False) w w':=by
 have NW:Hid (Calls Tryz.prog 21 #[.int .i64 100000] w fun e w'=>∃ b,e=.returned (.pointer (some ⟨b,0,none⟩))∧A1A w' b (A0y 100000) (One w.heap.size)∧Chg (fun _=>False) w w'∧w'.heap.size=w.heap.size+1):=by
  refine (B5Y (F:=fun _=>([],0)) 100000 w).mono ?_
  rintro e w' ⟨rfl,h1,h2,h3⟩
  exact ⟨_,rfl,h1,h2,h3⟩
 have HE:=A0b hE
 clear hE
 go_enter Tryz.func15,Tryz.ntmps15
 go_wp2_with (fail)
 refine NW.out.mono ?_
 rintro e w1 ⟨b,rfl,hd1,k1,hz1⟩
 have OP:=A0b (A4g w1 100000 b (One w.heap.size) hd1 (fun k hk=>by cases hk;omega) (by omega) (HE.out.keep0 k1) 5 5 0 (by omega) (by omega) (by constructor <;> omega))
 have K1:=A0b k1
 clear NW hd1 k1
 go_wp2_with (fail)
 refine OP.out.mono ?_
 rintro e w2 ⟨ab,sb,rfl,hsb,k2,FT2,hV,hlt2,hs2⟩
 have K2:Hid (Chg (fun _=>False) w w2):=K1.out.newer k2 fun k hk=>by cases hk;omega
 have F2:Hid (∀ k,FT2 k→w.heap.size≤k):=fun k hk=>(hs2 k hk).elim (fun h=>by cases h;exact Nat.le_refl _) fun h=>Nat.le_trans K1.out.size h
 have PU:Hid (Calls Tryz.prog 23 #[.pointer (some ⟨sb,0,none⟩),.int .i64 1,.int .i64 2,.int .i64 3] w2 fun e w'=>e=.returned (.int .i64 0)∧∃ A' P',A0A w2 FT2 w' (fun w' FT'=>SF w' sb ab b 0 5 5 0 false (A2T (fun _=>[]) (A0m 0 5) 1 2 3) A' P' FT')):=
  B0R w2 100000 (1,2,3) hV hlt2 (by omega) ⟨by simp,(show A0P 2 by constructor <;> omega),(show A0P 3 by constructor <;> omega)⟩ (HE.out.keep0 K2.out).1 (fun k hk=>Nat.le_trans HE.out.1.1 (F2.out k hk)) (by omega) (by constructor <;> omega)
 clear OP hV k2 hsb hlt2 hs2 K1 hz1
 go_wp2_with (fail)
 refine PU.out.mono ?_
 rintro e w3 ⟨rfl,A3,P3,k3,FT3,hV3,hlt3,hs3⟩
 have K3:Hid (Chg (fun _=>False) w w3):=K2.out.newer k3 F2.out
 have FF3:Hid (∀ k,FT3 k→w.heap.size≤k):=fun k hk=>(hs3 k hk).elim (F2.out k) (fun h=>Nat.le_trans K2.out.size h)
 obtain ⟨lv3,F03,hv3,hsub3⟩:=hV3
 have QU:Hid (Calls Tryz.prog 37 #[.pointer (some ⟨sb,0,none⟩),.int .i64 1,.int .i64 0,.int .i64 9] w3 fun e w'=>∃ v,e=.returned (.tuple #[v,.int .i64 0])∧A2r w' v [(2,3)]∧Chg (fun _=>False) w3 w'∧∀ g,v.ownBlock=some g→w3.heap.size≤g):=by
  have:=A5v w3 1 0 9 hv3.blk hv3.rows (by omega) (by omega) (by constructor <;> omega)
  rw [B3u] at this
  exact this
 have HV3:=A0b hv3
 have HS3:=A0b hsub3
 have HL3:=A0b hlt3
 clear PU k3 hs3 K2 F2 hv3 hsub3 hlt3
 go_wp2_with (fail)
 refine QU.out.mono ?_
 rintro e w4 ⟨v,rfl,hv,k4,hfr⟩
 obtain ⟨ad,cap,rfl,-,-,hg,-,-⟩:=A0g hv
 obtain ⟨g,rfl⟩:=hg (by decide)
 have V4:=A0b (HV3.out.chg0 k4)
 have K4:Hid (Chg (fun _=>False) w w4):=K3.out.trans k4 fun _ h _=>h
 have HV:=A0b hv
 have NG:Hid (¬ FT3 g):=fun hx=>by have:=HL3.out g hx;have:=hfr g rfl;omega
 have TI:=A0b (B2v w4 7 V4.out.blk V4.out.rows (by omega) (by omega) (by constructor <;> omega))
 clear QU hv k4 hfr K3 HV3
 go_wp2_with (fail)
 refine TI.out.mono ?_
 rintro e w5 ⟨rfl,lv5,L5,hS,hF⟩
 obtain ⟨k5,FT6,⟨lv6,F06,V6,-⟩,-,s6⟩:=V4.out.turnInto HS3.out hS
 have K5:Hid (Chg (fun _=>False) w w5):=K4.out.newer k5 FF3.out
 have HV5:Hid (A2r w5 (.slice (some ⟨g,0,none⟩) 1 cap) [(2,3)]):=A0a HV.out fun x hx=>k5.block x (A0c HV.out hx) (by simp [Value.ownBlock] at hx;subst hx;exact NG.out)
 have Q2:Hid (Calls Tryz.prog 37 #[.pointer (some ⟨sb,0,none⟩),.int .i64 1,.int .i64 0,.int .i64 9] w5 fun e w'=>∃ v,e=.returned (.tuple #[v,.int .i64 0])∧A2r w' v []∧Chg (fun _=>False) w5 w'∧∀ g,v.ownBlock=some g→w5.heap.size≤g):=by
  have hcl:A0P (A0M 0 7):=A3n (by constructor <;> omega) (by omega) (by omega)
  have:=A5v w5 1 0 9 V6.blk V6.rows (by omega) (by omega) hcl
  rw [B2O hF] at this
  exact this
 clear TI hS hF k5 V6 s6 V4 K4 HV NG FF3
 go_wp2_with (fail)
 refine Q2.out.mono ?_
 rintro e w6 ⟨v,rfl,hv,k6,hfr⟩
 obtain ⟨ad,cap2,rfl,-⟩:=A0g hv
 have hv6:A2r w6 (.slice (some ⟨g,0,none⟩) 1 cap) [(2,3)]:=A0a HV5.out fun x hx=>k6.block x (A0c HV5.out hx) (fun h=>h)
 obtain ⟨t0,t1⟩:=hv6.cells 0 (by decide)
 have K6:Hid (Chg (fun _=>False) w w6):=K5.out.trans k6 fun _ h _=>h
 clear Q2 hv k6 hfr HV5 K5 hv6
 simp only [List.getElem_cons_zero] at t0 t1
 go_wp2
 go_ret
 exact ⟨rfl,K6.out⟩
end Go.Proofs.YtodcnkbblippnaaGreatDoor
namespace Go.Proofs.YtodcnkbblippnaaGreatDoor
open Go.RowKit
attribute [local go_sem ↓] Go.wp_at_zero Go.wp_at_succ
def B4I (w:World) (g o n:Nat):Prop:=∀ i,i<n→∃ kd a b c tv,A0P a∧A0P b∧A0P c∧w.cell? ⟨g,o+i*5,none⟩=some (.int .i64 kd)∧w.cell? ⟨g,o+i*5+1,none⟩=some (.int .i64 a)∧w.cell? ⟨g,o+i*5+2,none⟩=some (.int .i64 b)∧w.cell? ⟨g,o+i*5+3,none⟩=some (.int .i64 c)∧w.cell? ⟨g,o+i*5+4,none⟩=some tv
end Go.Proofs.YtodcnkbblippnaaGreatDoor
namespace Go.Proofs.YtodcnkbblippnaaGreatDoor
open Go.ChangeShapes Go.WideShapes Go.ChangeAt Go.RowKit
set_option maxRecDepth 100000
theorem Tryz.cellsOp:Tryz.prog.cellsOf 34=5:=by kernel_rfl
theorem Tryz.cellsSet:Tryz.prog.cellsOf 23=4:=by kernel_rfl
theorem B4h {W:World} (h:laidMetH Tryz.prog Rows.writesUptoRow.laid W):Env W.heap.size W:=by
 have hL:=B1G h
 have hE:=B2X h
 obtain ⟨⟨e1,a1,b1⟩,e2,a2,b2⟩:=hE
 exact ⟨hL,⟨⟨e1,a1,b1⟩,e2,a2,b2⟩,World.block_lt_of_cell? W _ a1,World.block_lt_of_cell? W _ a2⟩
theorem B3o {H:Type} (l:List (DataW H)):l.length≤Rows.uptoBulkAll l:=by
 induction l with
 | nil=>simp
 | cons x r ih=>
  have:1≤Rows.uptoBulk x:=by
   cases x with
   | lit l=>cases l <;> simp [Rows.uptoBulk]
   | nil=>simp [Rows.uptoBulk]
   | ptr d=>simp [Rows.uptoBulk]
   | slice elems spare=>simp [Rows.uptoBulk]
   | agg parts=>simp [Rows.uptoBulk]
   | iface t d=>simp [Rows.uptoBulk]
   | map entries=>simp [Rows.uptoBulk]
   | held h=>simp [Rows.uptoBulk]
  simp only [Rows.uptoBulkAll,List.length_cons];omega
section
variable {H:Type} {enc:TypeId × Value→H} {W:World} {sp:Nat→Bool} {fuel:Nat}
theorem B3X (l:List (DataW H)) (h:∀ x∈l,6≤Rows.uptoBulk x):l.length*6≤Rows.uptoBulkAll l:=by
 induction l with
 | nil=>simp
 | cons x r ih=>
  have h1:=h x (List.mem_cons_self ..)
  have h2:=ih fun y hy=>h y (List.mem_cons_of_mem _ hy)
  simp only [Rows.uptoBulkAll,List.length_cons];omega
theorem B0g {cs:List Value} {x:DataW H × List MemPlace} (h:DataW.trod enc Tryz.prog W 0 sp true fuel 34 cs=some x):
 ∃ kd a b c tv,cs = [.int .i64 kd,.int .i64 a,.int .i64 b,.int .i64 c,tv]∧A0P a∧A0P b∧A0P c∧6≤Rows.uptoBulk x.1:=by
 obtain ⟨xs,n,rfl,hxv,hl,hx,hf⟩:=DataW.trod_struct Tryz.underlying34 h
 rw [Tryz.cellsOp] at hl
 have hx5:xs.length=5:=hx
 have hbulk:6≤Rows.uptoBulk x.1:=by
  have h5:=B3o (xs.map (·.1))
  rw [List.length_map] at h5
  rw [hxv]
  simp only [Rows.uptoBulk];omega
 match cs,hl with
 | [c0,c1,c2,c3,c4],_=>
 have f0:DataW.trod enc Tryz.prog W 0 sp true n 3 (([c0,c1,c2,c3,c4].drop 0).take (Tryz.prog.cellsOf 3))=xs[0]?:=hf 0 _ rfl
 have f1:DataW.trod enc Tryz.prog W 0 sp true n 3 (([c0,c1,c2,c3,c4].drop 1).take (Tryz.prog.cellsOf 3))=xs[1]?:=hf 1 _ rfl
 have f2:DataW.trod enc Tryz.prog W 0 sp true n 3 (([c0,c1,c2,c3,c4].drop 2).take (Tryz.prog.cellsOf 3))=xs[2]?:=hf 2 _ rfl
 have f3:DataW.trod enc Tryz.prog W 0 sp true n 3 (([c0,c1,c2,c3,c4].drop 3).take (Tryz.prog.cellsOf 3))=xs[3]?:=hf 3 _ rfl
 rw [Tryz.cellsInt] at f0 f1 f2 f3
 rw [List.getElem?_eq_getElem (by omega)] at f0 f1 f2 f3
 obtain ⟨kd,e0,-,-⟩:=DataW.trod_int Tryz.underlying3 f0
 obtain ⟨a,e1,-,w1⟩:=DataW.trod_int Tryz.underlying3 f1
 obtain ⟨b,e2,-,w2⟩:=DataW.trod_int Tryz.underlying3 f2
 obtain ⟨c,e3,-,w3⟩:=DataW.trod_int Tryz.underlying3 f3
 obtain rfl:c0=.int .i64 kd:=(List.cons.inj (show [c0] = [.int .i64 kd] from e0)).1
 obtain rfl:c1=.int .i64 a:=(List.cons.inj (show [c1] = [.int .i64 a] from e1)).1
 obtain rfl:c2=.int .i64 b:=(List.cons.inj (show [c2] = [.int .i64 b] from e2)).1
 obtain rfl:c3=.int .i64 c:=(List.cons.inj (show [c3] = [.int .i64 c] from e3)).1
 exact ⟨kd,a,b,c,c4,rfl,A7z w1,A7z w2,A7z w3,hbulk⟩
theorem B1t {cs:List Value} {x:DataW H × List MemPlace} (h:DataW.trod enc Tryz.prog W 0 sp true fuel 23 cs=some x):
 ∃ life window room clock,cs = [.int .i64 life,.int .i64 window,.int .i64 room,.int .i64 clock]∧A0P clock:=by
 obtain ⟨xs,n,rfl,-,hl,hx,hf⟩:=DataW.trod_struct Tryz.underlying23 h
 rw [Tryz.cellsSet] at hl
 have hx4:xs.length=4:=hx
 match cs,hl with
 | [c0,c1,c2,c3],_=>
 have f0:DataW.trod enc Tryz.prog W 0 sp true n 3 (([c0,c1,c2,c3].drop 0).take (Tryz.prog.cellsOf 3))=xs[0]?:=hf 0 _ rfl
 have f1:DataW.trod enc Tryz.prog W 0 sp true n 3 (([c0,c1,c2,c3].drop 1).take (Tryz.prog.cellsOf 3))=xs[1]?:=hf 1 _ rfl
 have f2:DataW.trod enc Tryz.prog W 0 sp true n 3 (([c0,c1,c2,c3].drop 2).take (Tryz.prog.cellsOf 3))=xs[2]?:=hf 2 _ rfl
 have f3:DataW.trod enc Tryz.prog W 0 sp true n 3 (([c0,c1,c2,c3].drop 3).take (Tryz.prog.cellsOf 3))=xs[3]?:=hf 3 _ rfl
 rw [Tryz.cellsInt] at f0 f1 f2 f3
 rw [List.getElem?_eq_getElem (by omega)] at f0 f1 f2 f3
 obtain ⟨a,e0,-,-⟩:=DataW.trod_int Tryz.underlying3 f0
 obtain ⟨b,e1,-,w1⟩:=DataW.trod_int Tryz.underlying3 f1
 obtain ⟨c,e2,-,w2⟩:=DataW.trod_int Tryz.underlying3 f2
 obtain ⟨d,e3,-,w3⟩:=DataW.trod_int Tryz.underlying3 f3
 obtain rfl:c0=.int .i64 a:=(List.cons.inj (show [c0] = [.int .i64 a] from e0)).1
 obtain rfl:c1=.int .i64 b:=(List.cons.inj (show [c1] = [.int .i64 b] from e1)).1
 obtain rfl:c2=.int .i64 c:=(List.cons.inj (show [c2] = [.int .i64 c] from e2)).1
 obtain rfl:c3=.int .i64 d:=(List.cons.inj (show [c3] = [.int .i64 d] from e3)).1
 exact ⟨a,b,c,d,rfl,A7z w3⟩
theorem B2I {v:Value} {d:DataW H} {ps:List MemPlace} (hv:∃ a len cap,v=.slice a len cap) (h:DataW.Trod enc Tryz.prog W 0 (fun _=>true) true 24 v d ps) (hd:Rows.uptoBulk d≤1048576):
 ∃ g o n cap,B4I W g o n∧n≤180000∧(n≠0→g<W.heap.size)∧(v=.slice (some ⟨g,o,none⟩) n cap∨(n=0∧∃ x,v=.slice x 0 cap)):=by
 obtain ⟨ad,ln,cp,rfl⟩:=hv
 obtain ⟨fuel,h⟩:=h
 rcases Deep.open_slice Tryz.underlying24 h with ⟨hcs,-⟩ | ⟨a,len,cap,m,n,E,Pl,hcs,-,hlc,-,hm,hx,hel⟩
 ·simp [Value.cells] at hcs
  obtain ⟨rfl,rfl,rfl⟩:=hcs
  exact ⟨0,0,0,0,fun i hi=>absurd hi (Nat.not_lt_zero _),by decide,fun h=>absurd rfl h,.inr ⟨rfl,none,rfl⟩⟩
 ·simp [Value.cells] at hcs
  obtain ⟨rfl,rfl,rfl⟩:=hcs
  rw [Tryz.cellsOp] at hel
  have hdl:ln≤180000:=by
   have e:d=.slice ((List.range ln).map E) ((List.range (m - ln)).map fun j=>E (ln+j)):=congrArg Prod.fst hx
   rw [e] at hd
   simp only [Rows.uptoBulk] at hd
   have:=B3X ((List.range ln).map E) fun x hx=>by
    obtain ⟨i,hi,rfl⟩:=List.mem_map.1 hx
    have hi':=List.mem_range.1 hi
    obtain ⟨cs',hc,ht⟩:=hel i (by rw [hm];split <;> omega)
    obtain ⟨_,_,_,_,_,-,-,-,-,h6⟩:=B0g ht
    exact h6
   simp only [List.length_map,List.length_range] at this
   omega
  by_cases h0:ln=0
  ·subst h0
   exact ⟨0,0,0,cp,fun i hi=>absurd hi (Nat.not_lt_zero _),by decide,fun h=>absurd rfl h,.inr ⟨rfl,some a,rfl⟩⟩
  ·have key:∀ i,i<ln→∃ kd x y z tv,A0P x∧A0P y∧A0P z∧W.cell? ((a.add (i*5)).add 0)=some (.int .i64 kd)∧W.cell? ((a.add (i*5)).add 1)=some (.int .i64 x)∧W.cell? ((a.add (i*5)).add 2)=some (.int .i64 y)∧W.cell? ((a.add (i*5)).add 3)=some (.int .i64 z)∧W.cell? ((a.add (i*5)).add 4)=some tv:=fun i hi=>by
    obtain ⟨cs',hc,ht⟩:=hel i (by rw [hm];split <;> omega)
    obtain ⟨-,-,hcell⟩:=World.cells?_some hc
    obtain ⟨kd,x,y,z,tv,rfl,ix,iy,iz,-⟩:=B0g ht
    exact ⟨kd,x,y,z,tv,ix,iy,iz,hcell 0 (by decide),hcell 1 (by decide),hcell 2 (by decide),hcell 3 (by decide),hcell 4 (by decide)⟩
   obtain ⟨g,o,spot⟩:=a
   obtain ⟨kd,_,_,_,_,-,-,-,k0,-⟩:=key 0 (by omega)
   have hsp:spot=none:=by
    cases spot with
    | none=>rfl
    | some s=>
     simp [Addr.add,World.cell?] at k0
     split at k0 <;> cases k0
   subst hsp
   have hg:g<W.heap.size:=by
    have:=World.block_lt_of_cell? W _ k0
    simpa [Addr.add] using this
   refine ⟨g,o,ln,cp,fun i hi=>?_,hdl,fun _=>hg,.inl rfl⟩
   obtain ⟨kd,x,y,z,tv,ix,iy,iz,s0,s1,s2,s3,s4⟩:=key i hi
   have ha:∀ j,((⟨g,o,none⟩:Addr).add (i*5)).add j=⟨g,o+i*5+j,none⟩:=fun j=>by
    unfold Addr.add
    by_cases h1:i*5=0 <;> by_cases h2:j=0 <;> simp [h1,h2]
   rw [ha] at s0 s1 s2 s3 s4
   exact ⟨kd,x,y,z,tv,ix,iy,iz,s0,s1,s2,s3,s4⟩
end
end Go.Proofs.YtodcnkbblippnaaGreatDoor
namespace Go.Proofs.YtodcnkbblippnaaGreatDoor
structure A3j (t:Nat) (A:Ar) (P:PD) (ol:Option (List Pu)):Prop where
 lay:Lay P A [] [] ol
 cm:Cm P (700000 - 3*t) (33*(200100 - t))
 fit:Fit P (1+t) (1+t) (1+33*t)
 loose:A.loose = []
 jlast:A.j.last≤t
 last:A.last=0
section
variable {t:Nat} {A:Ar} {P:PD} {ol:Option (List Pu)}
theorem A3j.num (h:A3j t A P ol) (ht:t≤200000):A0W (A.j.last+1)=true:=by
 have h1:=h.jlast
 have h2:=h.lay.jlast.1
 unfold A0W;simp;omega
theorem A3j.logs (h:A3j t A P ol):A.j.logs.length≤1:=by
 rw [h.lay.logNums]
 cases ol <;> simp [B5R]
theorem A3j.puts (h:A3j t A P ol):A.j.puts=0:=by
 have:=h.lay.ahead
 simpa [A2l] using this
theorem A3j.mono {t':Nat} (h:A3j t A P ol) (ht:t≤t') (hm:t'≤200000):A3j t' A P ol:=
 ⟨h.lay,h.cm.mono (by omega) (by omega),h.fit.mono (by omega) (by omega) (by omega),h.loose,by have:=h.jlast;omega,h.last⟩
theorem A3j.add (h:A3j t A P ol) (ht:t+1≤200000) (p:Pu) (hp:A4q p):
 (A.add P p).1=true∧(A.add P p).2.1=0∧A3j (t+1) (A.add P p).2.2.1 (A.add P p).2.2.2 (some (ol.getD [] ++ [p])):=by
 have hl:A.loose.length=0:=by rw [h.loose];rfl
 obtain ⟨a1,a2,a3,a4,a5⟩:=h.lay.add (N:=700000 - 3*(t+1)) (R:=33*(200100 - t)) (h.cm.mono (by omega) (Nat.le_refl _)) (fun _=>h.num (by omega)) p hp (by omega)
 obtain ⟨s1,s2⟩:=B1x A P p
 refine ⟨a1,a2,a4,a3.mono (Nat.le_refl _) (by omega),(h.fit.arAdd p).mono (by omega) (by omega) (by omega),a5,?_,s1.trans h.last⟩
 have:=h.jlast
 rcases s2 with e | e <;> (rw [e];omega)
end
end Go.Proofs.YtodcnkbblippnaaGreatDoor
namespace Go.Proofs.YtodcnkbblippnaaGreatDoor
open Go.RowKit
attribute [local go_sem ↓] Go.wp_at_zero Go.wp_at_succ
theorem A5a {room:Int} (h:7000000≤room∧room≤9223372036854775807):A3j 0 ⟨⟨1,[]⟩,⟨[],0,0,none⟩,0,[]⟩ (A0y room) none:=
 ⟨Lay.empty (A4E room),A8D (by omega) (by omega),A4T (by omega),rfl,Int.le_refl _,rfl⟩
def B0S (t M sb ab b:Nat) (life win clock:Int):B3Z:=fun w FT=>∃ L A P ol,SF w sb ab b 0 life win clock false L A P FT∧A3j t A P ol∧(∀ k,k<8→(L k).length≤t)∧(Option.getD ol []).length≤M∧∀ p∈Option.getD ol [],A4q p
section
variable {w:World} {t M N B sb ab b:Nat} {life win clock:Int} {FT:Nat→Prop} {L:Nat→List Pt} {A:Ar} {P:PD} {ol:Option (List Pu)}
theorem B5r (w:World) (p:Pu) (h:SF w sb ab b 0 life win clock false L A P FT) (hFT:∀ k,FT k→k<w.heap.size) (hQ:A3j t A P ol) (ht:t+1≤200000) (hp:A4q p) (hL:A2i B w) (hLB:∀ k,FT k→B≤k) (hsm:∀ k,k<8→(L k).length≤t) (hl:1≤life∧life≤4611686018427387904) (hc:A0P clock):
 Calls Tryz.prog 23 #[.pointer (some ⟨sb,0,none⟩),.int .i64 p.1,.int .i64 p.2.1,.int .i64 p.2.2] w fun e w'=>e=.returned (.int .i64 0)∧
  A0A w FT w' (fun w' FT'=>SF w' sb ab b 0 life win clock false (A2T L (A0m clock life) p.1.toNat p.2.1 p.2.2) (A.add P p).2.2.1 (A.add P p).2.2.2 FT'):=by
 obtain ⟨a1,a2,-⟩:=hQ.add ht p hp
 have hj:=hQ.jlast
 have hj0:=hQ.lay.jlast.1
 have hpz:=hQ.puts
 have hlg:=hQ.logs
 refine (B4y w p h hFT hp (fun _=>⟨A2c (by omega) (by omega),by constructor <;> omega,by rw [hpz];constructor <;> omega⟩) (by omega) hL hLB hQ.fit ⟨by omega,by omega,by omega⟩ (fun k hk=>by have:=hsm k hk;omega) hl hc).mono ?_
 rintro e w' ⟨rfl,hI⟩
 rw [a2] at hI ⊢
 rw [a1] at hI
 exact ⟨rfl,hI⟩
theorem B1E (w:World) (p:Pu) (h:B0S t M sb ab b life win clock w FT) (hFT:∀ k,FT k→k<w.heap.size) (ht:t+1≤200000) (hp:A4q p) (hL:A2i B w) (hLB:∀ k,FT k→B≤k) (hl:1≤life∧life≤4611686018427387904) (hc:A0P clock):
 Calls Tryz.prog 23 #[.pointer (some ⟨sb,0,none⟩),.int .i64 p.1,.int .i64 p.2.1,.int .i64 p.2.2] w fun e w'=>(∃ c,e=.returned (.int .i64 c))∧A0A w FT w' (B0S (t+1) (M+1) sb ab b life win clock):=by
 obtain ⟨L,A,P,ol,h1,h2,h3,h4,h5⟩:=h
 refine (B5r w p h1 hFT h2 ht hp hL hLB h3 hl hc).mono ?_
 rintro e w' ⟨rfl,hI⟩
 refine ⟨⟨_,rfl⟩,hI.some fun F h6=>⟨_,_,_,_,h6,(h2.add ht p hp).2.2,fun k hk=>?_,?_,?_⟩⟩
 ·have:=A5E L (A0m clock life) p.1.toNat p.2.1 p.2.2 k
  have:=h3 k hk
  omega
 ·simp;omega
 ·intro x hx
  rcases List.mem_append.1 hx with hx | hx
  ·exact h5 x hx
  ·simp at hx;subst hx;exact hp
theorem A9q (hSo:A4v N) (hN:N≤200000) (w:World) (h:B0S t M sb ab b life win clock w FT) (hFT:∀ k,FT k→k<w.heap.size) (ht:t+1≤200000) (hM:M≤N) (hw:1≤win∧win≤4611686018427387904) (hL:A2i B w) (hLB:∀ k,FT k→B≤k):
 Calls Tryz.prog 24 #[.pointer (some ⟨sb,0,none⟩)] w fun e w'=>(∃ c,e=.returned (.int .i64 c))∧A0A w FT w' (fun _ _=>True):=by
 obtain ⟨L,A,P,ol,h1,h2,h3,h4,h5⟩:=h
 have hj:=h2.jlast
 have hj0:=h2.lay.jlast.1
 have hlg:=h2.logs
 have hs:=h2.last
 have hp:=h2.lay.puts (by simp [A2l])
 have hsg:A.ix.segs.length=0:=by rw [← h2.lay.segs];rfl
 have hpl:(A2l ([]:List (Int × List Pu)) ++ ol.getD []).length≤M:=by simpa [A2l] using h4
 refine (B4u w (A.flush P win).1 h1 hFT hL hLB (A':=(A.flush P win).2.1) (P':=(A.flush P win).2.2) fun w1 F0 hA h0 hL1 hB1=>?_).mono ?_
 ·exact A8M hSo (by omega) w1 hA h0 win hw (by rw [hp];dsimp only;omega) (by rw [hp];exact h2.lay.clPu) ⟨by omega,by omega⟩ (by constructor <;> omega) (fun x hx=>B4g (h2.lay.ixok.segs x hx)) h2.fit ⟨by omega,by omega,by omega⟩
   (B1W (a:=200001) (b:=6600001) (by omega) (by omega) (by decide)) (by omega) (fun n hn=>A3e (h2.lay.ixok.segs n hn)) (B2A h2.lay) (by omega) hL1 hB1
 ·rintro e w' ⟨rfl,hI⟩
  exact ⟨⟨_,rfl⟩,hI.some fun _ _=>trivial⟩
end
theorem A6a {room:Int}:B2q (A0y room).D (A0y room).F:=by
 refine ⟨1,by omega,fun f hf=>absurd hf (A3Q f),by simp [A0y],by simp [A0y],?_,by simp [A0y],fun f hf=>absurd hf (A3Q f)⟩
 intro l hl;simp [A0y] at hl
section
variable {wb b t N B:Nat} {n:WN} {room:Int} {Ft:Nat→Prop} {life window clock:Int}
set_option maxRecDepth 100000 in
set_option maxHeartbeats 4000000 in
theorem B5i (hSo:A4v N) (hN:N≤200000) (w:World) (h:A1b w wb n) (hdv:n.dv=.pointer (some ⟨b,0,none⟩)) (hck:n.clock=clock) (hd:A1A w b (A0y room) Ft) (hlt:∀ k,Ft k→k<w.heap.size)
 (hroom:7000000≤room∧room≤9223372036854775807) (h2N:2≤N)
 (hE:Env B w) (hl:1≤life∧life≤4611686018427387904) (hw:1≤window∧window≤4611686018427387904) (hc:A0P clock):
 Calls Tryz.prog 46 #[.pointer (some ⟨wb,0,none⟩),.agg #[.int .i64 life,.int .i64 window]] w fun e w'=>e=.returned (.tuple #[])∧Chg (fun _=>False) w w':=by
 have hA:=(Chg.refl (fun _=>False) w).alloc (.cells #[.int .i64 life,.int .i64 window] 48)
 have hbx:=heap_alloc_new w (.cells #[.int .i64 life,.int .i64 window] 48)
 have hz0:(w.alloc (.cells #[.int .i64 life,.int .i64 window] 48)).heap.size=w.heap.size+1:=by simp
 generalize hw0:(w.alloc (.cells #[.int .i64 life,.int .i64 window] 48))=w0 at hA hbx hz0
 have HZ0:Hid (w.heap.size<w0.heap.size∧wb<w0.heap.size):=⟨by omega,by have:=h.lt;omega⟩
 clear hz0
 have q0:w0.cell? ⟨w.heap.size,0,none⟩=some (.int .i64 life):=by simp only [World.cell?,hbx];rfl
 have q1:w0.cell? ⟨w.heap.size,1,none⟩=some (.int .i64 window):=by simp only [World.cell?,hbx];rfl
 have c4:=(h.chg0 hA).c4
 rw [hdv] at c4
 have CP:=A0b (B5m (A0R.same hd hlt hA) A6a)
 have H:=A0b h
 have HE:=A0b hE
 have HA:=A0b hA
 have OPN:Hid (∀ (w3:World) (b2:Nat) (Ft4:Nat→Prop),A1A w3 b2 (A0y room) Ft4→(∀ k,Ft4 k→k<w3.heap.size)→Env B w3→Calls Tryz.prog 22 #[.pointer (some ⟨b2,0,none⟩),.agg #[.int .i64 life,.int .i64 window],.int .i64 clock] w3 fun e w'=>
  ∃ ab sb,e=.returned (.tuple #[.pointer (some ⟨sb,0,none⟩),.int .i64 0])∧w3.heap.size≤sb∧A0A w3 Ft4 w' (B0S 0 0 sb ab b2 life window clock)):=fun w3 b2 Ft4 g1 g2 g3=>by
  refine (A4g w3 room b2 Ft4 g1 g2 (by omega) g3 life window clock hl hw hc).mono ?_
  rintro e w' ⟨ab,sb,rfl,k1,k5⟩
  exact ⟨ab,sb,rfl,k1,k5.some fun F k6=>⟨_,_,_,none,k6,A5a hroom,fun _ _=>Nat.le_refl _,Nat.le_refl _,fun p hp=>by cases hp⟩⟩
 have PUT:Hid (∀ (w4:World) (sb ab b2 t' M:Nat) (FT:Nat→Prop) (p:Pu),A4q p→t'+1≤200000→B0S t' M sb ab b2 life window clock w4 FT→(∀ k,FT k→k<w4.heap.size)→A2i B w4→(∀ k,FT k→B≤k)→
  Calls Tryz.prog 23 #[.pointer (some ⟨sb,0,none⟩),.int .i64 p.1,.int .i64 p.2.1,.int .i64 p.2.2] w4 fun e w'=>(∃ c,e=.returned (.int .i64 c))∧A0A w4 FT w' (B0S (t'+1) (M+1) sb ab b2 life window clock)):=fun w4 sb ab b2 t' M FT p g1 g2 g3 g4 g5 g6=>B1E w4 p g3 g4 g2 g1 g5 g6 hl hc
 have hpa:A4q ((0:Int),clock,(4626322:Int)):=⟨⟨by simp,by simp⟩,hc,(show A0P 4626322 from ⟨by decide,by decide⟩)⟩
 have hpb:A4q ((7:Int),(0:Int),(4626322:Int)):=⟨⟨by simp,by simp⟩,(show A0P 0 from ⟨by decide,by decide⟩),(show A0P 4626322 from ⟨by decide,by decide⟩)⟩
 have HPA:=A0b hpa
 have HPB:=A0b hpb
 have HQN:=A0b h2N
 have HHN:=A0b hN
 have HWI:=A0b hw
 clear h hd hlt hA hbx hE hpa hpb hroom h2N hN hw hl hc
 go_enter Tryz.func46,Tryz.ntmps46
 go_wp2_with (first
  | (go_at_call 47;refine CP.out.mono ?_;rintro e w1 ⟨b2,Ft2,rfl,hd2,hft2,hc2⟩;have HD2:=A0b hd2;have HFT2:=A0b hft2;have HC2:=A0b hc2;clear hd2 hft2 hc2)
  | (go_at_call 35;refine (B6c HD2.out 0).mono ?_;rintro e w2 ⟨rfl,hc3,Ft3,hd3,hl3,hs3⟩
     have HD3:=A0b hd3
     have HF3:Hid (∀ k,Ft3 k→w0.heap.size≤k∧k<w2.heap.size):=fun k hk=>⟨(hs3 k hk).elim (fun h=>(HFT2.out k h).1) (fun h=>Nat.le_trans HC2.out.size h),hl3 k hk⟩
     have HC3:Hid (Chg (fun _=>False) w0 w2):=HC2.out.newer hc3 (fun x hx=>(HFT2.out x hx).1)
     clear hc3 hd3 hl3 hs3)
  | (go_at_call 78;refine (B5S HD3.out 0 0).mono ?_;rintro e w3 ⟨rfl,hc4,Ft4,hd4,hl4,hs4⟩
     have HD4:Hid (A1A w3 b2 (A0y room) Ft4):=hd4
     have HF4:Hid (∀ k,Ft4 k→w0.heap.size≤k∧k<w3.heap.size):=fun k hk=>⟨(hs4 k hk).elim (fun h=>(HF3.out k h).1) (fun h=>Nat.le_trans HC3.out.size h),hl4 k hk⟩
     have HC4:Hid (Chg (fun _=>False) w0 w3):=HC3.out.newer hc4 (fun x hx=>(HF3.out x hx).1)
     clear hc4 hd4 hl4 hs4))
 clear CP HD2 HFT2 HC2 HD3 HF3 HC3
 have d0:=HC4.out.cellKeep q0
 have d1:=HC4.out.cellKeep q1
 have d10:=(H.out.chg0 (HA.out.trans HC4.out fun _ h _=>h)).c10
 rw [hck] at d10
 have hd5:A1A w3.drew b2 (A0y room) Ft4:=A0R.same HD4.out (fun k hk=>(HF4.out k hk).2) (Chg.refl (fun _=>False) w3).drew
 have OP:=A0b (OPN.out w3.drew b2 Ft4 hd5 (fun k hk=>(HF4.out k hk).2) ((HE.out.keep0 HA.out).keep0 (HC4.out.trans (Chg.refl (fun _=>False) w3).drew fun _ h _=>h)))
 clear q0 q1 c4 OPN hd5 HD4
 refine A0e (fun w'=>w'.cell? ⟨w.heap.size,0,none⟩=some (.int .i64 life)∧w'.cell? ⟨w.heap.size,1,none⟩=some (.int .i64 window)∧w'.cell? ⟨wb,10,none⟩=some (.int .i64 clock)) 11
  [(0,true),(1,true),(2,true),(3,true),(4,true),(5,true),(6,false),(7,true),(8,true),(9,true),(10,true)] (by kernel_rfl) (by kernel_rfl) (fun _ _ _ _ _ h=>h) ⟨d0,d1,d10⟩ ?_
 iterate 6 (refine A0d (v:=?_) rfl (by rfl) ?_ ?_;rotate_left;(· (intro w' hS;(try dsimp only at hS);go_simp;try with_reducible rfl));(try simp only [Act.put,List.setIfInBounds_toArray,List.set_cons_zero,List.set_cons_succ,List.getElem_toArray,List.getElem_cons_zero,List.getElem_cons_succ]))
 refine A0i rfl (by rfl) (fun K hK=>?_)
 go_simp
 refine OP.out.mono ?_
 rintro e w4 ⟨ab,sb,rfl,hsb,hI⟩
 have hEB:B≤w0.heap.size:=Nat.le_trans HE.out.1.1 HA.out.size
 have HF5:Hid (∀ k,Ft4 k→w0.heap.size≤k):=fun k hk=>(HF4.out k hk).1
 obtain ⟨hc5,FT5,hV5,hlt5,hs5⟩:=hI
 have HG5:Hid (∀ k,FT5 k→w0.heap.size≤k):=fun k hk=>(hs5 k hk).elim (HF5.out k) fun h=>Nat.le_trans HC4.out.size h
 have HC5:Hid (Chg (fun _=>False) w0 w4):=(HC4.out.trans (Chg.refl (fun _=>False) w3).drew fun _ h _=>h).newer hc5 HF5.out
 have ff:∀ x,x<w0.heap.size→¬ Ft4 x:=fun x hx hk=>by have:=HF5.out x hk;omega
 have x0:=A0E hc5 d0 (ff _ HZ0.out.1)
 have x1:=A0E hc5 d1 (ff _ HZ0.out.1)
 have x10:=A0E hc5 d10 (ff _ HZ0.out.2)
 refine hK _ _ ⟨x0,x1,x10⟩ (fun hS=>?_)
 have HE5:Hid (Env B w4):=(HE.out.keep0 HA.out).keep0 HC5.out
 have P1:=A0b (PUT.out w4 sb ab b2 0 0 FT5 _ HPA.out (by omega) hV5 hlt5 HE5.out.1 fun k hk=>Nat.le_trans hEB (HG5.out k hk))
 clear hK K hS hsb hc5 hV5 hlt5 hs5 OP d0 d1 d10 ff x0 x1
 (try simp only [Act.put,List.setIfInBounds_toArray,List.set_cons_zero,List.set_cons_succ,List.getElem_toArray,List.getElem_cons_zero,List.getElem_cons_succ])
 iterate 4 (refine A0d (v:=?_) rfl (by rfl) ?_ ?_;rotate_left;(· (intro w' hS;(try dsimp only at hS);go_simp;try with_reducible rfl));(try simp only [Act.put,List.setIfInBounds_toArray,List.set_cons_zero,List.set_cons_succ,List.getElem_toArray,List.getElem_cons_zero,List.getElem_cons_succ]))
 refine A0k ?_
 simp only [List.drop_succ_cons,List.drop_zero]
 go_wp2_with (fail)
 refine P1.out.mono ?_
 rintro e w5 ⟨⟨c1,rfl⟩,hc6,FT6,hV6,hlt6,hs6⟩
 have HG6:Hid (∀ k,FT6 k→w0.heap.size≤k):=fun k hk=>(hs6 k hk).elim (HG5.out k) fun h=>Nat.le_trans HC5.out.size h
 have HC6:Hid (Chg (fun _=>False) w0 w5):=HC5.out.newer hc6 HG5.out
 have HE6:Hid (Env B w5):=(HE.out.keep0 HA.out).keep0 HC6.out
 have P2:=A0b (PUT.out w5 sb ab b2 1 1 FT6 _ HPB.out (by omega) hV6 hlt6 HE6.out.1 fun k hk=>Nat.le_trans hEB (HG6.out k hk))
 clear P1 hc6 hV6 hlt6 hs6 HE5 HC5 PUT x10 HF5 HF4 HC4
 go_wp2_with (fail)
 refine P2.out.mono ?_
 rintro e w6 ⟨⟨c2,rfl⟩,hc7,FT7,hV7,hlt7,hs7⟩
 have HG7:Hid (∀ k,FT7 k→w0.heap.size≤k):=fun k hk=>(hs7 k hk).elim (HG6.out k) fun h=>Nat.le_trans HC6.out.size h
 have HC7:Hid (Chg (fun _=>False) w0 w6):=HC6.out.newer hc7 HG6.out
 have HE7:Hid (Env B w6):=(HE.out.keep0 HA.out).keep0 HC7.out
 have FL:=A0b (A9q hSo HHN.out w6 hV7 hlt7 (by omega) (by have:=HQN.out;omega) HWI.out HE7.out.1 fun k hk=>Nat.le_trans hEB (HG7.out k hk))
 clear P2 hc7 hV7 hlt7 hs7 HE6 HC6 HG5 HG6 HE7
 go_wp2_with (fail)
 refine FL.out.mono ?_
 rintro e w7 ⟨⟨c3,rfl⟩,hc8,-⟩
 have HC8:Hid (Chg (fun _=>False) w0 w7):=HC7.out.newer hc8 HG7.out
 clear hc8 FL
 go_wp2
 go_end0
 exact ⟨rfl,HA.out.trans HC8.out fun _ h _=>h⟩
end
end Go.Proofs.YtodcnkbblippnaaGreatDoor
namespace Go.Proofs.YtodcnkbblippnaaGreatDoor
open Go.RowKit
attribute [local go_sem ↓] Go.wp_at_zero Go.wp_at_succ
section
variable {w w':World} {H wb b t N B:Nat} {n:WN} {life clock window:Int} {room:Int} {FT:Nat→Prop} {ls:List (Value × Int)}
set_option maxRecDepth 100000 in
set_option maxHeartbeats 8000000 in
theorem B4U (hSo:A4v N) (hN:N≤200000) (w:World) (ticks:Int) (h:LW w H wb n b life (KD b (A0y room)) FT [] ls) (hck:n.clock=clock) (hsafe:n.safe=0) (_hfl:n.fell=false) (hroom:7000000≤room∧room≤9223372036854775807) (h2N:2≤N)
 (hE:Env B w) (hBH:B≤H) (hl:1≤life∧life≤4611686018427387904) (hw:1≤window∧window≤4611686018427387904) (hc:A0P clock) (htk:A0P ticks):
 Calls Tryz.prog 17 #[.pointer (some ⟨wb,0,none⟩),.int .i64 window,.int .i64 ticks] w fun e w'=>e=.returned (.bool true)∧Chg (Up H) w w'∧∃ b2 sb ab pv FT',
  LW w' H wb { n with clock:=A1D clock ticks,dv:=.pointer (some ⟨b2,0,none⟩),sv:=.pointer (some ⟨sb,0,none⟩),broken:=false,win:=window,fell:=false,pv:=pv } b2 life (KS sb ab b2 life window (A1D clock ticks) false (fun _=>[]) ⟨⟨1,[]⟩,⟨[],0,0,none⟩,0,[]⟩ (A0y room)) FT' [] ls:=by
 obtain ⟨hc',hcle⟩:=A5M hc htk
 have hole:A0m clock life≤A0m (A1D clock ticks) life:=A5N hcle
 obtain ⟨w1,hc1,hsz,hw1,hbx,hB1,hB2⟩:=A9X w wb n clock ticks life window h.blk hck
 have TI:Hid (0≤ticks→Calls Tryz.prog 44 #[.int .i64 clock,.int .i64 ticks] w fun e w'=>e=.returned (.int .i64 (A1D clock ticks))∧w=w'):=fun h0=>by
  have:=A4X clock ticks w hc ⟨h0,htk.2⟩
  have e:A1D clock ticks=A0M clock ticks:=by unfold A1D;rw [if_pos h0]
  rw [e];exact this
 obtain ⟨cl,hcl⟩:∃ cl,A1D clock ticks=cl:=⟨_,rfl⟩
 rw [hcl] at hc' hole hw1 hB1 TI ⊢
 have hd:A0R w b (A0y room).D (A0y room).F FT:=h.dsk
 have hlt:=h.lt
 have hnw:¬ FT wb:=h.nw wb (.inl rfl)
 have hwl:=h.blk.lt
 have hwH:H≤wb:=h.upw wb (.inl rfl)
 have c4:=h.blk.c4
 rw [h.hdv] at c4
 have c0:=h.blk.c0
 rw [h.hlf] at c0
 have c10:=h.blk.c10
 rw [hck] at c10
 have f10:=h.blk.fz 10
 have DE:=A0b (B5z hd)
 rw [show (A0y room).D.n.dead=false from rfl] at DE
 have e0:=(h.blk.s10 cl).c0
 rw [h.hlf] at e0
 have hd1:A0R w1 b (A0y room).D (A0y room).F FT:=hd.frame fun k hk=>hc1.block k (hlt k hk) (fun e=>hnw (by cases e;exact hk))
 have q0:w1.cell? ⟨w.heap.size,0,none⟩=some (.int .i64 life):=by simp only [World.cell?,hbx];rfl
 have q1:w1.cell? ⟨w.heap.size,1,none⟩=some (.int .i64 window):=by simp only [World.cell?,hbx];rfl
 have hlt1:∀ k,FT k→k<w1.heap.size:=fun k hk=>by have:=hlt k hk;omega
 have CF:=A0b (A6L w1 life window)
 rw [A7P hl hw] at CF
 have hE1:Env B w1:=hE.keep hc1 fun k e=>by cases e;omega
 have TR:Hid (∀ w2,Chg (fun _=>False) w1 w2→Calls Tryz.prog 46 #[.pointer (some ⟨wb,0,none⟩),.agg #[.int .i64 life,.int .i64 window]] w2 fun e w'=>e=.returned (.tuple #[])∧Chg (fun _=>False) w1 w'):=fun w2 k2=>by
  refine (B5i hSo hN w2 (hw1.chg0 k2) h.hdv rfl (hd1.same hlt1 k2) (fun k hk=>Nat.lt_of_lt_of_le (hlt1 k hk) k2.size) hroom h2N (hE1.keep0 k2) hl hw hc').mono ?_
  rintro e w' ⟨rfl,h2⟩
  exact ⟨rfl,k2.trans h2 fun _ h _=>h⟩
 have CP:Hid (∀ w3,Chg (fun _=>False) w1 w3→Calls Tryz.prog 47 #[.pointer (some ⟨b,0,none⟩)] w3 fun e w'=>∃ b2 Ft2,e=.returned (.pointer (some ⟨b2,0,none⟩))∧A0R w' b2 (A0y room).D (A0y room).F Ft2∧(∀ k,Ft2 k→w1.heap.size≤k∧k<w'.heap.size)∧Chg (fun _=>False) w1 w'):=fun w3 k3=>by
  refine (B5m (hd1.same hlt1 k3) A6a).mono ?_
  rintro e w' ⟨b2,Ft2,rfl,a1,a2,a3⟩
  exact ⟨b2,Ft2,rfl,a1,fun k hk=>⟨Nat.le_trans k3.size (a2 k hk).1,(a2 k hk).2⟩,k3.trans a3 fun _ h _=>h⟩
 have OPN:Hid (∀ (w3:World) (b2:Nat) (Ft4:Nat→Prop),A1A w3 b2 (A0y room) Ft4→(∀ k,Ft4 k→k<w3.heap.size)→Env B w3→Calls Tryz.prog 22 #[.pointer (some ⟨b2,0,none⟩),.agg #[.int .i64 life,.int .i64 window],.int .i64 cl] w3 fun e w'=>
  ∃ ab sb,e=.returned (.tuple #[.pointer (some ⟨sb,0,none⟩),.int .i64 0])∧w3.heap.size≤sb∧A0A w3 Ft4 w' (KS sb ab b2 life window cl false (fun _=>[]) ⟨⟨1,[]⟩,⟨[],0,0,none⟩,0,[]⟩ (A0y room))):=fun w3 b2 Ft4 g1 g2 g3=>
  A4g w3 room b2 Ft4 g1 g2 (by omega) g3 life window cl hl hw hc'
 have FOU:Hid (∀ (w12:World) (b2 sb ab:Nat) (FT':Nat→Prop),Chg (One wb) w w12→
  A1b w12 wb { n with clock:=cl,dv:=.pointer (some ⟨b2,0,none⟩),sv:=.pointer (some ⟨sb,0,none⟩),broken:=false,win:=window }→KS sb ab b2 life window cl false (fun _=>[]) ⟨⟨1,[]⟩,⟨[],0,0,none⟩,0,[]⟩ (A0y room) w12 FT'→(∀ k,FT' k→k<w12.heap.size)→(∀ k,FT' k→w.heap.size≤k)→
  Calls Tryz.prog 52 #[.pointer (some ⟨wb,0,none⟩)] w12 fun e w'=>e=.returned (.bool true)∧Chg (Up H) w12 w'∧∃ pv,LW w' H wb { n with clock:=cl,dv:=.pointer (some ⟨b2,0,none⟩),sv:=.pointer (some ⟨sb,0,none⟩),broken:=false,win:=window,fell:=false,pv:=pv } b2 life (KS sb ab b2 life window cl false (fun _=>[]) ⟨⟨1,[]⟩,⟨[],0,0,none⟩,0,[]⟩ (A0y room)) FT' [] ls):=fun w12 b2 sb ab FT' hcc hb hks hl12 hup=>by
  have hlw:=h.reborn (n':={ n with clock:=cl,dv:=.pointer (some ⟨b2,0,none⟩),sv:=.pointer (some ⟨sb,0,none⟩),broken:=false,win:=window }) hcc hb rfl rfl rfl rfl (KS.stab sb ab b2 life window cl false _ _ _) hks hl12 hup
  refine (B1N (safe:=0) (n0:=0) w12 hlw rfl rfl rfl hsafe (by simp) (fun _=>rfl) ((Rel.nil life cl).tells fun p hp=>by cases hp) (by simp) (fun p hp=>by cases hp) (fun k hk=>by simp) hl hc').mono ?_
  rintro e w' ⟨rfl,g1,m,pv,g2,g3,g4,g5⟩
  rw [List.take_nil] at g5
  exact ⟨rfl,g1,pv,g5⟩
 obtain ⟨rf,hrf⟩:∃ rf,(A0y room).D.n.refused=rf:=⟨_,rfl⟩
 obtain ⟨fu,hfu⟩:∃ fu,(A0y room).D.n.fulls=fu:=⟨_,rfl⟩
 have HRF:=A0b hrf
 have HFU:=A0b hfu
 have hdv:=h.hdv
 have HW1:=A0b hw1
 have HC1:=A0b hc1
 have HE1:=A0b hE1
 have HSZ:Hid (w1.heap.size=w.heap.size+1∧wb<w.heap.size∧H≤wb):=⟨hsz,hwl,hwH⟩
 have HB1:=A0b hB1
 have HB2:=A0b hB2
 clear hd hlt hd1 hlt1 hnw h hE hsz hwl hwH hw1 hc1 hE1 hbx hB1 hB2 hrf hfu hole hc' hcle
 go_enter Tryz.func17,Tryz.ntmps17
 by_cases htk:0≤ticks
 focus
  have TI1:=TI.out htk
  go_wp2_with (first
   | (go_at_call 36;refine DE.out.mono ?_;rintro e w1 ⟨rfl,rfl⟩)
   | (go_at_call 44;refine TI1.mono ?_;rintro e w1 ⟨rfl,rfl⟩))
  rw [HB1.out htk]
  clear TI1
 rotate_left
 focus
  go_wp2_with (first
   | (go_at_call 36;refine DE.out.mono ?_;rintro e w1 ⟨rfl,rfl⟩))
  rw [HB2.out htk]
 all_goals
  clear DE TI c4 c0 c10 f10 e0 HB1 HB2
  refine CF.out.mono ?_
  rintro e w2 ⟨rfl,k2⟩
  have TR2:=A0b (TR.out w2 k2)
  have r0:=k2.cellKeep q0
  have r1:=k2.cellKeep q1
  clear TR CF
  go_wp2_with (fail)
  refine TR2.out.mono ?_
  rintro e w3 ⟨rfl,k3⟩
  have t4:=(HW1.out.chg0 k3).c4
  dsimp only at t4
  rw [hdv] at t4
  have CP3:=A0b (CP.out w3 k3)
  clear CP TR2 r0 r1 k2
  go_wp2_with (fail)
  refine CP3.out.mono ?_
  rintro e w4 ⟨b2,Ft2,rfl,hd4,hf4,k4⟩
  have hw4:=HW1.out.chg0 k4
  have t4':=hw4.c4
  have z4:=hw4.fz 4
  have hn4:¬ Ft2 wb:=fun hx=>by have:=(hf4 wb hx).1;have:=HSZ.out;omega
  have hc5:=(Chg.refl (One wb) w4).setAt (b:=wb) rfl 4 (.pointer (some ⟨b2,0,none⟩))
  have hw5:=hw4.s4 (.pointer (some ⟨b2,0,none⟩))
  have hlt5:∀ k,Ft2 k→k<(w4.setCell ⟨wb,4,none⟩ (.pointer (some ⟨b2,0,none⟩))).heap.size:=fun k hk=>by simpa using (hf4 k hk).2
  have hd5:A0R (w4.setCell ⟨wb,4,none⟩ (.pointer (some ⟨b2,0,none⟩))) b2 (A0y room).D (A0y room).F Ft2:=hd4.frame fun k hk=>hc5.block k (hf4 k hk).2 (fun e=>hn4 (by cases e;exact hk))
  have K5:Hid (Chg (One wb) w1 (w4.setCell ⟨wb,4,none⟩ (.pointer (some ⟨b2,0,none⟩)))):=(k4.mono (S':=One wb) fun _ _ h=>h.elim).trans hc5 fun _ h _=>h
  have MK:=A0b (A6j _ hw5 rfl hd5 hlt5)
  have HW5:=A0b hw5
  have HD5:=A0b hd5
  have HF5:Hid (∀ k,Ft2 k→w1.heap.size≤k):=fun k hk=>(hf4 k hk).1
  have HL5:=A0b hlt5
  have x0:=k4.cellKeep q0
  have x1:=k4.cellKeep q1
  have hwne:wb≠w.heap.size:=by have:=HSZ.out;omega
  have y0:(w4.setCell ⟨wb,4,none⟩ (.pointer (some ⟨b2,0,none⟩))).cell? ⟨w.heap.size,0,none⟩=some (.int .i64 life):=(World.cell?_setCell_other _ _ _ _ (by simp;try omega)).trans x0
  have y1:(w4.setCell ⟨wb,4,none⟩ (.pointer (some ⟨b2,0,none⟩))).cell? ⟨w.heap.size,1,none⟩=some (.int .i64 window):=(World.cell?_setCell_other _ _ _ _ (by simp;try omega)).trans x1
  rw [HRF.out,HFU.out] at MK
  clear CP3 hd4 hf4 k4 hw4 hc5 hw5 hlt5 hd5 x0 x1 q0 q1 k3 hwne
  go_wp2_with (fail)
  generalize (w4.setCell ⟨wb,4,none⟩ (.pointer (some ⟨b2,0,none⟩)))=w5 at K5 MK HW5 HD5 HL5 y0 y1 ⊢
  refine MK.out.mono ?_
  rintro e w6 ⟨rfl,k6⟩
  have v4:(w6.alloc (.cells #[.int .i64 rf,.int .i64 fu] 85)).cell? ⟨wb,4,none⟩=some (.pointer (some ⟨b2,0,none⟩)):=(HW5.out.chg0 (k6.alloc _)).c4
  clear MK t4 t4' z4
  go_wp2_with (fail)
  have k7:Chg (fun _=>False) w5 (w6.alloc (.cells #[.int .i64 rf,.int .i64 fu] 85)):=k6.alloc _
  have hbx:=heap_alloc_new w6 (.cells #[.int .i64 rf,.int .i64 fu] 85)
  have m0:(w6.alloc (.cells #[.int .i64 rf,.int .i64 fu] 85)).cell? ⟨w6.heap.size,0,none⟩=some (.int .i64 rf):=by simp only [World.cell?,hbx];rfl
  have HB7:Hid ((w6.alloc (.cells #[.int .i64 rf,.int .i64 fu] 85)).heap.size=w6.heap.size+1):=by simp [Hid]
  generalize w6.alloc (.cells #[.int .i64 rf,.int .i64 fu] 85)=w7 at k7 m0 HB7 ⊢
  have W7:=A0b (HW5.out.chg0 k7)
  have D7:=A0b (HD5.out.same HL5.out k7)
  have L7:Hid (∀ k,Ft2 k→k<w7.heap.size):=fun k hk=>Nat.lt_of_lt_of_le (HL5.out k hk) k7.size
  have K7:Hid (Chg (One wb) w1 w7):=K5.out.trans k7 fun _ h _=>h.elim
  have M7:Hid (∀ k,Ft2 k→k<w6.heap.size):=fun k hk=>Nat.lt_of_lt_of_le (HL5.out k hk) k6.size
  have p0:=k7.cellKeep y0
  have p1:=k7.cellKeep y1
  have p4:w7.cell? ⟨wb,4,none⟩=some (.pointer (some ⟨b2,0,none⟩)):=W7.out.c4
  have p10:w7.cell? ⟨wb,10,none⟩=some (.int .i64 cl):=W7.out.c10
  have CA:=A0b (A9O D7.out)
  obtain ⟨cn,hcn⟩:∃ cn,(A0y room).D.n.calls=cn:=⟨_,rfl⟩
  rw [hcn] at CA
  clear y0 y1 k6 hbx v4 HW5 HD5 HL5 K5 hcn k7
  refine CA.out.mono ?_
  rintro e w8 ⟨rfl,rfl⟩
  go_wp2_with (fail)
  have OP:=A0b (OPN.out w7.drew b2 Ft2 D7.out.drew L7.out ((HE1.out.keep K7.out fun k e=>by cases e;have:=HSZ.out;omega).keep0 (Chg.refl (fun _=>False) w7).drew))
  refine A0e (fun w'=>w'.cell? ⟨wb,4,none⟩=some (.pointer (some ⟨b2,0,none⟩))∧w'.cell? ⟨w.heap.size,0,none⟩=some (.int .i64 life)∧w'.cell? ⟨w.heap.size,1,none⟩=some (.int .i64 window)∧w'.cell? ⟨wb,10,none⟩=some (.int .i64 cl)) 14
   [(0,true),(1,true),(2,true),(3,true),(4,true),(5,true),(6,true),(7,true),(8,true),(9,false),(10,true),(11,true),(12,true),(13,true)] (by kernel_rfl) (by kernel_rfl) (fun _ _ _ _ _ h=>h) ⟨p4,p0,p1,p10⟩ ?_
  iterate 9 (refine A0d (v:=?_) rfl (by rfl) ?_ ?_;rotate_left;(· (intro w' hS;(try dsimp only at hS);go_simp;try with_reducible rfl));(try simp only [Act.put,List.setIfInBounds_toArray,List.set_cons_zero,List.set_cons_succ,List.getElem_toArray,List.getElem_cons_zero,List.getElem_cons_succ]))
  refine A0i rfl (by rfl) (fun K hK=>?_)
  go_simp
  refine OP.out.mono ?_
  rintro e w8 ⟨ab,sb,rfl,hsb,hc8,FT8,hV,hlt8,hf8⟩
  have hz1:=K7.out.size
  have hz7:=HB7.out
  have F2H:∀ k,Ft2 k→w1.heap.size≤k:=HF5.out
  have nw8:¬ Ft2 wb:=fun hx=>by have:=F2H wb hx;have:=HSZ.out;omega
  have nb8:¬ Ft2 w.heap.size:=fun hx=>by have:=F2H _ hx;have:=HSZ.out;omega
  have nm8:¬ Ft2 w6.heap.size:=fun hx=>by have:=M7.out _ hx;omega
  refine hK _ _ ⟨A0E hc8 p4 nw8,A0E hc8 p0 nb8,A0E hc8 p1 nb8,A0E hc8 p10 nw8⟩ (fun hS=>?_)
  have k8:Chg Ft2 w7 w8:=(Chg.refl Ft2 w7).drew.trans hc8 fun _ h _=>h
  have W8:=A0b (W7.out.chg k8 nw8)
  have K8:Hid (Chg (One wb) w1 w8):=K7.out.trans k8 fun x hx hlt=>by have:=F2H x hx;omega
  have m8:=A0E k8 m0 nm8
  have G8:Hid (∀ k,FT8 k→w1.heap.size≤k):=fun k hk=>(hf8 k hk).elim (F2H k) fun h=>Nat.le_trans hz1 h
  have MK:Hid (wb≠w6.heap.size):=fun e=>by
   have:=HSZ.out;omega
  have s4:w8.cell? ⟨wb,4,none⟩=some (.pointer (some ⟨b2,0,none⟩)):=W8.out.c4
  have s5:=W8.out.c5
  have s9:=W8.out.c9
  have s11:=W8.out.c11
  have z5:=W8.out.fz 5
  have z9:=W8.out.fz 9
  have z11:=W8.out.fz 11
  have mk:=MK.out
  have V8:=A0b hV
  have L8:=A0b hlt8
  clear hK K hS hV hc8 k8 OP p0 p1 p4 p10 W7 D7 L7 K7 m0 CA HF5 HB7 hz1 hz7 F2H nw8 nb8 nm8 hf8 hlt8 M7 hsb
  (try simp only [Act.put,List.setIfInBounds_toArray,List.set_cons_zero,List.set_cons_succ,List.getElem_toArray,List.getElem_cons_zero,List.getElem_cons_succ])
  iterate 4 (refine A0d (v:=?_) rfl (by rfl) ?_ ?_;rotate_left;(· (intro w' hS;(try dsimp only at hS);go_simp;try with_reducible rfl));(try simp only [Act.put,List.setIfInBounds_toArray,List.set_cons_zero,List.set_cons_succ,List.getElem_toArray,List.getElem_cons_zero,List.getElem_cons_succ]))
  refine A0k ?_
  simp only [List.drop_succ_cons,List.drop_zero]
  go_wp2_with (fail)
  have W9:=A0b (W8.out.s5 (.pointer none))
  have hc9:=(Chg.refl (One wb) w8).setAt (b:=wb) rfl 5 (.pointer none)
  have NW:Hid (¬ FT8 wb):=fun hx=>by have:=G8.out wb hx;have:=HSZ.out;omega
  have V9:=A0b (KS.stab sb ab b2 life window cl false _ _ _ _ _ _ _ V8.out L8.out hc9 fun k hk e=>NW.out (by cases e;exact hk))
  have L9:Hid (∀ k,FT8 k→k<(w8.setCell ⟨wb,5,none⟩ (.pointer none)).heap.size):=fun k hk=>by simpa using L8.out k hk
  have K9:Hid (Chg (One wb) w1 (w8.setCell ⟨wb,5,none⟩ (.pointer none))):=K8.out.setAt rfl 5 _
  have g4:(w8.setCell ⟨wb,5,none⟩ (.pointer none)).cell? ⟨wb,4,none⟩=some (.pointer (some ⟨b2,0,none⟩)):=W9.out.c4
  have gm:(w8.setCell ⟨wb,5,none⟩ (.pointer none)).cell? ⟨w6.heap.size,0,none⟩=some (.int .i64 rf):=(World.cell?_setCell_other _ _ _ _ (by simp;try omega)).trans m8
  clear hc9 V8 W8 K8 s4 s5 s9 s11 z5 z9 z11 m8 L8
  generalize w8.setCell ⟨wb,5,none⟩ (.pointer none)=w9 at W9 V9 K9 L9 g4 gm ⊢
  have RF:Hid (Calls Tryz.prog 50 #[.pointer (some ⟨b2,0,none⟩)] w9.drew fun e w'=>e=.returned (.int .i64 rf)∧w9.drew=w'):=by
   obtain ⟨Ft9,hd9,-⟩:=SF.dk V9.out
   have:=A7t (A0R.drew hd9)
   rwa [HRF.out] at this
  refine A0e (fun w'=>w'.cell? ⟨wb,4,none⟩=some (.pointer (some ⟨b2,0,none⟩))∧w'.cell? ⟨w6.heap.size,0,none⟩=some (.int .i64 rf)) 7
   [(0,true),(1,true),(2,true),(3,true),(5,true),(6,true),(4,false)] (by kernel_rfl) (by kernel_rfl) (fun _ _ _ _ _ h=>h) ⟨g4,gm⟩ ?_
  iterate 6 (refine A0d (v:=?_) rfl (by rfl) ?_ ?_;rotate_left;(· (intro w' hS;(try dsimp only at hS);go_simp;try with_reducible rfl));(try simp only [Act.put,List.setIfInBounds_toArray,List.set_cons_zero,List.set_cons_succ,List.getElem_toArray,List.getElem_cons_zero,List.getElem_cons_succ]))
  refine A0i rfl (by rfl) (fun K hK=>?_)
  go_simp
  refine RF.out.mono ?_
  rintro e w10 ⟨rfl,rfl⟩
  refine hK _ _ ⟨g4,gm⟩ (fun hS=>?_)
  clear hK K hS
  (try simp only [Act.put,List.setIfInBounds_toArray,List.set_cons_zero,List.set_cons_succ,List.getElem_toArray,List.getElem_cons_zero,List.getElem_cons_succ])
  refine A0k ?_
  simp only [List.drop_succ_cons,List.drop_zero]
  have s5:=W9.out.c5
  have s9:=W9.out.c9
  have s11:=W9.out.c11
  have z5:=W9.out.fz 5
  have z9:=W9.out.fz 9
  have z11:=W9.out.fz 11
  clear RF g4 gm
  go_wp2_with (fail)
  have W12:=((W9.out.s5 (.pointer (some ⟨sb,0,none⟩))).s9 false).s11 window
  have hc12:Chg (One wb) w9 (((w9.setCell ⟨wb,5,none⟩ (.pointer (some ⟨sb,0,none⟩))).setCell ⟨wb,9,none⟩ (.bool false)).setCell ⟨wb,11,none⟩ (.int .i64 window)).drew:=((((Chg.refl (One wb) w9).setAt rfl 5 _).setAt rfl 9 _).setAt rfl 11 _).drew
  have V12:=KS.stab sb ab b2 life window cl false _ _ _ _ _ _ _ V9.out L9.out hc12 fun k hk e=>NW.out (by cases e;exact hk)
  have hlt12:∀ k,FT8 k→k<(((w9.setCell ⟨wb,5,none⟩ (.pointer (some ⟨sb,0,none⟩))).setCell ⟨wb,9,none⟩ (.bool false)).setCell ⟨wb,11,none⟩ (.int .i64 window)).drew.heap.size:=fun k hk=>Nat.lt_of_lt_of_le (L9.out k hk) hc12.size
  have K12:Hid (Chg (One wb) w (((w9.setCell ⟨wb,5,none⟩ (.pointer (some ⟨sb,0,none⟩))).setCell ⟨wb,9,none⟩ (.bool false)).setCell ⟨wb,11,none⟩ (.int .i64 window)).drew):=(HC1.out.trans K9.out fun _ h _=>h).trans hc12 fun _ h _=>h
  have FO:=A0b (FOU.out _ b2 sb ab FT8 K12.out W12 V12 hlt12 fun k hk=>by have:=G8.out k hk;have:=HSZ.out;omega)
  clear V9 W9 K9 s5 s9 s11 z5 z9 z11 W12 hc12 V12 hlt12 FOU OPN HW1 HC1 HE1 L9
  refine FO.out.mono ?_
  rintro e w13 ⟨rfl,h1,pv,h2⟩
  have FIN:Hid (Chg (Up H) w w13∧LW w13 H wb { n with clock:=cl,dv:=.pointer (some ⟨b2,0,none⟩),sv:=.pointer (some ⟨sb,0,none⟩),broken:=false,win:=window,fell:=false,pv:=pv } b2 life (KS sb ab b2 life window cl false (fun _=>[]) ⟨⟨1,[]⟩,⟨[],0,0,none⟩,0,[]⟩ (A0y room)) FT8 [] ls):=
   ⟨(K12.out.mono (S':=Up H) fun x _ e=>by cases e;exact HSZ.out.2.2).trans h1 fun _ h _=>h,h2⟩
  clear FO K12 h1 h2
  go_wp2
  go_ret
  obtain ⟨f1,f2⟩:=FIN.out
  exact ⟨rfl,f1,b2,sb,ab,pv,FT8,f2⟩
end
end Go.Proofs.YtodcnkbblippnaaGreatDoor
