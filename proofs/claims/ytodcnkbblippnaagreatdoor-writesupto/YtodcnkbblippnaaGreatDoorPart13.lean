/-
  The statement WritesUptoCardSaid is proved: the law Writes answers true for every setting and every script of at most 1048576 bytes; there is no other condition.
  Part 13 of 33.
-/
import Derived.Test.YtodcnkbblippnaaGreatDoorPart12
import Derived.Test.YtodcnkbblippnaaGreatDoorPart09
namespace Go.Proofs.YtodcnkbblippnaaGreatDoor
open Go.RowKit
def A0L (s:Nat) (l:Bs):Bs:=l ++ A2x (A0w s l)
def PD.add (P:PD) (nm:ByteArray) (s:Nat) (l:Bs):Bool × Int × PD:=
 (A8p P.D P.F nm (A0L s l),(P.append nm (A0L s l)).1,(P.append nm (A0L s l)).2)
def PD.write (P:PD) (nm:Bs) (s:Nat) (l:Bs):Int × PD:=
 if (P.create (nmB nm)).1≠0 then P.create (nmB nm) else
 if ((P.create (nmB nm)).2.add (nmB nm) s l).2.1≠0 then ((P.create (nmB nm)).2.add (nmB nm) s l).2 else
 ((P.create (nmB nm)).2.add (nmB nm) s l).2.2.sync (nmB nm)
def PD.all (P:PD) (nm:Bs):Bs × Int:=A6s P.D P.F (nmB nm)
def A4n (s:Nat) (t:Bs):Option Bs:=
 if t.length<4 then none else if A2x (A0w s (t.take (t.length - 4)))=t.drop (t.length - 4) then some (t.take (t.length - 4)) else none
def PD.read (P:PD) (nm:Bs):Bs × Int:=
 if (P.all nm).2≠0 then ([],(P.all nm).2) else match A4n (A1m nm) (P.all nm).1 with
 | some d=>(d,0)
 | none=>([],7)
def A5I:Nat→Bs→List Int
 | 0,_=>[]
 | k+1,l=>if l.length<8 then [] else A1P l :: A5I k (l.drop 8)
def A3w (l:Bs):List Int:=A5I l.length l
def A1Y {α:Type} (cmp:α→α→Int):List α→Bool
 | []=>true
 | [_]=>true
 | x :: y :: r=>decide (cmp x y<0) && A1Y cmp (y :: r)
def A3u (x y:Int):Int:=if x<y then -1 else if y<x then 1 else 0
structure Ix where
 first:Int
 segs:List Int
def A4o (d:Bs × Int):Option Ix:=
 if d.2=8 then some ⟨1,[]⟩ else
 if d.2≠0∨A3w d.1 = []∨d.1.length≠(A3w d.1).length*8 then none else
 if (A3w d.1).all A0W=false then none else
 if A1Y A3u (A3w d.1).tail then some ⟨(A3w d.1).headD 0,(A3w d.1).tail⟩ else none
def PD.index (P:PD):Option Ix:=A4o (P.read A0N)
def A8K (first:Int) (segs:List Int):Bs:=A1h first ++ segs.flatMap A1h
def PD.turn (P:PD) (first:Int) (segs:List Int):Int × PD:=
 if (P.write A2N (A1m A0N) (A8K first segs)).1≠0 then P.write A2N (A1m A0N) (A8K first segs) else
 (P.write A2N (A1m A0N) (A8K first segs)).2.rename (nmB A2N) (nmB A0N)
def A3c (l:List Pu):Bs:=l.flatMap fun p=>A1N p.1 p.2.1 p.2.2
def PD.newSeg (P:PD) (n:Int) (l:List Pu):Int × PD:=P.write (A1d n) (A1m (A1d n)) (A3c l)
def A1V (p q:Pu):Int:=if A3u p.1 q.1≠0 then A3u p.1 q.1 else A3u p.2.1 q.2.1
def B5K (l:Bs):Pu:=(((l.headD 0).toNat:Int),A1P (l.drop 1),A1P (l.drop 9))
def A8L:Nat→Bs→Option (List Pu × Bs)
 | 0,l=>some ([],l)
 | k+1,l=>if l.length<17 then some ([],l) else
  if (l.headD 0).toNat<8 then (A8L k (l.drop 17)).map fun r=>(B5K l :: r.1,r.2) else none
def B2L (d:Bs × Int):Option (List Pu):=
 if d.2≠0 then none else match A8L d.1.length d.1 with
 | none=>none
 | some (l,r)=>if r = []∧A1Y A1V l=true then some l else none
def PD.seg (P:PD) (n:Int):Option (List Pu):=B2L (P.read (A1d n))
def PD.segs (P:PD):List Int→Option (List (Int × List Pu))
 | []=>some []
 | n :: r=>match P.seg n with
  | none=>none
  | some l=>(P.segs r).map fun x=>(n,l):: x
structure Jn where
 logs:List Int
 last:Int
 puts:Int
 own:Option (Int × Nat)
def PD.log (P:PD) (n:Int) (ahead:Int):List Pu × Int:=A2q P.D P.F (A0l n) ahead
def PD.putsK (P:PD):List Int→List Pu→List Pu × Int
 | [],acc=>(acc,0)
 | n :: r,acc=>if (P.log n acc.length).2≠0 then ([],(P.log n acc.length).2) else P.putsK r (acc ++ (P.log n acc.length).1)
def PD.puts (P:PD) (logs:List Int):List Pu × Int:=P.putsK logs []
def PD.names (P:PD):List Bs:=(A7A P.D.dir).map fun b=>b.data.toList
def A0B (first:Int) (l:List Bs):List Int:=l.filterMap fun nm=>if (A0D nm).1=1∧first≤(A0D nm).2 then some (A0D nm).2 else none
def PD.journal (P:PD) (first:Int):Jn:=⟨A0B first P.names,(A0B first P.names).getLastD (first - 1),(P.puts (A0B first P.names)).1.length,none⟩
def Jn.begin (J:Jn) (P:PD):Int × Jn × PD:=
 if (P.create (nmB (A0l (J.last+1)))).1≠0 then ((P.create (nmB (A0l (J.last+1)))).1,J,(P.create (nmB (A0l (J.last+1)))).2) else
 let a:=(P.create (nmB (A0l (J.last+1)))).2.add (nmB (A0l (J.last+1))) (A1m (A0l (J.last+1))) (A1h J.puts)
 if a.2.1≠0 then (a.2.1,J,a.2.2) else
 (0,⟨J.logs ++ [J.last+1],J.last+1,J.puts,some (J.last+1,A0w (A1m (A0l (J.last+1))) (A1h J.puts))⟩,a.2.2)
def Jn.put (J:Jn) (P:PD) (p:Pu):Bool × Int × Jn × PD:=match J.own with
 | none=>(false,0,J,P)
 | some (n,s)=>
  let a:=P.add (nmB (A0l n)) s (A1N p.1 p.2.1 p.2.2)
  (a.1,a.2.1,{ J with own:=some (n,A0w s (A1N p.1 p.2.1 p.2.2)) },a.2.2)
def Jn.add (J:Jn) (P:PD) (p:Pu):Bool × Int × Jn × PD:=
 if J.own=none then
  (if (J.begin P).1≠0 then (false,(J.begin P).1,(J.begin P).2.1,(J.begin P).2.2) else (J.begin P).2.1.put (J.begin P).2.2 p)
 else J.put P p
structure Ar where
 ix:Ix
 j:Jn
 last:Int
 loose:List Bs
def Ar.names (A:Ar):List Bs:=A0N :: A.j.logs.map A0l ++ A.ix.segs.map A1d
def Ar.counting (A:Ar) (P:PD):List Bs:=P.names.filter fun nm=>decide (nm∈A.names)
def Ar.others (A:Ar) (P:PD):List Bs:=P.names.filter fun nm=>!decide (nm∈A.names)
def PD.syncAll:List Bs→PD→Int × PD
 | [],P=>(0,P)
 | nm :: r,P=>if (P.sync (nmB nm)).1≠0 then P.sync (nmB nm) else PD.syncAll r (P.sync (nmB nm)).2
def PD.removeAll:List Bs→PD→Int × PD
 | [],P=>(0,P)
 | nm :: r,P=>if (P.remove (nmB nm)).1≠0 then P.remove (nmB nm) else PD.removeAll r (P.remove (nmB nm)).2
def Ar.settle (A:Ar) (P:PD):Int × Ar × PD:=
 if (P.syncAll A.loose).1≠0 then ((P.syncAll A.loose).1,A,(P.syncAll A.loose).2) else (0,{ A with loose:=[] },(P.syncAll A.loose).2)
def Ar.sweep (A:Ar) (P:PD):Int × PD:=P.removeAll (A.others P)
def Ar.add (A:Ar) (P:PD) (p:Pu):Bool × Int × Ar × PD:=
 if (A.settle P).1≠0 then (false,(A.settle P).1,(A.settle P).2.1,(A.settle P).2.2) else
 let r:=(A.settle P).2.1.j.add (A.settle P).2.2 p
 (r.1,r.2.1,{ (A.settle P).2.1 with j:=r.2.2.1 },r.2.2.2)
def PD.newSegs:List (List Pu)→Int→List Int→PD→Int × Int × List Int × PD
 | [],last,kept,P=>(0,last,kept,P)
 | l :: r,last,kept,P=>if (P.newSeg (last+1) l).1≠0 then ((P.newSeg (last+1) l).1,last+1,kept,(P.newSeg (last+1) l).2) else
  PD.newSegs r (last+1) (kept ++ [last+1]) (P.newSeg (last+1) l).2
def Ar.turn (A:Ar) (P:PD) (segs:List Int):Int × Ar × PD:=
 if A.ix.first=A.j.last+1∧A.ix.segs=segs then (0,A,P) else
 if (P.turn (A.j.last+1) segs).1≠0 then ((P.turn (A.j.last+1) segs).1,A,(P.turn (A.j.last+1) segs).2) else
 (0,{ A with ix:=⟨A.j.last+1,segs⟩,j:=⟨[],A.j.last,0,none⟩ },(P.turn (A.j.last+1) segs).2)
def Ar.close (A:Ar) (P:PD):Int × Ar × PD:=
 if (A.sweep P).1≠0 then ((A.sweep P).1,A,(A.sweep P).2) else ((A.sweep P).2.syncDir.1,A,(A.sweep P).2.syncDir.2)
def Ar.replace (A:Ar) (P:PD) (kept:List Int) (fresh:List (List Pu)):Int × Ar × PD:=
 let a:=A.settle P
 if a.1≠0 then a else
 let b:=a.2.1.sweep a.2.2
 if b.1≠0 then (b.1,a.2.1,b.2) else
 let c:=PD.newSegs fresh a.2.1.last kept b.2
 if c.1≠0 then (c.1,{ a.2.1 with last:=c.2.1 },c.2.2.2) else
 let d:=({ a.2.1 with last:=c.2.1 }:Ar).turn c.2.2.2 c.2.2.1
 if d.1≠0 then d else d.2.1.close d.2.2
def A1K (t len:Int):Int:=t / len
def A1U (len:Int) (p q:Pu):Bool:=
 decide (A1K p.2.1 len<A1K q.2.1 len∨A1K p.2.1 len=A1K q.2.1 len∧(p.1<q.1∨p.1=q.1∧p.2.1<q.2.1))
def A4k {α:Type} (lt:α→α→Bool) (x:α):List α→List α
 | []=>[x]
 | y :: r=>if lt x y then x :: y :: r else y :: A4k lt x r
def A2m {α:Type} (lt:α→α→Bool) (l:List α):List α:=l.foldl (fun s x=>A4k lt x s) []
def A1u (len:Int) (ws:List (List Pu)) (first:Bool) (prev p:Pu):List (List Pu):=
 let ws1:=if first∨A1K p.2.1 len≠A1K prev.2.1 len then ws ++ [[]] else ws
 let last:=ws1.getLastD []
 if last≠[]∧A1V p (last.getLastD (0,0,0))=0 then ws1.dropLast ++ [last.dropLast ++ [p]] else ws1.dropLast ++ [last ++ [p]]
def A5r (len:Int):List Pu→Bool→Pu→List (List Pu)→List (List Pu)
 | [],_,_,ws=>ws
 | p :: r,first,prev,ws=>A5r len r false p (A1u len ws first prev p)
def A2I (len:Int) (l:List Pu):List (List Pu):=A5r len (A2m (A1U len) l) true (0,0,0) []
def Ar.flush (A:Ar) (P:PD) (window:Int):Int × Ar × PD:=
 if (P.puts A.j.logs).2≠0 then ((P.puts A.j.logs).2,A,P) else A.replace P A.ix.segs (A2I window (P.puts A.j.logs).1)
def Ar.open (P:PD):Except Int (Ar × List Pu):=match P.index with
 | none=>.error 7
 | some ix=>if P.names.any (fun nm=>decide ((A0D nm).1=0)) then .error 7 else
  match P.segs ix.segs with
  | none=>.error 7
  | some segs=>if (P.puts (A0B ix.first P.names)).2≠0 then .error (P.puts (A0B ix.first P.names)).2 else
   let A:Ar:=⟨ix,P.journal ix.first,(P.names.filterMap fun nm=>if (A0D nm).1=2 then some (A0D nm).2 else none).getLastD 0,[]⟩
   .ok ({ A with loose:=A.counting P },segs.flatMap (·.2) ++ (P.puts (A0B ix.first P.names)).1)
end Go.Proofs.YtodcnkbblippnaaGreatDoor
namespace Go.Proofs.YtodcnkbblippnaaGreatDoor
open Go.RowKit
def A0A (w:World) (Ft:Nat→Prop) (w':World) (R:World→(Nat→Prop)→Prop):Prop:=
 Chg Ft w w'∧∃ Ft',R w' Ft'∧(∀ k,Ft' k→k<w'.heap.size)∧∀ k,Ft' k→Ft k∨w.heap.size≤k
theorem A0A.trans {w w1 w2:World} {Ft:Nat→Prop} {R R2:World→(Nat→Prop)→Prop} (h:A0A w Ft w1 R) (h2:∀ Ft1,R w1 Ft1→(∀ k,Ft1 k→k<w1.heap.size)→(∀ k,Ft1 k→Ft k∨w.heap.size≤k)→A0A w1 Ft1 w2 R2):A0A w Ft w2 R2:=by
 obtain ⟨hc,Ft1,hr,hlt,hs⟩:=h
 obtain ⟨hc2,Ft2,hr2,hlt2,hs2⟩:=h2 Ft1 hr hlt hs
 refine ⟨hc.trans hc2 fun x hx hlt=>(hs x hx).resolve_right (by omega),Ft2,hr2,hlt2,fun k hk=>?_⟩
 rcases hs2 k hk with h | h
 ·exact hs k h
 ·exact .inr (Nat.le_trans hc.size h)
theorem A0A.before {w w1 w':World} {Ft:Nat→Prop} {R:World→(Nat→Prop)→Prop} (h:A0A w1 Ft w' R) (hc:Chg (fun _=>False) w w1):A0A w Ft w' R:=by
 obtain ⟨h1,Ft',h2,h3,h4⟩:=h
 exact ⟨(hc.mono fun _ _ h=>h.elim).trans h1 fun _ h _=>h,Ft',h2,h3,fun k hk=>(h4 k hk).imp id fun h=>Nat.le_trans hc.size h⟩
theorem A0A.imp {w w':World} {Ft:Nat→Prop} {R R2:World→(Nat→Prop)→Prop} (h:A0A w Ft w' R) (hi:∀ Ft',(∀ k,Ft' k→k<w'.heap.size)→R w' Ft'→R2 w' Ft'):A0A w Ft w' R2:=by
 obtain ⟨h1,Ft',h2,h3,h4⟩:=h
 exact ⟨h1,Ft',hi Ft' h3 h2,h3,h4⟩
theorem A0A.wide {w w':World} {Ft Ft2:Nat→Prop} {R:World→(Nat→Prop)→Prop} (h:A0A w Ft w' R) (hs:∀ k,Ft k→Ft2 k):A0A w Ft2 w' R:=by
 obtain ⟨h1,Ft',h2,h3,h4⟩:=h
 exact ⟨h1.mono fun x _ hx=>hs x hx,Ft',h2,h3,fun k hk=>(h4 k hk).imp (hs k) id⟩
def A1A (w:World) (b:Nat) (P:PD) (Ft:Nat→Prop):Prop:=A0R w b P.D P.F Ft
theorem A1A.frame {w w':World} {b:Nat} {P:PD} {Ft:Nat→Prop} (h:A1A w b P Ft) (hs:A9f Ft w w'):A1A w' b P Ft:=A0R.frame h hs
def A4a (w:World) (size:Nat) (v:Value) (n:Nat) (xs:List Value):Prop:=
 xs.length=n*size∧∃ a cap,v=.slice a n cap∧n≤cap∧cap≤maxLen∧(∀ g,v.ownBlock=some g→g<w.heap.size)∧
  ∀ j u,xs[j]?=some u→∃ g o,a=some ⟨g,o,none⟩∧w.cell? ⟨g,o+j,none⟩=some u
theorem A4a.frame {w w':World} {size n:Nat} {v:Value} {xs:List Value} (h:A4a w size v n xs) (hs:∀ g,v.ownBlock=some g→w'.heap[g]?=w.heap[g]?):A4a w' size v n xs:=by
 obtain ⟨h1,a,cap,rfl,h2,h3,h4,h5⟩:=h
 refine ⟨h1,a,cap,rfl,h2,h3,fun g hg=>?_,fun j u hj=>?_⟩
 ·have:=hs g hg
  have hl:=h4 g hg
  rcases Nat.lt_or_ge g w'.heap.size with h | h
  ·exact h
  ·rw [Array.getElem?_eq_none h] at this
   rw [Array.getElem?_eq_getElem hl] at this
   cases this
 ·obtain ⟨g,o,rfl,hc⟩:=h5 j u hj
  refine ⟨g,o,rfl,?_⟩
  have:=hs g rfl
  unfold World.cell? at hc ⊢
  rw [this];exact hc
theorem A4a.chg {S:Nat→Prop} {w w':World} {size n:Nat} {v:Value} {xs:List Value} (h:A4a w size v n xs) (hc:Chg S w w') (hs:∀ g,v.ownBlock=some g→¬ S g):A4a w' size v n xs:=by
 refine h.frame fun g hg=>hc.block g ?_ (hs g hg)
 obtain ⟨_,a,cap,rfl,_,_,h4,_⟩:=h
 exact h4 g hg
theorem A4a.lt {w:World} {size n:Nat} {v:Value} {xs:List Value} (h:A4a w size v n xs) {g:Nat} (hg:v.ownBlock=some g):g<w.heap.size:=by
 obtain ⟨_,a,cap,rfl,_,_,h4,_⟩:=h
 exact h4 g hg
theorem A4a.ofOwns {w:World} {base e size n:Nat} {v:Value} {xs:List Value} (h:w.ownsRow base e size v n xs):A4a w size v n xs:=by
 obtain ⟨a,cap,rfl,h1,h2,h3,h4,h5⟩:=A0g h
 refine ⟨h.1,a,cap,rfl,h1,h2,fun g hg=>A0c h hg,fun j u hj=>?_⟩
 cases ha:a with
 | none=>
  subst ha
  have h0:=(h4 rfl).1
  have hl:=h.1
  rw [h0] at hl
  have:xs = []:=by simpa using hl
  rw [this] at hj;simp at hj
 | some x=>
  subst ha
  obtain ⟨g,rfl⟩:=h5 x rfl
  exact ⟨g,0,rfl,by simpa using A0j h rfl hj⟩
theorem A4a.form {w:World} {size n:Nat} {v:Value} {xs:List Value} (h:A4a w size v n xs):∃ a cap,v=.slice a n cap∧n≤cap∧cap≤maxLen:=by
 obtain ⟨_,a,cap,h1,h2,h3,_⟩:=h
 exact ⟨a,cap,h1,h2,h3⟩
theorem A4a.nil {w:World} {size:Nat}:A4a w size (.slice none 0 0) 0 []:=
 ⟨by simp,none,0,rfl,Nat.le_refl _,by decide,fun g hg=>by simp [Value.ownBlock] at hg,fun j u hj=>by simp at hj⟩
def A0X (l:List Int):List Value:=l.map fun n=>.int .i64 n
theorem A3W (l:List Int):(A0X l).length=l.length:=by simp [A0X]
theorem A2d (a b:List Int):A0X (a ++ b)=A0X a ++ A0X b:=by simp [A0X]
theorem A4U (l:List Int) (k:Nat) (h:k<l.length):(A0X l)[k]?=some (.int .i64 (l[k]'h)):=by simp [A0X,h]
theorem A1v (l:List Int):∀ u∈A0X l,u.oneCell'=true:=by
 intro u hu;simp [A0X] at hu;obtain ⟨x,_,rfl⟩:=hu;rfl
def RdI (w:World) (v:Value) (l:List Int):Prop:=A4a w 1 v l.length (A0X l)
def A5p (w:World) (v:Value) (l:List Int):Prop:=w.ownsRow 0 3 1 v l.length (A0X l)
theorem A5p.rd {w:World} {v:Value} {l:List Int} (h:A5p w v l):RdI w v l:=A4a.ofOwns h
def A0U (l:List Bs):List Value:=l.map fun x=>.string ⟨x.toArray⟩
theorem A2s (a b:List Bs):A0U (a ++ b)=A0U a ++ A0U b:=by simp [A0U]
theorem B3a (l:List Bs) (k:Nat) (h:k<l.length):(A0U l)[k]?=some (.string ⟨(l[k]'h).toArray⟩):=by simp [A0U,h]
theorem A2e (l:List Bs):∀ u∈A0U l,u.oneCell'=true:=by
 intro u hu;simp [A0U] at hu;obtain ⟨x,_,rfl⟩:=hu;rfl
theorem B0T (l:List ByteArray):A1J l=A0U (l.map fun b=>b.data.toList):=by simp [A1J,A0U]
def RdS (w:World) (v:Value) (l:List Bs):Prop:=A4a w 1 v l.length (A0U l)
def A3V (w:World) (v:Value) (l:List Bs):Prop:=w.ownsRow 0 9 1 v l.length (A0U l)
theorem A3V.rd {w:World} {v:Value} {l:List Bs} (h:A3V w v l):RdS w v l:=A4a.ofOwns h
def RdP (w:World) (v:Value) (l:List Pu):Prop:=A4a w 3 v l.length (A0x l)
theorem A1r.rd {w:World} {v:Value} {l:List Pu} (h:A1r w v l):RdP w v l:=A4a.ofOwns h
theorem RdI.at {w:World} {a:Option Addr} {n cap:Nat} {l:List Int} (h:RdI w (.slice a n cap) l) (k:Nat) (hk:k<l.length):∃ g o,a=some ⟨g,o,none⟩∧w.cell? ⟨g,o+k,none⟩=some (.int .i64 (l[k]'hk)):=by
 obtain ⟨_,a',cap',e,_,_,_,h5⟩:=h
 cases e
 exact h5 k _ (A4U l k hk)
theorem RdP.at {w:World} {a:Option Addr} {n cap:Nat} {l:List Pu} (h:RdP w (.slice a n cap) l) (k:Nat) (hk:k<l.length):∃ g o,a=some ⟨g,o,none⟩∧g<w.heap.size∧w.cell? ⟨g,o+k*3,none⟩=some (.int .i64 (l[k]'hk).1)∧w.cell? ⟨g,o+k*3+1,none⟩=some (.int .i64 (l[k]'hk).2.1)∧w.cell? ⟨g,o+k*3+2,none⟩=some (.int .i64 (l[k]'hk).2.2):=by
 obtain ⟨_,a',cap',e,_,_,h4,h5⟩:=h
 cases e
 obtain ⟨q1,q2,q3⟩:=A2y l k hk
 obtain ⟨g,o,rfl,c1⟩:=h5 _ _ q1
 obtain ⟨g',o',e,c2⟩:=h5 _ _ q2
 cases e
 obtain ⟨g',o',e,c3⟩:=h5 _ _ q3
 cases e
 exact ⟨g,o,rfl,h4 g rfl,c1,c2,c3⟩
theorem RdS.at {w:World} {a:Option Addr} {n cap:Nat} {l:List Bs} (h:RdS w (.slice a n cap) l) (k:Nat) (hk:k<l.length):∃ g o,a=some ⟨g,o,none⟩∧w.cell? ⟨g,o+k,none⟩=some (.string ⟨(l[k]'hk).toArray⟩):=by
 obtain ⟨_,a',cap',e,_,_,_,h5⟩:=h
 cases e
 exact h5 k _ (B3a l k hk)
end Go.Proofs.YtodcnkbblippnaaGreatDoor
namespace Go.Proofs.YtodcnkbblippnaaGreatDoor
open Go.RowKit
structure Lim (a c m:Nat):Prop where
 a:a≤1073741824
 c:c≤1000000000000
 m:m≤4294967296
theorem Fit.usedLim {P:PD} {a c m:Nat} (h:Fit P a c m) (hl:Lim a c m):A0J P.F P.D.dir≤4611686018427387904:=
 Nat.le_trans h.used (Nat.le_trans (Nat.mul_le_mul hl.a hl.m) (by decide))
theorem A3N {P:PD} {a c m:Nat} (h:Fit P a c m) (nm:ByteArray):(A1o P.D P.F nm).1≤m:=by
 unfold A1o
 cases hx:A0u P.D.dir nm with
 | none=>simp
 | some f=>have:=h.len f (A0T hx);simp;omega
section
variable {w:World} {b fb:Nat} {P:PD} {Ft:Nat→Prop} {T:TypeId} {name:ByteArray} {s a c m:Nat}
theorem B4K (hf:A0z w fb T (.pointer (some ⟨b,0,none⟩)) name s) (h:A1A w b P Ft) (hF:Fit P a c m) (hl:Lim a c m):
 Calls Tryz.prog 240 #[.pointer (some ⟨fb,0,none⟩)] w fun e w'=>e=.returned (.int .i64 (P.create name).1)∧A0A w Ft w' (fun w' Ft'=>A1A w' b (P.create name).2 Ft'):=
 B1J hf h P.D.fresh P.D.fresh_not (by have:=hF.dir;have:=hF.chg;have:=hl.a;have:=hl.c;omega)
theorem B5T (hf:A0z w fb T (.pointer (some ⟨b,0,none⟩)) name s) (h:A1A w b P Ft):
 Calls Tryz.prog 164 #[.pointer (some ⟨fb,0,none⟩)] w fun e w'=>e=.returned (.int .i64 (P.sync name).1)∧A0A w Ft w' (fun w' Ft'=>A1A w' b (P.sync name).2 Ft'):=B5Q hf h
def A9b (w:World) (Ft:Nat→Prop) (fb:Nat) (w':World) (b:Nat) (P:PD):Prop:=A6I w Ft fb w' b P.D P.F
theorem B6e (hf:A0z w fb T (.pointer (some ⟨b,0,none⟩)) name s) (hs:s<4294967296) (h:A1A w b P Ft) (hlt:∀ k,Ft k→k<w.heap.size) (hn:¬ Ft fb) (l:Bs) (hll:l.length≤4294967296) (hF:Fit P a c m) (hl:Lim a c m):
 Calls Tryz.prog 237 #[.pointer (some ⟨fb,0,none⟩),.string ⟨l.toArray⟩] w fun e w'=>e=.returned (.tuple #[.bool (P.add name s l).1,.int .i64 (P.add name s l).2.1])∧A0z w' fb T (.pointer (some ⟨b,0,none⟩)) name (A0w s l)∧A9b w Ft fb w' b (P.add name s l).2.2:=by
 have hm:=hl.m
 have hp:(A0L s l).length=l.length+4:=by simp [A0L,A1i]
 have hA:=hF.append name (A0L s l)
 have hz:=A3N hA name
 have hz2:=A3N hF name
 exact B5L hf hs h hlt hn l hF.room (hF.usedLim hl) hF.part (fun f hf=>by have:=hF.len f (A0T hf);omega) (by omega) ⟨by
  show (A1o (P.append name (A0L s l)).2.D (P.append name (A0L s l)).2.F name).1≤_;omega,by omega⟩
set_option maxRecDepth 100000 in
set_option maxHeartbeats 2000000 in
theorem B4D (nm l:Bs) (hs:s<4294967296) (h:A1A w b P Ft) (hlt:∀ k,Ft k→k<w.heap.size) (hll:l.length≤4294967296) (hF:Fit P a c m) (hl:Lim (a+1) (c+1) m):
 Calls Tryz.prog 196 #[.agg #[.pointer (some ⟨b,0,none⟩),.string ⟨nm.toArray⟩,.int .u32 s],.string ⟨l.toArray⟩] w fun e w'=>e=.returned (.int .i64 (P.write nm s l).1)∧A0A w Ft w' (fun w' Ft'=>A1A w' b (P.write nm s l).2 Ft'):=by
 have hl0:Lim a c m:=⟨by have:=hl.a;omega,by have:=hl.c;omega,hl.m⟩
 have hfb:A0z (w.alloc (.cells #[.pointer (some ⟨b,0,none⟩),.string (nmB nm),.int .u32 s] 160)) w.heap.size 160 (.pointer (some ⟨b,0,none⟩)) (nmB nm) s:=heap_alloc_new w _
 have k0:Chg (fun _=>False) w (w.alloc (.cells #[.pointer (some ⟨b,0,none⟩),.string (nmB nm),.int .u32 s] 160)):=(Chg.refl _ w).alloc _
 have h0:A1A (w.alloc (.cells #[.pointer (some ⟨b,0,none⟩),.string (nmB nm),.int .u32 s] 160)) b P Ft:=A0R.same h hlt k0
 have CR:=A0b (B4K hfb h0 hF hl0)
 have AD:Hid (∀ w1,A0z w1 w.heap.size 160 (.pointer (some ⟨b,0,none⟩)) (nmB nm) s→∀ Ft1,A1A w1 b (P.create (nmB nm)).2 Ft1→(∀ k,Ft1 k→k<w1.heap.size)→¬ Ft1 w.heap.size→_):=fun w1 q1 Ft1 q2 q3 q4=>B6e q1 hs q2 q3 q4 l hll (hF.create (nmB nm)) hl
 have SY:Hid (∀ w1,A0z w1 w.heap.size 160 (.pointer (some ⟨b,0,none⟩)) (nmB nm) (A0w s l)→∀ Ft1,A1A w1 b ((P.create (nmB nm)).2.add (nmB nm) s l).2.2 Ft1→_):=fun w1 q1 Ft1 q2=>B5T q1 q2
 have HFB:=A0b hfb
 have K0:=A0b k0
 have HLT:=A0b hlt
 have W:Hid (P.write nm s l=if (P.create (nmB nm)).1≠0 then P.create (nmB nm) else
  if ((P.create (nmB nm)).2.add (nmB nm) s l).2.1≠0 then ((P.create (nmB nm)).2.add (nmB nm) s l).2 else
  ((P.create (nmB nm)).2.add (nmB nm) s l).2.2.sync (nmB nm)):=rfl
 obtain ⟨R,hR⟩:∃ R,P.write nm s l=R:=⟨_,rfl⟩
 rw [hR] at W ⊢
 obtain ⟨C,hC⟩:∃ C,P.create (nmB nm)=C:=⟨_,rfl⟩
 rw [hC] at W CR AD SY
 obtain ⟨D,hD⟩:∃ D,C.2.add (nmB nm) s l=D:=⟨_,rfl⟩
 rw [hD] at W AD SY
 obtain ⟨E,hE⟩:∃ E,D.2.2.sync (nmB nm)=E:=⟨_,rfl⟩
 rw [hE] at W SY
 clear hR hC hD hE hfb k0 h0 hF hl hl0 hlt h
 go_enter Tryz.func196,Tryz.ntmps196
 go_wp2_with (fail)
 refine CR.out.mono ?_
 rintro e w1 ⟨rfl,hc1,Ft1,q2,q3,q4⟩
 have FB1:=A0b (HFB.out.keep hc1 fun h=>Nat.lt_irrefl _ (HLT.out _ h))
 have K1:Hid (Chg (fun k=>Ft k) w w1):=(K0.out.mono fun _ _ h=>h.elim).trans hc1 fun _ h _=>h
 have HW1:Hid (w.heap.size<w1.heap.size):=FB1.out.lt
 have Q2:=A0b q2
 have Q3:=A0b q3
 have Q4:Hid (∀ k,Ft1 k→Ft k∨w.heap.size<k):=fun k hk=>(q4 k hk).imp id fun h=>by simp at h;omega
 have NF:Hid (¬ Ft1 w.heap.size):=fun hk=>(Q4.out _ hk).elim (fun h=>Nat.lt_irrefl _ (HLT.out _ h)) fun h=>Nat.lt_irrefl _ h
 have AD1:=A0b (AD.out w1 FB1.out Ft1 q2 q3 NF.out)
 clear hc1 q2 q3 q4 CR HFB K0 AD
 by_cases hc:C.1=0
 case neg=>
  have hR:R=C:=by rw [W.out,if_pos hc]
  have hb:(C.1 != 0)=true:=by simpa using hc
  clear AD1 SY
  go_wp2
  go_ret
  subst hR
  exact ⟨rfl,K1.out,Ft1,Q2.out,Q3.out,fun k hk=>(Q4.out k hk).imp id Nat.le_of_lt⟩
 case pos=>
 have hb:(C.1 != 0)=false:=by simpa using hc
 have W2:Hid (R=if D.2.1≠0 then D.2 else E):=by rw [W.out,if_neg (by simpa using hc)];rfl
 clear W
 have ADW:∀ w2,(A0z w2 w.heap.size 160 (.pointer (some ⟨b,0,none⟩)) (nmB nm) (A0w s l)∧A9b w1 Ft1 w.heap.size w2 b D.2.2)→Hid (Chg (fun k=>Ft k) w w2∧∃ Ft2,A1A w2 b D.2.2 Ft2∧(∀ k,Ft2 k→k<w2.heap.size)∧(∀ k,Ft2 k→Ft k∨w.heap.size<k)∧Calls Tryz.prog 164 #[.pointer (some ⟨w.heap.size,0,none⟩)] w2 fun e w'=>e=.returned (.int .i64 E.1)∧A0A w2 Ft2 w' (fun w' Ft'=>A1A w' b E.2 Ft')):=by
  rintro w2 ⟨hf2,hc2,Ft2,p2,p3,p4⟩
  refine ⟨K1.out.trans hc2 fun x hx hlt=>hx.elim (fun h=>(Q4.out x h).resolve_right (by omega)) fun h=>by omega,Ft2,p2,p3,fun k hk=>(p4 k hk).elim (fun h=>Q4.out k h) fun h=>.inr (by have:=HW1.out;omega),SY.out w2 hf2 Ft2 p2⟩
 have HADW:=A0b ADW
 clear ADW SY K1 Q2 Q3 Q4 NF
 by_cases hd:D.2.1=0
 case neg=>
  have hR:R=D.2:=by rw [W2.out,if_pos hd]
  have hb2:(D.2.1 != 0)=true:=by simpa using hd
  go_wp2_with (go_at_call 237;refine AD1.out.mono ?_;rintro e w2 ⟨rfl,hf2,hc2⟩;have HD:=HADW.out w2 ⟨hf2,hc2⟩;clear hf2 hc2)
  go_ret
  subst hR
  obtain ⟨k2,Ft2,p2,p3,p5,-⟩:=HD.out
  exact ⟨rfl,k2,Ft2,p2,p3,fun k hk=>(p5 k hk).imp id Nat.le_of_lt⟩
 case pos=>
 have hb2:(D.2.1 != 0)=false:=by simpa using hd
 have hR:R=E:=by rw [W2.out,if_neg (by simpa using hd)]
 subst hR
 go_wp2_with (fail)
 refine AD1.out.mono ?_
 rintro e w2 ⟨rfl,hf2,hc2⟩
 obtain ⟨k2,Ft2,p2,p3,p5,sy⟩:=(HADW.out w2 ⟨hf2,hc2⟩).out
 have K2:=A0b k2
 have P5:=A0b p5
 have SY:=A0b sy
 clear hf2 hc2 k2 p2 p3 p5 sy HADW AD1
 go_wp2_with (go_at_call 164;refine SY.out.mono ?_;rintro e w3 ⟨rfl,hc3,Ft3,r2,r3,r4⟩;have HC3:=A0b hc3;have R2:=A0b r2;have R3:=A0b r3;have R4:=A0b r4;clear hc3 r2 r3 r4)
 go_ret
 exact ⟨rfl,K2.out.trans HC3.out fun x hx hlt=>(P5.out x hx).resolve_right (by omega),Ft3,R2.out,R3.out,fun k hk=>(R4.out k hk).elim (fun h=>(P5.out k h).imp id Nat.le_of_lt) fun h=>.inr (by have:=K2.out.size;omega)⟩
end
end Go.Proofs.YtodcnkbblippnaaGreatDoor
namespace Go.Proofs.YtodcnkbblippnaaGreatDoor
open Go.RowKit
theorem A8A {P:PD} {a c m:Nat} (h:Fit P a c m) (nm:Bs):(P.all nm).1.length≤m:=by
 unfold PD.all A6s
 cases hx:A0u P.D.dir (nmB nm) with
 | none=>simp
 | some f=>exact h.len f (A0T hx)
section
variable {w:World} {b:Nat} {P:PD} {Ft:Nat→Prop} {a c m:Nat}
set_option maxRecDepth 100000 in
set_option maxHeartbeats 2000000 in
theorem B5s (nm:Bs) (h:A1A w b P Ft) (hlt:∀ k,Ft k→k<w.heap.size) (hF:Fit P a c m) (hl:Lim a c m):
 Calls Tryz.prog 126 #[.agg #[.pointer (some ⟨b,0,none⟩),.string ⟨nm.toArray⟩,.int .u32 (A1m nm)]] w fun e w'=>e=.returned (.tuple #[.string ⟨(P.read nm).1.toArray⟩,.int .i64 (P.read nm).2])∧Chg (fun _=>False) w w':=by
 have hal:=A8A hF nm
 have hm:=hl.m
 have hs0:=A4O nm
 obtain ⟨s,hs⟩:∃ s,A1m nm=s:=⟨_,rfl⟩
 have RE:Hid (P.read nm=if (P.all nm).2≠0 then ([],(P.all nm).2) else match A4n s (P.all nm).1 with
  | some d=>(d,0)
  | none=>([],7)):=by rw [← hs];rfl
 obtain ⟨R,hR⟩:∃ R,P.read nm=R:=⟨_,rfl⟩
 rw [hR] at RE ⊢
 rw [hs] at hs0 ⊢
 have hfb:A0z (w.alloc (.cells #[.pointer (some ⟨b,0,none⟩),.string (nmB nm),.int .u32 s] 160)) w.heap.size 160 (.pointer (some ⟨b,0,none⟩)) (nmB nm) s:=heap_alloc_new w _
 have k0:Chg (fun _=>False) w (w.alloc (.cells #[.pointer (some ⟨b,0,none⟩),.string (nmB nm),.int .u32 s] 160)):=(Chg.refl _ w).alloc _
 have AL:=A0b (B5W hfb (A0R.same h hlt k0))
 obtain ⟨x,hx⟩:∃ x,P.all nm=x:=⟨_,rfl⟩
 have AL2:Hid (Calls Tryz.prog 166 #[.pointer (some ⟨w.heap.size,0,none⟩)] (w.alloc (.cells #[.pointer (some ⟨b,0,none⟩),.string (nmB nm),.int .u32 s] 160)) fun e w'=>e=.returned (.tuple #[.string ⟨x.1.toArray⟩,.int .i64 x.2])∧Chg (fun _=>False) (w.alloc (.cells #[.pointer (some ⟨b,0,none⟩),.string (nmB nm),.int .u32 s] 160)) w'):=by
  rw [← hx];exact AL.out
 rw [hx] at RE hal
 obtain ⟨t,ae⟩:=x
 dsimp only at RE hal AL2
 have HFB:=A0b hfb
 have K0:=A0b k0
 have HS0:=A0b hs0
 clear hx hs hR hfb k0 AL h hlt hF hl hs0
 go_enter Tryz.func126,Tryz.ntmps126
 by_cases he:ae=0
 case neg=>
  have hb:(ae != 0)=true:=by simpa using he
  have hR:R=([],ae):=by rw [RE.out,if_pos he]
  subst hR
  go_wp2_with (go_at_call 166;refine AL2.out.mono ?_;rintro e w1 ⟨rfl,hc1⟩;have HC1:=A0b hc1;clear hc1)
  go_ret2
  exact ⟨rfl,K0.out.trans HC1.out fun _ h _=>h⟩
 case pos=>
 subst he
 have RE2:Hid (R=match A4n s t with
  | some d=>(d,0)
  | none=>([],7)):=by rw [RE.out,if_neg (by simp)];rfl
 clear RE
 have UN:Hid (∀ w1,A0z w1 w.heap.size 160 (.pointer (some ⟨b,0,none⟩)) (nmB nm) s→∃ (d:Bs) (ok:Bool),R=(if ok then (d,0) else ([],7))∧Calls Tryz.prog 167 #[.pointer (some ⟨w.heap.size,0,none⟩),.string ⟨t.toArray⟩] w1 fun e w'=>e=.returned (.tuple #[.string ⟨d.toArray⟩,.bool ok])∧Chg (One w.heap.size) w1 w'):=fun w1 hf1=>by
  by_cases h4:t.length<4
  ·refine ⟨[],false,?_,?_⟩
   ·rw [RE2.out];unfold A4n;rw [if_pos h4];rfl
   ·refine (A7O w1 w.heap.size t h4).mono ?_
    rintro e w' ⟨rfl,rfl⟩
    exact ⟨rfl,Chg.refl _ _⟩
  ·refine ⟨t.take (t.length - 4),decide (A2x (A0w s (t.take (t.length - 4)))=t.drop (t.length - 4)),?_,?_⟩
   ·rw [RE2.out];unfold A4n;rw [if_neg h4]
    by_cases hq:A2x (A0w s (t.take (t.length - 4)))=t.drop (t.length - 4)
    ·rw [if_pos hq,decide_eq_true hq];rfl
    ·rw [if_neg hq,decide_eq_false hq];rfl
   ·have:=A4J w1 w.heap.size 160 (.pointer (some ⟨b,0,none⟩)) (nmB nm) s (t.take (t.length - 4)) (t.drop (t.length - 4)) hf1 HS0.out (by rw [List.length_drop];omega) (by rw [List.length_take];omega)
    rw [List.take_append_drop] at this
    refine this.mono ?_
    rintro e w' ⟨h1,h2,h3⟩
    exact ⟨h1,h3⟩
 clear RE2
 go_wp2_with (fail)
 refine AL2.out.mono ?_
 rintro e w1 ⟨rfl,hc1⟩
 obtain ⟨d,ok,hR,hun⟩:=UN.out w1 (HFB.out.keep hc1 (fun h=>h))
 have K1:Hid (Chg (fun _=>False) w w1):=K0.out.trans hc1 fun _ h _=>h
 have HUN:=A0b hun
 clear hc1 hun UN AL2 K0 HFB
 cases ok with
 | false=>
  simp only [Bool.false_eq_true,if_false] at hR
  subst hR
  go_wp2_with (go_at_call 167;refine HUN.out.mono ?_;rintro e w2 ⟨rfl,hc2⟩;have HC2:=A0b hc2;clear hc2)
  go_ret2
  exact ⟨rfl,K1.out.trans HC2.out fun x hx hlt=>by cases hx;omega⟩
 | true=>
  simp only [if_true] at hR
  subst hR
  go_wp2_with (go_at_call 167;refine HUN.out.mono ?_;rintro e w2 ⟨rfl,hc2⟩;have HC2:=A0b hc2;clear hc2)
  go_ret2
  exact ⟨rfl,K1.out.trans HC2.out fun x hx hlt=>by cases hx;omega⟩
end
theorem Tryz.infoInt:(Tryz.prog.info? 3).map (fun i=>(i.zero,i.size,i.bytes))=some (some (.int .i64 0),1,8):=by kernel_rfl
theorem A8U {k:Nat} {l:Bs} (h:l.length<8):A5I k l = []:=by cases k <;> simp [A5I,h]
theorem B0j (l:Bs): -9223372036854775808≤A1P l∧A1P l≤9223372036854775807:=by unfold A1P wrap64;omega
set_option maxRecDepth 100000 in
set_option maxHeartbeats 2000000 in
theorem B1i (w:World) (l0:Bs) (hl0:l0.length≤4294967296):
 Calls Tryz.prog 127 #[.string ⟨l0.toArray⟩] w fun e w'=>∃ v,e=.returned v∧A5p w' v (A3w l0)∧(∀ g,v.ownBlock=some g→w.heap.size≤g)∧Chg (fun _=>False) w w':=by
 obtain ⟨R,hR⟩:∃ R,A3w l0=R:=⟨_,rfl⟩
 have HR:Hid (A5I l0.length l0=R):=hR
 rw [hR]
 clear hR
 obtain ⟨i0,hi,hz0,hz1,hz2⟩:∃ i0,Tryz.prog.info? 3=some i0∧i0.zero=some (.int .i64 0)∧i0.size=1∧i0.bytes=8:=by
  have h:=Tryz.infoInt
  cases hx:Tryz.prog.info? 3 with
  | none=>rw [hx] at h;cases h
  | some i=>rw [hx] at h;simp at h;exact ⟨i,rfl,h.1,h.2.1,h.2.2⟩
 go_enter Tryz.func127,Tryz.ntmps127
 go_wp2
 go_loopw [0,3] (fun tv v wr=>∃ (l:Bs) (k:Nat) (ns:List Int),tv=.string ⟨l.toArray⟩∧ns.length*8+l.length≤l0.length∧Hid (A5p wr v ns∧(∀ g,v.ownBlock=some g→w.heap.size≤g)∧Chg (fun _=>False) w wr∧l.length≤k∧R=ns ++ A5I k l)) (fun tv _ _=>match tv with | .string x=>x.size | _=>0)
 case atStart=>exact ⟨l0,l0.length,[],rfl,by simp,World.ownsRow_nil _ _ _ _,fun g hg=>by simp [Value.ownBlock] at hg,Chg.refl _ _,Nat.le_refl _,by rw [HR.out];rfl⟩
 case round=>
  obtain ⟨l,k,ns,rfl,hpl,hI⟩:=hrel
  have hlen:(ByteArray.mk l.toArray).size=l.length:=by show l.toArray.size=_;simp
  by_cases h8:l.length<8
  case pos=>
   obtain ⟨i1,i2,i3,-,i5⟩:=hI.out
   rw [A8U h8,List.append_nil] at i5
   subst i5
   have hlt:¬ (8≤(l.length:Int)):=by omega
   clear hI
   have I1:=A0b i1
   have I2:=A0b i2
   have I3:=A0b i3
   clear i1 i2 i3
   go_wp2
   go_ret
   exact ⟨_,rfl,I1.out,I2.out,I3.out⟩
  case neg=>
   obtain ⟨i1,i2,i3,i4,i5⟩:=hI.out
   obtain ⟨k,rfl⟩:∃ k',k=k'+1:=⟨k - 1,by omega⟩
   have I5:Hid (R=(ns ++ [A1P l]) ++ A5I k (l.drop 8)):=by
    unfold Hid;rw [i5];simp [A5I,h8]
   have IO:=A0b (A3T wr l (by omega))
   have hx:=B0j l
   obtain ⟨x,hxe⟩:∃ x,A1P l=x:=⟨_,rfl⟩
   rw [hxe] at I5 IO hx
   obtain ⟨ap,cp,rfl,hcap1,hcap2,-⟩:=A0g i1
   unfold maxLen at hcap2
   have e2:(ByteArray.mk l.toArray).extract 8 l.length=⟨(l.drop 8).toArray⟩:=by
    rw [A1k,List.take_of_length_le (by rw [List.length_drop];omega)]
   have hld:(l.drop 8).length=l.length - 8:=List.length_drop
   obtain ⟨q,hq⟩:∃ q,l.drop 8=q:=⟨_,rfl⟩
   rw [hq] at e2 I5 hld
   obtain ⟨tx,htx⟩:∃ tx,ByteArray.mk l.toArray=tx:=⟨_,rfl⟩
   rw [htx] at e2 hlen IO ⊢
   obtain ⟨ll,hll⟩:∃ ll,l.length=ll:=⟨_,rfl⟩
   rw [hll] at e2 hlen hld hpl h8 i4
   have h8i:(8:Int)≤(ll:Int):=by omega
   have H1:=A0b i1
   have H2:=A0b i2
   have H3:=A0b i3
   have H4:=A0b i4
   have HLD:=A0b hld
   have HPL:=A0b hpl
   clear hll htx hq hxe i1 i2 i3 i4 i5 hI h8 hld hpl
   go_wp2_with (first
    | (go_at_call 168;refine IO.out.mono ?_;rintro e w4 ⟨rfl,rfl⟩)
    | (at_builtin
       have HROW:Hid ((wr.alloc (.cells #[.int .i64 x] 3)).ownsRow 0 3 1 (.slice ap ns.length cp) ns.length (A0X ns)):=A0a H1.out fun g hg=>Below.heap_alloc _ _ _ (A0c H1.out hg)
       have HS1:=A0b (Src.ofNew (size:=1) (B:=wr.heap.size) Tryz.underlying26 wr #[.int .i64 x] 3 (by simp) 1 1 rfl (A1v [x]))
       refine A0o rfl (.tmp 9) (.tmp 12) 26 26 rfl 3 i0 _ 1 8 Tryz.underlying26 hi hz0 hz1 hz2 rfl (by decide) (.slice ap ns.length cp) ns.length (A0X ns) (by rfl) HROW.out _ 1 _ (by rfl) HS1.out (by have:=HPL.out;omega) ?_
       intro a8 cap8 w8 hA
       have HA:=A0b hA
       clear hA))
   go_roundw
   case rel=>
    have hA:=HA.out
    have hA2:=hA.chg (S:=fun k=>(Value.slice ap ns.length cp).ownBlock=some k) fun _ h=>h
    have k9:Chg (fun _=>False) wr (wr.alloc (.cells #[.int .i64 x] 3)):=(Chg.refl _ wr).alloc _
    refine ⟨q,k,ns ++ [x],rfl,by have:=HPL.out;have:=HLD.out;simp;omega,?_,?_,?_,by have:=H4.out;have:=HLD.out;omega,I5.out⟩
    ·have e:(ns ++ [x]).length=ns.length+1:=by simp
     unfold A5p
     rw [A2d,e]
     exact hA.own
    ·intro g hg
     rcases hA.at_ with h | h
     ·rw [h] at hg;exact H2.out g hg
     ·rw [h] at hg;cases hg;have:=H3.out.size;have:=k9.size;omega
    ·exact (H3.out.trans k9 fun _ h _=>h).trans hA2 fun y hy hlt=>by have:=H2.out y hy;omega
   case measure=>
    have e:(ByteArray.mk q.toArray).size=q.length:=by show q.toArray.size=_;simp
    have:=HLD.out
    simp only [e,hlen]
    omega
end Go.Proofs.YtodcnkbblippnaaGreatDoor
namespace Go.Proofs.YtodcnkbblippnaaGreatDoor
open Go.RowKit
theorem Tryz.builderSize:(Tryz.prog.info? 260).map (·.size)=some 2:=by kernel_rfl
theorem Tryz.builderLies:liesAt Tryz.prog Tryz.prog.depth 260 (2 / Tryz.prog.cellsOf 260) 0 260 1=true:=by kernel_rfl
def B0E (B b:Nat) (l:List UInt8) (w:World):Prop:=Lib.IsBuilder 260 5 B b (Lib.byteCells l) w
set_option maxRecDepth 100000 in
set_option maxHeartbeats 1000000 in
theorem A7d (B b:Nat) (bs:List Value) (w:World) (h:Lib.IsBuilder 260 5 B b bs w):
 Calls Tryz.prog 238 #[.pointer (some ⟨b,0,none⟩)] w fun e w'=>e=.returned (.tuple #[])∧(Lib.BuilderAt 260 5 B b (.pointer (some ⟨b,0,none⟩)) bs w'∧Below B w w'):=by
 obtain ⟨j,hj,hjs⟩:=Option.map_eq_some_iff.1 Tryz.builderSize
 rcases h with h | h
 ·have h0:=h.cell0
  have hsh:=h.shape
  have hfz:=h.frozen0
  have H:=A0b h
  clear h
  go_enter Tryz.func238,Tryz.ntmps238
  go_wp2
  rw [Lib.run_to_unsafe w ⟨b,0,none⟩ Tryz.underlying258 Tryz.underlying217 hj (by rw [hjs];decide) hsh (Nat.zero_lt_succ 1)]
  simp only [Result.andThen]
  rw [Oper.upon_value]
  go_wp2
  rw [run_callFunc_extern Tryz.func262 (by kernel_rfl) (by kernel_rfl) (by kernel_rfl) (e:=Extern.AbiNoEscape.same) (by kernel_rfl)]
  rw [Lib.run_noEscape]
  simp only [Result.andThen]
  rw [Oper.upon_value]
  go_wp2
  rw [Lib.run_from_unsafe w ⟨b,0,none⟩ Tryz.underlying217 Tryz.underlying258 hj hsh Tryz.builderLies]
  simp only [Result.andThen]
  rw [Oper.upon_value]
  go_wp2
  go_end0
  exact ⟨rfl,H.out.used _,(Below.refl B w).setCell (p:=⟨b,0,none⟩) H.out.1 _⟩
 ·have h0:=h.cell0
  have H:=A0b h
  clear h
  go_enter Tryz.func238,Tryz.ntmps238
  go_wp2
  rw [Lib.run_neq_ptr_same w _ Tryz.underlying258 hj]
  go_wp2
  go_end0
  exact ⟨rfl,H.out,Below.refl B _⟩
set_option maxRecDepth 100000 in
set_option maxHeartbeats 1000000 in
theorem A5R (B b:Nat) (bs:List Value) (s:ByteArray) (w:World) (h:Lib.IsBuilder 260 5 B b bs w) (hlen:bs.length+s.size≤140737488355328) (hBw:B≤w.heap.size):
 Calls Tryz.prog 194 #[.pointer (some ⟨b,0,none⟩),.string s] w fun e w'=>e=.returned (.tuple #[.int .i64 s.size,.nilIface])∧(Lib.BuilderAt 260 5 B b (.pointer (some ⟨b,0,none⟩)) (bs ++ Lib.strCells s) w'∧Below B w w'):=by
 obtain ⟨i0,hi,hz0,hz1,hz2⟩:=info_parts Tryz.infoByte
 go_enter Tryz.func194,Tryz.ntmps194
 go_wp2_with (go_at_call 238;refine (A7d B b bs _ h).mono ?_)
 rintro e w1 ⟨rfl,h1,hb1⟩
 obtain ⟨hB,v,hbk,hown,hne⟩:=h1
 have c0:w1.cell? ⟨b,0,none⟩=some (.pointer (some ⟨b,0,none⟩)):=by rw [Lib.cell_of_heap hbk];rfl
 have c1:w1.cell? ⟨b,1,none⟩=some v:=by rw [Lib.cell_of_heap hbk];rfl
 go_wp2_with (at_builtin;refine Lib.wpList_append_own_string _ rfl _ _ 127 9 rfl B 5 i0 Tryz.underlying127 Tryz.underlying9 hi hz0 hz1 hz2 _ _ _ rfl hown s rfl ?c3 ?c4 ?c5 ?_)
 case c3=>unfold maxLen;omega
 case c4=>omega
 case c5=>have:=hb1.size;omega
 intro v' w2 hown' hgrow _
 have hlt:b<w1.heap.size:=by
  rcases Nat.lt_or_ge b w1.heap.size with h' | h'
  ·exact h'
  ·simp [Array.getElem?_eq_none h'] at hbk
 have hb2:w2.heap[b]?=some (.cells #[.pointer (some ⟨b,0,none⟩),v] 260 (0,0)):=by
  rw [hgrow.block b hlt (fun e=>hne e.symm)]
  exact hbk
 have d0:w2.cell? ⟨b,0,none⟩=some (.pointer (some ⟨b,0,none⟩)):=by rw [Lib.cell_of_heap hb2];rfl
 have d1:w2.cell? ⟨b,1,none⟩=some v:=by rw [Lib.cell_of_heap hb2];rfl
 have f1:w2.frozen? ⟨b,1,none⟩=false:=Lib.frozen_of_heap hb2 1
 obtain ⟨ao,n',cap,rfl⟩:∃ ao n' cap,v'=.slice ao n' cap:=by
  rcases hown'.2 with ⟨hv,_⟩ | ⟨g,cap,cur,hv,_⟩
  ·exact ⟨_,_,_,hv⟩
  ·exact ⟨_,_,_,hv⟩
 go_wp2
 go_ret2
 refine ⟨rfl,?_,?_⟩
 ·exact Lib.BuilderAt.put (T:=260) (e:=5) hB hb2 (bs':=bs ++ Lib.strCells s) (by simpa [Lib.strCells_length] using hown') (by decide)
 ·exact (hb1.grown hgrow (by have:=hb1.size;omega) (fun k hk=>(hown.lt k hk).1)).setCell (p:=⟨b,1,none⟩) hB _
theorem A9j (l:List UInt8):Lib.strCells ⟨l.toArray⟩=Lib.byteCells l:=by
 simp [Lib.strCells,Lib.byteCells]
theorem A2k {B b:Nat} {l t:List UInt8} (w:World) (h:B0E B b l w) (hlen:l.length+t.length≤140737488355328) (hBw:B≤w.heap.size):
 Calls Tryz.prog 194 #[.pointer (some ⟨b,0,none⟩),.string ⟨t.toArray⟩] w fun e w'=>e=.returned (.tuple #[.int .i64 t.length,.nilIface])∧B0E B b (l ++ t) w'∧Below B w w':=by
 have hs:(ByteArray.mk t.toArray).size=t.length:=by show t.toArray.size=_;simp
 refine (A5R B b (Lib.byteCells l) ⟨t.toArray⟩ w h (by rw [Lib.byteCells_length,hs];exact hlen) hBw).mono ?_
 rintro e w' ⟨rfl,h1,h2⟩
 refine ⟨by rw [hs],.inr ?_,h2⟩
 rw [A9j] at h1
 have:Lib.byteCells (l ++ t)=Lib.byteCells l ++ Lib.byteCells t:=by simp [Lib.byteCells]
 rw [this];exact h1
theorem B3v {B b:Nat} {l:List UInt8} (w:World) (h:B0E B b l w) (hBw:B≤w.heap.size):
 Calls Tryz.prog 197 #[.pointer (some ⟨b,0,none⟩)] w fun e w'=>e=.returned (.string ⟨l.toArray⟩)∧Below B w w':=Tryz.Builder_String_any B b l w h hBw
theorem B5A (w:World):B0E w.heap.size w.heap.size [] (w.alloc (.cells #[.pointer none,.slice none 0 0] 260)):=
 .inl ⟨Nat.le_refl _,_,heap_alloc_new w _,World.ownsRow_nil _ _ _ _,by simp [Value.ownBlock]⟩
theorem B0E.keep {B b:Nat} {l:List UInt8} {w w':World} {S:Nat→Prop} (h:B0E B b l w) (hc:Chg S w w') (hS:∀ k,S k→k<B):B0E B b l w':=by
 have key:∀ p,Lib.BuilderAt 260 5 B b p (Lib.byteCells l) w→Lib.BuilderAt 260 5 B b p (Lib.byteCells l) w':=by
  rintro p ⟨hB,v,h1,h2,h3⟩
  refine ⟨hB,v,hc.keep h1 (fun h=>by have:=hS _ h;omega),?_,h3⟩
  exact A0a h2 fun g hg=>hc.block g (A0c h2 hg) (fun h=>by have:=hS _ h;have:=(h2.lt g hg).1;omega)
 exact h.imp (key _) (key _)
end Go.Proofs.YtodcnkbblippnaaGreatDoor
namespace Go.Proofs.YtodcnkbblippnaaGreatDoor
open Go.RowKit
section
variable {α:Type} (lt:α→α→Bool)
structure A3z:Prop where
 irr:∀ x,lt x x=false
 trans:∀ x y z,lt x y=true→lt y z=true→lt x z=true
 parts:∀ x y z,lt x z=true→lt x y=true∨lt y z=true
def eqv (x y:α):Bool:=!lt x y && !lt y x
def A2v (l l':List α):Prop:=∀ x,l.filter (eqv lt x)=l'.filter (eqv lt x)
def Asc (l:List α):Prop:=l.Pairwise fun x y=>lt y x=false
variable {lt}
theorem A2v.refl (l:List α):A2v lt l l:=fun _=>rfl
theorem A2v.symm {l l':List α} (h:A2v lt l l'):A2v lt l' l:=fun x=>(h x).symm
theorem A2v.trans {l l' l2:List α} (h:A2v lt l l') (h2:A2v lt l' l2):A2v lt l l2:=fun x=>(h x).trans (h2 x)
theorem A2v.append {a a' b b':List α} (h:A2v lt a a') (h2:A2v lt b b'):A2v lt (a ++ b) (a' ++ b'):=fun x=>by
 rw [List.filter_append,List.filter_append,h x,h2 x]
theorem A3z.eqv_self (h:A3z lt) (x:α):eqv lt x x=true:=by simp [eqv,h.irr]
theorem A3z.asymm (h:A3z lt) {x y:α} (hxy:lt x y=true):lt y x=false:=by
 cases hyx:lt y x with
 | false=>rfl
 | true=>have:=h.trans _ _ _ hxy hyx;rw [h.irr] at this;cases this
theorem A3z.le_trans (h:A3z lt) {x y z:α} (h1:lt y x=false) (h2:lt z y=false):lt z x=false:=by
 cases hzx:lt z x with
 | false=>rfl
 | true=>rcases h.parts z y x hzx with h3 | h3
         ·rw [h2] at h3;cases h3
         ·rw [h1] at h3;cases h3
theorem A3z.eqv_parts (h:A3z lt) {x y z:α} (hyz:lt y z=true) (h1:eqv lt x y=true):eqv lt x z=false:=by
 cases hz:eqv lt x z with
 | false=>rfl
 | true=>
  simp [eqv] at h1 hz
  rcases h.parts y x z hyz with h3 | h3
  ·rw [h1.2] at h3;cases h3
  ·rw [hz.1] at h3;cases h3
theorem A3z.swap (h:A3z lt) {x y:α} (hyx:lt y x=true):A2v lt [x,y] [y,x]:=fun z=>by
 simp only [List.filter_cons,List.filter_nil]
 cases h1:eqv lt z y with
 | false=>cases eqv lt z x <;> rfl
 | true=>rw [h.eqv_parts hyx h1];rfl
theorem A3z.move1 (h:A3z lt) {x:α} {ys:List α} (hy:∀ y∈ys,lt y x=true):A2v lt (x :: ys) (ys ++ [x]):=by
 induction ys with
 | nil=>exact A2v.refl _
 | cons y r ih=>
  have h1:A2v lt (x :: y :: r) (y :: x :: r):=by
   have:=(h.swap (hy y (List.mem_cons_self ..))).append (A2v.refl (lt:=lt) r)
   simpa using this
  have h2:A2v lt (y :: x :: r) (y :: (r ++ [x])):=by
   have:=(A2v.refl (lt:=lt) [y]).append (ih fun z hz=>hy z (List.mem_cons_of_mem _ hz))
   simpa using this
  exact h1.trans h2
theorem A3z.move (h:A3z lt) {xs ys:List α} (hxy:∀ x∈xs,∀ y∈ys,lt y x=true):A2v lt (xs ++ ys) (ys ++ xs):=by
 induction xs with
 | nil=>simpa using A2v.refl (lt:=lt) ys
 | cons x r ih=>
  have h1:=ih fun z hz=>hxy z (List.mem_cons_of_mem _ hz)
  have h2:A2v lt (x :: (r ++ ys)) (x :: (ys ++ r)):=by simpa using (A2v.refl (lt:=lt) [x]).append h1
  have h3:A2v lt (x :: ys ++ r) (ys ++ [x] ++ r):=(h.move1 (hxy x (List.mem_cons_self ..))).append (A2v.refl r)
  have:=h2.trans h3
  simpa using this
theorem A3z.move1' (h:A3z lt) {y:α} {xs:List α} (hy:∀ x∈xs,lt y x=true):A2v lt (xs ++ [y]) (y :: xs):=by
 simpa using h.move (xs:=xs) (ys:=[y]) fun x hx z hz=>by simp at hz;subst hz;exact hy x hx
theorem A2v.mem {l l':List α} (hw:A3z lt) (h:A2v lt l l') {x:α} (hx:x∈l):x∈l':=by
 have:x∈l.filter (eqv lt x):=List.mem_filter.2 ⟨hx,hw.eqv_self x⟩
 rw [h x] at this
 exact (List.mem_filter.1 this).1
theorem A3z.unique (hw:A3z lt):∀ {l l':List α},Asc lt l→Asc lt l'→A2v lt l l'→l=l'
 | [],[],_,_,_=>rfl
 | [],b :: r',_,_,h=>by have:=(h.symm).mem hw (List.mem_cons_self (a:=b) (l:=r'));cases this
 | a :: r,[],_,_,h=>by have:=h.mem hw (List.mem_cons_self (a:=a) (l:=r));cases this
 | a :: r,b :: r',h1,h2,h=>by
  have ha:=List.pairwise_cons.1 h1
  have hb:=List.pairwise_cons.1 h2
  have hab:lt a b=false:=by
   rcases List.mem_cons.1 (h.mem hw (List.mem_cons_self (a:=a) (l:=r))) with rfl | hm
   ·exact hw.irr _
   ·exact hb.1 a hm
  have hba:lt b a=false:=by
   rcases List.mem_cons.1 (h.symm.mem hw (List.mem_cons_self (a:=b) (l:=r'))) with rfl | hm
   ·exact hw.irr _
   ·exact ha.1 b hm
  have he:eqv lt a b=true:=by simp [eqv,hab,hba]
  have hf:=h a
  rw [List.filter_cons_of_pos (hw.eqv_self a),List.filter_cons_of_pos he] at hf
  obtain rfl:a=b:=(List.cons.inj hf).1
  refine congrArg (a :: ·) (hw.unique ha.2 hb.2 fun x=>?_)
  have hx:=h x
  cases hc:eqv lt x a with
  | true=>rw [List.filter_cons_of_pos hc,List.filter_cons_of_pos hc] at hx;exact (List.cons.inj hx).2
  | false=>rw [List.filter_cons_of_neg (by rw [hc];decide),List.filter_cons_of_neg (by rw [hc];decide)] at hx;exact hx
theorem B1I {x y:α} {l:List α}:y∈A4k lt x l↔y=x∨y∈l:=by
 induction l with
 | nil=>simp [A4k]
 | cons z r ih=>
  unfold A4k
  split
  ·simp
  ·simp only [List.mem_cons,ih]
   constructor
   ·rintro (h | h | h)
    ·exact .inr (.inl h)
    ·exact .inl h
    ·exact .inr (.inr h)
   ·rintro (h | h | h)
    ·exact .inr (.inl h)
    ·exact .inl h
    ·exact .inr (.inr h)
theorem A3z.insSt_asc (hw:A3z lt) {x:α} {l:List α} (h:Asc lt l):Asc lt (A4k lt x l):=by
 induction l with
 | nil=>simp [A4k,Asc]
 | cons z r ih=>
  have hz:=List.pairwise_cons.1 h
  unfold A4k
  split
  ·rename_i hc
   refine List.pairwise_cons.2 ⟨fun y hy=>?_,h⟩
   rcases List.mem_cons.1 hy with rfl | hy
   ·exact hw.asymm hc
   ·exact hw.le_trans (hw.asymm hc) (hz.1 y hy)
  ·rename_i hc
   refine List.pairwise_cons.2 ⟨fun y hy=>?_,ih hz.2⟩
   rcases B1I.1 hy with rfl | hy
   ·simpa using hc
   ·exact hz.1 y hy
theorem A3z.insSt_steq (hw:A3z lt) {x:α} {l:List α} (h:Asc lt l):A2v lt (l ++ [x]) (A4k lt x l):=by
 induction l with
 | nil=>exact A2v.refl _
 | cons z r ih=>
  have hz:=List.pairwise_cons.1 h
  unfold A4k
  split
  ·rename_i hc
   refine hw.move1' fun y hy=>?_
   rcases List.mem_cons.1 hy with rfl | hy
   ·exact hc
   ·rcases hw.parts x y z hc with h1 | h1
    ·exact h1
    ·rw [hz.1 y hy] at h1;cases h1
  ·simpa using (A2v.refl (lt:=lt) [z]).append (ih hz.2)
theorem A3z.foldIns (hw:A3z lt):∀ (l s:List α),Asc lt s→Asc lt (l.foldl (fun s x=>A4k lt x s) s)∧A2v lt (s ++ l) (l.foldl (fun s x=>A4k lt x s) s)
 | [],s,h=>⟨h,by simpa using A2v.refl (lt:=lt) s⟩
 | x :: r,s,h=>by
  obtain ⟨h1,h2⟩:=hw.foldIns r _ (hw.insSt_asc (x:=x) h)
  refine ⟨h1,A2v.trans ?_ h2⟩
  have:=(hw.insSt_steq (x:=x) h).append (A2v.refl (lt:=lt) r)
  simpa using this
theorem A3z.sort_asc (hw:A3z lt) (l:List α):Asc lt (A2m lt l):=(hw.foldIns l [] List.Pairwise.nil).1
theorem A3z.sort_steq (hw:A3z lt) (l:List α):A2v lt l (A2m lt l):=by
 have:=(hw.foldIns l [] List.Pairwise.nil).2
 rw [List.nil_append] at this;exact this
theorem A3z.sort_eq (hw:A3z lt) {l l':List α} (h:Asc lt l') (h2:A2v lt l l'):l'=A2m lt l:=
 hw.unique h (hw.sort_asc l) (h2.symm.trans (hw.sort_steq l))
theorem Asc.append {a b:List α} (h:Asc lt (a ++ b)):Asc lt a∧Asc lt b∧∀ x∈a,∀ y∈b,lt y x=false:=by
 have:=List.pairwise_append.1 h
 exact ⟨this.1,this.2.1,this.2.2⟩
theorem Asc.of_append {a b:List α} (ha:Asc lt a) (hb:Asc lt b) (h:∀ x∈a,∀ y∈b,lt y x=false):Asc lt (a ++ b):=List.pairwise_append.2 ⟨ha,hb,h⟩
theorem A3z.border (hw:A3z lt) {a b:List α} (ha:Asc lt a) (hb:Asc lt b) (h:∀ x y,a.getLast?=some x→b.head?=some y→lt y x=false):∀ x∈a,∀ y∈b,lt y x=false:=by
 intro x hx y hy
 rcases List.eq_nil_or_concat a with rfl | ⟨a',x0,rfl⟩
 ·cases hx
 cases b with
 | nil=>cases hy
 | cons y0 b'=>
  have h0:=h x0 y0 (by simp) rfl
  have hx0:lt x0 x=false:=by
   have hx':x∈a'∨x=x0:=by simpa using hx
   rcases hx' with hm | rfl
   ·exact (Asc.append (by simpa using ha)).2.2 x hm x0 (by simp)
   ·exact hw.irr _
  have hy0:lt y y0=false:=by
   rcases List.mem_cons.1 hy with rfl | hm
   ·exact hw.irr _
   ·exact (List.pairwise_cons.1 hb).1 y hm
  exact hw.le_trans (hw.le_trans hx0 h0) hy0
end
end Go.Proofs.YtodcnkbblippnaaGreatDoor
