/-
  The statement WritesUptoCardSaid is proved: the law Writes answers true for every setting and every script of at most 1048576 bytes; there is no other condition.
  Part 27 of 33.
-/
import Derived.Test.YtodcnkbblippnaaGreatDoorPart26
import Derived.Test.YtodcnkbblippnaaGreatDoorPart13
import Derived.Test.YtodcnkbblippnaaGreatDoorPart18
import Derived.Test.YtodcnkbblippnaaGreatDoorPart25
import Derived.Test.YtodcnkbblippnaaGreatDoorPart09
import Derived.Deep.RegionHeld3
import Derived.BigQuiet
import Derived.Deep.QuietTactic
import Derived.Test.YtodcnkbblippnaaGreatDoorPart20
import Derived.Test.YtodcnkbblippnaaGreatDoorPart05
namespace Go.Proofs.YtodcnkbblippnaaGreatDoor
open Go.RowKit
theorem A7j (n:Int):A0l n=108 :: (Lib.repeatL [48] (19 - (Lib.itoa n).length) ++ Lib.itoa n):=by simp [A0l,A2b,A2B,ltr]
theorem B3y (n:Int):A1d n=115 :: (Lib.repeatL [48] (19 - (Lib.itoa n).length) ++ Lib.itoa n):=by simp [A1d,A2b,A2B,ltr]
theorem B2a {lt:Bs} {a b:Int} (ha:A0W a=true) (hb:A0W b=true) (h:A2B lt a=A2B lt b):a=b:=by
 unfold A0W at ha hb
 simp at ha hb
 have h1:=A3h lt (n:=a) (by omega) (by omega)
 have h2:=A3h lt (n:=b) (by omega) (by omega)
 rw [h,h2] at h1
 simpa using h1.symm
theorem A2S {a b:Int} (ha:A0W a=true) (hb:A0W b=true) (h:A0l a=A0l b):a=b:=B2a (lt:=ltr 1) ha hb (by simpa [A0l,A2b] using h)
theorem A3R (a b:Int):A0l a≠A1d b:=by rw [A7j,B3y];simp
theorem A6Z (a:Int):A0l a≠A0N:=by rw [A7j];simp [A0N]
theorem A5j {n:Int} (h:A0W n=true):A0D (A0l n)=(1,n):=by
 have h':1≤n∧n≤4611686018427387904:=by unfold A0W at h;simpa using h
 unfold A0D
 have e:A1y [108] (A0l n)=some n:=by
  have:=A3h (ltr 1) (n:=n) (by omega) h'.2
  simpa [A0l,A2b,ltr] using this
 rw [e]
theorem B0V (a:Int):A0l a≠[]:=by rw [A7j];simp
def A2Q (P:PD):Int→List (Int × List Pu)→Prop
 | _,[]=>True
 | a,x :: r=>P.log x.1 a=(x.2,0)∧A2Q P (a+x.2.length) r
def A2l (l:List (Int × List Pu)):List Pu:=l.flatMap (·.2)
def B5B (P:PD) (j:Jn) (cl:List (Int × List Pu)):Option (List Pu)→Prop
 | none=>j.own=none∧j.logs=cl.map (·.1)
 | some l=>j.own=some (j.last,B4A (A0l j.last) j.puts l)∧j.logs=cl.map (·.1) ++ [j.last]∧P.bs (A0l j.last)=some (B3D (A0l j.last) j.puts l)∧(∀ p∈l,A4q p)∧A0W j.last=true
structure Lay (P:PD) (A:Ar) (sg cl:List (Int × List Pu)) (ol:Option (List Pu)):Prop where
 ixok:B6b A.ix
 ix:(P.bs A0N=none∧A.ix=⟨1,[]⟩)∨P.bs A0N=some (A0L (A1m A0N) (A8K A.ix.first A.ix.segs))
 segs:sg.map (·.1)=A.ix.segs
 seg:∀ x∈sg,((∀ p∈x.2,A4q p)∧A1Y A1V x.2=true)∧P.bs (A1d x.1)=some (A0L (A1m (A1d x.1)) (A3c x.2))
 clNum:∀ x∈cl,(A0W x.1=true∧x.1≤A.j.last)∧∀ p∈x.2,A4q p
 clNew:∀ x∈cl,ol≠none→x.1≠A.j.last
 firsts:(∀ x∈cl,A.ix.first≤x.1)∧(ol≠none→A.ix.first≤A.j.last)
 logs:A2Q P 0 cl
 ahead:A.j.puts=((A2l cl).length:Int)
 own:B5B P A.j cl ol
 jlast:0≤A.j.last∧A.ix.first≤A.j.last+1∧∀ n,A0W n=true→P.bs (A0l n)≠none→n≤A.j.last
 slast:0≤A.last∧∀ n,A0W n=true→P.bs (A1d n)≠none→n≤A.last
 loose:∀ nm∈A.loose,P.bs nm≠none
 jrise:A.j.logs.Pairwise (· < ·)
 named:∀ nm,P.bs nm≠none→(A0D nm).1≠0
 logsAll:∀ n,A0W n=true→A.ix.first≤n→P.bs (A0l n)≠none→n∈A.j.logs
section
variable {P P':PD} {A:Ar} {sg cl:List (Int × List Pu)} {ol:Option (List Pu)} {N R:Nat}
theorem A2Q.same (hb:∀ m,P'.bs m=P.bs m):∀ {a:Int} {l:List (Int × List Pu)},A2Q P a l→A2Q P' a l
 | _,[],_=>trivial
 | a,x :: r,h=>by
  obtain ⟨h1,h2⟩:=h
  refine ⟨?_,h2.same hb⟩
  rw [← h1]
  unfold PD.log A2q
  have e:∀ Q:PD,A6s Q.D Q.F ⟨(A0l x.1).toArray⟩=match Q.bs (A0l x.1) with | some c=>(c,0) | none=>([],8):=fun Q=>@B5E Q (A0l x.1)
  rw [e P',e P,hb]
theorem B3h {n:Int} (hb:P'.bs (A0l n)=P.bs (A0l n)) (a:Int):P'.log n a=P.log n a:=by
 unfold PD.log A2q
 have e:∀ Q:PD,A6s Q.D Q.F ⟨(A0l n).toArray⟩=match Q.bs (A0l n) with | some c=>(c,0) | none=>([],8):=fun Q=>@B5E Q (A0l n)
 rw [e P',e P,hb]
theorem A2Q.other:∀ {a:Int} {l:List (Int × List Pu)},A2Q P a l→(∀ x∈l,P'.bs (A0l x.1)=P.bs (A0l x.1))→A2Q P' a l
 | _,[],_,_=>trivial
 | a,x :: _,h,hb=>⟨(B3h (hb x (List.mem_cons_self ..)) a).trans h.1,h.2.other fun y hy=>hb y (List.mem_cons_of_mem _ hy)⟩
theorem A2Q.snoc:∀ {a:Int} {l:List (Int × List Pu)} {x:Int × List Pu},A2Q P a l→P.log x.1 (a+(A2l l).length)=(x.2,0)→A2Q P a (l ++ [x])
 | a,[],x,_,h=>⟨by simpa [A2l] using h,trivial⟩
 | a,y :: r,x,h,h2=>⟨h.1,h.2.snoc (by
  rw [← h2];congr 1
  simp only [A2l,List.flatMap_cons,List.length_append];omega)⟩
theorem A4Q:∀ {l:List (Int × List Pu)} {acc:List Pu},A2Q P acc.length l→P.putsK (l.map (·.1)) acc=(acc ++ A2l l,0)
 | [],acc,_=>by simp [PD.putsK,A2l]
 | x :: r,acc,h=>by
  obtain ⟨h1,h2⟩:=h
  simp only [List.map_cons,PD.putsK]
  rw [h1]
  dsimp only
  rw [if_neg (by simp),A4Q (by simpa using h2)]
  simp [A2l,List.append_assoc]
theorem Lay.puts64 (h:Lay P A sg cl ol) (hl:(A2l cl).length≤1099511627776):A0P A.j.puts:=by rw [h.ahead];constructor <;> omega
theorem Lay.puts (h:Lay P A sg cl ol) (hl:(A2l cl).length≤1099511627776):P.puts A.j.logs=(A2l cl ++ ol.getD [],0):=by
 have h0:=h.own
 unfold PD.puts
 cases ol with
 | none=>
  rw [h0.2,A4Q h.logs];simp
 | some l=>
  obtain ⟨-,h1,h2,h3,h4⟩:=h0
  have hx:A2Q P 0 (cl ++ [(A.j.last,l)]):=h.logs.snoc (by
   have:=h.ahead
   rw [Int.zero_add,← this]
   exact B3Y (t:=[]) (h.puts64 hl) h3 (by simp) (by simpa using h2))
  have e:cl.map (·.1) ++ [A.j.last]=(cl ++ [(A.j.last,l)]).map (·.1):=by simp
  rw [h1,e,A4Q hx]
  simp [A2l]
theorem Lay.same (h:Lay P A sg cl ol) (hb:∀ m,P'.bs m=P.bs m):Lay P' A sg cl ol:=by
 refine ⟨h.ixok,by rw [hb];exact h.ix,h.segs,fun x hx=>by rw [hb];exact h.seg x hx,h.clNum,h.clNew,h.firsts,h.logs.same hb,h.ahead,?_,⟨h.jlast.1,h.jlast.2.1,fun n hn hx=>h.jlast.2.2 n hn (by rw [← hb];exact hx)⟩,
  ⟨h.slast.1,fun n hn hx=>h.slast.2 n hn (by rw [← hb];exact hx)⟩,fun nm hm=>by rw [hb];exact h.loose nm hm,h.jrise,fun nm hm=>h.named nm (by rw [← hb];exact hm),fun n h1 h2 h3=>h.logsAll n h1 h2 (by rw [← hb];exact h3)⟩
 have:=h.own
 cases ol with
 | none=>exact this
 | some l=>unfold B5B at this ⊢;rw [hb];exact this
theorem Lay.settle (h:Lay P A sg cl ol) (hc:Cm P (N+A.loose.length) R):(A.settle P).1=0∧(A.settle P).2.1 = { A with loose:=[] }∧Cm (A.settle P).2.2 N R∧(∀ m,(A.settle P).2.2.bs m=P.bs m)∧Lay (A.settle P).2.2 { A with loose:=[] } sg cl ol:=by
 obtain ⟨h1,h2,h3⟩:=Cm.syncAll A.loose hc h.loose
 have e:A.settle P=(0,{ A with loose:=[] },(P.syncAll A.loose).2):=by unfold Ar.settle;rw [if_neg (by simp [h1])]
 have hs:=h.same h3
 rw [e]
 exact ⟨rfl,rfl,h2,h3,⟨hs.ixok,hs.ix,hs.segs,hs.seg,hs.clNum,hs.clNew,hs.firsts,hs.logs,hs.ahead,hs.own,hs.jlast,hs.slast,fun nm hm=>(by cases hm),hs.jrise,hs.named,hs.logsAll⟩⟩
theorem Lay.begin (h:Lay P A sg cl none) (hc:Cm P (N+2) R) (hn:A0W (A.j.last+1)=true) (hR:12≤R):
 (A.j.begin P).1=0∧Cm (A.j.begin P).2.2 N (R - 12)∧Lay (A.j.begin P).2.2 { A with j:=(A.j.begin P).2.1 } sg cl (some [])∧(A.j.begin P).2.1.own≠none:=by
 obtain ⟨n,hnn⟩:∃ n,A.j.last+1=n:=⟨_,rfl⟩
 have h0:P.bs (A0l n)=none:=by
  cases hx:P.bs (A0l n) with
  | none=>rfl
  | some c=>have:=h.jlast.2.2 n (hnn ▸ hn) (by rw [hx];simp);omega
 obtain ⟨a1,a2,a3⟩:=Cm.createB (N:=N+1) hc h0 (B0V n)
 obtain ⟨-,b1,b2,b3⟩:=Cm.add (N:=N) (nm:=A0l n) (c:=[]) a2 (by rw [a3];simp) (A1m (A0l n)) (A1h A.j.puts) (by rw [A0v];omega)
 rw [A0v] at b2
 have hown:=h.own
 have e:A.j.begin P=(0,⟨A.j.logs ++ [n],n,A.j.puts,some (n,A0w (A1m (A0l n)) (A1h A.j.puts))⟩,((P.create (nmB (A0l n))).2.add (nmB (A0l n)) (A1m (A0l n)) (A1h A.j.puts)).2.2):=by
  unfold Jn.begin
  rw [hnn,if_neg (by simp [a1])]
  dsimp only
  rw [if_neg (by simp [b1])]
 rw [e]
 dsimp only
 have hother:∀ m,m≠A0l n→((P.create (nmB (A0l n))).2.add (nmB (A0l n)) (A1m (A0l n)) (A1h A.j.puts)).2.2.bs m=P.bs m:=fun m hm=>by rw [b3,if_neg hm,a3,if_neg hm]
 have hself:=b3 (A0l n)
 rw [if_pos rfl,List.nil_append] at hself
 generalize ((P.create (nmB (A0l n))).2.add (nmB (A0l n)) (A1m (A0l n)) (A1h A.j.puts)).2.2=P2 at hother hself b2
 have hnum:A0W n=true:=hnn ▸ hn
 have hle:∀ x∈cl,x.1≠n:=fun x hx e=>by have:=(h.clNum x hx).1.2;omega
 refine ⟨rfl,b2,⟨h.ixok,?_,h.segs,fun x hx=>?_,fun x hx=>?_,fun x hx _=>hle x hx,⟨h.firsts.1,fun _=>by have:=h.jlast.2.1;dsimp only;omega⟩,?_,h.ahead,?_,?_,?_,fun nm hm=>?_,?_,fun nm hm=>?_,fun k h1 h2 h3=>?_⟩,by simp⟩
 ·rw [hother _ (A6Z n).symm];exact h.ix
 ·rw [hother _ (A3R n x.1).symm];exact h.seg x hx
 ·obtain ⟨⟨c1,c2⟩,c3⟩:=h.clNum x hx
  exact ⟨⟨c1,by dsimp only;omega⟩,c3⟩
 ·exact h.logs.other fun x hx=>hother _ fun e=>hle x hx (A2S (h.clNum x hx).1.1 hnum e)
 ·refine ⟨rfl,by dsimp only;rw [hown.2],?_,by simp,hnum⟩
  dsimp only
  rw [hself];simp [B3D,A9t]
 ·refine ⟨by have:=h.jlast.1;dsimp only;omega,by have:=h.jlast.2.1;dsimp only;omega,fun k hk hx=>?_⟩
  dsimp only
  by_cases e:A0l k=A0l n
  ·have:=A2S hk hnum e;omega
  ·rw [hother _ e] at hx
   have:=h.jlast.2.2 k hk hx;omega
 ·refine ⟨h.slast.1,fun k hk hx=>h.slast.2 k hk ?_⟩
  rwa [hother _ (A3R n k).symm] at hx
 ·by_cases e:nm=A0l n
  ·subst e;rw [hself];simp
  ·rw [hother _ e];exact h.loose nm hm
 ·dsimp only
  refine List.pairwise_append.2 ⟨h.jrise,by simp,fun a ha b hb=>?_⟩
  simp at hb;subst hb
  rw [hown.2] at ha
  obtain ⟨x,hx,rfl⟩:=List.mem_map.1 ha
  have:=(h.clNum x hx).1.2;omega
 ·by_cases e:nm=A0l n
  ·subst e;rw [A5j hnum];simp
  ·rw [hother _ e] at hm;exact h.named nm hm
 ·dsimp only
  by_cases e:A0l k=A0l n
  ·have:=A2S h1 hnum e
   subst this;simp
  ·rw [hother _ e] at h3
   exact List.mem_append_left _ (h.logsAll k h1 h2 h3)
theorem Lay.put {l:List Pu} (h:Lay P A sg cl (some l)) (hc:Cm P (N+1) R) (p:Pu) (hp:A4q p) (hR:21≤R):
 (A.j.put P p).1=true∧(A.j.put P p).2.1=0∧Cm (A.j.put P p).2.2.2 N (R - 21)∧Lay (A.j.put P p).2.2.2 { A with j:=(A.j.put P p).2.2.1 } sg cl (some (l ++ [p])):=by
 obtain ⟨h1,h2,h3,h4,h5⟩:=h.own
 obtain ⟨n,hnn⟩:∃ n,A.j.last=n:=⟨_,rfl⟩
 obtain ⟨b0,b1,b2,b3⟩:=Cm.add (N:=N) hc h3 (B4A (A0l A.j.last) A.j.puts l) (A1N p.1 p.2.1 p.2.2) (by rw [A8q];omega)
 rw [A8q] at b2
 obtain ⟨q1,q2⟩:=B1y (A0l A.j.last) A.j.puts l p
 unfold Jn.put
 rw [h1]
 dsimp only
 refine ⟨b0,b1,b2,?_⟩
 have hother:∀ m,m≠A0l A.j.last→(P.add (nmB (A0l A.j.last)) (B4A (A0l A.j.last) A.j.puts l) (A1N p.1 p.2.1 p.2.2)).2.2.bs m=P.bs m:=fun m hm=>by rw [b3,if_neg hm]
 have hself:=b3 (A0l A.j.last)
 rw [if_pos rfl] at hself
 generalize (P.add (nmB (A0l A.j.last)) (B4A (A0l A.j.last) A.j.puts l) (A1N p.1 p.2.1 p.2.2)).2.2=P2 at hother hself b2
 refine ⟨h.ixok,?_,h.segs,fun x hx=>?_,h.clNum,fun x hx _=>h.clNew x hx (by simp),⟨h.firsts.1,fun _=>h.firsts.2 (by simp)⟩,?_,h.ahead,⟨?_,h2,?_,?_,h5⟩,⟨h.jlast.1,h.jlast.2.1,fun k hk hx=>?_⟩,⟨h.slast.1,fun k hk hx=>?_⟩,fun nm hm=>?_,h.jrise,fun nm hm=>?_,fun k h1 h2' h3'=>?_⟩
 ·rw [hother _ (A6Z _).symm];exact h.ix
 ·rw [hother _ (A3R _ x.1).symm];exact h.seg x hx
 ·exact h.logs.other fun x hx=>hother _ fun e=>h.clNew x hx (by simp) (A2S (h.clNum x hx).1.1 h5 e)
 ·dsimp only;rw [q2]
 ·dsimp only;rw [hself,q1]
 ·intro x hx
  rcases List.mem_append.1 hx with hx | hx
  ·exact h4 x hx
  ·simp at hx;subst hx;exact hp
 ·by_cases e:A0l k=A0l A.j.last
  ·have:=A2S hk h5 e
   show k≤A.j.last
   omega
  ·rw [hother _ e] at hx;exact h.jlast.2.2 k hk hx
 ·rw [hother _ (A3R _ k).symm] at hx;exact h.slast.2 k hk hx
 ·by_cases e:nm=A0l A.j.last
  ·subst e;rw [hself];simp
  ·rw [hother _ e];exact h.loose nm hm
 ·by_cases e:nm=A0l A.j.last
  ·subst e;rw [A5j h5];simp
  ·rw [hother _ e] at hm;exact h.named nm hm
 ·by_cases e:A0l k=A0l A.j.last
  ·have:=A2S h1 h5 e
   subst this
   show A.j.last∈A.j.logs
   rw [h2];simp
  ·rw [hother _ e] at h3'
   exact h.logsAll k h1 h2' h3'
theorem Lay.add (h:Lay P A sg cl ol) (hc:Cm P (N+A.loose.length+3) R) (hn:ol=none→A0W (A.j.last+1)=true) (p:Pu) (hp:A4q p) (hR:33≤R):
 (A.add P p).1=true∧(A.add P p).2.1=0∧Cm (A.add P p).2.2.2 N (R - 33)∧Lay (A.add P p).2.2.2 (A.add P p).2.2.1 sg cl (some (ol.getD [] ++ [p]))∧(A.add P p).2.2.1.loose = []:=by
 obtain ⟨s1,s2,s3,s4,s5⟩:=h.settle (N:=N+3) (hc.mono (by omega) (Nat.le_refl _))
 unfold Ar.add
 rw [if_neg (by simp [s1])]
 dsimp only
 rw [s2]
 dsimp only
 generalize (A.settle P).2.2=P1 at s3 s4 s5
 cases ol with
 | none=>
  obtain ⟨b1,b2,b3,b4⟩:=Lay.begin (N:=N+1) s5 s3 (hn rfl) (by omega)
  dsimp only at b1 b2 b3 b4
  obtain ⟨p1,p2,p3,p4⟩:=b3.put (N:=N) b2 p hp (by omega)
  dsimp only at p1 p2 p3 p4
  have e:A.j.add P1 p=(A.j.begin P1).2.1.put (A.j.begin P1).2.2 p:=by
   unfold Jn.add
   rw [if_pos h.own.1,if_neg (by simp [b1])]
  rw [e]
  exact ⟨p1,p2,p3.mono (Nat.le_refl _) (by omega),p4,rfl⟩
 | some l=>
  obtain ⟨p1,p2,p3,p4⟩:=s5.put (N:=N) (s3.mono (by omega) (Nat.le_refl _)) p hp (by omega)
  dsimp only at p1 p2 p3 p4
  have e:A.j.add P1 p=A.j.put P1 p:=by
   unfold Jn.add
   rw [if_neg (by rw [h.own.1];simp)]
  rw [e]
  exact ⟨p1,p2,p3.mono (Nat.le_refl _) (by omega),p4,rfl⟩
end
end Go.Proofs.YtodcnkbblippnaaGreatDoor
namespace Go.Proofs.YtodcnkbblippnaaGreatDoor
open Go.RowKit
end Go.Proofs.YtodcnkbblippnaaGreatDoor
namespace Go.Proofs.YtodcnkbblippnaaGreatDoor
open Go.RowKit
end Go.Proofs.YtodcnkbblippnaaGreatDoor
namespace Go.Proofs.YtodcnkbblippnaaGreatDoor
open Go.RowKit
section
variable {P P':PD} {A:Ar} {sg cl:List (Int × List Pu)} {ol:Option (List Pu)} {N R:Nat} {window oldest:Int}
theorem Lay.clPu (h:Lay P A sg cl ol):∀ p∈A2l cl ++ ol.getD [],A4q p:=by
 intro p hp
 rcases List.mem_append.1 hp with hp | hp
 ·obtain ⟨x,hx,hp⟩:=List.mem_flatMap.1 hp
  exact (h.clNum x hx).2 p hp
 ·cases ol with
  | none=>simp at hp
  | some l=>exact h.own.2.2.2.1 p (by simpa using hp)
end
end Go.Proofs.YtodcnkbblippnaaGreatDoor
namespace Go.Proofs.YtodcnkbblippnaaGreatDoor
open Go.RowKit
def B5R (cl:List (Int × List Pu)) (last:Int):Option (List Pu)→List (Int × List Pu)
 | none=>cl
 | some l=>cl ++ [(last,l)]
section
variable {P P':PD} {A:Ar} {sg cl:List (Int × List Pu)} {ol:Option (List Pu)} {N R:Nat}
theorem Lay.logNums (h:Lay P A sg cl ol):A.j.logs=(B5R cl A.j.last ol).map (·.1):=by
 have:=h.own
 cases ol with
 | none=>exact this.2
 | some l=>rw [this.2.1];simp [B5R]
theorem Lay.empty (h:∀ nm,P.bs nm=none):Lay P ⟨⟨1,[]⟩,⟨[],0,0,none⟩,0,[]⟩ [] [] none:=
 ⟨⟨by decide,fun n hn=>(by cases hn),rfl⟩,.inl ⟨h _,rfl⟩,rfl,fun x hx=>(by cases hx),fun x hx=>(by cases hx),fun x hx=>(by cases hx),⟨fun x hx=>(by cases hx),fun h=>absurd rfl h⟩,trivial,rfl,⟨rfl,rfl⟩,⟨by decide,by decide,fun n _ hx=>absurd (h _) hx⟩,⟨by decide,fun n _ hx=>absurd (h _) hx⟩,fun nm hm=>(by cases hm),List.Pairwise.nil,fun nm hm=>absurd (h _) hm,fun n _ _ hx=>absurd (h _) hx⟩
end
end Go.Proofs.YtodcnkbblippnaaGreatDoor
namespace Go.Proofs.YtodcnkbblippnaaGreatDoor
open Go.RowKit
end Go.Proofs.YtodcnkbblippnaaGreatDoor
namespace Go.Proofs.YtodcnkbblippnaaGreatDoor
open Go.RowKit
end Go.Proofs.YtodcnkbblippnaaGreatDoor
namespace Go.Proofs.YtodcnkbblippnaaGreatDoor
open Go.RowKit
end Go.Proofs.YtodcnkbblippnaaGreatDoor
namespace Go.Proofs.YtodcnkbblippnaaGreatDoor
open Go.RowKit
end Go.Proofs.YtodcnkbblippnaaGreatDoor
namespace Go.Proofs.YtodcnkbblippnaaGreatDoor
open Go.RowKit
end Go.Proofs.YtodcnkbblippnaaGreatDoor
namespace Go.Proofs.YtodcnkbblippnaaGreatDoor
open Go.RowKit
def Ans (n:DN) (e:Int) (n':DN):Prop:=
 (e≠5∧e≠6∧n'.refused=n.refused∧n'.fulls=n.fulls∧n'.dead=n.dead)∨(e=5∧n'.refused=wrap64 (n.refused+1)∧n'.fulls=n.fulls)∨(e=6∧n'.refused=wrap64 (n.refused+1)∧n'.fulls=wrap64 (n.fulls+1)∧n'.dead=n.dead)
theorem Ans.refl (n:DN) {e:Int} (h5:e≠5) (h6:e≠6):Ans n e n:=.inl ⟨h5,h6,rfl,rfl,rfl⟩
theorem Ans.trans {n n1 n2:DN} {a e:Int} (h:Ans n a n1) (ha:a=0) (h2:Ans n1 e n2):Ans n e n2:=by
 subst ha
 rcases h with ⟨_,_,h1,h3,h4⟩ | ⟨h0,_⟩ | ⟨h0,_⟩
 ·unfold Ans at h2 ⊢
  rw [h1,h3,h4] at h2
  exact h2
 ·cases h0
 ·cases h0
theorem B1A (n:DN):Ans n (bg n).2.1 (bg n).2.2:=by
 unfold bg
 dsimp only
 split
 ·exact .inr (.inl ⟨rfl,rfl,rfl⟩)
 ·split
  ·exact .inr (.inl ⟨rfl,rfl,rfl⟩)
  ·split
   ·exact .inr (.inl ⟨rfl,rfl,rfl⟩)
   ·exact .inl ⟨by simp,by simp,rfl,rfl,rfl⟩
theorem B4W (n:DN):(bg n).2.1=0∨(bg n).2.1=5:=by
 unfold bg
 dsimp only
 split
 ·exact .inr rfl
 ·split
  ·exact .inr rfl
  ·split
   ·exact .inr rfl
   ·exact .inl rfl
section
variable {P:PD} {A:Ar} {J:Jn} {nm old:ByteArray}
theorem A6W (P:PD) (nm:ByteArray):Ans P.D.n (P.create nm).1 (P.create nm).2.D.n:=by
 unfold PD.create A0I
 split
 ·exact Ans.refl _ (by simp) (by simp)
 ·have:=B1A P.D.n
  dsimp only
  split <;> exact this
theorem A9H (P:PD) (nm:ByteArray):Ans P.D.n (P.sync nm).1 (P.sync nm).2.D.n:=by
 unfold PD.sync A1X
 split
 ·exact Ans.refl _ (by simp) (by simp)
 ·exact B1A P.D.n
theorem B3e (D:DS) (F:Nat→FC) (f:Nat) (x:ByteArray) (n0 e:Int) (n:DN) (h:Ans n e D.n) (he:e=0∨e=5):Ans n (A3d D F f x n0 e).1 (A3d D F f x n0 e).2.1.n:=by
 unfold A3d
 split
 ·dsimp only
  rcases he with rfl | rfl
  ·rw [if_pos rfl,if_pos rfl]
   rcases h with ⟨_,_,h1,h3,h4⟩ | ⟨h0,_⟩ | ⟨h0,_⟩
   ·exact .inr (.inr ⟨rfl,by dsimp only;rw [h1],by dsimp only;rw [h3],h4⟩)
   ·cases h0
   ·cases h0
  ·rw [if_neg (by decide),if_neg (by decide)];exact h
 ·exact h
theorem B0Y (P:PD) (nm:ByteArray) (l:Bs):Ans P.D.n (P.append nm l).1 (P.append nm l).2.D.n:=by
 have hb:=B1A P.D.n
 have hc:=B4W P.D.n
 unfold PD.append A0q
 split
 ·exact Ans.refl _ (by simp) (by simp)
 ·dsimp only
  split
  ·exact B3e _ _ _ _ _ _ _ hb hc
  ·split
   ·exact B3e _ _ _ _ _ _ _ hb hc
   ·exact hb
theorem A9V (P:PD) (nm:ByteArray) (s:Nat) (l:Bs):Ans P.D.n (P.add nm s l).2.1 (P.add nm s l).2.2.D.n:=B0Y P nm (A0L s l)
theorem eqz {x:Int} (h:¬ x≠0):x=0:=by omega
theorem A6e:∀ (l:List Bs) (P:PD),Ans P.D.n (PD.syncAll l P).1 (PD.syncAll l P).2.D.n
 | [],P=>Ans.refl _ (by simp [PD.syncAll]) (by simp [PD.syncAll])
 | nm :: r,P=>by
  unfold PD.syncAll
  split
  ·exact A9H P _
  ·rename_i h1
   exact (A9H P _).trans (eqz h1) (A6e r _)
theorem A6M (A:Ar) (P:PD):Ans P.D.n (A.settle P).1 (A.settle P).2.2.D.n:=by
 have:=A6e A.loose P
 unfold Ar.settle
 split
 ·exact this
 ·rename_i h1
  rw [eqz h1] at this
  exact this
theorem A8v (J:Jn) (P:PD):Ans P.D.n (J.begin P).1 (J.begin P).2.2.D.n:=by
 unfold Jn.begin
 split
 ·exact A6W P _
 ·rename_i h1
  have:=(A6W P _).trans (eqz h1) (A9V (P.create (nmB (A0l (J.last+1)))).2 (nmB (A0l (J.last+1))) (A1m (A0l (J.last+1))) (A1h J.puts))
  dsimp only
  split
  ·exact this
  ·rename_i h2
   rw [eqz h2] at this
   exact this
theorem B1H (J:Jn) (P:PD) (p:Pu):Ans P.D.n (J.put P p).2.1 (J.put P p).2.2.2.D.n:=by
 unfold Jn.put
 split
 ·exact Ans.refl _ (by simp) (by simp)
 ·exact A9V P _ _ _
theorem B3Q (J:Jn) (P:PD) (p:Pu):Ans P.D.n (J.add P p).2.1 (J.add P p).2.2.2.D.n:=by
 unfold Jn.add
 split
 ·split
  ·exact A8v J P
  ·rename_i h1
   exact (A8v J P).trans (eqz h1) (B1H _ _ p)
 ·exact B1H J P p
theorem B2z (A:Ar) (P:PD) (p:Pu):Ans P.D.n (A.add P p).2.1 (A.add P p).2.2.2.D.n:=by
 unfold Ar.add
 split
 ·exact A6M A P
 ·rename_i h1
  exact (A6M A P).trans (eqz h1) (B3Q _ _ p)
end
end Go.Proofs.YtodcnkbblippnaaGreatDoor
namespace Go.Proofs.YtodcnkbblippnaaGreatDoor
open Go.RowKit
end Go.Proofs.YtodcnkbblippnaaGreatDoor
namespace Go.Proofs.YtodcnkbblippnaaGreatDoor
open Go.RowKit
end Go.Proofs.YtodcnkbblippnaaGreatDoor
namespace Go.Proofs.YtodcnkbblippnaaGreatDoor
open Go.RowKit
end Go.Proofs.YtodcnkbblippnaaGreatDoor
namespace Go.Proofs.YtodcnkbblippnaaGreatDoor
open Go.RowKit
end Go.Proofs.YtodcnkbblippnaaGreatDoor
namespace Go.Proofs.YtodcnkbblippnaaGreatDoor
open Go.RowKit
end Go.Proofs.YtodcnkbblippnaaGreatDoor
namespace Go.Proofs.YtodcnkbblippnaaGreatDoor
open Go.RowKit
end Go.Proofs.YtodcnkbblippnaaGreatDoor
namespace Go.Proofs.YtodcnkbblippnaaGreatDoor
open Go.RowKit
end Go.Proofs.YtodcnkbblippnaaGreatDoor
namespace Go.Proofs.YtodcnkbblippnaaGreatDoor
open Go.RowKit
end Go.Proofs.YtodcnkbblippnaaGreatDoor
namespace Go.Proofs.YtodcnkbblippnaaGreatDoor
open Go.RowKit
end Go.Proofs.YtodcnkbblippnaaGreatDoor
namespace Go.Proofs.YtodcnkbblippnaaGreatDoor
open Go.RowKit
end Go.Proofs.YtodcnkbblippnaaGreatDoor
namespace Go.Proofs.YtodcnkbblippnaaGreatDoor
open Go.RowKit
end Go.Proofs.YtodcnkbblippnaaGreatDoor
namespace Go.Proofs.YtodcnkbblippnaaGreatDoor
open Go.RowKit
end Go.Proofs.YtodcnkbblippnaaGreatDoor
namespace Go.Proofs.YtodcnkbblippnaaGreatDoor
open Go.RowKit
end Go.Proofs.YtodcnkbblippnaaGreatDoor
namespace Go.Proofs.YtodcnkbblippnaaGreatDoor
open Go.RowKit
end Go.Proofs.YtodcnkbblippnaaGreatDoor
namespace Go.Proofs.YtodcnkbblippnaaGreatDoor
open Go.RowKit
end Go.Proofs.YtodcnkbblippnaaGreatDoor
namespace Go.Proofs.YtodcnkbblippnaaGreatDoor
open Go.RowKit
def A4e (life window:Int):Bool:=decide (1≤life∧life≤4611686018427387904∧1≤window∧window≤4611686018427387904)
set_option maxRecDepth 100000 in
set_option maxHeartbeats 1000000 in
theorem A6L (w:World) (life window:Int):
 Calls Tryz.prog 45 #[.agg #[.int .i64 life,.int .i64 window]] w fun e w'=>e=.returned (.bool (A4e life window))∧Chg (fun _=>False) w w':=by
 obtain ⟨q,hq⟩:∃ q,A4e life window=q:=⟨_,rfl⟩
 rw [hq]
 have HQ:=A0b hq
 clear hq
 by_cases h1:1≤life <;> by_cases h2:life≤4611686018427387904 <;> by_cases h3:1≤window <;> by_cases h4:window≤4611686018427387904
 all_goals try (exfalso;omega)
 all_goals
  go_enter Tryz.func45,Tryz.ntmps45
  go_wp2
  go_ret
  refine ⟨?_,(Chg.refl _ _).alloc _⟩
  rw [← HQ.out]
  simp [A4e]
  try omega
end Go.Proofs.YtodcnkbblippnaaGreatDoor
namespace Go.Proofs.YtodcnkbblippnaaGreatDoor
open Go.RowKit
attribute [local go_sem ↓] Go.wp_at_zero Go.wp_at_succ
end Go.Proofs.YtodcnkbblippnaaGreatDoor
namespace Go.Proofs.YtodcnkbblippnaaGreatDoor
open Go.RowKit
def A9D (L:Nat→List Pt) (puts:List Pu) (life clock:Int):Prop:=∀ k:Nat,k<8→A1Z (L k) (max (-9223372036854775808) (A0m clock life)) 9223372036854775807=A4r puts k (-9223372036854775808) 9223372036854775807 life clock
theorem A9G (puts:List Pu) (series a b life clock:Int):(A4r puts series a b life clock).length≤puts.length:=by
 have:=(A9S puts series a b life clock puts.length (Nat.le_refl _)).2
 rwa [List.take_length] at this
def Rel (L:Nat→List Pt) (puts:List Pu) (life clock:Int):Prop:=∀ k:Nat,k<8→(L k).filter (fun x=>decide (A0m clock life≤x.1))=A4r puts k (-9223372036854775808) 9223372036854775807 life clock
theorem A9J (puts:List Pu) (s a b l c a' b' l' c':Int) (g:Int→Bool) (h:∀ p∈puts,qOk s a' b' l' c' p=(qOk s a b l c p && g p.2.1)):
 A4r puts s a' b' l' c'=(A4r puts s a b l c).filter (fun x=>g x.1):=by
 have key:∀ (ps:List Pu) (acc:List Pt),A1z acc→(∀ p∈ps,qOk s a' b' l' c' p=(qOk s a b l c p && g p.2.1))→
  ps.foldl (A3U s a' b' l' c') (acc.filter fun x=>g x.1)=(ps.foldl (A3U s a b l c) acc).filter (fun x=>g x.1):=by
  intro ps
  induction ps with
  | nil=>intro acc _ _;rfl
  | cons p r ih=>
   intro acc hs hp
   have hp0:=hp p (by simp)
   simp only [List.foldl_cons]
   by_cases q:qOk s a b l c p=true
   ·have e1:A3U s a b l c acc p=A2w acc p.2.1 p.2.2:=by unfold A3U;rw [if_pos q]
    have e2:A3U s a' b' l' c' (acc.filter fun x=>g x.1) p=(A2w acc p.2.1 p.2.2).filter (fun x=>g x.1):=by
     unfold A3U
     rw [hp0,q,Bool.true_and,A5A hs]
    rw [e1,e2]
    exact ih _ (A3a hs _ _) fun p hp'=>hp p (List.mem_cons_of_mem _ hp')
   ·have q':qOk s a b l c p=false:=by simpa using q
    have e1:A3U s a b l c acc p=acc:=by unfold A3U;rw [q'];rfl
    have e2:A3U s a' b' l' c' (acc.filter fun x=>g x.1) p=acc.filter fun x=>g x.1:=by
     unfold A3U
     rw [hp0,q',Bool.false_and];rfl
    rw [e1,e2]
    exact ih _ hs fun p hp'=>hp p (List.mem_cons_of_mem _ hp')
 exact key puts [] List.Pairwise.nil h
theorem A6l {t life clock:Int} (ht:A0P t):A2U t life clock=decide (A0m clock life≤t):=(A8w clock life t ht).symm
theorem Rel.query {L:Nat→List Pt} {puts:List Pu} {life clock:Int} (h:Rel L puts life clock) (hp:∀ p∈puts,A0P p.2.1) {k:Nat} (hk:k<8) (a b:Int):
 A1Z (L k) (max a (A0m clock life)) b=A4r puts k a b life clock:=by
 have e:=A9J puts k (-9223372036854775808) 9223372036854775807 life clock a b life clock (fun t=>decide (a≤t) && decide (t≤b)) fun p hpm=>by
  obtain ⟨h1,h2⟩:=hp p hpm
  unfold qOk
  have d1:decide (-9223372036854775808≤p.2.1)=true:=decide_eq_true h1
  have d2:decide (p.2.1≤9223372036854775807)=true:=decide_eq_true h2
  rw [d1,d2]
  cases decide (p.1=(k:Int)) <;> cases decide (a≤p.2.1) <;> cases decide (p.2.1≤b) <;> cases A2U p.2.1 life clock <;> rfl
 rw [e,← h k hk,List.filter_filter]
 unfold A1Z
 congr 1
 funext x
 apply Bool.eq_iff_iff.2
 simp only [Bool.and_eq_true,decide_eq_true_eq]
 omega
theorem Rel.tells {L:Nat→List Pt} {puts:List Pu} {life clock:Int} (h:Rel L puts life clock) (hp:∀ p∈puts,A0P p.2.1):A9D L puts life clock:=fun _ hk=>h.query hp hk _ _
theorem Rel.nil (life clock:Int):Rel (fun _=>[]) [] life clock:=fun _ _=>by simp [A4r]
theorem Rel.put {L:Nat→List Pt} {puts:List Pu} {life clock:Int} (h:Rel L puts life clock) (hs:∀ k,k<8→A1z (L k)) {s:Nat} (hs8:s<8) {t v:Int} (ht:A0P t):
 Rel (A2T L (A0m clock life) s t v) (puts ++ [((s:Int),t,v)]) life clock:=by
 intro k hk
 have e1:A4r (puts ++ [((s:Int),t,v)]) k (-9223372036854775808) 9223372036854775807 life clock=A3U k (-9223372036854775808) 9223372036854775807 life clock (A4r puts k (-9223372036854775808) 9223372036854775807 life clock) ((s:Int),t,v):=by
  unfold A4r;rw [List.foldl_append];rfl
 rw [e1,← h k hk]
 obtain ⟨t1,t2⟩:=ht
 have d1:decide (-9223372036854775808≤t)=true:=decide_eq_true t1
 have d2:decide (t≤9223372036854775807)=true:=decide_eq_true t2
 unfold A3U qOk
 simp only [d1,d2,Bool.and_true,A6l (⟨t1,t2⟩:A0P t)]
 unfold A2T
 by_cases ho:A0m clock life≤t
 ·rw [if_pos ho]
  unfold B3f
  by_cases e:k=s
  ·subst e
   have f:=A5A (hs k hk) (fun x=>decide (A0m clock life≤x)) t v
   simp only [decide_eq_true ho] at f ⊢
   simp only [if_true] at f ⊢
   simpa using f
  ·have e':¬ (s:Int)=(k:Int):=fun x=>e (by omega)
   simp [e,e']
 ·rw [if_neg ho]
  have:decide (A0m clock life≤t)=false:=decide_eq_false ho
  simp [this]
theorem A5N {c c' life:Int} (h:c≤c'):A0m c life≤A0m c' life:=by
 unfold A0m
 split <;> split <;> omega
theorem Rel.tick {L L':Nat→List Pt} {puts:List Pu} {life clock clock':Int} (h:Rel L puts life clock) (hp:∀ p∈puts,A0P p.2.1) (hc:clock≤clock') (hf:A3r L L' (A0m clock' life)):Rel L' puts life clock':=by
 intro k hk
 have ho:A0m clock life≤A0m clock' life:=A5N hc
 have e:=A9J puts k (-9223372036854775808) 9223372036854775807 life clock (-9223372036854775808) 9223372036854775807 life clock' (fun t=>decide (A0m clock' life≤t)) fun p hpm=>by
  unfold qOk
  rw [A6l (hp p hpm),A6l (hp p hpm)]
  have:decide (A0m clock' life≤p.2.1)=(decide (A0m clock life≤p.2.1) && decide (A0m clock' life≤p.2.1)):=by
   apply Bool.eq_iff_iff.2;simp only [Bool.and_eq_true,decide_eq_true_eq];omega
  rw [this]
  simp [Bool.and_assoc]
 have e2:(L k).filter (fun x=>decide (A0m clock' life≤x.1))=A4r puts k (-9223372036854775808) 9223372036854775807 life clock':=by
  rw [e,← h k hk,List.filter_filter]
  congr 1
  funext x
  apply Bool.eq_iff_iff.2;simp only [Bool.and_eq_true,decide_eq_true_eq];omega
 rw [← e2]
 rcases hf k hk with q | q
 ·rw [q]
 ·rw [q]
  have hsplit:L k=(L k).take (A1H (L k) (A0m clock' life)) ++ (L k).drop (A1H (L k) (A0m clock' life)):=(List.take_append_drop _ _).symm
  have hz:((L k).take (A1H (L k) (A0m clock' life))).filter (fun x=>decide (A0m clock' life≤x.1)) = []:=by
   rw [List.filter_eq_nil_iff]
   intro x hx
   obtain ⟨i,hi,rfl⟩:=List.mem_iff_getElem.1 hx
   rw [List.length_take] at hi
   have:=A4S (l:=L k) (t:=A0m clock' life) (i:=i) (by omega) (by omega)
   rw [List.getElem_take]
   simp;omega
  conv=>rhs;rw [hsplit,List.filter_append,hz,List.nil_append]
theorem A3r.len {L L':Nat→List Pt} {o:Int} (h:A3r L L' o) {k:Nat} (hk:k<8):(L' k).length≤(L k).length:=by
 rcases h k hk with e | e
 ·rw [e];exact Nat.le_refl _
 ·rw [e,List.length_drop];omega
end Go.Proofs.YtodcnkbblippnaaGreatDoor
namespace Go.Proofs.YtodcnkbblippnaaGreatDoor
open Go.RowKit
end Go.Proofs.YtodcnkbblippnaaGreatDoor
namespace Go.Proofs.YtodcnkbblippnaaGreatDoor
open Go.RowKit
end Go.Proofs.YtodcnkbblippnaaGreatDoor
namespace Go.Proofs.YtodcnkbblippnaaGreatDoor
open Go.RowKit
section
variable {P:PD} {A:Ar} {a c m:Nat}
theorem Fit.padd (h:Fit P a c m) (nm:ByteArray) (s:Nat) (l:Bs):Fit (P.add nm s l).2.2 a c (m+(l.length+4)):=by
 have:=h.append nm (A0L s l)
 rw [A3f] at this
 exact this
theorem Fit.jbegin {J:Jn} (h:Fit P a c m):Fit (J.begin P).2.2 (a+1) (c+1) (m+12):=by
 unfold Jn.begin
 have h1:=h.create (nmB (A0l (J.last+1)))
 have h2:=h1.padd (nmB (A0l (J.last+1))) (A1m (A0l (J.last+1))) (A1h J.puts)
 rw [A0v] at h2
 split
 ·exact h1.mono (Nat.le_refl _) (Nat.le_refl _) (by omega)
 ·dsimp only
  split
  ·exact h2
  ·exact h2
theorem Fit.jput {J:Jn} (h:Fit P a c m) (p:Pu):Fit (J.put P p).2.2.2 a c (m+21):=by
 unfold Jn.put
 cases J.own with
 | none=>exact h.mono (Nat.le_refl _) (Nat.le_refl _) (by omega)
 | some x=>
  obtain ⟨n,s⟩:=x
  have h2:=h.padd (nmB (A0l n)) s (A1N p.1 p.2.1 p.2.2)
  rw [A8q] at h2
  exact h2
theorem Fit.jadd {J:Jn} (h:Fit P a c m) (p:Pu):Fit (J.add P p).2.2.2 (a+1) (c+1) (m+33):=by
 unfold Jn.add
 split
 ·split
  ·exact h.jbegin.mono (Nat.le_refl _) (Nat.le_refl _) (by omega)
  ·exact (h.jbegin.jput p).mono (Nat.le_refl _) (Nat.le_refl _) (by omega)
 ·exact (h.jput p).mono (by omega) (by omega) (by omega)
theorem Fit.arAdd (h:Fit P a c m) (p:Pu):Fit (A.add P p).2.2.2 (a+1) (c+1) (m+33):=by
 unfold Ar.add
 split
 ·exact h.settle.mono (by omega) (by omega) (by omega)
 ·exact h.settle.jadd p
theorem B1x (A:Ar) (P:PD) (p:Pu):(A.add P p).2.2.1.last=A.last∧((A.add P p).2.2.1.j.last=A.j.last∨(A.add P p).2.2.1.j.last=A.j.last+1):=by
 have hs:=A3i A P
 have hput:∀ (J:Jn) (Q:PD),(J.put Q p).2.2.1.last=J.last:=fun J Q=>by
  unfold Jn.put
  cases J.own <;> rfl
 have hbeg:∀ (J:Jn) (Q:PD),(J.begin Q).2.1.last=J.last∨(J.begin Q).2.1.last=J.last+1:=fun J Q=>by
  unfold Jn.begin
  split
  ·exact .inl rfl
  ·dsimp only
   split
   ·exact .inl rfl
   ·exact .inr rfl
 have hadd:∀ (J:Jn) (Q:PD),(J.add Q p).2.2.1.last=J.last∨(J.add Q p).2.2.1.last=J.last+1:=fun J Q=>by
  unfold Jn.add
  split
  ·split
   ·exact hbeg J Q
   ·rw [hput];exact hbeg J Q
  ·exact .inl (hput J Q)
 unfold Ar.add
 split
 ·exact ⟨hs.2.2,.inl (by rw [hs.2.1])⟩
 ·dsimp only
  rw [← hs.2.1]
  exact ⟨hs.2.2,hadd _ _⟩
end
end Go.Proofs.YtodcnkbblippnaaGreatDoor
namespace Go.Proofs.YtodcnkbblippnaaGreatDoor
open Go.RowKit
def Ids (P:PD) (k:Nat):Prop:=∀ f,P.D.ids f→f<k
end Go.Proofs.YtodcnkbblippnaaGreatDoor
namespace Go.Proofs.YtodcnkbblippnaaGreatDoor
open Go.RowKit
end Go.Proofs.YtodcnkbblippnaaGreatDoor
namespace Go.Proofs.YtodcnkbblippnaaGreatDoor
open Go.RowKit
structure PB (P:PD) (t:Nat):Prop where
 fit:Fit P (3*t+20) (2000000*(t+1)) (40*t+1000)
 ids:Ids P (400000*(t+1))
 ref:0≤P.D.n.refused∧P.D.n.refused≤t
 ful:0≤P.D.n.fulls∧P.D.n.fulls≤t
end Go.Proofs.YtodcnkbblippnaaGreatDoor
namespace Go.Proofs.YtodcnkbblippnaaGreatDoor
open Go.RowKit
attribute [local go_sem ↓] Go.wp_at_zero Go.wp_at_succ
def B2K (c:Int):Int:=if c<0 then 1152921504606846976 else c
set_option maxRecDepth 100000 in
set_option maxHeartbeats 1000000 in
theorem A7o (w:World) (c:Int):Calls Tryz.prog 42 #[.int .i64 c] w fun e w'=>e=.returned (.int .i64 (B2K c))∧w=w':=by
 unfold B2K
 by_cases h:c<0
 ·rw [if_pos h]
  go_enter Tryz.func42,Tryz.ntmps42
  go_wp2
  go_ret
  exact ⟨rfl,rfl⟩
 ·rw [if_neg h]
  go_enter Tryz.func42,Tryz.ntmps42
  go_wp2
  go_ret
  exact ⟨rfl,rfl⟩
def B2x (w:World) (g:Nat) (l:List Int):Prop:=∀ k (hk:k<l.length),w.cell? ⟨g,k,none⟩=some (.int .i64 (l[k]'hk))
set_option maxRecDepth 100000 in
set_option maxHeartbeats 1000000 in
theorem B2E (w:World) (g:Nat) (l:List Int) (x:Int) (h:B2x w g l) (hl:l.length<1000):
 Calls Tryz.prog 41 #[.slice (some ⟨g,0,none⟩) l.length l.length,.int .i64 x] w fun e w'=>e=.returned (.bool (decide (x∈l)))∧w=w':=by
 obtain ⟨q,hq⟩:∃ q,decide (x∈l)=q:=⟨_,rfl⟩
 rw [hq]
 have HQ:=A0b hq
 have H:=A0b h
 clear h hq
 go_enter Tryz.func41,Tryz.ntmps41
 go_wp2
 go_loopw [5] (fun iv wr=>∃ k:Nat,k≤l.length∧iv=.int .i64 k∧wr=w∧Hid (∀ i (hi:i<l.length),i<k→l[i]'hi≠x)) (fun iv _=>l.length - (intOf iv).toNat)
 case atStart=>exact ⟨0,by omega,rfl,rfl,fun i hi h=>by omega⟩
 case round=>
  obtain ⟨k,hk,rfl,rfl,hno⟩:=hrel
  have k0:(0:Int)≤(k:Int):=Int.natCast_nonneg _
  by_cases hlk:k<l.length
  ·have k1:(k:Int)<(l.length:Int):=by omega
   have k2:(l.length:Int)<1000:=by omega
   have hc:=H.out k hlk
   obtain ⟨y,hy⟩:∃ y,l[k]'hlk=y:=⟨_,rfl⟩
   rw [hy] at hc
   by_cases hxy:y=x
   ·have HT:Hid (q=true):=by
     rw [← HQ.out];exact decide_eq_true (hxy ▸ hy ▸ List.getElem_mem hlk)
    subst hxy
    clear hy
    go_wp2
    go_ret
    rw [HT.out];exact ⟨rfl,rfl⟩
   ·have HN:Hid (∀ i (hi:i<l.length),i<k+1→l[i]'hi≠x):=fun i hi h=>by
     by_cases e:i=k
     ·subst e;rw [hy];exact hxy
     ·exact hno.out i hi (by omega)
    clear hy
    go_wp2
    go_roundw
    case rel=>exact ⟨k+1,by omega,by go_num,trivial,HN.out⟩
    case measure=>simp [intOf];omega
  ·obtain rfl:k=l.length:=by omega
   have HT:Hid (q=false):=by
    rw [← HQ.out]
    refine decide_eq_false fun hx=>?_
    obtain ⟨i,hi,e⟩:=List.mem_iff_getElem.1 hx
    exact hno.out i hi hi e
   go_wp2
   go_ret
   rw [HT.out];exact ⟨rfl,rfl⟩
set_option maxRecDepth 100000 in
set_option maxHeartbeats 4000000 in
theorem A9U (w:World) (va vb:Value) (l m:List Pt) (ha:A2r w va l) (hb:A2r w vb m) (hl:l.length<1099511627776) (_hm:m.length<1099511627776):
 Calls Tryz.prog 93 #[va,vb] w fun e w'=>e=.returned (.bool (decide (l=m)))∧Chg (fun _=>False) w w':=by
 obtain ⟨aa,ca,rfl,-,-,ha3,-,-⟩:=A0g ha
 obtain ⟨ab,cb,rfl,-,-,hb3,-,-⟩:=A0g hb
 by_cases hlen:l.length=m.length
 ·have HA:=A0b ha
  have HB:=A0b hb
  have HA3:=A0b ha3
  have HB3:=A0b hb3
  have HLM:=A0b hlen
  obtain ⟨q,hq⟩:∃ q,decide (l=m)=q:=⟨_,rfl⟩
  rw [hq,← hlen]
  have HQ:=A0b hq
  clear ha hb ha3 hb3 hlen hq _hm
  go_enter Tryz.func93,Tryz.ntmps93
  go_wp2
  go_loopw [5] (fun iv wr=>∃ k:Nat,k≤l.length∧iv=.int .i64 k∧Hid (Chg (fun _=>False) w wr)∧Hid (l.take k=m.take k)) (fun iv _=>l.length - (intOf iv).toNat)
  case atStart=>exact ⟨0,by omega,rfl,Chg.refl _ _,rfl⟩
  case round=>
   obtain ⟨k,hk,rfl,hc,hE⟩:=hrel
   obtain ⟨w0,hw0⟩:∃ w0,w0=wr:=⟨_,rfl⟩
   subst hw0
   have k0:(0:Int)≤(k:Int):=Int.natCast_nonneg _
   by_cases hlk:k<l.length
   ·have hmk:k<m.length:=by have:=HLM.out;omega
    have k1:(k:Int)<(l.length:Int):=by omega
    have k2:(l.length:Int)<1099511627776:=by omega
    obtain ⟨ga,rfl⟩:=HA3.out (by omega)
    obtain ⟨gb,rfl⟩:=HB3.out (by omega)
    have hak:A2r w0 _ l:=A0a HA.out fun g hg=>hc.out.block g (A0c HA.out hg) (fun h=>h)
    obtain ⟨a0,a1⟩:=hak.cells k hlk
    clear hak
    have hbk:A2r w0 _ m:=A0a HB.out fun g hg=>hc.out.block g (A0c HB.out hg) (fun h=>h)
    obtain ⟨b0,b1⟩:=hbk.cells k hmk
    clear hbk
    obtain ⟨p,hx⟩:∃ p,l[k]'hlk=p:=⟨_,rfl⟩
    obtain ⟨r,hy⟩:∃ r,m[k]'hmk=r:=⟨_,rfl⟩
    have NEX:Hid (p=r→l.take (k+1)=m.take (k+1)):=fun e=>by
     rw [List.take_succ_eq_append_getElem hlk,List.take_succ_eq_append_getElem hmk,hE.out,hx,hy,e]
    have OFF:Hid (p≠r→q=false):=fun hne=>by
     rw [← HQ.out]
     refine decide_eq_false fun e=>hne ?_
     subst e;rw [← hx,← hy]
    obtain ⟨t,v⟩:=p
    obtain ⟨t2,v2⟩:=r
    rw [hx] at a0 a1
    rw [hy] at b0 b1
    have HK:=A0b hlk
    clear hx hy HA HB HA3 HB3 hE HLM HQ hmk hlk
    by_cases e1:t=t2
    ·subst e1
     by_cases e2:v=v2
     ·subst e2
      have NX:=A0b (NEX.out rfl)
      clear NEX OFF
      go_wp2
      refine A0e (fun w'=>w'.cell? ⟨ga,k*2,none⟩=some (.int .i64 t)∧w'.cell? ⟨ga,k*2+1,none⟩=some (.int .i64 v)∧w'.cell? ⟨gb,k*2,none⟩=some (.int .i64 t)∧w'.cell? ⟨gb,k*2+1,none⟩=some (.int .i64 v)) 23
       [(0,true),(1,true),(2,true),(3,true),(4,true),(5,true),(6,true),(7,true),(8,true),(9,true),(10,true),(11,true),(12,true),(13,true),(14,true),(15,true),(16,true),(17,true),(18,true),(19,true),(20,true),(21,true),(22,true)] (by kernel_rfl) (by kernel_rfl) (fun _ _ _ _ _ h=>h) ⟨a0,a1,b0,b1⟩ ?_
      iterate 23 (refine A0d (v:=?_) rfl (by rfl) ?_ ?_;rotate_left;(· (intro w' hS;(try dsimp only at hS);go_simp;try with_reducible rfl));(try simp only [Act.put,List.setIfInBounds_toArray,List.set_cons_zero,List.set_cons_succ,List.getElem_toArray,List.getElem_cons_zero,List.getElem_cons_succ]))
      refine A0k ?_
      simp only [List.drop_succ_cons,List.drop_zero]
      go_wp2
      go_roundw
      case rel=>exact ⟨k+1,by have:=HK.out;omega,by go_num,hc.out.drew,NX.out⟩
      case measure=>have:=HK.out;simp [intOf];omega
     ·have HF:=OFF.out (by simp [e2])
      have e3:(v != v2)=true:=by simpa using e2
      have HF2:=A0b HF
      clear HF OFF NEX e2
      go_wp2
      refine A0e (fun w'=>w'.cell? ⟨ga,k*2,none⟩=some (.int .i64 t)∧w'.cell? ⟨ga,k*2+1,none⟩=some (.int .i64 v)∧w'.cell? ⟨gb,k*2,none⟩=some (.int .i64 t)∧w'.cell? ⟨gb,k*2+1,none⟩=some (.int .i64 v2)) 23
       [(0,true),(1,true),(2,true),(3,true),(4,true),(5,true),(6,true),(7,true),(8,true),(9,true),(10,true),(11,true),(12,true),(13,true),(14,true),(15,true),(16,true),(17,true),(18,true),(19,true),(20,true),(21,true),(22,true)] (by kernel_rfl) (by kernel_rfl) (fun _ _ _ _ _ h=>h) ⟨a0,a1,b0,b1⟩ ?_
      iterate 23 (refine A0d (v:=?_) rfl (by rfl) ?_ ?_;rotate_left;(· (intro w' hS;(try dsimp only at hS);go_simp;try with_reducible rfl));(try simp only [Act.put,List.setIfInBounds_toArray,List.set_cons_zero,List.set_cons_succ,List.getElem_toArray,List.getElem_cons_zero,List.getElem_cons_succ]))
      refine A0k ?_
      simp only [List.drop_succ_cons,List.drop_zero]
      go_wp2
      go_ret
      rw [HF2.out];exact ⟨rfl,hc.out.drew⟩
    ·have HF:=OFF.out (by simp [e1])
     have e3:(t != t2)=true:=by simpa using e1
     have HF2:=A0b HF
     clear HF OFF NEX e1
     go_wp2
     refine A0e (fun w'=>w'.cell? ⟨ga,k*2,none⟩=some (.int .i64 t)∧w'.cell? ⟨ga,k*2+1,none⟩=some (.int .i64 v)∧w'.cell? ⟨gb,k*2,none⟩=some (.int .i64 t2)∧w'.cell? ⟨gb,k*2+1,none⟩=some (.int .i64 v2)) 23
      [(0,true),(1,true),(2,true),(3,true),(4,true),(5,true),(6,true),(7,true),(8,true),(9,true),(10,true),(11,true),(12,true),(13,true),(14,true),(15,true),(16,true),(17,true),(18,true),(19,true),(20,true),(21,true),(22,true)] (by kernel_rfl) (by kernel_rfl) (fun _ _ _ _ _ h=>h) ⟨a0,a1,b0,b1⟩ ?_
     iterate 12 (refine A0d (v:=?_) rfl (by rfl) ?_ ?_;rotate_left;(· (intro w' hS;(try dsimp only at hS);go_simp;try with_reducible rfl));(try simp only [Act.put,List.setIfInBounds_toArray,List.set_cons_zero,List.set_cons_succ,List.getElem_toArray,List.getElem_cons_zero,List.getElem_cons_succ]))
     iterate 11 (refine B0I rfl (by rfl) ?_;(try simp only [Act.put,List.setIfInBounds_toArray,List.set_cons_zero,List.set_cons_succ,List.getElem_toArray,List.getElem_cons_zero,List.getElem_cons_succ]))
     refine A0k ?_
     simp only [List.drop_succ_cons,List.drop_zero]
     go_wp2
     go_ret
     rw [HF2.out];exact ⟨rfl,hc.out.drew⟩
   ·obtain rfl:k=l.length:=by omega
    have HF:Hid (q=true):=by
     have h2:=hE.out
     rw [List.take_length,HLM.out,List.take_length] at h2
     rw [← HQ.out];exact decide_eq_true h2
    clear hE
    go_wp2
    go_ret
    rw [HF.out];exact ⟨rfl,hc.out⟩
 ·have e:decide (l=m)=false:=decide_eq_false fun e=>hlen (congrArg List.length e)
  have e2:((l.length:Int) != (m.length:Int))=true:=by simp;omega
  rw [e]
  clear ha hb ha3 hb3 e
  go_enter Tryz.func93,Tryz.ntmps93
  go_wp2
  go_ret
  exact ⟨rfl,Chg.refl _ _⟩
end Go.Proofs.YtodcnkbblippnaaGreatDoor
