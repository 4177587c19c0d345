/-
  The statement WritesUptoCardSaid is proved: the law Writes answers true for every setting and every script of at most 1048576 bytes; there is no other condition.
  Part 25 of 33.
-/
import Derived.Test.YtodcnkbblippnaaGreatDoorPart09
import Derived.Test.YtodcnkbblippnaaGreatDoorPart05
import Derived.Deep.RegionHeld3
import Derived.BigQuiet
import Derived.Deep.QuietTactic
import Derived.Test.YtodcnkbblippnaaGreatDoorPart11
import Derived.Test.YtodcnkbblippnaaGreatDoorPart24
namespace Go.Proofs.YtodcnkbblippnaaGreatDoor
open Go.RowKit
attribute [local go_sem ↓] Go.wp_at_zero Go.wp_at_succ
theorem Tryz.infoPoint:(Tryz.prog.info? 70).map (fun i=>(i.zero,i.size,i.bytes))=some (some (.agg #[.int .i64 0,.int .i64 0]),2,16):=by kernel_rfl
def qOk (series a b life clock:Int) (p:Pu):Bool:=decide (p.1=series) && decide (a≤p.2.1) && decide (p.2.1≤b) && A2U p.2.1 life clock
def A3U (series a b life clock:Int) (l:List Pt) (p:Pu):List Pt:=if qOk series a b life clock p then A2w l p.2.1 p.2.2 else l
def A4r (puts:List Pu) (series a b life clock:Int):List Pt:=puts.foldl (A3U series a b life clock) []
theorem A4f (l:List Pt) (t v:Int):l.length≤(A2w l t v).length∧(A2w l t v).length≤l.length+1:=by
 induction l with
 | nil=>simp [A2w]
 | cons e r ih=>
  obtain ⟨a,b⟩:=e
  simp only [A2w]
  split
  ·simp only [List.length_cons];omega
  ·split <;> simp only [List.length_cons] <;> omega
theorem A7L (puts:List Pu) (k:Nat) (hk:k<puts.length) (series a b life clock:Int):A4r (puts.take (k+1)) series a b life clock=A3U series a b life clock (A4r (puts.take k) series a b life clock) (puts[k]'hk):=by
 unfold A4r
 rw [List.take_succ_eq_append_getElem hk,List.foldl_append];rfl
theorem A9S (puts:List Pu) (series a b life clock:Int) (k:Nat) (hk:k≤puts.length):A1z (A4r (puts.take k) series a b life clock)∧(A4r (puts.take k) series a b life clock).length≤k:=by
 induction k with
 | zero=>simp [A4r,A1z]
 | succ k ih=>
  obtain ⟨h1,h2⟩:=ih (by omega)
  rw [A7L puts k (by omega)]
  unfold A3U
  split
  ·have:=(A4f (A4r (puts.take k) series a b life clock) (puts[k]'(by omega)).2.1 (puts[k]'(by omega)).2.2).2
   exact ⟨A3a h1 _ _,by omega⟩
  ·exact ⟨h1,by omega⟩
theorem A9Z {l:List Pt} {t:Int} (v:Int) {j:Nat} (hj:A1H l t=j) (hn:∀ h:j<l.length,(l[j]'h).1≠t):A2w l t v=l.take j ++ (t,v):: l.drop j:=by
 rw [A8R,hj]
 have:(l[j]?).any (fun x=>x.1 == t)=false:=by
  by_cases h:j<l.length
  ·rw [List.getElem?_eq_getElem h];simpa using hn h
  ·rw [List.getElem?_eq_none (by omega)];rfl
 rw [this];simp
theorem B4n {l:List Pt} {t:Int} (v:Int) {j:Nat} (hj:A1H l t=j) (h:j<l.length) (he:(l[j]'h).1=t):A2w l t v=l.set j (t,v):=by
 rw [A8R,hj]
 have:(l[j]?).any (fun x=>x.1 == t)=true:=by rw [List.getElem?_eq_getElem h];simpa using he
 rw [this,List.set_eq_take_append_cons_drop];simp [h]
theorem B1j (l:List Pt) (x:Pt) (i:Nat) (hi:i<l.length):(l.take (i+1) ++ x :: l.drop (i+1)).set (i+1) (l[i]'hi)=l.take i ++ (l[i]'hi):: l.drop i:=by
 have h1:(l.take (i+1)).length=i+1:=by simp;omega
 rw [List.set_append_right _ _ (by omega),h1,Nat.sub_self,List.set_cons_zero,List.take_succ_eq_append_getElem hi,List.append_assoc,List.drop_eq_getElem_cons hi]
 rfl
theorem A6F (l:List Pt) (x y:Pt) (i:Nat) (hi:i≤l.length):(l.take i ++ x :: l.drop i).set i y=l.take i ++ y :: l.drop i:=by
 have h1:(l.take i).length=i:=by simp;omega
 rw [List.set_append_right _ _ (by omega),h1,Nat.sub_self,List.set_cons_zero]
set_option maxRecDepth 100000 in
set_option maxHeartbeats 4000000 in
theorem A8G (w:World) (pv:Value) (puts:List Pu) (m:Nat) (hp:B1r w pv puts) (hm:m≤puts.length) (hl:puts.length<1099511627776) (hP:∀ p∈puts,A0P p.2.1) (series a b life clock:Int) (hlife:1≤life∧life≤4611686018427387904) (hclock:A0P clock):
 Calls Tryz.prog 92 #[pv,.int .i64 m,.int .i64 series,.int .i64 a,.int .i64 b,.int .i64 life,.int .i64 clock] w fun e w'=>∃ v,e=.returned v∧A2r w' v (A4r (puts.take m) series a b life clock)∧Chg (fun _=>False) w w'∧∀ g,v.ownBlock=some g→w.heap.size≤g:=by
 obtain ⟨ap,cp,rfl,hp1,hp2,hcell⟩:=hp.form
 unfold maxLen at hp2
 have HC:=A0b hcell
 have HL:=A0b hlife
 have HK:=A0b hclock
 have HPP:=A0b hP
 obtain ⟨i0,hi0,hz0,hz1,hz2⟩:=info_parts Tryz.infoPoint
 clear hp hcell hlife hclock hP
 go_enter Tryz.func92,Tryz.ntmps92
 go_wp2
 go_loopw [15,16] (fun lv iv wr=>∃ k:Nat,k≤m∧iv=.int .i64 k∧Hid (A2r wr lv (A4r (puts.take k) series a b life clock))∧Hid (Chg (fun _=>False) w wr)∧Hid (∀ g,lv.ownBlock=some g→w.heap.size≤g)) (fun _ iv _=>m - (intOf iv).toNat)
 case atStart=>exact ⟨0,Nat.zero_le _,rfl,World.ownsRow_nil _ _ _ _,Chg.refl _ _,by simp [Hid,Value.ownBlock]⟩
 case round=>
  obtain ⟨k,hk,rfl,how,hcr,hfr⟩:=hrel
  obtain ⟨w0,hw0⟩:∃ w0,w0=wr:=⟨_,rfl⟩
  subst hw0
  by_cases hlk:k<m
  ·obtain ⟨g,rfl,hg,q1,q2,q3⟩:=HC.out k (by omega)
   obtain ⟨⟨s,t,v⟩,hx⟩:∃ p,puts[k]'(by omega)=p:=⟨_,rfl⟩
   rw [hx] at q1 q2 q3
   have hxm:(s,t,v)∈puts:=hx ▸ List.getElem_mem _
   have q1:=(World.cell?_of_block (hcr.out.block g hg (fun h=>h))).trans q1
   have q2:=(World.cell?_of_block (hcr.out.block g hg (fun h=>h))).trans q2
   have q3:=(World.cell?_of_block (hcr.out.block g hg (fun h=>h))).trans q3
   obtain ⟨L,hL⟩:∃ L,A4r (puts.take k) series a b life clock=L:=⟨_,rfl⟩
   have inv:=A9S puts series a b life clock k (by omega)
   rw [hL] at inv how
   obtain ⟨hsort,hlen⟩:=inv
   have HS:=A0b hsort
   obtain ⟨al,hal⟩:∃ al,A2U t life clock=al:=⟨_,rfl⟩
   have ALV:Hid (∀ W:World,Calls Tryz.prog 123 #[.int .i64 t,.int .i64 life,.int .i64 clock] W fun e w'=>e=.returned (.bool al)∧W=w'):=fun W=>by
    rw [← hal];exact B2J t life clock W (HPP.out _ hxm) HL.out HK.out HK.out.2
   have NXT:Hid (A4r (puts.take (k+1)) series a b life clock=if decide (s=series) && decide (a≤t) && decide (t≤b) && al then A2w L t v else L):=by
    unfold Hid
    rw [A7L puts k (by omega),hL,hx]
    simp only [A3U,qOk,hal]
   have hi0':(0:Int)≤(k:Int):=Int.natCast_nonneg _
   have hi1':(k:Int)<(puts.length:Int):=by omega
   have KO:Hid (A2r (w0.alloc (.cells #[.int .i64 s,.int .i64 t,.int .i64 v] 141)) u15 L):=A0a how.out fun g hg=>Below.heap_alloc _ _ _ (A0c how.out hg)
   have KC:Hid (Chg (fun _=>False) w (w0.alloc (.cells #[.int .i64 s,.int .i64 t,.int .i64 v] 141))):=hcr.out.alloc _
   have hsz:=hcr.out.size
   have CONT:Hid ((decide (s=series) && decide (a≤t) && decide (t≤b) && al)=false→∃ k':Nat,k'≤m∧Value.int .i64 ((k:Int)+1)=.int .i64 k'∧Hid (A2r (w0.alloc (.cells #[.int .i64 s,.int .i64 t,.int .i64 v] 141)) u15 (A4r (puts.take k') series a b life clock))∧Hid (Chg (fun _=>False) w (w0.alloc (.cells #[.int .i64 s,.int .i64 t,.int .i64 v] 141)))∧Hid (∀ g,u15.ownBlock=some g→w.heap.size≤g)):=fun hf=>
    ⟨k+1,by omega,by go_num,by unfold Hid;rw [NXT.out,hf];exact KO.out,KC.out,hfr.out⟩
   clear hxm hx hL hal hsort how hcr
   have hkm:(k:Int)<(m:Int):=by omega
   by_cases hs:s=series
   ·subst hs
    by_cases hf:t<a
    ·have hr:=A0b (show ¬ a≤t by omega)
     go_wp2_with (go_at_call 123;refine (ALV.out _).mono ?_;rintro e w' ⟨rfl,rfl⟩)
     go_roundw
     case rel=>exact CONT.out (by have h0:decide (a≤t)=false:=decide_eq_false (by have:=hr.out;omega);simp [h0])
     case measure=>simp [intOf];omega
    ·have hf':a≤t:=by omega
     clear hf
     by_cases ht:b<t
     ·have hr:=A0b (show ¬ t≤b by omega)
      go_wp2_with (go_at_call 123;refine (ALV.out _).mono ?_;rintro e w' ⟨rfl,rfl⟩)
      go_roundw
      case rel=>exact CONT.out (by have h0:decide (t≤b)=false:=decide_eq_false (by have:=hr.out;omega);simp [h0])
      case measure=>simp [intOf];omega
     ·have ht':t≤b:=by omega
      clear ht
      cases al with
      | false=>
       go_wp2_with (go_at_call 123;refine (ALV.out _).mono ?_;rintro e w' ⟨rfl,rfl⟩)
       go_roundw
       case rel=>exact CONT.out (by simp)
       case measure=>simp [intOf];omega
      | true=>
       have NX2:Hid (A4r (puts.take (k+1)) s a b life clock=A2w L t v):=by have:=NXT.out;unfold Hid;simpa [hf',ht'] using this
       clear CONT NXT
       obtain ⟨aL,cL,rfl,hcl1,hcl2,hcl3,_,_⟩:=A0g KO.out
       unfold maxLen at hcl2
       have HA3:=A0b hcl3
       clear hcl3
       have nbx:=heap_alloc_new w0 (.cells #[.int .i64 s,.int .i64 t,.int .i64 v] 141)
       have NB:=A0b nbx
       clear nbx
       go_wp2_with (go_at_call 123;refine (ALV.out _).mono ?_;rintro e w' ⟨rfl,rfl⟩)
       go_loopw [19] (fun av wq=>∃ j:Nat,j≤L.length∧av=.int .i64 j∧Hid (∀ i (hi:i<L.length),i<j→(L[i]'hi).1<t)∧Hid (Chg (fun _=>False) (w0.alloc (.cells #[.int .i64 s,.int .i64 t,.int .i64 v] 141)) wq)) (fun av _=>L.length - (intOf av).toNat)
       case atStart=>exact ⟨0,Nat.zero_le _,rfl,fun i hi h=>by omega,Chg.refl _ _⟩
       case round=>
        obtain ⟨j,hj,rfl,hbelow,hcq⟩:=hrel
        obtain ⟨w1,hw1⟩:∃ w1,w1=wr:=⟨_,rfl⟩
        subst hw1
        have hbx:w1.heap[w0.heap.size]?=some (.cells #[.int .i64 s,.int .i64 t,.int .i64 v] 141 (0,0)):=(hcq.out.block _ (by simp) (fun h=>h)).trans NB.out
        have b0:w1.cell? ⟨w0.heap.size,0,none⟩=some (.int .i64 s):=by simp [World.cell?,hbx]
        have b1:w1.cell? ⟨w0.heap.size,1,none⟩=some (.int .i64 t):=by simp [World.cell?,hbx]
        have b2:w1.cell? ⟨w0.heap.size,2,none⟩=some (.int .i64 v):=by simp [World.cell?,hbx]
        have HBX:=A0b hbx
        have KO1:Hid (A2r w1 (.slice aL L.length cL) L):=A0a KO.out fun g hg=>hcq.out.block g (A0c KO.out hg) (fun h=>h)
        have KC1:Hid (Chg (fun _=>False) w w1):=KC.out.trans hcq.out fun _ h _=>h
        clear hbx
        by_cases hjl:j<L.length
        ·obtain ⟨g2,rfl⟩:=HA3.out (by omega)
         obtain ⟨⟨tj,vj⟩,hLj⟩:∃ x,L[j]'hjl=x:=⟨_,rfl⟩
         obtain ⟨d1,d2⟩:=KO1.out.cells j hjl
         rw [hLj] at d1 d2
         have HLj:=A0b hLj
         clear hLj
         have j0:(0:Int)≤(j:Int):=Int.natCast_nonneg _
         have j1:(j:Int)<(L.length:Int):=by omega
         by_cases htj:tj<t
         ·go_wp2
          go_quiet (fail)
          go_wp2
          go_roundw
          case rel=>
           refine ⟨j+1,by omega,by go_num,fun i hi h=>?_,hcq.out.drewN _⟩
           by_cases hij:i=j
           ·subst hij;rw [HLj.out];exact htj
           ·exact hbelow.out i hi (by omega)
          case measure=>simp [intOf];omega
         ·have htj':t≤tj:=by omega
          have POS:Hid (A1H L t=j):=A3l HS.out hj hbelow.out fun i hi h=>by
           by_cases hij:i=j
           ·subst hij;rw [HLj.out];exact htj'
           ·have:=List.pairwise_iff_getElem.1 HS.out j i hjl hi (by omega)
            rw [HLj.out] at this
            simp only at this;omega
          by_cases heq:tj=t
          ·subst heq
           have FIN:Hid (∀ n,A2r ((w1.drewN n).setCell ⟨g2,j*2+1,none⟩ (.int .i64 v)) (.slice (some ⟨g2,0,none⟩) L.length cL) (A2w L tj v)∧Chg (fun _=>False) w ((w1.drewN n).setCell ⟨g2,j*2+1,none⟩ (.int .i64 v))):=by
            intro n
            have s1:=(KO1.out.stored (j*2+1) (.int .i64 v)).1
            rw [A9p L j v hjl,HLj.out] at s1
            have hnew:A2w L tj v=L.set j (tj,v):=B4n v POS.out hjl (by rw [HLj.out])
            refine ⟨?_,?_⟩
            ·rw [hnew]
             unfold A2r
             rw [List.length_set]
             exact A0a s1 fun g _=>rfl
            ·have hgw:w.heap.size≤g2:=hfr.out g2 rfl
             exact (KC1.out.drewN n).setCell (p:=⟨g2,j*2+1,none⟩) (fun h=>by simp at h;omega) (.int .i64 v)
           have gz:w1.frozen? ⟨g2,j*2+1,none⟩=false:=A0t KO1.out rfl _
           go_wp2
           go_quiet (fail)
           go_wp2
           go_quiet (fail)
           go_wp2
           go_roundw
           case rel=>
            exact ⟨k+1,by omega,by go_num,by unfold Hid;rw [NX2.out];exact (FIN.out _).1,(FIN.out _).2,hfr.out⟩
           case measure=>simp [intOf];omega
          ·have NEW:Hid (A2w L t v=L.take j ++ (t,v):: L.drop j):=A9Z v POS.out fun h=>by rw [HLj.out];exact heq
           have hjL:j≤L.length:=hj
           have hne:(tj == t)=false:=by simpa using heq
           clear heq
           have hcap3:(L.length+1)*16≤140737488355328:=by omega
           have ROW0:Hid (∀ n,((w1.drewN n).alloc (.cells #[.int .i64 0,.int .i64 0] 70)).ownsRow 0 70 2 (.slice (some ⟨g2,0,none⟩) L.length cL) L.length (A0n L)):=fun n=>A0a KO1.out fun g hg=>Below.heap_alloc _ _ _ (A0c KO1.out hg)
           have hsrc:Hid (∀ n,Src Tryz.prog 2 66 (.slice (some ⟨w1.heap.size,0,none⟩) 1 1) 1 [.int .i64 0,.int .i64 0] ((w1.drewN n).alloc (.cells #[.int .i64 0,.int .i64 0] 70))):=
            fun n=>Src.ofNew Tryz.underlying66 (w1.drewN n) #[.int .i64 0,.int .i64 0] 70 w1.heap.size (by simp) 1 1 rfl (by simp [Value.oneCell'])
           have AFT:Hid (∀ n w3 a3 cap3,App ((w1.drewN n).alloc (.cells #[.int .i64 0,.int .i64 0] 70)) w3 70 2 (.slice (some ⟨g2,0,none⟩) L.length cL) (.slice a3 (L.length+1) cap3) (L.length+1) (A0n L ++ [.int .i64 0,.int .i64 0])→
            w3.heap[w0.heap.size]?=some (.cells #[.int .i64 s,.int .i64 t,.int .i64 v] 141 (0,0))∧Chg (fun _=>False) w w3∧(∀ g,(Value.slice a3 (L.length+1) cap3).ownBlock=some g→w.heap.size≤g)∧w3.ownsRow 0 70 2 (.slice a3 (L.length+1) cap3) (L.length+1) (A0n (L.take L.length ++ (0,0):: L.drop L.length))):=by
            intro n w3 a3 cap3 hA
            have hs1:=KC1.out.size
            refine ⟨?_,?_,?_,?_⟩
            ·have h5:((w1.drewN n).alloc (.cells #[.int .i64 0,.int .i64 0] 70)).heap[w0.heap.size]?=some (.cells #[.int .i64 s,.int .i64 t,.int .i64 v] 141 (0,0)):=(Below.heap_alloc _ _ _ (by simpa using lt_of_block HBX.out)).trans HBX.out
             exact (hA.grown.block _ (lt_of_block h5) (fun e=>by
              obtain ⟨c,hh⟩:=A0f (ROW0.out n) e.symm
              exact A0r h5 hh (by decide) rfl)).trans h5
            ·exact ((KC1.out.drewN n).alloc _).grown hA.grown fun k hk hlt=>by have:=hfr.out k hk;omega
            ·intro g hg
             rcases hA.at_ with e | e
             ·rw [e] at hg;exact hfr.out g hg
             ·rw [e] at hg;cases hg;simp;omega
            ·have:=hA.own
             rw [List.take_of_length_le (Nat.le_refl _),List.drop_of_length_le (Nat.le_refl _),A1Q]
             exact this
           go_wp2
           go_quiet (fail)
           go_wp2
           go_quiet (fail)
           go_wp2_with (at_builtin;refine A0o rfl (.tmp 91) (.tmp 93) 66 66 rfl 70 i0 _ 2 16 Tryz.underlying66 hi0 hz0 hz1 hz2 rfl (by decide) _ L.length (A0n L) (by rfl) (ROW0.out _) _ 1 _ (by rfl) (hsrc.out _) hcap3 ?_;intro a3 cap3 w3 hA;have hA3:=A0b (AFT.out _ w3 a3 cap3 hA);clear hA)
           obtain ⟨hbx3,hc3,hfr3,hrow3⟩:=hA3.out
           obtain ⟨_,_,e3,_,hcap3',h3s,_⟩:=A0g hrow3
           cases e3
           obtain ⟨g3,rfl⟩:=h3s (by omega)
           unfold maxLen at hcap3'
           have HBX3:=A0b hbx3
           have HC3:=A0b hc3
           have HROW3:=A0b hrow3
           have hg3w:w.heap.size≤g3:=hfr3 g3 rfl
           clear hbx3 hc3 hrow3 h3s hA3 hfr3
           go_loopw [20] (fun kv wz=>∃ i:Nat,j≤i∧i≤L.length∧kv=.int .i64 i∧Hid (Chg (fun _=>False) w wz)∧Hid (wz.heap[w0.heap.size]?=some (.cells #[.int .i64 s,.int .i64 t,.int .i64 v] 141 (0,0)))∧Hid (∃ x,wz.ownsRow 0 70 2 (.slice (some ⟨g3,0,none⟩) (L.length+1) cap3) (L.length+1) (A0n (L.take i ++ x :: L.drop i)))) (fun kv _=>(intOf kv).toNat)
           case atStart=>exact ⟨L.length,hjL,Nat.le_refl _,rfl,HC3.out,HBX3.out,(0,0),HROW3.out⟩
           case round=>
            obtain ⟨i,hji,hiL,rfl,hcz,hbz,hrz⟩:=hrel
            obtain ⟨⟨x1,x2⟩,hrx⟩:=hrz.out
            have HRX:=A0b hrx
            have z0:=A0t hrx (g:=g3) rfl (i*2)
            have z1:=A0t hrx (g:=g3) rfl (i*2+1)
            have xl:(L.take i ++ (x1,x2):: L.drop i).length=L.length+1:=by simp;omega
            have o0:=A0j hrx (g:=g3) rfl (A5w _ i (by rw [xl];omega))
            have o1:=A0j hrx (g:=g3) rfl (A5t _ i (by rw [xl];omega))
            have iB:(i:Int)<((L.length+1:Nat):Int):=by omega
            have iA:(0:Int)≤(i:Int):=Int.natCast_nonneg _
            have hXX:(L.take i ++ (x1,x2):: L.drop i)[i]'(by rw [xl];omega)=(x1,x2):=by
             rw [List.getElem_append_right (by simp;omega)];simp [Nat.min_eq_left hiL]
            rw [hXX] at o0 o1
            have HXL:=A0b xl
            have iD:(i:Int)<(L.length:Int)+1:=by omega
            clear hXX xl hrx hrz
            by_cases hgt:j<i
            ·have h1:(i - 1)<L.length:=by omega
             obtain ⟨⟨ti,vi⟩,hLi⟩:∃ y,L[i - 1]'h1=y:=⟨_,rfl⟩
             have hXi:(L.take i ++ (x1,x2):: L.drop i)[i - 1]'(by rw [HXL.out];omega)=(ti,vi):=by
              rw [List.getElem_append_left (by simp;omega)];simp [hLi]
             have c0:=A0j HRX.out (g:=g3) rfl (A5w _ (i - 1) (by rw [HXL.out];omega))
             have c1:=A0j HRX.out (g:=g3) rfl (A5t _ (i - 1) (by rw [HXL.out];omega))
             rw [hXi] at c0 c1
             have hgt':(j:Int)<(i:Int):=by omega
             have i1:(0:Int)≤(i:Int) - 1:=by omega
             have i2:(i:Int) - 1<((L.length+1:Nat):Int):=by omega
             have i4:(i:Int) - 1<(L.length:Int)+1:=by omega
             have i3:((i:Int) - 1).toNat=i - 1:=by omega
             have SH:Hid (∀ wy:World,wy=((wr.setCell ⟨g3,i*2,none⟩ (.int .i64 ti)).setCell ⟨g3,i*2+1,none⟩ (.int .i64 vi))→Chg (fun _=>False) w wy∧wy.heap[w0.heap.size]?=some (.cells #[.int .i64 s,.int .i64 t,.int .i64 v] 141 (0,0))∧wy.ownsRow 0 70 2 (.slice (some ⟨g3,0,none⟩) (L.length+1) cap3) (L.length+1) (A0n (L.take (i - 1) ++ (ti,vi):: L.drop (i - 1)))):=by
              intro wy hy
              subst hy
              have s1:=(HRX.out.stored (i*2) (.int .i64 ti)).1
              have s2:=(s1.stored (i*2+1) (.int .i64 vi)).1
              have e:=A2R (L.take i ++ (x1,x2):: L.drop i) i (ti,vi) (by rw [HXL.out];omega)
              have e2:=B1j L (x1,x2) (i - 1) h1
              rw [show i - 1+1=i from by omega,hLi] at e2
              simp only at e
              rw [e,e2] at s2
              obtain ⟨ce,hce⟩:=A0f HRX.out (g:=g3) rfl
              refine ⟨(hcz.out.setCell (p:=⟨g3,i*2,none⟩) (fun h=>by simp at h;omega) _).setCell (p:=⟨g3,i*2+1,none⟩) (fun h=>by simp at h;omega) _,?_,s2⟩
              have hne3:w0.heap.size≠g3:=fun e=>A0r hbz.out hce (by decide) e
              rw [Below.heap_setCell _ _ _ _ hne3,Below.heap_setCell _ _ _ _ hne3];exact hbz.out
             clear hXi hLi HRX
             go_wp2
             go_roundw
             case rel=>
              obtain ⟨k1,k2,k3⟩:=SH.out _ rfl
              exact ⟨i - 1,by omega,by omega,by go_num,k1,k2,(ti,vi),k3⟩
             case measure=>simp [intOf];omega
            ·obtain rfl:i=j:=by omega
             have p1:wr.cell? ⟨w0.heap.size,1,none⟩=some (.int .i64 t):=by simp [World.cell?,hbz.out]
             have p2:wr.cell? ⟨w0.heap.size,2,none⟩=some (.int .i64 v):=by simp [World.cell?,hbz.out]
             have FIN:Hid (∀ wy:World,wy=((wr.setCell ⟨g3,i*2,none⟩ (.int .i64 t)).setCell ⟨g3,i*2+1,none⟩ (.int .i64 v))→A2r wy (.slice (some ⟨g3,0,none⟩) (L.length+1) cap3) (A2w L t v)∧Chg (fun _=>False) w wy):=by
              intro wy hy
              subst hy
              have s1:=(HRX.out.stored (i*2) (.int .i64 t)).1
              have s2:=(s1.stored (i*2+1) (.int .i64 v)).1
              have e:=A2R (L.take i ++ (x1,x2):: L.drop i) i (t,v) (by rw [HXL.out];omega)
              simp only at e
              rw [e,A6F L (x1,x2) (t,v) i hjL,← NEW.out] at s2
              have hlen:(A2w L t v).length=L.length+1:=by rw [NEW.out];simp;try omega
              refine ⟨?_,(hcz.out.setCell (p:=⟨g3,i*2,none⟩) (fun h=>by simp at h;omega) _).setCell (p:=⟨g3,i*2+1,none⟩) (fun h=>by simp at h;omega) _⟩
              unfold A2r
              rw [hlen];exact s2
             clear HRX
             go_wp2
             go_roundw
             case rel=>exact ⟨k+1,by omega,by go_num,by unfold Hid;rw [NX2.out];exact (FIN.out _ rfl).1,(FIN.out _ rfl).2,by intro g hg;simp [Value.ownBlock] at hg;omega⟩
             case measure=>simp [intOf];omega
        ·obtain rfl:j=L.length:=by omega
         have POS:Hid (A1H L t=L.length):=A3l HS.out (Nat.le_refl _) (fun i hi h=>hbelow.out i hi h) fun i hi h=>by omega
         have NEW:Hid (A2w L t v=L.take L.length ++ (t,v):: L.drop L.length):=A9Z v POS.out fun h=>by omega
         have hjL:L.length≤L.length:=hj
         have hcap3:(L.length+1)*16≤140737488355328:=by omega
         have ROW0:Hid (∀ n,((w1.drewN n).alloc (.cells #[.int .i64 0,.int .i64 0] 70)).ownsRow 0 70 2 (.slice aL L.length cL) L.length (A0n L)):=fun n=>A0a KO1.out fun g hg=>Below.heap_alloc _ _ _ (A0c KO1.out hg)
         have hsrc:Hid (∀ n,Src Tryz.prog 2 66 (.slice (some ⟨w1.heap.size,0,none⟩) 1 1) 1 [.int .i64 0,.int .i64 0] ((w1.drewN n).alloc (.cells #[.int .i64 0,.int .i64 0] 70))):=
          fun n=>Src.ofNew Tryz.underlying66 (w1.drewN n) #[.int .i64 0,.int .i64 0] 70 w1.heap.size (by simp) 1 1 rfl (by simp [Value.oneCell'])
         have AFT:Hid (∀ n w3 a3 cap3,App ((w1.drewN n).alloc (.cells #[.int .i64 0,.int .i64 0] 70)) w3 70 2 (.slice aL L.length cL) (.slice a3 (L.length+1) cap3) (L.length+1) (A0n L ++ [.int .i64 0,.int .i64 0])→
          w3.heap[w0.heap.size]?=some (.cells #[.int .i64 s,.int .i64 t,.int .i64 v] 141 (0,0))∧Chg (fun _=>False) w w3∧(∀ g,(Value.slice a3 (L.length+1) cap3).ownBlock=some g→w.heap.size≤g)∧w3.ownsRow 0 70 2 (.slice a3 (L.length+1) cap3) (L.length+1) (A0n (L.take L.length ++ (0,0):: L.drop L.length))):=by
          intro n w3 a3 cap3 hA
          have hs1:=KC1.out.size
          refine ⟨?_,?_,?_,?_⟩
          ·have h5:((w1.drewN n).alloc (.cells #[.int .i64 0,.int .i64 0] 70)).heap[w0.heap.size]?=some (.cells #[.int .i64 s,.int .i64 t,.int .i64 v] 141 (0,0)):=(Below.heap_alloc _ _ _ (by simpa using lt_of_block HBX.out)).trans HBX.out
           exact (hA.grown.block _ (lt_of_block h5) (fun e=>by
            obtain ⟨c,hh⟩:=A0f (ROW0.out n) e.symm
            exact A0r h5 hh (by decide) rfl)).trans h5
          ·exact ((KC1.out.drewN n).alloc _).grown hA.grown fun k hk hlt=>by have:=hfr.out k hk;omega
          ·intro g hg
           rcases hA.at_ with e | e
           ·rw [e] at hg;exact hfr.out g hg
           ·rw [e] at hg;cases hg;simp;omega
          ·have:=hA.own
           rw [List.take_of_length_le (Nat.le_refl _),List.drop_of_length_le (Nat.le_refl _),A1Q]
           exact this
         go_wp2
         go_quiet (fail)
         go_wp2
         go_quiet (fail)
         go_wp2_with (at_builtin;refine A0o rfl (.tmp 91) (.tmp 93) 66 66 rfl 70 i0 _ 2 16 Tryz.underlying66 hi0 hz0 hz1 hz2 rfl (by decide) _ L.length (A0n L) (by rfl) (ROW0.out _) _ 1 _ (by rfl) (hsrc.out _) hcap3 ?_;intro a3 cap3 w3 hA;have hA3:=A0b (AFT.out _ w3 a3 cap3 hA);clear hA)
         obtain ⟨hbx3,hc3,hfr3,hrow3⟩:=hA3.out
         obtain ⟨_,_,e3,_,hcap3',h3s,_⟩:=A0g hrow3
         cases e3
         obtain ⟨g3,rfl⟩:=h3s (by omega)
         unfold maxLen at hcap3'
         have HBX3:=A0b hbx3
         have HC3:=A0b hc3
         have HROW3:=A0b hrow3
         have hg3w:w.heap.size≤g3:=hfr3 g3 rfl
         clear hbx3 hc3 hrow3 h3s hA3 hfr3
         go_loopw [20] (fun kv wz=>∃ i:Nat,L.length≤i∧i≤L.length∧kv=.int .i64 i∧Hid (Chg (fun _=>False) w wz)∧Hid (wz.heap[w0.heap.size]?=some (.cells #[.int .i64 s,.int .i64 t,.int .i64 v] 141 (0,0)))∧Hid (∃ x,wz.ownsRow 0 70 2 (.slice (some ⟨g3,0,none⟩) (L.length+1) cap3) (L.length+1) (A0n (L.take i ++ x :: L.drop i)))) (fun kv _=>(intOf kv).toNat)
         case atStart=>exact ⟨L.length,hjL,Nat.le_refl _,rfl,HC3.out,HBX3.out,(0,0),HROW3.out⟩
         case round=>
          obtain ⟨i,hji,hiL,rfl,hcz,hbz,hrz⟩:=hrel
          obtain ⟨⟨x1,x2⟩,hrx⟩:=hrz.out
          have HRX:=A0b hrx
          have z0:=A0t hrx (g:=g3) rfl (i*2)
          have z1:=A0t hrx (g:=g3) rfl (i*2+1)
          have xl:(L.take i ++ (x1,x2):: L.drop i).length=L.length+1:=by simp;omega
          have o0:=A0j hrx (g:=g3) rfl (A5w _ i (by rw [xl];omega))
          have o1:=A0j hrx (g:=g3) rfl (A5t _ i (by rw [xl];omega))
          have iB:(i:Int)<((L.length+1:Nat):Int):=by omega
          have iA:(0:Int)≤(i:Int):=Int.natCast_nonneg _
          have hXX:(L.take i ++ (x1,x2):: L.drop i)[i]'(by rw [xl];omega)=(x1,x2):=by
           rw [List.getElem_append_right (by simp;omega)];simp [Nat.min_eq_left hiL]
          rw [hXX] at o0 o1
          have HXL:=A0b xl
          have iD:(i:Int)<(L.length:Int)+1:=by omega
          clear hXX xl hrx hrz
          by_cases hgt:L.length<i
          ·omega
          ·obtain rfl:i=L.length:=by omega
           have p1:wr.cell? ⟨w0.heap.size,1,none⟩=some (.int .i64 t):=by simp [World.cell?,hbz.out]
           have p2:wr.cell? ⟨w0.heap.size,2,none⟩=some (.int .i64 v):=by simp [World.cell?,hbz.out]
           have FIN:Hid (∀ wy:World,wy=((wr.setCell ⟨g3,L.length*2,none⟩ (.int .i64 t)).setCell ⟨g3,L.length*2+1,none⟩ (.int .i64 v))→A2r wy (.slice (some ⟨g3,0,none⟩) (L.length+1) cap3) (A2w L t v)∧Chg (fun _=>False) w wy):=by
            intro wy hy
            subst hy
            have s1:=(HRX.out.stored (L.length*2) (.int .i64 t)).1
            have s2:=(s1.stored (L.length*2+1) (.int .i64 v)).1
            have e:=A2R (L.take L.length ++ (x1,x2):: L.drop L.length) L.length (t,v) (by rw [HXL.out];omega)
            simp only at e
            rw [e,A6F L (x1,x2) (t,v) L.length hjL,← NEW.out] at s2
            have hlen:(A2w L t v).length=L.length+1:=by rw [NEW.out];simp;try omega
            refine ⟨?_,(hcz.out.setCell (p:=⟨g3,L.length*2,none⟩) (fun h=>by simp at h;omega) _).setCell (p:=⟨g3,L.length*2+1,none⟩) (fun h=>by simp at h;omega) _⟩
            unfold A2r
            rw [hlen];exact s2
           clear HRX
           go_wp2
           go_roundw
           case rel=>exact ⟨k+1,by omega,by go_num,by unfold Hid;rw [NX2.out];exact (FIN.out _ rfl).1,(FIN.out _ rfl).2,by intro g hg;simp [Value.ownBlock] at hg;omega⟩
           case measure=>simp [intOf];omega
   ·have hs':(s == series)=false:=by simpa using hs
    have hr:=A0b hs
    clear hs
    go_wp2_with (go_at_call 123;refine (ALV.out _).mono ?_;rintro e w' ⟨rfl,rfl⟩)
    go_roundw
    case rel=>exact CONT.out (by have h0:=decide_eq_false hr.out;simp [h0])
    case measure=>simp [intOf];omega
  ·obtain rfl:k=m:=by omega
   go_wp2
   go_ret
   exact ⟨_,rfl,how.out,hcr.out,hfr.out⟩
end Go.Proofs.YtodcnkbblippnaaGreatDoor
namespace Go.Proofs.YtodcnkbblippnaaGreatDoor
open Go.RowKit
structure SV (w:World) (sb ab b:Nat) (mu life win clock:Int) (ro:Bool) (lv:Nat→Value) (L:Nat→List Pt) (A:Ar) (P:PD) (F0:Nat→Prop):Prop where
 blk:A1w w sb mu (.pointer (some ⟨ab,0,none⟩)) life win clock ro lv
 rows:A1q w lv L
 ar:AD w ab b A P F0
 lt:∀ k,F0 k→k<w.heap.size
 ns:¬ F0 sb
 nr:∀ k,A1C lv k→¬ F0 k
def SF (w:World) (sb ab b:Nat) (mu life win clock:Int) (ro:Bool) (L:Nat→List Pt) (A:Ar) (P:PD) (FT:Nat→Prop):Prop:=
 ∃ lv F0,SV w sb ab b mu life win clock ro lv L A P F0∧∀ k,F0 k∨Own sb lv k→FT k
section
variable {w w' w2:World} {sb ab b:Nat} {mu mu' life win clock clock':Int} {ro ro':Bool} {lv lv':Nat→Value} {L L':Nat→List Pt} {A A':Ar} {P P':PD} {F0 FT:Nat→Prop}
theorem SV.ltO (h:SV w sb ab b mu life win clock ro lv L A P F0) {k:Nat} (hk:F0 k∨Own sb lv k):k<w.heap.size:=by
 rcases hk with hk | rfl | hk
 ·exact h.lt k hk
 ·exact h.blk.lt
 ·exact h.rows.lt hk
theorem SV.nb (h:SV w sb ab b mu life win clock ro lv L A P F0):¬ A1C lv sb:=h.rows.ne h.blk (by decide)
theorem SV.chg (h:SV w sb ab b mu life win clock ro lv L A P F0) {S:Nat→Prop} (hc:Chg S w w') (hS:∀ k,F0 k∨Own sb lv k→¬ S k):SV w' sb ab b mu life win clock ro lv L A P F0:=
 ⟨h.blk.chg hc (hS sb (.inr (.inl rfl))),h.rows.chg hc fun g hg=>hS g (.inr (.inr hg)),h.ar.frame (hc.same (fun k hk=>h.lt k hk) fun k hk=>hS k (.inl hk)) hc.size,
  fun k hk=>Nat.lt_of_lt_of_le (h.lt k hk) hc.size,h.ns,h.nr⟩
theorem SV.chg0 (h:SV w sb ab b mu life win clock ro lv L A P F0) (hc:Chg (fun _=>False) w w'):SV w' sb ab b mu life win clock ro lv L A P F0:=h.chg hc fun _ _ h=>h
theorem SF.chg0 (h:SF w sb ab b mu life win clock ro L A P FT) (hc:Chg (fun _=>False) w w'):SF w' sb ab b mu life win clock ro L A P FT:=by
 obtain ⟨lv,F0,h1,h2⟩:=h
 exact ⟨lv,F0,h1.chg0 hc,h2⟩
theorem SV.into (h:SV w' sb ab b mu life win clock ro lv' L' A' P' F0) {S:Nat→Prop} (hc:Chg S w w') (hS:∀ k,k<w.heap.size→S k→FT k) (hs:∀ k,F0 k∨Own sb lv' k→FT k∨w.heap.size≤k):
 A0A w FT w' (fun w' FT'=>SF w' sb ab b mu life win clock ro L' A' P' FT'):=
 ⟨hc.mono hS,fun k=>F0 k∨Own sb lv' k,⟨lv',F0,h,fun _ h=>h⟩,fun _ hk=>h.ltO hk,hs⟩
theorem SV.turn (h:SV w sb ab b mu life win clock ro lv L A P F0) (hs:A5u w w' sb mu' (.pointer (some ⟨ab,0,none⟩)) life win clock' ro' lv lv' L'):
 SV w' sb ab b mu' life win clock' ro' lv' L' A P F0:=
 ⟨hs.blk,hs.rows,h.ar.frame (hs.chg.same (fun k hk=>h.lt k hk) fun k hk hx=>by
  rcases hx with rfl | hx
  ·exact h.ns hk
  ·exact h.nr k hx hk) hs.chg.size,fun k hk=>Nat.lt_of_lt_of_le (h.lt k hk) hs.chg.size,h.ns,fun k hk hx=>by
  rcases hs.own k hk with hy | hy
  ·exact h.nr k hy hx
  ·have:=h.lt k hx;omega⟩
theorem SV.turnInto (h:SV w sb ab b mu life win clock ro lv L A P F0) (hsub:∀ k,F0 k∨Own sb lv k→FT k) (hs:A5u w w' sb mu' (.pointer (some ⟨ab,0,none⟩)) life win clock' ro' lv lv' L'):
 A0A w FT w' (fun w' FT'=>SF w' sb ab b mu' life win clock' ro' L' A P FT'):=
 (h.turn hs).into hs.chg (fun k _ hk=>hsub k (.inr hk)) fun k hk=>by
  rcases hk with hk | rfl | hk
  ·exact .inl (hsub k (.inl hk))
  ·exact .inl (hsub _ (.inr (.inl rfl)))
  ·exact (hs.own k hk).imp (fun h=>hsub k (.inr (.inr h))) id
theorem SV.arTo (h:SV w sb ab b mu life win clock ro lv L A P F0) (hsub:∀ k,F0 k∨Own sb lv k→FT k) (hI:A0A w F0 w' (fun w' FT'=>AD w' ab b A' P' FT')):
 A0A w FT w' (fun w' FT'=>SF w' sb ab b mu life win clock ro L A' P' FT'):=by
 obtain ⟨hc,F1,h1,h2,h3⟩:=hI
 have hb:=h.blk.lt
 refine (SV.into (w':=w') (lv':=lv) (F0:=F1) ⟨h.blk.chg hc h.ns,h.rows.chg hc h.nr,h1,h2,fun hx=>?_,fun k hk hx=>?_⟩ hc (fun k _ hk=>hsub k (.inl hk)) fun k hk=>?_)
 ·rcases h3 _ hx with hy | hy
  ·exact h.ns hy
  ·omega
 ·rcases h3 _ hx with hy | hy
  ·exact h.nr k hk hy
  ·have:=h.rows.lt hk;omega
 ·rcases hk with hk | hk
  ·exact (h3 k hk).imp (fun h=>hsub k (.inl h)) id
  ·exact .inl (hsub k (.inr hk))
theorem SF.cell (h:SF w sb ab b mu life win clock ro L A P FT) (o:Nat) (u:Value) (hb:∀ lv,A1w w sb mu (.pointer (some ⟨ab,0,none⟩)) life win clock ro lv→A1w (w.setCell ⟨sb,o,none⟩ u) sb mu' (.pointer (some ⟨ab,0,none⟩)) life win clock' ro' lv):
 A0A w FT (w.setCell ⟨sb,o,none⟩ u) (fun w' FT'=>SF w' sb ab b mu' life win clock' ro' L A P FT'):=by
 obtain ⟨lv,F0,h1,h2⟩:=h
 exact h1.turnInto h2 (A5u.of (hb lv h1.blk) h1.rows ((Chg.refl (One sb) w).setAt rfl o u) h1.nb)
theorem SFto.cell (h:A0A w FT w' (fun w' FT'=>SF w' sb ab b mu life win clock ro L A P FT')) (o:Nat) (u:Value) (hb:∀ lv,A1w w' sb mu (.pointer (some ⟨ab,0,none⟩)) life win clock ro lv→A1w (w'.setCell ⟨sb,o,none⟩ u) sb mu' (.pointer (some ⟨ab,0,none⟩)) life win clock' ro' lv):
 A0A w FT (w'.setCell ⟨sb,o,none⟩ u) (fun w' FT'=>SF w' sb ab b mu' life win clock' ro' L A P FT'):=
 h.trans fun _ h1 _ _=>h1.cell o u hb
def A2T (L:Nat→List Pt) (o:Int) (k:Nat) (t v:Int):Nat→List Pt:=if o≤t then B3f L k (A2w (L k) t v) else L
theorem A5E (L:Nat→List Pt) (o:Int) (n:Nat) (t v:Int) (k:Nat):(A2T L o n t v k).length≤(L k).length+1:=by
 unfold A2T
 split
 ·unfold B3f
  split
  ·rename_i e;subst e;exact (A4f _ _ _).2
  ·omega
 ·omega
theorem B2V (w:World) (p:Pu) (h:SF w sb ab b mu life win clock ro L A P FT) (hp:0≤p.1∧p.1<8) (hsm:∀ k,k<8→(L k).length<1099511627000) (hl:1≤life∧life≤4611686018427387904) (hc:A0P clock):
 Calls Tryz.prog 60 #[.pointer (some ⟨sb,0,none⟩),A2t p] w fun e w'=>e=.returned (.tuple #[])∧A0A w FT w' (fun w' FT'=>SF w' sb ab b mu life win clock ro (A2T L (A0m clock life) p.1.toNat p.2.1 p.2.2) A P FT'):=by
 obtain ⟨k,t,v⟩:=p
 obtain ⟨lv,F0,h1,h2⟩:=h
 unfold A2t
 dsimp only at hp ⊢
 obtain ⟨hk1,hk2⟩:=hp
 obtain ⟨n,rfl⟩:=Int.eq_ofNat_of_zero_le hk1
 have hn:n<8:=by omega
 refine (B3x w sb n _ _ (by decide) clock life t v (L n) (lv n) hn (h1.rows.rowIn h1.blk hn) (by have:=hsm n hn;omega) rfl rfl hl hc).mono ?_
 rintro e w' ⟨rfl,h3⟩
 refine ⟨rfl,?_⟩
 unfold A2T
 rw [Int.toNat_natCast]
 rcases h3 with ⟨ho,lv',hR⟩ | ⟨ho,hcc⟩
 ·rw [if_pos ho]
  have hlen:=(A4f (L n) t v).2
  obtain ⟨b1,b2,b3,b4⟩:=h1.rows.turn h1.blk hn hR rfl (by have:=hsm n hn;omega)
  exact h1.turnInto h2 ⟨b1,b2,b3,b4⟩
 ·rw [if_neg (by omega)]
  exact (h1.chg0 hcc).into hcc (fun _ _ h=>h.elim) fun k hk=>.inl (h2 k hk)
end
end Go.Proofs.YtodcnkbblippnaaGreatDoor
namespace Go.Proofs.YtodcnkbblippnaaGreatDoor
open Go.RowKit Go.MuLone
attribute [local go_sem ↓] Go.wp_at_zero Go.wp_at_succ A0p
section
variable {w w' w2:World} {sb ab b B:Nat} {mu life win clock:Int} {ro:Bool} {lv:Nat→Value} {L L':Nat→List Pt} {A A':Ar} {P P':PD} {F0 FT:Nat→Prop} {a c m N:Nat}
set_option maxRecDepth 100000 in
set_option maxHeartbeats 4000000 in
theorem B5D (w:World) (p:Pu) (h:SF w sb ab b mu life win clock ro L A P FT) (_hFT:∀ k,FT k→k<w.heap.size) (hp:A4q p) (hn:A.j.own=none→A1j (A.j.last+1)∧A0P (A.j.last+1)∧A0P A.j.puts) (hll:A.j.logs.length≤1073741824)
 (hL:A2i B w) (hLB:∀ k,FT k→B≤k) (hF:Fit P a c m) (hlm:Lim (a+1) (c+1) (m+33)) (hsm:∀ k,k<8→(L k).length<1099511627000) (hl:1≤life∧life≤4611686018427387904) (hc:A0P clock):
 Calls Tryz.prog 66 #[.pointer (some ⟨sb,0,none⟩),A2t p] w fun e w'=>e=.returned (.int .i64 (A.add P p).2.1)∧
  A0A w FT w' (fun w' FT'=>SF w' sb ab b mu life win clock ro (if (A.add P p).1=true then A2T L (A0m clock life) p.1.toNat p.2.1 p.2.2 else L) (A.add P p).2.2.1 (A.add P p).2.2.2 FT'):=by
 have hA:Chg (fun _=>False) w (w.alloc (.cells #[.int .i64 p.1,.int .i64 p.2.1,.int .i64 p.2.2] 113)):=(Chg.refl _ w).alloc _
 have hbx:=heap_alloc_new w (.cells #[.int .i64 p.1,.int .i64 p.2.1,.int .i64 p.2.2] 113)
 have hsz:w.heap.size<(w.alloc (.cells #[.int .i64 p.1,.int .i64 p.2.1,.int .i64 p.2.2] 113)).heap.size:=by simp
 generalize hw0:(w.alloc (.cells #[.int .i64 p.1,.int .i64 p.2.1,.int .i64 p.2.2] 113))=w0 at hA hbx hsz
 have hAd:Chg (fun _=>False) w w0.drew:=hA.drew
 obtain ⟨lv,F0,h1,h2⟩:=h
 have hV:=h1.chg0 hAd
 have nx:¬ F0 w.heap.size:=fun hx=>Nat.lt_irrefl _ (h1.lt _ hx)
 have AA:Hid (Calls Tryz.prog 105 #[.pointer (some ⟨ab,0,none⟩),A2t p] w0.drew fun e w1=>e=.returned (.tuple #[.bool (A.add P p).1,.int .i64 (A.add P p).2.1])∧
  (w1.cell? ⟨sb,2,none⟩=some (.pointer (some ⟨ab,0,none⟩))∧w1.heap[w.heap.size]?=some (.cells #[.int .i64 p.1,.int .i64 p.2.1,.int .i64 p.2.2] 113 (0,0)))∧
  A0A w FT w1 (fun w' FT'=>SF w' sb ab b mu life win clock ro L (A.add P p).2.2.1 (A.add P p).2.2.2 FT')):=by
  refine (B2t w0.drew p hV.ar hV.lt hp hn hll (hL.keep0 hAd) (fun k hk=>hLB k (h2 k (.inl hk))) hF hlm).mono ?_
  rintro e w1 ⟨rfl,hI⟩
  exact ⟨rfl,⟨(hV.blk.chg hI.1 hV.ns).c2,(hI.1.block _ hsz nx).trans hbx⟩,(hV.arTo h2 hI).before hAd⟩
 have KE:Hid (∀ w1,A0A w FT w1 (fun w' FT'=>SF w' sb ab b mu life win clock ro L (A.add P p).2.2.1 (A.add P p).2.2.2 FT')→Calls Tryz.prog 60 #[.pointer (some ⟨sb,0,none⟩),A2t p] w1 fun e w'=>e=.returned (.tuple #[])∧
  A0A w FT w' (fun w' FT'=>SF w' sb ab b mu life win clock ro (A2T L (A0m clock life) p.1.toNat p.2.1 p.2.2) (A.add P p).2.2.1 (A.add P p).2.2.2 FT')):=fun w1 hI=>by
  obtain ⟨c1,F1,h3,h4,h5⟩:=hI
  refine (B2V w1 p h3 hp.1 hsm hl hc).mono ?_
  rintro e w' ⟨rfl,h6⟩
  exact ⟨rfl,A0A.step c1 h5 h6⟩
 have c2:w0.cell? ⟨sb,2,none⟩=some (.pointer (some ⟨ab,0,none⟩)):=(h1.chg0 hA).blk.c2
 obtain ⟨p1,p2,p3⟩:=p
 unfold A2t at AA KE ⊢
 dsimp only at AA KE hbx hw0 ⊢
 have q0:w0.cell? ⟨w.heap.size,0,none⟩=some (.int .i64 p1):=by simp only [World.cell?,hbx];rfl
 have q1:w0.cell? ⟨w.heap.size,1,none⟩=some (.int .i64 p2):=by simp only [World.cell?,hbx];rfl
 have q2:w0.cell? ⟨w.heap.size,2,none⟩=some (.int .i64 p3):=by simp only [World.cell?,hbx];rfl
 obtain ⟨R,hR⟩:∃ R,A.add P (p1,p2,p3)=R:=⟨_,rfl⟩
 rw [hR] at AA KE ⊢
 obtain ⟨R1,R2,R3,R4⟩:=R
 dsimp only at AA KE ⊢
 obtain ⟨L2,hL2⟩:∃ L2,A2T L (A0m clock life) p1.toNat p2 p3=L2:=⟨_,rfl⟩
 rw [hL2] at KE ⊢
 clear hL2 hR hA hbx hsz hAd hV nx h1 h2 _hFT hp hn hll hL hLB hF hlm hsm hl hc
 have tail:∀ R1:Bool,R1=true∨R1=false:=by intro x;cases x <;> simp
 go_enter Tryz.func66,Tryz.ntmps66
 go_wp2
 refine A0e (fun w'=>w'.cell? ⟨sb,2,none⟩=some (.pointer (some ⟨ab,0,none⟩))∧w'.cell? ⟨w.heap.size,0,none⟩=some (.int .i64 p1)∧w'.cell? ⟨w.heap.size,1,none⟩=some (.int .i64 p2)∧w'.cell? ⟨w.heap.size,2,none⟩=some (.int .i64 p3)) 10
  [(0,true),(1,true),(2,true),(3,true),(4,true),(5,false),(6,true),(7,true),(8,true),(9,true)] (by kernel_rfl) (by kernel_rfl) (fun _ _ _ _ _ h=>h) ⟨c2,q0,q1,q2⟩ ?_
 iterate 5 (refine A0d (v:=?_) rfl (by rfl) ?_ ?_;rotate_left;(· (intro w' hS;(try dsimp only at hS);go_simp;try with_reducible rfl));(try simp only [Act.put,List.setIfInBounds_toArray,List.set_cons_zero,List.set_cons_succ,List.getElem_toArray,List.getElem_cons_zero,List.getElem_cons_succ]))
 refine A0i rfl (by rfl) (fun K hK=>?_)
 go_simp
 refine AA.out.mono ?_
 rintro e w1 ⟨rfl,⟨y2,hh⟩,hI⟩
 have r0:w1.cell? ⟨w.heap.size,0,none⟩=some (.int .i64 p1):=by simp only [World.cell?,hh];rfl
 have r1:w1.cell? ⟨w.heap.size,1,none⟩=some (.int .i64 p2):=by simp only [World.cell?,hh];rfl
 have r2:w1.cell? ⟨w.heap.size,2,none⟩=some (.int .i64 p3):=by simp only [World.cell?,hh];rfl
 refine hK _ _ ⟨y2,r0,r1,r2⟩ (fun hS=>?_)
 have KE1:=A0b (KE.out w1 hI)
 have HI:=A0b hI
 clear hK K hS hI hh AA KE hw0
 (try simp only [Act.put,List.setIfInBounds_toArray,List.set_cons_zero,List.set_cons_succ,List.getElem_toArray,List.getElem_cons_zero,List.getElem_cons_succ])
 iterate 4 (refine A0d (v:=?_) rfl (by rfl) ?_ ?_;rotate_left;(· (intro w' hS;(try dsimp only at hS);go_simp;try with_reducible rfl));(try simp only [Act.put,List.setIfInBounds_toArray,List.set_cons_zero,List.set_cons_succ,List.getElem_toArray,List.getElem_cons_zero,List.getElem_cons_succ]))
 refine A0k ?_
 simp only [List.drop_succ_cons,List.drop_zero]
 cases R1
 ·go_wp2
  go_ret
  exact ⟨rfl,by simpa using HI.out⟩
 ·go_wp2_with (go_at_call 60;refine KE1.out.mono ?_;rintro e w2 ⟨rfl,hS⟩;have HS:=A0b hS;clear hS)
  go_ret
  exact ⟨rfl,by simpa using HS.out⟩
set_option maxRecDepth 100000 in
set_option maxHeartbeats 2000000 in
theorem B0y (w:World) (x:Nat) (n:Int) (h:SF w sb ab b mu life win clock false L A P FT) (CL:Calls Tryz.prog 65 #[.pointer (some ⟨x,0,none⟩),.pointer (some ⟨x+1,0,none⟩),.pointer (some ⟨x+2,0,none⟩),.pointer (some ⟨x+3,0,none⟩)] w fun e w'=>e=.returned (.int .i64 n)∧A0A w FT w' (fun w' FT'=>SF w' sb ab b mu life win clock false L' A' P' FT')):
 Calls Tryz.prog 64 #[.pointer (some ⟨sb,0,none⟩),.func (Fn.func 65) #[] #[.pointer (some ⟨x,0,none⟩),.pointer (some ⟨x+1,0,none⟩),.pointer (some ⟨x+2,0,none⟩),.pointer (some ⟨x+3,0,none⟩)]] w fun e w'=>e=.returned (.int .i64 n)∧A0A w FT w' (fun w' FT'=>SF w' sb ab b mu life win clock (decide (n≠0)) L' A' P' FT'):=by
 obtain ⟨lv,F0,h1,h2⟩:=h
 have c6:=h1.blk.cR
 have HC:=A0b CL
 clear h1 h2 CL
 by_cases hn:n=0
 ·subst hn
  go_enter Tryz.func64,Tryz.ntmps64
  go_wp2_with (go_at_call 65;refine HC.out.mono ?_;rintro e w2 ⟨rfl,hS⟩;have HS:=A0b hS;obtain ⟨-,F2,⟨lv2,F3,a1,-⟩,-,-⟩:=hS;have y6:=a1.blk.cR;have f6:=a1.blk.fz 6;clear a1)
  go_ret
  exact ⟨rfl,SFto.cell HS.out 6 _ fun lv h=>h.sR false⟩
 ·have hb:(n != 0)=true:=by simpa using hn
  have e0:decide (n≠0)=true:=by simpa using hn
  rw [e0]
  clear hn e0
  go_enter Tryz.func64,Tryz.ntmps64
  go_wp2_with (go_at_call 65;refine HC.out.mono ?_;rintro e w2 ⟨rfl,hS⟩;have HS:=A0b hS;obtain ⟨-,F2,⟨lv2,F3,a1,-⟩,-,-⟩:=hS;have y6:=a1.blk.cR;have f6:=a1.blk.fz 6;clear a1)
  go_ret
  exact ⟨rfl,SFto.cell HS.out 6 _ fun lv h=>h.sR true⟩
set_option maxRecDepth 100000 in
set_option maxHeartbeats 2000000 in
theorem A8t (w:World) (x:Nat) (n:Int) (h:SF w sb ab b mu life win clock false L A P FT) (CL:Calls Tryz.prog 67 #[.pointer (some ⟨x,0,none⟩)] w fun e w'=>e=.returned (.int .i64 n)∧A0A w FT w' (fun w' FT'=>SF w' sb ab b mu life win clock false L' A' P' FT')):
 Calls Tryz.prog 64 #[.pointer (some ⟨sb,0,none⟩),.func (Fn.func 67) #[] #[.pointer (some ⟨x,0,none⟩)]] w fun e w'=>e=.returned (.int .i64 n)∧A0A w FT w' (fun w' FT'=>SF w' sb ab b mu life win clock (decide (n≠0)) L' A' P' FT'):=by
 obtain ⟨lv,F0,h1,h2⟩:=h
 have c6:=h1.blk.cR
 have HC:=A0b CL
 clear h1 h2 CL
 by_cases hn:n=0
 ·subst hn
  go_enter Tryz.func64,Tryz.ntmps64
  go_wp2_with (go_at_call 67;refine HC.out.mono ?_;rintro e w2 ⟨rfl,hS⟩;have HS:=A0b hS;obtain ⟨-,F2,⟨lv2,F3,a1,-⟩,-,-⟩:=hS;have y6:=a1.blk.cR;have f6:=a1.blk.fz 6;clear a1)
  go_ret
  exact ⟨rfl,SFto.cell HS.out 6 _ fun lv h=>h.sR false⟩
 ·have hb:(n != 0)=true:=by simpa using hn
  have e0:decide (n≠0)=true:=by simpa using hn
  rw [e0]
  clear hn e0
  go_enter Tryz.func64,Tryz.ntmps64
  go_wp2_with (go_at_call 67;refine HC.out.mono ?_;rintro e w2 ⟨rfl,hS⟩;have HS:=A0b hS;obtain ⟨-,F2,⟨lv2,F3,a1,-⟩,-,-⟩:=hS;have y6:=a1.blk.cR;have f6:=a1.blk.fz 6;clear a1)
  go_ret
  exact ⟨rfl,SFto.cell HS.out 6 _ fun lv h=>h.sR true⟩
end
end Go.Proofs.YtodcnkbblippnaaGreatDoor
