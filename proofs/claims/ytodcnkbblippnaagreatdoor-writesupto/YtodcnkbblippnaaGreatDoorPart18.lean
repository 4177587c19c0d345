/-
  The statement WritesUptoCardSaid is proved: the law Writes answers true for every setting and every script of at most 1048576 bytes; there is no other condition.
  Part 18 of 33.
-/
import Derived.Test.YtodcnkbblippnaaGreatDoorPart17
import Derived.Shelf.Spec.SearchS
import Derived.Shelf.SlicesE.Clone
import Derived.Sort.OwnSorted
import Derived.Sort.OwnSortedInts
namespace Go.Proofs.YtodcnkbblippnaaGreatDoor
open Go.RowKit
attribute [local go_sem ↓] A0p
section
variable {w:World} {ab b xb jb B:Nat} {sv ov lv jo:Value} {A:Ar} {P:PD} {Ft:Nat→Prop} {a c m:Nat}
theorem B2n (P:PD) (n:Int) (r:List Int):P.segs (n :: r)=match P.seg n with
 | none=>none
 | some l=>(P.segs r).map fun x=>(n,l):: x:=rfl
set_option maxRecDepth 100000 in
set_option maxHeartbeats 8000000 in
theorem A9l (w:World) (ss:List Int) (a0:w.cell? ⟨ab,0,none⟩=some (.pointer (some ⟨b,0,none⟩))) (a1:w.cell? ⟨ab,1,none⟩=some (.pointer (some ⟨xb,0,none⟩))) (x4:w.cell? ⟨xb,4,none⟩=some sv) (hsg:RdI w sv ss) (hdk:A1A w b P Ft) (hlt:∀ k,Ft k→k<w.heap.size)
 (hF:Fit P a c m) (hl:Lim a c m) (hn:∀ n∈ss,A1j n) (hsl:ss.length≤1073741824) (hL:A2i B w):
 Calls Tryz.prog 98 #[.pointer (some ⟨ab,0,none⟩)] w fun e w'=>
  (P.segs ss=none∧e=.returned (.tuple #[.slice none 0 0,.int .i64 7])∧Chg (fun _=>False) w w')∨
  ∃ l v,P.segs ss=some l∧e=.returned (.tuple #[v,.int .i64 0])∧B4z w' w.heap.size b v l∧Chg (fun _=>False) w w':=by
 obtain ⟨i0,hi,hz0,hz1,hz2⟩:=B3N
 have HSG:=A0b hsg
 obtain ⟨sa,scap,rfl,sc1,sc2⟩:=HSG.out.form
 unfold maxLen at sc2
 have RS:Hid (∀ w1,Chg (fun _=>False) w w1→∀ n∈ss,Calls Tryz.prog 135 #[.pointer (some ⟨b,0,none⟩),.int .i64 n] w1 fun e w'=>
  (P.seg n=none∧e=.returned (.tuple #[.pointer none,.int .i64 7])∧Chg (fun _=>False) w1 w')∨
  ∃ l gb v,P.seg n=some l∧e=.returned (.tuple #[.pointer (some ⟨gb,0,none⟩),.int .i64 0])∧A0S w' gb 182 b (A1d n) (A1m (A1d n)) n v∧A1r w' v l∧(∀ g,v.ownBlock=some g→w1.heap.size≤g)∧w1.heap.size≤gb∧Chg (fun _=>False) w1 w'):=
  fun w1 hc n hm=>A6o w1 (A0R.same hdk hlt hc) (fun k hk=>Nat.lt_of_lt_of_le (hlt k hk) hc.size) hF hl (hn n hm) (hL.keep0 hc)
 have SC:=A0b (B2n P)
 obtain ⟨X,hX⟩:∃ X,P.segs ss=X:=⟨_,rfl⟩
 have HX:=A0b hX
 rw [hX]
 clear hX hdk hlt hF hl hn hL hsg
 go_enter Tryz.func98,Tryz.ntmps98
 go_wp2
 go_loopw [4,17] (fun v iv wr=>∃ (l:List (Int × List Pu)),iv=.int .i64 l.length∧l.length≤ss.length∧Hid (B4z wr w.heap.size b v l∧Chg (fun _=>False) w wr∧X=(P.segs (ss.drop l.length)).map fun r=>l ++ r)) (fun _ iv _=>ss.length - (intOf iv).toNat)
 case atStart=>exact ⟨[],rfl,Nat.zero_le _,⟨[],rfl,World.ownsRow_nil _ _ _ _,fun g hg=>by simp [Value.ownBlock] at hg,fun k h1=>by simp at h1⟩,Chg.refl _ _,by rw [List.length_nil,List.drop_zero,HX.out];cases X <;> simp⟩
 case round=>
  obtain ⟨l,rfl,hk,hI⟩:=hrel
  obtain ⟨i1,i2,i3⟩:=hI.out
  obtain ⟨gbs,j1,j2,j3,j4⟩:=i1
  obtain ⟨ap,cp,rfl,hcap1,hcap2,-⟩:=A0g j2
  unfold maxLen at hcap2
  by_cases hk1:l.length<ss.length
  ·obtain ⟨g,o,rfl,d1⟩:=RdI.at HSG.out l.length hk1
   have hmem:=List.getElem_mem hk1
   have hdr:=List.drop_eq_getElem_cons hk1
   obtain ⟨n,hne⟩:∃ n,(ss[l.length]'hk1)=n:=⟨_,rfl⟩
   rw [hne] at d1 hmem hdr
   have e1:=i2.cellKeep d1
   have e0:=i2.cellKeep a0
   have RS1:=A0b (RS.out wr i2 n hmem)
   rw [hdr,SC.out] at i3
   obtain ⟨Y,hY⟩:∃ Y,P.seg n=Y:=⟨_,rfl⟩
   rw [hY] at RS1 i3
   have I2:=A0b i2
   have I3:=A0b i3
   have J1:=A0b j1
   have J2:=A0b j2
   have J3:=A0b j3
   have J4:=A0b j4
   have hki:(l.length:Int)<(ss.length:Int):=by omega
   have hk0:(0:Int)≤(l.length:Int):=Int.natCast_nonneg _
   clear hI i2 i3 j1 j2 j3 j4 d1 hmem hdr hne hY
   cases Y with
   | none=>
    have hX0:X=none:=by rw [I3.out];rfl
    subst hX0
    have RS2:Hid (Calls Tryz.prog 135 #[.pointer (some ⟨b,0,none⟩),.int .i64 n] wr fun e w'=>e=.returned (.tuple #[.pointer none,.int .i64 7])∧Chg (fun _=>False) wr w'):=by
     refine RS1.out.mono ?_
     rintro e w' (⟨_,h2,h3⟩ | ⟨l,gb,v,h1,_⟩)
     ·exact ⟨h2,h3⟩
     ·cases h1
    go_wp2_with (go_at_call 135;refine RS2.out.mono ?_;rintro e w6 ⟨rfl,hc6⟩;have HC6:=A0b hc6;clear hc6)
    go_ret2
    exact ⟨rfl,I2.out.trans HC6.out fun _ h _=>h⟩
   | some pl=>
    have RS2:Hid (Calls Tryz.prog 135 #[.pointer (some ⟨b,0,none⟩),.int .i64 n] wr fun e w'=>∃ gb v,e=.returned (.tuple #[.pointer (some ⟨gb,0,none⟩),.int .i64 0])∧A0S w' gb 182 b (A1d n) (A1m (A1d n)) n v∧A1r w' v pl∧(∀ g,v.ownBlock=some g→wr.heap.size≤g)∧wr.heap.size≤gb∧Chg (fun _=>False) wr w'):=by
     refine RS1.out.mono ?_
     rintro e w' (⟨h1,_⟩ | ⟨l,gb,v,h1,h2⟩)
     ·cases h1
     ·cases h1;exact ⟨gb,v,h2⟩
    have I4:Hid (X=(P.segs (ss.drop (l.length+1))).map fun r=>(l ++ [(n,pl)]) ++ r):=by
     unfold Hid
     rw [I3.out]
     simp only [Option.map_map]
     congr 1
     funext r
     simp
    go_wp2_with (fail)
    refine RS2.out.mono ?_
    rintro e w6 ⟨gb,v,rfl,q1,q2,q3,q4,hc6⟩
    have Q1:=A0b q1
    have Q2:=A0b q2
    have Q3:=A0b q3
    have Q4:=A0b q4
    have C6:=A0b hc6
    have HROW:Hid ((w6.alloc (.cells #[.pointer (some ⟨gb,0,none⟩)] 179)).ownsRow 0 179 1 (.slice ap l.length cp) l.length (A3Y gbs)):=A0a J2.out fun g hg=>(hc6.alloc _).block g (A0c J2.out hg) (fun h=>h)
    have HS1:=A0b (Src.ofNew (size:=1) (B:=w6.heap.size) Tryz.underlying154 w6 #[.pointer (some ⟨gb,0,none⟩)] 179 (by simp) 1 1 rfl (A6w [gb]))
    clear q1 q2 q3 q4 hc6 RS1 RS2
    go_wp2_with (at_builtin;refine A0o rfl (.tmp 33) (.tmp 35) 154 154 rfl 179 i0 _ 1 8 Tryz.underlying154 hi hz0 hz1 hz2 rfl (by decide) (.slice ap l.length cp) l.length (A3Y gbs) (by rfl) HROW.out _ 1 _ (by rfl) HS1.out (by omega) ?_;intro a8 cap8 w8 hA;have HA:=A0b hA;clear hA)
    go_roundw
    case rel=>
     have hA:=HA.out
     have k7:Chg (fun _=>False) w6 (w6.alloc (.cells #[.pointer (some ⟨gb,0,none⟩)] 179)):=(Chg.refl _ w6).alloc _
     have hA2:=hA.chg (S:=fun k=>(Value.slice ap l.length cp).ownBlock=some k) fun _ h=>h
     have kw6:Chg (fun _=>False) w w6:=I2.out.trans C6.out fun _ h _=>h
     have h08:Chg (fun _=>False) w w8:=(kw6.trans k7 fun _ h _=>h).trans hA2 fun y hy hlt=>by have:=J3.out y hy;omega
     have h68:Chg (fun k=>(Value.slice ap l.length cp).ownBlock=some k) w6 w8:=(k7.mono fun _ _ h=>h.elim).trans hA2 fun _ h _=>h
     have tyv:∀ (k:Nat) (c:Array Value) (e:Nat),w6.heap[k]?=some (Obj.cells c e (0,0))→e≠179→¬ (Value.slice ap l.length cp).ownBlock=some k:=fun k c e hk he hx=>by
      obtain ⟨c',hc'⟩:=A0f (A0a J2.out fun g hg=>C6.out.block g (A0c J2.out hg) (fun h=>h)) hx
      exact A0r hc' hk (fun h=>he h.symm) rfl
     have sgk:∀ gb' x,B5n w6 w.heap.size b gb' x→B5n w8 w.heap.size b gb' x:=fun gb' x hx=>by
      obtain ⟨pv,h1,h2,h3,h4⟩:=hx
      refine ⟨pv,h1.keep h68 (tyv _ _ _ h1 (by decide)),A0a h2 fun g hg=>?_,h3,h4⟩
      obtain ⟨c',hc'⟩:=A0f h2 hg
      exact h68.block g (A0c h2 hg) (tyv _ _ _ hc' (by decide))
     refine ⟨l ++ [(n,pl)],by simp,by simp;omega,⟨gbs ++ [gb],by simp [J1.out],?_,?_,?_⟩,h08,by rw [show (l ++ [(n,pl)]).length=l.length+1 by simp];exact I4.out⟩
     ·have e:(l ++ [(n,pl)]).length=l.length+1:=by simp
      have e2:A3Y (gbs ++ [gb])=A3Y gbs ++ A3Y [gb]:=by simp [A3Y]
      rw [e,e2]
      exact hA.own
     ·intro g hg
      rcases hA.at_ with h | h
      ·rw [h] at hg;exact J3.out g hg
      ·rw [h] at hg;cases hg;have:=kw6.size;have:=k7.size;omega
     ·intro j h1 h2
      have hgl:=J1.out
      by_cases hj:j<l.length
      ·rw [List.getElem_append_left (show j<gbs.length by omega),List.getElem_append_left hj]
       exact sgk _ _ ((J4.out j (by omega) hj).chg0 C6.out)
      ·have hj2:j=l.length:=by simp at h2;omega
       subst hj2
       have e1:(gbs ++ [gb])[l.length]'h1=gb:=by simp [← hgl]
       have e2:(l ++ [(n,pl)])[l.length]'h2=(n,pl):=by simp
       rw [e1,e2]
       exact sgk _ _ ⟨v,Q1.out,Q2.out,Nat.le_trans I2.out.size Q4.out,fun g hg=>Nat.le_trans I2.out.size (Q3.out g hg)⟩
    case measure=>simp [intOf];omega
  ·have hkl:l.length=ss.length:=by omega
   have I1:Hid (B4z wr w.heap.size b (.slice ap l.length cp) l):=⟨gbs,j1,j2,j3,j4⟩
   have I2:=A0b i2
   have hX0:X=some l:=by rw [i3,hkl,List.drop_length];simp [PD.segs]
   subst hX0
   have hki:¬ ((l.length:Int)<(ss.length:Int)):=by omega
   clear i2 i3 hI j1 j2 j3 j4 hkl
   go_wp2
   go_ret2
   exact ⟨_,rfl,I1.out,I2.out⟩
set_option maxRecDepth 100000 in
set_option maxHeartbeats 4000000 in
theorem A8l (w:World) (B0:Nat) (v:Value) (l:List (Int × List Pu)) (h:B4z w B0 b v l) (hl:l.length≤1073741824) (hq:∀ x∈l,x.2.length≤m) (hm:l.length*m≤4398046511104):
 Calls Tryz.prog 101 #[v] w fun e w'=>∃ v',e=.returned v'∧A1r w' v' (l.flatMap (·.2))∧(∀ g,v'.ownBlock=some g→w.heap.size≤g)∧Chg (fun _=>False) w w':=by
 obtain ⟨i0,hi,hz0,hz1,hz2⟩:=info_parts A2a
 obtain ⟨gbs,j1,j2,j3,j4⟩:=h
 obtain ⟨va,vcap,rfl,vc1,vc2,-⟩:=A0g j2
 unfold maxLen at vc2
 have J4:=A0b j4
 have J2:=A0b j2
 have HQ:=A0b hq
 have BL:Hid (∀ k,k≤l.length→k*m≤4398046511104):=fun k hk=>Nat.le_trans (Nat.mul_le_mul_right m hk) hm
 clear j2 j3 j4 hq hm
 go_enter Tryz.func101,Tryz.ntmps101
 go_wp2
 go_loopw [3,8] (fun v iv wr=>∃ (k:Nat) (ps:List Pu),iv=.int .i64 k∧k≤l.length∧ps.length≤k*m∧Hid (A1r wr v ps∧(∀ g,v.ownBlock=some g→w.heap.size≤g)∧Chg (fun _=>False) w wr∧ps=(l.take k).flatMap (·.2))) (fun _ iv _=>l.length - (intOf iv).toNat)
 case atStart=>exact ⟨0,[],rfl,by omega,by simp,World.ownsRow_nil _ _ _ _,fun g hg=>by simp [Value.ownBlock] at hg,Chg.refl _ _,rfl⟩
 case round=>
  obtain ⟨k,ps,rfl,hk,hps,hI⟩:=hrel
  obtain ⟨i1,i2,i3,i4⟩:=hI.out
  obtain ⟨ap,cp,rfl,hcap1,hcap2,-⟩:=A0g i1
  unfold maxLen at hcap2
  by_cases hk1:k<l.length
  ·have hgk:k<gbs.length:=by omega
   have hcell:w.cell? (⟨(va.map (·.block)).getD 0,k,none⟩:Addr)=some (.pointer (some ⟨gbs[k]'hgk,0,none⟩))∧∃ g,va=some ⟨g,0,none⟩:=by
    obtain ⟨a',c',e,-,-,hz,-⟩:=A0g J2.out
    cases e
    obtain ⟨g,rfl⟩:=hz (by omega)
    exact ⟨A0j J2.out rfl (by simp [A3Y,hgk]),g,rfl⟩
   obtain ⟨hc1,g,rfl⟩:=hcell
   have hc2:w.cell? ⟨g,k,none⟩=some (.pointer (some ⟨gbs[k]'hgk,0,none⟩)):=hc1
   obtain ⟨pv,s1,s2,-,-⟩:=J4.out k hgk hk1
   have hq1:=HQ.out _ (List.getElem_mem hk1)
   have htk:l.take (k+1)=l.take k ++ [l[k]'hk1]:=List.take_succ_eq_append_getElem hk1
   obtain ⟨gb,hgb⟩:∃ gb,(gbs[k]'hgk)=gb:=⟨_,rfl⟩
   rw [hgb] at hc2 s1
   obtain ⟨⟨n,pl⟩,hx⟩:∃ x,(l[k]'hk1)=x:=⟨_,rfl⟩
   rw [hx] at s1 s2 htk hq1
   dsimp only at s1 s2 hq1
   obtain ⟨pa,pc,rfl,pc1,pc2,-⟩:=A0g s2
   unfold maxLen at pc2
   have d1:=i3.cellKeep hc2
   have d2:=(s1.keep i3 (fun h=>h)).c4
   have I1:=A0b i1
   have I2:=A0b i2
   have I3:=A0b i3
   have I4:Hid (ps ++ pl=(l.take (k+1)).flatMap (·.2)):=by unfold Hid;rw [htk,i4];simp
   have HSRC:=A0b (Src.ofOwn Tryz.underlying97 (A0a s2 fun g hg=>i3.block g (A0c s2 hg) (fun h=>h)) (A0G pl))
   have HB:=A0b (BL.out (k+1) hk1)
   have hki:(k:Int)<(l.length:Int):=by omega
   have hk0:(0:Int)≤(k:Int):=Int.natCast_nonneg _
   clear hI i1 i2 i3 i4 hc1 hc2 s1 s2 htk hx hgb
   have HPS:Hid ((ps.length+pl.length)*24≤140737488355328∧ps.length+pl.length≤(k+1)*m):=by
    have:=HB.out;rw [Nat.succ_mul] at this
    unfold Hid;rw [Nat.succ_mul];omega
   clear hps hq1 HB
   go_wp2_with (at_builtin;refine A0o rfl (.tmp 12) (.tmp 16) 97 97 rfl 113 i0 _ 3 24 Tryz.underlying97 hi hz0 hz1 hz2 rfl (by decide) (.slice ap ps.length cp) ps.length (A0x ps) (by rfl) I1.out _ pl.length _ (by rfl) HSRC.out HPS.out.1 ?_;intro a8 cap8 w8 hA;have HA:=A0b hA;clear hA)
   go_roundw
   case rel=>
    have hA:=HA.out
    have hA2:=hA.chg (S:=fun k=>(Value.slice ap ps.length cp).ownBlock=some k) fun _ h=>h
    refine ⟨k+1,ps ++ pl,by go_num,by omega,by simp only [List.length_append];exact HPS.out.2,?_,?_,?_,I4.out⟩
    ·have e:(ps ++ pl).length=ps.length+pl.length:=by simp
     unfold A1r
     rw [A0Y,e]
     exact hA.own
    ·intro g hg
     rcases hA.at_ with h | h
     ·rw [h] at hg;exact I2.out g hg
     ·rw [h] at hg;cases hg;exact I3.out.size
    ·exact I3.out.trans hA2 fun y hy hlt=>by have:=I2.out y hy;omega
   case measure=>simp [intOf];omega
  ·obtain rfl:k=l.length:=by omega
   rw [List.take_length] at i4
   have I1:=A0b i1
   have I2:=A0b i2
   have I3:=A0b i3
   have hki:¬ ((l.length:Int)<(l.length:Int)):=by omega
   have I4:=A0b i4
   clear i1 i2 i3 i4 hI
   go_wp2
   go_ret
   exact ⟨_,rfl,by rw [← I4.out];exact I1.out,I2.out,I3.out⟩
end
end Go.Proofs.YtodcnkbblippnaaGreatDoor
namespace Go.Proofs.YtodcnkbblippnaaGreatDoor
open Go.RowKit
attribute [local go_sem ↓] A0p
set_option maxRecDepth 100000 in
set_option maxHeartbeats 2000000 in
theorem A4i (w:World) (g p1 p2:Nat) (Q1 Q2:Int→World→Prop) (hb:w.heap[g]?=some (.cells #[.func (Fn.func 118) #[.pointer (some ⟨p1,0,none⟩)] #[],.func (Fn.func 150) #[.pointer (some ⟨p2,0,none⟩)] #[]] 50 (0,0)))
 (h1:Calls Tryz.prog 118 #[.pointer (some ⟨p1,0,none⟩)] w fun e w'=>∃ n,e=.returned (.int .i64 n)∧Q1 n w'∧w'.heap[g]?=w.heap[g]?)
 (h2:∀ w1,Q1 0 w1→w1.heap[g]?=w.heap[g]?→Calls Tryz.prog 150 #[.pointer (some ⟨p2,0,none⟩)] w1 fun e w'=>∃ n,e=.returned (.int .i64 n)∧Q2 n w'):
 Calls Tryz.prog 117 #[.slice (some ⟨g,0,none⟩) 2 2] w fun e w'=>∃ n,e=.returned (.int .i64 n)∧((n≠0∧Q1 n w')∨Q2 n w'):=by
 have c0:w.cell? ⟨g,0,none⟩=some (.func (Fn.func 118) #[.pointer (some ⟨p1,0,none⟩)] #[]):=by simp [World.cell?,hb]
 have C1:Hid (∀ w1:World,w1.heap[g]?=w.heap[g]?→w1.cell? ⟨g,1,none⟩=some (.func (Fn.func 150) #[.pointer (some ⟨p2,0,none⟩)] #[])):=fun w1 h=>by simp [World.cell?,h,hb]
 have H1:=A0b h1
 have H2:=A0b h2
 clear hb h1 h2
 go_enter Tryz.func117,Tryz.ntmps117
 go_wp2
 refine wp_loop_rounds 3 ?_
 rw [rounds_succ]
 go_wp2_with (fail)
 refine H1.out.mono ?_
 rintro e w1 ⟨n1,rfl,q1,k1⟩
 have QQ1:=A0b q1
 have c1:=C1.out w1 k1
 have HK1:=A0b k1
 clear q1 k1
 by_cases hz1:n1=0
 case neg=>
  have hb1:(n1 != 0)=true:=by simpa using hz1
  go_wp2
  go_ret
  exact ⟨n1,rfl,.inl ⟨hz1,QQ1.out⟩⟩
 case pos=>
 subst hz1
 have HN1:=A0b (H2.out w1 QQ1.out HK1.out)
 go_wp2
 rw [rounds_succ]
 go_wp2_with (fail)
 refine HN1.out.mono ?_
 rintro e w2 ⟨n2,rfl,q2⟩
 have QQ2:=A0b q2
 clear q2
 by_cases hz2:n2=0
 case neg=>
  have hb2:(n2 != 0)=true:=by simpa using hz2
  go_wp2
  go_ret
  exact ⟨n2,rfl,.inr (QQ2.out)⟩
 case pos=>
 subst hz2
 go_wp2
 rw [rounds_succ]
 go_wp2
 go_ret
 exact ⟨0,rfl,.inr (QQ2.out)⟩
set_option maxRecDepth 100000 in
set_option maxHeartbeats 2000000 in
theorem A4A (w:World) (g p1 p2:Nat) (Q1 Q2:Int→World→Prop) (hb:w.heap[g]?=some (.cells #[.func (Fn.func 150) #[.pointer (some ⟨p1,0,none⟩)] #[],.func (Fn.func 86) #[.pointer (some ⟨p2,0,none⟩)] #[]] 50 (0,0)))
 (h1:Calls Tryz.prog 150 #[.pointer (some ⟨p1,0,none⟩)] w fun e w'=>∃ n,e=.returned (.int .i64 n)∧Q1 n w'∧w'.heap[g]?=w.heap[g]?)
 (h2:∀ w1,Q1 0 w1→w1.heap[g]?=w.heap[g]?→Calls Tryz.prog 86 #[.pointer (some ⟨p2,0,none⟩)] w1 fun e w'=>∃ n,e=.returned (.int .i64 n)∧Q2 n w'):
 Calls Tryz.prog 117 #[.slice (some ⟨g,0,none⟩) 2 2] w fun e w'=>∃ n,e=.returned (.int .i64 n)∧((n≠0∧Q1 n w')∨Q2 n w'):=by
 have c0:w.cell? ⟨g,0,none⟩=some (.func (Fn.func 150) #[.pointer (some ⟨p1,0,none⟩)] #[]):=by simp [World.cell?,hb]
 have C1:Hid (∀ w1:World,w1.heap[g]?=w.heap[g]?→w1.cell? ⟨g,1,none⟩=some (.func (Fn.func 86) #[.pointer (some ⟨p2,0,none⟩)] #[])):=fun w1 h=>by simp [World.cell?,h,hb]
 have H1:=A0b h1
 have H2:=A0b h2
 clear hb h1 h2
 go_enter Tryz.func117,Tryz.ntmps117
 go_wp2
 refine wp_loop_rounds 3 ?_
 rw [rounds_succ]
 go_wp2_with (fail)
 refine H1.out.mono ?_
 rintro e w1 ⟨n1,rfl,q1,k1⟩
 have QQ1:=A0b q1
 have c1:=C1.out w1 k1
 have HK1:=A0b k1
 clear q1 k1
 by_cases hz1:n1=0
 case neg=>
  have hb1:(n1 != 0)=true:=by simpa using hz1
  go_wp2
  go_ret
  exact ⟨n1,rfl,.inl ⟨hz1,QQ1.out⟩⟩
 case pos=>
 subst hz1
 have HN1:=A0b (H2.out w1 QQ1.out HK1.out)
 go_wp2
 rw [rounds_succ]
 go_wp2_with (fail)
 refine HN1.out.mono ?_
 rintro e w2 ⟨n2,rfl,q2⟩
 have QQ2:=A0b q2
 clear q2
 by_cases hz2:n2=0
 case neg=>
  have hb2:(n2 != 0)=true:=by simpa using hz2
  go_wp2
  go_ret
  exact ⟨n2,rfl,.inr (QQ2.out)⟩
 case pos=>
 subst hz2
 go_wp2
 rw [rounds_succ]
 go_wp2
 go_ret
 exact ⟨0,rfl,.inr (QQ2.out)⟩
end Go.Proofs.YtodcnkbblippnaaGreatDoor
namespace Go.Proofs.YtodcnkbblippnaaGreatDoor
open Go.RowKit
def Tryz.laysBs_ren:Go.Shelf.Ren:=⟨fun | 26=>138 | 33=>179 | 34=>180 | 38=>234 | n=>n,fun | 0=>0 | 3=>3 | 4=>4 | 9=>9 | 24=>121 | 40=>232 | n=>n,fun | n=>n⟩
theorem Tryz.laysBs:Go.Proofs.Lays2.n26 Tryz.prog Tryz.laysBs_ren:={
 mixed:=by kernel_rfl
 f26:=Tryz.func138.trans (congrArg some (by kernel_rfl))
 f33:=Tryz.func179.trans (congrArg some (by kernel_rfl))
 f34:=Tryz.func180.trans (congrArg some (by kernel_rfl))
 f38:=Tryz.func234.trans (congrArg some (by kernel_rfl))
 t0:=Tryz.underlying0
 a0:=Tryz.isAgg0
 z0:=Tryz.sizeOf0
 v0:=Tryz.zeroValue0
 t3:=Tryz.underlying3
 a3:=Tryz.isAgg3
 z3:=Tryz.sizeOf3
 v3:=Tryz.zeroValue3
 t4:=Tryz.underlying4
 a4:=Tryz.isAgg4
 z4:=Tryz.sizeOf4
 v4:=Tryz.zeroValue4
 t9:=Tryz.underlying9
 a9:=Tryz.isAgg9
 z9:=Tryz.sizeOf9
 v9:=Tryz.zeroValue9
 t24:=Tryz.underlying121
 a24:=Tryz.isAgg121
 z24:=Tryz.sizeOf121
 v24:=Tryz.zeroValue121
 t40:=Tryz.underlying232
 a40:=Tryz.isAgg232
 z40:=Tryz.sizeOf232
 v40:=Tryz.zeroValue232 }
def Tryz.laysCp_ren:Go.Shelf.Ren:=⟨fun | 41=>153 | n=>n,fun | 22=>97 | 23=>113 | 4=>4 | n=>n,fun | n=>n⟩
theorem Tryz.laysCp:Go.Proofs.SlLaysE0.n41 Tryz.prog Tryz.laysCp_ren:={
 mixed:=by kernel_rfl
 f41:=⟨Tryz.f153.name,by decide,Tryz.func153.trans (congrArg some (by kernel_rfl))⟩
 t4:=Tryz.underlying4
 a4:=Tryz.isAgg4
 z4:=Tryz.sizeOf4
 v4:=Tryz.zeroValue4
 t22:=Tryz.underlying97
 a22:=Tryz.isAgg97
 z22:=Tryz.sizeOf97
 v22:=Tryz.zeroValue97 }
theorem A8E (a b:List UInt8):Op.bytesLess a b=decide (a<b):=by
 induction a generalizing b with
 | nil=>cases b with
  | nil=>simp [Op.bytesLess]
  | cons y r=>simp [Op.bytesLess]
 | cons x a ih=>
  cases b with
  | nil=>simp [Op.bytesLess]
  | cons y r=>
   unfold Op.bytesLess
   rw [ih r]
   by_cases h1:x<y
   ·simp [h1,List.cons_lt_cons_iff]
   ·by_cases h2:x=y
    ·subst h2;simp
    ·have:¬ (x :: a<y :: r):=by rw [List.cons_lt_cons_iff];simp [h1,h2]
     simp [h1,h2,this]
end Go.Proofs.YtodcnkbblippnaaGreatDoor
namespace Go.Proofs.YtodcnkbblippnaaGreatDoor
open Go.RowKit
attribute [local go_sem ↓] A0p
theorem A0A.step {w w1 w2:World} {Ft Ft1:Nat→Prop} {R:World→(Nat→Prop)→Prop} (hc:Chg Ft w w1) (hs:∀ k,Ft1 k→Ft k∨w.heap.size≤k) (h2:A0A w1 Ft1 w2 R):A0A w Ft w2 R:=by
 obtain ⟨hc2,Ft2,hr2,hlt2,hs2⟩:=h2
 refine ⟨hc.trans hc2 fun x hx hlt=>(hs x hx).resolve_right (by omega),Ft2,hr2,hlt2,fun k hk=>?_⟩
 rcases hs2 k hk with h | h
 ·exact hs k h
 ·exact .inr (Nat.le_trans hc.size h)
section
variable {w:World} {ab b xb jb B:Nat} {sv ov lv jo:Value} {A:Ar} {P:PD} {Ft FT:Nat→Prop} {a c m:Nat}
theorem B5x (h:A1A w b P Ft) (nm:Bs):
 Calls Tryz.prog 85 #[.pointer (some ⟨b,0,none⟩),.string ⟨nm.toArray⟩] w fun e w'=>e=.returned (.int .i64 (P.sync (nmB nm)).1)∧A0A w Ft w' (fun w' Ft'=>A1A w' b (P.sync (nmB nm)).2 Ft'):=B5q h (nmB nm)
theorem A5h (nm:Bs) (r:List Bs) (P:PD):PD.syncAll (nm :: r) P=if (P.sync (nmB nm)).1≠0 then P.sync (nmB nm) else PD.syncAll r (P.sync (nmB nm)).2:=rfl
set_option maxRecDepth 100000 in
set_option maxHeartbeats 8000000 in
theorem A9z (w:World) (h:AD w ab b A P FT):
 Calls Tryz.prog 118 #[.pointer (some ⟨ab,0,none⟩)] w fun e w'=>e=.returned (.int .i64 (A.settle P).1)∧A0A w FT w' (fun w' FT'=>AD w' ab b (A.settle P).2.1 (A.settle P).2.2 FT')∧w'.cell? ⟨ab,2,none⟩=w.cell? ⟨ab,2,none⟩:=by
 obtain ⟨xb,jb,sv,ov,lv,jo,Ft,hV,hsub⟩:=h
 have a4:=hV.blk.c4
 obtain ⟨oa,ocap,rfl,oc1,oc2⟩:=hV.loose.form
 unfold maxLen at oc2
 have HV:=A0b hV
 have HSUB:=A0b hsub
 have HE:Hid (A.settle P=if (PD.syncAll A.loose P).1≠0 then ((PD.syncAll A.loose P).1,A,(PD.syncAll A.loose P).2) else (0,{ A with loose:=[] },(PD.syncAll A.loose P).2)):=rfl
 have SC:=A0b A5h
 obtain ⟨R,hR⟩:∃ R,A.settle P=R:=⟨_,rfl⟩
 rw [hR] at HE ⊢
 obtain ⟨X,hX⟩:∃ X,PD.syncAll A.loose P=X:=⟨_,rfl⟩
 have HX:=A0b hX
 rw [hX] at HE
 clear hR hX hV hsub
 go_enter Tryz.func118,Tryz.ntmps118
 go_wp2
 go_loopw [11] (fun iv wr=>∃ (k:Nat),iv=.int .i64 k∧k≤A.loose.length∧Hid (∃ Pk,A0A w Ft wr (fun w' Ft'=>ArV w' ab b xb jb sv (.slice oa A.loose.length ocap) lv jo A Pk Ft')∧X=PD.syncAll (A.loose.drop k) Pk)) (fun iv _=>A.loose.length - (intOf iv).toNat)
 case atStart=>exact ⟨0,rfl,by omega,P,⟨Chg.refl _ _,Ft,HV.out,HV.out.lt,fun k hk=>.inl hk⟩,HX.out.symm⟩
 case round=>
  obtain ⟨k,rfl,hk,hI⟩:=hrel
  obtain ⟨Pk,hi,hx⟩:=hI.out
  obtain ⟨c1,Ft1,hv,lt1,s1⟩:=hi
  by_cases hk1:k<A.loose.length
  ·obtain ⟨g,o,rfl,d1⟩:=RdS.at hv.loose k hk1
   have hdr:=List.drop_eq_getElem_cons hk1
   obtain ⟨nm,hne⟩:∃ nm,(A.loose[k]'hk1)=nm:=⟨_,rfl⟩
   rw [hne] at d1 hdr
   rw [hdr,SC.out] at hx
   have e0:=hv.blk.c0
   have SY:=A0b (B5x hv.dk nm)
   obtain ⟨Y,hY⟩:∃ Y,Pk.sync (nmB nm)=Y:=⟨_,rfl⟩
   rw [hY] at SY hx
   have AFT:Hid (∀ w6,A0A wr Ft1 w6 (fun w' Ft'=>A1A w' b Y.2 Ft')→A0A w Ft w6 (fun w' Ft'=>ArV w' ab b xb jb sv (.slice (some ⟨g,o,none⟩) A.loose.length ocap) lv jo A Y.2 Ft')):=fun w6 h6=>A0A.step c1 s1 (hv.disk h6)
   have HXX:=A0b hx
   have hki:(k:Int)<(A.loose.length:Int):=by omega
   have hk0:(0:Int)≤(k:Int):=Int.natCast_nonneg _
   obtain ⟨Y1,Y2⟩:=Y
   dsimp only at SY AFT HXX
   clear hI c1 hv lt1 s1 hdr hne hY hx
   by_cases hy:Y1=0
   case neg=>
    have hX1:X=(Y1,Y2):=by rw [HXX.out,if_pos hy]
    subst hX1
    have hR1:R=(Y1,A,Y2):=by rw [HE.out,if_pos hy]
    subst hR1
    have hyb:(Y1 != 0)=true:=by simpa using hy
    go_wp2_with (go_at_call 85;refine SY.out.mono ?_;rintro e w6 ⟨rfl,hc6⟩;have HC6:=A0b (AFT.out w6 hc6);clear hc6)
    go_ret
    obtain ⟨_,_,hv6,_⟩:=HC6.out
    exact ⟨rfl,HV.out.diskInto HSUB.out HC6.out,hv6.blk.c2.trans HV.out.blk.c2.symm⟩
   case pos=>
    subst hy
    have HX2:Hid (X=PD.syncAll (A.loose.drop (k+1)) Y2):=by unfold Hid;rw [HXX.out,if_neg (by simp)]
    go_wp2_with (go_at_call 85;refine SY.out.mono ?_;rintro e w6 ⟨rfl,hc6⟩;have HC6:=A0b (AFT.out w6 hc6);clear hc6)
    go_roundw
    case rel=>exact ⟨k+1,by go_num,by omega,Y2,HC6.out,HX2.out⟩
    case measure=>simp [intOf];omega
  ·obtain rfl:k=A.loose.length:=by omega
   rw [List.drop_length] at hx
   have hX1:X=(0,Pk):=hx
   subst hX1
   have hR1:R=(0,{ A with loose:=[] },Pk):=by rw [HE.out,if_neg (by simp)]
   subst hR1
   have hki:¬ ((A.loose.length:Int)<(A.loose.length:Int)):=by omega
   have g4:=hv.blk.c4
   have f4:=hv.blk.fz 4
   have HVR:=A0b hv
   have HC1:=A0b c1
   have HS1:=A0b s1
   clear hI hx hv c1 s1 lt1 HE HX SC
   go_wp2
   go_ret
   have hv:=HVR.out
   have kz:Chg (One ab) wr (wr.setCell ⟨ab,4,none⟩ (.slice none 0 0)):=(Chg.refl (One ab) wr).setAt (b:=ab) rfl 4 _
   have hs:∀ k,k≠ab→k<wr.heap.size→(wr.setCell ⟨ab,4,none⟩ (.slice none 0 0)).heap[k]?=wr.heap[k]?:=fun k hk hl=>kz.block k hl hk
   have hja:∀ k,A3M jb lv jo k→k≠ab:=fun k hk=>(hv.sepJ k hk).1
   have hnew:ArV (wr.setCell ⟨ab,4,none⟩ (.slice none 0 0)) ab b xb jb sv (.slice none 0 0) lv jo { A with loose:=[] } Pk Ft1:=
    ⟨hv.blk.s4 _,(hs xb hv.ne.symm hv.ix.lt).trans hv.ix,hv.segs.frame fun g hg=>hs g (hv.sepS g hg).1 (hv.segs.lt hg),A4a.nil,hv.jn.frame fun k hk=>hs k (hja k hk) (hv.jn.lt hk),
     A0R.frame hv.dk fun k hk=>hs k (fun e=>by subst e;exact hv.sepD _ (.inl rfl) hk) (hv.lt k hk),fun k hk=>Nat.lt_of_lt_of_le (hv.lt k hk) kz.size,
     fun k hk=>hv.sepD k (by
      rcases hk with h | h | h | h | h
      ·exact .inl h
      ·exact .inr (.inl h)
      ·exact .inr (.inr (.inl h))
      ·simp [Value.ownBlock] at h
      ·exact .inr (.inr (.inr (.inr h)))),hv.sepS,fun g hg=>by simp [Value.ownBlock] at hg,hv.sepJ⟩
   refine ⟨rfl,?_,hnew.blk.c2.trans HV.out.blk.c2.symm⟩
   refine (hnew.into ((HC1.out.mono (S':=fun k=>Ft k∨k=ab) fun _ _ h=>.inl h).trans kz fun _ h _=>.inr h) ?_ (fun k hk=>(HS1.out k hk).imp (fun h=>HSUB.out k (.inl h)) id) ?_)
   ·rintro k _ (h | rfl)
    ·exact HSUB.out k (.inl h)
    ·exact HSUB.out _ (.inr (.inl rfl))
   ·intro k hk
    refine .inl (HSUB.out k (.inr ?_))
    rcases hk with h | h | h | h | h
    ·exact .inl h
    ·exact .inr (.inl h)
    ·exact .inr (.inr (.inl h))
    ·simp [Value.ownBlock] at h
    ·exact .inr (.inr (.inr (.inr h)))
theorem A6O (w:World) (h:AD w ab b A P FT):
 Calls Tryz.prog 118 #[.pointer (some ⟨ab,0,none⟩)] w fun e w'=>e=.returned (.int .i64 (A.settle P).1)∧A0A w FT w' (fun w' FT'=>AD w' ab b (A.settle P).2.1 (A.settle P).2.2 FT'):=
 (A9z w h).mono fun _ _ ⟨h1,h2,_⟩=>⟨h1,h2⟩
end
end Go.Proofs.YtodcnkbblippnaaGreatDoor
namespace Go.Proofs.YtodcnkbblippnaaGreatDoor
open Go.RowKit
theorem Chg.ofBelow0 {w w':World} (h:Below w.heap.size w w'):Chg (fun _=>False) w w':=⟨h.os,h.tape,h.output,h.size,fun k hk _=>h.block k hk⟩
theorem A3E {w:World} {base e size n:Nat} {v:Value} {xs:List Value} (h:w.ownsRow base e size v n xs):w.ownsRow 0 e size v n xs∧∀ g,v.ownBlock=some g→base≤g:=by
 refine ⟨⟨h.1,?_⟩,fun g hg=>(h.lt g hg).1⟩
 rcases h.2 with h2 | ⟨g,cap,cur,h2,_,h3⟩
 ·exact .inl h2
 ·exact .inr ⟨g,cap,cur,h2,Nat.zero_le _,h3⟩
theorem B0k (l:List Bs):A0U l=l.map encStr:=rfl
theorem A9e (w:World) (v:Value) (l:List Bs) (h:A3V w v l) (hl:l.length<4611686018427387904):
 Calls Tryz.prog 137 #[v] w fun e w'=>e=.returned (.tuple #[])∧A3V w' v (l.mergeSort fun x y=>decide (x≤y))∧Chg (fun k=>v.ownBlock=some k) w w':=by
 obtain ⟨h1,h2⟩:=h
 rcases h2 with ⟨rfl,h0⟩ | ⟨g,cap,cur,rfl,_,hb,hcap,hm,hs,ht⟩
 ·have e:l = []:=List.length_eq_zero_iff.1 h0
  subst e
  refine (Tryz.slices_Sort_string_none none 0 w).mono ?_
  rintro e w' ⟨rfl,rfl⟩
  exact ⟨rfl,by rw [List.mergeSort_nil];exact World.ownsRow_nil _ _ _ _,Chg.refl _ _⟩
 ·have ht2:cur.toList.take l.length=l.map encStr:=by rw [Nat.mul_one] at ht;rw [ht];rfl
  refine (Tryz.slices_Sort_string g 0 cap l w (holds_of_block hb ht2) (lt_of_block hb) hl).mono ?_
  rintro e w' ⟨rfl,n,os,rfl⟩
  have hlen:(l.mergeSort fun x y=>decide (x≤y)).length=l.length:=by simp
  refine ⟨rfl,?_,(Chg.refl _ w).grown (grownBy_sorted _) fun k hk _=>by cases hk;rfl⟩
  unfold A3V
  rw [B0k,hlen]
  exact ownsRow_sorted hlen (Nat.zero_le _) hb hcap hm hs
theorem B0e (x:Bs):∀ (l:List Bs),(l.Pairwise fun a b=>¬ b<a)→∃ k,k≤l.length∧(∀ t (ht:t<l.length),t<k→(l[t]'ht)<x)∧∀ t (ht:t<l.length),k≤t→¬ (l[t]'ht)<x
 | [],_=>⟨0,Nat.le_refl _,fun t ht=>by simp at ht,fun t ht=>by simp at ht⟩
 | y :: r,hs=>by
  obtain ⟨h1,h2⟩:=List.pairwise_cons.1 hs
  by_cases hy:y<x
  ·obtain ⟨k,k0,k1,k2⟩:=B0e x r h2
   refine ⟨k+1,by simp;omega,fun t ht htk=>?_,fun t ht htk=>?_⟩
   ·cases t with
    | zero=>exact hy
    | succ t=>exact k1 t (by simp at ht;omega) (by omega)
   ·cases t with
    | zero=>omega
    | succ t=>exact k2 t (by simp at ht;omega) (by omega)
  ·refine ⟨0,Nat.zero_le _,fun t _ htk=>by omega,fun t ht _ hlt=>?_⟩
   cases t with
   | zero=>exact hy hlt
   | succ t=>
    have hm:=h1 _ (List.getElem_mem (show t<r.length by simp at ht;omega))
    exact hy (List.lt_of_le_of_lt (show y≤_ from hm) hlt)
theorem A8P (w:World) (v:Value) (l:List Bs) (x:Bs) (h:RdS w v l) (hl:l.length<4611686018427387904) (hs:l.Pairwise fun a b=>¬ b<a):
 Calls Tryz.prog 138 #[v,.string ⟨x.toArray⟩] w fun e w'=>∃ i,e=.returned (.tuple #[.int .i64 i,.bool (decide (x∈l))])∧∃ q,w'=w.drewN q:=by
 obtain ⟨a,cap,rfl,hcap,hm⟩:=h.form
 by_cases h0:l.length=0
 ·have e:l = []:=List.length_eq_zero_iff.1 h0
  subst e
  refine (Any2.slices_BinarySearch_string_empty Tryz.laysBs a cap ⟨x.toArray⟩ w).mono ?_
  rintro e w' ⟨rfl,rfl⟩
  exact ⟨0,by simp,0,rfl⟩
 ·obtain ⟨g,o,rfl,-⟩:=RdS.at h 0 (by omega)
  let Sx:Nat→ByteArray:=fun t=>if ht:t<l.length then ⟨(l[t]'ht).toArray⟩ else ⟨x.toArray⟩
  have hSx:∀ t (ht:t<l.length),Sx t=⟨(l[t]'ht).toArray⟩:=fun t ht=>by simp only [Sx,dif_pos ht]
  refine (Any2.slices_BinarySearch_string Tryz.laysBs g o l.length cap Sx ⟨x.toArray⟩ w hl (fun j hj=>?_)).mono ?_
  ·obtain ⟨g',o',e,hc⟩:=RdS.at h j hj
   cases e
   rw [hSx j hj];exact hc
  rintro e w' ⟨he,q,rfl⟩
  have hless:∀ t,Op.bytesLess (Sx t).toList (⟨x.toArray⟩:ByteArray).toList=decide (∃ ht:t<l.length,(l[t]'ht)<x):=fun t=>by
   rw [A8E,Lib.toList_data,Lib.toList_data]
   by_cases ht:t<l.length
   ·rw [hSx t ht]
    by_cases hx:(l[t]'ht)<x
    ·have h1:decide (∃ ht:t<l.length,(l[t]'ht)<x)=true:=decide_eq_true ⟨ht,hx⟩
     rw [h1];exact decide_eq_true hx
    ·have h1:decide (∃ ht:t<l.length,(l[t]'ht)<x)=false:=decide_eq_false fun ⟨_,h⟩=>hx h
     rw [h1];exact decide_eq_false hx
   ·have e:Sx t=⟨x.toArray⟩:=by simp only [Sx,dif_neg ht]
    have h1:decide (∃ ht:t<l.length,(l[t]'ht)<x)=false:=decide_eq_false fun ⟨h,_⟩=>ht h
    rw [e,h1]
    exact decide_eq_false (List.lt_irrefl _)
  have hlp:∀ (i j:Nat) (hi:i<l.length) (hj:j<l.length),i<j→¬ (l[j]'hj)<(l[i]'hi):=fun i j hi hj hij=>List.pairwise_iff_getElem.1 hs i j hi hj hij
  obtain ⟨k,hk,k1,k2⟩:=B0e x l hs
  have hbs:Lib.bsGo (fun t=>Op.bytesLess (Sx t).toList (⟨x.toArray⟩:ByteArray).toList) l.length 0 l.length=k:=by
   refine Lib.bsGo_spec _ k (fun t ht=>?_) (fun t ht=>?_) _ 0 l.length (by omega) (by omega) hk
   ·rw [hless t];exact decide_eq_true ⟨by omega,k1 t (by omega) ht⟩
   ·rw [hless t];exact decide_eq_false fun ⟨h1,h2⟩=>k2 t h1 ht h2
  rw [hbs] at he
  have:(k<l.length∧Sx k=⟨x.toArray⟩)↔x∈l:=by
   constructor
   ·rintro ⟨hk1,hk2⟩
    rw [hSx k hk1] at hk2
    have:(l[k]'hk1)=x:=by
     have:=congrArg (fun (b:ByteArray)=>b.data.toList) hk2
     simpa using this
    rw [← this];exact List.getElem_mem hk1
   ·intro hm
    obtain ⟨t,ht,he⟩:=List.getElem_of_mem hm
    have htk:k≤t:=by
     rcases Nat.lt_or_ge t k with h' | h'
     ·have:=k1 t ht h';rw [he] at this;exact absurd this (List.lt_irrefl _)
     ·exact h'
    have hk1:k<l.length:=by omega
    refine ⟨hk1,?_⟩
    have hle:¬ x<(l[k]'hk1):=by
     rcases Nat.lt_or_ge k t with h' | h'
     ·have:=hlp k t hk1 ht h';rwa [he] at this
     ·have e:k=t:=by omega
      subst e;rw [he];exact List.lt_irrefl _
    have hge:=k2 k hk1 (Nat.le_refl _)
    have:(l[k]'hk1)=x:=List.le_antisymm (show (l[k]'hk1)≤x from hle) (show x≤(l[k]'hk1) from hge)
    rw [hSx k hk1,this]
  have hd:decide (k<l.length∧Sx k=⟨x.toArray⟩)=decide (x∈l):=by
   by_cases hx:x∈l
   ·rw [decide_eq_true hx];exact decide_eq_true (this.2 hx)
   ·rw [decide_eq_false hx];exact decide_eq_false fun h=>hx (this.1 h)
  rw [hd] at he
  exact ⟨_,he,q,rfl⟩
theorem A8z (w:World) (v:Value) (l:List Pu) (h:A1r w v l) (hl:l.length*24≤140737488355328):
 Calls Tryz.prog 153 #[v] w fun e w'=>∃ v',e=.returned v'∧A1r w' v' l∧(∀ g,v'.ownBlock=some g→w.heap.size≤g)∧Chg (fun _=>False) w w':=by
 obtain ⟨i0,hi,hz0,hz1,hz2⟩:=info_parts A2a
 obtain ⟨a,cap,rfl,h1,h2,h3,h4,h5⟩:=A0g h
 cases a with
 | none=>
  have e:l = []:=List.length_eq_zero_iff.1 (h4 rfl).1
  subst e
  refine (AnyE.slices_Clone_nil Tryz.laysCp _ cap w).mono ?_
  rintro e w' ⟨rfl,rfl⟩
  exact ⟨_,rfl,World.ownsRow_nil _ _ _ _,fun g hg=>by simp [Value.ownBlock] at hg,Chg.refl _ _⟩
 | some x=>
  obtain ⟨g,rfl⟩:=h5 x rfl
  unfold maxLen at h2
  refine (AnyE.slices_Clone Tryz.laysCp i0 _ 3 24 hi hz0 hz1 hz2 rfl (by decide) (fun w=>Tryz.sizeOf113 w) g 0 l.length cap (A0x l) w h.1 (by unfold maxLen;omega) hl (fun j u hj=>?_) (A0G l)).mono ?_
  ·have:=A0j h rfl hj
   simpa using this
  rintro e w' ⟨v',rfl,h6,h7,h8⟩
  obtain ⟨q1,q2⟩:=A3E h6
  exact ⟨v',rfl,q1,q2,Chg.ofBelow0 h8⟩
theorem A7E (w:World) (v:Value) (l:List Int) (h:RdI w v l) (hl:l.length*8≤140737488355328):
 Calls Tryz.prog 108 #[v] w fun e w'=>∃ v',e=.returned v'∧A5p w' v' l∧(∀ g,v'.ownBlock=some g→w.heap.size≤g)∧Chg (fun _=>False) w w':=by
 obtain ⟨a,cap,rfl,h1,h2⟩:=h.form
 by_cases h0:l.length=0
 ·have e:l = []:=List.length_eq_zero_iff.1 h0
  subst e
  cases a with
  | none=>
   refine (Tryz.slices_Clone_int_nil 0 cap w).mono ?_
   rintro e w' ⟨rfl,rfl⟩
   exact ⟨_,rfl,World.ownsRow_nil _ _ _ _,fun g hg=>by simp [Value.ownBlock] at hg,Chg.refl _ _⟩
  | some x=>
   refine (Tryz.slices_Clone_int_zero x cap w).mono ?_
   rintro e w' ⟨v',rfl,h6,h7,h8⟩
   obtain ⟨q1,q2⟩:=A3E h6
   exact ⟨v',rfl,q1,q2,Chg.ofBelow0 h8⟩
 ·obtain ⟨g,o,rfl,-⟩:=RdI.at h 0 (by omega)
  refine (Tryz.slices_Clone_int g o l.length cap l w (Nat.le_refl _) hl (fun j hj=>?_)).mono ?_
  ·obtain ⟨g',o',e,hc⟩:=RdI.at h j hj
   cases e
   rw [A5T l j hj];exact hc
  rintro e w' ⟨v',rfl,h6,h7,h8⟩
  rw [List.take_length] at h6
  obtain ⟨q1,q2⟩:=A3E h6
  exact ⟨v',rfl,q1,q2,Chg.ofBelow0 h8⟩
end Go.Proofs.YtodcnkbblippnaaGreatDoor
