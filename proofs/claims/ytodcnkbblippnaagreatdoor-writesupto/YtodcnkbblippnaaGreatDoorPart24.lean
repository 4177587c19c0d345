/-
  The statement WritesUptoCardSaid is proved: the law Writes answers true for every setting and every script of at most 1048576 bytes; there is no other condition.
  Part 24 of 33.
-/
import Derived.Test.YtodcnkbblippnaaGreatDoorPart23
namespace Go.Proofs.YtodcnkbblippnaaGreatDoor
open Go.RowKit
attribute [local go_sem ↓] A0p
theorem A7k (len:Int) (ws:List (List Pu)) (first:Bool) (prev p:Pu):
 (A1u len ws first prev p).length≤ws.length+1∧A1F (A1u len ws first prev p)≤A1F ws+1∧∀ x∈A1u len ws first prev p,∀ y∈x,y=p∨∃ z∈ws,y∈z:=by
 obtain ⟨ws1,hw1,h1,h2,h3⟩:∃ ws1,(if first=true∨A1K p.2.1 len≠A1K prev.2.1 len then ws ++ [[]] else ws)=ws1∧(ws1.length≤ws.length+1)∧A1F ws1=A1F ws∧(∀ x∈ws1,∀ y∈x,∃ z∈ws,y∈z)∧True:=by
  refine ⟨_,rfl,?_⟩
  split
  ·refine ⟨by simp,by simp [A1F],fun x hx y hy=>?_,trivial⟩
   rcases List.mem_append.1 hx with hx | hx
   ·exact ⟨x,hx,hy⟩
   ·simp at hx;subst hx;simp at hy
  ·exact ⟨by omega,rfl,fun x hx y hy=>⟨x,hx,hy⟩,trivial⟩
 have hl1:ws1 = []∨ws1.length≤ws.length+1:=.inr h1
 have hlen:ws1.dropLast.length+1≤ws.length+1:=by
  rw [List.length_dropLast]
  have:ws1.length≤ws.length+1:=h1
  omega
 have key:∀ t:List Pu,t.length≤(ws1.getLastD []).length+1→A1F (ws1.dropLast ++ [t])≤A1F ws+1:=fun t ht=>by
  rw [A2D,← h2]
  rcases List.eq_nil_or_concat ws1 with rfl | ⟨a,b,hab⟩
  ·simp [A1F] at ht ⊢;omega
  ·rw [List.concat_eq_append] at hab
   subst hab
   have e1:(a ++ [b]).getLastD []=b:=by rw [List.getLastD_eq_getLast?];simp
   rw [e1] at ht
   rw [List.dropLast_concat,A2D]
   simp [A1F];omega
 have hmem:∀ y∈ws1.getLastD [],∃ z∈ws,y∈z:=fun y hy=>by
  rcases List.eq_nil_or_concat ws1 with rfl | ⟨a,b,hab⟩
  ·simp at hy
  ·rw [List.concat_eq_append] at hab
   subst hab
   have e1:(a ++ [b]).getLastD []=b:=by rw [List.getLastD_eq_getLast?];simp
   rw [e1] at hy
   exact h3.1 b (by simp) y hy
 unfold A1u
 dsimp only
 rw [hw1]
 split
 ·refine ⟨by simpa using hlen,key _ (by simp),fun x hx y hy=>?_⟩
  rcases List.mem_append.1 hx with hx | hx
  ·exact .inr (h3.1 x (List.dropLast_subset _ hx) y hy)
  ·rw [List.mem_singleton] at hx;subst hx
   rcases List.mem_append.1 hy with hy | hy
   ·exact .inr (hmem y (List.dropLast_subset _ hy))
   ·exact .inl (List.mem_singleton.1 hy)
 ·refine ⟨by simpa using hlen,key _ (by simp),fun x hx y hy=>?_⟩
  rcases List.mem_append.1 hx with hx | hx
  ·exact .inr (h3.1 x (List.dropLast_subset _ hx) y hy)
  ·rw [List.mem_singleton] at hx;subst hx
   rcases List.mem_append.1 hy with hy | hy
   ·exact .inr (hmem y hy)
   ·exact .inl (List.mem_singleton.1 hy)
theorem A6d (len:Int):∀ (l:List Pu) (first:Bool) (prev:Pu) (ws:List (List Pu)),
 (A5r len l first prev ws).length≤ws.length+l.length∧A1F (A5r len l first prev ws)≤A1F ws+l.length∧∀ x∈A5r len l first prev ws,∀ y∈x,y∈l∨∃ z∈ws,y∈z
 | [],_,_,ws=>⟨Nat.le_refl _,Nat.le_refl _,fun x hx y hy=>.inr ⟨x,hx,hy⟩⟩
 | p :: r,first,prev,ws=>by
  obtain ⟨s1,s2,s3⟩:=A7k len ws first prev p
  obtain ⟨h1,h2,h3⟩:=A6d len r false p (A1u len ws first prev p)
  unfold A5r
  refine ⟨by simp;omega,by simp;omega,fun x hx y hy=>?_⟩
  rcases h3 x hx y hy with h | ⟨z,hz,h⟩
  ·exact .inl (List.mem_cons_of_mem _ h)
  ·rcases s3 z hz y h with rfl | h
   ·exact .inl List.mem_cons_self
   ·exact .inr h
theorem B2f {l:List (List Pu)} {x:List Pu} (h:x∈l):x.length≤A1F l:=by
 induction l with
 | nil=>cases h
 | cons a r ih=>
  rw [B1n]
  rcases List.mem_cons.1 h with rfl | h
  ·omega
  ·have:=ih h;omega
theorem A7Z (len:Int) (l:List Pu):(A2I len l).length≤l.length∧A1F (A2I len l)≤l.length∧∀ x∈A2I len l,(∀ p∈x,p∈l)∧x.length≤l.length:=by
 obtain ⟨h1,h2,h3⟩:=A6d len (A2m (A1U len) l) true (0,0,0) []
 rw [A4y] at h1 h2
 have e:A5r len (A2m (A1U len) l) true (0,0,0) []=A2I len l:=rfl
 rw [e] at h1 h2 h3
 have h1:(A2I len l).length≤l.length:=by simpa using h1
 have h2:A1F (A2I len l)≤l.length:=by
  have e0:A1F []=0:=rfl
  omega
 refine ⟨h1,h2,fun x hx=>⟨fun p hp=>?_,?_⟩⟩
 ·rcases h3 x hx p hp with h | ⟨z,hz,-⟩
  ·exact ((A4L len).sort_steq l).symm.mem (A4L len) h
  ·cases hz
 ·have:=B2f hx
  omega
section
variable {N ab b a c m B:Nat} {A:Ar} {P:PD} {FT:Nat→Prop}
set_option maxRecDepth 100000 in
set_option maxHeartbeats 4000000 in
theorem A8M (hS:A4v N) (hN:N≤134217728) (w:World) (h:AD w ab b A P FT) (hFT:∀ k,FT k→k<w.heap.size) (window:Int) (hw:1≤window∧window≤4611686018427387904)
 (hpn:(P.puts A.j.logs).1.length≤N) (hpo:∀ p∈(P.puts A.j.logs).1,A4q p) (hla:0≤A.last∧A.last+N≤9223372036854775807) (hjl:A0P (A.j.last+1)) (hkr:∀ x∈A.ix.segs,A0P x)
 (hF:Fit P a c m) (hl:Lim (a+N+2) (c+2*a+2*N+4) (m+29*N+12+8*A.ix.segs.length)) (hm:A.j.logs.length*m≤70368744177664) (hkl:A.ix.segs.length+N≤134217728)
 (hn:∀ n∈A.ix.segs,A1j n) (hnl:∀ n∈A.j.logs,A1j n) (hll:A.j.logs.length≤1073741824) (hL:A2i B w) (hLB:∀ k,FT k→B≤k):
 Calls Tryz.prog 68 #[.pointer (some ⟨ab,0,none⟩),.int .i64 window] w fun e w'=>e=.returned (.int .i64 (A.flush P window).1)∧A0A w FT w' (fun w' FT'=>AD w' ab b (A.flush P window).2.1 (A.flush P window).2.2 FT'):=by
 obtain ⟨xb,jb,sv,ov,lv,jo,Ft,hv,hsub⟩:=id h
 have c2:=hv.blk.c2
 have PU:=A0b (A9T w hv.dk hv.lt hv.jn hF ⟨by have:=hl.a;omega,by have:=hl.c;omega,by have:=hl.m;omega⟩ hm hnl hL)
 have HE:Hid (A.flush P window=if (P.puts A.j.logs).2≠0 then ((P.puts A.j.logs).2,A,P) else A.replace P A.ix.segs (A2I window (P.puts A.j.logs).1)):=rfl
 have SHP:=A0b (A7Z window (P.puts A.j.logs).1)
 obtain ⟨R,hR⟩:∃ R,A.flush P window=R:=⟨_,rfl⟩
 rw [hR] at HE ⊢
 obtain ⟨PS,hPS⟩:∃ PS,P.puts A.j.logs=PS:=⟨_,rfl⟩
 rw [hPS] at PU HE SHP hpn hpo
 obtain ⟨ps,pe⟩:=PS
 dsimp only at PU HE SHP hpn hpo
 have H:=A0b h
 have HV:=A0b hv
 have HFT:=A0b hFT
 have HPO:=A0b hpo
 have HPN:=A0b hpn
 have REP:Hid (∀ wx kv fv,Chg (fun _=>False) w wx→A5p wx kv A.ix.segs→(∀ g,kv.ownBlock=some g→w.heap.size≤g)→B5v wx fv (A2I window ps) FT→pe=0→
  Calls Tryz.prog 107 #[.pointer (some ⟨ab,0,none⟩),kv,fv] wx fun e w'=>e=.returned (.int .i64 R.1)∧A0A w FT w' (fun w' FT'=>AD w' ab b R.2.1 R.2.2 FT')):=fun wx kv fv hc hk hko hf he=>by
  obtain ⟨z1,z2,z3⟩:=SHP.out
  have hR2:R=A.replace P A.ix.segs (A2I window ps):=by rw [HE.out,if_neg (by simp [he])]
  rw [hR2]
  refine (A9y wx (H.out.chg0 hc) (fun k hk=>Nat.lt_of_lt_of_le (HFT.out k hk) hc.size) kv A.ix.segs hk (fun g hg=>⟨fun hx=>by have:=hko g hg;have:=HFT.out g hx;omega,Nat.le_trans hL.1 (hko g hg)⟩) fv (A2I window ps) hf
   (fun l hl=>⟨fun p hp=>HPO.out p ((z3 l hl).1 p hp),by have:=(z3 l hl).2;omega⟩) ⟨hla.1,by omega⟩ hjl hkr hF ⟨by have:=hl.a;omega,by have:=hl.c;omega,by have:=hl.m;omega⟩ (by omega) hn hnl hn (by omega) hll (hL.keep0 hc) hLB).mono ?_
  rintro e w' ⟨h1,h2⟩
  exact ⟨h1,A0A.step (hc.mono fun _ _ h=>h.elim) (fun k hk=>hk.elim .inl fun h=>.inr (hko k h)) h2⟩
 have SAME:Hid (∀ wx,Chg (fun _=>False) w wx→pe≠0→R.1=pe∧A0A w FT wx (fun w' FT'=>AD w' ab b R.2.1 R.2.2 FT')):=fun wx hc he=>by
  have hR2:R=(pe,A,P):=by rw [HE.out,if_pos he]
  subst hR2
  exact ⟨rfl,hc.mono fun _ _ h=>h.elim,FT,H.out.chg0 hc,fun k hk=>Nat.lt_of_lt_of_le (HFT.out k hk) hc.size,fun k hk=>.inl hk⟩
 have WIN:Hid (∀ wx v,A1r wx v ps→_):=fun wx v hx=>A7b hS hN wx v window ps hpn hx (fun p hp=>(HPO.out p hp).2.1) hw
 have HSL:Hid (A.ix.segs.length*8≤140737488355328):=by unfold Hid;omega
 clear hR hPS h hv hFT hpo hpn hsub hla hjl hkr hl hm hkl hn hnl hll hL hLB hF hw hS hN
 go_enter Tryz.func68,Tryz.ntmps68
 go_wp2_with (fail)
 refine PU.out.mono ?_
 rintro e w1 ⟨v1,rfl,hv1,ho1,hc1⟩
 by_cases hp:pe=0
 case neg=>
  have S1:=A0b (SAME.out w1 hc1 hp)
  have hpb:(pe != 0)=true:=by simpa using hp
  clear hv1 ho1 hc1 PU REP WIN SAME HE hp
  go_wp2
  go_ret
  exact ⟨by rw [S1.out.1];rfl,S1.out.2⟩
 case pos=>
  subst hp
  have V1:=HV.out.chg0 hc1
  have d1:=V1.blk.c1
  have d4:=V1.ix.c4
  have CL:=A0b (A7E w1 sv A.ix.segs V1.segs HSL.out)
  have K1:=A0b hc1
  have HV1:=A0b hv1
  clear hv1 ho1 hc1 PU SAME HE V1
  go_wp2_with (fail)
  refine CL.out.mono ?_
  rintro e w2 ⟨v2,rfl,hv2,ho2,hc2⟩
  have HV2:=A0b hv2
  have HO2:=A0b ho2
  have K2:Hid (Chg (fun _=>False) w w2):=K1.out.trans hc2 fun _ h _=>h
  have W2:=A0b (WIN.out w2 v1 (A0a HV1.out fun g hg=>hc2.block g (A0c HV1.out hg) (fun h=>h)))
  clear hv2 ho2 hc2 CL WIN
  go_wp2_with (fail)
  refine W2.out.mono ?_
  rintro e w3 ⟨v3,vs,rfl,hw3,hc3⟩
  have K3:Chg (fun _=>False) w w3:=K2.out.trans hc3 fun _ h _=>h
  have R3:=A0b (REP.out w3 v2 v3 K3 (A0a HV2.out fun g hg=>hc3.block g (A0c HV2.out hg) (fun h=>h)) (fun g hg=>Nat.le_trans K1.out.size (HO2.out g hg))
   ⟨vs,hw3.len,hw3.row,hw3.ls,fun g hg hx=>by have:=hw3.lo g hg;have:=HFT.out g hx;have:=K2.out.size;omega,fun x hx g hg hf=>by have:=hw3.li x hx g hg;have:=HFT.out g hf;have:=K2.out.size;omega⟩ (by simp))
  clear hw3 hc3 K3 REP W2
  go_wp2_with (fail)
  refine R3.out.mono ?_
  rintro e w4 ⟨rfl,hI⟩
  have HI:=A0b hI
  clear hI R3
  go_wp2
  go_ret
  exact ⟨rfl,HI.out⟩
end
end Go.Proofs.YtodcnkbblippnaaGreatDoor
namespace Go.Proofs.YtodcnkbblippnaaGreatDoor
open Go.RowKit
attribute [local go_sem ↓] A0p
theorem A5W {n:Int} (h:A0W n=true):1≤n∧n≤4611686018427387904:=by
 unfold A0W at h;simpa using h
theorem A3g {P:PD} {ix:Ix} (h:P.index=some ix):(1≤ix.first∧ix.first≤4611686018427387904)∧∀ n∈ix.segs,1≤n∧n≤4611686018427387904:=by
 unfold PD.index A4o at h
 split at h
 ·cases h;exact ⟨⟨by decide,by decide⟩,fun n hn=>by cases hn⟩
 ·split at h
  ·cases h
  ·rename_i h1
   split at h
   ·cases h
   ·rename_i h2
    split at h
    ·cases h
     have h2:(A3w (P.read A0N).1).all A0W=true:=by simpa using h2
     rw [List.all_eq_true] at h2
     generalize hi:A3w (P.read A0N).1=l at *
     cases l with
     | nil=>simp at h1
     | cons x r=>exact ⟨A5W (h2 x List.mem_cons_self),fun n hn=>A5W (h2 n (List.mem_cons_of_mem _ hn))⟩
    ·cases h
theorem A6n:∀ (k:Nat) (l:Bs) (r:List Pu × Bs),A8L k l=some r→r.1.length≤l.length
 | 0,l,r,h=>by cases h;exact Nat.zero_le _
 | k+1,l,r,h=>by
  unfold A8L at h
  split at h
  ·cases h;exact Nat.zero_le _
  ·rename_i hl
   split at h
   ·cases hx:A8L k (l.drop 17) with
    | none=>rw [hx] at h;cases h
    | some q=>
     rw [hx] at h
     cases h
     have:=A6n k (l.drop 17) q hx
     simp only [List.length_cons]
     rw [List.length_drop] at this
     omega
   ·cases h
theorem B0l {P:PD} {a c m:Nat} (hF:Fit P a c m) {n:Int} {l:List Pu} (h:P.seg n=some l):l.length≤m:=by
 unfold PD.seg B2L at h
 split at h
 ·cases h
 ·cases hx:A8L (P.read (A1d n)).1.length (P.read (A1d n)).1 with
  | none=>rw [hx] at h;cases h
  | some q=>
   rw [hx] at h
   dsimp only at h
   split at h
   ·cases h
    exact Nat.le_trans (A6n _ _ q hx) (B2G hF _)
   ·cases h
theorem A5C {P:PD} {a c m:Nat} (hF:Fit P a c m):∀ (ss:List Int) (l:List (Int × List Pu)),P.segs ss=some l→l.length=ss.length∧∀ x∈l,x.2.length≤m
 | [],l,h=>by cases h;exact ⟨rfl,fun x hx=>by cases hx⟩
 | n :: r,l,h=>by
  unfold PD.segs at h
  cases hx:P.seg n with
  | none=>rw [hx] at h;cases h
  | some q=>
   rw [hx] at h
   dsimp only at h
   cases hy:P.segs r with
   | none=>rw [hy] at h;cases h
   | some y=>
    rw [hy] at h
    cases h
    obtain ⟨h1,h2⟩:=A5C hF r y hy
    refine ⟨by simp [h1],fun x hx'=>?_⟩
    rcases List.mem_cons.1 hx' with rfl | hx'
    ·exact B0l hF hx
    ·exact h2 x hx'
def A1I (l:List Bs):List Int:=l.filterMap fun nm=>if (A0D nm).1=2 then some (A0D nm).2 else none
theorem A6y (a b:List Bs):A1I (a ++ b)=A1I a ++ A1I b:=by simp [A1I]
def A4V (w:World) (ab b xb:Nat) (last:Int):Prop:=w.heap[ab]?=some (.cells #[.pointer (some ⟨b,0,none⟩),.pointer (some ⟨xb,0,none⟩),.pointer none,.int .i64 last,.slice none 0 0] 150 (0,0))
section
variable {w w':World} {ab b xb:Nat} {last:Int}
theorem A4V.c0 (h:A4V w ab b xb last):w.cell? ⟨ab,0,none⟩=some (.pointer (some ⟨b,0,none⟩)):=by unfold A4V at h;simp [World.cell?,h]
theorem A4V.c1 (h:A4V w ab b xb last):w.cell? ⟨ab,1,none⟩=some (.pointer (some ⟨xb,0,none⟩)):=by unfold A4V at h;simp [World.cell?,h]
theorem A4V.c2 (h:A4V w ab b xb last):w.cell? ⟨ab,2,none⟩=some (.pointer none):=by unfold A4V at h;simp [World.cell?,h]
theorem A4V.c3 (h:A4V w ab b xb last):w.cell? ⟨ab,3,none⟩=some (.int .i64 last):=by unfold A4V at h;simp [World.cell?,h]
theorem A4V.fz (h:A4V w ab b xb last) (o:Nat):w.frozen? ⟨ab,o,none⟩=false:=by unfold A4V at h;simp [World.frozen?,h]
theorem A4V.s3 (h:A4V w ab b xb last) (x:Int):A4V (w.setCell ⟨ab,3,none⟩ (.int .i64 x)) ab b xb x:=A0h h
theorem A4V.s2 (h:A4V w ab b xb last) (jb:Nat):A1s (w.setCell ⟨ab,2,none⟩ (.pointer (some ⟨jb,0,none⟩))) ab b xb jb last (.slice none 0 0):=A0h h
theorem A4V.lt0 (h:A4V w ab b xb last):ab<w.heap.size:=lt_of_block h
theorem A4V.keep {S:Nat→Prop} (h:A4V w ab b xb last) (hc:Chg S w w') (hn:¬ S ab):A4V w' ab b xb last:=hc.keep h hn
end
theorem B4z.keepB {S:Nat→Prop} {w w':World} {B0 b:Nat} {v:Value} {l:List (Int × List Pu)} (h:B4z w B0 b v l) (hc:Chg S w w') (hS:∀ k,S k→k<B0):B4z w' B0 b v l:=by
 obtain ⟨gbs,h1,h2,h3,h4⟩:=h
 refine ⟨gbs,h1,A0a h2 fun g hg=>hc.block g (A0c h2 hg) fun hx=>by have:=hS g hx;have:=h3 g hg;omega,h3,fun k q1 q2=>?_⟩
 obtain ⟨pv,s1,s2,s3,s4⟩:=h4 k q1 q2
 exact ⟨pv,s1.keep hc (fun hx=>by have:=hS _ hx;omega),A0a s2 fun g hg=>hc.block g (A0c s2 hg) fun hx=>by have:=hS g hx;have:=s4 g hg;omega,s3,s4⟩
section
variable {b a c m B:Nat} {P:PD} {Ft:Nat→Prop}
theorem B1U (h:P.index=none):Ar.open P=.error 7:=by unfold Ar.open;rw [h]
theorem B4d {ix:Ix} (h:P.index=some ix) (hb:P.names.any (fun nm=>decide ((A0D nm).1=0))=true):Ar.open P=.error 7:=by
 unfold Ar.open;rw [h];dsimp only;rw [if_pos hb]
theorem B1P {ix:Ix} (h:P.index=some ix) (hb:P.names.any (fun nm=>decide ((A0D nm).1=0))=false) (hs:P.segs ix.segs=none):Ar.open P=.error 7:=by
 unfold Ar.open;rw [h];dsimp only;rw [if_neg (by simp [hb]),hs]
theorem B2Q {ix:Ix} {l:List (Int × List Pu)} (h:P.index=some ix) (hb:P.names.any (fun nm=>decide ((A0D nm).1=0))=false) (hs:P.segs ix.segs=some l) (hp:(P.puts (A0B ix.first P.names)).2≠0):Ar.open P=.error (P.puts (A0B ix.first P.names)).2:=by
 unfold Ar.open;rw [h];dsimp only;rw [if_neg (by simp [hb]),hs];dsimp only;rw [if_pos hp]
def Ar.fresh (P:PD) (ix:Ix):Ar:=⟨ix,P.journal ix.first,(A1I P.names).getLastD 0,[]⟩
theorem B5g {ix:Ix} {l:List (Int × List Pu)} (h:P.index=some ix) (hb:P.names.any (fun nm=>decide ((A0D nm).1=0))=false) (hs:P.segs ix.segs=some l) (hp:(P.puts (A0B ix.first P.names)).2=0):
 Ar.open P=.ok ({ Ar.fresh P ix with loose:=(Ar.fresh P ix).counting P },l.flatMap (·.2) ++ (P.puts (A0B ix.first P.names)).1):=by
 unfold Ar.open;rw [h];dsimp only;rw [if_neg (by simp [hb]),hs];dsimp only;rw [if_neg (by simp [hp])];rfl
set_option maxRecDepth 100000 in
set_option maxHeartbeats 16000000 in
theorem B0L (w:World) (h:A1A w b P Ft) (hlt:∀ k,Ft k→k<w.heap.size) (hF:Fit P a c m) (hl:Lim a c m) (ham:a*m≤70368744177664) (hL:A2i B w) (hE:B3p w) (hnl:∀ nm∈P.names,nm.length≤281474976710656)
 (hsg:∀ ix,P.index=some ix→ix.segs.length≤1073741824∧ix.segs.length*m≤4398046511104) (hpb:∀ first,(P.puts (A0B first P.names)).1.length≤1099511627776):
 Calls Tryz.prog 59 #[.pointer (some ⟨b,0,none⟩)] w fun e w'=>
  (∃ n,Ar.open P=.error n∧e=.returned (.tuple #[.pointer none,.slice none 0 0,.int .i64 n])∧Chg (fun _=>False) w w')∨
  (∃ A ps ab v FT,Ar.open P=.ok (A,ps)∧e=.returned (.tuple #[.pointer (some ⟨ab,0,none⟩),v,.int .i64 0])∧A1r w' v ps∧AD w' ab b A P FT∧(∀ k,FT k→Ft k∨w.heap.size≤k)∧(∀ k,FT k→k<w'.heap.size)∧(∀ g,v.ownBlock=some g→¬ FT g∧w.heap.size≤g)∧Chg (fun _=>False) w w'):=by
 obtain ⟨i0,hi,hz0,hz1,hz2⟩:=info_parts A2a
 have RI:=A0b (A7x w h hlt hF hl hL)
 have LI:Hid (∀ w1,Chg (fun _=>False) w w1→Calls Tryz.prog 76 #[.pointer (some ⟨b,0,none⟩)] w1 fun e w'=>∃ v,e=.returned v∧A3V w' v P.names∧Chg (fun _=>False) w1 w'∧(∀ g,v.ownBlock=some g→w1.heap.size≤g)):=fun w1 hc=>B4T (A0R.same h hlt hc) hF hl
 have NA:Hid (∀ w1,Chg (fun _=>False) w w1→∀ nm∈P.names,Calls Tryz.prog 97 #[.string ⟨nm.toArray⟩] w1 fun e w'=>e=.returned (.tuple #[.int .i64 (A0D nm).1,.int .i64 (A0D nm).2])∧Chg (fun _=>False) w1 w'):=fun w1 hc nm hm=>A8n w1 nm (hnl nm hm) (hE.keep0 hc) (hL.keep0 hc)
 have hnlen:P.names.length≤a:=by rw [A2g];exact hF.dir
 have hnl2:P.names.length≤1073741824:=Nat.le_trans hnlen hl.a
 have SG:Hid (∀ ix,P.index=some ix→∀ w1 ab xb sv,Chg (fun _=>False) w w1→w1.cell? ⟨ab,0,none⟩=some (.pointer (some ⟨b,0,none⟩))→w1.cell? ⟨ab,1,none⟩=some (.pointer (some ⟨xb,0,none⟩))→w1.cell? ⟨xb,4,none⟩=some sv→RdI w1 sv ix.segs→_):=
  fun ix hx w1 ab xb sv hc h0 h1 h4 hs=>A9l (ab:=ab) (xb:=xb) (sv:=sv) w1 ix.segs h0 h1 h4 hs (A0R.same h hlt hc) (fun k hk=>Nat.lt_of_lt_of_le (hlt k hk) hc.size) hF hl (fun n hn=>by have:=(A3g hx).2 n hn;exact A2c (by omega) this.2) (hsg ix hx).1 (hL.keep0 hc)
 have JO:Hid (∀ ix,P.index=some ix→∀ w1,Chg (fun _=>False) w w1→_):=fun ix hx w1 hc=>B1T w1 (A0R.same h hlt hc) (fun k hk=>Nat.lt_of_lt_of_le (hlt k hk) hc.size) hF hl ham (A3g hx).1 (hL.keep0 hc) (hE.keep0 hc) hnl
 have PA:Hid (∀ ix,P.index=some ix→∀ w1 ab xb jb sv lv,Chg (fun _=>False) w w1→ArV w1 ab b xb jb sv (.slice none 0 0) lv (.pointer none) (Ar.fresh P ix) P Ft→_):=fun ix hx w1 ab xb jb sv lv hc hv=>
  A6C w1 hv hF hl (fun n hn=>by have:=(A3g hx).2 n hn;exact A2c (by omega) this.2) (fun n hn=>by obtain ⟨_,h2,_⟩:=A6E hn;exact A2c (by omega) h2.2) (hsg ix hx).1 (Nat.le_trans (A3o _ _) hnl2) (hL.keep0 hc)
 have PO:Hid (∀ ix,P.index=some ix→∀ l,P.segs ix.segs=some l→∀ w1 B0 v,B4z w1 B0 b v l→(Calls Tryz.prog 101 #[v] w1 fun e w'=>∃ v',e=.returned v'∧A1r w' v' (l.flatMap (·.2))∧(∀ g,v'.ownBlock=some g→w1.heap.size≤g)∧Chg (fun _=>False) w1 w')∧(l.flatMap (·.2)).length≤4398046511104):=fun ix hx l hs w1 B0 v hv=>by
  obtain ⟨s1,s2⟩:=A5C hF ix.segs l hs
  refine ⟨A8l w1 B0 v l hv (by rw [s1];exact (hsg ix hx).1) s2 (by rw [s1];exact (hsg ix hx).2),Nat.le_trans ?_ (hsg ix hx).2⟩
  rw [← s1]
  clear hs s1 hv
  induction l with
  | nil=>exact Nat.zero_le _
  | cons x r ih=>
   have:=ih (fun y hy=>s2 y (List.mem_cons_of_mem _ hy))
   have:=s2 x List.mem_cons_self
   rw [List.flatMap_cons,List.length_append,List.length_cons,Nat.succ_mul]
   omega
 have ON:=A0b (B1U (P:=P))
 have OB:=A0b (fun ix=>B4d (P:=P) (ix:=ix))
 have OS:=A0b (fun ix=>B1P (P:=P) (ix:=ix))
 have OP:=A0b (fun ix l=>B2Q (P:=P) (ix:=ix) (l:=l))
 have OK:=A0b (fun ix l=>B5g (P:=P) (ix:=ix) (l:=l))
 have HPB:=A0b hpb
 have HD:Hid (∀ w1,Chg (fun _=>False) w w1→A1A w1 b P Ft):=fun w1 hc=>A0R.same h hlt hc
 have HLT:=A0b hlt
 have FIX:=A0b (fun (ix:Ix) (hx:P.index=some ix)=>(A3g hx).1)
 obtain ⟨O,hO⟩:∃ O,Ar.open P=O:=⟨_,rfl⟩
 rw [hO] at ON OB OS OP OK ⊢
 clear hO h hlt hF hl ham hL hE hnl hsg hpb hnlen
 go_enter Tryz.func59,Tryz.ntmps59
 go_wp2_with (fail)
 refine RI.out.mono ?_
 rintro e w1 (⟨hx,rfl,hc1⟩ | ⟨ix,xb,sv,hx,rfl,hfx,hsv,hso,hxb,hc1⟩)
 ·have HX:=A0b (ON.out hx)
  have HC1:=A0b hc1
  clear hx hc1 RI
  go_wp2
  go_ret3
  exact .inl ⟨7,HX.out,rfl,HC1.out⟩
 have hB0:A4V (w1.alloc (.cells #[.pointer (some ⟨b,0,none⟩),.pointer (some ⟨xb,0,none⟩),.pointer none,.int .i64 0,.slice none 0 0] 150)) w1.heap.size b xb 0:=heap_alloc_new w1 _
 have KA:Hid (Chg (fun _=>False) w1 (w1.alloc (.cells #[.pointer (some ⟨b,0,none⟩),.pointer (some ⟨xb,0,none⟩),.pointer none,.int .i64 0,.slice none 0 0] 150))):=(Chg.refl _ w1).alloc _
 have K1:=A0b hc1
 have LI1:=A0b (LI.out _ (K1.out.trans KA.out fun _ h _=>h))
 have HX:=A0b hx
 have HFX:=A0b hfx
 have HSV:=A0b hsv
 have HSO:=A0b hso
 have HXB:=A0b hxb
 have HB0:=A0b hB0
 have HS1:Hid (w1.heap.size<(w1.alloc (.cells #[.pointer (some ⟨b,0,none⟩),.pointer (some ⟨xb,0,none⟩),.pointer none,.int .i64 0,.slice none 0 0] 150)).heap.size):=by unfold Hid;simp
 clear hx hfx hsv hso hxb hc1 hB0 RI LI
 go_wp2_with (fail)
 refine LI1.out.mono ?_
 rintro e w2 ⟨v,rfl,hv,hc2,hvo⟩
 obtain ⟨na,ncap,rfl,nc1,nc2⟩:=(A3V.rd hv).form
 unfold maxLen at nc2
 have HV:=A0b (A3V.rd hv)
 have K12:Hid (Chg (fun _=>False) w1 w2):=KA.out.trans hc2 fun _ h _=>h
 have B2:=A0b (HB0.out.keep hc2 (fun h=>h))
 have HVO:Hid (∀ g,(Value.slice na P.names.length ncap).ownBlock=some g→w1.heap.size<g):=fun g hg=>Nat.lt_of_lt_of_le HS1.out (hvo g hg)
 clear hv hc2 hvo LI1 HB0 HS1 KA
 obtain ⟨ab,hab⟩:∃ ab,w1.heap.size=ab:=⟨_,rfl⟩
 rw [hab] at B2 HVO ⊢
 have HAB:=A0b hab
 clear hab
 go_wp2
 go_loopw [30] (fun iv wr=>∃ k:Nat,iv=.int .i64 k∧k≤P.names.length∧Hid (A4V wr ab b xb ((A1I (P.names.take k)).getLastD 0)∧(P.names.take k).any (fun nm=>decide ((A0D nm).1=0))=false∧Chg (fun _=>False) w wr∧Chg (One ab) w2 wr)) (fun iv _=>P.names.length - (intOf iv).toNat)
 case atStart=>exact ⟨0,rfl,by omega,B2.out,by simp,K1.out.trans K12.out fun _ h _=>h,Chg.refl _ _⟩
 case round=>
  obtain ⟨k,rfl,hk,hI⟩:=hrel
  obtain ⟨i1,i2,i3,i4⟩:=hI.out
  by_cases hk1:k<P.names.length
  ·obtain ⟨g,o,rfl,d1⟩:=RdS.at HV.out k hk1
   have hmem:=List.getElem_mem hk1
   have htk:P.names.take (k+1)=P.names.take k ++ [P.names[k]'hk1]:=List.take_succ_eq_append_getElem hk1
   obtain ⟨nm,hne⟩:∃ nm,(P.names[k]'hk1)=nm:=⟨_,rfl⟩
   rw [hne] at d1 hmem htk
   have e1:=i4.cellKeepS d1 (fun h=>by have h':g=ab:=h;have:=HVO.out g rfl;omega)
   have NA1:=A0b (NA.out wr i3 nm hmem)
   have hrg:=A5m nm
   have HLT2:Hid ((A1I (P.names.take (k+1))).getLastD 0=if (A0D nm).1=2 then (A0D nm).2 else (A1I (P.names.take k)).getLastD 0):=by
    unfold Hid;rw [htk,A6y]
    by_cases hc:(A0D nm).1=2
    ·have e:A1I [nm] = [(A0D nm).2]:=by simp [A1I,hc]
     rw [if_pos hc,e,A4I]
    ·have e:A1I [nm] = []:=by simp [A1I,hc]
     rw [if_neg hc,e,List.append_nil]
   have HAN:Hid (¬ (A0D nm).1=0→(P.names.take (k+1)).any (fun nm=>decide ((A0D nm).1=0))=false):=fun hz=>by rw [htk,List.any_append,i2];simp [hz]
   have HBAD:Hid ((A0D nm).1=0→P.names.any (fun nm=>decide ((A0D nm).1=0))=true):=fun hz=>List.any_eq_true.2 ⟨nm,hmem,by simp [hz]⟩
   obtain ⟨X,hX⟩:∃ X,A0D nm=X:=⟨_,rfl⟩
   rw [hX] at NA1 HLT2 HAN HBAD hrg
   obtain ⟨s,n⟩:=X
   dsimp only at NA1 HLT2 HAN HBAD hrg
   obtain ⟨r1,r2⟩:=hrg
   have I1:=A0b i1
   have I3:=A0b i3
   have I4:=A0b i4
   have hki:(k:Int)<(P.names.length:Int):=by omega
   have hk0:(0:Int)≤(k:Int):=Int.natCast_nonneg _
   clear hI i1 i2 i3 i4 d1 hmem htk hne hX
   by_cases hs0:s=0
   ·subst hs0
    have HE0:=A0b (OB.out ix HX.out (HBAD.out rfl))
    go_wp2_with (go_at_call 97;refine NA1.out.mono ?_;rintro e w6 ⟨rfl,hc6⟩;have HC6:=A0b hc6;clear hc6)
    go_ret3
    exact .inl ⟨7,HE0.out,rfl,I3.out.trans HC6.out fun _ h _=>h⟩
   ·have hsb0:(s == 0)=false:=by simpa using hs0
    by_cases hs2:s=2
    ·subst hs2
     have HL3:Hid ((A1I (P.names.take (k+1))).getLastD 0=n):=by rw [HLT2.out,if_pos rfl];rfl
     go_wp2_with (fail)
     refine NA1.out.mono ?_
     rintro e w6 ⟨rfl,hc6⟩
     have B6:=I1.out.keep hc6 (fun h=>h)
     have g63:=B6.c3
     have f63:=B6.fz 3
     have B7:=A0b (B6.s3 n)
     have HC6:=A0b hc6
     clear hc6 NA1 B6
     go_wp2
     go_roundw
     case rel=>
      have k7:Chg (One ab) wr (w6.setCell ⟨ab,3,none⟩ (.int .i64 n)):=(HC6.out.mono (S':=One ab) fun _ _ h=>h.elim).setAt (b:=ab) rfl 3 _
      exact ⟨k+1,by go_num,by omega,by rw [HL3.out];exact B7.out,HAN.out (by decide),I3.out.trans k7 fun x hx hlt=>by have e':x=ab:=hx;have:=HAB.out;have:=K1.out.size;omega,I4.out.trans k7 fun _ h _=>h⟩
     case measure=>simp [intOf];omega
    ·have hsb2:(s == 2)=false:=by simpa using hs2
     have HL3:Hid ((A1I (P.names.take (k+1))).getLastD 0=(A1I (P.names.take k)).getLastD 0):=by rw [HLT2.out,if_neg hs2];rfl
     have HAN2:=A0b (HAN.out hs0)
     go_wp2_with (go_at_call 97;refine NA1.out.mono ?_;rintro e w6 ⟨rfl,hc6⟩;have HC6:=A0b hc6;clear hc6)
     go_roundw
     case rel=>exact ⟨k+1,by go_num,by omega,by rw [HL3.out];exact I1.out.keep HC6.out (fun h=>h),HAN2.out,I3.out.trans HC6.out fun _ h _=>h,I4.out.trans HC6.out fun _ h _=>h.elim⟩
     case measure=>simp [intOf];omega
  ·have hkk:k=P.names.length:=by omega
   subst hkk
   rw [List.take_length] at i1 i2
   have hki:¬ ((P.names.length:Int)<(P.names.length:Int)):=by omega
   have k1r:Chg (One ab) w1 wr:=(K12.out.mono (S':=One ab) fun _ _ h=>h.elim).trans i4 fun _ h _=>h
   have hxa:xb≠ab:=by have:=HFX.out.lt;have:=HAB.out;omega
   have hF4:=HFX.out.keep k1r hxa
   have hS4:RdI wr sv ix.segs:=A4a.chg HSV.out k1r fun g hg h=>by have h':g=ab:=h;have:=A4a.lt HSV.out hg;have:=HAB.out;omega
   have SG1:=A0b (SG.out ix HX.out wr ab xb sv i3 i1.c0 i1.c1 hF4.c4 hS4)
   have I1:=A0b i1
   have I2:=A0b i2
   have I3:=A0b i3
   have I4:=A0b i4
   have HXA:=A0b hxa
   have HF4:=A0b hF4
   have HS4:=A0b hS4
   have KR:Hid (ab<wr.heap.size):=I1.out.lt0
   clear hI i1 i2 i3 i4 k1r hxa hF4 hS4 SG NA B2
   go_wp2_with (fail)
   refine SG1.out.mono ?_
   rintro e w3 (⟨hs,rfl,hc3⟩ | ⟨l,v3,hs,rfl,hv3,hc3⟩)
   ·have HE0:=A0b (OS.out ix HX.out I2.out hs)
    have HC3:=A0b hc3
    clear hs hc3 SG1
    go_wp2
    go_ret3
    exact .inl ⟨7,HE0.out,rfl,I3.out.trans HC3.out fun _ h _=>h⟩
   have d3:=(HF4.out.keep hc3 (fun h=>h)).c3
   have HSEG:=A0b hs
   have HV3:=A0b hv3
   have HC3:=A0b hc3
   have K3:Hid (Chg (fun _=>False) w w3):=I3.out.trans hc3 fun _ h _=>h
   have JO1:=A0b (JO.out ix HX.out w3 K3.out)
   have hfr:=FIX.out ix HX.out
   have OP1:=A0b (OP.out ix l HX.out I2.out HSEG.out)
   have OK1:=A0b (OK.out ix l HX.out I2.out HSEG.out)
   have HPB1:=A0b (HPB.out ix.first)
   clear hs hv3 hc3 SG1 JO OP OK OS OB ON HPB
   go_wp2_with (fail)
   refine JO1.out.mono ?_
   rintro e w4 (⟨hp,rfl,hc4⟩ | ⟨hp,jb,lv,v4,rfl,hj,hv4,hjf,hvo4,hc4⟩)
   ·have HE0:=A0b (OP1.out hp)
    have HC4:=A0b hc4
    generalize (P.puts (A0B ix.first P.names)).2=E at hp HE0 ⊢
    have hpb:(E != 0)=true:=by simpa using hp
    clear hp hc4 JO1 OP1 OK1
    go_wp2
    go_ret3
    exact .inl ⟨E,HE0.out,rfl,K3.out.trans HC4.out fun _ h _=>h⟩
   have HP0:=A0b (OK1.out hp)
   have hpe:(P.puts (A0B ix.first P.names)).2=0:=hp
   have b4:=I1.out.keep (HC3.out.trans hc4 fun _ h _=>h) (fun h=>h)
   have g42:=b4.c2
   have f42:=b4.fz 2
   have B5:=A0b (b4.s2 jb)
   have kab:Chg (One ab) w4 (w4.setCell ⟨ab,2,none⟩ (.pointer (some ⟨jb,0,none⟩))):=(Chg.refl (One ab) w4).setAt (b:=ab) rfl 2 _
   have k35:Chg (One ab) w3 (w4.setCell ⟨ab,2,none⟩ (.pointer (some ⟨jb,0,none⟩))):=(hc4.mono (S':=One ab) fun _ _ h=>h.elim).trans kab fun _ h _=>h
   have kr5:Chg (One ab) wr (w4.setCell ⟨ab,2,none⟩ (.pointer (some ⟨jb,0,none⟩))):=(HC3.out.mono (S':=One ab) fun _ _ h=>h.elim).trans k35 fun _ h _=>h
   have hab0:w.heap.size≤ab:=by have:=HAB.out;have:=K1.out.size;omega
   have K5:Chg (fun _=>False) w (w4.setCell ⟨ab,2,none⟩ (.pointer (some ⟨jb,0,none⟩))):=I3.out.trans kr5 fun x hx hlt=>by have e':x=ab:=hx;omega
   have hr3:wr.heap.size≤w3.heap.size:=HC3.out.size
   have hsvab:∀ g,sv.ownBlock=some g→g<ab:=fun g hg=>by have:=A4a.lt HSV.out hg;have:=HAB.out;omega
   have hxbab:xb<ab:=by have:=HFX.out.lt;have:=HAB.out;omega
   have hjge:∀ k,A3M jb lv (.pointer none) k→ab<k:=fun k hk=>by have:=hjf k hk;have:=KR.out;omega
   have j5:JnV (w4.setCell ⟨ab,2,none⟩ (.pointer (some ⟨jb,0,none⟩))) jb b lv (.pointer none) (P.journal ix.first):=hj.chg kab fun k hk h=>by have e':k=ab:=h;have:=hjge k hk;omega
   have V5:ArV (w4.setCell ⟨ab,2,none⟩ (.pointer (some ⟨jb,0,none⟩))) ab b xb jb sv (.slice none 0 0) lv (.pointer none) (Ar.fresh P ix) P Ft:=
    ⟨B5.out,HF4.out.keep kr5 HXA.out,A4a.chg HS4.out kr5 (fun g hg h=>by have e':g=ab:=h;have:=hsvab g hg;omega),A4a.nil,j5,HD.out _ K5,fun k hk=>Nat.lt_of_lt_of_le (HLT.out k hk) K5.size,
     fun k hk hf=>by
      have h0:=HLT.out k hf
      rcases hk with rfl | rfl | hk | hk | hk
      ·omega
      ·have:=HXB.out;omega
      ·have:=HSO.out k hk;have:=HXB.out;omega
      ·simp [Value.ownBlock] at hk
      ·have:=hjge k hk;omega,
     fun g hg=>⟨by have:=hsvab g hg;omega,by have:=HSO.out g hg;omega,fun h=>by have:=hjge g h;have:=hsvab g hg;omega⟩,
     fun g hg=>by simp [Value.ownBlock] at hg,
     fun k hk=>⟨by have:=hjge k hk;omega,by have:=hjge k hk;omega⟩⟩
   have PA1:=A0b (PA.out ix HX.out _ ab xb jb sv lv K5 V5)
   have H5:=A0b V5
   have HV4:=A0b hv4
   have HVO4:=A0b hvo4
   have HC4:=A0b hc4
   have K35:=A0b k35
   have K05:=A0b K5
   have HAB0:=A0b hab0
   have HSVAB:=A0b hsvab
   have HXBAB:=A0b hxbab
   have HJGE:=A0b hjge
   obtain ⟨v4a,v4c,rfl,v41,v42,-⟩:=A0g hv4
   unfold maxLen at v42
   clear hp hpe b4 kab k35 kr5 hab0 K5 hr3 hsvab hxbab hjge j5 V5 hj hv4 hjf hvo4 hc4 JO1 OP1 OK1 PA
   go_wp2_with (fail)
   refine PA1.out.mono ?_
   rintro e w6 ⟨v5,v6,rfl,hv5,-,ho5,-,hc6⟩
   obtain ⟨v5a,v5c,rfl,v51,v52,-⟩:=A0g hv5
   unfold maxLen at v52
   have b6:=B5.out.keep hc6 (fun h=>h)
   have g64:=b6.c4
   have f64:=b6.fz 4
   have B7:=A0b (b6.s4 (Value.slice v5a ((Ar.fresh P ix).counting P).length v5c))
   have kab:Chg (One ab) w6 (w6.setCell ⟨ab,4,none⟩ (Value.slice v5a ((Ar.fresh P ix).counting P).length v5c)):=(Chg.refl (One ab) w6).setAt (b:=ab) rfl 4 _
   have k57:Chg (One ab) (w4.setCell ⟨ab,2,none⟩ (.pointer (some ⟨jb,0,none⟩))) (w6.setCell ⟨ab,4,none⟩ (Value.slice v5a ((Ar.fresh P ix).counting P).length v5c)):=(hc6.mono (S':=One ab) fun _ _ h=>h.elim).trans kab fun _ h _=>h
   have k07:Chg (fun _=>False) w (w6.setCell ⟨ab,4,none⟩ (Value.slice v5a ((Ar.fresh P ix).counting P).length v5c)):=K05.out.trans k57 fun x hx hlt=>by have e':x=ab:=hx;have:=HAB0.out;omega
   have h45:w4.heap.size≤(w4.setCell ⟨ab,2,none⟩ (.pointer (some ⟨jb,0,none⟩))).heap.size:=by simp
   have ho5':∀ g,(Value.slice v5a ((Ar.fresh P ix).counting P).length v5c).ownBlock=some g→w4.heap.size≤g:=fun g hg=>by have:=ho5 g hg;omega
   have h34:ab<w4.heap.size:=by have:=KR.out;have:=HC3.out.size;have:=HC4.out.size;omega
   have V7:ArV (w6.setCell ⟨ab,4,none⟩ (Value.slice v5a ((Ar.fresh P ix).counting P).length v5c)) ab b xb jb sv (Value.slice v5a ((Ar.fresh P ix).counting P).length v5c) lv (.pointer none) { Ar.fresh P ix with loose:=(Ar.fresh P ix).counting P } P Ft:=
    ⟨B7.out,H5.out.ix.keep k57 HXA.out,A4a.chg H5.out.segs k57 (fun g hg h=>by have e':g=ab:=h;have:=HSVAB.out g hg;omega),
     A4a.chg (A3V.rd hv5) kab (fun g hg h=>by have e':g=ab:=h;have:=ho5' g hg;omega),
     H5.out.jn.chg k57 (fun k hk h=>by have e':k=ab:=h;have:=HJGE.out k hk;omega),HD.out _ k07,fun k hk=>Nat.lt_of_lt_of_le (HLT.out k hk) k07.size,
     fun k hk hf=>by
      rcases hk with h | h | h | h | h
      ·exact H5.out.sepD k (.inl h) hf
      ·exact H5.out.sepD k (.inr (.inl h)) hf
      ·exact H5.out.sepD k (.inr (.inr (.inl h))) hf
      ·have:=ho5' k h;have:=HLT.out k hf;have:=HAB0.out;omega
      ·exact H5.out.sepD k (.inr (.inr (.inr (.inr h)))) hf,
     H5.out.sepS,
     fun g hg=>⟨by have:=ho5' g hg;omega,by have:=ho5' g hg;have:=HXBAB.out;omega,fun h=>by have:=ho5 g hg;have:=H5.out.jn.lt h;omega⟩,
     H5.out.sepJ⟩
   have HGE7:Hid (∀ k,A8Z ab xb jb sv (Value.slice v5a ((Ar.fresh P ix).counting P).length v5c) lv (.pointer none) k→w.heap.size≤k):=fun k hk=>by
    rcases hk with rfl | rfl | h | h | h
    ·exact HAB0.out
    ·exact HXB.out
    ·have:=HSO.out k h;have:=HXB.out;omega
    ·have:=ho5' k h;have:=HAB0.out;omega
    ·have:=HJGE.out k h;have:=HAB0.out;omega
   have k37:Chg (One ab) w3 (w6.setCell ⟨ab,4,none⟩ (Value.slice v5a ((Ar.fresh P ix).counting P).length v5c)):=K35.out.trans k57 fun _ h _=>h
   have PO1:=PO.out ix HX.out l HSEG.out (w6.setCell ⟨ab,4,none⟩ (Value.slice v5a ((Ar.fresh P ix).counting P).length v5c)) wr.heap.size v3 (HV3.out.keepB k37 fun k hk=>by have e':k=ab:=hk;have:=KR.out;omega)
   have hP00:=HP0.out
   obtain ⟨PL,hPL⟩:∃ PL,l.flatMap (·.2)=PL:=⟨_,rfl⟩
   rw [hPL] at PO1 hP00
   have HP9:=A0b hP00
   clear hP00 hPL HP0
   have PO2:=A0b PO1.1
   have PLN:=A0b PO1.2
   have H7:=A0b V7
   have K07:=A0b k07
   have HV47:Hid (A1r (w6.setCell ⟨ab,4,none⟩ (Value.slice v5a ((Ar.fresh P ix).counting P).length v5c)) (.slice v4a (P.puts (A0B ix.first P.names)).1.length v4c) (P.puts (A0B ix.first P.names)).1):=A0a HV4.out fun g hg=>by
    have h1:=HVO4.out g hg
    have hlt4:=A0c HV4.out hg
    have hne:g≠ab:=by have:=KR.out;have:=HC3.out.size;omega
    have e1:=k57.block g (by omega) (fun h=>hne h)
    rw [e1]
    exact Below.heap_setCell _ _ _ _ (fun e=>hne e)
   have HO47:Hid (∀ g,(Value.slice v4a (P.puts (A0B ix.first P.names)).1.length v4c).ownBlock=some g→w.heap.size≤g):=fun g hg=>by have:=HVO4.out g hg;have:=K3.out.size;omega
   clear hv5 ho5 hc6 b6 kab k57 k07 h45 ho5' h34 V7 k37 PO1 PA1 PO
   go_wp2_with (fail)
   refine PO2.out.mono ?_
   rintro e w8 ⟨v8,rfl,hv8,ho8,hc8⟩
   obtain ⟨v8a,v8c,rfl,v81,v82,-⟩:=A0g hv8
   unfold maxLen at v82
   have HV8:=A0b hv8
   have HO8:=A0b ho8
   have HC8:=A0b hc8
   have HSRC:=A0b (Src.ofOwn Tryz.underlying97 (A0a HV47.out fun g hg=>hc8.block g (A0c HV47.out hg) (fun h=>h)) (A0G (P.puts (A0B ix.first P.names)).1))
   have HBY:Hid ((PL.length+(P.puts (A0B ix.first P.names)).1.length)*24≤140737488355328):=by have:=PLN.out;have:=HPB1.out;unfold Hid;omega
   clear hv8 ho8 hc8 PO2
   go_wp2_with (at_builtin;refine A0o rfl (.tmp 84) (.tmp 85) 97 97 rfl 113 i0 _ 3 24 Tryz.underlying97 hi hz0 hz1 hz2 rfl (by decide) (.slice v8a PL.length v8c) PL.length (A0x PL) (by rfl) HV8.out _ (P.puts (A0B ix.first P.names)).1.length _ (by rfl) HSRC.out HBY.out ?_;intro a9 cap9 w9 hA;have HA:=A0b hA;clear hA)
   go_ret3
   have hA:=HA.out
   have hA2:=hA.chg (S:=fun k=>(Value.slice v8a PL.length v8c).ownBlock=some k) fun _ h=>h
   have k79:Chg (fun k=>(Value.slice v8a PL.length v8c).ownBlock=some k) (w6.setCell ⟨ab,4,none⟩ (Value.slice v5a ((Ar.fresh P ix).counting P).length v5c)) w9:=(HC8.out.mono fun _ _ h=>h.elim).trans hA2 fun _ h _=>h
   have h89:=HC8.out.size
   have own9:∀ g,(Value.slice a9 (PL.length+(P.puts (A0B ix.first P.names)).1.length) cap9).ownBlock=some g→(w6.setCell ⟨ab,4,none⟩ (Value.slice v5a ((Ar.fresh P ix).counting P).length v5c)).heap.size≤g:=fun g hg=>by
    rcases hA.at_ with h | h
    ·rw [h] at hg;exact HO8.out g hg
    ·rw [h] at hg;cases hg;exact h89
   refine .inr ⟨_,_,ab,_,fun k=>Ft k∨A8Z ab xb jb sv (Value.slice v5a ((Ar.fresh P ix).counting P).length v5c) lv (.pointer none) k,HP9.out,rfl,?_,⟨xb,jb,sv,(Value.slice v5a ((Ar.fresh P ix).counting P).length v5c),lv,.pointer none,Ft,H7.out.frame (fun k hk=>k79.block k (H7.out.ltF hk) fun h=>by have:=HO8.out k h;have:=H7.out.ltF hk;omega) k79.size,fun _ h=>h⟩,fun k hk=>?_,fun k hk=>Nat.lt_of_lt_of_le (H7.out.ltF hk) k79.size,fun g hg=>⟨fun hf=>?_,?_⟩,?_⟩
   ·have e:(PL ++ (P.puts (A0B ix.first P.names)).1).length=PL.length+(P.puts (A0B ix.first P.names)).1.length:=by simp
    unfold A1r
    rw [A0Y,e]
    exact hA.own
   ·rcases hk with hk | hk
    ·exact .inl hk
    ·exact .inr (HGE7.out k hk)
   ·have:=own9 g hg;have:=H7.out.ltF hf;omega
   ·have:=own9 g hg;have:=K07.out.size;omega
   ·exact K07.out.trans k79 fun x hx hlt=>by have:=HO8.out x hx;have:=K07.out.size;omega
end
end Go.Proofs.YtodcnkbblippnaaGreatDoor
namespace Go.Proofs.YtodcnkbblippnaaGreatDoor
open Go.RowKit
attribute [local go_sem ↓] A0p
end Go.Proofs.YtodcnkbblippnaaGreatDoor
namespace Go.Proofs.YtodcnkbblippnaaGreatDoor
open Go.RowKit
attribute [local go_sem ↓] A0p
end Go.Proofs.YtodcnkbblippnaaGreatDoor
namespace Go.Proofs.YtodcnkbblippnaaGreatDoor
open Go.RowKit
attribute [local go_sem ↓] A0p
end Go.Proofs.YtodcnkbblippnaaGreatDoor
namespace Go.Proofs.YtodcnkbblippnaaGreatDoor
open Go.RowKit
attribute [local go_sem ↓] A0p
end Go.Proofs.YtodcnkbblippnaaGreatDoor
