/-
  The statement WritesUptoCardSaid is proved: the law Writes answers true for every setting and every script of at most 1048576 bytes; there is no other condition.
  Part 4 of 33.
-/
import Derived.Test.YtodcnkbblippnaaGreatDoorPart03
import Derived.Deep.RegionHeld3
import Derived.Deep.DrawnRows
import Derived.Deep.RegionLaw
namespace Go.Proofs.YtodcnkbblippnaaGreatDoor
open Go.RowKit
attribute [local go_sem ↓] Go.wp_at_zero Go.wp_at_succ
set_option maxRecDepth 100000 in
set_option maxHeartbeats 1000000 in
theorem B3n (w:World) (b:Nat) (D:DS) (F:Nat→FC) (Ft:Nat→Prop) (h:Rep w b D F Ft) (name:ByteArray) (p n:Int):
 Calls Tryz.prog 82 #[.pointer (some ⟨b,0,none⟩),.string name,.int .i64 p,.int .i64 n] w fun e w'=>e=.returned (.tuple #[.string ⟨(A3v D F name p n).1.toArray⟩,.int .i64 (A3v D F name p n).2])∧w=w':=by
 obtain ⟨vd,vs,vc,vals,VB,hr,hft⟩:=h
 have c0:=hr.blk.c0
 have hd:=A0b hr.dir
 obtain ⟨a,cap,rfl,hc1,hc2,hcell⟩:=hr.dir.form
 unfold maxLen at hc2
 rcases A1M D.dir name with ⟨h1,h2⟩ | ⟨k,hk,h1,h2,h3⟩
 ·have q:Hid (A3v D F name p n=([],8)):=by unfold Hid A3v;rw [h2]
  have hfi:A1x D.dir name<0:=by omega
  clear hr h1 h2 hcell
  go_enter Tryz.func82,Tryz.ntmps82
  go_wp2_with (go_at_call 77;refine (A0F _ _ _ _ hd.out).mono ?_;rintro e w' ⟨rfl,rfl⟩)
  go_ret2
  rw [q.out]
  exact ⟨rfl,rfl⟩
 ·obtain ⟨hfb,hbs⟩:=hr.dirAt k hk
  obtain ⟨a',cap',hv,hl1,hl2⟩:=hbs.form
  unfold maxLen at hl2
  rw [hv] at hfb hbs
  have hb0:=hfb.c0
  have Hbs:=A0b hbs
  obtain ⟨g,rfl,hn,hp⟩:=hcell k hk
  have H1:=A0b h1
  have H2:=A0b h2
  clear hv hbs hfb hcell h1 h2 h3 hr
  obtain ⟨bs,hbs⟩:∃ bs,(F (D.dir[k]'hk).2).1=bs:=⟨_,rfl⟩
  have Hb:=A0b hbs
  rw [hbs] at hb0 hl1 Hbs
  clear hbs
  have hlen:(bs.length:Int)≤9223372036854775807:=by omega
  have q:Hid (A3v D F name p n=if p<0∨n<0∨p>bs.length∨n>bs.length - p then ([],9) else ((bs.drop p.toNat).take n.toNat,0)):=by
   unfold Hid A3v;rw [H2.out];dsimp only;rw [Hb.out]
  by_cases hok:0≤p∧0≤n∧p≤bs.length∧n≤bs.length - p
  ·obtain ⟨o1,o2,o3,o4⟩:=hok
   obtain ⟨p',rfl⟩:=Int.eq_ofNat_of_zero_le o1
   obtain ⟨n',rfl⟩:=Int.eq_ofNat_of_zero_le o2
   have q2:Hid (A3v D F name p' n'=((bs.drop p').take n',0)):=by
    unfold Hid;rw [q.out,if_neg (by omega)];simp
   clear q
   have o5:p'≤bs.length:=by omega
   have o6:n'≤bs.length - p':=by omega
   obtain ⟨_,_,he,_,_,_,hnil,hform⟩:=A0g Hbs.out
   cases he
   by_cases hcp:cap'=p'
   ·have hn0:n'=0:=by omega
    subst hn0
    have cv:∀ (x:Option Addr) (c:Nat),(convert 127 9 (.slice x 0 c)).run Tryz.prog w=.ok (.string ⟨#[]⟩) w:=by
     intro x c
     cases x with
     | none=>
      rw [run_convert_bytes_string (P:=Tryz.prog) w 127 9 5 none 0 c Tryz.underlying127 Tryz.underlying5 Tryz.underlying9]
      rfl
     | some ad=>exact run_convert_bytes_back (P:=Tryz.prog) w 127 9 5 ad c [] Tryz.underlying127 Tryz.underlying5 Tryz.underlying9 (by simp)
    subst hcp
    clear hnil hform
    go_enter Tryz.func82,Tryz.ntmps82
    go_wp2_with (go_at_call 77;refine (A0F _ _ _ _ hd.out).mono ?_;rintro e w' ⟨rfl,rfl⟩;rw [H1.out])
    go_ret2
    rw [q2.out]
    exact ⟨by simp,rfl⟩
   ·obtain ⟨ga,hga⟩:∃ ga,a'=some ⟨ga,0,none⟩:=by
     cases ha:a' with
     | none=>have:=(hnil ha).2;omega
     | some ad=>obtain ⟨g',rfl⟩:=hform ad ha;exact ⟨g',rfl⟩
    subst hga
    have cv:(convert 127 9 (.slice (some ⟨ga,p',none⟩) n' (cap' - p'))).run Tryz.prog w=.ok (.string ⟨((bs.drop p').take n').toArray⟩) w:=by
     have hl:((bs.drop p').take n').length=n':=by simp;omega
     have:=run_convert_bytes_back (P:=Tryz.prog) w 127 9 5 ⟨ga,p',none⟩ (cap' - p') ((bs.drop p').take n') Tryz.underlying127 Tryz.underlying5 Tryz.underlying9 (by
      intro j hj
      have hj':p'+j<bs.length:=by simp at hj;omega
      have hadd:(⟨ga,p',none⟩:Addr).add j=⟨ga,p'+j,none⟩:=by unfold Addr.add;split <;> simp_all
      rw [hadd]
      have:=A0j Hbs.out (g:=ga) rfl (j:=p'+j) (u:=.int .u8 (bs[p'+j]'hj').toNat) (by simp [A0K,List.getElem?_eq_getElem hj'])
      simpa using this)
     rw [hl] at this;exact this
    clear hnil hform
    go_enter Tryz.func82,Tryz.ntmps82
    go_wp2_with (go_at_call 77;refine (A0F _ _ _ _ hd.out).mono ?_;rintro e w' ⟨rfl,rfl⟩;rw [H1.out])
    go_ret2
    rw [q2.out]
    exact ⟨rfl,rfl⟩
  ·have q2:Hid (A3v D F name p n=([],9)):=by
    unfold Hid;rw [q.out,if_pos (by omega)]
   clear q
   go_enter Tryz.func82,Tryz.ntmps82
   go_wp2_with (go_at_call 77;refine (A0F _ _ _ _ hd.out).mono ?_;rintro e w' ⟨rfl,rfl⟩;rw [H1.out])
   all_goals (go_ret2;rw [q2.out];exact ⟨rfl,rfl⟩)
theorem A2j.fileUpd {w w':World} {b:Nat} {D:DS} {F:Nat→FC} {vd vs vc:Value} {vals:List Value} {VB:Nat→Value} {S:Nat→Prop} (h:A2j w b D F vd vs vc vals VB) {f:Nat} (hf:D.ids f) {vb':Value} {bs':List UInt8} {s':Int}
 (h1:A2Z w' f vb' s') (h2:BSl w' vb' bs') (hc:Chg S w w') (hS:∀ k,S k→k=f∨(VB f).ownBlock=some k) (hv:∀ g,vb'.ownBlock=some g→(VB f).ownBlock=some g∨w.heap.size≤g):
 A2j w' b D (upd F f (bs',s')) vd vs vc vals (fun x=>if x=f then vb' else VB x):=by
 obtain ⟨hf1,hf2⟩:=h.fil f hf
 have hk:∀ (k:Nat) (c:Array Value) (e:Nat),w.heap[k]?=some (Obj.cells c e (0,0))→e≠129→e≠5→w'.heap[k]?=w.heap[k]?:=fun k c e hk he he2=>
  hc.block k (lt_of_block hk) (fun hs=>by
   rcases hS k hs with hs | hs
   ·exact A0r hk hf1 he hs
   ·obtain ⟨c',hh⟩:=A0f hf2 hs
    exact A0r hk hh he2 rfl)
 refine ⟨?_,?_,?_,?_,?_,?_,?_⟩
 ·have:=h.blk;unfold A0H at this ⊢;rw [hk b _ _ this (by decide) (by decide)];exact this
 ·exact A0a h.dir fun g hg=>by obtain ⟨c,hh⟩:=A0f h.dir hg;exact hk g _ _ hh (by decide) (by decide)
 ·exact A0a h.safe fun g hg=>by obtain ⟨c,hh⟩:=A0f h.safe hg;exact hk g _ _ hh (by decide) (by decide)
 ·exact A0a h.chg fun g hg=>by obtain ⟨c,hh⟩:=A0f h.chg hg;exact hk g _ _ hh (by decide) (by decide)
 ·intro i hi
  obtain ⟨v,h1,h2⟩:=h.che i hi
  exact ⟨v,h1,A0a h2 fun g hg=>by obtain ⟨c,hh⟩:=A0f h2 hg;exact hk g _ _ hh (by decide) (by decide)⟩
 ·intro f2 hf2'
  by_cases he:f2=f
  ·subst he;simp only [upd,if_true];exact ⟨h1,h2⟩
  ·obtain ⟨g1,g2⟩:=h.fil f2 hf2'
   simp only [upd,he,if_false]
   refine ⟨g1.same (hc.block f2 (lt_of_block g1) (fun hs=>?_)),A0a g2 fun g hg=>hc.block g (A0c g2 hg) (fun hs=>?_)⟩
   ·rcases hS _ hs with hs | hs
    ·exact he hs
    ·obtain ⟨c',hh⟩:=A0f hf2 hs
     exact A0r g1 hh (by decide) rfl
   ·rcases hS _ hs with hs | hs
    ·obtain ⟨c',hh⟩:=A0f g2 hg
     exact A0r hh hf1 (by decide) hs
    ·exact he (h.inj f2 f g hf2' hf hg hs)
 ·have key:∀ f2 g,D.ids f2→f2≠f→(VB f2).ownBlock=some g→vb'.ownBlock=some g→False:=by
   intro f2 g h3 hne h4 h5
   rcases hv g h5 with h6 | h6
   ·exact hne (h.inj f2 f g h3 hf h4 h6)
   ·have:=A0c (h.fil f2 h3).2 h4;omega
  intro f1 f2 g k1 k2 e1 e2
  by_cases a1:f1=f <;> by_cases a2:f2=f
  ·rw [a1,a2]
  ·simp only [a1,if_true] at e1;simp only [a2,if_false] at e2
   exact (key f2 g k2 a2 e2 e1).elim
  ·simp only [a2,if_true] at e2;simp only [a1,if_false] at e1
   exact (key f1 g k1 a1 e1 e2).elim
  ·simp only [a1,if_false] at e1;simp only [a2,if_false] at e2
   exact h.inj f1 f2 g k1 k2 e1 e2
theorem A2M.fileUpd {b:Nat} {D:DS} {vd vs vc:Value} {vals:List Value} {VB:Nat→Value} {f:Nat} {vb':Value} {N:Nat} (hf:D.ids f) (hv:∀ g,vb'.ownBlock=some g→(VB f).ownBlock=some g∨N≤g) {k:Nat}
 (h:A2M b D vd vs vc vals (fun x=>if x=f then vb' else VB x) k):A2M b D vd vs vc vals VB k∨N≤k:=by
 cases h using A2M.elim with
 | blk=>exact .inl .blk
 | dir e=>exact .inl (.dir e)
 | safe e=>exact .inl (.safe e)
 | chg e=>exact .inl (.chg e)
 | che h e=>exact .inl (.che h e)
 | fil h=>exact .inl (.fil h)
 | byt h e=>
  rename_i f2
  by_cases he:f2=f
  ·simp only [he,if_true] at e
   rcases hv k e with h | h
   ·exact .inl (.byt hf h)
   ·exact .inr h
  ·simp only [he,if_false] at e
   exact .inl (.byt h e)
theorem A2j.at_ {w:World} {b:Nat} {D:DS} {F:Nat→FC} {vd vs vc:Value} {vals:List Value} {VB:Nat→Value} (h:A2j w b D F vd vs vc vals VB) (k:Nat) (hk:k<D.dir.length):
 ∃ g cap a' cap',vd=.slice (some ⟨g,0,none⟩) D.dir.length cap∧VB (D.dir[k]'hk).2=.slice a' (F (D.dir[k]'hk).2).1.length cap'∧D.dir.length≤cap∧cap≤maxLen∧(F (D.dir[k]'hk).2).1.length≤cap'∧cap'≤maxLen:=by
 obtain ⟨a,cap,hv,h1,h2,hc⟩:=h.dir.form
 obtain ⟨g,rfl,_,_⟩:=hc k hk
 obtain ⟨a',cap',h3,h4,h5⟩:=(h.dirAt k hk).2.form
 exact ⟨g,cap,a',cap',hv,h3,h1,h2,h4,h5⟩
structure AtK (w:World) (b:Nat) (g k f n cap l cap':Nat) (a':Option Addr) (name:ByteArray) (safe:Int):Prop where
 d:w.cell? ⟨b,0,none⟩=some (.slice (some ⟨g,0,none⟩) n cap)
 n:w.cell? ⟨g,k*2,none⟩=some (.string name)
 p:w.cell? ⟨g,k*2+1,none⟩=some (.pointer (some ⟨f,0,none⟩))
 f0:w.cell? ⟨f,0,none⟩=some (.slice a' l cap')
 f1:w.cell? ⟨f,1,none⟩=some (.int .i64 safe)
 fz:∀ o,w.frozen? ⟨f,o,none⟩=false
 gf:¬ g=f
 fg:¬ f=g
 gb:¬ g=b
 bg:¬ b=g
 fb:¬ f=b
 bf:¬ b=f
theorem A2j.atK {w:World} {b:Nat} {D:DS} {F:Nat→FC} {vd vs vc:Value} {vals:List Value} {VB:Nat→Value} (h:A2j w b D F vd vs vc vals VB) (k:Nat) (hk:k<D.dir.length) {g cap cap':Nat} {a':Option Addr}
 (h1:vd=.slice (some ⟨g,0,none⟩) D.dir.length cap) (h2:VB (D.dir[k]'hk).2=.slice a' (F (D.dir[k]'hk).2).1.length cap'):
 AtK w b g k (D.dir[k]'hk).2 D.dir.length cap (F (D.dir[k]'hk).2).1.length cap' a' (D.dir[k]'hk).1 (F (D.dir[k]'hk).2).2:=by
 subst h1
 obtain ⟨hf,hb⟩:=h.dirAt k hk
 rw [h2] at hf
 obtain ⟨c,hh⟩:=A0f h.dir (g:=g) rfl
 exact ⟨h.blk.c0,A0j h.dir rfl (A3C _ k hk),A0j h.dir rfl (A4c _ k hk),hf.c0,hf.c1,hf.fz,fun e=>A0r hh hf (by decide) e,fun e=>A0r hh hf (by decide) e.symm,
  fun e=>A0r hh h.blk (by decide) e,fun e=>A0r hh h.blk (by decide) e.symm,fun e=>A0r hf h.blk (by decide) e,fun e=>A0r hf h.blk (by decide) e.symm⟩
end Go.Proofs.YtodcnkbblippnaaGreatDoor
namespace Go.Proofs.YtodcnkbblippnaaGreatDoor
open Go.RowKit
attribute [local go_sem ↓] Go.wp_at_zero Go.wp_at_succ
def A1X (D:DS) (F:Nat→FC) (name:ByteArray):Int × DS × (Nat→FC):=match A0u D.dir name with
 | none=>(8,D,F)
 | some f=>((bg D.n).2.1,{ D with n:=(bg D.n).2.2 },if (bg D.n).2.1=0 then upd F f ((F f).1,(F f).1.length) else F)
set_option maxRecDepth 100000 in
set_option maxHeartbeats 1000000 in
theorem B3j (w:World) (b:Nat) (D:DS) (F:Nat→FC) (Ft:Nat→Prop) (h:Rep w b D F Ft) (name:ByteArray):
 Calls Tryz.prog 85 #[.pointer (some ⟨b,0,none⟩),.string name] w fun e w'=>e=.returned (.int .i64 (A1X D F name).1)∧A1O w Ft w' b (A1X D F name).2.1 (A1X D F name).2.2:=by
 obtain ⟨vd,vs,vc,vals,VB,hr,hft⟩:=h
 have c0:=hr.blk.c0
 have hd:=A0b hr.dir
 have hbk:=A0b hr.blk
 have HR:=A0b hr
 rcases A1M D.dir name with ⟨h1,h2⟩ | ⟨k,hk,h1,h2,h3⟩
 ·have q:Hid (A1X D F name=(8,D,F)):=by unfold Hid A1X;rw [h2]
  have hfi:A1x D.dir name<0:=by omega
  clear hr h1 h2
  go_enter Tryz.func85,Tryz.ntmps85
  go_wp2_with (go_at_call 77;refine (A0F _ _ _ _ hd.out).mono ?_;rintro e w' ⟨rfl,rfl⟩)
  go_ret
  rw [q.out]
  exact ⟨rfl,A1O.mk' (Chg.refl _ _) HR.out fun k hk=>.inl (hft k hk)⟩
 ·have q:Hid (A1X D F name=((bg D.n).2.1,{ D with n:=(bg D.n).2.2 },if (bg D.n).2.1=0 then upd F (D.dir[k]'hk).2 ((F (D.dir[k]'hk).2).1,(F (D.dir[k]'hk).2).1.length) else F)):=by unfold Hid A1X;rw [h2]
  have H1:=A0b h1
  clear hr h1 h2 h3
  by_cases hdo:(bg D.n).2.1=0
  ·have hdo':((bg D.n).2.1 == 0)=true:=by simpa using hdo
   have hdo2:Hid ((bg D.n).2.1=0):=hdo
   clear hdo
   have hk0:(0:Int)≤(k:Int):=Int.natCast_nonneg _
   have hk1:(k:Int)<(D.dir.length:Int):=by omega
   obtain ⟨g,cap,a',cap',rfl,hv,z1,z2,z3,z4⟩:=HR.out.at_ k hk
   have Hv:=A0b hv
   unfold maxLen at z2 z4
   clear hv
   obtain ⟨f,hf⟩:∃ f,(D.dir[k]'hk).2=f:=⟨_,rfl⟩
   have hids:Hid (D.ids f):=.inl ⟨_,List.getElem_mem hk,hf⟩
   have fin:Hid (∀ w1,A0H w1 b (.slice (some ⟨g,0,none⟩) D.dir.length cap) vs vc (bg D.n).2.2→Chg (One b) w w1→AtK w1 b g k f D.dir.length cap (F f).1.length cap' a' (D.dir[k]'hk).1 (F f).2∧
    A1O w Ft (w1.setCell ⟨f,1,none⟩ (.int .i64 (F f).1.length)).drew b { D with n:=(bg D.n).2.2 } (upd F f ((F f).1,(F f).1.length))):=by
    intro w1 hb1 hc1
    have r1:=HR.out.turn hb1 hc1
    subst hf
    refine ⟨r1.atK k hk rfl Hv.out,?_⟩
    obtain ⟨hf1,hf2⟩:=r1.dirAt k hk
    have r2:=r1.fileUpd (S:=One (D.dir[k]'hk).2) (w':=(w1.setCell ⟨(D.dir[k]'hk).2,1,none⟩ (.int .i64 (F (D.dir[k]'hk).2).1.length)).drew) (f:=(D.dir[k]'hk).2) hids.out (vb':=VB (D.dir[k]'hk).2) (bs':=(F (D.dir[k]'hk).2).1) (s':=(F (D.dir[k]'hk).2).1.length)
     (hf1.s1 _) (by
      refine ownsRow_setCell_other hf2 (a:=⟨(D.dir[k]'hk).2,1,none⟩) ?_ _
      intro e;obtain ⟨c,hh⟩:=A0f hf2 e
      exact A0r hh hf1 (by decide) rfl) (((Chg.refl (One _) w1).setAt rfl 1 _).drew) (fun k hk=>.inl hk) (fun g hg=>.inl hg)
    refine A1O.mk' ?_ r2 ?_
    ·exact ((hc1.mono (S':=Ft) fun k _ hk=>by cases hk;exact hft b .blk).setAt (hft _ (.fil hids.out)) 1 _).drew
    ·intro x hx
     rcases A2M.fileUpd (N:=w.heap.size) (vb':=VB (D.dir[k]'hk).2) (f:=(D.dir[k]'hk).2) hids.out (fun g hg=>.inl hg) hx.n with h | h
     ·exact .inl (hft x h)
     ·exact .inr h
   rw [hf] at q
   have Hf:=A0b hf
   clear hf Hv
   go_enter Tryz.func85,Tryz.ntmps85
   go_wp2_with (first
    | (go_at_call 77;refine (A0F _ _ _ _ hd.out).mono ?_;rintro e w' ⟨rfl,rfl⟩;rw [H1.out])
    | (go_at_call 121;refine (A1e _ _ _ _ _ _ hbk.out).mono ?_;rintro e w1 ⟨rfl,hb1,hc1⟩))
   obtain ⟨hat,haf⟩:=fin.out w1 hb1 hc1
   have HA:=A0b haf
   have x1:=hat.d
   have x2:=hat.p
   have x3:=hat.f0
   have x4:=hat.f1
   have x5:=hat.fz
   have x6:=hat.gf
   have x7:=hat.fg
   clear haf hat
   go_region_held3 (fun w'=>w'.cell? ⟨b,0,none⟩=some (.slice (some ⟨g,0,none⟩) D.dir.length cap)∧w'.cell? ⟨g,k*2+1,none⟩=some (.pointer (some ⟨f,0,none⟩))∧w'.cell? ⟨f,0,none⟩=some (.slice a' (F f).1.length cap')) (refine ⟨?_,?_,?_⟩ <;> go_simp) (fail)
   go_wp2
   go_ret
   rw [q.out,if_pos hdo2.out]
   exact ⟨rfl,HA.out⟩
  ·have hdo':((bg D.n).2.1 == 0)=false:=by simpa using hdo
   have hdo2:Hid ((bg D.n).2.1≠0):=hdo
   clear hdo
   go_enter Tryz.func85,Tryz.ntmps85
   go_wp2_with (first
    | (go_at_call 77;refine (A0F _ _ _ _ hd.out).mono ?_;rintro e w' ⟨rfl,rfl⟩;rw [H1.out])
    | (go_at_call 121;refine (A1e _ _ _ _ _ _ hbk.out).mono ?_;rintro e w1 ⟨rfl,hb1,hc1⟩))
   go_ret
   rw [q.out,if_neg hdo2.out]
   exact ⟨rfl,HR.out.afterN hft hb1 hc1⟩
end Go.Proofs.YtodcnkbblippnaaGreatDoor
namespace Go.Proofs.YtodcnkbblippnaaGreatDoor
open Go.RowKit
attribute [local go_sem ↓] Go.wp_at_zero Go.wp_at_succ
theorem A2j.drew {w:World} {b:Nat} {D:DS} {F:Nat→FC} {vd vs vc:Value} {vals:List Value} {VB:Nat→Value} (h:A2j w b D F vd vs vc vals VB):A2j w.drew b D F vd vs vc vals VB:=
 ⟨h.blk,h.dir,h.safe,h.chg,h.che,h.fil,h.inj⟩
theorem Rep.drew {w:World} {b:Nat} {D:DS} {F:Nat→FC} {Ft:Nat→Prop} (h:Rep w b D F Ft):Rep w.drew b D F Ft:=by
 obtain ⟨vd,vs,vc,vals,VB,hr,hf⟩:=h
 exact ⟨vd,vs,vc,vals,VB,hr.drew,hf⟩
theorem A6A (s:ByteArray):byteCells s=A0K s.data.toList:=rfl
theorem A2C (s:ByteArray) (m:Nat):(s.extract 0 m).data.toList=s.data.toList.take m:=by
 simp [ByteArray.data_extract]
def A5O (D:DS) (F:Nat→FC):Int:=max (D.n.room - A0J F D.dir) 0
def A3d (D:DS) (F:Nat→FC) (f:Nat) (data:ByteArray) (n0:Int) (e:Int):Int × DS × (Nat→FC):=
 if n0>A5O D F then
  (if e=0 then 6 else e,if e=0 then { D with n:={ D.n with refused:=wrap64 (D.n.refused+1),fulls:=wrap64 (D.n.fulls+1) } } else D,upd F f ((F f).1 ++ data.data.toList.take (A5O D F).toNat,(F f).2))
 else (e,D,upd F f ((F f).1 ++ data.data.toList.take n0.toNat,(F f).2))
def A0q (D:DS) (F:Nat→FC) (name data:ByteArray):Int × DS × (Nat→FC):=match A0u D.dir name with
 | none=>(8,D,F)
 | some f=>
  let r:=bg D.n
  let D1:={ D with n:=r.2.2 }
  if r.1 then A3d D1 F f data data.size r.2.1
  else if r.2.2.dead=false∧0<data.size then A3d D1 F f data (r.2.2.part % data.size) r.2.1
  else (r.2.1,D1,F)
theorem B0w {w w2 W w3:World} {b:Nat} {D:DS} {F:Nat→FC} {vd vs vc v3:Value} {vals:List Value} {VB:Nat→Value} {Ft:Nat→Prop} {f:Nat} {n2:DN} {news:List UInt8}
 (hc:Chg Ft w w2) (h2:A2j w2 b D F vd vs vc vals VB) (hft:∀ k,A2M b D vd vs vc vals VB k→Ft k) (hf:D.ids f) (hW:A0H W b vd vs vc n2) (hcW:Chg (One b) w2 W)
 (hA:App W w3 5 1 (VB f) v3 ((F f).1.length+news.length) (A0K (F f).1 ++ A0K news)):
 A2Z w3 f (VB f) (F f).2∧A1O w Ft (w3.setCell ⟨f,0,none⟩ v3) b { D with n:=n2 } (upd F f ((F f).1 ++ news,(F f).2)):=by
 have rW:=h2.turn hW hcW
 obtain ⟨hf1,hf2⟩:=rW.fil f hf
 have hf3:A2Z w3 f (VB f) (F f).2:=hf1.same (hA.grown.block f (lt_of_block hf1) (fun e=>by
  obtain ⟨c,hh⟩:=A0f hf2 e.symm
  exact A0r hh hf1 (by decide) rfl))
 refine ⟨hf3,?_⟩
 have hbs:BSl w3 v3 ((F f).1 ++ news):=by
  have:=hA.own
  unfold BSl
  rw [A6b,List.length_append];exact this
 have hbs2:BSl (w3.setCell ⟨f,0,none⟩ v3) v3 ((F f).1 ++ news):=by
  refine ownsRow_setCell_other hbs (a:=⟨f,0,none⟩) ?_ _
  intro e;obtain ⟨c,hh⟩:=A0f hbs e
  exact A0r hh hf3 (by decide) rfl
 have hc3:Chg (fun k=>k=f∨(VB f).ownBlock=some k) W (w3.setCell ⟨f,0,none⟩ v3):=(hA.chg (S:=fun k=>k=f∨(VB f).ownBlock=some k) (fun k hk=>.inr hk)).setAt (.inl rfl) 0 v3
 have hv:∀ g,v3.ownBlock=some g→(VB f).ownBlock=some g∨W.heap.size≤g:=by
  intro g hg
  rcases hA.at_ with h | h
  ·exact .inl (h.symm.trans hg)
  ·rw [hg] at h;cases h;exact .inr (Nat.le_refl _)
 have r3:=rW.fileUpd hf (hf3.s0 v3) hbs2 hc3 (fun k hk=>hk) hv
 have s1:=hc.size
 have s2:=hcW.size
 refine A1O.mk' ?_ r3 ?_
 ·refine (hc.trans hcW (S':=One b) fun x hx _=>by cases hx;exact hft b .blk).trans hc3 ?_
  rintro x (rfl | hx) _
  ·exact hft _ (.fil hf)
  ·exact hft _ (.byt hf hx)
 ·intro x hx
  rcases A2M.fileUpd (N:=w.heap.size) (vb':=v3) (f:=f) hf (fun g hg=>(hv g hg).imp id fun h=>by omega) hx.n with h | h
  ·exact .inl (hft x h)
  ·exact .inr h
set_option maxRecDepth 100000 in
set_option maxHeartbeats 2000000 in
theorem B1e (w:World) (b:Nat) (D:DS) (F:Nat→FC) (Ft:Nat→Prop) (h:Rep w b D F Ft) (name data:ByteArray) (hroom : -4611686018427387904≤D.n.room∧D.n.room≤9223372036854775807)
 (hu:A0J F D.dir≤4611686018427387904) (hp:0≤D.n.part∧D.n.part≤9223372036854775807) (hl:∀ f,A0u D.dir name=some f→(F f).1.length+data.size≤70368744177664):
 Calls Tryz.prog 84 #[.pointer (some ⟨b,0,none⟩),.string name,.string data] w fun e w'=>e=.returned (.int .i64 (A0q D F name data).1)∧A1O w Ft w' b (A0q D F name data).2.1 (A0q D F name data).2.2:=by
 obtain ⟨vd,vs,vc,vals,VB,hr,hft⟩:=h
 have c0:=hr.blk.c0
 have hd:=A0b hr.dir
 have hbk:=A0b hr.blk
 have HR:=A0b hr
 rcases A1M D.dir name with ⟨h1,h2⟩ | ⟨k,hk,h1,h2,h3⟩
 ·have q:Hid (A0q D F name data=(8,D,F)):=by unfold Hid A0q;rw [h2]
  have hfi:A1x D.dir name<0:=by omega
  clear hr h1 h2 hl
  go_enter Tryz.func84,Tryz.ntmps84
  go_wp2_with (go_at_call 77;refine (A0F _ _ _ _ hd.out).mono ?_;rintro e w' ⟨rfl,rfl⟩)
  go_ret
  rw [q.out]
  exact ⟨rfl,A1O.mk' (Chg.refl _ _) HR.out fun k hk=>.inl (hft k hk)⟩
 ·obtain ⟨g,cap,a',cap',rfl,hv,z1,z2,z3,z4⟩:=hr.at_ k hk
  obtain ⟨f,hf⟩:∃ f,(D.dir[k]'hk).2=f:=⟨_,rfl⟩
  rw [hf] at hv h2 z3
  have hl1:=hl f h2
  have Hv:=A0b hv
  unfold maxLen at z2 z4
  have hids:Hid (D.ids f):=.inl ⟨_,List.getElem_mem hk,hf⟩
  have H1:=A0b h1
  have H2:=A0b h2
  have Hu:=A0b hu
  have HFT:=A0b hft
  obtain ⟨i0,hi,hz0,hz1,hz2⟩:=info_parts Tryz.infoByte
  have hk0:(0:Int)≤(k:Int):=Int.natCast_nonneg _
  have hk1:(k:Int)<(D.dir.length:Int):=by omega
  have A1:Hid (∀ w1,A0H w1 b (.slice (some ⟨g,0,none⟩) D.dir.length cap) vs vc (bg D.n).2.2→Chg (One b) w w1→
   A2j w1 b { D with n:=(bg D.n).2.2 } F (.slice (some ⟨g,0,none⟩) D.dir.length cap) vs vc vals VB∧Rep w1 b { D with n:=(bg D.n).2.2 } F Ft):=by
   intro w1 hb1 hc1
   have r1:=hr.turn hb1 hc1
   exact ⟨r1,_,_,_,_,_,r1,fun k hk=>hft k hk.n⟩
  have A2:Hid (∀ w1 w2,A0H w1 b (.slice (some ⟨g,0,none⟩) D.dir.length cap) vs vc (bg D.n).2.2→Chg (One b) w w1→Chg (fun _=>False) w1.drew w2→
   A2j w2 b { D with n:=(bg D.n).2.2 } F (.slice (some ⟨g,0,none⟩) D.dir.length cap) vs vc vals VB∧Chg Ft w w2∧AtK w2 b g k f D.dir.length cap (F f).1.length cap' a' (D.dir[k]'hk).1 (F f).2∧A0H w2 b (.slice (some ⟨g,0,none⟩) D.dir.length cap) vs vc (bg D.n).2.2):=by
   intro w1 w2 hb1 hc1 hc2
   have r1:=(hr.turn hb1 hc1).drew
   have r2:A2j w2 b { D with n:=(bg D.n).2.2 } F (.slice (some ⟨g,0,none⟩) D.dir.length cap) vs vc vals VB:=r1.frame fun x hx=>hc2.block x (r1.lt hx) (fun h=>h)
   refine ⟨r2,?_,?_,r2.blk⟩
   ·exact ((hc1.mono (S':=Ft) fun k _ hk=>by cases hk;exact hft b .blk).drew).trans hc2 (fun x hx=>hx.elim)
   ·subst hf;exact r2.atK k hk rfl Hv.out
  have hbgr:Hid (-4611686018427387904≤(bg D.n).2.2.room∧(bg D.n).2.2.room≤9223372036854775807∧0≤(bg D.n).2.2.part∧(bg D.n).2.2.part≤9223372036854775807):=by
   unfold Hid bg;dsimp only;split
   ·exact ⟨hroom.1,hroom.2,hp.1,hp.2⟩
   ·split
    ·exact ⟨hroom.1,hroom.2,hp.1,hp.2⟩
    ·split <;> exact ⟨hroom.1,hroom.2,hp.1,hp.2⟩
  have q:Hid (A0q D F name data=(let r:=bg D.n
   let D1:={ D with n:=r.2.2 }
   if r.1 then A3d D1 F f data data.size r.2.1
   else if r.2.2.dead=false∧0<data.size then A3d D1 F f data (r.2.2.part % data.size) r.2.1
   else (r.2.1,D1,F))):=by unfold Hid A0q;rw [h2]
  clear hr h1 h2 h3 hl hu hf hv hroom hp
  obtain ⟨n1,hn1⟩:∃ n1,(bg D.n).2.2=n1:=⟨_,rfl⟩
  obtain ⟨e1,he1⟩:∃ e1,(bg D.n).2.1=e1:=⟨_,rfl⟩
  obtain ⟨d1,hd1⟩:∃ d1,(bg D.n).1=d1:=⟨_,rfl⟩
  have hbg:Hid (bg D.n=(d1,e1,n1)):=by unfold Hid;rw [← hn1,← he1,← hd1]
  rw [hn1] at A1 A2 hbgr
  clear hn1 he1 hd1
  have B1:Hid (∀ (W:World),A0H W b (.slice (some ⟨g,0,none⟩) D.dir.length cap) vs vc D.n→Calls Tryz.prog 121 #[.pointer (some ⟨b,0,none⟩)] W fun e w'=>e=.returned (.tuple #[.bool d1,.int .i64 e1])∧A0H w' b (.slice (some ⟨g,0,none⟩) D.dir.length cap) vs vc n1∧Chg (One b) W w'):=by
   intro W hW
   have:=A1e W b _ _ _ _ hW
   rw [hbg.out] at this;exact this
  rw [hbg.out] at q
  obtain ⟨r1,r2,r3,r4⟩:=hbgr.out
  have hun:(0:Int)≤A0J F D.dir:=Int.natCast_nonneg _
  have hul:(A0J F D.dir:Int)≤4611686018427387904:=by have:=Hu.out;omega
  have hw:IntKind.i64.wrap (n1.room - (A0J F D.dir:Int))=n1.room - (A0J F D.dir:Int):=by simp only [IntKind.wrap_i64];omega
  obtain ⟨L,hL⟩:∃ L,(if n1.room - (A0J F D.dir:Int)<0 then 0 else n1.room - (A0J F D.dir:Int))=L:=⟨_,rfl⟩
  have hL0:0≤L:=by rw [← hL];split <;> omega
  have hLm:L≤9223372036854775807:=by rw [← hL];split <;> omega
  have hLd:Hid (A5O { D with n:=n1 } F=L):=by unfold Hid A5O;show max (n1.room - (A0J F D.dir:Int)) 0=L;rw [← hL];split <;> omega
  have A3:Hid (∀ (w2 W:World) (n2:DN),A2j w2 b { D with n:=n1 } F (.slice (some ⟨g,0,none⟩) D.dir.length cap) vs vc vals VB→A0H W b (.slice (some ⟨g,0,none⟩) D.dir.length cap) vs vc n2→Chg (One b) w2 W→W.ownsRow 0 5 1 (.slice a' (F f).1.length cap') (F f).1.length (A0K (F f).1)):=by
   intro w2 W n2 h2 hW hc
   have:=((h2.turn hW hc).fil f hids.out).2
   rw [Hv.out] at this;exact this
  have A4:Hid (∀ (w2 W w3:World) (n2:DN) (s:ByteArray) (b3:Option Addr) (cap3:Nat),A2j w2 b { D with n:=n1 } F (.slice (some ⟨g,0,none⟩) D.dir.length cap) vs vc vals VB→Chg Ft w w2→A0H W b (.slice (some ⟨g,0,none⟩) D.dir.length cap) vs vc n2→Chg (One b) w2 W→
   App W w3 5 1 (.slice a' (F f).1.length cap') (.slice b3 ((F f).1.length+s.size) cap3) ((F f).1.length+s.size) (A0K (F f).1 ++ byteCells s)→
   A2Z w3 f (.slice a' (F f).1.length cap') (F f).2∧A1O w Ft (w3.setCell ⟨f,0,none⟩ (.slice b3 ((F f).1.length+s.size) cap3)) b { D with n:=n2 } (upd F f ((F f).1 ++ s.data.toList,(F f).2))):=by
   intro w2 W w3 n2 s b3 cap3 h2 hc hW hcW hA
   have:=B0w (n2:=n2) (f:=f) (v3:=.slice b3 ((F f).1.length+s.size) cap3) (news:=s.data.toList) hc h2 (fun k hk=>HFT.out k hk.n) hids.out hW hcW (by rw [Hv.out];simpa [A6A] using hA)
   rw [Hv.out] at this;exact this
  obtain ⟨l,rfl⟩:=Int.eq_ofNat_of_zero_le hL0
  have BE:(if e1=0 then True else True):=by split <;> trivial
  clear BE
  cases d1 with
  | true=>
   by_cases hgt:(l:Int)<(data.size:Int)
   ·by_cases he:e1=0
    ·have he':(e1 == 0)=true:=by simpa using he
     have he0:=A0b he
     clear he
     have hln:l≤data.size:=by omega
     have hes:(data.extract 0 l).size=l:=by simp;omega
     go_enter Tryz.func84,Tryz.ntmps84
     go_wp2_with (first
      | (go_at_call 77;refine (A0F _ _ _ _ hd.out).mono ?_;rintro e w' ⟨rfl,rfl⟩;rw [H1.out])
      | (go_at_call 121;refine (B1.out _ hbk.out).mono ?_;rintro e w1 ⟨rfl,hb1,hc1⟩))
     obtain ⟨R1,P1⟩:=A1.out w1 hb1 hc1
     have hP1:=A0b P1
     have c31:=hb1.c3
     clear R1 P1
     go_region_held3 (fun w'=>w'.cell? ⟨b,3,none⟩=some (.int .i64 n1.room)) (first | exact (A0H.chg (w:=w1.drew) hb1 hc2 (fun h=>h)).c3 | go_simp) ((go_at_call 90;refine (A3S _ b _ F Ft hP1.out.drew Hu.out).mono ?_;rintro e w2 ⟨rfl,hc2⟩))
     obtain ⟨R2,C2,K2,B2⟩:=A2.out w1 w2 hb1 hc1 hc2
     have hR2:=A0b R2
     have hC2:=A0b C2
     have hB2:=A0b B2
     have x1:=K2.d
     have x2:=K2.p
     have x3:=K2.f0
     have x4:=K2.fz
     have x5:=K2.gf
     have x6:=K2.fg
     have x7:=K2.bg
     have x8:=K2.gb
     have x9:=K2.bf
     have x10:=K2.fb
     have y8:=B2.c8
     have y9:=B2.c9
     have yz:=B2.fz
     clear R2 C2 B2 K2 c31 hc2
     go_wp2
     have hown:=A0b (A3.out w2 ((w2.setCell ⟨b,8,none⟩ (.int .i64 (wrap64 (n1.refused+1)))).setCell ⟨b,9,none⟩ (.int .i64 (wrap64 (n1.fulls+1)))).drew { n1 with refused:=wrap64 (n1.refused+1),fulls:=wrap64 (n1.fulls+1) } hR2.out ((hB2.out.s8 _).s9 _) ((((Chg.refl (One b) w2).setAt rfl 8 _).setAt rfl 9 _).drew))
     have hbb:((F f).1.length+(data.extract 0 l).size)*1≤140737488355328:=by rw [hes];omega
     go_region_law
      ((refine A3L ?_ (.tmp 90) (.tmp 93) 127 9 ?_ 5 i0 _ 1 1 Tryz.underlying127 hi hz0 hz1 hz2 rfl Nat.zero_lt_one (.slice a' (F f).1.length cap') (F f).1.length (A0K (F f).1) ?_ hown.out (.string (data.extract 0 l)) (data.extract 0 l).size (byteCells (data.extract 0 l)) ?_ (Src.ofString _ Tryz.underlying9 (data.extract 0 l)) hbb ?_;(· rfl);(· rfl);(· rfl);(· rfl);intro b3 cap3 w3 hA;have hfin:=A0b (A4.out w2 ((w2.setCell ⟨b,8,none⟩ (.int .i64 (wrap64 (n1.refused+1)))).setCell ⟨b,9,none⟩ (.int .i64 (wrap64 (n1.fulls+1)))).drew w3 { n1 with refused:=wrap64 (n1.refused+1),fulls:=wrap64 (n1.fulls+1) } (data.extract 0 l) b3 cap3 hR2.out hC2.out ((hB2.out.s8 _).s9 _) ((((Chg.refl (One b) w2).setAt rfl 8 _).setAt rfl 9 _).drew) hA);have hz3:=hfin.out.1.fz;have hc3:=hfin.out.1.c0))
     go_wp2
     go_ret
     have q1:A0q D F name data=A3d { D with n:=n1 } F f data (data.size:Int) e1:=q.out
     have q2:A3d { D with n:=n1 } F f data (data.size:Int) e1=(6,{ D with n:={ n1 with refused:=wrap64 (n1.refused+1),fulls:=wrap64 (n1.fulls+1) } },upd F f ((F f).1 ++ data.data.toList.take l,(F f).2)):=by
      unfold A3d;rw [hLd.out,if_pos hgt,if_pos he0.out,if_pos he0.out,Int.toNat_natCast]
     have hfin2:=hfin.out.2
     rw [A2C,hes] at hfin2
     rw [q1,q2]
     exact ⟨rfl,hfin2⟩
    ·have he':(e1 == 0)=false:=by simpa using he
     have he0:=A0b he
     clear he
     have hln:l≤data.size:=by omega
     have hes:(data.extract 0 l).size=l:=by simp;omega
     go_enter Tryz.func84,Tryz.ntmps84
     go_wp2_with (first
      | (go_at_call 77;refine (A0F _ _ _ _ hd.out).mono ?_;rintro e w' ⟨rfl,rfl⟩;rw [H1.out])
      | (go_at_call 121;refine (B1.out _ hbk.out).mono ?_;rintro e w1 ⟨rfl,hb1,hc1⟩))
     obtain ⟨R1,P1⟩:=A1.out w1 hb1 hc1
     have hP1:=A0b P1
     have c31:=hb1.c3
     clear R1 P1
     go_region_held3 (fun w'=>w'.cell? ⟨b,3,none⟩=some (.int .i64 n1.room)) (first | exact (A0H.chg (w:=w1.drew) hb1 hc2 (fun h=>h)).c3 | go_simp) ((go_at_call 90;refine (A3S _ b _ F Ft hP1.out.drew Hu.out).mono ?_;rintro e w2 ⟨rfl,hc2⟩))
     obtain ⟨R2,C2,K2,B2⟩:=A2.out w1 w2 hb1 hc1 hc2
     have hR2:=A0b R2
     have hC2:=A0b C2
     have hB2:=A0b B2
     have x1:=K2.d
     have x2:=K2.p
     have x3:=K2.f0
     have x4:=K2.fz
     have x5:=K2.gf
     have x6:=K2.fg
     have x7:=K2.bg
     have x8:=K2.gb
     have x9:=K2.bf
     have x10:=K2.fb
     clear R2 C2 B2 K2 c31 hc2
     go_wp2
     have hown:=A0b (A3.out w2 w2.drew n1 hR2.out hB2.out ((Chg.refl (One b) w2).drew))
     have hbb:((F f).1.length+(data.extract 0 l).size)*1≤140737488355328:=by rw [hes];omega
     go_region_law
      ((refine A3L ?_ (.tmp 90) (.tmp 93) 127 9 ?_ 5 i0 _ 1 1 Tryz.underlying127 hi hz0 hz1 hz2 rfl Nat.zero_lt_one (.slice a' (F f).1.length cap') (F f).1.length (A0K (F f).1) ?_ hown.out (.string (data.extract 0 l)) (data.extract 0 l).size (byteCells (data.extract 0 l)) ?_ (Src.ofString _ Tryz.underlying9 (data.extract 0 l)) hbb ?_;(· rfl);(· rfl);(· rfl);(· rfl);intro b3 cap3 w3 hA;have hfin:=A0b (A4.out w2 w2.drew w3 n1 (data.extract 0 l) b3 cap3 hR2.out hC2.out hB2.out ((Chg.refl (One b) w2).drew) hA);have hz3:=hfin.out.1.fz;have hc3:=hfin.out.1.c0))
     go_wp2
     go_ret
     have q1:A0q D F name data=A3d { D with n:=n1 } F f data (data.size:Int) e1:=q.out
     have q2:A3d { D with n:=n1 } F f data (data.size:Int) e1=(e1,{ D with n:=n1 },upd F f ((F f).1 ++ data.data.toList.take l,(F f).2)):=by
      unfold A3d;rw [hLd.out,if_pos hgt,if_neg he0.out,if_neg he0.out,Int.toNat_natCast]
     have hfin2:=hfin.out.2
     rw [A2C,hes] at hfin2
     rw [q1,q2]
     exact ⟨rfl,hfin2⟩
   ·have hgt':(data.size:Int)≤l:=by omega
    clear hgt
    go_enter Tryz.func84,Tryz.ntmps84
    go_wp2_with (first
     | (go_at_call 77;refine (A0F _ _ _ _ hd.out).mono ?_;rintro e w' ⟨rfl,rfl⟩;rw [H1.out])
     | (go_at_call 121;refine (B1.out _ hbk.out).mono ?_;rintro e w1 ⟨rfl,hb1,hc1⟩))
    obtain ⟨R1,P1⟩:=A1.out w1 hb1 hc1
    have hP1:=A0b P1
    have c31:=hb1.c3
    clear R1 P1
    go_region_held3 (fun w'=>w'.cell? ⟨b,3,none⟩=some (.int .i64 n1.room)) (first | exact (A0H.chg (w:=w1.drew) hb1 hc2 (fun h=>h)).c3 | go_simp) ((go_at_call 90;refine (A3S _ b _ F Ft hP1.out.drew Hu.out).mono ?_;rintro e w2 ⟨rfl,hc2⟩))
    obtain ⟨R2,C2,K2,B2⟩:=A2.out w1 w2 hb1 hc1 hc2
    have hR2:=A0b R2
    have hC2:=A0b C2
    have hB2:=A0b B2
    have x1:=K2.d
    have x2:=K2.p
    have x3:=K2.f0
    have x4:=K2.fz
    have x5:=K2.gf
    have x6:=K2.fg
    have x7:=K2.bg
    have x8:=K2.gb
    have x9:=K2.bf
    have x10:=K2.fb
    clear R2 C2 B2 K2 c31 hc2
    go_wp2
    have hown:=A0b (A3.out w2 w2.drew n1 hR2.out hB2.out ((Chg.refl (One b) w2).drew))
    have hbb:((F f).1.length+data.size)*1≤140737488355328:=by omega
    go_region_law
     ((refine A3L ?_ (.tmp 90) (.tmp 93) 127 9 ?_ 5 i0 _ 1 1 Tryz.underlying127 hi hz0 hz1 hz2 rfl Nat.zero_lt_one (.slice a' (F f).1.length cap') (F f).1.length (A0K (F f).1) ?_ hown.out (.string data) data.size (byteCells data) ?_ (Src.ofString _ Tryz.underlying9 data) hbb ?_;(· rfl);(· rfl);(· rfl);(· rfl);intro b3 cap3 w3 hA;have hfin:=A0b (A4.out w2 w2.drew w3 n1 data b3 cap3 hR2.out hC2.out hB2.out ((Chg.refl (One b) w2).drew) hA);have hz3:=hfin.out.1.fz;have hc3:=hfin.out.1.c0))
    go_wp2
    go_ret
    have q1:A0q D F name data=A3d { D with n:=n1 } F f data (data.size:Int) e1:=q.out
    have q2:A3d { D with n:=n1 } F f data (data.size:Int) e1=(e1,{ D with n:=n1 },upd F f ((F f).1 ++ data.data.toList,(F f).2)):=by
     unfold A3d;rw [hLd.out,if_neg (by omega),Int.toNat_natCast,List.take_of_length_le (by show data.data.toList.length≤data.data.size;rw [Array.length_toList];exact Nat.le_refl _)]
    have hfin2:=hfin.out.2
    rw [q1,q2]
    exact ⟨rfl,hfin2⟩
  | false=>
   have e15:Hid (e1=5∧n1.dead=n1.dead):=by
    have:=hbg.out
    unfold Hid;unfold bg at this;dsimp only at this
    split at this
    ·cases this;exact ⟨rfl,rfl⟩
    ·split at this
     ·cases this
     ·split at this
      ·cases this;exact ⟨rfl,rfl⟩
      ·cases this
   by_cases hC:n1.dead=false∧0<data.size
   ·obtain ⟨hdd,hsz⟩:=hC
    have hsz':(0:Int)<(data.size:Int):=by omega
    obtain ⟨m,hm⟩:=Int.eq_ofNat_of_zero_le (Int.emod_nonneg n1.part (b:=(data.size:Int)) (by omega))
    have hml:(m:Int)<(data.size:Int):=by rw [← hm];exact Int.emod_lt_of_pos _ hsz'
    have qC:Hid (A0q D F name data=A3d { D with n:=n1 } F f data (m:Int) e1):=by
     have:=q.out
     rw [← hm];unfold Hid;rw [this];simp only [Bool.false_eq_true,if_false,hdd,hsz,and_self,if_true]
    clear q
    have he0:Hid (¬ e1=0):=by have:=e15.out.1;unfold Hid;omega
    have he':(e1 == 0)=false:=by have:=e15.out.1;simp [this]
    clear e15
    by_cases hgt:(l:Int)<(m:Int)
    ·have hln:l≤data.size:=by omega
     have hes:(data.extract 0 l).size=l:=by simp;omega
     go_enter Tryz.func84,Tryz.ntmps84
     go_wp2_with (first
      | (go_at_call 77;refine (A0F _ _ _ _ hd.out).mono ?_;rintro e w' ⟨rfl,rfl⟩;rw [H1.out])
      | (go_at_call 121;refine (B1.out _ hbk.out).mono ?_;rintro e w1 ⟨rfl,hb1,hc1⟩;have c71:=hb1.c7;have ca1:=hb1.c10))
     obtain ⟨R1,P1⟩:=A1.out w1 hb1 hc1
     have hP1:=A0b P1
     have c31:=hb1.c3
     clear R1 P1
     go_region_held3 (fun w'=>w'.cell? ⟨b,3,none⟩=some (.int .i64 n1.room)) (first | exact (A0H.chg (w:=w1.drew) hb1 hc2 (fun h=>h)).c3 | go_simp) ((go_at_call 90;refine (A3S _ b _ F Ft hP1.out.drew Hu.out).mono ?_;rintro e w2 ⟨rfl,hc2⟩))
     obtain ⟨R2,C2,K2,B2⟩:=A2.out w1 w2 hb1 hc1 hc2
     have hR2:=A0b R2
     have hC2:=A0b C2
     have hB2:=A0b B2
     have x1:=K2.d
     have x2:=K2.p
     have x3:=K2.f0
     have x4:=K2.fz
     have x5:=K2.gf
     have x6:=K2.fg
     have x7:=K2.bg
     have x8:=K2.gb
     have x9:=K2.bf
     have x10:=K2.fb
     clear R2 C2 B2 K2 c31 hc2
     go_wp2
     have hown:=A0b (A3.out w2 w2.drew n1 hR2.out hB2.out ((Chg.refl (One b) w2).drew))
     have hbb:((F f).1.length+(data.extract 0 l).size)*1≤140737488355328:=by rw [hes];omega
     go_region_law
      ((refine A3L ?_ (.tmp 90) (.tmp 93) 127 9 ?_ 5 i0 _ 1 1 Tryz.underlying127 hi hz0 hz1 hz2 rfl Nat.zero_lt_one (.slice a' (F f).1.length cap') (F f).1.length (A0K (F f).1) ?_ hown.out (.string (data.extract 0 l)) (data.extract 0 l).size (byteCells (data.extract 0 l)) ?_ (Src.ofString _ Tryz.underlying9 (data.extract 0 l)) hbb ?_;(· rfl);(· rfl);(· rfl);(· rfl);intro b3 cap3 w3 hA;have hfin:=A0b (A4.out w2 w2.drew w3 n1 (data.extract 0 l) b3 cap3 hR2.out hC2.out hB2.out ((Chg.refl (One b) w2).drew) hA);have hz3:=hfin.out.1.fz;have hc3:=hfin.out.1.c0))
     go_wp2
     go_ret
     have q1:A0q D F name data=A3d { D with n:=n1 } F f data (m:Int) e1:=qC.out
     have q2:A3d { D with n:=n1 } F f data (m:Int) e1=(e1,{ D with n:=n1 },upd F f ((F f).1 ++ data.data.toList.take l,(F f).2)):=by
      unfold A3d;rw [hLd.out,if_pos hgt,if_neg he0.out,if_neg he0.out,Int.toNat_natCast]
     have hfin2:=hfin.out.2
     rw [A2C,hes] at hfin2
     rw [q1,q2]
     exact ⟨rfl,hfin2⟩
    ·have hgt':(m:Int)≤l:=by omega
     clear hgt
     have hln:m≤data.size:=by omega
     have hes:(data.extract 0 m).size=m:=by simp;omega
     go_enter Tryz.func84,Tryz.ntmps84
     go_wp2_with (first
      | (go_at_call 77;refine (A0F _ _ _ _ hd.out).mono ?_;rintro e w' ⟨rfl,rfl⟩;rw [H1.out])
      | (go_at_call 121;refine (B1.out _ hbk.out).mono ?_;rintro e w1 ⟨rfl,hb1,hc1⟩;have c71:=hb1.c7;have ca1:=hb1.c10))
     obtain ⟨R1,P1⟩:=A1.out w1 hb1 hc1
     have hP1:=A0b P1
     have c31:=hb1.c3
     clear R1 P1
     go_region_held3 (fun w'=>w'.cell? ⟨b,3,none⟩=some (.int .i64 n1.room)) (first | exact (A0H.chg (w:=w1.drew) hb1 hc2 (fun h=>h)).c3 | go_simp) ((go_at_call 90;refine (A3S _ b _ F Ft hP1.out.drew Hu.out).mono ?_;rintro e w2 ⟨rfl,hc2⟩))
     obtain ⟨R2,C2,K2,B2⟩:=A2.out w1 w2 hb1 hc1 hc2
     have hR2:=A0b R2
     have hC2:=A0b C2
     have hB2:=A0b B2
     have x1:=K2.d
     have x2:=K2.p
     have x3:=K2.f0
     have x4:=K2.fz
     have x5:=K2.gf
     have x6:=K2.fg
     have x7:=K2.bg
     have x8:=K2.gb
     have x9:=K2.bf
     have x10:=K2.fb
     clear R2 C2 B2 K2 c31 hc2
     go_wp2
     have hown:=A0b (A3.out w2 w2.drew n1 hR2.out hB2.out ((Chg.refl (One b) w2).drew))
     have hbb:((F f).1.length+(data.extract 0 m).size)*1≤140737488355328:=by rw [hes];omega
     go_region_law
      ((refine A3L ?_ (.tmp 90) (.tmp 93) 127 9 ?_ 5 i0 _ 1 1 Tryz.underlying127 hi hz0 hz1 hz2 rfl Nat.zero_lt_one (.slice a' (F f).1.length cap') (F f).1.length (A0K (F f).1) ?_ hown.out (.string (data.extract 0 m)) (data.extract 0 m).size (byteCells (data.extract 0 m)) ?_ (Src.ofString _ Tryz.underlying9 (data.extract 0 m)) hbb ?_;(· rfl);(· rfl);(· rfl);(· rfl);intro b3 cap3 w3 hA;have hfin:=A0b (A4.out w2 w2.drew w3 n1 (data.extract 0 m) b3 cap3 hR2.out hC2.out hB2.out ((Chg.refl (One b) w2).drew) hA);have hz3:=hfin.out.1.fz;have hc3:=hfin.out.1.c0))
     go_wp2
     go_ret
     have q1:A0q D F name data=A3d { D with n:=n1 } F f data (m:Int) e1:=qC.out
     have q2:A3d { D with n:=n1 } F f data (m:Int) e1=(e1,{ D with n:=n1 },upd F f ((F f).1 ++ data.data.toList.take m,(F f).2)):=by
      unfold A3d;rw [hLd.out,if_neg (by omega),Int.toNat_natCast]
     have hfin2:=hfin.out.2
     rw [A2C,hes] at hfin2
     rw [q1,q2]
     exact ⟨rfl,hfin2⟩
   ·have qC:Hid (A0q D F name data=(e1,{ D with n:=n1 },F)):=by
     have:=q.out
     unfold Hid;rw [this];simp only [Bool.false_eq_true,if_false,hC]
    clear q
    by_cases hdd:n1.dead=true
    ·go_enter Tryz.func84,Tryz.ntmps84
     go_wp2_with (first
      | (go_at_call 77;refine (A0F _ _ _ _ hd.out).mono ?_;rintro e w' ⟨rfl,rfl⟩;rw [H1.out])
      | (go_at_call 121;refine (B1.out _ hbk.out).mono ?_;rintro e w1 ⟨rfl,hb1,hc1⟩;have ca1:=hb1.c10))
     go_ret
     rw [qC.out]
     exact ⟨rfl,HR.out.afterN HFT.out hb1 hc1⟩
    ·have hdf:n1.dead=false:=by simpa using hdd
     have hsz:(data.size:Int)≤0:=by
      have:¬ 0<data.size:=fun h=>hC ⟨hdf,h⟩
      omega
     clear hC hdd
     go_enter Tryz.func84,Tryz.ntmps84
     go_wp2_with (first
      | (go_at_call 77;refine (A0F _ _ _ _ hd.out).mono ?_;rintro e w' ⟨rfl,rfl⟩;rw [H1.out])
      | (go_at_call 121;refine (B1.out _ hbk.out).mono ?_;rintro e w1 ⟨rfl,hb1,hc1⟩;have ca1:=hb1.c10))
     go_ret
     rw [qC.out]
     exact ⟨rfl,HR.out.afterN HFT.out hb1 hc1⟩
end Go.Proofs.YtodcnkbblippnaaGreatDoor
