/-
  The law's asked, at a Print and at a Strata.
-/
import Derived.Test.YtfdahfdaodbjbaaGreatPrintsT43
import Derived.Test.YtfdahfdaodbjbaaGreatPrintsT45
namespace Go.Proofs.YtfdahfdaodbjbaaGreat
open Go.RowKit Go.Maps

theorem EntF.below {s : ByteArray} {xb yb : Nat} {w w' : World} {lo : Nat} (h : EntF s xb yb w lo) (k : Below w.heap.size w w') : EntF s xb yb w' lo := h.kept ((Kept.refl _ w).of_below k)

set_option maxRecDepth 100000 in
set_option maxHeartbeats 4000000 in
theorem asked_print (w : World) (b : Nat) (x y : Nat) (ps : ByteArray) (lo : Nat) (hp : EntF ps x y w lo) (a bb : Int) (s t u : ByteArray) (at_ : Option Addr) (nt ct : Nat) :
    Calls Tryz.prog 12 #[.pointer (some ⟨b, 0, none⟩), .agg #[.int .i64 2, .int .i64 a, .int .i64 bb, .string s, .string t, .string u, .slice at_ nt ct], .agg #[.pointer (some ⟨x, 0, none⟩), .pointer (some ⟨y, 0, none⟩), .string ps]] w (StillPost w) := by
  have b0 := ((Below.refl w.heap.size w).alloc (Nat.le_refl _) (.cells #[.int .i64 2, .int .i64 a, .int .i64 bb, .string s, .string t, .string u, .slice at_ nt ct] 26)).alloc (by simp) (.cells #[.pointer (some ⟨x, 0, none⟩), .pointer (some ⟨y, 0, none⟩), .string ps] 44)
  have h0 := hp.below b0
  have hpb : ((w.alloc (.cells #[.int .i64 2, .int .i64 a, .int .i64 bb, .string s, .string t, .string u, .slice at_ nt ct] 26)).alloc (.cells #[.pointer (some ⟨x, 0, none⟩), .pointer (some ⟨y, 0, none⟩), .string ps] 44)).heap[w.heap.size + 1]? = some (.cells #[.pointer (some ⟨x, 0, none⟩), .pointer (some ⟨y, 0, none⟩), .string ps] 44 (0, 0)) := by
    have := heap_alloc_new (w.alloc (.cells #[.int .i64 2, .int .i64 a, .int .i64 bb, .string s, .string t, .string u, .slice at_ nt ct] 26)) (.cells #[.pointer (some ⟨x, 0, none⟩), .pointer (some ⟨y, 0, none⟩), .string ps] 44)
    rw [World.size_alloc] at this
    exact this
  have hC := ent_print h0
  clear hp
  go_enter Tryz.func12, Tryz.ntmps12
  go_wp2_with fail
  refine hC.mono ?_
  rintro e w1 ⟨rfl, hb1⟩
  have hpb1 := (hb1.block (w.heap.size + 1) (by simp)).trans hpb
  obtain ⟨p1, pf1⟩ := block_cells hpb1 1
  have h1 := h0.below hb1
  have hB1 := b0.trans (hb1.mono (by simp; omega))
  have hC1 := ent_rprint h1
  clear hC hpb b0 h0 hb1 hpb1
  go_wp2_with fail
  refine hC1.mono ?_
  rintro e w2 ⟨rfl, hb2⟩
  have HB := hide (hB1.trans (hb2.mono hB1.size))
  clear hC1 hb2 hB1 h1 p1 pf1
  go_wp2_with fail
  go_ret
  exact ⟨by simp, unhide HB⟩

/-- Behind both lists' being put into the book: w: ahead of the step; W: behind the three calls and the comparing. -/
theorem two_book {w W w5 w6 : World} {b B1 : Nat} {A1 A2 : Value → Array Value} {tB e : TypeId} {mk : Nat → List Value} {v v5 v6 lv kv : Value} {ms : List MB} {m5 m6 : MB} (hB : Below w.heap.size w W) (s5 : StIn W b A1 tB e mk v ms lv v5 m5 w5) (s6 : StIn w5 b A2 tB e mk v5 (ms ++ [m5]) kv v6 m6 w6) (hl : ∀ g ∈ lv.ownBlock.toList, w.heap.size ≤ g ∧ g < B1) (hk : ∀ g ∈ kv.ownBlock.toList, w.heap.size ≤ g) :
    Kept (b :: v.ownBlock.toList) w w6 ∧ (∀ g ∈ v6.ownBlock.toList, g ∈ v.ownBlock.toList ∨ w.heap.size ≤ g) := by
  have hsW := hB.size
  have hs5 := s5.kept.size
  have k5 : Kept (b :: v.ownBlock.toList) w w5 := ((Kept.refl _ w).of_below hB).step s5.kept fun x hx => by
    rcases List.mem_cons.1 hx with rfl | hx
    · exact .inl List.mem_cons_self
    · rcases List.mem_append.1 hx with hx | hx
      · exact .inl (List.mem_cons_of_mem _ hx)
      · exact .inr (hl x hx).1
  have h5 : ∀ g ∈ v5.ownBlock.toList, g ∈ v.ownBlock.toList ∨ w.heap.size ≤ g := fun g hg => (s5.row g hg).imp id (by omega)
  refine ⟨k5.step s6.kept fun x hx => ?_, fun g hg => ?_⟩
  · rcases List.mem_cons.1 hx with rfl | hx
    · exact .inl List.mem_cons_self
    · rcases List.mem_append.1 hx with hx | hx
      · exact (h5 x hx).imp (List.mem_cons_of_mem _) id
      · exact .inr (hk x hx)
  · rcases s6.row g hg with h | h
    · exact h5 g h
    · exact .inr (by omega)

def AskPost (w : World) (b : Nat) (psv bv tv sv : Value) (es : List PE) (mb mt ms : List MB) : Ending → World → Prop := fun e w' => e = .returned (.bool true) ∧ ∃ bv' tv' sv' mb' mt' ms', LW w' b psv bv' tv' sv' es mb' mt' ms' ∧ mb'.length ≤ mb.length + 2 ∧ mt'.length ≤ mt.length + 2 ∧ ms'.length ≤ ms.length + 2 ∧ Kept (chg b psv bv tv sv) w w'

set_option maxRecDepth 100000 in
set_option maxHeartbeats 8000000 in
theorem asked_strata (w : World) (b : Nat) (psv bv tv sv : Value) (es : List PE) (mb mt ms : List MB) (h : LW w b psv bv tv sv es mb mt ms) (x y : Nat) (ps : ByteArray) (lo : Nat) (hp : EntF ps x y w lo) (hlen : ms.length + 2 ≤ 100000000) (a bb : Int) (s t u : ByteArray) (at_ : Option Addr) (nt ct : Nat) :
    Calls Tryz.prog 12 #[.pointer (some ⟨b, 0, none⟩), .agg #[.int .i64 3, .int .i64 a, .int .i64 bb, .string s, .string t, .string u, .slice at_ nt ct], .agg #[.pointer (some ⟨x, 0, none⟩), .pointer (some ⟨y, 0, none⟩), .string ps]] w (AskPost w b psv bv tv sv es mb mt ms) := by
  have b0 := ((Below.refl w.heap.size w).alloc (Nat.le_refl _) (.cells #[.int .i64 3, .int .i64 a, .int .i64 bb, .string s, .string t, .string u, .slice at_ nt ct] 26)).alloc (by simp) (.cells #[.pointer (some ⟨x, 0, none⟩), .pointer (some ⟨y, 0, none⟩), .string ps] 44)
  have h0 := hp.below b0
  have hpb : ((w.alloc (.cells #[.int .i64 3, .int .i64 a, .int .i64 bb, .string s, .string t, .string u, .slice at_ nt ct] 26)).alloc (.cells #[.pointer (some ⟨x, 0, none⟩), .pointer (some ⟨y, 0, none⟩), .string ps] 44)).heap[w.heap.size + 1]? = some (.cells #[.pointer (some ⟨x, 0, none⟩), .pointer (some ⟨y, 0, none⟩), .string ps] 44 (0, 0)) := by
    have := heap_alloc_new (w.alloc (.cells #[.int .i64 3, .int .i64 a, .int .i64 bb, .string s, .string t, .string u, .slice at_ nt ct] 26)) (.cells #[.pointer (some ⟨x, 0, none⟩), .pointer (some ⟨y, 0, none⟩), .string ps] 44)
    rw [World.size_alloc] at this
    exact this
  have hC := ent_strata h0
  clear hp
  go_enter Tryz.func12, Tryz.ntmps12
  go_wp2_with fail
  refine hC.mono ?_
  rintro e w1 ⟨v1, S1, ys1, rfl, hp1⟩
  obtain ⟨a1, c1, rfl⟩ := own_slice hp1.row
  have hb1 := hp1.below
  have hpb1 := (hb1.block (w.heap.size + 1) (by simp)).trans hpb
  obtain ⟨p0, pf0⟩ := block_cells hpb1 0
  have h1 := h0.below hb1
  have hz1 := hb1.size
  have hB1 := b0.trans (hb1.mono (by simp; omega))
  have hC1 := ent_strata h1
  have HP1 := hide hp1
  have HZ1 := hide hz1
  have HB1 := hide hB1
  have H1 := hide h1
  have HPB1 := hide hpb1
  have hw1 : w.heap.size + 1 < w1.heap.size := (Array.getElem?_eq_some_iff.1 hpb1).1
  clear hC hpb b0 h0 hb1 hpb1 hp1 hz1 hB1 h1
  go_wp2_with fail
  refine hC1.mono ?_
  rintro e w2 ⟨v2, S2, ys2, rfl, hp2⟩
  obtain ⟨a2, c2, rfl⟩ := own_slice hp2.row
  have hb2 := hp2.below
  have hpb2 := (hb2.block (w.heap.size + 1) hw1).trans (unhide HPB1)
  obtain ⟨q1, qf1⟩ := block_cells hpb2 1
  have h2 := (unhide H1).below hb2
  have hC2 := ent_rstrata h2
  have HP2 := hide hp2
  have HB2 := hide ((unhide HB1).trans (hb2.mono (unhide HB1).size))
  clear hC1 hb2 hpb2 hp2 h2 p0 pf0 H1 HPB1
  go_wp2_with fail
  refine hC2.mono ?_
  rintro e w3 ⟨v3, zs, rfl, hr⟩
  obtain ⟨a3, c3, rfl⟩ := own_slice hr.row
  have hp1 := unhide HP1
  have hp2 := unhide HP2
  obtain ⟨f1, l1⟩ := hr.fits hp1
  obtain ⟨f2, l2⟩ := hr.fits hp2
  have sz1 := hp1.below.size
  have sz2 := hp2.below.size
  have sz3 := hr.below.size
  have r1 : w3.ownsRow w.heap.size 122 3 (.slice a1 ys1.length c1) zs.length (zs.flatMap enc3) := by
    rw [f1, l1]
    exact own_below (own_below (ownsRow_low hp1.row (by simp; omega)) hp2.below (fun g e => (hp1.row.lt g e).2)) hr.below (fun g e => by have := (hp1.row.lt g e).2; omega)
  have r2 : w3.ownsRow w.heap.size 122 3 (.slice a2 ys2.length c2) zs.length (zs.flatMap enc3) := by
    rw [f2, l2]
    exact own_below (ownsRow_low hp2.row (by omega)) hr.below (fun g e => (hp2.row.lt g e).2)
  have d1 : ∀ g ∈ (Value.slice a1 ys1.length c1).ownBlock.toList, w.heap.size ≤ g ∧ g < w1.heap.size := fun g hg => ⟨(r1.lt g (by simpa using hg)).1, (hp1.row.lt g (by simpa using hg)).2⟩
  have d2 : ∀ g ∈ (Value.slice a2 ys2.length c2).ownBlock.toList, w1.heap.size ≤ g ∧ g < w3.heap.size := fun g hg => ⟨(hp2.row.lt g (by simpa using hg)).1, (r2.lt g (by simpa using hg)).2⟩
  have R1 := hide r1
  have R2 := hide r2
  have R3 := hide hr.row
  have D1 := hide d1
  have D2 := hide d2
  have L1 := hide l1
  have L2 := hide l2
  have hfew := hr.few
  have n1f : ys1.length ≤ 1000 := by omega
  have n2f : ys2.length ≤ 1000 := by omega
  have HL3 := hide (h.below ((unhide HB2).trans (hr.below.mono (unhide HB2).size)))
  have HB3 := hide ((unhide HB2).trans (hr.below.mono (unhide HB2).size))
  have HLW := hide h
  clear hp1 hp2 HP1 HP2 hr f1 f2 l1 l2 sz1 sz2 sz3 r1 r2 d1 d2 hC2 HB1 HB2 HZ1 q1 qf1 h
  go_wp2_with fail
  refine (sameStrata_yes w3 _ _ a1 a3 ys1.length zs.length c1 c3 zs (unhide R1) (unhide R3) (unhide L1).symm rfl (by omega)).mono ?_
  rintro e w4 ⟨rfl, q, rfl⟩
  go_wp2_with fail
  refine (sameStrata_yes (w3.drewN q) _ _ a2 a3 ys2.length zs.length c2 c3 zs (unhide R2) (unhide R3) (unhide L2).symm rfl (by omega)).mono ?_
  rintro e w4 ⟨rfl, q', rfl⟩
  have HLW4 : Hid (LW ((w3.drewN q).drewN q') b psv bv tv sv es mb mt ms) := hide ((unhide HL3).below (below_drewN (below_drewN (Below.refl _ _) _) _))
  have HB4 : Hid (Below w.heap.size w ((w3.drewN q).drewN q')) := hide (below_drewN (below_drewN (unhide HB3) _) _)
  have R1' : Hid (((w3.drewN q).drewN q').ownsRow w.heap.size 122 3 (.slice a1 ys1.length c1) ys1.length (zs.flatMap enc3)) := by
    have := unhide R1
    rw [unhide L1] at this
    exact this
  have R2' : Hid (((w3.drewN q).drewN q').ownsRow w.heap.size 122 3 (.slice a2 ys2.length c2) ys2.length (zs.flatMap enc3)) := by
    have := unhide R2
    rw [unhide L2] at this
    exact this
  have D2' : Hid (∀ g ∈ (Value.slice a2 ys2.length c2).ownBlock.toList, w1.heap.size ≤ g ∧ g < ((w3.drewN q).drewN q').heap.size) := unhide D2
  clear R1 R2 R3 HL3 HB3 D2 L1 L2
  generalize (w3.drewN q).drewN q' = W at *
  have hfree : ∀ m ∈ ms, ∀ g ∈ (Value.slice a1 ys1.length c1).ownBlock.toList, g ∉ m.blocks := fun m hm g hg hgm => by
    have := ((unhide HLW).ss.each m hm).lt g hgm
    have := (unhide D1 g hg).1
    omega
  go_wp2_with fail
  refine (stratum_any W b psv bv tv sv ms a1 ys1.length c1 _ (unhide HLW4).blk (unhide HLW4).ss (ownsRow_low (unhide R1') (Nat.zero_le _)) n1f hfree (by omega)).mono ?_
  rintro e w5 ⟨rfl, sv5, m5, st5⟩
  clear hfree
  have hrow5 : w5.ownsRow 0 122 3 (.slice a2 ys2.length c2) ys2.length (zs.flatMap enc3) := by
    refine own_block (ownsRow_low (unhide R2') (Nat.zero_le _)) (fun g hg => st5.kept.block g ((unhide R2').lt g hg).2 ?_)
    have hd := unhide D2' g (by simpa using hg)
    intro hm
    rcases List.mem_cons.1 hm with rfl | hm
    · have := (unhide HLW).lt; omega
    · rcases List.mem_append.1 hm with hm | hm
      · have := ((unhide HLW).ss.row.lt g (by simpa using hm)).2; omega
      · have := (unhide D1 g hm).2; omega
  have hfree5 : ∀ m ∈ ms ++ [m5], ∀ g ∈ (Value.slice a2 ys2.length c2).ownBlock.toList, g ∉ m.blocks := fun m hm g hg hgm => by
    have hd := unhide D2' g hg
    rcases List.mem_append.1 hm with hm | hm
    · have := ((unhide HLW).ss.each m hm).lt g hgm
      omega
    · rw [List.mem_singleton.1 hm] at hgm
      rcases st5.far g hgm with h | h
      · have := (unhide D1 g h).2; omega
      · omega
  have ST5 := hide st5
  have HBK5 := hide st5.blk
  have HS5 := hide st5.book
  have HR5 := hide hrow5
  have HF5 := hide hfree5
  have hlen5 : Hid ((ms ++ [m5]).length ≤ 100000000) := by show _ ≤ _; rw [List.length_append, List.length_singleton]; omega
  clear st5 hrow5 hfree5
  go_wp2_with fail
  refine (stratum_any w5 b psv bv tv sv5 (ms ++ [m5]) a2 ys2.length c2 _ (unhide HBK5) (unhide HS5) (unhide HR5) n2f (unhide HF5) (unhide hlen5)).mono ?_
  rintro e w6 ⟨rfl, sv6, m6, st6⟩
  have hfin := two_book (unhide HB4) (unhide ST5) st6 (unhide D1) (fun g hg => by have := (unhide D2' g hg).1; omega)
  have HE := hide ((unhide HLW).addS hfin.1 st6.blk st6.book hfin.2)
  clear hfin st6 ST5 HBK5 HS5 HR5 HF5 hlen5
  go_wp2_with fail
  go_ret
  exact ⟨rfl, bv, tv, sv6, mb, mt, _, (unhide HE).1, by omega, by omega, by simp, (unhide HE).2⟩
end Go.Proofs.YtfdahfdaodbjbaaGreat
