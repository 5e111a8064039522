/-
  The reference's meet: a predicate that is not there yet is taken down with its number of terms; of one that is there the number is compared.
-/
import Derived.Test.YtldkpahaocjdpaaGreatLoadsT26
import Derived.Deep.AppendLies
import Derived.Deep.RegionLaw
import Derived.Deep.DeepCutAuto
namespace Go.Proofs.YtldkpahaocjdpaaGreat
open Go.RowKit

theorem one_cell (W : World) (B : Nat) (u : Value) (t : TypeId) (hb : W.heap[B]? = some (.cells #[u] t (0, 0))) : ∀ j x, ([u] : List Value)[j]? = some x → W.cell? ((⟨B, 0, none⟩ : Addr).add j) = some x :=
  World.news_of_block (cs := #[u]) hb

set_option maxRecDepth 100000 in
set_option maxHeartbeats 2000000 in
theorem meet_new (w : World) (o : Nat) (rs : List RR) (ps : List (ByteArray × Nat)) (rv pv tv sv : Value) (nm : ByteArray) (a : Option Addr) (n c : Nat) (no : Bool) (at_ noAt : Nat) (h : PMem w o rs ps rv pv tv sv) (hpl : ps.length ≤ 1000) (hix : predIx ps nm < 0) :
    Calls Tryz.prog 188 #[.pointer (some ⟨o, 0, none⟩), .agg #[.string nm, .slice a n c, .bool no, .int .i64 at_, .int .i64 noAt]] w fun e w' => e = .returned (.bool true) ∧ ∃ pv' tv', PMem w' o rs (ps ++ [(nm, n)]) rv pv' tv' sv ∧ Below o w w' := by
  have h' := h
  obtain ⟨i0, hi, hz0, hz1, hz2⟩ := info_parts infoString
  obtain ⟨i3, hi3, hy0, hy1, hy2⟩ := info_parts infoInt
  obtain ⟨hlt, c0, c1, c2, c3, fz, hr, he, hp, ht⟩ := h
  obtain ⟨a1, cap1, rfl⟩ := own_slice hp
  obtain ⟨a2, cap2, rfl⟩ := own_slice ht
  go_enter Tryz.func188, Tryz.ntmps188
  go_wp2_with fail
  refine (pred_any _ o rs ps _ _ _ _ nm (h'.kept ((Kept.refl [] _).alloc _) (by simp))).mono ?_
  rintro e w1 ⟨rfl, rfl⟩
  have s1 : Hid ((((w.alloc (Obj.cells #[Value.string nm, Value.slice a n c, Value.bool no, Value.int IntKind.i64 ↑at_, Value.int IntKind.i64 ↑noAt] 243)).alloc (Obj.cells #[Value.string nm] 9)).drew).ownsRow (o + 1) 9 1 (.slice a1 ps.length cap1) ps.length (ps.map fun x => .string x.1)) := (hp.alloc _).alloc _
  have s2 : Hid (∀ j u, ([.string nm] : List Value)[j]? = some u → (((w.alloc (Obj.cells #[Value.string nm, Value.slice a n c, Value.bool no, Value.int IntKind.i64 ↑at_, Value.int IntKind.i64 ↑noAt] 243)).alloc (Obj.cells #[Value.string nm] 9)).drew).cell? ((⟨w.heap.size + 1, 0, none⟩ : Addr).add j) = some u) := one_cell _ _ _ 9 (by
    show (((w.alloc _).alloc _).heap)[w.heap.size + 1]? = _
    have := heap_alloc_new (w.alloc (Obj.cells #[Value.string nm, Value.slice a n c, Value.bool no, Value.int IntKind.i64 ↑at_, Value.int IntKind.i64 ↑noAt] 243)) (Obj.cells #[Value.string nm] 9)
    simpa using this)
  have s3 : Hid (∀ u ∈ ([.string nm] : List Value), u.oneCell' = true) := by intro u hu; simp at hu; subst hu; rfl
  have s4 : Hid (ps.length + 1 ≤ maxLen) := by show _ ≤ _; unfold maxLen; omega
  have s5 : Hid ((ps.length + 1) * 16 ≤ 140737488355328) := by show _ ≤ _; omega
  have s6 : Hid (o + 1 ≤ (((w.alloc (Obj.cells #[Value.string nm, Value.slice a n c, Value.bool no, Value.int IntKind.i64 ↑at_, Value.int IntKind.i64 ↑noAt] 243)).alloc (Obj.cells #[Value.string nm] 9)).drew).heap.size) := by show _ ≤ _; simp; omega
  have s7 : Hid (∀ w5 : World, (((w.alloc (Obj.cells #[Value.string nm, Value.slice a n c, Value.bool no, Value.int IntKind.i64 ↑at_, Value.int IntKind.i64 ↑noAt] 243)).alloc (Obj.cells #[Value.string nm] 9)).drew).grownBy w5 (Value.slice a1 ps.length cap1).ownBlock → w5.cell? ⟨o, 1, none⟩ = some (.slice a1 ps.length cap1) ∧ w5.frozen? ⟨o, 1, none⟩ = false) := fun w5 hg => by
    have kk := ((((Kept.refl _ w).alloc _).alloc _).drew).grown hg (fun k e => .inr (show k ∈ (Value.slice a1 ps.length cap1).ownBlock.toList by simp [e]))
    have hn : o ∉ (Value.slice a1 ps.length cap1).ownBlock.toList := fun hm => by
      have := (hp.lt o (by simpa using hm)).1; omega
    exact ⟨(kk.cell hlt hn).trans c1, (kk.frozen hlt hn).trans (fz 1)⟩
  have s8 : Hid (∀ (w5 : World) (g cap : Nat), (((w.alloc (Obj.cells #[Value.string nm, Value.slice a n c, Value.bool no, Value.int IntKind.i64 ↑at_, Value.int IntKind.i64 ↑noAt] 243)).alloc (Obj.cells #[Value.string nm] 9)).drew).grownBy w5 (Value.slice a1 ps.length cap1).ownBlock → w5.ownsRow (o + 1) 9 1 (.slice (some ⟨g, 0, none⟩) (ps.length + 1) cap) (ps.length + 1) ((ps.map fun x => .string x.1) ++ [.string nm]) → ∃ pv', PMem2 (w5.setCell ⟨o, 1, none⟩ (.slice (some ⟨g, 0, none⟩) (ps.length + 1) cap)) o rs (ps ++ [(nm, n)]) ps rv pv' (.slice a2 ps.length cap2) sv ∧ Below o w (w5.setCell ⟨o, 1, none⟩ (.slice (some ⟨g, 0, none⟩) (ps.length + 1) cap)) ∧ (w5.setCell ⟨o, 1, none⟩ (.slice (some ⟨g, 0, none⟩) (ps.length + 1) cap)).cell? ⟨w.heap.size, 1, none⟩ = some (.slice a n c) ∧ w.heap.size < (w5.setCell ⟨o, 1, none⟩ (.slice (some ⟨g, 0, none⟩) (ps.length + 1) cap)).heap.size) := fun w5 g cap hg hown => by
    have hW : ∀ k, k < w.heap.size → (((w.alloc (Obj.cells #[Value.string nm, Value.slice a n c, Value.bool no, Value.int IntKind.i64 ↑at_, Value.int IntKind.i64 ↑noAt] 243)).alloc (Obj.cells #[Value.string nm] 9)).drew).heap[k]? = w.heap[k]? := fun k hk => (((Kept.refl [] w).alloc _).alloc _).block k hk (by simp)
    have hS : w.heap.size ≤ (((w.alloc (Obj.cells #[Value.string nm, Value.slice a n c, Value.bool no, Value.int IntKind.i64 ↑at_, Value.int IntKind.i64 ↑noAt] 243)).alloc (Obj.cells #[Value.string nm] 9)).drew).heap.size := (((Kept.refl [] w).alloc _).alloc _).size
    have hs5 := hg.size
    refine ⟨_, h'.setPreds (x := (nm, n)) hW hS hg hown, below_far hW hS rfl rfl rfl hp hg hlt, ?_, ?_⟩
    · rw [World.cell?_of_block (w := w5) (Below.heap_setCell w5 ⟨o, 1, none⟩ _ w.heap.size (by simp; omega))]
      rw [hg.cell_far ⟨w.heap.size, 1, none⟩ (by simp; omega) (fun e => by have := (hp.lt w.heap.size e.symm).2; omega)]
      show ((w.alloc _).alloc _).cell? _ = _
      rw [World.cell?_alloc_past _ _ _ (by simp), World.cell?_alloc_at _ _ _ _ rfl]; rfl
    · simp at hs5 ⊢; omega
  clear hp ht hr he
  go_upto_region 3 with fail
  go_cut [] (fun wc => ∃ pv', PMem2 wc o rs (ps ++ [(nm, n)]) ps rv pv' (.slice a2 ps.length cap2) sv ∧ Below o w wc ∧ wc.cell? ⟨w.heap.size, 1, none⟩ = some (.slice a n c) ∧ w.heap.size < wc.heap.size)
  case first =>
    go_region_law (refine step_append_lies _ rfl (.tmp 16) (.tmp 19) 33 rfl (o + 1) 9 i0 (.string { data := #[] }) 1 16 Tryz.underlying33 hi hz0 hz1 hz2 rfl (by decide) (.slice a1 ps.length cap1) ps.length (ps.map fun x => .string x.1) (by simp [Act.eval]) (unhide s1) ⟨w.heap.size + 1, 0, none⟩ 1 1 [.string nm] (by simp [Act.eval]) rfl (unhide s2) (unhide s3) (by decide) (unhide s4) (unhide s5) (unhide s6) _ rfl ?_; intro g cap w5 hown5 hg5 hat5 hlt5; obtain ⟨y1, y2⟩ := unhide s7 w5 hg5)
    all_goals
      go_wp2_with fail
      go_meet
      case rel => exact unhide s8 w5 g cap hg5 hown5
  case rest =>
    obtain ⟨pv', hm, hbl, hbx, hsz⟩ := hcut
    clear s1 s2 s3 s4 s5 s6 s7 s8 c0 c1 c2 c3 fz h'
    have hm' := hm
    obtain ⟨hlt2, d0, d1, d2, d3, dfz, hr2, he2, hp2, ht2⟩ := hm
    have s1 : Hid ((((wc.alloc (Obj.cells #[Value.int .i64 n] 3)).drew).ownsRow (o + 1) 3 1 (.slice a2 ps.length cap2) ps.length (ps.map fun x => .int .i64 x.2))) := ht2.alloc _
    have s2 : Hid (∀ j u, ([.int .i64 n] : List Value)[j]? = some u → ((wc.alloc (Obj.cells #[Value.int .i64 n] 3)).drew).cell? ((⟨wc.heap.size, 0, none⟩ : Addr).add j) = some u) := one_cell _ _ _ 3 (heap_alloc_new wc _)
    have s3 : Hid (∀ u ∈ ([.int .i64 n] : List Value), u.oneCell' = true) := by intro u hu; simp at hu; subst hu; rfl
    have s4 : Hid (ps.length + 1 ≤ maxLen) := by show _ ≤ _; unfold maxLen; omega
    have s5 : Hid ((ps.length + 1) * 8 ≤ 140737488355328) := by show _ ≤ _; omega
    have s6 : Hid (o + 1 ≤ ((wc.alloc (Obj.cells #[Value.int .i64 n] 3)).drew).heap.size) := by show _ ≤ _; simp; omega
    have hW : ∀ k, k < wc.heap.size → ((wc.alloc (Obj.cells #[Value.int .i64 n] 3)).drew).heap[k]? = wc.heap[k]? := fun k hk => ((Kept.refl [] wc).alloc _).block k hk (by simp)
    have hS : wc.heap.size ≤ ((wc.alloc (Obj.cells #[Value.int .i64 n] 3)).drew).heap.size := ((Kept.refl [] wc).alloc _).size
    have s7 : Hid (∀ w5 : World, ((wc.alloc (Obj.cells #[Value.int .i64 n] 3)).drew).grownBy w5 (Value.slice a2 ps.length cap2).ownBlock → w5.cell? ⟨o, 2, none⟩ = some (.slice a2 ps.length cap2) ∧ w5.frozen? ⟨o, 2, none⟩ = false) := fun w5 hg =>
      have hb := far_cell hW hS ht2 hg hlt2
      ⟨(World.cell?_of_block hb).trans d2, (World.frozen?_of_block hb).trans (dfz 2)⟩
    have s8 : Hid (∀ (w5 : World) (g cap : Nat), ((wc.alloc (Obj.cells #[Value.int .i64 n] 3)).drew).grownBy w5 (Value.slice a2 ps.length cap2).ownBlock → w5.ownsRow (o + 1) 3 1 (.slice (some ⟨g, 0, none⟩) (ps.length + 1) cap) (ps.length + 1) ((ps.map fun x => .int .i64 x.2) ++ [.int .i64 n]) → ∃ pv' tv', PMem (w5.setCell ⟨o, 2, none⟩ (.slice (some ⟨g, 0, none⟩) (ps.length + 1) cap)) o rs (ps ++ [(nm, n)]) rv pv' tv' sv ∧ Below o w (w5.setCell ⟨o, 2, none⟩ (.slice (some ⟨g, 0, none⟩) (ps.length + 1) cap))) := fun w5 g cap hg hown =>
      ⟨_, _, hm'.setTerms (x := (nm, n)) hW hS hg hown, hbl.trans (below_far hW hS rfl rfl rfl ht2 hg hlt2)⟩
    clear hW hS hp2 ht2 hr2 he2 hm'
    go_wp2_with fail
    go_region_law (refine step_append_lies _ rfl (.tmp 27) (.tmp 31) 24 rfl (o + 1) 3 i3 (.int .i64 0) 1 8 Tryz.underlying24 hi3 hy0 hy1 hy2 rfl (by decide) (.slice a2 ps.length cap2) ps.length (ps.map fun x => .int .i64 x.2) (by simp [Act.eval]) (unhide s1) ⟨wc.heap.size, 0, none⟩ 1 1 [.int .i64 n] (by simp [Act.eval]) rfl (unhide s2) (unhide s3) (by decide) (unhide s4) (unhide s5) (unhide s6) _ rfl ?_; intro g cap w5 hown5 hg5 hat5 hlt5; obtain ⟨y1, y2⟩ := unhide s7 w5 hg5)
    all_goals
      go_wp2_with fail
      go_ret
      exact ⟨rfl, unhide s8 w5 g cap hg5 hown5⟩
end Go.Proofs.YtldkpahaocjdpaaGreat
