/-
  The law's plays, where only Loads are played: true at every script.
-/
import Derived.Test.YtfdahfdaodbjbaaGreatLoadsT48
namespace Go.Proofs.YtfdahfdaodbjbaaGreat
open Go.RowKit

/-- One step of a script, as it lies in memory. -/
structure OpV where
  kd : Int
  a : Int
  b : Int
  s : ByteArray
  t : ByteArray
  u : ByteArray
  at_ : Option Addr
  nt : Nat
  ct : Nat

/-- The script's cells. -/
structure Scr (w : World) (sa : Option Addr) (len : Nat) (O : Nat → OpV) : Prop where
  el : ∀ i, i < len → ∃ g off, sa = some ⟨g, off, none⟩ ∧ g < w.heap.size ∧ w.cell? ⟨g, off + i * 7, none⟩ = some (.int .i64 (O i).kd) ∧ w.cell? ⟨g, off + i * 7 + 1, none⟩ = some (.int .i64 (O i).a) ∧ w.cell? ⟨g, off + i * 7 + 2, none⟩ = some (.int .i64 (O i).b) ∧ w.cell? ⟨g, off + i * 7 + 3, none⟩ = some (.string (O i).s) ∧ w.cell? ⟨g, off + i * 7 + 4, none⟩ = some (.string (O i).t) ∧ w.cell? ⟨g, off + i * 7 + 5, none⟩ = some (.string (O i).u) ∧ w.cell? ⟨g, off + i * 7 + 6, none⟩ = some (.slice (O i).at_ (O i).nt (O i).ct) ∧ (O i).s.size ≤ maxLen

theorem Scr.below {w w1 : World} {sa : Option Addr} {len : Nat} {O : Nat → OpV} (h : Scr w sa len O) (hb : Below w.heap.size w w1) : Scr w1 sa len O :=
  ⟨fun i hi => by
    obtain ⟨g, off, h1, h2, c0, c1, c2, c3, c4, c5, c6, h3⟩ := h.el i hi
    have hz := hb.size
    refine ⟨g, off, h1, by omega, ?_, ?_, ?_, ?_, ?_, ?_, ?_, h3⟩
    all_goals (rw [hb.cell (by simpa using h2)]; assumption)⟩

def exText : ByteArray := { data := #[101, 100, 103, 101, 40, 97, 44, 98, 41, 46, 32, 101, 100, 103, 101, 40, 98, 44, 99, 41, 46, 32, 112, 97, 116, 104, 40, 88, 44, 89, 41, 32, 58, 45, 32, 101, 100, 103, 101, 40, 88, 44, 89, 41, 46, 32, 112, 97, 116, 104, 40, 88, 44, 90, 41, 32, 58, 45, 32, 101, 100, 103, 101, 40, 88, 44, 89, 41, 44, 32, 112, 97, 116, 104, 40, 89, 44, 90, 41, 46, 32, 102, 97, 114, 40, 88, 41, 32, 58, 45, 32, 112, 97, 116, 104, 40, 97, 44, 88, 41, 44, 32, 110, 111, 116, 32, 101, 100, 103, 101, 40, 97, 44, 88, 41, 46] }

set_option maxRecDepth 100000 in
theorem ex_ok : (refLoad exText).1 = true := by decide +kernel
set_option maxRecDepth 100000 in
theorem ex_size : exText.size ≤ maxLen := by decide +kernel

set_option maxRecDepth 100000 in
set_option maxHeartbeats 8000000 in
theorem plays_any (w : World) (sa : Option Addr) (len cap : Nat) (O : Nat → OpV) (kb : Nat) (h : Scr w sa len O) (hl : len * 96 ≤ 140737488355328) (hkc0 : w.cell? ⟨kb, 0, none⟩ = some (.int .i64 1)) (hkb : kb < w.heap.size) :
    Calls Tryz.prog 7 #[.agg #[.int .i64 0, .int .i64 0, .int .i64 0, .string { data := #[] }, .string { data := #[] }, .string { data := #[] }, .slice none 0 0], .slice sa len cap, .slice (some ⟨kb, 0, none⟩) 1 1] w fun e w' => e = .returned (.bool true) ∧ Below w.heap.size w w' := by
  have b0 := ((Below.refl w.heap.size w).alloc (Nat.le_refl _) (.cells #[.int .i64 0, .int .i64 0, .int .i64 0, .string { data := #[] }, .string { data := #[] }, .string { data := #[] }, .slice none 0 0] 26)).alloc (by simp) (.cells #[.slice none 0 0, .slice none 0 0, .slice none 0 0, .slice none 0 0] 36)
  have hW0 : WIn ((w.alloc (.cells #[.int .i64 0, .int .i64 0, .int .i64 0, .string { data := #[] }, .string { data := #[] }, .string { data := #[] }, .slice none 0 0] 26)).alloc (.cells #[.slice none 0 0, .slice none 0 0, .slice none 0 0, .slice none 0 0] 36)) (w.heap.size + 1) (.slice none 0 0) 0 := by
    refine ⟨?_, [], World.ownsRow_nil _ _ _ _⟩
    have := heap_alloc_new (w.alloc (.cells #[.int .i64 0, .int .i64 0, .int .i64 0, .string { data := #[] }, .string { data := #[] }, .string { data := #[] }, .slice none 0 0] 26)) (.cells #[.slice none 0 0, .slice none 0 0, .slice none 0 0, .slice none 0 0] 36)
    rw [World.size_alloc] at this
    exact this
  have hbx : ((w.alloc (.cells #[.int .i64 0, .int .i64 0, .int .i64 0, .string { data := #[] }, .string { data := #[] }, .string { data := #[] }, .slice none 0 0] 26)).alloc (.cells #[.slice none 0 0, .slice none 0 0, .slice none 0 0, .slice none 0 0] 36)).heap[w.heap.size]? = some (.cells #[.int .i64 0, .int .i64 0, .int .i64 0, .string { data := #[] }, .string { data := #[] }, .string { data := #[] }, .slice none 0 0] 26 (0, 0)) := by
    rw [Below.heap_alloc _ _ _ (by simp)]
    exact heap_alloc_new w _
  have hS := law_step1 ((w.alloc (.cells #[.int .i64 0, .int .i64 0, .int .i64 0, .string { data := #[] }, .string { data := #[] }, .string { data := #[] }, .slice none 0 0] 26)).alloc (.cells #[.slice none 0 0, .slice none 0 0, .slice none 0 0, .slice none 0 0] 36)) (w.heap.size + 1) 0 (.slice none 0 0) 0 0 exText { data := #[] } { data := #[] } none 0 0 hW0 ex_size (by omega)
  unfold exText at hS
  clear hW0
  go_enter Tryz.func7, Tryz.ntmps7
  go_wp2_with fail
  refine hS.mono ?_
  rintro e w1 ⟨rfl, psv1, hW1, hK1⟩
  have hok : (refLoad { data := #[101, 100, 103, 101, 40, 97, 44, 98, 41, 46, 32, 101, 100, 103, 101, 40, 98, 44, 99, 41, 46, 32, 112, 97, 116, 104, 40, 88, 44, 89, 41, 32, 58, 45, 32, 101, 100, 103, 101, 40, 88, 44, 89, 41, 46, 32, 112, 97, 116, 104, 40, 88, 44, 90, 41, 32, 58, 45, 32, 101, 100, 103, 101, 40, 88, 44, 89, 41, 44, 32, 112, 97, 116, 104, 40, 89, 44, 90, 41, 46, 32, 102, 97, 114, 40, 88, 41, 32, 58, 45, 32, 112, 97, 116, 104, 40, 97, 44, 88, 41, 44, 32, 110, 111, 116, 32, 101, 100, 103, 101, 40, 97, 44, 88, 41, 46] }).1 = true := ex_ok
  rw [hok] at hW1
  have hB1 : Below w.heap.size w w1 := below_kept b0 hK1 (by simp; omega) (by simp [Value.ownBlock])
  have hbx1 := cells_keptT hbx hK1 (by simp [Value.ownBlock])
  have hz1 := hK1.size
  simp at hz1
  obtain ⟨xs1, hrow1⟩ := hW1.row
  obtain ⟨ap1, cp1, rfl⟩ := own_slice hrow1
  obtain ⟨p0, pf0⟩ := block_cells hW1.blk 0
  obtain ⟨y0, yf0⟩ := block_cells hbx1 0
  obtain ⟨y1, yf1⟩ := block_cells hbx1 1
  obtain ⟨y2, yf2⟩ := block_cells hbx1 2
  obtain ⟨y3, yf3⟩ := block_cells hbx1 3
  obtain ⟨y4, yf4⟩ := block_cells hbx1 4
  obtain ⟨y5, yf5⟩ := block_cells hbx1 5
  obtain ⟨y6, yf6⟩ := block_cells hbx1 6
  clear hS hbx hK1 b0 hok hrow1
  go_wp2_with fail
  refine (law_step0 w1 (w.heap.size + 1) 0 0 { data := #[] } { data := #[] } { data := #[] } none 0 0).mono ?_
  rintro e w2 ⟨rfl, hb2⟩
  have hW2 := hW1.below hb2
  have hB2 := hB1.trans (hb2.mono (by omega))
  clear hbx1 hB1 hW1 p0 pf0 y0 y1 y2 y3 y4 y5 y6 yf0 yf1 yf2 yf3 yf4 yf5 yf6 hb2
  have HS := hide h
  clear h
  go_wp2_with fail
  go_loopg [9] len (fun gg i wr => ∃ (k n : Nat) (psv : Value), k ≤ len ∧ gg = len - k ∧ i = .int .i64 k ∧ n ≤ k + 1 ∧ WIn wr (w.heap.size + 1) psv n ∧ Below w.heap.size w wr)
  case atStart => exact ⟨0, 1, _, Nat.zero_le _, rfl, rfl, by omega, hW2, hB2⟩
  case round =>
    clear hW2 hB2 hz1
    obtain ⟨k, n, psv, hk, hgk, rfl, hn, hW, hB⟩ := hrel
    by_cases hlk : k < len
    · obtain ⟨g, off, rfl, hgl0, _⟩ := (unhide HS).el k hlk
      have hli : (k : Int) < len := by omega
      have hO := hide ((unhide HS).el k hlk)
      go_wp2_with fail
      go_loopg [10, 11] 1 (fun gg v i wi => ((v = .bool false ∧ i = .int .i64 0 ∧ gg = 1) ∨ (v = .bool ((O k).kd == 1) ∧ i = .int .i64 1 ∧ gg = 0)) ∧ WIn wi (w.heap.size + 1) psv n ∧ Below w.heap.size w wi)
      case atStart => exact ⟨.inl ⟨rfl, rfl, rfl⟩, hW, hB⟩
      case round =>
        clear hW hB
        obtain ⟨hor, hW, hB⟩ := hrel
        obtain ⟨g', off', hga, hgl, c0, c1, c2, c3, c4, c5, c6, hs8⟩ := ((unhide HS).below hB).el k hlk
        injection hga with hga
        injection hga with h1 h2 _
        subst h1 h2
        have hkc : wr.cell? ⟨kb, 0, none⟩ = some (.int .i64 1) := (hB.cell (by simpa using hkb)).trans hkc0
        have hkz := hB.size
        have HW := hide hW
        have hwlt := hW.lt
        have hwb := hW.blk
        clear hW
        rcases hor with ⟨rfl, rfl, hg0⟩ | ⟨rfl, rfl, hg0⟩
        · clear hwb
          go_wp2_with fail
          go_quiet (fail)
          go_wp2_with fail
          go_roundg 0
          case measure => omega
          case rel => exact ⟨.inr ⟨rfl, rfl, rfl⟩, (unhide HW).below (below_drewN (Below.refl _ _) _), below_drewN hB _⟩
        · cases hkd : (O k).kd == 1 with
          | false =>
            clear hkd hwb
            go_wp2_with fail
            go_roundg (len - (k + 1))
            case measure => omega
            case rel => exact ⟨k + 1, n, psv, by omega, rfl, by go_num, by omega, unhide HW, hB⟩
          | true =>
            have hk1 : (O k).kd = 1 := by simpa using hkd
            rw [hk1] at c0
            clear hkd hwb
            go_wp2_with fail
            refine (law_step1 wr (w.heap.size + 1) n psv (O k).a (O k).b (O k).s (O k).t (O k).u (O k).at_ (O k).nt (O k).ct (unhide HW) hs8 (by omega)).mono ?_
            rintro e w3 ⟨rfl, psv3, hW3, hK3⟩
            obtain ⟨xs, hrow⟩ := (unhide HW).row
            have hB3 : Below w.heap.size w w3 := below_kept hB hK3 hkz (fun x hx => by
              rcases List.mem_cons.1 hx with rfl | hx
              · omega
              · have := (hrow.lt x (by simpa using hx)).1; omega)
            have hn3 : (n + if (refLoad (O k).s).1 then 1 else 0) ≤ k + 1 + 1 := by split <;> omega
            have hwb3 := hW3.blk
            have hwl3 := hW3.lt
            have HW3 := hide hW3
            clear hK3 hrow c0 c1 c2 c3 c4 c5 c6 hkc hB HW hW3
            generalize (n + if (refLoad (O k).s).1 then 1 else 0) = n3 at *
            go_wp2_with fail
            refine (law_looks w3 (w.heap.size + 1) psv3 hwb3).mono ?_
            rintro e w4 ⟨rfl, rfl⟩
            clear hwb3
            go_wp2_with fail
            go_roundg (len - (k + 1))
            case measure => omega
            case rel => exact ⟨k + 1, n3, psv3, by omega, rfl, by go_num, by omega, unhide HW3, hB3⟩
    · go_wp2_with fail
      go_ret
      exact ⟨rfl, hB⟩
end Go.Proofs.YtfdahfdaodbjbaaGreat
