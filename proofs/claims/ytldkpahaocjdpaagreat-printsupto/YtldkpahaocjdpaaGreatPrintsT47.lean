/-
  The law's step: at a Load, and at a call of a program.
  The law's step at a Load, and at a step of no kind; a book in which nothing stands.
  The law's plays, where only Loads are played: true at every script.
-/
import Derived.Test.YtldkpahaocjdpaaGreatPrintsT46
import Derived.Test.YtldkpahaocjdpaaGreatPrintsT38
namespace Go.Proofs.YtldkpahaocjdpaaGreat
open Go.RowKit Go.Maps

set_option maxRecDepth 100000 in
set_option maxHeartbeats 4000000 in
theorem pick_fix (c : Int) (n : Nat) (hn : 0 < n) (hl : n ≤ 1000000000000) (h1 : -9223372036854775808 ≤ c) (h2 : c ≤ 9223372036854775807) : ∃ k : Nat, k < n ∧ ∀ w, Calls Tryz.prog 51 #[.int .i64 c, .int .i64 n] w fun e w' => e = .returned (.int .i64 k) ∧ w' = w := by
  have hn0 : ¬ ((n : Int) = 0) := by omega
  have hni : (0 : Int) < n := by omega
  by_cases hc : c < 0
  · obtain ⟨k, hk, e⟩ := pick_low hc hn
    refine ⟨k, hk, fun w => ?_⟩
    have HE := hide e
    clear e
    go_enter Tryz.func51, Tryz.ntmps51
    go_wp2_with fail
    go_ret
    exact ⟨by rw [← unhide HE]; rfl, rfl⟩
  · obtain ⟨k, hk, e⟩ := pick_high (Int.not_lt.1 hc) hn
    refine ⟨k, hk, fun w => ?_⟩
    have HE := hide e
    clear e
    go_enter Tryz.func51, Tryz.ntmps51
    go_wp2_with fail
    go_ret
    exact ⟨by rw [← unhide HE]; rfl, rfl⟩

def StpPost (w : World) (b : Nat) (psv bv tv sv : Value) (es : List PE) (mb mt ms : List MB) : Ending → World → Prop := fun e w' => e = .returned (.bool true) ∧ ∃ psv' bv' tv' sv' es' mb' mt' ms', LW w' b psv' bv' tv' sv' es' mb' mt' ms' ∧ es.length ≤ es'.length ∧ es'.length ≤ es.length + 1 ∧ mb'.length ≤ mb.length + 2 ∧ mt'.length ≤ mt.length + 2 ∧ ms'.length ≤ ms.length + 2 ∧ Kept (chg b psv bv tv sv) w w'

set_option maxRecDepth 100000 in
set_option maxHeartbeats 4000000 in
theorem stp_load (w : World) (b : Nat) (psv bv tv sv : Value) (es : List PE) (mb mt ms : List MB) (a bb : Int) (s t u : ByteArray) (at_ : Option Addr) (nt ct : Nat) (h : LW w b psv bv tv sv es mb mt ms) (hs : s.size ≤ maxLen) (hn : (es.length + 1) * 32 ≤ 140737488355328) :
    Calls Tryz.prog 32 #[.pointer (some ⟨b, 0, none⟩), .agg #[.int .i64 1, .int .i64 a, .int .i64 bb, .string s, .string t, .string u, .slice at_ nt ct]] w (Ld2Post s w b psv bv tv sv es mb mt ms) := by
  have b0 := (Below.refl w.heap.size w).alloc (Nat.le_refl _) (.cells #[.int .i64 1, .int .i64 a, .int .i64 bb, .string s, .string t, .string u, .slice at_ nt ct] 26)
  have h0 := h.below b0
  clear h
  go_enter Tryz.func32, Tryz.ntmps32
  go_wp2_with fail
  refine (law_load2 _ b psv bv tv sv es mb mt ms 1 a bb s t u at_ nt ct h0 hs hn).mono ?_
  rintro e w1 ⟨rfl, psv', es', hW, l1, l2, l3, hK⟩
  have L3 := hide l3
  clear l3
  have HK := hide (((Kept.refl (chg b psv bv tv sv) w).alloc _).step hK (fun x hx => .inl hx))
  have HW := hide hW
  clear hK hW h0 b0
  go_wp2_with fail
  go_ret
  exact ⟨rfl, psv', es', unhide HW, l1, l2, unhide L3, unhide HK⟩

theorem Ld2Post.stp {s : ByteArray} {w w' : World} {b : Nat} {psv bv tv sv : Value} {es : List PE} {mb mt ms : List MB} {e : Ending} (h : Ld2Post s w b psv bv tv sv es mb mt ms e w') : StpPost w b psv bv tv sv es mb mt ms e w' := by
  obtain ⟨rfl, psv', es', hW, l1, l2, _, hK⟩ := h
  exact ⟨rfl, psv', bv, tv, sv, es', mb, mt, ms, hW, l1, l2, by omega, by omega, by omega, hK⟩

set_option maxRecDepth 100000 in
set_option maxHeartbeats 8000000 in
theorem stp_ask (w : World) (b : Nat) (psv bv tv sv : Value) (es : List PE) (mb mt ms : List MB) (kd a bb : Int) (s t u : ByteArray) (at_ : Option Addr) (nt ct : Nat) (h : LW w b psv bv tv sv es mb mt ms) (hl : es.length ≤ 1000000000000) (ha : -9223372036854775808 ≤ a ∧ a ≤ 9223372036854775807) (hk : kd = 2 ∨ kd = 3)
    (hask : ∀ (w' : World) (p : PE) (lo : Nat), LW w' b psv bv tv sv es mb mt ms → EntF p.s p.x p.y w' lo → Calls Tryz.prog 50 #[.pointer (some ⟨b, 0, none⟩), .agg #[.int .i64 kd, .int .i64 a, .int .i64 bb, .string s, .string t, .string u, .slice at_ nt ct], .agg #[.pointer (some ⟨p.x, 0, none⟩), .pointer (some ⟨p.y, 0, none⟩), .string p.s]] w' (AskPost w' b psv bv tv sv es mb mt ms)) :
    Calls Tryz.prog 32 #[.pointer (some ⟨b, 0, none⟩), .agg #[.int .i64 kd, .int .i64 a, .int .i64 bb, .string s, .string t, .string u, .slice at_ nt ct]] w (StpPost w b psv bv tv sv es mb mt ms) := by
  have b0 := (Below.refl w.heap.size w).alloc (Nat.le_refl _) (.cells #[.int .i64 kd, .int .i64 a, .int .i64 bb, .string s, .string t, .string u, .slice at_ nt ct] 26)
  have h0 := h.below b0
  have hbx : (w.alloc (.cells #[.int .i64 kd, .int .i64 a, .int .i64 bb, .string s, .string t, .string u, .slice at_ nt ct] 26)).heap[w.heap.size]? = _ := heap_alloc_new w _
  obtain ⟨ap, cp, rfl⟩ := own_slice h0.row
  have hblk := h0.blk
  obtain ⟨p0, pf0⟩ := block_cells hblk 0
  have HA := hide hask
  have K0 := hide ((Kept.refl (chg b (.slice ap es.length cp) bv tv sv) w).alloc (.cells #[.int .i64 kd, .int .i64 a, .int .i64 bb, .string s, .string t, .string u, .slice at_ nt ct] 26))
  have H0 := hide h0
  have hwl : b < w.heap.size := h.lt
  clear hask h b0 hblk h0
  by_cases hne : es.length = 0
  · have hz : es = [] := List.eq_nil_of_length_eq_zero hne
    subst hz
    rcases hk with rfl | rfl
    all_goals
      go_enter Tryz.func32, Tryz.ntmps32
      go_wp2_with fail
      go_ret
      exact ⟨rfl, _, _, _, _, _, _, _, _, unhide H0, by omega, by omega, by omega, by omega, by omega, unhide K0⟩
  · obtain ⟨k, hkl, hpk⟩ := pick_fix a es.length (by omega) hl ha.1 ha.2
    have HPK := hide hpk
    obtain ⟨lo, hent⟩ := ((unhide H0).ent es[k] (List.getElem_mem hkl)).ent
    obtain ⟨g, cap, hv, -, hgl, hnc, hcm, hc⟩ := row_at (f := PE.cells) (fun _ => rfl) (unhide H0).row k hkl
    injection hv with e1 e2 e3
    subst e1 e3
    have q0 := hc 0 (by simp)
    have q1 := hc 1 (by simp)
    have q2 := hc 2 (by simp)
    simp only [PE.cells, Nat.add_zero, List.getElem?_cons_zero, List.getElem?_cons_succ] at q0 q1 q2
    have HE := hide hent
    have hli : (0 : Int) < (es.length : Int) := by omega
    clear hc hpk hent
    generalize es[k] = p at *
    obtain ⟨x0, xf0⟩ := block_cells hbx 0
    obtain ⟨x1, xf1⟩ := block_cells hbx 1
    obtain ⟨x2, xf2⟩ := block_cells hbx 2
    obtain ⟨x3, xf3⟩ := block_cells hbx 3
    obtain ⟨x4, xf4⟩ := block_cells hbx 4
    obtain ⟨x5, xf5⟩ := block_cells hbx 5
    obtain ⟨x6, xf6⟩ := block_cells hbx 6
    clear hbx xf0 xf1 xf2 xf3 xf4 xf5 xf6 hgl
    rcases hk with rfl | rfl
    all_goals
      go_enter Tryz.func32, Tryz.ntmps32
      go_wp2_with fail
      refine still_tail_drew 16 mixedP (by kernel_rfl) fun W hW => ?_
      simp only [List.take_succ_cons, List.take_zero, List.drop_succ_cons, List.drop_zero]
      have P0 : W.cell? ⟨b, 0, none⟩ = some (.slice (some ⟨g, 0, none⟩) es.length cp) := by rw [hW]; exact p0
      have X0 := (congrArg (fun W : World => W.cell? ⟨w.heap.size, 0, none⟩) hW).trans x0
      simp only [List.getElem?_toArray, List.getElem?_cons_zero] at X0
      have X1 : W.cell? ⟨w.heap.size, 1, none⟩ = some (.int .i64 a) := by rw [hW]; exact x1
      have X2 : W.cell? ⟨w.heap.size, 2, none⟩ = some (.int .i64 bb) := by rw [hW]; exact x2
      have X3 : W.cell? ⟨w.heap.size, 3, none⟩ = some (.string s) := by rw [hW]; exact x3
      have X4 : W.cell? ⟨w.heap.size, 4, none⟩ = some (.string t) := by rw [hW]; exact x4
      have X5 : W.cell? ⟨w.heap.size, 5, none⟩ = some (.string u) := by rw [hW]; exact x5
      have X6 : W.cell? ⟨w.heap.size, 6, none⟩ = some (.slice at_ nt ct) := by rw [hW]; exact x6
      have Q0 : W.cell? ⟨g, k * 3, none⟩ = some (.pointer (some ⟨p.x, 0, none⟩)) := by rw [hW]; exact q0
      have Q1 : W.cell? ⟨g, k * 3 + 1, none⟩ = some (.pointer (some ⟨p.y, 0, none⟩)) := by rw [hW]; exact q1
      have Q2 : W.cell? ⟨g, k * 3 + 2, none⟩ = some (.string p.s) := by rw [hW]; exact q2
      have HLW : Hid (LW W b (.slice (some ⟨g, 0, none⟩) es.length cp) bv tv sv es mb mt ms) := by rw [hW]; exact (unhide H0).below ((Below.refl _ _).drew)
      have HEW : Hid (EntF p.s p.x p.y W lo) := by rw [hW]; exact (unhide HE).below ((Below.refl _ _).drew)
      have HKW : Hid (Kept (chg b (.slice (some ⟨g, 0, none⟩) es.length cp) bv tv sv) w W) := by rw [hW]; exact (unhide K0).drew
      clear hW x0 x1 x2 x3 x4 x5 x6 q0 q1 q2 p0 pf0 H0 HE K0
      repeat still_step
      still_call (unhide HPK _)
      repeat still_step
      refine wpStill_nil ?_
      clear Q0 Q1 Q2 X0 X1 X2 X3 X4 X5 X6 P0
      go_wp2_with fail
      refine (unhide HA W p lo (unhide HLW) (unhide HEW)).mono ?_
      rintro e w1 ⟨rfl, bv', tv', sv', mb', mt', ms', hL', l1, l2, l3, hK'⟩
      have HL1 := hide hL'
      have HK1 := hide ((unhide HKW).trans hK')
      clear hL' hK'
      go_wp2_with fail
      go_ret
      exact ⟨rfl, _, bv', tv', sv', es, mb', mt', ms', unhide HL1, Nat.le_refl _, by omega, l1, l2, l3, unhide HK1⟩
end Go.Proofs.YtldkpahaocjdpaaGreat

namespace Go.Proofs.YtldkpahaocjdpaaGreat
open Go.RowKit

set_option maxRecDepth 100000 in
set_option maxHeartbeats 4000000 in
theorem law_step1 (w : World) (b n : Nat) (psv : Value) (a bb : Int) (s t u : ByteArray) (at_ : Option Addr) (nt ct : Nat) (h : WIn w b psv n) (hs : s.size ≤ maxLen) (hn : (n + 1) * 32 ≤ 140737488355328) :
    Calls Tryz.prog 32 #[.pointer (some ⟨b, 0, none⟩), .agg #[.int .i64 1, .int .i64 a, .int .i64 bb, .string s, .string t, .string u, .slice at_ nt ct]] w (LdPost w b n psv s) := by
  have b0 := (Below.refl w.heap.size w).alloc (Nat.le_refl _) (.cells #[.int .i64 1, .int .i64 a, .int .i64 bb, .string s, .string t, .string u, .slice at_ nt ct] 26)
  have h0 := h.below b0
  clear h
  go_enter Tryz.func32, Tryz.ntmps32
  go_wp2_with fail
  refine (law_load _ b n psv 1 a bb s t u at_ nt ct h0 hs hn).mono ?_
  rintro e w1 ⟨rfl, psv', hW, hK⟩
  have HK := hide (((Kept.refl (b :: psv.ownBlock.toList) w).alloc _).step hK (fun x hx => .inl hx))
  have HW := hide hW
  clear hK hW h0 b0
  go_wp2_with fail
  go_ret
  exact ⟨rfl, psv', unhide HW, unhide HK⟩

set_option maxRecDepth 100000 in
set_option maxHeartbeats 4000000 in
theorem law_step0 (w : World) (b : Nat) (a bb : Int) (s t u : ByteArray) (at_ : Option Addr) (nt ct : Nat) :
    Calls Tryz.prog 32 #[.pointer (some ⟨b, 0, none⟩), .agg #[.int .i64 0, .int .i64 a, .int .i64 bb, .string s, .string t, .string u, .slice at_ nt ct]] w fun e w' => e = .returned (.bool true) ∧ Below w.heap.size w w' := by
  have b0 := (Below.refl w.heap.size w).alloc (Nat.le_refl _) (.cells #[.int .i64 0, .int .i64 a, .int .i64 bb, .string s, .string t, .string u, .slice at_ nt ct] 26)
  go_enter Tryz.func32, Tryz.ntmps32
  go_wp2_with fail
  go_ret
  exact ⟨rfl, b0⟩

set_option maxRecDepth 100000 in
set_option maxHeartbeats 4000000 in
theorem law_looks (w : World) (b : Nat) (psv : Value) (hb : w.heap[b]? = some (.cells #[psv, .slice none 0 0, .slice none 0 0, .slice none 0 0] 69 (0, 0))) :
    Calls Tryz.prog 33 #[.pointer (some ⟨b, 1, none⟩)] w fun e w' => e = .returned (.bool true) ∧ w' = w := by
  obtain ⟨x1, xf1⟩ := block_cells hb 1
  obtain ⟨x2, xf2⟩ := block_cells hb 2
  obtain ⟨x3, xf3⟩ := block_cells hb 3
  clear hb
  go_enter Tryz.func33, Tryz.ntmps33
  go_wp2_with fail
  go_loop [3, 4] (fun ok i => ok = .bool true ∧ i = .int .i64 0) (fun _ _ => 0)
  case atStart => exact ⟨rfl, rfl⟩
  case round =>
    obtain ⟨rfl, rfl⟩ := hrel
    go_wp2_with fail
    go_loop [3, 6] (fun ok i => ok = .bool true ∧ i = .int .i64 0) (fun _ _ => 0)
    case atStart => exact ⟨rfl, rfl⟩
    case round =>
      obtain ⟨rfl, rfl⟩ := hrel
      go_wp2_with fail
      go_loop [3, 8] (fun ok i => ok = .bool true ∧ i = .int .i64 0) (fun _ _ => 0)
      case atStart => exact ⟨rfl, rfl⟩
      case round =>
        obtain ⟨rfl, rfl⟩ := hrel
        go_wp2_with fail
        go_ret
        exact ⟨rfl, rfl⟩
end Go.Proofs.YtldkpahaocjdpaaGreat

namespace Go.Proofs.YtldkpahaocjdpaaGreat
open Go.RowKit

/-- One step of a script, as it lies in memory. -/
structure OpV where
  kd : Int
  a : Int
  b : Int
  s : ByteArray
  t : ByteArray
  u : ByteArray
  at_ : Option Addr
  nt : Nat
  ct : Nat

/-- The script's cells. -/
structure Scr (w : World) (sa : Option Addr) (len : Nat) (O : Nat → OpV) : Prop where
  el : ∀ i, i < len → ∃ g off, sa = some ⟨g, off, none⟩ ∧ g < w.heap.size ∧ w.cell? ⟨g, off + i * 7, none⟩ = some (.int .i64 (O i).kd) ∧ w.cell? ⟨g, off + i * 7 + 1, none⟩ = some (.int .i64 (O i).a) ∧ w.cell? ⟨g, off + i * 7 + 2, none⟩ = some (.int .i64 (O i).b) ∧ w.cell? ⟨g, off + i * 7 + 3, none⟩ = some (.string (O i).s) ∧ w.cell? ⟨g, off + i * 7 + 4, none⟩ = some (.string (O i).t) ∧ w.cell? ⟨g, off + i * 7 + 5, none⟩ = some (.string (O i).u) ∧ w.cell? ⟨g, off + i * 7 + 6, none⟩ = some (.slice (O i).at_ (O i).nt (O i).ct) ∧ (O i).s.size ≤ maxLen

theorem Scr.below {w w1 : World} {sa : Option Addr} {len : Nat} {O : Nat → OpV} (h : Scr w sa len O) (hb : Below w.heap.size w w1) : Scr w1 sa len O :=
  ⟨fun i hi => by
    obtain ⟨g, off, h1, h2, c0, c1, c2, c3, c4, c5, c6, h3⟩ := h.el i hi
    have hz := hb.size
    refine ⟨g, off, h1, by omega, ?_, ?_, ?_, ?_, ?_, ?_, ?_, h3⟩
    all_goals (rw [hb.cell (by simpa using h2)]; assumption)⟩

def exText : ByteArray := { data := #[101, 100, 103, 101, 40, 97, 44, 98, 41, 46, 32, 101, 100, 103, 101, 40, 98, 44, 99, 41, 46, 32, 112, 97, 116, 104, 40, 88, 44, 89, 41, 32, 58, 45, 32, 101, 100, 103, 101, 40, 88, 44, 89, 41, 46, 32, 112, 97, 116, 104, 40, 88, 44, 90, 41, 32, 58, 45, 32, 101, 100, 103, 101, 40, 88, 44, 89, 41, 44, 32, 112, 97, 116, 104, 40, 89, 44, 90, 41, 46, 32, 102, 97, 114, 40, 88, 41, 32, 58, 45, 32, 112, 97, 116, 104, 40, 97, 44, 88, 41, 44, 32, 110, 111, 116, 32, 101, 100, 103, 101, 40, 97, 44, 88, 41, 46] }

set_option maxRecDepth 100000 in
theorem ex_ok : (refLoad exText).1 = true := by decide +kernel
set_option maxRecDepth 100000 in
theorem ex_size : exText.size ≤ maxLen := by decide +kernel

set_option maxRecDepth 100000 in
set_option maxHeartbeats 8000000 in
theorem plays_any (w : World) (sa : Option Addr) (len cap : Nat) (O : Nat → OpV) (kb : Nat) (h : Scr w sa len O) (hl : len * 96 ≤ 140737488355328) (hkc0 : w.cell? ⟨kb, 0, none⟩ = some (.int .i64 1)) (hkb : kb < w.heap.size) :
    Calls Tryz.prog 15 #[.agg #[.int .i64 0, .int .i64 0, .int .i64 0, .string { data := #[] }, .string { data := #[] }, .string { data := #[] }, .slice none 0 0], .slice sa len cap, .slice (some ⟨kb, 0, none⟩) 1 1] w fun e w' => e = .returned (.bool true) ∧ Below w.heap.size w w' := by
  have b0 := ((Below.refl w.heap.size w).alloc (Nat.le_refl _) (.cells #[.int .i64 0, .int .i64 0, .int .i64 0, .string { data := #[] }, .string { data := #[] }, .string { data := #[] }, .slice none 0 0] 26)).alloc (by simp) (.cells #[.slice none 0 0, .slice none 0 0, .slice none 0 0, .slice none 0 0] 69)
  have hW0 : WIn ((w.alloc (.cells #[.int .i64 0, .int .i64 0, .int .i64 0, .string { data := #[] }, .string { data := #[] }, .string { data := #[] }, .slice none 0 0] 26)).alloc (.cells #[.slice none 0 0, .slice none 0 0, .slice none 0 0, .slice none 0 0] 69)) (w.heap.size + 1) (.slice none 0 0) 0 := by
    refine ⟨?_, [], World.ownsRow_nil _ _ _ _⟩
    have := heap_alloc_new (w.alloc (.cells #[.int .i64 0, .int .i64 0, .int .i64 0, .string { data := #[] }, .string { data := #[] }, .string { data := #[] }, .slice none 0 0] 26)) (.cells #[.slice none 0 0, .slice none 0 0, .slice none 0 0, .slice none 0 0] 69)
    rw [World.size_alloc] at this
    exact this
  have hbx : ((w.alloc (.cells #[.int .i64 0, .int .i64 0, .int .i64 0, .string { data := #[] }, .string { data := #[] }, .string { data := #[] }, .slice none 0 0] 26)).alloc (.cells #[.slice none 0 0, .slice none 0 0, .slice none 0 0, .slice none 0 0] 69)).heap[w.heap.size]? = some (.cells #[.int .i64 0, .int .i64 0, .int .i64 0, .string { data := #[] }, .string { data := #[] }, .string { data := #[] }, .slice none 0 0] 26 (0, 0)) := by
    rw [Below.heap_alloc _ _ _ (by simp)]
    exact heap_alloc_new w _
  have hS := law_step1 ((w.alloc (.cells #[.int .i64 0, .int .i64 0, .int .i64 0, .string { data := #[] }, .string { data := #[] }, .string { data := #[] }, .slice none 0 0] 26)).alloc (.cells #[.slice none 0 0, .slice none 0 0, .slice none 0 0, .slice none 0 0] 69)) (w.heap.size + 1) 0 (.slice none 0 0) 0 0 exText { data := #[] } { data := #[] } none 0 0 hW0 ex_size (by omega)
  unfold exText at hS
  clear hW0
  go_enter Tryz.func15, Tryz.ntmps15
  go_wp2_with fail
  refine hS.mono ?_
  rintro e w1 ⟨rfl, psv1, hW1, hK1⟩
  have hok : (refLoad { data := #[101, 100, 103, 101, 40, 97, 44, 98, 41, 46, 32, 101, 100, 103, 101, 40, 98, 44, 99, 41, 46, 32, 112, 97, 116, 104, 40, 88, 44, 89, 41, 32, 58, 45, 32, 101, 100, 103, 101, 40, 88, 44, 89, 41, 46, 32, 112, 97, 116, 104, 40, 88, 44, 90, 41, 32, 58, 45, 32, 101, 100, 103, 101, 40, 88, 44, 89, 41, 44, 32, 112, 97, 116, 104, 40, 89, 44, 90, 41, 46, 32, 102, 97, 114, 40, 88, 41, 32, 58, 45, 32, 112, 97, 116, 104, 40, 97, 44, 88, 41, 44, 32, 110, 111, 116, 32, 101, 100, 103, 101, 40, 97, 44, 88, 41, 46] }).1 = true := ex_ok
  rw [hok] at hW1
  have hB1 : Below w.heap.size w w1 := below_kept b0 hK1 (by simp; omega) (by simp [Value.ownBlock])
  have hbx1 := cells_keptT hbx hK1 (by simp [Value.ownBlock])
  have hz1 := hK1.size
  simp at hz1
  obtain ⟨xs1, hrow1⟩ := hW1.row
  obtain ⟨ap1, cp1, rfl⟩ := own_slice hrow1
  obtain ⟨p0, pf0⟩ := block_cells hW1.blk 0
  obtain ⟨y0, yf0⟩ := block_cells hbx1 0
  obtain ⟨y1, yf1⟩ := block_cells hbx1 1
  obtain ⟨y2, yf2⟩ := block_cells hbx1 2
  obtain ⟨y3, yf3⟩ := block_cells hbx1 3
  obtain ⟨y4, yf4⟩ := block_cells hbx1 4
  obtain ⟨y5, yf5⟩ := block_cells hbx1 5
  obtain ⟨y6, yf6⟩ := block_cells hbx1 6
  clear hS hbx hK1 b0 hok hrow1
  go_wp2_with fail
  refine (law_step0 w1 (w.heap.size + 1) 0 0 { data := #[] } { data := #[] } { data := #[] } none 0 0).mono ?_
  rintro e w2 ⟨rfl, hb2⟩
  have hW2 := hW1.below hb2
  have hB2 := hB1.trans (hb2.mono (by omega))
  clear hbx1 hB1 hW1 p0 pf0 y0 y1 y2 y3 y4 y5 y6 yf0 yf1 yf2 yf3 yf4 yf5 yf6 hb2
  have HS := hide h
  clear h
  go_wp2_with fail
  go_loopg [9] len (fun gg i wr => ∃ (k n : Nat) (psv : Value), k ≤ len ∧ gg = len - k ∧ i = .int .i64 k ∧ n ≤ k + 1 ∧ WIn wr (w.heap.size + 1) psv n ∧ Below w.heap.size w wr)
  case atStart => exact ⟨0, 1, _, Nat.zero_le _, rfl, rfl, by omega, hW2, hB2⟩
  case round =>
    clear hW2 hB2 hz1
    obtain ⟨k, n, psv, hk, hgk, rfl, hn, hW, hB⟩ := hrel
    by_cases hlk : k < len
    · obtain ⟨g, off, rfl, hgl0, _⟩ := (unhide HS).el k hlk
      have hli : (k : Int) < len := by omega
      have hO := hide ((unhide HS).el k hlk)
      go_wp2_with fail
      go_loopg [10, 11] 1 (fun gg v i wi => ((v = .bool false ∧ i = .int .i64 0 ∧ gg = 1) ∨ (v = .bool ((O k).kd == 1) ∧ i = .int .i64 1 ∧ gg = 0)) ∧ WIn wi (w.heap.size + 1) psv n ∧ Below w.heap.size w wi)
      case atStart => exact ⟨.inl ⟨rfl, rfl, rfl⟩, hW, hB⟩
      case round =>
        clear hW hB
        obtain ⟨hor, hW, hB⟩ := hrel
        obtain ⟨g', off', hga, hgl, c0, c1, c2, c3, c4, c5, c6, hs8⟩ := ((unhide HS).below hB).el k hlk
        injection hga with hga
        injection hga with h1 h2 _
        subst h1 h2
        have hkc : wr.cell? ⟨kb, 0, none⟩ = some (.int .i64 1) := (hB.cell (by simpa using hkb)).trans hkc0
        have hkz := hB.size
        have HW := hide hW
        have hwlt := hW.lt
        have hwb := hW.blk
        clear hW
        rcases hor with ⟨rfl, rfl, hg0⟩ | ⟨rfl, rfl, hg0⟩
        · clear hwb
          go_wp2_with fail
          go_quiet (fail)
          go_wp2_with fail
          go_roundg 0
          case measure => omega
          case rel => exact ⟨.inr ⟨rfl, rfl, rfl⟩, (unhide HW).below (below_drewN (Below.refl _ _) _), below_drewN hB _⟩
        · cases hkd : (O k).kd == 1 with
          | false =>
            clear hkd hwb
            go_wp2_with fail
            go_roundg (len - (k + 1))
            case measure => omega
            case rel => exact ⟨k + 1, n, psv, by omega, rfl, by go_num, by omega, unhide HW, hB⟩
          | true =>
            have hk1 : (O k).kd = 1 := by simpa using hkd
            rw [hk1] at c0
            clear hkd hwb
            go_wp2_with fail
            refine (law_step1 wr (w.heap.size + 1) n psv (O k).a (O k).b (O k).s (O k).t (O k).u (O k).at_ (O k).nt (O k).ct (unhide HW) hs8 (by omega)).mono ?_
            rintro e w3 ⟨rfl, psv3, hW3, hK3⟩
            obtain ⟨xs, hrow⟩ := (unhide HW).row
            have hB3 : Below w.heap.size w w3 := below_kept hB hK3 hkz (fun x hx => by
              rcases List.mem_cons.1 hx with rfl | hx
              · omega
              · have := (hrow.lt x (by simpa using hx)).1; omega)
            have hn3 : (n + if (refLoad (O k).s).1 then 1 else 0) ≤ k + 1 + 1 := by split <;> omega
            have hwb3 := hW3.blk
            have hwl3 := hW3.lt
            have HW3 := hide hW3
            clear hK3 hrow c0 c1 c2 c3 c4 c5 c6 hkc hB HW hW3
            generalize (n + if (refLoad (O k).s).1 then 1 else 0) = n3 at *
            go_wp2_with fail
            refine (law_looks w3 (w.heap.size + 1) psv3 hwb3).mono ?_
            rintro e w4 ⟨rfl, rfl⟩
            clear hwb3
            go_wp2_with fail
            go_roundg (len - (k + 1))
            case measure => omega
            case rel => exact ⟨k + 1, n3, psv3, by omega, rfl, by go_num, by omega, unhide HW3, hB3⟩
    · go_wp2_with fail
      go_ret
      exact ⟨rfl, hB⟩
end Go.Proofs.YtldkpahaocjdpaaGreat
