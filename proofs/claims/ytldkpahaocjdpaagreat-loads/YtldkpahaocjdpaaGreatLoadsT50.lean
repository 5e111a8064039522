/-
  Proved here: whatever script of steps is handed in, affidavitlaw.Loads answers true, and the script reads afterwards as it read before. Conditions: none beyond the form's own.
-/
import Derived.Test.YtldkpahaocjdpaaGreatLoadsT02
import Derived.Test.YtldkpahaocjdpaaGreatLoadsT49
import Derived.Test.YtldkpahaocjdpaaGreatRows
import Derived.ProofKit
import Derived.SizedLaws
import Derived.ChangeSlices
import Derived.Deep.Slices
import Derived.Deep.Strs
namespace Go.Proofs.YtldkpahaocjdpaaGreat
open Go.ChangeShapes Go.WideShapes Go.ChangeAt Go.RowKit Go.Deep

theorem ownKn : ownKnob Tryz.prog.godebug = none := by kernel_rfl
theorem laidOutP : laidOutB Tryz.prog = true := by kernel_rfl
theorem cellsOp : Tryz.prog.cellsOf 26 = 7 := by kernel_rfl
theorem bytesOp : Tryz.prog.bytesOf 26 = 96 := by kernel_rfl
theorem cellsInt : Tryz.prog.cellsOf 3 = 1 := by kernel_rfl
theorem cellsStr : Tryz.prog.cellsOf 9 = 1 := by kernel_rfl
theorem cellsInts : Tryz.prog.cellsOf 24 = 1 := by kernel_rfl

set_option maxRecDepth 100000 in
set_option maxHeartbeats 4000000 in
theorem loads_any (w : World) (sa : Option Addr) (len cap : Nat) (O : Nat → OpV) (h : Scr w sa len O) (hl : len * 96 ≤ 140737488355328) :
    Calls Tryz.prog 3 #[.slice sa len cap] w fun e w' => e = .returned (.bool true) ∧ Below w.heap.size w w' := by
  have b0 := (Below.refl w.heap.size w).alloc (Nat.le_refl _) (.cells #[.int .i64 1] 3)
  have h0 := h.below b0
  have hk : (w.alloc (.cells #[.int .i64 1] 3)).cell? ⟨w.heap.size, 0, none⟩ = some (.int .i64 1) := by rw [World.cell?_alloc_at _ _ _ _ rfl]; rfl
  clear h
  go_enter Tryz.func3, Tryz.ntmps3
  go_wp2_with fail
  refine (plays_any _ sa len cap O w.heap.size h0 hl hk (by simp)).mono ?_
  rintro e w1 ⟨rfl, hb1⟩
  have HB := hide (b0.trans (hb1.mono (by simp)))
  clear hb1 b0 h0 hk
  go_wp2_with fail
  go_ret
  exact ⟨rfl, unhide HB⟩

set_option maxRecDepth 10000 in
/-- One step of the script, opened. -/
theorem open_op {H : Type} {enc : TypeId × Value → H} {W : World} {base n g off : Nat} {cs : List Value} {x : DataW H × List MemPlace} {spare : Nat → Bool} {held : Bool} (hc : W.cells? base ⟨g, off, none⟩ 7 = some cs) (ht : DataW.trod enc Tryz.prog W base spare held n 26 cs = some x) :
    ∃ o : OpV, W.cell? ⟨g, off, none⟩ = some (.int .i64 o.kd) ∧ W.cell? ⟨g, off + 1, none⟩ = some (.int .i64 o.a) ∧ W.cell? ⟨g, off + 2, none⟩ = some (.int .i64 o.b) ∧ W.cell? ⟨g, off + 3, none⟩ = some (.string o.s) ∧ W.cell? ⟨g, off + 4, none⟩ = some (.string o.t) ∧ W.cell? ⟨g, off + 5, none⟩ = some (.string o.u) ∧ W.cell? ⟨g, off + 6, none⟩ = some (.slice o.at_ o.nt o.ct) ∧ o.s.size ≤ maxLen := by
  obtain ⟨_, hl7, hcell⟩ := World.cells?_some hc
  obtain ⟨xs, m, _, _, hlen, hxl, hf⟩ := DataW.trod_struct Tryz.underlying26 ht
  obtain ⟨c0, c1, c2, c3, c4, c5, c6, rfl⟩ : ∃ c0 c1 c2 c3 c4 c5 c6, cs = [c0, c1, c2, c3, c4, c5, c6] := by
    match cs, hl7 with
    | [c0, c1, c2, c3, c4, c5, c6], _ => exact ⟨c0, c1, c2, c3, c4, c5, c6, rfl⟩
  obtain ⟨y0, y1, y2, y3, y4, y5, y6, rfl⟩ : ∃ y0 y1 y2 y3 y4 y5 y6, xs = [y0, y1, y2, y3, y4, y5, y6] := by
    match xs, hxl with
    | [y0, y1, y2, y3, y4, y5, y6], _ => exact ⟨y0, y1, y2, y3, y4, y5, y6, rfl⟩
  have f0 := hf 0 { name := "Kind", type := 3, offset := 0, embedded := false, tag := "", pkgPath := "", byteOffset := 0 } rfl
  have f1 := hf 1 { name := "A", type := 3, offset := 1, embedded := false, tag := "", pkgPath := "", byteOffset := 8 } rfl
  have f2 := hf 2 { name := "B", type := 3, offset := 2, embedded := false, tag := "", pkgPath := "", byteOffset := 16 } rfl
  have f3 := hf 3 { name := "S", type := 9, offset := 3, embedded := false, tag := "", pkgPath := "", byteOffset := 24 } rfl
  have f4 := hf 4 { name := "T", type := 9, offset := 4, embedded := false, tag := "", pkgPath := "", byteOffset := 40 } rfl
  have f5 := hf 5 { name := "U", type := 9, offset := 5, embedded := false, tag := "", pkgPath := "", byteOffset := 56 } rfl
  have f6 := hf 6 { name := "Turns", type := 24, offset := 6, embedded := false, tag := "", pkgPath := "", byteOffset := 72 } rfl
  simp only [cellsInt, cellsStr, cellsInts, List.drop_zero, List.drop_succ_cons, List.take_succ_cons, List.take_zero, List.getElem?_cons_zero, List.getElem?_cons_succ] at f0 f1 f2 f3 f4 f5 f6
  obtain ⟨k0, e0, _, _⟩ := DataW.trod_int Tryz.underlying3 f0
  obtain ⟨k1, e1, _, _⟩ := DataW.trod_int Tryz.underlying3 f1
  obtain ⟨k2, e2, _, _⟩ := DataW.trod_int Tryz.underlying3 f2
  obtain ⟨s3, e3, _, hs3⟩ := DataW.trod_string Tryz.underlying9 f3
  obtain ⟨s4, e4, _, _⟩ := DataW.trod_string Tryz.underlying9 f4
  obtain ⟨s5, e5, _, _⟩ := DataW.trod_string Tryz.underlying9 f5
  have e6 : ∃ a n c, c6 = .slice a n c := by
    rcases DataW.trod_slice Tryz.underlying24 f6 with ⟨h, _⟩ | ⟨a, len, cap, _, _, _, _, h, _⟩
    · injection h with h; exact ⟨_, _, _, h⟩
    · injection h with h; exact ⟨_, _, _, h⟩
  obtain ⟨a6, n6, c6', rfl⟩ := e6
  injection e0 with e0
  injection e1 with e1
  injection e2 with e2
  injection e3 with e3
  injection e4 with e4
  injection e5 with e5
  subst e0 e1 e2 e3 e4 e5
  have d0 := hcell 0 (by omega)
  have d1 := hcell 1 (by omega)
  have d2 := hcell 2 (by omega)
  have d3 := hcell 3 (by omega)
  have d4 := hcell 4 (by omega)
  have d5 := hcell 5 (by omega)
  have d6 := hcell 6 (by omega)
  simp only [Addr.add, List.getElem?_cons_zero, List.getElem?_cons_succ] at d0 d1 d2 d3 d4 d5 d6
  exact ⟨⟨k0, k1, k2, s3, s4, s5, a6, n6, c6'⟩, by simpa using d0, by simpa using d1, by simpa using d2, by simpa using d3, by simpa using d4, by simpa using d5, by simpa using d6, hs3⟩

set_option maxHeartbeats 1600000 in
set_option maxRecDepth 100000 in
theorem loads_lifted (os : Os) (started : os.Started) (H : Type) (enc : TypeId × Value → H) :
    ReturnsInHanded {} Tryz.checked os 3 .any (Rows.loadsSpec.pre6 enc Tryz.prog Tryz.f3 Rows.loadsRow.domain false) (Rows.loadsSpec.post enc Tryz.prog Tryz.f3 false true false false) := by
  refine returnsInHanded_of_change_sized (C := Tryz.checked) ownKn started (by kernel_rfl) Tryz.func3
    (ChangeSpec.witness6 (enc := enc) (C := Tryz.checked) false ⟨#[], #[.slice none 0 0], []⟩ 8 (by kernel_rfl) (by kernel_rfl) (by kernel_rfl) (by kernel_rfl)) ?_
  intro W base args ds gs before hval0 hW _ hsz0 _
  have hsz : (DataW.weightsEach Tryz.prog (Tryz.f3.params.toList ++ Rows.loadsSpec.plain.varTypes Tryz.prog) (ds ++ gs)).all (· ≤ reachBytes) = true := hsz0
  clear hsz0
  have hval : ∀ (j : Nat) t v, Tryz.f3.params[j]? = some t → args[j]? = some v → Value.okWide Tryz.prog W .any base t v := hval0
  have hW' := hW
  obtain ⟨p, q, hA0, hV, rfl, _, _⟩ := hW
  have hA : DataW.TrodAll enc Tryz.prog W 0 (fun _ => true) true Tryz.f3.params.toList args.toList ds p := hA0
  rw [Tryz.params3] at hA hval hsz
  obtain ⟨v0, d0, rfl, rfl, h0⟩ := trodAll_one hA
  obtain ⟨rfl, rfl⟩ := trodVars_none hV
  have h0k := h0
  obtain ⟨fuel, hf⟩ := h0
  clear hA0 hval0
  simp only [List.append_nil] at hW'
  have hlt : ∀ x ∈ p, x.block < W.heap.size := fun x hx => by simpa using hW'.lt x hx
  obtain ⟨a0, len, cap, rfl⟩ := okWide_slice Tryz.underlying22 (hval 0 22 v0 rfl rfl)
  have hargs : ∀ (W' : World), Below W.heap.size W W' → DataW.Trod enc Tryz.prog W' 0 (fun b => decide (b < W.heap.size)) true 22 (.slice a0 len cap) d0 p :=
    fun W' hn => Below.trod laidOutP (by kernel_rfl) (of_decide_eq_true (by kernel_rfl)) h0k hn hlt
  have key : ∃ O : Nat → OpV, Scr W a0 len O ∧ len * 96 ≤ 140737488355328 := by
    rcases open_slice Tryz.underlying22 hf with ⟨hcs, hx⟩ | ⟨a, len', cap', m, n, D, Pl, hcs, _, hl, hm, hmm, hx, hel⟩
    · simp [Value.cells] at hcs
      obtain ⟨rfl, rfl, rfl⟩ := hcs
      exact ⟨fun _ => ⟨0, 0, 0, { data := #[] }, { data := #[] }, { data := #[] }, none, 0, 0⟩, ⟨fun i hi => by omega⟩, by omega⟩
    · simp [Value.cells] at hcs
      obtain ⟨rfl, rfl, rfl⟩ := hcs
      simp only [Prod.mk.injEq] at hx
      obtain ⟨rfl, rfl⟩ := hx
      simp only [if_true] at hmm
      subst hmm
      have hreach : len * 96 ≤ 140737488355328 := by
        have := sized_slice hsz (j := 0) (t := 22) (e := 26) rfl rfl Tryz.underlying22
        rw [bytesOp] at this
        simp only [List.length_map, List.length_range, reachBytes] at this
        omega
      obtain ⟨g, off, sp⟩ := a
      have hsp : 0 < len → sp = none := fun h => by
        obtain ⟨cs', hc, _⟩ := hel 0 (by omega)
        rw [cellsOp] at hc
        obtain ⟨_, hl7, hcell⟩ := World.cells?_some hc
        obtain ⟨c0, r, rfl⟩ : ∃ c0 r, cs' = c0 :: r := by
          match cs', hl7 with
          | c0 :: r, _ => exact ⟨c0, r, rfl⟩
        have c0raw := hcell 0 (by omega)
        simpa [Addr.add] using World.cell?_spot c0raw
      have each : ∀ i, i < len → ∃ o : OpV, W.cell? ⟨g, off + i * 7, none⟩ = some (.int .i64 o.kd) ∧ W.cell? ⟨g, off + i * 7 + 1, none⟩ = some (.int .i64 o.a) ∧ W.cell? ⟨g, off + i * 7 + 2, none⟩ = some (.int .i64 o.b) ∧ W.cell? ⟨g, off + i * 7 + 3, none⟩ = some (.string o.s) ∧ W.cell? ⟨g, off + i * 7 + 4, none⟩ = some (.string o.t) ∧ W.cell? ⟨g, off + i * 7 + 5, none⟩ = some (.string o.u) ∧ W.cell? ⟨g, off + i * 7 + 6, none⟩ = some (.slice o.at_ o.nt o.ct) ∧ o.s.size ≤ maxLen := by
        intro i hi
        obtain ⟨cs', hc, ht⟩ := hel i (by omega)
        rw [cellsOp] at hc
        have hs := hsp (by omega)
        subst hs
        have e : (⟨g, off, none⟩ : Addr).add (i * 7) = ⟨g, off + i * 7, none⟩ := by unfold Addr.add; split <;> simp_all
        rw [e] at hc
        exact open_op hc ht
      refine ⟨fun i => if h : i < len then Classical.choose (each i h) else ⟨0, 0, 0, { data := #[] }, { data := #[] }, { data := #[] }, none, 0, 0⟩, ⟨fun i hi => ?_⟩, hreach⟩
      have hc := Classical.choose_spec (each i hi)
      have hs := hsp (by omega)
      subst hs
      simp only [dif_pos hi]
      exact ⟨g, off, rfl, World.block_lt_of_cell? W _ hc.1, hc⟩
  obtain ⟨O, hO, hreach⟩ := key
  refine (loads_any W a0 len cap O hO hreach).mono fun e W' ⟨he, hB⟩ => ?_
  subst he
  exact ⟨_, rfl, ⟨_, _, _, [], p, [], hW', trodAll_mk1 (shut_bool Tryz.underlying4 true), trodAll_mk1 (hargs _ hB), rfl, hB.frame _, fun h => by cases h⟩⟩

theorem loads_holds : Rows.LoadsSaid :=
  OpenClaim.holds_of_wide 3 Tryz.f3 rfl rfl rfl rfl rfl rfl rfl ⟨rfl, rfl, rfl, rfl, rfl⟩ rfl rfl rfl rfl rfl loads_fnamed Tryz.func3 loads_facts
    (of_decide_eq_true (by kernel_rfl)) (by unfold Func.isWrapper; first | (rw [if_pos (by decide +kernel)]; kernel_rfl) | (rw [if_neg (by decide +kernel)]; exact ⟨rfl, rfl⟩))
    (fun os started H enc _ => loads_lifted os started H enc)
#print axioms loads_holds
end Go.Proofs.YtldkpahaocjdpaaGreat
