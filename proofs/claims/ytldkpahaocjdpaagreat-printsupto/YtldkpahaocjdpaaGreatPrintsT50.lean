/-
  Proved here: whatever script of steps is handed in, affidavitlaw.Prints answers true, and the script reads afterwards as it read before. Condition: what is handed in is of bulk at most 1048576 (the second form).
-/
import Derived.Test.YtldkpahaocjdpaaGreatPrintsT02
import Derived.Test.YtldkpahaocjdpaaGreatPrintsT49
namespace Go.Proofs.YtldkpahaocjdpaaGreat
open Go.ChangeShapes Go.WideShapes Go.ChangeAt Go.RowKit Go.Deep

theorem op0_ok (k : Int) : OpOk ⟨k, 0, 0, { data := #[] }, { data := #[] }, { data := #[] }, none, 0, 0⟩ := ⟨by simp, by simp, by simp [ByteArray.size], by simp [ByteArray.size], by simp [ByteArray.size]⟩

theorem step_prints (w0 : World) (o : OpV) (h : OpOk o) (hk : o.kd ∈ ([1, 2, 3] : List Int)) : StepOk w0 o := by
  simp only [List.mem_cons, List.not_mem_nil, or_false] at hk
  rcases hk with hk | hk | hk
  · exact step_load w0 o h hk
  · exact step_print w0 o h hk
  · exact step_strata w0 o h hk

set_option maxRecDepth 100000 in
set_option maxHeartbeats 4000000 in
theorem prints_any (w : World) (sa : Option Addr) (len cap : Nat) (O : Nat → OpV) (h : Scr w sa len O) (hok : ∀ i, i < len → OpOk (O i)) (hl : len ≤ 1048576) :
    Calls Tryz.prog 4 #[.slice sa len cap] w (StillPost w) := by
  have b0 := (Below.refl w.heap.size w).alloc (Nat.le_refl _) (.cells #[.int .i64 1, .int .i64 2, .int .i64 3] 3)
  have hk : ∀ j (hj : j < ([1, 2, 3] : List Int).length), (w.alloc (.cells #[.int .i64 1, .int .i64 2, .int .i64 3] 3)).cell? ⟨w.heap.size, j, none⟩ = some (.int .i64 ([1, 2, 3] : List Int)[j]) := fun j hj => by
    rw [World.cell?_alloc_at _ _ _ _ rfl]
    match j, hj with
    | 0, _ => rfl
    | 1, _ => rfl
    | 2, _ => rfl
  have hP := hide (plays_gen w _ b0 2 0 0 { data := #[] } { data := #[] } { data := #[] } none 0 0 sa len cap O w.heap.size [1, 2, 3] (h.below b0) hl hk (by simp) (by simp) (step_prints w _ (op0_ok 2) (by simp)) (fun i hi hm => step_prints w (O i) (hok i hi) hm) looks_ok)
  clear h hok hk
  go_enter Tryz.func4, Tryz.ntmps4
  go_wp2_with fail
  refine (unhide hP).mono ?_
  rintro e w1 ⟨rfl, hb1⟩
  have HB := hide (b0.trans (hb1.mono (by simp)))
  clear hb1 b0 hP
  go_wp2_with fail
  go_ret
  exact ⟨rfl, unhide HB⟩

set_option maxHeartbeats 1600000 in
set_option maxRecDepth 100000 in
theorem prints_lifted (os : Os) (started : os.Started) (H : Type) (enc : TypeId × Value → H) (F : Stop.Interp) :
    ReturnsInHanded {} Tryz.checked os 4 .any ((Rows.OpenSpec.upto Rows.printsSpec).pre6 enc Tryz.prog Tryz.f4 Rows.printsUptoRow.domain false) (((Rows.OpenSpec.upto Rows.printsSpec).at F).post enc Tryz.prog Tryz.f4 false true false false) := by
  refine returnsInHanded_of_cond (C := Tryz.checked) (s := Rows.OpenSpec.upto Rows.printsSpec) (k := Rows.uptoSmall) rfl own2 started (by kernel_rfl) Tryz.func4
    (OpenSpec.witness (enc := enc) (C := Tryz.checked) (s := Rows.OpenSpec.upto Rows.printsSpec) (k := Rows.uptoSmall) rfl false ⟨#[], #[.slice none 0 0], []⟩ 8 (by kernel_rfl) (by kernel_rfl) (by kernel_rfl)
      (x := ([.nil], [], [])) (by kernel_rfl) rfl (by kernel_rfl)) ?_
  intro W base args ds gs before hval0 hW _ hk _
  have hval : ∀ (j : Nat) t v, Tryz.f4.params[j]? = some t → args[j]? = some v → Value.okWide Tryz.prog W .any base t v := hval0
  have hW' := hW
  obtain ⟨p, q, hA0, hV, rfl, _, _⟩ := hW
  have hA : DataW.TrodAll enc Tryz.prog W 0 (fun _ => true) true Tryz.f4.params.toList args.toList ds p := hA0
  rw [Tryz.params4] at hA hval
  obtain ⟨v0, d0, rfl, rfl, h0⟩ := trodAll_one hA
  obtain ⟨rfl, rfl⟩ := trodVars_none hV
  clear hA0 hval0
  simp only [List.append_nil] at hW' hk
  have hlt : ∀ x ∈ p, x.block < W.heap.size := fun x hx => by simpa using hW'.lt x hx
  obtain ⟨a0, len, cap, rfl⟩ := okWide_slice Tryz.underlying22 (hval 0 22 v0 rfl rfl)
  have hargs : ∀ (W' : World), Below W.heap.size W W' → DataW.Trod enc Tryz.prog W' 0 (fun b => decide (b < W.heap.size)) true 22 (.slice a0 len cap) d0 p :=
    fun W' hn => Below.trod laid2 (by kernel_rfl) (of_decide_eq_true (by kernel_rfl)) h0 hn hlt
  have hb : Rows.uptoBulk d0 ≤ 1048576 := by
    have h := of_decide_eq_true hk
    simp only [Rows.uptoBulkAll] at h
    omega
  obtain ⟨O, hO, hok, hlen⟩ := open_script h0 hb
  refine (prints_any W a0 len cap O hO hok hlen).mono fun e W' ⟨he, hB⟩ => ?_
  subst he
  exact ⟨_, rfl, ⟨_, _, _, [], p, [], hW', trodAll_mk1 (shut_bool Tryz.underlying4 true), trodAll_mk1 (hargs _ hB), rfl, hB.frame _, fun h => by cases h⟩⟩

theorem prints_holds : Rows.PrintsUptoSaid :=
  OpenClaim.holds_of_cond 4 Tryz.f4 rfl rfl rfl rfl rfl rfl rfl ⟨rfl, rfl, rfl, rfl, rfl⟩ rfl rfl rfl rfl rfl prints_fnamed Tryz.func4 prints_facts
    (of_decide_eq_true (by kernel_rfl)) (by unfold Func.isWrapper; first | (rw [if_pos (by decide +kernel)]; kernel_rfl) | (rw [if_neg (by decide +kernel)]; exact ⟨rfl, rfl⟩))
    (fun os started H enc _ F => prints_lifted os started H enc F)
#print axioms prints_holds
end Go.Proofs.YtldkpahaocjdpaaGreat
