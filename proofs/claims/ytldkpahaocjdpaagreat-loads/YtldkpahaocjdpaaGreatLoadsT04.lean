/-
  The program's scan and what it calls (package read): HasPrefix, signAt, nameAt, variableAt, measure, scan: the plain text's tokens (ReadScanS).
-/
import Derived.Test.YtldkpahaocjdpaaGreatLoadsT03
namespace Go.Proofs.YtldkpahaocjdpaaGreat
open Go.RowKit

def prefB (r p : ByteArray) : Bool := decide (p.size ≤ r.size) && (r.extract 0 p.size).toList == p.toList

set_option maxHeartbeats 400000 in
theorem slitePrefix_any (r p : ByteArray) (w : World) :
    Calls Tryz.prog 239 #[.string r, .string p] w fun e w' => e = .returned (.bool (prefB r p)) ∧ w' = w := by
  by_cases h : p.size ≤ r.size
  · go_enter Tryz.func239, Tryz.ntmps239
    go_wp2
    go_ret
    exact ⟨by simp [prefB, h], rfl⟩
  · go_enter Tryz.func239, Tryz.ntmps239
    go_wp2
    go_ret
    exact ⟨by simp [prefB]; omega, rfl⟩

set_option maxHeartbeats 400000 in
theorem prefix_any (r p : ByteArray) (w : World) :
    Calls Tryz.prog 220 #[.string r, .string p] w fun e w' => e = .returned (.bool (prefB r p)) ∧ w' = w := by
  go_enter Tryz.func220, Tryz.ntmps220
  go_wp2_with fail
  refine (slitePrefix_any r p _).mono ?_
  rintro e w1 ⟨rfl, rfl⟩
  go_wp2_with fail
  go_ret
  exact ⟨rfl, rfl⟩

set_option maxRecDepth 100000 in
set_option maxHeartbeats 4000000 in
theorem sign_any (r : ByteArray) (w : World) :
    Calls Tryz.prog 174 #[.string r] w fun e w' => e = .returned (.tuple #[.int .i64 (signK r).1, .int .i64 (signK r).2]) ∧ w' = w := by
  have e1 : ∀ c : UInt8, prefB r { data := #[c] } = decide (1 ≤ r.size ∧ (r.extract 0 1).toList = [c]) := fun c => by
    have h1 : (ByteArray.mk #[c]).size = 1 := rfl
    have h2 : (ByteArray.mk #[c]).toList = [c] := by rw [ByteArray.toList_eq]
    rw [Bool.eq_iff_iff]; simp only [prefB, h1, h2, Bool.and_eq_true, decide_eq_true_eq, beq_iff_eq]
  have e2 : prefB r { data := #[58, 45] } = decide (2 ≤ r.size ∧ (r.extract 0 2).toList = [58, 45]) := by
    have h1 : (ByteArray.mk #[58, 45]).size = 2 := rfl
    have h2 : (ByteArray.mk #[58, 45]).toList = [58, 45] := by rw [ByteArray.toList_eq]
    rw [Bool.eq_iff_iff]; simp only [prefB, h1, h2, Bool.and_eq_true, decide_eq_true_eq, beq_iff_eq]
  have hK : signK r = if prefB r { data := #[40] } then (5, 1) else if prefB r { data := #[41] } then (6, 1) else if prefB r { data := #[44] } then (7, 1) else if prefB r { data := #[46] } then (8, 1) else if prefB r { data := #[58, 45] } then (9, 2) else (1, 1) := by
    rw [e1, e1, e1, e1, e2]; unfold signK; simp only [decide_eq_true_eq]
  have HK := hide hK
  clear e1 e2 hK
  cases b1 : prefB r { data := #[40] } with
  | true =>
    have HF := hide (show signK r = (5, 1) by rw [unhide HK, b1]; rfl)
    clear HK
    go_enter Tryz.func174, Tryz.ntmps174
    go_wp2_with fail
    refine (prefix_any r _ _).mono ?_
    rintro e w1 ⟨rfl, rfl⟩
    go_wp2_with fail
    go_ret2
    exact ⟨by rw [unhide HF]; rfl, rfl⟩
  | false =>
  cases b2 : prefB r { data := #[41] } with
  | true =>
    have HF := hide (show signK r = (6, 1) by rw [unhide HK, b1, b2]; rfl)
    clear HK
    go_enter Tryz.func174, Tryz.ntmps174
    go_wp2_with fail
    refine (prefix_any r _ _).mono ?_
    rintro e w1 ⟨rfl, rfl⟩
    go_wp2_with fail
    refine (prefix_any r _ _).mono ?_
    rintro e w1 ⟨rfl, rfl⟩
    go_wp2_with fail
    go_ret2
    exact ⟨by rw [unhide HF]; rfl, rfl⟩
  | false =>
  cases b3 : prefB r { data := #[44] } with
  | true =>
    have HF := hide (show signK r = (7, 1) by rw [unhide HK, b1, b2, b3]; rfl)
    clear HK
    go_enter Tryz.func174, Tryz.ntmps174
    go_wp2_with fail
    refine (prefix_any r _ _).mono ?_
    rintro e w1 ⟨rfl, rfl⟩
    go_wp2_with fail
    refine (prefix_any r _ _).mono ?_
    rintro e w1 ⟨rfl, rfl⟩
    go_wp2_with fail
    refine (prefix_any r _ _).mono ?_
    rintro e w1 ⟨rfl, rfl⟩
    go_wp2_with fail
    go_ret2
    exact ⟨by rw [unhide HF]; rfl, rfl⟩
  | false =>
  cases b4 : prefB r { data := #[46] } with
  | true =>
    have HF := hide (show signK r = (8, 1) by rw [unhide HK, b1, b2, b3, b4]; rfl)
    clear HK
    go_enter Tryz.func174, Tryz.ntmps174
    go_wp2_with fail
    refine (prefix_any r _ _).mono ?_
    rintro e w1 ⟨rfl, rfl⟩
    go_wp2_with fail
    refine (prefix_any r _ _).mono ?_
    rintro e w1 ⟨rfl, rfl⟩
    go_wp2_with fail
    refine (prefix_any r _ _).mono ?_
    rintro e w1 ⟨rfl, rfl⟩
    go_wp2_with fail
    refine (prefix_any r _ _).mono ?_
    rintro e w1 ⟨rfl, rfl⟩
    go_wp2_with fail
    go_ret2
    exact ⟨by rw [unhide HF]; rfl, rfl⟩
  | false =>
  cases b5 : prefB r { data := #[58, 45] } with
  | true =>
    have HF := hide (show signK r = (9, 2) by rw [unhide HK, b1, b2, b3, b4, b5]; rfl)
    clear HK
    go_enter Tryz.func174, Tryz.ntmps174
    go_wp2_with fail
    refine (prefix_any r _ _).mono ?_
    rintro e w1 ⟨rfl, rfl⟩
    go_wp2_with fail
    refine (prefix_any r _ _).mono ?_
    rintro e w1 ⟨rfl, rfl⟩
    go_wp2_with fail
    refine (prefix_any r _ _).mono ?_
    rintro e w1 ⟨rfl, rfl⟩
    go_wp2_with fail
    refine (prefix_any r _ _).mono ?_
    rintro e w1 ⟨rfl, rfl⟩
    go_wp2_with fail
    refine (prefix_any r _ _).mono ?_
    rintro e w1 ⟨rfl, rfl⟩
    go_wp2_with fail
    go_ret2
    exact ⟨by rw [unhide HF]; rfl, rfl⟩
  | false =>
    have HF := hide (show signK r = (1, 1) by rw [unhide HK, b1, b2, b3, b4, b5]; rfl)
    clear HK
    go_enter Tryz.func174, Tryz.ntmps174
    go_wp2_with fail
    refine (prefix_any r _ _).mono ?_
    rintro e w1 ⟨rfl, rfl⟩
    go_wp2_with fail
    refine (prefix_any r _ _).mono ?_
    rintro e w1 ⟨rfl, rfl⟩
    go_wp2_with fail
    refine (prefix_any r _ _).mono ?_
    rintro e w1 ⟨rfl, rfl⟩
    go_wp2_with fail
    refine (prefix_any r _ _).mono ?_
    rintro e w1 ⟨rfl, rfl⟩
    go_wp2_with fail
    refine (prefix_any r _ _).mono ?_
    rintro e w1 ⟨rfl, rfl⟩
    go_wp2_with fail
    go_ret2
    exact ⟨by rw [unhide HF]; rfl, rfl⟩
set_option maxHeartbeats 2000000 in
theorem name_any (r : ByteArray) (hr : r.size ≤ maxLen) (w : World) :
    Calls Tryz.prog 171 #[.string r] w fun e w' => e = .returned (.tuple #[.int .i64 (nameK r).1, .int .i64 (nameK r).2]) ∧ w' = w := by
  have hle := skip_le lowB r 0 (Nat.zero_le _)
  have hr' := hr
  unfold maxLen at hr'
  by_cases h8 : 8 < skip lowB r 0
  · have HF := hide (show nameK r = (1, skip lowB r 0) by unfold nameK; rw [if_pos h8])
    go_enter Tryz.func171, Tryz.ntmps171
    go_wp2_with fail
    refine (rowSmall_any r hr _).mono ?_
    rintro e w1 ⟨rfl, rfl⟩
    go_wp2_with fail
    go_ret2
    exact ⟨by rw [unhide HF]; rfl, rfl⟩
  · cases hn : (r.extract 0 (skip lowB r 0)).toList == [110, 111, 116] with
    | true =>
      have HF := hide (show nameK r = (4, skip lowB r 0) by unfold nameK; rw [if_neg h8, if_pos (eq_of_beq hn)])
      go_enter Tryz.func171, Tryz.ntmps171
      go_wp2_with fail
      refine (rowSmall_any r hr _).mono ?_
      rintro e w1 ⟨rfl, rfl⟩
      go_wp2_with fail
      go_ret2
      exact ⟨by rw [unhide HF]; rfl, rfl⟩
    | false =>
      have HF := hide (show nameK r = (2, skip lowB r 0) by unfold nameK; rw [if_neg h8, if_neg (by intro e; rw [e] at hn; simp at hn)])
      go_enter Tryz.func171, Tryz.ntmps171
      go_wp2_with fail
      refine (rowSmall_any r hr _).mono ?_
      rintro e w1 ⟨rfl, rfl⟩
      go_wp2_with fail
      go_ret2
      exact ⟨by rw [unhide HF]; rfl, rfl⟩

set_option maxHeartbeats 2000000 in
theorem variable_any (r : ByteArray) (hr : r.size ≤ maxLen) (w : World) :
    Calls Tryz.prog 173 #[.string r] w fun e w' => e = .returned (.tuple #[.int .i64 (varK r).1, .int .i64 (varK r).2]) ∧ w' = w := by
  by_cases h8 : 8 < skip highB r 0
  · have HF := hide (show varK r = (1, skip highB r 0) by unfold varK; rw [if_pos h8])
    go_enter Tryz.func173, Tryz.ntmps173
    go_wp2_with fail
    refine (rowCapital_any r hr _).mono ?_
    rintro e w1 ⟨rfl, rfl⟩
    go_wp2_with fail
    go_ret2
    exact ⟨by rw [unhide HF]; rfl, rfl⟩
  · have HF := hide (show varK r = (3, skip highB r 0) by unfold varK; rw [if_neg h8])
    go_enter Tryz.func173, Tryz.ntmps173
    go_wp2_with fail
    refine (rowCapital_any r hr _).mono ?_
    rintro e w1 ⟨rfl, rfl⟩
    go_wp2_with fail
    go_ret2
    exact ⟨by rw [unhide HF]; rfl, rfl⟩

set_option maxHeartbeats 2000000 in
theorem measure_any (r : ByteArray) (hr : r.size ≤ maxLen) (w : World) :
    Calls Tryz.prog 115 #[.string r] w fun e w' => e = .returned (.tuple #[.int .i64 (measK r).1, .int .i64 (measK r).2]) ∧ w' = w := by
  by_cases h0 : 0 < r.size
  · have he : r.toList.isEmpty = false := by
      rw [ByteArray.toList_eq, List.isEmpty_eq_false_iff]
      intro e
      have : r.data.toList.length = 0 := by rw [e]; rfl
      rw [Array.length_toList] at this
      have h2 : r.data.size = r.size := rfl
      omega
    cases hl : lowB r[0].toNat with
    | true =>
      have HF := hide (show measK r = nameK r by unfold measK; rw [dif_pos h0, if_pos hl])
      go_enter Tryz.func115, Tryz.ntmps115
      go_wp2_with fail
      refine (isSmall_any _ _).mono ?_
      rintro e w1 ⟨rfl, rfl⟩
      go_wp2_with fail
      refine (name_any r hr _).mono ?_
      rintro e w1 ⟨rfl, rfl⟩
      go_wp2_with fail
      go_ret2
      exact ⟨by rw [unhide HF]; rfl, rfl⟩
    | false =>
      cases hh : highB r[0].toNat with
      | true =>
        have HF := hide (show measK r = varK r by unfold measK; rw [dif_pos h0, if_neg (by rw [hl]; decide), if_pos hh])
        go_enter Tryz.func115, Tryz.ntmps115
        go_wp2_with fail
        refine (isSmall_any _ _).mono ?_
        rintro e w1 ⟨rfl, rfl⟩
        go_wp2_with fail
        refine (isCapital_any _ _).mono ?_
        rintro e w1 ⟨rfl, rfl⟩
        go_wp2_with fail
        refine (variable_any r hr _).mono ?_
        rintro e w1 ⟨rfl, rfl⟩
        go_wp2_with fail
        go_ret2
        exact ⟨by rw [unhide HF]; rfl, rfl⟩
      | false =>
        have HF := hide (show measK r = signK r by unfold measK; rw [dif_pos h0, if_neg (by rw [hl]; decide), if_neg (by rw [hh]; decide)])
        go_enter Tryz.func115, Tryz.ntmps115
        go_wp2_with fail
        refine (isSmall_any _ _).mono ?_
        rintro e w1 ⟨rfl, rfl⟩
        go_wp2_with fail
        refine (isCapital_any _ _).mono ?_
        rintro e w1 ⟨rfl, rfl⟩
        go_wp2_with fail
        refine (sign_any r _).mono ?_
        rintro e w1 ⟨rfl, rfl⟩
        go_wp2_with fail
        go_ret2
        exact ⟨by rw [unhide HF]; rfl, rfl⟩
  · have he : r.toList.isEmpty = true := by
      rw [ByteArray.toList_eq, List.isEmpty_iff]
      apply List.eq_nil_of_length_eq_zero
      rw [Array.length_toList]
      have h2 : r.data.size = r.size := rfl
      omega
    have HF := hide (show measK r = (0, 0) by unfold measK; rw [dif_neg h0])
    go_enter Tryz.func115, Tryz.ntmps115
    go_wp2_with fail
    go_ret2
    exact ⟨by rw [unhide HF]; rfl, rfl⟩

def scVal (k : Int × Nat × Nat) : Value := .agg #[.int .i64 k.1, .int .i64 k.2.1, .int .i64 k.2.2]

theorem measK_le (r : ByteArray) : (measK r).2 ≤ r.size := by
  unfold measK
  split
  · rename_i h
    have h1 := skip_le lowB r 0 (Nat.zero_le _)
    have h2 := skip_le highB r 0 (Nat.zero_le _)
    split
    · unfold nameK; split; exact h1; split <;> exact h1
    · split
      · unfold varK; split <;> exact h2
      · unfold signK
        split; exact h
        split; exact h
        split; exact h
        split; exact h
        split
        · rename_i h5; exact h5.1
        · exact h
  · simp

set_option maxRecDepth 100000 in
set_option maxHeartbeats 2000000 in
theorem scan_any (s : ByteArray) (i : Nat) (hi : i ≤ s.size) (hs : s.size ≤ maxLen) (w : World) :
    Calls Tryz.prog 73 #[.string s, .int .i64 i] w fun e w' => e = .returned (scVal (scanK s i)) ∧ Below w.heap.size w w' := by
  have hb := skip_ext0 blankB s i hi
  have hbl := skip_le blankB s i hi
  have hs' := hs
  unfold maxLen at hs'
  have hx1 : (s.extract i s.size).size ≤ maxLen := by rw [ext_size s i]; omega
  have HX1 := hide hx1
  have hrow := rowBlank_any (s.extract i s.size) hx1
  generalize skip blankB (s.extract i s.size) 0 = n0 at *
  have hsc : scanK s i = ((measK (s.extract (i + n0) s.size)).1, i + n0, i + n0 + (measK (s.extract (i + n0) s.size)).2) := by unfold scanK; rw [← hb]
  have hml := measK_le (s.extract (i + n0) s.size)
  rw [ext_size s _] at hml
  have hle : i + n0 ≤ s.size := by omega
  have hleI : (i : Int) + n0 ≤ s.size := by omega
  have hx2 : (s.extract (i + n0) s.size).size ≤ maxLen := by rw [ext_size s _]; omega
  have hms := measure_any (s.extract (i + n0) s.size) hx2
  have HSC := hide hsc
  have HR := hide hrow
  have HMS := hide hms
  clear hb hx1 hx2 HX1 hrow hsc hms hbl
  go_enter Tryz.func73, Tryz.ntmps73
  go_wp2_with fail
  refine (unhide HR _).mono ?_
  rintro e w1 ⟨rfl, rfl⟩
  clear HR
  go_wp2_with fail
  have et : ((i : Int) + n0).toNat = i + n0 := by omega
  try rw [et]
  refine (unhide HMS _).mono ?_
  rintro e w1 ⟨rfl, rfl⟩
  clear HMS
  generalize measK (s.extract (i + n0) s.size) = K at *
  go_wp2_with fail
  refine bodyPost_ret (v := scVal (scanK s i)) (by rw [unhide HSC]; simp [results, Tryz.results73, go_sem, scVal]) rfl ⟨rfl, (Below.refl _ _).alloc (Nat.le_refl _) _⟩
end Go.Proofs.YtldkpahaocjdpaaGreat
