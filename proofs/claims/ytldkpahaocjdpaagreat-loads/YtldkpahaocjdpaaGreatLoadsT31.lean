/-
  Plain: a square table of marks, as the reference's hangs makes it in memory: a row of slices, and behind it, block by block, the rows.
  Plain: which predicates hang on which: the marks that the rules lay, and the closing of them, as the reference does it.
-/
import Derived.Test.YtldkpahaocjdpaaGreatLoadsT30
namespace Go.Proofs.YtldkpahaocjdpaaGreat
open Go.RowKit

theorem cs_same {w : World} {b o : Nat} {u v : Value} (h : w.cell? ⟨b, o, none⟩ = some u) : (w.setCell ⟨b, o, none⟩ v).cell? ⟨b, o, none⟩ = some v := by go_simp
theorem cs_other {w : World} {b o b' o' : Nat} {v : Value} (h : ¬ (b = b' ∧ o = o')) : (w.setCell ⟨b, o, none⟩ v).cell? ⟨b', o', none⟩ = w.cell? ⟨b', o', none⟩ := by
  by_cases hb : b = b'
  · subst hb
    have ho : o ≠ o' := fun e => h ⟨rfl, e⟩
    unfold World.cell? World.setCell
    simp only [Array.getElem?_modify, if_true]
    cases w.heap[b]? with
    | none => rfl
    | some x => cases x <;> simp [ho]
  · exact World.cell?_of_block (w := w) (Below.heap_setCell w ⟨b, o, none⟩ v b' (by simp; omega))

def upd (M : Nat → Nat → Bool) (i j : Nat) : Nat → Nat → Bool := fun a b => (decide (a = i) && decide (b = j)) || M a b

/-- The table of n rows in block gm, of which the first m are made, with the marks M. -/
structure Mat (w : World) (gm n m : Nat) (M : Nat → Nat → Bool) : Prop where
  sz : gm + 1 + m ≤ w.heap.size
  top : ∀ i, i < m → w.cell? ⟨gm, i, none⟩ = some (.slice (some ⟨gm + 1 + i, 0, none⟩) n n)
  some_ : ∀ i, i < n → ∃ u, w.cell? ⟨gm, i, none⟩ = some u
  cell : ∀ i j, i < m → j < n → w.cell? ⟨gm + 1 + i, j, none⟩ = some (.bool (M i j))
  tfz : ∀ j, w.frozen? ⟨gm, j, none⟩ = false
  fz : ∀ i j, i < m → w.frozen? ⟨gm + 1 + i, j, none⟩ = false

theorem Mat.kept {B : List Nat} {w w' : World} {gm n m : Nat} {M : Nat → Nat → Bool} (h : Mat w gm n m M) (k : Kept B w w') (hB : ∀ x ∈ B, x < gm) : Mat w' gm n m M := by
  have hn : ∀ x, gm ≤ x → x ∉ B := fun x hx hm => by have := hB x hm; omega
  have hs := h.sz
  exact ⟨Nat.le_trans h.sz k.size, fun i hi => (k.cell (p := ⟨gm, i, none⟩) (by simp; omega) (hn _ (by simp))).trans (h.top i hi), fun i hi => by obtain ⟨u, hu⟩ := h.some_ i hi; exact ⟨u, (k.cell (p := ⟨gm, i, none⟩) (by simp; omega) (hn _ (by simp))).trans hu⟩,
    fun i j hi hj => (k.cell (p := ⟨gm + 1 + i, j, none⟩) (by simp; omega) (hn _ (by simp; omega))).trans (h.cell i j hi hj), fun j => (k.frozen (p := ⟨gm, j, none⟩) (by simp; omega) (hn _ (by simp))).trans (h.tfz j), fun i j hi => (k.frozen (p := ⟨gm + 1 + i, j, none⟩) (by simp; omega) (hn _ (by simp; omega))).trans (h.fz i j hi)⟩

theorem Mat.set {w : World} {gm n m : Nat} {M : Nat → Nat → Bool} (h : Mat w gm n m M) (i j : Nat) (hi : i < m) (hj : j < n) : Mat (w.setCell ⟨gm + 1 + i, j, none⟩ (.bool true)) gm n m (upd M i j) := by
  have hcell := h.cell i j hi hj
  refine ⟨by simpa using h.sz, fun a ha => ?_, fun a ha => ?_, fun a b ha hb => ?_, fun b => by simpa using h.tfz b, fun a b ha => by simpa using h.fz a b ha⟩
  · rw [World.cell?_of_block (w := w) (Below.heap_setCell w ⟨gm + 1 + i, j, none⟩ _ gm (by simp; omega))]; exact h.top a ha
  · obtain ⟨u, hu⟩ := h.some_ a ha
    exact ⟨u, by rw [World.cell?_of_block (w := w) (Below.heap_setCell w ⟨gm + 1 + i, j, none⟩ _ gm (by simp; omega))]; exact hu⟩
  · by_cases hai : a = i
    · by_cases hbj : b = j
      · subst hai hbj
        rw [cs_same hcell]; simp [upd]
      · rw [cs_other (by omega), h.cell a b ha hb]; simp [upd, hbj]
    · rw [cs_other (by omega), h.cell a b ha hb]; simp [upd, hai]

theorem infoBool : (Tryz.prog.info? 4).map (fun i => (i.zero, i.size, i.bytes)) = some (some (.bool false), 1, 1) := by kernel_rfl
theorem infoBools : (Tryz.prog.info? 143).map (fun i => (i.zero, i.size, i.bytes)) = some (some (.slice none 0 0), 1, 24) := by kernel_rfl

theorem make_rows (n : Nat) (hn : n ≤ 1000) (u : World) : (Instr.makeSlice 314 (.int .i64 n) (.int .i64 n)).run Tryz.prog u = .ok (.slice (some ⟨u.heap.size, 0, none⟩) n n) (u.alloc (.cells (madeCells #[.slice none 0 0] n) 143)) := by
  obtain ⟨i0, hi, hz0, hz1, hz2⟩ := info_parts infoBools
  have h := run_make (P := Tryz.prog) u 314 143 i0 (.slice none 0 0) Tryz.underlying314 hi hz0 .i64 .i64 (n : Int) (n : Int) (by omega) (Int.le_refl _) (by rw [hz2]; omega) (by omega)
  simpa [hz1, Value.cells] using h
theorem make_row (n : Nat) (hn : n ≤ 1000) (u : World) : (Instr.makeSlice 143 (.int .i64 n) (.int .i64 n)).run Tryz.prog u = .ok (.slice (some ⟨u.heap.size, 0, none⟩) n n) (u.alloc (.cells (madeCells #[.bool false] n) 4)) := by
  obtain ⟨i0, hi, hz0, hz1, hz2⟩ := info_parts infoBool
  have h := run_make (P := Tryz.prog) u 143 4 i0 (.bool false) Tryz.underlying143 hi hz0 .i64 .i64 (n : Int) (n : Int) (by omega) (Int.le_refl _) (by rw [hz2]; omega) (by omega)
  simpa [hz1, Value.cells] using h

theorem made_get (z : Value) (n i : Nat) (h : i < n) : (madeCells #[z] n)[i]? = some z := by
  have := toList_madeCells_one z n
  rw [← Array.getElem?_toList, this, List.getElem?_replicate, if_pos h]

theorem Mat.start (w : World) (n : Nat) : Mat (w.alloc (.cells (madeCells #[.slice none 0 0] n) 143)) w.heap.size n 0 (fun _ _ => false) := by
  refine ⟨by simp, by omega, fun i hi => ⟨.slice none 0 0, ?_⟩, by omega, fun j => ?_, by omega⟩
  · rw [World.cell?_alloc_at _ _ _ _ rfl, made_get _ _ _ hi]
  · rw [World.frozen?_alloc_at _ _ _ _ rfl]

theorem Mat.row {w : World} {gm n m : Nat} (h : Mat w gm n m (fun _ _ => false)) (hs : w.heap.size = gm + 1 + m) (hm : m < n) : Mat ((w.alloc (.cells (madeCells #[.bool false] n) 4)).setCell ⟨gm, m, none⟩ (.slice (some ⟨w.heap.size, 0, none⟩) n n)) gm n (m + 1) (fun _ _ => false) := by
  have k := ((Kept.refl [] w).alloc (.cells (madeCells #[.bool false] n) 4))
  have h1 := h.kept k (by simp)
  obtain ⟨u, hu⟩ := h1.some_ m hm
  refine ⟨by simp; omega, fun i hi => ?_, fun i hi => ?_, fun i j hi hj => ?_, fun j => by simpa using h1.tfz j, fun i j hi => ?_⟩
  · by_cases e : i = m
    · subst e; rw [cs_same hu, hs]
    · rw [cs_other (by omega)]; exact h1.top i (by omega)
  · by_cases e : i = m
    · subst e; exact ⟨_, cs_same hu⟩
    · obtain ⟨v, hv⟩ := h1.some_ i hi
      exact ⟨v, by rw [cs_other (by omega)]; exact hv⟩
  · rw [World.cell?_of_block (Below.heap_setCell _ ⟨gm, m, none⟩ _ (gm + 1 + i) (by simp; omega))]
    by_cases e : i = m
    · subst e; rw [← hs, World.cell?_alloc_at _ _ _ _ rfl, made_get _ _ _ hj]
    · exact h1.cell i j (by omega) hj
  · rw [World.frozen?_setCell]
    by_cases e : i = m
    · subst e; rw [← hs, World.frozen?_alloc_at _ _ _ _ rfl]
    · exact h1.fz i j (by omega)
end Go.Proofs.YtldkpahaocjdpaaGreat

namespace Go.Proofs.YtldkpahaocjdpaaGreat
open Go.RowKit

def ixOf (ps : List (ByteArray × Nat)) (nm : ByteArray) : Nat := (predIx ps nm).toNat

def edgesR (ps : List (ByteArray × Nat)) (h : Nat) : List RAtom → (Nat → Nat → Bool) → (Nat → Nat → Bool)
  | [], M => M
  | A :: r, M => edgesR ps h r (upd M h (ixOf ps A.pred))
def edges (ps : List (ByteArray × Nat)) : List RRule → (Nat → Nat → Bool) → (Nat → Nat → Bool)
  | [], M => M
  | R :: r, M => edges ps r (edgesR ps (ixOf ps R.head.pred) R.body M)

def fwK (n m i : Nat) (M : Nat → Nat → Bool) (k : Nat) : Nat → Nat → Bool :=
  if k < n then fwK n m i (if M i m && M m k then upd M i k else M) (k + 1) else M
termination_by n - k
def fwI (n m : Nat) (M : Nat → Nat → Bool) (i : Nat) : Nat → Nat → Bool :=
  if i < n then fwI n m (fwK n m i M 0) (i + 1) else M
termination_by n - i
def fwM (n : Nat) (M : Nat → Nat → Bool) (m : Nat) : Nat → Nat → Bool :=
  if m < n then fwM n (fwI n m M 0) (m + 1) else M
termination_by n - m

theorem fwK_go {n m i : Nat} {M : Nat → Nat → Bool} {k : Nat} (h : k < n) : fwK n m i M k = fwK n m i (if M i m && M m k then upd M i k else M) (k + 1) := by rw [fwK, if_pos h]
theorem fwK_end {n m i : Nat} {M : Nat → Nat → Bool} {k : Nat} (h : ¬ k < n) : fwK n m i M k = M := by rw [fwK, if_neg h]
theorem fwI_go {n m : Nat} {M : Nat → Nat → Bool} {i : Nat} (h : i < n) : fwI n m M i = fwI n m (fwK n m i M 0) (i + 1) := by rw [fwI, if_pos h]
theorem fwI_end {n m : Nat} {M : Nat → Nat → Bool} {i : Nat} (h : ¬ i < n) : fwI n m M i = M := by rw [fwI, if_neg h]
theorem fwM_go {n : Nat} {M : Nat → Nat → Bool} {m : Nat} (h : m < n) : fwM n M m = fwM n (fwI n m M 0) (m + 1) := by rw [fwM, if_pos h]
theorem fwM_end {n : Nat} {M : Nat → Nat → Bool} {m : Nat} (h : ¬ m < n) : fwM n M m = M := by rw [fwM, if_neg h]

def hangsM (ps : List (ByteArray × Nat)) (rs : List RRule) : Nat → Nat → Bool := fwM ps.length (edges ps rs (fun _ _ => false)) 0

/-- All predicates of the rules are there. -/
def AllIn (ps : List (ByteArray × Nat)) (l : List RAtom) : Prop := ∀ A ∈ l, 0 ≤ predIx ps A.pred

theorem edges_step {ps : List (ByteArray × Nat)} {rs : List RR} {k : Nat} {M : Nat → Nat → Bool} (h : k < rs.length) : edges ps ((rs.map (·.R)).drop k) M = edges ps ((rs.map (·.R)).drop (k + 1)) (edgesR ps (ixOf ps rs[k].R.head.pred) rs[k].R.body M) := by
  rw [List.drop_eq_getElem_cons (by simpa using h), edges]; simp
theorem edgesR_step {ps : List (ByteArray × Nat)} {h : Nat} {bs : List (RAtom × Value)} {j : Nat} {M : Nat → Nat → Bool} (hj : j < bs.length) : edgesR ps h ((bs.map (·.1)).drop j) M = edgesR ps h ((bs.map (·.1)).drop (j + 1)) (upd M h (ixOf ps bs[j].1.pred)) := by
  rw [body_drop hj, edgesR]

theorem allIn_head {ps : List (ByteArray × Nat)} {rs : List RR} (h : AllIn ps (atomsOf rs)) {k : Nat} (hk : k < rs.length) : 0 ≤ predIx ps rs[k].R.head.pred :=
  h _ (List.mem_flatMap.2 ⟨rs[k], List.getElem_mem hk, List.mem_cons_self⟩)
theorem allIn_body {ps : List (ByteArray × Nat)} {rs : List RR} (h : AllIn ps (atomsOf rs)) {k : Nat} (hk : k < rs.length) (he : rs[k].R.body = rs[k].bs.map (·.1)) {j : Nat} (hj : j < rs[k].bs.length) : 0 ≤ predIx ps rs[k].bs[j].1.pred :=
  h _ (List.mem_flatMap.2 ⟨rs[k], List.getElem_mem hk, List.mem_cons_of_mem _ (by rw [he]; exact List.mem_map.2 ⟨_, List.getElem_mem hj, rfl⟩)⟩)

end Go.Proofs.YtldkpahaocjdpaaGreat
