/-
  The reference's parser: atom, at every text and place: the plain text's atom (RefAtomS), its terms in a row of its own; nothing else of old memory has turned but the parser.
  The reference's parser: literal, at every text and place: the plain text's literal, its terms in a row of its own; nothing else of old memory has turned but the parser.
-/
import Derived.Test.YtldkpahaocjdpaaGreatLoadsT15
import Derived.Test.YtldkpahaocjdpaaGreatLoadsT16
namespace Go.Proofs.YtldkpahaocjdpaaGreat
open Go.RowKit

theorem atom_any (s : ByteArray) (pos : Nat) (bad : Int) (b : Nat) (w : World) (h : Pars w b s pos bad) (hpos : pos ≤ s.size) (hs : s.size ≤ maxLen) :
    Calls Tryz.prog 184 #[.pointer (some ⟨b, 0, none⟩)] w fun e w' => ∃ v, e = .returned (.agg #[.string (tok s pos).text, v, .bool false, .int .i64 (tok s pos).at_, .int .i64 0]) ∧ Kept [b] w w' ∧ Pars w' b s (atomRest s pos bad).2.1 (atomRest s pos bad).2.2 ∧ (atomRest s pos bad).2.1 ≤ s.size ∧ w'.ownsRow w.heap.size 317 3 v (atomRest s pos bad).1.length (cellsOf (atomRest s pos bad).1) := by
  cases hk : (tok s pos).kind != 110 with
  | false => exact atom_name s pos bad b w h hpos hs hk
  | true => exact atom_none s pos bad b w h hpos hs hk
end Go.Proofs.YtldkpahaocjdpaaGreat

namespace Go.Proofs.YtldkpahaocjdpaaGreat
open Go.RowKit

def litNo (s : ByteArray) (pos : Nat) (bad : Int) : Bool := decide (bad < 0) && (tok s pos).kind == 119
def litPos (s : ByteArray) (pos : Nat) (bad : Int) : Nat := if litNo s pos bad then takePos s pos bad else pos
def litBad (s : ByteArray) (pos : Nat) (bad : Int) : Int := if litNo s pos bad then takeBad s pos bad else bad
def litAtom (s : ByteArray) (pos : Nat) (bad : Int) : RAtom :=
  ⟨(tok s (litPos s pos bad)).text, (atomRest s (litPos s pos bad) (litBad s pos bad)).1, litNo s pos bad, (tok s (litPos s pos bad)).at_, (tok s pos).at_⟩
def litRest (s : ByteArray) (pos : Nat) (bad : Int) : Nat × Int := (atomRest s (litPos s pos bad) (litBad s pos bad)).2

def RAtom.val (A : RAtom) (tv : Value) : Value := .agg #[.string A.pred, tv, .bool A.no, .int .i64 A.at_, .int .i64 A.noAt]

theorem cell_one5 (w : World) (a b c d e : Value) (t : TypeId) (j : Nat) : (w.alloc (.cells #[a, b, c, d, e] t)).cell? ⟨w.heap.size, j, none⟩ = #[a, b, c, d, e][j]? := by
  rw [World.cell?_alloc_at _ _ _ _ rfl]

theorem past5 {w : World} {n j : Nat} {v : Value} (h : w.cell? ⟨n, j, none⟩ = some v) (o : Obj) : (w.alloc o).cell? ⟨n, j, none⟩ = some v := by
  rw [World.cell?_alloc_past _ _ _ (World.block_lt_of_cell? w ⟨n, j, none⟩ h)]; exact h

theorem litPos_le {s : ByteArray} {pos : Nat} {bad : Int} (h : pos ≤ s.size) : litPos s pos bad ≤ s.size := by
  unfold litPos; split
  · exact takePos_le s pos bad h
  · exact h

theorem lit_end {s : ByteArray} {pos : Nat} {bad : Int} {b : Nat} {w w2 w' : World} {o : Obj} {tv : Value} (hlt : b < w.heap.size) (hk2 : Kept [b] (w.alloc o) w2) (hp2 : Pars w2 b s (atomRest s (litPos s pos bad) (litBad s pos bad)).2.1 (atomRest s (litPos s pos bad) (litBad s pos bad)).2.2)
    (hown : w2.ownsRow w.heap.size 317 3 tv (atomRest s (litPos s pos bad) (litBad s pos bad)).1.length (cellsOf (atomRest s (litPos s pos bad) (litBad s pos bad)).1)) (hl2 : (atomRest s (litPos s pos bad) (litBad s pos bad)).2.1 ≤ s.size) (k : Kept [w.heap.size] w2 w') (hrow : ∀ g, tv.ownBlock = some g → w.heap.size < g) :
    Kept [b] w w' ∧ Pars w' b s (litRest s pos bad).1 (litRest s pos bad).2 ∧ (litRest s pos bad).1 ≤ s.size ∧ w'.ownsRow w.heap.size 317 3 tv (litAtom s pos bad).terms.length (cellsOf (litAtom s pos bad).terms) := by
  have hx := ((Kept.refl [b] w).alloc o).trans hk2
  refine ⟨⟨k.os.trans hx.os, k.tape.trans hx.tape, k.output.trans hx.output, Nat.le_trans hx.size k.size, fun i hi hn => (k.block i (Nat.lt_of_lt_of_le hi hx.size) (by simp; omega)).trans (hx.block i hi hn)⟩, hp2.kept k (by simp; omega), hl2, ?_⟩
  refine ⟨hown.1, ?_⟩
  rcases hown.2 with hn | ⟨g, cap, cur, rfl, hb, hgg, rest⟩
  · exact .inl hn
  · refine .inr ⟨g, cap, cur, rfl, hb, ?_, rest⟩
    have := hrow g rfl
    rw [k.block g (Array.getElem?_eq_some_iff.1 hgg).1 (by simp; omega)]
    exact hgg

set_option maxRecDepth 100000 in
set_option maxHeartbeats 4000000 in
theorem lit_any (s : ByteArray) (pos : Nat) (bad : Int) (b : Nat) (w : World) (h : Pars w b s pos bad) (hpos : pos ≤ s.size) (hs : s.size ≤ maxLen) :
    Calls Tryz.prog 186 #[.pointer (some ⟨b, 0, none⟩)] w fun e w' => ∃ tv, e = .returned ((litAtom s pos bad).val tv) ∧ Kept [b] w w' ∧ Pars w' b s (litRest s pos bad).1 (litRest s pos bad).2 ∧ (litRest s pos bad).1 ≤ s.size ∧ w'.ownsRow w.heap.size 317 3 tv (litAtom s pos bad).terms.length (cellsOf (litAtom s pos bad).terms) := by
  have h' := h
  obtain ⟨hlt, c0, c1, c2, c3, c4, c5, fz⟩ := h
  have three : (bad < 0 ∧ ((tok s pos).kind == 119) = true ∧ litNo s pos bad = true) ∨ (bad < 0 ∧ ((tok s pos).kind == 119) = false ∧ litNo s pos bad = false) ∨ (0 ≤ bad ∧ litNo s pos bad = false) := by
    unfold litNo
    by_cases hb : bad < 0
    · cases hk : (tok s pos).kind == 119 <;> simp [hb]
    · exact .inr (.inr ⟨by omega, by simp; omega⟩)
  rcases three with ⟨hb, hk, hno⟩ | ⟨hb, hk, hno⟩ | ⟨hb, hno⟩
  · have e1 : litPos s pos bad = takePos s pos bad := by simp [litPos, hno]
    have e2 : litBad s pos bad = takeBad s pos bad := by simp [litBad, hno]
    have HN := hide hno
    have HE := hide (And.intro e1 e2)
    clear hno e1 e2
    go_enter Tryz.func186, Tryz.ntmps186
    go_wp2_with fail
    refine (take_any s pos bad b _ (h'.kept ((Kept.refl [] _).alloc _) (by simp)) hpos hs).mono ?_
    rintro e w1 ⟨rfl, hk1, hp1⟩
    rw [← (unhide HE).1, ← (unhide HE).2] at hp1
    clear c0 c1 c2 c3 c4 c5 fz
    go_wp2_with fail
    refine (atom_any s (litPos s pos bad) (litBad s pos bad) b _ hp1 (litPos_le hpos) hs).mono ?_
    rintro e w2 ⟨tv, rfl, hk2', hp2, hl2, hown2'⟩
    have hown2 := ownsRow_low hown2' (show w.heap.size ≤ w1.heap.size by have := hk1.size; simp at this; omega)
    have HG := hide (fun g e => Nat.lt_of_lt_of_le (show w.heap.size < w1.heap.size by have := hk1.size; simp at this; omega) (hown2'.lt g e).1)
    have hk2 := hk1.trans hk2'
    clear hk2' hk1 hp1 hown2'
    obtain ⟨a0, cap0, rfl⟩ := own_slice hown2
    obtain ⟨r1, r2⟩ := hk2.rules
    have hz : w.heap.size < w2.heap.size := by have := hk2.size; simp at this; omega
    go_wp2_with fail
    obtain ⟨q0, q1, q2, q3, q4⟩ := set5 ((r1 _ _ hlt (by simp)).trans (cell_one5 w _ _ _ _ _ _ 0)) ((r1 _ _ hlt (by simp)).trans (cell_one5 w _ _ _ _ _ _ 1)) ((r1 _ _ hlt (by simp)).trans (cell_one5 w _ _ _ _ _ _ 2)) ((r1 _ _ hlt (by simp)).trans (cell_one5 w _ _ _ _ _ _ 3)) ((r1 _ _ hlt (by simp)).trans (cell_one5 w _ _ _ _ _ _ 4)) (.string (tok s (litPos s pos bad)).text) (.slice a0 (atomRest s (litPos s pos bad) (litBad s pos bad)).fst.length cap0) (.bool true) (.int .i64 (tok s (litPos s pos bad)).at_) (.int .i64 (tok s pos).at_)
    have k5 := kept5 w2 w.heap.size (.string (tok s (litPos s pos bad)).text) (.slice a0 (atomRest s (litPos s pos bad) (litBad s pos bad)).fst.length cap0) (.bool true) (.int .i64 (tok s (litPos s pos bad)).at_) (.int .i64 (tok s pos).at_)
    have q0 := past5 q0; have q1 := past5 q1; have q2 := past5 q2; have q3 := past5 q3; have q4 := past5 q4
    refine bodyPost_ret (v := (litAtom s pos bad).val (.slice a0 (atomRest s (litPos s pos bad) (litBad s pos bad)).fst.length cap0)) (by simp [results, Tryz.results186, go_sem, litAtom, RAtom.val, unhide HN, q0, q1, q2, q3, q4]) rfl ⟨_, rfl, ?_⟩
    exact lit_end hlt hk2 hp2 hown2 hl2 (k5.alloc _) (unhide HG)
  · have hk2x : litPos s pos bad = pos := by simp [litPos, hno]
    have e2 : litBad s pos bad = bad := by simp [litBad, hno]
    have hp1 : Pars (w.alloc (Obj.cells #[Value.string { data := #[] }, Value.slice none 0 0, Value.bool false, Value.int IntKind.i64 0, Value.int IntKind.i64 0] 243)) b s (litPos s pos bad) (litBad s pos bad) := by rw [hk2x, e2]; exact h'.kept ((Kept.refl [] _).alloc _) (by simp)
    have HN := hide hno
    clear hno hk2x e2
    go_enter Tryz.func186, Tryz.ntmps186
    go_wp2_with fail
    clear c0 c1 c2 c3 c4 c5 fz
    refine (atom_any s (litPos s pos bad) (litBad s pos bad) b _ hp1 (litPos_le hpos) hs).mono ?_
    rintro e w2 ⟨tv, rfl, hk2, hp2, hl2, hown2'⟩
    have hown2 := ownsRow_low hown2' (show w.heap.size ≤ _ by simp)
    have HG := hide (fun g e => Nat.lt_of_lt_of_le (show w.heap.size < _ by simp) (hown2'.lt g e).1)
    clear hp1 hown2'
    obtain ⟨a0, cap0, rfl⟩ := own_slice hown2
    obtain ⟨r1, r2⟩ := hk2.rules
    have hz : w.heap.size < w2.heap.size := by have := hk2.size; simp at this; omega
    go_wp2_with fail
    obtain ⟨q0, q1, q2, q3, q4⟩ := set5 ((r1 _ _ hlt (by simp)).trans (cell_one5 w _ _ _ _ _ _ 0)) ((r1 _ _ hlt (by simp)).trans (cell_one5 w _ _ _ _ _ _ 1)) ((r1 _ _ hlt (by simp)).trans (cell_one5 w _ _ _ _ _ _ 2)) ((r1 _ _ hlt (by simp)).trans (cell_one5 w _ _ _ _ _ _ 3)) ((r1 _ _ hlt (by simp)).trans (cell_one5 w _ _ _ _ _ _ 4)) (.string (tok s (litPos s pos bad)).text) (.slice a0 (atomRest s (litPos s pos bad) (litBad s pos bad)).fst.length cap0) (.bool false) (.int .i64 (tok s (litPos s pos bad)).at_) (.int .i64 (tok s pos).at_)
    have k5 := kept5 w2 w.heap.size (.string (tok s (litPos s pos bad)).text) (.slice a0 (atomRest s (litPos s pos bad) (litBad s pos bad)).fst.length cap0) (.bool false) (.int .i64 (tok s (litPos s pos bad)).at_) (.int .i64 (tok s pos).at_)
    have q0 := past5 q0; have q1 := past5 q1; have q2 := past5 q2; have q3 := past5 q3; have q4 := past5 q4
    refine bodyPost_ret (v := (litAtom s pos bad).val (.slice a0 (atomRest s (litPos s pos bad) (litBad s pos bad)).fst.length cap0)) (by simp [results, Tryz.results186, go_sem, litAtom, RAtom.val, unhide HN, q0, q1, q2, q3, q4]) rfl ⟨_, rfl, ?_⟩
    exact lit_end hlt hk2 hp2 hown2 hl2 (k5.alloc _) (unhide HG)
  · have hk2x : litPos s pos bad = pos := by simp [litPos, hno]
    have e2 : litBad s pos bad = bad := by simp [litBad, hno]
    have hp1 : Pars (w.alloc (Obj.cells #[Value.string { data := #[] }, Value.slice none 0 0, Value.bool false, Value.int IntKind.i64 0, Value.int IntKind.i64 0] 243)) b s (litPos s pos bad) (litBad s pos bad) := by rw [hk2x, e2]; exact h'.kept ((Kept.refl [] _).alloc _) (by simp)
    have HN := hide hno
    clear hno hk2x e2
    go_enter Tryz.func186, Tryz.ntmps186
    go_wp2_with fail
    clear c0 c1 c2 c3 c4 c5 fz
    refine (atom_any s (litPos s pos bad) (litBad s pos bad) b _ hp1 (litPos_le hpos) hs).mono ?_
    rintro e w2 ⟨tv, rfl, hk2, hp2, hl2, hown2'⟩
    have hown2 := ownsRow_low hown2' (show w.heap.size ≤ _ by simp)
    have HG := hide (fun g e => Nat.lt_of_lt_of_le (show w.heap.size < _ by simp) (hown2'.lt g e).1)
    clear hp1 hown2'
    obtain ⟨a0, cap0, rfl⟩ := own_slice hown2
    obtain ⟨r1, r2⟩ := hk2.rules
    have hz : w.heap.size < w2.heap.size := by have := hk2.size; simp at this; omega
    go_wp2_with fail
    obtain ⟨q0, q1, q2, q3, q4⟩ := set5 ((r1 _ _ hlt (by simp)).trans (cell_one5 w _ _ _ _ _ _ 0)) ((r1 _ _ hlt (by simp)).trans (cell_one5 w _ _ _ _ _ _ 1)) ((r1 _ _ hlt (by simp)).trans (cell_one5 w _ _ _ _ _ _ 2)) ((r1 _ _ hlt (by simp)).trans (cell_one5 w _ _ _ _ _ _ 3)) ((r1 _ _ hlt (by simp)).trans (cell_one5 w _ _ _ _ _ _ 4)) (.string (tok s (litPos s pos bad)).text) (.slice a0 (atomRest s (litPos s pos bad) (litBad s pos bad)).fst.length cap0) (.bool false) (.int .i64 (tok s (litPos s pos bad)).at_) (.int .i64 (tok s pos).at_)
    have k5 := kept5 w2 w.heap.size (.string (tok s (litPos s pos bad)).text) (.slice a0 (atomRest s (litPos s pos bad) (litBad s pos bad)).fst.length cap0) (.bool false) (.int .i64 (tok s (litPos s pos bad)).at_) (.int .i64 (tok s pos).at_)
    have q0 := past5 q0; have q1 := past5 q1; have q2 := past5 q2; have q3 := past5 q3; have q4 := past5 q4
    refine bodyPost_ret (v := (litAtom s pos bad).val (.slice a0 (atomRest s (litPos s pos bad) (litBad s pos bad)).fst.length cap0)) (by simp [results, Tryz.results186, go_sem, litAtom, RAtom.val, unhide HN, q0, q1, q2, q3, q4]) rfl ⟨_, rfl, ?_⟩
    exact lit_end hlt hk2 hp2 hown2 hl2 (k5.alloc _) (unhide HG)
end Go.Proofs.YtldkpahaocjdpaaGreat
