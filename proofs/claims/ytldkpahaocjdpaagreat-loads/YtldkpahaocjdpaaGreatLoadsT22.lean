/-
  The program's reader: atom, at every text and place: it is read as the plain text says (patomS), and mentioned; or it cannot be, and nothing is mentioned.
  The program's reader: literal, at every text and place.
-/
import Derived.Test.YtldkpahaocjdpaaGreatLoadsT21
import Derived.Test.YtldkpahaocjdpaaGreatLoadsT17
namespace Go.Proofs.YtldkpahaocjdpaaGreat
open Go.RowKit

/-- What is so behind a call of atom. -/
def AtomPost (w : World) (b : Nat) (s : ByteArray) (num : Nat) (mv : Value) (neg : Bool) (start place : Nat) (ms : List (PMen × Value)) (r : PRes) (e : Ending) (w' : World) : Prop :=
  match r with
  | .no p => e = .returned (.tuple #[.agg #[.string { data := #[] }, .slice none 0 0], .bool false]) ∧ Kept [b] w w' ∧ Rdr w' b s p num mv
  | .yes p pd ts pl => ∃ tv mv', e = .returned (.tuple #[.agg #[.string pd, tv], .bool true]) ∧ Kept (b :: mv.ownBlock.toList) w w' ∧ Rdr w' b s p num mv' ∧ MRow w' (b + 1) mv' (ms ++ [(⟨num, neg, pd, ts, start, place, pl⟩, tv)]) ∧ w'.ownsRow w.heap.size 191 1 tv ts.length (ptCells ts) ∧ (∀ k, mv'.ownBlock = some k → mv.ownBlock = some k ∨ w.heap.size ≤ k)

theorem patom_any (w : World) (b : Nat) (s : ByteArray) (pos num : Nat) (mv : Value) (neg : Bool) (start : Nat) (ms : List (PMen × Value)) (h : Rdr w b s pos num mv) (hms : MRow w (b + 1) mv ms) (hml : ms.length ≤ 1000) (hpos : pos ≤ s.size) (hs : s.size ≤ 800) :
    Calls Tryz.prog 98 #[.pointer (some ⟨b, 0, none⟩), .bool neg, .int .i64 start] w (AtomPost w b s num mv neg start (scanK s pos).2.1 ms (patomS s pos)) := by
  by_cases hk : (scanK s pos).1 = 2
  · by_cases hk5 : (scanK s (scanK s pos).2.2).1 = 5
    · cases hP : (ptermsS s 4 (scanK s (scanK s pos).2.2).2.2 [] (fun _ => 0)).1 with
      | false =>
        have e : patomS s pos = .no (ptermsS s 4 (scanK s (scanK s pos).2.2).2.2 [] (fun _ => 0)).2.1 := by unfold patomS; rw [if_pos hk, if_pos hk5, if_neg (by rw [hP]; decide)]
        rw [e]
        exact patom_bad w b s pos num mv neg start ms h hms hpos hs hk hk5 hP
      | true =>
        have e : patomS s pos = .yes (ptermsS s 4 (scanK s (scanK s pos).2.2).2.2 [] (fun _ => 0)).2.1 (rword s pos) (ptermsS s 4 (scanK s (scanK s pos).2.2).2.2 [] (fun _ => 0)).2.2.1 (ptermsS s 4 (scanK s (scanK s pos).2.2).2.2 [] (fun _ => 0)).2.2.2 := by unfold patomS; rw [if_pos hk, if_pos hk5, if_pos hP]
        rw [e]
        exact patom_yes w b s pos num mv neg start ms h hms hml hpos hs hk hk5 hP
    · have e : patomS s pos = .yes (scanK s pos).2.2 (rword s pos) [] (fun _ => 0) := by unfold patomS; rw [if_pos hk, if_neg hk5]
      rw [e]
      exact patom_bare w b s pos num mv neg start ms h hms hml hpos hs hk hk5
  · have e : patomS s pos = .no pos := by unfold patomS; rw [if_neg hk]
    rw [e]
    exact patom_no w b s pos num mv neg start h hpos hs hk
end Go.Proofs.YtldkpahaocjdpaaGreat

namespace Go.Proofs.YtldkpahaocjdpaaGreat
open Go.RowKit

/-- A row does not lie in a block of another type. -/
theorem row_apart {w : World} {base : Nat} {e e0 : TypeId} {size : Nat} {v : Value} {n : Nat} {xs : List Value} {n0 : Nat} {cur : Array Value} {fr : Nat × Nat} (h : w.ownsRow base e size v n xs) (hb : w.heap[n0]? = some (.cells cur e0 fr)) (hne : e ≠ e0) : ∀ g, v.ownBlock = some g → g ≠ n0 := by
  intro g hg hgn
  subst hgn
  rcases h.2 with ⟨rfl, _⟩ | ⟨g', cap, cur', rfl, _, hgg, _⟩
  · cases hg
  · injection hg with hg
    simp only at hg
    subst hg
    rw [hb] at hgg
    injection hgg with hgg
    injection hgg with _ hgg _
    exact hne hgg.symm

theorem men_apart {w w' : World} {base : Nat} {mv : Value} {ms : List (PMen × Value)} {n0 : Nat} {cur : Array Value} {e0 : TypeId} {fr : Nat × Nat} (h : MRow w base mv ms) (hb : w.heap[n0]? = some (.cells cur e0 fr)) (h1 : 221 ≠ e0) (h2 : 191 ≠ e0) (k : Kept [n0] w w') : MRow w' base mv ms :=
  men_fin h k (row_apart h.row hb h1) (fun x hx => row_apart (h.each x hx) hb h2)

/-- What is so behind a call of literal. -/
def LitPost (w : World) (b : Nat) (s : ByteArray) (num : Nat) (mv : Value) (neg : Bool) (start place : Nat) (ms : List (PMen × Value)) (r : PRes) (e : Ending) (w' : World) : Prop :=
  match r with
  | .no p => e = .returned (.tuple #[.agg #[.bool neg, .string { data := #[] }, .slice none 0 0], .bool false]) ∧ Kept [b] w w' ∧ Rdr w' b s p num mv
  | .yes p pd ts pl => ∃ tv mv', e = .returned (.tuple #[.agg #[.bool neg, .string pd, tv], .bool true]) ∧ Kept (b :: mv.ownBlock.toList) w w' ∧ Rdr w' b s p num mv' ∧ MRow w' (b + 1) mv' (ms ++ [(⟨num, neg, pd, ts, start, place, pl⟩, tv)]) ∧ w'.ownsRow w.heap.size 191 1 tv ts.length (ptCells ts) ∧ (∀ k, mv'.ownBlock = some k → mv.ownBlock = some k ∨ w.heap.size ≤ k)

theorem block_cells {w : World} {n : Nat} {c : Array Value} {t : TypeId} (h : w.heap[n]? = some (.cells c t (0, 0))) (j : Nat) : w.cell? ⟨n, j, none⟩ = c[j]? ∧ w.frozen? ⟨n, j, none⟩ = false := by
  unfold World.cell? World.frozen?
  simp [h]

theorem kept3 (w1 : World) (n : Nat) (v0 v1 v2 : Value) : Kept [n] w1 (((w1.setCell ⟨n, 0, none⟩ v0).setCell ⟨n, 1, none⟩ v1).setCell ⟨n, 2, none⟩ v2) :=
  (((Kept.refl [n] w1).setCell (by simp) _).setCell (by simp) _).setCell (by simp) _

theorem Kept.past {B : List Nat} {w w1 w2 : World} (h : Kept B w w1) (k : Kept [w.heap.size] w1 w2) : Kept B w w2 :=
  ⟨k.os.trans h.os, k.tape.trans h.tape, k.output.trans h.output, Nat.le_trans h.size k.size, fun i hi hn => (k.block i (Nat.lt_of_lt_of_le hi h.size) (by simp; omega)).trans (h.block i hi hn)⟩

set_option maxRecDepth 100000 in
set_option maxHeartbeats 8000000 in
theorem plit_any (w : World) (b : Nat) (s : ByteArray) (pos num : Nat) (mv : Value) (ms : List (PMen × Value)) (h : Rdr w b s pos num mv) (hms : MRow w (b + 1) mv ms) (hml : ms.length ≤ 1000) (hpos : pos ≤ s.size) (hs : s.size ≤ 800) :
    Calls Tryz.prog 175 #[.pointer (some ⟨b, 0, none⟩)] w (LitPost w b s num mv ((scanK s pos).1 == 4) (scanK s pos).2.1 (scanK s (rtake s pos 4)).2.1 ms (patomS s (rtake s pos 4))) := by
  have hsm : s.size ≤ maxLen := by unfold maxLen; omega
  have h0 := h.kept ((Kept.refl [] w).alloc (.cells #[.bool false, .string { data := #[] }, .slice none 0 0] 183)) (by simp)
  have hms0 := hms.kept ((Kept.refl [] w).alloc (.cells #[.bool false, .string { data := #[] }, .slice none 0 0] 183)) (by simp)
  have hp1 : rtake s pos 4 ≤ s.size := by unfold rtake; split; exact (scan_le s pos hpos).2; exact hpos
  have HMW := hide (fun k (e : mv.ownBlock = some k) => (hms.row.lt k e).2)
  obtain ⟨hlt, c0, c1, c2, c3, c4, c5, fz⟩ := h
  have hbk : (w.alloc (.cells #[.bool false, .string { data := #[] }, .slice none 0 0] 183)).heap[w.heap.size]? = some (.cells #[.bool false, .string { data := #[] }, .slice none 0 0] 183 (0, 0)) := heap_alloc_new w _
  have HBK := hide hbk
  clear hbk
  go_enter Tryz.func175, Tryz.ntmps175
  go_wp2_with fail
  refine (rtake_any s pos num mv 4 b _ h0 hpos hsm).mono ?_
  rintro e w1 ⟨rfl, hk1, hr1⟩
  have hms1 := hms0.kept hk1 (by simp)
  clear c0 c1 c2 c3 c4 c5 fz h0 hms0
  go_wp2_with fail
  refine (patom_any w1 b s (rtake s pos 4) num mv _ _ ms hr1 hms1 hml hp1 hs).mono ?_
  intro e w2 hpost
  cases hr : patomS s (rtake s pos 4) with
  | no p =>
    rw [hr] at hpost
    obtain ⟨rfl, hk2, hr2⟩ := hpost
    have hkk := hk1.trans hk2
    have hb2 := (hkk.block w.heap.size (by simp) (by simp; omega)).trans (unhide HBK)
    obtain ⟨a0, f0⟩ := block_cells hb2 0
    obtain ⟨a1, f1⟩ := block_cells hb2 1
    obtain ⟨a2, f2⟩ := block_cells hb2 2
    have hnl : w.heap.size < w2.heap.size := by have := hkk.size; simp at this; omega
    have HR := hide hr
    clear hr hk1 hr1 hms1 hk2
    go_wp2_with fail
    obtain ⟨q0, q1, q2⟩ := set3 a0 a1 a2 (.bool ((scanK s pos).1 == 4)) (.string { data := #[] }) (.slice none 0 0)
    have q0 := past5 q0; have q1 := past5 q1; have q2 := past5 q2
    have k3 := (kept3 w2 w.heap.size (.bool ((scanK s pos).1 == 4)) (.string { data := #[] }) (.slice none 0 0)).alloc (Obj.cells #[Value.string { data := #[] }, Value.slice none 0 0] 79)
    refine bodyPost_ret (v := .tuple #[.agg #[.bool ((scanK s pos).1 == 4), .string { data := #[] }, .slice none 0 0], .bool false]) (by simp [results, Tryz.results175, go_sem, q0, q1, q2]) rfl ?_
    rw [unhide HR]
    exact ⟨rfl, (((Kept.refl [b] w).alloc _).trans hkk).past k3, hr2.kept k3 (by simp; omega)⟩
  | yes p pd ts pl =>
    rw [hr] at hpost
    obtain ⟨tv, mv', rfl, hk2, hr2, hm2, ht2, hw2⟩ := hpost
    obtain ⟨at1, capt, rfl⟩ := own_slice ht2
    have hkk := (hk1.mono (C := b :: mv.ownBlock.toList) (by simp)).trans hk2
    have hb2 := (hkk.block w.heap.size (by simp) (by
      intro hm
      rcases List.mem_cons.1 hm with hm | hm
      · omega
      · have := unhide HMW w.heap.size (by simpa using hm); omega)).trans (unhide HBK)
    obtain ⟨a0, f0⟩ := block_cells hb2 0
    obtain ⟨a1, f1⟩ := block_cells hb2 1
    obtain ⟨a2, f2⟩ := block_cells hb2 2
    have hnl : w.heap.size < w2.heap.size := by have := hkk.size; simp at this; omega
    have hw1 : w.heap.size ≤ w1.heap.size := by have := hk1.size; simp at this; omega
    have HR := hide hr
    have HB2 := hide hb2
    have HW2 := hide hw2
    clear hr hk1 hr1 hms1 hk2 hb2 hw2
    go_wp2_with fail
    obtain ⟨q0, q1, q2⟩ := set3 a0 a1 a2 (.bool ((scanK s pos).1 == 4)) (.string pd) (.slice at1 ts.length capt)
    have q0 := past5 q0; have q1 := past5 q1; have q2 := past5 q2
    have k3 := (kept3 w2 w.heap.size (.bool ((scanK s pos).1 == 4)) (.string pd) (.slice at1 ts.length capt)).alloc (Obj.cells #[Value.string pd, .slice at1 ts.length capt] 79)
    refine bodyPost_ret (v := .tuple #[.agg #[.bool ((scanK s pos).1 == 4), .string pd, .slice at1 ts.length capt], .bool true]) (by simp [results, Tryz.results175, go_sem, q0, q1, q2]) rfl ?_
    rw [unhide HR]
    exact ⟨_, _, rfl, (((Kept.refl _ w).alloc _).trans hkk).past k3, hr2.kept k3 (by simp; omega), men_apart hm2 (unhide HB2) (by decide) (by decide) k3, ownsRow_low (ownsRow_apart ht2 k3 (row_apart ht2 (unhide HB2) (by decide))) hw1, fun k e => by rcases unhide HW2 k e with h1 | h1; exact .inl h1; exact .inr (Nat.le_trans hw1 h1)⟩
end Go.Proofs.YtldkpahaocjdpaaGreat
