/-
  Plain: what hangs on what, by the links; a search's stack and what it has met.
-/
import Derived.Test.YtfdahfdaodbjbaaGreatLoadsT40
namespace Go.Proofs.YtfdahfdaodbjbaaGreat
open Go.RowKit Go.Maps

/-- There is a way of one link or more. -/
inductive Reach (E : List Edge) : ByteArray → ByteArray → Prop where
  | one {a b : ByteArray} (h : (a, b) ∈ E) : Reach E a b
  | next {a b c : ByteArray} (t : Reach E a b) (h : (b, c) ∈ E) : Reach E a c

open Classical in
noncomputable def hangsP (E : List Edge) (p q : ByteArray) : Bool := decide (Reach E p q)

theorem mem_tgt {E : List Edge} {p x : ByteArray} : x ∈ tgt E p ↔ (p, x) ∈ E := by
  unfold tgt
  constructor
  · intro h
    obtain ⟨e, he, rfl⟩ := List.mem_map.1 h
    obtain ⟨h1, h2⟩ := List.mem_filter.1 he
    have : e.1 = p := bytes_eq.1 h2
    rw [← this]
    exact h1
  · intro h
    exact List.mem_map.2 ⟨(p, x), List.mem_filter.2 ⟨h, by simp⟩, rfl⟩

def isMet (met : List ByteArray) (x : ByteArray) : Bool := met.any fun m => m.toList == x.toList
theorem isMet_iff {met : List ByteArray} {x : ByteArray} : isMet met x = true ↔ x ∈ met := by
  unfold isMet
  rw [List.any_eq_true]
  constructor
  · rintro ⟨m, hm, h⟩
    rw [← bytes_eq.1 h]; exact hm
  · intro h; exact ⟨x, h, by simp⟩

def metV (met : List ByteArray) : ByteArray → Option Value := fun k => if isMet met k then some (.agg #[]) else none

theorem metV_put (met : List ByteArray) (x : ByteArray) : updV (metV met) x (.agg #[]) = metV (met ++ [x]) := by
  funext k
  by_cases e : k = x
  · subst e
    rw [updV_same]
    unfold metV
    rw [if_pos (isMet_iff.2 (by simp))]
  · rw [updV_other e]
    unfold metV
    by_cases h : isMet met k = true
    · rw [if_pos h, if_pos (isMet_iff.2 (by have := isMet_iff.1 h; simp [this]))]
    · rw [if_neg h, if_neg (fun h2 => by
        have := isMet_iff.1 h2
        simp at this
        rcases this with h3 | h3
        · exact h (isMet_iff.2 h3)
        · exact e h3)]

/-- The links to what is not met yet. -/
def cnt (E : List Edge) (met : List ByteArray) : Nat := (E.filter fun e => !isMet met e.2).length

theorem cnt_mono (met : List ByteArray) (x : ByteArray) : ∀ (l : List Edge), (l.filter fun e => !isMet (met ++ [x]) e.2).length ≤ (l.filter fun e => !isMet met e.2).length
  | [] => Nat.le_refl _
  | e :: r => by
    have ih := cnt_mono met x r
    have mono : isMet met e.2 = true → isMet (met ++ [x]) e.2 = true := fun h => isMet_iff.2 (by have := isMet_iff.1 h; simp [this])
    simp only [List.filter_cons]
    cases h2 : isMet met e.2 with
    | true => rw [mono h2]; simpa using ih
    | false =>
      cases h3 : isMet (met ++ [x]) e.2 with
      | true => simp; omega
      | false => simp; omega
theorem cnt_less {met : List ByteArray} {x y : ByteArray} (hn : isMet met x = false) : ∀ (l : List Edge), (y, x) ∈ l → (l.filter fun e => !isMet (met ++ [x]) e.2).length + 1 ≤ (l.filter fun e => !isMet met e.2).length
  | [], h => by cases h
  | e :: r, h => by
    have mono : isMet met e.2 = true → isMet (met ++ [x]) e.2 = true := fun h => isMet_iff.2 (by have := isMet_iff.1 h; simp [this])
    have h1 : isMet (met ++ [x]) x = true := isMet_iff.2 (by simp)
    simp only [List.filter_cons]
    rcases List.mem_cons.1 h with he | hr
    · have := cnt_mono met x r
      subst he
      simp only [h1, hn, Bool.not_true, Bool.not_false, Bool.false_eq_true, if_false, if_true, List.length_cons]
      omega
    · have ih := cnt_less hn r hr
      cases h2 : isMet met e.2 with
      | true => rw [mono h2]; simpa using ih
      | false =>
        cases h3 : isMet (met ++ [x]) e.2 with
        | true => simp; omega
        | false => simp; omega
theorem cnt_put {E : List Edge} {met : List ByteArray} {x y : ByteArray} (h : (y, x) ∈ E) (hn : isMet met x = false) : cnt E (met ++ [x]) + 1 ≤ cnt E met := cnt_less hn E h

/-- What a search from p to q knows: its stack, what it has met; 'now' is what is being looked at. -/
structure Sch (E : List Edge) (p q : ByteArray) (st met : List ByteArray) (now : Option ByteArray) : Prop where
  onStack : ∀ x ∈ st, x = p ∨ Reach E p x
  onMet : ∀ x ∈ met, Reach E p x
  done : ∀ y, (y = p ∨ y ∈ met) → y ∈ st ∨ now = some y ∨ ∀ z ∈ tgt E y, z ≠ q ∧ z ∈ met

theorem Sch.start (E : List Edge) (p q : ByteArray) : Sch E p q [p] [] none :=
  ⟨fun x hx => .inl (by simpa using hx), fun x hx => (by cases hx), fun y hy => .inl (by rcases hy with rfl | h; simp; cases h)⟩

theorem Sch.pop {E : List Edge} {p q x : ByteArray} {st met : List ByteArray} (h : Sch E p q (st ++ [x]) met none) : Sch E p q st met (some x) ∧ (x = p ∨ Reach E p x) := by
  refine ⟨⟨fun y hy => h.onStack y (by simp [hy]), h.onMet, fun y hy => ?_⟩, h.onStack x (by simp)⟩
  rcases h.done y hy with h1 | h1 | h1
  · simp at h1
    rcases h1 with h1 | h1
    · exact .inl h1
    · exact .inr (.inl (by rw [h1]))
  · cases h1
  · exact .inr (.inr h1)

theorem reach_next {E : List Edge} {p x z : ByteArray} (h : x = p ∨ Reach E p x) (hz : z ∈ tgt E x) : Reach E p z := by
  rcases h with rfl | h
  · exact .one (mem_tgt.1 hz)
  · exact .next h (mem_tgt.1 hz)

theorem Sch.push {E : List Edge} {p q x z : ByteArray} {st met : List ByteArray} (h : Sch E p q st met (some x)) (hx : x = p ∨ Reach E p x) (hz : z ∈ tgt E x) : Sch E p q (st ++ [z]) (met ++ [z]) (some x) := by
  have hr := reach_next hx hz
  refine ⟨fun y hy => ?_, fun y hy => ?_, fun y hy => ?_⟩
  · rcases List.mem_append.1 hy with hy | hy
    · exact h.onStack y hy
    · simp at hy; subst hy; exact .inr hr
  · rcases List.mem_append.1 hy with hy | hy
    · exact h.onMet y hy
    · simp at hy; subst hy; exact hr
  · have hy' : (y = p ∨ y ∈ met) ∨ y = z := by
      rcases hy with hy | hy
      · exact .inl (.inl hy)
      · rcases List.mem_append.1 hy with hy | hy
        · exact .inl (.inr hy)
        · exact .inr (by simpa using hy)
    rcases hy' with hy | rfl
    · rcases h.done y hy with h1 | h1 | h1
      · exact .inl (by simp [h1])
      · exact .inr (.inl h1)
      · exact .inr (.inr fun u hu => ⟨(h1 u hu).1, by simp [(h1 u hu).2]⟩)
    · exact .inl (by simp)

theorem Sch.drop {E : List Edge} {p q x : ByteArray} {st met : List ByteArray} (h : Sch E p q st met (some x)) (hd : ∀ z ∈ tgt E x, z ≠ q ∧ z ∈ met) : Sch E p q st met none := by
  refine ⟨h.onStack, h.onMet, fun y hy => ?_⟩
  rcases h.done y hy with h1 | h1 | h1
  · exact .inl h1
  · injection h1 with h1; subst h1; exact .inr (.inr hd)
  · exact .inr (.inr h1)

theorem Sch.ends {E : List Edge} {p q : ByteArray} {met : List ByteArray} (h : Sch E p q [] met none) : hangsP E p q = false := by
  have key : ∀ x, Reach E p x → x ≠ q ∧ x ∈ met := by
    intro x hx
    have step : ∀ y, (y = p ∨ y ∈ met) → ∀ z, (y, z) ∈ E → z ≠ q ∧ z ∈ met := fun y hy z hz => by
      rcases h.done y hy with h1 | h1 | h1
      · cases h1
      · cases h1
      · exact h1 z (mem_tgt.2 hz)
    induction hx with
    | one h1 => exact step p (.inl rfl) _ h1
    | next t h1 ih => exact step _ (.inr (ih).2) _ h1
  unfold hangsP
  simp only [decide_eq_false_iff_not]
  exact fun hr => (key q hr).1 rfl

theorem hangs_yes {E : List Edge} {p q x : ByteArray} (h : x = p ∨ Reach E p x) (hq : q ∈ tgt E x) : hangsP E p q = true := by
  unfold hangsP
  simp only [decide_eq_true_eq]
  exact reach_next h hq

/-- The stack without its last. -/
theorem own_pop {w : World} {base g cap : Nat} {l : List ByteArray} {x : ByteArray} (h : w.ownsRow base 9 1 (.slice (some ⟨g, 0, none⟩) (l ++ [x]).length cap) (l ++ [x]).length (strs (l ++ [x]))) : w.ownsRow base 9 1 (.slice (some ⟨g, 0, none⟩) l.length cap) l.length (strs l) := by
  rcases h.2 with ⟨hv, _⟩ | ⟨g', cap', cur, hv, hb, hgg, hn, hc, hs, ht⟩
  · cases hv
  · injection hv with h1 h2 h3
    injection h1 with h1
    injection h1 with h1
    subst h1 h3
    refine ⟨by simp [strs], .inr ⟨g, cap, cur, rfl, hb, hgg, by simp at hn; omega, hc, hs, ?_⟩⟩
    have h4 := congrArg (List.take l.length) ht
    rw [List.take_take] at h4
    simp [strs] at h4 ⊢
    exact h4

/-- The cell of the last. -/
theorem own_last {w : World} {base : Nat} {v : Value} {l : List ByteArray} {x : ByteArray} (h : w.ownsRow base 9 1 v (l ++ [x]).length (strs (l ++ [x]))) : ∃ g cap, v = .slice (some ⟨g, 0, none⟩) (l ++ [x]).length cap ∧ base ≤ g ∧ g < w.heap.size ∧ (l ++ [x]).length ≤ cap ∧ cap ≤ maxLen ∧ w.cell? ⟨g, l.length, none⟩ = some (.string x) := by
  rcases h.2 with ⟨_, h0⟩ | ⟨g, cap, cur, rfl, hb, hgg, hn, hc, hs, ht⟩
  · simp at h0
  · refine ⟨g, cap, rfl, hb, (Array.getElem?_eq_some_iff.1 hgg).1, hn, hc, ?_⟩
    rw [h.cellAt l.length (by simp)]
    simp [strs]

theorem own_str {w : World} {base : Nat} {v : Value} {l : List ByteArray} (h : w.ownsRow base 9 1 v l.length (strs l)) (k : Nat) (hk : k < l.length) : ∃ g cap, v = .slice (some ⟨g, 0, none⟩) l.length cap ∧ base ≤ g ∧ g < w.heap.size ∧ l.length ≤ cap ∧ cap ≤ maxLen ∧ w.cell? ⟨g, k, none⟩ = some (.string l[k]) := by
  rcases h.2 with ⟨_, h0⟩ | ⟨g, cap, cur, rfl, hb, hgg, hn, hc, hs, ht⟩
  · omega
  · refine ⟨g, cap, rfl, hb, (Array.getElem?_eq_some_iff.1 hgg).1, hn, hc, ?_⟩
    rw [h.cellAt k (by omega)]
    simp [strs, hk]
end Go.Proofs.YtfdahfdaodbjbaaGreat
