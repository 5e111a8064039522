/-
  Plain: what the reference's Load answers; how the rules that were read lie in memory.
  Plain: what the kinds of tokens are, told alike by both readers.
-/
import Derived.Test.YtldkpahaocjdpaaGreatLoadsT34
import Derived.Test.YtldkpahaocjdpaaGreatLoadsT25
import Derived.Test.YtldkpahaocjdpaaGreatLoadsT11
namespace Go.Proofs.YtldkpahaocjdpaaGreat
open Go.RowKit

def ruleBad1 (s : ByteArray) (p : Nat) (bd : Int) (n : Nat) : Int := if n == 30 then failS s p bd else bd
def ruleOf (s : ByteArray) (p : Nat) (bd : Int) : RRule := ⟨headOf s p bd, (bodyOf s p bd).1⟩
def goesOn (s : ByteArray) (p : Nat) (bd : Int) : Bool := (tok s p).kind != 46 && decide (bd < 0)

def rulesS (s : ByteArray) : Nat → Nat → Int → List RRule → List RRule × Nat × Int
  | 0, p, bd, l => (l, p, bd)
  | f + 1, p, bd, l => if goesOn s p bd then rulesS s f (rulePos s p (ruleBad1 s p bd l.length)) (ruleBad s p (ruleBad1 s p bd l.length)) (l ++ [ruleOf s p (ruleBad1 s p bd l.length)]) else (l, p, bd)

theorem body_stays {s : ByteArray} (f : Nat) : ∀ {p : Nat} {bd : Int} {l : List RAtom}, 0 ≤ bd → 0 ≤ (bodyS s f p bd l).2.2 := by
  induction f with
  | zero => intro p bd l h; exact h
  | succ f ih =>
    intro p bd l h
    have h0 : 0 ≤ litBad1 s p bd l.length := by
      unfold litBad1; split
      · exact fail_nonneg _ _ _
      · exact h
    have h1 := lit_stays (s := s) (p := p) h0
    rw [bodyS]
    split
    · exact ih (has_stays h1)
    · exact has_stays h1
theorem rule_stays {s : ByteArray} {p : Nat} {bd : Int} (h : 0 ≤ bd) : 0 ≤ ruleBad s p bd := by
  have h1 := atom_stays (s := s) (p := p) h
  unfold ruleBad
  refine takeBad_nonneg (need_stays ?_)
  unfold bodyOf; split
  · exact body_stays 4 (has_stays h1)
  · exact has_stays h1

theorem rules_step (s : ByteArray) (p : Nat) (bd : Int) (l : List RRule) (h : l.length ≤ 30) (hg : goesOn s p bd = true) : rulesS s (31 - l.length) p bd l = rulesS s (31 - (l ++ [ruleOf s p (ruleBad1 s p bd l.length)]).length) (rulePos s p (ruleBad1 s p bd l.length)) (ruleBad s p (ruleBad1 s p bd l.length)) (l ++ [ruleOf s p (ruleBad1 s p bd l.length)]) := by
  have e1 : 31 - l.length = (30 - l.length) + 1 := by omega
  have e2 : 31 - (l ++ [ruleOf s p (ruleBad1 s p bd l.length)]).length = 30 - l.length := by simp
  rw [e1, e2, rulesS, if_pos hg]
theorem rules_end (s : ByteArray) (f p : Nat) (bd : Int) (l : List RRule) (hg : goesOn s p bd = false) : rulesS s f p bd l = (l, p, bd) := by
  cases f with
  | zero => rfl
  | succ f => rw [rulesS, if_neg (by rw [hg]; decide)]

/-- Behind the thirty-first rule nothing goes on. -/
theorem rules_full {s : ByteArray} {p : Nat} {bd : Int} {n : Nat} (hn : n = 30) : 0 ≤ ruleBad s p (ruleBad1 s p bd n) := by
  refine rule_stays ?_
  subst hn
  simp [ruleBad1]; exact fail_nonneg _ _ _

def parsed (s : ByteArray) : List RRule × Nat × Int := rulesS s 31 0 (-1) []
def predsOf (s : ByteArray) : Int × List (ByteArray × Nat) := meetAll ((parsed s).1.flatMap RRule.atoms) []

/-- What Load answers: whether there is a program, the error, the place. -/
def refLoad (s : ByteArray) : Bool × Int × Int :=
  if 800 < s.size then (false, 1, 0)
  else if 0 ≤ (parsed s).2.2 then (false, 2, (parsed s).2.2)
  else if 0 ≤ (predsOf s).1 then (false, 3, (predsOf s).1)
  else if 0 ≤ unsafeI (parsed s).1 then (false, 4, unsafeI (parsed s).1)
  else if 0 ≤ cycleI (predsOf s).2 (hangsM (predsOf s).2 (parsed s).1) (parsed s).1 then (false, 5, cycleI (predsOf s).2 (hangsM (predsOf s).2 (parsed s).1) (parsed s).1)
  else (true, 0, 0)

theorem rrCells_snoc (rs : List RR) (r : RR) : rrCells (rs ++ [r]) = rrCells rs ++ r.cells := by simp [rrCells]

theorem PMem2.setRules {w W w5 : World} {o : Nat} {rs : List RR} {ps qs : List (ByteArray × Nat)} {rv pv tv sv : Value} (h : PMem2 w o rs ps qs rv pv tv sv) (hW : ∀ k, k < w.heap.size → W.heap[k]? = w.heap[k]?) (hS : w.heap.size ≤ W.heap.size) (hg : W.grownBy w5 rv.ownBlock) {r : RR} (hr : RuleIn w (o + 1) r.R r.hv r.bs r.bv) {v' : Value} (hown : w5.ownsRow (o + 1) 246 6 v' (rs.length + 1) (rrCells rs ++ r.cells)) :
    PMem2 (w5.setCell ⟨o, 0, none⟩ v') o (rs ++ [r]) ps qs v' pv tv sv := by
  have hb := far_cell hW hS h.rules hg h.lt
  have cc : ∀ j, w5.cell? ⟨o, j, none⟩ = w.cell? ⟨o, j, none⟩ := fun j => World.cell?_of_block hb
  have ff : ∀ j, w5.frozen? ⟨o, j, none⟩ = w.frozen? ⟨o, j, none⟩ := fun j => World.frozen?_of_block hb
  have hlt := h.lt
  have hs := hg.size
  refine ⟨by simp; omega, cs_same ((cc 0).trans h.c0), by rw [cs_other (by omega), cc 1]; exact h.c1, by rw [cs_other (by omega), cc 2]; exact h.c2, by rw [cs_other (by omega), cc 3]; exact h.c3, fun j => by rw [World.frozen?_setCell, ff j]; exact h.fz j, ?_, fun x hx => ?_, far_row hW hS h.rules hg h.preds (by decide), far_row hW hS h.rules hg h.terms (by decide)⟩
  · rw [rrCells_snoc, List.length_append]
    exact ownsRow_setCell_below hown (a := ⟨o, 0, none⟩) (by simp) v'
  · rcases List.mem_append.1 hx with hx | hx
    · exact far_rule hW hS h.rules hg (by decide) (by decide) (h.each x hx)
    · simp at hx; subst hx
      exact far_rule hW hS h.rules hg (by decide) (by decide) hr

/-- Each rule has few atoms. -/
theorem bodyS_len {s : ByteArray} (f : Nat) : ∀ {p : Nat} {bd : Int} {l : List RAtom}, (bodyS s f p bd l).1.length ≤ l.length + f := by
  induction f with
  | zero => intro p bd l; simp [bodyS]
  | succ f ih =>
    intro p bd l
    rw [bodyS]
    split
    · refine Nat.le_trans ih ?_; first | (simp; done) | (simp; omega)
    · first | (simp; done) | (simp; omega)
theorem body_len (s : ByteArray) (p : Nat) (bd : Int) : (bodyOf s p bd).1.length ≤ 4 := by
  unfold bodyOf; split
  · have := bodyS_len (s := s) 4 (p := hasPos s (atomRest s p bd).2.1 (atomRest s p bd).2.2 { data := #[58, 45] }) (bd := hasBad s (atomRest s p bd).2.1 (atomRest s p bd).2.2 { data := #[58, 45] }) (l := [])
    simpa using this
  · simp
theorem atoms_len (l : List RR) (h : ∀ r ∈ l, r.R.body.length ≤ 4) : (atomsOf l).length ≤ 5 * l.length := by
  induction l with
  | nil => simp [atomsOf]
  | cons x r ih =>
    have h1 := ih (fun y hy => h y (List.mem_cons_of_mem _ hy))
    have h2 := h x List.mem_cons_self
    have e : atomsOf (x :: r) = x.R.atoms ++ atomsOf r := by simp [atomsOf]
    rw [e, List.length_append]
    simp only [RRule.atoms, List.length_cons]
    omega
theorem atomsOf_map (l : List RR) : atomsOf l = (l.map (·.R)).flatMap RRule.atoms := by
  simp [atomsOf, List.flatMap_map]

end Go.Proofs.YtldkpahaocjdpaaGreat

namespace Go.Proofs.YtldkpahaocjdpaaGreat

theorem tok_cases (s : ByteArray) (i : Nat) : (tok s i).kind = 46 ∨ (tok s i).kind = 33 ∨ ((tok s i).kind = 110 ∧ (tok s i).text = s.extract (tok s i).at_ (tok s i).to) ∨ ((tok s i).kind = 118 ∧ (tok s i).text = s.extract (tok s i).at_ (tok s i).to) ∨ (tok s i).kind = 119 ∨
    ((tok s i).kind = 115 ∧ ((tok s i).text.toList = [40] ∨ (tok s i).text.toList = [41] ∨ (tok s i).text.toList = [44] ∨ (tok s i).text.toList = [46] ∨ (tok s i).text.toList = [58, 45])) := by
  unfold tok
  generalize skip blankB s i = k
  unfold tokAt
  by_cases h0 : s.size ≤ k
  · simp [h0]
  · rw [if_neg h0]
    by_cases h1 : k < skip lowB s k
    · rw [if_pos h1]
      split
      · simp
      · split <;> simp
    · rw [if_neg h1]
      by_cases h2 : k < skip highB s k
      · rw [if_pos h2]
        split <;> simp
      · rw [if_neg h2]
        by_cases h3 : signLen s k = 0
        · rw [if_pos h3]; simp
        · rw [if_neg h3]
          by_cases h4 : signLen s k = 2
          · rw [if_pos h4]
            have : ({ data := #[58, 45] } : ByteArray).toList = [58, 45] := by rw [ByteArray.toList_eq]
            simp [this]
          · rw [if_neg h4]
            have hk : k < s.size := by omega
            have t1 := ext_one s k hk
            simp only [t1]
            have hs : (s[k].toNat : Int) = 40 ∨ (s[k].toNat : Int) = 41 ∨ (s[k].toNat : Int) = 44 ∨ (s[k].toNat : Int) = 46 := by
              unfold signLen at h3 h4
              rw [dif_pos hk] at h3 h4
              by_cases hc : (s[k].toNat : Int) = 58
              · rw [if_pos hc] at h3 h4
                by_cases hd : k + 1 < s.size
                · rw [dif_pos hd] at h3 h4
                  by_cases he : (s[k+1].toNat : Int) = 45
                  · rw [if_pos he] at h4; exact absurd rfl h4
                  · rw [if_neg he] at h3; exact absurd rfl h3
                · rw [dif_neg hd] at h3; exact absurd rfl h3
              · rw [if_neg hc] at h3
                by_cases hd : (s[k].toNat : Int) = 40 ∨ (s[k].toNat : Int) = 41 ∨ (s[k].toNat : Int) = 44 ∨ (s[k].toNat : Int) = 46
                · exact hd
                · rw [if_neg hd] at h3; exact absurd rfl h3
            have u : ∀ c : UInt8, (s[k].toNat : Int) = (c.toNat : Int) → s[k] = c := fun c h => (u8_eq _ _).2 h
            rcases hs with h | h | h | h
            · simp [u 40 h]
            · simp [u 41 h]
            · simp [u 44 h]
            · simp [u 46 h]

/-- All of it, for one token. -/
structure KindsOf (s : ByteArray) (p : Nat) : Prop where
  k0 : (scanK s p).1 = 0 ↔ (tok s p).kind = 46
  k2 : (scanK s p).1 = 2 ↔ (tok s p).kind = 110
  k3 : (scanK s p).1 = 3 ↔ (tok s p).kind = 118
  k4 : (scanK s p).1 = 4 ↔ (tok s p).kind = 119
  k5 : (scanK s p).1 = 5 ↔ ((tok s p).kind = 115 ∧ (tok s p).text.toList = [40])
  k6 : (scanK s p).1 = 6 ↔ ((tok s p).kind = 115 ∧ (tok s p).text.toList = [41])
  k7 : (scanK s p).1 = 7 ↔ ((tok s p).kind = 115 ∧ (tok s p).text.toList = [44])
  k8 : (scanK s p).1 = 8 ↔ ((tok s p).kind = 115 ∧ (tok s p).text.toList = [46])
  k9 : (scanK s p).1 = 9 ↔ ((tok s p).kind = 115 ∧ (tok s p).text.toList = [58, 45])
  at_ : (scanK s p).2.1 = (tok s p).at_
  to_ : (scanK s p).2.2 = (tok s p).to
  word : (tok s p).kind = 110 ∨ (tok s p).kind = 118 → rword s p = (tok s p).text

theorem kinds (s : ByteArray) (p : Nat) (hp : p ≤ s.size) : KindsOf s p := by
  have h := tok_cases s p
  have e := scan_tok s p hp
  have e1 : (scanK s p).1 = tokK (tok s p) := by rw [e]
  have e2 : (scanK s p).2.1 = (tok s p).at_ := by rw [e]
  have e3 : (scanK s p).2.2 = (tok s p).to := by rw [e]
  have hw : (tok s p).kind = 110 ∨ (tok s p).kind = 118 → rword s p = (tok s p).text := by
    intro hk
    unfold rword
    rw [e2, e3]
    rcases h with h | h | h | h | h | h
    · omega
    · omega
    · exact h.2.symm
    · exact h.2.symm
    · omega
    · omega
  refine ⟨?_, ?_, ?_, ?_, ?_, ?_, ?_, ?_, ?_, e2, e3, hw⟩
  all_goals
    rw [e1]
    unfold tokK
    rcases h with h | h | h | h | h | ⟨h, h' | h' | h' | h' | h'⟩
    all_goals first | (simp [h, h']; done) | (simp [h.1]; done) | (simp [h]; done)
end Go.Proofs.YtldkpahaocjdpaaGreat
