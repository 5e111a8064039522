/-
  Plain: what the reference's Load answers; how the rules that were read lie in memory.
  Plain: where no predicate has two numbers of terms all are there; where nothing hangs on its own not being so, some numbers keep to the rules.
-/
import Derived.Test.YtldkpahaocjdpaaGreatPrintsT23
namespace Go.Proofs.YtldkpahaocjdpaaGreat
open Go.RowKit

def ruleBad1 (s : ByteArray) (p : Nat) (bd : Int) (n : Nat) : Int := if n == 30 then failS s p bd else bd
def ruleOf (s : ByteArray) (p : Nat) (bd : Int) : RRule := ⟨headOf s p bd, (bodyOf s p bd).1⟩
def goesOn (s : ByteArray) (p : Nat) (bd : Int) : Bool := (tok s p).kind != 46 && decide (bd < 0)

def rulesS (s : ByteArray) : Nat → Nat → Int → List RRule → List RRule × Nat × Int
  | 0, p, bd, l => (l, p, bd)
  | f + 1, p, bd, l => if goesOn s p bd then rulesS s f (rulePos s p (ruleBad1 s p bd l.length)) (ruleBad s p (ruleBad1 s p bd l.length)) (l ++ [ruleOf s p (ruleBad1 s p bd l.length)]) else (l, p, bd)

theorem body_stays {s : ByteArray} (f : Nat) : ∀ {p : Nat} {bd : Int} {l : List RAtom}, 0 ≤ bd → 0 ≤ (bodyS s f p bd l).2.2 := by
  induction f with
  | zero => intro p bd l h; exact h
  | succ f ih =>
    intro p bd l h
    have h0 : 0 ≤ litBad1 s p bd l.length := by
      unfold litBad1; split
      · exact fail_nonneg _ _ _
      · exact h
    have h1 := lit_stays (s := s) (p := p) h0
    rw [bodyS]
    split
    · exact ih (has_stays h1)
    · exact has_stays h1
theorem rule_stays {s : ByteArray} {p : Nat} {bd : Int} (h : 0 ≤ bd) : 0 ≤ ruleBad s p bd := by
  have h1 := atom_stays (s := s) (p := p) h
  unfold ruleBad
  refine takeBad_nonneg (need_stays ?_)
  unfold bodyOf; split
  · exact body_stays 4 (has_stays h1)
  · exact has_stays h1

theorem rules_step (s : ByteArray) (p : Nat) (bd : Int) (l : List RRule) (h : l.length ≤ 30) (hg : goesOn s p bd = true) : rulesS s (31 - l.length) p bd l = rulesS s (31 - (l ++ [ruleOf s p (ruleBad1 s p bd l.length)]).length) (rulePos s p (ruleBad1 s p bd l.length)) (ruleBad s p (ruleBad1 s p bd l.length)) (l ++ [ruleOf s p (ruleBad1 s p bd l.length)]) := by
  have e1 : 31 - l.length = (30 - l.length) + 1 := by omega
  have e2 : 31 - (l ++ [ruleOf s p (ruleBad1 s p bd l.length)]).length = 30 - l.length := by simp
  rw [e1, e2, rulesS, if_pos hg]
theorem rules_end (s : ByteArray) (f p : Nat) (bd : Int) (l : List RRule) (hg : goesOn s p bd = false) : rulesS s f p bd l = (l, p, bd) := by
  cases f with
  | zero => rfl
  | succ f => rw [rulesS, if_neg (by rw [hg]; decide)]

/-- Behind the thirty-first rule nothing goes on. -/
theorem rules_full {s : ByteArray} {p : Nat} {bd : Int} {n : Nat} (hn : n = 30) : 0 ≤ ruleBad s p (ruleBad1 s p bd n) := by
  refine rule_stays ?_
  subst hn
  simp [ruleBad1]; exact fail_nonneg _ _ _

def parsed (s : ByteArray) : List RRule × Nat × Int := rulesS s 31 0 (-1) []
def predsOf (s : ByteArray) : Int × List (ByteArray × Nat) := meetAll ((parsed s).1.flatMap RRule.atoms) []

/-- What Load answers: whether there is a program, the error, the place. -/
def refLoad (s : ByteArray) : Bool × Int × Int :=
  if 800 < s.size then (false, 1, 0)
  else if 0 ≤ (parsed s).2.2 then (false, 2, (parsed s).2.2)
  else if 0 ≤ (predsOf s).1 then (false, 3, (predsOf s).1)
  else if 0 ≤ unsafeI (parsed s).1 then (false, 4, unsafeI (parsed s).1)
  else if 0 ≤ cycleI (predsOf s).2 (hangsM (predsOf s).2 (parsed s).1) (parsed s).1 then (false, 5, cycleI (predsOf s).2 (hangsM (predsOf s).2 (parsed s).1) (parsed s).1)
  else (true, 0, 0)

theorem rrCells_snoc (rs : List RR) (r : RR) : rrCells (rs ++ [r]) = rrCells rs ++ r.cells := by simp [rrCells]

theorem PMem2.setRules {w W w5 : World} {o : Nat} {rs : List RR} {ps qs : List (ByteArray × Nat)} {rv pv tv sv : Value} (h : PMem2 w o rs ps qs rv pv tv sv) (hW : ∀ k, k < w.heap.size → W.heap[k]? = w.heap[k]?) (hS : w.heap.size ≤ W.heap.size) (hg : W.grownBy w5 rv.ownBlock) {r : RR} (hr : RuleIn w (o + 1) r.R r.hv r.bs r.bv) {v' : Value} (hown : w5.ownsRow (o + 1) 246 6 v' (rs.length + 1) (rrCells rs ++ r.cells)) :
    PMem2 (w5.setCell ⟨o, 0, none⟩ v') o (rs ++ [r]) ps qs v' pv tv sv := by
  have hb := far_cell hW hS h.rules hg h.lt
  have cc : ∀ j, w5.cell? ⟨o, j, none⟩ = w.cell? ⟨o, j, none⟩ := fun j => World.cell?_of_block hb
  have ff : ∀ j, w5.frozen? ⟨o, j, none⟩ = w.frozen? ⟨o, j, none⟩ := fun j => World.frozen?_of_block hb
  have hlt := h.lt
  have hs := hg.size
  refine ⟨by simp; omega, cs_same ((cc 0).trans h.c0), by rw [cs_other (by omega), cc 1]; exact h.c1, by rw [cs_other (by omega), cc 2]; exact h.c2, by rw [cs_other (by omega), cc 3]; exact h.c3, fun j => by rw [World.frozen?_setCell, ff j]; exact h.fz j, ?_, fun x hx => ?_, far_row hW hS h.rules hg h.preds (by decide), far_row hW hS h.rules hg h.terms (by decide)⟩
  · rw [rrCells_snoc, List.length_append]
    exact ownsRow_setCell_below hown (a := ⟨o, 0, none⟩) (by simp) v'
  · rcases List.mem_append.1 hx with hx | hx
    · exact far_rule hW hS h.rules hg (by decide) (by decide) (h.each x hx)
    · simp at hx; subst hx
      exact far_rule hW hS h.rules hg (by decide) (by decide) hr

/-- Each rule has few atoms. -/
theorem bodyS_len {s : ByteArray} (f : Nat) : ∀ {p : Nat} {bd : Int} {l : List RAtom}, (bodyS s f p bd l).1.length ≤ l.length + f := by
  induction f with
  | zero => intro p bd l; simp [bodyS]
  | succ f ih =>
    intro p bd l
    rw [bodyS]
    split
    · refine Nat.le_trans ih ?_; first | (simp; done) | (simp; omega)
    · first | (simp; done) | (simp; omega)
theorem body_len (s : ByteArray) (p : Nat) (bd : Int) : (bodyOf s p bd).1.length ≤ 4 := by
  unfold bodyOf; split
  · have := bodyS_len (s := s) 4 (p := hasPos s (atomRest s p bd).2.1 (atomRest s p bd).2.2 { data := #[58, 45] }) (bd := hasBad s (atomRest s p bd).2.1 (atomRest s p bd).2.2 { data := #[58, 45] }) (l := [])
    simpa using this
  · simp
theorem atoms_len (l : List RR) (h : ∀ r ∈ l, r.R.body.length ≤ 4) : (atomsOf l).length ≤ 5 * l.length := by
  induction l with
  | nil => simp [atomsOf]
  | cons x r ih =>
    have h1 := ih (fun y hy => h y (List.mem_cons_of_mem _ hy))
    have h2 := h x List.mem_cons_self
    have e : atomsOf (x :: r) = x.R.atoms ++ atomsOf r := by simp [atomsOf]
    rw [e, List.length_append]
    simp only [RRule.atoms, List.length_cons]
    omega
theorem atomsOf_map (l : List RR) : atomsOf l = (l.map (·.R)).flatMap RRule.atoms := by
  simp [atomsOf, List.flatMap_map]

end Go.Proofs.YtldkpahaocjdpaaGreat

namespace Go.Proofs.YtldkpahaocjdpaaGreat

theorem meet_len (l : List RAtom) : ∀ ps, (meetAll l ps).2.length ≤ ps.length + l.length := by
  induction l with
  | nil => intro ps; simp [meetAll]
  | cons A r ih =>
    intro ps
    have h := meetP_le ps A.pred A.terms.length
    rw [meetAll]
    split
    · have := ih (meetP ps A.pred A.terms.length); simp only [List.length_cons]; omega
    · simp only [List.length_cons]; omega

theorem ix_append (nm : ByteArray) (m : List (ByteArray × Nat)) : ∀ (l : List (ByteArray × Nat)) (k : Nat), 0 ≤ ixFrom nm l k → ixFrom nm (l ++ m) k = ixFrom nm l k
  | [], k, h => by simp [ixFrom] at h
  | x :: r, k, h => by
    rw [List.cons_append]
    unfold ixFrom at h ⊢
    split
    · rfl
    · rename_i hne
      rw [if_neg hne] at h
      exact ix_append nm m r (k + 1) h
theorem ix_last (nm : ByteArray) (n : Nat) : ∀ (l : List (ByteArray × Nat)) (k : Nat), 0 ≤ ixFrom nm (l ++ [(nm, n)]) k
  | [], k => by simp [ixFrom]
  | x :: r, k => by
    rw [List.cons_append]
    unfold ixFrom
    split
    · omega
    · exact ix_last nm n r (k + 1)

theorem meetP_in (ps : List (ByteArray × Nat)) (nm : ByteArray) (n : Nat) : 0 ≤ predIx (meetP ps nm n) nm := by
  unfold meetP; split
  · exact ix_last nm n ps 0
  · omega
theorem meetP_keeps (ps : List (ByteArray × Nat)) (nm : ByteArray) (n : Nat) (x : ByteArray) (h : 0 ≤ predIx ps x) : 0 ≤ predIx (meetP ps nm n) x := by
  unfold meetP; split
  · unfold predIx at *; rw [ix_append x _ ps 0 h]; exact h
  · exact h

theorem meetAll_in (l : List RAtom) : ∀ ps, (meetAll l ps).1 < 0 → (∀ A ∈ l, 0 ≤ predIx (meetAll l ps).2 A.pred) ∧ (∀ nm, 0 ≤ predIx ps nm → 0 ≤ predIx (meetAll l ps).2 nm) := by
  induction l with
  | nil => intro ps _; exact ⟨by simp, fun nm h => h⟩
  | cons A r ih =>
    intro ps h
    rw [meetAll] at h ⊢
    split
    · rename_i hb
      rw [if_pos hb] at h
      obtain ⟨h1, h2⟩ := ih _ h
      refine ⟨fun B hB => ?_, fun nm hn => h2 nm (meetP_keeps ps A.pred A.terms.length nm hn)⟩
      rcases List.mem_cons.1 hB with rfl | hB
      · exact h2 _ (meetP_in ps B.pred B.terms.length)
      · exact h1 B hB
    · rename_i hb
      rw [if_neg hb] at h
      simp at h
      omega

theorem allIn_of_meet (l : List RAtom) (h : ¬ 0 ≤ (meetAll l []).1) : AllIn (meetAll l []).2 l := (meetAll_in l [] (by omega)).1

/-! The closing of the marks. -/
theorem fwK_eq (n m i : Nat) : ∀ (d k : Nat) (M : Nat → Nat → Bool), n - k = d → ∀ a b, fwK n m i M k a b = (M a b || (decide (a = i) && decide (k ≤ b) && decide (b < n) && M i m && M m b)) := by
  intro d
  induction d with
  | zero =>
    intro k M hd a b
    rw [fwK_end (by omega)]
    have : ¬ (k ≤ b ∧ b < n) := by omega
    by_cases h1 : k ≤ b <;> by_cases h2 : b < n <;> simp [h1, h2] <;> omega
  | succ d ih =>
    intro k M hd a b
    rw [fwK_go (by omega), ih (k + 1) _ (by omega) a b]
    have hM : ∀ a b, (if M i m && M m k then upd M i k else M) a b = (M a b || (decide (a = i) && decide (b = k) && M i m && M m k)) := by
      intro a b
      cases h1 : M i m <;> cases h2 : M m k <;> simp [upd, Bool.or_comm]
    rw [hM a b, hM i m, hM m b]
    have hkn : k < n := by omega
    by_cases e1 : a = i
    · by_cases e2 : b = k
      · subst e2
        cases M a b <;> cases M i m <;> cases M m b <;> simp [e1, hkn]
      · by_cases e3 : k ≤ b
        · have e4 : k + 1 ≤ b := by omega
          cases M a b <;> cases M i m <;> cases M m b <;> simp [e1, e2, e3, e4]
        · have e4 : ¬ k + 1 ≤ b := by omega
          cases M a b <;> simp [e2, e3, e4]
    · cases M a b <;> simp [e1]

theorem fwI_eq (n m : Nat) : ∀ (d i : Nat) (M : Nat → Nat → Bool), n - i = d → ∀ a b, fwI n m M i a b = (M a b || (decide (i ≤ a) && decide (a < n) && decide (b < n) && M a m && M m b)) := by
  intro d
  induction d with
  | zero =>
    intro i M hd a b
    rw [fwI_end (by omega)]
    by_cases h1 : i ≤ a <;> by_cases h2 : a < n <;> simp [h1, h2] <;> omega
  | succ d ih =>
    intro i M hd a b
    have hM := fwK_eq n m i _ 0 M rfl
    rw [fwI_go (by omega), ih (i + 1) _ (by omega) a b, hM a b, hM a m, hM m b]
    have hin : i < n := by omega
    by_cases e1 : a = i
    · subst e1
      have e4 : ¬ a + 1 ≤ a := by omega
      cases M a b <;> cases M a m <;> cases M m b <;> simp [e4, hin]
    · by_cases e3 : i ≤ a
      · have e4 : i + 1 ≤ a := by omega
        by_cases e5 : m = i
        · subst e5
          cases M a b <;> cases M a m <;> cases M m b <;> cases M m m <;> simp [e1, e3, e4]
        · cases M a b <;> cases M a m <;> cases M m b <;> simp [e1, e3, e4, e5]
      · have e4 : ¬ i + 1 ≤ a := by omega
        cases M a b <;> simp [e1, e3, e4]

theorem fwM_closes (n : Nat) : ∀ (d m : Nat) (M : Nat → Nat → Bool), n - m = d → m ≤ n → (∀ i j k, i < n → k < n → j < m → M i j = true → M j k = true → M i k = true) →
    (∀ i j k, i < n → k < n → j < n → fwM n M m i j = true → fwM n M m j k = true → fwM n M m i k = true) ∧ (∀ i k, M i k = true → fwM n M m i k = true) := by
  intro d
  induction d with
  | zero =>
    intro m M hd hmn h
    rw [fwM_end (by omega)]
    exact ⟨fun i j k hi hk hj => h i j k hi hk (by omega), fun i k h => h⟩
  | succ d ih =>
    intro m M hd hmn h
    have hm : m < n := by omega
    have hM := fwI_eq n m _ 0 M rfl
    rw [fwM_go hm]
    have hstep : ∀ i j k, i < n → k < n → j < m + 1 → fwI n m M 0 i j = true → fwI n m M 0 j k = true → fwI n m M 0 i k = true := by
      intro i j k hi hk hj h1 h2
      have hjn : j < n := by omega
      rw [hM] at h1 h2 ⊢
      simp only [Nat.zero_le, decide_true, Bool.true_and, hi, hjn, hk, Bool.or_eq_true, Bool.and_eq_true] at h1 h2 ⊢
      by_cases ej : j = m
      · subst ej
        have a1 : M i j = true := by rcases h1 with h1 | h1; exact h1; exact h1.1
        have a2 : M j k = true := by rcases h2 with h2 | h2; exact h2; exact h2.2
        exact .inr ⟨a1, a2⟩
      · have hjm : j < m := by omega
        rcases h1 with h1 | ⟨h1, h1'⟩ <;> rcases h2 with h2 | ⟨h2, h2'⟩
        · exact .inl (h i j k hi hk hjm h1 h2)
        · exact .inr ⟨h i j m hi hm hjm h1 h2, h2'⟩
        · exact .inr ⟨h1, h m j k hm hk hjm h1' h2⟩
        · exact .inr ⟨h1, h2'⟩
    obtain ⟨g1, g2⟩ := ih (m + 1) (fwI n m M 0) (by omega) (by omega) hstep
    exact ⟨g1, fun i k hik => g2 i k (by rw [hM, hik]; rfl)⟩

theorem upd_mono {M : Nat → Nat → Bool} {i j a b : Nat} (h : M a b = true) : upd M i j a b = true := by simp [upd, h]
theorem edgesR_mono {ps : List (ByteArray × Nat)} {h : Nat} (l : List RAtom) : ∀ {M : Nat → Nat → Bool} {a b : Nat}, M a b = true → edgesR ps h l M a b = true := by
  induction l with
  | nil => intro M a b hM; exact hM
  | cons A r ih => intro M a b hM; exact ih (upd_mono hM)
theorem edges_mono {ps : List (ByteArray × Nat)} (l : List RRule) : ∀ {M : Nat → Nat → Bool} {a b : Nat}, M a b = true → edges ps l M a b = true := by
  induction l with
  | nil => intro M a b hM; exact hM
  | cons R r ih => intro M a b hM; exact ih (edgesR_mono R.body hM)
theorem edgesR_has {ps : List (ByteArray × Nat)} {h : Nat} (l : List RAtom) : ∀ {M : Nat → Nat → Bool} {A : RAtom}, A ∈ l → edgesR ps h l M h (ixOf ps A.pred) = true := by
  induction l with
  | nil => intro M A hA; cases hA
  | cons B r ih =>
    intro M A hA
    rcases List.mem_cons.1 hA with rfl | hA
    · exact edgesR_mono r (by simp [upd])
    · exact ih hA
theorem edges_has {ps : List (ByteArray × Nat)} (l : List RRule) : ∀ {M : Nat → Nat → Bool} {R : RRule} {A : RAtom}, R ∈ l → A ∈ R.body → edges ps l M (ixOf ps R.head.pred) (ixOf ps A.pred) = true := by
  induction l with
  | nil => intro M R A hR; cases hR
  | cons B r ih =>
    intro M R A hR hA
    rcases List.mem_cons.1 hR with rfl | hR
    · exact edges_mono r (edgesR_has R.body hA)
    · exact ih hR hA

theorem hangs_edge {ps : List (ByteArray × Nat)} {rs : List RRule} {R : RRule} {A : RAtom} (hR : R ∈ rs) (hA : A ∈ R.body) : hangsM ps rs (ixOf ps R.head.pred) (ixOf ps A.pred) = true :=
  (fwM_closes ps.length _ 0 _ rfl (Nat.zero_le _) (by intro i j k _ _ hj; omega)).2 _ _ (edges_has rs hR hA)
theorem hangs_trans {ps : List (ByteArray × Nat)} {rs : List RRule} {i j k : Nat} (hi : i < ps.length) (hj : j < ps.length) (hk : k < ps.length) (h1 : hangsM ps rs i j = true) (h2 : hangsM ps rs j k = true) : hangsM ps rs i k = true :=
  (fwM_closes ps.length _ 0 (edges ps rs (fun _ _ => false)) rfl (Nat.zero_le _) (by intro i j k _ _ hj; omega)).1 i j k hi hk hj h1 h2

theorem cycBody_no {ps : List (ByteArray × Nat)} {H : Nat → Nat → Bool} {hd : ByteArray} (l : List RAtom) (h : cycBody ps H hd l < 0) : ∀ A ∈ l, cycB ps H hd A = false := by
  induction l with
  | nil => simp
  | cons B r ih =>
    rw [cycBody] at h
    split at h
    · omega
    · rename_i hb
      intro A hA
      rcases List.mem_cons.1 hA with rfl | hA
      · simpa using hb
      · exact ih h A hA
theorem cycle_no {ps : List (ByteArray × Nat)} {H : Nat → Nat → Bool} (l : List RRule) (h : cycleI ps H l < 0) : ∀ R ∈ l, ∀ A ∈ R.body, cycB ps H R.head.pred A = false := by
  induction l with
  | nil => simp
  | cons B r ih =>
    rw [cycleI] at h
    split at h
    · omega
    · rename_i hb
      intro R hR
      rcases List.mem_cons.1 hR with rfl | hR
      · exact cycBody_no R.body (by omega)
      · exact ih h R hR

theorem countP_lt {α : Type} {p r : α → Bool} (l : List α) (h : ∀ x ∈ l, p x = true → r x = true) {y : α} (hy : y ∈ l) (hr : r y = true) (hp : p y = false) : l.countP p + 1 ≤ l.countP r := by
  induction l with
  | nil => cases hy
  | cons x t ih =>
    have hm : t.countP p ≤ t.countP r := List.countP_mono_left (fun z hz => h z (List.mem_cons_of_mem _ hz))
    rcases List.mem_cons.1 hy with rfl | hy
    · rw [List.countP_cons_of_pos hr, List.countP_cons_of_neg (by rw [hp]; decide)]; omega
    · have h1 := ih (fun z hz => h z (List.mem_cons_of_mem _ hz)) hy
      cases e : p x with
      | true => rw [List.countP_cons_of_pos e, List.countP_cons_of_pos (h x List.mem_cons_self e)]; omega
      | false =>
        rw [List.countP_cons_of_neg (by rw [e]; decide)]
        have : t.countP r ≤ (x :: t).countP r := by
          cases e2 : r x with
          | true => rw [List.countP_cons_of_pos e2]; omega
          | false => rw [List.countP_cons_of_neg (by rw [e2]; decide)]; omega
        omega

/-- By how many negative literals something may lie below. -/
def negR (ps : List (ByteArray × Nat)) (rs : List RRule) (p x : Nat) : Bool :=
  rs.any fun R => R.body.any fun A => A.no && ((p == ixOf ps R.head.pred || hangsM ps rs p (ixOf ps R.head.pred)) && (ixOf ps A.pred == x || hangsM ps rs (ixOf ps A.pred) x))

theorem valid_of_cycle (ps : List (ByteArray × Nat)) (rs : List RRule) (hall : AllIn ps (rs.flatMap RRule.atoms)) (h : ¬ 0 ≤ cycleI ps (hangsM ps rs) rs) : ∃ f, Valid ps rs f ∧ ∀ i, f i ≤ ps.length := by
  have hno := cycle_no rs (show cycleI ps (hangsM ps rs) rs < 0 by omega)
  have hhd : ∀ R ∈ rs, 0 ≤ predIx ps R.head.pred := fun R hR => hall _ (List.mem_flatMap.2 ⟨R, hR, List.mem_cons_self⟩)
  have hbd : ∀ R ∈ rs, ∀ A ∈ R.body, 0 ≤ predIx ps A.pred := fun R hR A hA => hall _ (List.mem_flatMap.2 ⟨R, hR, List.mem_cons_of_mem _ hA⟩)
  have lhd : ∀ R ∈ rs, ixOf ps R.head.pred < ps.length := fun R hR => predIx_lt (hhd R hR)
  have lbd : ∀ R ∈ rs, ∀ A ∈ R.body, ixOf ps A.pred < ps.length := fun R hR A hA => predIx_lt (hbd R hR A hA)
  refine ⟨fun p => (List.range ps.length).countP (negR ps rs p), fun R hR A hA => ?_, fun i => by have := List.countP_le_length (p := negR ps rs i) (l := List.range ps.length); simpa using this⟩
  have hpq := hangs_edge (ps := ps) hR hA
  have himp : ∀ x ∈ List.range ps.length, negR ps rs (ixOf ps A.pred) x = true → negR ps rs (ixOf ps R.head.pred) x = true := by
    intro x _ hx
    unfold negR at hx ⊢
    simp only [List.any_eq_true, Bool.and_eq_true, Bool.or_eq_true, beq_iff_eq] at hx ⊢
    obtain ⟨R', hR', A', hA', hn, h1, h2⟩ := hx
    refine ⟨R', hR', A', hA', hn, .inr ?_, h2⟩
    rcases h1 with h1 | h1
    · rw [← h1]; exact hpq
    · exact hangs_trans (lhd R hR) (lbd R hR A hA) (lhd R' hR') hpq h1
  unfold Keeps
  cases hno' : A.no with
  | false =>
    simp only [Bool.false_eq_true, if_false, Nat.add_zero]
    exact List.countP_mono_left himp
  | true =>
    simp only [if_true]
    refine countP_lt _ himp (y := ixOf ps A.pred) (List.mem_range.2 (lbd R hR A hA)) ?_ ?_
    · unfold negR
      simp only [List.any_eq_true, Bool.and_eq_true, Bool.or_eq_true, beq_iff_eq]
      exact ⟨R, hR, A, hA, hno', .inl rfl, .inl rfl⟩
    · cases hq : negR ps rs (ixOf ps A.pred) (ixOf ps A.pred) with
      | false => rfl
      | true =>
        exfalso
        unfold negR at hq
        simp only [List.any_eq_true, Bool.and_eq_true, Bool.or_eq_true, beq_iff_eq] at hq
        obtain ⟨R', hR', A', hA', hn, h1, h2⟩ := hq
        have hc := hno R' hR' A' hA'
        unfold cycB at hc
        rw [hn, Bool.true_and, Bool.or_eq_false_iff] at hc
        obtain ⟨hc1, hc2⟩ := hc
        have lq := lbd R hR A hA
        have la := lhd R' hR'
        have lb := lbd R' hR' A' hA'
        have key : ixOf ps A'.pred = ixOf ps R'.head.pred ∨ hangsM ps rs (ixOf ps A'.pred) (ixOf ps R'.head.pred) = true := by
          rcases h2 with h2 | h2 <;> rcases h1 with h1 | h1
          · exact .inl (h2.trans h1)
          · exact .inr (by rw [h2]; exact h1)
          · exact .inr (by rw [← h1]; exact h2)
          · exact .inr (hangs_trans lb lq la h2 h1)
        rcases key with key | key
        · have p1 := hbd R' hR' A' hA'
          have p2 := hhd R' hR'
          unfold ixOf at key
          have : predIx ps A'.pred = predIx ps R'.head.pred := by omega
          rw [this] at hc1; simp at hc1
        · rw [key] at hc2; cases hc2

end Go.Proofs.YtldkpahaocjdpaaGreat
