/-
  Plain: both readers read the same rules, and mention the same atoms; or they stop at the same place.
-/
import Derived.Test.YtldkpahaocjdpaaGreatLoadsT36
namespace Go.Proofs.YtldkpahaocjdpaaGreat

/-- The mention of an atom of the rule num. -/
structure MenRel (num : Nat) (A : RAtom) (M : PMen) : Prop where
  num : M.num = num
  neg : M.neg = A.no
  pd : M.pd = A.pred
  ts : M.ts = A.terms.map tmOf
  start : A.no = true → M.start = A.noAt
  place : M.place = A.at_
  pl : ∀ i (h : i < A.terms.length), M.pl i = (A.terms[i]).at_

def litOf (A : RAtom) : PLit := ⟨A.no, A.pred, A.terms.map tmOf⟩
def pruleOf (R : RRule) : PRule := ⟨R.head.pred, R.head.terms.map tmOf, R.body.map litOf⟩

/-- Atoms and their mentions, side by side. -/
def Men (num : Nat) (l : List RAtom) (ms : List PMen) : Prop := ∃ q : List (RAtom × PMen), q.map (·.1) = l ∧ q.map (·.2) = ms ∧ ∀ x ∈ q, MenRel num x.1 x.2

theorem Men.nil (num : Nat) : Men num [] [] := ⟨[], rfl, rfl, by simp⟩
theorem Men.snoc {num : Nat} {l : List RAtom} {ms : List PMen} (h : Men num l ms) {A : RAtom} {M : PMen} (hm : MenRel num A M) : Men num (l ++ [A]) (ms ++ [M]) := by
  obtain ⟨q, h1, h2, h3⟩ := h
  refine ⟨q ++ [(A, M)], by simp [h1], by simp [h2], fun x hx => ?_⟩
  rcases List.mem_append.1 hx with hx | hx
  · exact h3 x hx
  · simp at hx; subst hx; exact hm
theorem Men.cons {num : Nat} {l : List RAtom} {ms : List PMen} (h : Men num l ms) {A : RAtom} {M : PMen} (hm : MenRel num A M) : Men num (A :: l) (M :: ms) := by
  obtain ⟨q, h1, h2, h3⟩ := h
  refine ⟨(A, M) :: q, by simp [h1], by simp [h2], fun x hx => ?_⟩
  rcases List.mem_cons.1 hx with hx | hx
  · subst hx; exact hm
  · exact h3 x hx

theorem lit_facts (s : ByteArray) (p : Nat) (bd : Int) (hbd : bd < 0) (hp : p ≤ s.size) : litNo s p bd = ((scanK s p).1 == 4) ∧ litPos s p bd = rtake s p 4 ∧ litBad s p bd = bd := by
  have K := kinds s p hp
  have e : litNo s p bd = ((scanK s p).1 == 4) := by
    unfold litNo; rw [Bool.eq_iff_iff]; simp [hbd, K.k4]
  by_cases h : (scanK s p).1 = 4
  · have hk := K.k4.1 h
    have t := take_neg hbd (p := p) (s := s) (by rw [hk]; decide) (by rw [hk]; decide)
    have hb : ((scanK s p).1 == 4) = true := by simpa using h
    refine ⟨e, ?_, ?_⟩
    · unfold litPos rtake; rw [e, if_pos hb, if_pos hb, t.2, K.to_]
    · unfold litBad; rw [e, if_pos hb, t.1]
  · have hb : ¬ ((scanK s p).1 == 4) = true := by simpa using h
    refine ⟨e, ?_, ?_⟩
    · unfold litPos rtake; rw [e, if_neg hb, if_neg hb]
    · unfold litBad; rw [e, if_neg hb]

theorem rtake_le' {s : ByteArray} {p : Nat} {k : Int} (h : p ≤ s.size) : rtake s p k ≤ s.size := by
  unfold rtake; split
  · exact (scan_le s p h).2
  · exact h

/-- A literal. -/
theorem lit_eq (s : ByteArray) (num p : Nat) (bd : Int) (hbd : bd < 0) (hp : p ≤ s.size) :
    match patomS s (rtake s p 4) with
    | .no q => (litRest s p bd).2 = ((scanK s q).2.1 : Int)
    | .yes q pd ts pl => litRest s p bd = (q, bd) ∧ plitOf s p pd ts = litOf (litAtom s p bd) ∧ MenRel num (litAtom s p bd) (pmenOf s num p pd ts pl) ∧ q ≤ s.size := by
  obtain ⟨f1, f2, f3⟩ := lit_facts s p bd hbd hp
  have A := atom_eq s (rtake s p 4) bd hbd (rtake_le' hp)
  have K := kinds s p hp
  have K2 := kinds s (rtake s p 4) (rtake_le' hp)
  unfold litRest litAtom
  rw [f1, f2, f3]
  cases hr : patomS s (rtake s p 4) with
  | no q => rw [hr] at A; exact A
  | yes q pd ts pl =>
    rw [hr] at A
    obtain ⟨a1, a2, a3, a4, a5⟩ := A
    refine ⟨a1, by simp [plitOf, litOf, a2, a3], ⟨rfl, rfl, a2, a3, fun _ => K.at_, K2.at_, a4⟩, a5⟩

theorem bodyS_go (s : ByteArray) (f p : Nat) (bd : Int) (l : List RAtom) : bodyS s (f + 1) p bd l =
    if isS s (litRest s p (litBad1 s p bd l.length)).1 (litRest s p (litBad1 s p bd l.length)).2 { data := #[44] } then
      bodyS s f (hasPos s (litRest s p (litBad1 s p bd l.length)).1 (litRest s p (litBad1 s p bd l.length)).2 { data := #[44] }) (hasBad s (litRest s p (litBad1 s p bd l.length)).1 (litRest s p (litBad1 s p bd l.length)).2 { data := #[44] }) (l ++ [litAtom s p (litBad1 s p bd l.length)])
    else (l ++ [litAtom s p (litBad1 s p bd l.length)], hasPos s (litRest s p (litBad1 s p bd l.length)).1 (litRest s p (litBad1 s p bd l.length)).2 { data := #[44] }, hasBad s (litRest s p (litBad1 s p bd l.length)).1 (litRest s p (litBad1 s p bd l.length)).2 { data := #[44] }) := by rw [bodyS]

theorem body_bad (s : ByteArray) (f p : Nat) (bd : Int) (l : List RAtom) (a : Nat) (h : (litRest s p (litBad1 s p bd l.length)).2 = (a : Int)) : (bodyS s (f + 1) p bd l).2.2 = (a : Int) := by
  have h0 : (0 : Int) ≤ (a : Int) := by omega
  rw [bodyS_go, h, isS_pos h0, (has_pos h0).1, (has_pos h0).2]
  rfl

theorem need_bad {s : ByteArray} {p : Nat} {bd : Int} {a : Nat} {wd : ByteArray} (h : bd = (a : Int)) : takeBad s p (needBad0 s p bd wd) = (a : Int) := by
  have h0 : (0 : Int) ≤ (a : Int) := by omega
  subst h
  rw [need_pos h0]
  exact (take_pos h0).1

/-- Behind a body the reference wants a point; the program has taken it already. -/
theorem body_eq (s : ByteArray) (num : Nat) (bd : Int) (hbd : bd < 0) : ∀ (f p : Nat) (l : List RAtom) (ms0 ms : List PMen), l.length + f = 3 → p ≤ s.size → Men num l ms →
    ((pbodyS s num f p (l.map litOf) (ms0 ++ ms)).1 = true → ∃ q ms', (bodyS s (f + 1) p bd l).2 = (q, bd) ∧ (scanK s q).1 = 8 ∧ q ≤ s.size ∧ (pbodyS s num f p (l.map litOf) (ms0 ++ ms)).2.1 = (scanK s q).2.2 ∧ (pbodyS s num f p (l.map litOf) (ms0 ++ ms)).2.2.1 = (bodyS s (f + 1) p bd l).1.map litOf ∧ (pbodyS s num f p (l.map litOf) (ms0 ++ ms)).2.2.2 = ms0 ++ ms' ∧ Men num (bodyS s (f + 1) p bd l).1 ms') ∧
    ((pbodyS s num f p (l.map litOf) (ms0 ++ ms)).1 = false → takeBad s (bodyS s (f + 1) p bd l).2.1 (needBad0 s (bodyS s (f + 1) p bd l).2.1 (bodyS s (f + 1) p bd l).2.2 { data := #[46] }) = ((scanK s (pbodyS s num f p (l.map litOf) (ms0 ++ ms)).2.1).2.1 : Int)) := by
  intro f
  induction f with
  | zero =>
    intro p l ms0 ms hl hp _
    have K := kinds s p hp
    refine ⟨fun h => by simp [pbodyS] at h, fun _ => ?_⟩
    have e : litBad1 s p bd l.length = ((tok s p).at_ : Int) := by
      unfold litBad1
      have : (l.length == 3) = true := by simp; omega
      rw [if_pos this, fail_neg hbd]
    have h0 : (0 : Int) ≤ ((tok s p).at_ : Int) := by omega
    have hb := body_bad s 0 p bd l (tok s p).at_ (by rw [e]; exact lit_pos h0)
    simp only [pbodyS]
    rw [need_bad hb, K.at_]
  | succ f ih =>
    intro p l ms0 ms hl hp hM
    have e : litBad1 s p bd l.length = bd := by
      unfold litBad1
      have : ¬ (l.length == 3) = true := by simp; omega
      rw [if_neg this]
    have L := lit_eq s num p bd hbd hp
    rw [pbodyS]
    cases hr : patomS s (rtake s p 4) with
    | no q =>
      rw [hr] at L
      have hb := body_bad s (f + 1) p bd l (scanK s q).2.1 (by rw [e]; exact L)
      refine ⟨fun h => by simp at h, fun _ => ?_⟩
      rw [need_bad hb]
    | yes q pd ts pl =>
      rw [hr] at L
      obtain ⟨l1, l2, l3, l4⟩ := L
      have K := kinds s q l4
      have hlit : l.map litOf ++ [plitOf s p pd ts] = (l ++ [litAtom s p bd]).map litOf := by simp [l2]
      have hmm : ms0 ++ ms ++ [pmenOf s num p pd ts pl] = ms0 ++ (ms ++ [pmenOf s num p pd ts pl]) := by simp
      have hM2 := hM.snoc l3
      rw [bodyS_go, e, l1]
      simp only
      rw [hlit, hmm]
      by_cases hc : (tok s q).kind = 115 ∧ (tok s q).text.toList = [44]
      · have hc' : (tok s q).kind = 115 ∧ (tok s q).text.toList = ({ data := #[44] } : ByteArray).toList := ⟨hc.1, by rw [hc.2, ByteArray.toList_eq]⟩
        rw [if_pos (K.k7.2 hc), K.to_, (isS_iff hbd).2 hc', (has_neg hbd hc').1, (has_neg hbd hc').2, if_pos rfl]
        exact ih _ _ _ _ (by simp; omega) (by rw [← K.to_]; exact (scan_le s q l4).2) hM2
      · have hc' : ¬ ((tok s q).kind = 115 ∧ (tok s q).text.toList = ({ data := #[44] } : ByteArray).toList) := fun h => hc ⟨h.1, by rw [h.2, ByteArray.toList_eq]⟩
        rw [if_neg (fun h => hc (K.k7.1 h)), isS_no hbd hc', (has_not hbd hc').1, (has_not hbd hc').2, if_neg (by decide)]
        by_cases hs : (tok s q).kind = 115 ∧ (tok s q).text.toList = [46]
        · have h8 := K.k8.2 hs
          have hr8 : rtake s q 8 = (scanK s q).2.2 := by unfold rtake; rw [if_pos (by simpa using h8)]
          refine ⟨fun _ => ⟨q, ms ++ [pmenOf s num p pd ts pl], rfl, h8, l4, hr8, rfl, rfl, hM2⟩, fun h => by simp [h8] at h⟩
        · have h8 : ¬ (scanK s q).1 = 8 := fun h => hs (K.k8.1 h)
          have hr8 : rtake s q 8 = q := by unfold rtake; rw [if_neg (by simpa using h8)]
          have hs' : ¬ ((tok s q).kind = 115 ∧ (tok s q).text.toList = ({ data := #[46] } : ByteArray).toList) := fun h => hs ⟨h.1, by rw [h.2, ByteArray.toList_eq]⟩
          refine ⟨fun h => by simp [h8] at h, fun _ => ?_⟩
          simp only [hr8]
          rw [need_no hbd hs', K.at_]

/-- A rule. -/
theorem rule_eq (s : ByteArray) (num p : Nat) (bd : Int) (hbd : bd < 0) (hp : p ≤ s.size) (ms : List PMen) :
    ((pruleS s num p ms).1 = true → ∃ ms', rulePos s p bd = (pruleS s num p ms).2.1 ∧ ruleBad s p bd = bd ∧ (pruleS s num p ms).2.1 ≤ s.size ∧ (pruleS s num p ms).2.2.1 = pruleOf (ruleOf s p bd) ∧ (pruleS s num p ms).2.2.2 = ms ++ ms' ∧ Men num (ruleOf s p bd).atoms ms') ∧
    ((pruleS s num p ms).1 = false → ruleBad s p bd = ((scanK s (pruleS s num p ms).2.1).2.1 : Int)) := by
  have A := atom_eq s p bd hbd hp
  have K := kinds s p hp
  unfold pruleS
  cases hr : patomS s p with
  | no q =>
    rw [hr] at A
    have h0 : (0 : Int) ≤ ((scanK s q).2.1 : Int) := by omega
    refine ⟨fun h => by simp at h, fun _ => ?_⟩
    unfold ruleBad bodyOf
    rw [show (atomRest s p bd).2.2 = ((scanK s q).2.1 : Int) from A, isS_pos h0]
    simp only [Bool.false_eq_true, if_false]
    exact need_bad (has_pos h0).2
  | yes q pd ts pl =>
    rw [hr] at A
    obtain ⟨a1, a2, a3, a4, a5⟩ := A
    have hrest1 : (atomRest s p bd).2.1 = q := by rw [a1]
    have hrest2 : (atomRest s p bd).2.2 = bd := by rw [a1]
    have K2 := kinds s q a5
    have hrel : MenRel num (headOf s p bd) (phead s num p pd ts pl) := ⟨rfl, rfl, a2, a3, fun h => by simp [headOf] at h, K.at_, a4⟩
    by_cases hw : (tok s q).kind = 115 ∧ (tok s q).text.toList = [58, 45]
    · have hw' : (tok s q).kind = 115 ∧ (tok s q).text.toList = ({ data := #[58, 45] } : ByteArray).toList := ⟨hw.1, by rw [hw.2, ByteArray.toList_eq]⟩
      have h9 := K2.k9.2 hw
      have h8 : ¬ (scanK s q).1 = 8 := by rw [h9]; decide
      have eB : bodyOf s p bd = bodyS s 4 (tok s q).to bd [] := by
        unfold bodyOf
        rw [hrest1, hrest2, (isS_iff hbd).2 hw', (has_neg hbd hw').1, (has_neg hbd hw').2]
        rfl
      have hq2 : (tok s q).to ≤ s.size := by rw [← K2.to_]; exact (scan_le s q a5).2
      have B := body_eq s num bd hbd 3 (tok s q).to [] (ms ++ [phead s num p pd ts pl]) [] rfl hq2 (Men.nil num)
      rw [List.map_nil, List.append_nil] at B
      simp only [if_neg h8, if_pos h9, K2.to_]
      refine ⟨fun h => ?_, fun h => ?_⟩
      · obtain ⟨r, ms', b1, b2, b3, b4, b5, b6, b7⟩ := B.1 h
        have K3 := kinds s r b3
        have hs := K3.k8.1 b2
        have hs' : (tok s r).kind = 115 ∧ (tok s r).text.toList = ({ data := #[46] } : ByteArray).toList := ⟨hs.1, by rw [hs.2, ByteArray.toList_eq]⟩
        have e1 : (bodyOf s p bd).2.1 = r := by rw [eB, b1]
        have e2 : (bodyOf s p bd).2.2 = bd := by rw [eB, b1]
        refine ⟨phead s num p pd ts pl :: ms', ?_, ?_, ?_, ?_, ?_, ?_⟩
        · unfold rulePos; rw [e1, e2, (need_yes hbd hs').1, b4, K3.to_]
        · unfold ruleBad; rw [e1, e2, (need_yes hbd hs').2]
        · rw [b4]; exact (scan_le s r b3).2
        · rw [b5, ← eB]; simp [pruleOf, ruleOf, headOf, a2, a3]
        · rw [b6]; simp
        · rw [← eB] at b7; exact Men.cons b7 hrel
      · unfold ruleBad
        rw [eB]
        exact B.2 h
    · have hw' : ¬ ((tok s q).kind = 115 ∧ (tok s q).text.toList = ({ data := #[58, 45] } : ByteArray).toList) := fun h => hw ⟨h.1, by rw [h.2, ByteArray.toList_eq]⟩
      have h9 : ¬ (scanK s q).1 = 9 := fun h => hw (K2.k9.1 h)
      have eB : bodyOf s p bd = ([], q, bd) := by
        unfold bodyOf
        rw [hrest1, hrest2, isS_no hbd hw', (has_not hbd hw').1, (has_not hbd hw').2]
        rfl
      by_cases hs : (tok s q).kind = 115 ∧ (tok s q).text.toList = [46]
      · have hs' : (tok s q).kind = 115 ∧ (tok s q).text.toList = ({ data := #[46] } : ByteArray).toList := ⟨hs.1, by rw [hs.2, ByteArray.toList_eq]⟩
        have h8 := K2.k8.2 hs
        simp only [if_pos h8]
        refine ⟨fun _ => ⟨[phead s num p pd ts pl], ?_, ?_, (scan_le s q a5).2, ?_, rfl, ?_⟩, fun h => by simp at h⟩
        · unfold rulePos; rw [eB]; simp only; rw [(need_yes hbd hs').1, K2.to_]
        · unfold ruleBad; rw [eB]; simp only; rw [(need_yes hbd hs').2]
        · simp [pruleOf, ruleOf, headOf, eB, a2, a3]
        · have : (ruleOf s p bd).atoms = [headOf s p bd] := by simp [ruleOf, RRule.atoms, eB]
          rw [this]
          exact Men.cons (Men.nil num) hrel
      · have hs' : ¬ ((tok s q).kind = 115 ∧ (tok s q).text.toList = ({ data := #[46] } : ByteArray).toList) := fun h => hs ⟨h.1, by rw [h.2, ByteArray.toList_eq]⟩
        have h8 : ¬ (scanK s q).1 = 8 := fun h => hs (K2.k8.1 h)
        simp only [if_neg h8, if_neg h9]
        refine ⟨fun h => by simp at h, fun _ => ?_⟩
        unfold ruleBad; rw [eB]; simp only
        rw [need_no hbd hs', K2.at_]

/-- Rules and the mentions of their atoms, numbered from n on. -/
inductive TextRel : Nat → List RRule → List PMen → Prop where
  | nil (n : Nat) : TextRel n [] []
  | cons {n : Nat} {R : RRule} {rs : List RRule} {ms ms' : List PMen} (h : Men n R.atoms ms) (t : TextRel (n + 1) rs ms') : TextRel n (R :: rs) (ms ++ ms')

theorem TextRel.snoc {n : Nat} {rs : List RRule} {ms : List PMen} (h : TextRel n rs ms) : ∀ {R : RRule} {ms' : List PMen}, Men (n + rs.length) R.atoms ms' → TextRel n (rs ++ [R]) (ms ++ ms') := by
  induction h with
  | nil n =>
    intro R ms' hm
    have := TextRel.cons (rs := []) (ms' := []) hm (TextRel.nil _)
    simpa using this
  | cons h t ih =>
    intro R ms' hm
    rw [List.append_assoc, List.cons_append]
    refine TextRel.cons h (ih ?_)
    simpa [Nat.add_comm, Nat.add_left_comm, Nat.add_assoc] using hm

/-- All rules. -/
theorem rules_eq (s : ByteArray) (bd : Int) (hbd : bd < 0) : ∀ (f p : Nat) (rs : List RRule) (ms : List PMen), rs.length + f = 30 → p ≤ s.size → TextRel 0 rs ms →
    ((prulesS s (f + 1) p (rs.map pruleOf) ms).1 = true → (rulesS s (f + 1) p bd rs).2.2 = bd ∧ (prulesS s (f + 1) p (rs.map pruleOf) ms).2.2.1 = (rulesS s (f + 1) p bd rs).1.map pruleOf ∧ TextRel 0 (rulesS s (f + 1) p bd rs).1 (prulesS s (f + 1) p (rs.map pruleOf) ms).2.2.2) ∧
    ((prulesS s (f + 1) p (rs.map pruleOf) ms).1 = false → (rulesS s (f + 1) p bd rs).2.2 = ((scanK s (prulesS s (f + 1) p (rs.map pruleOf) ms).2.1).2.1 : Int)) := by
  intro f
  induction f with
  | zero =>
    intro p rs ms hl hp hT
    have K := kinds s p hp
    rw [prulesS, rulesS]
    by_cases h0 : (scanK s p).1 = 0
    · have hg : goesOn s p bd = false := by unfold goesOn; simp [K.k0.1 h0]
      rw [if_pos h0, hg, if_neg (by decide)]
      exact ⟨fun _ => ⟨rfl, rfl, hT⟩, fun h => by simp at h⟩
    · have hg : goesOn s p bd = true := by unfold goesOn; simp [hbd]; exact fun h => h0 (K.k0.2 h)
      rw [if_neg h0, if_pos (by simp; omega), hg, if_pos rfl]
      refine ⟨fun h => by simp at h, fun _ => ?_⟩
      have e : ruleBad1 s p bd rs.length = ((tok s p).at_ : Int) := by
        unfold ruleBad1
        rw [if_pos (by simp; omega), fail_neg hbd]
      have h00 : (0 : Int) ≤ ((tok s p).at_ : Int) := by omega
      simp only [rulesS, e]
      unfold ruleBad
      have hb : (bodyOf s p ((tok s p).at_ : Int)).2.2 = ((tok s p).at_ : Int) := by
        unfold bodyOf
        rw [atom_pos h00, isS_pos h00, (has_pos h00).1, (has_pos h00).2]
        rfl
      rw [need_bad hb, K.at_]
  | succ f ih =>
    intro p rs ms hl hp hT
    have K := kinds s p hp
    rw [prulesS, rulesS]
    by_cases h0 : (scanK s p).1 = 0
    · have hg : goesOn s p bd = false := by unfold goesOn; simp [K.k0.1 h0]
      rw [if_pos h0, hg, if_neg (by decide)]
      exact ⟨fun _ => ⟨rfl, rfl, hT⟩, fun h => by simp at h⟩
    · have hg : goesOn s p bd = true := by unfold goesOn; simp [hbd]; exact fun h => h0 (K.k0.2 h)
      have e : ruleBad1 s p bd rs.length = bd := by unfold ruleBad1; rw [if_neg (by simp; omega)]
      rw [if_neg h0, if_neg (by simp; omega), hg, if_pos rfl, e, List.length_map]
      have R := rule_eq s rs.length p bd hbd hp ms
      cases hr : (pruleS s rs.length p ms).1 with
      | true =>
        obtain ⟨ms', r1, r2, r3, r4, r5, r6⟩ := R.1 hr
        rw [if_pos rfl, r1, r2, r4, r5]
        have e2 : rs.map pruleOf ++ [pruleOf (ruleOf s p bd)] = (rs ++ [ruleOf s p bd]).map pruleOf := by simp
        rw [e2]
        exact ih _ _ _ (by simp; omega) r3 (hT.snoc (by simpa using r6))
      | false =>
        have hb := R.2 hr
        rw [if_neg (by decide)]
        refine ⟨fun h => by simp at h, fun _ => ?_⟩
        have h00 : goesOn s (rulePos s p bd) (ruleBad s p bd) = false := by unfold goesOn; rw [hb]; simp
        rw [rules_end _ _ _ _ _ h00]
        exact hb

def pparsed (s : ByteArray) : Bool × Nat × List PRule × List PMen := prulesS s 31 0 [] []

theorem parsed_eq (s : ByteArray) :
    ((pparsed s).1 = true → (parsed s).2.2 = -1 ∧ (pparsed s).2.2.1 = (parsed s).1.map pruleOf ∧ TextRel 0 (parsed s).1 (pparsed s).2.2.2) ∧
    ((pparsed s).1 = false → (parsed s).2.2 = ((scanK s (pparsed s).2.1).2.1 : Int)) :=
  rules_eq s (-1) (by decide) 30 0 [] [] rfl (Nat.zero_le _) (TextRel.nil 0)
end Go.Proofs.YtldkpahaocjdpaaGreat
