/-
  Plain: both readers read the same: the same atoms, literals, rules; or they stop at the same place.
-/
import Derived.Test.YtldkpahaocjdpaaGreatLoadsT35
import Derived.Test.YtldkpahaocjdpaaGreatLoadsT23
namespace Go.Proofs.YtldkpahaocjdpaaGreat

/-! ### behind a fault nothing goes on -/
theorem take_pos {s : ByteArray} {p : Nat} {bd : Int} (h : 0 ≤ bd) : takeBad s p bd = bd ∧ takePos s p bd = p := by
  have e : failS s p bd = bd := by unfold failS; rw [if_neg (by omega)]
  have e1 : takeBad s p bd = bd := by unfold takeBad; split; exact e; rfl
  exact ⟨e1, by unfold takePos; rw [e1, if_neg (by omega)]⟩
theorem fail_pos {s : ByteArray} {p : Nat} {bd : Int} (h : 0 ≤ bd) : failS s p bd = bd := by unfold failS; rw [if_neg (by omega)]
theorem isS_pos {s wd : ByteArray} {p : Nat} {bd : Int} (h : 0 ≤ bd) : isS s p bd wd = false := by
  unfold isS; simp; intro h1; omega
theorem has_pos {s wd : ByteArray} {p : Nat} {bd : Int} (h : 0 ≤ bd) : hasPos s p bd wd = p ∧ hasBad s p bd wd = bd := by
  unfold hasPos hasBad; rw [isS_pos h]; exact ⟨rfl, rfl⟩
theorem need_pos {s wd : ByteArray} {p : Nat} {bd : Int} (h : 0 ≤ bd) : needBad0 s p bd wd = bd := by
  unfold needBad0; rw [isS_pos h]; exact fail_pos h
theorem termBad_pos {s : ByteArray} {p n : Nat} {bd : Int} (h : 0 ≤ bd) : termBad s p bd n = bd := by
  unfold termBad; split; exact fail_pos h; rfl
theorem terms_pos {s : ByteArray} {p : Nat} {bd : Int} {l : List RTerm} (f : Nat) (h : 0 ≤ bd) : (termsS s (f + 1) p bd l).2.2 = bd := by
  rw [termsS]
  simp only [termBad_pos h, (take_pos h).1, (take_pos h).2, isS_pos h, (has_pos h).1, (has_pos h).2, need_pos h]
  rfl
theorem atom_pos {s : ByteArray} {p : Nat} {bd : Int} (h : 0 ≤ bd) : (atomRest s p bd).2.2 = bd := by
  have e1 : atomBad1 s p bd = bd := by unfold atomBad1; split; exact fail_pos h; rfl
  have e2 : atomBad2 s p bd = bd := by unfold atomBad2; rw [e1]; exact (take_pos h).1
  unfold atomRest
  rw [e2, isS_pos h]
  exact (has_pos h).2
theorem lit_pos {s : ByteArray} {p : Nat} {bd : Int} (h : 0 ≤ bd) : (litRest s p bd).2 = bd := by
  have e1 : litNo s p bd = false := by unfold litNo; simp; intro h1; omega
  unfold litRest litBad litPos
  rw [e1]
  exact atom_pos h
theorem body_pos {s : ByteArray} {p : Nat} {bd : Int} {l : List RAtom} (f : Nat) (h : 0 ≤ bd) : (bodyS s (f + 1) p bd l).2.2 = bd := by
  have e1 : litBad1 s p bd l.length = bd := by unfold litBad1; split; exact fail_pos h; rfl
  rw [bodyS, e1, lit_pos h, isS_pos h]
  exact (has_pos h).2

/-! ### a step without a fault -/
theorem take_neg {s : ByteArray} {p : Nat} {bd : Int} (h : bd < 0) (h1 : (tok s p).kind ≠ 33) (h2 : (tok s p).kind ≠ 46) : takeBad s p bd = bd ∧ takePos s p bd = (tok s p).to := by
  have e1 : takeBad s p bd = bd := by unfold takeBad; rw [if_neg (by simp [h1, h2])]
  exact ⟨e1, by unfold takePos; rw [e1, if_pos h]⟩
theorem fail_neg {s : ByteArray} {p : Nat} {bd : Int} (h : bd < 0) : failS s p bd = (tok s p).at_ := by unfold failS; rw [if_pos h]
theorem isS_iff {s wd : ByteArray} {p : Nat} {bd : Int} (h : bd < 0) : isS s p bd wd = true ↔ ((tok s p).kind = 115 ∧ (tok s p).text.toList = wd.toList) := by
  unfold isS; simp [h]
theorem isS_no {s wd : ByteArray} {p : Nat} {bd : Int} (h : bd < 0) (hn : ¬ ((tok s p).kind = 115 ∧ (tok s p).text.toList = wd.toList)) : isS s p bd wd = false := by
  cases e : isS s p bd wd with
  | false => rfl
  | true => exact absurd ((isS_iff h).1 e) hn
theorem has_neg {s wd : ByteArray} {p : Nat} {bd : Int} (h : bd < 0) (hy : (tok s p).kind = 115 ∧ (tok s p).text.toList = wd.toList) : hasPos s p bd wd = (tok s p).to ∧ hasBad s p bd wd = bd := by
  have e := (isS_iff (wd := wd) h).2 hy
  have t := take_neg h (by rw [hy.1]; decide) (by rw [hy.1]; decide)
  unfold hasPos hasBad; rw [e]; exact ⟨t.2, t.1⟩
theorem has_not {s wd : ByteArray} {p : Nat} {bd : Int} (h : bd < 0) (hn : ¬ ((tok s p).kind = 115 ∧ (tok s p).text.toList = wd.toList)) : hasPos s p bd wd = p ∧ hasBad s p bd wd = bd := by
  unfold hasPos hasBad; rw [isS_no h hn]; exact ⟨rfl, rfl⟩

theorem chr_list (c : UInt8) : (chr c).toList = [c] := by
  rw [ByteArray.toList_eq]

def tmOf (t : RTerm) : Bool × ByteArray := (t.isVar, t.text)

/-- What terms are read, in the reference's words. -/
theorem terms_bad1 {s : ByteArray} {p : Nat} {bd : Int} {l : List RTerm} (f : Nat) (h : bd < 0) (hn : ¬ ((tok s p).kind = 110 ∨ (tok s p).kind = 118) ∨ l.length = 4) : (termsS s (f + 1) p bd l).2.2 = (tok s p).at_ := by
  have e : termBad s p bd l.length = (tok s p).at_ := by
    unfold termBad
    rw [if_pos, fail_neg h]
    rcases hn with hn | hn
    · simp [not_or.1 hn]
    · simp [hn]
  have h0 : (0 : Int) ≤ (tok s p).at_ := by omega
  rw [termsS]
  simp only [e, (take_pos h0).1, (take_pos h0).2, isS_pos h0, (has_pos h0).1, (has_pos h0).2, need_pos h0]
  rfl

theorem terms_go {s : ByteArray} {p : Nat} {bd : Int} {l : List RTerm} (f : Nat) (h : bd < 0) (hk : (tok s p).kind = 110 ∨ (tok s p).kind = 118) (hl : l.length ≠ 4) (hc : (tok s (tok s p).to).kind = 115 ∧ (tok s (tok s p).to).text.toList = [44]) :
    termsS s (f + 1) p bd l = termsS s f (tok s (tok s p).to).to bd (l ++ [termOf s p]) := by
  have e : termBad s p bd l.length = bd := by
    unfold termBad
    rw [if_neg]
    rcases hk with hk | hk <;> simp [hk, hl]
  have t := take_neg h (p := p) (s := s) (by rcases hk with hk | hk <;> rw [hk] <;> decide) (by rcases hk with hk | hk <;> rw [hk] <;> decide)
  rw [← chr_list] at hc
  rw [termsS]
  simp only [e, t.1, t.2, (has_neg h hc).1, (has_neg h hc).2, (isS_iff h).2 hc, if_true]

theorem terms_end {s : ByteArray} {p : Nat} {bd : Int} {l : List RTerm} (f : Nat) (h : bd < 0) (hk : (tok s p).kind = 110 ∨ (tok s p).kind = 118) (hl : l.length ≠ 4) (hc : ¬ ((tok s (tok s p).to).kind = 115 ∧ (tok s (tok s p).to).text.toList = [44])) :
    termsS s (f + 1) p bd l = (l ++ [termOf s p], takePos s (tok s p).to (needBad0 s (tok s p).to bd (chr 41)), takeBad s (tok s p).to (needBad0 s (tok s p).to bd (chr 41))) := by
  have e : termBad s p bd l.length = bd := by
    unfold termBad
    rw [if_neg]
    rcases hk with hk | hk <;> simp [hk, hl]
  have t := take_neg h (p := p) (s := s) (by rcases hk with hk | hk <;> rw [hk] <;> decide) (by rcases hk with hk | hk <;> rw [hk] <;> decide)
  rw [← chr_list] at hc
  rw [termsS]
  simp only [e, t.1, t.2, (has_not h hc).1, (has_not h hc).2, isS_no h hc]
  rfl

theorem need_yes {s wd : ByteArray} {p : Nat} {bd : Int} (h : bd < 0) (hy : (tok s p).kind = 115 ∧ (tok s p).text.toList = wd.toList) : takePos s p (needBad0 s p bd wd) = (tok s p).to ∧ takeBad s p (needBad0 s p bd wd) = bd := by
  have t := take_neg h (by rw [hy.1]; decide) (by rw [hy.1]; decide)
  unfold needBad0
  rw [(isS_iff h).2 hy]
  exact ⟨t.2, t.1⟩
theorem need_no {s wd : ByteArray} {p : Nat} {bd : Int} (h : bd < 0) (hn : ¬ ((tok s p).kind = 115 ∧ (tok s p).text.toList = wd.toList)) : takeBad s p (needBad0 s p bd wd) = (tok s p).at_ := by
  unfold needBad0
  rw [isS_no h hn]
  simp only [Bool.false_eq_true, if_false, fail_neg h]
  exact (take_pos (by omega)).1

theorem setPl_snoc {l : List RTerm} {pl : Nat → Nat} {t : RTerm} (hpl : ∀ i (h : i < l.length), pl i = (l[i]).at_) : ∀ i (h : i < (l ++ [t]).length), setPl pl l.length t.at_ i = ((l ++ [t])[i]).at_ := by
  intro i h
  by_cases e : i = l.length
  · subst e; simp [setPl]
  · have h1 : i < l.length := by simp at h; omega
    rw [List.getElem_append_left h1]
    simp [setPl, e, hpl i h1]

theorem terms_eq (s : ByteArray) (bd : Int) (hbd : bd < 0) : ∀ (f p : Nat) (l : List RTerm) (pl : Nat → Nat), l.length + f = 4 → p ≤ s.size → (∀ i (h : i < l.length), pl i = (l[i]).at_) →
    ((ptermsS s f p (l.map tmOf) pl).1 = true → (termsS s (f + 1) p bd l).2 = ((ptermsS s f p (l.map tmOf) pl).2.1, bd) ∧ (ptermsS s f p (l.map tmOf) pl).2.2.1 = (termsS s (f + 1) p bd l).1.map tmOf ∧ (∀ i (h : i < (termsS s (f + 1) p bd l).1.length), (ptermsS s f p (l.map tmOf) pl).2.2.2 i = ((termsS s (f + 1) p bd l).1[i]).at_) ∧ (ptermsS s f p (l.map tmOf) pl).2.1 ≤ s.size) ∧
    ((ptermsS s f p (l.map tmOf) pl).1 = false → (termsS s (f + 1) p bd l).2.2 = ((scanK s (ptermsS s f p (l.map tmOf) pl).2.1).2.1 : Int)) := by
  intro f
  induction f with
  | zero =>
    intro p l pl hl hp _
    refine ⟨fun h => by simp [ptermsS] at h, fun _ => ?_⟩
    rw [terms_bad1 0 hbd (.inr (by omega))]
    simp only [ptermsS]
    rw [(kinds s p hp).at_]
  | succ f ih =>
    intro p l pl hl hp hpl
    have K := kinds s p hp
    have hto : (tok s p).to ≤ s.size := by rw [← K.to_]; exact (scan_le s p hp).2
    have K2 := kinds s (tok s p).to hto
    have hto2 : (tok s (tok s p).to).to ≤ s.size := by rw [← K2.to_]; exact (scan_le s _ hto).2
    by_cases hk : (tok s p).kind = 110 ∨ (tok s p).kind = 118
    · have hkk : (scanK s p).1 = 2 ∨ (scanK s p).1 = 3 := by rw [K.k2, K.k3]; exact hk
      have hterm : (l.map tmOf) ++ [(decide ((scanK s p).1 = 3), rword s p)] = (l ++ [termOf s p]).map tmOf := by
        rw [List.map_append]
        simp only [List.map_cons, List.map_nil, tmOf, termOf]
        rw [K.word hk]
        have : decide ((scanK s p).1 = 3) = ((tok s p).kind == 118) := by
          rw [Bool.eq_iff_iff]; simp [K.k3]
        rw [this]
      have hsn : ∀ i (h : i < (l ++ [termOf s p]).length), setPl pl l.length (scanK s p).2.1 i = ((l ++ [termOf s p])[i]).at_ := by
        rw [K.at_]; exact setPl_snoc (t := termOf s p) hpl
      rw [ptermsS, if_pos hkk, K.to_, hterm, List.length_map]
      by_cases hc : (tok s (tok s p).to).kind = 115 ∧ (tok s (tok s p).to).text.toList = [44]
      · rw [if_pos (K2.k7.2 hc), K2.to_, terms_go (f + 1) hbd hk (by omega) hc]
        exact ih _ _ _ (by simp; omega) hto2 hsn
      · rw [if_neg (fun e => hc (K2.k7.1 e)), terms_end (f + 1) hbd hk (by omega) hc]
        by_cases hs : (tok s (tok s p).to).kind = 115 ∧ (tok s (tok s p).to).text.toList = [41]
        · have hr : rtake s (tok s p).to 6 = (tok s (tok s p).to).to := by unfold rtake; rw [K2.k6.2 hs]; exact K2.to_
          rw [← chr_list] at hs
          refine ⟨fun _ => ⟨?_, rfl, hsn, by simp only [hr]; exact hto2⟩, fun h => ?_⟩
          · simp only [(need_yes hbd hs).1, (need_yes hbd hs).2, hr]
          · rw [chr_list] at hs; simp [K2.k6.2 hs] at h
        · have h6 : ¬ (scanK s (tok s p).to).1 = 6 := fun e => hs (K2.k6.1 e)
          have hr : rtake s (tok s p).to 6 = (tok s p).to := by unfold rtake; rw [if_neg (by simpa using h6)]
          rw [← chr_list] at hs
          refine ⟨fun h => by simp [h6] at h, fun _ => ?_⟩
          simp only [need_no hbd hs, hr]
          rw [K2.at_]
    · have hkk : ¬ ((scanK s p).1 = 2 ∨ (scanK s p).1 = 3) := by rw [K.k2, K.k3]; exact hk
      rw [ptermsS, if_neg hkk]
      refine ⟨fun h => by simp at h, fun _ => ?_⟩
      rw [terms_bad1 (f + 1) hbd (.inl hk)]
      simp only
      rw [K.at_]

/-- An atom. -/
def AtomEq (s : ByteArray) (p : Nat) (bd : Int) (r : PRes) : Prop :=
  match r with
  | .no q => (atomRest s p bd).2.2 = ((scanK s q).2.1 : Int)
  | .yes q pd ts pl => (atomRest s p bd).2 = (q, bd) ∧ pd = (tok s p).text ∧ ts = (atomRest s p bd).1.map tmOf ∧ (∀ i (h : i < (atomRest s p bd).1.length), pl i = ((atomRest s p bd).1[i]).at_) ∧ q ≤ s.size

theorem atom_eq (s : ByteArray) (p : Nat) (bd : Int) (hbd : bd < 0) (hp : p ≤ s.size) : AtomEq s p bd (patomS s p) := by
  have K := kinds s p hp
  have hto : (tok s p).to ≤ s.size := by rw [← K.to_]; exact (scan_le s p hp).2
  have K2 := kinds s (tok s p).to hto
  have hto2 : (tok s (tok s p).to).to ≤ s.size := by rw [← K2.to_]; exact (scan_le s _ hto).2
  unfold patomS
  by_cases hk : (tok s p).kind = 110
  · rw [if_pos (K.k2.2 hk), K.to_, K.word (.inl hk)]
    have b1 : atomBad1 s p bd = bd := by unfold atomBad1; simp [hk]
    have t := take_neg hbd (p := p) (s := s) (by rw [hk]; decide) (by rw [hk]; decide)
    have b2 : atomBad2 s p bd = bd := by unfold atomBad2; rw [b1]; exact t.1
    have p2 : atomPos2 s p bd = (tok s p).to := by unfold atomPos2; rw [b1]; exact t.2
    by_cases ho : (tok s (tok s p).to).kind = 115 ∧ (tok s (tok s p).to).text.toList = [40]
    · rw [if_pos (K2.k5.2 ho), K2.to_]
      have e : atomRest s p bd = termsS s 5 (tok s (tok s p).to).to bd [] := by
        rw [← chr_list] at ho
        unfold atomRest
        rw [b2, p2, (isS_iff hbd).2 ho, (has_neg hbd ho).1, (has_neg hbd ho).2]
        rfl
      have T := terms_eq s bd hbd 4 (tok s (tok s p).to).to [] (fun _ => 0) rfl hto2 (by simp)
      rw [List.map_nil] at T
      cases hP : (ptermsS s 4 (tok s (tok s p).to).to [] (fun _ => 0)).1 with
      | true =>
        rw [if_pos rfl]
        obtain ⟨t1, t2, t3, t4⟩ := T.1 hP
        unfold AtomEq
        simp only [e]
        exact ⟨t1, trivial, t2, t3, t4⟩
      | false =>
        rw [if_neg (by decide)]
        unfold AtomEq
        simp only [e]
        exact T.2 hP
    · rw [if_neg (fun h => ho (K2.k5.1 h))]
      have e : atomRest s p bd = ([], (tok s p).to, bd) := by
        rw [← chr_list] at ho
        unfold atomRest
        rw [b2, p2, isS_no hbd ho, (has_not hbd ho).1, (has_not hbd ho).2]
        rfl
      unfold AtomEq
      simp only [e]
      exact ⟨trivial, trivial, by simp, by simp, hto⟩
  · rw [if_neg (fun h => hk (K.k2.1 h))]
    unfold AtomEq
    have b1 : atomBad1 s p bd = (tok s p).at_ := by unfold atomBad1; simp [hk, fail_neg hbd]
    have h0 : (0 : Int) ≤ (tok s p).at_ := by omega
    have b2 : atomBad2 s p bd = (tok s p).at_ := by unfold atomBad2; rw [b1]; exact (take_pos h0).1
    simp only
    rw [K.at_]
    unfold atomRest
    rw [b2, isS_pos h0]
    exact (has_pos (s := s) (wd := chr 40) (p := atomPos2 s p bd) h0).2
end Go.Proofs.YtldkpahaocjdpaaGreat
