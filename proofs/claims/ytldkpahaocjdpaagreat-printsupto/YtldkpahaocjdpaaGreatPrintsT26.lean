/-
  Plain: the program's tokens are the reference's: the same kind, the same place, the same end.
  Plain: what the kinds of tokens are, told alike by both readers.
  Plain: both readers read the same: the same atoms, literals, rules; or they stop at the same place.
-/
import Derived.Test.YtldkpahaocjdpaaGreatPrintsT03
import Derived.Laws.Strings
import Derived.Test.YtldkpahaocjdpaaGreatPrintsT24
import Derived.Test.YtldkpahaocjdpaaGreatPrintsT08
import Derived.Test.YtldkpahaocjdpaaGreatPrintsT16
namespace Go.Proofs.YtldkpahaocjdpaaGreat

/-- The kind of a token as the program numbers it. -/
def tokK (t : Tk) : Int :=
  if t.kind = 46 then 0 else if t.kind = 33 then 1 else if t.kind = 110 then 2 else if t.kind = 118 then 3 else if t.kind = 119 then 4
  else if t.text.toList = [40] then 5 else if t.text.toList = [41] then 6 else if t.text.toList = [44] then 7 else if t.text.toList = [46] then 8 else 9

theorem ext_ext (s : ByteArray) (k n : Nat) (h : k + n ≤ s.size) : (s.extract k s.size).extract 0 n = s.extract k (k + n) := by
  apply ByteArray.ext
  simp [ByteArray.data_extract, Array.extract_extract]
  congr 1
  have : s.data.size = s.size := rfl
  omega

theorem ext_one (s : ByteArray) (k : Nat) (h : k < s.size) : (s.extract k (k + 1)).toList = [s[k]] := by
  rw [ByteArray.toList_eq, ByteArray.data_extract, Array.toList_extract]
  have h1 : s.data.toList.length = s.size := by rw [Array.length_toList]; rfl
  rw [List.extract_eq_take_drop]
  have e : k + 1 - k = 1 := by omega
  rw [e, List.drop_eq_getElem_cons (by omega)]
  simp [List.take]
  rfl

theorem ext_two (s : ByteArray) (k : Nat) (h : k + 1 < s.size) : (s.extract k (k + 2)).toList = [s[k], s[k+1]] := by
  rw [ByteArray.toList_eq, ByteArray.data_extract, Array.toList_extract]
  have h1 : s.data.toList.length = s.size := by rw [Array.length_toList]; rfl
  rw [List.extract_eq_take_drop]
  have e : k + 2 - k = 2 := by omega
  rw [e, List.drop_eq_getElem_cons (by omega), List.drop_eq_getElem_cons (by omega)]
  simp [List.take]
  exact ⟨rfl, rfl⟩

theorem u8_eq (a : UInt8) (c : UInt8) : a = c ↔ (a.toNat : Int) = (c.toNat : Int) := by
  constructor
  · intro h; rw [h]
  · intro h; exact UInt8.toNat_inj.1 (by omega)

theorem signK_eq (s : ByteArray) (k : Nat) (hk : k < s.size) : signK (s.extract k s.size) =
    if signLen s k = 0 then (1, 1) else if signLen s k = 2 then (9, 2) else (tokK ⟨115, s.extract k (k + 1), k, k + 1⟩, 1) := by
  have hsz : (s.extract k s.size).size = s.size - k := ext_size s k
  have e1 : ((s.extract k s.size).extract 0 1).toList = [s[k]] := by rw [ext_ext s k 1 (by omega), ext_one s k hk]
  have g1 : 1 ≤ (s.extract k s.size).size := by omega
  have t1 := ext_one s k hk
  unfold signK tokK
  simp only [e1, g1, true_and, t1, List.cons.injEq, and_true]
  simp only [u8_eq]
  unfold signLen
  rw [dif_pos hk]
  by_cases c58 : (s[k].toNat : Int) = 58
  · rw [if_pos c58]
    have n1 : ¬ (s[k].toNat : Int) = ((40 : UInt8).toNat : Int) := by rw [c58]; decide
    have n2 : ¬ (s[k].toNat : Int) = ((41 : UInt8).toNat : Int) := by rw [c58]; decide
    have n3 : ¬ (s[k].toNat : Int) = ((44 : UInt8).toNat : Int) := by rw [c58]; decide
    have n4 : ¬ (s[k].toNat : Int) = ((46 : UInt8).toNat : Int) := by rw [c58]; decide
    rw [if_neg n1, if_neg n2, if_neg n3, if_neg n4]
    by_cases h2 : k + 1 < s.size
    · have e2 : ((s.extract k s.size).extract 0 2).toList = [s[k], s[k+1]] := by rw [ext_ext s k 2 (by omega), ext_two s k h2]
      rw [dif_pos h2, e2]
      have g2 : 2 ≤ (s.extract k s.size).size := by omega
      simp only [g2, true_and, List.cons.injEq, and_true, u8_eq]
      by_cases c45 : (s[k+1].toNat : Int) = 45
      · rw [if_pos ⟨by rw [c58]; rfl, by rw [c45]; rfl⟩, if_pos c45]; simp
      · rw [if_neg (fun h => c45 (by rw [h.2]; rfl)), if_neg c45]; simp
    · rw [dif_neg h2, if_neg (by omega)]; simp
  · rw [if_neg c58]
    have n5 : ¬ (2 ≤ (s.extract k s.size).size ∧ ((s.extract k s.size).extract 0 2).toList = [58, 45]) := by
      rintro ⟨g2, h⟩
      rw [ext_ext s k 2 (by omega), ext_two s k (by omega)] at h
      injection h with h _
      exact c58 (by rw [h]; rfl)
    rw [if_neg n5]
    by_cases d1 : (s[k].toNat : Int) = 40
    · simp [d1]
    · by_cases d2 : (s[k].toNat : Int) = 41
      · simp [d2]
      · by_cases d3 : (s[k].toNat : Int) = 44
        · simp [d3]
        · by_cases d4 : (s[k].toNat : Int) = 46
          · simp [d4]
          · have m1 : ¬ (s[k].toNat : Int) = ((40 : UInt8).toNat : Int) := d1
            have m2 : ¬ (s[k].toNat : Int) = ((41 : UInt8).toNat : Int) := d2
            have m3 : ¬ (s[k].toNat : Int) = ((44 : UInt8).toNat : Int) := d3
            have m4 : ¬ (s[k].toNat : Int) = ((46 : UInt8).toNat : Int) := d4
            rw [if_neg m1, if_neg m2, if_neg m3, if_neg m4]
            simp [d1, d2, d3, d4]

theorem signLen_two_or (s : ByteArray) (k : Nat) : signLen s k = 0 ∨ signLen s k = 1 ∨ signLen s k = 2 := by
  unfold signLen
  split
  · split
    · split
      · split <;> simp
      · simp
    · split <;> simp
  · simp

/-- THE TOKENS ARE ONE. -/
theorem scan_tok (s : ByteArray) (i : Nat) (hi : i ≤ s.size) : scanK s i = (tokK (tok s i), (tok s i).at_, (tok s i).to) := by
  have hk := skip_le blankB s i hi
  unfold scanK tok
  generalize skip blankB s i = k at *
  have hsz : (s.extract k s.size).size = s.size - k := ext_size s k
  by_cases h0 : s.size ≤ k
  · have e : k = s.size := by omega
    rw [tokAt, if_pos h0]
    unfold measK
    rw [dif_neg (by omega)]
    simp [tokK, e]
  · have hlt : k < s.size := by omega
    have hl := skip_ext0 lowB s k hk
    have hh := skip_ext0 highB s k hk
    have h00 : 0 < (s.extract k s.size).size := by omega
    have hg : (s.extract k s.size)[0] = s[k] := by have := ext_get s k 0 (by omega) h00; simpa using this
    rw [tokAt, if_neg h0]
    unfold measK
    rw [dif_pos h00]
    by_cases hlow : k < skip lowB s k
    · have hlb : lowB s[k].toNat = true := by
        cases hb : lowB s[k].toNat with
        | true => rfl
        | false => rw [skip_stop lowB s k hlt hb] at hlow; omega
      have hsk : skip lowB (s.extract k s.size) 0 = skip lowB s k - k := by omega
      have hle := skip_le lowB s k hk
      have hex : (s.extract k s.size).extract 0 (skip lowB s k - k) = s.extract k (skip lowB s k) := by
        rw [ext_ext s k _ (by omega)]; congr 1; omega
      rw [if_pos (by rw [hg]; exact hlb), if_pos hlow]
      unfold nameK
      rw [hsk, hex]
      by_cases h8 : 8 < skip lowB s k - k
      · have hnot : ¬ (s.extract k (skip lowB s k)).toList = [110, 111, 116] := by
          intro e
          have : (s.extract k (skip lowB s k)).toList.length = 3 := by rw [e]; rfl
          rw [ByteArray.toList_eq, Array.length_toList] at this
          have h2 : (s.extract k (skip lowB s k)).data.size = (s.extract k (skip lowB s k)).size := rfl
          rw [h2, ByteArray.size_extract] at this
          omega
        rw [if_pos h8, if_neg hnot, if_neg (by omega)]
        simp [tokK]; omega
      · by_cases hn : (s.extract k (skip lowB s k)).toList = [110, 111, 116]
        · rw [if_neg h8, if_pos hn, if_pos hn]
          simp [tokK]; omega
        · rw [if_neg h8, if_neg hn, if_neg hn, if_pos (by omega)]
          simp [tokK]; omega
    · have hlb : lowB s[k].toNat = false := by
        cases hb : lowB s[k].toNat with
        | false => rfl
        | true =>
          have h1 := skip_step lowB s k hlt hb
          have h2 := skip_ge lowB s (k + 1)
          omega
      rw [if_neg (by rw [hg, hlb]; decide), if_neg hlow]
      by_cases hhigh : k < skip highB s k
      · have hhb : highB s[k].toNat = true := by
          cases hb : highB s[k].toNat with
          | true => rfl
          | false => rw [skip_stop highB s k hlt hb] at hhigh; omega
        have hsk : skip highB (s.extract k s.size) 0 = skip highB s k - k := by omega
        rw [if_pos (by rw [hg]; exact hhb), if_pos hhigh]
        unfold varK
        rw [hsk]
        by_cases h8 : 8 < skip highB s k - k
        · rw [if_pos h8, if_neg (by omega)]
          simp [tokK]; omega
        · rw [if_neg h8, if_pos (by omega)]
          simp [tokK]; omega
      · have hhb : highB s[k].toNat = false := by
          cases hb : highB s[k].toNat with
          | false => rfl
          | true =>
            have h1 := skip_step highB s k hlt hb
            have h2 := skip_ge highB s (k + 1)
            omega
        rw [if_neg (by rw [hg, hhb]; decide), if_neg hhigh, signK_eq s k hlt]
        rcases signLen_two_or s k with h | h | h
        · rw [if_pos h, if_pos h]; simp [tokK]
        · rw [if_neg (by omega), if_neg (by omega), if_neg (by omega), if_neg (by omega)]
        · rw [if_neg (by omega), if_pos h, if_neg (by omega), if_pos h]
          have e : ({ data := #[58, 45] } : ByteArray).toList = [58, 45] := by rw [ByteArray.toList_eq]
          simp [tokK, e]

end Go.Proofs.YtldkpahaocjdpaaGreat

namespace Go.Proofs.YtldkpahaocjdpaaGreat

theorem tok_cases (s : ByteArray) (i : Nat) : (tok s i).kind = 46 ∨ (tok s i).kind = 33 ∨ ((tok s i).kind = 110 ∧ (tok s i).text = s.extract (tok s i).at_ (tok s i).to) ∨ ((tok s i).kind = 118 ∧ (tok s i).text = s.extract (tok s i).at_ (tok s i).to) ∨ (tok s i).kind = 119 ∨
    ((tok s i).kind = 115 ∧ ((tok s i).text.toList = [40] ∨ (tok s i).text.toList = [41] ∨ (tok s i).text.toList = [44] ∨ (tok s i).text.toList = [46] ∨ (tok s i).text.toList = [58, 45])) := by
  unfold tok
  generalize skip blankB s i = k
  unfold tokAt
  by_cases h0 : s.size ≤ k
  · simp [h0]
  · rw [if_neg h0]
    by_cases h1 : k < skip lowB s k
    · rw [if_pos h1]
      split
      · simp
      · split <;> simp
    · rw [if_neg h1]
      by_cases h2 : k < skip highB s k
      · rw [if_pos h2]
        split <;> simp
      · rw [if_neg h2]
        by_cases h3 : signLen s k = 0
        · rw [if_pos h3]; simp
        · rw [if_neg h3]
          by_cases h4 : signLen s k = 2
          · rw [if_pos h4]
            have : ({ data := #[58, 45] } : ByteArray).toList = [58, 45] := by rw [ByteArray.toList_eq]
            simp [this]
          · rw [if_neg h4]
            have hk : k < s.size := by omega
            have t1 := ext_one s k hk
            simp only [t1]
            have hs : (s[k].toNat : Int) = 40 ∨ (s[k].toNat : Int) = 41 ∨ (s[k].toNat : Int) = 44 ∨ (s[k].toNat : Int) = 46 := by
              unfold signLen at h3 h4
              rw [dif_pos hk] at h3 h4
              by_cases hc : (s[k].toNat : Int) = 58
              · rw [if_pos hc] at h3 h4
                by_cases hd : k + 1 < s.size
                · rw [dif_pos hd] at h3 h4
                  by_cases he : (s[k+1].toNat : Int) = 45
                  · rw [if_pos he] at h4; exact absurd rfl h4
                  · rw [if_neg he] at h3; exact absurd rfl h3
                · rw [dif_neg hd] at h3; exact absurd rfl h3
              · rw [if_neg hc] at h3
                by_cases hd : (s[k].toNat : Int) = 40 ∨ (s[k].toNat : Int) = 41 ∨ (s[k].toNat : Int) = 44 ∨ (s[k].toNat : Int) = 46
                · exact hd
                · rw [if_neg hd] at h3; exact absurd rfl h3
            have u : ∀ c : UInt8, (s[k].toNat : Int) = (c.toNat : Int) → s[k] = c := fun c h => (u8_eq _ _).2 h
            rcases hs with h | h | h | h
            · simp [u 40 h]
            · simp [u 41 h]
            · simp [u 44 h]
            · simp [u 46 h]

/-- All of it, for one token. -/
structure KindsOf (s : ByteArray) (p : Nat) : Prop where
  k0 : (scanK s p).1 = 0 ↔ (tok s p).kind = 46
  k2 : (scanK s p).1 = 2 ↔ (tok s p).kind = 110
  k3 : (scanK s p).1 = 3 ↔ (tok s p).kind = 118
  k4 : (scanK s p).1 = 4 ↔ (tok s p).kind = 119
  k5 : (scanK s p).1 = 5 ↔ ((tok s p).kind = 115 ∧ (tok s p).text.toList = [40])
  k6 : (scanK s p).1 = 6 ↔ ((tok s p).kind = 115 ∧ (tok s p).text.toList = [41])
  k7 : (scanK s p).1 = 7 ↔ ((tok s p).kind = 115 ∧ (tok s p).text.toList = [44])
  k8 : (scanK s p).1 = 8 ↔ ((tok s p).kind = 115 ∧ (tok s p).text.toList = [46])
  k9 : (scanK s p).1 = 9 ↔ ((tok s p).kind = 115 ∧ (tok s p).text.toList = [58, 45])
  at_ : (scanK s p).2.1 = (tok s p).at_
  to_ : (scanK s p).2.2 = (tok s p).to
  word : (tok s p).kind = 110 ∨ (tok s p).kind = 118 → rword s p = (tok s p).text

theorem kinds (s : ByteArray) (p : Nat) (hp : p ≤ s.size) : KindsOf s p := by
  have h := tok_cases s p
  have e := scan_tok s p hp
  have e1 : (scanK s p).1 = tokK (tok s p) := by rw [e]
  have e2 : (scanK s p).2.1 = (tok s p).at_ := by rw [e]
  have e3 : (scanK s p).2.2 = (tok s p).to := by rw [e]
  have hw : (tok s p).kind = 110 ∨ (tok s p).kind = 118 → rword s p = (tok s p).text := by
    intro hk
    unfold rword
    rw [e2, e3]
    rcases h with h | h | h | h | h | h
    · omega
    · omega
    · exact h.2.symm
    · exact h.2.symm
    · omega
    · omega
  refine ⟨?_, ?_, ?_, ?_, ?_, ?_, ?_, ?_, ?_, e2, e3, hw⟩
  all_goals
    rw [e1]
    unfold tokK
    rcases h with h | h | h | h | h | ⟨h, h' | h' | h' | h' | h'⟩
    all_goals first | (simp [h, h']; done) | (simp [h.1]; done) | (simp [h]; done)
end Go.Proofs.YtldkpahaocjdpaaGreat

namespace Go.Proofs.YtldkpahaocjdpaaGreat

/-! ### behind a fault nothing goes on -/
theorem take_pos {s : ByteArray} {p : Nat} {bd : Int} (h : 0 ≤ bd) : takeBad s p bd = bd ∧ takePos s p bd = p := by
  have e : failS s p bd = bd := by unfold failS; rw [if_neg (by omega)]
  have e1 : takeBad s p bd = bd := by unfold takeBad; split; exact e; rfl
  exact ⟨e1, by unfold takePos; rw [e1, if_neg (by omega)]⟩
theorem fail_pos {s : ByteArray} {p : Nat} {bd : Int} (h : 0 ≤ bd) : failS s p bd = bd := by unfold failS; rw [if_neg (by omega)]
theorem isS_pos {s wd : ByteArray} {p : Nat} {bd : Int} (h : 0 ≤ bd) : isS s p bd wd = false := by
  unfold isS; simp; intro h1; omega
theorem has_pos {s wd : ByteArray} {p : Nat} {bd : Int} (h : 0 ≤ bd) : hasPos s p bd wd = p ∧ hasBad s p bd wd = bd := by
  unfold hasPos hasBad; rw [isS_pos h]; exact ⟨rfl, rfl⟩
theorem need_pos {s wd : ByteArray} {p : Nat} {bd : Int} (h : 0 ≤ bd) : needBad0 s p bd wd = bd := by
  unfold needBad0; rw [isS_pos h]; exact fail_pos h
theorem termBad_pos {s : ByteArray} {p n : Nat} {bd : Int} (h : 0 ≤ bd) : termBad s p bd n = bd := by
  unfold termBad; split; exact fail_pos h; rfl
theorem terms_pos {s : ByteArray} {p : Nat} {bd : Int} {l : List RTerm} (f : Nat) (h : 0 ≤ bd) : (termsS s (f + 1) p bd l).2.2 = bd := by
  rw [termsS]
  simp only [termBad_pos h, (take_pos h).1, (take_pos h).2, isS_pos h, (has_pos h).1, (has_pos h).2, need_pos h]
  rfl
theorem atom_pos {s : ByteArray} {p : Nat} {bd : Int} (h : 0 ≤ bd) : (atomRest s p bd).2.2 = bd := by
  have e1 : atomBad1 s p bd = bd := by unfold atomBad1; split; exact fail_pos h; rfl
  have e2 : atomBad2 s p bd = bd := by unfold atomBad2; rw [e1]; exact (take_pos h).1
  unfold atomRest
  rw [e2, isS_pos h]
  exact (has_pos h).2
theorem lit_pos {s : ByteArray} {p : Nat} {bd : Int} (h : 0 ≤ bd) : (litRest s p bd).2 = bd := by
  have e1 : litNo s p bd = false := by unfold litNo; simp; intro h1; omega
  unfold litRest litBad litPos
  rw [e1]
  exact atom_pos h
theorem body_pos {s : ByteArray} {p : Nat} {bd : Int} {l : List RAtom} (f : Nat) (h : 0 ≤ bd) : (bodyS s (f + 1) p bd l).2.2 = bd := by
  have e1 : litBad1 s p bd l.length = bd := by unfold litBad1; split; exact fail_pos h; rfl
  rw [bodyS, e1, lit_pos h, isS_pos h]
  exact (has_pos h).2

/-! ### a step without a fault -/
theorem take_neg {s : ByteArray} {p : Nat} {bd : Int} (h : bd < 0) (h1 : (tok s p).kind ≠ 33) (h2 : (tok s p).kind ≠ 46) : takeBad s p bd = bd ∧ takePos s p bd = (tok s p).to := by
  have e1 : takeBad s p bd = bd := by unfold takeBad; rw [if_neg (by simp [h1, h2])]
  exact ⟨e1, by unfold takePos; rw [e1, if_pos h]⟩
theorem fail_neg {s : ByteArray} {p : Nat} {bd : Int} (h : bd < 0) : failS s p bd = (tok s p).at_ := by unfold failS; rw [if_pos h]
theorem isS_iff {s wd : ByteArray} {p : Nat} {bd : Int} (h : bd < 0) : isS s p bd wd = true ↔ ((tok s p).kind = 115 ∧ (tok s p).text.toList = wd.toList) := by
  unfold isS; simp [h]
theorem isS_no {s wd : ByteArray} {p : Nat} {bd : Int} (h : bd < 0) (hn : ¬ ((tok s p).kind = 115 ∧ (tok s p).text.toList = wd.toList)) : isS s p bd wd = false := by
  cases e : isS s p bd wd with
  | false => rfl
  | true => exact absurd ((isS_iff h).1 e) hn
theorem has_neg {s wd : ByteArray} {p : Nat} {bd : Int} (h : bd < 0) (hy : (tok s p).kind = 115 ∧ (tok s p).text.toList = wd.toList) : hasPos s p bd wd = (tok s p).to ∧ hasBad s p bd wd = bd := by
  have e := (isS_iff (wd := wd) h).2 hy
  have t := take_neg h (by rw [hy.1]; decide) (by rw [hy.1]; decide)
  unfold hasPos hasBad; rw [e]; exact ⟨t.2, t.1⟩
theorem has_not {s wd : ByteArray} {p : Nat} {bd : Int} (h : bd < 0) (hn : ¬ ((tok s p).kind = 115 ∧ (tok s p).text.toList = wd.toList)) : hasPos s p bd wd = p ∧ hasBad s p bd wd = bd := by
  unfold hasPos hasBad; rw [isS_no h hn]; exact ⟨rfl, rfl⟩

theorem chr_list (c : UInt8) : (chr c).toList = [c] := by
  rw [ByteArray.toList_eq]

def tmOf (t : RTerm) : Bool × ByteArray := (t.isVar, t.text)

/-- What terms are read, in the reference's words. -/
theorem terms_bad1 {s : ByteArray} {p : Nat} {bd : Int} {l : List RTerm} (f : Nat) (h : bd < 0) (hn : ¬ ((tok s p).kind = 110 ∨ (tok s p).kind = 118) ∨ l.length = 4) : (termsS s (f + 1) p bd l).2.2 = (tok s p).at_ := by
  have e : termBad s p bd l.length = (tok s p).at_ := by
    unfold termBad
    rw [if_pos, fail_neg h]
    rcases hn with hn | hn
    · simp [not_or.1 hn]
    · simp [hn]
  have h0 : (0 : Int) ≤ (tok s p).at_ := by omega
  rw [termsS]
  simp only [e, (take_pos h0).1, (take_pos h0).2, isS_pos h0, (has_pos h0).1, (has_pos h0).2, need_pos h0]
  rfl

theorem terms_go {s : ByteArray} {p : Nat} {bd : Int} {l : List RTerm} (f : Nat) (h : bd < 0) (hk : (tok s p).kind = 110 ∨ (tok s p).kind = 118) (hl : l.length ≠ 4) (hc : (tok s (tok s p).to).kind = 115 ∧ (tok s (tok s p).to).text.toList = [44]) :
    termsS s (f + 1) p bd l = termsS s f (tok s (tok s p).to).to bd (l ++ [termOf s p]) := by
  have e : termBad s p bd l.length = bd := by
    unfold termBad
    rw [if_neg]
    rcases hk with hk | hk <;> simp [hk, hl]
  have t := take_neg h (p := p) (s := s) (by rcases hk with hk | hk <;> rw [hk] <;> decide) (by rcases hk with hk | hk <;> rw [hk] <;> decide)
  rw [← chr_list] at hc
  rw [termsS]
  simp only [e, t.1, t.2, (has_neg h hc).1, (has_neg h hc).2, (isS_iff h).2 hc, if_true]

theorem terms_end {s : ByteArray} {p : Nat} {bd : Int} {l : List RTerm} (f : Nat) (h : bd < 0) (hk : (tok s p).kind = 110 ∨ (tok s p).kind = 118) (hl : l.length ≠ 4) (hc : ¬ ((tok s (tok s p).to).kind = 115 ∧ (tok s (tok s p).to).text.toList = [44])) :
    termsS s (f + 1) p bd l = (l ++ [termOf s p], takePos s (tok s p).to (needBad0 s (tok s p).to bd (chr 41)), takeBad s (tok s p).to (needBad0 s (tok s p).to bd (chr 41))) := by
  have e : termBad s p bd l.length = bd := by
    unfold termBad
    rw [if_neg]
    rcases hk with hk | hk <;> simp [hk, hl]
  have t := take_neg h (p := p) (s := s) (by rcases hk with hk | hk <;> rw [hk] <;> decide) (by rcases hk with hk | hk <;> rw [hk] <;> decide)
  rw [← chr_list] at hc
  rw [termsS]
  simp only [e, t.1, t.2, (has_not h hc).1, (has_not h hc).2, isS_no h hc]
  rfl

theorem need_yes {s wd : ByteArray} {p : Nat} {bd : Int} (h : bd < 0) (hy : (tok s p).kind = 115 ∧ (tok s p).text.toList = wd.toList) : takePos s p (needBad0 s p bd wd) = (tok s p).to ∧ takeBad s p (needBad0 s p bd wd) = bd := by
  have t := take_neg h (by rw [hy.1]; decide) (by rw [hy.1]; decide)
  unfold needBad0
  rw [(isS_iff h).2 hy]
  exact ⟨t.2, t.1⟩
theorem need_no {s wd : ByteArray} {p : Nat} {bd : Int} (h : bd < 0) (hn : ¬ ((tok s p).kind = 115 ∧ (tok s p).text.toList = wd.toList)) : takeBad s p (needBad0 s p bd wd) = (tok s p).at_ := by
  unfold needBad0
  rw [isS_no h hn]
  simp only [Bool.false_eq_true, if_false, fail_neg h]
  exact (take_pos (by omega)).1

theorem setPl_snoc {l : List RTerm} {pl : Nat → Nat} {t : RTerm} (hpl : ∀ i (h : i < l.length), pl i = (l[i]).at_) : ∀ i (h : i < (l ++ [t]).length), setPl pl l.length t.at_ i = ((l ++ [t])[i]).at_ := by
  intro i h
  by_cases e : i = l.length
  · subst e; simp [setPl]
  · have h1 : i < l.length := by simp at h; omega
    rw [List.getElem_append_left h1]
    simp [setPl, e, hpl i h1]

theorem terms_eq (s : ByteArray) (bd : Int) (hbd : bd < 0) : ∀ (f p : Nat) (l : List RTerm) (pl : Nat → Nat), l.length + f = 4 → p ≤ s.size → (∀ i (h : i < l.length), pl i = (l[i]).at_) →
    ((ptermsS s f p (l.map tmOf) pl).1 = true → (termsS s (f + 1) p bd l).2 = ((ptermsS s f p (l.map tmOf) pl).2.1, bd) ∧ (ptermsS s f p (l.map tmOf) pl).2.2.1 = (termsS s (f + 1) p bd l).1.map tmOf ∧ (∀ i (h : i < (termsS s (f + 1) p bd l).1.length), (ptermsS s f p (l.map tmOf) pl).2.2.2 i = ((termsS s (f + 1) p bd l).1[i]).at_) ∧ (ptermsS s f p (l.map tmOf) pl).2.1 ≤ s.size) ∧
    ((ptermsS s f p (l.map tmOf) pl).1 = false → (termsS s (f + 1) p bd l).2.2 = ((scanK s (ptermsS s f p (l.map tmOf) pl).2.1).2.1 : Int)) := by
  intro f
  induction f with
  | zero =>
    intro p l pl hl hp _
    refine ⟨fun h => by simp [ptermsS] at h, fun _ => ?_⟩
    rw [terms_bad1 0 hbd (.inr (by omega))]
    simp only [ptermsS]
    rw [(kinds s p hp).at_]
  | succ f ih =>
    intro p l pl hl hp hpl
    have K := kinds s p hp
    have hto : (tok s p).to ≤ s.size := by rw [← K.to_]; exact (scan_le s p hp).2
    have K2 := kinds s (tok s p).to hto
    have hto2 : (tok s (tok s p).to).to ≤ s.size := by rw [← K2.to_]; exact (scan_le s _ hto).2
    by_cases hk : (tok s p).kind = 110 ∨ (tok s p).kind = 118
    · have hkk : (scanK s p).1 = 2 ∨ (scanK s p).1 = 3 := by rw [K.k2, K.k3]; exact hk
      have hterm : (l.map tmOf) ++ [(decide ((scanK s p).1 = 3), rword s p)] = (l ++ [termOf s p]).map tmOf := by
        rw [List.map_append]
        simp only [List.map_cons, List.map_nil, tmOf, termOf]
        rw [K.word hk]
        have : decide ((scanK s p).1 = 3) = ((tok s p).kind == 118) := by
          rw [Bool.eq_iff_iff]; simp [K.k3]
        rw [this]
      have hsn : ∀ i (h : i < (l ++ [termOf s p]).length), setPl pl l.length (scanK s p).2.1 i = ((l ++ [termOf s p])[i]).at_ := by
        rw [K.at_]; exact setPl_snoc (t := termOf s p) hpl
      rw [ptermsS, if_pos hkk, K.to_, hterm, List.length_map]
      by_cases hc : (tok s (tok s p).to).kind = 115 ∧ (tok s (tok s p).to).text.toList = [44]
      · rw [if_pos (K2.k7.2 hc), K2.to_, terms_go (f + 1) hbd hk (by omega) hc]
        exact ih _ _ _ (by simp; omega) hto2 hsn
      · rw [if_neg (fun e => hc (K2.k7.1 e)), terms_end (f + 1) hbd hk (by omega) hc]
        by_cases hs : (tok s (tok s p).to).kind = 115 ∧ (tok s (tok s p).to).text.toList = [41]
        · have hr : rtake s (tok s p).to 6 = (tok s (tok s p).to).to := by unfold rtake; rw [K2.k6.2 hs]; exact K2.to_
          rw [← chr_list] at hs
          refine ⟨fun _ => ⟨?_, rfl, hsn, by simp only [hr]; exact hto2⟩, fun h => ?_⟩
          · simp only [(need_yes hbd hs).1, (need_yes hbd hs).2, hr]
          · rw [chr_list] at hs; simp [K2.k6.2 hs] at h
        · have h6 : ¬ (scanK s (tok s p).to).1 = 6 := fun e => hs (K2.k6.1 e)
          have hr : rtake s (tok s p).to 6 = (tok s p).to := by unfold rtake; rw [if_neg (by simpa using h6)]
          rw [← chr_list] at hs
          refine ⟨fun h => by simp [h6] at h, fun _ => ?_⟩
          simp only [need_no hbd hs, hr]
          rw [K2.at_]
    · have hkk : ¬ ((scanK s p).1 = 2 ∨ (scanK s p).1 = 3) := by rw [K.k2, K.k3]; exact hk
      rw [ptermsS, if_neg hkk]
      refine ⟨fun h => by simp at h, fun _ => ?_⟩
      rw [terms_bad1 (f + 1) hbd (.inl hk)]
      simp only
      rw [K.at_]

/-- An atom. -/
def AtomEq (s : ByteArray) (p : Nat) (bd : Int) (r : PRes) : Prop :=
  match r with
  | .no q => (atomRest s p bd).2.2 = ((scanK s q).2.1 : Int)
  | .yes q pd ts pl => (atomRest s p bd).2 = (q, bd) ∧ pd = (tok s p).text ∧ ts = (atomRest s p bd).1.map tmOf ∧ (∀ i (h : i < (atomRest s p bd).1.length), pl i = ((atomRest s p bd).1[i]).at_) ∧ q ≤ s.size

theorem atom_eq (s : ByteArray) (p : Nat) (bd : Int) (hbd : bd < 0) (hp : p ≤ s.size) : AtomEq s p bd (patomS s p) := by
  have K := kinds s p hp
  have hto : (tok s p).to ≤ s.size := by rw [← K.to_]; exact (scan_le s p hp).2
  have K2 := kinds s (tok s p).to hto
  have hto2 : (tok s (tok s p).to).to ≤ s.size := by rw [← K2.to_]; exact (scan_le s _ hto).2
  unfold patomS
  by_cases hk : (tok s p).kind = 110
  · rw [if_pos (K.k2.2 hk), K.to_, K.word (.inl hk)]
    have b1 : atomBad1 s p bd = bd := by unfold atomBad1; simp [hk]
    have t := take_neg hbd (p := p) (s := s) (by rw [hk]; decide) (by rw [hk]; decide)
    have b2 : atomBad2 s p bd = bd := by unfold atomBad2; rw [b1]; exact t.1
    have p2 : atomPos2 s p bd = (tok s p).to := by unfold atomPos2; rw [b1]; exact t.2
    by_cases ho : (tok s (tok s p).to).kind = 115 ∧ (tok s (tok s p).to).text.toList = [40]
    · rw [if_pos (K2.k5.2 ho), K2.to_]
      have e : atomRest s p bd = termsS s 5 (tok s (tok s p).to).to bd [] := by
        rw [← chr_list] at ho
        unfold atomRest
        rw [b2, p2, (isS_iff hbd).2 ho, (has_neg hbd ho).1, (has_neg hbd ho).2]
        rfl
      have T := terms_eq s bd hbd 4 (tok s (tok s p).to).to [] (fun _ => 0) rfl hto2 (by simp)
      rw [List.map_nil] at T
      cases hP : (ptermsS s 4 (tok s (tok s p).to).to [] (fun _ => 0)).1 with
      | true =>
        rw [if_pos rfl]
        obtain ⟨t1, t2, t3, t4⟩ := T.1 hP
        unfold AtomEq
        simp only [e]
        exact ⟨t1, trivial, t2, t3, t4⟩
      | false =>
        rw [if_neg (by decide)]
        unfold AtomEq
        simp only [e]
        exact T.2 hP
    · rw [if_neg (fun h => ho (K2.k5.1 h))]
      have e : atomRest s p bd = ([], (tok s p).to, bd) := by
        rw [← chr_list] at ho
        unfold atomRest
        rw [b2, p2, isS_no hbd ho, (has_not hbd ho).1, (has_not hbd ho).2]
        rfl
      unfold AtomEq
      simp only [e]
      exact ⟨trivial, trivial, by simp, by simp, hto⟩
  · rw [if_neg (fun h => hk (K.k2.1 h))]
    unfold AtomEq
    have b1 : atomBad1 s p bd = (tok s p).at_ := by unfold atomBad1; simp [hk, fail_neg hbd]
    have h0 : (0 : Int) ≤ (tok s p).at_ := by omega
    have b2 : atomBad2 s p bd = (tok s p).at_ := by unfold atomBad2; rw [b1]; exact (take_pos h0).1
    simp only
    rw [K.at_]
    unfold atomRest
    rw [b2, isS_pos h0]
    exact (has_pos (s := s) (wd := chr 40) (p := atomPos2 s p bd) h0).2
end Go.Proofs.YtldkpahaocjdpaaGreat
