/-
  Plain, no walk: what a token of a text is, as the document's section Words says it: blanks are passed by; a row of a..z and 0..9, a row of A..Z, the signs ( ) , . :- ; all else is none.
  The reference's letters: isLow and isHigh answer whether a byte is one of a..z, 0..9, or of A..Z; the world stays.
  The program's letters and rows (package read): isBlank, isSmall, isCapital, and rowLength over each of them.
  Plain: what is told of a rest of a text is told of the text from that place on.
-/
import Derived.Below
import Derived.Test.YtldkpahaocjdpaaGreatProg
import Derived.WalkKit
import Derived.WalkSpells
import Derived.WalkLawsBesides
import Derived.Deep.QuietTactic
import Derived.BigQuiet
import Derived.Lib.Strings
namespace Go.Proofs.YtldkpahaocjdpaaGreat

def lowB (c : Int) : Bool := (decide (97 ≤ c) && decide (c ≤ 122)) || (decide (48 ≤ c) && decide (c ≤ 57))
def highB (c : Int) : Bool := decide (65 ≤ c) && decide (c ≤ 90)
def blankB (c : Int) : Bool := decide (c = 32) || decide (c = 10)

/-- The first place from i on whose byte is not of the sort, or the end. -/
def skip (p : Int → Bool) (s : ByteArray) (i : Nat) : Nat :=
  if h : i < s.size then (if p s[i].toNat then skip p s (i + 1) else i) else i
termination_by s.size - i

theorem skip_step (p : Int → Bool) (s : ByteArray) (i : Nat) (h : i < s.size) (hp : p s[i].toNat = true) : skip p s i = skip p s (i + 1) := by
  rw [skip]; simp [h, hp]
theorem skip_stop (p : Int → Bool) (s : ByteArray) (i : Nat) (h : i < s.size) (hp : p s[i].toNat = false) : skip p s i = i := by
  rw [skip]; simp [h, hp]
theorem skip_end (p : Int → Bool) (s : ByteArray) (i : Nat) (h : ¬ i < s.size) : skip p s i = i := by
  rw [skip]; simp [h]
theorem skip_ge (p : Int → Bool) (s : ByteArray) (i : Nat) : i ≤ skip p s i := by
  fun_induction skip p s i <;> omega
theorem skip_le (p : Int → Bool) (s : ByteArray) (i : Nat) (h : i ≤ s.size) : skip p s i ≤ s.size := by
  fun_induction skip p s i <;> omega

def byteAt (s : ByteArray) (i : Nat) : Nat := if h : i < s.size then s[i].toNat else 256
theorem byteAt_lt {s : ByteArray} {i : Nat} (h : i < s.size) : byteAt s i = s[i].toNat := by simp [byteAt, h]

/-- A token: its kind (n name, v variable, s sign, w not, . the end, ! none), its text, its place, the place behind it. -/
structure Tk where
  kind : Int
  text : ByteArray
  at_ : Nat
  to : Nat

/-- The sign at a place: its length, 0: none. -/
def signLen (s : ByteArray) (i : Nat) : Nat :=
  if h : i < s.size then
    (if (s[i].toNat : Int) = 58 then (if h2 : i + 1 < s.size then (if (s[i+1].toNat : Int) = 45 then 2 else 0) else 0)
     else if (s[i].toNat : Int) = 40 ∨ (s[i].toNat : Int) = 41 ∨ (s[i].toNat : Int) = 44 ∨ (s[i].toNat : Int) = 46 then 1 else 0)
  else 0

def tokAt (s : ByteArray) (i : Nat) : Tk :=
  if s.size ≤ i then ⟨46, ⟨#[]⟩, s.size, i⟩
  else if i < skip lowB s i then
    (if (s.extract i (skip lowB s i)).toList = [110, 111, 116] then ⟨119, s.extract i (skip lowB s i), i, skip lowB s i⟩
     else if skip lowB s i - i ≤ 8 then ⟨110, s.extract i (skip lowB s i), i, skip lowB s i⟩
     else ⟨33, ⟨#[]⟩, i, skip lowB s i⟩)
  else if i < skip highB s i then
    (if skip highB s i - i ≤ 8 then ⟨118, s.extract i (skip highB s i), i, skip highB s i⟩
     else ⟨33, ⟨#[]⟩, i, skip highB s i⟩)
  else if signLen s i = 0 then ⟨33, ⟨#[]⟩, i, i + 1⟩
  else if signLen s i = 2 then ⟨115, ⟨#[58, 45]⟩, i, i + 2⟩
  else ⟨115, s.extract i (i + 1), i, i + 1⟩

def tok (s : ByteArray) (i : Nat) : Tk := tokAt s (skip blankB s i)

theorem tok_end {s : ByteArray} {i k : Nat} (h : skip blankB s i = k) (hk : s.size ≤ k) : tok s i = ⟨46, ⟨#[]⟩, s.size, k⟩ := by
  unfold tok; rw [h]; simp [tokAt, hk]
theorem tok_not {s : ByteArray} {i k m : Nat} (h : skip blankB s i = k) (hk : k < s.size) (hm : skip lowB s k = m) (hkm : k < m) (ht : ((s.extract k m).toList == [110, 111, 116]) = true) :
    tok s i = ⟨119, s.extract k m, k, m⟩ := by
  have ht' : (s.extract k m).toList = [110, 111, 116] := eq_of_beq ht
  unfold tok; rw [h, tokAt, if_neg (by omega), hm, if_pos hkm, if_pos ht']
theorem tok_name {s : ByteArray} {i k m : Nat} (h : skip blankB s i = k) (hk : k < s.size) (hm : skip lowB s k = m) (hkm : k < m) (ht : ((s.extract k m).toList == [110, 111, 116]) = false) (h8 : ((m - k : Nat) : Int) ≤ 8) :
    tok s i = ⟨110, s.extract k m, k, m⟩ := by
  have ht' : ¬ (s.extract k m).toList = [110, 111, 116] := fun e => by rw [e] at ht; simp at ht
  unfold tok; rw [h, tokAt, if_neg (by omega), hm, if_pos hkm, if_neg ht', if_pos (by omega)]
theorem tok_long {s : ByteArray} {i k m : Nat} (h : skip blankB s i = k) (hk : k < s.size) (hm : skip lowB s k = m) (hkm : k < m) (ht : ((s.extract k m).toList == [110, 111, 116]) = false) (h8 : 8 < ((m - k : Nat) : Int)) :
    tok s i = ⟨33, ⟨#[]⟩, k, m⟩ := by
  have ht' : ¬ (s.extract k m).toList = [110, 111, 116] := fun e => by rw [e] at ht; simp at ht
  unfold tok; rw [h, tokAt, if_neg (by omega), hm, if_pos hkm, if_neg ht', if_neg (by omega)]
theorem tok_var {s : ByteArray} {i k m : Nat} (h : skip blankB s i = k) (hk : k < s.size) (hl : skip lowB s k = k) (hm : skip highB s k = m) (hkm : k < m) (h8 : (m : Int) - k ≤ 8) :
    tok s i = ⟨118, s.extract k m, k, m⟩ := by
  unfold tok; rw [h, tokAt, if_neg (by omega), if_neg (by omega), hm, if_pos hkm, if_pos (by omega)]
theorem tok_varLong {s : ByteArray} {i k m : Nat} (h : skip blankB s i = k) (hk : k < s.size) (hl : skip lowB s k = k) (hm : skip highB s k = m) (hkm : k < m) (h8 : 8 < (m : Int) - k) :
    tok s i = ⟨33, ⟨#[]⟩, k, m⟩ := by
  unfold tok; rw [h, tokAt, if_neg (by omega), if_neg (by omega), hm, if_pos hkm, if_neg (by omega)]
theorem tok_when {s : ByteArray} {i k : Nat} (h : skip blankB s i = k) (hk : k < s.size) (hl : skip lowB s k = k) (hm : skip highB s k = k) (hn : signLen s k = 2) :
    tok s i = ⟨115, ⟨#[58, 45]⟩, k, k + 2⟩ := by
  unfold tok; rw [h, tokAt, if_neg (by omega), if_neg (by omega), if_neg (by omega), hn, if_neg (by omega), if_pos rfl]
theorem tok_sign {s : ByteArray} {i k : Nat} (h : skip blankB s i = k) (hk : k < s.size) (hl : skip lowB s k = k) (hm : skip highB s k = k) (hn : signLen s k = 1) :
    tok s i = ⟨115, s.extract k (k + 1), k, k + 1⟩ := by
  unfold tok; rw [h, tokAt, if_neg (by omega), if_neg (by omega), if_neg (by omega), hn, if_neg (by omega), if_neg (by omega)]
theorem tok_none {s : ByteArray} {i k : Nat} (h : skip blankB s i = k) (hk : k < s.size) (hl : skip lowB s k = k) (hm : skip highB s k = k) (hn : signLen s k = 0) :
    tok s i = ⟨33, ⟨#[]⟩, k, k + 1⟩ := by
  unfold tok; rw [h, tokAt, if_neg (by omega), if_neg (by omega), if_neg (by omega), if_pos hn]
theorem signLen_when {s : ByteArray} {k : Nat} (hk : k < s.size) (h1 : (s[k].toNat : Int) = 58) (h2 : k + 1 < s.size) (h3 : (s[k+1].toNat : Int) = 45) : signLen s k = 2 := by
  simp [signLen, hk, h1, h2, h3]
theorem signLen_colon {s : ByteArray} {k : Nat} (hk : k < s.size) (h1 : (s[k].toNat : Int) = 58) (h2 : ∀ h : k + 1 < s.size, ¬ (s[k+1].toNat : Int) = 45) : signLen s k = 0 := by
  by_cases h : k + 1 < s.size
  · simp [signLen, hk, h1, h, h2 h]
  · simp [signLen, hk, h1, h]
theorem signLen_one {s : ByteArray} {k : Nat} (hk : k < s.size) (h1 : ¬ (s[k].toNat : Int) = 58) (h2 : (s[k].toNat : Int) = 40 ∨ (s[k].toNat : Int) = 41 ∨ (s[k].toNat : Int) = 44 ∨ (s[k].toNat : Int) = 46) : signLen s k = 1 := by
  rw [signLen, dif_pos hk, if_neg h1, if_pos h2]
theorem signLen_no {s : ByteArray} {k : Nat} (hk : k < s.size) (h1 : ¬ (s[k].toNat : Int) = 58) (h2 : ¬ ((s[k].toNat : Int) = 40 ∨ (s[k].toNat : Int) = 41 ∨ (s[k].toNat : Int) = 44 ∨ (s[k].toNat : Int) = 46)) : signLen s k = 0 := by
  rw [signLen, dif_pos hk, if_neg h1, if_neg h2]
end Go.Proofs.YtldkpahaocjdpaaGreat

namespace Go.Proofs.YtldkpahaocjdpaaGreat
open Go.RowKit

theorem hide {p : Prop} (h : p) : Hid p := h
theorem unhide {p : Prop} (h : Hid p) : p := h

set_option maxHeartbeats 400000 in
theorem isLow_any (c : Int) (w : World) :
    Calls Tryz.prog 182 #[.int .u8 c] w fun e w' => e = .returned (.bool (lowB c)) ∧ w' = w := by
  go_enter Tryz.func182, Tryz.ntmps182
  go_wp2
  all_goals go_ret
  all_goals exact ⟨by simp [lowB, *]; try omega, rfl⟩

set_option maxHeartbeats 400000 in
theorem isHigh_any (c : Int) (w : World) :
    Calls Tryz.prog 183 #[.int .u8 c] w fun e w' => e = .returned (.bool (highB c)) ∧ w' = w := by
  go_enter Tryz.func183, Tryz.ntmps183
  go_wp2
  all_goals go_ret
  all_goals exact ⟨by simp [highB, *]; try omega, rfl⟩

theorem more {x : Int} {j : Nat} {l : List Int} {d : Int} (h : ∀ c, c ∈ l.take j → x ≠ c) (hd : ¬ x = d) {j' : Nat} (hj : j' = j + 1) (hl : l[j]? = some d) : ∀ c, c ∈ l.take j' → x ≠ c := by
  subst hj
  intro c hc
  rw [List.take_add_one, hl] at hc
  simp at hc
  rcases hc with hc | hc
  · exact h c hc
  · subst hc; exact hd

def tkVal (t : Tk) : Value := .agg #[.int .u8 t.kind, .string t.text, .int .i64 t.at_]


end Go.Proofs.YtldkpahaocjdpaaGreat

namespace Go.Proofs.YtldkpahaocjdpaaGreat
open Go.RowKit

set_option maxHeartbeats 400000 in
theorem isSmall_any (c : Int) (w : World) :
    Calls Tryz.prog 170 #[.int .u8 c] w fun e w' => e = .returned (.bool (lowB c)) ∧ w' = w := by
  go_enter Tryz.func170, Tryz.ntmps170
  go_wp2
  all_goals go_ret
  all_goals exact ⟨by simp [lowB, *]; try omega, rfl⟩

set_option maxHeartbeats 400000 in
theorem isCapital_any (c : Int) (w : World) :
    Calls Tryz.prog 172 #[.int .u8 c] w fun e w' => e = .returned (.bool (highB c)) ∧ w' = w := by
  go_enter Tryz.func172, Tryz.ntmps172
  go_wp2
  all_goals go_ret
  all_goals exact ⟨by simp [highB, *]; try omega, rfl⟩

set_option maxHeartbeats 400000 in
theorem isBlank_any (c : Int) (w : World) :
    Calls Tryz.prog 114 #[.int .u8 c] w fun e w' => e = .returned (.bool (blankB c)) ∧ w' = w := by
  go_enter Tryz.func114, Tryz.ntmps114
  go_wp2
  all_goals go_ret
  · exact ⟨by simp [blankB, *], rfl⟩
  · exact ⟨by rename_i h; show Ending.returned (Value.bool (c == 32 || c == 10)) = _; congr 2, rfl⟩

set_option maxHeartbeats 1000000 in
theorem rowSmall_any (s : ByteArray) (hs : s.size ≤ maxLen) (w : World) :
    Calls Tryz.prog 113 #[.string s, .func (.func 170) #[] #[]] w fun e w' => e = .returned (.int .i64 (skip lowB s 0)) ∧ w' = w := by
  unfold maxLen at hs
  go_enter Tryz.func113, Tryz.ntmps113
  go_wp2
  go_loop [5] (fun t => ∃ m : Nat, m ≤ s.size ∧ t = .int .i64 m ∧ skip lowB s m = skip lowB s 0) (fun t => s.size - (intOf t).toNat)
  case atStart => exact ⟨0, Nat.zero_le _, rfl, rfl⟩
  case round =>
    obtain ⟨m, hm, rfl, hsm⟩ := hrel
    have HM : Hid (skip lowB s m = skip lowB s 0) := hsm
    clear hsm
    by_cases hml : m < s.size
    · cases hlow : lowB s[m].toNat with
      | true =>
        have HB' : Hid (skip lowB s (m + 1) = skip lowB s 0) := (skip_step lowB s m hml hlow).symm.trans HM.out
        go_wp2_with (go_at_call 170; refine (isSmall_any _ _).mono ?_; rintro e w' ⟨rfl, rfl⟩)
        go_round
        case rel => exact ⟨m + 1, by omega, by go_num, HB'.out⟩
        case measure => simp [intOf]; omega
      | false =>
        have HN := hide (HM.out.symm.trans (skip_stop lowB s m hml hlow))
        go_wp2_with (go_at_call 170; refine (isSmall_any _ _).mono ?_; rintro e w' ⟨rfl, rfl⟩)
        go_ret
        exact ⟨by rw [unhide HN]; rfl, rfl⟩
    · have HN := hide (HM.out.symm.trans (skip_end lowB s m hml))
      go_wp2_with (go_at_call 170; refine (isSmall_any _ _).mono ?_; rintro e w' ⟨rfl, rfl⟩)
      go_ret
      exact ⟨by rw [unhide HN]; rfl, rfl⟩

set_option maxHeartbeats 1000000 in
theorem rowCapital_any (s : ByteArray) (hs : s.size ≤ maxLen) (w : World) :
    Calls Tryz.prog 113 #[.string s, .func (.func 172) #[] #[]] w fun e w' => e = .returned (.int .i64 (skip highB s 0)) ∧ w' = w := by
  unfold maxLen at hs
  go_enter Tryz.func113, Tryz.ntmps113
  go_wp2
  go_loop [5] (fun t => ∃ m : Nat, m ≤ s.size ∧ t = .int .i64 m ∧ skip highB s m = skip highB s 0) (fun t => s.size - (intOf t).toNat)
  case atStart => exact ⟨0, Nat.zero_le _, rfl, rfl⟩
  case round =>
    obtain ⟨m, hm, rfl, hsm⟩ := hrel
    have HM : Hid (skip highB s m = skip highB s 0) := hsm
    clear hsm
    by_cases hml : m < s.size
    · cases hlow : highB s[m].toNat with
      | true =>
        have HB' : Hid (skip highB s (m + 1) = skip highB s 0) := (skip_step highB s m hml hlow).symm.trans HM.out
        go_wp2_with (go_at_call 172; refine (isCapital_any _ _).mono ?_; rintro e w' ⟨rfl, rfl⟩)
        go_round
        case rel => exact ⟨m + 1, by omega, by go_num, HB'.out⟩
        case measure => simp [intOf]; omega
      | false =>
        have HN := hide (HM.out.symm.trans (skip_stop highB s m hml hlow))
        go_wp2_with (go_at_call 172; refine (isCapital_any _ _).mono ?_; rintro e w' ⟨rfl, rfl⟩)
        go_ret
        exact ⟨by rw [unhide HN]; rfl, rfl⟩
    · have HN := hide (HM.out.symm.trans (skip_end highB s m hml))
      go_wp2_with (go_at_call 172; refine (isCapital_any _ _).mono ?_; rintro e w' ⟨rfl, rfl⟩)
      go_ret
      exact ⟨by rw [unhide HN]; rfl, rfl⟩

set_option maxHeartbeats 1000000 in
theorem rowBlank_any (s : ByteArray) (hs : s.size ≤ maxLen) (w : World) :
    Calls Tryz.prog 113 #[.string s, .func (.func 114) #[] #[]] w fun e w' => e = .returned (.int .i64 (skip blankB s 0)) ∧ w' = w := by
  unfold maxLen at hs
  go_enter Tryz.func113, Tryz.ntmps113
  go_wp2
  go_loop [5] (fun t => ∃ m : Nat, m ≤ s.size ∧ t = .int .i64 m ∧ skip blankB s m = skip blankB s 0) (fun t => s.size - (intOf t).toNat)
  case atStart => exact ⟨0, Nat.zero_le _, rfl, rfl⟩
  case round =>
    obtain ⟨m, hm, rfl, hsm⟩ := hrel
    have HM : Hid (skip blankB s m = skip blankB s 0) := hsm
    clear hsm
    by_cases hml : m < s.size
    · cases hlow : blankB s[m].toNat with
      | true =>
        have HB' : Hid (skip blankB s (m + 1) = skip blankB s 0) := (skip_step blankB s m hml hlow).symm.trans HM.out
        go_wp2_with (go_at_call 114; refine (isBlank_any _ _).mono ?_; rintro e w' ⟨rfl, rfl⟩)
        go_round
        case rel => exact ⟨m + 1, by omega, by go_num, HB'.out⟩
        case measure => simp [intOf]; omega
      | false =>
        have HN := hide (HM.out.symm.trans (skip_stop blankB s m hml hlow))
        go_wp2_with (go_at_call 114; refine (isBlank_any _ _).mono ?_; rintro e w' ⟨rfl, rfl⟩)
        go_ret
        exact ⟨by rw [unhide HN]; rfl, rfl⟩
    · have HN := hide (HM.out.symm.trans (skip_end blankB s m hml))
      go_wp2_with (go_at_call 114; refine (isBlank_any _ _).mono ?_; rintro e w' ⟨rfl, rfl⟩)
      go_ret
      exact ⟨by rw [unhide HN]; rfl, rfl⟩
end Go.Proofs.YtldkpahaocjdpaaGreat

namespace Go.Proofs.YtldkpahaocjdpaaGreat

theorem ext_size (s : ByteArray) (a : Nat) : (s.extract a s.size).size = s.size - a := by
  simp [ByteArray.size_extract]

theorem ext_get (s : ByteArray) (a j : Nat) (h : a + j < s.size) (h' : j < (s.extract a s.size).size) : (s.extract a s.size)[j] = s[a + j] := by
  simp [ByteArray.getElem_extract]

theorem skip_ext (p : Int → Bool) (s : ByteArray) (a : Nat) (ha : a ≤ s.size) : ∀ (d j : Nat), s.size - (a + j) = d → a + j ≤ s.size → a + skip p (s.extract a s.size) j = skip p s (a + j) := by
  intro d
  induction d with
  | zero =>
    intro j hd hj
    rw [skip_end p s (a + j) (by omega), skip_end p _ j (by rw [ext_size s a]; omega)]
  | succ d ih =>
    intro j hd hj
    have h1 : a + j < s.size := by omega
    have h2 : j < (s.extract a s.size).size := by rw [ext_size s a]; omega
    cases hp : p s[a + j].toNat with
    | true =>
      rw [skip_step p s (a + j) h1 hp, skip_step p _ j h2 (by rw [ext_get s a j h1 h2]; exact hp)]
      have := ih (j + 1) (by omega) (by omega)
      rw [this, Nat.add_assoc]
    | false =>
      rw [skip_stop p s (a + j) h1 hp, skip_stop p _ j h2 (by rw [ext_get s a j h1 h2]; exact hp)]

theorem skip_ext0 (p : Int → Bool) (s : ByteArray) (a : Nat) (ha : a ≤ s.size) : a + skip p (s.extract a s.size) 0 = skip p s a :=
  skip_ext p s a ha _ 0 rfl (by omega)

/-- The kinds of tokens as the program numbers them: 0 the end, 1 none, 2 a name, 3 a variable, 4 not, 5 ( 6 ) 7 , 8 . 9 :- ; and how long each is. -/
def signK (r : ByteArray) : Int × Nat :=
  if 1 ≤ r.size ∧ (r.extract 0 1).toList = [40] then (5, 1)
  else if 1 ≤ r.size ∧ (r.extract 0 1).toList = [41] then (6, 1)
  else if 1 ≤ r.size ∧ (r.extract 0 1).toList = [44] then (7, 1)
  else if 1 ≤ r.size ∧ (r.extract 0 1).toList = [46] then (8, 1)
  else if 2 ≤ r.size ∧ (r.extract 0 2).toList = [58, 45] then (9, 2)
  else (1, 1)
def nameK (r : ByteArray) : Int × Nat := if 8 < skip lowB r 0 then (1, skip lowB r 0) else if (r.extract 0 (skip lowB r 0)).toList = [110, 111, 116] then (4, skip lowB r 0) else (2, skip lowB r 0)
def varK (r : ByteArray) : Int × Nat := if 8 < skip highB r 0 then (1, skip highB r 0) else (3, skip highB r 0)
def measK (r : ByteArray) : Int × Nat :=
  if h : 0 < r.size then (if lowB r[0].toNat then nameK r else if highB r[0].toNat then varK r else signK r) else (0, 0)
/-- The token at a place or behind it: its kind, its first byte, the one behind it. -/
def scanK (s : ByteArray) (i : Nat) : Int × Nat × Nat := ((measK (s.extract (skip blankB s i) s.size)).1, skip blankB s i, skip blankB s i + (measK (s.extract (skip blankB s i) s.size)).2)
end Go.Proofs.YtldkpahaocjdpaaGreat
