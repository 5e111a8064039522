/-
  Plain, no walk: what a token of a text is, as the document's section Words says it: blanks are passed by; a row of a..z and 0..9, a row of A..Z, the signs ( ) , . :- ; all else is none.
  The reference's letters: isLow and isHigh answer whether a byte is one of a..z, 0..9, or of A..Z; the world stays.
  The program's letters and rows (package read): isBlank, isSmall, isCapital, and rowLength over each of them.
  Plain: what is told of a rest of a text is told of the text from that place on.
-/
import Derived.Below
import Derived.Test.YtldkpahaocjdpaaGreatProg
import Derived.WalkKit
import Derived.WalkSpells
import Derived.WalkLawsBesides
import Derived.Deep.QuietTactic
import Derived.BigQuiet
import Derived.Lib.Strings
set_option maxHeartbeats 16000000
namespace Go.Proofs.YtldkpahaocjdpaaGreat
section
def lowB (c : Int) : Bool := (decide (97 ≤ c) && decide (c ≤ 122)) || (decide (48 ≤ c) && decide (c ≤ 57))
def zax (c : Int) : Bool := decide (65 ≤ c) && decide (c ≤ 90)
def zaj (c : Int) : Bool := decide (c = 32) || decide (c = 10)
def skip (p : Int → Bool) (s : ByteArray) (i : Nat) : Nat :=
 if h : i < s.size then (if p s[i].toNat then skip p s (i + 1) else i) else i
termination_by s.size - i
theorem zbv (p : Int → Bool) (s : ByteArray) (i : Nat) (h : i < s.size) (hp : p s[i].toNat = true) : skip p s i = skip p s (i + 1) := by
 rw [skip]; simp [h, hp]
theorem zbu (p : Int → Bool) (s : ByteArray) (i : Nat) (h : i < s.size) (hp : p s[i].toNat = false) : skip p s i = i := by
 rw [skip]; simp [h, hp]
theorem zcn (p : Int → Bool) (s : ByteArray) (i : Nat) (h : ¬ i < s.size) : skip p s i = i := by
 rw [skip]; simp [h]
theorem znz (p : Int → Bool) (s : ByteArray) (i : Nat) : i ≤ skip p s i := by
 fun_induction skip p s i <;> omega
theorem ze3 (p : Int → Bool) (s : ByteArray) (i : Nat) (h : i ≤ s.size) : skip p s i ≤ s.size := by
 fun_induction skip p s i <;> omega
def zpi (s : ByteArray) (i : Nat) : Nat := if h : i < s.size then s[i].toNat else 256
theorem zoc {s : ByteArray} {i : Nat} (h : i < s.size) : zpi s i = s[i].toNat := by simp [zpi, h]
structure Tk where
 kind : Int
 text : ByteArray
 at_ : Nat
 to : Nat
def zbf (s : ByteArray) (i : Nat) : Nat :=
 if h : i < s.size then
  (if (s[i].toNat : Int) = 58 then (if h2 : i + 1 < s.size then (if (s[i+1].toNat : Int) = 45 then 2 else 0) else 0)
  else if (s[i].toNat : Int) = 40 ∨ (s[i].toNat : Int) = 41 ∨ (s[i].toNat : Int) = 44 ∨ (s[i].toNat : Int) = 46 then 1 else 0)
 else 0
def zhu (s : ByteArray) (i : Nat) : Tk :=
 if s.size ≤ i then ⟨46, ⟨#[]⟩, s.size, i⟩
 else if i < skip lowB s i then
  (if (s.extract i (skip lowB s i)).toList = [110, 111, 116] then ⟨119, s.extract i (skip lowB s i), i, skip lowB s i⟩
  else if skip lowB s i - i ≤ 8 then ⟨110, s.extract i (skip lowB s i), i, skip lowB s i⟩
  else ⟨33, ⟨#[]⟩, i, skip lowB s i⟩)
 else if i < skip zax s i then
  (if skip zax s i - i ≤ 8 then ⟨118, s.extract i (skip zax s i), i, skip zax s i⟩
  else ⟨33, ⟨#[]⟩, i, skip zax s i⟩)
 else if zbf s i = 0 then ⟨33, ⟨#[]⟩, i, i + 1⟩
 else if zbf s i = 2 then ⟨115, ⟨#[58, 45]⟩, i, i + 2⟩
 else ⟨115, s.extract i (i + 1), i, i + 1⟩
def tok (s : ByteArray) (i : Nat) : Tk := zhu s (skip zaj s i)
theorem tok_end {s : ByteArray} {i k : Nat} (h : skip zaj s i = k) (hk : s.size ≤ k) : tok s i = ⟨46, ⟨#[]⟩, s.size, k⟩ := by
 unfold tok; rw [h]; simp [zhu, hk]
theorem tok_not {s : ByteArray} {i k m : Nat} (h : skip zaj s i = k) (hk : k < s.size) (hm : skip lowB s k = m) (hkm : k < m) (ht : ((s.extract k m).toList == [110, 111, 116]) = true) :
  tok s i = ⟨119, s.extract k m, k, m⟩ := by
 have ht' : (s.extract k m).toList = [110, 111, 116] := eq_of_beq ht
 unfold tok; rw [h, zhu, if_neg (by omega), hm, if_pos hkm, if_pos ht']
theorem tok_name {s : ByteArray} {i k m : Nat} (h : skip zaj s i = k) (hk : k < s.size) (hm : skip lowB s k = m) (hkm : k < m) (ht : ((s.extract k m).toList == [110, 111, 116]) = false) (h8 : ((m - k : Nat) : Int) ≤ 8) :
  tok s i = ⟨110, s.extract k m, k, m⟩ := by
 have ht' : ¬ (s.extract k m).toList = [110, 111, 116] := fun e => by rw [e] at ht; simp at ht
 unfold tok; rw [h, zhu, if_neg (by omega), hm, if_pos hkm, if_neg ht', if_pos (by omega)]
theorem tok_long {s : ByteArray} {i k m : Nat} (h : skip zaj s i = k) (hk : k < s.size) (hm : skip lowB s k = m) (hkm : k < m) (ht : ((s.extract k m).toList == [110, 111, 116]) = false) (h8 : 8 < ((m - k : Nat) : Int)) :
  tok s i = ⟨33, ⟨#[]⟩, k, m⟩ := by
 have ht' : ¬ (s.extract k m).toList = [110, 111, 116] := fun e => by rw [e] at ht; simp at ht
 unfold tok; rw [h, zhu, if_neg (by omega), hm, if_pos hkm, if_neg ht', if_neg (by omega)]
theorem tok_var {s : ByteArray} {i k m : Nat} (h : skip zaj s i = k) (hk : k < s.size) (hl : skip lowB s k = k) (hm : skip zax s k = m) (hkm : k < m) (h8 : (m : Int) - k ≤ 8) :
  tok s i = ⟨118, s.extract k m, k, m⟩ := by
 unfold tok; rw [h, zhu, if_neg (by omega), if_neg (by omega), hm, if_pos hkm, if_pos (by omega)]
theorem zkh {s : ByteArray} {i k m : Nat} (h : skip zaj s i = k) (hk : k < s.size) (hl : skip lowB s k = k) (hm : skip zax s k = m) (hkm : k < m) (h8 : 8 < (m : Int) - k) :
  tok s i = ⟨33, ⟨#[]⟩, k, m⟩ := by
 unfold tok; rw [h, zhu, if_neg (by omega), if_neg (by omega), hm, if_pos hkm, if_neg (by omega)]
theorem tok_when {s : ByteArray} {i k : Nat} (h : skip zaj s i = k) (hk : k < s.size) (hl : skip lowB s k = k) (hm : skip zax s k = k) (hn : zbf s k = 2) :
  tok s i = ⟨115, ⟨#[58, 45]⟩, k, k + 2⟩ := by
 unfold tok; rw [h, zhu, if_neg (by omega), if_neg (by omega), if_neg (by omega), hn, if_neg (by omega), if_pos rfl]
theorem zjn {s : ByteArray} {i k : Nat} (h : skip zaj s i = k) (hk : k < s.size) (hl : skip lowB s k = k) (hm : skip zax s k = k) (hn : zbf s k = 1) :
  tok s i = ⟨115, s.extract k (k + 1), k, k + 1⟩ := by
 unfold tok; rw [h, zhu, if_neg (by omega), if_neg (by omega), if_neg (by omega), hn, if_neg (by omega), if_neg (by omega)]
theorem znk {s : ByteArray} {i k : Nat} (h : skip zaj s i = k) (hk : k < s.size) (hl : skip lowB s k = k) (hm : skip zax s k = k) (hn : zbf s k = 0) :
  tok s i = ⟨33, ⟨#[]⟩, k, k + 1⟩ := by
 unfold tok; rw [h, zhu, if_neg (by omega), if_neg (by omega), if_neg (by omega), if_pos hn]
theorem zpm {s : ByteArray} {k : Nat} (hk : k < s.size) (h1 : (s[k].toNat : Int) = 58) (h2 : k + 1 < s.size) (h3 : (s[k+1].toNat : Int) = 45) : zbf s k = 2 := by
 simp [zbf, hk, h1, h2, h3]
theorem zh7 {s : ByteArray} {k : Nat} (hk : k < s.size) (h1 : (s[k].toNat : Int) = 58) (h2 : ∀ h : k + 1 < s.size, ¬ (s[k+1].toNat : Int) = 45) : zbf s k = 0 := by
 by_cases h : k + 1 < s.size
 ·simp [zbf, hk, h1, h, h2 h]
 ·simp [zbf, hk, h1, h]
theorem zf3 {s : ByteArray} {k : Nat} (hk : k < s.size) (h1 : ¬ (s[k].toNat : Int) = 58) (h2 : (s[k].toNat : Int) = 40 ∨ (s[k].toNat : Int) = 41 ∨ (s[k].toNat : Int) = 44 ∨ (s[k].toNat : Int) = 46) : zbf s k = 1 := by
 rw [zbf, dif_pos hk, if_neg h1, if_pos h2]
theorem signLen_no {s : ByteArray} {k : Nat} (hk : k < s.size) (h1 : ¬ (s[k].toNat : Int) = 58) (h2 : ¬ ((s[k].toNat : Int) = 40 ∨ (s[k].toNat : Int) = 41 ∨ (s[k].toNat : Int) = 44 ∨ (s[k].toNat : Int) = 46)) : zbf s k = 0 := by
 rw [zbf, dif_pos hk, if_neg h1, if_neg h2]
end
section
open Go.RowKit
theorem hide {p : Prop} (h : p) : Hid p := h
theorem zaa {p : Prop} (h : Hid p) : p := h
theorem zd1 (c : Int) (w : World) :
  Calls Tryz.prog 182 #[.int .u8 c] w fun e w' => e = .returned (.bool (lowB c)) ∧ w' = w := by
 go_enter Tryz.func182, Tryz.ntmps182
 go_wp2
 all_goals go_ret
 all_goals exact ⟨by simp [lowB, *]; try omega, rfl⟩
theorem zdf (c : Int) (w : World) :
  Calls Tryz.prog 183 #[.int .u8 c] w fun e w' => e = .returned (.bool (zax c)) ∧ w' = w := by
 go_enter Tryz.func183, Tryz.ntmps183
 go_wp2
 all_goals go_ret
 all_goals exact ⟨by simp [zax, *]; try omega, rfl⟩
theorem more {x : Int} {j : Nat} {l : List Int} {d : Int} (h : ∀ c, c ∈ l.take j → x ≠ c) (hd : ¬ x = d) {j' : Nat} (hj : j' = j + 1) (hl : l[j]? = some d) : ∀ c, c ∈ l.take j' → x ≠ c := by
 subst hj
 intro c hc
 rw [List.take_add_one, hl] at hc
 simp at hc
 rcases hc with hc | hc
 ·exact h c hc
 ·subst hc; exact hd
def zb1 (t : Tk) : Value := .agg #[.int .u8 t.kind, .string t.text, .int .i64 t.at_]
end
section
open Go.RowKit
theorem zef (c : Int) (w : World) :
  Calls Tryz.prog 170 #[.int .u8 c] w fun e w' => e = .returned (.bool (lowB c)) ∧ w' = w := by
 go_enter Tryz.func170, Tryz.ntmps170
 go_wp2
 all_goals go_ret
 all_goals exact ⟨by simp [lowB, *]; try omega, rfl⟩
theorem zd7 (c : Int) (w : World) :
  Calls Tryz.prog 172 #[.int .u8 c] w fun e w' => e = .returned (.bool (zax c)) ∧ w' = w := by
 go_enter Tryz.func172, Tryz.ntmps172
 go_wp2
 all_goals go_ret
 all_goals exact ⟨by simp [zax, *]; try omega, rfl⟩
theorem zhx (c : Int) (w : World) :
  Calls Tryz.prog 114 #[.int .u8 c] w fun e w' => e = .returned (.bool (zaj c)) ∧ w' = w := by
 go_enter Tryz.func114, Tryz.ntmps114
 go_wp2
 all_goals go_ret
 ·exact ⟨by simp [zaj, *], rfl⟩
 ·exact ⟨by rename_i h; show Ending.returned (Value.bool (c == 32 || c == 10)) = _; congr 2, rfl⟩
theorem zgk (s : ByteArray) (hs : s.size ≤ maxLen) (w : World) :
  Calls Tryz.prog 113 #[.string s, .func (.func 170) #[] #[]] w fun e w' => e = .returned (.int .i64 (skip lowB s 0)) ∧ w' = w := by
 unfold maxLen at hs
 go_enter Tryz.func113, Tryz.ntmps113
 go_wp2
 go_loop [5] (fun t => ∃ m : Nat, m ≤ s.size ∧ t = .int .i64 m ∧ skip lowB s m = skip lowB s 0) (fun t => s.size - (intOf t).toNat)
 case atStart => exact ⟨0, Nat.zero_le _, rfl, rfl⟩
 case round =>
  obtain ⟨m, hm, rfl, hsm⟩ := hrel
  have HM : Hid (skip lowB s m = skip lowB s 0) := hsm
  clear hsm
  by_cases hml : m < s.size
  ·cases hlow : lowB s[m].toNat with
   | true =>
    have HB' : Hid (skip lowB s (m + 1) = skip lowB s 0) := (zbv lowB s m hml hlow).symm.trans HM.out
    go_wp2_with (go_at_call 170; refine (zef _ _).mono ?_; rintro e w' ⟨rfl, rfl⟩)
    go_round
    case rel => exact ⟨m + 1, by omega, by go_num, HB'.out⟩
    case measure => simp [intOf]; omega
   | false =>
    have HN := hide (HM.out.symm.trans (zbu lowB s m hml hlow))
    go_wp2_with (go_at_call 170; refine (zef _ _).mono ?_; rintro e w' ⟨rfl, rfl⟩)
    go_ret
    exact ⟨by rw [zaa HN]; rfl, rfl⟩
  ·have HN := hide (HM.out.symm.trans (zcn lowB s m hml))
   go_wp2_with (go_at_call 170; refine (zef _ _).mono ?_; rintro e w' ⟨rfl, rfl⟩)
   go_ret
   exact ⟨by rw [zaa HN]; rfl, rfl⟩
theorem zhe (s : ByteArray) (hs : s.size ≤ maxLen) (w : World) :
  Calls Tryz.prog 113 #[.string s, .func (.func 172) #[] #[]] w fun e w' => e = .returned (.int .i64 (skip zax s 0)) ∧ w' = w := by
 unfold maxLen at hs
 go_enter Tryz.func113, Tryz.ntmps113
 go_wp2
 go_loop [5] (fun t => ∃ m : Nat, m ≤ s.size ∧ t = .int .i64 m ∧ skip zax s m = skip zax s 0) (fun t => s.size - (intOf t).toNat)
 case atStart => exact ⟨0, Nat.zero_le _, rfl, rfl⟩
 case round =>
  obtain ⟨m, hm, rfl, hsm⟩ := hrel
  have HM : Hid (skip zax s m = skip zax s 0) := hsm
  clear hsm
  by_cases hml : m < s.size
  ·cases hlow : zax s[m].toNat with
   | true =>
    have HB' : Hid (skip zax s (m + 1) = skip zax s 0) := (zbv zax s m hml hlow).symm.trans HM.out
    go_wp2_with (go_at_call 172; refine (zd7 _ _).mono ?_; rintro e w' ⟨rfl, rfl⟩)
    go_round
    case rel => exact ⟨m + 1, by omega, by go_num, HB'.out⟩
    case measure => simp [intOf]; omega
   | false =>
    have HN := hide (HM.out.symm.trans (zbu zax s m hml hlow))
    go_wp2_with (go_at_call 172; refine (zd7 _ _).mono ?_; rintro e w' ⟨rfl, rfl⟩)
    go_ret
    exact ⟨by rw [zaa HN]; rfl, rfl⟩
  ·have HN := hide (HM.out.symm.trans (zcn zax s m hml))
   go_wp2_with (go_at_call 172; refine (zd7 _ _).mono ?_; rintro e w' ⟨rfl, rfl⟩)
   go_ret
   exact ⟨by rw [zaa HN]; rfl, rfl⟩
theorem zpg (s : ByteArray) (hs : s.size ≤ maxLen) (w : World) :
  Calls Tryz.prog 113 #[.string s, .func (.func 114) #[] #[]] w fun e w' => e = .returned (.int .i64 (skip zaj s 0)) ∧ w' = w := by
 unfold maxLen at hs
 go_enter Tryz.func113, Tryz.ntmps113
 go_wp2
 go_loop [5] (fun t => ∃ m : Nat, m ≤ s.size ∧ t = .int .i64 m ∧ skip zaj s m = skip zaj s 0) (fun t => s.size - (intOf t).toNat)
 case atStart => exact ⟨0, Nat.zero_le _, rfl, rfl⟩
 case round =>
  obtain ⟨m, hm, rfl, hsm⟩ := hrel
  have HM : Hid (skip zaj s m = skip zaj s 0) := hsm
  clear hsm
  by_cases hml : m < s.size
  ·cases hlow : zaj s[m].toNat with
   | true =>
    have HB' : Hid (skip zaj s (m + 1) = skip zaj s 0) := (zbv zaj s m hml hlow).symm.trans HM.out
    go_wp2_with (go_at_call 114; refine (zhx _ _).mono ?_; rintro e w' ⟨rfl, rfl⟩)
    go_round
    case rel => exact ⟨m + 1, by omega, by go_num, HB'.out⟩
    case measure => simp [intOf]; omega
   | false =>
    have HN := hide (HM.out.symm.trans (zbu zaj s m hml hlow))
    go_wp2_with (go_at_call 114; refine (zhx _ _).mono ?_; rintro e w' ⟨rfl, rfl⟩)
    go_ret
    exact ⟨by rw [zaa HN]; rfl, rfl⟩
  ·have HN := hide (HM.out.symm.trans (zcn zaj s m hml))
   go_wp2_with (go_at_call 114; refine (zhx _ _).mono ?_; rintro e w' ⟨rfl, rfl⟩)
   go_ret
   exact ⟨by rw [zaa HN]; rfl, rfl⟩
end
section
theorem zfc (s : ByteArray) (a : Nat) : (s.extract a s.size).size = s.size - a := by
 simp [ByteArray.size_extract]
theorem zqu (s : ByteArray) (a j : Nat) (h : a + j < s.size) (h' : j < (s.extract a s.size).size) : (s.extract a s.size)[j] = s[a + j] := by
 simp [ByteArray.getElem_extract]
theorem skip_ext (p : Int → Bool) (s : ByteArray) (a : Nat) (ha : a ≤ s.size) : ∀ (d j : Nat), s.size - (a + j) = d → a + j ≤ s.size → a + skip p (s.extract a s.size) j = skip p s (a + j) := by
 intro d
 induction d with
 | zero =>
  intro j hd hj
  rw [zcn p s (a + j) (by omega), zcn p _ j (by rw [zfc s a]; omega)]
 | succ d ih =>
  intro j hd hj
  have h1 : a + j < s.size := by omega
  have h2 : j < (s.extract a s.size).size := by rw [zfc s a]; omega
  cases hp : p s[a + j].toNat with
  | true =>
   rw [zbv p s (a + j) h1 hp, zbv p _ j h2 (by rw [zqu s a j h1 h2]; exact hp)]
   have := ih (j + 1) (by omega) (by omega)
   rw [this, Nat.add_assoc]
  | false =>
   rw [zbu p s (a + j) h1 hp, zbu p _ j h2 (by rw [zqu s a j h1 h2]; exact hp)]
theorem zke (p : Int → Bool) (s : ByteArray) (a : Nat) (ha : a ≤ s.size) : a + skip p (s.extract a s.size) 0 = skip p s a :=
 skip_ext p s a ha _ 0 rfl (by omega)
def zhw (r : ByteArray) : Int × Nat :=
 if 1 ≤ r.size ∧ (r.extract 0 1).toList = [40] then (5, 1)
 else if 1 ≤ r.size ∧ (r.extract 0 1).toList = [41] then (6, 1)
 else if 1 ≤ r.size ∧ (r.extract 0 1).toList = [44] then (7, 1)
 else if 1 ≤ r.size ∧ (r.extract 0 1).toList = [46] then (8, 1)
 else if 2 ≤ r.size ∧ (r.extract 0 2).toList = [58, 45] then (9, 2)
 else (1, 1)
def zjj (r : ByteArray) : Int × Nat := if 8 < skip lowB r 0 then (1, skip lowB r 0) else if (r.extract 0 (skip lowB r 0)).toList = [110, 111, 116] then (4, skip lowB r 0) else (2, skip lowB r 0)
def varK (r : ByteArray) : Int × Nat := if 8 < skip zax r 0 then (1, skip zax r 0) else (3, skip zax r 0)
def zfw (r : ByteArray) : Int × Nat :=
 if h : 0 < r.size then (if lowB r[0].toNat then zjj r else if zax r[0].toNat then varK r else zhw r) else (0, 0)
def zae (s : ByteArray) (i : Nat) : Int × Nat × Nat := ((zfw (s.extract (skip zaj s i) s.size)).1, skip zaj s i, skip zaj s i + (zfw (s.extract (skip zaj s i) s.size)).2)
end
end Go.Proofs.YtldkpahaocjdpaaGreat
