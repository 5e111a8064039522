/-
  Plain, no walk: what a token of a text is, as the document's section Words says it: blanks are passed by; a row of a..z and 0..9, a row of A..Z, the signs ( ) , . :- ; all else is none.
  The reference's letters: isLow and isHigh answer whether a byte is one of a..z, 0..9, or of A..Z; the world stays.
  The program's letters and rows (package read): isBlank, isSmall, isCapital, and rowLength over each of them.
  Plain: what is told of a rest of a text is told of the text from that place on.
  The program's scan and what it calls (package read): HasPrefix, signAt, nameAt, variableAt, measure, scan: the plain text's tokens (ReadScanS).
  The reference's cut, where a row of small letters or the end comes next: what it answers is the token of the plain text (Spec), and no old memory has turned.
  The reference's cut, where a row of capitals comes next: what it answers is the token of the plain text (Spec), and no old memory has turned.
-/
import Derived.Below
import Derived.Test.YtldkpahaocjdpaaGreatProg
import Derived.WalkKit
import Derived.WalkSpells
import Derived.WalkLawsBesides
import Derived.Deep.QuietTactic
import Derived.BigQuiet
import Derived.Lib.Strings
set_option maxHeartbeats 16000000
namespace Go.Proofs.YtldkpahaocjdpaaGreat
section
def lowB (c : Int) : Bool := (decide (97 ≤ c) && decide (c ≤ 122)) || (decide (48 ≤ c) && decide (c ≤ 57))
def zax (c : Int) : Bool := decide (65 ≤ c) && decide (c ≤ 90)
def zaj (c : Int) : Bool := decide (c = 32) || decide (c = 10)
def skip (p : Int → Bool) (s : ByteArray) (i : Nat) : Nat :=
 if h : i < s.size then (if p s[i].toNat then skip p s (i + 1) else i) else i
termination_by s.size - i
theorem zbu (p : Int → Bool) (s : ByteArray) (i : Nat) (h : i < s.size) (hp : p s[i].toNat = true) : skip p s i = skip p s (i + 1) := by
 rw [skip]; simp [h, hp]
theorem zbv (p : Int → Bool) (s : ByteArray) (i : Nat) (h : i < s.size) (hp : p s[i].toNat = false) : skip p s i = i := by
 rw [skip]; simp [h, hp]
theorem zcl (p : Int → Bool) (s : ByteArray) (i : Nat) (h : ¬ i < s.size) : skip p s i = i := by
 rw [skip]; simp [h]
theorem zm3 (p : Int → Bool) (s : ByteArray) (i : Nat) : i ≤ skip p s i := by
 fun_induction skip p s i <;> omega
theorem ze3 (p : Int → Bool) (s : ByteArray) (i : Nat) (h : i ≤ s.size) : skip p s i ≤ s.size := by
 fun_induction skip p s i <;> omega
def zp3 (s : ByteArray) (i : Nat) : Nat := if h : i < s.size then s[i].toNat else 256
theorem zom {s : ByteArray} {i : Nat} (h : i < s.size) : zp3 s i = s[i].toNat := by simp [zp3, h]
structure Tk where
 kind : Int
 text : ByteArray
 at_ : Nat
 to : Nat
def zbf (s : ByteArray) (i : Nat) : Nat :=
 if h : i < s.size then
  (if (s[i].toNat : Int) = 58 then (if h2 : i + 1 < s.size then (if (s[i+1].toNat : Int) = 45 then 2 else 0) else 0)
  else if (s[i].toNat : Int) = 40 ∨ (s[i].toNat : Int) = 41 ∨ (s[i].toNat : Int) = 44 ∨ (s[i].toNat : Int) = 46 then 1 else 0)
 else 0
def zhv (s : ByteArray) (i : Nat) : Tk :=
 if s.size ≤ i then ⟨46, ⟨#[]⟩, s.size, i⟩
 else if i < skip lowB s i then
  (if (s.extract i (skip lowB s i)).toList = [110, 111, 116] then ⟨119, s.extract i (skip lowB s i), i, skip lowB s i⟩
  else if skip lowB s i - i ≤ 8 then ⟨110, s.extract i (skip lowB s i), i, skip lowB s i⟩
  else ⟨33, ⟨#[]⟩, i, skip lowB s i⟩)
 else if i < skip zax s i then
  (if skip zax s i - i ≤ 8 then ⟨118, s.extract i (skip zax s i), i, skip zax s i⟩
  else ⟨33, ⟨#[]⟩, i, skip zax s i⟩)
 else if zbf s i = 0 then ⟨33, ⟨#[]⟩, i, i + 1⟩
 else if zbf s i = 2 then ⟨115, ⟨#[58, 45]⟩, i, i + 2⟩
 else ⟨115, s.extract i (i + 1), i, i + 1⟩
def tok (s : ByteArray) (i : Nat) : Tk := zhv s (skip zaj s i)
theorem tok_end {s : ByteArray} {i k : Nat} (h : skip zaj s i = k) (hk : s.size ≤ k) : tok s i = ⟨46, ⟨#[]⟩, s.size, k⟩ := by
 unfold tok; rw [h]; simp [zhv, hk]
theorem tok_not {s : ByteArray} {i k m : Nat} (h : skip zaj s i = k) (hk : k < s.size) (hm : skip lowB s k = m) (hkm : k < m) (ht : ((s.extract k m).toList == [110, 111, 116]) = true) :
  tok s i = ⟨119, s.extract k m, k, m⟩ := by
 have ht' : (s.extract k m).toList = [110, 111, 116] := eq_of_beq ht
 unfold tok; rw [h, zhv, if_neg (by omega), hm, if_pos hkm, if_pos ht']
theorem tok_name {s : ByteArray} {i k m : Nat} (h : skip zaj s i = k) (hk : k < s.size) (hm : skip lowB s k = m) (hkm : k < m) (ht : ((s.extract k m).toList == [110, 111, 116]) = false) (h8 : ((m - k : Nat) : Int) ≤ 8) :
  tok s i = ⟨110, s.extract k m, k, m⟩ := by
 have ht' : ¬ (s.extract k m).toList = [110, 111, 116] := fun e => by rw [e] at ht; simp at ht
 unfold tok; rw [h, zhv, if_neg (by omega), hm, if_pos hkm, if_neg ht', if_pos (by omega)]
theorem tok_long {s : ByteArray} {i k m : Nat} (h : skip zaj s i = k) (hk : k < s.size) (hm : skip lowB s k = m) (hkm : k < m) (ht : ((s.extract k m).toList == [110, 111, 116]) = false) (h8 : 8 < ((m - k : Nat) : Int)) :
  tok s i = ⟨33, ⟨#[]⟩, k, m⟩ := by
 have ht' : ¬ (s.extract k m).toList = [110, 111, 116] := fun e => by rw [e] at ht; simp at ht
 unfold tok; rw [h, zhv, if_neg (by omega), hm, if_pos hkm, if_neg ht', if_neg (by omega)]
theorem tok_var {s : ByteArray} {i k m : Nat} (h : skip zaj s i = k) (hk : k < s.size) (hl : skip lowB s k = k) (hm : skip zax s k = m) (hkm : k < m) (h8 : (m : Int) - k ≤ 8) :
  tok s i = ⟨118, s.extract k m, k, m⟩ := by
 unfold tok; rw [h, zhv, if_neg (by omega), if_neg (by omega), hm, if_pos hkm, if_pos (by omega)]
theorem zj8 {s : ByteArray} {i k m : Nat} (h : skip zaj s i = k) (hk : k < s.size) (hl : skip lowB s k = k) (hm : skip zax s k = m) (hkm : k < m) (h8 : 8 < (m : Int) - k) :
  tok s i = ⟨33, ⟨#[]⟩, k, m⟩ := by
 unfold tok; rw [h, zhv, if_neg (by omega), if_neg (by omega), hm, if_pos hkm, if_neg (by omega)]
theorem tok_when {s : ByteArray} {i k : Nat} (h : skip zaj s i = k) (hk : k < s.size) (hl : skip lowB s k = k) (hm : skip zax s k = k) (hn : zbf s k = 2) :
  tok s i = ⟨115, ⟨#[58, 45]⟩, k, k + 2⟩ := by
 unfold tok; rw [h, zhv, if_neg (by omega), if_neg (by omega), if_neg (by omega), hn, if_neg (by omega), if_pos rfl]
theorem zjs {s : ByteArray} {i k : Nat} (h : skip zaj s i = k) (hk : k < s.size) (hl : skip lowB s k = k) (hm : skip zax s k = k) (hn : zbf s k = 1) :
  tok s i = ⟨115, s.extract k (k + 1), k, k + 1⟩ := by
 unfold tok; rw [h, zhv, if_neg (by omega), if_neg (by omega), if_neg (by omega), hn, if_neg (by omega), if_neg (by omega)]
theorem znc {s : ByteArray} {i k : Nat} (h : skip zaj s i = k) (hk : k < s.size) (hl : skip lowB s k = k) (hm : skip zax s k = k) (hn : zbf s k = 0) :
  tok s i = ⟨33, ⟨#[]⟩, k, k + 1⟩ := by
 unfold tok; rw [h, zhv, if_neg (by omega), if_neg (by omega), if_neg (by omega), if_pos hn]
theorem zop {s : ByteArray} {k : Nat} (hk : k < s.size) (h1 : (s[k].toNat : Int) = 58) (h2 : k + 1 < s.size) (h3 : (s[k+1].toNat : Int) = 45) : zbf s k = 2 := by
 simp [zbf, hk, h1, h2, h3]
theorem zif {s : ByteArray} {k : Nat} (hk : k < s.size) (h1 : (s[k].toNat : Int) = 58) (h2 : ∀ h : k + 1 < s.size, ¬ (s[k+1].toNat : Int) = 45) : zbf s k = 0 := by
 by_cases h : k + 1 < s.size
 ·simp [zbf, hk, h1, h, h2 h]
 ·simp [zbf, hk, h1, h]
theorem zf9 {s : ByteArray} {k : Nat} (hk : k < s.size) (h1 : ¬ (s[k].toNat : Int) = 58) (h2 : (s[k].toNat : Int) = 40 ∨ (s[k].toNat : Int) = 41 ∨ (s[k].toNat : Int) = 44 ∨ (s[k].toNat : Int) = 46) : zbf s k = 1 := by
 rw [zbf, dif_pos hk, if_neg h1, if_pos h2]
theorem signLen_no {s : ByteArray} {k : Nat} (hk : k < s.size) (h1 : ¬ (s[k].toNat : Int) = 58) (h2 : ¬ ((s[k].toNat : Int) = 40 ∨ (s[k].toNat : Int) = 41 ∨ (s[k].toNat : Int) = 44 ∨ (s[k].toNat : Int) = 46)) : zbf s k = 0 := by
 rw [zbf, dif_pos hk, if_neg h1, if_neg h2]
end
section
open Go.RowKit
theorem hide {p : Prop} (h : p) : Hid p := h
theorem zaa {p : Prop} (h : Hid p) : p := h
theorem zd4 (c : Int) (w : World) :
  Calls Tryz.prog 182 #[.int .u8 c] w fun e w' => e = .returned (.bool (lowB c)) ∧ w' = w := by
 go_enter Tryz.func182, Tryz.ntmps182
 go_wp2
 all_goals go_ret
 all_goals exact ⟨by simp [lowB, *]; try omega, rfl⟩
theorem zdg (c : Int) (w : World) :
  Calls Tryz.prog 183 #[.int .u8 c] w fun e w' => e = .returned (.bool (zax c)) ∧ w' = w := by
 go_enter Tryz.func183, Tryz.ntmps183
 go_wp2
 all_goals go_ret
 all_goals exact ⟨by simp [zax, *]; try omega, rfl⟩
theorem more {x : Int} {j : Nat} {l : List Int} {d : Int} (h : ∀ c, c ∈ l.take j → x ≠ c) (hd : ¬ x = d) {j' : Nat} (hj : j' = j + 1) (hl : l[j]? = some d) : ∀ c, c ∈ l.take j' → x ≠ c := by
 subst hj
 intro c hc
 rw [List.take_add_one, hl] at hc
 simp at hc
 rcases hc with hc | hc
 ·exact h c hc
 ·subst hc; exact hd
def zb0 (t : Tk) : Value := .agg #[.int .u8 t.kind, .string t.text, .int .i64 t.at_]
end
section
open Go.RowKit
theorem zej (c : Int) (w : World) :
  Calls Tryz.prog 170 #[.int .u8 c] w fun e w' => e = .returned (.bool (lowB c)) ∧ w' = w := by
 go_enter Tryz.func170, Tryz.ntmps170
 go_wp2
 all_goals go_ret
 all_goals exact ⟨by simp [lowB, *]; try omega, rfl⟩
theorem zd9 (c : Int) (w : World) :
  Calls Tryz.prog 172 #[.int .u8 c] w fun e w' => e = .returned (.bool (zax c)) ∧ w' = w := by
 go_enter Tryz.func172, Tryz.ntmps172
 go_wp2
 all_goals go_ret
 all_goals exact ⟨by simp [zax, *]; try omega, rfl⟩
theorem zhq (c : Int) (w : World) :
  Calls Tryz.prog 114 #[.int .u8 c] w fun e w' => e = .returned (.bool (zaj c)) ∧ w' = w := by
 go_enter Tryz.func114, Tryz.ntmps114
 go_wp2
 all_goals go_ret
 ·exact ⟨by simp [zaj, *], rfl⟩
 ·exact ⟨by rename_i h; show Ending.returned (Value.bool (c == 32 || c == 10)) = _; congr 2, rfl⟩
theorem zg2 (s : ByteArray) (hs : s.size ≤ maxLen) (w : World) :
  Calls Tryz.prog 113 #[.string s, .func (.func 170) #[] #[]] w fun e w' => e = .returned (.int .i64 (skip lowB s 0)) ∧ w' = w := by
 unfold maxLen at hs
 go_enter Tryz.func113, Tryz.ntmps113
 go_wp2
 go_loop [5] (fun t => ∃ m : Nat, m ≤ s.size ∧ t = .int .i64 m ∧ skip lowB s m = skip lowB s 0) (fun t => s.size - (intOf t).toNat)
 case atStart => exact ⟨0, Nat.zero_le _, rfl, rfl⟩
 case round =>
  obtain ⟨m, hm, rfl, hsm⟩ := hrel
  have HM : Hid (skip lowB s m = skip lowB s 0) := hsm
  clear hsm
  by_cases hml : m < s.size
  ·cases hlow : lowB s[m].toNat with
   | true =>
    have HB' : Hid (skip lowB s (m + 1) = skip lowB s 0) := (zbu lowB s m hml hlow).symm.trans HM.out
    go_wp2_with (go_at_call 170; refine (zej _ _).mono ?_; rintro e w' ⟨rfl, rfl⟩)
    go_round
    case rel => exact ⟨m + 1, by omega, by go_num, HB'.out⟩
    case measure => simp [intOf]; omega
   | false =>
    have HN := hide (HM.out.symm.trans (zbv lowB s m hml hlow))
    go_wp2_with (go_at_call 170; refine (zej _ _).mono ?_; rintro e w' ⟨rfl, rfl⟩)
    go_ret
    exact ⟨by rw [zaa HN]; rfl, rfl⟩
  ·have HN := hide (HM.out.symm.trans (zcl lowB s m hml))
   go_wp2_with (go_at_call 170; refine (zej _ _).mono ?_; rintro e w' ⟨rfl, rfl⟩)
   go_ret
   exact ⟨by rw [zaa HN]; rfl, rfl⟩
theorem zhh (s : ByteArray) (hs : s.size ≤ maxLen) (w : World) :
  Calls Tryz.prog 113 #[.string s, .func (.func 172) #[] #[]] w fun e w' => e = .returned (.int .i64 (skip zax s 0)) ∧ w' = w := by
 unfold maxLen at hs
 go_enter Tryz.func113, Tryz.ntmps113
 go_wp2
 go_loop [5] (fun t => ∃ m : Nat, m ≤ s.size ∧ t = .int .i64 m ∧ skip zax s m = skip zax s 0) (fun t => s.size - (intOf t).toNat)
 case atStart => exact ⟨0, Nat.zero_le _, rfl, rfl⟩
 case round =>
  obtain ⟨m, hm, rfl, hsm⟩ := hrel
  have HM : Hid (skip zax s m = skip zax s 0) := hsm
  clear hsm
  by_cases hml : m < s.size
  ·cases hlow : zax s[m].toNat with
   | true =>
    have HB' : Hid (skip zax s (m + 1) = skip zax s 0) := (zbu zax s m hml hlow).symm.trans HM.out
    go_wp2_with (go_at_call 172; refine (zd9 _ _).mono ?_; rintro e w' ⟨rfl, rfl⟩)
    go_round
    case rel => exact ⟨m + 1, by omega, by go_num, HB'.out⟩
    case measure => simp [intOf]; omega
   | false =>
    have HN := hide (HM.out.symm.trans (zbv zax s m hml hlow))
    go_wp2_with (go_at_call 172; refine (zd9 _ _).mono ?_; rintro e w' ⟨rfl, rfl⟩)
    go_ret
    exact ⟨by rw [zaa HN]; rfl, rfl⟩
  ·have HN := hide (HM.out.symm.trans (zcl zax s m hml))
   go_wp2_with (go_at_call 172; refine (zd9 _ _).mono ?_; rintro e w' ⟨rfl, rfl⟩)
   go_ret
   exact ⟨by rw [zaa HN]; rfl, rfl⟩
theorem zpa (s : ByteArray) (hs : s.size ≤ maxLen) (w : World) :
  Calls Tryz.prog 113 #[.string s, .func (.func 114) #[] #[]] w fun e w' => e = .returned (.int .i64 (skip zaj s 0)) ∧ w' = w := by
 unfold maxLen at hs
 go_enter Tryz.func113, Tryz.ntmps113
 go_wp2
 go_loop [5] (fun t => ∃ m : Nat, m ≤ s.size ∧ t = .int .i64 m ∧ skip zaj s m = skip zaj s 0) (fun t => s.size - (intOf t).toNat)
 case atStart => exact ⟨0, Nat.zero_le _, rfl, rfl⟩
 case round =>
  obtain ⟨m, hm, rfl, hsm⟩ := hrel
  have HM : Hid (skip zaj s m = skip zaj s 0) := hsm
  clear hsm
  by_cases hml : m < s.size
  ·cases hlow : zaj s[m].toNat with
   | true =>
    have HB' : Hid (skip zaj s (m + 1) = skip zaj s 0) := (zbu zaj s m hml hlow).symm.trans HM.out
    go_wp2_with (go_at_call 114; refine (zhq _ _).mono ?_; rintro e w' ⟨rfl, rfl⟩)
    go_round
    case rel => exact ⟨m + 1, by omega, by go_num, HB'.out⟩
    case measure => simp [intOf]; omega
   | false =>
    have HN := hide (HM.out.symm.trans (zbv zaj s m hml hlow))
    go_wp2_with (go_at_call 114; refine (zhq _ _).mono ?_; rintro e w' ⟨rfl, rfl⟩)
    go_ret
    exact ⟨by rw [zaa HN]; rfl, rfl⟩
  ·have HN := hide (HM.out.symm.trans (zcl zaj s m hml))
   go_wp2_with (go_at_call 114; refine (zhq _ _).mono ?_; rintro e w' ⟨rfl, rfl⟩)
   go_ret
   exact ⟨by rw [zaa HN]; rfl, rfl⟩
end
section
theorem zfb (s : ByteArray) (a : Nat) : (s.extract a s.size).size = s.size - a := by
 simp [ByteArray.size_extract]
theorem ext_get (s : ByteArray) (a j : Nat) (h : a + j < s.size) (h' : j < (s.extract a s.size).size) : (s.extract a s.size)[j] = s[a + j] := by
 simp [ByteArray.getElem_extract]
theorem skip_ext (p : Int → Bool) (s : ByteArray) (a : Nat) (ha : a ≤ s.size) : ∀ (d j : Nat), s.size - (a + j) = d → a + j ≤ s.size → a + skip p (s.extract a s.size) j = skip p s (a + j) := by
 intro d
 induction d with
 | zero =>
  intro j hd hj
  rw [zcl p s (a + j) (by omega), zcl p _ j (by rw [zfb s a]; omega)]
 | succ d ih =>
  intro j hd hj
  have h1 : a + j < s.size := by omega
  have h2 : j < (s.extract a s.size).size := by rw [zfb s a]; omega
  cases hp : p s[a + j].toNat with
  | true =>
   rw [zbu p s (a + j) h1 hp, zbu p _ j h2 (by rw [ext_get s a j h1 h2]; exact hp)]
   have := ih (j + 1) (by omega) (by omega)
   rw [this, Nat.add_assoc]
  | false =>
   rw [zbv p s (a + j) h1 hp, zbv p _ j h2 (by rw [ext_get s a j h1 h2]; exact hp)]
theorem zkh (p : Int → Bool) (s : ByteArray) (a : Nat) (ha : a ≤ s.size) : a + skip p (s.extract a s.size) 0 = skip p s a :=
 skip_ext p s a ha _ 0 rfl (by omega)
def zhu (r : ByteArray) : Int × Nat :=
 if 1 ≤ r.size ∧ (r.extract 0 1).toList = [40] then (5, 1)
 else if 1 ≤ r.size ∧ (r.extract 0 1).toList = [41] then (6, 1)
 else if 1 ≤ r.size ∧ (r.extract 0 1).toList = [44] then (7, 1)
 else if 1 ≤ r.size ∧ (r.extract 0 1).toList = [46] then (8, 1)
 else if 2 ≤ r.size ∧ (r.extract 0 2).toList = [58, 45] then (9, 2)
 else (1, 1)
def zjh (r : ByteArray) : Int × Nat := if 8 < skip lowB r 0 then (1, skip lowB r 0) else if (r.extract 0 (skip lowB r 0)).toList = [110, 111, 116] then (4, skip lowB r 0) else (2, skip lowB r 0)
def varK (r : ByteArray) : Int × Nat := if 8 < skip zax r 0 then (1, skip zax r 0) else (3, skip zax r 0)
def zfx (r : ByteArray) : Int × Nat :=
 if h : 0 < r.size then (if lowB r[0].toNat then zjh r else if zax r[0].toNat then varK r else zhu r) else (0, 0)
def zae (s : ByteArray) (i : Nat) : Int × Nat × Nat := ((zfx (s.extract (skip zaj s i) s.size)).1, skip zaj s i, skip zaj s i + (zfx (s.extract (skip zaj s i) s.size)).2)
end
section
open Go.RowKit
def zgj (r p : ByteArray) : Bool := decide (p.size ≤ r.size) && (r.extract 0 p.size).toList == p.toList
theorem zju (r p : ByteArray) (w : World) :
  Calls Tryz.prog 239 #[.string r, .string p] w fun e w' => e = .returned (.bool (zgj r p)) ∧ w' = w := by
 by_cases h : p.size ≤ r.size
 ·go_enter Tryz.func239, Tryz.ntmps239
  go_wp2
  go_ret
  exact ⟨by simp [zgj, h], rfl⟩
 ·go_enter Tryz.func239, Tryz.ntmps239
  go_wp2
  go_ret
  exact ⟨by simp [zgj]; omega, rfl⟩
theorem zbc (r p : ByteArray) (w : World) :
  Calls Tryz.prog 220 #[.string r, .string p] w fun e w' => e = .returned (.bool (zgj r p)) ∧ w' = w := by
 go_enter Tryz.func220, Tryz.ntmps220
 go_wp2_with fail
 refine (zju r p _).mono ?_
 rintro e w1 ⟨rfl, rfl⟩
 go_wp2_with fail
 go_ret
 exact ⟨rfl, rfl⟩
set_option maxRecDepth 100000 in
theorem sign_any (r : ByteArray) (w : World) :
  Calls Tryz.prog 174 #[.string r] w fun e w' => e = .returned (.tuple #[.int .i64 (zhu r).1, .int .i64 (zhu r).2]) ∧ w' = w := by
 have e1 : ∀ c : UInt8, zgj r { data := #[c] } = decide (1 ≤ r.size ∧ (r.extract 0 1).toList = [c]) := fun c => by
  have h1 : (ByteArray.mk #[c]).size = 1 := rfl
  have h2 : (ByteArray.mk #[c]).toList = [c] := by rw [ByteArray.toList_eq]
  rw [Bool.eq_iff_iff]; simp only [zgj, h1, h2, Bool.and_eq_true, decide_eq_true_eq, beq_iff_eq]
 have e2 : zgj r { data := #[58, 45] } = decide (2 ≤ r.size ∧ (r.extract 0 2).toList = [58, 45]) := by
  have h1 : (ByteArray.mk #[58, 45]).size = 2 := rfl
  have h2 : (ByteArray.mk #[58, 45]).toList = [58, 45] := by rw [ByteArray.toList_eq]
  rw [Bool.eq_iff_iff]; simp only [zgj, h1, h2, Bool.and_eq_true, decide_eq_true_eq, beq_iff_eq]
 have hK : zhu r = if zgj r { data := #[40] } then (5, 1) else if zgj r { data := #[41] } then (6, 1) else if zgj r { data := #[44] } then (7, 1) else if zgj r { data := #[46] } then (8, 1) else if zgj r { data := #[58, 45] } then (9, 2) else (1, 1) := by
  rw [e1, e1, e1, e1, e2]; unfold zhu; simp only [decide_eq_true_eq]
 have HK := hide hK
 clear e1 e2 hK
 cases b1 : zgj r { data := #[40] } with
 | true =>
  have HF := hide (show zhu r = (5, 1) by rw [zaa HK, b1]; rfl)
  clear HK
  go_enter Tryz.func174, Tryz.ntmps174
  go_wp2_with fail
  refine (zbc r _ _).mono ?_
  rintro e w1 ⟨rfl, rfl⟩
  go_wp2_with fail
  go_ret2
  exact ⟨by rw [zaa HF]; rfl, rfl⟩
 | false =>
 cases b2 : zgj r { data := #[41] } with
 | true =>
  have HF := hide (show zhu r = (6, 1) by rw [zaa HK, b1, b2]; rfl)
  clear HK
  go_enter Tryz.func174, Tryz.ntmps174
  go_wp2_with fail
  refine (zbc r _ _).mono ?_
  rintro e w1 ⟨rfl, rfl⟩
  go_wp2_with fail
  refine (zbc r _ _).mono ?_
  rintro e w1 ⟨rfl, rfl⟩
  go_wp2_with fail
  go_ret2
  exact ⟨by rw [zaa HF]; rfl, rfl⟩
 | false =>
 cases b3 : zgj r { data := #[44] } with
 | true =>
  have HF := hide (show zhu r = (7, 1) by rw [zaa HK, b1, b2, b3]; rfl)
  clear HK
  go_enter Tryz.func174, Tryz.ntmps174
  go_wp2_with fail
  refine (zbc r _ _).mono ?_
  rintro e w1 ⟨rfl, rfl⟩
  go_wp2_with fail
  refine (zbc r _ _).mono ?_
  rintro e w1 ⟨rfl, rfl⟩
  go_wp2_with fail
  refine (zbc r _ _).mono ?_
  rintro e w1 ⟨rfl, rfl⟩
  go_wp2_with fail
  go_ret2
  exact ⟨by rw [zaa HF]; rfl, rfl⟩
 | false =>
 cases b4 : zgj r { data := #[46] } with
 | true =>
  have HF := hide (show zhu r = (8, 1) by rw [zaa HK, b1, b2, b3, b4]; rfl)
  clear HK
  go_enter Tryz.func174, Tryz.ntmps174
  go_wp2_with fail
  refine (zbc r _ _).mono ?_
  rintro e w1 ⟨rfl, rfl⟩
  go_wp2_with fail
  refine (zbc r _ _).mono ?_
  rintro e w1 ⟨rfl, rfl⟩
  go_wp2_with fail
  refine (zbc r _ _).mono ?_
  rintro e w1 ⟨rfl, rfl⟩
  go_wp2_with fail
  refine (zbc r _ _).mono ?_
  rintro e w1 ⟨rfl, rfl⟩
  go_wp2_with fail
  go_ret2
  exact ⟨by rw [zaa HF]; rfl, rfl⟩
 | false =>
 cases b5 : zgj r { data := #[58, 45] } with
 | true =>
  have HF := hide (show zhu r = (9, 2) by rw [zaa HK, b1, b2, b3, b4, b5]; rfl)
  clear HK
  go_enter Tryz.func174, Tryz.ntmps174
  go_wp2_with fail
  refine (zbc r _ _).mono ?_
  rintro e w1 ⟨rfl, rfl⟩
  go_wp2_with fail
  refine (zbc r _ _).mono ?_
  rintro e w1 ⟨rfl, rfl⟩
  go_wp2_with fail
  refine (zbc r _ _).mono ?_
  rintro e w1 ⟨rfl, rfl⟩
  go_wp2_with fail
  refine (zbc r _ _).mono ?_
  rintro e w1 ⟨rfl, rfl⟩
  go_wp2_with fail
  refine (zbc r _ _).mono ?_
  rintro e w1 ⟨rfl, rfl⟩
  go_wp2_with fail
  go_ret2
  exact ⟨by rw [zaa HF]; rfl, rfl⟩
 | false =>
  have HF := hide (show zhu r = (1, 1) by rw [zaa HK, b1, b2, b3, b4, b5]; rfl)
  clear HK
  go_enter Tryz.func174, Tryz.ntmps174
  go_wp2_with fail
  refine (zbc r _ _).mono ?_
  rintro e w1 ⟨rfl, rfl⟩
  go_wp2_with fail
  refine (zbc r _ _).mono ?_
  rintro e w1 ⟨rfl, rfl⟩
  go_wp2_with fail
  refine (zbc r _ _).mono ?_
  rintro e w1 ⟨rfl, rfl⟩
  go_wp2_with fail
  refine (zbc r _ _).mono ?_
  rintro e w1 ⟨rfl, rfl⟩
  go_wp2_with fail
  refine (zbc r _ _).mono ?_
  rintro e w1 ⟨rfl, rfl⟩
  go_wp2_with fail
  go_ret2
  exact ⟨by rw [zaa HF]; rfl, rfl⟩
theorem name_any (r : ByteArray) (hr : r.size ≤ maxLen) (w : World) :
  Calls Tryz.prog 171 #[.string r] w fun e w' => e = .returned (.tuple #[.int .i64 (zjh r).1, .int .i64 (zjh r).2]) ∧ w' = w := by
 have hle := ze3 lowB r 0 (Nat.zero_le _)
 have hr' := hr
 unfold maxLen at hr'
 by_cases h8 : 8 < skip lowB r 0
 ·have HF := hide (show zjh r = (1, skip lowB r 0) by unfold zjh; rw [if_pos h8])
  go_enter Tryz.func171, Tryz.ntmps171
  go_wp2_with fail
  refine (zg2 r hr _).mono ?_
  rintro e w1 ⟨rfl, rfl⟩
  go_wp2_with fail
  go_ret2
  exact ⟨by rw [zaa HF]; rfl, rfl⟩
 ·cases hn : (r.extract 0 (skip lowB r 0)).toList == [110, 111, 116] with
  | true =>
   have HF := hide (show zjh r = (4, skip lowB r 0) by unfold zjh; rw [if_neg h8, if_pos (eq_of_beq hn)])
   go_enter Tryz.func171, Tryz.ntmps171
   go_wp2_with fail
   refine (zg2 r hr _).mono ?_
   rintro e w1 ⟨rfl, rfl⟩
   go_wp2_with fail
   go_ret2
   exact ⟨by rw [zaa HF]; rfl, rfl⟩
  | false =>
   have HF := hide (show zjh r = (2, skip lowB r 0) by unfold zjh; rw [if_neg h8, if_neg (by intro e; rw [e] at hn; simp at hn)])
   go_enter Tryz.func171, Tryz.ntmps171
   go_wp2_with fail
   refine (zg2 r hr _).mono ?_
   rintro e w1 ⟨rfl, rfl⟩
   go_wp2_with fail
   go_ret2
   exact ⟨by rw [zaa HF]; rfl, rfl⟩
theorem zpy (r : ByteArray) (hr : r.size ≤ maxLen) (w : World) :
  Calls Tryz.prog 173 #[.string r] w fun e w' => e = .returned (.tuple #[.int .i64 (varK r).1, .int .i64 (varK r).2]) ∧ w' = w := by
 by_cases h8 : 8 < skip zax r 0
 ·have HF := hide (show varK r = (1, skip zax r 0) by unfold varK; rw [if_pos h8])
  go_enter Tryz.func173, Tryz.ntmps173
  go_wp2_with fail
  refine (zhh r hr _).mono ?_
  rintro e w1 ⟨rfl, rfl⟩
  go_wp2_with fail
  go_ret2
  exact ⟨by rw [zaa HF]; rfl, rfl⟩
 ·have HF := hide (show varK r = (3, skip zax r 0) by unfold varK; rw [if_neg h8])
  go_enter Tryz.func173, Tryz.ntmps173
  go_wp2_with fail
  refine (zhh r hr _).mono ?_
  rintro e w1 ⟨rfl, rfl⟩
  go_wp2_with fail
  go_ret2
  exact ⟨by rw [zaa HF]; rfl, rfl⟩
theorem measure_any (r : ByteArray) (hr : r.size ≤ maxLen) (w : World) :
  Calls Tryz.prog 115 #[.string r] w fun e w' => e = .returned (.tuple #[.int .i64 (zfx r).1, .int .i64 (zfx r).2]) ∧ w' = w := by
 by_cases h0 : 0 < r.size
 ·have he : r.toList.isEmpty = false := by
   rw [ByteArray.toList_eq, List.isEmpty_eq_false_iff]
   intro e
   have : r.data.toList.length = 0 := by rw [e]; rfl
   rw [Array.length_toList] at this
   have h2 : r.data.size = r.size := rfl
   omega
  cases hl : lowB r[0].toNat with
  | true =>
   have HF := hide (show zfx r = zjh r by unfold zfx; rw [dif_pos h0, if_pos hl])
   go_enter Tryz.func115, Tryz.ntmps115
   go_wp2_with fail
   refine (zej _ _).mono ?_
   rintro e w1 ⟨rfl, rfl⟩
   go_wp2_with fail
   refine (name_any r hr _).mono ?_
   rintro e w1 ⟨rfl, rfl⟩
   go_wp2_with fail
   go_ret2
   exact ⟨by rw [zaa HF]; rfl, rfl⟩
  | false =>
   cases hh : zax r[0].toNat with
   | true =>
    have HF := hide (show zfx r = varK r by unfold zfx; rw [dif_pos h0, if_neg (by rw [hl]; decide), if_pos hh])
    go_enter Tryz.func115, Tryz.ntmps115
    go_wp2_with fail
    refine (zej _ _).mono ?_
    rintro e w1 ⟨rfl, rfl⟩
    go_wp2_with fail
    refine (zd9 _ _).mono ?_
    rintro e w1 ⟨rfl, rfl⟩
    go_wp2_with fail
    refine (zpy r hr _).mono ?_
    rintro e w1 ⟨rfl, rfl⟩
    go_wp2_with fail
    go_ret2
    exact ⟨by rw [zaa HF]; rfl, rfl⟩
   | false =>
    have HF := hide (show zfx r = zhu r by unfold zfx; rw [dif_pos h0, if_neg (by rw [hl]; decide), if_neg (by rw [hh]; decide)])
    go_enter Tryz.func115, Tryz.ntmps115
    go_wp2_with fail
    refine (zej _ _).mono ?_
    rintro e w1 ⟨rfl, rfl⟩
    go_wp2_with fail
    refine (zd9 _ _).mono ?_
    rintro e w1 ⟨rfl, rfl⟩
    go_wp2_with fail
    refine (sign_any r _).mono ?_
    rintro e w1 ⟨rfl, rfl⟩
    go_wp2_with fail
    go_ret2
    exact ⟨by rw [zaa HF]; rfl, rfl⟩
 ·have he : r.toList.isEmpty = true := by
   rw [ByteArray.toList_eq, List.isEmpty_iff]
   apply List.eq_nil_of_length_eq_zero
   rw [Array.length_toList]
   have h2 : r.data.size = r.size := rfl
   omega
  have HF := hide (show zfx r = (0, 0) by unfold zfx; rw [dif_neg h0])
  go_enter Tryz.func115, Tryz.ntmps115
  go_wp2_with fail
  go_ret2
  exact ⟨by rw [zaa HF]; rfl, rfl⟩
def scVal (k : Int × Nat × Nat) : Value := .agg #[.int .i64 k.1, .int .i64 k.2.1, .int .i64 k.2.2]
theorem measK_le (r : ByteArray) : (zfx r).2 ≤ r.size := by
 unfold zfx
 split
 ·rename_i h
  have h1 := ze3 lowB r 0 (Nat.zero_le _)
  have h2 := ze3 zax r 0 (Nat.zero_le _)
  split
  ·unfold zjh; split; exact h1; split <;> exact h1
  ·split
   ·unfold varK; split <;> exact h2
   ·unfold zhu
    split; exact h
    split; exact h
    split; exact h
    split; exact h
    split
    ·rename_i h5; exact h5.1
    ·exact h
 ·simp
set_option maxRecDepth 100000 in
theorem scan_any (s : ByteArray) (i : Nat) (hi : i ≤ s.size) (hs : s.size ≤ maxLen) (w : World) :
  Calls Tryz.prog 73 #[.string s, .int .i64 i] w fun e w' => e = .returned (scVal (zae s i)) ∧ Below w.heap.size w w' := by
 have hb := zkh zaj s i hi
 have hbl := ze3 zaj s i hi
 have hs' := hs
 unfold maxLen at hs'
 have hx1 : (s.extract i s.size).size ≤ maxLen := by rw [zfb s i]; omega
 have HX1 := hide hx1
 have hrow := zpa (s.extract i s.size) hx1
 generalize skip zaj (s.extract i s.size) 0 = n0 at *
 have hsc : zae s i = ((zfx (s.extract (i + n0) s.size)).1, i + n0, i + n0 + (zfx (s.extract (i + n0) s.size)).2) := by unfold zae; rw [← hb]
 have hml := measK_le (s.extract (i + n0) s.size)
 rw [zfb s _] at hml
 have hle : i + n0 ≤ s.size := by omega
 have hleI : (i : Int) + n0 ≤ s.size := by omega
 have hx2 : (s.extract (i + n0) s.size).size ≤ maxLen := by rw [zfb s _]; omega
 have hms := measure_any (s.extract (i + n0) s.size) hx2
 have HSC := hide hsc
 have HR := hide hrow
 have HMS := hide hms
 clear hb hx1 hx2 HX1 hrow hsc hms hbl
 go_enter Tryz.func73, Tryz.ntmps73
 go_wp2_with fail
 refine (zaa HR _).mono ?_
 rintro e w1 ⟨rfl, rfl⟩
 clear HR
 go_wp2_with fail
 have et : ((i : Int) + n0).toNat = i + n0 := by omega
 try rw [et]
 refine (zaa HMS _).mono ?_
 rintro e w1 ⟨rfl, rfl⟩
 clear HMS
 generalize zfx (s.extract (i + n0) s.size) = K at *
 go_wp2_with fail
 refine bodyPost_ret (v := scVal (zae s i)) (by rw [zaa HSC]; simp [results, Tryz.results73, go_sem, scVal]) rfl ⟨rfl, (Below.refl _ _).alloc (Nat.le_refl _) _⟩
end
section
open Go.RowKit
set_option maxRecDepth 100000 in
theorem cut_low (s : ByteArray) (i : Nat) (hi : i ≤ s.size) (hs : s.size ≤ maxLen) (w : World) (K : skip zaj s i < s.size → skip zaj s i < skip lowB s (skip zaj s i)) :
  Calls Tryz.prog 123 #[.string s, .int .i64 i] w fun e w' => e = .returned (.tuple #[zb0 (tok s i), .int .i64 (tok s i).to]) ∧ Below w.heap.size w w' := by
 unfold maxLen at hs
 go_enter Tryz.func123, Tryz.ntmps123
 go_wp2
 go_loop [1] (fun t => ∃ k : Nat, i ≤ k ∧ k ≤ s.size ∧ t = .int .i64 k ∧ skip zaj s k = skip zaj s i) (fun t => s.size - (intOf t).toNat)
 case atStart => exact ⟨i, Nat.le_refl _, hi, rfl, rfl⟩
 case round =>
  obtain ⟨k, hik, hk, rfl, hsk⟩ := hrel
  have HS : Hid (skip zaj s k = skip zaj s i) := hsk
  clear hsk
  by_cases hlt : k < s.size
  ·by_cases hb : zaj s[k].toNat = true
   ·have HB : Hid (skip zaj s (k + 1) = skip zaj s i) := (zbu zaj s k hlt hb).symm.trans HS.out
    have hc : (s[k].toNat : Int) = 32 ∨ (s[k].toNat : Int) = 10 := by simpa [zaj] using hb
    clear hb HS
    rcases hc with hc | hc
    all_goals
     go_wp2
     go_round
     case rel => exact ⟨k + 1, by omega, by omega, by go_num, HB.out⟩
     case measure => simp [intOf]; omega
   ·have hb' : zaj s[k].toNat = false := by simpa using hb
    have HB : Hid (skip zaj s i = k) := HS.out.symm.trans (zbv zaj s k hlt hb')
    have hc1 : ((s[k].toNat : Int) == 32) = false := by simp [zaj] at hb'; simp [hb'.1]
    have hc2 : ((s[k].toNat : Int) == 10) = false := by simp [zaj] at hb'; simp [hb'.2]
    clear hb hb' HS
    have K' : k < skip lowB s k := by have := K (by rw [HB.out]; exact hlt); rwa [HB.out] at this
    clear K
    go_wp2
    go_loop [6] (fun t => ∃ m : Nat, k ≤ m ∧ m ≤ s.size ∧ t = .int .i64 m ∧ skip lowB s m = skip lowB s k) (fun t => s.size - (intOf t).toNat)
    case atStart => exact ⟨k, Nat.le_refl _, hk, rfl, rfl⟩
    case round =>
     obtain ⟨m, hkm, hm, rfl, hsm⟩ := hrel
     have HM : Hid (skip lowB s m = skip lowB s k) := hsm
     clear hsm
     by_cases hgo : ∃ h : m < s.size, lowB s[m].toNat = true
     ·obtain ⟨hml, hlow⟩ := hgo
      have HB' : Hid (skip lowB s (m + 1) = skip lowB s k) := (zbu lowB s m hml hlow).symm.trans HM.out
      go_wp2_with (go_at_call 182; refine (zd4 _ _).mono ?_; rintro e w' ⟨rfl, rfl⟩)
      go_round
      case rel => exact ⟨m + 1, by omega, by omega, by go_num, HB'.out⟩
      case measure => simp [intOf]; omega
     ·have HM' : Hid (skip lowB s k = m) := by
       refine HM.out.symm.trans ?_
       by_cases hml : m < s.size
       ·exact zbv _ _ _ hml (by cases h : lowB s[m].toNat; rfl; exact absurd ⟨hml, h⟩ hgo)
       ·exact zcl _ _ _ hml
      have hkm' : k < m := by rw [← HM'.out]; exact K'
      clear K'
      by_cases hml : m < s.size
      ·have hlow : lowB s[m].toNat = false := by cases h : lowB s[m].toNat; rfl; exact absurd ⟨hml, h⟩ hgo
       clear hgo
       go_wp2_with (go_at_call 182; refine (zd4 _ _).mono ?_; rintro e w' ⟨rfl, rfl⟩)
       all_goals
        first
         | have HT := tok_not HB.out hlt HM'.out hkm' ‹_›
         | have HT := tok_name HB.out hlt HM'.out hkm' ‹_› ‹_›
         | have HT := tok_long HB.out hlt HM'.out hkm' ‹_› ‹_›
        exact bodyPost_ret (v := .tuple #[zb0 (tok s i), .int .i64 (tok s i).to]) (by rw [HT]; simp [results, Tryz.results123, go_sem, zb0]) rfl ⟨rfl, by first | exact (Below.refl _ _).alloc (Nat.le_refl _) _ | exact below_drewN ((Below.refl _ _).alloc (Nat.le_refl _) _) _⟩
      ·clear hgo
       go_wp2_with (go_at_call 182; refine (zd4 _ _).mono ?_; rintro e w' ⟨rfl, rfl⟩)
       all_goals
        first
         | have HT := tok_not HB.out hlt HM'.out hkm' ‹_›
         | have HT := tok_name HB.out hlt HM'.out hkm' ‹_› ‹_›
         | have HT := tok_long HB.out hlt HM'.out hkm' ‹_› ‹_›
        exact bodyPost_ret (v := .tuple #[zb0 (tok s i), .int .i64 (tok s i).to]) (by rw [HT]; simp [results, Tryz.results123, go_sem, zb0]) rfl ⟨rfl, by first | exact (Below.refl _ _).alloc (Nat.le_refl _) _ | exact below_drewN ((Below.refl _ _).alloc (Nat.le_refl _) _) _⟩
  ·have HB : Hid (skip zaj s i = k) := HS.out.symm.trans (zcl zaj s k hlt)
   clear HS
   go_wp2
   have HT := tok_end HB.out (by omega)
   exact bodyPost_ret (v := .tuple #[zb0 (tok s i), .int .i64 (tok s i).to]) (by rw [HT]; simp [results, Tryz.results123, go_sem, zb0]) rfl ⟨rfl, by first | exact (Below.refl _ _).alloc (Nat.le_refl _) _ | exact below_drewN ((Below.refl _ _).alloc (Nat.le_refl _) _) _⟩
end
section
open Go.RowKit
set_option maxRecDepth 100000 in
theorem cut_high (s : ByteArray) (i : Nat) (hi : i ≤ s.size) (hs : s.size ≤ maxLen) (w : World) (K0 : skip zaj s i < s.size) (K1 : skip lowB s (skip zaj s i) = skip zaj s i) (K2 : skip zaj s i < skip zax s (skip zaj s i)) :
  Calls Tryz.prog 123 #[.string s, .int .i64 i] w fun e w' => e = .returned (.tuple #[zb0 (tok s i), .int .i64 (tok s i).to]) ∧ Below w.heap.size w w' := by
 unfold maxLen at hs
 go_enter Tryz.func123, Tryz.ntmps123
 go_wp2
 go_loop [1] (fun t => ∃ k : Nat, i ≤ k ∧ k ≤ s.size ∧ t = .int .i64 k ∧ skip zaj s k = skip zaj s i) (fun t => s.size - (intOf t).toNat)
 case atStart => exact ⟨i, Nat.le_refl _, hi, rfl, rfl⟩
 case round =>
  obtain ⟨k, hik, hk, rfl, hsk⟩ := hrel
  have HS : Hid (skip zaj s k = skip zaj s i) := hsk
  clear hsk
  by_cases hlt : k < s.size
  ·by_cases hb : zaj s[k].toNat = true
   ·have HB : Hid (skip zaj s (k + 1) = skip zaj s i) := (zbu zaj s k hlt hb).symm.trans HS.out
    have hc : (s[k].toNat : Int) = 32 ∨ (s[k].toNat : Int) = 10 := by simpa [zaj] using hb
    clear hb HS
    rcases hc with hc | hc
    all_goals
     go_wp2
     go_round
     case rel => exact ⟨k + 1, by omega, by omega, by go_num, HB.out⟩
     case measure => simp [intOf]; omega
   ·have hb' : zaj s[k].toNat = false := by simpa using hb
    have HB : Hid (skip zaj s i = k) := HS.out.symm.trans (zbv zaj s k hlt hb')
    have hc1 : ((s[k].toNat : Int) == 32) = false := by simp [zaj] at hb'; simp [hb'.1]
    have hc2 : ((s[k].toNat : Int) == 10) = false := by simp [zaj] at hb'; simp [hb'.2]
    clear hb hb' HS
    have K1' : skip lowB s k = k := by have := K1; rwa [HB.out] at this
    have K' := hide K1'
    clear K1 K1'
    have K2' : k < skip zax s k := by rwa [HB.out] at K2
    clear K2 K0
    go_wp2
    go_loop [6] (fun t => ∃ m : Nat, k ≤ m ∧ m ≤ s.size ∧ t = .int .i64 m ∧ skip lowB s m = skip lowB s k) (fun t => s.size - (intOf t).toNat)
    case atStart => exact ⟨k, Nat.le_refl _, hk, rfl, rfl⟩
    case round =>
     obtain ⟨m, hkm, hm, rfl, hsm⟩ := hrel
     have HM : Hid (skip lowB s m = skip lowB s k) := hsm
     clear hsm
     by_cases hgo : ∃ h : m < s.size, lowB s[m].toNat = true
     ·obtain ⟨hml, hlow⟩ := hgo
      have HB' : Hid (skip lowB s (m + 1) = skip lowB s k) := (zbu lowB s m hml hlow).symm.trans HM.out
      go_wp2_with (go_at_call 182; refine (zd4 _ _).mono ?_; rintro e w' ⟨rfl, rfl⟩)
      go_round
      case rel => exact ⟨m + 1, by omega, by omega, by go_num, HB'.out⟩
      case measure => simp [intOf]; omega
     ·have HM' : Hid (skip lowB s k = m) := by
       refine HM.out.symm.trans ?_
       by_cases hml : m < s.size
       ·exact zbv _ _ _ hml (by cases h : lowB s[m].toNat; rfl; exact absurd ⟨hml, h⟩ hgo)
       ·exact zcl _ _ _ hml
      have hkm2 : k = m := by rw [← HM'.out]; exact (zaa K').symm
      subst hkm2
      have hlow : lowB s[k].toNat = false := by cases h : lowB s[k].toNat; rfl; exact absurd ⟨hlt, h⟩ hgo
      clear hgo HM hkm hm K'
      go_wp2_with (go_at_call 182; refine (zd4 _ _).mono ?_; rintro e w' ⟨rfl, rfl⟩)
      go_loop [6] (fun t => ∃ m : Nat, k ≤ m ∧ m ≤ s.size ∧ t = .int .i64 m ∧ skip zax s m = skip zax s k) (fun t => s.size - (intOf t).toNat)
      case atStart => exact ⟨k, Nat.le_refl _, hk, rfl, rfl⟩
      case round =>
       obtain ⟨m, hkm, hm, rfl, hsm⟩ := hrel
       have HN : Hid (skip zax s m = skip zax s k) := hsm
       clear hsm
       by_cases hgo : ∃ h : m < s.size, zax s[m].toNat = true
       ·obtain ⟨hml, hhi⟩ := hgo
        have HB' : Hid (skip zax s (m + 1) = skip zax s k) := (zbu zax s m hml hhi).symm.trans HN.out
        go_wp2_with (go_at_call 183; refine (zdg _ _).mono ?_; rintro e w' ⟨rfl, rfl⟩)
        go_round
        case rel => exact ⟨m + 1, by omega, by omega, by go_num, HB'.out⟩
        case measure => simp [intOf]; omega
       ·have HN' : Hid (skip zax s k = m) := by
         refine HN.out.symm.trans ?_
         by_cases hml : m < s.size
         ·exact zbv _ _ _ hml (by cases h : zax s[m].toNat; rfl; exact absurd ⟨hml, h⟩ hgo)
         ·exact zcl _ _ _ hml
        have hkm' : k < m := by rw [← HN'.out]; exact K2'
        clear K2'
        by_cases hml : m < s.size
        ·have hhi : zax s[m].toNat = false := by cases h : zax s[m].toNat; rfl; exact absurd ⟨hml, h⟩ hgo
         clear hgo
         go_wp2_with (go_at_call 183; refine (zdg _ _).mono ?_; rintro e w' ⟨rfl, rfl⟩)
         all_goals
          first
           | have HT := tok_var HB.out hlt HM'.out HN'.out hkm' ‹_›
           | have HT := zj8 HB.out hlt HM'.out HN'.out hkm' ‹_›
          exact bodyPost_ret (v := .tuple #[zb0 (tok s i), .int .i64 (tok s i).to]) (by rw [HT]; simp [results, Tryz.results123, go_sem, zb0]) rfl ⟨rfl, by first | exact (Below.refl _ _).alloc (Nat.le_refl _) _ | exact below_drewN ((Below.refl _ _).alloc (Nat.le_refl _) _) _⟩
        ·clear hgo
         go_wp2_with (go_at_call 183; refine (zdg _ _).mono ?_; rintro e w' ⟨rfl, rfl⟩)
         all_goals
          first
           | have HT := tok_var HB.out hlt HM'.out HN'.out hkm' ‹_›
           | have HT := zj8 HB.out hlt HM'.out HN'.out hkm' ‹_›
          exact bodyPost_ret (v := .tuple #[zb0 (tok s i), .int .i64 (tok s i).to]) (by rw [HT]; simp [results, Tryz.results123, go_sem, zb0]) rfl ⟨rfl, by first | exact (Below.refl _ _).alloc (Nat.le_refl _) _ | exact below_drewN ((Below.refl _ _).alloc (Nat.le_refl _) _) _⟩
  ·exact absurd (by have h := HS.out.symm.trans (zcl zaj s k hlt); rw [h] at K0; exact K0) hlt
end
end Go.Proofs.YtldkpahaocjdpaaGreat
