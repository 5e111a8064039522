/-
  The program's scan and what it calls (package read): HasPrefix, signAt, nameAt, variableAt, measure, scan: the plain text's tokens (ReadScanS).
  The reference's cut, where a row of small letters or the end comes next: what it answers is the token of the plain text (Spec), and no old memory has turned.
  The reference's cut, where a row of capitals comes next: what it answers is the token of the plain text (Spec), and no old memory has turned.
  The reference's cut, where no letter comes next: what it answers is the token of the plain text (Spec), and no old memory has turned.
-/
import Derived.Test.YtldkpahaocjdpaaGreatQueriesT03
set_option maxHeartbeats 16000000
namespace Go.Proofs.YtldkpahaocjdpaaGreat
section
open Go.RowKit
def zgi (r p : ByteArray) : Bool := decide (p.size ≤ r.size) && (r.extract 0 p.size).toList == p.toList
theorem zjw (r p : ByteArray) (w : World) :
  Calls Tryz.prog 239 #[.string r, .string p] w fun e w' => e = .returned (.bool (zgi r p)) ∧ w' = w := by
 by_cases h : p.size ≤ r.size
 ·go_enter Tryz.func239, Tryz.ntmps239
  go_wp2
  go_ret
  exact ⟨by simp [zgi, h], rfl⟩
 ·go_enter Tryz.func239, Tryz.ntmps239
  go_wp2
  go_ret
  exact ⟨by simp [zgi]; omega, rfl⟩
theorem zbc (r p : ByteArray) (w : World) :
  Calls Tryz.prog 220 #[.string r, .string p] w fun e w' => e = .returned (.bool (zgi r p)) ∧ w' = w := by
 go_enter Tryz.func220, Tryz.ntmps220
 go_wp2_with fail
 refine (zjw r p _).mono ?_
 rintro e w1 ⟨rfl, rfl⟩
 go_wp2_with fail
 go_ret
 exact ⟨rfl, rfl⟩
set_option maxRecDepth 100000 in
theorem sign_any (r : ByteArray) (w : World) :
  Calls Tryz.prog 174 #[.string r] w fun e w' => e = .returned (.tuple #[.int .i64 (zhw r).1, .int .i64 (zhw r).2]) ∧ w' = w := by
 have e1 : ∀ c : UInt8, zgi r { data := #[c] } = decide (1 ≤ r.size ∧ (r.extract 0 1).toList = [c]) := fun c => by
  have h1 : (ByteArray.mk #[c]).size = 1 := rfl
  have h2 : (ByteArray.mk #[c]).toList = [c] := by rw [ByteArray.toList_eq]
  rw [Bool.eq_iff_iff]; simp only [zgi, h1, h2, Bool.and_eq_true, decide_eq_true_eq, beq_iff_eq]
 have e2 : zgi r { data := #[58, 45] } = decide (2 ≤ r.size ∧ (r.extract 0 2).toList = [58, 45]) := by
  have h1 : (ByteArray.mk #[58, 45]).size = 2 := rfl
  have h2 : (ByteArray.mk #[58, 45]).toList = [58, 45] := by rw [ByteArray.toList_eq]
  rw [Bool.eq_iff_iff]; simp only [zgi, h1, h2, Bool.and_eq_true, decide_eq_true_eq, beq_iff_eq]
 have hK : zhw r = if zgi r { data := #[40] } then (5, 1) else if zgi r { data := #[41] } then (6, 1) else if zgi r { data := #[44] } then (7, 1) else if zgi r { data := #[46] } then (8, 1) else if zgi r { data := #[58, 45] } then (9, 2) else (1, 1) := by
  rw [e1, e1, e1, e1, e2]; unfold zhw; simp only [decide_eq_true_eq]
 have HK := hide hK
 clear e1 e2 hK
 cases b1 : zgi r { data := #[40] } with
 | true =>
  have HF := hide (show zhw r = (5, 1) by rw [zaa HK, b1]; rfl)
  clear HK
  go_enter Tryz.func174, Tryz.ntmps174
  go_wp2_with fail
  refine (zbc r _ _).mono ?_
  rintro e w1 ⟨rfl, rfl⟩
  go_wp2_with fail
  go_ret2
  exact ⟨by rw [zaa HF]; rfl, rfl⟩
 | false =>
 cases b2 : zgi r { data := #[41] } with
 | true =>
  have HF := hide (show zhw r = (6, 1) by rw [zaa HK, b1, b2]; rfl)
  clear HK
  go_enter Tryz.func174, Tryz.ntmps174
  go_wp2_with fail
  refine (zbc r _ _).mono ?_
  rintro e w1 ⟨rfl, rfl⟩
  go_wp2_with fail
  refine (zbc r _ _).mono ?_
  rintro e w1 ⟨rfl, rfl⟩
  go_wp2_with fail
  go_ret2
  exact ⟨by rw [zaa HF]; rfl, rfl⟩
 | false =>
 cases b3 : zgi r { data := #[44] } with
 | true =>
  have HF := hide (show zhw r = (7, 1) by rw [zaa HK, b1, b2, b3]; rfl)
  clear HK
  go_enter Tryz.func174, Tryz.ntmps174
  go_wp2_with fail
  refine (zbc r _ _).mono ?_
  rintro e w1 ⟨rfl, rfl⟩
  go_wp2_with fail
  refine (zbc r _ _).mono ?_
  rintro e w1 ⟨rfl, rfl⟩
  go_wp2_with fail
  refine (zbc r _ _).mono ?_
  rintro e w1 ⟨rfl, rfl⟩
  go_wp2_with fail
  go_ret2
  exact ⟨by rw [zaa HF]; rfl, rfl⟩
 | false =>
 cases b4 : zgi r { data := #[46] } with
 | true =>
  have HF := hide (show zhw r = (8, 1) by rw [zaa HK, b1, b2, b3, b4]; rfl)
  clear HK
  go_enter Tryz.func174, Tryz.ntmps174
  go_wp2_with fail
  refine (zbc r _ _).mono ?_
  rintro e w1 ⟨rfl, rfl⟩
  go_wp2_with fail
  refine (zbc r _ _).mono ?_
  rintro e w1 ⟨rfl, rfl⟩
  go_wp2_with fail
  refine (zbc r _ _).mono ?_
  rintro e w1 ⟨rfl, rfl⟩
  go_wp2_with fail
  refine (zbc r _ _).mono ?_
  rintro e w1 ⟨rfl, rfl⟩
  go_wp2_with fail
  go_ret2
  exact ⟨by rw [zaa HF]; rfl, rfl⟩
 | false =>
 cases b5 : zgi r { data := #[58, 45] } with
 | true =>
  have HF := hide (show zhw r = (9, 2) by rw [zaa HK, b1, b2, b3, b4, b5]; rfl)
  clear HK
  go_enter Tryz.func174, Tryz.ntmps174
  go_wp2_with fail
  refine (zbc r _ _).mono ?_
  rintro e w1 ⟨rfl, rfl⟩
  go_wp2_with fail
  refine (zbc r _ _).mono ?_
  rintro e w1 ⟨rfl, rfl⟩
  go_wp2_with fail
  refine (zbc r _ _).mono ?_
  rintro e w1 ⟨rfl, rfl⟩
  go_wp2_with fail
  refine (zbc r _ _).mono ?_
  rintro e w1 ⟨rfl, rfl⟩
  go_wp2_with fail
  refine (zbc r _ _).mono ?_
  rintro e w1 ⟨rfl, rfl⟩
  go_wp2_with fail
  go_ret2
  exact ⟨by rw [zaa HF]; rfl, rfl⟩
 | false =>
  have HF := hide (show zhw r = (1, 1) by rw [zaa HK, b1, b2, b3, b4, b5]; rfl)
  clear HK
  go_enter Tryz.func174, Tryz.ntmps174
  go_wp2_with fail
  refine (zbc r _ _).mono ?_
  rintro e w1 ⟨rfl, rfl⟩
  go_wp2_with fail
  refine (zbc r _ _).mono ?_
  rintro e w1 ⟨rfl, rfl⟩
  go_wp2_with fail
  refine (zbc r _ _).mono ?_
  rintro e w1 ⟨rfl, rfl⟩
  go_wp2_with fail
  refine (zbc r _ _).mono ?_
  rintro e w1 ⟨rfl, rfl⟩
  go_wp2_with fail
  refine (zbc r _ _).mono ?_
  rintro e w1 ⟨rfl, rfl⟩
  go_wp2_with fail
  go_ret2
  exact ⟨by rw [zaa HF]; rfl, rfl⟩
theorem name_any (r : ByteArray) (hr : r.size ≤ maxLen) (w : World) :
  Calls Tryz.prog 171 #[.string r] w fun e w' => e = .returned (.tuple #[.int .i64 (zjj r).1, .int .i64 (zjj r).2]) ∧ w' = w := by
 have hle := ze3 lowB r 0 (Nat.zero_le _)
 have hr' := hr
 unfold maxLen at hr'
 by_cases h8 : 8 < skip lowB r 0
 ·have HF := hide (show zjj r = (1, skip lowB r 0) by unfold zjj; rw [if_pos h8])
  go_enter Tryz.func171, Tryz.ntmps171
  go_wp2_with fail
  refine (zgk r hr _).mono ?_
  rintro e w1 ⟨rfl, rfl⟩
  go_wp2_with fail
  go_ret2
  exact ⟨by rw [zaa HF]; rfl, rfl⟩
 ·cases hn : (r.extract 0 (skip lowB r 0)).toList == [110, 111, 116] with
  | true =>
   have HF := hide (show zjj r = (4, skip lowB r 0) by unfold zjj; rw [if_neg h8, if_pos (eq_of_beq hn)])
   go_enter Tryz.func171, Tryz.ntmps171
   go_wp2_with fail
   refine (zgk r hr _).mono ?_
   rintro e w1 ⟨rfl, rfl⟩
   go_wp2_with fail
   go_ret2
   exact ⟨by rw [zaa HF]; rfl, rfl⟩
  | false =>
   have HF := hide (show zjj r = (2, skip lowB r 0) by unfold zjj; rw [if_neg h8, if_neg (by intro e; rw [e] at hn; simp at hn)])
   go_enter Tryz.func171, Tryz.ntmps171
   go_wp2_with fail
   refine (zgk r hr _).mono ?_
   rintro e w1 ⟨rfl, rfl⟩
   go_wp2_with fail
   go_ret2
   exact ⟨by rw [zaa HF]; rfl, rfl⟩
theorem zp3 (r : ByteArray) (hr : r.size ≤ maxLen) (w : World) :
  Calls Tryz.prog 173 #[.string r] w fun e w' => e = .returned (.tuple #[.int .i64 (varK r).1, .int .i64 (varK r).2]) ∧ w' = w := by
 by_cases h8 : 8 < skip zax r 0
 ·have HF := hide (show varK r = (1, skip zax r 0) by unfold varK; rw [if_pos h8])
  go_enter Tryz.func173, Tryz.ntmps173
  go_wp2_with fail
  refine (zhe r hr _).mono ?_
  rintro e w1 ⟨rfl, rfl⟩
  go_wp2_with fail
  go_ret2
  exact ⟨by rw [zaa HF]; rfl, rfl⟩
 ·have HF := hide (show varK r = (3, skip zax r 0) by unfold varK; rw [if_neg h8])
  go_enter Tryz.func173, Tryz.ntmps173
  go_wp2_with fail
  refine (zhe r hr _).mono ?_
  rintro e w1 ⟨rfl, rfl⟩
  go_wp2_with fail
  go_ret2
  exact ⟨by rw [zaa HF]; rfl, rfl⟩
theorem zqq (r : ByteArray) (hr : r.size ≤ maxLen) (w : World) :
  Calls Tryz.prog 115 #[.string r] w fun e w' => e = .returned (.tuple #[.int .i64 (zfw r).1, .int .i64 (zfw r).2]) ∧ w' = w := by
 by_cases h0 : 0 < r.size
 ·have he : r.toList.isEmpty = false := by
   rw [ByteArray.toList_eq, List.isEmpty_eq_false_iff]
   intro e
   have : r.data.toList.length = 0 := by rw [e]; rfl
   rw [Array.length_toList] at this
   have h2 : r.data.size = r.size := rfl
   omega
  cases hl : lowB r[0].toNat with
  | true =>
   have HF := hide (show zfw r = zjj r by unfold zfw; rw [dif_pos h0, if_pos hl])
   go_enter Tryz.func115, Tryz.ntmps115
   go_wp2_with fail
   refine (zef _ _).mono ?_
   rintro e w1 ⟨rfl, rfl⟩
   go_wp2_with fail
   refine (name_any r hr _).mono ?_
   rintro e w1 ⟨rfl, rfl⟩
   go_wp2_with fail
   go_ret2
   exact ⟨by rw [zaa HF]; rfl, rfl⟩
  | false =>
   cases hh : zax r[0].toNat with
   | true =>
    have HF := hide (show zfw r = varK r by unfold zfw; rw [dif_pos h0, if_neg (by rw [hl]; decide), if_pos hh])
    go_enter Tryz.func115, Tryz.ntmps115
    go_wp2_with fail
    refine (zef _ _).mono ?_
    rintro e w1 ⟨rfl, rfl⟩
    go_wp2_with fail
    refine (zd7 _ _).mono ?_
    rintro e w1 ⟨rfl, rfl⟩
    go_wp2_with fail
    refine (zp3 r hr _).mono ?_
    rintro e w1 ⟨rfl, rfl⟩
    go_wp2_with fail
    go_ret2
    exact ⟨by rw [zaa HF]; rfl, rfl⟩
   | false =>
    have HF := hide (show zfw r = zhw r by unfold zfw; rw [dif_pos h0, if_neg (by rw [hl]; decide), if_neg (by rw [hh]; decide)])
    go_enter Tryz.func115, Tryz.ntmps115
    go_wp2_with fail
    refine (zef _ _).mono ?_
    rintro e w1 ⟨rfl, rfl⟩
    go_wp2_with fail
    refine (zd7 _ _).mono ?_
    rintro e w1 ⟨rfl, rfl⟩
    go_wp2_with fail
    refine (sign_any r _).mono ?_
    rintro e w1 ⟨rfl, rfl⟩
    go_wp2_with fail
    go_ret2
    exact ⟨by rw [zaa HF]; rfl, rfl⟩
 ·have he : r.toList.isEmpty = true := by
   rw [ByteArray.toList_eq, List.isEmpty_iff]
   apply List.eq_nil_of_length_eq_zero
   rw [Array.length_toList]
   have h2 : r.data.size = r.size := rfl
   omega
  have HF := hide (show zfw r = (0, 0) by unfold zfw; rw [dif_neg h0])
  go_enter Tryz.func115, Tryz.ntmps115
  go_wp2_with fail
  go_ret2
  exact ⟨by rw [zaa HF]; rfl, rfl⟩
def scVal (k : Int × Nat × Nat) : Value := .agg #[.int .i64 k.1, .int .i64 k.2.1, .int .i64 k.2.2]
theorem measK_le (r : ByteArray) : (zfw r).2 ≤ r.size := by
 unfold zfw
 split
 ·rename_i h
  have h1 := ze3 lowB r 0 (Nat.zero_le _)
  have h2 := ze3 zax r 0 (Nat.zero_le _)
  split
  ·unfold zjj; split; exact h1; split <;> exact h1
  ·split
   ·unfold varK; split <;> exact h2
   ·unfold zhw
    split; exact h
    split; exact h
    split; exact h
    split; exact h
    split
    ·rename_i h5; exact h5.1
    ·exact h
 ·simp
set_option maxRecDepth 100000 in
theorem scan_any (s : ByteArray) (i : Nat) (hi : i ≤ s.size) (hs : s.size ≤ maxLen) (w : World) :
  Calls Tryz.prog 73 #[.string s, .int .i64 i] w fun e w' => e = .returned (scVal (zae s i)) ∧ Below w.heap.size w w' := by
 have hb := zke zaj s i hi
 have hbl := ze3 zaj s i hi
 have hs' := hs
 unfold maxLen at hs'
 have hx1 : (s.extract i s.size).size ≤ maxLen := by rw [zfc s i]; omega
 have HX1 := hide hx1
 have hrow := zpg (s.extract i s.size) hx1
 generalize skip zaj (s.extract i s.size) 0 = n0 at *
 have hsc : zae s i = ((zfw (s.extract (i + n0) s.size)).1, i + n0, i + n0 + (zfw (s.extract (i + n0) s.size)).2) := by unfold zae; rw [← hb]
 have hml := measK_le (s.extract (i + n0) s.size)
 rw [zfc s _] at hml
 have hle : i + n0 ≤ s.size := by omega
 have hleI : (i : Int) + n0 ≤ s.size := by omega
 have hx2 : (s.extract (i + n0) s.size).size ≤ maxLen := by rw [zfc s _]; omega
 have hms := zqq (s.extract (i + n0) s.size) hx2
 have HSC := hide hsc
 have HR := hide hrow
 have HMS := hide hms
 clear hb hx1 hx2 HX1 hrow hsc hms hbl
 go_enter Tryz.func73, Tryz.ntmps73
 go_wp2_with fail
 refine (zaa HR _).mono ?_
 rintro e w1 ⟨rfl, rfl⟩
 clear HR
 go_wp2_with fail
 have et : ((i : Int) + n0).toNat = i + n0 := by omega
 try rw [et]
 refine (zaa HMS _).mono ?_
 rintro e w1 ⟨rfl, rfl⟩
 clear HMS
 generalize zfw (s.extract (i + n0) s.size) = K at *
 go_wp2_with fail
 refine bodyPost_ret (v := scVal (zae s i)) (by rw [zaa HSC]; simp [results, Tryz.results73, go_sem, scVal]) rfl ⟨rfl, (Below.refl _ _).alloc (Nat.le_refl _) _⟩
end
section
open Go.RowKit
set_option maxRecDepth 100000 in
theorem cut_low (s : ByteArray) (i : Nat) (hi : i ≤ s.size) (hs : s.size ≤ maxLen) (w : World) (K : skip zaj s i < s.size → skip zaj s i < skip lowB s (skip zaj s i)) :
  Calls Tryz.prog 123 #[.string s, .int .i64 i] w fun e w' => e = .returned (.tuple #[zb1 (tok s i), .int .i64 (tok s i).to]) ∧ Below w.heap.size w w' := by
 unfold maxLen at hs
 go_enter Tryz.func123, Tryz.ntmps123
 go_wp2
 go_loop [1] (fun t => ∃ k : Nat, i ≤ k ∧ k ≤ s.size ∧ t = .int .i64 k ∧ skip zaj s k = skip zaj s i) (fun t => s.size - (intOf t).toNat)
 case atStart => exact ⟨i, Nat.le_refl _, hi, rfl, rfl⟩
 case round =>
  obtain ⟨k, hik, hk, rfl, hsk⟩ := hrel
  have HS : Hid (skip zaj s k = skip zaj s i) := hsk
  clear hsk
  by_cases hlt : k < s.size
  ·by_cases hb : zaj s[k].toNat = true
   ·have HB : Hid (skip zaj s (k + 1) = skip zaj s i) := (zbv zaj s k hlt hb).symm.trans HS.out
    have hc : (s[k].toNat : Int) = 32 ∨ (s[k].toNat : Int) = 10 := by simpa [zaj] using hb
    clear hb HS
    rcases hc with hc | hc
    all_goals
     go_wp2
     go_round
     case rel => exact ⟨k + 1, by omega, by omega, by go_num, HB.out⟩
     case measure => simp [intOf]; omega
   ·have hb' : zaj s[k].toNat = false := by simpa using hb
    have HB : Hid (skip zaj s i = k) := HS.out.symm.trans (zbu zaj s k hlt hb')
    have hc1 : ((s[k].toNat : Int) == 32) = false := by simp [zaj] at hb'; simp [hb'.1]
    have hc2 : ((s[k].toNat : Int) == 10) = false := by simp [zaj] at hb'; simp [hb'.2]
    clear hb hb' HS
    have K' : k < skip lowB s k := by have := K (by rw [HB.out]; exact hlt); rwa [HB.out] at this
    clear K
    go_wp2
    go_loop [6] (fun t => ∃ m : Nat, k ≤ m ∧ m ≤ s.size ∧ t = .int .i64 m ∧ skip lowB s m = skip lowB s k) (fun t => s.size - (intOf t).toNat)
    case atStart => exact ⟨k, Nat.le_refl _, hk, rfl, rfl⟩
    case round =>
     obtain ⟨m, hkm, hm, rfl, hsm⟩ := hrel
     have HM : Hid (skip lowB s m = skip lowB s k) := hsm
     clear hsm
     by_cases hgo : ∃ h : m < s.size, lowB s[m].toNat = true
     ·obtain ⟨hml, hlow⟩ := hgo
      have HB' : Hid (skip lowB s (m + 1) = skip lowB s k) := (zbv lowB s m hml hlow).symm.trans HM.out
      go_wp2_with (go_at_call 182; refine (zd1 _ _).mono ?_; rintro e w' ⟨rfl, rfl⟩)
      go_round
      case rel => exact ⟨m + 1, by omega, by omega, by go_num, HB'.out⟩
      case measure => simp [intOf]; omega
     ·have HM' : Hid (skip lowB s k = m) := by
       refine HM.out.symm.trans ?_
       by_cases hml : m < s.size
       ·exact zbu _ _ _ hml (by cases h : lowB s[m].toNat; rfl; exact absurd ⟨hml, h⟩ hgo)
       ·exact zcn _ _ _ hml
      have hkm' : k < m := by rw [← HM'.out]; exact K'
      clear K'
      by_cases hml : m < s.size
      ·have hlow : lowB s[m].toNat = false := by cases h : lowB s[m].toNat; rfl; exact absurd ⟨hml, h⟩ hgo
       clear hgo
       go_wp2_with (go_at_call 182; refine (zd1 _ _).mono ?_; rintro e w' ⟨rfl, rfl⟩)
       all_goals
        first
         | have HT := tok_not HB.out hlt HM'.out hkm' ‹_›
         | have HT := tok_name HB.out hlt HM'.out hkm' ‹_› ‹_›
         | have HT := tok_long HB.out hlt HM'.out hkm' ‹_› ‹_›
        exact bodyPost_ret (v := .tuple #[zb1 (tok s i), .int .i64 (tok s i).to]) (by rw [HT]; simp [results, Tryz.results123, go_sem, zb1]) rfl ⟨rfl, by first | exact (Below.refl _ _).alloc (Nat.le_refl _) _ | exact below_drewN ((Below.refl _ _).alloc (Nat.le_refl _) _) _⟩
      ·clear hgo
       go_wp2_with (go_at_call 182; refine (zd1 _ _).mono ?_; rintro e w' ⟨rfl, rfl⟩)
       all_goals
        first
         | have HT := tok_not HB.out hlt HM'.out hkm' ‹_›
         | have HT := tok_name HB.out hlt HM'.out hkm' ‹_› ‹_›
         | have HT := tok_long HB.out hlt HM'.out hkm' ‹_› ‹_›
        exact bodyPost_ret (v := .tuple #[zb1 (tok s i), .int .i64 (tok s i).to]) (by rw [HT]; simp [results, Tryz.results123, go_sem, zb1]) rfl ⟨rfl, by first | exact (Below.refl _ _).alloc (Nat.le_refl _) _ | exact below_drewN ((Below.refl _ _).alloc (Nat.le_refl _) _) _⟩
  ·have HB : Hid (skip zaj s i = k) := HS.out.symm.trans (zcn zaj s k hlt)
   clear HS
   go_wp2
   have HT := tok_end HB.out (by omega)
   exact bodyPost_ret (v := .tuple #[zb1 (tok s i), .int .i64 (tok s i).to]) (by rw [HT]; simp [results, Tryz.results123, go_sem, zb1]) rfl ⟨rfl, by first | exact (Below.refl _ _).alloc (Nat.le_refl _) _ | exact below_drewN ((Below.refl _ _).alloc (Nat.le_refl _) _) _⟩
end
section
open Go.RowKit
set_option maxRecDepth 100000 in
theorem cut_high (s : ByteArray) (i : Nat) (hi : i ≤ s.size) (hs : s.size ≤ maxLen) (w : World) (K0 : skip zaj s i < s.size) (K1 : skip lowB s (skip zaj s i) = skip zaj s i) (K2 : skip zaj s i < skip zax s (skip zaj s i)) :
  Calls Tryz.prog 123 #[.string s, .int .i64 i] w fun e w' => e = .returned (.tuple #[zb1 (tok s i), .int .i64 (tok s i).to]) ∧ Below w.heap.size w w' := by
 unfold maxLen at hs
 go_enter Tryz.func123, Tryz.ntmps123
 go_wp2
 go_loop [1] (fun t => ∃ k : Nat, i ≤ k ∧ k ≤ s.size ∧ t = .int .i64 k ∧ skip zaj s k = skip zaj s i) (fun t => s.size - (intOf t).toNat)
 case atStart => exact ⟨i, Nat.le_refl _, hi, rfl, rfl⟩
 case round =>
  obtain ⟨k, hik, hk, rfl, hsk⟩ := hrel
  have HS : Hid (skip zaj s k = skip zaj s i) := hsk
  clear hsk
  by_cases hlt : k < s.size
  ·by_cases hb : zaj s[k].toNat = true
   ·have HB : Hid (skip zaj s (k + 1) = skip zaj s i) := (zbv zaj s k hlt hb).symm.trans HS.out
    have hc : (s[k].toNat : Int) = 32 ∨ (s[k].toNat : Int) = 10 := by simpa [zaj] using hb
    clear hb HS
    rcases hc with hc | hc
    all_goals
     go_wp2
     go_round
     case rel => exact ⟨k + 1, by omega, by omega, by go_num, HB.out⟩
     case measure => simp [intOf]; omega
   ·have hb' : zaj s[k].toNat = false := by simpa using hb
    have HB : Hid (skip zaj s i = k) := HS.out.symm.trans (zbu zaj s k hlt hb')
    have hc1 : ((s[k].toNat : Int) == 32) = false := by simp [zaj] at hb'; simp [hb'.1]
    have hc2 : ((s[k].toNat : Int) == 10) = false := by simp [zaj] at hb'; simp [hb'.2]
    clear hb hb' HS
    have K1' : skip lowB s k = k := by have := K1; rwa [HB.out] at this
    have K' := hide K1'
    clear K1 K1'
    have K2' : k < skip zax s k := by rwa [HB.out] at K2
    clear K2 K0
    go_wp2
    go_loop [6] (fun t => ∃ m : Nat, k ≤ m ∧ m ≤ s.size ∧ t = .int .i64 m ∧ skip lowB s m = skip lowB s k) (fun t => s.size - (intOf t).toNat)
    case atStart => exact ⟨k, Nat.le_refl _, hk, rfl, rfl⟩
    case round =>
     obtain ⟨m, hkm, hm, rfl, hsm⟩ := hrel
     have HM : Hid (skip lowB s m = skip lowB s k) := hsm
     clear hsm
     by_cases hgo : ∃ h : m < s.size, lowB s[m].toNat = true
     ·obtain ⟨hml, hlow⟩ := hgo
      have HB' : Hid (skip lowB s (m + 1) = skip lowB s k) := (zbv lowB s m hml hlow).symm.trans HM.out
      go_wp2_with (go_at_call 182; refine (zd1 _ _).mono ?_; rintro e w' ⟨rfl, rfl⟩)
      go_round
      case rel => exact ⟨m + 1, by omega, by omega, by go_num, HB'.out⟩
      case measure => simp [intOf]; omega
     ·have HM' : Hid (skip lowB s k = m) := by
       refine HM.out.symm.trans ?_
       by_cases hml : m < s.size
       ·exact zbu _ _ _ hml (by cases h : lowB s[m].toNat; rfl; exact absurd ⟨hml, h⟩ hgo)
       ·exact zcn _ _ _ hml
      have hkm2 : k = m := by rw [← HM'.out]; exact (zaa K').symm
      subst hkm2
      have hlow : lowB s[k].toNat = false := by cases h : lowB s[k].toNat; rfl; exact absurd ⟨hlt, h⟩ hgo
      clear hgo HM hkm hm K'
      go_wp2_with (go_at_call 182; refine (zd1 _ _).mono ?_; rintro e w' ⟨rfl, rfl⟩)
      go_loop [6] (fun t => ∃ m : Nat, k ≤ m ∧ m ≤ s.size ∧ t = .int .i64 m ∧ skip zax s m = skip zax s k) (fun t => s.size - (intOf t).toNat)
      case atStart => exact ⟨k, Nat.le_refl _, hk, rfl, rfl⟩
      case round =>
       obtain ⟨m, hkm, hm, rfl, hsm⟩ := hrel
       have HN : Hid (skip zax s m = skip zax s k) := hsm
       clear hsm
       by_cases hgo : ∃ h : m < s.size, zax s[m].toNat = true
       ·obtain ⟨hml, hhi⟩ := hgo
        have HB' : Hid (skip zax s (m + 1) = skip zax s k) := (zbv zax s m hml hhi).symm.trans HN.out
        go_wp2_with (go_at_call 183; refine (zdf _ _).mono ?_; rintro e w' ⟨rfl, rfl⟩)
        go_round
        case rel => exact ⟨m + 1, by omega, by omega, by go_num, HB'.out⟩
        case measure => simp [intOf]; omega
       ·have HN' : Hid (skip zax s k = m) := by
         refine HN.out.symm.trans ?_
         by_cases hml : m < s.size
         ·exact zbu _ _ _ hml (by cases h : zax s[m].toNat; rfl; exact absurd ⟨hml, h⟩ hgo)
         ·exact zcn _ _ _ hml
        have hkm' : k < m := by rw [← HN'.out]; exact K2'
        clear K2'
        by_cases hml : m < s.size
        ·have hhi : zax s[m].toNat = false := by cases h : zax s[m].toNat; rfl; exact absurd ⟨hml, h⟩ hgo
         clear hgo
         go_wp2_with (go_at_call 183; refine (zdf _ _).mono ?_; rintro e w' ⟨rfl, rfl⟩)
         all_goals
          first
           | have HT := tok_var HB.out hlt HM'.out HN'.out hkm' ‹_›
           | have HT := zkh HB.out hlt HM'.out HN'.out hkm' ‹_›
          exact bodyPost_ret (v := .tuple #[zb1 (tok s i), .int .i64 (tok s i).to]) (by rw [HT]; simp [results, Tryz.results123, go_sem, zb1]) rfl ⟨rfl, by first | exact (Below.refl _ _).alloc (Nat.le_refl _) _ | exact below_drewN ((Below.refl _ _).alloc (Nat.le_refl _) _) _⟩
        ·clear hgo
         go_wp2_with (go_at_call 183; refine (zdf _ _).mono ?_; rintro e w' ⟨rfl, rfl⟩)
         all_goals
          first
           | have HT := tok_var HB.out hlt HM'.out HN'.out hkm' ‹_›
           | have HT := zkh HB.out hlt HM'.out HN'.out hkm' ‹_›
          exact bodyPost_ret (v := .tuple #[zb1 (tok s i), .int .i64 (tok s i).to]) (by rw [HT]; simp [results, Tryz.results123, go_sem, zb1]) rfl ⟨rfl, by first | exact (Below.refl _ _).alloc (Nat.le_refl _) _ | exact below_drewN ((Below.refl _ _).alloc (Nat.le_refl _) _) _⟩
  ·exact absurd (by have h := HS.out.symm.trans (zcn zaj s k hlt); rw [h] at K0; exact K0) hlt
end
section
open Go.RowKit
set_option maxRecDepth 100000 in
theorem cut_colon (s : ByteArray) (i : Nat) (hi : i ≤ s.size) (hs : s.size ≤ maxLen) (w : World) (K0 : skip zaj s i < s.size) (K1 : skip lowB s (skip zaj s i) = skip zaj s i) (K2 : skip zax s (skip zaj s i) = skip zaj s i) (K3 : (zpi s (skip zaj s i) : Int) = 58) :
  Calls Tryz.prog 123 #[.string s, .int .i64 i] w fun e w' => e = .returned (.tuple #[zb1 (tok s i), .int .i64 (tok s i).to]) ∧ Below w.heap.size w w' := by
 unfold maxLen at hs
 go_enter Tryz.func123, Tryz.ntmps123
 go_wp2
 go_loop [1] (fun t => ∃ k : Nat, i ≤ k ∧ k ≤ s.size ∧ t = .int .i64 k ∧ skip zaj s k = skip zaj s i) (fun t => s.size - (intOf t).toNat)
 case atStart => exact ⟨i, Nat.le_refl _, hi, rfl, rfl⟩
 case round =>
  obtain ⟨k, hik, hk, rfl, hsk⟩ := hrel
  have HS : Hid (skip zaj s k = skip zaj s i) := hsk
  clear hsk
  by_cases hlt : k < s.size
  ·by_cases hb : zaj s[k].toNat = true
   ·have HB : Hid (skip zaj s (k + 1) = skip zaj s i) := (zbv zaj s k hlt hb).symm.trans HS.out
    have hc : (s[k].toNat : Int) = 32 ∨ (s[k].toNat : Int) = 10 := by simpa [zaj] using hb
    clear hb HS
    rcases hc with hc | hc
    all_goals
     go_wp2
     go_round
     case rel => exact ⟨k + 1, by omega, by omega, by go_num, HB.out⟩
     case measure => simp [intOf]; omega
   ·have hb' : zaj s[k].toNat = false := by simpa using hb
    have HB : Hid (skip zaj s i = k) := HS.out.symm.trans (zbu zaj s k hlt hb')
    have hc1 : ((s[k].toNat : Int) == 32) = false := by simp [zaj] at hb'; simp [hb'.1]
    have hc2 : ((s[k].toNat : Int) == 10) = false := by simp [zaj] at hb'; simp [hb'.2]
    clear hb hb' HS
    have K1' : skip lowB s k = k := by have := K1; rwa [HB.out] at this
    have K' := hide K1'
    clear K1 K1'
    have K2' := hide (show skip zax s k = k by rwa [HB.out] at K2)
    clear K2 K0
    have K3' := hide (show (s[k].toNat : Int) = 58 by rw [HB.out, zoc hlt] at K3; exact K3)
    clear K3
    go_wp2
    go_loop [6] (fun t => ∃ m : Nat, k ≤ m ∧ m ≤ s.size ∧ t = .int .i64 m ∧ skip lowB s m = skip lowB s k) (fun t => s.size - (intOf t).toNat)
    case atStart => exact ⟨k, Nat.le_refl _, hk, rfl, rfl⟩
    case round =>
     obtain ⟨m, hkm, hm, rfl, hsm⟩ := hrel
     have HM : Hid (skip lowB s m = skip lowB s k) := hsm
     clear hsm
     by_cases hgo : ∃ h : m < s.size, lowB s[m].toNat = true
     ·obtain ⟨hml, hlow⟩ := hgo
      have HB' : Hid (skip lowB s (m + 1) = skip lowB s k) := (zbv lowB s m hml hlow).symm.trans HM.out
      go_wp2_with (go_at_call 182; refine (zd1 _ _).mono ?_; rintro e w' ⟨rfl, rfl⟩)
      go_round
      case rel => exact ⟨m + 1, by omega, by omega, by go_num, HB'.out⟩
      case measure => simp [intOf]; omega
     ·have HM' : Hid (skip lowB s k = m) := by
       refine HM.out.symm.trans ?_
       by_cases hml : m < s.size
       ·exact zbu _ _ _ hml (by cases h : lowB s[m].toNat; rfl; exact absurd ⟨hml, h⟩ hgo)
       ·exact zcn _ _ _ hml
      have hkm2 : k = m := by rw [← HM'.out]; exact (zaa K').symm
      subst hkm2
      have hlow : lowB s[k].toNat = false := by cases h : lowB s[k].toNat; rfl; exact absurd ⟨hlt, h⟩ hgo
      clear hgo HM hkm hm K'
      go_wp2_with (go_at_call 182; refine (zd1 _ _).mono ?_; rintro e w' ⟨rfl, rfl⟩)
      go_loop [6] (fun t => ∃ m : Nat, k ≤ m ∧ m ≤ s.size ∧ t = .int .i64 m ∧ skip zax s m = skip zax s k) (fun t => s.size - (intOf t).toNat)
      case atStart => exact ⟨k, Nat.le_refl _, hk, rfl, rfl⟩
      case round =>
       obtain ⟨m, hkm, hm, rfl, hsm⟩ := hrel
       have HN : Hid (skip zax s m = skip zax s k) := hsm
       clear hsm
       by_cases hgo : ∃ h : m < s.size, zax s[m].toNat = true
       ·obtain ⟨hml, hhi⟩ := hgo
        have HB' : Hid (skip zax s (m + 1) = skip zax s k) := (zbv zax s m hml hhi).symm.trans HN.out
        go_wp2_with (go_at_call 183; refine (zdf _ _).mono ?_; rintro e w' ⟨rfl, rfl⟩)
        go_round
        case rel => exact ⟨m + 1, by omega, by omega, by go_num, HB'.out⟩
        case measure => simp [intOf]; omega
       ·have HN' : Hid (skip zax s k = m) := by
         refine HN.out.symm.trans ?_
         by_cases hml : m < s.size
         ·exact zbu _ _ _ hml (by cases h : zax s[m].toNat; rfl; exact absurd ⟨hml, h⟩ hgo)
         ·exact zcn _ _ _ hml
        have hkm2 : k = m := by rw [← HN'.out]; exact (zaa K2').symm
        subst hkm2
        have hhi : zax s[k].toNat = false := by cases h : zax s[k].toNat; rfl; exact absurd ⟨hlt, h⟩ hgo
        clear hgo HN hkm hm K2'
        have c58 := zaa K3'
        clear K3'
        have C58 := hide c58
        have hc58 : ((s[k].toNat : Int) == 58) = true := by rw [c58]; rfl
        clear c58
        by_cases hk1 : k + 1 < s.size
        ·by_cases c45 : (s[k+1].toNat : Int) = 45
         ·have HL := hide (zpm hlt (zaa C58) hk1 c45)
          go_wp2_with (go_at_call 183; refine (zdf _ _).mono ?_; rintro e w' ⟨rfl, rfl⟩)
          have HT := tok_when HB.out hlt HM'.out HN'.out (zaa HL)
          exact bodyPost_ret (v := .tuple #[zb1 (tok s i), .int .i64 (tok s i).to]) (by rw [HT]; simp [results, Tryz.results123, go_sem, zb1]) rfl ⟨rfl, by first | exact (Below.refl _ _).alloc (Nat.le_refl _) _ | exact below_drewN ((Below.refl _ _).alloc (Nat.le_refl _) _) _ | exact (((below_drewN ((Below.refl _ _).alloc (Nat.le_refl _) _) _).setCell (Nat.le_refl _) _).setCell (Nat.le_refl _) _).setCell (Nat.le_refl _) _⟩
         ·have HL0 := hide (zh7 hlt (zaa C58) (fun _ => c45))
          have e45 : ((s[k+1].toNat : Int) == 45) = false := by simp [c45]
          clear c45
          go_wp2_with (go_at_call 183; refine (zdf _ _).mono ?_; rintro e w' ⟨rfl, rfl⟩)
          go_loopw [6] (fun t wr => ∃ j n : Nat, (j = 0 ∧ t = .int .i64 0 ∨ j = 1 ∧ t = .int .i64 1 ∨ j = 2 ∧ t = .int .i64 2 ∨ j = 3 ∧ t = .int .i64 3 ∨ j = 4 ∧ t = .int .i64 4) ∧ (∀ c, c ∈ ([40, 41, 44, 46] : List Int).take j → (s[k].toNat : Int) ≠ c) ∧ wr = (w.alloc (Obj.cells #[Value.int IntKind.u8 0, Value.string { data := #[] }, Value.int IntKind.i64 0] 233)).drewN n) (fun t _ => 4 - (intOf t).toNat)
          case atStart => exact ⟨0, 0, by simp, by simp, rfl⟩
          case round =>
           obtain ⟨j, n, hj, hd, rfl⟩ := hrel
           have HD := hide hd
           clear hd
           rcases hj with ⟨rfl, rfl⟩ | ⟨rfl, rfl⟩ | ⟨rfl, rfl⟩ | ⟨rfl, rfl⟩ | ⟨rfl, rfl⟩
           ·have e1 : (((({ data := #[40, 41, 44, 46] } : ByteArray)[0]'(by decide)).toNat : Int) == (s[k].toNat : Int)) = false := by rw [zaa C58]; rfl
            have HQ : Hid (¬ (s[k].toNat : Int) = 40) := by show ¬ _; rw [zaa C58]; decide
            go_wp2_with fail
            go_quiet (fail)
            go_wp2
            go_roundw
            case rel => exact ⟨1, _, by simp, more HD.out (zaa HQ) rfl rfl, rfl⟩
            case measure => simp [intOf]
           ·have e1 : (((({ data := #[40, 41, 44, 46] } : ByteArray)[1]'(by decide)).toNat : Int) == (s[k].toNat : Int)) = false := by rw [zaa C58]; rfl
            have HQ : Hid (¬ (s[k].toNat : Int) = 41) := by show ¬ _; rw [zaa C58]; decide
            go_wp2_with fail
            go_quiet (fail)
            go_wp2
            go_roundw
            case rel => exact ⟨2, _, by simp, more HD.out (zaa HQ) rfl rfl, rfl⟩
            case measure => simp [intOf]
           ·have e1 : (((({ data := #[40, 41, 44, 46] } : ByteArray)[2]'(by decide)).toNat : Int) == (s[k].toNat : Int)) = false := by rw [zaa C58]; rfl
            have HQ : Hid (¬ (s[k].toNat : Int) = 44) := by show ¬ _; rw [zaa C58]; decide
            go_wp2_with fail
            go_quiet (fail)
            go_wp2
            go_roundw
            case rel => exact ⟨3, _, by simp, more HD.out (zaa HQ) rfl rfl, rfl⟩
            case measure => simp [intOf]
           ·have e1 : (((({ data := #[40, 41, 44, 46] } : ByteArray)[3]'(by decide)).toNat : Int) == (s[k].toNat : Int)) = false := by rw [zaa C58]; rfl
            have HQ : Hid (¬ (s[k].toNat : Int) = 46) := by show ¬ _; rw [zaa C58]; decide
            go_wp2_with fail
            go_quiet (fail)
            go_wp2
            go_roundw
            case rel => exact ⟨4, _, by simp, more HD.out (zaa HQ) rfl rfl, rfl⟩
            case measure => simp [intOf]
           ·have HL : Hid (zbf s k = 0) := HL0
            go_wp2
            have HT := znk HB.out hlt HM'.out HN'.out HL.out
            exact bodyPost_ret (v := .tuple #[zb1 (tok s i), .int .i64 (tok s i).to]) (by rw [HT]; simp [results, Tryz.results123, go_sem, zb1]) rfl ⟨rfl, by first | exact (Below.refl _ _).alloc (Nat.le_refl _) _ | exact below_drewN ((Below.refl _ _).alloc (Nat.le_refl _) _) _ | exact (((below_drewN ((Below.refl _ _).alloc (Nat.le_refl _) _) _).setCell (Nat.le_refl _) _).setCell (Nat.le_refl _) _).setCell (Nat.le_refl _) _⟩
        ·have HL0 := hide (zh7 hlt (zaa C58) (fun h => absurd h hk1))
         go_wp2_with (go_at_call 183; refine (zdf _ _).mono ?_; rintro e w' ⟨rfl, rfl⟩)
         go_loopw [6] (fun t wr => ∃ j n : Nat, (j = 0 ∧ t = .int .i64 0 ∨ j = 1 ∧ t = .int .i64 1 ∨ j = 2 ∧ t = .int .i64 2 ∨ j = 3 ∧ t = .int .i64 3 ∨ j = 4 ∧ t = .int .i64 4) ∧ (∀ c, c ∈ ([40, 41, 44, 46] : List Int).take j → (s[k].toNat : Int) ≠ c) ∧ wr = (w.alloc (Obj.cells #[Value.int IntKind.u8 0, Value.string { data := #[] }, Value.int IntKind.i64 0] 233)).drewN n) (fun t _ => 4 - (intOf t).toNat)
         case atStart => exact ⟨0, 0, by simp, by simp, rfl⟩
         case round =>
          obtain ⟨j, n, hj, hd, rfl⟩ := hrel
          have HD := hide hd
          clear hd
          rcases hj with ⟨rfl, rfl⟩ | ⟨rfl, rfl⟩ | ⟨rfl, rfl⟩ | ⟨rfl, rfl⟩ | ⟨rfl, rfl⟩
          ·have e1 : (((({ data := #[40, 41, 44, 46] } : ByteArray)[0]'(by decide)).toNat : Int) == (s[k].toNat : Int)) = false := by rw [zaa C58]; rfl
           have HQ : Hid (¬ (s[k].toNat : Int) = 40) := by show ¬ _; rw [zaa C58]; decide
           go_wp2_with fail
           go_quiet (fail)
           go_wp2
           go_roundw
           case rel => exact ⟨1, _, by simp, more HD.out (zaa HQ) rfl rfl, rfl⟩
           case measure => simp [intOf]
          ·have e1 : (((({ data := #[40, 41, 44, 46] } : ByteArray)[1]'(by decide)).toNat : Int) == (s[k].toNat : Int)) = false := by rw [zaa C58]; rfl
           have HQ : Hid (¬ (s[k].toNat : Int) = 41) := by show ¬ _; rw [zaa C58]; decide
           go_wp2_with fail
           go_quiet (fail)
           go_wp2
           go_roundw
           case rel => exact ⟨2, _, by simp, more HD.out (zaa HQ) rfl rfl, rfl⟩
           case measure => simp [intOf]
          ·have e1 : (((({ data := #[40, 41, 44, 46] } : ByteArray)[2]'(by decide)).toNat : Int) == (s[k].toNat : Int)) = false := by rw [zaa C58]; rfl
           have HQ : Hid (¬ (s[k].toNat : Int) = 44) := by show ¬ _; rw [zaa C58]; decide
           go_wp2_with fail
           go_quiet (fail)
           go_wp2
           go_roundw
           case rel => exact ⟨3, _, by simp, more HD.out (zaa HQ) rfl rfl, rfl⟩
           case measure => simp [intOf]
          ·have e1 : (((({ data := #[40, 41, 44, 46] } : ByteArray)[3]'(by decide)).toNat : Int) == (s[k].toNat : Int)) = false := by rw [zaa C58]; rfl
           have HQ : Hid (¬ (s[k].toNat : Int) = 46) := by show ¬ _; rw [zaa C58]; decide
           go_wp2_with fail
           go_quiet (fail)
           go_wp2
           go_roundw
           case rel => exact ⟨4, _, by simp, more HD.out (zaa HQ) rfl rfl, rfl⟩
           case measure => simp [intOf]
          ·have HL : Hid (zbf s k = 0) := HL0
           go_wp2
           have HT := znk HB.out hlt HM'.out HN'.out HL.out
           exact bodyPost_ret (v := .tuple #[zb1 (tok s i), .int .i64 (tok s i).to]) (by rw [HT]; simp [results, Tryz.results123, go_sem, zb1]) rfl ⟨rfl, by first | exact (Below.refl _ _).alloc (Nat.le_refl _) _ | exact below_drewN ((Below.refl _ _).alloc (Nat.le_refl _) _) _ | exact (((below_drewN ((Below.refl _ _).alloc (Nat.le_refl _) _) _).setCell (Nat.le_refl _) _).setCell (Nat.le_refl _) _).setCell (Nat.le_refl _) _⟩
  ·exact absurd (by have h := HS.out.symm.trans (zcn zaj s k hlt); rw [h] at K0; exact K0) hlt
end
end Go.Proofs.YtldkpahaocjdpaaGreat
