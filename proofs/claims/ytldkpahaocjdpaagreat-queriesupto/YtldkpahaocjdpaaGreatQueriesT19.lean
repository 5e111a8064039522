/-
  Plain: the program's tokens are the reference's: the same kind, the same place, the same end.
  Plain: what the kinds of tokens are, told alike by both readers.
  Plain: both readers read the same: the same atoms, literals, rules; or they stop at the same place.
-/
import Derived.Test.YtldkpahaocjdpaaGreatQueriesT03
import Derived.Laws.Strings
import Derived.Test.YtldkpahaocjdpaaGreatQueriesT17
import Derived.Test.YtldkpahaocjdpaaGreatQueriesT06
import Derived.Test.YtldkpahaocjdpaaGreatQueriesT11
set_option maxHeartbeats 16000000
namespace Go.Proofs.YtldkpahaocjdpaaGreat
section
def tokK (t : Tk) : Int :=
 if t.kind = 46 then 0 else if t.kind = 33 then 1 else if t.kind = 110 then 2 else if t.kind = 118 then 3 else if t.kind = 119 then 4
 else if t.text.toList = [40] then 5 else if t.text.toList = [41] then 6 else if t.text.toList = [44] then 7 else if t.text.toList = [46] then 8 else 9
theorem znw (s : ByteArray) (k n : Nat) (h : k + n ≤ s.size) : (s.extract k s.size).extract 0 n = s.extract k (k + n) := by
 apply ByteArray.ext
 simp [ByteArray.data_extract, Array.extract_extract]
 congr 1
 have : s.data.size = s.size := rfl
 omega
theorem zq0 (s : ByteArray) (k : Nat) (h : k < s.size) : (s.extract k (k + 1)).toList = [s[k]] := by
 rw [ByteArray.toList_eq, ByteArray.data_extract, Array.toList_extract]
 have h1 : s.data.toList.length = s.size := by rw [Array.length_toList]; rfl
 rw [List.extract_eq_take_drop]
 have e : k + 1 - k = 1 := by omega
 rw [e, List.drop_eq_getElem_cons (by omega)]
 simp [List.take]
 rfl
theorem ext_two (s : ByteArray) (k : Nat) (h : k + 1 < s.size) : (s.extract k (k + 2)).toList = [s[k], s[k+1]] := by
 rw [ByteArray.toList_eq, ByteArray.data_extract, Array.toList_extract]
 have h1 : s.data.toList.length = s.size := by rw [Array.length_toList]; rfl
 rw [List.extract_eq_take_drop]
 have e : k + 2 - k = 2 := by omega
 rw [e, List.drop_eq_getElem_cons (by omega), List.drop_eq_getElem_cons (by omega)]
 simp [List.take]
 exact ⟨rfl, rfl⟩
theorem u8_eq (a : UInt8) (c : UInt8) : a = c ↔ (a.toNat : Int) = (c.toNat : Int) := by
 constructor
 ·intro h; rw [h]
 ·intro h; exact UInt8.toNat_inj.1 (by omega)
theorem signK_eq (s : ByteArray) (k : Nat) (hk : k < s.size) : zhu (s.extract k s.size) =
  if zbf s k = 0 then (1, 1) else if zbf s k = 2 then (9, 2) else (tokK ⟨115, s.extract k (k + 1), k, k + 1⟩, 1) := by
 have hsz : (s.extract k s.size).size = s.size - k := zfb s k
 have e1 : ((s.extract k s.size).extract 0 1).toList = [s[k]] := by rw [znw s k 1 (by omega), zq0 s k hk]
 have g1 : 1 ≤ (s.extract k s.size).size := by omega
 have t1 := zq0 s k hk
 unfold zhu tokK
 simp only [e1, g1, true_and, t1, List.cons.injEq, and_true]
 simp only [u8_eq]
 unfold zbf
 rw [dif_pos hk]
 by_cases c58 : (s[k].toNat : Int) = 58
 ·rw [if_pos c58]
  have n1 : ¬ (s[k].toNat : Int) = ((40 : UInt8).toNat : Int) := by rw [c58]; decide
  have n2 : ¬ (s[k].toNat : Int) = ((41 : UInt8).toNat : Int) := by rw [c58]; decide
  have n3 : ¬ (s[k].toNat : Int) = ((44 : UInt8).toNat : Int) := by rw [c58]; decide
  have n4 : ¬ (s[k].toNat : Int) = ((46 : UInt8).toNat : Int) := by rw [c58]; decide
  rw [if_neg n1, if_neg n2, if_neg n3, if_neg n4]
  by_cases h2 : k + 1 < s.size
  ·have e2 : ((s.extract k s.size).extract 0 2).toList = [s[k], s[k+1]] := by rw [znw s k 2 (by omega), ext_two s k h2]
   rw [dif_pos h2, e2]
   have g2 : 2 ≤ (s.extract k s.size).size := by omega
   simp only [g2, true_and, List.cons.injEq, and_true, u8_eq]
   by_cases c45 : (s[k+1].toNat : Int) = 45
   ·rw [if_pos ⟨by rw [c58]; rfl, by rw [c45]; rfl⟩, if_pos c45]; simp
   ·rw [if_neg (fun h => c45 (by rw [h.2]; rfl)), if_neg c45]; simp
  ·rw [dif_neg h2, if_neg (by omega)]; simp
 ·rw [if_neg c58]
  have n5 : ¬ (2 ≤ (s.extract k s.size).size ∧ ((s.extract k s.size).extract 0 2).toList = [58, 45]) := by
   rintro ⟨g2, h⟩
   rw [znw s k 2 (by omega), ext_two s k (by omega)] at h
   injection h with h _
   exact c58 (by rw [h]; rfl)
  rw [if_neg n5]
  by_cases d1 : (s[k].toNat : Int) = 40
  ·simp [d1]
  ·by_cases d2 : (s[k].toNat : Int) = 41
   ·simp [d2]
   ·by_cases d3 : (s[k].toNat : Int) = 44
    ·simp [d3]
    ·by_cases d4 : (s[k].toNat : Int) = 46
     ·simp [d4]
     ·have m1 : ¬ (s[k].toNat : Int) = ((40 : UInt8).toNat : Int) := d1
      have m2 : ¬ (s[k].toNat : Int) = ((41 : UInt8).toNat : Int) := d2
      have m3 : ¬ (s[k].toNat : Int) = ((44 : UInt8).toNat : Int) := d3
      have m4 : ¬ (s[k].toNat : Int) = ((46 : UInt8).toNat : Int) := d4
      rw [if_neg m1, if_neg m2, if_neg m3, if_neg m4]
      simp [d1, d2, d3, d4]
theorem zk8 (s : ByteArray) (k : Nat) : zbf s k = 0 ∨ zbf s k = 1 ∨ zbf s k = 2 := by
 unfold zbf
 split
 ·split
  ·split
   ·split <;> simp
   ·simp
  ·split <;> simp
 ·simp
theorem scan_tok (s : ByteArray) (i : Nat) (hi : i ≤ s.size) : zae s i = (tokK (tok s i), (tok s i).at_, (tok s i).to) := by
 have hk := ze3 zaj s i hi
 unfold zae tok
 generalize skip zaj s i = k at *
 have hsz : (s.extract k s.size).size = s.size - k := zfb s k
 by_cases h0 : s.size ≤ k
 ·have e : k = s.size := by omega
  rw [zhv, if_pos h0]
  unfold zfx
  rw [dif_neg (by omega)]
  simp [tokK, e]
 ·have hlt : k < s.size := by omega
  have hl := zkh lowB s k hk
  have hh := zkh zax s k hk
  have h00 : 0 < (s.extract k s.size).size := by omega
  have hg : (s.extract k s.size)[0] = s[k] := by have := ext_get s k 0 (by omega) h00; simpa using this
  rw [zhv, if_neg h0]
  unfold zfx
  rw [dif_pos h00]
  by_cases hlow : k < skip lowB s k
  ·have hlb : lowB s[k].toNat = true := by
    cases hb : lowB s[k].toNat with
    | true => rfl
    | false => rw [zbv lowB s k hlt hb] at hlow; omega
   have hsk : skip lowB (s.extract k s.size) 0 = skip lowB s k - k := by omega
   have hle := ze3 lowB s k hk
   have hex : (s.extract k s.size).extract 0 (skip lowB s k - k) = s.extract k (skip lowB s k) := by
    rw [znw s k _ (by omega)]; congr 1; omega
   rw [if_pos (by rw [hg]; exact hlb), if_pos hlow]
   unfold zjh
   rw [hsk, hex]
   by_cases h8 : 8 < skip lowB s k - k
   ·have hnot : ¬ (s.extract k (skip lowB s k)).toList = [110, 111, 116] := by
     intro e
     have : (s.extract k (skip lowB s k)).toList.length = 3 := by rw [e]; rfl
     rw [ByteArray.toList_eq, Array.length_toList] at this
     have h2 : (s.extract k (skip lowB s k)).data.size = (s.extract k (skip lowB s k)).size := rfl
     rw [h2, ByteArray.size_extract] at this
     omega
    rw [if_pos h8, if_neg hnot, if_neg (by omega)]
    simp [tokK]; omega
   ·by_cases hn : (s.extract k (skip lowB s k)).toList = [110, 111, 116]
    ·rw [if_neg h8, if_pos hn, if_pos hn]
     simp [tokK]; omega
    ·rw [if_neg h8, if_neg hn, if_neg hn, if_pos (by omega)]
     simp [tokK]; omega
  ·have hlb : lowB s[k].toNat = false := by
    cases hb : lowB s[k].toNat with
    | false => rfl
    | true =>
     have h1 := zbu lowB s k hlt hb
     have h2 := zm3 lowB s (k + 1)
     omega
   rw [if_neg (by rw [hg, hlb]; decide), if_neg hlow]
   by_cases hhigh : k < skip zax s k
   ·have hhb : zax s[k].toNat = true := by
     cases hb : zax s[k].toNat with
     | true => rfl
     | false => rw [zbv zax s k hlt hb] at hhigh; omega
    have hsk : skip zax (s.extract k s.size) 0 = skip zax s k - k := by omega
    rw [if_pos (by rw [hg]; exact hhb), if_pos hhigh]
    unfold varK
    rw [hsk]
    by_cases h8 : 8 < skip zax s k - k
    ·rw [if_pos h8, if_neg (by omega)]
     simp [tokK]; omega
    ·rw [if_neg h8, if_pos (by omega)]
     simp [tokK]; omega
   ·have hhb : zax s[k].toNat = false := by
     cases hb : zax s[k].toNat with
     | false => rfl
     | true =>
      have h1 := zbu zax s k hlt hb
      have h2 := zm3 zax s (k + 1)
      omega
    rw [if_neg (by rw [hg, hhb]; decide), if_neg hhigh, signK_eq s k hlt]
    rcases zk8 s k with h | h | h
    ·rw [if_pos h, if_pos h]; simp [tokK]
    ·rw [if_neg (by omega), if_neg (by omega), if_neg (by omega), if_neg (by omega)]
    ·rw [if_neg (by omega), if_pos h, if_neg (by omega), if_pos h]
     have e : ({ data := #[58, 45] } : ByteArray).toList = [58, 45] := by rw [ByteArray.toList_eq]
     simp [tokK, e]
end
section
theorem tok_cases (s : ByteArray) (i : Nat) : (tok s i).kind = 46 ∨ (tok s i).kind = 33 ∨ ((tok s i).kind = 110 ∧ (tok s i).text = s.extract (tok s i).at_ (tok s i).to) ∨ ((tok s i).kind = 118 ∧ (tok s i).text = s.extract (tok s i).at_ (tok s i).to) ∨ (tok s i).kind = 119 ∨
  ((tok s i).kind = 115 ∧ ((tok s i).text.toList = [40] ∨ (tok s i).text.toList = [41] ∨ (tok s i).text.toList = [44] ∨ (tok s i).text.toList = [46] ∨ (tok s i).text.toList = [58, 45])) := by
 unfold tok
 generalize skip zaj s i = k
 unfold zhv
 by_cases h0 : s.size ≤ k
 ·simp [h0]
 ·rw [if_neg h0]
  by_cases h1 : k < skip lowB s k
  ·rw [if_pos h1]
   split
   ·simp
   ·split <;> simp
  ·rw [if_neg h1]
   by_cases h2 : k < skip zax s k
   ·rw [if_pos h2]
    split <;> simp
   ·rw [if_neg h2]
    by_cases h3 : zbf s k = 0
    ·rw [if_pos h3]; simp
    ·rw [if_neg h3]
     by_cases h4 : zbf s k = 2
     ·rw [if_pos h4]
      have : ({ data := #[58, 45] } : ByteArray).toList = [58, 45] := by rw [ByteArray.toList_eq]
      simp [this]
     ·rw [if_neg h4]
      have hk : k < s.size := by omega
      have t1 := zq0 s k hk
      simp only [t1]
      have hs : (s[k].toNat : Int) = 40 ∨ (s[k].toNat : Int) = 41 ∨ (s[k].toNat : Int) = 44 ∨ (s[k].toNat : Int) = 46 := by
       unfold zbf at h3 h4
       rw [dif_pos hk] at h3 h4
       by_cases hc : (s[k].toNat : Int) = 58
       ·rw [if_pos hc] at h3 h4
        by_cases hd : k + 1 < s.size
        ·rw [dif_pos hd] at h3 h4
         by_cases he : (s[k+1].toNat : Int) = 45
         ·rw [if_pos he] at h4; exact absurd rfl h4
         ·rw [if_neg he] at h3; exact absurd rfl h3
        ·rw [dif_neg hd] at h3; exact absurd rfl h3
       ·rw [if_neg hc] at h3
        by_cases hd : (s[k].toNat : Int) = 40 ∨ (s[k].toNat : Int) = 41 ∨ (s[k].toNat : Int) = 44 ∨ (s[k].toNat : Int) = 46
        ·exact hd
        ·rw [if_neg hd] at h3; exact absurd rfl h3
      have u : ∀ c : UInt8, (s[k].toNat : Int) = (c.toNat : Int) → s[k] = c := fun c h => (u8_eq _ _).2 h
      rcases hs with h | h | h | h
      ·simp [u 40 h]
      ·simp [u 41 h]
      ·simp [u 44 h]
      ·simp [u 46 h]
structure KindsOf (s : ByteArray) (p : Nat) : Prop where
 k0 : (zae s p).1 = 0 ↔ (tok s p).kind = 46
 k2 : (zae s p).1 = 2 ↔ (tok s p).kind = 110
 k3 : (zae s p).1 = 3 ↔ (tok s p).kind = 118
 k4 : (zae s p).1 = 4 ↔ (tok s p).kind = 119
 k5 : (zae s p).1 = 5 ↔ ((tok s p).kind = 115 ∧ (tok s p).text.toList = [40])
 k6 : (zae s p).1 = 6 ↔ ((tok s p).kind = 115 ∧ (tok s p).text.toList = [41])
 k7 : (zae s p).1 = 7 ↔ ((tok s p).kind = 115 ∧ (tok s p).text.toList = [44])
 k8 : (zae s p).1 = 8 ↔ ((tok s p).kind = 115 ∧ (tok s p).text.toList = [46])
 k9 : (zae s p).1 = 9 ↔ ((tok s p).kind = 115 ∧ (tok s p).text.toList = [58, 45])
 at_ : (zae s p).2.1 = (tok s p).at_
 to_ : (zae s p).2.2 = (tok s p).to
 word : (tok s p).kind = 110 ∨ (tok s p).kind = 118 → zbp s p = (tok s p).text
theorem zgv (s : ByteArray) (p : Nat) (hp : p ≤ s.size) : KindsOf s p := by
 have h := tok_cases s p
 have e := scan_tok s p hp
 have e1 : (zae s p).1 = tokK (tok s p) := by rw [e]
 have e2 : (zae s p).2.1 = (tok s p).at_ := by rw [e]
 have e3 : (zae s p).2.2 = (tok s p).to := by rw [e]
 have hw : (tok s p).kind = 110 ∨ (tok s p).kind = 118 → zbp s p = (tok s p).text := by
  intro hk
  unfold zbp
  rw [e2, e3]
  rcases h with h | h | h | h | h | h
  ·omega
  ·omega
  ·exact h.2.symm
  ·exact h.2.symm
  ·omega
  ·omega
 refine ⟨?_, ?_, ?_, ?_, ?_, ?_, ?_, ?_, ?_, e2, e3, hw⟩
 all_goals
  rw [e1]
  unfold tokK
  rcases h with h | h | h | h | h | ⟨h, h' | h' | h' | h' | h'⟩
  all_goals first | (simp [h, h']; done) | (simp [h.1]; done) | (simp [h]; done)
end
section
theorem zg7 {s : ByteArray} {p : Nat} {bd : Int} (h : 0 ≤ bd) : zan s p bd = bd ∧ zao s p bd = p := by
 have e : zdz s p bd = bd := by unfold zdz; rw [if_neg (by omega)]
 have e1 : zan s p bd = bd := by unfold zan; split; exact e; rfl
 exact ⟨e1, by unfold zao; rw [e1, if_neg (by omega)]⟩
theorem fail_pos {s : ByteArray} {p : Nat} {bd : Int} (h : 0 ≤ bd) : zdz s p bd = bd := by unfold zdz; rw [if_neg (by omega)]
theorem zgx {s wd : ByteArray} {p : Nat} {bd : Int} (h : 0 ≤ bd) : isS s p bd wd = false := by
 unfold isS; simp; intro h1; omega
theorem zf7 {s wd : ByteArray} {p : Nat} {bd : Int} (h : 0 ≤ bd) : zbz s p bd wd = p ∧ zb9 s p bd wd = bd := by
 unfold zbz zb9; rw [zgx h]; exact ⟨rfl, rfl⟩
theorem need_pos {s wd : ByteArray} {p : Nat} {bd : Int} (h : 0 ≤ bd) : zbn s p bd wd = bd := by
 unfold zbn; rw [zgx h]; exact fail_pos h
theorem atom_pos {s : ByteArray} {p : Nat} {bd : Int} (h : 0 ≤ bd) : (zag s p bd).2.2 = bd := by
 have e1 : zaq s p bd = bd := by unfold zaq; split; exact fail_pos h; rfl
 have e2 : zdr s p bd = bd := by unfold zdr; rw [e1]; exact (zg7 h).1
 unfold zag
 rw [e2, zgx h]
 exact (zf7 h).2
theorem lit_pos {s : ByteArray} {p : Nat} {bd : Int} (h : 0 ≤ bd) : (zav s p bd).2 = bd := by
 have e1 : zjj s p bd = false := by unfold zjj; simp; intro h1; omega
 unfold zav zca zbe
 rw [e1]
 exact atom_pos h
theorem zg8 {s : ByteArray} {p : Nat} {bd : Int} (h : bd < 0) (h1 : (tok s p).kind ≠ 33) (h2 : (tok s p).kind ≠ 46) : zan s p bd = bd ∧ zao s p bd = (tok s p).to := by
 have e1 : zan s p bd = bd := by unfold zan; rw [if_neg (by simp [h1, h2])]
 exact ⟨e1, by unfold zao; rw [e1, if_pos h]⟩
theorem zih {s : ByteArray} {p : Nat} {bd : Int} (h : bd < 0) : zdz s p bd = (tok s p).at_ := by unfold zdz; rw [if_pos h]
theorem zhx {s wd : ByteArray} {p : Nat} {bd : Int} (h : bd < 0) : isS s p bd wd = true ↔ ((tok s p).kind = 115 ∧ (tok s p).text.toList = wd.toList) := by
 unfold isS; simp [h]
theorem zl1 {s wd : ByteArray} {p : Nat} {bd : Int} (h : bd < 0) (hn : ¬ ((tok s p).kind = 115 ∧ (tok s p).text.toList = wd.toList)) : isS s p bd wd = false := by
 cases e : isS s p bd wd with
 | false => rfl
 | true => exact absurd ((zhx h).1 e) hn
theorem zgw {s wd : ByteArray} {p : Nat} {bd : Int} (h : bd < 0) (hy : (tok s p).kind = 115 ∧ (tok s p).text.toList = wd.toList) : zbz s p bd wd = (tok s p).to ∧ zb9 s p bd wd = bd := by
 have e := (zhx (wd := wd) h).2 hy
 have t := zg8 h (by rw [hy.1]; decide) (by rw [hy.1]; decide)
 unfold zbz zb9; rw [e]; exact ⟨t.2, t.1⟩
theorem zgs {s wd : ByteArray} {p : Nat} {bd : Int} (h : bd < 0) (hn : ¬ ((tok s p).kind = 115 ∧ (tok s p).text.toList = wd.toList)) : zbz s p bd wd = p ∧ zb9 s p bd wd = bd := by
 unfold zbz zb9; rw [zl1 h hn]; exact ⟨rfl, rfl⟩
theorem zge (c : UInt8) : (chr c).toList = [c] := by
 rw [ByteArray.toList_eq]
def tmOf (t : RTerm) : Bool × ByteArray := (t.isVar, t.text)
theorem zme {s : ByteArray} {p : Nat} {bd : Int} {l : List RTerm} (f : Nat) (h : bd < 0) (hn : ¬ ((tok s p).kind = 110 ∨ (tok s p).kind = 118) ∨ l.length = 4) : (zcw s (f + 1) p bd l).2.2 = (tok s p).at_ := by
 have e : zal s p bd l.length = (tok s p).at_ := by
  unfold zal
  rw [if_pos, zih h]
  rcases hn with hn | hn
  ·simp [not_or.1 hn]
  ·simp [hn]
 have h0 : (0 : Int) ≤ (tok s p).at_ := by omega
 rw [zcw]
 simp only [e, (zg7 h0).1, (zg7 h0).2, zgx h0, (zf7 h0).1, (zf7 h0).2, need_pos h0]
 rfl
theorem terms_go {s : ByteArray} {p : Nat} {bd : Int} {l : List RTerm} (f : Nat) (h : bd < 0) (hk : (tok s p).kind = 110 ∨ (tok s p).kind = 118) (hl : l.length ≠ 4) (hc : (tok s (tok s p).to).kind = 115 ∧ (tok s (tok s p).to).text.toList = [44]) :
  zcw s (f + 1) p bd l = zcw s f (tok s (tok s p).to).to bd (l ++ [zas s p]) := by
 have e : zal s p bd l.length = bd := by
  unfold zal
  rw [if_neg]
  rcases hk with hk | hk <;> simp [hk, hl]
 have t := zg8 h (p := p) (s := s) (by rcases hk with hk | hk <;> rw [hk] <;> decide) (by rcases hk with hk | hk <;> rw [hk] <;> decide)
 rw [← zge] at hc
 rw [zcw]
 simp only [e, t.1, t.2, (zgw h hc).1, (zgw h hc).2, (zhx h).2 hc, if_true]
theorem terms_end {s : ByteArray} {p : Nat} {bd : Int} {l : List RTerm} (f : Nat) (h : bd < 0) (hk : (tok s p).kind = 110 ∨ (tok s p).kind = 118) (hl : l.length ≠ 4) (hc : ¬ ((tok s (tok s p).to).kind = 115 ∧ (tok s (tok s p).to).text.toList = [44])) :
  zcw s (f + 1) p bd l = (l ++ [zas s p], zao s (tok s p).to (zbn s (tok s p).to bd (chr 41)), zan s (tok s p).to (zbn s (tok s p).to bd (chr 41))) := by
 have e : zal s p bd l.length = bd := by
  unfold zal
  rw [if_neg]
  rcases hk with hk | hk <;> simp [hk, hl]
 have t := zg8 h (p := p) (s := s) (by rcases hk with hk | hk <;> rw [hk] <;> decide) (by rcases hk with hk | hk <;> rw [hk] <;> decide)
 rw [← zge] at hc
 rw [zcw]
 simp only [e, t.1, t.2, (zgs h hc).1, (zgs h hc).2, zl1 h hc]
 rfl
theorem zg4 {s wd : ByteArray} {p : Nat} {bd : Int} (h : bd < 0) (hy : (tok s p).kind = 115 ∧ (tok s p).text.toList = wd.toList) : zao s p (zbn s p bd wd) = (tok s p).to ∧ zan s p (zbn s p bd wd) = bd := by
 have t := zg8 h (by rw [hy.1]; decide) (by rw [hy.1]; decide)
 unfold zbn
 rw [(zhx h).2 hy]
 exact ⟨t.2, t.1⟩
theorem need_no {s wd : ByteArray} {p : Nat} {bd : Int} (h : bd < 0) (hn : ¬ ((tok s p).kind = 115 ∧ (tok s p).text.toList = wd.toList)) : zan s p (zbn s p bd wd) = (tok s p).at_ := by
 unfold zbn
 rw [zl1 h hn]
 simp only [Bool.false_eq_true, if_false, zih h]
 exact (zg7 (by omega)).1
theorem setPl_snoc {l : List RTerm} {pl : Nat → Nat} {t : RTerm} (hpl : ∀ i (h : i < l.length), pl i = (l[i]).at_) : ∀ i (h : i < (l ++ [t]).length), setPl pl l.length t.at_ i = ((l ++ [t])[i]).at_ := by
 intro i h
 by_cases e : i = l.length
 ·subst e; simp [setPl]
 ·have h1 : i < l.length := by simp at h; omega
  rw [List.getElem_append_left h1]
  simp [setPl, e, hpl i h1]
theorem terms_eq (s : ByteArray) (bd : Int) (hbd : bd < 0) : ∀ (f p : Nat) (l : List RTerm) (pl : Nat → Nat), l.length + f = 4 → p ≤ s.size → (∀ i (h : i < l.length), pl i = (l[i]).at_) →
  ((zat s f p (l.map tmOf) pl).1 = true → (zcw s (f + 1) p bd l).2 = ((zat s f p (l.map tmOf) pl).2.1, bd) ∧ (zat s f p (l.map tmOf) pl).2.2.1 = (zcw s (f + 1) p bd l).1.map tmOf ∧ (∀ i (h : i < (zcw s (f + 1) p bd l).1.length), (zat s f p (l.map tmOf) pl).2.2.2 i = ((zcw s (f + 1) p bd l).1[i]).at_) ∧ (zat s f p (l.map tmOf) pl).2.1 ≤ s.size) ∧
  ((zat s f p (l.map tmOf) pl).1 = false → (zcw s (f + 1) p bd l).2.2 = ((zae s (zat s f p (l.map tmOf) pl).2.1).2.1 : Int)) := by
 intro f
 induction f with
 | zero =>
  intro p l pl hl hp _
  refine ⟨fun h => by simp [zat] at h, fun _ => ?_⟩
  rw [zme 0 hbd (.inr (by omega))]
  simp only [zat]
  rw [(zgv s p hp).at_]
 | succ f ih =>
  intro p l pl hl hp hpl
  have K := zgv s p hp
  have hto : (tok s p).to ≤ s.size := by rw [← K.to_]; exact (zbs s p hp).2
  have K2 := zgv s (tok s p).to hto
  have hto2 : (tok s (tok s p).to).to ≤ s.size := by rw [← K2.to_]; exact (zbs s _ hto).2
  by_cases hk : (tok s p).kind = 110 ∨ (tok s p).kind = 118
  ·have hkk : (zae s p).1 = 2 ∨ (zae s p).1 = 3 := by rw [K.k2, K.k3]; exact hk
   have hterm : (l.map tmOf) ++ [(decide ((zae s p).1 = 3), zbp s p)] = (l ++ [zas s p]).map tmOf := by
    rw [List.map_append]
    simp only [List.map_cons, List.map_nil, tmOf, zas]
    rw [K.word hk]
    have : decide ((zae s p).1 = 3) = ((tok s p).kind == 118) := by
     rw [Bool.eq_iff_iff]; simp [K.k3]
    rw [this]
   have hsn : ∀ i (h : i < (l ++ [zas s p]).length), setPl pl l.length (zae s p).2.1 i = ((l ++ [zas s p])[i]).at_ := by
    rw [K.at_]; exact setPl_snoc (t := zas s p) hpl
   rw [zat, if_pos hkk, K.to_, hterm, List.length_map]
   by_cases hc : (tok s (tok s p).to).kind = 115 ∧ (tok s (tok s p).to).text.toList = [44]
   ·rw [if_pos (K2.k7.2 hc), K2.to_, terms_go (f + 1) hbd hk (by omega) hc]
    exact ih _ _ _ (by simp; omega) hto2 hsn
   ·rw [if_neg (fun e => hc (K2.k7.1 e)), terms_end (f + 1) hbd hk (by omega) hc]
    by_cases hs : (tok s (tok s p).to).kind = 115 ∧ (tok s (tok s p).to).text.toList = [41]
    ·have hr : za2 s (tok s p).to 6 = (tok s (tok s p).to).to := by unfold za2; rw [K2.k6.2 hs]; exact K2.to_
     rw [← zge] at hs
     refine ⟨fun _ => ⟨?_, rfl, hsn, by simp only [hr]; exact hto2⟩, fun h => ?_⟩
     ·simp only [(zg4 hbd hs).1, (zg4 hbd hs).2, hr]
     ·rw [zge] at hs; simp [K2.k6.2 hs] at h
    ·have h6 : ¬ (zae s (tok s p).to).1 = 6 := fun e => hs (K2.k6.1 e)
     have hr : za2 s (tok s p).to 6 = (tok s p).to := by unfold za2; rw [if_neg (by simpa using h6)]
     rw [← zge] at hs
     refine ⟨fun h => by simp [h6] at h, fun _ => ?_⟩
     simp only [need_no hbd hs, hr]
     rw [K2.at_]
  ·have hkk : ¬ ((zae s p).1 = 2 ∨ (zae s p).1 = 3) := by rw [K.k2, K.k3]; exact hk
   rw [zat, if_neg hkk]
   refine ⟨fun h => by simp at h, fun _ => ?_⟩
   rw [zme (f + 1) hbd (.inl hk)]
   simp only
   rw [K.at_]
def zo8 (s : ByteArray) (p : Nat) (bd : Int) (r : PRes) : Prop :=
 match r with
 | .no q => (zag s p bd).2.2 = ((zae s q).2.1 : Int)
 | .yes q pd ts pl => (zag s p bd).2 = (q, bd) ∧ pd = (tok s p).text ∧ ts = (zag s p bd).1.map tmOf ∧ (∀ i (h : i < (zag s p bd).1.length), pl i = ((zag s p bd).1[i]).at_) ∧ q ≤ s.size
theorem zp9 (s : ByteArray) (p : Nat) (bd : Int) (hbd : bd < 0) (hp : p ≤ s.size) : zo8 s p bd (zby s p) := by
 have K := zgv s p hp
 have hto : (tok s p).to ≤ s.size := by rw [← K.to_]; exact (zbs s p hp).2
 have K2 := zgv s (tok s p).to hto
 have hto2 : (tok s (tok s p).to).to ≤ s.size := by rw [← K2.to_]; exact (zbs s _ hto).2
 unfold zby
 by_cases hk : (tok s p).kind = 110
 ·rw [if_pos (K.k2.2 hk), K.to_, K.word (.inl hk)]
  have b1 : zaq s p bd = bd := by unfold zaq; simp [hk]
  have t := zg8 hbd (p := p) (s := s) (by rw [hk]; decide) (by rw [hk]; decide)
  have b2 : zdr s p bd = bd := by unfold zdr; rw [b1]; exact t.1
  have p2 : ze7 s p bd = (tok s p).to := by unfold ze7; rw [b1]; exact t.2
  by_cases ho : (tok s (tok s p).to).kind = 115 ∧ (tok s (tok s p).to).text.toList = [40]
  ·rw [if_pos (K2.k5.2 ho), K2.to_]
   have e : zag s p bd = zcw s 5 (tok s (tok s p).to).to bd [] := by
    rw [← zge] at ho
    unfold zag
    rw [b2, p2, (zhx hbd).2 ho, (zgw hbd ho).1, (zgw hbd ho).2]
    rfl
   have T := terms_eq s bd hbd 4 (tok s (tok s p).to).to [] (fun _ => 0) rfl hto2 (by simp)
   rw [List.map_nil] at T
   cases hP : (zat s 4 (tok s (tok s p).to).to [] (fun _ => 0)).1 with
   | true =>
    rw [if_pos rfl]
    obtain ⟨t1, t2, t3, t4⟩ := T.1 hP
    unfold zo8
    simp only [e]
    exact ⟨t1, trivial, t2, t3, t4⟩
   | false =>
    rw [if_neg (by decide)]
    unfold zo8
    simp only [e]
    exact T.2 hP
  ·rw [if_neg (fun h => ho (K2.k5.1 h))]
   have e : zag s p bd = ([], (tok s p).to, bd) := by
    rw [← zge] at ho
    unfold zag
    rw [b2, p2, zl1 hbd ho, (zgs hbd ho).1, (zgs hbd ho).2]
    rfl
   unfold zo8
   simp only [e]
   exact ⟨trivial, trivial, by simp, by simp, hto⟩
 ·rw [if_neg (fun h => hk (K.k2.1 h))]
  unfold zo8
  have b1 : zaq s p bd = (tok s p).at_ := by unfold zaq; simp [hk, zih hbd]
  have h0 : (0 : Int) ≤ (tok s p).at_ := by omega
  have b2 : zdr s p bd = (tok s p).at_ := by unfold zdr; rw [b1]; exact (zg7 h0).1
  simp only
  rw [K.at_]
  unfold zag
  rw [b2, zgx h0]
  exact (zf7 (s := s) (wd := chr 40) (p := ze7 s p bd) h0).2
end
end Go.Proofs.YtldkpahaocjdpaaGreat
