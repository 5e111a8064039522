/-
  The program's reader (package read), its small steps: take, word, term.
  The program's reader: word and term.
-/
import Derived.Test.YtldkpahaocjdpaaGreatPrintsT04
import Derived.Test.YtldkpahaocjdpaaGreatPrintsT06
import Derived.Test.YtldkpahaocjdpaaGreatPrintsT07
namespace Go.Proofs.YtldkpahaocjdpaaGreat
open Go.RowKit

/-- The reader's block: the text, the token that it stands at (the one from the place pos on), the rule's number, the mentions. -/
structure Rdr (w : World) (b : Nat) (s : ByteArray) (pos : Nat) (num : Nat) (mv : Value) : Prop where
  lt : b < w.heap.size
  c0 : w.cell? ⟨b, 0, none⟩ = some (.string s)
  c1 : w.cell? ⟨b, 1, none⟩ = some (.int .i64 (scanK s pos).1)
  c2 : w.cell? ⟨b, 2, none⟩ = some (.int .i64 (scanK s pos).2.1)
  c3 : w.cell? ⟨b, 3, none⟩ = some (.int .i64 (scanK s pos).2.2)
  c4 : w.cell? ⟨b, 4, none⟩ = some (.int .i64 num)
  c5 : w.cell? ⟨b, 5, none⟩ = some mv
  fz : ∀ o, w.frozen? ⟨b, o, none⟩ = false

theorem Rdr.kept {B : List Nat} {w w' : World} {b : Nat} {s : ByteArray} {pos num : Nat} {mv : Value} (h : Rdr w b s pos num mv) (k : Kept B w w') (hn : b ∉ B) : Rdr w' b s pos num mv :=
  ⟨Nat.lt_of_lt_of_le h.lt k.size, (k.cell h.lt hn).trans h.c0, (k.cell h.lt hn).trans h.c1, (k.cell h.lt hn).trans h.c2, (k.cell h.lt hn).trans h.c3, (k.cell h.lt hn).trans h.c4, (k.cell h.lt hn).trans h.c5, fun o => (k.frozen h.lt hn).trans (h.fz o)⟩

theorem scan_le (s : ByteArray) (i : Nat) (hi : i ≤ s.size) : (scanK s i).2.1 ≤ (scanK s i).2.2 ∧ (scanK s i).2.2 ≤ s.size := by
  have h1 := skip_le blankB s i hi
  have h2 := measK_le (s.extract (skip blankB s i) s.size)
  rw [ext_size] at h2
  unfold scanK
  exact ⟨by simp, by simp only; omega⟩

def rtake (s : ByteArray) (pos : Nat) (k : Int) : Nat := if (scanK s pos).1 == k then (scanK s pos).2.2 else pos
def rword (s : ByteArray) (pos : Nat) : ByteArray := s.extract (scanK s pos).2.1 (scanK s pos).2.2

theorem scan_any' (s : ByteArray) (i : Nat) (hi : i ≤ s.size) (hs : s.size ≤ maxLen) (w : World) :
    Calls Tryz.prog 73 #[.string s, .int .i64 i] w fun e w' => e = .returned (.agg #[.int .i64 (scanK s i).1, .int .i64 (scanK s i).2.1, .int .i64 (scanK s i).2.2]) ∧ Below w.heap.size w w' := scan_any s i hi hs w

theorem rdr_next {w1 : World} {b : Nat} {s : ByteArray} {pos pos' num : Nat} {mv : Value} (h : Rdr w1 b s pos num mv) :
    Rdr (((w1.setCell ⟨b, 1, none⟩ (.int .i64 (scanK s pos').1)).setCell ⟨b, 2, none⟩ (.int .i64 (scanK s pos').2.1)).setCell ⟨b, 3, none⟩ (.int .i64 (scanK s pos').2.2)) b s pos' num mv := by
  obtain ⟨hlt, c0, c1, c2, c3, c4, c5, fz⟩ := h
  refine ⟨by simpa using hlt, ?_, ?_, ?_, ?_, ?_, ?_, ?_⟩
  all_goals go_simp

theorem Below.drewR' {w w1 : World} (h : Below w.drew.heap.size w.drew w1) : Below w.heap.size w w1 := ⟨h.os, h.tape, h.output, h.size, h.block⟩

set_option maxRecDepth 100000 in
set_option maxHeartbeats 2000000 in
theorem rtake_any (s : ByteArray) (pos num : Nat) (mv : Value) (k : Int) (b : Nat) (w : World) (h : Rdr w b s pos num mv) (hpos : pos ≤ s.size) (hs : s.size ≤ maxLen) :
    Calls Tryz.prog 116 #[.pointer (some ⟨b, 0, none⟩), .int .i64 k] w fun e w' => e = .returned (.bool ((scanK s pos).1 == k)) ∧ Kept [b] w w' ∧ Rdr w' b s (rtake s pos k) num mv := by
  have h' := h
  obtain ⟨hlt, c0, c1, c2, c3, c4, c5, fz⟩ := h
  cases hk : (scanK s pos).1 == k with
  | false =>
    have hk2 : ((scanK s pos).1 != k) = true := by simp [bne, hk]
    have e1 : rtake s pos k = pos := by unfold rtake; rw [if_neg (by rw [hk]; decide)]
    rw [e1]
    clear hk e1
    go_enter Tryz.func116, Tryz.ntmps116
    go_wp2_with fail
    go_ret
    exact ⟨rfl, Kept.refl _ _, h'⟩
  | true =>
    have hk2 : ((scanK s pos).1 != k) = false := by simp [bne, hk]
    have e1 : rtake s pos k = (scanK s pos).2.2 := by unfold rtake; rw [if_pos hk]
    rw [e1]
    have hle := (scan_le s pos hpos).2
    clear hk e1
    have HP := hide (fun (w1 : World) (hb : Below w.heap.size w w1) => h'.kept ((Kept.refl [] w).of_below hb) (by simp))
    go_enter Tryz.func116, Tryz.ntmps116
    go_wp2_with fail
    go_region_with (go_at_call 73; refine (scan_any' s (scanK s pos).2.2 hle hs _).mono ?_; rintro e w1 ⟨rfl, hb1⟩; obtain ⟨hltx, x0, x1, x2, x3, x4, x5, fzx⟩ := unhide HP w1 (Below.drewR' hb1))
    all_goals
      go_wp2_with fail
      go_ret
      exact ⟨rfl, ((((Kept.refl [b] w).of_below (Below.drewR' hb1)).setCell (by simp) _).setCell (by simp) _).setCell (by simp) _, rdr_next (pos' := (scanK s pos).2.2) (unhide HP w1 (Below.drewR' hb1))⟩

set_option maxHeartbeats 1000000 in
theorem clone_any (s : ByteArray) (hs : s.size ≤ 281474976710656) (w : World) :
    Calls Tryz.prog 198 #[.string s] w fun e w' => e = .returned (.string s) ∧ Below w.heap.size w w' := by
  go_enter Tryz.func198, Tryz.ntmps198
  go_wp2_with fail
  refine (Tryz.stringslite_Clone s _ hs).mono ?_
  rintro e w1 ⟨rfl, hb1⟩
  go_wp2_with fail
  go_ret
  exact ⟨rfl, hb1⟩
end Go.Proofs.YtldkpahaocjdpaaGreat

namespace Go.Proofs.YtldkpahaocjdpaaGreat
open Go.RowKit

theorem rword_size (s : ByteArray) (pos : Nat) : (rword s pos).size ≤ s.size := by
  unfold rword; simp [ByteArray.size_extract]; omega

set_option maxRecDepth 100000 in
set_option maxHeartbeats 2000000 in
theorem word_any (s : ByteArray) (pos num : Nat) (mv : Value) (b : Nat) (w : World) (h : Rdr w b s pos num mv) (hpos : pos ≤ s.size) (hs : s.size ≤ 800) :
    Calls Tryz.prog 143 #[.pointer (some ⟨b, 0, none⟩)] w fun e w' => e = .returned (.string (rword s pos)) ∧ Below w.heap.size w w' := by
  have h' := h
  obtain ⟨hlt, c0, c1, c2, c3, c4, c5, fz⟩ := h
  obtain ⟨l1, l2⟩ := scan_le s pos hpos
  have l1I : ((scanK s pos).2.1 : Int) ≤ ((scanK s pos).2.2 : Int) := by omega
  have l2I : ((scanK s pos).2.2 : Int) ≤ (s.size : Int) := by omega
  have hw := rword_size s pos
  unfold rword at hw ⊢
  have HC := hide (fun w1 => clone_any (s.extract (scanK s pos).2.1 (scanK s pos).2.2) (by omega) w1)
  clear hw
  go_enter Tryz.func143, Tryz.ntmps143
  go_wp2_with fail
  go_region_with (go_at_call 198; refine (unhide HC _).mono ?_; rintro e w1 ⟨rfl, hb1⟩)
  all_goals
    go_wp2_with fail
    go_ret
    exact ⟨rfl, Below.drewR' hb1⟩
def tmVal (isVar : Bool) (text : ByteArray) : Value := .iface (if isVar then 130 else 193) (.string text)

set_option maxRecDepth 100000 in
set_option maxHeartbeats 2000000 in
theorem term_name (s : ByteArray) (pos num : Nat) (mv : Value) (b : Nat) (w : World) (h : Rdr w b s pos num mv) (hpos : pos ≤ s.size) (hs : s.size ≤ 800) (hk : (scanK s pos).1 = 2) :
    Calls Tryz.prog 199 #[.pointer (some ⟨b, 0, none⟩)] w fun e w' => e = .returned (.tuple #[tmVal false (rword s pos), .bool true]) ∧ Kept [b] w w' ∧ Rdr w' b s (scanK s pos).2.2 num mv := by
  have hsm : s.size ≤ maxLen := by unfold maxLen; omega
  have hk2 : ((scanK s pos).1 == 2) = true := by rw [hk]; rfl
  have ht : rtake s pos 2 = (scanK s pos).2.2 := by unfold rtake; rw [if_pos hk2]
  have HT := hide ht
  clear hk ht
  go_enter Tryz.func199, Tryz.ntmps199
  go_wp2_with fail
  refine (word_any s pos num mv b _ h hpos hs).mono ?_
  rintro e w1 ⟨rfl, hb1⟩
  have h1 := h.kept ((Kept.refl [] w).of_below hb1) (by simp)
  go_wp2_with fail
  refine (rtake_any s pos num mv 2 b _ h1 hpos hsm).mono ?_
  rintro e w2 ⟨rfl, hk2', h2⟩
  rw [unhide HT] at h2
  go_wp2_with fail
  go_ret2
  exact ⟨rfl, ((Kept.refl [b] w).of_below hb1).trans hk2', h2⟩

set_option maxRecDepth 100000 in
set_option maxHeartbeats 2000000 in
theorem term_var (s : ByteArray) (pos num : Nat) (mv : Value) (b : Nat) (w : World) (h : Rdr w b s pos num mv) (hpos : pos ≤ s.size) (hs : s.size ≤ 800) (hk : (scanK s pos).1 = 3) :
    Calls Tryz.prog 199 #[.pointer (some ⟨b, 0, none⟩)] w fun e w' => e = .returned (.tuple #[tmVal true (rword s pos), .bool true]) ∧ Kept [b] w w' ∧ Rdr w' b s (scanK s pos).2.2 num mv := by
  have hsm : s.size ≤ maxLen := by unfold maxLen; omega
  have hk1 : ((scanK s pos).1 == 2) = false := by rw [hk]; rfl
  have hk2 : ((scanK s pos).1 == 3) = true := by rw [hk]; rfl
  have ht1 : rtake s pos 2 = pos := by unfold rtake; rw [if_neg (by rw [hk1]; decide)]
  have ht : rtake s pos 3 = (scanK s pos).2.2 := by unfold rtake; rw [if_pos hk2]
  have HT := hide ht
  have HT1 := hide ht1
  clear hk ht ht1
  go_enter Tryz.func199, Tryz.ntmps199
  go_wp2_with fail
  refine (word_any s pos num mv b _ h hpos hs).mono ?_
  rintro e w1 ⟨rfl, hb1⟩
  have h1 := h.kept ((Kept.refl [] w).of_below hb1) (by simp)
  go_wp2_with fail
  refine (rtake_any s pos num mv 2 b _ h1 hpos hsm).mono ?_
  rintro e w2 ⟨rfl, hk2', h2⟩
  rw [unhide HT1] at h2
  go_wp2_with fail
  refine (rtake_any s pos num mv 3 b _ h2 hpos hsm).mono ?_
  rintro e w3 ⟨rfl, hk3', h3⟩
  rw [unhide HT] at h3
  go_wp2_with fail
  go_ret2
  exact ⟨rfl, (((Kept.refl [b] w).of_below hb1).trans hk2').trans hk3', h3⟩

set_option maxRecDepth 100000 in
set_option maxHeartbeats 2000000 in
theorem term_no (s : ByteArray) (pos num : Nat) (mv : Value) (b : Nat) (w : World) (h : Rdr w b s pos num mv) (hpos : pos ≤ s.size) (hs : s.size ≤ 800) (hka : ¬ (scanK s pos).1 = 2) (hkb : ¬ (scanK s pos).1 = 3) :
    Calls Tryz.prog 199 #[.pointer (some ⟨b, 0, none⟩)] w fun e w' => e = .returned (.tuple #[.nilIface, .bool false]) ∧ Kept [b] w w' ∧ Rdr w' b s pos num mv := by
  have hsm : s.size ≤ maxLen := by unfold maxLen; omega
  have hk1 : ((scanK s pos).1 == 2) = false := by simp [hka]
  have hk2 : ((scanK s pos).1 == 3) = false := by simp [hkb]
  have ht1 : rtake s pos 2 = pos := by unfold rtake; rw [if_neg (by rw [hk1]; decide)]
  have ht : rtake s pos 3 = pos := by unfold rtake; rw [if_neg (by rw [hk2]; decide)]
  have HT := hide ht
  have HT1 := hide ht1
  clear hka hkb ht ht1
  go_enter Tryz.func199, Tryz.ntmps199
  go_wp2_with fail
  refine (word_any s pos num mv b _ h hpos hs).mono ?_
  rintro e w1 ⟨rfl, hb1⟩
  have h1 := h.kept ((Kept.refl [] w).of_below hb1) (by simp)
  go_wp2_with fail
  refine (rtake_any s pos num mv 2 b _ h1 hpos hsm).mono ?_
  rintro e w2 ⟨rfl, hk2', h2⟩
  rw [unhide HT1] at h2
  go_wp2_with fail
  refine (rtake_any s pos num mv 3 b _ h2 hpos hsm).mono ?_
  rintro e w3 ⟨rfl, hk3', h3⟩
  rw [unhide HT] at h3
  go_wp2_with fail
  go_ret2
  exact ⟨rfl, (((Kept.refl [b] w).of_below hb1).trans hk2').trans hk3', h3⟩
end Go.Proofs.YtldkpahaocjdpaaGreat
