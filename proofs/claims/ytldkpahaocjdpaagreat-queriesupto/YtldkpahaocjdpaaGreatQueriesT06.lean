/-
  The program's reader (package read), its small steps: take, word, term.
  The program's reader: word and term.
  Plain: what the reference's parser reads as an atom, a literal, a rule; how its terms lie in memory.
  Plain: the terms that the program's reader reads; how a mention lies in memory.
-/
import Derived.Test.YtldkpahaocjdpaaGreatQueriesT03
import Derived.Test.YtldkpahaocjdpaaGreatQueriesT04
import Derived.Test.YtldkpahaocjdpaaGreatQueriesT05
import Derived.Deep.LoopGhost
set_option maxHeartbeats 16000000
namespace Go.Proofs.YtldkpahaocjdpaaGreat
section
open Go.RowKit
structure Rdr (w : World) (b : Nat) (s : ByteArray) (pos : Nat) (num : Nat) (mv : Value) : Prop where
 lt : b < w.heap.size
 c0 : w.cell? ⟨b, 0, none⟩ = some (.string s)
 c1 : w.cell? ⟨b, 1, none⟩ = some (.int .i64 (zae s pos).1)
 c2 : w.cell? ⟨b, 2, none⟩ = some (.int .i64 (zae s pos).2.1)
 c3 : w.cell? ⟨b, 3, none⟩ = some (.int .i64 (zae s pos).2.2)
 c4 : w.cell? ⟨b, 4, none⟩ = some (.int .i64 num)
 c5 : w.cell? ⟨b, 5, none⟩ = some mv
 fz : ∀ o, w.frozen? ⟨b, o, none⟩ = false
theorem Rdr.kept {B : List Nat} {w w' : World} {b : Nat} {s : ByteArray} {pos num : Nat} {mv : Value} (h : Rdr w b s pos num mv) (k : Kept B w w') (hn : b ∉ B) : Rdr w' b s pos num mv :=
 ⟨Nat.lt_of_lt_of_le h.lt k.size, (k.cell h.lt hn).trans h.c0, (k.cell h.lt hn).trans h.c1, (k.cell h.lt hn).trans h.c2, (k.cell h.lt hn).trans h.c3, (k.cell h.lt hn).trans h.c4, (k.cell h.lt hn).trans h.c5, fun o => (k.frozen h.lt hn).trans (h.fz o)⟩
theorem zbs (s : ByteArray) (i : Nat) (hi : i ≤ s.size) : (zae s i).2.1 ≤ (zae s i).2.2 ∧ (zae s i).2.2 ≤ s.size := by
 have h1 := ze3 zaj s i hi
 have h2 := measK_le (s.extract (skip zaj s i) s.size)
 rw [zfb] at h2
 unfold zae
 exact ⟨by simp, by simp only; omega⟩
def za2 (s : ByteArray) (pos : Nat) (k : Int) : Nat := if (zae s pos).1 == k then (zae s pos).2.2 else pos
def zbp (s : ByteArray) (pos : Nat) : ByteArray := s.extract (zae s pos).2.1 (zae s pos).2.2
theorem zjv (s : ByteArray) (i : Nat) (hi : i ≤ s.size) (hs : s.size ≤ maxLen) (w : World) :
  Calls Tryz.prog 73 #[.string s, .int .i64 i] w fun e w' => e = .returned (.agg #[.int .i64 (zae s i).1, .int .i64 (zae s i).2.1, .int .i64 (zae s i).2.2]) ∧ Below w.heap.size w w' := scan_any s i hi hs w
theorem rdr_next {w1 : World} {b : Nat} {s : ByteArray} {pos pos' num : Nat} {mv : Value} (h : Rdr w1 b s pos num mv) :
  Rdr (((w1.setCell ⟨b, 1, none⟩ (.int .i64 (zae s pos').1)).setCell ⟨b, 2, none⟩ (.int .i64 (zae s pos').2.1)).setCell ⟨b, 3, none⟩ (.int .i64 (zae s pos').2.2)) b s pos' num mv := by
 obtain ⟨hlt, c0, c1, c2, c3, c4, c5, fz⟩ := h
 refine ⟨by simpa using hlt, ?_, ?_, ?_, ?_, ?_, ?_, ?_⟩
 all_goals go_simp
theorem Below.drewR' {w w1 : World} (h : Below w.drew.heap.size w.drew w1) : Below w.heap.size w w1 := ⟨h.os, h.tape, h.output, h.size, h.block⟩
set_option maxRecDepth 100000 in
theorem zbm (s : ByteArray) (pos num : Nat) (mv : Value) (k : Int) (b : Nat) (w : World) (h : Rdr w b s pos num mv) (hpos : pos ≤ s.size) (hs : s.size ≤ maxLen) :
  Calls Tryz.prog 116 #[.pointer (some ⟨b, 0, none⟩), .int .i64 k] w fun e w' => e = .returned (.bool ((zae s pos).1 == k)) ∧ Kept [b] w w' ∧ Rdr w' b s (za2 s pos k) num mv := by
 have h' := h
 obtain ⟨hlt, c0, c1, c2, c3, c4, c5, fz⟩ := h
 cases hk : (zae s pos).1 == k with
 | false =>
  have hk2 : ((zae s pos).1 != k) = true := by simp [bne, hk]
  have e1 : za2 s pos k = pos := by unfold za2; rw [if_neg (by rw [hk]; decide)]
  rw [e1]
  clear hk e1
  go_enter Tryz.func116, Tryz.ntmps116
  go_wp2_with fail
  go_ret
  exact ⟨rfl, Kept.refl _ _, h'⟩
 | true =>
  have hk2 : ((zae s pos).1 != k) = false := by simp [bne, hk]
  have e1 : za2 s pos k = (zae s pos).2.2 := by unfold za2; rw [if_pos hk]
  rw [e1]
  have hle := (zbs s pos hpos).2
  clear hk e1
  have HP := hide (fun (w1 : World) (hb : Below w.heap.size w w1) => h'.kept ((Kept.refl [] w).of_below hb) (by simp))
  go_enter Tryz.func116, Tryz.ntmps116
  go_wp2_with fail
  go_region_with (go_at_call 73; refine (zjv s (zae s pos).2.2 hle hs _).mono ?_; rintro e w1 ⟨rfl, hb1⟩; obtain ⟨hltx, x0, x1, x2, x3, x4, x5, fzx⟩ := zaa HP w1 (Below.drewR' hb1))
  all_goals
   go_wp2_with fail
   go_ret
   exact ⟨rfl, ((((Kept.refl [b] w).of_below (Below.drewR' hb1)).setCell (by simp) _).setCell (by simp) _).setCell (by simp) _, rdr_next (pos' := (zae s pos).2.2) (zaa HP w1 (Below.drewR' hb1))⟩
theorem clone_any (s : ByteArray) (hs : s.size ≤ 281474976710656) (w : World) :
  Calls Tryz.prog 198 #[.string s] w fun e w' => e = .returned (.string s) ∧ Below w.heap.size w w' := by
 go_enter Tryz.func198, Tryz.ntmps198
 go_wp2_with fail
 refine (Tryz.stringslite_Clone s _ hs).mono ?_
 rintro e w1 ⟨rfl, hb1⟩
 go_wp2_with fail
 go_ret
 exact ⟨rfl, hb1⟩
end
section
open Go.RowKit
theorem zix (s : ByteArray) (pos : Nat) : (zbp s pos).size ≤ s.size := by
 unfold zbp; simp [ByteArray.size_extract]; omega
set_option maxRecDepth 100000 in
theorem zf3 (s : ByteArray) (pos num : Nat) (mv : Value) (b : Nat) (w : World) (h : Rdr w b s pos num mv) (hpos : pos ≤ s.size) (hs : s.size ≤ 2000000) :
  Calls Tryz.prog 143 #[.pointer (some ⟨b, 0, none⟩)] w fun e w' => e = .returned (.string (zbp s pos)) ∧ Below w.heap.size w w' := by
 have h' := h
 obtain ⟨hlt, c0, c1, c2, c3, c4, c5, fz⟩ := h
 obtain ⟨l1, l2⟩ := zbs s pos hpos
 have l1I : ((zae s pos).2.1 : Int) ≤ ((zae s pos).2.2 : Int) := by omega
 have l2I : ((zae s pos).2.2 : Int) ≤ (s.size : Int) := by omega
 have hw := zix s pos
 unfold zbp at hw ⊢
 have HC := hide (fun w1 => clone_any (s.extract (zae s pos).2.1 (zae s pos).2.2) (by omega) w1)
 clear hw
 go_enter Tryz.func143, Tryz.ntmps143
 go_wp2_with fail
 go_region_with (go_at_call 198; refine (zaa HC _).mono ?_; rintro e w1 ⟨rfl, hb1⟩)
 all_goals
  go_wp2_with fail
  go_ret
  exact ⟨rfl, Below.drewR' hb1⟩
def zfv (isVar : Bool) (text : ByteArray) : Value := .iface (if isVar then 130 else 193) (.string text)
set_option maxRecDepth 100000 in
theorem term_name (s : ByteArray) (pos num : Nat) (mv : Value) (b : Nat) (w : World) (h : Rdr w b s pos num mv) (hpos : pos ≤ s.size) (hs : s.size ≤ 2000000) (hk : (zae s pos).1 = 2) :
  Calls Tryz.prog 199 #[.pointer (some ⟨b, 0, none⟩)] w fun e w' => e = .returned (.tuple #[zfv false (zbp s pos), .bool true]) ∧ Kept [b] w w' ∧ Rdr w' b s (zae s pos).2.2 num mv := by
 have hsm : s.size ≤ maxLen := by unfold maxLen; omega
 have hk2 : ((zae s pos).1 == 2) = true := by rw [hk]; rfl
 have ht : za2 s pos 2 = (zae s pos).2.2 := by unfold za2; rw [if_pos hk2]
 have HT := hide ht
 clear hk ht
 go_enter Tryz.func199, Tryz.ntmps199
 go_wp2_with fail
 refine (zf3 s pos num mv b _ h hpos hs).mono ?_
 rintro e w1 ⟨rfl, hb1⟩
 have h1 := h.kept ((Kept.refl [] w).of_below hb1) (by simp)
 go_wp2_with fail
 refine (zbm s pos num mv 2 b _ h1 hpos hsm).mono ?_
 rintro e w2 ⟨rfl, hk2', h2⟩
 rw [zaa HT] at h2
 go_wp2_with fail
 go_ret2
 exact ⟨rfl, ((Kept.refl [b] w).of_below hb1).trans hk2', h2⟩
set_option maxRecDepth 100000 in
theorem term_var (s : ByteArray) (pos num : Nat) (mv : Value) (b : Nat) (w : World) (h : Rdr w b s pos num mv) (hpos : pos ≤ s.size) (hs : s.size ≤ 2000000) (hk : (zae s pos).1 = 3) :
  Calls Tryz.prog 199 #[.pointer (some ⟨b, 0, none⟩)] w fun e w' => e = .returned (.tuple #[zfv true (zbp s pos), .bool true]) ∧ Kept [b] w w' ∧ Rdr w' b s (zae s pos).2.2 num mv := by
 have hsm : s.size ≤ maxLen := by unfold maxLen; omega
 have hk1 : ((zae s pos).1 == 2) = false := by rw [hk]; rfl
 have hk2 : ((zae s pos).1 == 3) = true := by rw [hk]; rfl
 have ht1 : za2 s pos 2 = pos := by unfold za2; rw [if_neg (by rw [hk1]; decide)]
 have ht : za2 s pos 3 = (zae s pos).2.2 := by unfold za2; rw [if_pos hk2]
 have HT := hide ht
 have HT1 := hide ht1
 clear hk ht ht1
 go_enter Tryz.func199, Tryz.ntmps199
 go_wp2_with fail
 refine (zf3 s pos num mv b _ h hpos hs).mono ?_
 rintro e w1 ⟨rfl, hb1⟩
 have h1 := h.kept ((Kept.refl [] w).of_below hb1) (by simp)
 go_wp2_with fail
 refine (zbm s pos num mv 2 b _ h1 hpos hsm).mono ?_
 rintro e w2 ⟨rfl, hk2', h2⟩
 rw [zaa HT1] at h2
 go_wp2_with fail
 refine (zbm s pos num mv 3 b _ h2 hpos hsm).mono ?_
 rintro e w3 ⟨rfl, hk3', h3⟩
 rw [zaa HT] at h3
 go_wp2_with fail
 go_ret2
 exact ⟨rfl, (((Kept.refl [b] w).of_below hb1).trans hk2').trans hk3', h3⟩
set_option maxRecDepth 100000 in
theorem term_no (s : ByteArray) (pos num : Nat) (mv : Value) (b : Nat) (w : World) (h : Rdr w b s pos num mv) (hpos : pos ≤ s.size) (hs : s.size ≤ 2000000) (hka : ¬ (zae s pos).1 = 2) (hkb : ¬ (zae s pos).1 = 3) :
  Calls Tryz.prog 199 #[.pointer (some ⟨b, 0, none⟩)] w fun e w' => e = .returned (.tuple #[.nilIface, .bool false]) ∧ Kept [b] w w' ∧ Rdr w' b s pos num mv := by
 have hsm : s.size ≤ maxLen := by unfold maxLen; omega
 have hk1 : ((zae s pos).1 == 2) = false := by simp [hka]
 have hk2 : ((zae s pos).1 == 3) = false := by simp [hkb]
 have ht1 : za2 s pos 2 = pos := by unfold za2; rw [if_neg (by rw [hk1]; decide)]
 have ht : za2 s pos 3 = pos := by unfold za2; rw [if_neg (by rw [hk2]; decide)]
 have HT := hide ht
 have HT1 := hide ht1
 clear hka hkb ht ht1
 go_enter Tryz.func199, Tryz.ntmps199
 go_wp2_with fail
 refine (zf3 s pos num mv b _ h hpos hs).mono ?_
 rintro e w1 ⟨rfl, hb1⟩
 have h1 := h.kept ((Kept.refl [] w).of_below hb1) (by simp)
 go_wp2_with fail
 refine (zbm s pos num mv 2 b _ h1 hpos hsm).mono ?_
 rintro e w2 ⟨rfl, hk2', h2⟩
 rw [zaa HT1] at h2
 go_wp2_with fail
 refine (zbm s pos num mv 3 b _ h2 hpos hsm).mono ?_
 rintro e w3 ⟨rfl, hk3', h3⟩
 rw [zaa HT] at h3
 go_wp2_with fail
 go_ret2
 exact ⟨rfl, (((Kept.refl [b] w).of_below hb1).trans hk2').trans hk3', h3⟩
end
section
open Go.RowKit
structure RTerm where
 text : ByteArray
 isVar : Bool
 at_ : Nat
structure RAtom where
 pred : ByteArray
 terms : List RTerm
 no : Bool
 at_ : Nat
 noAt : Nat
def RTerm.cells (t : RTerm) : List Value := [.string t.text, .bool t.isVar, .int .i64 t.at_]
abbrev chr (c : UInt8) : ByteArray := { data := #[c] }
def zal (s : ByteArray) (pos : Nat) (bad : Int) (n : Nat) : Int :=
 if ((tok s pos).kind != 110 && (tok s pos).kind != 118) || n == 4 then zdz s pos bad else bad
def zas (s : ByteArray) (pos : Nat) : RTerm := ⟨(tok s pos).text, (tok s pos).kind == 118, (tok s pos).at_⟩
def zcw (s : ByteArray) : Nat → Nat → Int → List RTerm → List RTerm × Nat × Int
 | 0, pos, bad, l => (l, pos, bad)
 | f + 1, pos, bad, l =>
  let bad1 := zal s pos bad l.length
  let pos2 := zao s pos bad1
  let bad2 := zan s pos bad1
  let pos3 := zbz s pos2 bad2 (chr 44)
  let bad3 := zb9 s pos2 bad2 (chr 44)
  if isS s pos2 bad2 (chr 44) then zcw s f pos3 bad3 (l ++ [zas s pos])
  else (l ++ [zas s pos], zao s pos3 (zbn s pos3 bad3 (chr 41)), zan s pos3 (zbn s pos3 bad3 (chr 41)))
def zaq (s : ByteArray) (pos : Nat) (bad : Int) : Int := if (tok s pos).kind != 110 then zdz s pos bad else bad
def ze7 (s : ByteArray) (pos : Nat) (bad : Int) : Nat := zao s pos (zaq s pos bad)
def zdr (s : ByteArray) (pos : Nat) (bad : Int) : Int := zan s pos (zaq s pos bad)
def zag (s : ByteArray) (pos : Nat) (bad : Int) : List RTerm × Nat × Int :=
 if isS s (ze7 s pos bad) (zdr s pos bad) (chr 40) then
  zcw s 5 (zbz s (ze7 s pos bad) (zdr s pos bad) (chr 40)) (zb9 s (ze7 s pos bad) (zdr s pos bad) (chr 40)) []
 else ([], zbz s (ze7 s pos bad) (zdr s pos bad) (chr 40), zb9 s (ze7 s pos bad) (zdr s pos bad) (chr 40))
theorem isS_neg {s : ByteArray} {pos : Nat} {bad : Int} {wd : ByteArray} (h : isS s pos bad wd = true) : bad < 0 := by
 unfold isS at h; simp at h; exact h.1
theorem zcp {s : ByteArray} {pos : Nat} {bad : Int} (h : 0 ≤ bad) : 0 ≤ zan s pos bad := by
 unfold zan; split
 ·exact zc4 _ _ _
 ·exact h
theorem zcd {s : ByteArray} {pos : Nat} {bad : Int} {wd : ByteArray} (h : pos ≤ s.size) : zbz s pos bad wd ≤ s.size := by
 unfold zbz; split
 ·exact zam s pos bad h
 ·exact h
theorem fifth {s : ByteArray} {pos : Nat} {bad : Int} {wd : ByteArray} : isS s (zao s pos (zal s pos bad 4)) (zan s pos (zal s pos bad 4)) wd = false := by
 cases h : isS s (zao s pos (zal s pos bad 4)) (zan s pos (zal s pos bad 4)) wd with
 | false => rfl
 | true =>
  have h1 := isS_neg h
  have h2 : 0 ≤ zal s pos bad 4 := by simp [zal]; exact zc4 _ _ _
  have h3 := zcp (s := s) (pos := pos) h2
  omega
structure ACells (w : World) (n : Nat) (pred : ByteArray) (v : Value) (no : Bool) (at_ noAt : Nat) : Prop where
 c0 : w.cell? ⟨n, 0, none⟩ = some (.string pred)
 c1 : w.cell? ⟨n, 1, none⟩ = some v
 c2 : w.cell? ⟨n, 2, none⟩ = some (.bool no)
 c3 : w.cell? ⟨n, 3, none⟩ = some (.int .i64 at_)
 c4 : w.cell? ⟨n, 4, none⟩ = some (.int .i64 noAt)
 fz : ∀ o, w.frozen? ⟨n, o, none⟩ = false
theorem ACells.kept {B : List Nat} {w w' : World} {n : Nat} {pred : ByteArray} {v : Value} {no : Bool} {at_ noAt : Nat} (h : ACells w n pred v no at_ noAt) (k : Kept B w w') (hlt : n < w.heap.size) (hn : n ∉ B) : ACells w' n pred v no at_ noAt :=
 ⟨(k.cell hlt hn).trans h.c0, (k.cell hlt hn).trans h.c1, (k.cell hlt hn).trans h.c2, (k.cell hlt hn).trans h.c3, (k.cell hlt hn).trans h.c4, fun o => (k.frozen hlt hn).trans (h.fz o)⟩
theorem Kept.grown {B : List Nat} {a w w' : World} {row : Option Nat} (h : Kept B a w) (hg : w.grownBy w' row) (hr : ∀ k, row = some k → a.heap.size ≤ k ∨ k ∈ B) : Kept B a w' :=
 ⟨hg.os.trans h.os, hg.tape.trans h.tape, hg.output.trans h.output, Nat.le_trans h.size hg.size, fun k hk hn => (hg.block k (Nat.lt_of_lt_of_le hk h.size) (fun e => by rcases hr k e.symm with h1 | h1; omega; exact hn h1)).trans (h.block k hk hn)⟩
theorem Kept.of_grown {w w' : World} {row : Option Nat} (hg : w.grownBy w' row) : Kept row.toList w w' :=
 (Kept.refl _ _).grown hg (fun k e => .inr (by simp [e]))
theorem zay {B : List Nat} {w w' : World} {base : Nat} {e : TypeId} {size : Nat} {v : Value} {n : Nat} {xs : List Value} (h : w.ownsRow base e size v n xs) (k : Kept B w w') (hB : ∀ x ∈ B, x < base) : w'.ownsRow base e size v n xs := by
 refine ⟨h.1, ?_⟩
 rcases h.2 with hn | ⟨g, cap, cur, rfl, hb, hgg, rest⟩
 ·exact .inl hn
 ·refine .inr ⟨g, cap, cur, rfl, hb, ?_, rest⟩
  rw [k.block g (Array.getElem?_eq_some_iff.1 hgg).1 (fun hm => by have := hB g hm; omega)]
  exact hgg
def cellsOf (l : List RTerm) : List Value := l.flatMap RTerm.cells
theorem zjb (l : List RTerm) (t : RTerm) : cellsOf (l ++ [t]) = cellsOf l ++ t.cells := by simp [cellsOf]
structure AtomInv (w : World) (b : Nat) (s text : ByteArray) (at_ : Nat) (l : List RTerm) (p : Nat) (bd : Int) (v : Value) (wr : World) : Prop where
 pars : Pars wr b s p bd
 hp : p ≤ s.size
 kept : Kept [b] w wr
 ac : ACells wr (w.heap.size + 1) text v false at_ 0
 rc : ACells wr w.heap.size { data := #[] } (.slice none 0 0) false 0 0
 sz : w.heap.size + 2 ≤ wr.heap.size
 own : wr.ownsRow (w.heap.size + 2) 317 3 v l.length (cellsOf l)
 blt : b < w.heap.size
theorem AtomInv.call {w : World} {b : Nat} {s text : ByteArray} {at_ : Nat} {l : List RTerm} {p : Nat} {bd : Int} {v : Value} {wr w1 : World} {p' : Nat} {bd' : Int} (h : AtomInv w b s text at_ l p bd v wr) (k : Kept [b] wr w1) (hp : Pars w1 b s p' bd') (hl : p' ≤ s.size) : AtomInv w b s text at_ l p' bd' v w1 :=
 have hlt := h.blt
 have hsz := h.sz
 ⟨hp, hl, h.kept.trans k, h.ac.kept k (by omega) (by simp; omega), h.rc.kept k (by omega) (by simp; omega), Nat.le_trans h.sz k.size, zay h.own k (by simp; omega), h.blt⟩
theorem AtomInv.append {w : World} {b : Nat} {s text : ByteArray} {at_ : Nat} {l : List RTerm} {p : Nat} {bd : Int} {v : Value} {w1 w5 : World} (h : AtomInv w b s text at_ l p bd v w1) {o1 o2 : Obj} {v' : Value} (t : RTerm)
  (hown : w5.ownsRow (w.heap.size + 2) 317 3 v' (l.length + 1) (cellsOf l ++ t.cells)) (hg : ((w1.alloc o1).alloc o2).grownBy w5 v.ownBlock) :
  AtomInv w b s text at_ (l ++ [t]) p bd v' (w5.setCell ⟨w.heap.size + 1, 1, none⟩ v') ∧ ACells w5 (w.heap.size + 1) text v false at_ 0 := by
 have hlt := h.blt
 have hsz := h.sz
 have hrow : ∀ k, v.ownBlock = some k → w.heap.size + 2 ≤ k := fun k e => (h.own.lt k e).1
 have k5 : Kept v.ownBlock.toList w1 w5 := (((Kept.refl _ w1).alloc o1).alloc o2).grown hg (fun k e => .inr (by simp [e]))
 have hnot : ∀ k, k < w.heap.size + 2 → k ∉ v.ownBlock.toList := by
  intro k hk hm
  cases hv : v.ownBlock with
  | none => simp [hv] at hm
  | some x => simp [hv] at hm; have := hrow x hv; omega
 have a5 := h.ac.kept k5 (by omega) (hnot _ (by omega))
 refine ⟨⟨?_, h.hp, ?_, ?_, ?_, ?_, ?_, h.blt⟩, a5⟩
 ·exact (h.pars.kept k5 (hnot _ (by omega))).kept ((Kept.refl [w.heap.size + 1] _).setCell (by simp) _) (by simp; omega)
 ·exact ((((h.kept.alloc o1).alloc o2).grown hg (fun k e => .inl (by have := hrow k e; omega)))).setCell (.inr (by simp)) _
 ·obtain ⟨x0, x1, x2, x3, x4, xf⟩ := a5
  exact ⟨by go_simp, by go_simp, by go_simp, by go_simp, by go_simp, by go_simp⟩
 ·exact (h.rc.kept k5 (by omega) (hnot _ (by omega))).kept ((Kept.refl [w.heap.size + 1] _).setCell (by simp) _) (by have := k5.size; omega) (by simp)
 ·have := k5.size; simp; omega
 ·rw [zjb, List.length_append]
  exact ownsRow_setCell_below hown (by simp) _
theorem zki (s : ByteArray) (p : Nat) (bd : Int) (l : List RTerm) (h : l.length ≤ 4) : zcw s (5 - l.length) p bd l =
  if isS s (zao s p (zal s p bd l.length)) (zan s p (zal s p bd l.length)) { data := #[44] } then
   zcw s (5 - (l ++ [zas s p]).length) (zbz s (zao s p (zal s p bd l.length)) (zan s p (zal s p bd l.length)) { data := #[44] }) (zb9 s (zao s p (zal s p bd l.length)) (zan s p (zal s p bd l.length)) { data := #[44] }) (l ++ [zas s p])
  else (l ++ [zas s p], zao s (zbz s (zao s p (zal s p bd l.length)) (zan s p (zal s p bd l.length)) { data := #[44] }) (zbn s (zbz s (zao s p (zal s p bd l.length)) (zan s p (zal s p bd l.length)) { data := #[44] }) (zb9 s (zao s p (zal s p bd l.length)) (zan s p (zal s p bd l.length)) { data := #[44] }) { data := #[41] }), zan s (zbz s (zao s p (zal s p bd l.length)) (zan s p (zal s p bd l.length)) { data := #[44] }) (zbn s (zbz s (zao s p (zal s p bd l.length)) (zan s p (zal s p bd l.length)) { data := #[44] }) (zb9 s (zao s p (zal s p bd l.length)) (zan s p (zal s p bd l.length)) { data := #[44] }) { data := #[41] })) := by
 have e1 : 5 - l.length = (4 - l.length) + 1 := by omega
 have e2 : 5 - (l ++ [zas s p]).length = 4 - l.length := by simp
 rw [e1, e2, zcw]
theorem zac {w : World} {base : Nat} {e : TypeId} {size : Nat} {v : Value} {n : Nat} {xs : List Value} (h : w.ownsRow base e size v n xs) : ∃ a cap, v = .slice a n cap := by
 rcases h.2 with ⟨rfl, rfl⟩ | ⟨g, cap, cur, rfl, _⟩
 ·exact ⟨none, 0, rfl⟩
 ·exact ⟨_, _, rfl⟩
theorem zpt (s : ByteArray) (p : Nat) (bd : Int) (l : List RTerm) : (((tok s p).kind != 110) = true ∧ ((tok s p).kind != 118) = true ∧ zal s p bd l.length = zdz s p bd) ∨
  (((tok s p).kind != 110) = false ∧ ((l.length : Int) == 4) = true ∧ zal s p bd l.length = zdz s p bd) ∨
  (((tok s p).kind != 110) = true ∧ ((tok s p).kind != 118) = false ∧ ((l.length : Int) == 4) = true ∧ zal s p bd l.length = zdz s p bd) ∨
  (((tok s p).kind != 110) = false ∧ ((l.length : Int) == 4) = false ∧ zal s p bd l.length = bd) ∨
  (((tok s p).kind != 110) = true ∧ ((tok s p).kind != 118) = false ∧ ((l.length : Int) == 4) = false ∧ zal s p bd l.length = bd) := by
 have e : ((l.length : Int) == 4) = (l.length == 4) := by
  rw [Bool.eq_iff_iff]; simp; omega
 rw [e]
 unfold zal
 cases (tok s p).kind != 110 <;> cases (tok s p).kind != 118 <;> cases l.length == 4 <;> simp
theorem zfm {s : ByteArray} {p : Nat} {bd : Int} {l : List RTerm} {wd : ByteArray} (h4 : l.length ≤ 4) (h : isS s (zao s p (zal s p bd l.length)) (zan s p (zal s p bd l.length)) wd = true) : l.length + 1 ≤ 4 := by
 rcases Nat.lt_or_ge l.length 4 with h1 | h1
 ·omega
 ·have e : l.length = 4 := by omega
  rw [e, fifth] at h
  cases h
theorem set5 {w1 : World} {n : Nat} {u0 u1 u2 u3 u4 : Value} (h0 : w1.cell? ⟨n, 0, none⟩ = some u0) (h1 : w1.cell? ⟨n, 1, none⟩ = some u1) (h2 : w1.cell? ⟨n, 2, none⟩ = some u2) (h3 : w1.cell? ⟨n, 3, none⟩ = some u3) (h4 : w1.cell? ⟨n, 4, none⟩ = some u4) (v0 v1 v2 v3 v4 : Value) :
  (((((w1.setCell ⟨n, 0, none⟩ v0).setCell ⟨n, 1, none⟩ v1).setCell ⟨n, 2, none⟩ v2).setCell ⟨n, 3, none⟩ v3).setCell ⟨n, 4, none⟩ v4).cell? ⟨n, 0, none⟩ = some v0 ∧
  (((((w1.setCell ⟨n, 0, none⟩ v0).setCell ⟨n, 1, none⟩ v1).setCell ⟨n, 2, none⟩ v2).setCell ⟨n, 3, none⟩ v3).setCell ⟨n, 4, none⟩ v4).cell? ⟨n, 1, none⟩ = some v1 ∧
  (((((w1.setCell ⟨n, 0, none⟩ v0).setCell ⟨n, 1, none⟩ v1).setCell ⟨n, 2, none⟩ v2).setCell ⟨n, 3, none⟩ v3).setCell ⟨n, 4, none⟩ v4).cell? ⟨n, 2, none⟩ = some v2 ∧
  (((((w1.setCell ⟨n, 0, none⟩ v0).setCell ⟨n, 1, none⟩ v1).setCell ⟨n, 2, none⟩ v2).setCell ⟨n, 3, none⟩ v3).setCell ⟨n, 4, none⟩ v4).cell? ⟨n, 3, none⟩ = some v3 ∧
  (((((w1.setCell ⟨n, 0, none⟩ v0).setCell ⟨n, 1, none⟩ v1).setCell ⟨n, 2, none⟩ v2).setCell ⟨n, 3, none⟩ v3).setCell ⟨n, 4, none⟩ v4).cell? ⟨n, 4, none⟩ = some v4 := by
 refine ⟨?_, ?_, ?_, ?_, ?_⟩ <;> go_simp
theorem zn0 (w1 : World) (n : Nat) (v0 v1 v2 v3 v4 : Value) : Kept [n] w1 (((((w1.setCell ⟨n, 0, none⟩ v0).setCell ⟨n, 1, none⟩ v1).setCell ⟨n, 2, none⟩ v2).setCell ⟨n, 3, none⟩ v3).setCell ⟨n, 4, none⟩ v4) :=
 (((((Kept.refl [n] w1).setCell (by simp) _).setCell (by simp) _).setCell (by simp) _).setCell (by simp) _).setCell (by simp) _
theorem zaf {w : World} {base base' : Nat} {e : TypeId} {size : Nat} {v : Value} {n : Nat} {xs : List Value} (h : w.ownsRow base e size v n xs) (hb : base' ≤ base) : w.ownsRow base' e size v n xs := by
 refine ⟨h.1, ?_⟩
 rcases h.2 with hn | ⟨g, cap, cur, rfl, hb', rest⟩
 ·exact .inl hn
 ·exact .inr ⟨g, cap, cur, rfl, by omega, rest⟩
theorem AtomInv.ends {w : World} {b : Nat} {s text : ByteArray} {at_ : Nat} {l : List RTerm} {p : Nat} {bd : Int} {v : Value} {wr : World} (h : AtomInv w b s text at_ l p bd v wr) {w' : World} (k : Kept [w.heap.size] wr w') :
  Kept [b] w w' ∧ Pars w' b s p bd ∧ p ≤ s.size ∧ w'.ownsRow w.heap.size 317 3 v l.length (cellsOf l) := by
 have hlt := h.blt
 refine ⟨⟨k.os.trans h.kept.os, k.tape.trans h.kept.tape, k.output.trans h.kept.output, Nat.le_trans h.kept.size k.size, fun i hi hn => (k.block i (Nat.lt_of_lt_of_le hi h.kept.size) (by simp; omega)).trans (h.kept.block i hi hn)⟩, h.pars.kept k (by simp; omega), h.hp, zaf (zay h.own k (by simp)) (by omega)⟩
end
section
open Go.RowKit
structure MCells (w : World) (m : Nat) (num : Nat) (neg : Bool) (pd : ByteArray) (tv : Value) (start place : Nat) (pl : Nat → Nat) : Prop where
 lt : m < w.heap.size
 c0 : w.cell? ⟨m, 0, none⟩ = some (.int .i64 num)
 c1 : w.cell? ⟨m, 1, none⟩ = some (.bool neg)
 c2 : w.cell? ⟨m, 2, none⟩ = some (.string pd)
 c3 : w.cell? ⟨m, 3, none⟩ = some tv
 c4 : w.cell? ⟨m, 4, none⟩ = some (.int .i64 start)
 c5 : w.cell? ⟨m, 5, none⟩ = some (.int .i64 place)
 cp : ∀ i, i < 4 → w.cell? ⟨m, 6 + i, none⟩ = some (.int .i64 (pl i))
 fz : ∀ o, w.frozen? ⟨m, o, none⟩ = false
theorem MCells.kept {B : List Nat} {w w' : World} {m num : Nat} {neg : Bool} {pd : ByteArray} {tv : Value} {start place : Nat} {pl : Nat → Nat} (h : MCells w m num neg pd tv start place pl) (k : Kept B w w') (hn : m ∉ B) : MCells w' m num neg pd tv start place pl :=
 ⟨Nat.lt_of_lt_of_le h.lt k.size, (k.cell h.lt hn).trans h.c0, (k.cell h.lt hn).trans h.c1, (k.cell h.lt hn).trans h.c2, (k.cell h.lt hn).trans h.c3, (k.cell h.lt hn).trans h.c4, (k.cell h.lt hn).trans h.c5, fun i hi => (k.cell h.lt hn).trans (h.cp i hi), fun o => (k.frozen h.lt hn).trans (h.fz o)⟩
def setPl (pl : Nat → Nat) (i v : Nat) : Nat → Nat := fun a => if a = i then v else pl a
theorem zex {w : World} {b o : Nat} {u v : Value} (h : w.cell? ⟨b, o, none⟩ = some u) : (w.setCell ⟨b, o, none⟩ v).cell? ⟨b, o, none⟩ = some v := by go_simp
theorem za0 {w : World} {b o b' o' : Nat} {v : Value} (h : ¬ (b = b' ∧ o = o')) : (w.setCell ⟨b, o, none⟩ v).cell? ⟨b', o', none⟩ = w.cell? ⟨b', o', none⟩ := by
 by_cases hb : b = b'
 ·subst hb
  have ho : o ≠ o' := fun e => h ⟨rfl, e⟩
  unfold World.cell? World.setCell
  simp only [Array.getElem?_modify, if_true]
  cases w.heap[b]? with
  | none => rfl
  | some x => cases x <;> simp [ho]
 ·exact World.cell?_of_block (w := w) (Below.heap_setCell w ⟨b, o, none⟩ v b' (by simp; omega))
theorem MCells.setPl {w : World} {m num : Nat} {neg : Bool} {pd : ByteArray} {tv : Value} {start place : Nat} {pl : Nat → Nat} (h : MCells w m num neg pd tv start place pl) (i v : Nat) (hi : i < 4) : MCells (w.setCell ⟨m, 6 + i, none⟩ (.int .i64 v)) m num neg pd tv start place (Go.Proofs.YtldkpahaocjdpaaGreat.setPl pl i v) := by
 refine ⟨by simpa using h.lt, ?_, ?_, ?_, ?_, ?_, ?_, fun a ha => ?_, fun o => by simpa using h.fz o⟩
 ·rw [za0 (by omega)]; exact h.c0
 ·rw [za0 (by omega)]; exact h.c1
 ·rw [za0 (by omega)]; exact h.c2
 ·rw [za0 (by omega)]; exact h.c3
 ·rw [za0 (by omega)]; exact h.c4
 ·rw [za0 (by omega)]; exact h.c5
 ·by_cases e : a = i
  ·subst e; rw [zex (h.cp a ha)]; simp [Go.Proofs.YtldkpahaocjdpaaGreat.setPl]
  ·rw [za0 (by omega), h.cp a ha]; simp [Go.Proofs.YtldkpahaocjdpaaGreat.setPl, e]
theorem MCells.setTv {w : World} {m num : Nat} {neg : Bool} {pd : ByteArray} {tv : Value} {start place : Nat} {pl : Nat → Nat} (h : MCells w m num neg pd tv start place pl) (v : Value) : MCells (w.setCell ⟨m, 3, none⟩ v) m num neg pd v start place pl := by
 refine ⟨by simpa using h.lt, ?_, ?_, ?_, zex h.c3, ?_, ?_, fun a ha => ?_, fun o => by simpa using h.fz o⟩
 ·rw [za0 (by omega)]; exact h.c0
 ·rw [za0 (by omega)]; exact h.c1
 ·rw [za0 (by omega)]; exact h.c2
 ·rw [za0 (by omega)]; exact h.c4
 ·rw [za0 (by omega)]; exact h.c5
 ·rw [za0 (by omega)]; exact h.cp a ha
def zbj (l : List (Bool × ByteArray)) : List Value := l.map fun t => zfv t.1 t.2
def zat (s : ByteArray) : Nat → Nat → List (Bool × ByteArray) → (Nat → Nat) → Bool × Nat × List (Bool × ByteArray) × (Nat → Nat)
 | 0, pos, l, pl => (false, pos, l, pl)
 | f + 1, pos, l, pl =>
  if (zae s pos).1 = 2 ∨ (zae s pos).1 = 3 then
   (if (zae s (zae s pos).2.2).1 = 7 then zat s f (zae s (zae s pos).2.2).2.2 (l ++ [(decide ((zae s pos).1 = 3), zbp s pos)]) (setPl pl l.length (zae s pos).2.1)
   else (decide ((zae s (zae s pos).2.2).1 = 6), za2 s (zae s pos).2.2 6, l ++ [(decide ((zae s pos).1 = 3), zbp s pos)], setPl pl l.length (zae s pos).2.1))
  else (false, pos, l, setPl pl l.length (zae s pos).2.1)
structure TInv (w : World) (b m : Nat) (s : ByteArray) (num : Nat) (mv : Value) (rn : Nat) (neg : Bool) (pd : ByteArray) (start place : Nat) (l : List (Bool × ByteArray)) (pos : Nat) (pl : Nat → Nat) (tv : Value) (wr : World) : Prop where
 rdr : Rdr wr b s pos num mv
 hp : pos ≤ s.size
 mc : MCells wr m rn neg pd tv start place pl
 own : wr.ownsRow w.heap.size 191 1 tv l.length (zbj l)
 kept : Kept [b, m] w wr
 bm : b ≠ m
 bw : b < w.heap.size
 mw : m < w.heap.size
theorem TInv.call {w : World} {b m : Nat} {s : ByteArray} {num : Nat} {mv : Value} {rn : Nat} {neg : Bool} {pd : ByteArray} {start place : Nat} {l : List (Bool × ByteArray)} {pos : Nat} {pl : Nat → Nat} {tv : Value} {wr w1 : World} {pos' : Nat} (h : TInv w b m s num mv rn neg pd start place l pos pl tv wr) (k : Kept [b] wr w1) (hr : Rdr w1 b s pos' num mv) (hp : pos' ≤ s.size) : TInv w b m s num mv rn neg pd start place l pos' pl tv w1 :=
 have h1 := h.bm
 have h2 := h.bw
 ⟨hr, hp, h.mc.kept k (by simp; omega), zay h.own k (by simp; omega), h.kept.trans (k.mono (by simp)), h.bm, h.bw, h.mw⟩
theorem TInv.place {w : World} {b m : Nat} {s : ByteArray} {num : Nat} {mv : Value} {rn : Nat} {neg : Bool} {pd : ByteArray} {start place : Nat} {l : List (Bool × ByteArray)} {pos : Nat} {pl : Nat → Nat} {tv : Value} {wr : World} (h : TInv w b m s num mv rn neg pd start place l pos pl tv wr) (i v : Nat) (hi : i < 4) : TInv w b m s num mv rn neg pd start place l pos (setPl pl i v) tv (wr.setCell ⟨m, 6 + i, none⟩ (.int .i64 v)) :=
 have h1 := h.bm
 have h3 := h.mw
 ⟨h.rdr.kept ((Kept.refl [m] _).setCell (by simp) _) (by simp; omega), h.hp, h.mc.setPl i v hi, ownsRow_setCell_below h.own (by simpa using h3) _, h.kept.setCell (by simp) _, h.bm, h.bw, h.mw⟩
theorem TInv.drew {w : World} {b m : Nat} {s : ByteArray} {num : Nat} {mv : Value} {rn : Nat} {neg : Bool} {pd : ByteArray} {start place : Nat} {l : List (Bool × ByteArray)} {pos : Nat} {pl : Nat → Nat} {tv : Value} {wr : World} (h : TInv w b m s num mv rn neg pd start place l pos pl tv wr) : TInv w b m s num mv rn neg pd start place l pos pl tv wr.drew :=
 have k := (Kept.refl [] wr).drew
 ⟨h.rdr.kept k (by simp), h.hp, h.mc.kept k (by simp), zay h.own k (by simp), h.kept.drew, h.bm, h.bw, h.mw⟩
theorem TInv.append {w : World} {b m : Nat} {s : ByteArray} {num : Nat} {mv : Value} {rn : Nat} {neg : Bool} {pd : ByteArray} {start place : Nat} {l : List (Bool × ByteArray)} {pos : Nat} {pl : Nat → Nat} {tv : Value} {w1 w5 : World} (h : TInv w b m s num mv rn neg pd start place l pos pl tv w1) {o1 : Obj} {v' : Value} (t : Bool × ByteArray)
  (hown : w5.ownsRow w.heap.size 191 1 v' (l.length + 1) (zbj l ++ [zfv t.1 t.2])) (hg : (w1.alloc o1).grownBy w5 tv.ownBlock) :
  TInv w b m s num mv rn neg pd start place (l ++ [t]) pos pl v' (w5.setCell ⟨m, 3, none⟩ v') ∧ MCells w5 m rn neg pd tv start place pl := by
 have h1 := h.bm
 have h2 := h.bw
 have h3 := h.mw
 have hrow : ∀ k, tv.ownBlock = some k → w.heap.size ≤ k := fun k e => (h.own.lt k e).1
 have k5 : Kept tv.ownBlock.toList w1 w5 := ((Kept.refl _ w1).alloc o1).grown hg (fun k e => .inr (by simp [e]))
 have hnot : ∀ k, k < w.heap.size → k ∉ tv.ownBlock.toList := by
  intro k hk hm
  cases hv : tv.ownBlock with
  | none => simp [hv] at hm
  | some x => simp [hv] at hm; have := hrow x hv; omega
 have m5 := h.mc.kept k5 (hnot _ h3)
 refine ⟨⟨(h.rdr.kept k5 (hnot _ h2)).kept ((Kept.refl [m] _).setCell (by simp) _) (by simp; omega), h.hp, m5.setTv v', ?_, ?_, h.bm, h.bw, h.mw⟩, m5⟩
 ·have := ownsRow_setCell_below hown (a := ⟨m, 3, none⟩) (by simpa using h3) v'
  simpa [zbj] using this
 ·exact ((h.kept.alloc o1).grown hg (fun k e => .inl (hrow k e))).setCell (by simp) _
end
end Go.Proofs.YtldkpahaocjdpaaGreat
