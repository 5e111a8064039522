/-
  Plain: what the reference's parser reads as an atom, a literal, a rule; how its terms lie in memory.
-/
import Derived.Test.YtldkpahaocjdpaaGreatLoadsT09
import Derived.Deep.LoopGhost
namespace Go.Proofs.YtldkpahaocjdpaaGreat
open Go.RowKit

structure RTerm where
  text : ByteArray
  isVar : Bool
  at_ : Nat

structure RAtom where
  pred : ByteArray
  terms : List RTerm
  no : Bool
  at_ : Nat
  noAt : Nat

def RTerm.cells (t : RTerm) : List Value := [.string t.text, .bool t.isVar, .int .i64 t.at_]

abbrev chr (c : UInt8) : ByteArray := { data := #[c] }

/-- The fault ahead of a term that is read as the n-th. -/
def termBad (s : ByteArray) (pos : Nat) (bad : Int) (n : Nat) : Int :=
  if ((tok s pos).kind != 110 && (tok s pos).kind != 118) || n == 4 then failS s pos bad else bad

def termOf (s : ByteArray) (pos : Nat) : RTerm := ⟨(tok s pos).text, (tok s pos).kind == 118, (tok s pos).at_⟩

/-- Terms, behind the bracket: those so far; the place of the next token; the fault. -/
def termsS (s : ByteArray) : Nat → Nat → Int → List RTerm → List RTerm × Nat × Int
  | 0, pos, bad, l => (l, pos, bad)
  | f + 1, pos, bad, l =>
    let bad1 := termBad s pos bad l.length
    let pos2 := takePos s pos bad1
    let bad2 := takeBad s pos bad1
    let pos3 := hasPos s pos2 bad2 (chr 44)
    let bad3 := hasBad s pos2 bad2 (chr 44)
    if isS s pos2 bad2 (chr 44) then termsS s f pos3 bad3 (l ++ [termOf s pos])
    else (l ++ [termOf s pos], takePos s pos3 (needBad0 s pos3 bad3 (chr 41)), takeBad s pos3 (needBad0 s pos3 bad3 (chr 41)))

/-- An atom: what it is; the place of the next token; the fault. -/
def atomBad1 (s : ByteArray) (pos : Nat) (bad : Int) : Int := if (tok s pos).kind != 110 then failS s pos bad else bad
def atomPos2 (s : ByteArray) (pos : Nat) (bad : Int) : Nat := takePos s pos (atomBad1 s pos bad)
def atomBad2 (s : ByteArray) (pos : Nat) (bad : Int) : Int := takeBad s pos (atomBad1 s pos bad)
def atomRest (s : ByteArray) (pos : Nat) (bad : Int) : List RTerm × Nat × Int :=
  if isS s (atomPos2 s pos bad) (atomBad2 s pos bad) (chr 40) then
    termsS s 5 (hasPos s (atomPos2 s pos bad) (atomBad2 s pos bad) (chr 40)) (hasBad s (atomPos2 s pos bad) (atomBad2 s pos bad) (chr 40)) []
  else ([], hasPos s (atomPos2 s pos bad) (atomBad2 s pos bad) (chr 40), hasBad s (atomPos2 s pos bad) (atomBad2 s pos bad) (chr 40))

theorem isS_neg {s : ByteArray} {pos : Nat} {bad : Int} {wd : ByteArray} (h : isS s pos bad wd = true) : bad < 0 := by
  unfold isS at h; simp at h; exact h.1

theorem takeBad_nonneg {s : ByteArray} {pos : Nat} {bad : Int} (h : 0 ≤ bad) : 0 ≤ takeBad s pos bad := by
  unfold takeBad; split
  · exact fail_nonneg _ _ _
  · exact h

theorem hasPos_le {s : ByteArray} {pos : Nat} {bad : Int} {wd : ByteArray} (h : pos ≤ s.size) : hasPos s pos bad wd ≤ s.size := by
  unfold hasPos; split
  · exact takePos_le s pos bad h
  · exact h

/-- A fifth term: no comma is taken behind it. -/
theorem fifth {s : ByteArray} {pos : Nat} {bad : Int} {wd : ByteArray} : isS s (takePos s pos (termBad s pos bad 4)) (takeBad s pos (termBad s pos bad 4)) wd = false := by
  cases h : isS s (takePos s pos (termBad s pos bad 4)) (takeBad s pos (termBad s pos bad 4)) wd with
  | false => rfl
  | true =>
    have h1 := isS_neg h
    have h2 : 0 ≤ termBad s pos bad 4 := by simp [termBad]; exact fail_nonneg _ _ _
    have h3 := takeBad_nonneg (s := s) (pos := pos) h2
    omega

/-- The cells of the atom that is being read, in its own block n: the predicate, the terms' slice, no, its place, 0. -/
structure ACells (w : World) (n : Nat) (pred : ByteArray) (v : Value) (no : Bool) (at_ noAt : Nat) : Prop where
  c0 : w.cell? ⟨n, 0, none⟩ = some (.string pred)
  c1 : w.cell? ⟨n, 1, none⟩ = some v
  c2 : w.cell? ⟨n, 2, none⟩ = some (.bool no)
  c3 : w.cell? ⟨n, 3, none⟩ = some (.int .i64 at_)
  c4 : w.cell? ⟨n, 4, none⟩ = some (.int .i64 noAt)
  fz : ∀ o, w.frozen? ⟨n, o, none⟩ = false

theorem ACells.kept {B : List Nat} {w w' : World} {n : Nat} {pred : ByteArray} {v : Value} {no : Bool} {at_ noAt : Nat} (h : ACells w n pred v no at_ noAt) (k : Kept B w w') (hlt : n < w.heap.size) (hn : n ∉ B) : ACells w' n pred v no at_ noAt :=
  ⟨(k.cell hlt hn).trans h.c0, (k.cell hlt hn).trans h.c1, (k.cell hlt hn).trans h.c2, (k.cell hlt hn).trans h.c3, (k.cell hlt hn).trans h.c4, fun o => (k.frozen hlt hn).trans (h.fz o)⟩

theorem Kept.grown {B : List Nat} {a w w' : World} {row : Option Nat} (h : Kept B a w) (hg : w.grownBy w' row) (hr : ∀ k, row = some k → a.heap.size ≤ k ∨ k ∈ B) : Kept B a w' :=
  ⟨hg.os.trans h.os, hg.tape.trans h.tape, hg.output.trans h.output, Nat.le_trans h.size hg.size, fun k hk hn => (hg.block k (Nat.lt_of_lt_of_le hk h.size) (fun e => by rcases hr k e.symm with h1 | h1; omega; exact hn h1)).trans (h.block k hk hn)⟩

theorem Kept.of_grown {w w' : World} {row : Option Nat} (hg : w.grownBy w' row) : Kept row.toList w w' :=
  (Kept.refl _ _).grown hg (fun k e => .inr (by simp [e]))

theorem ownsRow_kept {B : List Nat} {w w' : World} {base : Nat} {e : TypeId} {size : Nat} {v : Value} {n : Nat} {xs : List Value} (h : w.ownsRow base e size v n xs) (k : Kept B w w') (hB : ∀ x ∈ B, x < base) : w'.ownsRow base e size v n xs := by
  refine ⟨h.1, ?_⟩
  rcases h.2 with hn | ⟨g, cap, cur, rfl, hb, hgg, rest⟩
  · exact .inl hn
  · refine .inr ⟨g, cap, cur, rfl, hb, ?_, rest⟩
    rw [k.block g (Array.getElem?_eq_some_iff.1 hgg).1 (fun hm => by have := hB g hm; omega)]
    exact hgg

def cellsOf (l : List RTerm) : List Value := l.flatMap RTerm.cells

theorem cellsOf_snoc (l : List RTerm) (t : RTerm) : cellsOf (l ++ [t]) = cellsOf l ++ t.cells := by simp [cellsOf]

structure AtomInv (w : World) (b : Nat) (s text : ByteArray) (at_ : Nat) (l : List RTerm) (p : Nat) (bd : Int) (v : Value) (wr : World) : Prop where
  pars : Pars wr b s p bd
  hp : p ≤ s.size
  kept : Kept [b] w wr
  ac : ACells wr (w.heap.size + 1) text v false at_ 0
  rc : ACells wr w.heap.size { data := #[] } (.slice none 0 0) false 0 0
  sz : w.heap.size + 2 ≤ wr.heap.size
  own : wr.ownsRow (w.heap.size + 2) 317 3 v l.length (cellsOf l)
  blt : b < w.heap.size

/-- A call that writes the parser alone. -/
theorem AtomInv.call {w : World} {b : Nat} {s text : ByteArray} {at_ : Nat} {l : List RTerm} {p : Nat} {bd : Int} {v : Value} {wr w1 : World} {p' : Nat} {bd' : Int} (h : AtomInv w b s text at_ l p bd v wr) (k : Kept [b] wr w1) (hp : Pars w1 b s p' bd') (hl : p' ≤ s.size) : AtomInv w b s text at_ l p' bd' v w1 :=
  have hlt := h.blt
  have hsz := h.sz
  ⟨hp, hl, h.kept.trans k, h.ac.kept k (by omega) (by simp; omega), h.rc.kept k (by omega) (by simp; omega), Nat.le_trans h.sz k.size, ownsRow_kept h.own k (by simp; omega), h.blt⟩

/-- A new term is appended. -/
theorem AtomInv.append {w : World} {b : Nat} {s text : ByteArray} {at_ : Nat} {l : List RTerm} {p : Nat} {bd : Int} {v : Value} {w1 w5 : World} (h : AtomInv w b s text at_ l p bd v w1) {o1 o2 : Obj} {v' : Value} (t : RTerm)
    (hown : w5.ownsRow (w.heap.size + 2) 317 3 v' (l.length + 1) (cellsOf l ++ t.cells)) (hg : ((w1.alloc o1).alloc o2).grownBy w5 v.ownBlock) :
    AtomInv w b s text at_ (l ++ [t]) p bd v' (w5.setCell ⟨w.heap.size + 1, 1, none⟩ v') ∧ ACells w5 (w.heap.size + 1) text v false at_ 0 := by
  have hlt := h.blt
  have hsz := h.sz
  have hrow : ∀ k, v.ownBlock = some k → w.heap.size + 2 ≤ k := fun k e => (h.own.lt k e).1
  have k5 : Kept v.ownBlock.toList w1 w5 := (((Kept.refl _ w1).alloc o1).alloc o2).grown hg (fun k e => .inr (by simp [e]))
  have hnot : ∀ k, k < w.heap.size + 2 → k ∉ v.ownBlock.toList := by
    intro k hk hm
    cases hv : v.ownBlock with
    | none => simp [hv] at hm
    | some x => simp [hv] at hm; have := hrow x hv; omega
  have a5 := h.ac.kept k5 (by omega) (hnot _ (by omega))
  refine ⟨⟨?_, h.hp, ?_, ?_, ?_, ?_, ?_, h.blt⟩, a5⟩
  · exact (h.pars.kept k5 (hnot _ (by omega))).kept ((Kept.refl [w.heap.size + 1] _).setCell (by simp) _) (by simp; omega)
  · exact ((((h.kept.alloc o1).alloc o2).grown hg (fun k e => .inl (by have := hrow k e; omega)))).setCell (.inr (by simp)) _
  · obtain ⟨x0, x1, x2, x3, x4, xf⟩ := a5
    exact ⟨by go_simp, by go_simp, by go_simp, by go_simp, by go_simp, by go_simp⟩
  · exact (h.rc.kept k5 (by omega) (hnot _ (by omega))).kept ((Kept.refl [w.heap.size + 1] _).setCell (by simp) _) (by have := k5.size; omega) (by simp)
  · have := k5.size; simp; omega
  · rw [cellsOf_snoc, List.length_append]
    exact ownsRow_setCell_below hown (by simp) _

theorem termsS_step (s : ByteArray) (p : Nat) (bd : Int) (l : List RTerm) (h : l.length ≤ 4) : termsS s (5 - l.length) p bd l =
    if isS s (takePos s p (termBad s p bd l.length)) (takeBad s p (termBad s p bd l.length)) { data := #[44] } then
      termsS s (5 - (l ++ [termOf s p]).length) (hasPos s (takePos s p (termBad s p bd l.length)) (takeBad s p (termBad s p bd l.length)) { data := #[44] }) (hasBad s (takePos s p (termBad s p bd l.length)) (takeBad s p (termBad s p bd l.length)) { data := #[44] }) (l ++ [termOf s p])
    else (l ++ [termOf s p], takePos s (hasPos s (takePos s p (termBad s p bd l.length)) (takeBad s p (termBad s p bd l.length)) { data := #[44] }) (needBad0 s (hasPos s (takePos s p (termBad s p bd l.length)) (takeBad s p (termBad s p bd l.length)) { data := #[44] }) (hasBad s (takePos s p (termBad s p bd l.length)) (takeBad s p (termBad s p bd l.length)) { data := #[44] }) { data := #[41] }), takeBad s (hasPos s (takePos s p (termBad s p bd l.length)) (takeBad s p (termBad s p bd l.length)) { data := #[44] }) (needBad0 s (hasPos s (takePos s p (termBad s p bd l.length)) (takeBad s p (termBad s p bd l.length)) { data := #[44] }) (hasBad s (takePos s p (termBad s p bd l.length)) (takeBad s p (termBad s p bd l.length)) { data := #[44] }) { data := #[41] })) := by
  have e1 : 5 - l.length = (4 - l.length) + 1 := by omega
  have e2 : 5 - (l ++ [termOf s p]).length = 4 - l.length := by simp
  rw [e1, e2, termsS]

theorem own_slice {w : World} {base : Nat} {e : TypeId} {size : Nat} {v : Value} {n : Nat} {xs : List Value} (h : w.ownsRow base e size v n xs) : ∃ a cap, v = .slice a n cap := by
  rcases h.2 with ⟨rfl, rfl⟩ | ⟨g, cap, cur, rfl, _⟩
  · exact ⟨none, 0, rfl⟩
  · exact ⟨_, _, rfl⟩

theorem five_ways (s : ByteArray) (p : Nat) (bd : Int) (l : List RTerm) : (((tok s p).kind != 110) = true ∧ ((tok s p).kind != 118) = true ∧ termBad s p bd l.length = failS s p bd) ∨
    (((tok s p).kind != 110) = false ∧ ((l.length : Int) == 4) = true ∧ termBad s p bd l.length = failS s p bd) ∨
    (((tok s p).kind != 110) = true ∧ ((tok s p).kind != 118) = false ∧ ((l.length : Int) == 4) = true ∧ termBad s p bd l.length = failS s p bd) ∨
    (((tok s p).kind != 110) = false ∧ ((l.length : Int) == 4) = false ∧ termBad s p bd l.length = bd) ∨
    (((tok s p).kind != 110) = true ∧ ((tok s p).kind != 118) = false ∧ ((l.length : Int) == 4) = false ∧ termBad s p bd l.length = bd) := by
  have e : ((l.length : Int) == 4) = (l.length == 4) := by
    rw [Bool.eq_iff_iff]; simp; omega
  rw [e]
  unfold termBad
  cases (tok s p).kind != 110 <;> cases (tok s p).kind != 118 <;> cases l.length == 4 <;> simp

theorem more_le {s : ByteArray} {p : Nat} {bd : Int} {l : List RTerm} {wd : ByteArray} (h4 : l.length ≤ 4) (h : isS s (takePos s p (termBad s p bd l.length)) (takeBad s p (termBad s p bd l.length)) wd = true) : l.length + 1 ≤ 4 := by
  rcases Nat.lt_or_ge l.length 4 with h1 | h1
  · omega
  · have e : l.length = 4 := by omega
    rw [e, fifth] at h
    cases h

theorem set5 {w1 : World} {n : Nat} {u0 u1 u2 u3 u4 : Value} (h0 : w1.cell? ⟨n, 0, none⟩ = some u0) (h1 : w1.cell? ⟨n, 1, none⟩ = some u1) (h2 : w1.cell? ⟨n, 2, none⟩ = some u2) (h3 : w1.cell? ⟨n, 3, none⟩ = some u3) (h4 : w1.cell? ⟨n, 4, none⟩ = some u4) (v0 v1 v2 v3 v4 : Value) :
    (((((w1.setCell ⟨n, 0, none⟩ v0).setCell ⟨n, 1, none⟩ v1).setCell ⟨n, 2, none⟩ v2).setCell ⟨n, 3, none⟩ v3).setCell ⟨n, 4, none⟩ v4).cell? ⟨n, 0, none⟩ = some v0 ∧
    (((((w1.setCell ⟨n, 0, none⟩ v0).setCell ⟨n, 1, none⟩ v1).setCell ⟨n, 2, none⟩ v2).setCell ⟨n, 3, none⟩ v3).setCell ⟨n, 4, none⟩ v4).cell? ⟨n, 1, none⟩ = some v1 ∧
    (((((w1.setCell ⟨n, 0, none⟩ v0).setCell ⟨n, 1, none⟩ v1).setCell ⟨n, 2, none⟩ v2).setCell ⟨n, 3, none⟩ v3).setCell ⟨n, 4, none⟩ v4).cell? ⟨n, 2, none⟩ = some v2 ∧
    (((((w1.setCell ⟨n, 0, none⟩ v0).setCell ⟨n, 1, none⟩ v1).setCell ⟨n, 2, none⟩ v2).setCell ⟨n, 3, none⟩ v3).setCell ⟨n, 4, none⟩ v4).cell? ⟨n, 3, none⟩ = some v3 ∧
    (((((w1.setCell ⟨n, 0, none⟩ v0).setCell ⟨n, 1, none⟩ v1).setCell ⟨n, 2, none⟩ v2).setCell ⟨n, 3, none⟩ v3).setCell ⟨n, 4, none⟩ v4).cell? ⟨n, 4, none⟩ = some v4 := by
  refine ⟨?_, ?_, ?_, ?_, ?_⟩ <;> go_simp

theorem kept5 (w1 : World) (n : Nat) (v0 v1 v2 v3 v4 : Value) : Kept [n] w1 (((((w1.setCell ⟨n, 0, none⟩ v0).setCell ⟨n, 1, none⟩ v1).setCell ⟨n, 2, none⟩ v2).setCell ⟨n, 3, none⟩ v3).setCell ⟨n, 4, none⟩ v4) :=
  (((((Kept.refl [n] w1).setCell (by simp) _).setCell (by simp) _).setCell (by simp) _).setCell (by simp) _).setCell (by simp) _

theorem ownsRow_low {w : World} {base base' : Nat} {e : TypeId} {size : Nat} {v : Value} {n : Nat} {xs : List Value} (h : w.ownsRow base e size v n xs) (hb : base' ≤ base) : w.ownsRow base' e size v n xs := by
  refine ⟨h.1, ?_⟩
  rcases h.2 with hn | ⟨g, cap, cur, rfl, hb', rest⟩
  · exact .inl hn
  · exact .inr ⟨g, cap, cur, rfl, by omega, rest⟩

theorem AtomInv.ends {w : World} {b : Nat} {s text : ByteArray} {at_ : Nat} {l : List RTerm} {p : Nat} {bd : Int} {v : Value} {wr : World} (h : AtomInv w b s text at_ l p bd v wr) {w' : World} (k : Kept [w.heap.size] wr w') :
    Kept [b] w w' ∧ Pars w' b s p bd ∧ p ≤ s.size ∧ w'.ownsRow w.heap.size 317 3 v l.length (cellsOf l) := by
  have hlt := h.blt
  refine ⟨⟨k.os.trans h.kept.os, k.tape.trans h.kept.tape, k.output.trans h.kept.output, Nat.le_trans h.kept.size k.size, fun i hi hn => (k.block i (Nat.lt_of_lt_of_le hi h.kept.size) (by simp; omega)).trans (h.kept.block i hi hn)⟩, h.pars.kept k (by simp; omega), h.hp, ownsRow_low (ownsRow_kept h.own k (by simp)) (by omega)⟩

end Go.Proofs.YtldkpahaocjdpaaGreat
