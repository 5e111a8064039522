/-
  Plain: what the reference's parser reads as a rule; how a rule lies in memory while it is read.
-/
import Derived.Test.YtldkpahaocjdpaaGreatLoadsT17
namespace Go.Proofs.YtldkpahaocjdpaaGreat
open Go.RowKit

def RAtom.cells (A : RAtom) (tv : Value) : List Value := [.string A.pred, tv, .bool A.no, .int .i64 A.at_, .int .i64 A.noAt]

/-- The literals' cells, each with its terms' slice. -/
def litCells (bs : List (RAtom × Value)) : List Value := bs.flatMap fun x => x.1.cells x.2

theorem litCells_snoc (l : List (RAtom × Value)) (A : RAtom) (tv : Value) : litCells (l ++ [(A, tv)]) = litCells l ++ A.cells tv := by simp [litCells]

def litBad1 (s : ByteArray) (p : Nat) (bd : Int) (n : Nat) : Int := if n == 3 then failS s p bd else bd

def bodyS (s : ByteArray) : Nat → Nat → Int → List RAtom → List RAtom × Nat × Int
  | 0, p, bd, l => (l, p, bd)
  | f + 1, p, bd, l =>
    if isS s (litRest s p (litBad1 s p bd l.length)).1 (litRest s p (litBad1 s p bd l.length)).2 { data := #[44] } then
      bodyS s f (hasPos s (litRest s p (litBad1 s p bd l.length)).1 (litRest s p (litBad1 s p bd l.length)).2 { data := #[44] }) (hasBad s (litRest s p (litBad1 s p bd l.length)).1 (litRest s p (litBad1 s p bd l.length)).2 { data := #[44] }) (l ++ [litAtom s p (litBad1 s p bd l.length)])
    else (l ++ [litAtom s p (litBad1 s p bd l.length)], hasPos s (litRest s p (litBad1 s p bd l.length)).1 (litRest s p (litBad1 s p bd l.length)).2 { data := #[44] }, hasBad s (litRest s p (litBad1 s p bd l.length)).1 (litRest s p (litBad1 s p bd l.length)).2 { data := #[44] })

structure RRule where
  head : RAtom
  body : List RAtom

def headOf (s : ByteArray) (pos : Nat) (bad : Int) : RAtom := ⟨(tok s pos).text, (atomRest s pos bad).1, false, (tok s pos).at_, 0⟩

/-- The body, the place and the fault behind it. -/
def bodyOf (s : ByteArray) (pos : Nat) (bad : Int) : List RAtom × Nat × Int :=
  if isS s (atomRest s pos bad).2.1 (atomRest s pos bad).2.2 { data := #[58, 45] } then
    bodyS s 4 (hasPos s (atomRest s pos bad).2.1 (atomRest s pos bad).2.2 { data := #[58, 45] }) (hasBad s (atomRest s pos bad).2.1 (atomRest s pos bad).2.2 { data := #[58, 45] }) []
  else ([], hasPos s (atomRest s pos bad).2.1 (atomRest s pos bad).2.2 { data := #[58, 45] }, hasBad s (atomRest s pos bad).2.1 (atomRest s pos bad).2.2 { data := #[58, 45] })

def rulePos (s : ByteArray) (pos : Nat) (bad : Int) : Nat := takePos s (bodyOf s pos bad).2.1 (needBad0 s (bodyOf s pos bad).2.1 (bodyOf s pos bad).2.2 { data := #[46] })
def ruleBad (s : ByteArray) (pos : Nat) (bad : Int) : Int := takeBad s (bodyOf s pos bad).2.1 (needBad0 s (bodyOf s pos bad).2.1 (bodyOf s pos bad).2.2 { data := #[46] })

theorem has_stays {s : ByteArray} {p : Nat} {bd : Int} {wd : ByteArray} (h : 0 ≤ bd) : 0 ≤ hasBad s p bd wd := by
  unfold hasBad; split
  · exact takeBad_nonneg h
  · exact h
theorem need_stays {s : ByteArray} {p : Nat} {bd : Int} {wd : ByteArray} (h : 0 ≤ bd) : 0 ≤ needBad0 s p bd wd := by
  unfold needBad0; split
  · exact h
  · exact fail_nonneg _ _ _
theorem termBad_stays {s : ByteArray} {p : Nat} {bd : Int} {n : Nat} (h : 0 ≤ bd) : 0 ≤ termBad s p bd n := by
  unfold termBad; split
  · exact fail_nonneg _ _ _
  · exact h
theorem terms_stays {s : ByteArray} (f : Nat) : ∀ {p : Nat} {bd : Int} {l : List RTerm}, 0 ≤ bd → 0 ≤ (termsS s f p bd l).2.2 := by
  induction f with
  | zero => intro p bd l h; exact h
  | succ f ih =>
    intro p bd l h
    have h1 : 0 ≤ takeBad s p (termBad s p bd l.length) := takeBad_nonneg (termBad_stays h)
    rw [termsS]
    split
    · exact ih (has_stays h1)
    · exact takeBad_nonneg (need_stays (has_stays h1))
theorem atom_stays {s : ByteArray} {p : Nat} {bd : Int} (h : 0 ≤ bd) : 0 ≤ (atomRest s p bd).2.2 := by
  have h0 : 0 ≤ atomBad1 s p bd := by
    unfold atomBad1; split
    · exact fail_nonneg _ _ _
    · exact h
  have h1 : 0 ≤ atomBad2 s p bd := takeBad_nonneg h0
  unfold atomRest
  split
  · exact terms_stays 5 (has_stays h1)
  · exact has_stays h1
theorem lit_stays {s : ByteArray} {p : Nat} {bd : Int} (h : 0 ≤ bd) : 0 ≤ (litRest s p bd).2 := by
  unfold litRest
  refine atom_stays ?_
  unfold litBad; split
  · exact takeBad_nonneg h
  · exact h

theorem lit_more {s : ByteArray} {p : Nat} {bd : Int} {n : Nat} {wd : ByteArray} (h3 : n ≤ 3) (h : isS s (litRest s p (litBad1 s p bd n)).1 (litRest s p (litBad1 s p bd n)).2 wd = true) : n + 1 ≤ 3 := by
  rcases Nat.lt_or_ge n 3 with h1 | h1
  · omega
  · have e : n = 3 := by omega
    subst e
    have h2 := isS_neg h
    have h4 : 0 ≤ litBad1 s p bd 3 := by simp [litBad1]; exact fail_nonneg _ _ _
    have h5 := lit_stays (s := s) (p := p) h4
    omega

theorem bodyS_step (s : ByteArray) (p : Nat) (bd : Int) (l : List RAtom) (h : l.length ≤ 3) : bodyS s (4 - l.length) p bd l =
    if isS s (litRest s p (litBad1 s p bd l.length)).1 (litRest s p (litBad1 s p bd l.length)).2 { data := #[44] } then
      bodyS s (4 - (l ++ [litAtom s p (litBad1 s p bd l.length)]).length) (hasPos s (litRest s p (litBad1 s p bd l.length)).1 (litRest s p (litBad1 s p bd l.length)).2 { data := #[44] }) (hasBad s (litRest s p (litBad1 s p bd l.length)).1 (litRest s p (litBad1 s p bd l.length)).2 { data := #[44] }) (l ++ [litAtom s p (litBad1 s p bd l.length)])
    else (l ++ [litAtom s p (litBad1 s p bd l.length)], hasPos s (litRest s p (litBad1 s p bd l.length)).1 (litRest s p (litBad1 s p bd l.length)).2 { data := #[44] }, hasBad s (litRest s p (litBad1 s p bd l.length)).1 (litRest s p (litBad1 s p bd l.length)).2 { data := #[44] }) := by
  have e1 : 4 - l.length = (3 - l.length) + 1 := by omega
  have e2 : 4 - (l ++ [litAtom s p (litBad1 s p bd l.length)]).length = 3 - l.length := by simp
  rw [e1, e2, bodyS]

/-- A rule's six cells in its own block. -/
structure RCells (w : World) (n : Nat) (A : RAtom) (hv bv : Value) : Prop where
  c0 : w.cell? ⟨n, 0, none⟩ = some (.string A.pred)
  c1 : w.cell? ⟨n, 1, none⟩ = some hv
  c2 : w.cell? ⟨n, 2, none⟩ = some (.bool A.no)
  c3 : w.cell? ⟨n, 3, none⟩ = some (.int .i64 A.at_)
  c4 : w.cell? ⟨n, 4, none⟩ = some (.int .i64 A.noAt)
  c5 : w.cell? ⟨n, 5, none⟩ = some bv
  fz : ∀ o, w.frozen? ⟨n, o, none⟩ = false

theorem RCells.kept {B : List Nat} {w w' : World} {n : Nat} {A : RAtom} {hv bv : Value} (h : RCells w n A hv bv) (k : Kept B w w') (hlt : n < w.heap.size) (hn : n ∉ B) : RCells w' n A hv bv :=
  ⟨(k.cell hlt hn).trans h.c0, (k.cell hlt hn).trans h.c1, (k.cell hlt hn).trans h.c2, (k.cell hlt hn).trans h.c3, (k.cell hlt hn).trans h.c4, (k.cell hlt hn).trans h.c5, fun o => (k.frozen hlt hn).trans (h.fz o)⟩

theorem own_ne {w : World} {base base' : Nat} {e e' : TypeId} {size size' : Nat} {v v' : Value} {n n' : Nat} {xs xs' : List Value} (h : w.ownsRow base e size v n xs) (h' : w.ownsRow base' e' size' v' n' xs') (hne : e ≠ e') : v.ownBlock = none ∨ v.ownBlock ≠ v'.ownBlock := by
  rcases h.2 with ⟨rfl, _⟩ | ⟨g, cap, cur, rfl, _, hg, _⟩
  · exact .inl rfl
  · refine .inr ?_
    rcases h'.2 with ⟨rfl, _⟩ | ⟨g', cap', cur', rfl, _, hg', _⟩
    · simp [Value.ownBlock]
    · simp only [Value.ownBlock]
      intro e1
      injection e1 with e1
      subst e1
      rw [hg] at hg'
      injection hg' with hg'
      injection hg' with _ hg' _
      exact hne hg'

def zeroAtom : RAtom := ⟨{ data := #[] }, [], false, 0, 0⟩

structure RuleInv (w : World) (b m : Nat) (s : ByteArray) (H : RAtom) (hv : Value) (bs : List (RAtom × Value)) (p : Nat) (bd : Int) (bv : Value) (wr : World) : Prop where
  pars : Pars wr b s p bd
  hp : p ≤ s.size
  kept : Kept [b] w wr
  rc : RCells wr m H hv bv
  zc : RCells wr w.heap.size zeroAtom (.slice none 0 0) (.slice none 0 0)
  sz : m + 1 ≤ wr.heap.size
  nm : w.heap.size < m
  own : wr.ownsRow (m + 1) 243 5 bv bs.length (litCells bs)
  hd : wr.ownsRow (w.heap.size + 1) 317 3 hv H.terms.length (cellsOf H.terms)
  hm : ∀ k, hv.ownBlock = some k → k < m
  bl : ∀ x ∈ bs, wr.ownsRow (m + 1) 317 3 x.2 x.1.terms.length (cellsOf x.1.terms)
  blt : b < w.heap.size

theorem RuleInv.call {w : World} {b m : Nat} {s : ByteArray} {H : RAtom} {hv : Value} {bs : List (RAtom × Value)} {p : Nat} {bd : Int} {bv : Value} {wr w1 : World} {p' : Nat} {bd' : Int} (h : RuleInv w b m s H hv bs p bd bv wr) (k : Kept [b] wr w1) (hp : Pars w1 b s p' bd') (hl : p' ≤ s.size) : RuleInv w b m s H hv bs p' bd' bv w1 :=
  have hlt := h.blt
  have hnm := h.nm
  have hsz := h.sz
  ⟨hp, hl, h.kept.trans k, h.rc.kept k (by omega) (by simp; omega), h.zc.kept k (by omega) (by simp; omega), Nat.le_trans h.sz k.size, h.nm, ownsRow_kept h.own k (by simp; omega), ownsRow_kept h.hd k (by simp; omega), h.hm, fun x hx => ownsRow_kept (h.bl x hx) k (by simp; omega), h.blt⟩

/-- A literal, read by a call that gives it a row of its own, is appended. -/
theorem RuleInv.append {w : World} {b m : Nat} {s : ByteArray} {H : RAtom} {hv : Value} {bs : List (RAtom × Value)} {p : Nat} {bd : Int} {bv : Value} {w1 w5 : World} (h : RuleInv w b m s H hv bs p bd bv w1) {o1 o2 : Obj} {A : RAtom} {tv bv' : Value}
    (ht : w1.ownsRow (m + 1) 317 3 tv A.terms.length (cellsOf A.terms))
    (hown : w5.ownsRow (m + 1) 243 5 bv' (bs.length + 1) (litCells bs ++ A.cells tv)) (hg : ((w1.alloc o1).alloc o2).grownBy w5 bv.ownBlock) :
    RuleInv w b m s H hv (bs ++ [(A, tv)]) p bd bv' (w5.setCell ⟨m, 5, none⟩ bv') ∧ RCells w5 m H hv bv := by
  have hlt := h.blt
  have hnm := h.nm
  have hsz := h.sz
  have hrow : ∀ k, bv.ownBlock = some k → m + 1 ≤ k := fun k e => (h.own.lt k e).1
  have k5 : Kept bv.ownBlock.toList w1 w5 := (((Kept.refl _ w1).alloc o1).alloc o2).grown hg (fun k e => .inr (by simp [e]))
  have hnot : ∀ k, k < m + 1 → k ∉ bv.ownBlock.toList := by
    intro k hk hmm
    cases hv : bv.ownBlock with
    | none => simp [hv] at hmm
    | some x => simp [hv] at hmm; have := hrow x hv; omega
  have r5 := h.rc.kept k5 (by omega) (hnot _ (by omega))
  have far : ∀ {base : Nat} {v : Value} {n : Nat} {xs : List Value}, w1.ownsRow base 317 3 v n xs → w5.ownsRow base 317 3 v n xs := fun {base v n xs} hx =>
    World.ownsRow.kept ((hx.alloc o1).alloc o2) hg (own_ne hx h.own (by decide))
  have setm : ∀ {base : Nat} {e : TypeId} {size : Nat} {v : Value} {n : Nat} {xs : List Value}, w5.ownsRow base e size v n xs → (∀ k, v.ownBlock = some k → k ≠ m) → (w5.setCell ⟨m, 5, none⟩ bv').ownsRow base e size v n xs := by
    intro base e size v n xs hx hk
    refine ⟨hx.1, ?_⟩
    rcases hx.2 with hn | ⟨g, cap, cur, rfl, hb, hgg, rest⟩
    · exact .inl hn
    · exact .inr ⟨g, cap, cur, rfl, hb, by rw [Below.heap_setCell _ _ _ _ (hk g rfl)]; exact hgg, rest⟩
  refine ⟨⟨?_, h.hp, ?_, ?_, ?_, ?_, h.nm, ?_, ?_, h.hm, ?_, h.blt⟩, r5⟩
  · exact (h.pars.kept k5 (hnot _ (by omega))).kept ((Kept.refl [m] _).setCell (by simp) _) (by simp; omega)
  · exact ((((h.kept.alloc o1).alloc o2).grown hg (fun k e => .inl (by have := hrow k e; omega)))).setCell (.inr (by simp; omega)) _
  · obtain ⟨x0, x1, x2, x3, x4, x5, xf⟩ := r5
    exact ⟨by go_simp, by go_simp, by go_simp, by go_simp, by go_simp, by go_simp, by go_simp⟩
  · exact (h.zc.kept k5 (by omega) (hnot _ (by omega))).kept ((Kept.refl [m] _).setCell (by simp) _) (by have := k5.size; omega) (by simp; omega)
  · have := k5.size; simp; omega
  · rw [litCells_snoc, List.length_append]
    exact setm hown (fun k e => by have := (hown.lt k e).1; omega)
  · exact setm (far h.hd) (fun k e => by have := h.hm k e; omega)
  · intro x hx
    rcases List.mem_append.1 hx with hx | hx
    · exact setm (far (h.bl x hx)) (fun k e => by have := ((h.bl x hx).lt k e).1; omega)
    · simp at hx; subst hx
      exact setm (far ht) (fun k e => by have := (ht.lt k e).1; omega)

/-- A rule as it lies in memory: its head's terms, its body, the terms of its literals; all in blocks from base on. -/
structure RuleIn (w : World) (base : Nat) (R : RRule) (hv : Value) (bs : List (RAtom × Value)) (bv : Value) : Prop where
  hd : w.ownsRow base 317 3 hv R.head.terms.length (cellsOf R.head.terms)
  bo : w.ownsRow base 243 5 bv bs.length (litCells bs)
  bl : ∀ x ∈ bs, w.ownsRow base 317 3 x.2 x.1.terms.length (cellsOf x.1.terms)
  eq : R.body = bs.map (·.1)

theorem RuleInv.ends {w : World} {b m : Nat} {s : ByteArray} {H : RAtom} {hv : Value} {bs : List (RAtom × Value)} {p : Nat} {bd : Int} {bv : Value} {wr w' : World} (h : RuleInv w b m s H hv bs p bd bv wr) (k : Kept [w.heap.size] wr w') :
    Kept [b] w w' ∧ Pars w' b s p bd ∧ p ≤ s.size ∧ RuleIn w' w.heap.size ⟨H, bs.map (·.1)⟩ hv bs bv := by
  have hlt := h.blt
  have hnm := h.nm
  refine ⟨⟨k.os.trans h.kept.os, k.tape.trans h.kept.tape, k.output.trans h.kept.output, Nat.le_trans h.kept.size k.size, fun i hi hn => (k.block i (Nat.lt_of_lt_of_le hi h.kept.size) (by simp; omega)).trans (h.kept.block i hi hn)⟩, h.pars.kept k (by simp; omega), h.hp, ⟨?_, ?_, ?_, rfl⟩⟩
  · exact ownsRow_low (ownsRow_kept h.hd k (by simp)) (by omega)
  · exact ownsRow_low (ownsRow_kept h.own k (by simp; omega)) (by omega)
  · exact fun x hx => ownsRow_low (ownsRow_kept (h.bl x hx) k (by simp; omega)) (by omega)

theorem rule_start {s : ByteArray} {pos : Nat} {bad : Int} {b : Nat} {w w1 : World} {hv : Value} (hlt : b < w.heap.size)
    (hk1 : Kept [b] (w.alloc (Obj.cells #[Value.string { data := #[] }, Value.slice none 0 0, Value.bool false, Value.int IntKind.i64 0, Value.int IntKind.i64 0, Value.slice none 0 0] 246)) w1)
    (hp1 : Pars w1 b s (atomRest s pos bad).2.1 (atomRest s pos bad).2.2) (hl1 : (atomRest s pos bad).2.1 ≤ s.size)
    (hown1 : w1.ownsRow (w.heap.size + 1) 317 3 hv (atomRest s pos bad).1.length (cellsOf (atomRest s pos bad).1)) :
    RuleInv w b w1.heap.size s (headOf s pos bad) hv [] (atomRest s pos bad).2.1 (atomRest s pos bad).2.2 (.slice none 0 0)
      (w1.alloc (Obj.cells #[Value.string (tok s pos).text, hv, Value.bool false, Value.int IntKind.i64 ↑(tok s pos).at_, Value.int IntKind.i64 0, Value.slice none 0 0] 246)) := by
  have hz1 := hk1.size
  simp at hz1
  refine ⟨hp1.kept ((Kept.refl [] _).alloc _) (by simp), hl1, (((Kept.refl [b] w).alloc _).trans hk1).alloc _, ?_, ?_, by simp, by omega, World.ownsRow_nil _ _ _ _, hown1.alloc _, fun k e => (hown1.lt k e).2, by simp, hlt⟩
  · refine ⟨?_, ?_, ?_, ?_, ?_, ?_, ?_⟩
    all_goals first | (rw [World.cell?_alloc_at _ _ _ _ rfl]; rfl) | (intro o; rw [World.frozen?_alloc_at _ _ _ _ rfl])
  · refine RCells.kept (RCells.kept ⟨?_, ?_, ?_, ?_, ?_, ?_, ?_⟩ hk1 (by simp) (by simp; omega)) ((Kept.refl [] _).alloc _) (by omega) (by simp)
    all_goals first | (rw [World.cell?_alloc_at _ _ _ _ rfl]; rfl) | (intro o; rw [World.frozen?_alloc_at _ _ _ _ rfl])

theorem set6 {w1 : World} {n : Nat} {u0 u1 u2 u3 u4 u5 : Value} (h0 : w1.cell? ⟨n, 0, none⟩ = some u0) (h1 : w1.cell? ⟨n, 1, none⟩ = some u1) (h2 : w1.cell? ⟨n, 2, none⟩ = some u2) (h3 : w1.cell? ⟨n, 3, none⟩ = some u3) (h4 : w1.cell? ⟨n, 4, none⟩ = some u4) (h5 : w1.cell? ⟨n, 5, none⟩ = some u5) (v0 v1 v2 v3 v4 v5 : Value) :
    ((((((w1.setCell ⟨n, 0, none⟩ v0).setCell ⟨n, 1, none⟩ v1).setCell ⟨n, 2, none⟩ v2).setCell ⟨n, 3, none⟩ v3).setCell ⟨n, 4, none⟩ v4).setCell ⟨n, 5, none⟩ v5).cell? ⟨n, 0, none⟩ = some v0 ∧
    ((((((w1.setCell ⟨n, 0, none⟩ v0).setCell ⟨n, 1, none⟩ v1).setCell ⟨n, 2, none⟩ v2).setCell ⟨n, 3, none⟩ v3).setCell ⟨n, 4, none⟩ v4).setCell ⟨n, 5, none⟩ v5).cell? ⟨n, 1, none⟩ = some v1 ∧
    ((((((w1.setCell ⟨n, 0, none⟩ v0).setCell ⟨n, 1, none⟩ v1).setCell ⟨n, 2, none⟩ v2).setCell ⟨n, 3, none⟩ v3).setCell ⟨n, 4, none⟩ v4).setCell ⟨n, 5, none⟩ v5).cell? ⟨n, 2, none⟩ = some v2 ∧
    ((((((w1.setCell ⟨n, 0, none⟩ v0).setCell ⟨n, 1, none⟩ v1).setCell ⟨n, 2, none⟩ v2).setCell ⟨n, 3, none⟩ v3).setCell ⟨n, 4, none⟩ v4).setCell ⟨n, 5, none⟩ v5).cell? ⟨n, 3, none⟩ = some v3 ∧
    ((((((w1.setCell ⟨n, 0, none⟩ v0).setCell ⟨n, 1, none⟩ v1).setCell ⟨n, 2, none⟩ v2).setCell ⟨n, 3, none⟩ v3).setCell ⟨n, 4, none⟩ v4).setCell ⟨n, 5, none⟩ v5).cell? ⟨n, 4, none⟩ = some v4 ∧
    ((((((w1.setCell ⟨n, 0, none⟩ v0).setCell ⟨n, 1, none⟩ v1).setCell ⟨n, 2, none⟩ v2).setCell ⟨n, 3, none⟩ v3).setCell ⟨n, 4, none⟩ v4).setCell ⟨n, 5, none⟩ v5).cell? ⟨n, 5, none⟩ = some v5 := by
  refine ⟨?_, ?_, ?_, ?_, ?_, ?_⟩ <;> go_simp

theorem kept6 (w1 : World) (n : Nat) (v0 v1 v2 v3 v4 v5 : Value) : Kept [n] w1 ((((((w1.setCell ⟨n, 0, none⟩ v0).setCell ⟨n, 1, none⟩ v1).setCell ⟨n, 2, none⟩ v2).setCell ⟨n, 3, none⟩ v3).setCell ⟨n, 4, none⟩ v4).setCell ⟨n, 5, none⟩ v5) :=
  ((((((Kept.refl [n] w1).setCell (by simp) _).setCell (by simp) _).setCell (by simp) _).setCell (by simp) _).setCell (by simp) _).setCell (by simp) _

end Go.Proofs.YtldkpahaocjdpaaGreat
