/-
  The program's order of names: cmp.isNaN[string], cmp.Compare[string], the closure of List.
  A stratum in memory: its type's facts; the owner's mark; a store into a row.
  The reference's Strata, plain: an insertion by names; how a row of strata is turned.
  Ranging over a map with strings for keys, as a plain function from texts to values.
  The program's List: how the predicates are gathered out of the table.
  The law's allStrata and still, at lists that hold their owner's mark alone.
-/
import Derived.Test.YtldkpahaocjdpaaGreatPrintsT35
import Derived.Shelf.SlSortCmp.NoneTotal
import Derived.Test.YtldkpahaocjdpaaGreatPrintsT18
import Derived.Test.YtldkpahaocjdpaaGreatPrintsT25
import Derived.Test.YtldkpahaocjdpaaGreatPrintsT29
import Derived.Maps.RangeWalk
import Derived.BigQuiet
import Derived.Deep.QuietTactic
namespace Go.Proofs.YtldkpahaocjdpaaGreat
open Go.RowKit Go.Maps Go.Sort

theorem less_irrefl : ∀ x : List UInt8, Op.bytesLess x x = false
  | [] => rfl
  | a :: r => by simp [Op.bytesLess, less_irrefl r]
theorem less_trans : ∀ x y z : List UInt8, Op.bytesLess x y = true → Op.bytesLess y z = true → Op.bytesLess x z = true
  | _, [], _, h, _ => by simp [Op.bytesLess] at h
  | _, _ :: _, [], _, h => by simp [Op.bytesLess] at h
  | [], _ :: _, _ :: _, _, _ => rfl
  | a :: x, b :: y, c :: z, h1, h2 => by
    simp only [Op.bytesLess, Bool.or_eq_true, Bool.and_eq_true, decide_eq_true_eq, beq_iff_eq] at h1 h2 ⊢
    rcases h1 with h1 | ⟨rfl, h1⟩
    · rcases h2 with h2 | ⟨rfl, _⟩
      · exact .inl (UInt8.lt_trans h1 h2)
      · exact .inl h1
    · rcases h2 with h2 | ⟨rfl, h2⟩
      · exact .inl h2
      · exact .inr ⟨rfl, less_trans x y z h1 h2⟩
theorem less_tri : ∀ x y : List UInt8, Op.bytesLess x y = false → Op.bytesLess y x = false → x = y
  | [], [], _, _ => rfl
  | [], _ :: _, h, _ => by simp [Op.bytesLess] at h
  | _ :: _, [], _, h => by simp [Op.bytesLess] at h
  | a :: x, b :: y, h1, h2 => by
    simp only [Op.bytesLess, Bool.or_eq_false_iff, Bool.and_eq_false_iff, decide_eq_false_iff_not, beq_eq_false_iff_ne, ne_eq] at h1 h2
    have hab : a = b := UInt8.le_antisymm (UInt8.not_lt.1 h2.1) (UInt8.not_lt.1 h1.1)
    subst hab
    rw [less_tri x y (h1.2.resolve_left (fun h => h rfl)) (h2.2.resolve_left (fun h => h rfl))]

/-- The order of names. -/
def lessB (x y : ByteArray) : Bool := Op.bytesLess x.toList y.toList
theorem lessB_irrefl (x : ByteArray) : lessB x x = false := less_irrefl _
theorem lessB_trans {x y z : ByteArray} (h1 : lessB x y = true) (h2 : lessB y z = true) : lessB x z = true := less_trans _ _ _ h1 h2
theorem lessB_tri {x y : ByteArray} (h1 : lessB x y = false) (h2 : lessB y x = false) : x = y := bytes_eq.1 (by rw [beq_iff_eq]; exact less_tri _ _ h1 h2)
def cmpB (x y : ByteArray) : Int := if lessB x y then -1 else if x.toList == y.toList then 0 else 1

theorem ltOf_cmpB (x y : ByteArray) : ltOf cmpB x y = lessB x y := by
  unfold ltOf cmpB
  cases lessB x y <;> cases x.toList == y.toList <;> simp

theorem swoB : SWO (ltOf cmpB) where
  irrefl x := by rw [ltOf_cmpB]; exact lessB_irrefl x
  trans x y z h1 h2 := by rw [ltOf_cmpB] at *; exact lessB_trans h1 h2
  ntrans x y z h1 h2 := by
    rw [ltOf_cmpB] at *
    cases h : lessB x z with
    | false => rfl
    | true =>
      cases h3 : lessB z y with
      | true => rw [lessB_trans h h3] at h1; cases h1
      | false => rw [lessB_tri h2 h3] at h1; rw [h1] at h; cases h

set_option maxRecDepth 100000 in
set_option maxHeartbeats 1000000 in
theorem isNaN_any (x : ByteArray) (w : World) : Calls Tryz.prog 207 #[.string x] w fun e w' => e = .returned (.bool false) ∧ w' = w := by
  go_enter Tryz.func207, Tryz.ntmps207
  go_wp2_with fail
  go_ret
  exact ⟨by simp, rfl⟩

set_option maxRecDepth 100000 in
set_option maxHeartbeats 1000000 in
theorem compare_any (x y : ByteArray) (w : World) : Calls Tryz.prog 162 #[.string x, .string y] w fun e w' => e = .returned (.int .i64 (cmpB x y)) ∧ w' = w := by
  have hn := isNaN_any
  have hc : cmpB x y = if Op.bytesLess x.toList y.toList then -1 else if x.toList == y.toList then 0 else 1 := rfl
  go_enter Tryz.func162, Tryz.ntmps162
  go_wp2_with (go_at_call 207; refine (hn _ _).mono ?_; rintro e w' ⟨rfl, rfl⟩)
  · rename_i h1
    go_ret
    refine ⟨?_, rfl⟩
    rw [show cmpB x y = -1 by rw [cmpB, lessB, h1]; rfl]
    rfl
  · rename_i h1 _ _ h2
    go_ret
    refine ⟨?_, rfl⟩
    rw [show cmpB x y = 1 by rw [cmpB, lessB, h1]; simp at h2 ⊢; exact h2]
    rfl
  · rename_i h1 h2
    go_ret
    refine ⟨?_, rfl⟩
    rw [show cmpB x y = 0 by rw [cmpB, lessB, h1]; simp at h2 ⊢; exact h2]
    rfl

set_option maxRecDepth 100000 in
set_option maxHeartbeats 1000000 in
theorem closure_any (x y : ByteArray) (a b c d : Int) (W : World) : Calls Tryz.prog 195 #[.agg #[.string x, .int .i64 a, .int .i64 b], .agg #[.string y, .int .i64 c, .int .i64 d]] W fun e w' => e = .returned (.int .i64 (cmpB x y)) ∧ ∃ q os', w' = grow (W.drewN q) os' := by
  have hcon := fun W' => compare_any x y W'
  generalize cmpB x y = r at hcon ⊢
  go_enter Tryz.func195, Tryz.ntmps195
  go_wp2_with (go_at_call 162; refine (hcon _).mono ?_; rintro e w' ⟨rfl, rfl⟩)
  go_ret
  exact ⟨rfl, 0, _, by rw [alloc_eq_grow, alloc_eq_grow, grow_grow]; rfl⟩
end Go.Proofs.YtldkpahaocjdpaaGreat

namespace Go.Proofs.YtldkpahaocjdpaaGreat
open Go.RowKit

theorem infoStr : (Tryz.prog.info? 185).map (fun i => (i.zero, i.size, i.bytes)) = some (some (.agg #[.string { data := #[] }, .int .i64 0, .int .i64 0]), 3, 32) := by kernel_rfl
/-- The mark's cells. -/
def markE (mk : Nat) : List Value := [.string { data := #[] }, .int .i64 (-1000 - (mk : Int)), .int .i64 0]
theorem own_setCell {w : World} {base : Nat} {e : TypeId} {size n g cap : Nat} {xs : List Value} (h : w.ownsRow base e size (.slice (some ⟨g, 0, none⟩) n cap) n xs) (j : Nat) (u : Value) : (w.setCell ⟨g, j, none⟩ u).ownsRow base e size (.slice (some ⟨g, 0, none⟩) n cap) n (xs.set j u) := by
  obtain ⟨h0, h1⟩ := h
  refine ⟨by simpa using h0, ?_⟩
  rcases h1 with ⟨h1, _⟩ | ⟨g', cap', cur, hv, hb, hg, hn, hc, hs, ht⟩
  · cases h1
  · injection hv with h1 h2 h3
    injection h1 with h1
    injection h1 with h1
    subst h1 h3
    refine .inr ⟨g, cap, _, rfl, hb, heap_setCell_same _ _ _ _ _ _ hg, hn, hc, by simpa using hs, ?_⟩
    rw [Array.toList_setIfInBounds, List.take_set, ht]
theorem own_unfrozen0 {w : World} {base : Nat} {e : TypeId} {size n g cap : Nat} {xs : List Value} {m : Nat} (h : w.ownsRow base e size (.slice (some ⟨g, 0, none⟩) n cap) m xs) : ∀ j, w.frozen? ⟨g, j, none⟩ = false := by
  intro j
  rcases h.2 with ⟨h1, _⟩ | ⟨g', cap', cur, hv, hb, hg, _⟩
  · cases h1
  · injection hv with h1 h2 h3
    injection h1 with h1
    injection h1 with h1
    subst h1
    simp [World.frozen?, hg]
theorem row_cap0 {w : World} {base : Nat} {e : TypeId} {size n g cap : Nat} {xs : List Value} (h : w.ownsRow base e size (.slice (some ⟨g, 0, none⟩) n cap) n xs) : n ≤ cap ∧ cap ≤ maxLen := by
  rcases h.2 with ⟨h1, _⟩ | ⟨g', cap', cur, hv, hb, hg, hn, hc, _⟩
  · cases h1
  · injection hv with h1 h2 h3
    subst h3
    exact ⟨hn, hc⟩
theorem own_cells0 {w : World} {base : Nat} {e : TypeId} {size n g cap : Nat} {xs : List Value} (h : w.ownsRow base e size (.slice (some ⟨g, 0, none⟩) n cap) n xs) : ∀ j, j < n * size → ∃ u, w.cell? ⟨g, j, none⟩ = some u := by
  intro j hj
  rcases h.2 with ⟨h1, _⟩ | ⟨g', cap', cur, hv, hb, hg, hn, _, hs, _⟩
  · cases h1
  · injection hv with h1 h2 h3
    injection h1 with h1
    injection h1 with h1
    subst h1 h3
    have : j < cur.size := by rw [hs]; exact Nat.lt_of_lt_of_le hj (Nat.mul_le_mul_right _ hn)
    exact ⟨cur[j], by rw [cell_of_row w g j cur e (0, 0) hg]; simp [this]⟩
end Go.Proofs.YtldkpahaocjdpaaGreat

namespace Go.Proofs.YtldkpahaocjdpaaGreat
open Go.RowKit Go.Maps

/-- A stratum: name, number, terms. -/
abbrev Stm := ByteArray × Nat × Nat
def enc3 (x : Stm) : List Value := [.string x.1, .int .i64 (x.2.1 : Nat), .int .i64 (x.2.2 : Nat)]
def tri (ps : List (ByteArray × Nat)) (S : Nat → Nat) : Nat → List Stm
  | 0 => []
  | k + 1 => tri ps S k ++ [((ps[k]?.getD default).1, S k, (ps[k]?.getD default).2)]

/-- By rising names. -/
def Rising (zs : List Stm) : Prop := zs.Pairwise fun x y => lessB y.1 x.1 = false

theorem lessB_ntrans {x y z : ByteArray} (h1 : lessB x y = false) (h2 : lessB y z = false) : lessB x z = false := by
  have := swoB.ntrans x y z (by rw [ltOf_cmpB]; exact h1) (by rw [ltOf_cmpB]; exact h2)
  rwa [ltOf_cmpB] at this

/-- One is being moved down to its place. -/
structure Ins (zs : List Stm) (A : List Stm) (x : Stm) (B : List Stm) : Prop where
  eq : zs = A ++ x :: B
  ris : Rising (A ++ B)
  up : ∀ b ∈ B, lessB x.1 b.1 = true

theorem Ins.down {zs A B : List Stm} {a x : Stm} (h : Ins zs (A ++ [a]) x B) (hl : lessB x.1 a.1 = true) : Ins (A ++ x :: a :: B) A x (a :: B) :=
  ⟨rfl, by have := h.ris; simpa using this, fun b hb => by rcases List.mem_cons.1 hb with rfl | hb; exact hl; exact h.up b hb⟩

theorem less_asymm {x y : ByteArray} (h : lessB x y = true) : lessB y x = false := by
  cases h2 : lessB y x with
  | false => rfl
  | true => have := lessB_trans h h2; rw [lessB_irrefl] at this; cases this

theorem Ins.done {zs A B : List Stm} {x : Stm} (h : Ins zs A x B) (hl : ∀ A' a, A = A' ++ [a] → lessB x.1 a.1 = false) : Rising zs := by
  rw [h.eq]
  have hr := h.ris
  unfold Rising at hr ⊢
  rw [List.pairwise_append] at hr ⊢
  obtain ⟨hA, hB, hAB⟩ := hr
  refine ⟨hA, List.pairwise_cons.2 ⟨fun b hb => less_asymm (h.up b hb), hB⟩, fun a ha y hy => ?_⟩
  rcases List.mem_cons.1 hy with rfl | hy
  · rcases List.eq_nil_or_concat A with e | ⟨A', a', e⟩
    · subst e; cases ha
    · rw [List.concat_eq_append] at e
      have h0 := hl A' a' e
      subst e
      rcases List.mem_append.1 ha with ha | ha
      · have := (List.pairwise_append.1 hA).2.2 a ha a' (by simp)
        exact lessB_ntrans h0 this
      · rw [List.mem_singleton.1 ha]; exact h0
  · exact hAB a ha y hy

theorem flat3_set (zs : List Stm) : ∀ (i : Nat) (x : Stm), i < zs.length → (((zs.flatMap enc3).set (i * 3) (.string x.1)).set (i * 3 + 1) (.int .i64 (x.2.1 : Nat))).set (i * 3 + 2) (.int .i64 (x.2.2 : Nat)) = (zs.set i x).flatMap enc3 := by
  induction zs with
  | nil => intro i x h; simp at h
  | cons z r ih =>
    intro i x h
    cases i with
    | zero => simp [enc3]
    | succ i =>
      have := ih i x (by simpa using h)
      rw [List.set_cons_succ, List.flatMap_cons, List.flatMap_cons, ← this]
      rw [show (i + 1) * 3 = i * 3 + 3 by omega, show i * 3 + 3 + 1 = i * 3 + 1 + 3 by omega, show i * 3 + 3 + 2 = i * 3 + 2 + 3 by omega]
      simp [enc3]

theorem flat3_get (zs : List Stm) (i : Nat) (h : i < zs.length) : (zs.flatMap enc3)[i * 3]? = some (.string zs[i].1) ∧ (zs.flatMap enc3)[i * 3 + 1]? = some (.int .i64 (zs[i].2.1 : Nat)) ∧ (zs.flatMap enc3)[i * 3 + 2]? = some (.int .i64 (zs[i].2.2 : Nat)) := by
  induction zs generalizing i with
  | nil => simp at h
  | cons z r ih =>
    cases i with
    | zero => simp [enc3]
    | succ i =>
      have := ih i (by simpa using h)
      rw [show (i + 1) * 3 = i * 3 + 3 by omega, show i * 3 + 3 + 1 = i * 3 + 1 + 3 by omega, show i * 3 + 3 + 2 = i * 3 + 2 + 3 by omega]
      simpa [enc3] using this

end Go.Proofs.YtldkpahaocjdpaaGreat

namespace Go.Proofs.YtldkpahaocjdpaaGreat
open Go.RowKit Go.Maps Go.ChangeMaps Go.WideMaps

/-- Block r ranges over the map in block b; of its keys those of L are still to come, at most cnt of them. -/
def SRange (P : Program) (K : TypeId) (w : World) (b r n : Nat) (V : ByteArray → Option Value) (L : ByteArray → Prop) (cnt : Nat) : Prop :=
  ∃ (D : DataW Value) (left : Lit → Bool), w.ranges P K selfElem b r n D left cnt ∧ (∀ k : ByteArray, Maps.has D (keyS k) = (V k).isSome ∧ ∀ z, D.atKey (keyS k) (.held z) = .held ((V k).getD z)) ∧ ∀ k, left (keyS k) = true ↔ L k

theorem SRange.map {P : Program} {K : TypeId} {w : World} {b r n : Nat} {V : ByteArray → Option Value} {L : ByteArray → Prop} {cnt : Nat} (h : SRange P K w b r n V L cnt) : SMap P K w b n V := by
  obtain ⟨D, left, h1, h2, _⟩ := h; exact ⟨D, h1.owns, h2⟩
theorem SRange.ne {P : Program} {K : TypeId} {w : World} {b r n : Nat} {V : ByteArray → Option Value} {L : ByteArray → Prop} {cnt : Nat} (h : SRange P K w b r n V L cnt) : r ≠ b := by
  obtain ⟨D, left, h1, _⟩ := h; exact h1.ne
theorem SRange.lt {P : Program} {K : TypeId} {w : World} {b r n : Nat} {V : ByteArray → Option Value} {L : ByteArray → Prop} {cnt : Nat} (h : SRange P K w b r n V L cnt) : r < w.heap.size := by
  obtain ⟨D, left, h1, _⟩ := h; exact h1.lt
theorem SRange.kept {P : Program} {K : TypeId} {w w' : World} {b r n : Nat} {V : ByteArray → Option Value} {L : ByteArray → Prop} {cnt : Nat} {row : Option Nat} (h : SRange P K w b r n V L cnt) (hg : w.grownBy w' row) (hb : some b ≠ row) (hr : some r ≠ row) : SRange P K w' b r n V L cnt := by
  obtain ⟨D, left, h1, h2⟩ := h; exact ⟨D, left, h1.kept hg hb hr, h2⟩
theorem SRange.alloc {P : Program} {K : TypeId} {w : World} {b r n : Nat} {V : ByteArray → Option Value} {L : ByteArray → Prop} {cnt : Nat} (h : SRange P K w b r n V L cnt) (o : Obj) : SRange P K (w.alloc o) b r n V L cnt := by
  obtain ⟨D, left, h1, h2⟩ := h; exact ⟨D, left, h1.alloc o, h2⟩
theorem SRange.iff {P : Program} {K : TypeId} {w : World} {b r n : Nat} {V : ByteArray → Option Value} {L L' : ByteArray → Prop} {cnt : Nat} (h : SRange P K w b r n V L cnt) (e : ∀ k, L k ↔ L' k) : SRange P K w b r n V L' cnt := by
  obtain ⟨D, left, h1, h2, h3⟩ := h; exact ⟨D, left, h1, h2, fun k => (h3 k).trans (e k)⟩

theorem keyOf_str {P : Program} {k : TypeId} (hk : P.underlying k = some .string) {s : ByteArray} {kl : Lit} (h : keyOf P k (.string s) = some kl) : kl = keyS s := by
  simp [keyOf, hk, mapKey] at h
  exact h.2.symm
theorem keyOf_str_inv {P : Program} {k : TypeId} (hk : P.underlying k = some .string) {key : Value} {kl : Lit} (h : keyOf P k key = some kl) : ∃ s, key = .string s := by
  cases key <;> simp [keyOf, hk, mapKey] at h
  exact ⟨_, rfl⟩

section
variable {P : Program} (w : World) {ops : Array Oper} {rest : List Oper} {o : Oper} {a : Act} {Q : Exit → Act → World → Prop}

theorem wp_range (hg : o.guard = none) (m : Operand) (t : TypeId) (hop : o.op = Op.range t m) (K e : TypeId) (hK : P.underlying K = some .string) (ht : P.underlying t = some (.map K e)) (b n : Nat) (V : ByteArray → Option Value)
    (hm : a.eval m = .map (some b)) (hown : SMap P K w b n V)
    (hQ : ∀ w' cnt, SRange P K w' b w.heap.size n V (fun k => (V k).isSome = true) cnt → cnt ≤ n → w.grownBy w' none → w'.heap.size = w.heap.size + 1 → wpList P ops Q rest (a.put o.dst (.pointer (some ⟨w.heap.size, 0, none⟩))) w') :
    wpList P ops Q (o :: rest) a w := by
  obtain ⟨D, hD, h3⟩ := hown
  refine wpList_range_own w hg m t hop K e (string_keyed hK) ht selfElem b n D hm hD fun w' h1 h2 hs => hQ w' (Maps.size D) ⟨D, _, h1, h3, fun k => by rw [(h3 k).1]⟩ ?_ h2 hs
  obtain ⟨es, clock, _, _, hn, rfl⟩ := hD
  rw [Maps.size_eq, (WideShapes.sorted_perm _).length_eq]
  simpa using hn

theorem wp_next (hg : o.guard = none) (it : Operand) (hop : o.op = Op.next it false) (K : TypeId) (hK : P.underlying K = some .string) (b r n : Nat) (V : ByteArray → Option Value) (L : ByteArray → Prop) (cnt : Nat) (mk : ByteArray → Value) (hmk : ∀ k u, V k = some u → u = mk k)
    (hit : a.eval it = .pointer (some ⟨r, 0, none⟩)) (h : SRange P K w b r n V L cnt)
    (hDone : (∀ k, ¬ L k) → wpList P ops Q rest (a.put o.dst (.tuple #[.bool false])) w)
    (hMore : ∀ (k : ByteArray) (w' : World) (cnt' : Nat), L k → V k = some (mk k) → SRange P K w' b r n V (fun x => L x ∧ x ≠ k) cnt' → cnt' < cnt → w.grownBy w' (some r) → w'.heap.size = w.heap.size →
      (Instr.entry (.pointer (some ⟨r, 0, none⟩))).run P w' = .ok (.tuple #[.string k, mk k]) w' → wpList P ops Q rest (a.put o.dst (.tuple #[.bool true, .string k, mk k])) w') :
    wpList P ops Q (o :: rest) a w := by
  obtain ⟨D, left, h1, h2, h3⟩ := h
  refine wpList_next_ranges w hg it hop K (string_keyed hK) selfElem Value.string (id : Value → Value) (fun key kl hkey => keyOf_str_inv hK hkey) (fun v y _ => ⟨v, rfl⟩) b r n D left cnt hit h1 (fun _ hl => hDone fun k hk => by rw [← h3, hl] at hk; cases hk) ?_
  intro x c kl y w' cnt' hkey hlk hv hat hrg hlt hgr hsz hen
  have hkl := keyOf_str hK hkey
  subst hkl
  have hy := held_inj (v := c) (d := y.1) (ps := y.2) hv
  have hV : V x = some c := by
    have e1 := (h2 x).2 undef
    have e2 := (h2 x).2 (.bool true)
    rw [hat, hy] at e1 e2
    injection e1 with e1
    injection e2 with e2
    cases hVx : V x with
    | none => rw [hVx] at e1 e2; rw [e1] at e2; cases e2
    | some u => rw [hVx] at e1; rw [e1]; rfl
  have hc := hmk x c hV
  subst hc
  refine hMore x w' cnt' ((h3 x).1 hlk) hV ⟨D, _, hrg, h2, fun k => ?_⟩ hlt hgr hsz hen
  rw [Bool.and_eq_true, h3, Bool.not_eq_true']
  refine and_congr_right fun _ => ⟨fun hs e => ?_, fun hne => Maps.sameKey_ne (keyS_ne hne)⟩
  subst e
  rw [WideAt.sameKey_self (by trivial)] at hs
  cases hs
end
end Go.Proofs.YtldkpahaocjdpaaGreat

namespace Go.Proofs.YtldkpahaocjdpaaGreat
open Go.RowKit Go.Maps

/-- A predicate's cells in a list of strata. -/
def stE (ps : List (ByteArray × Nat)) (S : ByteArray → Nat) (k : ByteArray) : List Value := [.string k, .int .i64 (S k), .int .i64 ((numOf ps k).getD 0 : Nat)]


theorem st_cell (w1 : World) (o : Obj) (ps : List (ByteArray × Nat)) (S : ByteArray → Nat) (k : ByteArray) (j : Nat) (u : Value) (h : (stE ps S k)[j]? = some u) : ((w1.alloc o).alloc (Obj.cells #[.string k, .int .i64 (S k), .int .i64 ((numOf ps k).getD 0 : Nat)] 185)).cell? ((⟨w1.heap.size + 1, 0, none⟩ : Addr).add j) = some u := by
  have e : (⟨w1.heap.size + 1, 0, none⟩ : Addr).add j = ⟨w1.heap.size + 1, j, none⟩ := by unfold Addr.add; split <;> simp_all
  rw [e, World.cell?_alloc_at _ _ _ _ (by simp)]
  simpa [stE] using h
theorem st_one (ps : List (ByteArray × Nat)) (S : ByteArray → Nat) (k : ByteArray) : ∀ u ∈ stE ps S k, u.oneCell' = true := by
  intro u hu; simp [stE] at hu; rcases hu with rfl | rfl | rfl <;> rfl

theorem own_from {w : World} {base : Nat} {e : TypeId} {size : Nat} {v : Value} {n : Nat} {xs : List Value} (h : w.ownsRow base e size v n xs) {g : Nat} (hg : v.ownBlock = some g) : base ≤ g := by
  rcases h.2 with ⟨rfl, _⟩ | ⟨g', cap, cur', rfl, hb, _⟩
  · cases hg
  · cases hg; exact hb

structure ListIn (w : World) (b n : Nat) (ps : List (ByteArray × Nat)) (S : ByteArray → Nat) (xs : List ByteArray) (lv : Value) (cnt : Nat) (wr : World) : Prop where
  rg : SRange Tryz.prog 9 wr b w.heap.size n (stV ps S) (fun k => (stV ps S k).isSome = true ∧ k ∉ xs) cnt
  row : wr.ownsRow (w.heap.size + 1) 185 3 lv xs.length (xs.flatMap (stE ps S))
  nd : xs.Nodup
  sm : ∀ x ∈ xs, (stV ps S x).isSome = true
  len : xs.length + cnt ≤ n
  below : Below w.heap.size w wr

theorem ListIn.append {w : World} {b n : Nat} {ps : List (ByteArray × Nat)} {S : ByteArray → Nat} {xs : List ByteArray} {lv : Value} {cnt : Nat} {wr : World} (h : ListIn w b n ps S xs lv cnt wr) (hb : b < w.heap.size) {k : ByteArray} {w1 w5 : World} {cnt' : Nat} {lv' : Value} {o o' : Obj}
    (hL : (stV ps S k).isSome = true ∧ k ∉ xs) (hr : SRange Tryz.prog 9 w1 b w.heap.size n (stV ps S) (fun x => ((stV ps S x).isSome = true ∧ x ∉ xs) ∧ x ≠ k) cnt') (hc : cnt' < cnt) (hg1 : wr.grownBy w1 (some w.heap.size))
    (hown : w5.ownsRow (w.heap.size + 1) 185 3 lv' (xs.length + 1) (xs.flatMap (stE ps S) ++ stE ps S k)) (hg5 : ((w1.alloc o).alloc o').grownBy w5 lv.ownBlock) : ListIn w b n ps S (xs ++ [k]) lv' cnt' w5 := by
  have hne : ∀ g, lv.ownBlock = some g → w.heap.size + 1 ≤ g := fun g hg => own_from h.row hg
  have hrl := h.rg.lt
  have hs1 := hg1.size
  refine ⟨?_, ?_, ?_, ?_, ?_, ?_⟩
  · refine (((hr.alloc o).alloc o').kept hg5 (fun e => ?_) (fun e => ?_)).iff fun x => ?_
    · have := hne b e.symm; omega
    · have := hne _ e.symm; omega
    · simp only [List.mem_append, List.mem_singleton, not_or, ne_eq]; exact and_assoc
  · rw [List.length_append, List.flatMap_append]; simpa using hown
  · rw [List.nodup_append]; exact ⟨h.nd, by simp, fun a ha c hc e => hL.2 (by rw [List.mem_singleton.1 hc] at e; rw [← e]; exact ha)⟩
  · intro x hx
    rcases List.mem_append.1 hx with hx | hx
    · exact h.sm x hx
    · rw [List.mem_singleton.1 hx]; exact hL.1
  · have := h.len; rw [List.length_append, List.length_singleton]; omega
  · have h5 := hg5.size
    rw [World.size_alloc, World.size_alloc] at h5
    refine ⟨?_, ?_, ?_, ?_, fun j hj => ?_⟩
    · rw [hg5.os]; exact hg1.os.trans h.below.os
    · rw [hg5.tape]; exact hg1.tape.trans h.below.tape
    · rw [hg5.output]; exact hg1.output.trans h.below.output
    · have := h.below.size; omega
    · rw [hg5.block j (by simp; omega) (fun e => by have := hne j e.symm; omega), Below.heap_alloc _ _ _ (by simp; omega), Below.heap_alloc _ _ _ (by omega), hg1.block j (by omega) (by simp; omega)]
      exact h.below.block j hj

/-- What List leaves. -/
def ListPost (w : World) (ps : List (ByteArray × Nat)) (S : ByteArray → Nat) : Ending → World → Prop := fun e w' =>
  ∃ (v : Value) (ys : List ByteArray), e = .returned v ∧ w'.ownsRow (w.heap.size + 1) 185 3 v ys.length (ys.flatMap (stE ps S)) ∧ ys.Pairwise (fun x y => lessB x y = true) ∧ (∀ k, k ∈ ys ↔ (numOf ps k).isSome = true) ∧ Below w.heap.size w w'

theorem stV_some (ps : List (ByteArray × Nat)) (S : ByteArray → Nat) (k : ByteArray) (u : Value) (h : stV ps S k = some u) : u = .agg #[.string k, .int .i64 (S k), .int .i64 ((numOf ps k).getD 0 : Nat)] := by
  unfold stV at h
  cases hn : numOf ps k with
  | none => rw [hn] at h; cases h
  | some m => rw [hn] at h; injection h with h; exact h.symm

end Go.Proofs.YtldkpahaocjdpaaGreat

namespace Go.Proofs.YtldkpahaocjdpaaGreat
open Go.RowKit Go.Maps

/-- A list of n marks. -/
def marks (mk n : Nat) : List Value := (List.replicate n ()).flatMap fun _ => markE mk
/-- A slice that holds n marks. -/
def Marked (w : World) (base mk : Nat) (v : Value) : Prop := ∃ n, n ≤ 100000 ∧ w.ownsRow base 185 3 v n (marks mk n)

theorem mark_at {w : World} {base mk : Nat} {v : Value} {n : Nat} (h : w.ownsRow base 185 3 v n (marks mk n)) (k : Nat) (hk : k < n) : ∃ g cap, v = .slice (some ⟨g, 0, none⟩) n cap ∧ g < w.heap.size ∧ n ≤ cap ∧ cap ≤ maxLen ∧ w.cell? ⟨g, k * 3, none⟩ = some (.string { data := #[] }) ∧ w.cell? ⟨g, k * 3 + 1, none⟩ = some (.int .i64 (-1000 - (mk : Int))) ∧ w.cell? ⟨g, k * 3 + 2, none⟩ = some (.int .i64 0) := by
  have h' : w.ownsRow base 185 3 v (List.replicate n ()).length ((List.replicate n ()).flatMap fun _ => markE mk) := by rw [List.length_replicate]; exact h
  obtain ⟨g, cap, hv, -, hgl, hnc, hcm, hc⟩ := row_at (f := fun _ : Unit => markE mk) (fun _ => rfl) h' k (by simpa using hk)
  rw [List.length_replicate] at hv hnc
  refine ⟨g, cap, hv, hgl, hnc, hcm, ?_, ?_, ?_⟩
  · have := hc 0 (by simp [markE]); simpa [markE] using this
  · have := hc 1 (by simp [markE]); simpa [markE] using this
  · have := hc 2 (by simp [markE]); simpa [markE] using this

set_option maxRecDepth 100000 in
set_option maxHeartbeats 4000000 in
theorem allStrata_yes (w : World) (base mk : Nat) (a : Option Addr) (n c : Nat) (h : w.ownsRow base 185 3 (.slice a n c) n (marks mk n)) (hn : n ≤ 100000) (hmk : mk ≤ 1000000000000) :
    Calls Tryz.prog 96 #[.slice a n c, .int .i64 mk] w fun e w' => e = .returned (.bool true) ∧ w' = w := by
  have HA := hide h
  clear h
  go_enter Tryz.func96, Tryz.ntmps96
  go_wp2_with fail
  go_loopg [5] n (fun gg i wr => ∃ k : Nat, k ≤ n ∧ gg = n - k ∧ i = .int .i64 k ∧ wr = w)
  case atStart => exact ⟨0, Nat.zero_le _, rfl, rfl, rfl⟩
  case round =>
    obtain ⟨k, hk, hgk, rfl, rfl⟩ := hrel
    by_cases hlk : k < n
    · obtain ⟨g, cap, hv, hgl, hnc, hcm, p0, p1, p2⟩ := mark_at (unhide HA) k hlk
      injection hv with h1 h2 h3
      subst h1 h3
      go_wp2_with fail
      go_roundg (n - (k + 1))
      case measure => omega
      case rel => exact ⟨k + 1, by omega, rfl, by go_num, rfl⟩
    · go_wp2_with fail
      go_ret
      exact ⟨rfl, rfl⟩
end Go.Proofs.YtldkpahaocjdpaaGreat
