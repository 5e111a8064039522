/-
  Plain: how the reference's program (its rules, its predicates with their numbers of terms) lies in memory; pred: the place of a predicate, -1 if it is not there.
-/
import Derived.Test.YtldkpahaocjdpaaGreatLoadsT25
namespace Go.Proofs.YtldkpahaocjdpaaGreat
open Go.RowKit

/-- A rule and the values of its slices. -/
structure RR where
  R : RRule
  hv : Value
  bs : List (RAtom × Value)
  bv : Value

def RR.cells (r : RR) : List Value := [.string r.R.head.pred, r.hv, .bool r.R.head.no, .int .i64 r.R.head.at_, .int .i64 r.R.head.noAt, r.bv]
def rrCells (rs : List RR) : List Value := rs.flatMap RR.cells

structure PMem2 (w : World) (o : Nat) (rs : List RR) (ps qs : List (ByteArray × Nat)) (rv pv tv sv : Value) : Prop where
  lt : o < w.heap.size
  c0 : w.cell? ⟨o, 0, none⟩ = some rv
  c1 : w.cell? ⟨o, 1, none⟩ = some pv
  c2 : w.cell? ⟨o, 2, none⟩ = some tv
  c3 : w.cell? ⟨o, 3, none⟩ = some sv
  fz : ∀ j, w.frozen? ⟨o, j, none⟩ = false
  rules : w.ownsRow (o + 1) 246 6 rv rs.length (rrCells rs)
  each : ∀ r ∈ rs, RuleIn w (o + 1) r.R r.hv r.bs r.bv
  preds : w.ownsRow (o + 1) 9 1 pv ps.length (ps.map fun x => .string x.1)
  terms : w.ownsRow (o + 1) 3 1 tv qs.length (qs.map fun x => .int .i64 x.2)

/-- The program in block o: its rules; its predicates, each with its number of terms. -/
abbrev PMem (w : World) (o : Nat) (rs : List RR) (ps : List (ByteArray × Nat)) (rv pv tv sv : Value) : Prop := PMem2 w o rs ps ps rv pv tv sv

theorem RuleIn.kept {B : List Nat} {w w' : World} {base : Nat} {R : RRule} {hv : Value} {bs : List (RAtom × Value)} {bv : Value} (h : RuleIn w base R hv bs bv) (k : Kept B w w') (hB : ∀ x ∈ B, x < base) : RuleIn w' base R hv bs bv :=
  ⟨ownsRow_kept h.hd k hB, ownsRow_kept h.bo k hB, fun x hx => ownsRow_kept (h.bl x hx) k hB, h.eq⟩

theorem PMem2.kept {B : List Nat} {w w' : World} {o : Nat} {rs : List RR} {ps qs : List (ByteArray × Nat)} {rv pv tv sv : Value} (h : PMem2 w o rs ps qs rv pv tv sv) (k : Kept B w w') (hB : ∀ x ∈ B, x < o) : PMem2 w' o rs ps qs rv pv tv sv :=
  have hn : o ∉ B := fun hm => by have := hB o hm; omega
  have hB' : ∀ x ∈ B, x < o + 1 := fun x hx => by have := hB x hx; omega
  ⟨Nat.lt_of_lt_of_le h.lt k.size, (k.cell h.lt hn).trans h.c0, (k.cell h.lt hn).trans h.c1, (k.cell h.lt hn).trans h.c2, (k.cell h.lt hn).trans h.c3, fun j => (k.frozen h.lt hn).trans (h.fz j), ownsRow_kept h.rules k hB', fun r hr => (h.each r hr).kept k hB', ownsRow_kept h.preds k hB', ownsRow_kept h.terms k hB'⟩

/-- Behind an append to the row v (of another type) and a store into block o, rows stay. -/
theorem far_row {w W w5 : World} {o j : Nat} {u v v' : Value} {e e' : TypeId} {size size' n n' : Nat} {xs xs' : List Value} (hW : ∀ k, k < w.heap.size → W.heap[k]? = w.heap[k]?) (hS : w.heap.size ≤ W.heap.size) (hv : w.ownsRow (o + 1) e size v n xs) (hg : W.grownBy w5 v.ownBlock) (h : w.ownsRow (o + 1) e' size' v' n' xs') (hne : e' ≠ e) : (w5.setCell ⟨o, j, none⟩ u).ownsRow (o + 1) e' size' v' n' xs' := by
  have hd := own_ne h hv hne
  refine ⟨h.1, ?_⟩
  rcases h.2 with hn | ⟨g, cap, cur, rfl, hb, hgg, rest⟩
  · exact .inl hn
  · have hl := (Array.getElem?_eq_some_iff.1 hgg).1
    refine .inr ⟨g, cap, cur, rfl, hb, ?_, rest⟩
    rw [Below.heap_setCell _ _ _ _ (by simp; omega), hg.block g (by omega) (by rcases hd with hd | hd; cases hd; exact hd), hW g hl]
    exact hgg

theorem far_rule {w W w5 : World} {o j : Nat} {u v : Value} {e : TypeId} {size n : Nat} {xs : List Value} (hW : ∀ k, k < w.heap.size → W.heap[k]? = w.heap[k]?) (hS : w.heap.size ≤ W.heap.size) (hv : w.ownsRow (o + 1) e size v n xs) (hg : W.grownBy w5 v.ownBlock) (h1 : 317 ≠ e) (h2 : 243 ≠ e) {R : RRule} {hv' : Value} {bs : List (RAtom × Value)} {bv : Value} (h : RuleIn w (o + 1) R hv' bs bv) : RuleIn (w5.setCell ⟨o, j, none⟩ u) (o + 1) R hv' bs bv :=
  ⟨far_row hW hS hv hg h.hd h1, far_row hW hS hv hg h.bo h2, fun x hx => far_row hW hS hv hg (h.bl x hx) h1, h.eq⟩

/-- The cells of block o behind an append to a row of its own. -/
theorem far_cell {w W w5 : World} {o : Nat} {v : Value} {e : TypeId} {size n : Nat} {xs : List Value} (hW : ∀ k, k < w.heap.size → W.heap[k]? = w.heap[k]?) (hS : w.heap.size ≤ W.heap.size) (hv : w.ownsRow (o + 1) e size v n xs) (hg : W.grownBy w5 v.ownBlock) (hlt : o < w.heap.size) : w5.heap[o]? = w.heap[o]? := by
  rw [hg.block o (by omega) (fun hm => by have := (hv.lt o hm.symm).1; omega), hW o hlt]

theorem below_far {w W w5 : World} {o j : Nat} {u v : Value} {e : TypeId} {size n : Nat} {xs : List Value} (hW : ∀ k, k < w.heap.size → W.heap[k]? = w.heap[k]?) (hS : w.heap.size ≤ W.heap.size) (ho : W.os = w.os) (ht : W.tape = w.tape) (hou : W.output = w.output) (hv : w.ownsRow (o + 1) e size v n xs) (hg : W.grownBy w5 v.ownBlock) (hlt : o < w.heap.size) : Below o w (w5.setCell ⟨o, j, none⟩ u) :=
  ⟨hg.os.trans ho, hg.tape.trans ht, hg.output.trans hou, by have := hg.size; simp; omega, fun k hk => by
    rw [Below.heap_setCell _ _ _ _ (by simp; omega), hg.block k (by omega) (fun hm => by have := (hv.lt k hm.symm).1; omega), hW k (by omega)]⟩

theorem PMem2.setPreds {w W w5 : World} {o : Nat} {rs : List RR} {ps qs : List (ByteArray × Nat)} {rv pv tv sv : Value} (h : PMem2 w o rs ps qs rv pv tv sv) (hW : ∀ k, k < w.heap.size → W.heap[k]? = w.heap[k]?) (hS : w.heap.size ≤ W.heap.size) (hg : W.grownBy w5 pv.ownBlock) {x : ByteArray × Nat} {v' : Value} (hown : w5.ownsRow (o + 1) 9 1 v' (ps.length + 1) ((ps.map fun x => .string x.1) ++ [.string x.1])) :
    PMem2 (w5.setCell ⟨o, 1, none⟩ v') o rs (ps ++ [x]) qs rv v' tv sv := by
  have hb := far_cell hW hS h.preds hg h.lt
  have cc : ∀ j, w5.cell? ⟨o, j, none⟩ = w.cell? ⟨o, j, none⟩ := fun j => World.cell?_of_block hb
  have ff : ∀ j, w5.frozen? ⟨o, j, none⟩ = w.frozen? ⟨o, j, none⟩ := fun j => World.frozen?_of_block hb
  have x0 := (cc 0).trans h.c0; have x1 := (cc 1).trans h.c1; have x2 := (cc 2).trans h.c2; have x3 := (cc 3).trans h.c3
  have xf := fun j => (ff j).trans (h.fz j)
  clear cc ff hb
  have hlt := h.lt
  have hs := hg.size
  refine ⟨by simp; omega, by go_simp, by go_simp, by go_simp, by go_simp, by go_simp, far_row hW hS h.preds hg h.rules (by decide), fun r hr => far_rule hW hS h.preds hg (by decide) (by decide) (h.each r hr), ?_, far_row hW hS h.preds hg h.terms (by decide)⟩
  have := ownsRow_setCell_below hown (a := ⟨o, 1, none⟩) (by simp) v'
  simpa using this

theorem PMem2.setTerms {w W w5 : World} {o : Nat} {rs : List RR} {ps qs : List (ByteArray × Nat)} {rv pv tv sv : Value} (h : PMem2 w o rs ps qs rv pv tv sv) (hW : ∀ k, k < w.heap.size → W.heap[k]? = w.heap[k]?) (hS : w.heap.size ≤ W.heap.size) (hg : W.grownBy w5 tv.ownBlock) {x : ByteArray × Nat} {v' : Value} (hown : w5.ownsRow (o + 1) 3 1 v' (qs.length + 1) ((qs.map fun x => .int .i64 x.2) ++ [.int .i64 x.2])) :
    PMem2 (w5.setCell ⟨o, 2, none⟩ v') o rs ps (qs ++ [x]) rv pv v' sv := by
  have hb := far_cell hW hS h.terms hg h.lt
  have cc : ∀ j, w5.cell? ⟨o, j, none⟩ = w.cell? ⟨o, j, none⟩ := fun j => World.cell?_of_block hb
  have ff : ∀ j, w5.frozen? ⟨o, j, none⟩ = w.frozen? ⟨o, j, none⟩ := fun j => World.frozen?_of_block hb
  have x0 := (cc 0).trans h.c0; have x1 := (cc 1).trans h.c1; have x2 := (cc 2).trans h.c2; have x3 := (cc 3).trans h.c3
  have xf := fun j => (ff j).trans (h.fz j)
  clear cc ff hb
  have hlt := h.lt
  have hs := hg.size
  refine ⟨by simp; omega, by go_simp, by go_simp, by go_simp, by go_simp, by go_simp, far_row hW hS h.terms hg h.rules (by decide), fun r hr => far_rule hW hS h.terms hg (by decide) (by decide) (h.each r hr), far_row hW hS h.terms hg h.preds (by decide), ?_⟩
  have := ownsRow_setCell_below hown (a := ⟨o, 2, none⟩) (by simp) v'
  simpa using this

def ixFrom (nm : ByteArray) : List (ByteArray × Nat) → Nat → Int
  | [], _ => -1
  | x :: r, k => if x.1.toList == nm.toList then k else ixFrom nm r (k + 1)
def predIx (l : List (ByteArray × Nat)) (nm : ByteArray) : Int := ixFrom nm l 0

theorem ix_step {nm : ByteArray} {l : List (ByteArray × Nat)} {k : Nat} (h : k < l.length) : ixFrom nm (l.drop k) k = if l[k].1.toList == nm.toList then (k : Int) else ixFrom nm (l.drop (k + 1)) (k + 1) := by
  rw [List.drop_eq_getElem_cons h]; rfl

/-- The cell of a row of one-cell elements. -/
theorem row_cell {w : World} {base : Nat} {e : TypeId} {v : Value} {n : Nat} {xs : List Value} (h : w.ownsRow base e 1 v n xs) (hn : 0 < n) : ∃ g cap, v = .slice (some ⟨g, 0, none⟩) n cap ∧ base ≤ g ∧ n ≤ cap ∧ cap ≤ maxLen ∧ ∀ k, k < n → w.cell? ⟨g, k, none⟩ = xs[k]? := by
  rcases h.2 with ⟨_, h0⟩ | ⟨g, cap, cur, rfl, hb, hg, hnc, hcm, hcs, ht⟩
  · omega
  · refine ⟨g, cap, rfl, hb, hnc, hcm, fun k hk => ?_⟩
    exact h.cellAt k (by omega)

set_option maxHeartbeats 1000000 in
theorem pred_any (w : World) (o : Nat) (rs : List RR) (ps : List (ByteArray × Nat)) (rv pv tv sv : Value) (nm : ByteArray) (h : PMem w o rs ps rv pv tv sv) :
    Calls Tryz.prog 135 #[.pointer (some ⟨o, 0, none⟩), .string nm] w fun e w' => e = .returned (.int .i64 (predIx ps nm)) ∧ w' = w := by
  obtain ⟨hlt, c0, c1, c2, c3, fz, hr, he, hp, ht⟩ := h
  obtain ⟨a1, cap1, rfl⟩ := own_slice hp
  have hmx : ps.length ≤ maxLen := by
    rcases hp.2 with ⟨_, h0⟩ | ⟨g, cap, cur, _, _, _, h1, h2, _⟩ <;> omega
  unfold maxLen at hmx
  go_enter Tryz.func135, Tryz.ntmps135
  go_wp2
  go_loop [5] (fun i => ∃ k : Nat, k ≤ ps.length ∧ i = .int .i64 k ∧ ixFrom nm (ps.drop k) k = predIx ps nm) (fun i => ps.length - (intOf i).toNat)
  case atStart => exact ⟨0, Nat.zero_le _, rfl, rfl⟩
  case round =>
    obtain ⟨k, hk, rfl, hix⟩ := hrel
    have HX := hide hix
    clear hix
    by_cases hlk : k < ps.length
    · obtain ⟨g, cap, hv, hb, hnc, hcm, hc⟩ := row_cell hp (by omega)
      injection hv with h1 h2 h3
      subst h1 h3
      have hck := hc k hlk
      rw [List.getElem?_map, List.getElem?_eq_getElem hlk] at hck
      simp only [Option.map_some] at hck
      have hst := ix_step (nm := nm) hlk
      have HS := hide hst
      clear hc hst hr he ht
      cases hq : ps[k].1.toList == nm.toList with
      | true =>
        go_wp2
        go_ret
        exact ⟨by rw [← unhide HX, unhide HS, if_pos hq]; rfl, rfl⟩
      | false =>
        go_wp2
        go_round
        case rel => exact ⟨k + 1, by omega, by go_num, by rw [← unhide HX, unhide HS, if_neg (by rw [hq]; decide)]⟩
        case measure => simp [intOf]; omega
    · go_wp2
      go_ret
      exact ⟨by rw [← unhide HX, List.drop_of_length_le (by omega)]; rfl, rfl⟩

theorem infoString : (Tryz.prog.info? 9).map (fun i => (i.zero, i.size, i.bytes)) = some (some (.string { data := #[] }), 1, 16) := by kernel_rfl
theorem infoInt : (Tryz.prog.info? 3).map (fun i => (i.zero, i.size, i.bytes)) = some (some (.int .i64 0), 1, 8) := by kernel_rfl

def meetP (ps : List (ByteArray × Nat)) (nm : ByteArray) (n : Nat) : List (ByteArray × Nat) := if predIx ps nm < 0 then ps ++ [(nm, n)] else ps
def meetB (ps : List (ByteArray × Nat)) (nm : ByteArray) (n : Nat) : Bool := if predIx ps nm < 0 then true else ((ps.getD (predIx ps nm).toNat (nm, 0)).2 : Int) == n

theorem ix_lt (nm : ByteArray) : ∀ (l : List (ByteArray × Nat)) (k : Nat), 0 ≤ ixFrom nm l k → (k : Int) ≤ ixFrom nm l k ∧ ixFrom nm l k < k + l.length
  | [], k, h => by simp [ixFrom] at h
  | x :: r, k, h => by
    unfold ixFrom at h ⊢
    split
    · simp; omega
    · rename_i hne
      rw [if_neg hne] at h
      have := ix_lt nm r (k + 1) h
      simp; omega
theorem predIx_lt {ps : List (ByteArray × Nat)} {nm : ByteArray} (h : 0 ≤ predIx ps nm) : (predIx ps nm).toNat < ps.length := by
  have := ix_lt nm ps 0 h
  unfold predIx at *; omega

set_option maxRecDepth 100000 in
set_option maxHeartbeats 2000000 in
theorem meet_old (w : World) (o : Nat) (rs : List RR) (ps : List (ByteArray × Nat)) (rv pv tv sv : Value) (nm : ByteArray) (a : Option Addr) (n c : Nat) (no : Bool) (at_ noAt : Nat) (h : PMem w o rs ps rv pv tv sv) (hix : 0 ≤ predIx ps nm) :
    Calls Tryz.prog 188 #[.pointer (some ⟨o, 0, none⟩), .agg #[.string nm, .slice a n c, .bool no, .int .i64 at_, .int .i64 noAt]] w fun e w' => e = .returned (.bool (meetB ps nm n)) ∧ Below w.heap.size w w' := by
  have h' := h
  obtain ⟨hlt, c0, c1, c2, c3, fz, hr, he, hp, ht⟩ := h
  have hil := predIx_lt hix
  obtain ⟨g, cap, rfl, hb, hnc, hcm, hc⟩ := row_cell ht (by omega)
  have hck := hc _ hil
  rw [List.getElem?_map, List.getElem?_eq_getElem hil] at hck
  simp only [Option.map_some] at hck
  have hm : meetB ps nm n = ((ps[(predIx ps nm).toNat].2 : Int) == n) := by
    unfold meetB; rw [if_neg (by omega)]
    simp [List.getD, List.getElem?_eq_getElem hil]
  have hgl := World.block_lt_of_cell? w _ hck
  simp only at hgl
  have HM := hide hm
  have hilI : predIx ps nm < ps.length := by omega
  clear hm hc hr he hp ht
  unfold maxLen at hcm
  go_enter Tryz.func188, Tryz.ntmps188
  go_wp2_with fail
  refine (pred_any _ o rs ps _ _ _ _ nm (h'.kept ((Kept.refl [] _).alloc _) (by simp))).mono ?_
  rintro e w1 ⟨rfl, rfl⟩
  go_wp2_with fail
  go_quiet (fail)
  go_wp2
  go_ret
  exact ⟨by rw [unhide HM]; rfl, below_drewN ((Below.refl _ _).alloc (Nat.le_refl _) _) _⟩
end Go.Proofs.YtldkpahaocjdpaaGreat
