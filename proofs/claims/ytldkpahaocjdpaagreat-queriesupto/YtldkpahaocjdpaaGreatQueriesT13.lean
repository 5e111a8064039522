/-
  Plain: how the reference's program (its rules, its predicates with their numbers of terms) lies in memory; pred: the place of a predicate, -1 if it is not there.
  The reference's meet: a predicate that is not there yet is taken down with its number of terms; of one that is there the number is compared.
-/
import Derived.Test.YtldkpahaocjdpaaGreatQueriesT12
import Derived.Deep.AppendLies
import Derived.Deep.RegionLaw
import Derived.Deep.DeepCutAuto
set_option maxHeartbeats 16000000
namespace Go.Proofs.YtldkpahaocjdpaaGreat
section
open Go.RowKit
structure RR where
 R : RRule
 hv : Value
 bs : List (RAtom × Value)
 bv : Value
def RR.cells (r : RR) : List Value := [.string r.R.head.pred, r.hv, .bool r.R.head.no, .int .i64 r.R.head.at_, .int .i64 r.R.head.noAt, r.bv]
def zdl (rs : List RR) : List Value := rs.flatMap RR.cells
structure PMem2 (w : World) (o : Nat) (rs : List RR) (ps qs : List (ByteArray × Nat)) (rv pv tv sv : Value) : Prop where
 lt : o < w.heap.size
 c0 : w.cell? ⟨o, 0, none⟩ = some rv
 c1 : w.cell? ⟨o, 1, none⟩ = some pv
 c2 : w.cell? ⟨o, 2, none⟩ = some tv
 c3 : w.cell? ⟨o, 3, none⟩ = some sv
 fz : ∀ j, w.frozen? ⟨o, j, none⟩ = false
 rules : w.ownsRow (o + 1) 246 6 rv rs.length (zdl rs)
 each : ∀ r ∈ rs, RuleIn w (o + 1) r.R r.hv r.bs r.bv
 preds : w.ownsRow (o + 1) 9 1 pv ps.length (ps.map fun x => .string x.1)
 terms : w.ownsRow (o + 1) 3 1 tv qs.length (qs.map fun x => .int .i64 x.2)
abbrev PMem (w : World) (o : Nat) (rs : List RR) (ps : List (ByteArray × Nat)) (rv pv tv sv : Value) : Prop := PMem2 w o rs ps ps rv pv tv sv
theorem RuleIn.kept {B : List Nat} {w w' : World} {base : Nat} {R : RRule} {hv : Value} {bs : List (RAtom × Value)} {bv : Value} (h : RuleIn w base R hv bs bv) (k : Kept B w w') (hB : ∀ x ∈ B, x < base) : RuleIn w' base R hv bs bv :=
 ⟨zay h.hd k hB, zay h.bo k hB, fun x hx => zay (h.bl x hx) k hB, h.eq⟩
theorem PMem2.kept {B : List Nat} {w w' : World} {o : Nat} {rs : List RR} {ps qs : List (ByteArray × Nat)} {rv pv tv sv : Value} (h : PMem2 w o rs ps qs rv pv tv sv) (k : Kept B w w') (hB : ∀ x ∈ B, x < o) : PMem2 w' o rs ps qs rv pv tv sv :=
 have hn : o ∉ B := fun hm => by have := hB o hm; omega
 have hB' : ∀ x ∈ B, x < o + 1 := fun x hx => by have := hB x hx; omega
 ⟨Nat.lt_of_lt_of_le h.lt k.size, (k.cell h.lt hn).trans h.c0, (k.cell h.lt hn).trans h.c1, (k.cell h.lt hn).trans h.c2, (k.cell h.lt hn).trans h.c3, fun j => (k.frozen h.lt hn).trans (h.fz j), zay h.rules k hB', fun r hr => (h.each r hr).kept k hB', zay h.preds k hB', zay h.terms k hB'⟩
theorem zf8 {w W w5 : World} {o j : Nat} {u v v' : Value} {e e' : TypeId} {size size' n n' : Nat} {xs xs' : List Value} (hW : ∀ k, k < w.heap.size → W.heap[k]? = w.heap[k]?) (hS : w.heap.size ≤ W.heap.size) (hv : w.ownsRow (o + 1) e size v n xs) (hg : W.grownBy w5 v.ownBlock) (h : w.ownsRow (o + 1) e' size' v' n' xs') (hne : e' ≠ e) : (w5.setCell ⟨o, j, none⟩ u).ownsRow (o + 1) e' size' v' n' xs' := by
 have hd := own_ne h hv hne
 refine ⟨h.1, ?_⟩
 rcases h.2 with hn | ⟨g, cap, cur, rfl, hb, hgg, rest⟩
 ·exact .inl hn
 ·have hl := (Array.getElem?_eq_some_iff.1 hgg).1
  refine .inr ⟨g, cap, cur, rfl, hb, ?_, rest⟩
  rw [Below.heap_setCell _ _ _ _ (by simp; omega), hg.block g (by omega) (by rcases hd with hd | hd; cases hd; exact hd), hW g hl]
  exact hgg
theorem zjp {w W w5 : World} {o j : Nat} {u v : Value} {e : TypeId} {size n : Nat} {xs : List Value} (hW : ∀ k, k < w.heap.size → W.heap[k]? = w.heap[k]?) (hS : w.heap.size ≤ W.heap.size) (hv : w.ownsRow (o + 1) e size v n xs) (hg : W.grownBy w5 v.ownBlock) (h1 : 317 ≠ e) (h2 : 243 ≠ e) {R : RRule} {hv' : Value} {bs : List (RAtom × Value)} {bv : Value} (h : RuleIn w (o + 1) R hv' bs bv) : RuleIn (w5.setCell ⟨o, j, none⟩ u) (o + 1) R hv' bs bv :=
 ⟨zf8 hW hS hv hg h.hd h1, zf8 hW hS hv hg h.bo h2, fun x hx => zf8 hW hS hv hg (h.bl x hx) h1, h.eq⟩
theorem zg9 {w W w5 : World} {o : Nat} {v : Value} {e : TypeId} {size n : Nat} {xs : List Value} (hW : ∀ k, k < w.heap.size → W.heap[k]? = w.heap[k]?) (hS : w.heap.size ≤ W.heap.size) (hv : w.ownsRow (o + 1) e size v n xs) (hg : W.grownBy w5 v.ownBlock) (hlt : o < w.heap.size) : w5.heap[o]? = w.heap[o]? := by
 rw [hg.block o (by omega) (fun hm => by have := (hv.lt o hm.symm).1; omega), hW o hlt]
theorem zh5 {w W w5 : World} {o j : Nat} {u v : Value} {e : TypeId} {size n : Nat} {xs : List Value} (hW : ∀ k, k < w.heap.size → W.heap[k]? = w.heap[k]?) (hS : w.heap.size ≤ W.heap.size) (ho : W.os = w.os) (ht : W.tape = w.tape) (hou : W.output = w.output) (hv : w.ownsRow (o + 1) e size v n xs) (hg : W.grownBy w5 v.ownBlock) (hlt : o < w.heap.size) : Below o w (w5.setCell ⟨o, j, none⟩ u) :=
 ⟨hg.os.trans ho, hg.tape.trans ht, hg.output.trans hou, by have := hg.size; simp; omega, fun k hk => by
  rw [Below.heap_setCell _ _ _ _ (by simp; omega), hg.block k (by omega) (fun hm => by have := (hv.lt k hm.symm).1; omega), hW k (by omega)]⟩
theorem PMem2.setPreds {w W w5 : World} {o : Nat} {rs : List RR} {ps qs : List (ByteArray × Nat)} {rv pv tv sv : Value} (h : PMem2 w o rs ps qs rv pv tv sv) (hW : ∀ k, k < w.heap.size → W.heap[k]? = w.heap[k]?) (hS : w.heap.size ≤ W.heap.size) (hg : W.grownBy w5 pv.ownBlock) {x : ByteArray × Nat} {v' : Value} (hown : w5.ownsRow (o + 1) 9 1 v' (ps.length + 1) ((ps.map fun x => .string x.1) ++ [.string x.1])) :
  PMem2 (w5.setCell ⟨o, 1, none⟩ v') o rs (ps ++ [x]) qs rv v' tv sv := by
 have hb := zg9 hW hS h.preds hg h.lt
 have cc : ∀ j, w5.cell? ⟨o, j, none⟩ = w.cell? ⟨o, j, none⟩ := fun j => World.cell?_of_block hb
 have ff : ∀ j, w5.frozen? ⟨o, j, none⟩ = w.frozen? ⟨o, j, none⟩ := fun j => World.frozen?_of_block hb
 have x0 := (cc 0).trans h.c0; have x1 := (cc 1).trans h.c1; have x2 := (cc 2).trans h.c2; have x3 := (cc 3).trans h.c3
 have xf := fun j => (ff j).trans (h.fz j)
 clear cc ff hb
 have hlt := h.lt
 have hs := hg.size
 refine ⟨by simp; omega, by go_simp, by go_simp, by go_simp, by go_simp, by go_simp, zf8 hW hS h.preds hg h.rules (by decide), fun r hr => zjp hW hS h.preds hg (by decide) (by decide) (h.each r hr), ?_, zf8 hW hS h.preds hg h.terms (by decide)⟩
 have := ownsRow_setCell_below hown (a := ⟨o, 1, none⟩) (by simp) v'
 simpa using this
theorem PMem2.setTerms {w W w5 : World} {o : Nat} {rs : List RR} {ps qs : List (ByteArray × Nat)} {rv pv tv sv : Value} (h : PMem2 w o rs ps qs rv pv tv sv) (hW : ∀ k, k < w.heap.size → W.heap[k]? = w.heap[k]?) (hS : w.heap.size ≤ W.heap.size) (hg : W.grownBy w5 tv.ownBlock) {x : ByteArray × Nat} {v' : Value} (hown : w5.ownsRow (o + 1) 3 1 v' (qs.length + 1) ((qs.map fun x => .int .i64 x.2) ++ [.int .i64 x.2])) :
  PMem2 (w5.setCell ⟨o, 2, none⟩ v') o rs ps (qs ++ [x]) rv pv v' sv := by
 have hb := zg9 hW hS h.terms hg h.lt
 have cc : ∀ j, w5.cell? ⟨o, j, none⟩ = w.cell? ⟨o, j, none⟩ := fun j => World.cell?_of_block hb
 have ff : ∀ j, w5.frozen? ⟨o, j, none⟩ = w.frozen? ⟨o, j, none⟩ := fun j => World.frozen?_of_block hb
 have x0 := (cc 0).trans h.c0; have x1 := (cc 1).trans h.c1; have x2 := (cc 2).trans h.c2; have x3 := (cc 3).trans h.c3
 have xf := fun j => (ff j).trans (h.fz j)
 clear cc ff hb
 have hlt := h.lt
 have hs := hg.size
 refine ⟨by simp; omega, by go_simp, by go_simp, by go_simp, by go_simp, by go_simp, zf8 hW hS h.terms hg h.rules (by decide), fun r hr => zjp hW hS h.terms hg (by decide) (by decide) (h.each r hr), zf8 hW hS h.terms hg h.preds (by decide), ?_⟩
 have := ownsRow_setCell_below hown (a := ⟨o, 2, none⟩) (by simp) v'
 simpa using this
def zbr (nm : ByteArray) : List (ByteArray × Nat) → Nat → Int
 | [], _ => -1
 | x :: r, k => if x.1.toList == nm.toList then k else zbr nm r (k + 1)
def zak (l : List (ByteArray × Nat)) (nm : ByteArray) : Int := zbr nm l 0
theorem ix_step {nm : ByteArray} {l : List (ByteArray × Nat)} {k : Nat} (h : k < l.length) : zbr nm (l.drop k) k = if l[k].1.toList == nm.toList then (k : Int) else zbr nm (l.drop (k + 1)) (k + 1) := by
 rw [List.drop_eq_getElem_cons h]; rfl
theorem zen {w : World} {base : Nat} {e : TypeId} {v : Value} {n : Nat} {xs : List Value} (h : w.ownsRow base e 1 v n xs) (hn : 0 < n) : ∃ g cap, v = .slice (some ⟨g, 0, none⟩) n cap ∧ base ≤ g ∧ n ≤ cap ∧ cap ≤ maxLen ∧ ∀ k, k < n → w.cell? ⟨g, k, none⟩ = xs[k]? := by
 rcases h.2 with ⟨_, h0⟩ | ⟨g, cap, cur, rfl, hb, hg, hnc, hcm, hcs, ht⟩
 ·omega
 ·refine ⟨g, cap, rfl, hb, hnc, hcm, fun k hk => ?_⟩
  exact h.cellAt k (by omega)
theorem zfe (w : World) (o : Nat) (rs : List RR) (ps : List (ByteArray × Nat)) (rv pv tv sv : Value) (nm : ByteArray) (h : PMem w o rs ps rv pv tv sv) :
  Calls Tryz.prog 135 #[.pointer (some ⟨o, 0, none⟩), .string nm] w fun e w' => e = .returned (.int .i64 (zak ps nm)) ∧ w' = w := by
 obtain ⟨hlt, c0, c1, c2, c3, fz, hr, he, hp, ht⟩ := h
 obtain ⟨a1, cap1, rfl⟩ := zac hp
 have hmx : ps.length ≤ maxLen := by
  rcases hp.2 with ⟨_, h0⟩ | ⟨g, cap, cur, _, _, _, h1, h2, _⟩ <;> omega
 unfold maxLen at hmx
 go_enter Tryz.func135, Tryz.ntmps135
 go_wp2
 go_loop [5] (fun i => ∃ k : Nat, k ≤ ps.length ∧ i = .int .i64 k ∧ zbr nm (ps.drop k) k = zak ps nm) (fun i => ps.length - (intOf i).toNat)
 case atStart => exact ⟨0, Nat.zero_le _, rfl, rfl⟩
 case round =>
  obtain ⟨k, hk, rfl, hix⟩ := hrel
  have HX := hide hix
  clear hix
  by_cases hlk : k < ps.length
  ·obtain ⟨g, cap, hv, hb, hnc, hcm, hc⟩ := zen hp (by omega)
   injection hv with h1 h2 h3
   subst h1 h3
   have hck := hc k hlk
   rw [List.getElem?_map, List.getElem?_eq_getElem hlk] at hck
   simp only [Option.map_some] at hck
   have hst := ix_step (nm := nm) hlk
   have HS := hide hst
   clear hc hst hr he ht
   cases hq : ps[k].1.toList == nm.toList with
   | true =>
    go_wp2
    go_ret
    exact ⟨by rw [← zaa HX, zaa HS, if_pos hq]; rfl, rfl⟩
   | false =>
    go_wp2
    go_round
    case rel => exact ⟨k + 1, by omega, by go_num, by rw [← zaa HX, zaa HS, if_neg (by rw [hq]; decide)]⟩
    case measure => simp [intOf]; omega
  ·go_wp2
   go_ret
   exact ⟨by rw [← zaa HX, List.drop_of_length_le (by omega)]; rfl, rfl⟩
theorem zeh : (Tryz.prog.info? 9).map (fun i => (i.zero, i.size, i.bytes)) = some (some (.string { data := #[] }), 1, 16) := by kernel_rfl
theorem zqs : (Tryz.prog.info? 3).map (fun i => (i.zero, i.size, i.bytes)) = some (some (.int .i64 0), 1, 8) := by kernel_rfl
def zdj (ps : List (ByteArray × Nat)) (nm : ByteArray) (n : Nat) : List (ByteArray × Nat) := if zak ps nm < 0 then ps ++ [(nm, n)] else ps
def zdf (ps : List (ByteArray × Nat)) (nm : ByteArray) (n : Nat) : Bool := if zak ps nm < 0 then true else ((ps.getD (zak ps nm).toNat (nm, 0)).2 : Int) == n
theorem ix_lt (nm : ByteArray) : ∀ (l : List (ByteArray × Nat)) (k : Nat), 0 ≤ zbr nm l k → (k : Int) ≤ zbr nm l k ∧ zbr nm l k < k + l.length
 | [], k, h => by simp [zbr] at h
 | x :: r, k, h => by
  unfold zbr at h ⊢
  split
  ·simp; omega
  ·rename_i hne
   rw [if_neg hne] at h
   have := ix_lt nm r (k + 1) h
   simp; omega
theorem zcc {ps : List (ByteArray × Nat)} {nm : ByteArray} (h : 0 ≤ zak ps nm) : (zak ps nm).toNat < ps.length := by
 have := ix_lt nm ps 0 h
 unfold zak at *; omega
set_option maxRecDepth 100000 in
theorem meet_old (w : World) (o : Nat) (rs : List RR) (ps : List (ByteArray × Nat)) (rv pv tv sv : Value) (nm : ByteArray) (a : Option Addr) (n c : Nat) (no : Bool) (at_ noAt : Nat) (h : PMem w o rs ps rv pv tv sv) (hix : 0 ≤ zak ps nm) :
  Calls Tryz.prog 188 #[.pointer (some ⟨o, 0, none⟩), .agg #[.string nm, .slice a n c, .bool no, .int .i64 at_, .int .i64 noAt]] w fun e w' => e = .returned (.bool (zdf ps nm n)) ∧ Below w.heap.size w w' := by
 have h' := h
 obtain ⟨hlt, c0, c1, c2, c3, fz, hr, he, hp, ht⟩ := h
 have hil := zcc hix
 obtain ⟨g, cap, rfl, hb, hnc, hcm, hc⟩ := zen ht (by omega)
 have hck := hc _ hil
 rw [List.getElem?_map, List.getElem?_eq_getElem hil] at hck
 simp only [Option.map_some] at hck
 have hm : zdf ps nm n = ((ps[(zak ps nm).toNat].2 : Int) == n) := by
  unfold zdf; rw [if_neg (by omega)]
  simp [List.getD, List.getElem?_eq_getElem hil]
 have hgl := World.block_lt_of_cell? w _ hck
 simp only at hgl
 have HM := hide hm
 have hilI : zak ps nm < ps.length := by omega
 clear hm hc hr he hp ht
 unfold maxLen at hcm
 go_enter Tryz.func188, Tryz.ntmps188
 go_wp2_with fail
 refine (zfe _ o rs ps _ _ _ _ nm (h'.kept ((Kept.refl [] _).alloc _) (by simp))).mono ?_
 rintro e w1 ⟨rfl, rfl⟩
 go_wp2_with fail
 go_quiet (fail)
 go_wp2
 go_ret
 exact ⟨by rw [zaa HM]; rfl, below_drewN ((Below.refl _ _).alloc (Nat.le_refl _) _) _⟩
end
section
open Go.RowKit
theorem zg3 (W : World) (B : Nat) (u : Value) (t : TypeId) (hb : W.heap[B]? = some (.cells #[u] t (0, 0))) : ∀ j x, ([u] : List Value)[j]? = some x → W.cell? ((⟨B, 0, none⟩ : Addr).add j) = some x :=
 World.news_of_block (cs := #[u]) hb
set_option maxRecDepth 100000 in
theorem meet_new (w : World) (o : Nat) (rs : List RR) (ps : List (ByteArray × Nat)) (rv pv tv sv : Value) (nm : ByteArray) (a : Option Addr) (n c : Nat) (no : Bool) (at_ noAt : Nat) (h : PMem w o rs ps rv pv tv sv) (hpl : ps.length ≤ 1000) (hix : zak ps nm < 0) :
  Calls Tryz.prog 188 #[.pointer (some ⟨o, 0, none⟩), .agg #[.string nm, .slice a n c, .bool no, .int .i64 at_, .int .i64 noAt]] w fun e w' => e = .returned (.bool true) ∧ ∃ pv' tv', PMem w' o rs (ps ++ [(nm, n)]) rv pv' tv' sv ∧ Below o w w' := by
 have h' := h
 obtain ⟨i0, hi, hz0, hz1, hz2⟩ := info_parts zeh
 obtain ⟨i3, hi3, hy0, hy1, hy2⟩ := info_parts zqs
 obtain ⟨hlt, c0, c1, c2, c3, fz, hr, he, hp, ht⟩ := h
 obtain ⟨a1, cap1, rfl⟩ := zac hp
 obtain ⟨a2, cap2, rfl⟩ := zac ht
 go_enter Tryz.func188, Tryz.ntmps188
 go_wp2_with fail
 refine (zfe _ o rs ps _ _ _ _ nm (h'.kept ((Kept.refl [] _).alloc _) (by simp))).mono ?_
 rintro e w1 ⟨rfl, rfl⟩
 have s1 : Hid ((((w.alloc (Obj.cells #[Value.string nm, Value.slice a n c, Value.bool no, Value.int IntKind.i64 ↑at_, Value.int IntKind.i64 ↑noAt] 243)).alloc (Obj.cells #[Value.string nm] 9)).drew).ownsRow (o + 1) 9 1 (.slice a1 ps.length cap1) ps.length (ps.map fun x => .string x.1)) := (hp.alloc _).alloc _
 have s2 : Hid (∀ j u, ([.string nm] : List Value)[j]? = some u → (((w.alloc (Obj.cells #[Value.string nm, Value.slice a n c, Value.bool no, Value.int IntKind.i64 ↑at_, Value.int IntKind.i64 ↑noAt] 243)).alloc (Obj.cells #[Value.string nm] 9)).drew).cell? ((⟨w.heap.size + 1, 0, none⟩ : Addr).add j) = some u) := zg3 _ _ _ 9 (by
  show (((w.alloc _).alloc _).heap)[w.heap.size + 1]? = _
  have := heap_alloc_new (w.alloc (Obj.cells #[Value.string nm, Value.slice a n c, Value.bool no, Value.int IntKind.i64 ↑at_, Value.int IntKind.i64 ↑noAt] 243)) (Obj.cells #[Value.string nm] 9)
  simpa using this)
 have s3 : Hid (∀ u ∈ ([.string nm] : List Value), u.oneCell' = true) := by intro u hu; simp at hu; subst hu; rfl
 have s4 : Hid (ps.length + 1 ≤ maxLen) := by show _ ≤ _; unfold maxLen; omega
 have s5 : Hid ((ps.length + 1) * 16 ≤ 140737488355328) := by show _ ≤ _; omega
 have s6 : Hid (o + 1 ≤ (((w.alloc (Obj.cells #[Value.string nm, Value.slice a n c, Value.bool no, Value.int IntKind.i64 ↑at_, Value.int IntKind.i64 ↑noAt] 243)).alloc (Obj.cells #[Value.string nm] 9)).drew).heap.size) := by show _ ≤ _; simp; omega
 have s7 : Hid (∀ w5 : World, (((w.alloc (Obj.cells #[Value.string nm, Value.slice a n c, Value.bool no, Value.int IntKind.i64 ↑at_, Value.int IntKind.i64 ↑noAt] 243)).alloc (Obj.cells #[Value.string nm] 9)).drew).grownBy w5 (Value.slice a1 ps.length cap1).ownBlock → w5.cell? ⟨o, 1, none⟩ = some (.slice a1 ps.length cap1) ∧ w5.frozen? ⟨o, 1, none⟩ = false) := fun w5 hg => by
  have kk := ((((Kept.refl _ w).alloc _).alloc _).drew).grown hg (fun k e => .inr (show k ∈ (Value.slice a1 ps.length cap1).ownBlock.toList by simp [e]))
  have hn : o ∉ (Value.slice a1 ps.length cap1).ownBlock.toList := fun hm => by
   have := (hp.lt o (by simpa using hm)).1; omega
  exact ⟨(kk.cell hlt hn).trans c1, (kk.frozen hlt hn).trans (fz 1)⟩
 have s8 : Hid (∀ (w5 : World) (g cap : Nat), (((w.alloc (Obj.cells #[Value.string nm, Value.slice a n c, Value.bool no, Value.int IntKind.i64 ↑at_, Value.int IntKind.i64 ↑noAt] 243)).alloc (Obj.cells #[Value.string nm] 9)).drew).grownBy w5 (Value.slice a1 ps.length cap1).ownBlock → w5.ownsRow (o + 1) 9 1 (.slice (some ⟨g, 0, none⟩) (ps.length + 1) cap) (ps.length + 1) ((ps.map fun x => .string x.1) ++ [.string nm]) → ∃ pv', PMem2 (w5.setCell ⟨o, 1, none⟩ (.slice (some ⟨g, 0, none⟩) (ps.length + 1) cap)) o rs (ps ++ [(nm, n)]) ps rv pv' (.slice a2 ps.length cap2) sv ∧ Below o w (w5.setCell ⟨o, 1, none⟩ (.slice (some ⟨g, 0, none⟩) (ps.length + 1) cap)) ∧ (w5.setCell ⟨o, 1, none⟩ (.slice (some ⟨g, 0, none⟩) (ps.length + 1) cap)).cell? ⟨w.heap.size, 1, none⟩ = some (.slice a n c) ∧ w.heap.size < (w5.setCell ⟨o, 1, none⟩ (.slice (some ⟨g, 0, none⟩) (ps.length + 1) cap)).heap.size) := fun w5 g cap hg hown => by
  have hW : ∀ k, k < w.heap.size → (((w.alloc (Obj.cells #[Value.string nm, Value.slice a n c, Value.bool no, Value.int IntKind.i64 ↑at_, Value.int IntKind.i64 ↑noAt] 243)).alloc (Obj.cells #[Value.string nm] 9)).drew).heap[k]? = w.heap[k]? := fun k hk => (((Kept.refl [] w).alloc _).alloc _).block k hk (by simp)
  have hS : w.heap.size ≤ (((w.alloc (Obj.cells #[Value.string nm, Value.slice a n c, Value.bool no, Value.int IntKind.i64 ↑at_, Value.int IntKind.i64 ↑noAt] 243)).alloc (Obj.cells #[Value.string nm] 9)).drew).heap.size := (((Kept.refl [] w).alloc _).alloc _).size
  have hs5 := hg.size
  refine ⟨_, h'.setPreds (x := (nm, n)) hW hS hg hown, zh5 hW hS rfl rfl rfl hp hg hlt, ?_, ?_⟩
  ·rw [World.cell?_of_block (w := w5) (Below.heap_setCell w5 ⟨o, 1, none⟩ _ w.heap.size (by simp; omega))]
   rw [hg.cell_far ⟨w.heap.size, 1, none⟩ (by simp; omega) (fun e => by have := (hp.lt w.heap.size e.symm).2; omega)]
   show ((w.alloc _).alloc _).cell? _ = _
   rw [World.cell?_alloc_past _ _ _ (by simp), World.cell?_alloc_at _ _ _ _ rfl]; rfl
  ·simp at hs5 ⊢; omega
 clear hp ht hr he
 go_upto_region 3 with fail
 go_cut [] (fun wc => ∃ pv', PMem2 wc o rs (ps ++ [(nm, n)]) ps rv pv' (.slice a2 ps.length cap2) sv ∧ Below o w wc ∧ wc.cell? ⟨w.heap.size, 1, none⟩ = some (.slice a n c) ∧ w.heap.size < wc.heap.size)
 case first =>
  go_region_law (refine step_append_lies _ rfl (.tmp 16) (.tmp 19) 33 rfl (o + 1) 9 i0 (.string { data := #[] }) 1 16 Tryz.underlying33 hi hz0 hz1 hz2 rfl (by decide) (.slice a1 ps.length cap1) ps.length (ps.map fun x => .string x.1) (by simp [Act.eval]) (zaa s1) ⟨w.heap.size + 1, 0, none⟩ 1 1 [.string nm] (by simp [Act.eval]) rfl (zaa s2) (zaa s3) (by decide) (zaa s4) (zaa s5) (zaa s6) _ rfl ?_; intro g cap w5 hown5 hg5 hat5 hlt5; obtain ⟨y1, y2⟩ := zaa s7 w5 hg5)
  all_goals
   go_wp2_with fail
   go_meet
   case rel => exact zaa s8 w5 g cap hg5 hown5
 case rest =>
  obtain ⟨pv', hm, hbl, hbx, hsz⟩ := hcut
  clear s1 s2 s3 s4 s5 s6 s7 s8 c0 c1 c2 c3 fz h'
  have hm' := hm
  obtain ⟨hlt2, d0, d1, d2, d3, dfz, hr2, he2, hp2, ht2⟩ := hm
  have s1 : Hid ((((wc.alloc (Obj.cells #[Value.int .i64 n] 3)).drew).ownsRow (o + 1) 3 1 (.slice a2 ps.length cap2) ps.length (ps.map fun x => .int .i64 x.2))) := ht2.alloc _
  have s2 : Hid (∀ j u, ([.int .i64 n] : List Value)[j]? = some u → ((wc.alloc (Obj.cells #[Value.int .i64 n] 3)).drew).cell? ((⟨wc.heap.size, 0, none⟩ : Addr).add j) = some u) := zg3 _ _ _ 3 (heap_alloc_new wc _)
  have s3 : Hid (∀ u ∈ ([.int .i64 n] : List Value), u.oneCell' = true) := by intro u hu; simp at hu; subst hu; rfl
  have s4 : Hid (ps.length + 1 ≤ maxLen) := by show _ ≤ _; unfold maxLen; omega
  have s5 : Hid ((ps.length + 1) * 8 ≤ 140737488355328) := by show _ ≤ _; omega
  have s6 : Hid (o + 1 ≤ ((wc.alloc (Obj.cells #[Value.int .i64 n] 3)).drew).heap.size) := by show _ ≤ _; simp; omega
  have hW : ∀ k, k < wc.heap.size → ((wc.alloc (Obj.cells #[Value.int .i64 n] 3)).drew).heap[k]? = wc.heap[k]? := fun k hk => ((Kept.refl [] wc).alloc _).block k hk (by simp)
  have hS : wc.heap.size ≤ ((wc.alloc (Obj.cells #[Value.int .i64 n] 3)).drew).heap.size := ((Kept.refl [] wc).alloc _).size
  have s7 : Hid (∀ w5 : World, ((wc.alloc (Obj.cells #[Value.int .i64 n] 3)).drew).grownBy w5 (Value.slice a2 ps.length cap2).ownBlock → w5.cell? ⟨o, 2, none⟩ = some (.slice a2 ps.length cap2) ∧ w5.frozen? ⟨o, 2, none⟩ = false) := fun w5 hg =>
   have hb := zg9 hW hS ht2 hg hlt2
   ⟨(World.cell?_of_block hb).trans d2, (World.frozen?_of_block hb).trans (dfz 2)⟩
  have s8 : Hid (∀ (w5 : World) (g cap : Nat), ((wc.alloc (Obj.cells #[Value.int .i64 n] 3)).drew).grownBy w5 (Value.slice a2 ps.length cap2).ownBlock → w5.ownsRow (o + 1) 3 1 (.slice (some ⟨g, 0, none⟩) (ps.length + 1) cap) (ps.length + 1) ((ps.map fun x => .int .i64 x.2) ++ [.int .i64 n]) → ∃ pv' tv', PMem (w5.setCell ⟨o, 2, none⟩ (.slice (some ⟨g, 0, none⟩) (ps.length + 1) cap)) o rs (ps ++ [(nm, n)]) rv pv' tv' sv ∧ Below o w (w5.setCell ⟨o, 2, none⟩ (.slice (some ⟨g, 0, none⟩) (ps.length + 1) cap))) := fun w5 g cap hg hown =>
   ⟨_, _, hm'.setTerms (x := (nm, n)) hW hS hg hown, hbl.trans (zh5 hW hS rfl rfl rfl ht2 hg hlt2)⟩
  clear hW hS hp2 ht2 hr2 he2 hm'
  go_wp2_with fail
  go_region_law (refine step_append_lies _ rfl (.tmp 27) (.tmp 31) 24 rfl (o + 1) 3 i3 (.int .i64 0) 1 8 Tryz.underlying24 hi3 hy0 hy1 hy2 rfl (by decide) (.slice a2 ps.length cap2) ps.length (ps.map fun x => .int .i64 x.2) (by simp [Act.eval]) (zaa s1) ⟨wc.heap.size, 0, none⟩ 1 1 [.int .i64 n] (by simp [Act.eval]) rfl (zaa s2) (zaa s3) (by decide) (zaa s4) (zaa s5) (zaa s6) _ rfl ?_; intro g cap w5 hown5 hg5 hat5 hlt5; obtain ⟨y1, y2⟩ := zaa s7 w5 hg5)
  all_goals
   go_wp2_with fail
   go_ret
   exact ⟨rfl, zaa s8 w5 g cap hg5 hown5⟩
end
end Go.Proofs.YtldkpahaocjdpaaGreat
