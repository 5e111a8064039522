/-
  What variables are, as the program has it: an array of pairs. name: what a variable stands for.
  bind: a variable is let stand for a name.
  matchTerm: a term is held against a name.
  Match: an atom is held against a thing.
-/
import Derived.Test.YtldkpahaocjdpaaGreatQueriesT04
import Derived.Test.YtldkpahaocjdpaaGreatQueriesT36
import Derived.BigRegion
import Derived.Test.YtldkpahaocjdpaaGreatQueriesT06
import Derived.Test.YtldkpahaocjdpaaGreatQueriesT11
import Derived.Deep.CutBlock
set_option maxHeartbeats 16000000
namespace Go.Proofs.YtldkpahaocjdpaaGreat
section
open Go.RowKit
abbrev PEnv := List (ByteArray × ByteArray)
abbrev PTerm := Bool × ByteArray
def pAt : PEnv → ByteArray → Option ByteArray
 | [], _ => none
 | x :: r, n => if x.1.toList == n.toList then some x.2 else pAt r n
def zhb (e : PEnv) (n : ByteArray) : ByteArray := (pAt e n).getD { data := #[] }
theorem pAt_step {e : PEnv} {k : Nat} {n : ByteArray} (h : k < e.length) : pAt (e.drop k) n = if e[k].1.toList == n.toList then some e[k].2 else pAt (e.drop (k + 1)) n := by
 rw [List.drop_eq_getElem_cons h]; rfl
def eAt (e : PEnv) (i : Nat) : ByteArray × ByteArray := (e[i]?).getD ({ data := #[] }, { data := #[] })
def za5 (e : PEnv) : List Value :=
 [.int .i64 (e.length : Nat), .string (eAt e 0).1, .string (eAt e 0).2, .string (eAt e 1).1, .string (eAt e 1).2, .string (eAt e 2).1, .string (eAt e 2).2, .string (eAt e 3).1, .string (eAt e 3).2, .string (eAt e 4).1, .string (eAt e 4).2, .string (eAt e 5).1, .string (eAt e 5).2,
 .string (eAt e 6).1, .string (eAt e 6).2, .string (eAt e 7).1, .string (eAt e 7).2, .string (eAt e 8).1, .string (eAt e 8).2, .string (eAt e 9).1, .string (eAt e 9).2, .string (eAt e 10).1, .string (eAt e 10).2, .string (eAt e 11).1, .string (eAt e 11).2]
def zec (e : PEnv) : Value := .agg (za5 e).toArray
theorem zd3 (e : PEnv) {i : Nat} (h : i < 12) : (za5 e)[1 + i * 2]? = some (.string (eAt e i).1) := by
 match i, h with
 | 0, _ | 1, _ | 2, _ | 3, _ | 4, _ | 5, _ | 6, _ | 7, _ | 8, _ | 9, _ | 10, _ | 11, _ => rfl
theorem zdp (e : PEnv) {i : Nat} (h : i < 12) : (za5 e)[1 + i * 2 + 1]? = some (.string (eAt e i).2) := by
 match i, h with
 | 0, _ | 1, _ | 2, _ | 3, _ | 4, _ | 5, _ | 6, _ | 7, _ | 8, _ | 9, _ | 10, _ | 11, _ => rfl
theorem eAt_lt {e : PEnv} {i : Nat} (h : i < e.length) : eAt e i = e[i] := by unfold eAt; rw [List.getElem?_eq_getElem h]; rfl
def BindAt (w : World) (b : Nat) (e : PEnv) : Prop := ∀ j v, (za5 e)[j]? = some v → w.cell? ⟨b, j, none⟩ = some v
set_option maxRecDepth 100000 in
theorem zpp (w : World) (b : Nat) (e : PEnv) (v : ByteArray) (h : BindAt w b e) (hl : e.length ≤ 12) :
  Calls Tryz.prog 201 #[.pointer (some ⟨b, 0, none⟩), .string v] w fun en w' => en = .returned (.tuple #[.string (zhb e v), .bool (pAt e v).isSome]) ∧ w' = w := by
 have c0 := h 0 _ rfl
 have HB := hide h
 clear h
 go_enter Tryz.func201, Tryz.ntmps201
 go_wp2_with fail
 go_loop [11] (fun i => ∃ k : Nat, k ≤ e.length ∧ i = .int .i64 k ∧ pAt (e.drop k) v = pAt e v) (fun i => e.length - (intOf i).toNat)
 case atStart => exact ⟨0, Nat.zero_le _, rfl, rfl⟩
 case round =>
  obtain ⟨k, hk, rfl, hfin⟩ := hrel
  have HF := hide hfin
  clear hfin
  by_cases hlk : k < e.length
  ·have d1 := zaa HB _ _ (zd3 e (i := k) (by omega))
   have d2 := zaa HB _ _ (zdp e (i := k) (by omega))
   rw [eAt_lt hlk] at d1 d2
   have HS := hide (pAt_step (n := v) hlk)
   have hli : (k : Int) < e.length := by omega
   have hl2 : (k : Int) < 12 := by omega
   cases hq : e[k].1.toList == v.toList with
   | true =>
    have HE := hide (show pAt e v = some e[k].2 by rw [← zaa HF, zaa HS, if_pos hq])
    go_wp2_with fail
    go_ret2
    exact ⟨by unfold zhb; rw [zaa HE]; rfl, rfl⟩
   | false =>
    have HE := hide (show pAt (e.drop (k + 1)) v = pAt e v by rw [← zaa HF, zaa HS, if_neg (by rw [hq]; decide)])
    go_wp2_with fail
    go_round
    case rel => exact ⟨k + 1, by omega, by go_num, zaa HE⟩
    case measure => simp [intOf]; omega
  ·have HE := hide (show pAt e v = none by rw [← zaa HF, List.drop_of_length_le (by omega)]; rfl)
   go_wp2_with fail
   go_ret2
   exact ⟨by unfold zhb; rw [zaa HE]; rfl, rfl⟩
end
section
open Go.RowKit
theorem zkj (e : PEnv) {j : Nat} {v : Value} (h : (za5 e)[j]? = some v) : (j = 0 ∧ v = .int .i64 (e.length : Nat)) ∨ ∃ i, i < 12 ∧ ((j = 1 + i * 2 ∧ v = .string (eAt e i).1) ∨ (j = 1 + i * 2 + 1 ∧ v = .string (eAt e i).2)) := by
 have hj : j < 25 := (List.getElem?_eq_some_iff.1 h).1
 rcases Nat.eq_zero_or_pos j with rfl | hp
 ·left; refine ⟨rfl, ?_⟩; exact (Option.some.inj h).symm
 ·right
  refine ⟨(j - 1) / 2, by omega, ?_⟩
  rcases Nat.mod_two_eq_zero_or_one (j - 1) with hm | hm
  ·left
   have e1 : j = 1 + (j - 1) / 2 * 2 := by omega
   refine ⟨e1, ?_⟩
   have := zd3 e (i := (j - 1) / 2) (by omega)
   rw [← e1] at this
   exact Option.some.inj (h.symm.trans this)
  ·right
   have e1 : j = 1 + (j - 1) / 2 * 2 + 1 := by omega
   refine ⟨e1, ?_⟩
   have := zdp e (i := (j - 1) / 2) (by omega)
   rw [← e1] at this
   exact Option.some.inj (h.symm.trans this)
theorem eAt_snoc (e : PEnv) (x : ByteArray × ByteArray) (i : Nat) : eAt (e ++ [x]) i = if i = e.length then x else eAt e i := by
 unfold eAt
 rw [List.getElem?_append]
 split
 ·rename_i h; rw [if_neg (by omega)]
 ·rename_i h
  split
  ·rename_i h2; subst h2; simp
  ·rename_i h2
   rw [List.getElem?_eq_none (by simp; omega), List.getElem?_eq_none (by omega)]
structure BindIn (w : World) (b : Nat) (e : PEnv) : Prop where
 cells : BindAt w b e
 arr : ∃ cs, w.heap[b]? = some (.cells cs 135 (0, 0)) ∧ cs.size = 25
theorem BindIn.fz {w : World} {b : Nat} {e : PEnv} (h : BindIn w b e) (j : Nat) : w.frozen? ⟨b, j, none⟩ = false := by
 obtain ⟨cs, h1, _⟩ := h.arr
 simp [World.frozen?, h1]
theorem BindIn.lt {w : World} {b : Nat} {e : PEnv} (h : BindIn w b e) : b < w.heap.size := by
 obtain ⟨cs, h1, _⟩ := h.arr
 exact (Array.getElem?_eq_some_iff.1 h1).1
theorem BindIn.whole {w : World} {b : Nat} {e : PEnv} (h : BindIn w b e) : w.heap[b]? = some (.cells (za5 e).toArray 135 (0, 0)) := by
 obtain ⟨cs, h1, h2⟩ := h.arr
 have : cs = (za5 e).toArray := by
  apply Array.ext
  ·rw [h2]; rfl
  ·intro j hj hj'
   have := h.cells j _ (by rw [← List.getElem?_toArray]; exact Array.getElem?_eq_getElem hj')
   rw [cell_of_row w b j cs _ _ h1, Array.getElem?_eq_getElem hj] at this
   exact Option.some.inj this
 rw [h1, this]
theorem BindIn.of {w : World} {b : Nat} {e : PEnv} (h : w.heap[b]? = some (.cells (za5 e).toArray 135 (0, 0))) : BindIn w b e :=
 ⟨fun j v hj => by rw [cell_of_row w b j _ _ _ h, List.getElem?_toArray]; exact hj, _, h, rfl⟩
theorem BindIn.block {w w' : World} {b : Nat} {e : PEnv} (h : BindIn w b e) (hb : w'.heap[b]? = w.heap[b]?) : BindIn w' b e := BindIn.of (hb.trans h.whole)
theorem BindIn.drew {w : World} {b : Nat} {e : PEnv} (h : BindIn w b e) : BindIn w.drew b e := ⟨h.cells, h.arr⟩
theorem arr_set {w : World} {b j : Nat} {v : Value} {T : TypeId} {n : Nat} (h : ∃ cs, w.heap[b]? = some (.cells cs T (0, 0)) ∧ cs.size = n) : ∃ cs, (w.setCell ⟨b, j, none⟩ v).heap[b]? = some (.cells cs T (0, 0)) ∧ cs.size = n := by
 obtain ⟨cs, h1, h2⟩ := h
 rw [setCell_eq_setRow w b j cs T (0, 0) v h1]
 exact ⟨_, setRow_heap w b cs _ T _ h1, by simpa using h2⟩
def bindSet (w : World) (b k : Nat) (v n : ByteArray) : World := ((w.setCell ⟨b, 1 + k * 2, none⟩ (.string v)).setCell ⟨b, 1 + k * 2 + 1, none⟩ (.string n)).setCell ⟨b, 0, none⟩ (.int .i64 ((k : Int) + 1))
theorem BindIn.set {w : World} {b : Nat} {e : PEnv} (h : BindIn w b e) (hl : e.length < 12) (v n : ByteArray) : BindIn (bindSet w b e.length v n) b (e ++ [(v, n)]) := by
 refine ⟨fun j x hj => ?_, arr_set (arr_set (arr_set h.arr))⟩
 have c0 := h.cells 0 _ rfl
 have cv := h.cells _ _ (zd3 e hl)
 have cn := h.cells _ _ (zdp e hl)
 unfold bindSet
 rcases zkj _ hj with ⟨rfl, rfl⟩ | ⟨i, hi, ⟨rfl, rfl⟩ | ⟨rfl, rfl⟩⟩
 ·rw [World.cell?_setCell_same' _ _ _ (by rw [World.cell?_setCell_other _ _ _ _ (by intro e; injection e; omega), World.cell?_setCell_other _ _ _ _ (by intro e; injection e; omega), c0]; rfl)]
  simp
 ·rw [World.cell?_setCell_other _ _ _ _ (by intro e; injection e; omega), World.cell?_setCell_other _ _ _ _ (by intro e; injection e; omega), eAt_snoc]
  by_cases hk : i = e.length
  ·subst hk
   rw [World.cell?_setCell_same' _ _ _ (by rw [cv]; rfl), if_pos rfl]
  ·rw [World.cell?_setCell_other _ _ _ _ (by intro e; injection e; omega), if_neg hk]
   exact h.cells _ _ (zd3 e hi)
 ·rw [World.cell?_setCell_other _ _ _ _ (by intro e; injection e; omega), eAt_snoc]
  by_cases hk : i = e.length
  ·subst hk
   rw [World.cell?_setCell_same' _ _ _ (by rw [World.cell?_setCell_other _ _ _ _ (by intro e; injection e; omega), cn]; rfl), if_pos rfl]
  ·rw [World.cell?_setCell_other _ _ _ _ (by intro e; injection e; omega), World.cell?_setCell_other _ _ _ _ (by intro e; injection e; omega), if_neg hk]
   exact h.cells _ _ (zdp e hi)
theorem Kept.bindSet {B : List Nat} {a w : World} {b : Nat} (h : Kept B a w) (hp : b ∈ B ∨ a.heap.size ≤ b) (k : Nat) (v n : ByteArray) : Kept B a (Go.Proofs.YtldkpahaocjdpaaGreat.bindSet w b k v n) :=
 ((h.setCell (p := ⟨b, 1 + k * 2, none⟩) hp _).setCell (p := ⟨b, 1 + k * 2 + 1, none⟩) hp _).setCell (p := ⟨b, 0, none⟩) hp _
def pmB (e : PEnv) (v n : ByteArray) : Option PEnv :=
 match pAt e v with
 | some x => if x.toList == n.toList then some e else none
 | none => some (e ++ [(v, n)])
def zfd (w : World) (b : Nat) (r : Option PEnv) (en : Ending) (w' : World) : Prop := Kept [b] w w' ∧ en = .returned (.bool r.isSome) ∧ ∀ e', r = some e' → BindIn w' b e'
set_option maxRecDepth 100000 in
theorem pbind_any (w : World) (b : Nat) (e : PEnv) (v n : ByteArray) (h : BindIn w b e) (hl : e.length ≤ 12) (hr : pAt e v = none → e.length < 12) :
  Calls Tryz.prog 147 #[.pointer (some ⟨b, 0, none⟩), .string v, .string n] w (zfd w b (pmB e v n)) := by
 have HN := hide (zpp w b e v h.cells hl)
 have HP := hide (show zfd w b (pmB e v n) = zfd w b (match pAt e v with | some x => if x.toList == n.toList then some e else none | none => some (e ++ [(v, n)])) from rfl)
 have c0 := h.cells 0 _ rfl
 have f0 := h.fz 0
 have HB := hide h
 have hb := h.lt
 clear h
 cases hp : pAt e v with
 | some x =>
  have HX := hide (show zhb e v = x by unfold zhb; rw [hp]; rfl)
  rw [hp] at HP HN
  clear hr
  have HPP := hide hp
  clear hp
  go_enter Tryz.func147, Tryz.ntmps147
  go_wp2_with (go_at_call 201; refine (zaa HN).mono ?_; rintro en w1 ⟨rfl, hw1⟩; subst hw1)
  rw [zaa HX]
  go_wp2_with fail
  go_ret
  rw [zaa HP]
  refine ⟨Kept.refl _ _, ?_, fun e' he' => ?_⟩
  ·split <;> rename_i hq <;> simp [hq]
  ·split at he'
   ·cases he'; exact zaa HB
   ·cases he'
 | none =>
  have hlt := hr hp
  have HX := hide (show zhb e v = { data := #[] } by unfold zhb; rw [hp]; rfl)
  rw [hp] at HP HN
  clear hr
  have HPP := hide hp
  clear hp
  have cv := (zaa HB).cells _ _ (zd3 e hlt)
  have cn := (zaa HB).cells _ _ (zdp e hlt)
  have fv := (zaa HB).fz (1 + e.length * 2)
  have fn := (zaa HB).fz (1 + e.length * 2 + 1)
  have hl2 : (e.length : Int) < 12 := by omega
  go_enter Tryz.func147, Tryz.ntmps147
  go_wp2_with (go_at_call 201; refine (zaa HN).mono ?_; rintro en w1 ⟨rfl, hw1⟩; subst hw1)
  go_region
  go_wp2_with fail
  go_ret
  rw [zaa HP]
  exact ⟨((Kept.refl [b] w1).bindSet (b := b) (by simp) e.length v n).drew, rfl, fun e' he' => by cases he'; exact ((zaa HB).set hlt v n).drew⟩
end
section
open Go.RowKit
theorem zoq (W : World) (v : Value) : (Instr.typeAssert (.iface 130 v) 191 130 true).run Tryz.prog W = .ok (.tuple #[v, .bool true]) W := by kernel_rfl
theorem zma (W : World) (v : Value) : (Instr.typeAssert (.iface 193 v) 191 193 true).run Tryz.prog W = .ok (.tuple #[v, .bool true]) W := by kernel_rfl
theorem zn7 (W : World) (v : Value) : (Instr.typeAssert (.iface 130 v) 191 193 true).run Tryz.prog W = .ok (.tuple #[.string { data := #[] }, .bool false]) W := by kernel_rfl
def zgr (t : PTerm) : Value := .iface (if t.1 then 130 else 193) (.string t.2)
def pmT (e : PEnv) (t : PTerm) (n : ByteArray) : Option PEnv := if t.1 then pmB e t.2 n else if t.2.toList == n.toList then some e else none
set_option maxRecDepth 100000 in
theorem pmterm_any (w : World) (b : Nat) (e : PEnv) (t : PTerm) (n : ByteArray) (h : BindIn w b e) (hl : e.length < 12) :
  Calls Tryz.prog 101 #[.pointer (some ⟨b, 0, none⟩), zgr t, .string n] w (zfd w b (pmT e t n)) := by
 obtain ⟨c, v⟩ := t
 have HB := hide h
 have HN := hide (pbind_any w b e v n h (by omega) (fun _ => hl))
 clear h
 have h1 := zoq
 have h2 := zma
 have h3 := zn7
 cases c with
 | true =>
  have HP := hide (show zfd w b (pmT e (true, v) n) = zfd w b (pmB e v n) from rfl)
  rw [show zgr (true, v) = .iface 130 (.string v) from rfl]
  go_enter Tryz.func101, Tryz.ntmps101
  go_wp2_with (go_at_call 147; refine (zaa HN).mono ?_; rintro en w1 ⟨hk, rfl, hin⟩; have HK := hide hk; have HI := hide hin; clear hk hin)
  go_ret
  rw [zaa HP]
  exact ⟨zaa HK, rfl, zaa HI⟩
 | false =>
  have HP := hide (show zfd w b (pmT e (false, v) n) = zfd w b (if v.toList == n.toList then some e else none) from rfl)
  rw [show zgr (false, v) = .iface 193 (.string v) from rfl]
  go_enter Tryz.func101, Tryz.ntmps101
  go_wp2_with fail
  go_ret
  rw [zaa HP]
  refine ⟨Kept.refl _ _, ?_, fun e' he' => ?_⟩
  ·split <;> rename_i hq <;> simp [hq]
  ·split at he'
   ·cases he'; exact zaa HB
   ·cases he'
end
section
open Go.RowKit
def pmTs : PEnv → List PTerm → List ByteArray → Option PEnv
 | e, [], _ => some e
 | e, t :: ts, ns => match pmT e t (ns.headD { data := #[] }) with
  | some e' => pmTs e' ts ns.tail
  | none => none
structure PAtm where
 p : ByteArray
 ts : List PTerm
def zc1 (e : PEnv) (a : PAtm) (t : Th) : Option PEnv := if a.p.toList == t.p.toList then pmTs e a.ts t.ts else none
theorem headD_drop (l : List ByteArray) (k : Nat) : (l.drop k).headD { data := #[] } = nth4 l k := by
 unfold nth4
 rw [List.headD_eq_head?_getD, List.head?_drop]
theorem pmTs_step {e : PEnv} {ts : List PTerm} {ns : List ByteArray} {k : Nat} (h : k < ts.length) : pmTs e (ts.drop k) (ns.drop k) = match pmT e ts[k] (nth4 ns k) with | some e' => pmTs e' (ts.drop (k + 1)) (ns.drop (k + 1)) | none => none := by
 rw [List.drop_eq_getElem_cons h, pmTs, headD_drop, List.tail_drop]
theorem pmB_len {e e' : PEnv} {v n : ByteArray} (h : pmB e v n = some e') : e'.length ≤ e.length + 1 := by
 unfold pmB at h
 split at h
 ·split at h
  ·cases h; omega
  ·cases h
 ·cases h; simp
theorem pmT_len {e e' : PEnv} {t : PTerm} {n : ByteArray} (h : pmT e t n = some e') : e'.length ≤ e.length + 1 := by
 unfold pmT at h
 split at h
 ·exact pmB_len h
 ·split at h
  ·cases h; omega
  ·cases h
theorem zgk (t : Th) {i : Nat} (h : i < 4) : (zbd t)[1 + i]? = some (.string (nth4 t.ts i)) := by
 match i, h with
 | 0, _ | 1, _ | 2, _ | 3, _ => rfl
theorem termsAt {w : World} {base : Nat} {a : Option Addr} {c : Nat} {ts : List PTerm} (h : w.ownsRow base 191 1 (.slice a ts.length c) ts.length (ts.map zgr)) (k : Nat) (hk : k < ts.length) : ∃ g, a = some ⟨g, 0, none⟩ ∧ g < w.heap.size ∧ ts.length ≤ c ∧ c ≤ maxLen ∧ w.cell? ⟨g, k, none⟩ = some (zgr ts[k]) := by
 rcases h.2 with ⟨_, h0⟩ | ⟨g, cap, cur, hv, hb, hg, hnc, hcm, hcs, ht⟩
 ·omega
 ·injection hv with h1 h2 h3
  subst h1 h3
  refine ⟨g, rfl, (Array.getElem?_eq_some_iff.1 hg).1, hnc, hcm, ?_⟩
  rw [h.cellAt k (by omega), List.getElem?_map, List.getElem?_eq_getElem hk]
  rfl
def zqy (w : World) (r : Option PEnv) (en : Ending) (w' : World) : Prop := Below w.heap.size w w' ∧ en = .returned (.tuple #[zec (r.getD []), .bool r.isSome])
theorem zgc : (Tryz.prog.info? 135).map (·.size) = some 25 := by kernel_rfl
theorem zey (e : PEnv) : (za5 e).toArray.all (·.oneCell') = true := by simp [za5, Value.oneCell']
theorem zg0 {fn : Func} {p u : Tmp} (h : fn.results = #[.cell p 135, .tmp u]) (tmps : Array Value) (w : World) (g : Nat) (e : PEnv) (hp : tmps.getD p undef = .pointer (some ⟨g, 0, none⟩)) (hg : w.heap[g]? = some (.cells (za5 e).toArray 135 (0, 0))) :
  (results fn tmps).run Tryz.prog w = .ok (.tuple #[zec e, tmps.getD u undef]) w := by
 have hp' : tmps[p]?.getD undef = .pointer (some ⟨g, 0, none⟩) := by simpa using hp
 have hu' : tmps.getD u undef = tmps[u]?.getD undef := by simp
 rw [hu']
 simp [results, h, hp', asAddr, run_loadVar_row w g _ 135 _ _ _ hg Tryz.underlying135 rfl (by rw [zgc]; rfl), zec]
theorem zcn {B : Nat} {w w' : World} (h : Below B w w') {g : Nat} (hg : B ≤ g) (cs : Array Value) : Below B w (w'.setRow g cs) :=
 ⟨h.os, h.tape, h.output, by rw [setRow_size]; exact h.size, fun k hk => (setRow_other w' g k cs (by omega)).trans (h.block k hk)⟩
set_option maxRecDepth 100000 in
theorem zl5 (w : World) (base : Nat) (e : PEnv) (A : PAtm) (a : Option Addr) (c : Nat) (t : Th) (h : w.ownsRow base 191 1 (.slice a A.ts.length c) A.ts.length (A.ts.map zgr)) (h4 : A.ts.length ≤ 4) (hl : e.length + A.ts.length ≤ 12) :
  Calls Tryz.prog 62 #[zec e, .agg #[.string A.p, .slice a A.ts.length c], thV t] w (zqy w (zc1 e A t)) := by
 obtain ⟨cs, hcs⟩ : ∃ cs, cs = (za5 e).toArray := ⟨_, rfl⟩
 obtain ⟨ct, hct⟩ : ∃ ct, ct = (zbd t).toArray := ⟨_, rfl⟩
 have HCS := hide hcs
 have HCT := hide hct
 unfold zec thV
 rw [← hcs, ← hct]
 clear hcs hct
 have H := hide h
 clear h
 have q0 : cs.size = 25 := by rw [zaa HCS]; rfl
 have q1 : ct.size = 5 := by rw [zaa HCT]; rfl
 go_enter Tryz.func62, Tryz.ntmps62
 go_upto_region 1 with fail
 generalize hw0 : World.alloc (World.alloc (World.alloc (World.alloc w _) _) _) _ = w0
 have k0 : Below w.heap.size w w0 := by
  rw [← hw0]
  exact ((((Below.refl w.heap.size w).alloc (Nat.le_refl _) _).alloc (by simp) _).alloc (by simp only [World.size_alloc]; omega) _).alloc (by simp only [World.size_alloc]; omega) _
 have x0 : w0.heap[w.heap.size]? = some (.cells cs 135 (0, 0)) := by
  rw [← hw0, Below.heap_alloc _ _ _ (by simp only [World.size_alloc]; omega), Below.heap_alloc _ _ _ (by simp only [World.size_alloc]; omega), Below.heap_alloc _ _ _ (by simp)]
  exact heap_alloc_new w _
 have x1 : w0.heap[w.heap.size + 1]? = some (.cells #[.string A.p, .slice a A.ts.length c] 79 (0, 0)) := by
  rw [← hw0, Below.heap_alloc _ _ _ (by simp only [World.size_alloc]; omega), Below.heap_alloc _ _ _ (by simp)]
  have := heap_alloc_new (w.alloc (.cells cs 135)) (.cells #[.string A.p, .slice a A.ts.length c] 79)
  rw [World.size_alloc] at this
  exact this
 have x2 : w0.heap[w.heap.size + 1 + 1]? = some (.cells ct 88 (0, 0)) := by
  rw [← hw0, Below.heap_alloc _ _ _ (by simp)]
  have := heap_alloc_new ((w.alloc (.cells cs 135)).alloc (.cells #[.string A.p, .slice a A.ts.length c] 79)) (.cells ct 88)
  rw [World.size_alloc, World.size_alloc] at this
  exact this
 have x3 : w0.heap[w.heap.size + 1 + 1 + 1]? = some (.cells (za5 []).toArray 135 (0, 0)) := by
  rw [← hw0]
  have := heap_alloc_new (((w.alloc (.cells cs 135)).alloc (.cells #[.string A.p, .slice a A.ts.length c] 79)).alloc (.cells ct 88)) (.cells (za5 []).toArray 135)
  rw [World.size_alloc, World.size_alloc, World.size_alloc] at this
  exact this
 have s0 : w.heap.size + 1 + 1 + 1 + 1 = w0.heap.size := by rw [← hw0]; simp
 have b0 : BindIn w0 w.heap.size e := BindIn.of (by rw [x0, zaa HCS])
 have hr0 := zbb (zaa H) (fun g e => k0.block g ((zaa H).lt g e).2)
 clear hw0 H
 have HB0 := hide b0
 have HS0 := hide s0
 have HX3 := hide x3
 have HR0 := hide hr0
 have HK0 := hide k0
 obtain ⟨p0, -⟩ := zab x1 0
 obtain ⟨p1, -⟩ := zab x1 1
 obtain ⟨t0, -⟩ := zab x2 0
 replace t0 : w0.cell? ⟨w.heap.size + 1 + 1, 0, none⟩ = some (.string t.p) := by rw [t0, zaa HCT]; rfl
 have HX1 := hide x1
 have HX2 := hide x2
 clear x0 x1 x2 x3 b0 hr0 k0 s0
 cases hq : A.p.toList == t.p.toList with
 | false =>
  have HP := hide (show zc1 e A t = none by unfold zc1; rw [hq]; rfl)
  go_wp2_with (first | (refine wpList_store_row rfl 135 _ _ rfl _ _ rfl rfl _ _ (zaa HX3) (by rw [zgc]; rfl) rfl (zey []) ?_) | fail)
  refine bodyPost_ret (v := .tuple #[zec [], .bool false]) (zg0 Tryz.results62 _ _ _ [] rfl (setRow_heap _ _ _ _ _ _ (zaa HX3))) rfl ?_
  rw [zaa HP]
  exact ⟨zcn (zaa HK0) (by omega) _, rfl⟩
 | true =>
  have HP := hide (show zc1 e A t = pmTs e A.ts t.ts by unfold zc1; rw [hq]; rfl)
  go_wp2_with fail
  go_loopg [19] A.ts.length (fun gg i wr => ∃ (k : Nat) (e' : PEnv), k ≤ A.ts.length ∧ gg = A.ts.length - k ∧ i = .int .i64 k ∧ pmTs e' (A.ts.drop k) (t.ts.drop k) = pmTs e A.ts t.ts ∧ BindIn wr w.heap.size e' ∧ Kept [w.heap.size] w0 wr ∧ e'.length ≤ e.length + k)
  case atStart => exact ⟨0, e, Nat.zero_le _, rfl, rfl, rfl, zaa HB0, Kept.refl _ _, Nat.le_refl _⟩
  case round =>
   obtain ⟨k, e', hk, hgk, rfl, hfin, hb, hkp, hel⟩ := hrel
   have HF := hide hfin
   have HB := hide hb
   have HKP := hide hkp
   have sz0 := zaa HS0
   have y3 : wr.heap[w.heap.size + 1 + 1 + 1]? = some (.cells (za5 []).toArray 135 (0, 0)) := (hkp.block _ (by omega) (by simp; omega)).trans (zaa HX3)
   have HY3 := hide y3
   have HKB := hide (show Below w.heap.size w wr from ⟨hkp.os.trans (zaa HK0).os, hkp.tape.trans (zaa HK0).tape, hkp.output.trans (zaa HK0).output, Nat.le_trans (zaa HK0).size hkp.size, fun i hi => (hkp.block i (by omega) (by simp; omega)).trans ((zaa HK0).block i hi)⟩)
   clear hfin hb hkp y3
   by_cases hlk : k < A.ts.length
   ·obtain ⟨g, rfl, hg0, hnc, hcm, hc⟩ := termsAt (zaa HR0) k hlk
    have hmn : wr.cell? ⟨w.heap.size + 1 + 1, 1 + k, none⟩ = some (.string (nth4 t.ts k)) := by
     have := (zab ((zaa HKP).block _ (by omega) (by simp; omega) |>.trans (zaa HX2)) (1 + k)).1
     rw [this, zaa HCT, List.getElem?_toArray]
     exact zgk t (by omega)
    have hgw : g ≠ w.heap.size := fun e1 => by
     have h1 := (zaa HB0).whole
     rcases (zaa HR0).2 with ⟨_, h0⟩ | ⟨g2, cap, cur, hv, hb2, hg2, _⟩
     ·omega
     ·injection hv with h2 _ _
      injection h2 with h2
      injection h2 with h2
      rw [← h2, e1, h1] at hg2
      injection hg2 with hg2
      injection hg2 with _ hg2 _
      cases hg2
    have hc' : wr.cell? ⟨g, k, none⟩ = some (zgr A.ts[k]) := ((zaa HKP).cell (p := ⟨g, k, none⟩) hg0 (by simp; exact hgw)).trans hc
    have HM := hide (pmterm_any wr w.heap.size e' A.ts[k] (nth4 t.ts k) (zaa HB) (by omega))
    have HS := hide (pmTs_step (e := e') (ns := t.ts) hlk)
    have hki : (k : Int) < A.ts.length := by omega
    have hk5 : (1 + k : Int) < 5 := by omega
    clear hc sz0
    cases hr : pmT e' A.ts[k] (nth4 t.ts k) with
    | none =>
     rw [hr] at HS HM
     have HE := hide (show pmTs e A.ts t.ts = none by rw [← zaa HF, zaa HS])
     go_upto_region 7 with (go_at_call 101; refine (zaa HM).mono ?_; rintro en w1 ⟨hk1, rfl, hin⟩; have HK1 := hide hk1; clear hk1 hin)
     have y3 : w1.heap[w.heap.size + 1 + 1 + 1]? = some (.cells (za5 []).toArray 135 (0, 0)) := ((zaa HK1).block _ (by have := zaa HS0; have := (zaa HKP).size; omega) (by simp; omega)).trans (zaa HY3)
     have HY := hide y3
     have HKB1 := hide (show Below w.heap.size w w1 from ⟨(zaa HK1).os.trans (zaa HKB).os, (zaa HK1).tape.trans (zaa HKB).tape, (zaa HK1).output.trans (zaa HKB).output, Nat.le_trans (zaa HKB).size (zaa HK1).size, fun i hi => ((zaa HK1).block i (by have := (zaa HKB).size; omega) (by simp; omega)).trans ((zaa HKB).block i hi)⟩)
     clear y3
     go_wp2_with (first | (refine wpList_store_row rfl 135 _ _ rfl _ _ rfl rfl _ _ (zaa HY) (by rw [zgc]; rfl) rfl (zey []) ?_) | fail)
     refine bodyPost_ret (v := .tuple #[zec [], .bool false]) (zg0 Tryz.results62 _ _ _ [] rfl (setRow_heap _ _ _ _ _ _ (zaa HY))) rfl ?_
     rw [zaa HP, zaa HE]
     exact ⟨zcn (zaa HKB1) (by omega) _, rfl⟩
    | some e2 =>
     have hel2 := pmT_len hr
     rw [hr] at HS HM
     have HF2 := hide (show pmTs e2 (A.ts.drop (k + 1)) (t.ts.drop (k + 1)) = pmTs e A.ts t.ts by rw [← zaa HF, zaa HS])
     go_wp2_with (go_at_call 101; refine (zaa HM).mono ?_; rintro en w1 ⟨hk1, rfl, hin⟩; have HK1 := hide hk1; have HI2 := hide (hin e2 rfl); clear hk1 hin)
     go_roundg (A.ts.length - (k + 1))
     case measure => omega
     case rel => exact ⟨k + 1, e2, by omega, rfl, by go_num, zaa HF2, zaa HI2, (zaa HKP).trans (zaa HK1), by omega⟩
   ·have HE := hide (show pmTs e A.ts t.ts = some e' by rw [← zaa HF, List.drop_of_length_le (by omega)]; rfl)
    have hwh := (zaa HB).whole
    have HW := hide hwh
    clear hwh sz0
    go_wp2_with (first | (refine wpList_load_row rfl 135 _ rfl _ rfl _ _ _ _ (zaa HW) Tryz.underlying135 rfl (by rw [zgc]; rfl) ?_) | (refine wpList_store_row rfl 135 _ _ rfl _ _ rfl rfl _ _ (zaa HY3) (by rw [zgc]; rfl) rfl (zey _) ?_) | fail)
    refine bodyPost_ret (v := .tuple #[zec e', .bool true]) (zg0 Tryz.results62 _ _ _ e' rfl (setRow_heap _ _ _ _ _ _ (zaa HY3))) rfl ?_
    rw [zaa HP, zaa HE]
    exact ⟨zcn (zaa HKB) (by omega) _, rfl⟩
end
end Go.Proofs.YtldkpahaocjdpaaGreat
