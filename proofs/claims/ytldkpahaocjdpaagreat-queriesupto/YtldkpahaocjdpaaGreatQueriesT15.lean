/-
  The reference and loose variables: the place of the first variable of all rules, of a head or a negative literal, that stands in no positive literal of its rule; -1 if there is none.
  Plain: a square table of marks, as the reference's hangs makes it in memory: a row of slices, and behind it, block by block, the rows.
  Plain: which predicates hang on which: the marks that the rules lay, and the closing of them, as the reference does it.
-/
import Derived.Test.YtldkpahaocjdpaaGreatQueriesT14
set_option maxHeartbeats 16000000
namespace Go.Proofs.YtldkpahaocjdpaaGreat
section
open Go.RowKit
def zbl (body : List RAtom) : List RAtom → Int
 | [] => -1
 | A :: r => if 0 ≤ (if A.no then zbg body A.terms else -1) then zbg body A.terms else zbl body r
def zde (R : RRule) : Int := if 0 ≤ zbg R.body R.head.terms then zbg R.body R.head.terms else zbl R.body R.body
def za9 : List RRule → Int
 | [] => -1
 | R :: r => if 0 ≤ zde R then zde R else za9 r
theorem zqz {rs : List RR} {k : Nat} (h : k < rs.length) : za9 ((rs.map (·.R)).drop k) = if 0 ≤ zde rs[k].R then zde rs[k].R else za9 ((rs.map (·.R)).drop (k + 1)) := by
 rw [List.drop_eq_getElem_cons (by simpa using h)]; simp [za9]
theorem zkz {body : List RAtom} {bs : List (RAtom × Value)} {j : Nat} (h : j < bs.length) : zbl body ((bs.map (·.1)).drop j) = if 0 ≤ (if bs[j].1.no then zbg body bs[j].1.terms else -1) then zbg body bs[j].1.terms else zbl body ((bs.map (·.1)).drop (j + 1)) := by
 rw [zgq h]; rfl
theorem loose_any' (w : World) (base : Nat) (R : RRule) (hv : Value) (bs : List (RAtom × Value)) (bv : Value) (pd : ByteArray) (terms : List RTerm) (no : Bool) (at_ noAt : Nat) (tv : Value) (h : RuleIn w base R hv bs bv) (ht : w.ownsRow base 317 3 tv terms.length (cellsOf terms)) :
  Calls Tryz.prog 189 #[.agg #[.string R.head.pred, hv, .bool R.head.no, .int .i64 R.head.at_, .int .i64 R.head.noAt, bv], .agg #[.string pd, tv, .bool no, .int .i64 at_, .int .i64 noAt]] w fun e w' => e = .returned (.int .i64 (zbg R.body terms)) ∧ Below w.heap.size w w' :=
 zol w base R hv bs bv ⟨pd, terms, no, at_, noAt⟩ tv h ht
structure UInv (w : World) (o m : Nat) (rs : List RR) (ps qs : List (ByteArray × Nat)) (rv pv tv sv : Value) (R : RRule) (hv : Value) (bs : List (RAtom × Value)) (bv : Value) (wx : World) : Prop where
 mem : PMem2 wx o rs ps qs rv pv tv sv
 rule : RuleIn wx (o + 1) R hv bs bv
 rc : RCells wx m R.head hv bv
 sz : m < wx.heap.size
 below : Below w.heap.size w wx
theorem UInv.call {w : World} {o m : Nat} {rs : List RR} {ps qs : List (ByteArray × Nat)} {rv pv tv sv : Value} {R : RRule} {hv : Value} {bs : List (RAtom × Value)} {bv : Value} {wx w1 : World} (h : UInv w o m rs ps qs rv pv tv sv R hv bs bv wx) (k : Below wx.heap.size wx w1) : UInv w o m rs ps qs rv pv tv sv R hv bs bv w1 :=
 have hk := (Kept.refl [] wx).of_below k
 ⟨h.mem.kept hk (by simp), h.rule.kept hk (by simp), h.rc.kept hk h.sz (by simp), Nat.lt_of_lt_of_le h.sz k.size, h.below.trans (k.mono h.below.size)⟩
theorem UInv.start {w : World} {o : Nat} {rs : List RR} {ps qs : List (ByteArray × Nat)} {rv pv tv sv : Value} {R : RRule} {hv : Value} {bs : List (RAtom × Value)} {bv : Value} {wr : World} (hm : PMem2 wr o rs ps qs rv pv tv sv) (hin : RuleIn wr (o + 1) R hv bs bv) (hb : Below w.heap.size w wr) :
  UInv w o wr.heap.size rs ps qs rv pv tv sv R hv bs bv (wr.alloc (Obj.cells #[Value.string R.head.pred, hv, .bool R.head.no, .int .i64 R.head.at_, .int .i64 R.head.noAt, bv] 246)) := by
 refine ⟨hm.kept ((Kept.refl [] _).alloc _) (by simp), hin.kept ((Kept.refl [] _).alloc _) (by simp), ⟨?_, ?_, ?_, ?_, ?_, ?_, ?_⟩, by simp, hb.alloc hb.size _⟩
 all_goals first | (rw [World.cell?_alloc_at _ _ _ _ rfl]; rfl) | (intro o; rw [World.frozen?_alloc_at _ _ _ _ rfl])
set_option maxRecDepth 100000 in
theorem unsafe_any (w : World) (o : Nat) (rs : List RR) (ps qs : List (ByteArray × Nat)) (rv pv tv sv : Value) (h : PMem2 w o rs ps qs rv pv tv sv) :
  Calls Tryz.prog 127 #[.pointer (some ⟨o, 0, none⟩)] w fun e w' => e = .returned (.int .i64 (za9 (rs.map (·.R)))) ∧ Below w.heap.size w w' := by
 obtain ⟨ar, capr, rfl⟩ := zac h.rules
 have hmx := zbt h.rules
 unfold maxLen at hmx
 go_enter Tryz.func127, Tryz.ntmps127
 go_wp2_with fail
 go_loopg [3, 5] rs.length (fun gg i l5 wr => ∃ k : Nat, k ≤ rs.length ∧ gg = rs.length - k ∧ i = .int .i64 k ∧ PMem2 wr o rs ps qs (.slice ar rs.length capr) pv tv sv ∧ Below w.heap.size w wr ∧ za9 (rs.map (·.R)) = za9 ((rs.map (·.R)).drop k))
 case atStart => exact ⟨0, Nat.zero_le _, rfl, rfl, h, Below.refl _ _, rfl⟩
 case round =>
  obtain ⟨k, hk, hgk, rfl, hm, hb, hfin⟩ := hrel
  have HF := hide hfin
  clear hfin
  have hm' := hm
  obtain ⟨hlt, c0, c1, c2, c3, fz, hr, he, hp, ht⟩ := hm
  by_cases hlk : k < rs.length
  ·obtain ⟨g, cap, hv, hbg, hgl, hnc, hcm, q0, q1, q2, q3, q4, q5⟩ := zcj hr k hlk
   injection hv with h1 h2 h3
   subst h1 h3
   have hrk := List.getElem_mem hlk
   have hin := he rs[k] hrk
   obtain ⟨ah, caph, hhv⟩ := zac hin.hd
   obtain ⟨ab, capb, hbv⟩ := zac hin.bo
   have hbmx := zbt hin.bo
   unfold maxLen at hbmx
   rw [hhv] at q1
   rw [hbv] at q5
   rw [hhv, hbv] at hin
   have HF2 := hide ((zaa HF).trans (zqz hlk))
   clear hr he hp ht h2 h HF
   go_wp2_with fail
   have hu0 := UInv.start hm' hin hb
   refine (zol _ (o + 1) rs[k].R _ rs[k].bs _ rs[k].R.head _ hu0.rule hu0.rule.hd).mono ?_
   rintro e w1 ⟨rfl, hb1⟩
   have hu1 := hu0.call hb1
   clear hu0 hb1 c0 c1 c2 c3 fz q0 q1 q2 q3 q4 q5 hm' hin hlt hgl
   generalize wr.heap.size = m at *
   cases hq : decide (0 ≤ zbg rs[k].R.body rs[k].R.head.terms) with
   | true =>
    have hq' : 0 ≤ zbg rs[k].R.body rs[k].R.head.terms := of_decide_eq_true hq
    have hlr : zde rs[k].R = zbg rs[k].R.body rs[k].R.head.terms := by unfold zde; rw [if_pos hq']
    have HF3 := hide (show za9 (rs.map (·.R)) = zbg rs[k].R.body rs[k].R.head.terms by rw [zaa HF2, hlr, if_pos hq'])
    clear HF2 hq hlr
    go_wp2_with fail
    go_ret
    exact ⟨by rw [zaa HF3]; rfl, hu1.below⟩
   | false =>
    have hq' : ¬ 0 ≤ zbg rs[k].R.body rs[k].R.head.terms := of_decide_eq_false hq
    have hlr : zde rs[k].R = zbl rs[k].R.body ((rs[k].bs.map (·.1)).drop 0) := by unfold zde; rw [if_neg hq', List.drop_zero, ← hu1.rule.eq]
    have HF3 := hide (show za9 (rs.map (·.R)) = if 0 ≤ zbl rs[k].R.body ((rs[k].bs.map (·.1)).drop 0) then zbl rs[k].R.body ((rs[k].bs.map (·.1)).drop 0) else za9 ((rs.map (·.R)).drop (k + 1)) by rw [zaa HF2, hlr])
    obtain ⟨x0, x1, x2, x3, x4, x5, xf⟩ := hu1.rc
    have hsz := hu1.sz
    have hql : zbg rs[k].R.body rs[k].R.head.terms < 0 := by omega
    clear HF2 hq hlr hq'
    go_wp2_with fail
    go_loopg [5, 6] rs[k].bs.length (fun gg l5 i wx => ∃ j : Nat, j ≤ rs[k].bs.length ∧ gg = rs[k].bs.length - j ∧ i = .int .i64 j ∧ UInv w o m rs ps qs (.slice (some ⟨g, 0, none⟩) rs.length capr) pv tv sv rs[k].R (.slice ah rs[k].R.head.terms.length caph) rs[k].bs (.slice ab rs[k].bs.length capb) wx ∧ za9 (rs.map (·.R)) = if 0 ≤ zbl rs[k].R.body ((rs[k].bs.map (·.1)).drop j) then zbl rs[k].R.body ((rs[k].bs.map (·.1)).drop j) else za9 ((rs.map (·.R)).drop (k + 1)))
    case atStart => exact ⟨0, Nat.zero_le _, rfl, rfl, hu1, zaa HF3⟩
    case round =>
     clear HF3 hu1 x0 x1 x2 x3 x4 x5 xf hsz hql
     obtain ⟨j, hj, hgg, rfl, hu, hfin⟩ := hrel
     have HF := hide hfin
     clear hfin
     obtain ⟨x0, x1, x2, x3, x4, x5, xf⟩ := hu.rc
     have hsz := hu.sz
     by_cases hjl : j < rs[k].bs.length
     ·have hst := zkz (body := rs[k].R.body) hjl
      obtain ⟨gb, capb2, hvb, hbgb, hgbl, hncb, hcmb, p0, p1, p2, p3, p4⟩ := zcx hu.rule.bo j hjl
      injection hvb with hb11 hb12 hb13
      subst hb11 hb13
      have htr := hu.rule.bl _ (List.getElem_mem hjl)
      obtain ⟨at1, capt1, hbt⟩ := zac htr
      rw [hbt] at p1 htr
      cases hno : rs[k].bs[j].1.no with
      | false =>
       rw [hno] at p2
       have HF2 := hide (show za9 (rs.map (·.R)) = if 0 ≤ zbl rs[k].R.body ((rs[k].bs.map (·.1)).drop (j + 1)) then zbl rs[k].R.body ((rs[k].bs.map (·.1)).drop (j + 1)) else za9 ((rs.map (·.R)).drop (k + 1)) by
        rw [zaa HF, hst, hno]; simp)
       clear HF hst
       go_wp2_with fail
       go_roundg (rs[k].bs.length - (j + 1))
       case measure => omega
       case rel => exact ⟨j + 1, by omega, rfl, by go_num, hu, zaa HF2⟩
      | true =>
       rw [hno] at p2
       have HF2 := hide (show za9 (rs.map (·.R)) = if 0 ≤ zbg rs[k].R.body rs[k].bs[j].1.terms then zbg rs[k].R.body rs[k].bs[j].1.terms else (if 0 ≤ zbl rs[k].R.body ((rs[k].bs.map (·.1)).drop (j + 1)) then zbl rs[k].R.body ((rs[k].bs.map (·.1)).drop (j + 1)) else za9 ((rs.map (·.R)).drop (k + 1))) by
        rw [zaa HF, hst, hno]
        simp only [if_true]
        by_cases hz : 0 ≤ zbg rs[k].R.body rs[k].bs[j].1.terms
        ·simp only [hz, if_true]
        ·simp only [hz, if_false])
       clear HF hst
       go_upto_region 13 with fail
       go_cut [5] (fun s wc => s = .int .i64 (zbg rs[k].R.body rs[k].bs[j].1.terms) ∧ UInv w o m rs ps qs (.slice (some ⟨g, 0, none⟩) rs.length capr) pv tv sv rs[k].R (.slice ah rs[k].R.head.terms.length caph) rs[k].bs (.slice (some ⟨gb, 0, none⟩) rs[k].bs.length capb) wc)
       case first =>
        go_region_with (go_at_call 189; refine (loose_any' _ (o + 1) rs[k].R _ rs[k].bs _ _ rs[k].bs[j].1.terms _ _ _ _ (hu.rule.kept ((Kept.refl [] _).drew) (by simp)) htr).mono ?_; rintro e w3 ⟨rfl, hb3⟩)
        all_goals
         go_wp2_with fail
         go_meet
         case rel => exact ⟨rfl, hu.call (Below.drewR hb3)⟩
       case rest =>
        obtain ⟨rfl, hu2⟩ := hcut
        clear hu x0 x1 x2 x3 x4 x5 xf p0 p1 p2 p3 p4 htr hbt hgbl hsz
        have hsz := hu2.sz
        by_cases hz : 0 ≤ zbg rs[k].R.body rs[k].bs[j].1.terms
        ·have HF3 := hide (show za9 (rs.map (·.R)) = zbg rs[k].R.body rs[k].bs[j].1.terms by rw [zaa HF2, if_pos hz])
         clear HF2
         go_wp2_with fail
         go_ret
         exact ⟨by rw [zaa HF3]; rfl, hu2.below⟩
        ·have HF3 := hide (show za9 (rs.map (·.R)) = if 0 ≤ zbl rs[k].R.body ((rs[k].bs.map (·.1)).drop (j + 1)) then zbl rs[k].R.body ((rs[k].bs.map (·.1)).drop (j + 1)) else za9 ((rs.map (·.R)).drop (k + 1)) by rw [zaa HF2, if_neg hz])
         have hzl : zbg rs[k].R.body rs[k].bs[j].1.terms < 0 := by omega
         clear HF2 hz
         go_wp2_with fail
         go_roundg (rs[k].bs.length - (j + 1))
         case measure => omega
         case rel => exact ⟨j + 1, by omega, rfl, by go_num, hu2, zaa HF3⟩
     ·have hje : (rs[k].bs.map (·.1)).drop j = [] := List.drop_of_length_le (by simp; omega)
      have HF2 := hide (show za9 (rs.map (·.R)) = za9 ((rs.map (·.R)).drop (k + 1)) by rw [zaa HF, hje]; simp [zbl])
      clear HF
      go_wp2_with fail
      go_roundg (rs.length - (k + 1))
      case measure => omega
      case rel => exact ⟨k + 1, by omega, rfl, by go_num, hu.mem, hu.below, zaa HF2⟩
  ·have HF2 := hide (show za9 (rs.map (·.R)) = -1 by rw [zaa HF, List.drop_of_length_le (by simp; omega)]; rfl)
   clear HF hr he hp ht
   go_wp2_with fail
   go_ret
   exact ⟨by rw [zaa HF2]; rfl, hb⟩
end
section
open Go.RowKit
theorem zim {w : World} {b o : Nat} {u v : Value} (h : w.cell? ⟨b, o, none⟩ = some u) : (w.setCell ⟨b, o, none⟩ v).cell? ⟨b, o, none⟩ = some v := by go_simp
theorem zd2 {w : World} {b o b' o' : Nat} {v : Value} (h : ¬ (b = b' ∧ o = o')) : (w.setCell ⟨b, o, none⟩ v).cell? ⟨b', o', none⟩ = w.cell? ⟨b', o', none⟩ := by
 by_cases hb : b = b'
 ·subst hb
  have ho : o ≠ o' := fun e => h ⟨rfl, e⟩
  unfold World.cell? World.setCell
  simp only [Array.getElem?_modify, if_true]
  cases w.heap[b]? with
  | none => rfl
  | some x => cases x <;> simp [ho]
 ·exact World.cell?_of_block (w := w) (Below.heap_setCell w ⟨b, o, none⟩ v b' (by simp; omega))
def upd (M : Nat → Nat → Bool) (i j : Nat) : Nat → Nat → Bool := fun a b => (decide (a = i) && decide (b = j)) || M a b
structure Mat (w : World) (gm n m : Nat) (M : Nat → Nat → Bool) : Prop where
 sz : gm + 1 + m ≤ w.heap.size
 top : ∀ i, i < m → w.cell? ⟨gm, i, none⟩ = some (.slice (some ⟨gm + 1 + i, 0, none⟩) n n)
 some_ : ∀ i, i < n → ∃ u, w.cell? ⟨gm, i, none⟩ = some u
 cell : ∀ i j, i < m → j < n → w.cell? ⟨gm + 1 + i, j, none⟩ = some (.bool (M i j))
 tfz : ∀ j, w.frozen? ⟨gm, j, none⟩ = false
 fz : ∀ i j, i < m → w.frozen? ⟨gm + 1 + i, j, none⟩ = false
theorem Mat.kept {B : List Nat} {w w' : World} {gm n m : Nat} {M : Nat → Nat → Bool} (h : Mat w gm n m M) (k : Kept B w w') (hB : ∀ x ∈ B, x < gm) : Mat w' gm n m M := by
 have hn : ∀ x, gm ≤ x → x ∉ B := fun x hx hm => by have := hB x hm; omega
 have hs := h.sz
 exact ⟨Nat.le_trans h.sz k.size, fun i hi => (k.cell (p := ⟨gm, i, none⟩) (by simp; omega) (hn _ (by simp))).trans (h.top i hi), fun i hi => by obtain ⟨u, hu⟩ := h.some_ i hi; exact ⟨u, (k.cell (p := ⟨gm, i, none⟩) (by simp; omega) (hn _ (by simp))).trans hu⟩,
  fun i j hi hj => (k.cell (p := ⟨gm + 1 + i, j, none⟩) (by simp; omega) (hn _ (by simp; omega))).trans (h.cell i j hi hj), fun j => (k.frozen (p := ⟨gm, j, none⟩) (by simp; omega) (hn _ (by simp))).trans (h.tfz j), fun i j hi => (k.frozen (p := ⟨gm + 1 + i, j, none⟩) (by simp; omega) (hn _ (by simp; omega))).trans (h.fz i j hi)⟩
theorem Mat.set {w : World} {gm n m : Nat} {M : Nat → Nat → Bool} (h : Mat w gm n m M) (i j : Nat) (hi : i < m) (hj : j < n) : Mat (w.setCell ⟨gm + 1 + i, j, none⟩ (.bool true)) gm n m (upd M i j) := by
 have hcell := h.cell i j hi hj
 refine ⟨by simpa using h.sz, fun a ha => ?_, fun a ha => ?_, fun a b ha hb => ?_, fun b => by simpa using h.tfz b, fun a b ha => by simpa using h.fz a b ha⟩
 ·rw [World.cell?_of_block (w := w) (Below.heap_setCell w ⟨gm + 1 + i, j, none⟩ _ gm (by simp; omega))]; exact h.top a ha
 ·obtain ⟨u, hu⟩ := h.some_ a ha
  exact ⟨u, by rw [World.cell?_of_block (w := w) (Below.heap_setCell w ⟨gm + 1 + i, j, none⟩ _ gm (by simp; omega))]; exact hu⟩
 ·by_cases hai : a = i
  ·by_cases hbj : b = j
   ·subst hai hbj
    rw [zim hcell]; simp [upd]
   ·rw [zd2 (by omega), h.cell a b ha hb]; simp [upd, hbj]
  ·rw [zd2 (by omega), h.cell a b ha hb]; simp [upd, hai]
theorem infoBool : (Tryz.prog.info? 4).map (fun i => (i.zero, i.size, i.bytes)) = some (some (.bool false), 1, 1) := by kernel_rfl
theorem infoBools : (Tryz.prog.info? 143).map (fun i => (i.zero, i.size, i.bytes)) = some (some (.slice none 0 0), 1, 24) := by kernel_rfl
theorem make_rows (n : Nat) (hn : n ≤ 1000) (u : World) : (Instr.makeSlice 314 (.int .i64 n) (.int .i64 n)).run Tryz.prog u = .ok (.slice (some ⟨u.heap.size, 0, none⟩) n n) (u.alloc (.cells (madeCells #[.slice none 0 0] n) 143)) := by
 obtain ⟨i0, hi, hz0, hz1, hz2⟩ := info_parts infoBools
 have h := run_make (P := Tryz.prog) u 314 143 i0 (.slice none 0 0) Tryz.underlying314 hi hz0 .i64 .i64 (n : Int) (n : Int) (by omega) (Int.le_refl _) (by rw [hz2]; omega) (by omega)
 simpa [hz1, Value.cells] using h
theorem make_row (n : Nat) (hn : n ≤ 1000) (u : World) : (Instr.makeSlice 143 (.int .i64 n) (.int .i64 n)).run Tryz.prog u = .ok (.slice (some ⟨u.heap.size, 0, none⟩) n n) (u.alloc (.cells (madeCells #[.bool false] n) 4)) := by
 obtain ⟨i0, hi, hz0, hz1, hz2⟩ := info_parts infoBool
 have h := run_make (P := Tryz.prog) u 143 4 i0 (.bool false) Tryz.underlying143 hi hz0 .i64 .i64 (n : Int) (n : Int) (by omega) (Int.le_refl _) (by rw [hz2]; omega) (by omega)
 simpa [hz1, Value.cells] using h
theorem zmt (z : Value) (n i : Nat) (h : i < n) : (madeCells #[z] n)[i]? = some z := by
 have := toList_madeCells_one z n
 rw [← Array.getElem?_toList, this, List.getElem?_replicate, if_pos h]
theorem Mat.start (w : World) (n : Nat) : Mat (w.alloc (.cells (madeCells #[.slice none 0 0] n) 143)) w.heap.size n 0 (fun _ _ => false) := by
 refine ⟨by simp, by omega, fun i hi => ⟨.slice none 0 0, ?_⟩, by omega, fun j => ?_, by omega⟩
 ·rw [World.cell?_alloc_at _ _ _ _ rfl, zmt _ _ _ hi]
 ·rw [World.frozen?_alloc_at _ _ _ _ rfl]
theorem Mat.row {w : World} {gm n m : Nat} (h : Mat w gm n m (fun _ _ => false)) (hs : w.heap.size = gm + 1 + m) (hm : m < n) : Mat ((w.alloc (.cells (madeCells #[.bool false] n) 4)).setCell ⟨gm, m, none⟩ (.slice (some ⟨w.heap.size, 0, none⟩) n n)) gm n (m + 1) (fun _ _ => false) := by
 have k := ((Kept.refl [] w).alloc (.cells (madeCells #[.bool false] n) 4))
 have h1 := h.kept k (by simp)
 obtain ⟨u, hu⟩ := h1.some_ m hm
 refine ⟨by simp; omega, fun i hi => ?_, fun i hi => ?_, fun i j hi hj => ?_, fun j => by simpa using h1.tfz j, fun i j hi => ?_⟩
 ·by_cases e : i = m
  ·subst e; rw [zim hu, hs]
  ·rw [zd2 (by omega)]; exact h1.top i (by omega)
 ·by_cases e : i = m
  ·subst e; exact ⟨_, zim hu⟩
  ·obtain ⟨v, hv⟩ := h1.some_ i hi
   exact ⟨v, by rw [zd2 (by omega)]; exact hv⟩
 ·rw [World.cell?_of_block (Below.heap_setCell _ ⟨gm, m, none⟩ _ (gm + 1 + i) (by simp; omega))]
  by_cases e : i = m
  ·subst e; rw [← hs, World.cell?_alloc_at _ _ _ _ rfl, zmt _ _ _ hj]
  ·exact h1.cell i j (by omega) hj
 ·rw [World.frozen?_setCell]
  by_cases e : i = m
  ·subst e; rw [← hs, World.frozen?_alloc_at _ _ _ _ rfl]
  ·exact h1.fz i j (by omega)
end
section
open Go.RowKit
def ixOf (ps : List (ByteArray × Nat)) (nm : ByteArray) : Nat := (zak ps nm).toNat
def zhg (ps : List (ByteArray × Nat)) (h : Nat) : List RAtom → (Nat → Nat → Bool) → (Nat → Nat → Bool)
 | [], M => M
 | A :: r, M => zhg ps h r (upd M h (ixOf ps A.pred))
def zib (ps : List (ByteArray × Nat)) : List RRule → (Nat → Nat → Bool) → (Nat → Nat → Bool)
 | [], M => M
 | R :: r, M => zib ps r (zhg ps (ixOf ps R.head.pred) R.body M)
def fwK (n m i : Nat) (M : Nat → Nat → Bool) (k : Nat) : Nat → Nat → Bool :=
 if k < n then fwK n m i (if M i m && M m k then upd M i k else M) (k + 1) else M
termination_by n - k
def fwI (n m : Nat) (M : Nat → Nat → Bool) (i : Nat) : Nat → Nat → Bool :=
 if i < n then fwI n m (fwK n m i M 0) (i + 1) else M
termination_by n - i
def fwM (n : Nat) (M : Nat → Nat → Bool) (m : Nat) : Nat → Nat → Bool :=
 if m < n then fwM n (fwI n m M 0) (m + 1) else M
termination_by n - m
theorem fwK_go {n m i : Nat} {M : Nat → Nat → Bool} {k : Nat} (h : k < n) : fwK n m i M k = fwK n m i (if M i m && M m k then upd M i k else M) (k + 1) := by rw [fwK, if_pos h]
theorem fwK_end {n m i : Nat} {M : Nat → Nat → Bool} {k : Nat} (h : ¬ k < n) : fwK n m i M k = M := by rw [fwK, if_neg h]
theorem fwI_go {n m : Nat} {M : Nat → Nat → Bool} {i : Nat} (h : i < n) : fwI n m M i = fwI n m (fwK n m i M 0) (i + 1) := by rw [fwI, if_pos h]
theorem fwI_end {n m : Nat} {M : Nat → Nat → Bool} {i : Nat} (h : ¬ i < n) : fwI n m M i = M := by rw [fwI, if_neg h]
theorem fwM_go {n : Nat} {M : Nat → Nat → Bool} {m : Nat} (h : m < n) : fwM n M m = fwM n (fwI n m M 0) (m + 1) := by rw [fwM, if_pos h]
theorem zqe {n : Nat} {M : Nat → Nat → Bool} {m : Nat} (h : ¬ m < n) : fwM n M m = M := by rw [fwM, if_neg h]
def zb5 (ps : List (ByteArray × Nat)) (rs : List RRule) : Nat → Nat → Bool := fwM ps.length (zib ps rs (fun _ _ => false)) 0
def zhd (ps : List (ByteArray × Nat)) (l : List RAtom) : Prop := ∀ A ∈ l, 0 ≤ zak ps A.pred
theorem edges_step {ps : List (ByteArray × Nat)} {rs : List RR} {k : Nat} {M : Nat → Nat → Bool} (h : k < rs.length) : zib ps ((rs.map (·.R)).drop k) M = zib ps ((rs.map (·.R)).drop (k + 1)) (zhg ps (ixOf ps rs[k].R.head.pred) rs[k].R.body M) := by
 rw [List.drop_eq_getElem_cons (by simpa using h), zib]; simp
theorem zqd {ps : List (ByteArray × Nat)} {h : Nat} {bs : List (RAtom × Value)} {j : Nat} {M : Nat → Nat → Bool} (hj : j < bs.length) : zhg ps h ((bs.map (·.1)).drop j) M = zhg ps h ((bs.map (·.1)).drop (j + 1)) (upd M h (ixOf ps bs[j].1.pred)) := by
 rw [zgq hj, zhg]
theorem ziu {ps : List (ByteArray × Nat)} {rs : List RR} (h : zhd ps (za3 rs)) {k : Nat} (hk : k < rs.length) : 0 ≤ zak ps rs[k].R.head.pred :=
 h _ (List.mem_flatMap.2 ⟨rs[k], List.getElem_mem hk, List.mem_cons_self⟩)
theorem zis {ps : List (ByteArray × Nat)} {rs : List RR} (h : zhd ps (za3 rs)) {k : Nat} (hk : k < rs.length) (he : rs[k].R.body = rs[k].bs.map (·.1)) {j : Nat} (hj : j < rs[k].bs.length) : 0 ≤ zak ps rs[k].bs[j].1.pred :=
 h _ (List.mem_flatMap.2 ⟨rs[k], List.getElem_mem hk, List.mem_cons_of_mem _ (by rw [he]; exact List.mem_map.2 ⟨_, List.getElem_mem hj, rfl⟩)⟩)
end
end Go.Proofs.YtldkpahaocjdpaaGreat
