/-
  The program's has, atoms, Positive, Binds: whether a variable stands in a positive literal.
  The program's atoms, Positive, Binds.
-/
import Derived.Test.YtldkpahaocjdpaaGreatLoadsT39
namespace Go.Proofs.YtldkpahaocjdpaaGreat
open Go.RowKit

theorem assertVar_yes (W : World) (v : Value) : (Instr.typeAssert (.iface 130 v) 191 130 true).run Tryz.prog W = .ok (.tuple #[v, .bool true]) W := by kernel_rfl
theorem assertVar_no (W : World) (v : Value) : (Instr.typeAssert (.iface 193 v) 191 130 true).run Tryz.prog W = .ok (.tuple #[.string { data := #[] }, .bool false]) W := by kernel_rfl
theorem assertName_yes (W : World) (v : Value) : (Instr.typeAssert (.iface 193 v) 191 193 true).run Tryz.prog W = .ok (.tuple #[v, .bool true]) W := by kernel_rfl

def hasV (v : ByteArray) (ts : List (Bool × ByteArray)) : Bool := ts.any fun t => t.1 && t.2.toList == v.toList

theorem own_list1 {w : World} {base : Nat} {tv : Value} {ts : List (Bool × ByteArray)} (h : w.ownsRow base 191 1 tv ts.length (ptCells ts)) (k : Nat) (hk : k < ts.length) : ∃ g cap, tv = .slice (some ⟨g, 0, none⟩) ts.length cap ∧ base ≤ g ∧ g < w.heap.size ∧ ts.length ≤ cap ∧ cap ≤ maxLen ∧ w.cell? ⟨g, k, none⟩ = some (tmVal ts[k].1 ts[k].2) := by
  rcases h.2 with ⟨_, h0⟩ | ⟨g, cap, cur, rfl, hb, hg, hnc, hcm, hcs, ht⟩
  · omega
  · refine ⟨g, cap, rfl, hb, (Array.getElem?_eq_some_iff.1 hg).1, hnc, hcm, ?_⟩
    rw [h.cellAt k (by omega), ptCells, List.getElem?_map, List.getElem?_eq_getElem hk]
    rfl

set_option maxRecDepth 100000 in
set_option maxHeartbeats 8000000 in
theorem has_v_any (w : World) (base : Nat) (pd v : ByteArray) (a : Option Addr) (c : Nat) (ts : List (Bool × ByteArray)) (h : w.ownsRow base 191 1 (.slice a ts.length c) ts.length (ptCells ts)) :
    Calls Tryz.prog 221 #[.agg #[.string pd, .slice a ts.length c], .string v] w fun e w' => e = .returned (.bool (hasV v ts)) ∧ Below w.heap.size w w' := by
  have htm := own_max h
  unfold maxLen at htm
  have hb0 : Below w.heap.size w (w.alloc (.cells #[.string pd, .slice a ts.length c] 79)) := (Below.refl _ _).alloc (Nat.le_refl _) _
  have h0 := own_below h hb0 (fun g e => (h.lt g e).2)
  clear h
  have hay := assertVar_yes
  have han := assertVar_no
  have hnn := assertName_yes
  go_enter Tryz.func221, Tryz.ntmps221
  go_wp2_with fail
  go_loop [12] (fun i => ∃ k : Nat, k ≤ ts.length ∧ i = .int .i64 k ∧ hasV v ts = hasV v (ts.drop k)) (fun i => ts.length - (intOf i).toNat)
  case atStart => exact ⟨0, Nat.zero_le _, rfl, rfl⟩
  case round =>
    obtain ⟨k, hk, rfl, hfin⟩ := hrel
    have HF := hide hfin
    clear hfin
    by_cases hlk : k < ts.length
    · obtain ⟨g, cap, hv, hbg, hgl, hnc, hcm, hc⟩ := own_list1 h0 k hlk
      injection hv with h1 h2 h3
      subst h1 h3
      have hst : hasV v (ts.drop k) = ((ts[k].1 && ts[k].2.toList == v.toList) || hasV v (ts.drop (k + 1))) := any_step hlk
      have HF2 := hide ((unhide HF).trans hst)
      clear HF hst
      cases hb : ts[k].1 with
      | true =>
        rw [hb] at hc
        unfold tmVal at hc
        rw [if_pos rfl] at hc
        cases hq : ts[k].2.toList == v.toList with
        | true =>
          have HF3 := hide (show hasV v ts = true by rw [unhide HF2, hb, hq]; rfl)
          clear HF2 hb
          go_wp2_with fail
          go_ret
          exact ⟨by rw [unhide HF3]; rfl, hb0⟩
        | false =>
          have HF3 := hide (show hasV v ts = hasV v (ts.drop (k + 1)) by rw [unhide HF2, hb, hq]; rfl)
          clear HF2 hb
          go_wp2_with fail
          go_round
          case rel => exact ⟨k + 1, by omega, by go_num, unhide HF3⟩
          case measure => simp [intOf]; omega
      | false =>
        rw [hb] at hc
        unfold tmVal at hc
        rw [if_neg (by decide)] at hc
        have HF3 := hide (show hasV v ts = hasV v (ts.drop (k + 1)) by rw [unhide HF2, hb]; rfl)
        clear HF2 hb
        go_wp2_with fail
        go_round
        case rel => exact ⟨k + 1, by omega, by go_num, unhide HF3⟩
        case measure => simp [intOf]; omega
    · have HF2 := hide (show hasV v ts = false by rw [unhide HF, List.drop_of_length_le (by omega)]; rfl)
      clear HF
      go_wp2_with fail
      go_ret
      exact ⟨by rw [unhide HF2]; rfl, hb0⟩
end Go.Proofs.YtldkpahaocjdpaaGreat

namespace Go.Proofs.YtldkpahaocjdpaaGreat
open Go.RowKit

def atCells1 (x : PLit × Value) : List Value := [.string x.1.pd, x.2]
theorem at_len (x : PLit × Value) : (atCells1 x).length = 2 := rfl
theorem pl_len (x : PLit × Value) : (x.1.cells x.2).length = 3 := rfl
def isNeg (b : Bool) (x : PLit × Value) : Bool := x.1.neg == b

theorem LRow.below {w w' : World} {base : Nat} {bv : Value} {ls : List (PLit × Value)} (h : LRow w base bv ls) (hb : Below w.heap.size w w') : LRow w' base bv ls :=
  ⟨own_below h.row hb (fun g e => (h.row.lt g e).2), fun x hx => own_below (h.each x hx) hb (fun g e => ((h.each x hx).lt g e).2)⟩

theorem infoPAtom : (Tryz.prog.info? 79).map (fun i => (i.zero, i.size, i.bytes)) = some (some (.agg #[.string { data := #[] }, .slice none 0 0]), 2, 40) := by kernel_rfl

theorem pat_cell (w1 : World) (o : Obj) (x : PLit × Value) (j : Nat) (u : Value) (h : (atCells1 x)[j]? = some u) : ((w1.alloc o).alloc (Obj.cells #[Value.string x.1.pd, x.2] 79)).cell? ((⟨w1.heap.size + 1, 0, none⟩ : Addr).add j) = some u := by
  have e : (⟨w1.heap.size + 1, 0, none⟩ : Addr).add j = ⟨w1.heap.size + 1, j, none⟩ := by unfold Addr.add; split <;> simp_all
  rw [e, World.cell?_alloc_at _ _ _ _ (by simp)]
  simpa [atCells1] using h
theorem pat_one (L : PLit) (a : Option Addr) (n c : Nat) : ∀ u ∈ atCells1 (L, .slice a n c), u.oneCell' = true := by
  intro u hu; simp [atCells1] at hu; rcases hu with rfl | rfl <;> rfl

/-- The rows of the literals, and the row that is being made. -/
structure GInv (w : World) (base : Nat) (bv : Value) (ls : List (PLit × Value)) (l : List (PLit × Value)) (v : Value) (wr : World) : Prop where
  lits : LRow wr base bv ls
  row : wr.ownsRow (w.heap.size + 1) 79 2 v l.length (l.flatMap atCells1)
  below : Below w.heap.size w wr
  sz : w.heap.size < wr.heap.size

theorem GInv.alloc {w : World} {base : Nat} {bv : Value} {ls l : List (PLit × Value)} {v : Value} {wr : World} (h : GInv w base bv ls l v wr) (o : Obj) : GInv w base bv ls l v (wr.alloc o) :=
  have hs := h.sz
  ⟨h.lits.below ((Below.refl _ _).alloc (Nat.le_refl _) _), h.row.alloc o, h.below.alloc (by omega) _, by simp; omega⟩
theorem GInv.append {w : World} {base : Nat} {bv : Value} {ls l : List (PLit × Value)} {v v' : Value} {wr w5 : World} (h : GInv w base bv ls l v wr) (hlw : ∀ x ∈ ls, ∀ g, x.2.ownBlock = some g → g < w.heap.size) (hbw : ∀ g, bv.ownBlock = some g → g < w.heap.size) {x : PLit × Value} (hown : w5.ownsRow (w.heap.size + 1) 79 2 v' (l.length + 1) (l.flatMap atCells1 ++ atCells1 x)) (hg : wr.grownBy w5 v.ownBlock) : GInv w base bv ls (l ++ [x]) v' w5 := by
  have hs := h.sz
  have hb : ∀ g, g < w.heap.size → w5.heap[g]? = wr.heap[g]? := fun g hg' => hg.block g (by omega) (fun e => by have := (h.row.lt g e.symm).1; omega)
  refine ⟨⟨own_block h.lits.row (fun g e => hb g (hbw g e)), fun y hy => own_block (h.lits.each y hy) (fun g e => hb g (hlw y hy g e))⟩, ?_, h.below.trans ⟨hg.os, hg.tape, hg.output, hg.size, hb⟩, by have := hg.size; omega⟩
  simpa using hown

theorem take_filter {α : Type} {f : α → Bool} {l : List α} {k : Nat} (h : k < l.length) : (l.take (k + 1)).filter f = (l.take k).filter f ++ (if f l[k] then [l[k]] else []) := by
  rw [List.take_succ_eq_append_getElem h, List.filter_append]
  congr 1
  cases hf : f l[k] <;> simp [hf]

set_option maxRecDepth 100000 in
set_option maxHeartbeats 8000000 in
theorem atoms_any (w : World) (base : Nat) (pd : ByteArray) (ah : Option Addr) (nh ch : Nat) (ab : Option Addr) (cb : Nat) (ls : List (PLit × Value)) (neg : Bool) (h : LRow w base (.slice ab ls.length cb) ls) (hl : ls.length ≤ 1000) :
    Calls Tryz.prog 217 #[.agg #[.string pd, .slice ah nh ch, .slice ab ls.length cb], .bool neg] w fun e w' => ∃ (a : Option Addr) (c : Nat), e = .returned (.slice a (ls.filter (isNeg neg)).length c) ∧ w'.ownsRow (w.heap.size + 1) 79 2 (.slice a (ls.filter (isNeg neg)).length c) (ls.filter (isNeg neg)).length ((ls.filter (isNeg neg)).flatMap atCells1) ∧ Below w.heap.size w w' ∧ w.heap.size < w'.heap.size := by
  obtain ⟨i0, hi, hz0, hz1, hz2⟩ := info_parts infoPAtom
  have HBW := hide (fun g (e : (Value.slice ab ls.length cb).ownBlock = some g) => (h.row.lt g e).2)
  have HLW := hide (fun x (hx : x ∈ ls) g (e : x.2.ownBlock = some g) => ((h.each x hx).lt g e).2)
  have b1 := (Below.refl w.heap.size w).alloc (Nat.le_refl _) (.cells #[.string pd, .slice ah nh ch, .slice ab ls.length cb] 123)
  have h0 : GInv w base (.slice ab ls.length cb) ls [] (.slice none 0 0) (w.alloc (.cells #[.string pd, .slice ah nh ch, .slice ab ls.length cb] 123)) := ⟨h.below b1, World.ownsRow_nil _ _ _ _, b1, by simp⟩
  clear h b1
  go_enter Tryz.func217, Tryz.ntmps217
  go_wp2_with fail
  go_loopg [5, 11] ls.length (fun gg v i wr => ∃ k : Nat, k ≤ ls.length ∧ gg = ls.length - k ∧ i = .int .i64 k ∧ GInv w base (.slice ab ls.length cb) ls ((ls.take k).filter (isNeg neg)) v wr)
  case atStart => exact ⟨0, Nat.zero_le _, rfl, rfl, h0⟩
  case round =>
    clear h0
    obtain ⟨k, hk, hgk, rfl, hinv⟩ := hrel
    obtain ⟨a1, cap1, rfl⟩ := own_slice hinv.row
    by_cases hlk : k < ls.length
    · obtain ⟨g, cap, hv, hbg, hgl, hnc, hcm, hc⟩ := row_at pl_len hinv.lits.row k hlk
      injection hv with h1 h2 h3
      subst h1 h3
      obtain ⟨at1, ct1, hbt⟩ := own_slice (hinv.lits.each _ (List.getElem_mem hlk))
      have q0 := hc 0 (by omega)
      have q1 := hc 1 (by omega)
      have q2 := hc 2 (by omega)
      simp only [PLit.cells, hbt, Nat.add_zero, List.getElem?_cons_zero, List.getElem?_cons_succ] at q0 q1 q2
      have hI := hinv.alloc (.cells #[.bool ls[k].1.neg, .string ls[k].1.pd, .slice at1 ls[k].1.ts.length ct1] 183)
      have hfl : ((ls.take k).filter (isNeg neg)).length ≤ 1000 := Nat.le_trans (List.length_filter_le _ _) (by simp; omega)
      have hsz := hI.sz
      rw [World.size_alloc] at hsz
      clear hc
      cases hq : (ls[k].1.neg == neg) with
      | true =>
        have hf : isNeg neg ls[k] = true := hq
        have HT := hide (take_filter (f := isNeg neg) hlk)
        have hx : ls[k] = (ls[k].1, Value.slice at1 ls[k].1.ts.length ct1) := by rw [← hbt]
        have HX := hide hx
        have HFF := hide hf
        have hownA := (hI.alloc (.cells #[.string ls[k].1.pd, .slice at1 ls[k].1.ts.length ct1] 79)).row
        have HI := hide (hI.alloc (.cells #[.string ls[k].1.pd, .slice at1 ls[k].1.ts.length ct1] 79))
        clear hinv hI hbt hf hx
        go_wp2_with (at_builtin; refine wpList_append_own _ rfl _ _ 289 rfl (w.heap.size + 1) 79 i0 _ 2 40 Tryz.underlying289 hi hz0 hz1 hz2 rfl (by decide) _ _ _ rfl hownA ⟨wr.heap.size + 1, 0, none⟩ 1 1 (atCells1 (ls[k].1, .slice at1 ls[k].1.ts.length ct1)) rfl rfl (pat_cell wr _ (ls[k].1, .slice at1 ls[k].1.ts.length ct1)) (pat_one _ _ _ _) (by unfold maxLen; omega) (by omega) (by simp; omega) ?_)
        intro v5 w5 hown5 hg5 hne5
        clear hne5
        obtain ⟨a5, cap5, rfl⟩ := own_slice hown5
        have hI5 := (unhide HI).append (unhide HLW) (unhide HBW) hown5 hg5
        have HI5 := hide hI5
        clear hown5 hg5 hownA hI5 HI
        go_wp2_with fail
        go_roundg (ls.length - (k + 1))
        case measure => omega
        case rel =>
          refine ⟨k + 1, by omega, rfl, by go_num, ?_⟩
          rw [unhide HT, if_pos (unhide HFF), unhide HX]
          exact unhide HI5
      | false =>
        have hf : isNeg neg ls[k] = false := hq
        have HT := hide (show (ls.take (k + 1)).filter (isNeg neg) = (ls.take k).filter (isNeg neg) by rw [take_filter hlk, hf]; simp)
        have HI := hide hI
        clear hinv hI hf hbt
        go_wp2_with fail
        go_roundg (ls.length - (k + 1))
        case measure => omega
        case rel => exact ⟨k + 1, by omega, rfl, by go_num, by rw [unhide HT]; exact unhide HI⟩
    · have e : (ls.take k).filter (isNeg neg) = ls.filter (isNeg neg) := by rw [List.take_of_length_le (by omega)]
      rw [e] at hinv ⊢
      have HI := hide hinv
      clear hinv
      go_wp2_with fail
      go_ret
      exact ⟨_, _, rfl, (unhide HI).row, (unhide HI).below, (unhide HI).sz⟩

theorem positive_any (w : World) (base : Nat) (pd : ByteArray) (ah : Option Addr) (nh ch : Nat) (ab : Option Addr) (cb : Nat) (ls : List (PLit × Value)) (h : LRow w base (.slice ab ls.length cb) ls) (hl : ls.length ≤ 1000) :
    Calls Tryz.prog 164 #[.agg #[.string pd, .slice ah nh ch, .slice ab ls.length cb]] w fun e w' => ∃ (a : Option Addr) (c : Nat), e = .returned (.slice a (ls.filter (isNeg false)).length c) ∧ w'.ownsRow (w.heap.size + 1) 79 2 (.slice a (ls.filter (isNeg false)).length c) (ls.filter (isNeg false)).length ((ls.filter (isNeg false)).flatMap atCells1) ∧ Below w.heap.size w w' ∧ w.heap.size < w'.heap.size := by
  have b1 := (Below.refl w.heap.size w).alloc (Nat.le_refl _) (.cells #[.string pd, .slice ah nh ch, .slice ab ls.length cb] 123)
  have h0 := h.below b1
  clear h
  go_enter Tryz.func164, Tryz.ntmps164
  go_wp2_with fail
  refine (atoms_any _ base pd ah nh ch ab cb ls false h0 hl).mono ?_
  rintro e w1 ⟨a, c, rfl, hr, hb, hz⟩
  go_wp2_with fail
  go_ret
  refine ⟨a, c, rfl, ownsRow_low hr (by simp), b1.trans (hb.mono (by simp)), by simp at hz; omega⟩

def bindsV (v : ByteArray) (ls : List PLit) : Bool := (ls.filter fun l => l.neg == false).any fun l => hasV v l.ts

set_option maxRecDepth 100000 in
set_option maxHeartbeats 8000000 in
theorem binds_any (w : World) (base : Nat) (pd v : ByteArray) (ah : Option Addr) (nh ch : Nat) (ab : Option Addr) (cb : Nat) (ls : List (PLit × Value)) (h : LRow w base (.slice ab ls.length cb) ls) (hl : ls.length ≤ 1000) :
    Calls Tryz.prog 176 #[.agg #[.string pd, .slice ah nh ch, .slice ab ls.length cb], .string v] w fun e w' => e = .returned (.bool (bindsV v (ls.map (·.1)))) ∧ Below w.heap.size w w' := by
  have b1 := (Below.refl w.heap.size w).alloc (Nat.le_refl _) (.cells #[.string pd, .slice ah nh ch, .slice ab ls.length cb] 123)
  have h0 := h.below b1
  have hfl : (ls.filter (isNeg false)).length ≤ 1000 := Nat.le_trans (List.length_filter_le _ _) hl
  have hLW : ∀ x ∈ ls.filter (isNeg false), w.ownsRow base 191 1 x.2 x.1.ts.length (ptCells x.1.ts) := fun x hx => h.each x (List.mem_filter.1 hx).1
  have heq : bindsV v (ls.map (·.1)) = (ls.filter (isNeg false)).any fun x => hasV v x.1.ts := by
    unfold bindsV
    rw [List.filter_map, List.any_map]
    rfl
  rw [heq]
  have hP := positive_any _ base pd ah nh ch ab cb ls h0 hl
  obtain ⟨l, hll⟩ : ∃ l, ls.filter (isNeg false) = l := ⟨_, rfl⟩
  rw [hll] at hfl hLW hP ⊢
  have HLW := hide hLW
  clear h heq hLW hll
  go_enter Tryz.func176, Tryz.ntmps176
  go_wp2_with fail
  refine hP.mono ?_
  rintro e w1 ⟨a, c, rfl, hr, hb, hz⟩
  have hb1 : Below w.heap.size w w1 := b1.trans (hb.mono (by simp))
  rw [World.size_alloc] at hr hz
  clear h0 hb b1 hP
  go_wp2_with fail
  go_loopg [10] l.length (fun gg i wr => ∃ k : Nat, k ≤ l.length ∧ gg = l.length - k ∧ i = .int .i64 k ∧ wr.ownsRow (w.heap.size + 1 + 1) 79 2 (.slice a l.length c) l.length (l.flatMap atCells1) ∧ Below w.heap.size w wr ∧ w.heap.size < wr.heap.size ∧ (l.any fun x => hasV v x.1.ts) = (l.drop k).any fun x => hasV v x.1.ts)
  case atStart => exact ⟨0, Nat.zero_le _, rfl, rfl, hr, hb1, by omega, rfl⟩
  case round =>
    clear hr hb1 hz
    obtain ⟨k, hk, hgk, rfl, hr, hb, hsz, hfin⟩ := hrel
    have HF := hide hfin
    clear hfin
    by_cases hlk : k < l.length
    · obtain ⟨g, cap, hv, hbg, hgl, hnc, hcm, hc⟩ := row_at at_len hr k hlk
      injection hv with h1 h2 h3
      subst h1 h3
      have hown := unhide HLW _ (List.getElem_mem hlk)
      obtain ⟨at1, ct1, hbt⟩ := own_slice hown
      have q0 := hc 0 (by omega)
      have q1 := hc 1 (by omega)
      simp only [atCells1, hbt, Nat.add_zero, List.getElem?_cons_zero, List.getElem?_cons_succ] at q0 q1
      rw [hbt] at hown
      have bA := (Below.refl wr.heap.size wr).alloc (Nat.le_refl _) (.cells #[.string l[k].1.pd, .slice at1 l[k].1.ts.length ct1] 79)
      have hownA := own_below hown (hb.trans (bA.mono (by omega))) (fun x e => (hown.lt x e).2)
      have HF2 := hide ((unhide HF).trans (any_step hlk))
      have HR := hide hr
      clear hc HF hown hbt hr
      go_wp2_with fail
      refine (has_v_any _ base l[k].1.pd v at1 ct1 l[k].1.ts hownA).mono ?_
      rintro e w2 ⟨rfl, hb2⟩
      have hbB : Below wr.heap.size wr w2 := bA.trans (hb2.mono (by simp))
      have hz2 := hbB.size
      cases hq : hasV v l[k].1.ts with
      | true =>
        have HF3 := hide (show (l.any fun x => hasV v x.1.ts) = true by rw [unhide HF2, hq]; rfl)
        clear HF2 hq q0 q1 hownA hb2 bA
        go_wp2_with fail
        go_ret
        exact ⟨by rw [unhide HF3]; rfl, hb.trans (hbB.mono (by omega))⟩
      | false =>
        have HF3 := hide (show (l.any fun x => hasV v x.1.ts) = (l.drop (k + 1)).any fun x => hasV v x.1.ts by rw [unhide HF2, hq]; rfl)
        have HR2 := hide (own_below (unhide HR) hbB (fun x e => ((unhide HR).lt x e).2))
        clear HF2 hq q0 q1 hownA hb2 bA HR
        go_wp2_with fail
        go_roundg (l.length - (k + 1))
        case measure => omega
        case rel => exact ⟨k + 1, by omega, rfl, by go_num, unhide HR2, hb.trans (hbB.mono (by omega)), by omega, unhide HF3⟩
    · have HF2 := hide (show (l.any fun x => hasV v x.1.ts) = false by rw [unhide HF, List.drop_of_length_le (by omega)]; rfl)
      clear HF
      go_wp2_with fail
      go_ret
      exact ⟨by rw [unhide HF2]; rfl, hb⟩
end Go.Proofs.YtldkpahaocjdpaaGreat
