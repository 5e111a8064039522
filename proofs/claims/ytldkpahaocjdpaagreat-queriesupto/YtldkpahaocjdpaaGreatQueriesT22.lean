/-
  The program's has, atoms, Positive, Binds: whether a variable stands in a positive literal.
  The program's atoms, Positive, Binds.
  The program's firstLoose and unbound: the first variable that its rule does not bind.
  The program's unbound.
-/
import Derived.Test.YtldkpahaocjdpaaGreatQueriesT21
set_option maxHeartbeats 16000000
namespace Go.Proofs.YtldkpahaocjdpaaGreat
section
open Go.RowKit
theorem zgg (W : World) (v : Value) : (Instr.typeAssert (.iface 130 v) 191 130 true).run Tryz.prog W = .ok (.tuple #[v, .bool true]) W := by kernel_rfl
theorem zi4 (W : World) (v : Value) : (Instr.typeAssert (.iface 193 v) 191 130 true).run Tryz.prog W = .ok (.tuple #[.string { data := #[] }, .bool false]) W := by kernel_rfl
theorem zfp (W : World) (v : Value) : (Instr.typeAssert (.iface 193 v) 191 193 true).run Tryz.prog W = .ok (.tuple #[v, .bool true]) W := by kernel_rfl
def hasV (v : ByteArray) (ts : List (Bool × ByteArray)) : Bool := ts.any fun t => t.1 && t.2.toList == v.toList
theorem zkv {w : World} {base : Nat} {tv : Value} {ts : List (Bool × ByteArray)} (h : w.ownsRow base 191 1 tv ts.length (zbj ts)) (k : Nat) (hk : k < ts.length) : ∃ g cap, tv = .slice (some ⟨g, 0, none⟩) ts.length cap ∧ base ≤ g ∧ g < w.heap.size ∧ ts.length ≤ cap ∧ cap ≤ maxLen ∧ w.cell? ⟨g, k, none⟩ = some (zfv ts[k].1 ts[k].2) := by
 rcases h.2 with ⟨_, h0⟩ | ⟨g, cap, cur, rfl, hb, hg, hnc, hcm, hcs, ht⟩
 ·omega
 ·refine ⟨g, cap, rfl, hb, (Array.getElem?_eq_some_iff.1 hg).1, hnc, hcm, ?_⟩
  rw [h.cellAt k (by omega), zbj, List.getElem?_map, List.getElem?_eq_getElem hk]
  rfl
set_option maxRecDepth 100000 in
theorem has_v_any (w : World) (base : Nat) (pd v : ByteArray) (a : Option Addr) (c : Nat) (ts : List (Bool × ByteArray)) (h : w.ownsRow base 191 1 (.slice a ts.length c) ts.length (zbj ts)) :
  Calls Tryz.prog 221 #[.agg #[.string pd, .slice a ts.length c], .string v] w fun e w' => e = .returned (.bool (hasV v ts)) ∧ Below w.heap.size w w' := by
 have htm := zbt h
 unfold maxLen at htm
 have hb0 : Below w.heap.size w (w.alloc (.cells #[.string pd, .slice a ts.length c] 79)) := (Below.refl _ _).alloc (Nat.le_refl _) _
 have h0 := zai h hb0 (fun g e => (h.lt g e).2)
 clear h
 have hay := zgg
 have han := zi4
 have hnn := zfp
 go_enter Tryz.func221, Tryz.ntmps221
 go_wp2_with fail
 go_loop [12] (fun i => ∃ k : Nat, k ≤ ts.length ∧ i = .int .i64 k ∧ hasV v ts = hasV v (ts.drop k)) (fun i => ts.length - (intOf i).toNat)
 case atStart => exact ⟨0, Nat.zero_le _, rfl, rfl⟩
 case round =>
  obtain ⟨k, hk, rfl, hfin⟩ := hrel
  have HF := hide hfin
  clear hfin
  by_cases hlk : k < ts.length
  ·obtain ⟨g, cap, hv, hbg, hgl, hnc, hcm, hc⟩ := zkv h0 k hlk
   injection hv with h1 h2 h3
   subst h1 h3
   have hst : hasV v (ts.drop k) = ((ts[k].1 && ts[k].2.toList == v.toList) || hasV v (ts.drop (k + 1))) := zjn hlk
   have HF2 := hide ((zaa HF).trans hst)
   clear HF hst
   cases hb : ts[k].1 with
   | true =>
    rw [hb] at hc
    unfold zfv at hc
    rw [if_pos rfl] at hc
    cases hq : ts[k].2.toList == v.toList with
    | true =>
     have HF3 := hide (show hasV v ts = true by rw [zaa HF2, hb, hq]; rfl)
     clear HF2 hb
     go_wp2_with fail
     go_ret
     exact ⟨by rw [zaa HF3]; rfl, hb0⟩
    | false =>
     have HF3 := hide (show hasV v ts = hasV v (ts.drop (k + 1)) by rw [zaa HF2, hb, hq]; rfl)
     clear HF2 hb
     go_wp2_with fail
     go_round
     case rel => exact ⟨k + 1, by omega, by go_num, zaa HF3⟩
     case measure => simp [intOf]; omega
   | false =>
    rw [hb] at hc
    unfold zfv at hc
    rw [if_neg (by decide)] at hc
    have HF3 := hide (show hasV v ts = hasV v (ts.drop (k + 1)) by rw [zaa HF2, hb]; rfl)
    clear HF2 hb
    go_wp2_with fail
    go_round
    case rel => exact ⟨k + 1, by omega, by go_num, zaa HF3⟩
    case measure => simp [intOf]; omega
  ·have HF2 := hide (show hasV v ts = false by rw [zaa HF, List.drop_of_length_le (by omega)]; rfl)
   clear HF
   go_wp2_with fail
   go_ret
   exact ⟨by rw [zaa HF2]; rfl, hb0⟩
end
section
open Go.RowKit
def zcf (x : PLit × Value) : List Value := [.string x.1.pd, x.2]
theorem at_len (x : PLit × Value) : (zcf x).length = 2 := rfl
theorem pl_len (x : PLit × Value) : (x.1.cells x.2).length = 3 := rfl
def zcb (b : Bool) (x : PLit × Value) : Bool := x.1.neg == b
theorem LRow.below {w w' : World} {base : Nat} {bv : Value} {ls : List (PLit × Value)} (h : LRow w base bv ls) (hb : Below w.heap.size w w') : LRow w' base bv ls :=
 ⟨zai h.row hb (fun g e => (h.row.lt g e).2), fun x hx => zai (h.each x hx) hb (fun g e => ((h.each x hx).lt g e).2)⟩
theorem infoPAtom : (Tryz.prog.info? 79).map (fun i => (i.zero, i.size, i.bytes)) = some (some (.agg #[.string { data := #[] }, .slice none 0 0]), 2, 40) := by kernel_rfl
theorem pat_cell (w1 : World) (o : Obj) (x : PLit × Value) (j : Nat) (u : Value) (h : (zcf x)[j]? = some u) : ((w1.alloc o).alloc (Obj.cells #[Value.string x.1.pd, x.2] 79)).cell? ((⟨w1.heap.size + 1, 0, none⟩ : Addr).add j) = some u := by
 have e : (⟨w1.heap.size + 1, 0, none⟩ : Addr).add j = ⟨w1.heap.size + 1, j, none⟩ := by unfold Addr.add; split <;> simp_all
 rw [e, World.cell?_alloc_at _ _ _ _ (by simp)]
 simpa [zcf] using h
theorem pat_one (L : PLit) (a : Option Addr) (n c : Nat) : ∀ u ∈ zcf (L, .slice a n c), u.oneCell' = true := by
 intro u hu; simp [zcf] at hu; rcases hu with rfl | rfl <;> rfl
structure GInv (w : World) (base : Nat) (bv : Value) (ls : List (PLit × Value)) (l : List (PLit × Value)) (v : Value) (wr : World) : Prop where
 lits : LRow wr base bv ls
 row : wr.ownsRow (w.heap.size + 1) 79 2 v l.length (l.flatMap zcf)
 below : Below w.heap.size w wr
 sz : w.heap.size < wr.heap.size
theorem GInv.alloc {w : World} {base : Nat} {bv : Value} {ls l : List (PLit × Value)} {v : Value} {wr : World} (h : GInv w base bv ls l v wr) (o : Obj) : GInv w base bv ls l v (wr.alloc o) :=
 have hs := h.sz
 ⟨h.lits.below ((Below.refl _ _).alloc (Nat.le_refl _) _), h.row.alloc o, h.below.alloc (by omega) _, by simp; omega⟩
theorem GInv.append {w : World} {base : Nat} {bv : Value} {ls l : List (PLit × Value)} {v v' : Value} {wr w5 : World} (h : GInv w base bv ls l v wr) (hlw : ∀ x ∈ ls, ∀ g, x.2.ownBlock = some g → g < w.heap.size) (hbw : ∀ g, bv.ownBlock = some g → g < w.heap.size) {x : PLit × Value} (hown : w5.ownsRow (w.heap.size + 1) 79 2 v' (l.length + 1) (l.flatMap zcf ++ zcf x)) (hg : wr.grownBy w5 v.ownBlock) : GInv w base bv ls (l ++ [x]) v' w5 := by
 have hs := h.sz
 have hb : ∀ g, g < w.heap.size → w5.heap[g]? = wr.heap[g]? := fun g hg' => hg.block g (by omega) (fun e => by have := (h.row.lt g e.symm).1; omega)
 refine ⟨⟨zbb h.lits.row (fun g e => hb g (hbw g e)), fun y hy => zbb (h.lits.each y hy) (fun g e => hb g (hlw y hy g e))⟩, ?_, h.below.trans ⟨hg.os, hg.tape, hg.output, hg.size, hb⟩, by have := hg.size; omega⟩
 simpa using hown
theorem zhw {α : Type} {f : α → Bool} {l : List α} {k : Nat} (h : k < l.length) : (l.take (k + 1)).filter f = (l.take k).filter f ++ (if f l[k] then [l[k]] else []) := by
 rw [List.take_succ_eq_append_getElem h, List.filter_append]
 congr 1
 cases hf : f l[k] <;> simp [hf]
set_option maxRecDepth 100000 in
theorem zpj (w : World) (base : Nat) (pd : ByteArray) (ah : Option Addr) (nh ch : Nat) (ab : Option Addr) (cb : Nat) (ls : List (PLit × Value)) (neg : Bool) (h : LRow w base (.slice ab ls.length cb) ls) (hl : ls.length ≤ 1000) :
  Calls Tryz.prog 217 #[.agg #[.string pd, .slice ah nh ch, .slice ab ls.length cb], .bool neg] w fun e w' => ∃ (a : Option Addr) (c : Nat), e = .returned (.slice a (ls.filter (zcb neg)).length c) ∧ w'.ownsRow (w.heap.size + 1) 79 2 (.slice a (ls.filter (zcb neg)).length c) (ls.filter (zcb neg)).length ((ls.filter (zcb neg)).flatMap zcf) ∧ Below w.heap.size w w' ∧ w.heap.size < w'.heap.size := by
 obtain ⟨i0, hi, hz0, hz1, hz2⟩ := info_parts infoPAtom
 have HBW := hide (fun g (e : (Value.slice ab ls.length cb).ownBlock = some g) => (h.row.lt g e).2)
 have HLW := hide (fun x (hx : x ∈ ls) g (e : x.2.ownBlock = some g) => ((h.each x hx).lt g e).2)
 have b1 := (Below.refl w.heap.size w).alloc (Nat.le_refl _) (.cells #[.string pd, .slice ah nh ch, .slice ab ls.length cb] 123)
 have h0 : GInv w base (.slice ab ls.length cb) ls [] (.slice none 0 0) (w.alloc (.cells #[.string pd, .slice ah nh ch, .slice ab ls.length cb] 123)) := ⟨h.below b1, World.ownsRow_nil _ _ _ _, b1, by simp⟩
 clear h b1
 go_enter Tryz.func217, Tryz.ntmps217
 go_wp2_with fail
 go_loopg [5, 11] ls.length (fun gg v i wr => ∃ k : Nat, k ≤ ls.length ∧ gg = ls.length - k ∧ i = .int .i64 k ∧ GInv w base (.slice ab ls.length cb) ls ((ls.take k).filter (zcb neg)) v wr)
 case atStart => exact ⟨0, Nat.zero_le _, rfl, rfl, h0⟩
 case round =>
  clear h0
  obtain ⟨k, hk, hgk, rfl, hinv⟩ := hrel
  obtain ⟨a1, cap1, rfl⟩ := zac hinv.row
  by_cases hlk : k < ls.length
  ·obtain ⟨g, cap, hv, hbg, hgl, hnc, hcm, hc⟩ := zc7 pl_len hinv.lits.row k hlk
   injection hv with h1 h2 h3
   subst h1 h3
   obtain ⟨at1, ct1, hbt⟩ := zac (hinv.lits.each _ (List.getElem_mem hlk))
   have q0 := hc 0 (by omega)
   have q1 := hc 1 (by omega)
   have q2 := hc 2 (by omega)
   simp only [PLit.cells, hbt, Nat.add_zero, List.getElem?_cons_zero, List.getElem?_cons_succ] at q0 q1 q2
   have hI := hinv.alloc (.cells #[.bool ls[k].1.neg, .string ls[k].1.pd, .slice at1 ls[k].1.ts.length ct1] 183)
   have hfl : ((ls.take k).filter (zcb neg)).length ≤ 1000 := Nat.le_trans (List.length_filter_le _ _) (by simp; omega)
   have hsz := hI.sz
   rw [World.size_alloc] at hsz
   clear hc
   cases hq : (ls[k].1.neg == neg) with
   | true =>
    have hf : zcb neg ls[k] = true := hq
    have HT := hide (zhw (f := zcb neg) hlk)
    have hx : ls[k] = (ls[k].1, Value.slice at1 ls[k].1.ts.length ct1) := by rw [← hbt]
    have HX := hide hx
    have HFF := hide hf
    have hownA := (hI.alloc (.cells #[.string ls[k].1.pd, .slice at1 ls[k].1.ts.length ct1] 79)).row
    have HI := hide (hI.alloc (.cells #[.string ls[k].1.pd, .slice at1 ls[k].1.ts.length ct1] 79))
    clear hinv hI hbt hf hx
    go_wp2_with (at_builtin; refine wpList_append_own _ rfl _ _ 289 rfl (w.heap.size + 1) 79 i0 _ 2 40 Tryz.underlying289 hi hz0 hz1 hz2 rfl (by decide) _ _ _ rfl hownA ⟨wr.heap.size + 1, 0, none⟩ 1 1 (zcf (ls[k].1, .slice at1 ls[k].1.ts.length ct1)) rfl rfl (pat_cell wr _ (ls[k].1, .slice at1 ls[k].1.ts.length ct1)) (pat_one _ _ _ _) (by unfold maxLen; omega) (by omega) (by simp; omega) ?_)
    intro v5 w5 hown5 hg5 hne5
    clear hne5
    obtain ⟨a5, cap5, rfl⟩ := zac hown5
    have hI5 := (zaa HI).append (zaa HLW) (zaa HBW) hown5 hg5
    have HI5 := hide hI5
    clear hown5 hg5 hownA hI5 HI
    go_wp2_with fail
    go_roundg (ls.length - (k + 1))
    case measure => omega
    case rel =>
     refine ⟨k + 1, by omega, rfl, by go_num, ?_⟩
     rw [zaa HT, if_pos (zaa HFF), zaa HX]
     exact zaa HI5
   | false =>
    have hf : zcb neg ls[k] = false := hq
    have HT := hide (show (ls.take (k + 1)).filter (zcb neg) = (ls.take k).filter (zcb neg) by rw [zhw hlk, hf]; simp)
    have HI := hide hI
    clear hinv hI hf hbt
    go_wp2_with fail
    go_roundg (ls.length - (k + 1))
    case measure => omega
    case rel => exact ⟨k + 1, by omega, rfl, by go_num, by rw [zaa HT]; exact zaa HI⟩
  ·have e : (ls.take k).filter (zcb neg) = ls.filter (zcb neg) := by rw [List.take_of_length_le (by omega)]
   rw [e] at hinv ⊢
   have HI := hide hinv
   clear hinv
   go_wp2_with fail
   go_ret
   exact ⟨_, _, rfl, (zaa HI).row, (zaa HI).below, (zaa HI).sz⟩
theorem zi3 (w : World) (base : Nat) (pd : ByteArray) (ah : Option Addr) (nh ch : Nat) (ab : Option Addr) (cb : Nat) (ls : List (PLit × Value)) (h : LRow w base (.slice ab ls.length cb) ls) (hl : ls.length ≤ 1000) :
  Calls Tryz.prog 164 #[.agg #[.string pd, .slice ah nh ch, .slice ab ls.length cb]] w fun e w' => ∃ (a : Option Addr) (c : Nat), e = .returned (.slice a (ls.filter (zcb false)).length c) ∧ w'.ownsRow (w.heap.size + 1) 79 2 (.slice a (ls.filter (zcb false)).length c) (ls.filter (zcb false)).length ((ls.filter (zcb false)).flatMap zcf) ∧ Below w.heap.size w w' ∧ w.heap.size < w'.heap.size := by
 have b1 := (Below.refl w.heap.size w).alloc (Nat.le_refl _) (.cells #[.string pd, .slice ah nh ch, .slice ab ls.length cb] 123)
 have h0 := h.below b1
 clear h
 go_enter Tryz.func164, Tryz.ntmps164
 go_wp2_with fail
 refine (zpj _ base pd ah nh ch ab cb ls false h0 hl).mono ?_
 rintro e w1 ⟨a, c, rfl, hr, hb, hz⟩
 go_wp2_with fail
 go_ret
 refine ⟨a, c, rfl, zaf hr (by simp), b1.trans (hb.mono (by simp)), by simp at hz; omega⟩
def zja (v : ByteArray) (ls : List PLit) : Bool := (ls.filter fun l => l.neg == false).any fun l => hasV v l.ts
set_option maxRecDepth 100000 in
theorem binds_any (w : World) (base : Nat) (pd v : ByteArray) (ah : Option Addr) (nh ch : Nat) (ab : Option Addr) (cb : Nat) (ls : List (PLit × Value)) (h : LRow w base (.slice ab ls.length cb) ls) (hl : ls.length ≤ 1000) :
  Calls Tryz.prog 176 #[.agg #[.string pd, .slice ah nh ch, .slice ab ls.length cb], .string v] w fun e w' => e = .returned (.bool (zja v (ls.map (·.1)))) ∧ Below w.heap.size w w' := by
 have b1 := (Below.refl w.heap.size w).alloc (Nat.le_refl _) (.cells #[.string pd, .slice ah nh ch, .slice ab ls.length cb] 123)
 have h0 := h.below b1
 have hfl : (ls.filter (zcb false)).length ≤ 1000 := Nat.le_trans (List.length_filter_le _ _) hl
 have hLW : ∀ x ∈ ls.filter (zcb false), w.ownsRow base 191 1 x.2 x.1.ts.length (zbj x.1.ts) := fun x hx => h.each x (List.mem_filter.1 hx).1
 have heq : zja v (ls.map (·.1)) = (ls.filter (zcb false)).any fun x => hasV v x.1.ts := by
  unfold zja
  rw [List.filter_map, List.any_map]
  rfl
 rw [heq]
 have hP := zi3 _ base pd ah nh ch ab cb ls h0 hl
 obtain ⟨l, hll⟩ : ∃ l, ls.filter (zcb false) = l := ⟨_, rfl⟩
 rw [hll] at hfl hLW hP ⊢
 have HLW := hide hLW
 clear h heq hLW hll
 go_enter Tryz.func176, Tryz.ntmps176
 go_wp2_with fail
 refine hP.mono ?_
 rintro e w1 ⟨a, c, rfl, hr, hb, hz⟩
 have hb1 : Below w.heap.size w w1 := b1.trans (hb.mono (by simp))
 rw [World.size_alloc] at hr hz
 clear h0 hb b1 hP
 go_wp2_with fail
 go_loopg [10] l.length (fun gg i wr => ∃ k : Nat, k ≤ l.length ∧ gg = l.length - k ∧ i = .int .i64 k ∧ wr.ownsRow (w.heap.size + 1 + 1) 79 2 (.slice a l.length c) l.length (l.flatMap zcf) ∧ Below w.heap.size w wr ∧ w.heap.size < wr.heap.size ∧ (l.any fun x => hasV v x.1.ts) = (l.drop k).any fun x => hasV v x.1.ts)
 case atStart => exact ⟨0, Nat.zero_le _, rfl, rfl, hr, hb1, by omega, rfl⟩
 case round =>
  clear hr hb1 hz
  obtain ⟨k, hk, hgk, rfl, hr, hb, hsz, hfin⟩ := hrel
  have HF := hide hfin
  clear hfin
  by_cases hlk : k < l.length
  ·obtain ⟨g, cap, hv, hbg, hgl, hnc, hcm, hc⟩ := zc7 at_len hr k hlk
   injection hv with h1 h2 h3
   subst h1 h3
   have hown := zaa HLW _ (List.getElem_mem hlk)
   obtain ⟨at1, ct1, hbt⟩ := zac hown
   have q0 := hc 0 (by omega)
   have q1 := hc 1 (by omega)
   simp only [zcf, hbt, Nat.add_zero, List.getElem?_cons_zero, List.getElem?_cons_succ] at q0 q1
   rw [hbt] at hown
   have bA := (Below.refl wr.heap.size wr).alloc (Nat.le_refl _) (.cells #[.string l[k].1.pd, .slice at1 l[k].1.ts.length ct1] 79)
   have hownA := zai hown (hb.trans (bA.mono (by omega))) (fun x e => (hown.lt x e).2)
   have HF2 := hide ((zaa HF).trans (zjn hlk))
   have HR := hide hr
   clear hc HF hown hbt hr
   go_wp2_with fail
   refine (has_v_any _ base l[k].1.pd v at1 ct1 l[k].1.ts hownA).mono ?_
   rintro e w2 ⟨rfl, hb2⟩
   have hbB : Below wr.heap.size wr w2 := bA.trans (hb2.mono (by simp))
   have hz2 := hbB.size
   cases hq : hasV v l[k].1.ts with
   | true =>
    have HF3 := hide (show (l.any fun x => hasV v x.1.ts) = true by rw [zaa HF2, hq]; rfl)
    clear HF2 hq q0 q1 hownA hb2 bA
    go_wp2_with fail
    go_ret
    exact ⟨by rw [zaa HF3]; rfl, hb.trans (hbB.mono (by omega))⟩
   | false =>
    have HF3 := hide (show (l.any fun x => hasV v x.1.ts) = (l.drop (k + 1)).any fun x => hasV v x.1.ts by rw [zaa HF2, hq]; rfl)
    have HR2 := hide (zai (zaa HR) hbB (fun x e => ((zaa HR).lt x e).2))
    clear HF2 hq q0 q1 hownA hb2 bA HR
    go_wp2_with fail
    go_roundg (l.length - (k + 1))
    case measure => omega
    case rel => exact ⟨k + 1, by omega, rfl, by go_num, zaa HR2, hb.trans (hbB.mono (by omega)), by omega, zaa HF3⟩
  ·have HF2 := hide (show (l.any fun x => hasV v x.1.ts) = false by rw [zaa HF, List.drop_of_length_le (by omega)]; rfl)
   clear HF
   go_wp2_with fail
   go_ret
   exact ⟨by rw [zaa HF2]; rfl, hb⟩
end
section
open Go.RowKit
def zb6 (ls : List PLit) : List (Bool × ByteArray) → Nat → Option Nat
 | [], _ => none
 | t :: r, k => if t.1 && !zja t.2 ls then some k else zb6 ls r (k + 1)
def foundN (x : Option Nat) : Ending := .returned (.tuple #[.int .i64 (x.getD 0), .bool x.isSome])
theorem zpo {ls : List PLit} {ts : List (Bool × ByteArray)} {k : Nat} (h : k < ts.length) : zb6 ls (ts.drop k) k = if ts[k].1 && !zja ts[k].2 ls then some k else zb6 ls (ts.drop (k + 1)) (k + 1) := by
 rw [List.drop_eq_getElem_cons h, zb6]
set_option maxRecDepth 100000 in
theorem zp5 (w : World) (base : Nat) (pd hpd : ByteArray) (a : Option Addr) (c : Nat) (ts : List (Bool × ByteArray)) (ah : Option Addr) (nh ch : Nat) (ab : Option Addr) (cb : Nat) (ls : List (PLit × Value)) (ht : w.ownsRow base 191 1 (.slice a ts.length c) ts.length (zbj ts)) (h : LRow w base (.slice ab ls.length cb) ls) (hl : ls.length ≤ 1000) :
  Calls Tryz.prog 118 #[.agg #[.string pd, .slice a ts.length c], .agg #[.string hpd, .slice ah nh ch, .slice ab ls.length cb]] w fun e w' => e = foundN (zb6 (ls.map (·.1)) ts 0) ∧ Below w.heap.size w w' := by
 have htm := zbt ht
 unfold maxLen at htm
 have b1 := ((Below.refl w.heap.size w).alloc (Nat.le_refl _) (.cells #[.string pd, .slice a ts.length c] 79)).alloc (by simp) (.cells #[.string hpd, .slice ah nh ch, .slice ab ls.length cb] 123)
 have hr0 : ((w.alloc (.cells #[.string pd, .slice a ts.length c] 79)).alloc (.cells #[.string hpd, .slice ah nh ch, .slice ab ls.length cb] 123)).heap[w.heap.size + 1]? = some (.cells #[.string hpd, .slice ah nh ch, .slice ab ls.length cb] 123 (0, 0)) := by
  have := heap_alloc_new (w.alloc (.cells #[.string pd, .slice a ts.length c] 79)) (.cells #[.string hpd, .slice ah nh ch, .slice ab ls.length cb] 123)
  rw [World.size_alloc] at this
  exact this
 have h1 := h.below b1
 have ht1 := zai ht b1 (fun g e => (ht.lt g e).2)
 clear h ht
 have hay := zgg
 have han := zi4
 have hnn := zfp
 go_enter Tryz.func118, Tryz.ntmps118
 go_wp2_with fail
 go_loopg [13] ts.length (fun gg i wr => ∃ k : Nat, k ≤ ts.length ∧ gg = ts.length - k ∧ i = .int .i64 k ∧ LRow wr base (.slice ab ls.length cb) ls ∧ wr.ownsRow base 191 1 (.slice a ts.length c) ts.length (zbj ts) ∧ Below w.heap.size w wr ∧ w.heap.size + 1 < wr.heap.size ∧ wr.heap[w.heap.size + 1]? = some (.cells #[.string hpd, .slice ah nh ch, .slice ab ls.length cb] 123 (0, 0)) ∧ zb6 (ls.map (·.1)) ts 0 = zb6 (ls.map (·.1)) (ts.drop k) k)
 case atStart => exact ⟨0, Nat.zero_le _, rfl, rfl, h1, ht1, b1, by simp, hr0, rfl⟩
 case round =>
  clear h1 ht1 b1 hr0
  obtain ⟨k, hk, hgk, rfl, hL, hT, hB, hz, hr, hfin⟩ := hrel
  have HF := hide hfin
  clear hfin
  by_cases hlk : k < ts.length
  ·obtain ⟨g, cap, hv, hbg, hgl, hnc, hcm, hc⟩ := zkv hT k hlk
   injection hv with h1 h2 h3
   subst h1 h3
   have HF2 := hide ((zaa HF).trans (zpo hlk))
   clear HF
   cases hb : ts[k].1 with
   | true =>
    rw [hb] at hc
    unfold zfv at hc
    rw [if_pos rfl] at hc
    obtain ⟨r0, f0⟩ := zab hr 0
    obtain ⟨r1, f1⟩ := zab hr 1
    obtain ⟨r2, f2⟩ := zab hr 2
    have HR := hide hr
    clear hr
    go_wp2_with fail
    refine (binds_any wr base hpd ts[k].2 ah nh ch ab cb ls hL hl).mono ?_
    rintro e w2 ⟨rfl, hb2⟩
    have hz2 := hb2.size
    cases hq : zja ts[k].2 (ls.map (·.1)) with
    | false =>
     have HF3 := hide (show zb6 (ls.map (·.1)) ts 0 = some k by rw [zaa HF2, hb, hq]; rfl)
     clear HF2 hb hq r0 r1 r2 f0 f1 f2
     go_wp2_with fail
     go_ret2
     exact ⟨by rw [zaa HF3]; rfl, hB.trans (hb2.mono (by omega))⟩
    | true =>
     have HF3 := hide (show zb6 (ls.map (·.1)) ts 0 = zb6 (ls.map (·.1)) (ts.drop (k + 1)) (k + 1) by rw [zaa HF2, hb, hq]; rfl)
     have HL := hide (hL.below hb2)
     have HT := hide (zai hT hb2 (fun g e => (hT.lt g e).2))
     have HRR := hide ((hb2.block _ hz).trans (zaa HR))
     clear HF2 hb hq r0 r1 r2 f0 f1 f2 hL hT HR
     go_wp2_with fail
     go_roundg (ts.length - (k + 1))
     case measure => omega
     case rel => exact ⟨k + 1, by omega, rfl, by go_num, zaa HL, zaa HT, hB.trans (hb2.mono (by omega)), by omega, zaa HRR, zaa HF3⟩
   | false =>
    rw [hb] at hc
    unfold zfv at hc
    rw [if_neg (by decide)] at hc
    have HF3 := hide (show zb6 (ls.map (·.1)) ts 0 = zb6 (ls.map (·.1)) (ts.drop (k + 1)) (k + 1) by rw [zaa HF2, hb]; rfl)
    have HL := hide hL
    have HT := hide hT
    have HRR := hide hr
    clear HF2 hb hL hT hr
    go_wp2_with fail
    go_roundg (ts.length - (k + 1))
    case measure => omega
    case rel => exact ⟨k + 1, by omega, rfl, by go_num, zaa HL, zaa HT, hB, hz, zaa HRR, zaa HF3⟩
  ·have HF2 := hide (show zb6 (ls.map (·.1)) ts 0 = none by rw [zaa HF, List.drop_of_length_le (by omega)]; rfl)
   clear HF hL hT hr
   go_wp2_with fail
   go_ret2
   exact ⟨by rw [zaa HF2]; rfl, hB⟩
def zi9 (rs : List PRule) (n : Nat) : List PLit := match rs[n]? with | some R => R.body | none => []
def zct (rs : List PRule) : List PMen → Int
 | [] => -1
 | M :: r => match zb6 (zi9 rs M.num) M.ts 0 with | some i => (M.pl i : Int) | none => zct rs r
theorem zmx {rs : List PRule} {ms : List (PMen × Value)} {k : Nat} (h : k < ms.length) : zct rs ((ms.map (·.1)).drop k) = match zb6 (zi9 rs ms[k].1.num) ms[k].1.ts 0 with | some i => (ms[k].1.pl i : Int) | none => zct rs ((ms.map (·.1)).drop (k + 1)) := by
 rw [List.drop_eq_getElem_cons (by simpa using h), zct]; simp
theorem loose_lt {ls : List PLit} : ∀ {ts : List (Bool × ByteArray)} {k i : Nat}, zb6 ls ts k = some i → i < k + ts.length
 | [], k, i, h => by simp [zb6] at h
 | t :: r, k, i, h => by
  unfold zb6 at h
  split at h
  ·injection h with h; subst h; simp
  ·have := loose_lt h; simp; omega
theorem PRIn.below {w w' : World} {base : Nat} {r : PR} (h : PRIn w base r) (hb : Below w.heap.size w w') : PRIn w' base r :=
 ⟨zai h.hd hb (fun g e => (h.hd.lt g e).2), h.bo.below hb, h.eq⟩
theorem RRow.below {w w' : World} {base : Nat} {rv : Value} {rs : List PR} (h : RRow w base rv rs) (hb : Below w.heap.size w w') : RRow w' base rv rs :=
 ⟨zai h.row hb (fun g e => (h.row.lt g e).2), fun r hr => (h.each r hr).below hb⟩
theorem zo0 (r : PR) : r.cells.length = 3 := rfl
structure UnbInv (w : World) (base : Nat) (rv mv : Value) (rs : List PR) (ms : List (PMen × Value)) (wr : World) : Prop where
 rules : RRow wr base rv rs
 men : MRow wr base mv ms
 box : wr.heap[w.heap.size]? = some (.cells #[rv, mv] 100 (0, 0))
 below : Below w.heap.size w wr
 sz : w.heap.size < wr.heap.size
theorem UnbInv.next {w : World} {base : Nat} {rv mv : Value} {rs : List PR} {ms : List (PMen × Value)} {wr w1 : World} (h : UnbInv w base rv mv rs ms wr) (hb : Below wr.heap.size wr w1) : UnbInv w base rv mv rs ms w1 :=
 have hs := h.sz
 have hs1 := hb.size
 ⟨h.rules.below hb, h.men.below hb, (hb.block _ hs).trans h.box, h.below.trans (hb.mono (by omega)), by omega⟩
theorem UnbInv.start {w : World} {base : Nat} {rv mv : Value} {rs : List PR} {ms : List (PMen × Value)} (h : RRow w base rv rs) (h' : MRow w base mv ms) : UnbInv w base rv mv rs ms (w.alloc (.cells #[rv, mv] 100)) :=
 have b1 := (Below.refl w.heap.size w).alloc (Nat.le_refl _) (.cells #[rv, mv] 100)
 ⟨h.below b1, h'.below b1, heap_alloc_new w _, b1, by simp⟩
end
section
open Go.RowKit
theorem LRow.drew {w : World} {base : Nat} {bv : Value} {ls : List (PLit × Value)} (h : LRow w base bv ls) : LRow w.drew base bv ls := ⟨h.row.drew, fun x hx => (h.each x hx).drew⟩
set_option maxRecDepth 100000 in
theorem unbound_any (w : World) (base : Nat) (ar : Option Addr) (cr : Nat) (rs : List PR) (am : Option Addr) (cm : Nat) (ms : List (PMen × Value)) (h : RRow w base (.slice ar rs.length cr) rs) (h' : MRow w base (.slice am ms.length cm) ms) (hl : ms.length ≤ 1000) (hn : ∀ x ∈ ms, x.1.num < rs.length ∧ x.1.ts.length ≤ 4) (hb3 : ∀ r ∈ rs, r.bs.length ≤ 1000) :
  Calls Tryz.prog 76 #[.agg #[.slice ar rs.length cr, .slice am ms.length cm]] w fun e w' => e = ziy (zct (rs.map (·.R)) (ms.map (·.1))) ∧ Below w.heap.size w w' := by
 have h0 := UnbInv.start h h'
 have hrx := zbt h.row
 unfold maxLen at hrx
 clear h h'
 go_enter Tryz.func76, Tryz.ntmps76
 go_wp2_with fail
 go_loopg [11] ms.length (fun gg i wr => ∃ k : Nat, k ≤ ms.length ∧ gg = ms.length - k ∧ i = .int .i64 k ∧ UnbInv w base (.slice ar rs.length cr) (.slice am ms.length cm) rs ms wr ∧ zct (rs.map (·.R)) (ms.map (·.1)) = zct (rs.map (·.R)) ((ms.map (·.1)).drop k))
 case atStart => exact ⟨0, Nat.zero_le _, rfl, rfl, h0, rfl⟩
 case round =>
  clear h0
  obtain ⟨k, hk, hgk, rfl, hinv, hfin⟩ := hrel
  have HF := hide hfin
  clear hfin
  by_cases hlk : k < ms.length
  ·have HF2 := hide ((zaa HF).trans (zmx hlk))
   obtain ⟨g, cap, hv, hbg, hgl, hnc, hcm, hc⟩ := zc7 zqm hinv.men.row k hlk
   injection hv with h1 h2 h3
   subst h1 h3
   obtain ⟨at1, ct1, hbt⟩ := zac (hinv.men.each _ (List.getElem_mem hlk))
   have q0 := hc 0 (by omega)
   have q1 := hc 1 (by omega)
   have q2 := hc 2 (by omega)
   have q3 := hc 3 (by omega)
   have q4 := hc 4 (by omega)
   have q5 := hc 5 (by omega)
   have q6 := hc 6 (by omega)
   have q7 := hc 7 (by omega)
   have q8 := hc 8 (by omega)
   have q9 := hc 9 (by omega)
   simp only [PMen.cells, hbt, Nat.add_zero, List.getElem?_cons_zero, List.getElem?_cons_succ] at q0 q1 q2 q3 q4 q5 q6 q7 q8 q9
   obtain ⟨hnum, hts⟩ := hn _ (List.getElem_mem hlk)
   obtain ⟨gr, capr, hvr, hbgr, hglr, hncr, hcmr, hcr⟩ := zc7 zo0 hinv.rules.row ms[k].1.num hnum
   injection hvr with h4 h5 h6
   subst h4 h6
   have hin := hinv.rules.each _ (List.getElem_mem hnum)
   obtain ⟨ah, ch, hbh⟩ := zac hin.hd
   obtain ⟨ab, cb, hbb⟩ := zac hin.bo.row
   have r0 := hcr 0 (by omega)
   have r1 := hcr 1 (by omega)
   have r2 := hcr 2 (by omega)
   simp only [PR.cells, hbh, hbb, Nat.add_zero, List.getElem?_cons_zero, List.getElem?_cons_succ] at r0 r1 r2
   obtain ⟨x0, xf0⟩ := zab hinv.box 0
   have bA := (Below.refl wr.heap.size wr).alloc (Nat.le_refl _) (.cells #[.int .i64 ms[k].1.num, .bool ms[k].1.neg, .string ms[k].1.pd, .slice at1 ms[k].1.ts.length ct1, .int .i64 ms[k].1.start, .int .i64 ms[k].1.place, .int .i64 (ms[k].1.pl 0), .int .i64 (ms[k].1.pl 1), .int .i64 (ms[k].1.pl 2), .int .i64 (ms[k].1.pl 3)] 221)
   have hI := hinv.next bA
   have hmn : (wr.alloc (.cells #[.int .i64 ms[k].1.num, .bool ms[k].1.neg, .string ms[k].1.pd, .slice at1 ms[k].1.ts.length ct1, .int .i64 ms[k].1.start, .int .i64 ms[k].1.place, .int .i64 (ms[k].1.pl 0), .int .i64 (ms[k].1.pl 1), .int .i64 (ms[k].1.pl 2), .int .i64 (ms[k].1.pl 3)] 221)).heap[wr.heap.size]? = _ := heap_alloc_new wr _
   have hbody : zi9 (rs.map (·.R)) ms[k].1.num = rs[ms[k].1.num].bs.map (·.1) := by
    unfold zi9
    rw [List.getElem?_map, List.getElem?_eq_getElem hnum]
    exact hin.eq.symm
   rw [hbody] at HF2
   have hTT := hI.men.each _ (List.getElem_mem hlk)
   rw [hbt] at hTT
   have hLL := (hI.rules.each _ (List.getElem_mem hnum)).bo
   rw [hbb] at hLL
   have HC := hide (fun (W : World) (hW : Below (wr.alloc (.cells #[.int .i64 ms[k].1.num, .bool ms[k].1.neg, .string ms[k].1.pd, .slice at1 ms[k].1.ts.length ct1, .int .i64 ms[k].1.start, .int .i64 ms[k].1.place, .int .i64 (ms[k].1.pl 0), .int .i64 (ms[k].1.pl 1), .int .i64 (ms[k].1.pl 2), .int .i64 (ms[k].1.pl 3)] 221)).heap.size (wr.alloc (.cells #[.int .i64 ms[k].1.num, .bool ms[k].1.neg, .string ms[k].1.pd, .slice at1 ms[k].1.ts.length ct1, .int .i64 ms[k].1.start, .int .i64 ms[k].1.place, .int .i64 (ms[k].1.pl 0), .int .i64 (ms[k].1.pl 1), .int .i64 (ms[k].1.pl 2), .int .i64 (ms[k].1.pl 3)] 221)) W) => (And.intro (hI.next hW) ((hW.block wr.heap.size (by simp)).trans hmn)))
   have hbl := hb3 _ (List.getElem_mem hnum)
   have HTT := hide hTT.drew
   have HLL := hide hLL.drew
   have hsz := hinv.sz
   clear hc hcr HF hinv hI hbt hin hbh hbb hbody hmn hTT hLL bA
   go_wp2_with fail
   go_upto_region 4 with fail
   go_cut [6, 7] (fun v6 v7 wc => v6 = .int .i64 ((zb6 (rs[ms[k].1.num].bs.map (·.1)) ms[k].1.ts 0).getD 0) ∧ v7 = .bool (zb6 (rs[ms[k].1.num].bs.map (·.1)) ms[k].1.ts 0).isSome ∧ UnbInv w base (.slice (some ⟨gr, 0, none⟩) rs.length cr) (.slice (some ⟨g, 0, none⟩) ms.length cm) rs ms wc ∧ wc.heap[wr.heap.size]? = some (.cells #[.int .i64 ms[k].1.num, .bool ms[k].1.neg, .string ms[k].1.pd, .slice at1 ms[k].1.ts.length ct1, .int .i64 ms[k].1.start, .int .i64 ms[k].1.place, .int .i64 (ms[k].1.pl 0), .int .i64 (ms[k].1.pl 1), .int .i64 (ms[k].1.pl 2), .int .i64 (ms[k].1.pl 3)] 221 (0, 0)))
   case first =>
    go_region_with (go_at_call 118; refine (zp5 _ base ms[k].1.pd rs[ms[k].1.num].R.pd at1 ct1 ms[k].1.ts ah rs[ms[k].1.num].R.ts.length ch ab cb rs[ms[k].1.num].bs (zaa HTT) (zaa HLL) hbl).mono ?_; rintro e w2 ⟨he, hb2⟩; unfold foundN at he; subst he)
    all_goals
     go_wp2_with fail
     go_meet
     case rel => exact ⟨rfl, rfl, (zaa HC w2 (Below.drewR' hb2)).1, (zaa HC w2 (Below.drewR' hb2)).2⟩
   case rest =>
    obtain ⟨rfl, rfl, hI2, hmn2⟩ := hcut
    have HI2 := hide hI2
    have hsz2 := hI2.sz
    clear hI2 q0 q1 q2 q3 q4 q5 q6 q7 q8 q9 r0 r1 r2 x0 xf0 HC HTT HLL
    cases hx : zb6 (rs[ms[k].1.num].bs.map (·.1)) ms[k].1.ts 0 with
    | none =>
     rw [hx] at HF2
     clear hx
     have HF3 := hide (zaa HF2)
     clear HF2
     go_wp2_with fail
     go_roundg (ms.length - (k + 1))
     case measure => omega
     case rel => exact ⟨k + 1, by omega, rfl, by go_num, zaa HI2, zaa HF3⟩
    | some i =>
     have hi4 : i < 4 := by have := loose_lt hx; omega
     rw [hx] at HF2
     clear hx
     have hii : i = 0 ∨ i = 1 ∨ i = 2 ∨ i = 3 := by omega
     have y6 := (zab hmn2 6).1
     have y7 := (zab hmn2 7).1
     have y8 := (zab hmn2 8).1
     have y9 := (zab hmn2 9).1
     have hF : zct (rs.map (·.R)) (ms.map (·.1)) = (ms[k].1.pl i : Int) := zaa HF2
     have HF3 := hide hF
     clear HF2 hF hmn2
     rcases hii with rfl | rfl | rfl | rfl
     all_goals
      go_wp2_with fail
      go_ret2
      refine ⟨?_, (zaa HI2).below⟩
      rw [zaa HF3]
      unfold ziy
      rw [if_pos (by omega)]
      simp
  ·have HF2 := hide (show zct (rs.map (·.R)) (ms.map (·.1)) = -1 by rw [zaa HF, List.drop_of_length_le (by simp; omega)]; rfl)
   have HI := hide hinv
   clear HF hinv
   go_wp2_with fail
   go_ret2
   exact ⟨by rw [zaa HF2]; rfl, (zaa HI).below⟩
end
end Go.Proofs.YtldkpahaocjdpaaGreat
