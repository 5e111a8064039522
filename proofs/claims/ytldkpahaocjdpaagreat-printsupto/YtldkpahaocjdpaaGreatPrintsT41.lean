/-
  The program's writing of literals, rules, and of all of them; Print.
-/
import Derived.Test.YtldkpahaocjdpaaGreatPrintsT40
import Derived.Test.YtldkpahaocjdpaaGreatPrintsT34
namespace Go.Proofs.YtldkpahaocjdpaaGreat
open Go.RowKit

theorem KeepT.lits {w w' : World} {base : Nat} {bv : Value} {ls : List (PLit × Value)} (k : KeepT w w') (h : LRow w base bv ls) : LRow w' base bv ls :=
  ⟨k.own h.row (by decide) (by decide), fun x hx => k.own (h.each x hx) (by decide) (by decide)⟩
theorem KeepT.rules {w w' : World} {base : Nat} {rv : Value} {rs : List PR} (k : KeepT w w') (h : RRow w base rv rs) : RRow w' base rv rs :=
  ⟨k.own h.row (by decide) (by decide), fun r hr => ⟨k.own (h.each r hr).hd (by decide) (by decide), k.lits (h.each r hr).bo, (h.each r hr).eq⟩⟩

set_option maxHeartbeats 4000000 in
set_option maxRecDepth 100000 in
theorem wlit_any (B b : Nat) (l : List UInt8) (L : PLit) (a : Option Addr) (c base : Nat) (w : World) (h : Holds B b l w) (hown : w.ownsRow base 191 1 (.slice a L.ts.length c) L.ts.length (ptCells L.ts)) (hlen : l.length + (litT L).length ≤ 1000000000) (hBw : B ≤ w.heap.size) :
    Calls Tryz.prog 112 #[.pointer (some ⟨b, 0, none⟩), .agg #[.bool L.neg, .string L.pd, .slice a L.ts.length c]] w (Wrote B b w (l ++ litT L)) := by
  have hbx : (w.alloc (.cells #[.bool L.neg, .string L.pd, .slice a L.ts.length c] 183)).heap[w.heap.size]? = _ := heap_alloc_new w _
  have bA := (Below.refl w.heap.size w).alloc (Nat.le_refl _) (.cells #[.bool L.neg, .string L.pd, .slice a L.ts.length c] 183)
  have kA := (KeepT.refl w).alloc (.cells #[.bool L.neg, .string L.pd, .slice a L.ts.length c] 183)
  have hl' : (litT L).length = (if L.neg then ([110, 111, 116, 32] : List UInt8) else []).length + (atomT L.pd L.ts).length := by simp only [litT, List.length_append]
  cases hn : L.neg with
  | true =>
    rw [hn] at hl' hbx bA kA
    simp only [if_true, List.length_cons, List.length_nil] at hl'
    have HT := hide (show l ++ litT L = l ++ [110, 111, 116, 32] ++ atomT L.pd L.ts by simp [litT, hn])
    clear hn
    go_enter Tryz.func112, Tryz.ntmps112
    go_wp2_with fail
    refine (wstr_any B b l { data := #[110, 111, 116, 32] } _ (h.alloc _) (by simp [ByteArray.size]; omega) (by simp; omega)).mono ?_
    rintro e w1 ⟨rfl, h1, hb1, hk1⟩
    have hB1 := (bA.mono hBw).trans hb1
    have hK1 := kA.trans hk1
    have hbx1 := hk1 _ _ _ _ hbx (by decide) (by decide)
    have hown1 := hK1.own hown (by decide) (by decide)
    have hz1 := hb1.size
    rw [World.size_alloc] at hz1
    obtain ⟨x1, xf1⟩ := block_cells hbx1 1
    obtain ⟨x2, xf2⟩ := block_cells hbx1 2
    clear hbx hb1 hk1 bA kA hown h hbx1
    go_wp2_with fail
    refine (watom_any B b _ L.pd a c base L.ts _ h1 hown1 (by simp; omega) (by omega)).mono ?_
    rintro e w2 ⟨rfl, h2, hb2, hk2, hz2⟩
    have HR := hide (And.intro h2 (And.intro (hB1.trans hb2) (hK1.trans hk2)))
    clear h1 hB1 hK1 hown1 x1 x2 xf1 xf2 h2 hb2 hk2
    go_wp2_with fail
    go_end0
    exact ⟨rfl, by rw [unhide HT]; exact (unhide HR).1, (unhide HR).2.1, (unhide HR).2.2, hz2⟩
  | false =>
    rw [hn] at hl' hbx bA kA
    simp only [Bool.false_eq_true, if_false, List.length_nil] at hl'
    have HT := hide (show l ++ litT L = l ++ atomT L.pd L.ts by simp [litT, hn])
    have hown1 := kA.own hown (by decide) (by decide)
    clear hn hown
    go_enter Tryz.func112, Tryz.ntmps112
    go_wp2_with fail
    refine (watom_any B b _ L.pd a c base L.ts _ (h.alloc _) hown1 (by omega) (by simp; omega)).mono ?_
    rintro e w2 ⟨rfl, h2, hb2, hk2, hz2⟩
    have HR := hide (And.intro h2 (And.intro ((bA.mono hBw).trans hb2) (kA.trans hk2)))
    clear hown1 h2 hb2 hk2 bA kA hbx
    go_wp2_with fail
    go_end0
    exact ⟨rfl, by rw [unhide HT]; exact (unhide HR).1, (unhide HR).2.1, (unhide HR).2.2, hz2⟩

set_option maxHeartbeats 8000000 in
set_option maxRecDepth 100000 in
theorem wrule_any (B b : Nat) (l : List UInt8) (pd : ByteArray) (ts : List (Bool × ByteArray)) (a : Option Addr) (c : Nat) (a' : Option Addr) (c' base : Nat) (ls : List (PLit × Value)) (w : World) (h : Holds B b l w) (hown : w.ownsRow base 191 1 (.slice a ts.length c) ts.length (ptCells ts)) (hL : LRow w base (.slice a' ls.length c') ls) (hlen : l.length + (ruleT ⟨pd, ts, ls.map (·.1)⟩).length ≤ 1000000000) (hBw : B ≤ w.heap.size) :
    Calls Tryz.prog 71 #[.pointer (some ⟨b, 0, none⟩), .agg #[.string pd, .slice a ts.length c, .slice a' ls.length c']] w (Wrote B b w (l ++ ruleT ⟨pd, ts, ls.map (·.1)⟩)) := by
  have hlm := own_max hL.row
  unfold maxLen at hlm
  have hbx : (w.alloc (.cells #[.string pd, .slice a ts.length c, .slice a' ls.length c'] 123)).heap[w.heap.size]? = _ := heap_alloc_new w _
  have bA := (Below.refl w.heap.size w).alloc (Nat.le_refl _) (.cells #[.string pd, .slice a ts.length c, .slice a' ls.length c'] 123)
  have kA := (KeepT.refl w).alloc (.cells #[.string pd, .slice a ts.length c, .slice a' ls.length c'] 123)
  have hlt : (ruleT ⟨pd, ts, ls.map (·.1)⟩).length = (atomT pd ts).length + ((litsT (ls.map (·.1)) 0).length + 2) := by simp [ruleT]
  have HE := hide (show l ++ ruleT ⟨pd, ts, ls.map (·.1)⟩ = l ++ atomT pd ts ++ litsT (ls.map (·.1)) 0 ++ [46, 10] by simp [ruleT])
  have hown1 := kA.own hown (by decide) (by decide)
  have HL := hide hL
  clear hown hL
  go_enter Tryz.func71, Tryz.ntmps71
  go_wp2_with fail
  refine (watom_any B b l pd a c base ts _ (h.alloc _) hown1 (by omega) (by simp; omega)).mono ?_
  rintro e w1 ⟨rfl, h1, hb1, hk1, hz1⟩
  have hB1 := (bA.mono hBw).trans hb1
  have hK1 := kA.trans hk1
  have hbx1 := hk1 _ _ _ _ hbx (by decide) (by decide)
  have hz1' := hb1.size
  rw [World.size_alloc] at hz1'
  obtain ⟨x2, xf2⟩ := block_cells hbx1 2
  clear hbx hb1 hk1 bA kA hown1 h
  go_wp2_with fail
  go_loopg [13] ls.length (fun gg i wr => ∃ (k : Nat) (m : List UInt8), k ≤ ls.length ∧ gg = ls.length - k ∧ i = .int .i64 k ∧ Holds B b m wr ∧ Below B w wr ∧ KeepT w wr ∧ w.heap.size < wr.heap.size ∧ m ++ litsT ((ls.map (·.1)).drop k) k = l ++ atomT pd ts ++ litsT (ls.map (·.1)) 0)
  case atStart => exact ⟨0, _, Nat.zero_le _, rfl, rfl, h1, hB1, hK1, by omega, rfl⟩
  case round =>
    clear h1 hB1 hK1 hbx1 x2 xf2
    obtain ⟨k, m, hk, hgk, rfl, h1, hB1, hK1, hsz, hm⟩ := hrel
    have hml := congrArg List.length hm
    simp only [List.length_append] at hml
    by_cases hlk : k < ls.length
    · have hstep := litsT_step hlk
      have HM := hide (hstep ▸ hm)
      rw [hstep] at hml
      simp only [List.length_append] at hml
      clear hm hstep
      have hLw := hK1.lits (unhide HL)
      obtain ⟨g, cap, hv, hbg, hgl, hnc, hcm, hc⟩ := row_at pl_len hLw.row k hlk
      injection hv with i1 i2 i3
      subst i1 i3
      obtain ⟨at1, ct1, hbt⟩ := own_slice (hLw.each _ (List.getElem_mem hlk))
      have q0 := hc 0 (by omega)
      have q1 := hc 1 (by omega)
      have q2 := hc 2 (by omega)
      simp only [PLit.cells, hbt, Nat.add_zero, List.getElem?_cons_zero, List.getElem?_cons_succ] at q0 q1 q2
      have hTT := (unhide HL).each _ (List.getElem_mem hlk)
      rw [hbt] at hTT
      have HTT := hide hTT
      have hbx : (wr.alloc (.cells #[.bool ls[k].1.neg, .string ls[k].1.pd, .slice at1 ls[k].1.ts.length ct1] 183)).heap[wr.heap.size]? = _ := heap_alloc_new wr _
      have hA1 := h1.alloc (.cells #[.bool ls[k].1.neg, .string ls[k].1.pd, .slice at1 ls[k].1.ts.length ct1] 183)
      have hAB := hB1.alloc (by omega) (.cells #[.bool ls[k].1.neg, .string ls[k].1.pd, .slice at1 ls[k].1.ts.length ct1] 183)
      have hAK := hK1.alloc (.cells #[.bool ls[k].1.neg, .string ls[k].1.pd, .slice at1 ls[k].1.ts.length ct1] 183)
      clear hc hbt hTT hLw h1 hB1 hK1
      cases k with
      | zero =>
        simp only [if_true, List.length_cons, List.length_nil] at hml
        go_wp2_with fail
        refine (wstr_any B b m { data := #[32, 58, 45, 32] } _ hA1 (by simp [ByteArray.size]; omega) (by simp; omega)).mono ?_
        rintro e w2 ⟨rfl, h2, hb2, hk2⟩
        have hbx2 := hk2 _ _ _ _ hbx (by decide) (by decide)
        have hB2 := hAB.trans hb2
        have hK2 := hAK.trans hk2
        have hz2 := hb2.size
        rw [World.size_alloc] at hz2
        obtain ⟨y0, yf0⟩ := block_cells hbx2 0
        obtain ⟨y1, yf1⟩ := block_cells hbx2 1
        obtain ⟨y2, yf2⟩ := block_cells hbx2 2
        clear hbx hb2 hk2 hA1 hAB hAK q0 q1 q2 hbx2
        go_wp2_with fail
        refine (wlit_any B b _ ls[0].1 at1 ct1 base _ h2 (hK2.own (unhide HTT) (by decide) (by decide)) (by simp; omega) (by omega)).mono ?_
        rintro e w3 ⟨rfl, h3, hb3, hk3, hz3⟩
        have hz3' := hb3.size
        have HR := hide (And.intro h3 (And.intro (hB2.trans hb3) (hK2.trans hk3)))
        clear h2 h3 hb3 hk3 hB2 hK2 y0 y1 y2 yf0 yf1 yf2
        go_wp2_with fail
        go_roundg (ls.length - (0 + 1))
        case measure => omega
        case rel => exact ⟨0 + 1, _, by omega, rfl, by go_num, (unhide HR).1, (unhide HR).2.1, (unhide HR).2.2, by omega, by have := unhide HM; simpa using this⟩
      | succ k =>
        have hk0 : (((k + 1 : Nat) : Int) == 0) = false := by simp; omega
        simp only [Nat.add_eq_zero_iff, Nat.succ_ne_self, and_false, if_false, List.length_cons, List.length_nil] at hml
        go_wp2_with fail
        refine (wstr_any B b m { data := #[44, 32] } _ hA1 (by simp [ByteArray.size]; omega) (by simp; omega)).mono ?_
        rintro e w2 ⟨rfl, h2, hb2, hk2⟩
        have hbx2 := hk2 _ _ _ _ hbx (by decide) (by decide)
        have hB2 := hAB.trans hb2
        have hK2 := hAK.trans hk2
        have hz2 := hb2.size
        rw [World.size_alloc] at hz2
        obtain ⟨y0, yf0⟩ := block_cells hbx2 0
        obtain ⟨y1, yf1⟩ := block_cells hbx2 1
        obtain ⟨y2, yf2⟩ := block_cells hbx2 2
        clear hbx hb2 hk2 hA1 hAB hAK q0 q1 q2 hbx2
        go_wp2_with fail
        refine (wlit_any B b _ ls[k + 1].1 at1 ct1 base _ h2 (hK2.own (unhide HTT) (by decide) (by decide)) (by simp; omega) (by omega)).mono ?_
        rintro e w3 ⟨rfl, h3, hb3, hk3, hz3⟩
        have hz3' := hb3.size
        have HR := hide (And.intro h3 (And.intro (hB2.trans hb3) (hK2.trans hk3)))
        clear h2 h3 hb3 hk3 hB2 hK2 y0 y1 y2 yf0 yf1 yf2
        go_wp2_with fail
        go_roundg (ls.length - (k + 1 + 1))
        case measure => omega
        case rel => exact ⟨k + 1 + 1, _, by omega, rfl, by go_num, (unhide HR).1, (unhide HR).2.1, (unhide HR).2.2, by omega, by have := unhide HM; simpa using this⟩
    · have hd : (ls.map (·.1)).drop k = [] := List.drop_of_length_le (by simp; omega)
      rw [hd] at hm hml
      simp only [litsT, List.append_nil, List.length_nil] at hm hml
      have HM := hide hm
      clear hm hd
      go_wp2_with fail
      refine (wstr_any B b m { data := #[46, 10] } _ h1 (by simp [ByteArray.size]; omega) (by omega)).mono ?_
      rintro e w2 ⟨rfl, h2, hb2, hk2⟩
      have hz2 := hb2.size
      have HR := hide (And.intro h2 (And.intro (hB1.trans hb2) (hK1.trans hk2)))
      clear h1 hB1 hK1 h2 hb2 hk2
      go_wp2_with fail
      go_end0
      refine ⟨rfl, ?_, (unhide HR).2.1, (unhide HR).2.2, by omega⟩
      rw [unhide HE, ← unhide HM]
      exact (unhide HR).1

theorem pr_eta {r : PR} {base : Nat} {w : World} (h : PRIn w base r) : r.R = ⟨r.R.pd, r.R.ts, r.bs.map (·.1)⟩ := by rw [h.eq]

set_option maxHeartbeats 8000000 in
set_option maxRecDepth 100000 in
theorem write_any (w : World) (base : Nat) (ar : Option Addr) (cr : Nat) (rs : List PR) (h : RRow w base (.slice ar rs.length cr) rs) (hlen : (printT (rs.map (·.R))).length ≤ 1000000000) :
    Calls Tryz.prog 44 #[.slice ar rs.length cr] w fun e w' => e = .returned (.string ⟨(printT (rs.map (·.R))).toArray⟩) ∧ Below w.heap.size w w' := by
  have hrm := own_max h.row
  unfold maxLen at hrm
  have h0 : Holds w.heap.size w.heap.size [] (w.alloc (.cells #[.pointer none, .slice none 0 0] 155)) := Lib.fresh_isBuilder 155 5 w
  have b0 := (Below.refl w.heap.size w).alloc (Nat.le_refl _) (.cells #[.pointer none, .slice none 0 0] 155)
  have k0 := (KeepT.refl w).alloc (.cells #[.pointer none, .slice none 0 0] 155)
  have HRR := hide h
  clear h
  go_enter Tryz.func44, Tryz.ntmps44
  go_wp2_with fail
  go_loopg [8] rs.length (fun gg i wr => ∃ (k : Nat) (m : List UInt8), k ≤ rs.length ∧ gg = rs.length - k ∧ i = .int .i64 k ∧ Holds w.heap.size w.heap.size m wr ∧ Below w.heap.size w wr ∧ KeepT w wr ∧ w.heap.size < wr.heap.size ∧ m ++ printT ((rs.map (·.R)).drop k) = printT (rs.map (·.R)))
  case atStart => exact ⟨0, [], Nat.zero_le _, rfl, rfl, h0, b0, k0, by simp, rfl⟩
  case round =>
    clear h0 b0 k0
    obtain ⟨k, m, hk, hgk, rfl, h1, hB1, hK1, hsz, hm⟩ := hrel
    have hml := congrArg List.length hm
    simp only [List.length_append] at hml
    by_cases hlk : k < rs.length
    · have hstep : printT ((rs.map (·.R)).drop k) = ruleT rs[k].R ++ printT ((rs.map (·.R)).drop (k + 1)) := by
        rw [List.drop_eq_getElem_cons (by simpa using hlk)]; simp [printT]
      rw [hstep] at hm hml
      simp only [List.length_append] at hml
      have HM := hide hm
      clear hm hstep
      have hRw := hK1.rules (unhide HRR)
      obtain ⟨gr, capr, hvr, hbgr, hglr, hncr, hcmr, hcr⟩ := row_at pr_len hRw.row k hlk
      injection hvr with h4 h5 h6
      subst h4 h6
      have hin := (unhide HRR).each _ (List.getElem_mem hlk)
      obtain ⟨ah, ch, hbh⟩ := own_slice hin.hd
      obtain ⟨ab, cb, hbb⟩ := own_slice hin.bo.row
      have r0 := hcr 0 (by omega)
      have r1 := hcr 1 (by omega)
      have r2 := hcr 2 (by omega)
      simp only [PR.cells, hbh, hbb, Nat.add_zero, List.getElem?_cons_zero, List.getElem?_cons_succ] at r0 r1 r2
      have hhd := hin.hd
      rw [hbh] at hhd
      have hbo := hin.bo
      rw [hbb] at hbo
      have HETA := hide (pr_eta hin)
      have hA1 := h1.alloc (.cells #[.string rs[k].R.pd, .slice ah rs[k].R.ts.length ch, .slice ab rs[k].bs.length cb] 123)
      have hAB := hB1.alloc (by omega) (.cells #[.string rs[k].R.pd, .slice ah rs[k].R.ts.length ch, .slice ab rs[k].bs.length cb] 123)
      have hAK := hK1.alloc (.cells #[.string rs[k].R.pd, .slice ah rs[k].R.ts.length ch, .slice ab rs[k].bs.length cb] 123)
      have hhd1 := hAK.own hhd (by decide) (by decide)
      have hbo1 := hAK.lits hbo
      have hlr : (ruleT ⟨rs[k].R.pd, rs[k].R.ts, rs[k].bs.map (·.1)⟩).length = (ruleT rs[k].R).length := by rw [← unhide HETA]
      clear hcr hin hbh hbb hhd hbo hRw h1 hB1 hK1
      go_wp2_with fail
      refine (wrule_any w.heap.size w.heap.size m rs[k].R.pd rs[k].R.ts ah ch ab cb base rs[k].bs _ hA1 hhd1 hbo1 (by omega) (by simp; omega)).mono ?_
      rintro e w2 ⟨rfl, h2, hb2, hk2, hz2⟩
      have hz2' := hb2.size
      rw [World.size_alloc] at hz2'
      rw [← unhide HETA] at h2
      have HR := hide (And.intro h2 (And.intro (hAB.trans hb2) (hAK.trans hk2)))
      clear hA1 hhd1 hbo1 hAB hAK h2 hb2 hk2 r0 r1 r2
      go_wp2_with fail
      go_roundg (rs.length - (k + 1))
      case measure => omega
      case rel => exact ⟨k + 1, _, by omega, rfl, by go_num, (unhide HR).1, (unhide HR).2.1, (unhide HR).2.2, by omega, by have := unhide HM; simpa using this⟩
    · have hd : (rs.map (·.R)).drop k = [] := List.drop_of_length_le (by simp; omega)
      rw [hd] at hm
      simp only [printT, List.flatMap_nil, List.append_nil] at hm
      have HM := hide hm
      clear hm hd
      go_wp2_with fail
      refine (Tryz.Builder_String_any w.heap.size w.heap.size m _ h1 (by omega)).mono ?_
      rintro e w2 ⟨rfl, hb2⟩
      have HB := hide (hB1.trans hb2)
      clear h1 hB1 hK1 hb2
      go_wp2_with fail
      go_ret
      exact ⟨by rw [unhide HM]; rfl, unhide HB⟩
end Go.Proofs.YtldkpahaocjdpaaGreat
