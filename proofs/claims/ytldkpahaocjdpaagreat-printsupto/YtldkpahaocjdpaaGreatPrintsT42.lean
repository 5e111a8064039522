/-
  The program's list, Print and Strata.
  The reference's text of an atom, and its Print: the very bytes that the program writes.
  The reference's Print.
-/
import Derived.Test.YtldkpahaocjdpaaGreatPrintsT40
import Derived.Test.YtldkpahaocjdpaaGreatPrintsT41
import Derived.Test.YtldkpahaocjdpaaGreatPrintsT27
import Derived.Test.YtldkpahaocjdpaaGreatPrintsT21
import Derived.Laws.Concat
namespace Go.Proofs.YtldkpahaocjdpaaGreat
open Go.RowKit Go.Maps

set_option maxRecDepth 100000 in
set_option maxHeartbeats 2000000 in
theorem plist_any (w : World) (b : Nat) (v : Value) (a : Option Addr) (n c : Nat) (hv : v = .slice a n c) (hb : w.cell? ⟨b, 0, none⟩ = some v) :
    Calls Tryz.prog 36 #[.pointer (some ⟨b, 0, none⟩)] w fun e w' => e = .returned (.slice a n c) ∧ w' = w := by
  subst hv
  go_enter Tryz.func36, Tryz.ntmps36
  go_wp2_with fail
  go_ret
  exact ⟨rfl, rfl⟩

set_option maxRecDepth 100000 in
set_option maxHeartbeats 2000000 in
theorem pprint_any (w : World) (base b : Nat) (rs : List PR) (h : ProgIn w base b rs) (hlen : (printT (rs.map (·.R))).length ≤ 1000000000) :
    Calls Tryz.prog 28 #[.pointer (some ⟨b, 0, none⟩)] w fun e w' => e = .returned (.string ⟨(printT (rs.map (·.R))).toArray⟩) ∧ Below w.heap.size w w' := by
  obtain ⟨a, c, hb, _, hr⟩ := h
  obtain ⟨x0, _⟩ := block_cells hb 0
  go_enter Tryz.func28, Tryz.ntmps28
  go_wp2_with fail
  refine (plist_any w b _ a rs.length c rfl x0).mono ?_
  rintro e w1 ⟨rfl, rfl⟩
  go_wp2_with fail
  refine (write_any _ base a c rs hr hlen).mono ?_
  rintro e w1 ⟨rfl, hb1⟩
  go_wp2_with fail
  go_ret
  exact ⟨rfl, hb1⟩

set_option maxRecDepth 100000 in
set_option maxHeartbeats 2000000 in
theorem pstrata_any (w : World) (base b : Nat) (rs : List PR) (ps : List (ByteArray × Nat)) (h : ProgIn w base b rs) (hrl : rs.length ≤ 30) (hb3 : ∀ r ∈ rs, r.bs.length ≤ 3) (hpd : ∀ r ∈ rs, r.R.pd.size ≤ 800) (hlp : ∀ r ∈ rs, ∀ x ∈ r.bs, x.1.pd.size ≤ 800) (hag : AgreeL ((rs.map (·.R)).flatMap patoms) []) (hps : meetL ((rs.map (·.R)).flatMap patoms) [] = ps) (hpl : ps.length ≤ 1000) (hin : ∀ r ∈ rs, (∃ n, numOf ps r.R.pd = some n) ∧ ∀ x ∈ r.bs, ∃ n, numOf ps x.1.pd = some n) (f0 : ByteArray → Nat) (hf0 : ValidN (rs.map (·.R)) f0) (hfb : ∀ k, f0 k ≤ 1000) :
    Calls Tryz.prog 84 #[.pointer (some ⟨b, 0, none⟩)] w fun e w' => ∃ (S : ByteArray → Nat) (v : Value) (ys : List ByteArray), e = .returned v ∧ ValidN (rs.map (·.R)) S ∧ LowN (rs.map (·.R)) S ∧ w'.ownsRow w.heap.size 185 3 v ys.length (ys.flatMap (stE ps S)) ∧ ys.Pairwise (fun x y => lessB x y = true) ∧ (∀ k, k ∈ ys ↔ (numOf ps k).isSome = true) ∧ Below w.heap.size w w' := by
  obtain ⟨a, c, hb, _, hr⟩ := h
  obtain ⟨x0, _⟩ := block_cells hb 0
  go_enter Tryz.func84, Tryz.ntmps84
  go_wp2_with fail
  refine (plist_any w b _ a rs.length c rfl x0).mono ?_
  rintro e w1 ⟨rfl, rfl⟩
  go_wp2_with fail
  refine (of_any _ base a c rs ps hr hrl hb3 hpd hlp hag hps hpl hin f0 hf0 hfb).mono ?_
  rintro e w2 ⟨rfl, hz2, hb2, S, n, hm, hn, hval, hlow⟩
  go_wp2_with fail
  refine (list_any w2 _ n ps S hm hn).mono ?_
  rintro e w3 ⟨v, ys, rfl, hown, hpw, hmem, hb3'⟩
  obtain ⟨av, cv, rfl⟩ := own_slice hown
  have HP := hide (And.intro (ownsRow_low hown (show w1.heap.size ≤ w2.heap.size + 1 by omega)) (And.intro hpw (And.intro hmem (hb2.trans (hb3'.mono (Nat.le_of_lt hz2))))))
  clear hown hpw hmem hb3' hb2
  go_wp2_with fail
  go_ret
  exact ⟨S, _, ys, rfl, hval, hlow, unhide HP⟩
end Go.Proofs.YtldkpahaocjdpaaGreat

namespace Go.Proofs.YtldkpahaocjdpaaGreat
open Go.RowKit

theorem cat_run (a b : ByteArray) (h : a.size + b.size ≤ 2000000000) (w : World) : (Op.stringOp .add a b).run Tryz.prog w = .ok (.string (a ++ b)) w := run_string_add_sum w a b (by omega)
theorem lit1 (c : UInt8) : (ByteArray.mk #[c]).size = 1 := rfl
theorem lit2 (c d : UInt8) : (ByteArray.mk #[c, d]).size = 2 := rfl
theorem lit4 (c d e f : UInt8) : (ByteArray.mk #[c, d, e, f]).size = 4 := rfl
theorem cat_list (a b : ByteArray) : (a ++ b).data.toList = a.data.toList ++ b.data.toList := by simp
theorem cat_size (a b : ByteArray) : (a ++ b).size = a.size + b.size := by simp [ByteArray.size_append]

/-- The bytes of an atom's text, in the reference's words. -/
def ratomT (A : RAtom) : List UInt8 := atomT A.pred (A.terms.map tmOf)

theorem rtermsT_step {l : List RTerm} {k : Nat} (h : k < l.length) : termsT ((l.map tmOf).drop k) k = (if k = 0 then 40 else 44) :: (l[k].text.data.toList ++ termsT ((l.map tmOf).drop (k + 1)) (k + 1)) := by
  rw [List.drop_eq_getElem_cons (by simpa using h), termsT]; simp [tmOf]

set_option maxRecDepth 100000 in
set_option maxHeartbeats 8000000 in
theorem rtext_any (w : World) (base : Nat) (A : RAtom) (a : Option Addr) (c : Nat) (h : w.ownsRow base 317 3 (.slice a A.terms.length c) A.terms.length (cellsOf A.terms)) (hlen : (ratomT A).length ≤ 1000000000) :
    Calls Tryz.prog 134 #[.agg #[.string A.pred, .slice a A.terms.length c, .bool A.no, .int .i64 A.at_, .int .i64 A.noAt]] w fun e w' => ∃ s : ByteArray, e = .returned (.string s) ∧ s.data.toList = ratomT A ∧ Below w.heap.size w w' := by
  have htm := own_max h
  unfold maxLen at htm
  have hpl := size_list A.pred
  have bA := (Below.refl w.heap.size w).alloc (Nat.le_refl _) (.cells #[.string A.pred, .slice a A.terms.length c, .bool A.no, .int .i64 A.at_, .int .i64 A.noAt] 243)
  have h0 := own_below h bA (fun g e => (h.lt g e).2)
  have e0 : (ratomT A).length = A.pred.size + ((termsT (A.terms.map tmOf) 0).length + (if A.terms.length = 0 then ([] : List UInt8) else [41]).length) := by simp [ratomT, atomT, hpl]
  have HE := hide (show ratomT A = A.pred.data.toList ++ (termsT (A.terms.map tmOf) 0 ++ if A.terms.length = 0 then [] else [41]) by simp [ratomT, atomT])
  clear h
  go_enter Tryz.func134, Tryz.ntmps134
  go_wp2_with fail
  go_loop [3, 4] (fun v i => ∃ (k : Nat) (s : ByteArray), k ≤ A.terms.length ∧ v = .string s ∧ i = .int .i64 k ∧ s.data.toList ++ termsT ((A.terms.map tmOf).drop k) k = A.pred.data.toList ++ termsT (A.terms.map tmOf) 0) (fun _ i => A.terms.length - (intOf i).toNat)
  case atStart => exact ⟨0, A.pred, Nat.zero_le _, rfl, rfl, rfl⟩
  case round =>
    obtain ⟨k, s, hk, rfl, rfl, hm⟩ := hrel
    have hml := congrArg List.length hm
    simp only [List.length_append, hpl, size_list] at hml
    by_cases hlk : k < A.terms.length
    · have hstep := rtermsT_step hlk
      rw [hstep] at hm hml
      simp only [List.length_cons, List.length_append, size_list] at hml
      have HM := hide hm
      clear hm hstep
      obtain ⟨g, cap, hv, hbg, hgl, hnc, hcm, q0, q1, q2⟩ := term_cells h0 k hlk
      injection hv with i1 i2 i3
      subst i1 i3
      cases k with
      | zero =>
        have c1 := cat_run s { data := #[40] } (by rw [lit1]; omega)
        have c2 := cat_run (s ++ { data := #[40] }) A.terms[0].text (by rw [cat_size, lit1]; omega)
        go_wp2_with fail
        go_round
        case rel => exact ⟨0 + 1, _, by omega, rfl, by go_num, by rw [cat_list, cat_list]; have := unhide HM; simpa using this⟩
        case measure => simp [intOf]; omega
      | succ k =>
        have hk0 : (((k + 1 : Nat) : Int) == 0) = false := by simp; omega
        have c1 := cat_run s { data := #[44] } (by rw [lit1]; omega)
        have c2 := cat_run (s ++ { data := #[44] }) A.terms[k + 1].text (by rw [cat_size, lit1]; omega)
        go_wp2_with fail
        go_round
        case rel => exact ⟨k + 1 + 1, _, by omega, rfl, by go_num, by rw [cat_list, cat_list]; have := unhide HM; simpa using this⟩
        case measure => simp [intOf]; omega
    · have hd : (A.terms.map tmOf).drop k = [] := List.drop_of_length_le (by simp; omega)
      rw [hd] at hm hml
      simp only [termsT, List.append_nil, List.length_nil] at hm hml
      have HM := hide hm
      clear hm hd
      by_cases hn : A.terms.length = 0
      · have hn0 : ¬ (0 < (A.terms.length : Int)) := by omega
        have HE2 := hide (show ratomT A = A.pred.data.toList ++ termsT (A.terms.map tmOf) 0 by rw [unhide HE, if_pos hn]; simp)
        clear HE hn
        go_wp2_with fail
        go_ret
        exact ⟨s, rfl, by rw [unhide HM, unhide HE2], bA⟩
      · have hn0 : 0 < (A.terms.length : Int) := by omega
        have HE2 := hide (show ratomT A = A.pred.data.toList ++ termsT (A.terms.map tmOf) 0 ++ [41] by rw [unhide HE, if_neg hn]; simp)
        rw [if_neg hn, show ([41] : List UInt8).length = 1 from rfl] at e0
        have c1 := cat_run s { data := #[41] } (by rw [lit1]; omega)
        clear HE hn
        go_wp2_with fail
        go_ret
        exact ⟨_, rfl, by rw [cat_list, unhide HM, unhide HE2], bA⟩

theorem rtext_any' (w : World) (base : Nat) (A : RAtom) (a : Option Addr) (c : Nat) (no : Bool) (x y : Nat) (h : w.ownsRow base 317 3 (.slice a A.terms.length c) A.terms.length (cellsOf A.terms)) (hlen : (ratomT A).length ≤ 1000000000) :
    Calls Tryz.prog 134 #[.agg #[.string A.pred, .slice a A.terms.length c, .bool no, .int .i64 x, .int .i64 y]] w fun e w' => ∃ s : ByteArray, e = .returned (.string s) ∧ s.data.toList = ratomT A ∧ Below w.heap.size w w' :=
  rtext_any w base ⟨A.pred, A.terms, no, x, y⟩ a c h hlen
end Go.Proofs.YtldkpahaocjdpaaGreat

namespace Go.Proofs.YtldkpahaocjdpaaGreat
open Go.RowKit

def rprintT (rs : List RRule) : List UInt8 := printT (rs.map pruleOf)

theorem rlitsT_step {bs : List (RAtom × Value)} {k : Nat} (h : k < bs.length) : litsT (((bs.map (·.1)).map litOf).drop k) k = (if k = 0 then [32, 58, 45, 32] else [44, 32]) ++ ((if bs[k].1.no then [110, 111, 116, 32] else []) ++ (ratomT bs[k].1 ++ litsT (((bs.map (·.1)).map litOf).drop (k + 1)) (k + 1))) := by
  rw [List.drop_eq_getElem_cons (by simpa using h), litsT]; simp [litT, litOf, ratomT]

theorem RuleIn.below {w w' : World} {base : Nat} {R : RRule} {hv : Value} {bs : List (RAtom × Value)} {bv : Value} (h : RuleIn w base R hv bs bv) (hb : Below w.heap.size w w') : RuleIn w' base R hv bs bv :=
  ⟨own_below h.hd hb (fun g e => (h.hd.lt g e).2), own_below h.bo hb (fun g e => (h.bo.lt g e).2), fun x hx => own_below (h.bl x hx) hb (fun g e => ((h.bl x hx).lt g e).2), h.eq⟩

theorem PMem2.below {w w' : World} {o : Nat} {rs : List RR} {ps qs : List (ByteArray × Nat)} {rv pv tv sv : Value} (h : PMem2 w o rs ps qs rv pv tv sv) (hb : Below w.heap.size w w') : PMem2 w' o rs ps qs rv pv tv sv :=
  h.kept ((Kept.refl [] w).of_below hb) (by simp)

set_option maxRecDepth 100000 in
set_option maxHeartbeats 16000000 in
theorem rprint_any (w : World) (o : Nat) (rs : List RR) (ps qs : List (ByteArray × Nat)) (rv pv tv sv : Value) (h : PMem2 w o rs ps qs rv pv tv sv) (hlen : (rprintT (rs.map (·.R))).length ≤ 1000000000) :
    Calls Tryz.prog 83 #[.pointer (some ⟨o, 0, none⟩)] w fun e w' => ∃ s : ByteArray, e = .returned (.string s) ∧ s.data.toList = rprintT (rs.map (·.R)) ∧ Below w.heap.size w w' := by
  obtain ⟨ar, cr, rfl⟩ := own_slice h.rules
  have hrm := own_max h.rules
  unfold maxLen at hrm
  have HP := hide h
  have hol := h.lt
  clear h
  go_enter Tryz.func83, Tryz.ntmps83
  go_wp2_with fail
  go_loopg [3, 4] rs.length (fun gg v i wr => ∃ (k : Nat) (s : ByteArray), k ≤ rs.length ∧ gg = rs.length - k ∧ v = .string s ∧ i = .int .i64 k ∧ Below w.heap.size w wr ∧ s.data.toList ++ printT (((rs.map (·.R)).map pruleOf).drop k) = rprintT (rs.map (·.R)))
  case atStart => exact ⟨0, _, Nat.zero_le _, rfl, rfl, rfl, Below.refl _ _, by simp [rprintT]⟩
  case round =>
    obtain ⟨k, s, hk, hgk, rfl, rfl, hB, hm⟩ := hrel
    have hpm := (unhide HP).below hB
    have c0 := hpm.c0
    have holr := hpm.lt
    have hml := congrArg List.length hm
    simp only [List.length_append, size_list] at hml
    by_cases hlk : k < rs.length
    · have hstep : printT (((rs.map (·.R)).map pruleOf).drop k) = ratomT rs[k].R.head ++ (litsT ((rs[k].R.body).map litOf) 0 ++ ([46, 10] ++ printT (((rs.map (·.R)).map pruleOf).drop (k + 1)))) := by
        rw [List.drop_eq_getElem_cons (by simpa using hlk)]
        simp [printT, ruleT, pruleOf, ratomT]
      rw [hstep] at hm hml
      simp only [List.length_append, List.length_cons, List.length_nil] at hml
      have HM := hide hm
      clear hm hstep
      obtain ⟨g, cap, hv, hbg, hgl, hnc, hcm, q0, q1, q2, q3, q4, q5⟩ := rule_cells hpm.rules k hlk
      injection hv with i1 i2 i3
      subst i1 i3
      have hin := (unhide HP).each _ (List.getElem_mem hlk)
      obtain ⟨ah, ch, hbh⟩ := own_slice hin.hd
      obtain ⟨ab, cb, hbb⟩ := own_slice hin.bo
      have hbm := own_max hin.bo
      unfold maxLen at hbm
      rw [hbh] at q1
      rw [hbb] at q5
      have heq := hin.eq
      have hhd := hin.hd
      rw [hbh] at hhd
      have hbo := hin.bo
      rw [hbb] at hbo
      have bA := (Below.refl wr.heap.size wr).alloc (Nat.le_refl _) (.cells #[.string rs[k].R.head.pred, .slice ah rs[k].R.head.terms.length ch, .bool rs[k].R.head.no, .int .i64 rs[k].R.head.at_, .int .i64 rs[k].R.head.noAt, .slice ab rs[k].bs.length cb] 246)
      have hrb : (wr.alloc (.cells #[.string rs[k].R.head.pred, .slice ah rs[k].R.head.terms.length ch, .bool rs[k].R.head.no, .int .i64 rs[k].R.head.at_, .int .i64 rs[k].R.head.noAt, .slice ab rs[k].bs.length cb] 246)).heap[wr.heap.size]? = _ := heap_alloc_new wr _
      have hzw := hB.size
      have hBA := hB.trans (bA.mono hzw)
      have hhd1 := own_below hhd hBA (fun x e => (hhd.lt x e).2)
      have HBL := hide hin.bl
      have HBO := hide hbo
      rw [heq] at hml HM
      clear hhd hbo hin hpm bA
      go_wp2_with fail
      refine (rtext_any' _ (o + 1) rs[k].R.head ah ch _ _ _ hhd1 (by omega)).mono ?_
      rintro e w1 ⟨t, rfl, ht, hb1⟩
      have hts : t.size = (ratomT rs[k].R.head).length := by rw [← ht, size_list]
      have c1 := cat_run s t (by omega)
      have hB1 := hBA.trans (hb1.mono (by simp; omega))
      have hrb1 := (hb1.block wr.heap.size (by simp)).trans hrb
      have hz1 := hb1.size
      rw [World.size_alloc] at hz1
      have hn1 : w.heap.size ≤ wr.heap.size := hzw
      have hS0 : (s ++ t).data.toList ++ litsT ((rs[k].bs.map (·.1)).map litOf) 0 = s.data.toList ++ ratomT rs[k].R.head ++ litsT ((rs[k].bs.map (·.1)).map litOf) 0 := by rw [cat_list, ht]
      clear hb1 hrb hBA hhd1 q0 q1 q2 q3 q4 q5 c0
      generalize hn1e : wr.heap.size = n1 at *
      go_wp2_with fail
      go_loopg [3, 6] rs[k].bs.length (fun gg v j wj => ∃ (jj : Nat) (s2 : ByteArray), jj ≤ rs[k].bs.length ∧ gg = rs[k].bs.length - jj ∧ v = .string s2 ∧ j = .int .i64 jj ∧ Below w.heap.size w wj ∧ n1 < wj.heap.size ∧ wj.heap[n1]? = some (.cells #[.string rs[k].R.head.pred, .slice ah rs[k].R.head.terms.length ch, .bool rs[k].R.head.no, .int .i64 rs[k].R.head.at_, .int .i64 rs[k].R.head.noAt, .slice ab rs[k].bs.length cb] 246 (0, 0)) ∧ s2.data.toList ++ litsT (((rs[k].bs.map (·.1)).map litOf).drop jj) jj = s.data.toList ++ ratomT rs[k].R.head ++ litsT ((rs[k].bs.map (·.1)).map litOf) 0)
      case atStart => exact ⟨0, _, Nat.zero_le _, rfl, rfl, rfl, hB1, by omega, hrb1, hS0⟩
      case round =>
        clear hS0 hB1 hrb1 hz1 hB c1
        obtain ⟨j, s2, hj, hgj, rfl, rfl, hB, hnz, hrb, hm2⟩ := hrel
        obtain ⟨x5, xf5⟩ := block_cells hrb 5
        have hm2l := congrArg List.length hm2
        simp only [List.length_append, size_list] at hm2l
        by_cases hjl : j < rs[k].bs.length
        · have hst := rlitsT_step hjl
          rw [hst] at hm2 hm2l
          simp only [List.length_append] at hm2l
          have HM2 := hide hm2
          clear hm2 hst
          have hbo := own_below (unhide HBO) hB (fun x e => ((unhide HBO).lt x e).2)
          obtain ⟨g', cap', hv', hbg', hgl', hnc', hcm', p0, p1, p2, p3, p4⟩ := body_cells hbo j hjl
          injection hv' with j1 j2 j3
          subst j1 j3
          obtain ⟨at1, ct1, hbt⟩ := own_slice (unhide HBL _ (List.getElem_mem hjl))
          rw [hbt] at p1
          have hTT := unhide HBL _ (List.getElem_mem hjl)
          rw [hbt] at hTT
          have hTT1 := own_below hTT hB (fun x e => (hTT.lt x e).2)
          have hzw2 := hB.size
          clear hbo hbt hTT
          cases hno : rs[k].bs[j].1.no with
          | true =>
            rw [hno] at p2
            simp only [hno, if_true, List.length_cons, List.length_nil] at hm2l
            cases j with
            | zero =>
              simp only [if_true, List.length_cons, List.length_nil] at hm2l
              have c1 := cat_run s2 { data := #[32, 58, 45, 32] } (by rw [lit4]; omega)
              have c2 := cat_run (s2 ++ { data := #[32, 58, 45, 32] }) { data := #[110, 111, 116, 32] } (by rw [cat_size, lit4, lit4]; omega)
              go_wp2_with fail
              refine (rtext_any' _ (o + 1) rs[k].bs[0].1 at1 ct1 _ _ _ hTT1 (by omega)).mono ?_
              rintro e w2 ⟨t2, rfl, ht2, hb2⟩
              have hts2 : t2.size = (ratomT rs[k].bs[0].1).length := by rw [← ht2, size_list]
              have c3 := cat_run (s2 ++ { data := #[32, 58, 45, 32] } ++ { data := #[110, 111, 116, 32] }) t2 (by rw [cat_size, cat_size, lit4, lit4, hts2]; omega)
              have hB2 := hB.trans (hb2.mono hzw2)
              have hrb2 := (hb2.block n1 hnz).trans hrb
              have hz2 := hb2.size
              clear hb2 hrb x5 xf5 p0 p1 p2 p3 p4 hB hTT1
              go_wp2_with fail
              go_roundg (rs[k].bs.length - (0 + 1))
              case measure => omega
              case rel => exact ⟨0 + 1, _, by omega, rfl, rfl, by go_num, hB2, by omega, hrb2, by rw [← unhide HM2]; simp [ht2, hno]⟩
            | succ j =>
              have hj0 : (((j + 1 : Nat) : Int) == 0) = false := by simp; omega
              simp only [Nat.add_eq_zero_iff, Nat.succ_ne_self, and_false, if_false, List.length_cons, List.length_nil] at hm2l
              have c1 := cat_run s2 { data := #[44, 32] } (by rw [lit2]; omega)
              have c2 := cat_run (s2 ++ { data := #[44, 32] }) { data := #[110, 111, 116, 32] } (by rw [cat_size, lit2, lit4]; omega)
              go_wp2_with fail
              refine (rtext_any' _ (o + 1) rs[k].bs[j + 1].1 at1 ct1 _ _ _ hTT1 (by omega)).mono ?_
              rintro e w2 ⟨t2, rfl, ht2, hb2⟩
              have hts2 : t2.size = (ratomT rs[k].bs[j + 1].1).length := by rw [← ht2, size_list]
              have c3 := cat_run (s2 ++ { data := #[44, 32] } ++ { data := #[110, 111, 116, 32] }) t2 (by rw [cat_size, cat_size, lit2, lit4, hts2]; omega)
              have hB2 := hB.trans (hb2.mono hzw2)
              have hrb2 := (hb2.block n1 hnz).trans hrb
              have hz2 := hb2.size
              clear hb2 hrb x5 xf5 p0 p1 p2 p3 p4 hB hTT1
              go_wp2_with fail
              go_roundg (rs[k].bs.length - (j + 1 + 1))
              case measure => omega
              case rel => exact ⟨j + 1 + 1, _, by omega, rfl, rfl, by go_num, hB2, by omega, hrb2, by rw [← unhide HM2]; simp [ht2, hno]⟩
          | false =>
            rw [hno] at p2
            simp only [hno, Bool.false_eq_true, if_false, List.length_nil] at hm2l
            cases j with
            | zero =>
              simp only [if_true, List.length_cons, List.length_nil] at hm2l
              have c1 := cat_run s2 { data := #[32, 58, 45, 32] } (by rw [lit4]; omega)
              go_wp2_with fail
              refine (rtext_any' _ (o + 1) rs[k].bs[0].1 at1 ct1 _ _ _ hTT1 (by omega)).mono ?_
              rintro e w2 ⟨t2, rfl, ht2, hb2⟩
              have hts2 : t2.size = (ratomT rs[k].bs[0].1).length := by rw [← ht2, size_list]
              have c3 := cat_run (s2 ++ { data := #[32, 58, 45, 32] }) t2 (by rw [cat_size, lit4, hts2]; omega)
              have hB2 := hB.trans (hb2.mono hzw2)
              have hrb2 := (hb2.block n1 hnz).trans hrb
              have hz2 := hb2.size
              clear hb2 hrb x5 xf5 p0 p1 p2 p3 p4 hB hTT1
              go_wp2_with fail
              go_roundg (rs[k].bs.length - (0 + 1))
              case measure => omega
              case rel => exact ⟨0 + 1, _, by omega, rfl, rfl, by go_num, hB2, by omega, hrb2, by rw [← unhide HM2]; simp [ht2, hno]⟩
            | succ j =>
              have hj0 : (((j + 1 : Nat) : Int) == 0) = false := by simp; omega
              simp only [Nat.add_eq_zero_iff, Nat.succ_ne_self, and_false, if_false, List.length_cons, List.length_nil] at hm2l
              have c1 := cat_run s2 { data := #[44, 32] } (by rw [lit2]; omega)
              go_wp2_with fail
              refine (rtext_any' _ (o + 1) rs[k].bs[j + 1].1 at1 ct1 _ _ _ hTT1 (by omega)).mono ?_
              rintro e w2 ⟨t2, rfl, ht2, hb2⟩
              have hts2 : t2.size = (ratomT rs[k].bs[j + 1].1).length := by rw [← ht2, size_list]
              have c3 := cat_run (s2 ++ { data := #[44, 32] }) t2 (by rw [cat_size, lit2, hts2]; omega)
              have hB2 := hB.trans (hb2.mono hzw2)
              have hrb2 := (hb2.block n1 hnz).trans hrb
              have hz2 := hb2.size
              clear hb2 hrb x5 xf5 p0 p1 p2 p3 p4 hB hTT1
              go_wp2_with fail
              go_roundg (rs[k].bs.length - (j + 1 + 1))
              case measure => omega
              case rel => exact ⟨j + 1 + 1, _, by omega, rfl, rfl, by go_num, hB2, by omega, hrb2, by rw [← unhide HM2]; simp [ht2, hno]⟩
        · have hd : ((rs[k].bs.map (·.1)).map litOf).drop j = [] := List.drop_of_length_le (by simp; omega)
          rw [hd] at hm2 hm2l
          simp only [litsT, List.append_nil, List.length_nil] at hm2 hm2l
          have c1 := cat_run s2 { data := #[46, 10] } (by rw [lit2]; omega)
          have HM2 := hide hm2
          clear hm2 hd
          go_wp2_with fail
          go_roundg (rs.length - (k + 1))
          case measure => omega
          case rel => exact ⟨k + 1, _, by omega, rfl, rfl, by go_num, hB, by rw [cat_list, unhide HM2, ← unhide HM]; simp⟩
    · have hd : ((rs.map (·.R)).map pruleOf).drop k = [] := List.drop_of_length_le (by simp; omega)
      rw [hd] at hm
      simp only [printT, List.flatMap_nil, List.append_nil] at hm
      have HM := hide hm
      clear hm hd hpm
      go_wp2_with fail
      go_ret
      exact ⟨s, rfl, unhide HM, hB⟩
end Go.Proofs.YtldkpahaocjdpaaGreat
