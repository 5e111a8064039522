/-
  The reference's arity: the place of the first atom with another number of terms than where its predicate first stands, -1 if there is none; the predicates are taken down on the way.
-/
import Derived.Test.YtldkpahaocjdpaaGreatLoadsT27
namespace Go.Proofs.YtldkpahaocjdpaaGreat
open Go.RowKit

theorem meet_any (w : World) (o : Nat) (rs : List RR) (ps : List (ByteArray × Nat)) (rv pv tv sv : Value) (nm : ByteArray) (a : Option Addr) (n c : Nat) (no : Bool) (at_ noAt : Nat) (h : PMem w o rs ps rv pv tv sv) (hpl : ps.length ≤ 1000) :
    Calls Tryz.prog 188 #[.pointer (some ⟨o, 0, none⟩), .agg #[.string nm, .slice a n c, .bool no, .int .i64 at_, .int .i64 noAt]] w fun e w' => e = .returned (.bool (meetB ps nm n)) ∧ ∃ pv' tv', PMem w' o rs (meetP ps nm n) rv pv' tv' sv ∧ Below o w w' := by
  by_cases hix : predIx ps nm < 0
  · refine (meet_new w o rs ps rv pv tv sv nm a n c no at_ noAt h hpl hix).mono ?_
    rintro e w' ⟨rfl, pv', tv', hm, hb⟩
    exact ⟨by simp [meetB, hix], pv', tv', by simpa [meetP, hix] using hm, hb⟩
  · refine (meet_old w o rs ps rv pv tv sv nm a n c no at_ noAt h (by omega)).mono ?_
    rintro e w' ⟨rfl, hb⟩
    refine ⟨rfl, pv, tv, ?_, hb.mono (by have := h.lt; omega)⟩
    rw [meetP, if_neg hix]
    exact h.kept ((Kept.refl [] w).of_below hb) (by simp)

def meetAll : List RAtom → List (ByteArray × Nat) → Int × List (ByteArray × Nat)
  | [], ps => (-1, ps)
  | A :: r, ps => if meetB ps A.pred A.terms.length then meetAll r (meetP ps A.pred A.terms.length) else (A.at_, meetP ps A.pred A.terms.length)

theorem meetAll_yes {X : Int × List (ByteArray × Nat)} {A : RAtom} {r : List RAtom} {ps : List (ByteArray × Nat)} (h : X = meetAll (A :: r) ps) (hb : meetB ps A.pred A.terms.length = true) : X = meetAll r (meetP ps A.pred A.terms.length) := by rw [h, meetAll, if_pos hb]
theorem meetAll_no {X : Int × List (ByteArray × Nat)} {A : RAtom} {r : List RAtom} {ps : List (ByteArray × Nat)} (h : X = meetAll (A :: r) ps) (hb : meetB ps A.pred A.terms.length = false) : X = (↑A.at_, meetP ps A.pred A.terms.length) := by rw [h, meetAll, if_neg (by rw [hb]; decide)]

def RRule.atoms (R : RRule) : List RAtom := R.head :: R.body
def atomsOf (rs : List RR) : List RAtom := rs.flatMap fun r => r.R.atoms

theorem atoms_step {rs : List RR} {k : Nat} (h : k < rs.length) : atomsOf (rs.drop k) = rs[k].R.head :: (rs[k].R.body ++ atomsOf (rs.drop (k + 1))) := by
  rw [List.drop_eq_getElem_cons h, atomsOf, List.flatMap_cons]; rfl

/-- The cells of the k-th rule in the rules' row. -/
theorem rule_cells {w : World} {base : Nat} {rv : Value} {rs : List RR} (h : w.ownsRow base 246 6 rv rs.length (rrCells rs)) (k : Nat) (hk : k < rs.length) : ∃ g cap, rv = .slice (some ⟨g, 0, none⟩) rs.length cap ∧ base ≤ g ∧ g < w.heap.size ∧ rs.length ≤ cap ∧ cap ≤ maxLen ∧
    w.cell? ⟨g, k * 6, none⟩ = some (.string rs[k].R.head.pred) ∧ w.cell? ⟨g, k * 6 + 1, none⟩ = some rs[k].hv ∧ w.cell? ⟨g, k * 6 + 2, none⟩ = some (.bool rs[k].R.head.no) ∧ w.cell? ⟨g, k * 6 + 3, none⟩ = some (.int .i64 rs[k].R.head.at_) ∧ w.cell? ⟨g, k * 6 + 4, none⟩ = some (.int .i64 rs[k].R.head.noAt) ∧ w.cell? ⟨g, k * 6 + 5, none⟩ = some rs[k].bv := by
  have hx : ∀ (l : List RR) (k j : Nat) (hk : k < l.length), j < 6 → (rrCells l)[k * 6 + j]? = (l[k].cells)[j]? := by
    intro l
    induction l with
    | nil => intro k j hk; simp at hk
    | cons x r ih =>
      intro k j hk hj
      have e : rrCells (x :: r) = x.cells ++ rrCells r := by simp [rrCells]
      have hl : x.cells.length = 6 := rfl
      cases k with
      | zero => rw [e, List.getElem?_append_left (by omega)]; simp
      | succ k =>
        rw [e, List.getElem?_append_right (by omega)]
        have e2 : (k + 1) * 6 + j - x.cells.length = k * 6 + j := by omega
        rw [e2, ih k j (by simpa using hk) hj]; simp
  rcases h.2 with ⟨_, h0⟩ | ⟨g, cap, cur, rfl, hb, hg, hnc, hcm, hcs, ht⟩
  · omega
  · have hl := (Array.getElem?_eq_some_iff.1 hg).1
    have hc : ∀ j, j < 6 → w.cell? ⟨g, k * 6 + j, none⟩ = (rs[k].cells)[j]? := fun j hj => by
      rw [h.cellAt (k * 6 + j) (by omega), hx rs k j hk hj]
    exact ⟨g, cap, rfl, hb, hl, hnc, hcm, hc 0 (by omega), hc 1 (by omega), hc 2 (by omega), hc 3 (by omega), hc 4 (by omega), hc 5 (by omega)⟩

/-- The cells of the j-th literal in a body's row. -/
theorem body_cells {w : World} {base : Nat} {bv : Value} {bs : List (RAtom × Value)} (h : w.ownsRow base 243 5 bv bs.length (litCells bs)) (k : Nat) (hk : k < bs.length) : ∃ g cap, bv = .slice (some ⟨g, 0, none⟩) bs.length cap ∧ base ≤ g ∧ g < w.heap.size ∧ bs.length ≤ cap ∧ cap ≤ maxLen ∧
    w.cell? ⟨g, k * 5, none⟩ = some (.string bs[k].1.pred) ∧ w.cell? ⟨g, k * 5 + 1, none⟩ = some bs[k].2 ∧ w.cell? ⟨g, k * 5 + 2, none⟩ = some (.bool bs[k].1.no) ∧ w.cell? ⟨g, k * 5 + 3, none⟩ = some (.int .i64 bs[k].1.at_) ∧ w.cell? ⟨g, k * 5 + 4, none⟩ = some (.int .i64 bs[k].1.noAt) := by
  have hx : ∀ (l : List (RAtom × Value)) (k j : Nat) (hk : k < l.length), j < 5 → (litCells l)[k * 5 + j]? = (l[k].1.cells l[k].2)[j]? := by
    intro l
    induction l with
    | nil => intro k j hk; simp at hk
    | cons x r ih =>
      intro k j hk hj
      have e : litCells (x :: r) = x.1.cells x.2 ++ litCells r := by simp [litCells]
      have hl : (x.1.cells x.2).length = 5 := rfl
      cases k with
      | zero => rw [e, List.getElem?_append_left (by omega)]; simp
      | succ k =>
        rw [e, List.getElem?_append_right (by omega)]
        have e2 : (k + 1) * 5 + j - (x.1.cells x.2).length = k * 5 + j := by omega
        rw [e2, ih k j (by simpa using hk) hj]; simp
  rcases h.2 with ⟨_, h0⟩ | ⟨g, cap, cur, rfl, hb, hg, hnc, hcm, hcs, ht⟩
  · omega
  · have hl := (Array.getElem?_eq_some_iff.1 hg).1
    have hc : ∀ j, j < 5 → w.cell? ⟨g, k * 5 + j, none⟩ = (bs[k].1.cells bs[k].2)[j]? := fun j hj => by
      rw [h.cellAt (k * 5 + j) (by omega), hx bs k j hk hj]
    exact ⟨g, cap, rfl, hb, hl, hnc, hcm, hc 0 (by omega), hc 1 (by omega), hc 2 (by omega), hc 3 (by omega), hc 4 (by omega)⟩

theorem meetP_le (ps : List (ByteArray × Nat)) (nm : ByteArray) (n : Nat) : (meetP ps nm n).length ≤ ps.length + 1 := by
  unfold meetP; split <;> simp

theorem body_drop {bs : List (RAtom × Value)} {j : Nat} (h : j < bs.length) : (bs.map (·.1)).drop j = bs[j].1 :: (bs.map (·.1)).drop (j + 1) := by
  rw [List.drop_eq_getElem_cons (by simpa using h)]; simp

theorem own_max {w : World} {base : Nat} {e : TypeId} {size : Nat} {v : Value} {n : Nat} {xs : List Value} (h : w.ownsRow base e size v n xs) : n ≤ maxLen := by
  rcases h.2 with ⟨_, h0⟩ | ⟨g, cap, cur, _, _, _, h1, h2, _⟩ <;> omega

set_option maxRecDepth 100000 in
set_option maxHeartbeats 8000000 in
theorem arity_any (w : World) (o : Nat) (rs : List RR) (rv pv tv sv : Value) (h : PMem w o rs [] rv pv tv sv) (hl : (atomsOf rs).length ≤ 1000) :
    Calls Tryz.prog 126 #[.pointer (some ⟨o, 0, none⟩)] w fun e w' => e = .returned (.int .i64 (meetAll (atomsOf rs) []).1) ∧ ∃ pv' tv', PMem w' o rs (meetAll (atomsOf rs) []).2 rv pv' tv' sv ∧ Below o w w' := by
  obtain ⟨ar, capr, rfl⟩ := own_slice h.rules
  have hmx : rs.length ≤ maxLen := by
    rcases h.rules.2 with ⟨_, h0⟩ | ⟨g, cap, cur, _, _, _, h1, h2, _⟩ <;> omega
  unfold maxLen at hmx
  go_enter Tryz.func126, Tryz.ntmps126
  go_wp2
  go_loopg [3] rs.length (fun gg i wr => ∃ (k : Nat) (ps : List (ByteArray × Nat)) (pv' tv' : Value), k ≤ rs.length ∧ gg = rs.length - k ∧ i = .int .i64 k ∧ PMem wr o rs ps (.slice ar rs.length capr) pv' tv' sv ∧ Below o w wr ∧ ps.length + (atomsOf (rs.drop k)).length ≤ 1000 ∧ meetAll (atomsOf rs) [] = meetAll (atomsOf (rs.drop k)) ps)
  case atStart => exact ⟨0, [], pv, tv, Nat.zero_le _, rfl, rfl, h, Below.refl _ _, by simpa using hl, rfl⟩
  case round =>
    obtain ⟨k, ps, pv', tv', hk, hg, rfl, hm, hb, hlen, hfin⟩ := hrel
    have HF := hide hfin
    clear hfin
    have hm' := hm
    obtain ⟨hlt, c0, c1, c2, c3, fz, hr, he, hp, ht⟩ := hm
    by_cases hlk : k < rs.length
    · obtain ⟨g, cap, hv, hbg, hgl, hnc, hcm, q0, q1, q2, q3, q4, q5⟩ := rule_cells hr k hlk
      injection hv with h1 h2 h3
      subst h1 h3
      obtain ⟨ah, caph, hhv⟩ := own_slice (he rs[k] (List.getElem_mem hlk)).hd
      rw [hhv] at q1
      have hat := atoms_step hlk
      rw [hat, List.length_cons] at hlen
      have HF2 := hide ((unhide HF).trans (congrArg (fun l => meetAll l ps) hat))
      have hrk := List.getElem_mem hlk
      obtain ⟨ab, capb, hbv⟩ := own_slice (he rs[k] hrk).bo
      have hbeq := (he rs[k] hrk).eq
      have hbmx := own_max (he rs[k] hrk).bo
      unfold maxLen at hbmx
      clear hr he hp ht h2 h hl HF
      go_wp2_with fail
      refine (meet_any wr o rs ps _ _ _ _ _ _ _ _ _ _ _ hm' (by omega)).mono ?_
      rintro e w1 ⟨rfl, pv1, tv1, hm1, hb1⟩
      have hm1' := hm1
      obtain ⟨hlt1, d0, d1, d2, d3, dfz, hr1, he1, hp1, ht1⟩ := hm1
      obtain ⟨g1, cap1, hv1, hbg1, hgl1, hnc1, hcm1, r0, r1, r2, r3, r4, r5⟩ := rule_cells hr1 k hlk
      injection hv1 with h11 h12 h13
      injection h11 with h11
      injection h11 with h11
      subst h11 h13
      rw [hbv] at r5
      clear hr1 he1 hp1 ht1 h12 c0 c1 c2 c3 fz q0 q1 q2 q3 q4 q5 hm' hhv
      cases hmb : meetB ps rs[k].R.head.pred rs[k].R.head.terms.length with
      | false =>
        have HF3 := hide (meetAll_no (unhide HF2) hmb)
        clear HF2 hmb
        go_wp2_with fail
        go_ret
        exact ⟨by rw [unhide HF3]; rfl, pv1, tv1, by rw [unhide HF3]; exact hm1', hb.trans hb1⟩
      | true =>
        have HF3 := hide (meetAll_yes (unhide HF2) hmb)
        have hmp := meetP_le ps rs[k].R.head.pred rs[k].R.head.terms.length
        rw [List.length_append] at hlen
        clear HF2 hmb
        go_wp2_with fail
        go_loopg [4, 5] rs[k].bs.length (fun gg ok i wx => ∃ (j : Nat) (ps2 : List (ByteArray × Nat)) (pv2 tv2 : Value), j ≤ rs[k].bs.length ∧ gg = rs[k].bs.length - j ∧ i = .int .i64 j ∧ PMem wx o rs ps2 (.slice (some ⟨g, 0, none⟩) rs.length capr) pv2 tv2 sv ∧ Below o w wx ∧ ps2.length + ((rs[k].bs.map (·.1)).drop j ++ atomsOf (rs.drop (k + 1))).length ≤ 1000 ∧ meetAll (atomsOf rs) [] = meetAll ((rs[k].bs.map (·.1)).drop j ++ atomsOf (rs.drop (k + 1))) ps2)
        case atStart => exact ⟨0, _, pv1, tv1, Nat.zero_le _, rfl, rfl, hm1', hb.trans hb1, by rw [List.drop_zero, ← hbeq, List.length_append]; omega, by rw [List.drop_zero, ← hbeq]; exact unhide HF3⟩
        case round =>
          clear HF3 hm1' d0 d1 d2 d3 dfz r0 r1 r2 r3 r4 r5 hb1 hmp hlen
          obtain ⟨j, ps2, pv2, tv2, hj, hgg, rfl, hm2, hb2, hlen2, hfin2⟩ := hrel
          have HF := hide hfin2
          clear hfin2
          have hm2' := hm2
          obtain ⟨hlt2, c0, c1, c2, c3, fz, hr2, he2, hp2, ht2⟩ := hm2
          obtain ⟨g2, cap2, hv2, hbg2, hgl2, hnc2, hcm2, q0, q1, q2, q3, q4, q5⟩ := rule_cells hr2 k hlk
          injection hv2 with h11 h12 h13
          injection h11 with h11
          injection h11 with h11
          subst h11 h13
          rw [hbv] at q5
          by_cases hjl : j < rs[k].bs.length
          · obtain ⟨gb, capb2, hvb, hbgb, hgbl, hncb, hcmb, p0, p1, p2, p3, p4⟩ := body_cells (he2 rs[k] hrk).bo j hjl
            rw [hbv] at hvb
            injection hvb with hb11 hb12 hb13
            subst hb11 hb13
            obtain ⟨at1, capt1, hbt⟩ := own_slice ((he2 rs[k] hrk).bl _ (List.getElem_mem hjl))
            rw [hbt] at p1
            have hbd := body_drop hjl
            rw [hbd, List.cons_append, List.length_cons] at hlen2
            have HF2 := hide ((unhide HF).trans (congrArg (fun l => meetAll (l ++ atomsOf (rs.drop (k + 1))) ps2) hbd))
            clear hr2 he2 hp2 ht2 h12 hb12 HF
            go_wp2_with fail
            refine (meet_any wr o rs ps2 _ _ _ _ _ _ _ _ _ _ _ hm2' (by omega)).mono ?_
            rintro e w3 ⟨rfl, pv3, tv3, hm3, hb3⟩
            have hm3' := hm3
            obtain ⟨hlt3, d0, d1, d2, d3, dfz, hr3, he3, hp3, ht3⟩ := hm3
            obtain ⟨g3, cap3, hv3, hbg3, hgl3, hnc3, hcm3, r0, r1, r2, r3, r4, r5⟩ := rule_cells hr3 k hlk
            injection hv3 with h31 h32 h33
            injection h31 with h31
            injection h31 with h31
            subst h31 h33
            rw [hbv] at r5
            obtain ⟨gc, capc, hvc, hbgc, hgcl, hncc, hcmc, s0, s1, s2, s3, s4⟩ := body_cells (he3 rs[k] hrk).bo j hjl
            rw [hbv] at hvc
            injection hvc with hc11 hc12 hc13
            injection hc11 with hc11
            injection hc11 with hc11
            subst hc11 hc13
            clear hr3 he3 hp3 ht3 h32 hc12 c0 c1 c2 c3 fz q0 q1 q2 q3 q4 q5 p0 p1 p2 p3 p4 hm2' hbt
            cases hmb : meetB ps2 rs[k].bs[j].1.pred rs[k].bs[j].1.terms.length with
            | false =>
              have HF3 := hide (meetAll_no (unhide HF2) hmb)
              clear HF2 hmb
              go_wp2_with fail
              go_ret
              exact ⟨by rw [unhide HF3]; rfl, pv3, tv3, by rw [unhide HF3]; exact hm3', hb2.trans hb3⟩
            | true =>
              have HF3 := hide (meetAll_yes (unhide HF2) hmb)
              have hmp := meetP_le ps2 rs[k].bs[j].1.pred rs[k].bs[j].1.terms.length
              clear HF2 hmb
              go_wp2_with fail
              go_roundg (rs[k].bs.length - (j + 1))
              case measure => omega
              case rel => exact ⟨j + 1, _, pv3, tv3, by omega, rfl, by go_num, hm3', hb2.trans hb3, by omega, unhide HF3⟩
          · have hje : (rs[k].bs.map (·.1)).drop j = [] := List.drop_of_length_le (by simp; omega)
            rw [hje, List.nil_append] at hlen2
            have HF2 := hide ((unhide HF).trans (congrArg (fun l => meetAll (l ++ atomsOf (rs.drop (k + 1))) ps2) hje))
            clear hr2 he2 hp2 ht2 h12 HF
            go_wp2_with fail
            go_roundg (rs.length - (k + 1))
            case measure => omega
            case rel => exact ⟨k + 1, ps2, pv2, tv2, by omega, rfl, by go_num, hm2', hb2, hlen2, unhide HF2⟩
    · have hje : atomsOf (rs.drop k) = [] := by rw [List.drop_of_length_le (by omega)]; rfl
      have hf : meetAll (atomsOf rs) [] = (-1, ps) := by rw [unhide HF, hje]; rfl
      have HF2 := hide hf
      clear hf HF hr he hp ht
      go_wp2_with fail
      go_ret
      exact ⟨by rw [unhide HF2]; rfl, pv', tv', by rw [unhide HF2]; exact hm', hb⟩
end Go.Proofs.YtldkpahaocjdpaaGreat
