/-
  The reference's hangs: a new table, of which the marks are those of the plain text (hangsM).
-/
import Derived.Test.YtldkpahaocjdpaaGreatLoadsT31
namespace Go.Proofs.YtldkpahaocjdpaaGreat
open Go.RowKit

set_option maxRecDepth 100000 in
set_option maxHeartbeats 16000000 in
theorem hangs_any (w : World) (o : Nat) (rs : List RR) (ps : List (ByteArray × Nat)) (rv pv tv sv : Value) (h : PMem w o rs ps rv pv tv sv) (hn : ps.length ≤ 1000) (hall : AllIn ps (atomsOf rs)) :
    Calls Tryz.prog 190 #[.pointer (some ⟨o, 0, none⟩)] w fun e w' => e = .returned (.slice (some ⟨w.heap.size, 0, none⟩) ps.length ps.length) ∧ Mat w' w.heap.size ps.length ps.length (hangsM ps (rs.map (·.R))) ∧ Below w.heap.size w w' := by
  obtain ⟨ar, capr, rfl⟩ := own_slice h.rules
  obtain ⟨ap, capp, rfl⟩ := own_slice h.preds
  have hmx := own_max h.rules
  unfold maxLen at hmx
  have mk1 := make_rows ps.length hn
  have mk2 := make_row ps.length hn
  have c0 := h.c0
  have c1 := h.c1
  have hlt := h.lt
  have hpred : ∀ nm wr, Below w.heap.size w wr → Calls Tryz.prog 135 #[.pointer (some ⟨o, 0, none⟩), .string nm] wr fun e w' => e = .returned (.int .i64 (predIx ps nm)) ∧ w' = wr := fun nm wr hb => pred_any wr o rs ps _ _ _ _ nm (h.kept ((Kept.refl [] w).of_below hb) (by simp))
  have HPR := hide hpred
  have HH := hide h
  have HA := hide hall
  clear h hpred hall
  go_enter Tryz.func190, Tryz.ntmps190
  go_wp2_with fail
  go_loopw [5] (fun i wr => ∃ m : Nat, m ≤ ps.length ∧ i = .int .i64 m ∧ Mat wr w.heap.size ps.length m (fun _ _ => false) ∧ wr.heap.size = w.heap.size + 1 + m ∧ Below w.heap.size w wr) (fun i _ => ps.length - (intOf i).toNat)
  case atStart => exact ⟨0, Nat.zero_le _, rfl, Mat.start w ps.length, by simp, (Below.refl _ _).alloc (Nat.le_refl _) _⟩
  case round =>
    obtain ⟨m, hm, rfl, hmat, hsz, hb⟩ := hrel
    by_cases hml : m < ps.length
    · obtain ⟨u, hu⟩ := hmat.some_ m hml
      have hfz := hmat.tfz m
      have hgs : w.heap.size < wr.heap.size := by omega
      have hrow := hmat.row hsz hml
      rw [World.setCell_alloc_past _ _ _ _ hgs] at hrow
      have HM := hide hrow
      have HS := hide hsz
      clear hrow
      clear hmat hsz c0 c1
      go_wp2_with fail
      go_roundw
      case rel => exact ⟨m + 1, by omega, by go_num, unhide HM, by have := unhide HS; simp; omega, (hb.setCell (Nat.le_refl _) _).alloc (by simp; omega) _⟩
      case measure => simp [intOf]; omega
    · have hme : m = ps.length := by omega
      subst hme
      clear mk1 mk2 hsz hml hm c0 c1
      go_wp2_with fail
      go_loopg [6, 7, 8] rs.length (fun gg i h7 k8 wr => ∃ (k : Nat) (M : Nat → Nat → Bool), k ≤ rs.length ∧ gg = rs.length - k ∧ i = .int .i64 k ∧ Mat wr w.heap.size ps.length ps.length M ∧ Below w.heap.size w wr ∧ hangsM ps (rs.map (·.R)) = fwM ps.length (edges ps ((rs.map (·.R)).drop k) M) 0)
      case atStart => exact ⟨0, _, Nat.zero_le _, rfl, rfl, hmat, hb, rfl⟩
      case round =>
        clear hmat hb
        obtain ⟨k, M, hk, hgk, rfl, hmat, hb, hfin⟩ := hrel
        have HF := hide hfin
        clear hfin
        have hm := (unhide HH).kept ((Kept.refl [] w).of_below hb) (by simp)
        have c0 := hm.c0
        by_cases hlk : k < rs.length
        · obtain ⟨g, cap, hv, hbg, hgl, hnc, hcm, q0, q1, q2, q3, q4, q5⟩ := rule_cells hm.rules k hlk
          injection hv with h1 h2 h3
          subst h1 h3
          have hin := hm.each _ (List.getElem_mem hlk)
          obtain ⟨ab, capb, hbv⟩ := own_slice hin.bo
          have hbmx := own_max hin.bo
          unfold maxLen at hbmx
          rw [hbv] at q5
          have hbeq := hin.eq
          have HF2 := hide ((unhide HF).trans (congrArg (fun X => fwM ps.length X 0) (edges_step hlk)))
          have hx0 := allIn_head (unhide HA) hlk
          have hx1 : predIx ps rs[k].R.head.pred < ps.length := by have := predIx_lt hx0; omega
          clear HF h2
          go_wp2_with fail
          refine (unhide HPR _ wr hb).mono ?_
          rintro e w1 ⟨rfl, rfl⟩
          go_wp2_with fail
          go_loopg [8] rs[k].bs.length (fun gg i wr => ∃ (j : Nat) (M : Nat → Nat → Bool), j ≤ rs[k].bs.length ∧ gg = rs[k].bs.length - j ∧ i = .int .i64 j ∧ Mat wr w.heap.size ps.length ps.length M ∧ Below w.heap.size w wr ∧ hangsM ps (rs.map (·.R)) = fwM ps.length (edges ps ((rs.map (·.R)).drop (k + 1)) (edgesR ps (ixOf ps rs[k].R.head.pred) ((rs[k].bs.map (·.1)).drop j) M)) 0)
          case atStart => exact ⟨0, M, Nat.zero_le _, rfl, rfl, hmat, hb, by rw [List.drop_zero, ← hbeq]; exact unhide HF2⟩
          case round =>
            clear hmat hb HF2 hm c0 q0 q1 q2 q3 q4 q5 hin hgl
            obtain ⟨j, M, hj, hgj, rfl, hmat, hb, hfin⟩ := hrel
            have HF := hide hfin
            clear hfin
            have hm := (unhide HH).kept ((Kept.refl [] w).of_below hb) (by simp)
            have c0 := hm.c0
            obtain ⟨g', cap', hv', hbg', hgl, hnc', hcm', q0, q1, q2, q3, q4, q5⟩ := rule_cells hm.rules k hlk
            injection hv' with h1 h2 h3
            injection h1 with h1
            injection h1 with h1
            subst h1 h3
            have hin := hm.each _ (List.getElem_mem hlk)
            rw [hbv] at q5
            by_cases hjl : j < rs[k].bs.length
            · obtain ⟨gb, capb2, hvb, hbgb, hgbl, hncb, hcmb, p0, p1, p2, p3, p4⟩ := body_cells hin.bo j hjl
              rw [hbv] at hvb
              injection hvb with hb11 hb12 hb13
              subst hb11 hb13
              have HF2 := hide ((unhide HF).trans (congrArg (fun X => fwM ps.length (edges ps ((rs.map (·.R)).drop (k + 1)) X) 0) (edgesR_step hjl)))
              have hy0 := allIn_body (unhide HA) hlk hbeq hjl
              have hy1 : predIx ps rs[k].bs[j].1.pred < ps.length := by have := predIx_lt hy0; omega
              have t1 := hmat.top (predIx ps rs[k].R.head.pred).toNat (by omega)
              have t2 := hmat.cell (predIx ps rs[k].R.head.pred).toNat (predIx ps rs[k].bs[j].1.pred).toNat (by omega) (by omega)
              have t3 := hmat.fz (predIx ps rs[k].R.head.pred).toNat (predIx ps rs[k].bs[j].1.pred).toNat (by omega)
              have HM := hide (hmat.set (ixOf ps rs[k].R.head.pred) (ixOf ps rs[k].bs[j].1.pred) (by unfold ixOf; omega) (by unfold ixOf; omega))
              have HMS := hide hmat.sz
              clear HF h2 hm hmat hin hb12
              go_wp2_with fail
              go_region_with (go_at_call 135; refine (unhide HPR _ _ hb.drew).mono ?_; rintro e w1 ⟨rfl, rfl⟩)
              all_goals
                go_wp2_with fail
                go_roundg (rs[k].bs.length - (j + 1))
                case measure => omega
                case rel => exact ⟨j + 1, _, by omega, rfl, by go_num, (unhide HM).kept ((Kept.refl [] _).drew) (by simp), (hb.setCell (by simp; omega) _).drew, unhide HF2⟩
            · have hje : (rs[k].bs.map (·.1)).drop j = [] := List.drop_of_length_le (by simp; omega)
              have HF2 := hide (show hangsM ps (rs.map (·.R)) = fwM ps.length (edges ps ((rs.map (·.R)).drop (k + 1)) M) 0 by rw [unhide HF, hje]; rfl)
              clear HF h2 hm
              go_wp2_with fail
              go_roundg (rs.length - (k + 1))
              case measure => omega
              case rel => exact ⟨k + 1, M, by omega, rfl, by go_num, hmat, hb, unhide HF2⟩
        · have hke : (rs.map (·.R)).drop k = [] := List.drop_of_length_le (by simp; omega)
          have HF2 := hide (show hangsM ps (rs.map (·.R)) = fwM ps.length M 0 by rw [unhide HF, hke]; rfl)
          clear HF hm
          go_wp2_with fail
          clear c0
          go_loopg [9, 10, 11] ps.length (fun gg m9 i10 k11 wr => ∃ (m : Nat) (M : Nat → Nat → Bool), m ≤ ps.length ∧ gg = ps.length - m ∧ m9 = .int .i64 m ∧ Mat wr w.heap.size ps.length ps.length M ∧ Below w.heap.size w wr ∧ hangsM ps (rs.map (·.R)) = fwM ps.length M m)
          case atStart => exact ⟨0, M, Nat.zero_le _, rfl, rfl, hmat, hb, unhide HF2⟩
          case round =>
            clear hmat hb HF2
            obtain ⟨m, M, hm, hgm, rfl, hmat, hb, hfin⟩ := hrel
            have HF := hide hfin
            clear hfin
            by_cases hml : m < ps.length
            · have HF2 := hide ((unhide HF).trans (fwM_go hml))
              clear HF
              go_wp2_with fail
              go_loopg [10, 11] ps.length (fun gg i10 k11 wr => ∃ (i : Nat) (M : Nat → Nat → Bool), i ≤ ps.length ∧ gg = ps.length - i ∧ i10 = .int .i64 i ∧ Mat wr w.heap.size ps.length ps.length M ∧ Below w.heap.size w wr ∧ hangsM ps (rs.map (·.R)) = fwM ps.length (fwI ps.length m M i) (m + 1))
              case atStart => exact ⟨0, M, Nat.zero_le _, rfl, rfl, hmat, hb, unhide HF2⟩
              case round =>
                clear hmat hb HF2
                obtain ⟨i, M, hi, hgi, rfl, hmat, hb, hfin⟩ := hrel
                have HF := hide hfin
                clear hfin
                by_cases hil : i < ps.length
                · have HF2 := hide ((unhide HF).trans (congrArg (fun X => fwM ps.length X (m + 1)) (fwI_go hil)))
                  clear HF
                  go_wp2_with fail
                  go_loopg [11] ps.length (fun gg k11 wr => ∃ (k : Nat) (M : Nat → Nat → Bool), k ≤ ps.length ∧ gg = ps.length - k ∧ k11 = .int .i64 k ∧ Mat wr w.heap.size ps.length ps.length M ∧ Below w.heap.size w wr ∧ hangsM ps (rs.map (·.R)) = fwM ps.length (fwI ps.length m (fwK ps.length m i M k) (i + 1)) (m + 1))
                  case atStart => exact ⟨0, M, Nat.zero_le _, rfl, rfl, hmat, hb, unhide HF2⟩
                  case round =>
                    clear hmat hb HF2
                    obtain ⟨k, M, hk, hgk, rfl, hmat, hb, hfin⟩ := hrel
                    have HF := hide hfin
                    clear hfin
                    by_cases hkl : k < ps.length
                    · have hst := (unhide HF).trans (congrArg (fun X => fwM ps.length (fwI ps.length m X (i + 1)) (m + 1)) (fwK_go hkl))
                      have t1 := hmat.top i hil
                      have t2 := hmat.cell i m hil hml
                      have t3 := hmat.top m hml
                      have t4 := hmat.cell m k hml hkl
                      have t5 := hmat.cell i k hil hkl
                      have t6 := hmat.fz i k hil
                      cases e1 : M i m with
                      | false =>
                        rw [e1] at t2
                        rw [e1, Bool.false_and, if_neg (by decide)] at hst
                        have HF2 := hide hst
                        clear HF hst t5
                        go_wp2_with fail
                        go_roundg (ps.length - (k + 1))
                        case measure => omega
                        case rel => exact ⟨k + 1, M, by omega, rfl, by go_num, hmat, hb, unhide HF2⟩
                      | true =>
                        rw [e1] at t2
                        cases e2 : M m k with
                        | false =>
                          rw [e2] at t4
                          rw [e1, e2, Bool.and_false, if_neg (by decide)] at hst
                          have HF2 := hide hst
                          clear HF hst t5
                          go_wp2_with fail
                          go_roundg (ps.length - (k + 1))
                          case measure => omega
                          case rel => exact ⟨k + 1, M, by omega, rfl, by go_num, hmat, hb, unhide HF2⟩
                        | true =>
                          rw [e2] at t4
                          rw [e1, e2, Bool.and_true, if_pos rfl] at hst
                          have HF2 := hide hst
                          have HM := hide (hmat.set i k hil hkl)
                          clear HF hst
                          go_wp2_with fail
                          go_roundg (ps.length - (k + 1))
                          case measure => omega
                          case rel => exact ⟨k + 1, _, by omega, rfl, by go_num, unhide HM, hb.setCell (by simp; omega) _, unhide HF2⟩
                    · have HF2 := hide ((unhide HF).trans (congrArg (fun X => fwM ps.length (fwI ps.length m X (i + 1)) (m + 1)) (fwK_end hkl)))
                      clear HF
                      go_wp2_with fail
                      go_roundg (ps.length - (i + 1))
                      case measure => omega
                      case rel => exact ⟨i + 1, M, by omega, rfl, by go_num, hmat, hb, unhide HF2⟩
                · have HF2 := hide ((unhide HF).trans (congrArg (fun X => fwM ps.length X (m + 1)) (fwI_end hil)))
                  clear HF
                  go_wp2_with fail
                  go_roundg (ps.length - (m + 1))
                  case measure => omega
                  case rel => exact ⟨m + 1, M, by omega, rfl, by go_num, hmat, hb, unhide HF2⟩
            · have HF2 := hide ((unhide HF).trans (fwM_end hml))
              clear HF
              go_wp2_with fail
              go_ret
              exact ⟨rfl, by rw [unhide HF2]; exact hmat, hb⟩
end Go.Proofs.YtldkpahaocjdpaaGreat
