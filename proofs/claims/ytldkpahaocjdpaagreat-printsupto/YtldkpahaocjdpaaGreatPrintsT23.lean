/-
  The reference's layer: where some numbers keep to the rules, it ends, and the strata are the least such.
-/
import Derived.Test.YtldkpahaocjdpaaGreatPrintsT22
namespace Go.Proofs.YtldkpahaocjdpaaGreat
open Go.RowKit

set_option maxRecDepth 100000 in
set_option maxHeartbeats 16000000 in
theorem layer_any (w : World) (o : Nat) (rs : List RR) (ps : List (ByteArray × Nat)) (rv pv tv sv : Value) (h : PMem w o rs ps rv pv tv sv) (hn : ps.length ≤ 1000) (hall : AllIn ps (atomsOf rs)) (f0 : Nat → Nat) (hf0 : Valid ps (rs.map (·.R)) f0) (hfb : ∀ i, f0 i ≤ 1000) :
    Calls Tryz.prog 129 #[.pointer (some ⟨o, 0, none⟩)] w fun e w' => e = .returned (.tuple #[]) ∧ ∃ S, PMem w' o rs ps rv pv tv (.slice (some ⟨w.heap.size, 0, none⟩) ps.length ps.length) ∧ SRow w' w.heap.size ps.length S ∧ Valid ps (rs.map (·.R)) S ∧ Low ps (rs.map (·.R)) S ∧ Below o w w' := by
  obtain ⟨ar, capr, rfl⟩ := own_slice h.rules
  obtain ⟨ap, capp, rfl⟩ := own_slice h.preds
  have hmx := own_max h.rules
  unfold maxLen at hmx
  have mk := make_ints ps.length hn
  have hlt := h.lt
  have c1 := h.c1
  have c3 := h.c3
  have fz := h.fz 3
  have h1 := h.setS (.slice (some ⟨w.heap.size, 0, none⟩) ps.length ps.length)
  have hbo : Below o w (w.setCell ⟨o, 3, none⟩ (.slice (some ⟨w.heap.size, 0, none⟩) ps.length ps.length)) := (Below.refl o w).setCell (p := ⟨o, 3, none⟩) (Nat.le_refl _) _
  have hsz1 : (w.setCell ⟨o, 3, none⟩ (.slice (some ⟨w.heap.size, 0, none⟩) ps.length ps.length)).heap.size = w.heap.size := by simp
  have hst0 : LInv (w.setCell ⟨o, 3, none⟩ (.slice (some ⟨w.heap.size, 0, none⟩) ps.length ps.length)) w.heap.size ps.length ps (rs.map (·.R)) (fun _ => 0) ((w.setCell ⟨o, 3, none⟩ (.slice (some ⟨w.heap.size, 0, none⟩) ps.length ps.length)).alloc (.cells (madeCells #[.int .i64 0] ps.length) 3)) := by
    refine ⟨(Below.refl _ _).alloc (by omega) _, ?_, fun f _ i => Nat.zero_le _⟩
    have := SRow.start (w.setCell ⟨o, 3, none⟩ (.slice (some ⟨w.heap.size, 0, none⟩) ps.length ps.length)) ps.length
    rwa [hsz1] at this
  have HST := hide hst0
  have H1 := hide h1
  have HA := hide hall
  have HBO := hide hbo
  have HSZ := hide hsz1
  have HF0 := hide hf0
  clear h h1 hall hst0 hbo hsz1 hf0
  go_enter Tryz.func129, Tryz.ntmps129
  go_wp2_with fail
  clear mk c1 c3 fz
  go_loopg [2, 3, 4, 5, 6, 7] (sumS f0 ps.length + 1) (fun gg ag i3 h4 k5 l6 s7 wr => ∃ (b : Bool) (S : Nat → Nat), ag = .bool b ∧ (if b then sumS f0 ps.length - sumS S ps.length + 1 else 0) ≤ gg ∧ LInv (w.setCell ⟨o, 3, none⟩ (.slice (some ⟨w.heap.size, 0, none⟩) ps.length ps.length)) w.heap.size ps.length ps (rs.map (·.R)) S wr ∧ (b = false → Valid ps (rs.map (·.R)) S))
  case atStart => exact ⟨true, fun _ => 0, rfl, by simp, unhide HST, by simp⟩
  case round =>
    clear HST
    obtain ⟨b, S0, rfl, hgg, hinv, hval⟩ := hrel
    cases b with
    | false =>
      have HV := hide (hval rfl)
      clear hval
      go_wp2_with fail
      go_end0
      have hk := hinv.below
      have hk' : Below (w.setCell ⟨o, 3, none⟩ (.slice (some ⟨w.heap.size, 0, none⟩) ps.length ps.length)).heap.size (w.setCell ⟨o, 3, none⟩ (.slice (some ⟨w.heap.size, 0, none⟩) ps.length ps.length)) wr := by rw [unhide HSZ]; exact hk
      exact ⟨rfl, (unhide H1).kept ((Kept.refl [] _).of_below hk') (by simp), S0, hinv.row, unhide HV, hinv.low, (unhide HBO).trans (hk.mono (by omega))⟩
    | true =>
      clear hval
      go_wp2_with fail
      go_loopg [2, 3, 4, 5, 6, 7] rs.length (fun gg ag i3 h4 k5 l6 s7 wr => ∃ (b : Bool) (S : Nat → Nat) (k : Nat), ag = .bool b ∧ k ≤ rs.length ∧ gg = rs.length - k ∧ i3 = .int .i64 k ∧ LInv (w.setCell ⟨o, 3, none⟩ (.slice (some ⟨w.heap.size, 0, none⟩) ps.length ps.length)) w.heap.size ps.length ps (rs.map (·.R)) S wr ∧ sumS S0 ps.length ≤ sumS S ps.length ∧ (b = true → sumS S0 ps.length < sumS S ps.length) ∧ (b = false → Valid ps ((rs.map (·.R)).take k) S))
      case atStart => exact ⟨false, S0, 0, rfl, Nat.zero_le _, rfl, rfl, hinv, Nat.le_refl _, by simp, fun _ => by intro R hR; simp at hR⟩
      case round =>
        clear hinv
        obtain ⟨b, S, k, rfl, hk, hgk, rfl, hinv, hsum, hup, hval⟩ := hrel
        have hkk : Below (w.setCell ⟨o, 3, none⟩ (.slice (some ⟨w.heap.size, 0, none⟩) ps.length ps.length)).heap.size (w.setCell ⟨o, 3, none⟩ (.slice (some ⟨w.heap.size, 0, none⟩) ps.length ps.length)) wr := by rw [unhide HSZ]; exact hinv.below
        have hm := (unhide H1).kept ((Kept.refl [] _).of_below hkk) (by simp)
        have c0 := hm.c0
        by_cases hlk : k < rs.length
        · obtain ⟨g, cap, hv, hbg, hgl, hnc, hcm, q0, q1, q2, q3, q4, q5⟩ := rule_cells hm.rules k hlk
          injection hv with h1 h2 h3
          subst h1 h3
          have hin := hm.each _ (List.getElem_mem hlk)
          obtain ⟨ab, capb, hbv⟩ := own_slice hin.bo
          have hbmx := own_max hin.bo
          unfold maxLen at hbmx
          rw [hbv] at q5
          have hbeq := hin.eq
          have hx0 := allIn_head (unhide HA) hlk
          have hx1 : predIx ps rs[k].R.head.pred < ps.length := by have := predIx_lt hx0; omega
          have HPR := hide (fun nm => pred_any wr o rs ps _ _ _ _ nm hm)
          clear h2 hm
          go_wp2_with fail
          refine (unhide HPR _).mono ?_
          rintro e w1 ⟨rfl, rfl⟩
          clear HPR
          go_wp2_with fail
          go_loopg [2, 5, 6, 7] rs[k].bs.length (fun gg ag k5 l6 s7 wr => ∃ (b : Bool) (S : Nat → Nat) (j : Nat), ag = .bool b ∧ j ≤ rs[k].bs.length ∧ gg = rs[k].bs.length - j ∧ k5 = .int .i64 j ∧ LInv (w.setCell ⟨o, 3, none⟩ (.slice (some ⟨w.heap.size, 0, none⟩) ps.length ps.length)) w.heap.size ps.length ps (rs.map (·.R)) S wr ∧ sumS S0 ps.length ≤ sumS S ps.length ∧ (b = true → sumS S0 ps.length < sumS S ps.length) ∧ (b = false → Valid ps ((rs.map (·.R)).take k) S ∧ ∀ A ∈ (rs[k].bs.map (·.1)).take j, Keeps ps S rs[k].R.head.pred A))
          case atStart => exact ⟨b, S, 0, rfl, Nat.zero_le _, rfl, rfl, hinv, hsum, hup, fun e => ⟨hval e, by simp⟩⟩
          case round =>
            clear hinv hsum hup hval c0 q0 q1 q2 q3 q4 q5 hin hgl hkk
            obtain ⟨b, S, j, rfl, hj, hgj, rfl, hinv, hsum, hup, hval⟩ := hrel
            have hkk : Below (w.setCell ⟨o, 3, none⟩ (.slice (some ⟨w.heap.size, 0, none⟩) ps.length ps.length)).heap.size (w.setCell ⟨o, 3, none⟩ (.slice (some ⟨w.heap.size, 0, none⟩) ps.length ps.length)) wr := by rw [unhide HSZ]; exact hinv.below
            have hm := (unhide H1).kept ((Kept.refl [] _).of_below hkk) (by simp)
            have c0 := hm.c0
            have c3 := hm.c3
            have hltr := hm.lt
            obtain ⟨g', cap', hv', hbg', hgl, hnc', hcm', q0, q1, q2, q3, q4, q5⟩ := rule_cells hm.rules k hlk
            injection hv' with h1 h2 h3
            injection h1 with h1
            injection h1 with h1
            subst h1 h3
            have hin := hm.each _ (List.getElem_mem hlk)
            rw [hbv] at q5
            by_cases hjl : j < rs[k].bs.length
            · obtain ⟨gb, capb2, hvb, hbgb, hgbl, hncb, hcmb, p0, p1, p2, p3, p4⟩ := body_cells hin.bo j hjl
              rw [hbv] at hvb
              injection hvb with hb11 hb12 hb13
              subst hb11 hb13
              obtain ⟨at1, capt1, hbt⟩ := own_slice (hin.bl _ (List.getElem_mem hjl))
              rw [hbt] at p1
              have hy0 := allIn_body (unhide HA) hlk hbeq hjl
              have hy1 : predIx ps rs[k].bs[j].1.pred < ps.length := by have := predIx_lt hy0; omega
              have hrs := hinv.row.sz
              have t1 := hinv.row.cell (predIx ps rs[k].bs[j].1.pred).toNat (by omega)
              have hSb : S (predIx ps rs[k].bs[j].1.pred).toNat ≤ 1000 := Nat.le_trans (hinv.low f0 (unhide HF0) _) (hfb _)
              have HPR := hide (fun nm w2 (hb2 : Below wr.heap.size wr w2) => pred_any w2 o rs ps _ _ _ _ nm (hm.kept ((Kept.refl [] _).of_below hb2) (by simp)))
              have HM := hide hm
              clear h2 hm hin hb12
              go_upto_region 12 with fail
              go_cut [7] (fun s wc => s = .int .i64 (S (predIx ps rs[k].bs[j].1.pred).toNat) ∧ Below (wr.alloc (Obj.cells #[Value.string rs[k].bs[j].1.pred, .slice at1 rs[k].bs[j].1.terms.length capt1, .bool rs[k].bs[j].1.no, .int .i64 rs[k].bs[j].1.at_, .int .i64 rs[k].bs[j].1.noAt] 243)).heap.size (wr.alloc (Obj.cells #[Value.string rs[k].bs[j].1.pred, .slice at1 rs[k].bs[j].1.terms.length capt1, .bool rs[k].bs[j].1.no, .int .i64 rs[k].bs[j].1.at_, .int .i64 rs[k].bs[j].1.noAt] 243)) wc)
              case first =>
                go_region_with (go_at_call 135; refine (unhide HPR _ _ (((Below.refl _ _).alloc (Nat.le_refl _) _).drew)).mono ?_; rintro e w1 ⟨rfl, rfl⟩)
                all_goals
                  go_wp2_with fail
                  go_meet
                  case rel => exact ⟨rfl, (Below.refl _ _).drew⟩
              case rest =>
                obtain ⟨rfl, hwc⟩ := hcut
                have hwr : Below wr.heap.size wr wc := ((Below.refl _ _).alloc (Nat.le_refl _) _).trans (hwc.mono (by simp))
                have hinv2 := hinv.kept hwr
                have hm2 := (unhide HM).kept ((Kept.refl [] _).of_below hwr) (by simp)
                have d3 := hm2.c3
                have d2 : wc.cell? ⟨wr.heap.size, 2, none⟩ = some (.bool rs[k].bs[j].1.no) := (hwc.cell (p := ⟨wr.heap.size, 2, none⟩) (by simp)).trans (by rw [World.cell?_alloc_at _ _ _ _ rfl]; rfl)
                have t2 := hinv2.row.cell (predIx ps rs[k].R.head.pred).toNat (by omega)
                have t3 := hinv2.row.fz (predIx ps rs[k].R.head.pred).toNat
                have hSh : S (predIx ps rs[k].R.head.pred).toNat ≤ 1000 := Nat.le_trans (hinv.low f0 (unhide HF0) _) (hfb _)
                have hlt2 := hm2.lt
                have hsz2 := hinv2.row.sz
                clear HPR HM hm2 hwc hwr hinv t1 c0 c3 q0 q1 q2 q3 q4 q5 p0 p1 p2 p3 p4 hgl hgbl hbt hltr hrs
                cases hno : rs[k].bs[j].1.no with
                | true =>
                  rw [hno] at d2
                  by_cases hup2 : S (predIx ps rs[k].R.head.pred).toNat < S (predIx ps rs[k].bs[j].1.pred).toNat + 1
                  · have hset := hinv2.set (R := rs[k].R) (List.mem_map.2 ⟨_, List.getElem_mem hlk, rfl⟩) (A := rs[k].bs[j].1) (by rw [hbeq]; exact List.mem_map.2 ⟨_, List.getElem_mem hjl, rfl⟩) (by unfold ixOf; omega)
                    have hlts := sum_lt (S := S) (i := (predIx ps rs[k].R.head.pred).toNat) (v := S (predIx ps rs[k].bs[j].1.pred).toNat + 1) hup2 ps.length (by omega)
                    rw [hno] at hset
                    simp only [if_true, ixOf, Int.natCast_add, Int.cast_ofNat_Int] at hset
                    have HSET := hide hset
                    have HLT := hide hlts
                    have hupI : (S (predIx ps rs[k].R.head.pred).toNat : Int) < (S (predIx ps rs[k].bs[j].1.pred).toNat : Int) + 1 := by omega
                    clear hset hlts hup2
                    go_wp2_with fail
                    go_roundg (rs[k].bs.length - (j + 1))
                    case measure => omega
                    case rel => exact ⟨true, _, j + 1, rfl, by omega, rfl, by go_num, unhide HSET, by have := unhide HLT; omega, fun _ => by have := unhide HLT; omega, by simp⟩
                  · have hkp : Keeps ps S rs[k].R.head.pred rs[k].bs[j].1 := by unfold Keeps ixOf; rw [hno]; simp; omega
                    have HKP := hide hkp
                    have hupI : ¬ (S (predIx ps rs[k].R.head.pred).toNat : Int) < (S (predIx ps rs[k].bs[j].1.pred).toNat : Int) + 1 := by omega
                    clear hkp hup2
                    go_wp2_with fail
                    go_roundg (rs[k].bs.length - (j + 1))
                    case measure => omega
                    case rel => exact ⟨b, S, j + 1, rfl, by omega, rfl, by go_num, hinv2, hsum, hup, fun e => ⟨(hval e).1, keeps_snoc hjl (hval e).2 (unhide HKP)⟩⟩
                | false =>
                  rw [hno] at d2
                  by_cases hup2 : S (predIx ps rs[k].R.head.pred).toNat < S (predIx ps rs[k].bs[j].1.pred).toNat
                  · have hset := hinv2.set (R := rs[k].R) (List.mem_map.2 ⟨_, List.getElem_mem hlk, rfl⟩) (A := rs[k].bs[j].1) (by rw [hbeq]; exact List.mem_map.2 ⟨_, List.getElem_mem hjl, rfl⟩) (by unfold ixOf; omega)
                    have hlts := sum_lt (S := S) (i := (predIx ps rs[k].R.head.pred).toNat) (v := S (predIx ps rs[k].bs[j].1.pred).toNat) hup2 ps.length (by omega)
                    rw [hno] at hset
                    simp only [if_false, Bool.false_eq_true, ixOf, Nat.add_zero] at hset
                    have HSET := hide hset
                    have HLT := hide hlts
                    have hupI : (S (predIx ps rs[k].R.head.pred).toNat : Int) < (S (predIx ps rs[k].bs[j].1.pred).toNat : Int) := by omega
                    clear hset hlts hup2
                    go_wp2_with fail
                    go_roundg (rs[k].bs.length - (j + 1))
                    case measure => omega
                    case rel => exact ⟨true, _, j + 1, rfl, by omega, rfl, by go_num, unhide HSET, by have := unhide HLT; omega, fun _ => by have := unhide HLT; omega, by simp⟩
                  · have hkp : Keeps ps S rs[k].R.head.pred rs[k].bs[j].1 := by unfold Keeps ixOf; rw [hno]; simp; omega
                    have HKP := hide hkp
                    have hupI : ¬ (S (predIx ps rs[k].R.head.pred).toNat : Int) < (S (predIx ps rs[k].bs[j].1.pred).toNat : Int) := by omega
                    clear hkp hup2
                    go_wp2_with fail
                    go_roundg (rs[k].bs.length - (j + 1))
                    case measure => omega
                    case rel => exact ⟨b, S, j + 1, rfl, by omega, rfl, by go_num, hinv2, hsum, hup, fun e => ⟨(hval e).1, keeps_snoc hjl (hval e).2 (unhide HKP)⟩⟩
            · clear h2 hm
              go_wp2_with fail
              go_roundg (rs.length - (k + 1))
              case measure => omega
              case rel => exact ⟨b, S, k + 1, rfl, by omega, rfl, by go_num, hinv, hsum, hup, fun e => valid_snoc hlk (hval e).1 (by rw [hbeq]; have := (hval e).2; rwa [List.take_of_length_le (by simp; omega)] at this)⟩
        · have hfull : (rs.map (·.R)).take k = rs.map (·.R) := List.take_of_length_le (by simp; omega)
          clear hm
          go_wp2_with fail
          go_roundg (if b then sumS f0 ps.length - sumS S ps.length + 1 else 0)
          case measure =>
            have hle := sum_le (hinv.low f0 (unhide HF0)) ps.length
            cases b with
            | false => simp at hgg ⊢; omega
            | true => have := hup rfl; simp at hgg ⊢; omega
          case rel => exact ⟨b, S, rfl, Nat.le_refl _, hinv, fun e => by have := hval e; rwa [hfull] at this⟩
end Go.Proofs.YtldkpahaocjdpaaGreat
