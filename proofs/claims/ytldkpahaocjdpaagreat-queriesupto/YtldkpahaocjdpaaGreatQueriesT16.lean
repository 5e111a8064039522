/-
  The reference's hangs: a new table, of which the marks are those of the plain text (hangsM).
  The reference's cycle: the place of the first not ahead of a predicate that is the head's, or hangs on it; -1 if there is none.
  Plain: numbers that keep to the rules (Valid), the least such (below every such), and how the strata lie in memory.
-/
import Derived.Test.YtldkpahaocjdpaaGreatQueriesT15
set_option maxHeartbeats 16000000
namespace Go.Proofs.YtldkpahaocjdpaaGreat
section
open Go.RowKit
set_option maxRecDepth 100000 in
theorem hangs_any (w : World) (o : Nat) (rs : List RR) (ps : List (ByteArray × Nat)) (rv pv tv sv : Value) (h : PMem w o rs ps rv pv tv sv) (hn : ps.length ≤ 1000) (hall : zhd ps (za3 rs)) :
  Calls Tryz.prog 190 #[.pointer (some ⟨o, 0, none⟩)] w fun e w' => e = .returned (.slice (some ⟨w.heap.size, 0, none⟩) ps.length ps.length) ∧ Mat w' w.heap.size ps.length ps.length (zb5 ps (rs.map (·.R))) ∧ Below w.heap.size w w' := by
 obtain ⟨ar, capr, rfl⟩ := zac h.rules
 obtain ⟨ap, capp, rfl⟩ := zac h.preds
 have hmx := zbt h.rules
 unfold maxLen at hmx
 have mk1 := make_rows ps.length hn
 have mk2 := make_row ps.length hn
 have c0 := h.c0
 have c1 := h.c1
 have hlt := h.lt
 have hpred : ∀ nm wr, Below w.heap.size w wr → Calls Tryz.prog 135 #[.pointer (some ⟨o, 0, none⟩), .string nm] wr fun e w' => e = .returned (.int .i64 (zak ps nm)) ∧ w' = wr := fun nm wr hb => zfe wr o rs ps _ _ _ _ nm (h.kept ((Kept.refl [] w).of_below hb) (by simp))
 have HPR := hide hpred
 have HH := hide h
 have HA := hide hall
 clear h hpred hall
 go_enter Tryz.func190, Tryz.ntmps190
 go_wp2_with fail
 go_loopw [5] (fun i wr => ∃ m : Nat, m ≤ ps.length ∧ i = .int .i64 m ∧ Mat wr w.heap.size ps.length m (fun _ _ => false) ∧ wr.heap.size = w.heap.size + 1 + m ∧ Below w.heap.size w wr) (fun i _ => ps.length - (intOf i).toNat)
 case atStart => exact ⟨0, Nat.zero_le _, rfl, Mat.start w ps.length, by simp, (Below.refl _ _).alloc (Nat.le_refl _) _⟩
 case round =>
  obtain ⟨m, hm, rfl, hmat, hsz, hb⟩ := hrel
  by_cases hml : m < ps.length
  ·obtain ⟨u, hu⟩ := hmat.some_ m hml
   have hfz := hmat.tfz m
   have hgs : w.heap.size < wr.heap.size := by omega
   have hrow := hmat.row hsz hml
   rw [World.setCell_alloc_past _ _ _ _ hgs] at hrow
   have HM := hide hrow
   have HS := hide hsz
   clear hrow
   clear hmat hsz c0 c1
   go_wp2_with fail
   go_roundw
   case rel => exact ⟨m + 1, by omega, by go_num, zaa HM, by have := zaa HS; simp; omega, (hb.setCell (Nat.le_refl _) _).alloc (by simp; omega) _⟩
   case measure => simp [intOf]; omega
  ·have hme : m = ps.length := by omega
   subst hme
   clear mk1 mk2 hsz hml hm c0 c1
   go_wp2_with fail
   go_loopg [6, 7, 8] rs.length (fun gg i h7 k8 wr => ∃ (k : Nat) (M : Nat → Nat → Bool), k ≤ rs.length ∧ gg = rs.length - k ∧ i = .int .i64 k ∧ Mat wr w.heap.size ps.length ps.length M ∧ Below w.heap.size w wr ∧ zb5 ps (rs.map (·.R)) = fwM ps.length (zib ps ((rs.map (·.R)).drop k) M) 0)
   case atStart => exact ⟨0, _, Nat.zero_le _, rfl, rfl, hmat, hb, rfl⟩
   case round =>
    clear hmat hb
    obtain ⟨k, M, hk, hgk, rfl, hmat, hb, hfin⟩ := hrel
    have HF := hide hfin
    clear hfin
    have hm := (zaa HH).kept ((Kept.refl [] w).of_below hb) (by simp)
    have c0 := hm.c0
    by_cases hlk : k < rs.length
    ·obtain ⟨g, cap, hv, hbg, hgl, hnc, hcm, q0, q1, q2, q3, q4, q5⟩ := zcj hm.rules k hlk
     injection hv with h1 h2 h3
     subst h1 h3
     have hin := hm.each _ (List.getElem_mem hlk)
     obtain ⟨ab, capb, hbv⟩ := zac hin.bo
     have hbmx := zbt hin.bo
     unfold maxLen at hbmx
     rw [hbv] at q5
     have hbeq := hin.eq
     have HF2 := hide ((zaa HF).trans (congrArg (fun X => fwM ps.length X 0) (edges_step hlk)))
     have hx0 := ziu (zaa HA) hlk
     have hx1 : zak ps rs[k].R.head.pred < ps.length := by have := zcc hx0; omega
     clear HF h2
     go_wp2_with fail
     refine (zaa HPR _ wr hb).mono ?_
     rintro e w1 ⟨rfl, rfl⟩
     go_wp2_with fail
     go_loopg [8] rs[k].bs.length (fun gg i wr => ∃ (j : Nat) (M : Nat → Nat → Bool), j ≤ rs[k].bs.length ∧ gg = rs[k].bs.length - j ∧ i = .int .i64 j ∧ Mat wr w.heap.size ps.length ps.length M ∧ Below w.heap.size w wr ∧ zb5 ps (rs.map (·.R)) = fwM ps.length (zib ps ((rs.map (·.R)).drop (k + 1)) (zhg ps (ixOf ps rs[k].R.head.pred) ((rs[k].bs.map (·.1)).drop j) M)) 0)
     case atStart => exact ⟨0, M, Nat.zero_le _, rfl, rfl, hmat, hb, by rw [List.drop_zero, ← hbeq]; exact zaa HF2⟩
     case round =>
      clear hmat hb HF2 hm c0 q0 q1 q2 q3 q4 q5 hin hgl
      obtain ⟨j, M, hj, hgj, rfl, hmat, hb, hfin⟩ := hrel
      have HF := hide hfin
      clear hfin
      have hm := (zaa HH).kept ((Kept.refl [] w).of_below hb) (by simp)
      have c0 := hm.c0
      obtain ⟨g', cap', hv', hbg', hgl, hnc', hcm', q0, q1, q2, q3, q4, q5⟩ := zcj hm.rules k hlk
      injection hv' with h1 h2 h3
      injection h1 with h1
      injection h1 with h1
      subst h1 h3
      have hin := hm.each _ (List.getElem_mem hlk)
      rw [hbv] at q5
      by_cases hjl : j < rs[k].bs.length
      ·obtain ⟨gb, capb2, hvb, hbgb, hgbl, hncb, hcmb, p0, p1, p2, p3, p4⟩ := zcx hin.bo j hjl
       rw [hbv] at hvb
       injection hvb with hb11 hb12 hb13
       subst hb11 hb13
       have HF2 := hide ((zaa HF).trans (congrArg (fun X => fwM ps.length (zib ps ((rs.map (·.R)).drop (k + 1)) X) 0) (zqd hjl)))
       have hy0 := zis (zaa HA) hlk hbeq hjl
       have hy1 : zak ps rs[k].bs[j].1.pred < ps.length := by have := zcc hy0; omega
       have t1 := hmat.top (zak ps rs[k].R.head.pred).toNat (by omega)
       have t2 := hmat.cell (zak ps rs[k].R.head.pred).toNat (zak ps rs[k].bs[j].1.pred).toNat (by omega) (by omega)
       have t3 := hmat.fz (zak ps rs[k].R.head.pred).toNat (zak ps rs[k].bs[j].1.pred).toNat (by omega)
       have HM := hide (hmat.set (ixOf ps rs[k].R.head.pred) (ixOf ps rs[k].bs[j].1.pred) (by unfold ixOf; omega) (by unfold ixOf; omega))
       have HMS := hide hmat.sz
       clear HF h2 hm hmat hin hb12
       go_wp2_with fail
       go_region_with (go_at_call 135; refine (zaa HPR _ _ hb.drew).mono ?_; rintro e w1 ⟨rfl, rfl⟩)
       all_goals
        go_wp2_with fail
        go_roundg (rs[k].bs.length - (j + 1))
        case measure => omega
        case rel => exact ⟨j + 1, _, by omega, rfl, by go_num, (zaa HM).kept ((Kept.refl [] _).drew) (by simp), (hb.setCell (by simp; omega) _).drew, zaa HF2⟩
      ·have hje : (rs[k].bs.map (·.1)).drop j = [] := List.drop_of_length_le (by simp; omega)
       have HF2 := hide (show zb5 ps (rs.map (·.R)) = fwM ps.length (zib ps ((rs.map (·.R)).drop (k + 1)) M) 0 by rw [zaa HF, hje]; rfl)
       clear HF h2 hm
       go_wp2_with fail
       go_roundg (rs.length - (k + 1))
       case measure => omega
       case rel => exact ⟨k + 1, M, by omega, rfl, by go_num, hmat, hb, zaa HF2⟩
    ·have hke : (rs.map (·.R)).drop k = [] := List.drop_of_length_le (by simp; omega)
     have HF2 := hide (show zb5 ps (rs.map (·.R)) = fwM ps.length M 0 by rw [zaa HF, hke]; rfl)
     clear HF hm
     go_wp2_with fail
     clear c0
     go_loopg [9, 10, 11] ps.length (fun gg m9 i10 k11 wr => ∃ (m : Nat) (M : Nat → Nat → Bool), m ≤ ps.length ∧ gg = ps.length - m ∧ m9 = .int .i64 m ∧ Mat wr w.heap.size ps.length ps.length M ∧ Below w.heap.size w wr ∧ zb5 ps (rs.map (·.R)) = fwM ps.length M m)
     case atStart => exact ⟨0, M, Nat.zero_le _, rfl, rfl, hmat, hb, zaa HF2⟩
     case round =>
      clear hmat hb HF2
      obtain ⟨m, M, hm, hgm, rfl, hmat, hb, hfin⟩ := hrel
      have HF := hide hfin
      clear hfin
      by_cases hml : m < ps.length
      ·have HF2 := hide ((zaa HF).trans (fwM_go hml))
       clear HF
       go_wp2_with fail
       go_loopg [10, 11] ps.length (fun gg i10 k11 wr => ∃ (i : Nat) (M : Nat → Nat → Bool), i ≤ ps.length ∧ gg = ps.length - i ∧ i10 = .int .i64 i ∧ Mat wr w.heap.size ps.length ps.length M ∧ Below w.heap.size w wr ∧ zb5 ps (rs.map (·.R)) = fwM ps.length (fwI ps.length m M i) (m + 1))
       case atStart => exact ⟨0, M, Nat.zero_le _, rfl, rfl, hmat, hb, zaa HF2⟩
       case round =>
        clear hmat hb HF2
        obtain ⟨i, M, hi, hgi, rfl, hmat, hb, hfin⟩ := hrel
        have HF := hide hfin
        clear hfin
        by_cases hil : i < ps.length
        ·have HF2 := hide ((zaa HF).trans (congrArg (fun X => fwM ps.length X (m + 1)) (fwI_go hil)))
         clear HF
         go_wp2_with fail
         go_loopg [11] ps.length (fun gg k11 wr => ∃ (k : Nat) (M : Nat → Nat → Bool), k ≤ ps.length ∧ gg = ps.length - k ∧ k11 = .int .i64 k ∧ Mat wr w.heap.size ps.length ps.length M ∧ Below w.heap.size w wr ∧ zb5 ps (rs.map (·.R)) = fwM ps.length (fwI ps.length m (fwK ps.length m i M k) (i + 1)) (m + 1))
         case atStart => exact ⟨0, M, Nat.zero_le _, rfl, rfl, hmat, hb, zaa HF2⟩
         case round =>
          clear hmat hb HF2
          obtain ⟨k, M, hk, hgk, rfl, hmat, hb, hfin⟩ := hrel
          have HF := hide hfin
          clear hfin
          by_cases hkl : k < ps.length
          ·have hst := (zaa HF).trans (congrArg (fun X => fwM ps.length (fwI ps.length m X (i + 1)) (m + 1)) (fwK_go hkl))
           have t1 := hmat.top i hil
           have t2 := hmat.cell i m hil hml
           have t3 := hmat.top m hml
           have t4 := hmat.cell m k hml hkl
           have t5 := hmat.cell i k hil hkl
           have t6 := hmat.fz i k hil
           cases e1 : M i m with
           | false =>
            rw [e1] at t2
            rw [e1, Bool.false_and, if_neg (by decide)] at hst
            have HF2 := hide hst
            clear HF hst t5
            go_wp2_with fail
            go_roundg (ps.length - (k + 1))
            case measure => omega
            case rel => exact ⟨k + 1, M, by omega, rfl, by go_num, hmat, hb, zaa HF2⟩
           | true =>
            rw [e1] at t2
            cases e2 : M m k with
            | false =>
             rw [e2] at t4
             rw [e1, e2, Bool.and_false, if_neg (by decide)] at hst
             have HF2 := hide hst
             clear HF hst t5
             go_wp2_with fail
             go_roundg (ps.length - (k + 1))
             case measure => omega
             case rel => exact ⟨k + 1, M, by omega, rfl, by go_num, hmat, hb, zaa HF2⟩
            | true =>
             rw [e2] at t4
             rw [e1, e2, Bool.and_true, if_pos rfl] at hst
             have HF2 := hide hst
             have HM := hide (hmat.set i k hil hkl)
             clear HF hst
             go_wp2_with fail
             go_roundg (ps.length - (k + 1))
             case measure => omega
             case rel => exact ⟨k + 1, _, by omega, rfl, by go_num, zaa HM, hb.setCell (by simp; omega) _, zaa HF2⟩
          ·have HF2 := hide ((zaa HF).trans (congrArg (fun X => fwM ps.length (fwI ps.length m X (i + 1)) (m + 1)) (fwK_end hkl)))
           clear HF
           go_wp2_with fail
           go_roundg (ps.length - (i + 1))
           case measure => omega
           case rel => exact ⟨i + 1, M, by omega, rfl, by go_num, hmat, hb, zaa HF2⟩
        ·have HF2 := hide ((zaa HF).trans (congrArg (fun X => fwM ps.length X (m + 1)) (fwI_end hil)))
         clear HF
         go_wp2_with fail
         go_roundg (ps.length - (m + 1))
         case measure => omega
         case rel => exact ⟨m + 1, M, by omega, rfl, by go_num, hmat, hb, zaa HF2⟩
      ·have HF2 := hide ((zaa HF).trans (zqe hml))
       clear HF
       go_wp2_with fail
       go_ret
       exact ⟨rfl, by rw [zaa HF2]; exact hmat, hb⟩
end
section
open Go.RowKit
def cycB (ps : List (ByteArray × Nat)) (H : Nat → Nat → Bool) (hd : ByteArray) (A : RAtom) : Bool := A.no && (zak ps A.pred == zak ps hd || H (ixOf ps A.pred) (ixOf ps hd))
def zc3 (ps : List (ByteArray × Nat)) (H : Nat → Nat → Bool) (hd : ByteArray) : List RAtom → Int
 | [] => -1
 | A :: r => if cycB ps H hd A then A.noAt else zc3 ps H hd r
def zb8 (ps : List (ByteArray × Nat)) (H : Nat → Nat → Bool) : List RRule → Int
 | [] => -1
 | R :: r => if 0 ≤ zc3 ps H R.head.pred R.body then zc3 ps H R.head.pred R.body else zb8 ps H r
theorem cycle_step {ps : List (ByteArray × Nat)} {H : Nat → Nat → Bool} {rs : List RR} {k : Nat} (h : k < rs.length) : zb8 ps H ((rs.map (·.R)).drop k) = if 0 ≤ zc3 ps H rs[k].R.head.pred rs[k].R.body then zc3 ps H rs[k].R.head.pred rs[k].R.body else zb8 ps H ((rs.map (·.R)).drop (k + 1)) := by
 rw [List.drop_eq_getElem_cons (by simpa using h)]; simp [zb8]
theorem zoy {ps : List (ByteArray × Nat)} {H : Nat → Nat → Bool} {hd : ByteArray} {bs : List (RAtom × Value)} {j : Nat} (h : j < bs.length) : zc3 ps H hd ((bs.map (·.1)).drop j) = if cycB ps H hd bs[j].1 then (bs[j].1.noAt : Int) else zc3 ps H hd ((bs.map (·.1)).drop (j + 1)) := by
 rw [zgq h]; rfl
set_option maxRecDepth 100000 in
theorem cycle_any (w : World) (o : Nat) (rs : List RR) (ps : List (ByteArray × Nat)) (rv pv tv sv : Value) (h : PMem w o rs ps rv pv tv sv) (hn : ps.length ≤ 1000) (hall : zhd ps (za3 rs)) :
  Calls Tryz.prog 128 #[.pointer (some ⟨o, 0, none⟩)] w fun e w' => e = .returned (.int .i64 (zb8 ps (zb5 ps (rs.map (·.R))) (rs.map (·.R)))) ∧ Below w.heap.size w w' := by
 have hh := hangs_any w o rs ps rv pv tv sv h hn hall
 obtain ⟨ar, capr, rfl⟩ := zac h.rules
 have hmx := zbt h.rules
 unfold maxLen at hmx
 have hlt := h.lt
 have hpred : ∀ nm wr, Below w.heap.size w wr → Calls Tryz.prog 135 #[.pointer (some ⟨o, 0, none⟩), .string nm] wr fun e w' => e = .returned (.int .i64 (zak ps nm)) ∧ w' = wr := fun nm wr hb => zfe wr o rs ps _ _ _ _ nm (h.kept ((Kept.refl [] w).of_below hb) (by simp))
 have HPR := hide hpred
 have HH := hide h
 have HA := hide hall
 have HG := hide hh
 clear h hpred hall hh
 generalize zb5 ps (rs.map (·.R)) = H at *
 go_enter Tryz.func128, Tryz.ntmps128
 go_wp2_with fail
 refine (zaa HG).mono ?_
 rintro e w1 ⟨rfl, hmat1, hb1⟩
 clear HG
 go_wp2_with fail
 go_loopg [4, 5, 6, 7, 8] rs.length (fun gg i h5 k6 l7 q8 wr => ∃ k : Nat, k ≤ rs.length ∧ gg = rs.length - k ∧ i = .int .i64 k ∧ Mat wr w.heap.size ps.length ps.length H ∧ Below w.heap.size w wr ∧ zb8 ps H (rs.map (·.R)) = zb8 ps H ((rs.map (·.R)).drop k))
 case atStart => exact ⟨0, Nat.zero_le _, rfl, rfl, hmat1, hb1, rfl⟩
 case round =>
  clear hmat1 hb1
  obtain ⟨k, hk, hgk, rfl, hmat, hb, hfin⟩ := hrel
  have HF := hide hfin
  clear hfin
  have hm := (zaa HH).kept ((Kept.refl [] w).of_below hb) (by simp)
  have c0 := hm.c0
  by_cases hlk : k < rs.length
  ·obtain ⟨g, cap, hv, hbg, hgl, hnc, hcm, q0, q1, q2, q3, q4, q5⟩ := zcj hm.rules k hlk
   injection hv with h1 h2 h3
   subst h1 h3
   have hin := hm.each _ (List.getElem_mem hlk)
   obtain ⟨ab, capb, hbv⟩ := zac hin.bo
   have hbmx := zbt hin.bo
   unfold maxLen at hbmx
   rw [hbv] at q5
   have hbeq := hin.eq
   have HF2 := hide ((zaa HF).trans (cycle_step hlk))
   have hx0 := ziu (zaa HA) hlk
   have hx1 : zak ps rs[k].R.head.pred < ps.length := by have := zcc hx0; omega
   clear HF h2
   go_wp2_with fail
   refine (zaa HPR _ wr hb).mono ?_
   rintro e w1 ⟨rfl, rfl⟩
   go_wp2_with fail
   go_loopg [6, 7, 8] rs[k].bs.length (fun gg i l7 q8 wr => ∃ j : Nat, j ≤ rs[k].bs.length ∧ gg = rs[k].bs.length - j ∧ i = .int .i64 j ∧ Mat wr w.heap.size ps.length ps.length H ∧ Below w.heap.size w wr ∧ zb8 ps H (rs.map (·.R)) = if 0 ≤ zc3 ps H rs[k].R.head.pred ((rs[k].bs.map (·.1)).drop j) then zc3 ps H rs[k].R.head.pred ((rs[k].bs.map (·.1)).drop j) else zb8 ps H ((rs.map (·.R)).drop (k + 1)))
   case atStart => exact ⟨0, Nat.zero_le _, rfl, rfl, hmat, hb, by rw [List.drop_zero, ← hbeq]; exact zaa HF2⟩
   case round =>
    clear hmat hb HF2 hm c0 q0 q1 q2 q3 q4 q5 hin hgl
    obtain ⟨j, hj, hgj, rfl, hmat, hb, hfin⟩ := hrel
    have HF := hide hfin
    clear hfin
    have hm := (zaa HH).kept ((Kept.refl [] w).of_below hb) (by simp)
    have c0 := hm.c0
    obtain ⟨g', cap', hv', hbg', hgl, hnc', hcm', q0, q1, q2, q3, q4, q5⟩ := zcj hm.rules k hlk
    injection hv' with h1 h2 h3
    injection h1 with h1
    injection h1 with h1
    subst h1 h3
    have hin := hm.each _ (List.getElem_mem hlk)
    rw [hbv] at q5
    by_cases hjl : j < rs[k].bs.length
    ·obtain ⟨gb, capb2, hvb, hbgb, hgbl, hncb, hcmb, p0, p1, p2, p3, p4⟩ := zcx hin.bo j hjl
     rw [hbv] at hvb
     injection hvb with hb11 hb12 hb13
     subst hb11 hb13
     obtain ⟨at1, capt1, hbt⟩ := zac (hin.bl _ (List.getElem_mem hjl))
     rw [hbt] at p1
     have hst := (zaa HF).trans (by rw [zoy hjl])
     have hy0 := zis (zaa HA) hlk hbeq hjl
     have hy1 : zak ps rs[k].bs[j].1.pred < ps.length := by have := zcc hy0; omega
     have hsz := hmat.sz
     have hgw : w.heap.size < wr.heap.size := by omega
     have hgw2 : w.heap.size + 1 + (zak ps rs[k].bs[j].1.pred).toNat < wr.heap.size := by omega
     have t1 := hmat.top (zak ps rs[k].bs[j].1.pred).toNat (by omega)
     have t2 := hmat.cell (zak ps rs[k].bs[j].1.pred).toNat (zak ps rs[k].R.head.pred).toNat (by omega) (by omega)
     have HM := hide (hmat.kept ((Kept.refl [] _).alloc (.cells #[.string rs[k].bs[j].1.pred, .slice at1 rs[k].bs[j].1.terms.length capt1, .bool rs[k].bs[j].1.no, .int .i64 rs[k].bs[j].1.at_, .int .i64 rs[k].bs[j].1.noAt] 243)) (by simp))
     clear HF h2 hm hmat hin hb12
     have hun : cycB ps H rs[k].R.head.pred rs[k].bs[j].1 = (rs[k].bs[j].1.no && (zak ps rs[k].bs[j].1.pred == zak ps rs[k].R.head.pred || H (zak ps rs[k].bs[j].1.pred).toNat (zak ps rs[k].R.head.pred).toNat)) := rfl
     cases hno : rs[k].bs[j].1.no with
     | false =>
      rw [hno] at p2 HM
      have hcb : cycB ps H rs[k].R.head.pred rs[k].bs[j].1 = false := by rw [hun, hno]; rfl
      clear hun
      have HF2 := hide (show zb8 ps H (rs.map (·.R)) = if 0 ≤ zc3 ps H rs[k].R.head.pred ((rs[k].bs.map (·.1)).drop (j + 1)) then zc3 ps H rs[k].R.head.pred ((rs[k].bs.map (·.1)).drop (j + 1)) else zb8 ps H ((rs.map (·.R)).drop (k + 1)) by rw [hst, hcb]; simp)
      clear hst hcb
      go_wp2_with fail
      refine (zaa HPR _ _ (hb.alloc (by omega) _)).mono ?_
      rintro e w1 ⟨rfl, rfl⟩
      go_wp2_with fail
      go_roundg (rs[k].bs.length - (j + 1))
      case measure => omega
      case rel => exact ⟨j + 1, by omega, rfl, by go_num, zaa HM, hb.alloc (by omega) _, zaa HF2⟩
     | true =>
      rw [hno] at p2 HM
      cases heq : (zak ps rs[k].bs[j].1.pred == zak ps rs[k].R.head.pred) with
      | true =>
       have hcb : cycB ps H rs[k].R.head.pred rs[k].bs[j].1 = true := by rw [hun, hno, heq]; rfl
       clear hun
       have HF2 := hide (show zb8 ps H (rs.map (·.R)) = (rs[k].bs[j].1.noAt : Int) by rw [hst, hcb]; simp)
       clear hst hcb
       go_wp2_with fail
       refine (zaa HPR _ _ (hb.alloc (by omega) _)).mono ?_
       rintro e w1 ⟨rfl, rfl⟩
       go_wp2_with fail
       go_ret
       exact ⟨by rw [zaa HF2]; rfl, hb.alloc (by omega) _⟩
      | false =>
       cases hH : H (zak ps rs[k].bs[j].1.pred).toNat (zak ps rs[k].R.head.pred).toNat with
       | true =>
        have hcb : cycB ps H rs[k].R.head.pred rs[k].bs[j].1 = true := by rw [hun, hno, heq, hH]; rfl
        clear hun
        rw [hH] at t2
        have HF2 := hide (show zb8 ps H (rs.map (·.R)) = (rs[k].bs[j].1.noAt : Int) by rw [hst, hcb]; simp)
        clear hst hcb
        go_wp2_with fail
        refine (zaa HPR _ _ (hb.alloc (by omega) _)).mono ?_
        rintro e w1 ⟨rfl, rfl⟩
        go_wp2_with fail
        go_ret
        exact ⟨by rw [zaa HF2]; rfl, hb.alloc (by omega) _⟩
       | false =>
        have hcb : cycB ps H rs[k].R.head.pred rs[k].bs[j].1 = false := by rw [hun, hno, heq, hH]; rfl
        clear hun
        rw [hH] at t2
        have HF2 := hide (show zb8 ps H (rs.map (·.R)) = if 0 ≤ zc3 ps H rs[k].R.head.pred ((rs[k].bs.map (·.1)).drop (j + 1)) then zc3 ps H rs[k].R.head.pred ((rs[k].bs.map (·.1)).drop (j + 1)) else zb8 ps H ((rs.map (·.R)).drop (k + 1)) by rw [hst, hcb]; simp)
        clear hst hcb
        go_wp2_with fail
        refine (zaa HPR _ _ (hb.alloc (by omega) _)).mono ?_
        rintro e w1 ⟨rfl, rfl⟩
        go_wp2_with fail
        go_roundg (rs[k].bs.length - (j + 1))
        case measure => omega
        case rel => exact ⟨j + 1, by omega, rfl, by go_num, zaa HM, hb.alloc (by omega) _, zaa HF2⟩
    ·have hje : (rs[k].bs.map (·.1)).drop j = [] := List.drop_of_length_le (by simp; omega)
     have HF2 := hide (show zb8 ps H (rs.map (·.R)) = zb8 ps H ((rs.map (·.R)).drop (k + 1)) by rw [zaa HF, hje]; simp [zc3])
     clear HF h2 hm
     go_wp2_with fail
     go_roundg (rs.length - (k + 1))
     case measure => omega
     case rel => exact ⟨k + 1, by omega, rfl, by go_num, hmat, hb, zaa HF2⟩
  ·have HF2 := hide (show zb8 ps H (rs.map (·.R)) = -1 by rw [zaa HF, List.drop_of_length_le (by simp; omega)]; rfl)
   clear HF hm
   go_wp2_with fail
   go_ret
   exact ⟨by rw [zaa HF2]; rfl, hb⟩
end
section
open Go.RowKit
def zin (ps : List (ByteArray × Nat)) (f : Nat → Nat) (hd : ByteArray) (A : RAtom) : Prop := f (ixOf ps A.pred) + (if A.no then 1 else 0) ≤ f (ixOf ps hd)
def zgz (ps : List (ByteArray × Nat)) (rs : List RRule) (f : Nat → Nat) : Prop := ∀ R ∈ rs, ∀ A ∈ R.body, zin ps f R.head.pred A
def Low (ps : List (ByteArray × Nat)) (rs : List RRule) (S : Nat → Nat) : Prop := ∀ f, zgz ps rs f → ∀ i, S i ≤ f i
def setS (S : Nat → Nat) (i v : Nat) : Nat → Nat := fun a => if a = i then v else S a
def sumS (S : Nat → Nat) : Nat → Nat
 | 0 => 0
 | n + 1 => sumS S n + S n
theorem sum_le {S T : Nat → Nat} (h : ∀ i, S i ≤ T i) : ∀ n, sumS S n ≤ sumS T n
 | 0 => Nat.le_refl _
 | n + 1 => by have := sum_le h n; have := h n; simp only [sumS]; omega
theorem sum_lt {S : Nat → Nat} {i v : Nat} (hv : S i < v) : ∀ n, i < n → sumS S n < sumS (setS S i v) n
 | 0, h => by omega
 | n + 1, h => by
  simp only [sumS]
  by_cases e : i = n
  ·subst e
   have h1 : sumS S i ≤ sumS (setS S i v) i := sum_le (fun a => by unfold setS; split; rename_i e; subst e; omega; exact Nat.le_refl _) i
   have h2 : setS S i v i = v := by simp [setS]
   omega
  ·have h1 := sum_lt hv n (by omega)
   have h2 : setS S i v n = S n := by unfold setS; rw [if_neg (by omega)]
   omega
theorem low_set {ps : List (ByteArray × Nat)} {rs : List RRule} {S : Nat → Nat} (h : Low ps rs S) {R : RRule} (hR : R ∈ rs) {A : RAtom} (hA : A ∈ R.body) : Low ps rs (setS S (ixOf ps R.head.pred) (S (ixOf ps A.pred) + (if A.no then 1 else 0))) := by
 intro f hf i
 unfold setS
 split
 ·rename_i e; subst e
  have h1 := hf R hR A hA
  have h2 := h f hf (ixOf ps A.pred)
  unfold zin at h1
  omega
 ·exact h f hf i
structure SRow (w : World) (gs n : Nat) (S : Nat → Nat) : Prop where
 sz : gs < w.heap.size
 cell : ∀ i, i < n → w.cell? ⟨gs, i, none⟩ = some (.int .i64 (S i))
 fz : ∀ j, w.frozen? ⟨gs, j, none⟩ = false
theorem SRow.kept {w w' : World} {gs n : Nat} {S : Nat → Nat} (h : SRow w gs n S) (k : Kept [] w w') : SRow w' gs n S :=
 ⟨Nat.lt_of_lt_of_le h.sz k.size, fun i hi => (k.cell (p := ⟨gs, i, none⟩) h.sz (by simp)).trans (h.cell i hi), fun j => (k.frozen (p := ⟨gs, j, none⟩) h.sz (by simp)).trans (h.fz j)⟩
theorem SRow.set {w : World} {gs n : Nat} {S : Nat → Nat} (h : SRow w gs n S) (i v : Nat) (hi : i < n) : SRow (w.setCell ⟨gs, i, none⟩ (.int .i64 v)) gs n (setS S i v) := by
 refine ⟨by simpa using h.sz, fun a ha => ?_, fun j => by simpa using h.fz j⟩
 by_cases e : a = i
 ·subst e; rw [zim (h.cell a ha)]; simp [setS]
 ·rw [zd2 (by omega), h.cell a ha]; simp [setS, e]
theorem make_ints (n : Nat) (hn : n ≤ 1000) (u : World) : (Instr.makeSlice 24 (.int .i64 n) (.int .i64 n)).run Tryz.prog u = .ok (.slice (some ⟨u.heap.size, 0, none⟩) n n) (u.alloc (.cells (madeCells #[.int .i64 0] n) 3)) := by
 obtain ⟨i0, hi, hz0, hz1, hz2⟩ := info_parts zqs
 have h := run_make (P := Tryz.prog) u 24 3 i0 (.int .i64 0) Tryz.underlying24 hi hz0 .i64 .i64 (n : Int) (n : Int) (by omega) (Int.le_refl _) (by rw [hz2]; omega) (by omega)
 simpa [hz1, Value.cells] using h
theorem SRow.start (w : World) (n : Nat) : SRow (w.alloc (.cells (madeCells #[.int .i64 0] n) 3)) w.heap.size n (fun _ => 0) :=
 ⟨by simp, fun i hi => by rw [World.cell?_alloc_at _ _ _ _ rfl, zmt _ _ _ hi]; rfl, fun j => by rw [World.frozen?_alloc_at _ _ _ _ rfl]⟩
theorem PMem2.setS {w : World} {o : Nat} {rs : List RR} {ps qs : List (ByteArray × Nat)} {rv pv tv sv : Value} (h : PMem2 w o rs ps qs rv pv tv sv) (v' : Value) : PMem2 (w.setCell ⟨o, 3, none⟩ v') o rs ps qs rv pv tv v' := by
 have far : ∀ {e : TypeId} {size : Nat} {v : Value} {n : Nat} {xs : List Value}, w.ownsRow (o + 1) e size v n xs → (w.setCell ⟨o, 3, none⟩ v').ownsRow (o + 1) e size v n xs := fun hx => ownsRow_setCell_below hx (by simp) _
 exact ⟨by simpa using h.lt, by rw [zd2 (by omega)]; exact h.c0, by rw [zd2 (by omega)]; exact h.c1, by rw [zd2 (by omega)]; exact h.c2, zim h.c3, fun j => by simpa using h.fz j, far h.rules, fun r hr => ⟨far (h.each r hr).hd, far (h.each r hr).bo, fun x hx => far ((h.each r hr).bl x hx), (h.each r hr).eq⟩, far h.preds, far h.terms⟩
theorem valid_snoc {ps : List (ByteArray × Nat)} {rs : List RR} {k : Nat} {S : Nat → Nat} (hk : k < rs.length) (h : zgz ps ((rs.map (·.R)).take k) S) (hb : ∀ A ∈ rs[k].R.body, zin ps S rs[k].R.head.pred A) : zgz ps ((rs.map (·.R)).take (k + 1)) S := by
 intro R hR
 rw [List.take_succ_eq_append_getElem (by simpa using hk)] at hR
 rcases List.mem_append.1 hR with hR | hR
 ·exact h R hR
 ·simp at hR; subst hR; exact hb
theorem zl4 {ps : List (ByteArray × Nat)} {bs : List (RAtom × Value)} {j : Nat} {S : Nat → Nat} {hd : ByteArray} (hj : j < bs.length) (h : ∀ A ∈ (bs.map (·.1)).take j, zin ps S hd A) (hb : zin ps S hd bs[j].1) : ∀ A ∈ (bs.map (·.1)).take (j + 1), zin ps S hd A := by
 intro A hA
 rw [List.take_succ_eq_append_getElem (by simpa using hj)] at hA
 rcases List.mem_append.1 hA with hA | hA
 ·exact h A hA
 ·simp at hA; subst hA; exact hb
structure LInv (w1 : World) (G n : Nat) (ps : List (ByteArray × Nat)) (rs : List RRule) (S : Nat → Nat) (wr : World) : Prop where
 below : Below G w1 wr
 row : SRow wr G n S
 low : Low ps rs S
theorem LInv.kept {w1 : World} {G n : Nat} {ps : List (ByteArray × Nat)} {rs : List RRule} {S : Nat → Nat} {wr w2 : World} (h : LInv w1 G n ps rs S wr) (k : Below wr.heap.size wr w2) : LInv w1 G n ps rs S w2 :=
 ⟨h.below.trans (k.mono (by have := h.row.sz; omega)), h.row.kept ((Kept.refl [] _).of_below k), h.low⟩
theorem LInv.set {w1 : World} {G n : Nat} {ps : List (ByteArray × Nat)} {rs : List RRule} {S : Nat → Nat} {wr : World} (h : LInv w1 G n ps rs S wr) {R : RRule} (hR : R ∈ rs) {A : RAtom} (hA : A ∈ R.body) (hi : ixOf ps R.head.pred < n) : LInv w1 G n ps rs (setS S (ixOf ps R.head.pred) (S (ixOf ps A.pred) + (if A.no then 1 else 0))) (wr.setCell ⟨G, ixOf ps R.head.pred, none⟩ (.int .i64 ((S (ixOf ps A.pred) + (if A.no then 1 else 0) : Nat)))) :=
 ⟨h.below.setCell (Nat.le_refl _) _, h.row.set _ _ hi, low_set h.low hR hA⟩
end
end Go.Proofs.YtldkpahaocjdpaaGreat
