/-
  The reference's layer: where some numbers keep to the rules, it ends, and the strata are the least such.
  Plain: what the reference's Load answers; how the rules that were read lie in memory.
  Plain: where no predicate has two numbers of terms all are there; where nothing hangs on its own not being so, some numbers keep to the rules.
-/
import Derived.Test.YtldkpahaocjdpaaGreatQueriesT16
set_option maxHeartbeats 16000000
namespace Go.Proofs.YtldkpahaocjdpaaGreat
section
open Go.RowKit
set_option maxRecDepth 100000 in
theorem layer_any (w : World) (o : Nat) (rs : List RR) (ps : List (ByteArray × Nat)) (rv pv tv sv : Value) (h : PMem w o rs ps rv pv tv sv) (hn : ps.length ≤ 1000) (hall : zhd ps (za3 rs)) (f0 : Nat → Nat) (hf0 : zgz ps (rs.map (·.R)) f0) (hfb : ∀ i, f0 i ≤ 1000) :
  Calls Tryz.prog 129 #[.pointer (some ⟨o, 0, none⟩)] w fun e w' => e = .returned (.tuple #[]) ∧ ∃ S, PMem w' o rs ps rv pv tv (.slice (some ⟨w.heap.size, 0, none⟩) ps.length ps.length) ∧ SRow w' w.heap.size ps.length S ∧ zgz ps (rs.map (·.R)) S ∧ Low ps (rs.map (·.R)) S ∧ Below o w w' := by
 obtain ⟨ar, capr, rfl⟩ := zac h.rules
 obtain ⟨ap, capp, rfl⟩ := zac h.preds
 have hmx := zbt h.rules
 unfold maxLen at hmx
 have mk := make_ints ps.length hn
 have hlt := h.lt
 have c1 := h.c1
 have c3 := h.c3
 have fz := h.fz 3
 have h1 := h.setS (.slice (some ⟨w.heap.size, 0, none⟩) ps.length ps.length)
 have hbo : Below o w (w.setCell ⟨o, 3, none⟩ (.slice (some ⟨w.heap.size, 0, none⟩) ps.length ps.length)) := (Below.refl o w).setCell (p := ⟨o, 3, none⟩) (Nat.le_refl _) _
 have hsz1 : (w.setCell ⟨o, 3, none⟩ (.slice (some ⟨w.heap.size, 0, none⟩) ps.length ps.length)).heap.size = w.heap.size := by simp
 have hst0 : LInv (w.setCell ⟨o, 3, none⟩ (.slice (some ⟨w.heap.size, 0, none⟩) ps.length ps.length)) w.heap.size ps.length ps (rs.map (·.R)) (fun _ => 0) ((w.setCell ⟨o, 3, none⟩ (.slice (some ⟨w.heap.size, 0, none⟩) ps.length ps.length)).alloc (.cells (madeCells #[.int .i64 0] ps.length) 3)) := by
  refine ⟨(Below.refl _ _).alloc (by omega) _, ?_, fun f _ i => Nat.zero_le _⟩
  have := SRow.start (w.setCell ⟨o, 3, none⟩ (.slice (some ⟨w.heap.size, 0, none⟩) ps.length ps.length)) ps.length
  rwa [hsz1] at this
 have HST := hide hst0
 have H1 := hide h1
 have HA := hide hall
 have HBO := hide hbo
 have HSZ := hide hsz1
 have HF0 := hide hf0
 clear h h1 hall hst0 hbo hsz1 hf0
 go_enter Tryz.func129, Tryz.ntmps129
 go_wp2_with fail
 clear mk c1 c3 fz
 go_loopg [2, 3, 4, 5, 6, 7] (sumS f0 ps.length + 1) (fun gg ag i3 h4 k5 l6 s7 wr => ∃ (b : Bool) (S : Nat → Nat), ag = .bool b ∧ (if b then sumS f0 ps.length - sumS S ps.length + 1 else 0) ≤ gg ∧ LInv (w.setCell ⟨o, 3, none⟩ (.slice (some ⟨w.heap.size, 0, none⟩) ps.length ps.length)) w.heap.size ps.length ps (rs.map (·.R)) S wr ∧ (b = false → zgz ps (rs.map (·.R)) S))
 case atStart => exact ⟨true, fun _ => 0, rfl, by simp, zaa HST, by simp⟩
 case round =>
  clear HST
  obtain ⟨b, S0, rfl, hgg, hinv, hval⟩ := hrel
  cases b with
  | false =>
   have HV := hide (hval rfl)
   clear hval
   go_wp2_with fail
   go_end0
   have hk := hinv.below
   have hk' : Below (w.setCell ⟨o, 3, none⟩ (.slice (some ⟨w.heap.size, 0, none⟩) ps.length ps.length)).heap.size (w.setCell ⟨o, 3, none⟩ (.slice (some ⟨w.heap.size, 0, none⟩) ps.length ps.length)) wr := by rw [zaa HSZ]; exact hk
   exact ⟨rfl, (zaa H1).kept ((Kept.refl [] _).of_below hk') (by simp), S0, hinv.row, zaa HV, hinv.low, (zaa HBO).trans (hk.mono (by omega))⟩
  | true =>
   clear hval
   go_wp2_with fail
   go_loopg [2, 3, 4, 5, 6, 7] rs.length (fun gg ag i3 h4 k5 l6 s7 wr => ∃ (b : Bool) (S : Nat → Nat) (k : Nat), ag = .bool b ∧ k ≤ rs.length ∧ gg = rs.length - k ∧ i3 = .int .i64 k ∧ LInv (w.setCell ⟨o, 3, none⟩ (.slice (some ⟨w.heap.size, 0, none⟩) ps.length ps.length)) w.heap.size ps.length ps (rs.map (·.R)) S wr ∧ sumS S0 ps.length ≤ sumS S ps.length ∧ (b = true → sumS S0 ps.length < sumS S ps.length) ∧ (b = false → zgz ps ((rs.map (·.R)).take k) S))
   case atStart => exact ⟨false, S0, 0, rfl, Nat.zero_le _, rfl, rfl, hinv, Nat.le_refl _, by simp, fun _ => by intro R hR; simp at hR⟩
   case round =>
    clear hinv
    obtain ⟨b, S, k, rfl, hk, hgk, rfl, hinv, hsum, hup, hval⟩ := hrel
    have hkk : Below (w.setCell ⟨o, 3, none⟩ (.slice (some ⟨w.heap.size, 0, none⟩) ps.length ps.length)).heap.size (w.setCell ⟨o, 3, none⟩ (.slice (some ⟨w.heap.size, 0, none⟩) ps.length ps.length)) wr := by rw [zaa HSZ]; exact hinv.below
    have hm := (zaa H1).kept ((Kept.refl [] _).of_below hkk) (by simp)
    have c0 := hm.c0
    by_cases hlk : k < rs.length
    ·obtain ⟨g, cap, hv, hbg, hgl, hnc, hcm, q0, q1, q2, q3, q4, q5⟩ := zcj hm.rules k hlk
     injection hv with h1 h2 h3
     subst h1 h3
     have hin := hm.each _ (List.getElem_mem hlk)
     obtain ⟨ab, capb, hbv⟩ := zac hin.bo
     have hbmx := zbt hin.bo
     unfold maxLen at hbmx
     rw [hbv] at q5
     have hbeq := hin.eq
     have hx0 := ziu (zaa HA) hlk
     have hx1 : zak ps rs[k].R.head.pred < ps.length := by have := zcc hx0; omega
     have HPR := hide (fun nm => zfe wr o rs ps _ _ _ _ nm hm)
     clear h2 hm
     go_wp2_with fail
     refine (zaa HPR _).mono ?_
     rintro e w1 ⟨rfl, rfl⟩
     clear HPR
     go_wp2_with fail
     go_loopg [2, 5, 6, 7] rs[k].bs.length (fun gg ag k5 l6 s7 wr => ∃ (b : Bool) (S : Nat → Nat) (j : Nat), ag = .bool b ∧ j ≤ rs[k].bs.length ∧ gg = rs[k].bs.length - j ∧ k5 = .int .i64 j ∧ LInv (w.setCell ⟨o, 3, none⟩ (.slice (some ⟨w.heap.size, 0, none⟩) ps.length ps.length)) w.heap.size ps.length ps (rs.map (·.R)) S wr ∧ sumS S0 ps.length ≤ sumS S ps.length ∧ (b = true → sumS S0 ps.length < sumS S ps.length) ∧ (b = false → zgz ps ((rs.map (·.R)).take k) S ∧ ∀ A ∈ (rs[k].bs.map (·.1)).take j, zin ps S rs[k].R.head.pred A))
     case atStart => exact ⟨b, S, 0, rfl, Nat.zero_le _, rfl, rfl, hinv, hsum, hup, fun e => ⟨hval e, by simp⟩⟩
     case round =>
      clear hinv hsum hup hval c0 q0 q1 q2 q3 q4 q5 hin hgl hkk
      obtain ⟨b, S, j, rfl, hj, hgj, rfl, hinv, hsum, hup, hval⟩ := hrel
      have hkk : Below (w.setCell ⟨o, 3, none⟩ (.slice (some ⟨w.heap.size, 0, none⟩) ps.length ps.length)).heap.size (w.setCell ⟨o, 3, none⟩ (.slice (some ⟨w.heap.size, 0, none⟩) ps.length ps.length)) wr := by rw [zaa HSZ]; exact hinv.below
      have hm := (zaa H1).kept ((Kept.refl [] _).of_below hkk) (by simp)
      have c0 := hm.c0
      have c3 := hm.c3
      have hltr := hm.lt
      obtain ⟨g', cap', hv', hbg', hgl, hnc', hcm', q0, q1, q2, q3, q4, q5⟩ := zcj hm.rules k hlk
      injection hv' with h1 h2 h3
      injection h1 with h1
      injection h1 with h1
      subst h1 h3
      have hin := hm.each _ (List.getElem_mem hlk)
      rw [hbv] at q5
      by_cases hjl : j < rs[k].bs.length
      ·obtain ⟨gb, capb2, hvb, hbgb, hgbl, hncb, hcmb, p0, p1, p2, p3, p4⟩ := zcx hin.bo j hjl
       rw [hbv] at hvb
       injection hvb with hb11 hb12 hb13
       subst hb11 hb13
       obtain ⟨at1, capt1, hbt⟩ := zac (hin.bl _ (List.getElem_mem hjl))
       rw [hbt] at p1
       have hy0 := zis (zaa HA) hlk hbeq hjl
       have hy1 : zak ps rs[k].bs[j].1.pred < ps.length := by have := zcc hy0; omega
       have hrs := hinv.row.sz
       have t1 := hinv.row.cell (zak ps rs[k].bs[j].1.pred).toNat (by omega)
       have hSb : S (zak ps rs[k].bs[j].1.pred).toNat ≤ 1000 := Nat.le_trans (hinv.low f0 (zaa HF0) _) (hfb _)
       have HPR := hide (fun nm w2 (hb2 : Below wr.heap.size wr w2) => zfe w2 o rs ps _ _ _ _ nm (hm.kept ((Kept.refl [] _).of_below hb2) (by simp)))
       have HM := hide hm
       clear h2 hm hin hb12
       go_upto_region 12 with fail
       go_cut [7] (fun s wc => s = .int .i64 (S (zak ps rs[k].bs[j].1.pred).toNat) ∧ Below (wr.alloc (Obj.cells #[Value.string rs[k].bs[j].1.pred, .slice at1 rs[k].bs[j].1.terms.length capt1, .bool rs[k].bs[j].1.no, .int .i64 rs[k].bs[j].1.at_, .int .i64 rs[k].bs[j].1.noAt] 243)).heap.size (wr.alloc (Obj.cells #[Value.string rs[k].bs[j].1.pred, .slice at1 rs[k].bs[j].1.terms.length capt1, .bool rs[k].bs[j].1.no, .int .i64 rs[k].bs[j].1.at_, .int .i64 rs[k].bs[j].1.noAt] 243)) wc)
       case first =>
        go_region_with (go_at_call 135; refine (zaa HPR _ _ (((Below.refl _ _).alloc (Nat.le_refl _) _).drew)).mono ?_; rintro e w1 ⟨rfl, rfl⟩)
        all_goals
         go_wp2_with fail
         go_meet
         case rel => exact ⟨rfl, (Below.refl _ _).drew⟩
       case rest =>
        obtain ⟨rfl, hwc⟩ := hcut
        have hwr : Below wr.heap.size wr wc := ((Below.refl _ _).alloc (Nat.le_refl _) _).trans (hwc.mono (by simp))
        have hinv2 := hinv.kept hwr
        have hm2 := (zaa HM).kept ((Kept.refl [] _).of_below hwr) (by simp)
        have d3 := hm2.c3
        have d2 : wc.cell? ⟨wr.heap.size, 2, none⟩ = some (.bool rs[k].bs[j].1.no) := (hwc.cell (p := ⟨wr.heap.size, 2, none⟩) (by simp)).trans (by rw [World.cell?_alloc_at _ _ _ _ rfl]; rfl)
        have t2 := hinv2.row.cell (zak ps rs[k].R.head.pred).toNat (by omega)
        have t3 := hinv2.row.fz (zak ps rs[k].R.head.pred).toNat
        have hSh : S (zak ps rs[k].R.head.pred).toNat ≤ 1000 := Nat.le_trans (hinv.low f0 (zaa HF0) _) (hfb _)
        have hlt2 := hm2.lt
        have hsz2 := hinv2.row.sz
        clear HPR HM hm2 hwc hwr hinv t1 c0 c3 q0 q1 q2 q3 q4 q5 p0 p1 p2 p3 p4 hgl hgbl hbt hltr hrs
        cases hno : rs[k].bs[j].1.no with
        | true =>
         rw [hno] at d2
         by_cases hup2 : S (zak ps rs[k].R.head.pred).toNat < S (zak ps rs[k].bs[j].1.pred).toNat + 1
         ·have hset := hinv2.set (R := rs[k].R) (List.mem_map.2 ⟨_, List.getElem_mem hlk, rfl⟩) (A := rs[k].bs[j].1) (by rw [hbeq]; exact List.mem_map.2 ⟨_, List.getElem_mem hjl, rfl⟩) (by unfold ixOf; omega)
          have hlts := sum_lt (S := S) (i := (zak ps rs[k].R.head.pred).toNat) (v := S (zak ps rs[k].bs[j].1.pred).toNat + 1) hup2 ps.length (by omega)
          rw [hno] at hset
          simp only [if_true, ixOf, Int.natCast_add, Int.cast_ofNat_Int] at hset
          have HSET := hide hset
          have HLT := hide hlts
          have hupI : (S (zak ps rs[k].R.head.pred).toNat : Int) < (S (zak ps rs[k].bs[j].1.pred).toNat : Int) + 1 := by omega
          clear hset hlts hup2
          go_wp2_with fail
          go_roundg (rs[k].bs.length - (j + 1))
          case measure => omega
          case rel => exact ⟨true, _, j + 1, rfl, by omega, rfl, by go_num, zaa HSET, by have := zaa HLT; omega, fun _ => by have := zaa HLT; omega, by simp⟩
         ·have hkp : zin ps S rs[k].R.head.pred rs[k].bs[j].1 := by unfold zin ixOf; rw [hno]; simp; omega
          have HKP := hide hkp
          have hupI : ¬ (S (zak ps rs[k].R.head.pred).toNat : Int) < (S (zak ps rs[k].bs[j].1.pred).toNat : Int) + 1 := by omega
          clear hkp hup2
          go_wp2_with fail
          go_roundg (rs[k].bs.length - (j + 1))
          case measure => omega
          case rel => exact ⟨b, S, j + 1, rfl, by omega, rfl, by go_num, hinv2, hsum, hup, fun e => ⟨(hval e).1, zl4 hjl (hval e).2 (zaa HKP)⟩⟩
        | false =>
         rw [hno] at d2
         by_cases hup2 : S (zak ps rs[k].R.head.pred).toNat < S (zak ps rs[k].bs[j].1.pred).toNat
         ·have hset := hinv2.set (R := rs[k].R) (List.mem_map.2 ⟨_, List.getElem_mem hlk, rfl⟩) (A := rs[k].bs[j].1) (by rw [hbeq]; exact List.mem_map.2 ⟨_, List.getElem_mem hjl, rfl⟩) (by unfold ixOf; omega)
          have hlts := sum_lt (S := S) (i := (zak ps rs[k].R.head.pred).toNat) (v := S (zak ps rs[k].bs[j].1.pred).toNat) hup2 ps.length (by omega)
          rw [hno] at hset
          simp only [if_false, Bool.false_eq_true, ixOf, Nat.add_zero] at hset
          have HSET := hide hset
          have HLT := hide hlts
          have hupI : (S (zak ps rs[k].R.head.pred).toNat : Int) < (S (zak ps rs[k].bs[j].1.pred).toNat : Int) := by omega
          clear hset hlts hup2
          go_wp2_with fail
          go_roundg (rs[k].bs.length - (j + 1))
          case measure => omega
          case rel => exact ⟨true, _, j + 1, rfl, by omega, rfl, by go_num, zaa HSET, by have := zaa HLT; omega, fun _ => by have := zaa HLT; omega, by simp⟩
         ·have hkp : zin ps S rs[k].R.head.pred rs[k].bs[j].1 := by unfold zin ixOf; rw [hno]; simp; omega
          have HKP := hide hkp
          have hupI : ¬ (S (zak ps rs[k].R.head.pred).toNat : Int) < (S (zak ps rs[k].bs[j].1.pred).toNat : Int) := by omega
          clear hkp hup2
          go_wp2_with fail
          go_roundg (rs[k].bs.length - (j + 1))
          case measure => omega
          case rel => exact ⟨b, S, j + 1, rfl, by omega, rfl, by go_num, hinv2, hsum, hup, fun e => ⟨(hval e).1, zl4 hjl (hval e).2 (zaa HKP)⟩⟩
      ·clear h2 hm
       go_wp2_with fail
       go_roundg (rs.length - (k + 1))
       case measure => omega
       case rel => exact ⟨b, S, k + 1, rfl, by omega, rfl, by go_num, hinv, hsum, hup, fun e => valid_snoc hlk (hval e).1 (by rw [hbeq]; have := (hval e).2; rwa [List.take_of_length_le (by simp; omega)] at this)⟩
    ·have hfull : (rs.map (·.R)).take k = rs.map (·.R) := List.take_of_length_le (by simp; omega)
     clear hm
     go_wp2_with fail
     go_roundg (if b then sumS f0 ps.length - sumS S ps.length + 1 else 0)
     case measure =>
      have hle := sum_le (hinv.low f0 (zaa HF0)) ps.length
      cases b with
      | false => simp at hgg ⊢; omega
      | true => have := hup rfl; simp at hgg ⊢; omega
     case rel => exact ⟨b, S, rfl, Nat.le_refl _, hinv, fun e => by have := hval e; rwa [hfull] at this⟩
end
section
open Go.RowKit
def zad (s : ByteArray) (p : Nat) (bd : Int) (n : Nat) : Int := if n == 30 then zdz s p bd else bd
def zdv (s : ByteArray) (p : Nat) (bd : Int) : RRule := ⟨zah s p bd, (zcr s p bd).1⟩
def zeq (s : ByteArray) (p : Nat) (bd : Int) : Bool := (tok s p).kind != 46 && decide (bd < 0)
def zeo (s : ByteArray) : Nat → Nat → Int → List RRule → List RRule × Nat × Int
 | 0, p, bd, l => (l, p, bd)
 | f + 1, p, bd, l => if zeq s p bd then zeo s f (zeu s p (zad s p bd l.length)) (zcq s p (zad s p bd l.length)) (l ++ [zdv s p (zad s p bd l.length)]) else (l, p, bd)
theorem body_stays {s : ByteArray} (f : Nat) : ∀ {p : Nat} {bd : Int} {l : List RAtom}, 0 ≤ bd → 0 ≤ (ze1 s f p bd l).2.2 := by
 induction f with
 | zero => intro p bd l h; exact h
 | succ f ih =>
  intro p bd l h
  have h0 : 0 ≤ zap s p bd l.length := by
   unfold zap; split
   ·exact zc4 _ _ _
   ·exact h
  have h1 := zn5 (s := s) (p := p) h0
  rw [ze1]
  split
  ·exact ih (zer h1)
  ·exact zer h1
theorem rule_stays {s : ByteArray} {p : Nat} {bd : Int} (h : 0 ≤ bd) : 0 ≤ zcq s p bd := by
 have h1 := zl0 (s := s) (p := p) h
 unfold zcq
 refine zcp (zlp ?_)
 unfold zcr; split
 ·exact body_stays 4 (zer h1)
 ·exact zer h1
theorem rules_step (s : ByteArray) (p : Nat) (bd : Int) (l : List RRule) (h : l.length ≤ 30) (hg : zeq s p bd = true) : zeo s (31 - l.length) p bd l = zeo s (31 - (l ++ [zdv s p (zad s p bd l.length)]).length) (zeu s p (zad s p bd l.length)) (zcq s p (zad s p bd l.length)) (l ++ [zdv s p (zad s p bd l.length)]) := by
 have e1 : 31 - l.length = (30 - l.length) + 1 := by omega
 have e2 : 31 - (l ++ [zdv s p (zad s p bd l.length)]).length = 30 - l.length := by simp
 rw [e1, e2, zeo, if_pos hg]
theorem zos (s : ByteArray) (f p : Nat) (bd : Int) (l : List RRule) (hg : zeq s p bd = false) : zeo s f p bd l = (l, p, bd) := by
 cases f with
 | zero => rfl
 | succ f => rw [zeo, if_neg (by rw [hg]; decide)]
theorem zlu {s : ByteArray} {p : Nat} {bd : Int} {n : Nat} (hn : n = 30) : 0 ≤ zcq s p (zad s p bd n) := by
 refine rule_stays ?_
 subst hn
 simp [zad]; exact zc4 _ _ _
def za8 (s : ByteArray) : List RRule × Nat × Int := zeo s 31 0 (-1) []
def zau (s : ByteArray) : Int × List (ByteArray × Nat) := za4 ((za8 s).1.flatMap RRule.atoms) []
def zbi (s : ByteArray) : Bool × Int × Int :=
 if 800 < s.size then (false, 1, 0)
 else if 0 ≤ (za8 s).2.2 then (false, 2, (za8 s).2.2)
 else if 0 ≤ (zau s).1 then (false, 3, (zau s).1)
 else if 0 ≤ za9 (za8 s).1 then (false, 4, za9 (za8 s).1)
 else if 0 ≤ zb8 (zau s).2 (zb5 (zau s).2 (za8 s).1) (za8 s).1 then (false, 5, zb8 (zau s).2 (zb5 (zau s).2 (za8 s).1) (za8 s).1)
 else (true, 0, 0)
theorem zp0 (rs : List RR) (r : RR) : zdl (rs ++ [r]) = zdl rs ++ r.cells := by simp [zdl]
theorem PMem2.setRules {w W w5 : World} {o : Nat} {rs : List RR} {ps qs : List (ByteArray × Nat)} {rv pv tv sv : Value} (h : PMem2 w o rs ps qs rv pv tv sv) (hW : ∀ k, k < w.heap.size → W.heap[k]? = w.heap[k]?) (hS : w.heap.size ≤ W.heap.size) (hg : W.grownBy w5 rv.ownBlock) {r : RR} (hr : RuleIn w (o + 1) r.R r.hv r.bs r.bv) {v' : Value} (hown : w5.ownsRow (o + 1) 246 6 v' (rs.length + 1) (zdl rs ++ r.cells)) :
  PMem2 (w5.setCell ⟨o, 0, none⟩ v') o (rs ++ [r]) ps qs v' pv tv sv := by
 have hb := zg9 hW hS h.rules hg h.lt
 have cc : ∀ j, w5.cell? ⟨o, j, none⟩ = w.cell? ⟨o, j, none⟩ := fun j => World.cell?_of_block hb
 have ff : ∀ j, w5.frozen? ⟨o, j, none⟩ = w.frozen? ⟨o, j, none⟩ := fun j => World.frozen?_of_block hb
 have hlt := h.lt
 have hs := hg.size
 refine ⟨by simp; omega, zim ((cc 0).trans h.c0), by rw [zd2 (by omega), cc 1]; exact h.c1, by rw [zd2 (by omega), cc 2]; exact h.c2, by rw [zd2 (by omega), cc 3]; exact h.c3, fun j => by rw [World.frozen?_setCell, ff j]; exact h.fz j, ?_, fun x hx => ?_, zf8 hW hS h.rules hg h.preds (by decide), zf8 hW hS h.rules hg h.terms (by decide)⟩
 ·rw [zp0, List.length_append]
  exact ownsRow_setCell_below hown (a := ⟨o, 0, none⟩) (by simp) v'
 ·rcases List.mem_append.1 hx with hx | hx
  ·exact zjp hW hS h.rules hg (by decide) (by decide) (h.each x hx)
  ·simp at hx; subst hx
   exact zjp hW hS h.rules hg (by decide) (by decide) hr
theorem bodyS_len {s : ByteArray} (f : Nat) : ∀ {p : Nat} {bd : Int} {l : List RAtom}, (ze1 s f p bd l).1.length ≤ l.length + f := by
 induction f with
 | zero => intro p bd l; simp [ze1]
 | succ f ih =>
  intro p bd l
  rw [ze1]
  split
  ·refine Nat.le_trans ih ?_; first | (simp; done) | (simp; omega)
  ·first | (simp; done) | (simp; omega)
theorem body_len (s : ByteArray) (p : Nat) (bd : Int) : (zcr s p bd).1.length ≤ 4 := by
 unfold zcr; split
 ·have := bodyS_len (s := s) 4 (p := zbz s (zag s p bd).2.1 (zag s p bd).2.2 { data := #[58, 45] }) (bd := zb9 s (zag s p bd).2.1 (zag s p bd).2.2 { data := #[58, 45] }) (l := [])
  simpa using this
 ·simp
theorem atoms_len (l : List RR) (h : ∀ r ∈ l, r.R.body.length ≤ 4) : (za3 l).length ≤ 5 * l.length := by
 induction l with
 | nil => simp [za3]
 | cons x r ih =>
  have h1 := ih (fun y hy => h y (List.mem_cons_of_mem _ hy))
  have h2 := h x List.mem_cons_self
  have e : za3 (x :: r) = x.R.atoms ++ za3 r := by simp [za3]
  rw [e, List.length_append]
  simp only [RRule.atoms, List.length_cons]
  omega
theorem zkb (l : List RR) : za3 l = (l.map (·.R)).flatMap RRule.atoms := by
 simp [za3, List.flatMap_map]
end
section
theorem meet_len (l : List RAtom) : ∀ ps, (za4 l ps).2.length ≤ ps.length + l.length := by
 induction l with
 | nil => intro ps; simp [za4]
 | cons A r ih =>
  intro ps
  have h := zm7 ps A.pred A.terms.length
  rw [za4]
  split
  ·have := ih (zdj ps A.pred A.terms.length); simp only [List.length_cons]; omega
  ·simp only [List.length_cons]; omega
theorem zo4 (nm : ByteArray) (m : List (ByteArray × Nat)) : ∀ (l : List (ByteArray × Nat)) (k : Nat), 0 ≤ zbr nm l k → zbr nm (l ++ m) k = zbr nm l k
 | [], k, h => by simp [zbr] at h
 | x :: r, k, h => by
  rw [List.cons_append]
  unfold zbr at h ⊢
  split
  ·rfl
  ·rename_i hne
   rw [if_neg hne] at h
   exact zo4 nm m r (k + 1) h
theorem ix_last (nm : ByteArray) (n : Nat) : ∀ (l : List (ByteArray × Nat)) (k : Nat), 0 ≤ zbr nm (l ++ [(nm, n)]) k
 | [], k => by simp [zbr]
 | x :: r, k => by
  rw [List.cons_append]
  unfold zbr
  split
  ·omega
  ·exact ix_last nm n r (k + 1)
theorem meetP_in (ps : List (ByteArray × Nat)) (nm : ByteArray) (n : Nat) : 0 ≤ zak (zdj ps nm n) nm := by
 unfold zdj; split
 ·exact ix_last nm n ps 0
 ·omega
theorem meetP_keeps (ps : List (ByteArray × Nat)) (nm : ByteArray) (n : Nat) (x : ByteArray) (h : 0 ≤ zak ps x) : 0 ≤ zak (zdj ps nm n) x := by
 unfold zdj; split
 ·unfold zak at *; rw [zo4 x _ ps 0 h]; exact h
 ·exact h
theorem meetAll_in (l : List RAtom) : ∀ ps, (za4 l ps).1 < 0 → (∀ A ∈ l, 0 ≤ zak (za4 l ps).2 A.pred) ∧ (∀ nm, 0 ≤ zak ps nm → 0 ≤ zak (za4 l ps).2 nm) := by
 induction l with
 | nil => intro ps _; exact ⟨by simp, fun nm h => h⟩
 | cons A r ih =>
  intro ps h
  rw [za4] at h ⊢
  split
  ·rename_i hb
   rw [if_pos hb] at h
   obtain ⟨h1, h2⟩ := ih _ h
   refine ⟨fun B hB => ?_, fun nm hn => h2 nm (meetP_keeps ps A.pred A.terms.length nm hn)⟩
   rcases List.mem_cons.1 hB with rfl | hB
   ·exact h2 _ (meetP_in ps B.pred B.terms.length)
   ·exact h1 B hB
  ·rename_i hb
   rw [if_neg hb] at h
   simp at h
   omega
theorem zgd (l : List RAtom) (h : ¬ 0 ≤ (za4 l []).1) : zhd (za4 l []).2 l := (meetAll_in l [] (by omega)).1
theorem fwK_eq (n m i : Nat) : ∀ (d k : Nat) (M : Nat → Nat → Bool), n - k = d → ∀ a b, fwK n m i M k a b = (M a b || (decide (a = i) && decide (k ≤ b) && decide (b < n) && M i m && M m b)) := by
 intro d
 induction d with
 | zero =>
  intro k M hd a b
  rw [fwK_end (by omega)]
  have : ¬ (k ≤ b ∧ b < n) := by omega
  by_cases h1 : k ≤ b <;> by_cases h2 : b < n <;> simp [h1, h2] <;> omega
 | succ d ih =>
  intro k M hd a b
  rw [fwK_go (by omega), ih (k + 1) _ (by omega) a b]
  have hM : ∀ a b, (if M i m && M m k then upd M i k else M) a b = (M a b || (decide (a = i) && decide (b = k) && M i m && M m k)) := by
   intro a b
   cases h1 : M i m <;> cases h2 : M m k <;> simp [upd, Bool.or_comm]
  rw [hM a b, hM i m, hM m b]
  have hkn : k < n := by omega
  by_cases e1 : a = i
  ·by_cases e2 : b = k
   ·subst e2
    cases M a b <;> cases M i m <;> cases M m b <;> simp [e1, hkn]
   ·by_cases e3 : k ≤ b
    ·have e4 : k + 1 ≤ b := by omega
     cases M a b <;> cases M i m <;> cases M m b <;> simp [e1, e2, e3, e4]
    ·have e4 : ¬ k + 1 ≤ b := by omega
     cases M a b <;> simp [e2, e3, e4]
  ·cases M a b <;> simp [e1]
theorem fwI_eq (n m : Nat) : ∀ (d i : Nat) (M : Nat → Nat → Bool), n - i = d → ∀ a b, fwI n m M i a b = (M a b || (decide (i ≤ a) && decide (a < n) && decide (b < n) && M a m && M m b)) := by
 intro d
 induction d with
 | zero =>
  intro i M hd a b
  rw [fwI_end (by omega)]
  by_cases h1 : i ≤ a <;> by_cases h2 : a < n <;> simp [h1, h2] <;> omega
 | succ d ih =>
  intro i M hd a b
  have hM := fwK_eq n m i _ 0 M rfl
  rw [fwI_go (by omega), ih (i + 1) _ (by omega) a b, hM a b, hM a m, hM m b]
  have hin : i < n := by omega
  by_cases e1 : a = i
  ·subst e1
   have e4 : ¬ a + 1 ≤ a := by omega
   cases M a b <;> cases M a m <;> cases M m b <;> simp [e4, hin]
  ·by_cases e3 : i ≤ a
   ·have e4 : i + 1 ≤ a := by omega
    by_cases e5 : m = i
    ·subst e5
     cases M a b <;> cases M a m <;> cases M m b <;> cases M m m <;> simp [e1, e3, e4]
    ·cases M a b <;> cases M a m <;> cases M m b <;> simp [e1, e3, e4, e5]
   ·have e4 : ¬ i + 1 ≤ a := by omega
    cases M a b <;> simp [e1, e3, e4]
theorem zls (n : Nat) : ∀ (d m : Nat) (M : Nat → Nat → Bool), n - m = d → m ≤ n → (∀ i j k, i < n → k < n → j < m → M i j = true → M j k = true → M i k = true) →
  (∀ i j k, i < n → k < n → j < n → fwM n M m i j = true → fwM n M m j k = true → fwM n M m i k = true) ∧ (∀ i k, M i k = true → fwM n M m i k = true) := by
 intro d
 induction d with
 | zero =>
  intro m M hd hmn h
  rw [zqe (by omega)]
  exact ⟨fun i j k hi hk hj => h i j k hi hk (by omega), fun i k h => h⟩
 | succ d ih =>
  intro m M hd hmn h
  have hm : m < n := by omega
  have hM := fwI_eq n m _ 0 M rfl
  rw [fwM_go hm]
  have hstep : ∀ i j k, i < n → k < n → j < m + 1 → fwI n m M 0 i j = true → fwI n m M 0 j k = true → fwI n m M 0 i k = true := by
   intro i j k hi hk hj h1 h2
   have hjn : j < n := by omega
   rw [hM] at h1 h2 ⊢
   simp only [Nat.zero_le, decide_true, Bool.true_and, hi, hjn, hk, Bool.or_eq_true, Bool.and_eq_true] at h1 h2 ⊢
   by_cases ej : j = m
   ·subst ej
    have a1 : M i j = true := by rcases h1 with h1 | h1; exact h1; exact h1.1
    have a2 : M j k = true := by rcases h2 with h2 | h2; exact h2; exact h2.2
    exact .inr ⟨a1, a2⟩
   ·have hjm : j < m := by omega
    rcases h1 with h1 | ⟨h1, h1'⟩ <;> rcases h2 with h2 | ⟨h2, h2'⟩
    ·exact .inl (h i j k hi hk hjm h1 h2)
    ·exact .inr ⟨h i j m hi hm hjm h1 h2, h2'⟩
    ·exact .inr ⟨h1, h m j k hm hk hjm h1' h2⟩
    ·exact .inr ⟨h1, h2'⟩
  obtain ⟨g1, g2⟩ := ih (m + 1) (fwI n m M 0) (by omega) (by omega) hstep
  exact ⟨g1, fun i k hik => g2 i k (by rw [hM, hik]; rfl)⟩
theorem upd_mono {M : Nat → Nat → Bool} {i j a b : Nat} (h : M a b = true) : upd M i j a b = true := by simp [upd, h]
theorem zj7 {ps : List (ByteArray × Nat)} {h : Nat} (l : List RAtom) : ∀ {M : Nat → Nat → Bool} {a b : Nat}, M a b = true → zhg ps h l M a b = true := by
 induction l with
 | nil => intro M a b hM; exact hM
 | cons A r ih => intro M a b hM; exact ih (upd_mono hM)
theorem edges_mono {ps : List (ByteArray × Nat)} (l : List RRule) : ∀ {M : Nat → Nat → Bool} {a b : Nat}, M a b = true → zib ps l M a b = true := by
 induction l with
 | nil => intro M a b hM; exact hM
 | cons R r ih => intro M a b hM; exact ih (zj7 R.body hM)
theorem edgesR_has {ps : List (ByteArray × Nat)} {h : Nat} (l : List RAtom) : ∀ {M : Nat → Nat → Bool} {A : RAtom}, A ∈ l → zhg ps h l M h (ixOf ps A.pred) = true := by
 induction l with
 | nil => intro M A hA; cases hA
 | cons B r ih =>
  intro M A hA
  rcases List.mem_cons.1 hA with rfl | hA
  ·exact zj7 r (by simp [upd])
  ·exact ih hA
theorem edges_has {ps : List (ByteArray × Nat)} (l : List RRule) : ∀ {M : Nat → Nat → Bool} {R : RRule} {A : RAtom}, R ∈ l → A ∈ R.body → zib ps l M (ixOf ps R.head.pred) (ixOf ps A.pred) = true := by
 induction l with
 | nil => intro M R A hR; cases hR
 | cons B r ih =>
  intro M R A hR hA
  rcases List.mem_cons.1 hR with rfl | hR
  ·exact edges_mono r (edgesR_has R.body hA)
  ·exact ih hR hA
theorem zil {ps : List (ByteArray × Nat)} {rs : List RRule} {R : RRule} {A : RAtom} (hR : R ∈ rs) (hA : A ∈ R.body) : zb5 ps rs (ixOf ps R.head.pred) (ixOf ps A.pred) = true :=
 (zls ps.length _ 0 _ rfl (Nat.zero_le _) (by intro i j k _ _ hj; omega)).2 _ _ (edges_has rs hR hA)
theorem zho {ps : List (ByteArray × Nat)} {rs : List RRule} {i j k : Nat} (hi : i < ps.length) (hj : j < ps.length) (hk : k < ps.length) (h1 : zb5 ps rs i j = true) (h2 : zb5 ps rs j k = true) : zb5 ps rs i k = true :=
 (zls ps.length _ 0 (zib ps rs (fun _ _ => false)) rfl (Nat.zero_le _) (by intro i j k _ _ hj; omega)).1 i j k hi hk hj h1 h2
theorem cycBody_no {ps : List (ByteArray × Nat)} {H : Nat → Nat → Bool} {hd : ByteArray} (l : List RAtom) (h : zc3 ps H hd l < 0) : ∀ A ∈ l, cycB ps H hd A = false := by
 induction l with
 | nil => simp
 | cons B r ih =>
  rw [zc3] at h
  split at h
  ·omega
  ·rename_i hb
   intro A hA
   rcases List.mem_cons.1 hA with rfl | hA
   ·simpa using hb
   ·exact ih h A hA
theorem cycle_no {ps : List (ByteArray × Nat)} {H : Nat → Nat → Bool} (l : List RRule) (h : zb8 ps H l < 0) : ∀ R ∈ l, ∀ A ∈ R.body, cycB ps H R.head.pred A = false := by
 induction l with
 | nil => simp
 | cons B r ih =>
  rw [zb8] at h
  split at h
  ·omega
  ·rename_i hb
   intro R hR
   rcases List.mem_cons.1 hR with rfl | hR
   ·exact cycBody_no R.body (by omega)
   ·exact ih h R hR
theorem countP_lt {α : Type} {p r : α → Bool} (l : List α) (h : ∀ x ∈ l, p x = true → r x = true) {y : α} (hy : y ∈ l) (hr : r y = true) (hp : p y = false) : l.countP p + 1 ≤ l.countP r := by
 induction l with
 | nil => cases hy
 | cons x t ih =>
  have hm : t.countP p ≤ t.countP r := List.countP_mono_left (fun z hz => h z (List.mem_cons_of_mem _ hz))
  rcases List.mem_cons.1 hy with rfl | hy
  ·rw [List.countP_cons_of_pos hr, List.countP_cons_of_neg (by rw [hp]; decide)]; omega
  ·have h1 := ih (fun z hz => h z (List.mem_cons_of_mem _ hz)) hy
   cases e : p x with
   | true => rw [List.countP_cons_of_pos e, List.countP_cons_of_pos (h x List.mem_cons_self e)]; omega
   | false =>
    rw [List.countP_cons_of_neg (by rw [e]; decide)]
    have : t.countP r ≤ (x :: t).countP r := by
     cases e2 : r x with
     | true => rw [List.countP_cons_of_pos e2]; omega
     | false => rw [List.countP_cons_of_neg (by rw [e2]; decide)]; omega
    omega
def negR (ps : List (ByteArray × Nat)) (rs : List RRule) (p x : Nat) : Bool :=
 rs.any fun R => R.body.any fun A => A.no && ((p == ixOf ps R.head.pred || zb5 ps rs p (ixOf ps R.head.pred)) && (ixOf ps A.pred == x || zb5 ps rs (ixOf ps A.pred) x))
theorem zhk (ps : List (ByteArray × Nat)) (rs : List RRule) (hall : zhd ps (rs.flatMap RRule.atoms)) (h : ¬ 0 ≤ zb8 ps (zb5 ps rs) rs) : ∃ f, zgz ps rs f ∧ ∀ i, f i ≤ ps.length := by
 have hno := cycle_no rs (show zb8 ps (zb5 ps rs) rs < 0 by omega)
 have hhd : ∀ R ∈ rs, 0 ≤ zak ps R.head.pred := fun R hR => hall _ (List.mem_flatMap.2 ⟨R, hR, List.mem_cons_self⟩)
 have hbd : ∀ R ∈ rs, ∀ A ∈ R.body, 0 ≤ zak ps A.pred := fun R hR A hA => hall _ (List.mem_flatMap.2 ⟨R, hR, List.mem_cons_of_mem _ hA⟩)
 have lhd : ∀ R ∈ rs, ixOf ps R.head.pred < ps.length := fun R hR => zcc (hhd R hR)
 have lbd : ∀ R ∈ rs, ∀ A ∈ R.body, ixOf ps A.pred < ps.length := fun R hR A hA => zcc (hbd R hR A hA)
 refine ⟨fun p => (List.range ps.length).countP (negR ps rs p), fun R hR A hA => ?_, fun i => by have := List.countP_le_length (p := negR ps rs i) (l := List.range ps.length); simpa using this⟩
 have hpq := zil (ps := ps) hR hA
 have himp : ∀ x ∈ List.range ps.length, negR ps rs (ixOf ps A.pred) x = true → negR ps rs (ixOf ps R.head.pred) x = true := by
  intro x _ hx
  unfold negR at hx ⊢
  simp only [List.any_eq_true, Bool.and_eq_true, Bool.or_eq_true, beq_iff_eq] at hx ⊢
  obtain ⟨R', hR', A', hA', hn, h1, h2⟩ := hx
  refine ⟨R', hR', A', hA', hn, .inr ?_, h2⟩
  rcases h1 with h1 | h1
  ·rw [← h1]; exact hpq
  ·exact zho (lhd R hR) (lbd R hR A hA) (lhd R' hR') hpq h1
 unfold zin
 cases hno' : A.no with
 | false =>
  simp only [Bool.false_eq_true, if_false, Nat.add_zero]
  exact List.countP_mono_left himp
 | true =>
  simp only [if_true]
  refine countP_lt _ himp (y := ixOf ps A.pred) (List.mem_range.2 (lbd R hR A hA)) ?_ ?_
  ·unfold negR
   simp only [List.any_eq_true, Bool.and_eq_true, Bool.or_eq_true, beq_iff_eq]
   exact ⟨R, hR, A, hA, hno', .inl rfl, .inl rfl⟩
  ·cases hq : negR ps rs (ixOf ps A.pred) (ixOf ps A.pred) with
   | false => rfl
   | true =>
    exfalso
    unfold negR at hq
    simp only [List.any_eq_true, Bool.and_eq_true, Bool.or_eq_true, beq_iff_eq] at hq
    obtain ⟨R', hR', A', hA', hn, h1, h2⟩ := hq
    have hc := hno R' hR' A' hA'
    unfold cycB at hc
    rw [hn, Bool.true_and, Bool.or_eq_false_iff] at hc
    obtain ⟨hc1, hc2⟩ := hc
    have lq := lbd R hR A hA
    have la := lhd R' hR'
    have lb := lbd R' hR' A' hA'
    have key : ixOf ps A'.pred = ixOf ps R'.head.pred ∨ zb5 ps rs (ixOf ps A'.pred) (ixOf ps R'.head.pred) = true := by
     rcases h2 with h2 | h2 <;> rcases h1 with h1 | h1
     ·exact .inl (h2.trans h1)
     ·exact .inr (by rw [h2]; exact h1)
     ·exact .inr (by rw [← h1]; exact h2)
     ·exact .inr (zho lb lq la h2 h1)
    rcases key with key | key
    ·have p1 := hbd R' hR' A' hA'
     have p2 := hhd R' hR'
     unfold ixOf at key
     have : zak ps A'.pred = zak ps R'.head.pred := by omega
     rw [this] at hc1; simp at hc1
    ·rw [key] at hc2; cases hc2
end
end Go.Proofs.YtldkpahaocjdpaaGreat
