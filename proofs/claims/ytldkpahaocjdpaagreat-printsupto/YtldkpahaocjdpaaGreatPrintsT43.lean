/-
  The reference's Strata.
  Plain: what is printed of a text that is taken is not long.
  Print and Strata of a text's two programs: what they answer is one.
  The law's sameStrata, at two rows that hold the same.
-/
import Derived.Test.YtldkpahaocjdpaaGreatPrintsT36
import Derived.BigRegion
import Derived.BigQuiet
import Derived.Deep.QuietTactic
import Derived.Test.YtldkpahaocjdpaaGreatPrintsT38
import Derived.Test.YtldkpahaocjdpaaGreatPrintsT40
import Derived.Test.YtldkpahaocjdpaaGreatPrintsT39
import Derived.Test.YtldkpahaocjdpaaGreatPrintsT42
namespace Go.Proofs.YtldkpahaocjdpaaGreat
open Go.RowKit Go.Maps

structure RSIn (w : World) (zs : List Stm) (lv : Value) (wr : World) : Prop where
  row : wr.ownsRow w.heap.size 185 3 lv zs.length (zs.flatMap enc3)
  below : Below w.heap.size w wr

def RSPost (w : World) (ps : List (ByteArray × Nat)) (S : Nat → Nat) : Ending → World → Prop := fun e w' =>
  ∃ (v : Value) (zs : List Stm), e = .returned v ∧ RSIn w zs v w' ∧ Rising zs ∧ zs.Perm (tri ps S ps.length)

theorem enc3_cell (wr : World) (x : Stm) (j : Nat) (u : Value) (h : (enc3 x)[j]? = some u) : (((wr.alloc (Obj.cells #[.string x.1, .int .i64 (x.2.1 : Nat), .int .i64 (x.2.2 : Nat)] 185)).alloc (Obj.cells #[.string x.1, .int .i64 (x.2.1 : Nat), .int .i64 (x.2.2 : Nat)] 185)).drew).cell? ((⟨wr.heap.size + 1, 0, none⟩ : Addr).add j) = some u := by
  have e : (⟨wr.heap.size + 1, 0, none⟩ : Addr).add j = ⟨wr.heap.size + 1, j, none⟩ := by unfold Addr.add; split <;> simp_all
  rw [e]
  show ((wr.alloc _).alloc _).cell? _ = _
  rw [World.cell?_alloc_at _ _ _ _ (by simp)]
  simpa [enc3] using h
theorem enc3_one (x : Stm) : ∀ u ∈ enc3 x, u.oneCell' = true := by
  intro u hu; simp [enc3] at hu; rcases hu with rfl | rfl | rfl <;> rfl

theorem RSIn.append {w : World} {zs : List Stm} {lv : Value} {wr : World} (h : RSIn w zs lv wr) {o o' : Obj} {x : Stm} {lv' : Value} {w5 : World} (hown : w5.ownsRow w.heap.size 185 3 lv' (zs.length + 1) (zs.flatMap enc3 ++ enc3 x)) (hg : (((wr.alloc o).alloc o').drew).grownBy w5 lv.ownBlock) : RSIn w (zs ++ [x]) lv' w5 := by
  refine ⟨by rw [List.length_append, List.flatMap_append]; simpa using hown, ?_⟩
  have hs := hg.size
  have hsz := h.below.size
  have hs' : wr.heap.size + 2 ≤ w5.heap.size := by
    have : (((wr.alloc o).alloc o').drew).heap.size = wr.heap.size + 2 := by show ((wr.alloc o).alloc o').heap.size = _; simp
    omega
  refine ⟨hg.os.trans h.below.os, hg.tape.trans h.below.tape, hg.output.trans h.below.output, by omega, fun j hj => ?_⟩
  rw [hg.block j (by show j < ((wr.alloc o).alloc o').heap.size; simp; omega) (fun e => by have := own_from h.row e.symm; omega)]
  show ((wr.alloc o).alloc o').heap[j]? = _
  rw [Below.heap_alloc _ _ _ (by simp; omega), Below.heap_alloc _ _ _ (by omega)]
  exact h.below.block j hj

theorem Ins.stop {zs A' B : List Stm} {a x : Stm} (h : Ins zs (A' ++ [a]) x B) (hl : lessB x.1 a.1 = false) : Rising zs := h.done fun A'' a'' e => by
  have := List.append_inj' e rfl
  rw [List.cons.inj this.2 |>.1] at hl
  exact hl
theorem own_unfrozen {w : World} {base : Nat} {e : TypeId} {size n g cap : Nat} {xs : List Value} {m : Nat} (h : w.ownsRow base e size (.slice (some ⟨g, 0, none⟩) n cap) m xs) : ∀ j, w.frozen? ⟨g, j, none⟩ = false := by
  intro j
  rcases h.2 with ⟨h1, _⟩ | ⟨g', cap', cur, hv, hb, hg, _⟩
  · cases h1
  · injection hv with h1 h2 h3
    injection h1 with h1
    injection h1 with h1
    subst h1
    simp [World.frozen?, hg]
theorem rs_drewN {w : World} {zs : List Stm} {lv : Value} {wr : World} (h : RSIn w zs lv wr) (n : Nat) : RSIn w zs lv (wr.drewN n) := ⟨h.row, ⟨h.below.os, h.below.tape, h.below.output, h.below.size, h.below.block⟩⟩
theorem rs_perm {ps : List (ByteArray × Nat)} {S : Nat → Nat} {k : Nat} {zs A B : List Stm} {x : Stm} {nm : ByteArray} {nt : Nat} (hp : zs.Perm (tri ps S k)) (hAB : A ++ B = zs) (hx : ((nm, S k, nt) : Stm) = x) (hk : (ps[k]?.getD default) = (nm, nt)) : (A ++ x :: B).Perm (tri ps S (k + 1)) := by
  rw [tri, hk, hx]
  exact List.perm_middle.trans (((hAB ▸ hp).cons x).trans (List.perm_append_singleton x _).symm)
theorem rs_len {zs A B : List Stm} {x : Stm} {k : Nat} (hAB : A ++ B = zs) (hz : zs.length = k) : (A ++ x :: B).length = k + 1 := by
  rw [← hz, ← hAB]; simp; omega

theorem rs_swap {w W : World} {A' B : List Stm} {a x : Stm} {g n cap m : Nat} (hm : A'.length = m) (h : RSIn w (A' ++ a :: x :: B) (.slice (some ⟨g, 0, none⟩) n cap) W) (o : Obj) : RSIn w (A' ++ x :: a :: B) (.slice (some ⟨g, 0, none⟩) n cap) (((((((W.setCell ⟨g, (m + 1) * 3, none⟩ (.string a.1)).setCell ⟨g, (m + 1) * 3 + 1, none⟩ (.int .i64 (a.2.1 : Nat))).setCell ⟨g, (m + 1) * 3 + 2, none⟩ (.int .i64 (a.2.2 : Nat))).setCell ⟨g, m * 3, none⟩ (.string x.1)).setCell ⟨g, m * 3 + 1, none⟩ (.int .i64 (x.2.1 : Nat))).setCell ⟨g, m * 3 + 2, none⟩ (.int .i64 (x.2.2 : Nat))).alloc o) := by
  subst hm
  have hrow := h.row
  have hn : n = (A' ++ a :: x :: B).length := by
    rcases hrow.2 with ⟨h1, _⟩ | ⟨g', cap', cur, hv, _⟩
    · cases h1
    · injection hv with _ h2 _
  subst hn
  have hgb : w.heap.size ≤ g := (hrow.lt g rfl).1
  have h1 := own_setCell (own_setCell (own_setCell (own_setCell (own_setCell (own_setCell hrow ((A'.length + 1) * 3) (.string a.1)) ((A'.length + 1) * 3 + 1) (.int .i64 (a.2.1 : Nat))) ((A'.length + 1) * 3 + 2) (.int .i64 (a.2.2 : Nat))) (A'.length * 3) (.string x.1)) (A'.length * 3 + 1) (.int .i64 (x.2.1 : Nat))) (A'.length * 3 + 2) (.int .i64 (x.2.2 : Nat))
  rw [flat3_set _ (A'.length + 1) a (by simp), flat3_set _ A'.length x (by simp)] at h1
  have e : ((A' ++ a :: x :: B).set (A'.length + 1) a).set A'.length x = A' ++ x :: a :: B := by simp
  rw [e] at h1
  have hl : (A' ++ x :: a :: B).length = (A' ++ a :: x :: B).length := by simp
  refine ⟨?_, ?_⟩
  · rw [hl]; exact h1.alloc _
  · have hz := h.below.size
    refine Below.alloc ?_ (by simp; omega) _
    exact (((((h.below.setCell (p := ⟨g, _, none⟩) hgb _).setCell (p := ⟨g, _, none⟩) hgb _).setCell (p := ⟨g, _, none⟩) hgb _).setCell (p := ⟨g, _, none⟩) hgb _).setCell (p := ⟨g, _, none⟩) hgb _).setCell (p := ⟨g, _, none⟩) hgb _

set_option maxRecDepth 100000 in
set_option maxHeartbeats 8000000 in
theorem rstrata_any (w : World) (o : Nat) (rs : List RR) (ps : List (ByteArray × Nat)) (rv pv tv : Value) (gs : Nat) (S : Nat → Nat) (h : PMem w o rs ps rv pv tv (.slice (some ⟨gs, 0, none⟩) ps.length ps.length)) (hS : SRow w gs ps.length S) (hpl : ps.length ≤ 1000) :
    Calls Tryz.prog 85 #[.pointer (some ⟨o, 0, none⟩)] w (RSPost w ps S) := by
  obtain ⟨hlt, c0, c1, c2, c3, fz, hr, he, hp, ht⟩ := h
  obtain ⟨i0, hi, hz0, hz1, hz2⟩ := info_parts infoStr
  obtain ⟨a1, cap1, rfl⟩ := own_slice hp
  obtain ⟨a2, cap2, rfl⟩ := own_slice ht
  have h0 : RSIn w [] (.slice none 0 0) w := ⟨World.ownsRow_nil _ _ _ _, Below.refl _ _⟩
  have HS := hide hS
  have HP := hide hp
  have HT := hide ht
  clear c0 fz hr he hS hp ht
  go_enter Tryz.func85, Tryz.ntmps85
  go_wp2_with fail
  go_loopg [3, 4] ps.length (fun gg lv i wr => ∃ (k : Nat) (zs : List Stm), k ≤ ps.length ∧ gg = ps.length - k ∧ i = .int .i64 k ∧ RSIn w zs lv wr ∧ Rising zs ∧ zs.Perm (tri ps S k) ∧ zs.length = k)
  case atStart => exact ⟨0, [], Nat.zero_le _, rfl, rfl, h0, List.Pairwise.nil, List.Perm.nil, rfl⟩
  case round =>
    clear h0
    obtain ⟨k, zs, hk, hgk, rfl, hin, hris, hperm, hzl⟩ := hrel
    obtain ⟨al, cl, rfl⟩ := own_slice hin.row
    obtain ⟨r1, r2⟩ := old_reads hin.below
    have hsz := hin.below.size
    have d1 := (r1 o 1 hlt).trans c1
    have d2 := (r1 o 2 hlt).trans c2
    have d3 := (r1 o 3 hlt).trans c3
    have HI := hide hin
    have HRI := hide hris
    have HPE := hide hperm
    have HZ := hide hzl
    have hzI : zs.length ≤ 1000 := by omega
    clear hin hris hperm hzl
    by_cases hlk : k < ps.length
    · obtain ⟨g, cap, hv, hb, hnc, hcm, hc⟩ := row_cell (unhide HP) (by omega)
      injection hv with h1 h2 h3
      subst h1 h3
      obtain ⟨g2, cap2', hv2, hb2, hnc2, hcm2, hc2⟩ := row_cell (unhide HT) (by omega)
      injection hv2 with h4 h5 h6
      subst h4 h6
      have hck := (r1 g k ((unhide HP).lt g rfl).2).trans (hc k hlk)
      have hck2 := (r1 g2 k ((unhide HT).lt g2 rfl).2).trans (hc2 k hlk)
      rw [List.getElem?_map, List.getElem?_eq_getElem hlk] at hck hck2
      simp only [Option.map_some] at hck hck2
      have hcs := (r1 gs k (unhide HS).sz).trans ((unhide HS).cell k hlk)
      have hx : (ps[k]?.getD default) = (ps[k].1, ps[k].2) := by rw [List.getElem?_eq_getElem hlk]; rfl
      have HX := hide hx
      have l0 : o < wr.heap.size := by omega
      have l1 : g < wr.heap.size := by have := ((unhide HP).lt g rfl).2; omega
      have l2 : g2 < wr.heap.size := by have := ((unhide HT).lt g2 rfl).2; omega
      have l3 : gs < wr.heap.size := by have := (unhide HS).sz; omega
      clear hc hc2 r1 r2 hx
      go_wp2_with fail
      go_region
      go_wp2_with (at_builtin; refine wpList_append_own _ rfl _ _ 118 rfl w.heap.size 185 i0 _ 3 32 Tryz.underlying118 hi hz0 hz1 hz2 rfl (by decide) _ _ _ rfl (((unhide HI).row.alloc _).alloc _) ⟨wr.heap.size + 1, 0, none⟩ 1 1 (enc3 (ps[k].1, S k, ps[k].2)) rfl rfl (enc3_cell wr (ps[k].1, S k, ps[k].2)) (enc3_one _) (by unfold maxLen; omega) (by omega) (by simp; omega) ?_)
      intro v5 w5 hown5 hg5 hne5
      clear hne5
      obtain ⟨a5, cap5, rfl⟩ := own_slice hown5
      have hin5 := (unhide HI).append hown5 hg5
      clear hown5 hg5 hck hck2 hcs d1 d2 d3 l0 l1 l2 l3 HI
      have h0 : Ins (zs ++ [(ps[k].1, S k, ps[k].2)]) zs (ps[k].1, S k, ps[k].2) [] := ⟨rfl, by rw [List.append_nil]; exact unhide HRI, by simp⟩
      generalize hxq : ((ps[k].1, S k, ps[k].2) : Stm) = x at *
      have HXQ := hide hxq
      clear hxq
      go_wp2_with fail
      go_loopg [6] zs.length (fun gg i wj => ∃ (A B : List Stm), gg = A.length ∧ i = .int .i64 (A.length : Nat) ∧ A ++ B = zs ∧ RSIn w (A ++ x :: B) (.slice a5 (zs.length + 1) cap5) wj ∧ Ins (A ++ x :: B) A x B)
      case atStart => exact ⟨zs, [], rfl, by go_num, List.append_nil _, hin5, h0⟩
      case round =>
        clear hin5 h0
        obtain ⟨A, B, rfl, rfl, hAB, hin, hins⟩ := hrel
        rcases List.eq_nil_or_concat A with e | ⟨A', a, e⟩
        · subst e
          have HIN := hide hin
          have HINS := hide hins
          clear hin hins
          have hg0 : decide ((0 : Int) < ((([] : List Stm).length : Nat) : Int)) = false := by decide
          go_wp2_with fail
          go_quiet (fail)
          go_wp2_with fail
          go_roundg (ps.length - (k + 1))
          case measure => omega
          case rel => exact ⟨k + 1, _, by omega, rfl, by go_num, rs_drewN (unhide HIN) _, (unhide HINS).done (fun A' a e => by simp at e), rs_perm (unhide HPE) hAB (unhide HXQ) (unhide HX), rs_len hAB (unhide HZ)⟩
        · rw [List.concat_eq_append] at e
          subst e
          have hl : (A' ++ [a]).length = A'.length + 1 := by simp
          have hzz : (A' ++ [a]) ++ x :: B = A' ++ a :: x :: B := by simp
          have HIN2 := hide hin
          rw [hzz] at hin
          have hlz : (A' ++ a :: x :: B).length = zs.length + 1 := by rw [← hAB]; simp; omega
          obtain ⟨g5, c5, hv5, hb5, hg5, hnc5, hcm5, hc5⟩ := row_at (f := enc3) (fun _ => rfl) hin.row A'.length (by simp)
          obtain ⟨g6, c6, hv6, hb6, hg6, hnc6, hcm6, hc6⟩ := row_at (f := enc3) (fun _ => rfl) hin.row (A'.length + 1) (by simp)
          injection hv5 with h7 h8a h9
          subst h7 h9
          injection hv6 with h7 h8 h9
          injection h7 with h7
          injection h7 with h7
          subst h7 h9
          have e5 : (A' ++ a :: x :: B)[A'.length]'(by simp) = a := by simp
          have e6 : (A' ++ a :: x :: B)[A'.length + 1]'(by simp) = x := by simp
          rw [e5] at hc5
          rw [e6] at hc6
          have p0 := hc5 0 (by omega)
          have p1 := hc5 1 (by omega)
          have p2 := hc5 2 (by omega)
          have q0 := hc6 0 (by omega)
          have q1 := hc6 1 (by omega)
          have q2 := hc6 2 (by omega)
          simp only [enc3, Nat.add_zero, List.getElem?_cons_zero, List.getElem?_cons_succ] at p0 p1 p2 q0 q1 q2
          have HIN := hide hin
          have HINS := hide hins
          have HAB := hide hAB
          have hmz : A'.length + 1 < zs.length + 1 := by rw [← hlz]; simp
          have hmz2 : A'.length < zs.length := by omega
          have hcz : zs.length + 1 ≤ cap5 := by omega
          rw [hl]
          clear hin hins hc5 hc6 e5 e6 hzz h8 h8a hnc6 hcm6 hg6 hb6 hl hlz hnc5 hmz
          have hcast : ((A'.length + 1 : Nat) : Int) = (A'.length : Int) + 1 := by omega
          rw [hcast]
          clear hcast hAB
          generalize hmq : A'.length = m at *
          have HMQ := hide hmq
          clear hmq
          have hgt : (0 : Int) < (m : Int) + 1 := by omega
          have hm0 : (0 : Int) ≤ (m : Int) + 1 := by omega
          have hmI : (m : Int) < (zs.length : Int) := by omega
          have hmJ : (m : Int) + 1 < (zs.length : Int) + 1 := by omega
          have hmK : (m : Int) < (zs.length : Int) + 1 := by omega
          cases hlx : Op.bytesLess x.1.toList a.1.toList with
          | true =>
           as_aux_lemma =>
            go_wp2_with fail
            go_quiet (fail)
            have hfz := own_unfrozen (unhide HIN).row
            have HINW : Hid (RSIn w (A' ++ a :: x :: B) (.slice (some ⟨g5, 0, none⟩) (zs.length + 1) cap5) (wr.drewN nq)) := hide (rs_drewN (unhide HIN) nq)
            have P0 : (wr.drewN nq).cell? ⟨g5, m * 3, none⟩ = some (.string a.1) := p0
            have P1 : (wr.drewN nq).cell? ⟨g5, m * 3 + 1, none⟩ = some (.int .i64 (a.2.1 : Nat)) := p1
            have P2 : (wr.drewN nq).cell? ⟨g5, m * 3 + 2, none⟩ = some (.int .i64 (a.2.2 : Nat)) := p2
            have Q0 : (wr.drewN nq).cell? ⟨g5, (m + 1) * 3, none⟩ = some (.string x.1) := q0
            have Q1 : (wr.drewN nq).cell? ⟨g5, (m + 1) * 3 + 1, none⟩ = some (.int .i64 (x.2.1 : Nat)) := q1
            have Q2 : (wr.drewN nq).cell? ⟨g5, (m + 1) * 3 + 2, none⟩ = some (.int .i64 (x.2.2 : Nat)) := q2
            have FZ : ∀ j, (wr.drewN nq).frozen? ⟨g5, j, none⟩ = false := hfz
            have G5 : g5 < (wr.drewN nq).heap.size := hg5
            clear p0 p1 p2 q0 q1 q2 hfz hg5 HIN HIN2
            generalize wr.drewN nq = W at *
            have n00 : ¬ (m + 1) * 3 = m * 3 := by omega
            have k00 : ¬ m * 3 = (m + 1) * 3 := by omega
            have n01 : ¬ (m + 1) * 3 = m * 3 + 1 := by omega
            have k01 : ¬ m * 3 + 1 = (m + 1) * 3 := by omega
            have n02 : ¬ (m + 1) * 3 = m * 3 + 2 := by omega
            have k02 : ¬ m * 3 + 2 = (m + 1) * 3 := by omega
            have n10 : ¬ (m + 1) * 3 + 1 = m * 3 := by omega
            have k10 : ¬ m * 3 = (m + 1) * 3 + 1 := by omega
            have n11 : ¬ (m + 1) * 3 + 1 = m * 3 + 1 := by omega
            have k11 : ¬ m * 3 + 1 = (m + 1) * 3 + 1 := by omega
            have n12 : ¬ (m + 1) * 3 + 1 = m * 3 + 2 := by omega
            have k12 : ¬ m * 3 + 2 = (m + 1) * 3 + 1 := by omega
            have n20 : ¬ (m + 1) * 3 + 2 = m * 3 := by omega
            have k20 : ¬ m * 3 = (m + 1) * 3 + 2 := by omega
            have n21 : ¬ (m + 1) * 3 + 2 = m * 3 + 1 := by omega
            have k21 : ¬ m * 3 + 1 = (m + 1) * 3 + 2 := by omega
            have n22 : ¬ (m + 1) * 3 + 2 = m * 3 + 2 := by omega
            have k22 : ¬ m * 3 + 2 = (m + 1) * 3 + 2 := by omega
            have g5n : ¬ g5 = W.heap.size := by omega
            clear c1 c2 c3
            go_wp2_with fail
            go_roundg m
            case measure => have hq := unhide HMQ; first | omega | (simp; omega)
            case rel => exact ⟨A', a :: B, (unhide HMQ).symm, by rw [unhide HMQ], by rw [← unhide HAB]; simp, rs_swap (unhide HMQ) (unhide HINW) _, (unhide HINS).down hlx⟩
          | false =>
           as_aux_lemma =>
            have HLX := hide hlx
            go_wp2_with fail
            go_quiet (fail)
            go_wp2_with fail
            go_roundg (ps.length - (k + 1))
            case measure => omega
            case rel => exact ⟨k + 1, _, by omega, rfl, by go_num, rs_drewN (unhide HIN2) _, (unhide HINS).stop (unhide HLX), rs_perm (unhide HPE) (unhide HAB) (unhide HXQ) (unhide HX), rs_len (unhide HAB) (unhide HZ)⟩
    · have hkl : k = ps.length := by omega
      subst hkl
      go_wp2_with fail
      go_ret
      exact ⟨_, zs, rfl, unhide HI, unhide HRI, unhide HPE⟩
end Go.Proofs.YtldkpahaocjdpaaGreat

namespace Go.Proofs.YtldkpahaocjdpaaGreat
open Go.RowKit

def OkT (s : ByteArray) (ts : List (Bool × ByteArray)) : Prop := ts.length ≤ 4 ∧ ∀ t ∈ ts, t.2.size ≤ s.size

theorem pterms_small (s : ByteArray) (f : Nat) : ∀ {p : Nat} {l : List (Bool × ByteArray)} {pl : Nat → Nat}, (∀ t ∈ l, t.2.size ≤ s.size) → ∀ t ∈ (ptermsS s f p l pl).2.2.1, t.2.size ≤ s.size := by
  induction f with
  | zero => intro p l pl h; simpa [ptermsS] using h
  | succ f ih =>
    intro p l pl h
    have h' : ∀ t ∈ l ++ [(decide ((scanK s p).1 = 3), rword s p)], t.2.size ≤ s.size := fun t ht => by
      rcases List.mem_append.1 ht with ht | ht
      · exact h t ht
      · rw [List.mem_singleton.1 ht]; exact rword_size s p
    rw [ptermsS]
    split
    · split
      · exact ih h'
      · exact h'
    · exact h

theorem patom_small {s : ByteArray} {p q : Nat} {pd : ByteArray} {ts : List (Bool × ByteArray)} {pl : Nat → Nat} (h : patomS s p = .yes q pd ts pl) : OkT s ts := by
  refine ⟨(patom_ok h).2, ?_⟩
  unfold patomS at h
  by_cases c1 : (scanK s p).1 = 2
  · rw [if_pos c1] at h
    by_cases c2 : (scanK s (scanK s p).2.2).1 = 5
    · rw [if_pos c2] at h
      by_cases c3 : (ptermsS s 4 (scanK s (scanK s p).2.2).2.2 [] (fun _ => 0)).1 = true
      · rw [if_pos c3] at h
        injection h with h1 h2 h3 h4
        subst h3
        exact pterms_small s 4 (by simp)
      · rw [if_neg c3] at h; cases h
    · rw [if_neg c2] at h
      injection h with h1 h2 h3 h4
      subst h3
      simp
  · rw [if_neg c1] at h; cases h

theorem pbody_small (s : ByteArray) (num : Nat) (f : Nat) : ∀ {p : Nat} {l : List PLit} {ms : List PMen}, (∀ x ∈ l, OkT s x.ts) → ∀ x ∈ (pbodyS s num f p l ms).2.2.1, OkT s x.ts := by
  induction f with
  | zero => intro p l ms hl; exact hl
  | succ f ih =>
    intro p l ms hl
    rw [pbodyS]
    cases hr : patomS s (rtake s p 4) with
    | no q => exact hl
    | yes q pd ts pl =>
      have o1 := patom_small hr
      have hl' : ∀ x ∈ l ++ [plitOf s p pd ts], OkT s x.ts := fun x hx => by
        rcases List.mem_append.1 hx with hx | hx
        · exact hl x hx
        · simp at hx; subst hx; exact o1
      simp only
      split
      · exact ih hl'
      · exact hl'

theorem prule_small (s : ByteArray) (num p : Nat) {ms : List PMen} : OkT s (pruleS s num p ms).2.2.1.ts ∧ ∀ x ∈ (pruleS s num p ms).2.2.1.body, OkT s x.ts := by
  unfold pruleS
  cases hr : patomS s p with
  | no q => exact ⟨⟨by simp, by simp⟩, by simp⟩
  | yes q pd ts pl =>
    have o1 := patom_small hr
    simp only
    split
    · exact ⟨o1, by simp⟩
    · split
      · exact ⟨o1, pbody_small s num 3 (by simp)⟩
      · exact ⟨o1, by simp⟩

theorem prules_small (s : ByteArray) (f : Nat) : ∀ {p : Nat} {rs : List PRule} {ms : List PMen}, (∀ R ∈ rs, OkT s R.ts ∧ ∀ x ∈ R.body, OkT s x.ts) → ∀ R ∈ (prulesS s f p rs ms).2.2.1, OkT s R.ts ∧ ∀ x ∈ R.body, OkT s x.ts := by
  induction f with
  | zero => intro p rs ms hr; exact hr
  | succ f ih =>
    intro p rs ms hr
    rw [prulesS]
    split
    · exact hr
    · split
      · exact hr
      · split
        · refine ih (fun R hR => ?_)
          rcases List.mem_append.1 hR with hR | hR
          · exact hr R hR
          · simp at hR; subst hR; exact prule_small s _ _
        · exact hr

theorem small_all (s : ByteArray) : ∀ R ∈ (pparsed s).2.2.1, OkT s R.ts ∧ ∀ x ∈ R.body, OkT s x.ts := prules_small s 31 (by simp)

theorem termsT_len {c : Nat} : ∀ (ts : List (Bool × ByteArray)) (i : Nat), (∀ t ∈ ts, t.2.size ≤ c) → (termsT ts i).length ≤ (c + 1) * ts.length
  | [], _, _ => Nat.zero_le _
  | t :: r, i, h => by
    have h1 := termsT_len r (i + 1) fun y hy => h y (List.mem_cons_of_mem _ hy)
    have h2 : t.2.data.toList.length ≤ c := by have := h t List.mem_cons_self; simpa using this
    rw [termsT, List.length_cons, List.length_append, List.length_cons, Nat.mul_add, Nat.mul_one]; omega

theorem atomT_len {pd : ByteArray} {ts : List (Bool × ByteArray)} (h1 : pd.size ≤ 800) (h2 : ts.length ≤ 4) (h3 : ∀ t ∈ ts, t.2.size ≤ 800) : (atomT pd ts).length ≤ 4005 := by
  have := termsT_len ts 0 h3
  have hp : pd.data.toList.length ≤ 800 := by simpa using h1
  rw [atomT, List.length_append, List.length_append]
  have h4 : (801 : Nat) * ts.length ≤ 3204 := by omega
  split <;> simp_all <;> omega

theorem litsT_len : ∀ (ls : List PLit) (i : Nat), (∀ l ∈ ls, l.pd.size ≤ 800 ∧ l.ts.length ≤ 4 ∧ ∀ t ∈ l.ts, t.2.size ≤ 800) → (litsT ls i).length ≤ 4013 * ls.length
  | [], _, _ => Nat.zero_le _
  | L :: r, i, h => by
    have h1 := litsT_len r (i + 1) fun y hy => h y (List.mem_cons_of_mem _ hy)
    obtain ⟨a, b, c⟩ := h L List.mem_cons_self
    have h2 := atomT_len a b c
    have h3 : (litT L).length ≤ 4009 := by rw [litT, List.length_append]; split <;> simp <;> omega
    have h4 : (if i = 0 then [32, 58, 45, 32] else [44, 32] : List UInt8).length ≤ 4 := by split <;> simp
    rw [litsT, List.length_append, List.length_append, List.length_cons]; omega

theorem print_len {s : ByteArray} (h : (refLoad s).1 = true) : (printT (pparsed s).2.2.1).length ≤ 1000000000 := by
  have hg := good_of h
  have hs : s.size ≤ 800 := by
    unfold refLoad at h
    by_cases c0 : 800 < s.size
    · rw [if_pos c0] at h; cases h
    · omega
  have hsm := small_all s
  have := flat_len ruleT 20000 (pparsed s).2.2.1 (fun R hR => by
    obtain ⟨⟨a, b⟩, c⟩ := hsm R hR
    have h1 := atomT_len (hg.pd R hR) a (fun t ht => Nat.le_trans (b t ht) hs)
    have h2 := litsT_len R.body 0 (fun l hl => ⟨hg.lpd R hR l hl, (c l hl).1, fun t ht => Nat.le_trans ((c l hl).2 t ht) hs⟩)
    have h3 := hg.body R hR
    have h4 : 4013 * R.body.length ≤ 12039 := by omega
    rw [ruleT, List.length_append, List.length_append]
    simp; omega)
  have h5 := hg.len
  unfold printT
  omega
end Go.Proofs.YtldkpahaocjdpaaGreat

namespace Go.Proofs.YtldkpahaocjdpaaGreat
open Go.RowKit Go.Maps

theorem bytes_of {s : ByteArray} {l : List UInt8} (h : s.data.toList = l) : s = ⟨l.toArray⟩ := by
  subst h; cases s; simp

noncomputable def prB (s : ByteArray) : ByteArray := ⟨(printT (pparsed s).2.2.1).toArray⟩
def PrPost (s : ByteArray) (w : World) : Ending → World → Prop := fun e w' => e = .returned (.string (prB s)) ∧ Below w.heap.size w w'

theorem parsed_is {s : ByteArray} (h : (refLoad s).1 = true) : (parsed s).1.map pruleOf = (pparsed s).2.2.1 := (good_of h).rules.symm

theorem ent_print {s : ByteArray} {xb yb : Nat} {w : World} {lo : Nat} (h : EntF s xb yb w lo) : Calls Tryz.prog 28 #[.pointer (some ⟨xb, 0, none⟩)] w (PrPost s w) := by
  obtain ⟨rs, hp, hr⟩ := h.x
  have := pprint_any w lo xb rs hp (by rw [hr]; exact print_len h.ok)
  rw [hr] at this
  exact this

theorem ent_rprint {s : ByteArray} {xb yb : Nat} {w : World} {lo : Nat} (h : EntF s xb yb w lo) : Calls Tryz.prog 83 #[.pointer (some ⟨yb, 0, none⟩)] w (PrPost s w) := by
  obtain ⟨rs, ps, rv, pv, tv, gs, S, h1, h2, h3, h4, h5, h6, h7, h8, h9⟩ := h.y
  have e : rprintT (rs.map (·.R)) = printT (pparsed s).2.2.1 := by unfold rprintT; rw [h7, parsed_is h.ok]
  refine (rprint_any w yb rs ps ps rv pv tv _ h3 (by rw [e]; exact print_len h.ok)).mono ?_
  rintro e' w' ⟨x, rfl, hx, hb⟩
  exact ⟨by rw [bytes_of hx, e]; rfl, hb⟩

/-- The program's list of strata: its names, its numbers. -/
structure PStr (s : ByteArray) (w : World) (v : Value) (S : ByteArray → Nat) (ys : List ByteArray) (w' : World) : Prop where
  val : ValidN (pparsed s).2.2.1 S
  low : LowN (pparsed s).2.2.1 S
  row : w'.ownsRow w.heap.size 185 3 v ys.length (ys.flatMap (stE (predsOf s).2 S))
  ris : ys.Pairwise (fun x y => lessB x y = true)
  mem : ∀ k, k ∈ ys ↔ (numOf (predsOf s).2 k).isSome = true
  below : Below w.heap.size w w'
def PStrPost (s : ByteArray) (w : World) : Ending → World → Prop := fun e w' => ∃ v S ys, e = .returned v ∧ PStr s w v S ys w'

theorem ent_strata {s : ByteArray} {xb yb : Nat} {w : World} {lo : Nat} (h : EntF s xb yb w lo) : Calls Tryz.prog 84 #[.pointer (some ⟨xb, 0, none⟩)] w (PStrPost s w) := by
  obtain ⟨rs, hp, hr⟩ := h.x
  have hg := good_of h.ok
  obtain ⟨f0, hf0, hfb⟩ := hg.some_
  have hin : ∀ r ∈ rs, r.R ∈ (pparsed s).2.2.1 := fun r hr' => by rw [← hr]; exact List.mem_map_of_mem hr'
  have hbo : ∀ r ∈ rs, r.bs.map (·.1) = r.R.body := fun r hr' => by
    obtain ⟨a, c, _, _, hrr⟩ := hp
    exact (hrr.each r hr').eq
  have hbm : ∀ r ∈ rs, ∀ x ∈ r.bs, x.1 ∈ r.R.body := fun r hr' x hx => by rw [← hbo r hr']; exact List.mem_map_of_mem hx
  have hl : rs.length ≤ 30 := by have := hg.len; rw [← hr, List.length_map] at this; exact this
  have := pstrata_any w lo xb rs (predsOf s).2 hp hl (fun r hr' => by have := hg.body r.R (hin r hr'); rw [← hbo r hr', List.length_map] at this; exact this) (fun r hr' => hg.pd r.R (hin r hr')) (fun r hr' x hx => hg.lpd r.R (hin r hr') x.1 (hbm r hr' x hx)) (by rw [hr]; exact hg.agree) (by rw [hr]; exact hg.met) (by have := hg.few; omega) (fun r hr' => ⟨(hg.named r.R (hin r hr')).1, fun x hx => (hg.named r.R (hin r hr')).2 x.1 (hbm r hr' x hx)⟩) f0 (by rw [hr]; exact hf0) hfb
  refine this.mono ?_
  rintro e w' ⟨S, v, ys, rfl, h1, h2, h3, h4, h5, h6⟩
  rw [hr] at h1 h2
  exact ⟨v, S, ys, rfl, h1, h2, h3, h4, h5, h6⟩

/-- The reference's list of strata: it is the program's. -/
structure RStr (s : ByteArray) (w : World) (v : Value) (zs : List Stm) (w' : World) : Prop where
  row : w'.ownsRow w.heap.size 185 3 v zs.length (zs.flatMap enc3)
  few : zs.length ≤ 120
  below : Below w.heap.size w w'
  fits : ∀ {u u' : World} {v0 : Value} {S : ByteArray → Nat} {ys : List ByteArray}, PStr s u v0 S ys u' → zs.flatMap enc3 = ys.flatMap (stE (predsOf s).2 S) ∧ zs.length = ys.length
def RStrPost (s : ByteArray) (w : World) : Ending → World → Prop := fun e w' => ∃ v zs, e = .returned v ∧ RStr s w v zs w'

theorem ent_rstrata {s : ByteArray} {xb yb : Nat} {w : World} {lo : Nat} (h : EntF s xb yb w lo) : Calls Tryz.prog 85 #[.pointer (some ⟨yb, 0, none⟩)] w (RStrPost s w) := by
  obtain ⟨rs, ps, rv, pv, tv, gs, S, h1, h2, h3, h4, h5, h6, h7, h8, h9⟩ := h.y
  have hg := good_of h.ok
  subst h8
  refine (rstrata_any w yb rs (predsOf s).2 rv pv tv gs S h3 h4 (by have := hg.few; omega)).mono ?_
  rintro e w' ⟨v, zs, rfl, hin, hris, hperm⟩
  refine ⟨v, zs, rfl, hin.row, ?_, hin.below, fun {u u' v0 S' ys} hp => ?_⟩
  · have := hperm.length_eq
    rw [tri_len] at this
    have := hg.few
    omega
  · have e := parsed_is h.ok
    rw [h7] at h5 h6
    exact strata_rows hg.once h9 h5 h6 (by rw [e]; exact hp.val) (by rw [e]; exact hp.low) hp.ris hp.mem hris hperm
end Go.Proofs.YtldkpahaocjdpaaGreat

namespace Go.Proofs.YtldkpahaocjdpaaGreat
open Go.RowKit Go.Maps

set_option maxRecDepth 100000 in
set_option maxHeartbeats 4000000 in
theorem sameStrata_yes (w : World) (base base' : Nat) (a b : Option Addr) (n m c d : Nat) (zs : List Stm) (ha : w.ownsRow base 185 3 (.slice a n c) zs.length (zs.flatMap enc3)) (hb : w.ownsRow base' 185 3 (.slice b m d) zs.length (zs.flatMap enc3)) (hn : n = zs.length) (hm : m = zs.length) (hl : zs.length ≤ 1000) :
    Calls Tryz.prog 86 #[.slice a n c, .slice b m d] w fun e w' => e = .returned (.bool true) ∧ ∃ q, w' = w.drewN q := by
  subst hn hm
  have HA := hide ha
  have HB := hide hb
  clear ha hb
  go_enter Tryz.func86, Tryz.ntmps86
  go_wp2_with fail
  go_loopg [5] zs.length (fun gg i wr => ∃ (k q : Nat), k ≤ zs.length ∧ gg = zs.length - k ∧ i = .int .i64 k ∧ wr = w.drewN q)
  case atStart => exact ⟨0, 0, Nat.zero_le _, rfl, rfl, rfl⟩
  case round =>
    obtain ⟨k, q, hk, hgk, rfl, rfl⟩ := hrel
    by_cases hlk : k < zs.length
    · obtain ⟨g, cap, hv, -, hgl, hnc, hcm, hc⟩ := row_at (f := enc3) (fun _ => rfl) (unhide HA) k hlk
      injection hv with h1 h2 h3
      subst h1 h3
      obtain ⟨g', cap', hv', -, hgl', hnc', hcm', hc'⟩ := row_at (f := enc3) (fun _ => rfl) (unhide HB) k hlk
      injection hv' with h1 h2 h3
      subst h1 h3
      have p0 := hc 0 (by omega)
      have p1 := hc 1 (by omega)
      have p2 := hc 2 (by omega)
      have q0 := hc' 0 (by omega)
      have q1 := hc' 1 (by omega)
      have q2 := hc' 2 (by omega)
      simp only [enc3, Nat.add_zero, List.getElem?_cons_zero, List.getElem?_cons_succ] at p0 p1 p2 q0 q1 q2
      clear hc hc'
      generalize zs[k] = z at *
      go_wp2_with fail
      go_quiet (fail)
      go_wp2_with fail
      go_roundg (zs.length - (k + 1))
      case measure => omega
      case rel => exact ⟨k + 1, q + nq, by omega, rfl, by go_num, by simp⟩
    · go_wp2_with fail
      go_ret
      exact ⟨rfl, q, rfl⟩
end Go.Proofs.YtldkpahaocjdpaaGreat
