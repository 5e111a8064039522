/-
  The reference's parser: atom, where a name comes next: what it answers is the plain text's atom (RefAtomS), its terms in a row of its own.
-/
import Derived.Test.YtldkpahaocjdpaaGreatPrintsT10
namespace Go.Proofs.YtldkpahaocjdpaaGreat
open Go.RowKit

set_option maxRecDepth 100000 in
set_option maxHeartbeats 8000000 in
theorem atom_name (s : ByteArray) (pos : Nat) (bad : Int) (b : Nat) (w : World) (h : Pars w b s pos bad) (hpos : pos ≤ s.size) (hs : s.size ≤ maxLen) (hk' : ((tok s pos).kind != 110) = false) :
    Calls Tryz.prog 184 #[.pointer (some ⟨b, 0, none⟩)] w fun e w' => ∃ v, e = .returned (.agg #[.string (tok s pos).text, v, .bool false, .int .i64 (tok s pos).at_, .int .i64 0]) ∧ Kept [b] w w' ∧ Pars w' b s (atomRest s pos bad).2.1 (atomRest s pos bad).2.2 ∧ (atomRest s pos bad).2.1 ≤ s.size ∧ w'.ownsRow w.heap.size 317 3 v (atomRest s pos bad).1.length (cellsOf (atomRest s pos bad).1) := by
  obtain ⟨i0, hi, hz0, hz1, hz2⟩ := info_parts infoTerm
  have f93 := field93
  have h' := h
  obtain ⟨hlt, c0, c1, c2, c3, c4, c5, fz⟩ := h
  have hB : atomBad1 s pos bad = bad := by simp [atomBad1, hk']
  go_enter Tryz.func184, Tryz.ntmps184
  have HB := hide hB
  clear hB
  go_wp2_with fail
  have hpw : Pars ((w.alloc (Obj.cells #[Value.string { data := #[] }, Value.slice none 0 0, Value.bool false, Value.int IntKind.i64 0, Value.int IntKind.i64 0] 243)).alloc (Obj.cells #[Value.string { data := #[] }, Value.slice none 0 0, Value.bool false, Value.int IntKind.i64 ↑(tok s pos).at_, Value.int IntKind.i64 0] 243)) b s pos (atomBad1 s pos bad) := by
    rw [unhide HB]; exact h'.kept (((Kept.refl [] _).alloc _).alloc _) (by simp)
  refine (take_any s pos (atomBad1 s pos bad) b _ hpw hpos hs).mono ?_
  rintro e w1 ⟨rfl, hk1, hp1⟩
  unfold tkVal
  obtain ⟨r1, r2⟩ := hk1.rules
  have hz : w.heap.size + 1 < w1.heap.size := by have := hk1.size; simp at this; omega
  go_wp2_with fail
  clear f93
  refine (has_any s _ _ _ b _ (hp1.kept ((Kept.refl [w.heap.size + 1] _).setCell (by simp) _) (by simp; omega)) (takePos_le _ _ _ hpos) hs).mono ?_
  rintro e w2 ⟨rfl, hk2, hp2⟩
  have hst := atom_start hlt (hasPos_le (takePos_le _ _ _ hpos)) hk1 hk2 hp2
  have hrest : atomRest s pos bad = if isS s (takePos s pos (atomBad1 s pos bad)) (takeBad s pos (atomBad1 s pos bad)) { data := #[40] } then termsS s 5 (hasPos s (takePos s pos (atomBad1 s pos bad)) (takeBad s pos (atomBad1 s pos bad)) { data := #[40] }) (hasBad s (takePos s pos (atomBad1 s pos bad)) (takeBad s pos (atomBad1 s pos bad)) { data := #[40] }) [] else ([], hasPos s (takePos s pos (atomBad1 s pos bad)) (takeBad s pos (atomBad1 s pos bad)) { data := #[40] }, hasBad s (takePos s pos (atomBad1 s pos bad)) (takeBad s pos (atomBad1 s pos bad)) { data := #[40] }) := rfl
  clear hk1 hk2 hp1 hp2 r1 r2 c0 c1 c2 c3 c4 c5 fz h' HB hk' hz
  generalize hasPos s (takePos s pos (atomBad1 s pos bad)) (takeBad s pos (atomBad1 s pos bad)) { data := #[40] } = p3 at *
  generalize hasBad s (takePos s pos (atomBad1 s pos bad)) (takeBad s pos (atomBad1 s pos bad)) { data := #[40] } = b3 at *
  generalize isS s (takePos s pos (atomBad1 s pos bad)) (takeBad s pos (atomBad1 s pos bad)) { data := #[40] } = o3 at *
  have HR := hide hrest
  clear hrest
  go_wp2_with fail
  go_loopg [4] 7 (fun g op wr => ∃ (l : List RTerm) (p : Nat) (bd : Int) (o : Bool) (v : Value), op = .bool o ∧ (o = true → l.length ≤ 4) ∧ (if o then 7 - l.length else 0) ≤ g ∧ AtomInv w b s (tok s pos).text (tok s pos).at_ l p bd v wr ∧ atomRest s pos bad = (if o then termsS s (5 - l.length) p bd l else (l, p, bd)))
  case atStart => exact ⟨[], p3, b3, o3, _, rfl, by simp, by split <;> simp, hst, unhide HR⟩
  case round =>
    clear HR hst
    obtain ⟨l, p, bd, o, v, rfl, hl4, hg, hinv, hfin⟩ := hrel
    have HF := hide hfin
    clear hfin
    obtain ⟨a0, cap0, rfl⟩ := own_slice hinv.own
    have hpr' := hinv.pars
    have hpl := hinv.hp
    have hsz := hinv.sz
    cases o with
    | false =>
      obtain ⟨x0, x1, x2, x3, x4, xf⟩ := hinv.ac
      obtain ⟨y0, y1, y2, y3, y4, yf⟩ := hinv.rc
      clear hl4
      go_wp2_with fail
      obtain ⟨q0, q1, q2, q3, q4⟩ := set5 y0 y1 y2 y3 y4 (.string (tok s pos).text) (.slice a0 l.length cap0) (.bool false) (.int .i64 (tok s pos).at_) (.int .i64 0)
      have hend := hinv.ends (kept5 wr w.heap.size (.string (tok s pos).text) (.slice a0 l.length cap0) (.bool false) (.int .i64 (tok s pos).at_) (.int .i64 0))
      have hF : atomRest s pos bad = (l, p, bd) := unhide HF
      refine bodyPost_ret (v := .agg #[.string (tok s pos).text, .slice a0 l.length cap0, .bool false, .int .i64 (tok s pos).at_, .int .i64 0]) (by simp [results, Tryz.results184, go_sem, q0, q1, q2, q3, q4]) rfl ⟨.slice a0 l.length cap0, rfl, ?_⟩
      rw [hF]
      exact hend
    | true =>
      have hl4' : l.length ≤ 4 := hl4 rfl
      clear hl4
      have hst := termsS_step s p bd l hl4'
      have HF2 := hide ((unhide HF).trans hst)
      clear HF hst
      have hlI : (l.length : Int) ≤ 4 := by omega
      obtain ⟨hltr, c0, c1, c2, c3, c4, c5, fz⟩ := hinv.pars
      obtain ⟨x0, x1, x2, x3, x4, xf⟩ := hinv.ac
      have five : (((tok s p).kind != 110) = true ∧ ((tok s p).kind != 118) = true ∧ termBad s p bd l.length = failS s p bd) ∨
          (((tok s p).kind != 110) = false ∧ ((l.length : Int) == 4) = true ∧ termBad s p bd l.length = failS s p bd) ∨
          (((tok s p).kind != 110) = true ∧ ((tok s p).kind != 118) = false ∧ ((l.length : Int) == 4) = true ∧ termBad s p bd l.length = failS s p bd) ∨
          (((tok s p).kind != 110) = false ∧ ((l.length : Int) == 4) = false ∧ termBad s p bd l.length = bd) ∨
          (((tok s p).kind != 110) = true ∧ ((tok s p).kind != 118) = false ∧ ((l.length : Int) == 4) = false ∧ termBad s p bd l.length = bd) := five_ways s p bd l
      rcases five with ⟨t1, t2, tb⟩ | ⟨t1, t2, tb⟩ | ⟨t1, t2, t3, tb⟩ | ⟨t1, t2, tb⟩ | ⟨t1, t2, t3, tb⟩
      · skip
        have TB := hide tb
        clear tb
        go_wp2_with fail
        refine (fail_any s p bd b _ hpr').mono ?_
        rintro e w0 ⟨rfl, hk0, hp0⟩
        rw [← unhide TB] at hp0
        have hinv0 := hinv.call hk0 hp0 hpl
        clear hk0 hp0 c0 c1 c2 c3 c4 c5 fz x0 x1 x2 x3 x4 xf
        go_wp2_with fail
        refine (take_any s p (termBad s p bd l.length) b _ hinv0.pars hpl hs).mono ?_
        rintro e w1 ⟨rfl, hk1, hp1⟩
        unfold tkVal
        have hinv1 := hinv0.call hk1 hp1 (takePos_le _ _ _ hpl)
        have hb2 : w.heap.size + 1 < w1.heap.size := by have := hinv1.sz; omega
        obtain ⟨d0, d1, d2, d3, d4, dfz⟩ := hinv1.ac
        have hown1 := hinv1.own
        clear hk1 hp1 hinv0
        go_wp2_with (at_builtin; refine wpList_append_own _ rfl _ _ 241 rfl (w.heap.size + 2) 317 i0 _ 3 32 Tryz.underlying241 hi hz0 hz1 hz2 rfl (by decide) _ _ _ rfl ((hown1.alloc _).alloc _) ⟨w1.heap.size + 1, 0, none⟩ 1 1 (termOf s p).cells rfl rfl (term_cell w1 _ (termOf s p)) (term_one _) (by unfold maxLen; omega) (by omega) (by simp; omega) ?_)
        intro v5 w5 hown5 hg5 hne5
        clear hne5
        obtain ⟨a5, cap5, rfl⟩ := own_slice hown5
        obtain ⟨hinv5, e0, e1, e2, e3, e4, efz⟩ := hinv1.append (termOf s p) hown5 hg5
        have hb5 : w.heap.size + 1 < w5.heap.size := by have := hinv5.sz; simp at this; omega
        clear hown5 hg5 d0 d1 d2 d3 d4 dfz hown1 hinv1
        go_wp2_with fail
        refine (has_any s _ _ _ b _ hinv5.pars (takePos_le _ _ _ hpl) hs).mono ?_
        rintro e w7 ⟨rfl, hk7, hp7⟩
        have hinv7 := hinv5.call hk7 hp7 (hasPos_le (takePos_le _ _ _ hpl))
        clear hk7 hp7 hinv5 e0 e1 e2 e3 e4 efz hb5
        cases hm : isS s (takePos s p (termBad s p bd l.length)) (takeBad s p (termBad s p bd l.length)) { data := #[44] } with
        | true =>
          have HF3 := hide ((unhide HF2).trans (if_pos hm))
          have hml := more_le hl4' hm
          clear hm HF2
          go_wp2_with fail
          go_roundg (7 - (l ++ [termOf s p]).length)
          case measure => simp at hg ⊢; omega
          case rel => exact ⟨l ++ [termOf s p], _, _, true, _, rfl, fun _ => by simp; omega, by simp, hinv7, unhide HF3⟩
        | false =>
          have HF3 := hide ((unhide HF2).trans (if_neg (by rw [hm]; decide)))
          clear hm HF2
          go_wp2_with fail
          refine (need_any s _ _ _ b _ hinv7.pars hinv7.hp hs).mono ?_
          rintro e w8 ⟨rfl, hk8, hp8⟩
          have hinv8 := hinv7.call hk8 hp8 (takePos_le _ _ _ hinv7.hp)
          clear hk8 hp8 hinv7
          go_wp2_with fail
          go_roundg 0
          case measure => simp at hg ⊢; omega
          case rel => exact ⟨l ++ [termOf s p], _, _, false, _, rfl, by simp, by simp, hinv8, unhide HF3⟩
      · skip
        have TB := hide tb
        clear tb
        go_wp2_with fail
        refine (fail_any s p bd b _ hpr').mono ?_
        rintro e w0 ⟨rfl, hk0, hp0⟩
        rw [← unhide TB] at hp0
        have hinv0 := hinv.call hk0 hp0 hpl
        clear hk0 hp0 c0 c1 c2 c3 c4 c5 fz x0 x1 x2 x3 x4 xf
        go_wp2_with fail
        refine (take_any s p (termBad s p bd l.length) b _ hinv0.pars hpl hs).mono ?_
        rintro e w1 ⟨rfl, hk1, hp1⟩
        unfold tkVal
        have hinv1 := hinv0.call hk1 hp1 (takePos_le _ _ _ hpl)
        have hb2 : w.heap.size + 1 < w1.heap.size := by have := hinv1.sz; omega
        obtain ⟨d0, d1, d2, d3, d4, dfz⟩ := hinv1.ac
        have hown1 := hinv1.own
        clear hk1 hp1 hinv0
        go_wp2_with (at_builtin; refine wpList_append_own _ rfl _ _ 241 rfl (w.heap.size + 2) 317 i0 _ 3 32 Tryz.underlying241 hi hz0 hz1 hz2 rfl (by decide) _ _ _ rfl ((hown1.alloc _).alloc _) ⟨w1.heap.size + 1, 0, none⟩ 1 1 (termOf s p).cells rfl rfl (term_cell w1 _ (termOf s p)) (term_one _) (by unfold maxLen; omega) (by omega) (by simp; omega) ?_)
        intro v5 w5 hown5 hg5 hne5
        clear hne5
        obtain ⟨a5, cap5, rfl⟩ := own_slice hown5
        obtain ⟨hinv5, e0, e1, e2, e3, e4, efz⟩ := hinv1.append (termOf s p) hown5 hg5
        have hb5 : w.heap.size + 1 < w5.heap.size := by have := hinv5.sz; simp at this; omega
        clear hown5 hg5 d0 d1 d2 d3 d4 dfz hown1 hinv1
        go_wp2_with fail
        refine (has_any s _ _ _ b _ hinv5.pars (takePos_le _ _ _ hpl) hs).mono ?_
        rintro e w7 ⟨rfl, hk7, hp7⟩
        have hinv7 := hinv5.call hk7 hp7 (hasPos_le (takePos_le _ _ _ hpl))
        clear hk7 hp7 hinv5 e0 e1 e2 e3 e4 efz hb5
        cases hm : isS s (takePos s p (termBad s p bd l.length)) (takeBad s p (termBad s p bd l.length)) { data := #[44] } with
        | true =>
          have HF3 := hide ((unhide HF2).trans (if_pos hm))
          have hml := more_le hl4' hm
          clear hm HF2
          go_wp2_with fail
          go_roundg (7 - (l ++ [termOf s p]).length)
          case measure => simp at hg ⊢; omega
          case rel => exact ⟨l ++ [termOf s p], _, _, true, _, rfl, fun _ => by simp; omega, by simp, hinv7, unhide HF3⟩
        | false =>
          have HF3 := hide ((unhide HF2).trans (if_neg (by rw [hm]; decide)))
          clear hm HF2
          go_wp2_with fail
          refine (need_any s _ _ _ b _ hinv7.pars hinv7.hp hs).mono ?_
          rintro e w8 ⟨rfl, hk8, hp8⟩
          have hinv8 := hinv7.call hk8 hp8 (takePos_le _ _ _ hinv7.hp)
          clear hk8 hp8 hinv7
          go_wp2_with fail
          go_roundg 0
          case measure => simp at hg ⊢; omega
          case rel => exact ⟨l ++ [termOf s p], _, _, false, _, rfl, by simp, by simp, hinv8, unhide HF3⟩
      · skip
        have TB := hide tb
        clear tb
        go_wp2_with fail
        refine (fail_any s p bd b _ hpr').mono ?_
        rintro e w0 ⟨rfl, hk0, hp0⟩
        rw [← unhide TB] at hp0
        have hinv0 := hinv.call hk0 hp0 hpl
        clear hk0 hp0 c0 c1 c2 c3 c4 c5 fz x0 x1 x2 x3 x4 xf
        go_wp2_with fail
        refine (take_any s p (termBad s p bd l.length) b _ hinv0.pars hpl hs).mono ?_
        rintro e w1 ⟨rfl, hk1, hp1⟩
        unfold tkVal
        have hinv1 := hinv0.call hk1 hp1 (takePos_le _ _ _ hpl)
        have hb2 : w.heap.size + 1 < w1.heap.size := by have := hinv1.sz; omega
        obtain ⟨d0, d1, d2, d3, d4, dfz⟩ := hinv1.ac
        have hown1 := hinv1.own
        clear hk1 hp1 hinv0
        go_wp2_with (at_builtin; refine wpList_append_own _ rfl _ _ 241 rfl (w.heap.size + 2) 317 i0 _ 3 32 Tryz.underlying241 hi hz0 hz1 hz2 rfl (by decide) _ _ _ rfl ((hown1.alloc _).alloc _) ⟨w1.heap.size + 1, 0, none⟩ 1 1 (termOf s p).cells rfl rfl (term_cell w1 _ (termOf s p)) (term_one _) (by unfold maxLen; omega) (by omega) (by simp; omega) ?_)
        intro v5 w5 hown5 hg5 hne5
        clear hne5
        obtain ⟨a5, cap5, rfl⟩ := own_slice hown5
        obtain ⟨hinv5, e0, e1, e2, e3, e4, efz⟩ := hinv1.append (termOf s p) hown5 hg5
        have hb5 : w.heap.size + 1 < w5.heap.size := by have := hinv5.sz; simp at this; omega
        clear hown5 hg5 d0 d1 d2 d3 d4 dfz hown1 hinv1
        go_wp2_with fail
        refine (has_any s _ _ _ b _ hinv5.pars (takePos_le _ _ _ hpl) hs).mono ?_
        rintro e w7 ⟨rfl, hk7, hp7⟩
        have hinv7 := hinv5.call hk7 hp7 (hasPos_le (takePos_le _ _ _ hpl))
        clear hk7 hp7 hinv5 e0 e1 e2 e3 e4 efz hb5
        cases hm : isS s (takePos s p (termBad s p bd l.length)) (takeBad s p (termBad s p bd l.length)) { data := #[44] } with
        | true =>
          have HF3 := hide ((unhide HF2).trans (if_pos hm))
          have hml := more_le hl4' hm
          clear hm HF2
          go_wp2_with fail
          go_roundg (7 - (l ++ [termOf s p]).length)
          case measure => simp at hg ⊢; omega
          case rel => exact ⟨l ++ [termOf s p], _, _, true, _, rfl, fun _ => by simp; omega, by simp, hinv7, unhide HF3⟩
        | false =>
          have HF3 := hide ((unhide HF2).trans (if_neg (by rw [hm]; decide)))
          clear hm HF2
          go_wp2_with fail
          refine (need_any s _ _ _ b _ hinv7.pars hinv7.hp hs).mono ?_
          rintro e w8 ⟨rfl, hk8, hp8⟩
          have hinv8 := hinv7.call hk8 hp8 (takePos_le _ _ _ hinv7.hp)
          clear hk8 hp8 hinv7
          go_wp2_with fail
          go_roundg 0
          case measure => simp at hg ⊢; omega
          case rel => exact ⟨l ++ [termOf s p], _, _, false, _, rfl, by simp, by simp, hinv8, unhide HF3⟩
      · skip
        have TB := hide tb
        clear tb
        go_wp2_with fail
        have hinv0 : AtomInv w b s (tok s pos).text (tok s pos).at_ l p (termBad s p bd l.length) (.slice a0 l.length cap0) wr := by rw [unhide TB]; exact hinv
        clear c0 c1 c2 c3 c4 c5 fz x0 x1 x2 x3 x4 xf
        refine (take_any s p (termBad s p bd l.length) b _ hinv0.pars hpl hs).mono ?_
        rintro e w1 ⟨rfl, hk1, hp1⟩
        unfold tkVal
        have hinv1 := hinv0.call hk1 hp1 (takePos_le _ _ _ hpl)
        have hb2 : w.heap.size + 1 < w1.heap.size := by have := hinv1.sz; omega
        obtain ⟨d0, d1, d2, d3, d4, dfz⟩ := hinv1.ac
        have hown1 := hinv1.own
        clear hk1 hp1 hinv0
        go_wp2_with (at_builtin; refine wpList_append_own _ rfl _ _ 241 rfl (w.heap.size + 2) 317 i0 _ 3 32 Tryz.underlying241 hi hz0 hz1 hz2 rfl (by decide) _ _ _ rfl ((hown1.alloc _).alloc _) ⟨w1.heap.size + 1, 0, none⟩ 1 1 (termOf s p).cells rfl rfl (term_cell w1 _ (termOf s p)) (term_one _) (by unfold maxLen; omega) (by omega) (by simp; omega) ?_)
        intro v5 w5 hown5 hg5 hne5
        clear hne5
        obtain ⟨a5, cap5, rfl⟩ := own_slice hown5
        obtain ⟨hinv5, e0, e1, e2, e3, e4, efz⟩ := hinv1.append (termOf s p) hown5 hg5
        have hb5 : w.heap.size + 1 < w5.heap.size := by have := hinv5.sz; simp at this; omega
        clear hown5 hg5 d0 d1 d2 d3 d4 dfz hown1 hinv1
        go_wp2_with fail
        refine (has_any s _ _ _ b _ hinv5.pars (takePos_le _ _ _ hpl) hs).mono ?_
        rintro e w7 ⟨rfl, hk7, hp7⟩
        have hinv7 := hinv5.call hk7 hp7 (hasPos_le (takePos_le _ _ _ hpl))
        clear hk7 hp7 hinv5 e0 e1 e2 e3 e4 efz hb5
        cases hm : isS s (takePos s p (termBad s p bd l.length)) (takeBad s p (termBad s p bd l.length)) { data := #[44] } with
        | true =>
          have HF3 := hide ((unhide HF2).trans (if_pos hm))
          have hml := more_le hl4' hm
          clear hm HF2
          go_wp2_with fail
          go_roundg (7 - (l ++ [termOf s p]).length)
          case measure => simp at hg ⊢; omega
          case rel => exact ⟨l ++ [termOf s p], _, _, true, _, rfl, fun _ => by simp; omega, by simp, hinv7, unhide HF3⟩
        | false =>
          have HF3 := hide ((unhide HF2).trans (if_neg (by rw [hm]; decide)))
          clear hm HF2
          go_wp2_with fail
          refine (need_any s _ _ _ b _ hinv7.pars hinv7.hp hs).mono ?_
          rintro e w8 ⟨rfl, hk8, hp8⟩
          have hinv8 := hinv7.call hk8 hp8 (takePos_le _ _ _ hinv7.hp)
          clear hk8 hp8 hinv7
          go_wp2_with fail
          go_roundg 0
          case measure => simp at hg ⊢; omega
          case rel => exact ⟨l ++ [termOf s p], _, _, false, _, rfl, by simp, by simp, hinv8, unhide HF3⟩
      · skip
        have TB := hide tb
        clear tb
        go_wp2_with fail
        have hinv0 : AtomInv w b s (tok s pos).text (tok s pos).at_ l p (termBad s p bd l.length) (.slice a0 l.length cap0) wr := by rw [unhide TB]; exact hinv
        clear c0 c1 c2 c3 c4 c5 fz x0 x1 x2 x3 x4 xf
        refine (take_any s p (termBad s p bd l.length) b _ hinv0.pars hpl hs).mono ?_
        rintro e w1 ⟨rfl, hk1, hp1⟩
        unfold tkVal
        have hinv1 := hinv0.call hk1 hp1 (takePos_le _ _ _ hpl)
        have hb2 : w.heap.size + 1 < w1.heap.size := by have := hinv1.sz; omega
        obtain ⟨d0, d1, d2, d3, d4, dfz⟩ := hinv1.ac
        have hown1 := hinv1.own
        clear hk1 hp1 hinv0
        go_wp2_with (at_builtin; refine wpList_append_own _ rfl _ _ 241 rfl (w.heap.size + 2) 317 i0 _ 3 32 Tryz.underlying241 hi hz0 hz1 hz2 rfl (by decide) _ _ _ rfl ((hown1.alloc _).alloc _) ⟨w1.heap.size + 1, 0, none⟩ 1 1 (termOf s p).cells rfl rfl (term_cell w1 _ (termOf s p)) (term_one _) (by unfold maxLen; omega) (by omega) (by simp; omega) ?_)
        intro v5 w5 hown5 hg5 hne5
        clear hne5
        obtain ⟨a5, cap5, rfl⟩ := own_slice hown5
        obtain ⟨hinv5, e0, e1, e2, e3, e4, efz⟩ := hinv1.append (termOf s p) hown5 hg5
        have hb5 : w.heap.size + 1 < w5.heap.size := by have := hinv5.sz; simp at this; omega
        clear hown5 hg5 d0 d1 d2 d3 d4 dfz hown1 hinv1
        go_wp2_with fail
        refine (has_any s _ _ _ b _ hinv5.pars (takePos_le _ _ _ hpl) hs).mono ?_
        rintro e w7 ⟨rfl, hk7, hp7⟩
        have hinv7 := hinv5.call hk7 hp7 (hasPos_le (takePos_le _ _ _ hpl))
        clear hk7 hp7 hinv5 e0 e1 e2 e3 e4 efz hb5
        cases hm : isS s (takePos s p (termBad s p bd l.length)) (takeBad s p (termBad s p bd l.length)) { data := #[44] } with
        | true =>
          have HF3 := hide ((unhide HF2).trans (if_pos hm))
          have hml := more_le hl4' hm
          clear hm HF2
          go_wp2_with fail
          go_roundg (7 - (l ++ [termOf s p]).length)
          case measure => simp at hg ⊢; omega
          case rel => exact ⟨l ++ [termOf s p], _, _, true, _, rfl, fun _ => by simp; omega, by simp, hinv7, unhide HF3⟩
        | false =>
          have HF3 := hide ((unhide HF2).trans (if_neg (by rw [hm]; decide)))
          clear hm HF2
          go_wp2_with fail
          refine (need_any s _ _ _ b _ hinv7.pars hinv7.hp hs).mono ?_
          rintro e w8 ⟨rfl, hk8, hp8⟩
          have hinv8 := hinv7.call hk8 hp8 (takePos_le _ _ _ hinv7.hp)
          clear hk8 hp8 hinv7
          go_wp2_with fail
          go_roundg 0
          case measure => simp at hg ⊢; omega
          case rel => exact ⟨l ++ [termOf s p], _, _, false, _, rfl, by simp, by simp, hinv8, unhide HF3⟩
end Go.Proofs.YtldkpahaocjdpaaGreat
