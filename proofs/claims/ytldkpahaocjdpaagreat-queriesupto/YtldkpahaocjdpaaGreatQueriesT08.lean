/-
  The reference's parser: atom, where no name comes next: what it answers is the plain text's atom (RefAtomS), its terms in a row of its own.
  The reference's parser: atom, at every text and place: the plain text's atom (RefAtomS), its terms in a row of its own; nothing else of old memory has turned but the parser.
  The reference's parser: literal, at every text and place: the plain text's literal, its terms in a row of its own; nothing else of old memory has turned but the parser.
  Plain: what the reference's parser reads as a rule; how a rule lies in memory while it is read.
-/
import Derived.Test.YtldkpahaocjdpaaGreatQueriesT07
set_option maxHeartbeats 16000000
namespace Go.Proofs.YtldkpahaocjdpaaGreat
section
open Go.RowKit
set_option maxRecDepth 100000 in
theorem atom_none (s : ByteArray) (pos : Nat) (bad : Int) (b : Nat) (w : World) (h : Pars w b s pos bad) (hpos : pos ≤ s.size) (hs : s.size ≤ maxLen) (hk' : ((tok s pos).kind != 110) = true) :
  Calls Tryz.prog 184 #[.pointer (some ⟨b, 0, none⟩)] w fun e w' => ∃ v, e = .returned (.agg #[.string (tok s pos).text, v, .bool false, .int .i64 (tok s pos).at_, .int .i64 0]) ∧ Kept [b] w w' ∧ Pars w' b s (zag s pos bad).2.1 (zag s pos bad).2.2 ∧ (zag s pos bad).2.1 ≤ s.size ∧ w'.ownsRow w.heap.size 317 3 v (zag s pos bad).1.length (cellsOf (zag s pos bad).1) := by
 obtain ⟨i0, hi, hz0, hz1, hz2⟩ := info_parts zm1
 have f93 := field93
 have h' := h
 obtain ⟨hlt, c0, c1, c2, c3, c4, c5, fz⟩ := h
 have hB : zaq s pos bad = zdz s pos bad := by simp [zaq, hk']
 go_enter Tryz.func184, Tryz.ntmps184
 have HB := hide hB
 clear hB
 go_wp2_with fail
 refine (zd6 s pos bad b _ (h'.kept (((Kept.refl [] _).alloc _).alloc _) (by simp))).mono ?_
 rintro e w0 ⟨rfl, hk0, hp0⟩
 rw [← zaa HB] at hp0
 go_wp2_with fail
 refine (zcv s pos (zaq s pos bad) b _ hp0 hpos hs).mono ?_
 rintro e w1 ⟨rfl, hk1', hp1⟩
 have hk1 := hk0.trans hk1'
 clear hk1' hk0 hp0
 unfold zb0
 obtain ⟨r1, r2⟩ := hk1.rules
 have hz : w.heap.size + 1 < w1.heap.size := by have := hk1.size; simp at this; omega
 go_wp2_with fail
 clear f93
 refine (zds s _ _ _ b _ (hp1.kept ((Kept.refl [w.heap.size + 1] _).setCell (by simp) _) (by simp; omega)) (zam _ _ _ hpos) hs).mono ?_
 rintro e w2 ⟨rfl, hk2, hp2⟩
 have hst := zmk hlt (zcd (zam _ _ _ hpos)) hk1 hk2 hp2
 have hrest : zag s pos bad = if isS s (zao s pos (zaq s pos bad)) (zan s pos (zaq s pos bad)) { data := #[40] } then zcw s 5 (zbz s (zao s pos (zaq s pos bad)) (zan s pos (zaq s pos bad)) { data := #[40] }) (zb9 s (zao s pos (zaq s pos bad)) (zan s pos (zaq s pos bad)) { data := #[40] }) [] else ([], zbz s (zao s pos (zaq s pos bad)) (zan s pos (zaq s pos bad)) { data := #[40] }, zb9 s (zao s pos (zaq s pos bad)) (zan s pos (zaq s pos bad)) { data := #[40] }) := rfl
 clear hk1 hk2 hp1 hp2 r1 r2 c0 c1 c2 c3 c4 c5 fz h' HB hk' hz
 generalize zbz s (zao s pos (zaq s pos bad)) (zan s pos (zaq s pos bad)) { data := #[40] } = p3 at *
 generalize zb9 s (zao s pos (zaq s pos bad)) (zan s pos (zaq s pos bad)) { data := #[40] } = b3 at *
 generalize isS s (zao s pos (zaq s pos bad)) (zan s pos (zaq s pos bad)) { data := #[40] } = o3 at *
 have HR := hide hrest
 clear hrest
 go_wp2_with fail
 go_loopg [4] 7 (fun g op wr => ∃ (l : List RTerm) (p : Nat) (bd : Int) (o : Bool) (v : Value), op = .bool o ∧ (o = true → l.length ≤ 4) ∧ (if o then 7 - l.length else 0) ≤ g ∧ AtomInv w b s (tok s pos).text (tok s pos).at_ l p bd v wr ∧ zag s pos bad = (if o then zcw s (5 - l.length) p bd l else (l, p, bd)))
 case atStart => exact ⟨[], p3, b3, o3, _, rfl, by simp, by split <;> simp, hst, zaa HR⟩
 case round =>
  clear HR hst
  obtain ⟨l, p, bd, o, v, rfl, hl4, hg, hinv, hfin⟩ := hrel
  have HF := hide hfin
  clear hfin
  obtain ⟨a0, cap0, rfl⟩ := zac hinv.own
  have hpr' := hinv.pars
  have hpl := hinv.hp
  have hsz := hinv.sz
  cases o with
  | false =>
   obtain ⟨x0, x1, x2, x3, x4, xf⟩ := hinv.ac
   obtain ⟨y0, y1, y2, y3, y4, yf⟩ := hinv.rc
   clear hl4
   go_wp2_with fail
   obtain ⟨q0, q1, q2, q3, q4⟩ := set5 y0 y1 y2 y3 y4 (.string (tok s pos).text) (.slice a0 l.length cap0) (.bool false) (.int .i64 (tok s pos).at_) (.int .i64 0)
   have hend := hinv.ends (zn0 wr w.heap.size (.string (tok s pos).text) (.slice a0 l.length cap0) (.bool false) (.int .i64 (tok s pos).at_) (.int .i64 0))
   have hF : zag s pos bad = (l, p, bd) := zaa HF
   refine bodyPost_ret (v := .agg #[.string (tok s pos).text, .slice a0 l.length cap0, .bool false, .int .i64 (tok s pos).at_, .int .i64 0]) (by simp [results, Tryz.results184, go_sem, q0, q1, q2, q3, q4]) rfl ⟨.slice a0 l.length cap0, rfl, ?_⟩
   rw [hF]
   exact hend
  | true =>
   have hl4' : l.length ≤ 4 := hl4 rfl
   clear hl4
   have hst := zki s p bd l hl4'
   have HF2 := hide ((zaa HF).trans hst)
   clear HF hst
   have hlI : (l.length : Int) ≤ 4 := by omega
   obtain ⟨hltr, c0, c1, c2, c3, c4, c5, fz⟩ := hinv.pars
   obtain ⟨x0, x1, x2, x3, x4, xf⟩ := hinv.ac
   have five : (((tok s p).kind != 110) = true ∧ ((tok s p).kind != 118) = true ∧ zal s p bd l.length = zdz s p bd) ∨
     (((tok s p).kind != 110) = false ∧ ((l.length : Int) == 4) = true ∧ zal s p bd l.length = zdz s p bd) ∨
     (((tok s p).kind != 110) = true ∧ ((tok s p).kind != 118) = false ∧ ((l.length : Int) == 4) = true ∧ zal s p bd l.length = zdz s p bd) ∨
     (((tok s p).kind != 110) = false ∧ ((l.length : Int) == 4) = false ∧ zal s p bd l.length = bd) ∨
     (((tok s p).kind != 110) = true ∧ ((tok s p).kind != 118) = false ∧ ((l.length : Int) == 4) = false ∧ zal s p bd l.length = bd) := zpt s p bd l
   rcases five with ⟨t1, t2, tb⟩ | ⟨t1, t2, tb⟩ | ⟨t1, t2, t3, tb⟩ | ⟨t1, t2, tb⟩ | ⟨t1, t2, t3, tb⟩
   ·skip
    have TB := hide tb
    clear tb
    go_wp2_with fail
    refine (zd6 s p bd b _ hpr').mono ?_
    rintro e w0 ⟨rfl, hk0, hp0⟩
    rw [← zaa TB] at hp0
    have hinv0 := hinv.call hk0 hp0 hpl
    clear hk0 hp0 c0 c1 c2 c3 c4 c5 fz x0 x1 x2 x3 x4 xf
    go_wp2_with fail
    refine (zcv s p (zal s p bd l.length) b _ hinv0.pars hpl hs).mono ?_
    rintro e w1 ⟨rfl, hk1, hp1⟩
    unfold zb0
    have hinv1 := hinv0.call hk1 hp1 (zam _ _ _ hpl)
    have hb2 : w.heap.size + 1 < w1.heap.size := by have := hinv1.sz; omega
    obtain ⟨d0, d1, d2, d3, d4, dfz⟩ := hinv1.ac
    have hown1 := hinv1.own
    clear hk1 hp1 hinv0
    go_wp2_with (at_builtin; refine wpList_append_own _ rfl _ _ 241 rfl (w.heap.size + 2) 317 i0 _ 3 32 Tryz.underlying241 hi hz0 hz1 hz2 rfl (by decide) _ _ _ rfl ((hown1.alloc _).alloc _) ⟨w1.heap.size + 1, 0, none⟩ 1 1 (zas s p).cells rfl rfl (zdm w1 _ (zas s p)) (zel _) (by unfold maxLen; omega) (by omega) (by simp; omega) ?_)
    intro v5 w5 hown5 hg5 hne5
    clear hne5
    obtain ⟨a5, cap5, rfl⟩ := zac hown5
    obtain ⟨hinv5, e0, e1, e2, e3, e4, efz⟩ := hinv1.append (zas s p) hown5 hg5
    have hb5 : w.heap.size + 1 < w5.heap.size := by have := hinv5.sz; simp at this; omega
    clear hown5 hg5 d0 d1 d2 d3 d4 dfz hown1 hinv1
    go_wp2_with fail
    refine (zds s _ _ _ b _ hinv5.pars (zam _ _ _ hpl) hs).mono ?_
    rintro e w7 ⟨rfl, hk7, hp7⟩
    have hinv7 := hinv5.call hk7 hp7 (zcd (zam _ _ _ hpl))
    clear hk7 hp7 hinv5 e0 e1 e2 e3 e4 efz hb5
    cases hm : isS s (zao s p (zal s p bd l.length)) (zan s p (zal s p bd l.length)) { data := #[44] } with
    | true =>
     have HF3 := hide ((zaa HF2).trans (if_pos hm))
     have hml := zfm hl4' hm
     clear hm HF2
     go_wp2_with fail
     go_roundg (7 - (l ++ [zas s p]).length)
     case measure => simp at hg ⊢; omega
     case rel => exact ⟨l ++ [zas s p], _, _, true, _, rfl, fun _ => by simp; omega, by simp, hinv7, zaa HF3⟩
    | false =>
     have HF3 := hide ((zaa HF2).trans (if_neg (by rw [hm]; decide)))
     clear hm HF2
     go_wp2_with fail
     refine (zd8 s _ _ _ b _ hinv7.pars hinv7.hp hs).mono ?_
     rintro e w8 ⟨rfl, hk8, hp8⟩
     have hinv8 := hinv7.call hk8 hp8 (zam _ _ _ hinv7.hp)
     clear hk8 hp8 hinv7
     go_wp2_with fail
     go_roundg 0
     case measure => simp at hg ⊢; omega
     case rel => exact ⟨l ++ [zas s p], _, _, false, _, rfl, by simp, by simp, hinv8, zaa HF3⟩
   ·skip
    have TB := hide tb
    clear tb
    go_wp2_with fail
    refine (zd6 s p bd b _ hpr').mono ?_
    rintro e w0 ⟨rfl, hk0, hp0⟩
    rw [← zaa TB] at hp0
    have hinv0 := hinv.call hk0 hp0 hpl
    clear hk0 hp0 c0 c1 c2 c3 c4 c5 fz x0 x1 x2 x3 x4 xf
    go_wp2_with fail
    refine (zcv s p (zal s p bd l.length) b _ hinv0.pars hpl hs).mono ?_
    rintro e w1 ⟨rfl, hk1, hp1⟩
    unfold zb0
    have hinv1 := hinv0.call hk1 hp1 (zam _ _ _ hpl)
    have hb2 : w.heap.size + 1 < w1.heap.size := by have := hinv1.sz; omega
    obtain ⟨d0, d1, d2, d3, d4, dfz⟩ := hinv1.ac
    have hown1 := hinv1.own
    clear hk1 hp1 hinv0
    go_wp2_with (at_builtin; refine wpList_append_own _ rfl _ _ 241 rfl (w.heap.size + 2) 317 i0 _ 3 32 Tryz.underlying241 hi hz0 hz1 hz2 rfl (by decide) _ _ _ rfl ((hown1.alloc _).alloc _) ⟨w1.heap.size + 1, 0, none⟩ 1 1 (zas s p).cells rfl rfl (zdm w1 _ (zas s p)) (zel _) (by unfold maxLen; omega) (by omega) (by simp; omega) ?_)
    intro v5 w5 hown5 hg5 hne5
    clear hne5
    obtain ⟨a5, cap5, rfl⟩ := zac hown5
    obtain ⟨hinv5, e0, e1, e2, e3, e4, efz⟩ := hinv1.append (zas s p) hown5 hg5
    have hb5 : w.heap.size + 1 < w5.heap.size := by have := hinv5.sz; simp at this; omega
    clear hown5 hg5 d0 d1 d2 d3 d4 dfz hown1 hinv1
    go_wp2_with fail
    refine (zds s _ _ _ b _ hinv5.pars (zam _ _ _ hpl) hs).mono ?_
    rintro e w7 ⟨rfl, hk7, hp7⟩
    have hinv7 := hinv5.call hk7 hp7 (zcd (zam _ _ _ hpl))
    clear hk7 hp7 hinv5 e0 e1 e2 e3 e4 efz hb5
    cases hm : isS s (zao s p (zal s p bd l.length)) (zan s p (zal s p bd l.length)) { data := #[44] } with
    | true =>
     have HF3 := hide ((zaa HF2).trans (if_pos hm))
     have hml := zfm hl4' hm
     clear hm HF2
     go_wp2_with fail
     go_roundg (7 - (l ++ [zas s p]).length)
     case measure => simp at hg ⊢; omega
     case rel => exact ⟨l ++ [zas s p], _, _, true, _, rfl, fun _ => by simp; omega, by simp, hinv7, zaa HF3⟩
    | false =>
     have HF3 := hide ((zaa HF2).trans (if_neg (by rw [hm]; decide)))
     clear hm HF2
     go_wp2_with fail
     refine (zd8 s _ _ _ b _ hinv7.pars hinv7.hp hs).mono ?_
     rintro e w8 ⟨rfl, hk8, hp8⟩
     have hinv8 := hinv7.call hk8 hp8 (zam _ _ _ hinv7.hp)
     clear hk8 hp8 hinv7
     go_wp2_with fail
     go_roundg 0
     case measure => simp at hg ⊢; omega
     case rel => exact ⟨l ++ [zas s p], _, _, false, _, rfl, by simp, by simp, hinv8, zaa HF3⟩
   ·skip
    have TB := hide tb
    clear tb
    go_wp2_with fail
    refine (zd6 s p bd b _ hpr').mono ?_
    rintro e w0 ⟨rfl, hk0, hp0⟩
    rw [← zaa TB] at hp0
    have hinv0 := hinv.call hk0 hp0 hpl
    clear hk0 hp0 c0 c1 c2 c3 c4 c5 fz x0 x1 x2 x3 x4 xf
    go_wp2_with fail
    refine (zcv s p (zal s p bd l.length) b _ hinv0.pars hpl hs).mono ?_
    rintro e w1 ⟨rfl, hk1, hp1⟩
    unfold zb0
    have hinv1 := hinv0.call hk1 hp1 (zam _ _ _ hpl)
    have hb2 : w.heap.size + 1 < w1.heap.size := by have := hinv1.sz; omega
    obtain ⟨d0, d1, d2, d3, d4, dfz⟩ := hinv1.ac
    have hown1 := hinv1.own
    clear hk1 hp1 hinv0
    go_wp2_with (at_builtin; refine wpList_append_own _ rfl _ _ 241 rfl (w.heap.size + 2) 317 i0 _ 3 32 Tryz.underlying241 hi hz0 hz1 hz2 rfl (by decide) _ _ _ rfl ((hown1.alloc _).alloc _) ⟨w1.heap.size + 1, 0, none⟩ 1 1 (zas s p).cells rfl rfl (zdm w1 _ (zas s p)) (zel _) (by unfold maxLen; omega) (by omega) (by simp; omega) ?_)
    intro v5 w5 hown5 hg5 hne5
    clear hne5
    obtain ⟨a5, cap5, rfl⟩ := zac hown5
    obtain ⟨hinv5, e0, e1, e2, e3, e4, efz⟩ := hinv1.append (zas s p) hown5 hg5
    have hb5 : w.heap.size + 1 < w5.heap.size := by have := hinv5.sz; simp at this; omega
    clear hown5 hg5 d0 d1 d2 d3 d4 dfz hown1 hinv1
    go_wp2_with fail
    refine (zds s _ _ _ b _ hinv5.pars (zam _ _ _ hpl) hs).mono ?_
    rintro e w7 ⟨rfl, hk7, hp7⟩
    have hinv7 := hinv5.call hk7 hp7 (zcd (zam _ _ _ hpl))
    clear hk7 hp7 hinv5 e0 e1 e2 e3 e4 efz hb5
    cases hm : isS s (zao s p (zal s p bd l.length)) (zan s p (zal s p bd l.length)) { data := #[44] } with
    | true =>
     have HF3 := hide ((zaa HF2).trans (if_pos hm))
     have hml := zfm hl4' hm
     clear hm HF2
     go_wp2_with fail
     go_roundg (7 - (l ++ [zas s p]).length)
     case measure => simp at hg ⊢; omega
     case rel => exact ⟨l ++ [zas s p], _, _, true, _, rfl, fun _ => by simp; omega, by simp, hinv7, zaa HF3⟩
    | false =>
     have HF3 := hide ((zaa HF2).trans (if_neg (by rw [hm]; decide)))
     clear hm HF2
     go_wp2_with fail
     refine (zd8 s _ _ _ b _ hinv7.pars hinv7.hp hs).mono ?_
     rintro e w8 ⟨rfl, hk8, hp8⟩
     have hinv8 := hinv7.call hk8 hp8 (zam _ _ _ hinv7.hp)
     clear hk8 hp8 hinv7
     go_wp2_with fail
     go_roundg 0
     case measure => simp at hg ⊢; omega
     case rel => exact ⟨l ++ [zas s p], _, _, false, _, rfl, by simp, by simp, hinv8, zaa HF3⟩
   ·skip
    have TB := hide tb
    clear tb
    go_wp2_with fail
    have hinv0 : AtomInv w b s (tok s pos).text (tok s pos).at_ l p (zal s p bd l.length) (.slice a0 l.length cap0) wr := by rw [zaa TB]; exact hinv
    clear c0 c1 c2 c3 c4 c5 fz x0 x1 x2 x3 x4 xf
    refine (zcv s p (zal s p bd l.length) b _ hinv0.pars hpl hs).mono ?_
    rintro e w1 ⟨rfl, hk1, hp1⟩
    unfold zb0
    have hinv1 := hinv0.call hk1 hp1 (zam _ _ _ hpl)
    have hb2 : w.heap.size + 1 < w1.heap.size := by have := hinv1.sz; omega
    obtain ⟨d0, d1, d2, d3, d4, dfz⟩ := hinv1.ac
    have hown1 := hinv1.own
    clear hk1 hp1 hinv0
    go_wp2_with (at_builtin; refine wpList_append_own _ rfl _ _ 241 rfl (w.heap.size + 2) 317 i0 _ 3 32 Tryz.underlying241 hi hz0 hz1 hz2 rfl (by decide) _ _ _ rfl ((hown1.alloc _).alloc _) ⟨w1.heap.size + 1, 0, none⟩ 1 1 (zas s p).cells rfl rfl (zdm w1 _ (zas s p)) (zel _) (by unfold maxLen; omega) (by omega) (by simp; omega) ?_)
    intro v5 w5 hown5 hg5 hne5
    clear hne5
    obtain ⟨a5, cap5, rfl⟩ := zac hown5
    obtain ⟨hinv5, e0, e1, e2, e3, e4, efz⟩ := hinv1.append (zas s p) hown5 hg5
    have hb5 : w.heap.size + 1 < w5.heap.size := by have := hinv5.sz; simp at this; omega
    clear hown5 hg5 d0 d1 d2 d3 d4 dfz hown1 hinv1
    go_wp2_with fail
    refine (zds s _ _ _ b _ hinv5.pars (zam _ _ _ hpl) hs).mono ?_
    rintro e w7 ⟨rfl, hk7, hp7⟩
    have hinv7 := hinv5.call hk7 hp7 (zcd (zam _ _ _ hpl))
    clear hk7 hp7 hinv5 e0 e1 e2 e3 e4 efz hb5
    cases hm : isS s (zao s p (zal s p bd l.length)) (zan s p (zal s p bd l.length)) { data := #[44] } with
    | true =>
     have HF3 := hide ((zaa HF2).trans (if_pos hm))
     have hml := zfm hl4' hm
     clear hm HF2
     go_wp2_with fail
     go_roundg (7 - (l ++ [zas s p]).length)
     case measure => simp at hg ⊢; omega
     case rel => exact ⟨l ++ [zas s p], _, _, true, _, rfl, fun _ => by simp; omega, by simp, hinv7, zaa HF3⟩
    | false =>
     have HF3 := hide ((zaa HF2).trans (if_neg (by rw [hm]; decide)))
     clear hm HF2
     go_wp2_with fail
     refine (zd8 s _ _ _ b _ hinv7.pars hinv7.hp hs).mono ?_
     rintro e w8 ⟨rfl, hk8, hp8⟩
     have hinv8 := hinv7.call hk8 hp8 (zam _ _ _ hinv7.hp)
     clear hk8 hp8 hinv7
     go_wp2_with fail
     go_roundg 0
     case measure => simp at hg ⊢; omega
     case rel => exact ⟨l ++ [zas s p], _, _, false, _, rfl, by simp, by simp, hinv8, zaa HF3⟩
   ·skip
    have TB := hide tb
    clear tb
    go_wp2_with fail
    have hinv0 : AtomInv w b s (tok s pos).text (tok s pos).at_ l p (zal s p bd l.length) (.slice a0 l.length cap0) wr := by rw [zaa TB]; exact hinv
    clear c0 c1 c2 c3 c4 c5 fz x0 x1 x2 x3 x4 xf
    refine (zcv s p (zal s p bd l.length) b _ hinv0.pars hpl hs).mono ?_
    rintro e w1 ⟨rfl, hk1, hp1⟩
    unfold zb0
    have hinv1 := hinv0.call hk1 hp1 (zam _ _ _ hpl)
    have hb2 : w.heap.size + 1 < w1.heap.size := by have := hinv1.sz; omega
    obtain ⟨d0, d1, d2, d3, d4, dfz⟩ := hinv1.ac
    have hown1 := hinv1.own
    clear hk1 hp1 hinv0
    go_wp2_with (at_builtin; refine wpList_append_own _ rfl _ _ 241 rfl (w.heap.size + 2) 317 i0 _ 3 32 Tryz.underlying241 hi hz0 hz1 hz2 rfl (by decide) _ _ _ rfl ((hown1.alloc _).alloc _) ⟨w1.heap.size + 1, 0, none⟩ 1 1 (zas s p).cells rfl rfl (zdm w1 _ (zas s p)) (zel _) (by unfold maxLen; omega) (by omega) (by simp; omega) ?_)
    intro v5 w5 hown5 hg5 hne5
    clear hne5
    obtain ⟨a5, cap5, rfl⟩ := zac hown5
    obtain ⟨hinv5, e0, e1, e2, e3, e4, efz⟩ := hinv1.append (zas s p) hown5 hg5
    have hb5 : w.heap.size + 1 < w5.heap.size := by have := hinv5.sz; simp at this; omega
    clear hown5 hg5 d0 d1 d2 d3 d4 dfz hown1 hinv1
    go_wp2_with fail
    refine (zds s _ _ _ b _ hinv5.pars (zam _ _ _ hpl) hs).mono ?_
    rintro e w7 ⟨rfl, hk7, hp7⟩
    have hinv7 := hinv5.call hk7 hp7 (zcd (zam _ _ _ hpl))
    clear hk7 hp7 hinv5 e0 e1 e2 e3 e4 efz hb5
    cases hm : isS s (zao s p (zal s p bd l.length)) (zan s p (zal s p bd l.length)) { data := #[44] } with
    | true =>
     have HF3 := hide ((zaa HF2).trans (if_pos hm))
     have hml := zfm hl4' hm
     clear hm HF2
     go_wp2_with fail
     go_roundg (7 - (l ++ [zas s p]).length)
     case measure => simp at hg ⊢; omega
     case rel => exact ⟨l ++ [zas s p], _, _, true, _, rfl, fun _ => by simp; omega, by simp, hinv7, zaa HF3⟩
    | false =>
     have HF3 := hide ((zaa HF2).trans (if_neg (by rw [hm]; decide)))
     clear hm HF2
     go_wp2_with fail
     refine (zd8 s _ _ _ b _ hinv7.pars hinv7.hp hs).mono ?_
     rintro e w8 ⟨rfl, hk8, hp8⟩
     have hinv8 := hinv7.call hk8 hp8 (zam _ _ _ hinv7.hp)
     clear hk8 hp8 hinv7
     go_wp2_with fail
     go_roundg 0
     case measure => simp at hg ⊢; omega
     case rel => exact ⟨l ++ [zas s p], _, _, false, _, rfl, by simp, by simp, hinv8, zaa HF3⟩
end
section
open Go.RowKit
theorem zig (s : ByteArray) (pos : Nat) (bad : Int) (b : Nat) (w : World) (h : Pars w b s pos bad) (hpos : pos ≤ s.size) (hs : s.size ≤ maxLen) :
  Calls Tryz.prog 184 #[.pointer (some ⟨b, 0, none⟩)] w fun e w' => ∃ v, e = .returned (.agg #[.string (tok s pos).text, v, .bool false, .int .i64 (tok s pos).at_, .int .i64 0]) ∧ Kept [b] w w' ∧ Pars w' b s (zag s pos bad).2.1 (zag s pos bad).2.2 ∧ (zag s pos bad).2.1 ≤ s.size ∧ w'.ownsRow w.heap.size 317 3 v (zag s pos bad).1.length (cellsOf (zag s pos bad).1) := by
 cases hk : (tok s pos).kind != 110 with
 | false => exact atom_name s pos bad b w h hpos hs hk
 | true => exact atom_none s pos bad b w h hpos hs hk
end
section
open Go.RowKit
def zjj (s : ByteArray) (pos : Nat) (bad : Int) : Bool := decide (bad < 0) && (tok s pos).kind == 119
def zbe (s : ByteArray) (pos : Nat) (bad : Int) : Nat := if zjj s pos bad then zao s pos bad else pos
def zca (s : ByteArray) (pos : Nat) (bad : Int) : Int := if zjj s pos bad then zan s pos bad else bad
def zbx (s : ByteArray) (pos : Nat) (bad : Int) : RAtom :=
 ⟨(tok s (zbe s pos bad)).text, (zag s (zbe s pos bad) (zca s pos bad)).1, zjj s pos bad, (tok s (zbe s pos bad)).at_, (tok s pos).at_⟩
def zav (s : ByteArray) (pos : Nat) (bad : Int) : Nat × Int := (zag s (zbe s pos bad) (zca s pos bad)).2
def RAtom.val (A : RAtom) (tv : Value) : Value := .agg #[.string A.pred, tv, .bool A.no, .int .i64 A.at_, .int .i64 A.noAt]
theorem zb1 (w : World) (a b c d e : Value) (t : TypeId) (j : Nat) : (w.alloc (.cells #[a, b, c, d, e] t)).cell? ⟨w.heap.size, j, none⟩ = #[a, b, c, d, e][j]? := by
 rw [World.cell?_alloc_at _ _ _ _ rfl]
theorem zdi {w : World} {n j : Nat} {v : Value} (h : w.cell? ⟨n, j, none⟩ = some v) (o : Obj) : (w.alloc o).cell? ⟨n, j, none⟩ = some v := by
 rw [World.cell?_alloc_past _ _ _ (World.block_lt_of_cell? w ⟨n, j, none⟩ h)]; exact h
theorem zj6 {s : ByteArray} {pos : Nat} {bad : Int} (h : pos ≤ s.size) : zbe s pos bad ≤ s.size := by
 unfold zbe; split
 ·exact zam s pos bad h
 ·exact h
theorem lit_end {s : ByteArray} {pos : Nat} {bad : Int} {b : Nat} {w w2 w' : World} {o : Obj} {tv : Value} (hlt : b < w.heap.size) (hk2 : Kept [b] (w.alloc o) w2) (hp2 : Pars w2 b s (zag s (zbe s pos bad) (zca s pos bad)).2.1 (zag s (zbe s pos bad) (zca s pos bad)).2.2)
  (hown : w2.ownsRow w.heap.size 317 3 tv (zag s (zbe s pos bad) (zca s pos bad)).1.length (cellsOf (zag s (zbe s pos bad) (zca s pos bad)).1)) (hl2 : (zag s (zbe s pos bad) (zca s pos bad)).2.1 ≤ s.size) (k : Kept [w.heap.size] w2 w') (hrow : ∀ g, tv.ownBlock = some g → w.heap.size < g) :
  Kept [b] w w' ∧ Pars w' b s (zav s pos bad).1 (zav s pos bad).2 ∧ (zav s pos bad).1 ≤ s.size ∧ w'.ownsRow w.heap.size 317 3 tv (zbx s pos bad).terms.length (cellsOf (zbx s pos bad).terms) := by
 have hx := ((Kept.refl [b] w).alloc o).trans hk2
 refine ⟨⟨k.os.trans hx.os, k.tape.trans hx.tape, k.output.trans hx.output, Nat.le_trans hx.size k.size, fun i hi hn => (k.block i (Nat.lt_of_lt_of_le hi hx.size) (by simp; omega)).trans (hx.block i hi hn)⟩, hp2.kept k (by simp; omega), hl2, ?_⟩
 refine ⟨hown.1, ?_⟩
 rcases hown.2 with hn | ⟨g, cap, cur, rfl, hb, hgg, rest⟩
 ·exact .inl hn
 ·refine .inr ⟨g, cap, cur, rfl, hb, ?_, rest⟩
  have := hrow g rfl
  rw [k.block g (Array.getElem?_eq_some_iff.1 hgg).1 (by simp; omega)]
  exact hgg
set_option maxRecDepth 100000 in
theorem lit_any (s : ByteArray) (pos : Nat) (bad : Int) (b : Nat) (w : World) (h : Pars w b s pos bad) (hpos : pos ≤ s.size) (hs : s.size ≤ maxLen) :
  Calls Tryz.prog 186 #[.pointer (some ⟨b, 0, none⟩)] w fun e w' => ∃ tv, e = .returned ((zbx s pos bad).val tv) ∧ Kept [b] w w' ∧ Pars w' b s (zav s pos bad).1 (zav s pos bad).2 ∧ (zav s pos bad).1 ≤ s.size ∧ w'.ownsRow w.heap.size 317 3 tv (zbx s pos bad).terms.length (cellsOf (zbx s pos bad).terms) := by
 have h' := h
 obtain ⟨hlt, c0, c1, c2, c3, c4, c5, fz⟩ := h
 have three : (bad < 0 ∧ ((tok s pos).kind == 119) = true ∧ zjj s pos bad = true) ∨ (bad < 0 ∧ ((tok s pos).kind == 119) = false ∧ zjj s pos bad = false) ∨ (0 ≤ bad ∧ zjj s pos bad = false) := by
  unfold zjj
  by_cases hb : bad < 0
  ·cases hk : (tok s pos).kind == 119 <;> simp [hb]
  ·exact .inr (.inr ⟨by omega, by simp; omega⟩)
 rcases three with ⟨hb, hk, hno⟩ | ⟨hb, hk, hno⟩ | ⟨hb, hno⟩
 ·have e1 : zbe s pos bad = zao s pos bad := by simp [zbe, hno]
  have e2 : zca s pos bad = zan s pos bad := by simp [zca, hno]
  have HN := hide hno
  have HE := hide (And.intro e1 e2)
  clear hno e1 e2
  go_enter Tryz.func186, Tryz.ntmps186
  go_wp2_with fail
  refine (zcv s pos bad b _ (h'.kept ((Kept.refl [] _).alloc _) (by simp)) hpos hs).mono ?_
  rintro e w1 ⟨rfl, hk1, hp1⟩
  rw [← (zaa HE).1, ← (zaa HE).2] at hp1
  clear c0 c1 c2 c3 c4 c5 fz
  go_wp2_with fail
  refine (zig s (zbe s pos bad) (zca s pos bad) b _ hp1 (zj6 hpos) hs).mono ?_
  rintro e w2 ⟨tv, rfl, hk2', hp2, hl2, hown2'⟩
  have hown2 := zaf hown2' (show w.heap.size ≤ w1.heap.size by have := hk1.size; simp at this; omega)
  have HG := hide (fun g e => Nat.lt_of_lt_of_le (show w.heap.size < w1.heap.size by have := hk1.size; simp at this; omega) (hown2'.lt g e).1)
  have hk2 := hk1.trans hk2'
  clear hk2' hk1 hp1 hown2'
  obtain ⟨a0, cap0, rfl⟩ := zac hown2
  obtain ⟨r1, r2⟩ := hk2.rules
  have hz : w.heap.size < w2.heap.size := by have := hk2.size; simp at this; omega
  go_wp2_with fail
  obtain ⟨q0, q1, q2, q3, q4⟩ := set5 ((r1 _ _ hlt (by simp)).trans (zb1 w _ _ _ _ _ _ 0)) ((r1 _ _ hlt (by simp)).trans (zb1 w _ _ _ _ _ _ 1)) ((r1 _ _ hlt (by simp)).trans (zb1 w _ _ _ _ _ _ 2)) ((r1 _ _ hlt (by simp)).trans (zb1 w _ _ _ _ _ _ 3)) ((r1 _ _ hlt (by simp)).trans (zb1 w _ _ _ _ _ _ 4)) (.string (tok s (zbe s pos bad)).text) (.slice a0 (zag s (zbe s pos bad) (zca s pos bad)).fst.length cap0) (.bool true) (.int .i64 (tok s (zbe s pos bad)).at_) (.int .i64 (tok s pos).at_)
  have k5 := zn0 w2 w.heap.size (.string (tok s (zbe s pos bad)).text) (.slice a0 (zag s (zbe s pos bad) (zca s pos bad)).fst.length cap0) (.bool true) (.int .i64 (tok s (zbe s pos bad)).at_) (.int .i64 (tok s pos).at_)
  have q0 := zdi q0; have q1 := zdi q1; have q2 := zdi q2; have q3 := zdi q3; have q4 := zdi q4
  refine bodyPost_ret (v := (zbx s pos bad).val (.slice a0 (zag s (zbe s pos bad) (zca s pos bad)).fst.length cap0)) (by simp [results, Tryz.results186, go_sem, zbx, RAtom.val, zaa HN, q0, q1, q2, q3, q4]) rfl ⟨_, rfl, ?_⟩
  exact lit_end hlt hk2 hp2 hown2 hl2 (k5.alloc _) (zaa HG)
 ·have hk2x : zbe s pos bad = pos := by simp [zbe, hno]
  have e2 : zca s pos bad = bad := by simp [zca, hno]
  have hp1 : Pars (w.alloc (Obj.cells #[Value.string { data := #[] }, Value.slice none 0 0, Value.bool false, Value.int IntKind.i64 0, Value.int IntKind.i64 0] 243)) b s (zbe s pos bad) (zca s pos bad) := by rw [hk2x, e2]; exact h'.kept ((Kept.refl [] _).alloc _) (by simp)
  have HN := hide hno
  clear hno hk2x e2
  go_enter Tryz.func186, Tryz.ntmps186
  go_wp2_with fail
  clear c0 c1 c2 c3 c4 c5 fz
  refine (zig s (zbe s pos bad) (zca s pos bad) b _ hp1 (zj6 hpos) hs).mono ?_
  rintro e w2 ⟨tv, rfl, hk2, hp2, hl2, hown2'⟩
  have hown2 := zaf hown2' (show w.heap.size ≤ _ by simp)
  have HG := hide (fun g e => Nat.lt_of_lt_of_le (show w.heap.size < _ by simp) (hown2'.lt g e).1)
  clear hp1 hown2'
  obtain ⟨a0, cap0, rfl⟩ := zac hown2
  obtain ⟨r1, r2⟩ := hk2.rules
  have hz : w.heap.size < w2.heap.size := by have := hk2.size; simp at this; omega
  go_wp2_with fail
  obtain ⟨q0, q1, q2, q3, q4⟩ := set5 ((r1 _ _ hlt (by simp)).trans (zb1 w _ _ _ _ _ _ 0)) ((r1 _ _ hlt (by simp)).trans (zb1 w _ _ _ _ _ _ 1)) ((r1 _ _ hlt (by simp)).trans (zb1 w _ _ _ _ _ _ 2)) ((r1 _ _ hlt (by simp)).trans (zb1 w _ _ _ _ _ _ 3)) ((r1 _ _ hlt (by simp)).trans (zb1 w _ _ _ _ _ _ 4)) (.string (tok s (zbe s pos bad)).text) (.slice a0 (zag s (zbe s pos bad) (zca s pos bad)).fst.length cap0) (.bool false) (.int .i64 (tok s (zbe s pos bad)).at_) (.int .i64 (tok s pos).at_)
  have k5 := zn0 w2 w.heap.size (.string (tok s (zbe s pos bad)).text) (.slice a0 (zag s (zbe s pos bad) (zca s pos bad)).fst.length cap0) (.bool false) (.int .i64 (tok s (zbe s pos bad)).at_) (.int .i64 (tok s pos).at_)
  have q0 := zdi q0; have q1 := zdi q1; have q2 := zdi q2; have q3 := zdi q3; have q4 := zdi q4
  refine bodyPost_ret (v := (zbx s pos bad).val (.slice a0 (zag s (zbe s pos bad) (zca s pos bad)).fst.length cap0)) (by simp [results, Tryz.results186, go_sem, zbx, RAtom.val, zaa HN, q0, q1, q2, q3, q4]) rfl ⟨_, rfl, ?_⟩
  exact lit_end hlt hk2 hp2 hown2 hl2 (k5.alloc _) (zaa HG)
 ·have hk2x : zbe s pos bad = pos := by simp [zbe, hno]
  have e2 : zca s pos bad = bad := by simp [zca, hno]
  have hp1 : Pars (w.alloc (Obj.cells #[Value.string { data := #[] }, Value.slice none 0 0, Value.bool false, Value.int IntKind.i64 0, Value.int IntKind.i64 0] 243)) b s (zbe s pos bad) (zca s pos bad) := by rw [hk2x, e2]; exact h'.kept ((Kept.refl [] _).alloc _) (by simp)
  have HN := hide hno
  clear hno hk2x e2
  go_enter Tryz.func186, Tryz.ntmps186
  go_wp2_with fail
  clear c0 c1 c2 c3 c4 c5 fz
  refine (zig s (zbe s pos bad) (zca s pos bad) b _ hp1 (zj6 hpos) hs).mono ?_
  rintro e w2 ⟨tv, rfl, hk2, hp2, hl2, hown2'⟩
  have hown2 := zaf hown2' (show w.heap.size ≤ _ by simp)
  have HG := hide (fun g e => Nat.lt_of_lt_of_le (show w.heap.size < _ by simp) (hown2'.lt g e).1)
  clear hp1 hown2'
  obtain ⟨a0, cap0, rfl⟩ := zac hown2
  obtain ⟨r1, r2⟩ := hk2.rules
  have hz : w.heap.size < w2.heap.size := by have := hk2.size; simp at this; omega
  go_wp2_with fail
  obtain ⟨q0, q1, q2, q3, q4⟩ := set5 ((r1 _ _ hlt (by simp)).trans (zb1 w _ _ _ _ _ _ 0)) ((r1 _ _ hlt (by simp)).trans (zb1 w _ _ _ _ _ _ 1)) ((r1 _ _ hlt (by simp)).trans (zb1 w _ _ _ _ _ _ 2)) ((r1 _ _ hlt (by simp)).trans (zb1 w _ _ _ _ _ _ 3)) ((r1 _ _ hlt (by simp)).trans (zb1 w _ _ _ _ _ _ 4)) (.string (tok s (zbe s pos bad)).text) (.slice a0 (zag s (zbe s pos bad) (zca s pos bad)).fst.length cap0) (.bool false) (.int .i64 (tok s (zbe s pos bad)).at_) (.int .i64 (tok s pos).at_)
  have k5 := zn0 w2 w.heap.size (.string (tok s (zbe s pos bad)).text) (.slice a0 (zag s (zbe s pos bad) (zca s pos bad)).fst.length cap0) (.bool false) (.int .i64 (tok s (zbe s pos bad)).at_) (.int .i64 (tok s pos).at_)
  have q0 := zdi q0; have q1 := zdi q1; have q2 := zdi q2; have q3 := zdi q3; have q4 := zdi q4
  refine bodyPost_ret (v := (zbx s pos bad).val (.slice a0 (zag s (zbe s pos bad) (zca s pos bad)).fst.length cap0)) (by simp [results, Tryz.results186, go_sem, zbx, RAtom.val, zaa HN, q0, q1, q2, q3, q4]) rfl ⟨_, rfl, ?_⟩
  exact lit_end hlt hk2 hp2 hown2 hl2 (k5.alloc _) (zaa HG)
end
section
open Go.RowKit
def RAtom.cells (A : RAtom) (tv : Value) : List Value := [.string A.pred, tv, .bool A.no, .int .i64 A.at_, .int .i64 A.noAt]
def zd7 (bs : List (RAtom × Value)) : List Value := bs.flatMap fun x => x.1.cells x.2
theorem zng (l : List (RAtom × Value)) (A : RAtom) (tv : Value) : zd7 (l ++ [(A, tv)]) = zd7 l ++ A.cells tv := by simp [zd7]
def zap (s : ByteArray) (p : Nat) (bd : Int) (n : Nat) : Int := if n == 3 then zdz s p bd else bd
def ze1 (s : ByteArray) : Nat → Nat → Int → List RAtom → List RAtom × Nat × Int
 | 0, p, bd, l => (l, p, bd)
 | f + 1, p, bd, l =>
  if isS s (zav s p (zap s p bd l.length)).1 (zav s p (zap s p bd l.length)).2 { data := #[44] } then
   ze1 s f (zbz s (zav s p (zap s p bd l.length)).1 (zav s p (zap s p bd l.length)).2 { data := #[44] }) (zb9 s (zav s p (zap s p bd l.length)).1 (zav s p (zap s p bd l.length)).2 { data := #[44] }) (l ++ [zbx s p (zap s p bd l.length)])
  else (l ++ [zbx s p (zap s p bd l.length)], zbz s (zav s p (zap s p bd l.length)).1 (zav s p (zap s p bd l.length)).2 { data := #[44] }, zb9 s (zav s p (zap s p bd l.length)).1 (zav s p (zap s p bd l.length)).2 { data := #[44] })
structure RRule where
 head : RAtom
 body : List RAtom
def zah (s : ByteArray) (pos : Nat) (bad : Int) : RAtom := ⟨(tok s pos).text, (zag s pos bad).1, false, (tok s pos).at_, 0⟩
def zcr (s : ByteArray) (pos : Nat) (bad : Int) : List RAtom × Nat × Int :=
 if isS s (zag s pos bad).2.1 (zag s pos bad).2.2 { data := #[58, 45] } then
  ze1 s 4 (zbz s (zag s pos bad).2.1 (zag s pos bad).2.2 { data := #[58, 45] }) (zb9 s (zag s pos bad).2.1 (zag s pos bad).2.2 { data := #[58, 45] }) []
 else ([], zbz s (zag s pos bad).2.1 (zag s pos bad).2.2 { data := #[58, 45] }, zb9 s (zag s pos bad).2.1 (zag s pos bad).2.2 { data := #[58, 45] })
def zeu (s : ByteArray) (pos : Nat) (bad : Int) : Nat := zao s (zcr s pos bad).2.1 (zbn s (zcr s pos bad).2.1 (zcr s pos bad).2.2 { data := #[46] })
def zcq (s : ByteArray) (pos : Nat) (bad : Int) : Int := zan s (zcr s pos bad).2.1 (zbn s (zcr s pos bad).2.1 (zcr s pos bad).2.2 { data := #[46] })
theorem zer {s : ByteArray} {p : Nat} {bd : Int} {wd : ByteArray} (h : 0 ≤ bd) : 0 ≤ zb9 s p bd wd := by
 unfold zb9; split
 ·exact zcp h
 ·exact h
theorem zlp {s : ByteArray} {p : Nat} {bd : Int} {wd : ByteArray} (h : 0 ≤ bd) : 0 ≤ zbn s p bd wd := by
 unfold zbn; split
 ·exact h
 ·exact zc4 _ _ _
theorem zny {s : ByteArray} {p : Nat} {bd : Int} {n : Nat} (h : 0 ≤ bd) : 0 ≤ zal s p bd n := by
 unfold zal; split
 ·exact zc4 _ _ _
 ·exact h
theorem zqq {s : ByteArray} (f : Nat) : ∀ {p : Nat} {bd : Int} {l : List RTerm}, 0 ≤ bd → 0 ≤ (zcw s f p bd l).2.2 := by
 induction f with
 | zero => intro p bd l h; exact h
 | succ f ih =>
  intro p bd l h
  have h1 : 0 ≤ zan s p (zal s p bd l.length) := zcp (zny h)
  rw [zcw]
  split
  ·exact ih (zer h1)
  ·exact zcp (zlp (zer h1))
theorem zl0 {s : ByteArray} {p : Nat} {bd : Int} (h : 0 ≤ bd) : 0 ≤ (zag s p bd).2.2 := by
 have h0 : 0 ≤ zaq s p bd := by
  unfold zaq; split
  ·exact zc4 _ _ _
  ·exact h
 have h1 : 0 ≤ zdr s p bd := zcp h0
 unfold zag
 split
 ·exact zqq 5 (zer h1)
 ·exact zer h1
theorem zn5 {s : ByteArray} {p : Nat} {bd : Int} (h : 0 ≤ bd) : 0 ≤ (zav s p bd).2 := by
 unfold zav
 refine zl0 ?_
 unfold zca; split
 ·exact zcp h
 ·exact h
theorem lit_more {s : ByteArray} {p : Nat} {bd : Int} {n : Nat} {wd : ByteArray} (h3 : n ≤ 3) (h : isS s (zav s p (zap s p bd n)).1 (zav s p (zap s p bd n)).2 wd = true) : n + 1 ≤ 3 := by
 rcases Nat.lt_or_ge n 3 with h1 | h1
 ·omega
 ·have e : n = 3 := by omega
  subst e
  have h2 := isS_neg h
  have h4 : 0 ≤ zap s p bd 3 := by simp [zap]; exact zc4 _ _ _
  have h5 := zn5 (s := s) (p := p) h4
  omega
theorem bodyS_step (s : ByteArray) (p : Nat) (bd : Int) (l : List RAtom) (h : l.length ≤ 3) : ze1 s (4 - l.length) p bd l =
  if isS s (zav s p (zap s p bd l.length)).1 (zav s p (zap s p bd l.length)).2 { data := #[44] } then
   ze1 s (4 - (l ++ [zbx s p (zap s p bd l.length)]).length) (zbz s (zav s p (zap s p bd l.length)).1 (zav s p (zap s p bd l.length)).2 { data := #[44] }) (zb9 s (zav s p (zap s p bd l.length)).1 (zav s p (zap s p bd l.length)).2 { data := #[44] }) (l ++ [zbx s p (zap s p bd l.length)])
  else (l ++ [zbx s p (zap s p bd l.length)], zbz s (zav s p (zap s p bd l.length)).1 (zav s p (zap s p bd l.length)).2 { data := #[44] }, zb9 s (zav s p (zap s p bd l.length)).1 (zav s p (zap s p bd l.length)).2 { data := #[44] }) := by
 have e1 : 4 - l.length = (3 - l.length) + 1 := by omega
 have e2 : 4 - (l ++ [zbx s p (zap s p bd l.length)]).length = 3 - l.length := by simp
 rw [e1, e2, ze1]
structure RCells (w : World) (n : Nat) (A : RAtom) (hv bv : Value) : Prop where
 c0 : w.cell? ⟨n, 0, none⟩ = some (.string A.pred)
 c1 : w.cell? ⟨n, 1, none⟩ = some hv
 c2 : w.cell? ⟨n, 2, none⟩ = some (.bool A.no)
 c3 : w.cell? ⟨n, 3, none⟩ = some (.int .i64 A.at_)
 c4 : w.cell? ⟨n, 4, none⟩ = some (.int .i64 A.noAt)
 c5 : w.cell? ⟨n, 5, none⟩ = some bv
 fz : ∀ o, w.frozen? ⟨n, o, none⟩ = false
theorem RCells.kept {B : List Nat} {w w' : World} {n : Nat} {A : RAtom} {hv bv : Value} (h : RCells w n A hv bv) (k : Kept B w w') (hlt : n < w.heap.size) (hn : n ∉ B) : RCells w' n A hv bv :=
 ⟨(k.cell hlt hn).trans h.c0, (k.cell hlt hn).trans h.c1, (k.cell hlt hn).trans h.c2, (k.cell hlt hn).trans h.c3, (k.cell hlt hn).trans h.c4, (k.cell hlt hn).trans h.c5, fun o => (k.frozen hlt hn).trans (h.fz o)⟩
theorem own_ne {w : World} {base base' : Nat} {e e' : TypeId} {size size' : Nat} {v v' : Value} {n n' : Nat} {xs xs' : List Value} (h : w.ownsRow base e size v n xs) (h' : w.ownsRow base' e' size' v' n' xs') (hne : e ≠ e') : v.ownBlock = none ∨ v.ownBlock ≠ v'.ownBlock := by
 rcases h.2 with ⟨rfl, _⟩ | ⟨g, cap, cur, rfl, _, hg, _⟩
 ·exact .inl rfl
 ·refine .inr ?_
  rcases h'.2 with ⟨rfl, _⟩ | ⟨g', cap', cur', rfl, _, hg', _⟩
  ·simp [Value.ownBlock]
  ·simp only [Value.ownBlock]
   intro e1
   injection e1 with e1
   subst e1
   rw [hg] at hg'
   injection hg' with hg'
   injection hg' with _ hg' _
   exact hne hg'
def zeroAtom : RAtom := ⟨{ data := #[] }, [], false, 0, 0⟩
structure RuleInv (w : World) (b m : Nat) (s : ByteArray) (H : RAtom) (hv : Value) (bs : List (RAtom × Value)) (p : Nat) (bd : Int) (bv : Value) (wr : World) : Prop where
 pars : Pars wr b s p bd
 hp : p ≤ s.size
 kept : Kept [b] w wr
 rc : RCells wr m H hv bv
 zc : RCells wr w.heap.size zeroAtom (.slice none 0 0) (.slice none 0 0)
 sz : m + 1 ≤ wr.heap.size
 nm : w.heap.size < m
 own : wr.ownsRow (m + 1) 243 5 bv bs.length (zd7 bs)
 hd : wr.ownsRow (w.heap.size + 1) 317 3 hv H.terms.length (cellsOf H.terms)
 hm : ∀ k, hv.ownBlock = some k → k < m
 bl : ∀ x ∈ bs, wr.ownsRow (m + 1) 317 3 x.2 x.1.terms.length (cellsOf x.1.terms)
 blt : b < w.heap.size
theorem RuleInv.call {w : World} {b m : Nat} {s : ByteArray} {H : RAtom} {hv : Value} {bs : List (RAtom × Value)} {p : Nat} {bd : Int} {bv : Value} {wr w1 : World} {p' : Nat} {bd' : Int} (h : RuleInv w b m s H hv bs p bd bv wr) (k : Kept [b] wr w1) (hp : Pars w1 b s p' bd') (hl : p' ≤ s.size) : RuleInv w b m s H hv bs p' bd' bv w1 :=
 have hlt := h.blt
 have hnm := h.nm
 have hsz := h.sz
 ⟨hp, hl, h.kept.trans k, h.rc.kept k (by omega) (by simp; omega), h.zc.kept k (by omega) (by simp; omega), Nat.le_trans h.sz k.size, h.nm, zay h.own k (by simp; omega), zay h.hd k (by simp; omega), h.hm, fun x hx => zay (h.bl x hx) k (by simp; omega), h.blt⟩
theorem RuleInv.append {w : World} {b m : Nat} {s : ByteArray} {H : RAtom} {hv : Value} {bs : List (RAtom × Value)} {p : Nat} {bd : Int} {bv : Value} {w1 w5 : World} (h : RuleInv w b m s H hv bs p bd bv w1) {o1 o2 : Obj} {A : RAtom} {tv bv' : Value}
  (ht : w1.ownsRow (m + 1) 317 3 tv A.terms.length (cellsOf A.terms))
  (hown : w5.ownsRow (m + 1) 243 5 bv' (bs.length + 1) (zd7 bs ++ A.cells tv)) (hg : ((w1.alloc o1).alloc o2).grownBy w5 bv.ownBlock) :
  RuleInv w b m s H hv (bs ++ [(A, tv)]) p bd bv' (w5.setCell ⟨m, 5, none⟩ bv') ∧ RCells w5 m H hv bv := by
 have hlt := h.blt
 have hnm := h.nm
 have hsz := h.sz
 have hrow : ∀ k, bv.ownBlock = some k → m + 1 ≤ k := fun k e => (h.own.lt k e).1
 have k5 : Kept bv.ownBlock.toList w1 w5 := (((Kept.refl _ w1).alloc o1).alloc o2).grown hg (fun k e => .inr (by simp [e]))
 have hnot : ∀ k, k < m + 1 → k ∉ bv.ownBlock.toList := by
  intro k hk hmm
  cases hv : bv.ownBlock with
  | none => simp [hv] at hmm
  | some x => simp [hv] at hmm; have := hrow x hv; omega
 have r5 := h.rc.kept k5 (by omega) (hnot _ (by omega))
 have far : ∀ {base : Nat} {v : Value} {n : Nat} {xs : List Value}, w1.ownsRow base 317 3 v n xs → w5.ownsRow base 317 3 v n xs := fun {base v n xs} hx =>
  World.ownsRow.kept ((hx.alloc o1).alloc o2) hg (own_ne hx h.own (by decide))
 have setm : ∀ {base : Nat} {e : TypeId} {size : Nat} {v : Value} {n : Nat} {xs : List Value}, w5.ownsRow base e size v n xs → (∀ k, v.ownBlock = some k → k ≠ m) → (w5.setCell ⟨m, 5, none⟩ bv').ownsRow base e size v n xs := by
  intro base e size v n xs hx hk
  refine ⟨hx.1, ?_⟩
  rcases hx.2 with hn | ⟨g, cap, cur, rfl, hb, hgg, rest⟩
  ·exact .inl hn
  ·exact .inr ⟨g, cap, cur, rfl, hb, by rw [Below.heap_setCell _ _ _ _ (hk g rfl)]; exact hgg, rest⟩
 refine ⟨⟨?_, h.hp, ?_, ?_, ?_, ?_, h.nm, ?_, ?_, h.hm, ?_, h.blt⟩, r5⟩
 ·exact (h.pars.kept k5 (hnot _ (by omega))).kept ((Kept.refl [m] _).setCell (by simp) _) (by simp; omega)
 ·exact ((((h.kept.alloc o1).alloc o2).grown hg (fun k e => .inl (by have := hrow k e; omega)))).setCell (.inr (by simp; omega)) _
 ·obtain ⟨x0, x1, x2, x3, x4, x5, xf⟩ := r5
  exact ⟨by go_simp, by go_simp, by go_simp, by go_simp, by go_simp, by go_simp, by go_simp⟩
 ·exact (h.zc.kept k5 (by omega) (hnot _ (by omega))).kept ((Kept.refl [m] _).setCell (by simp) _) (by have := k5.size; omega) (by simp; omega)
 ·have := k5.size; simp; omega
 ·rw [zng, List.length_append]
  exact setm hown (fun k e => by have := (hown.lt k e).1; omega)
 ·exact setm (far h.hd) (fun k e => by have := h.hm k e; omega)
 ·intro x hx
  rcases List.mem_append.1 hx with hx | hx
  ·exact setm (far (h.bl x hx)) (fun k e => by have := ((h.bl x hx).lt k e).1; omega)
  ·simp at hx; subst hx
   exact setm (far ht) (fun k e => by have := (ht.lt k e).1; omega)
structure RuleIn (w : World) (base : Nat) (R : RRule) (hv : Value) (bs : List (RAtom × Value)) (bv : Value) : Prop where
 hd : w.ownsRow base 317 3 hv R.head.terms.length (cellsOf R.head.terms)
 bo : w.ownsRow base 243 5 bv bs.length (zd7 bs)
 bl : ∀ x ∈ bs, w.ownsRow base 317 3 x.2 x.1.terms.length (cellsOf x.1.terms)
 eq : R.body = bs.map (·.1)
theorem RuleInv.ends {w : World} {b m : Nat} {s : ByteArray} {H : RAtom} {hv : Value} {bs : List (RAtom × Value)} {p : Nat} {bd : Int} {bv : Value} {wr w' : World} (h : RuleInv w b m s H hv bs p bd bv wr) (k : Kept [w.heap.size] wr w') :
  Kept [b] w w' ∧ Pars w' b s p bd ∧ p ≤ s.size ∧ RuleIn w' w.heap.size ⟨H, bs.map (·.1)⟩ hv bs bv := by
 have hlt := h.blt
 have hnm := h.nm
 refine ⟨⟨k.os.trans h.kept.os, k.tape.trans h.kept.tape, k.output.trans h.kept.output, Nat.le_trans h.kept.size k.size, fun i hi hn => (k.block i (Nat.lt_of_lt_of_le hi h.kept.size) (by simp; omega)).trans (h.kept.block i hi hn)⟩, h.pars.kept k (by simp; omega), h.hp, ⟨?_, ?_, ?_, rfl⟩⟩
 ·exact zaf (zay h.hd k (by simp)) (by omega)
 ·exact zaf (zay h.own k (by simp; omega)) (by omega)
 ·exact fun x hx => zaf (zay (h.bl x hx) k (by simp; omega)) (by omega)
theorem rule_start {s : ByteArray} {pos : Nat} {bad : Int} {b : Nat} {w w1 : World} {hv : Value} (hlt : b < w.heap.size)
  (hk1 : Kept [b] (w.alloc (Obj.cells #[Value.string { data := #[] }, Value.slice none 0 0, Value.bool false, Value.int IntKind.i64 0, Value.int IntKind.i64 0, Value.slice none 0 0] 246)) w1)
  (hp1 : Pars w1 b s (zag s pos bad).2.1 (zag s pos bad).2.2) (hl1 : (zag s pos bad).2.1 ≤ s.size)
  (hown1 : w1.ownsRow (w.heap.size + 1) 317 3 hv (zag s pos bad).1.length (cellsOf (zag s pos bad).1)) :
  RuleInv w b w1.heap.size s (zah s pos bad) hv [] (zag s pos bad).2.1 (zag s pos bad).2.2 (.slice none 0 0)
   (w1.alloc (Obj.cells #[Value.string (tok s pos).text, hv, Value.bool false, Value.int IntKind.i64 ↑(tok s pos).at_, Value.int IntKind.i64 0, Value.slice none 0 0] 246)) := by
 have hz1 := hk1.size
 simp at hz1
 refine ⟨hp1.kept ((Kept.refl [] _).alloc _) (by simp), hl1, (((Kept.refl [b] w).alloc _).trans hk1).alloc _, ?_, ?_, by simp, by omega, World.ownsRow_nil _ _ _ _, hown1.alloc _, fun k e => (hown1.lt k e).2, by simp, hlt⟩
 ·refine ⟨?_, ?_, ?_, ?_, ?_, ?_, ?_⟩
  all_goals first | (rw [World.cell?_alloc_at _ _ _ _ rfl]; rfl) | (intro o; rw [World.frozen?_alloc_at _ _ _ _ rfl])
 ·refine RCells.kept (RCells.kept ⟨?_, ?_, ?_, ?_, ?_, ?_, ?_⟩ hk1 (by simp) (by simp; omega)) ((Kept.refl [] _).alloc _) (by omega) (by simp)
  all_goals first | (rw [World.cell?_alloc_at _ _ _ _ rfl]; rfl) | (intro o; rw [World.frozen?_alloc_at _ _ _ _ rfl])
theorem set6 {w1 : World} {n : Nat} {u0 u1 u2 u3 u4 u5 : Value} (h0 : w1.cell? ⟨n, 0, none⟩ = some u0) (h1 : w1.cell? ⟨n, 1, none⟩ = some u1) (h2 : w1.cell? ⟨n, 2, none⟩ = some u2) (h3 : w1.cell? ⟨n, 3, none⟩ = some u3) (h4 : w1.cell? ⟨n, 4, none⟩ = some u4) (h5 : w1.cell? ⟨n, 5, none⟩ = some u5) (v0 v1 v2 v3 v4 v5 : Value) :
  ((((((w1.setCell ⟨n, 0, none⟩ v0).setCell ⟨n, 1, none⟩ v1).setCell ⟨n, 2, none⟩ v2).setCell ⟨n, 3, none⟩ v3).setCell ⟨n, 4, none⟩ v4).setCell ⟨n, 5, none⟩ v5).cell? ⟨n, 0, none⟩ = some v0 ∧
  ((((((w1.setCell ⟨n, 0, none⟩ v0).setCell ⟨n, 1, none⟩ v1).setCell ⟨n, 2, none⟩ v2).setCell ⟨n, 3, none⟩ v3).setCell ⟨n, 4, none⟩ v4).setCell ⟨n, 5, none⟩ v5).cell? ⟨n, 1, none⟩ = some v1 ∧
  ((((((w1.setCell ⟨n, 0, none⟩ v0).setCell ⟨n, 1, none⟩ v1).setCell ⟨n, 2, none⟩ v2).setCell ⟨n, 3, none⟩ v3).setCell ⟨n, 4, none⟩ v4).setCell ⟨n, 5, none⟩ v5).cell? ⟨n, 2, none⟩ = some v2 ∧
  ((((((w1.setCell ⟨n, 0, none⟩ v0).setCell ⟨n, 1, none⟩ v1).setCell ⟨n, 2, none⟩ v2).setCell ⟨n, 3, none⟩ v3).setCell ⟨n, 4, none⟩ v4).setCell ⟨n, 5, none⟩ v5).cell? ⟨n, 3, none⟩ = some v3 ∧
  ((((((w1.setCell ⟨n, 0, none⟩ v0).setCell ⟨n, 1, none⟩ v1).setCell ⟨n, 2, none⟩ v2).setCell ⟨n, 3, none⟩ v3).setCell ⟨n, 4, none⟩ v4).setCell ⟨n, 5, none⟩ v5).cell? ⟨n, 4, none⟩ = some v4 ∧
  ((((((w1.setCell ⟨n, 0, none⟩ v0).setCell ⟨n, 1, none⟩ v1).setCell ⟨n, 2, none⟩ v2).setCell ⟨n, 3, none⟩ v3).setCell ⟨n, 4, none⟩ v4).setCell ⟨n, 5, none⟩ v5).cell? ⟨n, 5, none⟩ = some v5 := by
 refine ⟨?_, ?_, ?_, ?_, ?_, ?_⟩ <;> go_simp
theorem kept6 (w1 : World) (n : Nat) (v0 v1 v2 v3 v4 v5 : Value) : Kept [n] w1 ((((((w1.setCell ⟨n, 0, none⟩ v0).setCell ⟨n, 1, none⟩ v1).setCell ⟨n, 2, none⟩ v2).setCell ⟨n, 3, none⟩ v3).setCell ⟨n, 4, none⟩ v4).setCell ⟨n, 5, none⟩ v5) :=
 ((((((Kept.refl [n] w1).setCell (by simp) _).setCell (by simp) _).setCell (by simp) _).setCell (by simp) _).setCell (by simp) _).setCell (by simp) _
end
end Go.Proofs.YtldkpahaocjdpaaGreat
