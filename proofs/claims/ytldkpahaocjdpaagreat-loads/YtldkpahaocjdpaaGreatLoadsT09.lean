/-
  The reference's parser: take, where a token is there and no fault was met so far: the next token is cut.
-/
import Derived.Test.YtldkpahaocjdpaaGreatLoadsT08
namespace Go.Proofs.YtldkpahaocjdpaaGreat
open Go.RowKit

/-- Behind a call that leaves old memory alone, cells and marks of old blocks read as they did. -/
theorem old_reads {W v : World} (h : Below W.heap.size W v) :
    (∀ n o, n < W.heap.size → v.cell? ⟨n, o, none⟩ = W.cell? ⟨n, o, none⟩) ∧ (∀ n o, n < W.heap.size → v.frozen? ⟨n, o, none⟩ = W.frozen? ⟨n, o, none⟩) := by
  constructor <;> intro n o hn
  · exact World.cell?_of_block (h.block n hn)
  · exact World.frozen?_of_block (h.block n hn)

theorem pars_next {w1 : World} {b : Nat} {s : ByteArray} {pos pos' : Nat} {bad : Int} (h : Pars w1 b s pos bad) :
    Pars ((((w1.setCell ⟨b, 1, none⟩ (.int .u8 (tok s pos').kind)).setCell ⟨b, 2, none⟩ (.string (tok s pos').text)).setCell ⟨b, 3, none⟩ (.int .i64 (tok s pos').at_)).setCell ⟨b, 4, none⟩ (.int .i64 (tok s pos').to)) b s pos' bad := by
  obtain ⟨hlt, c0, c1, c2, c3, c4, c5, fz⟩ := h
  refine ⟨by simpa using hlt, ?_, ?_, ?_, ?_, ?_, ?_, ?_⟩
  all_goals go_simp

theorem kept_next (w1 : World) (b : Nat) (v1 v2 v3 v4 : Value) : Kept [b] w1 ((((w1.setCell ⟨b, 1, none⟩ v1).setCell ⟨b, 2, none⟩ v2).setCell ⟨b, 3, none⟩ v3).setCell ⟨b, 4, none⟩ v4) :=
  ((((Kept.refl [b] w1).setCell (by simp) _).setCell (by simp) _).setCell (by simp) _).setCell (by simp) _

set_option maxRecDepth 100000 in
set_option maxHeartbeats 2000000 in
theorem take_good (s : ByteArray) (pos : Nat) (bad : Int) (b : Nat) (w : World) (h : Pars w b s pos bad) (hpos : pos ≤ s.size) (hs : s.size ≤ maxLen) (hk : ¬ ((tok s pos).kind = 33 ∨ (tok s pos).kind = 46)) (hb : bad < 0) :
    Calls Tryz.prog 225 #[.pointer (some ⟨b, 0, none⟩)] w fun e w' => e = .returned (tkVal (tok s pos)) ∧ Kept [b] w w' ∧ Pars w' b s (takePos s pos bad) (takeBad s pos bad) := by
  have e1 : takeBad s pos bad = bad := by rw [takeBad, if_neg hk]
  have e2 : takePos s pos bad = (tok s pos).to := by rw [takePos, e1, if_pos (by omega)]
  rw [e1, e2]
  clear e1 e2
  have hto := tok_to_le s pos hpos
  have h' := h
  obtain ⟨hlt, c0, c1, c2, c3, c4, c5, fz⟩ := h
  have hk1 : ((tok s pos).kind == 33) = false := by simp; omega
  have hk2 : ((tok s pos).kind == 46) = false := by simp; omega
  clear hk
  go_enter Tryz.func225, Tryz.ntmps225
  go_wp2_with fail
  have hp2 : ∀ w1 nq, Below (((w.alloc (Obj.cells #[Value.int IntKind.u8 0, Value.string { data := #[] }, Value.int IntKind.i64 0] 233)).alloc (Obj.cells #[Value.int IntKind.u8 (tok s pos).kind, Value.string (tok s pos).text, Value.int IntKind.i64 ↑(tok s pos).at_] 233)).drewN nq).heap.size (((w.alloc (Obj.cells #[Value.int IntKind.u8 0, Value.string { data := #[] }, Value.int IntKind.i64 0] 233)).alloc (Obj.cells #[Value.int IntKind.u8 (tok s pos).kind, Value.string (tok s pos).text, Value.int IntKind.i64 ↑(tok s pos).at_] 233)).drewN nq) w1 → Pars w1 b s pos bad :=
    fun w1 nq hb => h'.kept (((((Kept.refl [] _).alloc _).alloc _).drewN _).of_below hb) (by simp)
  have HP := hide hp2
  clear hp2
  go_region_with (go_at_call 123; refine (cut_any' s (tok s pos).to hto hs _).mono ?_; rintro e w1 ⟨rfl, hb1⟩; obtain ⟨hltx, x0, x1, x2, x3, x4, x5, fzx⟩ := (unhide HP w1 1 hb1).cells)
  all_goals
    obtain ⟨r1, r2⟩ := old_reads hb1
    have hz : w.heap.size + 1 < w1.heap.size := by have := hb1.size; simp at this; omega
    have hpx := unhide HP w1 1 hb1
    have HPX := hide (pars_next (pos' := (tok s pos).to) hpx)
    have HK := hide (kept_next w1 b (.int .u8 (tok s (tok s pos).to).kind) (.string (tok s (tok s pos).to).text) (.int .i64 (tok s (tok s pos).to).at_) (.int .i64 (tok s (tok s pos).to).to))
    clear HP hpx
    go_wp2_with fail
    obtain ⟨k1, _⟩ := (unhide HK).rules
    obtain ⟨q0, q1, q2⟩ := set3 (w1 := (((w1.setCell ⟨b, 1, none⟩ (.int .u8 (tok s (tok s pos).to).kind)).setCell ⟨b, 2, none⟩ (.string (tok s (tok s pos).to).text)).setCell ⟨b, 3, none⟩ (.int .i64 (tok s (tok s pos).to).at_)).setCell ⟨b, 4, none⟩ (.int .i64 (tok s (tok s pos).to).to)) (n := w.heap.size) ((k1 _ _ hlt (by omega)).trans ((r1 _ _ (by simp; omega)).trans (cell_new1 w _ _ _ _ _ 0))) ((k1 _ _ hlt (by omega)).trans ((r1 _ _ (by simp; omega)).trans (cell_new1 w _ _ _ _ _ 1))) ((k1 _ _ hlt (by omega)).trans ((r1 _ _ (by simp; omega)).trans (cell_new1 w _ _ _ _ _ 2))) (.int .u8 (tok s pos).kind) (.string (tok s pos).text) (.int .i64 (tok s pos).at_)
    refine bodyPost_ret (v := tkVal (tok s pos)) (by simp [results, Tryz.results225, go_sem, tkVal, q0, q1, q2]) rfl ⟨rfl, ?_, ?_⟩
    · exact ((((((((Kept.refl [b] w).alloc _).alloc _).drewN 1).of_below hb1).trans (unhide HK)).setCell (.inr (Nat.le_refl _)) _).setCell (.inr (Nat.le_refl _)) _).setCell (.inr (Nat.le_refl _)) _
    · exact (unhide HPX).kept ((((Kept.refl [w.heap.size] _).setCell (by simp) _).setCell (by simp) _).setCell (by simp) _) (by simp; omega)

theorem take_any (s : ByteArray) (pos : Nat) (bad : Int) (b : Nat) (w : World) (h : Pars w b s pos bad) (hpos : pos ≤ s.size) (hs : s.size ≤ maxLen) :
    Calls Tryz.prog 225 #[.pointer (some ⟨b, 0, none⟩)] w fun e w' => e = .returned (tkVal (tok s pos)) ∧ Kept [b] w w' ∧ Pars w' b s (takePos s pos bad) (takeBad s pos bad) := by
  by_cases hk : (tok s pos).kind = 33 ∨ (tok s pos).kind = 46
  · exact take_bad s pos bad b w h hk
  · by_cases hb : 0 ≤ bad
    · exact take_bad2 s pos bad b w h hk hb
    · exact take_good s pos bad b w h hpos hs hk (by omega)

theorem takePos_le (s : ByteArray) (pos : Nat) (bad : Int) (hpos : pos ≤ s.size) : takePos s pos bad ≤ s.size := by
  unfold takePos; split
  · exact tok_to_le s pos hpos
  · exact hpos

/-- Two results of one step: where the next token stands, and the fault. -/
def hasPos (s : ByteArray) (pos : Nat) (bad : Int) (wd : ByteArray) : Nat := if isS s pos bad wd then takePos s pos bad else pos
def hasBad (s : ByteArray) (pos : Nat) (bad : Int) (wd : ByteArray) : Int := if isS s pos bad wd then takeBad s pos bad else bad

set_option maxHeartbeats 400000 in
theorem has_any (s wd : ByteArray) (pos : Nat) (bad : Int) (b : Nat) (w : World) (h : Pars w b s pos bad) (hpos : pos ≤ s.size) (hs : s.size ≤ maxLen) :
    Calls Tryz.prog 185 #[.pointer (some ⟨b, 0, none⟩), .string wd] w fun e w' => e = .returned (.bool (isS s pos bad wd)) ∧ Kept [b] w w' ∧ Pars w' b s (hasPos s pos bad wd) (hasBad s pos bad wd) := by
  by_cases hi : isS s pos bad wd = true
  · rw [hasPos, hasBad, if_pos hi, if_pos hi]
    go_enter Tryz.func185, Tryz.ntmps185
    go_wp2_with fail
    refine (is_any s wd pos bad b _ h).mono ?_
    rintro e w1 ⟨rfl, rfl⟩
    go_wp2_with fail
    refine (take_any s pos bad b _ h hpos hs).mono ?_
    rintro e w1 ⟨rfl, hk1, hp1⟩
    go_wp2_with fail
    go_ret
    exact ⟨by rw [hi]; rfl, hk1, hp1⟩
  · have hi' : isS s pos bad wd = false := by simpa using hi
    rw [hasPos, hasBad, if_neg hi, if_neg hi]
    clear hi
    go_enter Tryz.func185, Tryz.ntmps185
    go_wp2_with fail
    refine (is_any s wd pos bad b _ h).mono ?_
    rintro e w1 ⟨rfl, rfl⟩
    go_wp2_with fail
    go_ret
    exact ⟨by rw [hi']; rfl, Kept.refl _ _, h⟩

/-- need: it must come next. -/
def needBad0 (s : ByteArray) (pos : Nat) (bad : Int) (wd : ByteArray) : Int := if isS s pos bad wd then bad else failS s pos bad

set_option maxHeartbeats 400000 in
theorem need_any (s wd : ByteArray) (pos : Nat) (bad : Int) (b : Nat) (w : World) (h : Pars w b s pos bad) (hpos : pos ≤ s.size) (hs : s.size ≤ maxLen) :
    Calls Tryz.prog 187 #[.pointer (some ⟨b, 0, none⟩), .string wd] w fun e w' => e = .returned (.tuple #[]) ∧ Kept [b] w w' ∧ Pars w' b s (takePos s pos (needBad0 s pos bad wd)) (takeBad s pos (needBad0 s pos bad wd)) := by
  by_cases hi : isS s pos bad wd = true
  · rw [needBad0, if_pos hi]
    go_enter Tryz.func187, Tryz.ntmps187
    go_wp2_with fail
    refine (is_any s wd pos bad b _ h).mono ?_
    rintro e w1 ⟨rfl, rfl⟩
    go_wp2_with fail
    refine (take_any s pos bad b _ h hpos hs).mono ?_
    rintro e w1 ⟨rfl, hk1, hp1⟩
    go_wp2_with fail
    go_end0
    exact ⟨rfl, hk1, hp1⟩
  · have hi' : isS s pos bad wd = false := by simpa using hi
    rw [needBad0, if_neg hi]
    clear hi
    go_enter Tryz.func187, Tryz.ntmps187
    go_wp2_with fail
    refine (is_any s wd pos bad b _ h).mono ?_
    rintro e w1 ⟨rfl, rfl⟩
    go_wp2_with fail
    refine (fail_any s pos bad b _ h).mono ?_
    rintro e w1 ⟨rfl, hk1, hp1⟩
    go_wp2_with fail
    refine (take_any s pos _ b _ hp1 hpos hs).mono ?_
    rintro e w2 ⟨rfl, hk2, hp2⟩
    go_wp2_with fail
    go_end0
    exact ⟨rfl, hk1.trans hk2, hp2⟩
end Go.Proofs.YtldkpahaocjdpaaGreat
