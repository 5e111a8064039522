/-
  The program's reader: atom.
-/
import Derived.Test.YtldkpahaocjdpaaGreatLoadsT19
namespace Go.Proofs.YtldkpahaocjdpaaGreat
open Go.RowKit

set_option maxRecDepth 100000 in
set_option maxHeartbeats 8000000 in
theorem patom_no (w : World) (b : Nat) (s : ByteArray) (pos num : Nat) (mv : Value) (neg : Bool) (start : Nat) (h : Rdr w b s pos num mv) (hpos : pos ≤ s.size) (hs : s.size ≤ 800) (hk : ¬ (scanK s pos).1 = 2) :
    Calls Tryz.prog 98 #[.pointer (some ⟨b, 0, none⟩), .bool neg, .int .i64 start] w fun e w' => e = .returned (.tuple #[.agg #[.string { data := #[] }, .slice none 0 0], .bool false]) ∧ Kept [b] w w' ∧ Rdr w' b s pos num mv := by
  have hsm : s.size ≤ maxLen := by unfold maxLen; omega
  have hk2 : ((scanK s pos).1 == 2) = false := by simp [hk]
  have ht : rtake s pos 2 = pos := by unfold rtake; rw [if_neg (by rw [hk2]; decide)]
  have HT := hide ht
  have h0 := AInv.start neg start h hpos
  obtain ⟨hlt, c0, c1, c2, c3, c4, c5, fz⟩ := h
  clear hk ht
  go_enter Tryz.func98, Tryz.ntmps98
  go_wp2_with fail
  go_region
  clear c0 c1 c2 c3 c4 c5 fz
  go_wp2_with fail
  refine (word_any s pos num mv b _ h0.rdr hpos hs).mono ?_
  rintro e w2 ⟨rfl, hb2⟩
  have h2 := h0.same hb2
  have d2 := h2.mc.c2
  have df := h2.mc.fz 2
  have h3 := h2.pred (rword s pos)
  have HI := hide h3
  clear h0 hb2 h2 h3
  go_wp2_with fail
  refine (rtake_any s pos num mv 2 b _ (unhide HI).rdr hpos hsm).mono ?_
  rintro e w4 ⟨rfl, hk4, hr4⟩
  rw [unhide HT] at hr4
  have h5 := (unhide HI).call hk4 hr4 hpos
  have hra := h5.ra
  obtain ⟨ra0, ra1, ra2, ra3⟩ := hra
  clear HI hk4 hr4 d2 df
  go_wp2_with fail
  obtain ⟨q0, q1⟩ := set2 h5.ra (.string { data := #[] }) (.slice none 0 0)
  refine bodyPost_ret (v := .tuple #[.agg #[.string { data := #[] }, .slice none 0 0], .bool false]) (by simp [results, Tryz.results98, go_sem, q0, q1]) rfl ⟨rfl, ?_, ?_⟩
  · exact (h5.kept.setCell (.inr (Nat.le_refl _)) _).setCell (.inr (Nat.le_refl _)) _
  · exact h5.rdr.kept (((Kept.refl [w.heap.size] _).setCell (by simp) _).setCell (by simp) _) (by simp; omega)
theorem infoMen : (Tryz.prog.info? 221).map (fun i => (i.zero, i.size, i.bytes)) = some (some (.agg #[.int .i64 0, .bool false, .string { data := #[] }, .slice none 0 0, .int .i64 0, .int .i64 0, .int .i64 0, .int .i64 0, .int .i64 0, .int .i64 0]), 10, 104) := by kernel_rfl

set_option maxRecDepth 100000 in
set_option maxHeartbeats 8000000 in
theorem patom_bare (w : World) (b : Nat) (s : ByteArray) (pos num : Nat) (mv : Value) (neg : Bool) (start : Nat) (ms : List (PMen × Value)) (h : Rdr w b s pos num mv) (hms : MRow w (b + 1) mv ms) (hml : ms.length ≤ 1000) (hpos : pos ≤ s.size) (hs : s.size ≤ 800) (hk : (scanK s pos).1 = 2) (hk5 : ¬ (scanK s (scanK s pos).2.2).1 = 5) :
    Calls Tryz.prog 98 #[.pointer (some ⟨b, 0, none⟩), .bool neg, .int .i64 start] w fun e w' => ∃ tv mv', e = .returned (.tuple #[.agg #[.string (rword s pos), tv], .bool true]) ∧ Kept (b :: mv.ownBlock.toList) w w' ∧ Rdr w' b s (scanK s pos).2.2 num mv' ∧ MRow w' (b + 1) mv' (ms ++ [(⟨num, neg, rword s pos, [], start, (scanK s pos).2.1, fun _ => 0⟩, tv)]) ∧ w'.ownsRow w.heap.size 191 1 tv 0 (ptCells []) ∧ (∀ k, mv'.ownBlock = some k → mv.ownBlock = some k ∨ w.heap.size ≤ k) := by
  obtain ⟨i0, hi, hz0, hz1, hz2⟩ := info_parts infoMen
  have hsm : s.size ≤ maxLen := by unfold maxLen; omega
  have hk2 : ((scanK s pos).1 == 2) = true := by rw [hk]; rfl
  have hk5' : ((scanK s (scanK s pos).2.2).1 == 5) = false := by simp [hk5]
  have ht : rtake s pos 2 = (scanK s pos).2.2 := by unfold rtake; rw [if_pos hk2]
  have ht5 : rtake s (scanK s pos).2.2 5 = (scanK s pos).2.2 := by unfold rtake; rw [if_neg (by rw [hk5']; decide)]
  have HT := hide ht
  have HT5 := hide ht5
  have hp1 := (scan_le s pos hpos).2
  have h0 := AInv.start neg start h hpos
  obtain ⟨am, capm, rfl⟩ := own_slice hms.row
  have HTW := hide (fun (x : PMen × Value) (hx : x ∈ ms) k (e : x.2.ownBlock = some k) => ((hms.each x hx).lt k e).2)
  have HMW := hide (fun k (e : (Value.slice am ms.length capm).ownBlock = some k) => (hms.row.lt k e).2)
  obtain ⟨hlt, c0, c1, c2, c3, c4, c5, fz⟩ := h
  clear hk ht ht5 hk5
  go_enter Tryz.func98, Tryz.ntmps98
  go_wp2_with fail
  go_region
  clear c0 c1 c2 c3 c4 c5 fz
  go_wp2_with fail
  refine (word_any s pos num _ b _ h0.rdr hpos hs).mono ?_
  rintro e w2 ⟨rfl, hb2⟩
  have h2 := h0.same hb2
  have d2 := h2.mc.c2
  have df := h2.mc.fz 2
  have h3 := h2.pred (rword s pos)
  have HI := hide h3
  clear h0 hb2 h2 h3
  go_wp2_with fail
  refine (rtake_any s pos num _ 2 b _ (unhide HI).rdr hpos hsm).mono ?_
  rintro e w4 ⟨rfl, hk4, hr4⟩
  rw [unhide HT] at hr4
  have h5 := (unhide HI).call hk4 hr4 hp1
  clear HI hk4 hr4 d2 df
  go_wp2_with fail
  refine (rtake_any s (scanK s pos).2.2 num _ 5 b _ h5.rdr hp1 hsm).mono ?_
  rintro e w6 ⟨rfl, hk6, hr6⟩
  rw [unhide HT5] at hr6
  have h7 := h5.call hk6 hr6 hp1
  clear h5 hk6 hr6
  have hms7 : MRow w6 (b + 1) (.slice am ms.length capm) ms := hms.kept h7.kept (by simp)
  obtain ⟨x0, x1, x2, x3, x4, x5, x6, xp, xf⟩ := h7.mc
  have y0 := xp 0 (by omega)
  have y1 := xp 1 (by omega)
  have y2 := xp 2 (by omega)
  have y3 := xp 3 (by omega)
  have r5 := h7.rdr.c5
  have hrow := hms7.row
  have s1 : Hid (((w6.alloc (Obj.cells #[Value.int IntKind.i64 ↑num, Value.bool neg, Value.string (rword s pos), .slice none 0 0, Value.int IntKind.i64 ↑start, Value.int IntKind.i64 ↑(scanK s pos).snd.fst, Value.int IntKind.i64 0, Value.int IntKind.i64 0, Value.int IntKind.i64 0, Value.int IntKind.i64 0] 221)).drew).ownsRow (b + 1) 221 10 (Value.slice am ms.length capm) ms.length (menCells ms)) := hrow.alloc _
  have s2 : Hid (∀ j u, ([Value.int IntKind.i64 ↑num, Value.bool neg, Value.string (rword s pos), .slice none 0 0, Value.int IntKind.i64 ↑start, Value.int IntKind.i64 ↑(scanK s pos).snd.fst, Value.int IntKind.i64 0, Value.int IntKind.i64 0, Value.int IntKind.i64 0, Value.int IntKind.i64 0] : List Value)[j]? = some u → ((w6.alloc (Obj.cells #[Value.int IntKind.i64 ↑num, Value.bool neg, Value.string (rword s pos), .slice none 0 0, Value.int IntKind.i64 ↑start, Value.int IntKind.i64 ↑(scanK s pos).snd.fst, Value.int IntKind.i64 0, Value.int IntKind.i64 0, Value.int IntKind.i64 0, Value.int IntKind.i64 0] 221)).drew).cell? ((⟨w6.heap.size, 0, none⟩ : Addr).add j) = some u) := World.news_of_block (heap_alloc_new w6 _)
  have s3 : Hid (∀ u ∈ ([Value.int IntKind.i64 ↑num, Value.bool neg, Value.string (rword s pos), .slice none 0 0, Value.int IntKind.i64 ↑start, Value.int IntKind.i64 ↑(scanK s pos).snd.fst, Value.int IntKind.i64 0, Value.int IntKind.i64 0, Value.int IntKind.i64 0, Value.int IntKind.i64 0] : List Value), u.oneCell' = true) := men_one ⟨num, neg, rword s pos, [], start, (scanK s pos).2.1, fun _ => 0⟩ none 0 0
  have s4 : Hid (ms.length + 1 ≤ maxLen) := by show _ ≤ _; unfold maxLen; omega
  have s5 : Hid ((ms.length + 1) * 104 ≤ 140737488355328) := by show _ ≤ _; omega
  have s6 : Hid (b + 1 ≤ ((w6.alloc (Obj.cells #[Value.int IntKind.i64 ↑num, Value.bool neg, Value.string (rword s pos), .slice none 0 0, Value.int IntKind.i64 ↑start, Value.int IntKind.i64 ↑(scanK s pos).snd.fst, Value.int IntKind.i64 0, Value.int IntKind.i64 0, Value.int IntKind.i64 0, Value.int IntKind.i64 0] 221)).drew).heap.size) := by show _ ≤ _; have := h7.rdr.lt; simp; omega
  have hW : ∀ k, k < w6.heap.size → ((w6.alloc (Obj.cells #[Value.int IntKind.i64 ↑num, Value.bool neg, Value.string (rword s pos), .slice none 0 0, Value.int IntKind.i64 ↑start, Value.int IntKind.i64 ↑(scanK s pos).snd.fst, Value.int IntKind.i64 0, Value.int IntKind.i64 0, Value.int IntKind.i64 0, Value.int IntKind.i64 0] 221)).drew).heap[k]? = w6.heap[k]? := fun k hk => ((Kept.refl [] w6).alloc _).block k hk (by simp)
  have hS : w6.heap.size ≤ ((w6.alloc (Obj.cells #[Value.int IntKind.i64 ↑num, Value.bool neg, Value.string (rword s pos), .slice none 0 0, Value.int IntKind.i64 ↑start, Value.int IntKind.i64 ↑(scanK s pos).snd.fst, Value.int IntKind.i64 0, Value.int IntKind.i64 0, Value.int IntKind.i64 0, Value.int IntKind.i64 0] 221)).drew).heap.size := ((Kept.refl [] w6).alloc _).size
  have hnil : w6.ownsRow w.heap.size 191 1 (.slice none 0 0) ([] : List (Bool × ByteArray)).length (ptCells []) := World.ownsRow_nil _ _ _ _
  have s8 := hide (fun (w5 : World) (g cap : Nat) (hg : ((w6.alloc (Obj.cells #[Value.int IntKind.i64 ↑num, Value.bool neg, Value.string (rword s pos), .slice none 0 0, Value.int IntKind.i64 ↑start, Value.int IntKind.i64 ↑(scanK s pos).snd.fst, Value.int IntKind.i64 0, Value.int IntKind.i64 0, Value.int IntKind.i64 0, Value.int IntKind.i64 0] 221)).drew).grownBy w5 (Value.slice am ms.length capm).ownBlock) (hown : w5.ownsRow (b + 1) 221 10 (.slice (some ⟨g, 0, none⟩) (ms.length + 1) cap) (ms.length + 1) (menCells ms ++ [Value.int IntKind.i64 ↑num, Value.bool neg, Value.string (rword s pos), .slice none 0 0, Value.int IntKind.i64 ↑start, Value.int IntKind.i64 ↑(scanK s pos).snd.fst, Value.int IntKind.i64 0, Value.int IntKind.i64 0, Value.int IntKind.i64 0, Value.int IntKind.i64 0])) => men_end (v' := .slice (some ⟨g, 0, none⟩) (ms.length + 1) cap) h7 hms7 (unhide HMW) hnil hW hS rfl rfl rfl hg hown)
  have h7l := h7.mc.lt
  have hrl := h7.rdr.lt
  clear hW hS hrow hms7 hnil xp
  go_wp2_with fail
  go_region_law (refine step_append_lies _ rfl (.tmp 41) (.tmp 43) 98 rfl (b + 1) 221 i0 (.agg #[.int .i64 0, .bool false, .string { data := #[] }, .slice none 0 0, .int .i64 0, .int .i64 0, .int .i64 0, .int .i64 0, .int .i64 0, .int .i64 0]) 10 104 Tryz.underlying98 hi hz0 hz1 hz2 rfl (by decide) (Value.slice am ms.length capm) ms.length (menCells ms) (by simp [Act.eval]) (unhide s1) ⟨w6.heap.size, 0, none⟩ 1 1 [Value.int IntKind.i64 ↑num, Value.bool neg, Value.string (rword s pos), .slice none 0 0, Value.int IntKind.i64 ↑start, Value.int IntKind.i64 ↑(scanK s pos).snd.fst, Value.int IntKind.i64 0, Value.int IntKind.i64 0, Value.int IntKind.i64 0, Value.int IntKind.i64 0] (by simp [Act.eval]) rfl (unhide s2) (unhide s3) (by decide) (unhide s4) (unhide s5) (unhide s6) _ rfl ?_; intro g cap w5 hown5 hg5 hat5 hlt5; obtain ⟨e1, e2, e3, e4, e5, e6, e7⟩ := unhide s8 w5 g cap hg5 hown5; have z5 := e7.c5; have zf := e7.fz 5)
  all_goals
    obtain ⟨ra0, ra1, ra2, ra3⟩ := e5
    have m2 := e6.c2
    have m3 := e6.c3
    have ml := e6.lt
    clear s1 s2 s3 s4 s5 s6 s8 x0 x1 x2 x3 x4 x5 x6 xf y0 y1 y2 y3 r5 z5 zf h7
    go_wp2_with fail
    obtain ⟨q0, q1⟩ := set2 (RA.mk ra0 ra1 ra2 ra3) (.string (rword s pos)) (.slice none 0 0)
    have kk := ra_set (w5.setCell ⟨b, 5, none⟩ (.slice (some ⟨g, 0, none⟩) (ms.length + 1) cap)) w.heap.size (.string (rword s pos)) (.slice none 0 0)
    refine bodyPost_ret (v := .tuple #[.agg #[.string (rword s pos), .slice none 0 0], .bool true]) (by simp [results, Tryz.results98, go_sem, q0, q1]) rfl ⟨_, _, rfl, ?_, e2.kept kk (by simp; omega), ?_, ?_, fun k e => ?_⟩
    · exact (e1.setCell (.inr (Nat.le_refl _)) _).setCell (.inr (Nat.le_refl _)) _
    · refine men_fin e3 kk (fun k e => ?_) (fun x hx k e => ?_)
      · rcases hat5 with h1 | h1
        · have := unhide HMW g h1
          injection e with e; simp only at e; omega
        · injection e with e; simp only at e; simp at h1; omega
      · rcases List.mem_append.1 hx with hx | hx
        · have := unhide HTW x hx k e; omega
        · simp at hx; subst hx; cases e
    · exact World.ownsRow_nil _ _ _ _
    · injection e with e
      simp only at e
      subst e
      rcases hat5 with h1 | h1
      · exact .inl h1
      · refine .inr ?_; simp at h1; omega
end Go.Proofs.YtldkpahaocjdpaaGreat
