/-
  The program's reader: atom, with terms in brackets.
  The program's reader: atom, with terms in brackets that can be read.
-/
import Derived.Test.YtldkpahaocjdpaaGreatLoadsT20
namespace Go.Proofs.YtldkpahaocjdpaaGreat
open Go.RowKit

set_option maxRecDepth 100000 in
set_option maxHeartbeats 8000000 in
theorem patom_bad (w : World) (b : Nat) (s : ByteArray) (pos num : Nat) (mv : Value) (neg : Bool) (start : Nat) (ms : List (PMen × Value)) (h : Rdr w b s pos num mv) (hms : MRow w (b + 1) mv ms) (hpos : pos ≤ s.size) (hs : s.size ≤ 800) (hk : (scanK s pos).1 = 2) (hk5 : (scanK s (scanK s pos).2.2).1 = 5) (hPok : (ptermsS s 4 (scanK s (scanK s pos).2.2).2.2 [] (fun _ => 0)).1 = false) :
    Calls Tryz.prog 98 #[.pointer (some ⟨b, 0, none⟩), .bool neg, .int .i64 start] w fun e w' => e = .returned (.tuple #[.agg #[.string { data := #[] }, .slice none 0 0], .bool false]) ∧ Kept [b] w w' ∧ Rdr w' b s (ptermsS s 4 (scanK s (scanK s pos).2.2).2.2 [] (fun _ => 0)).2.1 num mv := by
  have hsm : s.size ≤ maxLen := by unfold maxLen; omega
  have hk2 : ((scanK s pos).1 == 2) = true := by rw [hk]; rfl
  have hk5' : ((scanK s (scanK s pos).2.2).1 == 5) = true := by rw [hk5]; rfl
  have ht : rtake s pos 2 = (scanK s pos).2.2 := by unfold rtake; rw [if_pos hk2]
  have ht5 : rtake s (scanK s pos).2.2 5 = (scanK s (scanK s pos).2.2).2.2 := by unfold rtake; rw [if_pos hk5']
  have HT := hide ht
  have HT5 := hide ht5
  have hp1 := (scan_le s pos hpos).2
  have hp2 := (scan_le s (scanK s pos).2.2 hp1).2
  have h0 := AInv.start neg start h hpos
  obtain ⟨am, capm, rfl⟩ := own_slice hms.row
  obtain ⟨hlt, c0, c1, c2, c3, c4, c5, fz⟩ := h
  clear hk ht ht5 hk5
  go_enter Tryz.func98, Tryz.ntmps98
  go_wp2_with fail
  go_region
  clear c0 c1 c2 c3 c4 c5 fz
  go_wp2_with fail
  refine (word_any s pos num _ b _ h0.rdr hpos hs).mono ?_
  rintro e w2 ⟨rfl, hb2⟩
  have h2 := h0.same hb2
  have d2 := h2.mc.c2
  have df := h2.mc.fz 2
  have h3 := h2.pred (rword s pos)
  have HI := hide h3
  clear h0 hb2 h2 h3
  go_wp2_with fail
  refine (rtake_any s pos num _ 2 b _ (unhide HI).rdr hpos hsm).mono ?_
  rintro e w4 ⟨rfl, hk4, hr4⟩
  rw [unhide HT] at hr4
  have h5 := (unhide HI).call hk4 hr4 hp1
  clear HI hk4 hr4 d2 df
  go_wp2_with fail
  refine (rtake_any s (scanK s pos).2.2 num _ 5 b _ h5.rdr hp1 hsm).mono ?_
  rintro e w6 ⟨rfl, hk6, hr6⟩
  rw [unhide HT5] at hr6
  have h7 := h5.call hk6 hr6 hp2
  clear h5 hk6 hr6
  have hbn : b ≠ w.heap.size + 1 := by have := h7.bw; omega
  go_wp2_with fail
  refine (terms_any w6 b (w.heap.size + 1) s _ num _ num neg _ start (scanK s pos).2.1 _ h7.rdr h7.mc hbn hp2 hs).mono ?_
  rintro e w8 ⟨rfl, tv, hT⟩
  generalize hPP : ptermsS s 4 (scanK s (scanK s pos).2.2).2.2 [] (fun _ => 0) = PP at *
  obtain ⟨ok, p3, ts, pl⟩ := PP
  simp only at hT
  obtain ⟨at1, capt, rfl⟩ := own_slice hT.own
  have hsz6 : w.heap.size + 1 < w6.heap.size := h7.mc.lt
  have h8 : AInv w b s num (.slice am ms.length capm) neg start (scanK s pos).2.1 (rword s pos) (.slice at1 ts.length capt) pl p3 w8 := by
    refine ⟨hT.rdr, hT.hp, hT.mc, h7.ra.kept hT.kept (by simp; have := h7.bw; omega), ?_, h7.bw⟩
    have k1 : Kept [b, w.heap.size + 1] w w6 := h7.kept.mono (by simp)
    exact (k1.trans hT.kept).mono (by simp)
  have htw : w8.ownsRow w.heap.size 191 1 (.slice at1 ts.length capt) ts.length (ptCells ts) := ownsRow_low hT.own (by omega)
  have HTF := hide (fun g (e : (Value.slice at1 ts.length capt).ownBlock = some g) => (hT.own.lt g e).1)
  clear hT h7
  have hok : ok = false := hPok
  subst hok
  obtain ⟨ra0, ra1, ra2, ra3⟩ := h8.ra
  clear htw HTF
  go_wp2_with fail
  obtain ⟨q0, q1⟩ := set2 h8.ra (.string { data := #[] }) (.slice none 0 0)
  refine bodyPost_ret (v := .tuple #[.agg #[.string { data := #[] }, .slice none 0 0], .bool false]) (by simp [results, Tryz.results98, go_sem, q0, q1]) rfl ⟨rfl, ?_, ?_⟩
  · exact (h8.kept.setCell (.inr (Nat.le_refl _)) _).setCell (.inr (Nat.le_refl _)) _
  · rw [hPP]
    exact h8.rdr.kept (ra_set w8 w.heap.size (.string { data := #[] }) (.slice none 0 0)) (by simp; omega)
end Go.Proofs.YtldkpahaocjdpaaGreat

namespace Go.Proofs.YtldkpahaocjdpaaGreat
open Go.RowKit

set_option maxRecDepth 100000 in
set_option maxHeartbeats 8000000 in
theorem patom_yes (w : World) (b : Nat) (s : ByteArray) (pos num : Nat) (mv : Value) (neg : Bool) (start : Nat) (ms : List (PMen × Value)) (h : Rdr w b s pos num mv) (hms : MRow w (b + 1) mv ms) (hml : ms.length ≤ 1000) (hpos : pos ≤ s.size) (hs : s.size ≤ 800) (hk : (scanK s pos).1 = 2) (hk5 : (scanK s (scanK s pos).2.2).1 = 5) (hPok : (ptermsS s 4 (scanK s (scanK s pos).2.2).2.2 [] (fun _ => 0)).1 = true) :
    Calls Tryz.prog 98 #[.pointer (some ⟨b, 0, none⟩), .bool neg, .int .i64 start] w fun e w' => ∃ tv mv', e = .returned (.tuple #[.agg #[.string (rword s pos), tv], .bool true]) ∧ Kept (b :: mv.ownBlock.toList) w w' ∧ Rdr w' b s (ptermsS s 4 (scanK s (scanK s pos).2.2).2.2 [] (fun _ => 0)).2.1 num mv' ∧ MRow w' (b + 1) mv' (ms ++ [(⟨num, neg, rword s pos, (ptermsS s 4 (scanK s (scanK s pos).2.2).2.2 [] (fun _ => 0)).2.2.1, start, (scanK s pos).2.1, (ptermsS s 4 (scanK s (scanK s pos).2.2).2.2 [] (fun _ => 0)).2.2.2⟩, tv)]) ∧ w'.ownsRow w.heap.size 191 1 tv (ptermsS s 4 (scanK s (scanK s pos).2.2).2.2 [] (fun _ => 0)).2.2.1.length (ptCells (ptermsS s 4 (scanK s (scanK s pos).2.2).2.2 [] (fun _ => 0)).2.2.1)  ∧ (∀ k, mv'.ownBlock = some k → mv.ownBlock = some k ∨ w.heap.size ≤ k) := by
  obtain ⟨i0, hi, hz0, hz1, hz2⟩ := info_parts infoMen
  have hsm : s.size ≤ maxLen := by unfold maxLen; omega
  have hk2 : ((scanK s pos).1 == 2) = true := by rw [hk]; rfl
  have hk5' : ((scanK s (scanK s pos).2.2).1 == 5) = true := by rw [hk5]; rfl
  have ht : rtake s pos 2 = (scanK s pos).2.2 := by unfold rtake; rw [if_pos hk2]
  have ht5 : rtake s (scanK s pos).2.2 5 = (scanK s (scanK s pos).2.2).2.2 := by unfold rtake; rw [if_pos hk5']
  have HT := hide ht
  have HT5 := hide ht5
  have hp1 := (scan_le s pos hpos).2
  have hp2 := (scan_le s (scanK s pos).2.2 hp1).2
  have h0 := AInv.start neg start h hpos
  obtain ⟨am, capm, rfl⟩ := own_slice hms.row
  have HTW := hide (fun (x : PMen × Value) (hx : x ∈ ms) k (e : x.2.ownBlock = some k) => ((hms.each x hx).lt k e).2)
  have HMW := hide (fun k (e : (Value.slice am ms.length capm).ownBlock = some k) => (hms.row.lt k e).2)
  obtain ⟨hlt, c0, c1, c2, c3, c4, c5, fz⟩ := h
  clear hk ht ht5 hk5
  go_enter Tryz.func98, Tryz.ntmps98
  go_wp2_with fail
  go_region
  clear c0 c1 c2 c3 c4 c5 fz
  go_wp2_with fail
  refine (word_any s pos num _ b _ h0.rdr hpos hs).mono ?_
  rintro e w2 ⟨rfl, hb2⟩
  have h2 := h0.same hb2
  have d2 := h2.mc.c2
  have df := h2.mc.fz 2
  have h3 := h2.pred (rword s pos)
  have HI := hide h3
  clear h0 hb2 h2 h3
  go_wp2_with fail
  refine (rtake_any s pos num _ 2 b _ (unhide HI).rdr hpos hsm).mono ?_
  rintro e w4 ⟨rfl, hk4, hr4⟩
  rw [unhide HT] at hr4
  have h5 := (unhide HI).call hk4 hr4 hp1
  clear HI hk4 hr4 d2 df
  go_wp2_with fail
  refine (rtake_any s (scanK s pos).2.2 num _ 5 b _ h5.rdr hp1 hsm).mono ?_
  rintro e w6 ⟨rfl, hk6, hr6⟩
  rw [unhide HT5] at hr6
  have h7 := h5.call hk6 hr6 hp2
  clear h5 hk6 hr6
  have hbn : b ≠ w.heap.size + 1 := by have := h7.bw; omega
  go_wp2_with fail
  refine (terms_any w6 b (w.heap.size + 1) s _ num _ num neg _ start (scanK s pos).2.1 _ h7.rdr h7.mc hbn hp2 hs).mono ?_
  rintro e w8 ⟨rfl, tv, hT⟩
  generalize hPP : ptermsS s 4 (scanK s (scanK s pos).2.2).2.2 [] (fun _ => 0) = PP at *
  obtain ⟨ok, p3, ts, pl⟩ := PP
  simp only at hT
  obtain ⟨at1, capt, rfl⟩ := own_slice hT.own
  have hsz6 : w.heap.size + 1 < w6.heap.size := h7.mc.lt
  have h8 : AInv w b s num (.slice am ms.length capm) neg start (scanK s pos).2.1 (rword s pos) (.slice at1 ts.length capt) pl p3 w8 := by
    refine ⟨hT.rdr, hT.hp, hT.mc, h7.ra.kept hT.kept (by simp; have := h7.bw; omega), ?_, h7.bw⟩
    have k1 : Kept [b, w.heap.size + 1] w w6 := h7.kept.mono (by simp)
    exact (k1.trans hT.kept).mono (by simp)
  have htw : w8.ownsRow w.heap.size 191 1 (.slice at1 ts.length capt) ts.length (ptCells ts) := ownsRow_low hT.own (by omega)
  have HTF := hide (fun g (e : (Value.slice at1 ts.length capt).ownBlock = some g) => (hT.own.lt g e).1)
  clear hT h7
  have hok : ok = true := hPok
  subst hok
  have HPP := hide hPP
  clear hPP
  have hms7 : MRow w8 (b + 1) (.slice am ms.length capm) ms := hms.kept h8.kept (by simp)
  obtain ⟨x0, x1, x2, x3, x4, x5, x6, xp, xf⟩ := h8.mc
  have y0 := xp 0 (by omega)
  have y1 := xp 1 (by omega)
  have y2 := xp 2 (by omega)
  have y3 := xp 3 (by omega)
  have r5 := h8.rdr.c5
  have hrow := hms7.row
  have s1 : Hid (((w8.alloc (Obj.cells #[Value.int IntKind.i64 ↑num, Value.bool neg, Value.string (rword s pos), .slice at1 ts.length capt, Value.int IntKind.i64 ↑start, Value.int IntKind.i64 ↑(scanK s pos).snd.fst, Value.int IntKind.i64 ↑(pl 0), Value.int IntKind.i64 ↑(pl 1), Value.int IntKind.i64 ↑(pl 2), Value.int IntKind.i64 ↑(pl 3)] 221)).drew).ownsRow (b + 1) 221 10 (Value.slice am ms.length capm) ms.length (menCells ms)) := hrow.alloc _
  have s2 : Hid (∀ j u, ([Value.int IntKind.i64 ↑num, Value.bool neg, Value.string (rword s pos), .slice at1 ts.length capt, Value.int IntKind.i64 ↑start, Value.int IntKind.i64 ↑(scanK s pos).snd.fst, Value.int IntKind.i64 ↑(pl 0), Value.int IntKind.i64 ↑(pl 1), Value.int IntKind.i64 ↑(pl 2), Value.int IntKind.i64 ↑(pl 3)] : List Value)[j]? = some u → ((w8.alloc (Obj.cells #[Value.int IntKind.i64 ↑num, Value.bool neg, Value.string (rword s pos), .slice at1 ts.length capt, Value.int IntKind.i64 ↑start, Value.int IntKind.i64 ↑(scanK s pos).snd.fst, Value.int IntKind.i64 ↑(pl 0), Value.int IntKind.i64 ↑(pl 1), Value.int IntKind.i64 ↑(pl 2), Value.int IntKind.i64 ↑(pl 3)] 221)).drew).cell? ((⟨w8.heap.size, 0, none⟩ : Addr).add j) = some u) := World.news_of_block (heap_alloc_new w8 _)
  have s3 : Hid (∀ u ∈ ([Value.int IntKind.i64 ↑num, Value.bool neg, Value.string (rword s pos), .slice at1 ts.length capt, Value.int IntKind.i64 ↑start, Value.int IntKind.i64 ↑(scanK s pos).snd.fst, Value.int IntKind.i64 ↑(pl 0), Value.int IntKind.i64 ↑(pl 1), Value.int IntKind.i64 ↑(pl 2), Value.int IntKind.i64 ↑(pl 3)] : List Value), u.oneCell' = true) := men_one ⟨num, neg, rword s pos, ts, start, (scanK s pos).2.1, pl⟩ at1 ts.length capt
  have s4 : Hid (ms.length + 1 ≤ maxLen) := by show _ ≤ _; unfold maxLen; omega
  have s5 : Hid ((ms.length + 1) * 104 ≤ 140737488355328) := by show _ ≤ _; omega
  have s6 : Hid (b + 1 ≤ ((w8.alloc (Obj.cells #[Value.int IntKind.i64 ↑num, Value.bool neg, Value.string (rword s pos), .slice at1 ts.length capt, Value.int IntKind.i64 ↑start, Value.int IntKind.i64 ↑(scanK s pos).snd.fst, Value.int IntKind.i64 ↑(pl 0), Value.int IntKind.i64 ↑(pl 1), Value.int IntKind.i64 ↑(pl 2), Value.int IntKind.i64 ↑(pl 3)] 221)).drew).heap.size) := by show _ ≤ _; have := h8.rdr.lt; simp; omega
  have hW : ∀ k, k < w8.heap.size → ((w8.alloc (Obj.cells #[Value.int IntKind.i64 ↑num, Value.bool neg, Value.string (rword s pos), .slice at1 ts.length capt, Value.int IntKind.i64 ↑start, Value.int IntKind.i64 ↑(scanK s pos).snd.fst, Value.int IntKind.i64 ↑(pl 0), Value.int IntKind.i64 ↑(pl 1), Value.int IntKind.i64 ↑(pl 2), Value.int IntKind.i64 ↑(pl 3)] 221)).drew).heap[k]? = w8.heap[k]? := fun k hk => ((Kept.refl [] w8).alloc _).block k hk (by simp)
  have hS : w8.heap.size ≤ ((w8.alloc (Obj.cells #[Value.int IntKind.i64 ↑num, Value.bool neg, Value.string (rword s pos), .slice at1 ts.length capt, Value.int IntKind.i64 ↑start, Value.int IntKind.i64 ↑(scanK s pos).snd.fst, Value.int IntKind.i64 ↑(pl 0), Value.int IntKind.i64 ↑(pl 1), Value.int IntKind.i64 ↑(pl 2), Value.int IntKind.i64 ↑(pl 3)] 221)).drew).heap.size := ((Kept.refl [] w8).alloc _).size
  have s8 := hide (fun (w5 : World) (g cap : Nat) (hg : ((w8.alloc (Obj.cells #[Value.int IntKind.i64 ↑num, Value.bool neg, Value.string (rword s pos), .slice at1 ts.length capt, Value.int IntKind.i64 ↑start, Value.int IntKind.i64 ↑(scanK s pos).snd.fst, Value.int IntKind.i64 ↑(pl 0), Value.int IntKind.i64 ↑(pl 1), Value.int IntKind.i64 ↑(pl 2), Value.int IntKind.i64 ↑(pl 3)] 221)).drew).grownBy w5 (Value.slice am ms.length capm).ownBlock) (hown : w5.ownsRow (b + 1) 221 10 (.slice (some ⟨g, 0, none⟩) (ms.length + 1) cap) (ms.length + 1) (menCells ms ++ [Value.int IntKind.i64 ↑num, Value.bool neg, Value.string (rword s pos), .slice at1 ts.length capt, Value.int IntKind.i64 ↑start, Value.int IntKind.i64 ↑(scanK s pos).snd.fst, Value.int IntKind.i64 ↑(pl 0), Value.int IntKind.i64 ↑(pl 1), Value.int IntKind.i64 ↑(pl 2), Value.int IntKind.i64 ↑(pl 3)])) => men_end (v' := .slice (some ⟨g, 0, none⟩) (ms.length + 1) cap) h8 hms7 (unhide HMW) htw hW hS rfl rfl rfl hg hown)
  have h8l := h8.mc.lt
  have hrl := h8.rdr.lt
  clear hW hS hrow hms7 xp htw
  go_wp2_with fail
  go_region_law (refine step_append_lies _ rfl (.tmp 41) (.tmp 43) 98 rfl (b + 1) 221 i0 (.agg #[.int .i64 0, .bool false, .string { data := #[] }, .slice none 0 0, .int .i64 0, .int .i64 0, .int .i64 0, .int .i64 0, .int .i64 0, .int .i64 0]) 10 104 Tryz.underlying98 hi hz0 hz1 hz2 rfl (by decide) (Value.slice am ms.length capm) ms.length (menCells ms) (by simp [Act.eval]) (unhide s1) ⟨w8.heap.size, 0, none⟩ 1 1 [Value.int IntKind.i64 ↑num, Value.bool neg, Value.string (rword s pos), .slice at1 ts.length capt, Value.int IntKind.i64 ↑start, Value.int IntKind.i64 ↑(scanK s pos).snd.fst, Value.int IntKind.i64 ↑(pl 0), Value.int IntKind.i64 ↑(pl 1), Value.int IntKind.i64 ↑(pl 2), Value.int IntKind.i64 ↑(pl 3)] (by simp [Act.eval]) rfl (unhide s2) (unhide s3) (by decide) (unhide s4) (unhide s5) (unhide s6) _ rfl ?_; intro g cap w5 hown5 hg5 hat5 hlt5; obtain ⟨e1, e2, e3, e4, e5, e6, e7⟩ := unhide s8 w5 g cap hg5 hown5; have z5 := e7.c5; have zf := e7.fz 5)
  all_goals
    obtain ⟨ra0, ra1, ra2, ra3⟩ := e5
    have m2 := e6.c2
    have m3 := e6.c3
    have ml := e6.lt
    clear s1 s2 s3 s4 s5 s6 s8 x0 x1 x2 x3 x4 x5 x6 xf y0 y1 y2 y3 r5 z5 zf h8
    go_wp2_with fail
    obtain ⟨q0, q1⟩ := set2 (RA.mk ra0 ra1 ra2 ra3) (.string (rword s pos)) (.slice at1 ts.length capt)
    have kk := ra_set (w5.setCell ⟨b, 5, none⟩ (.slice (some ⟨g, 0, none⟩) (ms.length + 1) cap)) w.heap.size (.string (rword s pos)) (.slice at1 ts.length capt)
    refine bodyPost_ret (v := .tuple #[.agg #[.string (rword s pos), .slice at1 ts.length capt], .bool true]) (by simp [results, Tryz.results98, go_sem, q0, q1]) rfl ⟨_, _, rfl, ?_, by rw [unhide HPP]; exact e2.kept kk (by simp; omega), ?_, ?_, fun k e => ?_⟩
    · exact (e1.setCell (.inr (Nat.le_refl _)) _).setCell (.inr (Nat.le_refl _)) _
    · rw [unhide HPP]
      refine men_fin e3 kk (fun k e => ?_) (fun x hx k e => ?_)
      · rcases hat5 with h1 | h1
        · have := unhide HMW g h1
          injection e with e; simp only at e; omega
        · injection e with e; simp only at e; simp at h1; omega
      · rcases List.mem_append.1 hx with hx | hx
        · have := unhide HTW x hx k e; omega
        · simp at hx; subst hx; have := unhide HTF k e; omega
    · rw [unhide HPP]
      exact ownsRow_apart e4 kk (fun k e => by have := unhide HTF k e; omega)
    · injection e with e
      simp only at e
      subst e
      rcases hat5 with h1 | h1
      · exact .inl h1
      · refine .inr ?_; simp at h1; omega
end Go.Proofs.YtldkpahaocjdpaaGreat
