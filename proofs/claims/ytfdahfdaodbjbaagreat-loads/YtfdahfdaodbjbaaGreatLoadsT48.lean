/-
  The law's load: one Load of the program and one of the document's answer, side by side: always true; the list of programs grows by one where the text is taken.
  The law's step at a Load, and at a step of no kind; a book in which nothing stands.
-/
import Derived.Test.YtfdahfdaodbjbaaGreatLoadsT46
import Derived.Test.YtfdahfdaodbjbaaGreatLoadsT47
namespace Go.Proofs.YtfdahfdaodbjbaaGreat
open Go.RowKit

theorem infoProg : (Tryz.prog.info? 44).map (fun i => (i.zero, i.size, i.bytes)) = some (some (.agg #[.pointer none, .pointer none, .string { data := #[] }]), 3, 32) := by kernel_rfl

/-- The law's world in its block: its programs; nothing in its book. -/
structure WIn (w : World) (b : Nat) (psv : Value) (n : Nat) : Prop where
  blk : w.heap[b]? = some (.cells #[psv, .slice none 0 0, .slice none 0 0, .slice none 0 0] 36 (0, 0))
  row : ∃ xs, w.ownsRow (b + 1) 44 3 psv n xs

theorem WIn.below {w w1 : World} {b n : Nat} {psv : Value} (h : WIn w b psv n) (hb : Below w.heap.size w w1) : WIn w1 b psv n := by
  obtain ⟨xs, hr⟩ := h.row
  exact ⟨(hb.block b (Array.getElem?_eq_some_iff.1 h.blk).1).trans h.blk, xs, own_below hr hb (fun g e => (hr.lt g e).2)⟩
theorem WIn.lt {w : World} {b n : Nat} {psv : Value} (h : WIn w b psv n) : b < w.heap.size := (Array.getElem?_eq_some_iff.1 h.blk).1

/-- One program more. -/
theorem WIn.add {w W w5 : World} {b n : Nat} {psv : Value} {xs : List Value} (hbk : w.heap[b]? = some (.cells #[psv, .slice none 0 0, .slice none 0 0, .slice none 0 0] 36 (0, 0))) (hrow : w.ownsRow (b + 1) 44 3 psv n xs) (hW : ∀ k, k < w.heap.size → W.heap[k]? = w.heap[k]?) (hS : w.heap.size ≤ W.heap.size) (hos : W.os = w.os) (htp : W.tape = w.tape) (hou : W.output = w.output) (hg : W.grownBy w5 psv.ownBlock) {v' : Value} {ys : List Value} (hown : w5.ownsRow (b + 1) 44 3 v' (n + 1) ys) :
    WIn (w5.setCell ⟨b, 0, none⟩ v') b v' (n + 1) ∧ Kept (b :: psv.ownBlock.toList) w (w5.setCell ⟨b, 0, none⟩ v') ∧ w5.heap[b]? = some (.cells #[psv, .slice none 0 0, .slice none 0 0, .slice none 0 0] 36 (0, 0)) := by
  have hlt := (Array.getElem?_eq_some_iff.1 hbk).1
  have hs5 := hg.size
  have hb5 : w5.heap[b]? = some (.cells #[psv, .slice none 0 0, .slice none 0 0, .slice none 0 0] 36 (0, 0)) := by
    rw [hg.block b (by omega) (fun e => by have := (hrow.lt b e.symm).1; omega), hW b hlt]
    exact hbk
  refine ⟨⟨?_, ys, ownsRow_setCell_below hown (by simp) _⟩, ⟨hg.os.trans hos, hg.tape.trans htp, hg.output.trans hou, by simp; omega, fun k hk hn => ?_⟩, hb5⟩
  · unfold World.setCell
    simp only [Array.getElem?_modify, if_true, hb5]
    rfl
  · simp at hn
    rw [Below.heap_setCell _ _ _ _ (by simp; omega), hg.block k (by omega) (fun e => hn.2 e.symm), hW k hk]

def LdPost (w : World) (b n : Nat) (psv : Value) (s : ByteArray) (e : Ending) (w' : World) : Prop := e = .returned (.bool true) ∧ ∃ psv', WIn w' b psv' (n + if (refLoad s).1 then 1 else 0) ∧ Kept (b :: psv.ownBlock.toList) w w'

set_option maxRecDepth 100000 in
set_option maxHeartbeats 8000000 in
theorem law_load (w : World) (b n : Nat) (psv : Value) (kd a bb : Int) (s t u : ByteArray) (at_ : Option Addr) (nt ct : Nat) (h : WIn w b psv n) (hs : s.size ≤ maxLen) (hn : (n + 1) * 32 ≤ 140737488355328) :
    Calls Tryz.prog 10 #[.pointer (some ⟨b, 0, none⟩), .agg #[.int .i64 kd, .int .i64 a, .int .i64 bb, .string s, .string t, .string u, .slice at_ nt ct]] w (LdPost w b n psv s) := by
  obtain ⟨i0, hi, hz0, hz1, hz2⟩ := info_parts infoProg
  have b0 := (Below.refl w.heap.size w).alloc (Nat.le_refl _) (.cells #[.int .i64 kd, .int .i64 a, .int .i64 bb, .string s, .string t, .string u, .slice at_ nt ct] 26)
  have hbx : (w.alloc (.cells #[.int .i64 kd, .int .i64 a, .int .i64 bb, .string s, .string t, .string u, .slice at_ nt ct] 26)).heap[w.heap.size]? = _ := heap_alloc_new w _
  have hP := pload_any (w.alloc (.cells #[.int .i64 kd, .int .i64 a, .int .i64 bb, .string s, .string t, .string u, .slice at_ nt ct] 26)) s hs
  rw [load_eq] at hP
  have hlt := h.lt
  go_enter Tryz.func10, Tryz.ntmps10
  go_wp2_with fail
  refine hP.mono ?_
  rintro e w1 ⟨hb1, hno, hyes⟩
  have hbx1 := (hb1.block w.heap.size (by simp)).trans hbx
  obtain ⟨x3, xf3⟩ := block_cells hbx1 3
  have hz1' := hb1.size
  rw [World.size_alloc] at hz1'
  have hB1 := b0.trans (hb1.mono (by simp))
  clear hP hbx hb1 b0
  cases hr : (refLoad s).1 with
  | false =>
    have he := hno hr
    subst he
    clear hno hyes
    go_wp2_with fail
    refine (refLoad_any s w1).mono ?_
    rintro e w2 ⟨y, rfl, hy, hb2⟩
    have hyn : y = none := by rw [hr] at hy; cases y with | none => rfl | some _ => cases hy
    subst hyn
    have HB := hide (hB1.trans (hb2.mono (by omega)))
    have HH := hide h
    clear hb2 hB1 x3 xf3 hy hbx1 h
    go_wp2_with fail
    go_ret
    have HR := hr
    refine ⟨rfl, psv, ?_, ?_⟩
    · rw [HR]; exact (unhide HH).below (unhide HB)
    · exact (Kept.refl _ _).of_below (unhide HB)
  | true =>
    obtain ⟨pb, rs, he, _, _⟩ := hyes hr
    subst he
    clear hno hyes
    go_wp2_with fail
    refine (refLoad_any s w1).mono ?_
    rintro e w2 ⟨y, rfl, hy, hb2⟩
    obtain ⟨ya, rfl⟩ : ∃ ya, y = some ya := by rw [hr] at hy; cases y with | none => cases hy | some z => exact ⟨z, rfl⟩
    have hbx2 := (hb2.block w.heap.size (by omega)).trans hbx1
    have hz2' := hb2.size
    have hB2 := hB1.trans (hb2.mono (by omega))
    have h2 := h.below hB2
    obtain ⟨xs, hrow⟩ := h2.row
    obtain ⟨ap, cp, rfl⟩ := own_slice hrow
    have hblk := h2.blk
    obtain ⟨y3, yf3⟩ := block_cells hbx2 3
    obtain ⟨p0, pf0⟩ := block_cells hblk 0
    have hblt := h2.lt
    have s1 : Hid (((w2.alloc (Obj.cells #[.pointer (some ⟨pb, 0, none⟩), .pointer (some ya), .string s] 44)).drew).ownsRow (b + 1) 44 3 (.slice ap n cp) n xs) := hrow.alloc _
    have s2 : Hid (∀ j u, ([Value.pointer (some ⟨pb, 0, none⟩), .pointer (some ya), .string s] : List Value)[j]? = some u → ((w2.alloc (Obj.cells #[.pointer (some ⟨pb, 0, none⟩), .pointer (some ya), .string s] 44)).drew).cell? ((⟨w2.heap.size, 0, none⟩ : Addr).add j) = some u) := World.news_of_block (heap_alloc_new w2 _)
    have s3 : Hid (∀ u ∈ ([Value.pointer (some ⟨pb, 0, none⟩), .pointer (some ya), .string s] : List Value), u.oneCell' = true) := by
      show ∀ u ∈ _, _
      intro u hu; simp at hu; rcases hu with rfl | rfl | rfl <;> rfl
    have s4 : Hid (n + 1 ≤ maxLen) := by show _ ≤ _; unfold maxLen; omega
    have s5 : Hid ((n + 1) * 32 ≤ 140737488355328) := hn
    have s6 : Hid (b + 1 ≤ ((w2.alloc (Obj.cells #[.pointer (some ⟨pb, 0, none⟩), .pointer (some ya), .string s] 44)).drew).heap.size) := by show _ ≤ _; simp; omega
    have s8 := hide (fun (w5 : World) (g cap : Nat) (hg : ((w2.alloc (Obj.cells #[.pointer (some ⟨pb, 0, none⟩), .pointer (some ya), .string s] 44)).drew).grownBy w5 (Value.slice ap n cp).ownBlock) (hown : w5.ownsRow (b + 1) 44 3 (.slice (some ⟨g, 0, none⟩) (n + 1) cap) (n + 1) (xs ++ [Value.pointer (some ⟨pb, 0, none⟩), .pointer (some ya), .string s])) => WIn.add (W := (w2.alloc (Obj.cells #[.pointer (some ⟨pb, 0, none⟩), .pointer (some ya), .string s] 44)).drew) hblk hrow (fun k hk => (((Kept.refl [] w2).alloc _).drew).block k hk (by simp)) (((Kept.refl [] w2).alloc _).drew).size rfl rfl rfl hg hown)
    have HB := hide hB2
    clear hb2 hB1 x3 xf3 hy hbx1 h hbx2 h2 hrow hblk hB2
    go_wp2_with fail
    go_region_law (refine step_append_lies _ rfl (.tmp 46) (.tmp 52) 29 rfl (b + 1) 44 i0 (.agg #[.pointer none, .pointer none, .string { data := #[] }]) 3 32 Tryz.underlying29 hi hz0 hz1 hz2 rfl (by decide) (Value.slice ap n cp) n xs (by simp [Act.eval]) (unhide s1) ⟨w2.heap.size, 0, none⟩ 1 1 [Value.pointer (some ⟨pb, 0, none⟩), .pointer (some ya), .string s] (by simp [Act.eval]) rfl (unhide s2) (unhide s3) (by decide) (unhide s4) (unhide s5) (unhide s6) _ rfl ?_; intro g cap w5 hown5 hg5 hat5 hlt5; obtain ⟨e1, e2, e3⟩ := unhide s8 w5 g cap hg5 hown5; obtain ⟨z0, zf0⟩ := block_cells e3 0)
    all_goals
      clear s1 s2 s3 s4 s5 s6 s8
      go_wp2_with fail
      go_ret
      refine ⟨rfl, _, by rw [hr]; exact e1, ?_⟩
      exact ((Kept.refl _ w).of_below (unhide HB)).step e2 (fun x hx => .inl hx)
end Go.Proofs.YtfdahfdaodbjbaaGreat

namespace Go.Proofs.YtfdahfdaodbjbaaGreat
open Go.RowKit

set_option maxRecDepth 100000 in
set_option maxHeartbeats 4000000 in
theorem law_step1 (w : World) (b n : Nat) (psv : Value) (a bb : Int) (s t u : ByteArray) (at_ : Option Addr) (nt ct : Nat) (h : WIn w b psv n) (hs : s.size ≤ maxLen) (hn : (n + 1) * 32 ≤ 140737488355328) :
    Calls Tryz.prog 8 #[.pointer (some ⟨b, 0, none⟩), .agg #[.int .i64 1, .int .i64 a, .int .i64 bb, .string s, .string t, .string u, .slice at_ nt ct]] w (LdPost w b n psv s) := by
  have b0 := (Below.refl w.heap.size w).alloc (Nat.le_refl _) (.cells #[.int .i64 1, .int .i64 a, .int .i64 bb, .string s, .string t, .string u, .slice at_ nt ct] 26)
  have h0 := h.below b0
  clear h
  go_enter Tryz.func8, Tryz.ntmps8
  go_wp2_with fail
  refine (law_load _ b n psv 1 a bb s t u at_ nt ct h0 hs hn).mono ?_
  rintro e w1 ⟨rfl, psv', hW, hK⟩
  have HK := hide (((Kept.refl (b :: psv.ownBlock.toList) w).alloc _).step hK (fun x hx => .inl hx))
  have HW := hide hW
  clear hK hW h0 b0
  go_wp2_with fail
  go_ret
  exact ⟨rfl, psv', unhide HW, unhide HK⟩

set_option maxRecDepth 100000 in
set_option maxHeartbeats 4000000 in
theorem law_step0 (w : World) (b : Nat) (a bb : Int) (s t u : ByteArray) (at_ : Option Addr) (nt ct : Nat) :
    Calls Tryz.prog 8 #[.pointer (some ⟨b, 0, none⟩), .agg #[.int .i64 0, .int .i64 a, .int .i64 bb, .string s, .string t, .string u, .slice at_ nt ct]] w fun e w' => e = .returned (.bool true) ∧ Below w.heap.size w w' := by
  have b0 := (Below.refl w.heap.size w).alloc (Nat.le_refl _) (.cells #[.int .i64 0, .int .i64 a, .int .i64 bb, .string s, .string t, .string u, .slice at_ nt ct] 26)
  go_enter Tryz.func8, Tryz.ntmps8
  go_wp2_with fail
  go_ret
  exact ⟨rfl, b0⟩

set_option maxRecDepth 100000 in
set_option maxHeartbeats 4000000 in
theorem law_looks (w : World) (b : Nat) (psv : Value) (hb : w.heap[b]? = some (.cells #[psv, .slice none 0 0, .slice none 0 0, .slice none 0 0] 36 (0, 0))) :
    Calls Tryz.prog 9 #[.pointer (some ⟨b, 1, none⟩)] w fun e w' => e = .returned (.bool true) ∧ w' = w := by
  obtain ⟨x1, xf1⟩ := block_cells hb 1
  obtain ⟨x2, xf2⟩ := block_cells hb 2
  obtain ⟨x3, xf3⟩ := block_cells hb 3
  clear hb
  go_enter Tryz.func9, Tryz.ntmps9
  go_wp2_with fail
  go_loop [3, 4] (fun ok i => ok = .bool true ∧ i = .int .i64 0) (fun _ _ => 0)
  case atStart => exact ⟨rfl, rfl⟩
  case round =>
    obtain ⟨rfl, rfl⟩ := hrel
    go_wp2_with fail
    go_loop [3, 6] (fun ok i => ok = .bool true ∧ i = .int .i64 0) (fun _ _ => 0)
    case atStart => exact ⟨rfl, rfl⟩
    case round =>
      obtain ⟨rfl, rfl⟩ := hrel
      go_wp2_with fail
      go_loop [3, 8] (fun ok i => ok = .bool true ∧ i = .int .i64 0) (fun _ _ => 0)
      case atStart => exact ⟨rfl, rfl⟩
      case round =>
        obtain ⟨rfl, rfl⟩ := hrel
        go_wp2_with fail
        go_ret
        exact ⟨rfl, rfl⟩
end Go.Proofs.YtfdahfdaodbjbaaGreat
