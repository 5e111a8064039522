/-
  The law's load: one Load of the program and one of the document's answer, side by side: always true; the list of programs grows by one where the text is taken.
  The law's step at a Load, and at a step of no kind; a book in which nothing stands.
  The law's plays, where only Loads are played: true at every script.
-/
import Derived.Test.YtldkpahaocjdpaaGreatLoadsT47
import Derived.Test.YtldkpahaocjdpaaGreatLoadsT48
namespace Go.Proofs.YtldkpahaocjdpaaGreat
open Go.RowKit

theorem infoProg : (Tryz.prog.info? 112).map (fun i => (i.zero, i.size, i.bytes)) = some (some (.agg #[.pointer none, .pointer none, .string { data := #[] }]), 3, 32) := by kernel_rfl

/-- The law's world in its block: its programs; nothing in its book. -/
structure WIn (w : World) (b : Nat) (psv : Value) (n : Nat) : Prop where
  blk : w.heap[b]? = some (.cells #[psv, .slice none 0 0, .slice none 0 0, .slice none 0 0] 69 (0, 0))
  row : ∃ xs, w.ownsRow (b + 1) 112 3 psv n xs

theorem WIn.below {w w1 : World} {b n : Nat} {psv : Value} (h : WIn w b psv n) (hb : Below w.heap.size w w1) : WIn w1 b psv n := by
  obtain ⟨xs, hr⟩ := h.row
  exact ⟨(hb.block b (Array.getElem?_eq_some_iff.1 h.blk).1).trans h.blk, xs, own_below hr hb (fun g e => (hr.lt g e).2)⟩
theorem WIn.lt {w : World} {b n : Nat} {psv : Value} (h : WIn w b psv n) : b < w.heap.size := (Array.getElem?_eq_some_iff.1 h.blk).1

/-- One program more. -/
theorem WIn.add {w W w5 : World} {b n : Nat} {psv : Value} {xs : List Value} (hbk : w.heap[b]? = some (.cells #[psv, .slice none 0 0, .slice none 0 0, .slice none 0 0] 69 (0, 0))) (hrow : w.ownsRow (b + 1) 112 3 psv n xs) (hW : ∀ k, k < w.heap.size → W.heap[k]? = w.heap[k]?) (hS : w.heap.size ≤ W.heap.size) (hos : W.os = w.os) (htp : W.tape = w.tape) (hou : W.output = w.output) (hg : W.grownBy w5 psv.ownBlock) {v' : Value} {ys : List Value} (hown : w5.ownsRow (b + 1) 112 3 v' (n + 1) ys) :
    WIn (w5.setCell ⟨b, 0, none⟩ v') b v' (n + 1) ∧ Kept (b :: psv.ownBlock.toList) w (w5.setCell ⟨b, 0, none⟩ v') ∧ w5.heap[b]? = some (.cells #[psv, .slice none 0 0, .slice none 0 0, .slice none 0 0] 69 (0, 0)) := by
  have hlt := (Array.getElem?_eq_some_iff.1 hbk).1
  have hs5 := hg.size
  have hb5 : w5.heap[b]? = some (.cells #[psv, .slice none 0 0, .slice none 0 0, .slice none 0 0] 69 (0, 0)) := by
    rw [hg.block b (by omega) (fun e => by have := (hrow.lt b e.symm).1; omega), hW b hlt]
    exact hbk
  refine ⟨⟨?_, ys, ownsRow_setCell_below hown (by simp) _⟩, ⟨hg.os.trans hos, hg.tape.trans htp, hg.output.trans hou, by simp; omega, fun k hk hn => ?_⟩, hb5⟩
  · unfold World.setCell
    simp only [Array.getElem?_modify, if_true, hb5]
    rfl
  · simp at hn
    rw [Below.heap_setCell _ _ _ _ (by simp; omega), hg.block k (by omega) (fun e => hn.2 e.symm), hW k hk]

def LdPost (w : World) (b n : Nat) (psv : Value) (s : ByteArray) (e : Ending) (w' : World) : Prop := e = .returned (.bool true) ∧ ∃ psv', WIn w' b psv' (n + if (refLoad s).1 then 1 else 0) ∧ Kept (b :: psv.ownBlock.toList) w w'

set_option maxRecDepth 100000 in
set_option maxHeartbeats 8000000 in
theorem law_load (w : World) (b n : Nat) (psv : Value) (kd a bb : Int) (s t u : ByteArray) (at_ : Option Addr) (nt ct : Nat) (h : WIn w b psv n) (hs : s.size ≤ maxLen) (hn : (n + 1) * 32 ≤ 140737488355328) :
    Calls Tryz.prog 48 #[.pointer (some ⟨b, 0, none⟩), .agg #[.int .i64 kd, .int .i64 a, .int .i64 bb, .string s, .string t, .string u, .slice at_ nt ct]] w (LdPost w b n psv s) := by
  obtain ⟨i0, hi, hz0, hz1, hz2⟩ := info_parts infoProg
  have b0 := (Below.refl w.heap.size w).alloc (Nat.le_refl _) (.cells #[.int .i64 kd, .int .i64 a, .int .i64 bb, .string s, .string t, .string u, .slice at_ nt ct] 26)
  have hbx : (w.alloc (.cells #[.int .i64 kd, .int .i64 a, .int .i64 bb, .string s, .string t, .string u, .slice at_ nt ct] 26)).heap[w.heap.size]? = _ := heap_alloc_new w _
  have hP := pload_any (w.alloc (.cells #[.int .i64 kd, .int .i64 a, .int .i64 bb, .string s, .string t, .string u, .slice at_ nt ct] 26)) s hs
  rw [load_eq] at hP
  have hlt := h.lt
  go_enter Tryz.func48, Tryz.ntmps48
  go_wp2_with fail
  refine hP.mono ?_
  rintro e w1 ⟨hb1, hno, hyes⟩
  have hbx1 := (hb1.block w.heap.size (by simp)).trans hbx
  obtain ⟨x3, xf3⟩ := block_cells hbx1 3
  have hz1' := hb1.size
  rw [World.size_alloc] at hz1'
  have hB1 := b0.trans (hb1.mono (by simp))
  clear hP hbx hb1 b0
  cases hr : (refLoad s).1 with
  | false =>
    have he := hno hr
    subst he
    clear hno hyes
    go_wp2_with fail
    refine (refLoad_any s w1).mono ?_
    rintro e w2 ⟨y, rfl, hy, hb2⟩
    have hyn : y = none := by rw [hr] at hy; cases y with | none => rfl | some _ => cases hy
    subst hyn
    have HB := hide (hB1.trans (hb2.mono (by omega)))
    have HH := hide h
    clear hb2 hB1 x3 xf3 hy hbx1 h
    go_wp2_with fail
    go_ret
    have HR := hr
    refine ⟨rfl, psv, ?_, ?_⟩
    · rw [HR]; exact (unhide HH).below (unhide HB)
    · exact (Kept.refl _ _).of_below (unhide HB)
  | true =>
    obtain ⟨pb, rs, he, _, _⟩ := hyes hr
    subst he
    clear hno hyes
    go_wp2_with fail
    refine (refLoad_any s w1).mono ?_
    rintro e w2 ⟨y, rfl, hy, hb2⟩
    obtain ⟨ya, rfl⟩ : ∃ ya, y = some ya := by rw [hr] at hy; cases y with | none => cases hy | some z => exact ⟨z, rfl⟩
    have hbx2 := (hb2.block w.heap.size (by omega)).trans hbx1
    have hz2' := hb2.size
    have hB2 := hB1.trans (hb2.mono (by omega))
    have h2 := h.below hB2
    obtain ⟨xs, hrow⟩ := h2.row
    obtain ⟨ap, cp, rfl⟩ := own_slice hrow
    have hblk := h2.blk
    obtain ⟨y3, yf3⟩ := block_cells hbx2 3
    obtain ⟨p0, pf0⟩ := block_cells hblk 0
    have hblt := h2.lt
    have s1 : Hid (((w2.alloc (Obj.cells #[.pointer (some ⟨pb, 0, none⟩), .pointer (some ya), .string s] 112)).drew).ownsRow (b + 1) 112 3 (.slice ap n cp) n xs) := hrow.alloc _
    have s2 : Hid (∀ j u, ([Value.pointer (some ⟨pb, 0, none⟩), .pointer (some ya), .string s] : List Value)[j]? = some u → ((w2.alloc (Obj.cells #[.pointer (some ⟨pb, 0, none⟩), .pointer (some ya), .string s] 112)).drew).cell? ((⟨w2.heap.size, 0, none⟩ : Addr).add j) = some u) := World.news_of_block (heap_alloc_new w2 _)
    have s3 : Hid (∀ u ∈ ([Value.pointer (some ⟨pb, 0, none⟩), .pointer (some ya), .string s] : List Value), u.oneCell' = true) := by
      show ∀ u ∈ _, _
      intro u hu; simp at hu; rcases hu with rfl | rfl | rfl <;> rfl
    have s4 : Hid (n + 1 ≤ maxLen) := by show _ ≤ _; unfold maxLen; omega
    have s5 : Hid ((n + 1) * 32 ≤ 140737488355328) := hn
    have s6 : Hid (b + 1 ≤ ((w2.alloc (Obj.cells #[.pointer (some ⟨pb, 0, none⟩), .pointer (some ya), .string s] 112)).drew).heap.size) := by show _ ≤ _; simp; omega
    have s8 := hide (fun (w5 : World) (g cap : Nat) (hg : ((w2.alloc (Obj.cells #[.pointer (some ⟨pb, 0, none⟩), .pointer (some ya), .string s] 112)).drew).grownBy w5 (Value.slice ap n cp).ownBlock) (hown : w5.ownsRow (b + 1) 112 3 (.slice (some ⟨g, 0, none⟩) (n + 1) cap) (n + 1) (xs ++ [Value.pointer (some ⟨pb, 0, none⟩), .pointer (some ya), .string s])) => WIn.add (W := (w2.alloc (Obj.cells #[.pointer (some ⟨pb, 0, none⟩), .pointer (some ya), .string s] 112)).drew) hblk hrow (fun k hk => (((Kept.refl [] w2).alloc _).drew).block k hk (by simp)) (((Kept.refl [] w2).alloc _).drew).size rfl rfl rfl hg hown)
    have HB := hide hB2
    clear hb2 hB1 x3 xf3 hy hbx1 h hbx2 h2 hrow hblk hB2
    go_wp2_with fail
    go_region_law (refine step_append_lies _ rfl (.tmp 46) (.tmp 52) 62 rfl (b + 1) 112 i0 (.agg #[.pointer none, .pointer none, .string { data := #[] }]) 3 32 Tryz.underlying62 hi hz0 hz1 hz2 rfl (by decide) (Value.slice ap n cp) n xs (by simp [Act.eval]) (unhide s1) ⟨w2.heap.size, 0, none⟩ 1 1 [Value.pointer (some ⟨pb, 0, none⟩), .pointer (some ya), .string s] (by simp [Act.eval]) rfl (unhide s2) (unhide s3) (by decide) (unhide s4) (unhide s5) (unhide s6) _ rfl ?_; intro g cap w5 hown5 hg5 hat5 hlt5; obtain ⟨e1, e2, e3⟩ := unhide s8 w5 g cap hg5 hown5; obtain ⟨z0, zf0⟩ := block_cells e3 0)
    all_goals
      clear s1 s2 s3 s4 s5 s6 s8
      go_wp2_with fail
      go_ret
      refine ⟨rfl, _, by rw [hr]; exact e1, ?_⟩
      exact ((Kept.refl _ w).of_below (unhide HB)).step e2 (fun x hx => .inl hx)
end Go.Proofs.YtldkpahaocjdpaaGreat

namespace Go.Proofs.YtldkpahaocjdpaaGreat
open Go.RowKit

set_option maxRecDepth 100000 in
set_option maxHeartbeats 4000000 in
theorem law_step1 (w : World) (b n : Nat) (psv : Value) (a bb : Int) (s t u : ByteArray) (at_ : Option Addr) (nt ct : Nat) (h : WIn w b psv n) (hs : s.size ≤ maxLen) (hn : (n + 1) * 32 ≤ 140737488355328) :
    Calls Tryz.prog 32 #[.pointer (some ⟨b, 0, none⟩), .agg #[.int .i64 1, .int .i64 a, .int .i64 bb, .string s, .string t, .string u, .slice at_ nt ct]] w (LdPost w b n psv s) := by
  have b0 := (Below.refl w.heap.size w).alloc (Nat.le_refl _) (.cells #[.int .i64 1, .int .i64 a, .int .i64 bb, .string s, .string t, .string u, .slice at_ nt ct] 26)
  have h0 := h.below b0
  clear h
  go_enter Tryz.func32, Tryz.ntmps32
  go_wp2_with fail
  refine (law_load _ b n psv 1 a bb s t u at_ nt ct h0 hs hn).mono ?_
  rintro e w1 ⟨rfl, psv', hW, hK⟩
  have HK := hide (((Kept.refl (b :: psv.ownBlock.toList) w).alloc _).step hK (fun x hx => .inl hx))
  have HW := hide hW
  clear hK hW h0 b0
  go_wp2_with fail
  go_ret
  exact ⟨rfl, psv', unhide HW, unhide HK⟩

set_option maxRecDepth 100000 in
set_option maxHeartbeats 4000000 in
theorem law_step0 (w : World) (b : Nat) (a bb : Int) (s t u : ByteArray) (at_ : Option Addr) (nt ct : Nat) :
    Calls Tryz.prog 32 #[.pointer (some ⟨b, 0, none⟩), .agg #[.int .i64 0, .int .i64 a, .int .i64 bb, .string s, .string t, .string u, .slice at_ nt ct]] w fun e w' => e = .returned (.bool true) ∧ Below w.heap.size w w' := by
  have b0 := (Below.refl w.heap.size w).alloc (Nat.le_refl _) (.cells #[.int .i64 0, .int .i64 a, .int .i64 bb, .string s, .string t, .string u, .slice at_ nt ct] 26)
  go_enter Tryz.func32, Tryz.ntmps32
  go_wp2_with fail
  go_ret
  exact ⟨rfl, b0⟩

set_option maxRecDepth 100000 in
set_option maxHeartbeats 4000000 in
theorem law_looks (w : World) (b : Nat) (psv : Value) (hb : w.heap[b]? = some (.cells #[psv, .slice none 0 0, .slice none 0 0, .slice none 0 0] 69 (0, 0))) :
    Calls Tryz.prog 33 #[.pointer (some ⟨b, 1, none⟩)] w fun e w' => e = .returned (.bool true) ∧ w' = w := by
  obtain ⟨x1, xf1⟩ := block_cells hb 1
  obtain ⟨x2, xf2⟩ := block_cells hb 2
  obtain ⟨x3, xf3⟩ := block_cells hb 3
  clear hb
  go_enter Tryz.func33, Tryz.ntmps33
  go_wp2_with fail
  go_loop [3, 4] (fun ok i => ok = .bool true ∧ i = .int .i64 0) (fun _ _ => 0)
  case atStart => exact ⟨rfl, rfl⟩
  case round =>
    obtain ⟨rfl, rfl⟩ := hrel
    go_wp2_with fail
    go_loop [3, 6] (fun ok i => ok = .bool true ∧ i = .int .i64 0) (fun _ _ => 0)
    case atStart => exact ⟨rfl, rfl⟩
    case round =>
      obtain ⟨rfl, rfl⟩ := hrel
      go_wp2_with fail
      go_loop [3, 8] (fun ok i => ok = .bool true ∧ i = .int .i64 0) (fun _ _ => 0)
      case atStart => exact ⟨rfl, rfl⟩
      case round =>
        obtain ⟨rfl, rfl⟩ := hrel
        go_wp2_with fail
        go_ret
        exact ⟨rfl, rfl⟩
end Go.Proofs.YtldkpahaocjdpaaGreat

namespace Go.Proofs.YtldkpahaocjdpaaGreat
open Go.RowKit

/-- One step of a script, as it lies in memory. -/
structure OpV where
  kd : Int
  a : Int
  b : Int
  s : ByteArray
  t : ByteArray
  u : ByteArray
  at_ : Option Addr
  nt : Nat
  ct : Nat

/-- The script's cells. -/
structure Scr (w : World) (sa : Option Addr) (len : Nat) (O : Nat → OpV) : Prop where
  el : ∀ i, i < len → ∃ g off, sa = some ⟨g, off, none⟩ ∧ g < w.heap.size ∧ w.cell? ⟨g, off + i * 7, none⟩ = some (.int .i64 (O i).kd) ∧ w.cell? ⟨g, off + i * 7 + 1, none⟩ = some (.int .i64 (O i).a) ∧ w.cell? ⟨g, off + i * 7 + 2, none⟩ = some (.int .i64 (O i).b) ∧ w.cell? ⟨g, off + i * 7 + 3, none⟩ = some (.string (O i).s) ∧ w.cell? ⟨g, off + i * 7 + 4, none⟩ = some (.string (O i).t) ∧ w.cell? ⟨g, off + i * 7 + 5, none⟩ = some (.string (O i).u) ∧ w.cell? ⟨g, off + i * 7 + 6, none⟩ = some (.slice (O i).at_ (O i).nt (O i).ct) ∧ (O i).s.size ≤ maxLen

theorem Scr.below {w w1 : World} {sa : Option Addr} {len : Nat} {O : Nat → OpV} (h : Scr w sa len O) (hb : Below w.heap.size w w1) : Scr w1 sa len O :=
  ⟨fun i hi => by
    obtain ⟨g, off, h1, h2, c0, c1, c2, c3, c4, c5, c6, h3⟩ := h.el i hi
    have hz := hb.size
    refine ⟨g, off, h1, by omega, ?_, ?_, ?_, ?_, ?_, ?_, ?_, h3⟩
    all_goals (rw [hb.cell (by simpa using h2)]; assumption)⟩

def exText : ByteArray := { data := #[101, 100, 103, 101, 40, 97, 44, 98, 41, 46, 32, 101, 100, 103, 101, 40, 98, 44, 99, 41, 46, 32, 112, 97, 116, 104, 40, 88, 44, 89, 41, 32, 58, 45, 32, 101, 100, 103, 101, 40, 88, 44, 89, 41, 46, 32, 112, 97, 116, 104, 40, 88, 44, 90, 41, 32, 58, 45, 32, 101, 100, 103, 101, 40, 88, 44, 89, 41, 44, 32, 112, 97, 116, 104, 40, 89, 44, 90, 41, 46, 32, 102, 97, 114, 40, 88, 41, 32, 58, 45, 32, 112, 97, 116, 104, 40, 97, 44, 88, 41, 44, 32, 110, 111, 116, 32, 101, 100, 103, 101, 40, 97, 44, 88, 41, 46] }

set_option maxRecDepth 100000 in
theorem ex_ok : (refLoad exText).1 = true := by decide +kernel
set_option maxRecDepth 100000 in
theorem ex_size : exText.size ≤ maxLen := by decide +kernel

set_option maxRecDepth 100000 in
set_option maxHeartbeats 8000000 in
theorem plays_any (w : World) (sa : Option Addr) (len cap : Nat) (O : Nat → OpV) (kb : Nat) (h : Scr w sa len O) (hl : len * 96 ≤ 140737488355328) (hkc0 : w.cell? ⟨kb, 0, none⟩ = some (.int .i64 1)) (hkb : kb < w.heap.size) :
    Calls Tryz.prog 15 #[.agg #[.int .i64 0, .int .i64 0, .int .i64 0, .string { data := #[] }, .string { data := #[] }, .string { data := #[] }, .slice none 0 0], .slice sa len cap, .slice (some ⟨kb, 0, none⟩) 1 1] w fun e w' => e = .returned (.bool true) ∧ Below w.heap.size w w' := by
  have b0 := ((Below.refl w.heap.size w).alloc (Nat.le_refl _) (.cells #[.int .i64 0, .int .i64 0, .int .i64 0, .string { data := #[] }, .string { data := #[] }, .string { data := #[] }, .slice none 0 0] 26)).alloc (by simp) (.cells #[.slice none 0 0, .slice none 0 0, .slice none 0 0, .slice none 0 0] 69)
  have hW0 : WIn ((w.alloc (.cells #[.int .i64 0, .int .i64 0, .int .i64 0, .string { data := #[] }, .string { data := #[] }, .string { data := #[] }, .slice none 0 0] 26)).alloc (.cells #[.slice none 0 0, .slice none 0 0, .slice none 0 0, .slice none 0 0] 69)) (w.heap.size + 1) (.slice none 0 0) 0 := by
    refine ⟨?_, [], World.ownsRow_nil _ _ _ _⟩
    have := heap_alloc_new (w.alloc (.cells #[.int .i64 0, .int .i64 0, .int .i64 0, .string { data := #[] }, .string { data := #[] }, .string { data := #[] }, .slice none 0 0] 26)) (.cells #[.slice none 0 0, .slice none 0 0, .slice none 0 0, .slice none 0 0] 69)
    rw [World.size_alloc] at this
    exact this
  have hbx : ((w.alloc (.cells #[.int .i64 0, .int .i64 0, .int .i64 0, .string { data := #[] }, .string { data := #[] }, .string { data := #[] }, .slice none 0 0] 26)).alloc (.cells #[.slice none 0 0, .slice none 0 0, .slice none 0 0, .slice none 0 0] 69)).heap[w.heap.size]? = some (.cells #[.int .i64 0, .int .i64 0, .int .i64 0, .string { data := #[] }, .string { data := #[] }, .string { data := #[] }, .slice none 0 0] 26 (0, 0)) := by
    rw [Below.heap_alloc _ _ _ (by simp)]
    exact heap_alloc_new w _
  have hS := law_step1 ((w.alloc (.cells #[.int .i64 0, .int .i64 0, .int .i64 0, .string { data := #[] }, .string { data := #[] }, .string { data := #[] }, .slice none 0 0] 26)).alloc (.cells #[.slice none 0 0, .slice none 0 0, .slice none 0 0, .slice none 0 0] 69)) (w.heap.size + 1) 0 (.slice none 0 0) 0 0 exText { data := #[] } { data := #[] } none 0 0 hW0 ex_size (by omega)
  unfold exText at hS
  clear hW0
  go_enter Tryz.func15, Tryz.ntmps15
  go_wp2_with fail
  refine hS.mono ?_
  rintro e w1 ⟨rfl, psv1, hW1, hK1⟩
  have hok : (refLoad { data := #[101, 100, 103, 101, 40, 97, 44, 98, 41, 46, 32, 101, 100, 103, 101, 40, 98, 44, 99, 41, 46, 32, 112, 97, 116, 104, 40, 88, 44, 89, 41, 32, 58, 45, 32, 101, 100, 103, 101, 40, 88, 44, 89, 41, 46, 32, 112, 97, 116, 104, 40, 88, 44, 90, 41, 32, 58, 45, 32, 101, 100, 103, 101, 40, 88, 44, 89, 41, 44, 32, 112, 97, 116, 104, 40, 89, 44, 90, 41, 46, 32, 102, 97, 114, 40, 88, 41, 32, 58, 45, 32, 112, 97, 116, 104, 40, 97, 44, 88, 41, 44, 32, 110, 111, 116, 32, 101, 100, 103, 101, 40, 97, 44, 88, 41, 46] }).1 = true := ex_ok
  rw [hok] at hW1
  have hB1 : Below w.heap.size w w1 := below_kept b0 hK1 (by simp; omega) (by simp [Value.ownBlock])
  have hbx1 := cells_keptT hbx hK1 (by simp [Value.ownBlock])
  have hz1 := hK1.size
  simp at hz1
  obtain ⟨xs1, hrow1⟩ := hW1.row
  obtain ⟨ap1, cp1, rfl⟩ := own_slice hrow1
  obtain ⟨p0, pf0⟩ := block_cells hW1.blk 0
  obtain ⟨y0, yf0⟩ := block_cells hbx1 0
  obtain ⟨y1, yf1⟩ := block_cells hbx1 1
  obtain ⟨y2, yf2⟩ := block_cells hbx1 2
  obtain ⟨y3, yf3⟩ := block_cells hbx1 3
  obtain ⟨y4, yf4⟩ := block_cells hbx1 4
  obtain ⟨y5, yf5⟩ := block_cells hbx1 5
  obtain ⟨y6, yf6⟩ := block_cells hbx1 6
  clear hS hbx hK1 b0 hok hrow1
  go_wp2_with fail
  refine (law_step0 w1 (w.heap.size + 1) 0 0 { data := #[] } { data := #[] } { data := #[] } none 0 0).mono ?_
  rintro e w2 ⟨rfl, hb2⟩
  have hW2 := hW1.below hb2
  have hB2 := hB1.trans (hb2.mono (by omega))
  clear hbx1 hB1 hW1 p0 pf0 y0 y1 y2 y3 y4 y5 y6 yf0 yf1 yf2 yf3 yf4 yf5 yf6 hb2
  have HS := hide h
  clear h
  go_wp2_with fail
  go_loopg [9] len (fun gg i wr => ∃ (k n : Nat) (psv : Value), k ≤ len ∧ gg = len - k ∧ i = .int .i64 k ∧ n ≤ k + 1 ∧ WIn wr (w.heap.size + 1) psv n ∧ Below w.heap.size w wr)
  case atStart => exact ⟨0, 1, _, Nat.zero_le _, rfl, rfl, by omega, hW2, hB2⟩
  case round =>
    clear hW2 hB2 hz1
    obtain ⟨k, n, psv, hk, hgk, rfl, hn, hW, hB⟩ := hrel
    by_cases hlk : k < len
    · obtain ⟨g, off, rfl, hgl0, _⟩ := (unhide HS).el k hlk
      have hli : (k : Int) < len := by omega
      have hO := hide ((unhide HS).el k hlk)
      go_wp2_with fail
      go_loopg [10, 11] 1 (fun gg v i wi => ((v = .bool false ∧ i = .int .i64 0 ∧ gg = 1) ∨ (v = .bool ((O k).kd == 1) ∧ i = .int .i64 1 ∧ gg = 0)) ∧ WIn wi (w.heap.size + 1) psv n ∧ Below w.heap.size w wi)
      case atStart => exact ⟨.inl ⟨rfl, rfl, rfl⟩, hW, hB⟩
      case round =>
        clear hW hB
        obtain ⟨hor, hW, hB⟩ := hrel
        obtain ⟨g', off', hga, hgl, c0, c1, c2, c3, c4, c5, c6, hs8⟩ := ((unhide HS).below hB).el k hlk
        injection hga with hga
        injection hga with h1 h2 _
        subst h1 h2
        have hkc : wr.cell? ⟨kb, 0, none⟩ = some (.int .i64 1) := (hB.cell (by simpa using hkb)).trans hkc0
        have hkz := hB.size
        have HW := hide hW
        have hwlt := hW.lt
        have hwb := hW.blk
        clear hW
        rcases hor with ⟨rfl, rfl, hg0⟩ | ⟨rfl, rfl, hg0⟩
        · clear hwb
          go_wp2_with fail
          go_quiet (fail)
          go_wp2_with fail
          go_roundg 0
          case measure => omega
          case rel => exact ⟨.inr ⟨rfl, rfl, rfl⟩, (unhide HW).below (below_drewN (Below.refl _ _) _), below_drewN hB _⟩
        · cases hkd : (O k).kd == 1 with
          | false =>
            clear hkd hwb
            go_wp2_with fail
            go_roundg (len - (k + 1))
            case measure => omega
            case rel => exact ⟨k + 1, n, psv, by omega, rfl, by go_num, by omega, unhide HW, hB⟩
          | true =>
            have hk1 : (O k).kd = 1 := by simpa using hkd
            rw [hk1] at c0
            clear hkd hwb
            go_wp2_with fail
            refine (law_step1 wr (w.heap.size + 1) n psv (O k).a (O k).b (O k).s (O k).t (O k).u (O k).at_ (O k).nt (O k).ct (unhide HW) hs8 (by omega)).mono ?_
            rintro e w3 ⟨rfl, psv3, hW3, hK3⟩
            obtain ⟨xs, hrow⟩ := (unhide HW).row
            have hB3 : Below w.heap.size w w3 := below_kept hB hK3 hkz (fun x hx => by
              rcases List.mem_cons.1 hx with rfl | hx
              · omega
              · have := (hrow.lt x (by simpa using hx)).1; omega)
            have hn3 : (n + if (refLoad (O k).s).1 then 1 else 0) ≤ k + 1 + 1 := by split <;> omega
            have hwb3 := hW3.blk
            have hwl3 := hW3.lt
            have HW3 := hide hW3
            clear hK3 hrow c0 c1 c2 c3 c4 c5 c6 hkc hB HW hW3
            generalize (n + if (refLoad (O k).s).1 then 1 else 0) = n3 at *
            go_wp2_with fail
            refine (law_looks w3 (w.heap.size + 1) psv3 hwb3).mono ?_
            rintro e w4 ⟨rfl, rfl⟩
            clear hwb3
            go_wp2_with fail
            go_roundg (len - (k + 1))
            case measure => omega
            case rel => exact ⟨k + 1, n3, psv3, by omega, rfl, by go_num, by omega, unhide HW3, hB3⟩
    · go_wp2_with fail
      go_ret
      exact ⟨rfl, hB⟩
end Go.Proofs.YtldkpahaocjdpaaGreat
