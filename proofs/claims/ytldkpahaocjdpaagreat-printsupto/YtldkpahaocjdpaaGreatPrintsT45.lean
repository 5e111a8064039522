/-
  The law's book.stratum: one entry more.
  The law's looks, over a book in which each entry holds its own mark.
-/
import Derived.Test.YtldkpahaocjdpaaGreatPrintsT44
import Derived.Deep.AppendLies
import Derived.Deep.RegionLaw
import Derived.Test.YtldkpahaocjdpaaGreatPrintsT18
import Derived.Test.YtldkpahaocjdpaaGreatPrintsT29
namespace Go.Proofs.YtldkpahaocjdpaaGreat
open Go.RowKit

theorem infoStrata : (Tryz.prog.info? 120).map (fun i => (i.zero, i.size, i.bytes)) = some (some (.agg #[.slice none 0 0, .slice none 0 0, .slice none 0 0, .slice none 0 0, .int .i64 0]), 5, 104) := by kernel_rfl

/-- The book behind one entry more. -/
theorem book_end {w w1 W w5 : World} {b j : Nat} {A A' : Array Value} {tB e : TypeId} {mk : Nat → List Value} {v : Value} {ms : List MB} {m : MB} {a' : Option Addr} {c' : Nat} (hblk : w1.heap[b]? = some (.cells A 69 (0, 0))) (hB : BookIn w1 (b + 1) tB e mk v ms) (hO : OwnIn w e (mk m.mark) m w1) (hW : Kept [] w1 W) (hg : W.grownBy w5 v.ownBlock) (hown : w5.ownsRow (b + 1) tB 5 (.slice a' (ms.length + 1) c') (ms.length + 1) (ms.flatMap MB.cells ++ m.cells)) (hat : v.ownBlock = (Value.slice a' (ms.length + 1) c').ownBlock ∨ ∀ g, (Value.slice a' (ms.length + 1) c').ownBlock = some g → W.heap.size ≤ g) (h1 : 69 ≠ tB) (h2 : 69 ≠ e) (h3 : tB ≠ e) (hA : A.setIfInBounds j (.slice a' (ms.length + 1) c') = A') :
    BookIn (w5.setCell ⟨b, j, none⟩ (.slice a' (ms.length + 1) c')) (b + 1) tB e mk (.slice a' (ms.length + 1) c') (ms ++ [m]) ∧ (w5.setCell ⟨b, j, none⟩ (.slice a' (ms.length + 1) c')).heap[b]? = some (.cells A' 69 (0, 0)) ∧ Kept (b :: (v.ownBlock.toList ++ m.l.ownBlock.toList)) w (w5.setCell ⟨b, j, none⟩ (.slice a' (ms.length + 1) c')) ∧ (∀ g ∈ (Value.slice a' (ms.length + 1) c').ownBlock.toList, g ∈ v.ownBlock.toList ∨ w.heap.size ≤ g) ∧ w5.heap[b]? = some (.cells A 69 (0, 0)) := by
  have k5 : Kept v.ownBlock.toList w1 w5 := (hW.mono (by simp)).trans (Kept.of_grown hg)
  have hb5 : w5.heap[b]? = some (.cells A 69 (0, 0)) := cells_keptT hblk k5 (fun x hx => .inr (own_notT hB.row (Ne.symm h1) x hx))
  have k3 : Kept (b :: v.ownBlock.toList) w1 (w5.setCell ⟨b, j, none⟩ (.slice a' (ms.length + 1) c')) := Kept.setCell (p := ⟨b, j, none⟩) (k5.mono fun x hx => .inl (List.mem_cons_of_mem _ hx)) (.inl List.mem_cons_self) _
  have hs1 := hO.kept.size
  have hsW := hW.size
  refine ⟨hB.add hO.mark k3 (ownsRow_setCell_below (a := ⟨b, j, none⟩) hown (by simp) _) (notT_of hblk h2) h3, ?_, ?_, fun g hgm => ?_, hb5⟩
  · rw [heap_setCell_same _ _ _ _ _ _ hb5, hA]
  · refine (hO.kept.mono fun x hx => .inl (List.mem_cons_of_mem _ (List.mem_append_right _ hx))).step k3 fun x hx => .inl ?_
    rcases List.mem_cons.1 hx with rfl | hx
    · exact List.mem_cons_self
    · exact List.mem_cons_of_mem _ (List.mem_append_left _ hx)
  · rcases hat with h | h
    · rw [← h] at hgm; exact .inl hgm
    · exact .inr (by have := h g (by simpa using hgm); omega)

/-- What book.stratum (and its likes) leave. -/
structure StIn (w : World) (b : Nat) (A' : Value → Array Value) (tB e : TypeId) (mk : Nat → List Value) (v : Value) (ms : List MB) (lv : Value) (v' : Value) (m : MB) (w' : World) : Prop where
  blk : w'.heap[b]? = some (.cells (A' v') 69 (0, 0))
  book : BookIn w' (b + 1) tB e mk v' (ms ++ [m])
  kept : Kept (b :: (v.ownBlock.toList ++ lv.ownBlock.toList)) w w'
  far : ∀ g ∈ m.blocks, g ∈ lv.ownBlock.toList ∨ w.heap.size ≤ g
  row : ∀ g ∈ v'.ownBlock.toList, g ∈ v.ownBlock.toList ∨ w.heap.size ≤ g

def StPost (w : World) (b : Nat) (A' : Value → Array Value) (tB e0 : TypeId) (mk : Nat → List Value) (v : Value) (ms : List MB) (lv : Value) : Ending → World → Prop := fun e w' => e = .returned (.tuple #[]) ∧ ∃ v' m, StIn w b A' tB e0 mk v ms lv v' m w'

set_option maxRecDepth 100000 in
set_option maxHeartbeats 8000000 in
theorem stratum_any (w : World) (b : Nat) (psv bv tv sv : Value) (ms : List MB) (a : Option Addr) (n cap : Nat) (xs : List Value) (hblk : w.heap[b]? = some (.cells #[psv, bv, tv, sv] 69 (0, 0))) (hS : BookIn w (b + 1) 120 185 markE sv ms) (h : w.ownsRow 0 185 3 (.slice a n cap) n xs) (hn : n ≤ 1000) (hfree : ∀ m ∈ ms, ∀ g ∈ (Value.slice a n cap).ownBlock.toList, g ∉ m.blocks) (hlen : ms.length ≤ 100000000) :
    Calls Tryz.prog 87 #[.pointer (some ⟨b, 1, none⟩), .slice a n cap] w (StPost w b (fun v' => #[psv, bv, tv, v']) 120 185 markE sv ms (.slice a n cap)) := by
  obtain ⟨i0, hi, hz0, hz1, hz2⟩ := info_parts infoStrata
  obtain ⟨ap, cp, rfl⟩ := own_slice hS.row
  obtain ⟨x3, xf3⟩ := block_cells hblk 3
  have HBK := hide hblk
  have HS := hide hS
  have HF := hide hfree
  have HH := hide h
  clear hS hfree h hblk
  go_enter Tryz.func87, Tryz.ntmps87
  go_wp2_with fail
  refine (ownStrata_any w a n cap ms.length xs (unhide HH) hn (by omega)).mono ?_
  rintro e w1 ⟨a1, a2, a3, c1, c2, c3, rfl, hO⟩
  have hblk1 : w1.heap[b]? = some (.cells #[psv, bv, tv, .slice ap ms.length cp] 69 (0, 0)) := cells_keptT (unhide HBK) hO.kept (fun x hx => .inr (own_notT (unhide HH) (by decide) x hx))
  have hS1 := (unhide HS).kept hO.kept (fun x hx => .inr (own_notT (unhide HH) (by decide) x hx)) (fun x hx => .inr (fun m hm => unhide HF m hm x hx))
  have hrow := hS1.row
  obtain ⟨y3, yf3⟩ := block_cells hblk1 3
  have hblt := (Array.getElem?_eq_some_iff.1 hblk1).1
  have kW : Kept [] w1 (((w1.alloc (Obj.cells #[.slice a n cap, .slice a1 (n + 1) c1, .slice a2 (n + 2) c2, .slice a3 (n + 64) c3, .int .i64 (ms.length : Nat)] 120)).alloc (Obj.cells #[.slice a n cap, .slice a1 (n + 1) c1, .slice a2 (n + 2) c2, .slice a3 (n + 64) c3, .int .i64 (ms.length : Nat)] 120)).drew) := (((Kept.refl [] w1).alloc _).alloc _).drew
  have s1 : Hid ((((w1.alloc (Obj.cells #[.slice a n cap, .slice a1 (n + 1) c1, .slice a2 (n + 2) c2, .slice a3 (n + 64) c3, .int .i64 (ms.length : Nat)] 120)).alloc (Obj.cells #[.slice a n cap, .slice a1 (n + 1) c1, .slice a2 (n + 2) c2, .slice a3 (n + 64) c3, .int .i64 (ms.length : Nat)] 120)).drew).ownsRow (b + 1) 120 5 (.slice ap ms.length cp) ms.length (ms.flatMap MB.cells)) := (hrow.alloc _).alloc _
  have s2 : Hid (∀ j u, ([.slice a n cap, .slice a1 (n + 1) c1, .slice a2 (n + 2) c2, .slice a3 (n + 64) c3, .int .i64 (ms.length : Nat)] : List Value)[j]? = some u → (((w1.alloc (Obj.cells #[.slice a n cap, .slice a1 (n + 1) c1, .slice a2 (n + 2) c2, .slice a3 (n + 64) c3, .int .i64 (ms.length : Nat)] 120)).alloc (Obj.cells #[.slice a n cap, .slice a1 (n + 1) c1, .slice a2 (n + 2) c2, .slice a3 (n + 64) c3, .int .i64 (ms.length : Nat)] 120)).drew).cell? ((⟨w1.heap.size + 1, 0, none⟩ : Addr).add j) = some u) := by
    have := heap_alloc_new (w1.alloc (Obj.cells #[.slice a n cap, .slice a1 (n + 1) c1, .slice a2 (n + 2) c2, .slice a3 (n + 64) c3, .int .i64 (ms.length : Nat)] 120)) (Obj.cells #[.slice a n cap, .slice a1 (n + 1) c1, .slice a2 (n + 2) c2, .slice a3 (n + 64) c3, .int .i64 (ms.length : Nat)] 120)
    rw [World.size_alloc] at this
    exact World.news_of_block (w := ((w1.alloc _).alloc _).drew) this
  have s3 : Hid (∀ u ∈ ([.slice a n cap, .slice a1 (n + 1) c1, .slice a2 (n + 2) c2, .slice a3 (n + 64) c3, .int .i64 (ms.length : Nat)] : List Value), u.oneCell' = true) := by
    show ∀ u ∈ _, _
    intro u hu; simp at hu; rcases hu with rfl | rfl | rfl | rfl | rfl <;> rfl
  have s4 : Hid (ms.length + 1 ≤ maxLen) := by show _ ≤ _; unfold maxLen; omega
  have s5 : Hid ((ms.length + 1) * 104 ≤ 140737488355328) := by show _ ≤ _; omega
  have s6 : Hid (b + 1 ≤ (((w1.alloc (Obj.cells #[.slice a n cap, .slice a1 (n + 1) c1, .slice a2 (n + 2) c2, .slice a3 (n + 64) c3, .int .i64 (ms.length : Nat)] 120)).alloc (Obj.cells #[.slice a n cap, .slice a1 (n + 1) c1, .slice a2 (n + 2) c2, .slice a3 (n + 64) c3, .int .i64 (ms.length : Nat)] 120)).drew).heap.size) := by show _ ≤ _; simp; omega
  have s8 := hide (fun (w5 : World) (g cap' : Nat) (hg : (((w1.alloc (Obj.cells #[.slice a n cap, .slice a1 (n + 1) c1, .slice a2 (n + 2) c2, .slice a3 (n + 64) c3, .int .i64 (ms.length : Nat)] 120)).alloc (Obj.cells #[.slice a n cap, .slice a1 (n + 1) c1, .slice a2 (n + 2) c2, .slice a3 (n + 64) c3, .int .i64 (ms.length : Nat)] 120)).drew).grownBy w5 (Value.slice ap ms.length cp).ownBlock) (hown : w5.ownsRow (b + 1) 120 5 (.slice (some ⟨g, 0, none⟩) (ms.length + 1) cap') (ms.length + 1) (ms.flatMap MB.cells ++ [.slice a n cap, .slice a1 (n + 1) c1, .slice a2 (n + 2) c2, .slice a3 (n + 64) c3, .int .i64 (ms.length : Nat)])) (hat : (Value.slice ap ms.length cp).ownBlock = some g ∨ ∀ g', (Value.slice (some ⟨g, 0, none⟩) (ms.length + 1) cap').ownBlock = some g' → (((w1.alloc (Obj.cells #[.slice a n cap, .slice a1 (n + 1) c1, .slice a2 (n + 2) c2, .slice a3 (n + 64) c3, .int .i64 (ms.length : Nat)] 120)).alloc (Obj.cells #[.slice a n cap, .slice a1 (n + 1) c1, .slice a2 (n + 2) c2, .slice a3 (n + 64) c3, .int .i64 (ms.length : Nat)] 120)).drew).heap.size ≤ g') => book_end (j := 3) (a' := some ⟨g, 0, none⟩) (c' := cap') (m := ⟨.slice a n cap, .slice a1 (n + 1) c1, .slice a2 (n + 2) c2, .slice a3 (n + 64) c3, ms.length⟩) (A' := #[psv, bv, tv, .slice (some ⟨g, 0, none⟩) (ms.length + 1) cap']) hblk1 hS1 hO kW hg hown hat (by decide) (by decide) (by decide) (by simp))
  have HFAR := hide hO.far
  clear hO hS1 hrow hblk1 kW HBK HS HF HH x3 xf3
  go_wp2_with fail
  go_region_law (refine step_append_lies _ rfl (.tmp 16) (.tmp 18) 65 rfl (b + 1) 120 i0 (.agg #[.slice none 0 0, .slice none 0 0, .slice none 0 0, .slice none 0 0, .int .i64 0]) 5 104 Tryz.underlying65 hi hz0 hz1 hz2 rfl (by decide) (Value.slice ap ms.length cp) ms.length (ms.flatMap MB.cells) (by simp [Act.eval]) (unhide s1) ⟨w1.heap.size + 1, 0, none⟩ 1 1 [.slice a n cap, .slice a1 (n + 1) c1, .slice a2 (n + 2) c2, .slice a3 (n + 64) c3, .int .i64 (ms.length : Nat)] (by simp [Act.eval]) rfl (unhide s2) (unhide s3) (by decide) (unhide s4) (unhide s5) (unhide s6) _ rfl ?_; intro g cap' w5 hown5 hg5 hat5 hlt5; obtain ⟨e1, e2, e3, e4, e5⟩ := unhide s8 w5 g cap' hg5 hown5 (hat5.imp id (fun e g' e' => by rw [← e]; exact Nat.le_of_eq (by simpa [Value.ownBlock] using e'))); obtain ⟨z0, zf0⟩ := block_cells e5 3)
  all_goals
    have E1 := hide e1
    have E2 := hide e2
    have E3 := hide e3
    have E4 := hide e4
    clear s1 s2 s3 s4 s5 s6 s8 e1 e2 e3 e4 e5 hown5 hg5
    go_wp2_with fail
    go_end0
    exact ⟨rfl, _, _, unhide E2, unhide E1, unhide E3, unhide HFAR, unhide E4⟩
end Go.Proofs.YtldkpahaocjdpaaGreat

namespace Go.Proofs.YtldkpahaocjdpaaGreat
open Go.RowKit

def StillPost (w : World) : Ending → World → Prop := fun e w' => e = .returned (.bool true) ∧ Below w.heap.size w w'
def MB.agg (m : MB) : Value := .agg #[m.l, m.one, m.two, m.three, .int .i64 (m.mark : Nat)]

theorem MarkF.shape {w : World} {e : TypeId} {mk : List Value} {m : MB} (h : MarkF w e mk m) : ∃ (a1 a2 a3 a4 : Option Addr) (n c1 c2 c3 c4 : Nat), n ≤ 1000 ∧ m.l = .slice a1 n c1 ∧ m.one = .slice a2 (n + 1) c2 ∧ m.two = .slice a3 (n + 2) c3 ∧ m.three = .slice a4 (n + 64) c4 := by
  obtain ⟨n, hn, h1, h2, h3, h4⟩ := h.each
  obtain ⟨a1, c1, e1⟩ := own_slice h1
  obtain ⟨a2, c2, e2⟩ := own_slice h2
  obtain ⟨a3, c3, e3⟩ := own_slice h3
  obtain ⟨a4, c4, e4⟩ := own_slice h4
  exact ⟨a1, a2, a3, a4, n, c1, c2, c3, c4, hn, e1, e2, e3, e4⟩

/-- An entry of the book, its cells. -/
theorem BookIn.at_ {w : World} {base : Nat} {tB e : TypeId} {mk : Nat → List Value} {v : Value} {ms : List MB} (h : BookIn w base tB e mk v ms) {k : Nat} (hk : k < ms.length) : ∃ g cap, v = .slice (some ⟨g, 0, none⟩) ms.length cap ∧ g < w.heap.size ∧ ms.length ≤ cap ∧ cap ≤ maxLen ∧ w.cell? ⟨g, k * 5, none⟩ = some ms[k].l ∧ w.cell? ⟨g, k * 5 + 1, none⟩ = some ms[k].one ∧ w.cell? ⟨g, k * 5 + 2, none⟩ = some ms[k].two ∧ w.cell? ⟨g, k * 5 + 3, none⟩ = some ms[k].three ∧ w.cell? ⟨g, k * 5 + 4, none⟩ = some (.int .i64 (ms[k].mark : Nat)) := by
  obtain ⟨g, cap, hv, -, hgl, hnc, hcm, hc⟩ := row_at (f := MB.cells) (fun _ => rfl) h.row k hk
  have p0 := hc 0 (by simp)
  have p1 := hc 1 (by simp)
  have p2 := hc 2 (by simp)
  have p3 := hc 3 (by simp)
  have p4 := hc 4 (by simp)
  simp only [MB.cells, Nat.add_zero, List.getElem?_cons_zero, List.getElem?_cons_succ] at p0 p1 p2 p3 p4
  exact ⟨g, cap, hv, hgl, hnc, hcm, p0, p1, p2, p3, p4⟩

set_option maxRecDepth 100000 in
set_option maxHeartbeats 8000000 in
theorem looks_any (w : World) (b : Nat) (psv bv tv sv : Value) (mb mt ms : List MB) (fB fT fS : Nat → List Value) (hblk : w.heap[b]? = some (.cells #[psv, bv, tv, sv] 69 (0, 0))) (hB : BookIn w (b + 1) 115 5 fB bv mb) (hT : BookIn w (b + 1) 117 9 fT tv mt) (hS : BookIn w (b + 1) 120 185 fS sv ms)
    (hlb : mb.length ≤ 100000000) (hlt : mt.length ≤ 100000000) (hls : ms.length ≤ 100000000)
    (cB : ∀ m ∈ mb, ∀ w', MarkF w' 5 (fB m.mark) m → Calls Tryz.prog 52 #[m.agg] w' (StillPost w')) (cT : ∀ m ∈ mt, ∀ w', MarkF w' 9 (fT m.mark) m → Calls Tryz.prog 53 #[m.agg] w' (StillPost w')) (cS : ∀ m ∈ ms, ∀ w', MarkF w' 185 (fS m.mark) m → Calls Tryz.prog 54 #[m.agg] w' (StillPost w')) :
    Calls Tryz.prog 33 #[.pointer (some ⟨b, 1, none⟩)] w (StillPost w) := by
  obtain ⟨ab, cb, rfl⟩ := own_slice hB.row
  obtain ⟨at', ct, rfl⟩ := own_slice hT.row
  obtain ⟨as_, cs, rfl⟩ := own_slice hS.row
  have HBK := hide hblk
  have hbl := (Array.getElem?_eq_some_iff.1 hblk).1
  have HB := hide hB
  have HT := hide hT
  have HS := hide hS
  have CB := hide cB
  have CT := hide cT
  have CS := hide cS
  clear hB hT hS cB cT cS hblk
  go_enter Tryz.func33, Tryz.ntmps33
  go_wp2_with fail
  go_loopg [3, 4] mb.length (fun gg ok i wr => ∃ k : Nat, k ≤ mb.length ∧ gg = mb.length - k ∧ ok = .bool true ∧ i = .int .i64 k ∧ Below w.heap.size w wr)
  case atStart => exact ⟨0, Nat.zero_le _, rfl, rfl, rfl, Below.refl _ _⟩
  case round =>
    obtain ⟨k, hk, hgk, rfl, rfl, hb⟩ := hrel
    have hblk := (hb.block b hbl).trans (unhide HBK)
    have hsz := hb.size
    obtain ⟨x1, xf1⟩ := block_cells hblk 1
    by_cases hlk : k < mb.length
    · as_aux_lemma =>
      obtain ⟨g, cap, hv, hgl, hnc, hcm, p0, p1, p2, p3, p4⟩ := ((unhide HB).below hb).at_ hlk
      have hm := (((unhide HB).below hb).each mb[k] (List.getElem_mem hlk))
      have hc := unhide CB mb[k] (List.getElem_mem hlk) wr hm
      obtain ⟨a1, a2, a3, a4, n, c1, c2, c3, c4, hn, e1, e2, e3, e4⟩ := hm.shape
      unfold MB.agg at hc
      rw [e1, e2, e3, e4] at hc
      rw [e1] at p0
      rw [e2] at p1
      rw [e3] at p2
      rw [e4] at p3
      injection hv with h1 h2 h3
      subst h1 h3
      clear hm e1 e2 e3 e4 hblk
      generalize mb[k].mark = mkk at *
      go_wp2_with fail
      refine hc.mono ?_
      rintro e w1 ⟨rfl, hb1⟩
      have HB1 := hide (hb.trans (hb1.mono hsz))
      clear hb1 hb hc p0 p1 p2 p3 p4 x1 xf1
      go_wp2_with fail
      go_roundg (mb.length - (k + 1))
      case measure => omega
      case rel => exact ⟨k + 1, by omega, rfl, rfl, by go_num, unhide HB1⟩
    · clear HB CB hblk
      have HH := hide hb
      clear hb
      go_wp2_with fail
      go_loopg [3, 6] mt.length (fun gg ok i wr => ∃ k : Nat, k ≤ mt.length ∧ gg = mt.length - k ∧ ok = .bool true ∧ i = .int .i64 k ∧ Below w.heap.size w wr)
      case atStart => exact ⟨0, Nat.zero_le _, rfl, rfl, rfl, unhide HH⟩
      case round =>
        clear HH x1 xf1 hsz
        obtain ⟨k2, hk2, hgk2, rfl, rfl, hb⟩ := hrel
        have hblk := (hb.block b hbl).trans (unhide HBK)
        have hsz := hb.size
        obtain ⟨x1, xf1⟩ := block_cells hblk 2
        by_cases hlk2 : k2 < mt.length
        · as_aux_lemma =>
          obtain ⟨g, cap, hv, hgl, hnc, hcm, p0, p1, p2, p3, p4⟩ := ((unhide HT).below hb).at_ hlk2
          have hm := (((unhide HT).below hb).each mt[k2] (List.getElem_mem hlk2))
          have hc := unhide CT mt[k2] (List.getElem_mem hlk2) wr hm
          obtain ⟨a1, a2, a3, a4, n, c1, c2, c3, c4, hn, e1, e2, e3, e4⟩ := hm.shape
          unfold MB.agg at hc
          rw [e1, e2, e3, e4] at hc
          rw [e1] at p0
          rw [e2] at p1
          rw [e3] at p2
          rw [e4] at p3
          injection hv with h1 h2 h3
          subst h1 h3
          clear hm e1 e2 e3 e4 hblk
          generalize mt[k2].mark = mkk at *
          go_wp2_with fail
          refine hc.mono ?_
          rintro e w1 ⟨rfl, hb1⟩
          have HB1 := hide (hb.trans (hb1.mono hsz))
          clear hb1 hb hc p0 p1 p2 p3 p4 x1 xf1
          go_wp2_with fail
          go_roundg (mt.length - (k2 + 1))
          case measure => omega
          case rel => exact ⟨k2 + 1, by omega, rfl, rfl, by go_num, unhide HB1⟩
        · clear HT CT hblk
          have HH := hide hb
          clear hb
          go_wp2_with fail
          go_loopg [3, 8] ms.length (fun gg ok i wr => ∃ k : Nat, k ≤ ms.length ∧ gg = ms.length - k ∧ ok = .bool true ∧ i = .int .i64 k ∧ Below w.heap.size w wr)
          case atStart => exact ⟨0, Nat.zero_le _, rfl, rfl, rfl, unhide HH⟩
          case round =>
            clear HH x1 xf1 hsz
            obtain ⟨k3, hk3, hgk3, rfl, rfl, hb⟩ := hrel
            have hblk := (hb.block b hbl).trans (unhide HBK)
            have hsz := hb.size
            obtain ⟨x1, xf1⟩ := block_cells hblk 3
            by_cases hlk3 : k3 < ms.length
            · as_aux_lemma =>
              obtain ⟨g, cap, hv, hgl, hnc, hcm, p0, p1, p2, p3, p4⟩ := ((unhide HS).below hb).at_ hlk3
              have hm := (((unhide HS).below hb).each ms[k3] (List.getElem_mem hlk3))
              have hc := unhide CS ms[k3] (List.getElem_mem hlk3) wr hm
              obtain ⟨a1, a2, a3, a4, n, c1, c2, c3, c4, hn, e1, e2, e3, e4⟩ := hm.shape
              unfold MB.agg at hc
              rw [e1, e2, e3, e4] at hc
              rw [e1] at p0
              rw [e2] at p1
              rw [e3] at p2
              rw [e4] at p3
              injection hv with h1 h2 h3
              subst h1 h3
              clear hm e1 e2 e3 e4 hblk
              generalize ms[k3].mark = mkk at *
              go_wp2_with fail
              refine hc.mono ?_
              rintro e w1 ⟨rfl, hb1⟩
              have HB1 := hide (hb.trans (hb1.mono hsz))
              clear hb1 hb hc p0 p1 p2 p3 p4 x1 xf1
              go_wp2_with fail
              go_roundg (ms.length - (k3 + 1))
              case measure => omega
              case rel => exact ⟨k3 + 1, by omega, rfl, rfl, by go_num, unhide HB1⟩
            · clear hblk
              have HH := hide hb
              clear hb
              go_wp2_with fail
              go_ret
              exact ⟨rfl, unhide HH⟩
end Go.Proofs.YtldkpahaocjdpaaGreat
