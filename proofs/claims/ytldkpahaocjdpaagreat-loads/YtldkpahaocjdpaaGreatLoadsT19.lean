/-
  Plain: an atom as the program's reader reads it; how the mentions lie in memory.
-/
import Derived.Test.YtldkpahaocjdpaaGreatLoadsT14
import Derived.Test.YtldkpahaocjdpaaGreatLoadsT18
import Derived.Deep.AppendLies
import Derived.Deep.RegionLaw
namespace Go.Proofs.YtldkpahaocjdpaaGreat
open Go.RowKit

/-- A mention, and the value of its terms' slice beside it. -/
structure PMen where
  num : Nat
  neg : Bool
  pd : ByteArray
  ts : List (Bool × ByteArray)
  start : Nat
  place : Nat
  pl : Nat → Nat

def PMen.cells (M : PMen) (tv : Value) : List Value := [.int .i64 M.num, .bool M.neg, .string M.pd, tv, .int .i64 M.start, .int .i64 M.place, .int .i64 (M.pl 0), .int .i64 (M.pl 1), .int .i64 (M.pl 2), .int .i64 (M.pl 3)]
def menCells (ms : List (PMen × Value)) : List Value := ms.flatMap fun x => x.1.cells x.2

structure MRow (w : World) (base : Nat) (mv : Value) (ms : List (PMen × Value)) : Prop where
  row : w.ownsRow base 221 10 mv ms.length (menCells ms)
  each : ∀ x ∈ ms, w.ownsRow base 191 1 x.2 x.1.ts.length (ptCells x.1.ts)

theorem MRow.kept {B : List Nat} {w w' : World} {base : Nat} {mv : Value} {ms : List (PMen × Value)} (h : MRow w base mv ms) (k : Kept B w w') (hB : ∀ x ∈ B, x < base ∨ w.heap.size ≤ x) : MRow w' base mv ms := by
  have k' : Kept (B.filter (· < base)) w w' := ⟨k.os, k.tape, k.output, k.size, fun i hi hn => k.block i hi (fun hm => by
    rcases hB i hm with h1 | h1
    · exact hn (by simp [hm, h1])
    · omega)⟩
  exact ⟨ownsRow_kept h.row k' (by simp), fun x hx => ownsRow_kept (h.each x hx) k' (by simp)⟩

/-- Where an atom cannot be read: the place where the reader stands; else what it is. -/
inductive PRes where
  | no (pos : Nat)
  | yes (pos : Nat) (pd : ByteArray) (ts : List (Bool × ByteArray)) (pl : Nat → Nat)

def patomS (s : ByteArray) (pos : Nat) : PRes :=
  if (scanK s pos).1 = 2 then
    (if (scanK s (scanK s pos).2.2).1 = 5 then
      (if (ptermsS s 4 (scanK s (scanK s pos).2.2).2.2 [] (fun _ => 0)).1 then
        .yes (ptermsS s 4 (scanK s (scanK s pos).2.2).2.2 [] (fun _ => 0)).2.1 (rword s pos) (ptermsS s 4 (scanK s (scanK s pos).2.2).2.2 [] (fun _ => 0)).2.2.1 (ptermsS s 4 (scanK s (scanK s pos).2.2).2.2 [] (fun _ => 0)).2.2.2
       else .no (ptermsS s 4 (scanK s (scanK s pos).2.2).2.2 [] (fun _ => 0)).2.1)
     else .yes (scanK s pos).2.2 (rword s pos) [] (fun _ => 0))
  else .no pos

theorem menStart (w : World) (num : Nat) (neg : Bool) (start place : Nat) (o : Obj) : MCells ((w.alloc o).alloc (.cells #[.int .i64 num, .bool neg, .string { data := #[] }, .slice none 0 0, .int .i64 start, .int .i64 place, .int .i64 0, .int .i64 0, .int .i64 0, .int .i64 0] 221)) (w.heap.size + 1) num neg { data := #[] } (.slice none 0 0) start place (fun _ => 0) := by
  refine ⟨by simp, ?_, ?_, ?_, ?_, ?_, ?_, fun i hi => ?_, fun o => ?_⟩
  all_goals first | (rw [World.cell?_alloc_at _ _ _ _ (by simp)]; rfl) | (rw [World.frozen?_alloc_at _ _ _ _ (by simp)]) | skip
  rw [World.cell?_alloc_at _ _ _ _ (by simp)]
  have : i = 0 ∨ i = 1 ∨ i = 2 ∨ i = 3 := by omega
  rcases this with rfl | rfl | rfl | rfl <;> rfl
/-- The result's block: a predicate, terms. -/
structure RA (w : World) (n : Nat) : Prop where
  lt : n < w.heap.size
  c0 : w.cell? ⟨n, 0, none⟩ = some (.string { data := #[] })
  c1 : w.cell? ⟨n, 1, none⟩ = some (.slice none 0 0)
  fz : ∀ o, w.frozen? ⟨n, o, none⟩ = false

theorem RA.kept {B : List Nat} {w w' : World} {n : Nat} (h : RA w n) (k : Kept B w w') (hn : n ∉ B) : RA w' n :=
  ⟨Nat.lt_of_lt_of_le h.lt k.size, (k.cell h.lt hn).trans h.c0, (k.cell h.lt hn).trans h.c1, fun o => (k.frozen h.lt hn).trans (h.fz o)⟩

structure AInv (w : World) (b : Nat) (s : ByteArray) (num : Nat) (mv : Value) (neg : Bool) (start place : Nat) (pd : ByteArray) (tv : Value) (pl : Nat → Nat) (pos : Nat) (wr : World) : Prop where
  rdr : Rdr wr b s pos num mv
  hp : pos ≤ s.size
  mc : MCells wr (w.heap.size + 1) num neg pd tv start place pl
  ra : RA wr w.heap.size
  kept : Kept [b] w wr
  bw : b < w.heap.size

theorem AInv.call {w : World} {b : Nat} {s : ByteArray} {num : Nat} {mv : Value} {neg : Bool} {start place : Nat} {pd : ByteArray} {tv : Value} {pl : Nat → Nat} {pos pos' : Nat} {wr w1 : World} (h : AInv w b s num mv neg start place pd tv pl pos wr) (k : Kept [b] wr w1) (hr : Rdr w1 b s pos' num mv) (hp : pos' ≤ s.size) : AInv w b s num mv neg start place pd tv pl pos' w1 :=
  have h2 := h.bw
  ⟨hr, hp, h.mc.kept k (by simp; omega), h.ra.kept k (by simp; omega), h.kept.trans k, h.bw⟩

theorem AInv.same {w : World} {b : Nat} {s : ByteArray} {num : Nat} {mv : Value} {neg : Bool} {start place : Nat} {pd : ByteArray} {tv : Value} {pl : Nat → Nat} {pos : Nat} {wr w1 : World} (h : AInv w b s num mv neg start place pd tv pl pos wr) (k : Below wr.heap.size wr w1) : AInv w b s num mv neg start place pd tv pl pos w1 :=
  have kk := (Kept.refl [] wr).of_below k
  ⟨h.rdr.kept kk (by simp), h.hp, h.mc.kept kk (by simp), h.ra.kept kk (by simp), h.kept.of_below k, h.bw⟩

theorem AInv.pred {w : World} {b : Nat} {s : ByteArray} {num : Nat} {mv : Value} {neg : Bool} {start place : Nat} {pd : ByteArray} {tv : Value} {pl : Nat → Nat} {pos : Nat} {wr : World} (h : AInv w b s num mv neg start place pd tv pl pos wr) (p : ByteArray) : AInv w b s num mv neg start place p tv pl pos (wr.setCell ⟨w.heap.size + 1, 2, none⟩ (.string p)) := by
  have h2 := h.bw
  have hm := h.mc
  have k : Kept [w.heap.size + 1] wr (wr.setCell ⟨w.heap.size + 1, 2, none⟩ (.string p)) := (Kept.refl _ _).setCell (by simp) _
  refine ⟨h.rdr.kept k (by simp; omega), h.hp, ⟨by simpa using hm.lt, ?_, ?_, cs_same' hm.c2, ?_, ?_, ?_, fun i hi => ?_, fun o => by simpa using hm.fz o⟩, h.ra.kept k (by simp), h.kept.setCell (.inr (by simp)) _, h.bw⟩
  · rw [cs_other' (by omega)]; exact hm.c0
  · rw [cs_other' (by omega)]; exact hm.c1
  · rw [cs_other' (by omega)]; exact hm.c3
  · rw [cs_other' (by omega)]; exact hm.c4
  · rw [cs_other' (by omega)]; exact hm.c5
  · rw [cs_other' (by omega)]; exact hm.cp i hi

theorem AInv.start {w : World} {b : Nat} {s : ByteArray} {num : Nat} {mv : Value} {pos : Nat} (neg : Bool) (start : Nat) (h : Rdr w b s pos num mv) (hp : pos ≤ s.size) : AInv w b s num mv neg start (scanK s pos).2.1 { data := #[] } (.slice none 0 0) (fun _ => 0) pos ((w.alloc (Obj.cells #[Value.string { data := #[] }, Value.slice none 0 0] 79)).alloc (Obj.cells #[Value.int IntKind.i64 ↑num, Value.bool neg, Value.string { data := #[] }, Value.slice none 0 0, Value.int IntKind.i64 ↑start, Value.int IntKind.i64 ↑(scanK s pos).snd.fst, Value.int IntKind.i64 0, Value.int IntKind.i64 0, Value.int IntKind.i64 0, Value.int IntKind.i64 0] 221)).drew := by
  have k := (((Kept.refl [] w).alloc (Obj.cells #[Value.string { data := #[] }, Value.slice none 0 0] 79)).alloc (Obj.cells #[Value.int IntKind.i64 ↑num, Value.bool neg, Value.string { data := #[] }, Value.slice none 0 0, Value.int IntKind.i64 ↑start, Value.int IntKind.i64 ↑(scanK s pos).snd.fst, Value.int IntKind.i64 0, Value.int IntKind.i64 0, Value.int IntKind.i64 0, Value.int IntKind.i64 0] 221)).drew
  refine ⟨h.kept k (by simp), hp, (menStart w num neg start (scanK s pos).2.1 _).kept ((Kept.refl [] _).drew) (by simp), ?_, k.mono (by simp), h.lt⟩
  refine RA.kept ⟨by simp; omega, ?_, ?_, fun o => ?_⟩ ((Kept.refl [] _).drew) (by simp)
  · rw [World.cell?_alloc_past _ _ _ (by simp), World.cell?_alloc_at _ _ _ _ rfl]; rfl
  · rw [World.cell?_alloc_past _ _ _ (by simp), World.cell?_alloc_at _ _ _ _ rfl]; rfl
  · rw [World.frozen?_alloc_past _ _ _ (by simp), World.frozen?_alloc_at _ _ _ _ rfl]

theorem set2 {w1 : World} {n : Nat} (h : RA w1 n) (v0 v1 : Value) : ((w1.setCell ⟨n, 0, none⟩ v0).setCell ⟨n, 1, none⟩ v1).cell? ⟨n, 0, none⟩ = some v0 ∧ ((w1.setCell ⟨n, 0, none⟩ v0).setCell ⟨n, 1, none⟩ v1).cell? ⟨n, 1, none⟩ = some v1 :=
  ⟨by rw [cs_other' (by omega)]; exact cs_same' h.c0, cs_same' (by rw [cs_other' (by omega)]; exact h.c1)⟩
theorem menCells_snoc (ms : List (PMen × Value)) (M : PMen) (tv : Value) : menCells (ms ++ [(M, tv)]) = menCells ms ++ M.cells tv := by simp [menCells]

theorem men_one (M : PMen) (a : Option Addr) (n c : Nat) : ∀ u ∈ M.cells (.slice a n c), u.oneCell' = true := by
  intro u hu; simp [PMen.cells] at hu; rcases hu with rfl | rfl | rfl | rfl | rfl | rfl | rfl | rfl | rfl | rfl <;> rfl

theorem far_not {g n cap : Nat} {mv : Value} (hd : (Value.slice (some ⟨g, 0, none⟩) n cap).ownBlock = none ∨ (Value.slice (some ⟨g, 0, none⟩) n cap).ownBlock ≠ mv.ownBlock) : g ∉ mv.ownBlock.toList := fun hm => by
  have hm' : mv.ownBlock = some g := by simpa using hm
  rcases hd with hd | hd
  · cases hd
  · exact hd (by rw [hm']; rfl)

/-- Behind the append to the mentions and the store into the reader. -/
theorem men_end {w wr W w5 : World} {b : Nat} {s : ByteArray} {num : Nat} {mv : Value} {neg : Bool} {start place : Nat} {pd : ByteArray} {tv : Value} {pl : Nat → Nat} {pos : Nat} {ts : List (Bool × ByteArray)} {ms : List (PMen × Value)} {v' : Value}
    (h : AInv w b s num mv neg start place pd tv pl pos wr) (hms : MRow wr (b + 1) mv ms) (hmw : ∀ k, mv.ownBlock = some k → k < w.heap.size) (hts : wr.ownsRow w.heap.size 191 1 tv ts.length (ptCells ts))
    (hW : ∀ k, k < wr.heap.size → W.heap[k]? = wr.heap[k]?) (hS : wr.heap.size ≤ W.heap.size) (hos : W.os = wr.os) (htp : W.tape = wr.tape) (hou : W.output = wr.output) (hg : W.grownBy w5 mv.ownBlock)
    (hown : w5.ownsRow (b + 1) 221 10 v' (ms.length + 1) (menCells ms ++ (PMen.mk num neg pd ts start place pl).cells tv)) :
    Kept (b :: mv.ownBlock.toList) w (w5.setCell ⟨b, 5, none⟩ v') ∧ Rdr (w5.setCell ⟨b, 5, none⟩ v') b s pos num v' ∧ MRow (w5.setCell ⟨b, 5, none⟩ v') (b + 1) v' (ms ++ [(⟨num, neg, pd, ts, start, place, pl⟩, tv)]) ∧ (w5.setCell ⟨b, 5, none⟩ v').ownsRow w.heap.size 191 1 tv ts.length (ptCells ts) ∧ RA (w5.setCell ⟨b, 5, none⟩ v') w.heap.size ∧ MCells (w5.setCell ⟨b, 5, none⟩ v') (w.heap.size + 1) num neg pd tv start place pl ∧ Rdr w5 b s pos num mv := by
  have hbw := h.bw
  have hs5 := hg.size
  have k5 : Kept mv.ownBlock.toList wr w5 := ⟨hg.os.trans hos, hg.tape.trans htp, hg.output.trans hou, by omega, fun k hk hn => (hg.block k (by omega) (fun e => hn (by rw [← e]; simp))).trans (hW k hk)⟩
  have hbn : b ∉ mv.ownBlock.toList := fun hm => by
    have := (hms.row.lt b (by simpa using hm)).1; omega
  have hnn : ∀ x, w.heap.size ≤ x → x ∉ mv.ownBlock.toList := fun x hx hm => by
    have := hmw x (by simpa using hm); omega
  have kb : Kept [b] w5 (w5.setCell ⟨b, 5, none⟩ v') := (Kept.refl _ _).setCell (by simp) _
  have r5 := h.rdr.kept k5 hbn
  have far : ∀ {base : Nat} {v : Value} {n : Nat} {xs : List Value}, b + 1 ≤ base → wr.ownsRow base 191 1 v n xs → (w5.setCell ⟨b, 5, none⟩ v').ownsRow base 191 1 v n xs := by
    intro base v n xs hbb hx
    have hd := own_ne hx hms.row (by decide)
    refine ⟨hx.1, ?_⟩
    rcases hx.2 with hn | ⟨g, cap, cur, rfl, hb, hgg, rest⟩
    · exact .inl hn
    · have hl := (Array.getElem?_eq_some_iff.1 hgg).1
      refine .inr ⟨g, cap, cur, rfl, hb, ?_, rest⟩
      rw [Below.heap_setCell _ _ _ _ (by simp; omega), k5.block g hl (far_not hd), hgg]
  refine ⟨?_, ?_, ⟨?_, fun x hx => ?_⟩, far (by omega) hts, (h.ra.kept k5 (hnn _ (Nat.le_refl _))).kept kb (by simp; omega), (h.mc.kept k5 (hnn _ (by omega))).kept kb (by simp; omega), r5⟩
  · have k1 : Kept (b :: mv.ownBlock.toList) w wr := h.kept.mono (by simp)
    exact (k1.trans (k5.mono (by simp; intro k hk; exact .inl (.inr hk)))).setCell (by simp) _
  · obtain ⟨q, c0, c1, c2, c3, c4, c5, fz⟩ := r5
    exact ⟨by simpa using q, by rw [cs_other' (by omega)]; exact c0, by rw [cs_other' (by omega)]; exact c1, by rw [cs_other' (by omega)]; exact c2, by rw [cs_other' (by omega)]; exact c3, by rw [cs_other' (by omega)]; exact c4, cs_same' c5, fun o => by simpa using fz o⟩
  · rw [menCells_snoc, List.length_append]
    exact ownsRow_setCell_below hown (by simp) _
  · rcases List.mem_append.1 hx with hx | hx
    · exact far (Nat.le_refl _) (hms.each x hx)
    · simp at hx; subst hx
      exact ownsRow_low (far (by omega) hts) (by omega)

theorem ra_set (w : World) (n : Nat) (v0 v1 : Value) : Kept [n] w ((w.setCell ⟨n, 0, none⟩ v0).setCell ⟨n, 1, none⟩ v1) := ((Kept.refl _ _).setCell (by simp) _).setCell (by simp) _
theorem ownsRow_apart {n0 : Nat} {w w' : World} {base : Nat} {e : TypeId} {size : Nat} {v : Value} {n : Nat} {xs : List Value} (h : w.ownsRow base e size v n xs) (k : Kept [n0] w w') (hn : ∀ g, v.ownBlock = some g → g ≠ n0) : w'.ownsRow base e size v n xs := by
  refine ⟨h.1, ?_⟩
  rcases h.2 with hx | ⟨g, cap, cur, rfl, hb, hgg, rest⟩
  · exact .inl hx
  · refine .inr ⟨g, cap, cur, rfl, hb, ?_, rest⟩
    rw [k.block g (Array.getElem?_eq_some_iff.1 hgg).1 (by simp; exact hn g rfl)]
    exact hgg

theorem men_fin {n0 : Nat} {w w' : World} {base : Nat} {mv : Value} {ms : List (PMen × Value)} (h : MRow w base mv ms) (k : Kept [n0] w w') (hm : ∀ g, mv.ownBlock = some g → g ≠ n0) (ht : ∀ x ∈ ms, ∀ g, x.2.ownBlock = some g → g ≠ n0) : MRow w' base mv ms :=
  ⟨ownsRow_apart h.row k hm, fun x hx => ownsRow_apart (h.each x hx) k (ht x hx)⟩
end Go.Proofs.YtldkpahaocjdpaaGreat
