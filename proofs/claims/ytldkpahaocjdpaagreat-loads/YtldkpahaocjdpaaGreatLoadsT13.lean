/-
  Plain: the terms that the program's reader reads; how a mention lies in memory.
-/
import Derived.Test.YtldkpahaocjdpaaGreatLoadsT11
import Derived.Test.YtldkpahaocjdpaaGreatLoadsT12
namespace Go.Proofs.YtldkpahaocjdpaaGreat
open Go.RowKit

/-- A mention in its own block m: its rule's number, negative, the predicate, the terms, the two places, the places of the terms. -/
structure MCells (w : World) (m : Nat) (num : Nat) (neg : Bool) (pd : ByteArray) (tv : Value) (start place : Nat) (pl : Nat → Nat) : Prop where
  lt : m < w.heap.size
  c0 : w.cell? ⟨m, 0, none⟩ = some (.int .i64 num)
  c1 : w.cell? ⟨m, 1, none⟩ = some (.bool neg)
  c2 : w.cell? ⟨m, 2, none⟩ = some (.string pd)
  c3 : w.cell? ⟨m, 3, none⟩ = some tv
  c4 : w.cell? ⟨m, 4, none⟩ = some (.int .i64 start)
  c5 : w.cell? ⟨m, 5, none⟩ = some (.int .i64 place)
  cp : ∀ i, i < 4 → w.cell? ⟨m, 6 + i, none⟩ = some (.int .i64 (pl i))
  fz : ∀ o, w.frozen? ⟨m, o, none⟩ = false

theorem MCells.kept {B : List Nat} {w w' : World} {m num : Nat} {neg : Bool} {pd : ByteArray} {tv : Value} {start place : Nat} {pl : Nat → Nat} (h : MCells w m num neg pd tv start place pl) (k : Kept B w w') (hn : m ∉ B) : MCells w' m num neg pd tv start place pl :=
  ⟨Nat.lt_of_lt_of_le h.lt k.size, (k.cell h.lt hn).trans h.c0, (k.cell h.lt hn).trans h.c1, (k.cell h.lt hn).trans h.c2, (k.cell h.lt hn).trans h.c3, (k.cell h.lt hn).trans h.c4, (k.cell h.lt hn).trans h.c5, fun i hi => (k.cell h.lt hn).trans (h.cp i hi), fun o => (k.frozen h.lt hn).trans (h.fz o)⟩

def setPl (pl : Nat → Nat) (i v : Nat) : Nat → Nat := fun a => if a = i then v else pl a

theorem cs_same' {w : World} {b o : Nat} {u v : Value} (h : w.cell? ⟨b, o, none⟩ = some u) : (w.setCell ⟨b, o, none⟩ v).cell? ⟨b, o, none⟩ = some v := by go_simp
theorem cs_other' {w : World} {b o b' o' : Nat} {v : Value} (h : ¬ (b = b' ∧ o = o')) : (w.setCell ⟨b, o, none⟩ v).cell? ⟨b', o', none⟩ = w.cell? ⟨b', o', none⟩ := by
  by_cases hb : b = b'
  · subst hb
    have ho : o ≠ o' := fun e => h ⟨rfl, e⟩
    unfold World.cell? World.setCell
    simp only [Array.getElem?_modify, if_true]
    cases w.heap[b]? with
    | none => rfl
    | some x => cases x <;> simp [ho]
  · exact World.cell?_of_block (w := w) (Below.heap_setCell w ⟨b, o, none⟩ v b' (by simp; omega))

theorem MCells.setPl {w : World} {m num : Nat} {neg : Bool} {pd : ByteArray} {tv : Value} {start place : Nat} {pl : Nat → Nat} (h : MCells w m num neg pd tv start place pl) (i v : Nat) (hi : i < 4) : MCells (w.setCell ⟨m, 6 + i, none⟩ (.int .i64 v)) m num neg pd tv start place (Go.Proofs.YtldkpahaocjdpaaGreat.setPl pl i v) := by
  refine ⟨by simpa using h.lt, ?_, ?_, ?_, ?_, ?_, ?_, fun a ha => ?_, fun o => by simpa using h.fz o⟩
  · rw [cs_other' (by omega)]; exact h.c0
  · rw [cs_other' (by omega)]; exact h.c1
  · rw [cs_other' (by omega)]; exact h.c2
  · rw [cs_other' (by omega)]; exact h.c3
  · rw [cs_other' (by omega)]; exact h.c4
  · rw [cs_other' (by omega)]; exact h.c5
  · by_cases e : a = i
    · subst e; rw [cs_same' (h.cp a ha)]; simp [Go.Proofs.YtldkpahaocjdpaaGreat.setPl]
    · rw [cs_other' (by omega), h.cp a ha]; simp [Go.Proofs.YtldkpahaocjdpaaGreat.setPl, e]

theorem MCells.setTv {w : World} {m num : Nat} {neg : Bool} {pd : ByteArray} {tv : Value} {start place : Nat} {pl : Nat → Nat} (h : MCells w m num neg pd tv start place pl) (v : Value) : MCells (w.setCell ⟨m, 3, none⟩ v) m num neg pd v start place pl := by
  refine ⟨by simpa using h.lt, ?_, ?_, ?_, cs_same' h.c3, ?_, ?_, fun a ha => ?_, fun o => by simpa using h.fz o⟩
  · rw [cs_other' (by omega)]; exact h.c0
  · rw [cs_other' (by omega)]; exact h.c1
  · rw [cs_other' (by omega)]; exact h.c2
  · rw [cs_other' (by omega)]; exact h.c4
  · rw [cs_other' (by omega)]; exact h.c5
  · rw [cs_other' (by omega)]; exact h.cp a ha

def ptCells (l : List (Bool × ByteArray)) : List Value := l.map fun t => tmVal t.1 t.2

/-- Whether they could be read; where the reader stands; the terms; their places. -/
def ptermsS (s : ByteArray) : Nat → Nat → List (Bool × ByteArray) → (Nat → Nat) → Bool × Nat × List (Bool × ByteArray) × (Nat → Nat)
  | 0, pos, l, pl => (false, pos, l, pl)
  | f + 1, pos, l, pl =>
    if (scanK s pos).1 = 2 ∨ (scanK s pos).1 = 3 then
      (if (scanK s (scanK s pos).2.2).1 = 7 then ptermsS s f (scanK s (scanK s pos).2.2).2.2 (l ++ [(decide ((scanK s pos).1 = 3), rword s pos)]) (setPl pl l.length (scanK s pos).2.1)
       else (decide ((scanK s (scanK s pos).2.2).1 = 6), rtake s (scanK s pos).2.2 6, l ++ [(decide ((scanK s pos).1 = 3), rword s pos)], setPl pl l.length (scanK s pos).2.1))
    else (false, pos, l, setPl pl l.length (scanK s pos).2.1)

structure TInv (w : World) (b m : Nat) (s : ByteArray) (num : Nat) (mv : Value) (rn : Nat) (neg : Bool) (pd : ByteArray) (start place : Nat) (l : List (Bool × ByteArray)) (pos : Nat) (pl : Nat → Nat) (tv : Value) (wr : World) : Prop where
  rdr : Rdr wr b s pos num mv
  hp : pos ≤ s.size
  mc : MCells wr m rn neg pd tv start place pl
  own : wr.ownsRow w.heap.size 191 1 tv l.length (ptCells l)
  kept : Kept [b, m] w wr
  bm : b ≠ m
  bw : b < w.heap.size
  mw : m < w.heap.size

theorem TInv.call {w : World} {b m : Nat} {s : ByteArray} {num : Nat} {mv : Value} {rn : Nat} {neg : Bool} {pd : ByteArray} {start place : Nat} {l : List (Bool × ByteArray)} {pos : Nat} {pl : Nat → Nat} {tv : Value} {wr w1 : World} {pos' : Nat} (h : TInv w b m s num mv rn neg pd start place l pos pl tv wr) (k : Kept [b] wr w1) (hr : Rdr w1 b s pos' num mv) (hp : pos' ≤ s.size) : TInv w b m s num mv rn neg pd start place l pos' pl tv w1 :=
  have h1 := h.bm
  have h2 := h.bw
  ⟨hr, hp, h.mc.kept k (by simp; omega), ownsRow_kept h.own k (by simp; omega), h.kept.trans (k.mono (by simp)), h.bm, h.bw, h.mw⟩

theorem TInv.place {w : World} {b m : Nat} {s : ByteArray} {num : Nat} {mv : Value} {rn : Nat} {neg : Bool} {pd : ByteArray} {start place : Nat} {l : List (Bool × ByteArray)} {pos : Nat} {pl : Nat → Nat} {tv : Value} {wr : World} (h : TInv w b m s num mv rn neg pd start place l pos pl tv wr) (i v : Nat) (hi : i < 4) : TInv w b m s num mv rn neg pd start place l pos (setPl pl i v) tv (wr.setCell ⟨m, 6 + i, none⟩ (.int .i64 v)) :=
  have h1 := h.bm
  have h3 := h.mw
  ⟨h.rdr.kept ((Kept.refl [m] _).setCell (by simp) _) (by simp; omega), h.hp, h.mc.setPl i v hi, ownsRow_setCell_below h.own (by simpa using h3) _, h.kept.setCell (by simp) _, h.bm, h.bw, h.mw⟩

theorem TInv.drew {w : World} {b m : Nat} {s : ByteArray} {num : Nat} {mv : Value} {rn : Nat} {neg : Bool} {pd : ByteArray} {start place : Nat} {l : List (Bool × ByteArray)} {pos : Nat} {pl : Nat → Nat} {tv : Value} {wr : World} (h : TInv w b m s num mv rn neg pd start place l pos pl tv wr) : TInv w b m s num mv rn neg pd start place l pos pl tv wr.drew :=
  have k := (Kept.refl [] wr).drew
  ⟨h.rdr.kept k (by simp), h.hp, h.mc.kept k (by simp), ownsRow_kept h.own k (by simp), h.kept.drew, h.bm, h.bw, h.mw⟩

theorem TInv.append {w : World} {b m : Nat} {s : ByteArray} {num : Nat} {mv : Value} {rn : Nat} {neg : Bool} {pd : ByteArray} {start place : Nat} {l : List (Bool × ByteArray)} {pos : Nat} {pl : Nat → Nat} {tv : Value} {w1 w5 : World} (h : TInv w b m s num mv rn neg pd start place l pos pl tv w1) {o1 : Obj} {v' : Value} (t : Bool × ByteArray)
    (hown : w5.ownsRow w.heap.size 191 1 v' (l.length + 1) (ptCells l ++ [tmVal t.1 t.2])) (hg : (w1.alloc o1).grownBy w5 tv.ownBlock) :
    TInv w b m s num mv rn neg pd start place (l ++ [t]) pos pl v' (w5.setCell ⟨m, 3, none⟩ v') ∧ MCells w5 m rn neg pd tv start place pl := by
  have h1 := h.bm
  have h2 := h.bw
  have h3 := h.mw
  have hrow : ∀ k, tv.ownBlock = some k → w.heap.size ≤ k := fun k e => (h.own.lt k e).1
  have k5 : Kept tv.ownBlock.toList w1 w5 := ((Kept.refl _ w1).alloc o1).grown hg (fun k e => .inr (by simp [e]))
  have hnot : ∀ k, k < w.heap.size → k ∉ tv.ownBlock.toList := by
    intro k hk hm
    cases hv : tv.ownBlock with
    | none => simp [hv] at hm
    | some x => simp [hv] at hm; have := hrow x hv; omega
  have m5 := h.mc.kept k5 (hnot _ h3)
  refine ⟨⟨(h.rdr.kept k5 (hnot _ h2)).kept ((Kept.refl [m] _).setCell (by simp) _) (by simp; omega), h.hp, m5.setTv v', ?_, ?_, h.bm, h.bw, h.mw⟩, m5⟩
  · have := ownsRow_setCell_below hown (a := ⟨m, 3, none⟩) (by simpa using h3) v'
    simpa [ptCells] using this
  · exact ((h.kept.alloc o1).grown hg (fun k e => .inl (hrow k e))).setCell (by simp) _
end Go.Proofs.YtldkpahaocjdpaaGreat
