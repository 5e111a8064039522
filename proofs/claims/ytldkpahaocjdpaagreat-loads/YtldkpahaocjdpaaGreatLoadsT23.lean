/-
  Plain: a body, a rule, rules as the program's reader reads them; how they lie in memory.
  The program's reader: body, at every text and place.
-/
import Derived.Test.YtldkpahaocjdpaaGreatLoadsT22
namespace Go.Proofs.YtldkpahaocjdpaaGreat
open Go.RowKit

structure PLit where
  neg : Bool
  pd : ByteArray
  ts : List (Bool × ByteArray)

def PLit.cells (L : PLit) (tv : Value) : List Value := [.bool L.neg, .string L.pd, tv]
def plCells (ls : List (PLit × Value)) : List Value := ls.flatMap fun x => x.1.cells x.2
theorem plCells_snoc (l : List (PLit × Value)) (A : PLit) (tv : Value) : plCells (l ++ [(A, tv)]) = plCells l ++ A.cells tv := by simp [plCells]

structure LRow (w : World) (base : Nat) (bv : Value) (ls : List (PLit × Value)) : Prop where
  row : w.ownsRow base 183 3 bv ls.length (plCells ls)
  each : ∀ x ∈ ls, w.ownsRow base 191 1 x.2 x.1.ts.length (ptCells x.1.ts)

/-- What a literal at a place is, if its atom is of this predicate and these terms; where it is mentioned. -/
def plitOf (s : ByteArray) (p : Nat) (pd : ByteArray) (ts : List (Bool × ByteArray)) : PLit := ⟨(scanK s p).1 == 4, pd, ts⟩
def pmenOf (s : ByteArray) (num p : Nat) (pd : ByteArray) (ts : List (Bool × ByteArray)) (pl : Nat → Nat) : PMen := ⟨num, (scanK s p).1 == 4, pd, ts, (scanK s p).2.1, (scanK s (rtake s p 4)).2.1, pl⟩

/-- Whether it could be read; where the reader stands; the literals; the mentions. -/
def pbodyS (s : ByteArray) (num : Nat) : Nat → Nat → List PLit → List PMen → Bool × Nat × List PLit × List PMen
  | 0, p, l, ms => (false, p, l, ms)
  | f + 1, p, l, ms =>
    match patomS s (rtake s p 4) with
    | .no q => (false, q, l, ms)
    | .yes q pd ts pl =>
      if (scanK s q).1 = 7 then pbodyS s num f (scanK s q).2.2 (l ++ [plitOf s p pd ts]) (ms ++ [pmenOf s num p pd ts pl])
      else (decide ((scanK s q).1 = 8), rtake s q 8, l ++ [plitOf s p pd ts], ms ++ [pmenOf s num p pd ts pl])

structure PRule where
  pd : ByteArray
  ts : List (Bool × ByteArray)
  body : List PLit

def phead (s : ByteArray) (num p : Nat) (pd : ByteArray) (ts : List (Bool × ByteArray)) (pl : Nat → Nat) : PMen := ⟨num, false, pd, ts, (scanK s p).2.1, (scanK s p).2.1, pl⟩

def pruleS (s : ByteArray) (num p : Nat) (ms : List PMen) : Bool × Nat × PRule × List PMen :=
  match patomS s p with
  | .no q => (false, q, ⟨{ data := #[] }, [], []⟩, ms)
  | .yes q pd ts pl =>
    if (scanK s q).1 = 8 then (true, (scanK s q).2.2, ⟨pd, ts, []⟩, ms ++ [phead s num p pd ts pl])
    else if (scanK s q).1 = 9 then
      ((pbodyS s num 3 (scanK s q).2.2 [] (ms ++ [phead s num p pd ts pl])).1, (pbodyS s num 3 (scanK s q).2.2 [] (ms ++ [phead s num p pd ts pl])).2.1, ⟨pd, ts, (pbodyS s num 3 (scanK s q).2.2 [] (ms ++ [phead s num p pd ts pl])).2.2.1⟩, (pbodyS s num 3 (scanK s q).2.2 [] (ms ++ [phead s num p pd ts pl])).2.2.2)
    else (false, q, ⟨pd, ts, []⟩, ms ++ [phead s num p pd ts pl])

def prulesS (s : ByteArray) : Nat → Nat → List PRule → List PMen → Bool × Nat × List PRule × List PMen
  | 0, p, rs, ms => (false, p, rs, ms)
  | f + 1, p, rs, ms =>
    if (scanK s p).1 = 0 then (true, p, rs, ms)
    else if rs.length = 30 then (false, p, rs, ms)
    else if (pruleS s rs.length p ms).1 then prulesS s f (pruleS s rs.length p ms).2.1 (rs ++ [(pruleS s rs.length p ms).2.2.1]) (pruleS s rs.length p ms).2.2.2
    else (false, (pruleS s rs.length p ms).2.1, rs, (pruleS s rs.length p ms).2.2.2)

/-! ### where rows lie -/

theorem own_block {w w' : World} {base : Nat} {e : TypeId} {size : Nat} {v : Value} {n : Nat} {xs : List Value} (h : w.ownsRow base e size v n xs) (hb : ∀ g, v.ownBlock = some g → w'.heap[g]? = w.heap[g]?) : w'.ownsRow base e size v n xs := by
  refine ⟨h.1, ?_⟩
  rcases h.2 with hn | ⟨g, cap, cur, rfl, hb', hgg, rest⟩
  · exact .inl hn
  · exact .inr ⟨g, cap, cur, rfl, hb', (hb g rfl).trans hgg, rest⟩

/-- A block of this number is of another type than e. -/
def NotT (w : World) (e : TypeId) (x : Nat) : Prop := ∀ c fr, w.heap[x]? ≠ some (.cells c e fr)

theorem own_notT {w : World} {base : Nat} {e0 e : TypeId} {size : Nat} {v : Value} {n : Nat} {xs : List Value} (h : w.ownsRow base e0 size v n xs) (hne : e0 ≠ e) : ∀ x ∈ v.ownBlock.toList, NotT w e x := by
  intro x hx c fr he
  have hx' : v.ownBlock = some x := by simpa using hx
  rcases h.2 with ⟨rfl, _⟩ | ⟨g, cap, cur, rfl, _, hgg, _⟩
  · cases hx'
  · injection hx' with hx'
    simp only at hx'
    subst hx'
    rw [he] at hgg
    injection hgg with hgg
    injection hgg with _ hgg _
    exact hne hgg.symm

theorem own_keptT {B : List Nat} {w w' : World} {base : Nat} {e : TypeId} {size : Nat} {v : Value} {n : Nat} {xs : List Value} (h : w.ownsRow base e size v n xs) (k : Kept B w w') (hB : ∀ x ∈ B, x < base ∨ NotT w e x) : w'.ownsRow base e size v n xs := by
  refine ⟨h.1, ?_⟩
  rcases h.2 with hn | ⟨g, cap, cur, rfl, hb', hgg, rest⟩
  · exact .inl hn
  · refine .inr ⟨g, cap, cur, rfl, hb', ?_, rest⟩
    rw [k.block g (Array.getElem?_eq_some_iff.1 hgg).1 (fun hm => by
      rcases hB g hm with h1 | h1
      · omega
      · exact h1 _ _ hgg)]
    exact hgg

theorem Kept.step {B C : List Nat} {a w w' : World} (h : Kept B a w) (k : Kept C w w') (hC : ∀ x ∈ C, x ∈ B ∨ a.heap.size ≤ x) : Kept B a w' :=
  ⟨k.os.trans h.os, k.tape.trans h.tape, k.output.trans h.output, Nat.le_trans h.size k.size, fun i hi hn => (k.block i (Nat.lt_of_lt_of_le hi h.size) (fun hm => by
    rcases hC i hm with h1 | h1
    · exact hn h1
    · omega)).trans (h.block i hi hn)⟩

theorem LRow.keptT {B : List Nat} {w w' : World} {base : Nat} {bv : Value} {ls : List (PLit × Value)} (h : LRow w base bv ls) (k : Kept B w w') (hB : ∀ x ∈ B, x < base ∨ (NotT w 183 x ∧ NotT w 191 x)) : LRow w' base bv ls :=
  ⟨own_keptT h.row k (fun x hx => (hB x hx).imp id And.left), fun y hy => own_keptT (h.each y hy) k (fun x hx => (hB x hx).imp id And.right)⟩
theorem LRow.low {w : World} {base base' : Nat} {bv : Value} {ls : List (PLit × Value)} (h : LRow w base bv ls) (hb : base' ≤ base) : LRow w base' bv ls :=
  ⟨ownsRow_low h.row hb, fun y hy => ownsRow_low (h.each y hy) hb⟩
theorem MRow.keptT {B : List Nat} {w w' : World} {base : Nat} {mv : Value} {ms : List (PMen × Value)} (h : MRow w base mv ms) (k : Kept B w w') (hB : ∀ x ∈ B, x < base ∨ (NotT w 221 x ∧ NotT w 191 x)) : MRow w' base mv ms :=
  ⟨own_keptT h.row k (fun x hx => (hB x hx).imp id And.left), fun y hy => own_keptT (h.each y hy) k (fun x hx => (hB x hx).imp id And.right)⟩

structure BInv (w : World) (b : Nat) (s : ByteArray) (num : Nat) (mv : Value) (ls : List (PLit × Value)) (p : Nat) (ms : List (PMen × Value)) (mv1 bv : Value) (wr : World) : Prop where
  rdr : Rdr wr b s p num mv1
  hp : p ≤ s.size
  men : MRow wr (b + 1) mv1 ms
  lits : LRow wr w.heap.size bv ls
  kept : Kept (b :: mv.ownBlock.toList) w wr
  at_ : ∀ k, mv1.ownBlock = some k → mv.ownBlock = some k ∨ w.heap.size ≤ k
  bw : b < w.heap.size

theorem BInv.take {w : World} {b : Nat} {s : ByteArray} {num : Nat} {mv : Value} {ls : List (PLit × Value)} {p : Nat} {ms : List (PMen × Value)} {mv1 bv : Value} {wr w1 : World} {p' : Nat} (h : BInv w b s num mv ls p ms mv1 bv wr) (k : Kept [b] wr w1) (hr : Rdr w1 b s p' num mv1) (hp : p' ≤ s.size) : BInv w b s num mv ls p' ms mv1 bv w1 :=
  have h2 := h.bw
  ⟨hr, hp, h.men.kept k (by simp), h.lits.keptT k (by simp; omega), h.kept.step k (by simp), h.at_, h.bw⟩

theorem BInv.lit {w : World} {b : Nat} {s : ByteArray} {num : Nat} {mv : Value} {ls : List (PLit × Value)} {p : Nat} {ms : List (PMen × Value)} {mv1 bv : Value} {wr w1 : World} {p' : Nat} {mv2 : Value} {ms' : List (PMen × Value)} (h : BInv w b s num mv ls p ms mv1 bv wr) (k : Kept (b :: mv1.ownBlock.toList) wr w1) (hr : Rdr w1 b s p' num mv2) (hp : p' ≤ s.size) (hm : MRow w1 (b + 1) mv2 ms') (hat : ∀ k, mv2.ownBlock = some k → mv1.ownBlock = some k ∨ wr.heap.size ≤ k) : BInv w b s num mv ls p' ms' mv2 bv w1 := by
  have h2 := h.bw
  have hz := h.kept.size
  refine ⟨hr, hp, hm, h.lits.keptT k (fun x hx => ?_), h.kept.step k (fun x hx => ?_), fun x hx => ?_, h.bw⟩
  · rcases List.mem_cons.1 hx with rfl | hx
    · exact .inl h2
    · exact .inr ⟨own_notT h.men.row (by decide) x hx, own_notT h.men.row (by decide) x hx⟩
  · rcases List.mem_cons.1 hx with rfl | hx
    · exact .inl (by simp)
    · rcases h.at_ x (by simpa using hx) with h1 | h1
      · exact .inl (by simp [h1])
      · exact .inr h1
  · rcases hat x hx with h1 | h1
    · exact h.at_ x h1
    · exact .inr (by omega)

theorem BInv.append {w : World} {b : Nat} {s : ByteArray} {num : Nat} {mv : Value} {ls : List (PLit × Value)} {p : Nat} {ms : List (PMen × Value)} {mv1 bv : Value} {w1 W w5 : World} (h : BInv w b s num mv ls p ms mv1 bv w1) (kW : Kept [] w1 W) {L : PLit} {tv bv' : Value}
    (ht : w1.ownsRow w.heap.size 191 1 tv L.ts.length (ptCells L.ts)) (hown : w5.ownsRow w.heap.size 183 3 bv' (ls.length + 1) (plCells ls ++ L.cells tv)) (hg : W.grownBy w5 bv.ownBlock) :
    BInv w b s num mv (ls ++ [(L, tv)]) p ms mv1 bv' w5 := by
  have h2 := h.bw
  have k5 : Kept bv.ownBlock.toList w1 w5 := ((kW.mono (C := bv.ownBlock.toList) (by simp))).grown hg (fun k e => .inr (by simp [e]))
  have hrow : ∀ k, bv.ownBlock = some k → w.heap.size ≤ k := fun k e => (h.lits.row.lt k e).1
  have hnot : b ∉ bv.ownBlock.toList := fun hm => by have := hrow b (by simpa using hm); omega
  have far : ∀ {v : Value} {n : Nat} {xs : List Value}, w1.ownsRow w.heap.size 191 1 v n xs → w5.ownsRow w.heap.size 191 1 v n xs := fun {v n xs} hx => own_keptT hx k5 (fun x hx => .inr (own_notT h.lits.row (by decide) x hx))
  refine ⟨h.rdr.kept k5 hnot, h.hp, h.men.keptT k5 (fun x hx => .inr ⟨own_notT h.lits.row (by decide) x hx, own_notT h.lits.row (by decide) x hx⟩), ⟨?_, fun x hx => ?_⟩, h.kept.step k5 (fun x hx => .inr (hrow x (by simpa using hx))), h.at_, h.bw⟩
  · rw [plCells_snoc, List.length_append]; exact hown
  · rcases List.mem_append.1 hx with hx | hx
    · exact far (h.lits.each x hx)
    · simp at hx; subst hx; exact far ht
end Go.Proofs.YtldkpahaocjdpaaGreat

namespace Go.Proofs.YtldkpahaocjdpaaGreat
open Go.RowKit

theorem infoLit : (Tryz.prog.info? 183).map (fun i => (i.zero, i.size, i.bytes)) = some (some (.agg #[.bool false, .string { data := #[] }, .slice none 0 0]), 3, 48) := by kernel_rfl

theorem plit_cell (w1 : World) (o : Obj) (L : PLit) (tv : Value) (j : Nat) (u : Value) (h : (L.cells tv)[j]? = some u) : ((w1.alloc o).alloc (Obj.cells #[Value.bool L.neg, Value.string L.pd, tv] 183)).cell? ((⟨w1.heap.size + 1, 0, none⟩ : Addr).add j) = some u := by
  have e : (⟨w1.heap.size + 1, 0, none⟩ : Addr).add j = ⟨w1.heap.size + 1, j, none⟩ := by unfold Addr.add; split <;> simp_all
  rw [e, World.cell?_alloc_at _ _ _ _ (by simp)]
  simpa [PLit.cells] using h
theorem plit_one (L : PLit) (a : Option Addr) (n c : Nat) : ∀ u ∈ L.cells (.slice a n c), u.oneCell' = true := by
  intro u hu; simp [PLit.cells] at hu; rcases hu with rfl | rfl | rfl <;> rfl

theorem rtake_le {s : ByteArray} {p : Nat} {k : Int} (h : p ≤ s.size) : rtake s p k ≤ s.size := by
  unfold rtake; split
  · exact (scan_le s p h).2
  · exact h
theorem pterms_le (s : ByteArray) (f : Nat) : ∀ {p : Nat} {l : List (Bool × ByteArray)} {pl : Nat → Nat}, p ≤ s.size → (ptermsS s f p l pl).2.1 ≤ s.size := by
  induction f with
  | zero => intro p l pl h; exact h
  | succ f ih =>
    intro p l pl h
    have h1 := (scan_le s p h).2
    rw [ptermsS]
    split
    · split
      · exact ih (scan_le s _ h1).2
      · exact rtake_le h1
    · exact h
theorem patom_le {s : ByteArray} {p : Nat} (h : p ≤ s.size) : match patomS s p with | .no q => q ≤ s.size | .yes q _ _ _ => q ≤ s.size := by
  have h1 := (scan_le s p h).2
  have h2 := (scan_le s _ h1).2
  have h3 := pterms_le s 4 (l := []) (pl := fun _ => 0) h2
  unfold patomS
  by_cases c1 : (scanK s p).1 = 2
  · rw [if_pos c1]
    by_cases c2 : (scanK s (scanK s p).2.2).1 = 5
    · rw [if_pos c2]
      by_cases c3 : (ptermsS s 4 (scanK s (scanK s p).2.2).2.2 [] (fun _ => 0)).1 = true
      · rw [if_pos c3]; exact h3
      · rw [if_neg c3]; exact h3
    · rw [if_neg c2]; exact h1
  · rw [if_neg c1]; exact h

theorem pbody_step (s : ByteArray) (num p : Nat) (l : List PLit) (ms : List PMen) (n : Nat) (hn : n < 3) : pbodyS s num (3 - n) p l ms = match patomS s (rtake s p 4) with
    | .no q => (false, q, l, ms)
    | .yes q pd ts pl =>
      if (scanK s q).1 = 7 then pbodyS s num (3 - (n + 1)) (scanK s q).2.2 (l ++ [plitOf s p pd ts]) (ms ++ [pmenOf s num p pd ts pl])
      else (decide ((scanK s q).1 = 8), rtake s q 8, l ++ [plitOf s p pd ts], ms ++ [pmenOf s num p pd ts pl]) := by
  have e : 3 - n = (3 - (n + 1)) + 1 := by omega
  rw [e, pbodyS]
  all_goals (cases patomS s (rtake s p 4) <;> rfl)

def BodyPost (w : World) (b : Nat) (s : ByteArray) (num : Nat) (mv : Value) (n0 : Nat) (P : Bool × Nat × List PLit × List PMen) (e : Ending) (w' : World) : Prop :=
  ∃ (a : Option Addr) (n c : Nat) (mv' : Value) (ls : List (PLit × Value)) (ms' : List (PMen × Value)), e = .returned (.tuple #[.slice a n c, .bool P.1]) ∧ Kept (b :: mv.ownBlock.toList) w w' ∧ Rdr w' b s P.2.1 num mv' ∧
    MRow w' (b + 1) mv' ms' ∧ ms'.map (·.1) = P.2.2.2 ∧ ms'.length ≤ n0 + 3 ∧ (∀ k, mv'.ownBlock = some k → mv.ownBlock = some k ∨ w.heap.size ≤ k) ∧ (P.1 = true → LRow w' w.heap.size (.slice a n c) ls ∧ ls.map (·.1) = P.2.2.1 ∧ ls.length ≤ 3 ∧ P.2.1 ≤ s.size)

theorem body_out {w : World} {b : Nat} {s : ByteArray} {num : Nat} {mv : Value} {ls : List (PLit × Value)} {p : Nat} {ms : List (PMen × Value)} {mv1 bv : Value} {wr : World} {n0 : Nat} {l : List PLit} (h : BInv w b s num mv ls p ms mv1 bv wr) (hn : ms.length ≤ n0 + 3) : BodyPost w b s num mv n0 (false, p, l, ms.map (·.1)) (.returned (.tuple #[.slice none 0 0, .bool false])) wr :=
  ⟨none, 0, 0, mv1, [], ms, rfl, h.kept, h.rdr, h.men, rfl, hn, h.at_, fun e => by cases e⟩

set_option maxRecDepth 100000 in
set_option maxHeartbeats 8000000 in
theorem pbody_any (w : World) (b : Nat) (s : ByteArray) (pos num : Nat) (mv : Value) (ms0 : List (PMen × Value)) (h : Rdr w b s pos num mv) (hms : MRow w (b + 1) mv ms0) (hml : ms0.length ≤ 900) (hpos : pos ≤ s.size) (hs : s.size ≤ 800) :
    Calls Tryz.prog 117 #[.pointer (some ⟨b, 0, none⟩)] w (BodyPost w b s num mv ms0.length (pbodyS s num 3 pos [] (ms0.map (·.1)))) := by
  have hsm : s.size ≤ maxLen := by unfold maxLen; omega
  obtain ⟨i0, hi, hz0, hz1, hz2⟩ := info_parts infoLit
  have hst : BInv w b s num mv [] pos ms0 mv (.slice none 0 0) w := ⟨h, hpos, hms, ⟨World.ownsRow_nil _ _ _ _, by simp⟩, Kept.refl _ _, fun k e => .inl e, h.lt⟩
  clear h hms
  go_enter Tryz.func117, Tryz.ntmps117
  go_wp2_with fail
  go_loopg [4] 5 (fun g bv wr => ∃ (ls : List (PLit × Value)) (ms : List (PMen × Value)) (p : Nat) (mv1 : Value), ls.length ≤ 3 ∧ 4 - ls.length ≤ g ∧ ms.length = ms0.length + ls.length ∧ BInv w b s num mv ls p ms mv1 bv wr ∧ pbodyS s num 3 pos [] (ms0.map (·.1)) = pbodyS s num (3 - ls.length) p (ls.map (·.1)) (ms.map (·.1)))
  case atStart => exact ⟨[], ms0, pos, mv, by simp, by simp, by simp, hst, rfl⟩
  case round =>
    clear hst
    obtain ⟨ls, ms, p, mv1, hl3, hg, hmm, hinv, hfin⟩ := hrel
    obtain ⟨a1, cap1, rfl⟩ := own_slice hinv.lits.row
    have HF := hide hfin
    clear hfin
    have hpl := hinv.hp
    by_cases h3 : ls.length = 3
    · have h3i : ¬ ((ls.length : Int) < 3) := by omega
      have HI := hide hinv
      clear hinv
      go_wp2_with fail
      go_ret2
      rw [unhide HF, h3]
      exact body_out (unhide HI) (by omega)
    · have h3i : (ls.length : Int) < 3 := by omega
      have hl2 : ls.length < 3 := by omega
      have HF1 := hide ((unhide HF).trans (pbody_step s num p (ls.map (·.1)) (ms.map (·.1)) ls.length hl2))
      have hwz : w.heap.size ≤ wr.heap.size := hinv.kept.size
      clear HF h3
      go_wp2_with fail
      refine (plit_any wr b s p num mv1 ms hinv.rdr hinv.men (by omega) hpl hs).mono ?_
      intro e w1 hpost
      have hq := patom_le (rtake_le (k := 4) hpl)
      cases hr : patomS s (rtake s p 4) with
      | no q =>
        rw [hr] at hpost hq HF1
        obtain ⟨rfl, hk1, hr1⟩ := hpost
        have hinv1 := hinv.take hk1 hr1 hq
        have HI := hide hinv1
        clear hinv hk1 hr1 hr hinv1
        go_wp2_with fail
        go_ret2
        rw [unhide HF1]
        have kk := (Kept.refl [] w1).alloc (Obj.cells #[Value.bool ((scanK s p).1 == 4), .string { data := #[] }, .slice none 0 0] 183)
        have hI := unhide HI
        exact ⟨none, 0, 0, mv1, [], ms, rfl, hI.kept.alloc _, hI.rdr.kept kk (by simp), hI.men.keptT kk (by simp), rfl, by omega, hI.at_, fun e => by cases e⟩
      | yes q pd ts pl =>
        rw [hr] at hpost hq HF1
        obtain ⟨tv, mv2, rfl, hk1, hr1, hm1, ht1, hw1⟩ := hpost
        obtain ⟨at1, capt, rfl⟩ := own_slice ht1
        have hinv1 := hinv.lit hk1 hr1 hq hm1 hw1
        have ht2 := ownsRow_low ht1 hwz
        have hownA := hinv1.lits.row
        have hz1' := hinv1.kept.size
        have HI := hide hinv1
        clear hinv hk1 hr1 hr hm1 ht1 hw1 hinv1
        go_wp2_with (at_builtin; refine wpList_append_own _ rfl _ _ 121 rfl w.heap.size 183 i0 _ 3 48 Tryz.underlying121 hi hz0 hz1 hz2 rfl (by decide) _ _ _ rfl ((hownA.alloc _).alloc _) ⟨w1.heap.size + 1, 0, none⟩ 1 1 ((plitOf s p pd ts).cells (.slice at1 ts.length capt)) rfl rfl (plit_cell w1 _ (plitOf s p pd ts) _) (plit_one _ _ _ _) (by unfold maxLen; omega) (by omega) (by simp; omega) ?_)
        intro v5 w5 hown5 hg5 hne5
        clear hne5
        obtain ⟨a5, cap5, rfl⟩ := own_slice hown5
        have hinv5 := (unhide HI).append (L := plitOf s p pd ts) (((Kept.refl [] w1).alloc _).alloc _) ht2 hown5 hg5
        have HI5 := hide hinv5
        clear hown5 hg5 hownA HI hinv5 ht2
        go_wp2_with fail
        refine (rtake_any s q num mv2 7 b _ (unhide HI5).rdr hq hsm).mono ?_
        rintro e w7 ⟨rfl, hk7, hr7⟩
        cases hc : (scanK s q).1 == 7 with
        | true =>
          have hc' : (scanK s q).1 = 7 := by simpa using hc
          have e7 : rtake s q 7 = (scanK s q).2.2 := by unfold rtake; rw [if_pos hc]
          rw [e7] at hr7
          have hinv7 := (unhide HI5).take hk7 hr7 (scan_le s q hq).2
          have HF2 := hide ((unhide HF1).trans (if_pos hc'))
          have HI7 := hide hinv7
          clear HF1 HI5 hk7 hr7 hc hc' e7 hinv7
          go_wp2_with fail
          go_roundg (4 - (ls.length + 1))
          case measure => omega
          case rel => exact ⟨_, _, _, _, by simp; omega, by simp, by simp; omega, unhide HI7, by simpa [plitOf, pmenOf] using unhide HF2⟩
        | false =>
          have hc' : ¬ (scanK s q).1 = 7 := by simpa using hc
          have e7 : rtake s q 7 = q := by unfold rtake; rw [if_neg (by rw [hc]; decide)]
          rw [e7] at hr7
          have hinv7 := (unhide HI5).take hk7 hr7 hq
          have HF2 := hide ((unhide HF1).trans (if_neg hc'))
          have HI7 := hide hinv7
          clear HF1 HI5 hk7 hr7 hc hc' e7 hinv7
          go_wp2_with fail
          refine (rtake_any s q num mv2 8 b _ (unhide HI7).rdr hq hsm).mono ?_
          rintro e w8 ⟨rfl, hk8, hr8⟩
          have hinv8 := (unhide HI7).take hk8 hr8 (rtake_le hq)
          have HI8 := hide hinv8
          clear HI7 hk8 hr8 hinv8
          go_wp2_with fail
          go_ret2
          rw [unhide HF2]
          have hI := unhide HI8
          have hb : decide ((scanK s q).1 = 8) = ((scanK s q).1 == 8) := by rw [Bool.eq_iff_iff]; simp
          refine ⟨a5, ls.length + 1, cap5, _, _, _, by rw [hb]; rfl, hI.kept, hI.rdr, hI.men, by simp [pmenOf], by simp; omega, hI.at_, fun _ => ⟨by simpa using hI.lits, by simp [plitOf], by simp; omega, hI.hp⟩⟩
end Go.Proofs.YtldkpahaocjdpaaGreat
