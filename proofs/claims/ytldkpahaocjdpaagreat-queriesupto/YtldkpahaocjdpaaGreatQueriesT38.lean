/-
  Fill: an atom with what its variables stand for.
  What a search for ways has in memory, and what a round keeps of it; the ways, plain.
  Bindings are of twenty-five cells: they are loaded, stored and made whole, and not cell by cell.
  denied: whether a negative literal is said after all.
  from, where all positive literals are matched: the round.
-/
import Derived.Test.YtldkpahaocjdpaaGreatQueriesT37
import Derived.Deep.MidRow
import Derived.RangeFuncNested
import Derived.Deep.WholeRow
import Derived.Test.YtldkpahaocjdpaaGreatQueriesT21
import Derived.Deep.RegionHeld3
import Derived.RangeFuncBound
import Derived.RangeFuncCalls
import Derived.RangeFuncLeaves
import Derived.Shelf.Abstract
import Derived.Shelf.RegionOpen
import Derived.WalkKit
import Derived.OwnWalkIn
import Derived.TacticsInMore
import Derived.LoopNIn
import Derived.LoopIn
import Derived.Stop.RegionWithIn
set_option maxHeartbeats 16000000
namespace Go.Proofs.YtldkpahaocjdpaaGreat
section
open Go.RowKit
def zit (e : PEnv) (t : PTerm) : ByteArray := if t.1 then zhb e t.2 else t.2
def zc9 (e : PEnv) (A : PAtm) : Th := ⟨A.p, A.ts.map (zit e)⟩
theorem nth4_snoc (L : List ByteArray) (x : ByteArray) (i : Nat) : nth4 (L ++ [x]) i = if i = L.length then x else nth4 L i := by
 unfold nth4
 rw [List.getElem?_append]
 split
 ·rename_i h; rw [if_neg (by omega)]
 ·rename_i h
  split
  ·rename_i h2; subst h2; simp
  ·rename_i h2
   rw [List.getElem?_eq_none (by simp; omega), List.getElem?_eq_none (by omega)]
theorem thCells_set (p : ByteArray) (L : List ByteArray) (x : ByteArray) (h : L.length < 4) : (zbd ⟨p, L⟩).toArray.setIfInBounds (1 + L.length) (.string x) = (zbd ⟨p, L ++ [x]⟩).toArray := by
 unfold zbd
 simp only [Th.p, Th.ts, nth4_snoc]
 match hl : L.length, h with
 | 0, _ | 1, _ | 2, _ | 3, _ => simp
theorem zoi : (Tryz.prog.info? 88).map (·.size) = some 5 := by kernel_rfl
theorem zjw (t : Th) : (zbd t).toArray.all (·.oneCell') = true := by simp [zbd, Value.oneCell']
theorem fill_set {wr : World} {b : Nat} {p : ByteArray} {L : List ByteArray} (h : wr.heap[b]? = some (.cells (zbd ⟨p, L⟩).toArray 88 (0, 0))) (hl : L.length < 4) (x : ByteArray) : (wr.setCell ⟨b, 1 + L.length, none⟩ (.string x)).heap[b]? = some (.cells (zbd ⟨p, L ++ [x]⟩).toArray 88 (0, 0)) := by
 rw [setCell_eq_setRow wr b _ _ _ (0, 0) _ h, thCells_set p L x hl]
 exact setRow_heap _ _ _ _ _ _ h
def FillPost (w : World) (t : Th) (en : Ending) (w' : World) : Prop := Below w.heap.size w w' ∧ en = .returned (thV t)
set_option maxRecDepth 100000 in
theorem zpq (w : World) (base : Nat) (e : PEnv) (A : PAtm) (a : Option Addr) (c : Nat) (h : w.ownsRow base 191 1 (.slice a A.ts.length c) A.ts.length (A.ts.map zgr)) (h4 : A.ts.length ≤ 4) (hl : e.length ≤ 12) :
  Calls Tryz.prog 146 #[zec e, .agg #[.string A.p, .slice a A.ts.length c]] w (FillPost w (zc9 e A)) := by
 obtain ⟨cs, hcs⟩ : ∃ cs, cs = (za5 e).toArray := ⟨_, rfl⟩
 have HCS := hide hcs
 unfold zec
 rw [← hcs]
 clear hcs
 have H := hide h
 clear h
 have q0 : cs.size = 25 := by rw [zaa HCS]; rfl
 have a1 := zoq
 have a2 := zma
 have a3 := zn7
 go_enter Tryz.func146, Tryz.ntmps146
 go_upto_region 2 with fail
 generalize hw0 : World.alloc (World.alloc (World.alloc (World.alloc w _) _) _) _ = w0
 have k0 : Below w.heap.size w w0 := by
  rw [← hw0]
  exact ((((Below.refl w.heap.size w).alloc (Nat.le_refl _) _).alloc (by simp) _).alloc (by simp only [World.size_alloc]; omega) _).alloc (by simp only [World.size_alloc]; omega) _
 have x0 : w0.heap[w.heap.size]? = some (.cells cs 135 (0, 0)) := by
  rw [← hw0, Below.heap_alloc _ _ _ (by simp only [World.size_alloc]; omega), Below.heap_alloc _ _ _ (by simp only [World.size_alloc]; omega), Below.heap_alloc _ _ _ (by simp)]
  exact heap_alloc_new w _
 have x1 : w0.heap[w.heap.size + 1]? = some (.cells #[.string A.p, .slice a A.ts.length c] 79 (0, 0)) := by
  rw [← hw0, Below.heap_alloc _ _ _ (by simp only [World.size_alloc]; omega), Below.heap_alloc _ _ _ (by simp)]
  have := heap_alloc_new (w.alloc (.cells cs 135)) (.cells #[.string A.p, .slice a A.ts.length c] 79)
  rw [World.size_alloc] at this
  exact this
 have x2 : w0.heap[w.heap.size + 1 + 1]? = some (.cells (zbd ⟨{ data := #[] }, []⟩).toArray 88 (0, 0)) := by
  rw [← hw0, Below.heap_alloc _ _ _ (by simp)]
  have := heap_alloc_new ((w.alloc (.cells cs 135)).alloc (.cells #[.string A.p, .slice a A.ts.length c] 79)) (.cells (zbd ⟨{ data := #[] }, []⟩).toArray 88)
  rw [World.size_alloc, World.size_alloc] at this
  exact this
 have x3 : w0.heap[w.heap.size + 1 + 1 + 1]? = some (.cells (zbd ⟨A.p, []⟩).toArray 88 (0, 0)) := by
  rw [← hw0]
  have := heap_alloc_new (((w.alloc (.cells cs 135)).alloc (.cells #[.string A.p, .slice a A.ts.length c] 79)).alloc (.cells (zbd ⟨{ data := #[] }, []⟩).toArray 88)) (.cells (zbd ⟨A.p, []⟩).toArray 88)
  rw [World.size_alloc, World.size_alloc, World.size_alloc] at this
  exact this
 have s0 : w.heap.size + 1 + 1 + 1 + 1 = w0.heap.size := by rw [← hw0]; simp
 have b0 : BindIn w0 w.heap.size e := BindIn.of (by rw [x0, zaa HCS])
 have hr0 := zbb (zaa H) (fun g e => k0.block g ((zaa H).lt g e).2)
 have HG := hide (fun g (e1 : (Value.slice a A.ts.length c).ownBlock = some g) => ((zaa H).lt g e1).2)
 clear hw0 H
 have HB0 := hide b0
 have HS0 := hide s0
 have HX3 := hide x3
 have HX2 := hide x2
 have HR0 := hide hr0
 have HK0 := hide k0
 obtain ⟨p1, -⟩ := zab x1 1
 have HX1 := hide x1
 clear x0 x1 x2 x3 b0 hr0 k0 s0
 go_wp2_with fail
 go_loopg [16] A.ts.length (fun gg i wr => ∃ (k : Nat) (L : List ByteArray), k ≤ A.ts.length ∧ gg = A.ts.length - k ∧ i = .int .i64 k ∧ L = (A.ts.take k).map (zit e) ∧ wr.heap[w.heap.size + 1 + 1 + 1]? = some (.cells (zbd ⟨A.p, L⟩).toArray 88 (0, 0)) ∧ Kept [w.heap.size + 1 + 1 + 1] w0 wr)
 case atStart => exact ⟨0, [], Nat.zero_le _, rfl, rfl, rfl, zaa HX3, Kept.refl _ _⟩
 case round =>
  obtain ⟨k, L, hk, hgk, rfl, hL, hx, hkp⟩ := hrel
  have hll : L.length = k := by rw [hL]; simp; omega
  have sz0 := zaa HS0
  have HKB := hide (show Below w.heap.size w wr from ⟨hkp.os.trans (zaa HK0).os, hkp.tape.trans (zaa HK0).tape, hkp.output.trans (zaa HK0).output, Nat.le_trans (zaa HK0).size hkp.size, fun i hi => (hkp.block i (by omega) (by simp; omega)).trans ((zaa HK0).block i hi)⟩)
  have HX := hide hx
  have HKP := hide hkp
  have HL := hide hL
  have HLL := hide hll
  by_cases hlk : k < A.ts.length
  ·obtain ⟨g, rfl, hg0, hnc, hcm, hc⟩ := termsAt (zaa HR0) k hlk
   have hg1 := zaa HG g rfl
   have hc' : wr.cell? ⟨g, k, none⟩ = some (zgr A.ts[k]) := ((zaa HKP).cell (p := ⟨g, k, none⟩) hg0 (by simp; omega)).trans hc
   have HBW := hide ((zaa HB0).block (hkp.block _ (by omega) (by simp; omega)))
   obtain ⟨hcell, hfz⟩ := zab hx (1 + k)
   replace hcell : wr.cell? ⟨w.heap.size + 1 + 1 + 1, 1 + k, none⟩ = some (.string (nth4 L k)) := by
    rw [hcell, List.getElem?_toArray]; exact zgk ⟨A.p, L⟩ (by omega)
   have hki : (k : Int) < A.ts.length := by omega
   have hk5 : (1 + k : Int) < 5 := by omega
   have HST := hide (show (A.ts.take (k + 1)).map (zit e) = L ++ [zit e A.ts[k]] by rw [List.take_succ_eq_append_getElem hlk, List.map_append, zaa HL]; rfl)
   clear hc sz0 hx hkp hL hll
   cases hv : A.ts[k].1 with
   | false =>
    have HF := hide (show zit e A.ts[k] = A.ts[k].2 by unfold zit; rw [hv]; rfl)
    have hc2 : wr.cell? ⟨g, k, none⟩ = some (.iface 193 (.string A.ts[k].2)) := by rw [hc']; unfold zgr; rw [hv]; rfl
    clear hc'
    go_wp2_with fail
    go_roundg (A.ts.length - (k + 1))
    case measure => omega
    case rel =>
     have := fill_set (zaa HX) (by rw [zaa HLL]; omega) A.ts[k].2
     rw [zaa HLL] at this
     exact ⟨k + 1, L ++ [A.ts[k].2], by omega, rfl, by go_num, by rw [zaa HST, zaa HF], this, (zaa HKP).setCell (by simp) _⟩
   | true =>
    have HF := hide (show zit e A.ts[k] = zhb e A.ts[k].2 by unfold zit; rw [hv]; rfl)
    have hc2 : wr.cell? ⟨g, k, none⟩ = some (.iface 130 (.string A.ts[k].2)) := by rw [hc']; unfold zgr; rw [hv]; rfl
    have HN := hide (zpp wr w.heap.size e A.ts[k].2 (zaa HBW).cells hl)
    clear hc'
    go_wp2_with (go_at_call 201; refine (zaa HN).mono ?_; rintro en w1 ⟨rfl, hw1⟩; subst hw1)
    go_roundg (A.ts.length - (k + 1))
    case measure => omega
    case rel =>
     have := fill_set (zaa HX) (by rw [zaa HLL]; omega) (zhb e A.ts[k].2)
     rw [zaa HLL] at this
     exact ⟨k + 1, L ++ [zhb e A.ts[k].2], by omega, rfl, by go_num, by rw [zaa HST, zaa HF], this, (zaa HKP).setCell (by simp) _⟩
  ·have HE := hide (show (⟨A.p, L⟩ : Th) = zc9 e A by unfold zc9; rw [hL, List.take_of_length_le (by omega)])
   have HY2 := hide ((hkp.block (w.heap.size + 1 + 1) (by omega) (by simp)).trans (zaa HX2))
   clear sz0 hx hkp hL hll
   go_wp2_with (first | (refine wpList_load_row rfl 88 _ rfl _ rfl _ _ _ _ (zaa HX) Tryz.underlying88 rfl (by rw [zoi]; rfl) ?_) | (refine wpList_store_row rfl 88 _ _ rfl _ _ rfl rfl _ _ (zaa HY2) (by rw [zoi]; rfl) rfl (zjw _) ?_) | fail)
   refine bodyPost_ret (v := thV ⟨A.p, L⟩) (results_cell_row Tryz.results146 _ _ _ _ _ _ _ rfl (setRow_heap _ _ _ _ _ _ (zaa HY2)) Tryz.underlying88 rfl (by rw [zoi]; rfl)) rfl ?_
   exact ⟨zcn (zaa HKB) (by omega) _, by rw [zaa HE]⟩
end
section
open Go.RowKit
structure Keep (No : Nat → Prop) (w w' : World) : Prop where
 os : w'.os = w.os
 tape : w'.tape = w.tape
 output : w'.output = w.output
 size : w.heap.size ≤ w'.heap.size
 same : ∀ (k : Nat) (o : Obj), w.heap[k]? = some o → ¬ No k → (o.isCells = true ∨ o.isWalk = true) → w'.heap[k]? = some o
theorem Keep.refl (No : Nat → Prop) (w : World) : Keep No w w := ⟨rfl, rfl, rfl, Nat.le_refl _, fun _ _ h _ _ => h⟩
theorem Keep.trans {No : Nat → Prop} {a b c : World} (h : Keep No a b) (k : Keep No b c) : Keep No a c :=
 ⟨k.os.trans h.os, k.tape.trans h.tape, k.output.trans h.output, Nat.le_trans h.size k.size, fun i o hi hn ho => k.same i o (h.same i o hi hn ho) hn ho⟩
theorem Keep.of_below {No : Nat → Prop} {w w' : World} (k : Below w.heap.size w w') : Keep No w w' :=
 ⟨k.os, k.tape, k.output, k.size, fun i _ hi _ _ => (k.block i (Array.getElem?_eq_some_iff.1 hi).1).trans hi⟩
theorem Keep.grown {No : Nat → Prop} {a w w' : World} {row : Option Nat} (h : Keep No a w) (hg : w.grownBy w' row) (hr : ∀ r, row = some r → a.heap.size ≤ r ∨ No r) : Keep No a w' :=
 ⟨hg.os.trans h.os, hg.tape.trans h.tape, hg.output.trans h.output, Nat.le_trans h.size hg.size, fun i o hi hn ho => by
  have h1 := h.same i o hi hn ho
  refine (hg.block i (Array.getElem?_eq_some_iff.1 h1).1 fun e => ?_).trans h1
  rcases hr i e.symm with h2 | h2
  ·have := (Array.getElem?_eq_some_iff.1 hi).1; omega
  ·exact hn h2⟩
theorem Keep.alloc {No : Nat → Prop} {a w : World} (h : Keep No a w) (o : Obj) : Keep No a (w.alloc o) := h.grown (World.grownBy_alloc w o none) (fun _ e => by cases e)
theorem Keep.cells {No : Nat → Prop} {w w' : World} (h : Keep No w w') {b : Nat} {cs : Array Value} {t : TypeId} {fr : Nat × Nat} (hb : w.heap[b]? = some (.cells cs t fr)) (hn : ¬ No b) : w'.heap[b]? = some (.cells cs t fr) := h.same b _ hb hn (.inl rfl)
theorem Keep.map {No : Nat → Prop} {w w' : World} (h : Keep No w w') {b : Nat} {L : List (Th × Nat)} (hb : HMap w b L) (hn : ¬ No b) : HMap w' b L := by
 obtain ⟨es, c, h1⟩ := hb.isMap
 exact hb.block ((h.same b _ h1 hn (.inr rfl)).trans h1.symm)
theorem Keep.row {No : Nat → Prop} {w w' : World} (h : Keep No w w') {base : Nat} {e : TypeId} {size : Nat} {v : Value} {n : Nat} {xs : List Value} (hr : w.ownsRow base e size v n xs) (hn : ∀ g, v.ownBlock = some g → ¬ No g) : w'.ownsRow base e size v n xs := by
 refine zbb hr fun g hg => ?_
 rcases hr.2 with ⟨h0, _⟩ | ⟨g', cap, cur, rfl, hb, hg', _⟩
 ·rw [h0] at hg; cases hg
 ·have e : g' = g := by simpa [Value.ownBlock] using hg
  subst e
  exact (h.same _ _ hg' (hn _ hg) (.inl rfl)).trans hg'.symm
def zj1 (x : PAtm × Value) : List Value := [.string x.1.p, x.2]
structure AtomsIn (No : Nat → Prop) (w : World) (v : Value) (As : List (PAtm × Value)) : Prop where
 row : ∃ base, w.ownsRow base 79 2 v As.length (As.flatMap zj1)
 terms : ∀ x ∈ As, ∃ base, w.ownsRow base 191 1 x.2 x.1.ts.length (x.1.ts.map zgr)
 ap : ∀ g, v.ownBlock = some g → ¬ No g
 apt : ∀ x ∈ As, ∀ g, x.2.ownBlock = some g → ¬ No g
 few : ∀ x ∈ As, x.1.ts.length ≤ 4
theorem AtomsIn.keep {No : Nat → Prop} {w w' : World} {v : Value} {As : List (PAtm × Value)} (h : AtomsIn No w v As) (k : Keep No w w') : AtomsIn No w' v As :=
 ⟨let ⟨b, hb⟩ := h.row; ⟨b, k.row hb h.ap⟩, fun x hx => let ⟨b, hb⟩ := h.terms x hx; ⟨b, k.row hb (h.apt x hx)⟩, h.ap, h.apt, h.few⟩
structure FCtx (No : Nat → Prop) (w : World) (sb mb l : Nat) (pos neg : List (PAtm × Value)) (pv nv : Value) (K : List (Th × Nat)) : Prop where
 s : w.heap[sb]? = some (.cells #[pv, nv, .map (some mb), .func (.yield l) #[] #[]] 361 (0, 0))
 ns : ¬ No sb
 p : AtomsIn No w pv pos
 n : AtomsIn No w nv neg
 m : HMap w mb K
 nm : ¬ No mb
 p3 : pos.length ≤ 3
theorem FCtx.keep {No : Nat → Prop} {w w' : World} {sb mb l : Nat} {pos neg : List (PAtm × Value)} {pv nv : Value} {K : List (Th × Nat)} (h : FCtx No w sb mb l pos neg pv nv K) (k : Keep No w w') : FCtx No w' sb mb l pos neg pv nv K :=
 ⟨k.cells h.s h.ns, h.ns, h.p.keep k, h.n.keep k, k.map h.m h.nm, h.nm, h.p3⟩
def zek (K : List (Th × Nat)) (neg : List PAtm) (e : PEnv) : Bool := neg.any fun x => (zco K (zc9 e x)).isSome
def zbo (K : List (Th × Nat)) : List PAtm → PEnv → List PEnv
 | [], e => [e]
 | a :: r, e => K.flatMap fun t => match zc1 e a t.1 with
  | some e' => zbo K r e'
  | none => []
def zfj (K : List (Th × Nat)) (neg pos : List PAtm) (e : PEnv) : List PEnv := (zbo K pos e).filter fun x => !zek K neg x
end
section
open Go.RowKit
def BV (w : World) (b : Nat) (e : PEnv) : Prop := w.heap[b]? = some (.cells (za5 e).toArray 135 (0, 0))
noncomputable def zqc (v : Value) : Sem Value := Instr.loadAt 135 v
noncomputable def bStore (p v : Value) : Sem Unit := Instr.storeAt 135 p v
noncomputable def bZero : Sem Value := zeroValue 135
theorem zgb (v : Value) : Instr.loadAt 135 v = zqc v := rfl
theorem ze5 (p v : Value) : Instr.storeAt 135 p v = bStore p v := rfl
theorem to_bZero : zeroValue 135 = bZero := rfl
theorem zok (w : World) : bZero.run Tryz.prog w = .ok (zec []) w := by unfold bZero; kernel_rfl
theorem zdt (e : PEnv) : (zec e).cells = (za5 e).toArray := rfl
theorem BV.load {w : World} {b : Nat} {e : PEnv} (h : BV w b e) : (zqc (.pointer (some ⟨b, 0, none⟩))).run Tryz.prog w = .ok (zec e) w := by
 unfold zqc Instr.loadAt Instr.sureAddr
 simp only [Sem.run_bind, Sem.run_pure, Result.andThen_ok]
 exact run_loadVar_row w b _ 135 _ _ _ h Tryz.underlying135 rfl (by rw [zgc]; rfl)
theorem BV.store {w : World} {b : Nat} {e : PEnv} (h : BV w b e) (e' : PEnv) : (bStore (.pointer (some ⟨b, 0, none⟩)) (zec e')).run Tryz.prog w = .ok () (w.setRow b (za5 e').toArray) := by
 unfold bStore Instr.storeAt Instr.sureAddr
 simp only [Sem.run_bind, Sem.run_pure, Result.andThen_ok]
 exact run_storeVar_row w b _ 135 _ _ h (by rw [zgc]; rfl) rfl (zey e')
theorem BV.new (w : World) (e : PEnv) : BV (w.alloc (.cells (za5 e).toArray 135)) w.heap.size e := heap_alloc_new w _
theorem zei (w : World) (e e' : PEnv) : (bStore (.pointer (some ⟨w.heap.size, 0, none⟩)) (zec e')).run Tryz.prog (w.alloc (.cells (za5 e).toArray 135)) = .ok () (w.alloc (.cells (za5 e').toArray 135)) := by
 rw [(BV.new w e).store e', World.setRow_alloc_new]
theorem BV.lt {w : World} {b : Nat} {e : PEnv} (h : BV w b e) : b < w.heap.size := (Array.getElem?_eq_some_iff.1 h).1
theorem BV.alloc {w : World} {b : Nat} {e : PEnv} (h : BV w b e) (o : Obj) : BV (w.alloc o) b e := (Below.heap_alloc w o b h.lt).trans h
theorem BV.below {w w' : World} {b : Nat} {e : PEnv} (h : BV w b e) (k : Below w.heap.size w w') : BV w' b e := (k.block b h.lt).trans h
theorem BV_drew {w : World} {b : Nat} {e : PEnv} : BV w.drew b e ↔ BV w b e := Iff.rfl
theorem BV.keep {No : Nat → Prop} {w w' : World} {b : Nat} {e : PEnv} (h : BV w b e) (k : Keep No w w') (hn : ¬ No b) : BV w' b e := k.cells h hn
def TV (w : World) (b : Nat) (t : Th) : Prop := w.heap[b]? = some (.cells (zbd t).toArray 88 (0, 0))
noncomputable def tLoad (v : Value) : Sem Value := Instr.loadAt 88 v
noncomputable def tStore (p v : Value) : Sem Unit := Instr.storeAt 88 p v
theorem zh1 (v : Value) : Instr.loadAt 88 v = tLoad v := rfl
theorem zgt (p v : Value) : Instr.storeAt 88 p v = tStore p v := rfl
theorem zgy (t : Th) : (thV t).cells = (zbd t).toArray := rfl
theorem TV.load {w : World} {b : Nat} {t : Th} (h : TV w b t) : (tLoad (.pointer (some ⟨b, 0, none⟩))).run Tryz.prog w = .ok (thV t) w := by
 unfold tLoad Instr.loadAt Instr.sureAddr
 simp only [Sem.run_bind, Sem.run_pure, Result.andThen_ok]
 exact run_loadVar_row w b _ 88 _ _ _ h Tryz.underlying88 rfl (by rw [zoi]; rfl)
theorem TV.store {w : World} {b : Nat} {t : Th} (h : TV w b t) (t' : Th) : (tStore (.pointer (some ⟨b, 0, none⟩)) (thV t')).run Tryz.prog w = .ok () (w.setRow b (zbd t').toArray) := by
 unfold tStore Instr.storeAt Instr.sureAddr
 simp only [Sem.run_bind, Sem.run_pure, Result.andThen_ok]
 exact run_storeVar_row w b _ 88 _ _ h (by rw [zoi]; rfl) rfl (zjw t')
theorem TV.new (w : World) (t : Th) : TV (w.alloc (.cells (zbd t).toArray 88)) w.heap.size t := heap_alloc_new w _
theorem zf1 (w : World) (t t' : Th) : (tStore (.pointer (some ⟨w.heap.size, 0, none⟩)) (thV t')).run Tryz.prog (w.alloc (.cells (zbd t).toArray 88)) = .ok () (w.alloc (.cells (zbd t').toArray 88)) := by
 rw [(TV.new w t).store t', World.setRow_alloc_new]
theorem TV.lt {w : World} {b : Nat} {t : Th} (h : TV w b t) : b < w.heap.size := (Array.getElem?_eq_some_iff.1 h).1
theorem TV.alloc {w : World} {b : Nat} {t : Th} (h : TV w b t) (o : Obj) : TV (w.alloc o) b t := (Below.heap_alloc w o b h.lt).trans h
theorem TV.below {w w' : World} {b : Nat} {t : Th} (h : TV w b t) (k : Below w.heap.size w w') : TV w' b t := (k.block b h.lt).trans h
noncomputable def tAlloc (h : Bool) (v : Value) : Sem Value := Instr.alloc 88 h v
theorem zgo (h : Bool) (v : Value) : Instr.alloc 88 h v = tAlloc h v := rfl
theorem zfu (w : World) (v : Value) : (tAlloc true v).run Tryz.prog w = .ok (.pointer (some ⟨w.heap.size, 0, none⟩)) (w.alloc (.cells (zbd ({ data := #[] }, [])).toArray 88)) := by
 unfold tAlloc
 simp [Instr.alloc, newVar, newRow, go_sem, zbd, nth4, Th.p, Th.ts]
noncomputable def bAlloc (h : Bool) (v : Value) : Sem Value := Instr.alloc 135 h v
theorem zgm (h : Bool) (v : Value) : Instr.alloc 135 h v = bAlloc h v := rfl
theorem zfs (w : World) (v : Value) : (bAlloc true v).run Tryz.prog w = .ok (.pointer (some ⟨w.heap.size, 0, none⟩)) (w.alloc (.cells (za5 []).toArray 135)) := by
 unfold bAlloc
 simp [Instr.alloc, newVar, newRow, go_sem, za5, eAt]
theorem zmm {w w1 w4 : World} (h : Below w.heap.size w w1) (h4 : Below w1.drew.heap.size w1.drew w4) : Below w.heap.size w w4 := h.trans ((⟨h4.os, h4.tape, h4.output, h4.size, h4.block⟩ : Below w1.heap.size w1 w4).mono h.size)
theorem zba {w w' : World} (h : Below w.drew.heap.size w.drew w') : Below w.heap.size w w' := ⟨h.os, h.tape, h.output, h.size, h.block⟩
end
section
open Go.RowKit
attribute [local go_sem ↓] zgb ze5 to_bZero
attribute [local go_sem] zdt zei zok
theorem atom_len (x : PAtm × Value) : (zj1 x).length = 2 := rfl
set_option maxRecDepth 100000 in
theorem denied_any (No : Nat → Prop) (w : World) (sb mb l : Nat) (pos neg : List (PAtm × Value)) (pv nv : Value) (K : List (Th × Nat)) (h : FCtx No w sb mb l pos neg pv nv K) (e : PEnv) (hl : e.length ≤ 12) (hok : ∀ x ∈ neg, ThOk (zc9 e x.1)) :
  Calls Tryz.prog 248 #[.pointer (some ⟨sb, 0, none⟩), zec e] w fun en w' => en = .returned (.bool (zek K (neg.map (·.1)) e)) ∧ Below w.heap.size w w' := by
 obtain ⟨cs, hcs⟩ : ∃ cs, cs = (za5 e).toArray := ⟨_, rfl⟩
 have HCS := hide hcs
 unfold zec
 rw [← hcs]
 clear hcs
 obtain ⟨base, hrow⟩ := h.n.row
 obtain ⟨an, cn, rfl⟩ := zac hrow
 have hmx := zbt hrow
 unfold maxLen at hmx
 have HROW := hide hrow
 have hsl := (Array.getElem?_eq_some_iff.1 h.s).1
 have HSL := hide hsl
 have H := hide h
 have HOK := hide hok
 have q0 : cs.size = 25 := by rw [zaa HCS]; rfl
 clear h hrow hok hsl
 go_enter Tryz.func248, Tryz.ntmps248
 go_upto_region 1 with fail
 generalize hw0 : World.alloc w _ = w0
 have k0 : Below w.heap.size w w0 := by rw [← hw0]; exact (Below.refl w.heap.size w).alloc (Nat.le_refl _) _
 have x0 : w0.heap[w.heap.size]? = some (.cells cs 135 (0, 0)) := by rw [← hw0]; exact heap_alloc_new w _
 have s0 : w.heap.size + 1 = w0.heap.size := by rw [← hw0]; simp
 have hs0 : w0.heap[sb]? = some (.cells #[pv, .slice an neg.length cn, .map (some mb), .func (.yield l) #[] #[]] 361 (0, 0)) := (k0.block sb (zaa HSL)).trans (zaa H).s
 have hr0 := zbb (zaa HROW) (fun g e => k0.block g ((zaa HROW).lt g e).2)
 clear hw0
 obtain ⟨c1, -⟩ := zab hs0 1
 have HX0 := hide x0
 have HS := hide hs0
 have HK0 := hide k0
 have HR0 := hide hr0
 clear x0 hs0 k0 hr0
 go_wp2_with fail
 go_loopg [14] neg.length (fun gg i wr => ∃ k : Nat, k ≤ neg.length ∧ gg = neg.length - k ∧ i = .int .i64 k ∧ zek K ((neg.drop k).map (·.1)) e = zek K (neg.map (·.1)) e ∧ Below w0.heap.size w0 wr)
 case atStart => exact ⟨0, Nat.zero_le _, rfl, rfl, rfl, Below.refl _ _⟩
 case round =>
  obtain ⟨k, hk, hgk, rfl, hfin, hb⟩ := hrel
  have HF := hide hfin
  have HB := hide hb
  have sz := hb.size
  have hbw : Below w.heap.size w wr := (zaa HK0).trans (hb.mono (by omega))
  have HBW := hide hbw
  clear hfin hb hbw
  by_cases hlk : k < neg.length
  ·obtain ⟨g, cap, hv, hbg, hgl, hnc, hcm, hc⟩ := zc7 atom_len (zaa HR0) k hlk
   injection hv with h1 h2 h3
   subst h1 h3
   have d0 := hc 0 (by omega)
   have d1 := hc 1 (by omega)
   have hx : neg[k] ∈ neg := List.getElem_mem hlk
   obtain ⟨tb, htm⟩ := (zaa H).n.terms _ hx
   obtain ⟨ta, tc, htv⟩ := zac htm
   have hfew := (zaa H).n.few _ hx
   obtain ⟨D, hD⟩ : ∃ D, D = neg[k].1 := ⟨_, rfl⟩
   have htm2 : w.ownsRow tb 191 1 (.slice ta D.ts.length tc) D.ts.length (D.ts.map zgr) := by rw [hD, ← htv]; exact htm
   have e0 : wr.cell? ⟨g, k * 2 + 0, none⟩ = some (.string D.p) := by
    rw [hD]; exact ((zaa HB).cell (p := ⟨g, k * 2 + 0, none⟩) hgl).trans (hc 0 (by omega))
   have e1 : wr.cell? ⟨g, k * 2 + 1, none⟩ = some (.slice ta D.ts.length tc) := by
    rw [hD, ← htv]; exact ((zaa HB).cell (p := ⟨g, k * 2 + 1, none⟩) hgl).trans (hc 1 (by omega))
   have HTM := hide htm2
   have HSTEP := hide (show zek K ((neg.drop k).map (·.1)) e = ((zco K (zc9 e D)).isSome || zek K ((neg.drop (k + 1)).map (·.1)) e) by rw [List.drop_eq_getElem_cons hlk, hD]; rfl)
   have HTHO := hide (show ThOk (zc9 e D) by rw [hD]; exact zaa HOK _ hx)
   rw [← hD] at hfew
   have hki : (k : Int) < neg.length := by omega
   rw [Nat.add_zero] at e0
   clear hc d0 d1 htm htv htm2 hx hD
   go_upto_region 4 with fail
   generalize hw3 : World.alloc wr _ = w3
   have k3 : Below wr.heap.size wr w3 := by rw [← hw3]; exact (Below.refl wr.heap.size wr).alloc (Nat.le_refl _) _
   have s3 : wr.heap.size + 1 = w3.heap.size := by rw [← hw3]; simp
   have b3 : Below w.heap.size w w3 := (zaa HBW).trans (k3.mono (by omega))
   have b03 : Below w0.heap.size w0 w3 := (zaa HB).trans (k3.mono (by omega))
   obtain ⟨a0, -⟩ := zab (show w3.heap[wr.heap.size]? = some (.cells #[.string D.p, .slice ta D.ts.length tc] 79 (0, 0)) by rw [← hw3]; exact heap_alloc_new wr _) 0
   obtain ⟨a1, -⟩ := zab (show w3.heap[wr.heap.size]? = some (.cells #[.string D.p, .slice ta D.ts.length tc] 79 (0, 0)) by rw [← hw3]; exact heap_alloc_new wr _) 1
   obtain ⟨a2, -⟩ := zab ((b03.block sb (by have := zaa HSL; omega)).trans (zaa HS)) 2
   have r0 : BV w3 w.heap.size e := by unfold BV; rw [← zaa HCS]; exact (b03.block _ (by omega)).trans (zaa HX0)
   have hld : ∀ w' : World, BV w' w.heap.size e → (zqc (.pointer (some ⟨w.heap.size, 0, none⟩))).run Tryz.prog w' = .ok (zec e) w' := fun _ h => h.load
   simp only [List.getElem?_toArray, List.getElem?_cons_zero, List.getElem?_cons_succ] at a0 a1 a2
   have hsb := zaa HSL
   have HMP := hide (fun (W : World) (hW : Below w3.heap.size w3 W) => (zaa H).m.block ((hW.block mb (by have := (zaa H).m.lt; omega)).trans (b3.block mb (zaa H).m.lt)))
   have HFI := hide (fun (W : World) (hW : Below w3.heap.size w3 W) => (zpq W tb e D ta tc (zbb (zaa HTM) (fun g e1 => (hW.block g (by have := ((zaa HTM).lt g e1).2; omega)).trans (b3.block g ((zaa HTM).lt g e1).2))) hfew hl))
   have HA := hide (fun (W : World) (hW : Below w3.heap.size w3 W) => (show BV W w.heap.size e ∧ W.cell? ⟨sb, 2, none⟩ = some (.map (some mb)) ∧ W.cell? ⟨wr.heap.size, 0, none⟩ = some (.string D.p) ∧ W.cell? ⟨wr.heap.size, 1, none⟩ = some (.slice ta D.ts.length tc) from ⟨r0.below hW, (hW.cell (p := ⟨sb, 2, none⟩) (by simp only []; omega)).trans a2, (hW.cell (p := ⟨wr.heap.size, 0, none⟩) (by simp only []; omega)).trans a0, (hW.cell (p := ⟨wr.heap.size, 1, none⟩) (by simp only []; omega)).trans a1⟩))
   have HB3 := hide b3
   have HB03 := hide b03
   have HS3 := hide s3
   clear hw3 k3 s3 b3 b03 e0 e1 c1 q0 s0 sz
   cases hq : (zco K (zc9 e D)).isSome with
   | true =>
    have HE := hide (show zek K (neg.map (·.1)) e = true by rw [← zaa HF, zaa HSTEP, hq]; rfl)
    have HQ := hide hq
    have HLK := hide (fun (W : World) (hW : Below w3.heap.size w3 W) => (show (Instr.lookup 82 (.map (some mb)) (thV (zc9 e D)) true).run Tryz.prog W = .ok (.tuple #[.int .i64 (((zco K (zc9 e D)).getD 0 : Nat) : Int), .bool true]) W from by have := (zaa HMP W hW).look (t := zc9 e D) (zaa HTHO) Tryz.underlying82; rw [hq] at this; exact this))
    clear hq
    go_region_held3 (fun w' => BV w' w.heap.size e ∧ w'.cell? ⟨sb, 2, none⟩ = some (.map (some mb)) ∧ w'.cell? ⟨wr.heap.size, 0, none⟩ = some (.string D.p) ∧ w'.cell? ⟨wr.heap.size, 1, none⟩ = some (.slice ta D.ts.length tc)) ((simp [*, BV_drew])) ((first | (go_at_call 146; refine (zaa HFI _ (by exact (Below.refl _ _).drew)).mono ?_; rintro en w4 ⟨hb4, rfl⟩; have hS4 := zaa HA w4 (zba hb4); have hlk4 := zaa HLK w4 (zba hb4); have HB4 := hide (zba hb4); clear hb4)))
    go_wp2_with fail
    go_ret
    exact ⟨by rw [zaa HE]; rfl, (zaa HB3).trans ((zaa HB4).mono (by exact (zaa HB3).size))⟩
   | false =>
    have HE := hide (show zek K ((neg.drop (k + 1)).map (·.1)) e = zek K (neg.map (·.1)) e by rw [← zaa HF, zaa HSTEP, hq]; rfl)
    have HQ := hide hq
    have HLK := hide (fun (W : World) (hW : Below w3.heap.size w3 W) => (show (Instr.lookup 82 (.map (some mb)) (thV (zc9 e D)) true).run Tryz.prog W = .ok (.tuple #[.int .i64 (((zco K (zc9 e D)).getD 0 : Nat) : Int), .bool false]) W from by have := (zaa HMP W hW).look (t := zc9 e D) (zaa HTHO) Tryz.underlying82; rw [hq] at this; exact this))
    clear hq
    go_region_held3 (fun w' => BV w' w.heap.size e ∧ w'.cell? ⟨sb, 2, none⟩ = some (.map (some mb)) ∧ w'.cell? ⟨wr.heap.size, 0, none⟩ = some (.string D.p) ∧ w'.cell? ⟨wr.heap.size, 1, none⟩ = some (.slice ta D.ts.length tc)) ((simp [*, BV_drew])) ((first | (go_at_call 146; refine (zaa HFI _ (by exact (Below.refl _ _).drew)).mono ?_; rintro en w4 ⟨hb4, rfl⟩; have hS4 := zaa HA w4 (zba hb4); have hlk4 := zaa HLK w4 (zba hb4); have HB4 := hide (zba hb4); clear hb4)))
    go_wp2_with fail
    go_roundg (neg.length - (k + 1))
    case measure => omega
    case rel => exact ⟨k + 1, by omega, rfl, by go_num, zaa HE, (zaa HB03).trans ((zaa HB4).mono (zaa HB03).size)⟩
  ·have HE := hide (show zek K (neg.map (·.1)) e = false by rw [← zaa HF, List.drop_of_length_le (by omega)]; rfl)
   go_wp2_with fail
   go_ret
   exact ⟨by rw [zaa HE]; rfl, zaa HBW⟩
end
section
open Go.RowKit Go.Shelf
attribute [local go_sem ↓] zgb ze5 to_bZero
attribute [local go_sem] zdt zei zok
def Rounds (No : Nat → Prop) (l N : Nat) (Qx : PEnv → Prop) (J Jx : List PEnv → World → Prop) : Prop :=
 ∀ (m : Nat) (pre : List PEnv) (x : PEnv) (W : World), Qx x → J pre W → pre.length < N → YieldAt Fence.wide m Tryz.prog l #[zec x] W fun en W' =>
  ∃ c : Bool, en = .returned (.bool c) ∧ (c = true → J (pre ++ [x]) W' ∧ Keep No W W') ∧ (c = false → Jx (pre ++ [x]) W')
def FromPost (No : Nat → Prop) (J Jx : List PEnv → World → Prop) (pre ws : List PEnv) (M : Nat) (w : World) (en : Ending) (w' : World) : Prop :=
 (en = .returned (.bool true) ∧ ∃ ys, (∀ x, x ∈ ys ↔ x ∈ ws) ∧ ys.length ≤ M ∧ J (pre ++ ys) w' ∧ Keep No w w') ∨ (en = .returned (.bool false) ∧ ∃ ys, (∀ x ∈ ys, x ∈ ws) ∧ Jx (pre ++ ys) w')
theorem zdw {B : Nat} {J : List PEnv → World → Prop} (hJ : AbidesFrom B J) {s : List PEnv} {w w' : World} (h : J s w) (k : Below w.heap.size w w') : J s w' :=
 hJ s w w' none h ⟨k.os, k.tape, k.output, k.size, fun i hi _ => k.block i hi⟩ (fun _ e => by cases e)
set_option maxRecDepth 100000 in
theorem from_base (No : Nat → Prop) (w : World) (sb mb l : Nat) (pos neg : List (PAtm × Value)) (pv nv : Value) (K : List (Th × Nat)) (h : FCtx No w sb mb l pos neg pv nv K) (e : PEnv) (hl : e.length ≤ 12) (hok : ∀ x ∈ neg, ThOk (zc9 e x.1))
  (Qx : PEnv → Prop) (hq : ∀ x ∈ zfj K (neg.map (·.1)) [] e, Qx x) (J Jx : List PEnv → World → Prop) (B N : Nat) (hJ : AbidesFrom B J) (hY : Rounds No l N Qx J Jx) (pre : List PEnv) (hp : J pre w) (hN : pre.length < N) (hnb : ∀ g, No g → g < w.heap.size) :
  Calls Tryz.prog 234 #[.pointer (some ⟨sb, 0, none⟩), .int .i64 (pos.length : Nat), zec e] w (FromPost No J Jx pre (zfj K (neg.map (·.1)) [] e) 1 w) := by
 obtain ⟨base, hrow⟩ := h.p.row
 obtain ⟨an, cn, rfl⟩ := zac hrow
 have hmx := zbt hrow
 unfold maxLen at hmx
 have hsl := (Array.getElem?_eq_some_iff.1 h.s).1
 have HSL := hide hsl
 have H := hide h
 have HP := hide hp
 have HY := hide hY
 have HJ := hide hJ
 have HNN := hide hN
 have HOK := hide hok
 have HNB := hide hnb
 have HQ := hide hq
 clear hq
 clear h hrow hsl hp hY hJ hN hok hnb
 go_enter Tryz.func234, Tryz.ntmps234
 go_upto_region 1 with fail
 generalize hw0 : World.alloc w _ = w0
 have k0 : Below w.heap.size w w0 := by rw [← hw0]; exact (Below.refl w.heap.size w).alloc (Nat.le_refl _) _
 have x0 : BV w0 w.heap.size e := by rw [← hw0]; exact BV.new w e
 have s0 : w.heap.size + 1 = w0.heap.size := by rw [← hw0]; simp
 have hc0 := (zaa H).keep (Keep.of_below k0)
 clear hw0
 obtain ⟨c1, -⟩ := zab hc0.s 0
 have HX0 := hide x0
 have HK0 := hide k0
 have HC0 := hide hc0
 have HP0 := hide (zdw (zaa HJ) (zaa HP) k0)
 clear hc0 x0 k0
 go_upto_region 2 with fail
 obtain ⟨c3, -⟩ := zab (zaa HC0).s 3
 have hld : ∀ w' : World, BV w' w.heap.size e → (zqc (.pointer (some ⟨w.heap.size, 0, none⟩))).run Tryz.prog w' = .ok (zec e) w' := fun _ h => h.load
 have hl0 := hld w0.drew (zaa HX0)
 have HD := hide (fun (W : World) (hW : Below w0.heap.size w0 W) => (denied_any No W sb mb l pos neg _ nv K ((zaa HC0).keep (Keep.of_below hW)) e hl (zaa HOK)))
 have HBB := hide (fun (W : World) (hW : Below w0.heap.size w0 W) => hld W ((zaa HX0).below hW))
 have HC3 := hide (fun (W : World) (hW : Below w0.heap.size w0 W) => (hW.cell (p := ⟨sb, 3, none⟩) (by have := zaa HSL; simp only []; omega)).trans c3)
 have HJJ := hide (fun (W : World) (hW : Below w0.heap.size w0 W) => zdw (zaa HJ) (zaa HP0) hW)
 clear hld c1 c3
 cases hd : zek K (neg.map (·.1)) e with
 | true =>
  rw [hd] at HD
  have HW := hide (show zfj K (neg.map (·.1)) [] e = [] by unfold zfj zbo; simp [hd])
  clear hd
  first | go_region_with (go_at_call 248; refine (zaa HD _ (by exact (Below.refl _ _).drew)).mono ?_; rintro en w4 ⟨rfl, hb4⟩; have HB4 := hide (zba hb4); clear hb4) | fail
  all_goals
   go_wp2_with fail
   go_ret
   rw [zaa HW]
   exact .inl ⟨rfl, [], fun _ => Iff.rfl, by simp, by rw [List.append_nil]; exact zaa HJJ _ (zaa HB4), (Keep.of_below (zaa HK0)).trans (Keep.of_below (zaa HB4))⟩
 | false =>
  rw [hd] at HD
  have HW := hide (show zfj K (neg.map (·.1)) [] e = [e] by unfold zfj zbo; simp [hd])
  have HQE : Qx e := zaa HQ e (by rw [zaa HW]; exact List.mem_singleton.2 rfl)
  clear hd
  refine (wpIn_wide (n := 2)).1 ?_
  first | gi_region_with (first | (refine ⟨trivial, ?_⟩; gi_at_call 248; refine (callsIn_wide.2 (zaa HD _ (by exact (Below.refl _ _).drew))).mono ?_; rintro en w4 ⟨rfl, hb4⟩; have HB4 := hide (zba hb4); have l4 := zaa HBB w4 (zaa HB4); have y4 := zaa HC3 w4 (zaa HB4); obtain ⟨fn, tmps, assign, body, hy, hR⟩ := zaa HY 1 pre e w4 HQE (zaa HJJ w4 (zaa HB4)) (zaa HNN); clear hb4) | (refine hR.mono ?_; rintro en w5 ⟨c, rfl, h5⟩; have H5 := hide h5; clear h5 hR hy)) | fail
  all_goals
   go_wp2_with fail
   go_ret
   rw [zaa HW]
   cases c with
   | true => exact .inl ⟨rfl, [e], fun _ => Iff.rfl, by simp, ((zaa H5).1 rfl).1, ((Keep.of_below (zaa HK0)).trans (Keep.of_below (zaa HB4))).trans ((zaa H5).1 rfl).2⟩
   | false => exact .inr ⟨rfl, [e], fun _ h => h, (zaa H5).2 rfl⟩
end
end Go.Proofs.YtldkpahaocjdpaaGreat
