/-
  The program's reader: Rules, at every text.
-/
import Derived.Test.YtldkpahaocjdpaaGreatLoadsT24
import Derived.Test.YtldkpahaocjdpaaGreatLoadsT37
namespace Go.Proofs.YtldkpahaocjdpaaGreat
open Go.RowKit

/-- A rule, and where it lies. -/
structure PR where
  R : PRule
  hv : Value
  bs : List (PLit × Value)
  bv : Value

def PR.cells (r : PR) : List Value := [.string r.R.pd, r.hv, r.bv]
def prCells (rs : List PR) : List Value := rs.flatMap PR.cells
theorem prCells_snoc (rs : List PR) (r : PR) : prCells (rs ++ [r]) = prCells rs ++ r.cells := by simp [prCells]

structure PRIn (w : World) (base : Nat) (r : PR) : Prop where
  hd : w.ownsRow base 191 1 r.hv r.R.ts.length (ptCells r.R.ts)
  bo : LRow w base r.bv r.bs
  eq : r.bs.map (·.1) = r.R.body

structure RRow (w : World) (base : Nat) (rv : Value) (rs : List PR) : Prop where
  row : w.ownsRow base 123 3 rv rs.length (prCells rs)
  each : ∀ r ∈ rs, PRIn w base r

theorem PRIn.keptT {B : List Nat} {w w' : World} {base : Nat} {r : PR} (h : PRIn w base r) (k : Kept B w w') (hB : ∀ x ∈ B, x < base ∨ (NotT w 183 x ∧ NotT w 191 x)) : PRIn w' base r :=
  ⟨own_keptT h.hd k (fun x hx => (hB x hx).imp id And.right), h.bo.keptT k hB, h.eq⟩
theorem PRIn.low {w : World} {base base' : Nat} {r : PR} (h : PRIn w base r) (hb : base' ≤ base) : PRIn w base' r := ⟨ownsRow_low h.hd hb, h.bo.low hb, h.eq⟩
theorem RRow.keptT {B : List Nat} {w w' : World} {base : Nat} {rv : Value} {rs : List PR} (h : RRow w base rv rs) (k : Kept B w w') (hB : ∀ x ∈ B, x < base ∨ (NotT w 123 x ∧ NotT w 183 x ∧ NotT w 191 x)) : RRow w' base rv rs :=
  ⟨own_keptT h.row k (fun x hx => (hB x hx).imp id And.left), fun r hr => (h.each r hr).keptT k (fun x hx => (hB x hx).imp id And.right)⟩
theorem RRow.low {w : World} {base base' : Nat} {rv : Value} {rs : List PR} (h : RRow w base rv rs) (hb : base' ≤ base) : RRow w base' rv rs := ⟨ownsRow_low h.row hb, fun r hr => (h.each r hr).low hb⟩
theorem MRow.low {w : World} {base base' : Nat} {mv : Value} {ms : List (PMen × Value)} (h : MRow w base mv ms) (hb : base' ≤ base) : MRow w base' mv ms := ⟨ownsRow_low h.row hb, fun r hr => ownsRow_low (h.each r hr) hb⟩

structure QInv (w : World) (b : Nat) (s : ByteArray) (rs : List PR) (p num : Nat) (ms : List (PMen × Value)) (mv rv : Value) (wr : World) : Prop where
  rdr : Rdr wr b s p num mv
  hp : p ≤ s.size
  men : MRow wr (b + 1) mv ms
  rules : RRow wr (b + 1) rv rs
  res : wr.heap[w.heap.size]? = some (.cells #[.slice none 0 0, .slice none 0 0] 100 (0, 0))
  below : Below w.heap.size w wr
  bw : w.heap.size < b

theorem below_kept {n : Nat} {B : List Nat} {w wr w1 : World} (h : Below n w wr) (k : Kept B wr w1) (hn : n ≤ wr.heap.size) (hB : ∀ x ∈ B, n ≤ x) : Below n w w1 :=
  h.trans ⟨k.os, k.tape, k.output, k.size, fun i hi => k.block i (Nat.lt_of_lt_of_le hi hn) (fun hm => by have := hB i hm; omega)⟩

theorem QInv.num {w : World} {b : Nat} {s : ByteArray} {rs : List PR} {p num : Nat} {ms : List (PMen × Value)} {mv rv : Value} {wr : World} (h : QInv w b s rs p num ms mv rv wr) (k : Nat) : QInv w b s rs p k ms mv rv (wr.setCell ⟨b, 4, none⟩ (.int .i64 k)) := by
  have hb := h.bw
  have kk : Kept [b] wr (wr.setCell ⟨b, 4, none⟩ (.int .i64 k)) := (Kept.refl [b] wr).setCell (by simp) _
  obtain ⟨q, c0, c1, c2, c3, c4, c5, fz⟩ := h.rdr
  refine ⟨⟨by simpa using q, ?_, ?_, ?_, ?_, cs_same' c4, ?_, fun o => by simpa using fz o⟩, h.hp, h.men.kept kk (by simp), h.rules.keptT kk (by simp), cells_keptT h.res kk (by simp; omega), below_kept h.below kk (by omega) (by simp; omega), hb⟩
  all_goals (rw [cs_other' (by omega)]; assumption)

theorem QInv.rule {w : World} {b : Nat} {s : ByteArray} {rs : List PR} {p num : Nat} {ms : List (PMen × Value)} {mv rv : Value} {wr w1 : World} {p' : Nat} {ms' : List (PMen × Value)} {mv' : Value} (h : QInv w b s rs p num ms mv rv wr) (k : Kept (b :: mv.ownBlock.toList) wr w1) (hr : Rdr w1 b s p' num mv') (hp : p' ≤ s.size) (hm : MRow w1 (b + 1) mv' ms') : QInv w b s rs p' num ms' mv' rv w1 := by
  have hb := h.bw
  have hz := h.rdr.lt
  have hB : ∀ x ∈ (b :: mv.ownBlock.toList), x = b ∨ (b + 1 ≤ x ∧ NotT wr 123 x ∧ NotT wr 183 x ∧ NotT wr 191 x ∧ NotT wr 100 x) := fun x hx => by
    rcases List.mem_cons.1 hx with rfl | hx
    · exact .inl rfl
    · exact .inr ⟨(h.men.row.lt x (by simpa using hx)).1, own_notT h.men.row (by decide) x hx, own_notT h.men.row (by decide) x hx, own_notT h.men.row (by decide) x hx, own_notT h.men.row (by decide) x hx⟩
  refine ⟨hr, hp, hm, h.rules.keptT k (fun x hx => ?_), cells_keptT h.res k (fun x hx => ?_), below_kept h.below k (by omega) (fun x hx => ?_), hb⟩
  · rcases hB x hx with rfl | h1
    · exact .inl (by omega)
    · exact .inr ⟨h1.2.1, h1.2.2.1, h1.2.2.2.1⟩
  · rcases hB x hx with rfl | h1
    · exact .inl (by omega)
    · exact .inr h1.2.2.2.2
  · rcases hB x hx with rfl | h1 <;> omega

theorem QInv.append {w : World} {b : Nat} {s : ByteArray} {rs : List PR} {p num : Nat} {ms : List (PMen × Value)} {mv rv : Value} {w1 W w5 : World} (h : QInv w b s rs p num ms mv rv w1) (kW : Kept [] w1 W) {r : PR} {rv' : Value} (hr : PRIn w1 (b + 1) r)
    (hown : w5.ownsRow (b + 1) 123 3 rv' (rs.length + 1) (prCells rs ++ r.cells)) (hg : W.grownBy w5 rv.ownBlock) : QInv w b s (rs ++ [r]) p num ms mv rv' w5 := by
  have hb := h.bw
  have hz := h.rdr.lt
  have k5 : Kept rv.ownBlock.toList w1 w5 := ((kW.mono (C := rv.ownBlock.toList) (by simp))).grown hg (fun k e => .inr (by simp [e]))
  have hrow : ∀ x ∈ rv.ownBlock.toList, b + 1 ≤ x := fun x hx => (h.rules.row.lt x (by simpa using hx)).1
  have far : ∀ x ∈ rv.ownBlock.toList, ∀ e, 123 ≠ e → NotT w1 e x := fun x hx e he => own_notT h.rules.row he x hx
  refine ⟨h.rdr.kept k5 (fun hm => by have := hrow b hm; omega), h.hp, h.men.keptT k5 (fun x hx => .inr ⟨far x hx _ (by decide), far x hx _ (by decide)⟩), ⟨?_, fun y hy => ?_⟩, cells_keptT h.res k5 (fun x hx => .inr (far x hx _ (by decide))), below_kept h.below k5 (by omega) (fun x hx => by have := hrow x hx; omega), hb⟩
  · rw [prCells_snoc, List.length_append]; exact hown
  · rcases List.mem_append.1 hy with hy | hy
    · exact (h.rules.each y hy).keptT k5 (fun x hx => .inr ⟨far x hx _ (by decide), far x hx _ (by decide)⟩)
    · simp at hy; subst hy; exact hr.keptT k5 (fun x hx => .inr ⟨far x hx _ (by decide), far x hx _ (by decide)⟩)

def RulesPost (w : World) (s : ByteArray) (P : Bool × Nat × List PRule × List PMen) (e : Ending) (w' : World) : Prop :=
  Below w.heap.size w w' ∧ (P.1 = false → e = .returned (.tuple #[.agg #[.slice none 0 0, .slice none 0 0], .int .i64 (scanK s P.2.1).2.1, .bool false])) ∧
  (P.1 = true → ∃ (a : Option Addr) (n c : Nat) (a' : Option Addr) (n' c' : Nat) (rs : List PR) (ms : List (PMen × Value)), e = .returned (.tuple #[.agg #[.slice a n c, .slice a' n' c'], .int .i64 0, .bool true]) ∧ RRow w' w.heap.size (.slice a n c) rs ∧ rs.map (·.R) = P.2.2.1 ∧ MRow w' w.heap.size (.slice a' n' c') ms ∧ ms.map (·.1) = P.2.2.2 ∧ rs.length ≤ 30 ∧ ms.length ≤ 120)

theorem infoPRule : (Tryz.prog.info? 123).map (fun i => (i.zero, i.size, i.bytes)) = some (some (.agg #[.string { data := #[] }, .slice none 0 0, .slice none 0 0]), 3, 64) := by kernel_rfl

theorem pr_cell (w1 : World) (o : Obj) (r : PR) (j : Nat) (u : Value) (h : r.cells[j]? = some u) : ((w1.alloc o).alloc (Obj.cells #[Value.string r.R.pd, r.hv, r.bv] 123)).cell? ((⟨w1.heap.size + 1, 0, none⟩ : Addr).add j) = some u := by
  have e : (⟨w1.heap.size + 1, 0, none⟩ : Addr).add j = ⟨w1.heap.size + 1, j, none⟩ := by unfold Addr.add; split <;> simp_all
  rw [e, World.cell?_alloc_at _ _ _ _ (by simp)]
  simpa [PR.cells] using h
theorem pr_one (R : PRule) (a : Option Addr) (n c : Nat) (a' : Option Addr) (n' c' : Nat) (bs : List (PLit × Value)) : ∀ u ∈ (PR.mk R (.slice a n c) bs (.slice a' n' c')).cells, u.oneCell' = true := by
  intro u hu; simp [PR.cells] at hu; rcases hu with rfl | rfl | rfl <;> rfl

theorem q_start {w w1 : World} {s : ByteArray} (hb1 : Below (w.alloc (Obj.cells #[Value.slice none 0 0, .slice none 0 0] 100)).heap.size (w.alloc (Obj.cells #[Value.slice none 0 0, .slice none 0 0] 100)) w1) :
    QInv w w1.heap.size s [] 0 0 [] (.slice none 0 0) (.slice none 0 0) (w1.alloc (Obj.cells #[Value.string s, .int .i64 (scanK s 0).1, .int .i64 (scanK s 0).2.1, .int .i64 (scanK s 0).2.2, .int .i64 0, .slice none 0 0] 163)) := by
  have hz := hb1.size
  simp at hz
  refine ⟨⟨by simp, ?_, ?_, ?_, ?_, ?_, ?_, ?_⟩, Nat.zero_le _, ⟨World.ownsRow_nil _ _ _ _, by simp⟩, ⟨World.ownsRow_nil _ _ _ _, by simp⟩, ?_, ?_, by omega⟩
  all_goals first | (rw [World.cell?_alloc_at _ _ _ _ rfl]; rfl) | (intro o; rw [World.frozen?_alloc_at _ _ _ _ rfl]; done) | skip
  · rw [Below.heap_alloc _ _ _ (by omega), hb1.block _ (by simp)]
    exact heap_alloc_new w _
  · exact (((Below.refl _ _).alloc (Nat.le_refl _) _).trans (hb1.mono (by simp))).alloc (by omega) _

theorem set2' {w1 : World} {n : Nat} {u0 u1 : Value} (h0 : w1.cell? ⟨n, 0, none⟩ = some u0) (h1 : w1.cell? ⟨n, 1, none⟩ = some u1) (v0 v1 : Value) : ((w1.setCell ⟨n, 0, none⟩ v0).setCell ⟨n, 1, none⟩ v1).cell? ⟨n, 0, none⟩ = some v0 ∧ ((w1.setCell ⟨n, 0, none⟩ v0).setCell ⟨n, 1, none⟩ v1).cell? ⟨n, 1, none⟩ = some v1 :=
  ⟨by rw [cs_other' (by omega)]; exact cs_same' h0, cs_same' (by rw [cs_other' (by omega)]; exact h1)⟩

theorem prules_step (s : ByteArray) (p : Nat) (rs : List PRule) (ms : List PMen) (h : rs.length ≤ 30) : prulesS s (31 - rs.length) p rs ms =
    if (scanK s p).1 = 0 then (true, p, rs, ms)
    else if rs.length = 30 then (false, p, rs, ms)
    else if (pruleS s rs.length p ms).1 then prulesS s (31 - (rs.length + 1)) (pruleS s rs.length p ms).2.1 (rs ++ [(pruleS s rs.length p ms).2.2.1]) (pruleS s rs.length p ms).2.2.2
    else (false, (pruleS s rs.length p ms).2.1, rs, (pruleS s rs.length p ms).2.2.2) := by
  have e : 31 - rs.length = (31 - (rs.length + 1)) + 1 := by omega
  rw [e, prulesS]

set_option maxRecDepth 100000 in
set_option maxHeartbeats 8000000 in
theorem prules_any (w : World) (s : ByteArray) (hs : s.size ≤ 800) :
    Calls Tryz.prog 45 #[.string s] w (RulesPost w s (pparsed s)) := by
  have hsm : s.size ≤ maxLen := by unfold maxLen; omega
  obtain ⟨i0, hi, hz0, hz1, hz2⟩ := info_parts infoPRule
  go_enter Tryz.func45, Tryz.ntmps45
  go_wp2_with fail
  refine (scan_any' s 0 (Nat.zero_le _) hsm _).mono ?_
  rintro e w1 ⟨rfl, hb1⟩
  have hst := q_start (s := s) hb1
  clear hb1
  go_wp2_with fail
  go_loopg [6] 32 (fun g rv wr => ∃ (rs : List PR) (ms : List (PMen × Value)) (p num : Nat) (mv : Value), rs.length ≤ 30 ∧ 31 - rs.length ≤ g ∧ ms.length ≤ 4 * rs.length ∧ QInv w w1.heap.size s rs p num ms mv rv wr ∧ pparsed s = prulesS s (31 - rs.length) p (rs.map (·.R)) (ms.map (·.1)))
  case atStart => exact ⟨[], [], 0, 0, _, by simp, by simp, by simp, hst, rfl⟩
  case round =>
    clear hst
    obtain ⟨rs, ms, p, num, mv, hl, hg, hml, hinv, hfin⟩ := hrel
    obtain ⟨a1, cap1, rfl⟩ := own_slice hinv.rules.row
    obtain ⟨a2, cap2, rfl⟩ := own_slice hinv.men.row
    have hst := prules_step s p (rs.map (·.R)) (ms.map (·.1)) (by simpa using hl)
    rw [List.length_map] at hst
    have HF := hide (hfin.trans hst)
    clear hfin hst
    have hpl := hinv.hp
    obtain ⟨hlt, c0, c1, c2, c3, c4, c5, fz⟩ := hinv.rdr
    have hbw := hinv.bw
    obtain ⟨r0, f0⟩ := block_cells hinv.res 0
    obtain ⟨r1, f1⟩ := block_cells hinv.res 1
    have HI := hide hinv
    clear hinv
    by_cases h0 : (scanK s p).1 = 0
    · have h0i : ((scanK s p).1 != 0) = false := by simp [h0]
      have HF1 := hide ((unhide HF).trans (if_pos h0))
      have HE := hide h0
      clear HF h0
      go_wp2_with fail
      obtain ⟨q0, q1⟩ := set2' r0 r1 (.slice a1 rs.length cap1) (.slice a2 ms.length cap2)
      refine bodyPost_ret (v := .tuple #[.agg #[.slice a1 rs.length cap1, .slice a2 ms.length cap2], .int .i64 0, .bool true]) (by simp [results, Tryz.results45, go_sem, q0, q1]) rfl ?_
      have kk := ra_set wr w.heap.size (.slice a1 rs.length cap1) (.slice a2 ms.length cap2)
      have i := unhide HI
      have hnt : ∀ e, 100 ≠ e → NotT wr e w.heap.size := fun e he => notT_of i.res he
      rw [unhide HF1]
      refine ⟨below_kept i.below kk (by omega) (by simp), fun e => (by cases e), fun _ => ⟨_, _, _, _, _, _, rs, ms, rfl, (i.rules.low (by omega)).keptT kk (fun x hx => ?_), rfl, (i.men.low (by omega)).keptT kk (fun x hx => ?_), rfl, hl, by omega⟩⟩
      · simp at hx; subst hx; exact .inr ⟨hnt _ (by decide), hnt _ (by decide), hnt _ (by decide)⟩
      · simp at hx; subst hx; exact .inr ⟨hnt _ (by decide), hnt _ (by decide)⟩
    · have h0i : ((scanK s p).1 != 0) = true := by simp [h0]
      have HF1 := hide ((unhide HF).trans (if_neg h0))
      have HE := hide h0
      clear HF h0
      by_cases h30 : rs.length = 30
      · have h30i : ((rs.length : Int) == 30) = true := by simp; omega
        have HF2 := hide ((unhide HF1).trans (if_pos h30))
        clear HF1 h30
        go_wp2_with fail
        go_region
        all_goals
          go_wp2_with fail
          obtain ⟨q0, q1⟩ := set2' r0 r1 (.slice none 0 0) (.slice none 0 0)
          refine bodyPost_ret (v := .tuple #[.agg #[.slice none 0 0, .slice none 0 0], .int .i64 (scanK s p).2.1, .bool false]) (by simp [results, Tryz.results45, go_sem, q0, q1]) rfl ?_
          rw [unhide HF2]
          refine ⟨below_kept (unhide HI).below ((ra_set wr w.heap.size (.slice none 0 0) (.slice none 0 0)).drew) (by omega) (by simp), fun _ => rfl, fun e => (by cases e)⟩
      · have h30i : ((rs.length : Int) == 30) = false := by simp; omega
        have HF2 := hide ((unhide HF1).trans (if_neg h30))
        have hrl : rs.length < 30 := by omega
        have HQ := hide ((unhide HI).num rs.length)
        clear HF1 h30
        go_wp2_with fail
        refine (prule_any _ w1.heap.size s p rs.length _ ms (unhide HQ).rdr (unhide HQ).men (by omega) hpl hs).mono ?_
        rintro e w2 ⟨x, a, n, c, a', n', c', mv', rfl, hk2, hr2, hat2, hyes2⟩
        clear c0 c1 c2 c3 c4 c5 fz r0 r1 f0 f1
        have hw2 := hk2.size
        rw [World.size_setCell] at hw2
        cases hP : (pruleS s rs.length p (ms.map (·.1))).1 with
        | false =>
          have HF3 := hide ((unhide HF2).trans (if_neg (by rw [hP]; decide)))
          have hq2 : w2.heap[w.heap.size]? = some (.cells #[.slice none 0 0, .slice none 0 0] 100 (0, 0)) := cells_keptT (unhide HQ).res hk2 (fun x hx => by
            rcases List.mem_cons.1 hx with rfl | hx
            · exact .inl (by omega)
            · exact .inr (own_notT (unhide HQ).men.row (by decide) x hx))
          have hbel : Below w.heap.size w w2 := below_kept (unhide HQ).below hk2 (by simp; omega) (fun x hx => by
            rcases List.mem_cons.1 hx with rfl | hx
            · omega
            · have := ((unhide HQ).men.row.lt x (by simpa using hx)).1; omega)
          have ka := (Kept.refl [] w2).alloc (Obj.cells #[Value.string x, .slice a n c, .slice a' n' c'] 123)
          obtain ⟨hlt, c0, c1, c2, c3, c4, c5, fz⟩ := hr2.kept ka (by simp)
          obtain ⟨r0, f0⟩ := block_cells (cells_keptT hq2 ka (by simp)) 0
          obtain ⟨r1, f1⟩ := block_cells (cells_keptT hq2 ka (by simp)) 1
          have HB := hide hbel
          clear hyes2 hat2 hk2 hr2 HF2 hP HQ HI hq2 ka hbel
          go_wp2_with fail
          go_region
          all_goals
            go_wp2_with fail
            obtain ⟨q0, q1⟩ := set2' r0 r1 (.slice none 0 0) (.slice none 0 0)
            refine bodyPost_ret (v := .tuple #[.agg #[.slice none 0 0, .slice none 0 0], .int .i64 (scanK s (pruleS s rs.length p (ms.map (·.1))).2.1).2.1, .bool false]) (by simp [results, Tryz.results45, go_sem, q0, q1]) rfl ?_
            rw [unhide HF3]
            refine ⟨below_kept ((unhide HB).alloc (by omega) _) ((ra_set _ w.heap.size (.slice none 0 0) (.slice none 0 0)).drew) (by simp; omega) (by simp), fun _ => rfl, fun e => (by cases e)⟩
        | true =>
          have HF3 := hide ((unhide HF2).trans (if_pos hP))
          obtain ⟨bs, ms', rfl, hm2, hmm2, hml2, ht2, hl2, hbs2, hbl2, hp2⟩ := hyes2 hP
          have hQ2 := (unhide HQ).rule hk2 hr2 hp2 hm2
          have hin : PRIn w2 (w1.heap.size + 1) ⟨(pruleS s rs.length p (ms.map (·.1))).2.2.1, .slice a n c, bs, .slice a' n' c'⟩ := ⟨ownsRow_low ht2 (by simp; omega), hl2.low (by simp; omega), hbs2⟩
          have hownA := hQ2.rules.row
          have HQ2 := hide hQ2
          have HIN := hide hin
          have HMM := hide hmm2
          clear hyes2 hat2 hk2 hr2 hm2 ht2 hl2 hbs2 hQ2 hin HF2 hP HQ HI hmm2
          go_wp2_with (at_builtin; refine wpList_append_own _ rfl _ _ 75 rfl (w1.heap.size + 1) 123 i0 _ 3 64 Tryz.underlying75 hi hz0 hz1 hz2 rfl (by decide) _ _ _ rfl ((hownA.alloc _).alloc _) ⟨w2.heap.size + 1, 0, none⟩ 1 1 (PR.mk (pruleS s rs.length p (ms.map (·.1))).2.2.1 (.slice a n c) bs (.slice a' n' c')).cells rfl rfl (pr_cell w2 _ (PR.mk (pruleS s rs.length p (ms.map (·.1))).2.2.1 (.slice a n c) bs (.slice a' n' c'))) (pr_one _ _ _ _ _ _ _ _) (by unfold maxLen; omega) (by omega) (by simp; omega) ?_)
          intro v5 w5 hown5 hg5 hne5
          clear hne5
          obtain ⟨a5, cap5, rfl⟩ := own_slice hown5
          have hQ5 := (unhide HQ2).append (((Kept.refl [] w2).alloc _).alloc _) (unhide HIN) hown5 hg5
          have HQ5 := hide hQ5
          clear hown5 hg5 hownA hQ5 HQ2 HIN
          go_wp2_with fail
          go_roundg (31 - (rs.length + 1))
          case measure => omega
          case rel => exact ⟨_, ms', _, _, _, by simp; omega, by simp, by simp; omega, unhide HQ5, by rw [unhide HF3, unhide HMM]; simp⟩
end Go.Proofs.YtldkpahaocjdpaaGreat
