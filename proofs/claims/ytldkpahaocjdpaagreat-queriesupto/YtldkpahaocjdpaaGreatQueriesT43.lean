/-
  slices.Sort over texts, over a row that the call has made.
  Matching: the texts of the things that match, rising.
  ofStratum: the rules of a stratum.
  Count: how many strata there are.
  follow.Of: what follows, stratum by stratum.
-/
import Derived.Test.YtldkpahaocjdpaaGreatQueriesT41
import Derived.Test.YtldkpahaocjdpaaGreatQueriesT42
import Derived.Sort.OwnSorted
import Derived.Test.YtldkpahaocjdpaaGreatQueriesT23
import Derived.Test.YtldkpahaocjdpaaGreatQueriesT24
import Derived.Test.YtldkpahaocjdpaaGreatQueriesT25
set_option maxHeartbeats 16000000
namespace Go.Proofs.YtldkpahaocjdpaaGreat
section
open Go.RowKit Go.Sort
theorem str_enc (zs : List ByteArray) : (zs.map Value.string) = (zs.map fun s => s.data.toList).map encStr := by
 rw [List.map_map]
 refine List.map_congr_left fun s _ => ?_
 simp [encStr]
def znn (zs : List ByteArray) : List (List UInt8) := (zs.map fun s => s.data.toList).mergeSort fun x y => decide (x ≤ y)
def SortedPost (w : World) (base : Nat) (zs : List ByteArray) (v : Value) (e : Ending) (w' : World) : Prop :=
 e = .returned (.tuple #[]) ∧ w'.ownsRow base 9 1 v zs.length ((znn zs).map encStr) ∧ w.grownBy w' v.ownBlock
theorem sortT_any (w : World) (base : Nat) (a : Option Addr) (c : Nat) (zs : List ByteArray) (h : w.ownsRow base 9 1 (.slice a zs.length c) zs.length (zs.map Value.string)) (hl : zs.length ≤ 1000000) :
  Calls Tryz.prog 64 #[.slice a zs.length c] w (SortedPost w base zs (.slice a zs.length c)) := by
 rcases h.2 with ⟨hnil, h0⟩ | ⟨g, cap, cur, hv, hbase, hb, h1, h2, h3, h4⟩
 ·have hz : zs = [] := List.length_eq_zero_iff.1 h0
  subst hz
  refine (Tryz.slices_Sort_string_none a c w).mono ?_
  rintro e w' ⟨rfl, rfl⟩
  refine ⟨rfl, by rw [show znn [] = [] from by simp [znn]]; exact h, ⟨rfl, rfl, rfl, Nat.le_refl _, fun _ _ _ => rfl⟩⟩
 ·injection hv with e1 e2 e3
  subst e1 e3
  have hlen : (zs.map fun s => s.data.toList).length = zs.length := by simp
  rw [str_enc] at h4
  have hH : Go.Sort.Holds encStr w g 0 (zs.map fun s => s.data.toList).toArray := holds_of_block hb (by rw [hlen]; simpa using h4)
  have := Tryz.slices_Sort_string g 0 c (zs.map fun s => s.data.toList) w hH (Array.getElem?_eq_some_iff.1 hb).1 (by rw [hlen]; omega)
  rw [hlen] at this
  refine this.mono ?_
  rintro e w' ⟨rfl, n, os, rfl⟩
  refine ⟨rfl, ?_, ?_⟩
  ·have := ownsRow_sorted (w := w) (n := n) (os := os) (ss := zs.map fun s => s.data.toList) (ts := znn zs) (by simp [znn]) hbase hb (by rw [hlen]; exact h1) h2 h3
   rw [hlen] at this
   exact this
  ·exact grownBy_sorted _
end
section
open Go.RowKit Go.Maps
attribute [local go_sem ↓] zgb ze5 zgm zdt zh1 zgt zgo zgy
attribute [local go_sem] zei zfs zf1 zfu
def hitB (A : PAtm) (p : Th × Nat) : Bool := (zc1 [] A p.1).isSome
theorem znh {L : List (Th × Nat)} (h : (L.map (·.1)).Nodup) : L.Nodup := by
 induction L with
 | nil => simp
 | cons x r ih =>
  rw [List.map_cons, List.nodup_cons] at h
  exact List.nodup_cons.2 ⟨fun hm => h.1 (List.mem_map_of_mem hm), ih h.2⟩
theorem mg_step {K ts : List (Th × Nat)} {A : PAtm} {Lf : Th → Prop} (hm : ∀ p, p ∈ ts ↔ p ∈ K ∧ ¬ Lf p.1 ∧ hitB A p = true) {t : Th} {n : Nat} (ht : (t, n) ∈ K) (hK : (K.map (·.1)).Nodup) : (hitB A (t, n) = true → ∀ p, p ∈ ts ++ [(t, n)] ↔ p ∈ K ∧ ¬ (Lf p.1 ∧ ¬ p.1 = t) ∧ hitB A p = true) ∧ (hitB A (t, n) = false → ∀ p, p ∈ ts ↔ p ∈ K ∧ ¬ (Lf p.1 ∧ ¬ p.1 = t) ∧ hitB A p = true) := by
 have key : ∀ p ∈ K, p.1 = t → p = (t, n) := fun p hp e => by
  have h1 := zem hK hp
  have h2 := zem hK ht
  rw [e, h2] at h1
  have h3 := Option.some.inj h1
  exact Prod.ext e h3.symm
 constructor
 ·intro hh p
  rw [List.mem_append, hm]
  constructor
  ·rintro (⟨h1, h2, h3⟩ | h1)
   ·exact ⟨h1, fun h => h2 h.1, h3⟩
   ·rw [List.mem_singleton.1 h1]; exact ⟨ht, fun h => h.2 rfl, hh⟩
  ·rintro ⟨h1, h2, h3⟩
   by_cases e : p.1 = t
   ·right; rw [key p h1 e]; exact List.mem_singleton.2 rfl
   ·left; exact ⟨h1, fun h => h2 ⟨h, e⟩, h3⟩
 ·intro hh p
  rw [hm]
  constructor
  ·rintro ⟨h1, h2, h3⟩; exact ⟨h1, fun h => h2 h.1, h3⟩
  ·rintro ⟨h1, h2, h3⟩
   refine ⟨h1, fun h => h2 ⟨h, fun e => ?_⟩, h3⟩
   rw [key p h1 e, hh] at h3; cases h3
structure MgIn (w : World) (kb rb : Nat) (A : PAtm) (aa : Option Addr) (ac : Nat) (K : List (Th × Nat)) (Lf : Th → Prop) (ts : List (Th × Nat)) (v : Value) (cnt : Nat) (wr : World) : Prop where
 rg : HRange wr kb rb K Lf cnt
 at_ : wr.heap[w.heap.size]? = some (.cells #[.string A.p, .slice aa A.ts.length ac] 79 (0, 0))
 mem : ∀ p, p ∈ ts ↔ p ∈ K ∧ ¬ Lf p.1 ∧ hitB A p = true
 nd : ts.Nodup
 len : ts.length + cnt ≤ K.length
 row : wr.ownsRow (w.heap.size + 1 + 1) 9 1 v ts.length ((ts.map fun p => zc6 p.1).map Value.string)
 k : Below w.heap.size w wr
def zpf (w : World) (A : PAtm) (K : List (Th × Nat)) (e : Ending) (w' : World) : Prop :=
 ∃ (zs : List ByteArray) (a : Option Addr) (c : Nat), e = .returned (.slice a zs.length c) ∧ zs.Perm ((K.filter (hitB A)).map fun p => zc6 p.1) ∧ w'.ownsRow w.heap.size 9 1 (.slice a zs.length c) zs.length ((znn zs).map encStr) ∧ Below w.heap.size w w'
set_option maxRecDepth 100000 in
theorem zpu (w : World) (kb base : Nat) (A : PAtm) (aa : Option Addr) (ac : Nat) (K : List (Th × Nat)) (hm : HMap w kb K) (hr : w.ownsRow base 191 1 (.slice aa A.ts.length ac) A.ts.length (A.ts.map zgr)) (h4 : A.ts.length ≤ 4) (hK : K.length ≤ 1000) (htx : ∀ p ∈ K, (zet p.1.1 (zb7 p.1)).length ≤ 1000000000) :
  Calls Tryz.prog 39 #[.map (some kb), .agg #[.string A.p, .slice aa A.ts.length ac]] w (zpf w A K) := by
 obtain ⟨i0, hi, hz0, hz1, hz2⟩ := info_parts zeh
 have HR := hide hr
 have HTX := hide htx
 have hkl := hm.lt
 have HM := hide hm
 clear hr htx hm
 go_enter Tryz.func39, Tryz.ntmps39
 go_upto_region 2 with fail
 generalize hw0 : World.alloc w _ = w0
 have k0 : Below w.heap.size w w0 := by rw [← hw0]; exact (Below.refl w.heap.size w).alloc (Nat.le_refl _) _
 have x0 : w0.heap[w.heap.size]? = some (.cells #[.string A.p, .slice aa A.ts.length ac] 79 (0, 0)) := by rw [← hw0]; exact heap_alloc_new w _
 have s0 : w0.heap.size = w.heap.size + 1 := by rw [← hw0]; simp
 have hmA : HMap w0 kb K := (zaa HM).block (k0.block _ hkl)
 have HK1 := hide k0
 have HX1 := hide x0
 have HS0 := hide s0
 clear hw0 k0 x0 s0
 go_wp2_with (first | (at_range; refine zkd _ rfl _ 83 rfl Tryz.underlying83 kb K rfl hmA ?_; intro w1 hrg1 hg1 hs1) | go_in)
 try go_frame
 have h0 : MgIn w kb w0.heap.size A aa ac K (fun _ => True) [] (.slice none 0 0) K.length w1 := by
  have s0 := zaa HS0
  refine ⟨hrg1, (hg1.block _ (by omega) (by simp)).trans (zaa HX1), fun p => ⟨fun h => absurd h List.not_mem_nil, fun h => absurd trivial h.2.1⟩, by simp, by simp, World.ownsRow_nil _ _ _ _, ⟨hg1.os.trans (zaa HK1).os, hg1.tape.trans (zaa HK1).tape, hg1.output.trans (zaa HK1).output, Nat.le_trans (zaa HK1).size hg1.size, fun j hj => (hg1.block j (by omega) (by simp)).trans ((zaa HK1).block j hj)⟩⟩
 have H0 := hide h0
 clear hrg1 hg1 hs1 hmA h0
 go_loopg [5] K.length (fun gg v wr => ∃ (Lf : Th → Prop) (ts : List (Th × Nat)), MgIn w kb w0.heap.size A aa ac K Lf ts v gg wr)
 case atStart => exact ⟨_, _, zaa H0⟩
 case round =>
  clear H0
  obtain ⟨Lf, ts, hin⟩ := hrel
  obtain ⟨a1, c1, rfl⟩ := zac hin.row
  have hrg := hin.rg
  have hwr0 := hin.rg.lt
  have hwr : w.heap.size + 1 < wr.heap.size := by have := zaa HS0; omega
  clear hwr0
  have hlen := hin.len
  have HIN := hide hin
  clear hin
  go_wp2_with (first | (at_next; refine znr _ rfl _ rfl kb w0.heap.size K Lf gk rfl hrg ?_ ?_) | go_in)
  ·intro hdone
   have HD := hide hdone
   have hin := zaa HIN
   have hl0 : ((ts.map fun p => zc6 p.1)).length = ts.length := by simp
   have hrow := hin.row
   rw [← hl0] at hrow
   have HS := hide (sortT_any wr (w.heap.size + 1 + 1) a1 c1 (ts.map fun p => zc6 p.1) hrow (by rw [hl0]; omega))
   rw [hl0] at HS
   clear hdone hrg hin hrow
   go_wp2_with (go_at_call 64; refine (zaa HS).mono ?_; rintro e w2 ⟨rfl, hown2, hg2⟩; have HO2 := hide hown2; have HG2 := hide hg2; clear hown2 hg2)
   go_ret
   have hin := zaa HIN
   have g2 := zaa HG2
   refine ⟨ts.map fun p => zc6 p.1, a1, c1, by rw [hl0]; rfl, List.Perm.map _ ((List.perm_ext_iff_of_nodup hin.nd ((znh hin.rg.map.nodup).filter _)).2 fun p => ?_), ?_, ?_⟩
   ·rw [hin.mem, List.mem_filter]
    exact ⟨fun ⟨h1, _, h3⟩ => ⟨h1, h3⟩, fun ⟨h1, h3⟩ => ⟨h1, zaa HD p.1.1 p.1.2 p.2 h1, h3⟩⟩
   ·rw [hl0]; have := zaa HO2; rw [hl0] at this; exact zaf this (by omega)
   ·exact ⟨g2.os.trans hin.k.os, g2.tape.trans hin.k.tape, g2.output.trans hin.k.output, Nat.le_trans hin.k.size g2.size, fun i hi => (g2.block i (by omega) (fun e => by have := (hin.row.lt i e.symm).1; omega)).trans (hin.k.block i hi)⟩
  ·intro tp tts n w2 cnt2 htk hlf hrg2 hlt2 hg2 hs2 hen2
   generalize ((tp, tts) : Th) = t at *
   have hin := zaa HIN
   have s0 := zaa HS0
   have k2 : Below w.heap.size w w2 := ⟨hg2.os.trans hin.k.os, hg2.tape.trans hin.k.tape, hg2.output.trans hin.k.output, Nat.le_trans hin.k.size hg2.size, fun i hi => (hg2.block i (by omega) (by simp; omega)).trans (hin.k.block i hi)⟩
   have a2 : w2.heap[w.heap.size]? = some (.cells #[.string A.p, .slice aa A.ts.length ac] 79 (0, 0)) := (hg2.block _ (by omega) (by simp; omega)).trans hin.at_
   have r2 : w2.ownsRow (w.heap.size + 1 + 1) 9 1 (.slice a1 ts.length c1) ts.length ((ts.map fun p => zc6 p.1).map Value.string) := zbb hin.row (fun g e => hg2.block g (hin.row.lt g e).2 (fun e2 => by have := (hin.row.lt g e).1; injection e2 with e2; omega))
   have hT : ThOk t := hin.rg.map.ok _ htk
   have hw2 : wr.heap.size ≤ w2.heap.size := hg2.size
   have k3 : Below w2.heap.size w2 (w2.alloc (.cells (zbd t).toArray 88)) := (Below.refl _ _).alloc (Nat.le_refl _) _
   have kk3 : Below w.heap.size w (w2.alloc (.cells (zbd t).toArray 88)) := k2.trans (k3.mono k2.size)
   have HM := hide (zl5 (w2.alloc (.cells (zbd t).toArray 88)) base [] A aa ac t (zbb (zaa HR) (fun g e => kk3.block g ((zaa HR).lt g e).2)) h4 (by simp; omega))
   have t3 := (TV.new w2 t).load
   obtain ⟨q0, -⟩ := zab ((k3.block _ (by omega)).trans a2) 0
   obtain ⟨q1, -⟩ := zab ((k3.block _ (by omega)).trans a2) 1
   simp only [List.getElem?_toArray, List.getElem?_cons_zero, List.getElem?_cons_succ] at q0 q1
   have HT := hide hT
   have HRG2 := hide hrg2
   have HK2 := hide k2
   have HA2 := hide a2
   have HR2 := hide r2
   have HTK := hide htk
   have HLF := hide hlf
   have htl := zaa HTX _ htk
   have hnt : (t, n) ∉ ts := fun hm => ((hin.mem _).1 hm).2.1 hlf
   have HNT := hide hnt
   have HST := hide (mg_step hin.mem htk hin.rg.map.nodup)
   have HND := hide hin.nd
   clear hs2 hg2 hrg hrg2 k2 a2 r2 hT htk hlf hin k3 kk3 hnt s0
   obtain ⟨R, hR⟩ : ∃ R, R = zc1 [] A t := ⟨_, rfl⟩
   rw [← hR] at HM
   have hhit : hitB A (t, n) = R.isSome := by unfold hitB; rw [hR]
   have HHIT := hide hhit
   clear hR hhit
   go_upto_region 6 with (go_at_call 62; refine (zaa HM).mono ?_; rintro en w4 ⟨hb4, rfl⟩; have HB4 := hide hb4; clear hb4)
   generalize hw5 : World.alloc w4 _ = w5
   have b5 : Below w2.heap.size w2 w5 := by
    rw [← hw5]
    have b4 := zaa HB4
    exact (((Below.refl _ _).alloc (Nat.le_refl _) _).trans (b4.mono (by simp))).alloc (by have := b4.size; simp at this; omega) _
   have t5 : TV w5 w2.heap.size t := by
    rw [← hw5]
    exact ((TV.new w2 t).below (zaa HB4)).alloc _
   have l5 := t5.load
   have HB5 := hide b5
   have hw5' := b5.size
   have kw5 : Below w.heap.size w w5 := (zaa HK2).trans (b5.mono (zaa HK2).size)
   have r5 := zai (zaa HR2) b5 (fun g e => ((zaa HR2).lt g e).2)
   have a5 : w5.heap[w.heap.size]? = some (.cells #[.string A.p, .slice aa A.ts.length ac] 79 (0, 0)) := (b5.block _ (by omega)).trans (zaa HA2)
   have g5 : HRange w5 kb w0.heap.size K (fun x => Lf x ∧ ¬ x = t) cnt2 := (zaa HRG2).blocks (b5.block _ (zaa HRG2).map.lt) (b5.block _ (zaa HRG2).lt)
   have HK5 := hide kw5
   have HR5 := hide r5
   have HA5 := hide a5
   have HG5 := hide g5
   have HTE := hide (thtext_any w5 t (zaa HT) htl)
   clear hw5 b5 t5 kw5 r5 a5 g5 t3 q0 q1 hen2
   cases hr : R with
   | none =>
    have hh : hitB A (t, n) = false := by rw [zaa HHIT, hr]; rfl
    have HS := hide ((zaa HST).2 hh)
    clear hh hr
    go_wp2_with fail
    go_roundg cnt2
    case measure => omega
    case rel => exact ⟨_, ts, zaa HG5, zaa HA5, zaa HS, zaa HND, by omega, zaa HR5, zaa HK5⟩
   | some e2 =>
    have hh : hitB A (t, n) = true := by rw [zaa HHIT, hr]; rfl
    have HS := hide ((zaa HST).1 hh)
    clear hh hr
    go_wp2_with fail
    refine (zaa HTE).mono ?_
    rintro en w6 ⟨rfl, hb6⟩
    have hw6 := hb6.size
    have r6 := zai (zaa HR5) hb6 (fun g e => ((zaa HR5).lt g e).2)
    have hlt : ts.length ≤ 1000 := by omega
    have HB6 := hide hb6
    clear hb6
    go_wp2_with (at_builtin; refine wpList_append_own _ rfl _ _ 33 rfl (w.heap.size + 1 + 1) 9 i0 _ 1 16 Tryz.underlying33 hi hz0 hz1 hz2 rfl (by decide) _ _ _ rfl (r6.alloc _) ⟨w6.heap.size, 0, none⟩ 1 1 [.string (zc6 t)] rfl rfl (zoa w6 _) (zqg _) (by unfold maxLen; omega) (by omega) (by simp; omega) ?_; intro v7 w7 hown7 hg7 hne7; clear hne7; obtain ⟨a7, cap7, rfl⟩ := zac hown7; have HO7 := hide hown7; have HG7 := hide hg7; clear hown7 hg7)
    go_roundg cnt2
    case measure => omega
    case rel =>
     have g7 := zaa HG7
     have b6 := zaa HB6
     have s0 := zaa HS0
     have hb : ∀ i, i < w5.heap.size → i < w.heap.size + 1 + 1 → w7.heap[i]? = w5.heap[i]? := fun i hi h2 => by
      rw [g7.block i (by simp; omega) (fun e => by have := (r6.lt i e.symm).1; omega), Below.heap_alloc _ _ _ (by omega), b6.block i hi]
     have hkb : kb < w.heap.size + 1 + 1 := by omega
     refine ⟨_, ts ++ [(t, n)], (zaa HG5).blocks (hb _ (zaa HG5).map.lt hkb) (hb _ (zaa HG5).lt (by omega)), (hb _ (by omega) (by omega)).trans (zaa HA5), zaa HS, List.nodup_append.2 ⟨zaa HND, by simp, fun x hx y hy e => by rw [List.mem_singleton.1 hy] at e; rw [e] at hx; exact zaa HNT hx⟩, by rw [List.length_append]; simp; omega, ?_, ?_⟩
     ·have h7 := zaa HO7
      have e1 : (ts ++ [(t, n)]).length = ts.length + 1 := by simp
      rw [e1, List.map_append, List.map_append]
      exact h7
     ·have k5 := zaa HK5
      exact ⟨g7.os.trans (b6.os.trans k5.os), g7.tape.trans (b6.tape.trans k5.tape), g7.output.trans (b6.output.trans k5.output), by have h1 := g7.size; have h2 := k5.size; simp at h1; omega, fun i hi => (hb i (by omega) (by omega)).trans (k5.block i hi)⟩
end
section
open Go.RowKit Go.Maps
def ze6 (S : ByteArray → Nat) (s : Nat) (r : PR) : Bool := S r.R.pd == s
structure OSIn (w : World) (base : Nat) (rv : Value) (rs : List PR) (tb n : Nat) (ps : List (ByteArray × Nat)) (S : ByteArray → Nat) (l : List PR) (v : Value) (wr : World) : Prop where
 row : wr.ownsRow w.heap.size 123 3 v l.length (l.flatMap PR.cells)
 below : Below w.heap.size w wr
theorem OSIn.alloc {w : World} {base : Nat} {rv : Value} {rs : List PR} {tb n : Nat} {ps : List (ByteArray × Nat)} {S : ByteArray → Nat} {l : List PR} {v : Value} {wr : World} (h : OSIn w base rv rs tb n ps S l v wr) (o : Obj) : OSIn w base rv rs tb n ps S l v (wr.alloc o) := ⟨h.row.alloc o, h.below.alloc h.below.size _⟩
theorem OSIn.append {w : World} {base : Nat} {rv : Value} {rs : List PR} {tb n : Nat} {ps : List (ByteArray × Nat)} {S : ByteArray → Nat} {l : List PR} {v v' : Value} {wr w5 : World} (h : OSIn w base rv rs tb n ps S l v wr) {r : PR} (hown : w5.ownsRow w.heap.size 123 3 v' (l.length + 1) (l.flatMap PR.cells ++ r.cells)) (hg : wr.grownBy w5 v.ownBlock) : OSIn w base rv rs tb n ps S (l ++ [r]) v' w5 := by
 have hs := h.below.size
 have hb : ∀ g, g < w.heap.size → w5.heap[g]? = wr.heap[g]? := fun g hg' => hg.block g (by omega) (fun e => by have := (h.row.lt g e.symm).1; omega)
 refine ⟨?_, h.below.trans ⟨hg.os, hg.tape, hg.output, hg.size, hb⟩⟩
 simpa using hown
def OSPost (w : World) (base : Nat) (rs : List PR) (S : ByteArray → Nat) (s : Nat) (en : Ending) (w' : World) : Prop :=
 ∃ a c, en = .returned (.slice a (rs.filter (ze6 S s)).length c) ∧ Below w.heap.size w w' ∧ RRow w' base (.slice a (rs.filter (ze6 S s)).length c) (rs.filter (ze6 S s))
set_option maxRecDepth 100000 in
theorem ofstr_any (w : World) (base : Nat) (ar : Option Addr) (cr : Nat) (rs : List PR) (tb n : Nat) (ps : List (ByteArray × Nat)) (S : ByteArray → Nat) (s : Nat) (h : RRow w base (.slice ar rs.length cr) rs) (hb : base ≤ w.heap.size) (ht : SMap Tryz.prog 9 w tb n (stV ps S)) (hl : rs.length ≤ 1000) (hpd : ∀ r ∈ rs, r.R.pd.size ≤ 800 ∧ (zbk ps r.R.pd).isSome = true) :
  Calls Tryz.prog 61 #[.slice ar rs.length cr, .map (some tb), .int .i64 (s : Nat)] w (OSPost w base rs S s) := by
 obtain ⟨i0, hi, hz0, hz1, hz2⟩ := info_parts zo1
 have H := hide h
 have HT := hide ht
 have HPD := hide hpd
 have h0 : OSIn w base (.slice ar rs.length cr) rs tb n ps S [] (.slice none 0 0) w := ⟨World.ownsRow_nil _ _ _ _, Below.refl _ _⟩
 have H0 := hide h0
 have htl := ht.lt
 clear h ht hpd h0
 have hfs := fieldStr
 go_enter Tryz.func61, Tryz.ntmps61
 go_wp2_with fail
 go_loopg [7, 12] rs.length (fun gg v i wr => ∃ k : Nat, k ≤ rs.length ∧ gg = rs.length - k ∧ i = .int .i64 k ∧ OSIn w base (.slice ar rs.length cr) rs tb n ps S ((rs.take k).filter (ze6 S s)) v wr)
 case atStart => exact ⟨0, Nat.zero_le _, rfl, rfl, zaa H0⟩
 case round =>
  clear H0
  obtain ⟨k, hk, hgk, rfl, hinv⟩ := hrel
  obtain ⟨a1, cap1, rfl⟩ := zac hinv.row
  by_cases hlk : k < rs.length
  ·obtain ⟨r, hrr⟩ : ∃ r, r = rs[k] := ⟨_, rfl⟩
   have hmem : r ∈ rs := by rw [hrr]; exact List.getElem_mem hlk
   have hin := (zaa H).each r hmem
   obtain ⟨ah, ch, ehv⟩ := zac hin.hd
   obtain ⟨ab, cb, ebv⟩ := zac hin.bo.row
   obtain ⟨g, cap, hv, hbg, hgl, hnc, hcm, hc⟩ := zc7 pr_len3 (zaa H).row k hlk
   injection hv with h1 h2 h3
   subst h1 h3
   have hbw := hinv.below
   have e0 : wr.cell? ⟨g, k * 3, none⟩ = some (.string r.R.pd) := by rw [hrr]; exact (hbw.cell (p := ⟨g, k * 3, none⟩) hgl).trans (hc 0 (by omega))
   have e1 : wr.cell? ⟨g, k * 3 + 1, none⟩ = some (.slice ah r.R.ts.length ch) := by rw [← ehv, hrr]; exact (hbw.cell (p := ⟨g, k * 3 + 1, none⟩) hgl).trans (hc 1 (by omega))
   have e2 : wr.cell? ⟨g, k * 3 + 2, none⟩ = some (.slice ab r.bs.length cb) := by rw [← ebv, hrr]; exact (hbw.cell (p := ⟨g, k * 3 + 2, none⟩) hgl).trans (hc 2 (by omega))
   have hki : (k : Int) < rs.length := by omega
   have hI := hinv.alloc (.cells #[.string r.R.pd, .slice ah r.R.ts.length ch, .slice ab r.bs.length cb] 123)
   have hmA : SMap Tryz.prog 9 (wr.alloc (.cells #[.string r.R.pd, .slice ah r.R.ts.length ch, .slice ab r.bs.length cb] 123)) tb n (stV ps S) := (zaa HT).block (hI.below.block tb htl)
   obtain ⟨hp8, hps⟩ := zaa HPD r hmem
   have hkl : r.R.pd.size ≤ maxLen := by unfold maxLen; omega
   obtain ⟨m, hm⟩ := Option.isSome_iff_exists.1 hps
   have hu : (stV ps S r.R.pd).getD (.agg #[.string { data := #[] }, .int .i64 0, .int .i64 0]) = .agg #[.string r.R.pd, .int .i64 (S r.R.pd), .int .i64 m] := by unfold stV; rw [hm]; rfl
   have hfl : ((rs.take k).filter (ze6 S s)).length ≤ 1000 := Nat.le_trans (List.length_filter_le _ _) (by simp; omega)
   have hxr : r = ⟨r.R, .slice ah r.R.ts.length ch, r.bs, .slice ab r.bs.length cb⟩ := by rw [← ehv, ← ebv]
   have HXR := hide hxr
   have HTK := hide (zhw (f := ze6 S s) hlk)
   have HRR := hide hrr
   have hwr := hinv.below.size
   clear hc hinv hin hrr hmem hbw h2 hps hm ehv ebv hxr
   cases hq : ze6 S s r with
   | true =>
    have hqi : (S r.R.pd : Int) = s := by have : S r.R.pd = s := (by simpa [ze6] using hq); omega
    have HQ := hide hq
    have hownA := (hI.alloc (.cells #[.string r.R.pd, .slice ah r.R.ts.length ch, .slice ab r.bs.length cb] 123)).row
    have HI := hide (hI.alloc (.cells #[.string r.R.pd, .slice ah r.R.ts.length ch, .slice ab r.bs.length cb] 123))
    clear hI hq
    go_wp2_with (first
     | (at_lookup; refine zhn _ rfl _ _ 73 rfl 9 185 Tryz.underlying9 Tryz.underlying73 (Tryz.zeroValue185 _) tb n (stV ps S) rfl hmA r.R.pd rfl hkl _ hu ?_)
     | (at_builtin; refine wpList_append_own _ rfl _ _ 75 rfl w.heap.size 123 i0 _ 3 64 Tryz.underlying75 hi hz0 hz1 hz2 rfl (by decide) _ _ _ rfl hownA ⟨wr.heap.size + 1, 0, none⟩ 1 1 (PR.mk r.R (.slice ah r.R.ts.length ch) r.bs (.slice ab r.bs.length cb)).cells rfl rfl (pr_cell wr _ (PR.mk r.R (.slice ah r.R.ts.length ch) r.bs (.slice ab r.bs.length cb))) (pr_one _ _ _ _ _ _ _ _) (by unfold maxLen; omega) (by omega) (by simp; omega) ?_; intro v5 w5 hown5 hg5 hne5; clear hne5; obtain ⟨a5, cap5, rfl⟩ := zac hown5; have HI5 := hide ((zaa HI).append hown5 hg5); clear hown5 hg5))
    go_roundg (rs.length - (k + 1))
    case measure => omega
    case rel =>
     refine ⟨k + 1, by omega, rfl, by go_num, ?_⟩
     rw [zaa HTK, ← zaa HRR, zaa HQ, if_pos rfl, zaa HXR]
     exact zaa HI5
   | false =>
    have hqi : ¬ ((S r.R.pd : Int) = s) := by have : S r.R.pd ≠ s := (by simpa [ze6] using hq); omega
    have HQ := hide hq
    have HI := hide hI
    clear hI hq
    go_wp2_with (at_lookup; refine zhn _ rfl _ _ 73 rfl 9 185 Tryz.underlying9 Tryz.underlying73 (Tryz.zeroValue185 _) tb n (stV ps S) rfl hmA r.R.pd rfl hkl _ hu ?_)
    go_roundg (rs.length - (k + 1))
    case measure => omega
    case rel =>
     refine ⟨k + 1, by omega, rfl, by go_num, ?_⟩
     rw [zaa HTK, ← zaa HRR, zaa HQ, if_neg (by decide), List.append_nil]
     exact zaa HI
  ·have e : (rs.take k).filter (ze6 S s) = rs.filter (ze6 S s) := by rw [List.take_of_length_le (by omega)]
   rw [e] at hinv ⊢
   have HI := hide hinv
   clear hinv
   go_wp2_with fail
   go_ret
   have hI := zaa HI
   exact ⟨_, _, rfl, hI.below, ⟨zaf hI.row hb, fun r hr => by
    have hin := (zaa H).each r (List.mem_filter.1 hr).1
    exact ⟨zai hin.hd hI.below (fun g e => (hin.hd.lt g e).2), hin.bo.below hI.below, hin.eq⟩⟩⟩
end
section
open Go.RowKit Go.Maps
structure CntIn (w : World) (tb n : Nat) (ps : List (ByteArray × Nat)) (S : ByteArray → Nat) (Lf : ByteArray → Prop) (m cnt : Nat) (wr : World) : Prop where
 rg : SRange Tryz.prog 9 wr tb w.heap.size n (stV ps S) Lf cnt
 lo : ∀ k, (stV ps S k).isSome = true → ¬ Lf k → S k + 1 ≤ m
 hi : m = 0 ∨ ∃ k, (stV ps S k).isSome = true ∧ m = S k + 1
 k : Below w.heap.size w wr
def zio (ps : List (ByteArray × Nat)) (S : ByteArray → Nat) (m : Nat) : Prop := (∀ k, (zbk ps k).isSome = true → S k + 1 ≤ m) ∧ (m = 0 ∨ ∃ k, (zbk ps k).isSome = true ∧ m = S k + 1)
theorem znu (ps : List (ByteArray × Nat)) (S : ByteArray → Nat) (k : ByteArray) : (stV ps S k).isSome = (zbk ps k).isSome := by unfold stV; cases zbk ps k <;> rfl
set_option maxRecDepth 100000 in
theorem count_any (w : World) (tb n : Nat) (ps : List (ByteArray × Nat)) (S : ByteArray → Nat) (h : SMap Tryz.prog 9 w tb n (stV ps S)) (hS : ∀ k, (zbk ps k).isSome = true → S k ≤ 1000000) :
  Calls Tryz.prog 59 #[.map (some tb)] w fun en w' => ∃ m : Nat, en = .returned (.int .i64 (m : Nat)) ∧ zio ps S m ∧ Below w.heap.size w w' := by
 have HS := hide hS
 have htl := h.lt
 clear hS
 go_enter Tryz.func59, Tryz.ntmps59
 go_wp2_with (first | (at_range; refine wp_range _ rfl _ 73 rfl 9 185 Tryz.underlying9 Tryz.underlying73 tb n (stV ps S) rfl h ?_; intro w0 cnt0 hrg0 hcn hg0 hs0) | go_in)
 try go_frame
 have h0 : CntIn w tb n ps S (fun k => (stV ps S k).isSome = true) 0 cnt0 w0 := ⟨hrg0, fun k h1 h2 => absurd h1 h2, .inl rfl, ⟨hg0.os, hg0.tape, hg0.output, by omega, fun j hj => hg0.block j hj (by simp)⟩⟩
 have H0 := hide h0
 clear hrg0 hcn hg0 hs0 h h0
 go_loopg [3] cnt0 (fun gg c wr => ∃ (m : Nat) (Lf : ByteArray → Prop), c = .int .i64 (m : Nat) ∧ CntIn w tb n ps S Lf m gg wr)
 case atStart => exact ⟨0, _, rfl, zaa H0⟩
 case round =>
  clear H0
  obtain ⟨m, Lf, rfl, hin⟩ := hrel
  have hrg := hin.rg
  have HIN := hide hin
  clear hin
  go_wp2_with (first | (at_next; refine wp_next _ rfl _ rfl 9 Tryz.underlying9 tb w.heap.size n (stV ps S) _ gk (fun k => .agg #[.string k, .int .i64 (S k), .int .i64 ((zbk ps k).getD 0 : Nat)]) (stV_some ps S) rfl hrg ?_ ?_) | go_in)
  ·intro hdone
   have HD := hide hdone
   clear hdone hrg
   go_wp2_with fail
   go_ret
   have hin := zaa HIN
   exact ⟨m, rfl, ⟨fun k hk => hin.lo k (by rw [znu]; exact hk) (zaa HD k), hin.hi.imp id fun ⟨k, h1, h2⟩ => ⟨k, by rw [← znu ps S]; exact h1, h2⟩⟩, hin.k⟩
  ·intro k w1 cnt1 hv1 hVk hrg1 hlt hg1 hs1 hen
   have hsk : (stV ps S k).isSome = true := by rw [hVk]; rfl
   have hk6 := zaa HS k (by rw [← znu ps S]; exact hsk)
   have HR1 := hide hrg1
   have HG1 := hide hg1
   have HSK := hide hsk
   have HV1 := hide hv1
   have hin := zaa HIN
   have hw1 := hin.k.size
   clear hs1 hrg hrg1 hg1 hVk hsk hin hv1
   have hmx : m ≤ 1000001 := by
    rcases (zaa HIN).hi with h | ⟨j, hj, h⟩
    ·omega
    ·have := zaa HS j (by rw [← znu ps S]; exact hj); omega
   go_wp2_with fail
   go_roundg cnt1
   case measure => omega
   case rel =>
    have hin := zaa HIN
    have g1 := zaa HG1
    have b1 : Below w.heap.size w w1 := ⟨g1.os.trans hin.k.os, g1.tape.trans hin.k.tape, g1.output.trans hin.k.output, Nat.le_trans hin.k.size g1.size, fun i hi => (g1.block i (by omega) (by simp; omega)).trans (hin.k.block i hi)⟩
    refine ⟨max m (S k + 1), _, by congr 1; omega, (zaa HR1).alloc _, fun x hx hn => ?_, ?_, b1.alloc b1.size _⟩
    ·by_cases e : x = k
     ·subst e; omega
     ·have := hin.lo x hx (fun h => hn ⟨h, e⟩); omega
    ·rcases Nat.le_total m (S k + 1) with h | h
     ·right; exact ⟨k, zaa HSK, by omega⟩
     ·rw [Nat.max_eq_left h]; exact hin.hi
end
section
open Go.RowKit Go.Maps
inductive PStrat (rs : List PR) (S : ByteArray → Nat) (limit count : Nat) : Nat → List (Th × Nat) → Option (List (Th × Nat)) → Prop
 | ends {s : Nat} {K : List (Th × Nat)} : count ≤ s → PStrat rs S limit count s K (some K)
 | fails {s : Nat} {K : List (Th × Nat)} : s < count → PClimb (rs.filter (ze6 S s)) limit 1 K none → PStrat rs S limit count s K none
 | next {s : Nat} {K K' : List (Th × Nat)} {r : Option (List (Th × Nat))} : s < count → PClimb (rs.filter (ze6 S s)) limit 1 K (some K') → PStrat rs S limit count (s + 1) K' r → PStrat rs S limit count s K r
theorem Closed.filter {rs : List PR} {TI : Th → Prop} (h : Closed rs TI) (f : PR → Bool) : Closed (rs.filter f) TI := fun K hK r hr => h K hK r (List.mem_filter.1 hr).1
structure FollIn (w : World) (kb : Nat) (rs : List PR) (S : ByteArray → Nat) (limit count : Nat) (TI : Th → Prop) (s : Nat) (K : List (Th × Nat)) (wr : World) : Prop where
 m : HMap wr kb K
 ti : ∀ p ∈ K, TI p.1
 len : K.length ≤ limit
 k : Below w.heap.size w wr
 rel : ∀ r, PStrat rs S limit count s K r → PStrat rs S limit count 0 [] r
def FollPost (w : World) (rs : List PR) (ps : List (ByteArray × Nat)) (S : ByteArray → Nat) (limit : Nat) (TI : Th → Prop) (en : Ending) (w' : World) : Prop :=
 ∃ m r, zio ps S m ∧ PStrat rs S limit m 0 [] r ∧ Below w.heap.size w w' ∧ (r = none → en = .returned (.tuple #[.map none, .bool false])) ∧
  ∀ K, r = some K → ∃ kb, en = .returned (.tuple #[.map (some kb), .bool true]) ∧ w.heap.size ≤ kb ∧ HMap w' kb K ∧ K.length ≤ limit ∧ ∀ p ∈ K, TI p.1
set_option maxRecDepth 100000 in
theorem foll_any (w : World) (base : Nat) (ar : Option Addr) (cr : Nat) (rs : List PR) (tb n : Nat) (ps : List (ByteArray × Nat)) (S : ByteArray → Nat) (limit : Nat) (TI : Th → Prop) (h : RRow w base (.slice ar rs.length cr) rs) (hb : base ≤ w.heap.size) (ht : SMap Tryz.prog 9 w tb n (stV ps S)) (hS : ∀ k, (zbk ps k).isSome = true → S k ≤ 1000000) (hrl : rs.length ≤ 1000) (hpd : ∀ r ∈ rs, r.R.pd.size ≤ 800 ∧ (zbk ps r.R.pd).isSome = true) (hcl : Closed rs TI) (hl : limit ≤ 50) :
  Calls Tryz.prog 38 #[.slice ar rs.length cr, .map (some tb), .int .i64 (limit : Nat)] w (FollPost w rs ps S limit TI) := by
 have H := hide h
 have HT := hide ht
 have HPD := hide hpd
 have HCL := hide hcl
 have htl := ht.lt
 have k0 : Below w.heap.size w (w.alloc (.map #[] 0)) := (Below.refl _ _).alloc (Nat.le_refl _) _
 have HC := hide (count_any (w.alloc (.map #[] 0)) tb n ps S (ht.block (k0.block tb htl)) hS)
 have HK0 := hide k0
 have hmm := @run_makeMap Tryz.prog
 have HSS := hide hS
 clear h ht hpd hcl hS k0
 go_enter Tryz.func38, Tryz.ntmps38
 go_wp2_with (go_at_call 59; refine (zaa HC).mono ?_; rintro en w1 ⟨m, rfl, hct, hb1⟩; have HCT := hide hct; have HB1 := hide hb1; clear hct hb1)
 have hbw1 : Below w.heap.size w w1 := (zaa HK0).trans ((zaa HB1).mono (by simp))
 have hm1 : HMap w1 w.heap.size [] := (HMap.made w).block ((zaa HB1).block _ (by simp))
 have H0 := hide (show FollIn w w.heap.size rs S limit m TI 0 [] w1 from ⟨hm1, by simp, by simp, hbw1, fun _ h => h⟩)
 have hmx : m ≤ 1000001 := by
  rcases (zaa HCT).2 with h | ⟨j, hj, h⟩
  ·omega
  ·have := zaa HSS j hj; omega
 clear hbw1 hm1 hmm
 go_loopg [13] m (fun gg i wr => ∃ (s : Nat) (K : List (Th × Nat)), s ≤ m ∧ gg = m - s ∧ i = .int .i64 (s : Nat) ∧ FollIn w w.heap.size rs S limit m TI s K wr)
 case atStart => exact ⟨0, [], Nat.zero_le _, rfl, rfl, zaa H0⟩
 case round =>
  clear H0
  obtain ⟨s, K, hs, hgk, rfl, hin⟩ := hrel
  have HIN := hide hin
  clear hin
  by_cases hlk : s < m
  ·have hin := zaa HIN
   have hsi : (s : Int) < m := by omega
   have hrow : RRow wr base (.slice ar rs.length cr) rs := ⟨zai (zaa H).row hin.k (fun g e => ((zaa H).row.lt g e).2), fun r hr => ⟨zai ((zaa H).each r hr).hd hin.k (fun g e => (((zaa H).each r hr).hd.lt g e).2), ((zaa H).each r hr).bo.below hin.k, ((zaa H).each r hr).eq⟩⟩
   have HO := hide (ofstr_any wr base ar cr rs tb n ps S s hrow (Nat.le_trans hb hin.k.size) ((zaa HT).block (hin.k.block tb htl)) hrl (zaa HPD))
   have HM := hide hin.m
   have HCL2 := hide (fun (w2 : World) (a : Option Addr) (c : Nat) (hb2 : Below wr.heap.size wr w2) (hr2 : RRow w2 base (.slice a (rs.filter (ze6 S s)).length c) (rs.filter (ze6 S s))) => climb_any w2 w.heap.size base a c (rs.filter (ze6 S s)) limit TI K ((zaa HIN).m.block (hb2.block _ (zaa HIN).m.lt)) hr2 ((zaa HCL).filter _) (zaa HIN).ti (zaa HIN).len hl)
   clear hin hrow
   go_wp2_with fail
   refine (zaa HO).mono ?_
   rintro en w2 ⟨a2, c2, rfl, hb2, hr2⟩
   have HC2 := hide (zaa HCL2 w2 a2 c2 hb2 hr2)
   have HB2 := hide hb2
   clear hb2 hr2 HCL2
   go_wp2_with fail
   refine (zaa HC2).mono ?_
   rintro en w3 ⟨r, hpc, rfl, hk3, hK3⟩
   have HK3 := hide hk3
   have HPC := hide hpc
   have HH3 := hide hK3
   have hb3 : Below w.heap.size w w3 := by
    have hin := zaa HIN
    have hb2 := zaa HB2
    have h2 : Below w.heap.size w w2 := hin.k.trans (hb2.mono hin.k.size)
    exact ⟨hk3.os.trans h2.os, hk3.tape.trans h2.tape, hk3.output.trans h2.output, Nat.le_trans h2.size hk3.size, fun i hi => (hk3.block i (by have := h2.size; omega) (by simp; omega)).trans (h2.block i hi)⟩
   have HB3 := hide hb3
   clear hk3 hpc hK3 hb3
   cases hr : r with
   | none =>
    rw [hr] at HPC
    go_wp2_with fail
    go_ret2
    exact ⟨m, none, zaa HCT, (zaa HIN).rel _ (.fails hlk (zaa HPC)), zaa HB3, fun _ => rfl, fun K e => by cases e⟩
   | some K' =>
    obtain ⟨hm3, ht3, hl3⟩ := zaa HH3 K' hr
    rw [hr] at HPC
    have HM3 := hide hm3
    have HT3 := hide ht3
    clear hm3 ht3
    go_wp2_with fail
    go_roundg (m - (s + 1))
    case measure => omega
    case rel => exact ⟨s + 1, K', by omega, rfl, by go_num, zaa HM3, zaa HT3, hl3, zaa HB3, fun r h => (zaa HIN).rel r (.next hlk (zaa HPC) h)⟩
  ·go_wp2_with fail
   go_ret2
   have hin := zaa HIN
   exact ⟨m, some K, zaa HCT, hin.rel _ (.ends (by omega)), hin.k, (fun e => by cases e), fun K2 e => by cases e; exact ⟨_, rfl, Nat.le_refl _, hin.m, hin.len, hin.ti⟩⟩
end
end Go.Proofs.YtldkpahaocjdpaaGreat
