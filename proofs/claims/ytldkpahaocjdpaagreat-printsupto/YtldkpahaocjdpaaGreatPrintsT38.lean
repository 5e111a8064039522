/-
  The law's load: one Load of the program and one of the document's answer, side by side: always true; the list of programs grows by one where the text is taken.
  Plain: the strata of both are one: the numbers, and the lists.
  Plain: what is known of a text that is taken.
-/
import Derived.Test.YtldkpahaocjdpaaGreatPrintsT37
import Derived.Test.YtldkpahaocjdpaaGreatPrintsT25
import Derived.Test.YtldkpahaocjdpaaGreatPrintsT36
namespace Go.Proofs.YtldkpahaocjdpaaGreat
open Go.RowKit

theorem infoProg : (Tryz.prog.info? 112).map (fun i => (i.zero, i.size, i.bytes)) = some (some (.agg #[.pointer none, .pointer none, .string { data := #[] }]), 3, 32) := by kernel_rfl

/-- The law's world in its block: its programs; nothing in its book. -/
structure WIn (w : World) (b : Nat) (psv : Value) (n : Nat) : Prop where
  blk : w.heap[b]? = some (.cells #[psv, .slice none 0 0, .slice none 0 0, .slice none 0 0] 69 (0, 0))
  row : ∃ xs, w.ownsRow (b + 1) 112 3 psv n xs

theorem WIn.below {w w1 : World} {b n : Nat} {psv : Value} (h : WIn w b psv n) (hb : Below w.heap.size w w1) : WIn w1 b psv n := by
  obtain ⟨xs, hr⟩ := h.row
  exact ⟨(hb.block b (Array.getElem?_eq_some_iff.1 h.blk).1).trans h.blk, xs, own_below hr hb (fun g e => (hr.lt g e).2)⟩
theorem WIn.lt {w : World} {b n : Nat} {psv : Value} (h : WIn w b psv n) : b < w.heap.size := (Array.getElem?_eq_some_iff.1 h.blk).1

/-- One program more. -/
theorem WIn.add {w W w5 : World} {b n : Nat} {psv : Value} {xs : List Value} (hbk : w.heap[b]? = some (.cells #[psv, .slice none 0 0, .slice none 0 0, .slice none 0 0] 69 (0, 0))) (hrow : w.ownsRow (b + 1) 112 3 psv n xs) (hW : ∀ k, k < w.heap.size → W.heap[k]? = w.heap[k]?) (hS : w.heap.size ≤ W.heap.size) (hos : W.os = w.os) (htp : W.tape = w.tape) (hou : W.output = w.output) (hg : W.grownBy w5 psv.ownBlock) {v' : Value} {ys : List Value} (hown : w5.ownsRow (b + 1) 112 3 v' (n + 1) ys) :
    WIn (w5.setCell ⟨b, 0, none⟩ v') b v' (n + 1) ∧ Kept (b :: psv.ownBlock.toList) w (w5.setCell ⟨b, 0, none⟩ v') ∧ w5.heap[b]? = some (.cells #[psv, .slice none 0 0, .slice none 0 0, .slice none 0 0] 69 (0, 0)) := by
  have hlt := (Array.getElem?_eq_some_iff.1 hbk).1
  have hs5 := hg.size
  have hb5 : w5.heap[b]? = some (.cells #[psv, .slice none 0 0, .slice none 0 0, .slice none 0 0] 69 (0, 0)) := by
    rw [hg.block b (by omega) (fun e => by have := (hrow.lt b e.symm).1; omega), hW b hlt]
    exact hbk
  refine ⟨⟨?_, ys, ownsRow_setCell_below hown (by simp) _⟩, ⟨hg.os.trans hos, hg.tape.trans htp, hg.output.trans hou, by simp; omega, fun k hk hn => ?_⟩, hb5⟩
  · unfold World.setCell
    simp only [Array.getElem?_modify, if_true, hb5]
    rfl
  · simp at hn
    rw [Below.heap_setCell _ _ _ _ (by simp; omega), hg.block k (by omega) (fun e => hn.2 e.symm), hW k hk]

def LdPost (w : World) (b n : Nat) (psv : Value) (s : ByteArray) (e : Ending) (w' : World) : Prop := e = .returned (.bool true) ∧ ∃ psv', WIn w' b psv' (n + if (refLoad s).1 then 1 else 0) ∧ Kept (b :: psv.ownBlock.toList) w w'

set_option maxRecDepth 100000 in
set_option maxHeartbeats 8000000 in
theorem law_load (w : World) (b n : Nat) (psv : Value) (kd a bb : Int) (s t u : ByteArray) (at_ : Option Addr) (nt ct : Nat) (h : WIn w b psv n) (hs : s.size ≤ maxLen) (hn : (n + 1) * 32 ≤ 140737488355328) :
    Calls Tryz.prog 48 #[.pointer (some ⟨b, 0, none⟩), .agg #[.int .i64 kd, .int .i64 a, .int .i64 bb, .string s, .string t, .string u, .slice at_ nt ct]] w (LdPost w b n psv s) := by
  obtain ⟨i0, hi, hz0, hz1, hz2⟩ := info_parts infoProg
  have b0 := (Below.refl w.heap.size w).alloc (Nat.le_refl _) (.cells #[.int .i64 kd, .int .i64 a, .int .i64 bb, .string s, .string t, .string u, .slice at_ nt ct] 26)
  have hbx : (w.alloc (.cells #[.int .i64 kd, .int .i64 a, .int .i64 bb, .string s, .string t, .string u, .slice at_ nt ct] 26)).heap[w.heap.size]? = _ := heap_alloc_new w _
  have hP := pload_any (w.alloc (.cells #[.int .i64 kd, .int .i64 a, .int .i64 bb, .string s, .string t, .string u, .slice at_ nt ct] 26)) s hs
  rw [load_eq] at hP
  have hlt := h.lt
  go_enter Tryz.func48, Tryz.ntmps48
  go_wp2_with fail
  refine hP.mono ?_
  rintro e w1 ⟨hb1, hno, hyes⟩
  have hbx1 := (hb1.block w.heap.size (by simp)).trans hbx
  obtain ⟨x3, xf3⟩ := block_cells hbx1 3
  have hz1' := hb1.size
  rw [World.size_alloc] at hz1'
  have hB1 := b0.trans (hb1.mono (by simp))
  clear hP hbx hb1 b0
  cases hr : (refLoad s).1 with
  | false =>
    have he := hno hr
    subst he
    clear hno hyes
    go_wp2_with fail
    refine (refLoad_any s w1).mono ?_
    rintro e w2 ⟨y, rfl, hy, hb2⟩
    have hyn : y = none := by rw [hr] at hy; cases y with | none => rfl | some _ => cases hy
    subst hyn
    have HB := hide (hB1.trans (hb2.mono (by omega)))
    have HH := hide h
    clear hb2 hB1 x3 xf3 hy hbx1 h
    go_wp2_with fail
    go_ret
    have HR := hr
    refine ⟨rfl, psv, ?_, ?_⟩
    · rw [HR]; exact (unhide HH).below (unhide HB)
    · exact (Kept.refl _ _).of_below (unhide HB)
  | true =>
    obtain ⟨pb, rs, he, _, _⟩ := hyes hr
    subst he
    clear hno hyes
    go_wp2_with fail
    refine (refLoad_any s w1).mono ?_
    rintro e w2 ⟨y, rfl, hy, hb2⟩
    obtain ⟨ya, rfl⟩ : ∃ ya, y = some ya := by rw [hr] at hy; cases y with | none => cases hy | some z => exact ⟨z, rfl⟩
    have hbx2 := (hb2.block w.heap.size (by omega)).trans hbx1
    have hz2' := hb2.size
    have hB2 := hB1.trans (hb2.mono (by omega))
    have h2 := h.below hB2
    obtain ⟨xs, hrow⟩ := h2.row
    obtain ⟨ap, cp, rfl⟩ := own_slice hrow
    have hblk := h2.blk
    obtain ⟨y3, yf3⟩ := block_cells hbx2 3
    obtain ⟨p0, pf0⟩ := block_cells hblk 0
    have hblt := h2.lt
    have s1 : Hid (((w2.alloc (Obj.cells #[.pointer (some ⟨pb, 0, none⟩), .pointer (some ya), .string s] 112)).drew).ownsRow (b + 1) 112 3 (.slice ap n cp) n xs) := hrow.alloc _
    have s2 : Hid (∀ j u, ([Value.pointer (some ⟨pb, 0, none⟩), .pointer (some ya), .string s] : List Value)[j]? = some u → ((w2.alloc (Obj.cells #[.pointer (some ⟨pb, 0, none⟩), .pointer (some ya), .string s] 112)).drew).cell? ((⟨w2.heap.size, 0, none⟩ : Addr).add j) = some u) := World.news_of_block (heap_alloc_new w2 _)
    have s3 : Hid (∀ u ∈ ([Value.pointer (some ⟨pb, 0, none⟩), .pointer (some ya), .string s] : List Value), u.oneCell' = true) := by
      show ∀ u ∈ _, _
      intro u hu; simp at hu; rcases hu with rfl | rfl | rfl <;> rfl
    have s4 : Hid (n + 1 ≤ maxLen) := by show _ ≤ _; unfold maxLen; omega
    have s5 : Hid ((n + 1) * 32 ≤ 140737488355328) := hn
    have s6 : Hid (b + 1 ≤ ((w2.alloc (Obj.cells #[.pointer (some ⟨pb, 0, none⟩), .pointer (some ya), .string s] 112)).drew).heap.size) := by show _ ≤ _; simp; omega
    have s8 := hide (fun (w5 : World) (g cap : Nat) (hg : ((w2.alloc (Obj.cells #[.pointer (some ⟨pb, 0, none⟩), .pointer (some ya), .string s] 112)).drew).grownBy w5 (Value.slice ap n cp).ownBlock) (hown : w5.ownsRow (b + 1) 112 3 (.slice (some ⟨g, 0, none⟩) (n + 1) cap) (n + 1) (xs ++ [Value.pointer (some ⟨pb, 0, none⟩), .pointer (some ya), .string s])) => WIn.add (W := (w2.alloc (Obj.cells #[.pointer (some ⟨pb, 0, none⟩), .pointer (some ya), .string s] 112)).drew) hblk hrow (fun k hk => (((Kept.refl [] w2).alloc _).drew).block k hk (by simp)) (((Kept.refl [] w2).alloc _).drew).size rfl rfl rfl hg hown)
    have HB := hide hB2
    clear hb2 hB1 x3 xf3 hy hbx1 h hbx2 h2 hrow hblk hB2
    go_wp2_with fail
    go_region_law (refine step_append_lies _ rfl (.tmp 46) (.tmp 52) 62 rfl (b + 1) 112 i0 (.agg #[.pointer none, .pointer none, .string { data := #[] }]) 3 32 Tryz.underlying62 hi hz0 hz1 hz2 rfl (by decide) (Value.slice ap n cp) n xs (by simp [Act.eval]) (unhide s1) ⟨w2.heap.size, 0, none⟩ 1 1 [Value.pointer (some ⟨pb, 0, none⟩), .pointer (some ya), .string s] (by simp [Act.eval]) rfl (unhide s2) (unhide s3) (by decide) (unhide s4) (unhide s5) (unhide s6) _ rfl ?_; intro g cap w5 hown5 hg5 hat5 hlt5; obtain ⟨e1, e2, e3⟩ := unhide s8 w5 g cap hg5 hown5; obtain ⟨z0, zf0⟩ := block_cells e3 0)
    all_goals
      clear s1 s2 s3 s4 s5 s6 s8
      go_wp2_with fail
      go_ret
      refine ⟨rfl, _, by rw [hr]; exact e1, ?_⟩
      exact ((Kept.refl _ w).of_below (unhide HB)).step e2 (fun x hx => .inl hx)
end Go.Proofs.YtldkpahaocjdpaaGreat

namespace Go.Proofs.YtldkpahaocjdpaaGreat
open Go.RowKit Go.Maps

theorem validN_of {ps : List (ByteArray × Nat)} {rs : List RRule} {f : Nat → Nat} (h : Valid ps rs f) : ValidN (rs.map pruleOf) (fun k => f (ixOf ps k)) := by
  intro R hR l hl
  obtain ⟨Q, hQ, rfl⟩ := List.mem_map.1 hR
  obtain ⟨A, hA, rfl⟩ := List.mem_map.1 hl
  exact h Q hQ A hA

theorem valid_of {ps : List (ByteArray × Nat)} {rs : List RRule} {g : ByteArray → Nat} (h : ValidN (rs.map pruleOf) g) (hall : AllIn ps (rs.flatMap RRule.atoms)) : Valid ps rs (fun i => g (nmOf ps i)) := by
  intro R hR A hA
  have h1 := h (pruleOf R) (List.mem_map_of_mem hR) (litOf A) (List.mem_map_of_mem hA)
  have a1 : 0 ≤ predIx ps R.head.pred := hall _ (List.mem_flatMap.2 ⟨R, hR, List.mem_cons_self⟩)
  have a2 : 0 ≤ predIx ps A.pred := hall _ (List.mem_flatMap.2 ⟨R, hR, List.mem_cons_of_mem _ hA⟩)
  unfold Keeps
  simp only [nm_ix a1, nm_ix a2]
  exact h1

/-- The numbers by names and those by places are one. -/
theorem strata_eq {ps : List (ByteArray × Nat)} {rs : List RRule} {Sn : ByteArray → Nat} {Si : Nat → Nat} (hall : AllIn ps (rs.flatMap RRule.atoms)) (hv : Valid ps rs Si) (hl : Low ps rs Si) (hvn : ValidN (rs.map pruleOf) Sn) (hln : LowN (rs.map pruleOf) Sn) (k : ByteArray) (hk : 0 ≤ predIx ps k) : Sn k = Si (ixOf ps k) := by
  refine Nat.le_antisymm (hln _ (validN_of hv) k) ?_
  have := hl _ (valid_of hvn hall) (ixOf ps k)
  simp only [nm_ix hk] at this
  exact this

/-- The names are there once each. -/
def Once (ps : List (ByteArray × Nat)) : Prop := (ps.map (·.1)).Nodup

theorem ix_out {nm : ByteArray} : ∀ {l : List (ByteArray × Nat)} {k : Nat}, ixFrom nm l k < 0 → ∀ p ∈ l, p.1 ≠ nm
  | [], _, _, p, hp => by cases hp
  | x :: r, k, h, p, hp => by
    rw [ixFrom] at h
    split at h
    · omega
    · rename_i hx
      rcases List.mem_cons.1 hp with rfl | hp
      · exact fun e => hx (bytes_eq.2 e)
      · exact ix_out h p hp

theorem once_meet {ps : List (ByteArray × Nat)} (h : Once ps) (nm : ByteArray) (n : Nat) : Once (meetP ps nm n) := by
  unfold meetP
  split
  · rename_i hx
    unfold Once
    rw [List.map_append, List.nodup_append]
    refine ⟨h, by simp, fun a ha b hb e => ?_⟩
    obtain ⟨p, hp, rfl⟩ := List.mem_map.1 ha
    simp at hb
    exact ix_out hx p hp (e.trans hb)
  · exact h
theorem once_meetL : ∀ (l ps : List (ByteArray × Nat)), Once ps → Once (meetL l ps)
  | [], _, h => h
  | x :: r, _, h => once_meetL r _ (once_meet h x.1 x.2)

theorem once_num : ∀ {ps : List (ByteArray × Nat)}, Once ps → ∀ p ∈ ps, numOf ps p.1 = some p.2
  | [], _, p, hp => by cases hp
  | x :: r, h, p, hp => by
    have hn := List.nodup_cons.1 h
    rw [numOf]
    rcases List.mem_cons.1 hp with rfl | hp
    · rw [if_pos (bytes_eq.2 rfl)]
    · have : ¬ (x.1.toList == p.1.toList) = true := fun e => hn.1 (List.mem_map.2 ⟨p, hp, (bytes_eq.1 e).symm⟩)
      rw [if_neg this]
      exact once_num hn.2 p hp

theorem once_ix : ∀ {ps : List (ByteArray × Nat)}, Once ps → ∀ (i k : Nat) (hi : i < ps.length), ixFrom ps[i].1 ps k = (k + i : Nat)
  | [], _, i, _, hi => by simp at hi
  | x :: r, h, i, k, hi => by
    have hn := List.nodup_cons.1 h
    rw [ixFrom]
    cases i with
    | zero => rw [if_pos (by rw [List.getElem_cons_zero]; exact bytes_eq.2 rfl)]; simp
    | succ i =>
      have hi' : i < r.length := by simpa using hi
      have : ¬ (x.1.toList == ((x :: r)[i + 1]).1.toList) = true := fun e => hn.1 (List.mem_map.2 ⟨r[i], List.getElem_mem hi', by
        have := bytes_eq.1 e
        rw [List.getElem_cons_succ] at this
        exact this.symm⟩)
      rw [if_neg this, List.getElem_cons_succ, once_ix hn.2 i (k + 1) hi']
      omega

theorem num_mem {ps : List (ByteArray × Nat)} {k : ByteArray} (h : Once ps) : (numOf ps k).isSome = true ↔ k ∈ ps.map (·.1) := by
  constructor
  · intro hk
    obtain ⟨n, hn⟩ := Option.isSome_iff_exists.1 hk
    obtain ⟨p, hp, e⟩ := numOf_mem hn
    exact List.mem_map.2 ⟨p, hp, e⟩
  · intro hk
    obtain ⟨p, hp, rfl⟩ := List.mem_map.1 hk
    rw [once_num h p hp]; rfl

theorem tri_len (ps : List (ByteArray × Nat)) (S : Nat → Nat) : ∀ k, (tri ps S k).length = k
  | 0 => rfl
  | k + 1 => by rw [tri, List.length_append, tri_len]; rfl
theorem tri_get (ps : List (ByteArray × Nat)) (S : Nat → Nat) : ∀ (k i : Nat), i < k → (tri ps S k)[i]? = some ((ps[i]?.getD default).1, S i, (ps[i]?.getD default).2)
  | 0, i, h => by omega
  | k + 1, i, h => by
    rw [tri]
    by_cases e : i < k
    · rw [List.getElem?_append_left (by rw [tri_len]; exact e), tri_get ps S k i e]
    · have : i = k := by omega
      subst this
      rw [List.getElem?_append_right (by rw [tri_len]; exact Nat.le_refl _), tri_len]; simp
theorem tri_names (ps : List (ByteArray × Nat)) (S : Nat → Nat) : (tri ps S ps.length).map (·.1) = ps.map (·.1) := by
  apply List.ext_getElem?
  intro i
  rw [List.getElem?_map, List.getElem?_map]
  by_cases hi : i < ps.length
  · rw [tri_get ps S _ i hi, List.getElem?_eq_getElem hi]; rfl
  · rw [List.getElem?_eq_none (by rw [tri_len]; omega), List.getElem?_eq_none (by omega)]; rfl
theorem tri_mem {ps : List (ByteArray × Nat)} {S : Nat → Nat} {z : Stm} (h : z ∈ tri ps S ps.length) : ∃ (i : Nat) (hi : i < ps.length), z = (ps[i].1, S i, ps[i].2) := by
  obtain ⟨i, hi, e⟩ := List.mem_iff_getElem.1 h
  rw [tri_len] at hi
  have h1 := tri_get ps S _ i hi
  rw [List.getElem?_eq_getElem (by rw [tri_len]; exact hi), e, List.getElem?_eq_getElem hi] at h1
  exact ⟨i, hi, Option.some.inj h1⟩

/-- Two rising lists with the same members are one. -/
theorem rising_unique : ∀ (xs ys : List ByteArray), xs.Pairwise (fun x y => lessB x y = true) → ys.Pairwise (fun x y => lessB x y = true) → (∀ k, k ∈ xs ↔ k ∈ ys) → xs = ys
  | [], [], _, _, _ => rfl
  | [], y :: r, _, _, h => by have := (h y).2 List.mem_cons_self; cases this
  | x :: r, [], _, _, h => by have := (h x).1 List.mem_cons_self; cases this
  | x :: r, y :: q, hx, hy, h => by
    obtain ⟨hx1, hx2⟩ := List.pairwise_cons.1 hx
    obtain ⟨hy1, hy2⟩ := List.pairwise_cons.1 hy
    have e : x = y := by
      rcases List.mem_cons.1 ((h x).1 List.mem_cons_self) with e | e
      · exact e
      · rcases List.mem_cons.1 ((h y).2 List.mem_cons_self) with e2 | e2
        · exact e2.symm
        · have := lessB_trans (hy1 x e) (hx1 y e2)
          rw [lessB_irrefl] at this; cases this
    subst e
    rw [rising_unique r q hx2 hy2 fun k => ?_]
    constructor
    · intro hk
      rcases List.mem_cons.1 ((h k).1 (List.mem_cons_of_mem _ hk)) with e | e
      · subst e; have := hx1 k hk; rw [lessB_irrefl] at this; cases this
      · exact e
    · intro hk
      rcases List.mem_cons.1 ((h k).2 (List.mem_cons_of_mem _ hk)) with e | e
      · subst e; have := hy1 k hk; rw [lessB_irrefl] at this; cases this
      · exact e

/-- The two lists of strata hold the same cells. -/
theorem strata_rows {ps : List (ByteArray × Nat)} {rs : List RRule} {Sn : ByteArray → Nat} {Si : Nat → Nat} (ho : Once ps) (hall : AllIn ps (rs.flatMap RRule.atoms)) (hv : Valid ps rs Si) (hl : Low ps rs Si) (hvn : ValidN (rs.map pruleOf) Sn) (hln : LowN (rs.map pruleOf) Sn)
    {ys : List ByteArray} (hy : ys.Pairwise (fun x y => lessB x y = true)) (hm : ∀ k, k ∈ ys ↔ (numOf ps k).isSome = true) {zs : List Stm} (hr : Rising zs) (hp : zs.Perm (tri ps Si ps.length)) : zs.flatMap enc3 = ys.flatMap (stE ps Sn) ∧ zs.length = ys.length := by
  have hnm : (zs.map (·.1)).Perm (ps.map (·.1)) := by rw [← tri_names ps Si]; exact hp.map _
  have hnd : (zs.map (·.1)).Nodup := hnm.nodup_iff.2 ho
  have hst : (zs.map (·.1)).Pairwise (fun x y => lessB x y = true) := by
    have h1 : (zs.map (·.1)).Pairwise (fun x y => lessB y x = false) := List.pairwise_map.2 hr
    refine (h1.and hnd).imp fun {x y} hxy => ?_
    cases h3 : lessB x y with
    | true => rfl
    | false => exact absurd (lessB_tri h3 hxy.1) hxy.2
  have e : zs.map (·.1) = ys := rising_unique _ _ hst hy fun k => by rw [hm, num_mem ho]; exact hnm.mem_iff
  have hz : ∀ z ∈ zs, enc3 z = stE ps Sn z.1 := by
    intro z hz
    obtain ⟨i, hi, rfl⟩ := tri_mem (hp.mem_iff.1 hz)
    have hix := once_ix ho i 0 hi
    have h0 : 0 ≤ predIx ps ps[i].1 := by show 0 ≤ ixFrom _ _ 0; rw [hix]; omega
    have h1 : ixOf ps ps[i].1 = i := by unfold ixOf; rw [show predIx ps ps[i].1 = ((0 + i : Nat) : Int) from hix]; omega
    have h2 := strata_eq hall hv hl hvn hln ps[i].1 h0
    rw [h1] at h2
    simp only [enc3, stE, h2, once_num ho ps[i] (List.getElem_mem hi), Option.getD_some]
  refine ⟨?_, by rw [← e]; simp⟩
  rw [← e, List.flatMap_map]
  have : ∀ l : List Stm, (∀ z ∈ l, enc3 z = stE ps Sn z.1) → l.flatMap enc3 = l.flatMap (fun z => stE ps Sn z.1) := by
    intro l
    induction l with
    | nil => intro _; rfl
    | cons a r ih => intro h; rw [List.flatMap_cons, List.flatMap_cons, h a List.mem_cons_self, ih fun z hz => h z (List.mem_cons_of_mem _ hz)]
  exact this zs hz
end Go.Proofs.YtldkpahaocjdpaaGreat

namespace Go.Proofs.YtldkpahaocjdpaaGreat
open Go.RowKit Go.Maps

theorem meetAll_ok : ∀ (l : List RAtom) (ps : List (ByteArray × Nat)), (meetAll l ps).1 < 0 → AgreeL (l.map fun A => (A.pred, A.terms.length)) ps ∧ (meetAll l ps).2 = meetL (l.map fun A => (A.pred, A.terms.length)) ps
  | [], _, _ => ⟨trivial, rfl⟩
  | A :: r, ps, h => by
    rw [meetAll] at h ⊢
    split at h
    · rename_i hb
      rw [if_pos hb]
      obtain ⟨h1, h2⟩ := meetAll_ok r _ h
      exact ⟨⟨hb, h1⟩, h2⟩
    · exfalso; simp only at h; omega

theorem patoms_of (R : RRule) : patoms (pruleOf R) = R.atoms.map fun A => (A.pred, A.terms.length) := by
  simp [patoms, pruleOf, RRule.atoms, litOf]
theorem patoms_all (rs : List RRule) : (rs.map pruleOf).flatMap patoms = (rs.flatMap RRule.atoms).map fun A => (A.pred, A.terms.length) := by
  induction rs with
  | nil => rfl
  | cons R r ih => rw [List.map_cons, List.flatMap_cons, List.flatMap_cons, List.map_append, ih, patoms_of]

theorem meetP_len (ps : List (ByteArray × Nat)) (nm : ByteArray) (n : Nat) : (meetP ps nm n).length ≤ ps.length + 1 := by
  unfold meetP; split <;> simp
theorem meetL_len : ∀ (l ps : List (ByteArray × Nat)), (meetL l ps).length ≤ ps.length + l.length
  | [], _ => Nat.le_refl _
  | x :: r, ps => by
    have h1 := meetL_len r (meetP ps x.1 x.2)
    have h2 := meetP_len ps x.1 x.2
    rw [meetL, List.length_cons]; omega

theorem prules_len (s : ByteArray) (f : Nat) : ∀ {p : Nat} {rs : List PRule} {ms : List PMen}, rs.length ≤ 30 → (prulesS s f p rs ms).2.2.1.length ≤ 30 := by
  induction f with
  | zero => intro p rs ms h; exact h
  | succ f ih =>
    intro p rs ms h
    rw [prulesS]
    split
    · exact h
    · split
      · exact h
      · split
        · refine ih ?_
          rw [List.length_append, List.length_singleton]; omega
        · exact h

theorem flat_len {α β : Type} (f : α → List β) (c : Nat) : ∀ (l : List α), (∀ x ∈ l, (f x).length ≤ c) → (l.flatMap f).length ≤ c * l.length
  | [], _ => Nat.zero_le _
  | x :: r, h => by
    have h1 := h x List.mem_cons_self
    have h2 := flat_len f c r fun y hy => h y (List.mem_cons_of_mem _ hy)
    rw [List.flatMap_cons, List.length_append, List.length_cons, Nat.mul_add, Nat.mul_one]; omega

/-- A text that is taken: its rules, its predicates. -/
structure Good (s : ByteArray) (rs : List PRule) (ps : List (ByteArray × Nat)) : Prop where
  rules : rs = (parsed s).1.map pruleOf
  preds : ps = (predsOf s).2
  len : rs.length ≤ 30
  body : ∀ R ∈ rs, R.body.length ≤ 3
  pd : ∀ R ∈ rs, R.pd.size ≤ 800
  lpd : ∀ R ∈ rs, ∀ l ∈ R.body, l.pd.size ≤ 800
  agree : AgreeL (rs.flatMap patoms) []
  met : meetL (rs.flatMap patoms) [] = ps
  few : ps.length ≤ 120
  all : AllIn ps ((parsed s).1.flatMap RRule.atoms)
  once : Once ps
  some_ : ∃ f, ValidN rs f ∧ ∀ k, f k ≤ 1000

theorem good_of {s : ByteArray} (h : (refLoad s).1 = true) : Good s (pparsed s).2.2.1 (predsOf s).2 := by
  unfold refLoad at h
  by_cases c0 : 800 < s.size
  · rw [if_pos c0] at h; cases h
  rw [if_neg c0] at h
  by_cases c1 : 0 ≤ (parsed s).2.2
  · rw [if_pos c1] at h; cases h
  rw [if_neg c1] at h
  by_cases c2 : 0 ≤ (predsOf s).1
  · rw [if_pos c2] at h; cases h
  rw [if_neg c2] at h
  by_cases c3 : 0 ≤ unsafeI (parsed s).1
  · rw [if_pos c3] at h; cases h
  rw [if_neg c3] at h
  by_cases c4 : 0 ≤ cycleI (predsOf s).2 (hangsM (predsOf s).2 (parsed s).1) (parsed s).1
  · rw [if_pos c4] at h; cases h
  obtain ⟨e1, e2⟩ := parsed_eq s
  have hp : (pparsed s).1 = true := by
    cases hq : (pparsed s).1 with
    | true => rfl
    | false => exfalso; have := e2 hq; omega
  obtain ⟨_, er, _⟩ := e1 hp
  obtain ⟨o1, _⟩ := pparsed_ok s (by omega) hp
  have hlen : (pparsed s).2.2.1.length ≤ 30 := prules_len s 31 (by simp)
  have hall : AllIn (predsOf s).2 ((parsed s).1.flatMap RRule.atoms) := allIn_of_meet _ c2
  obtain ⟨m1, m2⟩ := meetAll_ok ((parsed s).1.flatMap RRule.atoms) [] (by unfold predsOf at c2; omega)
  have hpa : (pparsed s).2.2.1.flatMap patoms = ((parsed s).1.flatMap RRule.atoms).map fun A => (A.pred, A.terms.length) := by rw [er, patoms_all]
  have hmet : meetL ((pparsed s).2.2.1.flatMap patoms) [] = (predsOf s).2 := by rw [hpa]; exact m2.symm
  have hfl := flat_len patoms 4 (pparsed s).2.2.1 (fun R hR => by have := (o1 R hR).2.1; simp [patoms]; omega)
  have hml := meetL_len ((pparsed s).2.2.1.flatMap patoms) []
  rw [hmet] at hml
  have hfew : (predsOf s).2.length ≤ 120 := by rw [List.length_nil] at hml; omega
  obtain ⟨f, hf, hfb⟩ := valid_of_cycle _ _ hall c4
  exact ⟨er, rfl, hlen, fun R hR => (o1 R hR).2.1, fun R hR => (o1 R hR).1, fun R hR => (o1 R hR).2.2, by rw [hpa]; exact m1, hmet, hfew, hall, by rw [← hmet]; exact once_meetL _ [] List.nodup_nil, ⟨fun k => f (ixOf (predsOf s).2 k), by rw [er]; exact validN_of hf, fun k => Nat.le_trans (hfb (ixOf (predsOf s).2 k)) (by omega)⟩⟩

theorem Good.named {s : ByteArray} {rs : List PRule} {ps : List (ByteArray × Nat)} (h : Good s rs ps) : ∀ R ∈ rs, (∃ n, numOf ps R.pd = some n) ∧ ∀ l ∈ R.body, ∃ n, numOf ps l.pd = some n := by
  intro R hR
  rw [h.rules] at hR
  obtain ⟨Q, hQ, rfl⟩ := List.mem_map.1 hR
  refine ⟨⟨_, (num_ix _ ps 0).2 (h.all _ (List.mem_flatMap.2 ⟨Q, hQ, List.mem_cons_self⟩))⟩, fun l hl => ?_⟩
  obtain ⟨A, hA, rfl⟩ := List.mem_map.1 hl
  exact ⟨_, (num_ix _ ps 0).2 (h.all _ (List.mem_flatMap.2 ⟨Q, hQ, List.mem_cons_of_mem _ hA⟩))⟩
end Go.Proofs.YtldkpahaocjdpaaGreat
