/-
  Plain: what hangs on what, by the links; a search's stack and what it has met.
  The program's Hangs: whether there is a way of links from p to q.
-/
import Derived.Test.YtldkpahaocjdpaaGreatLoadsT42
namespace Go.Proofs.YtldkpahaocjdpaaGreat
open Go.RowKit Go.Maps

/-- There is a way of one link or more. -/
inductive Reach (E : List Edge) : ByteArray → ByteArray → Prop where
  | one {a b : ByteArray} (h : (a, b) ∈ E) : Reach E a b
  | next {a b c : ByteArray} (t : Reach E a b) (h : (b, c) ∈ E) : Reach E a c

open Classical in
noncomputable def hangsP (E : List Edge) (p q : ByteArray) : Bool := decide (Reach E p q)

theorem mem_tgt {E : List Edge} {p x : ByteArray} : x ∈ tgt E p ↔ (p, x) ∈ E := by
  unfold tgt
  constructor
  · intro h
    obtain ⟨e, he, rfl⟩ := List.mem_map.1 h
    obtain ⟨h1, h2⟩ := List.mem_filter.1 he
    have : e.1 = p := bytes_eq.1 h2
    rw [← this]
    exact h1
  · intro h
    exact List.mem_map.2 ⟨(p, x), List.mem_filter.2 ⟨h, by simp⟩, rfl⟩

def isMet (met : List ByteArray) (x : ByteArray) : Bool := met.any fun m => m.toList == x.toList
theorem isMet_iff {met : List ByteArray} {x : ByteArray} : isMet met x = true ↔ x ∈ met := by
  unfold isMet
  rw [List.any_eq_true]
  constructor
  · rintro ⟨m, hm, h⟩
    rw [← bytes_eq.1 h]; exact hm
  · intro h; exact ⟨x, h, by simp⟩

def metV (met : List ByteArray) : ByteArray → Option Value := fun k => if isMet met k then some (.agg #[]) else none

theorem metV_put (met : List ByteArray) (x : ByteArray) : updV (metV met) x (.agg #[]) = metV (met ++ [x]) := by
  funext k
  by_cases e : k = x
  · subst e
    rw [updV_same]
    unfold metV
    rw [if_pos (isMet_iff.2 (by simp))]
  · rw [updV_other e]
    unfold metV
    by_cases h : isMet met k = true
    · rw [if_pos h, if_pos (isMet_iff.2 (by have := isMet_iff.1 h; simp [this]))]
    · rw [if_neg h, if_neg (fun h2 => by
        have := isMet_iff.1 h2
        simp at this
        rcases this with h3 | h3
        · exact h (isMet_iff.2 h3)
        · exact e h3)]

/-- The links to what is not met yet. -/
def cnt (E : List Edge) (met : List ByteArray) : Nat := (E.filter fun e => !isMet met e.2).length

theorem cnt_mono (met : List ByteArray) (x : ByteArray) : ∀ (l : List Edge), (l.filter fun e => !isMet (met ++ [x]) e.2).length ≤ (l.filter fun e => !isMet met e.2).length
  | [] => Nat.le_refl _
  | e :: r => by
    have ih := cnt_mono met x r
    have mono : isMet met e.2 = true → isMet (met ++ [x]) e.2 = true := fun h => isMet_iff.2 (by have := isMet_iff.1 h; simp [this])
    simp only [List.filter_cons]
    cases h2 : isMet met e.2 with
    | true => rw [mono h2]; simpa using ih
    | false =>
      cases h3 : isMet (met ++ [x]) e.2 with
      | true => simp; omega
      | false => simp; omega
theorem cnt_less {met : List ByteArray} {x y : ByteArray} (hn : isMet met x = false) : ∀ (l : List Edge), (y, x) ∈ l → (l.filter fun e => !isMet (met ++ [x]) e.2).length + 1 ≤ (l.filter fun e => !isMet met e.2).length
  | [], h => by cases h
  | e :: r, h => by
    have mono : isMet met e.2 = true → isMet (met ++ [x]) e.2 = true := fun h => isMet_iff.2 (by have := isMet_iff.1 h; simp [this])
    have h1 : isMet (met ++ [x]) x = true := isMet_iff.2 (by simp)
    simp only [List.filter_cons]
    rcases List.mem_cons.1 h with he | hr
    · have := cnt_mono met x r
      subst he
      simp only [h1, hn, Bool.not_true, Bool.not_false, Bool.false_eq_true, if_false, if_true, List.length_cons]
      omega
    · have ih := cnt_less hn r hr
      cases h2 : isMet met e.2 with
      | true => rw [mono h2]; simpa using ih
      | false =>
        cases h3 : isMet (met ++ [x]) e.2 with
        | true => simp; omega
        | false => simp; omega
theorem cnt_put {E : List Edge} {met : List ByteArray} {x y : ByteArray} (h : (y, x) ∈ E) (hn : isMet met x = false) : cnt E (met ++ [x]) + 1 ≤ cnt E met := cnt_less hn E h

/-- What a search from p to q knows: its stack, what it has met; 'now' is what is being looked at. -/
structure Sch (E : List Edge) (p q : ByteArray) (st met : List ByteArray) (now : Option ByteArray) : Prop where
  onStack : ∀ x ∈ st, x = p ∨ Reach E p x
  onMet : ∀ x ∈ met, Reach E p x
  done : ∀ y, (y = p ∨ y ∈ met) → y ∈ st ∨ now = some y ∨ ∀ z ∈ tgt E y, z ≠ q ∧ z ∈ met

theorem Sch.start (E : List Edge) (p q : ByteArray) : Sch E p q [p] [] none :=
  ⟨fun x hx => .inl (by simpa using hx), fun x hx => (by cases hx), fun y hy => .inl (by rcases hy with rfl | h; simp; cases h)⟩

theorem Sch.pop {E : List Edge} {p q x : ByteArray} {st met : List ByteArray} (h : Sch E p q (st ++ [x]) met none) : Sch E p q st met (some x) ∧ (x = p ∨ Reach E p x) := by
  refine ⟨⟨fun y hy => h.onStack y (by simp [hy]), h.onMet, fun y hy => ?_⟩, h.onStack x (by simp)⟩
  rcases h.done y hy with h1 | h1 | h1
  · simp at h1
    rcases h1 with h1 | h1
    · exact .inl h1
    · exact .inr (.inl (by rw [h1]))
  · cases h1
  · exact .inr (.inr h1)

theorem reach_next {E : List Edge} {p x z : ByteArray} (h : x = p ∨ Reach E p x) (hz : z ∈ tgt E x) : Reach E p z := by
  rcases h with rfl | h
  · exact .one (mem_tgt.1 hz)
  · exact .next h (mem_tgt.1 hz)

theorem Sch.push {E : List Edge} {p q x z : ByteArray} {st met : List ByteArray} (h : Sch E p q st met (some x)) (hx : x = p ∨ Reach E p x) (hz : z ∈ tgt E x) : Sch E p q (st ++ [z]) (met ++ [z]) (some x) := by
  have hr := reach_next hx hz
  refine ⟨fun y hy => ?_, fun y hy => ?_, fun y hy => ?_⟩
  · rcases List.mem_append.1 hy with hy | hy
    · exact h.onStack y hy
    · simp at hy; subst hy; exact .inr hr
  · rcases List.mem_append.1 hy with hy | hy
    · exact h.onMet y hy
    · simp at hy; subst hy; exact hr
  · have hy' : (y = p ∨ y ∈ met) ∨ y = z := by
      rcases hy with hy | hy
      · exact .inl (.inl hy)
      · rcases List.mem_append.1 hy with hy | hy
        · exact .inl (.inr hy)
        · exact .inr (by simpa using hy)
    rcases hy' with hy | rfl
    · rcases h.done y hy with h1 | h1 | h1
      · exact .inl (by simp [h1])
      · exact .inr (.inl h1)
      · exact .inr (.inr fun u hu => ⟨(h1 u hu).1, by simp [(h1 u hu).2]⟩)
    · exact .inl (by simp)

theorem Sch.drop {E : List Edge} {p q x : ByteArray} {st met : List ByteArray} (h : Sch E p q st met (some x)) (hd : ∀ z ∈ tgt E x, z ≠ q ∧ z ∈ met) : Sch E p q st met none := by
  refine ⟨h.onStack, h.onMet, fun y hy => ?_⟩
  rcases h.done y hy with h1 | h1 | h1
  · exact .inl h1
  · injection h1 with h1; subst h1; exact .inr (.inr hd)
  · exact .inr (.inr h1)

theorem Sch.ends {E : List Edge} {p q : ByteArray} {met : List ByteArray} (h : Sch E p q [] met none) : hangsP E p q = false := by
  have key : ∀ x, Reach E p x → x ≠ q ∧ x ∈ met := by
    intro x hx
    have step : ∀ y, (y = p ∨ y ∈ met) → ∀ z, (y, z) ∈ E → z ≠ q ∧ z ∈ met := fun y hy z hz => by
      rcases h.done y hy with h1 | h1 | h1
      · cases h1
      · cases h1
      · exact h1 z (mem_tgt.2 hz)
    induction hx with
    | one h1 => exact step p (.inl rfl) _ h1
    | next t h1 ih => exact step _ (.inr (ih).2) _ h1
  unfold hangsP
  simp only [decide_eq_false_iff_not]
  exact fun hr => (key q hr).1 rfl

theorem hangs_yes {E : List Edge} {p q x : ByteArray} (h : x = p ∨ Reach E p x) (hq : q ∈ tgt E x) : hangsP E p q = true := by
  unfold hangsP
  simp only [decide_eq_true_eq]
  exact reach_next h hq

/-- The stack without its last. -/
theorem own_pop {w : World} {base g cap : Nat} {l : List ByteArray} {x : ByteArray} (h : w.ownsRow base 9 1 (.slice (some ⟨g, 0, none⟩) (l ++ [x]).length cap) (l ++ [x]).length (strs (l ++ [x]))) : w.ownsRow base 9 1 (.slice (some ⟨g, 0, none⟩) l.length cap) l.length (strs l) := by
  rcases h.2 with ⟨hv, _⟩ | ⟨g', cap', cur, hv, hb, hgg, hn, hc, hs, ht⟩
  · cases hv
  · injection hv with h1 h2 h3
    injection h1 with h1
    injection h1 with h1
    subst h1 h3
    refine ⟨by simp [strs], .inr ⟨g, cap, cur, rfl, hb, hgg, by simp at hn; omega, hc, hs, ?_⟩⟩
    have h4 := congrArg (List.take l.length) ht
    rw [List.take_take] at h4
    simp [strs] at h4 ⊢
    exact h4

/-- The cell of the last. -/
theorem own_last {w : World} {base : Nat} {v : Value} {l : List ByteArray} {x : ByteArray} (h : w.ownsRow base 9 1 v (l ++ [x]).length (strs (l ++ [x]))) : ∃ g cap, v = .slice (some ⟨g, 0, none⟩) (l ++ [x]).length cap ∧ base ≤ g ∧ g < w.heap.size ∧ (l ++ [x]).length ≤ cap ∧ cap ≤ maxLen ∧ w.cell? ⟨g, l.length, none⟩ = some (.string x) := by
  rcases h.2 with ⟨_, h0⟩ | ⟨g, cap, cur, rfl, hb, hgg, hn, hc, hs, ht⟩
  · simp at h0
  · refine ⟨g, cap, rfl, hb, (Array.getElem?_eq_some_iff.1 hgg).1, hn, hc, ?_⟩
    rw [h.cellAt l.length (by simp)]
    simp [strs]

theorem own_str {w : World} {base : Nat} {v : Value} {l : List ByteArray} (h : w.ownsRow base 9 1 v l.length (strs l)) (k : Nat) (hk : k < l.length) : ∃ g cap, v = .slice (some ⟨g, 0, none⟩) l.length cap ∧ base ≤ g ∧ g < w.heap.size ∧ l.length ≤ cap ∧ cap ≤ maxLen ∧ w.cell? ⟨g, k, none⟩ = some (.string l[k]) := by
  rcases h.2 with ⟨_, h0⟩ | ⟨g, cap, cur, rfl, hb, hgg, hn, hc, hs, ht⟩
  · omega
  · refine ⟨g, cap, rfl, hb, (Array.getElem?_eq_some_iff.1 hgg).1, hn, hc, ?_⟩
    rw [h.cellAt k (by omega)]
    simp [strs, hk]
end Go.Proofs.YtldkpahaocjdpaaGreat

namespace Go.Proofs.YtldkpahaocjdpaaGreat
open Go.RowKit Go.Maps

/-- The stack and the map of what is met, both in new memory. -/
structure HgInv (w : World) (st met : List ByteArray) (v : Value) (wr : World) : Prop where
  row : wr.ownsRow (w.heap.size + 1) 9 1 v st.length (strs st)
  map : SMap Tryz.prog 9 wr w.heap.size met.length (metV met)
  below : Below w.heap.size w wr
  sz : w.heap.size < wr.heap.size

theorem HgInv.alloc {w : World} {st met : List ByteArray} {v : Value} {wr : World} (h : HgInv w st met v wr) (o : Obj) : HgInv w st met v (wr.alloc o) :=
  have hs := h.sz
  ⟨h.row.alloc o, h.map.alloc o, h.below.alloc (by omega) _, by simp; omega⟩

theorem HgInv.put {w : World} {st met : List ByteArray} {v : Value} {wr w1 : World} (h : HgInv w st met v wr) {x : ByteArray} (hm : SMap Tryz.prog 9 w1 w.heap.size (met.length + 1) (updV (metV met) x (.agg #[]))) (hg : wr.grownBy w1 (some w.heap.size)) : HgInv w st (met ++ [x]) v w1 := by
  have hs := h.sz
  have hz := hg.size
  refine ⟨own_block h.row (fun g e => hg.block g ((h.row.lt g e).2) (by have := (h.row.lt g e).1; simp; omega)), ?_, ?_, by omega⟩
  · rw [metV_put] at hm; simpa using hm
  · exact h.below.trans ⟨hg.os, hg.tape, hg.output, hg.size, fun i hi => hg.block i (by omega) (by simp; omega)⟩

theorem HgInv.push {w : World} {st met : List ByteArray} {v v' : Value} {wr w1 : World} (h : HgInv w st met v wr) {x : ByteArray} (hown : w1.ownsRow (w.heap.size + 1) 9 1 v' (st.length + 1) (strs st ++ [.string x])) (hg : wr.grownBy w1 v.ownBlock) : HgInv w (st ++ [x]) met v' w1 := by
  have hs := h.sz
  have hz := hg.size
  have hr : ∀ g, v.ownBlock = some g → w.heap.size + 1 ≤ g := fun g e => (h.row.lt g e).1
  refine ⟨by simpa [strs] using hown, h.map.block (hg.block _ hs (fun e => by have := hr _ e.symm; omega)), ?_, by omega⟩
  exact h.below.trans ⟨hg.os, hg.tape, hg.output, hg.size, fun i hi => hg.block i (by omega) (fun e => by have := hr _ e.symm; omega)⟩

theorem hg_start (w : World) (p : ByteArray) : HgInv w [p] [] (.slice (some ⟨w.heap.size + 1, 0, none⟩) 1 1) ((w.alloc (.map #[] 0)).alloc (.cells #[.string p] 9)) := by
  refine ⟨⟨by simp [strs], .inr ⟨w.heap.size + 1, 1, #[.string p], rfl, Nat.le_refl _, ?_, Nat.le_refl _, by unfold maxLen; omega, by simp, by simp [strs]⟩⟩, ?_, ((Below.refl _ _).alloc (Nat.le_refl _) _).alloc (by simp) _, by simp; omega⟩
  · have := heap_alloc_new (w.alloc (.map #[] 0)) (.cells #[.string p] 9)
    rw [World.size_alloc] at this
    exact this
  · exact (SMap.made Tryz.prog 9 w).alloc _

theorem str_cell1 (w1 : World) (x : ByteArray) (j : Nat) (u : Value) (h : ([Value.string x] : List Value)[j]? = some u) : (w1.alloc (Obj.cells #[Value.string x] 9)).cell? ((⟨w1.heap.size, 0, none⟩ : Addr).add j) = some u := cell_one_new w1 _ _ j u h

theorem cnt_nil (E : List Edge) : cnt E [] ≤ E.length := List.length_filter_le _ _

set_option maxRecDepth 100000 in
set_option maxHeartbeats 8000000 in
theorem hangs_p_any (w : World) (b n : Nat) (E : List Edge) (V : ByteArray → Option Value) (p q : ByteArray) (h : Lk b n E V w) (hE : E.length ≤ 1000) (hpd : ∀ e ∈ E, e.2.size ≤ 800) (hp8 : p.size ≤ 800) :
    Calls Tryz.prog 120 #[.map (some b), .string p, .string q] w fun e w' => e = .returned (.bool (hangsP E p q)) ∧ Below w.heap.size w w' := by
  have hmm := @run_makeMap Tryz.prog
  obtain ⟨i0, hi, hz0, hz1, hz2⟩ := info_parts infoString
  have h0 := hg_start w p
  have hc0 := cnt_nil E
  have HL := hide h
  have hwb : b < w.heap.size := h.map.lt
  clear h
  go_enter Tryz.func120, Tryz.ntmps120
  go_wp2_with fail
  go_loopg [8] (E.length + 2) (fun gg v wr => ∃ (st met : List ByteArray), st.length + cnt E met ≤ gg ∧ st.length + cnt E met ≤ E.length + 1 ∧ met.length + cnt E met ≤ E.length ∧ (∀ x ∈ st, x.size ≤ 800) ∧ Sch E p q st met none ∧ HgInv w st met v wr)
  case atStart => exact ⟨[p], [], by simp; omega, by simp; omega, by simpa using hc0, by simpa using hp8, Sch.start E p q, h0⟩
  case round =>
    clear h0 hc0
    obtain ⟨st, met, hgg, hge, hmc, hs8, hsch, hinv⟩ := hrel
    rcases List.eq_nil_or_concat st with rfl | ⟨st', x, rfl⟩
    · obtain ⟨a1, c1, rfl⟩ := own_slice hinv.row
      have HS := hide hsch.ends
      have HI := hide hinv
      clear hsch hinv
      go_wp2_with fail
      go_ret
      exact ⟨by rw [unhide HS]; rfl, (unhide HI).below⟩
    · rw [List.concat_eq_append] at hgg hge hs8 hsch hinv
      obtain ⟨g, cap, rfl, hbg, hgl, hnc, hcm, hcell⟩ := own_last hinv.row
      have hpop := own_pop hinv.row
      obtain ⟨hsch2, hreach⟩ := hsch.pop
      have hlen : ((st' ++ [x]).length : Int) = (st'.length : Int) + 1 := by simp
      have hl1 : (st' ++ [x]).length = st'.length + 1 := by simp
      rw [hl1] at hgg hge hnc
      have hx8 : x.size ≤ 800 := hs8 x (by simp)
      have hxl : x.size ≤ maxLen := by unfold maxLen; omega
      have hs8' : ∀ y ∈ st', y.size ≤ 800 := fun y hy => hs8 y (by simp [hy])
      have hlw := (unhide HL).below hinv.below
      have hu := hlw.at_ x
      obtain ⟨au, cu, heu⟩ := own_slice hu
      have hlm := hlw.map
      have hum := own_max hu
      unfold maxLen at hcm hum
      have hI2 : HgInv w st' met (.slice (some ⟨g, 0, none⟩) st'.length cap) wr := ⟨hpop, hinv.map, hinv.below, hinv.sz⟩
      have HU := hide (show w.ownsRow (b + 1) 9 1 (.slice au (tgt E x).length cu) (tgt E x).length (strs (tgt E x)) by rw [← heu]; exact (unhide HL).at_ x)
      clear hsch hinv hpop hlw hu hs8
      rw [hl1]
      go_wp2_with (first | (at_lookup; refine wp_look _ rfl _ _ 224 rfl 9 33 Tryz.underlying9 Tryz.underlying224 (Tryz.zeroValue33 _) b n V rfl hlm x rfl hxl _ heu ?_))
      obtain ⟨G, hG, hGk, hGE⟩ : ∃ G, st'.length + cnt E met ≤ G ∧ G < gk ∧ G ≤ E.length := ⟨_, Nat.le_refl _, by omega, by omega⟩
      clear hgg hcell hlm hbg hgl
      go_loopg [8, 35] (tgt E x).length (fun gg2 v i wr => ∃ (j : Nat) (st met : List ByteArray), j ≤ (tgt E x).length ∧ gg2 = (tgt E x).length - j ∧ i = .int .i64 j ∧ st.length + cnt E met ≤ G ∧ met.length + cnt E met ≤ E.length ∧ (∀ y ∈ st, y.size ≤ 800) ∧ Sch E p q st met (some x) ∧ HgInv w st met v wr ∧ ∀ z ∈ (tgt E x).take j, z ≠ q ∧ z ∈ met)
      case atStart => exact ⟨0, st', met, Nat.zero_le _, rfl, rfl, hG, hmc, hs8', hsch2, hI2, by simp⟩
      case round =>
        clear hI2 hsch2 hs8' hmc hG
        obtain ⟨j, st, met, hj, hgj, rfl, hG, hmc, hs8, hsch, hinv, hdone⟩ := hrel
        obtain ⟨a1, c1, rfl⟩ := own_slice hinv.row
        by_cases hjl : j < (tgt E x).length
        · have hu := own_below (unhide HU) hinv.below (fun g e => ((unhide HU).lt g e).2)
          obtain ⟨g', cap', hv', hbg', hgl', hnc', hcm', hc'⟩ := own_str hu j hjl
          injection hv' with h1 h2 h3
          subst h1 h3
          have hz : (tgt E x)[j] ∈ tgt E x := List.getElem_mem hjl
          have hze := mem_tgt.1 hz
          have hz8 := hpd _ hze
          simp only at hz8
          have hzl : (tgt E x)[j].size ≤ maxLen := by unfold maxLen; omega
          have htake : (tgt E x).take (j + 1) = (tgt E x).take j ++ [(tgt E x)[j]] := List.take_succ_eq_append_getElem hjl
          have HTK := hide htake
          clear hu htake
          generalize hzz : (tgt E x)[j] = z at *
          cases hq : z.toList == q.toList with
          | true =>
            have hzq : z = q := bytes_eq.1 hq
            have HR := hide (hangs_yes hreach (q := q) (by rw [← hzq]; exact hz))
            have HI := hide hinv
            clear hinv hsch hdone hzq hG
            go_wp2_with fail
            go_ret
            exact ⟨by rw [unhide HR]; rfl, (unhide HI).below⟩
          | false =>
            have hzq : z ≠ q := fun e => by rw [e] at hq; simp at hq
            have HZQ := hide hzq
            clear hzq
            have hmap := hinv.map
            have hu1 : (metV met z).getD (.agg #[]) = .agg #[] := by unfold metV; split <;> rfl
            cases hm : isMet met z with
            | true =>
              have hc1 : (metV met z).isSome = true := by unfold metV; rw [if_pos hm]; rfl
              have HI := hide (hinv.alloc (.cells #[] 299))
              have HD := hide (show ∀ y ∈ (tgt E x).take (j + 1), y ≠ q ∧ y ∈ met from fun y hy => by
                rw [unhide HTK] at hy
                rcases List.mem_append.1 hy with hy | hy
                · exact hdone y hy
                · simp at hy; subst hy; exact ⟨unhide HZQ, isMet_iff.1 hm⟩)
              have HS := hide hsch
              clear hinv hdone hsch hm
              go_wp2_with (first | (at_lookup; refine wp_look_ok _ rfl _ _ 298 rfl 9 299 Tryz.underlying9 Tryz.underlying298 (Tryz.zeroValue299 _) w.heap.size met.length (metV met) rfl hmap z rfl hzl _ hu1 _ hc1 ?_))
              go_roundg ((tgt E x).length - (j + 1))
              case measure => omega
              case rel => exact ⟨j + 1, st, met, by omega, rfl, by go_num, hG, hmc, hs8, unhide HS, unhide HI, unhide HD⟩
            | false =>
              have hc1 : (metV met z).isSome = false := by unfold metV; rw [hm]; rfl
              have hcp := cnt_put hze hm
              have hI1 := hinv.alloc (.cells #[] 299)
              have hmap1 := hI1.map
              have HI := hide hI1
              have HS := hide (hsch.push hreach hz)
              have HDN := hide hdone
              have hsl : st.length ≤ 1000 := by omega
              clear hinv hsch hm hI1 hdone
              go_wp2_with (first | (at_lookup; refine wp_look_ok _ rfl _ _ 298 rfl 9 299 Tryz.underlying9 Tryz.underlying298 (Tryz.zeroValue299 _) w.heap.size met.length (metV met) rfl hmap z rfl hzl _ hu1 _ hc1 ?_) | (at_mapUpdate; refine wp_put _ rfl _ _ _ 298 rfl 9 299 Tryz.underlying9 Tryz.underlying298 w.heap.size met.length (metV met) rfl hmap1 (by unfold maxLen; omega) z (.agg #[]) (by rfl) (by rfl) hzl ?_))
              intro w3 hm3 hg3
              have hI3 := (unhide HI).put hm3 hg3
              have hz3 := hI3.sz
              have hownA := hI3.row.alloc (.cells #[.string z] 9)
              have HI3 := hide (hI3.alloc (.cells #[.string z] 9))
              clear hm3 hg3 hmap hmap1 HI hI3
              go_wp2_with (at_builtin; refine wpList_append_own _ rfl _ _ 33 rfl (w.heap.size + 1) 9 i0 _ 1 16 Tryz.underlying33 hi hz0 hz1 hz2 rfl (by decide) _ _ _ rfl hownA ⟨w3.heap.size, 0, none⟩ 1 1 [.string z] rfl rfl (str_cell1 w3 _) (str_one _) (by unfold maxLen; omega) (by omega) (by simp; omega) ?_)
              intro v5 w5 hown5 hg5 hne5
              clear hne5
              obtain ⟨a5, cap5, rfl⟩ := own_slice hown5
              have hI5 := (unhide HI3).push hown5 hg5
              have HI5 := hide hI5
              clear hown5 hg5 hownA hI5 HI3
              go_wp2_with fail
              go_roundg ((tgt E x).length - (j + 1))
              case measure => omega
              case rel =>
                refine ⟨j + 1, st ++ [z], met ++ [z], by omega, rfl, by go_num, by simp; omega, by simp; omega, fun y hy => ?_, unhide HS, ?_, fun y hy => ?_⟩
                · rcases List.mem_append.1 hy with hy | hy
                  · exact hs8 y hy
                  · simp at hy; subst hy; exact hz8
                · have := unhide HI5; simpa using this
                · rw [unhide HTK] at hy
                  rcases List.mem_append.1 hy with hy | hy
                  · exact ⟨(unhide HDN y hy).1, by simp [(unhide HDN y hy).2]⟩
                  · simp at hy; subst hy; exact ⟨unhide HZQ, by simp⟩
        · have HS := hide (hsch.drop (fun z hz => hdone z (by rw [List.take_of_length_le (by omega)]; exact hz)))
          have HI := hide hinv
          clear hinv hsch hdone
          go_wp2_with fail
          go_roundg G
          case measure => exact hGk
          case rel => exact ⟨st, met, hG, by omega, hmc, hs8, unhide HS, unhide HI⟩
end Go.Proofs.YtldkpahaocjdpaaGreat
