/-
  The program's Hangs: whether there is a way of links from p to q.
-/
import Derived.Test.YtfdahfdaodbjbaaGreatLoadsT41
namespace Go.Proofs.YtfdahfdaodbjbaaGreat
open Go.RowKit Go.Maps

/-- The stack and the map of what is met, both in new memory. -/
structure HgInv (w : World) (st met : List ByteArray) (v : Value) (wr : World) : Prop where
  row : wr.ownsRow (w.heap.size + 1) 9 1 v st.length (strs st)
  map : SMap Tryz.prog 9 wr w.heap.size met.length (metV met)
  below : Below w.heap.size w wr
  sz : w.heap.size < wr.heap.size

theorem HgInv.alloc {w : World} {st met : List ByteArray} {v : Value} {wr : World} (h : HgInv w st met v wr) (o : Obj) : HgInv w st met v (wr.alloc o) :=
  have hs := h.sz
  ⟨h.row.alloc o, h.map.alloc o, h.below.alloc (by omega) _, by simp; omega⟩

theorem HgInv.put {w : World} {st met : List ByteArray} {v : Value} {wr w1 : World} (h : HgInv w st met v wr) {x : ByteArray} (hm : SMap Tryz.prog 9 w1 w.heap.size (met.length + 1) (updV (metV met) x (.agg #[]))) (hg : wr.grownBy w1 (some w.heap.size)) : HgInv w st (met ++ [x]) v w1 := by
  have hs := h.sz
  have hz := hg.size
  refine ⟨own_block h.row (fun g e => hg.block g ((h.row.lt g e).2) (by have := (h.row.lt g e).1; simp; omega)), ?_, ?_, by omega⟩
  · rw [metV_put] at hm; simpa using hm
  · exact h.below.trans ⟨hg.os, hg.tape, hg.output, hg.size, fun i hi => hg.block i (by omega) (by simp; omega)⟩

theorem HgInv.push {w : World} {st met : List ByteArray} {v v' : Value} {wr w1 : World} (h : HgInv w st met v wr) {x : ByteArray} (hown : w1.ownsRow (w.heap.size + 1) 9 1 v' (st.length + 1) (strs st ++ [.string x])) (hg : wr.grownBy w1 v.ownBlock) : HgInv w (st ++ [x]) met v' w1 := by
  have hs := h.sz
  have hz := hg.size
  have hr : ∀ g, v.ownBlock = some g → w.heap.size + 1 ≤ g := fun g e => (h.row.lt g e).1
  refine ⟨by simpa [strs] using hown, h.map.block (hg.block _ hs (fun e => by have := hr _ e.symm; omega)), ?_, by omega⟩
  exact h.below.trans ⟨hg.os, hg.tape, hg.output, hg.size, fun i hi => hg.block i (by omega) (fun e => by have := hr _ e.symm; omega)⟩

theorem hg_start (w : World) (p : ByteArray) : HgInv w [p] [] (.slice (some ⟨w.heap.size + 1, 0, none⟩) 1 1) ((w.alloc (.map #[] 0)).alloc (.cells #[.string p] 9)) := by
  refine ⟨⟨by simp [strs], .inr ⟨w.heap.size + 1, 1, #[.string p], rfl, Nat.le_refl _, ?_, Nat.le_refl _, by unfold maxLen; omega, by simp, by simp [strs]⟩⟩, ?_, ((Below.refl _ _).alloc (Nat.le_refl _) _).alloc (by simp) _, by simp; omega⟩
  · have := heap_alloc_new (w.alloc (.map #[] 0)) (.cells #[.string p] 9)
    rw [World.size_alloc] at this
    exact this
  · exact (SMap.made Tryz.prog 9 w).alloc _

theorem str_cell1 (w1 : World) (x : ByteArray) (j : Nat) (u : Value) (h : ([Value.string x] : List Value)[j]? = some u) : (w1.alloc (Obj.cells #[Value.string x] 9)).cell? ((⟨w1.heap.size, 0, none⟩ : Addr).add j) = some u := cell_one_new w1 _ _ j u h

theorem cnt_nil (E : List Edge) : cnt E [] ≤ E.length := List.length_filter_le _ _

set_option maxRecDepth 100000 in
set_option maxHeartbeats 8000000 in
theorem hangs_p_any (w : World) (b n : Nat) (E : List Edge) (V : ByteArray → Option Value) (p q : ByteArray) (h : Lk b n E V w) (hE : E.length ≤ 1000) (hpd : ∀ e ∈ E, e.2.size ≤ 800) (hp8 : p.size ≤ 800) :
    Calls Tryz.prog 119 #[.map (some b), .string p, .string q] w fun e w' => e = .returned (.bool (hangsP E p q)) ∧ Below w.heap.size w w' := by
  have hmm := @run_makeMap Tryz.prog
  obtain ⟨i0, hi, hz0, hz1, hz2⟩ := info_parts infoString
  have h0 := hg_start w p
  have hc0 := cnt_nil E
  have HL := hide h
  have hwb : b < w.heap.size := h.map.lt
  clear h
  go_enter Tryz.func119, Tryz.ntmps119
  go_wp2_with fail
  go_loopg [8] (E.length + 2) (fun gg v wr => ∃ (st met : List ByteArray), st.length + cnt E met ≤ gg ∧ st.length + cnt E met ≤ E.length + 1 ∧ met.length + cnt E met ≤ E.length ∧ (∀ x ∈ st, x.size ≤ 800) ∧ Sch E p q st met none ∧ HgInv w st met v wr)
  case atStart => exact ⟨[p], [], by simp; omega, by simp; omega, by simpa using hc0, by simpa using hp8, Sch.start E p q, h0⟩
  case round =>
    clear h0 hc0
    obtain ⟨st, met, hgg, hge, hmc, hs8, hsch, hinv⟩ := hrel
    rcases List.eq_nil_or_concat st with rfl | ⟨st', x, rfl⟩
    · obtain ⟨a1, c1, rfl⟩ := own_slice hinv.row
      have HS := hide hsch.ends
      have HI := hide hinv
      clear hsch hinv
      go_wp2_with fail
      go_ret
      exact ⟨by rw [unhide HS]; rfl, (unhide HI).below⟩
    · rw [List.concat_eq_append] at hgg hge hs8 hsch hinv
      obtain ⟨g, cap, rfl, hbg, hgl, hnc, hcm, hcell⟩ := own_last hinv.row
      have hpop := own_pop hinv.row
      obtain ⟨hsch2, hreach⟩ := hsch.pop
      have hlen : ((st' ++ [x]).length : Int) = (st'.length : Int) + 1 := by simp
      have hl1 : (st' ++ [x]).length = st'.length + 1 := by simp
      rw [hl1] at hgg hge hnc
      have hx8 : x.size ≤ 800 := hs8 x (by simp)
      have hxl : x.size ≤ maxLen := by unfold maxLen; omega
      have hs8' : ∀ y ∈ st', y.size ≤ 800 := fun y hy => hs8 y (by simp [hy])
      have hlw := (unhide HL).below hinv.below
      have hu := hlw.at_ x
      obtain ⟨au, cu, heu⟩ := own_slice hu
      have hlm := hlw.map
      have hum := own_max hu
      unfold maxLen at hcm hum
      have hI2 : HgInv w st' met (.slice (some ⟨g, 0, none⟩) st'.length cap) wr := ⟨hpop, hinv.map, hinv.below, hinv.sz⟩
      have HU := hide (show w.ownsRow (b + 1) 9 1 (.slice au (tgt E x).length cu) (tgt E x).length (strs (tgt E x)) by rw [← heu]; exact (unhide HL).at_ x)
      clear hsch hinv hpop hlw hu hs8
      rw [hl1]
      go_wp2_with (first | (at_lookup; refine wp_look _ rfl _ _ 237 rfl 9 50 Tryz.underlying9 Tryz.underlying237 (Tryz.zeroValue50 _) b n V rfl hlm x rfl hxl _ heu ?_))
      obtain ⟨G, hG, hGk, hGE⟩ : ∃ G, st'.length + cnt E met ≤ G ∧ G < gk ∧ G ≤ E.length := ⟨_, Nat.le_refl _, by omega, by omega⟩
      clear hgg hcell hlm hbg hgl
      go_loopg [8, 35] (tgt E x).length (fun gg2 v i wr => ∃ (j : Nat) (st met : List ByteArray), j ≤ (tgt E x).length ∧ gg2 = (tgt E x).length - j ∧ i = .int .i64 j ∧ st.length + cnt E met ≤ G ∧ met.length + cnt E met ≤ E.length ∧ (∀ y ∈ st, y.size ≤ 800) ∧ Sch E p q st met (some x) ∧ HgInv w st met v wr ∧ ∀ z ∈ (tgt E x).take j, z ≠ q ∧ z ∈ met)
      case atStart => exact ⟨0, st', met, Nat.zero_le _, rfl, rfl, hG, hmc, hs8', hsch2, hI2, by simp⟩
      case round =>
        clear hI2 hsch2 hs8' hmc hG
        obtain ⟨j, st, met, hj, hgj, rfl, hG, hmc, hs8, hsch, hinv, hdone⟩ := hrel
        obtain ⟨a1, c1, rfl⟩ := own_slice hinv.row
        by_cases hjl : j < (tgt E x).length
        · have hu := own_below (unhide HU) hinv.below (fun g e => ((unhide HU).lt g e).2)
          obtain ⟨g', cap', hv', hbg', hgl', hnc', hcm', hc'⟩ := own_str hu j hjl
          injection hv' with h1 h2 h3
          subst h1 h3
          have hz : (tgt E x)[j] ∈ tgt E x := List.getElem_mem hjl
          have hze := mem_tgt.1 hz
          have hz8 := hpd _ hze
          simp only at hz8
          have hzl : (tgt E x)[j].size ≤ maxLen := by unfold maxLen; omega
          have htake : (tgt E x).take (j + 1) = (tgt E x).take j ++ [(tgt E x)[j]] := List.take_succ_eq_append_getElem hjl
          have HTK := hide htake
          clear hu htake
          generalize hzz : (tgt E x)[j] = z at *
          cases hq : z.toList == q.toList with
          | true =>
            have hzq : z = q := bytes_eq.1 hq
            have HR := hide (hangs_yes hreach (q := q) (by rw [← hzq]; exact hz))
            have HI := hide hinv
            clear hinv hsch hdone hzq hG
            go_wp2_with fail
            go_ret
            exact ⟨by rw [unhide HR]; rfl, (unhide HI).below⟩
          | false =>
            have hzq : z ≠ q := fun e => by rw [e] at hq; simp at hq
            have HZQ := hide hzq
            clear hzq
            have hmap := hinv.map
            have hu1 : (metV met z).getD (.agg #[]) = .agg #[] := by unfold metV; split <;> rfl
            cases hm : isMet met z with
            | true =>
              have hc1 : (metV met z).isSome = true := by unfold metV; rw [if_pos hm]; rfl
              have HI := hide (hinv.alloc (.cells #[] 276))
              have HD := hide (show ∀ y ∈ (tgt E x).take (j + 1), y ≠ q ∧ y ∈ met from fun y hy => by
                rw [unhide HTK] at hy
                rcases List.mem_append.1 hy with hy | hy
                · exact hdone y hy
                · simp at hy; subst hy; exact ⟨unhide HZQ, isMet_iff.1 hm⟩)
              have HS := hide hsch
              clear hinv hdone hsch hm
              go_wp2_with (first | (at_lookup; refine wp_look_ok _ rfl _ _ 275 rfl 9 276 Tryz.underlying9 Tryz.underlying275 (Tryz.zeroValue276 _) w.heap.size met.length (metV met) rfl hmap z rfl hzl _ hu1 _ hc1 ?_))
              go_roundg ((tgt E x).length - (j + 1))
              case measure => omega
              case rel => exact ⟨j + 1, st, met, by omega, rfl, by go_num, hG, hmc, hs8, unhide HS, unhide HI, unhide HD⟩
            | false =>
              have hc1 : (metV met z).isSome = false := by unfold metV; rw [hm]; rfl
              have hcp := cnt_put hze hm
              have hI1 := hinv.alloc (.cells #[] 276)
              have hmap1 := hI1.map
              have HI := hide hI1
              have HS := hide (hsch.push hreach hz)
              have HDN := hide hdone
              have hsl : st.length ≤ 1000 := by omega
              clear hinv hsch hm hI1 hdone
              go_wp2_with (first | (at_lookup; refine wp_look_ok _ rfl _ _ 275 rfl 9 276 Tryz.underlying9 Tryz.underlying275 (Tryz.zeroValue276 _) w.heap.size met.length (metV met) rfl hmap z rfl hzl _ hu1 _ hc1 ?_) | (at_mapUpdate; refine wp_put _ rfl _ _ _ 275 rfl 9 276 Tryz.underlying9 Tryz.underlying275 w.heap.size met.length (metV met) rfl hmap1 (by unfold maxLen; omega) z (.agg #[]) (by rfl) (by rfl) hzl ?_))
              intro w3 hm3 hg3
              have hI3 := (unhide HI).put hm3 hg3
              have hz3 := hI3.sz
              have hownA := hI3.row.alloc (.cells #[.string z] 9)
              have HI3 := hide (hI3.alloc (.cells #[.string z] 9))
              clear hm3 hg3 hmap hmap1 HI hI3
              go_wp2_with (at_builtin; refine wpList_append_own _ rfl _ _ 50 rfl (w.heap.size + 1) 9 i0 _ 1 16 Tryz.underlying50 hi hz0 hz1 hz2 rfl (by decide) _ _ _ rfl hownA ⟨w3.heap.size, 0, none⟩ 1 1 [.string z] rfl rfl (str_cell1 w3 _) (str_one _) (by unfold maxLen; omega) (by omega) (by simp; omega) ?_)
              intro v5 w5 hown5 hg5 hne5
              clear hne5
              obtain ⟨a5, cap5, rfl⟩ := own_slice hown5
              have hI5 := (unhide HI3).push hown5 hg5
              have HI5 := hide hI5
              clear hown5 hg5 hownA hI5 HI3
              go_wp2_with fail
              go_roundg ((tgt E x).length - (j + 1))
              case measure => omega
              case rel =>
                refine ⟨j + 1, st ++ [z], met ++ [z], by omega, rfl, by go_num, by simp; omega, by simp; omega, fun y hy => ?_, unhide HS, ?_, fun y hy => ?_⟩
                · rcases List.mem_append.1 hy with hy | hy
                  · exact hs8 y hy
                  · simp at hy; subst hy; exact hz8
                · have := unhide HI5; simpa using this
                · rw [unhide HTK] at hy
                  rcases List.mem_append.1 hy with hy | hy
                  · exact ⟨(unhide HDN y hy).1, by simp [(unhide HDN y hy).2]⟩
                  · simp at hy; subst hy; exact ⟨unhide HZQ, by simp⟩
        · have HS := hide (hsch.drop (fun z hz => hdone z (by rw [List.take_of_length_le (by omega)]; exact hz)))
          have HI := hide hinv
          clear hinv hsch hdone
          go_wp2_with fail
          go_roundg G
          case measure => exact hGk
          case rel => exact ⟨st, met, hG, by omega, hmc, hs8, unhide HS, unhide HI⟩
end Go.Proofs.YtfdahfdaodbjbaaGreat
