/-
  The program's LinksOf: a map from each head's predicate to the predicates of its bodies' literals.
-/
import Derived.Test.YtldkpahaocjdpaaGreatLoadsT41
import Derived.Maps.AppendAt
namespace Go.Proofs.YtldkpahaocjdpaaGreat
open Go.RowKit Go.Maps

abbrev Edge := ByteArray × ByteArray
def tgt (E : List Edge) (p : ByteArray) : List ByteArray := (E.filter fun e => e.1.toList == p.toList).map (·.2)
def strs (l : List ByteArray) : List Value := l.map Value.string
def edgesB (pd : ByteArray) (l : List PLit) : List Edge := l.map fun x => (pd, x.pd)
def edgesP (rs : List PRule) : List Edge := rs.flatMap fun R => edgesB R.pd R.body

theorem tgt_same (E : List Edge) (p q : ByteArray) : tgt (E ++ [(p, q)]) p = tgt E p ++ [q] := by
  simp [tgt]
theorem tgt_other {E : List Edge} {p q x : ByteArray} (h : x ≠ p) : tgt (E ++ [(p, q)]) x = tgt E x := by
  have h1 : ¬ p.toList = x.toList := fun e => h (bytes_eq.1 (by simpa using e.symm))
  simp [tgt, h1]
theorem tgt_len (E : List Edge) (p : ByteArray) : (tgt E p).length ≤ E.length := by
  simp only [tgt, List.length_map]; exact List.length_filter_le _ _

/-- The map of the links in block b, its rows behind it. -/
structure Lk (b n : Nat) (E : List Edge) (V : ByteArray → Option Value) (wr : World) : Prop where
  map : SMap Tryz.prog 9 wr b n V
  rows : ∀ p v, V p = some v → wr.ownsRow (b + 1) 9 1 v (tgt E p).length (strs (tgt E p))
  non : ∀ p, V p = none → tgt E p = []
  apart : ∀ p q v u, V p = some v → V q = some u → p ≠ q → v.ownBlock = none ∨ v.ownBlock ≠ u.ownBlock

theorem Lk.below {b n : Nat} {E : List Edge} {V : ByteArray → Option Value} {wr w1 : World} (h : Lk b n E V wr) (hb : Below wr.heap.size wr w1) : Lk b n E V w1 :=
  ⟨h.map.block (hb.block _ h.map.lt), fun p v hv => own_below (h.rows p v hv) hb (fun g e => ((h.rows p v hv).lt g e).2), h.non, h.apart⟩

/-- What lies at a key. -/
theorem Lk.at_ {b n : Nat} {E : List Edge} {V : ByteArray → Option Value} {wr : World} (h : Lk b n E V wr) (p : ByteArray) : wr.ownsRow (b + 1) 9 1 ((V p).getD (.slice none 0 0)) (tgt E p).length (strs (tgt E p)) := by
  cases hv : V p with
  | none => rw [h.non p hv]; exact World.ownsRow_nil _ _ _ _
  | some v => exact h.rows p v hv

/-- One link more. -/
theorem Lk.put {b n : Nat} {E : List Edge} {V : ByteArray → Option Value} {wr w5 w6 : World} (h : Lk b n E V wr) {p q : ByteArray} {v' : Value} (hg : wr.grownBy w5 ((V p).getD (.slice none 0 0)).ownBlock)
    (hown : w5.ownsRow (b + 1) 9 1 v' ((tgt E p).length + 1) (strs (tgt E p) ++ [.string q])) (hloc : v'.ownBlock = ((V p).getD (.slice none 0 0)).ownBlock ∨ v'.ownBlock = some wr.heap.size)
    (hmap : SMap Tryz.prog 9 w6 b (n + 1) (updV V p v')) (hg6 : w5.grownBy w6 (some b)) :
    Lk b (n + 1) (E ++ [(p, q)]) (updV V p v') w6 ∧ Kept (b :: ((V p).getD (.slice none 0 0)).ownBlock.toList) wr w6 := by
  have hu := h.at_ p
  have hne : ∀ x v, V x = some v → x ≠ p → v.ownBlock = none ∨ v.ownBlock ≠ ((V p).getD (.slice none 0 0)).ownBlock := fun x v hv hx => by
    cases hp : V p with
    | none => cases v.ownBlock <;> simp [Value.ownBlock]
    | some u => exact h.apart x p v u hv hp hx
  have hlow : ∀ {v : Value} {m : Nat} {xs : List Value}, w5.ownsRow (b + 1) 9 1 v m xs → w6.ownsRow (b + 1) 9 1 v m xs := fun {v m xs} hv => own_block hv (fun g e => hg6.block g ((hv.lt g e).2) (by have := (hv.lt g e).1; simp; omega))
  have hnew : ∀ x v, V x = some v → x ≠ p → v.ownBlock = none ∨ v.ownBlock ≠ v'.ownBlock := fun x v hv hx => by
    rcases hloc with h1 | h1
    · rw [h1]; exact hne x v hv hx
    · cases hvb : v.ownBlock with
      | none => exact .inl rfl
      | some g =>
        refine .inr (fun e => ?_)
        rw [h1] at e
        injection e with e
        have := ((h.rows x v hv).lt g hvb).2
        omega
  refine ⟨⟨hmap, fun x v hv => ?_, fun x hx => ?_, fun x y v u hv hu' hxy => ?_⟩, ?_⟩
  · by_cases e : x = p
    · subst e
      rw [updV_same] at hv
      injection hv with hv
      subst hv
      rw [tgt_same]
      have := hlow hown
      simpa [strs] using this
    · rw [updV_other e] at hv
      rw [tgt_other e]
      exact hlow ((h.rows x v hv).kept hg (hne x v hv e))
  · by_cases e : x = p
    · subst e; rw [updV_same] at hx; cases hx
    · rw [updV_other e] at hx; rw [tgt_other e]; exact h.non x hx
  · by_cases e : x = p
    · subst e
      rw [updV_same] at hv
      injection hv with hv
      subst hv
      have hyx : y ≠ x := fun e => hxy e.symm
      rw [updV_other hyx] at hu'
      rcases hnew y u hu' hyx with h1 | h1
      · cases hb : v'.ownBlock with
        | none => exact .inl rfl
        | some g => exact .inr (by rw [h1]; simp)
      · exact .inr (fun e => h1 e.symm)
    · rw [updV_other e] at hv
      by_cases e2 : y = p
      · subst e2
        rw [updV_same] at hu'
        injection hu' with hu'
        subst hu'
        exact hnew x v hv e
      · rw [updV_other e2] at hu'
        exact h.apart x y v u hv hu' hxy
  · have hz := hg.size
    have hz6 := hg6.size
    refine ⟨hg6.os.trans hg.os, hg6.tape.trans hg.tape, hg6.output.trans hg.output, by omega, fun k hk hn => ?_⟩
    rw [hg6.block k (by omega) (by simp at hn ⊢; omega), hg.block k hk (fun e => hn (by simp [← e]))]

theorem str_cell (w1 : World) (o : Obj) (x : ByteArray) (j : Nat) (u : Value) (h : ([Value.string x] : List Value)[j]? = some u) : ((w1.alloc o).alloc (Obj.cells #[Value.string x] 9)).cell? ((⟨w1.heap.size + 1, 0, none⟩ : Addr).add j) = some u := by
  have e : (⟨w1.heap.size + 1, 0, none⟩ : Addr).add j = ⟨w1.heap.size + 1, j, none⟩ := by unfold Addr.add; split <;> simp_all
  rw [e, World.cell?_alloc_at _ _ _ _ (by simp)]
  simpa using h
theorem str_one (x : ByteArray) : ∀ u ∈ ([Value.string x] : List Value), u.oneCell' = true := by
  intro u hu; simp at hu; subst hu; rfl

def Est (rs : List PR) (k : Nat) (pd : ByteArray) (ls : List (PLit × Value)) (j : Nat) : List Edge := edgesP ((rs.map (·.R)).take k) ++ edgesB pd ((ls.map (·.1)).take j)

theorem edgesP_snoc (l : List PRule) (R : PRule) : edgesP (l ++ [R]) = edgesP l ++ edgesB R.pd R.body := by simp [edgesP]
theorem rules_take {rs : List PR} {k : Nat} (h : k < rs.length) : (rs.map (·.R)).take (k + 1) = (rs.map (·.R)).take k ++ [rs[k].R] := by
  rw [List.take_succ_eq_append_getElem (by simpa using h)]; simp

theorem edges_next {rs : List PR} {k : Nat} (h : k < rs.length) (he : rs[k].bs.map (·.1) = rs[k].R.body) {j : Nat} (hj : rs[k].bs.length ≤ j) : Est rs k rs[k].R.pd rs[k].bs j = edgesP ((rs.map (·.R)).take (k + 1)) := by
  unfold Est
  rw [rules_take h, edgesP_snoc, List.take_of_length_le (l := rs[k].bs.map (·.1)) (by simpa using hj), he]
theorem est_next {rs : List PR} {k : Nat} {pd : ByteArray} {ls : List (PLit × Value)} {j : Nat} (hj : j < ls.length) : Est rs k pd ls (j + 1) = Est rs k pd ls j ++ [(pd, ls[j].1.pd)] := by
  unfold Est
  rw [List.take_succ_eq_append_getElem (by simpa using hj)]
  simp [edgesB]

set_option maxRecDepth 100000 in
set_option maxHeartbeats 8000000 in
theorem links_any (w : World) (base : Nat) (ar : Option Addr) (cr : Nat) (rs : List PR) (h : RRow w base (.slice ar rs.length cr) rs) (hpd : ∀ r ∈ rs, r.R.pd.size ≤ 800) (hb3 : ∀ r ∈ rs, r.bs.length ≤ 3) (hr30 : rs.length ≤ 30) :
    Calls Tryz.prog 119 #[.slice ar rs.length cr] w fun e w' => e = .returned (.map (some w.heap.size)) ∧ Below w.heap.size w w' ∧ w.heap.size < w'.heap.size ∧ ∃ V, Lk w.heap.size (edgesP (rs.map (·.R))).length (edgesP (rs.map (·.R))) V w' := by
  have hmm := @run_makeMap Tryz.prog
  obtain ⟨i0, hi, hz0, hz1, hz2⟩ := info_parts infoString
  have h0 : Lk w.heap.size 0 [] (fun _ => none) (w.alloc (.map #[] 0)) := ⟨SMap.made _ _ w, fun _ _ hv => (by cases hv), fun _ _ => rfl, fun _ _ _ _ hv => (by cases hv)⟩
  have b0 : Below w.heap.size w (w.alloc (.map #[] 0)) := (Below.refl _ _).alloc (Nat.le_refl _) _
  have hE : ∀ k, k ≤ rs.length → (edgesP ((rs.map (·.R)).take k)).length ≤ 3 * k := by
    intro k
    induction k with
    | zero => intro _; simp [edgesP]
    | succ k ih =>
      intro hk
      rw [rules_take (by omega), edgesP_snoc]
      have h1 := ih (by omega)
      have h2 := hb3 _ (List.getElem_mem (show k < rs.length by omega))
      have h3 := (h.each _ (List.getElem_mem (show k < rs.length by omega))).eq
      have h4 : rs[k].R.body.length = rs[k].bs.length := by rw [← h3]; simp
      simp only [List.length_append, edgesB, List.length_map]
      omega
  have HE := hide hE
  have HR := hide h
  clear h hE
  go_enter Tryz.func119, Tryz.ntmps119
  go_wp2_with fail
  go_loopg [12] rs.length (fun gg i wr => ∃ (k : Nat) (V : ByteArray → Option Value), k ≤ rs.length ∧ gg = rs.length - k ∧ i = .int .i64 k ∧ Below w.heap.size w wr ∧ w.heap.size < wr.heap.size ∧ Lk w.heap.size (edgesP ((rs.map (·.R)).take k)).length (edgesP ((rs.map (·.R)).take k)) V wr)
  case atStart => exact ⟨0, _, Nat.zero_le _, rfl, rfl, b0, by simp, h0⟩
  case round =>
    clear h0 b0
    obtain ⟨k, V, hk, hgk, rfl, hB, hsz, hlk0⟩ := hrel
    by_cases hlk : k < rs.length
    · have hRw := (unhide HR).below hB
      obtain ⟨gr, capr, hvr, hbgr, hglr, hncr, hcmr, hcr⟩ := row_at pr_len hRw.row k hlk
      injection hvr with h4 h5 h6
      subst h4 h6
      have hin := hRw.each _ (List.getElem_mem hlk)
      have hin0 := (unhide HR).each _ (List.getElem_mem hlk)
      obtain ⟨ah, ch, hbh⟩ := own_slice hin.hd
      obtain ⟨ab, cb, hbb⟩ := own_slice hin.bo.row
      have r0 := hcr 0 (by omega)
      have r1 := hcr 1 (by omega)
      have r2 := hcr 2 (by omega)
      simp only [PR.cells, hbh, hbb, Nat.add_zero, List.getElem?_cons_zero, List.getElem?_cons_succ] at r0 r1 r2
      have bA := (Below.refl wr.heap.size wr).alloc (Nat.le_refl _) (.cells #[.string rs[k].R.pd, .slice ah rs[k].R.ts.length ch, .slice ab rs[k].bs.length cb] 123)
      have hrb : (wr.alloc (.cells #[.string rs[k].R.pd, .slice ah rs[k].R.ts.length ch, .slice ab rs[k].bs.length cb] 123)).heap[wr.heap.size]? = _ := heap_alloc_new wr _
      have hB1 := hB.trans (bA.mono (by omega))
      have hl1 := hlk0.below bA
      have hbo := hin0.bo
      rw [hbb] at hbo
      have HBO := hide hbo
      have HEQ := hide hin0.eq
      have hbl := hb3 _ (List.getElem_mem hlk)
      have hp8 := hpd _ (List.getElem_mem hlk)
      have hkl : rs[k].R.pd.size ≤ maxLen := by unfold maxLen; omega
      have hlen := unhide HE k hk
      have hL0 : Lk w.heap.size (Est rs k rs[k].R.pd rs[k].bs 0).length (Est rs k rs[k].R.pd rs[k].bs 0) V (wr.alloc (.cells #[.string rs[k].R.pd, .slice ah rs[k].R.ts.length ch, .slice ab rs[k].bs.length cb] 123)) := by
        have : Est rs k rs[k].R.pd rs[k].bs 0 = edgesP ((rs.map (·.R)).take k) := by simp [Est, edgesB]
        rw [this]; exact hl1
      have hlen0 : (Est rs k rs[k].R.pd rs[k].bs 0).length ≤ 3 * k + 0 := by simpa [Est, edgesB] using hlen
      clear hcr hin hin0 hbh hbb hl1 hRw hbo hlk0 bA hlen
      generalize hn1 : wr.heap.size = n1 at *
      go_wp2_with fail
      go_loopg [19] rs[k].bs.length (fun gg2 j wj => ∃ (jj : Nat) (V : ByteArray → Option Value), jj ≤ rs[k].bs.length ∧ gg2 = rs[k].bs.length - jj ∧ j = .int .i64 jj ∧ Below w.heap.size w wj ∧ n1 < wj.heap.size ∧ wj.heap[n1]? = some (.cells #[.string rs[k].R.pd, .slice ah rs[k].R.ts.length ch, .slice ab rs[k].bs.length cb] 123 (0, 0)) ∧ Lk w.heap.size (Est rs k rs[k].R.pd rs[k].bs jj).length (Est rs k rs[k].R.pd rs[k].bs jj) V wj ∧ (Est rs k rs[k].R.pd rs[k].bs jj).length ≤ 3 * k + jj)
      case atStart => exact ⟨0, V, Nat.zero_le _, rfl, rfl, hB1, by simp [hn1], hrb, hL0, hlen0⟩
      case round =>
        clear hL0 hlen0 hB1 hrb r0 r1 r2 hB
        obtain ⟨j, V, hj, hgj, rfl, hB, hsz2, hrb, hL, hlen⟩ := hrel
        by_cases hjl : j < rs[k].bs.length
        · have hbw := (unhide HBO).below hB
          obtain ⟨g, cap, hv, hbg, hgl, hnc, hcm, hc⟩ := row_at pl_len hbw.row j hjl
          injection hv with h1 h2 h3
          subst h1 h3
          obtain ⟨at1, ct1, hbt⟩ := own_slice (hbw.each _ (List.getElem_mem hjl))
          have q0 := hc 0 (by omega)
          have q1 := hc 1 (by omega)
          have q2 := hc 2 (by omega)
          simp only [PLit.cells, hbt, Nat.add_zero, List.getElem?_cons_zero, List.getElem?_cons_succ] at q0 q1 q2
          obtain ⟨c0, f0⟩ := block_cells hrb 0
          have bA := ((Below.refl wr.heap.size wr).alloc (Nat.le_refl _) (.cells #[.bool rs[k].bs[j].1.neg, .string rs[k].bs[j].1.pd, .slice at1 rs[k].bs[j].1.ts.length ct1] 183)).alloc (by simp) (.cells #[.string rs[k].bs[j].1.pd] 9)
          have bA1 := (Below.refl wr.heap.size wr).alloc (Nat.le_refl _) (.cells #[.bool rs[k].bs[j].1.neg, .string rs[k].bs[j].1.pd, .slice at1 rs[k].bs[j].1.ts.length ct1] 183)
          have hmap := (hL.below bA1).map
          have hL2 := hL.below bA
          have hu := hL2.at_ rs[k].R.pd
          obtain ⟨au, cu, heu⟩ := own_slice hu
          have htl := tgt_len (Est rs k rs[k].R.pd rs[k].bs j) rs[k].R.pd
          have hu' := hu
          rw [heu] at hu'
          have HL2 := hide hL2
          have HEN := hide (est_next (rs := rs) (k := k) (pd := rs[k].R.pd) hjl)
          have hrb2 := (bA.block n1 hsz2).trans hrb
          have HRB := hide hrb2
          have HBA := hide bA
          have HUN := hide (own_notT hu' (e := 123) (by decide))
          have HUL := hide (fun g e => (hu'.lt g e).1)
          clear hc hbt hL hL2 hu hrb hrb2 bA bA1 hbw
          go_wp2_with (first | (at_lookup; refine wp_look _ rfl _ _ 224 rfl 9 33 Tryz.underlying9 Tryz.underlying224 (Tryz.zeroValue33 _) w.heap.size (Est rs k rs[k].R.pd rs[k].bs j).length V rfl hmap rs[k].R.pd rfl hkl _ heu ?_) | (at_builtin; refine wpList_append_own_at _ rfl _ _ 33 rfl (w.heap.size + 1) 9 i0 _ 1 16 Tryz.underlying33 hi hz0 hz1 hz2 rfl (by decide) _ _ _ rfl hu' ⟨wr.heap.size + 1, 0, none⟩ 1 1 [.string rs[k].bs[j].1.pd] rfl rfl (str_cell wr _ _) (str_one _) (by unfold maxLen; omega) (by omega) (by simp; omega) ?_))
          intro v5 w5 hown5 hg5 hnil5 hloc5
          obtain ⟨a5, cap5, rfl⟩ := own_slice hown5
          rw [← heu] at hg5 hloc5
          have hz5 := hg5.size
          have hm5 : SMap Tryz.prog 9 w5 w.heap.size (Est rs k rs[k].R.pd rs[k].bs j).length V := (unhide HL2).map.block (hg5.block _ (unhide HL2).map.lt (fun e => by rw [heu] at e; have := unhide HUL _ e.symm; omega))
          have HO5 := hide hown5
          have HG5 := hide hg5
          have HC5 := hide hloc5
          clear hown5 hg5 hnil5 hloc5 hmap hu'
          go_wp2_with (at_mapUpdate; refine wp_put _ rfl _ _ _ 224 rfl 9 33 Tryz.underlying9 Tryz.underlying224 w.heap.size (Est rs k rs[k].R.pd rs[k].bs j).length V rfl hm5 (by unfold maxLen; omega) rs[k].R.pd _ (by rfl) (by rfl) hkl ?_)
          intro w6 hm6 hg6
          obtain ⟨hL6, hK6⟩ := (unhide HL2).put (q := rs[k].bs[j].1.pd) (unhide HG5) (unhide HO5) (by simpa using unhide HC5) hm6 hg6
          rw [heu] at hK6
          have hr6 := cells_keptT (unhide HRB) hK6 (fun x hx => by
            rcases List.mem_cons.1 hx with rfl | hx
            · exact .inl (by omega)
            · exact .inr (unhide HUN x hx))
          have hB6 : Below w.heap.size w w6 := below_kept (hB.trans ((unhide HBA).mono (by omega))) hK6 (by simp; omega) (fun x hx => by
            rcases List.mem_cons.1 hx with rfl | hx
            · omega
            · have := unhide HUL x (by simpa using hx); omega)
          have hz6 := hK6.size
          simp at hz6
          have HL6 := hide hL6
          have HR6 := hide hr6
          clear hL6 hK6 hr6 hm6 hg6 hm5 HG5 HO5 HC5
          go_wp2_with fail
          go_roundg (rs[k].bs.length - (j + 1))
          case measure => omega
          case rel => exact ⟨j + 1, _, by omega, rfl, by go_num, hB6, by omega, unhide HR6, by rw [unhide HEN, List.length_append]; exact unhide HL6, by rw [unhide HEN]; simp; omega⟩
        · have HNX := hide (edges_next hlk (unhide HEQ) (j := j) (by omega))
          have HL := hide hL
          clear hL hrb
          go_wp2_with fail
          go_roundg (rs.length - (k + 1))
          case measure => omega
          case rel => exact ⟨k + 1, V, by omega, rfl, by go_num, hB, by omega, by rw [← unhide HNX]; exact unhide HL⟩
    · have e : (rs.map (·.R)).take k = rs.map (·.R) := List.take_of_length_le (by simp; omega)
      rw [e] at hlk0
      have HL := hide hlk0
      clear hlk0 e
      go_wp2_with fail
      go_ret
      exact ⟨rfl, hB, hsz, V, unhide HL⟩
end Go.Proofs.YtldkpahaocjdpaaGreat
