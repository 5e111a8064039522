/-
  The law's ownStrata: the list is written over with its mark, and three are begun at it.
-/
import Derived.Test.YtldkpahaocjdpaaGreatPrintsT36
namespace Go.Proofs.YtldkpahaocjdpaaGreat
open Go.RowKit

theorem mark_set (m0 m1 m2 : Value) (k : Nat) (ys : List Value) (h : 3 ≤ ys.length) : (((rep [m0, m1, m2] k ++ ys).set (k * 3) m0).set (k * 3 + 1) m1).set (k * 3 + 2) m2 = rep [m0, m1, m2] (k + 1) ++ ys.drop 3 := by
  match ys, h with
  | y0 :: y1 :: y2 :: r, _ =>
    have hl : (rep [m0, m1, m2] k).length = k * 3 := rep_len _ _
    rw [List.set_append_right _ _ (by omega), List.set_append_right _ _ (by omega), List.set_append_right _ _ (by omega), hl, rep_add]
    simp [rep]

theorem AppPart.where_ {w w' : World} {v v' : Value} {n m : Nat} (h : AppPart w w' v v' n m) : ∀ g ∈ v'.ownBlock.toList, g ∈ v.ownBlock.toList ∨ w.heap.size ≤ g := by
  intro g hg
  rcases h with ⟨g', cap, rfl, rfl, _, _⟩ | ⟨g', cap, rfl, hge, _, _⟩
  · exact .inl (by simpa [Value.ownBlock] using hg)
  · right
    have : g = g' := by simpa [Value.ownBlock] using hg
    omega
theorem Grow.where_ {w2 w : World} {base : Nat} {e : TypeId} {mk : List Value} {a : Option Addr} {n cap i : Nat} {v3 : Value} (h : Grow w2 base e mk a n cap i v3 w) : ∀ g ∈ v3.ownBlock.toList, g ∈ (Value.slice a n cap).ownBlock.toList ∨ w2.heap.size ≤ g := by
  intro g hg
  rcases h.at_ with he | ⟨hf, _⟩
  · left
    rw [he] at hg
    cases a with
    | none => simp [Value.ownBlock] at hg
    | some a => simpa [Value.ownBlock] using hg
  · exact .inr (hf g (by simpa using hg))

/-- What ownStrata (and its likes) leave. -/
structure OwnIn (w : World) (e : TypeId) (mk : List Value) (m : MB) (w' : World) : Prop where
  mark : MarkF w' e mk m
  kept : Kept m.l.ownBlock.toList w w'
  far : ∀ g ∈ m.blocks, g ∈ m.l.ownBlock.toList ∨ w.heap.size ≤ g

theorem OwnIn.of {w w0 w1 w2 w3 : World} {e : TypeId} {mk : List Value} {a a1 a2 a3 : Option Addr} {n cap c1 c2 c3 mark : Nat} (hw : Kept (Value.slice a n cap).ownBlock.toList w w0) (h0 : Lm w0 0 e mk (.slice a n cap) n) {wa wb : World} (ka : Kept [] w0 wa) (kb : Kept [] w1 wb) (p1 : AppPart wa w1 (.slice a n cap) (.slice a1 (n + 1) c1) n 1) (m1 : Lm w1 0 e mk (.slice a1 (n + 1) c1) (n + 1)) (p2 : AppPart wb w2 (.slice a n cap) (.slice a2 (n + 2) c2) n 2) (m2 : Lm w2 0 e mk (.slice a2 (n + 2) c2) (n + 2)) (h : Grow w2 0 e mk a n cap 64 (.slice a3 (n + 64) c3) w3) (hn : n ≤ 1000) (hm : mark ≤ 1000000000) :
    OwnIn w e mk ⟨.slice a n cap, .slice a1 (n + 1) c1, .slice a2 (n + 2) c2, .slice a3 (n + 64) c3, mark⟩ w3 := by
  have ha : Lm wa 0 e mk (.slice a n cap) n := h0.kept ka (by simp)
  have k1 := p1.kept
  have k2 := p2.kept
  have f1 : Lm wb 0 e mk (.slice a n cap) n := (p1.first (by omega) ha m1).kept kb (by simp)
  have m1' : Lm wb 0 e mk (.slice a1 (n + 1) c1) (n + 1) := m1.kept kb (by simp)
  obtain ⟨M, hM, hr⟩ := h.reach
  have hcl := h0.cap
  have q1 : Lm w3 0 e mk (.slice a1 (n + 1) c1) (n + 1) := p1.other (by omega) ha m1' (k2.trans h.kept) hM (by omega)
  have q2 : Lm w3 0 e mk (.slice a2 (n + 2) c2) (n + 2) := p2.other (by omega) f1 m2 h.kept hM (by omega)
  have q0 : Lm w3 0 e mk (.slice a n cap) n := by
    by_cases hM0 : 0 < M
    · exact hM.pre (by omega) hM0
    · have hn0 : n = 0 := by omega
      have hM1 : M = 0 := by omega
      subst hn0 hM1
      exact hM
  have s0 := hw.size
  have sa := ka.size
  have s1 := k1.size
  have sb := kb.size
  have s2 := k2.size
  refine ⟨⟨hm, n, hn, q0, q1, q2, h.lm⟩, (hw.trans ((ka.mono (by simp)).trans (k1.trans ((kb.mono (by simp)).trans (k2.trans h.kept))))), fun g hg => ?_⟩
  simp only [MB.blocks, List.mem_append] at hg
  rcases hg with ((hg | hg) | hg) | hg
  · exact .inl hg
  · exact (p1.where_ g hg).imp id (by omega)
  · exact (p2.where_ g hg).imp id (by omega)
  · exact (h.where_ g hg).imp id (by omega)

def OwnPost (w : World) (e0 : TypeId) (mk : List Value) (a : Option Addr) (n cap mark : Nat) : Ending → World → Prop := fun e w' =>
  ∃ (a1 a2 a3 : Option Addr) (c1 c2 c3 : Nat), e = .returned (.agg #[.slice a n cap, .slice a1 (n + 1) c1, .slice a2 (n + 2) c2, .slice a3 (n + 64) c3, .int .i64 mark]) ∧ OwnIn w e0 mk ⟨.slice a n cap, .slice a1 (n + 1) c1, .slice a2 (n + 2) c2, .slice a3 (n + 64) c3, mark⟩ w'

theorem markE_len (mk : Nat) : (markE mk).length = 3 := rfl

/-- The block of the mark, and that of what is returned, stay. -/
theorem stay2 {w w0 w' : World} {a : Option Addr} {n cap : Nat} {e : TypeId} {xs : List Value} {size : Nat} (hl : w.ownsRow 0 e size (.slice a n cap) n xs) {b : Nat} {o : Obj} (hb : w0.heap[b]? = some o) (hwb : w.heap.size ≤ b) (k : Kept (Value.slice a n cap).ownBlock.toList w0 w') : w'.heap[b]? = some o := by
  rw [k.block b (Array.getElem?_eq_some_iff.1 hb).1 (fun hm => by have := (hl.lt b (by simpa using hm)).2; omega)]
  exact hb

theorem rep_one (mk : List Value) (n : Nat) : rep mk (n + 1) = rep mk n ++ mk := by rw [rep_add]; simp [rep]
theorem rep_two (mk : List Value) (n : Nat) : rep mk (n + 2) = rep mk n ++ (mk ++ mk) := by rw [rep_add]; simp [rep]
theorem mark_one (mk : Nat) : ∀ u ∈ markE mk, u.oneCell' = true := by
  intro u hu; simp [markE] at hu; rcases hu with rfl | rfl | rfl <;> rfl
theorem mark_two (mk : Nat) : ∀ u ∈ markE mk ++ markE mk, u.oneCell' = true := by
  intro u hu; rcases List.mem_append.1 hu with h | h <;> exact mark_one mk u h

theorem Grow.kept0 {w2 w w' : World} {base : Nat} {e : TypeId} {mk : List Value} {a : Option Addr} {n cap i : Nat} {v3 : Value} (h : Grow w2 base e mk a n cap i v3 w) (k : Kept [] w w') : Grow w2 base e mk a n cap i v3 w' :=
  ⟨h.lm.kept k (by simp), h.kept.trans (k.mono (by simp)), h.at_.imp id fun x => ⟨x.1, x.2.kept k (by simp)⟩⟩
theorem OwnIn.past {w w3 w4 : World} {e : TypeId} {mk : List Value} {m : MB} (h : OwnIn w e mk m w3) {x : Nat} (k : Kept [x] w3 w4) (hx : w.heap.size ≤ x) (ht : NotT w3 e x) : OwnIn w e mk m w4 :=
  ⟨h.mark.kept k (fun y hy => .inl (by rw [List.mem_singleton.1 hy]; exact ht)), h.kept.step k (fun y hy => .inr (by rw [List.mem_singleton.1 hy]; exact hx)), h.far⟩

/-- The first loop: so many are marked. -/
structure Over (w wA : World) (mk : Nat) (a : Option Addr) (n cap k : Nat) (wr : World) : Prop where
  row : ∃ ys, ys.length = (n - k) * 3 ∧ wr.ownsRow 0 185 3 (.slice a n cap) n (rep (markE mk) k ++ ys)
  kept : Kept (Value.slice a n cap).ownBlock.toList wA wr

theorem Over.step {w wA : World} {mk : Nat} {g n cap k : Nat} {wr : World} (h : Over w wA mk (some ⟨g, 0, none⟩) n cap k wr) (hk : k < n) : Over w wA mk (some ⟨g, 0, none⟩) n cap (k + 1) (((wr.setCell ⟨g, k * 3, none⟩ (.string { data := #[] })).setCell ⟨g, k * 3 + 1, none⟩ (.int .i64 (-1000 - (mk : Int)))).setCell ⟨g, k * 3 + 2, none⟩ (.int .i64 0)) := by
  obtain ⟨ys, hy, hr⟩ := h.row
  have h1 := own_setCell (own_setCell (own_setCell hr (k * 3) (.string { data := #[] })) (k * 3 + 1) (.int .i64 (-1000 - (mk : Int)))) (k * 3 + 2) (.int .i64 0)
  have e := mark_set (.string { data := #[] }) (.int .i64 (-1000 - (mk : Int))) (.int .i64 0) k ys (by omega)
  refine ⟨⟨ys.drop 3, by rw [List.length_drop, hy]; omega, ?_⟩, ?_⟩
  · rw [show markE mk = [.string { data := #[] }, .int .i64 (-1000 - (mk : Int)), .int .i64 0] from rfl] at h1 ⊢
    rw [e] at h1
    exact h1
  · have hm : g ∈ (Value.slice (some ⟨g, 0, none⟩) n cap).ownBlock.toList := by simp [Value.ownBlock]
    exact ((h.kept.setCell (p := ⟨g, _, none⟩) (.inl hm) _).setCell (p := ⟨g, _, none⟩) (.inl hm) _).setCell (p := ⟨g, _, none⟩) (.inl hm) _

set_option maxRecDepth 100000 in
set_option maxHeartbeats 8000000 in
theorem ownStrata_any (w : World) (a : Option Addr) (n cap mk : Nat) (xs : List Value) (h : w.ownsRow 0 185 3 (.slice a n cap) n xs) (hn : n ≤ 1000) (hmk : mk ≤ 1000000000) :
    Calls Tryz.prog 137 #[.slice a n cap, .int .i64 mk] w (OwnPost w 185 (markE mk) a n cap mk) := by
  obtain ⟨i0, hi, hz0, hz1, hz2⟩ := info_parts infoStr
  have HL := hide h
  have h00 : Over w ((w.alloc (.cells #[.slice none 0 0, .slice none 0 0, .slice none 0 0, .slice none 0 0, .int .i64 0] 120)).alloc (.cells #[.string { data := #[] }, .int .i64 (-1000 - (mk : Int)), .int .i64 0] 185)) mk a n cap 0 ((w.alloc (.cells #[.slice none 0 0, .slice none 0 0, .slice none 0 0, .slice none 0 0, .int .i64 0] 120)).alloc (.cells #[.string { data := #[] }, .int .i64 (-1000 - (mk : Int)), .int .i64 0] 185)) := ⟨⟨xs, h.1, (h.alloc _).alloc _⟩, Kept.refl _ _⟩
  have HA := hide (((Kept.refl (Value.slice a n cap).ownBlock.toList w).alloc (.cells #[.slice none 0 0, .slice none 0 0, .slice none 0 0, .slice none 0 0, .int .i64 0] 120)).alloc (.cells #[.string { data := #[] }, .int .i64 (-1000 - (mk : Int)), .int .i64 0] 185))
  have HX : Hid (((w.alloc (.cells #[.slice none 0 0, .slice none 0 0, .slice none 0 0, .slice none 0 0, .int .i64 0] 120)).alloc (.cells #[.string { data := #[] }, .int .i64 (-1000 - (mk : Int)), .int .i64 0] 185)).heap[w.heap.size + 1]? = some (.cells #[.string { data := #[] }, .int .i64 (-1000 - (mk : Int)), .int .i64 0] 185 (0, 0))) := by
    have := heap_alloc_new (w.alloc (.cells #[.slice none 0 0, .slice none 0 0, .slice none 0 0, .slice none 0 0, .int .i64 0] 120)) (.cells #[.string { data := #[] }, .int .i64 (-1000 - (mk : Int)), .int .i64 0] 185)
    rw [World.size_alloc] at this
    exact this
  have HR : Hid (((w.alloc (.cells #[.slice none 0 0, .slice none 0 0, .slice none 0 0, .slice none 0 0, .int .i64 0] 120)).alloc (.cells #[.string { data := #[] }, .int .i64 (-1000 - (mk : Int)), .int .i64 0] 185)).heap[w.heap.size]? = some (.cells #[.slice none 0 0, .slice none 0 0, .slice none 0 0, .slice none 0 0, .int .i64 0] 120 (0, 0))) := by
    show _ = _
    rw [Below.heap_alloc _ _ _ (by simp)]
    exact heap_alloc_new w _
  clear h
  go_enter Tryz.func137, Tryz.ntmps137
  go_wp2_with fail
  generalize hwA : ((w.alloc (.cells #[.slice none 0 0, .slice none 0 0, .slice none 0 0, .slice none 0 0, .int .i64 0] 120)).alloc (.cells #[.string { data := #[] }, .int .i64 (-1000 - (mk : Int)), .int .i64 0] 185)) = wA at *
  clear hwA
  go_loopg [6] n (fun gg i wr => ∃ k : Nat, k ≤ n ∧ gg = n - k ∧ i = .int .i64 k ∧ Over w wA mk a n cap k wr)
  case atStart => exact ⟨0, Nat.zero_le _, rfl, rfl, h00⟩
  case round =>
    clear h00
    obtain ⟨k, hk, hgk, rfl, hov⟩ := hrel
    have hx := stay2 (unhide HL) (unhide HX) (by omega) hov.kept
    obtain ⟨x0, xf0⟩ := block_cells hx 0
    obtain ⟨x1, xf1⟩ := block_cells hx 1
    obtain ⟨x2, xf2⟩ := block_cells hx 2
    have hxlt := (Array.getElem?_eq_some_iff.1 hx).1
    by_cases hlk : k < n
    · obtain ⟨ys, hy, hrow⟩ := hov.row
      obtain ⟨g, cap', hv, _, hgl⟩ := hrow.form (by omega)
      injection hv with e1 e2 e3
      subst e1 e3
      have hgw := ((unhide HL).lt g rfl).2
      have hfz := own_unfrozen0 hrow
      have hcell := own_cells0 hrow
      obtain ⟨u0, c0⟩ := hcell (k * 3) (by omega)
      obtain ⟨u1, c1⟩ := hcell (k * 3 + 1) (by omega)
      obtain ⟨u2, c2⟩ := hcell (k * 3 + 2) (by omega)
      have hnc := row_cap0 hrow
      have HO := hide (hov.step hlk)
      have f0 := hfz (k * 3)
      have f1 := hfz (k * 3 + 1)
      have f2 := hfz (k * 3 + 2)
      have hne : ¬ g = w.heap.size + 1 := by omega
      have hne' : ¬ w.heap.size + 1 = g := by omega
      clear hrow hov hx hcell hfz hy
      go_wp2_with fail
      go_roundg (n - (k + 1))
      case measure => omega
      case rel => exact ⟨k + 1, by omega, rfl, by go_num, unhide HO⟩
    · have hkn : k = n := by omega
      subst hkn
      have hlm : Lm wr 0 185 (markE mk) (.slice a k cap) k := by
        obtain ⟨ys, hy, hrow⟩ := hov.row
        have : ys = [] := List.eq_nil_of_length_eq_zero (by rw [hy]; omega)
        subst this
        rw [List.append_nil] at hrow
        exact hrow
      have HLM := hide hlm
      have HKA := hide ((unhide HA).trans hov.kept)
      have hr0 := stay2 (unhide HL) (unhide HR) (by omega) hov.kept
      have HRW := hide hr0
      have HXW := hide hx
      clear hlm hov hx hr0 HA HX HR
      go_wp2_with (at_builtin; refine wpList_append_part _ rfl _ _ 118 rfl 0 185 i0 _ 3 32 Tryz.underlying118 hi hz0 hz1 hz2 rfl (by decide) a k cap (rep (markE mk) k) rfl ((unhide HLM).alloc _) ⟨wr.heap.size, 0, none⟩ 1 1 (markE mk) rfl rfl (World.news_of_block (heap_alloc_new wr _)) (mark_one mk) (by decide) (by unfold maxLen; omega) (by omega) (Nat.zero_le _) ?_)
      intro a1 c1 w1 hown1 hpart1
      have hm1 : Lm w1 0 185 (markE mk) (.slice a1 (k + 1) c1) (k + 1) := by unfold Lm; rw [rep_one]; exact hown1
      have kb0 := ((Kept.refl [] wr).alloc (Obj.cells #[.string { data := #[] }, .int .i64 (-1000 - (mk : Int)), .int .i64 0] 185))
      have hxa : (wr.alloc (Obj.cells #[.string { data := #[] }, .int .i64 (-1000 - (mk : Int)), .int .i64 0] 185)).heap[w.heap.size + 1]? = _ := (kb0.block _ hxlt (by simp)).trans (unhide HXW)
      have hra : (wr.alloc (Obj.cells #[.string { data := #[] }, .int .i64 (-1000 - (mk : Int)), .int .i64 0] 185)).heap[w.heap.size]? = _ := (kb0.block _ (by omega) (by simp)).trans (unhide HRW)
      have hx1 := stay2 (unhide HL) hxa (by omega) hpart1.kept
      have hr1 := stay2 (unhide HL) hra (by omega) hpart1.kept
      have hf1 := hpart1.first (by omega) ((unhide HLM).kept kb0 (by simp)) hm1
      have HM1 := hide hm1
      have HP1 := hide hpart1
      have HF1 := hide hf1
      have HX1 := hide hx1
      have HR1 := hide hr1
      have HKB0 := hide kb0
      have hxlt1 := (Array.getElem?_eq_some_iff.1 hx1).1
      obtain ⟨y0, yf0⟩ := block_cells hx1 0
      obtain ⟨y1, yf1⟩ := block_cells hx1 1
      obtain ⟨y2, yf2⟩ := block_cells hx1 2
      clear hown1 hpart1 hm1 hf1 hx1 hr1 hxa hra x0 x1 x2 xf0 xf1 xf2 kb0 HXW HRW
      go_wp2_with (at_builtin; refine wpList_append_part _ rfl _ _ 118 rfl 0 185 i0 _ 3 32 Tryz.underlying118 hi hz0 hz1 hz2 rfl (by decide) a k cap (rep (markE mk) k) rfl ((unhide HF1).alloc _) ⟨w1.heap.size, 0, none⟩ 2 2 (markE mk ++ markE mk) rfl rfl (World.news_of_block (heap_alloc_new w1 _)) (mark_two mk) (by decide) (by unfold maxLen; omega) (by omega) (Nat.zero_le _) ?_)
      intro a2 c2 w2 hown2 hpart2
      have hm2 : Lm w2 0 185 (markE mk) (.slice a2 (k + 2) c2) (k + 2) := by unfold Lm; rw [rep_two]; exact hown2
      have kb1 := ((Kept.refl [] w1).alloc (Obj.cells #[.string { data := #[] }, .int .i64 (-1000 - (mk : Int)), .int .i64 0, .string { data := #[] }, .int .i64 (-1000 - (mk : Int)), .int .i64 0] 185))
      have hxa : (w1.alloc (Obj.cells #[.string { data := #[] }, .int .i64 (-1000 - (mk : Int)), .int .i64 0, .string { data := #[] }, .int .i64 (-1000 - (mk : Int)), .int .i64 0] 185)).heap[w.heap.size + 1]? = _ := (kb1.block _ hxlt1 (by simp)).trans (unhide HX1)
      have hra : (w1.alloc (Obj.cells #[.string { data := #[] }, .int .i64 (-1000 - (mk : Int)), .int .i64 0, .string { data := #[] }, .int .i64 (-1000 - (mk : Int)), .int .i64 0] 185)).heap[w.heap.size]? = _ := (kb1.block _ (by omega) (by simp)).trans (unhide HR1)
      have hx2 := stay2 (unhide HL) hxa (by omega) hpart2.kept
      have hr2 := stay2 (unhide HL) hra (by omega) hpart2.kept
      have hf2 := hpart2.first (by omega) ((unhide HF1).kept kb1 (by simp)) hm2
      have HM2 := hide hm2
      have HP2 := hide hpart2
      have HX2 := hide hx2
      have HR2 := hide hr2
      have HKB1 := hide kb1
      have HF2 := hide hf2
      have g0 : Grow w2 0 185 (markE mk) a k cap 0 (.slice a k cap) w2 := ⟨hf2, Kept.refl _ _, .inl rfl⟩
      clear hown2 hpart2 hm2 hx2 hr2 hxa hra y0 y1 y2 yf0 yf1 yf2 kb1 hf2 HX1 HR1 hxlt hxlt1
      go_wp2_with fail
      have HOW := hide (fun (a3 : Option Addr) (c3 : Nat) (w3 : World) (hg : Grow w2 0 185 (markE mk) a k cap 64 (.slice a3 (k + 64) c3) w3) => OwnIn.of (unhide HKA) (unhide HLM) (unhide HKB0) (unhide HKB1) (unhide HP1) (unhide HM1) (unhide HP2) (unhide HM2) hg hn hmk)
      clear HKA HLM HKB0 HKB1 HP1 HM1 HP2 HM2
      go_loopg [9, 10] 64 (fun gg v3 i wj => ∃ (j : Nat) (a3 : Option Addr) (c3 : Nat), j ≤ 64 ∧ gg = 64 - j ∧ v3 = .slice a3 (k + j) c3 ∧ i = .int .i64 j ∧ Grow w2 0 185 (markE mk) a k cap j (.slice a3 (k + j) c3) wj)
      case atStart => exact ⟨0, a, cap, Nat.zero_le _, rfl, rfl, rfl, g0⟩
      case round =>
        clear g0
        obtain ⟨j, a3, c3, hj, hgj, rfl, rfl, hgr⟩ := hrel
        have hx := stay2 (unhide HL) (unhide HX2) (by omega) hgr.kept
        have hr := stay2 (unhide HL) (unhide HR2) (by omega) hgr.kept
        have hxlt := (Array.getElem?_eq_some_iff.1 hx).1
        have HG := hide hgr
        by_cases hlj : j < 64
        · obtain ⟨y0, yf0⟩ := block_cells hx 0
          obtain ⟨y1, yf1⟩ := block_cells hx 1
          obtain ⟨y2, yf2⟩ := block_cells hx 2
          clear hx hr hgr
          go_wp2_with (at_builtin; refine wpList_append_part _ rfl _ _ 118 rfl 0 185 i0 _ 3 32 Tryz.underlying118 hi hz0 hz1 hz2 rfl (by decide) a3 (k + j) c3 (rep (markE mk) (k + j)) rfl ((unhide HG).lm.alloc _) ⟨wr.heap.size, 0, none⟩ 1 1 (markE mk) rfl rfl (World.news_of_block (heap_alloc_new wr _)) (mark_one mk) (by decide) (by unfold maxLen; omega) (by omega) (Nat.zero_le _) ?_)
          intro a4 c4 w4 hown4 hpart4
          have hm4 : Lm w4 0 185 (markE mk) (.slice a4 (k + j + 1) c4) (k + j + 1) := by unfold Lm; rw [rep_one]; exact hown4
          have HG4 := hide (((unhide HG).kept0 ((Kept.refl [] wr).alloc _)).one (unhide HF2) hpart4 hm4)
          clear hown4 hpart4 hm4 y0 y1 y2 yf0 yf1 yf2
          go_wp2_with fail
          go_roundg (64 - (j + 1))
          case measure => omega
          case rel => exact ⟨j + 1, a4, c4, by omega, rfl, rfl, by go_num, unhide HG4⟩
        · have hj64 : j = 64 := by omega
          subst hj64
          have HO := hide (unhide HOW a3 c3 wr hgr)
          have HN := hide (notT_of hr (show (120 : TypeId) ≠ 185 by decide))
          obtain ⟨r0, rf0⟩ := block_cells hr 0
          obtain ⟨r1, rf1⟩ := block_cells hr 1
          obtain ⟨r2, rf2⟩ := block_cells hr 2
          obtain ⟨r3, rf3⟩ := block_cells hr 3
          obtain ⟨r4, rf4⟩ := block_cells hr 4
          clear hx hr hgr HOW HL
          go_wp2_with fail
          refine bodyPost_ret (v := .agg #[.slice a k cap, .slice a1 (k + 1) c1, .slice a2 (k + 2) c2, .slice a3 (k + 64) c3, .int .i64 mk]) (by simp [results, Tryz.results137, go_sem, r0, r1, r2, r3, r4]) rfl ?_
          refine ⟨a1, a2, a3, c1, c2, c3, rfl, (unhide HO).past (x := w.heap.size) ?_ (Nat.le_refl _) (unhide HN)⟩
          have hm : w.heap.size ∈ [w.heap.size] := List.mem_singleton.2 rfl
          exact (((((Kept.refl _ wr).setCell (p := ⟨w.heap.size, 0, none⟩) (.inl hm) _).setCell (p := ⟨w.heap.size, 1, none⟩) (.inl hm) _).setCell (p := ⟨w.heap.size, 2, none⟩) (.inl hm) _).setCell (p := ⟨w.heap.size, 3, none⟩) (.inl hm) _).setCell (p := ⟨w.heap.size, 4, none⟩) (.inl hm) _
end Go.Proofs.YtldkpahaocjdpaaGreat
