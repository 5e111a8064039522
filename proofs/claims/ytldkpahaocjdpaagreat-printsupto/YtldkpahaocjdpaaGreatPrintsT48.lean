/-
  The law's plays: true at every script whose steps are each answered as they should be.
-/
import Derived.Test.YtldkpahaocjdpaaGreatPrintsT47
namespace Go.Proofs.YtldkpahaocjdpaaGreat
open Go.RowKit Go.Maps

/-- Bounds of a step's numbers and texts. -/
structure OpOk (o : OpV) : Prop where
  a : -9223372036854775808 ≤ o.a ∧ o.a ≤ 9223372036854775807
  b : -9223372036854775808 ≤ o.b ∧ o.b ≤ 9223372036854775807
  s : o.s.size ≤ maxLen
  t : o.t.size ≤ maxLen
  u : o.u.size ≤ maxLen

def OpV.agg (o : OpV) : Value := .agg #[.int .i64 o.kd, .int .i64 o.a, .int .i64 o.b, .string o.s, .string o.t, .string o.u, .slice o.at_ o.nt o.ct]

/-- A step that is answered as it should be, whatever the script has come to. -/
def StepOk (w0 : World) (o : OpV) : Prop := ∀ (w : World) (b : Nat) (psv bv tv sv : Value) (es : List PE) (mb mt ms : List MB), Below w0.heap.size w0 w → LW w b psv bv tv sv es mb mt ms → es.length ≤ 10000000 → mb.length ≤ 10000000 → mt.length ≤ 10000000 → ms.length ≤ 10000000 →
  Calls Tryz.prog 32 #[.pointer (some ⟨b, 0, none⟩), o.agg] w (StpPost w b psv bv tv sv es mb mt ms)

/-- The book can be looked at, whatever stands in it. -/
def LooksOk : Prop := ∀ (w : World) (b : Nat) (psv bv tv sv : Value) (es : List PE) (mb mt ms : List MB), LW w b psv bv tv sv es mb mt ms → mb.length ≤ 10000000 → mt.length ≤ 10000000 → ms.length ≤ 10000000 → Calls Tryz.prog 33 #[.pointer (some ⟨b, 1, none⟩)] w (StillPost w)

theorem any_take {ks : List Int} {j : Nat} (hj : j < ks.length) (f : Int → Bool) : (ks.take (j + 1)).any f = ((ks.take j).any f || f ks[j]) := by
  rw [List.take_succ_eq_append_getElem hj, List.any_append]
  simp only [List.any_cons, List.any_nil, Bool.or_false]

/-- What the script has come to. -/
structure PlayIn (w0 : World) (w : World) (b k : Nat) (psv bv tv sv : Value) (es : List PE) (mb mt ms : List MB) (wr : World) : Prop where
  lw : LW wr b psv bv tv sv es mb mt ms
  below : Below w.heap.size w wr
  base : Below w0.heap.size w0 wr
  e : es.length ≤ k + 2
  b : mb.length ≤ 2 * k + 2
  t : mt.length ≤ 2 * k + 2
  s : ms.length ≤ 2 * k + 2
def PlayAt (w0 : World) (w : World) (b k : Nat) (wr : World) : Prop := ∃ psv bv tv sv es mb mt ms, PlayIn w0 w b k psv bv tv sv es mb mt ms wr

theorem PlayAt.drawn {w0 w wr : World} {b k : Nat} (h : PlayAt w0 w b k wr) (n : Nat) : PlayAt w0 w b k (wr.drewN n) := by
  obtain ⟨psv, bv, tv, sv, es, mb, mt, ms, h⟩ := h
  exact ⟨psv, bv, tv, sv, es, mb, mt, ms, h.lw.below (below_drewN (Below.refl _ _) _), below_drewN h.below _, below_drewN h.base _, h.e, h.b, h.t, h.s⟩
theorem PlayAt.next {w0 w wr : World} {b k : Nat} (h : PlayAt w0 w b k wr) : PlayAt w0 w b (k + 1) wr := by
  obtain ⟨psv, bv, tv, sv, es, mb, mt, ms, h⟩ := h
  exact ⟨psv, bv, tv, sv, es, mb, mt, ms, h.lw, h.below, h.base, by have := h.e; omega, by have := h.b; omega, by have := h.t; omega, by have := h.s; omega⟩

theorem PlayIn.step {w0 w wr w' : World} {b k k' : Nat} {psv bv tv sv : Value} {es : List PE} {mb mt ms : List MB} {e : Ending} (h : PlayIn w0 w b k psv bv tv sv es mb mt ms wr) (hw : w0.heap.size ≤ w.heap.size) (hs : StpPost wr b psv bv tv sv es mb mt ms e w') (hb : w.heap.size ≤ b) (hk : es.length ≤ k' + 1 ∧ mb.length ≤ 2 * k' ∧ mt.length ≤ 2 * k' ∧ ms.length ≤ 2 * k') : e = .returned (.bool true) ∧ PlayAt w0 w b k' w' := by
  obtain ⟨rfl, psv', bv', tv', sv', es', mb', mt', ms', hL, l0, l1, l2, l3, l4, hK⟩ := hs
  have hsz := h.below.size
  have hge : ∀ x ∈ chg b psv bv tv sv, w.heap.size ≤ x := fun x hx => by have := (h.lw.chg_lt x hx).1; omega
  exact ⟨rfl, psv', bv', tv', sv', es', mb', mt', ms', hL, below_kept h.below hK hsz hge, below_kept h.base hK (by omega) (fun x hx => by have := hge x hx; omega), by omega, by omega, by omega, by omega⟩

theorem PlayAt.still {w0 w wr w' : World} {b k : Nat} {e : Ending} (h : PlayAt w0 w b k wr) (hw : w0.heap.size ≤ w.heap.size) (hs : StillPost wr e w') : e = .returned (.bool true) ∧ PlayAt w0 w b k w' := by
  obtain ⟨psv, bv, tv, sv, es, mb, mt, ms, h⟩ := h
  obtain ⟨rfl, hB⟩ := hs
  have hsz := h.below.size
  exact ⟨rfl, psv, bv, tv, sv, es, mb, mt, ms, h.lw.below hB, h.below.trans (hB.mono hsz), h.base.trans (hB.mono (by omega)), h.e, h.b, h.t, h.s⟩

set_option maxRecDepth 100000 in
set_option maxHeartbeats 8000000 in
theorem plays_gen (w0 w : World) (hw0 : Below w0.heap.size w0 w) (kd a b : Int) (s t u : ByteArray) (at_ : Option Addr) (nt ct : Nat) (sa : Option Addr) (len cap : Nat) (O : Nat → OpV) (kb : Nat) (ks : List Int) (h : Scr w sa len O) (hl : len ≤ 1048576) (hks : ∀ j (hj : j < ks.length), w.cell? ⟨kb, j, none⟩ = some (.int .i64 ks[j])) (hkl : ks.length ≤ 100) (hkb : kb < w.heap.size)
    (hA : StepOk w0 ⟨kd, a, b, s, t, u, at_, nt, ct⟩) (hO : ∀ i, i < len → (O i).kd ∈ ks → StepOk w0 (O i)) (hlook : LooksOk) :
    Calls Tryz.prog 15 #[.agg #[.int .i64 kd, .int .i64 a, .int .i64 b, .string s, .string t, .string u, .slice at_ nt ct], .slice sa len cap, .slice (some ⟨kb, 0, none⟩) ks.length ks.length] w (StillPost w) := by
  have b0 := ((Below.refl w.heap.size w).alloc (Nat.le_refl _) (.cells #[.int .i64 kd, .int .i64 a, .int .i64 b, .string s, .string t, .string u, .slice at_ nt ct] 26)).alloc (by simp) (.cells #[.slice none 0 0, .slice none 0 0, .slice none 0 0, .slice none 0 0] 69)
  have hW0 : LW ((w.alloc (.cells #[.int .i64 kd, .int .i64 a, .int .i64 b, .string s, .string t, .string u, .slice at_ nt ct] 26)).alloc (.cells #[.slice none 0 0, .slice none 0 0, .slice none 0 0, .slice none 0 0] 69)) (w.heap.size + 1) (.slice none 0 0) (.slice none 0 0) (.slice none 0 0) (.slice none 0 0) [] [] [] [] := by
    refine LW.start _ _ ?_
    have := heap_alloc_new (w.alloc (.cells #[.int .i64 kd, .int .i64 a, .int .i64 b, .string s, .string t, .string u, .slice at_ nt ct] 26)) (.cells #[.slice none 0 0, .slice none 0 0, .slice none 0 0, .slice none 0 0] 69)
    rw [World.size_alloc] at this
    exact this
  have hbx : ((w.alloc (.cells #[.int .i64 kd, .int .i64 a, .int .i64 b, .string s, .string t, .string u, .slice at_ nt ct] 26)).alloc (.cells #[.slice none 0 0, .slice none 0 0, .slice none 0 0, .slice none 0 0] 69)).heap[w.heap.size]? = some (.cells #[.int .i64 kd, .int .i64 a, .int .i64 b, .string s, .string t, .string u, .slice at_ nt ct] 26 (0, 0)) := by
    rw [Below.heap_alloc _ _ _ (by simp)]
    exact heap_alloc_new w _
  have hS := stp_load ((w.alloc (.cells #[.int .i64 kd, .int .i64 a, .int .i64 b, .string s, .string t, .string u, .slice at_ nt ct] 26)).alloc (.cells #[.slice none 0 0, .slice none 0 0, .slice none 0 0, .slice none 0 0] 69)) (w.heap.size + 1) (.slice none 0 0) (.slice none 0 0) (.slice none 0 0) (.slice none 0 0) [] [] [] [] 0 0 exText { data := #[] } { data := #[] } none 0 0 hW0 ex_size (by simp)
  unfold exText at hS
  have hP0 : PlayIn w0 w (w.heap.size + 1) 0 (.slice none 0 0) (.slice none 0 0) (.slice none 0 0) (.slice none 0 0) [] [] [] [] ((w.alloc (.cells #[.int .i64 kd, .int .i64 a, .int .i64 b, .string s, .string t, .string u, .slice at_ nt ct] 26)).alloc (.cells #[.slice none 0 0, .slice none 0 0, .slice none 0 0, .slice none 0 0] 69)) := ⟨hW0, b0, hw0.trans (b0.mono hw0.size), by simp, by simp, by simp, by simp⟩
  have HP0 := hide hP0
  have hw0s := hw0.size
  clear hW0 hP0
  go_enter Tryz.func15, Tryz.ntmps15
  go_wp2_with fail
  refine hS.mono ?_
  rintro e w1 hLd
  obtain ⟨rfl, psv1, es1, hW1, -, -, hone, hK1⟩ := hLd
  have hok : (refLoad { data := #[101, 100, 103, 101, 40, 97, 44, 98, 41, 46, 32, 101, 100, 103, 101, 40, 98, 44, 99, 41, 46, 32, 112, 97, 116, 104, 40, 88, 44, 89, 41, 32, 58, 45, 32, 101, 100, 103, 101, 40, 88, 44, 89, 41, 46, 32, 112, 97, 116, 104, 40, 88, 44, 90, 41, 32, 58, 45, 32, 101, 100, 103, 101, 40, 88, 44, 89, 41, 44, 32, 112, 97, 116, 104, 40, 89, 44, 90, 41, 46, 32, 102, 97, 114, 40, 88, 41, 32, 58, 45, 32, 112, 97, 116, 104, 40, 97, 44, 88, 41, 44, 32, 110, 111, 116, 32, 101, 100, 103, 101, 40, 97, 44, 88, 41, 46] }).1 = true := ex_ok
  have hlen1 : es1.length = 1 := by simpa using hone hok
  have hB1 : Below w.heap.size w w1 := below_kept b0 hK1 (by simp; omega) (by simp [Value.ownBlock])
  have hBB1 : Below w0.heap.size w0 w1 := hw0.trans (hB1.mono hw0s)
  have hbx1 := cells_keptT hbx hK1 (by simp [Value.ownBlock])
  have hz1 := hK1.size
  simp at hz1
  obtain ⟨ap1, cp1, rfl⟩ := own_slice hW1.row
  have hP1 : PlayIn w0 w (w.heap.size + 1) 0 (.slice ap1 es1.length cp1) (.slice none 0 0) (.slice none 0 0) (.slice none 0 0) es1 [] [] [] w1 := ⟨hW1, hB1, hBB1, by omega, by simp, by simp, by simp⟩
  have hA1 := hA w1 (w.heap.size + 1) _ _ _ _ es1 [] [] [] hBB1 hW1 (by omega) (by simp) (by simp) (by simp)
  unfold OpV.agg at hA1
  have hblk1 := hW1.blk
  rw [hlen1] at hblk1
  obtain ⟨p0, pf0⟩ := block_cells hblk1 0
  obtain ⟨y0, yf0⟩ := block_cells hbx1 0
  obtain ⟨y1, yf1⟩ := block_cells hbx1 1
  obtain ⟨y2, yf2⟩ := block_cells hbx1 2
  obtain ⟨y3, yf3⟩ := block_cells hbx1 3
  obtain ⟨y4, yf4⟩ := block_cells hbx1 4
  obtain ⟨y5, yf5⟩ := block_cells hbx1 5
  obtain ⟨y6, yf6⟩ := block_cells hbx1 6
  have HP1 := hide hP1
  have HA1 := hide hA1
  have HN1 := hide hlen1
  clear hS hbx hK1 b0 hok hP1 hA1 hW1 hblk1 hbx1 hB1 hBB1 hone hlen1 HP0
  go_wp2_with fail
  refine (unhide HA1).mono ?_
  rintro e w2 hst
  obtain ⟨rfl, hP2⟩ := (unhide HP1).step (k' := 0) hw0s hst (by omega) ⟨by rw [unhide HN1]; exact Nat.le_refl _, Nat.le_refl _, Nat.le_refl _, Nat.le_refl _⟩
  have HP2 := hide hP2
  clear hst hP2 HP1 HA1 HN1 p0 pf0 y0 y1 y2 y3 y4 y5 y6 yf0 yf1 yf2 yf3 yf4 yf5 yf6 hz1
  have HS := hide h
  have HKS := hide hks
  have HO := hide hO
  clear h hks hO hA hw0
  go_wp2_with fail
  go_loopg [9] len (fun gg i wr => ∃ k : Nat, k ≤ len ∧ gg = len - k ∧ i = .int .i64 k ∧ PlayAt w0 w (w.heap.size + 1) k wr)
  case atStart => exact ⟨0, Nat.zero_le _, rfl, rfl, unhide HP2⟩
  case round =>
    clear HP2
    obtain ⟨k, hk, hgk, rfl, hP⟩ := hrel
    by_cases hlk : k < len
    · obtain ⟨g, off, rfl, hgl0, _⟩ := (unhide HS).el k hlk
      have hli : (k : Int) < len := by omega
      have HP := hide hP
      clear hP
      go_wp2_with fail
      go_loopg [10, 11] ks.length (fun gg v i wi => ∃ j : Nat, j ≤ ks.length ∧ gg = ks.length - j ∧ i = .int .i64 j ∧ v = .bool ((ks.take j).any (fun x => (O k).kd == x)) ∧ PlayAt w0 w (w.heap.size + 1) k wi)
      case atStart => exact ⟨0, Nat.zero_le _, rfl, rfl, rfl, unhide HP⟩
      case round =>
        clear HP
        obtain ⟨j, hj, hgj, rfl, rfl, hPA⟩ := hrel
        obtain ⟨psv, bv, tv, sv, es, mb, mt, ms, hP⟩ := hPA
        have hB := hP.below
        have hW := hP.lw
        obtain ⟨g', off', hga, hgl, c0, c1, c2, c3, c4, c5, c6, hs8⟩ := ((unhide HS).below hB).el k hlk
        injection hga with hga
        injection hga with h1 h2 _
        subst h1 h2
        have hkz := hB.size
        by_cases hjk : j < ks.length
        · have hkc : wr.cell? ⟨kb, j, none⟩ = some (.int .i64 ks[j]) := (hB.cell (by simpa using hkb)).trans (unhide HKS j hjk)
          have hji : (j : Int) < ks.length := by omega
          have hat := any_take hjk (fun x => (O k).kd == x)
          have HPA : Hid (PlayAt w0 w (w.heap.size + 1) k wr) := hide ⟨psv, bv, tv, sv, es, mb, mt, ms, hP⟩
          have HAT := hide hat
          clear hat hP hB hW
          generalize (ks.take j).any (fun x => (O k).kd == x) = v0 at *
          generalize ks[j] = x0 at *
          cases v0
          · go_wp2_with fail
            go_quiet (fail)
            go_wp2_with fail
            go_roundg (ks.length - (j + 1))
            case measure => omega
            case rel => exact ⟨j + 1, by omega, rfl, by go_num, by rw [unhide HAT]; rfl, (unhide HPA).drawn _⟩
          · go_wp2_with fail
            go_quiet (fail)
            go_wp2_with fail
            go_roundg (ks.length - (j + 1))
            case measure => omega
            case rel => exact ⟨j + 1, by omega, rfl, by go_num, by rw [unhide HAT]; rfl, (unhide HPA).drawn _⟩
        · have hje : j = ks.length := by omega
          have hjn : ¬ ((j : Int) < ks.length) := by omega
          have hme : (ks.take j).any (fun x => (O k).kd == x) = true → (O k).kd ∈ ks := fun he => by
            rw [hje, List.take_length, List.any_eq_true] at he
            obtain ⟨x, hx, he⟩ := he
            rw [beq_iff_eq.1 he]; exact hx
          have HME := hide hme
          have HP := hide hP
          clear hme hP hje hgj hj
          generalize (ks.take j).any (fun x => (O k).kd == x) = v0 at *
          cases v0
          · have HPN := hide (PlayAt.next ⟨psv, bv, tv, sv, es, mb, mt, ms, unhide HP⟩)
            clear HP hB hW HME
            go_wp2_with fail
            go_roundg (len - (k + 1))
            case measure => omega
            case rel => exact ⟨k + 1, by omega, rfl, by go_num, unhide HPN⟩
          · have hst := unhide HO k hlk (unhide HME rfl) wr (w.heap.size + 1) psv bv tv sv es mb mt ms (unhide HP).base hW (by have := (unhide HP).e; omega) (by have := (unhide HP).b; omega) (by have := (unhide HP).t; omega) (by have := (unhide HP).s; omega)
            unfold OpV.agg at hst
            have HST := hide hst
            clear hst hB hW
            go_wp2_with fail
            refine (unhide HST).mono ?_
            rintro e w3 hst
            obtain ⟨rfl, hP3⟩ := (unhide HP).step (k' := k + 1) hw0s hst (by omega) ⟨by have := (unhide HP).e; omega, by have := (unhide HP).b; omega, by have := (unhide HP).t; omega, by have := (unhide HP).s; omega⟩
            have HP3 := hide hP3
            obtain ⟨psv3, bv3, tv3, sv3, es3, mb3, mt3, ms3, hP3'⟩ := hP3
            have HL := hide (hlook w3 (w.heap.size + 1) psv3 bv3 tv3 sv3 es3 mb3 mt3 ms3 hP3'.lw (by have := hP3'.b; omega) (by have := hP3'.t; omega) (by have := hP3'.s; omega))
            clear hst hP3' HST HP c0 c1 c2 c3 c4 c5 c6 hkz
            go_wp2_with fail
            refine (unhide HL).mono ?_
            rintro e w4 hst4
            obtain ⟨rfl, hP4⟩ := (unhide HP3).still hw0s hst4
            have HP4 := hide hP4
            clear hst4 hP4 HP3 HL
            go_wp2_with fail
            go_roundg (len - (k + 1))
            case measure => omega
            case rel => exact ⟨k + 1, by omega, rfl, by go_num, unhide HP4⟩
    · obtain ⟨psv, bv, tv, sv, es, mb, mt, ms, hP⟩ := hP
      have HB := hide hP.below
      clear hP
      go_wp2_with fail
      go_ret
      exact ⟨rfl, unhide HB⟩
end Go.Proofs.YtldkpahaocjdpaaGreat
