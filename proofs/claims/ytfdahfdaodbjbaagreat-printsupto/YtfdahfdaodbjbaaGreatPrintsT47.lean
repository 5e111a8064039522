/-
  The law's load, with the programs' memory.
  The law's pick; what is in a list of strata that its owner has marked.
  The law's step: at a Load, and at a call of a program.
  The law's step at a Load, and at a step of no kind; a book in which nothing stands.
-/
import Derived.Test.YtfdahfdaodbjbaaGreatPrintsT39
import Derived.Test.YtfdahfdaodbjbaaGreatPrintsT36
import Derived.BigQuiet
import Derived.Deep.QuietTactic
import Derived.Test.YtfdahfdaodbjbaaGreatPrintsT46
import Derived.StillTailTactics
import Derived.Test.YtfdahfdaodbjbaaGreatPrintsT38
namespace Go.Proofs.YtfdahfdaodbjbaaGreat
open Go.RowKit

def Ld2Post (s : ByteArray) (w : World) (b : Nat) (psv bv tv sv : Value) (es : List PE) (mb mt ms : List MB) (e : Ending) (w' : World) : Prop := e = .returned (.bool true) ∧ ∃ psv' es', LW w' b psv' bv tv sv es' mb mt ms ∧ es.length ≤ es'.length ∧ es'.length ≤ es.length + 1 ∧ ((refLoad s).1 = true → es'.length = es.length + 1) ∧ Kept (chg b psv bv tv sv) w w'

theorem blk_ge {g H n c : Nat} (e : g = H) : ∀ g', (Value.slice (some ⟨g, 0, none⟩) n c).ownBlock = some g' → H ≤ g' := fun g' e' => by
  have : g = g' := by simpa [Value.ownBlock] using e'
  omega
theorem ProgIn.low {w : World} {lo lo' b : Nat} {rs : List PR} (h : ProgIn w lo b rs) (hl : lo' ≤ lo) : ProgIn w lo' b rs := by
  obtain ⟨a, c, hb, hlo, hr⟩ := h
  exact ⟨a, c, hb, by omega, hr.low hl⟩
theorem ProgIn.below {w w' : World} {lo b : Nat} {rs : List PR} (h : ProgIn w lo b rs) (k : Below w.heap.size w w') : ProgIn w' lo b rs := by
  obtain ⟨a, c, hb, hlo, hr⟩ := h
  exact ⟨a, c, (k.block b (Array.getElem?_eq_some_iff.1 hb).1).trans hb, hlo, hr.below k⟩

theorem entF_of {s : ByteArray} {w w0 w1 w2 : World} {pb : Nat} {rs : List PR} {ya : Addr} (hok : (refLoad s).1 = true) (hx : ProgIn w1 w0.heap.size pb rs) (hr : rs.map (·.R) = (pparsed s).2.2.1) (h0 : w.heap.size ≤ w0.heap.size) (h1 : w0.heap.size ≤ w1.heap.size) (hb : Below w1.heap.size w1 w2) (hy : RKept s w1 (some ya) w2) : ∃ yb, ya = ⟨yb, 0, none⟩ ∧ EntF s pb yb w2 w.heap.size := by
  obtain ⟨o, rs', ps, rv, pv, tv, gs, S, e, h2, h3, h4, h5, h6, h7, h8, h9, h10⟩ := hy ya rfl
  exact ⟨o, e, hok, ⟨rs, (hx.low h0).below hb, hr⟩, rs', ps, rv, pv, tv, gs, S, by omega, h3, h4, h5, h6, h7, h8, h9, h10⟩

set_option maxRecDepth 100000 in
set_option maxHeartbeats 8000000 in
theorem law_load2 (w : World) (b : Nat) (psv bv tv sv : Value) (es : List PE) (mb mt ms : List MB) (kd a bb : Int) (s t u : ByteArray) (at_ : Option Addr) (nt ct : Nat) (h : LW w b psv bv tv sv es mb mt ms) (hs : s.size ≤ maxLen) (hn : (es.length + 1) * 32 ≤ 140737488355328) :
    Calls Tryz.prog 10 #[.pointer (some ⟨b, 0, none⟩), .agg #[.int .i64 kd, .int .i64 a, .int .i64 bb, .string s, .string t, .string u, .slice at_ nt ct]] w (Ld2Post s w b psv bv tv sv es mb mt ms) := by
  obtain ⟨i0, hi, hz0, hz1, hz2⟩ := info_parts infoProg
  have b0 := (Below.refl w.heap.size w).alloc (Nat.le_refl _) (.cells #[.int .i64 kd, .int .i64 a, .int .i64 bb, .string s, .string t, .string u, .slice at_ nt ct] 26)
  have hbx : (w.alloc (.cells #[.int .i64 kd, .int .i64 a, .int .i64 bb, .string s, .string t, .string u, .slice at_ nt ct] 26)).heap[w.heap.size]? = _ := heap_alloc_new w _
  have hP := pload_any (w.alloc (.cells #[.int .i64 kd, .int .i64 a, .int .i64 bb, .string s, .string t, .string u, .slice at_ nt ct] 26)) s hs
  rw [load_eq] at hP
  have hlt := h.lt
  go_enter Tryz.func10, Tryz.ntmps10
  go_wp2_with fail
  refine hP.mono ?_
  rintro e w1 ⟨hb1, hno, hyes⟩
  have hbx1 := (hb1.block w.heap.size (by simp)).trans hbx
  obtain ⟨x3, xf3⟩ := block_cells hbx1 3
  have hz1' := hb1.size
  have hz1'' := hz1'
  rw [World.size_alloc] at hz1'
  have hB1 := b0.trans (hb1.mono (by simp))
  clear hP hbx hb1 b0
  cases hr : (refLoad s).1 with
  | false =>
    have he := hno hr
    subst he
    clear hno hyes hz1''
    go_wp2_with fail
    refine (refLoad_any s w1).mono ?_
    rintro e w2 ⟨y, rfl, hy, hb2⟩
    have hyn : y = none := by rw [hr] at hy; cases y with | none => rfl | some _ => cases hy
    subst hyn
    have HB := hide (hB1.trans (hb2.mono (by omega)))
    have HH := hide h
    clear hb2 hB1 x3 xf3 hy hbx1 h
    go_wp2_with fail
    go_ret
    exact ⟨rfl, psv, es, (unhide HH).below (unhide HB), Nat.le_refl _, Nat.le_succ _, (fun h => by rw [hr] at h; cases h), (Kept.refl _ _).of_below (unhide HB)⟩
  | true =>
    obtain ⟨pb, rs, he, hpi, hrs⟩ := hyes hr
    subst he
    have HPI := hide hpi
    have HRS := hide hrs
    have HZ1 := hide hz1''
    clear hno hyes hpi hrs hz1''
    go_wp2_with fail
    refine (refLoad_full s w1).mono ?_
    rintro e w2 ⟨y, rfl, hy, hb2, hrk⟩
    obtain ⟨ya, rfl⟩ : ∃ ya, y = some ya := by rw [hr] at hy; cases y with | none => cases hy | some z => exact ⟨z, rfl⟩
    obtain ⟨yb, rfl, hent⟩ := entF_of (w := w) hr (unhide HPI) (unhide HRS) (by simp) (unhide HZ1) hb2 hrk
    have hbx2 := (hb2.block w.heap.size (by omega)).trans hbx1
    have hz2' := hb2.size
    have hB2 := hB1.trans (hb2.mono (by omega))
    have h2 := h.below hB2
    have hrow := h2.row
    obtain ⟨ap, cp, rfl⟩ := own_slice hrow
    have hblk := h2.blk
    obtain ⟨y3, yf3⟩ := block_cells hbx2 3
    obtain ⟨p0, pf0⟩ := block_cells hblk 0
    have hblt := h2.lt
    have s1 : Hid (((w2.alloc (Obj.cells #[.pointer (some ⟨pb, 0, none⟩), .pointer (some ⟨yb, 0, none⟩), .string s] 44)).drew).ownsRow (b + 1) 44 3 (.slice ap es.length cp) es.length (es.flatMap PE.cells)) := hrow.alloc _
    have s2 : Hid (∀ j u, ([Value.pointer (some ⟨pb, 0, none⟩), .pointer (some ⟨yb, 0, none⟩), .string s] : List Value)[j]? = some u → ((w2.alloc (Obj.cells #[.pointer (some ⟨pb, 0, none⟩), .pointer (some ⟨yb, 0, none⟩), .string s] 44)).drew).cell? ((⟨w2.heap.size, 0, none⟩ : Addr).add j) = some u) := World.news_of_block (heap_alloc_new w2 _)
    have s3 : Hid (∀ u ∈ ([Value.pointer (some ⟨pb, 0, none⟩), .pointer (some ⟨yb, 0, none⟩), .string s] : List Value), u.oneCell' = true) := by
      show ∀ u ∈ _, _
      intro u hu; simp at hu; rcases hu with rfl | rfl | rfl <;> rfl
    have s4 : Hid (es.length + 1 ≤ maxLen) := by show _ ≤ _; unfold maxLen; omega
    have s5 : Hid ((es.length + 1) * 32 ≤ 140737488355328) := hn
    have s6 : Hid (b + 1 ≤ ((w2.alloc (Obj.cells #[.pointer (some ⟨pb, 0, none⟩), .pointer (some ⟨yb, 0, none⟩), .string s] 44)).drew).heap.size) := by show _ ≤ _; simp; omega
    have s8 := hide (fun (w5 : World) (g cap : Nat) (hg : ((w2.alloc (Obj.cells #[.pointer (some ⟨pb, 0, none⟩), .pointer (some ⟨yb, 0, none⟩), .string s] 44)).drew).grownBy w5 (Value.slice ap es.length cp).ownBlock) (hown : w5.ownsRow (b + 1) 44 3 (.slice (some ⟨g, 0, none⟩) (es.length + 1) cap) (es.length + 1) (es.flatMap PE.cells ++ [Value.pointer (some ⟨pb, 0, none⟩), .pointer (some ⟨yb, 0, none⟩), .string s])) (hat : (Value.slice ap es.length cp).ownBlock = some g ∨ g = ((w2.alloc (Obj.cells #[.pointer (some ⟨pb, 0, none⟩), .pointer (some ⟨yb, 0, none⟩), .string s] 44)).drew).heap.size) => LW.addP (W := (w2.alloc (Obj.cells #[.pointer (some ⟨pb, 0, none⟩), .pointer (some ⟨yb, 0, none⟩), .string s] 44)).drew) (p := ⟨pb, yb, s⟩) h hB2 hent (((Kept.refl [] w2).alloc _).drew) hg hown (hat.imp (fun e => e.symm) (fun e => blk_ge e)))
    have HB := hide hB2
    clear hb2 hB1 x3 xf3 hy hbx1 h hbx2 h2 hrow hblk hB2 hent hrk
    go_wp2_with fail
    go_region_law (refine step_append_lies _ rfl (.tmp 46) (.tmp 52) 29 rfl (b + 1) 44 i0 (.agg #[.pointer none, .pointer none, .string { data := #[] }]) 3 32 Tryz.underlying29 hi hz0 hz1 hz2 rfl (by decide) (Value.slice ap es.length cp) es.length (es.flatMap PE.cells) (by simp [Act.eval]) (unhide s1) ⟨w2.heap.size, 0, none⟩ 1 1 [Value.pointer (some ⟨pb, 0, none⟩), .pointer (some ⟨yb, 0, none⟩), .string s] (by simp [Act.eval]) rfl (unhide s2) (unhide s3) (by decide) (unhide s4) (unhide s5) (unhide s6) _ rfl ?_; intro g cap w5 hown5 hg5 hat5 hlt5; obtain ⟨e1, e2, e3⟩ := unhide s8 w5 g cap hg5 hown5 hat5; obtain ⟨z0, zf0⟩ := block_cells e3 0)
    all_goals
      clear s1 s2 s3 s4 s5 s6 s8
      go_wp2_with fail
      go_ret
      exact ⟨rfl, _, _, e1, by simp, by simp, fun _ => by simp, e2⟩
end Go.Proofs.YtfdahfdaodbjbaaGreat

namespace Go.Proofs.YtfdahfdaodbjbaaGreat
open Go.RowKit Go.Maps

def PickPost (n : Nat) (w : World) : Ending → World → Prop := fun e w' => (∃ k : Nat, k < n ∧ e = .returned (.int .i64 k)) ∧ w' = w

theorem pick_low {c : Int} {n : Nat} (hc : c < 0) (hn : 0 < n) : ∃ k : Nat, k < n ∧ -(c + 1).tmod n = (k : Int) := by
  obtain ⟨d, hd⟩ : ∃ d : Nat, c + 1 = -(d : Int) := ⟨(-(c + 1)).toNat, by omega⟩
  refine ⟨d % n, Nat.mod_lt _ hn, ?_⟩
  rw [hd, Int.neg_tmod, Int.neg_neg, Int.tmod_eq_emod_of_nonneg (by omega)]
  simp
theorem pick_high {c : Int} {n : Nat} (hc : 0 ≤ c) (hn : 0 < n) : ∃ k : Nat, k < n ∧ c % n = (k : Int) := by
  obtain ⟨d, rfl⟩ : ∃ d : Nat, c = (d : Int) := ⟨c.toNat, by omega⟩
  exact ⟨d % n, Nat.mod_lt _ hn, by simp⟩

set_option maxRecDepth 100000 in
set_option maxHeartbeats 4000000 in
theorem pick_any (w : World) (c : Int) (n : Nat) (hn : 0 < n) (hl : n ≤ 1000000000000) (h1 : -9223372036854775808 ≤ c) (h2 : c ≤ 9223372036854775807) :
    Calls Tryz.prog 13 #[.int .i64 c, .int .i64 n] w (PickPost n w) := by
  have hn0 : ¬ ((n : Int) = 0) := by omega
  have hni : (0 : Int) < n := by omega
  go_enter Tryz.func13, Tryz.ntmps13
  by_cases hc : c < 0
  · obtain ⟨k, hk, e⟩ := pick_low hc hn
    have HE := hide e
    clear e
    go_wp2_with fail
    go_ret
    exact ⟨⟨k, hk, by rw [← unhide HE]; rfl⟩, rfl⟩
  · obtain ⟨k, hk, e⟩ := pick_high (Int.not_lt.1 hc) hn
    have HE := hide e
    clear e
    go_wp2_with fail
    go_ret
    exact ⟨⟨k, hk, by rw [← unhide HE]; rfl⟩, rfl⟩
end Go.Proofs.YtfdahfdaodbjbaaGreat

namespace Go.Proofs.YtfdahfdaodbjbaaGreat
open Go.RowKit Go.Maps

set_option maxRecDepth 100000 in
set_option maxHeartbeats 4000000 in
theorem pick_fix (c : Int) (n : Nat) (hn : 0 < n) (hl : n ≤ 1000000000000) (h1 : -9223372036854775808 ≤ c) (h2 : c ≤ 9223372036854775807) : ∃ k : Nat, k < n ∧ ∀ w, Calls Tryz.prog 13 #[.int .i64 c, .int .i64 n] w fun e w' => e = .returned (.int .i64 k) ∧ w' = w := by
  have hn0 : ¬ ((n : Int) = 0) := by omega
  have hni : (0 : Int) < n := by omega
  by_cases hc : c < 0
  · obtain ⟨k, hk, e⟩ := pick_low hc hn
    refine ⟨k, hk, fun w => ?_⟩
    have HE := hide e
    clear e
    go_enter Tryz.func13, Tryz.ntmps13
    go_wp2_with fail
    go_ret
    exact ⟨by rw [← unhide HE]; rfl, rfl⟩
  · obtain ⟨k, hk, e⟩ := pick_high (Int.not_lt.1 hc) hn
    refine ⟨k, hk, fun w => ?_⟩
    have HE := hide e
    clear e
    go_enter Tryz.func13, Tryz.ntmps13
    go_wp2_with fail
    go_ret
    exact ⟨by rw [← unhide HE]; rfl, rfl⟩

def StpPost (w : World) (b : Nat) (psv bv tv sv : Value) (es : List PE) (mb mt ms : List MB) : Ending → World → Prop := fun e w' => e = .returned (.bool true) ∧ ∃ psv' bv' tv' sv' es' mb' mt' ms', LW w' b psv' bv' tv' sv' es' mb' mt' ms' ∧ es.length ≤ es'.length ∧ es'.length ≤ es.length + 1 ∧ mb'.length ≤ mb.length + 2 ∧ mt'.length ≤ mt.length + 2 ∧ ms'.length ≤ ms.length + 2 ∧ Kept (chg b psv bv tv sv) w w'

set_option maxRecDepth 100000 in
set_option maxHeartbeats 4000000 in
theorem stp_load (w : World) (b : Nat) (psv bv tv sv : Value) (es : List PE) (mb mt ms : List MB) (a bb : Int) (s t u : ByteArray) (at_ : Option Addr) (nt ct : Nat) (h : LW w b psv bv tv sv es mb mt ms) (hs : s.size ≤ maxLen) (hn : (es.length + 1) * 32 ≤ 140737488355328) :
    Calls Tryz.prog 8 #[.pointer (some ⟨b, 0, none⟩), .agg #[.int .i64 1, .int .i64 a, .int .i64 bb, .string s, .string t, .string u, .slice at_ nt ct]] w (Ld2Post s w b psv bv tv sv es mb mt ms) := by
  have b0 := (Below.refl w.heap.size w).alloc (Nat.le_refl _) (.cells #[.int .i64 1, .int .i64 a, .int .i64 bb, .string s, .string t, .string u, .slice at_ nt ct] 26)
  have h0 := h.below b0
  clear h
  go_enter Tryz.func8, Tryz.ntmps8
  go_wp2_with fail
  refine (law_load2 _ b psv bv tv sv es mb mt ms 1 a bb s t u at_ nt ct h0 hs hn).mono ?_
  rintro e w1 ⟨rfl, psv', es', hW, l1, l2, l3, hK⟩
  have L3 := hide l3
  clear l3
  have HK := hide (((Kept.refl (chg b psv bv tv sv) w).alloc _).step hK (fun x hx => .inl hx))
  have HW := hide hW
  clear hK hW h0 b0
  go_wp2_with fail
  go_ret
  exact ⟨rfl, psv', es', unhide HW, l1, l2, unhide L3, unhide HK⟩

theorem Ld2Post.stp {s : ByteArray} {w w' : World} {b : Nat} {psv bv tv sv : Value} {es : List PE} {mb mt ms : List MB} {e : Ending} (h : Ld2Post s w b psv bv tv sv es mb mt ms e w') : StpPost w b psv bv tv sv es mb mt ms e w' := by
  obtain ⟨rfl, psv', es', hW, l1, l2, _, hK⟩ := h
  exact ⟨rfl, psv', bv, tv, sv, es', mb, mt, ms, hW, l1, l2, by omega, by omega, by omega, hK⟩

theorem still_tail_drew {P : Program} {id : Nat} {Q : Exit → Act → World → Prop} {a : Act} {w : World} {l : List Oper} (n : Nat) (hm : P.follows .mixedOrders = true) (hB : Region.lexTailB .any l.toArray n = true)
    (h : ∀ W, W = w.drew → wpStill P l.toArray W (fun a' => wpList P l.toArray Q (l.drop n) a' W) (l.take n) a) : (Code.region id l.toArray true).wp P Q a w := wp_region_still_tail n hm hB (h _ rfl)

theorem mixedP : Tryz.prog.follows .mixedOrders = true := by kernel_rfl

set_option maxRecDepth 100000 in
set_option maxHeartbeats 8000000 in
theorem stp_ask (w : World) (b : Nat) (psv bv tv sv : Value) (es : List PE) (mb mt ms : List MB) (kd a bb : Int) (s t u : ByteArray) (at_ : Option Addr) (nt ct : Nat) (h : LW w b psv bv tv sv es mb mt ms) (hl : es.length ≤ 1000000000000) (ha : -9223372036854775808 ≤ a ∧ a ≤ 9223372036854775807) (hk : kd = 2 ∨ kd = 3)
    (hask : ∀ (w' : World) (p : PE) (lo : Nat), LW w' b psv bv tv sv es mb mt ms → EntF p.s p.x p.y w' lo → Calls Tryz.prog 12 #[.pointer (some ⟨b, 0, none⟩), .agg #[.int .i64 kd, .int .i64 a, .int .i64 bb, .string s, .string t, .string u, .slice at_ nt ct], .agg #[.pointer (some ⟨p.x, 0, none⟩), .pointer (some ⟨p.y, 0, none⟩), .string p.s]] w' (AskPost w' b psv bv tv sv es mb mt ms)) :
    Calls Tryz.prog 8 #[.pointer (some ⟨b, 0, none⟩), .agg #[.int .i64 kd, .int .i64 a, .int .i64 bb, .string s, .string t, .string u, .slice at_ nt ct]] w (StpPost w b psv bv tv sv es mb mt ms) := by
  have b0 := (Below.refl w.heap.size w).alloc (Nat.le_refl _) (.cells #[.int .i64 kd, .int .i64 a, .int .i64 bb, .string s, .string t, .string u, .slice at_ nt ct] 26)
  have h0 := h.below b0
  have hbx : (w.alloc (.cells #[.int .i64 kd, .int .i64 a, .int .i64 bb, .string s, .string t, .string u, .slice at_ nt ct] 26)).heap[w.heap.size]? = _ := heap_alloc_new w _
  obtain ⟨ap, cp, rfl⟩ := own_slice h0.row
  have hblk := h0.blk
  obtain ⟨p0, pf0⟩ := block_cells hblk 0
  have HA := hide hask
  have K0 := hide ((Kept.refl (chg b (.slice ap es.length cp) bv tv sv) w).alloc (.cells #[.int .i64 kd, .int .i64 a, .int .i64 bb, .string s, .string t, .string u, .slice at_ nt ct] 26))
  have H0 := hide h0
  have hwl : b < w.heap.size := h.lt
  clear hask h b0 hblk h0
  by_cases hne : es.length = 0
  · have hz : es = [] := List.eq_nil_of_length_eq_zero hne
    subst hz
    rcases hk with rfl | rfl
    all_goals
      go_enter Tryz.func8, Tryz.ntmps8
      go_wp2_with fail
      go_ret
      exact ⟨rfl, _, _, _, _, _, _, _, _, unhide H0, by omega, by omega, by omega, by omega, by omega, unhide K0⟩
  · obtain ⟨k, hkl, hpk⟩ := pick_fix a es.length (by omega) hl ha.1 ha.2
    have HPK := hide hpk
    obtain ⟨lo, hent⟩ := ((unhide H0).ent es[k] (List.getElem_mem hkl)).ent
    obtain ⟨g, cap, hv, -, hgl, hnc, hcm, hc⟩ := row_at (f := PE.cells) (fun _ => rfl) (unhide H0).row k hkl
    injection hv with e1 e2 e3
    subst e1 e3
    have q0 := hc 0 (by simp)
    have q1 := hc 1 (by simp)
    have q2 := hc 2 (by simp)
    simp only [PE.cells, Nat.add_zero, List.getElem?_cons_zero, List.getElem?_cons_succ] at q0 q1 q2
    have HE := hide hent
    have hli : (0 : Int) < (es.length : Int) := by omega
    clear hc hpk hent
    generalize es[k] = p at *
    obtain ⟨x0, xf0⟩ := block_cells hbx 0
    obtain ⟨x1, xf1⟩ := block_cells hbx 1
    obtain ⟨x2, xf2⟩ := block_cells hbx 2
    obtain ⟨x3, xf3⟩ := block_cells hbx 3
    obtain ⟨x4, xf4⟩ := block_cells hbx 4
    obtain ⟨x5, xf5⟩ := block_cells hbx 5
    obtain ⟨x6, xf6⟩ := block_cells hbx 6
    clear hbx xf0 xf1 xf2 xf3 xf4 xf5 xf6 hgl
    rcases hk with rfl | rfl
    all_goals
      go_enter Tryz.func8, Tryz.ntmps8
      go_wp2_with fail
      refine still_tail_drew 16 mixedP (by kernel_rfl) fun W hW => ?_
      simp only [List.take_succ_cons, List.take_zero, List.drop_succ_cons, List.drop_zero]
      have P0 : W.cell? ⟨b, 0, none⟩ = some (.slice (some ⟨g, 0, none⟩) es.length cp) := by rw [hW]; exact p0
      have X0 := (congrArg (fun W : World => W.cell? ⟨w.heap.size, 0, none⟩) hW).trans x0
      simp only [List.getElem?_toArray, List.getElem?_cons_zero] at X0
      have X1 : W.cell? ⟨w.heap.size, 1, none⟩ = some (.int .i64 a) := by rw [hW]; exact x1
      have X2 : W.cell? ⟨w.heap.size, 2, none⟩ = some (.int .i64 bb) := by rw [hW]; exact x2
      have X3 : W.cell? ⟨w.heap.size, 3, none⟩ = some (.string s) := by rw [hW]; exact x3
      have X4 : W.cell? ⟨w.heap.size, 4, none⟩ = some (.string t) := by rw [hW]; exact x4
      have X5 : W.cell? ⟨w.heap.size, 5, none⟩ = some (.string u) := by rw [hW]; exact x5
      have X6 : W.cell? ⟨w.heap.size, 6, none⟩ = some (.slice at_ nt ct) := by rw [hW]; exact x6
      have Q0 : W.cell? ⟨g, k * 3, none⟩ = some (.pointer (some ⟨p.x, 0, none⟩)) := by rw [hW]; exact q0
      have Q1 : W.cell? ⟨g, k * 3 + 1, none⟩ = some (.pointer (some ⟨p.y, 0, none⟩)) := by rw [hW]; exact q1
      have Q2 : W.cell? ⟨g, k * 3 + 2, none⟩ = some (.string p.s) := by rw [hW]; exact q2
      have HLW : Hid (LW W b (.slice (some ⟨g, 0, none⟩) es.length cp) bv tv sv es mb mt ms) := by rw [hW]; exact (unhide H0).below ((Below.refl _ _).drew)
      have HEW : Hid (EntF p.s p.x p.y W lo) := by rw [hW]; exact (unhide HE).below ((Below.refl _ _).drew)
      have HKW : Hid (Kept (chg b (.slice (some ⟨g, 0, none⟩) es.length cp) bv tv sv) w W) := by rw [hW]; exact (unhide K0).drew
      clear hW x0 x1 x2 x3 x4 x5 x6 q0 q1 q2 p0 pf0 H0 HE K0
      repeat still_step
      still_call (unhide HPK _)
      repeat still_step
      refine wpStill_nil ?_
      clear Q0 Q1 Q2 X0 X1 X2 X3 X4 X5 X6 P0
      go_wp2_with fail
      refine (unhide HA W p lo (unhide HLW) (unhide HEW)).mono ?_
      rintro e w1 ⟨rfl, bv', tv', sv', mb', mt', ms', hL', l1, l2, l3, hK'⟩
      have HL1 := hide hL'
      have HK1 := hide ((unhide HKW).trans hK')
      clear hL' hK'
      go_wp2_with fail
      go_ret
      exact ⟨rfl, _, bv', tv', sv', es, mb', mt', ms', unhide HL1, Nat.le_refl _, by omega, l1, l2, l3, unhide HK1⟩
end Go.Proofs.YtfdahfdaodbjbaaGreat

namespace Go.Proofs.YtfdahfdaodbjbaaGreat
open Go.RowKit

set_option maxRecDepth 100000 in
set_option maxHeartbeats 4000000 in
theorem law_step1 (w : World) (b n : Nat) (psv : Value) (a bb : Int) (s t u : ByteArray) (at_ : Option Addr) (nt ct : Nat) (h : WIn w b psv n) (hs : s.size ≤ maxLen) (hn : (n + 1) * 32 ≤ 140737488355328) :
    Calls Tryz.prog 8 #[.pointer (some ⟨b, 0, none⟩), .agg #[.int .i64 1, .int .i64 a, .int .i64 bb, .string s, .string t, .string u, .slice at_ nt ct]] w (LdPost w b n psv s) := by
  have b0 := (Below.refl w.heap.size w).alloc (Nat.le_refl _) (.cells #[.int .i64 1, .int .i64 a, .int .i64 bb, .string s, .string t, .string u, .slice at_ nt ct] 26)
  have h0 := h.below b0
  clear h
  go_enter Tryz.func8, Tryz.ntmps8
  go_wp2_with fail
  refine (law_load _ b n psv 1 a bb s t u at_ nt ct h0 hs hn).mono ?_
  rintro e w1 ⟨rfl, psv', hW, hK⟩
  have HK := hide (((Kept.refl (b :: psv.ownBlock.toList) w).alloc _).step hK (fun x hx => .inl hx))
  have HW := hide hW
  clear hK hW h0 b0
  go_wp2_with fail
  go_ret
  exact ⟨rfl, psv', unhide HW, unhide HK⟩

set_option maxRecDepth 100000 in
set_option maxHeartbeats 4000000 in
theorem law_step0 (w : World) (b : Nat) (a bb : Int) (s t u : ByteArray) (at_ : Option Addr) (nt ct : Nat) :
    Calls Tryz.prog 8 #[.pointer (some ⟨b, 0, none⟩), .agg #[.int .i64 0, .int .i64 a, .int .i64 bb, .string s, .string t, .string u, .slice at_ nt ct]] w fun e w' => e = .returned (.bool true) ∧ Below w.heap.size w w' := by
  have b0 := (Below.refl w.heap.size w).alloc (Nat.le_refl _) (.cells #[.int .i64 0, .int .i64 a, .int .i64 bb, .string s, .string t, .string u, .slice at_ nt ct] 26)
  go_enter Tryz.func8, Tryz.ntmps8
  go_wp2_with fail
  go_ret
  exact ⟨rfl, b0⟩

set_option maxRecDepth 100000 in
set_option maxHeartbeats 4000000 in
theorem law_looks (w : World) (b : Nat) (psv : Value) (hb : w.heap[b]? = some (.cells #[psv, .slice none 0 0, .slice none 0 0, .slice none 0 0] 36 (0, 0))) :
    Calls Tryz.prog 9 #[.pointer (some ⟨b, 1, none⟩)] w fun e w' => e = .returned (.bool true) ∧ w' = w := by
  obtain ⟨x1, xf1⟩ := block_cells hb 1
  obtain ⟨x2, xf2⟩ := block_cells hb 2
  obtain ⟨x3, xf3⟩ := block_cells hb 3
  clear hb
  go_enter Tryz.func9, Tryz.ntmps9
  go_wp2_with fail
  go_loop [3, 4] (fun ok i => ok = .bool true ∧ i = .int .i64 0) (fun _ _ => 0)
  case atStart => exact ⟨rfl, rfl⟩
  case round =>
    obtain ⟨rfl, rfl⟩ := hrel
    go_wp2_with fail
    go_loop [3, 6] (fun ok i => ok = .bool true ∧ i = .int .i64 0) (fun _ _ => 0)
    case atStart => exact ⟨rfl, rfl⟩
    case round =>
      obtain ⟨rfl, rfl⟩ := hrel
      go_wp2_with fail
      go_loop [3, 8] (fun ok i => ok = .bool true ∧ i = .int .i64 0) (fun _ _ => 0)
      case atStart => exact ⟨rfl, rfl⟩
      case round =>
        obtain ⟨rfl, rfl⟩ := hrel
        go_wp2_with fail
        go_ret
        exact ⟨rfl, rfl⟩
end Go.Proofs.YtfdahfdaodbjbaaGreat
