/-
  The law's load, with the programs' memory.
  The law's pick; what is in a list of strata that its owner has marked.
  A region that draws its order, whose first operations read alone and whose last ones stand in a row: the reads first, the rest in its order.
  The law's step: at a Load, and at a call of a program.
  The law's plays, where only Loads are played: true at every script.
  The law's plays: true at every script whose steps are each answered as they should be.
-/
import Derived.Test.YtldkpahaocjdpaaGreatQueriesT26
import Derived.Test.YtldkpahaocjdpaaGreatQueriesT25
import Derived.BigQuiet
import Derived.Deep.QuietTactic
import Derived.Test.YtldkpahaocjdpaaGreatProg
import Derived.StillTailTactics
import Derived.WalkKit
import Derived.KernelRfl
import Derived.Test.YtldkpahaocjdpaaGreatQueriesT28
set_option maxHeartbeats 16000000
namespace Go.Proofs.YtldkpahaocjdpaaGreat
section
open Go.RowKit
def Ld2Post (s : ByteArray) (w : World) (b : Nat) (psv bv tv sv : Value) (es : List PE) (mb mt ms : List MB) (e : Ending) (w' : World) : Prop := e = .returned (.bool true) ∧ ∃ psv' es', LW w' b psv' bv tv sv es' mb mt ms ∧ es.length ≤ es'.length ∧ es'.length ≤ es.length + 1 ∧ ((zbi s).1 = true → es'.length = es.length + 1) ∧ Kept (chg b psv bv tv sv) w w'
theorem blk_ge {g H n c : Nat} (e : g = H) : ∀ g', (Value.slice (some ⟨g, 0, none⟩) n c).ownBlock = some g' → H ≤ g' := fun g' e' => by
 have : g = g' := by simpa [Value.ownBlock] using e'
 omega
theorem ProgIn.low {w : World} {lo lo' b : Nat} {rs : List PR} (h : ProgIn w lo b rs) (hl : lo' ≤ lo) : ProgIn w lo' b rs := by
 obtain ⟨a, c, hb, hlo, hr⟩ := h
 exact ⟨a, c, hb, by omega, hr.low hl⟩
theorem ProgIn.below {w w' : World} {lo b : Nat} {rs : List PR} (h : ProgIn w lo b rs) (k : Below w.heap.size w w') : ProgIn w' lo b rs := by
 obtain ⟨a, c, hb, hlo, hr⟩ := h
 exact ⟨a, c, (k.block b (Array.getElem?_eq_some_iff.1 hb).1).trans hb, hlo, hr.below k⟩
theorem entF_of {s : ByteArray} {w w0 w1 w2 : World} {pb : Nat} {rs : List PR} {ya : Addr} (hok : (zbi s).1 = true) (hx : ProgIn w1 w0.heap.size pb rs) (hr : rs.map (·.R) = (za6 s).2.2.1) (h0 : w.heap.size ≤ w0.heap.size) (h1 : w0.heap.size ≤ w1.heap.size) (hb : Below w1.heap.size w1 w2) (hy : RKept s w1 (some ya) w2) : ∃ yb, ya = ⟨yb, 0, none⟩ ∧ EntF s pb yb w2 w.heap.size := by
 obtain ⟨o, rs', ps, rv, pv, tv, gs, S, e, h2, h3, h4, h5, h6, h7, h8, h9, h10⟩ := hy ya rfl
 exact ⟨o, e, hok, ⟨rs, (hx.low h0).below hb, hr⟩, rs', ps, rv, pv, tv, gs, S, by omega, h3, h4, h5, h6, h7, h8, h9, h10⟩
set_option maxRecDepth 100000 in
theorem law_load2 (w : World) (b : Nat) (psv bv tv sv : Value) (es : List PE) (mb mt ms : List MB) (kd a bb : Int) (s t u : ByteArray) (at_ : Option Addr) (nt ct : Nat) (h : LW w b psv bv tv sv es mb mt ms) (hs : s.size ≤ maxLen) (hn : (es.length + 1) * 32 ≤ 140737488355328) :
  Calls Tryz.prog 48 #[.pointer (some ⟨b, 0, none⟩), .agg #[.int .i64 kd, .int .i64 a, .int .i64 bb, .string s, .string t, .string u, .slice at_ nt ct]] w (Ld2Post s w b psv bv tv sv es mb mt ms) := by
 obtain ⟨i0, hi, hz0, hz1, hz2⟩ := info_parts infoProg
 have b0 := (Below.refl w.heap.size w).alloc (Nat.le_refl _) (.cells #[.int .i64 kd, .int .i64 a, .int .i64 bb, .string s, .string t, .string u, .slice at_ nt ct] 26)
 have hbx : (w.alloc (.cells #[.int .i64 kd, .int .i64 a, .int .i64 bb, .string s, .string t, .string u, .slice at_ nt ct] 26)).heap[w.heap.size]? = _ := heap_alloc_new w _
 have hP := pload_any (w.alloc (.cells #[.int .i64 kd, .int .i64 a, .int .i64 bb, .string s, .string t, .string u, .slice at_ nt ct] 26)) s hs
 rw [load_eq] at hP
 have hlt := h.lt
 go_enter Tryz.func48, Tryz.ntmps48
 go_wp2_with fail
 refine hP.mono ?_
 rintro e w1 ⟨hb1, hno, hyes⟩
 have hbx1 := (hb1.block w.heap.size (by simp)).trans hbx
 obtain ⟨x3, xf3⟩ := zab hbx1 3
 have hz1' := hb1.size
 have hz1'' := hz1'
 rw [World.size_alloc] at hz1'
 have hB1 := b0.trans (hb1.mono (by simp))
 clear hP hbx hb1 b0
 cases hr : (zbi s).1 with
 | false =>
  have he := hno hr
  subst he
  clear hno hyes hz1''
  go_wp2_with fail
  refine (refLoad_any s w1).mono ?_
  rintro e w2 ⟨y, rfl, hy, hb2⟩
  have hyn : y = none := by rw [hr] at hy; cases y with | none => rfl | some _ => cases hy
  subst hyn
  have HB := hide (hB1.trans (hb2.mono (by omega)))
  have HH := hide h
  clear hb2 hB1 x3 xf3 hy hbx1 h
  go_wp2_with fail
  go_ret
  exact ⟨rfl, psv, es, (zaa HH).below (zaa HB), Nat.le_refl _, Nat.le_succ _, (fun h => by rw [hr] at h; cases h), (Kept.refl _ _).of_below (zaa HB)⟩
 | true =>
  obtain ⟨pb, rs, he, hpi, hrs⟩ := hyes hr
  subst he
  have HPI := hide hpi
  have HRS := hide hrs
  have HZ1 := hide hz1''
  clear hno hyes hpi hrs hz1''
  go_wp2_with fail
  refine (zi7 s w1).mono ?_
  rintro e w2 ⟨y, rfl, hy, hb2, hrk⟩
  obtain ⟨ya, rfl⟩ : ∃ ya, y = some ya := by rw [hr] at hy; cases y with | none => cases hy | some z => exact ⟨z, rfl⟩
  obtain ⟨yb, rfl, hent⟩ := entF_of (w := w) hr (zaa HPI) (zaa HRS) (by simp) (zaa HZ1) hb2 hrk
  have hbx2 := (hb2.block w.heap.size (by omega)).trans hbx1
  have hz2' := hb2.size
  have hB2 := hB1.trans (hb2.mono (by omega))
  have h2 := h.below hB2
  have hrow := h2.row
  obtain ⟨ap, cp, rfl⟩ := zac hrow
  have hblk := h2.blk
  obtain ⟨y3, yf3⟩ := zab hbx2 3
  obtain ⟨p0, pf0⟩ := zab hblk 0
  have hblt := h2.lt
  have s1 : Hid (((w2.alloc (Obj.cells #[.pointer (some ⟨pb, 0, none⟩), .pointer (some ⟨yb, 0, none⟩), .string s] 112)).drew).ownsRow (b + 1) 112 3 (.slice ap es.length cp) es.length (es.flatMap PE.cells)) := hrow.alloc _
  have s2 : Hid (∀ j u, ([Value.pointer (some ⟨pb, 0, none⟩), .pointer (some ⟨yb, 0, none⟩), .string s] : List Value)[j]? = some u → ((w2.alloc (Obj.cells #[.pointer (some ⟨pb, 0, none⟩), .pointer (some ⟨yb, 0, none⟩), .string s] 112)).drew).cell? ((⟨w2.heap.size, 0, none⟩ : Addr).add j) = some u) := World.news_of_block (heap_alloc_new w2 _)
  have s3 : Hid (∀ u ∈ ([Value.pointer (some ⟨pb, 0, none⟩), .pointer (some ⟨yb, 0, none⟩), .string s] : List Value), u.oneCell' = true) := by
   show ∀ u ∈ _, _
   intro u hu; simp at hu; rcases hu with rfl | rfl | rfl <;> rfl
  have s4 : Hid (es.length + 1 ≤ maxLen) := by show _ ≤ _; unfold maxLen; omega
  have s5 : Hid ((es.length + 1) * 32 ≤ 140737488355328) := hn
  have s6 : Hid (b + 1 ≤ ((w2.alloc (Obj.cells #[.pointer (some ⟨pb, 0, none⟩), .pointer (some ⟨yb, 0, none⟩), .string s] 112)).drew).heap.size) := by show _ ≤ _; simp; omega
  have s8 := hide (fun (w5 : World) (g cap : Nat) (hg : ((w2.alloc (Obj.cells #[.pointer (some ⟨pb, 0, none⟩), .pointer (some ⟨yb, 0, none⟩), .string s] 112)).drew).grownBy w5 (Value.slice ap es.length cp).ownBlock) (hown : w5.ownsRow (b + 1) 112 3 (.slice (some ⟨g, 0, none⟩) (es.length + 1) cap) (es.length + 1) (es.flatMap PE.cells ++ [Value.pointer (some ⟨pb, 0, none⟩), .pointer (some ⟨yb, 0, none⟩), .string s])) (hat : (Value.slice ap es.length cp).ownBlock = some g ∨ g = ((w2.alloc (Obj.cells #[.pointer (some ⟨pb, 0, none⟩), .pointer (some ⟨yb, 0, none⟩), .string s] 112)).drew).heap.size) => LW.addP (W := (w2.alloc (Obj.cells #[.pointer (some ⟨pb, 0, none⟩), .pointer (some ⟨yb, 0, none⟩), .string s] 112)).drew) (p := ⟨pb, yb, s⟩) h hB2 hent (((Kept.refl [] w2).alloc _).drew) hg hown (hat.imp (fun e => e.symm) (fun e => blk_ge e)))
  have HB := hide hB2
  clear hb2 hB1 x3 xf3 hy hbx1 h hbx2 h2 hrow hblk hB2 hent hrk
  go_wp2_with fail
  go_region_law (refine step_append_lies _ rfl (.tmp 46) (.tmp 52) 62 rfl (b + 1) 112 i0 (.agg #[.pointer none, .pointer none, .string { data := #[] }]) 3 32 Tryz.underlying62 hi hz0 hz1 hz2 rfl (by decide) (Value.slice ap es.length cp) es.length (es.flatMap PE.cells) (by simp [Act.eval]) (zaa s1) ⟨w2.heap.size, 0, none⟩ 1 1 [Value.pointer (some ⟨pb, 0, none⟩), .pointer (some ⟨yb, 0, none⟩), .string s] (by simp [Act.eval]) rfl (zaa s2) (zaa s3) (by decide) (zaa s4) (zaa s5) (zaa s6) _ rfl ?_; intro g cap w5 hown5 hg5 hat5 hlt5; obtain ⟨e1, e2, e3⟩ := zaa s8 w5 g cap hg5 hown5 hat5; obtain ⟨z0, zf0⟩ := zab e3 0)
  all_goals
   clear s1 s2 s3 s4 s5 s6 s8
   go_wp2_with fail
   go_ret
   exact ⟨rfl, _, _, e1, by simp, by simp, fun _ => by simp, e2⟩
end
section
open Go.RowKit Go.Maps
theorem pick_low {c : Int} {n : Nat} (hc : c < 0) (hn : 0 < n) : ∃ k : Nat, k < n ∧ -(c + 1).tmod n = (k : Int) := by
 obtain ⟨d, hd⟩ : ∃ d : Nat, c + 1 = -(d : Int) := ⟨(-(c + 1)).toNat, by omega⟩
 refine ⟨d % n, Nat.mod_lt _ hn, ?_⟩
 rw [hd, Int.neg_tmod, Int.neg_neg, Int.tmod_eq_emod_of_nonneg (by omega)]
 simp
theorem pick_high {c : Int} {n : Nat} (hc : 0 ≤ c) (hn : 0 < n) : ∃ k : Nat, k < n ∧ c % n = (k : Int) := by
 obtain ⟨d, rfl⟩ : ∃ d : Nat, c = (d : Int) := ⟨c.toNat, by omega⟩
 exact ⟨d % n, Nat.mod_lt _ hn, by simp⟩
end
section
open Go.RowKit
theorem ze2 {P : Program} {id : Nat} {Q : Exit → Act → World → Prop} {a : Act} {w : World} {l : List Oper} (n : Nat) (hm : P.follows .mixedOrders = true) (hB : Region.lexTailB .any l.toArray n = true)
  (h : ∀ W, W = w.drew → wpStill P l.toArray W (fun a' => wpList P l.toArray Q (l.drop n) a' W) (l.take n) a) : (Code.region id l.toArray true).wp P Q a w := wp_region_still_tail n hm hB (h _ rfl)
theorem mixedP : Tryz.prog.follows .mixedOrders = true := by kernel_rfl
end
section
open Go.RowKit Go.Maps
set_option maxRecDepth 100000 in
theorem pick_fix (c : Int) (n : Nat) (hn : 0 < n) (hl : n ≤ 1000000000000) (h1 : -9223372036854775808 ≤ c) (h2 : c ≤ 9223372036854775807) : ∃ k : Nat, k < n ∧ ∀ w, Calls Tryz.prog 51 #[.int .i64 c, .int .i64 n] w fun e w' => e = .returned (.int .i64 k) ∧ w' = w := by
 have hn0 : ¬ ((n : Int) = 0) := by omega
 have hni : (0 : Int) < n := by omega
 by_cases hc : c < 0
 ·obtain ⟨k, hk, e⟩ := pick_low hc hn
  refine ⟨k, hk, fun w => ?_⟩
  have HE := hide e
  clear e
  go_enter Tryz.func51, Tryz.ntmps51
  go_wp2_with fail
  go_ret
  exact ⟨by rw [← zaa HE]; rfl, rfl⟩
 ·obtain ⟨k, hk, e⟩ := pick_high (Int.not_lt.1 hc) hn
  refine ⟨k, hk, fun w => ?_⟩
  have HE := hide e
  clear e
  go_enter Tryz.func51, Tryz.ntmps51
  go_wp2_with fail
  go_ret
  exact ⟨by rw [← zaa HE]; rfl, rfl⟩
def zna (w : World) (b : Nat) (psv bv tv sv : Value) (es : List PE) (mb mt ms : List MB) : Ending → World → Prop := fun e w' => e = .returned (.bool true) ∧ ∃ psv' bv' tv' sv' es' mb' mt' ms', LW w' b psv' bv' tv' sv' es' mb' mt' ms' ∧ es.length ≤ es'.length ∧ es'.length ≤ es.length + 1 ∧ mb'.length ≤ mb.length + 2 ∧ mt'.length ≤ mt.length + 2 ∧ ms'.length ≤ ms.length + 2 ∧ Kept (chg b psv bv tv sv) w w'
set_option maxRecDepth 100000 in
theorem stp_load (w : World) (b : Nat) (psv bv tv sv : Value) (es : List PE) (mb mt ms : List MB) (a bb : Int) (s t u : ByteArray) (at_ : Option Addr) (nt ct : Nat) (h : LW w b psv bv tv sv es mb mt ms) (hs : s.size ≤ maxLen) (hn : (es.length + 1) * 32 ≤ 140737488355328) :
  Calls Tryz.prog 32 #[.pointer (some ⟨b, 0, none⟩), .agg #[.int .i64 1, .int .i64 a, .int .i64 bb, .string s, .string t, .string u, .slice at_ nt ct]] w (Ld2Post s w b psv bv tv sv es mb mt ms) := by
 have b0 := (Below.refl w.heap.size w).alloc (Nat.le_refl _) (.cells #[.int .i64 1, .int .i64 a, .int .i64 bb, .string s, .string t, .string u, .slice at_ nt ct] 26)
 have h0 := h.below b0
 clear h
 go_enter Tryz.func32, Tryz.ntmps32
 go_wp2_with fail
 refine (law_load2 _ b psv bv tv sv es mb mt ms 1 a bb s t u at_ nt ct h0 hs hn).mono ?_
 rintro e w1 ⟨rfl, psv', es', hW, l1, l2, l3, hK⟩
 have L3 := hide l3
 clear l3
 have HK := hide (((Kept.refl (chg b psv bv tv sv) w).alloc _).step hK (fun x hx => .inl hx))
 have HW := hide hW
 clear hK hW h0 b0
 go_wp2_with fail
 go_ret
 exact ⟨rfl, psv', es', zaa HW, l1, l2, zaa L3, zaa HK⟩
theorem Ld2Post.stp {s : ByteArray} {w w' : World} {b : Nat} {psv bv tv sv : Value} {es : List PE} {mb mt ms : List MB} {e : Ending} (h : Ld2Post s w b psv bv tv sv es mb mt ms e w') : zna w b psv bv tv sv es mb mt ms e w' := by
 obtain ⟨rfl, psv', es', hW, l1, l2, _, hK⟩ := h
 exact ⟨rfl, psv', bv, tv, sv, es', mb, mt, ms, hW, l1, l2, by omega, by omega, by omega, hK⟩
end
section
open Go.RowKit
structure OpV where
 kd : Int
 a : Int
 b : Int
 s : ByteArray
 t : ByteArray
 u : ByteArray
 at_ : Option Addr
 nt : Nat
 ct : Nat
structure Scr (w : World) (sa : Option Addr) (len : Nat) (O : Nat → OpV) : Prop where
 el : ∀ i, i < len → ∃ g off, sa = some ⟨g, off, none⟩ ∧ g < w.heap.size ∧ w.cell? ⟨g, off + i * 7, none⟩ = some (.int .i64 (O i).kd) ∧ w.cell? ⟨g, off + i * 7 + 1, none⟩ = some (.int .i64 (O i).a) ∧ w.cell? ⟨g, off + i * 7 + 2, none⟩ = some (.int .i64 (O i).b) ∧ w.cell? ⟨g, off + i * 7 + 3, none⟩ = some (.string (O i).s) ∧ w.cell? ⟨g, off + i * 7 + 4, none⟩ = some (.string (O i).t) ∧ w.cell? ⟨g, off + i * 7 + 5, none⟩ = some (.string (O i).u) ∧ w.cell? ⟨g, off + i * 7 + 6, none⟩ = some (.slice (O i).at_ (O i).nt (O i).ct) ∧ (O i).s.size ≤ maxLen
theorem Scr.below {w w1 : World} {sa : Option Addr} {len : Nat} {O : Nat → OpV} (h : Scr w sa len O) (hb : Below w.heap.size w w1) : Scr w1 sa len O :=
 ⟨fun i hi => by
  obtain ⟨g, off, h1, h2, c0, c1, c2, c3, c4, c5, c6, h3⟩ := h.el i hi
  have hz := hb.size
  refine ⟨g, off, h1, by omega, ?_, ?_, ?_, ?_, ?_, ?_, ?_, h3⟩
  all_goals (rw [hb.cell (by simpa using h2)]; assumption)⟩
def exText : ByteArray := { data := #[101, 100, 103, 101, 40, 97, 44, 98, 41, 46, 32, 101, 100, 103, 101, 40, 98, 44, 99, 41, 46, 32, 112, 97, 116, 104, 40, 88, 44, 89, 41, 32, 58, 45, 32, 101, 100, 103, 101, 40, 88, 44, 89, 41, 46, 32, 112, 97, 116, 104, 40, 88, 44, 90, 41, 32, 58, 45, 32, 101, 100, 103, 101, 40, 88, 44, 89, 41, 44, 32, 112, 97, 116, 104, 40, 89, 44, 90, 41, 46, 32, 102, 97, 114, 40, 88, 41, 32, 58, 45, 32, 112, 97, 116, 104, 40, 97, 44, 88, 41, 44, 32, 110, 111, 116, 32, 101, 100, 103, 101, 40, 97, 44, 88, 41, 46] }
set_option maxRecDepth 100000 in
theorem ex_ok : (zbi exText).1 = true := by decide +kernel
set_option maxRecDepth 100000 in
theorem ex_size : exText.size ≤ maxLen := by decide +kernel
end
section
open Go.RowKit Go.Maps
structure OpOk (o : OpV) : Prop where
 a : -9223372036854775808 ≤ o.a ∧ o.a ≤ 9223372036854775807
 b : -9223372036854775808 ≤ o.b ∧ o.b ≤ 9223372036854775807
 s : o.s.size ≤ maxLen
 t : o.t.size ≤ maxLen
 u : o.u.size ≤ maxLen
def OpV.agg (o : OpV) : Value := .agg #[.int .i64 o.kd, .int .i64 o.a, .int .i64 o.b, .string o.s, .string o.t, .string o.u, .slice o.at_ o.nt o.ct]
def zoz (w0 : World) (o : OpV) : Prop := ∀ (w : World) (b : Nat) (psv bv tv sv : Value) (es : List PE) (mb mt ms : List MB), Below w0.heap.size w0 w → LW w b psv bv tv sv es mb mt ms → es.length ≤ 10000000 → mb.length ≤ 10000000 → mt.length ≤ 10000000 → ms.length ≤ 10000000 →
 Calls Tryz.prog 32 #[.pointer (some ⟨b, 0, none⟩), o.agg] w (zna w b psv bv tv sv es mb mt ms)
def LooksOk : Prop := ∀ (w : World) (b : Nat) (psv bv tv sv : Value) (es : List PE) (mb mt ms : List MB), LW w b psv bv tv sv es mb mt ms → mb.length ≤ 10000000 → mt.length ≤ 10000000 → ms.length ≤ 10000000 → Calls Tryz.prog 33 #[.pointer (some ⟨b, 1, none⟩)] w (zcz w)
theorem any_take {ks : List Int} {j : Nat} (hj : j < ks.length) (f : Int → Bool) : (ks.take (j + 1)).any f = ((ks.take j).any f || f ks[j]) := by
 rw [List.take_succ_eq_append_getElem hj, List.any_append]
 simp only [List.any_cons, List.any_nil, Bool.or_false]
structure PlayIn (w0 : World) (w : World) (b k : Nat) (psv bv tv sv : Value) (es : List PE) (mb mt ms : List MB) (wr : World) : Prop where
 lw : LW wr b psv bv tv sv es mb mt ms
 below : Below w.heap.size w wr
 base : Below w0.heap.size w0 wr
 e : es.length ≤ k + 2
 b : mb.length ≤ 2 * k + 2
 t : mt.length ≤ 2 * k + 2
 s : ms.length ≤ 2 * k + 2
def PlayAt (w0 : World) (w : World) (b k : Nat) (wr : World) : Prop := ∃ psv bv tv sv es mb mt ms, PlayIn w0 w b k psv bv tv sv es mb mt ms wr
theorem PlayAt.drawn {w0 w wr : World} {b k : Nat} (h : PlayAt w0 w b k wr) (n : Nat) : PlayAt w0 w b k (wr.drewN n) := by
 obtain ⟨psv, bv, tv, sv, es, mb, mt, ms, h⟩ := h
 exact ⟨psv, bv, tv, sv, es, mb, mt, ms, h.lw.below (below_drewN (Below.refl _ _) _), below_drewN h.below _, below_drewN h.base _, h.e, h.b, h.t, h.s⟩
theorem PlayAt.next {w0 w wr : World} {b k : Nat} (h : PlayAt w0 w b k wr) : PlayAt w0 w b (k + 1) wr := by
 obtain ⟨psv, bv, tv, sv, es, mb, mt, ms, h⟩ := h
 exact ⟨psv, bv, tv, sv, es, mb, mt, ms, h.lw, h.below, h.base, by have := h.e; omega, by have := h.b; omega, by have := h.t; omega, by have := h.s; omega⟩
theorem PlayIn.step {w0 w wr w' : World} {b k k' : Nat} {psv bv tv sv : Value} {es : List PE} {mb mt ms : List MB} {e : Ending} (h : PlayIn w0 w b k psv bv tv sv es mb mt ms wr) (hw : w0.heap.size ≤ w.heap.size) (hs : zna wr b psv bv tv sv es mb mt ms e w') (hb : w.heap.size ≤ b) (hk : es.length ≤ k' + 1 ∧ mb.length ≤ 2 * k' ∧ mt.length ≤ 2 * k' ∧ ms.length ≤ 2 * k') : e = .returned (.bool true) ∧ PlayAt w0 w b k' w' := by
 obtain ⟨rfl, psv', bv', tv', sv', es', mb', mt', ms', hL, l0, l1, l2, l3, l4, hK⟩ := hs
 have hsz := h.below.size
 have hge : ∀ x ∈ chg b psv bv tv sv, w.heap.size ≤ x := fun x hx => by have := (h.lw.chg_lt x hx).1; omega
 exact ⟨rfl, psv', bv', tv', sv', es', mb', mt', ms', hL, zar h.below hK hsz hge, zar h.base hK (by omega) (fun x hx => by have := hge x hx; omega), by omega, by omega, by omega, by omega⟩
theorem PlayAt.still {w0 w wr w' : World} {b k : Nat} {e : Ending} (h : PlayAt w0 w b k wr) (hw : w0.heap.size ≤ w.heap.size) (hs : zcz wr e w') : e = .returned (.bool true) ∧ PlayAt w0 w b k w' := by
 obtain ⟨psv, bv, tv, sv, es, mb, mt, ms, h⟩ := h
 obtain ⟨rfl, hB⟩ := hs
 have hsz := h.below.size
 exact ⟨rfl, psv, bv, tv, sv, es, mb, mt, ms, h.lw.below hB, h.below.trans (hB.mono hsz), h.base.trans (hB.mono (by omega)), h.e, h.b, h.t, h.s⟩
set_option maxRecDepth 100000 in
theorem plays_gen (w0 w : World) (hw0 : Below w0.heap.size w0 w) (kd a b : Int) (s t u : ByteArray) (at_ : Option Addr) (nt ct : Nat) (sa : Option Addr) (len cap : Nat) (O : Nat → OpV) (kb : Nat) (ks : List Int) (h : Scr w sa len O) (hl : len ≤ 1048576) (hks : ∀ j (hj : j < ks.length), w.cell? ⟨kb, j, none⟩ = some (.int .i64 ks[j])) (hkl : ks.length ≤ 100) (hkb : kb < w.heap.size)
  (hA : zoz w0 ⟨kd, a, b, s, t, u, at_, nt, ct⟩) (hO : ∀ i, i < len → (O i).kd ∈ ks → zoz w0 (O i)) (hlook : LooksOk) :
  Calls Tryz.prog 15 #[.agg #[.int .i64 kd, .int .i64 a, .int .i64 b, .string s, .string t, .string u, .slice at_ nt ct], .slice sa len cap, .slice (some ⟨kb, 0, none⟩) ks.length ks.length] w (zcz w) := by
 have b0 := ((Below.refl w.heap.size w).alloc (Nat.le_refl _) (.cells #[.int .i64 kd, .int .i64 a, .int .i64 b, .string s, .string t, .string u, .slice at_ nt ct] 26)).alloc (by simp) (.cells #[.slice none 0 0, .slice none 0 0, .slice none 0 0, .slice none 0 0] 69)
 have hW0 : LW ((w.alloc (.cells #[.int .i64 kd, .int .i64 a, .int .i64 b, .string s, .string t, .string u, .slice at_ nt ct] 26)).alloc (.cells #[.slice none 0 0, .slice none 0 0, .slice none 0 0, .slice none 0 0] 69)) (w.heap.size + 1) (.slice none 0 0) (.slice none 0 0) (.slice none 0 0) (.slice none 0 0) [] [] [] [] := by
  refine LW.start _ _ ?_
  have := heap_alloc_new (w.alloc (.cells #[.int .i64 kd, .int .i64 a, .int .i64 b, .string s, .string t, .string u, .slice at_ nt ct] 26)) (.cells #[.slice none 0 0, .slice none 0 0, .slice none 0 0, .slice none 0 0] 69)
  rw [World.size_alloc] at this
  exact this
 have hbx : ((w.alloc (.cells #[.int .i64 kd, .int .i64 a, .int .i64 b, .string s, .string t, .string u, .slice at_ nt ct] 26)).alloc (.cells #[.slice none 0 0, .slice none 0 0, .slice none 0 0, .slice none 0 0] 69)).heap[w.heap.size]? = some (.cells #[.int .i64 kd, .int .i64 a, .int .i64 b, .string s, .string t, .string u, .slice at_ nt ct] 26 (0, 0)) := by
  rw [Below.heap_alloc _ _ _ (by simp)]
  exact heap_alloc_new w _
 have hS := stp_load ((w.alloc (.cells #[.int .i64 kd, .int .i64 a, .int .i64 b, .string s, .string t, .string u, .slice at_ nt ct] 26)).alloc (.cells #[.slice none 0 0, .slice none 0 0, .slice none 0 0, .slice none 0 0] 69)) (w.heap.size + 1) (.slice none 0 0) (.slice none 0 0) (.slice none 0 0) (.slice none 0 0) [] [] [] [] 0 0 exText { data := #[] } { data := #[] } none 0 0 hW0 ex_size (by simp)
 unfold exText at hS
 have hP0 : PlayIn w0 w (w.heap.size + 1) 0 (.slice none 0 0) (.slice none 0 0) (.slice none 0 0) (.slice none 0 0) [] [] [] [] ((w.alloc (.cells #[.int .i64 kd, .int .i64 a, .int .i64 b, .string s, .string t, .string u, .slice at_ nt ct] 26)).alloc (.cells #[.slice none 0 0, .slice none 0 0, .slice none 0 0, .slice none 0 0] 69)) := ⟨hW0, b0, hw0.trans (b0.mono hw0.size), by simp, by simp, by simp, by simp⟩
 have HP0 := hide hP0
 have hw0s := hw0.size
 clear hW0 hP0
 go_enter Tryz.func15, Tryz.ntmps15
 go_wp2_with fail
 refine hS.mono ?_
 rintro e w1 hLd
 obtain ⟨rfl, psv1, es1, hW1, -, -, hone, hK1⟩ := hLd
 have hok : (zbi { data := #[101, 100, 103, 101, 40, 97, 44, 98, 41, 46, 32, 101, 100, 103, 101, 40, 98, 44, 99, 41, 46, 32, 112, 97, 116, 104, 40, 88, 44, 89, 41, 32, 58, 45, 32, 101, 100, 103, 101, 40, 88, 44, 89, 41, 46, 32, 112, 97, 116, 104, 40, 88, 44, 90, 41, 32, 58, 45, 32, 101, 100, 103, 101, 40, 88, 44, 89, 41, 44, 32, 112, 97, 116, 104, 40, 89, 44, 90, 41, 46, 32, 102, 97, 114, 40, 88, 41, 32, 58, 45, 32, 112, 97, 116, 104, 40, 97, 44, 88, 41, 44, 32, 110, 111, 116, 32, 101, 100, 103, 101, 40, 97, 44, 88, 41, 46] }).1 = true := ex_ok
 have hlen1 : es1.length = 1 := by simpa using hone hok
 have hB1 : Below w.heap.size w w1 := zar b0 hK1 (by simp; omega) (by simp [Value.ownBlock])
 have hBB1 : Below w0.heap.size w0 w1 := hw0.trans (hB1.mono hw0s)
 have hbx1 := za1 hbx hK1 (by simp [Value.ownBlock])
 have hz1 := hK1.size
 simp at hz1
 obtain ⟨ap1, cp1, rfl⟩ := zac hW1.row
 have hP1 : PlayIn w0 w (w.heap.size + 1) 0 (.slice ap1 es1.length cp1) (.slice none 0 0) (.slice none 0 0) (.slice none 0 0) es1 [] [] [] w1 := ⟨hW1, hB1, hBB1, by omega, by simp, by simp, by simp⟩
 have hA1 := hA w1 (w.heap.size + 1) _ _ _ _ es1 [] [] [] hBB1 hW1 (by omega) (by simp) (by simp) (by simp)
 unfold OpV.agg at hA1
 have hblk1 := hW1.blk
 rw [hlen1] at hblk1
 obtain ⟨p0, pf0⟩ := zab hblk1 0
 obtain ⟨y0, yf0⟩ := zab hbx1 0
 obtain ⟨y1, yf1⟩ := zab hbx1 1
 obtain ⟨y2, yf2⟩ := zab hbx1 2
 obtain ⟨y3, yf3⟩ := zab hbx1 3
 obtain ⟨y4, yf4⟩ := zab hbx1 4
 obtain ⟨y5, yf5⟩ := zab hbx1 5
 obtain ⟨y6, yf6⟩ := zab hbx1 6
 have HP1 := hide hP1
 have HA1 := hide hA1
 have HN1 := hide hlen1
 clear hS hbx hK1 b0 hok hP1 hA1 hW1 hblk1 hbx1 hB1 hBB1 hone hlen1 HP0
 go_wp2_with fail
 refine (zaa HA1).mono ?_
 rintro e w2 hst
 obtain ⟨rfl, hP2⟩ := (zaa HP1).step (k' := 0) hw0s hst (by omega) ⟨by rw [zaa HN1]; exact Nat.le_refl _, Nat.le_refl _, Nat.le_refl _, Nat.le_refl _⟩
 have HP2 := hide hP2
 clear hst hP2 HP1 HA1 HN1 p0 pf0 y0 y1 y2 y3 y4 y5 y6 yf0 yf1 yf2 yf3 yf4 yf5 yf6 hz1
 have HS := hide h
 have HKS := hide hks
 have HO := hide hO
 clear h hks hO hA hw0
 go_wp2_with fail
 go_loopg [9] len (fun gg i wr => ∃ k : Nat, k ≤ len ∧ gg = len - k ∧ i = .int .i64 k ∧ PlayAt w0 w (w.heap.size + 1) k wr)
 case atStart => exact ⟨0, Nat.zero_le _, rfl, rfl, zaa HP2⟩
 case round =>
  clear HP2
  obtain ⟨k, hk, hgk, rfl, hP⟩ := hrel
  by_cases hlk : k < len
  ·obtain ⟨g, off, rfl, hgl0, _⟩ := (zaa HS).el k hlk
   have hli : (k : Int) < len := by omega
   have HP := hide hP
   clear hP
   go_wp2_with fail
   go_loopg [10, 11] ks.length (fun gg v i wi => ∃ j : Nat, j ≤ ks.length ∧ gg = ks.length - j ∧ i = .int .i64 j ∧ v = .bool ((ks.take j).any (fun x => (O k).kd == x)) ∧ PlayAt w0 w (w.heap.size + 1) k wi)
   case atStart => exact ⟨0, Nat.zero_le _, rfl, rfl, rfl, zaa HP⟩
   case round =>
    clear HP
    obtain ⟨j, hj, hgj, rfl, rfl, hPA⟩ := hrel
    obtain ⟨psv, bv, tv, sv, es, mb, mt, ms, hP⟩ := hPA
    have hB := hP.below
    have hW := hP.lw
    obtain ⟨g', off', hga, hgl, c0, c1, c2, c3, c4, c5, c6, hs8⟩ := ((zaa HS).below hB).el k hlk
    injection hga with hga
    injection hga with h1 h2 _
    subst h1 h2
    have hkz := hB.size
    by_cases hjk : j < ks.length
    ·have hkc : wr.cell? ⟨kb, j, none⟩ = some (.int .i64 ks[j]) := (hB.cell (by simpa using hkb)).trans (zaa HKS j hjk)
     have hji : (j : Int) < ks.length := by omega
     have hat := any_take hjk (fun x => (O k).kd == x)
     have HPA : Hid (PlayAt w0 w (w.heap.size + 1) k wr) := hide ⟨psv, bv, tv, sv, es, mb, mt, ms, hP⟩
     have HAT := hide hat
     clear hat hP hB hW
     generalize (ks.take j).any (fun x => (O k).kd == x) = v0 at *
     generalize ks[j] = x0 at *
     cases v0
     ·go_wp2_with fail
      go_quiet (fail)
      go_wp2_with fail
      go_roundg (ks.length - (j + 1))
      case measure => omega
      case rel => exact ⟨j + 1, by omega, rfl, by go_num, by rw [zaa HAT]; rfl, (zaa HPA).drawn _⟩
     ·go_wp2_with fail
      go_quiet (fail)
      go_wp2_with fail
      go_roundg (ks.length - (j + 1))
      case measure => omega
      case rel => exact ⟨j + 1, by omega, rfl, by go_num, by rw [zaa HAT]; rfl, (zaa HPA).drawn _⟩
    ·have hje : j = ks.length := by omega
     have hjn : ¬ ((j : Int) < ks.length) := by omega
     have hme : (ks.take j).any (fun x => (O k).kd == x) = true → (O k).kd ∈ ks := fun he => by
      rw [hje, List.take_length, List.any_eq_true] at he
      obtain ⟨x, hx, he⟩ := he
      rw [beq_iff_eq.1 he]; exact hx
     have HME := hide hme
     have HP := hide hP
     clear hme hP hje hgj hj
     generalize (ks.take j).any (fun x => (O k).kd == x) = v0 at *
     cases v0
     ·have HPN := hide (PlayAt.next ⟨psv, bv, tv, sv, es, mb, mt, ms, zaa HP⟩)
      clear HP hB hW HME
      go_wp2_with fail
      go_roundg (len - (k + 1))
      case measure => omega
      case rel => exact ⟨k + 1, by omega, rfl, by go_num, zaa HPN⟩
     ·have hst := zaa HO k hlk (zaa HME rfl) wr (w.heap.size + 1) psv bv tv sv es mb mt ms (zaa HP).base hW (by have := (zaa HP).e; omega) (by have := (zaa HP).b; omega) (by have := (zaa HP).t; omega) (by have := (zaa HP).s; omega)
      unfold OpV.agg at hst
      have HST := hide hst
      clear hst hB hW
      go_wp2_with fail
      refine (zaa HST).mono ?_
      rintro e w3 hst
      obtain ⟨rfl, hP3⟩ := (zaa HP).step (k' := k + 1) hw0s hst (by omega) ⟨by have := (zaa HP).e; omega, by have := (zaa HP).b; omega, by have := (zaa HP).t; omega, by have := (zaa HP).s; omega⟩
      have HP3 := hide hP3
      obtain ⟨psv3, bv3, tv3, sv3, es3, mb3, mt3, ms3, hP3'⟩ := hP3
      have HL := hide (hlook w3 (w.heap.size + 1) psv3 bv3 tv3 sv3 es3 mb3 mt3 ms3 hP3'.lw (by have := hP3'.b; omega) (by have := hP3'.t; omega) (by have := hP3'.s; omega))
      clear hst hP3' HST HP c0 c1 c2 c3 c4 c5 c6 hkz
      go_wp2_with fail
      refine (zaa HL).mono ?_
      rintro e w4 hst4
      obtain ⟨rfl, hP4⟩ := (zaa HP3).still hw0s hst4
      have HP4 := hide hP4
      clear hst4 hP4 HP3 HL
      go_wp2_with fail
      go_roundg (len - (k + 1))
      case measure => omega
      case rel => exact ⟨k + 1, by omega, rfl, by go_num, zaa HP4⟩
  ·obtain ⟨psv, bv, tv, sv, es, mb, mt, ms, hP⟩ := hP
   have HB := hide hP.below
   clear hP
   go_wp2_with fail
   go_ret
   exact ⟨rfl, zaa HB⟩
end
end Go.Proofs.YtldkpahaocjdpaaGreat
