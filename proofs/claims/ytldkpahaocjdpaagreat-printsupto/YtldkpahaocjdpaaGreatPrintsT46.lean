/-
  The law's asked, at a Print and at a Strata.
  The law's load, with the programs' memory.
  The law's pick; what is in a list of strata that its owner has marked.
  A region that draws its order, whose first operations read alone and whose last ones stand in a row: the reads first, the rest in its order.
-/
import Derived.Test.YtldkpahaocjdpaaGreatPrintsT43
import Derived.Test.YtldkpahaocjdpaaGreatPrintsT45
import Derived.Test.YtldkpahaocjdpaaGreatPrintsT39
import Derived.Test.YtldkpahaocjdpaaGreatPrintsT36
import Derived.BigQuiet
import Derived.Deep.QuietTactic
import Derived.Test.YtldkpahaocjdpaaGreatProg
import Derived.StillTailTactics
import Derived.WalkKit
import Derived.KernelRfl
namespace Go.Proofs.YtldkpahaocjdpaaGreat
open Go.RowKit Go.Maps

theorem EntF.below {s : ByteArray} {xb yb : Nat} {w w' : World} {lo : Nat} (h : EntF s xb yb w lo) (k : Below w.heap.size w w') : EntF s xb yb w' lo := h.kept ((Kept.refl _ w).of_below k)

set_option maxRecDepth 100000 in
set_option maxHeartbeats 4000000 in
theorem asked_print (w : World) (b : Nat) (x y : Nat) (ps : ByteArray) (lo : Nat) (hp : EntF ps x y w lo) (a bb : Int) (s t u : ByteArray) (at_ : Option Addr) (nt ct : Nat) :
    Calls Tryz.prog 50 #[.pointer (some ⟨b, 0, none⟩), .agg #[.int .i64 2, .int .i64 a, .int .i64 bb, .string s, .string t, .string u, .slice at_ nt ct], .agg #[.pointer (some ⟨x, 0, none⟩), .pointer (some ⟨y, 0, none⟩), .string ps]] w (StillPost w) := by
  have b0 := ((Below.refl w.heap.size w).alloc (Nat.le_refl _) (.cells #[.int .i64 2, .int .i64 a, .int .i64 bb, .string s, .string t, .string u, .slice at_ nt ct] 26)).alloc (by simp) (.cells #[.pointer (some ⟨x, 0, none⟩), .pointer (some ⟨y, 0, none⟩), .string ps] 112)
  have h0 := hp.below b0
  have hpb : ((w.alloc (.cells #[.int .i64 2, .int .i64 a, .int .i64 bb, .string s, .string t, .string u, .slice at_ nt ct] 26)).alloc (.cells #[.pointer (some ⟨x, 0, none⟩), .pointer (some ⟨y, 0, none⟩), .string ps] 112)).heap[w.heap.size + 1]? = some (.cells #[.pointer (some ⟨x, 0, none⟩), .pointer (some ⟨y, 0, none⟩), .string ps] 112 (0, 0)) := by
    have := heap_alloc_new (w.alloc (.cells #[.int .i64 2, .int .i64 a, .int .i64 bb, .string s, .string t, .string u, .slice at_ nt ct] 26)) (.cells #[.pointer (some ⟨x, 0, none⟩), .pointer (some ⟨y, 0, none⟩), .string ps] 112)
    rw [World.size_alloc] at this
    exact this
  have hC := ent_print h0
  clear hp
  go_enter Tryz.func50, Tryz.ntmps50
  go_wp2_with fail
  refine hC.mono ?_
  rintro e w1 ⟨rfl, hb1⟩
  have hpb1 := (hb1.block (w.heap.size + 1) (by simp)).trans hpb
  obtain ⟨p1, pf1⟩ := block_cells hpb1 1
  have h1 := h0.below hb1
  have hB1 := b0.trans (hb1.mono (by simp; omega))
  have hC1 := ent_rprint h1
  clear hC hpb b0 h0 hb1 hpb1
  go_wp2_with fail
  refine hC1.mono ?_
  rintro e w2 ⟨rfl, hb2⟩
  have HB := hide (hB1.trans (hb2.mono hB1.size))
  clear hC1 hb2 hB1 h1 p1 pf1
  go_wp2_with fail
  go_ret
  exact ⟨by simp, unhide HB⟩

/-- Behind both lists' being put into the book: w: ahead of the step; W: behind the three calls and the comparing. -/
theorem two_book {w W w5 w6 : World} {b B1 : Nat} {A1 A2 : Value → Array Value} {tB e : TypeId} {mk : Nat → List Value} {v v5 v6 lv kv : Value} {ms : List MB} {m5 m6 : MB} (hB : Below w.heap.size w W) (s5 : StIn W b A1 tB e mk v ms lv v5 m5 w5) (s6 : StIn w5 b A2 tB e mk v5 (ms ++ [m5]) kv v6 m6 w6) (hl : ∀ g ∈ lv.ownBlock.toList, w.heap.size ≤ g ∧ g < B1) (hk : ∀ g ∈ kv.ownBlock.toList, w.heap.size ≤ g) :
    Kept (b :: v.ownBlock.toList) w w6 ∧ (∀ g ∈ v6.ownBlock.toList, g ∈ v.ownBlock.toList ∨ w.heap.size ≤ g) := by
  have hsW := hB.size
  have hs5 := s5.kept.size
  have k5 : Kept (b :: v.ownBlock.toList) w w5 := ((Kept.refl _ w).of_below hB).step s5.kept fun x hx => by
    rcases List.mem_cons.1 hx with rfl | hx
    · exact .inl List.mem_cons_self
    · rcases List.mem_append.1 hx with hx | hx
      · exact .inl (List.mem_cons_of_mem _ hx)
      · exact .inr (hl x hx).1
  have h5 : ∀ g ∈ v5.ownBlock.toList, g ∈ v.ownBlock.toList ∨ w.heap.size ≤ g := fun g hg => (s5.row g hg).imp id (by omega)
  refine ⟨k5.step s6.kept fun x hx => ?_, fun g hg => ?_⟩
  · rcases List.mem_cons.1 hx with rfl | hx
    · exact .inl List.mem_cons_self
    · rcases List.mem_append.1 hx with hx | hx
      · exact (h5 x hx).imp (List.mem_cons_of_mem _) id
      · exact .inr (hk x hx)
  · rcases s6.row g hg with h | h
    · exact h5 g h
    · exact .inr (by omega)

def AskPost (w : World) (b : Nat) (psv bv tv sv : Value) (es : List PE) (mb mt ms : List MB) : Ending → World → Prop := fun e w' => e = .returned (.bool true) ∧ ∃ bv' tv' sv' mb' mt' ms', LW w' b psv bv' tv' sv' es mb' mt' ms' ∧ mb'.length ≤ mb.length + 2 ∧ mt'.length ≤ mt.length + 2 ∧ ms'.length ≤ ms.length + 2 ∧ Kept (chg b psv bv tv sv) w w'

set_option maxRecDepth 100000 in
set_option maxHeartbeats 8000000 in
theorem asked_strata (w : World) (b : Nat) (psv bv tv sv : Value) (es : List PE) (mb mt ms : List MB) (h : LW w b psv bv tv sv es mb mt ms) (x y : Nat) (ps : ByteArray) (lo : Nat) (hp : EntF ps x y w lo) (hlen : ms.length + 2 ≤ 100000000) (a bb : Int) (s t u : ByteArray) (at_ : Option Addr) (nt ct : Nat) :
    Calls Tryz.prog 50 #[.pointer (some ⟨b, 0, none⟩), .agg #[.int .i64 3, .int .i64 a, .int .i64 bb, .string s, .string t, .string u, .slice at_ nt ct], .agg #[.pointer (some ⟨x, 0, none⟩), .pointer (some ⟨y, 0, none⟩), .string ps]] w (AskPost w b psv bv tv sv es mb mt ms) := by
  have b0 := ((Below.refl w.heap.size w).alloc (Nat.le_refl _) (.cells #[.int .i64 3, .int .i64 a, .int .i64 bb, .string s, .string t, .string u, .slice at_ nt ct] 26)).alloc (by simp) (.cells #[.pointer (some ⟨x, 0, none⟩), .pointer (some ⟨y, 0, none⟩), .string ps] 112)
  have h0 := hp.below b0
  have hpb : ((w.alloc (.cells #[.int .i64 3, .int .i64 a, .int .i64 bb, .string s, .string t, .string u, .slice at_ nt ct] 26)).alloc (.cells #[.pointer (some ⟨x, 0, none⟩), .pointer (some ⟨y, 0, none⟩), .string ps] 112)).heap[w.heap.size + 1]? = some (.cells #[.pointer (some ⟨x, 0, none⟩), .pointer (some ⟨y, 0, none⟩), .string ps] 112 (0, 0)) := by
    have := heap_alloc_new (w.alloc (.cells #[.int .i64 3, .int .i64 a, .int .i64 bb, .string s, .string t, .string u, .slice at_ nt ct] 26)) (.cells #[.pointer (some ⟨x, 0, none⟩), .pointer (some ⟨y, 0, none⟩), .string ps] 112)
    rw [World.size_alloc] at this
    exact this
  have hC := ent_strata h0
  clear hp
  go_enter Tryz.func50, Tryz.ntmps50
  go_wp2_with fail
  refine hC.mono ?_
  rintro e w1 ⟨v1, S1, ys1, rfl, hp1⟩
  obtain ⟨a1, c1, rfl⟩ := own_slice hp1.row
  have hb1 := hp1.below
  have hpb1 := (hb1.block (w.heap.size + 1) (by simp)).trans hpb
  obtain ⟨p0, pf0⟩ := block_cells hpb1 0
  have h1 := h0.below hb1
  have hz1 := hb1.size
  have hB1 := b0.trans (hb1.mono (by simp; omega))
  have hC1 := ent_strata h1
  have HP1 := hide hp1
  have HZ1 := hide hz1
  have HB1 := hide hB1
  have H1 := hide h1
  have HPB1 := hide hpb1
  have hw1 : w.heap.size + 1 < w1.heap.size := (Array.getElem?_eq_some_iff.1 hpb1).1
  clear hC hpb b0 h0 hb1 hpb1 hp1 hz1 hB1 h1
  go_wp2_with fail
  refine hC1.mono ?_
  rintro e w2 ⟨v2, S2, ys2, rfl, hp2⟩
  obtain ⟨a2, c2, rfl⟩ := own_slice hp2.row
  have hb2 := hp2.below
  have hpb2 := (hb2.block (w.heap.size + 1) hw1).trans (unhide HPB1)
  obtain ⟨q1, qf1⟩ := block_cells hpb2 1
  have h2 := (unhide H1).below hb2
  have hC2 := ent_rstrata h2
  have HP2 := hide hp2
  have HB2 := hide ((unhide HB1).trans (hb2.mono (unhide HB1).size))
  clear hC1 hb2 hpb2 hp2 h2 p0 pf0 H1 HPB1
  go_wp2_with fail
  refine hC2.mono ?_
  rintro e w3 ⟨v3, zs, rfl, hr⟩
  obtain ⟨a3, c3, rfl⟩ := own_slice hr.row
  have hp1 := unhide HP1
  have hp2 := unhide HP2
  obtain ⟨f1, l1⟩ := hr.fits hp1
  obtain ⟨f2, l2⟩ := hr.fits hp2
  have sz1 := hp1.below.size
  have sz2 := hp2.below.size
  have sz3 := hr.below.size
  have r1 : w3.ownsRow w.heap.size 185 3 (.slice a1 ys1.length c1) zs.length (zs.flatMap enc3) := by
    rw [f1, l1]
    exact own_below (own_below (ownsRow_low hp1.row (by simp; omega)) hp2.below (fun g e => (hp1.row.lt g e).2)) hr.below (fun g e => by have := (hp1.row.lt g e).2; omega)
  have r2 : w3.ownsRow w.heap.size 185 3 (.slice a2 ys2.length c2) zs.length (zs.flatMap enc3) := by
    rw [f2, l2]
    exact own_below (ownsRow_low hp2.row (by omega)) hr.below (fun g e => (hp2.row.lt g e).2)
  have d1 : ∀ g ∈ (Value.slice a1 ys1.length c1).ownBlock.toList, w.heap.size ≤ g ∧ g < w1.heap.size := fun g hg => ⟨(r1.lt g (by simpa using hg)).1, (hp1.row.lt g (by simpa using hg)).2⟩
  have d2 : ∀ g ∈ (Value.slice a2 ys2.length c2).ownBlock.toList, w1.heap.size ≤ g ∧ g < w3.heap.size := fun g hg => ⟨(hp2.row.lt g (by simpa using hg)).1, (r2.lt g (by simpa using hg)).2⟩
  have R1 := hide r1
  have R2 := hide r2
  have R3 := hide hr.row
  have D1 := hide d1
  have D2 := hide d2
  have L1 := hide l1
  have L2 := hide l2
  have hfew := hr.few
  have n1f : ys1.length ≤ 1000 := by omega
  have n2f : ys2.length ≤ 1000 := by omega
  have HL3 := hide (h.below ((unhide HB2).trans (hr.below.mono (unhide HB2).size)))
  have HB3 := hide ((unhide HB2).trans (hr.below.mono (unhide HB2).size))
  have HLW := hide h
  clear hp1 hp2 HP1 HP2 hr f1 f2 l1 l2 sz1 sz2 sz3 r1 r2 d1 d2 hC2 HB1 HB2 HZ1 q1 qf1 h
  go_wp2_with fail
  refine (sameStrata_yes w3 _ _ a1 a3 ys1.length zs.length c1 c3 zs (unhide R1) (unhide R3) (unhide L1).symm rfl (by omega)).mono ?_
  rintro e w4 ⟨rfl, q, rfl⟩
  go_wp2_with fail
  refine (sameStrata_yes (w3.drewN q) _ _ a2 a3 ys2.length zs.length c2 c3 zs (unhide R2) (unhide R3) (unhide L2).symm rfl (by omega)).mono ?_
  rintro e w4 ⟨rfl, q', rfl⟩
  have HLW4 : Hid (LW ((w3.drewN q).drewN q') b psv bv tv sv es mb mt ms) := hide ((unhide HL3).below (below_drewN (below_drewN (Below.refl _ _) _) _))
  have HB4 : Hid (Below w.heap.size w ((w3.drewN q).drewN q')) := hide (below_drewN (below_drewN (unhide HB3) _) _)
  have R1' : Hid (((w3.drewN q).drewN q').ownsRow w.heap.size 185 3 (.slice a1 ys1.length c1) ys1.length (zs.flatMap enc3)) := by
    have := unhide R1
    rw [unhide L1] at this
    exact this
  have R2' : Hid (((w3.drewN q).drewN q').ownsRow w.heap.size 185 3 (.slice a2 ys2.length c2) ys2.length (zs.flatMap enc3)) := by
    have := unhide R2
    rw [unhide L2] at this
    exact this
  have D2' : Hid (∀ g ∈ (Value.slice a2 ys2.length c2).ownBlock.toList, w1.heap.size ≤ g ∧ g < ((w3.drewN q).drewN q').heap.size) := unhide D2
  clear R1 R2 R3 HL3 HB3 D2 L1 L2
  generalize (w3.drewN q).drewN q' = W at *
  have hfree : ∀ m ∈ ms, ∀ g ∈ (Value.slice a1 ys1.length c1).ownBlock.toList, g ∉ m.blocks := fun m hm g hg hgm => by
    have := ((unhide HLW).ss.each m hm).lt g hgm
    have := (unhide D1 g hg).1
    omega
  go_wp2_with fail
  refine (stratum_any W b psv bv tv sv ms a1 ys1.length c1 _ (unhide HLW4).blk (unhide HLW4).ss (ownsRow_low (unhide R1') (Nat.zero_le _)) n1f hfree (by omega)).mono ?_
  rintro e w5 ⟨rfl, sv5, m5, st5⟩
  clear hfree
  have hrow5 : w5.ownsRow 0 185 3 (.slice a2 ys2.length c2) ys2.length (zs.flatMap enc3) := by
    refine own_block (ownsRow_low (unhide R2') (Nat.zero_le _)) (fun g hg => st5.kept.block g ((unhide R2').lt g hg).2 ?_)
    have hd := unhide D2' g (by simpa using hg)
    intro hm
    rcases List.mem_cons.1 hm with rfl | hm
    · have := (unhide HLW).lt; omega
    · rcases List.mem_append.1 hm with hm | hm
      · have := ((unhide HLW).ss.row.lt g (by simpa using hm)).2; omega
      · have := (unhide D1 g hm).2; omega
  have hfree5 : ∀ m ∈ ms ++ [m5], ∀ g ∈ (Value.slice a2 ys2.length c2).ownBlock.toList, g ∉ m.blocks := fun m hm g hg hgm => by
    have hd := unhide D2' g hg
    rcases List.mem_append.1 hm with hm | hm
    · have := ((unhide HLW).ss.each m hm).lt g hgm
      omega
    · rw [List.mem_singleton.1 hm] at hgm
      rcases st5.far g hgm with h | h
      · have := (unhide D1 g h).2; omega
      · omega
  have ST5 := hide st5
  have HBK5 := hide st5.blk
  have HS5 := hide st5.book
  have HR5 := hide hrow5
  have HF5 := hide hfree5
  have hlen5 : Hid ((ms ++ [m5]).length ≤ 100000000) := by show _ ≤ _; rw [List.length_append, List.length_singleton]; omega
  clear st5 hrow5 hfree5
  go_wp2_with fail
  refine (stratum_any w5 b psv bv tv sv5 (ms ++ [m5]) a2 ys2.length c2 _ (unhide HBK5) (unhide HS5) (unhide HR5) n2f (unhide HF5) (unhide hlen5)).mono ?_
  rintro e w6 ⟨rfl, sv6, m6, st6⟩
  have hfin := two_book (unhide HB4) (unhide ST5) st6 (unhide D1) (fun g hg => by have := (unhide D2' g hg).1; omega)
  have HE := hide ((unhide HLW).addS hfin.1 st6.blk st6.book hfin.2)
  clear hfin st6 ST5 HBK5 HS5 HR5 HF5 hlen5
  go_wp2_with fail
  go_ret
  exact ⟨rfl, bv, tv, sv6, mb, mt, _, (unhide HE).1, by omega, by omega, by simp, (unhide HE).2⟩
end Go.Proofs.YtldkpahaocjdpaaGreat

namespace Go.Proofs.YtldkpahaocjdpaaGreat
open Go.RowKit

def Ld2Post (s : ByteArray) (w : World) (b : Nat) (psv bv tv sv : Value) (es : List PE) (mb mt ms : List MB) (e : Ending) (w' : World) : Prop := e = .returned (.bool true) ∧ ∃ psv' es', LW w' b psv' bv tv sv es' mb mt ms ∧ es.length ≤ es'.length ∧ es'.length ≤ es.length + 1 ∧ ((refLoad s).1 = true → es'.length = es.length + 1) ∧ Kept (chg b psv bv tv sv) w w'

theorem blk_ge {g H n c : Nat} (e : g = H) : ∀ g', (Value.slice (some ⟨g, 0, none⟩) n c).ownBlock = some g' → H ≤ g' := fun g' e' => by
  have : g = g' := by simpa [Value.ownBlock] using e'
  omega
theorem ProgIn.low {w : World} {lo lo' b : Nat} {rs : List PR} (h : ProgIn w lo b rs) (hl : lo' ≤ lo) : ProgIn w lo' b rs := by
  obtain ⟨a, c, hb, hlo, hr⟩ := h
  exact ⟨a, c, hb, by omega, hr.low hl⟩
theorem ProgIn.below {w w' : World} {lo b : Nat} {rs : List PR} (h : ProgIn w lo b rs) (k : Below w.heap.size w w') : ProgIn w' lo b rs := by
  obtain ⟨a, c, hb, hlo, hr⟩ := h
  exact ⟨a, c, (k.block b (Array.getElem?_eq_some_iff.1 hb).1).trans hb, hlo, hr.below k⟩

theorem entF_of {s : ByteArray} {w w0 w1 w2 : World} {pb : Nat} {rs : List PR} {ya : Addr} (hok : (refLoad s).1 = true) (hx : ProgIn w1 w0.heap.size pb rs) (hr : rs.map (·.R) = (pparsed s).2.2.1) (h0 : w.heap.size ≤ w0.heap.size) (h1 : w0.heap.size ≤ w1.heap.size) (hb : Below w1.heap.size w1 w2) (hy : RKept s w1 (some ya) w2) : ∃ yb, ya = ⟨yb, 0, none⟩ ∧ EntF s pb yb w2 w.heap.size := by
  obtain ⟨o, rs', ps, rv, pv, tv, gs, S, e, h2, h3, h4, h5, h6, h7, h8, h9, h10⟩ := hy ya rfl
  exact ⟨o, e, hok, ⟨rs, (hx.low h0).below hb, hr⟩, rs', ps, rv, pv, tv, gs, S, by omega, h3, h4, h5, h6, h7, h8, h9, h10⟩

set_option maxRecDepth 100000 in
set_option maxHeartbeats 8000000 in
theorem law_load2 (w : World) (b : Nat) (psv bv tv sv : Value) (es : List PE) (mb mt ms : List MB) (kd a bb : Int) (s t u : ByteArray) (at_ : Option Addr) (nt ct : Nat) (h : LW w b psv bv tv sv es mb mt ms) (hs : s.size ≤ maxLen) (hn : (es.length + 1) * 32 ≤ 140737488355328) :
    Calls Tryz.prog 48 #[.pointer (some ⟨b, 0, none⟩), .agg #[.int .i64 kd, .int .i64 a, .int .i64 bb, .string s, .string t, .string u, .slice at_ nt ct]] w (Ld2Post s w b psv bv tv sv es mb mt ms) := by
  obtain ⟨i0, hi, hz0, hz1, hz2⟩ := info_parts infoProg
  have b0 := (Below.refl w.heap.size w).alloc (Nat.le_refl _) (.cells #[.int .i64 kd, .int .i64 a, .int .i64 bb, .string s, .string t, .string u, .slice at_ nt ct] 26)
  have hbx : (w.alloc (.cells #[.int .i64 kd, .int .i64 a, .int .i64 bb, .string s, .string t, .string u, .slice at_ nt ct] 26)).heap[w.heap.size]? = _ := heap_alloc_new w _
  have hP := pload_any (w.alloc (.cells #[.int .i64 kd, .int .i64 a, .int .i64 bb, .string s, .string t, .string u, .slice at_ nt ct] 26)) s hs
  rw [load_eq] at hP
  have hlt := h.lt
  go_enter Tryz.func48, Tryz.ntmps48
  go_wp2_with fail
  refine hP.mono ?_
  rintro e w1 ⟨hb1, hno, hyes⟩
  have hbx1 := (hb1.block w.heap.size (by simp)).trans hbx
  obtain ⟨x3, xf3⟩ := block_cells hbx1 3
  have hz1' := hb1.size
  have hz1'' := hz1'
  rw [World.size_alloc] at hz1'
  have hB1 := b0.trans (hb1.mono (by simp))
  clear hP hbx hb1 b0
  cases hr : (refLoad s).1 with
  | false =>
    have he := hno hr
    subst he
    clear hno hyes hz1''
    go_wp2_with fail
    refine (refLoad_any s w1).mono ?_
    rintro e w2 ⟨y, rfl, hy, hb2⟩
    have hyn : y = none := by rw [hr] at hy; cases y with | none => rfl | some _ => cases hy
    subst hyn
    have HB := hide (hB1.trans (hb2.mono (by omega)))
    have HH := hide h
    clear hb2 hB1 x3 xf3 hy hbx1 h
    go_wp2_with fail
    go_ret
    exact ⟨rfl, psv, es, (unhide HH).below (unhide HB), Nat.le_refl _, Nat.le_succ _, (fun h => by rw [hr] at h; cases h), (Kept.refl _ _).of_below (unhide HB)⟩
  | true =>
    obtain ⟨pb, rs, he, hpi, hrs⟩ := hyes hr
    subst he
    have HPI := hide hpi
    have HRS := hide hrs
    have HZ1 := hide hz1''
    clear hno hyes hpi hrs hz1''
    go_wp2_with fail
    refine (refLoad_full s w1).mono ?_
    rintro e w2 ⟨y, rfl, hy, hb2, hrk⟩
    obtain ⟨ya, rfl⟩ : ∃ ya, y = some ya := by rw [hr] at hy; cases y with | none => cases hy | some z => exact ⟨z, rfl⟩
    obtain ⟨yb, rfl, hent⟩ := entF_of (w := w) hr (unhide HPI) (unhide HRS) (by simp) (unhide HZ1) hb2 hrk
    have hbx2 := (hb2.block w.heap.size (by omega)).trans hbx1
    have hz2' := hb2.size
    have hB2 := hB1.trans (hb2.mono (by omega))
    have h2 := h.below hB2
    have hrow := h2.row
    obtain ⟨ap, cp, rfl⟩ := own_slice hrow
    have hblk := h2.blk
    obtain ⟨y3, yf3⟩ := block_cells hbx2 3
    obtain ⟨p0, pf0⟩ := block_cells hblk 0
    have hblt := h2.lt
    have s1 : Hid (((w2.alloc (Obj.cells #[.pointer (some ⟨pb, 0, none⟩), .pointer (some ⟨yb, 0, none⟩), .string s] 112)).drew).ownsRow (b + 1) 112 3 (.slice ap es.length cp) es.length (es.flatMap PE.cells)) := hrow.alloc _
    have s2 : Hid (∀ j u, ([Value.pointer (some ⟨pb, 0, none⟩), .pointer (some ⟨yb, 0, none⟩), .string s] : List Value)[j]? = some u → ((w2.alloc (Obj.cells #[.pointer (some ⟨pb, 0, none⟩), .pointer (some ⟨yb, 0, none⟩), .string s] 112)).drew).cell? ((⟨w2.heap.size, 0, none⟩ : Addr).add j) = some u) := World.news_of_block (heap_alloc_new w2 _)
    have s3 : Hid (∀ u ∈ ([Value.pointer (some ⟨pb, 0, none⟩), .pointer (some ⟨yb, 0, none⟩), .string s] : List Value), u.oneCell' = true) := by
      show ∀ u ∈ _, _
      intro u hu; simp at hu; rcases hu with rfl | rfl | rfl <;> rfl
    have s4 : Hid (es.length + 1 ≤ maxLen) := by show _ ≤ _; unfold maxLen; omega
    have s5 : Hid ((es.length + 1) * 32 ≤ 140737488355328) := hn
    have s6 : Hid (b + 1 ≤ ((w2.alloc (Obj.cells #[.pointer (some ⟨pb, 0, none⟩), .pointer (some ⟨yb, 0, none⟩), .string s] 112)).drew).heap.size) := by show _ ≤ _; simp; omega
    have s8 := hide (fun (w5 : World) (g cap : Nat) (hg : ((w2.alloc (Obj.cells #[.pointer (some ⟨pb, 0, none⟩), .pointer (some ⟨yb, 0, none⟩), .string s] 112)).drew).grownBy w5 (Value.slice ap es.length cp).ownBlock) (hown : w5.ownsRow (b + 1) 112 3 (.slice (some ⟨g, 0, none⟩) (es.length + 1) cap) (es.length + 1) (es.flatMap PE.cells ++ [Value.pointer (some ⟨pb, 0, none⟩), .pointer (some ⟨yb, 0, none⟩), .string s])) (hat : (Value.slice ap es.length cp).ownBlock = some g ∨ g = ((w2.alloc (Obj.cells #[.pointer (some ⟨pb, 0, none⟩), .pointer (some ⟨yb, 0, none⟩), .string s] 112)).drew).heap.size) => LW.addP (W := (w2.alloc (Obj.cells #[.pointer (some ⟨pb, 0, none⟩), .pointer (some ⟨yb, 0, none⟩), .string s] 112)).drew) (p := ⟨pb, yb, s⟩) h hB2 hent (((Kept.refl [] w2).alloc _).drew) hg hown (hat.imp (fun e => e.symm) (fun e => blk_ge e)))
    have HB := hide hB2
    clear hb2 hB1 x3 xf3 hy hbx1 h hbx2 h2 hrow hblk hB2 hent hrk
    go_wp2_with fail
    go_region_law (refine step_append_lies _ rfl (.tmp 46) (.tmp 52) 62 rfl (b + 1) 112 i0 (.agg #[.pointer none, .pointer none, .string { data := #[] }]) 3 32 Tryz.underlying62 hi hz0 hz1 hz2 rfl (by decide) (Value.slice ap es.length cp) es.length (es.flatMap PE.cells) (by simp [Act.eval]) (unhide s1) ⟨w2.heap.size, 0, none⟩ 1 1 [Value.pointer (some ⟨pb, 0, none⟩), .pointer (some ⟨yb, 0, none⟩), .string s] (by simp [Act.eval]) rfl (unhide s2) (unhide s3) (by decide) (unhide s4) (unhide s5) (unhide s6) _ rfl ?_; intro g cap w5 hown5 hg5 hat5 hlt5; obtain ⟨e1, e2, e3⟩ := unhide s8 w5 g cap hg5 hown5 hat5; obtain ⟨z0, zf0⟩ := block_cells e3 0)
    all_goals
      clear s1 s2 s3 s4 s5 s6 s8
      go_wp2_with fail
      go_ret
      exact ⟨rfl, _, _, e1, by simp, by simp, fun _ => by simp, e2⟩
end Go.Proofs.YtldkpahaocjdpaaGreat

namespace Go.Proofs.YtldkpahaocjdpaaGreat
open Go.RowKit Go.Maps

def PickPost (n : Nat) (w : World) : Ending → World → Prop := fun e w' => (∃ k : Nat, k < n ∧ e = .returned (.int .i64 k)) ∧ w' = w

theorem pick_low {c : Int} {n : Nat} (hc : c < 0) (hn : 0 < n) : ∃ k : Nat, k < n ∧ -(c + 1).tmod n = (k : Int) := by
  obtain ⟨d, hd⟩ : ∃ d : Nat, c + 1 = -(d : Int) := ⟨(-(c + 1)).toNat, by omega⟩
  refine ⟨d % n, Nat.mod_lt _ hn, ?_⟩
  rw [hd, Int.neg_tmod, Int.neg_neg, Int.tmod_eq_emod_of_nonneg (by omega)]
  simp
theorem pick_high {c : Int} {n : Nat} (hc : 0 ≤ c) (hn : 0 < n) : ∃ k : Nat, k < n ∧ c % n = (k : Int) := by
  obtain ⟨d, rfl⟩ : ∃ d : Nat, c = (d : Int) := ⟨c.toNat, by omega⟩
  exact ⟨d % n, Nat.mod_lt _ hn, by simp⟩

set_option maxRecDepth 100000 in
set_option maxHeartbeats 4000000 in
theorem pick_any (w : World) (c : Int) (n : Nat) (hn : 0 < n) (hl : n ≤ 1000000000000) (h1 : -9223372036854775808 ≤ c) (h2 : c ≤ 9223372036854775807) :
    Calls Tryz.prog 51 #[.int .i64 c, .int .i64 n] w (PickPost n w) := by
  have hn0 : ¬ ((n : Int) = 0) := by omega
  have hni : (0 : Int) < n := by omega
  go_enter Tryz.func51, Tryz.ntmps51
  by_cases hc : c < 0
  · obtain ⟨k, hk, e⟩ := pick_low hc hn
    have HE := hide e
    clear e
    go_wp2_with fail
    go_ret
    exact ⟨⟨k, hk, by rw [← unhide HE]; rfl⟩, rfl⟩
  · obtain ⟨k, hk, e⟩ := pick_high (Int.not_lt.1 hc) hn
    have HE := hide e
    clear e
    go_wp2_with fail
    go_ret
    exact ⟨⟨k, hk, by rw [← unhide HE]; rfl⟩, rfl⟩
end Go.Proofs.YtldkpahaocjdpaaGreat

namespace Go.Proofs.YtldkpahaocjdpaaGreat
open Go.RowKit

theorem still_tail_drew {P : Program} {id : Nat} {Q : Exit → Act → World → Prop} {a : Act} {w : World} {l : List Oper} (n : Nat) (hm : P.follows .mixedOrders = true) (hB : Region.lexTailB .any l.toArray n = true)
    (h : ∀ W, W = w.drew → wpStill P l.toArray W (fun a' => wpList P l.toArray Q (l.drop n) a' W) (l.take n) a) : (Code.region id l.toArray true).wp P Q a w := wp_region_still_tail n hm hB (h _ rfl)

theorem mixedP : Tryz.prog.follows .mixedOrders = true := by kernel_rfl
end Go.Proofs.YtldkpahaocjdpaaGreat
