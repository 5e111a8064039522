/-
  The reference's Load: at every text the answer is the plain text's (refLoad); it ends, and no old memory has turned.
-/
import Derived.Test.YtldkpahaocjdpaaGreatQueriesT17
set_option maxHeartbeats 16000000
namespace Go.Proofs.YtldkpahaocjdpaaGreat
section
open Go.RowKit
theorem infoRule : (Tryz.prog.info? 246).map (fun i => (i.zero, i.size, i.bytes)) = some (some (.agg #[.string { data := #[] }, .slice none 0 0, .bool false, .int .i64 0, .int .i64 0, .slice none 0 0]), 6, 88) := by kernel_rfl
structure LdInv (w : World) (b o : Nat) (s : ByteArray) (rs : List RR) (p : Nat) (bd : Int) (rv : Value) (wr : World) : Prop where
 pars : Pars wr b s p bd
 hp : p ≤ s.size
 mem : PMem2 wr o rs [] [] rv (.slice none 0 0) (.slice none 0 0) (.slice none 0 0)
 bo : b < o
 bw : w.heap.size ≤ b
 below : Below w.heap.size w wr
 few : ∀ r ∈ rs, r.R.body.length ≤ 4
theorem LdInv.call {w : World} {b o : Nat} {s : ByteArray} {rs : List RR} {p : Nat} {bd : Int} {rv : Value} {wr w1 : World} {p' : Nat} {bd' : Int} (h : LdInv w b o s rs p bd rv wr) (k : Kept [b] wr w1) (hp : Pars w1 b s p' bd') (hl : p' ≤ s.size) : LdInv w b o s rs p' bd' rv w1 :=
 have h1 := h.bo
 have h2 := h.bw
 ⟨hp, hl, h.mem.kept k (by simp; omega), h.bo, h.bw, h.below.trans ⟨k.os, k.tape, k.output, k.size, fun i hi => k.block i (Nat.lt_of_lt_of_le hi h.below.size) (by simp; omega)⟩, h.few⟩
theorem ld_start {s : ByteArray} {w w1 : World} (hb1 : Below (w.alloc (Obj.cells #[Value.string s, .int .u8 0, .string { data := #[] }, .int .i64 0, .int .i64 0, .int .i64 (-1)] 235)).heap.size (w.alloc (Obj.cells #[Value.string s, .int .u8 0, .string { data := #[] }, .int .i64 0, .int .i64 0, .int .i64 (-1)] 235)) w1) :
  LdInv w w.heap.size w1.heap.size s [] 0 (-1) (.slice none 0 0) (((((w1.setCell ⟨w.heap.size, 1, none⟩ (.int .u8 (tok s 0).kind)).setCell ⟨w.heap.size, 2, none⟩ (.string (tok s 0).text)).setCell ⟨w.heap.size, 3, none⟩ (.int .i64 (tok s 0).at_)).setCell ⟨w.heap.size, 4, none⟩ (.int .i64 (tok s 0).to)).alloc (Obj.cells #[Value.slice none 0 0, Value.slice none 0 0, Value.slice none 0 0, Value.slice none 0 0] 240)) := by
 have hz := hb1.size
 simp at hz
 have x : ∀ j, w1.cell? ⟨w.heap.size, j, none⟩ = #[Value.string s, .int .u8 0, .string { data := #[] }, .int .i64 0, .int .i64 0, .int .i64 (-1)][j]? := fun j => (hb1.cell (p := ⟨w.heap.size, j, none⟩) (by simp)).trans (by rw [World.cell?_alloc_at _ _ _ _ rfl])
 have xf : ∀ j, w1.frozen? ⟨w.heap.size, j, none⟩ = false := fun j => (hb1.frozen (p := ⟨w.heap.size, j, none⟩) (by simp)).trans (by rw [World.frozen?_alloc_at _ _ _ _ rfl])
 have x0 : w1.cell? ⟨w.heap.size, 0, none⟩ = some (.string s) := x 0
 have x1 : w1.cell? ⟨w.heap.size, 1, none⟩ = some (.int .u8 0) := x 1
 have x2 : w1.cell? ⟨w.heap.size, 2, none⟩ = some (.string { data := #[] }) := x 2
 have x3 : w1.cell? ⟨w.heap.size, 3, none⟩ = some (.int .i64 0) := x 3
 have x4 : w1.cell? ⟨w.heap.size, 4, none⟩ = some (.int .i64 0) := x 4
 have x5 : w1.cell? ⟨w.heap.size, 5, none⟩ = some (.int .i64 (-1)) := x 5
 clear x
 have kk := zka w1 w.heap.size (.int .u8 (tok s 0).kind) (.string (tok s 0).text) (.int .i64 (tok s 0).at_) (.int .i64 (tok s 0).to)
 have hp : Pars ((((w1.setCell ⟨w.heap.size, 1, none⟩ (.int .u8 (tok s 0).kind)).setCell ⟨w.heap.size, 2, none⟩ (.string (tok s 0).text)).setCell ⟨w.heap.size, 3, none⟩ (.int .i64 (tok s 0).at_)).setCell ⟨w.heap.size, 4, none⟩ (.int .i64 (tok s 0).to)) w.heap.size s 0 (-1) := by
  refine ⟨by simp; omega, ?_, ?_, ?_, ?_, ?_, ?_, ?_⟩
  all_goals go_simp
 have hbb : Below w.heap.size w w1 := ((Below.refl _ _).alloc (Nat.le_refl _) _).trans (hb1.mono (by simp))
 generalize hW : (((w1.setCell ⟨w.heap.size, 1, none⟩ (.int .u8 (tok s 0).kind)).setCell ⟨w.heap.size, 2, none⟩ (.string (tok s 0).text)).setCell ⟨w.heap.size, 3, none⟩ (.int .i64 (tok s 0).at_)).setCell ⟨w.heap.size, 4, none⟩ (.int .i64 (tok s 0).to) = W at *
 have hWs : W.heap.size = w1.heap.size := by rw [← hW]; simp
 refine ⟨hp.kept ((Kept.refl [] _).alloc _) (by simp), Nat.zero_le _, ?_, by omega, Nat.le_refl _, ?_, by simp⟩
 ·rw [← hWs]
  refine ⟨by simp, ?_, ?_, ?_, ?_, ?_, World.ownsRow_nil _ _ _ _, by simp, World.ownsRow_nil _ _ _ _, World.ownsRow_nil _ _ _ _⟩
  all_goals first | (rw [World.cell?_alloc_at _ _ _ _ rfl]; rfl) | (intro o; rw [World.frozen?_alloc_at _ _ _ _ rfl])
 ·have k1 : Below w.heap.size w1 W := ⟨kk.os, kk.tape, kk.output, kk.size, fun i hi => kk.block i (by omega) (by simp; omega)⟩
  exact (hbb.trans k1).alloc (by omega) _
theorem zmi (w1 : World) (o : Obj) (r : RR) : (((w1.alloc o).alloc (Obj.cells #[Value.string r.R.head.pred, r.hv, .bool r.R.head.no, .int .i64 r.R.head.at_, .int .i64 r.R.head.noAt, r.bv] 246)).drew).heap[w1.heap.size + 1]? = some (.cells #[Value.string r.R.head.pred, r.hv, .bool r.R.head.no, .int .i64 r.R.head.at_, .int .i64 r.R.head.noAt, r.bv] 246 (0, 0)) := by
 have := heap_alloc_new (w1.alloc o) (Obj.cells #[Value.string r.R.head.pred, r.hv, .bool r.R.head.no, .int .i64 r.R.head.at_, .int .i64 r.R.head.noAt, r.bv] 246)
 rw [World.size_alloc] at this
 exact this
theorem rr_one (R : RRule) (a b : Option Addr) (n m c d : Nat) (bs : List (RAtom × Value)) : ∀ u ∈ (RR.mk R (.slice a n c) bs (.slice b m d)).cells, u.oneCell' = true := by
 intro u hu; simp [RR.cells] at hu; rcases hu with rfl | rfl | rfl | rfl | rfl | rfl <;> rfl
def RKept (s : ByteArray) (w : World) (y : Option Addr) (w' : World) : Prop := ∀ a, y = some a → ∃ (o : Nat) (rs : List RR) (ps : List (ByteArray × Nat)) (rv pv tv : Value) (gs : Nat) (S : Nat → Nat), a = ⟨o, 0, none⟩ ∧ w.heap.size ≤ o ∧ o < gs ∧ PMem w' o rs ps rv pv tv (.slice (some ⟨gs, 0, none⟩) ps.length ps.length) ∧ SRow w' gs ps.length S ∧ zgz ps (rs.map (·.R)) S ∧ Low ps (rs.map (·.R)) S ∧ rs.map (·.R) = (za8 s).1 ∧ ps = (zau s).2 ∧ zhd ps ((za8 s).1.flatMap RRule.atoms)
theorem ze0 (s : ByteArray) (w w' : World) : RKept s w none w' := fun _ h => by cases h
set_option maxRecDepth 100000 in
theorem load_short (s : ByteArray) (w : World) (hs : s.size ≤ 800) :
  Calls Tryz.prog 79 #[.string s] w fun e w' => ∃ y : Option Addr, e = .returned (.tuple #[.pointer y, .int .i64 (zbi s).2.1, .int .i64 (zbi s).2.2]) ∧ y.isSome = (zbi s).1 ∧ Below w.heap.size w w' ∧ RKept s w y w' := by
 have hsm : s.size ≤ maxLen := by unfold maxLen; omega
 have hsI : (s.size : Int) ≤ 800 := by omega
 obtain ⟨i0, hi, hz0, hz1, hz2⟩ := info_parts infoRule
 go_enter Tryz.func79, Tryz.ntmps79
 go_wp2_with fail
 refine (zm6 s 0 (Nat.zero_le _) hsm _).mono ?_
 rintro e w1 ⟨rfl, hb1⟩
 obtain ⟨r1, r2⟩ := zj0 hb1
 have hz : w.heap.size < w1.heap.size := by have := hb1.size; simp at this; omega
 have HST := hide (ld_start hb1)
 go_wp2_with fail
 clear r1 r2 hb1
 go_loopg [7] 32 (fun gg r7 wr => ∃ (rs : List RR) (p : Nat) (bd : Int) (rv : Value), rs.length ≤ 31 ∧ (rs.length = 31 → 0 ≤ bd) ∧ gg = 32 - rs.length ∧ LdInv w w.heap.size w1.heap.size s rs p bd rv wr ∧ za8 s = zeo s (31 - (rs.map (·.R)).length) p bd (rs.map (·.R)))
 case atStart => exact ⟨[], 0, -1, _, by simp, by simp, rfl, zaa HST, rfl⟩
 case round =>
  clear HST
  obtain ⟨rs, p, bd, rv, hl31, hl31b, hgg, hinv, hfin⟩ := hrel
  have HF := hide hfin
  clear hfin
  obtain ⟨ar, capr, rfl⟩ := zac hinv.mem.rules
  obtain ⟨hltp, c0, c1, c2, c3, c4, c5, fz⟩ := hinv.pars
  have hbo := hinv.bo
  cases hgo : zeq s p bd with
  | true =>
   have hk46 : ((tok s p).kind != 46) = true := by unfold zeq at hgo; simp at hgo; simpa using hgo.1
   have hbd : bd < 0 := by unfold zeq at hgo; simp at hgo; exact hgo.2
   have hl30 : rs.length ≤ 30 := by rcases Nat.lt_or_ge rs.length 31 with h1 | h1; omega; have := hl31b (by omega); omega
   have hst := (zaa HF).trans (rules_step s p bd (rs.map (·.R)) (by simpa using hl30) hgo)
   rw [List.length_map] at hst
   have HF2 := hide hst
   have d0 := hinv.mem.c0
   have hol := hinv.mem.lt
   have hlI : (rs.length : Int) ≤ 30 := by omega
   clear HF hst hgo hl31 hl31b
   by_cases t30 : rs.length = 30
   ·have tb : zad s p bd rs.length = zdz s p bd := by simp [zad, t30]
    have t30' : ((rs.length : Int) == 30) = true := by simp; omega
    have TB := hide tb
    clear tb t30
    go_wp2_with fail
    refine (zd6 s p bd w.heap.size _ hinv.pars).mono ?_
    rintro e w0 ⟨rfl, hk0, hp0⟩
    rw [← zaa TB] at hp0
    have hinv0 := hinv.call hk0 hp0 hinv.hp
    clear hk0 hp0 c0 c1 c2 c3 c4 c5 fz hinv d0
    go_wp2_with fail
    refine (rule_any s p (zad s p bd rs.length) w.heap.size _ hinv0.pars hinv0.hp hsm).mono ?_
    rintro e w3 ⟨hv, bs, bv, rfl, hk3, hp3, hl3, hin3⟩
    obtain ⟨ah, ch, hhv⟩ := zac hin3.hd
    obtain ⟨ab, cb, hbv⟩ := zac hin3.bo
    generalize hnh : (RRule.mk (zah s p (zad s p bd rs.length)) (zcr s p (zad s p bd rs.length)).1).head.terms.length = nh at hhv
    generalize hnb : bs.length = nb at hbv
    subst hhv hbv
    have hol3 := hinv0.mem.lt
    have hinv3 := hinv0.call hk3 hp3 hl3
    have hin4 : RuleIn w3 (w1.heap.size + 1) (zdv s p (zad s p bd rs.length)) (.slice ah nh ch) bs (.slice ab nb cb) := ⟨zaf hin3.hd (by omega), zaf hin3.bo (by omega), fun x hx => zaf (hin3.bl x hx) (by omega), hin3.eq⟩
    have hrow := hinv3.mem.rules
    have hol4 := hinv3.mem.lt
    have s1 : Hid ((((w3.alloc (Obj.cells #[Value.string (zah s p (zad s p bd rs.length)).pred, .slice ah nh ch, .bool (zah s p (zad s p bd rs.length)).no, .int .i64 (zah s p (zad s p bd rs.length)).at_, .int .i64 (zah s p (zad s p bd rs.length)).noAt, .slice ab nb cb] 246)).alloc (Obj.cells #[Value.string (zah s p (zad s p bd rs.length)).pred, .slice ah nh ch, .bool (zah s p (zad s p bd rs.length)).no, .int .i64 (zah s p (zad s p bd rs.length)).at_, .int .i64 (zah s p (zad s p bd rs.length)).noAt, .slice ab nb cb] 246)).drew).ownsRow (w1.heap.size + 1) 246 6 (.slice ar rs.length capr) rs.length (zdl rs)) := (hrow.alloc _).alloc _
    have s2 : Hid (∀ j u, ([Value.string (zah s p (zad s p bd rs.length)).pred, .slice ah nh ch, .bool (zah s p (zad s p bd rs.length)).no, .int .i64 (zah s p (zad s p bd rs.length)).at_, .int .i64 (zah s p (zad s p bd rs.length)).noAt, .slice ab nb cb] : List Value)[j]? = some u → (((w3.alloc (Obj.cells #[Value.string (zah s p (zad s p bd rs.length)).pred, .slice ah nh ch, .bool (zah s p (zad s p bd rs.length)).no, .int .i64 (zah s p (zad s p bd rs.length)).at_, .int .i64 (zah s p (zad s p bd rs.length)).noAt, .slice ab nb cb] 246)).alloc (Obj.cells #[Value.string (zah s p (zad s p bd rs.length)).pred, .slice ah nh ch, .bool (zah s p (zad s p bd rs.length)).no, .int .i64 (zah s p (zad s p bd rs.length)).at_, .int .i64 (zah s p (zad s p bd rs.length)).noAt, .slice ab nb cb] 246)).drew).cell? ((⟨w3.heap.size + 1, 0, none⟩ : Addr).add j) = some u) := World.news_of_block (zmi w3 (Obj.cells #[Value.string (zah s p (zad s p bd rs.length)).pred, .slice ah nh ch, .bool (zah s p (zad s p bd rs.length)).no, .int .i64 (zah s p (zad s p bd rs.length)).at_, .int .i64 (zah s p (zad s p bd rs.length)).noAt, .slice ab nb cb] 246) (RR.mk (zdv s p (zad s p bd rs.length)) (.slice ah nh ch) bs (.slice ab nb cb)))
    have s3 : Hid (∀ u ∈ ([Value.string (zah s p (zad s p bd rs.length)).pred, .slice ah nh ch, .bool (zah s p (zad s p bd rs.length)).no, .int .i64 (zah s p (zad s p bd rs.length)).at_, .int .i64 (zah s p (zad s p bd rs.length)).noAt, .slice ab nb cb] : List Value), u.oneCell' = true) := rr_one (zdv s p (zad s p bd rs.length)) ah ab nh nb ch cb bs
    have s4 : Hid (rs.length + 1 ≤ maxLen) := by show _ ≤ _; unfold maxLen; omega
    have s5 : Hid ((rs.length + 1) * 88 ≤ 140737488355328) := by show _ ≤ _; omega
    have s6 : Hid (w1.heap.size + 1 ≤ (((w3.alloc (Obj.cells #[Value.string (zah s p (zad s p bd rs.length)).pred, .slice ah nh ch, .bool (zah s p (zad s p bd rs.length)).no, .int .i64 (zah s p (zad s p bd rs.length)).at_, .int .i64 (zah s p (zad s p bd rs.length)).noAt, .slice ab nb cb] 246)).alloc (Obj.cells #[Value.string (zah s p (zad s p bd rs.length)).pred, .slice ah nh ch, .bool (zah s p (zad s p bd rs.length)).no, .int .i64 (zah s p (zad s p bd rs.length)).at_, .int .i64 (zah s p (zad s p bd rs.length)).noAt, .slice ab nb cb] 246)).drew).heap.size) := by show _ ≤ _; simp; omega
    have hW : ∀ k, k < w3.heap.size → (((w3.alloc (Obj.cells #[Value.string (zah s p (zad s p bd rs.length)).pred, .slice ah nh ch, .bool (zah s p (zad s p bd rs.length)).no, .int .i64 (zah s p (zad s p bd rs.length)).at_, .int .i64 (zah s p (zad s p bd rs.length)).noAt, .slice ab nb cb] 246)).alloc (Obj.cells #[Value.string (zah s p (zad s p bd rs.length)).pred, .slice ah nh ch, .bool (zah s p (zad s p bd rs.length)).no, .int .i64 (zah s p (zad s p bd rs.length)).at_, .int .i64 (zah s p (zad s p bd rs.length)).noAt, .slice ab nb cb] 246)).drew).heap[k]? = w3.heap[k]? := fun k hk => (((Kept.refl [] w3).alloc _).alloc _).block k hk (by simp)
    have hS : w3.heap.size ≤ (((w3.alloc (Obj.cells #[Value.string (zah s p (zad s p bd rs.length)).pred, .slice ah nh ch, .bool (zah s p (zad s p bd rs.length)).no, .int .i64 (zah s p (zad s p bd rs.length)).at_, .int .i64 (zah s p (zad s p bd rs.length)).noAt, .slice ab nb cb] 246)).alloc (Obj.cells #[Value.string (zah s p (zad s p bd rs.length)).pred, .slice ah nh ch, .bool (zah s p (zad s p bd rs.length)).no, .int .i64 (zah s p (zad s p bd rs.length)).at_, .int .i64 (zah s p (zad s p bd rs.length)).noAt, .slice ab nb cb] 246)).drew).heap.size := (((Kept.refl [] w3).alloc _).alloc _).size
    have s7 : Hid (∀ w5 : World, (((w3.alloc (Obj.cells #[Value.string (zah s p (zad s p bd rs.length)).pred, .slice ah nh ch, .bool (zah s p (zad s p bd rs.length)).no, .int .i64 (zah s p (zad s p bd rs.length)).at_, .int .i64 (zah s p (zad s p bd rs.length)).noAt, .slice ab nb cb] 246)).alloc (Obj.cells #[Value.string (zah s p (zad s p bd rs.length)).pred, .slice ah nh ch, .bool (zah s p (zad s p bd rs.length)).no, .int .i64 (zah s p (zad s p bd rs.length)).at_, .int .i64 (zah s p (zad s p bd rs.length)).noAt, .slice ab nb cb] 246)).drew).grownBy w5 (Value.slice ar rs.length capr).ownBlock → w5.cell? ⟨w1.heap.size, 0, none⟩ = some (.slice ar rs.length capr) ∧ w5.frozen? ⟨w1.heap.size, 0, none⟩ = false) := fun w5 hg =>
     have hb := zg9 hW hS hrow hg hol4
     ⟨(World.cell?_of_block hb).trans hinv3.mem.c0, (World.frozen?_of_block hb).trans (hinv3.mem.fz 0)⟩
    have s8 : Hid (∀ (w5 : World) (g cap : Nat), (((w3.alloc (Obj.cells #[Value.string (zah s p (zad s p bd rs.length)).pred, .slice ah nh ch, .bool (zah s p (zad s p bd rs.length)).no, .int .i64 (zah s p (zad s p bd rs.length)).at_, .int .i64 (zah s p (zad s p bd rs.length)).noAt, .slice ab nb cb] 246)).alloc (Obj.cells #[Value.string (zah s p (zad s p bd rs.length)).pred, .slice ah nh ch, .bool (zah s p (zad s p bd rs.length)).no, .int .i64 (zah s p (zad s p bd rs.length)).at_, .int .i64 (zah s p (zad s p bd rs.length)).noAt, .slice ab nb cb] 246)).drew).grownBy w5 (Value.slice ar rs.length capr).ownBlock → w5.ownsRow (w1.heap.size + 1) 246 6 (.slice (some ⟨g, 0, none⟩) (rs.length + 1) cap) (rs.length + 1) (zdl rs ++ [Value.string (zah s p (zad s p bd rs.length)).pred, .slice ah nh ch, .bool (zah s p (zad s p bd rs.length)).no, .int .i64 (zah s p (zad s p bd rs.length)).at_, .int .i64 (zah s p (zad s p bd rs.length)).noAt, .slice ab nb cb]) → LdInv w w.heap.size w1.heap.size s (rs ++ [(RR.mk (zdv s p (zad s p bd rs.length)) (.slice ah nh ch) bs (.slice ab nb cb))]) (zeu s p (zad s p bd rs.length)) (zcq s p (zad s p bd rs.length)) (.slice (some ⟨g, 0, none⟩) (rs.length + 1) cap) (w5.setCell ⟨w1.heap.size, 0, none⟩ (.slice (some ⟨g, 0, none⟩) (rs.length + 1) cap))) := fun w5 g cap hg hown => by
     have hbl := zh5 (j := 0) (u := .slice (some ⟨g, 0, none⟩) (rs.length + 1) cap) hW hS rfl rfl rfl hrow hg hol4
     have hbw := hinv3.bw
     refine ⟨?_, hl3, hinv3.mem.setRules hW hS hg hin4 hown, hinv3.bo, hinv3.bw, hinv3.below.trans (hbl.mono (by omega)), fun r hr => ?_⟩
     ·exact hinv3.pars.kept (⟨hbl.os, hbl.tape, hbl.output, hbl.size, fun k hk hn => by
       by_cases hko : k < w1.heap.size
       ·exact hbl.block k hko
       ·exact absurd (List.mem_range'_1.2 ⟨by omega, by omega⟩) hn⟩ : Kept (List.range' w1.heap.size w3.heap.size) w3 _) (by intro hm; have := (List.mem_range'_1.1 hm).1; omega)
     ·rcases List.mem_append.1 hr with hr | hr
      ·exact hinv3.few r hr
      ·simp at hr; subst hr; exact body_len s p _
    have x1 : w3.cell? ⟨w1.heap.size, 0, none⟩ = some (.slice ar rs.length capr) := hinv3.mem.c0
    have hgr : Hid (rs.length = 30 → 0 ≤ zcq s p (zad s p bd rs.length)) := fun e => zlu e
    clear hW hS hrow hin3 hin4 hk3 hp3 hinv0 hinv3 hnh hnb
    unfold zes
    go_wp2_with fail
    go_region_law (refine step_append_lies _ rfl (.tmp 55) (.tmp 57) 238 rfl (w1.heap.size + 1) 246 i0 (.agg #[.string { data := #[] }, .slice none 0 0, .bool false, .int .i64 0, .int .i64 0, .slice none 0 0]) 6 88 Tryz.underlying238 hi hz0 hz1 hz2 rfl (by decide) (.slice ar rs.length capr) rs.length (zdl rs) (by simp [Act.eval]) (zaa s1) ⟨w3.heap.size + 1, 0, none⟩ 1 1 [Value.string (zah s p (zad s p bd rs.length)).pred, .slice ah nh ch, .bool (zah s p (zad s p bd rs.length)).no, .int .i64 (zah s p (zad s p bd rs.length)).at_, .int .i64 (zah s p (zad s p bd rs.length)).noAt, .slice ab nb cb] (by simp [Act.eval]) rfl (zaa s2) (zaa s3) (by decide) (zaa s4) (zaa s5) (zaa s6) _ rfl ?_; intro g cap w5 hown5 hg5 hat5 hlt5; obtain ⟨y1, y2⟩ := zaa s7 w5 hg5)
    all_goals
     go_wp2_with fail
     go_roundg (32 - (rs.length + 1))
     case measure => omega
     case rel => exact ⟨_, _, _, _, by simp; omega, fun e => zaa hgr (by simp at e; omega), by simp, zaa s8 w5 g cap hg5 hown5, by rw [List.map_append]; exact zaa HF2⟩
   ·have tb : zad s p bd rs.length = bd := by simp [zad, t30]
    have t30' : ((rs.length : Int) == 30) = false := by simp; omega
    have TB := hide tb
    clear tb t30
    go_wp2_with fail
    have hinv0 : LdInv w w.heap.size w1.heap.size s rs p (zad s p bd rs.length) (.slice ar rs.length capr) wr := by rw [zaa TB]; exact hinv
    clear c0 c1 c2 c3 c4 c5 fz hinv d0
    refine (rule_any s p (zad s p bd rs.length) w.heap.size _ hinv0.pars hinv0.hp hsm).mono ?_
    rintro e w3 ⟨hv, bs, bv, rfl, hk3, hp3, hl3, hin3⟩
    obtain ⟨ah, ch, hhv⟩ := zac hin3.hd
    obtain ⟨ab, cb, hbv⟩ := zac hin3.bo
    generalize hnh : (RRule.mk (zah s p (zad s p bd rs.length)) (zcr s p (zad s p bd rs.length)).1).head.terms.length = nh at hhv
    generalize hnb : bs.length = nb at hbv
    subst hhv hbv
    have hol3 := hinv0.mem.lt
    have hinv3 := hinv0.call hk3 hp3 hl3
    have hin4 : RuleIn w3 (w1.heap.size + 1) (zdv s p (zad s p bd rs.length)) (.slice ah nh ch) bs (.slice ab nb cb) := ⟨zaf hin3.hd (by omega), zaf hin3.bo (by omega), fun x hx => zaf (hin3.bl x hx) (by omega), hin3.eq⟩
    have hrow := hinv3.mem.rules
    have hol4 := hinv3.mem.lt
    have s1 : Hid ((((w3.alloc (Obj.cells #[Value.string (zah s p (zad s p bd rs.length)).pred, .slice ah nh ch, .bool (zah s p (zad s p bd rs.length)).no, .int .i64 (zah s p (zad s p bd rs.length)).at_, .int .i64 (zah s p (zad s p bd rs.length)).noAt, .slice ab nb cb] 246)).alloc (Obj.cells #[Value.string (zah s p (zad s p bd rs.length)).pred, .slice ah nh ch, .bool (zah s p (zad s p bd rs.length)).no, .int .i64 (zah s p (zad s p bd rs.length)).at_, .int .i64 (zah s p (zad s p bd rs.length)).noAt, .slice ab nb cb] 246)).drew).ownsRow (w1.heap.size + 1) 246 6 (.slice ar rs.length capr) rs.length (zdl rs)) := (hrow.alloc _).alloc _
    have s2 : Hid (∀ j u, ([Value.string (zah s p (zad s p bd rs.length)).pred, .slice ah nh ch, .bool (zah s p (zad s p bd rs.length)).no, .int .i64 (zah s p (zad s p bd rs.length)).at_, .int .i64 (zah s p (zad s p bd rs.length)).noAt, .slice ab nb cb] : List Value)[j]? = some u → (((w3.alloc (Obj.cells #[Value.string (zah s p (zad s p bd rs.length)).pred, .slice ah nh ch, .bool (zah s p (zad s p bd rs.length)).no, .int .i64 (zah s p (zad s p bd rs.length)).at_, .int .i64 (zah s p (zad s p bd rs.length)).noAt, .slice ab nb cb] 246)).alloc (Obj.cells #[Value.string (zah s p (zad s p bd rs.length)).pred, .slice ah nh ch, .bool (zah s p (zad s p bd rs.length)).no, .int .i64 (zah s p (zad s p bd rs.length)).at_, .int .i64 (zah s p (zad s p bd rs.length)).noAt, .slice ab nb cb] 246)).drew).cell? ((⟨w3.heap.size + 1, 0, none⟩ : Addr).add j) = some u) := World.news_of_block (zmi w3 (Obj.cells #[Value.string (zah s p (zad s p bd rs.length)).pred, .slice ah nh ch, .bool (zah s p (zad s p bd rs.length)).no, .int .i64 (zah s p (zad s p bd rs.length)).at_, .int .i64 (zah s p (zad s p bd rs.length)).noAt, .slice ab nb cb] 246) (RR.mk (zdv s p (zad s p bd rs.length)) (.slice ah nh ch) bs (.slice ab nb cb)))
    have s3 : Hid (∀ u ∈ ([Value.string (zah s p (zad s p bd rs.length)).pred, .slice ah nh ch, .bool (zah s p (zad s p bd rs.length)).no, .int .i64 (zah s p (zad s p bd rs.length)).at_, .int .i64 (zah s p (zad s p bd rs.length)).noAt, .slice ab nb cb] : List Value), u.oneCell' = true) := rr_one (zdv s p (zad s p bd rs.length)) ah ab nh nb ch cb bs
    have s4 : Hid (rs.length + 1 ≤ maxLen) := by show _ ≤ _; unfold maxLen; omega
    have s5 : Hid ((rs.length + 1) * 88 ≤ 140737488355328) := by show _ ≤ _; omega
    have s6 : Hid (w1.heap.size + 1 ≤ (((w3.alloc (Obj.cells #[Value.string (zah s p (zad s p bd rs.length)).pred, .slice ah nh ch, .bool (zah s p (zad s p bd rs.length)).no, .int .i64 (zah s p (zad s p bd rs.length)).at_, .int .i64 (zah s p (zad s p bd rs.length)).noAt, .slice ab nb cb] 246)).alloc (Obj.cells #[Value.string (zah s p (zad s p bd rs.length)).pred, .slice ah nh ch, .bool (zah s p (zad s p bd rs.length)).no, .int .i64 (zah s p (zad s p bd rs.length)).at_, .int .i64 (zah s p (zad s p bd rs.length)).noAt, .slice ab nb cb] 246)).drew).heap.size) := by show _ ≤ _; simp; omega
    have hW : ∀ k, k < w3.heap.size → (((w3.alloc (Obj.cells #[Value.string (zah s p (zad s p bd rs.length)).pred, .slice ah nh ch, .bool (zah s p (zad s p bd rs.length)).no, .int .i64 (zah s p (zad s p bd rs.length)).at_, .int .i64 (zah s p (zad s p bd rs.length)).noAt, .slice ab nb cb] 246)).alloc (Obj.cells #[Value.string (zah s p (zad s p bd rs.length)).pred, .slice ah nh ch, .bool (zah s p (zad s p bd rs.length)).no, .int .i64 (zah s p (zad s p bd rs.length)).at_, .int .i64 (zah s p (zad s p bd rs.length)).noAt, .slice ab nb cb] 246)).drew).heap[k]? = w3.heap[k]? := fun k hk => (((Kept.refl [] w3).alloc _).alloc _).block k hk (by simp)
    have hS : w3.heap.size ≤ (((w3.alloc (Obj.cells #[Value.string (zah s p (zad s p bd rs.length)).pred, .slice ah nh ch, .bool (zah s p (zad s p bd rs.length)).no, .int .i64 (zah s p (zad s p bd rs.length)).at_, .int .i64 (zah s p (zad s p bd rs.length)).noAt, .slice ab nb cb] 246)).alloc (Obj.cells #[Value.string (zah s p (zad s p bd rs.length)).pred, .slice ah nh ch, .bool (zah s p (zad s p bd rs.length)).no, .int .i64 (zah s p (zad s p bd rs.length)).at_, .int .i64 (zah s p (zad s p bd rs.length)).noAt, .slice ab nb cb] 246)).drew).heap.size := (((Kept.refl [] w3).alloc _).alloc _).size
    have s7 : Hid (∀ w5 : World, (((w3.alloc (Obj.cells #[Value.string (zah s p (zad s p bd rs.length)).pred, .slice ah nh ch, .bool (zah s p (zad s p bd rs.length)).no, .int .i64 (zah s p (zad s p bd rs.length)).at_, .int .i64 (zah s p (zad s p bd rs.length)).noAt, .slice ab nb cb] 246)).alloc (Obj.cells #[Value.string (zah s p (zad s p bd rs.length)).pred, .slice ah nh ch, .bool (zah s p (zad s p bd rs.length)).no, .int .i64 (zah s p (zad s p bd rs.length)).at_, .int .i64 (zah s p (zad s p bd rs.length)).noAt, .slice ab nb cb] 246)).drew).grownBy w5 (Value.slice ar rs.length capr).ownBlock → w5.cell? ⟨w1.heap.size, 0, none⟩ = some (.slice ar rs.length capr) ∧ w5.frozen? ⟨w1.heap.size, 0, none⟩ = false) := fun w5 hg =>
     have hb := zg9 hW hS hrow hg hol4
     ⟨(World.cell?_of_block hb).trans hinv3.mem.c0, (World.frozen?_of_block hb).trans (hinv3.mem.fz 0)⟩
    have s8 : Hid (∀ (w5 : World) (g cap : Nat), (((w3.alloc (Obj.cells #[Value.string (zah s p (zad s p bd rs.length)).pred, .slice ah nh ch, .bool (zah s p (zad s p bd rs.length)).no, .int .i64 (zah s p (zad s p bd rs.length)).at_, .int .i64 (zah s p (zad s p bd rs.length)).noAt, .slice ab nb cb] 246)).alloc (Obj.cells #[Value.string (zah s p (zad s p bd rs.length)).pred, .slice ah nh ch, .bool (zah s p (zad s p bd rs.length)).no, .int .i64 (zah s p (zad s p bd rs.length)).at_, .int .i64 (zah s p (zad s p bd rs.length)).noAt, .slice ab nb cb] 246)).drew).grownBy w5 (Value.slice ar rs.length capr).ownBlock → w5.ownsRow (w1.heap.size + 1) 246 6 (.slice (some ⟨g, 0, none⟩) (rs.length + 1) cap) (rs.length + 1) (zdl rs ++ [Value.string (zah s p (zad s p bd rs.length)).pred, .slice ah nh ch, .bool (zah s p (zad s p bd rs.length)).no, .int .i64 (zah s p (zad s p bd rs.length)).at_, .int .i64 (zah s p (zad s p bd rs.length)).noAt, .slice ab nb cb]) → LdInv w w.heap.size w1.heap.size s (rs ++ [(RR.mk (zdv s p (zad s p bd rs.length)) (.slice ah nh ch) bs (.slice ab nb cb))]) (zeu s p (zad s p bd rs.length)) (zcq s p (zad s p bd rs.length)) (.slice (some ⟨g, 0, none⟩) (rs.length + 1) cap) (w5.setCell ⟨w1.heap.size, 0, none⟩ (.slice (some ⟨g, 0, none⟩) (rs.length + 1) cap))) := fun w5 g cap hg hown => by
     have hbl := zh5 (j := 0) (u := .slice (some ⟨g, 0, none⟩) (rs.length + 1) cap) hW hS rfl rfl rfl hrow hg hol4
     have hbw := hinv3.bw
     refine ⟨?_, hl3, hinv3.mem.setRules hW hS hg hin4 hown, hinv3.bo, hinv3.bw, hinv3.below.trans (hbl.mono (by omega)), fun r hr => ?_⟩
     ·exact hinv3.pars.kept (⟨hbl.os, hbl.tape, hbl.output, hbl.size, fun k hk hn => by
       by_cases hko : k < w1.heap.size
       ·exact hbl.block k hko
       ·exact absurd (List.mem_range'_1.2 ⟨by omega, by omega⟩) hn⟩ : Kept (List.range' w1.heap.size w3.heap.size) w3 _) (by intro hm; have := (List.mem_range'_1.1 hm).1; omega)
     ·rcases List.mem_append.1 hr with hr | hr
      ·exact hinv3.few r hr
      ·simp at hr; subst hr; exact body_len s p _
    have x1 : w3.cell? ⟨w1.heap.size, 0, none⟩ = some (.slice ar rs.length capr) := hinv3.mem.c0
    have hgr : Hid (rs.length = 30 → 0 ≤ zcq s p (zad s p bd rs.length)) := fun e => zlu e
    clear hW hS hrow hin3 hin4 hk3 hp3 hinv0 hinv3 hnh hnb
    unfold zes
    go_wp2_with fail
    go_region_law (refine step_append_lies _ rfl (.tmp 55) (.tmp 57) 238 rfl (w1.heap.size + 1) 246 i0 (.agg #[.string { data := #[] }, .slice none 0 0, .bool false, .int .i64 0, .int .i64 0, .slice none 0 0]) 6 88 Tryz.underlying238 hi hz0 hz1 hz2 rfl (by decide) (.slice ar rs.length capr) rs.length (zdl rs) (by simp [Act.eval]) (zaa s1) ⟨w3.heap.size + 1, 0, none⟩ 1 1 [Value.string (zah s p (zad s p bd rs.length)).pred, .slice ah nh ch, .bool (zah s p (zad s p bd rs.length)).no, .int .i64 (zah s p (zad s p bd rs.length)).at_, .int .i64 (zah s p (zad s p bd rs.length)).noAt, .slice ab nb cb] (by simp [Act.eval]) rfl (zaa s2) (zaa s3) (by decide) (zaa s4) (zaa s5) (zaa s6) _ rfl ?_; intro g cap w5 hown5 hg5 hat5 hlt5; obtain ⟨y1, y2⟩ := zaa s7 w5 hg5)
    all_goals
     go_wp2_with fail
     go_roundg (32 - (rs.length + 1))
     case measure => omega
     case rel => exact ⟨_, _, _, _, by simp; omega, fun e => zaa hgr (by simp at e; omega), by simp, zaa s8 w5 g cap hg5 hown5, by rw [List.map_append]; exact zaa HF2⟩
  | false =>
   have hpz : za8 s = (rs.map (·.R), p, bd) := (zaa HF).trans (zos s _ p bd _ hgo)
   have hsz : ¬ 800 < s.size := by omega
   by_cases hbd : 0 ≤ bd
   ·have hR : zbi s = (false, 2, bd) := by unfold zbi; rw [if_neg hsz, hpz, if_pos hbd]
    have HR := hide hR
    clear HF hR hpz
    by_cases hk46 : ((tok s p).kind != 46) = true
    ·go_wp2_with fail
     go_quiet (fail)
     go_wp2
     go_ret3
     exact ⟨none, by rw [zaa HR]; rfl, by rw [zaa HR]; rfl, below_drewN hinv.below _, ze0 _ _ _⟩
    ·have hk46' : ((tok s p).kind != 46) = false := by simpa using hk46
     clear hk46
     go_wp2_with fail
     go_quiet (fail)
     go_wp2
     go_ret3
     exact ⟨none, by rw [zaa HR]; rfl, by rw [zaa HR]; rfl, below_drewN hinv.below _, ze0 _ _ _⟩
   ·have hk46' : ((tok s p).kind != 46) = false := by
     unfold zeq at hgo
     cases hk : (tok s p).kind != 46 with
     | false => rfl
     | true => rw [hk] at hgo; simp at hgo; omega
    have hat : (za3 rs).length ≤ 1000 := by have := atoms_len rs hinv.few; omega
    have hatm : za3 rs = (za8 s).1.flatMap RRule.atoms := by rw [hpz]; exact zkb rs
    have hpo : zau s = za4 (za3 rs) [] := by unfold zau; rw [hatm]
    have hR0 : zbi s = if 0 ≤ (za4 (za3 rs) []).1 then (false, 3, (za4 (za3 rs) []).1) else if 0 ≤ za9 (rs.map (·.R)) then (false, 4, za9 (rs.map (·.R))) else if 0 ≤ zb8 (za4 (za3 rs) []).2 (zb5 (za4 (za3 rs) []).2 (rs.map (·.R))) (rs.map (·.R)) then (false, 5, zb8 (za4 (za3 rs) []).2 (zb5 (za4 (za3 rs) []).2 (rs.map (·.R))) (rs.map (·.R))) else (true, 0, 0) := by
     unfold zbi; rw [if_neg hsz, hpo, hpz, if_neg hbd]
    have HR0 := hide hR0
    have hml := meet_len (za3 rs) []
    have hai := zgd (za3 rs)
    have HAI := hide hai
    have hpl : (za4 (za3 rs) []).2.length ≤ 1000 := by simp at hml; omega
    have HB := hide hinv.below
    have HMm := hide hinv.mem
    have hbw := hinv.bw
    have hbdn : bd < 0 := by omega
    have HAM := hide (zkb rs)
    have HPZ := hide (show rs.map (·.R) = (za8 s).1 by rw [hpz])
    have HPO := hide (show (za4 (za3 rs) []).2 = (zau s).2 by rw [hpo])
    have HATM := hide hatm
    clear HF hpz hatm hpo hR0 hml hai hgo hbd hsz hinv
    go_wp2_with fail
    refine (arity_any wr w1.heap.size rs _ _ _ _ (zaa HMm) hat).mono ?_
    rintro e w2 ⟨rfl, pv2, tv2, hm2, hb2⟩
    clear c0 c1 c2 c3 c4 c5 fz
    generalize (za4 (za3 rs) []).1 = n1 at *
    generalize (za4 (za3 rs) []).2 = ps at *
    by_cases hn1 : 0 ≤ n1
    ·have HR1 := hide ((zaa HR0).trans (if_pos hn1))
     clear HR0
     go_wp2_with fail
     go_ret3
     exact ⟨none, by rw [zaa HR1]; rfl, by rw [zaa HR1]; rfl, (zaa HB).trans (hb2.mono (by omega)), ze0 _ _ _⟩
    ·have HR1 := hide ((zaa HR0).trans (if_neg hn1))
     have hall := zaa HAI (by omega)
     have HALL := hide hall
     have hn1' : n1 < 0 := by omega
     clear HR0 hn1 HAI
     go_wp2_with fail
     refine (unsafe_any w2 w1.heap.size rs ps ps _ _ _ _ hm2).mono ?_
     rintro e w3 ⟨rfl, hb3⟩
     have hm3 := hm2.kept ((Kept.refl [] _).of_below hb3) (by simp)
     have hB3 : Below w.heap.size w w3 := ((zaa HB).trans (hb2.mono (by omega))).trans (hb3.mono (by have := (zaa HB).size; have := hb2.size; omega))
     clear hm2 hb2 hb3 HB
     by_cases hn2 : 0 ≤ za9 (rs.map (·.R))
     ·have HR2 := hide ((zaa HR1).trans (if_pos hn2))
      clear HR1
      go_wp2_with fail
      go_ret3
      exact ⟨none, by rw [zaa HR2]; rfl, by rw [zaa HR2]; rfl, hB3, ze0 _ _ _⟩
     ·have HR2 := hide ((zaa HR1).trans (if_neg hn2))
      have hn2' : za9 (rs.map (·.R)) < 0 := by omega
      clear HR1 hn2
      go_wp2_with fail
      refine (cycle_any w3 w1.heap.size rs ps _ _ _ _ hm3 hpl (zaa HALL)).mono ?_
      rintro e w4 ⟨rfl, hb4⟩
      have hm4 := hm3.kept ((Kept.refl [] _).of_below hb4) (by simp)
      have hB4 : Below w.heap.size w w4 := hB3.trans (hb4.mono (by have := hB3.size; omega))
      clear hm3 hb4
      by_cases hn3 : 0 ≤ zb8 ps (zb5 ps (rs.map (·.R))) (rs.map (·.R))
      ·have HR3 := hide ((zaa HR2).trans (if_pos hn3))
       clear HR2
       go_wp2_with fail
       go_ret3
       exact ⟨none, by rw [zaa HR3]; rfl, by rw [zaa HR3]; rfl, hB4, ze0 _ _ _⟩
      ·have HR3 := hide ((zaa HR2).trans (if_neg hn3))
       obtain ⟨f0, hf0, hfb⟩ := zhk ps (rs.map (·.R)) (by rw [← zaa HAM]; exact zaa HALL) hn3
       have hn3' : zb8 ps (zb5 ps (rs.map (·.R))) (rs.map (·.R)) < 0 := by omega
       have HF0 := hide hf0
       have HFB := hide hfb
       clear HR2 hn3 hf0 hfb
       go_wp2_with fail
       refine (layer_any w4 w1.heap.size rs ps _ _ _ _ hm4 hpl (zaa HALL) f0 (zaa HF0) (fun i => Nat.le_trans (zaa HFB i) hpl)).mono ?_
       rintro e w5 ⟨rfl, S, hm5, hs5, hv5, hlo5, hb5⟩
       have hlt4 := hm4.lt
       go_wp2_with fail
       go_ret3
       refine ⟨some ⟨w1.heap.size, 0, none⟩, by rw [zaa HR3]; rfl, by rw [zaa HR3]; rfl, hB4.trans (hb5.mono (by omega)), fun a ha => ?_⟩
       injection ha with ha
       subst ha
       exact ⟨_, rs, ps, _, _, _, _, S, rfl, by omega, hlt4, hm5, hs5, hv5, hlo5, zaa HPZ, zaa HPO, by rw [← zaa HATM]; exact zaa HALL⟩
theorem load_long (s : ByteArray) (w : World) (hs : 800 < s.size) :
  Calls Tryz.prog 79 #[.string s] w fun e w' => ∃ y : Option Addr, e = .returned (.tuple #[.pointer y, .int .i64 (zbi s).2.1, .int .i64 (zbi s).2.2]) ∧ y.isSome = (zbi s).1 ∧ Below w.heap.size w w' ∧ RKept s w y w' := by
 have hsI : (800 : Int) < s.size := by omega
 have hR : zbi s = (false, 1, 0) := by unfold zbi; rw [if_pos hs]
 have HR := hide hR
 clear hR
 go_enter Tryz.func79, Tryz.ntmps79
 go_wp2
 go_ret3
 exact ⟨none, by rw [zaa HR]; rfl, by rw [zaa HR]; rfl, Below.refl _ _, ze0 _ _ _⟩
theorem zi7 (s : ByteArray) (w : World) :
  Calls Tryz.prog 79 #[.string s] w fun e w' => ∃ y : Option Addr, e = .returned (.tuple #[.pointer y, .int .i64 (zbi s).2.1, .int .i64 (zbi s).2.2]) ∧ y.isSome = (zbi s).1 ∧ Below w.heap.size w w' ∧ RKept s w y w' := by
 rcases Nat.lt_or_ge 800 s.size with h | h
 ·exact load_long s w h
 ·exact load_short s w h
theorem refLoad_any (s : ByteArray) (w : World) :
  Calls Tryz.prog 79 #[.string s] w fun e w' => ∃ y : Option Addr, e = .returned (.tuple #[.pointer y, .int .i64 (zbi s).2.1, .int .i64 (zbi s).2.2]) ∧ y.isSome = (zbi s).1 ∧ Below w.heap.size w w' := by
 refine (zi7 s w).mono ?_
 rintro e w' ⟨y, h1, h2, h3, _⟩
 exact ⟨y, h1, h2, h3⟩
end
end Go.Proofs.YtldkpahaocjdpaaGreat
