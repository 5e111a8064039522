/-
  The program's Fault and Load: at every text the answer is the plain text's.
-/
import Derived.Test.YtldkpahaocjdpaaGreatLoadsT44
namespace Go.Proofs.YtldkpahaocjdpaaGreat
open Go.RowKit Go.Maps

noncomputable def faultP (rs : List PRule) (ms : List PMen) : Int × Int :=
  if 0 ≤ parity ms [] then (3, parity ms []) else if 0 ≤ unboundI rs ms then (4, unboundI rs ms) else if 0 ≤ cycleP rs ms then (5, cycleP rs ms) else (0, 0)

set_option maxRecDepth 100000 in
set_option maxHeartbeats 4000000 in
theorem fault_any (w : World) (base : Nat) (ar : Option Addr) (cr : Nat) (rs : List PR) (am : Option Addr) (cm : Nat) (ms : List (PMen × Value)) (h : RRow w base (.slice ar rs.length cr) rs) (h' : MRow w base (.slice am ms.length cm) ms) (hf : Few rs ms) :
    Calls Tryz.prog 46 #[.agg #[.slice ar rs.length cr, .slice am ms.length cm]] w fun e w' => e = .returned (.tuple #[.int .i64 (faultP (rs.map (·.R)) (ms.map (·.1))).1, .int .i64 (faultP (rs.map (·.R)) (ms.map (·.1))).2]) ∧ Below w.heap.size w w' := by
  have h0 := UnbInv.start h h'
  have hF : faultP (rs.map (·.R)) (ms.map (·.1)) = _ := faultP.eq_1 (rs.map (·.R)) (ms.map (·.1))
  have HF := hide hF
  clear h h' hF
  go_enter Tryz.func46, Tryz.ntmps46
  go_wp2_with fail
  refine (parity_any _ base ar rs.length cr am cm ms h0.men hf.m120 hf.mpd).mono ?_
  rintro e w1 ⟨he, hb1⟩
  have h1 := h0.next hb1
  obtain ⟨x0, xf0⟩ := block_cells h1.box 0
  obtain ⟨x1, xf1⟩ := block_cells h1.box 1
  have hsz1 := h1.sz
  clear h0 hb1
  by_cases c1 : 0 ≤ parity (ms.map (·.1)) []
  · have HF1 := hide ((unhide HF).trans (if_pos c1))
    have he' : e = .returned (.tuple #[.int .i64 (parity (ms.map (·.1)) []), .bool true]) := by rw [he]; unfold found; rw [if_pos c1]; simp [c1]
    subst he'
    have HB := hide h1.below
    clear HF he c1 h1
    go_wp2_with fail
    go_ret2
    exact ⟨by rw [unhide HF1]; rfl, unhide HB⟩
  · have HF1 := hide ((unhide HF).trans (if_neg c1))
    have he' : e = .returned (.tuple #[.int .i64 0, .bool false]) := by rw [he]; unfold found; rw [if_neg c1]; simp [c1]
    subst he'
    clear HF he c1
    go_wp2_with fail
    refine (unbound_any _ base ar cr rs am cm ms h1.rules h1.men hf.m120 hf.mts (fun r hr => by have := hf.b3 r hr; omega)).mono ?_
    rintro e w2 ⟨he, hb2⟩
    have h2 := h1.next hb2
    clear h1 hb2 x0 x1 xf0 xf1
    obtain ⟨x0, xf0⟩ := block_cells h2.box 0
    obtain ⟨x1, xf1⟩ := block_cells h2.box 1
    have hsz2 := h2.sz
    by_cases c2 : 0 ≤ unboundI (rs.map (·.R)) (ms.map (·.1))
    · have HF2 := hide ((unhide HF1).trans (if_pos c2))
      have he' : e = .returned (.tuple #[.int .i64 (unboundI (rs.map (·.R)) (ms.map (·.1))), .bool true]) := by rw [he]; unfold found; rw [if_pos c2]; simp [c2]
      subst he'
      have HB := hide h2.below
      clear HF1 he c2 h2
      go_wp2_with fail
      go_ret2
      exact ⟨by rw [unhide HF2]; rfl, unhide HB⟩
    · have HF2 := hide ((unhide HF1).trans (if_neg c2))
      have he' : e = .returned (.tuple #[.int .i64 0, .bool false]) := by rw [he]; unfold found; rw [if_neg c2]; simp [c2]
      subst he'
      clear HF1 he c2
      go_wp2_with fail
      refine (cycle_p_any _ base ar cr rs am cm ms h2.rules h2.men hf).mono ?_
      rintro e w3 ⟨he, hb3⟩
      have h3 := h2.next hb3
      have HB := hide h3.below
      clear h2 hb3 x0 x1 xf0 xf1 h3
      by_cases c3 : 0 ≤ cycleP (rs.map (·.R)) (ms.map (·.1))
      · have HF3 := hide ((unhide HF2).trans (if_pos c3))
        have he' : e = .returned (.tuple #[.int .i64 (cycleP (rs.map (·.R)) (ms.map (·.1))), .bool true]) := by rw [he]; unfold found; rw [if_pos c3]; simp [c3]
        subst he'
        clear HF2 he c3
        go_wp2_with fail
        go_ret2
        exact ⟨by rw [unhide HF3]; rfl, unhide HB⟩
      · have HF3 := hide ((unhide HF2).trans (if_neg c3))
        have he' : e = .returned (.tuple #[.int .i64 0, .bool false]) := by rw [he]; unfold found; rw [if_neg c3]; simp [c3]
        subst he'
        clear HF2 he c3
        go_wp2_with fail
        go_ret2
        exact ⟨by rw [unhide HF3]; rfl, unhide HB⟩

noncomputable def pload (s : ByteArray) : Bool × Int × Int :=
  if 800 < s.size then (false, 1, 0)
  else if (pparsed s).1 = false then (false, 2, (scanK s (pparsed s).2.1).2.1)
  else if (faultP (pparsed s).2.2.1 (pparsed s).2.2.2).1 ≠ 0 then (false, (faultP (pparsed s).2.2.1 (pparsed s).2.2.2).1, (faultP (pparsed s).2.2.1 (pparsed s).2.2.2).2)
  else (true, 0, 0)

/-- A program that came out: a new block with the rules that were read. -/
def ProgIn (w : World) (base b : Nat) (rs : List PR) : Prop := ∃ (a : Option Addr) (c : Nat), w.heap[b]? = some (.cells #[.slice a rs.length c] 106 (0, 0)) ∧ base ≤ b ∧ RRow w base (.slice a rs.length c) rs

def LoadPost (w : World) (P : Bool × Int × Int) (rules : List PRule) (e : Ending) (w' : World) : Prop :=
  Below w.heap.size w w' ∧ (P.1 = false → e = .returned (.tuple #[.pointer none, .int .i64 P.2.1, .int .i64 P.2.2])) ∧
  (P.1 = true → ∃ (b : Nat) (rs : List PR), e = .returned (.tuple #[.pointer (some ⟨b, 0, none⟩), .int .i64 P.2.1, .int .i64 P.2.2]) ∧ ProgIn w' w.heap.size b rs ∧ rs.map (·.R) = rules)

set_option maxRecDepth 100000 in
set_option maxHeartbeats 4000000 in
theorem pload_any (w : World) (s : ByteArray) (hs : s.size ≤ maxLen) :
    Calls Tryz.prog 30 #[.string s] w (LoadPost w (pload s) (pparsed s).2.2.1) := by
  have hP : pload s = _ := pload.eq_1 s
  have HP := hide hP
  clear hP
  unfold maxLen at hs
  by_cases c0 : 800 < s.size
  · have c0i : 800 < (s.size : Int) := by omega
    have HP1 := hide ((unhide HP).trans (if_pos c0))
    clear HP c0
    go_enter Tryz.func30, Tryz.ntmps30
    go_wp2_with fail
    go_ret3
    rw [unhide HP1]
    exact ⟨Below.refl _ _, fun _ => rfl, fun e => by cases e⟩
  · have c0i : ¬ 800 < (s.size : Int) := by omega
    have HP1 := hide ((unhide HP).trans (if_neg c0))
    have hs8 : s.size ≤ 800 := by omega
    clear HP c0
    go_enter Tryz.func30, Tryz.ntmps30
    go_wp2_with fail
    refine (prules_any _ s hs8).mono ?_
    rintro e w1 ⟨hb1, hno, hyes⟩
    cases c1 : (pparsed s).1 with
    | false =>
      have HP2 := hide ((unhide HP1).trans (if_pos c1))
      have he := hno c1
      subst he
      clear hno hyes HP1 c1
      go_wp2_with fail
      go_ret3
      rw [unhide HP2]
      exact ⟨hb1.alloc hb1.size _, fun _ => rfl, fun e => by cases e⟩
    | true =>
      have HP2 := hide ((unhide HP1).trans (if_neg (by rw [c1]; decide)))
      obtain ⟨a, n, c, a', n', c', rs, ms, rfl, hR, hrs, hM, hms, hr30, hm120⟩ := hyes c1
      obtain ⟨ar, cr, hv1⟩ := own_slice hR.row
      obtain ⟨am, cm, hv2⟩ := own_slice hM.row
      injection hv1 with h1 h2 h3
      injection hv2 with h4 h5 h6
      subst h1 h2 h3 h4 h5 h6
      obtain ⟨o1, o2⟩ := pparsed_ok s hs8 c1
      rw [← hrs] at o1 o2
      rw [← hms] at o2
      rw [← hrs, ← hms] at HP2
      have HRS := hide hrs
      have hf : Few rs ms := by
        refine ⟨hr30, by omega, fun r hr => ?_, fun r hr => (o1 _ (List.mem_map_of_mem hr)).1, fun R hR l hl => (o1 R hR).2.2 l hl, fun x hx => (o2 _ (List.mem_map_of_mem hx)).1, fun x hx => ?_⟩
        · have h1 := (o1 _ (List.mem_map_of_mem hr)).2.1
          have h2 := (hR.each r hr).eq
          rw [← h2] at h1
          simpa using h1
        · obtain ⟨_, h2, h3⟩ := o2 _ (List.mem_map_of_mem hx)
          exact ⟨by simpa using h3, h2⟩
      have kA := (Below.refl w1.heap.size w1).alloc (Nat.le_refl _) (.cells #[.slice a rs.length c, .slice a' ms.length c'] 100)
      have hR1 := hR.below kA
      have hM1 := hM.below kA
      have hbx : (w1.alloc (.cells #[.slice a rs.length c, .slice a' ms.length c'] 100)).heap[w1.heap.size]? = _ := heap_alloc_new w1 _
      have hw1 := hb1.size
      have hbA := hb1.trans (kA.mono hw1)
      clear hno hyes HP1 c1 hR hM hrs hms o1 o2 kA
      go_wp2_with fail
      refine (fault_any _ w.heap.size a c rs a' c' ms hR1 hM1 hf).mono ?_
      rintro e w2 ⟨rfl, hb2⟩
      have hz2 := hb2.size
      rw [World.size_alloc] at hz2
      have hR2 := hR1.below hb2
      have hbx2 := (hb2.block w1.heap.size (by simp)).trans hbx
      have hB2 := hbA.trans (hb2.mono (by simp; omega))
      obtain ⟨x0, xf0⟩ := block_cells hbx2 0
      clear hR1 hM1 hbx hbx2 hb2 hbA
      by_cases c2 : (faultP (rs.map (·.R)) (ms.map (·.1))).1 ≠ 0
      · have c2i : ((faultP (rs.map (·.R)) (ms.map (·.1))).1 != 0) = true := by simpa using c2
        have HP3 := hide ((unhide HP2).trans (if_pos c2))
        clear HP2 c2
        go_wp2_with fail
        go_ret3
        rw [unhide HP3]
        exact ⟨hB2, fun _ => rfl, fun e => by cases e⟩
      · have c2i : ((faultP (rs.map (·.R)) (ms.map (·.1))).1 != 0) = false := by simpa using c2
        have HP3 := hide ((unhide HP2).trans (if_neg c2))
        clear HP2 c2
        go_wp2_with fail
        go_ret3
        rw [unhide HP3]
        have kB := (Below.refl w2.heap.size w2).alloc (Nat.le_refl _) (.cells #[.slice a rs.length c] 106)
        exact ⟨hB2.trans (kB.mono (by omega)), fun e => (by cases e), fun _ => ⟨w2.heap.size, rs, rfl, ⟨a, c, heap_alloc_new w2 _, by omega, hR2.below kB⟩, unhide HRS⟩⟩
end Go.Proofs.YtldkpahaocjdpaaGreat
