/-
  ofStratum: the rules of a stratum.
  Count: how many strata there are.
  follow.Of: what follows, stratum by stratum.
-/
import Derived.Test.YtldkpahaocjdpaaGreatQueriesT42
import Derived.Test.YtldkpahaocjdpaaGreatQueriesT25
import Derived.Test.YtldkpahaocjdpaaGreatQueriesT26
set_option maxHeartbeats 16000000
namespace Go.Proofs.YtldkpahaocjdpaaGreat
section
open Go.RowKit Go.Maps
def ze6 (S : ByteArray → Nat) (s : Nat) (r : PR) : Bool := S r.R.pd == s
structure OSIn (w : World) (base : Nat) (rv : Value) (rs : List PR) (tb n : Nat) (ps : List (ByteArray × Nat)) (S : ByteArray → Nat) (l : List PR) (v : Value) (wr : World) : Prop where
 row : wr.ownsRow w.heap.size 123 3 v l.length (l.flatMap PR.cells)
 below : Below w.heap.size w wr
theorem OSIn.alloc {w : World} {base : Nat} {rv : Value} {rs : List PR} {tb n : Nat} {ps : List (ByteArray × Nat)} {S : ByteArray → Nat} {l : List PR} {v : Value} {wr : World} (h : OSIn w base rv rs tb n ps S l v wr) (o : Obj) : OSIn w base rv rs tb n ps S l v (wr.alloc o) := ⟨h.row.alloc o, h.below.alloc h.below.size _⟩
theorem OSIn.append {w : World} {base : Nat} {rv : Value} {rs : List PR} {tb n : Nat} {ps : List (ByteArray × Nat)} {S : ByteArray → Nat} {l : List PR} {v v' : Value} {wr w5 : World} (h : OSIn w base rv rs tb n ps S l v wr) {r : PR} (hown : w5.ownsRow w.heap.size 123 3 v' (l.length + 1) (l.flatMap PR.cells ++ r.cells)) (hg : wr.grownBy w5 v.ownBlock) : OSIn w base rv rs tb n ps S (l ++ [r]) v' w5 := by
 have hs := h.below.size
 have hb : ∀ g, g < w.heap.size → w5.heap[g]? = wr.heap[g]? := fun g hg' => hg.block g (by omega) (fun e => by have := (h.row.lt g e.symm).1; omega)
 refine ⟨?_, h.below.trans ⟨hg.os, hg.tape, hg.output, hg.size, hb⟩⟩
 simpa using hown
def OSPost (w : World) (base : Nat) (rs : List PR) (S : ByteArray → Nat) (s : Nat) (en : Ending) (w' : World) : Prop :=
 ∃ a c, en = .returned (.slice a (rs.filter (ze6 S s)).length c) ∧ Below w.heap.size w w' ∧ RRow w' base (.slice a (rs.filter (ze6 S s)).length c) (rs.filter (ze6 S s))
set_option maxRecDepth 100000 in
theorem ofstr_any (w : World) (base : Nat) (ar : Option Addr) (cr : Nat) (rs : List PR) (tb n : Nat) (ps : List (ByteArray × Nat)) (S : ByteArray → Nat) (s : Nat) (h : RRow w base (.slice ar rs.length cr) rs) (hb : base ≤ w.heap.size) (ht : SMap Tryz.prog 9 w tb n (stV ps S)) (hl : rs.length ≤ 1000) (hpd : ∀ r ∈ rs, r.R.pd.size ≤ 800 ∧ (zbi ps r.R.pd).isSome = true) :
  Calls Tryz.prog 61 #[.slice ar rs.length cr, .map (some tb), .int .i64 (s : Nat)] w (OSPost w base rs S s) := by
 obtain ⟨i0, hi, hz0, hz1, hz2⟩ := info_parts zn7
 have H := hide h
 have HT := hide ht
 have HPD := hide hpd
 have h0 : OSIn w base (.slice ar rs.length cr) rs tb n ps S [] (.slice none 0 0) w := ⟨World.ownsRow_nil _ _ _ _, Below.refl _ _⟩
 have H0 := hide h0
 have htl := ht.lt
 clear h ht hpd h0
 have hfs := fieldStr
 go_enter Tryz.func61, Tryz.ntmps61
 go_wp2_with fail
 go_loopg [7, 12] rs.length (fun gg v i wr => ∃ k : Nat, k ≤ rs.length ∧ gg = rs.length - k ∧ i = .int .i64 k ∧ OSIn w base (.slice ar rs.length cr) rs tb n ps S ((rs.take k).filter (ze6 S s)) v wr)
 case atStart => exact ⟨0, Nat.zero_le _, rfl, rfl, zaa H0⟩
 case round =>
  clear H0
  obtain ⟨k, hk, hgk, rfl, hinv⟩ := hrel
  obtain ⟨a1, cap1, rfl⟩ := zac hinv.row
  by_cases hlk : k < rs.length
  ·obtain ⟨r, hrr⟩ : ∃ r, r = rs[k] := ⟨_, rfl⟩
   have hmem : r ∈ rs := by rw [hrr]; exact List.getElem_mem hlk
   have hin := (zaa H).each r hmem
   obtain ⟨ah, ch, ehv⟩ := zac hin.hd
   obtain ⟨ab, cb, ebv⟩ := zac hin.bo.row
   obtain ⟨g, cap, hv, hbg, hgl, hnc, hcm, hc⟩ := zc6 pr_len3 (zaa H).row k hlk
   injection hv with h1 h2 h3
   subst h1 h3
   have hbw := hinv.below
   have e0 : wr.cell? ⟨g, k * 3, none⟩ = some (.string r.R.pd) := by rw [hrr]; exact (hbw.cell (p := ⟨g, k * 3, none⟩) hgl).trans (hc 0 (by omega))
   have e1 : wr.cell? ⟨g, k * 3 + 1, none⟩ = some (.slice ah r.R.ts.length ch) := by rw [← ehv, hrr]; exact (hbw.cell (p := ⟨g, k * 3 + 1, none⟩) hgl).trans (hc 1 (by omega))
   have e2 : wr.cell? ⟨g, k * 3 + 2, none⟩ = some (.slice ab r.bs.length cb) := by rw [← ebv, hrr]; exact (hbw.cell (p := ⟨g, k * 3 + 2, none⟩) hgl).trans (hc 2 (by omega))
   have hki : (k : Int) < rs.length := by omega
   have hI := hinv.alloc (.cells #[.string r.R.pd, .slice ah r.R.ts.length ch, .slice ab r.bs.length cb] 123)
   have hmA : SMap Tryz.prog 9 (wr.alloc (.cells #[.string r.R.pd, .slice ah r.R.ts.length ch, .slice ab r.bs.length cb] 123)) tb n (stV ps S) := (zaa HT).block (hI.below.block tb htl)
   obtain ⟨hp8, hps⟩ := zaa HPD r hmem
   have hkl : r.R.pd.size ≤ maxLen := by unfold maxLen; omega
   obtain ⟨m, hm⟩ := Option.isSome_iff_exists.1 hps
   have hu : (stV ps S r.R.pd).getD (.agg #[.string { data := #[] }, .int .i64 0, .int .i64 0]) = .agg #[.string r.R.pd, .int .i64 (S r.R.pd), .int .i64 m] := by unfold stV; rw [hm]; rfl
   have hfl : ((rs.take k).filter (ze6 S s)).length ≤ 1000 := Nat.le_trans (List.length_filter_le _ _) (by simp; omega)
   have hxr : r = ⟨r.R, .slice ah r.R.ts.length ch, r.bs, .slice ab r.bs.length cb⟩ := by rw [← ehv, ← ebv]
   have HXR := hide hxr
   have HTK := hide (zhn (f := ze6 S s) hlk)
   have HRR := hide hrr
   have hwr := hinv.below.size
   clear hc hinv hin hrr hmem hbw h2 hps hm ehv ebv hxr
   cases hq : ze6 S s r with
   | true =>
    have hqi : (S r.R.pd : Int) = s := by have : S r.R.pd = s := (by simpa [ze6] using hq); omega
    have HQ := hide hq
    have hownA := (hI.alloc (.cells #[.string r.R.pd, .slice ah r.R.ts.length ch, .slice ab r.bs.length cb] 123)).row
    have HI := hide (hI.alloc (.cells #[.string r.R.pd, .slice ah r.R.ts.length ch, .slice ab r.bs.length cb] 123))
    clear hI hq
    go_wp2_with (first
     | (at_lookup; refine zhm _ rfl _ _ 73 rfl 9 185 Tryz.underlying9 Tryz.underlying73 (Tryz.zeroValue185 _) tb n (stV ps S) rfl hmA r.R.pd rfl hkl _ hu ?_)
     | (at_builtin; refine wpList_append_own _ rfl _ _ 75 rfl w.heap.size 123 i0 _ 3 64 Tryz.underlying75 hi hz0 hz1 hz2 rfl (by decide) _ _ _ rfl hownA ⟨wr.heap.size + 1, 0, none⟩ 1 1 (PR.mk r.R (.slice ah r.R.ts.length ch) r.bs (.slice ab r.bs.length cb)).cells rfl rfl (pr_cell wr _ (PR.mk r.R (.slice ah r.R.ts.length ch) r.bs (.slice ab r.bs.length cb))) (pr_one _ _ _ _ _ _ _ _) (by unfold maxLen; omega) (by omega) (by simp; omega) ?_; intro v5 w5 hown5 hg5 hne5; clear hne5; obtain ⟨a5, cap5, rfl⟩ := zac hown5; have HI5 := hide ((zaa HI).append hown5 hg5); clear hown5 hg5))
    go_roundg (rs.length - (k + 1))
    case measure => omega
    case rel =>
     refine ⟨k + 1, by omega, rfl, by go_num, ?_⟩
     rw [zaa HTK, ← zaa HRR, zaa HQ, if_pos rfl, zaa HXR]
     exact zaa HI5
   | false =>
    have hqi : ¬ ((S r.R.pd : Int) = s) := by have : S r.R.pd ≠ s := (by simpa [ze6] using hq); omega
    have HQ := hide hq
    have HI := hide hI
    clear hI hq
    go_wp2_with (at_lookup; refine zhm _ rfl _ _ 73 rfl 9 185 Tryz.underlying9 Tryz.underlying73 (Tryz.zeroValue185 _) tb n (stV ps S) rfl hmA r.R.pd rfl hkl _ hu ?_)
    go_roundg (rs.length - (k + 1))
    case measure => omega
    case rel =>
     refine ⟨k + 1, by omega, rfl, by go_num, ?_⟩
     rw [zaa HTK, ← zaa HRR, zaa HQ, if_neg (by decide), List.append_nil]
     exact zaa HI
  ·have e : (rs.take k).filter (ze6 S s) = rs.filter (ze6 S s) := by rw [List.take_of_length_le (by omega)]
   rw [e] at hinv ⊢
   have HI := hide hinv
   clear hinv
   go_wp2_with fail
   go_ret
   have hI := zaa HI
   exact ⟨_, _, rfl, hI.below, ⟨zaf hI.row hb, fun r hr => by
    have hin := (zaa H).each r (List.mem_filter.1 hr).1
    exact ⟨zai hin.hd hI.below (fun g e => (hin.hd.lt g e).2), hin.bo.below hI.below, hin.eq⟩⟩⟩
end
section
open Go.RowKit Go.Maps
structure CntIn (w : World) (tb n : Nat) (ps : List (ByteArray × Nat)) (S : ByteArray → Nat) (Lf : ByteArray → Prop) (m cnt : Nat) (wr : World) : Prop where
 rg : SRange Tryz.prog 9 wr tb w.heap.size n (stV ps S) Lf cnt
 lo : ∀ k, (stV ps S k).isSome = true → ¬ Lf k → S k + 1 ≤ m
 hi : m = 0 ∨ ∃ k, (stV ps S k).isSome = true ∧ m = S k + 1
 k : Below w.heap.size w wr
def ziv (ps : List (ByteArray × Nat)) (S : ByteArray → Nat) (m : Nat) : Prop := (∀ k, (zbi ps k).isSome = true → S k + 1 ≤ m) ∧ (m = 0 ∨ ∃ k, (zbi ps k).isSome = true ∧ m = S k + 1)
theorem zn2 (ps : List (ByteArray × Nat)) (S : ByteArray → Nat) (k : ByteArray) : (stV ps S k).isSome = (zbi ps k).isSome := by unfold stV; cases zbi ps k <;> rfl
set_option maxRecDepth 100000 in
theorem count_any (w : World) (tb n : Nat) (ps : List (ByteArray × Nat)) (S : ByteArray → Nat) (h : SMap Tryz.prog 9 w tb n (stV ps S)) (hS : ∀ k, (zbi ps k).isSome = true → S k ≤ 1000000) :
  Calls Tryz.prog 59 #[.map (some tb)] w fun en w' => ∃ m : Nat, en = .returned (.int .i64 (m : Nat)) ∧ ziv ps S m ∧ Below w.heap.size w w' := by
 have HS := hide hS
 have htl := h.lt
 clear hS
 go_enter Tryz.func59, Tryz.ntmps59
 go_wp2_with (first | (at_range; refine wp_range _ rfl _ 73 rfl 9 185 Tryz.underlying9 Tryz.underlying73 tb n (stV ps S) rfl h ?_; intro w0 cnt0 hrg0 hcn hg0 hs0) | go_in)
 try go_frame
 have h0 : CntIn w tb n ps S (fun k => (stV ps S k).isSome = true) 0 cnt0 w0 := ⟨hrg0, fun k h1 h2 => absurd h1 h2, .inl rfl, ⟨hg0.os, hg0.tape, hg0.output, by omega, fun j hj => hg0.block j hj (by simp)⟩⟩
 have H0 := hide h0
 clear hrg0 hcn hg0 hs0 h h0
 go_loopg [3] cnt0 (fun gg c wr => ∃ (m : Nat) (Lf : ByteArray → Prop), c = .int .i64 (m : Nat) ∧ CntIn w tb n ps S Lf m gg wr)
 case atStart => exact ⟨0, _, rfl, zaa H0⟩
 case round =>
  clear H0
  obtain ⟨m, Lf, rfl, hin⟩ := hrel
  have hrg := hin.rg
  have HIN := hide hin
  clear hin
  go_wp2_with (first | (at_next; refine wp_next _ rfl _ rfl 9 Tryz.underlying9 tb w.heap.size n (stV ps S) _ gk (fun k => .agg #[.string k, .int .i64 (S k), .int .i64 ((zbi ps k).getD 0 : Nat)]) (stV_some ps S) rfl hrg ?_ ?_) | go_in)
  ·intro hdone
   have HD := hide hdone
   clear hdone hrg
   go_wp2_with fail
   go_ret
   have hin := zaa HIN
   exact ⟨m, rfl, ⟨fun k hk => hin.lo k (by rw [zn2]; exact hk) (zaa HD k), hin.hi.imp id fun ⟨k, h1, h2⟩ => ⟨k, by rw [← zn2 ps S]; exact h1, h2⟩⟩, hin.k⟩
  ·intro k w1 cnt1 hv1 hVk hrg1 hlt hg1 hs1 hen
   have hsk : (stV ps S k).isSome = true := by rw [hVk]; rfl
   have hk6 := zaa HS k (by rw [← zn2 ps S]; exact hsk)
   have HR1 := hide hrg1
   have HG1 := hide hg1
   have HSK := hide hsk
   have HV1 := hide hv1
   have hin := zaa HIN
   have hw1 := hin.k.size
   clear hs1 hrg hrg1 hg1 hVk hsk hin hv1
   have hmx : m ≤ 1000001 := by
    rcases (zaa HIN).hi with h | ⟨j, hj, h⟩
    ·omega
    ·have := zaa HS j (by rw [← zn2 ps S]; exact hj); omega
   go_wp2_with fail
   go_roundg cnt1
   case measure => omega
   case rel =>
    have hin := zaa HIN
    have g1 := zaa HG1
    have b1 : Below w.heap.size w w1 := ⟨g1.os.trans hin.k.os, g1.tape.trans hin.k.tape, g1.output.trans hin.k.output, Nat.le_trans hin.k.size g1.size, fun i hi => (g1.block i (by omega) (by simp; omega)).trans (hin.k.block i hi)⟩
    refine ⟨max m (S k + 1), _, by congr 1; omega, (zaa HR1).alloc _, fun x hx hn => ?_, ?_, b1.alloc b1.size _⟩
    ·by_cases e : x = k
     ·subst e; omega
     ·have := hin.lo x hx (fun h => hn ⟨h, e⟩); omega
    ·rcases Nat.le_total m (S k + 1) with h | h
     ·right; exact ⟨k, zaa HSK, by omega⟩
     ·rw [Nat.max_eq_left h]; exact hin.hi
end
section
open Go.RowKit Go.Maps
inductive PStrat (rs : List PR) (S : ByteArray → Nat) (limit count : Nat) : Nat → List (Th × Nat) → Option (List (Th × Nat)) → Prop
 | ends {s : Nat} {K : List (Th × Nat)} : count ≤ s → PStrat rs S limit count s K (some K)
 | fails {s : Nat} {K : List (Th × Nat)} : s < count → PClimb (rs.filter (ze6 S s)) limit 1 K none → PStrat rs S limit count s K none
 | next {s : Nat} {K K' : List (Th × Nat)} {r : Option (List (Th × Nat))} : s < count → PClimb (rs.filter (ze6 S s)) limit 1 K (some K') → PStrat rs S limit count (s + 1) K' r → PStrat rs S limit count s K r
theorem Closed.filter {rs : List PR} {TI : Th → Prop} (h : Closed rs TI) (f : PR → Bool) : Closed (rs.filter f) TI := fun K hK r hr => h K hK r (List.mem_filter.1 hr).1
structure FollIn (w : World) (kb : Nat) (rs : List PR) (S : ByteArray → Nat) (limit count : Nat) (TI : Th → Prop) (s : Nat) (K : List (Th × Nat)) (wr : World) : Prop where
 m : HMap wr kb K
 ti : ∀ p ∈ K, TI p.1
 len : K.length ≤ limit
 k : Below w.heap.size w wr
 rel : ∀ r, PStrat rs S limit count s K r → PStrat rs S limit count 0 [] r
def FollPost (w : World) (rs : List PR) (ps : List (ByteArray × Nat)) (S : ByteArray → Nat) (limit : Nat) (TI : Th → Prop) (en : Ending) (w' : World) : Prop :=
 ∃ m r, ziv ps S m ∧ PStrat rs S limit m 0 [] r ∧ Below w.heap.size w w' ∧ (r = none → en = .returned (.tuple #[.map none, .bool false])) ∧
  ∀ K, r = some K → ∃ kb, en = .returned (.tuple #[.map (some kb), .bool true]) ∧ w.heap.size ≤ kb ∧ HMap w' kb K ∧ K.length ≤ limit ∧ ∀ p ∈ K, TI p.1
set_option maxRecDepth 100000 in
theorem foll_any (w : World) (base : Nat) (ar : Option Addr) (cr : Nat) (rs : List PR) (tb n : Nat) (ps : List (ByteArray × Nat)) (S : ByteArray → Nat) (limit : Nat) (TI : Th → Prop) (h : RRow w base (.slice ar rs.length cr) rs) (hb : base ≤ w.heap.size) (ht : SMap Tryz.prog 9 w tb n (stV ps S)) (hS : ∀ k, (zbi ps k).isSome = true → S k ≤ 1000000) (hrl : rs.length ≤ 1000) (hpd : ∀ r ∈ rs, r.R.pd.size ≤ 800 ∧ (zbi ps r.R.pd).isSome = true) (hcl : Closed rs TI) (hl : limit ≤ 50) :
  Calls Tryz.prog 38 #[.slice ar rs.length cr, .map (some tb), .int .i64 (limit : Nat)] w (FollPost w rs ps S limit TI) := by
 have H := hide h
 have HT := hide ht
 have HPD := hide hpd
 have HCL := hide hcl
 have htl := ht.lt
 have k0 : Below w.heap.size w (w.alloc (.map #[] 0)) := (Below.refl _ _).alloc (Nat.le_refl _) _
 have HC := hide (count_any (w.alloc (.map #[] 0)) tb n ps S (ht.block (k0.block tb htl)) hS)
 have HK0 := hide k0
 have hmm := @run_makeMap Tryz.prog
 have HSS := hide hS
 clear h ht hpd hcl hS k0
 go_enter Tryz.func38, Tryz.ntmps38
 go_wp2_with (go_at_call 59; refine (zaa HC).mono ?_; rintro en w1 ⟨m, rfl, hct, hb1⟩; have HCT := hide hct; have HB1 := hide hb1; clear hct hb1)
 have hbw1 : Below w.heap.size w w1 := (zaa HK0).trans ((zaa HB1).mono (by simp))
 have hm1 : HMap w1 w.heap.size [] := (HMap.made w).block ((zaa HB1).block _ (by simp))
 have H0 := hide (show FollIn w w.heap.size rs S limit m TI 0 [] w1 from ⟨hm1, by simp, by simp, hbw1, fun _ h => h⟩)
 have hmx : m ≤ 1000001 := by
  rcases (zaa HCT).2 with h | ⟨j, hj, h⟩
  ·omega
  ·have := zaa HSS j hj; omega
 clear hbw1 hm1 hmm
 go_loopg [13] m (fun gg i wr => ∃ (s : Nat) (K : List (Th × Nat)), s ≤ m ∧ gg = m - s ∧ i = .int .i64 (s : Nat) ∧ FollIn w w.heap.size rs S limit m TI s K wr)
 case atStart => exact ⟨0, [], Nat.zero_le _, rfl, rfl, zaa H0⟩
 case round =>
  clear H0
  obtain ⟨s, K, hs, hgk, rfl, hin⟩ := hrel
  have HIN := hide hin
  clear hin
  by_cases hlk : s < m
  ·have hin := zaa HIN
   have hsi : (s : Int) < m := by omega
   have hrow : RRow wr base (.slice ar rs.length cr) rs := ⟨zai (zaa H).row hin.k (fun g e => ((zaa H).row.lt g e).2), fun r hr => ⟨zai ((zaa H).each r hr).hd hin.k (fun g e => (((zaa H).each r hr).hd.lt g e).2), ((zaa H).each r hr).bo.below hin.k, ((zaa H).each r hr).eq⟩⟩
   have HO := hide (ofstr_any wr base ar cr rs tb n ps S s hrow (Nat.le_trans hb hin.k.size) ((zaa HT).block (hin.k.block tb htl)) hrl (zaa HPD))
   have HM := hide hin.m
   have HCL2 := hide (fun (w2 : World) (a : Option Addr) (c : Nat) (hb2 : Below wr.heap.size wr w2) (hr2 : RRow w2 base (.slice a (rs.filter (ze6 S s)).length c) (rs.filter (ze6 S s))) => climb_any w2 w.heap.size base a c (rs.filter (ze6 S s)) limit TI K ((zaa HIN).m.block (hb2.block _ (zaa HIN).m.lt)) hr2 ((zaa HCL).filter _) (zaa HIN).ti (zaa HIN).len hl)
   clear hin hrow
   go_wp2_with fail
   refine (zaa HO).mono ?_
   rintro en w2 ⟨a2, c2, rfl, hb2, hr2⟩
   have HC2 := hide (zaa HCL2 w2 a2 c2 hb2 hr2)
   have HB2 := hide hb2
   clear hb2 hr2 HCL2
   go_wp2_with fail
   refine (zaa HC2).mono ?_
   rintro en w3 ⟨r, hpc, rfl, hk3, hK3⟩
   have HK3 := hide hk3
   have HPC := hide hpc
   have HH3 := hide hK3
   have hb3 : Below w.heap.size w w3 := by
    have hin := zaa HIN
    have hb2 := zaa HB2
    have h2 : Below w.heap.size w w2 := hin.k.trans (hb2.mono hin.k.size)
    exact ⟨hk3.os.trans h2.os, hk3.tape.trans h2.tape, hk3.output.trans h2.output, Nat.le_trans h2.size hk3.size, fun i hi => (hk3.block i (by have := h2.size; omega) (by simp; omega)).trans (h2.block i hi)⟩
   have HB3 := hide hb3
   clear hk3 hpc hK3 hb3
   cases hr : r with
   | none =>
    rw [hr] at HPC
    go_wp2_with fail
    go_ret2
    exact ⟨m, none, zaa HCT, (zaa HIN).rel _ (.fails hlk (zaa HPC)), zaa HB3, fun _ => rfl, fun K e => by cases e⟩
   | some K' =>
    obtain ⟨hm3, ht3, hl3⟩ := zaa HH3 K' hr
    rw [hr] at HPC
    have HM3 := hide hm3
    have HT3 := hide ht3
    clear hm3 ht3
    go_wp2_with fail
    go_roundg (m - (s + 1))
    case measure => omega
    case rel => exact ⟨s + 1, K', by omega, rfl, by go_num, zaa HM3, zaa HT3, hl3, zaa HB3, fun r h => (zaa HIN).rel r (.next hlk (zaa HPC) h)⟩
  ·go_wp2_with fail
   go_ret2
   have hin := zaa HIN
   exact ⟨m, some K, zaa HCT, hin.rel _ (.ends (by omega)), hin.k, (fun e => by cases e), fun K2 e => by cases e; exact ⟨_, rfl, Nat.le_refl _, hin.m, hin.len, hin.ti⟩⟩
end
end Go.Proofs.YtldkpahaocjdpaaGreat
