/-
  The program's strata: raise.
  The program's strata: Of.
-/
import Derived.Test.YtldkpahaocjdpaaGreatQueriesT24
set_option maxHeartbeats 16000000
namespace Go.Proofs.YtldkpahaocjdpaaGreat
section
open Go.RowKit Go.Maps
def upTo (S : ByteArray → Nat) : List PLit → Nat → Nat
 | [], m => m
 | l :: r, m => upTo S r (max m (S l.pd + if l.neg then 1 else 0))
open Classical in
noncomputable def setN (S : ByteArray → Nat) (k : ByteArray) (v : Nat) : ByteArray → Nat := fun x => if x = k then v else S x
theorem zg0 (S : ByteArray → Nat) (k : ByteArray) (v : Nat) : setN S k v k = v := by simp [setN]
theorem zg6 {S : ByteArray → Nat} {k x : ByteArray} {v : Nat} (h : x ≠ k) : setN S k v x = S x := by simp [setN, h]
noncomputable def zhj (S : ByteArray → Nat) (R : PRule) : ByteArray → Nat := setN S R.pd (upTo S R.body (S R.pd))
theorem upTo_step {S : ByteArray → Nat} {ls : List (PLit × Value)} {k m : Nat} (h : k < ls.length) : upTo S ((ls.map (·.1)).drop k) m = upTo S ((ls.map (·.1)).drop (k + 1)) (max m (S ls[k].1.pd + if ls[k].1.neg then 1 else 0)) := by
 rw [List.drop_eq_getElem_cons (by simpa using h), upTo]; simp
theorem stV_set (ps : List (ByteArray × Nat)) (S : ByteArray → Nat) (nm : ByteArray) (n v : Nat) (h : zbi ps nm = some n) : updV (stV ps S) nm (.agg #[.string nm, .int .i64 v, .int .i64 n]) = stV ps (setN S nm v) := by
 funext k
 unfold stV
 by_cases e : k = nm
 ·subst e; rw [zd3, h, zg0]; rfl
 ·rw [zc8 e, zg6 e]
theorem stV_at {ps : List (ByteArray × Nat)} {nm : ByteArray} {n : Nat} (S : ByteArray → Nat) (h : zbi ps nm = some n) : (stV ps S nm).getD (.agg #[.string { data := #[] }, .int .i64 0, .int .i64 0]) = .agg #[.string nm, .int .i64 (S nm), .int .i64 n] := by
 unfold stV; rw [h]; rfl
theorem znw (S : ByteArray → Nat) : ∀ (l : List PLit) (m : Nat), m ≤ upTo S l m
 | [], _ => Nat.le_refl _
 | _ :: r, _ => Nat.le_trans (Nat.le_max_left _ _) (znw S r _)
theorem upTo_le {S : ByteArray → Nat} {c : Nat} : ∀ (l : List PLit) (m : Nat), m ≤ c → (∀ x ∈ l, (S x.pd + if x.neg then 1 else 0) ≤ c) → upTo S l m ≤ c
 | [], _, h, _ => h
 | x :: r, _, h, hl => upTo_le r _ (Nat.max_le.2 ⟨h, hl x List.mem_cons_self⟩) (fun y hy => hl y (List.mem_cons_of_mem _ hy))
theorem upTo_all {S : ByteArray → Nat} : ∀ (l : List PLit) (m : Nat), ∀ x ∈ l, (S x.pd + if x.neg then 1 else 0) ≤ upTo S l m
 | [], _, _, hx => by cases hx
 | _ :: r, _, x, hx => by
  rcases List.mem_cons.1 hx with rfl | hx
  ·exact Nat.le_trans (Nat.le_max_right _ _) (znw S r _)
  ·exact upTo_all r _ x hx
theorem fieldStr (x y z : Value) (w : World) : Sem.run Tryz.prog (Instr.field 185 (.agg #[x, y, z]) 1) w = .ok y w := by kernel_rfl
structure RaiseIn (w : World) (b n : Nat) (V : ByteArray → Option Value) (pd : ByteArray) (nt m : Nat) (wr : World) : Prop where
 map : SMap Tryz.prog 9 wr b n V
 below : Below w.heap.size w wr
 size : w.heap.size + 1 < wr.heap.size
 cel : wr.heap[w.heap.size + 1]? = some (.cells #[.string pd, .int .i64 m, .int .i64 nt] 185 (0, 0))
theorem RaiseIn.next {w : World} {b n : Nat} {V : ByteArray → Option Value} {pd : ByteArray} {nt m : Nat} {wr : World} (h : RaiseIn w b n V pd nt m wr) (hb : b < w.heap.size) (x : Int) (m' : Nat) (hx : x = m') (o : Obj) :
  RaiseIn w b n V pd nt m' ((wr.setCell ⟨w.heap.size + 1, 1, none⟩ (.int .i64 x)).alloc o) := by
 subst hx
 refine ⟨(h.map.block (Below.heap_setCell _ _ _ _ (by simp; omega))).alloc o, (h.below.setCell (by simp) _).alloc ?_ o, ?_, ?_⟩
 ·have := h.size; simp [World.setCell]; omega
 ·have := h.size; rw [World.size_alloc]; simp [World.setCell]; omega
 ·have := h.size
  rw [Below.heap_alloc _ _ _ (by simp [World.setCell]; omega), heap_setCell_same _ _ _ _ _ _ h.cel]
  rfl
set_option maxRecDepth 100000 in
theorem raise_any (w : World) (b n base : Nat) (ps : List (ByteArray × Nat)) (S : ByteArray → Nat) (pd : ByteArray) (ah : Option Addr) (nh ch : Nat) (ab : Option Addr) (cb : Nat) (ls : List (PLit × Value)) (h : SMap Tryz.prog 9 w b n (stV ps S)) (hL : LRow w base (.slice ab ls.length cb) ls) (hn : n ≤ 1000000000) (hp : pd.size ≤ 800) (nt : Nat) (hnp : zbi ps pd = some nt) (hlp : ∀ x ∈ ls, x.1.pd.size ≤ 800 ∧ ∃ m, zbi ps x.1.pd = some m) (hS : ∀ k, S k ≤ 100000) (hlb : ls.length ≤ 1000) :
  Calls Tryz.prog 56 #[.map (some b), .agg #[.string pd, .slice ah nh ch, .slice ab ls.length cb]] w fun e w' => e = .returned (.bool (decide (S pd < upTo S (ls.map (·.1)) (S pd)))) ∧ SMap Tryz.prog 9 w' b (n + 1) (stV ps (setN S pd (upTo S (ls.map (·.1)) (S pd)))) ∧ Kept [b] w w' := by
 have hblt := h.lt
 have bA := (Below.refl w.heap.size w).alloc (Nat.le_refl _) (.cells #[.string pd, .slice ah nh ch, .slice ab ls.length cb] 123)
 have hmap := h.alloc (.cells #[.string pd, .slice ah nh ch, .slice ab ls.length cb] 123)
 have hkl : pd.size ≤ maxLen := by unfold maxLen; omega
 have hu := stV_at S hnp
 have hmap2 := hmap.alloc (.cells #[.string pd, .int .i64 (S pd), .int .i64 nt] 185)
 have bB := bA.alloc (by simp) (.cells #[.string pd, .int .i64 (S pd), .int .i64 nt] 185)
 have hcel : ((w.alloc (.cells #[.string pd, .slice ah nh ch, .slice ab ls.length cb] 123)).alloc (.cells #[.string pd, .int .i64 (S pd), .int .i64 nt] 185)).heap[w.heap.size + 1]? = some (.cells #[.string pd, .int .i64 (S pd), .int .i64 nt] 185 (0, 0)) := by
  have := heap_alloc_new (w.alloc (.cells #[.string pd, .slice ah nh ch, .slice ab ls.length cb] 123)) (.cells #[.string pd, .int .i64 (S pd), .int .i64 nt] 185)
  rw [World.size_alloc] at this
  exact this
 have hSp := hS pd
 have HL := hide hL
 clear h hL
 have hfs := fieldStr
 go_enter Tryz.func56, Tryz.ntmps56
 go_wp2_with (at_lookup; refine zhm _ rfl _ _ 73 rfl 9 185 Tryz.underlying9 Tryz.underlying73 (Tryz.zeroValue185 _) b n (stV ps S) rfl hmap pd rfl hkl _ hu ?_)
 clear hmap bA
 go_loopg [20] ls.length (fun gg i wr => ∃ (k m : Nat), k ≤ ls.length ∧ gg = ls.length - k ∧ i = .int .i64 k ∧ RaiseIn w b n (stV ps S) pd nt m wr ∧ S pd ≤ m ∧ m ≤ 100001 ∧ upTo S ((ls.map (·.1)).drop k) m = upTo S (ls.map (·.1)) (S pd))
 case atStart => exact ⟨0, S pd, Nat.zero_le _, rfl, rfl, ⟨hmap2, bB, by simp, hcel⟩, Nat.le_refl _, by omega, rfl⟩
 case round =>
  clear hmap2 bB hcel
  obtain ⟨k, m, hk, hgk, rfl, hR, hSm, hm2, hup⟩ := hrel
  have hm := hR.map
  have hB := hR.below
  have hsz := hR.size
  have hcel := hR.cel
  have HR := hide hR
  clear hR
  obtain ⟨x0, xf0⟩ := zab hcel 0
  obtain ⟨x1, xf1⟩ := zab hcel 1
  obtain ⟨x2, xf2⟩ := zab hcel 2
  by_cases hlk : k < ls.length
  ·have hst := upTo_step (S := S) (m := m) hlk
   have HU := hide (hst.symm.trans hup)
   clear hst hup
   have hLw := (zaa HL).below hB
   obtain ⟨g, cap, hv, hbg, hgl, hnc, hcm, hc⟩ := zc6 pl_len hLw.row k hlk
   injection hv with h1 h2 h3
   subst h1 h3
   obtain ⟨at1, ct1, hbt⟩ := zac (hLw.each _ (List.getElem_mem hlk))
   have q0 := hc 0 (by omega)
   have q1 := hc 1 (by omega)
   have q2 := hc 2 (by omega)
   simp only [PLit.cells, hbt, Nat.add_zero, List.getElem?_cons_zero, List.getElem?_cons_succ] at q0 q1 q2
   obtain ⟨hq8, mq, hmq⟩ := hlp _ (List.getElem_mem hlk)
   have hql : ls[k].1.pd.size ≤ maxLen := by unfold maxLen; omega
   have huq := stV_at S hmq
   have hSq := hS ls[k].1.pd
   have hmA := hm.alloc (.cells #[.bool ls[k].1.neg, .string ls[k].1.pd, .slice at1 ls[k].1.ts.length ct1] 183)
   clear hc hbt hLw hm hB hcel
   cases hneg : ls[k].1.neg with
   | true =>
    rw [hneg] at q0 hmA HU
    go_wp2_with (at_lookup; refine zhm _ rfl _ _ 73 rfl 9 185 Tryz.underlying9 Tryz.underlying73 (Tryz.zeroValue185 _) b n (stV ps S) rfl hmA ls[k].1.pd rfl hql _ huq ?_)
    have hN := (zaa HR).next hblt (max (m : Int) ((S ls[k].1.pd : Int) + 1)) (max m (S ls[k].1.pd + 1)) (by omega) (.cells #[.bool true, .string ls[k].1.pd, .slice at1 ls[k].1.ts.length ct1] 183)
    go_roundg (ls.length - (k + 1))
    case measure => omega
    case rel => exact ⟨k + 1, max m (S ls[k].1.pd + 1), by omega, rfl, by go_num, hN, by omega, by omega, by simpa using zaa HU⟩
   | false =>
    rw [hneg] at q0 hmA HU
    go_wp2_with (at_lookup; refine zhm _ rfl _ _ 73 rfl 9 185 Tryz.underlying9 Tryz.underlying73 (Tryz.zeroValue185 _) b n (stV ps S) rfl hmA ls[k].1.pd rfl hql _ huq ?_)
    have hN := (zaa HR).next hblt (max (m : Int) (S ls[k].1.pd : Int)) (max m (S ls[k].1.pd)) (by omega) (.cells #[.bool false, .string ls[k].1.pd, .slice at1 ls[k].1.ts.length ct1] 183)
    go_roundg (ls.length - (k + 1))
    case measure => omega
    case rel => exact ⟨k + 1, max m (S ls[k].1.pd), by omega, rfl, by go_num, hN, by omega, by omega, by simpa using zaa HU⟩
  ·have hd : (ls.map (·.1)).drop k = [] := List.drop_eq_nil_of_le (by simp; omega)
   rw [hd, upTo] at hup
   have HUP := hide hup
   have HST := hide (stV_set ps S pd nt m hnp)
   clear hd hup hu hcel
   go_wp2_with (at_mapUpdate; refine zls _ rfl _ _ _ 73 rfl 9 185 Tryz.underlying9 Tryz.underlying73 b n (stV ps S) rfl hm (by unfold maxLen; omega) pd (.agg #[.string pd, .int .i64 m, .int .i64 nt]) (by rfl) (by rfl) hkl ?_)
   intro w2 hm2 hg2
   have hT2 := Tab.put ⟨hm, (Kept.refl _ _).of_below hB⟩ hm2 hg2
   rw [zaa HST, zaa HUP] at hT2
   have HT2 := hide hT2
   have hcel2 : w2.heap[w.heap.size + 1]? = some (.cells #[.string pd, .int .i64 m, .int .i64 nt] 185 (0, 0)) := by
    rw [hg2.block _ hsz (by simp; omega)]; exact (zaa HR).cel
   obtain ⟨y1, yf1⟩ := zab hcel2 1
   clear hm2 hg2 hT2 hm hB hcel2 x0 x1 x2 xf0 xf1 xf2
   go_wp2_with fail
   go_ret
   exact ⟨by rw [zaa HUP]; rfl, (zaa HT2).map, (zaa HT2).kept⟩
end
section
open Go.RowKit Go.Maps
def KeepsN (f : ByteArray → Nat) (R : PRule) : Prop := ∀ l ∈ R.body, (f l.pd + if l.neg then 1 else 0) ≤ f R.pd
def zgh (rs : List PRule) (f : ByteArray → Nat) : Prop := ∀ R ∈ rs, KeepsN f R
def LowN (rs : List PRule) (S : ByteArray → Nat) : Prop := ∀ f, zgh rs f → ∀ k, S k ≤ f k
theorem zox (S : ByteArray → Nat) (R : PRule) (k : ByteArray) : S k ≤ zhj S R k := by
 unfold zhj
 by_cases e : k = R.pd
 ·subst e; rw [zg0]; exact znw _ _ _
 ·rw [zg6 e]; exact Nat.le_refl _
theorem low_raise {rs : List PRule} {S : ByteArray → Nat} (h : LowN rs S) {R : PRule} (hR : R ∈ rs) : LowN rs (zhj S R) := by
 intro f hf k
 unfold zhj
 by_cases e : k = R.pd
 ·subst e
  rw [zg0]
  refine upTo_le _ _ (h f hf _) fun x hx => ?_
  have h1 := h f hf x.pd
  have h2 := hf R hR x hx
  omega
 ·rw [zg6 e]; exact h f hf k
theorem zqo {S : ByteArray → Nat} {R : PRule} (h : ¬ S R.pd < upTo S R.body (S R.pd)) : KeepsN S R ∧ zhj S R = S := by
 have h2 : upTo S R.body (S R.pd) = S R.pd := Nat.le_antisymm (Nat.not_lt.1 h) (znw _ _ _)
 refine ⟨fun l hl => ?_, ?_⟩
 ·have := upTo_all R.body (S R.pd) (S := S) l hl
  rwa [h2] at this
 ·funext k
  unfold zhj
  by_cases e : k = R.pd
  ·subst e; rw [zg0, h2]
  ·rw [zg6 e]
def sumN (S : ByteArray → Nat) : List (ByteArray × Nat) → Nat
 | [] => 0
 | p :: r => S p.1 + sumN S r
theorem zmz {S T : ByteArray → Nat} (h : ∀ k, S k ≤ T k) : ∀ ps, sumN S ps ≤ sumN T ps
 | [] => Nat.le_refl _
 | p :: r => Nat.add_le_add (h p.1) (zmz h r)
theorem sumN_lt {S T : ByteArray → Nat} (h : ∀ k, S k ≤ T k) {p : ByteArray × Nat} (hp : S p.1 < T p.1) : ∀ ps, p ∈ ps → sumN S ps < sumN T ps
 | [], hm => by cases hm
 | q :: r, hm => by
  rcases List.mem_cons.1 hm with rfl | hm
  ·exact Nat.add_lt_add_of_lt_of_le hp (zmz h r)
  ·exact Nat.add_lt_add_of_le_of_lt (h q.1) (sumN_lt h hp r hm)
theorem zmn {S : ByteArray → Nat} {c : Nat} (h : ∀ k, S k ≤ c) : ∀ ps, sumN S ps ≤ c * ps.length
 | [] => Nat.zero_le _
 | p :: r => by
  have := zmn h r
  have h1 := h p.1
  simp only [sumN, List.length_cons, Nat.mul_add, Nat.mul_one]
  omega
theorem zov {nm : ByteArray} {n : Nat} : ∀ {ps : List (ByteArray × Nat)}, zbi ps nm = some n → ∃ p ∈ ps, p.1 = nm
 | [], h => by simp [zbi] at h
 | p :: r, h => by
  rw [zbi] at h
  split at h
  ·rename_i e; exact ⟨p, List.mem_cons_self, zcf.1 e⟩
  ·obtain ⟨q, hq, e⟩ := zov h; exact ⟨q, List.mem_cons_of_mem _ hq, e⟩
structure OneIn (rs : List PRule) (ps : List (ByteArray × Nat)) (S0 : ByteArray → Nat) (k : Nat) (b : Bool) (S : ByteArray → Nat) : Prop where
 low : LowN rs S
 ge : sumN S0 ps ≤ sumN S ps
 up : b = true → sumN S0 ps < sumN S ps
 keeps : b = false → ∀ R ∈ rs.take k, KeepsN S R
theorem OneIn.next {rs : List PRule} {ps : List (ByteArray × Nat)} {S0 : ByteArray → Nat} {k : Nat} {b : Bool} {S : ByteArray → Nat} (h : OneIn rs ps S0 k b S) (hk : k < rs.length) {n : Nat} (hn : zbi ps rs[k].pd = some n) : OneIn rs ps S0 (k + 1) (if decide (S rs[k].pd < upTo S rs[k].body (S rs[k].pd)) then true else b) (zhj S rs[k]) := by
 have hge := zmz (zox S rs[k]) ps
 by_cases hu : S rs[k].pd < upTo S rs[k].body (S rs[k].pd)
 ·obtain ⟨p, hp, e⟩ := zov hn
  have hlt : sumN S ps < sumN (zhj S rs[k]) ps := sumN_lt (zox S rs[k]) (p := p) (by rw [e, zhj, zg0]; exact hu) ps hp
  simp only [hu, decide_true, if_true]
  exact ⟨low_raise h.low (List.getElem_mem hk), Nat.le_trans h.ge hge, fun _ => Nat.lt_of_le_of_lt h.ge hlt, fun e => by cases e⟩
 ·obtain ⟨h1, h2⟩ := zqo hu
  simp only [hu, decide_false, h2]
  refine ⟨h.low, h.ge, by simpa using h.up, fun e R hR => ?_⟩
  rw [List.take_succ_eq_append_getElem hk, List.mem_append] at hR
  rcases hR with hR | hR
  ·exact h.keeps (by simpa using e) R hR
  ·rw [List.mem_singleton.1 hR]; exact h1
set_option maxRecDepth 100000 in
theorem of_any (w : World) (base : Nat) (ar : Option Addr) (cr : Nat) (rs : List PR) (ps : List (ByteArray × Nat)) (h : RRow w base (.slice ar rs.length cr) rs) (hrl : rs.length ≤ 30) (hb3 : ∀ r ∈ rs, r.bs.length ≤ 3) (hpd : ∀ r ∈ rs, r.R.pd.size ≤ 800) (hlp : ∀ r ∈ rs, ∀ x ∈ r.bs, x.1.pd.size ≤ 800) (hag : zed ((rs.map (·.R)).flatMap zcs) []) (hps : zdq ((rs.map (·.R)).flatMap zcs) [] = ps) (hpl : ps.length ≤ 1000) (hin : ∀ r ∈ rs, (∃ n, zbi ps r.R.pd = some n) ∧ ∀ x ∈ r.bs, ∃ n, zbi ps x.1.pd = some n) (f0 : ByteArray → Nat) (hf0 : zgh (rs.map (·.R)) f0) (hfb : ∀ k, f0 k ≤ 1000) :
  Calls Tryz.prog 35 #[.slice ar rs.length cr] w fun e w' => e = .returned (.map (some w.heap.size)) ∧ w.heap.size < w'.heap.size ∧ Below w.heap.size w w' ∧ ∃ (S : ByteArray → Nat) (n : Nat), SMap Tryz.prog 9 w' w.heap.size n (stV ps S) ∧ n ≤ 1000000000 ∧ zgh (rs.map (·.R)) S ∧ LowN (rs.map (·.R)) S := by
 have HR := hide h
 have hsf := zmn hfb ps
 go_enter Tryz.func35, Tryz.ntmps35
 go_wp2_with fail
 refine (ground_any w base ar cr rs h hrl hb3 hpd hlp hag).mono ?_
 rintro e w1 ⟨rfl, hz1, hb1, hm1⟩
 rw [hps] at hm1
 clear h hag hps
 go_wp2_with fail
 go_loopg [4] (sumN f0 ps + 1) (fun gg r wr => ∃ (b : Bool) (S : ByteArray → Nat) (n : Nat), r = .bool b ∧ (b = true → sumN f0 ps - sumN S ps + 1 ≤ gg) ∧ n + 30 * gg ≤ 120 + 30 * (sumN f0 ps + 1) ∧ Below w.heap.size w wr ∧ w.heap.size < wr.heap.size ∧ SMap Tryz.prog 9 wr w.heap.size n (stV ps S) ∧ LowN (rs.map (·.R)) S ∧ (b = false → zgh (rs.map (·.R)) S))
 case atStart => exact ⟨true, fun _ => 0, 4 * rs.length, rfl, fun _ => by omega, by omega, hb1, hz1, hm1, fun _ _ _ => Nat.zero_le _, fun e => by cases e⟩
 case round =>
  clear hb1 hz1 hm1
  obtain ⟨b, S0, n0, rfl, hgg, hn0, hB, hsz, hm, hlow, hval⟩ := hrel
  cases b with
  | false =>
   have HV := hide (hval rfl)
   have HLW := hide hlow
   clear hlow hval
   go_wp2_with fail
   go_ret
   exact ⟨rfl, hsz, hB, S0, n0, hm, by omega, zaa HV, zaa HLW⟩
  | true =>
   have hgk := hgg rfl
   generalize hg1 : gk = g1 at *
   have h0 : OneIn (rs.map (·.R)) ps S0 0 false S0 := ⟨hlow, Nat.le_refl _, (fun e => by cases e), fun _ R hR => by simp at hR⟩
   clear hgg hval hlow
   go_wp2_with fail
   go_loopg [4, 12] rs.length (fun gg2 r j wj => ∃ (b : Bool) (S : ByteArray → Nat) (k : Nat), r = .bool b ∧ k ≤ rs.length ∧ gg2 = rs.length - k ∧ j = .int .i64 k ∧ Below w.heap.size w wj ∧ w.heap.size < wj.heap.size ∧ SMap Tryz.prog 9 wj w.heap.size (n0 + k) (stV ps S) ∧ OneIn (rs.map (·.R)) ps S0 k b S)
   case atStart => exact ⟨false, S0, 0, rfl, Nat.zero_le _, rfl, rfl, hB, hsz, hm, h0⟩
   case round =>
    clear hB hm h0
    obtain ⟨b, S, k, rfl, hk, hgk2, rfl, hB, hsz, hm, hone⟩ := hrel
    by_cases hlk : k < rs.length
    ·have hRw := (zaa HR).below hB
     obtain ⟨gr, capr, hvr, hbgr, hglr, hncr, hcmr, hcr⟩ := zc6 zof hRw.row k hlk
     injection hvr with h4 h5 h6
     subst h4 h6
     have hpr := (zaa HR).each _ (List.getElem_mem hlk)
     obtain ⟨ah, ch, hbh⟩ := zac hpr.hd
     obtain ⟨ab, cb, hbb⟩ := zac hpr.bo.row
     have r0 := hcr 0 (by omega)
     have r1 := hcr 1 (by omega)
     have r2 := hcr 2 (by omega)
     simp only [PR.cells, hbh, hbb, Nat.add_zero, List.getElem?_cons_zero, List.getElem?_cons_succ] at r0 r1 r2
     have hp8 := hpd _ (List.getElem_mem hlk)
     obtain ⟨⟨nt, hnt⟩, hlit⟩ := hin _ (List.getElem_mem hlk)
     have hlp8 := hlp _ (List.getElem_mem hlk)
     have hbl3 := hb3 _ (List.getElem_mem hlk)
     have hm1 := hm.alloc (.cells #[.string rs[k].R.pd, .slice ah rs[k].R.ts.length ch, .slice ab rs[k].bs.length cb] 123)
     have hB1 := hB.alloc (by omega) (.cells #[.string rs[k].R.pd, .slice ah rs[k].R.ts.length ch, .slice ab rs[k].bs.length cb] 123)
     have hbo : LRow (wr.alloc (.cells #[.string rs[k].R.pd, .slice ah rs[k].R.ts.length ch, .slice ab rs[k].bs.length cb] 123)) base (.slice ab rs[k].bs.length cb) rs[k].bs := by
      have := hpr.bo.below hB1
      rwa [hbb] at this
     have hnx := hone.next (by simpa using hlk) (n := nt) (by simpa using hnt)
     have hlow' : ∀ x, S x ≤ 100000 := fun x => Nat.le_trans (Nat.le_trans (hone.low f0 hf0 x) (hfb x)) (by omega)
     simp only [List.getElem_map] at hnx
     have heq := hpr.eq
     have HNX := hide hnx
     clear hcr hpr hbh hbb hRw hnx hone hB hm
     go_wp2_with fail
     refine (raise_any _ w.heap.size (n0 + k) base ps S rs[k].R.pd ah rs[k].R.ts.length ch ab cb rs[k].bs hm1 hbo (by omega) hp8 nt hnt (fun x hx => ⟨hlp8 x hx, hlit x hx⟩) hlow' (by omega)).mono ?_
     rintro e w3 ⟨rfl, hm3, hk3⟩
     have hz3 := hk3.size
     rw [World.size_alloc] at hz3
     have hB3 := zar hB1 hk3 (by simp; omega) (by simp)
     rw [heq] at hm3 ⊢
     have HM3 : Hid (SMap Tryz.prog 9 w3 w.heap.size (n0 + (k + 1)) (stV ps (zhj S rs[k].R))) := hide hm3
     clear hm3 hk3 hB1 hm1 hbo r0 r1 r2 hlow' heq
     generalize decide (S rs[k].R.pd < upTo S rs[k].R.body (S rs[k].R.pd)) = c at HNX ⊢
     cases c with
     | true =>
      go_wp2_with fail
      go_roundg (rs.length - (k + 1))
      case measure => omega
      case rel => exact ⟨true, _, k + 1, rfl, by omega, rfl, by go_num, hB3, by omega, zaa HM3, zaa HNX⟩
     | false =>
      go_wp2_with fail
      go_roundg (rs.length - (k + 1))
      case measure => omega
      case rel => exact ⟨b, _, k + 1, rfl, by omega, rfl, by go_num, hB3, by omega, zaa HM3, zaa HNX⟩
    ·have hkl : k = rs.length := by omega
     have hge := hone.ge
     have hup := hone.up
     have hlw := zmz (hone.low f0 hf0) ps
     have HON := hide hone
     have HUP := hide hup
     clear hone hup
     go_wp2_with fail
     go_roundg (g1 - 1)
     case measure => omega
     case rel => exact ⟨b, S, n0 + k, rfl, fun e => by have := zaa HUP e; omega, by omega, hB, hsz, hm, (zaa HON).low, fun e R hR => (zaa HON).keeps e R (by rwa [List.take_of_length_le (by simp; omega)])⟩
end
end Go.Proofs.YtldkpahaocjdpaaGreat
