/-
  next: the things of a height.
-/
import Derived.Test.YtldkpahaocjdpaaGreatQueriesT40
set_option maxHeartbeats 16000000
namespace Go.Proofs.YtldkpahaocjdpaaGreat
section
open Go.RowKit Go.Maps
attribute [local go_sem ↓] zgb ze4 zg1 zds zh0 zgq zgu zgl
attribute [local go_sem] Oper.semAt_some
attribute [local go_sem] zeh zfv zfx zfr
set_option maxRecDepth 100000 in
theorem next_any (w : World) (kb base : Nat) (ar : Option Addr) (cr : Nat) (rs : List PR) (K : List (Th × Nat)) (h limit : Nat) (hm : HMap w kb K) (hr : RRow w base (.slice ar rs.length cr) rs) (hok : ∀ r ∈ rs, RuleOk K r) (hK : K.length ≤ limit) (hl : limit ≤ 50) :
  Calls Tryz.prog 99 #[.map (some kb), .slice ar rs.length cr, .int .i64 (h : Nat), .int .i64 (limit : Nat)] w (NextPost w rs K h limit) := by
 have hmx := zbt hr.row
 unfold maxLen at hmx
 have HM := hide hm
 have HR := hide hr
 have HOK := hide hok
 have hkl := hm.lt
 clear hm hr hok
 refine callsIn_wide.1 (callsIn_of_wp_marks (F := Fence.wide) (n := 5) Tryz.func99 rfl trivial (wpIn_wide.2 ?_) rfl)
 simp only [Tryz.ntmps99, List.size_toArray, List.length_cons, List.length_nil, Nat.reduceAdd, Nat.reduceSub, Array.replicate_succ, Array.replicate_zero, List.push_toArray, List.append_toArray, List.nil_append, List.cons_append]
 have hmm := @run_makeMap Tryz.prog
 go_wp2_with fail
 generalize hw0 : World.alloc (World.alloc (World.alloc (World.alloc (World.alloc (World.alloc (World.alloc w _) _) _) _) _) _) _ = w0
 have hnb : NBox w kb (w.heap.size + 1 + 1 + 1 + 1 + 1) h limit K [] w0 := by
  rw [← hw0]
  exact NBox.start w kb h limit K (zaa HM)
 have HNB := hide hnb
 clear hw0 hnb
 refine wp_loop_ghost_k (fun gg a wr => ∃ (k : Nat) (ds : List Nat) (u : Nat → Value) (L : List (Th × Nat)), k ≤ rs.length ∧ gg = rs.length - k ∧ a = { tmps := #[Value.map (some kb), Value.slice ar rs.length cr, Value.int IntKind.i64 (h : Nat), Value.int IntKind.i64 (limit : Nat), Value.pointer (some ⟨w.heap.size, 0, none⟩), undef, Value.pointer (some ⟨w.heap.size + 1, 0, none⟩), Value.pointer (some ⟨w.heap.size + 1 + 1, 0, none⟩), Value.pointer (some ⟨w.heap.size + 1 + 1 + 1, 0, none⟩), Value.pointer (some ⟨w.heap.size + 1 + 1 + 1 + 1, 0, none⟩), Value.pointer (some ⟨w.heap.size + 1 + 1 + 1 + 1 + 1 + 1, 0, none⟩), undef, u 12, u 13, u 14, u 15, u 16, Value.map (some (w.heap.size + 1 + 1 + 1 + 1 + 1)), Value.slice ar rs.length cr, Value.int IntKind.i64 (rs.length : Nat), Value.int IntKind.i64 (k : Nat), u 21, u 22, u 23, u 24, u 25, u 26, u 27, u 28, u 29, u 30, u 31, u 32, u 33, u 34, u 35, u 36, u 37, u 38, u 39, u 40, u 41, u 42, u 43, u 44, u 45, u 46, u 47, u 48, u 49, u 50], defers := dmarks ds } ∧ NBox w kb (w.heap.size + 1 + 1 + 1 + 1 + 1) h limit K L wr ∧ NewIn rs K (rs.take k) ⟨⟨{ data := #[] }, [], []⟩, undef, [], undef⟩ [] h L ∧ MarksIn w ds wr ∧ K.length + L.length ≤ limit) rs.length ?_ ?_
 ·exact ⟨0, [], fun _ => undef, [], Nat.zero_le _, rfl, rfl, zaa HNB, ⟨by simp, by simp, by simp, by simp, by simp⟩, ⟨by simp, by simp⟩, by simpa using hK⟩
 ·intro gk a wr hI Jl Kl hJl hKl
  obtain ⟨k, ds, u, L, hk, hgk, rfl, hnb, hnew, hmk, hlen⟩ := hI
  have HNB := hide hnb
  have HNEW := hide hnew
  have HMK := hide hmk
  clear hnb hnew hmk
  by_cases hlk : k < rs.length
  ·have hnb := zaa HNB
   obtain ⟨r, hrr⟩ : ∃ r, r = rs[k] := ⟨_, rfl⟩
   have hmem : r ∈ rs := by rw [hrr]; exact List.getElem_mem hlk
   have hin := (zaa HR).each r hmem
   have hro := zaa HOK r hmem
   obtain ⟨ah, ch, ehv⟩ := zac hin.hd
   obtain ⟨ab, cb, ebv⟩ := zac hin.bo.row
   obtain ⟨g, cap, hv, hbg, hgl, hnc, hcm, hc⟩ := zc6 pr_len3 (zaa HR).row k hlk
   injection hv with h1 h2 h3
   subst h1 h3
   have hbw := hnb.bw
   have e0 : wr.cell? ⟨g, k * 3, none⟩ = some (.string r.R.pd) := by rw [hrr]; exact (hbw.cell (p := ⟨g, k * 3, none⟩) hgl).trans (hc 0 (by omega))
   have e1 : wr.cell? ⟨g, k * 3 + 1, none⟩ = some (.slice ah r.R.ts.length ch) := by rw [← ehv, hrr]; exact (hbw.cell (p := ⟨g, k * 3 + 1, none⟩) hgl).trans (hc 1 (by omega))
   have e2 : wr.cell? ⟨g, k * 3 + 2, none⟩ = some (.slice ab r.bs.length cb) := by rw [← ebv, hrr]; exact (hbw.cell (p := ⟨g, k * 3 + 2, none⟩) hgl).trans (hc 2 (by omega))
   obtain ⟨c4, -⟩ := zab hnb.k4 0
   simp only [List.getElem?_toArray, List.getElem?_cons_zero] at c4
   have hki : (k : Int) < rs.length := by omega
   have hwl : w.heap.size < wr.heap.size := (Array.getElem?_eq_some_iff.1 hnb.k4).1
   obtain ⟨c4a, -⟩ := zab ((Below.heap_alloc wr (.cells #[.string r.R.pd, .slice ah r.R.ts.length ch, .slice ab r.bs.length cb] 123) _ hwl).trans hnb.k4) 0
   have hA : WArg (fun i => i = w.heap.size + 1 + 1 + 1 + 1 + 1) (wr.alloc (.cells #[.string r.R.pd, .slice ah r.R.ts.length ch, .slice ab r.bs.length cb] 123)) kb (.slice ah r.R.ts.length ch) (.slice ab r.bs.length cb) base r.bs K := by
    have kA : Below w.heap.size w (wr.alloc (.cells #[.string r.R.pd, .slice ah r.R.ts.length ch, .slice ab r.bs.length cb] 123)) := hbw.alloc hbw.size _
    have hbo := hin.bo
    rw [ebv] at hbo
    refine ⟨hbo.below kA, (zaa HM).block (kA.block _ hkl), by omega, fun x hx g hg => by have := ((hin.bo.each x hx).lt g hg).2; omega, fun i hi => by have := (Array.getElem?_eq_some_iff.1 hnb.f10).1; simp; omega, hro.l3, hro.t4, _, _, _, rfl⟩
   have HW := hide (ways_prog _ _ kb r.R.pd _ _ base r.bs K hA)
   have HIN := hide hin
   have HRO := hide hro
   have HMEM := hide hmem
   have HRR := hide hrr
   have HEHV := hide ehv
   simp only [List.getElem?_toArray, List.getElem?_cons_zero] at c4a
   clear hnb hin hro hmem hrr hc hA ebv ehv h2 hbw
   go_wp2_with (go_at_call 145; refine (zaa HW).mono ?_; rintro en w1 ⟨rb, xb, eb, rfl, hb1, hw1⟩; have HB1 := hide hb1; have HW1 := hide hw1; clear hb1 hw1)
   have hb1 := zaa HB1
   have hw1 := zaa HW1
   have hnb := zaa HNB
   have hs1 : wr.heap.size + 1 ≤ w1.heap.size := by have := hb1.size; simpa using this
   have hds : ∀ D ∈ ds, D < w1.heap.size := fun D hD => by have := (Array.getElem?_eq_some_iff.1 ((zaa HMK).at_ D hD).2).1; omega
   have hf10 := (Array.getElem?_eq_some_iff.1 hnb.f10).1
   have kw : Below wr.heap.size wr w1 := ((Below.refl _ _).alloc (Nat.le_refl _) _).trans (hb1.mono (by simp))
   have hstart : NRound w kb h limit K rs (rs.take k) r wr.heap.size ah ab ch cb ds [] L w1 := by
    have hn := zaa HNEW
    refine ⟨hnb.below kw, ⟨hn.hs, hn.nd, hn.new, hn.all, by simp⟩, hlen, ⟨(zaa HMK).nd, fun D hD => ⟨((zaa HMK).at_ D hD).1, (kw.block D (Array.getElem?_eq_some_iff.1 ((zaa HMK).at_ D hD).2).1).trans ((zaa HMK).at_ D hD).2⟩⟩, (hb1.block _ (by simp)).trans (heap_alloc_new wr _)⟩
   have HST := hide hstart
   have HKW := hide kw
   have HF10 := hide hf10
   have HDS := hide hds
   have HS1 := hide hs1
   clear hb1 hnb hstart kw hf10 hds hs1 e0 e1 e2 c4 c4a hwl
   refine (wpIn_wide (n := 5)).1 ?_
   refine wpIn_rangeFunc_ownH (α := WaySet K r.bs) rfl (by omega) (gf := 233) (lb := #[.pointer (some ⟨rb, 0, none⟩), .pointer (some ⟨xb, 0, none⟩), .pointer (some ⟨eb, 0, none⟩)]) rfl trivial (enters_of Tryz.func233 (by kernel_rfl) rfl)
    (zqr _ _ w1 rb xb eb kb r.R.pd _ _ base r.bs K hw1 (zaa HRO).neg) (fun h1 h2 => Keep.trans h1 h2) (fun W l o o' _ hl hc hwk => zp4 W l o o' hl hc hwk) (Below.refl _ _) (fun _ => rfl)
    (fun (pre : List (WaySet K r.bs)) (W : World) => ∃ L', NRound w kb h limit K rs (rs.take k) r wr.heap.size ah ab ch cb ds (pre.map (fun y : WaySet K r.bs => y.1)) L' W ∧ w1.heap.size ≤ W.heap.size)
    (fun (c : Code) (_ : List (WaySet K r.bs)) (W : World) => c = .ret ∧ ∃ L', NOver w kb h limit K rs ds L' W)
    (fun pre A B row hs hg hr => let ⟨L', hL, hz⟩ := hs; ⟨L', hL.grown hg (fun i e => (hr i e).1) (by have := zaa HF10; have := zaa HS1; omega) (by have := zaa HS1; omega) (zaa HDS), Nat.le_trans hz hg.size⟩)
    (fun c pre A B row hs hg hr => let ⟨hc, L', hL⟩ := hs; ⟨hc, L', hL.grown hg (fun i e => (hr i e).1) (by have := zaa HF10; have := zaa HS1; omega) (zaa HDS)⟩)
    ⟨L, zaa HST, Nat.le_refl _⟩
    (fun (x : WaySet K r.bs) (a' : Act) (W : World) => ∃ Bx, w1.heap.size ≤ Bx ∧ BV W Bx x.1 ∧ a' = { tmps := List.toArray ((Value.map (some kb)) :: (Value.slice (some ⟨g, 0, none⟩) rs.length cr) :: (Value.int IntKind.i64 (h : Nat)) :: (Value.int IntKind.i64 (limit : Nat)) :: (Value.pointer (some ⟨w.heap.size, 0, none⟩)) :: (undef) :: (Value.pointer (some ⟨w.heap.size + 1, 0, none⟩)) :: (Value.pointer (some ⟨w.heap.size + 1 + 1, 0, none⟩)) :: (Value.pointer (some ⟨w.heap.size + 1 + 1 + 1, 0, none⟩)) :: (Value.pointer (some ⟨w.heap.size + 1 + 1 + 1 + 1, 0, none⟩)) :: (Value.pointer (some ⟨w.heap.size + 1 + 1 + 1 + 1 + 1 + 1, 0, none⟩)) :: (undef) :: (Value.pointer (some ⟨wr.heap.size, 0, none⟩)) :: (Value.pointer (some ⟨Bx, 0, none⟩)) :: (u 14) :: (u 15) :: (u 16) :: (Value.map (some (w.heap.size + 1 + 1 + 1 + 1 + 1))) :: (Value.slice (some ⟨g, 0, none⟩) rs.length cr) :: (Value.int IntKind.i64 (rs.length : Nat)) :: (Value.int IntKind.i64 (k : Nat)) :: (Value.bool true) :: (Value.pointer (some ⟨g, k * 3, none⟩)) :: (Value.agg #[Value.string r.R.pd, Value.slice ah r.R.ts.length ch, Value.slice ab r.bs.length cb]) :: (Value.agg #[Value.string r.R.pd, Value.slice ah r.R.ts.length ch, Value.slice ab r.bs.length cb]) :: (Value.map (some kb)) :: (Value.func (.func 233) #[] #[.pointer (some ⟨rb, 0, none⟩), .pointer (some ⟨xb, 0, none⟩), .pointer (some ⟨eb, 0, none⟩)]) :: (zec x.1) :: (u 28) :: (u 29) :: (u 30) :: (u 31) :: (u 32) :: (u 33) :: (u 34) :: (u 35) :: (u 36) :: (u 37) :: (u 38) :: (u 39) :: (u 40) :: (u 41) :: (u 42) :: (u 43) :: (u 44) :: (u 45) :: (u 46) :: (u 47) :: (u 48) :: (u 49) :: (u 50) :: []), defers := [] })
    (fun x a' _ A B row hs hg hr => let ⟨Bx, h1, h2, h3⟩ := hs; ⟨Bx, h1, h2.grown hg (fun i e => (hr i e).2), h3⟩)
    ?assign ?body ?done ?stop
   case assign =>
    intro l pre x W K2 hI hK2
    obtain ⟨L', hL, hz⟩ := hI
    have HK2 := hide hK2
    have HL := hide hL
    clear hK2 hL
    gi_wp2
    exact zaa HK2 _ _ ((KeepsOthers.alloc _ _).from _) ((Keep.refl _ _).alloc _) ⟨L', (zaa HL).grown (World.grownBy_alloc W _ none) (B := w1.heap.size) (fun _ e => by cases e) (by have := zaa HF10; have := zaa HS1; omega) (by have := zaa HS1; omega) (zaa HDS), by simp; omega⟩ ⟨W.heap.size, hz, BV.new _ _, rfl⟩
   case body =>
    rintro l pre x a' W hlW - ⟨L', hL, hz⟩ ⟨Bx, hBx, hbv, rfl⟩ -
    obtain ⟨T, hTd⟩ : ∃ T, T = zc9 x.1 (hdOf r) := ⟨_, rfl⟩
    have hxm := (List.mem_filter.1 x.2).1
    have hT : ThOk T := by rw [hTd]; exact (zaa HRO).hd x.1 hxm
    have hx12 := (zaa HRO).len x.1 hxm
    have hld := hbv.load
    obtain ⟨q0, -⟩ := zab hL.rl 0
    obtain ⟨q1, -⟩ := zab hL.rl 1
    simp only [List.getElem?_toArray, List.getElem?_cons_zero, List.getElem?_cons_succ] at q0 q1
    have hrow : W.ownsRow base 191 1 (.slice ah (hdOf r).ts.length ch) (hdOf r).ts.length ((hdOf r).ts.map zgm) := by
     have := zai (zaa HIN).hd hL.box.bw (fun g e => ((zaa HIN).hd.lt g e).2)
     rw [zaa HEHV] at this
     exact this
    have HFI := hide (zn9 W base x.1 (hdOf r) ah ch hrow (zaa HRO).h4 hx12)
    rw [← hTd] at HFI
    have HL := hide hL
    have HTD := hide hTd
    have HT := hide hT
    have HBV := hide hbv
    clear hL hTd hT hbv hrow hxm hx12
    have HN5 := hide (fun (w4 : World) (hb4 : Below W.heap.size W w4) => (show NRound w kb h limit K rs (rs.take k) r wr.heap.size ah ab ch cb ds (pre.map (fun y : WaySet K r.bs => y.1)) L' (w4.alloc (.cells (zbe T).toArray 88)) ∧ Below W.heap.size W (w4.alloc (.cells (zbe T).toArray 88)) from by
     have kk : Below W.heap.size W (w4.alloc (.cells (zbe T).toArray 88)) := hb4.alloc hb4.size _
     exact ⟨(zaa HL).grown (row := none) ⟨kk.os, kk.tape, kk.output, kk.size, fun i hi _ => kk.block i hi⟩ (B := w1.heap.size) (fun _ e => by cases e) (by have := zaa HF10; have := zaa HS1; omega) (by have := zaa HS1; omega) (zaa HDS), kk⟩))
    have HC4 := hide (fun (V : World) (L2 : List (Th × Nat)) (hV : NBox w kb (w.heap.size + 1 + 1 + 1 + 1 + 1) h limit K L2 V) => (show V.cell? ⟨w.heap.size, 0, none⟩ = some (.map (some kb)) ∧ V.cell? ⟨w.heap.size + 1, 0, none⟩ = some (.int .i64 (h : Nat)) ∧ V.cell? ⟨w.heap.size + 1 + 1, 0, none⟩ = some (.int .i64 (limit : Nat)) ∧ V.cell? ⟨w.heap.size + 1 + 1 + 1 + 1 + 1 + 1, 0, none⟩ = some (.map (some (w.heap.size + 1 + 1 + 1 + 1 + 1))) from ⟨(zab hV.k4 0).1, (zab hV.h6 0).1, (zab hV.l7 0).1, (zab hV.f10 0).1⟩))
    have HBS := hide (show w.heap.size + 1 + 1 + 1 + 1 + 1 + 1 < w1.heap.size by have := zaa HF10; have := zaa HS1; omega)
    cases ho : (zcq K T).isSome with
    | true =>
     gi_wp2_with (refine ⟨trivial, ?_⟩; gi_at_call 146; refine (CallsIn.inRound l (callsIn_wide.2 (zaa HFI))).mono ?_; rintro en w4 ⟨hb4, rfl⟩; obtain ⟨n5, b5⟩ := zaa HN5 w4 hb4; obtain ⟨m0, m1, m2, m3⟩ := zaa HC4 _ _ n5.box; have t5 := (TV.new w4 T).load; have lk5 := n5.box.mK.look (zaa HT) Tryz.underlying83; rw [ho] at lk5; have HN := hide n5; have HBN := hide b5; clear n5 b5 hb4)
     refine ⟨(KeepsOthers.of_grownBy (row := none) ⟨(zaa HBN).os, (zaa HBN).tape, (zaa HBN).output, (zaa HBN).size, fun i hi _ => (zaa HBN).block i hi⟩ (fun _ _ e => by cases e)).from _, Keep.of_below (zaa HBN), L', ?_, Nat.le_trans hz (zaa HBN).size⟩
     have n5 := zaa HN
     refine ⟨n5.box, ?_, n5.len, n5.mk_, n5.rl⟩
     rw [List.map_append]
     exact n5.new.old (by rw [← zaa HTD]; exact ho)
    | false =>
     have hno : zcq K T = none := by simpa using ho
     have HNO := hide hno
     clear hno
     have hl2 := zkm L' T h
     have hl3 : (putN L' T h).length ≤ L'.length + 1 := by rw [hl2]; split <;> omega
     have hll := (zaa HL).len
     have HL2 := hide hl2
     clear hl2
     have hbb := zaa HBS
     by_cases hov : limit < K.length + (putN L' T h).length
     ·have hoi : (limit : Int) < (K.length : Int) + ((putN L' T h).length : Int) := by omega
      gi_wp2_with (refine ⟨trivial, ?_⟩; gi_at_call 146; refine (CallsIn.inRound l (callsIn_wide.2 (zaa HFI))).mono ?_; rintro en w4 ⟨hb4, rfl⟩; obtain ⟨n5, b5⟩ := zaa HN5 w4 hb4; obtain ⟨m0, m1, m2, m3⟩ := zaa HC4 _ _ n5.box; have t5 := (TV.new w4 T).load; have lk5 := n5.box.mK.look (zaa HT) Tryz.underlying83; rw [ho] at lk5; obtain ⟨w6, hput, hm6, ht6⟩ := n5.box.mF.put (zaa HT) h (by unfold maxLen; omega) Tryz.underlying83; have n6 := n5.box.turn ht6.grown hm6; obtain ⟨p0, p1, p2, p3⟩ := zaa HC4 _ _ n6; have ln1 := n6.mK.len Tryz.underlying83; have ln2 := n6.mF.len Tryz.underlying83; have HN := hide n5; have HBN := hide b5; have HN6 := hide n6; have HT6 := hide ht6.grown; obtain ⟨v8, z8⟩ := zab n6.r8 0; obtain ⟨v9, z9⟩ := zab n6.o9 0; simp only [List.getElem?_toArray, List.getElem?_cons_zero] at v8 v9; clear n5 b5 hb4 n6 ht6 hm6)
      have n5 := zaa HN
      have b5 := zaa HBN
      have n6 := zaa HN6
      have g6 := zaa HT6
      have hkf : KeepsFrom w1.heap.size W w6 := ((KeepsOthers.of_grownBy (row := none) ⟨b5.os, b5.tape, b5.output, b5.size, fun i hi _ => b5.block i hi⟩ (fun _ _ e => by cases e)).from _).trans (KeepsFrom.of_grownBy g6 (fun j e => by cases e; omega))
      rw [zmj n6.r8 rfl, zmj n6.o9 rfl]
      have hpn := n5.new.put (e := x.1) (zaa HMEM) x.2 (by rw [← zaa HTD]; exact zaa HNO)
      rw [← zaa HTD] at hpn
      exact ⟨hkf, rfl, putN L' T h, n6, hpn.nd, hpn.new, hov, ⟨n5.mk_.nd, fun D hD => ⟨(n5.mk_.at_ D hD).1, (g6.block D (Array.getElem?_eq_some_iff.1 (n5.mk_.at_ D hD).2).1 (fun e => by cases e; have := (n5.mk_.at_ _ hD).1; omega)).trans (n5.mk_.at_ D hD).2⟩⟩⟩
     ·have hoi : ¬ ((limit : Int) < (K.length : Int) + ((putN L' T h).length : Int)) := by omega
      gi_wp2_with (refine ⟨trivial, ?_⟩; gi_at_call 146; refine (CallsIn.inRound l (callsIn_wide.2 (zaa HFI))).mono ?_; rintro en w4 ⟨hb4, rfl⟩; obtain ⟨n5, b5⟩ := zaa HN5 w4 hb4; obtain ⟨m0, m1, m2, m3⟩ := zaa HC4 _ _ n5.box; have t5 := (TV.new w4 T).load; have lk5 := n5.box.mK.look (zaa HT) Tryz.underlying83; rw [ho] at lk5; obtain ⟨w6, hput, hm6, ht6⟩ := n5.box.mF.put (zaa HT) h (by unfold maxLen; omega) Tryz.underlying83; have n6 := n5.box.turn ht6.grown hm6; obtain ⟨p0, p1, p2, p3⟩ := zaa HC4 _ _ n6; have ln1 := n6.mK.len Tryz.underlying83; have ln2 := n6.mF.len Tryz.underlying83; have HN := hide n5; have HBN := hide b5; have HN6 := hide n6; have HT6 := hide ht6.grown; clear n5 b5 hb4 n6 ht6 hm6)
      have n5 := zaa HN
      have b5 := zaa HBN
      have n6 := zaa HN6
      have g6 := zaa HT6
      have hkf : KeepsFrom w1.heap.size W w6 := ((KeepsOthers.of_grownBy (row := none) ⟨b5.os, b5.tape, b5.output, b5.size, fun i hi _ => b5.block i hi⟩ (fun _ _ e => by cases e)).from _).trans (KeepsFrom.of_grownBy g6 (fun j e => by cases e; omega))
      refine ⟨hkf, (Keep.of_below b5).trans ((Keep.refl _ _).grown g6 (fun r e => .inr (by cases e; rfl))), putN L' T h, ?_, Nat.le_trans hz hkf.size⟩
      have hds := zaa HDS
      refine ⟨n6, ?_, by omega, ⟨n5.mk_.nd, fun D hD => ⟨(n5.mk_.at_ D hD).1, (g6.block D (Array.getElem?_eq_some_iff.1 (n5.mk_.at_ D hD).2).1 (fun e => by cases e; have := (n5.mk_.at_ _ hD).1; omega)).trans (n5.mk_.at_ D hD).2⟩⟩, (g6.block _ (Array.getElem?_eq_some_iff.1 n5.rl).1 (fun e => by injection e with e; have := zaa HF10; omega)).trans n5.rl⟩
      rw [List.map_append]
      have := n5.new.put (e := x.1) (zaa HMEM) x.2 (by rw [← zaa HTD]; exact zaa HNO)
      rw [← zaa HTD] at this
      exact this
   case done =>
    rintro D xs W hD hS ⟨L', hL, hz⟩ hdef
    have HL := hide hL
    have HD := hide hD
    have HS := hide hS
    have HDF := hide hdef
    have HJL := hide hJl
    clear hL hD hS hdef hJl
    go_wp2_with fail
    have hL := zaa HL
    have hD := zaa HD
    have hbs : w.heap.size + 1 + 1 + 1 + 1 + 1 + 1 < w1.heap.size := by have := zaa HF10; have := zaa HS1; omega
    refine Handed.intro (rs.length - (k + 1)) (by omega) (zaa HJL _ _ _ ⟨k + 1, D :: ds, fun i => if i = 12 then Value.pointer (some ⟨wr.heap.size, 0, none⟩) else if i = 21 then Value.bool true else if i = 22 then Value.pointer (some ⟨g, k * 3, none⟩) else if i = 23 then Value.agg #[Value.string r.R.pd, Value.slice ah r.R.ts.length ch, Value.slice ab r.bs.length cb] else if i = 24 then Value.agg #[Value.string r.R.pd, Value.slice ah r.R.ts.length ch, Value.slice ab r.bs.length cb] else if i = 25 then Value.map (some kb) else if i = 26 then Value.func (.func 233) #[] #[.pointer (some ⟨rb, 0, none⟩), .pointer (some ⟨xb, 0, none⟩), .pointer (some ⟨eb, 0, none⟩)] else if i = 49 then Value.int IntKind.i64 ((k : Int) + 1) else u i, L', by omega, rfl, rfl, hL.box, ?_, ⟨List.nodup_cons.2 ⟨fun hm => by have := zaa HDS D hm; omega, hL.mk_.nd⟩, fun E hE => ?_⟩, hL.len⟩)
    ·have hn := hL.new
     refine ⟨hn.hs, hn.nd, hn.new, fun q hq e he hno => ?_, by simp⟩
     rw [List.take_succ_eq_append_getElem hlk] at hq
     rcases List.mem_append.1 hq with hq | hq
     ·exact hn.all q hq e he hno
     ·rw [List.mem_singleton.1 hq, ← zaa HRR] at he hno ⊢
      exact hn.now e (List.mem_map.2 ⟨⟨e, he⟩, zaa HS _, rfl⟩) hno
    ·rcases List.mem_cons.1 hE with rfl | hE
     ·exact ⟨by omega, zaa HDF⟩
     ·exact hL.mk_.at_ E hE
   case stop =>
    rintro D c pre W hD - ⟨rfl, L', hL⟩ hdef
    have HL := hide hL
    have HD := hide hD
    have HDF := hide hdef
    clear hL hD hdef
    gi_wp2
    have hL := zaa HL
    have hD := zaa HD
    have hbs : w.heap.size + 1 + 1 + 1 + 1 + 1 + 1 < w1.heap.size := by have := zaa HF10; have := zaa HS1; omega
    refine zho (D :: ds) _ (List.nodup_cons.2 ⟨fun hm => by have := zaa HDS D hm; omega, hL.mk_.nd⟩) (fun E hE => ?_) (fun w' hs => ?_)
    ·rcases List.mem_cons.1 hE with rfl | hE
     ·exact zaa HDF
     ·exact (hL.mk_.at_ E hE).2
    ·have hno : ∀ i, i ≤ w.heap.size + 1 + 1 + 1 + 1 + 1 + 1 → i ∉ D :: ds := fun i hi hm => by
      rcases List.mem_cons.1 hm with rfl | hm
      ·omega
      ·have := (hL.mk_.at_ i hm).1; omega
     have q8 : w'.cell? ⟨w.heap.size + 1 + 1 + 1, 0, none⟩ = some (.map none) := (zab ((hs.block (w.heap.size + 1 + 1 + 1) (hno _ (by omega))).trans hL.box.r8) 0).1
     have q9 : w'.cell? ⟨w.heap.size + 1 + 1 + 1 + 1, 0, none⟩ = some (.bool false) := (zab ((hs.block (w.heap.size + 1 + 1 + 1 + 1) (hno _ (by omega))).trans hL.box.o9) 0).1
     refine ⟨.tuple #[.map none, .bool false], by simp [results, Tryz.results99, go_sem, q8, q9], ?_⟩
     refine ⟨⟨hs.os.trans hL.box.bw.os, hs.tape.trans hL.box.bw.tape, hs.output.trans hL.box.bw.output, by rw [hs.size]; exact hL.box.bw.size, fun i hi => (hs.block i (hno i (by omega))).trans (hL.box.bw.block i hi)⟩, .inr ⟨rfl, L'.map (·.1), hL.nd, fun t ht => ?_, by rw [List.length_map]; exact hL.len⟩⟩
     obtain ⟨p, hp, rfl⟩ := List.mem_map.1 ht
     exact hL.new p hp
  ·have hnb := zaa HNB
   obtain ⟨c10, -⟩ := zab hnb.f10 0
   obtain ⟨c8, z8⟩ := zab hnb.r8 0
   obtain ⟨c9, z9⟩ := zab hnb.o9 0
   simp only [List.getElem?_toArray, List.getElem?_cons_zero] at c10 c8 c9
   clear hnb hJl hKl
   go_wp2_with fail
   refine zho ds _ (zaa HMK).nd (fun D hD => ?_) (fun w' hs => ?_)
   ·have := ((zaa HMK).at_ D hD).1
    rw [Below.heap_setCell _ _ _ _ (by simp; omega), Below.heap_setCell _ _ _ _ (by simp; omega)]
    exact ((zaa HMK).at_ D hD).2
   ·have hno : ∀ i, i ≤ w.heap.size + 1 + 1 + 1 + 1 + 1 + 1 → i ∉ ds := fun i hi hm => by have := ((zaa HMK).at_ i hm).1; omega
    have q8 : w'.cell? ⟨w.heap.size + 1 + 1 + 1, 0, none⟩ = some (.map (some (w.heap.size + 1 + 1 + 1 + 1 + 1))) := by
     rw [World.cell?_of_block (by exact hs.block (w.heap.size + 1 + 1 + 1) (hno _ (by omega))), World.cell?_setCell_other _ _ _ _ (by simp), World.cell?_setCell_same' _ _ _ (by rw [c8]; rfl)]
    have q9 : w'.cell? ⟨w.heap.size + 1 + 1 + 1 + 1, 0, none⟩ = some (.bool true) := by
     rw [World.cell?_of_block (by exact hs.block (w.heap.size + 1 + 1 + 1 + 1) (hno _ (by omega))), World.cell?_setCell_same' _ _ _ (by rw [World.cell?_setCell_other _ _ _ _ (by simp), c9]; rfl)]
    refine ⟨.tuple #[.map (some (w.heap.size + 1 + 1 + 1 + 1 + 1)), .bool true], by simp [results, Tryz.results99, go_sem, q8, q9], ?_⟩
    have hnb := zaa HNB
    have hnew := zaa HNEW
    have hb8 : ∀ i, i ≤ w.heap.size + 1 + 1 + 1 + 1 + 1 + 1 → i ≠ w.heap.size + 1 + 1 + 1 → i ≠ w.heap.size + 1 + 1 + 1 + 1 → w'.heap[i]? = wr.heap[i]? := fun i hi h1 h2 => by
     rw [hs.block _ (hno _ hi), Below.heap_setCell _ _ _ _ (by simpa using h2), Below.heap_setCell _ _ _ _ (by simpa using h1)]
    refine ⟨⟨hs.os.trans hnb.bw.os, hs.tape.trans hnb.bw.tape, hs.output.trans hnb.bw.output, by rw [hs.size]; simp; exact hnb.bw.size, fun i hi => (hb8 i (by omega) (by omega) (by omega)).trans (hnb.bw.block i hi)⟩, .inl ⟨_, L, rfl, by omega, hnb.mF.block (hb8 _ (by omega) (by omega) (by omega)), hnew.hs, fun t => ?_, hlen⟩⟩
    constructor
    ·intro ht
     obtain ⟨n, hn⟩ := Option.isSome_iff_exists.1 ht
     exact hnew.new _ (zd9 hn)
    ·rintro ⟨h1, r, hr, e, he, rfl⟩
     exact hnew.all r (by rw [List.take_of_length_le (by omega)]; exact hr) e he h1
end
end Go.Proofs.YtldkpahaocjdpaaGreat
