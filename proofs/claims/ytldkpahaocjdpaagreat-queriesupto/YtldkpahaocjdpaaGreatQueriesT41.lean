/-
  next: the things of a height.
  maps.Copy, where nothing that comes is there.
  climb: a stratum, height by height.
  A thing's text: as its atom is written.
-/
import Derived.Test.YtldkpahaocjdpaaGreatQueriesT40
import Derived.Test.YtldkpahaocjdpaaGreatQueriesT26
import Derived.Test.YtldkpahaocjdpaaGreatQueriesT24
import Derived.Test.YtldkpahaocjdpaaGreatQueriesT27
set_option maxHeartbeats 16000000
namespace Go.Proofs.YtldkpahaocjdpaaGreat
section
open Go.RowKit Go.Maps
attribute [local go_sem ↓] zgb ze5 zgm zdt zh1 zgt zgo zgy
attribute [local go_sem] Oper.semAt_some
attribute [local go_sem] zei zfs zf1 zfu
set_option maxRecDepth 100000 in
theorem next_any (w : World) (kb base : Nat) (ar : Option Addr) (cr : Nat) (rs : List PR) (K : List (Th × Nat)) (h limit : Nat) (hm : HMap w kb K) (hr : RRow w base (.slice ar rs.length cr) rs) (hok : ∀ r ∈ rs, RuleOk K r) (hK : K.length ≤ limit) (hl : limit ≤ 50) :
  Calls Tryz.prog 99 #[.map (some kb), .slice ar rs.length cr, .int .i64 (h : Nat), .int .i64 (limit : Nat)] w (NextPost w rs K h limit) := by
 have hmx := zbt hr.row
 unfold maxLen at hmx
 have HM := hide hm
 have HR := hide hr
 have HOK := hide hok
 have hkl := hm.lt
 clear hm hr hok
 refine callsIn_wide.1 (callsIn_of_wp_marks (F := Fence.wide) (n := 5) Tryz.func99 rfl trivial (wpIn_wide.2 ?_) rfl)
 simp only [Tryz.ntmps99, List.size_toArray, List.length_cons, List.length_nil, Nat.reduceAdd, Nat.reduceSub, Array.replicate_succ, Array.replicate_zero, List.push_toArray, List.append_toArray, List.nil_append, List.cons_append]
 have hmm := @run_makeMap Tryz.prog
 go_wp2_with fail
 generalize hw0 : World.alloc (World.alloc (World.alloc (World.alloc (World.alloc (World.alloc (World.alloc w _) _) _) _) _) _) _ = w0
 have hnb : NBox w kb (w.heap.size + 1 + 1 + 1 + 1 + 1) h limit K [] w0 := by
  rw [← hw0]
  exact NBox.start w kb h limit K (zaa HM)
 have HNB := hide hnb
 clear hw0 hnb
 refine wp_loop_ghost_k (fun gg a wr => ∃ (k : Nat) (ds : List Nat) (u : Nat → Value) (L : List (Th × Nat)), k ≤ rs.length ∧ gg = rs.length - k ∧ a = { tmps := #[Value.map (some kb), Value.slice ar rs.length cr, Value.int IntKind.i64 (h : Nat), Value.int IntKind.i64 (limit : Nat), Value.pointer (some ⟨w.heap.size, 0, none⟩), undef, Value.pointer (some ⟨w.heap.size + 1, 0, none⟩), Value.pointer (some ⟨w.heap.size + 1 + 1, 0, none⟩), Value.pointer (some ⟨w.heap.size + 1 + 1 + 1, 0, none⟩), Value.pointer (some ⟨w.heap.size + 1 + 1 + 1 + 1, 0, none⟩), Value.pointer (some ⟨w.heap.size + 1 + 1 + 1 + 1 + 1 + 1, 0, none⟩), undef, u 12, u 13, u 14, u 15, u 16, Value.map (some (w.heap.size + 1 + 1 + 1 + 1 + 1)), Value.slice ar rs.length cr, Value.int IntKind.i64 (rs.length : Nat), Value.int IntKind.i64 (k : Nat), u 21, u 22, u 23, u 24, u 25, u 26, u 27, u 28, u 29, u 30, u 31, u 32, u 33, u 34, u 35, u 36, u 37, u 38, u 39, u 40, u 41, u 42, u 43, u 44, u 45, u 46, u 47, u 48, u 49, u 50], defers := dmarks ds } ∧ NBox w kb (w.heap.size + 1 + 1 + 1 + 1 + 1) h limit K L wr ∧ NewIn rs K (rs.take k) ⟨⟨{ data := #[] }, [], []⟩, undef, [], undef⟩ [] h L ∧ MarksIn w ds wr ∧ K.length + L.length ≤ limit) rs.length ?_ ?_
 ·exact ⟨0, [], fun _ => undef, [], Nat.zero_le _, rfl, rfl, zaa HNB, ⟨by simp, by simp, by simp, by simp, by simp⟩, ⟨by simp, by simp⟩, by simpa using hK⟩
 ·intro gk a wr hI Jl Kl hJl hKl
  obtain ⟨k, ds, u, L, hk, hgk, rfl, hnb, hnew, hmk, hlen⟩ := hI
  have HNB := hide hnb
  have HNEW := hide hnew
  have HMK := hide hmk
  clear hnb hnew hmk
  by_cases hlk : k < rs.length
  ·have hnb := zaa HNB
   obtain ⟨r, hrr⟩ : ∃ r, r = rs[k] := ⟨_, rfl⟩
   have hmem : r ∈ rs := by rw [hrr]; exact List.getElem_mem hlk
   have hin := (zaa HR).each r hmem
   have hro := zaa HOK r hmem
   obtain ⟨ah, ch, ehv⟩ := zac hin.hd
   obtain ⟨ab, cb, ebv⟩ := zac hin.bo.row
   obtain ⟨g, cap, hv, hbg, hgl, hnc, hcm, hc⟩ := zc7 pr_len3 (zaa HR).row k hlk
   injection hv with h1 h2 h3
   subst h1 h3
   have hbw := hnb.bw
   have e0 : wr.cell? ⟨g, k * 3, none⟩ = some (.string r.R.pd) := by rw [hrr]; exact (hbw.cell (p := ⟨g, k * 3, none⟩) hgl).trans (hc 0 (by omega))
   have e1 : wr.cell? ⟨g, k * 3 + 1, none⟩ = some (.slice ah r.R.ts.length ch) := by rw [← ehv, hrr]; exact (hbw.cell (p := ⟨g, k * 3 + 1, none⟩) hgl).trans (hc 1 (by omega))
   have e2 : wr.cell? ⟨g, k * 3 + 2, none⟩ = some (.slice ab r.bs.length cb) := by rw [← ebv, hrr]; exact (hbw.cell (p := ⟨g, k * 3 + 2, none⟩) hgl).trans (hc 2 (by omega))
   obtain ⟨c4, -⟩ := zab hnb.k4 0
   simp only [List.getElem?_toArray, List.getElem?_cons_zero] at c4
   have hki : (k : Int) < rs.length := by omega
   have hwl : w.heap.size < wr.heap.size := (Array.getElem?_eq_some_iff.1 hnb.k4).1
   obtain ⟨c4a, -⟩ := zab ((Below.heap_alloc wr (.cells #[.string r.R.pd, .slice ah r.R.ts.length ch, .slice ab r.bs.length cb] 123) _ hwl).trans hnb.k4) 0
   have hA : WArg (fun i => i = w.heap.size + 1 + 1 + 1 + 1 + 1) (wr.alloc (.cells #[.string r.R.pd, .slice ah r.R.ts.length ch, .slice ab r.bs.length cb] 123)) kb (.slice ah r.R.ts.length ch) (.slice ab r.bs.length cb) base r.bs K := by
    have kA : Below w.heap.size w (wr.alloc (.cells #[.string r.R.pd, .slice ah r.R.ts.length ch, .slice ab r.bs.length cb] 123)) := hbw.alloc hbw.size _
    have hbo := hin.bo
    rw [ebv] at hbo
    refine ⟨hbo.below kA, (zaa HM).block (kA.block _ hkl), by omega, fun x hx g hg => by have := ((hin.bo.each x hx).lt g hg).2; omega, fun i hi => by have := (Array.getElem?_eq_some_iff.1 hnb.f10).1; simp; omega, hro.l3, hro.t4, _, _, _, rfl⟩
   have HW := hide (ways_prog _ _ kb r.R.pd _ _ base r.bs K hA)
   have HIN := hide hin
   have HRO := hide hro
   have HMEM := hide hmem
   have HRR := hide hrr
   have HEHV := hide ehv
   simp only [List.getElem?_toArray, List.getElem?_cons_zero] at c4a
   clear hnb hin hro hmem hrr hc hA ebv ehv h2 hbw
   go_wp2_with (go_at_call 145; refine (zaa HW).mono ?_; rintro en w1 ⟨rb, xb, eb, rfl, hb1, hw1⟩; have HB1 := hide hb1; have HW1 := hide hw1; clear hb1 hw1)
   have hb1 := zaa HB1
   have hw1 := zaa HW1
   have hnb := zaa HNB
   have hs1 : wr.heap.size + 1 ≤ w1.heap.size := by have := hb1.size; simpa using this
   have hds : ∀ D ∈ ds, D < w1.heap.size := fun D hD => by have := (Array.getElem?_eq_some_iff.1 ((zaa HMK).at_ D hD).2).1; omega
   have hf10 := (Array.getElem?_eq_some_iff.1 hnb.f10).1
   have kw : Below wr.heap.size wr w1 := ((Below.refl _ _).alloc (Nat.le_refl _) _).trans (hb1.mono (by simp))
   have hstart : NRound w kb h limit K rs (rs.take k) r wr.heap.size ah ab ch cb ds [] L w1 := by
    have hn := zaa HNEW
    refine ⟨hnb.below kw, ⟨hn.hs, hn.nd, hn.new, hn.all, by simp⟩, hlen, ⟨(zaa HMK).nd, fun D hD => ⟨((zaa HMK).at_ D hD).1, (kw.block D (Array.getElem?_eq_some_iff.1 ((zaa HMK).at_ D hD).2).1).trans ((zaa HMK).at_ D hD).2⟩⟩, (hb1.block _ (by simp)).trans (heap_alloc_new wr _)⟩
   have HST := hide hstart
   have HKW := hide kw
   have HF10 := hide hf10
   have HDS := hide hds
   have HS1 := hide hs1
   clear hb1 hnb hstart kw hf10 hds hs1 e0 e1 e2 c4 c4a hwl
   refine (wpIn_wide (n := 5)).1 ?_
   refine wpIn_rangeFunc_ownH (α := WaySet K r.bs) rfl (by omega) (gf := 233) (lb := #[.pointer (some ⟨rb, 0, none⟩), .pointer (some ⟨xb, 0, none⟩), .pointer (some ⟨eb, 0, none⟩)]) rfl trivial (enters_of Tryz.func233 (by kernel_rfl) rfl)
    (zqj _ _ w1 rb xb eb kb r.R.pd _ _ base r.bs K hw1 (zaa HRO).neg) (fun h1 h2 => Keep.trans h1 h2) (fun W l o o' _ hl hc hwk => zp6 W l o o' hl hc hwk) (Below.refl _ _) (fun _ => rfl)
    (fun (pre : List (WaySet K r.bs)) (W : World) => ∃ L', NRound w kb h limit K rs (rs.take k) r wr.heap.size ah ab ch cb ds (pre.map (fun y : WaySet K r.bs => y.1)) L' W ∧ w1.heap.size ≤ W.heap.size)
    (fun (c : Code) (_ : List (WaySet K r.bs)) (W : World) => c = .ret ∧ ∃ L', NOver w kb h limit K rs ds L' W)
    (fun pre A B row hs hg hr => let ⟨L', hL, hz⟩ := hs; ⟨L', hL.grown hg (fun i e => (hr i e).1) (by have := zaa HF10; have := zaa HS1; omega) (by have := zaa HS1; omega) (zaa HDS), Nat.le_trans hz hg.size⟩)
    (fun c pre A B row hs hg hr => let ⟨hc, L', hL⟩ := hs; ⟨hc, L', hL.grown hg (fun i e => (hr i e).1) (by have := zaa HF10; have := zaa HS1; omega) (zaa HDS)⟩)
    ⟨L, zaa HST, Nat.le_refl _⟩
    (fun (x : WaySet K r.bs) (a' : Act) (W : World) => ∃ Bx, w1.heap.size ≤ Bx ∧ BV W Bx x.1 ∧ a' = { tmps := List.toArray ((Value.map (some kb)) :: (Value.slice (some ⟨g, 0, none⟩) rs.length cr) :: (Value.int IntKind.i64 (h : Nat)) :: (Value.int IntKind.i64 (limit : Nat)) :: (Value.pointer (some ⟨w.heap.size, 0, none⟩)) :: (undef) :: (Value.pointer (some ⟨w.heap.size + 1, 0, none⟩)) :: (Value.pointer (some ⟨w.heap.size + 1 + 1, 0, none⟩)) :: (Value.pointer (some ⟨w.heap.size + 1 + 1 + 1, 0, none⟩)) :: (Value.pointer (some ⟨w.heap.size + 1 + 1 + 1 + 1, 0, none⟩)) :: (Value.pointer (some ⟨w.heap.size + 1 + 1 + 1 + 1 + 1 + 1, 0, none⟩)) :: (undef) :: (Value.pointer (some ⟨wr.heap.size, 0, none⟩)) :: (Value.pointer (some ⟨Bx, 0, none⟩)) :: (u 14) :: (u 15) :: (u 16) :: (Value.map (some (w.heap.size + 1 + 1 + 1 + 1 + 1))) :: (Value.slice (some ⟨g, 0, none⟩) rs.length cr) :: (Value.int IntKind.i64 (rs.length : Nat)) :: (Value.int IntKind.i64 (k : Nat)) :: (Value.bool true) :: (Value.pointer (some ⟨g, k * 3, none⟩)) :: (Value.agg #[Value.string r.R.pd, Value.slice ah r.R.ts.length ch, Value.slice ab r.bs.length cb]) :: (Value.agg #[Value.string r.R.pd, Value.slice ah r.R.ts.length ch, Value.slice ab r.bs.length cb]) :: (Value.map (some kb)) :: (Value.func (.func 233) #[] #[.pointer (some ⟨rb, 0, none⟩), .pointer (some ⟨xb, 0, none⟩), .pointer (some ⟨eb, 0, none⟩)]) :: (zec x.1) :: (u 28) :: (u 29) :: (u 30) :: (u 31) :: (u 32) :: (u 33) :: (u 34) :: (u 35) :: (u 36) :: (u 37) :: (u 38) :: (u 39) :: (u 40) :: (u 41) :: (u 42) :: (u 43) :: (u 44) :: (u 45) :: (u 46) :: (u 47) :: (u 48) :: (u 49) :: (u 50) :: []), defers := [] })
    (fun x a' _ A B row hs hg hr => let ⟨Bx, h1, h2, h3⟩ := hs; ⟨Bx, h1, h2.grown hg (fun i e => (hr i e).2), h3⟩)
    ?assign ?body ?done ?stop
   case assign =>
    intro l pre x W K2 hI hK2
    obtain ⟨L', hL, hz⟩ := hI
    have HK2 := hide hK2
    have HL := hide hL
    clear hK2 hL
    gi_wp2
    exact zaa HK2 _ _ ((KeepsOthers.alloc _ _).from _) ((Keep.refl _ _).alloc _) ⟨L', (zaa HL).grown (World.grownBy_alloc W _ none) (B := w1.heap.size) (fun _ e => by cases e) (by have := zaa HF10; have := zaa HS1; omega) (by have := zaa HS1; omega) (zaa HDS), by simp; omega⟩ ⟨W.heap.size, hz, BV.new _ _, rfl⟩
   case body =>
    rintro l pre x a' W hlW - ⟨L', hL, hz⟩ ⟨Bx, hBx, hbv, rfl⟩ -
    obtain ⟨T, hTd⟩ : ∃ T, T = zc9 x.1 (hdOf r) := ⟨_, rfl⟩
    have hxm := (List.mem_filter.1 x.2).1
    have hT : ThOk T := by rw [hTd]; exact (zaa HRO).hd x.1 hxm
    have hx12 := (zaa HRO).len x.1 hxm
    have hld := hbv.load
    obtain ⟨q0, -⟩ := zab hL.rl 0
    obtain ⟨q1, -⟩ := zab hL.rl 1
    simp only [List.getElem?_toArray, List.getElem?_cons_zero, List.getElem?_cons_succ] at q0 q1
    have hrow : W.ownsRow base 191 1 (.slice ah (hdOf r).ts.length ch) (hdOf r).ts.length ((hdOf r).ts.map zgr) := by
     have := zai (zaa HIN).hd hL.box.bw (fun g e => ((zaa HIN).hd.lt g e).2)
     rw [zaa HEHV] at this
     exact this
    have HFI := hide (zpq W base x.1 (hdOf r) ah ch hrow (zaa HRO).h4 hx12)
    rw [← hTd] at HFI
    have HL := hide hL
    have HTD := hide hTd
    have HT := hide hT
    have HBV := hide hbv
    clear hL hTd hT hbv hrow hxm hx12
    have HN5 := hide (fun (w4 : World) (hb4 : Below W.heap.size W w4) => (show NRound w kb h limit K rs (rs.take k) r wr.heap.size ah ab ch cb ds (pre.map (fun y : WaySet K r.bs => y.1)) L' (w4.alloc (.cells (zbd T).toArray 88)) ∧ Below W.heap.size W (w4.alloc (.cells (zbd T).toArray 88)) from by
     have kk : Below W.heap.size W (w4.alloc (.cells (zbd T).toArray 88)) := hb4.alloc hb4.size _
     exact ⟨(zaa HL).grown (row := none) ⟨kk.os, kk.tape, kk.output, kk.size, fun i hi _ => kk.block i hi⟩ (B := w1.heap.size) (fun _ e => by cases e) (by have := zaa HF10; have := zaa HS1; omega) (by have := zaa HS1; omega) (zaa HDS), kk⟩))
    have HC4 := hide (fun (V : World) (L2 : List (Th × Nat)) (hV : NBox w kb (w.heap.size + 1 + 1 + 1 + 1 + 1) h limit K L2 V) => (show V.cell? ⟨w.heap.size, 0, none⟩ = some (.map (some kb)) ∧ V.cell? ⟨w.heap.size + 1, 0, none⟩ = some (.int .i64 (h : Nat)) ∧ V.cell? ⟨w.heap.size + 1 + 1, 0, none⟩ = some (.int .i64 (limit : Nat)) ∧ V.cell? ⟨w.heap.size + 1 + 1 + 1 + 1 + 1 + 1, 0, none⟩ = some (.map (some (w.heap.size + 1 + 1 + 1 + 1 + 1))) from ⟨(zab hV.k4 0).1, (zab hV.h6 0).1, (zab hV.l7 0).1, (zab hV.f10 0).1⟩))
    have HBS := hide (show w.heap.size + 1 + 1 + 1 + 1 + 1 + 1 < w1.heap.size by have := zaa HF10; have := zaa HS1; omega)
    cases ho : (zco K T).isSome with
    | true =>
     gi_wp2_with (refine ⟨trivial, ?_⟩; gi_at_call 146; refine (CallsIn.inRound l (callsIn_wide.2 (zaa HFI))).mono ?_; rintro en w4 ⟨hb4, rfl⟩; obtain ⟨n5, b5⟩ := zaa HN5 w4 hb4; obtain ⟨m0, m1, m2, m3⟩ := zaa HC4 _ _ n5.box; have t5 := (TV.new w4 T).load; have lk5 := n5.box.mK.look (zaa HT) Tryz.underlying83; rw [ho] at lk5; have HN := hide n5; have HBN := hide b5; clear n5 b5 hb4)
     refine ⟨(KeepsOthers.of_grownBy (row := none) ⟨(zaa HBN).os, (zaa HBN).tape, (zaa HBN).output, (zaa HBN).size, fun i hi _ => (zaa HBN).block i hi⟩ (fun _ _ e => by cases e)).from _, Keep.of_below (zaa HBN), L', ?_, Nat.le_trans hz (zaa HBN).size⟩
     have n5 := zaa HN
     refine ⟨n5.box, ?_, n5.len, n5.mk_, n5.rl⟩
     rw [List.map_append]
     exact n5.new.old (by rw [← zaa HTD]; exact ho)
    | false =>
     have hno : zco K T = none := by simpa using ho
     have HNO := hide hno
     clear hno
     have hl2 := zkq L' T h
     have hl3 : (putN L' T h).length ≤ L'.length + 1 := by rw [hl2]; split <;> omega
     have hll := (zaa HL).len
     have HL2 := hide hl2
     clear hl2
     have hbb := zaa HBS
     by_cases hov : limit < K.length + (putN L' T h).length
     ·have hoi : (limit : Int) < (K.length : Int) + ((putN L' T h).length : Int) := by omega
      gi_wp2_with (refine ⟨trivial, ?_⟩; gi_at_call 146; refine (CallsIn.inRound l (callsIn_wide.2 (zaa HFI))).mono ?_; rintro en w4 ⟨hb4, rfl⟩; obtain ⟨n5, b5⟩ := zaa HN5 w4 hb4; obtain ⟨m0, m1, m2, m3⟩ := zaa HC4 _ _ n5.box; have t5 := (TV.new w4 T).load; have lk5 := n5.box.mK.look (zaa HT) Tryz.underlying83; rw [ho] at lk5; obtain ⟨w6, hput, hm6, ht6⟩ := n5.box.mF.put (zaa HT) h (by unfold maxLen; omega) Tryz.underlying83; have n6 := n5.box.turn ht6.grown hm6; obtain ⟨p0, p1, p2, p3⟩ := zaa HC4 _ _ n6; have ln1 := n6.mK.len Tryz.underlying83; have ln2 := n6.mF.len Tryz.underlying83; have HN := hide n5; have HBN := hide b5; have HN6 := hide n6; have HT6 := hide ht6.grown; obtain ⟨v8, z8⟩ := zab n6.r8 0; obtain ⟨v9, z9⟩ := zab n6.o9 0; simp only [List.getElem?_toArray, List.getElem?_cons_zero] at v8 v9; clear n5 b5 hb4 n6 ht6 hm6)
      have n5 := zaa HN
      have b5 := zaa HBN
      have n6 := zaa HN6
      have g6 := zaa HT6
      have hkf : KeepsFrom w1.heap.size W w6 := ((KeepsOthers.of_grownBy (row := none) ⟨b5.os, b5.tape, b5.output, b5.size, fun i hi _ => b5.block i hi⟩ (fun _ _ e => by cases e)).from _).trans (KeepsFrom.of_grownBy g6 (fun j e => by cases e; omega))
      rw [zlv n6.r8 rfl, zlv n6.o9 rfl]
      have hpn := n5.new.put (e := x.1) (zaa HMEM) x.2 (by rw [← zaa HTD]; exact zaa HNO)
      rw [← zaa HTD] at hpn
      exact ⟨hkf, rfl, putN L' T h, n6, hpn.nd, hpn.new, hov, ⟨n5.mk_.nd, fun D hD => ⟨(n5.mk_.at_ D hD).1, (g6.block D (Array.getElem?_eq_some_iff.1 (n5.mk_.at_ D hD).2).1 (fun e => by cases e; have := (n5.mk_.at_ _ hD).1; omega)).trans (n5.mk_.at_ D hD).2⟩⟩⟩
     ·have hoi : ¬ ((limit : Int) < (K.length : Int) + ((putN L' T h).length : Int)) := by omega
      gi_wp2_with (refine ⟨trivial, ?_⟩; gi_at_call 146; refine (CallsIn.inRound l (callsIn_wide.2 (zaa HFI))).mono ?_; rintro en w4 ⟨hb4, rfl⟩; obtain ⟨n5, b5⟩ := zaa HN5 w4 hb4; obtain ⟨m0, m1, m2, m3⟩ := zaa HC4 _ _ n5.box; have t5 := (TV.new w4 T).load; have lk5 := n5.box.mK.look (zaa HT) Tryz.underlying83; rw [ho] at lk5; obtain ⟨w6, hput, hm6, ht6⟩ := n5.box.mF.put (zaa HT) h (by unfold maxLen; omega) Tryz.underlying83; have n6 := n5.box.turn ht6.grown hm6; obtain ⟨p0, p1, p2, p3⟩ := zaa HC4 _ _ n6; have ln1 := n6.mK.len Tryz.underlying83; have ln2 := n6.mF.len Tryz.underlying83; have HN := hide n5; have HBN := hide b5; have HN6 := hide n6; have HT6 := hide ht6.grown; clear n5 b5 hb4 n6 ht6 hm6)
      have n5 := zaa HN
      have b5 := zaa HBN
      have n6 := zaa HN6
      have g6 := zaa HT6
      have hkf : KeepsFrom w1.heap.size W w6 := ((KeepsOthers.of_grownBy (row := none) ⟨b5.os, b5.tape, b5.output, b5.size, fun i hi _ => b5.block i hi⟩ (fun _ _ e => by cases e)).from _).trans (KeepsFrom.of_grownBy g6 (fun j e => by cases e; omega))
      refine ⟨hkf, (Keep.of_below b5).trans ((Keep.refl _ _).grown g6 (fun r e => .inr (by cases e; rfl))), putN L' T h, ?_, Nat.le_trans hz hkf.size⟩
      have hds := zaa HDS
      refine ⟨n6, ?_, by omega, ⟨n5.mk_.nd, fun D hD => ⟨(n5.mk_.at_ D hD).1, (g6.block D (Array.getElem?_eq_some_iff.1 (n5.mk_.at_ D hD).2).1 (fun e => by cases e; have := (n5.mk_.at_ _ hD).1; omega)).trans (n5.mk_.at_ D hD).2⟩⟩, (g6.block _ (Array.getElem?_eq_some_iff.1 n5.rl).1 (fun e => by injection e with e; have := zaa HF10; omega)).trans n5.rl⟩
      rw [List.map_append]
      have := n5.new.put (e := x.1) (zaa HMEM) x.2 (by rw [← zaa HTD]; exact zaa HNO)
      rw [← zaa HTD] at this
      exact this
   case done =>
    rintro D xs W hD hS ⟨L', hL, hz⟩ hdef
    have HL := hide hL
    have HD := hide hD
    have HS := hide hS
    have HDF := hide hdef
    have HJL := hide hJl
    clear hL hD hS hdef hJl
    go_wp2_with fail
    have hL := zaa HL
    have hD := zaa HD
    have hbs : w.heap.size + 1 + 1 + 1 + 1 + 1 + 1 < w1.heap.size := by have := zaa HF10; have := zaa HS1; omega
    refine Handed.intro (rs.length - (k + 1)) (by omega) (zaa HJL _ _ _ ⟨k + 1, D :: ds, fun i => if i = 12 then Value.pointer (some ⟨wr.heap.size, 0, none⟩) else if i = 21 then Value.bool true else if i = 22 then Value.pointer (some ⟨g, k * 3, none⟩) else if i = 23 then Value.agg #[Value.string r.R.pd, Value.slice ah r.R.ts.length ch, Value.slice ab r.bs.length cb] else if i = 24 then Value.agg #[Value.string r.R.pd, Value.slice ah r.R.ts.length ch, Value.slice ab r.bs.length cb] else if i = 25 then Value.map (some kb) else if i = 26 then Value.func (.func 233) #[] #[.pointer (some ⟨rb, 0, none⟩), .pointer (some ⟨xb, 0, none⟩), .pointer (some ⟨eb, 0, none⟩)] else if i = 49 then Value.int IntKind.i64 ((k : Int) + 1) else u i, L', by omega, rfl, rfl, hL.box, ?_, ⟨List.nodup_cons.2 ⟨fun hm => by have := zaa HDS D hm; omega, hL.mk_.nd⟩, fun E hE => ?_⟩, hL.len⟩)
    ·have hn := hL.new
     refine ⟨hn.hs, hn.nd, hn.new, fun q hq e he hno => ?_, by simp⟩
     rw [List.take_succ_eq_append_getElem hlk] at hq
     rcases List.mem_append.1 hq with hq | hq
     ·exact hn.all q hq e he hno
     ·rw [List.mem_singleton.1 hq, ← zaa HRR] at he hno ⊢
      exact hn.now e (List.mem_map.2 ⟨⟨e, he⟩, zaa HS _, rfl⟩) hno
    ·rcases List.mem_cons.1 hE with rfl | hE
     ·exact ⟨by omega, zaa HDF⟩
     ·exact hL.mk_.at_ E hE
   case stop =>
    rintro D c pre W hD - ⟨rfl, L', hL⟩ hdef
    have HL := hide hL
    have HD := hide hD
    have HDF := hide hdef
    clear hL hD hdef
    gi_wp2
    have hL := zaa HL
    have hD := zaa HD
    have hbs : w.heap.size + 1 + 1 + 1 + 1 + 1 + 1 < w1.heap.size := by have := zaa HF10; have := zaa HS1; omega
    refine zhs (D :: ds) _ (List.nodup_cons.2 ⟨fun hm => by have := zaa HDS D hm; omega, hL.mk_.nd⟩) (fun E hE => ?_) (fun w' hs => ?_)
    ·rcases List.mem_cons.1 hE with rfl | hE
     ·exact zaa HDF
     ·exact (hL.mk_.at_ E hE).2
    ·have hno : ∀ i, i ≤ w.heap.size + 1 + 1 + 1 + 1 + 1 + 1 → i ∉ D :: ds := fun i hi hm => by
      rcases List.mem_cons.1 hm with rfl | hm
      ·omega
      ·have := (hL.mk_.at_ i hm).1; omega
     have q8 : w'.cell? ⟨w.heap.size + 1 + 1 + 1, 0, none⟩ = some (.map none) := (zab ((hs.block (w.heap.size + 1 + 1 + 1) (hno _ (by omega))).trans hL.box.r8) 0).1
     have q9 : w'.cell? ⟨w.heap.size + 1 + 1 + 1 + 1, 0, none⟩ = some (.bool false) := (zab ((hs.block (w.heap.size + 1 + 1 + 1 + 1) (hno _ (by omega))).trans hL.box.o9) 0).1
     refine ⟨.tuple #[.map none, .bool false], by simp [results, Tryz.results99, go_sem, q8, q9], ?_⟩
     refine ⟨⟨hs.os.trans hL.box.bw.os, hs.tape.trans hL.box.bw.tape, hs.output.trans hL.box.bw.output, by rw [hs.size]; exact hL.box.bw.size, fun i hi => (hs.block i (hno i (by omega))).trans (hL.box.bw.block i hi)⟩, .inr ⟨rfl, L'.map (·.1), hL.nd, fun t ht => ?_, by rw [List.length_map]; exact hL.len⟩⟩
     obtain ⟨p, hp, rfl⟩ := List.mem_map.1 ht
     exact hL.new p hp
  ·have hnb := zaa HNB
   obtain ⟨c10, -⟩ := zab hnb.f10 0
   obtain ⟨c8, z8⟩ := zab hnb.r8 0
   obtain ⟨c9, z9⟩ := zab hnb.o9 0
   simp only [List.getElem?_toArray, List.getElem?_cons_zero] at c10 c8 c9
   clear hnb hJl hKl
   go_wp2_with fail
   refine zhs ds _ (zaa HMK).nd (fun D hD => ?_) (fun w' hs => ?_)
   ·have := ((zaa HMK).at_ D hD).1
    rw [Below.heap_setCell _ _ _ _ (by simp; omega), Below.heap_setCell _ _ _ _ (by simp; omega)]
    exact ((zaa HMK).at_ D hD).2
   ·have hno : ∀ i, i ≤ w.heap.size + 1 + 1 + 1 + 1 + 1 + 1 → i ∉ ds := fun i hi hm => by have := ((zaa HMK).at_ i hm).1; omega
    have q8 : w'.cell? ⟨w.heap.size + 1 + 1 + 1, 0, none⟩ = some (.map (some (w.heap.size + 1 + 1 + 1 + 1 + 1))) := by
     rw [World.cell?_of_block (by exact hs.block (w.heap.size + 1 + 1 + 1) (hno _ (by omega))), World.cell?_setCell_other _ _ _ _ (by simp), World.cell?_setCell_same' _ _ _ (by rw [c8]; rfl)]
    have q9 : w'.cell? ⟨w.heap.size + 1 + 1 + 1 + 1, 0, none⟩ = some (.bool true) := by
     rw [World.cell?_of_block (by exact hs.block (w.heap.size + 1 + 1 + 1 + 1) (hno _ (by omega))), World.cell?_setCell_same' _ _ _ (by rw [World.cell?_setCell_other _ _ _ _ (by simp), c9]; rfl)]
    refine ⟨.tuple #[.map (some (w.heap.size + 1 + 1 + 1 + 1 + 1)), .bool true], by simp [results, Tryz.results99, go_sem, q8, q9], ?_⟩
    have hnb := zaa HNB
    have hnew := zaa HNEW
    have hb8 : ∀ i, i ≤ w.heap.size + 1 + 1 + 1 + 1 + 1 + 1 → i ≠ w.heap.size + 1 + 1 + 1 → i ≠ w.heap.size + 1 + 1 + 1 + 1 → w'.heap[i]? = wr.heap[i]? := fun i hi h1 h2 => by
     rw [hs.block _ (hno _ hi), Below.heap_setCell _ _ _ _ (by simpa using h2), Below.heap_setCell _ _ _ _ (by simpa using h1)]
    refine ⟨⟨hs.os.trans hnb.bw.os, hs.tape.trans hnb.bw.tape, hs.output.trans hnb.bw.output, by rw [hs.size]; simp; exact hnb.bw.size, fun i hi => (hb8 i (by omega) (by omega) (by omega)).trans (hnb.bw.block i hi)⟩, .inl ⟨_, L, rfl, by omega, hnb.mF.block (hb8 _ (by omega) (by omega) (by omega)), hnew.hs, fun t => ?_, hlen⟩⟩
    constructor
    ·intro ht
     obtain ⟨n, hn⟩ := Option.isSome_iff_exists.1 ht
     exact hnew.new _ (zeb hn)
    ·rintro ⟨h1, r, hr, e, he, rfl⟩
     exact hnew.all r (by rw [List.take_of_length_le (by omega)]; exact hr) e he h1
end
section
open Go.RowKit Go.Maps
attribute [local go_sem ↓] zh1 zgt zgo zgy
attribute [local go_sem] zf1 zfu
theorem zpi {L : List (Th × Nat)} {t : Th} (h : ∀ n, (t, n) ∉ L) : zco L t = none := by
 cases hl : zco L t with
 | none => rfl
 | some n => exact absurd (zeb hl) (h n)
structure CopyIn (w : World) (db sb rb : Nat) (D S : List (Th × Nat)) (Lf : Th → Prop) (S1 : List (Th × Nat)) (cnt : Nat) (wr : World) : Prop where
 rg : HRange wr sb rb S Lf cnt
 m : HMap wr db (D ++ S1)
 mem : ∀ p, p ∈ S1 ↔ p ∈ S ∧ ¬ Lf p.1
 len : S1.length + cnt ≤ S.length
 k : Kept [db] w wr
def CopyPost (w : World) (db : Nat) (D S : List (Th × Nat)) (en : Ending) (w' : World) : Prop := (∃ v, en = .returned v) ∧ Kept [db] w w' ∧ ∃ S', HMap w' db (D ++ S') ∧ (∀ p, p ∈ S' ↔ p ∈ S) ∧ S'.length ≤ S.length
set_option maxRecDepth 100000 in
theorem copy_any (w : World) (db sb : Nat) (D S : List (Th × Nat)) (hd : HMap w db D) (hs : HMap w sb S) (hne : db ≠ sb) (hdis : ∀ p ∈ S, zco D p.1 = none) (hl : D.length + S.length ≤ 1000000) :
  Calls Tryz.prog 100 #[.map (some db), .map (some sb)] w (CopyPost w db D S) := by
 have HD := hide hd
 have HS := hide hs
 have HDIS := hide hdis
 have hdl := hd.lt
 have hsl := hs.lt
 clear hd hdis
 go_enter Tryz.func100, Tryz.ntmps100
 go_wp2_with (first | (at_range; refine zkd _ rfl _ 83 rfl Tryz.underlying83 sb S rfl hs ?_; intro w1 hrg1 hg1 hs1) | go_in)
 try go_frame
 have h0 : CopyIn w db sb w.heap.size D S (fun _ => True) [] S.length w1 := by
  refine ⟨hrg1, by rw [List.append_nil]; exact (zaa HD).kept hg1 (by simp), fun p => ⟨fun h => absurd h List.not_mem_nil, fun h => absurd trivial h.2⟩, by simp, ⟨hg1.os, hg1.tape, hg1.output, hg1.size, fun j hj _ => hg1.block j hj (by simp)⟩⟩
 clear hrg1 hg1 hs1 hs
 go_loopg [] S.length (fun gg wr => ∃ (Lf : Th → Prop) (S1 : List (Th × Nat)), CopyIn w db sb w.heap.size D S Lf S1 gg wr)
 case atStart => exact ⟨_, _, h0⟩
 case round =>
  clear h0
  obtain ⟨Lf, S1, hin⟩ := hrel
  have hrg := hin.rg
  have HIN := hide hin
  clear hin
  go_wp2_with (first | (at_next; refine znr _ rfl _ rfl sb w.heap.size S Lf gk rfl hrg ?_ ?_) | go_in)
  ·intro hdone
   have HDN := hide hdone
   clear hdone hrg
   go_wp2_with fail
   go_end0
   have hin := zaa HIN
   exact ⟨⟨_, rfl⟩, hin.k, S1, hin.m, fun p => ⟨fun h => ((hin.mem p).1 h).1, fun h => (hin.mem p).2 ⟨h, zaa HDN p.1.1 p.1.2 p.2 h⟩⟩, by have := hin.len; omega⟩
  ·intro tp tts n w2 cnt2 htk hlf hrg2 hlt2 hg2 hs2 hen2
   generalize ((tp, tts) : Th) = t at *
   have hin := zaa HIN
   have hkl := hin.k.size
   have hT : ThOk t := hin.rg.map.ok _ htk
   have hm2 : HMap w2 db (D ++ S1) := hin.m.kept hg2 (by simp; omega)
   have hno : zco (D ++ S1) t = none := zpi fun m hm => by
    rcases List.mem_append.1 hm with hm | hm
    ·exact zef (zaa HDIS _ htk) m hm
    ·exact ((hin.mem _).1 hm).2 hlf
   have hput : putN (D ++ S1) t n = D ++ (S1 ++ [(t, n)]) := by unfold putN; rw [hno, List.append_assoc]; rfl
   have hlen := hin.len
   have HT := hide hT
   have HRG2 := hide hrg2
   have HG2 := hide hg2
   have HPUT := hide hput
   have HTK := hide htk
   have HLF := hide hlf
   have HM2 := hide (hm2.alloc (.cells (zbd t).toArray 88))
   have ht2 := (TV.new w2 t).load
   have hll : (D ++ S1).length < maxLen := by unfold maxLen; rw [List.length_append]; omega
   clear hs2 hrg hrg2 hg2 hm2 hno hput htk hlf hin hT
   go_wp2_with (at_mapUpdate; refine wp_hput _ rfl _ _ _ 83 rfl Tryz.underlying83 db (D ++ S1) rfl (zaa HM2) hll t n rfl rfl (zaa HT) ?_; intro w3 hm3 ht3)
   rw [zaa HPUT] at hm3
   have HM3 := hide hm3
   have HT3 := hide ht3
   clear hm3 ht3 ht2 hen2
   go_wp2_with fail
   go_roundg cnt2
   case measure => omega
   case rel =>
    have hin := zaa HIN
    have g2 := zaa HG2
    have g3 := (zaa HT3).grown
    have gk0 : w.heap.size ≤ wr.heap.size := hkl
    refine ⟨fun x => Lf x ∧ ¬ x = t, S1 ++ [(t, n)], ⟨?_, zaa HM3, fun p => ?_, by rw [List.length_append]; simp; omega, ?_⟩⟩
    ·have r2 := zaa HRG2
     refine r2.blocks ?_ ?_
     ·rw [g3.block sb (by have := r2.map.lt; simp; omega) (by simp; omega), Below.heap_alloc _ _ _ r2.map.lt]
     ·rw [g3.block w.heap.size (by have := r2.lt; simp; omega) (by simp; omega), Below.heap_alloc _ _ _ r2.lt]
    ·rw [List.mem_append, hin.mem]
     constructor
     ·rintro (⟨h1, h2⟩ | h1)
      ·exact ⟨h1, fun h => h2 h.1⟩
      ·rw [List.mem_singleton.1 h1]
       exact ⟨zaa HTK, fun h => h.2 rfl⟩
     ·rintro ⟨h1, h2⟩
      by_cases e : p.1 = t
      ·right
       have h3 := zem (hin.rg.map.nodup) h1
       have h4 := zem (hin.rg.map.nodup) (zaa HTK)
       have e1 : p.2 = n := by
        have : zco S p.1 = some n := by rw [e]; exact h4
        exact Option.some.inj (h3.symm.trans this)
       rw [List.mem_singleton, ← e, ← e1]
      ·left
       exact ⟨h1, fun h => h2 ⟨h, e⟩⟩
    ·have k2 : Kept [db] w w2 := hin.k.grown g2 (fun i e => by cases e; left; omega)
     exact (k2.alloc _).grown g3 (fun i e => by cases e; right; simp)
end
section
open Go.RowKit Go.Maps
def SameCells (w w' : World) : Prop := ∀ (b : Nat) (cs : Array Value) (t : TypeId) (fr : Nat × Nat), w.heap[b]? = some (Obj.cells cs t fr) → w'.heap[b]? = some (Obj.cells cs t fr)
theorem SameCells.row {w w' : World} (h : SameCells w w') {base : Nat} {e : TypeId} {size : Nat} {v : Value} {n : Nat} {xs : List Value} (hr : w.ownsRow base e size v n xs) : w'.ownsRow base e size v n xs := by
 refine zbb hr fun g hg => ?_
 rcases hr.2 with ⟨h0, _⟩ | ⟨g', cap, cur, rfl, hb, hg', _⟩
 ·rw [h0] at hg; cases hg
 ·have e : g' = g := by simpa [Value.ownBlock] using hg
  subst e
  exact (h _ _ _ _ hg').trans hg'.symm
theorem SameCells.lrow {w w' : World} (h : SameCells w w') {base : Nat} {bv : Value} {ls : List (PLit × Value)} (hr : LRow w base bv ls) : LRow w' base bv ls := ⟨h.row hr.row, fun x hx => h.row (hr.each x hx)⟩
theorem SameCells.rrow {w w' : World} (h : SameCells w w') {base : Nat} {rv : Value} {rs : List PR} (hr : RRow w base rv rs) : RRow w' base rv rs := ⟨h.row hr.row, fun r hm => ⟨h.row (hr.each r hm).hd, h.lrow (hr.each r hm).bo, (hr.each r hm).eq⟩⟩
theorem SameCells.of_kept {w w' : World} {kb : Nat} {K : List (Th × Nat)} (hm : HMap w kb K) (k : Kept [kb] w w') : SameCells w w' := fun b cs t fr hb => by
 refine (k.block b (Array.getElem?_eq_some_iff.1 hb).1 ?_).trans hb
 simp only [List.mem_singleton]
 rintro rfl
 obtain ⟨es, c, h⟩ := hm.isMap
 rw [hb] at h; cases h
inductive PClimb (rs : List PR) (limit : Nat) : Nat → List (Th × Nat) → Option (List (Th × Nat)) → Prop
 | over {h : Nat} {K : List (Th × Nat)} (L : List Th) : L.Nodup → (∀ t ∈ L, NewB rs K t) → limit < K.length + L.length → PClimb rs limit h K none
 | done {h : Nat} {K : List (Th × Nat)} : (∀ t, ¬ NewB rs K t) → PClimb rs limit h K (some K)
 | more {h : Nat} {K L : List (Th × Nat)} {r : Option (List (Th × Nat))} : L ≠ [] → (L.map (·.1)).Nodup → (∀ p ∈ L, p.2 = h) → (∀ t, (∃ n, (t, n) ∈ L) ↔ NewB rs K t) → K.length + L.length ≤ limit → PClimb rs limit (h + 1) (K ++ L) r → PClimb rs limit h K r
def Closed (rs : List PR) (TI : Th → Prop) : Prop := ∀ K : List (Th × Nat), (∀ p ∈ K, TI p.1) → ∀ r ∈ rs, RuleOk K r ∧ ∀ e ∈ zbo K (zdy r.bs) [], TI (zc9 e (hdOf r))
theorem Closed.new {rs : List PR} {TI : Th → Prop} (h : Closed rs TI) {K : List (Th × Nat)} (hK : ∀ p ∈ K, TI p.1) {t : Th} (ht : NewB rs K t) : TI t := by
 obtain ⟨_, r, hr, e, he, rfl⟩ := ht
 exact (h K hK r hr).2 e (List.mem_filter.1 he).1
structure ClimbIn (w : World) (kb base : Nat) (rv : Value) (rs : List PR) (limit : Nat) (TI : Th → Prop) (K0 : List (Th × Nat)) (n : Nat) (K : List (Th × Nat)) (wr : World) : Prop where
 m : HMap wr kb K
 ti : ∀ p ∈ K, TI p.1
 len : K.length ≤ limit
 k : Kept [kb] w wr
 n0 : 1 ≤ n
 n1 : n ≤ K.length + 1
 rel : ∀ r, PClimb rs limit n K r → PClimb rs limit 1 K0 r
def ClimbPost (w : World) (kb : Nat) (rs : List PR) (limit : Nat) (TI : Th → Prop) (K : List (Th × Nat)) (en : Ending) (w' : World) : Prop :=
 ∃ r, PClimb rs limit 1 K r ∧ en = .returned (.bool r.isSome) ∧ Kept [kb] w w' ∧ ∀ K', r = some K' → HMap w' kb K' ∧ (∀ p ∈ K', TI p.1) ∧ K'.length ≤ limit
set_option maxRecDepth 100000 in
theorem climb_any (w : World) (kb base : Nat) (ar : Option Addr) (cr : Nat) (rs : List PR) (limit : Nat) (TI : Th → Prop) (K : List (Th × Nat)) (hm : HMap w kb K) (hr : RRow w base (.slice ar rs.length cr) rs) (hcl : Closed rs TI) (hti : ∀ p ∈ K, TI p.1) (hK : K.length ≤ limit) (hl : limit ≤ 50) :
  Calls Tryz.prog 60 #[.map (some kb), .slice ar rs.length cr, .int .i64 (limit : Nat)] w (ClimbPost w kb rs limit TI K) := by
 have HM := hide hm
 have HR := hide hr
 have HCL := hide hcl
 have h0 : ClimbIn w kb base (.slice ar rs.length cr) rs limit TI K 1 K w := ⟨hm, hti, hK, Kept.refl _ _, Nat.le_refl _, by omega, fun _ h => h⟩
 have H0 := hide h0
 have hkl := hm.lt
 clear hm hr hcl hti hK h0
 go_enter Tryz.func60, Tryz.ntmps60
 go_wp2_with fail
 go_loopg [7] (limit + 1 - K.length) (fun gg hv wr => ∃ (n : Nat) (K' : List (Th × Nat)), gg = limit + 1 - K'.length ∧ hv = .int .i64 (n : Nat) ∧ ClimbIn w kb base (.slice ar rs.length cr) rs limit TI K n K' wr)
 case atStart => exact ⟨1, K, rfl, rfl, zaa H0⟩
 case round =>
  clear H0
  obtain ⟨n, K', hgk, rfl, hin⟩ := hrel
  have hk' := hin.len
  have hn1 := hin.n1
  have HN := hide (next_any wr kb base ar cr rs K' n limit hin.m ((SameCells.of_kept (zaa HM) hin.k).rrow (zaa HR)) (fun r hr => (zaa HCL K' hin.ti r hr).1) hin.len hl)
  have HIN := hide hin
  clear hin
  have HMK := hide (fun (w1 : World) (hb1 : Below wr.heap.size wr w1) => (zaa HIN).m.block (hb1.block kb (zaa HIN).m.lt))
  have hklr := (zaa HIN).m.lt
  go_wp2_with fail
  refine (zaa HN).mono ?_
  rintro en w1 ⟨hb1, ⟨fb, L, rfl, hfb, hmf, hh, hnew, hlen⟩ | ⟨rfl, L, hnd, hnb, hov⟩⟩
  ·have hln := hmf.len Tryz.underlying83
   have HCP := hide (copy_any w1 kb fb K' L (zaa HMK w1 hb1) hmf (by omega) (fun p hp => ((hnew p.1).1 (by rw [zem hmf.nodup hp]; rfl)).1) (by omega))
   have HB1 := hide hb1
   have HH := hide hh
   have HNEW := hide hnew
   have HMF := hide hmf
   have hw1 := hb1.size
   clear hb1 hh hnew hmf
   cases hL : L with
   | nil =>
    subst hL
    go_wp2_with fail
    go_ret
    have hin := zaa HIN
    exact ⟨some K', hin.rel _ (.done fun t ht => by have := (zaa HNEW t).2 ht; cases this), rfl, hin.k.of_below (zaa HB1), fun K2 e => by cases e; exact ⟨zaa HMK w1 (zaa HB1), hin.ti, hin.len⟩⟩
   | cons p tl =>
    have hz : (L.length : Int) ≠ 0 := by rw [hL]; simp; omega
    have hpos : 0 < L.length := by rw [hL]; simp
    clear hL
    go_wp2_with (go_at_call 100; refine (zaa HCP).mono ?_; rintro en w2 ⟨⟨v2, rfl⟩, hk2, S', hm2, hs2, hl2⟩; have HK2 := hide hk2; have HM2 := hide hm2; have HS2 := hide hs2; clear hk2 hm2 hs2)
    have hs' : 0 < S'.length := by
     cases hS : S' with
     | nil =>
      exfalso
      cases hL : L with
      | nil => rw [hL] at hpos; simp at hpos
      | cons q tl => have := (zaa HS2 q).2 (by rw [hL]; exact List.mem_cons_self); rw [hS] at this; cases this
     | cons q tl => simp
    have hnew : ∀ t, (∃ m, (t, m) ∈ S') ↔ NewB rs K' t := fun t => by
     rw [← zaa HNEW t]
     constructor
     ·rintro ⟨m, hm⟩
      rw [zem (zaa HMF).nodup ((zaa HS2 _).1 hm)]; rfl
     ·intro h
      obtain ⟨m, hm⟩ := Option.isSome_iff_exists.1 h
      exact ⟨m, (zaa HS2 _).2 (zeb hm)⟩
    go_roundg (limit + 1 - (K' ++ S').length)
    case measure => rw [List.length_append]; omega
    case rel =>
     have hin := zaa HIN
     refine ⟨n + 1, K' ++ S', rfl, by go_num, zaa HM2, fun q hq => ?_, by rw [List.length_append]; omega, (hin.k.of_below (zaa HB1)).trans (zaa HK2), by omega, by rw [List.length_append]; omega, fun r hr => hin.rel r (.more (fun e => by rw [e] at hs'; simp at hs') (by have hnd := (zaa HM2).nodup; rw [List.map_append, List.nodup_append] at hnd; exact hnd.2.1) (fun q hq => zaa HH q ((zaa HS2 q).1 hq)) hnew (by omega) hr)⟩
     rcases List.mem_append.1 hq with hq | hq
     ·exact hin.ti q hq
     ·exact (zaa HCL).new hin.ti ((hnew q.1).1 ⟨q.2, hq⟩)
  ·have HB1 := hide hb1
   clear hb1
   go_wp2_with fail
   go_ret
   have hin := zaa HIN
   exact ⟨none, hin.rel _ (.over L hnd hnb hov), rfl, hin.k.of_below (zaa HB1), fun K2 e => by cases e⟩
end
section
open Go.RowKit Go.Maps
attribute [local go_sem ↓] zh1 zgt zgo zgy
attribute [local go_sem] zf1 zfu
set_option maxRecDepth 100000 in
theorem atext_any (w : World) (base : Nat) (pd : ByteArray) (a : Option Addr) (c : Nat) (ts : List (Bool × ByteArray)) (h : w.ownsRow base 191 1 (.slice a ts.length c) ts.length (zbj ts)) (hlen : (zet pd ts).length ≤ 1000000000) :
  Calls Tryz.prog 102 #[.agg #[.string pd, .slice a ts.length c]] w fun e w' => e = .returned (.string ⟨(zet pd ts).toArray⟩) ∧ Below w.heap.size w w' := by
 have b1 := (Below.refl w.heap.size w).alloc (Nat.le_refl _) (.cells #[.string pd, .slice a ts.length c] 79)
 have h0 : Holds (w.heap.size + 1) (w.heap.size + 1) [] ((w.alloc (.cells #[.string pd, .slice a ts.length c] 79)).alloc (.cells #[.pointer none, .slice none 0 0] 155)) := by
  have := Lib.fresh_isBuilder 155 5 (w.alloc (.cells #[.string pd, .slice a ts.length c] 79))
  rw [World.size_alloc] at this
  exact this
 have b0 := b1.alloc (by simp) (.cells #[.pointer none, .slice none 0 0] 155)
 have hr := zai h b0 (fun g e => (h.lt g e).2)
 have HW := hide (watom_any (w.heap.size + 1) (w.heap.size + 1) [] pd a c base ts _ h0 hr (by simpa using hlen) (by simp))
 have HB0 := hide b0
 clear h h0 b0 b1 hr
 go_enter Tryz.func102, Tryz.ntmps102
 go_wp2_with (go_at_call 110; refine (zaa HW).mono ?_; rintro e w1 ⟨rfl, h1, hb1, -, hz1⟩)
 refine (Tryz.Builder_String_any (w.heap.size + 1) (w.heap.size + 1) _ _ h1 hz1).mono ?_
 rintro e w2 ⟨rfl, hb2⟩
 have HB := hide ((zaa HB0).trans ((hb1.trans hb2).mono (by omega)))
 clear h1 hb1 hz1 hb2
 go_wp2_with fail
 go_ret
 exact ⟨rfl, zaa HB⟩
def zb7 (t : Th) : List (Bool × ByteArray) := t.2.map fun x => (false, x)
def zc6 (t : Th) : ByteArray := ⟨(zet t.1 (zb7 t)).toArray⟩
structure TTIn (w : World) (t : Th) (l : List ByteArray) (tv : Value) (wr : World) : Prop where
 th : TV wr w.heap.size t
 at_ : wr.heap[w.heap.size + 1]? = some (.cells #[.string t.1, tv] 79 (0, 0))
 row : wr.ownsRow (w.heap.size + 1 + 1) 191 1 tv l.length (zbj (l.map fun x => (false, x)))
 k : Below w.heap.size w wr
theorem zjy (s : ByteArray) : s.toList.length = s.size := by rw [ByteArray.toList_eq]; exact zc0 s
theorem tt_keep {w : World} {t : Th} {l : List ByteArray} {a1 a5 : Option Addr} {c1 c5 : Nat} {wr w5 : World} {o : Obj} {x : ByteArray} (hwr : w.heap.size + 1 < wr.heap.size) (hown : w5.ownsRow (w.heap.size + 1 + 1) 191 1 (.slice a5 (l.length + 1) c5) (l.length + 1) (zbj (l.map fun x => (false, x)) ++ [zfv false x])) (hg : (wr.alloc o).grownBy w5 (Value.slice a1 l.length c1).ownBlock) (h : TTIn w t l (.slice a1 l.length c1) wr) :
  TTIn w t (l ++ [x]) (.slice a5 (l ++ [x]).length c5) (w5.setCell ⟨w.heap.size + 1, 1, none⟩ (.slice a5 (l.length + 1) c5)) ∧ w5.heap[w.heap.size + 1]? = some (.cells #[.string t.1, .slice a1 l.length c1] 79 (0, 0)) := by
 have hb : ∀ i, i ≤ w.heap.size + 1 → w5.heap[i]? = wr.heap[i]? := fun i hi => by
  rw [hg.block i (by simp; omega) (fun e => by have := (h.row.lt i e.symm).1; omega), Below.heap_alloc _ _ _ (by omega)]
 have hat := (hb _ (Nat.le_refl _)).trans h.at_
 refine ⟨⟨?_, ?_, ?_, ?_⟩, hat⟩
 ·show _ = _
  rw [Below.heap_setCell _ _ _ _ (by simp)]
  exact (hb _ (by omega)).trans h.th
 ·rw [setCell_eq_setRow w5 _ _ _ _ (0, 0) _ hat, setRow_heap _ _ _ _ _ _ hat]
  simp
 ·have e1 : (l ++ [x]).length = l.length + 1 := by simp
  have e2 : zbj ((l ++ [x]).map fun x => (false, x)) = zbj (l.map fun x => (false, x)) ++ [zfv false x] := by simp [zbj]
  rw [e1, e2]
  exact zbb hown (fun g hg' => Below.heap_setCell _ _ _ _ (by have := (hown.lt g hg').1; simp; omega))
 ·have h5 : Below w.heap.size w w5 := ⟨hg.os.trans h.k.os, hg.tape.trans h.k.tape, hg.output.trans h.k.output, Nat.le_trans h.k.size (Nat.le_trans (by simp) hg.size), fun i hi => (hb i (by omega)).trans (h.k.block i hi)⟩
  exact h5.setCell (p := ⟨w.heap.size + 1, 1, none⟩) (by simp) _
set_option maxRecDepth 100000 in
theorem thtext_any (w : World) (t : Th) (ht : ThOk t) (hlen : (zet t.1 (zb7 t)).length ≤ 1000000000) :
  Calls Tryz.prog 63 #[thV t] w fun e w' => e = .returned (.string (zc6 t)) ∧ Below w.heap.size w w' := by
 obtain ⟨i0, hi, hz0, hz1, hz2⟩ := info_parts zoj
 obtain ⟨ct, hct⟩ : ∃ ct, ct = (zbd t).toArray := ⟨_, rfl⟩
 have HCT := hide hct
 unfold thV
 rw [← hct]
 clear hct
 have HT := hide ht
 clear ht
 have c0 : (w.alloc (.cells ct 88)).cell? ⟨w.heap.size, 0, none⟩ = some (.string t.1) := by
  rw [(zab (heap_alloc_new w (.cells ct 88)) 0).1, zaa HCT]; rfl
 go_enter Tryz.func63, Tryz.ntmps63
 go_upto_region 2 with fail
 generalize hw0 : World.alloc (World.alloc w _) _ = w0
 have h0 : TTIn w t [] (.slice none 0 0) w0 := by
  have k0 : Below w.heap.size w ((w.alloc (.cells ct 88)).alloc (.cells #[.string t.1, .slice none 0 0] 79)) := ((Below.refl _ _).alloc (Nat.le_refl _) _).alloc (by simp) _
  rw [← hw0]
  refine ⟨?_, ?_, World.ownsRow_nil _ _ _ _, k0⟩
  ·show _ = _
   rw [Below.heap_alloc _ _ _ (by simp), ← zaa HCT]
   exact heap_alloc_new w _
  ·have := heap_alloc_new (w.alloc (.cells ct 88)) (.cells #[.string t.1, .slice none 0 0] 79)
   rw [World.size_alloc] at this
   exact this
 have H0 := hide h0
 have hws : w.heap.size + 1 < w0.heap.size := (Array.getElem?_eq_some_iff.1 h0.at_).1
 clear hw0 c0 h0
 go_wp2_with fail
 go_loopg [11] 4 (fun gg i wr => ∃ (k : Nat) (l : List ByteArray) (tv : Value), k ≤ 4 ∧ gg = 4 - k ∧ i = .int .i64 (k : Nat) ∧ l = t.2.take k ∧ TTIn w t l tv wr)
 case atStart => exact ⟨0, [], _, by omega, rfl, rfl, rfl, zaa H0⟩
 case round =>
  clear H0
  obtain ⟨k, l, tv, hk, hgk, rfl, hl, hin⟩ := hrel
  obtain ⟨a1, cap1, rfl⟩ := zac hin.row
  have hwr : w.heap.size + 1 < wr.heap.size := (Array.getElem?_eq_some_iff.1 hin.at_).1
  have HIN := hide hin
  have hll : l.length ≤ 4 := by rw [hl]; simp; omega
  have HL := hide hl
  obtain ⟨q0, z0⟩ := zab hin.at_ 0
  obtain ⟨q1, z1⟩ := zab hin.at_ 1
  simp only [List.getElem?_toArray, List.getElem?_cons_zero, List.getElem?_cons_succ] at q0 q1
  by_cases hlk : k < 4
  ·have hcell : wr.cell? ⟨w.heap.size, 1 + k, none⟩ = some (.string (nth4 t.2 k)) := by
    rw [(zab hin.th (1 + k)).1, List.getElem?_toArray]; exact zgk t hlk
   have hki : (k : Int) < 4 := by omega
   clear hin hl
   by_cases hlt : k < t.2.length
   ·have hne : ((nth4 t.2 k).toList == []) = false := by
     have hps : 0 < (nth4 t.2 k).size := zm4 (zaa HT) hlt
     cases hq : (nth4 t.2 k).toList == [] with
     | false => rfl
     | true => rw [beq_iff_eq] at hq; have h2 := zjy (nth4 t.2 k); rw [hq] at h2; simp at h2; omega
    have hrow := (zaa HIN).row
    have HLS := hide (show t.2.take (k + 1) = l ++ [nth4 t.2 k] by rw [List.take_succ_eq_append_getElem hlt, zaa HL]; congr 2; unfold nth4; rw [List.getElem?_eq_getElem hlt]; rfl)
    go_wp2_with (at_builtin; refine wpList_append_own _ rfl _ _ 77 rfl (w.heap.size + 1 + 1) 191 i0 _ 1 16 Tryz.underlying77 hi hz0 hz1 hz2 rfl (by decide) _ _ _ rfl (hrow.alloc _) ⟨wr.heap.size, 0, none⟩ 1 1 [zfv false (nth4 t.2 k)] rfl rfl (zqb wr _) (pt_one _ _) (by unfold maxLen; omega) (by omega) (by simp; omega) ?_; intro v5 w5 hown5 hg5 hne5; clear hne5; obtain ⟨a5, cap5, rfl⟩ := zac hown5; obtain ⟨r1, r2⟩ := tt_keep hwr hown5 hg5 (zaa HIN); obtain ⟨y1, x1⟩ := zab r2 1; simp only [List.getElem?_toArray, List.getElem?_cons_zero, List.getElem?_cons_succ] at y1; have H5 := hide r1; have H6 := hide r2; clear hown5 hg5 r1 r2)
    go_roundg (4 - (k + 1))
    case measure => omega
    case rel => exact ⟨k + 1, l ++ [nth4 t.2 k], _, by omega, rfl, by go_num, (zaa HLS).symm, (zaa H5)⟩
   ·have hne : ((nth4 t.2 k).toList == []) = true := by
     have h2 := zjy (nth4 t.2 k)
     rw [zkm (l := t.2) (i := k) (by omega)] at h2
     rw [beq_iff_eq]
     exact List.length_eq_zero_iff.1 h2
    go_wp2_with fail
    go_roundg (4 - (k + 1))
    case measure => omega
    case rel => exact ⟨k + 1, l, _, by omega, rfl, by go_num, by rw [zaa HL, List.take_of_length_le (by omega), List.take_of_length_le (by omega)], zaa HIN⟩
  ·have hlt : l = t.2 := by rw [hl, List.take_of_length_le]; have hfw : t.2.length ≤ 4 := (zaa HT).few; omega
   have hrow := hin.row
   have HC := hide (atext_any wr (w.heap.size + 1 + 1) t.1 a1 cap1 (zb7 t) (by unfold zb7; rw [List.length_map, ← hlt]; exact hrow) hlen)
   have hlen2 : (zb7 t).length = l.length := by unfold zb7; rw [List.length_map, hlt]
   rw [hlen2] at HC
   have HK := hide hin.k
   clear hin hl hrow hlt hlen2
   go_wp2_with (go_at_call 102; refine (zaa HC).mono ?_; rintro e w2 ⟨rfl, hb2⟩; have HB2 := hide hb2; clear hb2)
   go_ret
   exact ⟨rfl, (zaa HK).trans ((zaa HB2).mono (zaa HK).size)⟩
end
end Go.Proofs.YtldkpahaocjdpaaGreat
