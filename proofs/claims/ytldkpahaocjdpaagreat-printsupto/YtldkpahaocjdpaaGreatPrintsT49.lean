/-
  The law's allBytes and still, at lists of bytes that hold their owner's mark alone.
  The law's allTexts and still, at lists of texts that hold their owner's mark alone.
  The law's still, at four lists that hold their owner's mark alone.
  The law's book can be looked at, whatever stands in it; the steps at a Load, a Print and a Strata.
  A script that is handed in, opened: its steps' numbers and texts, and how many there are.
-/
import Derived.Test.YtldkpahaocjdpaaGreatPrintsT39
import Derived.Test.YtldkpahaocjdpaaGreatPrintsT45
import Derived.BigRegion
import Derived.Laws.BytesArg
import Derived.Test.YtldkpahaocjdpaaGreatPrintsT36
import Derived.Test.YtldkpahaocjdpaaGreatPrintsT48
import Derived.Test.YtldkpahaocjdpaaGreatRows
import Derived.ProofKit
import Derived.SizedLaws
import Derived.ChangeSlices
import Derived.Deep.Slices
import Derived.Deep.Strs
import Derived.Deep.CondSized
import Derived.JoinedCond
namespace Go.Proofs.YtldkpahaocjdpaaGreat
open Go.RowKit Go.Maps

theorem rep_at1 {w : World} {base : Nat} {e : TypeId} {x : Value} {v : Value} {n : Nat} (h : w.ownsRow base e 1 v n (rep [x] n)) (k : Nat) (hk : k < n) : ∃ g cap, v = .slice (some ⟨g, 0, none⟩) n cap ∧ g < w.heap.size ∧ n ≤ cap ∧ cap ≤ maxLen ∧ w.cell? ⟨g, k, none⟩ = some x := by
  have h' : w.ownsRow base e 1 v (List.replicate n ()).length ((List.replicate n ()).flatMap fun _ => [x]) := by rw [List.length_replicate]; exact h
  obtain ⟨g, cap, hv, -, hgl, hnc, hcm, hc⟩ := row_at (f := fun _ : Unit => [x]) (fun _ => rfl) h' k (by simpa using hk)
  rw [List.length_replicate] at hv hnc
  refine ⟨g, cap, hv, hgl, hnc, hcm, ?_⟩
  have := hc 0 (by simp)
  simpa using this

theorem mark_wrap (mk : Nat) : IntKind.wrap .u8 ((mk : Int) % 251) = ((mk % 251 : Nat) : Int) := by
  have : (0 : Int) ≤ (mk : Int) % 251 := by omega
  have : (mk : Int) % 251 < 251 := by omega
  simp [IntKind.wrap, IntKind.signed, IntKind.bits]
  omega

set_option maxRecDepth 100000 in
set_option maxHeartbeats 4000000 in
theorem allBytes_yes (w : World) (base mk : Nat) (a : Option Addr) (n c : Nat) (h : w.ownsRow base 5 1 (.slice a n c) n (rep (mkB mk) n)) (hn : n ≤ 100000) (hmk : mk ≤ 1000000000000) :
    Calls Tryz.prog 94 #[.slice a n c, .int .i64 mk] w fun e w' => e = .returned (.bool true) ∧ w' = w := by
  have HA := hide h
  clear h
  go_enter Tryz.func94, Tryz.ntmps94
  go_wp2_with fail
  go_loopg [5] n (fun gg i wr => ∃ k : Nat, k ≤ n ∧ gg = n - k ∧ i = .int .i64 k ∧ wr = w)
  case atStart => exact ⟨0, Nat.zero_le _, rfl, rfl, rfl⟩
  case round =>
    obtain ⟨k, hk, hgk, rfl, rfl⟩ := hrel
    by_cases hlk : k < n
    · obtain ⟨g, cap, hv, hgl, hnc, hcm, p0⟩ := rep_at1 (unhide HA) k hlk
      injection hv with h1 h2 h3
      subst h1 h3
      go_wp2_with fail
      go_roundg (n - (k + 1))
      case measure => omega
      case rel => exact ⟨k + 1, by omega, rfl, by go_num, rfl⟩
    · go_wp2_with fail
      go_ret
      exact ⟨rfl, rfl⟩

set_option maxRecDepth 100000 in
set_option maxHeartbeats 4000000 in
theorem stillB_yes (w : World) (base mk : Nat) (a1 a2 a3 a4 : Option Addr) (n1 n2 n3 n4 c1 c2 c3 c4 : Nat) (h1 : w.ownsRow base 5 1 (.slice a1 n1 c1) n1 (rep (mkB mk) n1)) (h2 : w.ownsRow base 5 1 (.slice a2 n2 c2) n2 (rep (mkB mk) n2)) (h3 : w.ownsRow base 5 1 (.slice a3 n3 c3) n3 (rep (mkB mk) n3)) (h4 : w.ownsRow base 5 1 (.slice a4 n4 c4) n4 (rep (mkB mk) n4)) (hn1 : n1 ≤ 100000) (hn2 : n2 ≤ 100000) (hn3 : n3 ≤ 100000) (hn4 : n4 ≤ 100000) (hmk : mk ≤ 1000000000000) :
    Calls Tryz.prog 52 #[.agg #[.slice a1 n1 c1, .slice a2 n2 c2, .slice a3 n3 c3, .slice a4 n4 c4, .int .i64 mk]] w fun e w' => e = .returned (.bool true) ∧ Below w.heap.size w w' := by
  have bA := (Below.refl w.heap.size w).alloc (Nat.le_refl _) (.cells #[.slice a1 n1 c1, .slice a2 n2 c2, .slice a3 n3 c3, .slice a4 n4 c4, .int .i64 mk] 115)
  have H1 := hide h1
  have H2 := hide h2
  have H3 := hide h3
  have H4 := hide h4
  clear h1 h2 h3 h4
  go_enter Tryz.func52, Tryz.ntmps52
  go_wp2_with fail
  refine (allBytes_yes _ base mk a1 n1 c1 ((unhide H1).alloc _) hn1 hmk).mono ?_
  rintro e w' ⟨rfl, rfl⟩
  go_wp2_with fail
  refine (allBytes_yes _ base mk a2 n2 c2 ((unhide H2).alloc _) hn2 hmk).mono ?_
  rintro e w' ⟨rfl, rfl⟩
  go_wp2_with fail
  refine (allBytes_yes _ base mk a3 n3 c3 ((unhide H3).alloc _) hn3 hmk).mono ?_
  rintro e w' ⟨rfl, rfl⟩
  go_wp2_with fail
  refine (allBytes_yes _ base mk a4 n4 c4 ((unhide H4).alloc _) hn4 hmk).mono ?_
  rintro e w' ⟨rfl, rfl⟩
  go_wp2_with fail
  go_ret
  exact ⟨rfl, bA⟩
end Go.Proofs.YtldkpahaocjdpaaGreat

namespace Go.Proofs.YtldkpahaocjdpaaGreat
open Go.RowKit Go.Maps

def mkS (n : Nat) : ByteArray := { data := #[35, UInt8.ofNat n, UInt8.ofNat (n / 256)] }
theorem nums_mk (mk : Nat) : strOfNums [35, (mk : Int) % 256, (mk : Int) / 256 % 256] = mkS mk := by
  have e1 : UInt8.ofNat ((mk : Int) % 256).toNat = UInt8.ofNat mk := by
    have : ((mk : Int) % 256).toNat = mk % 256 := by omega
    rw [this]; apply UInt8.toNat_inj.1; simp
  have e2 : UInt8.ofNat ((mk : Int) / 256 % 256).toNat = UInt8.ofNat (mk / 256) := by
    have : ((mk : Int) / 256 % 256).toNat = mk / 256 % 256 := by omega
    rw [this]; apply UInt8.toNat_inj.1; simp
  simp only [strOfNums, List.map_cons, List.map_nil, e1, e2]
  rfl
theorem conv_mk (wr : World) (mk : Nat) : (convert 47 9 (.slice (some ⟨wr.heap.size, 0, none⟩) 3 3)).run Tryz.prog ((wr.alloc (.cells #[.int .u8 35, .int .u8 ((mk : Int) % 256), .int .u8 ((mk : Int) / 256 % 256)] 5)).drew) = .ok (.string (mkS mk)) ((wr.alloc (.cells #[.int .u8 35, .int .u8 ((mk : Int) % 256), .int .u8 ((mk : Int) / 256 % 256)] 5)).drew) := by
  rw [← nums_mk]
  refine run_convert_bytes_arg _ 47 5 Tryz.underlying47 Tryz.underlying5 _ 0 3 3 [35, (mk : Int) % 256, (mk : Int) / 256 % 256] rfl (fun i hi => ?_) _ Tryz.underlying9
  show ((wr.alloc _).drew).cell? ⟨wr.heap.size, 0 + i, none⟩ = _
  rw [Nat.zero_add, World.cell?_drew, World.cell?_alloc_at _ _ _ _ rfl]
  match i, hi with
  | 0, _ => rfl
  | 1, _ => rfl
  | 2, _ => rfl
theorem mkT_is (n : Nat) : mkT n = [.string (mkS n)] := rfl

set_option maxRecDepth 100000 in
set_option maxHeartbeats 4000000 in
theorem allTexts_yes (w : World) (base mk : Nat) (a : Option Addr) (n c : Nat) (h : w.ownsRow base 9 1 (.slice a n c) n (rep (mkT mk) n)) (hn : n ≤ 100000) (_ : mk ≤ 1000000000000) :
    Calls Tryz.prog 95 #[.slice a n c, .int .i64 mk] w (StillPost w) := by
  rw [mkT_is] at h
  have HA := hide h
  clear h
  go_enter Tryz.func95, Tryz.ntmps95
  go_wp2_with fail
  go_loopg [5] n (fun gg i wr => ∃ k : Nat, k ≤ n ∧ gg = n - k ∧ i = .int .i64 k ∧ Below w.heap.size w wr)
  case atStart => exact ⟨0, Nat.zero_le _, rfl, rfl, Below.refl _ _⟩
  case round =>
    obtain ⟨k, hk, hgk, rfl, hb⟩ := hrel
    by_cases hlk : k < n
    · obtain ⟨g, cap, hv, hgl, hnc, hcm, p0⟩ := rep_at1 (own_below (unhide HA) hb (fun g e => ((unhide HA).lt g e).2)) k hlk
      injection hv with h1 h2 h3
      subst h1 h3
      have hz := hb.size
      have hcv := conv_mk wr mk
      go_wp2_with fail
      go_region
      all_goals
        go_wp2_with fail
        go_roundg (n - (k + 1))
        case measure => omega
        case rel => exact ⟨k + 1, by omega, rfl, by go_num, (hb.alloc hz _).drew⟩
    · go_wp2_with fail
      go_ret
      exact ⟨rfl, hb⟩

set_option maxRecDepth 100000 in
set_option maxHeartbeats 4000000 in
theorem stillT_yes (w : World) (base mk : Nat) (a1 a2 a3 a4 : Option Addr) (n1 n2 n3 n4 c1 c2 c3 c4 : Nat) (h1 : w.ownsRow base 9 1 (.slice a1 n1 c1) n1 (rep (mkT mk) n1)) (h2 : w.ownsRow base 9 1 (.slice a2 n2 c2) n2 (rep (mkT mk) n2)) (h3 : w.ownsRow base 9 1 (.slice a3 n3 c3) n3 (rep (mkT mk) n3)) (h4 : w.ownsRow base 9 1 (.slice a4 n4 c4) n4 (rep (mkT mk) n4)) (hn1 : n1 ≤ 100000) (hn2 : n2 ≤ 100000) (hn3 : n3 ≤ 100000) (hn4 : n4 ≤ 100000) (hmk : mk ≤ 1000000000000) :
    Calls Tryz.prog 53 #[.agg #[.slice a1 n1 c1, .slice a2 n2 c2, .slice a3 n3 c3, .slice a4 n4 c4, .int .i64 mk]] w (StillPost w) := by
  have bA := (Below.refl w.heap.size w).alloc (Nat.le_refl _) (.cells #[.slice a1 n1 c1, .slice a2 n2 c2, .slice a3 n3 c3, .slice a4 n4 c4, .int .i64 mk] 117)
  have hA : (w.alloc (.cells #[.slice a1 n1 c1, .slice a2 n2 c2, .slice a3 n3 c3, .slice a4 n4 c4, .int .i64 mk] 117)).heap[w.heap.size]? = some (.cells #[.slice a1 n1 c1, .slice a2 n2 c2, .slice a3 n3 c3, .slice a4 n4 c4, .int .i64 mk] 117 (0, 0)) := heap_alloc_new w _
  have hlt : w.heap.size < (w.alloc (.cells #[.slice a1 n1 c1, .slice a2 n2 c2, .slice a3 n3 c3, .slice a4 n4 c4, .int .i64 mk] 117)).heap.size := by simp
  have H1 := hide (h1.alloc (.cells #[.slice a1 n1 c1, .slice a2 n2 c2, .slice a3 n3 c3, .slice a4 n4 c4, .int .i64 mk] 117))
  have H2 := hide (h2.alloc (.cells #[.slice a1 n1 c1, .slice a2 n2 c2, .slice a3 n3 c3, .slice a4 n4 c4, .int .i64 mk] 117))
  have H3 := hide (h3.alloc (.cells #[.slice a1 n1 c1, .slice a2 n2 c2, .slice a3 n3 c3, .slice a4 n4 c4, .int .i64 mk] 117))
  have H4 := hide (h4.alloc (.cells #[.slice a1 n1 c1, .slice a2 n2 c2, .slice a3 n3 c3, .slice a4 n4 c4, .int .i64 mk] 117))
  clear h1 h2 h3 h4
  go_enter Tryz.func53, Tryz.ntmps53
  go_wp2_with fail
  refine (allTexts_yes _ base mk a1 n1 c1 (unhide H1) hn1 hmk).mono ?_
  rintro e w1 ⟨rfl, hb1⟩
  have hA1 := (hb1.block w.heap.size hlt).trans hA
  have q2 := own_below (unhide H2) hb1 (fun g e => ((unhide H2).lt g e).2)
  obtain ⟨y1, yf1⟩ := block_cells hA1 1
  obtain ⟨y4, yf4⟩ := block_cells hA1 4
  have hlt1 := (Array.getElem?_eq_some_iff.1 hA1).1
  go_wp2_with fail
  refine (allTexts_yes w1 base mk a2 n2 c2 q2 hn2 hmk).mono ?_
  rintro e w2 ⟨rfl, hb2⟩
  have hA2 := (hb2.block w.heap.size hlt1).trans hA1
  have hB2 := hb1.trans (hb2.mono hb1.size)
  have q3 := own_below (unhide H3) hB2 (fun g e => ((unhide H3).lt g e).2)
  obtain ⟨z2, zf2⟩ := block_cells hA2 2
  obtain ⟨z4, zf4⟩ := block_cells hA2 4
  have hlt2 := (Array.getElem?_eq_some_iff.1 hA2).1
  clear y1 yf1 y4 yf4 hA1 q2
  go_wp2_with fail
  refine (allTexts_yes w2 base mk a3 n3 c3 q3 hn3 hmk).mono ?_
  rintro e w3 ⟨rfl, hb3⟩
  have hA3 := (hb3.block w.heap.size hlt2).trans hA2
  have hB3 := hB2.trans (hb3.mono hB2.size)
  have q4 := own_below (unhide H4) hB3 (fun g e => ((unhide H4).lt g e).2)
  obtain ⟨x3, xf3⟩ := block_cells hA3 3
  obtain ⟨x4, xf4⟩ := block_cells hA3 4
  clear z2 zf2 z4 zf4 hA2 q3
  go_wp2_with fail
  refine (allTexts_yes w3 base mk a4 n4 c4 q4 hn4 hmk).mono ?_
  rintro e w4 ⟨rfl, hb4⟩
  have HB := hide (bA.trans ((hB3.trans (hb4.mono hB3.size)).mono (by simp)))
  clear x3 xf3 x4 xf4 hA3 q4 hb1 hb2 hb3 hb4 hB2 hB3 bA hA
  go_wp2_with fail
  go_ret
  exact ⟨rfl, unhide HB⟩
end Go.Proofs.YtldkpahaocjdpaaGreat

namespace Go.Proofs.YtldkpahaocjdpaaGreat
open Go.RowKit Go.Maps

set_option maxRecDepth 100000 in
set_option maxHeartbeats 4000000 in
theorem stillS_yes (w : World) (base mk : Nat) (a1 a2 a3 a4 : Option Addr) (n1 n2 n3 n4 c1 c2 c3 c4 : Nat) (h1 : w.ownsRow base 185 3 (.slice a1 n1 c1) n1 (marks mk n1)) (h2 : w.ownsRow base 185 3 (.slice a2 n2 c2) n2 (marks mk n2)) (h3 : w.ownsRow base 185 3 (.slice a3 n3 c3) n3 (marks mk n3)) (h4 : w.ownsRow base 185 3 (.slice a4 n4 c4) n4 (marks mk n4)) (hn1 : n1 ≤ 100000) (hn2 : n2 ≤ 100000) (hn3 : n3 ≤ 100000) (hn4 : n4 ≤ 100000) (hmk : mk ≤ 1000000000000) :
    Calls Tryz.prog 54 #[.agg #[.slice a1 n1 c1, .slice a2 n2 c2, .slice a3 n3 c3, .slice a4 n4 c4, .int .i64 mk]] w fun e w' => e = .returned (.bool true) ∧ Below w.heap.size w w' := by
  have bA := (Below.refl w.heap.size w).alloc (Nat.le_refl _) (.cells #[.slice a1 n1 c1, .slice a2 n2 c2, .slice a3 n3 c3, .slice a4 n4 c4, .int .i64 mk] 120)
  have H1 := hide h1
  have H2 := hide h2
  have H3 := hide h3
  have H4 := hide h4
  clear h1 h2 h3 h4
  go_enter Tryz.func54, Tryz.ntmps54
  go_wp2_with fail
  refine (allStrata_yes _ base mk a1 n1 c1 ((unhide H1).alloc _) hn1 hmk).mono ?_
  rintro e w' ⟨rfl, rfl⟩
  go_wp2_with fail
  refine (allStrata_yes _ base mk a2 n2 c2 ((unhide H2).alloc _) hn2 hmk).mono ?_
  rintro e w' ⟨rfl, rfl⟩
  go_wp2_with fail
  refine (allStrata_yes _ base mk a3 n3 c3 ((unhide H3).alloc _) hn3 hmk).mono ?_
  rintro e w' ⟨rfl, rfl⟩
  go_wp2_with fail
  refine (allStrata_yes _ base mk a4 n4 c4 ((unhide H4).alloc _) hn4 hmk).mono ?_
  rintro e w' ⟨rfl, rfl⟩
  go_wp2_with fail
  go_ret
  exact ⟨rfl, bA⟩
end Go.Proofs.YtldkpahaocjdpaaGreat

namespace Go.Proofs.YtldkpahaocjdpaaGreat
open Go.RowKit Go.Maps

theorem markS_still {w : World} {m : MB} (h : MarkF w 185 (markE m.mark) m) : Calls Tryz.prog 54 #[m.agg] w (StillPost w) := by
  obtain ⟨n, hn, h1, h2, h3, h4⟩ := h.each
  have hf := h.few
  obtain ⟨a1, c1, e1⟩ := own_slice h1
  obtain ⟨a2, c2, e2⟩ := own_slice h2
  obtain ⟨a3, c3, e3⟩ := own_slice h3
  obtain ⟨a4, c4, e4⟩ := own_slice h4
  unfold MB.agg
  rw [e1] at h1 ⊢
  rw [e2] at h2 ⊢
  rw [e3] at h3 ⊢
  rw [e4] at h4 ⊢
  exact stillS_yes w 0 m.mark a1 a2 a3 a4 n (n + 1) (n + 2) (n + 64) c1 c2 c3 c4 h1 h2 h3 h4 (by omega) (by omega) (by omega) (by omega) (by omega)
theorem markB_still {w : World} {m : MB} (h : MarkF w 5 (mkB m.mark) m) : Calls Tryz.prog 52 #[m.agg] w (StillPost w) := by
  obtain ⟨n, hn, h1, h2, h3, h4⟩ := h.each
  have hf := h.few
  obtain ⟨a1, c1, e1⟩ := own_slice h1
  obtain ⟨a2, c2, e2⟩ := own_slice h2
  obtain ⟨a3, c3, e3⟩ := own_slice h3
  obtain ⟨a4, c4, e4⟩ := own_slice h4
  unfold MB.agg
  rw [e1] at h1 ⊢
  rw [e2] at h2 ⊢
  rw [e3] at h3 ⊢
  rw [e4] at h4 ⊢
  exact stillB_yes w 0 m.mark a1 a2 a3 a4 n (n + 1) (n + 2) (n + 64) c1 c2 c3 c4 h1 h2 h3 h4 (by omega) (by omega) (by omega) (by omega) (by omega)
theorem markT_still {w : World} {m : MB} (h : MarkF w 9 (mkT m.mark) m) : Calls Tryz.prog 53 #[m.agg] w (StillPost w) := by
  obtain ⟨n, hn, h1, h2, h3, h4⟩ := h.each
  have hf := h.few
  obtain ⟨a1, c1, e1⟩ := own_slice h1
  obtain ⟨a2, c2, e2⟩ := own_slice h2
  obtain ⟨a3, c3, e3⟩ := own_slice h3
  obtain ⟨a4, c4, e4⟩ := own_slice h4
  unfold MB.agg
  rw [e1] at h1 ⊢
  rw [e2] at h2 ⊢
  rw [e3] at h3 ⊢
  rw [e4] at h4 ⊢
  exact stillT_yes w 0 m.mark a1 a2 a3 a4 n (n + 1) (n + 2) (n + 64) c1 c2 c3 c4 h1 h2 h3 h4 (by omega) (by omega) (by omega) (by omega) (by omega)

theorem looks_ok : LooksOk := fun w b psv bv tv sv _ mb mt ms h l1 l2 l3 =>
  looks_any w b psv bv tv sv mb mt ms mkB mkT markE h.blk h.bs h.ts h.ss (by omega) (by omega) (by omega) (fun _ _ _ hm => markB_still hm) (fun _ _ _ hm => markT_still hm) (fun _ _ _ hm => markS_still hm)

theorem step_load (w0 : World) (o : OpV) (h : OpOk o) (hk : o.kd = 1) : StepOk w0 o := by
  intro w b psv bv tv sv es mb mt ms _ hL l1 l2 l3 l4
  obtain ⟨kd, a, bb, s, t, u, at_, nt, ct⟩ := o
  cases hk
  exact (stp_load w b psv bv tv sv es mb mt ms a bb s t u at_ nt ct hL h.s (by omega)).mono fun e w' h => h.stp

theorem step_print (w0 : World) (o : OpV) (h : OpOk o) (hk : o.kd = 2) : StepOk w0 o := by
  intro w b psv bv tv sv es mb mt ms _ hL l1 l2 l3 l4
  obtain ⟨kd, a, bb, s, t, u, at_, nt, ct⟩ := o
  cases hk
  refine stp_ask w b psv bv tv sv es mb mt ms 2 a bb s t u at_ nt ct hL (by omega) h.a (.inl rfl) fun w' p lo hL' hE => ?_
  refine (asked_print w' b p.x p.y p.s lo hE a bb s t u at_ nt ct).mono ?_
  rintro e w'' ⟨rfl, hB⟩
  exact ⟨rfl, bv, tv, sv, mb, mt, ms, hL'.below hB, by omega, by omega, by omega, (Kept.refl _ _).of_below hB⟩

theorem step_strata (w0 : World) (o : OpV) (h : OpOk o) (hk : o.kd = 3) : StepOk w0 o := by
  intro w b psv bv tv sv es mb mt ms _ hL l1 l2 l3 l4
  obtain ⟨kd, a, bb, s, t, u, at_, nt, ct⟩ := o
  cases hk
  exact stp_ask w b psv bv tv sv es mb mt ms 3 a bb s t u at_ nt ct hL (by omega) h.a (.inr rfl) fun w' p lo hL' hE => asked_strata w' b psv bv tv sv es mb mt ms hL' p.x p.y p.s lo hE (by omega) a bb s t u at_ nt ct
end Go.Proofs.YtldkpahaocjdpaaGreat

namespace Go.Proofs.YtldkpahaocjdpaaGreat
open Go.ChangeShapes Go.WideShapes Go.ChangeAt Go.RowKit Go.Deep

theorem own2 : ownKnob Tryz.prog.godebug = none := by kernel_rfl
theorem laid2 : laidOutB Tryz.prog = true := by kernel_rfl
theorem cells2Op : Tryz.prog.cellsOf 26 = 7 := by kernel_rfl
theorem cells2Int : Tryz.prog.cellsOf 3 = 1 := by kernel_rfl
theorem cells2Str : Tryz.prog.cellsOf 9 = 1 := by kernel_rfl
theorem cells2Ints : Tryz.prog.cellsOf 24 = 1 := by kernel_rfl

theorem one_bulk {H : Type} (d : DataW H) : 1 ≤ Rows.uptoBulk d := by
  cases d with
  | lit l => cases l <;> simp [Rows.uptoBulk]
  | nil => simp [Rows.uptoBulk]
  | ptr d => simp [Rows.uptoBulk]
  | slice elems spare => simp [Rows.uptoBulk]
  | agg parts => simp [Rows.uptoBulk]
  | iface t d => simp [Rows.uptoBulk]
  | map entries => simp [Rows.uptoBulk]
  | held h => simp [Rows.uptoBulk]
theorem len_bulk {H : Type} (l : List (DataW H)) : l.length ≤ Rows.uptoBulkAll l := by
  induction l with
  | nil => simp [Rows.uptoBulkAll]
  | cons x r ih => have := one_bulk x; simp only [Rows.uptoBulkAll, List.length_cons]; omega

theorem int_range {n : Int} (h : (Lit.int .i64 n).wf = true) : -9223372036854775808 ≤ n ∧ n ≤ 9223372036854775807 := by
  simpa [Lit.wf, IntKind.min, IntKind.max, IntKind.signed, IntKind.bits] using h

set_option maxRecDepth 10000 in
/-- One step of the script, opened. -/
theorem open_op2 {H : Type} {enc : TypeId × Value → H} {W : World} {base n g off : Nat} {cs : List Value} {x : DataW H × List MemPlace} {spare : Nat → Bool} {held : Bool} (hc : W.cells? base ⟨g, off, none⟩ 7 = some cs) (ht : DataW.trod enc Tryz.prog W base spare held n 26 cs = some x) :
    ∃ o : OpV, W.cell? ⟨g, off, none⟩ = some (.int .i64 o.kd) ∧ W.cell? ⟨g, off + 1, none⟩ = some (.int .i64 o.a) ∧ W.cell? ⟨g, off + 2, none⟩ = some (.int .i64 o.b) ∧ W.cell? ⟨g, off + 3, none⟩ = some (.string o.s) ∧ W.cell? ⟨g, off + 4, none⟩ = some (.string o.t) ∧ W.cell? ⟨g, off + 5, none⟩ = some (.string o.u) ∧ W.cell? ⟨g, off + 6, none⟩ = some (.slice o.at_ o.nt o.ct) ∧ OpOk o := by
  obtain ⟨_, hl7, hcell⟩ := World.cells?_some hc
  obtain ⟨xs, m, _, _, hlen, hxl, hf⟩ := DataW.trod_struct Tryz.underlying26 ht
  obtain ⟨c0, c1, c2, c3, c4, c5, c6, rfl⟩ : ∃ c0 c1 c2 c3 c4 c5 c6, cs = [c0, c1, c2, c3, c4, c5, c6] := by
    match cs, hl7 with
    | [c0, c1, c2, c3, c4, c5, c6], _ => exact ⟨c0, c1, c2, c3, c4, c5, c6, rfl⟩
  obtain ⟨y0, y1, y2, y3, y4, y5, y6, rfl⟩ : ∃ y0 y1 y2 y3 y4 y5 y6, xs = [y0, y1, y2, y3, y4, y5, y6] := by
    match xs, hxl with
    | [y0, y1, y2, y3, y4, y5, y6], _ => exact ⟨y0, y1, y2, y3, y4, y5, y6, rfl⟩
  have f0 := hf 0 { name := "Kind", type := 3, offset := 0, embedded := false, tag := "", pkgPath := "", byteOffset := 0 } rfl
  have f1 := hf 1 { name := "A", type := 3, offset := 1, embedded := false, tag := "", pkgPath := "", byteOffset := 8 } rfl
  have f2 := hf 2 { name := "B", type := 3, offset := 2, embedded := false, tag := "", pkgPath := "", byteOffset := 16 } rfl
  have f3 := hf 3 { name := "S", type := 9, offset := 3, embedded := false, tag := "", pkgPath := "", byteOffset := 24 } rfl
  have f4 := hf 4 { name := "T", type := 9, offset := 4, embedded := false, tag := "", pkgPath := "", byteOffset := 40 } rfl
  have f5 := hf 5 { name := "U", type := 9, offset := 5, embedded := false, tag := "", pkgPath := "", byteOffset := 56 } rfl
  have f6 := hf 6 { name := "Turns", type := 24, offset := 6, embedded := false, tag := "", pkgPath := "", byteOffset := 72 } rfl
  simp only [cells2Int, cells2Str, cells2Ints, List.drop_zero, List.drop_succ_cons, List.take_succ_cons, List.take_zero, List.getElem?_cons_zero, List.getElem?_cons_succ] at f0 f1 f2 f3 f4 f5 f6
  obtain ⟨k0, e0, _, _⟩ := DataW.trod_int Tryz.underlying3 f0
  obtain ⟨k1, e1, _, r1⟩ := DataW.trod_int Tryz.underlying3 f1
  obtain ⟨k2, e2, _, r2⟩ := DataW.trod_int Tryz.underlying3 f2
  obtain ⟨s3, e3, _, hs3⟩ := DataW.trod_string Tryz.underlying9 f3
  obtain ⟨s4, e4, _, hs4⟩ := DataW.trod_string Tryz.underlying9 f4
  obtain ⟨s5, e5, _, hs5⟩ := DataW.trod_string Tryz.underlying9 f5
  have e6 : ∃ a n c, c6 = .slice a n c := by
    rcases DataW.trod_slice Tryz.underlying24 f6 with ⟨h, _⟩ | ⟨a, len, cap, _, _, _, _, h, _⟩
    · injection h with h; exact ⟨_, _, _, h⟩
    · injection h with h; exact ⟨_, _, _, h⟩
  obtain ⟨a6, n6, c6', rfl⟩ := e6
  injection e0 with e0
  injection e1 with e1
  injection e2 with e2
  injection e3 with e3
  injection e4 with e4
  injection e5 with e5
  subst e0 e1 e2 e3 e4 e5
  have d0 := hcell 0 (by omega)
  have d1 := hcell 1 (by omega)
  have d2 := hcell 2 (by omega)
  have d3 := hcell 3 (by omega)
  have d4 := hcell 4 (by omega)
  have d5 := hcell 5 (by omega)
  have d6 := hcell 6 (by omega)
  simp only [Addr.add, List.getElem?_cons_zero, List.getElem?_cons_succ] at d0 d1 d2 d3 d4 d5 d6
  exact ⟨⟨k0, k1, k2, s3, s4, s5, a6, n6, c6'⟩, by simpa using d0, by simpa using d1, by simpa using d2, by simpa using d3, by simpa using d4, by simpa using d5, by simpa using d6, ⟨int_range r1, int_range r2, hs3, hs4, hs5⟩⟩

set_option maxRecDepth 100000 in
/-- The script, opened. -/
theorem open_script {H : Type} {enc : TypeId × Value → H} {W : World} {a0 : Option Addr} {len cap : Nat} {d0 : DataW H} {p : List MemPlace} (h0 : DataW.Trod enc Tryz.prog W 0 (fun _ => true) true 22 (.slice a0 len cap) d0 p) (hk : Rows.uptoBulk d0 ≤ 1048576) :
    ∃ O : Nat → OpV, Scr W a0 len O ∧ (∀ i, i < len → OpOk (O i)) ∧ len ≤ 1048576 := by
  obtain ⟨fuel, hf⟩ := h0
  rcases open_slice Tryz.underlying22 hf with ⟨hcs, hx⟩ | ⟨a, len', cap', m, n, D, Pl, hcs, _, hl, hm, hmm, hx, hel⟩
  · simp [Value.cells] at hcs
    obtain ⟨rfl, rfl, rfl⟩ := hcs
    exact ⟨fun _ => ⟨0, 0, 0, { data := #[] }, { data := #[] }, { data := #[] }, none, 0, 0⟩, ⟨fun i hi => by omega⟩, fun i hi => by omega, by omega⟩
  · simp [Value.cells] at hcs
    obtain ⟨rfl, rfl, rfl⟩ := hcs
    simp only [Prod.mk.injEq] at hx
    obtain ⟨rfl, rfl⟩ := hx
    simp only [if_true] at hmm
    subst hmm
    have hlen : len ≤ 1048576 := by
      simp only [Rows.uptoBulk] at hk
      have := len_bulk ((List.range len).map D)
      simp only [List.length_map, List.length_range] at this
      omega
    obtain ⟨g, off, sp⟩ := a
    have hsp : 0 < len → sp = none := fun h => by
      obtain ⟨cs', hc, _⟩ := hel 0 (by omega)
      rw [cells2Op] at hc
      obtain ⟨_, hl7, hcell⟩ := World.cells?_some hc
      obtain ⟨c0, r, rfl⟩ : ∃ c0 r, cs' = c0 :: r := by
        match cs', hl7 with
        | c0 :: r, _ => exact ⟨c0, r, rfl⟩
      have c0raw := hcell 0 (by omega)
      simpa [Addr.add] using World.cell?_spot c0raw
    have each : ∀ i, i < len → ∃ o : OpV, W.cell? ⟨g, off + i * 7, none⟩ = some (.int .i64 o.kd) ∧ W.cell? ⟨g, off + i * 7 + 1, none⟩ = some (.int .i64 o.a) ∧ W.cell? ⟨g, off + i * 7 + 2, none⟩ = some (.int .i64 o.b) ∧ W.cell? ⟨g, off + i * 7 + 3, none⟩ = some (.string o.s) ∧ W.cell? ⟨g, off + i * 7 + 4, none⟩ = some (.string o.t) ∧ W.cell? ⟨g, off + i * 7 + 5, none⟩ = some (.string o.u) ∧ W.cell? ⟨g, off + i * 7 + 6, none⟩ = some (.slice o.at_ o.nt o.ct) ∧ OpOk o := by
      intro i hi
      obtain ⟨cs', hc, ht⟩ := hel i (by omega)
      rw [cells2Op] at hc
      have hs := hsp (by omega)
      subst hs
      have e : (⟨g, off, none⟩ : Addr).add (i * 7) = ⟨g, off + i * 7, none⟩ := by unfold Addr.add; split <;> simp_all
      rw [e] at hc
      exact open_op2 hc ht
    refine ⟨fun i => if h : i < len then Classical.choose (each i h) else ⟨0, 0, 0, { data := #[] }, { data := #[] }, { data := #[] }, none, 0, 0⟩, ⟨fun i hi => ?_⟩, fun i hi => ?_, hlen⟩
    · obtain ⟨q0, q1, q2, q3, q4, q5, q6, q7⟩ := Classical.choose_spec (each i hi)
      have hs := hsp (by omega)
      subst hs
      simp only [dif_pos hi]
      exact ⟨g, off, rfl, World.block_lt_of_cell? W _ q0, q0, q1, q2, q3, q4, q5, q6, q7.s⟩
    · obtain ⟨q0, q1, q2, q3, q4, q5, q6, q7⟩ := Classical.choose_spec (each i hi)
      simp only [dif_pos hi]
      exact q7
end Go.Proofs.YtldkpahaocjdpaaGreat
