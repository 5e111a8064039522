/-
  The law's allBytes and still, at lists of bytes that hold their owner's mark alone.
  The law's allTexts and still, at lists of texts that hold their owner's mark alone.
  The law's still, at four lists that hold their owner's mark alone.
  The law's book can be looked at, whatever stands in it; the steps at a Load, a Print and a Strata.
  The law's step: at a Query, an Explain, a witness.
  Plain: the words of a text that was read: none is empty or long, none has a bracket or a comma in it.
  Plain: what variables are, in the reference's words: the value of a term, an atom matched with a thing, an atom with what its variables are.
  Plain: how the reference's match holds what the variables are, in blocks of its own.
-/
import Derived.Test.YtldkpahaocjdpaaGreatQueriesT26
import Derived.Test.YtldkpahaocjdpaaGreatQueriesT28
import Derived.BigRegion
import Derived.Laws.BytesArg
import Derived.Test.YtldkpahaocjdpaaGreatQueriesT25
import Derived.Test.YtldkpahaocjdpaaGreatQueriesT29
set_option maxHeartbeats 16000000
namespace Go.Proofs.YtldkpahaocjdpaaGreat
section
open Go.RowKit Go.Maps
theorem rep_at1 {w : World} {base : Nat} {e : TypeId} {x : Value} {v : Value} {n : Nat} (h : w.ownsRow base e 1 v n (rep [x] n)) (k : Nat) (hk : k < n) : ∃ g cap, v = .slice (some ⟨g, 0, none⟩) n cap ∧ g < w.heap.size ∧ n ≤ cap ∧ cap ≤ maxLen ∧ w.cell? ⟨g, k, none⟩ = some x := by
 have h' : w.ownsRow base e 1 v (List.replicate n ()).length ((List.replicate n ()).flatMap fun _ => [x]) := by rw [List.length_replicate]; exact h
 obtain ⟨g, cap, hv, -, hgl, hnc, hcm, hc⟩ := zc7 (f := fun _ : Unit => [x]) (fun _ => rfl) h' k (by simpa using hk)
 rw [List.length_replicate] at hv hnc
 refine ⟨g, cap, hv, hgl, hnc, hcm, ?_⟩
 have := hc 0 (by simp)
 simpa using this
set_option maxRecDepth 100000 in
theorem zff (w : World) (base mk : Nat) (a : Option Addr) (n c : Nat) (h : w.ownsRow base 5 1 (.slice a n c) n (rep (mkB mk) n)) (hn : n ≤ 100000) (hmk : mk ≤ 1000000000000) :
  Calls Tryz.prog 94 #[.slice a n c, .int .i64 mk] w fun e w' => e = .returned (.bool true) ∧ w' = w := by
 have HA := hide h
 clear h
 go_enter Tryz.func94, Tryz.ntmps94
 go_wp2_with fail
 go_loopg [5] n (fun gg i wr => ∃ k : Nat, k ≤ n ∧ gg = n - k ∧ i = .int .i64 k ∧ wr = w)
 case atStart => exact ⟨0, Nat.zero_le _, rfl, rfl, rfl⟩
 case round =>
  obtain ⟨k, hk, hgk, rfl, rfl⟩ := hrel
  by_cases hlk : k < n
  ·obtain ⟨g, cap, hv, hgl, hnc, hcm, p0⟩ := rep_at1 (zaa HA) k hlk
   injection hv with h1 h2 h3
   subst h1 h3
   go_wp2_with fail
   go_roundg (n - (k + 1))
   case measure => omega
   case rel => exact ⟨k + 1, by omega, rfl, by go_num, rfl⟩
  ·go_wp2_with fail
   go_ret
   exact ⟨rfl, rfl⟩
set_option maxRecDepth 100000 in
theorem stillB_yes (w : World) (base mk : Nat) (a1 a2 a3 a4 : Option Addr) (n1 n2 n3 n4 c1 c2 c3 c4 : Nat) (h1 : w.ownsRow base 5 1 (.slice a1 n1 c1) n1 (rep (mkB mk) n1)) (h2 : w.ownsRow base 5 1 (.slice a2 n2 c2) n2 (rep (mkB mk) n2)) (h3 : w.ownsRow base 5 1 (.slice a3 n3 c3) n3 (rep (mkB mk) n3)) (h4 : w.ownsRow base 5 1 (.slice a4 n4 c4) n4 (rep (mkB mk) n4)) (hn1 : n1 ≤ 100000) (hn2 : n2 ≤ 100000) (hn3 : n3 ≤ 100000) (hn4 : n4 ≤ 100000) (hmk : mk ≤ 1000000000000) :
  Calls Tryz.prog 52 #[.agg #[.slice a1 n1 c1, .slice a2 n2 c2, .slice a3 n3 c3, .slice a4 n4 c4, .int .i64 mk]] w fun e w' => e = .returned (.bool true) ∧ Below w.heap.size w w' := by
 have bA := (Below.refl w.heap.size w).alloc (Nat.le_refl _) (.cells #[.slice a1 n1 c1, .slice a2 n2 c2, .slice a3 n3 c3, .slice a4 n4 c4, .int .i64 mk] 115)
 have H1 := hide h1
 have H2 := hide h2
 have H3 := hide h3
 have H4 := hide h4
 clear h1 h2 h3 h4
 go_enter Tryz.func52, Tryz.ntmps52
 go_wp2_with fail
 refine (zff _ base mk a1 n1 c1 ((zaa H1).alloc _) hn1 hmk).mono ?_
 rintro e w' ⟨rfl, rfl⟩
 go_wp2_with fail
 refine (zff _ base mk a2 n2 c2 ((zaa H2).alloc _) hn2 hmk).mono ?_
 rintro e w' ⟨rfl, rfl⟩
 go_wp2_with fail
 refine (zff _ base mk a3 n3 c3 ((zaa H3).alloc _) hn3 hmk).mono ?_
 rintro e w' ⟨rfl, rfl⟩
 go_wp2_with fail
 refine (zff _ base mk a4 n4 c4 ((zaa H4).alloc _) hn4 hmk).mono ?_
 rintro e w' ⟨rfl, rfl⟩
 go_wp2_with fail
 go_ret
 exact ⟨rfl, bA⟩
end
section
open Go.RowKit Go.Maps
def mkS (n : Nat) : ByteArray := { data := #[35, UInt8.ofNat n, UInt8.ofNat (n / 256)] }
theorem nums_mk (mk : Nat) : strOfNums [35, (mk : Int) % 256, (mk : Int) / 256 % 256] = mkS mk := by
 have e1 : UInt8.ofNat ((mk : Int) % 256).toNat = UInt8.ofNat mk := by
  have : ((mk : Int) % 256).toNat = mk % 256 := by omega
  rw [this]; apply UInt8.toNat_inj.1; simp
 have e2 : UInt8.ofNat ((mk : Int) / 256 % 256).toNat = UInt8.ofNat (mk / 256) := by
  have : ((mk : Int) / 256 % 256).toNat = mk / 256 % 256 := by omega
  rw [this]; apply UInt8.toNat_inj.1; simp
 simp only [strOfNums, List.map_cons, List.map_nil, e1, e2]
 rfl
theorem conv_mk (wr : World) (mk : Nat) : (convert 47 9 (.slice (some ⟨wr.heap.size, 0, none⟩) 3 3)).run Tryz.prog ((wr.alloc (.cells #[.int .u8 35, .int .u8 ((mk : Int) % 256), .int .u8 ((mk : Int) / 256 % 256)] 5)).drew) = .ok (.string (mkS mk)) ((wr.alloc (.cells #[.int .u8 35, .int .u8 ((mk : Int) % 256), .int .u8 ((mk : Int) / 256 % 256)] 5)).drew) := by
 rw [← nums_mk]
 refine run_convert_bytes_arg _ 47 5 Tryz.underlying47 Tryz.underlying5 _ 0 3 3 [35, (mk : Int) % 256, (mk : Int) / 256 % 256] rfl (fun i hi => ?_) _ Tryz.underlying9
 show ((wr.alloc _).drew).cell? ⟨wr.heap.size, 0 + i, none⟩ = _
 rw [Nat.zero_add, World.cell?_drew, World.cell?_alloc_at _ _ _ _ rfl]
 match i, hi with
 | 0, _ => rfl
 | 1, _ => rfl
 | 2, _ => rfl
theorem mkT_is (n : Nat) : mkT n = [.string (mkS n)] := rfl
set_option maxRecDepth 100000 in
theorem zfi (w : World) (base mk : Nat) (a : Option Addr) (n c : Nat) (h : w.ownsRow base 9 1 (.slice a n c) n (rep (mkT mk) n)) (hn : n ≤ 100000) (_ : mk ≤ 1000000000000) :
  Calls Tryz.prog 95 #[.slice a n c, .int .i64 mk] w (zcz w) := by
 rw [mkT_is] at h
 have HA := hide h
 clear h
 go_enter Tryz.func95, Tryz.ntmps95
 go_wp2_with fail
 go_loopg [5] n (fun gg i wr => ∃ k : Nat, k ≤ n ∧ gg = n - k ∧ i = .int .i64 k ∧ Below w.heap.size w wr)
 case atStart => exact ⟨0, Nat.zero_le _, rfl, rfl, Below.refl _ _⟩
 case round =>
  obtain ⟨k, hk, hgk, rfl, hb⟩ := hrel
  by_cases hlk : k < n
  ·obtain ⟨g, cap, hv, hgl, hnc, hcm, p0⟩ := rep_at1 (zai (zaa HA) hb (fun g e => ((zaa HA).lt g e).2)) k hlk
   injection hv with h1 h2 h3
   subst h1 h3
   have hz := hb.size
   have hcv := conv_mk wr mk
   go_wp2_with fail
   go_region
   all_goals
    go_wp2_with fail
    go_roundg (n - (k + 1))
    case measure => omega
    case rel => exact ⟨k + 1, by omega, rfl, by go_num, (hb.alloc hz _).drew⟩
  ·go_wp2_with fail
   go_ret
   exact ⟨rfl, hb⟩
set_option maxRecDepth 100000 in
theorem stillT_yes (w : World) (base mk : Nat) (a1 a2 a3 a4 : Option Addr) (n1 n2 n3 n4 c1 c2 c3 c4 : Nat) (h1 : w.ownsRow base 9 1 (.slice a1 n1 c1) n1 (rep (mkT mk) n1)) (h2 : w.ownsRow base 9 1 (.slice a2 n2 c2) n2 (rep (mkT mk) n2)) (h3 : w.ownsRow base 9 1 (.slice a3 n3 c3) n3 (rep (mkT mk) n3)) (h4 : w.ownsRow base 9 1 (.slice a4 n4 c4) n4 (rep (mkT mk) n4)) (hn1 : n1 ≤ 100000) (hn2 : n2 ≤ 100000) (hn3 : n3 ≤ 100000) (hn4 : n4 ≤ 100000) (hmk : mk ≤ 1000000000000) :
  Calls Tryz.prog 53 #[.agg #[.slice a1 n1 c1, .slice a2 n2 c2, .slice a3 n3 c3, .slice a4 n4 c4, .int .i64 mk]] w (zcz w) := by
 have bA := (Below.refl w.heap.size w).alloc (Nat.le_refl _) (.cells #[.slice a1 n1 c1, .slice a2 n2 c2, .slice a3 n3 c3, .slice a4 n4 c4, .int .i64 mk] 117)
 have hA : (w.alloc (.cells #[.slice a1 n1 c1, .slice a2 n2 c2, .slice a3 n3 c3, .slice a4 n4 c4, .int .i64 mk] 117)).heap[w.heap.size]? = some (.cells #[.slice a1 n1 c1, .slice a2 n2 c2, .slice a3 n3 c3, .slice a4 n4 c4, .int .i64 mk] 117 (0, 0)) := heap_alloc_new w _
 have hlt : w.heap.size < (w.alloc (.cells #[.slice a1 n1 c1, .slice a2 n2 c2, .slice a3 n3 c3, .slice a4 n4 c4, .int .i64 mk] 117)).heap.size := by simp
 have H1 := hide (h1.alloc (.cells #[.slice a1 n1 c1, .slice a2 n2 c2, .slice a3 n3 c3, .slice a4 n4 c4, .int .i64 mk] 117))
 have H2 := hide (h2.alloc (.cells #[.slice a1 n1 c1, .slice a2 n2 c2, .slice a3 n3 c3, .slice a4 n4 c4, .int .i64 mk] 117))
 have H3 := hide (h3.alloc (.cells #[.slice a1 n1 c1, .slice a2 n2 c2, .slice a3 n3 c3, .slice a4 n4 c4, .int .i64 mk] 117))
 have H4 := hide (h4.alloc (.cells #[.slice a1 n1 c1, .slice a2 n2 c2, .slice a3 n3 c3, .slice a4 n4 c4, .int .i64 mk] 117))
 clear h1 h2 h3 h4
 go_enter Tryz.func53, Tryz.ntmps53
 go_wp2_with fail
 refine (zfi _ base mk a1 n1 c1 (zaa H1) hn1 hmk).mono ?_
 rintro e w1 ⟨rfl, hb1⟩
 have hA1 := (hb1.block w.heap.size hlt).trans hA
 have q2 := zai (zaa H2) hb1 (fun g e => ((zaa H2).lt g e).2)
 obtain ⟨y1, yf1⟩ := zab hA1 1
 obtain ⟨y4, yf4⟩ := zab hA1 4
 have hlt1 := (Array.getElem?_eq_some_iff.1 hA1).1
 go_wp2_with fail
 refine (zfi w1 base mk a2 n2 c2 q2 hn2 hmk).mono ?_
 rintro e w2 ⟨rfl, hb2⟩
 have hA2 := (hb2.block w.heap.size hlt1).trans hA1
 have hB2 := hb1.trans (hb2.mono hb1.size)
 have q3 := zai (zaa H3) hB2 (fun g e => ((zaa H3).lt g e).2)
 obtain ⟨z2, zf2⟩ := zab hA2 2
 obtain ⟨z4, zf4⟩ := zab hA2 4
 have hlt2 := (Array.getElem?_eq_some_iff.1 hA2).1
 clear y1 yf1 y4 yf4 hA1 q2
 go_wp2_with fail
 refine (zfi w2 base mk a3 n3 c3 q3 hn3 hmk).mono ?_
 rintro e w3 ⟨rfl, hb3⟩
 have hA3 := (hb3.block w.heap.size hlt2).trans hA2
 have hB3 := hB2.trans (hb3.mono hB2.size)
 have q4 := zai (zaa H4) hB3 (fun g e => ((zaa H4).lt g e).2)
 obtain ⟨x3, xf3⟩ := zab hA3 3
 obtain ⟨x4, xf4⟩ := zab hA3 4
 clear z2 zf2 z4 zf4 hA2 q3
 go_wp2_with fail
 refine (zfi w3 base mk a4 n4 c4 q4 hn4 hmk).mono ?_
 rintro e w4 ⟨rfl, hb4⟩
 have HB := hide (bA.trans ((hB3.trans (hb4.mono hB3.size)).mono (by simp)))
 clear x3 xf3 x4 xf4 hA3 q4 hb1 hb2 hb3 hb4 hB2 hB3 bA hA
 go_wp2_with fail
 go_ret
 exact ⟨rfl, zaa HB⟩
end
section
open Go.RowKit Go.Maps
set_option maxRecDepth 100000 in
theorem stillS_yes (w : World) (base mk : Nat) (a1 a2 a3 a4 : Option Addr) (n1 n2 n3 n4 c1 c2 c3 c4 : Nat) (h1 : w.ownsRow base 185 3 (.slice a1 n1 c1) n1 (marks mk n1)) (h2 : w.ownsRow base 185 3 (.slice a2 n2 c2) n2 (marks mk n2)) (h3 : w.ownsRow base 185 3 (.slice a3 n3 c3) n3 (marks mk n3)) (h4 : w.ownsRow base 185 3 (.slice a4 n4 c4) n4 (marks mk n4)) (hn1 : n1 ≤ 100000) (hn2 : n2 ≤ 100000) (hn3 : n3 ≤ 100000) (hn4 : n4 ≤ 100000) (hmk : mk ≤ 1000000000000) :
  Calls Tryz.prog 54 #[.agg #[.slice a1 n1 c1, .slice a2 n2 c2, .slice a3 n3 c3, .slice a4 n4 c4, .int .i64 mk]] w fun e w' => e = .returned (.bool true) ∧ Below w.heap.size w w' := by
 have bA := (Below.refl w.heap.size w).alloc (Nat.le_refl _) (.cells #[.slice a1 n1 c1, .slice a2 n2 c2, .slice a3 n3 c3, .slice a4 n4 c4, .int .i64 mk] 120)
 have H1 := hide h1
 have H2 := hide h2
 have H3 := hide h3
 have H4 := hide h4
 clear h1 h2 h3 h4
 go_enter Tryz.func54, Tryz.ntmps54
 go_wp2_with fail
 refine (zev _ base mk a1 n1 c1 ((zaa H1).alloc _) hn1 hmk).mono ?_
 rintro e w' ⟨rfl, rfl⟩
 go_wp2_with fail
 refine (zev _ base mk a2 n2 c2 ((zaa H2).alloc _) hn2 hmk).mono ?_
 rintro e w' ⟨rfl, rfl⟩
 go_wp2_with fail
 refine (zev _ base mk a3 n3 c3 ((zaa H3).alloc _) hn3 hmk).mono ?_
 rintro e w' ⟨rfl, rfl⟩
 go_wp2_with fail
 refine (zev _ base mk a4 n4 c4 ((zaa H4).alloc _) hn4 hmk).mono ?_
 rintro e w' ⟨rfl, rfl⟩
 go_wp2_with fail
 go_ret
 exact ⟨rfl, bA⟩
end
section
open Go.RowKit Go.Maps
theorem zqh {w : World} {m : MB} (h : MarkF w 185 (zjk m.mark) m) : Calls Tryz.prog 54 #[m.agg] w (zcz w) := by
 obtain ⟨n, hn, h1, h2, h3, h4⟩ := h.each
 have hf := h.few
 obtain ⟨a1, c1, e1⟩ := zac h1
 obtain ⟨a2, c2, e2⟩ := zac h2
 obtain ⟨a3, c3, e3⟩ := zac h3
 obtain ⟨a4, c4, e4⟩ := zac h4
 unfold MB.agg
 rw [e1] at h1 ⊢
 rw [e2] at h2 ⊢
 rw [e3] at h3 ⊢
 rw [e4] at h4 ⊢
 exact stillS_yes w 0 m.mark a1 a2 a3 a4 n (n + 1) (n + 2) (n + 64) c1 c2 c3 c4 h1 h2 h3 h4 (by omega) (by omega) (by omega) (by omega) (by omega)
theorem zp8 {w : World} {m : MB} (h : MarkF w 5 (mkB m.mark) m) : Calls Tryz.prog 52 #[m.agg] w (zcz w) := by
 obtain ⟨n, hn, h1, h2, h3, h4⟩ := h.each
 have hf := h.few
 obtain ⟨a1, c1, e1⟩ := zac h1
 obtain ⟨a2, c2, e2⟩ := zac h2
 obtain ⟨a3, c3, e3⟩ := zac h3
 obtain ⟨a4, c4, e4⟩ := zac h4
 unfold MB.agg
 rw [e1] at h1 ⊢
 rw [e2] at h2 ⊢
 rw [e3] at h3 ⊢
 rw [e4] at h4 ⊢
 exact stillB_yes w 0 m.mark a1 a2 a3 a4 n (n + 1) (n + 2) (n + 64) c1 c2 c3 c4 h1 h2 h3 h4 (by omega) (by omega) (by omega) (by omega) (by omega)
theorem markT_still {w : World} {m : MB} (h : MarkF w 9 (mkT m.mark) m) : Calls Tryz.prog 53 #[m.agg] w (zcz w) := by
 obtain ⟨n, hn, h1, h2, h3, h4⟩ := h.each
 have hf := h.few
 obtain ⟨a1, c1, e1⟩ := zac h1
 obtain ⟨a2, c2, e2⟩ := zac h2
 obtain ⟨a3, c3, e3⟩ := zac h3
 obtain ⟨a4, c4, e4⟩ := zac h4
 unfold MB.agg
 rw [e1] at h1 ⊢
 rw [e2] at h2 ⊢
 rw [e3] at h3 ⊢
 rw [e4] at h4 ⊢
 exact stillT_yes w 0 m.mark a1 a2 a3 a4 n (n + 1) (n + 2) (n + 64) c1 c2 c3 c4 h1 h2 h3 h4 (by omega) (by omega) (by omega) (by omega) (by omega)
theorem looks_ok : LooksOk := fun w b psv bv tv sv _ mb mt ms h l1 l2 l3 =>
 looks_any w b psv bv tv sv mb mt ms mkB mkT zjk h.blk h.bs h.ts h.ss (by omega) (by omega) (by omega) (fun _ _ _ hm => zp8 hm) (fun _ _ _ hm => markT_still hm) (fun _ _ _ hm => zqh hm)
theorem step_load (w0 : World) (o : OpV) (h : OpOk o) (hk : o.kd = 1) : zoz w0 o := by
 intro w b psv bv tv sv es mb mt ms _ hL l1 l2 l3 l4
 obtain ⟨kd, a, bb, s, t, u, at_, nt, ct⟩ := o
 cases hk
 exact (stp_load w b psv bv tv sv es mb mt ms a bb s t u at_ nt ct hL h.s (by omega)).mono fun e w' h => h.stp
end
section
open Go.RowKit Go.Maps
set_option maxRecDepth 100000 in
theorem stp_askQ (w : World) (b : Nat) (psv bv tv sv : Value) (es : List PE) (mb mt ms : List MB) (kd a bb : Int) (s t u : ByteArray) (at_ : Option Addr) (nt ct : Nat) (h : LW w b psv bv tv sv es mb mt ms) (hl : es.length ≤ 1000000000000) (ha : -9223372036854775808 ≤ a ∧ a ≤ 9223372036854775807) (hk : kd = 4 ∨ kd = 5 ∨ kd = 7)
  (hask : ∀ (w' : World) (p : PE) (lo : Nat), LW w' b psv bv tv sv es mb mt ms → EntF p.s p.x p.y w' lo → Calls Tryz.prog 50 #[.pointer (some ⟨b, 0, none⟩), .agg #[.int .i64 kd, .int .i64 a, .int .i64 bb, .string s, .string t, .string u, .slice at_ nt ct], .agg #[.pointer (some ⟨p.x, 0, none⟩), .pointer (some ⟨p.y, 0, none⟩), .string p.s]] w' (AskPost w' b psv bv tv sv es mb mt ms)) :
  Calls Tryz.prog 32 #[.pointer (some ⟨b, 0, none⟩), .agg #[.int .i64 kd, .int .i64 a, .int .i64 bb, .string s, .string t, .string u, .slice at_ nt ct]] w (zna w b psv bv tv sv es mb mt ms) := by
 have b0 := (Below.refl w.heap.size w).alloc (Nat.le_refl _) (.cells #[.int .i64 kd, .int .i64 a, .int .i64 bb, .string s, .string t, .string u, .slice at_ nt ct] 26)
 have h0 := h.below b0
 have hbx : (w.alloc (.cells #[.int .i64 kd, .int .i64 a, .int .i64 bb, .string s, .string t, .string u, .slice at_ nt ct] 26)).heap[w.heap.size]? = _ := heap_alloc_new w _
 obtain ⟨ap, cp, rfl⟩ := zac h0.row
 have hblk := h0.blk
 obtain ⟨p0, pf0⟩ := zab hblk 0
 have HA := hide hask
 have K0 := hide ((Kept.refl (chg b (.slice ap es.length cp) bv tv sv) w).alloc (.cells #[.int .i64 kd, .int .i64 a, .int .i64 bb, .string s, .string t, .string u, .slice at_ nt ct] 26))
 have H0 := hide h0
 have hwl : b < w.heap.size := h.lt
 clear hask h b0 hblk h0
 by_cases hne : es.length = 0
 ·have hz : es = [] := List.eq_nil_of_length_eq_zero hne
  subst hz
  rcases hk with rfl | rfl | rfl
  all_goals
   go_enter Tryz.func32, Tryz.ntmps32
   go_wp2_with fail
   go_ret
   exact ⟨rfl, _, _, _, _, _, _, _, _, zaa H0, by omega, by omega, by omega, by omega, by omega, zaa K0⟩
 ·obtain ⟨k, hkl, hpk⟩ := pick_fix a es.length (by omega) hl ha.1 ha.2
  have HPK := hide hpk
  obtain ⟨lo, hent⟩ := ((zaa H0).ent es[k] (List.getElem_mem hkl)).ent
  obtain ⟨g, cap, hv, -, hgl, hnc, hcm, hc⟩ := zc7 (f := PE.cells) (fun _ => rfl) (zaa H0).row k hkl
  injection hv with e1 e2 e3
  subst e1 e3
  have q0 := hc 0 (by simp)
  have q1 := hc 1 (by simp)
  have q2 := hc 2 (by simp)
  simp only [PE.cells, Nat.add_zero, List.getElem?_cons_zero, List.getElem?_cons_succ] at q0 q1 q2
  have HE := hide hent
  have hli : (0 : Int) < (es.length : Int) := by omega
  clear hc hpk hent
  generalize es[k] = p at *
  obtain ⟨x0, xf0⟩ := zab hbx 0
  obtain ⟨x1, xf1⟩ := zab hbx 1
  obtain ⟨x2, xf2⟩ := zab hbx 2
  obtain ⟨x3, xf3⟩ := zab hbx 3
  obtain ⟨x4, xf4⟩ := zab hbx 4
  obtain ⟨x5, xf5⟩ := zab hbx 5
  obtain ⟨x6, xf6⟩ := zab hbx 6
  clear hbx xf0 xf1 xf2 xf3 xf4 xf5 xf6 hgl
  rcases hk with rfl | rfl | rfl
  all_goals
   go_enter Tryz.func32, Tryz.ntmps32
   go_wp2_with fail
   refine ze2 16 mixedP (by kernel_rfl) fun W hW => ?_
   simp only [List.take_succ_cons, List.take_zero, List.drop_succ_cons, List.drop_zero]
   have P0 : W.cell? ⟨b, 0, none⟩ = some (.slice (some ⟨g, 0, none⟩) es.length cp) := by rw [hW]; exact p0
   have X0 := (congrArg (fun W : World => W.cell? ⟨w.heap.size, 0, none⟩) hW).trans x0
   simp only [List.getElem?_toArray, List.getElem?_cons_zero] at X0
   have X1 : W.cell? ⟨w.heap.size, 1, none⟩ = some (.int .i64 a) := by rw [hW]; exact x1
   have X2 : W.cell? ⟨w.heap.size, 2, none⟩ = some (.int .i64 bb) := by rw [hW]; exact x2
   have X3 : W.cell? ⟨w.heap.size, 3, none⟩ = some (.string s) := by rw [hW]; exact x3
   have X4 : W.cell? ⟨w.heap.size, 4, none⟩ = some (.string t) := by rw [hW]; exact x4
   have X5 : W.cell? ⟨w.heap.size, 5, none⟩ = some (.string u) := by rw [hW]; exact x5
   have X6 : W.cell? ⟨w.heap.size, 6, none⟩ = some (.slice at_ nt ct) := by rw [hW]; exact x6
   have Q0 : W.cell? ⟨g, k * 3, none⟩ = some (.pointer (some ⟨p.x, 0, none⟩)) := by rw [hW]; exact q0
   have Q1 : W.cell? ⟨g, k * 3 + 1, none⟩ = some (.pointer (some ⟨p.y, 0, none⟩)) := by rw [hW]; exact q1
   have Q2 : W.cell? ⟨g, k * 3 + 2, none⟩ = some (.string p.s) := by rw [hW]; exact q2
   have HLW : Hid (LW W b (.slice (some ⟨g, 0, none⟩) es.length cp) bv tv sv es mb mt ms) := by rw [hW]; exact (zaa H0).below ((Below.refl _ _).drew)
   have HEW : Hid (EntF p.s p.x p.y W lo) := by rw [hW]; exact (zaa HE).below ((Below.refl _ _).drew)
   have HKW : Hid (Kept (chg b (.slice (some ⟨g, 0, none⟩) es.length cp) bv tv sv) w W) := by rw [hW]; exact (zaa K0).drew
   clear hW x0 x1 x2 x3 x4 x5 x6 q0 q1 q2 p0 pf0 H0 HE K0
   repeat still_step
   still_call (zaa HPK _)
   repeat still_step
   refine wpStill_nil ?_
   clear Q0 Q1 Q2 X0 X1 X2 X3 X4 X5 X6 P0
   go_wp2_with fail
   refine (zaa HA W p lo (zaa HLW) (zaa HEW)).mono ?_
   rintro e w1 ⟨rfl, bv', tv', sv', mb', mt', ms', hL', l1, l2, l3, hK'⟩
   have HL1 := hide hL'
   have HK1 := hide ((zaa HKW).trans hK')
   clear hL' hK'
   go_wp2_with fail
   go_ret
   exact ⟨rfl, _, bv', tv', sv', es, mb', mt', ms', zaa HL1, Nat.le_refl _, by omega, l1, l2, l3, zaa HK1⟩
end
section
theorem skip_all (p : Int → Bool) (s : ByteArray) (i : Nat) : ∀ j, i ≤ j → j < skip p s i → ∃ h : j < s.size, p s[j].toNat = true := by
 fun_induction skip p s i with
 | case1 i h hp ih =>
  intro j hj hlt
  rcases Nat.eq_or_lt_of_le hj with rfl | hj
  ·exact ⟨h, hp⟩
  ·exact ih j hj hlt
 | case2 i h hp => intro j hj hlt; omega
 | case3 i h => intro j hj hlt; omega
structure WordT (x : ByteArray) : Prop where
 ne : 0 < x.size
 le : x.size ≤ 8
 no : ∀ c ∈ x.data.toList, c ≠ 40 ∧ c ≠ 41 ∧ c ≠ 44
theorem zm2 {s : ByteArray} {a b : Nat} (hb : b ≤ s.size) {c : UInt8} (h : c ∈ (s.extract a b).data.toList) : ∃ (j : Nat) (hj : j < s.size), a ≤ j ∧ j < b ∧ s[j] = c := by
 rw [Array.mem_toList_iff, Array.mem_iff_getElem] at h
 obtain ⟨i, hi, rfl⟩ := h
 have hsz : (s.extract a b).size = b - a := by rw [ByteArray.size_extract]; omega
 have hi' : i < (s.extract a b).size := hi
 refine ⟨a + i, by omega, by omega, by omega, ?_⟩
 have := ByteArray.getElem_extract hi'
 rw [← this]
 rfl
theorem word_of {p : Int → Bool} {s : ByteArray} {k : Nat} (hp : ∀ c : UInt8, p c.toNat = true → c ≠ 40 ∧ c ≠ 41 ∧ c ≠ 44) (hk : k ≤ s.size) (h : k < skip p s k) (h8 : skip p s k - k ≤ 8) : WordT (s.extract k (skip p s k)) := by
 have hle := ze3 p s k hk
 refine ⟨?_, ?_, fun c hc => ?_⟩
 ·rw [ByteArray.size_extract]; omega
 ·rw [ByteArray.size_extract]; omega
 ·obtain ⟨j, hj, h1, h2, rfl⟩ := zm2 hle hc
  obtain ⟨_, h3⟩ := skip_all p s k j h1 h2
  exact hp _ h3
theorem low_ok (c : UInt8) (h : lowB c.toNat = true) : c ≠ 40 ∧ c ≠ 41 ∧ c ≠ 44 := by
 refine ⟨?_, ?_, ?_⟩ <;> (rintro rfl; revert h; decide)
theorem high_ok (c : UInt8) (h : zax c.toNat = true) : c ≠ 40 ∧ c ≠ 41 ∧ c ≠ 44 := by
 refine ⟨?_, ?_, ?_⟩ <;> (rintro rfl; revert h; decide)
theorem tok_word {s : ByteArray} {p : Nat} (h : (tok s p).kind = 110 ∨ (tok s p).kind = 118) : WordT (tok s p).text := by
 revert h
 unfold tok
 generalize skip zaj s p = k
 unfold zhv
 intro h
 by_cases c0 : s.size ≤ k
 ·rw [if_pos c0] at h; rcases h with h | h <;> cases h
 rw [if_neg c0] at h ⊢
 by_cases c1 : k < skip lowB s k
 ·rw [if_pos c1] at h ⊢
  by_cases c2 : (s.extract k (skip lowB s k)).toList = [110, 111, 116]
  ·rw [if_pos c2] at h; rcases h with h | h <;> cases h
  rw [if_neg c2] at h ⊢
  by_cases c3 : skip lowB s k - k ≤ 8
  ·rw [if_pos c3]; exact word_of low_ok (by omega) c1 c3
  ·rw [if_neg c3] at h; rcases h with h | h <;> cases h
 rw [if_neg c1] at h ⊢
 by_cases c4 : k < skip zax s k
 ·rw [if_pos c4] at h ⊢
  by_cases c3 : skip zax s k - k ≤ 8
  ·rw [if_pos c3]; exact word_of high_ok (by omega) c4 c3
  ·rw [if_neg c3] at h; rcases h with h | h <;> cases h
 rw [if_neg c4] at h ⊢
 by_cases c5 : zbf s k = 0
 ·rw [if_pos c5] at h; rcases h with h | h <;> cases h
 rw [if_neg c5] at h
 by_cases c6 : zbf s k = 2
 ·rw [if_pos c6] at h; rcases h with h | h <;> cases h
 ·rw [if_neg c6] at h; rcases h with h | h <;> cases h
theorem zik {s : ByteArray} {p : Nat} (h : (zae s p).1 = 2 ∨ (zae s p).1 = 3) : WordT (zbp s p) := by
 by_cases hp : p ≤ s.size
 ·have K := zgv s p hp
  rw [K.k2, K.k3] at h
  rw [K.word h]
  exact tok_word h
 ·exfalso
  have e : skip zaj s p = p := zcl _ _ _ (by omega)
  have z : (s.extract p s.size).size = 0 := by rw [ByteArray.size_extract]; omega
  have : (zae s p).1 = 0 := by unfold zae; rw [e]; simp only; unfold zfx; rw [dif_neg (by omega)]
  omega
structure AtomW (pd : ByteArray) (ts : List (Bool × ByteArray)) : Prop where
 pd : WordT pd
 few : ts.length ≤ 4
 ts : ∀ t ∈ ts, WordT t.2
theorem pterms_word (s : ByteArray) (f : Nat) : ∀ {p : Nat} {l : List (Bool × ByteArray)} {pl : Nat → Nat}, (∀ t ∈ l, WordT t.2) → ∀ t ∈ (zat s f p l pl).2.2.1, WordT t.2 := by
 induction f with
 | zero => intro p l pl h; exact h
 | succ f ih =>
  intro p l pl h
  rw [zat]
  split
  ·rename_i hk
   have h' : ∀ t ∈ l ++ [((zae s p).1 == 3, zbp s p)], WordT t.2 := fun t ht => by
    rcases List.mem_append.1 ht with ht | ht
    ·exact h t ht
    ·rw [List.mem_singleton.1 ht]; exact zik hk
   split
   ·exact ih h'
   ·exact h'
  ·exact h
theorem zfr {s : ByteArray} {p q : Nat} {pd : ByteArray} {ts : List (Bool × ByteArray)} {pl : Nat → Nat} (h : zby s p = .yes q pd ts pl) : AtomW pd ts := by
 have h4 := (zjt h).2
 unfold zby at h
 by_cases c1 : (zae s p).1 = 2
 ·rw [if_pos c1] at h
  by_cases c2 : (zae s (zae s p).2.2).1 = 5
  ·rw [if_pos c2] at h
   by_cases c3 : (zat s 4 (zae s (zae s p).2.2).2.2 [] (fun _ => 0)).1 = true
   ·rw [if_pos c3] at h
    injection h with h1 h2 h3 h4
    subst h2 h3
    exact ⟨zik (.inl c1), h4, pterms_word s 4 (by simp)⟩
   ·rw [if_neg c3] at h; cases h
  ·rw [if_neg c2] at h
   injection h with h1 h2 h3 h4
   subst h2 h3
   exact ⟨zik (.inl c1), h4, by simp⟩
 ·rw [if_neg c1] at h; cases h
def RuleW (R : PRule) : Prop := AtomW R.pd R.ts ∧ ∀ l ∈ R.body, AtomW l.pd l.ts
theorem pbody_word (s : ByteArray) (num : Nat) (f : Nat) : ∀ {p : Nat} {l : List PLit} {ms : List PMen}, (∀ x ∈ l, AtomW x.pd x.ts) → ∀ x ∈ (zck s num f p l ms).2.2.1, AtomW x.pd x.ts := by
 induction f with
 | zero => intro p l ms hl; exact hl
 | succ f ih =>
  intro p l ms hl
  rw [zck]
  cases hr : zby s (za2 s p 4) with
  | no q => exact hl
  | yes q pd ts pl =>
   have hl' : ∀ x ∈ l ++ [ze8 s p pd ts], AtomW x.pd x.ts := fun x hx => by
    rcases List.mem_append.1 hx with hx | hx
    ·exact hl x hx
    ·simp at hx; subst hx; exact zfr hr
   simp only
   split
   ·exact ih (p := (zae s q).2.2) hl'
   ·exact hl'
theorem prule_word (s : ByteArray) (num p : Nat) (ms : List PMen) (h : (zb2 s num p ms).1 = true) : RuleW (zb2 s num p ms).2.2.1 := by
 unfold zb2 at h ⊢
 cases hr : zby s p with
 | no q => rw [hr] at h; cases h
 | yes q pd ts pl =>
  rw [hr] at h
  simp only at h ⊢
  split
  ·exact ⟨zfr hr, by simp⟩
  ·split
   ·exact ⟨zfr hr, pbody_word s num 3 (p := (zae s q).2.2) (l := []) (by simp)⟩
   ·exact ⟨zfr hr, by simp⟩
theorem prules_word (s : ByteArray) (f : Nat) : ∀ {p : Nat} {rs : List PRule} {ms : List PMen}, (∀ R ∈ rs, RuleW R) → ∀ R ∈ (zcy s f p rs ms).2.2.1, RuleW R := by
 induction f with
 | zero => intro p rs ms hr; exact hr
 | succ f ih =>
  intro p rs ms hr
  rw [zcy]
  split
  ·exact hr
  ·split
   ·exact hr
   ·split
    ·rename_i hy
     refine ih (fun R hR => ?_)
     rcases List.mem_append.1 hR with hR | hR
     ·exact hr R hR
     ·simp at hR; subst hR; exact prule_word s _ _ _ hy
    ·exact hr
theorem zjd (s : ByteArray) : ∀ R ∈ (za6 s).2.2.1, RuleW R := prules_word s 31 (by simp)
end
section
open Go.RowKit
abbrev Env := List (ByteArray × ByteArray)
def zji : Env → ByteArray → ByteArray
 | [], _ => { data := #[] }
 | x :: r, n => if x.1.toList == n.toList then x.2 else zji r n
def zdu (e : Env) (t : RTerm) : ByteArray := if t.isVar then zji e t.text else t.text
theorem envAt_step {e : Env} {k : Nat} {n : ByteArray} (h : k < e.length) : zji (e.drop k) n = if e[k].1.toList == n.toList then e[k].2 else zji (e.drop (k + 1)) n := by
 rw [List.drop_eq_getElem_cons h]; rfl
def zci : Env → List RTerm → List RTerm → Option Env
 | e, t :: ts, u :: us => if (zdu e t).toList == [] then zci (e ++ [(t.text, u.text)]) ts us else if (zdu e t).toList == u.text.toList then zci e ts us else none
 | e, _, _ => some e
def zch (e : Env) (a th : RAtom) : Option Env := if a.pred.toList == th.pred.toList && a.terms.length == th.terms.length then zci e a.terms th.terms else none
def ofT (e : Env) (t : RTerm) : RTerm := ⟨zdu e t, false, 0⟩
def ofA (e : Env) (a : RAtom) : RAtom := ⟨a.pred, a.terms.map (ofT e), false, 0, 0⟩
theorem zog {e : Env} {ts us : List RTerm} {k : Nat} (h : k < ts.length) (h' : k < us.length) : zci e (ts.drop k) (us.drop k) = if (zdu e ts[k]).toList == [] then zci (e ++ [(ts[k].text, us[k].text)]) (ts.drop (k + 1)) (us.drop (k + 1)) else if (zdu e ts[k]).toList == us[k].text.toList then zci e (ts.drop (k + 1)) (us.drop (k + 1)) else none := by
 rw [List.drop_eq_getElem_cons h, List.drop_eq_getElem_cons h']; rfl
structure EnvIn (w : World) (base : Nat) (e : Env) (nv tv : Value) : Prop where
 ns : w.ownsRow base 9 1 nv e.length (e.map fun x => .string x.1)
 ts : w.ownsRow base 9 1 tv e.length (e.map fun x => .string x.2)
 nil : e = [] → nv = .slice none 0 0 ∧ tv = .slice none 0 0
theorem EnvIn.below {w w' : World} {base : Nat} {e : Env} {nv tv : Value} (h : EnvIn w base e nv tv) (k : Below w.heap.size w w') : EnvIn w' base e nv tv := ⟨zai h.ns k (fun g e => (h.ns.lt g e).2), zai h.ts k (fun g e => (h.ts.lt g e).2), h.nil⟩
theorem EnvIn.alloc {w : World} {base : Nat} {e : Env} {nv tv : Value} (h : EnvIn w base e nv tv) (o : Obj) : EnvIn (w.alloc o) base e nv tv := ⟨h.ns.alloc _, h.ts.alloc _, h.nil⟩
theorem EnvIn.shape {w : World} {base : Nat} {e : Env} {nv tv : Value} (h : EnvIn w base e nv tv) : ∃ an cn at_ ct, nv = .slice an e.length cn ∧ tv = .slice at_ e.length ct := by
 obtain ⟨an, cn, h1⟩ := zac h.ns
 obtain ⟨at_, ct, h2⟩ := zac h.ts
 exact ⟨an, cn, at_, ct, h1, h2⟩
def StrPost (s : ByteArray) (w : World) : Ending → World → Prop := fun e w' => e = .returned (.string s) ∧ Below w.heap.size w w'
set_option maxRecDepth 100000 in
theorem zlx (w : World) (base : Nat) (E : Env) (an at' : Option Addr) (cn ct : Nat) (h : EnvIn w base E (.slice an E.length cn) (.slice at' E.length ct)) (text : ByteArray) (v : Bool) (at_ : Nat) :
  Calls Tryz.prog 197 #[.agg #[.slice an E.length cn, .slice at' E.length ct], .agg #[.string text, .bool v, .int .i64 at_]] w (StrPost (zdu E ⟨text, v, at_⟩) w) := by
 have hmx := zbt h.ns
 unfold maxLen at hmx
 have b0 := ((Below.refl w.heap.size w).alloc (Nat.le_refl _) (.cells #[.slice an E.length cn, .slice at' E.length ct] 258)).alloc (by simp) (.cells #[.string text, .bool v, .int .i64 at_] 317)
 have x0 : ((w.alloc (.cells #[.slice an E.length cn, .slice at' E.length ct] 258)).alloc (.cells #[.string text, .bool v, .int .i64 at_] 317)).heap[w.heap.size]? = some (.cells #[.slice an E.length cn, .slice at' E.length ct] 258 (0, 0)) := by
  rw [Below.heap_alloc _ _ _ (by simp)]
  exact heap_alloc_new w _
 have x1 : ((w.alloc (.cells #[.slice an E.length cn, .slice at' E.length ct] 258)).alloc (.cells #[.string text, .bool v, .int .i64 at_] 317)).heap[w.heap.size + 1]? = some (.cells #[.string text, .bool v, .int .i64 at_] 317 (0, 0)) := by
  have := heap_alloc_new (w.alloc (.cells #[.slice an E.length cn, .slice at' E.length ct] 258)) (.cells #[.string text, .bool v, .int .i64 at_] 317)
  rw [World.size_alloc] at this
  exact this
 have h0 := (h.alloc (.cells #[.slice an E.length cn, .slice at' E.length ct] 258)).alloc (.cells #[.string text, .bool v, .int .i64 at_] 317)
 cases v with
 | false =>
  clear h0 h x0 x1
  go_enter Tryz.func197, Tryz.ntmps197
  go_wp2_with fail
  go_ret
  exact ⟨rfl, b0⟩
 | true =>
  have HF := hide (show zdu E ⟨text, true, at_⟩ = zji E text from rfl)
  have HX0 := hide x0
  have HX1 := hide x1
  have H0 := hide h0
  have HB0 := hide b0
  clear h x0 x1 h0 b0
  go_enter Tryz.func197, Tryz.ntmps197
  go_wp2_with fail
  go_loopg [5] E.length (fun gg i wr => ∃ k : Nat, k ≤ E.length ∧ gg = E.length - k ∧ i = .int .i64 k ∧ zji (E.drop k) text = zji E text ∧ Below w.heap.size w wr ∧ wr.heap[w.heap.size]? = some (.cells #[.slice an E.length cn, .slice at' E.length ct] 258 (0, 0)) ∧ wr.heap[w.heap.size + 1]? = some (.cells #[.string text, .bool true, .int .i64 at_] 317 (0, 0)) ∧ EnvIn wr base E (.slice an E.length cn) (.slice at' E.length ct))
  case atStart => exact ⟨0, Nat.zero_le _, rfl, rfl, rfl, zaa HB0, zaa HX0, zaa HX1, zaa H0⟩
  case round =>
   clear HB0 HX0 HX1 H0
   obtain ⟨k, hk, hgk, rfl, hfin, hb, x0, x1, he⟩ := hrel
   obtain ⟨p0, pf0⟩ := zab x0 0
   obtain ⟨p1, pf1⟩ := zab x0 1
   obtain ⟨q0, qf0⟩ := zab x1 0
   have HFI := hide hfin
   have HX0 := hide x0
   have HX1 := hide x1
   have HB := hide hb
   have HE := hide he
   clear hfin x0 x1 hb he pf0 pf1 qf0
   by_cases hlk : k < E.length
   ·have hli : (k : Int) < E.length := by omega
    obtain ⟨g1, c1, hv1, -, hn1, hm1, hc1⟩ := zen (zaa HE).ns (by omega)
    obtain ⟨g2, c2, hv2, -, hn2, hm2, hc2⟩ := zen (zaa HE).ts (by omega)
    injection hv1 with i1 i2 i3
    subst i1 i3
    injection hv2 with i1 i2 i3
    subst i1 i3
    have d1 := hc1 k hlk
    have d2 := hc2 k hlk
    rw [List.getElem?_map, List.getElem?_eq_getElem hlk] at d1 d2
    simp only [Option.map_some] at d1 d2
    clear hc1 hc2
    have HS := hide (envAt_step (n := text) hlk)
    go_wp2_with fail
    go_quiet (fail)
    cases hq : E[k].1.toList == text.toList with
    | true =>
     go_wp2_with fail
     go_ret
     exact ⟨by rw [zaa HF, ← zaa HFI, zaa HS, if_pos hq]; rfl, below_drewN (zaa HB) _⟩
    | false =>
     go_wp2_with fail
     go_roundg (E.length - (k + 1))
     case measure => omega
     case rel => exact ⟨k + 1, by omega, rfl, by go_num, by rw [← zaa HFI, zaa HS, if_neg (by rw [hq]; decide)], below_drewN (zaa HB) _, zaa HX0, zaa HX1, (zaa HE).below (below_drewN (Below.refl _ _) _)⟩
   ·go_wp2_with fail
    go_ret
    exact ⟨by rw [zaa HF, ← zaa HFI, List.drop_of_length_le (by omega)]; rfl, zaa HB⟩
end
section
open Go.RowKit
def strC (l : List ByteArray) : List Value := l.map .string
structure MIn (w : World) (A T : RAtom) (nv tv av bv : Value) (ns ts : List ByteArray) (nv' tv' : Value) (wr : World) : Prop where
 below : Below w.heap.size w wr
 b0 : wr.heap[w.heap.size]? = some (.cells #[nv, tv] 258 (0, 0))
 b1 : wr.heap[w.heap.size + 1]? = some (.cells #[.string A.pred, av, .bool A.no, .int .i64 A.at_, .int .i64 A.noAt] 243 (0, 0))
 b2 : wr.heap[w.heap.size + 1 + 1]? = some (.cells #[.string T.pred, bv, .bool T.no, .int .i64 T.at_, .int .i64 T.noAt] 243 (0, 0))
 b3 : wr.heap[w.heap.size + 1 + 1 + 1]? = some (.cells #[.slice none 0 0, .slice none 0 0] 258 (0, 0))
 b4 : wr.heap[w.heap.size + 1 + 1 + 1 + 1]? = some (.cells #[nv', tv'] 258 (0, 0))
 rn : wr.ownsRow (w.heap.size + 5) 9 1 nv' ns.length (strC ns)
 rt : wr.ownsRow (w.heap.size + 5) 9 1 tv' ts.length (strC ts)
 ne : ∀ g, nv'.ownBlock = some g → tv'.ownBlock ≠ some g
 nn : ns = [] → nv' = .slice none 0 0
 tn : ts = [] → tv' = .slice none 0 0
theorem MIn.lt {w : World} {A T : RAtom} {nv tv av bv nv' tv' : Value} {ns ts : List ByteArray} {wr : World} (h : MIn w A T nv tv av bv ns ts nv' tv' wr) : w.heap.size + 5 ≤ wr.heap.size := (Array.getElem?_eq_some_iff.1 h.b4).1
theorem MIn.past {w : World} {A T : RAtom} {nv tv av bv nv' tv' : Value} {ns ts : List ByteArray} {wr w' : World} (h : MIn w A T nv tv av bv ns ts nv' tv' wr) (k : Below wr.heap.size wr w') : MIn w A T nv tv av bv ns ts nv' tv' w' := by
 have hl := h.lt
 exact ⟨h.below.trans (k.mono (by omega)), (k.block _ (by omega)).trans h.b0, (k.block _ (by omega)).trans h.b1, (k.block _ (by omega)).trans h.b2, (k.block _ (by omega)).trans h.b3, (k.block _ (by omega)).trans h.b4, zai h.rn k (fun g e => (h.rn.lt g e).2), zai h.rt k (fun g e => (h.rt.lt g e).2), h.ne, h.nn, h.tn⟩
theorem MIn.start (w : World) (A T : RAtom) (nv tv av bv : Value) : MIn w A T nv tv av bv [] [] (.slice none 0 0) (.slice none 0 0)
  (((((w.alloc (.cells #[nv, tv] 258)).alloc (.cells #[.string A.pred, av, .bool A.no, .int .i64 A.at_, .int .i64 A.noAt] 243)).alloc (.cells #[.string T.pred, bv, .bool T.no, .int .i64 T.at_, .int .i64 T.noAt] 243)).alloc (.cells #[.slice none 0 0, .slice none 0 0] 258)).alloc (.cells #[.slice none 0 0, .slice none 0 0] 258)) := by
 refine ⟨((((((Below.refl _ w).alloc (Nat.le_refl _) _).alloc (by simp) _).alloc (by simp; omega) _).alloc (by simp; omega) _).alloc (by simp; omega) _), ?_, ?_, ?_, ?_, ?_, World.ownsRow_nil _ _ _ _, World.ownsRow_nil _ _ _ _, (fun g e => by cases e), (fun _ => rfl), (fun _ => rfl)⟩
 ·rw [Below.heap_alloc _ _ _ (by simp <;> omega), Below.heap_alloc _ _ _ (by simp <;> omega), Below.heap_alloc _ _ _ (by simp <;> omega), Below.heap_alloc _ _ _ (by simp)]
  exact heap_alloc_new w _
 ·rw [Below.heap_alloc _ _ _ (by simp <;> omega), Below.heap_alloc _ _ _ (by simp <;> omega), Below.heap_alloc _ _ _ (by simp)]
  have := heap_alloc_new (w.alloc (.cells #[nv, tv] 258)) (.cells #[.string A.pred, av, .bool A.no, .int .i64 A.at_, .int .i64 A.noAt] 243)
  simpa using this
 ·rw [Below.heap_alloc _ _ _ (by simp <;> omega), Below.heap_alloc _ _ _ (by simp)]
  have := heap_alloc_new ((w.alloc (.cells #[nv, tv] 258)).alloc (.cells #[.string A.pred, av, .bool A.no, .int .i64 A.at_, .int .i64 A.noAt] 243)) (.cells #[.string T.pred, bv, .bool T.no, .int .i64 T.at_, .int .i64 T.noAt] 243)
  simpa using this
 ·rw [Below.heap_alloc _ _ _ (by simp)]
  have := heap_alloc_new (((w.alloc (.cells #[nv, tv] 258)).alloc (.cells #[.string A.pred, av, .bool A.no, .int .i64 A.at_, .int .i64 A.noAt] 243)).alloc (.cells #[.string T.pred, bv, .bool T.no, .int .i64 T.at_, .int .i64 T.noAt] 243)) (.cells #[.slice none 0 0, .slice none 0 0] 258)
  simpa using this
 ·have := heap_alloc_new ((((w.alloc (.cells #[nv, tv] 258)).alloc (.cells #[.string A.pred, av, .bool A.no, .int .i64 A.at_, .int .i64 A.noAt] 243)).alloc (.cells #[.string T.pred, bv, .bool T.no, .int .i64 T.at_, .int .i64 T.noAt] 243)).alloc (.cells #[.slice none 0 0, .slice none 0 0] 258)) (.cells #[.slice none 0 0, .slice none 0 0] 258)
  simpa using this
theorem zkn (a b : List ByteArray) : strC (a ++ b) = strC a ++ strC b := List.map_append
theorem MIn.addN {w : World} {A T : RAtom} {nv tv av bv nv' tv' : Value} {ns ts : List ByteArray} {wr W w5 : World} (h : MIn w A T nv tv av bv ns ts nv' tv' wr) (hW : Kept [] wr W) (hg : W.grownBy w5 nv'.ownBlock) {g cap m : Nat} {news : List ByteArray} (hm : news.length = m) (hm0 : 0 < m)
  (hown : w5.ownsRow (w.heap.size + 5) 9 1 (.slice (some ⟨g, 0, none⟩) (ns.length + m) cap) (ns.length + m) (strC ns ++ strC news)) (hat : nv'.ownBlock = some g ∨ g = W.heap.size) :
  MIn w A T nv tv av bv (ns ++ news) ts (.slice (some ⟨g, 0, none⟩) (ns.length + m) cap) tv' (w5.setCell ⟨w.heap.size + 1 + 1 + 1 + 1, 0, none⟩ (.slice (some ⟨g, 0, none⟩) (ns.length + m) cap)) ∧ w5.heap[w.heap.size + 1 + 1 + 1 + 1]? = some (.cells #[nv', tv'] 258 (0, 0)) := by
 have hl := h.lt
 have hz := hW.size
 have k5 : Kept nv'.ownBlock.toList wr w5 := (hW.mono (by simp)).trans (Kept.of_grown hg)
 have far : ∀ b, b < w.heap.size + 5 → b ∉ nv'.ownBlock.toList := fun b hb hm => by have := (h.rn.lt b (by simpa using hm)).1; omega
 have blk : ∀ b, b < w.heap.size + 5 → w5.heap[b]? = wr.heap[b]? := fun b hb => k5.block b (by omega) (far b hb)
 have kS : ∀ b, b ≠ w.heap.size + 1 + 1 + 1 + 1 → (w5.setCell ⟨w.heap.size + 1 + 1 + 1 + 1, 0, none⟩ (.slice (some ⟨g, 0, none⟩) (ns.length + m) cap)).heap[b]? = w5.heap[b]? := fun b hb => Below.heap_setCell _ _ _ _ (by simpa using hb)
 have b45 := (blk (w.heap.size + 1 + 1 + 1 + 1) (by omega)).trans h.b4
 have s5 := k5.size
 have hnn : news ≠ [] := fun e => by rw [e] at hm; simp at hm; omega
 refine ⟨⟨?_, ?_, ?_, ?_, ?_, ?_, ?_, ?_, ?_, fun e => absurd (List.append_eq_nil_iff.1 e).2 hnn, h.tn⟩, b45⟩
 ·refine ⟨k5.os.trans h.below.os, k5.tape.trans h.below.tape, k5.output.trans h.below.output, by simp; omega, fun b hb => ?_⟩
  rw [kS b (by omega), blk b (by omega)]
  exact h.below.block b hb
 ·rw [kS _ (by omega), blk _ (by omega)]; exact h.b0
 ·rw [kS _ (by omega), blk _ (by omega)]; exact h.b1
 ·rw [kS _ (by omega), blk _ (by omega)]; exact h.b2
 ·rw [kS _ (by omega), blk _ (by omega)]; exact h.b3
 ·rw [heap_setCell_same _ _ _ _ _ _ b45]; rfl
 ·rw [zkn, List.length_append, hm]
  exact ownsRow_setCell_below hown (by simp) _
 ·have h1 : w5.ownsRow (w.heap.size + 5) 9 1 tv' ts.length (strC ts) := zbb h.rt (fun b hb => k5.block b (h.rt.lt b hb).2 (fun hm => h.ne b (by simpa using hm) hb))
  exact ownsRow_setCell_below h1 (by simp) _
 ·intro g' e
  have e' : g = g' := by simpa [Value.ownBlock] using e
  subst e'
  rcases hat with h1 | h1
  ·exact h.ne g h1
  ·intro h2; have := (h.rt.lt g h2).2; omega
theorem MIn.addT {w : World} {A T : RAtom} {nv tv av bv nv' tv' : Value} {ns ts : List ByteArray} {wr W w5 : World} (h : MIn w A T nv tv av bv ns ts nv' tv' wr) (hW : Kept [] wr W) (hg : W.grownBy w5 tv'.ownBlock) {g cap m : Nat} {news : List ByteArray} (hm : news.length = m) (hm0 : 0 < m)
  (hown : w5.ownsRow (w.heap.size + 5) 9 1 (.slice (some ⟨g, 0, none⟩) (ts.length + m) cap) (ts.length + m) (strC ts ++ strC news)) (hat : tv'.ownBlock = some g ∨ g = W.heap.size) :
  MIn w A T nv tv av bv ns (ts ++ news) nv' (.slice (some ⟨g, 0, none⟩) (ts.length + m) cap) (w5.setCell ⟨w.heap.size + 1 + 1 + 1 + 1, 1, none⟩ (.slice (some ⟨g, 0, none⟩) (ts.length + m) cap)) ∧ w5.heap[w.heap.size + 1 + 1 + 1 + 1]? = some (.cells #[nv', tv'] 258 (0, 0)) := by
 have hl := h.lt
 have hz := hW.size
 have k5 : Kept tv'.ownBlock.toList wr w5 := (hW.mono (by simp)).trans (Kept.of_grown hg)
 have far : ∀ b, b < w.heap.size + 5 → b ∉ tv'.ownBlock.toList := fun b hb hm => by have := (h.rt.lt b (by simpa using hm)).1; omega
 have blk : ∀ b, b < w.heap.size + 5 → w5.heap[b]? = wr.heap[b]? := fun b hb => k5.block b (by omega) (far b hb)
 have kS : ∀ b, b ≠ w.heap.size + 1 + 1 + 1 + 1 → (w5.setCell ⟨w.heap.size + 1 + 1 + 1 + 1, 1, none⟩ (.slice (some ⟨g, 0, none⟩) (ts.length + m) cap)).heap[b]? = w5.heap[b]? := fun b hb => Below.heap_setCell _ _ _ _ (by simpa using hb)
 have b45 := (blk (w.heap.size + 1 + 1 + 1 + 1) (by omega)).trans h.b4
 have s5 := k5.size
 have hnn : news ≠ [] := fun e => by rw [e] at hm; simp at hm; omega
 refine ⟨⟨?_, ?_, ?_, ?_, ?_, ?_, ?_, ?_, ?_, h.nn, fun e => absurd (List.append_eq_nil_iff.1 e).2 hnn⟩, b45⟩
 ·refine ⟨k5.os.trans h.below.os, k5.tape.trans h.below.tape, k5.output.trans h.below.output, by simp; omega, fun b hb => ?_⟩
  rw [kS b (by omega), blk b (by omega)]
  exact h.below.block b hb
 ·rw [kS _ (by omega), blk _ (by omega)]; exact h.b0
 ·rw [kS _ (by omega), blk _ (by omega)]; exact h.b1
 ·rw [kS _ (by omega), blk _ (by omega)]; exact h.b2
 ·rw [kS _ (by omega), blk _ (by omega)]; exact h.b3
 ·rw [heap_setCell_same _ _ _ _ _ _ b45]; rfl
 ·have h1 : w5.ownsRow (w.heap.size + 5) 9 1 nv' ns.length (strC ns) := zbb h.rn (fun b hb => k5.block b (h.rn.lt b hb).2 (fun hm => h.ne b hb (by simpa using hm)))
  exact ownsRow_setCell_below h1 (by simp) _
 ·rw [zkn, List.length_append, hm]
  exact ownsRow_setCell_below hown (by simp) _
 ·intro g' e e2
  have e' : g = g' := by simpa [Value.ownBlock] using e2
  subst e'
  rcases hat with h1 | h1
  ·exact h.ne g e h1
  ·have := (h.rn.lt g e).2; omega
theorem MIn.same {w : World} {A T : RAtom} {nv tv av bv nv' tv' : Value} {ns ts : List ByteArray} {wr : World} (h : MIn w A T nv tv av bv ns ts nv' tv' wr) {j : Nat} {v : Value} (hv : (#[nv', tv'] : Array Value).setIfInBounds j v = #[nv', tv']) : MIn w A T nv tv av bv ns ts nv' tv' (wr.setCell ⟨w.heap.size + 1 + 1 + 1 + 1, j, none⟩ v) := by
 have hl := h.lt
 have kS : ∀ b, b ≠ w.heap.size + 1 + 1 + 1 + 1 → (wr.setCell ⟨w.heap.size + 1 + 1 + 1 + 1, j, none⟩ v).heap[b]? = wr.heap[b]? := fun b hb => Below.heap_setCell _ _ _ _ (by simpa using hb)
 refine ⟨h.below.setCell (by simp; omega) _, ?_, ?_, ?_, ?_, ?_, ?_, ?_, h.ne, h.nn, h.tn⟩
 ·rw [kS _ (by omega)]; exact h.b0
 ·rw [kS _ (by omega)]; exact h.b1
 ·rw [kS _ (by omega)]; exact h.b2
 ·rw [kS _ (by omega)]; exact h.b3
 ·rw [heap_setCell_same _ _ _ _ _ _ h.b4, hv]
 ·exact ownsRow_setCell_below h.rn (by simp) _
 ·exact ownsRow_setCell_below h.rt (by simp) _
theorem MIn.fin {w : World} {A T : RAtom} {nv tv av bv nv' tv' : Value} {ns ts : List ByteArray} {wr : World} (h : MIn w A T nv tv av bv ns ts nv' tv' wr) (u v : Value) : Below w.heap.size w ((wr.setCell ⟨w.heap.size + 1 + 1 + 1, 0, none⟩ u).setCell ⟨w.heap.size + 1 + 1 + 1, 1, none⟩ v) ∧ ((wr.setCell ⟨w.heap.size + 1 + 1 + 1, 0, none⟩ u).setCell ⟨w.heap.size + 1 + 1 + 1, 1, none⟩ v).ownsRow w.heap.size 9 1 nv' ns.length (strC ns) ∧ ((wr.setCell ⟨w.heap.size + 1 + 1 + 1, 0, none⟩ u).setCell ⟨w.heap.size + 1 + 1 + 1, 1, none⟩ v).ownsRow w.heap.size 9 1 tv' ts.length (strC ts) :=
 ⟨(h.below.setCell (by simp; omega) _).setCell (by simp; omega) _, zaf (ownsRow_setCell_below (ownsRow_setCell_below h.rn (by simp) _) (by simp) _) (by omega), zaf (ownsRow_setCell_below (ownsRow_setCell_below h.rt (by simp) _) (by simp) _) (by omega)⟩
theorem strC_one {l : List ByteArray} : ∀ u ∈ strC l, u.oneCell' = true := by
 intro u hu
 obtain ⟨x, _, rfl⟩ := List.mem_map.1 hu
 rfl
theorem znl {w : World} {base : Nat} {e : TypeId} {g n cap : Nat} {xs : List Value} (h : w.ownsRow base e 1 (.slice (some ⟨g, 0, none⟩) n cap) n xs) : ∀ j u, xs[j]? = some u → w.cell? ((⟨g, 0, none⟩ : Addr).add j) = some u := by
 intro j u hj
 have hl : xs.length = n * 1 := h.1
 have hlt : j < xs.length := (List.getElem?_eq_some_iff.1 hj).1
 obtain ⟨g', c', hv, _, _, _, hc⟩ := zen h (by omega)
 injection hv with i1 i2 i3
 injection i1 with i1
 injection i1 with i1
 subst i1
 have := hc j (by omega)
 unfold Addr.add
 split <;> simp_all
end
end Go.Proofs.YtldkpahaocjdpaaGreat
