/-
  from: the positive literals are matched one after another.
  waysFrom's function: the search begins.
-/
import Derived.Test.YtldkpahaocjdpaaGreatQueriesT38
import Derived.Test.YtldkpahaocjdpaaGreatQueriesT22
import Derived.Laws.EntriesVeiled
set_option maxHeartbeats 16000000
namespace Go.Proofs.YtldkpahaocjdpaaGreat
section
open Go.RowKit Go.Maps
attribute [local go_sem ↓] zgb ze5 zgm zh1 zgt zgo zdt zgy
attribute [local go_sem] zei zfs zf1 zfu
def Been (K : List (Th × Nat)) (neg : List PAtm) (a : PAtm) (r : List PAtm) (e : PEnv) (Lf : Th → Prop) (x : PEnv) : Prop := ∃ p ∈ K, ¬ Lf p.1 ∧ ∃ e', zc1 e a p.1 = some e' ∧ x ∈ zfj K neg r e'
theorem zkf {K : List (Th × Nat)} {neg : List PAtm} {a : PAtm} {r : List PAtm} {e x : PEnv} : x ∈ zfj K neg (a :: r) e ↔ ∃ p ∈ K, ∃ e', zc1 e a p.1 = some e' ∧ x ∈ zfj K neg r e' := by
 unfold zfj
 rw [List.mem_filter, zbo, List.mem_flatMap]
 constructor
 ·rintro ⟨⟨p, hp, hx⟩, hd⟩
  cases hm : zc1 e a p.1 with
  | none => rw [hm] at hx; cases hx
  | some e' => rw [hm] at hx; exact ⟨p, hp, e', hm, List.mem_filter.2 ⟨hx, hd⟩⟩
 ·rintro ⟨p, hp, e', hm, hx⟩
  obtain ⟨h1, h2⟩ := List.mem_filter.1 hx
  exact ⟨⟨p, hp, by rw [hm]; exact h1⟩, h2⟩
theorem zou {K : List (Th × Nat)} {a : PAtm} {r : List PAtm} {e x e' : PEnv} {p : Th × Nat} (hp : p ∈ K) (hm : zc1 e a p.1 = some e') (hx : x ∈ zbo K r e') : x ∈ zbo K (a :: r) e := by
 rw [zbo, List.mem_flatMap]
 exact ⟨p, hp, by rw [hm]; exact hx⟩
theorem Been.step {K : List (Th × Nat)} {neg : List PAtm} {a : PAtm} {r : List PAtm} {e x : PEnv} {Lf : Th → Prop} {t : Th} {n : Nat} (ht : (t, n) ∈ K) : Been K neg a r e (fun y => Lf y ∧ y ≠ t) x ↔ Been K neg a r e Lf x ∨ ∃ e', zc1 e a t = some e' ∧ x ∈ zfj K neg r e' := by
 constructor
 ·rintro ⟨p, hp, hn, hx⟩
  by_cases e1 : p.1 = t
  ·right; rw [e1] at hx; exact hx
  ·left; exact ⟨p, hp, fun h => hn ⟨h, e1⟩, hx⟩
 ·rintro (⟨p, hp, hn, hx⟩ | hx)
  ·exact ⟨p, hp, fun h => hn h.1, hx⟩
  ·exact ⟨(t, n), ht, fun h => h.2 rfl, hx⟩
structure FromIn (No : Nat → Prop) (J : List PEnv → World → Prop) (w : World) (mb rb : Nat) (K : List (Th × Nat)) (neg : List PAtm) (a : PAtm) (r : List PAtm) (e : PEnv) (pre : List PEnv) (M : Nat) (Lf : Th → Prop) (ys : List PEnv) (cnt : Nat) (wr : World) : Prop where
 rg : HRange wr mb rb K Lf cnt
 cn : cnt ≤ K.length
 mem : ∀ x, x ∈ ys ↔ Been K neg a r e Lf x
 len : ys.length ≤ (K.length - cnt) * M
 j : J (pre ++ ys) wr
 kp : Keep No w wr
 bv : BV wr w.heap.size e
theorem pmTs_len : ∀ (ts : List PTerm) (ns : List ByteArray) (e e' : PEnv), pmTs e ts ns = some e' → e'.length ≤ e.length + ts.length
 | [], _, e, e', h => by rw [pmTs] at h; cases h; simp
 | t :: ts, ns, e, e', h => by
  rw [pmTs] at h
  split at h
  ·rename_i e1 h1
   have := pmTs_len ts _ e1 e' h
   have := pmT_len h1
   rw [List.length_cons]
   omega
  ·cases h
theorem pmatch_len {e e' : PEnv} {A : PAtm} {t : Th} (h : zc1 e A t = some e') : e'.length ≤ e.length + A.ts.length := by
 unfold zc1 at h
 split at h
 ·exact pmTs_len _ _ _ _ h
 ·cases h
theorem pow_room {M g d : Nat} (h0 : 0 < g) (h : g ≤ M) : (M - g) * M ^ d + M ^ d ≤ M ^ (d + 1) := by
 have e1 : (M - g) * M ^ d + M ^ d = (M - g + 1) * M ^ d := by rw [Nat.succ_mul]
 rw [e1, Nat.pow_succ, Nat.mul_comm]
 exact Nat.mul_le_mul_left _ (by omega)
theorem step_room {M g c d : Nat} (h : c < g) (hg : g ≤ M) : (M - g) * M ^ d + M ^ d ≤ (M - c) * M ^ d := by
 have e1 : (M - g) * M ^ d + M ^ d = (M - g + 1) * M ^ d := by rw [Nat.succ_mul]
 rw [e1]
 exact Nat.mul_le_mul_right _ (by omega)
set_option maxRecDepth 100000 in
theorem from_any (No : Nat → Prop) (sb mb l : Nat) (pos neg : List (PAtm × Value)) (pv nv : Value) (K : List (Th × Nat)) (Qx : PEnv → Prop) (J Jx : List PEnv → World → Prop) (B N : Nat) (hJ : AbidesFrom B J) (hY : Rounds No l N Qx J Jx) (hNo : ∀ g, No g → g < B) : ∀ (d i : Nat) (e : PEnv) (w : World) (pre : List PEnv), i + d = pos.length → FCtx No w sb mb l pos neg pv nv K → J pre w → B ≤ w.heap.size → e.length ≤ 4 * i → (∀ e' ∈ zbo K ((pos.drop i).map (·.1)) e, ∀ x ∈ neg, ThOk (zc9 e' x.1)) → pre.length + K.length ^ d ≤ N → (∀ x ∈ zfj K (neg.map (·.1)) ((pos.drop i).map (·.1)) e, Qx x) →
  Calls Tryz.prog 234 #[.pointer (some ⟨sb, 0, none⟩), .int .i64 (i : Nat), zec e] w (FromPost No J Jx pre (zfj K (neg.map (·.1)) ((pos.drop i).map (·.1)) e) (K.length ^ d) w) := by
 intro d
 induction d with
 | zero =>
  intro i e w pre hi hC hp hB hl hok hN hq
  rw [Nat.add_zero] at hi
  subst hi
  have hd : (pos.drop pos.length).map (·.1) = ([] : List PAtm) := by rw [List.drop_length]; rfl
  rw [hd] at hok hq ⊢
  exact from_base No w sb mb l pos neg pv nv K hC e (by have := hC.p3; omega) (hok e (by simp [zbo])) Qx hq J Jx B N hJ hY pre hp (by rw [Nat.pow_zero] at hN; omega) (fun g hg => by have := hNo g hg; omega)
 | succ d ih =>
  intro i e w pre hi hC hp hB hl hok hN hq
  have HQ := hide hq
  clear hq
  have hli : i < pos.length := by omega
  obtain ⟨base, hrow⟩ := hC.p.row
  obtain ⟨an, cn, rfl⟩ := zac hrow
  have hmx := zbt hrow
  unfold maxLen at hmx
  have HIH := hide ih
  have H := hide hC
  have HP := hide hp
  have HJ := hide hJ
  have HY := hide hY
  have HNN := hide hN
  have HOK := hide hok
  have HNO := hide hNo
  have HB := hide hB
  have HI := hide hi
  have hsl := (Array.getElem?_eq_some_iff.1 hC.s).1
  have hne : (i : Int) ≠ pos.length := by omega
  clear ih hC hp hJ hY hN hok hNo hB hrow hi
  go_enter Tryz.func234, Tryz.ntmps234
  go_upto_region 1 with fail
  generalize hw0 : World.alloc w _ = w0
  have k0 : Below w.heap.size w w0 := by rw [← hw0]; exact (Below.refl w.heap.size w).alloc (Nat.le_refl _) _
  have x0 : BV w0 w.heap.size e := by rw [← hw0]; exact BV.new w e
  have s0 : w0.heap.size = w.heap.size + 1 := by rw [← hw0]; simp
  have hc0 := (zaa H).keep (Keep.of_below k0)
  clear hw0
  obtain ⟨c0, -⟩ := zab hc0.s 0
  obtain ⟨c2, -⟩ := zab hc0.s 2
  have hm0 := hc0.m
  have HX0 := hide x0
  have HK0 := hide k0
  have HP0 := hide (zdw (zaa HJ) (zaa HP) k0)
  have HS0 := hide s0
  clear hc0 x0 k0 s0
  go_wp2_with (first | (at_range; refine zkd _ rfl _ 82 rfl Tryz.underlying82 mb K rfl hm0 ?_; intro w1 hrg1 hg1 hs1) | go_in)
  try go_frame
  obtain ⟨AT, hAT⟩ : ∃ AT, AT = pos[i].1 := ⟨_, rfl⟩
  obtain ⟨RS, hRS⟩ : ∃ RS, RS = (pos.drop (i + 1)).map (·.1) := ⟨_, rfl⟩
  have hdr : (pos.drop i).map (·.1) = AT :: RS := by rw [hAT, hRS, List.drop_eq_getElem_cons hli, List.map_cons]
  have h0 : FromIn No J w mb w0.heap.size K (neg.map (·.1)) AT RS e pre (K.length ^ d) (fun _ => True) [] K.length w1 := by
   have kk : Below w0.heap.size w0 w1 := ⟨hg1.os, hg1.tape, hg1.output, hg1.size, fun j hj => hg1.block j hj (by simp)⟩
   refine ⟨hrg1, Nat.le_refl _, fun x => ⟨fun h => absurd h List.not_mem_nil, fun ⟨p, hp, hn, _⟩ => absurd trivial hn⟩, by simp, ?_, (Keep.of_below (zaa HK0)).trans (Keep.of_below kk), (zaa HX0).below kk⟩
   rw [List.append_nil]
   exact zdw (zaa HJ) (zaa HP0) kk
  have HDR := hide hdr
  have HAT := hide hAT
  have HRS := hide hRS
  clear hrg1 hg1 hs1 hm0 c0 c2 hdr hAT hRS
  go_loopg [] K.length (fun gg wr => ∃ (Lf : Th → Prop) (ys : List PEnv), FromIn No J w mb w0.heap.size K (neg.map (·.1)) AT RS e pre (K.length ^ d) Lf ys gg wr)
  case atStart => exact ⟨_, _, h0⟩
  case round =>
   clear h0
   obtain ⟨Lf, ys, hin⟩ := hrel
   have hrg := hin.rg
   have HIN := hide hin
   clear hin
   go_wp2_with (first | (at_next; refine znr _ rfl _ rfl mb w0.heap.size K Lf gk rfl hrg ?_ ?_) | go_in)
   ·intro hdone
    have HD := hide hdone
    clear hdone hrg
    go_wp2_with fail
    go_ret
    rw [zaa HDR]
    have hin := zaa HIN
    refine .inl ⟨rfl, ys, fun x => ?_, ?_, hin.j, hin.kp⟩
    ·rw [hin.mem, zkf]
     exact ⟨fun ⟨p, hp, _, h⟩ => ⟨p, hp, h⟩, fun ⟨p, hp, h⟩ => ⟨p, hp, zaa HD p.1.1 p.1.2 p.2 hp, h⟩⟩
    ·refine Nat.le_trans hin.len ?_
     rw [Nat.pow_succ, Nat.mul_comm]
     exact Nat.mul_le_mul_left _ (Nat.sub_le _ _)
   ·intro tp tts n w2 cnt2 htk hlf hrg2 hlt2 hg2 hs2 hen2
    generalize ((tp, tts) : Th) = t at *
    have hin := zaa HIN
    have hs0 := zaa HS0
    have kp2 : Keep No w w2 := hin.kp.grown hg2 (fun r e1 => .inl (by cases e1; omega))
    have bv2 : BV w2 w.heap.size e := (hg2.block _ hin.bv.lt (by simp; omega)).trans hin.bv
    have hj2 : J (pre ++ ys) w2 := zaa HJ _ _ _ _ hin.j hg2 (fun r e1 => by cases e1; exact ⟨by have := zaa HB; omega, hin.rg.iter⟩)
    have hC2 := (zaa H).keep kp2
    have HRG2 := hide hrg2
    have HKP2 := hide kp2
    have HJ2 := hide hj2
    have HC2 := hide hC2
    have HBV2 := hide bv2
    have HTK := hide htk
    have hlen := hin.len
    have HLEN := hide hlen
    have hcn := hin.cn
    have hgk := hlt2
    have HMEM := hide hin.mem
    have HLF := hide hlf
    clear hs2 hrg hrg2 hg2 kp2 bv2 hj2 hC2 htk hlen hin HIN hlf hs0
    go_upto_region 6 with fail
    generalize hw3 : World.alloc w2 _ = w3
    have k3 : Below w2.heap.size w2 w3 := by rw [← hw3]; exact (Below.refl w2.heap.size w2).alloc (Nat.le_refl _) _
    have t3 : TV w3 w2.heap.size t := by rw [← hw3]; exact TV.new w2 t
    have s3 : w3.heap.size = w2.heap.size + 1 := by rw [← hw3]; simp
    have b3 : BV w3 w.heap.size e := (zaa HBV2).below k3
    have hC3 := (zaa HC2).keep (Keep.of_below k3)
    obtain ⟨a0, -⟩ := zab hC3.s 0
    obtain ⟨base3, hrow3⟩ := hC3.p.row
    obtain ⟨g, cap, hv, hbg, hgl, hnc, hcm, hc⟩ := zc7 atom_len hrow3 i hli
    injection hv with h1 h2 h3
    subst h1 h3
    have hx : pos[i] ∈ pos := List.getElem_mem hli
    obtain ⟨tb, htm⟩ := hC3.p.terms _ hx
    obtain ⟨ta, tc, htv⟩ := zac htm
    have hfew := hC3.p.few _ hx
    rw [← zaa HAT] at hfew
    have e0 : w3.cell? ⟨g, i * 2, none⟩ = some (.string AT.p) := by have := hc 0 (by omega); rw [zaa HAT]; exact this
    have e1 : w3.cell? ⟨g, i * 2 + 1, none⟩ = some (.slice ta AT.ts.length tc) := by have := hc 1 (by omega); rw [zaa HAT, ← htv]; exact this
    have htm2 : w3.ownsRow tb 191 1 (.slice ta AT.ts.length tc) AT.ts.length (AT.ts.map zgr) := by rw [zaa HAT, ← htv]; exact htm
    have hle : e.length + AT.ts.length ≤ 12 := by have := hC3.p3; omega
    have HM := hide (fun (W : World) (hW : Below w3.heap.size w3 W) => zl5 W tb e AT ta tc t (zbb htm2 (fun g e1 => hW.block g (htm2.lt g e1).2)) hfew hle)
    have HA := hide (fun (W : World) (hW : Below w3.heap.size w3 W) => (show BV W w.heap.size e ∧ TV W w2.heap.size t ∧ W.cell? ⟨sb, 0, none⟩ = some (.slice (some ⟨g, 0, none⟩) pos.length cn) ∧ W.cell? ⟨g, i * 2, none⟩ = some (.string AT.p) ∧ W.cell? ⟨g, i * 2 + 1, none⟩ = some (.slice ta AT.ts.length tc) from ⟨b3.below hW, t3.below hW, (hW.cell (p := ⟨sb, 0, none⟩) (by have := (Array.getElem?_eq_some_iff.1 hC3.s).1; exact this)).trans a0, (hW.cell (p := ⟨g, i * 2, none⟩) hgl).trans e0, (hW.cell (p := ⟨g, i * 2 + 1, none⟩) hgl).trans e1⟩))
    have hldb : ∀ w' : World, BV w' w.heap.size e → (zqc (.pointer (some ⟨w.heap.size, 0, none⟩))).run Tryz.prog w' = .ok (zec e) w' := fun _ h => h.load
    have hldt : ∀ w' : World, TV w' w2.heap.size t → (tLoad (.pointer (some ⟨w2.heap.size, 0, none⟩))).run Tryz.prog w' = .ok (thV t) w' := fun _ h => h.load
    have HC3 := hide hC3
    have HK3 := hide k3
    have hii : (i : Int) < pos.length := by omega
    have d1 : w.heap.size ≠ w3.heap.size := by have := b3.lt; omega
    have d2 : w2.heap.size ≠ w3.heap.size := by omega
    have d3 : sb ≠ w3.heap.size := by have := (Array.getElem?_eq_some_iff.1 hC3.s).1; omega
    have d4 : g ≠ w3.heap.size := by omega
    clear s3
    simp only [List.getElem?_toArray, List.getElem?_cons_zero] at a0
    clear hw3 k3 hC3 hrow3 hc hx htm htv htm2 h2
    obtain ⟨R, hR⟩ : ∃ R, R = zc1 e AT t := ⟨_, rfl⟩
    rw [← hR] at HM
    have HR := hide hR
    clear hR
    go_cut [8, 9] from 37 to 59 (fun p c wc => ∃ nb, p = .pointer (some ⟨nb, 0, none⟩) ∧ c = .bool R.isSome ∧ BV wc nb (R.getD []) ∧ Below w3.heap.size w3 wc)
    case first =>
     go_region_held3 (fun w' => BV w' w.heap.size e ∧ TV w' w2.heap.size t ∧ w'.cell? ⟨sb, 0, none⟩ = some (.slice (some ⟨g, 0, none⟩) pos.length cn) ∧ w'.cell? ⟨g, i * 2, none⟩ = some (.string AT.p) ∧ w'.cell? ⟨g, i * 2 + 1, none⟩ = some (.slice ta AT.ts.length tc)) ((refine zaa HA _ ?_; first | exact hB4 | exact (Below.refl _ _).drew | exact ((Below.refl _ _).alloc (Nat.le_refl _) _).drew | exact hB4.alloc hB4.size _ | exact zcn hB4 (Nat.le_refl _) _)) ((go_at_call 62; refine (zaa HM _ (by first | exact (Below.refl _ _).drew | exact ((Below.refl _ _).alloc (Nat.le_refl _) _).drew)).mono ?_; rintro en w4 ⟨hb4, rfl⟩; have hB4 : Below w3.heap.size w3 w4 := (by first | exact zba hb4 | exact zmm ((Below.refl _ _).alloc (Nat.le_refl _) _) hb4); first | (have hst4 := ((BV.new w3 []).below (zba hb4)).store (R.getD [])) | skip))
     all_goals
      go_wp2_with fail
      go_meet
      case rel => first | exact ⟨_, rfl, rfl, BV.new _ _, hB4.alloc hB4.size _⟩ | exact ⟨_, rfl, rfl, setRow_heap _ _ _ _ _ _ ((BV.new w3 []).below (zba hb4)), zcn hB4 (Nat.le_refl _) _⟩
    case rest =>
     generalize wc = wA at *
     obtain ⟨nb, rfl, rfl, hbv, hbA⟩ := hcut
     have hkA : Keep No w2 wA := (Keep.of_below (zaa HK3)).trans (Keep.of_below hbA)
     have kbA : Below w2.heap.size w2 wA := (zaa HK3).trans (hbA.mono (zaa HK3).size)
     have hjA : J (pre ++ ys) wA := zdw (zaa HJ) (zaa HJ2) kbA
     have hrgA : HRange wA mb w0.heap.size K (fun x => Lf x ∧ ¬ x = t) cnt2 := (zaa HRG2).blocks (kbA.block _ (zaa HRG2).map.lt) (kbA.block _ (zaa HRG2).lt)
     have hCA := (zaa HC2).keep hkA
     have hldn : (zqc (.pointer (some ⟨nb, 0, none⟩))).run Tryz.prog wA = .ok (zec (R.getD [])) wA := hbv.load
     have HJA := hide hjA
     have HRGA := hide hrgA
     have HCA := hide hCA
     have HKPA := hide ((zaa HKP2).trans hkA)
     have HBVA := hide ((zaa HBV2).below kbA)
     have szA := Nat.le_trans (zaa HKPA).size (Nat.le_refl _)
     have HSZA := hide szA
     clear hbv hbA hkA kbA hjA hrgA hCA hldb hldt t3 b3 e0 e1 a0 d1 d2 d3 d4 HA HM HC3 HK3 szA hgl hbg hen2
     cases hr : R with
     | none =>
      have HRN := hide ((zaa HR).symm.trans hr)
      rw [hr] at hldn
      clear hr hldn
      go_wp2_with fail
      go_roundg cnt2
      case measure => omega
      case rel =>
       refine ⟨_, ys, zaa HRGA, by omega, fun x => ?_, ?_, zaa HJA, zaa HKPA, zaa HBVA⟩
       ·rw [zaa HMEM x, Been.step (zaa HTK)]
        exact ⟨.inl, fun h => h.elim id fun ⟨e', h1, _⟩ => by rw [zaa HRN] at h1; cases h1⟩
       ·exact Nat.le_trans (zaa HLEN) (Nat.mul_le_mul_right _ (by omega))
     | some e2 =>
      have HRN := hide ((zaa HR).symm.trans hr)
      rw [hr] at hldn
      have HCALL := hide (zaa HIH (i + 1) e2 wA (pre ++ ys) (by have := zaa HI; omega) (zaa HCA) (zaa HJA) (Nat.le_trans (zaa HB) (zaa HSZA)) (by have := pmatch_len (zaa HRN); omega) (fun e' he' => zaa HOK e' (by rw [zaa HDR, zaa HRS]; exact zou (zaa HTK) (zaa HRN) he')) (by have h1 := zaa HLEN; have h2 := zaa HNN; have h3 := pow_room (M := K.length) (g := gk) (d := d) (by omega) hcn; rw [List.length_append]; omega) (fun x hx => zaa HQ x (by rw [zaa HDR, zkf]; exact ⟨(t, n), zaa HTK, e2, zaa HRN, by rw [zaa HRS]; exact hx⟩)))
      clear hr
      go_wp2_with (go_at_call 234; refine (zaa HCALL).mono ?_; rintro en w5 (⟨rfl, h5⟩ | ⟨rfl, h5⟩) <;> (have H5 := hide h5; clear h5))
      ·go_roundg cnt2
       case measure => omega
       case rel =>
        obtain ⟨zs, hz1, hz2, hz3, hz4⟩ := zaa H5
        obtain ⟨o, ho1, ho2⟩ := (zaa HRGA).iter
        obtain ⟨es, ck, hm1⟩ := (zaa HRGA).map.isMap
        refine ⟨_, ys ++ zs, (zaa HRGA).blocks ((hz4.same _ _ hm1 (zaa HCA).nm (.inr rfl)).trans hm1.symm) ((hz4.same _ _ ho1 (fun hn => by have := zaa HNO _ hn; have := zaa HB; have := zaa HS0; omega) (.inr ho2)).trans ho1.symm), by omega, fun x => ?_, ?_, by rw [← List.append_assoc]; exact hz3, (zaa HKPA).trans hz4, (zaa HBVA).keep hz4 (fun hn => by have := zaa HNO _ hn; have := zaa HB; omega)⟩
        ·rw [List.mem_append, zaa HMEM x, Been.step (zaa HTK), hz1, zaa HRS]
         exact ⟨fun h => h.imp id fun h => ⟨e2, zaa HRN, h⟩, fun h => h.imp id fun ⟨e', h1, h2⟩ => by rw [zaa HRN] at h1; cases h1; exact h2⟩
        ·have h1 := zaa HLEN
         have h3 := step_room (M := K.length) (g := gk) (c := cnt2) (d := d) hlt2 hcn
         rw [List.length_append]
         omega
      ·go_ret
       obtain ⟨zs, hz1, hz2⟩ := zaa H5
       rw [zaa HDR]
       refine .inr ⟨rfl, ys ++ zs, fun x hx => ?_, by rw [← List.append_assoc]; exact hz2⟩
       rw [zkf]
       rcases List.mem_append.1 hx with hx | hx
       ·obtain ⟨p, hp, _, h⟩ := (zaa HMEM x).1 hx
        exact ⟨p, hp, h⟩
       ·exact ⟨(t, n), zaa HTK, e2, zaa HRN, by rw [zaa HRS]; exact hz1 x hx⟩
end
section
open Go.RowKit Go.Maps
theorem zpk (w : World) (base : Nat) (pd : ByteArray) (ah : Option Addr) (nh ch : Nat) (ab : Option Addr) (cb : Nat) (ls : List (PLit × Value)) (h : LRow w base (.slice ab ls.length cb) ls) (hl : ls.length ≤ 1000) :
  Calls Tryz.prog 223 #[.agg #[.string pd, .slice ah nh ch, .slice ab ls.length cb]] w fun e w' => ∃ (a : Option Addr) (c : Nat), e = .returned (.slice a (ls.filter (zcb true)).length c) ∧ w'.ownsRow (w.heap.size + 1) 79 2 (.slice a (ls.filter (zcb true)).length c) (ls.filter (zcb true)).length ((ls.filter (zcb true)).flatMap zcf) ∧ Below w.heap.size w w' ∧ w.heap.size < w'.heap.size := by
 have b1 := (Below.refl w.heap.size w).alloc (Nat.le_refl _) (.cells #[.string pd, .slice ah nh ch, .slice ab ls.length cb] 123)
 have h0 := h.below b1
 clear h
 go_enter Tryz.func223, Tryz.ntmps223
 go_wp2_with fail
 refine (zpj _ base pd ah nh ch ab cb ls true h0 hl).mono ?_
 rintro e w1 ⟨a, c, rfl, hr, hb, hz⟩
 go_wp2_with fail
 go_ret
 refine ⟨a, c, rfl, zaf hr (by simp), b1.trans (hb.mono (by simp)), by simp at hz; omega⟩
def zkc (x : PLit × Value) : PAtm × Value := (⟨x.1.pd, x.1.ts⟩, x.2)
def zc2 (b : Bool) (ls : List (PLit × Value)) : List (PAtm × Value) := (ls.filter (zcb b)).map zkc
theorem zn8 (b : Bool) (ls : List (PLit × Value)) : (zc2 b ls).flatMap zj1 = (ls.filter (zcb b)).flatMap zcf := by
 unfold zc2
 rw [List.flatMap_map]
 rfl
theorem zll (b : Bool) (ls : List (PLit × Value)) : (zc2 b ls).length = (ls.filter (zcb b)).length := by unfold zc2; simp
theorem atoms_in {No : Nat → Prop} {w w' : World} {base base' : Nat} {bv v : Value} {ls : List (PLit × Value)} {b : Bool} (h : LRow w base bv ls) (hk : Below w.heap.size w w') (hr : w'.ownsRow base' 79 2 v (ls.filter (zcb b)).length ((ls.filter (zcb b)).flatMap zcf)) (hb : ∀ g, No g → g < base') (ht : ∀ x ∈ ls, ∀ g, x.2.ownBlock = some g → ¬ No g) (hf : ∀ x ∈ ls, x.1.ts.length ≤ 4) : AtomsIn No w' v (zc2 b ls) := by
 have key : ∀ x ∈ zc2 b ls, ∃ y ∈ ls, x = zkc y := fun x hx => by
  obtain ⟨y, hy, rfl⟩ := List.mem_map.1 hx
  exact ⟨y, (List.mem_filter.1 hy).1, rfl⟩
 refine ⟨⟨base', by rw [zll, zn8]; exact hr⟩, fun x hx => ?_, fun g hg hn => ?_, fun x hx g hg => ?_, fun x hx => ?_⟩
 ·obtain ⟨y, hy, rfl⟩ := key x hx
  exact ⟨base, zai (h.each y hy) hk (fun g e => ((h.each y hy).lt g e).2)⟩
 ·have := (hr.lt g hg).1
  have := hb g hn
  omega
 ·obtain ⟨y, hy, rfl⟩ := key x hx
  exact ht y hy g hg
 ·obtain ⟨y, hy, rfl⟩ := key x hx
  exact hf y hy
def SV (w : World) (b : Nat) (pv nv mv fv : Value) : Prop := w.heap[b]? = some (.cells #[pv, nv, mv, fv] 361 (0, 0))
noncomputable def zon (p v : Value) : Sem Unit := Instr.storeAt 361 p v
noncomputable def sAlloc (h : Bool) (v : Value) : Sem Value := Instr.alloc 361 h v
theorem to_sStore (p v : Value) : Instr.storeAt 361 p v = zon p v := rfl
theorem to_sAlloc (h : Bool) (v : Value) : Instr.alloc 361 h v = sAlloc h v := rfl
theorem run_sAlloc (w : World) (v : Value) : (sAlloc true v).run Tryz.prog w = .ok (.pointer (some ⟨w.heap.size, 0, none⟩)) (w.alloc (.cells #[.slice none 0 0, .slice none 0 0, .map none, .nilFunc] 361)) := by
 unfold sAlloc
 simp [Instr.alloc, newVar, newRow, go_sem]
theorem infoSearch : (Tryz.prog.info? 361).map (·.size) = some 4 := by kernel_rfl
theorem SV.store {w : World} {b : Nat} {p0 n0 m0 f0 : Value} (h : SV w b p0 n0 m0 f0) {pv nv mv fv : Value} (h1 : pv.oneCell' = true) (h2 : nv.oneCell' = true) (h3 : mv.oneCell' = true) (h4 : fv.oneCell' = true) : (zon (.pointer (some ⟨b, 0, none⟩)) (.agg #[pv, nv, mv, fv])).run Tryz.prog w = .ok () (w.setRow b #[pv, nv, mv, fv]) := by
 unfold zon Instr.storeAt Instr.sureAddr
 simp only [Sem.run_bind, Sem.run_pure, Result.andThen_ok]
 exact run_storeVar_row w b _ 361 _ _ h (by rw [infoSearch]; rfl) rfl (by simp [h1, h2, h3, h4])
end
end Go.Proofs.YtldkpahaocjdpaaGreat
