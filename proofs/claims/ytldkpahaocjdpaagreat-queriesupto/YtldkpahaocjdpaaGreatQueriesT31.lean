/-
  The reference's match: an atom with a thing.
  The reference's of: an atom with what its variables are; its find: the place of a text.
  Facts, in the reference's words, and how they lie in memory; its find and its ahead.
  Ways in which a rule can be used, in the reference's words, and how they lie in memory.
-/
import Derived.Test.YtldkpahaocjdpaaGreatQueriesT30
import Derived.Test.YtldkpahaocjdpaaGreatQueriesT29
import Derived.BigRegion
import Derived.Deep.RegionHeld3
import Derived.Test.YtldkpahaocjdpaaGreatQueriesT25
set_option maxHeartbeats 16000000
namespace Go.Proofs.YtldkpahaocjdpaaGreat
section
open Go.RowKit
def zh3 (w : World) (nv tv : Value) (r : Option Env) : Ending → World → Prop := fun e w' => Below w.heap.size w w' ∧ (r = none → e = .returned (.tuple #[.agg #[nv, tv], .bool false])) ∧ (∀ E', r = some E' → ∃ nv' tv', e = .returned (.tuple #[.agg #[nv', tv'], .bool true]) ∧ EnvIn w' w.heap.size E' nv' tv')
theorem MIn.env {w : World} {A T : RAtom} {nv tv av bv nv' tv' : Value} {E : Env} {wr : World} (h : MIn w A T nv tv av bv (E.map (·.1)) (E.map (·.2)) nv' tv' wr) : EnvIn wr (w.heap.size + 5) E nv' tv' := by
 have h1 := h.rn
 have h2 := h.rt
 simp only [List.length_map, strC, List.map_map] at h1 h2
 exact ⟨h1, h2, fun e => ⟨h.nn (by simp [e]), h.tn (by simp [e])⟩⟩
set_option maxRecDepth 100000 in
theorem match_no (w : World) (A T : RAtom) (an at' aa ba : Option Addr) (n cn ct ca cb : Nat) (hne : (A.pred.toList == T.pred.toList && A.terms.length == T.terms.length) = false) :
  Calls Tryz.prog 139 #[.agg #[.slice an n cn, .slice at' n ct], .agg #[.string A.pred, .slice aa A.terms.length ca, .bool A.no, .int .i64 A.at_, .int .i64 A.noAt], .agg #[.string T.pred, .slice ba T.terms.length cb, .bool T.no, .int .i64 T.at_, .int .i64 T.noAt]] w (fun e w' => Below w.heap.size w w' ∧ e = .returned (.tuple #[.agg #[.slice an n cn, .slice at' n ct], .bool false])) := by
 cases hp : A.pred.toList == T.pred.toList with
 | false =>
  clear hne
  go_enter Tryz.func139, Tryz.ntmps139
  go_wp2_with fail
  refine bodyPost_ret (v := .tuple #[.agg #[.slice an n cn, .slice at' n ct], .bool false]) (by simp [results, Tryz.results139, go_sem]) rfl ⟨?_, rfl⟩
  exact ((((Below.refl _ w).alloc (Nat.le_refl _) _).alloc (by simp) _).alloc (by simp; omega) _).alloc (by simp; omega) _
 | true =>
  have hl : ((A.terms.length : Int) == (T.terms.length : Int)) = false := by
   rw [hp] at hne
   simp at hne ⊢
   omega
  clear hne
  go_enter Tryz.func139, Tryz.ntmps139
  go_wp2_with fail
  refine bodyPost_ret (v := .tuple #[.agg #[.slice an n cn, .slice at' n ct], .bool false]) (by simp [results, Tryz.results139, go_sem]) rfl ⟨?_, rfl⟩
  exact ((((Below.refl _ w).alloc (Nat.le_refl _) _).alloc (by simp) _).alloc (by simp; omega) _).alloc (by simp; omega) _
theorem add_E {E : Env} {a b : ByteArray} : (E ++ [(a, b)]).map (·.1) = E.map (·.1) ++ [a] ∧ (E ++ [(a, b)]).map (·.2) = E.map (·.2) ++ [b] := by simp
theorem MIn.ret {w : World} {A T : RAtom} {nv tv av bv nv' tv' : Value} {E : Env} {wr : World} (h : MIn w A T nv tv av bv (E.map (·.1)) (E.map (·.2)) nv' tv' wr) (u v : Value) : EnvIn ((wr.setCell ⟨w.heap.size + 1 + 1 + 1, 0, none⟩ u).setCell ⟨w.heap.size + 1 + 1 + 1, 1, none⟩ v) w.heap.size E nv' tv' := by
 obtain ⟨_, h1, h2⟩ := h.fin u v
 simp only [List.length_map, strC, List.map_map] at h1 h2
 exact ⟨h1, h2, fun e => ⟨h.nn (by simp [e]), h.tn (by simp [e])⟩⟩
set_option maxRecDepth 100000 in
theorem match_yes (w : World) (base : Nat) (E : Env) (A T : RAtom) (an at' aa ba : Option Addr) (cn ct ca cb : Nat) (he : EnvIn w base E (.slice an E.length cn) (.slice at' E.length ct)) (hA : w.ownsRow base 317 3 (.slice aa A.terms.length ca) A.terms.length (cellsOf A.terms)) (hT : w.ownsRow base 317 3 (.slice ba T.terms.length cb) T.terms.length (cellsOf T.terms)) (hel : E.length + A.terms.length ≤ 1000) (hp : (A.pred.toList == T.pred.toList) = true) (hl : A.terms.length = T.terms.length) :
  Calls Tryz.prog 139 #[.agg #[.slice an E.length cn, .slice at' E.length ct], .agg #[.string A.pred, .slice aa A.terms.length ca, .bool A.no, .int .i64 A.at_, .int .i64 A.noAt], .agg #[.string T.pred, .slice ba T.terms.length cb, .bool T.no, .int .i64 T.at_, .int .i64 T.noAt]] w (zh3 w (.slice an E.length cn) (.slice at' E.length ct) (zci E A.terms T.terms)) := by
 obtain ⟨i0, hi, hz0, hz1, hz2⟩ := info_parts zeh
 have hlb : ((A.terms.length : Int) == (T.terms.length : Int)) = true := by simp; omega
 have h0 := MIn.start w A T (.slice an E.length cn) (.slice at' E.length ct) (.slice aa A.terms.length ca) (.slice ba T.terms.length cb)
 have H0 := hide h0
 have HE := hide he
 have HA := hide hA
 have HT := hide hT
 have HL := hide hl
 clear h0 he hA hT hl
 go_enter Tryz.func139, Tryz.ntmps139
 go_upto_region 3 with fail
 go_cut [8] (fun p wc => p = .pointer (some ⟨w.heap.size + 1 + 1 + 1 + 1, 0, none⟩) ∧ MIn w A T (.slice an E.length cn) (.slice at' E.length ct) (.slice aa A.terms.length ca) (.slice ba T.terms.length cb) [] [] (.slice none 0 0) (.slice none 0 0) wc)
 case first =>
  go_wp2_with fail
  go_meet
  case rel => exact ⟨rfl, zaa H0⟩
 case rest =>
 clear H0
 obtain ⟨rfl, hm0⟩ := hcut
 obtain ⟨p0, pf0⟩ := zab hm0.b0 0
 obtain ⟨q0, qf0⟩ := zab hm0.b4 0
 have HM0 := hide hm0
 have hlt0 := hm0.lt
 clear hm0 pf0
 go_upto_region 4 with fail
 go_cut [] (fun wc => ∃ nv', MIn w A T (.slice an E.length cn) (.slice at' E.length ct) (.slice aa A.terms.length ca) (.slice ba T.terms.length cb) (E.map (·.1)) [] nv' (.slice none 0 0) wc)
 case first =>
  by_cases hE : E = []
  ·subst hE
   obtain ⟨e1, e2⟩ := (zaa HE).nil rfl
   injection e1 with e1 _ e3
   injection e2 with e2 _ e4
   subst e1 e2 e3 e4
   go_wp2_with fail
   go_meet
   case rel => exact ⟨_, (zaa HM0).same rfl⟩
  ·have hpos : 0 < E.length := by
    cases E with
    | nil => exact absurd rfl hE
    | cons _ _ => simp
   obtain ⟨g1, c1, hv1, -, -, -, -⟩ := zen (zaa HE).ns hpos
   injection hv1 with i1 i2 i3
   subst i1 i3
   have hnews := hide (znl (zai (zaa HE).ns (zaa HM0).below (fun g e => ((zaa HE).ns.lt g e).2)))
   have hadd := hide (fun (w5 : World) (g cap : Nat) hg hown hat => MIn.addN (w5 := w5) (g := g) (cap := cap) (m := E.length) (news := E.map (·.1)) (zaa HM0) (Kept.refl [] _) hg (by simp) hpos hown hat)
   go_wp2_with (at_builtin; go_must (refine wpList_append_lies _ rfl _ _ _ rfl (w.heap.size + 5) 9 i0 (.string { data := #[] }) 1 16 Tryz.underlying33 hi hz0 hz1 hz2 rfl (by decide) (.slice none 0 0) 0 [] rfl (World.ownsRow_nil _ _ _ _) ⟨g1, 0, none⟩ E.length cn (strC (E.map (·.1))) rfl (by simp [strC]) (by simpa [strC, List.map_map] using zaa hnews) strC_one hpos (by unfold maxLen; omega) (by omega) hlt0 _ rfl ?_; intro g cap w5 hown5 hg5 hat5 hlt5; obtain ⟨e1, e2⟩ := zaa hadd w5 g cap hg5 hown5 hat5; obtain ⟨z0, zf0⟩ := zab e2 0))
   go_meet
   case rel => exact ⟨_, by simpa using e1⟩
 case rest =>
 clear HM0 p0 q0 qf0 hlt0
 obtain ⟨nv1, hm1⟩ := hcut
 obtain ⟨a1, c1, rfl⟩ := zac hm1.rn
 obtain ⟨p1, pf1⟩ := zab hm1.b0 1
 obtain ⟨q1, qf1⟩ := zab hm1.b4 1
 have HM1 := hide hm1
 have hlt1 := hm1.lt
 clear hm1 pf1
 go_upto_region 5 with fail
 go_cut [] (fun wc => ∃ nv' tv', MIn w A T (.slice an E.length cn) (.slice at' E.length ct) (.slice aa A.terms.length ca) (.slice ba T.terms.length cb) (E.map (·.1)) (E.map (·.2)) nv' tv' wc)
 case first =>
  by_cases hE : E = []
  ·subst hE
   obtain ⟨e1, e2⟩ := (zaa HE).nil rfl
   injection e1 with e1 _ e3
   injection e2 with e2 _ e4
   subst e1 e2 e3 e4
   go_wp2_with fail
   go_meet
   case rel => exact ⟨_, _, (zaa HM1).same rfl⟩
  ·have hpos : 0 < E.length := by
    cases E with
    | nil => exact absurd rfl hE
    | cons _ _ => simp
   obtain ⟨g1, c1', hv1, -, -, -, -⟩ := zen (zaa HE).ts hpos
   injection hv1 with i1 i2 i3
   subst i1 i3
   have hnews := hide (znl (zai (zaa HE).ts (zaa HM1).below (fun g e => ((zaa HE).ts.lt g e).2)))
   have hadd := hide (fun (w5 : World) (g cap : Nat) hg hown hat => MIn.addT (w5 := w5) (g := g) (cap := cap) (m := E.length) (news := E.map (·.2)) (zaa HM1) (Kept.refl [] _) hg (by simp) hpos hown hat)
   go_wp2_with (at_builtin; go_must (refine wpList_append_lies _ rfl _ _ _ rfl (w.heap.size + 5) 9 i0 (.string { data := #[] }) 1 16 Tryz.underlying33 hi hz0 hz1 hz2 rfl (by decide) (.slice none 0 0) 0 [] rfl (World.ownsRow_nil _ _ _ _) ⟨g1, 0, none⟩ E.length ct (strC (E.map (·.2))) rfl (by simp [strC]) (by simpa [strC, List.map_map] using zaa hnews) strC_one hpos (by unfold maxLen; omega) (by omega) hlt1 _ rfl ?_; intro g cap w5 hown5 hg5 hat5 hlt5; obtain ⟨e1, e2⟩ := zaa hadd w5 g cap hg5 hown5 hat5; obtain ⟨z0, zf0⟩ := zab e2 1))
   go_meet
   case rel => exact ⟨_, _, by simpa using e1⟩
 case rest =>
 clear HM1 p1 q1 qf1 hlt1
 obtain ⟨nv2, tv2, hm2⟩ := hcut
 have HM2 := hide hm2
 clear hm2
 go_wp2_with fail
 go_loopg [9] A.terms.length (fun gg i wr => ∃ (k : Nat) (E' : Env) (nv' tv' : Value), k ≤ A.terms.length ∧ gg = A.terms.length - k ∧ i = .int .i64 k ∧ E'.length ≤ E.length + k ∧ zci E' (A.terms.drop k) (T.terms.drop k) = zci E A.terms T.terms ∧ MIn w A T (.slice an E.length cn) (.slice at' E.length ct) (.slice aa A.terms.length ca) (.slice ba T.terms.length cb) (E'.map (·.1)) (E'.map (·.2)) nv' tv' wr)
 case atStart => exact ⟨0, E, nv2, tv2, Nat.zero_le _, rfl, rfl, by omega, rfl, zaa HM2⟩
 case round =>
  clear HM2
  obtain ⟨k, E', nv', tv', hk, hgk, rfl, hE', hfin, hm⟩ := hrel
  obtain ⟨an', cn', rfl⟩ := zac hm.rn
  obtain ⟨at2, ct', rfl⟩ := zac hm.rt
  simp only [List.length_map] at hm
  have hlt := hm.lt
  obtain ⟨p1, pf1⟩ := zab hm.b1 1
  obtain ⟨r1, rf1⟩ := zab hm.b2 1
  obtain ⟨o0, of0⟩ := zab hm.b0 0
  obtain ⟨o1, of1⟩ := zab hm.b0 1
  obtain ⟨q0, qf0⟩ := zab hm.b4 0
  obtain ⟨q1, qf1⟩ := zab hm.b4 1
  obtain ⟨t0, tf0⟩ := zab hm.b3 0
  obtain ⟨t1, tf1⟩ := zab hm.b3 1
  have HM := hide hm
  have HF := hide hfin
  clear hm hfin pf1 rf1 of0 of1
  by_cases hlk : k < A.terms.length
  ·have hlT : k < T.terms.length := by rw [← zaa HL]; exact hlk
   have HST := hide ((zaa HF).symm.trans (zog hlk hlT))
   have hki : (k : Int) < A.terms.length := by omega
   have hkT : (k : Int) < T.terms.length := by omega
   clear HF
   go_wp2_with fail
   refine ze2 6 mixedP (by kernel_rfl) fun W hW => ?_
   simp only [List.take_succ_cons, List.take_zero, List.drop_succ_cons, List.drop_zero]
   have HMW : Hid (MIn w A T (.slice an E.length cn) (.slice at' E.length ct) (.slice aa A.terms.length ca) (.slice ba T.terms.length cb) (E'.map (·.1)) (E'.map (·.2)) (.slice an' E'.length cn') (.slice at2 E'.length ct') W) := by rw [hW]; exact (zaa HM).past (Below.refl _ _).drew
   clear hW HM p1 r1 o0 o1 q0 q1 qf0 qf1 t0 tf0 t1 tf1 hlt
   obtain ⟨p1, pf1⟩ := zab (zaa HMW).b1 1
   obtain ⟨q0, qf0⟩ := zab (zaa HMW).b4 0
   obtain ⟨q1, qf1⟩ := zab (zaa HMW).b4 1
   obtain ⟨ga, c1', hv1, -, -, hnc, hcm, d0, d1, d2⟩ := zdx (zai (zaa HA) (zaa HMW).below (fun g e => ((zaa HA).lt g e).2)) k hlk
   injection hv1 with i1 i2 i3
   subst i1 i3
   clear pf1 qf0 qf1
   repeat still_step
   refine wpStill_nil ?_
   clear p1 q0 q1
   go_wp2_with fail
   refine (zlx W (w.heap.size + 5) E' an' at2 cn' ct' (zaa HMW).env A.terms[k].text A.terms[k].isVar A.terms[k].at_).mono ?_
   rintro e w1 ⟨rfl, hb1⟩
   have HM1 := hide ((zaa HMW).past hb1)
   clear HMW hb1 d0 d1 d2
   obtain ⟨r1, rf1⟩ := zab (zaa HM1).b2 1
   obtain ⟨gb, c2', hv2, -, -, hnc2, hcm2, f0, f1, f2⟩ := zdx (zai (zaa HT) (zaa HM1).below (fun g e => ((zaa HT).lt g e).2)) k hlT
   injection hv2 with i1 i2 i3
   subst i1 i3
   clear rf1 f1 f2
   have hev : zdu E' ⟨A.terms[k].text, A.terms[k].isVar, A.terms[k].at_⟩ = zdu E' A.terms[k] := rfl
   rw [hev]
   clear hev
   generalize zdu E' A.terms[k] = x at *
   cases hx : x.toList == [] with
   | true =>
    have hF2 := (zaa HST).trans (by rw [if_pos hx])
    obtain ⟨ta, hta⟩ : ∃ ta, A.terms[k].text = ta := ⟨_, rfl⟩
    obtain ⟨tt, htt⟩ : ∃ tt, T.terms[k].text = tt := ⟨_, rfl⟩
    rw [hta, htt] at hF2
    rw [htt] at f0
    have HF2 := hide hF2
    have HTA := hide hta
    clear hF2 hta htt
    clear HST
    go_upto_region 12 with fail
    go_cut [] (fun wc => ∃ nv3, MIn w A T (.slice an E.length cn) (.slice at' E.length ct) (.slice (some ⟨ga, 0, none⟩) A.terms.length ca) (.slice (some ⟨gb, 0, none⟩) T.terms.length cb) (E'.map (·.1) ++ [ta]) (E'.map (·.2)) nv3 (.slice at2 E'.length ct') wc)
    case first =>
     clear r1 f0
     obtain ⟨p1, pf1⟩ := zab (zaa HM1).b1 1
     obtain ⟨q0, qf0⟩ := zab (zaa HM1).b4 0
     obtain ⟨ga', c1', hv1, -, hgl, hnc', hcm', d0, d1, d2⟩ := zdx (zai (zaa HA) (zaa HM1).below (fun g e => ((zaa HA).lt g e).2)) k hlk
     injection hv1 with i1 i2 i3
     injection i1 with i1
     injection i1 with i1
     subst i1 i3
     rw [zaa HTA] at d0
     have hltW := (zaa HM1).lt
     have hga : ga < w.heap.size := ((zaa HA).lt ga rfl).2
     have l4 : w.heap.size + 1 + 1 + 1 + 1 < w1.heap.size := by omega
     have l1 : w.heap.size + 1 < w1.heap.size := by omega
     have hrow := (zaa HM1).rn
     simp only [List.length_map] at hrow
     have hadd := hide (fun (w5 : World) (g cap : Nat) hg hown hat => MIn.addN (w5 := w5) (W := (w1.alloc (.cells #[.string ta] 9)).drew) (g := g) (cap := cap) (m := 1) (news := [ta]) (zaa HM1) (((Kept.refl [] _).alloc _).drew) hg rfl (by decide) hown hat)
     have hnew := hide (zg3 ((w1.alloc (.cells #[.string ta] 9)).drew) w1.heap.size (.string ta) 9 (heap_alloc_new w1 _))
     have s1 : Hid (((w1.alloc (.cells #[.string ta] 9)).drew).ownsRow (w.heap.size + 5) 9 1 (.slice an' E'.length cn') E'.length (strC (E'.map (·.1)))) := hide (hrow.alloc _)
     have s4 : Hid (E'.length + 1 ≤ maxLen) := by show _ ≤ _; unfold maxLen; omega
     have s5 : Hid ((E'.length + 1) * 16 ≤ 140737488355328) := by show _ ≤ _; omega
     have s6 : Hid (w.heap.size + 5 ≤ ((w1.alloc (.cells #[.string ta] 9)).drew).heap.size) := by show _ ≤ _; simp; omega
     have s3 : Hid (∀ u ∈ ([.string ta] : List Value), u.oneCell' = true) := by show ∀ u ∈ _, _; intro u hu; simp at hu; subst hu; rfl
     have hkk : Hid (∀ w5 : World, ((w1.alloc (.cells #[.string ta] 9)).drew).grownBy w5 (Value.slice an' E'.length cn').ownBlock → w5.cell? ⟨w.heap.size + 1, 1, none⟩ = some (.slice (some ⟨ga, 0, none⟩) A.terms.length ca) ∧ w5.cell? ⟨ga, k * 3, none⟩ = some (.string ta)) := hide (fun w5 hg => by
      have kk := (((Kept.refl _ w1).alloc _).drew).grown hg (fun k e => .inr (show k ∈ (Value.slice an' E'.length cn').ownBlock.toList by simp [e]))
      have far : ∀ b, b < w.heap.size + 5 → b ∉ (Value.slice an' E'.length cn').ownBlock.toList := fun b hb hm => by have := (hrow.lt b (by simpa using hm)).1; omega
      exact ⟨(kk.cell (p := ⟨w.heap.size + 1, 1, none⟩) (by simp; omega) (far (w.heap.size + 1) (by omega))).trans p1, (kk.cell (p := ⟨ga, k * 3, none⟩) (by simp; omega) (far ga (by omega))).trans d0⟩)
     clear d1 d2 hrow
     simp only [List.length_map] at hadd
     simp only [List.getElem?_toArray, List.getElem?_cons_zero, List.getElem?_cons_succ] at p1 q0
     go_region_law (refine step_append_lies _ rfl (.tmp 62) (.tmp 69) 33 rfl (w.heap.size + 5) 9 i0 (.string { data := #[] }) 1 16 Tryz.underlying33 hi hz0 hz1 hz2 rfl (by decide) (.slice an' E'.length cn') E'.length (strC (E'.map (·.1))) (by simp [Act.eval]) (zaa s1) ⟨w1.heap.size, 0, none⟩ 1 1 [.string ta] (by simp [Act.eval]) rfl (zaa hnew) (zaa s3) (by decide) (zaa s4) (zaa s5) (zaa s6) _ rfl ?_; intro g cap w5 hown5 hg5 hat5 hlt5; obtain ⟨e1, e2⟩ := zaa hadd w5 g cap hg5 hown5 hat5; obtain ⟨y1, y2⟩ := zaa hkk w5 hg5; obtain ⟨z0, zf0⟩ := zab e2 0)
     all_goals
      go_wp2_with fail
      go_meet
      case rel => exact ⟨_, e1⟩
    case rest =>
     clear HM1 r1 f0
     obtain ⟨nv3, hm3⟩ := hcut
     obtain ⟨a3, c3, rfl⟩ := zac hm3.rn
     obtain ⟨q1, qf1⟩ := zab hm3.b4 1
     have hrow := hm3.rt
     simp only [List.length_map] at hrow
     have hltW := hm3.lt
     have hadd := hide (fun (w5 : World) (g cap : Nat) hg hown hat => MIn.addT (w5 := w5) (W := wc.alloc (.cells #[.string tt] 9)) (g := g) (cap := cap) (m := 1) (news := [tt]) hm3 ((Kept.refl [] _).alloc _) hg rfl (by decide) hown hat)
     simp only [List.length_map] at hadd
     have hnew := hide (zg3 (wc.alloc (.cells #[.string tt] 9)) wc.heap.size (.string tt) 9 (heap_alloc_new wc _))
     have HR := hide hrow
     clear hrow hm3
     go_wp2_with (at_builtin; go_must (refine wpList_append_lies _ rfl _ _ _ rfl (w.heap.size + 5) 9 i0 (.string { data := #[] }) 1 16 Tryz.underlying33 hi hz0 hz1 hz2 rfl (by decide) (.slice at2 E'.length ct') E'.length (strC (E'.map (·.2))) rfl ((zaa HR).alloc _) ⟨wc.heap.size, 0, none⟩ 1 1 [.string tt] rfl rfl (zaa hnew) (by simp [Value.oneCell']) (by decide) (by unfold maxLen; omega) (by omega) (by simp; omega) _ rfl ?_; intro g cap w5 hown5 hg5 hat5 hlt5; obtain ⟨e1, e2⟩ := zaa hadd w5 g cap hg5 hown5 hat5; obtain ⟨z0, zf0⟩ := zab e2 1))
     go_roundg (A.terms.length - (k + 1))
     case measure => omega
     case rel => exact ⟨k + 1, E' ++ [(ta, tt)], _, _, by omega, rfl, by go_num, by simp; omega, (zaa HF2).symm, by rw [add_E.1, add_E.2]; exact e1⟩
   | false =>
    cases hy : x.toList == T.terms[k].text.toList with
    | true =>
     have HF2 := hide ((zaa HST).trans (by rw [if_neg (by rw [hx]; decide), if_pos hy]))
     clear HST
     go_wp2_with fail
     go_roundg (A.terms.length - (k + 1))
     case measure => omega
     case rel => exact ⟨k + 1, E', _, _, by omega, rfl, by go_num, by omega, (zaa HF2).symm, zaa HM1⟩
    | false =>
     have HF2 := hide ((zaa HST).trans (by rw [if_neg (by rw [hx]; decide), if_neg (by rw [hy]; decide)]))
     obtain ⟨o0, of0⟩ := zab (zaa HM1).b0 0
     obtain ⟨o1, of1⟩ := zab (zaa HM1).b0 1
     obtain ⟨t0, tf0⟩ := zab (zaa HM1).b3 0
     obtain ⟨t1, tf1⟩ := zab (zaa HM1).b3 1
     clear HST of0 of1
     go_wp2_with fail
     refine bodyPost_ret (v := .tuple #[.agg #[.slice an E.length cn, .slice at' E.length ct], .bool false]) (by simp [results, Tryz.results139, go_sem, t0, t1]) rfl ⟨((zaa HM1).fin _ _).1, fun _ => rfl, fun E2 h2 => ?_⟩
     rw [zaa HF2] at h2
     cases h2
  ·have HF2 := hide (show zci E A.terms T.terms = some E' by rw [← zaa HF, List.drop_of_length_le (by omega)]; rfl)
   clear HF r1 o0 o1 qf0 qf1
   go_wp2_with fail
   refine bodyPost_ret (v := .tuple #[.agg #[.slice an' E'.length cn', .slice at2 E'.length ct'], .bool true]) (by simp [results, Tryz.results139, go_sem, t0, t1]) rfl ⟨((zaa HM).fin _ _).1, fun h2 => ?_, fun E2 h2 => ⟨_, _, rfl, ?_⟩⟩
   ·rw [zaa HF2] at h2; cases h2
   ·rw [zaa HF2] at h2
    cases h2
    exact (zaa HM).ret _ _
end
section
open Go.RowKit
theorem zl2 (w : World) (base : Nat) (E : Env) (A T : RAtom) (an at' aa ba : Option Addr) (cn ct ca cb : Nat) (he : EnvIn w base E (.slice an E.length cn) (.slice at' E.length ct)) (hA : w.ownsRow base 317 3 (.slice aa A.terms.length ca) A.terms.length (cellsOf A.terms)) (hT : w.ownsRow base 317 3 (.slice ba T.terms.length cb) T.terms.length (cellsOf T.terms)) (hel : E.length + A.terms.length ≤ 1000) :
  Calls Tryz.prog 139 #[.agg #[.slice an E.length cn, .slice at' E.length ct], .agg #[.string A.pred, .slice aa A.terms.length ca, .bool A.no, .int .i64 A.at_, .int .i64 A.noAt], .agg #[.string T.pred, .slice ba T.terms.length cb, .bool T.no, .int .i64 T.at_, .int .i64 T.noAt]] w (zh3 w (.slice an E.length cn) (.slice at' E.length ct) (zch E A T)) := by
 cases h : A.pred.toList == T.pred.toList && A.terms.length == T.terms.length with
 | false =>
  have e : zch E A T = none := by unfold zch; rw [h]; rfl
  rw [e]
  refine (match_no w A T an at' aa ba E.length cn ct ca cb h).mono ?_
  rintro e w' ⟨hb, rfl⟩
  exact ⟨hb, fun _ => rfl, fun _ h => by cases h⟩
 | true =>
  have e : zch E A T = zci E A.terms T.terms := by unfold zch; rw [h]; rfl
  rw [e]
  simp only [Bool.and_eq_true, beq_iff_eq] at h
  exact match_yes w base E A T an at' aa ba cn ct ca cb he hA hT hel (beq_iff_eq.2 h.1) h.2
structure OIn (w : World) (A : RAtom) (nv tv av : Value) (l : List RTerm) (v : Value) (wr : World) : Prop where
 below : Below w.heap.size w wr
 b0 : wr.heap[w.heap.size]? = some (.cells #[nv, tv] 258 (0, 0))
 b1 : wr.heap[w.heap.size + 1]? = some (.cells #[.string A.pred, av, .bool A.no, .int .i64 A.at_, .int .i64 A.noAt] 243 (0, 0))
 b2 : wr.heap[w.heap.size + 1 + 1]? = some (.cells #[.string { data := #[] }, .slice none 0 0, .bool false, .int .i64 0, .int .i64 0] 243 (0, 0))
 b3 : wr.heap[w.heap.size + 1 + 1 + 1]? = some (.cells #[.string A.pred, v, .bool false, .int .i64 0, .int .i64 0] 243 (0, 0))
 row : wr.ownsRow (w.heap.size + 4) 317 3 v l.length (cellsOf l)
theorem OIn.lt {w : World} {A : RAtom} {nv tv av : Value} {l : List RTerm} {v : Value} {wr : World} (h : OIn w A nv tv av l v wr) : w.heap.size + 4 ≤ wr.heap.size := (Array.getElem?_eq_some_iff.1 h.b3).1
theorem OIn.past {w : World} {A : RAtom} {nv tv av : Value} {l : List RTerm} {v : Value} {wr w' : World} (h : OIn w A nv tv av l v wr) (k : Below wr.heap.size wr w') : OIn w A nv tv av l v w' := by
 have hl := h.lt
 exact ⟨h.below.trans (k.mono (by omega)), (k.block _ (by omega)).trans h.b0, (k.block _ (by omega)).trans h.b1, (k.block _ (by omega)).trans h.b2, (k.block _ (by omega)).trans h.b3, zai h.row k (fun g e => (h.row.lt g e).2)⟩
theorem OIn.start (w : World) (A : RAtom) (nv tv av : Value) : OIn w A nv tv av [] (.slice none 0 0)
  ((((w.alloc (.cells #[nv, tv] 258)).alloc (.cells #[.string A.pred, av, .bool A.no, .int .i64 A.at_, .int .i64 A.noAt] 243)).alloc (.cells #[.string { data := #[] }, .slice none 0 0, .bool false, .int .i64 0, .int .i64 0] 243)).alloc (.cells #[.string A.pred, .slice none 0 0, .bool false, .int .i64 0, .int .i64 0] 243)) := by
 refine ⟨(((((Below.refl _ w).alloc (Nat.le_refl _) _).alloc (by simp) _).alloc (by simp; omega) _).alloc (by simp; omega) _), ?_, ?_, ?_, ?_, World.ownsRow_nil _ _ _ _⟩
 ·rw [Below.heap_alloc _ _ _ (by simp <;> omega), Below.heap_alloc _ _ _ (by simp <;> omega), Below.heap_alloc _ _ _ (by simp)]
  exact heap_alloc_new w _
 ·rw [Below.heap_alloc _ _ _ (by simp <;> omega), Below.heap_alloc _ _ _ (by simp)]
  have := heap_alloc_new (w.alloc (.cells #[nv, tv] 258)) (.cells #[.string A.pred, av, .bool A.no, .int .i64 A.at_, .int .i64 A.noAt] 243)
  simpa using this
 ·rw [Below.heap_alloc _ _ _ (by simp)]
  have := heap_alloc_new ((w.alloc (.cells #[nv, tv] 258)).alloc (.cells #[.string A.pred, av, .bool A.no, .int .i64 A.at_, .int .i64 A.noAt] 243)) (.cells #[.string { data := #[] }, .slice none 0 0, .bool false, .int .i64 0, .int .i64 0] 243)
  simpa using this
 ·have := heap_alloc_new (((w.alloc (.cells #[nv, tv] 258)).alloc (.cells #[.string A.pred, av, .bool A.no, .int .i64 A.at_, .int .i64 A.noAt] 243)).alloc (.cells #[.string { data := #[] }, .slice none 0 0, .bool false, .int .i64 0, .int .i64 0] 243)) (.cells #[.string A.pred, .slice none 0 0, .bool false, .int .i64 0, .int .i64 0] 243)
  simpa using this
theorem OIn.add {w : World} {A : RAtom} {nv tv av : Value} {l : List RTerm} {v : Value} {wr W w5 : World} (h : OIn w A nv tv av l v wr) (hW : Kept [] wr W) (hg : W.grownBy w5 v.ownBlock) {v' : Value} {t : RTerm}
  (hown : w5.ownsRow (w.heap.size + 4) 317 3 v' (l.length + 1) (cellsOf l ++ t.cells)) :
  OIn w A nv tv av (l ++ [t]) v' (w5.setCell ⟨w.heap.size + 1 + 1 + 1, 1, none⟩ v') ∧ w5.heap[w.heap.size + 1 + 1 + 1]? = some (.cells #[.string A.pred, v, .bool false, .int .i64 0, .int .i64 0] 243 (0, 0)) := by
 have hl := h.lt
 have hz := hW.size
 have k5 : Kept v.ownBlock.toList wr w5 := (hW.mono (by simp)).trans (Kept.of_grown hg)
 have far : ∀ b, b < w.heap.size + 4 → b ∉ v.ownBlock.toList := fun b hb hm => by have := (h.row.lt b (by simpa using hm)).1; omega
 have blk : ∀ b, b < w.heap.size + 4 → w5.heap[b]? = wr.heap[b]? := fun b hb => k5.block b (by omega) (far b hb)
 have kS : ∀ b, b ≠ w.heap.size + 1 + 1 + 1 → (w5.setCell ⟨w.heap.size + 1 + 1 + 1, 1, none⟩ v').heap[b]? = w5.heap[b]? := fun b hb => Below.heap_setCell _ _ _ _ (by simpa using hb)
 have b35 := (blk (w.heap.size + 1 + 1 + 1) (by omega)).trans h.b3
 have s5 := k5.size
 refine ⟨⟨?_, ?_, ?_, ?_, ?_, ?_⟩, b35⟩
 ·refine ⟨k5.os.trans h.below.os, k5.tape.trans h.below.tape, k5.output.trans h.below.output, by simp; omega, fun b hb => ?_⟩
  rw [kS b (by omega), blk b (by omega)]
  exact h.below.block b hb
 ·rw [kS _ (by omega), blk _ (by omega)]; exact h.b0
 ·rw [kS _ (by omega), blk _ (by omega)]; exact h.b1
 ·rw [kS _ (by omega), blk _ (by omega)]; exact h.b2
 ·rw [heap_setCell_same _ _ _ _ _ _ b35]; rfl
 ·rw [zjb, List.length_append]
  exact ownsRow_setCell_below hown (by simp) _
theorem OIn.fin {w : World} {A : RAtom} {nv tv av : Value} {l : List RTerm} {v : Value} {wr : World} (h : OIn w A nv tv av l v wr) (u0 u1 u2 u3 u4 : Value) : Below w.heap.size w (((((wr.setCell ⟨w.heap.size + 1 + 1, 0, none⟩ u0).setCell ⟨w.heap.size + 1 + 1, 1, none⟩ u1).setCell ⟨w.heap.size + 1 + 1, 2, none⟩ u2).setCell ⟨w.heap.size + 1 + 1, 3, none⟩ u3).setCell ⟨w.heap.size + 1 + 1, 4, none⟩ u4) ∧ (((((wr.setCell ⟨w.heap.size + 1 + 1, 0, none⟩ u0).setCell ⟨w.heap.size + 1 + 1, 1, none⟩ u1).setCell ⟨w.heap.size + 1 + 1, 2, none⟩ u2).setCell ⟨w.heap.size + 1 + 1, 3, none⟩ u3).setCell ⟨w.heap.size + 1 + 1, 4, none⟩ u4).ownsRow w.heap.size 317 3 v l.length (cellsOf l) :=
 ⟨((((h.below.setCell (by simp; omega) _).setCell (by simp; omega) _).setCell (by simp; omega) _).setCell (by simp; omega) _).setCell (by simp; omega) _, zaf (ownsRow_setCell_below (ownsRow_setCell_below (ownsRow_setCell_below (ownsRow_setCell_below (ownsRow_setCell_below h.row (by simp) _) (by simp) _) (by simp) _) (by simp) _) (by simp) _) (by omega)⟩
def OfPost (w : World) (E : Env) (A : RAtom) : Ending → World → Prop := fun e w' => ∃ v, e = .returned (.agg #[.string A.pred, v, .bool false, .int .i64 0, .int .i64 0]) ∧ w'.ownsRow w.heap.size 317 3 v (ofA E A).terms.length (cellsOf (ofA E A).terms) ∧ Below w.heap.size w w'
theorem take_of {E : Env} {l : List RTerm} {k : Nat} (h : k < l.length) : (l.take (k + 1)).map (ofT E) = (l.take k).map (ofT E) ++ [ofT E l[k]] := by
 rw [List.take_succ_eq_append_getElem h, List.map_append]; rfl
set_option maxRecDepth 100000 in
theorem rof_any (w : World) (base : Nat) (E : Env) (A : RAtom) (an at' aa : Option Addr) (cn ct ca : Nat) (he : EnvIn w base E (.slice an E.length cn) (.slice at' E.length ct)) (hA : w.ownsRow base 317 3 (.slice aa A.terms.length ca) A.terms.length (cellsOf A.terms)) (hel : A.terms.length ≤ 1000) :
  Calls Tryz.prog 192 #[.agg #[.slice an E.length cn, .slice at' E.length ct], .agg #[.string A.pred, .slice aa A.terms.length ca, .bool A.no, .int .i64 A.at_, .int .i64 A.noAt]] w (OfPost w E A) := by
 obtain ⟨i0, hi, hz0, hz1, hz2⟩ := info_parts zm1
 have H0 := hide (OIn.start w A (.slice an E.length cn) (.slice at' E.length ct) (.slice aa A.terms.length ca))
 have HE := hide he
 have HA := hide hA
 clear he hA
 go_enter Tryz.func192, Tryz.ntmps192
 go_wp2_with fail
 go_loopg [6] A.terms.length (fun gg i wr => ∃ (k : Nat) (v : Value), k ≤ A.terms.length ∧ gg = A.terms.length - k ∧ i = .int .i64 k ∧ OIn w A (.slice an E.length cn) (.slice at' E.length ct) (.slice aa A.terms.length ca) ((A.terms.take k).map (ofT E)) v wr)
 case atStart => exact ⟨0, _, Nat.zero_le _, rfl, rfl, zaa H0⟩
 case round =>
  clear H0
  obtain ⟨k, v, hk, hgk, rfl, hm⟩ := hrel
  have hln : ((A.terms.take k).map (ofT E)).length = k := by simp; omega
  obtain ⟨a1, c1, hv⟩ := zac hm.row
  rw [hln] at hv
  subst hv
  obtain ⟨p1, pf1⟩ := zab hm.b1 1
  have HM := hide hm
  have HLN := hide hln
  clear hm pf1 hln
  by_cases hlk : k < A.terms.length
  ·have hki : (k : Int) < A.terms.length := by omega
   go_wp2_with fail
   refine ze2 6 mixedP (by kernel_rfl) fun W hW => ?_
   simp only [List.take_succ_cons, List.take_zero, List.drop_succ_cons, List.drop_zero]
   have HMW : Hid (OIn w A (.slice an E.length cn) (.slice at' E.length ct) (.slice aa A.terms.length ca) ((A.terms.take k).map (ofT E)) (.slice a1 k c1) W) := by rw [hW]; exact (zaa HM).past (Below.refl _ _).drew
   clear hW HM p1
   obtain ⟨p1, pf1⟩ := zab (zaa HMW).b1 1
   obtain ⟨q0, qf0⟩ := zab (zaa HMW).b0 0
   obtain ⟨q1, qf1⟩ := zab (zaa HMW).b0 1
   obtain ⟨ga, c1', hv1, -, -, hnc, hcm, d0, d1, d2⟩ := zdx (zai (zaa HA) (zaa HMW).below (fun g e => ((zaa HA).lt g e).2)) k hlk
   injection hv1 with i1 i2 i3
   subst i1 i3
   clear pf1 qf0 qf1
   repeat still_step
   refine wpStill_nil ?_
   clear p1 q0 q1
   go_wp2_with fail
   refine (zlx W base E an at' cn ct ((zaa HE).below (zaa HMW).below) A.terms[k].text A.terms[k].isVar A.terms[k].at_).mono ?_
   rintro e w1 ⟨rfl, hb1⟩
   have HM1 := hide ((zaa HMW).past hb1)
   clear HMW hb1 d0 d1 d2
   obtain ⟨x, hx⟩ : ∃ x, zdu E A.terms[k] = x := ⟨_, rfl⟩
   have hev : zdu E ⟨A.terms[k].text, A.terms[k].isVar, A.terms[k].at_⟩ = x := hx
   rw [hev]
   have HT := hide (show (A.terms.take (k + 1)).map (ofT E) = (A.terms.take k).map (ofT E) ++ [⟨x, false, 0⟩] by rw [take_of hlk, ofT, hx])
   clear hev hx
   obtain ⟨r1, rf1⟩ := zab (zaa HM1).b3 1
   have hlt1 := (zaa HM1).lt
   have hrow := (zaa HM1).row
   rw [zaa HLN] at hrow
   have hadd := hide (fun (w5 : World) (v' : Value) hg hown => OIn.add (w5 := w5) (v' := v') (W := w1.alloc (.cells #[.string x, .bool false, .int .i64 0] 317)) (t := ⟨x, false, 0⟩) (zaa HM1) ((Kept.refl [] _).alloc _) hg hown)
   rw [zaa HLN] at hadd
   have hnew := hide (World.news_of_block (heap_alloc_new w1 (.cells #[.string x, .bool false, .int .i64 0] 317)))
   have HR := hide (hrow.alloc (.cells #[.string x, .bool false, .int .i64 0] 317))
   clear hrow
   go_wp2_with (at_builtin; go_must (refine wpList_append_lies _ rfl _ _ _ rfl (w.heap.size + 4) 317 i0 (.agg #[.string { data := #[] }, .bool false, .int .i64 0]) 3 32 Tryz.underlying241 hi hz0 hz1 hz2 rfl (by decide) (.slice a1 k c1) k _ rfl (zaa HR) ⟨w1.heap.size, 0, none⟩ 1 1 [.string x, .bool false, .int .i64 0] rfl rfl (zaa hnew) (by simp [Value.oneCell']) (by decide) (by unfold maxLen; omega) (by omega) (by simp; omega) _ rfl ?_; intro g cap w5 hown5 hg5 hat5 hlt5; obtain ⟨e1, e2⟩ := zaa hadd w5 _ hg5 hown5; obtain ⟨z0, zf0⟩ := zab e2 1))
   go_roundg (A.terms.length - (k + 1))
   case measure => omega
   case rel => exact ⟨k + 1, _, by omega, rfl, by go_num, by rw [zaa HT]; exact e1⟩
  ·have hkk : k = A.terms.length := by omega
   have HK := hide hkk
   clear hkk
   obtain ⟨t0, tf0⟩ := zab (zaa HM).b2 0
   obtain ⟨t1, tf1⟩ := zab (zaa HM).b2 1
   obtain ⟨t2, tf2⟩ := zab (zaa HM).b2 2
   obtain ⟨t3, tf3⟩ := zab (zaa HM).b2 3
   obtain ⟨t4, tf4⟩ := zab (zaa HM).b2 4
   obtain ⟨o0, of0⟩ := zab (zaa HM).b3 0
   obtain ⟨o1, of1⟩ := zab (zaa HM).b3 1
   obtain ⟨o2, of2⟩ := zab (zaa HM).b3 2
   obtain ⟨o3, of3⟩ := zab (zaa HM).b3 3
   obtain ⟨o4, of4⟩ := zab (zaa HM).b3 4
   clear of0 of1 of2 of3 of4
   go_wp2_with fail
   refine bodyPost_ret (v := .agg #[.string A.pred, .slice a1 k c1, .bool false, .int .i64 0, .int .i64 0]) (by simp [results, Tryz.results192, go_sem, t0, t1, t2, t3, t4]) rfl ⟨_, rfl, ?_, ((zaa HM).fin _ _ _ _ _).1⟩
   have := ((zaa HM).fin (.string A.pred) (.slice a1 k c1) (.bool false) (.int .i64 0) (.int .i64 0)).2
   rw [zaa HK, List.take_length] at this
   rw [zaa HK]
   exact this
end
section
open Go.RowKit
structure RFact where
 thing : RAtom
 text : ByteArray
 s : Nat
 h : Nat
 r : Nat
 fr : List Nat
structure FG where
 F : RFact
 tv : Value
 fv : Value
def FG.cells (f : FG) : List Value := [.string f.F.thing.pred, f.tv, .bool f.F.thing.no, .int .i64 f.F.thing.at_, .int .i64 f.F.thing.noAt, .string f.F.text, .int .i64 f.F.s, .int .i64 f.F.h, .int .i64 f.F.r, f.fv]
def ints (l : List Nat) : List Value := l.map fun (x : Nat) => .int .i64 x
structure FactIn (w : World) (base : Nat) (f : FG) : Prop where
 t : w.ownsRow base 317 3 f.tv f.F.thing.terms.length (cellsOf f.F.thing.terms)
 i : w.ownsRow base 3 1 f.fv f.F.fr.length (ints f.F.fr)
structure FactsIn (w : World) (base : Nat) (v : Value) (fs : List FG) : Prop where
 row : w.ownsRow base 262 10 v fs.length (fs.flatMap FG.cells)
 each : ∀ f ∈ fs, FactIn w base f
theorem FactIn.below {w w' : World} {base : Nat} {f : FG} (h : FactIn w base f) (k : Below w.heap.size w w') : FactIn w' base f := ⟨zai h.t k (fun g e => (h.t.lt g e).2), zai h.i k (fun g e => (h.i.lt g e).2)⟩
theorem FactsIn.below {w w' : World} {base : Nat} {v : Value} {fs : List FG} (h : FactsIn w base v fs) (k : Below w.heap.size w w') : FactsIn w' base v fs := ⟨zai h.row k (fun g e => (h.row.lt g e).2), fun f hf => (h.each f hf).below k⟩
theorem FactIn.low {w : World} {base base' : Nat} {f : FG} (h : FactIn w base f) (hb : base' ≤ base) : FactIn w base' f := ⟨zaf h.t hb, zaf h.i hb⟩
theorem ziq {w : World} {base : Nat} {v : Value} {fs : List FG} (h : w.ownsRow base 262 10 v fs.length (fs.flatMap FG.cells)) {k : Nat} (hk : k < fs.length) : ∃ g cap, v = .slice (some ⟨g, 0, none⟩) fs.length cap ∧ base ≤ g ∧ g < w.heap.size ∧ fs.length ≤ cap ∧ cap ≤ maxLen ∧ ∀ j, j < 10 → w.cell? ⟨g, k * 10 + j, none⟩ = (fs[k].cells)[j]? :=
 zc7 (f := FG.cells) (fun _ => rfl) h k hk
def ze9 (t : ByteArray) : List RFact → Nat → Int
 | [], _ => -1
 | x :: r, k => if x.text.toList == t.toList then k else ze9 t r (k + 1)
def zdk (l : List RFact) (t : ByteArray) : Int := ze9 t l 0
theorem find_step {t : ByteArray} {l : List RFact} {k : Nat} (h : k < l.length) : ze9 t (l.drop k) k = if l[k].text.toList == t.toList then (k : Int) else ze9 t (l.drop (k + 1)) (k + 1) := by
 rw [List.drop_eq_getElem_cons h]; rfl
set_option maxRecDepth 100000 in
theorem znv (w : World) (base : Nat) (a : Option Addr) (c : Nat) (fs : List FG) (t : ByteArray) (h : w.ownsRow base 262 10 (.slice a fs.length c) fs.length (fs.flatMap FG.cells)) :
  Calls Tryz.prog 133 #[.slice a fs.length c, .string t] w fun e w' => e = .returned (.int .i64 (zdk (fs.map (·.F)) t)) ∧ w' = w := by
 have hmx := zbt h
 unfold maxLen at hmx
 have HH := hide h
 clear h
 go_enter Tryz.func133, Tryz.ntmps133
 go_wp2_with fail
 go_loop [5] (fun i => ∃ k : Nat, k ≤ fs.length ∧ i = .int .i64 k ∧ ze9 t ((fs.map (·.F)).drop k) k = zdk (fs.map (·.F)) t) (fun i => fs.length - (intOf i).toNat)
 case atStart => exact ⟨0, Nat.zero_le _, rfl, rfl⟩
 case round =>
  obtain ⟨k, hk, rfl, hix⟩ := hrel
  have HX := hide hix
  clear hix
  by_cases hlk : k < fs.length
  ·obtain ⟨g, cap, hv, -, hgl, hnc, hcm, hc⟩ := ziq (zaa HH) hlk
   injection hv with h1 h2 h3
   subst h1 h3
   have p5 := hc 5 (by decide)
   have HS := hide (find_step (t := t) (l := fs.map (·.F)) (k := k) (by simpa using hlk))
   simp only [FG.cells, List.getElem?_cons_succ, List.getElem?_cons_zero] at p5
   clear hc
   rw [List.getElem_map] at HS
   cases hq : fs[k].F.text.toList == t.toList with
   | true =>
    go_wp2_with fail
    go_ret
    exact ⟨by rw [← zaa HX, zaa HS, if_pos hq]; rfl, rfl⟩
   | false =>
    go_wp2_with fail
    go_round
    case rel => exact ⟨k + 1, by omega, by go_num, by rw [← zaa HX, zaa HS, if_neg (by rw [hq]; decide)]⟩
    case measure => simp [intOf]; omega
  ·go_wp2_with fail
   go_ret
   exact ⟨by rw [← zaa HX, List.drop_of_length_le (by simp; omega)]; rfl, rfl⟩
def zdd (a b : RFact) : Bool := if a.s != b.s then decide (a.s < b.s) else if a.h != b.h then decide (a.h < b.h) else zd0 a.text b.text
set_option maxRecDepth 100000 in
theorem ahead_any (w : World) (A B : RFact) (a1 a2 b1 b2 : Option Addr) (n1 n2 m1 m2 c1 c2 d1 d2 : Nat) :
  Calls Tryz.prog 231 #[.agg #[.string A.thing.pred, .slice a1 n1 c1, .bool A.thing.no, .int .i64 A.thing.at_, .int .i64 A.thing.noAt, .string A.text, .int .i64 A.s, .int .i64 A.h, .int .i64 A.r, .slice a2 n2 c2], .agg #[.string B.thing.pred, .slice b1 m1 d1, .bool B.thing.no, .int .i64 B.thing.at_, .int .i64 B.thing.noAt, .string B.text, .int .i64 B.s, .int .i64 B.h, .int .i64 B.r, .slice b2 m2 d2]] w fun e w' => e = .returned (.bool (zdd A B)) ∧ Below w.heap.size w w' := by
 have b0 := ((Below.refl w.heap.size w).alloc (Nat.le_refl _) (.cells #[.string A.thing.pred, .slice a1 n1 c1, .bool A.thing.no, .int .i64 A.thing.at_, .int .i64 A.thing.noAt, .string A.text, .int .i64 A.s, .int .i64 A.h, .int .i64 A.r, .slice a2 n2 c2] 262)).alloc (by simp) (.cells #[.string B.thing.pred, .slice b1 m1 d1, .bool B.thing.no, .int .i64 B.thing.at_, .int .i64 B.thing.noAt, .string B.text, .int .i64 B.s, .int .i64 B.h, .int .i64 B.r, .slice b2 m2 d2] 262)
 cases h1 : ((A.s : Int) != (B.s : Int)) with
 | true =>
  have hs : (A.s != B.s) = true := by simp at h1 ⊢; omega
  have HE := hide (show zdd A B = decide ((A.s : Int) < (B.s : Int)) by unfold zdd; rw [if_pos hs]; simp)
  clear hs
  go_enter Tryz.func231, Tryz.ntmps231
  go_wp2_with fail
  all_goals
   go_ret
   exact ⟨by rw [zaa HE]; first | rfl | simp [*], b0⟩
 | false =>
  have hs : (A.s != B.s) = false := by simp at h1 ⊢; omega
  cases h2 : ((A.h : Int) != (B.h : Int)) with
  | true =>
   have hh : (A.h != B.h) = true := by simp at h2 ⊢; omega
   have HE := hide (show zdd A B = decide ((A.h : Int) < (B.h : Int)) by unfold zdd; rw [if_neg (by rw [hs]; decide), if_pos hh]; simp)
   clear hs hh
   go_enter Tryz.func231, Tryz.ntmps231
   go_wp2_with fail
   all_goals
    go_ret
    exact ⟨by rw [zaa HE]; first | rfl | simp [*], b0⟩
  | false =>
   have hh : (A.h != B.h) = false := by simp at h2 ⊢; omega
   have HE := hide (show zdd A B = zd0 A.text B.text by unfold zdd; rw [if_neg (by rw [hs]; decide), if_neg (by rw [hh]; decide)])
   clear hs hh
   go_enter Tryz.func231, Tryz.ntmps231
   go_wp2_with fail
   all_goals
    go_ret
    exact ⟨by rw [zaa HE]; rfl, b0⟩
end
section
open Go.RowKit
abbrev Way := Env × List Nat
def wayF (a : RAtom) (x : Way) : List RFact → Nat → List Way
 | [], _ => []
 | f :: r, i => (match zch x.1 a f.thing with | some e => [(e, x.2 ++ [i])] | none => []) ++ wayF a x r (i + 1)
def wayN (a : RAtom) (l : List RFact) (now : List Way) : List Way := now.flatMap fun x => wayF a x l 0
def wayP (l : List RFact) : List RAtom → List Way → List Way
 | [], now => now
 | a :: r, now => wayP l r (if a.no then now else wayN a l now)
def zb4 (A : RAtom) : ByteArray := ⟨(zdb A).toArray⟩
def negB (l : List RFact) (e : Env) (a : RAtom) : Bool := !a.no || decide (zdk l (zb4 (ofA e a)) < 0)
def zk4 (R : RRule) (l : List RFact) : List Way := (wayP l R.body [([], [])]).filter fun x => R.body.all (negB l x.1)
theorem wayF_step {a : RAtom} {x : Way} {l : List RFact} {k : Nat} (h : k < l.length) : wayF a x (l.drop k) k = (match zch x.1 a l[k].thing with | some e => [(e, x.2 ++ [k])] | none => []) ++ wayF a x (l.drop (k + 1)) (k + 1) := by
 rw [List.drop_eq_getElem_cons h]; rfl
theorem wayP_step {l : List RFact} {b : List RAtom} {k : Nat} {now : List Way} (h : k < b.length) : wayP l (b.drop k) now = wayP l (b.drop (k + 1)) (if b[k].no then now else wayN b[k] l now) := by
 rw [List.drop_eq_getElem_cons h]; rfl
theorem wayN_step {a : RAtom} {l : List RFact} {now : List Way} {i : Nat} (h : i < now.length) : wayN a l (now.drop i) = wayF a now[i] l 0 ++ wayN a l (now.drop (i + 1)) := by
 unfold wayN; rw [List.drop_eq_getElem_cons h, List.flatMap_cons]
theorem wayF_len (a : RAtom) (x : Way) : ∀ (l : List RFact) (i : Nat), (wayF a x l i).length ≤ l.length
 | [], _ => Nat.le_refl _
 | f :: r, i => by
  rw [wayF, List.length_append, List.length_cons]
  have := wayF_len a x r (i + 1)
  split <;> simp <;> omega
theorem wayN_len (a : RAtom) (l : List RFact) : ∀ now : List Way, (wayN a l now).length ≤ now.length * l.length
 | [] => by simp [wayN]
 | x :: r => by
  have h1 := wayF_len a x l 0
  have h2 := wayN_len a l r
  have e : wayN a l (x :: r) = wayF a x l 0 ++ wayN a l r := by simp [wayN]
  rw [e, List.length_append, List.length_cons, Nat.succ_mul]
  omega
theorem zhm : ∀ (ts us : List RTerm) (e e' : Env), zci e ts us = some e' → e'.length ≤ e.length + ts.length
 | [], us, e, e', h => by cases us <;> (rw [zci] at h <;> first | (cases h; simp) | simp_all)
 | t :: ts, [], e, e', h => by rw [zci] at h <;> first | (cases h; simp) | simp_all
 | t :: ts, u :: us, e, e', h => by
  rw [zci] at h
  split at h
  ·have := zhm ts us _ _ h
   simp at this ⊢; omega
  ·split at h
   ·have := zhm ts us _ _ h
    simp; omega
   ·cases h
theorem zmb {e e' : Env} {a t : RAtom} (h : zch e a t = some e') : e'.length ≤ e.length + a.terms.length := by
 unfold zch at h
 split at h
 ·exact zhm _ _ _ _ h
 ·cases h
structure WG where
 e : Env
 fr : List Nat
 nv : Value
 tv : Value
 fv : Value
def WG.W (x : WG) : Way := (x.e, x.fr)
def WG.cells (x : WG) : List Value := [x.nv, x.tv, x.fv]
structure WayIn (w : World) (base : Nat) (x : WG) : Prop where
 env : EnvIn w base x.e x.nv x.tv
 fr : w.ownsRow base 3 1 x.fv x.fr.length (ints x.fr)
 nil : x.fr = [] → x.fv = .slice none 0 0
structure WaysIn (w : World) (base : Nat) (v : Value) (ws : List WG) : Prop where
 row : w.ownsRow base 325 3 v ws.length (ws.flatMap WG.cells)
 each : ∀ x ∈ ws, WayIn w base x
theorem WayIn.below {w w' : World} {base : Nat} {x : WG} (h : WayIn w base x) (k : Below w.heap.size w w') : WayIn w' base x := ⟨h.env.below k, zai h.fr k (fun g e => (h.fr.lt g e).2), h.nil⟩
theorem WaysIn.below {w w' : World} {base : Nat} {v : Value} {ws : List WG} (h : WaysIn w base v ws) (k : Below w.heap.size w w') : WaysIn w' base v ws := ⟨zai h.row k (fun g e => (h.row.lt g e).2), fun x hx => (h.each x hx).below k⟩
theorem WayIn.low {w : World} {base base' : Nat} {x : WG} (h : WayIn w base x) (hb : base' ≤ base) : WayIn w base' x := ⟨⟨zaf h.env.ns hb, zaf h.env.ts hb, h.env.nil⟩, zaf h.fr hb, h.nil⟩
theorem WayIn.keptT {B : List Nat} {w w' : World} {base : Nat} {x : WG} (h : WayIn w base x) (k : Kept B w w') (h1 : ∀ b ∈ B, NotT w 9 b) (h2 : ∀ b ∈ B, NotT w 3 b) : WayIn w' base x :=
 ⟨⟨zbq h.env.ns k (fun b hb => .inr (h1 b hb)), zbq h.env.ts k (fun b hb => .inr (h1 b hb)), h.env.nil⟩, zbq h.fr k (fun b hb => .inr (h2 b hb)), h.nil⟩
theorem WaysIn.add {wX W w5 : World} {base : Nat} {v v' : Value} {ws : List WG} {x : WG} (h : WaysIn wX base v ws) (hx : WayIn wX base x) (hW : Kept [] wX W) (hg : W.grownBy w5 v.ownBlock) (hown : w5.ownsRow base 325 3 v' (ws.length + 1) (ws.flatMap WG.cells ++ x.cells)) : WaysIn w5 base v' (ws ++ [x]) := by
 have k5 : Kept v.ownBlock.toList wX w5 := (hW.mono (by simp)).trans (Kept.of_grown hg)
 have n1 : ∀ b ∈ v.ownBlock.toList, NotT wX 9 b := zaz h.row (by decide)
 have n2 : ∀ b ∈ v.ownBlock.toList, NotT wX 3 b := zaz h.row (by decide)
 refine ⟨?_, fun y hy => ?_⟩
 ·rw [List.length_append, List.flatMap_append]; simpa using hown
 ·rcases List.mem_append.1 hy with hy | hy
  ·exact (h.each y hy).keptT k5 n1 n2
  ·rw [List.mem_singleton.1 hy]; exact hx.keptT k5 n1 n2
theorem WaysIn.other {wX W w5 : World} {base : Nat} {v u : Value} {ws us : List WG} (h : WaysIn wX base v ws) (hu : WaysIn wX base u us) (hne : ∀ g, v.ownBlock = some g → u.ownBlock ≠ some g) (hW : Kept [] wX W) (hg : W.grownBy w5 v.ownBlock) : WaysIn w5 base u us := by
 have k5 : Kept v.ownBlock.toList wX w5 := (hW.mono (by simp)).trans (Kept.of_grown hg)
 have n1 : ∀ b ∈ v.ownBlock.toList, NotT wX 9 b := zaz h.row (by decide)
 have n2 : ∀ b ∈ v.ownBlock.toList, NotT wX 3 b := zaz h.row (by decide)
 exact ⟨zbb hu.row (fun g e => k5.block g (hu.row.lt g e).2 (fun hm => hne g (by simpa using hm) e)), fun y hy => (hu.each y hy).keptT k5 n1 n2⟩
theorem way_at {w : World} {base : Nat} {v : Value} {ws : List WG} (h : w.ownsRow base 325 3 v ws.length (ws.flatMap WG.cells)) {k : Nat} (hk : k < ws.length) : ∃ g cap, v = .slice (some ⟨g, 0, none⟩) ws.length cap ∧ base ≤ g ∧ g < w.heap.size ∧ ws.length ≤ cap ∧ cap ≤ maxLen ∧ w.cell? ⟨g, k * 3, none⟩ = some ws[k].nv ∧ w.cell? ⟨g, k * 3 + 1, none⟩ = some ws[k].tv ∧ w.cell? ⟨g, k * 3 + 2, none⟩ = some ws[k].fv := by
 obtain ⟨g, cap, hv, hb, hgl, hnc, hcm, hc⟩ := zc7 (f := WG.cells) (fun _ => rfl) h k hk
 exact ⟨g, cap, hv, hb, hgl, hnc, hcm, hc 0 (by decide), hc 1 (by decide), hc 2 (by decide)⟩
theorem infoWay : (Tryz.prog.info? 325).map (fun i => (i.zero, i.size, i.bytes)) = some (some (.agg #[.slice none 0 0, .slice none 0 0, .slice none 0 0]), 3, 72) := by kernel_rfl
theorem znb : (Tryz.prog.info? 262).map (fun i => (i.zero, i.size, i.bytes)) = some (some (.agg #[.string { data := #[] }, .slice none 0 0, .bool false, .int .i64 0, .int .i64 0, .string { data := #[] }, .int .i64 0, .int .i64 0, .int .i64 0, .slice none 0 0]), 10, 128) := by kernel_rfl
theorem ints_one {l : List Nat} : ∀ u ∈ ints l, u.oneCell' = true := by
 intro u hu
 obtain ⟨x, _, rfl⟩ := List.mem_map.1 hu
 rfl
theorem ints_append (a b : List Nat) : ints (a ++ b) = ints a ++ ints b := List.map_append
end
end Go.Proofs.YtldkpahaocjdpaaGreat
