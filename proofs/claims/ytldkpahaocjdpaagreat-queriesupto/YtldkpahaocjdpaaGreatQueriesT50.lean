/-
  Proved here: whatever script of steps is handed in, affidavitlaw.Queries answers true, and the script reads afterwards as it read before. Condition: what is handed in is of bulk at most 1048576 (the second form).
-/
import Derived.Test.YtldkpahaocjdpaaGreatQueriesT02
import Derived.Test.YtldkpahaocjdpaaGreatQueriesT30
import Derived.Test.YtldkpahaocjdpaaGreatQueriesT49
set_option maxHeartbeats 16000000
namespace Go.Proofs.YtldkpahaocjdpaaGreat
section
open Go.ChangeShapes Go.WideShapes Go.ChangeAt Go.RowKit Go.Deep
theorem step_query (w0 : World) (o : OpV) (h : OpOk o) (hk : o.kd = 4) (hs : o.s.size ≤ 2000000) : zoz w0 o := by
 intro w b psv bv tv sv es mb mt ms _ hL l1 l2 l3 l4
 obtain ⟨kd, a, bb, s, t, u, at_, nt, ct⟩ := o
 cases hk
 exact stp_askQ w b psv bv tv sv es mb mt ms 4 a bb s t u at_ nt ct hL (by omega) h.a (.inl rfl) fun w' p lo hL' hE => zqt w' b psv bv tv sv es mb mt ms hL' p.x p.y p.s lo hE (by omega) a bb s t u at_ nt ct hs
theorem op0_okQ : OpOk ⟨4, 0, 10, { data := #[102, 97, 114, 40, 88, 41] }, { data := #[] }, { data := #[] }, none, 0, 0⟩ := ⟨by simp, by simp, by simp [ByteArray.size, maxLen], by simp [ByteArray.size], by simp [ByteArray.size]⟩
theorem zi6 (w0 : World) (o : OpV) (h : OpOk o) (hs : o.s.size ≤ 2000000) (hk : o.kd ∈ ([1, 4] : List Int)) : zoz w0 o := by
 simp only [List.mem_cons, List.not_mem_nil, or_false] at hk
 rcases hk with hk | hk
 ·exact step_load w0 o h hk
 ·exact step_query w0 o h hk hs
set_option maxRecDepth 100000 in
theorem queries_any (w : World) (sa : Option Addr) (len cap : Nat) (O : Nat → OpV) (h : Scr w sa len O) (hok : ∀ i, i < len → OpOk (O i) ∧ (O i).s.size + (O i).t.size + (O i).u.size ≤ 1048576) (hl : len ≤ 1048576) :
  Calls Tryz.prog 5 #[.slice sa len cap] w (zcz w) := by
 have b0 := (Below.refl w.heap.size w).alloc (Nat.le_refl _) (.cells #[.int .i64 1, .int .i64 4] 3)
 have hk : ∀ j (hj : j < ([1, 4] : List Int).length), (w.alloc (.cells #[.int .i64 1, .int .i64 4] 3)).cell? ⟨w.heap.size, j, none⟩ = some (.int .i64 ([1, 4] : List Int)[j]) := fun j hj => by
  rw [World.cell?_alloc_at _ _ _ _ rfl]
  match j, hj with
  | 0, _ => rfl
  | 1, _ => rfl
 have hP := hide (plays_gen w _ b0 4 0 10 { data := #[102, 97, 114, 40, 88, 41] } { data := #[] } { data := #[] } none 0 0 sa len cap O w.heap.size [1, 4] (h.below b0) hl hk (by simp) (by simp) (zi6 w _ op0_okQ (by simp [ByteArray.size]) (by simp)) (fun i hi hm => zi6 w (O i) (hok i hi).1 (by have := (hok i hi).2; omega) hm) looks_ok)
 clear h hok hk
 go_enter Tryz.func5, Tryz.ntmps5
 go_wp2_with fail
 refine (zaa hP).mono ?_
 rintro e w1 ⟨rfl, hb1⟩
 have HB := hide (b0.trans (hb1.mono (by simp)))
 clear hb1 b0 hP
 go_wp2_with fail
 go_ret
 exact ⟨rfl, zaa HB⟩
set_option maxRecDepth 100000 in
theorem zlk (os : Os) (started : os.Started) (H : Type) (enc : TypeId × Value → H) (F : Stop.Interp) :
  ReturnsInHanded {} Tryz.checked os 5 .any ((Rows.OpenSpec.upto Rows.queriesSpec).pre6 enc Tryz.prog Tryz.f5 Rows.queriesUptoRow.domain false) (((Rows.OpenSpec.upto Rows.queriesSpec).at F).post enc Tryz.prog Tryz.f5 false true false false) := by
 refine returnsInHanded_of_cond (C := Tryz.checked) (s := Rows.OpenSpec.upto Rows.queriesSpec) (k := Rows.uptoSmall) rfl own2 started (by kernel_rfl) Tryz.func5
  (OpenSpec.witness (enc := enc) (C := Tryz.checked) (s := Rows.OpenSpec.upto Rows.queriesSpec) (k := Rows.uptoSmall) rfl false ⟨#[], #[.slice none 0 0], []⟩ 8 (by kernel_rfl) (by kernel_rfl) (by kernel_rfl)
   (x := ([.nil], [], [])) (by kernel_rfl) rfl (by kernel_rfl)) ?_
 intro W base args ds gs before hval0 hW _ hk _
 have hval : ∀ (j : Nat) t v, Tryz.f5.params[j]? = some t → args[j]? = some v → Value.okWide Tryz.prog W .any base t v := hval0
 have hW' := hW
 obtain ⟨p, q, hA0, hV, rfl, _, _⟩ := hW
 have hA : DataW.TrodAll enc Tryz.prog W 0 (fun _ => true) true Tryz.f5.params.toList args.toList ds p := hA0
 rw [Tryz.params5] at hA hval
 obtain ⟨v0, d0, rfl, rfl, h0⟩ := trodAll_one hA
 obtain ⟨rfl, rfl⟩ := trodVars_none hV
 clear hA0 hval0
 simp only [List.append_nil] at hW' hk
 have hlt : ∀ x ∈ p, x.block < W.heap.size := fun x hx => by simpa using hW'.lt x hx
 obtain ⟨a0, len, cap, rfl⟩ := okWide_slice Tryz.underlying22 (hval 0 22 v0 rfl rfl)
 have hargs : ∀ (W' : World), Below W.heap.size W W' → DataW.Trod enc Tryz.prog W' 0 (fun b => decide (b < W.heap.size)) true 22 (.slice a0 len cap) d0 p :=
  fun W' hn => Below.trod laid2 (by kernel_rfl) (of_decide_eq_true (by kernel_rfl)) h0 hn hlt
 have hb : Rows.uptoBulk d0 ≤ 1048576 := by
  have h := of_decide_eq_true hk
  simp only [Rows.uptoBulkAll] at h
  omega
 obtain ⟨O, hO, hok, hlen⟩ := zpv h0 hb
 refine (queries_any W a0 len cap O hO hok hlen).mono fun e W' ⟨he, hB⟩ => ?_
 subst he
 exact ⟨_, rfl, ⟨_, _, _, [], p, [], hW', trodAll_mk1 (shut_bool Tryz.underlying4 true), trodAll_mk1 (hargs _ hB), rfl, hB.frame _, fun h => by cases h⟩⟩
theorem queries_holds : Rows.QueriesUptoSaid :=
 OpenClaim.holds_of_cond 5 Tryz.f5 rfl rfl rfl rfl rfl rfl rfl ⟨rfl, rfl, rfl, rfl, rfl⟩ rfl rfl rfl rfl rfl zlb Tryz.func5 znp
  (of_decide_eq_true (by kernel_rfl)) (by unfold Func.isWrapper; first | (rw [if_pos (by decide +kernel)]; kernel_rfl) | (rw [if_neg (by decide +kernel)]; exact ⟨rfl, rfl⟩))
  (fun os started H enc _ F => zlk os started H enc F)
#print axioms queries_holds
end
end Go.Proofs.YtldkpahaocjdpaaGreat
