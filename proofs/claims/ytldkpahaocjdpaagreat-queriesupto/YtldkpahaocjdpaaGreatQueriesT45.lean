/-
  The reference's Model.
  The reference's Model, whole.
  Plain: height by height, stratum by stratum: the reference and the program come to the same.
-/
import Derived.Test.YtldkpahaocjdpaaGreatQueriesT36
import Derived.Deep.Upon
import Derived.Test.YtldkpahaocjdpaaGreatQueriesT44
set_option maxHeartbeats 16000000
namespace Go.Proofs.YtldkpahaocjdpaaGreat
section
open Go.RowKit
noncomputable def modelL (k : Nat) : Code := ((Tryz.f138.body.map zfk).getD []).getD k .skip
structure MCtx (w : World) (o : Nat) (rs : List RR) (ps : List (ByteArray × Nat)) (rv pv tv : Value) (gs : Nat) (S : Nat → Nat) : Prop where
 prog : PMem w o rs ps rv pv tv (.slice (some ⟨gs, 0, none⟩) ps.length ps.length)
 strat : SRow w gs ps.length S
 body : ∀ r ∈ rs, r.bs.length ≤ 3
 atoms : ∀ r ∈ rs, ∀ a ∈ r.R.head :: r.R.body, AtomOk a
 ixs : ∀ r ∈ rs, 0 ≤ zak ps r.R.head.pred
structure M3In (w : World) (v : Value) (fs : List FG) (wr : World) : Prop where
 below : Below w.heap.size w wr
 facts : FactsIn wr w.heap.size v fs
 ok : ∀ f ∈ fs.map (·.F), zfc f
theorem M3In.ctx {w : World} {o : Nat} {rs : List RR} {ps : List (ByteArray × Nat)} {rv pv tv : Value} {gs : Nat} {S : Nat → Nat} {v : Value} {fs : List FG} {wr : World} (h : M3In w v fs wr) (hC : MCtx w o rs ps rv pv tv gs S) (hf : fs.length ≤ 50) : RCtx wr o rs ps rv pv tv gs S w.heap.size fs v :=
 ⟨hC.prog.kept ((Kept.refl [] _).of_below h.below) (by simp), hC.strat.kept ((Kept.refl [] _).of_below h.below), h.facts, hf, hC.body, fun r hr a ha => (hC.atoms r hr a ha).few, hC.ixs, fun r hr x hx a ha => ofA_len (wayP_ok0 h.ok _ x hx) (hC.atoms r hr a ha)⟩
theorem cells_one {w : World} {base : Nat} {out : List FG} (h : ∀ x ∈ out, FactIn w base x) : ∀ u ∈ out.flatMap FG.cells, u.oneCell' = true := by
 intro u hu
 obtain ⟨x, hx, hu⟩ := List.mem_flatMap.1 hu
 obtain ⟨a1, a2, a3, a4, e1, e2⟩ := (h x hx).shape
 simp only [FG.cells, e1, e2, List.mem_cons, List.not_mem_nil, or_false] at hu
 rcases hu with rfl | rfl | rfl | rfl | rfl | rfl | rfl | rfl | rfl | rfl <;> rfl
theorem row_newsN {w : World} {base : Nat} {e : TypeId} {size g n cap : Nat} {xs : List Value} (h : w.ownsRow base e size (.slice (some ⟨g, 0, none⟩) n cap) n xs) : ∀ j u, xs[j]? = some u → w.cell? ((⟨g, 0, none⟩ : Addr).add j) = some u := by
 intro j u hj
 have hl : xs.length = n * size := h.1
 have hlt : j < xs.length := (List.getElem?_eq_some_iff.1 hj).1
 rcases h.2 with ⟨h1, _⟩ | ⟨g', cap', cur, hv, hb, hg, hnc, hcm, hcs, ht⟩
 ·cases h1
 ·injection hv with h1 h2 h3
  injection h1 with h1
  injection h1 with h1
  subst h1
  have := h.cellAt j (by omega)
  unfold Addr.add
  split <;> simp_all
theorem zhz {P : Program} {w : World} {ops : Array Oper} {rest : List Oper} {o : Oper} {a : Act} {Q : Exit → Act → World → Prop} (hgd : o.guard = none) (s x : Operand) (t : TypeId) (ho : o.op = .call { callee := .builtin .append, args := #[s, x], argTypes := #[t, t] }) (v xv : Value) (hs : a.eval s = v) (hx : a.eval x = xv) (hr : ∀ ty, (Builtin.append_ #[t, t] ty #[v, xv]).run P w = .ok v w) (h : wpList P ops Q rest (a.put o.dst v) w) : wpList P ops Q (o :: rest) a w :=
 wpList_plain hgd fun _ hK => by
  unfold Oper.wp execOp
  simp only [ho, resolve, invoke, builtin, Sem.run_bind, Sem.run_pure, Result.andThen_ok, List.map_toArray, List.map_cons, List.map_nil, hs, hx, hr]
  exact hK _ _ h
theorem app_none (w : World) (b : Option Addr) (n c : Nat) (h : n ≤ c) (a : Option Addr) (c' : Nat) (ty : TypeId) : (Builtin.append_ #[250, 250] ty #[.slice b n c, .slice a 0 c']).run Tryz.prog w = .ok (.slice b n c) w := by
 obtain ⟨i0, hi0, hz0, hz1, hz2⟩ := info_parts znb
 refine run_append_nothing w _ _ _ 262 i0 Tryz.underlying250 hi0 b n c h _ ?_
 cases a with
 | none => exact Src.ofNil w Tryz.underlying250 c'
 | some a => exact Src.ofSlice w Tryz.underlying250 a 0 c' [] (by simp) (by simp) (by simp)
theorem own_cap {w : World} {base : Nat} {e : TypeId} {size n cap : Nat} {a : Option Addr} {xs : List Value} (h : w.ownsRow base e size (.slice a n cap) n xs) : n ≤ cap := by
 rcases h.2 with ⟨h1, h0⟩ | ⟨g', cap', cur, hv, hb, hg, hnc, hcm, hcs, ht⟩
 ·omega
 ·injection hv with h1 h2 h3
  omega
set_option maxRecDepth 1000000 in
theorem model3 (w : World) (o : Nat) (rs : List RR) (ps : List (ByteArray × Nat)) (rv pv tv : Value) (gs : Nat) (S : Nat → Nat) (hC : MCtx w o rs ps rv pv tv gs S) (limit s : Nat) (hlim : limit ≤ 50) (v6 : Value) (fs : List FG) (hfl : fs.length ≤ limit) (w1 : World) (hI : M3In w v6 fs w1)
  {Q : Exit → Act → World → Prop} {c2 c3 c7 c8 c12 c13 c14 c15 c16 c17 c18 c19 c20 c21 c22 c23 c24 c25 c26 c27 c28 c29 c30 c31 c32 c33 c34 c35 c36 c37 c38 c39 c40 c41 c42 c43 c44 c45 c46 c47 c48 c49 c50 c51 c52 c53 c54 : Value}
  (hexit : ∀ (v6' : Value) (fs' : List FG) (w2 : World) (u10 u11 u12 u36 u37 u38 u39 u40 u41 u42 u43 u44 u45 u46 u47 u48 u49 u50 u51 u52 u53 : Value), M3In w v6' fs' w2 → fs'.length ≤ limit → ClimbR ps S (rs.map (·.R)) limit s 1 (fs.map (·.F)) (some (fs'.map (·.F))) → Q (.exit 4) ⟨List.toArray (.pointer (some ⟨o, 0, none⟩) :: .int .i64 limit :: c2 :: c3 :: .slice none 0 0 :: .bool false :: v6' :: c7 :: c8 :: .int .i64 s :: u10 :: u11 :: u12 :: c13 :: c14 :: c15 :: c16 :: c17 :: c18 :: c19 :: c20 :: c21 :: c22 :: c23 :: c24 :: c25 :: c26 :: c27 :: c28 :: c29 :: c30 :: c31 :: c32 :: c33 :: c34 :: c35 :: u36 :: u37 :: u38 :: u39 :: u40 :: u41 :: u42 :: u43 :: u44 :: u45 :: u46 :: u47 :: u48 :: u49 :: u50 :: u51 :: u52 :: u53 :: c54 :: []), []⟩ w2)
  (hret : ∀ (v6' : Value) (w2 : World) (u10 u11 u12 u36 u37 u38 u39 u40 u41 u42 u43 u44 u45 u46 u47 u48 u49 u50 u51 u52 u53 : Value), Below w.heap.size w w2 → ClimbR ps S (rs.map (·.R)) limit s 1 (fs.map (·.F)) none → Q .ret ⟨List.toArray (.pointer (some ⟨o, 0, none⟩) :: .int .i64 limit :: c2 :: c3 :: .slice none 0 0 :: .bool false :: v6' :: c7 :: c8 :: .int .i64 s :: u10 :: u11 :: u12 :: c13 :: c14 :: c15 :: c16 :: c17 :: c18 :: c19 :: c20 :: c21 :: c22 :: c23 :: c24 :: c25 :: c26 :: c27 :: c28 :: c29 :: c30 :: c31 :: c32 :: c33 :: c34 :: c35 :: u36 :: u37 :: u38 :: u39 :: u40 :: u41 :: u42 :: u43 :: u44 :: u45 :: u46 :: u47 :: u48 :: u49 :: u50 :: u51 :: u52 :: u53 :: c54 :: []), []⟩ w2) :
  Code.wp Tryz.prog (Code.loop (modelL 2)) Q ⟨List.toArray (.pointer (some ⟨o, 0, none⟩) :: .int .i64 limit :: c2 :: c3 :: .slice none 0 0 :: .bool false :: v6 :: c7 :: c8 :: .int .i64 s :: .bool true :: .int .i64 1 :: c12 :: c13 :: c14 :: c15 :: c16 :: c17 :: c18 :: c19 :: c20 :: c21 :: c22 :: c23 :: c24 :: c25 :: c26 :: c27 :: c28 :: c29 :: c30 :: c31 :: c32 :: c33 :: c34 :: c35 :: c36 :: c37 :: c38 :: c39 :: c40 :: c41 :: c42 :: c43 :: c44 :: c45 :: c46 :: c47 :: c48 :: c49 :: c50 :: c51 :: c52 :: c53 :: c54 :: []), []⟩ w1 := by
 conv => arg 2; arg 1; whnf
 have HC := hide hC
 have HI := hide hI
 have HX := hide hexit
 have HY := hide hret
 clear hC hI hexit hret
 obtain ⟨i0, hi0, hz0, hz1, hz2⟩ := info_parts znb
 go_loopg [4, 5, 6, 10, 11] (2 * (51 - fs.length) + 1) (fun gg v4 v5 v mo nn wr => v4 = .slice none 0 0 ∧ v5 = .bool false ∧ ∃ (n : Nat) (more : Bool) (fs' : List FG), nn = .int .i64 n ∧ mo = .bool more ∧ fs'.length ≤ limit ∧ n ≤ fs'.length + 2 ∧ (more = true → n ≤ fs'.length + 1) ∧ gg = 2 * (51 - fs'.length) + (if more then 1 else 0) ∧ M3In w v fs' wr ∧ (more = true → ∀ r, ClimbR ps S (rs.map (·.R)) limit s n (fs'.map (·.F)) r → ClimbR ps S (rs.map (·.R)) limit s 1 (fs.map (·.F)) r) ∧ (more = false → ClimbR ps S (rs.map (·.R)) limit s 1 (fs.map (·.F)) (some (fs'.map (·.F)))))
 case atStart => exact ⟨rfl, rfl, 1, true, fs, rfl, rfl, hfl, by omega, fun _ => by omega, rfl, zaa HI, fun _ r h => h, fun h => by cases h⟩
 case round =>
  clear HI
  obtain ⟨rfl, rfl, n, more, fs', rfl, rfl, hfl', hn, hn1, hgg, hI, hmo, hno⟩ := hrel
  obtain ⟨a6, c6, rfl⟩ := zac hI.facts.row
  have HI := hide hI
  cases more with
  | false =>
   have HE := hide (hno rfl)
   clear hI hmo hno hgg hn1
   go_wp2_with fail
   apply zaa HX
   ·exact zaa HI
   ·exact hfl'
   ·exact zaa HE
  | true =>
   have HMO := hide (hmo rfl)
   have hn1' := hn1 rfl
   have hcall := round_any wr o rs ps rv pv tv gs S w.heap.size fs' a6 c6 (hI.ctx (zaa HC) (by omega)) s n
   have HCALL := hide hcall
   clear hI hmo hno hcall hn1 hn
   simp only [if_true] at hgg
   go_wp2_with fail
   refine (zaa HCALL).mono ?_
   rintro e w2 ⟨v12, out, rfl, hR⟩
   have hrel := hR.rel
   have hw2 := (zaa HI).facts.below hR.below
   have hbel := (zaa HI).below.trans (hR.below.mono (zaa HI).below.size)
   have hszw := (zaa HI).below.size
   have hok := hrel.ok (zaa HI).ok (fun R hR a ha => by
    obtain ⟨r, hr, rfl⟩ := List.mem_map.1 hR
    exact (zaa HC).atoms r hr a ha)
   have hof : ∀ x ∈ out, FactIn w2 w.heap.size x := fun x hx => (hR.facts.each x hx).low hszw
   obtain ⟨a12, c12, rfl⟩ := zac hR.facts.row
   have hfew := hR.few
   cases out with
   | nil =>
    have HD := hide (zaa HMO _ (ClimbR.done hrel (by simpa using hfl')))
    have HI2 := hide (show M3In w (.slice a6 fs'.length c6) fs' w2 from ⟨hbel, hw2, (zaa HI).ok⟩)
    have hcap := own_cap (zaa HI).facts.row
    have hfi : ¬ ((limit : Int) < fs'.length) := by omega
    clear hR hrel hw2 hbel hok hof HMO HCALL HI hfew
    have happ := hide (app_none w2 a6 fs'.length c6 hcap a12 c12)
    go_wp2_with (at_builtin; go_must (refine zhz rfl _ _ _ rfl _ _ rfl rfl (zaa happ) ?_))
    go_roundg (2 * (51 - fs'.length))
    case measure => omega
    case rel => exact ⟨rfl, rfl, n + 1, false, fs', by go_num, rfl, hfl', by omega, (fun h => by cases h), by simp, zaa HI2, (fun h => by cases h), fun _ => zaa HD⟩
   | cons x0 out0 =>
    generalize hO : x0 :: out0 = out at *
    have hpos : 0 < out.length := by rw [← hO]; simp
    have hne : out.map (·.F) ≠ [] := by rw [← hO]; simp
    obtain ⟨g12, c12', hv12, -, -, -, -, -⟩ := ziq hR.facts.row (k := 0) hpos
    injection hv12 with q1 q2 q3
    subst q1 q3
    have hnews := hide (row_newsN hR.facts.row)
    have hone := hide (cells_one hof)
    have hlen : (out.flatMap FG.cells).length = out.length * 10 := hR.facts.row.1
    have HLEN := hide hlen
    have hadd := fun (w5 : World) (v' : Value) (hg : w2.grownBy w5 (Value.slice a6 fs'.length c6).ownBlock) (hown : w5.ownsRow w.heap.size 262 10 v' (fs'.length + out.length) (fs'.flatMap FG.cells ++ out.flatMap FG.cells)) => (show M3In w v' (fs' ++ out) w5 from ⟨zar hbel (Kept.of_grown hg) (hbel.size) (fun b hm => (hw2.row.lt b (by simpa using hm)).1), hw2.app hof (Kept.refl [] _) hg hown, fun f hf => by
     rw [List.map_append] at hf
     rcases List.mem_append.1 hf with hf | hf
     ·exact (zaa HI).ok f hf
     ·exact hok f hf⟩)
    have HADD := hide hadd
    have HROW := hide hw2.row
    have HREL := hide hrel
    have hszW := hbel.size
    have HBEL := hide hbel
    have HNE := hide hne
    clear hR hrel hw2 hbel hok hof HCALL HI hadd hlen hO hne
    by_cases hbig : limit < fs'.length + out.length
    ·have hbi : (limit : Int) < (fs'.length : Int) + out.length := by omega
     have HT := hide (zaa HMO _ (ClimbR.over (zaa HREL) (by simpa using hbig)))
     go_wp2_with (at_builtin; go_must (refine wpList_append_lies _ rfl _ _ _ rfl w.heap.size 262 i0 (.agg #[.string { data := #[] }, .slice none 0 0, .bool false, .int .i64 0, .int .i64 0, .string { data := #[] }, .int .i64 0, .int .i64 0, .int .i64 0, .slice none 0 0]) 10 128 Tryz.underlying250 hi0 hz0 hz1 hz2 rfl (by decide) (.slice a6 fs'.length c6) fs'.length _ rfl (zaa HROW) ⟨g12, 0, none⟩ out.length c12 (out.flatMap FG.cells) rfl (zaa HLEN) (zaa hnews) (zaa hone) hpos (by unfold maxLen; omega) (by omega) hszW _ rfl ?_; intro g cap w5 hown5 hg5 hat5 hlt5))
     have HM := hide (zaa HADD w5 _ hg5 hown5)
     clear hown5 hg5 HADD HROW
     go_wp2_with fail
     apply zaa HY
     ·exact (zaa HM).below
     ·exact zaa HT
    ·have hbi : ¬ ((limit : Int) < (fs'.length : Int) + out.length) := by omega
     have HT := hide (fun r (h : ClimbR ps S (rs.map (·.R)) limit s (n + 1) ((fs' ++ out).map (·.F)) r) => zaa HMO r (ClimbR.more (zaa HREL) (zaa HNE) (by simpa using hbig) (by rw [List.map_append] at h; exact h)))
     go_wp2_with (at_builtin; go_must (refine wpList_append_lies _ rfl _ _ _ rfl w.heap.size 262 i0 (.agg #[.string { data := #[] }, .slice none 0 0, .bool false, .int .i64 0, .int .i64 0, .string { data := #[] }, .int .i64 0, .int .i64 0, .int .i64 0, .slice none 0 0]) 10 128 Tryz.underlying250 hi0 hz0 hz1 hz2 rfl (by decide) (.slice a6 fs'.length c6) fs'.length _ rfl (zaa HROW) ⟨g12, 0, none⟩ out.length c12 (out.flatMap FG.cells) rfl (zaa HLEN) (zaa hnews) (zaa hone) hpos (by unfold maxLen; omega) (by omega) hszW _ rfl ?_; intro g cap w5 hown5 hg5 hat5 hlt5))
     have HM := hide (zaa HADD w5 _ hg5 hown5)
     clear hown5 hg5 HADD HROW
     have hpi : (0 : Int) < out.length := by omega
     go_wp2_with fail
     go_roundg (2 * (51 - (fs' ++ out).length) + 1)
     case measure => simp; omega
     case rel => exact ⟨rfl, rfl, n + 1, true, fs' ++ out, by go_num, rfl, by simp; omega, by simp; omega, (fun _ => by simp; omega), by simp, zaa HM, (fun _ => zaa HT), fun h => by cases h⟩
end
section
open Go.RowKit
def zfl (S : Nat → Nat) : Nat → Nat
 | 0 => 0
 | n + 1 => max (zfl S n) (S n)
theorem zmv {S : Nat → Nat} {m : Nat} : ∀ (n : Nat), (∀ i, i < n → S i ≤ m) → zfl S n ≤ m
 | 0, _ => Nat.zero_le _
 | n + 1, h => Nat.max_le.2 ⟨zmv n (fun i hi => h i (by omega)), h n (by omega)⟩
set_option maxRecDepth 1000000 in
theorem model2 (w : World) (o : Nat) (rs : List RR) (ps : List (ByteArray × Nat)) (rv pv tv : Value) (gs : Nat) (S : Nat → Nat) (hC : MCtx w o rs ps rv pv tv gs S) (limit most : Nat) (hlim : limit ≤ 50) (hmost : most ≤ 1000000) (w1 : World) (hI : M3In w (.slice none 0 0) [] w1)
  {Q : Exit → Act → World → Prop} {c2 c3 c8 c10 c11 c12 c13 c14 c15 c16 c17 c18 c19 c20 c21 c22 c23 c24 c25 c26 c27 c28 c29 c30 c31 c32 c33 c34 c35 c36 c37 c38 c39 c40 c41 c42 c43 c44 c45 c46 c47 c48 c49 c50 c51 c52 c53 c54 : Value}
  (hexit : ∀ (v6' : Value) (fs' : List FG) (w2 : World) (u9 u10 u11 u12 u31 u32 u33 u34 u35 u36 u37 u38 u39 u40 u41 u42 u43 u44 u45 u46 u47 u48 u49 u50 u51 u52 u53 : Value), M3In w v6' fs' w2 → fs'.length ≤ limit → StrR ps S (rs.map (·.R)) limit most 0 [] (some (fs'.map (·.F))) → Q (.exit 2) ⟨List.toArray (.pointer (some ⟨o, 0, none⟩) :: .int .i64 limit :: c2 :: c3 :: .slice none 0 0 :: .bool false :: v6' :: .int .i64 most :: c8 :: u9 :: u10 :: u11 :: u12 :: c13 :: c14 :: c15 :: c16 :: c17 :: c18 :: c19 :: c20 :: c21 :: c22 :: c23 :: c24 :: c25 :: c26 :: c27 :: c28 :: c29 :: c30 :: u31 :: u32 :: u33 :: u34 :: u35 :: u36 :: u37 :: u38 :: u39 :: u40 :: u41 :: u42 :: u43 :: u44 :: u45 :: u46 :: u47 :: u48 :: u49 :: u50 :: u51 :: u52 :: u53 :: c54 :: []), []⟩ w2)
  (hret : ∀ (v6' : Value) (w2 : World) (u9 u10 u11 u12 u31 u32 u33 u34 u35 u36 u37 u38 u39 u40 u41 u42 u43 u44 u45 u46 u47 u48 u49 u50 u51 u52 u53 : Value), Below w.heap.size w w2 → StrR ps S (rs.map (·.R)) limit most 0 [] none → Q .ret ⟨List.toArray (.pointer (some ⟨o, 0, none⟩) :: .int .i64 limit :: c2 :: c3 :: .slice none 0 0 :: .bool false :: v6' :: .int .i64 most :: c8 :: u9 :: u10 :: u11 :: u12 :: c13 :: c14 :: c15 :: c16 :: c17 :: c18 :: c19 :: c20 :: c21 :: c22 :: c23 :: c24 :: c25 :: c26 :: c27 :: c28 :: c29 :: c30 :: u31 :: u32 :: u33 :: u34 :: u35 :: u36 :: u37 :: u38 :: u39 :: u40 :: u41 :: u42 :: u43 :: u44 :: u45 :: u46 :: u47 :: u48 :: u49 :: u50 :: u51 :: u52 :: u53 :: c54 :: []), []⟩ w2) :
  Code.wp Tryz.prog (Code.loop (modelL 1)) Q ⟨List.toArray (.pointer (some ⟨o, 0, none⟩) :: .int .i64 limit :: c2 :: c3 :: .slice none 0 0 :: .bool false :: .slice none 0 0 :: .int .i64 most :: c8 :: .int .i64 0 :: c10 :: c11 :: c12 :: c13 :: c14 :: c15 :: c16 :: c17 :: c18 :: c19 :: c20 :: c21 :: c22 :: c23 :: c24 :: c25 :: c26 :: c27 :: c28 :: c29 :: c30 :: c31 :: c32 :: c33 :: c34 :: c35 :: c36 :: c37 :: c38 :: c39 :: c40 :: c41 :: c42 :: c43 :: c44 :: c45 :: c46 :: c47 :: c48 :: c49 :: c50 :: c51 :: c52 :: c53 :: c54 :: []), []⟩ w1 := by
 conv => arg 2; arg 1; whnf
 have HC := hide hC
 have HI := hide hI
 have HX := hide hexit
 have HY := hide hret
 clear hC hI hexit hret
 go_loopg [4, 5, 6, 9] (most + 1) (fun gg v4 v5 v ss wr => v4 = .slice none 0 0 ∧ v5 = .bool false ∧ ∃ (s : Nat) (fs' : List FG), ss = .int .i64 s ∧ s ≤ most + 1 ∧ gg = most + 1 - s ∧ fs'.length ≤ limit ∧ M3In w v fs' wr ∧ (∀ r, StrR ps S (rs.map (·.R)) limit most s (fs'.map (·.F)) r → StrR ps S (rs.map (·.R)) limit most 0 [] r))
 case atStart => exact ⟨rfl, rfl, 0, [], rfl, by omega, by omega, by simp, zaa HI, fun r h => h⟩
 case round =>
  clear HI
  obtain ⟨rfl, rfl, s, fs', rfl, hs, hgg, hfl', hI, hmo⟩ := hrel
  obtain ⟨a6, c6, rfl⟩ := zac hI.facts.row
  have HI := hide hI
  have HMO := hide hmo
  clear hI hmo
  by_cases hsm : s ≤ most
  ·have hsi : (s : Int) ≤ most := by omega
   go_wp2_with fail
   refine model3 w o rs ps rv pv tv gs S (zaa HC) limit s hlim _ fs' hfl' wr (zaa HI) ?_ ?_
   ·intro v2 fs2 w2
    intros
    rename_i hI2 hl2 hR2
    obtain ⟨a2, c2, rfl⟩ := zac hI2.facts.row
    have HI2 := hide hI2
    have HR2 := hide (fun r (h : StrR ps S (rs.map (·.R)) limit most (s + 1) (fs2.map (·.F)) r) => zaa HMO r (StrR.next hsm hR2 h))
    clear hI2 hR2 HI HMO
    go_wp2_with fail
    go_roundg (most + 1 - (s + 1))
    case measure => omega
    case rel => exact ⟨rfl, rfl, s + 1, fs2, by go_num, by omega, rfl, hl2, zaa HI2, zaa HR2⟩
   ·intro v2 w2
    intros
    rename_i hB2 hR2
    have HB2 := hide hB2
    have HR2 := hide (zaa HMO _ (StrR.fails hsm hR2))
    clear hB2 hR2 HI HMO
    apply zaa HY
    ·exact zaa HB2
    ·exact zaa HR2
  ·have hsi : ¬ ((s : Int) ≤ most) := by omega
   have HE := hide (zaa HMO _ (StrR.ends (by omega)))
   go_wp2_with fail
   apply zaa HX
   ·exact zaa HI
   ·exact hfl'
   ·exact zaa HE
set_option maxRecDepth 1000000 in
theorem model1 (w : World) (o : Nat) (rs : List RR) (ps : List (ByteArray × Nat)) (rv pv tv : Value) (gs : Nat) (S : Nat → Nat) (hC : MCtx w o rs ps rv pv tv gs S) (hS : ∀ i, i < ps.length → S i ≤ 1000000)
  {Q : Exit → Act → World → Prop} {c1 c2 c3 c4 c5 c6 c9 c10 c11 c12 c13 c14 c15 c16 c17 c18 c19 c20 c21 c22 c23 c24 c25 c26 c27 c28 c29 c30 c31 c32 c33 c34 c35 c36 c37 c38 c39 c40 c41 c42 c43 c44 c45 c46 c47 c48 c49 c50 c51 c52 c53 c54 : Value}
  (hexit : ∀ (w2 : World) (u8 u13 u14 u15 u16 u17 u18 u19 u20 u21 u22 u23 u24 u25 u26 u27 u28 u29 u30 : Value), Below w.heap.size w w2 → Q (.exit 0) ⟨List.toArray (.pointer (some ⟨o, 0, none⟩) :: c1 :: c2 :: c3 :: c4 :: c5 :: c6 :: .int .i64 (zfl S ps.length) :: u8 :: c9 :: c10 :: c11 :: c12 :: u13 :: u14 :: u15 :: u16 :: u17 :: u18 :: u19 :: u20 :: u21 :: u22 :: u23 :: u24 :: u25 :: u26 :: u27 :: u28 :: u29 :: u30 :: c31 :: c32 :: c33 :: c34 :: c35 :: c36 :: c37 :: c38 :: c39 :: c40 :: c41 :: c42 :: c43 :: c44 :: c45 :: c46 :: c47 :: c48 :: c49 :: c50 :: c51 :: c52 :: c53 :: c54 :: []), []⟩ w2) :
  Code.wp Tryz.prog (Code.loop (modelL 0)) Q ⟨List.toArray (.pointer (some ⟨o, 0, none⟩) :: c1 :: c2 :: c3 :: c4 :: c5 :: c6 :: .int .i64 0 :: .int .i64 0 :: c9 :: c10 :: c11 :: c12 :: c13 :: c14 :: c15 :: c16 :: c17 :: c18 :: c19 :: c20 :: c21 :: c22 :: c23 :: c24 :: c25 :: c26 :: c27 :: c28 :: c29 :: c30 :: c31 :: c32 :: c33 :: c34 :: c35 :: c36 :: c37 :: c38 :: c39 :: c40 :: c41 :: c42 :: c43 :: c44 :: c45 :: c46 :: c47 :: c48 :: c49 :: c50 :: c51 :: c52 :: c53 :: c54 :: []), []⟩ w := by
 conv => arg 2; arg 1; whnf
 have hpl := zbt hC.prog.preds
 unfold maxLen at hpl
 have HC := hide hC
 have HX := hide hexit
 have HS := hide hS
 clear hC hexit hS
 go_loopg [7, 8] ps.length (fun gg mm ii wr => ∃ (i : Nat), ii = .int .i64 i ∧ i ≤ ps.length ∧ gg = ps.length - i ∧ mm = .int .i64 (zfl S i) ∧ Below w.heap.size w wr)
 case atStart => exact ⟨0, rfl, by omega, by omega, rfl, Below.refl _ _⟩
 case round =>
  obtain ⟨i, rfl, hi, hgg, rfl, hB⟩ := hrel
  have hprog := (zaa HC).prog.kept ((Kept.refl [] _).of_below hB) (by simp)
  have hstr := (zaa HC).strat.kept ((Kept.refl [] _).of_below hB)
  have c3 := hprog.c3
  have hol := hprog.lt
  have hgl := hstr.sz
  have HB := hide hB
  by_cases hli : i < ps.length
  ·have hii : (i : Int) < ps.length := by omega
   have hci := hstr.cell i hli
   have hm1 := zmv (S := S) (m := 1000000) i (fun j hj => zaa HS j (by omega))
   have hm2 := zaa HS i hli
   clear hprog hstr hB
   go_wp2_with fail
   go_roundg (ps.length - (i + 1))
   case measure => omega
   case rel => exact ⟨i + 1, by go_num, by omega, rfl, by rw [zfl]; go_num, zaa HB⟩
  ·have hii : ¬ ((i : Int) < ps.length) := by omega
   have hie : i = ps.length := by omega
   subst hie
   clear hprog hstr hB
   go_wp2_with fail
   apply zaa HX
   exact zaa HB
inductive MdlOut (w : World) (ps : List (ByteArray × Nat)) (S : Nat → Nat) (rs : List RRule) (limit : Nat) (w' : World) : Value → Value → Prop
 | yes {v : Value} {fs : List FG} : M3In w v fs w' → fs.length ≤ limit → StrR ps S rs limit (zfl S ps.length) 0 [] (some (fs.map (·.F))) → MdlOut w ps S rs limit w' v (.bool true)
 | no : Below w.heap.size w w' → StrR ps S rs limit (zfl S ps.length) 0 [] none → MdlOut w ps S rs limit w' (.slice none 0 0) (.bool false)
def MdlPost (w : World) (ps : List (ByteArray × Nat)) (S : Nat → Nat) (rs : List RRule) (limit : Nat) (e : Ending) (w' : World) : Prop :=
 ∃ v b, e = .returned (.tuple #[v, b]) ∧ MdlOut w ps S rs limit w' v b
set_option maxRecDepth 1000000 in
theorem model_any (w : World) (o : Nat) (rs : List RR) (ps : List (ByteArray × Nat)) (rv pv tv : Value) (gs : Nat) (S : Nat → Nat) (hC : MCtx w o rs ps rv pv tv gs S) (hS : ∀ i, i < ps.length → S i ≤ 1000000) (limit : Nat) (hlim : limit ≤ 50) :
  Calls Tryz.prog 138 #[.pointer (some ⟨o, 0, none⟩), .int .i64 limit] w (MdlPost w ps S (rs.map (·.R)) limit) := by
 have HC := hide hC
 have HS := hide hS
 clear hC hS
 go_enter Tryz.func138, Tryz.ntmps138
 go_wp2_with fail
 refine model1 w o rs ps rv pv tv gs S (zaa HC) (zaa HS) ?_
 intro w1
 intros
 rename_i hB1
 have H0 := hide (show M3In w (.slice none 0 0) [] w1 from ⟨hB1, ⟨World.ownsRow_nil _ _ _ _, by simp⟩, by simp⟩)
 clear hB1
 have hml := zmv (S := S) (m := 1000000) ps.length (zaa HS)
 generalize hmost : zfl S ps.length = most at *
 have HM := hide hmost
 clear hmost
 go_wp2_with fail
 refine model2 w o rs ps rv pv tv gs S (zaa HC) limit most hlim hml w1 (zaa H0) ?_ ?_
 ·intro v6 fs w2
  intros
  rename_i hI hl hT
  obtain ⟨a6, c6, rfl⟩ := zac hI.facts.row
  have HF := hide (show MdlOut w ps S (rs.map (·.R)) limit w2 (.slice a6 fs.length c6) (.bool true) from .yes hI hl (by rw [zaa HM]; exact hT))
  clear hI hl hT H0
  go_wp2_with fail
  go_ret2
  exact ⟨_, _, rfl, zaa HF⟩
 ·intro v6 w2
  intros
  rename_i hB hT
  have HF := hide (show MdlOut w ps S (rs.map (·.R)) limit w2 (.slice none 0 0) (.bool false) from .no hB (by rw [zaa HM]; exact hT))
  clear hB hT H0
  go_ret2
  exact ⟨_, _, rfl, zaa HF⟩
end
section
structure RulesRel (ps : List (ByteArray × Nat)) (rs : List RRule) (rp : List PR) : Prop where
 fwd : ∀ R ∈ rs, ∃ r ∈ rp, RuleRel R r
 bwd : ∀ r ∈ rp, ∃ R ∈ rs, RuleRel R r
 good : ∀ r ∈ rp, RuleG ps r
theorem zg6 {ps : List (ByteArray × Nat)} {S : Nat → Nat} {l : List RFact} {s n : Nat} {f : RFact} : ∀ (rs : List RRule) (i : Nat), f ∈ zdc ps S l s n rs i → f.h = n ∧ f.text = zc6 (thA f.thing) ∧ ∃ R ∈ rs, S (zak ps R.head.pred).toNat = s ∧ ∃ y ∈ zk4 R l, thA f.thing = zc9 y.1 (pa R.head)
 | [], _, h => by simp [zdc] at h
 | R :: r, i, h => by
  rw [zdc] at h
  rcases List.mem_append.1 h with h | h
  ·split at h
   ·rename_i hs
    obtain ⟨y, hy, rfl⟩ := List.mem_map.1 h
    exact ⟨rfl, zqp _, R, List.mem_cons_self, hs, y, hy, thA_of _ _⟩
   ·simp at h
  ·obtain ⟨h1, h2, Q, hQ, h3⟩ := zg6 r (i + 1) h
   exact ⟨h1, h2, Q, List.mem_cons_of_mem _ hQ, h3⟩
theorem cand_of {ps : List (ByteArray × Nat)} {S : Nat → Nat} {l : List RFact} {s n : Nat} {R : RRule} {y : Way} : ∀ (rs : List RRule) (i : Nat), R ∈ rs → S (zak ps R.head.pred).toNat = s → y ∈ zk4 R l → ∃ f ∈ zdc ps S l s n rs i, thA f.thing = zc9 y.1 (pa R.head)
 | [], _, h, _, _ => by cases h
 | Q :: r, i, h, hs, hy => by
  rw [zdc]
  rcases List.mem_cons.1 h with rfl | h
  ·refine ⟨zgi R s n i y, List.mem_append.2 (.inl ?_), thA_of _ _⟩
   rw [if_pos hs]
   exact List.mem_map.2 ⟨y, hy, rfl⟩
  ·obtain ⟨f, hf, e⟩ := cand_of (n := n) r (i + 1) h hs hy
   exact ⟨f, List.mem_append.2 (.inr hf), e⟩
theorem new_iff {ps : List (ByteArray × Nat)} {K : List (Th × Nat)} {l : List RFact} (hS : Same ps K l) {rs : List RRule} {rp : List PR} (hR : RulesRel ps rs rp) {Sp : ByteArray → Nat} {S : Nat → Nat} (hs : ∀ R ∈ rs, Sp R.head.pred = S (zak ps R.head.pred).toNat) (s n : Nat) (t : Th) : NewB (rp.filter (ze6 Sp s)) K t ↔ zco K t = none ∧ ∃ f ∈ zdc ps S l s n rs 0, thA f.thing = t := by
 unfold NewB
 refine and_congr_right fun _ => ⟨?_, ?_⟩
 ·rintro ⟨r, hr, e, he, rfl⟩
  obtain ⟨hr, hi⟩ := List.mem_filter.1 hr
  obtain ⟨R, hR1, hrel⟩ := hR.bwd r hr
  obtain ⟨y, hy, rfl⟩ := (zko hS hrel (hR.good r hr) e).2 he
  unfold ze6 at hi
  have hi' : S (zak ps R.head.pred).toNat = s := by
   rw [← hs R hR1]
   rw [hrel.eq] at hi
   simpa [za7] using hi
  obtain ⟨f, hf, e⟩ := cand_of (n := n) rs 0 hR1 hi' hy
  exact ⟨f, hf, by rw [e, hrel.hd]⟩
 ·rintro ⟨f, hf, rfl⟩
  obtain ⟨_, _, R, hR1, hi, y, hy, e⟩ := zg6 rs 0 hf
  obtain ⟨r, hr, hrel⟩ := hR.fwd R hR1
  refine ⟨r, List.mem_filter.2 ⟨hr, ?_⟩, y.1, (zko hS hrel (hR.good r hr) y.1).1 ⟨y, hy, rfl⟩, by rw [e, hrel.hd]⟩
  unfold ze6
  rw [hrel.eq]
  show (Sp R.head.pred == s) = true
  rw [hs R hR1, hi]
  simp
theorem zo9 {ps : List (ByteArray × Nat)} {K : List (Th × Nat)} {l : List RFact} (hS : Same ps K l) {rs : List RRule} {rp : List PR} (hR : RulesRel ps rs rp) {S : Nat → Nat} {s n : Nat} {f : RFact} (hf : f ∈ zdc ps S l s n rs 0) : ThI ps (thA f.thing) := by
 obtain ⟨_, _, R, hR1, _, y, hy, e⟩ := zg6 rs 0 hf
 obtain ⟨r, hr, hrel⟩ := hR.fwd R hR1
 have he := (zko hS hrel (hR.good r hr) y.1).1 ⟨y, hy, rfl⟩
 rw [e, ← hrel.hd]
 exact ((hR.good r hr).way hS.ti (List.mem_filter.1 he).1).hd
structure TakeIn (l C out : List RFact) : Prop where
 nd : (out.map (·.text)).Nodup
 mem : ∀ f ∈ out, f ∈ C ∧ zdk l f.text < 0
theorem addF_in {l C out : List RFact} {f : RFact} (h : TakeIn l C out) (hf : f ∈ C) : TakeIn l C (addF l out f) := by
 unfold addF
 split
 ·rename_i c
  refine ⟨?_, fun g hg => ?_⟩
  ·rw [List.map_append, List.nodup_append]
   refine ⟨h.nd, by simp, fun a ha b hb e => ?_⟩
   obtain ⟨g, hg, rfl⟩ := List.mem_map.1 ha
   rw [List.map_cons, List.map_nil, List.mem_singleton] at hb
   exact (zqf out f.text).1 c.2 g hg (by rw [e, hb])
  ·rcases List.mem_append.1 hg with hg | hg
   ·exact h.mem g hg
   ·rw [List.mem_singleton.1 hg]; exact ⟨hf, c.1⟩
 ·exact h
theorem takeF_in {l C : List RFact} : ∀ (cs out : List RFact), (∀ f ∈ cs, f ∈ C) → TakeIn l C out → TakeIn l C (zb3 l cs out).1
 | [], _, _, h => h
 | f :: r, out, hc, h => by
  rw [zb3]
  split
  ·exact h
  ·exact takeF_in r _ (fun g hg => hc g (List.mem_cons_of_mem _ hg)) (addF_in h (hc f List.mem_cons_self))
theorem zoh {l : List RFact} : ∀ (cs out : List RFact), (zb3 l cs out).2 = true → 50 < l.length + (zb3 l cs out).1.length
 | [], _, h => by cases h
 | f :: r, out, h => by
  rw [zb3] at h ⊢
  split at h
  ·rename_i c; rw [if_pos c]; exact c
  ·rename_i c; rw [if_neg c]; exact zoh r _ h
theorem addF_mono {l out : List RFact} {f g : RFact} (h : g ∈ out) : g ∈ addF l out f := by
 unfold addF
 split
 ·exact List.mem_append.2 (.inl h)
 ·exact h
theorem zln {l : List RFact} {g : RFact} : ∀ (cs out : List RFact), g ∈ out → g ∈ (zb3 l cs out).1
 | [], _, h => h
 | f :: r, out, h => by
  rw [zb3]
  split
  ·exact h
  ·exact zln r _ (addF_mono h)
theorem addF_has {l out : List RFact} {f : RFact} (h : zdk l f.text < 0) : ∃ g ∈ addF l out f, g.text = f.text := by
 unfold addF
 split
 ·exact ⟨f, List.mem_append.2 (.inr (List.mem_singleton.2 rfl)), rfl⟩
 ·rename_i c
  have : ¬ zdk out f.text < 0 := fun h2 => c ⟨h, h2⟩
  rw [zqf] at this
  simpa using this
theorem zn6 {l : List RFact} : ∀ (cs out : List RFact), (zb3 l cs out).2 = false → ∀ f ∈ cs, zdk l f.text < 0 → ∃ g ∈ (zb3 l cs out).1, g.text = f.text
 | [], _, _, f, hf, _ => by cases hf
 | x :: r, out, h, f, hf, hn => by
  rw [zb3] at h ⊢
  split at h
  ·cases h
  ·rename_i c
   rw [if_neg c]
   rcases List.mem_cons.1 hf with rfl | hf
   ·obtain ⟨g, hg, e⟩ := addF_has (out := out) hn
    exact ⟨g, zln r _ hg, e⟩
   ·exact zn6 r _ h f hf hn
structure RoundIn (ps : List (ByteArray × Nat)) (S : Nat → Nat) (rs : List RRule) (l : List RFact) (s n : Nat) (out : List RFact) : Prop where
 tk : TakeIn l (zdc ps S l s n rs 0) out
 all : l.length + out.length ≤ 50 → ∀ f ∈ zdc ps S l s n rs 0, zdk l f.text < 0 → ∃ g ∈ out, g.text = f.text
theorem round_of {ps : List (ByteArray × Nat)} {S : Nat → Nat} {rs : List RRule} {l : List RFact} {s n : Nat} {out : List RFact} (h : RndR ps S rs l s n out) : RoundIn ps S rs l s n out := by
 have hin := takeF_in (l := l) (C := zdc ps S l s n rs 0) (zdc ps S l s n rs 0) [] (fun _ h => h) ⟨by simp, by simp⟩
 rcases h with ⟨h1, rfl⟩ | ⟨h1, _, hp⟩
 ·exact ⟨hin, fun h2 => by have := zoh _ _ h1; omega⟩
 ·refine ⟨⟨(hp.map _).nodup_iff.2 hin.nd, fun f hf => hin.mem f (hp.mem_iff.1 hf)⟩, fun _ f hf hn => ?_⟩
  obtain ⟨g, hg, e⟩ := zn6 _ _ h1 f hf hn
  exact ⟨g, hp.mem_iff.2 hg, e⟩
theorem zj2 {α : Type} [DecidableEq α] : ∀ (xs ys : List α), xs.Nodup → (∀ x ∈ xs, x ∈ ys) → xs.length ≤ ys.length
 | [], _, _, _ => Nat.zero_le _
 | x :: xs, ys, hn, hs => by
  rw [List.nodup_cons] at hn
  have hx := hs x List.mem_cons_self
  have h1 := zj2 xs (ys.erase x) hn.2 (fun y hy => by
   have : y ≠ x := fun e => hn.1 (e ▸ hy)
   exact (List.mem_erase_of_ne this).2 (hs y (List.mem_cons_of_mem _ hy)))
  rw [List.length_erase_of_mem hx] at h1
  have : 0 < ys.length := List.length_pos_of_mem hx
  rw [List.length_cons]
  omega
structure RoundEq (ps : List (ByteArray × Nat)) (rp : List PR) (K : List (Th × Nat)) (l : List RFact) (n : Nat) (out : List RFact) : Prop where
 nd : (out.map fun f => thA f.thing).Nodup
 new : ∀ f ∈ out, NewB rp K (thA f.thing)
 h : ∀ f ∈ out, f.h = n
 good : ∀ f ∈ out, ThI ps (thA f.thing)
 text : ∀ f ∈ out, f.text = zc6 (thA f.thing)
 all : l.length + out.length ≤ 50 → ∀ t, NewB rp K t → ∃ f ∈ out, thA f.thing = t
theorem zmz {ps : List (ByteArray × Nat)} {K : List (Th × Nat)} {l : List RFact} (hS : Same ps K l) {rs : List RRule} {rp : List PR} (hR : RulesRel ps rs rp) {Sp : ByteArray → Nat} {S : Nat → Nat} (hs : ∀ R ∈ rs, Sp R.head.pred = S (zak ps R.head.pred).toNat) {s n : Nat} {out : List RFact} (h : RndR ps S rs l s n out) : RoundEq ps (rp.filter (ze6 Sp s)) K l n out := by
 have hr := round_of h
 have hg : ∀ f ∈ out, ThI ps (thA f.thing) := fun f hf => zo9 hS hR (hr.tk.mem f hf).1
 have ht : ∀ f ∈ out, f.text = zc6 (thA f.thing) := fun f hf => (zg6 rs 0 (hr.tk.mem f hf).1).2.1
 have hnone : ∀ t : Th, ThI ps t → (zdk l (zc6 t) < 0 ↔ zco K t = none) := fun t h => by
  rw [hS.find h]
  cases zco K t <;> simp
 refine ⟨?_, fun f hf => ?_, fun f hf => (zg6 rs 0 (hr.tk.mem f hf).1).1, hg, ht, fun hb t hn => ?_⟩
 ·have h1 := hr.tk.nd
  have e : out.map (·.text) = (out.map fun f => thA f.thing).map zc6 := by
   rw [List.map_map]
   exact List.map_congr_left fun f hf => ht f hf
  rw [e] at h1
  unfold List.Nodup at h1 ⊢
  rw [List.pairwise_map] at h1
  exact h1.imp fun h2 e => h2 (by rw [e])
 ·rw [new_iff hS hR hs s n]
  refine ⟨?_, f, (hr.tk.mem f hf).1, rfl⟩
  have := (hr.tk.mem f hf).2
  rw [ht f hf, hnone _ (hg f hf)] at this
  exact this
 ·rw [new_iff hS hR hs s n] at hn
  obtain ⟨h1, f, hf, rfl⟩ := hn
  have hgf := zo9 hS hR hf
  have htf := (zg6 rs 0 hf).2.1
  obtain ⟨g, hg1, e⟩ := hr.all hb f hf (by rw [htf, hnone _ hgf]; exact h1)
  refine ⟨g, hg1, zmh (hg g hg1).w hgf.w ?_⟩
  rw [← ht g hg1, e, htf]
theorem Same.more {ps : List (ByteArray × Nat)} {K L : List (Th × Nat)} {l out : List RFact} (hS : Same ps K l) {rp : List PR} {n : Nat} (hr : RoundEq ps rp K l n out) (hb : l.length + out.length ≤ 50) (hnd : (L.map (·.1)).Nodup) (hh : ∀ p ∈ L, p.2 = n) (hiff : ∀ t, (∃ m, (t, m) ∈ L) ↔ NewB rp K t) : Same ps (K ++ L) (l ++ out) := by
 refine ⟨fun t m => ?_, ?_, ?_, fun f hf => ?_, fun f hf => ?_⟩
 ·rw [List.mem_append, hS.mem t m]
  constructor
  ·rintro (⟨f, hf, h⟩ | h)
   ·exact ⟨f, List.mem_append.2 (.inl hf), h⟩
   ·obtain ⟨f, hf, e⟩ := hr.all hb t ((hiff t).1 ⟨m, h⟩)
    exact ⟨f, List.mem_append.2 (.inr hf), e, by rw [hr.h f hf]; exact (hh _ h).symm⟩
  ·rintro ⟨f, hf, e, hm⟩
   rcases List.mem_append.1 hf with hf | hf
   ·exact .inl ⟨f, hf, e, hm⟩
   ·obtain ⟨k, hk⟩ := (hiff t).2 (by rw [← e]; exact hr.new f hf)
    refine .inr ?_
    have h1 := hh _ hk
    simp only at h1
    rw [← hm, hr.h f hf, ← h1]
    exact hk
 ·rw [List.map_append, List.nodup_append]
  refine ⟨hS.ndK, hnd, fun a ha b hb e => ?_⟩
  obtain ⟨p, hp, rfl⟩ := List.mem_map.1 hb
  obtain ⟨q, hq, rfl⟩ := List.mem_map.1 ha
  have := ((hiff p.1).1 ⟨p.2, hp⟩).1
  rw [← e] at this
  exact zef this q.2 hq
 ·rw [List.map_append, List.nodup_append]
  refine ⟨hS.ndL, hr.nd, fun a ha b hb e => ?_⟩
  obtain ⟨f, hf, rfl⟩ := List.mem_map.1 hb
  obtain ⟨g, hg, rfl⟩ := List.mem_map.1 ha
  have h1 := (hr.new f hf).1
  have h2 := (hS.look (thA f.thing)).2 ⟨g, hg, e⟩
  rw [h1] at h2
  cases h2
 ·rcases List.mem_append.1 hf with hf | hf
  ·exact hS.good f hf
  ·exact hr.good f hf
 ·rcases List.mem_append.1 hf with hf | hf
  ·exact hS.text f hf
  ·exact hr.text f hf
def zp7 (ps : List (ByteArray × Nat)) (limit : Nat) (r : Option (List RFact)) (r' : Option (List (Th × Nat))) : Prop := (r = none ∧ r' = none) ∨ ∃ l' K', r = some l' ∧ r' = some K' ∧ Same ps K' l' ∧ l'.length ≤ limit
theorem zm0 {ps : List (ByteArray × Nat)} {rs : List RRule} {rp : List PR} (hR : RulesRel ps rs rp) {Sp : ByteArray → Nat} {S : Nat → Nat} (hs : ∀ R ∈ rs, Sp R.head.pred = S (zak ps R.head.pred).toNat) {limit s n : Nat} (hl : limit ≤ 50) {l : List RFact} {r : Option (List RFact)} (h : ClimbR ps S rs limit s n l r) : ∀ (K : List (Th × Nat)) (r' : Option (List (Th × Nat))), Same ps K l → l.length ≤ limit → PClimb (rp.filter (ze6 Sp s)) limit n K r' → zp7 ps limit r r' := by
 induction h with
 | @over n l out hr hb =>
  intro K r' hS hll hp
  have hq := zmz hS hR hs hr
  have hne : out ≠ [] := fun e => by rw [e] at hb; simp at hb; omega
  obtain ⟨f, hf⟩ := List.exists_mem_of_ne_nil _ hne
  cases hp with
  | over L _ _ _ => exact .inl ⟨rfl, rfl⟩
  | done hn => exact absurd (hq.new f hf) (hn _)
  | @more _ _ L _ h1 h2 h3 h4 h5 h6 =>
   exfalso
   have := zj2 (out.map fun f => thA f.thing) (L.map (·.1)) hq.nd (fun t ht => by
    obtain ⟨g, hg, rfl⟩ := List.mem_map.1 ht
    obtain ⟨m, hm⟩ := (h4 _).2 (hq.new g hg)
    exact List.mem_map.2 ⟨_, hm, rfl⟩)
   have hlen := hS.len
   simp only [List.length_map] at this
   omega
 | @done n l hr hb =>
  intro K r' hS hll hp
  have hq := zmz hS hR hs hr
  have hno : ∀ t, ¬ NewB (rp.filter (ze6 Sp s)) K t := fun t ht => by
   obtain ⟨f, hf, _⟩ := hq.all (by simp; omega) t ht
   cases hf
  cases hp with
  | over L h1 h2 h3 =>
   exfalso
   cases L with
   | nil => have := hS.len; simp at h3; omega
   | cons t q => exact hno t (h2 t List.mem_cons_self)
  | done hn => exact .inr ⟨l, K, rfl, rfl, hS, hll⟩
  | @more _ _ L _ h1 h2 h3 h4 h5 h6 =>
   exfalso
   obtain ⟨p, hp⟩ := List.exists_mem_of_ne_nil _ h1
   exact hno p.1 ((h4 p.1).1 ⟨p.2, hp⟩)
 | @more n l out r hr hne hb hrest ih =>
  intro K r' hS hll hp
  have hq := zmz hS hR hs hr
  have h50 : l.length + out.length ≤ 50 := by omega
  obtain ⟨f, hf⟩ := List.exists_mem_of_ne_nil _ hne
  have hlen := hS.len
  cases hp with
  | over L h1 h2 h3 =>
   exfalso
   have := zj2 L (out.map fun f => thA f.thing) h1 (fun t ht => by
    obtain ⟨g, hg, e⟩ := hq.all h50 t (h2 t ht)
    exact List.mem_map.2 ⟨g, hg, e⟩)
   simp only [List.length_map] at this
   omega
  | done hn => exact absurd (hq.new f hf) (hn _)
  | @more _ _ L _ h1 h2 h3 h4 h5 h6 =>
   exact ih (K ++ L) r' (hS.more hq h50 h2 h3 h4) (by rw [List.length_append]; exact hb) h6
theorem str_eq {ps : List (ByteArray × Nat)} {rs : List RRule} {rp : List PR} (hR : RulesRel ps rs rp) {Sp : ByteArray → Nat} {S : Nat → Nat} (hs : ∀ R ∈ rs, Sp R.head.pred = S (zak ps R.head.pred).toNat) {limit most s : Nat} (hl : limit ≤ 50) {l : List RFact} {r : Option (List RFact)} (h : StrR ps S rs limit most s l r) : ∀ (K : List (Th × Nat)) (r' : Option (List (Th × Nat))), Same ps K l → l.length ≤ limit → PStrat rp Sp limit (most + 1) s K r' → zp7 ps limit r r' := by
 induction h with
 | @ends s l h1 =>
  intro K r' hS hll hp
  cases hp with
  | ends _ => exact .inr ⟨l, K, rfl, rfl, hS, hll⟩
  | fails h2 _ => omega
  | next h2 _ _ => omega
 | @fails s l h1 hc =>
  intro K r' hS hll hp
  cases hp with
  | ends h2 => omega
  | fails _ hc' => exact .inl ⟨rfl, rfl⟩
  | next _ hc' _ =>
   rcases zm0 hR hs hl hc K _ hS hll hc' with ⟨_, e⟩ | ⟨_, _, e, _⟩ <;> cases e
 | @next s l l' r h1 hc _ ih =>
  intro K r' hS hll hp
  cases hp with
  | ends h2 => omega
  | fails _ hc' =>
   rcases zm0 hR hs hl hc K _ hS hll hc' with ⟨e, _⟩ | ⟨_, _, _, e, _⟩ <;> cases e
  | next _ hc' hn =>
   rcases zm0 hR hs hl hc K _ hS hll hc' with ⟨e, _⟩ | ⟨l1, K1, e1, e2, hS1, hl1⟩
   ·cases e
   ·obtain rfl := Option.some.inj e1
    obtain rfl := Option.some.inj e2
    exact ih _ r' hS1 hl1 hn
end
end Go.Proofs.YtldkpahaocjdpaaGreat
