/-
  The reference's ways: the loop over the ways so far, and the loop over the literals.
  The reference's ways: the loop over the negative literals of one way.
-/
import Derived.Test.YtldkpahaocjdpaaGreatQueriesT32
set_option maxHeartbeats 16000000
namespace Go.Proofs.YtldkpahaocjdpaaGreat
section
open Go.RowKit
set_option maxRecDepth 1000000 in
theorem ways2 (w : World) (base : Nat) (R : RRule) (hv : Value) (bs : List (RAtom × Value)) (bv : Value) (fs : List FG) (al : Option Addr) (cl : Nat) (hC : WCtx w base R hv bs bv fs (.slice al fs.length cl)) (now : List WG) (an : Option Addr) (cn : Nat) (k : Nat) (hk : k < bs.length) (hno : ∀ x ∈ now, x.e.length ≤ 100 ∧ x.fr.length ≤ 100) (hnl : now.length ≤ 1000000) (hT : (wayN bs[k].1 (fs.map (·.F)) (now.map (·.W))).length ≤ 1000000) (w1 : World) (hI : W3In w R hv bv (.slice an now.length cn) now (.slice none 0 0) [] w1)
  {Q : Exit → Act → World → Prop} {c0 c3 c4 c9 c10 c11 c12 c13 c14 c15 c16 c17 c18 c19 c20 c21 c22 c23 c24 c25 c26 c27 c28 c29 c30 c31 c32 c33 c34 c35 c36 c37 c38 c39 c40 c41 c42 c43 c44 c45 c46 c47 c48 c49 c50 c51 c52 c53 c54 c55 c56 c57 c58 c59 c60 c61 c62 c63 c64 c65 c66 c67 c68 c69 c70 c71 c72 c73 c74 c75 c76 c77 c78 c79 c80 c81 c82 c83 c84 c85 c86 c87 c88 c89 c90 c91 c92 c93 c94 c95 c96 c97 c98 c99 c100 c101 c102 c103 c104 c105 c106 c107 c108 c109 c110 c111 c112 c113 c114 c115 c116 c117 c118 c119 c120 c121 c122 c123 c124 c125 c126 c127 c128 c129 : Value}
  (hexit : ∀ (v7' : Value) (next' : List WG) (w2 : World) (u8 u9 u10 u11 u12 u33 u34 u35 u36 u37 u38 u39 u40 u41 u42 u43 u44 u45 u46 u47 u48 u49 u50 u51 u52 u53 u54 u55 u56 u57 u58 u59 u60 u61 u62 u63 u64 u65 u66 u67 u68 u69 u70 u71 u72 u73 u74 u75 u76 u77 u78 u79 u80 u81 : Value), W3In w R hv bv (.slice an now.length cn) now v7' next' w2 → next'.map (·.W) = wayN bs[k].1 (fs.map (·.F)) (now.map (·.W)) → Q (.exit 2) ⟨List.toArray (c0 :: .slice al fs.length cl :: .pointer (some ⟨w.heap.size, 0, none⟩) :: c3 :: c4 :: .slice an now.length cn :: .int .i64 k :: v7' :: u8 :: u9 :: u10 :: u11 :: u12 :: c13 :: c14 :: c15 :: c16 :: c17 :: c18 :: c19 :: c20 :: c21 :: c22 :: c23 :: c24 :: c25 :: c26 :: c27 :: c28 :: c29 :: c30 :: c31 :: c32 :: u33 :: u34 :: u35 :: u36 :: u37 :: u38 :: u39 :: u40 :: u41 :: u42 :: u43 :: u44 :: u45 :: u46 :: u47 :: u48 :: u49 :: u50 :: u51 :: u52 :: u53 :: u54 :: u55 :: u56 :: u57 :: u58 :: u59 :: u60 :: u61 :: u62 :: u63 :: u64 :: u65 :: u66 :: u67 :: u68 :: u69 :: u70 :: u71 :: u72 :: u73 :: u74 :: u75 :: u76 :: u77 :: u78 :: u79 :: u80 :: u81 :: c82 :: c83 :: c84 :: c85 :: c86 :: c87 :: c88 :: c89 :: c90 :: c91 :: c92 :: c93 :: c94 :: c95 :: c96 :: c97 :: c98 :: c99 :: c100 :: c101 :: c102 :: c103 :: c104 :: c105 :: c106 :: c107 :: c108 :: c109 :: c110 :: c111 :: c112 :: c113 :: c114 :: c115 :: c116 :: c117 :: c118 :: c119 :: c120 :: c121 :: c122 :: c123 :: c124 :: c125 :: c126 :: c127 :: c128 :: c129 :: []), []⟩ w2) :
  Code.wp Tryz.prog (Code.loop (waysL 1)) Q ⟨List.toArray (c0 :: .slice al fs.length cl :: .pointer (some ⟨w.heap.size, 0, none⟩) :: c3 :: c4 :: .slice an now.length cn :: .int .i64 k :: .slice none 0 0 :: .int .i64 (0 : Nat) :: c9 :: c10 :: c11 :: c12 :: c13 :: c14 :: c15 :: c16 :: c17 :: c18 :: c19 :: c20 :: c21 :: c22 :: c23 :: c24 :: c25 :: c26 :: c27 :: c28 :: c29 :: c30 :: c31 :: c32 :: c33 :: c34 :: c35 :: c36 :: c37 :: c38 :: c39 :: c40 :: c41 :: c42 :: c43 :: c44 :: c45 :: c46 :: c47 :: c48 :: c49 :: c50 :: c51 :: c52 :: c53 :: c54 :: c55 :: c56 :: c57 :: c58 :: c59 :: c60 :: c61 :: c62 :: c63 :: c64 :: c65 :: c66 :: c67 :: c68 :: c69 :: c70 :: c71 :: c72 :: c73 :: c74 :: c75 :: c76 :: c77 :: c78 :: c79 :: c80 :: c81 :: c82 :: c83 :: c84 :: c85 :: c86 :: c87 :: c88 :: c89 :: c90 :: c91 :: c92 :: c93 :: c94 :: c95 :: c96 :: c97 :: c98 :: c99 :: c100 :: c101 :: c102 :: c103 :: c104 :: c105 :: c106 :: c107 :: c108 :: c109 :: c110 :: c111 :: c112 :: c113 :: c114 :: c115 :: c116 :: c117 :: c118 :: c119 :: c120 :: c121 :: c122 :: c123 :: c124 :: c125 :: c126 :: c127 :: c128 :: c129 :: []), []⟩ w1 := by
 conv => arg 2; arg 1; whnf
 have HC := hide hC
 have HI := hide hI
 have HT := hide hT
 have HNO := hide hno
 have HX := hide hexit
 clear hC hI hT hno hexit
 go_loopg [7, 8] now.length (fun gg v ii wr => ∃ (i : Nat) (next' : List WG), i ≤ now.length ∧ gg = now.length - i ∧ ii = .int .i64 i ∧ W3In w R hv bv (.slice an now.length cn) now v next' wr ∧ next'.map (·.W) ++ wayN bs[k].1 (fs.map (·.F)) ((now.map (·.W)).drop i) = wayN bs[k].1 (fs.map (·.F)) (now.map (·.W)))
 case atStart => exact ⟨0, [], Nat.zero_le _, rfl, rfl, zaa HI, by simp⟩
 case round =>
  clear HI
  obtain ⟨i, next', hi, hgi, rfl, hI, hfin⟩ := hrel
  obtain ⟨a7, c7, rfl⟩ := zac hI.next.row
  have HI := hide hI
  have HF := hide hfin
  clear hI hfin
  by_cases hli : i < now.length
  ·have hii : (i : Int) < now.length := by omega
   have hst := wayN_step (a := bs[k].1) (l := fs.map (·.F)) (now := now.map (·.W)) (i := i) (by simpa using hli)
   rw [List.getElem_map] at hst
   have hf2 := (congrArg (next'.map (·.W) ++ ·) hst).symm.trans (zaa HF)
   simp only [← List.append_assoc] at hf2
   have hTl : (next'.map (·.W) ++ wayF bs[k].1 now[i].W (fs.map (·.F)) 0).length ≤ 1000000 := by
    have := congrArg List.length hf2
    rw [List.length_append] at this
    have := zaa HT
    omega
   have HF2 := hide hf2
   have HTL := hide hTl
   clear hst hf2 hTl HF
   go_wp2_with fail
   refine ways3 w base R hv bs bv fs al cl (zaa HC) now an cn k i hk hli (zaa HNO _ (List.getElem_mem hli)).1 (zaa HNO _ (List.getElem_mem hli)).2 _ (zaa HTL) _ next' rfl wr (zaa HI) ?_
   intro v8 next8 w8
   intros
   rename_i hI8 hF8
   obtain ⟨a8, c8, rfl⟩ := zac hI8.next.row
   have HI8 := hide hI8
   have HF8 := hide (show next8.map (·.W) ++ wayN bs[k].1 (fs.map (·.F)) ((now.map (·.W)).drop (i + 1)) = wayN bs[k].1 (fs.map (·.F)) (now.map (·.W)) by rw [hF8]; exact zaa HF2)
   clear hI8 hF8 HF2 HTL HI
   go_wp2_with fail
   go_roundg (now.length - (i + 1))
   case measure => omega
   case rel => exact ⟨i + 1, next8, by omega, rfl, by go_num, zaa HI8, zaa HF8⟩
  ·have HE := hide (show next'.map (·.W) = wayN bs[k].1 (fs.map (·.F)) (now.map (·.W)) by rw [← zaa HF, List.drop_of_length_le (by simp; omega)]; simp [wayN])
   clear HF
   go_wp2_with fail
   apply zaa HX
   ·exact zaa HI
   ·exact zaa HE
theorem W3In.turn {w : World} {R : RRule} {hv bv nv : Value} {now : List WG} {v : Value} {next : List WG} {wr : World} (h : W3In w R hv bv nv now v next wr) : W3In w R hv bv v next (.slice none 0 0) [] wr :=
 ⟨h.below, h.box, h.next, ⟨World.ownsRow_nil _ _ _ _, by simp⟩, fun g e => by cases e⟩
theorem zmn {a : RAtom} {x : Way} {n m : Nat} (ha : a.terms.length ≤ 4) (h1 : x.1.length ≤ n) (h2 : x.2.length ≤ m) : ∀ (l : List RFact) (i : Nat), ∀ y ∈ wayF a x l i, y.1.length ≤ n + 4 ∧ y.2.length ≤ m + 1
 | [], _, y, hy => by simp [wayF] at hy
 | f :: r, i, y, hy => by
  rw [wayF, List.mem_append] at hy
  rcases hy with hy | hy
  ·split at hy
   ·rename_i e he
    rw [List.mem_singleton.1 hy]
    have := zmb he
    simp; omega
   ·simp at hy
  ·exact zmn ha h1 h2 r (i + 1) y hy
theorem wayN_small {a : RAtom} {l : List RFact} {now : List Way} {n m : Nat} (ha : a.terms.length ≤ 4) (h : ∀ x ∈ now, x.1.length ≤ n ∧ x.2.length ≤ m) : ∀ y ∈ wayN a l now, y.1.length ≤ n + 4 ∧ y.2.length ≤ m + 1 := by
 intro y hy
 obtain ⟨x, hx, hy⟩ := List.mem_flatMap.1 hy
 exact zmn ha (h x hx).1 (h x hx).2 l 0 y hy
theorem pow50 {k : Nat} (h : k ≤ 3) : 50 ^ k ≤ 125000 := Nat.le_trans (Nat.pow_le_pow_right (by decide) h) (by decide)
set_option maxRecDepth 1000000 in
theorem ways1 (w : World) (base : Nat) (R : RRule) (hv : Value) (bs : List (RAtom × Value)) (bv : Value) (fs : List FG) (al : Option Addr) (cl : Nat) (hC : WCtx w base R hv bs bv fs (.slice al fs.length cl)) (v5 : Value) (w1 : World) (hI : W3In w R hv bv v5 [⟨[], [], .slice none 0 0, .slice none 0 0, .slice none 0 0⟩] (.slice none 0 0) [] w1)
  {Q : Exit → Act → World → Prop} {c0 c3 c4 c7 c8 c9 c10 c11 c12 c13 c14 c15 c16 c17 c18 c19 c20 c21 c22 c23 c24 c25 c26 c27 c28 c29 c30 c31 c32 c33 c34 c35 c36 c37 c38 c39 c40 c41 c42 c43 c44 c45 c46 c47 c48 c49 c50 c51 c52 c53 c54 c55 c56 c57 c58 c59 c60 c61 c62 c63 c64 c65 c66 c67 c68 c69 c70 c71 c72 c73 c74 c75 c76 c77 c78 c79 c80 c81 c82 c83 c84 c85 c86 c87 c88 c89 c90 c91 c92 c93 c94 c95 c96 c97 c98 c99 c100 c101 c102 c103 c104 c105 c106 c107 c108 c109 c110 c111 c112 c113 c114 c115 c116 c117 c118 c119 c120 c121 c122 c123 c124 c125 c126 c127 c128 c129 : Value}
  (hexit : ∀ (v5' : Value) (now' : List WG) (w2 : World) (u6 u7 u8 u9 u10 u11 u12 u20 u21 u22 u23 u24 u25 u26 u27 u28 u29 u30 u31 u32 u33 u34 u35 u36 u37 u38 u39 u40 u41 u42 u43 u44 u45 u46 u47 u48 u49 u50 u51 u52 u53 u54 u55 u56 u57 u58 u59 u60 u61 u62 u63 u64 u65 u66 u67 u68 u69 u70 u71 u72 u73 u74 u75 u76 u77 u78 u79 u80 u81 u82 : Value), W3In w R hv bv v5' now' (.slice none 0 0) [] w2 → now'.map (·.W) = wayP (fs.map (·.F)) R.body [([], [])] → (∀ x ∈ now', x.e.length ≤ 100 ∧ x.fr.length ≤ 100) → now'.length ≤ 1000000 → Q (.exit 0) ⟨List.toArray (c0 :: .slice al fs.length cl :: .pointer (some ⟨w.heap.size, 0, none⟩) :: c3 :: c4 :: v5' :: u6 :: u7 :: u8 :: u9 :: u10 :: u11 :: u12 :: c13 :: c14 :: c15 :: c16 :: c17 :: c18 :: c19 :: u20 :: u21 :: u22 :: u23 :: u24 :: u25 :: u26 :: u27 :: u28 :: u29 :: u30 :: u31 :: u32 :: u33 :: u34 :: u35 :: u36 :: u37 :: u38 :: u39 :: u40 :: u41 :: u42 :: u43 :: u44 :: u45 :: u46 :: u47 :: u48 :: u49 :: u50 :: u51 :: u52 :: u53 :: u54 :: u55 :: u56 :: u57 :: u58 :: u59 :: u60 :: u61 :: u62 :: u63 :: u64 :: u65 :: u66 :: u67 :: u68 :: u69 :: u70 :: u71 :: u72 :: u73 :: u74 :: u75 :: u76 :: u77 :: u78 :: u79 :: u80 :: u81 :: u82 :: c83 :: c84 :: c85 :: c86 :: c87 :: c88 :: c89 :: c90 :: c91 :: c92 :: c93 :: c94 :: c95 :: c96 :: c97 :: c98 :: c99 :: c100 :: c101 :: c102 :: c103 :: c104 :: c105 :: c106 :: c107 :: c108 :: c109 :: c110 :: c111 :: c112 :: c113 :: c114 :: c115 :: c116 :: c117 :: c118 :: c119 :: c120 :: c121 :: c122 :: c123 :: c124 :: c125 :: c126 :: c127 :: c128 :: c129 :: []), []⟩ w2) :
  Code.wp Tryz.prog (Code.loop (waysL 0)) Q ⟨List.toArray (c0 :: .slice al fs.length cl :: .pointer (some ⟨w.heap.size, 0, none⟩) :: c3 :: c4 :: v5 :: .int .i64 (0 : Nat) :: c7 :: c8 :: c9 :: c10 :: c11 :: c12 :: c13 :: c14 :: c15 :: c16 :: c17 :: c18 :: c19 :: c20 :: c21 :: c22 :: c23 :: c24 :: c25 :: c26 :: c27 :: c28 :: c29 :: c30 :: c31 :: c32 :: c33 :: c34 :: c35 :: c36 :: c37 :: c38 :: c39 :: c40 :: c41 :: c42 :: c43 :: c44 :: c45 :: c46 :: c47 :: c48 :: c49 :: c50 :: c51 :: c52 :: c53 :: c54 :: c55 :: c56 :: c57 :: c58 :: c59 :: c60 :: c61 :: c62 :: c63 :: c64 :: c65 :: c66 :: c67 :: c68 :: c69 :: c70 :: c71 :: c72 :: c73 :: c74 :: c75 :: c76 :: c77 :: c78 :: c79 :: c80 :: c81 :: c82 :: c83 :: c84 :: c85 :: c86 :: c87 :: c88 :: c89 :: c90 :: c91 :: c92 :: c93 :: c94 :: c95 :: c96 :: c97 :: c98 :: c99 :: c100 :: c101 :: c102 :: c103 :: c104 :: c105 :: c106 :: c107 :: c108 :: c109 :: c110 :: c111 :: c112 :: c113 :: c114 :: c115 :: c116 :: c117 :: c118 :: c119 :: c120 :: c121 :: c122 :: c123 :: c124 :: c125 :: c126 :: c127 :: c128 :: c129 :: []), []⟩ w1 := by
 obtain ⟨ab, cb0, rfl⟩ := zac hC.rule.bo
 conv => arg 2; arg 1; whnf
 have hbl := hC.body
 have hbe := hC.rule.eq
 have hbn : R.body.length = bs.length := by rw [hbe]; simp
 have HC := hide hC
 have HI := hide hI
 have HX := hide hexit
 have HBE := hide hbe
 have HBN := hide hbn
 clear hC hI hexit hbe hbn
 go_loopg [5, 6] bs.length (fun gg v kk wr => ∃ (k : Nat) (now : List WG), k ≤ bs.length ∧ gg = bs.length - k ∧ kk = .int .i64 k ∧ W3In w R hv (.slice ab bs.length cb0) v now (.slice none 0 0) [] wr ∧ wayP (fs.map (·.F)) (R.body.drop k) (now.map (·.W)) = wayP (fs.map (·.F)) R.body [([], [])] ∧ (∀ x ∈ now.map (·.W), x.1.length ≤ 4 * k ∧ x.2.length ≤ k) ∧ now.length ≤ 50 ^ k)
 case atStart => exact ⟨0, _, Nat.zero_le _, rfl, rfl, zaa HI, rfl, by simp [WG.W], by simp⟩
 case round =>
  clear HI
  obtain ⟨k, now, hk, hgk, rfl, hI, hfin, hsm, hlen⟩ := hrel
  obtain ⟨an, cn, rfl⟩ := zac hI.now.row
  have hp := pow50 (k := k) (by omega)
  have hno : ∀ x ∈ now, x.e.length ≤ 100 ∧ x.fr.length ≤ 100 := fun x hx => by
   have := hsm x.W (List.mem_map_of_mem hx)
   simp only [WG.W] at this
   omega
  have HNO := hide hno
  obtain ⟨p5, -⟩ := zab hI.box 5
  have HI := hide hI
  have HF := hide hfin
  have HSM := hide hsm
  have HLN := hide hlen
  have hnl : now.length ≤ 1000000 := by omega
  clear hfin hsm hlen hno hp
  by_cases hlk : k < bs.length
  ·have hki : (k : Int) < bs.length := by omega
   have hC := zaa HC
   have hbo := zai hC.rule.bo hI.below (fun g e => (hC.rule.bo.lt g e).2)
   obtain ⟨gb, cb, hvb, -, hlb, hnb, hmb, y0, y1, y2, y3, y4⟩ := zcx hbo k hlk
   injection hvb with q1 q2 q3
   subst q1 q3
   have hR : R.body[k]'(by rw [zaa HBN]; exact hlk) = bs[k].1 := by
    have := zaa HBE
    simp only [this, List.getElem_map]
   have hst := wayP_step (l := fs.map (·.F)) (b := R.body) (k := k) (now := now.map (·.W)) (by rw [zaa HBN]; exact hlk)
   rw [hR] at hst
   have h4 : bs[k].1.terms.length ≤ 4 := hC.terms _ (by rw [hC.rule.eq]; exact List.mem_map_of_mem (List.getElem_mem hlk))
   have HST := hide (hst.symm.trans (zaa HF))
   clear hC hbo hI hst hR HF y0 y1 y3 y4
   cases hneg : bs[k].1.no with
   | true =>
    rw [hneg] at y2
    have HF2 := hide (show wayP (fs.map (·.F)) (R.body.drop (k + 1)) (now.map (·.W)) = wayP (fs.map (·.F)) R.body [([], [])] by have := zaa HST; rw [hneg] at this; exact this)
    clear HST hneg
    go_wp2_with fail
    go_roundg (bs.length - (k + 1))
    case measure => omega
    case rel => exact ⟨k + 1, now, by omega, rfl, by go_num, zaa HI, zaa HF2, fun x hx => by have := zaa HSM x hx; omega, Nat.le_trans (zaa HLN) (Nat.pow_le_pow_right (by decide) (by omega))⟩
   | false =>
    rw [hneg] at y2
    have HF2 := hide (show wayP (fs.map (·.F)) (R.body.drop (k + 1)) (wayN bs[k].1 (fs.map (·.F)) (now.map (·.W))) = wayP (fs.map (·.F)) R.body [([], [])] by have := zaa HST; rw [hneg] at this; exact this)
    have hwl : (wayN bs[k].1 (fs.map (·.F)) (now.map (·.W))).length ≤ 50 ^ (k + 1) := by
     have h1 := wayN_len bs[k].1 (fs.map (·.F)) (now.map (·.W))
     rw [List.length_map, List.length_map] at h1
     have h2 := Nat.mul_le_mul (zaa HLN) (zaa HC).few
     rw [Nat.pow_succ]
     omega
    have hT : (wayN bs[k].1 (fs.map (·.F)) (now.map (·.W))).length ≤ 1000000 := by
     have := pow50 (k := k + 1) (by omega)
     omega
    have HSM2 := hide (wayN_small (l := fs.map (·.F)) h4 (zaa HSM))
    have HWL := hide hwl
    clear HST hneg hwl
    go_wp2_with fail
    refine ways2 w base R hv bs _ fs al cl (zaa HC) now an cn k hlk (zaa HNO) hnl hT wr (zaa HI) ?_
    intro v8 next8 w8
    intros
    rename_i hI8 hF8
    obtain ⟨a8, c8, rfl⟩ := zac hI8.next.row
    have HI8 := hide hI8.turn
    have HF8 := hide hF8
    clear hI8 hF8 HI HNO HSM HLN hT
    go_wp2_with fail
    go_roundg (bs.length - (k + 1))
    case measure => omega
    case rel => exact ⟨k + 1, next8, by omega, rfl, by go_num, zaa HI8, by rw [zaa HF8]; exact zaa HF2, by rw [zaa HF8]; intro y hy; have := zaa HSM2 y hy; omega, by rw [← List.length_map (f := (·.W)), zaa HF8]; exact zaa HWL⟩
  ·have HE := hide (show now.map (·.W) = wayP (fs.map (·.F)) R.body [([], [])] by rw [← zaa HF, List.drop_of_length_le (by rw [zaa HBN]; omega)]; rfl)
   clear HF hI
   go_wp2_with fail
   apply zaa HX
   ·exact zaa HI
   ·exact zaa HE
   ·exact zaa HNO
   ·exact hnl
end
section
open Go.RowKit
theorem all_take {α : Type} {l : List α} {j : Nat} (hj : j < l.length) (f : α → Bool) : (l.take (j + 1)).all f = ((l.take j).all f && f l[j]) := by
 rw [List.take_succ_eq_append_getElem hj, List.all_append]
 simp only [List.all_cons, List.all_nil, Bool.and_true]
structure M5 (wr : World) (B : RAtom) (b : Nat) (v : Value) (wc : World) : Prop where
 below : Below wr.heap.size wr wc
 blk : wc.heap[b]? = some (.cells #[.string B.pred, v, .bool false, .int .i64 0, .int .i64 0] 243 (0, 0))
 row : wc.ownsRow wr.heap.size 317 3 v B.terms.length (cellsOf B.terms)
theorem M5.behind {wr W w2 : World} {B : RAtom} {v : Value} (hW : Below wr.heap.size wr W) (h2 : Below W.heap.size W w2) (hr : w2.ownsRow W.heap.size 317 3 v B.terms.length (cellsOf B.terms)) : M5 wr B w2.heap.size v (w2.alloc (.cells #[.string B.pred, v, .bool false, .int .i64 0, .int .i64 0] 243)) := by
 have hs := hW.size
 have hs2 := h2.size
 exact ⟨(hW.trans (h2.mono hs)).alloc (by omega) _, heap_alloc_new w2 _, zaf (hr.alloc _) (by omega)⟩
theorem M5.ahead {wr W w2 : World} {B : RAtom} {v : Value} {b : Nat} {u0 u1 u2 u3 u4 : Value} (hW : Below wr.heap.size wr W) (hb : wr.heap.size ≤ b) (hblk : W.heap[b]? = some (.cells #[u0, u1, u2, u3, u4] 243 (0, 0))) (h2 : Below W.heap.size W w2) (hr : w2.ownsRow W.heap.size 317 3 v B.terms.length (cellsOf B.terms)) : M5 wr B b v (((((w2.setCell ⟨b, 0, none⟩ (.string B.pred)).setCell ⟨b, 1, none⟩ v).setCell ⟨b, 2, none⟩ (.bool false)).setCell ⟨b, 3, none⟩ (.int .i64 0)).setCell ⟨b, 4, none⟩ (.int .i64 0)) := by
 have hs := hW.size
 have hlt := (Array.getElem?_eq_some_iff.1 hblk).1
 have h1 := (h2.block b hlt).trans hblk
 have g0 : (w2.setCell ⟨b, 0, none⟩ (.string B.pred)).heap[b]? = some (.cells #[.string B.pred, u1, u2, u3, u4] 243 (0, 0)) := by rw [heap_setCell_same _ _ _ _ _ _ h1]; rfl
 have g1 : ((w2.setCell ⟨b, 0, none⟩ (.string B.pred)).setCell ⟨b, 1, none⟩ v).heap[b]? = some (.cells #[.string B.pred, v, u2, u3, u4] 243 (0, 0)) := by rw [heap_setCell_same _ _ _ _ _ _ g0]; rfl
 have g2 : (((w2.setCell ⟨b, 0, none⟩ (.string B.pred)).setCell ⟨b, 1, none⟩ v).setCell ⟨b, 2, none⟩ (.bool false)).heap[b]? = some (.cells #[.string B.pred, v, .bool false, u3, u4] 243 (0, 0)) := by rw [heap_setCell_same _ _ _ _ _ _ g1]; rfl
 have g3 : ((((w2.setCell ⟨b, 0, none⟩ (.string B.pred)).setCell ⟨b, 1, none⟩ v).setCell ⟨b, 2, none⟩ (.bool false)).setCell ⟨b, 3, none⟩ (.int .i64 0)).heap[b]? = some (.cells #[.string B.pred, v, .bool false, .int .i64 0, u4] 243 (0, 0)) := by rw [heap_setCell_same _ _ _ _ _ _ g2]; rfl
 have hb' : ∀ j, wr.heap.size ≤ (⟨b, j, none⟩ : Addr).block := fun _ => hb
 have hl' : ∀ j, (⟨b, j, none⟩ : Addr).block < W.heap.size := fun _ => hlt
 refine ⟨(((((hW.trans (h2.mono hs)).setCell (hb' 0) _).setCell (hb' 1) _).setCell (hb' 2) _).setCell (hb' 3) _).setCell (hb' 4) _, by rw [heap_setCell_same _ _ _ _ _ _ g3]; rfl, ?_⟩
 exact zaf (ownsRow_setCell_below (ownsRow_setCell_below (ownsRow_setCell_below (ownsRow_setCell_below (ownsRow_setCell_below hr (hl' 0) _) (hl' 1) _) (hl' 2) _) (hl' 3) _) (hl' 4) _) (by omega)
theorem set5_far {w : World} {b g j : Nat} {u0 u1 u2 u3 u4 : Value} (h : ¬ g = b) : (((((w.setCell ⟨b, 0, none⟩ u0).setCell ⟨b, 1, none⟩ u1).setCell ⟨b, 2, none⟩ u2).setCell ⟨b, 3, none⟩ u3).setCell ⟨b, 4, none⟩ u4).cell? ⟨g, j, none⟩ = w.cell? ⟨g, j, none⟩ := by
 have e : ∀ (w : World) (i : Nat) (u : Value), (w.setCell ⟨b, i, none⟩ u).cell? ⟨g, j, none⟩ = w.cell? ⟨g, j, none⟩ := fun w i u => World.cell?_of_block (Below.heap_setCell _ ⟨b, i, none⟩ _ g (by simpa using h))
 rw [e, e, e, e, e]
set_option maxRecDepth 1000000 in
theorem ways5 (w : World) (base : Nat) (R : RRule) (hv : Value) (bs : List (RAtom × Value)) (bv : Value) (fs : List FG) (al : Option Addr) (cl : Nat) (hC : WCtx w base R hv bs bv fs (.slice al fs.length cl)) (now : List WG) (an : Option Addr) (cn : Nat) (i : Nat) (hi : i < now.length) (hsz : ∀ a ∈ R.body, (zdb (ofA now[i].e a)).length ≤ 1000000000) (v13 : Value) (outs : List WG) (w1 : World) (hI : W3In w R hv bv (.slice an now.length cn) now v13 outs w1)
  {Q : Exit → Act → World → Prop} {c0 c3 c4 c6 c7 c8 c9 c10 c11 c12 c13 c17 c18 c19 c20 c21 c22 c23 c24 c25 c26 c27 c28 c29 c30 c31 c32 c33 c34 c35 c36 c37 c38 c39 c40 c41 c42 c43 c44 c45 c46 c47 c48 c49 c50 c51 c52 c53 c54 c55 c56 c57 c58 c59 c60 c61 c62 c63 c64 c65 c66 c67 c68 c69 c70 c71 c72 c73 c74 c75 c76 c77 c78 c79 c80 c81 c82 c83 c84 c85 c86 c87 c88 c89 c90 c91 c92 c93 c94 c95 c96 c97 c98 c99 c100 c101 c102 c103 c104 c105 c106 c107 c108 c109 c110 c111 c112 c113 c114 c115 c116 c117 c118 c119 c120 c121 c122 c123 c124 c125 c126 c127 c128 c129 : Value}
  (hexit : ∀ (w2 : World) (u16 u17 u89 u90 u91 u92 u93 u94 u95 u96 u97 u98 u99 u100 u101 u102 u103 u104 u105 u106 u107 u108 u109 u110 u111 u112 u113 u114 u115 u116 u117 u118 u119 u120 : Value), W3In w R hv bv (.slice an now.length cn) now v13 outs w2 → Q (.exit 8) ⟨List.toArray (c0 :: .slice al fs.length cl :: .pointer (some ⟨w.heap.size, 0, none⟩) :: c3 :: c4 :: .slice an now.length cn :: c6 :: c7 :: c8 :: c9 :: c10 :: c11 :: c12 :: c13 :: .int .i64 i :: .bool (R.body.all (negB (fs.map (·.F)) now[i].e)) :: u16 :: u17 :: c18 :: c19 :: c20 :: c21 :: c22 :: c23 :: c24 :: c25 :: c26 :: c27 :: c28 :: c29 :: c30 :: c31 :: c32 :: c33 :: c34 :: c35 :: c36 :: c37 :: c38 :: c39 :: c40 :: c41 :: c42 :: c43 :: c44 :: c45 :: c46 :: c47 :: c48 :: c49 :: c50 :: c51 :: c52 :: c53 :: c54 :: c55 :: c56 :: c57 :: c58 :: c59 :: c60 :: c61 :: c62 :: c63 :: c64 :: c65 :: c66 :: c67 :: c68 :: c69 :: c70 :: c71 :: c72 :: c73 :: c74 :: c75 :: c76 :: c77 :: c78 :: c79 :: c80 :: c81 :: c82 :: c83 :: c84 :: c85 :: c86 :: c87 :: c88 :: u89 :: u90 :: u91 :: u92 :: u93 :: u94 :: u95 :: u96 :: u97 :: u98 :: u99 :: u100 :: u101 :: u102 :: u103 :: u104 :: u105 :: u106 :: u107 :: u108 :: u109 :: u110 :: u111 :: u112 :: u113 :: u114 :: u115 :: u116 :: u117 :: u118 :: u119 :: u120 :: c121 :: c122 :: c123 :: c124 :: c125 :: c126 :: c127 :: c128 :: c129 :: []), []⟩ w2) :
  Code.wp Tryz.prog (Code.loop (waysL 4)) Q ⟨List.toArray (c0 :: .slice al fs.length cl :: .pointer (some ⟨w.heap.size, 0, none⟩) :: c3 :: c4 :: .slice an now.length cn :: c6 :: c7 :: c8 :: c9 :: c10 :: c11 :: c12 :: c13 :: .int .i64 i :: .bool true :: .int .i64 (0 : Nat) :: c17 :: c18 :: c19 :: c20 :: c21 :: c22 :: c23 :: c24 :: c25 :: c26 :: c27 :: c28 :: c29 :: c30 :: c31 :: c32 :: c33 :: c34 :: c35 :: c36 :: c37 :: c38 :: c39 :: c40 :: c41 :: c42 :: c43 :: c44 :: c45 :: c46 :: c47 :: c48 :: c49 :: c50 :: c51 :: c52 :: c53 :: c54 :: c55 :: c56 :: c57 :: c58 :: c59 :: c60 :: c61 :: c62 :: c63 :: c64 :: c65 :: c66 :: c67 :: c68 :: c69 :: c70 :: c71 :: c72 :: c73 :: c74 :: c75 :: c76 :: c77 :: c78 :: c79 :: c80 :: c81 :: c82 :: c83 :: c84 :: c85 :: c86 :: c87 :: c88 :: c89 :: c90 :: c91 :: c92 :: c93 :: c94 :: c95 :: c96 :: c97 :: c98 :: c99 :: c100 :: c101 :: c102 :: c103 :: c104 :: c105 :: c106 :: c107 :: c108 :: c109 :: c110 :: c111 :: c112 :: c113 :: c114 :: c115 :: c116 :: c117 :: c118 :: c119 :: c120 :: c121 :: c122 :: c123 :: c124 :: c125 :: c126 :: c127 :: c128 :: c129 :: []), []⟩ w1 := by
 obtain ⟨ab, cb0, rfl⟩ := zac hC.rule.bo
 conv => arg 2; arg 1; whnf
 have hbl := hC.body
 have hbe := hC.rule.eq
 have hbn : R.body.length = bs.length := by rw [hbe]; simp
 have HC := hide hC
 have HI := hide hI
 have HX := hide hexit
 have HBE := hide hbe
 have HBN := hide hbn
 have HSZ := hide hsz
 clear hC hI hexit hbe hbn hsz
 go_loopg [15, 16] bs.length (fun gg v kk wr => ∃ (k : Nat), k ≤ bs.length ∧ gg = bs.length - k ∧ v = .bool ((R.body.take k).all (negB (fs.map (·.F)) now[i].e)) ∧ kk = .int .i64 k ∧ W3In w R hv (.slice ab bs.length cb0) (.slice an now.length cn) now v13 outs wr)
 case atStart => exact ⟨0, Nat.zero_le _, rfl, rfl, rfl, zaa HI⟩
 case round =>
  clear HI
  obtain ⟨k, hk, hgk, rfl, rfl, hI⟩ := hrel
  obtain ⟨p5, -⟩ := zab hI.box 5
  simp only [List.getElem?_toArray, List.getElem?_cons_zero, List.getElem?_cons_succ] at p5
  by_cases hlk : k < bs.length
  ·have hki : (k : Int) < bs.length := by omega
   have hC := zaa HC
   have hsize := hI.below.size
   have b1 := hI.lt
   have hbo := zai hC.rule.bo hI.below (fun g e => (hC.rule.bo.lt g e).2)
   obtain ⟨gb, cb, hvb, -, hlb, hnb, hmb, y0, y1, y2, y3, y4⟩ := zcx hbo k hlk
   injection hvb with q1 q2 q3
   subst q1 q3
   have hR : R.body[k]'(by rw [zaa HBN]; exact hlk) = bs[k].1 := by
    have := zaa HBE
    simp only [this, List.getElem_map]
   have hat := all_take (l := R.body) (j := k) (by rw [zaa HBN]; exact hlk) (negB (fs.map (·.F)) now[i].e)
   rw [hR] at hat
   have hmem : bs[k].1 ∈ R.body := by rw [zaa HBE]; exact List.mem_map_of_mem (List.getElem_mem hlk)
   have h4 := hC.terms _ hmem
   have hlen := zaa HSZ _ hmem
   obtain ⟨g5, c5, hv5, -, hl5, hn5, hm5, x0, x1, x2⟩ := way_at hI.now.row hi
   injection hv5 with i1 i2 i3
   subst i1 i3
   have hway := hI.now.each _ (List.getElem_mem hi)
   obtain ⟨an1, cn1, at1, ct1, e1, e2⟩ := hway.env.shape
   have hAr := hC.rule.bl _ (List.getElem_mem hlk)
   obtain ⟨aa, ca, e3⟩ := zac hAr
   rw [e1] at x0
   rw [e2] at x1
   rw [e3] at y1
   have hcall : ∀ W, Below wr.heap.size wr W → Calls Tryz.prog 192 #[.agg #[.slice an1 now[i].e.length cn1, .slice at1 now[i].e.length ct1], .agg #[.string bs[k].1.pred, .slice aa bs[k].1.terms.length ca, .bool bs[k].1.no, .int .i64 bs[k].1.at_, .int .i64 bs[k].1.noAt]] W (OfPost W now[i].e bs[k].1) := fun W hW => by
    have hB := hI.below.trans (hW.mono hsize)
    have q1 := hway.env.below hW
    rw [e1, e2] at q1
    rw [e3] at hAr
    exact rof_any W 0 now[i].e bs[k].1 an1 at1 aa cn1 ct1 ca ⟨zaf q1.ns (Nat.zero_le _), zaf q1.ts (Nat.zero_le _), q1.nil⟩ (zaf (zai hAr hB (fun g e => (hAr.lt g e).2)) (Nat.zero_le _)) (by omega)
   have HCALL := hide hcall
   have HI := hide hI
   have HAT := hide hat
   have hii : (i : Int) < now.length := by omega
   have d5 : ¬ g5 = wr.heap.size := by omega
   have db : ¬ gb = wr.heap.size := by omega
   have dw : ¬ w.heap.size = wr.heap.size := by omega
   clear hC hI hbo hway hAr hcall hat hR hmem e1 e2 e3 hsize x2
   generalize bs[k].1 = A at *
   generalize (R.body.take k).all (negB (fs.map (·.F)) now[i].e) = ok at *
   generalize now[i].e = NE at *
   cases hneg : A.no with
   | false =>
    rw [hneg] at y2
    have HA2 := hide (show (R.body.take (k + 1)).all (negB (fs.map (·.F)) NE) = ok by rw [zaa HAT, negB, hneg]; simp)
    clear HAT HCALL y0 y1 y3 y4 x0 x1 hneg
    go_wp2_with fail
    go_roundg (bs.length - (k + 1))
    case measure => omega
    case rel => exact ⟨k + 1, by omega, rfl, by rw [zaa HA2], by go_num, zaa HI⟩
   | true =>
    have HA2 := hide (show (R.body.take (k + 1)).all (negB (fs.map (·.F)) NE) = (ok && decide (zdk (fs.map (·.F)) (zb4 (ofA NE A)) < 0)) by rw [zaa HAT, negB, hneg]; simp)
    have HK : Hid (∀ W w' : World, Below wr.heap.size wr W → Below W.heap.size W w' → w'.cell? ⟨g5, i * 3, none⟩ = some (.slice an1 NE.length cn1) ∧ w'.cell? ⟨g5, i * 3 + 1, none⟩ = some (.slice at1 NE.length ct1) ∧ w'.cell? ⟨w.heap.size, 5, none⟩ = some (.slice (some ⟨gb, 0, none⟩) bs.length cb0) ∧ w'.cell? ⟨gb, k * 5, none⟩ = some (.string A.pred) ∧ w'.cell? ⟨gb, k * 5 + 1, none⟩ = some (.slice aa A.terms.length ca) ∧ w'.cell? ⟨gb, k * 5 + 2, none⟩ = some (.bool true) ∧ w'.cell? ⟨gb, k * 5 + 3, none⟩ = some (.int .i64 A.at_) ∧ w'.cell? ⟨gb, k * 5 + 4, none⟩ = some (.int .i64 A.noAt)) := hide (fun W w' h1 h2 => by
     have hB := h1.trans (h2.mono h1.size)
     rw [hneg] at y2
     exact ⟨(hB.cell (by simpa using hl5)).trans x0, (hB.cell (by simpa using hl5)).trans x1, (hB.cell (by simpa using b1)).trans p5, (hB.cell (by simpa using hlb)).trans y0, (hB.cell (by simpa using hlb)).trans y1, (hB.cell (by simpa using hlb)).trans y2, (hB.cell (by simpa using hlb)).trans y3, (hB.cell (by simpa using hlb)).trans y4⟩)
    rw [hneg] at y2 HCALL
    clear HAT
    have HNEG := hide hneg
    clear hneg
    go_upto_region 29 with fail
    go_cut [17] from 89 to 120 (fun p wc => ∃ b v, p = .pointer (some ⟨b, 0, none⟩) ∧ M5 wr (ofA NE A) b v wc)
    case first =>
     go_region_held3 (fun w' => w'.cell? ⟨g5, i * 3, none⟩ = some (.slice an1 NE.length cn1) ∧ w'.cell? ⟨g5, i * 3 + 1, none⟩ = some (.slice at1 NE.length ct1) ∧ w'.cell? ⟨w.heap.size, 5, none⟩ = some (.slice (some ⟨gb, 0, none⟩) bs.length cb0) ∧ w'.cell? ⟨gb, k * 5, none⟩ = some (.string A.pred) ∧ w'.cell? ⟨gb, k * 5 + 1, none⟩ = some (.slice aa A.terms.length ca) ∧ w'.cell? ⟨gb, k * 5 + 2, none⟩ = some (.bool true) ∧ w'.cell? ⟨gb, k * 5 + 3, none⟩ = some (.int .i64 A.at_) ∧ w'.cell? ⟨gb, k * 5 + 4, none⟩ = some (.int .i64 A.noAt)) (first | go_keep | (refine ⟨?_, ?_, ?_, ?_, ?_, ?_, ?_, ?_⟩ <;> (refine (set5_far ?_).trans ?_ <;> assumption))) ((go_at_call 192; refine (zaa HCALL _ (by first | exact (Below.refl _ _).drew | exact ((Below.refl _ _).alloc (Nat.le_refl _) _).drew | exact (Below.refl _ _).drew.alloc (Nat.le_refl _) _)).mono ?_; rintro e w2 ⟨v, rfl, hrow, hb2⟩; obtain ⟨at4, ct4, rfl⟩ := zac hrow; obtain ⟨m0, m1, m2, m3, m4, m5, m6, m7⟩ := zaa HK _ _ (by first | exact (Below.refl _ _).drew | exact ((Below.refl _ _).alloc (Nat.le_refl _) _).drew | exact (Below.refl _ _).drew.alloc (Nat.le_refl _) _) hb2; have hc2 := fun (j : Nat) h => hb2.cell (p := ⟨wr.heap.size, j, none⟩) h; have hf2 := fun (j : Nat) h => hb2.frozen (p := ⟨wr.heap.size, j, none⟩) h; have HROW := hide hrow; clear hrow))
     all_goals
      go_wp2_with fail
      go_meet
      case rel => first | exact ⟨_, _, rfl, M5.behind (W := wr.drew) (Below.refl _ _).drew hb2 (zaa HROW)⟩ | exact ⟨_, _, rfl, M5.ahead (W := (wr.alloc (.cells #[.string { data := #[] }, .slice none 0 0, .bool false, .int .i64 0, .int .i64 0] 243)).drew) ((Below.refl _ _).alloc (Nat.le_refl _) _).drew (Nat.le_refl _) (heap_alloc_new wr _) hb2 (zaa HROW)⟩
    case rest =>
     obtain ⟨b, v, rfl, hM⟩ := hcut
     obtain ⟨at4, ct4, rfl⟩ := zac hM.row
     have hsb := hM.below.size
     have hI2 := (zaa HI).past hM.below
     obtain ⟨r0, -⟩ := zab hM.blk 0
     obtain ⟨r1, -⟩ := zab hM.blk 1
     obtain ⟨r2, -⟩ := zab hM.blk 2
     obtain ⟨r3, -⟩ := zab hM.blk 3
     obtain ⟨r4, -⟩ := zab hM.blk 4
     have HI2 := hide hI2
     cases ok with
     | false =>
      clear hM hI2 HI HCALL HK x0 x1 y0 y1 y2 y3 y4 p5
      go_wp2_with fail
      go_roundg (bs.length - (k + 1))
      case measure => omega
      case rel => exact ⟨k + 1, by omega, rfl, by rw [zaa HA2]; rfl, by go_num, zaa HI2⟩
     | true =>
      have HTX := hide (zl7 wc wr.heap.size (ofA NE A) at4 ct4 false 0 0 hM.row hlen)
      have hfr := zai (zaa HC).facts.row hI2.below (fun g e => ((zaa HC).facts.row.lt g e).2)
      have HFR := hide hfr
      clear hM hI2 HI HCALL HK x0 x1 y0 y1 y2 y3 y4 p5 hfr
      go_wp2_with fail
      refine (zaa HTX).mono ?_
      rintro e w3 ⟨s, rfl, hs, hb3⟩
      have hsT : s = zb4 (ofA NE A) := by
       cases s
       simp only [zb4, ← hs, Array.toArray_toList]
      subst hsT
      have HI3 := hide ((zaa HI2).past hb3)
      have HFD := hide (znv w3 base al cl fs (zb4 (ofA NE A)) (zai (zaa HFR) hb3 (fun g e => ((zaa HFR).lt g e).2)))
      clear hs hb3 r0 r1 r2 r3 r4 HTX HI2 HFR
      generalize zb4 (ofA NE A) = tx at *
      generalize zdk (fs.map (·.F)) tx = fx at *
      go_wp2_with fail
      refine (zaa HFD).mono ?_
      rintro e w4 ⟨rfl, rfl⟩
      clear HFD
      by_cases hfx : fx < 0
      ·go_wp2_with fail
       go_roundg (bs.length - (k + 1))
       case measure => omega
       case rel => exact ⟨k + 1, by omega, rfl, by rw [zaa HA2]; simp [hfx], by go_num, zaa HI3⟩
      ·go_wp2_with fail
       go_roundg (bs.length - (k + 1))
       case measure => omega
       case rel => exact ⟨k + 1, by omega, rfl, by rw [zaa HA2]; simp, by go_num, zaa HI3⟩
  ·have HI := hide hI
   have hke : k = bs.length := by omega
   have HE := hide (show (R.body.take k).all (negB (fs.map (·.F)) now[i].e) = R.body.all (negB (fs.map (·.F)) now[i].e) by rw [hke, ← zaa HBN, List.take_length])
   rw [zaa HE]
   clear hI
   go_wp2_with fail
   apply zaa HX
   exact zaa HI
def zh8 (R : RRule) (l : List RFact) (x : Way) : Bool := R.body.all (negB l x.1)
set_option maxRecDepth 1000000 in
theorem ways4 (w : World) (base : Nat) (R : RRule) (hv : Value) (bs : List (RAtom × Value)) (bv : Value) (fs : List FG) (al : Option Addr) (cl : Nat) (hC : WCtx w base R hv bs bv fs (.slice al fs.length cl)) (now : List WG) (an : Option Addr) (cn : Nat) (hnl : now.length ≤ 1000000) (hsz : ∀ x ∈ now, ∀ a ∈ R.body, (zdb (ofA x.e a)).length ≤ 1000000000) (w1 : World) (hI : W3In w R hv bv (.slice an now.length cn) now (.slice none 0 0) [] w1)
  {Q : Exit → Act → World → Prop} {c0 c3 c4 c6 c7 c8 c9 c10 c11 c12 c15 c16 c17 c18 c19 c20 c21 c22 c23 c24 c25 c26 c27 c28 c29 c30 c31 c32 c33 c34 c35 c36 c37 c38 c39 c40 c41 c42 c43 c44 c45 c46 c47 c48 c49 c50 c51 c52 c53 c54 c55 c56 c57 c58 c59 c60 c61 c62 c63 c64 c65 c66 c67 c68 c69 c70 c71 c72 c73 c74 c75 c76 c77 c78 c79 c80 c81 c82 c83 c84 c85 c86 c87 c88 c89 c90 c91 c92 c93 c94 c95 c96 c97 c98 c99 c100 c101 c102 c103 c104 c105 c106 c107 c108 c109 c110 c111 c112 c113 c114 c115 c116 c117 c118 c119 c120 c121 c122 c123 c124 c125 c126 c127 c128 c129 : Value}
  (hexit : ∀ (v13' : Value) (outs : List WG) (w2 : World) (u14 u15 u16 u17 u83 u84 u85 u86 u87 u88 u89 u90 u91 u92 u93 u94 u95 u96 u97 u98 u99 u100 u101 u102 u103 u104 u105 u106 u107 u108 u109 u110 u111 u112 u113 u114 u115 u116 u117 u118 u119 u120 u121 u122 u123 u124 u125 u126 u127 u128 : Value), W3In w R hv bv (.slice an now.length cn) now v13' outs w2 → outs.map (·.W) = (now.map (·.W)).filter (zh8 R (fs.map (·.F))) → (∀ x ∈ outs, x ∈ now) → Q (.exit 6) ⟨List.toArray (c0 :: .slice al fs.length cl :: .pointer (some ⟨w.heap.size, 0, none⟩) :: c3 :: c4 :: .slice an now.length cn :: c6 :: c7 :: c8 :: c9 :: c10 :: c11 :: c12 :: v13' :: u14 :: u15 :: u16 :: u17 :: c18 :: c19 :: c20 :: c21 :: c22 :: c23 :: c24 :: c25 :: c26 :: c27 :: c28 :: c29 :: c30 :: c31 :: c32 :: c33 :: c34 :: c35 :: c36 :: c37 :: c38 :: c39 :: c40 :: c41 :: c42 :: c43 :: c44 :: c45 :: c46 :: c47 :: c48 :: c49 :: c50 :: c51 :: c52 :: c53 :: c54 :: c55 :: c56 :: c57 :: c58 :: c59 :: c60 :: c61 :: c62 :: c63 :: c64 :: c65 :: c66 :: c67 :: c68 :: c69 :: c70 :: c71 :: c72 :: c73 :: c74 :: c75 :: c76 :: c77 :: c78 :: c79 :: c80 :: c81 :: c82 :: u83 :: u84 :: u85 :: u86 :: u87 :: u88 :: u89 :: u90 :: u91 :: u92 :: u93 :: u94 :: u95 :: u96 :: u97 :: u98 :: u99 :: u100 :: u101 :: u102 :: u103 :: u104 :: u105 :: u106 :: u107 :: u108 :: u109 :: u110 :: u111 :: u112 :: u113 :: u114 :: u115 :: u116 :: u117 :: u118 :: u119 :: u120 :: u121 :: u122 :: u123 :: u124 :: u125 :: u126 :: u127 :: u128 :: c129 :: []), []⟩ w2) :
  Code.wp Tryz.prog (Code.loop (waysL 3)) Q ⟨List.toArray (c0 :: .slice al fs.length cl :: .pointer (some ⟨w.heap.size, 0, none⟩) :: c3 :: c4 :: .slice an now.length cn :: c6 :: c7 :: c8 :: c9 :: c10 :: c11 :: c12 :: .slice none 0 0 :: .int .i64 (0 : Nat) :: c15 :: c16 :: c17 :: c18 :: c19 :: c20 :: c21 :: c22 :: c23 :: c24 :: c25 :: c26 :: c27 :: c28 :: c29 :: c30 :: c31 :: c32 :: c33 :: c34 :: c35 :: c36 :: c37 :: c38 :: c39 :: c40 :: c41 :: c42 :: c43 :: c44 :: c45 :: c46 :: c47 :: c48 :: c49 :: c50 :: c51 :: c52 :: c53 :: c54 :: c55 :: c56 :: c57 :: c58 :: c59 :: c60 :: c61 :: c62 :: c63 :: c64 :: c65 :: c66 :: c67 :: c68 :: c69 :: c70 :: c71 :: c72 :: c73 :: c74 :: c75 :: c76 :: c77 :: c78 :: c79 :: c80 :: c81 :: c82 :: c83 :: c84 :: c85 :: c86 :: c87 :: c88 :: c89 :: c90 :: c91 :: c92 :: c93 :: c94 :: c95 :: c96 :: c97 :: c98 :: c99 :: c100 :: c101 :: c102 :: c103 :: c104 :: c105 :: c106 :: c107 :: c108 :: c109 :: c110 :: c111 :: c112 :: c113 :: c114 :: c115 :: c116 :: c117 :: c118 :: c119 :: c120 :: c121 :: c122 :: c123 :: c124 :: c125 :: c126 :: c127 :: c128 :: c129 :: []), []⟩ w1 := by
 conv => arg 2; arg 1; whnf
 have HC := hide hC
 have HI := hide hI
 have HX := hide hexit
 have HSZ := hide hsz
 obtain ⟨iw, hiw, hw0, hw1, hw2⟩ := info_parts infoWay
 clear hC hI hexit hsz
 go_loopg [13, 14] now.length (fun gg v ii wr => ∃ (i : Nat) (outs : List WG), i ≤ now.length ∧ gg = now.length - i ∧ ii = .int .i64 i ∧ W3In w R hv bv (.slice an now.length cn) now v outs wr ∧ outs.map (·.W) ++ ((now.map (·.W)).drop i).filter (zh8 R (fs.map (·.F))) = (now.map (·.W)).filter (zh8 R (fs.map (·.F))) ∧ (∀ x ∈ outs, x ∈ now) ∧ outs.length ≤ i)
 case atStart => exact ⟨0, [], Nat.zero_le _, rfl, rfl, zaa HI, by simp, by simp, by simp⟩
 case round =>
  clear HI
  obtain ⟨i, outs, hi, hgi, rfl, hI, hfin, hsub, hol⟩ := hrel
  obtain ⟨a7, c7, rfl⟩ := zac hI.next.row
  have HI := hide hI
  have HF := hide hfin
  have HS := hide hsub
  clear hI hfin hsub
  by_cases hli : i < now.length
  ·have hii : (i : Int) < now.length := by omega
   have hst : ((now.map (·.W)).drop i).filter (zh8 R (fs.map (·.F))) = (if zh8 R (fs.map (·.F)) now[i].W then [now[i].W] else []) ++ ((now.map (·.W)).drop (i + 1)).filter (zh8 R (fs.map (·.F))) := by
    rw [List.drop_eq_getElem_cons (by simpa using hli), List.filter_cons, List.getElem_map]
    split <;> simp
   have HF2 := hide ((congrArg (outs.map (·.W) ++ ·) hst).symm.trans (zaa HF))
   clear hst HF
   go_wp2_with fail
   refine ways5 w base R hv bs bv fs al cl (zaa HC) now an cn i hli (zaa HSZ _ (List.getElem_mem hli)) _ outs wr (zaa HI) ?_
   intro w8
   intros
   rename_i hI8
   have HI8 := hide hI8
   have hok : R.body.all (negB (fs.map (·.F)) now[i].e) = zh8 R (fs.map (·.F)) now[i].W := rfl
   rw [hok]
   cases hw : zh8 R (fs.map (·.F)) now[i].W with
   | false =>
    have HF3 := hide (show outs.map (·.W) ++ ((now.map (·.W)).drop (i + 1)).filter (zh8 R (fs.map (·.F))) = (now.map (·.W)).filter (zh8 R (fs.map (·.F))) by have := zaa HF2; rw [hw] at this; simpa using this)
    clear hok hI8 HF2 HI hw
    go_wp2_with fail
    go_roundg (now.length - (i + 1))
    case measure => omega
    case rel => exact ⟨i + 1, outs, by omega, rfl, by go_num, zaa HI8, zaa HF3, zaa HS, by omega⟩
   | true =>
    have HF3 := hide (show (outs ++ [now[i]]).map (·.W) ++ ((now.map (·.W)).drop (i + 1)).filter (zh8 R (fs.map (·.F))) = (now.map (·.W)).filter (zh8 R (fs.map (·.F))) by have := zaa HF2; rw [hw] at this; simpa using this)
    obtain ⟨g5, c5, hv5, -, hl5, hn5, hm5, x0, x1, x2⟩ := way_at hI8.now.row hli
    injection hv5 with i1 i2 i3
    subst i1 i3
    have hway := hI8.now.each _ (List.getElem_mem hli)
    obtain ⟨an1, cn1, at1, ct1, e1, e2⟩ := hway.env.shape
    obtain ⟨af, cf, e3⟩ := zac hway.fr
    have HS2 := hide (show ∀ x ∈ outs ++ [now[i]], x ∈ now from fun x hx => by
     rcases List.mem_append.1 hx with hx | hx
     ·exact zaa HS x hx
     ·rw [List.mem_singleton.1 hx]; exact List.getElem_mem hli)
    have hadd := fun (w5 : World) (g cap : Nat) (hg : (w8.alloc (.cells #[now[i].nv, now[i].tv, now[i].fv] 325)).grownBy w5 (Value.slice a7 outs.length c7).ownBlock) (hown : w5.ownsRow (w.heap.size + 1) 325 3 (.slice (some ⟨g, 0, none⟩) (outs.length + 1) cap) (outs.length + 1) (outs.flatMap WG.cells ++ [now[i].nv, now[i].tv, now[i].fv])) (hat : (Value.slice a7 outs.length c7).ownBlock = some g ∨ g = (w8.alloc (.cells #[now[i].nv, now[i].tv, now[i].fv] 325)).heap.size) => W3In.add hI8 hway ((Kept.refl [] _).alloc _) hg hown hat
    have hrow := hI8.next.row
    have hl3 := hI8.lt
    have HADD := hide hadd
    have HR := hide (hrow.alloc (.cells #[now[i].nv, now[i].tv, now[i].fv] 325))
    have hnew := hide (World.news_of_block (heap_alloc_new w8 (.cells #[now[i].nv, now[i].tv, now[i].fv] 325)))
    rw [e1, e2, e3] at HADD HR hnew
    rw [e1] at x0
    rw [e2] at x1
    rw [e3] at x2
    clear hok hI8 HF2 HI hw HI8 hway hadd hrow e1 e2 e3 HS
    generalize now[i].e.length = ne at *
    generalize now[i].fr.length = nf at *
    go_wp2_with (at_builtin; go_must (refine wpList_append_lies _ rfl _ _ _ rfl (w.heap.size + 1) 325 iw (.agg #[.slice none 0 0, .slice none 0 0, .slice none 0 0]) 3 72 Tryz.underlying322 hiw hw0 hw1 hw2 rfl (by decide) (.slice a7 outs.length c7) outs.length _ rfl (zaa HR) ⟨w8.heap.size, 0, none⟩ 1 1 [.slice an1 ne cn1, .slice at1 ne ct1, .slice af nf cf] rfl rfl (zaa hnew) (by simp [Value.oneCell']) (by decide) (by unfold maxLen; omega) (by omega) (by simp; omega) _ rfl ?_; intro g cap w5 hown5 hg5 hat5 hlt5))
    have HW5 := hide (zaa HADD w5 g cap hg5 hown5 hat5)
    go_roundg (now.length - (i + 1))
    case measure => omega
    case rel => exact ⟨i + 1, outs ++ [now[i]], by omega, rfl, by go_num, zaa HW5, zaa HF3, zaa HS2, by rw [List.length_append, List.length_singleton]; omega⟩
  ·have HE := hide (show outs.map (·.W) = (now.map (·.W)).filter (zh8 R (fs.map (·.F))) by rw [← zaa HF, List.drop_of_length_le (by simp; omega)]; simp)
   clear HF
   go_wp2_with fail
   apply zaa HX
   ·exact zaa HI
   ·exact zaa HE
   ·exact zaa HS
end
end Go.Proofs.YtldkpahaocjdpaaGreat
