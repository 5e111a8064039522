/-
  The reference's ways: the innermost loop: one way, gone on by one literal, over all facts.
-/
import Derived.Test.YtldkpahaocjdpaaGreatQueriesT31
import Derived.Deep.RegionHeld3
import Derived.Deep.DeepCutAuto
set_option maxHeartbeats 16000000
namespace Go.Proofs.YtldkpahaocjdpaaGreat
section
open Go.RowKit
def zfk : Code → List Code
 | .loop c => c :: zfk c
 | .seq a b => zfk a ++ zfk b
 | .block _ c => zfk c
 | .cond _ a b => zfk a ++ zfk b
 | _ => []
noncomputable def waysL (k : Nat) : Code := ((Tryz.f193.body.map zfk).getD []).getD k .skip
structure WCtx (w : World) (base : Nat) (R : RRule) (hv : Value) (bs : List (RAtom × Value)) (bv : Value) (fs : List FG) (lv : Value) : Prop where
 rule : RuleIn w base R hv bs bv
 facts : FactsIn w base lv fs
 few : fs.length ≤ 50
 body : bs.length ≤ 3
 terms : ∀ a ∈ R.body, a.terms.length ≤ 4
structure W3In (w : World) (R : RRule) (hv bv nv : Value) (now : List WG) (v : Value) (next : List WG) (wr : World) : Prop where
 below : Below w.heap.size w wr
 box : wr.heap[w.heap.size]? = some (.cells #[.string R.head.pred, hv, .bool R.head.no, .int .i64 R.head.at_, .int .i64 R.head.noAt, bv] 246 (0, 0))
 now : WaysIn wr (w.heap.size + 1) nv now
 next : WaysIn wr (w.heap.size + 1) v next
 ne : ∀ g, v.ownBlock = some g → nv.ownBlock ≠ some g
theorem W3In.lt {w : World} {R : RRule} {hv bv nv : Value} {now : List WG} {v : Value} {next : List WG} {wr : World} (h : W3In w R hv bv nv now v next wr) : w.heap.size < wr.heap.size := (Array.getElem?_eq_some_iff.1 h.box).1
theorem W3In.past {w : World} {R : RRule} {hv bv nv : Value} {now : List WG} {v : Value} {next : List WG} {wr w' : World} (h : W3In w R hv bv nv now v next wr) (k : Below wr.heap.size wr w') : W3In w R hv bv nv now v next w' :=
 have hl := h.lt
 ⟨h.below.trans (k.mono (by omega)), (k.block _ hl).trans h.box, h.now.below k, h.next.below k, h.ne⟩
theorem kept_below {w w' : World} (k : Kept [] w w') : Below w.heap.size w w' := ⟨k.os, k.tape, k.output, k.size, fun b hb => k.block b hb (by simp)⟩
theorem W3In.add {w : World} {R : RRule} {hv bv nv : Value} {now : List WG} {v : Value} {next : List WG} {wX W w5 : World} {x : WG} {g cap : Nat} (h : W3In w R hv bv nv now v next wX) (hx : WayIn wX (w.heap.size + 1) x) (hW : Kept [] wX W) (hg : W.grownBy w5 v.ownBlock) (hown : w5.ownsRow (w.heap.size + 1) 325 3 (.slice (some ⟨g, 0, none⟩) (next.length + 1) cap) (next.length + 1) (next.flatMap WG.cells ++ x.cells)) (hat : v.ownBlock = some g ∨ g = W.heap.size) : W3In w R hv bv nv now (.slice (some ⟨g, 0, none⟩) (next.length + 1) cap) (next ++ [x]) w5 := by
 have hl := h.lt
 have hs := hW.size
 have hb := h.below.size
 have k5 : Kept v.ownBlock.toList wX w5 := (hW.mono (by simp)).trans (Kept.of_grown hg)
 have far : ∀ b ∈ v.ownBlock.toList, w.heap.size + 1 ≤ b := fun b hm => (h.next.row.lt b (by simpa using hm)).1
 refine ⟨zar h.below k5 hb (fun b hm => by have := far b hm; omega), ?_, h.next.other h.now h.ne hW hg, h.next.add hx hW hg hown, fun g' e => ?_⟩
 ·rw [k5.block _ hl (fun hm => by have := far _ hm; omega)]; exact h.box
 ·have e' : g = g' := by simpa [Value.ownBlock] using e
  subst e'
  rcases hat with h1 | h1
  ·exact h.ne g h1
  ·intro h2; have := (h.now.row.lt g h2).2; omega
theorem zjr {w : World} {b g j : Nat} {u v : Value} (h : ¬ g = b) : ((w.setCell ⟨b, 0, none⟩ u).setCell ⟨b, 1, none⟩ v).cell? ⟨g, j, none⟩ = w.cell? ⟨g, j, none⟩ := by
 rw [World.cell?_of_block (Below.heap_setCell _ ⟨b, 1, none⟩ _ g (by simpa using h)), World.cell?_of_block (Below.heap_setCell _ ⟨b, 0, none⟩ _ g (by simpa using h))]
structure M3 (wr : World) (r : Option Env) (b : Nat) (nv' tv' : Value) (wc : World) : Prop where
 below : Below wr.heap.size wr wc
 ge : wr.heap.size ≤ b
 blk : wc.heap[b]? = some (.cells #[nv', tv'] 258 (0, 0))
 env : ∀ E', r = some E' → EnvIn wc wr.heap.size E' nv' tv'
theorem M3.behind {wr W w2 : World} {r : Option Env} {nv' tv' : Value} (hW : Below wr.heap.size wr W) (h2 : Below W.heap.size W w2) (he : ∀ E', r = some E' → EnvIn w2 W.heap.size E' nv' tv') : M3 wr r w2.heap.size nv' tv' (w2.alloc (.cells #[nv', tv'] 258)) := by
 have hs := hW.size
 have hs2 := h2.size
 refine ⟨(hW.trans (h2.mono hs)).alloc (by omega) _, by omega, heap_alloc_new w2 _, fun E' e => ?_⟩
 have h := he E' e
 exact ⟨zaf (h.ns.alloc _) (by omega), zaf (h.ts.alloc _) (by omega), h.nil⟩
theorem M3.ahead {wr W w2 : World} {r : Option Env} {nv' tv' u0 u1 : Value} {b : Nat} (hW : Below wr.heap.size wr W) (hb : wr.heap.size ≤ b) (hblk : W.heap[b]? = some (.cells #[u0, u1] 258 (0, 0))) (h2 : Below W.heap.size W w2) (he : ∀ E', r = some E' → EnvIn w2 W.heap.size E' nv' tv') : M3 wr r b nv' tv' ((w2.setCell ⟨b, 0, none⟩ nv').setCell ⟨b, 1, none⟩ tv') := by
 have hs := hW.size
 have hs2 := h2.size
 have hlt := (Array.getElem?_eq_some_iff.1 hblk).1
 have h1 := (h2.block b hlt).trans hblk
 have h1' : (w2.setCell ⟨b, 0, none⟩ nv').heap[b]? = some (.cells #[nv', u1] 258 (0, 0)) := by rw [heap_setCell_same _ _ _ _ _ _ h1]; rfl
 refine ⟨((hW.trans (h2.mono hs)).setCell (by simpa using hb) _).setCell (by simpa using hb) _, hb, by rw [heap_setCell_same _ _ _ _ _ _ h1']; rfl, fun E' e => ?_⟩
 have h := he E' e
 exact ⟨zaf (ownsRow_setCell_below (ownsRow_setCell_below h.ns (by simpa using hlt) _) (by simpa using hlt) _) (by omega), zaf (ownsRow_setCell_below (ownsRow_setCell_below h.ts (by simpa using hlt) _) (by simpa using hlt) _) (by omega), h.nil⟩
set_option maxRecDepth 1000000 in
theorem ways3 (w : World) (base : Nat) (R : RRule) (hv : Value) (bs : List (RAtom × Value)) (bv : Value) (fs : List FG) (al : Option Addr) (cl : Nat) (hC : WCtx w base R hv bs bv fs (.slice al fs.length cl)) (now : List WG) (an : Option Addr) (cn : Nat) (k i : Nat) (hk : k < bs.length) (hi : i < now.length) (hno : now[i].e.length ≤ 100) (hnf : now[i].fr.length ≤ 100) (T : List Way) (hT : T.length ≤ 1000000) (v7 : Value) (next : List WG) (hfin : next.map (·.W) ++ wayF bs[k].1 now[i].W (fs.map (·.F)) 0 = T) (w1 : World) (hI : W3In w R hv bv (.slice an now.length cn) now v7 next w1)
  {Q : Exit → Act → World → Prop} {c0 c3 c4 c10 c11 c12 c13 c14 c15 c16 c17 c18 c19 c20 c21 c22 c23 c24 c25 c26 c27 c28 c29 c30 c31 c32 c33 c34 c35 c36 c37 c38 c39 c40 c41 c42 c43 c44 c45 c46 c47 c48 c49 c50 c51 c52 c53 c54 c55 c56 c57 c58 c59 c60 c61 c62 c63 c64 c65 c66 c67 c68 c69 c70 c71 c72 c73 c74 c75 c76 c77 c78 c79 c80 c81 c82 c83 c84 c85 c86 c87 c88 c89 c90 c91 c92 c93 c94 c95 c96 c97 c98 c99 c100 c101 c102 c103 c104 c105 c106 c107 c108 c109 c110 c111 c112 c113 c114 c115 c116 c117 c118 c119 c120 c121 c122 c123 c124 c125 c126 c127 c128 c129 : Value}
  (hexit : ∀ (v7' : Value) (next' : List WG) (w2 : World) (u9 u10 u11 u12 u39 u40 u41 u42 u43 u44 u45 u46 u47 u48 u49 u50 u51 u52 u53 u54 u55 u56 u57 u58 u59 u60 u61 u62 u63 u64 u65 u66 u67 u68 u69 u70 u71 u72 u73 u74 u75 u76 u77 u78 u79 u80 u81 : Value), W3In w R hv bv (.slice an now.length cn) now v7' next' w2 → next'.map (·.W) = T → Q (.exit 4) ⟨List.toArray (c0 :: .slice al fs.length cl :: .pointer (some ⟨w.heap.size, 0, none⟩) :: c3 :: c4 :: .slice an now.length cn :: .int .i64 k :: v7' :: .int .i64 i :: u9 :: u10 :: u11 :: u12 :: c13 :: c14 :: c15 :: c16 :: c17 :: c18 :: c19 :: c20 :: c21 :: c22 :: c23 :: c24 :: c25 :: c26 :: c27 :: c28 :: c29 :: c30 :: c31 :: c32 :: c33 :: c34 :: c35 :: c36 :: c37 :: c38 :: u39 :: u40 :: u41 :: u42 :: u43 :: u44 :: u45 :: u46 :: u47 :: u48 :: u49 :: u50 :: u51 :: u52 :: u53 :: u54 :: u55 :: u56 :: u57 :: u58 :: u59 :: u60 :: u61 :: u62 :: u63 :: u64 :: u65 :: u66 :: u67 :: u68 :: u69 :: u70 :: u71 :: u72 :: u73 :: u74 :: u75 :: u76 :: u77 :: u78 :: u79 :: u80 :: u81 :: c82 :: c83 :: c84 :: c85 :: c86 :: c87 :: c88 :: c89 :: c90 :: c91 :: c92 :: c93 :: c94 :: c95 :: c96 :: c97 :: c98 :: c99 :: c100 :: c101 :: c102 :: c103 :: c104 :: c105 :: c106 :: c107 :: c108 :: c109 :: c110 :: c111 :: c112 :: c113 :: c114 :: c115 :: c116 :: c117 :: c118 :: c119 :: c120 :: c121 :: c122 :: c123 :: c124 :: c125 :: c126 :: c127 :: c128 :: c129 :: []), []⟩ w2) :
  Code.wp Tryz.prog (Code.loop (waysL 2)) Q ⟨List.toArray (c0 :: .slice al fs.length cl :: .pointer (some ⟨w.heap.size, 0, none⟩) :: c3 :: c4 :: .slice an now.length cn :: .int .i64 k :: v7 :: .int .i64 i :: .int .i64 (0 : Nat) :: c10 :: c11 :: c12 :: c13 :: c14 :: c15 :: c16 :: c17 :: c18 :: c19 :: c20 :: c21 :: c22 :: c23 :: c24 :: c25 :: c26 :: c27 :: c28 :: c29 :: c30 :: c31 :: c32 :: c33 :: c34 :: c35 :: c36 :: c37 :: c38 :: c39 :: c40 :: c41 :: c42 :: c43 :: c44 :: c45 :: c46 :: c47 :: c48 :: c49 :: c50 :: c51 :: c52 :: c53 :: c54 :: c55 :: c56 :: c57 :: c58 :: c59 :: c60 :: c61 :: c62 :: c63 :: c64 :: c65 :: c66 :: c67 :: c68 :: c69 :: c70 :: c71 :: c72 :: c73 :: c74 :: c75 :: c76 :: c77 :: c78 :: c79 :: c80 :: c81 :: c82 :: c83 :: c84 :: c85 :: c86 :: c87 :: c88 :: c89 :: c90 :: c91 :: c92 :: c93 :: c94 :: c95 :: c96 :: c97 :: c98 :: c99 :: c100 :: c101 :: c102 :: c103 :: c104 :: c105 :: c106 :: c107 :: c108 :: c109 :: c110 :: c111 :: c112 :: c113 :: c114 :: c115 :: c116 :: c117 :: c118 :: c119 :: c120 :: c121 :: c122 :: c123 :: c124 :: c125 :: c126 :: c127 :: c128 :: c129 :: []), []⟩ w1 := by
 conv => arg 2; arg 1; whnf
 have HC := hide hC
 have HF := hide hfin
 have HI := hide hI
 have hfew := hC.few
 have HX := hide hexit
 clear hexit
 clear hC hfin hI
 go_loopg [7, 9] fs.length (fun gg v ff wr => ∃ (f : Nat) (next' : List WG), f ≤ fs.length ∧ gg = fs.length - f ∧ ff = .int .i64 f ∧ W3In w R hv bv (.slice an now.length cn) now v next' wr ∧ next'.map (·.W) ++ wayF bs[k].1 now[i].W ((fs.map (·.F)).drop f) f = T)
 case atStart => exact ⟨0, next, Nat.zero_le _, rfl, rfl, zaa HI, zaa HF⟩
 case round =>
  clear HI HF
  obtain ⟨f, next', hf, hgf, rfl, hI, hfin⟩ := hrel
  obtain ⟨a7, c7, rfl⟩ := zac hI.next.row
  have HI := hide hI
  have HF := hide hfin
  clear hI hfin
  by_cases hlf : f < fs.length
  ·have hC := zaa HC
   have hI := zaa HI
   have hsz := hI.below.size
   have hlt := hI.lt
   -- what is read: the way, the literal, the fact
   obtain ⟨g5, c5, hv5, -, hl5, hn5, hm5, x0, x1, x2⟩ := way_at hI.now.row hi
   injection hv5 with i1 i2 i3
   subst i1 i3
   have hbo := zai hC.rule.bo hI.below (fun g e => (hC.rule.bo.lt g e).2)
   obtain ⟨gb, cb, hvb, -, hlb, hnb, hmb, y0, y1, y2, y3, y4⟩ := zcx hbo k hk
   subst hvb
   have hfr := zai hC.facts.row hI.below (fun g e => (hC.facts.row.lt g e).2)
   obtain ⟨gl, cl', hvl, -, hll, hnl, hml, hcl⟩ := ziq hfr hlf
   injection hvl with i1 i2 i3
   subst i1 i3
   have z0 := hcl 0 (by decide)
   have z1 := hcl 1 (by decide)
   have z2 := hcl 2 (by decide)
   have z3 := hcl 3 (by decide)
   have z4 := hcl 4 (by decide)
   simp only [FG.cells, List.getElem?_cons_succ, List.getElem?_cons_zero, Nat.add_zero] at z0 z1 z2 z3 z4
   obtain ⟨p5, -⟩ := zab hI.box 5
   simp only [List.getElem?_toArray, List.getElem?_cons_zero, List.getElem?_cons_succ] at p5
   have hway := hI.now.each _ (List.getElem_mem hi)
   obtain ⟨an1, cn1, at1, ct1, e1, e2⟩ := hway.env.shape
   have hAr := hC.rule.bl _ (List.getElem_mem hk)
   obtain ⟨aa, ca, e3⟩ := zac hAr
   have hTr := (hC.facts.each _ (List.getElem_mem hlf)).t
   obtain ⟨ba, cb2, e4⟩ := zac hTr
   have h4 : bs[k].1.terms.length ≤ 4 := hC.terms _ (by rw [hC.rule.eq]; exact List.mem_map_of_mem (List.getElem_mem hk))
   rw [e1] at x0
   rw [e2] at x1
   rw [e3] at y1
   rw [e4] at z1
   have hcall : ∀ W, Below wr.heap.size wr W → Calls Tryz.prog 139 #[.agg #[.slice an1 now[i].e.length cn1, .slice at1 now[i].e.length ct1], .agg #[.string bs[k].1.pred, .slice aa bs[k].1.terms.length ca, .bool bs[k].1.no, .int .i64 bs[k].1.at_, .int .i64 bs[k].1.noAt], .agg #[.string fs[f].F.thing.pred, .slice ba fs[f].F.thing.terms.length cb2, .bool fs[f].F.thing.no, .int .i64 fs[f].F.thing.at_, .int .i64 fs[f].F.thing.noAt]] W (zh3 W (.slice an1 now[i].e.length cn1) (.slice at1 now[i].e.length ct1) (zch now[i].e bs[k].1 fs[f].F.thing)) := fun W hW => by
    have hB := hI.below.trans (hW.mono hsz)
    have q1 := hway.env.below hW
    rw [e1, e2] at q1
    rw [e3] at hAr
    rw [e4] at hTr
    exact zl2 W 0 now[i].e bs[k].1 fs[f].F.thing an1 at1 aa ba cn1 ct1 ca cb2 ⟨zaf q1.ns (Nat.zero_le _), zaf q1.ts (Nat.zero_le _), q1.nil⟩ (zaf (zai hAr hB (fun g e => (hAr.lt g e).2)) (Nat.zero_le _)) (zaf (zai hTr hB (fun g e => (hTr.lt g e).2)) (Nat.zero_le _)) (by omega)
   have hst := (wayF_step (a := bs[k].1) (x := now[i].W) (l := fs.map (·.F)) (k := f) (by simpa using hlf))
   rw [List.getElem_map] at hst
   have HF2 := hide ((congrArg (next'.map (·.W) ++ ·) hst).symm.trans (zaa HF))
   have HCALL := hide hcall
   have HWAY := hide hway
   have HE12 := hide (And.intro e1 e2)
   have hii : (i : Int) < now.length := by omega
   have hki : (k : Int) < bs.length := by omega
   have hfi : (f : Int) < fs.length := by omega
   have b1 : w.heap.size < wr.heap.size := hlt
   clear hC hI hbo hfr hcl hway hAr hTr hcall hst HF HC e1 e2 e3 e4 hsz hlt
   generalize bs[k].1 = A at *
   generalize fs[f].F.thing = TH at *
   have HK : Hid (∀ W w' : World, Below wr.heap.size wr W → Below W.heap.size W w' → w'.cell? ⟨g5, i * 3, none⟩ = some (.slice an1 now[i].e.length cn1) ∧ w'.cell? ⟨g5, i * 3 + 1, none⟩ = some (.slice at1 now[i].e.length ct1) ∧ w'.cell? ⟨w.heap.size, 5, none⟩ = some (.slice (some ⟨gb, 0, none⟩) bs.length cb) ∧ w'.cell? ⟨gb, k * 5, none⟩ = some (.string A.pred) ∧ w'.cell? ⟨gb, k * 5 + 1, none⟩ = some (.slice aa A.terms.length ca) ∧ w'.cell? ⟨gb, k * 5 + 2, none⟩ = some (.bool A.no) ∧ w'.cell? ⟨gb, k * 5 + 3, none⟩ = some (.int .i64 A.at_) ∧ w'.cell? ⟨gb, k * 5 + 4, none⟩ = some (.int .i64 A.noAt) ∧ w'.cell? ⟨gl, f * 10, none⟩ = some (.string TH.pred) ∧ w'.cell? ⟨gl, f * 10 + 1, none⟩ = some (.slice ba TH.terms.length cb2) ∧ w'.cell? ⟨gl, f * 10 + 2, none⟩ = some (.bool TH.no) ∧ w'.cell? ⟨gl, f * 10 + 3, none⟩ = some (.int .i64 TH.at_) ∧ w'.cell? ⟨gl, f * 10 + 4, none⟩ = some (.int .i64 TH.noAt)) := hide (fun W w' h1 h2 => by
    have hB := h1.trans (h2.mono h1.size)
    exact ⟨(hB.cell (by simpa using hl5)).trans x0, (hB.cell (by simpa using hl5)).trans x1, (hB.cell (by simpa using b1)).trans p5, (hB.cell (by simpa using hlb)).trans y0, (hB.cell (by simpa using hlb)).trans y1, (hB.cell (by simpa using hlb)).trans y2, (hB.cell (by simpa using hlb)).trans y3, (hB.cell (by simpa using hlb)).trans y4, (hB.cell (by simpa using hll)).trans z0, (hB.cell (by simpa using hll)).trans z1, (hB.cell (by simpa using hll)).trans z2, (hB.cell (by simpa using hll)).trans z3, (hB.cell (by simpa using hll)).trans z4⟩)
   have d5 : ¬ g5 = wr.heap.size := by omega
   have db : ¬ gb = wr.heap.size := by omega
   have dl : ¬ gl = wr.heap.size := by omega
   have dw : ¬ w.heap.size = wr.heap.size := by omega
   go_upto_region 13 with fail
   go_cut [10, 11] from 39 to 81 (fun p ok wc => ∃ b nv' tv', p = .pointer (some ⟨b, 0, none⟩) ∧ ok = .bool (zch now[i].e A TH).isSome ∧ M3 wr (zch now[i].e A TH) b nv' tv' wc)
   case first =>
    clear HF2 HWAY HE12 x2 HI
    cases hr : zch now[i].e A TH with
    | none =>
     rw [hr] at HCALL
     go_region_held3 (fun w' => w'.cell? ⟨g5, i * 3, none⟩ = some (.slice an1 now[i].e.length cn1) ∧ w'.cell? ⟨g5, i * 3 + 1, none⟩ = some (.slice at1 now[i].e.length ct1) ∧ w'.cell? ⟨w.heap.size, 5, none⟩ = some (.slice (some ⟨gb, 0, none⟩) bs.length cb) ∧ w'.cell? ⟨gb, k * 5, none⟩ = some (.string A.pred) ∧ w'.cell? ⟨gb, k * 5 + 1, none⟩ = some (.slice aa A.terms.length ca) ∧ w'.cell? ⟨gb, k * 5 + 2, none⟩ = some (.bool A.no) ∧ w'.cell? ⟨gb, k * 5 + 3, none⟩ = some (.int .i64 A.at_) ∧ w'.cell? ⟨gb, k * 5 + 4, none⟩ = some (.int .i64 A.noAt) ∧ w'.cell? ⟨gl, f * 10, none⟩ = some (.string TH.pred) ∧ w'.cell? ⟨gl, f * 10 + 1, none⟩ = some (.slice ba TH.terms.length cb2) ∧ w'.cell? ⟨gl, f * 10 + 2, none⟩ = some (.bool TH.no) ∧ w'.cell? ⟨gl, f * 10 + 3, none⟩ = some (.int .i64 TH.at_) ∧ w'.cell? ⟨gl, f * 10 + 4, none⟩ = some (.int .i64 TH.noAt)) (first | go_keep | (refine ⟨?_, ?_, ?_, ?_, ?_, ?_, ?_, ?_, ?_, ?_, ?_, ?_, ?_⟩ <;> (refine (zjr ?_).trans ?_ <;> assumption))) ((go_at_call 139; refine (zaa HCALL _ (by first | exact (Below.refl _ _).drew | exact ((Below.refl _ _).alloc (Nat.le_refl _) _).drew | exact (Below.refl _ _).drew.alloc (Nat.le_refl _) _)).mono ?_; rintro e w2 ⟨hb2, hn2, -⟩; obtain rfl := hn2 rfl; obtain ⟨m0, m1, m2, m3, m4, m5, m6, m7, m8, m9, m10, m11, m12⟩ := zaa HK _ _ (by first | exact (Below.refl _ _).drew | exact ((Below.refl _ _).alloc (Nat.le_refl _) _).drew | exact (Below.refl _ _).drew.alloc (Nat.le_refl _) _) hb2; have hc2 := fun (j : Nat) h => hb2.cell (p := ⟨wr.heap.size, j, none⟩) h; have hf2 := fun (j : Nat) h => hb2.frozen (p := ⟨wr.heap.size, j, none⟩) h; clear hn2))
     all_goals
      go_wp2_with fail
      go_meet
      case rel =>
       rw [hr]
       first | exact ⟨_, _, _, rfl, rfl, M3.behind (W := wr.drew) (Below.refl _ _).drew hb2 (fun _ h => by cases h)⟩ | exact ⟨_, _, _, rfl, rfl, M3.ahead (W := (wr.alloc (.cells #[.slice none 0 0, .slice none 0 0] 258)).drew) ((Below.refl _ _).alloc (Nat.le_refl _) _).drew (Nat.le_refl _) (heap_alloc_new wr _) hb2 (fun _ h => by cases h)⟩
    | some E' =>
     rw [hr] at HCALL
     go_region_held3 (fun w' => w'.cell? ⟨g5, i * 3, none⟩ = some (.slice an1 now[i].e.length cn1) ∧ w'.cell? ⟨g5, i * 3 + 1, none⟩ = some (.slice at1 now[i].e.length ct1) ∧ w'.cell? ⟨w.heap.size, 5, none⟩ = some (.slice (some ⟨gb, 0, none⟩) bs.length cb) ∧ w'.cell? ⟨gb, k * 5, none⟩ = some (.string A.pred) ∧ w'.cell? ⟨gb, k * 5 + 1, none⟩ = some (.slice aa A.terms.length ca) ∧ w'.cell? ⟨gb, k * 5 + 2, none⟩ = some (.bool A.no) ∧ w'.cell? ⟨gb, k * 5 + 3, none⟩ = some (.int .i64 A.at_) ∧ w'.cell? ⟨gb, k * 5 + 4, none⟩ = some (.int .i64 A.noAt) ∧ w'.cell? ⟨gl, f * 10, none⟩ = some (.string TH.pred) ∧ w'.cell? ⟨gl, f * 10 + 1, none⟩ = some (.slice ba TH.terms.length cb2) ∧ w'.cell? ⟨gl, f * 10 + 2, none⟩ = some (.bool TH.no) ∧ w'.cell? ⟨gl, f * 10 + 3, none⟩ = some (.int .i64 TH.at_) ∧ w'.cell? ⟨gl, f * 10 + 4, none⟩ = some (.int .i64 TH.noAt)) (first | go_keep | (refine ⟨?_, ?_, ?_, ?_, ?_, ?_, ?_, ?_, ?_, ?_, ?_, ?_, ?_⟩ <;> (refine (zjr ?_).trans ?_ <;> assumption))) ((go_at_call 139; refine (zaa HCALL _ (by first | exact (Below.refl _ _).drew | exact ((Below.refl _ _).alloc (Nat.le_refl _) _).drew | exact (Below.refl _ _).drew.alloc (Nat.le_refl _) _)).mono ?_; rintro e w2 ⟨hb2, -, hs2⟩; obtain ⟨nv', tv', rfl, henv⟩ := hs2 E' rfl; obtain ⟨an2, cn2, at2, ct2, rfl, rfl⟩ := henv.shape; obtain ⟨m0, m1, m2, m3, m4, m5, m6, m7, m8, m9, m10, m11, m12⟩ := zaa HK _ _ (by first | exact (Below.refl _ _).drew | exact ((Below.refl _ _).alloc (Nat.le_refl _) _).drew | exact (Below.refl _ _).drew.alloc (Nat.le_refl _) _) hb2; have hc2 := fun (j : Nat) h => hb2.cell (p := ⟨wr.heap.size, j, none⟩) h; have hf2 := fun (j : Nat) h => hb2.frozen (p := ⟨wr.heap.size, j, none⟩) h; have HENV := hide henv; clear hs2 henv))
     all_goals
      go_wp2_with fail
      go_meet
      case rel =>
       rw [hr]
       first | exact ⟨_, _, _, rfl, rfl, M3.behind (W := wr.drew) (Below.refl _ _).drew hb2 (fun _ h => by cases h; exact zaa HENV)⟩ | exact ⟨_, _, _, rfl, rfl, M3.ahead (W := (wr.alloc (.cells #[.slice none 0 0, .slice none 0 0] 258)).drew) ((Below.refl _ _).alloc (Nat.le_refl _) _).drew (Nat.le_refl _) (heap_alloc_new wr _) hb2 (fun _ h => by cases h; exact zaa HENV)⟩
   case rest =>
    generalize wc = wA at *
    obtain ⟨b, nv', tv', rfl, rfl, hM⟩ := hcut
    have hI2 := (zaa HI).past hM.below
    have hbelow := hM.below
    have hbs := hbelow.size
    have HI2 := hide hI2
    cases hr : zch now[i].e A TH with
    | none =>
     have HF3 := hide (show next'.map (·.W) ++ wayF A now[i].W ((fs.map (·.F)).drop (f + 1)) (f + 1) = T by
      have := zaa HF2
      rw [show now[i].W.1 = now[i].e from rfl, hr] at this
      simpa using this)
     clear HF2 hM HI HCALL HK x0 x1 x2 y0 y1 y2 y3 y4 z0 z1 z2 z3 z4 p5 hI2 HWAY HE12 hr hbelow
     go_wp2_with fail
     go_roundg (fs.length - (f + 1))
     case measure => omega
     case rel => exact ⟨f + 1, next', by omega, rfl, by go_num, zaa HI2, zaa HF3⟩
    | some E' =>
     have henv := hM.env E' hr
     obtain ⟨an2, cn2, at2, ct2, rfl, rfl⟩ := henv.shape
     have HF3 := hide (show (next'.map (·.W) ++ [(E', now[i].fr ++ [f])]) ++ wayF A now[i].W ((fs.map (·.F)).drop (f + 1)) (f + 1) = T by
      have := zaa HF2
      rw [show now[i].W.1 = now[i].e from rfl, hr] at this
      simpa [WG.W] using this)
     have hlT : next'.length + 1 ≤ 1000000 := by
      have := congrArg List.length (zaa HF3)
      simp only [List.length_append, List.length_map, List.length_singleton] at this
      omega
     have hE4 : E'.length ≤ 200 := by have := zmb hr; omega
     have hblk := hM.blk
     have HEV := hide henv
     have HBK := hide hblk
     have hblt := (Array.getElem?_eq_some_iff.1 hblk).1
     have hge := hM.ge
     have w2 : wA.cell? ⟨g5, i * 3 + 2, none⟩ = some now[i].fv := (hbelow.cell (by simpa using hl5)).trans x2
     have hfrow := zai (zaa HWAY).fr hbelow (fun g e => ((zaa HWAY).fr.lt g e).2)
     obtain ⟨af, cf, hfv⟩ := zac hfrow
     rw [hfv] at w2 hfrow
     have hfnil : now[i].fr = [] → af = none ∧ cf = 0 := fun e => by
      have := (zaa HWAY).nil e
      rw [hfv] at this
      injection this with q1 q2 q3
      exact ⟨q1, q3⟩
     have HFN := hide hfnil
     have HFR := hide hfrow
     obtain ⟨i0, hi0, hz0, hz1, hz2⟩ := info_parts zqs
     clear HF2 hM HI HCALL HK x0 x1 x2 y0 y1 y2 y3 y4 z0 z1 z2 z3 z4 p5 hI2 HWAY HE12 hr hbelow henv hblk hfrow hfnil hfv
     generalize now[i].fr = NF at *
     go_upto_region 16 with fail
     go_cut [12] from 39 to 81 (fun v wd => wd.ownsRow wA.heap.size 3 1 v NF.length (ints NF) ∧ Below wA.heap.size wA wd)
     case first =>
      by_cases hE : NF = []
      ·obtain ⟨rfl, rfl⟩ := zaa HFN hE
       rw [hE] at HFR w2
       have HHE := hide hE
       clear hE
       go_wp2_with fail
       go_meet
       case rel => exact ⟨by rw [zaa HHE]; exact World.ownsRow_nil _ _ _ _, Below.refl _ _⟩
      ·have hpos : 0 < NF.length := List.length_pos_iff.2 hE
       obtain ⟨g1, c1', hv1, -, -, -, -⟩ := zen (zaa HFR) hpos
       injection hv1 with i1 i2 i3
       subst i1 i3
       have hnews := hide (znl (zaa HFR))
       go_wp2_with (at_builtin; go_must (refine wpList_append_lies _ rfl _ _ _ rfl wA.heap.size 3 i0 (.int .i64 0) 1 8 Tryz.underlying24 hi0 hz0 hz1 hz2 rfl (by decide) (.slice none 0 0) 0 [] rfl (World.ownsRow_nil _ _ _ _) ⟨g1, 0, none⟩ NF.length cf (ints NF) rfl (by simp [ints]) (zaa hnews) ints_one hpos (by unfold maxLen; omega) (by omega) (Nat.le_refl _) _ rfl ?_; intro g cap w5 hown5 hg5 hat5 hlt5))
       go_meet
       case rel => exact ⟨by simpa using hown5, kept_below (Kept.of_grown hg5)⟩
     case rest =>
      generalize wc = wd at *
      obtain ⟨hrow, hBd⟩ := hcut
      obtain ⟨af2, cf2, rfl⟩ := zac hrow
      have hsd := hBd.size
      have HR := hide (hrow.alloc (.cells #[.int .i64 f] 3))
      have hnew := hide (zg3 (wd.alloc (.cells #[.int .i64 f] 3)) wd.heap.size (.int .i64 f) 3 (heap_alloc_new wd _))
      have hB2 := hide (fun (w5 : World) (hg : (wd.alloc (.cells #[.int .i64 f] 3)).grownBy w5 (Value.slice af2 NF.length cf2).ownBlock) => zar (hBd.alloc hsd (.cells #[.int .i64 f] 3)) (Kept.of_grown hg) (by simp; omega) (fun x hx => (hrow.lt x (by simpa using hx)).1))
      clear hrow hBd HFR HFN w2
      go_upto_region 17 with fail
      go_cut [12] from 39 to 81 (fun v we => we.ownsRow wA.heap.size 3 1 v (NF.length + 1) (ints (NF ++ [f])) ∧ Below wA.heap.size wA we)
      case first =>
       go_wp2_with (at_builtin; go_must (refine wpList_append_lies _ rfl _ _ _ rfl wA.heap.size 3 i0 (.int .i64 0) 1 8 Tryz.underlying24 hi0 hz0 hz1 hz2 rfl (by decide) (.slice af2 NF.length cf2) NF.length (ints NF) rfl (zaa HR) ⟨wd.heap.size, 0, none⟩ 1 1 [.int .i64 f] rfl rfl (zaa hnew) (by simp [Value.oneCell']) (by decide) (by unfold maxLen; omega) (by omega) (by simp; omega) _ rfl ?_; intro g cap w5 hown5 hg5 hat5 hlt5))
       go_meet
       case rel => exact ⟨by rw [ints_append]; exact hown5, zaa hB2 w5 hg5⟩
      case rest =>
       clear HR hnew hB2
       generalize wc = we at *
       obtain ⟨hrow, hBe⟩ := hcut
       obtain ⟨af3, cf3, rfl⟩ := zac hrow
       have hse := hBe.size
       have hI3 := (zaa HI2).past hBe
       have hev := (zaa HEV).below hBe
       have hblk := (hBe.block b hblt).trans (zaa HBK)
       obtain ⟨r0, rf0⟩ := zab hblk 0
       obtain ⟨r1, rf1⟩ := zab hblk 1
       have hwy : WayIn we (w.heap.size + 1) ⟨E', NF ++ [f], .slice an2 E'.length cn2, .slice at2 E'.length ct2, .slice af3 (NF.length + 1) cf3⟩ := ⟨⟨zaf hev.ns (by omega), zaf hev.ts (by omega), hev.nil⟩, by rw [List.length_append]; exact zaf hrow (by omega), fun e => by simp at e⟩
       obtain ⟨iw, hiw, hw0, hw1, hw2⟩ := info_parts infoWay
       have HR := hide (hI3.next.row.alloc (.cells #[.slice an2 E'.length cn2, .slice at2 E'.length ct2, .slice af3 (NF.length + 1) cf3] 325))
       have hnew := hide (World.news_of_block (heap_alloc_new we (.cells #[.slice an2 E'.length cn2, .slice at2 E'.length ct2, .slice af3 (NF.length + 1) cf3] 325)))
       have hadd := hide (fun (w5 : World) (g cap : Nat) hg hown hat => W3In.add (w5 := w5) (g := g) (cap := cap) (W := we.alloc (.cells #[.slice an2 E'.length cn2, .slice at2 E'.length ct2, .slice af3 (NF.length + 1) cf3] 325)) hI3 hwy ((Kept.refl [] _).alloc _) hg hown hat)
       have hl3 := hI3.lt
       clear hrow hBe hI3 hev hblk hwy rf0 rf1 HI2 HEV HBK
       go_wp2_with (at_builtin; go_must (refine wpList_append_lies _ rfl _ _ _ rfl (w.heap.size + 1) 325 iw (.agg #[.slice none 0 0, .slice none 0 0, .slice none 0 0]) 3 72 Tryz.underlying322 hiw hw0 hw1 hw2 rfl (by decide) (.slice a7 next'.length c7) next'.length _ rfl (zaa HR) ⟨we.heap.size, 0, none⟩ 1 1 [.slice an2 E'.length cn2, .slice at2 E'.length ct2, .slice af3 (NF.length + 1) cf3] rfl rfl (zaa hnew) (by simp [Value.oneCell']) (by decide) (by unfold maxLen; omega) (by omega) (by simp; omega) _ rfl ?_; intro g cap w5 hown5 hg5 hat5 hlt5))
       have HW5 := hide (zaa hadd w5 g cap hg5 hown5 hat5)
       go_roundg (fs.length - (f + 1))
       case measure => omega
       case rel => exact ⟨f + 1, next' ++ [⟨E', NF ++ [f], .slice an2 E'.length cn2, .slice at2 E'.length ct2, .slice af3 (NF.length + 1) cf3⟩], by omega, rfl, by go_num, zaa HW5, by rw [List.map_append]; exact zaa HF3⟩
  ·have HE := hide (show next'.map (·.W) = T by rw [← zaa HF, List.drop_of_length_le (by simp; omega)]; simp [wayF])
   clear HF
   go_wp2_with fail
   exact zaa HX _ _ _ _ _ _ _ _ _ _ _ _ _ _ _ _ _ _ _ _ _ _ _ _ _ _ _ _ _ _ _ _ _ _ _ _ _ _ _ _ _ _ _ _ _ _ _ _ _ _ (zaa HI) (zaa HE)
end
end Go.Proofs.YtldkpahaocjdpaaGreat
