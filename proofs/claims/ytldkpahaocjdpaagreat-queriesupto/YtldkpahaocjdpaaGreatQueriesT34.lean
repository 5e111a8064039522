/-
  The reference's ways, whole.
  The reference's round, plain: what follows with one height, rule by rule and way by way; how it lies in memory.
  The reference's round: the loop over the ways of one rule.
-/
import Derived.Test.YtldkpahaocjdpaaGreatQueriesT33
set_option maxHeartbeats 16000000
namespace Go.Proofs.YtldkpahaocjdpaaGreat
section
open Go.RowKit
def WaysPost (w : World) (R : RRule) (l : List RFact) : Ending → World → Prop := fun e w' => ∃ v outs, e = .returned v ∧ WaysIn w' (w.heap.size + 1) v outs ∧ outs.map (·.W) = zk4 R l ∧ (∀ x ∈ outs, x.e.length ≤ 100 ∧ x.fr.length ≤ 100) ∧ outs.length ≤ 1000000 ∧ Below w.heap.size w w'
theorem own_one {w : World} {g : Nat} {e : TypeId} {xs : List Value} {size : Nat} (hb : w.heap[g]? = some (.cells xs.toArray e (0, 0))) (hl : xs.length = size) : w.ownsRow g e size (.slice (some ⟨g, 0, none⟩) 1 1) 1 xs :=
 ⟨by omega, .inr ⟨g, 1, xs.toArray, rfl, Nat.le_refl _, hb, Nat.le_refl _, by unfold maxLen; omega, by simpa using hl, by simp [← hl]⟩⟩
theorem W3In.start (w : World) (R : RRule) (hv bv : Value) : W3In w R hv bv (.slice (some ⟨w.heap.size + 1, 0, none⟩) 1 1) [⟨[], [], .slice none 0 0, .slice none 0 0, .slice none 0 0⟩] (.slice none 0 0) [] ((w.alloc (.cells #[.string R.head.pred, hv, .bool R.head.no, .int .i64 R.head.at_, .int .i64 R.head.noAt, bv] 246)).alloc (.cells #[.slice none 0 0, .slice none 0 0, .slice none 0 0] 325)) := by
 refine ⟨((Below.refl _ w).alloc (Nat.le_refl _) _).alloc (by simp) _, ?_, ⟨own_one (xs := [.slice none 0 0, .slice none 0 0, .slice none 0 0]) ?_ rfl, fun x hx => ?_⟩, ⟨World.ownsRow_nil _ _ _ _, by simp⟩, fun g e => by cases e⟩
 ·rw [Below.heap_alloc _ _ _ (by simp)]
  exact heap_alloc_new w _
 ·have := heap_alloc_new (w.alloc (.cells #[.string R.head.pred, hv, .bool R.head.no, .int .i64 R.head.at_, .int .i64 R.head.noAt, bv] 246)) (.cells #[.slice none 0 0, .slice none 0 0, .slice none 0 0] 325)
  rw [World.size_alloc] at this
  exact this
 ·rw [List.mem_singleton.1 hx]
  exact ⟨⟨World.ownsRow_nil _ _ _ _, World.ownsRow_nil _ _ _ _, fun _ => ⟨rfl, rfl⟩⟩, World.ownsRow_nil _ _ _ _, fun _ => rfl⟩
set_option maxRecDepth 1000000 in
theorem ways_any (w : World) (base : Nat) (R : RRule) (hv : Value) (bs : List (RAtom × Value)) (bv : Value) (fs : List FG) (al : Option Addr) (cl : Nat) (hC : WCtx w base R hv bs bv fs (.slice al fs.length cl)) (hsz : ∀ x ∈ wayP (fs.map (·.F)) R.body [([], [])], ∀ a ∈ R.body, (zdb (ofA x.1 a)).length ≤ 1000000000) :
  Calls Tryz.prog 193 #[zes R.head hv bv, .slice al fs.length cl] w (WaysPost w R (fs.map (·.F))) := by
 have HC := hide hC
 have H0 := hide (W3In.start w R hv bv)
 have HSZ := hide hsz
 obtain ⟨ab, cb, rfl⟩ := zac hC.rule.bo
 obtain ⟨ah, ch, rfl⟩ := zac hC.rule.hd
 clear hC hsz
 unfold zes
 go_enter Tryz.func193, Tryz.ntmps193
 go_wp2_with fail
 refine ways1 w base R _ bs _ fs al cl (zaa HC) _ _ (zaa H0) ?_
 intro v5 now w2
 intros
 rename_i hI hF hno hnl
 obtain ⟨an, cn, rfl⟩ := zac hI.now.row
 have hsz : ∀ x ∈ now, ∀ a ∈ R.body, (zdb (ofA x.e a)).length ≤ 1000000000 := fun x hx a ha => zaa HSZ x.W (by rw [← hF]; exact List.mem_map_of_mem hx) a ha
 have HI := hide hI
 have HF := hide hF
 have HNO := hide hno
 have HS := hide hsz
 clear hI hF hno hsz H0 HSZ
 go_wp2_with fail
 refine ways4 w base R _ bs _ fs al cl (zaa HC) now an cn hnl (zaa HS) _ (zaa HI) ?_
 intro v13 outs w3
 intros
 rename_i hI3 hF3 hsub
 obtain ⟨a3, c3, rfl⟩ := zac hI3.next.row
 have hol : outs.length ≤ 1000000 := by
  have := congrArg List.length hF3
  rw [List.length_map] at this
  have h2 := List.length_filter_le (zh8 R (fs.map (·.F))) (now.map (·.W))
  rw [List.length_map] at h2
  omega
 have HE := hide (show outs.map (·.W) = zk4 R (fs.map (·.F)) by rw [hF3, zaa HF]; rfl)
 have HN3 := hide (show ∀ x ∈ outs, x.e.length ≤ 100 ∧ x.fr.length ≤ 100 from fun x hx => zaa HNO x (hsub x hx))
 have HI3 := hide hI3
 clear hI3 hF3 hsub HI HF HNO HS
 go_wp2_with fail
 go_ret
 exact ⟨_, outs, rfl, (zaa HI3).next, zaa HE, zaa HN3, hol, (zaa HI3).below⟩
end
section
open Go.RowKit
def zgi (R : RRule) (s n i : Nat) (x : Way) : RFact := ⟨ofA x.1 R.head, zb4 (ofA x.1 R.head), s, n, i, x.2⟩
def addF (l out : List RFact) (f : RFact) : List RFact := if zdk l f.text < 0 ∧ zdk out f.text < 0 then out ++ [f] else out
def zb3 (l : List RFact) : List RFact → List RFact → List RFact × Bool
 | [], out => (out, false)
 | f :: r, out => if 50 < l.length + out.length then (out, true) else zb3 l r (addF l out f)
def zdc (ps : List (ByteArray × Nat)) (S : Nat → Nat) (l : List RFact) (s n : Nat) : List RRule → Nat → List RFact
 | [], _ => []
 | R :: r, i => (if S (zak ps R.head.pred).toNat = s then (zk4 R l).map (zgi R s n i) else []) ++ zdc ps S l s n r (i + 1)
theorem text_eq {s : ByteArray} {B : RAtom} (h : s.data.toList = zdb B) : s = zb4 B := by
 cases s
 simp only [zb4, ← h, Array.toArray_toList]
theorem zlw {l : List RFact} : ∀ (a b out : List RFact), (zb3 l a out).2 = true → zb3 l (a ++ b) out = zb3 l a out
 | [], b, out, h => by simp [zb3] at h
 | f :: r, b, out, h => by
  rw [List.cons_append, zb3, zb3]
  rw [zb3] at h
  split
  ·rfl
  ·rename_i hn
   rw [if_neg hn] at h
   exact zlw r b _ h
theorem takeF_go {l : List RFact} : ∀ (a b out : List RFact), (zb3 l a out).2 = false → zb3 l (a ++ b) out = zb3 l b (zb3 l a out).1
 | [], b, out, h => rfl
 | f :: r, b, out, h => by
  rw [List.cons_append, zb3, zb3]
  rw [zb3] at h
  split
  ·rename_i hn
   rw [if_pos hn] at h
   cases h
  ·rename_i hn
   rw [if_neg hn] at h
   exact takeF_go r b _ h
theorem FactIn.keptT {B : List Nat} {w w' : World} {base : Nat} {x : FG} (h : FactIn w base x) (k : Kept B w w') (h1 : ∀ b ∈ B, NotT w 317 b) (h2 : ∀ b ∈ B, NotT w 3 b) : FactIn w' base x :=
 ⟨zbq h.t k (fun b hb => .inr (h1 b hb)), zbq h.i k (fun b hb => .inr (h2 b hb))⟩
theorem FactsIn.add {wX W w5 : World} {base : Nat} {v v' : Value} {fs : List FG} {x : FG} (h : FactsIn wX base v fs) (hx : FactIn wX base x) (hW : Kept [] wX W) (hg : W.grownBy w5 v.ownBlock) (hown : w5.ownsRow base 262 10 v' (fs.length + 1) (fs.flatMap FG.cells ++ x.cells)) : FactsIn w5 base v' (fs ++ [x]) := by
 have k5 : Kept v.ownBlock.toList wX w5 := (hW.mono (by simp)).trans (Kept.of_grown hg)
 have n1 : ∀ b ∈ v.ownBlock.toList, NotT wX 317 b := zaz h.row (by decide)
 have n2 : ∀ b ∈ v.ownBlock.toList, NotT wX 3 b := zaz h.row (by decide)
 refine ⟨?_, fun y hy => ?_⟩
 ·rw [List.length_append, List.flatMap_append]; simpa using hown
 ·rcases List.mem_append.1 hy with hy | hy
  ·exact (h.each y hy).keptT k5 n1 n2
  ·rw [List.mem_singleton.1 hy]; exact hx.keptT k5 n1 n2
structure R2In (w : World) (b11 : Nat) (R : RRule) (hv bv vw : Value) (ws : List WG) (v : Value) (out : List FG) (wr : World) : Prop where
 below : Below w.heap.size w wr
 ge : w.heap.size ≤ b11
 box : wr.heap[b11]? = some (.cells #[.string R.head.pred, hv, .bool R.head.no, .int .i64 R.head.at_, .int .i64 R.head.noAt, bv] 246 (0, 0))
 ways : WaysIn wr w.heap.size vw ws
 out : FactsIn wr w.heap.size v out
theorem R2In.lt {w : World} {b11 : Nat} {R : RRule} {hv bv vw : Value} {ws : List WG} {v : Value} {out : List FG} {wr : World} (h : R2In w b11 R hv bv vw ws v out wr) : b11 < wr.heap.size := (Array.getElem?_eq_some_iff.1 h.box).1
theorem R2In.past {w : World} {b11 : Nat} {R : RRule} {hv bv vw : Value} {ws : List WG} {v : Value} {out : List FG} {wr w' : World} (h : R2In w b11 R hv bv vw ws v out wr) (k : Below wr.heap.size wr w') : R2In w b11 R hv bv vw ws v out w' :=
 ⟨h.below.trans (k.mono h.below.size), h.ge, (k.block _ h.lt).trans h.box, h.ways.below k, h.out.below k⟩
theorem R2In.add {w : World} {b11 : Nat} {R : RRule} {hv bv vw : Value} {ws : List WG} {v v' : Value} {out : List FG} {wX W w5 : World} {x : FG} (h : R2In w b11 R hv bv vw ws v out wX) (hx : FactIn wX w.heap.size x) (hW : Kept [] wX W) (hg : W.grownBy w5 v.ownBlock) (hown : w5.ownsRow w.heap.size 262 10 v' (out.length + 1) (out.flatMap FG.cells ++ x.cells)) : R2In w b11 R hv bv vw ws v' (out ++ [x]) w5 := by
 have k5 : Kept v.ownBlock.toList wX w5 := (hW.mono (by simp)).trans (Kept.of_grown hg)
 have nt : ∀ e, 262 ≠ e → ∀ b ∈ v.ownBlock.toList, NotT wX e b := fun e he => zaz h.out.row he
 refine ⟨zar h.below k5 h.below.size (fun b hm => (h.out.row.lt b (by simpa using hm)).1), h.ge, za1 h.box k5 (fun b hb => .inr (nt _ (by decide) b hb)), ⟨zbq h.ways.row k5 (fun b hb => .inr (nt _ (by decide) b hb)), fun y hy => (h.ways.each y hy).keptT k5 (nt _ (by decide)) (nt _ (by decide))⟩, h.out.add hx hW hg hown⟩
structure M12 (wr : World) (v0 v1 v2 v3 v4 v5 v6 v7 v8 v9 : Value) (b : Nat) (wc : World) : Prop where
 below : Below wr.heap.size wr wc
 blk : wc.heap[b]? = some (.cells #[v0, v1, v2, v3, v4, v5, v6, v7, v8, v9] 262 (0, 0))
def set10 (w : World) (b : Nat) (v0 v1 v2 v3 v4 v5 v6 v7 v8 v9 : Value) : World := (((((((((w.setCell ⟨b, 0, none⟩ v0).setCell ⟨b, 1, none⟩ v1).setCell ⟨b, 2, none⟩ v2).setCell ⟨b, 3, none⟩ v3).setCell ⟨b, 4, none⟩ v4).setCell ⟨b, 5, none⟩ v5).setCell ⟨b, 6, none⟩ v6).setCell ⟨b, 7, none⟩ v7).setCell ⟨b, 8, none⟩ v8).setCell ⟨b, 9, none⟩ v9
theorem set10_blk {w : World} {b : Nat} {t : TypeId} {u0 u1 u2 u3 u4 u5 u6 u7 u8 u9 : Value} (v0 v1 v2 v3 v4 v5 v6 v7 v8 v9 : Value) (h : w.heap[b]? = some (.cells #[u0, u1, u2, u3, u4, u5, u6, u7, u8, u9] t (0, 0))) : (set10 w b v0 v1 v2 v3 v4 v5 v6 v7 v8 v9).heap[b]? = some (.cells #[v0, v1, v2, v3, v4, v5, v6, v7, v8, v9] t (0, 0)) := by
 have g0 := heap_setCell_same _ _ 0 _ _ v0 h
 have g1 := heap_setCell_same _ _ 1 _ _ v1 g0
 have g2 := heap_setCell_same _ _ 2 _ _ v2 g1
 have g3 := heap_setCell_same _ _ 3 _ _ v3 g2
 have g4 := heap_setCell_same _ _ 4 _ _ v4 g3
 have g5 := heap_setCell_same _ _ 5 _ _ v5 g4
 have g6 := heap_setCell_same _ _ 6 _ _ v6 g5
 have g7 := heap_setCell_same _ _ 7 _ _ v7 g6
 have g8 := heap_setCell_same _ _ 8 _ _ v8 g7
 have g9 := heap_setCell_same _ _ 9 _ _ v9 g8
 unfold set10
 rw [g9]
 simp
theorem set10_kept (B : List Nat) {w : World} {b : Nat} (hb : b ∈ B) (v0 v1 v2 v3 v4 v5 v6 v7 v8 v9 : Value) : Kept B w (set10 w b v0 v1 v2 v3 v4 v5 v6 v7 v8 v9) := by
 have e : ∀ {w' : World} (i : Nat) (u : Value), Kept B w w' → Kept B w (w'.setCell ⟨b, i, none⟩ u) := fun i u k => k.setCell (p := ⟨b, i, none⟩) (.inl hb) _
 exact e _ _ (e _ _ (e _ _ (e _ _ (e _ _ (e _ _ (e _ _ (e _ _ (e _ _ (e _ _ (Kept.refl B w))))))))))
theorem M12.behind {wr W w2 : World} {v0 v1 v2 v3 v4 v5 v6 v7 v8 v9 : Value} (hW : Below wr.heap.size wr W) (h2 : Below W.heap.size W w2) : M12 wr v0 v1 v2 v3 v4 v5 v6 v7 v8 v9 w2.heap.size (w2.alloc (.cells #[v0, v1, v2, v3, v4, v5, v6, v7, v8, v9] 262)) := by
 have hs := hW.size
 have hs2 := h2.size
 exact ⟨(hW.trans (h2.mono hs)).alloc (by omega) _, heap_alloc_new w2 _⟩
theorem M12.ahead {wr W w2 : World} {v0 v1 v2 v3 v4 v5 v6 v7 v8 v9 : Value} {b : Nat} {u0 u1 u2 u3 u4 u5 u6 u7 u8 u9 : Value} (hW : Below wr.heap.size wr W) (hb : wr.heap.size ≤ b) (hblk : W.heap[b]? = some (.cells #[u0, u1, u2, u3, u4, u5, u6, u7, u8, u9] 262 (0, 0))) (h2 : Below W.heap.size W w2) : M12 wr v0 v1 v2 v3 v4 v5 v6 v7 v8 v9 b ((((((((((w2.setCell ⟨b, 0, none⟩ v0).setCell ⟨b, 1, none⟩ v1).setCell ⟨b, 2, none⟩ v2).setCell ⟨b, 3, none⟩ v3).setCell ⟨b, 4, none⟩ v4).setCell ⟨b, 5, none⟩ v5).setCell ⟨b, 6, none⟩ v6).setCell ⟨b, 7, none⟩ v7).setCell ⟨b, 8, none⟩ v8).setCell ⟨b, 9, none⟩ v9) := by
 show M12 wr v0 v1 v2 v3 v4 v5 v6 v7 v8 v9 b (set10 w2 b v0 v1 v2 v3 v4 v5 v6 v7 v8 v9)
 have hs := hW.size
 have hs2 := h2.size
 have hlt := (Array.getElem?_eq_some_iff.1 hblk).1
 refine ⟨?_, set10_blk _ _ _ _ _ _ _ _ _ _ ((h2.block b hlt).trans hblk)⟩
 exact zar (hW.trans (h2.mono hs)) (set10_kept [b] (by simp) _ _ _ _ _ _ _ _ _ _) (by omega) (fun x hx => by rw [List.mem_singleton.1 hx]; exact hb)
end
section
open Go.RowKit
noncomputable def roundL (k : Nat) : Code := ((Tryz.f196.body.map zfk).getD []).getD k .skip
theorem takeF_step {l out : List RFact} {cs : List RFact} {k : Nat} (h : k < cs.length) : zb3 l (cs.drop k) out = if 50 < l.length + out.length then (out, true) else zb3 l (cs.drop (k + 1)) (addF l out cs[k]) := by
 rw [List.drop_eq_getElem_cons h, zb3]
set_option maxRecDepth 1000000 in
theorem round2 (w : World) (base b11 : Nat) (R : RRule) (hv bv : Value) (fs : List FG) (al : Option Addr) (cl : Nat) (hfs : FactsIn w base (.slice al fs.length cl) fs) (hfl : fs.length ≤ 50) (ws : List WG) (aw : Option Addr) (cw : Nat) (hws : ws.length ≤ 1000000) (hsm : ∀ x ∈ ws, x.fr.length ≤ 100) (hhd : w.ownsRow base 317 3 hv R.head.terms.length (cellsOf R.head.terms)) (h4 : R.head.terms.length ≤ 4) (hsz : ∀ x ∈ ws, (zdb (ofA x.e R.head)).length ≤ 1000000000) (s n i : Nat) (T : List RFact × Bool) (v9 : Value) (out : List FG) (hol : out.length ≤ 51) (hfin : zb3 (fs.map (·.F)) ((ws.map (·.W)).map (zgi R s n i)) (out.map (·.F)) = T) (w1 : World) (hI : R2In w b11 R hv bv (.slice aw ws.length cw) ws v9 out w1)
  {Q : Exit → Act → World → Prop} {c0 c4 c5 c6 c7 c14 c15 c16 c17 c18 c19 c20 c21 c22 c23 c24 c25 c26 c27 c28 c29 c30 c31 c32 c33 c34 c35 c36 c37 c38 c39 c40 c41 c42 c43 c44 c45 c46 c47 c48 c49 c50 c51 c52 c53 c54 c55 c56 c57 c58 c59 c60 c61 c62 c63 c64 c65 c66 c67 c68 c69 c70 c71 c72 c73 c74 c75 c76 c77 c78 c79 c80 c81 c82 c83 c84 c85 c86 c87 c88 c89 c90 c91 c92 c93 c94 c95 c96 c97 c98 c99 c100 c101 c102 c103 c104 c105 c106 c107 c108 c109 c110 c111 c112 c113 c114 c115 c116 c117 c118 c119 c120 c121 c122 c123 c124 c125 c126 c127 c128 c129 c130 c131 c132 c133 c134 c135 c136 c137 c138 c139 c140 c141 : Value}
  (hexit : ∀ (v9' : Value) (out' : List FG) (w2 : World) (u13 u14 u15 u52 u53 u54 u55 u56 u57 u58 u59 u60 u61 u62 u63 u64 u65 u66 u67 u68 u69 u70 u71 u72 u73 u74 u75 u76 u77 u78 u79 u80 u81 u82 u83 u84 u85 u86 u87 u88 u89 u90 u91 u92 u93 u94 u95 u96 u97 u98 u99 u100 : Value), R2In w b11 R hv bv (.slice aw ws.length cw) ws v9' out' w2 → out'.length ≤ 51 → T = (out'.map (·.F), false) → Q (.exit 2) ⟨List.toArray (c0 :: .slice al fs.length cl :: .int .i64 s :: .int .i64 n :: c4 :: c5 :: c6 :: c7 :: .slice none 0 0 :: v9' :: .int .i64 i :: .pointer (some ⟨b11, 0, none⟩) :: .slice aw ws.length cw :: u13 :: u14 :: u15 :: c16 :: c17 :: c18 :: c19 :: c20 :: c21 :: c22 :: c23 :: c24 :: c25 :: c26 :: c27 :: c28 :: c29 :: c30 :: c31 :: c32 :: c33 :: c34 :: c35 :: c36 :: c37 :: c38 :: c39 :: c40 :: c41 :: c42 :: c43 :: c44 :: c45 :: c46 :: c47 :: c48 :: c49 :: c50 :: c51 :: u52 :: u53 :: u54 :: u55 :: u56 :: u57 :: u58 :: u59 :: u60 :: u61 :: u62 :: u63 :: u64 :: u65 :: u66 :: u67 :: u68 :: u69 :: u70 :: u71 :: u72 :: u73 :: u74 :: u75 :: u76 :: u77 :: u78 :: u79 :: u80 :: u81 :: u82 :: u83 :: u84 :: u85 :: u86 :: u87 :: u88 :: u89 :: u90 :: u91 :: u92 :: u93 :: u94 :: u95 :: u96 :: u97 :: u98 :: u99 :: u100 :: c101 :: c102 :: c103 :: c104 :: c105 :: c106 :: c107 :: c108 :: c109 :: c110 :: c111 :: c112 :: c113 :: c114 :: c115 :: c116 :: c117 :: c118 :: c119 :: c120 :: c121 :: c122 :: c123 :: c124 :: c125 :: c126 :: c127 :: c128 :: c129 :: c130 :: c131 :: c132 :: c133 :: c134 :: c135 :: c136 :: c137 :: c138 :: c139 :: c140 :: c141 :: []), []⟩ w2)
  (hret : ∀ (v9' : Value) (out' : List FG) (w2 : World) (u13 u14 u15 u52 u53 u54 u55 u56 u57 u58 u59 u60 u61 u62 u63 u64 u65 u66 u67 u68 u69 u70 u71 u72 u73 u74 u75 u76 u77 u78 u79 u80 u81 u82 u83 u84 u85 u86 u87 u88 u89 u90 u91 u92 u93 u94 u95 u96 u97 u98 u99 u100 : Value), R2In w b11 R hv bv (.slice aw ws.length cw) ws v9' out' w2 → out'.length ≤ 51 → T = (out'.map (·.F), true) → Q .ret ⟨List.toArray (c0 :: .slice al fs.length cl :: .int .i64 s :: .int .i64 n :: c4 :: c5 :: c6 :: c7 :: v9' :: v9' :: .int .i64 i :: .pointer (some ⟨b11, 0, none⟩) :: .slice aw ws.length cw :: u13 :: u14 :: u15 :: c16 :: c17 :: c18 :: c19 :: c20 :: c21 :: c22 :: c23 :: c24 :: c25 :: c26 :: c27 :: c28 :: c29 :: c30 :: c31 :: c32 :: c33 :: c34 :: c35 :: c36 :: c37 :: c38 :: c39 :: c40 :: c41 :: c42 :: c43 :: c44 :: c45 :: c46 :: c47 :: c48 :: c49 :: c50 :: c51 :: u52 :: u53 :: u54 :: u55 :: u56 :: u57 :: u58 :: u59 :: u60 :: u61 :: u62 :: u63 :: u64 :: u65 :: u66 :: u67 :: u68 :: u69 :: u70 :: u71 :: u72 :: u73 :: u74 :: u75 :: u76 :: u77 :: u78 :: u79 :: u80 :: u81 :: u82 :: u83 :: u84 :: u85 :: u86 :: u87 :: u88 :: u89 :: u90 :: u91 :: u92 :: u93 :: u94 :: u95 :: u96 :: u97 :: u98 :: u99 :: u100 :: c101 :: c102 :: c103 :: c104 :: c105 :: c106 :: c107 :: c108 :: c109 :: c110 :: c111 :: c112 :: c113 :: c114 :: c115 :: c116 :: c117 :: c118 :: c119 :: c120 :: c121 :: c122 :: c123 :: c124 :: c125 :: c126 :: c127 :: c128 :: c129 :: c130 :: c131 :: c132 :: c133 :: c134 :: c135 :: c136 :: c137 :: c138 :: c139 :: c140 :: c141 :: []), []⟩ w2) :
  Code.wp Tryz.prog (Code.loop (roundL 1)) Q ⟨List.toArray (c0 :: .slice al fs.length cl :: .int .i64 s :: .int .i64 n :: c4 :: c5 :: c6 :: c7 :: .slice none 0 0 :: v9 :: .int .i64 i :: .pointer (some ⟨b11, 0, none⟩) :: .slice aw ws.length cw :: .int .i64 (0 : Nat) :: c14 :: c15 :: c16 :: c17 :: c18 :: c19 :: c20 :: c21 :: c22 :: c23 :: c24 :: c25 :: c26 :: c27 :: c28 :: c29 :: c30 :: c31 :: c32 :: c33 :: c34 :: c35 :: c36 :: c37 :: c38 :: c39 :: c40 :: c41 :: c42 :: c43 :: c44 :: c45 :: c46 :: c47 :: c48 :: c49 :: c50 :: c51 :: c52 :: c53 :: c54 :: c55 :: c56 :: c57 :: c58 :: c59 :: c60 :: c61 :: c62 :: c63 :: c64 :: c65 :: c66 :: c67 :: c68 :: c69 :: c70 :: c71 :: c72 :: c73 :: c74 :: c75 :: c76 :: c77 :: c78 :: c79 :: c80 :: c81 :: c82 :: c83 :: c84 :: c85 :: c86 :: c87 :: c88 :: c89 :: c90 :: c91 :: c92 :: c93 :: c94 :: c95 :: c96 :: c97 :: c98 :: c99 :: c100 :: c101 :: c102 :: c103 :: c104 :: c105 :: c106 :: c107 :: c108 :: c109 :: c110 :: c111 :: c112 :: c113 :: c114 :: c115 :: c116 :: c117 :: c118 :: c119 :: c120 :: c121 :: c122 :: c123 :: c124 :: c125 :: c126 :: c127 :: c128 :: c129 :: c130 :: c131 :: c132 :: c133 :: c134 :: c135 :: c136 :: c137 :: c138 :: c139 :: c140 :: c141 :: []), []⟩ w1 := by
 conv => arg 2; arg 1; whnf
 obtain ⟨ah, ch, rfl⟩ := zac hhd
 have HFS := hide hfs
 have HI := hide hI
 have HX := hide hexit
 have HY := hide hret
 have HSM := hide hsm
 have HHD := hide hhd
 have HSZ := hide hsz
 have HF := hide hfin
 clear hfs hI hexit hret hsm hhd hsz hfin
 go_loopg [8, 9, 13] ws.length (fun gg v8 v kk wr => v8 = .slice none 0 0 ∧ ∃ (k : Nat) (out' : List FG), k ≤ ws.length ∧ gg = ws.length - k ∧ kk = .int .i64 k ∧ R2In w b11 R (.slice ah R.head.terms.length ch) bv (.slice aw ws.length cw) ws v out' wr ∧ out'.length ≤ 51 ∧ zb3 (fs.map (·.F)) (((ws.map (·.W)).map (zgi R s n i)).drop k) (out'.map (·.F)) = T)
 case atStart => exact ⟨rfl, 0, out, Nat.zero_le _, rfl, rfl, zaa HI, hol, zaa HF⟩
 case round =>
  clear HI HF
  obtain ⟨rfl, k, out', hk, hgk, rfl, hI, hol', hfin⟩ := hrel
  obtain ⟨a9, c9, rfl⟩ := zac hI.out.row
  by_cases hlk : k < ws.length
  ·have hki : (k : Int) < ws.length := by omega
   have hst := takeF_step (l := fs.map (·.F)) (out := out'.map (·.F)) (cs := (ws.map (·.W)).map (zgi R s n i)) (k := k) (by simpa using hlk)
   simp only [List.getElem_map, List.length_map] at hst
   have HST := hide (hst.symm.trans hfin)
   have hsize := hI.below.size
   have hwr : w.heap.size ≤ wr.heap.size := hsize
   have b1 := hI.lt
   obtain ⟨g5, c5, hv5, hge5, hl5, hn5, hm5, x0, x1, x2⟩ := way_at hI.ways.row hlk
   injection hv5 with i1 i2 i3
   subst i1 i3
   have hway := hI.ways.each _ (List.getElem_mem hlk)
   obtain ⟨an1, cn1, at1, ct1, e1, e2⟩ := hway.env.shape
   obtain ⟨af, cf, e3⟩ := zac hway.fr
   rw [e1] at x0
   rw [e2] at x1
   rw [e3] at x2
   obtain ⟨y0, -⟩ := zab hI.box 0
   obtain ⟨y1, -⟩ := zab hI.box 1
   obtain ⟨y2, -⟩ := zab hI.box 2
   obtain ⟨y3, -⟩ := zab hI.box 3
   obtain ⟨y4, -⟩ := zab hI.box 4
   simp only [List.getElem?_toArray, List.getElem?_cons_zero, List.getElem?_cons_succ] at y0 y1 y2 y3 y4
   have hcall : ∀ W, Below wr.heap.size wr W → Calls Tryz.prog 192 #[.agg #[.slice an1 ws[k].e.length cn1, .slice at1 ws[k].e.length ct1], .agg #[.string R.head.pred, .slice ah R.head.terms.length ch, .bool R.head.no, .int .i64 R.head.at_, .int .i64 R.head.noAt]] W (OfPost W ws[k].e R.head) := fun W hW => by
    have hB := hI.below.trans (hW.mono hsize)
    have q1 := hway.env.below hW
    rw [e1, e2] at q1
    exact rof_any W 0 ws[k].e R.head an1 at1 ah cn1 ct1 ch ⟨zaf q1.ns (Nat.zero_le _), zaf q1.ts (Nat.zero_le _), q1.nil⟩ (zaf (zai (zaa HHD) hB (fun g e => ((zaa HHD).lt g e).2)) (Nat.zero_le _)) (by omega)
   have HCALL := hide hcall
   have HI := hide hI
   have hlen := zaa HSZ _ (List.getElem_mem hlk)
   have HFRI := hide hway.fr
   have HE3 := hide e3
   have HWK := hide (show zgi R s n i ws[k].W = ⟨ofA ws[k].e R.head, zb4 (ofA ws[k].e R.head), s, n, i, ws[k].fr⟩ from rfl)
   have d5 : ¬ g5 = wr.heap.size := by omega
   have db : ¬ b11 = wr.heap.size := by omega
   have HK : Hid (∀ W w' : World, Below wr.heap.size wr W → Below W.heap.size W w' → w'.cell? ⟨g5, k * 3, none⟩ = some (.slice an1 ws[k].e.length cn1) ∧ w'.cell? ⟨g5, k * 3 + 1, none⟩ = some (.slice at1 ws[k].e.length ct1) ∧ w'.cell? ⟨b11, 0, none⟩ = some (.string R.head.pred) ∧ w'.cell? ⟨b11, 1, none⟩ = some (.slice ah R.head.terms.length ch) ∧ w'.cell? ⟨b11, 2, none⟩ = some (.bool R.head.no) ∧ w'.cell? ⟨b11, 3, none⟩ = some (.int .i64 R.head.at_) ∧ w'.cell? ⟨b11, 4, none⟩ = some (.int .i64 R.head.noAt)) := hide (fun W w' h1 h2 => by
    have hB := h1.trans (h2.mono h1.size)
    exact ⟨(hB.cell (by simpa using hl5)).trans x0, (hB.cell (by simpa using hl5)).trans x1, (hB.cell (by simpa using b1)).trans y0, (hB.cell (by simpa using b1)).trans y1, (hB.cell (by simpa using b1)).trans y2, (hB.cell (by simpa using b1)).trans y3, (hB.cell (by simpa using b1)).trans y4⟩)
   clear hI hway hcall hst hfin e1 e2 e3 hsize
   go_upto_region 11 with fail
   go_cut [14] from 52 to 100 (fun p wc => ∃ b v, p = .pointer (some ⟨b, 0, none⟩) ∧ M5 wr (ofA ws[k].e R.head) b v wc)
   case first =>
    go_region_held3 (fun w' => w'.cell? ⟨g5, k * 3, none⟩ = some (.slice an1 ws[k].e.length cn1) ∧ w'.cell? ⟨g5, k * 3 + 1, none⟩ = some (.slice at1 ws[k].e.length ct1) ∧ w'.cell? ⟨b11, 0, none⟩ = some (.string R.head.pred) ∧ w'.cell? ⟨b11, 1, none⟩ = some (.slice ah R.head.terms.length ch) ∧ w'.cell? ⟨b11, 2, none⟩ = some (.bool R.head.no) ∧ w'.cell? ⟨b11, 3, none⟩ = some (.int .i64 R.head.at_) ∧ w'.cell? ⟨b11, 4, none⟩ = some (.int .i64 R.head.noAt)) (first | go_keep | (refine ⟨?_, ?_, ?_, ?_, ?_, ?_, ?_⟩ <;> (refine (set5_far ?_).trans ?_ <;> assumption))) ((go_at_call 192; refine (zaa HCALL _ (by first | exact (Below.refl _ _).drew | exact ((Below.refl _ _).alloc (Nat.le_refl _) _).drew | exact (Below.refl _ _).drew.alloc (Nat.le_refl _) _)).mono ?_; rintro e w2 ⟨v, rfl, hrow, hb2⟩; obtain ⟨at4, ct4, rfl⟩ := zac hrow; obtain ⟨m0, m1, m2, m3, m4, m5, m6⟩ := zaa HK _ _ (by first | exact (Below.refl _ _).drew | exact ((Below.refl _ _).alloc (Nat.le_refl _) _).drew | exact (Below.refl _ _).drew.alloc (Nat.le_refl _) _) hb2; have hc2 := fun (j : Nat) h => hb2.cell (p := ⟨wr.heap.size, j, none⟩) h; have hf2 := fun (j : Nat) h => hb2.frozen (p := ⟨wr.heap.size, j, none⟩) h; have HROW := hide hrow; clear hrow))
    all_goals
     go_wp2_with fail
     go_meet
     case rel => first | exact ⟨_, _, rfl, M5.behind (W := wr.drew) (Below.refl _ _).drew hb2 (zaa HROW)⟩ | exact ⟨_, _, rfl, M5.ahead (W := (wr.alloc (.cells #[.string { data := #[] }, .slice none 0 0, .bool false, .int .i64 0, .int .i64 0] 243)).drew) ((Below.refl _ _).alloc (Nat.le_refl _) _).drew (Nat.le_refl _) (heap_alloc_new wr _) hb2 (zaa HROW)⟩
   case rest =>
    generalize wc = wA at *
    obtain ⟨b, v, rfl, hM⟩ := hcut
    obtain ⟨at4, ct4, rfl⟩ := zac hM.row
    have hsb := hM.below.size
    have hI2 := (zaa HI).past hM.below
    have z2 : wA.cell? ⟨g5, k * 3 + 2, none⟩ = some (.slice af ws[k].fr.length cf) := (hM.below.cell (by simpa using hl5)).trans x2
    obtain ⟨r0, -⟩ := zab hM.blk 0
    obtain ⟨r1, -⟩ := zab hM.blk 1
    obtain ⟨r2, -⟩ := zab hM.blk 2
    obtain ⟨r3, -⟩ := zab hM.blk 3
    obtain ⟨r4, -⟩ := zab hM.blk 4
    simp only [List.getElem?_toArray, List.getElem?_cons_zero, List.getElem?_cons_succ] at r0 r1 r2 r3 r4
    have hbl := (Array.getElem?_eq_some_iff.1 hM.blk).1
    have hrowT := hM.row
    have hfri := zai (zaa HFRI) hM.below (fun g e => ((zaa HFRI).lt g e).2)
    rw [zaa HE3] at hfri
    have htext : ∀ W, Below wA.heap.size wA W → Calls Tryz.prog 134 #[.agg #[.string (ofA ws[k].e R.head).pred, .slice at4 (ofA ws[k].e R.head).terms.length ct4, .bool false, .int .i64 0, .int .i64 0]] W fun e w' => ∃ s : ByteArray, e = .returned (.string s) ∧ s.data.toList = zdb (ofA ws[k].e R.head) ∧ Below W.heap.size W w' := fun W hW => zl7 W wr.heap.size (ofA ws[k].e R.head) at4 ct4 false 0 0 (zai hrowT hW (fun g e => (hrowT.lt g e).2)) hlen
    have HTEXT := hide htext
    have HI2 := hide hI2
    have HRT := hide hrowT
    have HFRI2 := hide hfri
    clear hM hI2 HI HCALL HK x0 x1 x2 y0 y1 y2 y3 y4 htext hrowT hfri HFRI HE3 d5 db
    have hl5' : g5 < wA.heap.size := by omega
    have d5 : wA.heap.size ≠ g5 := by omega
    have db : wA.heap.size ≠ b := by omega
    have hB3 : (ofA ws[k].e R.head).no = false ∧ (ofA ws[k].e R.head).at_ = 0 ∧ (ofA ws[k].e R.head).noAt = 0 := ⟨rfl, rfl, rfl⟩
    generalize ws[k].fr = NF at *
    generalize ws[k].e = NE at *
    generalize ofA NE R.head = B at *
    have HB3 := hide hB3
    have HK : Hid (∀ W w' : World, Below wA.heap.size wA W → Below W.heap.size W w' → w'.cell? ⟨b, 0, none⟩ = some (.string B.pred) ∧ w'.cell? ⟨b, 1, none⟩ = some (.slice at4 B.terms.length ct4) ∧ w'.cell? ⟨b, 2, none⟩ = some (.bool false) ∧ w'.cell? ⟨b, 3, none⟩ = some (.int .i64 0) ∧ w'.cell? ⟨b, 4, none⟩ = some (.int .i64 0) ∧ w'.cell? ⟨g5, k * 3 + 2, none⟩ = some (.slice af NF.length cf)) := hide (fun W w' h1 h2 => by
     have hB := h1.trans (h2.mono h1.size)
     exact ⟨(hB.cell (by simpa using hbl)).trans r0, (hB.cell (by simpa using hbl)).trans r1, (hB.cell (by simpa using hbl)).trans r2, (hB.cell (by simpa using hbl)).trans r3, (hB.cell (by simpa using hbl)).trans r4, (hB.cell (by simpa using hl5')).trans z2⟩)
    have HZA : Hid (((wA.alloc (.cells #[.string { data := #[] }, .slice none 0 0, .bool false, .int .i64 0, .int .i64 0, .string { data := #[] }, .int .i64 0, .int .i64 0, .int .i64 0, .slice none 0 0] 262)).drew).heap[wA.heap.size]? = some (.cells #[.string { data := #[] }, .slice none 0 0, .bool false, .int .i64 0, .int .i64 0, .string { data := #[] }, .int .i64 0, .int .i64 0, .int .i64 0, .slice none 0 0] 262 (0, 0))) := hide (heap_alloc_new wA _)
    clear hB3
    go_upto_region 12 with fail
    go_cut [15] from 52 to 100 (fun p wc => ∃ b15, p = .pointer (some ⟨b15, 0, none⟩) ∧ M12 wA (.string B.pred) (.slice at4 B.terms.length ct4) (.bool false) (.int .i64 0) (.int .i64 0) (.string (zb4 B)) (.int .i64 s) (.int .i64 n) (.int .i64 i) (.slice af NF.length cf) b15 wc)
    case first =>
     go_region_held3 (fun w' => w'.cell? ⟨b, 0, none⟩ = some (.string B.pred) ∧ w'.cell? ⟨b, 1, none⟩ = some (.slice at4 B.terms.length ct4) ∧ w'.cell? ⟨b, 2, none⟩ = some (.bool false) ∧ w'.cell? ⟨b, 3, none⟩ = some (.int .i64 0) ∧ w'.cell? ⟨b, 4, none⟩ = some (.int .i64 0) ∧ w'.cell? ⟨g5, k * 3 + 2, none⟩ = some (.slice af NF.length cf)) (go_keep) ((go_at_call 134; refine (zaa HTEXT _ (by first | exact (Below.refl _ _).drew | exact ((Below.refl _ _).alloc (Nat.le_refl _) _).drew | exact (Below.refl _ _).drew.alloc (Nat.le_refl _) _)).mono ?_; rintro e w2 ⟨tx, rfl, htx, hb2⟩; obtain rfl := text_eq htx; obtain ⟨m0, m1, m2, m3, m4, m5⟩ := zaa HK _ _ (by first | exact (Below.refl _ _).drew | exact ((Below.refl _ _).alloc (Nat.le_refl _) _).drew | exact (Below.refl _ _).drew.alloc (Nat.le_refl _) _) hb2; have hc2 := fun (j : Nat) h => hb2.cell (p := ⟨wA.heap.size, j, none⟩) h; have hf2 := fun (j : Nat) h => hb2.frozen (p := ⟨wA.heap.size, j, none⟩) h; clear htx))
     all_goals
      go_wp2_with fail
      go_meet
      case rel =>
       refine ⟨_, rfl, ?_⟩
       first | (with_reducible refine M12.behind (W := wA.drew) ?_ hb2) | (with_reducible refine M12.ahead (W := (wA.alloc (.cells #[.string { data := #[] }, .slice none 0 0, .bool false, .int .i64 0, .int .i64 0, .string { data := #[] }, .int .i64 0, .int .i64 0, .int .i64 0, .slice none 0 0] 262)).drew) ?_ (Nat.le_refl _) (zaa HZA) hb2)
       all_goals first | exact (Below.refl _ _).drew | exact ((Below.refl _ _).alloc (Nat.le_refl _) _).drew
    case rest =>
     generalize wc = wB at *
     obtain ⟨b15, rfl, hM⟩ := hcut
     have hsB := hM.below.size
     have hI3 := (zaa HI2).past hM.below
     have hxF : FactIn wB w.heap.size ⟨⟨B, zb4 B, s, n, i, NF⟩, .slice at4 B.terms.length ct4, .slice af NF.length cf⟩ := ⟨zaf (zai (zaa HRT) hM.below (fun g e => ((zaa HRT).lt g e).2)) hwr, zai (zaa HFRI2) hM.below (fun g e => ((zaa HFRI2).lt g e).2)⟩
     have HXF := hide hxF
     obtain ⟨q0, -⟩ := zab hM.blk 0
     obtain ⟨q1, -⟩ := zab hM.blk 1
     obtain ⟨q2, -⟩ := zab hM.blk 2
     obtain ⟨q3, -⟩ := zab hM.blk 3
     obtain ⟨q4, -⟩ := zab hM.blk 4
     obtain ⟨q5, -⟩ := zab hM.blk 5
     obtain ⟨q6, -⟩ := zab hM.blk 6
     obtain ⟨q7, -⟩ := zab hM.blk 7
     obtain ⟨q8, -⟩ := zab hM.blk 8
     obtain ⟨q9, -⟩ := zab hM.blk 9
     have HI3 := hide hI3
     have hfl3 := zai (zaa HFS).row hI3.below (fun g e => ((zaa HFS).row.lt g e).2)
     have HF1 := hide (znv wB base al cl fs (zb4 B) hfl3)
     have HF2 := hide (znv wB w.heap.size a9 c9 out' (zb4 B) hI3.out.row)
     clear hM hI3 hxF HI2 HRT HFRI2 HTEXT HK HZA r0 r1 r2 r3 r4 z2 hfl3
     by_cases hbig : 50 < fs.length + out'.length
     ·have hbi : (50 : Int) < fs.length + out'.length := by omega
      have HT := hide (show T = (out'.map (·.F), true) by rw [← zaa HST, if_pos hbig])
      clear HST
      go_wp2_with fail
      apply zaa HY
      ·exact zaa HI3
      ·exact hol'
      ·exact zaa HT
     ·have hbi : ¬ ((50 : Int) < fs.length + out'.length) := by omega
      have HT := hide (show zb3 (fs.map (·.F)) (((ws.map (·.W)).map (zgi R s n i)).drop (k + 1)) (addF (fs.map (·.F)) (out'.map (·.F)) ⟨B, zb4 B, s, n, i, NF⟩) = T by rw [← zaa HWK]; rw [← zaa HST, if_neg hbig])
      clear HST
      obtain ⟨i0, hi0, hz0, hz1, hz2⟩ := info_parts znb
      have hcl : FG.cells ⟨⟨B, zb4 B, s, n, i, NF⟩, .slice at4 B.terms.length ct4, .slice af NF.length cf⟩ = [.string B.pred, .slice at4 B.terms.length ct4, .bool false, .int .i64 0, .int .i64 0, .string (zb4 B), .int .i64 s, .int .i64 n, .int .i64 i, .slice af NF.length cf] := by
       obtain ⟨h1, h2, h3⟩ := zaa HB3
       simp only [FG.cells, h1, h2, h3]; rfl
      have hadd := fun (w5 : World) (g cap : Nat) (hg : (wB.alloc (.cells #[.string B.pred, .slice at4 B.terms.length ct4, .bool false, .int .i64 0, .int .i64 0, .string (zb4 B), .int .i64 s, .int .i64 n, .int .i64 i, .slice af NF.length cf] 262)).grownBy w5 (Value.slice a9 out'.length c9).ownBlock) (hown : w5.ownsRow w.heap.size 262 10 (.slice (some ⟨g, 0, none⟩) (out'.length + 1) cap) (out'.length + 1) (out'.flatMap FG.cells ++ [.string B.pred, .slice at4 B.terms.length ct4, .bool false, .int .i64 0, .int .i64 0, .string (zb4 B), .int .i64 s, .int .i64 n, .int .i64 i, .slice af NF.length cf])) => R2In.add (x := ⟨⟨B, zb4 B, s, n, i, NF⟩, .slice at4 B.terms.length ct4, .slice af NF.length cf⟩) (zaa HI3) (zaa HXF) ((Kept.refl [] _).alloc _) hg (by rw [hcl]; exact hown)
      have HADD := hide hadd
      have HR := hide ((zaa HI3).out.row.alloc (.cells #[.string B.pred, .slice at4 B.terms.length ct4, .bool false, .int .i64 0, .int .i64 0, .string (zb4 B), .int .i64 s, .int .i64 n, .int .i64 i, .slice af NF.length cf] 262))
      have hnew := hide (World.news_of_block (heap_alloc_new wB (.cells #[.string B.pred, .slice at4 B.terms.length ct4, .bool false, .int .i64 0, .int .i64 0, .string (zb4 B), .int .i64 s, .int .i64 n, .int .i64 i, .slice af NF.length cf] 262)))
      have hwB : w.heap.size ≤ wB.heap.size := (zaa HI3).below.size
      clear hadd hcl
      by_cases h1 : zdk (fs.map (·.F)) (zb4 B) < 0
      ·by_cases h2 : zdk (out'.map (·.F)) (zb4 B) < 0
       ·have HT2 := hide (show zb3 (fs.map (·.F)) (((ws.map (·.W)).map (zgi R s n i)).drop (k + 1)) ((out' ++ [(⟨⟨B, zb4 B, s, n, i, NF⟩, .slice at4 B.terms.length ct4, .slice af NF.length cf⟩ : FG)]).map (·.F)) = T by
         have := zaa HT
         rw [addF, if_pos ⟨h1, h2⟩] at this
         rw [List.map_append]; exact this)
        generalize zdk (fs.map (·.F)) (zb4 B) = f1 at *
        generalize zdk (out'.map (·.F)) (zb4 B) = f2 at *
        clear HT
        go_wp2_with fail
        refine (zaa HF1).mono ?_
        rintro e w4 ⟨rfl, hw4⟩
        have hw5 := hw4.symm
        subst hw5
        clear hw4
        go_wp2_with fail
        refine (zaa HF2).mono ?_
        rintro e w4 ⟨rfl, hw4⟩
        have hw5 := hw4.symm
        subst hw5
        clear hw4
        clear HF1 HF2
        go_wp2_with (at_builtin; go_must (refine wpList_append_lies _ rfl _ _ _ rfl w.heap.size 262 i0 (.agg #[.string { data := #[] }, .slice none 0 0, .bool false, .int .i64 0, .int .i64 0, .string { data := #[] }, .int .i64 0, .int .i64 0, .int .i64 0, .slice none 0 0]) 10 128 Tryz.underlying250 hi0 hz0 hz1 hz2 rfl (by decide) (.slice a9 out'.length c9) out'.length _ rfl (zaa HR) ⟨wB.heap.size, 0, none⟩ 1 1 [.string B.pred, .slice at4 B.terms.length ct4, .bool false, .int .i64 0, .int .i64 0, .string (zb4 B), .int .i64 s, .int .i64 n, .int .i64 i, .slice af NF.length cf] rfl rfl (zaa hnew) (by simp [Value.oneCell']) (by decide) (by unfold maxLen; omega) (by omega) (by simp; omega) _ rfl ?_; intro g cap w5 hown5 hg5 hat5 hlt5))
        have HW5 := hide (zaa HADD w5 g cap hg5 hown5)
        go_roundg (ws.length - (k + 1))
        case measure => omega
        case rel => exact ⟨rfl, k + 1, out' ++ [⟨⟨B, zb4 B, s, n, i, NF⟩, .slice at4 B.terms.length ct4, .slice af NF.length cf⟩], by omega, rfl, by go_num, zaa HW5, by rw [List.length_append, List.length_singleton]; omega, zaa HT2⟩
       ·have HT2 := hide (show zb3 (fs.map (·.F)) (((ws.map (·.W)).map (zgi R s n i)).drop (k + 1)) (out'.map (·.F)) = T by
         have := zaa HT
         rw [addF, if_neg (fun h => h2 h.2)] at this
         exact this)
        generalize zdk (fs.map (·.F)) (zb4 B) = f1 at *
        generalize zdk (out'.map (·.F)) (zb4 B) = f2 at *
        clear HT HADD HR hnew
        go_wp2_with fail
        refine (zaa HF1).mono ?_
        rintro e w4 ⟨rfl, rfl⟩
        go_wp2_with fail
        refine (zaa HF2).mono ?_
        rintro e w4 ⟨rfl, rfl⟩
        clear HF1 HF2
        go_wp2_with fail
        go_roundg (ws.length - (k + 1))
        case measure => omega
        case rel => exact ⟨rfl, k + 1, out', by omega, rfl, by go_num, zaa HI3, hol', zaa HT2⟩
      ·have HT2 := hide (show zb3 (fs.map (·.F)) (((ws.map (·.W)).map (zgi R s n i)).drop (k + 1)) (out'.map (·.F)) = T by
        have := zaa HT
        rw [addF, if_neg (fun h => h1 h.1)] at this
        exact this)
       generalize zdk (fs.map (·.F)) (zb4 B) = f1 at *
       clear HT HADD HR hnew HF2
       go_wp2_with fail
       refine (zaa HF1).mono ?_
       rintro e w4 ⟨rfl, rfl⟩
       clear HF1
       go_wp2_with fail
       go_roundg (ws.length - (k + 1))
       case measure => omega
       case rel => exact ⟨rfl, k + 1, out', by omega, rfl, by go_num, zaa HI3, hol', zaa HT2⟩
  ·have HI := hide hI
   have HE := hide (show T = (out'.map (·.F), false) by rw [← hfin, List.drop_of_length_le (by simp; omega)]; rfl)
   clear hI hfin
   go_wp2_with fail
   apply zaa HX
   ·exact zaa HI
   ·exact hol'
   ·exact zaa HE
end
end Go.Proofs.YtldkpahaocjdpaaGreat
