/-
  A map with strings for keys, as a plain function from texts to values: what a look-up finds, what a store leaves.
  The program's arity, over all that is mentioned.
-/
import Derived.Maps.OwnSet
import Derived.Test.YtldkpahaocjdpaaGreatQueriesT20
set_option maxHeartbeats 16000000
namespace Go.Proofs.YtldkpahaocjdpaaGreat
section
open Go.RowKit Go.Maps Go.ChangeMaps Go.WideMaps
def zcu (v : Value) : Option (DataW Value × List MemPlace) := some (.held v, [])
def keyS (s : ByteArray) : Lit := .string s.data.toList
theorem keyS_ne {a b : ByteArray} (h : a ≠ b) : keyS a ≠ keyS b := fun e => h (by
 have : a.data.toList = b.data.toList := by simpa [keyS] using e
 exact ByteArray.ext (Array.toList_inj.1 this))
open Classical in
noncomputable def updV (V : ByteArray → Option Value) (k : ByteArray) (v : Value) : ByteArray → Option Value := fun x => if x = k then some v else V x
theorem zd5 (V : ByteArray → Option Value) (k : ByteArray) (v : Value) : updV V k v k = some v := by simp [updV]
theorem zc8 {V : ByteArray → Option Value} {k x : ByteArray} {v : Value} (h : x ≠ k) : updV V k v x = V x := by simp [updV, h]
def SMap (P : Program) (K : TypeId) (w : World) (b n : Nat) (V : ByteArray → Option Value) : Prop :=
 ∃ D : DataW Value, w.ownsMap P K zcu b n D ∧ ∀ k : ByteArray, Maps.has D (keyS k) = (V k).isSome ∧ ∀ z, D.atKey (keyS k) (.held z) = .held ((V k).getD z)
theorem SMap.made (P : Program) (K : TypeId) (w : World) : SMap P K (w.alloc (.map #[] 0)) w.heap.size 0 (fun _ => none) :=
 ⟨.map [], World.ownsMap_made w P K zcu, fun _ => ⟨rfl, fun _ => rfl⟩⟩
theorem SMap.lt {P : Program} {K : TypeId} {w : World} {b n : Nat} {V : ByteArray → Option Value} (h : SMap P K w b n V) : b < w.heap.size := by
 obtain ⟨D, hD, _⟩ := h; exact hD.lt
theorem SMap.block {P : Program} {K : TypeId} {w w' : World} {b n : Nat} {V : ByteArray → Option Value} (h : SMap P K w b n V) (hb : w'.heap[b]? = w.heap[b]?) : SMap P K w' b n V := by
 obtain ⟨D, ⟨es, clock, h1, h2⟩, h3⟩ := h
 exact ⟨D, ⟨es, clock, hb.trans h1, h2⟩, h3⟩
theorem SMap.alloc {P : Program} {K : TypeId} {w : World} {b n : Nat} {V : ByteArray → Option Value} (h : SMap P K w b n V) (o : Obj) : SMap P K (w.alloc o) b n V := by
 obtain ⟨D, hD, h3⟩ := h
 exact ⟨D, hD.alloc o, h3⟩
theorem SMap.mono {P : Program} {K : TypeId} {w : World} {b n m : Nat} {V : ByteArray → Option Value} (h : SMap P K w b n V) (hn : n ≤ m) : SMap P K w b m V := by
 obtain ⟨D, hD, h3⟩ := h
 exact ⟨D, hD.mono hn, h3⟩
theorem zh2 {v : Value} {d : DataW Value} {ps : List MemPlace} (h : zcu v = some (d, ps)) : d = .held v := by
 simp only [zcu, Option.some.injEq, Prod.mk.injEq] at h
 exact h.1.symm
section
variable {P : Program} (w : World) {ops : Array Oper} {rest : List Oper} {o : Oper} {a : Act} {Q : Exit → Act → World → Prop}
theorem zeg (hg : o.guard = none) (m x : Operand) (t : TypeId) (hop : o.op = Op.lookup t m x true)
  (K e : TypeId) (hK : P.underlying K = some .string) (ht : P.underlying t = some (.map K e)) {z : Value} (hz : (zeroValue e).run P w = .ok z w) (b n : Nat) (V : ByteArray → Option Value)
  (hm : a.eval m = .map (some b)) (hown : SMap P K w b n V) (key : ByteArray) (hx : a.eval x = .string key) (hkl : key.size ≤ maxLen) (u : Value) (hu : (V key).getD z = u) (c : Bool) (hc : (V key).isSome = c)
  (hQ : wpList P ops Q rest (a.put o.dst (.tuple #[u, .bool c])) w) :
  wpList P ops Q (o :: rest) a w := by
 obtain ⟨D, hD, h3⟩ := hown
 refine wpList_lookup_own_ok w hg m x t hop K e (string_keyed hK) ht zcu hz (.held z) [] rfl b n D hm hD (.string key) (keyS key) hx (keyOf_string_mk hK hkl) (fun v ps hv => ?_)
 have h1 := zh2 hv
 rw [(h3 key).2 z] at h1
 have h2 : (V key).getD z = v := by injection h1
 rw [(h3 key).1, hc, ← h2, hu]
 exact hQ
theorem zhn (hg : o.guard = none) (m x : Operand) (t : TypeId) (hop : o.op = Op.lookup t m x false)
  (K e : TypeId) (hK : P.underlying K = some .string) (ht : P.underlying t = some (.map K e)) {z : Value} (hz : (zeroValue e).run P w = .ok z w) (b n : Nat) (V : ByteArray → Option Value)
  (hm : a.eval m = .map (some b)) (hown : SMap P K w b n V) (key : ByteArray) (hx : a.eval x = .string key) (hkl : key.size ≤ maxLen) (u : Value) (hu : (V key).getD z = u)
  (hQ : wpList P ops Q rest (a.put o.dst u) w) :
  wpList P ops Q (o :: rest) a w := by
 refine wpList_plain hg fun K' hK' => ?_
 obtain ⟨D, hD, h3⟩ := hown
 obtain ⟨v, ps, hrun, hv⟩ := hD.lookup (string_keyed hK) ht hz (zd := .held z) (zp := []) rfl (keyOf_string_mk hK hkl)
 have h1 := zh2 hv
 rw [show DataW.atKey D (Lit.string key.data.toList) (DataW.held z) = DataW.held ((V key).getD z) from (h3 key).2 z] at h1
 have h2 : (V key).getD z = v := by injection h1
 rw [← h2, hu] at hrun
 unfold Oper.wp
 simp [execOp, hop, hm, hx, hrun, Result.andThen]
 exact hK' _ _ hQ
theorem zlm (hg : o.guard = none) (m x v : Operand) (t : TypeId) (hop : o.op = Op.mapUpdate t m x v)
  (K e : TypeId) (hK : P.underlying K = some .string) (ht : P.underlying t = some (.map K e)) (b n : Nat) (V : ByteArray → Option Value)
  (hm : a.eval m = .map (some b)) (hown : SMap P K w b n V) (hn : n < maxLen) (key : ByteArray) (u : Value) (hx : a.eval x = .string key) (hv : a.eval v = u) (hkl : key.size ≤ maxLen)
  (hQ : ∀ w', SMap P K w' b (n + 1) (updV V key u) → w.grownBy w' (some b) → wpList P ops Q rest (a.put o.dst undef) w') :
  wpList P ops Q (o :: rest) a w := by
 obtain ⟨D, hD, h3⟩ := hown
 refine wpList_mapUpdate_own w hg m x v t hop K e (string_keyed hK) ht zcu b n D hm hD hn (.string key) u (keyS key) hx hv (keyOf_string_mk hK hkl) (.held u) [] rfl (fun w' h1 h2 => hQ w' ⟨_, h1, fun k => ?_⟩ h2)
 by_cases e : k = key
 ·subst e
  rw [zd5]
  exact ⟨Maps.has_put_same hD.isMap (by trivial) _, fun z => Maps.atKey_put_same hD.isMap (by trivial) _ _⟩
 ·rw [zc8 e]
  exact ⟨(Maps.has_put_other (keyS_ne e) _).trans (h3 k).1, fun z => (Maps.atKey_put_other (keyS_ne e) _ _).trans ((h3 k).2 z)⟩
end
end
section
open Go.RowKit Go.Maps
theorem flat_at {α : Type} (f : α → List Value) (n : Nat) (hn : ∀ x, (f x).length = n) : ∀ (l : List α) (k j : Nat) (hk : k < l.length), j < n → (l.flatMap f)[k * n + j]? = (f l[k])[j]? := by
 intro l
 induction l with
 | nil => intro k j hk; simp at hk
 | cons x r ih =>
  intro k j hk hj
  have hl := hn x
  rw [List.flatMap_cons]
  cases k with
  | zero => rw [List.getElem?_append_left (by omega)]; simp
  | succ k =>
   rw [List.getElem?_append_right (by rw [hl, Nat.succ_mul]; omega)]
   have e2 : (k + 1) * n + j - (f x).length = k * n + j := by rw [hl, Nat.succ_mul]; omega
   rw [e2, ih k j (by simpa using hk) hj]; simp
theorem zc7 {α : Type} {f : α → List Value} {n : Nat} (hn : ∀ x, (f x).length = n) {w : World} {base : Nat} {e : TypeId} {v : Value} {l : List α} (h : w.ownsRow base e n v l.length (l.flatMap f)) (k : Nat) (hk : k < l.length) : ∃ g cap, v = .slice (some ⟨g, 0, none⟩) l.length cap ∧ base ≤ g ∧ g < w.heap.size ∧ l.length ≤ cap ∧ cap ≤ maxLen ∧ ∀ j, j < n → w.cell? ⟨g, k * n + j, none⟩ = (f l[k])[j]? := by
 rcases h.2 with ⟨_, h0⟩ | ⟨g, cap, cur, rfl, hb, hg, hnc, hcm, hcs, ht⟩
 ·omega
 ·have hl := (Array.getElem?_eq_some_iff.1 hg).1
  refine ⟨g, cap, rfl, hb, hl, hnc, hcm, fun j hj => ?_⟩
  have : (k + 1) * n ≤ l.length * n := Nat.mul_le_mul_right n hk
  rw [h.cellAt (k * n + j) (by rw [Nat.succ_mul] at this; omega), flat_at f n hn l k j hk hj]
theorem zqm (x : PMen × Value) : (x.1.cells x.2).length = 10 := rfl
theorem zai {w w' : World} {base : Nat} {e : TypeId} {size : Nat} {v : Value} {n : Nat} {xs : List Value} {m : Nat} (h : w.ownsRow base e size v n xs) (hb : Below m w w') (hm : ∀ g, v.ownBlock = some g → g < m) : w'.ownsRow base e size v n xs := zbb h (fun g hg => hb.block g (hm g hg))
theorem MRow.below {w w' : World} {base : Nat} {mv : Value} {ms : List (PMen × Value)} (h : MRow w base mv ms) (hb : Below w.heap.size w w') : MRow w' base mv ms :=
 ⟨zai h.row hb (fun g e => (h.row.lt g e).2), fun x hx => zai (h.each x hx) hb (fun g e => ((h.each x hx).lt g e).2)⟩
def zbk : List (ByteArray × Nat) → ByteArray → Option Nat
 | [], _ => none
 | x :: r, k => if x.1.toList == k.toList then some x.2 else zbk r k
theorem zly (nm : ByteArray) : ∀ (l : List (ByteArray × Nat)) (k : Nat), (zbr nm l k < 0 ↔ zbk l nm = none) ∧ (0 ≤ zbr nm l k → zbk l nm = some (l.getD (zbr nm l k - k).toNat (nm, 0)).2)
 | [], k => by simp [zbr, zbk]
 | x :: r, k => by
  unfold zbr zbk
  by_cases h : (x.1.toList == nm.toList) = true
  ·rw [if_pos h, if_pos h]
   refine ⟨by simp, fun _ => ?_⟩
   simp
  ·rw [if_neg h, if_neg h]
   obtain ⟨h1, h2⟩ := zly nm r (k + 1)
   refine ⟨h1, fun h0 => ?_⟩
   rw [h2 h0]
   have := (ix_lt nm r (k + 1) h0).1
   have e : (zbr nm r (k + 1) - (k : Int)).toNat = (zbr nm r (k + 1) - ((k + 1 : Nat) : Int)).toNat + 1 := by omega
   rw [e]
   simp
theorem zdo (ps : List (ByteArray × Nat)) (nm : ByteArray) (n : Nat) : zdf ps nm n = match zbk ps nm with | none => true | some m => m == n := by
 obtain ⟨h1, h2⟩ := zly nm ps 0
 unfold zdf zak
 by_cases h : zbr nm ps 0 < 0
 ·rw [if_pos h, h1.1 h]
 ·rw [if_neg h, h2 (by omega)]
  simp only [Int.natCast_zero, Int.sub_zero]
  rw [Bool.eq_iff_iff]
  simp
  omega
theorem zov (ps : List (ByteArray × Nat)) (nm : ByteArray) (n : Nat) : zdj ps nm n = if (zbk ps nm).isNone then ps ++ [(nm, n)] else ps := by
 obtain ⟨h1, h2⟩ := zly nm ps 0
 unfold zdj zak
 by_cases h : zbr nm ps 0 < 0
 ·rw [if_pos h, h1.1 h]; rfl
 ·rw [if_neg h, h2 (by omega)]; rfl
theorem zjq (ps : List (ByteArray × Nat)) (nm : ByteArray) (n : Nat) (k : ByteArray) : zbk (ps ++ [(nm, n)]) k = match zbk ps k with | some m => some m | none => if nm.toList == k.toList then some n else none := by
 induction ps with
 | nil => rfl
 | cons x r ih =>
  rw [List.cons_append, zbk, zbk]
  split
  ·rfl
  ·exact ih
theorem zce {a b : ByteArray} : (a.toList == b.toList) = true ↔ a = b := by
 rw [beq_iff_eq, ByteArray.toList_eq, ByteArray.toList_eq]
 exact ⟨fun h => ByteArray.ext (Array.toList_inj.1 h), fun h => by rw [h]⟩
def arV (ps : List (ByteArray × Nat)) : ByteArray → Option Value := fun k => (zbk ps k).map fun n => .int .i64 n
theorem arV_put (ps : List (ByteArray × Nat)) (nm : ByteArray) (n : Nat) (h : zdf ps nm n = true) : updV (arV ps) nm (.int .i64 n) = arV (zdj ps nm n) := by
 funext k
 rw [zdo] at h
 rw [zov]
 by_cases e : k = nm
 ·subst e
  rw [zd5]
  unfold arV
  cases hn : zbk ps k with
  | none =>
   rw [if_pos (by rfl), zjq, hn]
   simp
  | some m =>
   rw [hn] at h
   simp at h
   rw [if_neg (by simp), hn, h]
   rfl
 ·rw [zc8 e]
  unfold arV
  cases hn : zbk ps nm with
  | none =>
   rw [if_pos (by rfl), zjq]
   have : ¬ (nm.toList == k.toList) = true := fun h => e ((zce.1 h).symm)
   cases zbk ps k with
   | none => simp only [if_neg this]
   | some m => rfl
  | some m => rw [if_neg (by simp)]
def ze4 : List PMen → List (ByteArray × Nat) → Int
 | [], _ => -1
 | M :: r, ps => if zdf ps M.pd M.ts.length then ze4 r (zdj ps M.pd M.ts.length) else M.place
theorem zqn {ms : List (PMen × Value)} {k : Nat} (h : k < ms.length) (ps : List (ByteArray × Nat)) : ze4 ((ms.map (·.1)).drop k) ps = if zdf ps ms[k].1.pd ms[k].1.ts.length then ze4 ((ms.map (·.1)).drop (k + 1)) (zdj ps ms[k].1.pd ms[k].1.ts.length) else ms[k].1.place := by
 rw [List.drop_eq_getElem_cons (by simpa using h), ze4]; simp
def ziy (x : Int) : Ending := .returned (.tuple #[.int .i64 (if 0 ≤ x then x else 0), .bool (decide (0 ≤ x))])
structure KInv (w : World) (base : Nat) (mv : Value) (ms : List (PMen × Value)) (V : ByteArray → Option Value) (k : Nat) (wr : World) : Prop where
 men : MRow wr base mv ms
 map : SMap Tryz.prog 9 wr (w.heap.size + 1) k V
 below : Below w.heap.size w wr
theorem KInv.alloc {w : World} {base : Nat} {mv : Value} {ms : List (PMen × Value)} {V : ByteArray → Option Value} {k : Nat} {wr : World} (h : KInv w base mv ms V k wr) (o : Obj) : KInv w base mv ms V k (wr.alloc o) :=
 ⟨h.men.below ((Below.refl _ _).alloc (Nat.le_refl _) _), h.map.alloc o, h.below.alloc h.below.size _⟩
theorem KInv.put {w : World} {base : Nat} {mv : Value} {ms : List (PMen × Value)} {V V' : ByteArray → Option Value} {k k' : Nat} {wr w1 : World} (h : KInv w base mv ms V k wr) (hm : SMap Tryz.prog 9 w1 (w.heap.size + 1) k' V') (hg : wr.grownBy w1 (some (w.heap.size + 1))) (hmw : ∀ g, mv.ownBlock = some g → g < w.heap.size) (hmt : ∀ x ∈ ms, ∀ g, x.2.ownBlock = some g → g < w.heap.size) : KInv w base mv ms V' k' w1 := by
 have hs := h.below.size
 have hb : ∀ g, g < w.heap.size → w1.heap[g]? = wr.heap[g]? := fun g hg' => hg.block g (by omega) (by simp; omega)
 refine ⟨⟨zbb h.men.row (fun g e => hb g (hmw g e)), fun x hx => zbb (h.men.each x hx) (fun g e => hb g (hmt x hx g e))⟩, hm, h.below.trans ⟨hg.os, hg.tape, hg.output, hg.size, hb⟩⟩
set_option maxRecDepth 100000 in
theorem parity_any (w : World) (base : Nat) (ar : Option Addr) (nr cr : Nat) (am : Option Addr) (cm : Nat) (ms : List (PMen × Value)) (h : MRow w base (.slice am ms.length cm) ms) (hl : ms.length ≤ 1000) (hpd : ∀ x ∈ ms, x.1.pd.size ≤ 800) :
  Calls Tryz.prog 75 #[.agg #[.slice ar nr cr, .slice am ms.length cm]] w fun e w' => e = ziy (ze4 (ms.map (·.1)) []) ∧ Below w.heap.size w w' := by
 have hmm := @run_makeMap Tryz.prog
 have HMW := hide (fun g (e : (Value.slice am ms.length cm).ownBlock = some g) => (h.row.lt g e).2)
 have HMT := hide (fun x (hx : x ∈ ms) g (e : x.2.ownBlock = some g) => ((h.each x hx).lt g e).2)
 have h0 : KInv w base (.slice am ms.length cm) ms (arV []) 0 ((w.alloc (.cells #[.slice ar nr cr, .slice am ms.length cm] 100)).alloc (.map #[] 0)) := by
  have b1 := ((Below.refl w.heap.size w).alloc (Nat.le_refl _) (.cells #[.slice ar nr cr, .slice am ms.length cm] 100)).alloc (by simp) (.map #[] 0)
  refine ⟨h.below b1, ?_, b1⟩
  have := SMap.made Tryz.prog 9 (w.alloc (.cells #[.slice ar nr cr, .slice am ms.length cm] 100))
  rw [World.size_alloc] at this
  exact this
 clear h
 go_enter Tryz.func75, Tryz.ntmps75
 go_wp2_with fail
 go_loopg [13] ms.length (fun gg i wr => ∃ (k : Nat) (ps : List (ByteArray × Nat)), k ≤ ms.length ∧ gg = ms.length - k ∧ i = .int .i64 k ∧ KInv w base (.slice am ms.length cm) ms (arV ps) k wr ∧ ze4 (ms.map (·.1)) [] = ze4 ((ms.map (·.1)).drop k) ps)
 case atStart => exact ⟨0, [], Nat.zero_le _, rfl, rfl, h0, rfl⟩
 case round =>
  clear h0
  obtain ⟨k, ps, hk, hgk, rfl, hinv, hfin⟩ := hrel
  have HF := hide hfin
  clear hfin
  by_cases hlk : k < ms.length
  ·have HF2 := hide ((zaa HF).trans (zqn hlk ps))
   obtain ⟨g, cap, hv, hbg, hgl, hnc, hcm, hc⟩ := zc7 zqm hinv.men.row k hlk
   injection hv with h1 h2 h3
   subst h1 h3
   obtain ⟨at1, ct1, hbt⟩ := zac (hinv.men.each _ (List.getElem_mem hlk))
   have htm := zbt (hinv.men.each _ (List.getElem_mem hlk))
   unfold maxLen at htm
   have q0 := hc 0 (by omega)
   have q1 := hc 1 (by omega)
   have q2 := hc 2 (by omega)
   have q3 := hc 3 (by omega)
   have q4 := hc 4 (by omega)
   have q5 := hc 5 (by omega)
   have q6 := hc 6 (by omega)
   have q7 := hc 7 (by omega)
   have q8 := hc 8 (by omega)
   have q9 := hc 9 (by omega)
   simp only [PMen.cells, hbt, Nat.add_zero, List.getElem?_cons_zero, List.getElem?_cons_succ] at q0 q1 q2 q3 q4 q5 q6 q7 q8 q9
   have hp8 := hpd _ (List.getElem_mem hlk)
   have hkl : ms[k].1.pd.size ≤ maxLen := by unfold maxLen; omega
   have hI := hinv.alloc (.cells #[.int .i64 ms[k].1.num, .bool ms[k].1.neg, .string ms[k].1.pd, .slice at1 ms[k].1.ts.length ct1, .int .i64 ms[k].1.start, .int .i64 ms[k].1.place, .int .i64 (ms[k].1.pl 0), .int .i64 (ms[k].1.pl 1), .int .i64 (ms[k].1.pl 2), .int .i64 (ms[k].1.pl 3)] 221)
   have hmap := hI.map
   have HI := hide hI
   clear hc HF hinv hI hbt
   cases hn : zbk ps ms[k].1.pd with
   | none =>
    have hb : zdf ps ms[k].1.pd ms[k].1.ts.length = true := by rw [zdo, hn]
    have HF3 := hide ((zaa HF2).trans (if_pos hb))
    have HP := hide (arV_put ps _ _ hb)
    have hu : (arV ps ms[k].1.pd).getD (.int .i64 0) = .int .i64 0 := by simp [arV, hn]
    have hc : (arV ps ms[k].1.pd).isSome = false := by simp [arV, hn]
    clear HF2 hb hn
    go_wp2_with (first | (at_lookup; refine zeg _ rfl _ _ 218 rfl 9 3 Tryz.underlying9 Tryz.underlying218 (Tryz.zeroValue3 _) (w.heap.size + 1) k (arV ps) rfl hmap ms[k].1.pd rfl hkl _ hu _ hc ?_) | (at_mapUpdate; refine zlm _ rfl _ _ _ 218 rfl 9 3 Tryz.underlying9 Tryz.underlying218 (w.heap.size + 1) k (arV ps) rfl hmap (by unfold maxLen; omega) ms[k].1.pd (.int .i64 ms[k].1.ts.length) (by rfl) (by rfl) hkl ?_))
    intro w2 hm2 hg2
    have hI2 := (zaa HI).put hm2 hg2 (zaa HMW) (zaa HMT)
    rw [zaa HP] at hI2
    have HI2 := hide hI2
    clear HI hm2 hg2 hI2 hmap
    go_wp2_with fail
    go_roundg (ms.length - (k + 1))
    case measure => omega
    case rel => exact ⟨k + 1, _, by omega, rfl, by go_num, zaa HI2, zaa HF3⟩
   | some m =>
    have hu : (arV ps ms[k].1.pd).getD (.int .i64 0) = .int .i64 m := by simp [arV, hn]
    have hc : (arV ps ms[k].1.pd).isSome = true := by simp [arV, hn]
    by_cases hmn : m = ms[k].1.ts.length
    ·have hb : zdf ps ms[k].1.pd ms[k].1.ts.length = true := by rw [zdo, hn]; simp [hmn]
     have HF3 := hide ((zaa HF2).trans (if_pos hb))
     have HP := hide (arV_put ps _ _ hb)
     have hne : ((m : Int) != (ms[k].1.ts.length : Int)) = false := by simp [hmn]
     clear HF2 hb hn hmn
     go_wp2_with (first | (at_lookup; refine zeg _ rfl _ _ 218 rfl 9 3 Tryz.underlying9 Tryz.underlying218 (Tryz.zeroValue3 _) (w.heap.size + 1) k (arV ps) rfl hmap ms[k].1.pd rfl hkl _ hu _ hc ?_) | (at_mapUpdate; refine zlm _ rfl _ _ _ 218 rfl 9 3 Tryz.underlying9 Tryz.underlying218 (w.heap.size + 1) k (arV ps) rfl hmap (by unfold maxLen; omega) ms[k].1.pd (.int .i64 ms[k].1.ts.length) (by rfl) (by rfl) hkl ?_))
     intro w2 hm2 hg2
     have hI2 := (zaa HI).put hm2 hg2 (zaa HMW) (zaa HMT)
     rw [zaa HP] at hI2
     have HI2 := hide hI2
     clear HI hm2 hg2 hI2 hmap
     go_wp2_with fail
     go_roundg (ms.length - (k + 1))
     case measure => omega
     case rel => exact ⟨k + 1, _, by omega, rfl, by go_num, zaa HI2, zaa HF3⟩
    ·have hb : zdf ps ms[k].1.pd ms[k].1.ts.length = false := by rw [zdo, hn]; simp [hmn]
     have HF3 := hide ((zaa HF2).trans (if_neg (by rw [hb]; decide)))
     have hne : ((m : Int) != (ms[k].1.ts.length : Int)) = true := by simp; omega
     clear HF2 hb hn hmn
     go_wp2_with (at_lookup; refine zeg _ rfl _ _ 218 rfl 9 3 Tryz.underlying9 Tryz.underlying218 (Tryz.zeroValue3 _) (w.heap.size + 1) k (arV ps) rfl hmap ms[k].1.pd rfl hkl _ hu _ hc ?_)
     go_wp2_with fail
     go_ret2
     refine ⟨?_, (zaa HI).below⟩
     rw [zaa HF3]
     unfold ziy
     rw [if_pos (by omega)]
     have : decide (0 ≤ (ms[k].1.place : Int)) = true := by simp
     rw [this]
     rfl
  ·have HF2 := hide (show ze4 (ms.map (·.1)) [] = -1 by rw [zaa HF, List.drop_of_length_le (by simp; omega)]; rfl)
   have HI := hide hinv
   clear HF hinv
   go_wp2_with fail
   go_ret2
   exact ⟨by rw [zaa HF2]; rfl, (zaa HI).below⟩
end
end Go.Proofs.YtldkpahaocjdpaaGreat
