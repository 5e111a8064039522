/-
  The program's order of names: cmp.isNaN[string], cmp.Compare[string], the closure of List.
  A stratum in memory: its type's facts; the owner's mark; a store into a row.
  The reference's Strata, plain: an insertion by names; how a row of strata is turned.
  Ranging over a map with strings for keys, as a plain function from texts to values.
  The program's List: how the predicates are gathered out of the table.
  The law's allStrata and still, at lists that hold their owner's mark alone.
  Plain: the program's three checks answer as the reference's; so do both Loads.
-/
import Derived.Test.YtldkpahaocjdpaaGreatQueriesT24
import Derived.Shelf.SlSortCmp.NoneTotal
import Derived.Test.YtldkpahaocjdpaaGreatQueriesT12
import Derived.Test.YtldkpahaocjdpaaGreatQueriesT18
import Derived.Test.YtldkpahaocjdpaaGreatQueriesT21
import Derived.Maps.RangeWalk
import Derived.BigQuiet
import Derived.Deep.QuietTactic
import Derived.Test.YtldkpahaocjdpaaGreatQueriesT17
set_option maxHeartbeats 16000000
namespace Go.Proofs.YtldkpahaocjdpaaGreat
section
open Go.RowKit Go.Maps Go.Sort
theorem zkt : ∀ x : List UInt8, Op.bytesLess x x = false
 | [] => rfl
 | a :: r => by simp [Op.bytesLess, zkt r]
theorem zml : ∀ x y z : List UInt8, Op.bytesLess x y = true → Op.bytesLess y z = true → Op.bytesLess x z = true
 | _, [], _, h, _ => by simp [Op.bytesLess] at h
 | _, _ :: _, [], _, h => by simp [Op.bytesLess] at h
 | [], _ :: _, _ :: _, _, _ => rfl
 | a :: x, b :: y, c :: z, h1, h2 => by
  simp only [Op.bytesLess, Bool.or_eq_true, Bool.and_eq_true, decide_eq_true_eq, beq_iff_eq] at h1 h2 ⊢
  rcases h1 with h1 | ⟨rfl, h1⟩
  ·rcases h2 with h2 | ⟨rfl, _⟩
   ·exact .inl (UInt8.lt_trans h1 h2)
   ·exact .inl h1
  ·rcases h2 with h2 | ⟨rfl, h2⟩
   ·exact .inl h2
   ·exact .inr ⟨rfl, zml x y z h1 h2⟩
theorem less_tri : ∀ x y : List UInt8, Op.bytesLess x y = false → Op.bytesLess y x = false → x = y
 | [], [], _, _ => rfl
 | [], _ :: _, h, _ => by simp [Op.bytesLess] at h
 | _ :: _, [], _, h => by simp [Op.bytesLess] at h
 | a :: x, b :: y, h1, h2 => by
  simp only [Op.bytesLess, Bool.or_eq_false_iff, Bool.and_eq_false_iff, decide_eq_false_iff_not, beq_eq_false_iff_ne, ne_eq] at h1 h2
  have hab : a = b := UInt8.le_antisymm (UInt8.not_lt.1 h2.1) (UInt8.not_lt.1 h1.1)
  subst hab
  rw [less_tri x y (h1.2.resolve_left (fun h => h rfl)) (h2.2.resolve_left (fun h => h rfl))]
def zd0 (x y : ByteArray) : Bool := Op.bytesLess x.toList y.toList
theorem zi5 (x : ByteArray) : zd0 x x = false := zkt _
theorem zhr {x y z : ByteArray} (h1 : zd0 x y = true) (h2 : zd0 y z = true) : zd0 x z = true := zml _ _ _ h1 h2
theorem lessB_tri {x y : ByteArray} (h1 : zd0 x y = false) (h2 : zd0 y x = false) : x = y := zce.1 (by rw [beq_iff_eq]; exact less_tri _ _ h1 h2)
def cmpB (x y : ByteArray) : Int := if zd0 x y then -1 else if x.toList == y.toList then 0 else 1
theorem zfz (x y : ByteArray) : ltOf cmpB x y = zd0 x y := by
 unfold ltOf cmpB
 cases zd0 x y <;> cases x.toList == y.toList <;> simp
theorem swoB : SWO (ltOf cmpB) where
 irrefl x := by rw [zfz]; exact zi5 x
 trans x y z h1 h2 := by rw [zfz] at *; exact zhr h1 h2
 ntrans x y z h1 h2 := by
  rw [zfz] at *
  cases h : zd0 x z with
  | false => rfl
  | true =>
   cases h3 : zd0 z y with
   | true => rw [zhr h h3] at h1; cases h1
   | false => rw [lessB_tri h2 h3] at h1; rw [h1] at h; cases h
end
section
open Go.RowKit
def zjk (mk : Nat) : List Value := [.string { data := #[] }, .int .i64 (-1000 - (mk : Int)), .int .i64 0]
theorem zbw {w : World} {base : Nat} {e : TypeId} {size n g cap : Nat} {xs : List Value} (h : w.ownsRow base e size (.slice (some ⟨g, 0, none⟩) n cap) n xs) (j : Nat) (u : Value) : (w.setCell ⟨g, j, none⟩ u).ownsRow base e size (.slice (some ⟨g, 0, none⟩) n cap) n (xs.set j u) := by
 obtain ⟨h0, h1⟩ := h
 refine ⟨by simpa using h0, ?_⟩
 rcases h1 with ⟨h1, _⟩ | ⟨g', cap', cur, hv, hb, hg, hn, hc, hs, ht⟩
 ·cases h1
 ·injection hv with h1 h2 h3
  injection h1 with h1
  injection h1 with h1
  subst h1 h3
  refine .inr ⟨g, cap, _, rfl, hb, heap_setCell_same _ _ _ _ _ _ hg, hn, hc, by simpa using hs, ?_⟩
  rw [Array.toList_setIfInBounds, List.take_set, ht]
theorem zf5 {w : World} {base : Nat} {e : TypeId} {size n g cap : Nat} {xs : List Value} {m : Nat} (h : w.ownsRow base e size (.slice (some ⟨g, 0, none⟩) n cap) m xs) : ∀ j, w.frozen? ⟨g, j, none⟩ = false := by
 intro j
 rcases h.2 with ⟨h1, _⟩ | ⟨g', cap', cur, hv, hb, hg, _⟩
 ·cases h1
 ·injection hv with h1 h2 h3
  injection h1 with h1
  injection h1 with h1
  subst h1
  simp [World.frozen?, hg]
theorem row_cap0 {w : World} {base : Nat} {e : TypeId} {size n g cap : Nat} {xs : List Value} (h : w.ownsRow base e size (.slice (some ⟨g, 0, none⟩) n cap) n xs) : n ≤ cap ∧ cap ≤ maxLen := by
 rcases h.2 with ⟨h1, _⟩ | ⟨g', cap', cur, hv, hb, hg, hn, hc, _⟩
 ·cases h1
 ·injection hv with h1 h2 h3
  subst h3
  exact ⟨hn, hc⟩
theorem own_cells0 {w : World} {base : Nat} {e : TypeId} {size n g cap : Nat} {xs : List Value} (h : w.ownsRow base e size (.slice (some ⟨g, 0, none⟩) n cap) n xs) : ∀ j, j < n * size → ∃ u, w.cell? ⟨g, j, none⟩ = some u := by
 intro j hj
 rcases h.2 with ⟨h1, _⟩ | ⟨g', cap', cur, hv, hb, hg, hn, _, hs, _⟩
 ·cases h1
 ·injection hv with h1 h2 h3
  injection h1 with h1
  injection h1 with h1
  subst h1 h3
  have : j < cur.size := by rw [hs]; exact Nat.lt_of_lt_of_le hj (Nat.mul_le_mul_right _ hn)
  exact ⟨cur[j], by rw [cell_of_row w g j cur e (0, 0) hg]; simp [this]⟩
end
section
open Go.RowKit Go.Maps
abbrev Stm := ByteArray × Nat × Nat
def zp4 (zs : List Stm) : Prop := zs.Pairwise fun x y => zd0 y.1 x.1 = false
theorem zi0 {x y z : ByteArray} (h1 : zd0 x y = false) (h2 : zd0 y z = false) : zd0 x z = false := by
 have := swoB.ntrans x y z (by rw [zfz]; exact h1) (by rw [zfz]; exact h2)
 rwa [zfz] at this
structure Ins (zs : List Stm) (A : List Stm) (x : Stm) (B : List Stm) : Prop where
 eq : zs = A ++ x :: B
 ris : zp4 (A ++ B)
 up : ∀ b ∈ B, zd0 x.1 b.1 = true
theorem zl3 {x y : ByteArray} (h : zd0 x y = true) : zd0 y x = false := by
 cases h2 : zd0 y x with
 | false => rfl
 | true => have := zhr h h2; rw [zi5] at this; cases this
theorem Ins.done {zs A B : List Stm} {x : Stm} (h : Ins zs A x B) (hl : ∀ A' a, A = A' ++ [a] → zd0 x.1 a.1 = false) : zp4 zs := by
 rw [h.eq]
 have hr := h.ris
 unfold zp4 at hr ⊢
 rw [List.pairwise_append] at hr ⊢
 obtain ⟨hA, hB, hAB⟩ := hr
 refine ⟨hA, List.pairwise_cons.2 ⟨fun b hb => zl3 (h.up b hb), hB⟩, fun a ha y hy => ?_⟩
 rcases List.mem_cons.1 hy with rfl | hy
 ·rcases List.eq_nil_or_concat A with e | ⟨A', a', e⟩
  ·subst e; cases ha
  ·rw [List.concat_eq_append] at e
   have h0 := hl A' a' e
   subst e
   rcases List.mem_append.1 ha with ha | ha
   ·have := (List.pairwise_append.1 hA).2.2 a ha a' (by simp)
    exact zi0 h0 this
   ·rw [List.mem_singleton.1 ha]; exact h0
 ·exact hAB a ha y hy
end
section
open Go.RowKit Go.Maps Go.ChangeMaps Go.WideMaps
def SRange (P : Program) (K : TypeId) (w : World) (b r n : Nat) (V : ByteArray → Option Value) (L : ByteArray → Prop) (cnt : Nat) : Prop :=
 ∃ (D : DataW Value) (left : Lit → Bool), w.ranges P K zcu b r n D left cnt ∧ (∀ k : ByteArray, Maps.has D (keyS k) = (V k).isSome ∧ ∀ z, D.atKey (keyS k) (.held z) = .held ((V k).getD z)) ∧ ∀ k, left (keyS k) = true ↔ L k
theorem SRange.alloc {P : Program} {K : TypeId} {w : World} {b r n : Nat} {V : ByteArray → Option Value} {L : ByteArray → Prop} {cnt : Nat} (h : SRange P K w b r n V L cnt) (o : Obj) : SRange P K (w.alloc o) b r n V L cnt := by
 obtain ⟨D, left, h1, h2⟩ := h; exact ⟨D, left, h1.alloc o, h2⟩
theorem keyOf_str {P : Program} {k : TypeId} (hk : P.underlying k = some .string) {s : ByteArray} {kl : Lit} (h : keyOf P k (.string s) = some kl) : kl = keyS s := by
 simp [keyOf, hk, mapKey] at h
 exact h.2.symm
theorem zm9 {P : Program} {k : TypeId} (hk : P.underlying k = some .string) {key : Value} {kl : Lit} (h : keyOf P k key = some kl) : ∃ s, key = .string s := by
 cases key <;> simp [keyOf, hk, mapKey] at h
 exact ⟨_, rfl⟩
section
variable {P : Program} (w : World) {ops : Array Oper} {rest : List Oper} {o : Oper} {a : Act} {Q : Exit → Act → World → Prop}
theorem wp_range (hg : o.guard = none) (m : Operand) (t : TypeId) (hop : o.op = Op.range t m) (K e : TypeId) (hK : P.underlying K = some .string) (ht : P.underlying t = some (.map K e)) (b n : Nat) (V : ByteArray → Option Value)
  (hm : a.eval m = .map (some b)) (hown : SMap P K w b n V)
  (hQ : ∀ w' cnt, SRange P K w' b w.heap.size n V (fun k => (V k).isSome = true) cnt → cnt ≤ n → w.grownBy w' none → w'.heap.size = w.heap.size + 1 → wpList P ops Q rest (a.put o.dst (.pointer (some ⟨w.heap.size, 0, none⟩))) w') :
  wpList P ops Q (o :: rest) a w := by
 obtain ⟨D, hD, h3⟩ := hown
 refine wpList_range_own w hg m t hop K e (string_keyed hK) ht zcu b n D hm hD fun w' h1 h2 hs => hQ w' (Maps.size D) ⟨D, _, h1, h3, fun k => by rw [(h3 k).1]⟩ ?_ h2 hs
 obtain ⟨es, clock, _, _, hn, rfl⟩ := hD
 rw [Maps.size_eq, (WideShapes.sorted_perm _).length_eq]
 simpa using hn
theorem wp_next (hg : o.guard = none) (it : Operand) (hop : o.op = Op.next it false) (K : TypeId) (hK : P.underlying K = some .string) (b r n : Nat) (V : ByteArray → Option Value) (L : ByteArray → Prop) (cnt : Nat) (mk : ByteArray → Value) (hmk : ∀ k u, V k = some u → u = mk k)
  (hit : a.eval it = .pointer (some ⟨r, 0, none⟩)) (h : SRange P K w b r n V L cnt)
  (hDone : (∀ k, ¬ L k) → wpList P ops Q rest (a.put o.dst (.tuple #[.bool false])) w)
  (hMore : ∀ (k : ByteArray) (w' : World) (cnt' : Nat), L k → V k = some (mk k) → SRange P K w' b r n V (fun x => L x ∧ x ≠ k) cnt' → cnt' < cnt → w.grownBy w' (some r) → w'.heap.size = w.heap.size →
   (Instr.entry (.pointer (some ⟨r, 0, none⟩))).run P w' = .ok (.tuple #[.string k, mk k]) w' → wpList P ops Q rest (a.put o.dst (.tuple #[.bool true, .string k, mk k])) w') :
  wpList P ops Q (o :: rest) a w := by
 obtain ⟨D, left, h1, h2, h3⟩ := h
 refine wpList_next_ranges w hg it hop K (string_keyed hK) zcu Value.string (id : Value → Value) (fun key kl hkey => zm9 hK hkey) (fun v y _ => ⟨v, rfl⟩) b r n D left cnt hit h1 (fun _ hl => hDone fun k hk => by rw [← h3, hl] at hk; cases hk) ?_
 intro x c kl y w' cnt' hkey hlk hv hat hrg hlt hgr hsz hen
 have hkl := keyOf_str hK hkey
 subst hkl
 have hy := zh2 (v := c) (d := y.1) (ps := y.2) hv
 have hV : V x = some c := by
  have e1 := (h2 x).2 undef
  have e2 := (h2 x).2 (.bool true)
  rw [hat, hy] at e1 e2
  injection e1 with e1
  injection e2 with e2
  cases hVx : V x with
  | none => rw [hVx] at e1 e2; rw [e1] at e2; cases e2
  | some u => rw [hVx] at e1; rw [e1]; rfl
 have hc := hmk x c hV
 subst hc
 refine hMore x w' cnt' ((h3 x).1 hlk) hV ⟨D, _, hrg, h2, fun k => ?_⟩ hlt hgr hsz hen
 rw [Bool.and_eq_true, h3, Bool.not_eq_true']
 refine and_congr_right fun _ => ⟨fun hs e => ?_, fun hne => Maps.sameKey_ne (keyS_ne hne)⟩
 subst e
 rw [WideAt.sameKey_self (by trivial)] at hs
 cases hs
end
end
section
open Go.RowKit Go.Maps
theorem stV_some (ps : List (ByteArray × Nat)) (S : ByteArray → Nat) (k : ByteArray) (u : Value) (h : stV ps S k = some u) : u = .agg #[.string k, .int .i64 (S k), .int .i64 ((zbk ps k).getD 0 : Nat)] := by
 unfold stV at h
 cases hn : zbk ps k with
 | none => rw [hn] at h; cases h
 | some m => rw [hn] at h; injection h with h; exact h.symm
end
section
open Go.RowKit Go.Maps
def marks (mk n : Nat) : List Value := (List.replicate n ()).flatMap fun _ => zjk mk
theorem mark_at {w : World} {base mk : Nat} {v : Value} {n : Nat} (h : w.ownsRow base 185 3 v n (marks mk n)) (k : Nat) (hk : k < n) : ∃ g cap, v = .slice (some ⟨g, 0, none⟩) n cap ∧ g < w.heap.size ∧ n ≤ cap ∧ cap ≤ maxLen ∧ w.cell? ⟨g, k * 3, none⟩ = some (.string { data := #[] }) ∧ w.cell? ⟨g, k * 3 + 1, none⟩ = some (.int .i64 (-1000 - (mk : Int))) ∧ w.cell? ⟨g, k * 3 + 2, none⟩ = some (.int .i64 0) := by
 have h' : w.ownsRow base 185 3 v (List.replicate n ()).length ((List.replicate n ()).flatMap fun _ => zjk mk) := by rw [List.length_replicate]; exact h
 obtain ⟨g, cap, hv, -, hgl, hnc, hcm, hc⟩ := zc7 (f := fun _ : Unit => zjk mk) (fun _ => rfl) h' k (by simpa using hk)
 rw [List.length_replicate] at hv hnc
 refine ⟨g, cap, hv, hgl, hnc, hcm, ?_, ?_, ?_⟩
 ·have := hc 0 (by simp [zjk]); simpa [zjk] using this
 ·have := hc 1 (by simp [zjk]); simpa [zjk] using this
 ·have := hc 2 (by simp [zjk]); simpa [zjk] using this
set_option maxRecDepth 100000 in
theorem zev (w : World) (base mk : Nat) (a : Option Addr) (n c : Nat) (h : w.ownsRow base 185 3 (.slice a n c) n (marks mk n)) (hn : n ≤ 100000) (hmk : mk ≤ 1000000000000) :
  Calls Tryz.prog 96 #[.slice a n c, .int .i64 mk] w fun e w' => e = .returned (.bool true) ∧ w' = w := by
 have HA := hide h
 clear h
 go_enter Tryz.func96, Tryz.ntmps96
 go_wp2_with fail
 go_loopg [5] n (fun gg i wr => ∃ k : Nat, k ≤ n ∧ gg = n - k ∧ i = .int .i64 k ∧ wr = w)
 case atStart => exact ⟨0, Nat.zero_le _, rfl, rfl, rfl⟩
 case round =>
  obtain ⟨k, hk, hgk, rfl, rfl⟩ := hrel
  by_cases hlk : k < n
  ·obtain ⟨g, cap, hv, hgl, hnc, hcm, p0, p1, p2⟩ := mark_at (zaa HA) k hlk
   injection hv with h1 h2 h3
   subst h1 h3
   go_wp2_with fail
   go_roundg (n - (k + 1))
   case measure => omega
   case rel => exact ⟨k + 1, by omega, rfl, by go_num, rfl⟩
  ·go_wp2_with fail
   go_ret
   exact ⟨rfl, rfl⟩
end
section
theorem text_flat {n : Nat} {rs : List RRule} {ms : List PMen} (h : TextRel n rs ms) : ∃ Q : List (RAtom × PMen), Q.map (·.1) = rs.flatMap RRule.atoms ∧ Q.map (·.2) = ms ∧ ∀ x ∈ Q, ∃ i, MenRel i x.1 x.2 := by
 induction h with
 | nil n => exact ⟨[], rfl, rfl, by simp⟩
 | cons h t ih =>
  obtain ⟨q, q1, q2, q3⟩ := h
  obtain ⟨Q, Q1, Q2, Q3⟩ := ih
  refine ⟨q ++ Q, by simp [q1, Q1], by simp [q2, Q2], fun x hx => ?_⟩
  rcases List.mem_append.1 hx with hx | hx
  ·exact ⟨_, q3 x hx⟩
  ·exact Q3 x hx
theorem zpe : ∀ (Q : List (RAtom × PMen)) (ps : List (ByteArray × Nat)), (∀ x ∈ Q, ∃ i, MenRel i x.1 x.2) → ze4 (Q.map (·.2)) ps = (za4 (Q.map (·.1)) ps).1
 | [], ps, _ => rfl
 | x :: r, ps, h => by
  obtain ⟨i, hx⟩ := h x List.mem_cons_self
  have ih := fun ps' => zpe r ps' (fun y hy => h y (List.mem_cons_of_mem _ hy))
  have e1 : x.2.ts.length = x.1.terms.length := by rw [hx.ts]; simp
  simp only [List.map_cons, ze4, za4]
  rw [hx.pd, e1, ih, hx.place]
  split <;> rfl
def zcm {α : Type} (F : α → Int) : List α → Int
 | [] => -1
 | x :: r => if 0 ≤ F x then F x else zcm F r
theorem zjf {α : Type} (F : α → Int) (b : List α) : ∀ (a : List α), zcm F (a ++ b) = if 0 ≤ zcm F a then zcm F a else zcm F b
 | [] => by simp [zcm]
 | x :: r => by
  rw [List.cons_append, zcm, zcm, zjf F b r]
  by_cases h : 0 ≤ F x
  ·simp [h]
  ·simp [h]
theorem zmo {n : Nat} {rs : List RRule} {ms : List PMen} (h : TextRel n rs ms) (F : PMen → Int) (G : RRule → Int) : (∀ i R ms', rs[i]? = some R → Men (n + i) R.atoms ms' → zcm F ms' = G R) → zcm F ms = zcm G rs := by
 induction h with
 | nil n => intro _; rfl
 | @cons n R rs ms ms' h t ih =>
  intro hG
  have h1 := hG 0 R ms rfl h
  have h2 := ih (fun i R' ms'' hi hm => hG (i + 1) R' ms'' (by simpa using hi) (by
   have e : n + (i + 1) = n + 1 + i := by omega
   rw [e]; exact hm))
  rw [zjf, h1, h2, zcm]
theorem zpz {i : Nat} {l : List RAtom} {ms : List PMen} (h : Men i l ms) (F : PMen → Int) (G : RAtom → Int) (hG : ∀ A ∈ l, ∀ M, MenRel i A M → F M = G A) : zcm F ms = zcm G l := by
 obtain ⟨q, rfl, rfl, q3⟩ := h
 induction q with
 | nil => rfl
 | cons x r ih =>
  have h1 := hG x.1 (by simp) x.2 (q3 x List.mem_cons_self)
  have h2 := ih (fun A hA M hM => hG A (List.mem_cons_of_mem _ hA) M hM) (fun y hy => q3 y (List.mem_cons_of_mem _ hy))
  simp only [List.map_cons, zcm, h1, h2]
theorem has_eq (v : ByteArray) (l : List RTerm) : hasV v (l.map tmOf) = l.any (zhe v) := by
 unfold hasV
 rw [List.any_map]
 rfl
theorem binds_eq (v : ByteArray) (body : List RAtom) : zja v (body.map zep) = zed v body := by
 unfold zja zed
 induction body with
 | nil => rfl
 | cons A r ih =>
  rw [List.map_cons, List.filter_cons, List.any_cons, ← ih]
  cases hn : A.no with
  | true => simp [zep, hn, saidA]
  | false => simp [zep, hn, saidA, has_eq]
theorem loose_eq (body : List RAtom) (pl : Nat → Nat) : ∀ (l : List RTerm) (k : Nat), (∀ i (h : i < l.length), pl (k + i) = (l[i]).at_) → (match zb6 (body.map zep) (l.map tmOf) k with | some i => (pl i : Int) | none => -1) = zbg body l
 | [], k, _ => rfl
 | t :: r, k, h => by
  have ih := loose_eq body pl r (k + 1) (fun i hi => by
   have := h (i + 1) (by simpa using hi)
   rw [show k + 1 + i = k + (i + 1) by omega, this]; simp)
  simp only [List.map_cons, zb6, zbg]
  rw [show (tmOf t).1 = t.isVar from rfl, show (tmOf t).2 = t.text from rfl, binds_eq]
  by_cases hc : (t.isVar && !zed t.text body) = true
  ·rw [if_pos hc, if_pos hc]
   have := h 0 (by simp)
   simp only [Nat.add_zero, List.getElem_cons_zero] at this
   simp only [this]
  ·rw [if_neg hc, if_neg hc]; exact ih
theorem loose_pos {body : List RAtom} {A : RAtom} (hA : A ∈ body) (hn : A.no = false) : zbg body A.terms = -1 := by
 have key : ∀ l : List RTerm, (∀ t ∈ l, t ∈ A.terms) → zbg body l = -1 := by
  intro l
  induction l with
  | nil => intro _; rfl
  | cons t r ih =>
   intro h
   rw [zbg, if_neg, ih (fun u hu => h u (List.mem_cons_of_mem _ hu))]
   cases hv : t.isVar with
   | false => simp
   | true =>
    have hs : zed t.text body = true := by
     unfold zed
     rw [List.any_eq_true]
     refine ⟨A, hA, ?_⟩
     unfold saidA
     rw [hn]
     simp only [Bool.not_false, Bool.true_and]
     rw [List.any_eq_true]
     exact ⟨t, h t List.mem_cons_self, by simp [zhe, hv]⟩
    simp [hs]
 exact key A.terms (fun t h => h)
theorem zgn (body : List RAtom) : ∀ l : List RAtom, (∀ A ∈ l, A ∈ body) → zbl body l = zcm (fun A => zbg body A.terms) l
 | [], _ => rfl
 | A :: r, h => by
  rw [zbl, zcm, ← zgn body r (fun B hB => h B (List.mem_cons_of_mem _ hB))]
  cases hn : A.no with
  | true => simp
  | false =>
   rw [loose_pos (h A List.mem_cons_self) hn]
   simp
theorem zi1 : ∀ rs : List RRule, za9 rs = zcm zde rs
 | [] => rfl
 | R :: r => by rw [za9, zcm, zi1 r]
def unbF (rs : List PRule) (M : PMen) : Int := match zb6 (zi9 rs M.num) M.ts 0 with | some i => (M.pl i : Int) | none => -1
theorem zii (rs : List PRule) : ∀ ms : List PMen, zct rs ms = zcm (unbF rs) ms
 | [] => rfl
 | M :: r => by
  rw [zct, zcm, ← zii rs r]
  unfold unbF
  cases zb6 (zi9 rs M.num) M.ts 0 with
  | none => simp
  | some i => simp
theorem unbound_eq {rs : List RRule} {ms : List PMen} (h : TextRel 0 rs ms) : zct (rs.map za7) ms = za9 rs := by
 rw [zii, zi1]
 refine zmo h _ _ (fun i R ms' hi hm => ?_)
 rw [Nat.zero_add] at hm
 have hb : zi9 (rs.map za7) i = R.body.map zep := by
  unfold zi9
  rw [List.getElem?_map, hi]
  rfl
 rw [zpz hm (unbF (rs.map za7)) (fun A => zbg R.body A.terms) (fun A _ M hM => ?_)]
 ·unfold RRule.atoms zde
  rw [zcm, zgn R.body R.body (fun A hA => hA)]
 ·unfold unbF
  rw [hM.num, hb, hM.ts]
  exact loose_eq R.body M.pl A.terms 0 (fun i hi => by rw [Nat.zero_add]; exact hM.pl i hi)
theorem ix_name (nm : ByteArray) : ∀ (l : List (ByteArray × Nat)) (k : Nat), 0 ≤ zbr nm l k → (l.getD (zbr nm l k - k).toNat (nm, 0)).1 = nm
 | [], k, h => by simp [zbr] at h
 | x :: r, k, h => by
  unfold zbr at h ⊢
  by_cases hx : (x.1.toList == nm.toList) = true
  ·rw [if_pos hx]
   simp
   exact zce.1 hx
  ·rw [if_neg hx] at h ⊢
   have ih := ix_name nm r (k + 1) h
   have := (ix_lt nm r (k + 1) h).1
   have e : (zbr nm r (k + 1) - (k : Int)).toNat = (zbr nm r (k + 1) - ((k + 1 : Nat) : Int)).toNat + 1 := by omega
   rw [e]
   simpa using ih
def nmOf (ps : List (ByteArray × Nat)) (i : Nat) : ByteArray := (ps.getD i ({ data := #[] }, 0)).1
theorem znj {ps : List (ByteArray × Nat)} {x : ByteArray} (h : 0 ≤ zak ps x) : nmOf ps (ixOf ps x) = x := by
 have h1 := ix_name x ps 0 h
 have hlt := zcc h
 unfold nmOf ixOf
 rw [show zbr x ps 0 = zak ps x from rfl] at h1
 simp only [Int.natCast_zero, Int.sub_zero] at h1
 rw [List.getD_eq_getElem?_getD, List.getElem?_eq_getElem hlt] at h1 ⊢
 simpa using h1
theorem ix_same {ps : List (ByteArray × Nat)} {a b : ByteArray} (ha : 0 ≤ zak ps a) (hb : 0 ≤ zak ps b) : (zak ps a == zak ps b) = (a.toList == b.toList) := by
 rw [Bool.eq_iff_iff]
 constructor
 ·intro h
  have h1 : zak ps a = zak ps b := by simpa using h
  have h2 := znj ha
  rw [show ixOf ps a = ixOf ps b by unfold ixOf; rw [h1], znj hb] at h2
  rw [h2]; simp
 ·intro h
  rw [zce.1 h]; simp
theorem zj9 {rs : List RRule} {x y : ByteArray} : (x, y) ∈ zcg (rs.map za7) ↔ ∃ R ∈ rs, ∃ A ∈ R.body, x = R.head.pred ∧ y = A.pred := by
 unfold zcg zhj
 constructor
 ·intro h
  obtain ⟨P, hP, h⟩ := List.mem_flatMap.1 h
  obtain ⟨R, hR, rfl⟩ := List.mem_map.1 hP
  obtain ⟨L, hL, h⟩ := List.mem_map.1 h
  obtain ⟨A, hA, rfl⟩ := List.mem_map.1 hL
  injection h with h1 h2
  exact ⟨R, hR, A, hA, h1.symm, h2.symm⟩
 ·rintro ⟨R, hR, A, hA, rfl, rfl⟩
  exact List.mem_flatMap.2 ⟨za7 R, List.mem_map_of_mem hR, List.mem_map.2 ⟨zep A, List.mem_map_of_mem hA, rfl⟩⟩
theorem zi2 {ps : List (ByteArray × Nat)} {h : Nat} : ∀ (l : List RAtom) {M : Nat → Nat → Bool} {a b : Nat}, zhg ps h l M a b = true → M a b = true ∨ (a = h ∧ ∃ A ∈ l, b = ixOf ps A.pred)
 | [], M, a, b, hm => .inl hm
 | A :: r, M, a, b, hm => by
  rcases zi2 r hm with h1 | ⟨h1, B, hB, h2⟩
  ·unfold upd at h1
   simp at h1
   rcases h1 with ⟨h1, h2⟩ | h1
   ·exact .inr ⟨h1, A, List.mem_cons_self, h2⟩
   ·exact .inl h1
  ·exact .inr ⟨h1, B, List.mem_cons_of_mem _ hB, h2⟩
theorem zjx {ps : List (ByteArray × Nat)} : ∀ (l : List RRule) {M : Nat → Nat → Bool} {a b : Nat}, zib ps l M a b = true → M a b = true ∨ ∃ R ∈ l, a = ixOf ps R.head.pred ∧ ∃ A ∈ R.body, b = ixOf ps A.pred
 | [], M, a, b, hm => .inl hm
 | R :: r, M, a, b, hm => by
  rcases zjx r hm with h1 | ⟨R', hR, h1⟩
  ·rcases zi2 R.body h1 with h2 | ⟨h2, A, hA, h3⟩
   ·exact .inl h2
   ·exact .inr ⟨R, List.mem_cons_self, h2, A, hA, h3⟩
  ·exact .inr ⟨R', List.mem_cons_of_mem _ hR, h1⟩
theorem fwM_sound (P : Nat → Nat → Prop) (hP : ∀ a b c, P a b → P b c → P a c) (n : Nat) : ∀ (d m : Nat) (M : Nat → Nat → Bool), n - m = d → (∀ a b, M a b = true → P a b) → ∀ a b, fwM n M m a b = true → P a b := by
 intro d
 induction d with
 | zero =>
  intro m M hd hM a b h
  rw [zqe (by omega)] at h
  exact hM a b h
 | succ d ih =>
  intro m M hd hM a b h
  rw [fwM_go (by omega)] at h
  refine ih (m + 1) _ (by omega) (fun x y hxy => ?_) a b h
  rw [fwI_eq n m (n - 0) 0 M rfl] at hxy
  simp at hxy
  rcases hxy with h1 | h1
  ·exact hM x y h1
  ·exact hP x m y (hM x m h1.1.2) (hM m y h1.2)
theorem zqx {E : List Edge} {a b c : ByteArray} (h : Reach E a b) (t : Reach E b c) : Reach E a c := by
 induction t with
 | one h1 => exact .next h h1
 | next _ h1 ih => exact .next ih h1
theorem hangs_eq {ps : List (ByteArray × Nat)} {rs : List RRule} (hall : zhd ps (rs.flatMap RRule.atoms)) {a b : ByteArray} (ha : 0 ≤ zak ps a) (hb : 0 ≤ zak ps b) : zhf (zcg (rs.map za7)) a b = zb5 ps rs (ixOf ps a) (ixOf ps b) := by
 have hhead : ∀ R ∈ rs, 0 ≤ zak ps R.head.pred := fun R hR => hall _ (List.mem_flatMap.2 ⟨R, hR, List.mem_cons_self⟩)
 have hbody : ∀ R ∈ rs, ∀ A ∈ R.body, 0 ≤ zak ps A.pred := fun R hR A hA => hall _ (List.mem_flatMap.2 ⟨R, hR, List.mem_cons_of_mem _ hA⟩)
 rw [Bool.eq_iff_iff]
 unfold zhf
 simp only [decide_eq_true_eq]
 constructor
 ·intro h
  have key : ∀ y, Reach (zcg (rs.map za7)) a y → zb5 ps rs (ixOf ps a) (ixOf ps y) = true ∧ 0 ≤ zak ps y := by
   intro y hy
   induction hy with
   | one h1 =>
    obtain ⟨R, hR, A, hA, rfl, rfl⟩ := zj9.1 h1
    exact ⟨zil hR hA, hbody R hR A hA⟩
   | next t h1 ih =>
    obtain ⟨R, hR, A, hA, rfl, rfl⟩ := zj9.1 h1
    exact ⟨zho (zcc ha) (zcc ih.2) (zcc (hbody R hR A hA)) ih.1 (zil hR hA), hbody R hR A hA⟩
  exact (key b h).1
 ·intro h
  have := fwM_sound (fun i j => Reach (zcg (rs.map za7)) (nmOf ps i) (nmOf ps j)) (fun _ _ _ => zqx) ps.length ps.length 0 (zib ps rs (fun _ _ => false)) rfl (fun i j hij => ?_) _ _ h
  ·rw [znj ha, znj hb] at this
   exact this
  ·rcases zjx rs hij with h1 | ⟨R, hR, rfl, A, hA, rfl⟩
   ·cases h1
   ·simp only [znj (hhead R hR), znj (hbody R hR A hA)]
    exact .one (zj9.2 ⟨R, hR, A, hA, rfl, rfl⟩)
theorem zic (ps : List (ByteArray × Nat)) (H : Nat → Nat → Bool) (hd : ByteArray) : ∀ l : List RAtom, zc3 ps H hd l = zcm (fun A => if cycB ps H hd A then (A.noAt : Int) else -1) l
 | [] => rfl
 | A :: r => by
  rw [zc3, zcm, ← zic ps H hd r]
  by_cases h : cycB ps H hd A = true
  ·simp [h]
  ·simp [h]
theorem zje (ps : List (ByteArray × Nat)) (H : Nat → Nat → Bool) : ∀ rs : List RRule, zb8 ps H rs = zcm (fun R => zc3 ps H R.head.pred R.body) rs
 | [] => rfl
 | R :: r => by rw [zb8, zcm, zje ps H r]
theorem zjg (rs : List PRule) : ∀ ms : List PMen, zdq rs ms = zcm (fun M => if cycM rs M then (M.start : Int) else -1) ms
 | [] => rfl
 | M :: r => by
  rw [zdq, zcm, ← zjg rs r]
  by_cases h : cycM rs M = true
  ·simp [h]
  ·simp [h]
theorem cycle_eq {ps : List (ByteArray × Nat)} {rs : List RRule} {ms : List PMen} (h : TextRel 0 rs ms) (hall : zhd ps (rs.flatMap RRule.atoms)) (hno : ∀ R ∈ rs, R.head.no = false) : zdq (rs.map za7) ms = zb8 ps (zb5 ps rs) rs := by
 rw [zjg, zje]
 refine zmo h _ _ (fun i R ms' hi hm => ?_)
 rw [Nat.zero_add] at hm
 have hR : R ∈ rs := List.mem_of_getElem? hi
 have hh : zmj (rs.map za7) i = R.head.pred := by
  unfold zmj
  rw [List.getElem?_map, hi]
  rfl
 have hp := hall R.head (List.mem_flatMap.2 ⟨R, hR, List.mem_cons_self⟩)
 rw [zpz hm _ (fun A => if cycB ps (zb5 ps rs) R.head.pred A then (A.noAt : Int) else -1) (fun A hA M hM => ?_)]
 ·unfold RRule.atoms
  rw [zcm, zic]
  have : cycB ps (zb5 ps rs) R.head.pred R.head = false := by unfold cycB; rw [hno R hR]; rfl
  simp [this]
 ·have hpa := hall A (List.mem_flatMap.2 ⟨R, hR, hA⟩)
  have e : cycM (rs.map za7) M = cycB ps (zb5 ps rs) R.head.pred A := by
   unfold cycM cycB
   rw [hM.num, hh, hM.neg, hM.pd, hangs_eq hall hpa hp, ix_same hpa hp]
  simp only [e]
  by_cases hc : cycB ps (zb5 ps rs) R.head.pred A = true
  ·rw [if_pos hc, if_pos hc]
   have : A.no = true := by unfold cycB at hc; simp at hc; exact hc.1
   rw [hM.start this]
  ·rw [if_neg hc, if_neg hc]
theorem rules_head {s : ByteArray} (f : Nat) : ∀ {p : Nat} {bd : Int} {l : List RRule}, (∀ R ∈ l, R.head.no = false) → ∀ R ∈ (zeo s f p bd l).1, R.head.no = false := by
 induction f with
 | zero => intro p bd l h; exact h
 | succ f ih =>
  intro p bd l h
  rw [zeo]
  split
  ·refine ih (fun R hR => ?_)
   rcases List.mem_append.1 hR with hR | hR
   ·exact h R hR
   ·simp at hR; subst hR; rfl
  ·exact h
theorem load_eq (s : ByteArray) : pload s = zbi s := by
 unfold pload zbi
 by_cases c0 : 800 < s.size
 ·rw [if_pos c0, if_pos c0]
 ·rw [if_neg c0, if_neg c0]
  cases c1 : (za6 s).1 with
  | false =>
   have h := (zid s).2 c1
   rw [if_pos rfl, h, if_pos (by omega)]
  | true =>
   obtain ⟨h1, h2, h3⟩ := (zid s).1 c1
   rw [if_neg (show ¬ (true = false) by decide), h1, if_neg (show ¬ ((0 : Int) ≤ -1) by decide), h2]
   obtain ⟨Q, Q1, Q2, Q3⟩ := text_flat h3
   have ea : ze4 (za6 s).2.2.2 [] = (zau s).1 := by
    unfold zau
    rw [← Q1, ← Q2]
    exact zpe Q [] Q3
   have eu := unbound_eq h3
   unfold zgl
   rw [ea, eu]
   by_cases c2 : 0 ≤ (zau s).1
   ·simp [c2]
   ·have hall : zhd (zau s).2 ((za8 s).1.flatMap RRule.atoms) := zgd _ c2
    have ec := cycle_eq h3 hall (rules_head 31 (by simp))
    rw [ec]
    rw [if_neg c2, if_neg c2]
    by_cases c3 : 0 ≤ za9 (za8 s).1
    ·simp [c3]
    ·rw [if_neg c3, if_neg c3]
     by_cases c4 : 0 ≤ zb8 (zau s).2 (zb5 (zau s).2 (za8 s).1) (za8 s).1
     ·simp [c4]
     ·simp [c4]
end
end Go.Proofs.YtldkpahaocjdpaaGreat
