/-
  Lists that are begun at one list, in its spare room or elsewhere: what stands in them where each entry is one mark.
  The law's book, plain: a list that came out and three that are begun at it; what stands in it stays.
  The reference's parser: rule, at every text and place: the plain text's rule; its rows are new memory, and nothing else of old memory has turned but the parser.
-/
import Derived.Test.YtldkpahaocjdpaaGreatQueriesT11
import Derived.Deep.DeepAppendRoom
import Derived.ArgAppend
import Derived.Test.YtldkpahaocjdpaaGreatQueriesT08
set_option maxHeartbeats 16000000
namespace Go.Proofs.YtldkpahaocjdpaaGreat
section
open Go.RowKit
def AppPart (w w' : World) (v v' : Value) (n m : Nat) : Prop :=
 (∃ g cap, v = .slice (some ⟨g, 0, none⟩) n cap ∧ v' = .slice (some ⟨g, 0, none⟩) (n + m) cap ∧ n + m ≤ cap ∧ w.grownBy w' (some g)) ∨
 (∃ g cap, v' = .slice (some ⟨g, 0, none⟩) (n + m) cap ∧ w.heap.size ≤ g ∧ w.grownBy w' none ∧ ∀ a c, v = .slice a n c → c < n + m)
theorem zd1 {P : Program} (w : World) {ops : Array Oper} {rest : List Oper} {o : Oper} {a : Act} {Q : Exit → Act → World → Prop} (hgd : o.guard = none) (s x : Operand) (t : TypeId)
  (ho : o.op = .call { callee := .builtin .append, args := #[s, x], argTypes := #[t, t] })
  (base : Nat) (e : TypeId) (i : TypeInfo) (z : Value) (size bytes : Nat) (ht : P.underlying t = some (.slice e)) (hi : P.info? e = some i) (hz : i.zero = some z)
  (hsize : i.size = size) (hby : i.bytes = bytes) (hzs : z.cells.size = size) (hsz : 0 < size)
  (ao : Option Addr) (n cap : Nat) (xs : List Value) (hs : a.eval s = .slice ao n cap) (hown : w.ownsRow base e size (.slice ao n cap) n xs)
  (ad : Addr) (m c : Nat) (news : List Value) (hx : a.eval x = .slice (some ad) m c) (hl : news.length = m * size) (hnews : ∀ j u, news[j]? = some u → w.cell? (ad.add j) = some u) (h1 : ∀ u ∈ news, u.oneCell' = true)
  (hm : 0 < m) (h63 : n + m ≤ maxLen) (hbytes : (n + m) * bytes ≤ 140737488355328) (hbase : base ≤ w.heap.size)
  (h : ∀ a' cap' w', w'.ownsRow base e size (.slice a' (n + m) cap') (n + m) (xs ++ news) → AppPart w w' (.slice ao n cap) (.slice a' (n + m) cap') n m → wpList P ops Q rest (a.put o.dst (.slice a' (n + m) cap')) w') : wpList P ops Q (o :: rest) a w := by
 have hlen := hown.1
 have grow : cap < n + m → wpList P ops Q (o :: rest) a w := fun hfull => by
  refine wpList_append_grows w hgd s x t ho e i z size bytes ht hi hz hsize hby hzs hsz ao n cap xs hs ?_ hlen ?_ ad m c news hx hl hnews h1 hfull h63 hbytes fun v' w' hr hg => ?_
  ·intro e0
   rcases hown.2 with ⟨hv, h0⟩ | ⟨g, cp, cur, hv, _⟩
   ·injection hv with h1 h2 h3; exact ⟨h0, h3⟩
   ·injection hv with h1 h2 h3; rw [e0] at h1; cases h1
  ·intro b hb j u hj
   rcases hown.2 with ⟨hv, h0⟩ | ⟨g, cp, cur, hv, _, hgr, _, _, hcs, htk⟩
   ·injection hv with h1 h2 h3; rw [hb] at h1; cases h1
   ·injection hv with h1 h2 h3
    rw [hb] at h1
    injection h1 with h1
    subst h1
    have hadd : (⟨g, 0, none⟩ : Addr).add j = ⟨g, j, none⟩ := by unfold Addr.add; split <;> simp_all
    rw [hadd, cell_of_row w g j cur e (0, 0) hgr]
    rw [← htk, List.getElem?_take] at hj
    split at hj
    ·simpa using hj
    ·cases hj
  ·obtain ⟨g, cp, rfl, hge, _⟩ := hr.form (by omega)
   refine h _ _ _ (zaf hr hbase) (.inr ⟨g, cp, rfl, hge, hg, fun a0 c0 e0 => ?_⟩)
   injection e0 with _ _ e3
   omega
 rcases hown.2 with ⟨hv, h0⟩ | ⟨g, cp, cur, hv, hbg, hgr, hnc, hcm, hcs, htk⟩
 ·injection hv with _ _ h3
  exact grow (by omega)
 ·injection hv with h1 h2 h3
  subst h1 h3
  by_cases hroom : n + m ≤ cap
  ·exact wpList_append_own_spare w hgd s x t ho base e i size ht hi hsize g n cap xs hs hown ad m c news hx hl hnews h1 hroom fun w' hr hg => h _ _ _ hr (.inl ⟨g, cap, rfl, rfl, hroom, hg⟩)
  ·exact grow (by omega)
def rep (mk : List Value) (n : Nat) : List Value := (List.replicate n ()).flatMap fun _ => mk
theorem znz (mk : List Value) (n : Nat) : (rep mk n).length = n * mk.length := by
 induction n with
 | zero => simp [rep]
 | succ n ih => rw [rep, List.replicate_succ, List.flatMap_cons, List.length_append]; rw [rep] at ih; rw [ih, Nat.succ_mul]; omega
theorem zmw (mk : List Value) (n m : Nat) : rep mk (n + m) = rep mk n ++ rep mk m := by
 rw [rep, ← List.replicate_append_replicate, List.flatMap_append]; rfl
theorem rep_take (mk : List Value) {j n : Nat} (h : j ≤ n) : (rep mk n).take (j * mk.length) = rep mk j := by
 obtain ⟨d, rfl⟩ := Nat.exists_eq_add_of_le h
 rw [zmw, List.take_append_of_le_length (by rw [znz]; exact Nat.le_refl _), List.take_of_length_le (by rw [znz]; exact Nat.le_refl _)]
def Lm (w : World) (base : Nat) (e : TypeId) (mk : List Value) (v : Value) (n : Nat) : Prop := w.ownsRow base e mk.length v n (rep mk n)
theorem Lm.pre {w : World} {base : Nat} {e : TypeId} {mk : List Value} {a : Option Addr} {k cap : Nat} (h : Lm w base e mk (.slice a k cap) k) {j : Nat} (hj : j ≤ k) (h0 : 0 < k) : Lm w base e mk (.slice a j cap) j := by
 refine ⟨znz mk j, ?_⟩
 rcases h.2 with ⟨_, h1⟩ | ⟨g, cp, cur, hv, hb, hg, hn, hc, hs, ht⟩
 ·omega
 ·injection hv with h1 h2 h3
  subst h1 h3
  refine .inr ⟨g, cap, cur, rfl, hb, hg, by omega, hc, hs, ?_⟩
  rw [← rep_take mk hj, ← ht, List.take_take, Nat.min_eq_left (Nat.mul_le_mul_right _ hj)]
theorem Lm.kept {B : List Nat} {w w' : World} {base : Nat} {e : TypeId} {mk : List Value} {v : Value} {n : Nat} (h : Lm w base e mk v n) (k : Kept B w w') (hB : ∀ g, v.ownBlock = some g → g ∉ B) : Lm w' base e mk v n :=
 zbb h (fun g hg => k.block g (h.lt g hg).2 (hB g hg))
theorem Lm.cap {w : World} {base : Nat} {e : TypeId} {mk : List Value} {a : Option Addr} {n cap : Nat} (h : Lm w base e mk (.slice a n cap) n) : n ≤ cap ∧ (a = none → cap = 0) := by
 rcases h.2 with ⟨hv, h1⟩ | ⟨g, cp, cur, hv, hb, hg, hn, hc, hs, ht⟩
 ·injection hv with h2 h3 h4; exact ⟨by omega, fun _ => h4⟩
 ·injection hv with h2 h3 h4; exact ⟨by omega, fun e => by rw [e] at h2; cases h2⟩
theorem AppPart.kept {w w' : World} {v v' : Value} {n m : Nat} (h : AppPart w w' v v' n m) : Kept v.ownBlock.toList w w' := by
 rcases h with ⟨g, cap, rfl, _, _, hg⟩ | ⟨g, cap, _, _, hg, _⟩
 ·exact Kept.of_grown hg
 ·exact (Kept.of_grown hg).mono (by simp)
theorem AppPart.first {w w' : World} {base : Nat} {e : TypeId} {mk : List Value} {a : Option Addr} {cap : Nat} {v' : Value} {n m : Nat} (h : AppPart w w' (.slice a n cap) v' n m) (hm : 0 < m) (h1 : Lm w base e mk (.slice a n cap) n) (h2 : Lm w' base e mk v' (n + m)) : Lm w' base e mk (.slice a n cap) n := by
 rcases h with ⟨g, cp, hv, rfl, hr, hg⟩ | ⟨g, cp, _, _, hg, _⟩
 ·injection hv with e1 e2 e3
  subst e1 e3
  exact h2.pre (by omega) (by omega)
 ·exact h1.kept (Kept.of_grown hg) (by simp)
theorem AppPart.other {w0 w1 w w' : World} {base : Nat} {e : TypeId} {mk : List Value} {a : Option Addr} {cap : Nat} {v1 : Value} {n m M : Nat} (h : AppPart w0 w1 (.slice a n cap) v1 n m) (hm : 0 < m) (h0 : Lm w0 base e mk (.slice a n cap) n) (h1 : Lm w base e mk v1 (n + m)) (k : Kept (Value.slice a n cap).ownBlock.toList w w') (hM : Lm w' base e mk (.slice a M cap) M) (hmm : n + m ≤ M ∨ M = cap) : Lm w' base e mk v1 (n + m) := by
 rcases h with ⟨g, cp, hv, rfl, hr, hg⟩ | ⟨g, cp, rfl, hge, hg, _⟩
 ·injection hv with e1 e2 e3
  subst e1 e3
  exact hM.pre (by omega) (by omega)
 ·refine h1.kept k (fun g' e' hm' => ?_)
  have e2 : g = g' := by simpa [Value.ownBlock] using e'
  have := (h0.lt g' (by simpa using hm')).2
  omega
theorem blk_slice (a : Option Addr) (n c m d : Nat) : (Value.slice a n c).ownBlock = (Value.slice a m d).ownBlock := by cases a <;> rfl
structure Grow (w2 : World) (base : Nat) (e : TypeId) (mk : List Value) (a : Option Addr) (n cap i : Nat) (v3 : Value) (w : World) : Prop where
 lm : Lm w base e mk v3 (n + i)
 kept : Kept (Value.slice a n cap).ownBlock.toList w2 w
 at_ : v3 = .slice a (n + i) cap ∨ ((∀ g, v3.ownBlock = some g → w2.heap.size ≤ g) ∧ Lm w base e mk (.slice a cap cap) cap)
theorem Grow.one {w2 w w' : World} {base : Nat} {e : TypeId} {mk : List Value} {a a3 : Option Addr} {n cap c3 i : Nat} {v4 : Value} (h : Grow w2 base e mk a n cap i (.slice a3 (n + i) c3) w) (h0 : Lm w2 base e mk (.slice a n cap) n) (hp : AppPart w w' (.slice a3 (n + i) c3) v4 (n + i) 1) (h4 : Lm w' base e mk v4 (n + i + 1)) : Grow w2 base e mk a n cap (i + 1) v4 w' := by
 have hk := hp.kept
 have hsz := h.kept.size
 rcases h.at_ with he | ⟨hfar, hfull⟩
 ·injection he with e1 e2 e3
  subst e1 e3
  rw [blk_slice _ _ _ n c3] at hk
  refine ⟨h4, h.kept.trans hk, ?_⟩
  rcases hp with ⟨g, cp, hv, rfl, hr, hg⟩ | ⟨g, cp, rfl, hge, hg, hc⟩
  ·injection hv with e1 e2 e3
   subst e1 e3
   exact .inl rfl
  ·right
   have hcl := h.lm.cap
   have hcc := hc _ _ rfl
   have hce : c3 = n + i := by omega
   refine ⟨fun g' e' => ?_, ?_⟩
   ·have : g = g' := by simpa [Value.ownBlock] using e'
    omega
   ·have := h.lm.kept (Kept.of_grown hg) (by simp)
    rw [← hce] at this
    exact this
 ·have far : ∀ g, (Value.slice a cap cap).ownBlock = some g → g ∉ (Value.slice a3 (n + i) c3).ownBlock.toList := fun g hg hm => by
   have h1 := hfar g (by simpa using hm)
   have h2 := (h0.lt g (by cases a with | none => cases hg | some _ => exact hg)).2
   omega
  refine ⟨h4, h.kept.step hk (fun x hx => .inr (hfar x (by simpa using hx))) , .inr ⟨fun g' e' => ?_, hfull.kept hk far⟩⟩
  rcases hp with ⟨g, cp, hv, rfl, hr, hg⟩ | ⟨g, cp, rfl, hge, hg, hc⟩
  ·exact hfar g' (by rw [hv]; exact e')
  ·have : g = g' := by simpa [Value.ownBlock] using e'
   omega
theorem Grow.reach {w2 w : World} {base : Nat} {e : TypeId} {mk : List Value} {a : Option Addr} {n cap i : Nat} {v3 : Value} (h : Grow w2 base e mk a n cap i v3 w) : ∃ M, Lm w base e mk (.slice a M cap) M ∧ (n + i ≤ M ∨ M = cap) := by
 rcases h.at_ with he | ⟨_, hf⟩
 ·exact ⟨n + i, by rw [← he]; exact h.lm, .inl (Nat.le_refl _)⟩
 ·exact ⟨cap, hf, .inr rfl⟩
end
section
open Go.RowKit
structure MB where
 l : Value
 one : Value
 two : Value
 three : Value
 mark : Nat
def MB.cells (m : MB) : List Value := [m.l, m.one, m.two, m.three, .int .i64 (m.mark : Nat)]
def MB.blocks (m : MB) : List Nat := m.l.ownBlock.toList ++ m.one.ownBlock.toList ++ m.two.ownBlock.toList ++ m.three.ownBlock.toList
structure MarkF (w : World) (e : TypeId) (mk : List Value) (m : MB) : Prop where
 few : m.mark ≤ 1000000000
 each : ∃ n, n ≤ 1000 ∧ Lm w 0 e mk m.l n ∧ Lm w 0 e mk m.one (n + 1) ∧ Lm w 0 e mk m.two (n + 2) ∧ Lm w 0 e mk m.three (n + 64)
theorem Lm.notT {w : World} {base : Nat} {e : TypeId} {mk : List Value} {v : Value} {n g : Nat} (h : Lm w base e mk v n) (hg : v.ownBlock = some g) : ¬ NotT w e g := by
 intro hn
 rcases h.2 with ⟨hv, _⟩ | ⟨g', cp, cur, hv, _, hgr, _⟩
 ·rw [hv] at hg; cases hg
 ·rw [hv] at hg
  have : g' = g := by simpa [Value.ownBlock] using hg
  subst this
  exact hn _ _ hgr
theorem Lm.keptB {B : List Nat} {w w' : World} {base : Nat} {e : TypeId} {mk : List Value} {v : Value} {n : Nat} (h : Lm w base e mk v n) (k : Kept B w w') (hB : ∀ x ∈ B, NotT w e x ∨ x ∉ v.ownBlock.toList) : Lm w' base e mk v n :=
 h.kept k fun g hg hm => by
  rcases hB g hm with h1 | h1
  ·exact h.notT hg h1
  ·exact h1 (by simpa using hg)
theorem MarkF.kept {B : List Nat} {w w' : World} {e : TypeId} {mk : List Value} {m : MB} (h : MarkF w e mk m) (k : Kept B w w') (hB : ∀ x ∈ B, NotT w e x ∨ x ∉ m.blocks) : MarkF w' e mk m := by
 obtain ⟨n, hn, h1, h2, h3, h4⟩ := h.each
 have sub : ∀ (v : Value), (∀ x ∈ v.ownBlock.toList, x ∈ m.blocks) → ∀ x ∈ B, NotT w e x ∨ x ∉ v.ownBlock.toList := fun v hv x hx => (hB x hx).imp id fun hn hm => hn (hv x hm)
 refine ⟨h.few, n, hn, h1.keptB k (sub _ ?_), h2.keptB k (sub _ ?_), h3.keptB k (sub _ ?_), h4.keptB k (sub _ ?_)⟩
 all_goals (intro x hx; simp only [MB.blocks, List.mem_append]; simp [hx])
theorem MarkF.lt {w : World} {e : TypeId} {mk : List Value} {m : MB} (h : MarkF w e mk m) : ∀ g ∈ m.blocks, g < w.heap.size := by
 obtain ⟨n, hn, h1, h2, h3, h4⟩ := h.each
 intro g hg
 simp only [MB.blocks, List.mem_append] at hg
 rcases hg with ((hg | hg) | hg) | hg
 ·exact (h1.lt g (by simpa using hg)).2
 ·exact (h2.lt g (by simpa using hg)).2
 ·exact (h3.lt g (by simpa using hg)).2
 ·exact (h4.lt g (by simpa using hg)).2
structure BookIn (w : World) (base : Nat) (tB e : TypeId) (mk : Nat → List Value) (v : Value) (ms : List MB) : Prop where
 row : w.ownsRow base tB 5 v ms.length (ms.flatMap MB.cells)
 each : ∀ m ∈ ms, MarkF w e (mk m.mark) m
theorem BookIn.nil (w : World) (base : Nat) (tB e : TypeId) (mk : Nat → List Value) : BookIn w base tB e mk (.slice none 0 0) [] := ⟨World.ownsRow_nil _ _ _ _, by simp⟩
theorem BookIn.kept {B : List Nat} {w w' : World} {base : Nat} {tB e : TypeId} {mk : Nat → List Value} {v : Value} {ms : List MB} (h : BookIn w base tB e mk v ms) (k : Kept B w w') (h1 : ∀ x ∈ B, x < base ∨ NotT w tB x) (h2 : ∀ x ∈ B, NotT w e x ∨ ∀ m ∈ ms, x ∉ m.blocks) : BookIn w' base tB e mk v ms :=
 ⟨zbq h.row k h1, fun m hm => (h.each m hm).kept k fun x hx => (h2 x hx).imp id fun f => f m hm⟩
theorem BookIn.below {w w' : World} {base : Nat} {tB e : TypeId} {mk : Nat → List Value} {v : Value} {ms : List MB} (h : BookIn w base tB e mk v ms) (k : Below w.heap.size w w') : BookIn w' base tB e mk v ms :=
 h.kept (B := []) ((Kept.refl [] w).of_below k) (by simp) (by simp)
theorem BookIn.add {w2 w3 : World} {base : Nat} {tB e : TypeId} {mk : Nat → List Value} {v v' : Value} {ms : List MB} {m : MB} {b : Nat} (h : BookIn w2 base tB e mk v ms) (hm : MarkF w2 e (mk m.mark) m) (k : Kept (b :: v.ownBlock.toList) w2 w3) (hown : w3.ownsRow base tB 5 v' (ms.length + 1) (ms.flatMap MB.cells ++ m.cells)) (hb : NotT w2 e b) (hne : tB ≠ e) : BookIn w3 base tB e mk v' (ms ++ [m]) := by
 have hB : ∀ x ∈ b :: v.ownBlock.toList, NotT w2 e x := fun x hx => by
  rcases List.mem_cons.1 hx with rfl | hx
  ·exact hb
  ·exact zaz h.row hne x hx
 refine ⟨?_, fun y hy => ?_⟩
 ·rw [List.length_append, List.flatMap_append]; simpa using hown
 ·rcases List.mem_append.1 hy with hy | hy
  ·exact (h.each y hy).kept k fun x hx => .inl (hB x hx)
  ·rw [List.mem_singleton.1 hy]; exact hm.kept k fun x hx => .inl (hB x hx)
end
section
open Go.RowKit
theorem infoAtom : (Tryz.prog.info? 243).map (fun i => (i.zero, i.size, i.bytes)) = some (some (.agg #[.string { data := #[] }, .slice none 0 0, .bool false, .int .i64 0, .int .i64 0]), 5, 64) := by kernel_rfl
theorem lit_cell (w1 : World) (o : Obj) (A : RAtom) (tv : Value) (j : Nat) (u : Value) (h : (A.cells tv)[j]? = some u) : ((w1.alloc o).alloc (Obj.cells #[Value.string A.pred, tv, Value.bool A.no, Value.int IntKind.i64 ↑A.at_, Value.int IntKind.i64 ↑A.noAt] 243)).cell? ((⟨w1.heap.size + 1, 0, none⟩ : Addr).add j) = some u := by
 have e : (⟨w1.heap.size + 1, 0, none⟩ : Addr).add j = ⟨w1.heap.size + 1, j, none⟩ := by unfold Addr.add; split <;> simp_all
 rw [e, World.cell?_alloc_at _ _ _ _ (by simp)]
 simpa [RAtom.cells] using h
theorem lit_one (A : RAtom) (a : Option Addr) (n c : Nat) : ∀ u ∈ A.cells (.slice a n c), u.oneCell' = true := by
 intro u hu; simp [RAtom.cells] at hu; rcases hu with rfl | rfl | rfl | rfl | rfl <;> rfl
theorem body_yes {c : Bool} {X D E : List RAtom × Nat × Int} (h : X = if c then D else E) (hm : c = true) : X = D := by rw [hm] at h; simpa using h
theorem body_no {c : Bool} {X D E : List RAtom × Nat × Int} (h : X = if c then D else E) (hm : c = false) : X = E := by rw [hm] at h; simpa using h
def zes (H : RAtom) (hv bv : Value) : Value := .agg #[.string H.pred, hv, .bool H.no, .int .i64 H.at_, .int .i64 H.noAt, bv]
set_option maxRecDepth 100000 in
theorem rule_any (s : ByteArray) (pos : Nat) (bad : Int) (b : Nat) (w : World) (h : Pars w b s pos bad) (hpos : pos ≤ s.size) (hs : s.size ≤ maxLen) :
  Calls Tryz.prog 125 #[.pointer (some ⟨b, 0, none⟩)] w fun e w' => ∃ hv bs bv, e = .returned (zes (zah s pos bad) hv bv) ∧ Kept [b] w w' ∧ Pars w' b s (zeu s pos bad) (zcq s pos bad) ∧ zeu s pos bad ≤ s.size ∧ RuleIn w' w.heap.size ⟨zah s pos bad, (zcr s pos bad).1⟩ hv bs bv := by
 have h' := h
 obtain ⟨i0, hi, hz0, hz1, hz2⟩ := info_parts infoAtom
 obtain ⟨hlt, c0, c1, c2, c3, c4, c5, fz⟩ := h
 go_enter Tryz.func125, Tryz.ntmps125
 go_wp2_with fail
 refine (zig s pos bad b _ (h'.kept ((Kept.refl [] _).alloc _) (by simp)) hpos hs).mono ?_
 rintro e w1 ⟨hv, rfl, hk1, hp1, hl1, hown1⟩
 have hst0 := rule_start hlt hk1 hp1 hl1 (by simpa using hown1)
 obtain ⟨a0, cap0, rfl⟩ := zac hown1
 clear c0 c1 c2 c3 c4 c5 fz h' hp1 hk1 hown1
 have hbody : zcr s pos bad = _ := zcr.eq_1 s pos bad
 have HB := hide hbody
 clear hbody
 go_wp2_with fail
 refine (zds s _ _ _ b _ hst0.pars hst0.hp hs).mono ?_
 rintro e w2 ⟨rfl, hk2, hp2⟩
 have hst := hst0.call hk2 hp2 (zcd hl1)
 clear hk2 hp2 hst0
 generalize zbz s (zag s pos bad).2.1 (zag s pos bad).2.2 { data := #[58, 45] } = p3 at *
 generalize zb9 s (zag s pos bad).2.1 (zag s pos bad).2.2 { data := #[58, 45] } = b3 at *
 generalize isS s (zag s pos bad).2.1 (zag s pos bad).2.2 { data := #[58, 45] } = o3 at *
 go_wp2_with fail
 go_loopg [4] 6 (fun g op wr => ∃ (bs : List (RAtom × Value)) (p : Nat) (bd : Int) (o : Bool) (bv : Value), op = .bool o ∧ (o = true → bs.length ≤ 3) ∧ (if o then 6 - bs.length else 0) ≤ g ∧ RuleInv w b w1.heap.size s (zah s pos bad) (.slice a0 (zag s pos bad).fst.length cap0) bs p bd bv wr ∧ zcr s pos bad = (if o then ze1 s (4 - (bs.map (·.1)).length) p bd (bs.map (·.1)) else (bs.map (·.1), p, bd)))
 case atStart => exact ⟨[], p3, b3, o3, _, rfl, by simp, by split <;> simp, hst, zaa HB⟩
 case round =>
  clear HB hst
  obtain ⟨bs, p, bd, o, bv, rfl, hl3, hg, hinv, hfin⟩ := hrel
  have HF := hide hfin
  clear hfin
  obtain ⟨a1, cap1, rfl⟩ := zac hinv.own
  have hpl := hinv.hp
  have hsz := hinv.sz
  cases o with
  | false =>
   clear hl3
   have hF : zcr s pos bad = (bs.map (·.1), p, bd) := zaa HF
   have HF' := hide hF
   clear hF HF
   go_wp2_with fail
   refine (zd8 s _ _ _ b _ hinv.pars hpl hs).mono ?_
   rintro e w9 ⟨rfl, hk9, hp9⟩
   have hinv9 := hinv.call hk9 hp9 (zam _ _ _ hpl)
   obtain ⟨x0, x1, x2, x3, x4, x5, xf⟩ := hinv9.rc
   obtain ⟨y0, y1, y2, y3, y4, y5, yf⟩ := hinv9.zc
   clear hk9 hp9 hinv
   go_wp2_with fail
   obtain ⟨q0, q1, q2, q3, q4, q5⟩ := set6 y0 y1 y2 y3 y4 y5 (.string (zah s pos bad).pred) (.slice a0 (zag s pos bad).fst.length cap0) (.bool (zah s pos bad).no) (.int .i64 (zah s pos bad).at_) (.int .i64 (zah s pos bad).noAt) (.slice a1 bs.length cap1)
   have hend := hinv9.ends (kept6 w9 w.heap.size (.string (zah s pos bad).pred) (.slice a0 (zag s pos bad).fst.length cap0) (.bool (zah s pos bad).no) (.int .i64 (zah s pos bad).at_) (.int .i64 (zah s pos bad).noAt) (.slice a1 bs.length cap1))
   have eP : zeu s pos bad = zao s p (zbn s p bd { data := #[46] }) := by rw [zeu, zaa HF']
   have eB : zcq s pos bad = zan s p (zbn s p bd { data := #[46] }) := by rw [zcq, zaa HF']
   have eF : (zcr s pos bad).1 = bs.map (·.1) := by rw [zaa HF']
   refine bodyPost_ret (v := zes (zah s pos bad) (.slice a0 (zag s pos bad).fst.length cap0) (.slice a1 bs.length cap1)) (by simp [results, Tryz.results125, go_sem, zes, q0, q1, q2, q3, q4, q5]) rfl ⟨_, bs, _, rfl, ?_⟩
   rw [eP, eB, eF]
   exact hend
  | true =>
   have hl3' : bs.length ≤ 3 := hl3 rfl
   clear hl3
   have hst := bodyS_step s p bd (bs.map (·.1)) (by simpa using hl3')
   have hf2 := (show zcr s pos bad = ze1 s (4 - (bs.map (·.1)).length) p bd (bs.map (·.1)) from zaa HF).trans hst
   rw [List.length_map] at hf2
   have HF2 := hide hf2
   clear HF hst hf2
   have hlI : (bs.length : Int) ≤ 3 := by omega
   obtain ⟨x0, x1, x2, x3, x4, x5, xf⟩ := hinv.rc
   by_cases t3 : bs.length = 3
   ·have tb : zap s p bd bs.length = zdz s p bd := by simp [zap, t3]
    have t3' : ((bs.length : Int) == 3) = true := by simp; omega
    have TB := hide tb
    clear tb t3
    go_wp2_with fail
    refine (zd6 s p bd b _ hinv.pars).mono ?_
    rintro e w0 ⟨rfl, hk0, hp0⟩
    rw [← zaa TB] at hp0
    have hinv0 := hinv.call hk0 hp0 hpl
    have hsz := hinv0.sz
    clear hk0 hp0 x0 x1 x2 x3 x4 x5 xf
    go_wp2_with fail
    refine (lit_any s p (zap s p bd bs.length) b _ hinv0.pars hpl hs).mono ?_
    rintro e w3 ⟨tv, rfl, hk3, hp3, hl3, hown3⟩
    obtain ⟨a3, cap3, rfl⟩ := zac hown3
    have hinv3 := hinv0.call hk3 hp3 hl3
    obtain ⟨d0, d1, d2, d3, d4, d5, dfz⟩ := hinv3.rc
    have hownA := hinv3.own
    have hb2 : w1.heap.size < w3.heap.size := by have := hinv3.sz; omega
    clear hk3 hp3 hinv0
    unfold RAtom.val
    go_wp2_with (at_builtin; refine wpList_append_own _ rfl _ _ 244 rfl (w1.heap.size + 1) 243 i0 _ 5 64 Tryz.underlying244 hi hz0 hz1 hz2 rfl (by decide) _ _ _ rfl ((hownA.alloc _).alloc _) ⟨w3.heap.size + 1, 0, none⟩ 1 1 ((zbx s p (zap s p bd bs.length)).cells (.slice a3 (zbx s p (zap s p bd bs.length)).terms.length cap3)) rfl rfl (lit_cell w3 _ _ _) (lit_one _ _ _ _) (by unfold maxLen; omega) (by omega) (by simp; omega) ?_)
    intro v5 w5 hown5 hg5 hne5
    clear hne5
    obtain ⟨a5, cap5, rfl⟩ := zac hown5
    obtain ⟨hinv5, e0, e1, e2, e3, e4, e5, efz⟩ := hinv3.append (zaf hown3 hsz) hown5 hg5
    have hb5 : w1.heap.size < w5.heap.size := by have := hinv5.sz; simp at this; omega
    clear hown5 hg5 d0 d1 d2 d3 d4 d5 dfz hownA hinv3 hown3
    go_wp2_with fail
    refine (zds s _ _ _ b _ hinv5.pars hl3 hs).mono ?_
    rintro e w7 ⟨rfl, hk7, hp7⟩
    have hinv7 := hinv5.call hk7 hp7 (zcd hl3)
    clear hk7 hp7 hinv5 e0 e1 e2 e3 e4 e5 efz hb5
    cases hm : isS s (zav s p (zap s p bd bs.length)).1 (zav s p (zap s p bd bs.length)).2 { data := #[44] } with
    | true =>
     have hml := lit_more hl3' hm
     have HF3 := hide (body_yes (zaa HF2) hm)
     clear hm HF2
     go_wp2_with fail
     go_roundg (6 - (bs.length + 1))
     case measure => simp at hg ⊢; omega
     case rel => exact ⟨_, _, _, true, _, rfl, fun _ => by simp; omega, by simp, hinv7, by rw [List.map_append]; exact zaa HF3⟩
    | false =>
     have HF3 := hide (body_no (zaa HF2) hm)
     clear hm HF2
     go_wp2_with fail
     go_roundg 0
     case measure => simp at hg ⊢; omega
     case rel => exact ⟨_, _, _, false, _, rfl, by simp, by simp, hinv7, by rw [List.map_append]; exact zaa HF3⟩
   ·have tb : zap s p bd bs.length = bd := by simp [zap, t3]
    have t3' : ((bs.length : Int) == 3) = false := by simp; omega
    have TB := hide tb
    clear tb t3
    go_wp2_with fail
    have hinv0 : RuleInv w b w1.heap.size s (zah s pos bad) (.slice a0 (zag s pos bad).fst.length cap0) bs p (zap s p bd bs.length) (.slice a1 bs.length cap1) wr := by rw [zaa TB]; exact hinv
    clear x0 x1 x2 x3 x4 x5 xf
    refine (lit_any s p (zap s p bd bs.length) b _ hinv0.pars hpl hs).mono ?_
    rintro e w3 ⟨tv, rfl, hk3, hp3, hl3, hown3⟩
    obtain ⟨a3, cap3, rfl⟩ := zac hown3
    have hinv3 := hinv0.call hk3 hp3 hl3
    obtain ⟨d0, d1, d2, d3, d4, d5, dfz⟩ := hinv3.rc
    have hownA := hinv3.own
    have hb2 : w1.heap.size < w3.heap.size := by have := hinv3.sz; omega
    clear hk3 hp3 hinv0
    unfold RAtom.val
    go_wp2_with (at_builtin; refine wpList_append_own _ rfl _ _ 244 rfl (w1.heap.size + 1) 243 i0 _ 5 64 Tryz.underlying244 hi hz0 hz1 hz2 rfl (by decide) _ _ _ rfl ((hownA.alloc _).alloc _) ⟨w3.heap.size + 1, 0, none⟩ 1 1 ((zbx s p (zap s p bd bs.length)).cells (.slice a3 (zbx s p (zap s p bd bs.length)).terms.length cap3)) rfl rfl (lit_cell w3 _ _ _) (lit_one _ _ _ _) (by unfold maxLen; omega) (by omega) (by simp; omega) ?_)
    intro v5 w5 hown5 hg5 hne5
    clear hne5
    obtain ⟨a5, cap5, rfl⟩ := zac hown5
    obtain ⟨hinv5, e0, e1, e2, e3, e4, e5, efz⟩ := hinv3.append (zaf hown3 hsz) hown5 hg5
    have hb5 : w1.heap.size < w5.heap.size := by have := hinv5.sz; simp at this; omega
    clear hown5 hg5 d0 d1 d2 d3 d4 d5 dfz hownA hinv3 hown3
    go_wp2_with fail
    refine (zds s _ _ _ b _ hinv5.pars hl3 hs).mono ?_
    rintro e w7 ⟨rfl, hk7, hp7⟩
    have hinv7 := hinv5.call hk7 hp7 (zcd hl3)
    clear hk7 hp7 hinv5 e0 e1 e2 e3 e4 e5 efz hb5
    cases hm : isS s (zav s p (zap s p bd bs.length)).1 (zav s p (zap s p bd bs.length)).2 { data := #[44] } with
    | true =>
     have hml := lit_more hl3' hm
     have HF3 := hide (body_yes (zaa HF2) hm)
     clear hm HF2
     go_wp2_with fail
     go_roundg (6 - (bs.length + 1))
     case measure => simp at hg ⊢; omega
     case rel => exact ⟨_, _, _, true, _, rfl, fun _ => by simp; omega, by simp, hinv7, by rw [List.map_append]; exact zaa HF3⟩
    | false =>
     have HF3 := hide (body_no (zaa HF2) hm)
     clear hm HF2
     go_wp2_with fail
     go_roundg 0
     case measure => simp at hg ⊢; omega
     case rel => exact ⟨_, _, _, false, _, rfl, by simp, by simp, hinv7, by rw [List.map_append]; exact zaa HF3⟩
end
end Go.Proofs.YtldkpahaocjdpaaGreat
