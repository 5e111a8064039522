/-
  The law's load: one Load of the program and one of the document's answer, side by side: always true; the list of programs grows by one where the text is taken.
  Plain: the strata of both are one: the numbers, and the lists.
  Plain: what is known of a text that is taken.
  The law's world, plain: its programs' memory, which nothing that the law writes reaches; its book.
  A strings.Builder that the call has made: what copyCheck, WriteString and WriteByte do to it.
  The program's writing of rules: writeTerm, writeAtom, writeLiteral, writeRule, Write.
-/
import Derived.Test.YtldkpahaocjdpaaGreatQueriesT25
import Derived.Test.YtldkpahaocjdpaaGreatQueriesT18
import Derived.Test.YtldkpahaocjdpaaGreatQueriesT12
import Derived.Test.YtldkpahaocjdpaaGreatQueriesT03
import Derived.Lib.Builder
import Derived.Lib.AppendStr
import Derived.Lib.UnsafeStr
import Derived.Laws.Externs
import Derived.WalkKit
import Derived.OwnWalk
import Derived.Maps.AppendAt
import Derived.Lib.Hide
import Derived.Test.YtldkpahaocjdpaaGreatQueriesT22
set_option maxHeartbeats 16000000
namespace Go.Proofs.YtldkpahaocjdpaaGreat
section
open Go.RowKit
theorem infoProg : (Tryz.prog.info? 112).map (fun i => (i.zero, i.size, i.bytes)) = some (some (.agg #[.pointer none, .pointer none, .string { data := #[] }]), 3, 32) := by kernel_rfl
end
section
open Go.RowKit Go.Maps
theorem zo5 {ps : List (ByteArray × Nat)} {rs : List RRule} {f : Nat → Nat} (h : zgz ps rs f) : zgh (rs.map za7) (fun k => f (ixOf ps k)) := by
 intro R hR l hl
 obtain ⟨Q, hQ, rfl⟩ := List.mem_map.1 hR
 obtain ⟨A, hA, rfl⟩ := List.mem_map.1 hl
 exact h Q hQ A hA
theorem valid_of {ps : List (ByteArray × Nat)} {rs : List RRule} {g : ByteArray → Nat} (h : zgh (rs.map za7) g) (hall : zhd ps (rs.flatMap RRule.atoms)) : zgz ps rs (fun i => g (nmOf ps i)) := by
 intro R hR A hA
 have h1 := h (za7 R) (List.mem_map_of_mem hR) (zep A) (List.mem_map_of_mem hA)
 have a1 : 0 ≤ zak ps R.head.pred := hall _ (List.mem_flatMap.2 ⟨R, hR, List.mem_cons_self⟩)
 have a2 : 0 ≤ zak ps A.pred := hall _ (List.mem_flatMap.2 ⟨R, hR, List.mem_cons_of_mem _ hA⟩)
 unfold zin
 simp only [znj a1, znj a2]
 exact h1
theorem strata_eq {ps : List (ByteArray × Nat)} {rs : List RRule} {Sn : ByteArray → Nat} {Si : Nat → Nat} (hall : zhd ps (rs.flatMap RRule.atoms)) (hv : zgz ps rs Si) (hl : Low ps rs Si) (hvn : zgh (rs.map za7) Sn) (hln : LowN (rs.map za7) Sn) (k : ByteArray) (hk : 0 ≤ zak ps k) : Sn k = Si (ixOf ps k) := by
 refine Nat.le_antisymm (hln _ (zo5 hv) k) ?_
 have := hl _ (valid_of hvn hall) (ixOf ps k)
 simp only [znj hk] at this
 exact this
def Once (ps : List (ByteArray × Nat)) : Prop := (ps.map (·.1)).Nodup
theorem ix_out {nm : ByteArray} : ∀ {l : List (ByteArray × Nat)} {k : Nat}, zbr nm l k < 0 → ∀ p ∈ l, p.1 ≠ nm
 | [], _, _, p, hp => by cases hp
 | x :: r, k, h, p, hp => by
  rw [zbr] at h
  split at h
  ·omega
  ·rename_i hx
   rcases List.mem_cons.1 hp with rfl | hp
   ·exact fun e => hx (zce.2 e)
   ·exact ix_out h p hp
theorem once_meet {ps : List (ByteArray × Nat)} (h : Once ps) (nm : ByteArray) (n : Nat) : Once (zdj ps nm n) := by
 unfold zdj
 split
 ·rename_i hx
  unfold Once
  rw [List.map_append, List.nodup_append]
  refine ⟨h, by simp, fun a ha b hb e => ?_⟩
  obtain ⟨p, hp, rfl⟩ := List.mem_map.1 ha
  simp at hb
  exact ix_out hx p hp (e.trans hb)
 ·exact h
theorem zmf : ∀ (l ps : List (ByteArray × Nat)), Once ps → Once (zdn l ps)
 | [], _, h => h
 | x :: r, _, h => zmf r _ (once_meet h x.1 x.2)
theorem once_ix : ∀ {ps : List (ByteArray × Nat)}, Once ps → ∀ (i k : Nat) (hi : i < ps.length), zbr ps[i].1 ps k = (k + i : Nat)
 | [], _, i, _, hi => by simp at hi
 | x :: r, h, i, k, hi => by
  have hn := List.nodup_cons.1 h
  rw [zbr]
  cases i with
  | zero => rw [if_pos (by rw [List.getElem_cons_zero]; exact zce.2 rfl)]; simp
  | succ i =>
   have hi' : i < r.length := by simpa using hi
   have : ¬ (x.1.toList == ((x :: r)[i + 1]).1.toList) = true := fun e => hn.1 (List.mem_map.2 ⟨r[i], List.getElem_mem hi', by
    have := zce.1 e
    rw [List.getElem_cons_succ] at this
    exact this.symm⟩)
   rw [if_neg this, List.getElem_cons_succ, once_ix hn.2 i (k + 1) hi']
   omega
end
section
open Go.RowKit Go.Maps
theorem zmg : ∀ (l : List RAtom) (ps : List (ByteArray × Nat)), (za4 l ps).1 < 0 → zee (l.map fun A => (A.pred, A.terms.length)) ps ∧ (za4 l ps).2 = zdn (l.map fun A => (A.pred, A.terms.length)) ps
 | [], _, _ => ⟨trivial, rfl⟩
 | A :: r, ps, h => by
  rw [za4] at h ⊢
  split at h
  ·rename_i hb
   rw [if_pos hb]
   obtain ⟨h1, h2⟩ := zmg r _ h
   exact ⟨⟨hb, h1⟩, h2⟩
  ·exfalso; simp only at h; omega
theorem patoms_of (R : RRule) : zcs (za7 R) = R.atoms.map fun A => (A.pred, A.terms.length) := by
 simp [zcs, za7, RRule.atoms, zep]
theorem patoms_all (rs : List RRule) : (rs.map za7).flatMap zcs = (rs.flatMap RRule.atoms).map fun A => (A.pred, A.terms.length) := by
 induction rs with
 | nil => rfl
 | cons R r ih => rw [List.map_cons, List.flatMap_cons, List.flatMap_cons, List.map_append, ih, patoms_of]
theorem meetP_len (ps : List (ByteArray × Nat)) (nm : ByteArray) (n : Nat) : (zdj ps nm n).length ≤ ps.length + 1 := by
 unfold zdj; split <;> simp
theorem zot : ∀ (l ps : List (ByteArray × Nat)), (zdn l ps).length ≤ ps.length + l.length
 | [], _ => Nat.le_refl _
 | x :: r, ps => by
  have h1 := zot r (zdj ps x.1 x.2)
  have h2 := meetP_len ps x.1 x.2
  rw [zdn, List.length_cons]; omega
theorem prules_len (s : ByteArray) (f : Nat) : ∀ {p : Nat} {rs : List PRule} {ms : List PMen}, rs.length ≤ 30 → (zcy s f p rs ms).2.2.1.length ≤ 30 := by
 induction f with
 | zero => intro p rs ms h; exact h
 | succ f ih =>
  intro p rs ms h
  rw [zcy]
  split
  ·exact h
  ·split
   ·exact h
   ·split
    ·refine ih ?_
     rw [List.length_append, List.length_singleton]; omega
    ·exact h
theorem flat_len {α β : Type} (f : α → List β) (c : Nat) : ∀ (l : List α), (∀ x ∈ l, (f x).length ≤ c) → (l.flatMap f).length ≤ c * l.length
 | [], _ => Nat.zero_le _
 | x :: r, h => by
  have h1 := h x List.mem_cons_self
  have h2 := flat_len f c r fun y hy => h y (List.mem_cons_of_mem _ hy)
  rw [List.flatMap_cons, List.length_append, List.length_cons, Nat.mul_add, Nat.mul_one]; omega
structure Good (s : ByteArray) (rs : List PRule) (ps : List (ByteArray × Nat)) : Prop where
 rules : rs = (za8 s).1.map za7
 preds : ps = (zau s).2
 len : rs.length ≤ 30
 body : ∀ R ∈ rs, R.body.length ≤ 3
 pd : ∀ R ∈ rs, R.pd.size ≤ 800
 lpd : ∀ R ∈ rs, ∀ l ∈ R.body, l.pd.size ≤ 800
 agree : zee (rs.flatMap zcs) []
 met : zdn (rs.flatMap zcs) [] = ps
 few : ps.length ≤ 120
 all : zhd ps ((za8 s).1.flatMap RRule.atoms)
 once : Once ps
 some_ : ∃ f, zgh rs f ∧ ∀ k, f k ≤ 1000
theorem znm {s : ByteArray} (h : (zbi s).1 = true) : Good s (za6 s).2.2.1 (zau s).2 := by
 unfold zbi at h
 by_cases c0 : 800 < s.size
 ·rw [if_pos c0] at h; cases h
 rw [if_neg c0] at h
 by_cases c1 : 0 ≤ (za8 s).2.2
 ·rw [if_pos c1] at h; cases h
 rw [if_neg c1] at h
 by_cases c2 : 0 ≤ (zau s).1
 ·rw [if_pos c2] at h; cases h
 rw [if_neg c2] at h
 by_cases c3 : 0 ≤ za9 (za8 s).1
 ·rw [if_pos c3] at h; cases h
 rw [if_neg c3] at h
 by_cases c4 : 0 ≤ zb8 (zau s).2 (zb5 (zau s).2 (za8 s).1) (za8 s).1
 ·rw [if_pos c4] at h; cases h
 obtain ⟨e1, e2⟩ := zid s
 have hp : (za6 s).1 = true := by
  cases hq : (za6 s).1 with
  | true => rfl
  | false => exfalso; have := e2 hq; omega
 obtain ⟨_, er, _⟩ := e1 hp
 obtain ⟨o1, _⟩ := zlz s (by omega) hp
 have hlen : (za6 s).2.2.1.length ≤ 30 := prules_len s 31 (by simp)
 have hall : zhd (zau s).2 ((za8 s).1.flatMap RRule.atoms) := zgd _ c2
 obtain ⟨m1, m2⟩ := zmg ((za8 s).1.flatMap RRule.atoms) [] (by unfold zau at c2; omega)
 have hpa : (za6 s).2.2.1.flatMap zcs = ((za8 s).1.flatMap RRule.atoms).map fun A => (A.pred, A.terms.length) := by rw [er, patoms_all]
 have hmet : zdn ((za6 s).2.2.1.flatMap zcs) [] = (zau s).2 := by rw [hpa]; exact m2.symm
 have hfl := flat_len zcs 4 (za6 s).2.2.1 (fun R hR => by have := (o1 R hR).2.1; simp [zcs]; omega)
 have hml := zot ((za6 s).2.2.1.flatMap zcs) []
 rw [hmet] at hml
 have hfew : (zau s).2.length ≤ 120 := by rw [List.length_nil] at hml; omega
 obtain ⟨f, hf, hfb⟩ := zhk _ _ hall c4
 exact ⟨er, rfl, hlen, fun R hR => (o1 R hR).2.1, fun R hR => (o1 R hR).1, fun R hR => (o1 R hR).2.2, by rw [hpa]; exact m1, hmet, hfew, hall, by rw [← hmet]; exact zmf _ [] List.nodup_nil, ⟨fun k => f (ixOf (zau s).2 k), by rw [er]; exact zo5 hf, fun k => Nat.le_trans (hfb (ixOf (zau s).2 k)) (by omega)⟩⟩
theorem Good.named {s : ByteArray} {rs : List PRule} {ps : List (ByteArray × Nat)} (h : Good s rs ps) : ∀ R ∈ rs, (∃ n, zbk ps R.pd = some n) ∧ ∀ l ∈ R.body, ∃ n, zbk ps l.pd = some n := by
 intro R hR
 rw [h.rules] at hR
 obtain ⟨Q, hQ, rfl⟩ := List.mem_map.1 hR
 refine ⟨⟨_, (zly _ ps 0).2 (h.all _ (List.mem_flatMap.2 ⟨Q, hQ, List.mem_cons_self⟩))⟩, fun l hl => ?_⟩
 obtain ⟨A, hA, rfl⟩ := List.mem_map.1 hl
 exact ⟨_, (zly _ ps 0).2 (h.all _ (List.mem_flatMap.2 ⟨Q, hQ, List.mem_cons_of_mem _ hA⟩))⟩
end
section
open Go.RowKit
def Apart (C : List Nat) (w : World) (F : World → Nat → Prop) : Prop := ∃ w0 lo, Kept (List.range lo) w0 w ∧ (∀ c ∈ C, c < lo ∨ w0.heap.size ≤ c) ∧ F w0 lo
theorem Apart.step {C C' D : List Nat} {w w' : World} {F : World → Nat → Prop} (h : Apart C w F) (k : Kept D w w') (hD : ∀ d ∈ D, d ∈ C ∨ w.heap.size ≤ d) (hC : ∀ c ∈ C', c ∈ C ∨ w.heap.size ≤ c) : Apart C' w' F := by
 obtain ⟨w0, lo, k0, h0, hF⟩ := h
 have hs := k0.size
 refine ⟨w0, lo, k0.step k (fun x hx => ?_), fun c hc => ?_, hF⟩
 ·rcases hD x hx with h | h
  ·rcases h0 x h with h | h
   ·exact .inl (List.mem_range.2 h)
   ·exact .inr h
  ·exact .inr (by omega)
 ·rcases hC c hc with h | h
  ·exact h0 c h
  ·exact .inr (by omega)
structure EntF (s : ByteArray) (xb yb : Nat) (w : World) (lo : Nat) : Prop where
 ok : (zbi s).1 = true
 x : ∃ rs : List PR, ProgIn w lo xb rs ∧ rs.map (·.R) = (za6 s).2.2.1
 y : ∃ (rs : List RR) (ps : List (ByteArray × Nat)) (rv pv tv : Value) (gs : Nat) (S : Nat → Nat), lo ≤ yb ∧ yb < gs ∧ PMem w yb rs ps rv pv tv (.slice (some ⟨gs, 0, none⟩) ps.length ps.length) ∧ SRow w gs ps.length S ∧ zgz ps (rs.map (·.R)) S ∧ Low ps (rs.map (·.R)) S ∧ rs.map (·.R) = (za8 s).1 ∧ ps = (zau s).2 ∧ zhd ps ((za8 s).1.flatMap RRule.atoms)
theorem ProgIn.keptR {w w' : World} {lo b : Nat} {rs : List PR} (h : ProgIn w lo b rs) (k : Kept (List.range lo) w w') : ProgIn w' lo b rs := by
 obtain ⟨a, c, hb, hlo, hr⟩ := h
 exact ⟨a, c, za1 hb k (fun x hx => .inl (by have := List.mem_range.1 hx; omega)), hlo, hr.keptT k (fun x hx => .inl (List.mem_range.1 hx))⟩
theorem SRow.keptB {B : List Nat} {w w' : World} {gs n : Nat} {S : Nat → Nat} (h : SRow w gs n S) (k : Kept B w w') (hB : gs ∉ B) : SRow w' gs n S :=
 ⟨Nat.lt_of_lt_of_le h.sz k.size, fun i hi => (k.cell (p := ⟨gs, i, none⟩) h.sz hB).trans (h.cell i hi), fun j => (k.frozen (p := ⟨gs, j, none⟩) h.sz hB).trans (h.fz j)⟩
theorem EntF.kept {s : ByteArray} {xb yb : Nat} {w w' : World} {lo : Nat} (h : EntF s xb yb w lo) (k : Kept (List.range lo) w w') : EntF s xb yb w' lo := by
 obtain ⟨rs, hp, hr⟩ := h.x
 obtain ⟨rs', ps, rv, pv, tv, gs, S, h1, h2, h3, h4, h5⟩ := h.y
 exact ⟨h.ok, ⟨rs, hp.keptR k, hr⟩, rs', ps, rv, pv, tv, gs, S, h1, h2, PMem2.kept h3 k (fun x hx => by have := List.mem_range.1 hx; omega), h4.keptB k (fun hm => by have := List.mem_range.1 hm; omega), h5⟩
theorem Apart.ent {C : List Nat} {s : ByteArray} {xb yb : Nat} {w : World} (h : Apart C w (EntF s xb yb)) : ∃ lo, EntF s xb yb w lo := by
 obtain ⟨w0, lo, k0, _, hF⟩ := h
 exact ⟨lo, hF.kept k0⟩
structure PE where
 x : Nat
 y : Nat
 s : ByteArray
def PE.cells (p : PE) : List Value := [.pointer (some ⟨p.x, 0, none⟩), .pointer (some ⟨p.y, 0, none⟩), .string p.s]
def mkB (n : Nat) : List Value := [.int .u8 (n % 251 : Nat)]
def mkT (n : Nat) : List Value := [.string { data := #[35, UInt8.ofNat n, UInt8.ofNat (n / 256)] }]
structure LW (w : World) (b : Nat) (psv bv tv sv : Value) (es : List PE) (mb mt ms : List MB) : Prop where
 blk : w.heap[b]? = some (.cells #[psv, bv, tv, sv] 69 (0, 0))
 row : w.ownsRow (b + 1) 112 3 psv es.length (es.flatMap PE.cells)
 ent : ∀ p ∈ es, Apart (b :: (psv.ownBlock.toList ++ bv.ownBlock.toList ++ tv.ownBlock.toList ++ sv.ownBlock.toList)) w (EntF p.s p.x p.y)
 bs : BookIn w (b + 1) 115 5 mkB bv mb
 ts : BookIn w (b + 1) 117 9 mkT tv mt
 ss : BookIn w (b + 1) 120 185 zjk sv ms
abbrev chg (b : Nat) (psv bv tv sv : Value) : List Nat := b :: (psv.ownBlock.toList ++ bv.ownBlock.toList ++ tv.ownBlock.toList ++ sv.ownBlock.toList)
theorem LW.lt {w : World} {b : Nat} {psv bv tv sv : Value} {es : List PE} {mb mt ms : List MB} (h : LW w b psv bv tv sv es mb mt ms) : b < w.heap.size := (Array.getElem?_eq_some_iff.1 h.blk).1
theorem LW.chg_lt {w : World} {b : Nat} {psv bv tv sv : Value} {es : List PE} {mb mt ms : List MB} (h : LW w b psv bv tv sv es mb mt ms) : ∀ x ∈ chg b psv bv tv sv, b ≤ x ∧ x < w.heap.size := by
 intro x hx
 rcases List.mem_cons.1 hx with rfl | hx
 ·exact ⟨Nat.le_refl _, h.lt⟩
 ·simp only [List.mem_append] at hx
  rcases hx with ((hx | hx) | hx) | hx
  ·have := h.row.lt x (by simpa using hx); omega
  ·have := h.bs.row.lt x (by simpa using hx); omega
  ·have := h.ts.row.lt x (by simpa using hx); omega
  ·have := h.ss.row.lt x (by simpa using hx); omega
theorem LW.below {w w' : World} {b : Nat} {psv bv tv sv : Value} {es : List PE} {mb mt ms : List MB} (h : LW w b psv bv tv sv es mb mt ms) (k : Below w.heap.size w w') : LW w' b psv bv tv sv es mb mt ms :=
 have k' : Kept [] w w' := (Kept.refl [] w).of_below k
 ⟨(k.block b h.lt).trans h.blk, zbq h.row k' (by simp), fun p hp => (h.ent p hp).step k' (by simp) (fun c hc => .inl hc), h.bs.below k, h.ts.below k, h.ss.below k⟩
theorem LW.start (w : World) (b : Nat) (h : w.heap[b]? = some (.cells #[.slice none 0 0, .slice none 0 0, .slice none 0 0, .slice none 0 0] 69 (0, 0))) : LW w b (.slice none 0 0) (.slice none 0 0) (.slice none 0 0) (.slice none 0 0) [] [] [] [] :=
 ⟨h, World.ownsRow_nil _ _ _ _, by simp, BookIn.nil _ _ _ _ _, BookIn.nil _ _ _ _ _, BookIn.nil _ _ _ _ _⟩
theorem LW.addP {w w2 W w5 : World} {b : Nat} {psv bv tv sv : Value} {es : List PE} {mb mt ms : List MB} (h : LW w b psv bv tv sv es mb mt ms) (hb : Below w.heap.size w w2) {p : PE} (hp : EntF p.s p.x p.y w2 w.heap.size)
  (hW : Kept [] w2 W) (hg : W.grownBy w5 psv.ownBlock) {a' : Option Addr} {c' : Nat} (hown : w5.ownsRow (b + 1) 112 3 (.slice a' (es.length + 1) c') (es.length + 1) (es.flatMap PE.cells ++ p.cells)) (hat : (Value.slice a' (es.length + 1) c').ownBlock = psv.ownBlock ∨ ∀ g, (Value.slice a' (es.length + 1) c').ownBlock = some g → W.heap.size ≤ g) :
  LW (w5.setCell ⟨b, 0, none⟩ (.slice a' (es.length + 1) c')) b (.slice a' (es.length + 1) c') bv tv sv (es ++ [p]) mb mt ms ∧ Kept (chg b psv bv tv sv) w (w5.setCell ⟨b, 0, none⟩ (.slice a' (es.length + 1) c')) ∧ w5.heap[b]? = some (.cells #[psv, bv, tv, sv] 69 (0, 0)) := by
 have h2 := h.below hb
 have k2 : Kept (b :: psv.ownBlock.toList) w2 (w5.setCell ⟨b, 0, none⟩ (.slice a' (es.length + 1) c')) := by
  refine Kept.setCell (p := ⟨b, 0, none⟩) ?_ (.inl List.mem_cons_self) _
  exact ((hW.mono (by simp)).trans ((Kept.of_grown hg).mono fun k hk => .inl (List.mem_cons_of_mem _ hk)))
 have k5 : Kept psv.ownBlock.toList w2 w5 := (hW.mono (by simp)).trans (Kept.of_grown hg)
 have hb5 : w5.heap[b]? = some (.cells #[psv, bv, tv, sv] 69 (0, 0)) :=
  za1 h2.blk k5 (fun x hx => .inr (zaz h2.row (by decide) x hx))
 have hsz := hW.size
 have hsb := hb.size
 have sub : ∀ x ∈ b :: psv.ownBlock.toList, x ∈ chg b psv bv tv sv := fun x hx => by
  rcases List.mem_cons.1 hx with rfl | hx
  ·exact List.mem_cons_self
  ·exact List.mem_cons_of_mem _ (by simp only [List.mem_append]; exact .inl (.inl (.inl hx)))
 have nt : ∀ (e : TypeId), 69 ≠ e → 112 ≠ e → ∀ x ∈ b :: psv.ownBlock.toList, NotT w2 e x := fun e e0 e1 x hx => by
  rcases List.mem_cons.1 hx with rfl | hx
  ·exact zfq h2.blk e0
  ·exact zaz h2.row e1 x hx
 have newC : ∀ c ∈ chg b (.slice a' (es.length + 1) c') bv tv sv, c ∈ chg b psv bv tv sv ∨ w2.heap.size ≤ c := fun c hc => by
  rcases List.mem_cons.1 hc with rfl | hc
  ·exact .inl List.mem_cons_self
  ·simp only [List.mem_append] at hc
   have rest : c ∈ bv.ownBlock.toList ∨ c ∈ tv.ownBlock.toList ∨ c ∈ sv.ownBlock.toList → c ∈ chg b psv bv tv sv := fun hr => List.mem_cons_of_mem _ (by simp only [List.mem_append]; rcases hr with hr | hr | hr <;> simp [hr])
   rcases hc with ((hc | hc) | hc) | hc
   ·rcases hat with e1 | e1
    ·rw [e1] at hc; exact .inl (sub c (List.mem_cons_of_mem _ hc))
    ·exact .inr (Nat.le_trans hsz (e1 c (by simpa using hc)))
   ·exact .inl (rest (.inl hc))
   ·exact .inl (rest (.inr (.inl hc)))
   ·exact .inl (rest (.inr (.inr hc)))
 refine ⟨⟨?_, ?_, fun q hq => ?_, h2.bs.kept k2 (fun x hx => .inr (nt _ (by decide) (by decide) x hx)) (fun x hx => .inl (nt _ (by decide) (by decide) x hx)), h2.ts.kept k2 (fun x hx => .inr (nt _ (by decide) (by decide) x hx)) (fun x hx => .inl (nt _ (by decide) (by decide) x hx)), h2.ss.kept k2 (fun x hx => .inr (nt _ (by decide) (by decide) x hx)) (fun x hx => .inl (nt _ (by decide) (by decide) x hx))⟩, ?_, hb5⟩
 ·unfold World.setCell
  simp only [Array.getElem?_modify, if_true, hb5]
  rfl
 ·rw [List.length_append, List.flatMap_append]
  have := ownsRow_setCell_below (a := ⟨b, 0, none⟩) hown (by simp) (.slice a' (es.length + 1) c')
  simpa using this
 ·rcases List.mem_append.1 hq with hq | hq
  ·exact (h2.ent q hq).step k2 (fun d hd => .inl (sub d hd)) newC
  ·rw [List.mem_singleton.1 hq]
   have h0 : Apart (chg b psv bv tv sv) w2 (EntF p.s p.x p.y) := ⟨w2, w.heap.size, Kept.refl _ _, fun c hc => .inl (h.chg_lt c hc).2, hp⟩
   exact h0.step k2 (fun d hd => .inl (sub d hd)) newC
 ·exact ((Kept.refl _ w).of_below hb).step k2 (fun x hx => .inl (sub x hx))
end
section
open Go.RowKit
theorem sizeBld : (Tryz.prog.info? 155).map (·.size) = some 2 := by kernel_rfl
theorem liesBld : liesAt Tryz.prog Tryz.prog.depth 155 (2 / Tryz.prog.cellsOf 155) 0 155 1 = true := by kernel_rfl
theorem zn3 : (Tryz.prog.info? 5).map (fun i => (i.zero, i.size, i.bytes)) = some (some (.int .u8 0), 1, 1) := by kernel_rfl
set_option maxRecDepth 100000 in
theorem copy_used (b : Nat) (w : World) (h0 : w.cell? ⟨b, 0, none⟩ = some (.pointer (some ⟨b, 0, none⟩))) :
  Calls Tryz.prog 169 #[.pointer (some ⟨b, 0, none⟩)] w fun e w' => e = .returned (.tuple #[]) ∧ w' = w := by
 obtain ⟨j, hj, _⟩ := Option.map_eq_some_iff.1 sizeBld
 go_enter Tryz.func169, Tryz.ntmps169
 go_wp2
 rw [Lib.run_neq_ptr_same w _ Tryz.underlying153 hj]
 go_wp2
 go_end0
 exact ⟨rfl, rfl⟩
set_option maxRecDepth 100000 in
theorem copy_fresh (b : Nat) (w : World) (h0 : w.cell? ⟨b, 0, none⟩ = some (.pointer none)) (hsh : w.shape? b = some (155, 2)) (hfz : w.frozen? ⟨b, 0, none⟩ = false) :
  Calls Tryz.prog 169 #[.pointer (some ⟨b, 0, none⟩)] w fun e w' => e = .returned (.tuple #[]) ∧ w' = w.setCell ⟨b, 0, none⟩ (.pointer (some ⟨b, 0, none⟩)) := by
 obtain ⟨j, hj, hjs⟩ := Option.map_eq_some_iff.1 sizeBld
 go_enter Tryz.func169, Tryz.ntmps169
 go_wp2
 rw [Lib.run_to_unsafe w ⟨b, 0, none⟩ Tryz.underlying153 Tryz.underlying349 hj (by rw [hjs]; decide) hsh (Nat.zero_lt_succ 1)]
 simp only [Result.andThen]
 rw [Oper.upon_value]
 go_wp2
 rw [run_callFunc_extern Tryz.func219 (by kernel_rfl) (by kernel_rfl) (by kernel_rfl) (e := Extern.AbiNoEscape.same) (by kernel_rfl)]
 rw [Lib.run_noEscape]
 simp only [Result.andThen]
 rw [Oper.upon_value]
 go_wp2
 rw [Lib.run_from_unsafe w ⟨b, 0, none⟩ Tryz.underlying349 Tryz.underlying153 hj hsh liesBld]
 simp only [Result.andThen]
 rw [Oper.upon_value]
 go_wp2
 go_end0
 exact ⟨rfl, rfl⟩
def KeepT (w w' : World) : Prop := ∀ (x : Nat) (c : Array Value) (e : TypeId) (fr : Nat × Nat), w.heap[x]? = some (.cells c e fr) → e ≠ 155 → e ≠ 5 → w'.heap[x]? = some (.cells c e fr)
theorem KeepT.refl (w : World) : KeepT w w := fun _ _ _ _ h _ _ => h
theorem KeepT.trans {a b c : World} (h : KeepT a b) (k : KeepT b c) : KeepT a c := fun x cc e fr hx h1 h2 => k x cc e fr (h x cc e fr hx h1 h2) h1 h2
theorem KeepT.alloc {a w : World} (h : KeepT a w) (o : Obj) : KeepT a (w.alloc o) := fun x c e fr hx h1 h2 => by
 have h3 := h x c e fr hx h1 h2
 rw [Below.heap_alloc _ _ _ (Array.getElem?_eq_some_iff.1 h3).1]
 exact h3
theorem KeepT.setCell {w : World} {b : Nat} {cs : Array Value} {fr : Nat × Nat} (hb : w.heap[b]? = some (.cells cs 155 fr)) (o : Nat) (v : Value) : KeepT w (w.setCell ⟨b, o, none⟩ v) := fun x c e fr' hx h1 _ => by
 rw [Below.heap_setCell _ _ _ _ (by
  intro h
  simp at h
  subst h
  rw [hb] at hx
  injection hx with hx
  injection hx with _ hx _
  exact h1 hx.symm)]
 exact hx
theorem KeepT.grown {w w1 : World} {B n : Nat} {v : Value} {xs : List Value} (hown : w.ownsRow B 5 1 v n xs) (hg : w.grownBy w1 v.ownBlock) : KeepT w w1 := fun x c e fr hx _ h2 => by
 rw [hg.block x (Array.getElem?_eq_some_iff.1 hx).1 (fun h => ?_)]
 ·exact hx
 ·rcases hown.2 with ⟨rfl, _⟩ | ⟨g, cap, cur, rfl, _, hgg, _⟩
  ·cases h
  ·injection h with h
   simp only at h
   subst h
   rw [hx] at hgg
   injection hgg with hgg
   injection hgg with _ hgg _
   exact h2 hgg
theorem KeepT.own {w w' : World} {base : Nat} {e : TypeId} {size : Nat} {v : Value} {n : Nat} {xs : List Value} (k : KeepT w w') (h : w.ownsRow base e size v n xs) (h1 : e ≠ 155) (h2 : e ≠ 5) : w'.ownsRow base e size v n xs := by
 refine ⟨h.1, ?_⟩
 rcases h.2 with hn | ⟨g, cap, cur, rfl, hb, hgg, rest⟩
 ·exact .inl hn
 ·exact .inr ⟨g, cap, cur, rfl, hb, k g _ _ _ hgg h1 h2, rest⟩
theorem zh4 (B b : Nat) (bs : List Value) (w : World) (h : Lib.IsBuilder 155 5 B b bs w) :
  Calls Tryz.prog 169 #[.pointer (some ⟨b, 0, none⟩)] w fun e w' => e = .returned (.tuple #[]) ∧ Lib.BuilderAt 155 5 B b (.pointer (some ⟨b, 0, none⟩)) bs w' ∧ Below B w w' ∧ KeepT w w' := by
 rcases h with h | h
 ·refine (copy_fresh b w h.cell0 h.shape h.frozen0).mono ?_
  rintro e w' ⟨rfl, rfl⟩
  obtain ⟨_, v, hb, _⟩ := id h
  exact ⟨rfl, h.used _, (Below.refl B w).setCell (p := ⟨b, 0, none⟩) h.1 _, KeepT.setCell hb 0 _⟩
 ·refine (copy_used b w h.cell0).mono ?_
  rintro e w' ⟨rfl, rfl⟩
  exact ⟨rfl, h, Below.refl B _, KeepT.refl _⟩
theorem zm8 (w1 : World) (x : Value) (ty : TypeId) (j : Nat) (u : Value) (h : ([x] : List Value)[j]? = some u) : (w1.alloc (Obj.cells #[x] ty)).cell? ((⟨w1.heap.size, 0, none⟩ : Addr).add j) = some u := cell_one_new w1 x ty j u h
theorem one_byte (c : Int) : ∀ u ∈ ([Value.int .u8 c] : List Value), u.oneCell' = true := by
 intro u hu; simp at hu; subst hu; rfl
def zc5 (l : List UInt8) : List Value := l.map fun b => Value.int .u8 b.toNat
theorem zpn (l : List UInt8) (s : ByteArray) : zc5 l ++ Lib.strCells s = zc5 (l ++ s.data.toList) := by simp [zc5, Lib.strCells]
theorem zph (l : List UInt8) (c : UInt8) : zc5 l ++ [Value.int .u8 c.toNat] = zc5 (l ++ [c]) := by simp [zc5]
theorem zi8 (l : List UInt8) : (zc5 l).length = l.length := by simp [zc5]
def Holds (B b : Nat) (l : List UInt8) (w : World) : Prop := Lib.IsBuilder 155 5 B b (zc5 l) w
set_option maxRecDepth 100000 in
theorem zms (B b : Nat) (l : List UInt8) (s : ByteArray) (w : World) (h : Holds B b l w) (hlen : l.length + s.size ≤ 140737488355328) (hBw : B ≤ w.heap.size) :
  Calls Tryz.prog 111 #[.pointer (some ⟨b, 0, none⟩), .string s] w fun e w' => e = .returned (.tuple #[.int .i64 s.size, .nilIface]) ∧ Holds B b (l ++ s.data.toList) w' ∧ Below B w w' ∧ KeepT w w' := by
 obtain ⟨i0, hi, hz0, hz1, hz2⟩ := info_parts zn3
 have hll := zi8 l
 go_enter Tryz.func111, Tryz.ntmps111
 go_wp2_with fail
 refine (zh4 B b (zc5 l) _ h).mono ?_
 rintro e w1 ⟨rfl, h1, hb1, hk1⟩
 obtain ⟨hB, v, hbk, hown, hne⟩ := h1
 have c0 : w1.cell? ⟨b, 0, none⟩ = some (.pointer (some ⟨b, 0, none⟩)) := by rw [Lib.cell_of_heap hbk]; rfl
 have c1 : w1.cell? ⟨b, 1, none⟩ = some v := by rw [Lib.cell_of_heap hbk]; rfl
 have hz := hb1.size
 go_wp2_with (at_builtin; refine Lib.wpList_append_own_string _ rfl _ _ 47 9 rfl B 5 i0 Tryz.underlying47 Tryz.underlying9 hi hz0 hz1 hz2 _ _ _ rfl hown s rfl (by unfold maxLen; omega) (by omega) (by omega) ?_)
 intro v' w2 hown' hgrow _
 have hlt : b < w1.heap.size := (Array.getElem?_eq_some_iff.1 hbk).1
 have hb2 : w2.heap[b]? = some (.cells #[.pointer (some ⟨b, 0, none⟩), v] 155 (0, 0)) := by
  rw [hgrow.block b hlt (fun e => hne e.symm)]
  exact hbk
 have d0 : w2.cell? ⟨b, 0, none⟩ = some (.pointer (some ⟨b, 0, none⟩)) := by rw [Lib.cell_of_heap hb2]; rfl
 have d1 : w2.cell? ⟨b, 1, none⟩ = some v := by rw [Lib.cell_of_heap hb2]; rfl
 have f1 : w2.frozen? ⟨b, 1, none⟩ = false := Lib.frozen_of_heap hb2 1
 obtain ⟨ao, n', cap, rfl⟩ : ∃ ao n' cap, v' = .slice ao n' cap := by
  rcases hown'.2 with ⟨hv, _⟩ | ⟨g, cap, cur, hv, _⟩
  ·exact ⟨_, _, _, hv⟩
  ·exact ⟨_, _, _, hv⟩
 have hput := Lib.BuilderAt.put (T := 155) (e := 5) hB hb2 (v' := .slice ao n' cap) (bs' := zc5 l ++ Lib.strCells s) (by rw [List.length_append, Lib.strCells_length, hll]; exact hown') (by decide)
 rw [zpn] at hput
 have HP := hide hput
 have HK := hide ((hk1.trans (KeepT.grown hown hgrow)).trans (KeepT.setCell hb2 1 (.slice ao n' cap)))
 have HB := hide ((hb1.grown hgrow (by omega) (fun k hk => (hown.lt k hk).1)).setCell (p := ⟨b, 1, none⟩) hB (.slice ao n' cap))
 clear hput hown' hgrow hb1 hown hbk hb2 c0 c1 hk1
 go_wp2_with fail
 go_ret2
 exact ⟨rfl, .inr (zaa HP), zaa HB, zaa HK⟩
set_option maxRecDepth 100000 in
theorem zjz (B b : Nat) (l : List UInt8) (c : UInt8) (w : World) (h : Holds B b l w) (hlen : l.length + 1 ≤ 140737488355328) (hBw : B ≤ w.heap.size) :
  Calls Tryz.prog 167 #[.pointer (some ⟨b, 0, none⟩), .int .u8 c.toNat] w fun e w' => e = .returned .nilIface ∧ Holds B b (l ++ [c]) w' ∧ Below B w w' ∧ KeepT w w' := by
 obtain ⟨i0, hi, hz0, hz1, hz2⟩ := info_parts zn3
 have hll := zi8 l
 go_enter Tryz.func167, Tryz.ntmps167
 go_wp2_with fail
 refine (zh4 B b (zc5 l) _ h).mono ?_
 rintro e w1 ⟨rfl, h1, hb1, hk1⟩
 obtain ⟨hB, v, hbk, hown, hne⟩ := h1
 have c0 : w1.cell? ⟨b, 0, none⟩ = some (.pointer (some ⟨b, 0, none⟩)) := by rw [Lib.cell_of_heap hbk]; rfl
 have c1 : w1.cell? ⟨b, 1, none⟩ = some v := by rw [Lib.cell_of_heap hbk]; rfl
 have hz := hb1.size
 go_wp2_with (at_builtin; refine wpList_append_own _ rfl _ _ 47 rfl B 5 i0 (.int .u8 0) 1 1 Tryz.underlying47 hi hz0 hz1 hz2 rfl (by decide) _ _ _ rfl (hown.alloc _) ⟨w1.heap.size, 0, none⟩ 1 1 [.int .u8 c.toNat] rfl rfl (zm8 w1 _ _) (one_byte _) (by unfold maxLen; omega) (by omega) (by simp; omega) ?_)
 intro v' w2 hown' hgrow _
 have hlt : b < w1.heap.size := (Array.getElem?_eq_some_iff.1 hbk).1
 have hb2 : w2.heap[b]? = some (.cells #[.pointer (some ⟨b, 0, none⟩), v] 155 (0, 0)) := by
  rw [hgrow.block b (by simp; omega) (fun e => hne e.symm), Below.heap_alloc _ _ _ hlt]
  exact hbk
 have d0 : w2.cell? ⟨b, 0, none⟩ = some (.pointer (some ⟨b, 0, none⟩)) := by rw [Lib.cell_of_heap hb2]; rfl
 have d1 : w2.cell? ⟨b, 1, none⟩ = some v := by rw [Lib.cell_of_heap hb2]; rfl
 have f1 : w2.frozen? ⟨b, 1, none⟩ = false := Lib.frozen_of_heap hb2 1
 obtain ⟨ao, n', cap, rfl⟩ : ∃ ao n' cap, v' = .slice ao n' cap := by
  rcases hown'.2 with ⟨hv, _⟩ | ⟨g, cap, cur, hv, _⟩
  ·exact ⟨_, _, _, hv⟩
  ·exact ⟨_, _, _, hv⟩
 have hput := Lib.BuilderAt.put (T := 155) (e := 5) hB hb2 (v' := .slice ao n' cap) (bs' := zc5 l ++ [.int .u8 c.toNat]) (by rw [List.length_append, hll]; exact hown') (by decide)
 rw [zph] at hput
 have HP := hide hput
 have HK := hide (((hk1.alloc _).trans (KeepT.grown (hown.alloc _) hgrow)).trans (KeepT.setCell hb2 1 (.slice ao n' cap)))
 have HB := hide (((hb1.alloc (by omega) _).grown hgrow (by simp; omega) (fun k hk => (hown.lt k hk).1)).setCell (p := ⟨b, 1, none⟩) hB (.slice ao n' cap))
 clear hput hown' hgrow hb1 hown hbk hb2 c0 c1 hk1
 go_wp2_with fail
 go_ret
 exact ⟨rfl, .inr (zaa HP), zaa HB, zaa HK⟩
end
section
open Go.RowKit
def zbh : List (Bool × ByteArray) → Nat → List UInt8
 | [], _ => []
 | t :: r, i => (if i = 0 then 40 else 44) :: (t.2.data.toList ++ zbh r (i + 1))
def zet (pd : ByteArray) (ts : List (Bool × ByteArray)) : List UInt8 := pd.data.toList ++ (zbh ts 0 ++ if ts.length = 0 then [] else [41])
theorem zqk {ts : List (Bool × ByteArray)} {k : Nat} (h : k < ts.length) : zbh (ts.drop k) k = (if k = 0 then 40 else 44) :: (ts[k].2.data.toList ++ zbh (ts.drop (k + 1)) (k + 1)) := by
 rw [List.drop_eq_getElem_cons h, zbh]
theorem zc0 (s : ByteArray) : s.data.toList.length = s.size := by rw [Array.length_toList]; rfl
theorem znx (W : World) (v : Value) : (Instr.typeAssert (.iface 130 v) 191 193 true).run Tryz.prog W = .ok (.tuple #[.string { data := #[] }, .bool false]) W := by kernel_rfl
def Wrote (B b : Nat) (w : World) (l : List UInt8) (e : Ending) (w' : World) : Prop := e = .returned (.tuple #[]) ∧ Holds B b l w' ∧ Below B w w' ∧ KeepT w w' ∧ B ≤ w'.heap.size
set_option maxRecDepth 100000 in
theorem zpg (B b : Nat) (l : List UInt8) (isV : Bool) (s : ByteArray) (w : World) (h : Holds B b l w) (hlen : l.length + s.size ≤ 140737488355328) (hBw : B ≤ w.heap.size) :
  Calls Tryz.prog 168 #[.pointer (some ⟨b, 0, none⟩), zfv isV s] w (Wrote B b w (l ++ s.data.toList)) := by
 have hay := zgg
 have han := znx
 have hnn := zfp
 unfold zfv
 cases isV with
 | true =>
  rw [if_pos rfl]
  go_enter Tryz.func168, Tryz.ntmps168
  go_wp2_with fail
  refine (zms B b l s _ h hlen hBw).mono ?_
  rintro e w1 ⟨rfl, h1, hb1, hk1⟩
  go_wp2_with fail
  go_end0
  exact ⟨rfl, h1, hb1, hk1, Nat.le_trans hBw hb1.size⟩
 | false =>
  rw [if_neg (by decide)]
  go_enter Tryz.func168, Tryz.ntmps168
  go_wp2_with fail
  refine (zms B b l s _ h hlen hBw).mono ?_
  rintro e w1 ⟨rfl, h1, hb1, hk1⟩
  go_wp2_with fail
  go_end0
  exact ⟨rfl, h1, hb1, hk1, Nat.le_trans hBw hb1.size⟩
theorem Holds.alloc {B b : Nat} {l : List UInt8} {w : World} (h : Holds B b l w) (o : Obj) : Holds B b l (w.alloc o) := by
 have key : ∀ p, Lib.BuilderAt 155 5 B b p (zc5 l) w → Lib.BuilderAt 155 5 B b p (zc5 l) (w.alloc o) := by
  rintro p ⟨hB, v, hb, hown, hne⟩
  exact ⟨hB, v, by rw [Below.heap_alloc _ _ _ (Array.getElem?_eq_some_iff.1 hb).1]; exact hb, hown.alloc o, hne⟩
 rcases h with h | h
 ·exact .inl (key _ h)
 ·exact .inr (key _ h)
set_option maxRecDepth 100000 in
theorem watom_any (B b : Nat) (l : List UInt8) (pd : ByteArray) (a : Option Addr) (c base : Nat) (ts : List (Bool × ByteArray)) (w : World) (h : Holds B b l w) (hown : w.ownsRow base 191 1 (.slice a ts.length c) ts.length (zbj ts)) (hlen : l.length + (zet pd ts).length ≤ 1000000000) (hBw : B ≤ w.heap.size) :
  Calls Tryz.prog 110 #[.pointer (some ⟨b, 0, none⟩), .agg #[.string pd, .slice a ts.length c]] w (Wrote B b w (l ++ zet pd ts)) := by
 have htm := zbt hown
 unfold maxLen at htm
 have hpl := zc0 pd
 have e0 : (zet pd ts).length = pd.size + ((zbh ts 0).length + (if ts.length = 0 then ([] : List UInt8) else [41]).length) := by simp only [zet, List.length_append, hpl]
 have hbx : (w.alloc (.cells #[.string pd, .slice a ts.length c] 79)).heap[w.heap.size]? = _ := heap_alloc_new w _
 have bA := (Below.refl w.heap.size w).alloc (Nat.le_refl _) (.cells #[.string pd, .slice a ts.length c] 79)
 have kA := (KeepT.refl w).alloc (.cells #[.string pd, .slice a ts.length c] 79)
 have HE := hide (show l ++ zet pd ts = l ++ pd.data.toList ++ (zbh ts 0 ++ if ts.length = 0 then [] else [41]) by simp [zet])
 go_enter Tryz.func110, Tryz.ntmps110
 go_wp2_with fail
 refine (zms B b l pd _ (h.alloc _) (by omega) (by simp; omega)).mono ?_
 rintro e w1 ⟨rfl, h1, hb1, hk1⟩
 have hB1 := (bA.mono hBw).trans hb1
 have hK1 := kA.trans hk1
 have hbx1 := hk1 _ _ _ _ hbx (by decide) (by decide)
 have hown1 := hK1.own hown (by decide) (by decide)
 have hz1 := hb1.size
 rw [World.size_alloc] at hz1
 obtain ⟨x0, xf0⟩ := zab hbx1 0
 obtain ⟨x1, xf1⟩ := zab hbx1 1
 have HOWN := hide hown
 clear hbx hb1 hk1 bA kA hown h
 by_cases hn : ts.length = 0
 ·have hn0 : ((ts.length : Int) == 0) = true := by simp [hn]
  have hts : ts = [] := List.length_eq_zero_iff.1 hn
  have HE2 := hide (show l ++ zet pd ts = l ++ pd.data.toList by rw [zaa HE, hts]; simp [zbh])
  clear HE hn hts
  go_wp2_with fail
  go_end0
  exact ⟨rfl, by rw [zaa HE2]; exact h1, hB1, hK1, by omega⟩
 ·have hn0 : ((ts.length : Int) == 0) = false := by simp; exact fun e => hn (by rw [e]; rfl)
  have e41 : (if ts.length = 0 then ([] : List UInt8) else [41]) = [41] := if_neg hn
  rw [e41] at e0 HE
  have hlast : ([41] : List UInt8).length = 1 := rfl
  rw [hlast] at e0
  clear e41 hn
  go_wp2_with fail
  go_loopg [17] ts.length (fun gg i wr => ∃ (k : Nat) (m : List UInt8), k ≤ ts.length ∧ gg = ts.length - k ∧ i = .int .i64 k ∧ Holds B b m wr ∧ Below B w wr ∧ KeepT w wr ∧ w.heap.size < wr.heap.size ∧ wr.heap[w.heap.size]? = some (.cells #[.string pd, .slice a ts.length c] 79 (0, 0)) ∧ m ++ zbh (ts.drop k) k = l ++ pd.data.toList ++ zbh ts 0)
  case atStart => exact ⟨0, _, Nat.zero_le _, rfl, rfl, h1, hB1, hK1, by omega, hbx1, rfl⟩
  case round =>
   clear h1 hB1 hK1 hbx1 hown1 x0 x1 xf0 xf1
   obtain ⟨k, m, hk, hgk, rfl, h1, hB1, hK1, hsz, hbx1, hm⟩ := hrel
   have hml := congrArg List.length hm
   simp only [List.length_append, hpl] at hml
   by_cases hlk : k < ts.length
   ·have hstep := zqk hlk
    have HM := hide (hstep ▸ hm)
    rw [hstep] at hml
    simp only [List.length_cons, List.length_append, zc0] at hml
    clear hm hstep
    have hown1 := hK1.own (zaa HOWN) (by decide) (by decide)
    obtain ⟨g, cap, hv, hbg, hgl, hnc, hcm, hc⟩ := zkv hown1 k hlk
    injection hv with i1 i2 i3
    subst i1 i3
    obtain ⟨isV, tx, het⟩ : ∃ isV tx, ts[k] = (isV, tx) := ⟨_, _, rfl⟩
    have e1 : ts[k].1 = isV := by rw [het]
    have e2 : ts[k].2 = tx := by rw [het]
    rw [e1, e2] at hc
    rw [e2] at HM hml
    obtain ⟨x1, xf1⟩ := zab hbx1 1
    clear het e1 e2 hown1
    have hiface : zfv isV tx = .iface (if isV then 130 else 193) (.string tx) := rfl
    rw [hiface] at hc
    have HIF := hide hiface
    clear hiface
    generalize hty : (if isV then 130 else 193) = ty at hc
    have HTY := hide hty
    clear hty
    cases k with
    | zero =>
     go_wp2_with fail
     refine (zjz B b m 40 _ h1 (by omega) (by omega)).mono ?_
     rintro e w2 ⟨rfl, h2, hb2, hk2⟩
     have hz2 := hb2.size
     have hbx2 := hk2 _ _ _ _ hbx1 (by decide) (by decide)
     have hB2 := hB1.trans hb2
     have hK2 := hK1.trans hk2
     clear hb2 hk2 hbx1 h1 hB1 hK1 x1 xf1
     go_wp2_with fail
     rw [← zaa HTY, ← zaa HIF]
     refine (zpg B b _ isV tx _ h2 (by simp; omega) (by omega)).mono ?_
     rintro e w3 ⟨rfl, h3, hb3, hk3, hz3⟩
     have hbx3 := hk3 _ _ _ _ hbx2 (by decide) (by decide)
     have hz3' := hb3.size
     have HR := hide (And.intro h3 (And.intro (hB2.trans hb3) (And.intro (hK2.trans hk3) hbx3)))
     clear hbx2 hbx3 h2 h3 hb3 hk3 hB2 hK2
     go_wp2_with fail
     go_roundg (ts.length - (0 + 1))
     case measure => omega
     case rel => exact ⟨0 + 1, _, by omega, rfl, by go_num, (zaa HR).1, (zaa HR).2.1, (zaa HR).2.2.1, by omega, (zaa HR).2.2.2, by have := zaa HM; simpa using this⟩
    | succ k =>
     have hk0 : (((k + 1 : Nat) : Int) == 0) = false := by simp; omega
     go_wp2_with fail
     refine (zjz B b m 44 _ h1 (by omega) (by omega)).mono ?_
     rintro e w2 ⟨rfl, h2, hb2, hk2⟩
     have hz2 := hb2.size
     have hbx2 := hk2 _ _ _ _ hbx1 (by decide) (by decide)
     have hB2 := hB1.trans hb2
     have hK2 := hK1.trans hk2
     clear hb2 hk2 hbx1 h1 hB1 hK1 x1 xf1
     go_wp2_with fail
     rw [← zaa HTY, ← zaa HIF]
     refine (zpg B b _ isV tx _ h2 (by simp; omega) (by omega)).mono ?_
     rintro e w3 ⟨rfl, h3, hb3, hk3, hz3⟩
     have hbx3 := hk3 _ _ _ _ hbx2 (by decide) (by decide)
     have hz3' := hb3.size
     have HR := hide (And.intro h3 (And.intro (hB2.trans hb3) (And.intro (hK2.trans hk3) hbx3)))
     clear hbx2 hbx3 h2 h3 hb3 hk3 hB2 hK2
     go_wp2_with fail
     go_roundg (ts.length - (k + 1 + 1))
     case measure => omega
     case rel => exact ⟨k + 1 + 1, _, by omega, rfl, by go_num, (zaa HR).1, (zaa HR).2.1, (zaa HR).2.2.1, by omega, (zaa HR).2.2.2, by have := zaa HM; simpa using this⟩
   ·have hd : ts.drop k = [] := List.drop_of_length_le (by omega)
    rw [hd] at hm hml
    simp only [zbh, List.append_nil, List.length_nil] at hm hml
    have HM := hide hm
    clear hm hd
    go_wp2_with fail
    refine (zjz B b m 41 _ h1 (by omega) (by omega)).mono ?_
    rintro e w2 ⟨rfl, h2, hb2, hk2⟩
    have hz2 := hb2.size
    have HR := hide (And.intro h2 (And.intro (hB1.trans hb2) (hK1.trans hk2)))
    clear h1 hB1 hK1 h2 hb2 hk2 hbx1
    go_wp2_with fail
    go_end0
    refine ⟨rfl, ?_, (zaa HR).2.1, (zaa HR).2.2, by omega⟩
    rw [zaa HE, ← List.append_assoc, ← zaa HM]
    exact (zaa HR).1
end
end Go.Proofs.YtldkpahaocjdpaaGreat
