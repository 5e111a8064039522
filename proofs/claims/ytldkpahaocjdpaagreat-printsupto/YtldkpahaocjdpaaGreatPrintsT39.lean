/-
  The law's world, plain: its programs' memory, which nothing that the law writes reaches; its book.
  The library's sort (slices.SortFunc at api.Stratum): its structure at this program's numbers, laid by the library's own tool.
  The program's List: the library's sort of a row of three cells an element.
-/
import Derived.Test.YtldkpahaocjdpaaGreatPrintsT18
import Derived.Test.YtldkpahaocjdpaaGreatPrintsT36
import Derived.Test.YtldkpahaocjdpaaGreatPrintsT38
import Derived.Shelf.SlSortCmp.NoneTotal
import Derived.Test.YtldkpahaocjdpaaGreatProg
namespace Go.Proofs.YtldkpahaocjdpaaGreat
open Go.RowKit

/-- What was so of a world's memory from a block on, where none of the blocks C lies. -/
def Apart (C : List Nat) (w : World) (F : World → Nat → Prop) : Prop := ∃ w0 lo, Kept (List.range lo) w0 w ∧ (∀ c ∈ C, c < lo ∨ w0.heap.size ≤ c) ∧ F w0 lo

theorem Apart.step {C C' D : List Nat} {w w' : World} {F : World → Nat → Prop} (h : Apart C w F) (k : Kept D w w') (hD : ∀ d ∈ D, d ∈ C ∨ w.heap.size ≤ d) (hC : ∀ c ∈ C', c ∈ C ∨ w.heap.size ≤ c) : Apart C' w' F := by
  obtain ⟨w0, lo, k0, h0, hF⟩ := h
  have hs := k0.size
  refine ⟨w0, lo, k0.step k (fun x hx => ?_), fun c hc => ?_, hF⟩
  · rcases hD x hx with h | h
    · rcases h0 x h with h | h
      · exact .inl (List.mem_range.2 h)
      · exact .inr h
    · exact .inr (by omega)
  · rcases hC c hc with h | h
    · exact h0 c h
    · exact .inr (by omega)

/-- A text's two programs, in memory from block lo on. -/
structure EntF (s : ByteArray) (xb yb : Nat) (w : World) (lo : Nat) : Prop where
  ok : (refLoad s).1 = true
  x : ∃ rs : List PR, ProgIn w lo xb rs ∧ rs.map (·.R) = (pparsed s).2.2.1
  y : ∃ (rs : List RR) (ps : List (ByteArray × Nat)) (rv pv tv : Value) (gs : Nat) (S : Nat → Nat), lo ≤ yb ∧ yb < gs ∧ PMem w yb rs ps rv pv tv (.slice (some ⟨gs, 0, none⟩) ps.length ps.length) ∧ SRow w gs ps.length S ∧ Valid ps (rs.map (·.R)) S ∧ Low ps (rs.map (·.R)) S ∧ rs.map (·.R) = (parsed s).1 ∧ ps = (predsOf s).2 ∧ AllIn ps ((parsed s).1.flatMap RRule.atoms)

theorem ProgIn.keptR {w w' : World} {lo b : Nat} {rs : List PR} (h : ProgIn w lo b rs) (k : Kept (List.range lo) w w') : ProgIn w' lo b rs := by
  obtain ⟨a, c, hb, hlo, hr⟩ := h
  exact ⟨a, c, cells_keptT hb k (fun x hx => .inl (by have := List.mem_range.1 hx; omega)), hlo, hr.keptT k (fun x hx => .inl (List.mem_range.1 hx))⟩

theorem SRow.keptB {B : List Nat} {w w' : World} {gs n : Nat} {S : Nat → Nat} (h : SRow w gs n S) (k : Kept B w w') (hB : gs ∉ B) : SRow w' gs n S :=
  ⟨Nat.lt_of_lt_of_le h.sz k.size, fun i hi => (k.cell (p := ⟨gs, i, none⟩) h.sz hB).trans (h.cell i hi), fun j => (k.frozen (p := ⟨gs, j, none⟩) h.sz hB).trans (h.fz j)⟩

theorem EntF.kept {s : ByteArray} {xb yb : Nat} {w w' : World} {lo : Nat} (h : EntF s xb yb w lo) (k : Kept (List.range lo) w w') : EntF s xb yb w' lo := by
  obtain ⟨rs, hp, hr⟩ := h.x
  obtain ⟨rs', ps, rv, pv, tv, gs, S, h1, h2, h3, h4, h5⟩ := h.y
  exact ⟨h.ok, ⟨rs, hp.keptR k, hr⟩, rs', ps, rv, pv, tv, gs, S, h1, h2, PMem2.kept h3 k (fun x hx => by have := List.mem_range.1 hx; omega), h4.keptB k (fun hm => by have := List.mem_range.1 hm; omega), h5⟩

theorem Apart.ent {C : List Nat} {s : ByteArray} {xb yb : Nat} {w : World} (h : Apart C w (EntF s xb yb)) : ∃ lo, EntF s xb yb w lo := by
  obtain ⟨w0, lo, k0, _, hF⟩ := h
  exact ⟨lo, hF.kept k0⟩

/-- A program of the law's: where the two lie; its text. -/
structure PE where
  x : Nat
  y : Nat
  s : ByteArray
def PE.cells (p : PE) : List Value := [.pointer (some ⟨p.x, 0, none⟩), .pointer (some ⟨p.y, 0, none⟩), .string p.s]

def mkB (n : Nat) : List Value := [.int .u8 (n % 251 : Nat)]
def mkT (n : Nat) : List Value := [.string { data := #[35, UInt8.ofNat n, UInt8.ofNat (n / 256)] }]

/-- The law's world in block b. -/
structure LW (w : World) (b : Nat) (psv bv tv sv : Value) (es : List PE) (mb mt ms : List MB) : Prop where
  blk : w.heap[b]? = some (.cells #[psv, bv, tv, sv] 69 (0, 0))
  row : w.ownsRow (b + 1) 112 3 psv es.length (es.flatMap PE.cells)
  ent : ∀ p ∈ es, Apart (b :: (psv.ownBlock.toList ++ bv.ownBlock.toList ++ tv.ownBlock.toList ++ sv.ownBlock.toList)) w (EntF p.s p.x p.y)
  bs : BookIn w (b + 1) 115 5 mkB bv mb
  ts : BookIn w (b + 1) 117 9 mkT tv mt
  ss : BookIn w (b + 1) 120 185 markE sv ms

abbrev chg (b : Nat) (psv bv tv sv : Value) : List Nat := b :: (psv.ownBlock.toList ++ bv.ownBlock.toList ++ tv.ownBlock.toList ++ sv.ownBlock.toList)

theorem LW.lt {w : World} {b : Nat} {psv bv tv sv : Value} {es : List PE} {mb mt ms : List MB} (h : LW w b psv bv tv sv es mb mt ms) : b < w.heap.size := (Array.getElem?_eq_some_iff.1 h.blk).1

theorem LW.chg_lt {w : World} {b : Nat} {psv bv tv sv : Value} {es : List PE} {mb mt ms : List MB} (h : LW w b psv bv tv sv es mb mt ms) : ∀ x ∈ chg b psv bv tv sv, b ≤ x ∧ x < w.heap.size := by
  intro x hx
  rcases List.mem_cons.1 hx with rfl | hx
  · exact ⟨Nat.le_refl _, h.lt⟩
  · simp only [List.mem_append] at hx
    rcases hx with ((hx | hx) | hx) | hx
    · have := h.row.lt x (by simpa using hx); omega
    · have := h.bs.row.lt x (by simpa using hx); omega
    · have := h.ts.row.lt x (by simpa using hx); omega
    · have := h.ss.row.lt x (by simpa using hx); omega

theorem LW.below {w w' : World} {b : Nat} {psv bv tv sv : Value} {es : List PE} {mb mt ms : List MB} (h : LW w b psv bv tv sv es mb mt ms) (k : Below w.heap.size w w') : LW w' b psv bv tv sv es mb mt ms :=
  have k' : Kept [] w w' := (Kept.refl [] w).of_below k
  ⟨(k.block b h.lt).trans h.blk, own_keptT h.row k' (by simp), fun p hp => (h.ent p hp).step k' (by simp) (fun c hc => .inl hc), h.bs.below k, h.ts.below k, h.ss.below k⟩

theorem LW.start (w : World) (b : Nat) (h : w.heap[b]? = some (.cells #[.slice none 0 0, .slice none 0 0, .slice none 0 0, .slice none 0 0] 69 (0, 0))) : LW w b (.slice none 0 0) (.slice none 0 0) (.slice none 0 0) (.slice none 0 0) [] [] [] [] :=
  ⟨h, World.ownsRow_nil _ _ _ _, by simp, BookIn.nil _ _ _ _ _, BookIn.nil _ _ _ _ _, BookIn.nil _ _ _ _ _⟩

theorem LW.notT {w : World} {b : Nat} {psv bv tv sv : Value} {es : List PE} {mb mt ms : List MB} (h : LW w b psv bv tv sv es mb mt ms) (e : TypeId) (h0 : 69 ≠ e) (h1 : 112 ≠ e) (h2 : 115 ≠ e) (h3 : 117 ≠ e) (h4 : 120 ≠ e) : ∀ x ∈ chg b psv bv tv sv, NotT w e x := by
  intro x hx
  rcases List.mem_cons.1 hx with rfl | hx
  · exact notT_of h.blk h0
  · simp only [List.mem_append] at hx
    rcases hx with ((hx | hx) | hx) | hx
    · exact own_notT h.row h1 x hx
    · exact own_notT h.bs.row h2 x hx
    · exact own_notT h.ts.row h3 x hx
    · exact own_notT h.ss.row h4 x hx

/-- One program more: w: ahead of the two Loads; w2: behind them; W: with the new element laid; w5: behind the append. -/
theorem LW.addP {w w2 W w5 : World} {b : Nat} {psv bv tv sv : Value} {es : List PE} {mb mt ms : List MB} (h : LW w b psv bv tv sv es mb mt ms) (hb : Below w.heap.size w w2) {p : PE} (hp : EntF p.s p.x p.y w2 w.heap.size)
    (hW : Kept [] w2 W) (hg : W.grownBy w5 psv.ownBlock) {a' : Option Addr} {c' : Nat} (hown : w5.ownsRow (b + 1) 112 3 (.slice a' (es.length + 1) c') (es.length + 1) (es.flatMap PE.cells ++ p.cells)) (hat : (Value.slice a' (es.length + 1) c').ownBlock = psv.ownBlock ∨ ∀ g, (Value.slice a' (es.length + 1) c').ownBlock = some g → W.heap.size ≤ g) :
    LW (w5.setCell ⟨b, 0, none⟩ (.slice a' (es.length + 1) c')) b (.slice a' (es.length + 1) c') bv tv sv (es ++ [p]) mb mt ms ∧ Kept (chg b psv bv tv sv) w (w5.setCell ⟨b, 0, none⟩ (.slice a' (es.length + 1) c')) ∧ w5.heap[b]? = some (.cells #[psv, bv, tv, sv] 69 (0, 0)) := by
  have h2 := h.below hb
  have k2 : Kept (b :: psv.ownBlock.toList) w2 (w5.setCell ⟨b, 0, none⟩ (.slice a' (es.length + 1) c')) := by
    refine Kept.setCell (p := ⟨b, 0, none⟩) ?_ (.inl List.mem_cons_self) _
    exact ((hW.mono (by simp)).trans ((Kept.of_grown hg).mono fun k hk => .inl (List.mem_cons_of_mem _ hk)))
  have k5 : Kept psv.ownBlock.toList w2 w5 := (hW.mono (by simp)).trans (Kept.of_grown hg)
  have hb5 : w5.heap[b]? = some (.cells #[psv, bv, tv, sv] 69 (0, 0)) :=
    cells_keptT h2.blk k5 (fun x hx => .inr (own_notT h2.row (by decide) x hx))
  have hsz := hW.size
  have hsb := hb.size
  have sub : ∀ x ∈ b :: psv.ownBlock.toList, x ∈ chg b psv bv tv sv := fun x hx => by
    rcases List.mem_cons.1 hx with rfl | hx
    · exact List.mem_cons_self
    · exact List.mem_cons_of_mem _ (by simp only [List.mem_append]; exact .inl (.inl (.inl hx)))
  have nt : ∀ (e : TypeId), 69 ≠ e → 112 ≠ e → ∀ x ∈ b :: psv.ownBlock.toList, NotT w2 e x := fun e e0 e1 x hx => by
    rcases List.mem_cons.1 hx with rfl | hx
    · exact notT_of h2.blk e0
    · exact own_notT h2.row e1 x hx
  have newC : ∀ c ∈ chg b (.slice a' (es.length + 1) c') bv tv sv, c ∈ chg b psv bv tv sv ∨ w2.heap.size ≤ c := fun c hc => by
    rcases List.mem_cons.1 hc with rfl | hc
    · exact .inl List.mem_cons_self
    · simp only [List.mem_append] at hc
      have rest : c ∈ bv.ownBlock.toList ∨ c ∈ tv.ownBlock.toList ∨ c ∈ sv.ownBlock.toList → c ∈ chg b psv bv tv sv := fun hr => List.mem_cons_of_mem _ (by simp only [List.mem_append]; rcases hr with hr | hr | hr <;> simp [hr])
      rcases hc with ((hc | hc) | hc) | hc
      · rcases hat with e1 | e1
        · rw [e1] at hc; exact .inl (sub c (List.mem_cons_of_mem _ hc))
        · exact .inr (Nat.le_trans hsz (e1 c (by simpa using hc)))
      · exact .inl (rest (.inl hc))
      · exact .inl (rest (.inr (.inl hc)))
      · exact .inl (rest (.inr (.inr hc)))
  refine ⟨⟨?_, ?_, fun q hq => ?_, h2.bs.kept k2 (fun x hx => .inr (nt _ (by decide) (by decide) x hx)) (fun x hx => .inl (nt _ (by decide) (by decide) x hx)), h2.ts.kept k2 (fun x hx => .inr (nt _ (by decide) (by decide) x hx)) (fun x hx => .inl (nt _ (by decide) (by decide) x hx)), h2.ss.kept k2 (fun x hx => .inr (nt _ (by decide) (by decide) x hx)) (fun x hx => .inl (nt _ (by decide) (by decide) x hx))⟩, ?_, hb5⟩
  · unfold World.setCell
    simp only [Array.getElem?_modify, if_true, hb5]
    rfl
  · rw [List.length_append, List.flatMap_append]
    have := ownsRow_setCell_below (a := ⟨b, 0, none⟩) hown (by simp) (.slice a' (es.length + 1) c')
    simpa using this
  · rcases List.mem_append.1 hq with hq | hq
    · exact (h2.ent q hq).step k2 (fun d hd => .inl (sub d hd)) newC
    · rw [List.mem_singleton.1 hq]
      have h0 : Apart (chg b psv bv tv sv) w2 (EntF p.s p.x p.y) := ⟨w2, w.heap.size, Kept.refl _ _, fun c hc => .inl (h.chg_lt c hc).2, hp⟩
      exact h0.step k2 (fun d hd => .inl (sub d hd)) newC
  · exact ((Kept.refl _ w).of_below hb).step k2 (fun x hx => .inl (sub x hx))

/-- Another list of strata in the book. -/
theorem LW.addS {w w' : World} {b : Nat} {psv bv tv sv sv' : Value} {es : List PE} {mb mt ms ms' : List MB} (h : LW w b psv bv tv sv es mb mt ms) (K : Kept (b :: sv.ownBlock.toList) w w') (hblk : w'.heap[b]? = some (.cells #[psv, bv, tv, sv'] 69 (0, 0))) (hbook : BookIn w' (b + 1) 120 185 markE sv' ms') (hsv : ∀ g ∈ sv'.ownBlock.toList, g ∈ sv.ownBlock.toList ∨ w.heap.size ≤ g) : LW w' b psv bv tv sv' es mb mt ms' ∧ Kept (chg b psv bv tv sv) w w' := by
  have sub : ∀ x ∈ b :: sv.ownBlock.toList, x ∈ chg b psv bv tv sv := fun x hx => by
    rcases List.mem_cons.1 hx with rfl | hx
    · exact List.mem_cons_self
    · exact List.mem_cons_of_mem _ (by simp only [List.mem_append]; exact .inr hx)
  have nt : ∀ (e : TypeId), 69 ≠ e → 120 ≠ e → ∀ x ∈ b :: sv.ownBlock.toList, NotT w e x := fun e e0 e1 x hx => by
    rcases List.mem_cons.1 hx with rfl | hx
    · exact notT_of h.blk e0
    · exact own_notT h.ss.row e1 x hx
  have newC : ∀ c ∈ chg b psv bv tv sv', c ∈ chg b psv bv tv sv ∨ w.heap.size ≤ c := fun c hc => by
    rcases List.mem_cons.1 hc with rfl | hc
    · exact .inl List.mem_cons_self
    · simp only [List.mem_append] at hc
      have rest : c ∈ psv.ownBlock.toList ∨ c ∈ bv.ownBlock.toList ∨ c ∈ tv.ownBlock.toList → c ∈ chg b psv bv tv sv := fun hr => List.mem_cons_of_mem _ (by simp only [List.mem_append]; rcases hr with hr | hr | hr <;> simp [hr])
      rcases hc with ((hc | hc) | hc) | hc
      · exact .inl (rest (.inl hc))
      · exact .inl (rest (.inr (.inl hc)))
      · exact .inl (rest (.inr (.inr hc)))
      · exact (hsv c hc).imp (fun hm => sub c (List.mem_cons_of_mem _ hm)) id
  exact ⟨⟨hblk, own_keptT h.row K (fun x hx => .inr (nt _ (by decide) (by decide) x hx)), fun p hp => (h.ent p hp).step K (fun d hd => .inl (sub d hd)) newC, h.bs.kept K (fun x hx => .inr (nt _ (by decide) (by decide) x hx)) (fun x hx => .inl (nt _ (by decide) (by decide) x hx)), h.ts.kept K (fun x hx => .inr (nt _ (by decide) (by decide) x hx)) (fun x hx => .inl (nt _ (by decide) (by decide) x hx)), hbook⟩, K.mono fun x hx => .inl (sub x hx)⟩
end Go.Proofs.YtldkpahaocjdpaaGreat

namespace Go.Proofs
open Go.Shelf
def Tryz.sortStr_ren : Go.Shelf.Ren := ⟨fun | 6 => 194 | 15 => 104 | 14 => 230 | 28 => 157 | 29 => 158 | 20 => 240 | 21 => 241 | 22 => 242 | 23 => 243 | 24 => 244 | 25 => 245 | 26 => 246 | 27 => 247 | 46 => 250 | 47 => 203 | 48 => 204 | 49 => 251 | 50 => 252 | 57 => 253 | n => n, fun | 22 => 118 | 24 => 185 | 25 => 327 | 3 => 3 | 39 => 196 | 0 => 0 | 53 => 282 | 55 => 284 | 4 => 4 | 46 => 276 | 45 => 275 | 50 => 96 | 5 => 5 | 9 => 9 | 66 => 336 | 70 => 340 | 76 => 363 | 77 => 364 | n => n, fun | n => n⟩
theorem Tryz.sortStr : Go.Proofs.SlLaysF0.n6 Tryz.prog Tryz.sortStr_ren := {
  mixed := by kernel_rfl
  f6 := ⟨Tryz.f194.name, by decide, Tryz.func194.trans (congrArg some (by kernel_rfl))⟩
  f14 := ⟨Tryz.f230.name, by decide, Tryz.func230.trans (congrArg some (by kernel_rfl))⟩
  f15 := Tryz.func104.trans (congrArg some (by kernel_rfl))
  f20 := ⟨Tryz.f240.name, by decide, Tryz.func240.trans (congrArg some (by kernel_rfl))⟩
  f21 := ⟨Tryz.f241.name, by decide, Tryz.func241.trans (congrArg some (by kernel_rfl))⟩
  f22 := ⟨Tryz.f242.name, by decide, Tryz.func242.trans (congrArg some (by kernel_rfl))⟩
  f23 := ⟨Tryz.f243.name, by decide, Tryz.func243.trans (congrArg some (by kernel_rfl))⟩
  f24 := ⟨Tryz.f244.name, by decide, Tryz.func244.trans (congrArg some (by kernel_rfl))⟩
  f25 := ⟨Tryz.f245.name, by decide, Tryz.func245.trans (congrArg some (by kernel_rfl))⟩
  f26 := ⟨Tryz.f246.name, by decide, Tryz.func246.trans (congrArg some (by kernel_rfl))⟩
  f27 := ⟨Tryz.f247.name, by decide, Tryz.func247.trans (congrArg some (by kernel_rfl))⟩
  f28 := Tryz.func157.trans (congrArg some (by kernel_rfl))
  f29 := Tryz.func158.trans (congrArg some (by kernel_rfl))
  f46 := ⟨Tryz.f250.name, by decide, Tryz.func250.trans (congrArg some (by kernel_rfl))⟩
  f47 := Tryz.func203.trans (congrArg some (by kernel_rfl))
  f48 := Tryz.func204.trans (congrArg some (by kernel_rfl))
  f49 := ⟨Tryz.f251.name, by decide, Tryz.func251.trans (congrArg some (by kernel_rfl))⟩
  f50 := ⟨Tryz.f252.name, by decide, Tryz.func252.trans (congrArg some (by kernel_rfl))⟩
  f57 := ⟨Tryz.f253.name, by decide, Tryz.func253.trans (congrArg some (by kernel_rfl))⟩
  t0 := Tryz.underlying0
  a0 := Tryz.isAgg0
  z0 := Tryz.sizeOf0
  v0 := Tryz.zeroValue0
  t3 := Tryz.underlying3
  a3 := Tryz.isAgg3
  z3 := Tryz.sizeOf3
  v3 := Tryz.zeroValue3
  t4 := Tryz.underlying4
  a4 := Tryz.isAgg4
  z4 := Tryz.sizeOf4
  v4 := Tryz.zeroValue4
  t5 := Tryz.underlying5
  a5 := Tryz.isAgg5
  z5 := Tryz.sizeOf5
  v5 := Tryz.zeroValue5
  t9 := Tryz.underlying9
  a9 := Tryz.isAgg9
  z9 := Tryz.sizeOf9
  v9 := Tryz.zeroValue9
  t22 := Tryz.underlying118
  a22 := Tryz.isAgg118
  z22 := Tryz.sizeOf118
  v22 := Tryz.zeroValue118
  t25 := Tryz.underlying327
  a25 := Tryz.isAgg327
  z25 := Tryz.sizeOf327
  v25 := Tryz.zeroValue327
  t39 := Tryz.underlying196
  a39 := Tryz.isAgg196
  z39 := Tryz.sizeOf196
  v39 := Tryz.zeroValue196
  t45 := Tryz.underlying275
  a45 := Tryz.isAgg275
  z45 := Tryz.sizeOf275
  v45 := Tryz.zeroValue275
  t46 := Tryz.underlying276
  a46 := Tryz.isAgg276
  z46 := Tryz.sizeOf276
  v46 := Tryz.zeroValue276
  t50 := Tryz.underlying96
  a50 := Tryz.isAgg96
  z50 := Tryz.sizeOf96
  v50 := Tryz.zeroValue96
  t53 := Tryz.underlying282
  a53 := Tryz.isAgg282
  z53 := Tryz.sizeOf282
  v53 := Tryz.zeroValue282
  t55 := Tryz.underlying284
  a55 := Tryz.isAgg284
  z55 := Tryz.sizeOf284
  v55 := Tryz.zeroValue284
  t66 := Tryz.underlying336
  a66 := Tryz.isAgg336
  z66 := Tryz.sizeOf336
  v66 := Tryz.zeroValue336
  t70 := Tryz.underlying340
  a70 := Tryz.isAgg340
  z70 := Tryz.sizeOf340
  v70 := Tryz.zeroValue340
  t76 := Tryz.underlying363
  a76 := Tryz.isAgg363
  z76 := Tryz.sizeOf363
  v76 := Tryz.zeroValue363
  t77 := Tryz.underlying364
  a77 := Tryz.isAgg364
  z77 := Tryz.sizeOf364
  v77 := Tryz.zeroValue364 }
end Go.Proofs

namespace Go.Proofs.YtldkpahaocjdpaaGreat
open Go.RowKit Go.Maps

theorem flat_get {α : Type} [Inhabited α] (enc : α → List Value) (hk : ∀ x, (enc x).length = 3) : ∀ (xs : List α) (t : Nat), t < xs.length * 3 → (xs.flatMap enc)[t]? = some ((enc (xs.toArray[t / 3]!))[t % 3]!)
  | [], t, h => by simp at h
  | x :: r, t, h => by
    rw [List.flatMap_cons]
    by_cases h3 : t < 3
    · rw [List.getElem?_append_left (by rw [hk]; exact h3), Nat.div_eq_of_lt h3, Nat.mod_eq_of_lt h3]
      have : t < (enc x).length := by rw [hk]; exact h3
      simp [this]
    · have ih := flat_get enc hk r (t - 3) (by simp at h; omega)
      rw [List.getElem?_append_right (by rw [hk]; omega), hk, ih]
      have e1 : t / 3 = (t - 3) / 3 + 1 := by omega
      have e2 : t % 3 = (t - 3) % 3 := by omega
      have hl : (t - 3) / 3 < r.length := by simp at h; omega
      rw [e1, e2]
      simp [hl]

theorem flat_eq {α : Type} [Inhabited α] (enc : α → List Value) (hk : ∀ x, (enc x).length = 3) (xs : List α) : Sort.flatK enc 3 xs.toArray = (xs.flatMap enc).toArray := by
  have hl : ∀ l : List α, (l.flatMap enc).length = l.length * 3 := by
    intro l; induction l with
    | nil => rfl
    | cons x r ih => rw [List.flatMap_cons, List.length_append, ih, hk, List.length_cons]; omega
  refine Array.ext (by simp [hl]) fun t h1 h2 => ?_
  have ht : t < xs.length * 3 := by simpa using h1
  have h3 := flat_get enc hk xs t ht
  have h4 := Sort.get_flatK enc 3 xs.toArray t (by simpa using ht)
  rw [getElem!_pos _ t h1] at h4
  rw [h4]
  have h5 : (xs.flatMap enc)[t]? = some (xs.flatMap enc).toArray[t] := by simp
  rw [h3] at h5
  exact Option.some.inj h5

section
variable {w : World} {g n : Nat} {os : Array Obj} {cur : Array Value} {e : TypeId}

theorem holdsK_of_block {enc : ByteArray → List Value} (hk : ∀ x, (enc x).length = 3) {xs : List ByteArray} (hb : w.heap[g]? = some (.cells cur e (0, 0))) (ht : cur.toList.take (xs.length * 3) = xs.flatMap enc) : Sort.HoldsK enc 3 w g 0 xs.toArray := by
  unfold Sort.HoldsK
  rw [flat_eq enc hk]
  intro j hj
  have hj' : j < (xs.flatMap enc).length := by simpa using hj
  refine ⟨?_, by simp [World.frozen?, hb]⟩
  have hl : (xs.flatMap enc).length ≤ xs.length * 3 := by rw [← ht]; simp; omega
  have h1 : (cur.toList.take (xs.length * 3))[j]? = (xs.flatMap enc)[j]? := by rw [ht]
  rw [List.getElem?_take_of_lt (by omega)] at h1
  simp only [World.cell?, hb, Nat.zero_add]
  simp only [Option.isSome_none, Bool.false_eq_true, if_false]
  rw [← Array.getElem?_toList, h1, List.getElem?_eq_getElem hj']
  rw [getElem!_pos _ j hj]
  rfl

theorem heap_sortedK (d : Array Value) (hb : w.heap[g]? = some (.cells cur e (0, 0))) :
    (Sort.grow (Sort.putRow id (Sort.ahead w n) g 0 d) os).heap[g]? = some (.cells (Sort.putCells id 0 d cur) e (0, 0)) := by
  have hg : g < w.heap.size := (Array.getElem?_eq_some_iff.1 hb).1
  rw [Sort.heap_grow_old _ _ (by simpa using hg)]
  simp [Sort.putRow, Sort.mapBlock, Sort.ahead, Array.getElem?_modify, hb, Sort.onCells]

theorem grownBy_sortedK (d : Array Value) : w.grownBy (Sort.grow (Sort.putRow id (Sort.ahead w n) g 0 d) os) (some g) := by
  refine ⟨rfl, rfl, rfl, by simp, fun k hk hne => ?_⟩
  rw [Sort.heap_grow_old _ _ (by simpa using hk)]
  have : g ≠ k := fun e => hne (by rw [e])
  simp [Sort.putRow, Sort.mapBlock, Sort.ahead, Array.getElem?_modify, this]

theorem take_putCellsK (ts : List Value) (h : ts.length ≤ cur.size) : (Sort.putCells id 0 ts.toArray cur).toList.take ts.length = ts := by
  apply List.ext_getElem?
  intro j
  by_cases hj : j < ts.length
  · rw [List.getElem?_take_of_lt hj, Array.getElem?_toList]
    simp [Sort.putCells, hj, show j < cur.size by omega]
  · rw [List.getElem?_take_eq_none (by omega), List.getElem?_eq_none (by omega)]

theorem ownsRow_sortedK {base cap : Nat} {enc : ByteArray → List Value} (hk : ∀ x, (enc x).length = 3) {xs ys : List ByteArray} (hl : ys.length = xs.length) (hbase : base ≤ g) (hb : w.heap[g]? = some (.cells cur e (0, 0)))
    (h1 : xs.length ≤ cap) (h2 : cap ≤ maxLen) (h3 : cur.size = cap * 3) :
    (sortWorldK enc 3 w g 0 n ys.toArray os).ownsRow base e 3 (.slice (some ⟨g, 0, none⟩) xs.length cap) ys.length (ys.flatMap enc) := by
  have hfl : (ys.flatMap enc).length = ys.length * 3 := by have := congrArg Array.size (flat_eq enc hk ys); simpa using this.symm
  unfold sortWorldK Sort.putRowK
  rw [flat_eq enc hk]
  exact ⟨hfl, .inr ⟨g, cap, _, by rw [hl], hbase, heap_sortedK _ hb, by omega, h2, by simp [Sort.putCells, h3], by rw [← hfl]; exact take_putCellsK _ (by rw [hfl, h3]; omega)⟩⟩
end

/-- The names by rising order. -/
def sortB (xs : List ByteArray) : List ByteArray := xs.mergeSort fun x y => !(ltOf cmpB) y x

theorem stE_len (ps : List (ByteArray × Nat)) (S : ByteArray → Nat) (x : ByteArray) : (stE ps S x).length = 3 := rfl

theorem sort_any (wr : World) (base : Nat) (ps : List (ByteArray × Nat)) (S : ByteArray → Nat) (al : Option Addr) (cl : Nat) (xs : List ByteArray) (h : wr.ownsRow base 185 3 (.slice al xs.length cl) xs.length (xs.flatMap (stE ps S))) (hl : xs.length ≤ 1000000000) :
    Calls Tryz.prog 194 #[.slice al xs.length cl, .func (.func 195) #[] #[]] wr fun e w' => e = .returned (.tuple #[]) ∧ w'.ownsRow base 185 3 (.slice al xs.length cl) (sortB xs).length ((sortB xs).flatMap (stE ps S)) ∧ wr.grownBy w' (Value.slice al xs.length cl).ownBlock := by
  rcases h.2 with ⟨hv, h0⟩ | ⟨g, cap, cur, hv, hb, hg, hnc, hcm, hcs, ht⟩
  · have hx : xs = [] := List.length_eq_zero_iff.1 h0
    subst hx
    injection hv with h1 h2 h3
    subst h1 h3
    refine Calls.mono (AnyF.slices_SortFunc_none Tryz.sortStr none 0 _ wr) ?_
    rintro e w' ⟨rfl, rfl⟩
    exact ⟨rfl, by simpa [sortB] using World.ownsRow_nil _ _ _ _, ⟨rfl, rfl, rfl, Nat.le_refl _, fun _ _ _ => rfl⟩⟩
  · injection hv with h1 h2 h3
    subst h1 h3
    have eg : ∀ args w, (callFunc 195 args).run Tryz.prog w = .ok (.enter 195 args) w := enters_of Tryz.func195 (by kernel_rfl) rfl
    have hlt : g < wr.heap.size := (Array.getElem?_eq_some_iff.1 hg).1
    have hcon := AnyQ.slices_SortFunc_total Tryz.sortStr 3 Tryz.isAgg185 Tryz.sizeOf185 (stE ps S) (stE_len ps S) (st_one ps S) cmpB swoB 195 #[] g 0 cl xs.toArray wr eg (fun _ _ _ _ x y => closure_any x y _ _ _ _ _) (holdsK_of_block (stE_len ps S) hg ht) hlt (by simp; omega) (fun x y h1 h2 => by rw [ltOf_cmpB] at h1 h2; exact lessB_tri h1 h2)
    have hsz : xs.toArray.size = xs.length := by simp
    rw [hsz] at hcon
    refine Calls.mono hcon ?_
    rintro e w' ⟨rfl, n, os, rfl⟩
    have hsl : (sortB xs).length = xs.length := by simp [sortB]
    exact ⟨rfl, ownsRow_sortedK (stE_len ps S) hsl hb hg hnc hcm hcs, grownBy_sortedK _⟩

theorem sortB_mem (xs : List ByteArray) (k : ByteArray) : k ∈ sortB xs ↔ k ∈ xs := List.mem_mergeSort
theorem sortB_rising (xs : List ByteArray) (h : xs.Nodup) : (sortB xs).Pairwise fun x y => lessB x y = true := by
  have hs : (sortB xs).Pairwise fun x y => (!(ltOf cmpB) y x) = true := by
    refine List.pairwise_mergeSort (fun a b c h1 h2 => ?_) (fun a b => ?_) xs
    · simp only [ltOf_cmpB, Bool.not_eq_true'] at *
      have := swoB.ntrans c b a (by rw [ltOf_cmpB]; exact h2) (by rw [ltOf_cmpB]; exact h1)
      rwa [ltOf_cmpB] at this
    · simp only [ltOf_cmpB]
      cases h1 : lessB a b with
      | false => simp
      | true =>
        cases h2 : lessB b a with
        | false => simp
        | true => have := lessB_trans h1 h2; rw [lessB_irrefl] at this; cases this
  have hn : (sortB xs).Nodup := (List.mergeSort_perm xs _).nodup_iff.2 h
  refine (hs.and hn).imp fun {x y} hxy => ?_
  obtain ⟨h1, h2⟩ := hxy
  simp only [ltOf_cmpB, Bool.not_eq_true'] at h1
  cases h3 : lessB x y with
  | true => rfl
  | false => exact absurd (lessB_tri h3 h1) h2
end Go.Proofs.YtldkpahaocjdpaaGreat
