/-
  The program's List.
  A strings.Builder that the call has made: what copyCheck, WriteString and WriteByte do to it.
  The program's writing of rules: writeTerm, writeAtom, writeLiteral, writeRule, Write.
  The contract of strings.Builder's String, out of the library, laid at this program's numbers by the library's own tool.
-/
import Derived.Test.YtldkpahaocjdpaaGreatPrintsT39
import Derived.Test.YtldkpahaocjdpaaGreatPrintsT03
import Derived.Lib.Builder
import Derived.Lib.AppendStr
import Derived.Lib.UnsafeStr
import Derived.Laws.Externs
import Derived.WalkKit
import Derived.OwnWalk
import Derived.Maps.AppendAt
import Derived.Lib.Hide
import Derived.Test.YtldkpahaocjdpaaGreatPrintsT31
import Derived.Shelf.Strings.Builder1
import Derived.Test.YtldkpahaocjdpaaGreatProg
namespace Go.Proofs.YtldkpahaocjdpaaGreat
open Go.RowKit Go.Maps

theorem ListIn.post {w : World} {b n : Nat} {ps : List (ByteArray × Nat)} {S : ByteArray → Nat} {xs : List ByteArray} {lv : Value} {cnt : Nat} {wr w2 : World} (h : ListIn w b n ps S xs lv cnt wr) (hd : ∀ k, (stV ps S k).isSome = true → k ∈ xs)
    (hown : w2.ownsRow (w.heap.size + 1) 185 3 lv (sortB xs).length ((sortB xs).flatMap (stE ps S))) (hg : wr.grownBy w2 lv.ownBlock) : ListPost w ps S (.returned lv) w2 := by
  have hsz := h.below.size
  have hs2 := hg.size
  have he : ∀ k, (stV ps S k).isSome = (numOf ps k).isSome := fun k => by unfold stV; cases numOf ps k <;> rfl
  refine ⟨lv, sortB xs, rfl, hown, sortB_rising xs h.nd, fun k => ?_, ⟨hg.os.trans h.below.os, hg.tape.trans h.below.tape, hg.output.trans h.below.output, by omega, fun j hj => ?_⟩⟩
  · rw [sortB_mem, ← he]; exact ⟨fun hk => h.sm k hk, fun hk => hd k hk⟩
  · rw [hg.block j (by omega) (fun e => by have := own_from h.row e.symm; omega)]
    exact h.below.block j hj

set_option maxRecDepth 100000 in
set_option maxHeartbeats 4000000 in
theorem list_any (w : World) (b n : Nat) (ps : List (ByteArray × Nat)) (S : ByteArray → Nat) (h : SMap Tryz.prog 9 w b n (stV ps S)) (hn : n ≤ 1000000000) :
    Calls Tryz.prog 136 #[.map (some b)] w (ListPost w ps S) := by
  obtain ⟨i0, hi, hz0, hz1, hz2⟩ := info_parts infoStr
  have hblt := h.lt
  go_enter Tryz.func136, Tryz.ntmps136
  go_wp2_with (first | (at_range; refine wp_range _ rfl _ 73 rfl 9 185 Tryz.underlying9 Tryz.underlying73 b n (stV ps S) rfl h ?_; intro w0 cnt0 hrg0 hcn hg0 hs0) | go_in)
  go_frame
  have h0 : ListIn w b n ps S [] (.slice none 0 0) cnt0 w0 := ⟨hrg0.iff (fun k => by simp), World.ownsRow_nil _ _ _ _, List.nodup_nil, by simp, by simpa using hcn, ⟨hg0.os, hg0.tape, hg0.output, by omega, fun j hj => hg0.block j hj (by simp)⟩⟩
  clear hrg0 hcn hg0 hs0 h
  go_loopg [3] cnt0 (fun gg lv wr => ∃ xs : List ByteArray, ListIn w b n ps S xs lv gg wr)
  case atStart => exact ⟨[], h0⟩
  case round =>
    clear h0
    obtain ⟨xs, hin⟩ := hrel
    obtain ⟨al, cl, rfl⟩ := own_slice hin.row
    have hrg := hin.rg
    have hlen := hin.len
    have hown := hin.row
    have hszr := hin.rg.lt
    have HI := hide hin
    clear hin
    go_wp2_with (first | (at_next; refine wp_next _ rfl _ rfl 9 Tryz.underlying9 b w.heap.size n (stV ps S) _ gk (fun k => .agg #[.string k, .int .i64 (S k), .int .i64 ((numOf ps k).getD 0 : Nat)]) (stV_some ps S) rfl hrg ?_ ?_) | go_in)
    · intro hdone
      have HD := hide hdone
      have hs := sort_any wr (w.heap.size + 1) ps S al cl xs hown (by omega)
      clear hdone hrg hown
      go_wp2_with fail
      refine hs.mono ?_
      rintro e w2 ⟨rfl, hown2, hg2⟩
      have hp : ListPost w ps S (.returned (.slice al xs.length cl)) w2 := (unhide HI).post (unhide HD) hown2 hg2
      have HP := hide hp
      clear hs hown2 hg2 HI HD hp
      go_wp2_with fail
      go_ret
      exact unhide HP
    · intro k w1 cnt1 hv1 hnx hVk hrg1 hlt hg1 hs1 hen
      have HR1 := hide hrg1
      have HG1 := hide hg1
      have hs1' : w.heap.size < w1.heap.size := by omega
      have HN := hide (And.intro hv1 hnx)
      have hown1 := hown.kept hg1 (by
        rcases ho : (Value.slice al xs.length cl).ownBlock with _ | g
        · exact .inl rfl
        · exact .inr (fun e => by injection e with e; have := own_from hown ho; omega))
      clear hrg hrg1 hg1 hVk hv1 hnx hown hs1
      go_wp2_with (at_builtin; refine wpList_append_own _ rfl _ _ 118 rfl (w.heap.size + 1) 185 i0 _ 3 32 Tryz.underlying118 hi hz0 hz1 hz2 rfl (by decide) _ _ _ rfl ((hown1.alloc _).alloc _) ⟨w1.heap.size + 1, 0, none⟩ 1 1 (stE ps S k) rfl rfl (st_cell w1 _ ps S k) (st_one _ _ _) (by unfold maxLen; omega) (by omega) (by simp; omega) ?_)
      intro v5 w5 hown5 hg5 hne5
      clear hne5
      obtain ⟨a5, cap5, rfl⟩ := own_slice hown5
      have hin5 := (unhide HI).append hblt (unhide HN) (unhide HR1) hlt (unhide HG1) hown5 hg5
      have HI5 := hide hin5
      clear hown5 hg5 hin5 HI HR1 HG1 HN hown1 hen
      go_wp2_with fail
      go_roundg cnt1
      case measure => omega
      case rel => exact ⟨_, unhide HI5⟩
end Go.Proofs.YtldkpahaocjdpaaGreat

namespace Go.Proofs.YtldkpahaocjdpaaGreat
open Go.RowKit

abbrev BT : TypeId := 155
theorem sizeBld : (Tryz.prog.info? 155).map (·.size) = some 2 := by kernel_rfl
theorem liesBld : liesAt Tryz.prog Tryz.prog.depth 155 (2 / Tryz.prog.cellsOf 155) 0 155 1 = true := by kernel_rfl
theorem infoByte : (Tryz.prog.info? 5).map (fun i => (i.zero, i.size, i.bytes)) = some (some (.int .u8 0), 1, 1) := by kernel_rfl

set_option maxHeartbeats 1000000 in
set_option maxRecDepth 100000 in
theorem copy_used (b : Nat) (w : World) (h0 : w.cell? ⟨b, 0, none⟩ = some (.pointer (some ⟨b, 0, none⟩))) :
    Calls Tryz.prog 169 #[.pointer (some ⟨b, 0, none⟩)] w fun e w' => e = .returned (.tuple #[]) ∧ w' = w := by
  obtain ⟨j, hj, _⟩ := Option.map_eq_some_iff.1 sizeBld
  go_enter Tryz.func169, Tryz.ntmps169
  go_wp2
  rw [Lib.run_neq_ptr_same w _ Tryz.underlying153 hj]
  go_wp2
  go_end0
  exact ⟨rfl, rfl⟩

set_option maxHeartbeats 1000000 in
set_option maxRecDepth 100000 in
theorem copy_fresh (b : Nat) (w : World) (h0 : w.cell? ⟨b, 0, none⟩ = some (.pointer none)) (hsh : w.shape? b = some (155, 2)) (hfz : w.frozen? ⟨b, 0, none⟩ = false) :
    Calls Tryz.prog 169 #[.pointer (some ⟨b, 0, none⟩)] w fun e w' => e = .returned (.tuple #[]) ∧ w' = w.setCell ⟨b, 0, none⟩ (.pointer (some ⟨b, 0, none⟩)) := by
  obtain ⟨j, hj, hjs⟩ := Option.map_eq_some_iff.1 sizeBld
  go_enter Tryz.func169, Tryz.ntmps169
  go_wp2
  rw [Lib.run_to_unsafe w ⟨b, 0, none⟩ Tryz.underlying153 Tryz.underlying349 hj (by rw [hjs]; decide) hsh (Nat.zero_lt_succ 1)]
  simp only [Result.andThen]
  rw [Oper.upon_value]
  go_wp2
  rw [run_callFunc_extern Tryz.func219 (by kernel_rfl) (by kernel_rfl) (by kernel_rfl) (e := Extern.AbiNoEscape.same) (by kernel_rfl)]
  rw [Lib.run_noEscape]
  simp only [Result.andThen]
  rw [Oper.upon_value]
  go_wp2
  rw [Lib.run_from_unsafe w ⟨b, 0, none⟩ Tryz.underlying349 Tryz.underlying153 hj hsh liesBld]
  simp only [Result.andThen]
  rw [Oper.upon_value]
  go_wp2
  go_end0
  exact ⟨rfl, rfl⟩

/-- All blocks stay but such as are builders or hold bytes. -/
def KeepT (w w' : World) : Prop := ∀ (x : Nat) (c : Array Value) (e : TypeId) (fr : Nat × Nat), w.heap[x]? = some (.cells c e fr) → e ≠ 155 → e ≠ 5 → w'.heap[x]? = some (.cells c e fr)
theorem KeepT.refl (w : World) : KeepT w w := fun _ _ _ _ h _ _ => h
theorem KeepT.trans {a b c : World} (h : KeepT a b) (k : KeepT b c) : KeepT a c := fun x cc e fr hx h1 h2 => k x cc e fr (h x cc e fr hx h1 h2) h1 h2
theorem KeepT.alloc {a w : World} (h : KeepT a w) (o : Obj) : KeepT a (w.alloc o) := fun x c e fr hx h1 h2 => by
  have h3 := h x c e fr hx h1 h2
  rw [Below.heap_alloc _ _ _ (Array.getElem?_eq_some_iff.1 h3).1]
  exact h3
theorem KeepT.setCell {w : World} {b : Nat} {cs : Array Value} {fr : Nat × Nat} (hb : w.heap[b]? = some (.cells cs 155 fr)) (o : Nat) (v : Value) : KeepT w (w.setCell ⟨b, o, none⟩ v) := fun x c e fr' hx h1 _ => by
  rw [Below.heap_setCell _ _ _ _ (by
    intro h
    simp at h
    subst h
    rw [hb] at hx
    injection hx with hx
    injection hx with _ hx _
    exact h1 hx.symm)]
  exact hx
theorem KeepT.grown {w w1 : World} {B n : Nat} {v : Value} {xs : List Value} (hown : w.ownsRow B 5 1 v n xs) (hg : w.grownBy w1 v.ownBlock) : KeepT w w1 := fun x c e fr hx _ h2 => by
  rw [hg.block x (Array.getElem?_eq_some_iff.1 hx).1 (fun h => ?_)]
  · exact hx
  · rcases hown.2 with ⟨rfl, _⟩ | ⟨g, cap, cur, rfl, _, hgg, _⟩
    · cases h
    · injection h with h
      simp only at h
      subst h
      rw [hx] at hgg
      injection hgg with hgg
      injection hgg with _ hgg _
      exact h2 hgg
theorem KeepT.own {w w' : World} {base : Nat} {e : TypeId} {size : Nat} {v : Value} {n : Nat} {xs : List Value} (k : KeepT w w') (h : w.ownsRow base e size v n xs) (h1 : e ≠ 155) (h2 : e ≠ 5) : w'.ownsRow base e size v n xs := by
  refine ⟨h.1, ?_⟩
  rcases h.2 with hn | ⟨g, cap, cur, rfl, hb, hgg, rest⟩
  · exact .inl hn
  · exact .inr ⟨g, cap, cur, rfl, hb, k g _ _ _ hgg h1 h2, rest⟩

theorem copyCheck_any (B b : Nat) (bs : List Value) (w : World) (h : Lib.IsBuilder 155 5 B b bs w) :
    Calls Tryz.prog 169 #[.pointer (some ⟨b, 0, none⟩)] w fun e w' => e = .returned (.tuple #[]) ∧ Lib.BuilderAt 155 5 B b (.pointer (some ⟨b, 0, none⟩)) bs w' ∧ Below B w w' ∧ KeepT w w' := by
  rcases h with h | h
  · refine (copy_fresh b w h.cell0 h.shape h.frozen0).mono ?_
    rintro e w' ⟨rfl, rfl⟩
    obtain ⟨_, v, hb, _⟩ := id h
    exact ⟨rfl, h.used _, (Below.refl B w).setCell (p := ⟨b, 0, none⟩) h.1 _, KeepT.setCell hb 0 _⟩
  · refine (copy_used b w h.cell0).mono ?_
    rintro e w' ⟨rfl, rfl⟩
    exact ⟨rfl, h, Below.refl B _, KeepT.refl _⟩

theorem cell_one_new' (w1 : World) (x : Value) (ty : TypeId) (j : Nat) (u : Value) (h : ([x] : List Value)[j]? = some u) : (w1.alloc (Obj.cells #[x] ty)).cell? ((⟨w1.heap.size, 0, none⟩ : Addr).add j) = some u := cell_one_new w1 x ty j u h
theorem one_byte (c : Int) : ∀ u ∈ ([Value.int .u8 c] : List Value), u.oneCell' = true := by
  intro u hu; simp at hu; subst hu; rfl

def byteVals (l : List UInt8) : List Value := l.map fun b => Value.int .u8 b.toNat
theorem byteVals_str (l : List UInt8) (s : ByteArray) : byteVals l ++ Lib.strCells s = byteVals (l ++ s.data.toList) := by simp [byteVals, Lib.strCells]
theorem byteVals_one (l : List UInt8) (c : UInt8) : byteVals l ++ [Value.int .u8 c.toNat] = byteVals (l ++ [c]) := by simp [byteVals]
theorem byteVals_len (l : List UInt8) : (byteVals l).length = l.length := by simp [byteVals]

/-- The builder in block b (from B on) holds these bytes. -/
def Holds (B b : Nat) (l : List UInt8) (w : World) : Prop := Lib.IsBuilder 155 5 B b (byteVals l) w

set_option maxHeartbeats 2000000 in
set_option maxRecDepth 100000 in
theorem wstr_any (B b : Nat) (l : List UInt8) (s : ByteArray) (w : World) (h : Holds B b l w) (hlen : l.length + s.size ≤ 140737488355328) (hBw : B ≤ w.heap.size) :
    Calls Tryz.prog 111 #[.pointer (some ⟨b, 0, none⟩), .string s] w fun e w' => e = .returned (.tuple #[.int .i64 s.size, .nilIface]) ∧ Holds B b (l ++ s.data.toList) w' ∧ Below B w w' ∧ KeepT w w' := by
  obtain ⟨i0, hi, hz0, hz1, hz2⟩ := info_parts infoByte
  have hll := byteVals_len l
  go_enter Tryz.func111, Tryz.ntmps111
  go_wp2_with fail
  refine (copyCheck_any B b (byteVals l) _ h).mono ?_
  rintro e w1 ⟨rfl, h1, hb1, hk1⟩
  obtain ⟨hB, v, hbk, hown, hne⟩ := h1
  have c0 : w1.cell? ⟨b, 0, none⟩ = some (.pointer (some ⟨b, 0, none⟩)) := by rw [Lib.cell_of_heap hbk]; rfl
  have c1 : w1.cell? ⟨b, 1, none⟩ = some v := by rw [Lib.cell_of_heap hbk]; rfl
  have hz := hb1.size
  go_wp2_with (at_builtin; refine Lib.wpList_append_own_string _ rfl _ _ 47 9 rfl B 5 i0 Tryz.underlying47 Tryz.underlying9 hi hz0 hz1 hz2 _ _ _ rfl hown s rfl (by unfold maxLen; omega) (by omega) (by omega) ?_)
  intro v' w2 hown' hgrow _
  have hlt : b < w1.heap.size := (Array.getElem?_eq_some_iff.1 hbk).1
  have hb2 : w2.heap[b]? = some (.cells #[.pointer (some ⟨b, 0, none⟩), v] 155 (0, 0)) := by
    rw [hgrow.block b hlt (fun e => hne e.symm)]
    exact hbk
  have d0 : w2.cell? ⟨b, 0, none⟩ = some (.pointer (some ⟨b, 0, none⟩)) := by rw [Lib.cell_of_heap hb2]; rfl
  have d1 : w2.cell? ⟨b, 1, none⟩ = some v := by rw [Lib.cell_of_heap hb2]; rfl
  have f1 : w2.frozen? ⟨b, 1, none⟩ = false := Lib.frozen_of_heap hb2 1
  obtain ⟨ao, n', cap, rfl⟩ : ∃ ao n' cap, v' = .slice ao n' cap := by
    rcases hown'.2 with ⟨hv, _⟩ | ⟨g, cap, cur, hv, _⟩
    · exact ⟨_, _, _, hv⟩
    · exact ⟨_, _, _, hv⟩
  have hput := Lib.BuilderAt.put (T := 155) (e := 5) hB hb2 (v' := .slice ao n' cap) (bs' := byteVals l ++ Lib.strCells s) (by rw [List.length_append, Lib.strCells_length, hll]; exact hown') (by decide)
  rw [byteVals_str] at hput
  have HP := hide hput
  have HK := hide ((hk1.trans (KeepT.grown hown hgrow)).trans (KeepT.setCell hb2 1 (.slice ao n' cap)))
  have HB := hide ((hb1.grown hgrow (by omega) (fun k hk => (hown.lt k hk).1)).setCell (p := ⟨b, 1, none⟩) hB (.slice ao n' cap))
  clear hput hown' hgrow hb1 hown hbk hb2 c0 c1 hk1
  go_wp2_with fail
  go_ret2
  exact ⟨rfl, .inr (unhide HP), unhide HB, unhide HK⟩

set_option maxHeartbeats 2000000 in
set_option maxRecDepth 100000 in
theorem wbyte_any (B b : Nat) (l : List UInt8) (c : UInt8) (w : World) (h : Holds B b l w) (hlen : l.length + 1 ≤ 140737488355328) (hBw : B ≤ w.heap.size) :
    Calls Tryz.prog 167 #[.pointer (some ⟨b, 0, none⟩), .int .u8 c.toNat] w fun e w' => e = .returned .nilIface ∧ Holds B b (l ++ [c]) w' ∧ Below B w w' ∧ KeepT w w' := by
  obtain ⟨i0, hi, hz0, hz1, hz2⟩ := info_parts infoByte
  have hll := byteVals_len l
  go_enter Tryz.func167, Tryz.ntmps167
  go_wp2_with fail
  refine (copyCheck_any B b (byteVals l) _ h).mono ?_
  rintro e w1 ⟨rfl, h1, hb1, hk1⟩
  obtain ⟨hB, v, hbk, hown, hne⟩ := h1
  have c0 : w1.cell? ⟨b, 0, none⟩ = some (.pointer (some ⟨b, 0, none⟩)) := by rw [Lib.cell_of_heap hbk]; rfl
  have c1 : w1.cell? ⟨b, 1, none⟩ = some v := by rw [Lib.cell_of_heap hbk]; rfl
  have hz := hb1.size
  go_wp2_with (at_builtin; refine wpList_append_own _ rfl _ _ 47 rfl B 5 i0 (.int .u8 0) 1 1 Tryz.underlying47 hi hz0 hz1 hz2 rfl (by decide) _ _ _ rfl (hown.alloc _) ⟨w1.heap.size, 0, none⟩ 1 1 [.int .u8 c.toNat] rfl rfl (cell_one_new' w1 _ _) (one_byte _) (by unfold maxLen; omega) (by omega) (by simp; omega) ?_)
  intro v' w2 hown' hgrow _
  have hlt : b < w1.heap.size := (Array.getElem?_eq_some_iff.1 hbk).1
  have hb2 : w2.heap[b]? = some (.cells #[.pointer (some ⟨b, 0, none⟩), v] 155 (0, 0)) := by
    rw [hgrow.block b (by simp; omega) (fun e => hne e.symm), Below.heap_alloc _ _ _ hlt]
    exact hbk
  have d0 : w2.cell? ⟨b, 0, none⟩ = some (.pointer (some ⟨b, 0, none⟩)) := by rw [Lib.cell_of_heap hb2]; rfl
  have d1 : w2.cell? ⟨b, 1, none⟩ = some v := by rw [Lib.cell_of_heap hb2]; rfl
  have f1 : w2.frozen? ⟨b, 1, none⟩ = false := Lib.frozen_of_heap hb2 1
  obtain ⟨ao, n', cap, rfl⟩ : ∃ ao n' cap, v' = .slice ao n' cap := by
    rcases hown'.2 with ⟨hv, _⟩ | ⟨g, cap, cur, hv, _⟩
    · exact ⟨_, _, _, hv⟩
    · exact ⟨_, _, _, hv⟩
  have hput := Lib.BuilderAt.put (T := 155) (e := 5) hB hb2 (v' := .slice ao n' cap) (bs' := byteVals l ++ [.int .u8 c.toNat]) (by rw [List.length_append, hll]; exact hown') (by decide)
  rw [byteVals_one] at hput
  have HP := hide hput
  have HK := hide (((hk1.alloc _).trans (KeepT.grown (hown.alloc _) hgrow)).trans (KeepT.setCell hb2 1 (.slice ao n' cap)))
  have HB := hide (((hb1.alloc (by omega) _).grown hgrow (by simp; omega) (fun k hk => (hown.lt k hk).1)).setCell (p := ⟨b, 1, none⟩) hB (.slice ao n' cap))
  clear hput hown' hgrow hb1 hown hbk hb2 c0 c1 hk1
  go_wp2_with fail
  go_ret
  exact ⟨rfl, .inr (unhide HP), unhide HB, unhide HK⟩
end Go.Proofs.YtldkpahaocjdpaaGreat

namespace Go.Proofs.YtldkpahaocjdpaaGreat
open Go.RowKit

def termsT : List (Bool × ByteArray) → Nat → List UInt8
  | [], _ => []
  | t :: r, i => (if i = 0 then 40 else 44) :: (t.2.data.toList ++ termsT r (i + 1))
def atomT (pd : ByteArray) (ts : List (Bool × ByteArray)) : List UInt8 := pd.data.toList ++ (termsT ts 0 ++ if ts.length = 0 then [] else [41])
def litT (L : PLit) : List UInt8 := (if L.neg then [110, 111, 116, 32] else []) ++ atomT L.pd L.ts
def litsT : List PLit → Nat → List UInt8
  | [], _ => []
  | L :: r, i => (if i = 0 then [32, 58, 45, 32] else [44, 32]) ++ (litT L ++ litsT r (i + 1))
def ruleT (R : PRule) : List UInt8 := atomT R.pd R.ts ++ (litsT R.body 0 ++ [46, 10])
def printT (rs : List PRule) : List UInt8 := rs.flatMap ruleT

theorem termsT_step {ts : List (Bool × ByteArray)} {k : Nat} (h : k < ts.length) : termsT (ts.drop k) k = (if k = 0 then 40 else 44) :: (ts[k].2.data.toList ++ termsT (ts.drop (k + 1)) (k + 1)) := by
  rw [List.drop_eq_getElem_cons h, termsT]
theorem litsT_step {ls : List (PLit × Value)} {k : Nat} (h : k < ls.length) : litsT ((ls.map (·.1)).drop k) k = (if k = 0 then [32, 58, 45, 32] else [44, 32]) ++ (litT ls[k].1 ++ litsT ((ls.map (·.1)).drop (k + 1)) (k + 1)) := by
  rw [List.drop_eq_getElem_cons (by simpa using h), litsT]; simp

theorem size_list (s : ByteArray) : s.data.toList.length = s.size := by rw [Array.length_toList]; rfl

theorem assertName_no (W : World) (v : Value) : (Instr.typeAssert (.iface 130 v) 191 193 true).run Tryz.prog W = .ok (.tuple #[.string { data := #[] }, .bool false]) W := by kernel_rfl

/-- What a writing call leaves. -/
def Wrote (B b : Nat) (w : World) (l : List UInt8) (e : Ending) (w' : World) : Prop := e = .returned (.tuple #[]) ∧ Holds B b l w' ∧ Below B w w' ∧ KeepT w w' ∧ B ≤ w'.heap.size

set_option maxHeartbeats 2000000 in
set_option maxRecDepth 100000 in
theorem wterm_any (B b : Nat) (l : List UInt8) (isV : Bool) (s : ByteArray) (w : World) (h : Holds B b l w) (hlen : l.length + s.size ≤ 140737488355328) (hBw : B ≤ w.heap.size) :
    Calls Tryz.prog 168 #[.pointer (some ⟨b, 0, none⟩), tmVal isV s] w (Wrote B b w (l ++ s.data.toList)) := by
  have hay := assertVar_yes
  have han := assertName_no
  have hnn := assertName_yes
  unfold tmVal
  cases isV with
  | true =>
    rw [if_pos rfl]
    go_enter Tryz.func168, Tryz.ntmps168
    go_wp2_with fail
    refine (wstr_any B b l s _ h hlen hBw).mono ?_
    rintro e w1 ⟨rfl, h1, hb1, hk1⟩
    go_wp2_with fail
    go_end0
    exact ⟨rfl, h1, hb1, hk1, Nat.le_trans hBw hb1.size⟩
  | false =>
    rw [if_neg (by decide)]
    go_enter Tryz.func168, Tryz.ntmps168
    go_wp2_with fail
    refine (wstr_any B b l s _ h hlen hBw).mono ?_
    rintro e w1 ⟨rfl, h1, hb1, hk1⟩
    go_wp2_with fail
    go_end0
    exact ⟨rfl, h1, hb1, hk1, Nat.le_trans hBw hb1.size⟩

theorem Holds.alloc {B b : Nat} {l : List UInt8} {w : World} (h : Holds B b l w) (o : Obj) : Holds B b l (w.alloc o) := by
  have key : ∀ p, Lib.BuilderAt 155 5 B b p (byteVals l) w → Lib.BuilderAt 155 5 B b p (byteVals l) (w.alloc o) := by
    rintro p ⟨hB, v, hb, hown, hne⟩
    exact ⟨hB, v, by rw [Below.heap_alloc _ _ _ (Array.getElem?_eq_some_iff.1 hb).1]; exact hb, hown.alloc o, hne⟩
  rcases h with h | h
  · exact .inl (key _ h)
  · exact .inr (key _ h)

set_option maxHeartbeats 8000000 in
set_option maxRecDepth 100000 in
theorem watom_any (B b : Nat) (l : List UInt8) (pd : ByteArray) (a : Option Addr) (c base : Nat) (ts : List (Bool × ByteArray)) (w : World) (h : Holds B b l w) (hown : w.ownsRow base 191 1 (.slice a ts.length c) ts.length (ptCells ts)) (hlen : l.length + (atomT pd ts).length ≤ 1000000000) (hBw : B ≤ w.heap.size) :
    Calls Tryz.prog 110 #[.pointer (some ⟨b, 0, none⟩), .agg #[.string pd, .slice a ts.length c]] w (Wrote B b w (l ++ atomT pd ts)) := by
  have htm := own_max hown
  unfold maxLen at htm
  have hpl := size_list pd
  have e0 : (atomT pd ts).length = pd.size + ((termsT ts 0).length + (if ts.length = 0 then ([] : List UInt8) else [41]).length) := by simp only [atomT, List.length_append, hpl]
  have hbx : (w.alloc (.cells #[.string pd, .slice a ts.length c] 79)).heap[w.heap.size]? = _ := heap_alloc_new w _
  have bA := (Below.refl w.heap.size w).alloc (Nat.le_refl _) (.cells #[.string pd, .slice a ts.length c] 79)
  have kA := (KeepT.refl w).alloc (.cells #[.string pd, .slice a ts.length c] 79)
  have HE := hide (show l ++ atomT pd ts = l ++ pd.data.toList ++ (termsT ts 0 ++ if ts.length = 0 then [] else [41]) by simp [atomT])
  go_enter Tryz.func110, Tryz.ntmps110
  go_wp2_with fail
  refine (wstr_any B b l pd _ (h.alloc _) (by omega) (by simp; omega)).mono ?_
  rintro e w1 ⟨rfl, h1, hb1, hk1⟩
  have hB1 := (bA.mono hBw).trans hb1
  have hK1 := kA.trans hk1
  have hbx1 := hk1 _ _ _ _ hbx (by decide) (by decide)
  have hown1 := hK1.own hown (by decide) (by decide)
  have hz1 := hb1.size
  rw [World.size_alloc] at hz1
  obtain ⟨x0, xf0⟩ := block_cells hbx1 0
  obtain ⟨x1, xf1⟩ := block_cells hbx1 1
  have HOWN := hide hown
  clear hbx hb1 hk1 bA kA hown h
  by_cases hn : ts.length = 0
  · have hn0 : ((ts.length : Int) == 0) = true := by simp [hn]
    have hts : ts = [] := List.length_eq_zero_iff.1 hn
    have HE2 := hide (show l ++ atomT pd ts = l ++ pd.data.toList by rw [unhide HE, hts]; simp [termsT])
    clear HE hn hts
    go_wp2_with fail
    go_end0
    exact ⟨rfl, by rw [unhide HE2]; exact h1, hB1, hK1, by omega⟩
  · have hn0 : ((ts.length : Int) == 0) = false := by simp; exact fun e => hn (by rw [e]; rfl)
    have e41 : (if ts.length = 0 then ([] : List UInt8) else [41]) = [41] := if_neg hn
    rw [e41] at e0 HE
    have hlast : ([41] : List UInt8).length = 1 := rfl
    rw [hlast] at e0
    clear e41 hn
    go_wp2_with fail
    go_loopg [17] ts.length (fun gg i wr => ∃ (k : Nat) (m : List UInt8), k ≤ ts.length ∧ gg = ts.length - k ∧ i = .int .i64 k ∧ Holds B b m wr ∧ Below B w wr ∧ KeepT w wr ∧ w.heap.size < wr.heap.size ∧ wr.heap[w.heap.size]? = some (.cells #[.string pd, .slice a ts.length c] 79 (0, 0)) ∧ m ++ termsT (ts.drop k) k = l ++ pd.data.toList ++ termsT ts 0)
    case atStart => exact ⟨0, _, Nat.zero_le _, rfl, rfl, h1, hB1, hK1, by omega, hbx1, rfl⟩
    case round =>
      clear h1 hB1 hK1 hbx1 hown1 x0 x1 xf0 xf1
      obtain ⟨k, m, hk, hgk, rfl, h1, hB1, hK1, hsz, hbx1, hm⟩ := hrel
      have hml := congrArg List.length hm
      simp only [List.length_append, hpl] at hml
      by_cases hlk : k < ts.length
      · have hstep := termsT_step hlk
        have HM := hide (hstep ▸ hm)
        rw [hstep] at hml
        simp only [List.length_cons, List.length_append, size_list] at hml
        clear hm hstep
        have hown1 := hK1.own (unhide HOWN) (by decide) (by decide)
        obtain ⟨g, cap, hv, hbg, hgl, hnc, hcm, hc⟩ := own_list1 hown1 k hlk
        injection hv with i1 i2 i3
        subst i1 i3
        obtain ⟨isV, tx, het⟩ : ∃ isV tx, ts[k] = (isV, tx) := ⟨_, _, rfl⟩
        have e1 : ts[k].1 = isV := by rw [het]
        have e2 : ts[k].2 = tx := by rw [het]
        rw [e1, e2] at hc
        rw [e2] at HM hml
        obtain ⟨x1, xf1⟩ := block_cells hbx1 1
        clear het e1 e2 hown1
        have hiface : tmVal isV tx = .iface (if isV then 130 else 193) (.string tx) := rfl
        rw [hiface] at hc
        have HIF := hide hiface
        clear hiface
        generalize hty : (if isV then 130 else 193) = ty at hc
        have HTY := hide hty
        clear hty
        cases k with
        | zero =>
          go_wp2_with fail
          refine (wbyte_any B b m 40 _ h1 (by omega) (by omega)).mono ?_
          rintro e w2 ⟨rfl, h2, hb2, hk2⟩
          have hz2 := hb2.size
          have hbx2 := hk2 _ _ _ _ hbx1 (by decide) (by decide)
          have hB2 := hB1.trans hb2
          have hK2 := hK1.trans hk2
          clear hb2 hk2 hbx1 h1 hB1 hK1 x1 xf1
          go_wp2_with fail
          rw [← unhide HTY, ← unhide HIF]
          refine (wterm_any B b _ isV tx _ h2 (by simp; omega) (by omega)).mono ?_
          rintro e w3 ⟨rfl, h3, hb3, hk3, hz3⟩
          have hbx3 := hk3 _ _ _ _ hbx2 (by decide) (by decide)
          have hz3' := hb3.size
          have HR := hide (And.intro h3 (And.intro (hB2.trans hb3) (And.intro (hK2.trans hk3) hbx3)))
          clear hbx2 hbx3 h2 h3 hb3 hk3 hB2 hK2
          go_wp2_with fail
          go_roundg (ts.length - (0 + 1))
          case measure => omega
          case rel => exact ⟨0 + 1, _, by omega, rfl, by go_num, (unhide HR).1, (unhide HR).2.1, (unhide HR).2.2.1, by omega, (unhide HR).2.2.2, by have := unhide HM; simpa using this⟩
        | succ k =>
          have hk0 : (((k + 1 : Nat) : Int) == 0) = false := by simp; omega
          go_wp2_with fail
          refine (wbyte_any B b m 44 _ h1 (by omega) (by omega)).mono ?_
          rintro e w2 ⟨rfl, h2, hb2, hk2⟩
          have hz2 := hb2.size
          have hbx2 := hk2 _ _ _ _ hbx1 (by decide) (by decide)
          have hB2 := hB1.trans hb2
          have hK2 := hK1.trans hk2
          clear hb2 hk2 hbx1 h1 hB1 hK1 x1 xf1
          go_wp2_with fail
          rw [← unhide HTY, ← unhide HIF]
          refine (wterm_any B b _ isV tx _ h2 (by simp; omega) (by omega)).mono ?_
          rintro e w3 ⟨rfl, h3, hb3, hk3, hz3⟩
          have hbx3 := hk3 _ _ _ _ hbx2 (by decide) (by decide)
          have hz3' := hb3.size
          have HR := hide (And.intro h3 (And.intro (hB2.trans hb3) (And.intro (hK2.trans hk3) hbx3)))
          clear hbx2 hbx3 h2 h3 hb3 hk3 hB2 hK2
          go_wp2_with fail
          go_roundg (ts.length - (k + 1 + 1))
          case measure => omega
          case rel => exact ⟨k + 1 + 1, _, by omega, rfl, by go_num, (unhide HR).1, (unhide HR).2.1, (unhide HR).2.2.1, by omega, (unhide HR).2.2.2, by have := unhide HM; simpa using this⟩
      · have hd : ts.drop k = [] := List.drop_of_length_le (by omega)
        rw [hd] at hm hml
        simp only [termsT, List.append_nil, List.length_nil] at hm hml
        have HM := hide hm
        clear hm hd
        go_wp2_with fail
        refine (wbyte_any B b m 41 _ h1 (by omega) (by omega)).mono ?_
        rintro e w2 ⟨rfl, h2, hb2, hk2⟩
        have hz2 := hb2.size
        have HR := hide (And.intro h2 (And.intro (hB1.trans hb2) (hK1.trans hk2)))
        clear h1 hB1 hK1 h2 hb2 hk2 hbx1
        go_wp2_with fail
        go_end0
        refine ⟨rfl, ?_, (unhide HR).2.1, (unhide HR).2.2, by omega⟩
        rw [unhide HE, ← List.append_assoc, ← unhide HM]
        exact (unhide HR).1
end Go.Proofs.YtldkpahaocjdpaaGreat

namespace Go.Proofs
open Go.Shelf
def Tryz.lays169_ren : Go.Shelf.Ren := ⟨fun | 169 => 72 | n => n, fun | 70 => 153 | 9 => 9 | 0 => 0 | 72 => 155 | 37 => 47 | 127 => 210 | 3 => 3 | 5 => 5 | n => n, fun | n => n⟩
theorem Tryz.lays169 : Go.Proofs.Lays.n169 Tryz.prog Tryz.lays169_ren := {
  mixed := by kernel_rfl
  f169 := Tryz.func72.trans (congrArg some (by kernel_rfl))
  t0 := Tryz.underlying0
  a0 := Tryz.isAgg0
  z0 := Tryz.sizeOf0
  v0 := Tryz.zeroValue0
  t3 := Tryz.underlying3
  a3 := Tryz.isAgg3
  z3 := Tryz.sizeOf3
  v3 := Tryz.zeroValue3
  t9 := Tryz.underlying9
  a9 := Tryz.isAgg9
  z9 := Tryz.sizeOf9
  v9 := Tryz.zeroValue9
  t37 := Tryz.underlying47
  a37 := Tryz.isAgg47
  z37 := Tryz.sizeOf47
  v37 := Tryz.zeroValue47
  t70 := Tryz.underlying153
  a70 := Tryz.isAgg153
  z70 := Tryz.sizeOf153
  v70 := Tryz.zeroValue153
  t72 := Tryz.underlying155
  a72 := Tryz.isAgg155
  z72 := Tryz.sizeOf155
  v72 := Tryz.zeroValue155
  t127 := Tryz.underlying210
  a127 := Tryz.isAgg210
  z127 := Tryz.sizeOf210
  v127 := Tryz.zeroValue210 }
theorem Tryz.Builder_Extra_169 : Builder.Extra Tryz.prog Tryz.lays169_ren := {
  sizeBuilder := by kernel_rfl
  liesBuilder := by kernel_rfl
  t5 := Tryz.underlying5
  a5 := Tryz.isAgg5
  z5 := Tryz.sizeOf5
  v5 := Tryz.zeroValue5
  infoByte := by kernel_rfl
  cellsByte := by kernel_rfl
  sizeByte := by kernel_rfl
  neB5 := by decide }
open Go.RowKit in
theorem Tryz.Builder_String (B b : Nat) (l : List UInt8) (w : World) (h : Lib.IsBuilder 155 5 B b (Lib.byteCells l) w) (h0 : l ≠ []) :
    Calls Tryz.prog 72 #[.pointer (some ⟨b, 0, none⟩)] w fun e w' => e = .returned (.string ⟨l.toArray⟩) ∧ Below B w w' := Any.Builder_String Tryz.lays169 Tryz.Builder_Extra_169 B b l w h h0
open Go.RowKit in
theorem Tryz.Builder_String_empty (B b : Nat) (w : World) (h : Lib.IsBuilder 155 5 B b [] w) (hBw : B ≤ w.heap.size) :
    Calls Tryz.prog 72 #[.pointer (some ⟨b, 0, none⟩)] w fun e w' => e = .returned (.string ⟨#[]⟩) ∧ Below B w w' := Any.Builder_String_empty Tryz.lays169 Tryz.Builder_Extra_169 B b w h hBw
open Go.RowKit in
theorem Tryz.Builder_String_any (B b : Nat) (l : List UInt8) (w : World) (h : Lib.IsBuilder 155 5 B b (Lib.byteCells l) w) (hBw : B ≤ w.heap.size) :
    Calls Tryz.prog 72 #[.pointer (some ⟨b, 0, none⟩)] w fun e w' => e = .returned (.string ⟨l.toArray⟩) ∧ Below B w w' := Any.Builder_String_any Tryz.lays169 Tryz.Builder_Extra_169 B b l w h hBw
end Go.Proofs
