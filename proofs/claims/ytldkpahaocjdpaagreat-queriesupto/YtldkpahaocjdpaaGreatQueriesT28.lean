/-
  The program's list, Print and Strata.
  The reference's text of an atom, and its Print: the very bytes that the program writes.
  The law's ownStrata: the list is written over with its mark, and three are begun at it.
  The law's book.stratum: one entry more.
  The law's looks, over a book in which each entry holds its own mark.
  The law's asked, at a Print and at a Strata.
-/
import Derived.Test.YtldkpahaocjdpaaGreatQueriesT25
import Derived.Shelf.SlSortCmp.NoneTotal
import Derived.Test.YtldkpahaocjdpaaGreatProg
import Derived.Test.YtldkpahaocjdpaaGreatQueriesT26
import Derived.Test.YtldkpahaocjdpaaGreatQueriesT24
import Derived.Test.YtldkpahaocjdpaaGreatQueriesT27
import Derived.Test.YtldkpahaocjdpaaGreatQueriesT20
import Derived.Test.YtldkpahaocjdpaaGreatQueriesT15
import Derived.Laws.Concat
import Derived.Deep.AppendLies
import Derived.Deep.RegionLaw
import Derived.Test.YtldkpahaocjdpaaGreatQueriesT12
import Derived.Test.YtldkpahaocjdpaaGreatQueriesT21
import Derived.BigRegion
import Derived.BigQuiet
import Derived.Deep.QuietTactic
set_option maxHeartbeats 16000000
namespace Go.Proofs.YtldkpahaocjdpaaGreat
section
open Go.RowKit Go.Maps
set_option maxRecDepth 100000 in
theorem zof (w : World) (b : Nat) (v : Value) (a : Option Addr) (n c : Nat) (hv : v = .slice a n c) (hb : w.cell? ⟨b, 0, none⟩ = some v) :
  Calls Tryz.prog 36 #[.pointer (some ⟨b, 0, none⟩)] w fun e w' => e = .returned (.slice a n c) ∧ w' = w := by
 subst hv
 go_enter Tryz.func36, Tryz.ntmps36
 go_wp2_with fail
 go_ret
 exact ⟨rfl, rfl⟩
end
section
open Go.RowKit
theorem zkp (a b : ByteArray) (h : a.size + b.size ≤ 2000000000) (w : World) : (Op.stringOp .add a b).run Tryz.prog w = .ok (.string (a ++ b)) w := run_string_add_sum w a b (by omega)
theorem lit1 (c : UInt8) : (ByteArray.mk #[c]).size = 1 := rfl
theorem zh6 (a b : ByteArray) : (a ++ b).data.toList = a.data.toList ++ b.data.toList := by simp
theorem cat_size (a b : ByteArray) : (a ++ b).size = a.size + b.size := by simp [ByteArray.size_append]
def zdb (A : RAtom) : List UInt8 := zet A.pred (A.terms.map tmOf)
theorem zoc {l : List RTerm} {k : Nat} (h : k < l.length) : zbh ((l.map tmOf).drop k) k = (if k = 0 then 40 else 44) :: (l[k].text.data.toList ++ zbh ((l.map tmOf).drop (k + 1)) (k + 1)) := by
 rw [List.drop_eq_getElem_cons (by simpa using h), zbh]; simp [tmOf]
set_option maxRecDepth 100000 in
theorem rtext_any (w : World) (base : Nat) (A : RAtom) (a : Option Addr) (c : Nat) (h : w.ownsRow base 317 3 (.slice a A.terms.length c) A.terms.length (cellsOf A.terms)) (hlen : (zdb A).length ≤ 1000000000) :
  Calls Tryz.prog 134 #[.agg #[.string A.pred, .slice a A.terms.length c, .bool A.no, .int .i64 A.at_, .int .i64 A.noAt]] w fun e w' => ∃ s : ByteArray, e = .returned (.string s) ∧ s.data.toList = zdb A ∧ Below w.heap.size w w' := by
 have htm := zbt h
 unfold maxLen at htm
 have hpl := zc0 A.pred
 have bA := (Below.refl w.heap.size w).alloc (Nat.le_refl _) (.cells #[.string A.pred, .slice a A.terms.length c, .bool A.no, .int .i64 A.at_, .int .i64 A.noAt] 243)
 have h0 := zai h bA (fun g e => (h.lt g e).2)
 have e0 : (zdb A).length = A.pred.size + ((zbh (A.terms.map tmOf) 0).length + (if A.terms.length = 0 then ([] : List UInt8) else [41]).length) := by simp [zdb, zet, hpl]
 have HE := hide (show zdb A = A.pred.data.toList ++ (zbh (A.terms.map tmOf) 0 ++ if A.terms.length = 0 then [] else [41]) by simp [zdb, zet])
 clear h
 go_enter Tryz.func134, Tryz.ntmps134
 go_wp2_with fail
 go_loop [3, 4] (fun v i => ∃ (k : Nat) (s : ByteArray), k ≤ A.terms.length ∧ v = .string s ∧ i = .int .i64 k ∧ s.data.toList ++ zbh ((A.terms.map tmOf).drop k) k = A.pred.data.toList ++ zbh (A.terms.map tmOf) 0) (fun _ i => A.terms.length - (intOf i).toNat)
 case atStart => exact ⟨0, A.pred, Nat.zero_le _, rfl, rfl, rfl⟩
 case round =>
  obtain ⟨k, s, hk, rfl, rfl, hm⟩ := hrel
  have hml := congrArg List.length hm
  simp only [List.length_append, hpl, zc0] at hml
  by_cases hlk : k < A.terms.length
  ·have hstep := zoc hlk
   rw [hstep] at hm hml
   simp only [List.length_cons, List.length_append, zc0] at hml
   have HM := hide hm
   clear hm hstep
   obtain ⟨g, cap, hv, hbg, hgl, hnc, hcm, q0, q1, q2⟩ := zdx h0 k hlk
   injection hv with i1 i2 i3
   subst i1 i3
   cases k with
   | zero =>
    have c1 := zkp s { data := #[40] } (by rw [lit1]; omega)
    have c2 := zkp (s ++ { data := #[40] }) A.terms[0].text (by rw [cat_size, lit1]; omega)
    go_wp2_with fail
    go_round
    case rel => exact ⟨0 + 1, _, by omega, rfl, by go_num, by rw [zh6, zh6]; have := zaa HM; simpa using this⟩
    case measure => simp [intOf]; omega
   | succ k =>
    have hk0 : (((k + 1 : Nat) : Int) == 0) = false := by simp; omega
    have c1 := zkp s { data := #[44] } (by rw [lit1]; omega)
    have c2 := zkp (s ++ { data := #[44] }) A.terms[k + 1].text (by rw [cat_size, lit1]; omega)
    go_wp2_with fail
    go_round
    case rel => exact ⟨k + 1 + 1, _, by omega, rfl, by go_num, by rw [zh6, zh6]; have := zaa HM; simpa using this⟩
    case measure => simp [intOf]; omega
  ·have hd : (A.terms.map tmOf).drop k = [] := List.drop_of_length_le (by simp; omega)
   rw [hd] at hm hml
   simp only [zbh, List.append_nil, List.length_nil] at hm hml
   have HM := hide hm
   clear hm hd
   by_cases hn : A.terms.length = 0
   ·have hn0 : ¬ (0 < (A.terms.length : Int)) := by omega
    have HE2 := hide (show zdb A = A.pred.data.toList ++ zbh (A.terms.map tmOf) 0 by rw [zaa HE, if_pos hn]; simp)
    clear HE hn
    go_wp2_with fail
    go_ret
    exact ⟨s, rfl, by rw [zaa HM, zaa HE2], bA⟩
   ·have hn0 : 0 < (A.terms.length : Int) := by omega
    have HE2 := hide (show zdb A = A.pred.data.toList ++ zbh (A.terms.map tmOf) 0 ++ [41] by rw [zaa HE, if_neg hn]; simp)
    rw [if_neg hn, show ([41] : List UInt8).length = 1 from rfl] at e0
    have c1 := zkp s { data := #[41] } (by rw [lit1]; omega)
    clear HE hn
    go_wp2_with fail
    go_ret
    exact ⟨_, rfl, by rw [zh6, zaa HM, zaa HE2], bA⟩
theorem zl7 (w : World) (base : Nat) (A : RAtom) (a : Option Addr) (c : Nat) (no : Bool) (x y : Nat) (h : w.ownsRow base 317 3 (.slice a A.terms.length c) A.terms.length (cellsOf A.terms)) (hlen : (zdb A).length ≤ 1000000000) :
  Calls Tryz.prog 134 #[.agg #[.string A.pred, .slice a A.terms.length c, .bool no, .int .i64 x, .int .i64 y]] w fun e w' => ∃ s : ByteArray, e = .returned (.string s) ∧ s.data.toList = zdb A ∧ Below w.heap.size w w' :=
 rtext_any w base ⟨A.pred, A.terms, no, x, y⟩ a c h hlen
end
section
open Go.RowKit
theorem AppPart.where_ {w w' : World} {v v' : Value} {n m : Nat} (h : AppPart w w' v v' n m) : ∀ g ∈ v'.ownBlock.toList, g ∈ v.ownBlock.toList ∨ w.heap.size ≤ g := by
 intro g hg
 rcases h with ⟨g', cap, rfl, rfl, _, _⟩ | ⟨g', cap, rfl, hge, _, _⟩
 ·exact .inl (by simpa [Value.ownBlock] using hg)
 ·right
  have : g = g' := by simpa [Value.ownBlock] using hg
  omega
theorem Grow.where_ {w2 w : World} {base : Nat} {e : TypeId} {mk : List Value} {a : Option Addr} {n cap i : Nat} {v3 : Value} (h : Grow w2 base e mk a n cap i v3 w) : ∀ g ∈ v3.ownBlock.toList, g ∈ (Value.slice a n cap).ownBlock.toList ∨ w2.heap.size ≤ g := by
 intro g hg
 rcases h.at_ with he | ⟨hf, _⟩
 ·left
  rw [he] at hg
  cases a with
  | none => simp [Value.ownBlock] at hg
  | some a => simpa [Value.ownBlock] using hg
 ·exact .inr (hf g (by simpa using hg))
structure OwnIn (w : World) (e : TypeId) (mk : List Value) (m : MB) (w' : World) : Prop where
 mark : MarkF w' e mk m
 kept : Kept m.l.ownBlock.toList w w'
 far : ∀ g ∈ m.blocks, g ∈ m.l.ownBlock.toList ∨ w.heap.size ≤ g
theorem OwnIn.of {w w0 w1 w2 w3 : World} {e : TypeId} {mk : List Value} {a a1 a2 a3 : Option Addr} {n cap c1 c2 c3 mark : Nat} (hw : Kept (Value.slice a n cap).ownBlock.toList w w0) (h0 : Lm w0 0 e mk (.slice a n cap) n) {wa wb : World} (ka : Kept [] w0 wa) (kb : Kept [] w1 wb) (p1 : AppPart wa w1 (.slice a n cap) (.slice a1 (n + 1) c1) n 1) (m1 : Lm w1 0 e mk (.slice a1 (n + 1) c1) (n + 1)) (p2 : AppPart wb w2 (.slice a n cap) (.slice a2 (n + 2) c2) n 2) (m2 : Lm w2 0 e mk (.slice a2 (n + 2) c2) (n + 2)) (h : Grow w2 0 e mk a n cap 64 (.slice a3 (n + 64) c3) w3) (hn : n ≤ 1000) (hm : mark ≤ 1000000000) :
  OwnIn w e mk ⟨.slice a n cap, .slice a1 (n + 1) c1, .slice a2 (n + 2) c2, .slice a3 (n + 64) c3, mark⟩ w3 := by
 have ha : Lm wa 0 e mk (.slice a n cap) n := h0.kept ka (by simp)
 have k1 := p1.kept
 have k2 := p2.kept
 have f1 : Lm wb 0 e mk (.slice a n cap) n := (p1.first (by omega) ha m1).kept kb (by simp)
 have m1' : Lm wb 0 e mk (.slice a1 (n + 1) c1) (n + 1) := m1.kept kb (by simp)
 obtain ⟨M, hM, hr⟩ := h.reach
 have hcl := h0.cap
 have q1 : Lm w3 0 e mk (.slice a1 (n + 1) c1) (n + 1) := p1.other (by omega) ha m1' (k2.trans h.kept) hM (by omega)
 have q2 : Lm w3 0 e mk (.slice a2 (n + 2) c2) (n + 2) := p2.other (by omega) f1 m2 h.kept hM (by omega)
 have q0 : Lm w3 0 e mk (.slice a n cap) n := by
  by_cases hM0 : 0 < M
  ·exact hM.pre (by omega) hM0
  ·have hn0 : n = 0 := by omega
   have hM1 : M = 0 := by omega
   subst hn0 hM1
   exact hM
 have s0 := hw.size
 have sa := ka.size
 have s1 := k1.size
 have sb := kb.size
 have s2 := k2.size
 refine ⟨⟨hm, n, hn, q0, q1, q2, h.lm⟩, (hw.trans ((ka.mono (by simp)).trans (k1.trans ((kb.mono (by simp)).trans (k2.trans h.kept))))), fun g hg => ?_⟩
 simp only [MB.blocks, List.mem_append] at hg
 rcases hg with ((hg | hg) | hg) | hg
 ·exact .inl hg
 ·exact (p1.where_ g hg).imp id (by omega)
 ·exact (p2.where_ g hg).imp id (by omega)
 ·exact (h.where_ g hg).imp id (by omega)
def OwnPost (w : World) (e0 : TypeId) (mk : List Value) (a : Option Addr) (n cap mark : Nat) : Ending → World → Prop := fun e w' =>
 ∃ (a1 a2 a3 : Option Addr) (c1 c2 c3 : Nat), e = .returned (.agg #[.slice a n cap, .slice a1 (n + 1) c1, .slice a2 (n + 2) c2, .slice a3 (n + 64) c3, .int .i64 mark]) ∧ OwnIn w e0 mk ⟨.slice a n cap, .slice a1 (n + 1) c1, .slice a2 (n + 2) c2, .slice a3 (n + 64) c3, mark⟩ w'
theorem stay2 {w w0 w' : World} {a : Option Addr} {n cap : Nat} {e : TypeId} {xs : List Value} {size : Nat} (hl : w.ownsRow 0 e size (.slice a n cap) n xs) {b : Nat} {o : Obj} (hb : w0.heap[b]? = some o) (hwb : w.heap.size ≤ b) (k : Kept (Value.slice a n cap).ownBlock.toList w0 w') : w'.heap[b]? = some o := by
 rw [k.block b (Array.getElem?_eq_some_iff.1 hb).1 (fun hm => by have := (hl.lt b (by simpa using hm)).2; omega)]
 exact hb
theorem rep_one (mk : List Value) (n : Nat) : rep mk (n + 1) = rep mk n ++ mk := by rw [zmw]; simp [rep]
theorem rep_two (mk : List Value) (n : Nat) : rep mk (n + 2) = rep mk n ++ (mk ++ mk) := by rw [zmw]; simp [rep]
theorem Grow.kept0 {w2 w w' : World} {base : Nat} {e : TypeId} {mk : List Value} {a : Option Addr} {n cap i : Nat} {v3 : Value} (h : Grow w2 base e mk a n cap i v3 w) (k : Kept [] w w') : Grow w2 base e mk a n cap i v3 w' :=
 ⟨h.lm.kept k (by simp), h.kept.trans (k.mono (by simp)), h.at_.imp id fun x => ⟨x.1, x.2.kept k (by simp)⟩⟩
theorem OwnIn.past {w w3 w4 : World} {e : TypeId} {mk : List Value} {m : MB} (h : OwnIn w e mk m w3) {x : Nat} (k : Kept [x] w3 w4) (hx : w.heap.size ≤ x) (ht : NotT w3 e x) : OwnIn w e mk m w4 :=
 ⟨h.mark.kept k (fun y hy => .inl (by rw [List.mem_singleton.1 hy]; exact ht)), h.kept.step k (fun y hy => .inr (by rw [List.mem_singleton.1 hy]; exact hx)), h.far⟩
end
section
open Go.RowKit
theorem book_end {w w1 W w5 : World} {b j : Nat} {A A' : Array Value} {tB e : TypeId} {mk : Nat → List Value} {v : Value} {ms : List MB} {m : MB} {a' : Option Addr} {c' : Nat} (hblk : w1.heap[b]? = some (.cells A 69 (0, 0))) (hB : BookIn w1 (b + 1) tB e mk v ms) (hO : OwnIn w e (mk m.mark) m w1) (hW : Kept [] w1 W) (hg : W.grownBy w5 v.ownBlock) (hown : w5.ownsRow (b + 1) tB 5 (.slice a' (ms.length + 1) c') (ms.length + 1) (ms.flatMap MB.cells ++ m.cells)) (hat : v.ownBlock = (Value.slice a' (ms.length + 1) c').ownBlock ∨ ∀ g, (Value.slice a' (ms.length + 1) c').ownBlock = some g → W.heap.size ≤ g) (h1 : 69 ≠ tB) (h2 : 69 ≠ e) (h3 : tB ≠ e) (hA : A.setIfInBounds j (.slice a' (ms.length + 1) c') = A') :
  BookIn (w5.setCell ⟨b, j, none⟩ (.slice a' (ms.length + 1) c')) (b + 1) tB e mk (.slice a' (ms.length + 1) c') (ms ++ [m]) ∧ (w5.setCell ⟨b, j, none⟩ (.slice a' (ms.length + 1) c')).heap[b]? = some (.cells A' 69 (0, 0)) ∧ Kept (b :: (v.ownBlock.toList ++ m.l.ownBlock.toList)) w (w5.setCell ⟨b, j, none⟩ (.slice a' (ms.length + 1) c')) ∧ (∀ g ∈ (Value.slice a' (ms.length + 1) c').ownBlock.toList, g ∈ v.ownBlock.toList ∨ w.heap.size ≤ g) ∧ w5.heap[b]? = some (.cells A 69 (0, 0)) := by
 have k5 : Kept v.ownBlock.toList w1 w5 := (hW.mono (by simp)).trans (Kept.of_grown hg)
 have hb5 : w5.heap[b]? = some (.cells A 69 (0, 0)) := za1 hblk k5 (fun x hx => .inr (zaz hB.row (Ne.symm h1) x hx))
 have k3 : Kept (b :: v.ownBlock.toList) w1 (w5.setCell ⟨b, j, none⟩ (.slice a' (ms.length + 1) c')) := Kept.setCell (p := ⟨b, j, none⟩) (k5.mono fun x hx => .inl (List.mem_cons_of_mem _ hx)) (.inl List.mem_cons_self) _
 have hs1 := hO.kept.size
 have hsW := hW.size
 refine ⟨hB.add hO.mark k3 (ownsRow_setCell_below (a := ⟨b, j, none⟩) hown (by simp) _) (zfq hblk h2) h3, ?_, ?_, fun g hgm => ?_, hb5⟩
 ·rw [heap_setCell_same _ _ _ _ _ _ hb5, hA]
 ·refine (hO.kept.mono fun x hx => .inl (List.mem_cons_of_mem _ (List.mem_append_right _ hx))).step k3 fun x hx => .inl ?_
  rcases List.mem_cons.1 hx with rfl | hx
  ·exact List.mem_cons_self
  ·exact List.mem_cons_of_mem _ (List.mem_append_left _ hx)
 ·rcases hat with h | h
  ·rw [← h] at hgm; exact .inl hgm
  ·exact .inr (by have := h g (by simpa using hgm); omega)
structure StIn (w : World) (b : Nat) (A' : Value → Array Value) (tB e : TypeId) (mk : Nat → List Value) (v : Value) (ms : List MB) (lv : Value) (v' : Value) (m : MB) (w' : World) : Prop where
 blk : w'.heap[b]? = some (.cells (A' v') 69 (0, 0))
 book : BookIn w' (b + 1) tB e mk v' (ms ++ [m])
 kept : Kept (b :: (v.ownBlock.toList ++ lv.ownBlock.toList)) w w'
 far : ∀ g ∈ m.blocks, g ∈ lv.ownBlock.toList ∨ w.heap.size ≤ g
 row : ∀ g ∈ v'.ownBlock.toList, g ∈ v.ownBlock.toList ∨ w.heap.size ≤ g
def StPost (w : World) (b : Nat) (A' : Value → Array Value) (tB e0 : TypeId) (mk : Nat → List Value) (v : Value) (ms : List MB) (lv : Value) : Ending → World → Prop := fun e w' => e = .returned (.tuple #[]) ∧ ∃ v' m, StIn w b A' tB e0 mk v ms lv v' m w'
end
section
open Go.RowKit
def zcz (w : World) : Ending → World → Prop := fun e w' => e = .returned (.bool true) ∧ Below w.heap.size w w'
def MB.agg (m : MB) : Value := .agg #[m.l, m.one, m.two, m.three, .int .i64 (m.mark : Nat)]
theorem MarkF.shape {w : World} {e : TypeId} {mk : List Value} {m : MB} (h : MarkF w e mk m) : ∃ (a1 a2 a3 a4 : Option Addr) (n c1 c2 c3 c4 : Nat), n ≤ 1000 ∧ m.l = .slice a1 n c1 ∧ m.one = .slice a2 (n + 1) c2 ∧ m.two = .slice a3 (n + 2) c3 ∧ m.three = .slice a4 (n + 64) c4 := by
 obtain ⟨n, hn, h1, h2, h3, h4⟩ := h.each
 obtain ⟨a1, c1, e1⟩ := zac h1
 obtain ⟨a2, c2, e2⟩ := zac h2
 obtain ⟨a3, c3, e3⟩ := zac h3
 obtain ⟨a4, c4, e4⟩ := zac h4
 exact ⟨a1, a2, a3, a4, n, c1, c2, c3, c4, hn, e1, e2, e3, e4⟩
theorem BookIn.at_ {w : World} {base : Nat} {tB e : TypeId} {mk : Nat → List Value} {v : Value} {ms : List MB} (h : BookIn w base tB e mk v ms) {k : Nat} (hk : k < ms.length) : ∃ g cap, v = .slice (some ⟨g, 0, none⟩) ms.length cap ∧ g < w.heap.size ∧ ms.length ≤ cap ∧ cap ≤ maxLen ∧ w.cell? ⟨g, k * 5, none⟩ = some ms[k].l ∧ w.cell? ⟨g, k * 5 + 1, none⟩ = some ms[k].one ∧ w.cell? ⟨g, k * 5 + 2, none⟩ = some ms[k].two ∧ w.cell? ⟨g, k * 5 + 3, none⟩ = some ms[k].three ∧ w.cell? ⟨g, k * 5 + 4, none⟩ = some (.int .i64 (ms[k].mark : Nat)) := by
 obtain ⟨g, cap, hv, -, hgl, hnc, hcm, hc⟩ := zc7 (f := MB.cells) (fun _ => rfl) h.row k hk
 have p0 := hc 0 (by simp)
 have p1 := hc 1 (by simp)
 have p2 := hc 2 (by simp)
 have p3 := hc 3 (by simp)
 have p4 := hc 4 (by simp)
 simp only [MB.cells, Nat.add_zero, List.getElem?_cons_zero, List.getElem?_cons_succ] at p0 p1 p2 p3 p4
 exact ⟨g, cap, hv, hgl, hnc, hcm, p0, p1, p2, p3, p4⟩
set_option maxRecDepth 100000 in
theorem looks_any (w : World) (b : Nat) (psv bv tv sv : Value) (mb mt ms : List MB) (fB fT fS : Nat → List Value) (hblk : w.heap[b]? = some (.cells #[psv, bv, tv, sv] 69 (0, 0))) (hB : BookIn w (b + 1) 115 5 fB bv mb) (hT : BookIn w (b + 1) 117 9 fT tv mt) (hS : BookIn w (b + 1) 120 185 fS sv ms)
  (hlb : mb.length ≤ 100000000) (hlt : mt.length ≤ 100000000) (hls : ms.length ≤ 100000000)
  (cB : ∀ m ∈ mb, ∀ w', MarkF w' 5 (fB m.mark) m → Calls Tryz.prog 52 #[m.agg] w' (zcz w')) (cT : ∀ m ∈ mt, ∀ w', MarkF w' 9 (fT m.mark) m → Calls Tryz.prog 53 #[m.agg] w' (zcz w')) (cS : ∀ m ∈ ms, ∀ w', MarkF w' 185 (fS m.mark) m → Calls Tryz.prog 54 #[m.agg] w' (zcz w')) :
  Calls Tryz.prog 33 #[.pointer (some ⟨b, 1, none⟩)] w (zcz w) := by
 obtain ⟨ab, cb, rfl⟩ := zac hB.row
 obtain ⟨at', ct, rfl⟩ := zac hT.row
 obtain ⟨as_, cs, rfl⟩ := zac hS.row
 have HBK := hide hblk
 have hbl := (Array.getElem?_eq_some_iff.1 hblk).1
 have HB := hide hB
 have HT := hide hT
 have HS := hide hS
 have CB := hide cB
 have CT := hide cT
 have CS := hide cS
 clear hB hT hS cB cT cS hblk
 go_enter Tryz.func33, Tryz.ntmps33
 go_wp2_with fail
 go_loopg [3, 4] mb.length (fun gg ok i wr => ∃ k : Nat, k ≤ mb.length ∧ gg = mb.length - k ∧ ok = .bool true ∧ i = .int .i64 k ∧ Below w.heap.size w wr)
 case atStart => exact ⟨0, Nat.zero_le _, rfl, rfl, rfl, Below.refl _ _⟩
 case round =>
  obtain ⟨k, hk, hgk, rfl, rfl, hb⟩ := hrel
  have hblk := (hb.block b hbl).trans (zaa HBK)
  have hsz := hb.size
  obtain ⟨x1, xf1⟩ := zab hblk 1
  by_cases hlk : k < mb.length
  ·as_aux_lemma =>
   obtain ⟨g, cap, hv, hgl, hnc, hcm, p0, p1, p2, p3, p4⟩ := ((zaa HB).below hb).at_ hlk
   have hm := (((zaa HB).below hb).each mb[k] (List.getElem_mem hlk))
   have hc := zaa CB mb[k] (List.getElem_mem hlk) wr hm
   obtain ⟨a1, a2, a3, a4, n, c1, c2, c3, c4, hn, e1, e2, e3, e4⟩ := hm.shape
   unfold MB.agg at hc
   rw [e1, e2, e3, e4] at hc
   rw [e1] at p0
   rw [e2] at p1
   rw [e3] at p2
   rw [e4] at p3
   injection hv with h1 h2 h3
   subst h1 h3
   clear hm e1 e2 e3 e4 hblk
   generalize mb[k].mark = mkk at *
   go_wp2_with fail
   refine hc.mono ?_
   rintro e w1 ⟨rfl, hb1⟩
   have HB1 := hide (hb.trans (hb1.mono hsz))
   clear hb1 hb hc p0 p1 p2 p3 p4 x1 xf1
   go_wp2_with fail
   go_roundg (mb.length - (k + 1))
   case measure => omega
   case rel => exact ⟨k + 1, by omega, rfl, rfl, by go_num, zaa HB1⟩
  ·clear HB CB hblk
   have HH := hide hb
   clear hb
   go_wp2_with fail
   go_loopg [3, 6] mt.length (fun gg ok i wr => ∃ k : Nat, k ≤ mt.length ∧ gg = mt.length - k ∧ ok = .bool true ∧ i = .int .i64 k ∧ Below w.heap.size w wr)
   case atStart => exact ⟨0, Nat.zero_le _, rfl, rfl, rfl, zaa HH⟩
   case round =>
    clear HH x1 xf1 hsz
    obtain ⟨k2, hk2, hgk2, rfl, rfl, hb⟩ := hrel
    have hblk := (hb.block b hbl).trans (zaa HBK)
    have hsz := hb.size
    obtain ⟨x1, xf1⟩ := zab hblk 2
    by_cases hlk2 : k2 < mt.length
    ·as_aux_lemma =>
     obtain ⟨g, cap, hv, hgl, hnc, hcm, p0, p1, p2, p3, p4⟩ := ((zaa HT).below hb).at_ hlk2
     have hm := (((zaa HT).below hb).each mt[k2] (List.getElem_mem hlk2))
     have hc := zaa CT mt[k2] (List.getElem_mem hlk2) wr hm
     obtain ⟨a1, a2, a3, a4, n, c1, c2, c3, c4, hn, e1, e2, e3, e4⟩ := hm.shape
     unfold MB.agg at hc
     rw [e1, e2, e3, e4] at hc
     rw [e1] at p0
     rw [e2] at p1
     rw [e3] at p2
     rw [e4] at p3
     injection hv with h1 h2 h3
     subst h1 h3
     clear hm e1 e2 e3 e4 hblk
     generalize mt[k2].mark = mkk at *
     go_wp2_with fail
     refine hc.mono ?_
     rintro e w1 ⟨rfl, hb1⟩
     have HB1 := hide (hb.trans (hb1.mono hsz))
     clear hb1 hb hc p0 p1 p2 p3 p4 x1 xf1
     go_wp2_with fail
     go_roundg (mt.length - (k2 + 1))
     case measure => omega
     case rel => exact ⟨k2 + 1, by omega, rfl, rfl, by go_num, zaa HB1⟩
    ·clear HT CT hblk
     have HH := hide hb
     clear hb
     go_wp2_with fail
     go_loopg [3, 8] ms.length (fun gg ok i wr => ∃ k : Nat, k ≤ ms.length ∧ gg = ms.length - k ∧ ok = .bool true ∧ i = .int .i64 k ∧ Below w.heap.size w wr)
     case atStart => exact ⟨0, Nat.zero_le _, rfl, rfl, rfl, zaa HH⟩
     case round =>
      clear HH x1 xf1 hsz
      obtain ⟨k3, hk3, hgk3, rfl, rfl, hb⟩ := hrel
      have hblk := (hb.block b hbl).trans (zaa HBK)
      have hsz := hb.size
      obtain ⟨x1, xf1⟩ := zab hblk 3
      by_cases hlk3 : k3 < ms.length
      ·as_aux_lemma =>
       obtain ⟨g, cap, hv, hgl, hnc, hcm, p0, p1, p2, p3, p4⟩ := ((zaa HS).below hb).at_ hlk3
       have hm := (((zaa HS).below hb).each ms[k3] (List.getElem_mem hlk3))
       have hc := zaa CS ms[k3] (List.getElem_mem hlk3) wr hm
       obtain ⟨a1, a2, a3, a4, n, c1, c2, c3, c4, hn, e1, e2, e3, e4⟩ := hm.shape
       unfold MB.agg at hc
       rw [e1, e2, e3, e4] at hc
       rw [e1] at p0
       rw [e2] at p1
       rw [e3] at p2
       rw [e4] at p3
       injection hv with h1 h2 h3
       subst h1 h3
       clear hm e1 e2 e3 e4 hblk
       generalize ms[k3].mark = mkk at *
       go_wp2_with fail
       refine hc.mono ?_
       rintro e w1 ⟨rfl, hb1⟩
       have HB1 := hide (hb.trans (hb1.mono hsz))
       clear hb1 hb hc p0 p1 p2 p3 p4 x1 xf1
       go_wp2_with fail
       go_roundg (ms.length - (k3 + 1))
       case measure => omega
       case rel => exact ⟨k3 + 1, by omega, rfl, rfl, by go_num, zaa HB1⟩
      ·clear hblk
       have HH := hide hb
       clear hb
       go_wp2_with fail
       go_ret
       exact ⟨rfl, zaa HH⟩
end
section
open Go.RowKit Go.Maps
theorem EntF.below {s : ByteArray} {xb yb : Nat} {w w' : World} {lo : Nat} (h : EntF s xb yb w lo) (k : Below w.heap.size w w') : EntF s xb yb w' lo := h.kept ((Kept.refl _ w).of_below k)
theorem two_book {w W w5 w6 : World} {b B1 : Nat} {A1 A2 : Value → Array Value} {tB e : TypeId} {mk : Nat → List Value} {v v5 v6 lv kv : Value} {ms : List MB} {m5 m6 : MB} (hB : Below w.heap.size w W) (s5 : StIn W b A1 tB e mk v ms lv v5 m5 w5) (s6 : StIn w5 b A2 tB e mk v5 (ms ++ [m5]) kv v6 m6 w6) (hl : ∀ g ∈ lv.ownBlock.toList, w.heap.size ≤ g ∧ g < B1) (hk : ∀ g ∈ kv.ownBlock.toList, w.heap.size ≤ g) :
  Kept (b :: v.ownBlock.toList) w w6 ∧ (∀ g ∈ v6.ownBlock.toList, g ∈ v.ownBlock.toList ∨ w.heap.size ≤ g) := by
 have hsW := hB.size
 have hs5 := s5.kept.size
 have k5 : Kept (b :: v.ownBlock.toList) w w5 := ((Kept.refl _ w).of_below hB).step s5.kept fun x hx => by
  rcases List.mem_cons.1 hx with rfl | hx
  ·exact .inl List.mem_cons_self
  ·rcases List.mem_append.1 hx with hx | hx
   ·exact .inl (List.mem_cons_of_mem _ hx)
   ·exact .inr (hl x hx).1
 have h5 : ∀ g ∈ v5.ownBlock.toList, g ∈ v.ownBlock.toList ∨ w.heap.size ≤ g := fun g hg => (s5.row g hg).imp id (by omega)
 refine ⟨k5.step s6.kept fun x hx => ?_, fun g hg => ?_⟩
 ·rcases List.mem_cons.1 hx with rfl | hx
  ·exact .inl List.mem_cons_self
  ·rcases List.mem_append.1 hx with hx | hx
   ·exact (h5 x hx).imp (List.mem_cons_of_mem _) id
   ·exact .inr (hk x hx)
 ·rcases s6.row g hg with h | h
  ·exact h5 g h
  ·exact .inr (by omega)
def AskPost (w : World) (b : Nat) (psv bv tv sv : Value) (es : List PE) (mb mt ms : List MB) : Ending → World → Prop := fun e w' => e = .returned (.bool true) ∧ ∃ bv' tv' sv' mb' mt' ms', LW w' b psv bv' tv' sv' es mb' mt' ms' ∧ mb'.length ≤ mb.length + 2 ∧ mt'.length ≤ mt.length + 2 ∧ ms'.length ≤ ms.length + 2 ∧ Kept (chg b psv bv tv sv) w w'
end
end Go.Proofs.YtldkpahaocjdpaaGreat
