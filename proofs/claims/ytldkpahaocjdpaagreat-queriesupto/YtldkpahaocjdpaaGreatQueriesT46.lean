/-
  The reference's Ask.
  The reference's Query: a text is moved down to its place.
  The reference's Query: the facts that match, their texts by rising order.
-/
import Derived.Test.YtldkpahaocjdpaaGreatQueriesT18
import Derived.Test.YtldkpahaocjdpaaGreatQueriesT14
import Derived.Test.YtldkpahaocjdpaaGreatQueriesT20
import Derived.BigRegion
import Derived.Deep.RegionHeld3
import Derived.Test.YtldkpahaocjdpaaGreatQueriesT45
import Derived.Test.YtldkpahaocjdpaaGreatQueriesT25
set_option maxHeartbeats 16000000
namespace Go.Proofs.YtldkpahaocjdpaaGreat
section
open Go.RowKit
def zaw (s : ByteArray) : RAtom := ⟨(tok s 0).text, (zag s 0 (-1)).1, false, (tok s 0).at_, 0⟩
def zhy (s : ByteArray) : Bool := decide ((zag s 0 (-1)).2.2 < 0) && (tok s (zag s 0 (-1)).2.1).kind == 46
def zh0 (ps : List (ByteArray × Nat)) (s : ByteArray) : Bool := zhy s && zdf ps (tok s 0).text (zag s 0 (-1)).1.length
structure AskIn (w : World) (s : ByteArray) (v : Value) (w' : World) : Prop where
 below : Below w.heap.size w w'
 row : w'.ownsRow w.heap.size 317 3 v (zaw s).terms.length (cellsOf (zaw s).terms)
def RAskPost (w : World) (ps : List (ByteArray × Nat)) (s : ByteArray) (e : Ending) (w' : World) : Prop :=
 ∃ v, e = .returned (.tuple #[(zaw s).val v, .bool (zh0 ps s)]) ∧ AskIn w s v w'
theorem ask_start {s : ByteArray} {w w1 : World} (hb1 : Below (w.alloc (Obj.cells #[Value.string s, .int .u8 0, .string { data := #[] }, .int .i64 0, .int .i64 0, .int .i64 (-1)] 235)).heap.size (w.alloc (Obj.cells #[Value.string s, .int .u8 0, .string { data := #[] }, .int .i64 0, .int .i64 0, .int .i64 (-1)] 235)) w1) :
  Pars ((((w1.setCell ⟨w.heap.size, 1, none⟩ (.int .u8 (tok s 0).kind)).setCell ⟨w.heap.size, 2, none⟩ (.string (tok s 0).text)).setCell ⟨w.heap.size, 3, none⟩ (.int .i64 (tok s 0).at_)).setCell ⟨w.heap.size, 4, none⟩ (.int .i64 (tok s 0).to)) w.heap.size s 0 (-1) ∧ Below w.heap.size w ((((w1.setCell ⟨w.heap.size, 1, none⟩ (.int .u8 (tok s 0).kind)).setCell ⟨w.heap.size, 2, none⟩ (.string (tok s 0).text)).setCell ⟨w.heap.size, 3, none⟩ (.int .i64 (tok s 0).at_)).setCell ⟨w.heap.size, 4, none⟩ (.int .i64 (tok s 0).to)) := by
 have hz := hb1.size
 simp at hz
 have x : ∀ j, w1.cell? ⟨w.heap.size, j, none⟩ = #[Value.string s, .int .u8 0, .string { data := #[] }, .int .i64 0, .int .i64 0, .int .i64 (-1)][j]? := fun j => (hb1.cell (p := ⟨w.heap.size, j, none⟩) (by simp)).trans (by rw [World.cell?_alloc_at _ _ _ _ rfl])
 have xf : ∀ j, w1.frozen? ⟨w.heap.size, j, none⟩ = false := fun j => (hb1.frozen (p := ⟨w.heap.size, j, none⟩) (by simp)).trans (by rw [World.frozen?_alloc_at _ _ _ _ rfl])
 have x0 : w1.cell? ⟨w.heap.size, 0, none⟩ = some (.string s) := x 0
 have x1 : w1.cell? ⟨w.heap.size, 1, none⟩ = some (.int .u8 0) := x 1
 have x2 : w1.cell? ⟨w.heap.size, 2, none⟩ = some (.string { data := #[] }) := x 2
 have x3 : w1.cell? ⟨w.heap.size, 3, none⟩ = some (.int .i64 0) := x 3
 have x4 : w1.cell? ⟨w.heap.size, 4, none⟩ = some (.int .i64 0) := x 4
 have x5 : w1.cell? ⟨w.heap.size, 5, none⟩ = some (.int .i64 (-1)) := x 5
 clear x
 have kk := zka w1 w.heap.size (.int .u8 (tok s 0).kind) (.string (tok s 0).text) (.int .i64 (tok s 0).at_) (.int .i64 (tok s 0).to)
 have hbb : Below w.heap.size w w1 := ((Below.refl _ _).alloc (Nat.le_refl _) _).trans (hb1.mono (by simp))
 refine ⟨?_, zar hbb kk hbb.size (fun b hm => by simp at hm; omega)⟩
 refine ⟨by simp; omega, ?_, ?_, ?_, ?_, ?_, ?_, ?_⟩
 all_goals go_simp
theorem ask_end {w w2 w' : World} {s : ByteArray} {v : Value} {n : Nat} (hn : w.heap.size < n) (hown : w2.ownsRow n 317 3 v (zaw s).terms.length (cellsOf (zaw s).terms)) (hb : Below w.heap.size w w2) (k : Kept [w.heap.size] w2 w') : AskIn w s v w' := by
 refine ⟨zar hb k hb.size (fun b hm => by simp at hm; omega), ?_⟩
 refine ⟨hown.1, ?_⟩
 rcases hown.2 with hn | ⟨g, cap, cur, rfl, hb', hgg, rest⟩
 ·exact .inl hn
 ·refine .inr ⟨g, cap, cur, rfl, by omega, ?_, rest⟩
  rw [k.block g (Array.getElem?_eq_some_iff.1 hgg).1 (by simp; omega)]
  exact hgg
set_option maxRecDepth 1000000 in
theorem ask_any (w : World) (o : Nat) (rs : List RR) (ps : List (ByteArray × Nat)) (rv pv tv sv : Value) (h : PMem w o rs ps rv pv tv sv) (s : ByteArray) (hsm : s.size ≤ maxLen) :
  Calls Tryz.prog 130 #[.pointer (some ⟨o, 0, none⟩), .string s] w (RAskPost w ps s) := by
 have hoW0 := h.lt
 have hgw0 : ∀ {ix g cap : Nat}, ix < ps.length → tv = .slice (some ⟨g, 0, none⟩) ps.length cap → g < w.heap.size := fun hi he => by subst he; exact (h.terms.lt _ rfl).2
 have H := hide h
 clear h
 go_enter Tryz.func130, Tryz.ntmps130
 go_wp2_with fail
 refine (zm6 s 0 (Nat.zero_le _) hsm _).mono ?_
 rintro e w1 ⟨rfl, hb1⟩
 obtain ⟨r1, r2⟩ := zj0 hb1
 have hz : w.heap.size < w1.heap.size := by have := hb1.size; simp at this; omega
 have hst := ask_start hb1
 rw [show (w.alloc (Obj.cells #[Value.string { data := #[] }, .slice none 0 0, .bool false, .int .i64 0, .int .i64 0] 243)).heap.size = w.heap.size + 1 by simp] at hst
 have HST := hide hst.1
 have HSB := hide (((Below.refl w.heap.size w).alloc (Nat.le_refl _) _).trans (hst.2.mono (Nat.le_succ _)))
 have HSA := hide hst.2
 clear hst
 go_wp2_with fail
 clear r1 r2 hb1
 generalize hW : (((w1.setCell ⟨w.heap.size + 1, 1, none⟩ (.int .u8 (tok s 0).kind)).setCell ⟨w.heap.size + 1, 2, none⟩ (.string (tok s 0).text)).setCell ⟨w.heap.size + 1, 3, none⟩ (.int .i64 (tok s 0).at_)).setCell ⟨w.heap.size + 1, 4, none⟩ (.int .i64 (tok s 0).to) = W at *
 clear hW
 refine (zig s 0 (-1) (w.heap.size + 1) W (zaa HST) (Nat.zero_le _) hsm).mono ?_
 rintro e w2 ⟨v, rfl, hk2, hp2, hl2, hown2⟩
 have hws := (zaa HSB).size
 have hbl : Below w.heap.size w w2 := zar (zaa HSB) hk2 hws (fun b hm => by simp at hm; omega)
 have hown := zaf hown2 hws
 obtain ⟨av, cv, rfl⟩ := zac hown
 have hprog := (zaa H).kept ((Kept.refl [] _).of_below hbl) (by simp)
 obtain ⟨hltp, c0, c1, c2, c3, c4, c5, fz⟩ := hp2
 have hA : ∀ j, w2.cell? ⟨w.heap.size, j, none⟩ = #[Value.string { data := #[] }, .slice none 0 0, .bool false, .int .i64 0, .int .i64 0][j]? := fun j => ((hk2.cell (p := ⟨w.heap.size, j, none⟩) (by show w.heap.size < _; have := (zaa HST).lt; omega) (by simp)).trans ((zaa HSA).cell (p := ⟨w.heap.size, j, none⟩) (by simp))).trans (by rw [World.cell?_alloc_at _ _ _ _ rfl])
 have fA : ∀ j, w2.frozen? ⟨w.heap.size, j, none⟩ = false := fun j => ((hk2.frozen (p := ⟨w.heap.size, j, none⟩) (by show w.heap.size < _; have := (zaa HST).lt; omega) (by simp)).trans ((zaa HSA).frozen (p := ⟨w.heap.size, j, none⟩) (by simp))).trans (by rw [World.frozen?_alloc_at _ _ _ _ rfl])
 have a0 := hA 0
 have a1 := hA 1
 have a2 := hA 2
 have a3 := hA 3
 have a4 := hA 4
 have hfin := fun (w' : World) (k : Kept [w.heap.size] w2 w') => ask_end (s := s) (show w.heap.size < W.heap.size by have := (zaa HST).lt; omega) hown2 hbl k
 have HFIN := hide hfin
 have HP := hide hprog
 have hlt : w.heap.size < w2.heap.size := by omega
 have HPR := hide (fun (nm : ByteArray) (wr : World) (hb : Below w2.heap.size w2 wr) => zfe wr o rs ps _ _ _ _ nm (hprog.kept ((Kept.refl [] _).of_below hb) (by simp)))
 clear hA hown hown2 hprog hbl hk2 HSA HSB HST c0 c2 c3 c4 fz hws hfin H
 simp only [List.getElem?_toArray, List.getElem?_cons_zero, List.getElem?_cons_succ] at a0 a1 a2 a3 a4
 by_cases hbad : 0 ≤ (zag s 0 (-1)).2.2
 ·have HOK := hide (show zh0 ps s = false by unfold zh0 zhy; simp; omega)
  go_wp2_with fail
  obtain ⟨q0, q1, q2, q3, q4⟩ := set5 a0 a1 a2 a3 a4 (.string (tok s 0).text) (.slice av (zag s 0 (-1)).fst.length cv) (.bool false) (.int .i64 (tok s 0).at_) (.int .i64 0)
  have k5 := zn0 w2 w.heap.size (.string (tok s 0).text) (.slice av (zag s 0 (-1)).fst.length cv) (.bool false) (.int .i64 (tok s 0).at_) (.int .i64 0)
  have q0 := zdi q0; have q1 := zdi q1; have q2 := zdi q2; have q3 := zdi q3; have q4 := zdi q4
  refine bodyPost_ret (v := .tuple #[(zaw s).val (.slice av (zag s 0 (-1)).fst.length cv), .bool false]) (by simp [results, Tryz.results130, go_sem, zaw, RAtom.val, q0, q1, q2, q3, q4]) rfl ⟨_, by rw [zaa HOK], zaa HFIN _ (k5.alloc _)⟩
 ·cases hk : (tok s (zag s 0 (-1)).2.1).kind == 46 with
  | false =>
   have HOK := hide (show zh0 ps s = false by unfold zh0 zhy; simp [hk])
   have hk2 : ((tok s (zag s 0 (-1)).2.1).kind != 46) = true := by simp [bne, hk]
   go_wp2_with fail
   obtain ⟨q0, q1, q2, q3, q4⟩ := set5 a0 a1 a2 a3 a4 (.string (tok s 0).text) (.slice av (zag s 0 (-1)).fst.length cv) (.bool false) (.int .i64 (tok s 0).at_) (.int .i64 0)
   have k5 := zn0 w2 w.heap.size (.string (tok s 0).text) (.slice av (zag s 0 (-1)).fst.length cv) (.bool false) (.int .i64 (tok s 0).at_) (.int .i64 0)
   have q0 := zdi q0; have q1 := zdi q1; have q2 := zdi q2; have q3 := zdi q3; have q4 := zdi q4
   refine bodyPost_ret (v := .tuple #[(zaw s).val (.slice av (zag s 0 (-1)).fst.length cv), .bool false]) (by simp [results, Tryz.results130, go_sem, zaw, RAtom.val, q0, q1, q2, q3, q4]) rfl ⟨_, by rw [zaa HOK], zaa HFIN _ (k5.alloc _)⟩
  | true =>
   have hk2 : ((tok s (zag s 0 (-1)).2.1).kind != 46) = false := by simp [bne, hk]
   have HOK := hide (show zh0 ps s = zdf ps (tok s 0).text (zag s 0 (-1)).1.length by unfold zh0 zhy; simp [hk]; omega)
   go_wp2_with fail
   refine (zaa HPR (tok s 0).text _ ((Below.refl _ _).alloc (Nat.le_refl _) _)).mono ?_
   rintro e w3 ⟨rfl, hw3⟩
   subst hw3
   have k3 := (Kept.refl [] w2).alloc (.cells #[.string (tok s 0).text, .slice av (zag s 0 (-1)).fst.length cv, .bool false, .int .i64 (tok s 0).at_, .int .i64 0] 243)
   have HP3 := hide ((zaa HP).kept k3 (by simp))
   have HFIN3 := hide (fun (w' : World) (k : Kept [w.heap.size] (w2.alloc (.cells #[.string (tok s 0).text, .slice av (zag s 0 (-1)).fst.length cv, .bool false, .int .i64 (tok s 0).at_, .int .i64 0] 243)) w') => zaa HFIN w' ((k3.mono (by simp)).trans k))
   have b0 := fun j => zb1 w2 (.string (tok s 0).text) (.slice av (zag s 0 (-1)).fst.length cv) (.bool false) (.int .i64 (tok s 0).at_) (.int .i64 0) 243 j
   have a0 := (k3.cell (p := ⟨w.heap.size, 0, none⟩) hlt (by simp)).trans a0
   have a1 := (k3.cell (p := ⟨w.heap.size, 1, none⟩) hlt (by simp)).trans a1
   have a2 := (k3.cell (p := ⟨w.heap.size, 2, none⟩) hlt (by simp)).trans a2
   have a3 := (k3.cell (p := ⟨w.heap.size, 3, none⟩) hlt (by simp)).trans a3
   have a4 := (k3.cell (p := ⟨w.heap.size, 4, none⟩) hlt (by simp)).trans a4
   have fA := fun j => (k3.frozen (p := ⟨w.heap.size, j, none⟩) hlt (by simp)).trans (fA j)
   have hsz : w2.heap.size < (w2.alloc (.cells #[.string (tok s 0).text, .slice av (zag s 0 (-1)).fst.length cv, .bool false, .int .i64 (tok s 0).at_, .int .i64 0] 243)).heap.size := by simp
   generalize w2.alloc (.cells #[.string (tok s 0).text, .slice av (zag s 0 (-1)).fst.length cv, .bool false, .int .i64 (tok s 0).at_, .int .i64 0] 243) = wr at *
   have b00 : wr.cell? ⟨w2.heap.size, 0, none⟩ = some (.string (tok s 0).text) := b0 0
   have b01 : wr.cell? ⟨w2.heap.size, 1, none⟩ = some (.slice av (zag s 0 (-1)).fst.length cv) := b0 1
   have b02 : wr.cell? ⟨w2.heap.size, 2, none⟩ = some (.bool false) := b0 2
   have b03 : wr.cell? ⟨w2.heap.size, 3, none⟩ = some (.int .i64 (tok s 0).at_) := b0 3
   have b04 : wr.cell? ⟨w2.heap.size, 4, none⟩ = some (.int .i64 0) := b0 4
   have hoW : o < w.heap.size := hoW0
   clear b0 k3 HP HFIN c1 c5
   by_cases hix : zak ps (tok s 0).text < 0
   ·have HM := hide (show zdf ps (tok s 0).text (zag s 0 (-1)).1.length = true by simp [zdf, hix])
    clear HPR HP3 hgw0
    go_wp2_with fail
    go_region
    go_wp2_with fail
    obtain ⟨q0, q1, q2, q3, q4⟩ := set5 a0 a1 a2 a3 a4 (.string (tok s 0).text) (.slice av (zag s 0 (-1)).fst.length cv) (.bool false) (.int .i64 (tok s 0).at_) (.int .i64 0)
    have k5 := zn0 wr w.heap.size (.string (tok s 0).text) (.slice av (zag s 0 (-1)).fst.length cv) (.bool false) (.int .i64 (tok s 0).at_) (.int .i64 0)
    refine bodyPost_ret (v := .tuple #[(zaw s).val (.slice av (zag s 0 (-1)).fst.length cv), .bool true]) (by simp [results, Tryz.results130, go_sem, zaw, RAtom.val, q0, q1, q2, q3, q4]) rfl ⟨_, by rw [zaa HOK, zaa HM], zaa HFIN3 _ k5.drew⟩
   ·obtain ⟨ix, hixe⟩ : ∃ ix : Nat, zak ps (tok s 0).text = (ix : Int) := ⟨_, (Int.toNat_of_nonneg (by omega)).symm⟩
    have hixn : ix < ps.length := by have := zcc (show 0 ≤ zak ps (tok s 0).text by omega); rw [hixe] at this; simpa using this
    have HM := hide (show zdf ps (tok s 0).text (zag s 0 (-1)).1.length = ((ps[ix].2 : Int) == (zag s 0 (-1)).1.length) by unfold zdf; rw [if_neg hix, hixe]; simp [List.getD_eq_getElem?_getD, hixn])
    rw [hixe]
    have hc2 := (zaa HP3).c2
    obtain ⟨g, cap, hv, hgb, hnc, hcm, hc⟩ := zen (zaa HP3).terms (by omega)
    have hck := hc ix hixn
    rw [List.getElem?_map, List.getElem?_eq_getElem hixn] at hck
    simp only [Option.map_some] at hck
    have hgl := World.block_lt_of_cell? wr _ hck
    simp only at hgl
    have hgw : g < w.heap.size := hgw0 hixn hv
    clear hgw0
    subst hv
    have hixI : (ix : Int) < ps.length := by omega
    unfold maxLen at hcm
    clear HPR HP3 hc
    go_wp2_with fail
    have n1 : w.heap.size ≠ o := by omega
    have n2 : w.heap.size ≠ g := by omega
    have n3 : w.heap.size ≠ w2.heap.size := by omega
    go_region_held3 (fun w' => w'.cell? ⟨o, 2, none⟩ = some (.slice (some ⟨g, 0, none⟩) ps.length cap) ∧ w'.cell? ⟨g, ix, none⟩ = some (.int .i64 (ps[ix].2 : Nat)) ∧ w'.cell? ⟨w2.heap.size, 0, none⟩ = some (.string (tok s 0).text) ∧ w'.cell? ⟨w2.heap.size, 1, none⟩ = some (.slice av (zag s 0 (-1)).fst.length cv) ∧ w'.cell? ⟨w2.heap.size, 2, none⟩ = some (.bool false) ∧ w'.cell? ⟨w2.heap.size, 3, none⟩ = some (.int .i64 (tok s 0).at_) ∧ w'.cell? ⟨w2.heap.size, 4, none⟩ = some (.int .i64 0)) (go_keep) (fail)
    go_wp2_with fail
    obtain ⟨q0, q1, q2, q3, q4⟩ := set5 a0 a1 a2 a3 a4 (.string (tok s 0).text) (.slice av (zag s 0 (-1)).fst.length cv) (.bool false) (.int .i64 (tok s 0).at_) (.int .i64 0)
    have k5 := zn0 wr w.heap.size (.string (tok s 0).text) (.slice av (zag s 0 (-1)).fst.length cv) (.bool false) (.int .i64 (tok s 0).at_) (.int .i64 0)
    refine bodyPost_ret (v := .tuple #[(zaw s).val (.slice av (zag s 0 (-1)).fst.length cv), .bool ((ps[ix].2 : Int) == (zag s 0 (-1)).1.length)]) (by simp [results, Tryz.results130, go_sem, zaw, RAtom.val, q0, q1, q2, q3, q4]; intro h; omega) rfl ⟨_, by rw [zaa HOK, zaa HM], zaa HFIN3 _ k5.drew⟩
end
section
open Go.RowKit Go.Maps
noncomputable def queryL (k : Nat) : Code := ((Tryz.f88.body.map zfk).getD []).getD k .skip
def RisT (zs : List ByteArray) : Prop := zp4 (zs.map fun t => (t, 0, 0))
structure InsT (A : List ByteArray) (x : ByteArray) (B : List ByteArray) : Prop where
 ris : RisT (A ++ B)
 up : ∀ b ∈ B, zd0 x b = true
theorem InsT.ins {A B : List ByteArray} {x : ByteArray} (h : InsT A x B) : Ins ((A ++ x :: B).map fun t => ((t, 0, 0) : Stm)) (A.map fun t => (t, 0, 0)) (x, 0, 0) (B.map fun t => (t, 0, 0)) :=
 ⟨by simp, by have := h.ris; unfold RisT at this; simpa using this, fun b hb => by
  obtain ⟨t, ht, rfl⟩ := List.mem_map.1 hb
  exact h.up t ht⟩
theorem InsT.done0 {B : List ByteArray} {x : ByteArray} (h : InsT [] x B) : RisT (x :: B) := h.ins.done (fun A' a e => by simp at e)
theorem InsT.done1 {A B : List ByteArray} {a x : ByteArray} (h : InsT (A ++ [a]) x B) (hl : zd0 x a = false) : RisT (A ++ a :: x :: B) := by
 have := h.ins.done (fun A' a' e => by
  rw [List.map_append] at e
  have h2 := (List.append_inj' e rfl).2
  simp at h2
  rw [← h2]; exact hl)
 unfold RisT
 simpa using this
theorem InsT.down {A B : List ByteArray} {a x : ByteArray} (h : InsT (A ++ [a]) x B) (hl : zd0 x a = true) : InsT A x (a :: B) :=
 ⟨by have := h.ris; simpa using this, fun b hb => by rcases List.mem_cons.1 hb with rfl | hb; exact hl; exact h.up b hb⟩
structure TxIn (w : World) (base : Nat) (v : Value) (n : Nat) (zs : List ByteArray) (wr : World) : Prop where
 kept : Kept v.ownBlock.toList w wr
 row : wr.ownsRow base 9 1 v n (zs.map .string)
theorem TxIn.drewN {w : World} {base : Nat} {v : Value} {n : Nat} {zs : List ByteArray} {wr : World} (h : TxIn w base v n zs wr) (k : Nat) : TxIn w base v n zs (wr.drewN k) := ⟨⟨h.kept.os, h.kept.tape, h.kept.output, h.kept.size, h.kept.block⟩, h.row⟩
theorem TxIn.swap {w : World} {base g n cap m : Nat} {A B : List ByteArray} {a x : ByteArray} {wr : World} (h : TxIn w base (.slice (some ⟨g, 0, none⟩) n cap) n (A ++ a :: x :: B) wr) (hm : A.length = m) : TxIn w base (.slice (some ⟨g, 0, none⟩) n cap) n (A ++ x :: a :: B) ((wr.setCell ⟨g, m + 1, none⟩ (.string a)).setCell ⟨g, m, none⟩ (.string x)) := by
 subst hm
 refine ⟨(h.kept.setCell (by simp [Value.ownBlock]) _).setCell (by simp [Value.ownBlock]) _, ?_⟩
 have := zbw (zbw h.row (A.length + 1) (.string a)) A.length (.string x)
 rw [show ((List.map Value.string (A ++ a :: x :: B)).set (A.length + 1) (.string a)).set A.length (.string x) = (A ++ x :: a :: B).map .string by simp] at this
 exact this
set_option maxRecDepth 1000000 in
theorem query1 (w : World) (base : Nat) (ag : Option Addr) (n cap : Nat) (hn50 : n ≤ 1000) (zs : List ByteArray) (y : ByteArray) (m0 : Nat) (hm0 : zs.length = m0) (hn : n = m0 + 1) (hso : RisT zs) (hI : TxIn w base (.slice ag n cap) n (zs ++ [y]) w)
  {Q : Exit → Act → World → Prop} {c0 c1 c2 c3 c4 c5 c6 c7 c8 c9 c10 c12 c13 c14 c16 c17 c18 c19 c20 c21 c22 c23 c24 c25 c26 c27 c28 c29 c30 c31 c32 c33 c34 c35 c36 c37 c38 c39 c40 c41 c42 c43 c44 c45 c46 c47 c48 c49 c50 c51 c52 c53 c54 c55 c56 c57 c58 c59 c60 c61 c62 c63 c64 c65 c66 c67 c68 c69 c70 c71 c72 c73 c74 c75 c76 c77 c78 c79 c80 c81 c82 c83 c84 c85 c86 c87 c88 c89 c90 c91 c92 c93 c94 c95 c96 c97 c98 c99 c100 c101 c102 : Value}
  (hexit : ∀ (zs' : List ByteArray) (w2 : World) (u15 u16 u69 u70 u71 u72 u73 u74 u75 u76 u77 u78 u79 u80 u81 u82 u83 u84 u85 u86 u87 u88 u89 u90 u91 u92 u93 u94 u95 u96 u97 u98 u99 u100 u101 : Value), TxIn w base (.slice ag n cap) n zs' w2 → RisT zs' → zs'.Perm (zs ++ [y]) → Q (.exit 2) ⟨List.toArray (c0 :: c1 :: c2 :: c3 :: c4 :: c5 :: c6 :: c7 :: c8 :: c9 :: c10 :: .slice ag n cap :: c12 :: c13 :: c14 :: u15 :: u16 :: c17 :: c18 :: c19 :: c20 :: c21 :: c22 :: c23 :: c24 :: c25 :: c26 :: c27 :: c28 :: c29 :: c30 :: c31 :: c32 :: c33 :: c34 :: c35 :: c36 :: c37 :: c38 :: c39 :: c40 :: c41 :: c42 :: c43 :: c44 :: c45 :: c46 :: c47 :: c48 :: c49 :: c50 :: c51 :: c52 :: c53 :: c54 :: c55 :: c56 :: c57 :: c58 :: c59 :: c60 :: c61 :: c62 :: c63 :: c64 :: c65 :: c66 :: c67 :: c68 :: u69 :: u70 :: u71 :: u72 :: u73 :: u74 :: u75 :: u76 :: u77 :: u78 :: u79 :: u80 :: u81 :: u82 :: u83 :: u84 :: u85 :: u86 :: u87 :: u88 :: u89 :: u90 :: u91 :: u92 :: u93 :: u94 :: u95 :: u96 :: u97 :: u98 :: u99 :: u100 :: u101 :: c102 :: []), []⟩ w2) :
  Code.wp Tryz.prog (Code.loop (queryL 1)) Q ⟨List.toArray (c0 :: c1 :: c2 :: c3 :: c4 :: c5 :: c6 :: c7 :: c8 :: c9 :: c10 :: .slice ag n cap :: c12 :: c13 :: c14 :: .int .i64 m0 :: c16 :: c17 :: c18 :: c19 :: c20 :: c21 :: c22 :: c23 :: c24 :: c25 :: c26 :: c27 :: c28 :: c29 :: c30 :: c31 :: c32 :: c33 :: c34 :: c35 :: c36 :: c37 :: c38 :: c39 :: c40 :: c41 :: c42 :: c43 :: c44 :: c45 :: c46 :: c47 :: c48 :: c49 :: c50 :: c51 :: c52 :: c53 :: c54 :: c55 :: c56 :: c57 :: c58 :: c59 :: c60 :: c61 :: c62 :: c63 :: c64 :: c65 :: c66 :: c67 :: c68 :: c69 :: c70 :: c71 :: c72 :: c73 :: c74 :: c75 :: c76 :: c77 :: c78 :: c79 :: c80 :: c81 :: c82 :: c83 :: c84 :: c85 :: c86 :: c87 :: c88 :: c89 :: c90 :: c91 :: c92 :: c93 :: c94 :: c95 :: c96 :: c97 :: c98 :: c99 :: c100 :: c101 :: c102 :: []), []⟩ w := by
 conv => arg 2; arg 1; whnf
 have HI := hide hI
 have HX := hide hexit
 have HL := hide hm0
 have HSO := hide hso
 have hn1 : m0 < n := by omega
 clear hI hexit hm0 hso hn
 go_loopg [15] m0 (fun gg kk wr => ∃ (A : List ByteArray) (x : ByteArray) (B : List ByteArray), gg = A.length ∧ kk = .int .i64 A.length ∧ A.length ≤ m0 ∧ TxIn w base (.slice ag n cap) n (A ++ x :: B) wr ∧ InsT A x B ∧ (A ++ x :: B).Perm (zs ++ [y]))
 case atStart => exact ⟨zs, y, [], (zaa HL).symm, by rw [zaa HL], Nat.le_of_eq (zaa HL), zaa HI, ⟨by rw [List.append_nil]; exact zaa HSO, by simp⟩, List.Perm.refl _⟩
 case round =>
  clear HI HSO HL
  obtain ⟨A, x, B, hgA, rfl, hAi, hI, hins, hperm⟩ := hrel
  rcases List.eq_nil_or_concat A with e | ⟨A', a, e⟩
  ·subst e
   have HI := hide (show TxIn w base (.slice ag n cap) n (x :: B) wr from hI)
   have HS := hide hins.done0
   have HP := hide (show (x :: B).Perm (zs ++ [y]) from hperm)
   have hg0 : decide ((0 : Int) < ((([] : List ByteArray).length : Nat) : Int)) = false := by decide
   clear hI hins hperm
   go_wp2_with fail
   go_quiet (fail)
   go_wp2_with fail
   apply zaa HX
   ·exact (zaa HI).drewN _
   ·exact zaa HS
   ·exact zaa HP
  ·rw [List.concat_eq_append] at e
   subst e
   have hI' : TxIn w base (.slice ag n cap) n (A' ++ a :: x :: B) wr := by simpa using hI
   have hP' : (A' ++ a :: x :: B).Perm (zs ++ [y]) := by simpa using hperm
   have hAl : (A' ++ [a]).length = A'.length + 1 := by simp
   rw [hAl]
   rw [hAl] at hgA hAi
   obtain ⟨g, cap', hv, hgb, hnc, hcm, hc⟩ := zen hI'.row (by omega)
   injection hv with q1 q2 q3
   subst q1 q3
   have p1 := hc (A'.length + 1) (by omega)
   have p0 := hc A'.length (by omega)
   have e1 : (List.map Value.string (A' ++ a :: x :: B))[A'.length + 1]? = some (.string x) := by simp
   have e0 : (List.map Value.string (A' ++ a :: x :: B))[A'.length]? = some (.string a) := by simp
   rw [e1] at p1
   rw [e0] at p0
   have hfz := zf5 hI'.row
   have hgl := World.block_lt_of_cell? wr _ p0
   simp only at hgl
   have HI := hide hI'
   have HINS := hide hins
   have HP := hide hP'
   have hA0 : (A'.length : Nat) < n := by omega
   obtain ⟨m, hm⟩ : ∃ m, A'.length = m := ⟨_, rfl⟩
   rw [hm] at p0 p1 hgA hAi hA0 ⊢
   have HM := hide hm
   have hcast : ((m + 1 : Nat) : Int) = (m : Int) + 1 := by omega
   rw [hcast]
   clear hcast hI hI' hins hperm hP' hAl hc e1 e0 hm
   have w0 : IntKind.i64.wrap (m : Int) = m := zmc m (by omega)
   have w1' : IntKind.i64.wrap ((m : Int) + 1 - 1) = m := by rw [Int.add_sub_cancel]; exact w0
   have i1 : (m : Int) + 1 < n := by omega
   have i2 : (m : Int) < n := by omega
   have i3 : (0 : Int) < (m : Int) + 1 := by omega
   have i4 : (0 : Int) ≤ (m : Int) + 1 := by omega
   cases hlx : Op.bytesLess x.toList a.toList with
   | false =>
    have HS := hide ((zaa HINS).done1 hlx)
    go_wp2_with fail
    go_quiet (fail)
    go_wp2_with fail
    apply zaa HX
    ·exact (zaa HI).drewN _
    ·exact zaa HS
    ·exact zaa HP
   | true =>
    have HD := hide ((zaa HINS).down hlx)
    go_wp2_with fail
    go_quiet (fail)
    have HIW := hide ((zaa HI).drewN nq)
    have P0 : (wr.drewN nq).cell? ⟨g, m, none⟩ = some (.string a) := p0
    have P1 : (wr.drewN nq).cell? ⟨g, m + 1, none⟩ = some (.string x) := p1
    have PF : ∀ j, (wr.drewN nq).frozen? ⟨g, j, none⟩ = false := hfz
    have PL : g < (wr.drewN nq).heap.size := hgl
    clear p0 p1 hfz hgl HI
    generalize wr.drewN nq = W at *
    have n1 : ¬ m = m + 1 := by omega
    have n2 : ¬ m + 1 = m := by omega
    go_wp2_with fail
    go_roundg m
    case measure => omega
    case rel => exact ⟨A', x, a :: B, (zaa HM).symm, by rw [zaa HM], by rw [zaa HM]; omega, (zaa HIW).swap (zaa HM), zaa HD, (List.Perm.append_left A' (List.Perm.swap a x B)).trans (zaa HP)⟩
end
section
open Go.RowKit Go.Maps
def hitT (A : RAtom) (l : List RFact) : List ByteArray := (l.filter fun f => (zch [] A f.thing).isSome).map (·.text)
theorem hitT_step {A : RAtom} {l : List RFact} {k : Nat} (h : k < l.length) : hitT A (l.take (k + 1)) = hitT A (l.take k) ++ if (zch [] A l[k].thing).isSome then [l[k].text] else [] := by
 unfold hitT
 rw [List.take_succ_eq_append_getElem h, List.filter_append, List.map_append]
 by_cases hm : (zch [] A l[k].thing).isSome = true <;> simp [hm]
structure QCtx (w : World) (ab : Nat) (A : RAtom) (aa : Option Addr) (ca : Nat) (base : Nat) (fs : List FG) (v : Value) : Prop where
 lt : ab < w.heap.size
 a0 : w.cell? ⟨ab, 0, none⟩ = some (.string A.pred)
 a1 : w.cell? ⟨ab, 1, none⟩ = some (.slice aa A.terms.length ca)
 a2 : w.cell? ⟨ab, 2, none⟩ = some (.bool A.no)
 a3 : w.cell? ⟨ab, 3, none⟩ = some (.int .i64 A.at_)
 a4 : w.cell? ⟨ab, 4, none⟩ = some (.int .i64 A.noAt)
 row : w.ownsRow 0 317 3 (.slice aa A.terms.length ca) A.terms.length (cellsOf A.terms)
 few : A.terms.length ≤ 100
 facts : FactsIn w base v fs
 some : fs.length ≤ 50
structure Q0In (w : World) (v : Value) (zs : List ByteArray) (wr : World) : Prop where
 below : Below w.heap.size w wr
 row : wr.ownsRow w.heap.size 9 1 v zs.length (zs.map .string)
theorem Q0In.past {w : World} {v : Value} {zs : List ByteArray} {wr w' : World} (h : Q0In w v zs wr) (k : Below wr.heap.size wr w') : Q0In w v zs w' := ⟨h.below.trans (k.mono h.below.size), zai h.row k (fun g e => (h.row.lt g e).2)⟩
set_option maxRecDepth 1000000 in
theorem query0 (w : World) (ab : Nat) (A : RAtom) (aa : Option Addr) (ca : Nat) (base : Nat) (fs : List FG) (al : Option Addr) (cl : Nat) (hC : QCtx w ab A aa ca base fs (.slice al fs.length cl))
  {Q : Exit → Act → World → Prop} {c0 c1 c2 c3 c4 c5 c6 c7 c9 c13 c14 c15 c16 c17 c18 c19 c20 c21 c22 c23 c24 c25 c26 c27 c28 c29 c30 c31 c32 c33 c34 c35 c36 c37 c38 c39 c40 c41 c42 c43 c44 c45 c46 c47 c48 c49 c50 c51 c52 c53 c54 c55 c56 c57 c58 c59 c60 c61 c62 c63 c64 c65 c66 c67 c68 c69 c70 c71 c72 c73 c74 c75 c76 c77 c78 c79 c80 c81 c82 c83 c84 c85 c86 c87 c88 c89 c90 c91 c92 c93 c94 c95 c96 c97 c98 c99 c100 c101 c102 : Value}
  (hexit : ∀ (v11' : Value) (zs' : List ByteArray) (w2 : World) (u12 u13 u14 u15 u16 u39 u40 u41 u42 u43 u44 u45 u46 u47 u48 u49 u50 u51 u52 u53 u54 u55 u56 u57 u58 u59 u60 u61 u62 u63 u64 u65 u66 u67 u68 u69 u70 u71 u72 u73 u74 u75 u76 u77 u78 u79 u80 u81 u82 u83 u84 u85 u86 u87 u88 u89 u90 u91 u92 u93 u94 u95 u96 u97 u98 u99 u100 u101 : Value), Q0In w v11' zs' w2 → RisT zs' → zs'.Perm (hitT A (fs.map (·.F))) → Q (.exit 0) ⟨List.toArray (c0 :: c1 :: c2 :: c3 :: c4 :: c5 :: c6 :: c7 :: .pointer (some ⟨ab, 0, none⟩) :: c9 :: .slice al fs.length cl :: v11' :: u12 :: u13 :: u14 :: u15 :: u16 :: c17 :: c18 :: c19 :: c20 :: c21 :: c22 :: c23 :: c24 :: c25 :: c26 :: c27 :: c28 :: c29 :: c30 :: c31 :: c32 :: c33 :: c34 :: c35 :: c36 :: c37 :: c38 :: u39 :: u40 :: u41 :: u42 :: u43 :: u44 :: u45 :: u46 :: u47 :: u48 :: u49 :: u50 :: u51 :: u52 :: u53 :: u54 :: u55 :: u56 :: u57 :: u58 :: u59 :: u60 :: u61 :: u62 :: u63 :: u64 :: u65 :: u66 :: u67 :: u68 :: u69 :: u70 :: u71 :: u72 :: u73 :: u74 :: u75 :: u76 :: u77 :: u78 :: u79 :: u80 :: u81 :: u82 :: u83 :: u84 :: u85 :: u86 :: u87 :: u88 :: u89 :: u90 :: u91 :: u92 :: u93 :: u94 :: u95 :: u96 :: u97 :: u98 :: u99 :: u100 :: u101 :: c102 :: []), []⟩ w2) :
  Code.wp Tryz.prog (Code.loop (queryL 0)) Q ⟨List.toArray (c0 :: c1 :: c2 :: c3 :: c4 :: c5 :: c6 :: c7 :: .pointer (some ⟨ab, 0, none⟩) :: c9 :: .slice al fs.length cl :: .slice none 0 0 :: .int .i64 0 :: c13 :: c14 :: c15 :: c16 :: c17 :: c18 :: c19 :: c20 :: c21 :: c22 :: c23 :: c24 :: c25 :: c26 :: c27 :: c28 :: c29 :: c30 :: c31 :: c32 :: c33 :: c34 :: c35 :: c36 :: c37 :: c38 :: c39 :: c40 :: c41 :: c42 :: c43 :: c44 :: c45 :: c46 :: c47 :: c48 :: c49 :: c50 :: c51 :: c52 :: c53 :: c54 :: c55 :: c56 :: c57 :: c58 :: c59 :: c60 :: c61 :: c62 :: c63 :: c64 :: c65 :: c66 :: c67 :: c68 :: c69 :: c70 :: c71 :: c72 :: c73 :: c74 :: c75 :: c76 :: c77 :: c78 :: c79 :: c80 :: c81 :: c82 :: c83 :: c84 :: c85 :: c86 :: c87 :: c88 :: c89 :: c90 :: c91 :: c92 :: c93 :: c94 :: c95 :: c96 :: c97 :: c98 :: c99 :: c100 :: c101 :: c102 :: []), []⟩ w := by
 conv => arg 2; arg 1; whnf
 have hfl := hC.some
 have HC := hide hC
 have HX := hide hexit
 clear hC hexit
 go_loopg [11, 12] fs.length (fun gg v ii wr => ∃ (i : Nat) (zs : List ByteArray), i ≤ fs.length ∧ zs.length ≤ i ∧ gg = fs.length - i ∧ ii = .int .i64 i ∧ Q0In w v zs wr ∧ RisT zs ∧ zs.Perm (hitT A ((fs.map (·.F)).take i)))
 case atStart => exact ⟨0, [], by omega, by simp, by omega, rfl, ⟨Below.refl _ _, World.ownsRow_nil _ _ _ _⟩, List.Pairwise.nil, by simp [hitT]⟩
 case round =>
  obtain ⟨i, zs, hi, hzi, hgg, rfl, hI, hris, hperm⟩ := hrel
  obtain ⟨a11, c11, rfl⟩ := zac hI.row
  have HI := hide hI
  have HR := hide hris
  have hC := zaa HC
  by_cases hlf : i < fs.length
  ·have hfi : (i : Int) < fs.length := by omega
   have hst := hitT_step (A := A) (l := fs.map (·.F)) (k := i) (by simpa using hlf)
   rw [List.getElem_map] at hst
   have hsz := hI.below.size
   have hfr := zai hC.facts.row hI.below (fun g e => (hC.facts.row.lt g e).2)
   obtain ⟨gl, cl', hvl, -, hll, hnl, hml, hcl⟩ := ziq hfr hlf
   injection hvl with i1 i2 i3
   subst i1 i3
   have z0 := hcl 0 (by decide)
   have z1 := hcl 1 (by decide)
   have z2 := hcl 2 (by decide)
   have z3 := hcl 3 (by decide)
   have z4 := hcl 4 (by decide)
   have z5 := hcl 5 (by decide)
   simp only [FG.cells, List.getElem?_cons_succ, List.getElem?_cons_zero, Nat.add_zero] at z0 z1 z2 z3 z4 z5
   have hTr := (hC.facts.each _ (List.getElem_mem hlf)).t
   obtain ⟨ba, cb2, e4⟩ := zac hTr
   rw [e4] at z1
   have hAr := hC.row
   have y0 := (hI.below.cell (p := ⟨ab, 0, none⟩) hC.lt).trans hC.a0
   have y1 := (hI.below.cell (p := ⟨ab, 1, none⟩) hC.lt).trans hC.a1
   have y2 := (hI.below.cell (p := ⟨ab, 2, none⟩) hC.lt).trans hC.a2
   have y3 := (hI.below.cell (p := ⟨ab, 3, none⟩) hC.lt).trans hC.a3
   have y4 := (hI.below.cell (p := ⟨ab, 4, none⟩) hC.lt).trans hC.a4
   have hlb : ab < wr.heap.size := Nat.lt_of_lt_of_le hC.lt hsz
   have hcall : ∀ W, Below wr.heap.size wr W → Calls Tryz.prog 139 #[.agg #[.slice none 0 0, .slice none 0 0], .agg #[.string A.pred, .slice aa A.terms.length ca, .bool A.no, .int .i64 A.at_, .int .i64 A.noAt], .agg #[.string fs[i].F.thing.pred, .slice ba fs[i].F.thing.terms.length cb2, .bool fs[i].F.thing.no, .int .i64 fs[i].F.thing.at_, .int .i64 fs[i].F.thing.noAt]] W (zh3 W (.slice none 0 0) (.slice none 0 0) (zch [] A fs[i].F.thing)) := fun W hW => by
    have hB := hI.below.trans (hW.mono hsz)
    rw [e4] at hTr
    exact zl2 W 0 [] A fs[i].F.thing none none aa ba 0 0 ca cb2 ⟨World.ownsRow_nil _ _ _ _, World.ownsRow_nil _ _ _ _, by simp⟩ (zaf (zai hAr hB (fun g e => (hAr.lt g e).2)) (Nat.zero_le _)) (zaf (zai hTr hB (fun g e => (hTr.lt g e).2)) (Nat.zero_le _)) (by have := hC.few; simpa using by omega)
   have HCALL := hide hcall
   have HST := hide hst
   have HP := hide hperm
   clear hC hI hfr hcl hAr hTr hcall hst e4 hris hperm
   generalize fs[i].F.thing = TH at *
   generalize fs[i].F.text = TX at *
   have HK : Hid (∀ W w' : World, Below wr.heap.size wr W → Below W.heap.size W w' → w'.cell? ⟨gl, i * 10, none⟩ = some (.string TH.pred) ∧ w'.cell? ⟨gl, i * 10 + 1, none⟩ = some (.slice ba TH.terms.length cb2) ∧ w'.cell? ⟨gl, i * 10 + 2, none⟩ = some (.bool TH.no) ∧ w'.cell? ⟨gl, i * 10 + 3, none⟩ = some (.int .i64 TH.at_) ∧ w'.cell? ⟨gl, i * 10 + 4, none⟩ = some (.int .i64 TH.noAt) ∧ w'.cell? ⟨ab, 0, none⟩ = some (.string A.pred) ∧ w'.cell? ⟨ab, 1, none⟩ = some (.slice aa A.terms.length ca) ∧ w'.cell? ⟨ab, 2, none⟩ = some (.bool A.no) ∧ w'.cell? ⟨ab, 3, none⟩ = some (.int .i64 A.at_) ∧ w'.cell? ⟨ab, 4, none⟩ = some (.int .i64 A.noAt)) := hide (fun W w' h1 h2 => by
    have hB := h1.trans (h2.mono h1.size)
    exact ⟨(hB.cell (by simpa using hll)).trans z0, (hB.cell (by simpa using hll)).trans z1, (hB.cell (by simpa using hll)).trans z2, (hB.cell (by simpa using hll)).trans z3, (hB.cell (by simpa using hll)).trans z4, (hB.cell (by simpa using hlb)).trans y0, (hB.cell (by simpa using hlb)).trans y1, (hB.cell (by simpa using hlb)).trans y2, (hB.cell (by simpa using hlb)).trans y3, (hB.cell (by simpa using hlb)).trans y4⟩)
   have dl : ¬ gl = wr.heap.size := by omega
   have db : ¬ ab = wr.heap.size := by omega
   go_upto_region 13 with fail
   go_cut [14] from 39 to 101 (fun ok wc => ok = .bool (zch [] A TH).isSome ∧ Below wr.heap.size wr wc)
   case first =>
    clear HST HI
    cases hr : zch [] A TH with
    | none =>
     rw [hr] at HCALL
     go_region_held3 (fun w' => w'.cell? ⟨gl, i * 10, none⟩ = some (.string TH.pred) ∧ w'.cell? ⟨gl, i * 10 + 1, none⟩ = some (.slice ba TH.terms.length cb2) ∧ w'.cell? ⟨gl, i * 10 + 2, none⟩ = some (.bool TH.no) ∧ w'.cell? ⟨gl, i * 10 + 3, none⟩ = some (.int .i64 TH.at_) ∧ w'.cell? ⟨gl, i * 10 + 4, none⟩ = some (.int .i64 TH.noAt) ∧ w'.cell? ⟨ab, 0, none⟩ = some (.string A.pred) ∧ w'.cell? ⟨ab, 1, none⟩ = some (.slice aa A.terms.length ca) ∧ w'.cell? ⟨ab, 2, none⟩ = some (.bool A.no) ∧ w'.cell? ⟨ab, 3, none⟩ = some (.int .i64 A.at_) ∧ w'.cell? ⟨ab, 4, none⟩ = some (.int .i64 A.noAt)) (first | go_keep | (refine ⟨?_, ?_, ?_, ?_, ?_, ?_, ?_, ?_, ?_, ?_⟩ <;> (refine (zjr ?_).trans ?_ <;> assumption))) ((go_at_call 139; refine (zaa HCALL _ (by first | exact (Below.refl _ _).drew | exact ((Below.refl _ _).alloc (Nat.le_refl _) _).drew | exact (Below.refl _ _).drew.alloc (Nat.le_refl _) _)).mono ?_; rintro e w2 ⟨hb2, hn2, -⟩; obtain rfl := hn2 rfl; obtain ⟨m0, m1, m2, m3, m4, m5, m6, m7, m8, m9⟩ := zaa HK _ _ (by first | exact (Below.refl _ _).drew | exact ((Below.refl _ _).alloc (Nat.le_refl _) _).drew | exact (Below.refl _ _).drew.alloc (Nat.le_refl _) _) hb2; have hc2 := fun (j : Nat) h => hb2.cell (p := ⟨wr.heap.size, j, none⟩) h; have hf2 := fun (j : Nat) h => hb2.frozen (p := ⟨wr.heap.size, j, none⟩) h; clear hn2))
     all_goals
      go_wp2_with fail
      go_meet
      case rel =>
       rw [hr]
       first | exact ⟨rfl, (M3.behind (r := none) (W := wr.drew) (Below.refl _ _).drew hb2 (fun _ h => by cases h)).below⟩ | exact ⟨rfl, (M3.ahead (r := none) (W := (wr.alloc (.cells #[.slice none 0 0, .slice none 0 0] 258)).drew) ((Below.refl _ _).alloc (Nat.le_refl _) _).drew (Nat.le_refl _) (heap_alloc_new wr _) hb2 (fun _ h => by cases h)).below⟩
    | some E' =>
     rw [hr] at HCALL
     go_region_held3 (fun w' => w'.cell? ⟨gl, i * 10, none⟩ = some (.string TH.pred) ∧ w'.cell? ⟨gl, i * 10 + 1, none⟩ = some (.slice ba TH.terms.length cb2) ∧ w'.cell? ⟨gl, i * 10 + 2, none⟩ = some (.bool TH.no) ∧ w'.cell? ⟨gl, i * 10 + 3, none⟩ = some (.int .i64 TH.at_) ∧ w'.cell? ⟨gl, i * 10 + 4, none⟩ = some (.int .i64 TH.noAt) ∧ w'.cell? ⟨ab, 0, none⟩ = some (.string A.pred) ∧ w'.cell? ⟨ab, 1, none⟩ = some (.slice aa A.terms.length ca) ∧ w'.cell? ⟨ab, 2, none⟩ = some (.bool A.no) ∧ w'.cell? ⟨ab, 3, none⟩ = some (.int .i64 A.at_) ∧ w'.cell? ⟨ab, 4, none⟩ = some (.int .i64 A.noAt)) (first | go_keep | (refine ⟨?_, ?_, ?_, ?_, ?_, ?_, ?_, ?_, ?_, ?_⟩ <;> (refine (zjr ?_).trans ?_ <;> assumption))) ((go_at_call 139; refine (zaa HCALL _ (by first | exact (Below.refl _ _).drew | exact ((Below.refl _ _).alloc (Nat.le_refl _) _).drew | exact (Below.refl _ _).drew.alloc (Nat.le_refl _) _)).mono ?_; rintro e w2 ⟨hb2, -, hy2⟩; obtain ⟨nv', tv', rfl, henv⟩ := hy2 E' rfl; obtain ⟨an2, cn2, at2, ct2, e21, e22⟩ := henv.shape; subst e21 e22; have HENV := hide henv; obtain ⟨m0, m1, m2, m3, m4, m5, m6, m7, m8, m9⟩ := zaa HK _ _ (by first | exact (Below.refl _ _).drew | exact ((Below.refl _ _).alloc (Nat.le_refl _) _).drew | exact (Below.refl _ _).drew.alloc (Nat.le_refl _) _) hb2; have hc2 := fun (j : Nat) h => hb2.cell (p := ⟨wr.heap.size, j, none⟩) h; have hf2 := fun (j : Nat) h => hb2.frozen (p := ⟨wr.heap.size, j, none⟩) h; clear hy2 henv))
     all_goals
      go_wp2_with fail
      go_meet
      case rel =>
       rw [hr]
       first | exact ⟨rfl, (M3.behind (r := some E') (W := wr.drew) (Below.refl _ _).drew hb2 (fun _ h => by cases h; exact zaa HENV)).below⟩ | exact ⟨rfl, (M3.ahead (r := some E') (W := (wr.alloc (.cells #[.slice none 0 0, .slice none 0 0] 258)).drew) ((Below.refl _ _).alloc (Nat.le_refl _) _).drew (Nat.le_refl _) (heap_alloc_new wr _) hb2 (fun _ h => by cases h; exact zaa HENV)).below⟩
   case rest =>
    generalize wc = wA at *
    obtain ⟨rfl, hBA⟩ := hcut
    have hIA := (zaa HI).past hBA
    have z5A := (hBA.cell (p := ⟨gl, i * 10 + 5, none⟩) hll).trans z5
    have hllA : gl < wA.heap.size := Nat.lt_of_lt_of_le hll hBA.size
    have hsA := hIA.below.size
    clear HK HCALL HI z0 z1 z2 z3 z4 z5 y0 y1 y2 y3 y4 hBA hsz
    cases hr : (zch [] A TH).isSome with
    | false =>
     have hst := zaa HST
     rw [hr] at hst
     simp only [Bool.false_eq_true, if_false, List.append_nil] at hst
     have HI := hide hIA
     have HP2 := hide (show zs.Perm (hitT A ((fs.map (·.F)).take (i + 1))) by rw [hst]; exact zaa HP)
     clear hst HST HP hIA hr
     go_wp2_with fail
     go_roundg (fs.length - (i + 1))
     case measure => omega
     case rel => exact ⟨i + 1, zs, by omega, by omega, rfl, by go_num, zaa HI, zaa HR, zaa HP2⟩
    | true =>
     have hst := zaa HST
     rw [hr] at hst
     simp only [if_true] at hst
     have HP2 := hide (show ∀ zs' : List ByteArray, zs'.Perm (zs ++ [TX]) → zs'.Perm (hitT A ((fs.map (·.F)).take (i + 1))) from fun zs' h => by rw [hst]; exact h.trans (List.Perm.append_right _ (zaa HP)))
     obtain ⟨i0, hi0, hz0, hz1, hz2⟩ := info_parts zeh
     have HROW := hide (hIA.row.alloc (.cells #[.string TX] 9))
     have hnew := hide (zg3 (wA.alloc (.cells #[.string TX] 9)) wA.heap.size (.string TX) 9 (heap_alloc_new wA _))
     have HB5 := hide (fun (w5 : World) (hg : (wA.alloc (.cells #[.string TX] 9)).grownBy w5 (Value.slice a11 zs.length c11).ownBlock) => zar (hIA.below.alloc hsA (.cells #[.string TX] 9)) (Kept.of_grown hg) (by simp; omega) (fun x hx => (hIA.row.lt x (by simpa using hx)).1))
     clear hst HST HP hIA hr
     go_wp2_with (at_builtin; go_must (refine wpList_append_lies _ rfl _ _ _ rfl w.heap.size 9 i0 (.string { data := #[] }) 1 16 Tryz.underlying33 hi0 hz0 hz1 hz2 rfl (by decide) (.slice a11 zs.length c11) zs.length (zs.map .string) rfl (zaa HROW) ⟨wA.heap.size, 0, none⟩ 1 1 [.string TX] rfl rfl (zaa hnew) (by simp [Value.oneCell']) (by decide) (by unfold maxLen; omega) (by omega) (by simp; omega) _ rfl ?_; intro g cap w5 hown5 hg5 hat5 hlt5))
     have HB := hide (zaa HB5 w5 hg5)
     have HTX := hide (show TxIn w5 w.heap.size (.slice (some ⟨g, 0, none⟩) (zs.length + 1) cap) (zs.length + 1) (zs ++ [TX]) w5 from ⟨Kept.refl _ _, by simpa using hown5⟩)
     have hgw : w.heap.size ≤ g := (hown5.lt g rfl).1
     clear hown5 hg5 hat5 hlt5 HB5 HROW hnew z5A hllA
     go_wp2_with fail
     refine query1 w5 w.heap.size (some ⟨g, 0, none⟩) (zs.length + 1) cap (by omega) zs TX zs.length rfl rfl (zaa HR) (zaa HTX) ?_
     intro zs' w6
     intros
     rename_i hT6 hR6 hP6
     have hl6 := hP6.length_eq
     simp only [List.length_append, List.length_cons, List.length_nil, Nat.zero_add] at hl6
     have HI := hide (show Q0In w (.slice (some ⟨g, 0, none⟩) (zs.length + 1) cap) zs' w6 from ⟨zar (zaa HB) hT6.kept (zaa HB).size (fun b hm => by simp [Value.ownBlock] at hm; omega), by rw [hl6]; exact hT6.row⟩)
     have HL6 := hide hl6
     have HR6 := hide hR6
     have HP6 := hide (zaa HP2 zs' hP6)
     clear hT6 hR6 hP6 hl6 HTX HB HP2
     go_wp2_with fail
     go_roundg (fs.length - (i + 1))
     case measure => omega
     case rel => exact ⟨i + 1, zs', by omega, by rw [zaa HL6]; omega, rfl, by go_num, zaa HI, zaa HR6, zaa HP6⟩
  ·have hfi : ¬ ((i : Int) < fs.length) := by omega
   have hie : i = fs.length := by omega
   have HP := hide (show zs.Perm (hitT A (fs.map (·.F))) by rw [hie, List.take_of_length_le (by simp)] at hperm; exact hperm)
   clear hC hI hris hperm hie
   go_wp2_with fail
   apply zaa HX
   ·exact zaa HI
   ·exact zaa HR
   ·exact zaa HP
end
end Go.Proofs.YtldkpahaocjdpaaGreat
