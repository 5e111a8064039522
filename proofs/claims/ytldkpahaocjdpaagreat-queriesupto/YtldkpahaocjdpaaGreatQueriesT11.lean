/-
  Plain: a body, a rule, rules as the program's reader reads them; how they lie in memory.
  The program's reader: body, at every text and place.
  The program's reader: rule, at every text and place.
-/
import Derived.Test.YtldkpahaocjdpaaGreatQueriesT10
set_option maxHeartbeats 16000000
namespace Go.Proofs.YtldkpahaocjdpaaGreat
section
open Go.RowKit
structure PLit where
 neg : Bool
 pd : ByteArray
 ts : List (Bool × ByteArray)
def PLit.cells (L : PLit) (tv : Value) : List Value := [.bool L.neg, .string L.pd, tv]
def zj3 (ls : List (PLit × Value)) : List Value := ls.flatMap fun x => x.1.cells x.2
theorem zps (l : List (PLit × Value)) (A : PLit) (tv : Value) : zj3 (l ++ [(A, tv)]) = zj3 l ++ A.cells tv := by simp [zj3]
structure LRow (w : World) (base : Nat) (bv : Value) (ls : List (PLit × Value)) : Prop where
 row : w.ownsRow base 183 3 bv ls.length (zj3 ls)
 each : ∀ x ∈ ls, w.ownsRow base 191 1 x.2 x.1.ts.length (zbj x.1.ts)
def ze8 (s : ByteArray) (p : Nat) (pd : ByteArray) (ts : List (Bool × ByteArray)) : PLit := ⟨(zae s p).1 == 4, pd, ts⟩
def zgu (s : ByteArray) (num p : Nat) (pd : ByteArray) (ts : List (Bool × ByteArray)) (pl : Nat → Nat) : PMen := ⟨num, (zae s p).1 == 4, pd, ts, (zae s p).2.1, (zae s (za2 s p 4)).2.1, pl⟩
def zck (s : ByteArray) (num : Nat) : Nat → Nat → List PLit → List PMen → Bool × Nat × List PLit × List PMen
 | 0, p, l, ms => (false, p, l, ms)
 | f + 1, p, l, ms =>
  match zby s (za2 s p 4) with
  | .no q => (false, q, l, ms)
  | .yes q pd ts pl =>
   if (zae s q).1 = 7 then zck s num f (zae s q).2.2 (l ++ [ze8 s p pd ts]) (ms ++ [zgu s num p pd ts pl])
   else (decide ((zae s q).1 = 8), za2 s q 8, l ++ [ze8 s p pd ts], ms ++ [zgu s num p pd ts pl])
structure PRule where
 pd : ByteArray
 ts : List (Bool × ByteArray)
 body : List PLit
def zhc (s : ByteArray) (num p : Nat) (pd : ByteArray) (ts : List (Bool × ByteArray)) (pl : Nat → Nat) : PMen := ⟨num, false, pd, ts, (zae s p).2.1, (zae s p).2.1, pl⟩
def zb2 (s : ByteArray) (num p : Nat) (ms : List PMen) : Bool × Nat × PRule × List PMen :=
 match zby s p with
 | .no q => (false, q, ⟨{ data := #[] }, [], []⟩, ms)
 | .yes q pd ts pl =>
  if (zae s q).1 = 8 then (true, (zae s q).2.2, ⟨pd, ts, []⟩, ms ++ [zhc s num p pd ts pl])
  else if (zae s q).1 = 9 then
   ((zck s num 3 (zae s q).2.2 [] (ms ++ [zhc s num p pd ts pl])).1, (zck s num 3 (zae s q).2.2 [] (ms ++ [zhc s num p pd ts pl])).2.1, ⟨pd, ts, (zck s num 3 (zae s q).2.2 [] (ms ++ [zhc s num p pd ts pl])).2.2.1⟩, (zck s num 3 (zae s q).2.2 [] (ms ++ [zhc s num p pd ts pl])).2.2.2)
  else (false, q, ⟨pd, ts, []⟩, ms ++ [zhc s num p pd ts pl])
def zcy (s : ByteArray) : Nat → Nat → List PRule → List PMen → Bool × Nat × List PRule × List PMen
 | 0, p, rs, ms => (false, p, rs, ms)
 | f + 1, p, rs, ms =>
  if (zae s p).1 = 0 then (true, p, rs, ms)
  else if rs.length = 30 then (false, p, rs, ms)
  else if (zb2 s rs.length p ms).1 then zcy s f (zb2 s rs.length p ms).2.1 (rs ++ [(zb2 s rs.length p ms).2.2.1]) (zb2 s rs.length p ms).2.2.2
  else (false, (zb2 s rs.length p ms).2.1, rs, (zb2 s rs.length p ms).2.2.2)
theorem zbb {w w' : World} {base : Nat} {e : TypeId} {size : Nat} {v : Value} {n : Nat} {xs : List Value} (h : w.ownsRow base e size v n xs) (hb : ∀ g, v.ownBlock = some g → w'.heap[g]? = w.heap[g]?) : w'.ownsRow base e size v n xs := by
 refine ⟨h.1, ?_⟩
 rcases h.2 with hn | ⟨g, cap, cur, rfl, hb', hgg, rest⟩
 ·exact .inl hn
 ·exact .inr ⟨g, cap, cur, rfl, hb', (hb g rfl).trans hgg, rest⟩
def NotT (w : World) (e : TypeId) (x : Nat) : Prop := ∀ c fr, w.heap[x]? ≠ some (.cells c e fr)
theorem zaz {w : World} {base : Nat} {e0 e : TypeId} {size : Nat} {v : Value} {n : Nat} {xs : List Value} (h : w.ownsRow base e0 size v n xs) (hne : e0 ≠ e) : ∀ x ∈ v.ownBlock.toList, NotT w e x := by
 intro x hx c fr he
 have hx' : v.ownBlock = some x := by simpa using hx
 rcases h.2 with ⟨rfl, _⟩ | ⟨g, cap, cur, rfl, _, hgg, _⟩
 ·cases hx'
 ·injection hx' with hx'
  simp only at hx'
  subst hx'
  rw [he] at hgg
  injection hgg with hgg
  injection hgg with _ hgg _
  exact hne hgg.symm
theorem zbq {B : List Nat} {w w' : World} {base : Nat} {e : TypeId} {size : Nat} {v : Value} {n : Nat} {xs : List Value} (h : w.ownsRow base e size v n xs) (k : Kept B w w') (hB : ∀ x ∈ B, x < base ∨ NotT w e x) : w'.ownsRow base e size v n xs := by
 refine ⟨h.1, ?_⟩
 rcases h.2 with hn | ⟨g, cap, cur, rfl, hb', hgg, rest⟩
 ·exact .inl hn
 ·refine .inr ⟨g, cap, cur, rfl, hb', ?_, rest⟩
  rw [k.block g (Array.getElem?_eq_some_iff.1 hgg).1 (fun hm => by
   rcases hB g hm with h1 | h1
   ·omega
   ·exact h1 _ _ hgg)]
  exact hgg
theorem Kept.step {B C : List Nat} {a w w' : World} (h : Kept B a w) (k : Kept C w w') (hC : ∀ x ∈ C, x ∈ B ∨ a.heap.size ≤ x) : Kept B a w' :=
 ⟨k.os.trans h.os, k.tape.trans h.tape, k.output.trans h.output, Nat.le_trans h.size k.size, fun i hi hn => (k.block i (Nat.lt_of_lt_of_le hi h.size) (fun hm => by
  rcases hC i hm with h1 | h1
  ·exact hn h1
  ·omega)).trans (h.block i hi hn)⟩
theorem LRow.keptT {B : List Nat} {w w' : World} {base : Nat} {bv : Value} {ls : List (PLit × Value)} (h : LRow w base bv ls) (k : Kept B w w') (hB : ∀ x ∈ B, x < base ∨ (NotT w 183 x ∧ NotT w 191 x)) : LRow w' base bv ls :=
 ⟨zbq h.row k (fun x hx => (hB x hx).imp id And.left), fun y hy => zbq (h.each y hy) k (fun x hx => (hB x hx).imp id And.right)⟩
theorem LRow.low {w : World} {base base' : Nat} {bv : Value} {ls : List (PLit × Value)} (h : LRow w base bv ls) (hb : base' ≤ base) : LRow w base' bv ls :=
 ⟨zaf h.row hb, fun y hy => zaf (h.each y hy) hb⟩
theorem MRow.keptT {B : List Nat} {w w' : World} {base : Nat} {mv : Value} {ms : List (PMen × Value)} (h : MRow w base mv ms) (k : Kept B w w') (hB : ∀ x ∈ B, x < base ∨ (NotT w 221 x ∧ NotT w 191 x)) : MRow w' base mv ms :=
 ⟨zbq h.row k (fun x hx => (hB x hx).imp id And.left), fun y hy => zbq (h.each y hy) k (fun x hx => (hB x hx).imp id And.right)⟩
structure BInv (w : World) (b : Nat) (s : ByteArray) (num : Nat) (mv : Value) (ls : List (PLit × Value)) (p : Nat) (ms : List (PMen × Value)) (mv1 bv : Value) (wr : World) : Prop where
 rdr : Rdr wr b s p num mv1
 hp : p ≤ s.size
 men : MRow wr (b + 1) mv1 ms
 lits : LRow wr w.heap.size bv ls
 kept : Kept (b :: mv.ownBlock.toList) w wr
 at_ : ∀ k, mv1.ownBlock = some k → mv.ownBlock = some k ∨ w.heap.size ≤ k
 bw : b < w.heap.size
theorem BInv.take {w : World} {b : Nat} {s : ByteArray} {num : Nat} {mv : Value} {ls : List (PLit × Value)} {p : Nat} {ms : List (PMen × Value)} {mv1 bv : Value} {wr w1 : World} {p' : Nat} (h : BInv w b s num mv ls p ms mv1 bv wr) (k : Kept [b] wr w1) (hr : Rdr w1 b s p' num mv1) (hp : p' ≤ s.size) : BInv w b s num mv ls p' ms mv1 bv w1 :=
 have h2 := h.bw
 ⟨hr, hp, h.men.kept k (by simp), h.lits.keptT k (by simp; omega), h.kept.step k (by simp), h.at_, h.bw⟩
theorem BInv.lit {w : World} {b : Nat} {s : ByteArray} {num : Nat} {mv : Value} {ls : List (PLit × Value)} {p : Nat} {ms : List (PMen × Value)} {mv1 bv : Value} {wr w1 : World} {p' : Nat} {mv2 : Value} {ms' : List (PMen × Value)} (h : BInv w b s num mv ls p ms mv1 bv wr) (k : Kept (b :: mv1.ownBlock.toList) wr w1) (hr : Rdr w1 b s p' num mv2) (hp : p' ≤ s.size) (hm : MRow w1 (b + 1) mv2 ms') (hat : ∀ k, mv2.ownBlock = some k → mv1.ownBlock = some k ∨ wr.heap.size ≤ k) : BInv w b s num mv ls p' ms' mv2 bv w1 := by
 have h2 := h.bw
 have hz := h.kept.size
 refine ⟨hr, hp, hm, h.lits.keptT k (fun x hx => ?_), h.kept.step k (fun x hx => ?_), fun x hx => ?_, h.bw⟩
 ·rcases List.mem_cons.1 hx with rfl | hx
  ·exact .inl h2
  ·exact .inr ⟨zaz h.men.row (by decide) x hx, zaz h.men.row (by decide) x hx⟩
 ·rcases List.mem_cons.1 hx with rfl | hx
  ·exact .inl (by simp)
  ·rcases h.at_ x (by simpa using hx) with h1 | h1
   ·exact .inl (by simp [h1])
   ·exact .inr h1
 ·rcases hat x hx with h1 | h1
  ·exact h.at_ x h1
  ·exact .inr (by omega)
theorem BInv.append {w : World} {b : Nat} {s : ByteArray} {num : Nat} {mv : Value} {ls : List (PLit × Value)} {p : Nat} {ms : List (PMen × Value)} {mv1 bv : Value} {w1 W w5 : World} (h : BInv w b s num mv ls p ms mv1 bv w1) (kW : Kept [] w1 W) {L : PLit} {tv bv' : Value}
  (ht : w1.ownsRow w.heap.size 191 1 tv L.ts.length (zbj L.ts)) (hown : w5.ownsRow w.heap.size 183 3 bv' (ls.length + 1) (zj3 ls ++ L.cells tv)) (hg : W.grownBy w5 bv.ownBlock) :
  BInv w b s num mv (ls ++ [(L, tv)]) p ms mv1 bv' w5 := by
 have h2 := h.bw
 have k5 : Kept bv.ownBlock.toList w1 w5 := ((kW.mono (C := bv.ownBlock.toList) (by simp))).grown hg (fun k e => .inr (by simp [e]))
 have hrow : ∀ k, bv.ownBlock = some k → w.heap.size ≤ k := fun k e => (h.lits.row.lt k e).1
 have hnot : b ∉ bv.ownBlock.toList := fun hm => by have := hrow b (by simpa using hm); omega
 have far : ∀ {v : Value} {n : Nat} {xs : List Value}, w1.ownsRow w.heap.size 191 1 v n xs → w5.ownsRow w.heap.size 191 1 v n xs := fun {v n xs} hx => zbq hx k5 (fun x hx => .inr (zaz h.lits.row (by decide) x hx))
 refine ⟨h.rdr.kept k5 hnot, h.hp, h.men.keptT k5 (fun x hx => .inr ⟨zaz h.lits.row (by decide) x hx, zaz h.lits.row (by decide) x hx⟩), ⟨?_, fun x hx => ?_⟩, h.kept.step k5 (fun x hx => .inr (hrow x (by simpa using hx))), h.at_, h.bw⟩
 ·rw [zps, List.length_append]; exact hown
 ·rcases List.mem_append.1 hx with hx | hx
  ·exact far (h.lits.each x hx)
  ·simp at hx; subst hx; exact far ht
end
section
open Go.RowKit
theorem infoLit : (Tryz.prog.info? 183).map (fun i => (i.zero, i.size, i.bytes)) = some (some (.agg #[.bool false, .string { data := #[] }, .slice none 0 0]), 3, 48) := by kernel_rfl
theorem plit_cell (w1 : World) (o : Obj) (L : PLit) (tv : Value) (j : Nat) (u : Value) (h : (L.cells tv)[j]? = some u) : ((w1.alloc o).alloc (Obj.cells #[Value.bool L.neg, Value.string L.pd, tv] 183)).cell? ((⟨w1.heap.size + 1, 0, none⟩ : Addr).add j) = some u := by
 have e : (⟨w1.heap.size + 1, 0, none⟩ : Addr).add j = ⟨w1.heap.size + 1, j, none⟩ := by unfold Addr.add; split <;> simp_all
 rw [e, World.cell?_alloc_at _ _ _ _ (by simp)]
 simpa [PLit.cells] using h
theorem plit_one (L : PLit) (a : Option Addr) (n c : Nat) : ∀ u ∈ L.cells (.slice a n c), u.oneCell' = true := by
 intro u hu; simp [PLit.cells] at hu; rcases hu with rfl | rfl | rfl <;> rfl
theorem znt {s : ByteArray} {p : Nat} {k : Int} (h : p ≤ s.size) : za2 s p k ≤ s.size := by
 unfold za2; split
 ·exact (zbs s p h).2
 ·exact h
theorem pterms_le (s : ByteArray) (f : Nat) : ∀ {p : Nat} {l : List (Bool × ByteArray)} {pl : Nat → Nat}, p ≤ s.size → (zat s f p l pl).2.1 ≤ s.size := by
 induction f with
 | zero => intro p l pl h; exact h
 | succ f ih =>
  intro p l pl h
  have h1 := (zbs s p h).2
  rw [zat]
  split
  ·split
   ·exact ih (zbs s _ h1).2
   ·exact znt h1
  ·exact h
theorem patom_le {s : ByteArray} {p : Nat} (h : p ≤ s.size) : match zby s p with | .no q => q ≤ s.size | .yes q _ _ _ => q ≤ s.size := by
 have h1 := (zbs s p h).2
 have h2 := (zbs s _ h1).2
 have h3 := pterms_le s 4 (l := []) (pl := fun _ => 0) h2
 unfold zby
 by_cases c1 : (zae s p).1 = 2
 ·rw [if_pos c1]
  by_cases c2 : (zae s (zae s p).2.2).1 = 5
  ·rw [if_pos c2]
   by_cases c3 : (zat s 4 (zae s (zae s p).2.2).2.2 [] (fun _ => 0)).1 = true
   ·rw [if_pos c3]; exact h3
   ·rw [if_neg c3]; exact h3
  ·rw [if_neg c2]; exact h1
 ·rw [if_neg c1]; exact h
theorem pbody_step (s : ByteArray) (num p : Nat) (l : List PLit) (ms : List PMen) (n : Nat) (hn : n < 3) : zck s num (3 - n) p l ms = match zby s (za2 s p 4) with
  | .no q => (false, q, l, ms)
  | .yes q pd ts pl =>
   if (zae s q).1 = 7 then zck s num (3 - (n + 1)) (zae s q).2.2 (l ++ [ze8 s p pd ts]) (ms ++ [zgu s num p pd ts pl])
   else (decide ((zae s q).1 = 8), za2 s q 8, l ++ [ze8 s p pd ts], ms ++ [zgu s num p pd ts pl]) := by
 have e : 3 - n = (3 - (n + 1)) + 1 := by omega
 rw [e, zck]
 all_goals (cases zby s (za2 s p 4) <;> rfl)
def BodyPost (w : World) (b : Nat) (s : ByteArray) (num : Nat) (mv : Value) (n0 : Nat) (P : Bool × Nat × List PLit × List PMen) (e : Ending) (w' : World) : Prop :=
 ∃ (a : Option Addr) (n c : Nat) (mv' : Value) (ls : List (PLit × Value)) (ms' : List (PMen × Value)), e = .returned (.tuple #[.slice a n c, .bool P.1]) ∧ Kept (b :: mv.ownBlock.toList) w w' ∧ Rdr w' b s P.2.1 num mv' ∧
  MRow w' (b + 1) mv' ms' ∧ ms'.map (·.1) = P.2.2.2 ∧ ms'.length ≤ n0 + 3 ∧ (∀ k, mv'.ownBlock = some k → mv.ownBlock = some k ∨ w.heap.size ≤ k) ∧ (P.1 = true → LRow w' w.heap.size (.slice a n c) ls ∧ ls.map (·.1) = P.2.2.1 ∧ ls.length ≤ 3 ∧ P.2.1 ≤ s.size)
theorem body_out {w : World} {b : Nat} {s : ByteArray} {num : Nat} {mv : Value} {ls : List (PLit × Value)} {p : Nat} {ms : List (PMen × Value)} {mv1 bv : Value} {wr : World} {n0 : Nat} {l : List PLit} (h : BInv w b s num mv ls p ms mv1 bv wr) (hn : ms.length ≤ n0 + 3) : BodyPost w b s num mv n0 (false, p, l, ms.map (·.1)) (.returned (.tuple #[.slice none 0 0, .bool false])) wr :=
 ⟨none, 0, 0, mv1, [], ms, rfl, h.kept, h.rdr, h.men, rfl, hn, h.at_, fun e => by cases e⟩
set_option maxRecDepth 100000 in
theorem pbody_any (w : World) (b : Nat) (s : ByteArray) (pos num : Nat) (mv : Value) (ms0 : List (PMen × Value)) (h : Rdr w b s pos num mv) (hms : MRow w (b + 1) mv ms0) (hml : ms0.length ≤ 900) (hpos : pos ≤ s.size) (hs : s.size ≤ 2000000) :
  Calls Tryz.prog 117 #[.pointer (some ⟨b, 0, none⟩)] w (BodyPost w b s num mv ms0.length (zck s num 3 pos [] (ms0.map (·.1)))) := by
 have hsm : s.size ≤ maxLen := by unfold maxLen; omega
 obtain ⟨i0, hi, hz0, hz1, hz2⟩ := info_parts infoLit
 have hst : BInv w b s num mv [] pos ms0 mv (.slice none 0 0) w := ⟨h, hpos, hms, ⟨World.ownsRow_nil _ _ _ _, by simp⟩, Kept.refl _ _, fun k e => .inl e, h.lt⟩
 clear h hms
 go_enter Tryz.func117, Tryz.ntmps117
 go_wp2_with fail
 go_loopg [4] 5 (fun g bv wr => ∃ (ls : List (PLit × Value)) (ms : List (PMen × Value)) (p : Nat) (mv1 : Value), ls.length ≤ 3 ∧ 4 - ls.length ≤ g ∧ ms.length = ms0.length + ls.length ∧ BInv w b s num mv ls p ms mv1 bv wr ∧ zck s num 3 pos [] (ms0.map (·.1)) = zck s num (3 - ls.length) p (ls.map (·.1)) (ms.map (·.1)))
 case atStart => exact ⟨[], ms0, pos, mv, by simp, by simp, by simp, hst, rfl⟩
 case round =>
  clear hst
  obtain ⟨ls, ms, p, mv1, hl3, hg, hmm, hinv, hfin⟩ := hrel
  obtain ⟨a1, cap1, rfl⟩ := zac hinv.lits.row
  have HF := hide hfin
  clear hfin
  have hpl := hinv.hp
  by_cases h3 : ls.length = 3
  ·have h3i : ¬ ((ls.length : Int) < 3) := by omega
   have HI := hide hinv
   clear hinv
   go_wp2_with fail
   go_ret2
   rw [zaa HF, h3]
   exact body_out (zaa HI) (by omega)
  ·have h3i : (ls.length : Int) < 3 := by omega
   have hl2 : ls.length < 3 := by omega
   have HF1 := hide ((zaa HF).trans (pbody_step s num p (ls.map (·.1)) (ms.map (·.1)) ls.length hl2))
   have hwz : w.heap.size ≤ wr.heap.size := hinv.kept.size
   clear HF h3
   go_wp2_with fail
   refine (plit_any wr b s p num mv1 ms hinv.rdr hinv.men (by omega) hpl hs).mono ?_
   intro e w1 hpost
   have hq := patom_le (znt (k := 4) hpl)
   cases hr : zby s (za2 s p 4) with
   | no q =>
    rw [hr] at hpost hq HF1
    obtain ⟨rfl, hk1, hr1⟩ := hpost
    have hinv1 := hinv.take hk1 hr1 hq
    have HI := hide hinv1
    clear hinv hk1 hr1 hr hinv1
    go_wp2_with fail
    go_ret2
    rw [zaa HF1]
    have kk := (Kept.refl [] w1).alloc (Obj.cells #[Value.bool ((zae s p).1 == 4), .string { data := #[] }, .slice none 0 0] 183)
    have hI := zaa HI
    exact ⟨none, 0, 0, mv1, [], ms, rfl, hI.kept.alloc _, hI.rdr.kept kk (by simp), hI.men.keptT kk (by simp), rfl, by omega, hI.at_, fun e => by cases e⟩
   | yes q pd ts pl =>
    rw [hr] at hpost hq HF1
    obtain ⟨tv, mv2, rfl, hk1, hr1, hm1, ht1, hw1⟩ := hpost
    obtain ⟨at1, capt, rfl⟩ := zac ht1
    have hinv1 := hinv.lit hk1 hr1 hq hm1 hw1
    have ht2 := zaf ht1 hwz
    have hownA := hinv1.lits.row
    have hz1' := hinv1.kept.size
    have HI := hide hinv1
    clear hinv hk1 hr1 hr hm1 ht1 hw1 hinv1
    go_wp2_with (at_builtin; refine wpList_append_own _ rfl _ _ 121 rfl w.heap.size 183 i0 _ 3 48 Tryz.underlying121 hi hz0 hz1 hz2 rfl (by decide) _ _ _ rfl ((hownA.alloc _).alloc _) ⟨w1.heap.size + 1, 0, none⟩ 1 1 ((ze8 s p pd ts).cells (.slice at1 ts.length capt)) rfl rfl (plit_cell w1 _ (ze8 s p pd ts) _) (plit_one _ _ _ _) (by unfold maxLen; omega) (by omega) (by simp; omega) ?_)
    intro v5 w5 hown5 hg5 hne5
    clear hne5
    obtain ⟨a5, cap5, rfl⟩ := zac hown5
    have hinv5 := (zaa HI).append (L := ze8 s p pd ts) (((Kept.refl [] w1).alloc _).alloc _) ht2 hown5 hg5
    have HI5 := hide hinv5
    clear hown5 hg5 hownA HI hinv5 ht2
    go_wp2_with fail
    refine (zbm s q num mv2 7 b _ (zaa HI5).rdr hq hsm).mono ?_
    rintro e w7 ⟨rfl, hk7, hr7⟩
    cases hc : (zae s q).1 == 7 with
    | true =>
     have hc' : (zae s q).1 = 7 := by simpa using hc
     have e7 : za2 s q 7 = (zae s q).2.2 := by unfold za2; rw [if_pos hc]
     rw [e7] at hr7
     have hinv7 := (zaa HI5).take hk7 hr7 (zbs s q hq).2
     have HF2 := hide ((zaa HF1).trans (if_pos hc'))
     have HI7 := hide hinv7
     clear HF1 HI5 hk7 hr7 hc hc' e7 hinv7
     go_wp2_with fail
     go_roundg (4 - (ls.length + 1))
     case measure => omega
     case rel => exact ⟨_, _, _, _, by simp; omega, by simp, by simp; omega, zaa HI7, by simpa [ze8, zgu] using zaa HF2⟩
    | false =>
     have hc' : ¬ (zae s q).1 = 7 := by simpa using hc
     have e7 : za2 s q 7 = q := by unfold za2; rw [if_neg (by rw [hc]; decide)]
     rw [e7] at hr7
     have hinv7 := (zaa HI5).take hk7 hr7 hq
     have HF2 := hide ((zaa HF1).trans (if_neg hc'))
     have HI7 := hide hinv7
     clear HF1 HI5 hk7 hr7 hc hc' e7 hinv7
     go_wp2_with fail
     refine (zbm s q num mv2 8 b _ (zaa HI7).rdr hq hsm).mono ?_
     rintro e w8 ⟨rfl, hk8, hr8⟩
     have hinv8 := (zaa HI7).take hk8 hr8 (znt hq)
     have HI8 := hide hinv8
     clear HI7 hk8 hr8 hinv8
     go_wp2_with fail
     go_ret2
     rw [zaa HF2]
     have hI := zaa HI8
     have hb : decide ((zae s q).1 = 8) = ((zae s q).1 == 8) := by rw [Bool.eq_iff_iff]; simp
     refine ⟨a5, ls.length + 1, cap5, _, _, _, by rw [hb]; rfl, hI.kept, hI.rdr, hI.men, by simp [zgu], by simp; omega, hI.at_, fun _ => ⟨by simpa using hI.lits, by simp [ze8], by simp; omega, hI.hp⟩⟩
end
section
open Go.RowKit
theorem zfq {w : World} {n : Nat} {c : Array Value} {e e' : TypeId} {fr : Nat × Nat} (hb : w.heap[n]? = some (.cells c e fr)) (hne : e ≠ e') : NotT w e' n := by
 intro c' fr' h
 rw [hb] at h
 injection h with h
 injection h with _ h _
 exact hne h
theorem za1 {B : List Nat} {w w' : World} {n : Nat} {c : Array Value} {e : TypeId} {fr : Nat × Nat} (hb : w.heap[n]? = some (.cells c e fr)) (k : Kept B w w') (hB : ∀ x ∈ B, x ≠ n ∨ NotT w e x) : w'.heap[n]? = some (.cells c e fr) := by
 rw [k.block n (Array.getElem?_eq_some_iff.1 hb).1 (fun hm => by
  rcases hB n hm with h1 | h1
  ·exact h1 rfl
  ·exact h1 _ _ hb)]
 exact hb
def RulePost (w : World) (b : Nat) (s : ByteArray) (num : Nat) (mv : Value) (n0 : Nat) (P : Bool × Nat × PRule × List PMen) (e : Ending) (w' : World) : Prop :=
 ∃ (x : ByteArray) (a : Option Addr) (n c : Nat) (a' : Option Addr) (n' c' : Nat) (mv' : Value), e = .returned (.tuple #[.agg #[.string x, .slice a n c, .slice a' n' c'], .bool P.1]) ∧ Kept (b :: mv.ownBlock.toList) w w' ∧ Rdr w' b s P.2.1 num mv' ∧ (∀ k, mv'.ownBlock = some k → mv.ownBlock = some k ∨ w.heap.size ≤ k) ∧
  (P.1 = true → ∃ (bs : List (PLit × Value)) (ms' : List (PMen × Value)), x = P.2.2.1.pd ∧ MRow w' (b + 1) mv' ms' ∧ ms'.map (·.1) = P.2.2.2 ∧ ms'.length ≤ n0 + 4 ∧ w'.ownsRow w.heap.size 191 1 (.slice a n c) P.2.2.1.ts.length (zbj P.2.2.1.ts) ∧ LRow w' w.heap.size (.slice a' n' c') bs ∧ bs.map (·.1) = P.2.2.1.body ∧ bs.length ≤ 3 ∧ P.2.1 ≤ s.size)
structure HInv (w : World) (b : Nat) (s : ByteArray) (num : Nat) (mv : Value) (h : Nat) (pd : ByteArray) (tv : Value) (ts : List (Bool × ByteArray)) (p : Nat) (ms : List (PMen × Value)) (mv1 : Value) (wr : World) : Prop where
 rdr : Rdr wr b s p num mv1
 men : MRow wr (b + 1) mv1 ms
 res : wr.heap[w.heap.size]? = some (.cells #[.string { data := #[] }, .slice none 0 0, .slice none 0 0] 123 (0, 0))
 hd : wr.heap[h]? = some (.cells #[.string pd, tv] 79 (0, 0))
 trm : wr.ownsRow w.heap.size 191 1 tv ts.length (zbj ts)
 kept : Kept (b :: mv.ownBlock.toList) w wr
 at_ : ∀ k, mv1.ownBlock = some k → mv.ownBlock = some k ∨ w.heap.size ≤ k
 bw : b < w.heap.size
 hw : w.heap.size < h
theorem HInv.take {w : World} {b : Nat} {s : ByteArray} {num : Nat} {mv : Value} {h : Nat} {pd : ByteArray} {tv : Value} {ts : List (Bool × ByteArray)} {p p' : Nat} {ms : List (PMen × Value)} {mv1 : Value} {wr w1 : World} (i : HInv w b s num mv h pd tv ts p ms mv1 wr) (k : Kept [b] wr w1) (hr : Rdr w1 b s p' num mv1) : HInv w b s num mv h pd tv ts p' ms mv1 w1 :=
 have h1 := i.bw
 have h2 := i.hw
 ⟨hr, i.men.kept k (by simp), za1 i.res k (by simp; omega), za1 i.hd k (by simp; omega), zay i.trm k (by simp; omega), i.kept.step k (by simp), i.at_, i.bw, i.hw⟩
theorem HInv.ends {w : World} {b : Nat} {s : ByteArray} {num : Nat} {mv : Value} {h : Nat} {pd : ByteArray} {tv : Value} {ts : List (Bool × ByteArray)} {p : Nat} {ms : List (PMen × Value)} {mv1 : Value} {wr w1 : World} (i : HInv w b s num mv h pd tv ts p ms mv1 wr) (k : Kept [w.heap.size] wr w1) :
  Kept (b :: mv.ownBlock.toList) w w1 ∧ Rdr w1 b s p num mv1 ∧ MRow w1 (b + 1) mv1 ms ∧ w1.ownsRow w.heap.size 191 1 tv ts.length (zbj ts) := by
 have h1 := i.bw
 refine ⟨i.kept.step k (by simp), i.rdr.kept k (by simp; omega), i.men.keptT k (fun x hx => ?_), zbq i.trm k (fun x hx => ?_)⟩
 ·simp at hx; subst hx; exact .inr ⟨zfq i.res (by decide), zfq i.res (by decide)⟩
 ·simp at hx; subst hx; exact .inr (zfq i.res (by decide))
theorem lits_ends {w w' : World} {n base : Nat} {c : Array Value} {bv : Value} {ls : List (PLit × Value)} (h : LRow w base bv ls) (hb : w.heap[n]? = some (.cells c 123 (0, 0))) (k : Kept [n] w w') : LRow w' base bv ls :=
 h.keptT k (fun x hx => by simp at hx; subst hx; exact .inr ⟨zfq hb (by decide), zfq hb (by decide)⟩)
set_option maxRecDepth 100000 in
theorem prule_any (w : World) (b : Nat) (s : ByteArray) (pos num : Nat) (mv : Value) (ms0 : List (PMen × Value)) (h : Rdr w b s pos num mv) (hms : MRow w (b + 1) mv ms0) (hml : ms0.length ≤ 800) (hpos : pos ≤ s.size) (hs : s.size ≤ 2000000) :
  Calls Tryz.prog 74 #[.pointer (some ⟨b, 0, none⟩)] w (RulePost w b s num mv ms0.length (zb2 s num pos (ms0.map (·.1)))) := by
 have hsm : s.size ≤ maxLen := by unfold maxLen; omega
 have h0 := h.kept ((Kept.refl [] w).alloc (.cells #[.string { data := #[] }, .slice none 0 0, .slice none 0 0] 123)) (by simp)
 have hms0 := hms.kept ((Kept.refl [] w).alloc (.cells #[.string { data := #[] }, .slice none 0 0, .slice none 0 0] 123)) (by simp)
 obtain ⟨hlt, c0, c1, c2, c3, c4, c5, fz⟩ := h
 have hbk : (w.alloc (.cells #[.string { data := #[] }, .slice none 0 0, .slice none 0 0] 123)).heap[w.heap.size]? = some (.cells #[.string { data := #[] }, .slice none 0 0, .slice none 0 0] 123 (0, 0)) := heap_alloc_new w _
 have HBK := hide hbk
 have hq := patom_le hpos
 have HMW := hide (fun k (e : mv.ownBlock = some k) => (hms.row.lt k e).2)
 have HP : zb2 s num pos (ms0.map (·.1)) = _ := zb2.eq_1 s num pos (ms0.map (·.1))
 have HP := hide HP
 clear hbk hms
 go_enter Tryz.func74, Tryz.ntmps74
 go_wp2_with fail
 refine (zj4 _ b s pos num mv false (zae s pos).2.1 ms0 h0 hms0 (by omega) hpos hs).mono ?_
 intro e w1 hpost
 clear c0 c1 c2 c3 c4 c5 fz h0 hms0
 cases hr : zby s pos with
 | no q =>
  rw [hr] at hpost hq HP
  obtain ⟨rfl, hk1, hr1⟩ := hpost
  have hb1 := za1 (zaa HBK) hk1 (by simp; omega)
  obtain ⟨a0, f0⟩ := zab hb1 0
  obtain ⟨a1, f1⟩ := zab hb1 1
  obtain ⟨a2, f2⟩ := zab hb1 2
  have hnl : w.heap.size < w1.heap.size := by have := hk1.size; simp at this; omega
  have HK := hide hk1
  have HR := hide hr1
  clear hk1 hr1 hr hb1 HBK
  go_wp2_with fail
  obtain ⟨q0, q1, q2⟩ := set3 a0 a1 a2 (.string { data := #[] }) (.slice none 0 0) (.slice none 0 0)
  have q0 := zdi q0; have q1 := zdi q1; have q2 := zdi q2
  have k3 := (kept3 w1 w.heap.size (.string { data := #[] }) (.slice none 0 0) (.slice none 0 0)).alloc (Obj.cells #[Value.string { data := #[] }, Value.slice none 0 0] 79)
  refine bodyPost_ret (v := .tuple #[.agg #[.string { data := #[] }, .slice none 0 0, .slice none 0 0], .bool false]) (by simp [results, Tryz.results74, go_sem, q0, q1, q2]) rfl ?_
  rw [zaa HP]
  exact ⟨_, _, _, _, _, _, _, mv, rfl, (((Kept.refl _ w).alloc _).step (zaa HK) (by simp)).step k3 (by simp), (zaa HR).kept k3 (by simp; omega), fun k e => .inl e, fun e => by cases e⟩
 | yes q pd ts pl =>
  rw [hr] at hpost hq HP
  obtain ⟨tv, mv1, rfl, hk1, hr1, hm1, ht1, hw1⟩ := hpost
  obtain ⟨at1, capt, rfl⟩ := zac ht1
  have hnl : w.heap.size < w1.heap.size := by have := hk1.size; simp at this; omega
  have hb1 := za1 (zaa HBK) hk1 (fun x hx => by
   rcases List.mem_cons.1 hx with rfl | hx
   ·exact .inl (by omega)
   ·have := zaa HMW x (by simpa using hx); exact .inl (by omega))
  have ka := (Kept.refl [] w1).alloc (Obj.cells #[Value.string pd, .slice at1 ts.length capt] 79)
  have hI : HInv w b s num mv w1.heap.size pd (.slice at1 ts.length capt) ts q (ms0 ++ [(zhc s num pos pd ts pl, .slice at1 ts.length capt)]) mv1 (w1.alloc (Obj.cells #[Value.string pd, .slice at1 ts.length capt] 79)) := by
   refine ⟨hr1.kept ka (by simp), hm1.keptT ka (by simp), za1 hb1 ka (by simp), heap_alloc_new _ _, zbq (zaf ht1 (by simp)) ka (by simp), ((((Kept.refl _ w).alloc _).step hk1 (by simp; intro x hx; exact .inl (.inr hx))).alloc _), fun k e => ?_, hlt, hnl⟩
   rcases hw1 k e with h1 | h1
   ·exact .inl h1
   ·exact .inr (by simp at h1; omega)
  have HI := hide hI
  have hpl1 : w.heap.size < w1.heap.size + 1 := by omega
  clear hk1 hr1 hm1 ht1 hw1 hb1 ka hI HBK hr
  go_wp2_with fail
  refine (zbm s q num mv1 8 b _ (zaa HI).rdr hq hsm).mono ?_
  rintro e w2 ⟨rfl, hk2, hr2⟩
  have hI2 := (zaa HI).take hk2 hr2
  have hsz2 := hk2.size
  rw [World.size_alloc] at hsz2
  clear HI hk2 hr2
  obtain ⟨d0, g0⟩ := zab hI2.hd 0
  obtain ⟨d1, g1⟩ := zab hI2.hd 1
  cases h8 : (zae s q).1 == 8 with
  | true =>
   have h8' : (zae s q).1 = 8 := by simpa using h8
   have e8 : za2 s q 8 = (zae s q).2.2 := by unfold za2; rw [if_pos h8]
   rw [e8] at hI2
   obtain ⟨a0, f0⟩ := zab hI2.res 0
   obtain ⟨a1, f1⟩ := zab hI2.res 1
   obtain ⟨a2, f2⟩ := zab hI2.res 2
   have HP2 := hide ((zaa HP).trans (if_pos h8'))
   have HI2 := hide hI2
   clear HP h8 h8' e8 hI2
   go_wp2_with fail
   obtain ⟨q0, q1, q2⟩ := set3 a0 a1 a2 (.string pd) (.slice at1 ts.length capt) (.slice none 0 0)
   have k3 := kept3 w2 w.heap.size (.string pd) (.slice at1 ts.length capt) (.slice none 0 0)
   refine bodyPost_ret (v := .tuple #[.agg #[.string pd, .slice at1 ts.length capt, .slice none 0 0], .bool true]) (by simp [results, Tryz.results74, go_sem, q0, q1, q2]) rfl ?_
   rw [zaa HP2]
   obtain ⟨z1, z2, z3, z4⟩ := (zaa HI2).ends k3
   exact ⟨_, _, _, _, _, _, _, mv1, rfl, z1, z2, (zaa HI2).at_, fun _ => ⟨[], _, rfl, z3, by simp, by simp, z4, ⟨World.ownsRow_nil _ _ _ _, by simp⟩, rfl, by simp, (zbs s q hq).2⟩⟩
  | false =>
   have h8' : ¬ (zae s q).1 = 8 := by simpa using h8
   have e8 : za2 s q 8 = q := by unfold za2; rw [if_neg (by rw [h8]; decide)]
   rw [e8] at hI2
   have HP2 := hide ((zaa HP).trans (if_neg h8'))
   have HI2 := hide hI2
   clear HP h8 h8' e8 hI2 d0 d1 g0 g1
   go_wp2_with fail
   refine (zbm s q num mv1 9 b _ (zaa HI2).rdr hq hsm).mono ?_
   rintro e w3 ⟨rfl, hk3, hr3⟩
   have hI3 := (zaa HI2).take hk3 hr3
   have hsz3 := hk3.size
   clear HI2 hk3 hr3
   cases h9 : (zae s q).1 == 9 with
   | false =>
    have h9' : ¬ (zae s q).1 = 9 := by simpa using h9
    have e9 : za2 s q 9 = q := by unfold za2; rw [if_neg (by rw [h9]; decide)]
    rw [e9] at hI3
    obtain ⟨a0, f0⟩ := zab hI3.res 0
    obtain ⟨a1, f1⟩ := zab hI3.res 1
    obtain ⟨a2, f2⟩ := zab hI3.res 2
    have HP3 := hide ((zaa HP2).trans (if_neg h9'))
    have HI3 := hide hI3
    clear HP2 h9 h9' e9 hI3
    go_wp2_with fail
    obtain ⟨q0, q1, q2⟩ := set3 a0 a1 a2 (.string { data := #[] }) (.slice none 0 0) (.slice none 0 0)
    have k3 := kept3 w3 w.heap.size (.string { data := #[] }) (.slice none 0 0) (.slice none 0 0)
    refine bodyPost_ret (v := .tuple #[.agg #[.string { data := #[] }, .slice none 0 0, .slice none 0 0], .bool false]) (by simp [results, Tryz.results74, go_sem, q0, q1, q2]) rfl ?_
    rw [zaa HP3]
    obtain ⟨z1, z2, z3, z4⟩ := (zaa HI3).ends k3
    exact ⟨_, _, _, _, _, _, _, mv1, rfl, z1, z2, (zaa HI3).at_, fun e => by cases e⟩
   | true =>
    have h9' : (zae s q).1 = 9 := by simpa using h9
    have e9 : za2 s q 9 = (zae s q).2.2 := by unfold za2; rw [if_pos h9]
    rw [e9] at hI3
    have HP3 := hide ((zaa HP2).trans (if_pos h9'))
    have HI3 := hide hI3
    have hq3 := (zbs s q hq).2
    clear HP2 h9 h9' e9 hI3
    go_wp2_with fail
    refine (pbody_any w3 b s (zae s q).2.2 num mv1 _ (zaa HI3).rdr (zaa HI3).men (by simp; omega) hq3 hs).mono ?_
    rintro e w4 ⟨ab, nb, cb, mv4, ls, ms4, rfl, hk4, hr4, hm4, hmm4, hml4, hat4, hyes4⟩
    have hne : ∀ x ∈ (b :: mv1.ownBlock.toList), x = b ∨ (NotT w3 123 x ∧ NotT w3 79 x ∧ NotT w3 191 x) := fun x hx => by
     rcases List.mem_cons.1 hx with rfl | hx
     ·exact .inl rfl
     ·exact .inr ⟨zaz (zaa HI3).men.row (by decide) x hx, zaz (zaa HI3).men.row (by decide) x hx, zaz (zaa HI3).men.row (by decide) x hx⟩
    have hI4 : HInv w b s num mv w1.heap.size pd (.slice at1 ts.length capt) ts (zck s num 3 (zae s q).2.2 [] ((ms0 ++ [(zhc s num pos pd ts pl, Value.slice at1 ts.length capt)]).map (·.1))).2.1 ms4 mv4 w4 := by
     have i := zaa HI3
     have hz := i.kept.size
     refine ⟨hr4, hm4, za1 i.res hk4 (fun x hx => ?_), za1 i.hd hk4 (fun x hx => ?_), zbq i.trm hk4 (fun x hx => ?_), i.kept.step hk4 (fun x hx => ?_), fun k e => ?_, hlt, hnl⟩
     ·rcases hne x hx with rfl | hx
      ·exact .inl (by omega)
      ·exact .inr hx.1
     ·rcases hne x hx with rfl | hx
      ·exact .inl (by omega)
      ·exact .inr hx.2.1
     ·rcases hne x hx with rfl | hx
      ·exact .inl hlt
      ·exact .inr hx.2.2
     ·rcases List.mem_cons.1 hx with rfl | hx
      ·exact .inl (by simp)
      ·rcases i.at_ x (by simpa using hx) with h1 | h1
       ·exact .inl (by simp [h1])
       ·exact .inr h1
     ·rcases hat4 k e with h1 | h1
      ·exact i.at_ k h1
      ·exact .inr (by omega)
    have hsz4 := hk4.size
    clear hk4 hr4 hm4 hne hat4
    have hms4 : ((ms0 ++ [(zhc s num pos pd ts pl, Value.slice at1 ts.length capt)]).map (·.1)) = ms0.map (·.1) ++ [zhc s num pos pd ts pl] := by simp
    rw [hms4] at hI4 hmm4 hyes4 ⊢
    have HY := hide hyes4
    have HM := hide hmm4
    have hw3z := (zaa HI3).kept.size
    clear hyes4 hmm4 HI3
    obtain ⟨d0, g0⟩ := zab hI4.hd 0
    obtain ⟨d1, g1⟩ := zab hI4.hd 1
    obtain ⟨a0, f0⟩ := zab hI4.res 0
    obtain ⟨a1, f1⟩ := zab hI4.res 1
    obtain ⟨a2, f2⟩ := zab hI4.res 2
    have HI4 := hide hI4
    clear hI4
    go_wp2_with fail
    obtain ⟨q0, q1, q2⟩ := set3 a0 a1 a2 (.string pd) (.slice at1 ts.length capt) (.slice ab nb cb)
    have k3 := kept3 w4 w.heap.size (.string pd) (.slice at1 ts.length capt) (.slice ab nb cb)
    refine bodyPost_ret (v := .tuple #[.agg #[.string pd, .slice at1 ts.length capt, .slice ab nb cb], .bool (zck s num 3 (zae s q).2.2 [] (ms0.map (·.1) ++ [zhc s num pos pd ts pl])).1]) (by simp [results, Tryz.results74, go_sem, q0, q1, q2]) rfl ?_
    rw [zaa HP3]
    obtain ⟨z1, z2, z3, z4⟩ := (zaa HI4).ends k3
    refine ⟨_, _, _, _, _, _, _, mv4, rfl, z1, z2, (zaa HI4).at_, fun hy => ?_⟩
    obtain ⟨y1, y2, y3, y4⟩ := zaa HY hy
    exact ⟨ls, ms4, rfl, z3, zaa HM, by simp at hml4; omega, z4, lits_ends (y1.low hw3z) (zaa HI4).res k3, y2, y3, y4⟩
end
end Go.Proofs.YtldkpahaocjdpaaGreat
