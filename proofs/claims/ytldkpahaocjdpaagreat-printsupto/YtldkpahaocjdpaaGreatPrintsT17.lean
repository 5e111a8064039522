/-
  The program's reader: rule, at every text and place.
-/
import Derived.Test.YtldkpahaocjdpaaGreatPrintsT16
namespace Go.Proofs.YtldkpahaocjdpaaGreat
open Go.RowKit

theorem notT_of {w : World} {n : Nat} {c : Array Value} {e e' : TypeId} {fr : Nat × Nat} (hb : w.heap[n]? = some (.cells c e fr)) (hne : e ≠ e') : NotT w e' n := by
  intro c' fr' h
  rw [hb] at h
  injection h with h
  injection h with _ h _
  exact hne h

theorem cells_keptT {B : List Nat} {w w' : World} {n : Nat} {c : Array Value} {e : TypeId} {fr : Nat × Nat} (hb : w.heap[n]? = some (.cells c e fr)) (k : Kept B w w') (hB : ∀ x ∈ B, x ≠ n ∨ NotT w e x) : w'.heap[n]? = some (.cells c e fr) := by
  rw [k.block n (Array.getElem?_eq_some_iff.1 hb).1 (fun hm => by
    rcases hB n hm with h1 | h1
    · exact h1 rfl
    · exact h1 _ _ hb)]
  exact hb

def RulePost (w : World) (b : Nat) (s : ByteArray) (num : Nat) (mv : Value) (n0 : Nat) (P : Bool × Nat × PRule × List PMen) (e : Ending) (w' : World) : Prop :=
  ∃ (x : ByteArray) (a : Option Addr) (n c : Nat) (a' : Option Addr) (n' c' : Nat) (mv' : Value), e = .returned (.tuple #[.agg #[.string x, .slice a n c, .slice a' n' c'], .bool P.1]) ∧ Kept (b :: mv.ownBlock.toList) w w' ∧ Rdr w' b s P.2.1 num mv' ∧ (∀ k, mv'.ownBlock = some k → mv.ownBlock = some k ∨ w.heap.size ≤ k) ∧
    (P.1 = true → ∃ (bs : List (PLit × Value)) (ms' : List (PMen × Value)), x = P.2.2.1.pd ∧ MRow w' (b + 1) mv' ms' ∧ ms'.map (·.1) = P.2.2.2 ∧ ms'.length ≤ n0 + 4 ∧ w'.ownsRow w.heap.size 191 1 (.slice a n c) P.2.2.1.ts.length (ptCells P.2.2.1.ts) ∧ LRow w' w.heap.size (.slice a' n' c') bs ∧ bs.map (·.1) = P.2.2.1.body ∧ bs.length ≤ 3 ∧ P.2.1 ≤ s.size)

/-- All that is so behind the head. -/
structure HInv (w : World) (b : Nat) (s : ByteArray) (num : Nat) (mv : Value) (h : Nat) (pd : ByteArray) (tv : Value) (ts : List (Bool × ByteArray)) (p : Nat) (ms : List (PMen × Value)) (mv1 : Value) (wr : World) : Prop where
  rdr : Rdr wr b s p num mv1
  men : MRow wr (b + 1) mv1 ms
  res : wr.heap[w.heap.size]? = some (.cells #[.string { data := #[] }, .slice none 0 0, .slice none 0 0] 123 (0, 0))
  hd : wr.heap[h]? = some (.cells #[.string pd, tv] 79 (0, 0))
  trm : wr.ownsRow w.heap.size 191 1 tv ts.length (ptCells ts)
  kept : Kept (b :: mv.ownBlock.toList) w wr
  at_ : ∀ k, mv1.ownBlock = some k → mv.ownBlock = some k ∨ w.heap.size ≤ k
  bw : b < w.heap.size
  hw : w.heap.size < h

theorem HInv.take {w : World} {b : Nat} {s : ByteArray} {num : Nat} {mv : Value} {h : Nat} {pd : ByteArray} {tv : Value} {ts : List (Bool × ByteArray)} {p p' : Nat} {ms : List (PMen × Value)} {mv1 : Value} {wr w1 : World} (i : HInv w b s num mv h pd tv ts p ms mv1 wr) (k : Kept [b] wr w1) (hr : Rdr w1 b s p' num mv1) : HInv w b s num mv h pd tv ts p' ms mv1 w1 :=
  have h1 := i.bw
  have h2 := i.hw
  ⟨hr, i.men.kept k (by simp), cells_keptT i.res k (by simp; omega), cells_keptT i.hd k (by simp; omega), ownsRow_kept i.trm k (by simp; omega), i.kept.step k (by simp), i.at_, i.bw, i.hw⟩

/-- The rule is laid into the result's block. -/
theorem HInv.ends {w : World} {b : Nat} {s : ByteArray} {num : Nat} {mv : Value} {h : Nat} {pd : ByteArray} {tv : Value} {ts : List (Bool × ByteArray)} {p : Nat} {ms : List (PMen × Value)} {mv1 : Value} {wr w1 : World} (i : HInv w b s num mv h pd tv ts p ms mv1 wr) (k : Kept [w.heap.size] wr w1) :
    Kept (b :: mv.ownBlock.toList) w w1 ∧ Rdr w1 b s p num mv1 ∧ MRow w1 (b + 1) mv1 ms ∧ w1.ownsRow w.heap.size 191 1 tv ts.length (ptCells ts) := by
  have h1 := i.bw
  refine ⟨i.kept.step k (by simp), i.rdr.kept k (by simp; omega), i.men.keptT k (fun x hx => ?_), own_keptT i.trm k (fun x hx => ?_)⟩
  · simp at hx; subst hx; exact .inr ⟨notT_of i.res (by decide), notT_of i.res (by decide)⟩
  · simp at hx; subst hx; exact .inr (notT_of i.res (by decide))

theorem lits_ends {w w' : World} {n base : Nat} {c : Array Value} {bv : Value} {ls : List (PLit × Value)} (h : LRow w base bv ls) (hb : w.heap[n]? = some (.cells c 123 (0, 0))) (k : Kept [n] w w') : LRow w' base bv ls :=
  h.keptT k (fun x hx => by simp at hx; subst hx; exact .inr ⟨notT_of hb (by decide), notT_of hb (by decide)⟩)

set_option maxRecDepth 100000 in
set_option maxHeartbeats 8000000 in
theorem prule_any (w : World) (b : Nat) (s : ByteArray) (pos num : Nat) (mv : Value) (ms0 : List (PMen × Value)) (h : Rdr w b s pos num mv) (hms : MRow w (b + 1) mv ms0) (hml : ms0.length ≤ 800) (hpos : pos ≤ s.size) (hs : s.size ≤ 800) :
    Calls Tryz.prog 74 #[.pointer (some ⟨b, 0, none⟩)] w (RulePost w b s num mv ms0.length (pruleS s num pos (ms0.map (·.1)))) := by
  have hsm : s.size ≤ maxLen := by unfold maxLen; omega
  have h0 := h.kept ((Kept.refl [] w).alloc (.cells #[.string { data := #[] }, .slice none 0 0, .slice none 0 0] 123)) (by simp)
  have hms0 := hms.kept ((Kept.refl [] w).alloc (.cells #[.string { data := #[] }, .slice none 0 0, .slice none 0 0] 123)) (by simp)
  obtain ⟨hlt, c0, c1, c2, c3, c4, c5, fz⟩ := h
  have hbk : (w.alloc (.cells #[.string { data := #[] }, .slice none 0 0, .slice none 0 0] 123)).heap[w.heap.size]? = some (.cells #[.string { data := #[] }, .slice none 0 0, .slice none 0 0] 123 (0, 0)) := heap_alloc_new w _
  have HBK := hide hbk
  have hq := patom_le hpos
  have HMW := hide (fun k (e : mv.ownBlock = some k) => (hms.row.lt k e).2)
  have HP : pruleS s num pos (ms0.map (·.1)) = _ := pruleS.eq_1 s num pos (ms0.map (·.1))
  have HP := hide HP
  clear hbk hms
  go_enter Tryz.func74, Tryz.ntmps74
  go_wp2_with fail
  refine (patom_any _ b s pos num mv false (scanK s pos).2.1 ms0 h0 hms0 (by omega) hpos hs).mono ?_
  intro e w1 hpost
  clear c0 c1 c2 c3 c4 c5 fz h0 hms0
  cases hr : patomS s pos with
  | no q =>
    rw [hr] at hpost hq HP
    obtain ⟨rfl, hk1, hr1⟩ := hpost
    have hb1 := cells_keptT (unhide HBK) hk1 (by simp; omega)
    obtain ⟨a0, f0⟩ := block_cells hb1 0
    obtain ⟨a1, f1⟩ := block_cells hb1 1
    obtain ⟨a2, f2⟩ := block_cells hb1 2
    have hnl : w.heap.size < w1.heap.size := by have := hk1.size; simp at this; omega
    have HK := hide hk1
    have HR := hide hr1
    clear hk1 hr1 hr hb1 HBK
    go_wp2_with fail
    obtain ⟨q0, q1, q2⟩ := set3 a0 a1 a2 (.string { data := #[] }) (.slice none 0 0) (.slice none 0 0)
    have q0 := past5 q0; have q1 := past5 q1; have q2 := past5 q2
    have k3 := (kept3 w1 w.heap.size (.string { data := #[] }) (.slice none 0 0) (.slice none 0 0)).alloc (Obj.cells #[Value.string { data := #[] }, Value.slice none 0 0] 79)
    refine bodyPost_ret (v := .tuple #[.agg #[.string { data := #[] }, .slice none 0 0, .slice none 0 0], .bool false]) (by simp [results, Tryz.results74, go_sem, q0, q1, q2]) rfl ?_
    rw [unhide HP]
    exact ⟨_, _, _, _, _, _, _, mv, rfl, (((Kept.refl _ w).alloc _).step (unhide HK) (by simp)).step k3 (by simp), (unhide HR).kept k3 (by simp; omega), fun k e => .inl e, fun e => by cases e⟩
  | yes q pd ts pl =>
    rw [hr] at hpost hq HP
    obtain ⟨tv, mv1, rfl, hk1, hr1, hm1, ht1, hw1⟩ := hpost
    obtain ⟨at1, capt, rfl⟩ := own_slice ht1
    have hnl : w.heap.size < w1.heap.size := by have := hk1.size; simp at this; omega
    have hb1 := cells_keptT (unhide HBK) hk1 (fun x hx => by
      rcases List.mem_cons.1 hx with rfl | hx
      · exact .inl (by omega)
      · have := unhide HMW x (by simpa using hx); exact .inl (by omega))
    have ka := (Kept.refl [] w1).alloc (Obj.cells #[Value.string pd, .slice at1 ts.length capt] 79)
    have hI : HInv w b s num mv w1.heap.size pd (.slice at1 ts.length capt) ts q (ms0 ++ [(phead s num pos pd ts pl, .slice at1 ts.length capt)]) mv1 (w1.alloc (Obj.cells #[Value.string pd, .slice at1 ts.length capt] 79)) := by
      refine ⟨hr1.kept ka (by simp), hm1.keptT ka (by simp), cells_keptT hb1 ka (by simp), heap_alloc_new _ _, own_keptT (ownsRow_low ht1 (by simp)) ka (by simp), ((((Kept.refl _ w).alloc _).step hk1 (by simp; intro x hx; exact .inl (.inr hx))).alloc _), fun k e => ?_, hlt, hnl⟩
      rcases hw1 k e with h1 | h1
      · exact .inl h1
      · exact .inr (by simp at h1; omega)
    have HI := hide hI
    have hpl1 : w.heap.size < w1.heap.size + 1 := by omega
    clear hk1 hr1 hm1 ht1 hw1 hb1 ka hI HBK hr
    go_wp2_with fail
    refine (rtake_any s q num mv1 8 b _ (unhide HI).rdr hq hsm).mono ?_
    rintro e w2 ⟨rfl, hk2, hr2⟩
    have hI2 := (unhide HI).take hk2 hr2
    have hsz2 := hk2.size
    rw [World.size_alloc] at hsz2
    clear HI hk2 hr2
    obtain ⟨d0, g0⟩ := block_cells hI2.hd 0
    obtain ⟨d1, g1⟩ := block_cells hI2.hd 1
    cases h8 : (scanK s q).1 == 8 with
    | true =>
      have h8' : (scanK s q).1 = 8 := by simpa using h8
      have e8 : rtake s q 8 = (scanK s q).2.2 := by unfold rtake; rw [if_pos h8]
      rw [e8] at hI2
      obtain ⟨a0, f0⟩ := block_cells hI2.res 0
      obtain ⟨a1, f1⟩ := block_cells hI2.res 1
      obtain ⟨a2, f2⟩ := block_cells hI2.res 2
      have HP2 := hide ((unhide HP).trans (if_pos h8'))
      have HI2 := hide hI2
      clear HP h8 h8' e8 hI2
      go_wp2_with fail
      obtain ⟨q0, q1, q2⟩ := set3 a0 a1 a2 (.string pd) (.slice at1 ts.length capt) (.slice none 0 0)
      have k3 := kept3 w2 w.heap.size (.string pd) (.slice at1 ts.length capt) (.slice none 0 0)
      refine bodyPost_ret (v := .tuple #[.agg #[.string pd, .slice at1 ts.length capt, .slice none 0 0], .bool true]) (by simp [results, Tryz.results74, go_sem, q0, q1, q2]) rfl ?_
      rw [unhide HP2]
      obtain ⟨z1, z2, z3, z4⟩ := (unhide HI2).ends k3
      exact ⟨_, _, _, _, _, _, _, mv1, rfl, z1, z2, (unhide HI2).at_, fun _ => ⟨[], _, rfl, z3, by simp, by simp, z4, ⟨World.ownsRow_nil _ _ _ _, by simp⟩, rfl, by simp, (scan_le s q hq).2⟩⟩
    | false =>
      have h8' : ¬ (scanK s q).1 = 8 := by simpa using h8
      have e8 : rtake s q 8 = q := by unfold rtake; rw [if_neg (by rw [h8]; decide)]
      rw [e8] at hI2
      have HP2 := hide ((unhide HP).trans (if_neg h8'))
      have HI2 := hide hI2
      clear HP h8 h8' e8 hI2 d0 d1 g0 g1
      go_wp2_with fail
      refine (rtake_any s q num mv1 9 b _ (unhide HI2).rdr hq hsm).mono ?_
      rintro e w3 ⟨rfl, hk3, hr3⟩
      have hI3 := (unhide HI2).take hk3 hr3
      have hsz3 := hk3.size
      clear HI2 hk3 hr3
      cases h9 : (scanK s q).1 == 9 with
      | false =>
        have h9' : ¬ (scanK s q).1 = 9 := by simpa using h9
        have e9 : rtake s q 9 = q := by unfold rtake; rw [if_neg (by rw [h9]; decide)]
        rw [e9] at hI3
        obtain ⟨a0, f0⟩ := block_cells hI3.res 0
        obtain ⟨a1, f1⟩ := block_cells hI3.res 1
        obtain ⟨a2, f2⟩ := block_cells hI3.res 2
        have HP3 := hide ((unhide HP2).trans (if_neg h9'))
        have HI3 := hide hI3
        clear HP2 h9 h9' e9 hI3
        go_wp2_with fail
        obtain ⟨q0, q1, q2⟩ := set3 a0 a1 a2 (.string { data := #[] }) (.slice none 0 0) (.slice none 0 0)
        have k3 := kept3 w3 w.heap.size (.string { data := #[] }) (.slice none 0 0) (.slice none 0 0)
        refine bodyPost_ret (v := .tuple #[.agg #[.string { data := #[] }, .slice none 0 0, .slice none 0 0], .bool false]) (by simp [results, Tryz.results74, go_sem, q0, q1, q2]) rfl ?_
        rw [unhide HP3]
        obtain ⟨z1, z2, z3, z4⟩ := (unhide HI3).ends k3
        exact ⟨_, _, _, _, _, _, _, mv1, rfl, z1, z2, (unhide HI3).at_, fun e => by cases e⟩
      | true =>
        have h9' : (scanK s q).1 = 9 := by simpa using h9
        have e9 : rtake s q 9 = (scanK s q).2.2 := by unfold rtake; rw [if_pos h9]
        rw [e9] at hI3
        have HP3 := hide ((unhide HP2).trans (if_pos h9'))
        have HI3 := hide hI3
        have hq3 := (scan_le s q hq).2
        clear HP2 h9 h9' e9 hI3
        go_wp2_with fail
        refine (pbody_any w3 b s (scanK s q).2.2 num mv1 _ (unhide HI3).rdr (unhide HI3).men (by simp; omega) hq3 hs).mono ?_
        rintro e w4 ⟨ab, nb, cb, mv4, ls, ms4, rfl, hk4, hr4, hm4, hmm4, hml4, hat4, hyes4⟩
        have hne : ∀ x ∈ (b :: mv1.ownBlock.toList), x = b ∨ (NotT w3 123 x ∧ NotT w3 79 x ∧ NotT w3 191 x) := fun x hx => by
          rcases List.mem_cons.1 hx with rfl | hx
          · exact .inl rfl
          · exact .inr ⟨own_notT (unhide HI3).men.row (by decide) x hx, own_notT (unhide HI3).men.row (by decide) x hx, own_notT (unhide HI3).men.row (by decide) x hx⟩
        have hI4 : HInv w b s num mv w1.heap.size pd (.slice at1 ts.length capt) ts (pbodyS s num 3 (scanK s q).2.2 [] ((ms0 ++ [(phead s num pos pd ts pl, Value.slice at1 ts.length capt)]).map (·.1))).2.1 ms4 mv4 w4 := by
          have i := unhide HI3
          have hz := i.kept.size
          refine ⟨hr4, hm4, cells_keptT i.res hk4 (fun x hx => ?_), cells_keptT i.hd hk4 (fun x hx => ?_), own_keptT i.trm hk4 (fun x hx => ?_), i.kept.step hk4 (fun x hx => ?_), fun k e => ?_, hlt, hnl⟩
          · rcases hne x hx with rfl | hx
            · exact .inl (by omega)
            · exact .inr hx.1
          · rcases hne x hx with rfl | hx
            · exact .inl (by omega)
            · exact .inr hx.2.1
          · rcases hne x hx with rfl | hx
            · exact .inl hlt
            · exact .inr hx.2.2
          · rcases List.mem_cons.1 hx with rfl | hx
            · exact .inl (by simp)
            · rcases i.at_ x (by simpa using hx) with h1 | h1
              · exact .inl (by simp [h1])
              · exact .inr h1
          · rcases hat4 k e with h1 | h1
            · exact i.at_ k h1
            · exact .inr (by omega)
        have hsz4 := hk4.size
        clear hk4 hr4 hm4 hne hat4
        have hms4 : ((ms0 ++ [(phead s num pos pd ts pl, Value.slice at1 ts.length capt)]).map (·.1)) = ms0.map (·.1) ++ [phead s num pos pd ts pl] := by simp
        rw [hms4] at hI4 hmm4 hyes4 ⊢
        have HY := hide hyes4
        have HM := hide hmm4
        have hw3z := (unhide HI3).kept.size
        clear hyes4 hmm4 HI3
        obtain ⟨d0, g0⟩ := block_cells hI4.hd 0
        obtain ⟨d1, g1⟩ := block_cells hI4.hd 1
        obtain ⟨a0, f0⟩ := block_cells hI4.res 0
        obtain ⟨a1, f1⟩ := block_cells hI4.res 1
        obtain ⟨a2, f2⟩ := block_cells hI4.res 2
        have HI4 := hide hI4
        clear hI4
        go_wp2_with fail
        obtain ⟨q0, q1, q2⟩ := set3 a0 a1 a2 (.string pd) (.slice at1 ts.length capt) (.slice ab nb cb)
        have k3 := kept3 w4 w.heap.size (.string pd) (.slice at1 ts.length capt) (.slice ab nb cb)
        refine bodyPost_ret (v := .tuple #[.agg #[.string pd, .slice at1 ts.length capt, .slice ab nb cb], .bool (pbodyS s num 3 (scanK s q).2.2 [] (ms0.map (·.1) ++ [phead s num pos pd ts pl])).1]) (by simp [results, Tryz.results74, go_sem, q0, q1, q2]) rfl ?_
        rw [unhide HP3]
        obtain ⟨z1, z2, z3, z4⟩ := (unhide HI4).ends k3
        refine ⟨_, _, _, _, _, _, _, mv4, rfl, z1, z2, (unhide HI4).at_, fun hy => ?_⟩
        obtain ⟨y1, y2, y3, y4⟩ := unhide HY hy
        exact ⟨ls, ms4, rfl, z3, unhide HM, by simp at hml4; omega, z4, lits_ends (y1.low hw3z) (unhide HI4).res k3, y2, y3, y4⟩
end Go.Proofs.YtldkpahaocjdpaaGreat
