/-
  The reference's said: whether a variable stands in a positive literal of a rule.
  The reference's loose: the place of the first variable of an atom that stands in no positive literal of a rule, -1 if there is none.
-/
import Derived.Test.YtldkpahaocjdpaaGreatLoadsT28
namespace Go.Proofs.YtldkpahaocjdpaaGreat
open Go.RowKit

def isVarB (nm : ByteArray) (t : RTerm) : Bool := t.isVar && t.text.toList == nm.toList
def saidA (nm : ByteArray) (A : RAtom) : Bool := !A.no && A.terms.any (isVarB nm)
def saidB (nm : ByteArray) (l : List RAtom) : Bool := l.any (saidA nm)

theorem cells_at3 : ∀ (l : List RTerm) (k j : Nat) (hk : k < l.length), j < 3 → (cellsOf l)[k * 3 + j]? = (l[k].cells)[j]? := by
  intro l
  induction l with
  | nil => intro k j hk; simp at hk
  | cons x r ih =>
    intro k j hk hj
    have e : cellsOf (x :: r) = x.cells ++ cellsOf r := by simp [cellsOf]
    have hl : x.cells.length = 3 := rfl
    cases k with
    | zero => rw [e, List.getElem?_append_left (by omega)]; simp
    | succ k =>
      rw [e, List.getElem?_append_right (by omega)]
      have e2 : (k + 1) * 3 + j - x.cells.length = k * 3 + j := by omega
      rw [e2, ih k j (by simpa using hk) hj]; simp

theorem term_cells {w : World} {base : Nat} {tv : Value} {l : List RTerm} (h : w.ownsRow base 317 3 tv l.length (cellsOf l)) (k : Nat) (hk : k < l.length) : ∃ g cap, tv = .slice (some ⟨g, 0, none⟩) l.length cap ∧ base ≤ g ∧ g < w.heap.size ∧ l.length ≤ cap ∧ cap ≤ maxLen ∧
    w.cell? ⟨g, k * 3, none⟩ = some (.string l[k].text) ∧ w.cell? ⟨g, k * 3 + 1, none⟩ = some (.bool l[k].isVar) ∧ w.cell? ⟨g, k * 3 + 2, none⟩ = some (.int .i64 l[k].at_) := by
  rcases h.2 with ⟨_, h0⟩ | ⟨g, cap, cur, rfl, hb, hg, hnc, hcm, hcs, ht⟩
  · omega
  · have hl := (Array.getElem?_eq_some_iff.1 hg).1
    have hc : ∀ j, j < 3 → w.cell? ⟨g, k * 3 + j, none⟩ = (l[k].cells)[j]? := fun j hj => by
      rw [h.cellAt (k * 3 + j) (by omega), cells_at3 l k j hk hj]
    exact ⟨g, cap, rfl, hb, hl, hnc, hcm, hc 0 (by omega), hc 1 (by omega), hc 2 (by omega)⟩

/-- The facts that a walk over a rule carries: the rule, the box with its body, old memory. -/
structure SaidInv (w : World) (base : Nat) (R : RRule) (hv : Value) (bs : List (RAtom × Value)) (bv : Value) (wr : World) : Prop where
  rule : RuleIn wr base R hv bs bv
  box : wr.cell? ⟨w.heap.size, 5, none⟩ = some bv
  sz : w.heap.size < wr.heap.size
  below : Below w.heap.size w wr

theorem SaidInv.alloc {w : World} {base : Nat} {R : RRule} {hv : Value} {bs : List (RAtom × Value)} {bv : Value} {wr : World} (h : SaidInv w base R hv bs bv wr) (o : Obj) : SaidInv w base R hv bs bv (wr.alloc o) :=
  ⟨h.rule.kept ((Kept.refl [] _).alloc _) (by simp), by rw [World.cell?_alloc_past _ _ _ h.sz]; exact h.box, by have := h.sz; simp; omega, h.below.alloc (by have := h.sz; omega) _⟩

theorem said_step {nm : ByteArray} {bs : List (RAtom × Value)} {i : Nat} (h : i < bs.length) : saidB nm ((bs.map (·.1)).drop i) = (saidA nm bs[i].1 || saidB nm ((bs.map (·.1)).drop (i + 1))) := by
  rw [body_drop h]; simp [saidB]
theorem any_step {α : Type} {f : α → Bool} {l : List α} {k : Nat} (h : k < l.length) : (l.drop k).any f = (f l[k] || (l.drop (k + 1)).any f) := by
  rw [List.drop_eq_getElem_cons h, List.any_cons]

set_option maxRecDepth 100000 in
set_option maxHeartbeats 8000000 in
theorem said_any (w : World) (base : Nat) (R : RRule) (hv : Value) (bs : List (RAtom × Value)) (bv : Value) (nm : ByteArray) (h : RuleIn w base R hv bs bv) :
    Calls Tryz.prog 227 #[ruleVal R.head hv bv, .string nm] w fun e w' => e = .returned (.bool (saidB nm R.body)) ∧ Below w.heap.size w w' := by
  obtain ⟨ab, capb, rfl⟩ := own_slice h.bo
  obtain ⟨ah, caph, rfl⟩ := own_slice h.hd
  have hbmx := own_max h.bo
  unfold maxLen at hbmx
  rw [h.eq]
  unfold ruleVal
  have h0 : SaidInv w base R (.slice ah R.head.terms.length caph) bs (.slice ab bs.length capb) (w.alloc (.cells #[Value.string R.head.pred, .slice ah R.head.terms.length caph, .bool R.head.no, .int .i64 R.head.at_, .int .i64 R.head.noAt, .slice ab bs.length capb] 246)) :=
    ⟨h.kept ((Kept.refl [] _).alloc _) (by simp), by rw [World.cell?_alloc_at _ _ _ _ rfl]; rfl, by simp, (Below.refl _ _).alloc (Nat.le_refl _) _⟩
  clear h
  go_enter Tryz.func227, Tryz.ntmps227
  go_wp2_with fail
  go_loopg [5] bs.length (fun gg i wr => ∃ k : Nat, k ≤ bs.length ∧ gg = bs.length - k ∧ i = .int .i64 k ∧ SaidInv w base R (.slice ah R.head.terms.length caph) bs (.slice ab bs.length capb) wr ∧ saidB nm (bs.map (·.1)) = saidB nm ((bs.map (·.1)).drop k))
  case atStart => exact ⟨0, Nat.zero_le _, rfl, rfl, h0, rfl⟩
  case round =>
    clear h0
    obtain ⟨i, hi, hgk, rfl, hinv, hfin⟩ := hrel
    have HF := hide hfin
    clear hfin
    have hbx := hinv.box
    have hsz := hinv.sz
    by_cases hil : i < bs.length
    · have HF2 := hide ((unhide HF).trans (said_step hil))
      clear HF
      obtain ⟨g, cap, hvv, hbg, hgl, hnc, hcm, q0, q1, q2, q3, q4⟩ := body_cells hinv.rule.bo i hil
      injection hvv with h1 h2 h3
      subst h1 h3
      obtain ⟨at1, capt1, hbt⟩ := own_slice (hinv.rule.bl _ (List.getElem_mem hil))
      have htm := own_max (hinv.rule.bl _ (List.getElem_mem hil))
      unfold maxLen at htm
      rw [hbt] at q1
      go_wp2_with fail
      go_loopg [6] bs[i].1.terms.length (fun gg kk wr => ∃ k : Nat, k ≤ bs[i].1.terms.length ∧ gg = bs[i].1.terms.length - k ∧ kk = .int .i64 k ∧ SaidInv w base R (.slice ah R.head.terms.length caph) bs (.slice (some ⟨g, 0, none⟩) bs.length capb) wr ∧ saidB nm (bs.map (·.1)) = (!bs[i].1.no && (bs[i].1.terms.drop k).any (isVarB nm) || saidB nm ((bs.map (·.1)).drop (i + 1))))
      case atStart => exact ⟨0, Nat.zero_le _, rfl, rfl, hinv, unhide HF2⟩
      case round =>
        clear HF2 hinv hbx q0 q1 q2 q3 q4 hgl hsz
        obtain ⟨k, hk, hgk2, rfl, hinv, hfin⟩ := hrel
        have HF := hide hfin
        clear hfin
        have hbx := hinv.box
        have hsz := hinv.sz
        obtain ⟨g', cap', hvv, hbg', hgl, hnc', hcm', q0, q1, q2, q3, q4⟩ := body_cells hinv.rule.bo i hil
        injection hvv with h1 h2 h3
        injection h1 with h1
        injection h1 with h1
        subst h1 h3
        rw [hbt] at q1
        by_cases hkl : k < bs[i].1.terms.length
        · obtain ⟨gt, capt, hvt, hbgt, hgtl, hnct, hcmt, p0, p1, p2⟩ := term_cells (hinv.rule.bl _ (List.getElem_mem hil)) k hkl
          rw [hbt] at hvt
          injection hvt with h4 h5 h6
          subst h4 h6
          cases hno : bs[i].1.no with
          | true =>
            rw [hno] at q2
            have HF2 := hide (show saidB nm (bs.map (·.1)) = saidB nm ((bs.map (·.1)).drop (i + 1)) by rw [unhide HF, hno]; rfl)
            clear HF
            go_wp2_with fail
            go_roundg (bs.length - (i + 1))
            case measure => omega
            case rel => exact ⟨i + 1, by omega, rfl, by go_num, hinv, unhide HF2⟩
          | false =>
            rw [hno] at q2
            have HI := hide (hinv.alloc (.cells #[.string bs[i].1.terms[k].text, .bool bs[i].1.terms[k].isVar, .int .i64 bs[i].1.terms[k].at_] 317))
            cases hv : isVarB nm bs[i].1.terms[k] with
            | true =>
              have HF2 := hide (show saidB nm (bs.map (·.1)) = true by rw [unhide HF, hno, any_step hkl, hv]; rfl)
              have hv1 : bs[i].1.terms[k].isVar = true := by unfold isVarB at hv; simp at hv; exact hv.1
              have hv2 : (bs[i].1.terms[k].text.toList == nm.toList) = true := by unfold isVarB at hv; rw [hv1] at hv; simpa using hv
              clear HF hv
              rw [hv1] at p1
              go_wp2_with fail
              go_ret
              exact ⟨by rw [unhide HF2]; rfl, by have := (unhide HI).below; rw [hv1] at this; exact this⟩
            | false =>
              have HF2 := hide (show saidB nm (bs.map (·.1)) = (!bs[i].1.no && (bs[i].1.terms.drop (k + 1)).any (isVarB nm) || saidB nm ((bs.map (·.1)).drop (i + 1))) by rw [unhide HF, any_step hkl, hv, Bool.false_or])
              clear HF
              cases hv1 : bs[i].1.terms[k].isVar with
              | false =>
                clear hv
                rw [hv1] at p1 HI
                go_wp2_with fail
                go_roundg (bs[i].1.terms.length - (k + 1))
                case measure => omega
                case rel => exact ⟨k + 1, by omega, rfl, by go_num, unhide HI, unhide HF2⟩
              | true =>
                have hv2 : (bs[i].1.terms[k].text.toList == nm.toList) = false := by unfold isVarB at hv; rw [hv1] at hv; simpa using hv
                clear hv
                rw [hv1] at p1 HI
                go_wp2_with fail
                go_roundg (bs[i].1.terms.length - (k + 1))
                case measure => omega
                case rel => exact ⟨k + 1, by omega, rfl, by go_num, unhide HI, unhide HF2⟩
        · have HF2 := hide (show saidB nm (bs.map (·.1)) = saidB nm ((bs.map (·.1)).drop (i + 1)) by rw [unhide HF, List.drop_of_length_le (by omega)]; simp)
          clear HF
          go_wp2_with fail
          go_roundg (bs.length - (i + 1))
          case measure => omega
          case rel => exact ⟨i + 1, by omega, rfl, by go_num, hinv, unhide HF2⟩
    · have HF2 := hide (show saidB nm (bs.map (·.1)) = false by rw [unhide HF, List.drop_of_length_le (by simp; omega)]; rfl)
      clear HF
      go_wp2_with fail
      go_ret
      exact ⟨by rw [unhide HF2]; rfl, hinv.below⟩
end Go.Proofs.YtldkpahaocjdpaaGreat

namespace Go.Proofs.YtldkpahaocjdpaaGreat
open Go.RowKit

def looseI (body : List RAtom) : List RTerm → Int
  | [] => -1
  | t :: r => if t.isVar && !saidB t.text body then t.at_ else looseI body r

structure LooseInv (w : World) (base : Nat) (R : RRule) (hv : Value) (bs : List (RAtom × Value)) (bv : Value) (A : RAtom) (tv : Value) (wr : World) : Prop where
  rule : RuleIn wr base R hv bs bv
  terms : wr.ownsRow base 317 3 tv A.terms.length (cellsOf A.terms)
  rc : RCells wr w.heap.size R.head hv bv
  box : wr.cell? ⟨w.heap.size + 1, 1, none⟩ = some tv
  sz : w.heap.size + 1 < wr.heap.size
  below : Below w.heap.size w wr

theorem LooseInv.call {w : World} {base : Nat} {R : RRule} {hv : Value} {bs : List (RAtom × Value)} {bv : Value} {A : RAtom} {tv : Value} {wr w1 : World} (h : LooseInv w base R hv bs bv A tv wr) (k : Below wr.heap.size wr w1) : LooseInv w base R hv bs bv A tv w1 :=
  have hk := (Kept.refl [] wr).of_below k
  have hs := h.sz
  ⟨h.rule.kept hk (by simp), ownsRow_kept h.terms hk (by simp), h.rc.kept hk (by omega) (by simp), (hk.cell (p := ⟨w.heap.size + 1, 1, none⟩) h.sz (by simp)).trans h.box, Nat.lt_of_lt_of_le h.sz k.size, h.below.trans (k.mono (by omega))⟩

theorem loose_step {body : List RAtom} {l : List RTerm} {k : Nat} (h : k < l.length) : looseI body (l.drop k) = if l[k].isVar && !saidB l[k].text body then (l[k].at_ : Int) else looseI body (l.drop (k + 1)) := by
  rw [List.drop_eq_getElem_cons h]; rfl

theorem Below.drewR {w w1 : World} (h : Below w.drew.heap.size w.drew w1) : Below w.heap.size w w1 := ⟨h.os, h.tape, h.output, h.size, h.block⟩

set_option maxRecDepth 100000 in
set_option maxHeartbeats 8000000 in
theorem loose_any (w : World) (base : Nat) (R : RRule) (hv : Value) (bs : List (RAtom × Value)) (bv : Value) (A : RAtom) (tv : Value) (h : RuleIn w base R hv bs bv) (ht : w.ownsRow base 317 3 tv A.terms.length (cellsOf A.terms)) :
    Calls Tryz.prog 189 #[ruleVal R.head hv bv, A.val tv] w fun e w' => e = .returned (.int .i64 (looseI R.body A.terms)) ∧ Below w.heap.size w w' := by
  obtain ⟨ab, capb, rfl⟩ := own_slice h.bo
  obtain ⟨ah, caph, rfl⟩ := own_slice h.hd
  obtain ⟨at1, capt, rfl⟩ := own_slice ht
  have htm := own_max ht
  unfold maxLen at htm
  unfold ruleVal RAtom.val
  have h0 : LooseInv w base R (.slice ah R.head.terms.length caph) bs (.slice ab bs.length capb) A (.slice at1 A.terms.length capt) ((w.alloc (.cells #[Value.string R.head.pred, .slice ah R.head.terms.length caph, .bool R.head.no, .int .i64 R.head.at_, .int .i64 R.head.noAt, .slice ab bs.length capb] 246)).alloc (.cells #[Value.string A.pred, .slice at1 A.terms.length capt, .bool A.no, .int .i64 A.at_, .int .i64 A.noAt] 243)) := by
    refine ⟨h.kept (((Kept.refl [] _).alloc _).alloc _) (by simp), (ht.alloc _).alloc _, ⟨?_, ?_, ?_, ?_, ?_, ?_, ?_⟩, by rw [World.cell?_alloc_at _ _ _ _ (by simp)]; rfl, by simp, ((Below.refl _ _).alloc (Nat.le_refl _) _).alloc (by simp) _⟩
    all_goals first | (rw [World.cell?_alloc_past _ _ _ (by simp), World.cell?_alloc_at _ _ _ _ rfl]; rfl) | (intro o; rw [World.frozen?_alloc_past _ _ _ (by simp), World.frozen?_alloc_at _ _ _ _ rfl])
  clear h ht
  go_enter Tryz.func189, Tryz.ntmps189
  go_wp2_with fail
  go_loopg [5] A.terms.length (fun gg i wr => ∃ k : Nat, k ≤ A.terms.length ∧ gg = A.terms.length - k ∧ i = .int .i64 k ∧ LooseInv w base R (.slice ah R.head.terms.length caph) bs (.slice ab bs.length capb) A (.slice at1 A.terms.length capt) wr ∧ looseI R.body A.terms = looseI R.body (A.terms.drop k))
  case atStart => exact ⟨0, Nat.zero_le _, rfl, rfl, h0, rfl⟩
  case round =>
    clear h0
    obtain ⟨k, hk, hgk, rfl, hinv, hfin⟩ := hrel
    have HF := hide hfin
    clear hfin
    have hbx := hinv.box
    have hsz := hinv.sz
    obtain ⟨x0, x1, x2, x3, x4, x5, xf⟩ := hinv.rc
    by_cases hkl : k < A.terms.length
    · obtain ⟨gt, capt', hvt, hbgt, hgtl, hnct, hcmt, p0, p1, p2⟩ := term_cells hinv.terms k hkl
      injection hvt with h4 h5 h6
      subst h4 h6
      have HF2 := hide ((unhide HF).trans (loose_step hkl))
      clear HF
      go_upto_region 4 with fail
      go_cut [6] (fun s wc => s = .bool (saidB A.terms[k].text R.body) ∧ LooseInv w base R (.slice ah R.head.terms.length caph) bs (.slice ab bs.length capb) A (.slice (some ⟨gt, 0, none⟩) A.terms.length capt) wc)
      case first =>
        go_region_with (go_at_call 227; refine (said_any _ base R _ bs _ _ (hinv.rule.kept ((Kept.refl [] _).drew) (by simp))).mono ?_; rintro e w1 ⟨rfl, hb1⟩)
        all_goals
          go_wp2_with fail
          go_meet
          case rel => exact ⟨rfl, hinv.call (Below.drewR hb1)⟩
      case rest =>
        obtain ⟨rfl, hinv2⟩ := hcut
        clear hinv hbx hsz x0 x1 x2 x3 x4 x5 xf p0 p1 p2 hgtl
        have hbx := hinv2.box
        have hsz := hinv2.sz
        obtain ⟨gt', capt', hvt, hbgt', hgtl, hnct', hcmt', p0, p1, p2⟩ := term_cells hinv2.terms k hkl
        injection hvt with h4 h5 h6
        injection h4 with h4
        injection h4 with h4
        subst h4 h6
        cases hv1 : A.terms[k].isVar with
        | false =>
          have HF3 := hide (show looseI R.body A.terms = looseI R.body (A.terms.drop (k + 1)) by rw [unhide HF2, hv1]; rfl)
          clear HF2
          rw [hv1] at p1
          go_wp2_with fail
          go_roundg (A.terms.length - (k + 1))
          case measure => omega
          case rel => exact ⟨k + 1, by omega, rfl, by go_num, hinv2, unhide HF3⟩
        | true =>
          rw [hv1] at p1
          cases hsd : saidB A.terms[k].text R.body with
          | true =>
            have HF3 := hide (show looseI R.body A.terms = looseI R.body (A.terms.drop (k + 1)) by rw [unhide HF2, hv1, hsd]; rfl)
            clear HF2
            go_wp2_with fail
            go_roundg (A.terms.length - (k + 1))
            case measure => omega
            case rel => exact ⟨k + 1, by omega, rfl, by go_num, hinv2, unhide HF3⟩
          | false =>
            have HF3 := hide (show looseI R.body A.terms = (A.terms[k].at_ : Int) by rw [unhide HF2, hv1, hsd]; rfl)
            clear HF2
            go_wp2_with fail
            go_ret
            exact ⟨by rw [unhide HF3]; rfl, hinv2.below⟩
    · have HF2 := hide (show looseI R.body A.terms = -1 by rw [unhide HF, List.drop_of_length_le (by omega)]; rfl)
      clear HF
      go_wp2_with fail
      go_ret
      exact ⟨by rw [unhide HF2]; rfl, hinv.below⟩
end Go.Proofs.YtldkpahaocjdpaaGreat
