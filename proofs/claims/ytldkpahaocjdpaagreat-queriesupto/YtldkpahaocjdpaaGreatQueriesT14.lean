/-
  The reference's arity: the place of the first atom with another number of terms than where its predicate first stands, -1 if there is none; the predicates are taken down on the way.
  The reference's said: whether a variable stands in a positive literal of a rule.
  The reference's loose: the place of the first variable of an atom that stands in no positive literal of a rule, -1 if there is none.
-/
import Derived.Test.YtldkpahaocjdpaaGreatQueriesT13
set_option maxHeartbeats 16000000
namespace Go.Proofs.YtldkpahaocjdpaaGreat
section
open Go.RowKit
theorem meet_any (w : World) (o : Nat) (rs : List RR) (ps : List (ByteArray × Nat)) (rv pv tv sv : Value) (nm : ByteArray) (a : Option Addr) (n c : Nat) (no : Bool) (at_ noAt : Nat) (h : PMem w o rs ps rv pv tv sv) (hpl : ps.length ≤ 1000) :
  Calls Tryz.prog 188 #[.pointer (some ⟨o, 0, none⟩), .agg #[.string nm, .slice a n c, .bool no, .int .i64 at_, .int .i64 noAt]] w fun e w' => e = .returned (.bool (zdf ps nm n)) ∧ ∃ pv' tv', PMem w' o rs (zdj ps nm n) rv pv' tv' sv ∧ Below o w w' := by
 by_cases hix : zak ps nm < 0
 ·refine (meet_new w o rs ps rv pv tv sv nm a n c no at_ noAt h hpl hix).mono ?_
  rintro e w' ⟨rfl, pv', tv', hm, hb⟩
  exact ⟨by simp [zdf, hix], pv', tv', by simpa [zdj, hix] using hm, hb⟩
 ·refine (meet_old w o rs ps rv pv tv sv nm a n c no at_ noAt h (by omega)).mono ?_
  rintro e w' ⟨rfl, hb⟩
  refine ⟨rfl, pv, tv, ?_, hb.mono (by have := h.lt; omega)⟩
  rw [zdj, if_neg hix]
  exact h.kept ((Kept.refl [] w).of_below hb) (by simp)
def za4 : List RAtom → List (ByteArray × Nat) → Int × List (ByteArray × Nat)
 | [], ps => (-1, ps)
 | A :: r, ps => if zdf ps A.pred A.terms.length then za4 r (zdj ps A.pred A.terms.length) else (A.at_, zdj ps A.pred A.terms.length)
theorem zke {X : Int × List (ByteArray × Nat)} {A : RAtom} {r : List RAtom} {ps : List (ByteArray × Nat)} (h : X = za4 (A :: r) ps) (hb : zdf ps A.pred A.terms.length = true) : X = za4 r (zdj ps A.pred A.terms.length) := by rw [h, za4, if_pos hb]
theorem zmd {X : Int × List (ByteArray × Nat)} {A : RAtom} {r : List RAtom} {ps : List (ByteArray × Nat)} (h : X = za4 (A :: r) ps) (hb : zdf ps A.pred A.terms.length = false) : X = (↑A.at_, zdj ps A.pred A.terms.length) := by rw [h, za4, if_neg (by rw [hb]; decide)]
def RRule.atoms (R : RRule) : List RAtom := R.head :: R.body
def za3 (rs : List RR) : List RAtom := rs.flatMap fun r => r.R.atoms
theorem atoms_step {rs : List RR} {k : Nat} (h : k < rs.length) : za3 (rs.drop k) = rs[k].R.head :: (rs[k].R.body ++ za3 (rs.drop (k + 1))) := by
 rw [List.drop_eq_getElem_cons h, za3, List.flatMap_cons]; rfl
theorem zcj {w : World} {base : Nat} {rv : Value} {rs : List RR} (h : w.ownsRow base 246 6 rv rs.length (zdl rs)) (k : Nat) (hk : k < rs.length) : ∃ g cap, rv = .slice (some ⟨g, 0, none⟩) rs.length cap ∧ base ≤ g ∧ g < w.heap.size ∧ rs.length ≤ cap ∧ cap ≤ maxLen ∧
  w.cell? ⟨g, k * 6, none⟩ = some (.string rs[k].R.head.pred) ∧ w.cell? ⟨g, k * 6 + 1, none⟩ = some rs[k].hv ∧ w.cell? ⟨g, k * 6 + 2, none⟩ = some (.bool rs[k].R.head.no) ∧ w.cell? ⟨g, k * 6 + 3, none⟩ = some (.int .i64 rs[k].R.head.at_) ∧ w.cell? ⟨g, k * 6 + 4, none⟩ = some (.int .i64 rs[k].R.head.noAt) ∧ w.cell? ⟨g, k * 6 + 5, none⟩ = some rs[k].bv := by
 have hx : ∀ (l : List RR) (k j : Nat) (hk : k < l.length), j < 6 → (zdl l)[k * 6 + j]? = (l[k].cells)[j]? := by
  intro l
  induction l with
  | nil => intro k j hk; simp at hk
  | cons x r ih =>
   intro k j hk hj
   have e : zdl (x :: r) = x.cells ++ zdl r := by simp [zdl]
   have hl : x.cells.length = 6 := rfl
   cases k with
   | zero => rw [e, List.getElem?_append_left (by omega)]; simp
   | succ k =>
    rw [e, List.getElem?_append_right (by omega)]
    have e2 : (k + 1) * 6 + j - x.cells.length = k * 6 + j := by omega
    rw [e2, ih k j (by simpa using hk) hj]; simp
 rcases h.2 with ⟨_, h0⟩ | ⟨g, cap, cur, rfl, hb, hg, hnc, hcm, hcs, ht⟩
 ·omega
 ·have hl := (Array.getElem?_eq_some_iff.1 hg).1
  have hc : ∀ j, j < 6 → w.cell? ⟨g, k * 6 + j, none⟩ = (rs[k].cells)[j]? := fun j hj => by
   rw [h.cellAt (k * 6 + j) (by omega), hx rs k j hk hj]
  exact ⟨g, cap, rfl, hb, hl, hnc, hcm, hc 0 (by omega), hc 1 (by omega), hc 2 (by omega), hc 3 (by omega), hc 4 (by omega), hc 5 (by omega)⟩
theorem zcx {w : World} {base : Nat} {bv : Value} {bs : List (RAtom × Value)} (h : w.ownsRow base 243 5 bv bs.length (zd7 bs)) (k : Nat) (hk : k < bs.length) : ∃ g cap, bv = .slice (some ⟨g, 0, none⟩) bs.length cap ∧ base ≤ g ∧ g < w.heap.size ∧ bs.length ≤ cap ∧ cap ≤ maxLen ∧
  w.cell? ⟨g, k * 5, none⟩ = some (.string bs[k].1.pred) ∧ w.cell? ⟨g, k * 5 + 1, none⟩ = some bs[k].2 ∧ w.cell? ⟨g, k * 5 + 2, none⟩ = some (.bool bs[k].1.no) ∧ w.cell? ⟨g, k * 5 + 3, none⟩ = some (.int .i64 bs[k].1.at_) ∧ w.cell? ⟨g, k * 5 + 4, none⟩ = some (.int .i64 bs[k].1.noAt) := by
 have hx : ∀ (l : List (RAtom × Value)) (k j : Nat) (hk : k < l.length), j < 5 → (zd7 l)[k * 5 + j]? = (l[k].1.cells l[k].2)[j]? := by
  intro l
  induction l with
  | nil => intro k j hk; simp at hk
  | cons x r ih =>
   intro k j hk hj
   have e : zd7 (x :: r) = x.1.cells x.2 ++ zd7 r := by simp [zd7]
   have hl : (x.1.cells x.2).length = 5 := rfl
   cases k with
   | zero => rw [e, List.getElem?_append_left (by omega)]; simp
   | succ k =>
    rw [e, List.getElem?_append_right (by omega)]
    have e2 : (k + 1) * 5 + j - (x.1.cells x.2).length = k * 5 + j := by omega
    rw [e2, ih k j (by simpa using hk) hj]; simp
 rcases h.2 with ⟨_, h0⟩ | ⟨g, cap, cur, rfl, hb, hg, hnc, hcm, hcs, ht⟩
 ·omega
 ·have hl := (Array.getElem?_eq_some_iff.1 hg).1
  have hc : ∀ j, j < 5 → w.cell? ⟨g, k * 5 + j, none⟩ = (bs[k].1.cells bs[k].2)[j]? := fun j hj => by
   rw [h.cellAt (k * 5 + j) (by omega), hx bs k j hk hj]
  exact ⟨g, cap, rfl, hb, hl, hnc, hcm, hc 0 (by omega), hc 1 (by omega), hc 2 (by omega), hc 3 (by omega), hc 4 (by omega)⟩
theorem zm7 (ps : List (ByteArray × Nat)) (nm : ByteArray) (n : Nat) : (zdj ps nm n).length ≤ ps.length + 1 := by
 unfold zdj; split <;> simp
theorem zgq {bs : List (RAtom × Value)} {j : Nat} (h : j < bs.length) : (bs.map (·.1)).drop j = bs[j].1 :: (bs.map (·.1)).drop (j + 1) := by
 rw [List.drop_eq_getElem_cons (by simpa using h)]; simp
theorem zbt {w : World} {base : Nat} {e : TypeId} {size : Nat} {v : Value} {n : Nat} {xs : List Value} (h : w.ownsRow base e size v n xs) : n ≤ maxLen := by
 rcases h.2 with ⟨_, h0⟩ | ⟨g, cap, cur, _, _, _, h1, h2, _⟩ <;> omega
set_option maxRecDepth 100000 in
theorem arity_any (w : World) (o : Nat) (rs : List RR) (rv pv tv sv : Value) (h : PMem w o rs [] rv pv tv sv) (hl : (za3 rs).length ≤ 1000) :
  Calls Tryz.prog 126 #[.pointer (some ⟨o, 0, none⟩)] w fun e w' => e = .returned (.int .i64 (za4 (za3 rs) []).1) ∧ ∃ pv' tv', PMem w' o rs (za4 (za3 rs) []).2 rv pv' tv' sv ∧ Below o w w' := by
 obtain ⟨ar, capr, rfl⟩ := zac h.rules
 have hmx : rs.length ≤ maxLen := by
  rcases h.rules.2 with ⟨_, h0⟩ | ⟨g, cap, cur, _, _, _, h1, h2, _⟩ <;> omega
 unfold maxLen at hmx
 go_enter Tryz.func126, Tryz.ntmps126
 go_wp2
 go_loopg [3] rs.length (fun gg i wr => ∃ (k : Nat) (ps : List (ByteArray × Nat)) (pv' tv' : Value), k ≤ rs.length ∧ gg = rs.length - k ∧ i = .int .i64 k ∧ PMem wr o rs ps (.slice ar rs.length capr) pv' tv' sv ∧ Below o w wr ∧ ps.length + (za3 (rs.drop k)).length ≤ 1000 ∧ za4 (za3 rs) [] = za4 (za3 (rs.drop k)) ps)
 case atStart => exact ⟨0, [], pv, tv, Nat.zero_le _, rfl, rfl, h, Below.refl _ _, by simpa using hl, rfl⟩
 case round =>
  obtain ⟨k, ps, pv', tv', hk, hg, rfl, hm, hb, hlen, hfin⟩ := hrel
  have HF := hide hfin
  clear hfin
  have hm' := hm
  obtain ⟨hlt, c0, c1, c2, c3, fz, hr, he, hp, ht⟩ := hm
  by_cases hlk : k < rs.length
  ·obtain ⟨g, cap, hv, hbg, hgl, hnc, hcm, q0, q1, q2, q3, q4, q5⟩ := zcj hr k hlk
   injection hv with h1 h2 h3
   subst h1 h3
   obtain ⟨ah, caph, hhv⟩ := zac (he rs[k] (List.getElem_mem hlk)).hd
   rw [hhv] at q1
   have hat := atoms_step hlk
   rw [hat, List.length_cons] at hlen
   have HF2 := hide ((zaa HF).trans (congrArg (fun l => za4 l ps) hat))
   have hrk := List.getElem_mem hlk
   obtain ⟨ab, capb, hbv⟩ := zac (he rs[k] hrk).bo
   have hbeq := (he rs[k] hrk).eq
   have hbmx := zbt (he rs[k] hrk).bo
   unfold maxLen at hbmx
   clear hr he hp ht h2 h hl HF
   go_wp2_with fail
   refine (meet_any wr o rs ps _ _ _ _ _ _ _ _ _ _ _ hm' (by omega)).mono ?_
   rintro e w1 ⟨rfl, pv1, tv1, hm1, hb1⟩
   have hm1' := hm1
   obtain ⟨hlt1, d0, d1, d2, d3, dfz, hr1, he1, hp1, ht1⟩ := hm1
   obtain ⟨g1, cap1, hv1, hbg1, hgl1, hnc1, hcm1, r0, r1, r2, r3, r4, r5⟩ := zcj hr1 k hlk
   injection hv1 with h11 h12 h13
   injection h11 with h11
   injection h11 with h11
   subst h11 h13
   rw [hbv] at r5
   clear hr1 he1 hp1 ht1 h12 c0 c1 c2 c3 fz q0 q1 q2 q3 q4 q5 hm' hhv
   cases hmb : zdf ps rs[k].R.head.pred rs[k].R.head.terms.length with
   | false =>
    have HF3 := hide (zmd (zaa HF2) hmb)
    clear HF2 hmb
    go_wp2_with fail
    go_ret
    exact ⟨by rw [zaa HF3]; rfl, pv1, tv1, by rw [zaa HF3]; exact hm1', hb.trans hb1⟩
   | true =>
    have HF3 := hide (zke (zaa HF2) hmb)
    have hmp := zm7 ps rs[k].R.head.pred rs[k].R.head.terms.length
    rw [List.length_append] at hlen
    clear HF2 hmb
    go_wp2_with fail
    go_loopg [4, 5] rs[k].bs.length (fun gg ok i wx => ∃ (j : Nat) (ps2 : List (ByteArray × Nat)) (pv2 tv2 : Value), j ≤ rs[k].bs.length ∧ gg = rs[k].bs.length - j ∧ i = .int .i64 j ∧ PMem wx o rs ps2 (.slice (some ⟨g, 0, none⟩) rs.length capr) pv2 tv2 sv ∧ Below o w wx ∧ ps2.length + ((rs[k].bs.map (·.1)).drop j ++ za3 (rs.drop (k + 1))).length ≤ 1000 ∧ za4 (za3 rs) [] = za4 ((rs[k].bs.map (·.1)).drop j ++ za3 (rs.drop (k + 1))) ps2)
    case atStart => exact ⟨0, _, pv1, tv1, Nat.zero_le _, rfl, rfl, hm1', hb.trans hb1, by rw [List.drop_zero, ← hbeq, List.length_append]; omega, by rw [List.drop_zero, ← hbeq]; exact zaa HF3⟩
    case round =>
     clear HF3 hm1' d0 d1 d2 d3 dfz r0 r1 r2 r3 r4 r5 hb1 hmp hlen
     obtain ⟨j, ps2, pv2, tv2, hj, hgg, rfl, hm2, hb2, hlen2, hfin2⟩ := hrel
     have HF := hide hfin2
     clear hfin2
     have hm2' := hm2
     obtain ⟨hlt2, c0, c1, c2, c3, fz, hr2, he2, hp2, ht2⟩ := hm2
     obtain ⟨g2, cap2, hv2, hbg2, hgl2, hnc2, hcm2, q0, q1, q2, q3, q4, q5⟩ := zcj hr2 k hlk
     injection hv2 with h11 h12 h13
     injection h11 with h11
     injection h11 with h11
     subst h11 h13
     rw [hbv] at q5
     by_cases hjl : j < rs[k].bs.length
     ·obtain ⟨gb, capb2, hvb, hbgb, hgbl, hncb, hcmb, p0, p1, p2, p3, p4⟩ := zcx (he2 rs[k] hrk).bo j hjl
      rw [hbv] at hvb
      injection hvb with hb11 hb12 hb13
      subst hb11 hb13
      obtain ⟨at1, capt1, hbt⟩ := zac ((he2 rs[k] hrk).bl _ (List.getElem_mem hjl))
      rw [hbt] at p1
      have hbd := zgq hjl
      rw [hbd, List.cons_append, List.length_cons] at hlen2
      have HF2 := hide ((zaa HF).trans (congrArg (fun l => za4 (l ++ za3 (rs.drop (k + 1))) ps2) hbd))
      clear hr2 he2 hp2 ht2 h12 hb12 HF
      go_wp2_with fail
      refine (meet_any wr o rs ps2 _ _ _ _ _ _ _ _ _ _ _ hm2' (by omega)).mono ?_
      rintro e w3 ⟨rfl, pv3, tv3, hm3, hb3⟩
      have hm3' := hm3
      obtain ⟨hlt3, d0, d1, d2, d3, dfz, hr3, he3, hp3, ht3⟩ := hm3
      obtain ⟨g3, cap3, hv3, hbg3, hgl3, hnc3, hcm3, r0, r1, r2, r3, r4, r5⟩ := zcj hr3 k hlk
      injection hv3 with h31 h32 h33
      injection h31 with h31
      injection h31 with h31
      subst h31 h33
      rw [hbv] at r5
      obtain ⟨gc, capc, hvc, hbgc, hgcl, hncc, hcmc, s0, s1, s2, s3, s4⟩ := zcx (he3 rs[k] hrk).bo j hjl
      rw [hbv] at hvc
      injection hvc with hc11 hc12 hc13
      injection hc11 with hc11
      injection hc11 with hc11
      subst hc11 hc13
      clear hr3 he3 hp3 ht3 h32 hc12 c0 c1 c2 c3 fz q0 q1 q2 q3 q4 q5 p0 p1 p2 p3 p4 hm2' hbt
      cases hmb : zdf ps2 rs[k].bs[j].1.pred rs[k].bs[j].1.terms.length with
      | false =>
       have HF3 := hide (zmd (zaa HF2) hmb)
       clear HF2 hmb
       go_wp2_with fail
       go_ret
       exact ⟨by rw [zaa HF3]; rfl, pv3, tv3, by rw [zaa HF3]; exact hm3', hb2.trans hb3⟩
      | true =>
       have HF3 := hide (zke (zaa HF2) hmb)
       have hmp := zm7 ps2 rs[k].bs[j].1.pred rs[k].bs[j].1.terms.length
       clear HF2 hmb
       go_wp2_with fail
       go_roundg (rs[k].bs.length - (j + 1))
       case measure => omega
       case rel => exact ⟨j + 1, _, pv3, tv3, by omega, rfl, by go_num, hm3', hb2.trans hb3, by omega, zaa HF3⟩
     ·have hje : (rs[k].bs.map (·.1)).drop j = [] := List.drop_of_length_le (by simp; omega)
      rw [hje, List.nil_append] at hlen2
      have HF2 := hide ((zaa HF).trans (congrArg (fun l => za4 (l ++ za3 (rs.drop (k + 1))) ps2) hje))
      clear hr2 he2 hp2 ht2 h12 HF
      go_wp2_with fail
      go_roundg (rs.length - (k + 1))
      case measure => omega
      case rel => exact ⟨k + 1, ps2, pv2, tv2, by omega, rfl, by go_num, hm2', hb2, hlen2, zaa HF2⟩
  ·have hje : za3 (rs.drop k) = [] := by rw [List.drop_of_length_le (by omega)]; rfl
   have hf : za4 (za3 rs) [] = (-1, ps) := by rw [zaa HF, hje]; rfl
   have HF2 := hide hf
   clear hf HF hr he hp ht
   go_wp2_with fail
   go_ret
   exact ⟨by rw [zaa HF2]; rfl, pv', tv', by rw [zaa HF2]; exact hm', hb⟩
end
section
open Go.RowKit
def zhe (nm : ByteArray) (t : RTerm) : Bool := t.isVar && t.text.toList == nm.toList
def saidA (nm : ByteArray) (A : RAtom) : Bool := !A.no && A.terms.any (zhe nm)
def zed (nm : ByteArray) (l : List RAtom) : Bool := l.any (saidA nm)
theorem cells_at3 : ∀ (l : List RTerm) (k j : Nat) (hk : k < l.length), j < 3 → (cellsOf l)[k * 3 + j]? = (l[k].cells)[j]? := by
 intro l
 induction l with
 | nil => intro k j hk; simp at hk
 | cons x r ih =>
  intro k j hk hj
  have e : cellsOf (x :: r) = x.cells ++ cellsOf r := by simp [cellsOf]
  have hl : x.cells.length = 3 := rfl
  cases k with
  | zero => rw [e, List.getElem?_append_left (by omega)]; simp
  | succ k =>
   rw [e, List.getElem?_append_right (by omega)]
   have e2 : (k + 1) * 3 + j - x.cells.length = k * 3 + j := by omega
   rw [e2, ih k j (by simpa using hk) hj]; simp
theorem zdx {w : World} {base : Nat} {tv : Value} {l : List RTerm} (h : w.ownsRow base 317 3 tv l.length (cellsOf l)) (k : Nat) (hk : k < l.length) : ∃ g cap, tv = .slice (some ⟨g, 0, none⟩) l.length cap ∧ base ≤ g ∧ g < w.heap.size ∧ l.length ≤ cap ∧ cap ≤ maxLen ∧
  w.cell? ⟨g, k * 3, none⟩ = some (.string l[k].text) ∧ w.cell? ⟨g, k * 3 + 1, none⟩ = some (.bool l[k].isVar) ∧ w.cell? ⟨g, k * 3 + 2, none⟩ = some (.int .i64 l[k].at_) := by
 rcases h.2 with ⟨_, h0⟩ | ⟨g, cap, cur, rfl, hb, hg, hnc, hcm, hcs, ht⟩
 ·omega
 ·have hl := (Array.getElem?_eq_some_iff.1 hg).1
  have hc : ∀ j, j < 3 → w.cell? ⟨g, k * 3 + j, none⟩ = (l[k].cells)[j]? := fun j hj => by
   rw [h.cellAt (k * 3 + j) (by omega), cells_at3 l k j hk hj]
  exact ⟨g, cap, rfl, hb, hl, hnc, hcm, hc 0 (by omega), hc 1 (by omega), hc 2 (by omega)⟩
structure SaidInv (w : World) (base : Nat) (R : RRule) (hv : Value) (bs : List (RAtom × Value)) (bv : Value) (wr : World) : Prop where
 rule : RuleIn wr base R hv bs bv
 box : wr.cell? ⟨w.heap.size, 5, none⟩ = some bv
 sz : w.heap.size < wr.heap.size
 below : Below w.heap.size w wr
theorem SaidInv.alloc {w : World} {base : Nat} {R : RRule} {hv : Value} {bs : List (RAtom × Value)} {bv : Value} {wr : World} (h : SaidInv w base R hv bs bv wr) (o : Obj) : SaidInv w base R hv bs bv (wr.alloc o) :=
 ⟨h.rule.kept ((Kept.refl [] _).alloc _) (by simp), by rw [World.cell?_alloc_past _ _ _ h.sz]; exact h.box, by have := h.sz; simp; omega, h.below.alloc (by have := h.sz; omega) _⟩
theorem said_step {nm : ByteArray} {bs : List (RAtom × Value)} {i : Nat} (h : i < bs.length) : zed nm ((bs.map (·.1)).drop i) = (saidA nm bs[i].1 || zed nm ((bs.map (·.1)).drop (i + 1))) := by
 rw [zgq h]; simp [zed]
theorem zjn {α : Type} {f : α → Bool} {l : List α} {k : Nat} (h : k < l.length) : (l.drop k).any f = (f l[k] || (l.drop (k + 1)).any f) := by
 rw [List.drop_eq_getElem_cons h, List.any_cons]
set_option maxRecDepth 100000 in
theorem said_any (w : World) (base : Nat) (R : RRule) (hv : Value) (bs : List (RAtom × Value)) (bv : Value) (nm : ByteArray) (h : RuleIn w base R hv bs bv) :
  Calls Tryz.prog 227 #[zes R.head hv bv, .string nm] w fun e w' => e = .returned (.bool (zed nm R.body)) ∧ Below w.heap.size w w' := by
 obtain ⟨ab, capb, rfl⟩ := zac h.bo
 obtain ⟨ah, caph, rfl⟩ := zac h.hd
 have hbmx := zbt h.bo
 unfold maxLen at hbmx
 rw [h.eq]
 unfold zes
 have h0 : SaidInv w base R (.slice ah R.head.terms.length caph) bs (.slice ab bs.length capb) (w.alloc (.cells #[Value.string R.head.pred, .slice ah R.head.terms.length caph, .bool R.head.no, .int .i64 R.head.at_, .int .i64 R.head.noAt, .slice ab bs.length capb] 246)) :=
  ⟨h.kept ((Kept.refl [] _).alloc _) (by simp), by rw [World.cell?_alloc_at _ _ _ _ rfl]; rfl, by simp, (Below.refl _ _).alloc (Nat.le_refl _) _⟩
 clear h
 go_enter Tryz.func227, Tryz.ntmps227
 go_wp2_with fail
 go_loopg [5] bs.length (fun gg i wr => ∃ k : Nat, k ≤ bs.length ∧ gg = bs.length - k ∧ i = .int .i64 k ∧ SaidInv w base R (.slice ah R.head.terms.length caph) bs (.slice ab bs.length capb) wr ∧ zed nm (bs.map (·.1)) = zed nm ((bs.map (·.1)).drop k))
 case atStart => exact ⟨0, Nat.zero_le _, rfl, rfl, h0, rfl⟩
 case round =>
  clear h0
  obtain ⟨i, hi, hgk, rfl, hinv, hfin⟩ := hrel
  have HF := hide hfin
  clear hfin
  have hbx := hinv.box
  have hsz := hinv.sz
  by_cases hil : i < bs.length
  ·have HF2 := hide ((zaa HF).trans (said_step hil))
   clear HF
   obtain ⟨g, cap, hvv, hbg, hgl, hnc, hcm, q0, q1, q2, q3, q4⟩ := zcx hinv.rule.bo i hil
   injection hvv with h1 h2 h3
   subst h1 h3
   obtain ⟨at1, capt1, hbt⟩ := zac (hinv.rule.bl _ (List.getElem_mem hil))
   have htm := zbt (hinv.rule.bl _ (List.getElem_mem hil))
   unfold maxLen at htm
   rw [hbt] at q1
   go_wp2_with fail
   go_loopg [6] bs[i].1.terms.length (fun gg kk wr => ∃ k : Nat, k ≤ bs[i].1.terms.length ∧ gg = bs[i].1.terms.length - k ∧ kk = .int .i64 k ∧ SaidInv w base R (.slice ah R.head.terms.length caph) bs (.slice (some ⟨g, 0, none⟩) bs.length capb) wr ∧ zed nm (bs.map (·.1)) = (!bs[i].1.no && (bs[i].1.terms.drop k).any (zhe nm) || zed nm ((bs.map (·.1)).drop (i + 1))))
   case atStart => exact ⟨0, Nat.zero_le _, rfl, rfl, hinv, zaa HF2⟩
   case round =>
    clear HF2 hinv hbx q0 q1 q2 q3 q4 hgl hsz
    obtain ⟨k, hk, hgk2, rfl, hinv, hfin⟩ := hrel
    have HF := hide hfin
    clear hfin
    have hbx := hinv.box
    have hsz := hinv.sz
    obtain ⟨g', cap', hvv, hbg', hgl, hnc', hcm', q0, q1, q2, q3, q4⟩ := zcx hinv.rule.bo i hil
    injection hvv with h1 h2 h3
    injection h1 with h1
    injection h1 with h1
    subst h1 h3
    rw [hbt] at q1
    by_cases hkl : k < bs[i].1.terms.length
    ·obtain ⟨gt, capt, hvt, hbgt, hgtl, hnct, hcmt, p0, p1, p2⟩ := zdx (hinv.rule.bl _ (List.getElem_mem hil)) k hkl
     rw [hbt] at hvt
     injection hvt with h4 h5 h6
     subst h4 h6
     cases hno : bs[i].1.no with
     | true =>
      rw [hno] at q2
      have HF2 := hide (show zed nm (bs.map (·.1)) = zed nm ((bs.map (·.1)).drop (i + 1)) by rw [zaa HF, hno]; rfl)
      clear HF
      go_wp2_with fail
      go_roundg (bs.length - (i + 1))
      case measure => omega
      case rel => exact ⟨i + 1, by omega, rfl, by go_num, hinv, zaa HF2⟩
     | false =>
      rw [hno] at q2
      have HI := hide (hinv.alloc (.cells #[.string bs[i].1.terms[k].text, .bool bs[i].1.terms[k].isVar, .int .i64 bs[i].1.terms[k].at_] 317))
      cases hv : zhe nm bs[i].1.terms[k] with
      | true =>
       have HF2 := hide (show zed nm (bs.map (·.1)) = true by rw [zaa HF, hno, zjn hkl, hv]; rfl)
       have hv1 : bs[i].1.terms[k].isVar = true := by unfold zhe at hv; simp at hv; exact hv.1
       have hv2 : (bs[i].1.terms[k].text.toList == nm.toList) = true := by unfold zhe at hv; rw [hv1] at hv; simpa using hv
       clear HF hv
       rw [hv1] at p1
       go_wp2_with fail
       go_ret
       exact ⟨by rw [zaa HF2]; rfl, by have := (zaa HI).below; rw [hv1] at this; exact this⟩
      | false =>
       have HF2 := hide (show zed nm (bs.map (·.1)) = (!bs[i].1.no && (bs[i].1.terms.drop (k + 1)).any (zhe nm) || zed nm ((bs.map (·.1)).drop (i + 1))) by rw [zaa HF, zjn hkl, hv, Bool.false_or])
       clear HF
       cases hv1 : bs[i].1.terms[k].isVar with
       | false =>
        clear hv
        rw [hv1] at p1 HI
        go_wp2_with fail
        go_roundg (bs[i].1.terms.length - (k + 1))
        case measure => omega
        case rel => exact ⟨k + 1, by omega, rfl, by go_num, zaa HI, zaa HF2⟩
       | true =>
        have hv2 : (bs[i].1.terms[k].text.toList == nm.toList) = false := by unfold zhe at hv; rw [hv1] at hv; simpa using hv
        clear hv
        rw [hv1] at p1 HI
        go_wp2_with fail
        go_roundg (bs[i].1.terms.length - (k + 1))
        case measure => omega
        case rel => exact ⟨k + 1, by omega, rfl, by go_num, zaa HI, zaa HF2⟩
    ·have HF2 := hide (show zed nm (bs.map (·.1)) = zed nm ((bs.map (·.1)).drop (i + 1)) by rw [zaa HF, List.drop_of_length_le (by omega)]; simp)
     clear HF
     go_wp2_with fail
     go_roundg (bs.length - (i + 1))
     case measure => omega
     case rel => exact ⟨i + 1, by omega, rfl, by go_num, hinv, zaa HF2⟩
  ·have HF2 := hide (show zed nm (bs.map (·.1)) = false by rw [zaa HF, List.drop_of_length_le (by simp; omega)]; rfl)
   clear HF
   go_wp2_with fail
   go_ret
   exact ⟨by rw [zaa HF2]; rfl, hinv.below⟩
end
section
open Go.RowKit
def zbg (body : List RAtom) : List RTerm → Int
 | [] => -1
 | t :: r => if t.isVar && !zed t.text body then t.at_ else zbg body r
structure LooseInv (w : World) (base : Nat) (R : RRule) (hv : Value) (bs : List (RAtom × Value)) (bv : Value) (A : RAtom) (tv : Value) (wr : World) : Prop where
 rule : RuleIn wr base R hv bs bv
 terms : wr.ownsRow base 317 3 tv A.terms.length (cellsOf A.terms)
 rc : RCells wr w.heap.size R.head hv bv
 box : wr.cell? ⟨w.heap.size + 1, 1, none⟩ = some tv
 sz : w.heap.size + 1 < wr.heap.size
 below : Below w.heap.size w wr
theorem LooseInv.call {w : World} {base : Nat} {R : RRule} {hv : Value} {bs : List (RAtom × Value)} {bv : Value} {A : RAtom} {tv : Value} {wr w1 : World} (h : LooseInv w base R hv bs bv A tv wr) (k : Below wr.heap.size wr w1) : LooseInv w base R hv bs bv A tv w1 :=
 have hk := (Kept.refl [] wr).of_below k
 have hs := h.sz
 ⟨h.rule.kept hk (by simp), zay h.terms hk (by simp), h.rc.kept hk (by omega) (by simp), (hk.cell (p := ⟨w.heap.size + 1, 1, none⟩) h.sz (by simp)).trans h.box, Nat.lt_of_lt_of_le h.sz k.size, h.below.trans (k.mono (by omega))⟩
theorem loose_step {body : List RAtom} {l : List RTerm} {k : Nat} (h : k < l.length) : zbg body (l.drop k) = if l[k].isVar && !zed l[k].text body then (l[k].at_ : Int) else zbg body (l.drop (k + 1)) := by
 rw [List.drop_eq_getElem_cons h]; rfl
theorem Below.drewR {w w1 : World} (h : Below w.drew.heap.size w.drew w1) : Below w.heap.size w w1 := ⟨h.os, h.tape, h.output, h.size, h.block⟩
set_option maxRecDepth 100000 in
theorem zol (w : World) (base : Nat) (R : RRule) (hv : Value) (bs : List (RAtom × Value)) (bv : Value) (A : RAtom) (tv : Value) (h : RuleIn w base R hv bs bv) (ht : w.ownsRow base 317 3 tv A.terms.length (cellsOf A.terms)) :
  Calls Tryz.prog 189 #[zes R.head hv bv, A.val tv] w fun e w' => e = .returned (.int .i64 (zbg R.body A.terms)) ∧ Below w.heap.size w w' := by
 obtain ⟨ab, capb, rfl⟩ := zac h.bo
 obtain ⟨ah, caph, rfl⟩ := zac h.hd
 obtain ⟨at1, capt, rfl⟩ := zac ht
 have htm := zbt ht
 unfold maxLen at htm
 unfold zes RAtom.val
 have h0 : LooseInv w base R (.slice ah R.head.terms.length caph) bs (.slice ab bs.length capb) A (.slice at1 A.terms.length capt) ((w.alloc (.cells #[Value.string R.head.pred, .slice ah R.head.terms.length caph, .bool R.head.no, .int .i64 R.head.at_, .int .i64 R.head.noAt, .slice ab bs.length capb] 246)).alloc (.cells #[Value.string A.pred, .slice at1 A.terms.length capt, .bool A.no, .int .i64 A.at_, .int .i64 A.noAt] 243)) := by
  refine ⟨h.kept (((Kept.refl [] _).alloc _).alloc _) (by simp), (ht.alloc _).alloc _, ⟨?_, ?_, ?_, ?_, ?_, ?_, ?_⟩, by rw [World.cell?_alloc_at _ _ _ _ (by simp)]; rfl, by simp, ((Below.refl _ _).alloc (Nat.le_refl _) _).alloc (by simp) _⟩
  all_goals first | (rw [World.cell?_alloc_past _ _ _ (by simp), World.cell?_alloc_at _ _ _ _ rfl]; rfl) | (intro o; rw [World.frozen?_alloc_past _ _ _ (by simp), World.frozen?_alloc_at _ _ _ _ rfl])
 clear h ht
 go_enter Tryz.func189, Tryz.ntmps189
 go_wp2_with fail
 go_loopg [5] A.terms.length (fun gg i wr => ∃ k : Nat, k ≤ A.terms.length ∧ gg = A.terms.length - k ∧ i = .int .i64 k ∧ LooseInv w base R (.slice ah R.head.terms.length caph) bs (.slice ab bs.length capb) A (.slice at1 A.terms.length capt) wr ∧ zbg R.body A.terms = zbg R.body (A.terms.drop k))
 case atStart => exact ⟨0, Nat.zero_le _, rfl, rfl, h0, rfl⟩
 case round =>
  clear h0
  obtain ⟨k, hk, hgk, rfl, hinv, hfin⟩ := hrel
  have HF := hide hfin
  clear hfin
  have hbx := hinv.box
  have hsz := hinv.sz
  obtain ⟨x0, x1, x2, x3, x4, x5, xf⟩ := hinv.rc
  by_cases hkl : k < A.terms.length
  ·obtain ⟨gt, capt', hvt, hbgt, hgtl, hnct, hcmt, p0, p1, p2⟩ := zdx hinv.terms k hkl
   injection hvt with h4 h5 h6
   subst h4 h6
   have HF2 := hide ((zaa HF).trans (loose_step hkl))
   clear HF
   go_upto_region 4 with fail
   go_cut [6] (fun s wc => s = .bool (zed A.terms[k].text R.body) ∧ LooseInv w base R (.slice ah R.head.terms.length caph) bs (.slice ab bs.length capb) A (.slice (some ⟨gt, 0, none⟩) A.terms.length capt) wc)
   case first =>
    go_region_with (go_at_call 227; refine (said_any _ base R _ bs _ _ (hinv.rule.kept ((Kept.refl [] _).drew) (by simp))).mono ?_; rintro e w1 ⟨rfl, hb1⟩)
    all_goals
     go_wp2_with fail
     go_meet
     case rel => exact ⟨rfl, hinv.call (Below.drewR hb1)⟩
   case rest =>
    obtain ⟨rfl, hinv2⟩ := hcut
    clear hinv hbx hsz x0 x1 x2 x3 x4 x5 xf p0 p1 p2 hgtl
    have hbx := hinv2.box
    have hsz := hinv2.sz
    obtain ⟨gt', capt', hvt, hbgt', hgtl, hnct', hcmt', p0, p1, p2⟩ := zdx hinv2.terms k hkl
    injection hvt with h4 h5 h6
    injection h4 with h4
    injection h4 with h4
    subst h4 h6
    cases hv1 : A.terms[k].isVar with
    | false =>
     have HF3 := hide (show zbg R.body A.terms = zbg R.body (A.terms.drop (k + 1)) by rw [zaa HF2, hv1]; rfl)
     clear HF2
     rw [hv1] at p1
     go_wp2_with fail
     go_roundg (A.terms.length - (k + 1))
     case measure => omega
     case rel => exact ⟨k + 1, by omega, rfl, by go_num, hinv2, zaa HF3⟩
    | true =>
     rw [hv1] at p1
     cases hsd : zed A.terms[k].text R.body with
     | true =>
      have HF3 := hide (show zbg R.body A.terms = zbg R.body (A.terms.drop (k + 1)) by rw [zaa HF2, hv1, hsd]; rfl)
      clear HF2
      go_wp2_with fail
      go_roundg (A.terms.length - (k + 1))
      case measure => omega
      case rel => exact ⟨k + 1, by omega, rfl, by go_num, hinv2, zaa HF3⟩
     | false =>
      have HF3 := hide (show zbg R.body A.terms = (A.terms[k].at_ : Int) by rw [zaa HF2, hv1, hsd]; rfl)
      clear HF2
      go_wp2_with fail
      go_ret
      exact ⟨by rw [zaa HF3]; rfl, hinv2.below⟩
  ·have HF2 := hide (show zbg R.body A.terms = -1 by rw [zaa HF, List.drop_of_length_le (by omega)]; rfl)
   clear HF
   go_wp2_with fail
   go_ret
   exact ⟨by rw [zaa HF2]; rfl, hinv.below⟩
end
end Go.Proofs.YtldkpahaocjdpaaGreat
