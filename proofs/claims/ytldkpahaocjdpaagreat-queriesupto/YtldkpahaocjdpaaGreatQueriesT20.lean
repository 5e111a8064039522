/-
  Plain: both readers read the same rules, and mention the same atoms; or they stop at the same place.
  The program's reader: Rules, at every text.
-/
import Derived.Test.YtldkpahaocjdpaaGreatQueriesT19
import Derived.Test.YtldkpahaocjdpaaGreatQueriesT11
set_option maxHeartbeats 16000000
namespace Go.Proofs.YtldkpahaocjdpaaGreat
section
structure MenRel (num : Nat) (A : RAtom) (M : PMen) : Prop where
 num : M.num = num
 neg : M.neg = A.no
 pd : M.pd = A.pred
 ts : M.ts = A.terms.map tmOf
 start : A.no = true → M.start = A.noAt
 place : M.place = A.at_
 pl : ∀ i (h : i < A.terms.length), M.pl i = (A.terms[i]).at_
def zep (A : RAtom) : PLit := ⟨A.no, A.pred, A.terms.map tmOf⟩
def za7 (R : RRule) : PRule := ⟨R.head.pred, R.head.terms.map tmOf, R.body.map zep⟩
def Men (num : Nat) (l : List RAtom) (ms : List PMen) : Prop := ∃ q : List (RAtom × PMen), q.map (·.1) = l ∧ q.map (·.2) = ms ∧ ∀ x ∈ q, MenRel num x.1 x.2
theorem Men.nil (num : Nat) : Men num [] [] := ⟨[], rfl, rfl, by simp⟩
theorem Men.snoc {num : Nat} {l : List RAtom} {ms : List PMen} (h : Men num l ms) {A : RAtom} {M : PMen} (hm : MenRel num A M) : Men num (l ++ [A]) (ms ++ [M]) := by
 obtain ⟨q, h1, h2, h3⟩ := h
 refine ⟨q ++ [(A, M)], by simp [h1], by simp [h2], fun x hx => ?_⟩
 rcases List.mem_append.1 hx with hx | hx
 ·exact h3 x hx
 ·simp at hx; subst hx; exact hm
theorem Men.cons {num : Nat} {l : List RAtom} {ms : List PMen} (h : Men num l ms) {A : RAtom} {M : PMen} (hm : MenRel num A M) : Men num (A :: l) (M :: ms) := by
 obtain ⟨q, h1, h2, h3⟩ := h
 refine ⟨(A, M) :: q, by simp [h1], by simp [h2], fun x hx => ?_⟩
 rcases List.mem_cons.1 hx with hx | hx
 ·subst hx; exact hm
 ·exact h3 x hx
theorem lit_facts (s : ByteArray) (p : Nat) (bd : Int) (hbd : bd < 0) (hp : p ≤ s.size) : zjj s p bd = ((zae s p).1 == 4) ∧ zbe s p bd = za2 s p 4 ∧ zca s p bd = bd := by
 have K := zgv s p hp
 have e : zjj s p bd = ((zae s p).1 == 4) := by
  unfold zjj; rw [Bool.eq_iff_iff]; simp [hbd, K.k4]
 by_cases h : (zae s p).1 = 4
 ·have hk := K.k4.1 h
  have t := zg8 hbd (p := p) (s := s) (by rw [hk]; decide) (by rw [hk]; decide)
  have hb : ((zae s p).1 == 4) = true := by simpa using h
  refine ⟨e, ?_, ?_⟩
  ·unfold zbe za2; rw [e, if_pos hb, if_pos hb, t.2, K.to_]
  ·unfold zca; rw [e, if_pos hb, t.1]
 ·have hb : ¬ ((zae s p).1 == 4) = true := by simpa using h
  refine ⟨e, ?_, ?_⟩
  ·unfold zbe za2; rw [e, if_neg hb, if_neg hb]
  ·unfold zca; rw [e, if_neg hb]
theorem zpd {s : ByteArray} {p : Nat} {k : Int} (h : p ≤ s.size) : za2 s p k ≤ s.size := by
 unfold za2; split
 ·exact (zbs s p h).2
 ·exact h
theorem lit_eq (s : ByteArray) (num p : Nat) (bd : Int) (hbd : bd < 0) (hp : p ≤ s.size) :
  match zby s (za2 s p 4) with
  | .no q => (zav s p bd).2 = ((zae s q).2.1 : Int)
  | .yes q pd ts pl => zav s p bd = (q, bd) ∧ ze8 s p pd ts = zep (zbx s p bd) ∧ MenRel num (zbx s p bd) (zgu s num p pd ts pl) ∧ q ≤ s.size := by
 obtain ⟨f1, f2, f3⟩ := lit_facts s p bd hbd hp
 have A := zp9 s (za2 s p 4) bd hbd (zpd hp)
 have K := zgv s p hp
 have K2 := zgv s (za2 s p 4) (zpd hp)
 unfold zav zbx
 rw [f1, f2, f3]
 cases hr : zby s (za2 s p 4) with
 | no q => rw [hr] at A; exact A
 | yes q pd ts pl =>
  rw [hr] at A
  obtain ⟨a1, a2, a3, a4, a5⟩ := A
  refine ⟨a1, by simp [ze8, zep, a2, a3], ⟨rfl, rfl, a2, a3, fun _ => K.at_, K2.at_, a4⟩, a5⟩
theorem bodyS_go (s : ByteArray) (f p : Nat) (bd : Int) (l : List RAtom) : ze1 s (f + 1) p bd l =
  if isS s (zav s p (zap s p bd l.length)).1 (zav s p (zap s p bd l.length)).2 { data := #[44] } then
   ze1 s f (zbz s (zav s p (zap s p bd l.length)).1 (zav s p (zap s p bd l.length)).2 { data := #[44] }) (zb9 s (zav s p (zap s p bd l.length)).1 (zav s p (zap s p bd l.length)).2 { data := #[44] }) (l ++ [zbx s p (zap s p bd l.length)])
  else (l ++ [zbx s p (zap s p bd l.length)], zbz s (zav s p (zap s p bd l.length)).1 (zav s p (zap s p bd l.length)).2 { data := #[44] }, zb9 s (zav s p (zap s p bd l.length)).1 (zav s p (zap s p bd l.length)).2 { data := #[44] }) := by rw [ze1]
theorem body_bad (s : ByteArray) (f p : Nat) (bd : Int) (l : List RAtom) (a : Nat) (h : (zav s p (zap s p bd l.length)).2 = (a : Int)) : (ze1 s (f + 1) p bd l).2.2 = (a : Int) := by
 have h0 : (0 : Int) ≤ (a : Int) := by omega
 rw [bodyS_go, h, zgx h0, (zf7 h0).1, (zf7 h0).2]
 rfl
theorem zjl {s : ByteArray} {p : Nat} {bd : Int} {a : Nat} {wd : ByteArray} (h : bd = (a : Int)) : zan s p (zbn s p bd wd) = (a : Int) := by
 have h0 : (0 : Int) ≤ (a : Int) := by omega
 subst h
 rw [need_pos h0]
 exact (zg7 h0).1
theorem body_eq (s : ByteArray) (num : Nat) (bd : Int) (hbd : bd < 0) : ∀ (f p : Nat) (l : List RAtom) (ms0 ms : List PMen), l.length + f = 3 → p ≤ s.size → Men num l ms →
  ((zck s num f p (l.map zep) (ms0 ++ ms)).1 = true → ∃ q ms', (ze1 s (f + 1) p bd l).2 = (q, bd) ∧ (zae s q).1 = 8 ∧ q ≤ s.size ∧ (zck s num f p (l.map zep) (ms0 ++ ms)).2.1 = (zae s q).2.2 ∧ (zck s num f p (l.map zep) (ms0 ++ ms)).2.2.1 = (ze1 s (f + 1) p bd l).1.map zep ∧ (zck s num f p (l.map zep) (ms0 ++ ms)).2.2.2 = ms0 ++ ms' ∧ Men num (ze1 s (f + 1) p bd l).1 ms') ∧
  ((zck s num f p (l.map zep) (ms0 ++ ms)).1 = false → zan s (ze1 s (f + 1) p bd l).2.1 (zbn s (ze1 s (f + 1) p bd l).2.1 (ze1 s (f + 1) p bd l).2.2 { data := #[46] }) = ((zae s (zck s num f p (l.map zep) (ms0 ++ ms)).2.1).2.1 : Int)) := by
 intro f
 induction f with
 | zero =>
  intro p l ms0 ms hl hp _
  have K := zgv s p hp
  refine ⟨fun h => by simp [zck] at h, fun _ => ?_⟩
  have e : zap s p bd l.length = ((tok s p).at_ : Int) := by
   unfold zap
   have : (l.length == 3) = true := by simp; omega
   rw [if_pos this, zih hbd]
  have h0 : (0 : Int) ≤ ((tok s p).at_ : Int) := by omega
  have hb := body_bad s 0 p bd l (tok s p).at_ (by rw [e]; exact lit_pos h0)
  simp only [zck]
  rw [zjl hb, K.at_]
 | succ f ih =>
  intro p l ms0 ms hl hp hM
  have e : zap s p bd l.length = bd := by
   unfold zap
   have : ¬ (l.length == 3) = true := by simp; omega
   rw [if_neg this]
  have L := lit_eq s num p bd hbd hp
  rw [zck]
  cases hr : zby s (za2 s p 4) with
  | no q =>
   rw [hr] at L
   have hb := body_bad s (f + 1) p bd l (zae s q).2.1 (by rw [e]; exact L)
   refine ⟨fun h => by simp at h, fun _ => ?_⟩
   rw [zjl hb]
  | yes q pd ts pl =>
   rw [hr] at L
   obtain ⟨l1, l2, l3, l4⟩ := L
   have K := zgv s q l4
   have hlit : l.map zep ++ [ze8 s p pd ts] = (l ++ [zbx s p bd]).map zep := by simp [l2]
   have hmm : ms0 ++ ms ++ [zgu s num p pd ts pl] = ms0 ++ (ms ++ [zgu s num p pd ts pl]) := by simp
   have hM2 := hM.snoc l3
   rw [bodyS_go, e, l1]
   simp only
   rw [hlit, hmm]
   by_cases hc : (tok s q).kind = 115 ∧ (tok s q).text.toList = [44]
   ·have hc' : (tok s q).kind = 115 ∧ (tok s q).text.toList = ({ data := #[44] } : ByteArray).toList := ⟨hc.1, by rw [hc.2, ByteArray.toList_eq]⟩
    rw [if_pos (K.k7.2 hc), K.to_, (zhx hbd).2 hc', (zgw hbd hc').1, (zgw hbd hc').2, if_pos rfl]
    exact ih _ _ _ _ (by simp; omega) (by rw [← K.to_]; exact (zbs s q l4).2) hM2
   ·have hc' : ¬ ((tok s q).kind = 115 ∧ (tok s q).text.toList = ({ data := #[44] } : ByteArray).toList) := fun h => hc ⟨h.1, by rw [h.2, ByteArray.toList_eq]⟩
    rw [if_neg (fun h => hc (K.k7.1 h)), zl1 hbd hc', (zgs hbd hc').1, (zgs hbd hc').2, if_neg (by decide)]
    by_cases hs : (tok s q).kind = 115 ∧ (tok s q).text.toList = [46]
    ·have h8 := K.k8.2 hs
     have hr8 : za2 s q 8 = (zae s q).2.2 := by unfold za2; rw [if_pos (by simpa using h8)]
     refine ⟨fun _ => ⟨q, ms ++ [zgu s num p pd ts pl], rfl, h8, l4, hr8, rfl, rfl, hM2⟩, fun h => by simp [h8] at h⟩
    ·have h8 : ¬ (zae s q).1 = 8 := fun h => hs (K.k8.1 h)
     have hr8 : za2 s q 8 = q := by unfold za2; rw [if_neg (by simpa using h8)]
     have hs' : ¬ ((tok s q).kind = 115 ∧ (tok s q).text.toList = ({ data := #[46] } : ByteArray).toList) := fun h => hs ⟨h.1, by rw [h.2, ByteArray.toList_eq]⟩
     refine ⟨fun h => by simp [h8] at h, fun _ => ?_⟩
     simp only [hr8]
     rw [need_no hbd hs', K.at_]
theorem rule_eq (s : ByteArray) (num p : Nat) (bd : Int) (hbd : bd < 0) (hp : p ≤ s.size) (ms : List PMen) :
  ((zb2 s num p ms).1 = true → ∃ ms', zeu s p bd = (zb2 s num p ms).2.1 ∧ zcq s p bd = bd ∧ (zb2 s num p ms).2.1 ≤ s.size ∧ (zb2 s num p ms).2.2.1 = za7 (zdv s p bd) ∧ (zb2 s num p ms).2.2.2 = ms ++ ms' ∧ Men num (zdv s p bd).atoms ms') ∧
  ((zb2 s num p ms).1 = false → zcq s p bd = ((zae s (zb2 s num p ms).2.1).2.1 : Int)) := by
 have A := zp9 s p bd hbd hp
 have K := zgv s p hp
 unfold zb2
 cases hr : zby s p with
 | no q =>
  rw [hr] at A
  have h0 : (0 : Int) ≤ ((zae s q).2.1 : Int) := by omega
  refine ⟨fun h => by simp at h, fun _ => ?_⟩
  unfold zcq zcr
  rw [show (zag s p bd).2.2 = ((zae s q).2.1 : Int) from A, zgx h0]
  simp only [Bool.false_eq_true, if_false]
  exact zjl (zf7 h0).2
 | yes q pd ts pl =>
  rw [hr] at A
  obtain ⟨a1, a2, a3, a4, a5⟩ := A
  have hrest1 : (zag s p bd).2.1 = q := by rw [a1]
  have hrest2 : (zag s p bd).2.2 = bd := by rw [a1]
  have K2 := zgv s q a5
  have hrel : MenRel num (zah s p bd) (zhc s num p pd ts pl) := ⟨rfl, rfl, a2, a3, fun h => by simp [zah] at h, K.at_, a4⟩
  by_cases hw : (tok s q).kind = 115 ∧ (tok s q).text.toList = [58, 45]
  ·have hw' : (tok s q).kind = 115 ∧ (tok s q).text.toList = ({ data := #[58, 45] } : ByteArray).toList := ⟨hw.1, by rw [hw.2, ByteArray.toList_eq]⟩
   have h9 := K2.k9.2 hw
   have h8 : ¬ (zae s q).1 = 8 := by rw [h9]; decide
   have eB : zcr s p bd = ze1 s 4 (tok s q).to bd [] := by
    unfold zcr
    rw [hrest1, hrest2, (zhx hbd).2 hw', (zgw hbd hw').1, (zgw hbd hw').2]
    rfl
   have hq2 : (tok s q).to ≤ s.size := by rw [← K2.to_]; exact (zbs s q a5).2
   have B := body_eq s num bd hbd 3 (tok s q).to [] (ms ++ [zhc s num p pd ts pl]) [] rfl hq2 (Men.nil num)
   rw [List.map_nil, List.append_nil] at B
   simp only [if_neg h8, if_pos h9, K2.to_]
   refine ⟨fun h => ?_, fun h => ?_⟩
   ·obtain ⟨r, ms', b1, b2, b3, b4, b5, b6, b7⟩ := B.1 h
    have K3 := zgv s r b3
    have hs := K3.k8.1 b2
    have hs' : (tok s r).kind = 115 ∧ (tok s r).text.toList = ({ data := #[46] } : ByteArray).toList := ⟨hs.1, by rw [hs.2, ByteArray.toList_eq]⟩
    have e1 : (zcr s p bd).2.1 = r := by rw [eB, b1]
    have e2 : (zcr s p bd).2.2 = bd := by rw [eB, b1]
    refine ⟨zhc s num p pd ts pl :: ms', ?_, ?_, ?_, ?_, ?_, ?_⟩
    ·unfold zeu; rw [e1, e2, (zg4 hbd hs').1, b4, K3.to_]
    ·unfold zcq; rw [e1, e2, (zg4 hbd hs').2]
    ·rw [b4]; exact (zbs s r b3).2
    ·rw [b5, ← eB]; simp [za7, zdv, zah, a2, a3]
    ·rw [b6]; simp
    ·rw [← eB] at b7; exact Men.cons b7 hrel
   ·unfold zcq
    rw [eB]
    exact B.2 h
  ·have hw' : ¬ ((tok s q).kind = 115 ∧ (tok s q).text.toList = ({ data := #[58, 45] } : ByteArray).toList) := fun h => hw ⟨h.1, by rw [h.2, ByteArray.toList_eq]⟩
   have h9 : ¬ (zae s q).1 = 9 := fun h => hw (K2.k9.1 h)
   have eB : zcr s p bd = ([], q, bd) := by
    unfold zcr
    rw [hrest1, hrest2, zl1 hbd hw', (zgs hbd hw').1, (zgs hbd hw').2]
    rfl
   by_cases hs : (tok s q).kind = 115 ∧ (tok s q).text.toList = [46]
   ·have hs' : (tok s q).kind = 115 ∧ (tok s q).text.toList = ({ data := #[46] } : ByteArray).toList := ⟨hs.1, by rw [hs.2, ByteArray.toList_eq]⟩
    have h8 := K2.k8.2 hs
    simp only [if_pos h8]
    refine ⟨fun _ => ⟨[zhc s num p pd ts pl], ?_, ?_, (zbs s q a5).2, ?_, rfl, ?_⟩, fun h => by simp at h⟩
    ·unfold zeu; rw [eB]; simp only; rw [(zg4 hbd hs').1, K2.to_]
    ·unfold zcq; rw [eB]; simp only; rw [(zg4 hbd hs').2]
    ·simp [za7, zdv, zah, eB, a2, a3]
    ·have : (zdv s p bd).atoms = [zah s p bd] := by simp [zdv, RRule.atoms, eB]
     rw [this]
     exact Men.cons (Men.nil num) hrel
   ·have hs' : ¬ ((tok s q).kind = 115 ∧ (tok s q).text.toList = ({ data := #[46] } : ByteArray).toList) := fun h => hs ⟨h.1, by rw [h.2, ByteArray.toList_eq]⟩
    have h8 : ¬ (zae s q).1 = 8 := fun h => hs (K2.k8.1 h)
    simp only [if_neg h8, if_neg h9]
    refine ⟨fun h => by simp at h, fun _ => ?_⟩
    unfold zcq; rw [eB]; simp only
    rw [need_no hbd hs', K2.at_]
inductive TextRel : Nat → List RRule → List PMen → Prop where
 | nil (n : Nat) : TextRel n [] []
 | cons {n : Nat} {R : RRule} {rs : List RRule} {ms ms' : List PMen} (h : Men n R.atoms ms) (t : TextRel (n + 1) rs ms') : TextRel n (R :: rs) (ms ++ ms')
theorem TextRel.snoc {n : Nat} {rs : List RRule} {ms : List PMen} (h : TextRel n rs ms) : ∀ {R : RRule} {ms' : List PMen}, Men (n + rs.length) R.atoms ms' → TextRel n (rs ++ [R]) (ms ++ ms') := by
 induction h with
 | nil n =>
  intro R ms' hm
  have := TextRel.cons (rs := []) (ms' := []) hm (TextRel.nil _)
  simpa using this
 | cons h t ih =>
  intro R ms' hm
  rw [List.append_assoc, List.cons_append]
  refine TextRel.cons h (ih ?_)
  simpa [Nat.add_comm, Nat.add_left_comm, Nat.add_assoc] using hm
theorem rules_eq (s : ByteArray) (bd : Int) (hbd : bd < 0) : ∀ (f p : Nat) (rs : List RRule) (ms : List PMen), rs.length + f = 30 → p ≤ s.size → TextRel 0 rs ms →
  ((zcy s (f + 1) p (rs.map za7) ms).1 = true → (zeo s (f + 1) p bd rs).2.2 = bd ∧ (zcy s (f + 1) p (rs.map za7) ms).2.2.1 = (zeo s (f + 1) p bd rs).1.map za7 ∧ TextRel 0 (zeo s (f + 1) p bd rs).1 (zcy s (f + 1) p (rs.map za7) ms).2.2.2) ∧
  ((zcy s (f + 1) p (rs.map za7) ms).1 = false → (zeo s (f + 1) p bd rs).2.2 = ((zae s (zcy s (f + 1) p (rs.map za7) ms).2.1).2.1 : Int)) := by
 intro f
 induction f with
 | zero =>
  intro p rs ms hl hp hT
  have K := zgv s p hp
  rw [zcy, zeo]
  by_cases h0 : (zae s p).1 = 0
  ·have hg : zeq s p bd = false := by unfold zeq; simp [K.k0.1 h0]
   rw [if_pos h0, hg, if_neg (by decide)]
   exact ⟨fun _ => ⟨rfl, rfl, hT⟩, fun h => by simp at h⟩
  ·have hg : zeq s p bd = true := by unfold zeq; simp [hbd]; exact fun h => h0 (K.k0.2 h)
   rw [if_neg h0, if_pos (by simp; omega), hg, if_pos rfl]
   refine ⟨fun h => by simp at h, fun _ => ?_⟩
   have e : zad s p bd rs.length = ((tok s p).at_ : Int) := by
    unfold zad
    rw [if_pos (by simp; omega), zih hbd]
   have h00 : (0 : Int) ≤ ((tok s p).at_ : Int) := by omega
   simp only [zeo, e]
   unfold zcq
   have hb : (zcr s p ((tok s p).at_ : Int)).2.2 = ((tok s p).at_ : Int) := by
    unfold zcr
    rw [atom_pos h00, zgx h00, (zf7 h00).1, (zf7 h00).2]
    rfl
   rw [zjl hb, K.at_]
 | succ f ih =>
  intro p rs ms hl hp hT
  have K := zgv s p hp
  rw [zcy, zeo]
  by_cases h0 : (zae s p).1 = 0
  ·have hg : zeq s p bd = false := by unfold zeq; simp [K.k0.1 h0]
   rw [if_pos h0, hg, if_neg (by decide)]
   exact ⟨fun _ => ⟨rfl, rfl, hT⟩, fun h => by simp at h⟩
  ·have hg : zeq s p bd = true := by unfold zeq; simp [hbd]; exact fun h => h0 (K.k0.2 h)
   have e : zad s p bd rs.length = bd := by unfold zad; rw [if_neg (by simp; omega)]
   rw [if_neg h0, if_neg (by simp; omega), hg, if_pos rfl, e, List.length_map]
   have R := rule_eq s rs.length p bd hbd hp ms
   cases hr : (zb2 s rs.length p ms).1 with
   | true =>
    obtain ⟨ms', r1, r2, r3, r4, r5, r6⟩ := R.1 hr
    rw [if_pos rfl, r1, r2, r4, r5]
    have e2 : rs.map za7 ++ [za7 (zdv s p bd)] = (rs ++ [zdv s p bd]).map za7 := by simp
    rw [e2]
    exact ih _ _ _ (by simp; omega) r3 (hT.snoc (by simpa using r6))
   | false =>
    have hb := R.2 hr
    rw [if_neg (by decide)]
    refine ⟨fun h => by simp at h, fun _ => ?_⟩
    have h00 : zeq s (zeu s p bd) (zcq s p bd) = false := by unfold zeq; rw [hb]; simp
    rw [zos _ _ _ _ _ h00]
    exact hb
def za6 (s : ByteArray) : Bool × Nat × List PRule × List PMen := zcy s 31 0 [] []
theorem zid (s : ByteArray) :
  ((za6 s).1 = true → (za8 s).2.2 = -1 ∧ (za6 s).2.2.1 = (za8 s).1.map za7 ∧ TextRel 0 (za8 s).1 (za6 s).2.2.2) ∧
  ((za6 s).1 = false → (za8 s).2.2 = ((zae s (za6 s).2.1).2.1 : Int)) :=
 rules_eq s (-1) (by decide) 30 0 [] [] rfl (Nat.zero_le _) (TextRel.nil 0)
end
section
open Go.RowKit
structure PR where
 R : PRule
 hv : Value
 bs : List (PLit × Value)
 bv : Value
def PR.cells (r : PR) : List Value := [.string r.R.pd, r.hv, r.bv]
def zks (rs : List PR) : List Value := rs.flatMap PR.cells
theorem zow (rs : List PR) (r : PR) : zks (rs ++ [r]) = zks rs ++ r.cells := by simp [zks]
structure PRIn (w : World) (base : Nat) (r : PR) : Prop where
 hd : w.ownsRow base 191 1 r.hv r.R.ts.length (zbj r.R.ts)
 bo : LRow w base r.bv r.bs
 eq : r.bs.map (·.1) = r.R.body
structure RRow (w : World) (base : Nat) (rv : Value) (rs : List PR) : Prop where
 row : w.ownsRow base 123 3 rv rs.length (zks rs)
 each : ∀ r ∈ rs, PRIn w base r
theorem PRIn.keptT {B : List Nat} {w w' : World} {base : Nat} {r : PR} (h : PRIn w base r) (k : Kept B w w') (hB : ∀ x ∈ B, x < base ∨ (NotT w 183 x ∧ NotT w 191 x)) : PRIn w' base r :=
 ⟨zbq h.hd k (fun x hx => (hB x hx).imp id And.right), h.bo.keptT k hB, h.eq⟩
theorem PRIn.low {w : World} {base base' : Nat} {r : PR} (h : PRIn w base r) (hb : base' ≤ base) : PRIn w base' r := ⟨zaf h.hd hb, h.bo.low hb, h.eq⟩
theorem RRow.keptT {B : List Nat} {w w' : World} {base : Nat} {rv : Value} {rs : List PR} (h : RRow w base rv rs) (k : Kept B w w') (hB : ∀ x ∈ B, x < base ∨ (NotT w 123 x ∧ NotT w 183 x ∧ NotT w 191 x)) : RRow w' base rv rs :=
 ⟨zbq h.row k (fun x hx => (hB x hx).imp id And.left), fun r hr => (h.each r hr).keptT k (fun x hx => (hB x hx).imp id And.right)⟩
theorem RRow.low {w : World} {base base' : Nat} {rv : Value} {rs : List PR} (h : RRow w base rv rs) (hb : base' ≤ base) : RRow w base' rv rs := ⟨zaf h.row hb, fun r hr => (h.each r hr).low hb⟩
theorem MRow.low {w : World} {base base' : Nat} {mv : Value} {ms : List (PMen × Value)} (h : MRow w base mv ms) (hb : base' ≤ base) : MRow w base' mv ms := ⟨zaf h.row hb, fun r hr => zaf (h.each r hr) hb⟩
structure QInv (w : World) (b : Nat) (s : ByteArray) (rs : List PR) (p num : Nat) (ms : List (PMen × Value)) (mv rv : Value) (wr : World) : Prop where
 rdr : Rdr wr b s p num mv
 hp : p ≤ s.size
 men : MRow wr (b + 1) mv ms
 rules : RRow wr (b + 1) rv rs
 res : wr.heap[w.heap.size]? = some (.cells #[.slice none 0 0, .slice none 0 0] 100 (0, 0))
 below : Below w.heap.size w wr
 bw : w.heap.size < b
theorem zar {n : Nat} {B : List Nat} {w wr w1 : World} (h : Below n w wr) (k : Kept B wr w1) (hn : n ≤ wr.heap.size) (hB : ∀ x ∈ B, n ≤ x) : Below n w w1 :=
 h.trans ⟨k.os, k.tape, k.output, k.size, fun i hi => k.block i (Nat.lt_of_lt_of_le hi hn) (fun hm => by have := hB i hm; omega)⟩
theorem QInv.num {w : World} {b : Nat} {s : ByteArray} {rs : List PR} {p num : Nat} {ms : List (PMen × Value)} {mv rv : Value} {wr : World} (h : QInv w b s rs p num ms mv rv wr) (k : Nat) : QInv w b s rs p k ms mv rv (wr.setCell ⟨b, 4, none⟩ (.int .i64 k)) := by
 have hb := h.bw
 have kk : Kept [b] wr (wr.setCell ⟨b, 4, none⟩ (.int .i64 k)) := (Kept.refl [b] wr).setCell (by simp) _
 obtain ⟨q, c0, c1, c2, c3, c4, c5, fz⟩ := h.rdr
 refine ⟨⟨by simpa using q, ?_, ?_, ?_, ?_, zex c4, ?_, fun o => by simpa using fz o⟩, h.hp, h.men.kept kk (by simp), h.rules.keptT kk (by simp), za1 h.res kk (by simp; omega), zar h.below kk (by omega) (by simp; omega), hb⟩
 all_goals (rw [za0 (by omega)]; assumption)
theorem QInv.rule {w : World} {b : Nat} {s : ByteArray} {rs : List PR} {p num : Nat} {ms : List (PMen × Value)} {mv rv : Value} {wr w1 : World} {p' : Nat} {ms' : List (PMen × Value)} {mv' : Value} (h : QInv w b s rs p num ms mv rv wr) (k : Kept (b :: mv.ownBlock.toList) wr w1) (hr : Rdr w1 b s p' num mv') (hp : p' ≤ s.size) (hm : MRow w1 (b + 1) mv' ms') : QInv w b s rs p' num ms' mv' rv w1 := by
 have hb := h.bw
 have hz := h.rdr.lt
 have hB : ∀ x ∈ (b :: mv.ownBlock.toList), x = b ∨ (b + 1 ≤ x ∧ NotT wr 123 x ∧ NotT wr 183 x ∧ NotT wr 191 x ∧ NotT wr 100 x) := fun x hx => by
  rcases List.mem_cons.1 hx with rfl | hx
  ·exact .inl rfl
  ·exact .inr ⟨(h.men.row.lt x (by simpa using hx)).1, zaz h.men.row (by decide) x hx, zaz h.men.row (by decide) x hx, zaz h.men.row (by decide) x hx, zaz h.men.row (by decide) x hx⟩
 refine ⟨hr, hp, hm, h.rules.keptT k (fun x hx => ?_), za1 h.res k (fun x hx => ?_), zar h.below k (by omega) (fun x hx => ?_), hb⟩
 ·rcases hB x hx with rfl | h1
  ·exact .inl (by omega)
  ·exact .inr ⟨h1.2.1, h1.2.2.1, h1.2.2.2.1⟩
 ·rcases hB x hx with rfl | h1
  ·exact .inl (by omega)
  ·exact .inr h1.2.2.2.2
 ·rcases hB x hx with rfl | h1 <;> omega
theorem QInv.append {w : World} {b : Nat} {s : ByteArray} {rs : List PR} {p num : Nat} {ms : List (PMen × Value)} {mv rv : Value} {w1 W w5 : World} (h : QInv w b s rs p num ms mv rv w1) (kW : Kept [] w1 W) {r : PR} {rv' : Value} (hr : PRIn w1 (b + 1) r)
  (hown : w5.ownsRow (b + 1) 123 3 rv' (rs.length + 1) (zks rs ++ r.cells)) (hg : W.grownBy w5 rv.ownBlock) : QInv w b s (rs ++ [r]) p num ms mv rv' w5 := by
 have hb := h.bw
 have hz := h.rdr.lt
 have k5 : Kept rv.ownBlock.toList w1 w5 := ((kW.mono (C := rv.ownBlock.toList) (by simp))).grown hg (fun k e => .inr (by simp [e]))
 have hrow : ∀ x ∈ rv.ownBlock.toList, b + 1 ≤ x := fun x hx => (h.rules.row.lt x (by simpa using hx)).1
 have far : ∀ x ∈ rv.ownBlock.toList, ∀ e, 123 ≠ e → NotT w1 e x := fun x hx e he => zaz h.rules.row he x hx
 refine ⟨h.rdr.kept k5 (fun hm => by have := hrow b hm; omega), h.hp, h.men.keptT k5 (fun x hx => .inr ⟨far x hx _ (by decide), far x hx _ (by decide)⟩), ⟨?_, fun y hy => ?_⟩, za1 h.res k5 (fun x hx => .inr (far x hx _ (by decide))), zar h.below k5 (by omega) (fun x hx => by have := hrow x hx; omega), hb⟩
 ·rw [zow, List.length_append]; exact hown
 ·rcases List.mem_append.1 hy with hy | hy
  ·exact (h.rules.each y hy).keptT k5 (fun x hx => .inr ⟨far x hx _ (by decide), far x hx _ (by decide)⟩)
  ·simp at hy; subst hy; exact hr.keptT k5 (fun x hx => .inr ⟨far x hx _ (by decide), far x hx _ (by decide)⟩)
def RulesPost (w : World) (s : ByteArray) (P : Bool × Nat × List PRule × List PMen) (e : Ending) (w' : World) : Prop :=
 Below w.heap.size w w' ∧ (P.1 = false → e = .returned (.tuple #[.agg #[.slice none 0 0, .slice none 0 0], .int .i64 (zae s P.2.1).2.1, .bool false])) ∧
 (P.1 = true → ∃ (a : Option Addr) (n c : Nat) (a' : Option Addr) (n' c' : Nat) (rs : List PR) (ms : List (PMen × Value)), e = .returned (.tuple #[.agg #[.slice a n c, .slice a' n' c'], .int .i64 0, .bool true]) ∧ RRow w' w.heap.size (.slice a n c) rs ∧ rs.map (·.R) = P.2.2.1 ∧ MRow w' w.heap.size (.slice a' n' c') ms ∧ ms.map (·.1) = P.2.2.2 ∧ rs.length ≤ 30 ∧ ms.length ≤ 120)
theorem zo1 : (Tryz.prog.info? 123).map (fun i => (i.zero, i.size, i.bytes)) = some (some (.agg #[.string { data := #[] }, .slice none 0 0, .slice none 0 0]), 3, 64) := by kernel_rfl
theorem pr_cell (w1 : World) (o : Obj) (r : PR) (j : Nat) (u : Value) (h : r.cells[j]? = some u) : ((w1.alloc o).alloc (Obj.cells #[Value.string r.R.pd, r.hv, r.bv] 123)).cell? ((⟨w1.heap.size + 1, 0, none⟩ : Addr).add j) = some u := by
 have e : (⟨w1.heap.size + 1, 0, none⟩ : Addr).add j = ⟨w1.heap.size + 1, j, none⟩ := by unfold Addr.add; split <;> simp_all
 rw [e, World.cell?_alloc_at _ _ _ _ (by simp)]
 simpa [PR.cells] using h
theorem pr_one (R : PRule) (a : Option Addr) (n c : Nat) (a' : Option Addr) (n' c' : Nat) (bs : List (PLit × Value)) : ∀ u ∈ (PR.mk R (.slice a n c) bs (.slice a' n' c')).cells, u.oneCell' = true := by
 intro u hu; simp [PR.cells] at hu; rcases hu with rfl | rfl | rfl <;> rfl
theorem q_start {w w1 : World} {s : ByteArray} (hb1 : Below (w.alloc (Obj.cells #[Value.slice none 0 0, .slice none 0 0] 100)).heap.size (w.alloc (Obj.cells #[Value.slice none 0 0, .slice none 0 0] 100)) w1) :
  QInv w w1.heap.size s [] 0 0 [] (.slice none 0 0) (.slice none 0 0) (w1.alloc (Obj.cells #[Value.string s, .int .i64 (zae s 0).1, .int .i64 (zae s 0).2.1, .int .i64 (zae s 0).2.2, .int .i64 0, .slice none 0 0] 163)) := by
 have hz := hb1.size
 simp at hz
 refine ⟨⟨by simp, ?_, ?_, ?_, ?_, ?_, ?_, ?_⟩, Nat.zero_le _, ⟨World.ownsRow_nil _ _ _ _, by simp⟩, ⟨World.ownsRow_nil _ _ _ _, by simp⟩, ?_, ?_, by omega⟩
 all_goals first | (rw [World.cell?_alloc_at _ _ _ _ rfl]; rfl) | (intro o; rw [World.frozen?_alloc_at _ _ _ _ rfl]; done) | skip
 ·rw [Below.heap_alloc _ _ _ (by omega), hb1.block _ (by simp)]
  exact heap_alloc_new w _
 ·exact (((Below.refl _ _).alloc (Nat.le_refl _) _).trans (hb1.mono (by simp))).alloc (by omega) _
theorem zmy {w1 : World} {n : Nat} {u0 u1 : Value} (h0 : w1.cell? ⟨n, 0, none⟩ = some u0) (h1 : w1.cell? ⟨n, 1, none⟩ = some u1) (v0 v1 : Value) : ((w1.setCell ⟨n, 0, none⟩ v0).setCell ⟨n, 1, none⟩ v1).cell? ⟨n, 0, none⟩ = some v0 ∧ ((w1.setCell ⟨n, 0, none⟩ v0).setCell ⟨n, 1, none⟩ v1).cell? ⟨n, 1, none⟩ = some v1 :=
 ⟨by rw [za0 (by omega)]; exact zex h0, zex (by rw [za0 (by omega)]; exact h1)⟩
theorem zqv (s : ByteArray) (p : Nat) (rs : List PRule) (ms : List PMen) (h : rs.length ≤ 30) : zcy s (31 - rs.length) p rs ms =
  if (zae s p).1 = 0 then (true, p, rs, ms)
  else if rs.length = 30 then (false, p, rs, ms)
  else if (zb2 s rs.length p ms).1 then zcy s (31 - (rs.length + 1)) (zb2 s rs.length p ms).2.1 (rs ++ [(zb2 s rs.length p ms).2.2.1]) (zb2 s rs.length p ms).2.2.2
  else (false, (zb2 s rs.length p ms).2.1, rs, (zb2 s rs.length p ms).2.2.2) := by
 have e : 31 - rs.length = (31 - (rs.length + 1)) + 1 := by omega
 rw [e, zcy]
set_option maxRecDepth 100000 in
theorem prules_any (w : World) (s : ByteArray) (hs : s.size ≤ 2000000) :
  Calls Tryz.prog 45 #[.string s] w (RulesPost w s (za6 s)) := by
 have hsm : s.size ≤ maxLen := by unfold maxLen; omega
 obtain ⟨i0, hi, hz0, hz1, hz2⟩ := info_parts zo1
 go_enter Tryz.func45, Tryz.ntmps45
 go_wp2_with fail
 refine (zjv s 0 (Nat.zero_le _) hsm _).mono ?_
 rintro e w1 ⟨rfl, hb1⟩
 have hst := q_start (s := s) hb1
 clear hb1
 go_wp2_with fail
 go_loopg [6] 32 (fun g rv wr => ∃ (rs : List PR) (ms : List (PMen × Value)) (p num : Nat) (mv : Value), rs.length ≤ 30 ∧ 31 - rs.length ≤ g ∧ ms.length ≤ 4 * rs.length ∧ QInv w w1.heap.size s rs p num ms mv rv wr ∧ za6 s = zcy s (31 - rs.length) p (rs.map (·.R)) (ms.map (·.1)))
 case atStart => exact ⟨[], [], 0, 0, _, by simp, by simp, by simp, hst, rfl⟩
 case round =>
  clear hst
  obtain ⟨rs, ms, p, num, mv, hl, hg, hml, hinv, hfin⟩ := hrel
  obtain ⟨a1, cap1, rfl⟩ := zac hinv.rules.row
  obtain ⟨a2, cap2, rfl⟩ := zac hinv.men.row
  have hst := zqv s p (rs.map (·.R)) (ms.map (·.1)) (by simpa using hl)
  rw [List.length_map] at hst
  have HF := hide (hfin.trans hst)
  clear hfin hst
  have hpl := hinv.hp
  obtain ⟨hlt, c0, c1, c2, c3, c4, c5, fz⟩ := hinv.rdr
  have hbw := hinv.bw
  obtain ⟨r0, f0⟩ := zab hinv.res 0
  obtain ⟨r1, f1⟩ := zab hinv.res 1
  have HI := hide hinv
  clear hinv
  by_cases h0 : (zae s p).1 = 0
  ·have h0i : ((zae s p).1 != 0) = false := by simp [h0]
   have HF1 := hide ((zaa HF).trans (if_pos h0))
   have HE := hide h0
   clear HF h0
   go_wp2_with fail
   obtain ⟨q0, q1⟩ := zmy r0 r1 (.slice a1 rs.length cap1) (.slice a2 ms.length cap2)
   refine bodyPost_ret (v := .tuple #[.agg #[.slice a1 rs.length cap1, .slice a2 ms.length cap2], .int .i64 0, .bool true]) (by simp [results, Tryz.results45, go_sem, q0, q1]) rfl ?_
   have kk := zfh wr w.heap.size (.slice a1 rs.length cap1) (.slice a2 ms.length cap2)
   have i := zaa HI
   have hnt : ∀ e, 100 ≠ e → NotT wr e w.heap.size := fun e he => zfq i.res he
   rw [zaa HF1]
   refine ⟨zar i.below kk (by omega) (by simp), fun e => (by cases e), fun _ => ⟨_, _, _, _, _, _, rs, ms, rfl, (i.rules.low (by omega)).keptT kk (fun x hx => ?_), rfl, (i.men.low (by omega)).keptT kk (fun x hx => ?_), rfl, hl, by omega⟩⟩
   ·simp at hx; subst hx; exact .inr ⟨hnt _ (by decide), hnt _ (by decide), hnt _ (by decide)⟩
   ·simp at hx; subst hx; exact .inr ⟨hnt _ (by decide), hnt _ (by decide)⟩
  ·have h0i : ((zae s p).1 != 0) = true := by simp [h0]
   have HF1 := hide ((zaa HF).trans (if_neg h0))
   have HE := hide h0
   clear HF h0
   by_cases h30 : rs.length = 30
   ·have h30i : ((rs.length : Int) == 30) = true := by simp; omega
    have HF2 := hide ((zaa HF1).trans (if_pos h30))
    clear HF1 h30
    go_wp2_with fail
    go_region
    all_goals
     go_wp2_with fail
     obtain ⟨q0, q1⟩ := zmy r0 r1 (.slice none 0 0) (.slice none 0 0)
     refine bodyPost_ret (v := .tuple #[.agg #[.slice none 0 0, .slice none 0 0], .int .i64 (zae s p).2.1, .bool false]) (by simp [results, Tryz.results45, go_sem, q0, q1]) rfl ?_
     rw [zaa HF2]
     refine ⟨zar (zaa HI).below ((zfh wr w.heap.size (.slice none 0 0) (.slice none 0 0)).drew) (by omega) (by simp), fun _ => rfl, fun e => (by cases e)⟩
   ·have h30i : ((rs.length : Int) == 30) = false := by simp; omega
    have HF2 := hide ((zaa HF1).trans (if_neg h30))
    have hrl : rs.length < 30 := by omega
    have HQ := hide ((zaa HI).num rs.length)
    clear HF1 h30
    go_wp2_with fail
    refine (prule_any _ w1.heap.size s p rs.length _ ms (zaa HQ).rdr (zaa HQ).men (by omega) hpl hs).mono ?_
    rintro e w2 ⟨x, a, n, c, a', n', c', mv', rfl, hk2, hr2, hat2, hyes2⟩
    clear c0 c1 c2 c3 c4 c5 fz r0 r1 f0 f1
    have hw2 := hk2.size
    rw [World.size_setCell] at hw2
    cases hP : (zb2 s rs.length p (ms.map (·.1))).1 with
    | false =>
     have HF3 := hide ((zaa HF2).trans (if_neg (by rw [hP]; decide)))
     have hq2 : w2.heap[w.heap.size]? = some (.cells #[.slice none 0 0, .slice none 0 0] 100 (0, 0)) := za1 (zaa HQ).res hk2 (fun x hx => by
      rcases List.mem_cons.1 hx with rfl | hx
      ·exact .inl (by omega)
      ·exact .inr (zaz (zaa HQ).men.row (by decide) x hx))
     have hbel : Below w.heap.size w w2 := zar (zaa HQ).below hk2 (by simp; omega) (fun x hx => by
      rcases List.mem_cons.1 hx with rfl | hx
      ·omega
      ·have := ((zaa HQ).men.row.lt x (by simpa using hx)).1; omega)
     have ka := (Kept.refl [] w2).alloc (Obj.cells #[Value.string x, .slice a n c, .slice a' n' c'] 123)
     obtain ⟨hlt, c0, c1, c2, c3, c4, c5, fz⟩ := hr2.kept ka (by simp)
     obtain ⟨r0, f0⟩ := zab (za1 hq2 ka (by simp)) 0
     obtain ⟨r1, f1⟩ := zab (za1 hq2 ka (by simp)) 1
     have HB := hide hbel
     clear hyes2 hat2 hk2 hr2 HF2 hP HQ HI hq2 ka hbel
     go_wp2_with fail
     go_region
     all_goals
      go_wp2_with fail
      obtain ⟨q0, q1⟩ := zmy r0 r1 (.slice none 0 0) (.slice none 0 0)
      refine bodyPost_ret (v := .tuple #[.agg #[.slice none 0 0, .slice none 0 0], .int .i64 (zae s (zb2 s rs.length p (ms.map (·.1))).2.1).2.1, .bool false]) (by simp [results, Tryz.results45, go_sem, q0, q1]) rfl ?_
      rw [zaa HF3]
      refine ⟨zar ((zaa HB).alloc (by omega) _) ((zfh _ w.heap.size (.slice none 0 0) (.slice none 0 0)).drew) (by simp; omega) (by simp), fun _ => rfl, fun e => (by cases e)⟩
    | true =>
     have HF3 := hide ((zaa HF2).trans (if_pos hP))
     obtain ⟨bs, ms', rfl, hm2, hmm2, hml2, ht2, hl2, hbs2, hbl2, hp2⟩ := hyes2 hP
     have hQ2 := (zaa HQ).rule hk2 hr2 hp2 hm2
     have hin : PRIn w2 (w1.heap.size + 1) ⟨(zb2 s rs.length p (ms.map (·.1))).2.2.1, .slice a n c, bs, .slice a' n' c'⟩ := ⟨zaf ht2 (by simp; omega), hl2.low (by simp; omega), hbs2⟩
     have hownA := hQ2.rules.row
     have HQ2 := hide hQ2
     have HIN := hide hin
     have HMM := hide hmm2
     clear hyes2 hat2 hk2 hr2 hm2 ht2 hl2 hbs2 hQ2 hin HF2 hP HQ HI hmm2
     go_wp2_with (at_builtin; refine wpList_append_own _ rfl _ _ 75 rfl (w1.heap.size + 1) 123 i0 _ 3 64 Tryz.underlying75 hi hz0 hz1 hz2 rfl (by decide) _ _ _ rfl ((hownA.alloc _).alloc _) ⟨w2.heap.size + 1, 0, none⟩ 1 1 (PR.mk (zb2 s rs.length p (ms.map (·.1))).2.2.1 (.slice a n c) bs (.slice a' n' c')).cells rfl rfl (pr_cell w2 _ (PR.mk (zb2 s rs.length p (ms.map (·.1))).2.2.1 (.slice a n c) bs (.slice a' n' c'))) (pr_one _ _ _ _ _ _ _ _) (by unfold maxLen; omega) (by omega) (by simp; omega) ?_)
     intro v5 w5 hown5 hg5 hne5
     clear hne5
     obtain ⟨a5, cap5, rfl⟩ := zac hown5
     have hQ5 := (zaa HQ2).append (((Kept.refl [] w2).alloc _).alloc _) (zaa HIN) hown5 hg5
     have HQ5 := hide hQ5
     clear hown5 hg5 hownA hQ5 HQ2 HIN
     go_wp2_with fail
     go_roundg (31 - (rs.length + 1))
     case measure => omega
     case rel => exact ⟨_, ms', _, _, _, by simp; omega, by simp, by simp; omega, zaa HQ5, by rw [zaa HF3, zaa HMM]; simp⟩
end
end Go.Proofs.YtldkpahaocjdpaaGreat
