/-
  Plain: the program's three checks answer as the reference's; so do both Loads.
-/
import Derived.Test.YtldkpahaocjdpaaGreatLoadsT45
import Derived.Test.YtldkpahaocjdpaaGreatLoadsT46
namespace Go.Proofs.YtldkpahaocjdpaaGreat

/-! ### arity -/
theorem text_flat {n : Nat} {rs : List RRule} {ms : List PMen} (h : TextRel n rs ms) : ∃ Q : List (RAtom × PMen), Q.map (·.1) = rs.flatMap RRule.atoms ∧ Q.map (·.2) = ms ∧ ∀ x ∈ Q, ∃ i, MenRel i x.1 x.2 := by
  induction h with
  | nil n => exact ⟨[], rfl, rfl, by simp⟩
  | cons h t ih =>
    obtain ⟨q, q1, q2, q3⟩ := h
    obtain ⟨Q, Q1, Q2, Q3⟩ := ih
    refine ⟨q ++ Q, by simp [q1, Q1], by simp [q2, Q2], fun x hx => ?_⟩
    rcases List.mem_append.1 hx with hx | hx
    · exact ⟨_, q3 x hx⟩
    · exact Q3 x hx

theorem parity_eq : ∀ (Q : List (RAtom × PMen)) (ps : List (ByteArray × Nat)), (∀ x ∈ Q, ∃ i, MenRel i x.1 x.2) → parity (Q.map (·.2)) ps = (meetAll (Q.map (·.1)) ps).1
  | [], ps, _ => rfl
  | x :: r, ps, h => by
    obtain ⟨i, hx⟩ := h x List.mem_cons_self
    have ih := fun ps' => parity_eq r ps' (fun y hy => h y (List.mem_cons_of_mem _ hy))
    have e1 : x.2.ts.length = x.1.terms.length := by rw [hx.ts]; simp
    simp only [List.map_cons, parity, meetAll]
    rw [hx.pd, e1, ih, hx.place]
    split <;> rfl

/-! ### the first of a list -/
def firstI {α : Type} (F : α → Int) : List α → Int
  | [] => -1
  | x :: r => if 0 ≤ F x then F x else firstI F r

theorem first_append {α : Type} (F : α → Int) (b : List α) : ∀ (a : List α), firstI F (a ++ b) = if 0 ≤ firstI F a then firstI F a else firstI F b
  | [] => by simp [firstI]
  | x :: r => by
    rw [List.cons_append, firstI, firstI, first_append F b r]
    by_cases h : 0 ≤ F x
    · simp [h]
    · simp [h]
theorem first_ge {α : Type} (F : α → Int) : ∀ (a : List α), -1 ≤ firstI F a
  | [] => by simp [firstI]
  | x :: r => by
    have := first_ge F r
    unfold firstI; split <;> omega

theorem text_first {n : Nat} {rs : List RRule} {ms : List PMen} (h : TextRel n rs ms) (F : PMen → Int) (G : RRule → Int) : (∀ i R ms', rs[i]? = some R → Men (n + i) R.atoms ms' → firstI F ms' = G R) → firstI F ms = firstI G rs := by
  induction h with
  | nil n => intro _; rfl
  | @cons n R rs ms ms' h t ih =>
    intro hG
    have h1 := hG 0 R ms rfl h
    have h2 := ih (fun i R' ms'' hi hm => hG (i + 1) R' ms'' (by simpa using hi) (by
      have e : n + (i + 1) = n + 1 + i := by omega
      rw [e]; exact hm))
    rw [first_append, h1, h2, firstI]

theorem men_first {i : Nat} {l : List RAtom} {ms : List PMen} (h : Men i l ms) (F : PMen → Int) (G : RAtom → Int) (hG : ∀ A ∈ l, ∀ M, MenRel i A M → F M = G A) : firstI F ms = firstI G l := by
  obtain ⟨q, rfl, rfl, q3⟩ := h
  induction q with
  | nil => rfl
  | cons x r ih =>
    have h1 := hG x.1 (by simp) x.2 (q3 x List.mem_cons_self)
    have h2 := ih (fun A hA M hM => hG A (List.mem_cons_of_mem _ hA) M hM) (fun y hy => q3 y (List.mem_cons_of_mem _ hy))
    simp only [List.map_cons, firstI, h1, h2]

/-! ### loose variables -/
theorem has_eq (v : ByteArray) (l : List RTerm) : hasV v (l.map tmOf) = l.any (isVarB v) := by
  unfold hasV
  rw [List.any_map]
  rfl
theorem binds_eq (v : ByteArray) (body : List RAtom) : bindsV v (body.map litOf) = saidB v body := by
  unfold bindsV saidB
  induction body with
  | nil => rfl
  | cons A r ih =>
    rw [List.map_cons, List.filter_cons, List.any_cons, ← ih]
    cases hn : A.no with
    | true => simp [litOf, hn, saidA]
    | false => simp [litOf, hn, saidA, has_eq]

theorem loose_eq (body : List RAtom) (pl : Nat → Nat) : ∀ (l : List RTerm) (k : Nat), (∀ i (h : i < l.length), pl (k + i) = (l[i]).at_) → (match looseIx (body.map litOf) (l.map tmOf) k with | some i => (pl i : Int) | none => -1) = looseI body l
  | [], k, _ => rfl
  | t :: r, k, h => by
    have ih := loose_eq body pl r (k + 1) (fun i hi => by
      have := h (i + 1) (by simpa using hi)
      rw [show k + 1 + i = k + (i + 1) by omega, this]; simp)
    simp only [List.map_cons, looseIx, looseI]
    rw [show (tmOf t).1 = t.isVar from rfl, show (tmOf t).2 = t.text from rfl, binds_eq]
    by_cases hc : (t.isVar && !saidB t.text body) = true
    · rw [if_pos hc, if_pos hc]
      have := h 0 (by simp)
      simp only [Nat.add_zero, List.getElem_cons_zero] at this
      simp only [this]
    · rw [if_neg hc, if_neg hc]; exact ih

theorem loose_pos {body : List RAtom} {A : RAtom} (hA : A ∈ body) (hn : A.no = false) : looseI body A.terms = -1 := by
  have key : ∀ l : List RTerm, (∀ t ∈ l, t ∈ A.terms) → looseI body l = -1 := by
    intro l
    induction l with
    | nil => intro _; rfl
    | cons t r ih =>
      intro h
      rw [looseI, if_neg, ih (fun u hu => h u (List.mem_cons_of_mem _ hu))]
      cases hv : t.isVar with
      | false => simp
      | true =>
        have hs : saidB t.text body = true := by
          unfold saidB
          rw [List.any_eq_true]
          refine ⟨A, hA, ?_⟩
          unfold saidA
          rw [hn]
          simp only [Bool.not_false, Bool.true_and]
          rw [List.any_eq_true]
          exact ⟨t, h t List.mem_cons_self, by simp [isVarB, hv]⟩
        simp [hs]
  exact key A.terms (fun t h => h)

theorem looseBody_first (body : List RAtom) : ∀ l : List RAtom, (∀ A ∈ l, A ∈ body) → looseBody body l = firstI (fun A => looseI body A.terms) l
  | [], _ => rfl
  | A :: r, h => by
    rw [looseBody, firstI, ← looseBody_first body r (fun B hB => h B (List.mem_cons_of_mem _ hB))]
    cases hn : A.no with
    | true => simp
    | false =>
      rw [loose_pos (h A List.mem_cons_self) hn]
      simp
theorem unsafe_first : ∀ rs : List RRule, unsafeI rs = firstI looseRule rs
  | [] => rfl
  | R :: r => by rw [unsafeI, firstI, unsafe_first r]

def unbF (rs : List PRule) (M : PMen) : Int := match looseIx (bodyAt rs M.num) M.ts 0 with | some i => (M.pl i : Int) | none => -1
theorem unbound_first (rs : List PRule) : ∀ ms : List PMen, unboundI rs ms = firstI (unbF rs) ms
  | [] => rfl
  | M :: r => by
    rw [unboundI, firstI, ← unbound_first rs r]
    unfold unbF
    cases looseIx (bodyAt rs M.num) M.ts 0 with
    | none => simp
    | some i => simp

theorem unbound_eq {rs : List RRule} {ms : List PMen} (h : TextRel 0 rs ms) : unboundI (rs.map pruleOf) ms = unsafeI rs := by
  rw [unbound_first, unsafe_first]
  refine text_first h _ _ (fun i R ms' hi hm => ?_)
  rw [Nat.zero_add] at hm
  have hb : bodyAt (rs.map pruleOf) i = R.body.map litOf := by
    unfold bodyAt
    rw [List.getElem?_map, hi]
    rfl
  rw [men_first hm (unbF (rs.map pruleOf)) (fun A => looseI R.body A.terms) (fun A _ M hM => ?_)]
  · unfold RRule.atoms looseRule
    rw [firstI, looseBody_first R.body R.body (fun A hA => hA)]
  · unfold unbF
    rw [hM.num, hb, hM.ts]
    exact loose_eq R.body M.pl A.terms 0 (fun i hi => by rw [Nat.zero_add]; exact hM.pl i hi)

/-! ### cycles -/
theorem ix_name (nm : ByteArray) : ∀ (l : List (ByteArray × Nat)) (k : Nat), 0 ≤ ixFrom nm l k → (l.getD (ixFrom nm l k - k).toNat (nm, 0)).1 = nm
  | [], k, h => by simp [ixFrom] at h
  | x :: r, k, h => by
    unfold ixFrom at h ⊢
    by_cases hx : (x.1.toList == nm.toList) = true
    · rw [if_pos hx]
      simp
      exact bytes_eq.1 hx
    · rw [if_neg hx] at h ⊢
      have ih := ix_name nm r (k + 1) h
      have := (ix_lt nm r (k + 1) h).1
      have e : (ixFrom nm r (k + 1) - (k : Int)).toNat = (ixFrom nm r (k + 1) - ((k + 1 : Nat) : Int)).toNat + 1 := by omega
      rw [e]
      simpa using ih

def nmOf (ps : List (ByteArray × Nat)) (i : Nat) : ByteArray := (ps.getD i ({ data := #[] }, 0)).1
theorem nm_ix {ps : List (ByteArray × Nat)} {x : ByteArray} (h : 0 ≤ predIx ps x) : nmOf ps (ixOf ps x) = x := by
  have h1 := ix_name x ps 0 h
  have hlt := predIx_lt h
  unfold nmOf ixOf
  rw [show ixFrom x ps 0 = predIx ps x from rfl] at h1
  simp only [Int.natCast_zero, Int.sub_zero] at h1
  rw [List.getD_eq_getElem?_getD, List.getElem?_eq_getElem hlt] at h1 ⊢
  simpa using h1
theorem ix_same {ps : List (ByteArray × Nat)} {a b : ByteArray} (ha : 0 ≤ predIx ps a) (hb : 0 ≤ predIx ps b) : (predIx ps a == predIx ps b) = (a.toList == b.toList) := by
  rw [Bool.eq_iff_iff]
  constructor
  · intro h
    have h1 : predIx ps a = predIx ps b := by simpa using h
    have h2 := nm_ix ha
    rw [show ixOf ps a = ixOf ps b by unfold ixOf; rw [h1], nm_ix hb] at h2
    rw [h2]; simp
  · intro h
    rw [bytes_eq.1 h]; simp

theorem mem_edges {rs : List RRule} {x y : ByteArray} : (x, y) ∈ edgesP (rs.map pruleOf) ↔ ∃ R ∈ rs, ∃ A ∈ R.body, x = R.head.pred ∧ y = A.pred := by
  unfold edgesP edgesB
  constructor
  · intro h
    obtain ⟨P, hP, h⟩ := List.mem_flatMap.1 h
    obtain ⟨R, hR, rfl⟩ := List.mem_map.1 hP
    obtain ⟨L, hL, h⟩ := List.mem_map.1 h
    obtain ⟨A, hA, rfl⟩ := List.mem_map.1 hL
    injection h with h1 h2
    exact ⟨R, hR, A, hA, h1.symm, h2.symm⟩
  · rintro ⟨R, hR, A, hA, rfl, rfl⟩
    exact List.mem_flatMap.2 ⟨pruleOf R, List.mem_map_of_mem hR, List.mem_map.2 ⟨litOf A, List.mem_map_of_mem hA, rfl⟩⟩

theorem edgesR_sound {ps : List (ByteArray × Nat)} {h : Nat} : ∀ (l : List RAtom) {M : Nat → Nat → Bool} {a b : Nat}, edgesR ps h l M a b = true → M a b = true ∨ (a = h ∧ ∃ A ∈ l, b = ixOf ps A.pred)
  | [], M, a, b, hm => .inl hm
  | A :: r, M, a, b, hm => by
    rcases edgesR_sound r hm with h1 | ⟨h1, B, hB, h2⟩
    · unfold upd at h1
      simp at h1
      rcases h1 with ⟨h1, h2⟩ | h1
      · exact .inr ⟨h1, A, List.mem_cons_self, h2⟩
      · exact .inl h1
    · exact .inr ⟨h1, B, List.mem_cons_of_mem _ hB, h2⟩
theorem edges_sound {ps : List (ByteArray × Nat)} : ∀ (l : List RRule) {M : Nat → Nat → Bool} {a b : Nat}, edges ps l M a b = true → M a b = true ∨ ∃ R ∈ l, a = ixOf ps R.head.pred ∧ ∃ A ∈ R.body, b = ixOf ps A.pred
  | [], M, a, b, hm => .inl hm
  | R :: r, M, a, b, hm => by
    rcases edges_sound r hm with h1 | ⟨R', hR, h1⟩
    · rcases edgesR_sound R.body h1 with h2 | ⟨h2, A, hA, h3⟩
      · exact .inl h2
      · exact .inr ⟨R, List.mem_cons_self, h2, A, hA, h3⟩
    · exact .inr ⟨R', List.mem_cons_of_mem _ hR, h1⟩

theorem fwM_sound (P : Nat → Nat → Prop) (hP : ∀ a b c, P a b → P b c → P a c) (n : Nat) : ∀ (d m : Nat) (M : Nat → Nat → Bool), n - m = d → (∀ a b, M a b = true → P a b) → ∀ a b, fwM n M m a b = true → P a b := by
  intro d
  induction d with
  | zero =>
    intro m M hd hM a b h
    rw [fwM_end (by omega)] at h
    exact hM a b h
  | succ d ih =>
    intro m M hd hM a b h
    rw [fwM_go (by omega)] at h
    refine ih (m + 1) _ (by omega) (fun x y hxy => ?_) a b h
    rw [fwI_eq n m (n - 0) 0 M rfl] at hxy
    simp at hxy
    rcases hxy with h1 | h1
    · exact hM x y h1
    · exact hP x m y (hM x m h1.1.2) (hM m y h1.2)

theorem reach_trans {E : List Edge} {a b c : ByteArray} (h : Reach E a b) (t : Reach E b c) : Reach E a c := by
  induction t with
  | one h1 => exact .next h h1
  | next _ h1 ih => exact .next ih h1

theorem hangs_eq {ps : List (ByteArray × Nat)} {rs : List RRule} (hall : AllIn ps (rs.flatMap RRule.atoms)) {a b : ByteArray} (ha : 0 ≤ predIx ps a) (hb : 0 ≤ predIx ps b) : hangsP (edgesP (rs.map pruleOf)) a b = hangsM ps rs (ixOf ps a) (ixOf ps b) := by
  have hhead : ∀ R ∈ rs, 0 ≤ predIx ps R.head.pred := fun R hR => hall _ (List.mem_flatMap.2 ⟨R, hR, List.mem_cons_self⟩)
  have hbody : ∀ R ∈ rs, ∀ A ∈ R.body, 0 ≤ predIx ps A.pred := fun R hR A hA => hall _ (List.mem_flatMap.2 ⟨R, hR, List.mem_cons_of_mem _ hA⟩)
  rw [Bool.eq_iff_iff]
  unfold hangsP
  simp only [decide_eq_true_eq]
  constructor
  · intro h
    have key : ∀ y, Reach (edgesP (rs.map pruleOf)) a y → hangsM ps rs (ixOf ps a) (ixOf ps y) = true ∧ 0 ≤ predIx ps y := by
      intro y hy
      induction hy with
      | one h1 =>
        obtain ⟨R, hR, A, hA, rfl, rfl⟩ := mem_edges.1 h1
        exact ⟨hangs_edge hR hA, hbody R hR A hA⟩
      | next t h1 ih =>
        obtain ⟨R, hR, A, hA, rfl, rfl⟩ := mem_edges.1 h1
        exact ⟨hangs_trans (predIx_lt ha) (predIx_lt ih.2) (predIx_lt (hbody R hR A hA)) ih.1 (hangs_edge hR hA), hbody R hR A hA⟩
    exact (key b h).1
  · intro h
    have := fwM_sound (fun i j => Reach (edgesP (rs.map pruleOf)) (nmOf ps i) (nmOf ps j)) (fun _ _ _ => reach_trans) ps.length ps.length 0 (edges ps rs (fun _ _ => false)) rfl (fun i j hij => ?_) _ _ h
    · rw [nm_ix ha, nm_ix hb] at this
      exact this
    · rcases edges_sound rs hij with h1 | ⟨R, hR, rfl, A, hA, rfl⟩
      · cases h1
      · simp only [nm_ix (hhead R hR), nm_ix (hbody R hR A hA)]
        exact .one (mem_edges.2 ⟨R, hR, A, hA, rfl, rfl⟩)

theorem cycBody_first (ps : List (ByteArray × Nat)) (H : Nat → Nat → Bool) (hd : ByteArray) : ∀ l : List RAtom, cycBody ps H hd l = firstI (fun A => if cycB ps H hd A then (A.noAt : Int) else -1) l
  | [] => rfl
  | A :: r => by
    rw [cycBody, firstI, ← cycBody_first ps H hd r]
    by_cases h : cycB ps H hd A = true
    · simp [h]
    · simp [h]
theorem cycleI_first (ps : List (ByteArray × Nat)) (H : Nat → Nat → Bool) : ∀ rs : List RRule, cycleI ps H rs = firstI (fun R => cycBody ps H R.head.pred R.body) rs
  | [] => rfl
  | R :: r => by rw [cycleI, firstI, cycleI_first ps H r]
theorem cycleP_first (rs : List PRule) : ∀ ms : List PMen, cycleP rs ms = firstI (fun M => if cycM rs M then (M.start : Int) else -1) ms
  | [] => rfl
  | M :: r => by
    rw [cycleP, firstI, ← cycleP_first rs r]
    by_cases h : cycM rs M = true
    · simp [h]
    · simp [h]

theorem cycle_eq {ps : List (ByteArray × Nat)} {rs : List RRule} {ms : List PMen} (h : TextRel 0 rs ms) (hall : AllIn ps (rs.flatMap RRule.atoms)) (hno : ∀ R ∈ rs, R.head.no = false) : cycleP (rs.map pruleOf) ms = cycleI ps (hangsM ps rs) rs := by
  rw [cycleP_first, cycleI_first]
  refine text_first h _ _ (fun i R ms' hi hm => ?_)
  rw [Nat.zero_add] at hm
  have hR : R ∈ rs := List.mem_of_getElem? hi
  have hh : headAt (rs.map pruleOf) i = R.head.pred := by
    unfold headAt
    rw [List.getElem?_map, hi]
    rfl
  have hp := hall R.head (List.mem_flatMap.2 ⟨R, hR, List.mem_cons_self⟩)
  rw [men_first hm _ (fun A => if cycB ps (hangsM ps rs) R.head.pred A then (A.noAt : Int) else -1) (fun A hA M hM => ?_)]
  · unfold RRule.atoms
    rw [firstI, cycBody_first]
    have : cycB ps (hangsM ps rs) R.head.pred R.head = false := by unfold cycB; rw [hno R hR]; rfl
    simp [this]
  · have hpa := hall A (List.mem_flatMap.2 ⟨R, hR, hA⟩)
    have e : cycM (rs.map pruleOf) M = cycB ps (hangsM ps rs) R.head.pred A := by
      unfold cycM cycB
      rw [hM.num, hh, hM.neg, hM.pd, hangs_eq hall hpa hp, ix_same hpa hp]
    simp only [e]
    by_cases hc : cycB ps (hangsM ps rs) R.head.pred A = true
    · rw [if_pos hc, if_pos hc]
      have : A.no = true := by unfold cycB at hc; simp at hc; exact hc.1
      rw [hM.start this]
    · rw [if_neg hc, if_neg hc]

theorem rules_head {s : ByteArray} (f : Nat) : ∀ {p : Nat} {bd : Int} {l : List RRule}, (∀ R ∈ l, R.head.no = false) → ∀ R ∈ (rulesS s f p bd l).1, R.head.no = false := by
  induction f with
  | zero => intro p bd l h; exact h
  | succ f ih =>
    intro p bd l h
    rw [rulesS]
    split
    · refine ih (fun R hR => ?_)
      rcases List.mem_append.1 hR with hR | hR
      · exact h R hR
      · simp at hR; subst hR; rfl
    · exact h

/-- BOTH LOADS ANSWER THE SAME. -/
theorem load_eq (s : ByteArray) : pload s = refLoad s := by
  unfold pload refLoad
  by_cases c0 : 800 < s.size
  · rw [if_pos c0, if_pos c0]
  · rw [if_neg c0, if_neg c0]
    cases c1 : (pparsed s).1 with
    | false =>
      have h := (parsed_eq s).2 c1
      rw [if_pos rfl, h, if_pos (by omega)]
    | true =>
      obtain ⟨h1, h2, h3⟩ := (parsed_eq s).1 c1
      rw [if_neg (show ¬ (true = false) by decide), h1, if_neg (show ¬ ((0 : Int) ≤ -1) by decide), h2]
      obtain ⟨Q, Q1, Q2, Q3⟩ := text_flat h3
      have ea : parity (pparsed s).2.2.2 [] = (predsOf s).1 := by
        unfold predsOf
        rw [← Q1, ← Q2]
        exact parity_eq Q [] Q3
      have eu := unbound_eq h3
      unfold faultP
      rw [ea, eu]
      by_cases c2 : 0 ≤ (predsOf s).1
      · simp [c2]
      · have hall : AllIn (predsOf s).2 ((parsed s).1.flatMap RRule.atoms) := allIn_of_meet _ c2
        have ec := cycle_eq h3 hall (rules_head 31 (by simp))
        rw [ec]
        rw [if_neg c2, if_neg c2]
        by_cases c3 : 0 ≤ unsafeI (parsed s).1
        · simp [c3]
        · rw [if_neg c3, if_neg c3]
          by_cases c4 : 0 ≤ cycleI (predsOf s).2 (hangsM (predsOf s).2 (parsed s).1) (parsed s).1
          · simp [c4]
          · simp [c4]
end Go.Proofs.YtldkpahaocjdpaaGreat
