/-
  Plain: matching. What the reference's environments and texts are to the program's bindings and things.
  Plain: what a rule says, in the reference's words and in the program's.
  Plain: what the rules say of what is known, and is not known yet: the same things in the reference and in the program.
-/
import Derived.Test.YtldkpahaocjdpaaGreatQueriesT30
import Derived.Test.YtldkpahaocjdpaaGreatQueriesT36
import Derived.Test.YtldkpahaocjdpaaGreatQueriesT43
set_option maxHeartbeats 16000000
namespace Go.Proofs.YtldkpahaocjdpaaGreat
section
def pa (A : RAtom) : PAtm := ⟨A.pred, A.terms.map tmOf⟩
def thA (A : RAtom) : Th := (A.pred, A.terms.map (·.text))
theorem ziz (n : ByteArray) : ∀ e : Env, zji e n = zhb e n
 | [] => rfl
 | x :: r => by
  have := ziz n r
  unfold zhb at this ⊢
  rw [zji, pAt]
  split
  ·rfl
  ·exact this
theorem zql (e : Env) (t : RTerm) : zdu e t = zit e (tmOf t) := by
 unfold zdu zit tmOf
 simp only
 split
 ·exact ziz _ _
 ·rfl
theorem thA_of (e : Env) (A : RAtom) : thA (ofA e A) = zc9 e (pa A) := by
 unfold thA ofA zc9 pa
 simp only [List.map_map]
 refine Prod.ext rfl ?_
 refine List.map_congr_left fun t _ => ?_
 exact zql e t
theorem zl9 : ∀ (ts us : List (Bool × ByteArray)) (i : Nat), ts.map (·.2) = us.map (·.2) → zbh ts i = zbh us i
 | [], [], _, _ => rfl
 | [], _ :: _, _, h => by cases h
 | _ :: _, [], _, h => by cases h
 | t :: ts, u :: us, i, h => by
  rw [List.map_cons, List.map_cons] at h
  injection h with h1 h2
  rw [zbh, zbh, h1, zl9 ts us (i + 1) h2]
theorem atomT_snd {pd : ByteArray} {ts us : List (Bool × ByteArray)} (h : ts.map (·.2) = us.map (·.2)) : zet pd ts = zet pd us := by
 have hl : ts.length = us.length := by have := congrArg List.length h; simpa using this
 unfold zet
 rw [zl9 ts us 0 h, hl]
theorem zqp (A : RAtom) : zb4 A = zc6 (thA A) := by
 unfold zb4 zc6 zdb thA zb7
 rw [atomT_snd (us := List.map (fun x => (false, x)) (List.map (·.text) A.terms)) (by simp [List.map_map, tmOf, Function.comp_def])]
def SepB (c : UInt8) : Prop := c = 40 ∨ c = 41 ∨ c = 44
theorem zip : ∀ {a b x y : List UInt8}, (∀ c ∈ a, ¬ SepB c) → (∀ c ∈ b, ¬ SepB c) → (∀ c, x.head? = some c → SepB c) → (∀ c, y.head? = some c → SepB c) → a ++ x = b ++ y → a = b ∧ x = y
 | [], [], _, _, _, _, _, _, h => ⟨rfl, h⟩
 | [], c :: b, x, y, _, hb, hx, _, h => by
  rw [List.nil_append, List.cons_append] at h
  exact absurd (hx c (by rw [h]; rfl)) (hb c List.mem_cons_self)
 | c :: a, [], x, y, ha, _, _, hy, h => by
  rw [List.nil_append, List.cons_append] at h
  exact absurd (hy c (by rw [← h]; rfl)) (ha c List.mem_cons_self)
 | c :: a, d :: b, x, y, ha, hb, hx, hy, h => by
  rw [List.cons_append, List.cons_append] at h
  injection h with h1 h2
  obtain ⟨e1, e2⟩ := zip (fun c hc => ha c (List.mem_cons_of_mem _ hc)) (fun c hc => hb c (List.mem_cons_of_mem _ hc)) hx hy h2
  exact ⟨by rw [h1, e1], e2⟩
theorem WordT.sep {x : ByteArray} (h : WordT x) : ∀ c ∈ x.data.toList, ¬ SepB c := fun c hc => by
 have := h.no c hc
 unfold SepB
 simp [this]
theorem data_inj {x y : ByteArray} (h : x.data.toList = y.data.toList) : x = y := by
 cases x; cases y
 simp only at h
 rw [Array.toList_inj.1 h]
theorem zkg (ts : List (Bool × ByteArray)) (i : Nat) : ∀ c, (zbh ts i ++ [41]).head? = some c → SepB c := by
 intro c h
 cases ts with
 | nil => simp [zbh] at h; exact .inr (.inl h.symm)
 | cons t r =>
  rw [zbh] at h
  simp only [List.cons_append, List.head?_cons, Option.some.injEq] at h
  rw [← h]
  split
  ·exact .inl rfl
  ·exact .inr (.inr rfl)
theorem zob : ∀ (ts us : List (Bool × ByteArray)) (i : Nat), (∀ t ∈ ts, WordT t.2) → (∀ t ∈ us, WordT t.2) → zbh ts i ++ [41] = zbh us i ++ [41] → ts.map (·.2) = us.map (·.2)
 | [], [], _, _, _, _ => rfl
 | [], u :: us, i, _, _, h => by
  rw [zbh, zbh, List.cons_append] at h
  simp only [List.nil_append] at h
  injection h with h1 _
  split at h1 <;> exact absurd h1 (by decide)
 | t :: ts, [], i, _, _, h => by
  rw [zbh, zbh, List.cons_append] at h
  simp only [List.nil_append] at h
  injection h with h1 _
  split at h1 <;> exact absurd h1 (by decide)
 | t :: ts, u :: us, i, ht, hu, h => by
  rw [zbh, zbh, List.cons_append, List.cons_append] at h
  injection h with _ h2
  rw [List.append_assoc, List.append_assoc] at h2
  obtain ⟨e1, e2⟩ := zip (ht t List.mem_cons_self).sep (hu u List.mem_cons_self).sep (zkg _ _) (zkg _ _) h2
  rw [List.map_cons, List.map_cons, data_inj e1, zob ts us (i + 1) (fun x hx => ht x (List.mem_cons_of_mem _ hx)) (fun x hx => hu x (List.mem_cons_of_mem _ hx)) e2]
structure ThW (t : Th) : Prop where
 pd : WordT t.1
 ts : ∀ x ∈ t.2, WordT x
theorem zkw (t : Th) : (zb7 t).map (·.2) = t.2 := by unfold zb7; simp [List.map_map, Function.comp_def]
theorem ThW.terms {t : Th} (h : ThW t) : ∀ x ∈ zb7 t, WordT x.2 := by
 intro x hx
 obtain ⟨y, hy, rfl⟩ := List.mem_map.1 hx
 exact h.ts y hy
theorem tail_sep (ts : List (Bool × ByteArray)) : ∀ c, (zbh ts 0 ++ if ts.length = 0 then [] else [41]).head? = some c → SepB c := by
 intro c h
 cases ts with
 | nil => simp [zbh] at h
 | cons t r =>
  rw [if_neg (by simp)] at h
  exact zkg _ _ c h
theorem zmh {t u : Th} (ht : ThW t) (hu : ThW u) (h : zc6 t = zc6 u) : t = u := by
 have h' : zet t.1 (zb7 t) = zet u.1 (zb7 u) := by
  have := congrArg (fun x : ByteArray => x.data.toList) h
  simpa [zc6] using this
 unfold zet at h'
 obtain ⟨e1, e2⟩ := zip ht.pd.sep hu.pd.sep (tail_sep _) (tail_sep _) h'
 have e3 : (zb7 t).map (·.2) = (zb7 u).map (·.2) := by
  cases hT : zb7 t with
  | nil =>
   cases hU : zb7 u with
   | nil => rfl
   | cons x r => rw [hT, hU] at e2; simp [zbh] at e2
  | cons y q =>
   cases hU : zb7 u with
   | nil => rw [hT, hU] at e2; simp [zbh] at e2
   | cons x r =>
    rw [hT, hU, if_neg (by simp), if_neg (by simp)] at e2
    have h1 := ht.terms
    have h2 := hu.terms
    rw [hT] at h1
    rw [hU] at h2
    exact zob _ _ 0 h1 h2 e2
 rw [zkw, zkw] at e3
 exact Prod.ext (data_inj e1) e3
def EnvW (e : PEnv) : Prop := ∀ p ∈ e, WordT p.2
theorem pAt_word {e : PEnv} (h : EnvW e) {v x : ByteArray} (hx : pAt e v = some x) : WordT x := by
 induction e with
 | nil => cases hx
 | cons p r ih =>
  rw [pAt] at hx
  split at hx
  ·cases hx; exact h p List.mem_cons_self
  ·exact ih (fun q hq => h q (List.mem_cons_of_mem _ hq)) hx
theorem EnvW.snoc {e : PEnv} (h : EnvW e) {v x : ByteArray} (hx : WordT x) : EnvW (e ++ [(v, x)]) := by
 intro p hp
 rcases List.mem_append.1 hp with hp | hp
 ·exact h p hp
 ·rw [List.mem_singleton.1 hp]; exact hx
theorem WordT.list {x : ByteArray} (h : WordT x) : (x.toList == []) = false := by
 have := h.ne
 have e : x.toList ≠ [] := by
  rw [ByteArray.toList_eq]
  intro e
  have := congrArg List.length e
  rw [zc0, List.length_nil] at this
  omega
 simp [e]
theorem zha : ∀ (ts us : List RTerm) (e : Env), ts.length = us.length → EnvW e → (∀ t ∈ ts, WordT t.text) → (∀ u ∈ us, WordT u.text) → zci e ts us = pmTs e (ts.map tmOf) (us.map (·.text))
 | [], [], e, _, _, _, _ => by rw [zci]; rfl; simp
 | [], _ :: _, _, h, _, _, _ => by cases h
 | _ :: _, [], _, h, _, _, _ => by cases h
 | t :: ts, u :: us, e, h, he, ht, hu => by
  have hl : ts.length = us.length := by simpa using h
  have ht' : ∀ x ∈ ts, WordT x.text := fun x hx => ht x (List.mem_cons_of_mem _ hx)
  have hu' : ∀ x ∈ us, WordT x.text := fun x hx => hu x (List.mem_cons_of_mem _ hx)
  have hut := hu u List.mem_cons_self
  rw [zci, List.map_cons, List.map_cons, pmTs]
  simp only [List.headD_cons, List.tail_cons]
  unfold pmT
  cases hv : t.isVar with
  | true =>
   have e1 : zdu e t = zhb e t.text := by unfold zdu; rw [hv, if_pos rfl]; exact ziz _ _
   simp only [tmOf, hv, if_true]
   rw [e1]
   unfold pmB zhb
   cases hp : pAt e t.text with
   | none =>
    have : ((Option.none : Option ByteArray).getD { data := #[] }).toList == [] := by rw [ByteArray.toList_eq]; rfl
    rw [if_pos this]
    exact zha ts us _ hl (he.snoc hut) ht' hu'
   | some x =>
    have hx := (pAt_word he hp).list
    simp only [Option.getD_some]
    rw [if_neg (by rw [hx]; decide)]
    by_cases c : (x.toList == u.text.toList) = true
    ·rw [if_pos c, if_pos c]; exact zha ts us _ hl he ht' hu'
    ·rw [if_neg c, if_neg c]
  | false =>
   have e1 : zdu e t = t.text := by unfold zdu; rw [hv, if_neg (by decide)]
   simp only [tmOf, hv]
   rw [e1, if_neg (by rw [(ht t List.mem_cons_self).list]; decide)]
   by_cases c : (t.text.toList == u.text.toList) = true
   ·rw [if_pos c, if_neg (by decide), if_pos c]; exact zha ts us _ hl he ht' hu'
   ·rw [if_neg c, if_neg (by decide), if_neg c]
structure AtomG (ps : List (ByteArray × Nat)) (a : PAtm) : Prop where
 w : AtomW a.p a.ts
 num : zbk ps a.p = some a.ts.length
structure ThI (ps : List (ByteArray × Nat)) (t : Th) : Prop where
 w : ThW t
 num : zbk ps t.1 = some t.2.length
 few : t.2.length ≤ 4
theorem zp2 {e : Env} {a th : RAtom} (he : EnvW e) (ha : AtomW (pa a).p (pa a).ts) (ht : ThW (thA th)) (hn : a.pred = th.pred → a.terms.length = th.terms.length) : zch e a th = zc1 e (pa a) (thA th) := by
 unfold zch zc1
 have hb : (a.pred.toList == th.pred.toList) = true ↔ a.pred = th.pred := zce
 by_cases c : (a.pred.toList == th.pred.toList) = true
 ·have hl := hn (hb.1 c)
  rw [if_pos (by rw [c, hl]; simp), show (pa a).p = a.pred from rfl, show Th.p (thA th) = th.pred from rfl, if_pos c]
  refine zha _ _ _ hl he (fun t h => ?_) (fun t h => ht.ts _ (List.mem_map.2 ⟨t, h, rfl⟩))
  exact ha.ts (tmOf t) (List.mem_map.2 ⟨t, h, rfl⟩)
 ·rw [if_neg (by simp only [Bool.and_eq_true]; exact fun h => c h.1), show (pa a).p = a.pred from rfl, show Th.p (thA th) = th.pred from rfl, if_neg c]
end
section
theorem znk (v n u : ByteArray) : ∀ e : PEnv, pAt (e ++ [(v, n)]) u = match pAt e u with | some x => some x | none => if v.toList == u.toList then some n else none
 | [] => by rw [List.nil_append, pAt, pAt]; simp [pAt]
 | x :: r => by
  rw [List.cons_append, pAt, pAt]
  by_cases c : (x.1.toList == u.toList) = true
  ·rw [if_pos c, if_pos c]
  ·rw [if_neg c, if_neg c]; exact znk v n u r
structure Grows (e e' : PEnv) (k : Nat) : Prop where
 w : EnvW e'
 len : e'.length ≤ e.length + k
 ext : ∀ v x, pAt e v = some x → pAt e' v = some x
theorem Grows.refl {e : PEnv} (h : EnvW e) : Grows e e 0 := ⟨h, by omega, fun _ _ h => h⟩
theorem pmT_env {e e' : PEnv} {t : PTerm} {n : ByteArray} (hn : WordT n) (he : EnvW e) (h : pmT e t n = some e') : Grows e e' 1 ∧ (t.1 = true → ∃ x, pAt e' t.2 = some x) := by
 unfold pmT at h
 by_cases hv : t.1 = true
 ·rw [if_pos hv] at h
  unfold pmB at h
  cases hp : pAt e t.2 with
  | none =>
   rw [hp] at h
   cases h
   refine ⟨⟨he.snoc hn, by simp, fun v x hx => by rw [znk, hx]⟩, fun _ => ⟨n, ?_⟩⟩
   rw [znk, hp]
   simp
  | some x =>
   rw [hp] at h
   simp only at h
   split at h
   ·cases h; exact ⟨⟨he, by omega, fun _ _ h => h⟩, fun _ => ⟨x, hp⟩⟩
   ·cases h
 ·rw [if_neg hv] at h
  split at h
  ·cases h; exact ⟨⟨he, by omega, fun _ _ h => h⟩, fun c => absurd c hv⟩
  ·cases h
theorem pmTs_env : ∀ (ts : List PTerm) (ns : List ByteArray) (e e' : PEnv), ts.length = ns.length → (∀ x ∈ ns, WordT x) → EnvW e → pmTs e ts ns = some e' → Grows e e' ts.length ∧ ∀ t ∈ ts, t.1 = true → ∃ x, pAt e' t.2 = some x
 | [], _, e, e', _, _, he, h => by
  rw [pmTs] at h
  cases h
  exact ⟨Grows.refl he, by simp⟩
 | t :: ts, [], _, _, hl, _, _, _ => by cases hl
 | t :: ts, n :: ns, e, e', hl, hn, he, h => by
  rw [pmTs] at h
  simp only [List.headD_cons, List.tail_cons] at h
  cases h1 : pmT e t n with
  | none => rw [h1] at h; cases h
  | some e1 =>
   rw [h1] at h
   simp only at h
   obtain ⟨g1, b1⟩ := pmT_env (hn n List.mem_cons_self) he h1
   obtain ⟨g2, b2⟩ := pmTs_env ts ns e1 e' (by simpa using hl) (fun x hx => hn x (List.mem_cons_of_mem _ hx)) g1.w h
   refine ⟨⟨g2.w, by have := g1.len; have := g2.len; simp; omega, fun v x hx => g2.ext v x (g1.ext v x hx)⟩, fun u hu hv => ?_⟩
   rcases List.mem_cons.1 hu with rfl | hu
   ·obtain ⟨x, hx⟩ := b1 hv; exact ⟨x, g2.ext _ _ hx⟩
   ·exact b2 u hu hv
theorem zl6 {ps : List (ByteArray × Nat)} {e e' : PEnv} {a : PAtm} {t : Th} (ha : AtomG ps a) (ht : ThI ps t) (he : EnvW e) (h : zc1 e a t = some e') : Grows e e' 4 ∧ ∀ t ∈ a.ts, t.1 = true → ∃ x, pAt e' t.2 = some x := by
 unfold zc1 at h
 split at h
 ·rename_i c
  have hp : a.p = t.1 := zce.1 c
  have hl : a.ts.length = t.2.length := by
   have h1 := ha.num
   rw [hp, ht.num] at h1
   exact (Option.some.inj h1).symm
  obtain ⟨g, b⟩ := pmTs_env a.ts t.2 e e' hl ht.w.ts he h
  exact ⟨⟨g.w, by have := g.len; have := ha.w.few; omega, g.ext⟩, b⟩
 ·cases h
theorem zjc {ps : List (ByteArray × Nat)} {K : List (Th × Nat)} (hK : ∀ p ∈ K, ThI ps p.1) : ∀ (pos : List PAtm) (e0 e : PEnv), (∀ a ∈ pos, AtomG ps a) → EnvW e0 → e ∈ zbo K pos e0 → Grows e0 e (4 * pos.length) ∧ ∀ a ∈ pos, ∀ t ∈ a.ts, t.1 = true → ∃ x, pAt e t.2 = some x
 | [], e0, e, _, he, h => by
  rw [zbo] at h
  rw [List.mem_singleton.1 h]
  exact ⟨Grows.refl he, by simp⟩
 | a :: r, e0, e, ha, he, h => by
  rw [zbo] at h
  obtain ⟨p, hp, h⟩ := List.mem_flatMap.1 h
  cases hm : zc1 e0 a p.1 with
  | none => rw [hm] at h; simp at h
  | some e1 =>
   rw [hm] at h
   simp only at h
   obtain ⟨g1, b1⟩ := zl6 (ha a List.mem_cons_self) (hK p hp) he hm
   obtain ⟨g2, b2⟩ := zjc hK r e1 e (fun x hx => ha x (List.mem_cons_of_mem _ hx)) g1.w h
   refine ⟨⟨g2.w, by have := g1.len; have := g2.len; simp; omega, fun v x hx => g2.ext v x (g1.ext v x hx)⟩, fun x hx t ht hv => ?_⟩
   rcases List.mem_cons.1 hx with rfl | hx
   ·obtain ⟨y, hy⟩ := b1 t ht hv; exact ⟨y, g2.ext _ _ hy⟩
   ·exact b2 x hx t ht hv
theorem zpl {ps : List (ByteArray × Nat)} {A : PAtm} (hA : AtomG ps A) {e : PEnv} (he : EnvW e) (hb : ∀ t ∈ A.ts, t.1 = true → ∃ x, pAt e t.2 = some x) : ThI ps (zc9 e A) := by
 refine ⟨⟨hA.w.pd, fun x hx => ?_⟩, ?_, ?_⟩
 ·obtain ⟨t, ht, rfl⟩ := List.mem_map.1 hx
  unfold zit
  split
  ·rename_i hv
   obtain ⟨x, h1⟩ := hb t ht hv
   unfold zhb
   rw [h1]
   exact pAt_word he h1
  ·exact hA.w.ts t ht
 ·show zbk ps A.p = some (A.ts.map (zit e)).length
  rw [List.length_map]; exact hA.num
 ·show (A.ts.map (zit e)).length ≤ 4
  rw [List.length_map]; exact hA.w.few
theorem ThI.ok {ps : List (ByteArray × Nat)} {t : Th} (h : ThI ps t) : ThOk t :=
 ⟨by have := h.w.pd.le; show t.1.size ≤ _; omega, h.few, fun x hx => by have := (h.w.ts x hx).le; omega, fun x hx => (h.w.ts x hx).ne⟩
theorem mem_pos {ls : List (PLit × Value)} {a : PAtm} : a ∈ zdy ls ↔ ∃ x ∈ ls, x.1.neg = false ∧ a = ⟨x.1.pd, x.1.ts⟩ := by
 unfold zdy zc2
 simp only [List.map_map, List.mem_map, List.mem_filter, Function.comp_def, zkc, zcb]
 constructor
 ·rintro ⟨x, ⟨h1, h2⟩, rfl⟩; exact ⟨x, h1, by simpa using h2, rfl⟩
 ·rintro ⟨x, h1, h2, rfl⟩; exact ⟨x, ⟨h1, by simp [h2]⟩, rfl⟩
theorem mem_neg {ls : List (PLit × Value)} {a : PAtm} : a ∈ zg1 ls ↔ ∃ x ∈ ls, x.1.neg = true ∧ a = ⟨x.1.pd, x.1.ts⟩ := by
 unfold zg1 zc2
 simp only [List.map_map, List.mem_map, List.mem_filter, Function.comp_def, zkc, zcb]
 constructor
 ·rintro ⟨x, ⟨h1, h2⟩, rfl⟩; exact ⟨x, h1, by simpa using h2, rfl⟩
 ·rintro ⟨x, h1, h2, rfl⟩; exact ⟨x, ⟨h1, by simp [h2]⟩, rfl⟩
structure RuleG (ps : List (ByteArray × Nat)) (r : PR) : Prop where
 l3 : r.bs.length ≤ 3
 hd : AtomG ps (hdOf r)
 ls : ∀ x ∈ r.bs, AtomG ps ⟨x.1.pd, x.1.ts⟩
 safeH : ∀ t ∈ (hdOf r).ts, t.1 = true → ∃ a ∈ zdy r.bs, t ∈ a.ts
 safeN : ∀ x ∈ zg1 r.bs, ∀ t ∈ x.ts, t.1 = true → ∃ a ∈ zdy r.bs, t ∈ a.ts
theorem RuleG.pos {ps : List (ByteArray × Nat)} {r : PR} (h : RuleG ps r) : ∀ a ∈ zdy r.bs, AtomG ps a := fun a ha => by
 obtain ⟨x, hx, _, rfl⟩ := mem_pos.1 ha; exact h.ls x hx
theorem RuleG.neg {ps : List (ByteArray × Nat)} {r : PR} (h : RuleG ps r) : ∀ a ∈ zg1 r.bs, AtomG ps a := fun a ha => by
 obtain ⟨x, hx, _, rfl⟩ := mem_neg.1 ha; exact h.ls x hx
theorem pos_len (ls : List (PLit × Value)) : (zdy ls).length ≤ ls.length := by
 unfold zdy zc2
 rw [List.length_map, List.length_map]
 exact List.length_filter_le _ _
theorem zm5 : EnvW [] := fun p hp => by cases hp
structure WayG (ps : List (ByteArray × Nat)) (r : PR) (e : PEnv) : Prop where
 w : EnvW e
 len : e.length ≤ 12
 hd : ThI ps (zc9 e (hdOf r))
 neg : ∀ x ∈ zg1 r.bs, ThI ps (zc9 e x)
theorem RuleG.way {ps : List (ByteArray × Nat)} {r : PR} (h : RuleG ps r) {K : List (Th × Nat)} (hK : ∀ p ∈ K, ThI ps p.1) {e : PEnv} (he : e ∈ zbo K (zdy r.bs) []) : WayG ps r e := by
 obtain ⟨g, b⟩ := zjc hK (zdy r.bs) [] e h.pos zm5 he
 refine ⟨g.w, ?_, zpl h.hd g.w fun t ht hv => ?_, fun x hx => zpl (h.neg x hx) g.w fun t ht hv => ?_⟩
 ·have h1 := g.len
  have h2 := pos_len r.bs
  have h3 := h.l3
  rw [List.length_nil] at h1
  omega
 ·obtain ⟨a, ha, hta⟩ := h.safeH t ht hv
  exact b a ha t hta hv
 ·obtain ⟨a, ha, hta⟩ := h.safeN x hx t ht hv
  exact b a ha t hta hv
theorem closed_of {ps : List (ByteArray × Nat)} {rs : List PR} (h : ∀ r ∈ rs, RuleG ps r) : Closed rs (ThI ps) := fun _ hK r hr =>
 have g := h r hr
 ⟨⟨g.l3, fun x hx => (g.ls x hx).w.few, g.hd.w.few, fun _ he x hx => ((g.way hK he).neg x hx).ok, fun _ he => (g.way hK he).hd.ok, fun _ he => (g.way hK he).len⟩, fun _ he => (g.way hK he).hd⟩
theorem th_len {ps : List (ByteArray × Nat)} {t : Th} (h : ThI ps t) : (zet t.1 (zb7 t)).length ≤ 1000000000 := by
 have h1 := zhp (zb7 t) 0 (fun x hx => by have := (h.w.terms x hx).le; omega)
 have h2 : (zb7 t).length = t.2.length := by unfold zb7; simp
 have h3 := h.few
 have h4 := h.w.pd.le
 have h5 := zc0 t.1
 unfold zet
 rw [List.length_append, List.length_append]
 have h6 : (if (zb7 t).length = 0 then ([] : List UInt8) else [41]).length ≤ 1 := by split <;> simp
 have h7 : (zb7 t).length * 1001 ≤ 4 * 1001 := Nat.mul_le_mul_right _ (by omega)
 omega
end
section
structure Same (ps : List (ByteArray × Nat)) (K : List (Th × Nat)) (l : List RFact) : Prop where
 mem : ∀ t n, (t, n) ∈ K ↔ ∃ f ∈ l, thA f.thing = t ∧ f.h = n
 ndK : (K.map (·.1)).Nodup
 ndL : (l.map fun f => thA f.thing).Nodup
 good : ∀ f ∈ l, ThI ps (thA f.thing)
 text : ∀ f ∈ l, f.text = zc6 (thA f.thing)
theorem same_nil (ps : List (ByteArray × Nat)) : Same ps [] [] := ⟨by simp, by simp, by simp, by simp, by simp⟩
theorem Same.ti {ps : List (ByteArray × Nat)} {K : List (Th × Nat)} {l : List RFact} (h : Same ps K l) : ∀ p ∈ K, ThI ps p.1 := fun p hp => by
 obtain ⟨f, hf, e, _⟩ := (h.mem p.1 p.2).1 hp
 rw [← e]; exact h.good f hf
theorem Same.key {ps : List (ByteArray × Nat)} {K : List (Th × Nat)} {l : List RFact} (h : Same ps K l) (t : Th) : t ∈ K.map (·.1) ↔ t ∈ l.map fun f => thA f.thing := by
 rw [List.mem_map, List.mem_map]
 constructor
 ·rintro ⟨p, hp, rfl⟩
  obtain ⟨f, hf, e, _⟩ := (h.mem p.1 p.2).1 hp
  exact ⟨f, hf, e⟩
 ·rintro ⟨f, hf, rfl⟩
  exact ⟨(thA f.thing, f.h), (h.mem _ _).2 ⟨f, hf, rfl, rfl⟩, rfl⟩
theorem Same.perm {ps : List (ByteArray × Nat)} {K : List (Th × Nat)} {l : List RFact} (h : Same ps K l) : (K.map (·.1)).Perm (l.map fun f => thA f.thing) := (List.perm_ext_iff_of_nodup h.ndK h.ndL).2 h.key
theorem Same.len {ps : List (ByteArray × Nat)} {K : List (Th × Nat)} {l : List RFact} (h : Same ps K l) : K.length = l.length := by
 have := h.perm.length_eq
 simpa using this
theorem Same.look {ps : List (ByteArray × Nat)} {K : List (Th × Nat)} {l : List RFact} (h : Same ps K l) (t : Th) : (zco K t).isSome = true ↔ ∃ f ∈ l, thA f.thing = t := by
 constructor
 ·intro hs
  obtain ⟨n, hn⟩ := Option.isSome_iff_exists.1 hs
  obtain ⟨f, hf, e, _⟩ := (h.mem t n).1 (zeb hn)
  exact ⟨f, hf, e⟩
 ·rintro ⟨f, hf, rfl⟩
  rw [zem h.ndK ((h.mem _ _).2 ⟨f, hf, rfl, rfl⟩)]
  rfl
theorem zpb (t : ByteArray) : ∀ (l : List RFact) (k : Nat), (ze9 t l k < 0 ↔ ∀ f ∈ l, f.text ≠ t)
 | [], k => by simp [ze9]
 | x :: r, k => by
  rw [ze9]
  by_cases c : (x.text.toList == t.toList) = true
  ·rw [if_pos c]
   have : x.text = t := zce.1 c
   constructor
   ·intro h; omega
   ·intro h; exact absurd this (h x List.mem_cons_self)
  ·rw [if_neg c, zpb t r (k + 1)]
   have hx : x.text ≠ t := fun e => c (zce.2 e)
   constructor
   ·intro h f hf
    rcases List.mem_cons.1 hf with rfl | hf
    ·exact hx
    ·exact h f hf
   ·exact fun h f hf => h f (List.mem_cons_of_mem _ hf)
theorem zqf (l : List RFact) (t : ByteArray) : zdk l t < 0 ↔ ∀ f ∈ l, f.text ≠ t := zpb t l 0
theorem Same.find {ps : List (ByteArray × Nat)} {K : List (Th × Nat)} {l : List RFact} (h : Same ps K l) {t : Th} (ht : ThI ps t) : zdk l (zc6 t) < 0 ↔ (zco K t).isSome = false := by
 rw [zqf, ← Bool.not_eq_true, h.look]
 constructor
 ·rintro h1 ⟨f, hf, e⟩
  exact h1 f hf (by rw [h.text f hf, e])
 ·intro h1 f hf e
  refine h1 ⟨f, hf, zmh (h.good f hf).w ht.w ?_⟩
  rw [← h.text f hf, e]
def posB (b : List RAtom) : List PAtm := (b.filter fun A => !A.no).map pa
def negsB (b : List RAtom) : List PAtm := (b.filter fun A => A.no).map pa
theorem zjm {a : RAtom} {x : Way} {e : Env} : ∀ (l : List RFact) (i : Nat), (∃ y ∈ wayF a x l i, y.1 = e) ↔ ∃ f ∈ l, zch x.1 a f.thing = some e
 | [], _ => by simp [wayF]
 | f :: r, i => by
  have ih := zjm (a := a) (x := x) (e := e) r (i + 1)
  rw [wayF]
  constructor
  ·rintro ⟨y, hy, rfl⟩
   rcases List.mem_append.1 hy with hy | hy
   ·cases hm : zch x.1 a f.thing with
    | none => rw [hm] at hy; simp at hy
    | some e' =>
     rw [hm] at hy
     rw [List.mem_singleton.1 hy]
     exact ⟨f, List.mem_cons_self, hm⟩
   ·obtain ⟨g, hg, e⟩ := ih.1 ⟨y, hy, rfl⟩
    exact ⟨g, List.mem_cons_of_mem _ hg, e⟩
  ·rintro ⟨g, hg, hm⟩
   rcases List.mem_cons.1 hg with rfl | hg
   ·refine ⟨(e, x.2 ++ [i]), List.mem_append.2 (.inl ?_), rfl⟩
    rw [hm]
    exact List.mem_singleton.2 rfl
   ·obtain ⟨y, hy, e⟩ := ih.2 ⟨g, hg, hm⟩
    exact ⟨y, List.mem_append.2 (.inr hy), e⟩
theorem zn2 {ps : List (ByteArray × Nat)} {K : List (Th × Nat)} {l : List RFact} (hS : Same ps K l) : ∀ (b : List RAtom) (now : List Way) (e : PEnv), (∀ a ∈ b, AtomG ps (pa a)) → (∀ x ∈ now, EnvW x.1) → ((∃ y ∈ wayP l b now, y.1 = e) ↔ ∃ x ∈ now, e ∈ zbo K (posB b) x.1)
 | [], now, e, _, _ => by
  rw [wayP]
  constructor
  ·rintro ⟨y, hy, rfl⟩; exact ⟨y, hy, List.mem_singleton.2 rfl⟩
  ·rintro ⟨y, hy, h⟩; exact ⟨y, hy, (List.mem_singleton.1 h).symm⟩
 | a :: r, now, e, ha, hn => by
  have ha' : ∀ x ∈ r, AtomG ps (pa x) := fun x hx => ha x (List.mem_cons_of_mem _ hx)
  have hga := ha a List.mem_cons_self
  rw [wayP]
  cases hno : a.no with
  | true =>
   have e1 : posB (a :: r) = posB r := by unfold posB; rw [List.filter_cons, hno]; simp
   rw [if_pos rfl, e1]
   exact zn2 hS r now e ha' hn
  | false =>
   have e1 : posB (a :: r) = pa a :: posB r := by unfold posB; rw [List.filter_cons, hno]; simp
   have key : ∀ x ∈ now, ∀ f ∈ l, zch x.1 a f.thing = zc1 x.1 (pa a) (thA f.thing) := fun x hx f hf => by
    refine zp2 (hn x hx) hga.w (hS.good f hf).w fun e => ?_
    have h1 : zbk ps a.pred = some (pa a).ts.length := hga.num
    have h2 : zbk ps f.thing.pred = some (thA f.thing).2.length := (hS.good f hf).num
    rw [e, h2] at h1
    have := Option.some.inj h1
    simp only [thA, pa, List.length_map] at this
    exact this.symm
   have hw : ∀ y ∈ wayN a l now, EnvW y.1 := fun y hy => by
    obtain ⟨x, hx, hy⟩ := List.mem_flatMap.1 hy
    obtain ⟨f, hf, hm⟩ := (zjm l 0).1 ⟨y, hy, rfl⟩
    rw [key x hx f hf] at hm
    exact (zl6 hga (hS.good f hf) (hn x hx) hm).1.w
   rw [if_neg (by decide), e1, zn2 hS r (wayN a l now) e ha' hw]
   constructor
   ·rintro ⟨y, hy, he⟩
    obtain ⟨x, hx, hy⟩ := List.mem_flatMap.1 hy
    obtain ⟨f, hf, hm⟩ := (zjm l 0).1 ⟨y, hy, rfl⟩
    rw [key x hx f hf] at hm
    refine ⟨x, hx, ?_⟩
    rw [zbo]
    refine List.mem_flatMap.2 ⟨(thA f.thing, f.h), (hS.mem _ _).2 ⟨f, hf, rfl, rfl⟩, ?_⟩
    rw [hm]
    exact he
   ·rintro ⟨x, hx, he⟩
    rw [zbo] at he
    obtain ⟨p, hp, he⟩ := List.mem_flatMap.1 he
    obtain ⟨f, hf, hp1, _⟩ := (hS.mem p.1 p.2).1 hp
    cases hm : zc1 x.1 (pa a) p.1 with
    | none => rw [hm] at he; simp at he
    | some e1 =>
     rw [hm] at he
     have hm' : zch x.1 a f.thing = some e1 := by rw [key x hx f hf, hp1]; exact hm
     obtain ⟨y, hy, e2⟩ := (zjm (x := x) l 0).2 ⟨f, hf, hm'⟩
     exact ⟨y, List.mem_flatMap.2 ⟨x, hx, hy⟩, by rw [e2]; exact he⟩
structure RuleRel (R : RRule) (r : PR) : Prop where
 eq : r.R = za7 R
 bd : r.bs.map (·.1) = r.R.body
theorem RuleRel.pos {R : RRule} {r : PR} (h : RuleRel R r) : zdy r.bs = posB R.body := by
 have e : r.bs.map (·.1) = R.body.map zep := by rw [h.bd, h.eq]; rfl
 unfold zdy zc2 posB
 have : ∀ (ls : List (PLit × Value)) (b : List RAtom), ls.map (·.1) = b.map zep → ((ls.filter (zcb false)).map zkc).map (·.1) = (b.filter fun A => !A.no).map pa := by
  intro ls
  induction ls with
  | nil => intro b hb; cases b with
   | nil => rfl
   | cons x r => cases hb
  | cons x q ih =>
   intro b hb
   cases b with
   | nil => cases hb
   | cons A b =>
    rw [List.map_cons, List.map_cons] at hb
    injection hb with h1 h2
    have := ih b h2
    rw [List.filter_cons, List.filter_cons]
    have hn : x.1.neg = A.no := by rw [h1]; rfl
    unfold zcb at this ⊢
    rw [hn]
    cases A.no with
    | true => simpa using this
    | false =>
     simp only [Bool.not_false, if_true, beq_self_eq_true, List.map_cons]
     rw [this]
     congr 1
     show (⟨x.1.pd, x.1.ts⟩ : PAtm) = pa A
     rw [h1]
     rfl
 exact this _ _ e
theorem RuleRel.neg {R : RRule} {r : PR} (h : RuleRel R r) : zg1 r.bs = negsB R.body := by
 have e : r.bs.map (·.1) = R.body.map zep := by rw [h.bd, h.eq]; rfl
 unfold zg1 zc2 negsB
 have : ∀ (ls : List (PLit × Value)) (b : List RAtom), ls.map (·.1) = b.map zep → ((ls.filter (zcb true)).map zkc).map (·.1) = (b.filter fun A => A.no).map pa := by
  intro ls
  induction ls with
  | nil => intro b hb; cases b with
   | nil => rfl
   | cons x r => cases hb
  | cons x q ih =>
   intro b hb
   cases b with
   | nil => cases hb
   | cons A b =>
    rw [List.map_cons, List.map_cons] at hb
    injection hb with h1 h2
    have := ih b h2
    rw [List.filter_cons, List.filter_cons]
    have hn : x.1.neg = A.no := by rw [h1]; rfl
    unfold zcb at this ⊢
    rw [hn]
    cases A.no with
    | false => simpa using this
    | true =>
     simp only [if_true, beq_self_eq_true, List.map_cons]
     rw [this]
     congr 1
     show (⟨x.1.pd, x.1.ts⟩ : PAtm) = pa A
     rw [h1]
     rfl
 exact this _ _ e
theorem RuleRel.hd {R : RRule} {r : PR} (h : RuleRel R r) : hdOf r = pa R.head := by unfold hdOf; rw [h.eq]; rfl
theorem RuleRel.body {R : RRule} {r : PR} (h : RuleRel R r) {ps : List (ByteArray × Nat)} (hg : RuleG ps r) : ∀ a ∈ R.body, AtomG ps (pa a) := fun a ha => by
 have e : zep a ∈ r.bs.map (·.1) := by rw [h.bd, h.eq]; exact List.mem_map.2 ⟨a, ha, rfl⟩
 obtain ⟨x, hx, hxe⟩ := List.mem_map.1 e
 have := hg.ls x hx
 rw [hxe] at this
 exact this
theorem zko {ps : List (ByteArray × Nat)} {K : List (Th × Nat)} {l : List RFact} (hS : Same ps K l) {R : RRule} {r : PR} (hr : RuleRel R r) (hg : RuleG ps r) (e : PEnv) : (∃ y ∈ zk4 R l, y.1 = e) ↔ e ∈ zfj K (zg1 r.bs) (zdy r.bs) [] := by
 have h0 : (∃ y ∈ wayP l R.body [([], [])], y.1 = e) ↔ e ∈ zbo K (zdy r.bs) [] := by
  rw [zn2 hS R.body [([], [])] e (hr.body hg) (fun x hx => by rw [List.mem_singleton.1 hx]; exact zm5), hr.pos]
  constructor
  ·rintro ⟨x, hx, h⟩; rw [List.mem_singleton.1 hx] at h; exact h
  ·exact fun h => ⟨_, List.mem_singleton.2 rfl, h⟩
 have h1 : e ∈ zbo K (zdy r.bs) [] → (R.body.all (negB l e) = true ↔ zek K (zg1 r.bs) e = false) := fun he => by
  have w := hg.way hS.ti he
  have wn := w.neg
  rw [hr.neg] at wn ⊢
  unfold zek
  rw [List.all_eq_true, List.any_eq_false]
  constructor
  ·intro h x hx
   obtain ⟨A, hA, rfl⟩ := List.mem_map.1 hx
   obtain ⟨hA, hno⟩ := List.mem_filter.1 hA
   have := h A hA
   unfold negB at this
   simp only [hno, Bool.not_true, Bool.false_or, decide_eq_true_eq] at this
   rw [zqp, thA_of] at this
   rw [(hS.find (wn _ hx)).1 this]
   decide
  ·intro h A hA
   unfold negB
   cases hno : A.no with
   | false => rfl
   | true =>
    have hx : pa A ∈ negsB R.body := List.mem_map.2 ⟨A, List.mem_filter.2 ⟨hA, hno⟩, rfl⟩
    have := h _ hx
    simp only [Bool.not_true, Bool.false_or, decide_eq_true_eq]
    rw [zqp, thA_of]
    exact (hS.find (wn _ hx)).2 (by simpa using this)
 unfold zk4 zfj
 constructor
 ·rintro ⟨y, hy, rfl⟩
  obtain ⟨hy, hn⟩ := List.mem_filter.1 hy
  have he := h0.1 ⟨y, hy, rfl⟩
  exact List.mem_filter.2 ⟨he, by rw [(h1 he).1 hn]; rfl⟩
 ·intro he
  obtain ⟨he, hn⟩ := List.mem_filter.1 he
  obtain ⟨y, hy, rfl⟩ := h0.2 he
  exact ⟨y, List.mem_filter.2 ⟨hy, (h1 he).2 (by simpa using hn)⟩, rfl⟩
end
end Go.Proofs.YtldkpahaocjdpaaGreat
