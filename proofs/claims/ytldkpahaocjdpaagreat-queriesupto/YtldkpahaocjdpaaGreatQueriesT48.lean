/-
  Plain: the rules of a text that was taken are such as Query wants them; what is asked is read the same.
  Plain: Query answers the same in the reference and in the program.
  Query of a text's two programs: what they answer is one.
  The law's sameTexts, at two rows that hold the same.
  The law's ownTexts: the list is written over with its mark, and three are begun at it.
-/
import Derived.Test.YtldkpahaocjdpaaGreatQueriesT45
import Derived.Test.YtldkpahaocjdpaaGreatQueriesT47
import Derived.Test.YtldkpahaocjdpaaGreatQueriesT26
import Derived.Sort.Walk0
import Derived.Test.YtldkpahaocjdpaaGreatQueriesT28
import Derived.Test.YtldkpahaocjdpaaGreatQueriesT25
import Derived.BigRegion
import Derived.BigQuiet
import Derived.Deep.QuietTactic
import Derived.Test.YtldkpahaocjdpaaGreatQueriesT30
import Derived.Test.YtldkpahaocjdpaaGreatQueriesT43
set_option maxHeartbeats 16000000
namespace Go.Proofs.YtldkpahaocjdpaaGreat
section
theorem zo3 : ∀ (L ps : List (ByteArray × Nat)), zee L ps → (∀ k n, zbk ps k = some n → zbk (zdn L ps) k = some n) ∧ ∀ x ∈ L, zbk (zdn L ps) x.1 = some x.2
 | [], ps, _ => ⟨fun _ _ h => h, by simp⟩
 | x :: r, ps, h => by
  obtain ⟨h1, h2⟩ := h
  obtain ⟨i1, i2⟩ := zo3 r (zdj ps x.1 x.2) h2
  rw [zdn]
  have hx : zbk (zdj ps x.1 x.2) x.1 = some x.2 := by rw [ziv h1, if_pos rfl]
  refine ⟨fun k n hk => i1 k n ?_, fun y hy => ?_⟩
  ·rw [ziv h1]
   by_cases e : k = x.1
   ·rw [if_pos e]
    rw [zdo] at h1
    rw [e] at hk
    rw [hk] at h1
    have h3 : n = x.2 := by simpa using h1
    rw [h3]
   ·rw [if_neg e]; exact hk
  ·rcases List.mem_cons.1 hy with rfl | hy
   ·exact i1 _ _ hx
   ·exact i2 y hy
theorem zqr {body : List RAtom} : ∀ (ts : List RTerm), zbg body ts < 0 → ∀ t ∈ ts, t.isVar = true → zed t.text body = true
 | [], _, t, ht, _ => by cases ht
 | u :: r, h, t, ht, hv => by
  rw [zbg] at h
  split at h
  ·omega
  ·rename_i c
   rcases List.mem_cons.1 ht with rfl | ht
   ·simp only [hv, Bool.true_and, Bool.not_eq_true', Bool.not_eq_false] at c
    exact c
   ·exact zqr r h t ht hv
theorem zlr {body : List RAtom} : ∀ (l : List RAtom), zbl body l < 0 → ∀ A ∈ l, A.no = true → zbg body A.terms < 0
 | [], _, A, hA, _ => by cases hA
 | B :: r, h, A, hA, hn => by
  rw [zbl] at h
  by_cases c : 0 ≤ (if B.no then zbg body B.terms else -1)
  ·rw [if_pos c] at h
   by_cases hb : B.no = true
   ·rw [if_pos hb] at c; omega
   ·rw [if_neg hb] at c; omega
  ·rw [if_neg c] at h
   rcases List.mem_cons.1 hA with rfl | hA
   ·rw [if_pos hn] at c; omega
   ·exact zlr r h A hA hn
theorem zkk : ∀ (rs : List RRule), za9 rs < 0 → ∀ R ∈ rs, zbg R.body R.head.terms < 0 ∧ zbl R.body R.body < 0
 | [], _, R, hR => by cases hR
 | Q :: r, h, R, hR => by
  rw [za9] at h
  split at h
  ·omega
  ·rename_i c
   rcases List.mem_cons.1 hR with rfl | hR
   ·unfold zde at c
    split at c
    ·omega
    ·constructor <;> omega
   ·exact zkk r h R hR
theorem said_mem {body : List RAtom} {v : ByteArray} (h : zed v body = true) : ∃ a ∈ posB body, ((true, v) : PTerm) ∈ a.ts := by
 unfold zed at h
 obtain ⟨A, hA, h⟩ := List.any_eq_true.1 h
 unfold saidA at h
 simp only [Bool.and_eq_true, List.any_eq_true] at h
 obtain ⟨hn, u, hu, hx⟩ := h
 unfold zhe at hx
 simp only [Bool.and_eq_true] at hx
 have e : u.text = v := zce.1 hx.2
 refine ⟨pa A, List.mem_map.2 ⟨A, List.mem_filter.2 ⟨hA, hn⟩, rfl⟩, List.mem_map.2 ⟨u, hu, ?_⟩⟩
 unfold tmOf
 rw [hx.1, e]
theorem safe_of {s : ByteArray} (h : (zbi s).1 = true) : za9 (za8 s).1 < 0 := by
 unfold zbi at h
 by_cases c0 : 800 < s.size
 ·rw [if_pos c0] at h; cases h
 rw [if_neg c0] at h
 by_cases c1 : 0 ≤ (za8 s).2.2
 ·rw [if_pos c1] at h; cases h
 rw [if_neg c1] at h
 by_cases c2 : 0 ≤ (zau s).1
 ·rw [if_pos c2] at h; cases h
 rw [if_neg c2] at h
 by_cases c3 : 0 ≤ za9 (za8 s).1
 ·rw [if_pos c3] at h; cases h
 omega
theorem zoe {s : ByteArray} (h : (zbi s).1 = true) {rp : List PR} (hrp : rp.map (·.R) = (za6 s).2.2.1) (hbs : ∀ r ∈ rp, r.bs.map (·.1) = r.R.body) : RulesRel (zau s).2 (za8 s).1 rp := by
 have g := znm h
 have hru := g.rules
 have hsafe := zkk _ (safe_of h)
 have hnum : ∀ x ∈ (za6 s).2.2.1.flatMap zcs, zbk (zau s).2 x.1 = some x.2 := by
  have := (zo3 _ _ g.agree).2
  rw [g.met] at this
  exact this
 have hbwd : ∀ r ∈ rp, ∃ R ∈ (za8 s).1, RuleRel R r := fun r hr => by
  have : r.R ∈ (za8 s).1.map za7 := by rw [← hru, ← hrp]; exact List.mem_map.2 ⟨r, hr, rfl⟩
  obtain ⟨R, hR, e⟩ := List.mem_map.1 this
  exact ⟨R, hR, e.symm, hbs r hr⟩
 refine ⟨fun R hR => ?_, hbwd, fun r hr => ?_⟩
 ·have : za7 R ∈ rp.map (·.R) := by rw [hrp, hru]; exact List.mem_map.2 ⟨R, hR, rfl⟩
  obtain ⟨r, hr, e⟩ := List.mem_map.1 this
  exact ⟨r, hr, e, hbs r hr⟩
 ·obtain ⟨R, hR, hrel⟩ := hbwd r hr
  have hin : r.R ∈ (za6 s).2.2.1 := by rw [← hrp]; exact List.mem_map.2 ⟨r, hr, rfl⟩
  have hw := zjd s r.R hin
  have hb := g.body r.R hin
  have hlit : ∀ x ∈ r.bs, x.1 ∈ r.R.body := fun x hx => by rw [← hbs r hr]; exact List.mem_map.2 ⟨x, hx, rfl⟩
  refine ⟨?_, ⟨hw.1, hnum (r.R.pd, r.R.ts.length) (List.mem_flatMap.2 ⟨r.R, hin, by simp [zcs]⟩)⟩, fun x hx => ⟨hw.2 _ (hlit x hx), hnum (x.1.pd, x.1.ts.length) (List.mem_flatMap.2 ⟨r.R, hin, ?_⟩)⟩, fun t ht hv => ?_, fun x hx t ht hv => ?_⟩
  ·rw [← hbs r hr, List.length_map] at hb; exact hb
  ·simp only [zcs, List.mem_cons, List.mem_map]
   exact .inr ⟨x.1, hlit x hx, rfl⟩
  ·rw [hrel.hd] at ht
   obtain ⟨u, hu, rfl⟩ := List.mem_map.1 ht
   have hv' : u.isVar = true := hv
   have := said_mem (zqr _ (hsafe R hR).1 u hu hv')
   rw [hrel.pos]
   unfold tmOf
   rw [hv']
   exact this
  ·rw [hrel.neg] at hx
   obtain ⟨A, hA, rfl⟩ := List.mem_map.1 hx
   obtain ⟨hA, hn⟩ := List.mem_filter.1 hA
   obtain ⟨u, hu, rfl⟩ := List.mem_map.1 ht
   have hv' : u.isVar = true := hv
   have := said_mem (zqr _ (zlr _ (hsafe R hR).2 A hA hn) u hu hv')
   rw [hrel.pos]
   unfold tmOf
   rw [hv']
   exact this
theorem pask_eq (q : ByteArray) : zht q = if zhy q then some (pa (zaw q)) else none := by
 have h := zp9 q 0 (-1) (by decide) (Nat.zero_le _)
 unfold zht zhy
 cases hP : zby q 0 with
 | no r =>
  rw [hP] at h
  have h' : (zag q 0 (-1)).2.2 = ((zae q r).2.1 : Int) := h
  rw [h', if_neg]
  simp
  intro h; omega
 | yes p pd ts pl =>
  rw [hP] at h
  obtain ⟨h1, h2, h3, _, h5⟩ := h
  rw [h1]
  have K := zgv q p h5
  have e : (⟨pd, ts⟩ : PAtm) = pa (zaw q) := by rw [h2, h3]; rfl
  simp only
  by_cases c : (tok q p).kind = 46
  ·rw [if_pos (K.k0.2 c), if_pos (by simp [c]), e]
  ·rw [if_neg (fun h => c (K.k0.1 h)), if_neg (by simp [c])]
theorem pask_word {q : ByteArray} {A : PAtm} (h : zht q = some A) : AtomW A.p A.ts := by
 unfold zht at h
 split at h
 ·cases h
 ·rename_i p pd ts pl hp
  split at h
  ·cases h; exact zfr hp
  ·cases h
theorem suits_meet (ps : List (ByteArray × Nat)) (A : PAtm) : zie ps A = zdf ps A.p A.ts.length := by
 unfold zie
 cases hn : zbk ps A.p with
 | none => exact (by rw [zdo, hn] : zdf ps A.p A.ts.length = true) ▸ rfl
 | some m =>
  by_cases e : m = A.ts.length
  ·have : zdf ps A.p A.ts.length = true := by rw [zdo, hn, e]; simp
   rw [this]; simp [e]
  ·have : ¬ zdf ps A.p A.ts.length = true := by rw [zdo, hn]; simpa using e
   simp [e, this]
theorem asked_eq (ps : List (ByteArray × Nat)) (q : ByteArray) : zfg ps q = if zh0 ps q then some (pa (zaw q)) else none := by
 unfold zfg zh0
 rw [pask_eq]
 by_cases c : zhy q = true
 ·rw [if_pos c, c]
  simp only [Bool.true_and]
  rw [suits_meet]
  have : (pa (zaw q)).ts.length = (zag q 0 (-1)).1.length := by simp [pa, zaw]
  rw [this]
  rfl
 ·rw [if_neg c]
  have : zhy q = false := by simpa using c
  rw [this]
  simp
end
section
open Go.Sort
theorem mostS_ge {S : Nat → Nat} : ∀ {n i : Nat}, i < n → S i ≤ zfl S n
 | 0, _, h => by omega
 | n + 1, i, h => by
  rw [zfl]
  rcases Nat.lt_or_eq_of_le (Nat.le_of_lt_succ h) with h | rfl
  ·exact Nat.le_trans (mostS_ge h) (Nat.le_max_left _ _)
  ·exact Nat.le_max_right _ _
theorem mostS_at {S : Nat → Nat} : ∀ (n : Nat), n = 0 ∨ ∃ i, i < n ∧ zfl S n = S i
 | 0 => .inl rfl
 | n + 1 => by
  right
  rw [zfl]
  rcases Nat.le_total (zfl S n) (S n) with h | h
  ·exact ⟨n, by omega, Nat.max_eq_right h⟩
  ·rw [Nat.max_eq_left h]
   rcases mostS_at (S := S) n with h0 | ⟨i, hi, e⟩
   ·refine ⟨n, by omega, ?_⟩
    subst h0
    have : zfl S 0 = 0 := rfl
    omega
   ·exact ⟨i, by omega, e⟩
theorem num_pred {ps : List (ByteArray × Nat)} {k : ByteArray} : (zbk ps k).isSome = true ↔ 0 ≤ zak ps k := by
 have h := (zly k ps 0).1
 unfold zak
 constructor
 ·intro hk
  refine Int.not_lt.1 fun c => ?_
  rw [h.1 c] at hk
  cases hk
 ·intro hk
  cases hn : zbk ps k with
  | none => have := h.2 hn; omega
  | some n => rfl
theorem count_most {ps : List (ByteArray × Nat)} {Sp : ByteArray → Nat} {S : Nat → Nat} {m : Nat} (ho : Once ps) (hs : ∀ k, 0 ≤ zak ps k → Sp k = S (ixOf ps k)) (hc : zio ps Sp m) (hne : ps ≠ []) : m = zfl S ps.length + 1 := by
 have hix : ∀ (i : Nat) (hi : i < ps.length), 0 ≤ zak ps ps[i].1 ∧ ixOf ps ps[i].1 = i := fun i hi => by
  have := once_ix ho i 0 hi
  unfold ixOf zak
  rw [this]
  constructor
  ·omega
  ·simp
 have h1 : zfl S ps.length + 1 ≤ m := by
  rcases mostS_at (S := S) ps.length with h0 | ⟨i, hi, e⟩
  ·exact absurd (List.length_eq_zero_iff.1 h0) hne
  ·obtain ⟨a, b⟩ := hix i hi
   have := hc.1 _ (num_pred.2 a)
   rw [hs _ a, b] at this
   omega
 have h2 : m ≤ zfl S ps.length + 1 := by
  rcases hc.2 with h0 | ⟨k, hk, e⟩
  ·omega
  ·have hk' := num_pred.1 hk
   rw [hs k hk'] at e
   have := (ix_lt k ps 0 hk').2
   have hlt : ixOf ps k < ps.length := by unfold ixOf zak at *; omega
   have := mostS_ge (S := S) hlt
   omega
 omega
theorem zqi {ps : List (ByteArray × Nat)} {S : Nat → Nat} {l : List RFact} {s n : Nat} {out : List RFact} (h : RndR ps S [] l s n out) : out = [] := by
 have := (round_of h).tk.mem
 cases out with
 | nil => rfl
 | cons f r => have := (this f List.mem_cons_self).1; simp [zdc] at this
theorem zqa {ps : List (ByteArray × Nat)} {rs : List RRule} {rp : List PR} (hR : RulesRel ps rs rp) (ho : Once ps) (hall : ∀ R ∈ rs, 0 ≤ zak ps R.head.pred) {Sp : ByteArray → Nat} {S : Nat → Nat} (hs : ∀ k, 0 ≤ zak ps k → Sp k = S (ixOf ps k)) {limit m : Nat} (hl : limit ≤ 50) (hc : zio ps Sp m) {r : Option (List RFact)} {r' : Option (List (Th × Nat))} (h : StrR ps S rs limit (zfl S ps.length) 0 [] r) (h' : PStrat rp Sp limit m 0 [] r') : zp7 ps limit r r' := by
 by_cases hne : ps = []
 ·subst hne
  have hrs : rs = [] := by
   cases rs with
   | nil => rfl
   | cons R q => have := hall R List.mem_cons_self; simp [zak, zbr] at this
  subst hrs
  have hm : m = 0 := by
   rcases hc.2 with h0 | ⟨k, hk, _⟩
   ·exact h0
   ·cases hk
  subst hm
  have e' : r' = some [] := by
   cases h' with
   | ends _ => rfl
   | fails h2 _ => omega
   | next h2 _ _ => omega
  have e : r = some [] := by
   have h0 : zfl S 0 = 0 := rfl
   rw [List.length_nil, h0] at h
   cases h with
   | ends h1 => omega
   | fails _ hc =>
    cases hc with
    | over hr hb => rw [zqi hr] at hb; simp at hb
    | more hr hn _ _ => exact absurd (zqi hr) hn
   | next _ hc hn =>
    cases hc with
    | done _ _ =>
     cases hn with
     | ends _ => rfl
     | fails h1 _ => omega
     | next h1 _ _ => omega
    | more hr hn _ _ => exact absurd (zqi hr) hn
  exact .inr ⟨[], [], e, e', same_nil _, Nat.zero_le _⟩
 ·rw [count_most ho hs hc hne] at h'
  exact str_eq hR (fun R hR1 => hs _ (hall R hR1)) hl h [] r' (same_nil _) (Nat.zero_le _) h'
theorem hits_perm {ps : List (ByteArray × Nat)} {K : List (Th × Nat)} {l : List RFact} (hS : Same ps K l) {A : RAtom} (hw : AtomW (pa A).p (pa A).ts) (hm : zdf ps A.pred A.terms.length = true) : ((K.filter (hitB (pa A))).map fun p => zc6 p.1).Perm (hitT A l) := by
 have e1 : ((K.filter (hitB (pa A))).map fun p => zc6 p.1) = ((K.map (·.1)).filter fun t => (zc1 [] (pa A) t).isSome).map zc6 := by
  rw [List.filter_map, List.map_map]
  rfl
 have e2 : hitT A l = ((l.map fun f => thA f.thing).filter fun t => (zc1 [] (pa A) t).isSome).map zc6 := by
  unfold hitT
  rw [List.filter_map, List.map_map]
  have : (l.filter fun f => (zch [] A f.thing).isSome) = l.filter ((fun t => (zc1 [] (pa A) t).isSome) ∘ fun f => thA f.thing) := by
   refine List.filter_congr fun f hf => ?_
   simp only [Function.comp_def]
   rw [zp2 zm5 hw (hS.good f hf).w fun e => ?_]
   have h2 : zbk ps f.thing.pred = some (thA f.thing).2.length := (hS.good f hf).num
   rw [zdo, e, h2] at hm
   simp only [thA, List.length_map, beq_iff_eq] at hm
   exact hm.symm
  rw [this]
  refine List.map_congr_left fun f hf => ?_
  exact hS.text f (List.mem_filter.1 hf).1
 rw [e1, e2]
 exact (hS.perm.filter _).map _
theorem sort_eq {zs ys : List ByteArray} (hp : zs.Perm ys) (hr : RisT ys) : (znn zs).map encStr = ys.map Value.string := by
 rw [str_enc ys]
 congr 1
 unfold znn
 refine List.Perm.eq_of_pairwise (le := fun a b => a ≤ b) (fun a b _ _ h1 h2 => List.le_antisymm h1 h2) ?_ ?_ ((List.mergeSort_perm _ _).trans (hp.map _))
 ·have := List.pairwise_mergeSort (le := fun x y : List UInt8 => decide (x ≤ y)) (fun a b c h1 h2 => by
   rw [decide_eq_true_eq] at *
   exact List.le_trans h1 h2) (fun a b => by
   rcases List.le_total a b with h | h <;> simp [h]) (zs.map fun s => s.data.toList)
  exact this.imp fun h => by simpa using h
 ·unfold RisT zp4 at hr
  rw [List.pairwise_map] at hr ⊢
  refine hr.imp fun {x y} h => ?_
  unfold zd0 at h
  rw [Go.Proofs.bytesLess_eq, decide_eq_false_iff_not] at h
  rw [ByteArray.toList_eq, ByteArray.toList_eq] at h
  exact List.not_lt.1 h
inductive QSame (w w' wr wr' : World) : Ending → Value → Nat → Prop
 | yes {zs : List ByteArray} {a : Option Addr} {c : Nat} {v : Value} : zs.length ≤ 50 → w'.ownsRow w.heap.size 9 1 (.slice a zs.length c) zs.length (zs.map Value.string) → wr'.ownsRow wr.heap.size 9 1 v zs.length (zs.map Value.string) → QSame w w' wr wr' (.returned (.tuple #[.slice a zs.length c, .int .i64 0])) v 0
 | no {n : Nat} : n ≠ 0 → n ≤ 8 → QSame w w' wr wr' (.returned (.tuple #[.slice none 0 0, .int .i64 (n : Nat)])) (.slice none 0 0) n
theorem query_eq {s q : ByteArray} (h : (zbi s).1 = true) {rp : List PR} (hrp : rp.map (·.R) = (za6 s).2.2.1) (hbs : ∀ r ∈ rp, r.bs.map (·.1) = r.R.body) {S : Nat → Nat} (hv : zgz (zau s).2 (za8 s).1 S) (hlow : Low (zau s).2 (za8 s).1 S) {limit : Int} {w w' wr wr' : World} {e : Ending} {v : Value} {n : Nat} (hP : PQOut w rp (zau s).2 q limit w' e) (hQ : QryOut wr (zau s).2 S (za8 s).1 q limit wr' v n) : QSame w w' wr wr' e v n := by
 have g := znm h
 have hR := zoe h hrp hbs
 have hall : ∀ R ∈ (za8 s).1, 0 ≤ zak (zau s).2 R.head.pred := fun R hR => g.all _ (List.mem_flatMap.2 ⟨R, hR, List.mem_cons_self⟩)
 have hstr : ∀ {Sp : ByteArray → Nat}, zgh (rp.map (·.R)) Sp → LowN (rp.map (·.R)) Sp → ∀ k, 0 ≤ zak (zau s).2 k → Sp k = S (ixOf (zau s).2 k) := fun h1 h2 k hk => by
  rw [hrp, g.rules] at h1 h2
  exact strata_eq g.all hv hlow h1 h2 k hk
 have hask := asked_eq (zau s).2 q
 have hl : ∀ {l : Int}, zfy l = true → 1 ≤ l ∧ l ≤ 50 := fun h => limit_of h
 have hl' : ∀ {l : Int}, zfy l = false → ¬ (1 ≤ l ∧ l ≤ 50) := fun h c => by
  unfold zfy at h
  simp at h
  omega
 cases hP with
 | arg h1 =>
  have := hl' h1
  cases hQ with
  | arg _ => exact .no (n := 8) (by decide) (by decide)
  | ask a b _ => exact absurd ⟨a, b⟩ this
  | over a b _ _ => exact absurd ⟨a, b⟩ this
  | yes a b _ _ _ _ _ _ => exact absurd ⟨a, b⟩ this
 | ask h1 h2 =>
  have := hl h1
  rw [hask] at h2
  cases hQ with
  | arg a => omega
  | ask _ _ _ => exact .no (n := 6) (by decide) (by decide)
  | over _ _ c _ => rw [if_pos c] at h2; cases h2
  | yes _ _ c _ _ _ _ _ => rw [if_pos c] at h2; cases h2
 | over h1 h2 hvn hln hc hst =>
  have := hl h1
  rw [hask] at h2
  cases hQ with
  | arg a => omega
  | ask _ _ c => rw [c] at h2; cases h2
  | over _ _ _ _ => exact .no (n := 7) (by decide) (by decide)
  | yes _ _ _ hst' _ _ _ _ =>
   rcases zqa hR g.once hall (hstr hvn hln) (by omega) hc hst' hst with ⟨e, _⟩ | ⟨_, _, _, e, _⟩ <;> cases e
 | @yes A Sp m K zs a c h1 h2 hvn hln hc hst hnd hperm hrow =>
  have := hl h1
  rw [hask] at h2
  cases hQ with
  | arg a => omega
  | ask _ _ c => rw [c] at h2; cases h2
  | over _ _ _ hst' =>
   rcases zqa hR g.once hall (hstr hvn hln) (by omega) hc hst' hst with ⟨_, e⟩ | ⟨_, _, e, _⟩ <;> cases e
  | @yes v ys l _ _ hok hst' hl50 hrow' hris hperm' =>
   rcases zqa hR g.once hall (hstr hvn hln) (by omega) hc hst' hst with ⟨e, _⟩ | ⟨l1, K1, e1, e2, hS, _⟩
   ·cases e
   ·obtain rfl := Option.some.inj e1
    obtain rfl := Option.some.inj e2
    rw [if_pos hok] at h2
    obtain rfl := Option.some.inj h2
    have hend : zhy q = true ∧ zdf (zau s).2 (tok q 0).text (zag q 0 (-1)).1.length = true := by
     unfold zh0 at hok
     simpa using hok
    have hw : AtomW (pa (zaw q)).p (pa (zaw q)).ts := pask_word (q := q) (by rw [pask_eq, if_pos hend.1])
    have hpp := hperm.trans ((hits_perm hS hw hend.2).trans hperm'.symm)
    have hlen := hpp.length_eq
    rw [sort_eq hpp hris, hlen] at hrow
    rw [hlen]
    refine .yes ?_ hrow hrow'
    rw [hperm'.length_eq]
    unfold hitT
    rw [List.length_map]
    exact Nat.le_trans (List.length_filter_le _ _) hl50
end
section
open Go.RowKit Go.Maps
def PQPost (s : ByteArray) (w : World) (q : ByteArray) (limit : Int) : Ending → World → Prop := fun e w' => ∃ rp : List PR, rp.map (·.R) = (za6 s).2.2.1 ∧ (∀ r ∈ rp, r.bs.map (·.1) = r.R.body) ∧ PQOut w rp (zau s).2 q limit w' e ∧ Below w.heap.size w w'
def RQPost (s : ByteArray) (w : World) (q : ByteArray) (limit : Int) : Ending → World → Prop := fun e w' => ∃ (S : Nat → Nat) (v : Value) (n : Nat), e = .returned (.tuple #[v, .int .i64 (n : Nat)]) ∧ zgz (zau s).2 (za8 s).1 S ∧ Low (zau s).2 (za8 s).1 S ∧ QryOut w (zau s).2 S (za8 s).1 q limit w' v n ∧ Below w.heap.size w w'
theorem zpw {s : ByteArray} {xb yb : Nat} {w : World} {lo : Nat} (h : EntF s xb yb w lo) (q : ByteArray) (hq : q.size ≤ 2000000) (limit : Int) : Calls Tryz.prog 20 #[.pointer (some ⟨xb, 0, none⟩), .string q, .int .i64 limit] w (PQPost s w q limit) := by
 obtain ⟨rs, hp, hr⟩ := h.x
 have hg := znm h.ok
 obtain ⟨f0, hf0, hfb⟩ := hg.some_
 have hin : ∀ r ∈ rs, r.R ∈ (za6 s).2.2.1 := fun r hr' => by rw [← hr]; exact List.mem_map_of_mem hr'
 have hbo : ∀ r ∈ rs, r.bs.map (·.1) = r.R.body := fun r hr' => by
  obtain ⟨a, c, _, _, hrr⟩ := hp
  exact (hrr.each r hr').eq
 have hbm : ∀ r ∈ rs, ∀ x ∈ r.bs, x.1 ∈ r.R.body := fun r hr' x hx => by rw [← hbo r hr']; exact List.mem_map_of_mem hx
 have hl : rs.length ≤ 30 := by have := hg.len; rw [← hr, List.length_map] at this; exact this
 have hR := zoe h.ok hr hbo
 refine (pquery_any w lo xb rs (zau s).2 q limit (ThI (zau s).2) hq hp hl (fun r hr' => by have := hg.body r.R (hin r hr'); rw [← hbo r hr', List.length_map] at this; exact this) (fun r hr' => hg.pd r.R (hin r hr')) (fun r hr' x hx => hg.lpd r.R (hin r hr') x.1 (hbm r hr' x hx)) (by rw [hr]; exact hg.agree) (by rw [hr]; exact hg.met) (by have := hg.few; omega) (fun r hr' => ⟨(hg.named r.R (hin r hr')).1, fun x hx => (hg.named r.R (hin r hr')).2 x.1 (hbm r hr' x hx)⟩) f0 (by rw [hr]; exact hf0) hfb (closed_of hR.good) (fun t ht => th_len ht)).mono ?_
 rintro e w' ⟨h1, h2⟩
 exact ⟨rs, hr, hbo, h1, h2⟩
theorem ent_ctx {s : ByteArray} {xb yb : Nat} {w : World} {lo : Nat} (h : EntF s xb yb w lo) : ∃ (rs : List RR) (rv pv tv : Value) (gs : Nat) (S : Nat → Nat), MCtx w yb rs (zau s).2 rv pv tv gs S ∧ rs.map (·.R) = (za8 s).1 ∧ zgz (zau s).2 (za8 s).1 S ∧ Low (zau s).2 (za8 s).1 S ∧ ∀ i, S i ≤ 1000000 := by
 obtain ⟨rs, ps, rv, pv, tv, gs, S, h1, h2, h3, h4, h5, h6, h7, h8, h9⟩ := h.y
 have hg := znm h.ok
 subst h8
 rw [h7] at h5 h6
 have hin : ∀ r ∈ rs, za7 r.R ∈ (za6 s).2.2.1 := fun r hr => by
  rw [hg.rules, ← h7, List.map_map]
  exact List.mem_map.2 ⟨r, hr, rfl⟩
 have hm : ∀ r ∈ rs, r.R ∈ (za8 s).1 := fun r hr => by rw [← h7]; exact List.mem_map_of_mem hr
 have hat : ∀ A : RAtom, AtomW A.pred (A.terms.map tmOf) → AtomOk A := fun A hA => ⟨by have := hA.pd.le; omega, fun t ht => by
  have := (hA.ts (tmOf t) (List.mem_map.2 ⟨t, ht, rfl⟩)).le
  have e : (tmOf t).2 = t.text := rfl
  rw [e] at this
  omega, by have := hA.few; rw [List.length_map] at this; exact this⟩
 refine ⟨rs, rv, pv, tv, gs, S, ⟨h3, h4, fun r hr => ?_, fun r hr a ha => ?_, fun r hr => ?_⟩, h7, h5, h6, fun i => ?_⟩
 ·have hb := hg.body _ (hin r hr)
  have e := (h3.each r hr).eq
  simp only [za7] at hb
  rw [List.length_map, e, List.length_map] at hb
  exact hb
 ·have hw := zjd s _ (hin r hr)
  rcases List.mem_cons.1 ha with rfl | ha
  ·exact hat _ hw.1
  ·exact hat _ (hw.2 (zep a) (List.mem_map.2 ⟨a, ha, rfl⟩))
 ·exact h9 _ (List.mem_flatMap.2 ⟨r.R, hm r hr, List.mem_cons_self⟩)
 ·obtain ⟨f, hf, hfb⟩ := hg.some_
  rw [hg.rules] at hf
  have := h6 _ (valid_of hf h9) i
  have := hfb (nmOf (zau s).2 i)
  omega
theorem ent_rquery {s : ByteArray} {xb yb : Nat} {w : World} {lo : Nat} (h : EntF s xb yb w lo) (q : ByteArray) (hq : q.size ≤ 2000000) (limit : Int) : Calls Tryz.prog 88 #[.pointer (some ⟨yb, 0, none⟩), .string q, .int .i64 limit] w (RQPost s w q limit) := by
 obtain ⟨rs, rv, pv, tv, gs, S, hC, h7, h5, h6, hS⟩ := ent_ctx h
 refine (query_any w yb rs (zau s).2 rv pv tv gs S hC (fun i _ => hS i) q (by unfold maxLen; omega) limit).mono ?_
 rintro e w' ⟨v, n, rfl, h1, h2⟩
 rw [h7] at h1
 exact ⟨S, v, n, rfl, h5, h6, h1, h2⟩
theorem PQOut.shape {w : World} {rs : List PR} {ps : List (ByteArray × Nat)} {s : ByteArray} {limit : Int} {w' : World} {e : Ending} (h : PQOut w rs ps s limit w' e) : ∃ (a : Option Addr) (m c k : Nat), e = .returned (.tuple #[.slice a m c, .int .i64 (k : Nat)]) := by
 cases h with
 | arg _ => exact ⟨none, 0, 0, 8, rfl⟩
 | ask _ _ => exact ⟨none, 0, 0, 6, rfl⟩
 | over _ _ _ _ _ _ => exact ⟨none, 0, 0, 7, rfl⟩
 | yes _ _ _ _ _ _ _ _ _ => exact ⟨_, _, _, 0, rfl⟩
theorem QryOut.shape {w : World} {ps : List (ByteArray × Nat)} {S : Nat → Nat} {rs : List RRule} {s : ByteArray} {limit : Int} {w' : World} {v : Value} {n : Nat} (h : QryOut w ps S rs s limit w' v n) : ∃ (a : Option Addr) (m c : Nat), v = .slice a m c := by
 cases h with
 | arg _ => exact ⟨none, 0, 0, rfl⟩
 | ask _ _ _ => exact ⟨none, 0, 0, rfl⟩
 | over _ _ _ _ => exact ⟨none, 0, 0, rfl⟩
 | yes _ _ _ _ _ h _ _ => obtain ⟨a, c, e⟩ := zac h; exact ⟨a, _, c, e⟩
theorem QSame.both {w w' wr wr' : World} {a b : Option Addr} {m c k m' d n : Nat} (h : QSame w w' wr wr' (.returned (.tuple #[.slice a m c, .int .i64 (k : Nat)])) (.slice b m' d) n) : k = n ∧ ∃ zs : List ByteArray, zs.length ≤ 50 ∧ m = zs.length ∧ m' = zs.length ∧ w'.ownsRow w.heap.size 9 1 (.slice a m c) m (zs.map Value.string) ∧ wr'.ownsRow wr.heap.size 9 1 (.slice b m' d) zs.length (zs.map Value.string) := by
 generalize he : Ending.returned (.tuple #[.slice a m c, .int .i64 (k : Nat)]) = e at h
 generalize hv : Value.slice b m' d = v at h
 cases h with
 | @yes zs a' c' v' hl h1 h2 =>
  simp only [Ending.returned.injEq, Value.tuple.injEq, Array.mk.injEq, List.cons.injEq, Value.slice.injEq, Value.int.injEq, true_and, and_true] at he
  obtain ⟨⟨rfl, rfl, rfl⟩, hk⟩ := he
  subst hv
  obtain ⟨b', c'', e⟩ := zac h2
  injection e with e1 e2 e3
  exact ⟨by omega, zs, hl, rfl, e2, h1, h2⟩
 | @no n' h1 h2 =>
  simp only [Ending.returned.injEq, Value.tuple.injEq, Array.mk.injEq, List.cons.injEq, Value.slice.injEq, Value.int.injEq, true_and, and_true] at he
  obtain ⟨⟨rfl, rfl, rfl⟩, hk⟩ := he
  injection hv with e1 e2 e3
  subst e1 e2 e3
  exact ⟨by omega, [], by simp, rfl, rfl, World.ownsRow_nil _ _ _ _, World.ownsRow_nil _ _ _ _⟩
end
section
open Go.RowKit Go.Maps
def enc1 (x : ByteArray) : List Value := [.string x]
theorem enc1_map (zs : List ByteArray) : zs.map Value.string = zs.flatMap enc1 := by
 induction zs with
 | nil => rfl
 | cons x r ih => rw [List.map_cons, List.flatMap_cons, ih]; rfl
set_option maxRecDepth 100000 in
theorem zia (w : World) (base base' : Nat) (a b : Option Addr) (n m c d : Nat) (zs : List ByteArray) (ha : w.ownsRow base 9 1 (.slice a n c) zs.length (zs.map Value.string)) (hb : w.ownsRow base' 9 1 (.slice b m d) zs.length (zs.map Value.string)) (hn : n = zs.length) (hm : m = zs.length) (hl : zs.length ≤ 1000) :
  Calls Tryz.prog 89 #[.slice a n c, .slice b m d] w fun e w' => e = .returned (.bool true) ∧ ∃ q, w' = w.drewN q := by
 subst hn hm
 rw [enc1_map] at ha hb
 have HA := hide ha
 have HB := hide hb
 clear ha hb
 go_enter Tryz.func89, Tryz.ntmps89
 go_wp2_with fail
 go_loopg [5] zs.length (fun gg i wr => ∃ (k q : Nat), k ≤ zs.length ∧ gg = zs.length - k ∧ i = .int .i64 k ∧ wr = w.drewN q)
 case atStart => exact ⟨0, 0, Nat.zero_le _, rfl, rfl, rfl⟩
 case round =>
  obtain ⟨k, q, hk, hgk, rfl, rfl⟩ := hrel
  by_cases hlk : k < zs.length
  ·obtain ⟨g, cap, hv, -, hgl, hnc, hcm, hc⟩ := zc7 (f := enc1) (fun _ => rfl) (zaa HA) k hlk
   injection hv with h1 h2 h3
   subst h1 h3
   obtain ⟨g', cap', hv', -, hgl', hnc', hcm', hc'⟩ := zc7 (f := enc1) (fun _ => rfl) (zaa HB) k hlk
   injection hv' with h1 h2 h3
   subst h1 h3
   have p0 := hc 0 (by simp)
   have q0 := hc' 0 (by simp)
   simp only [enc1, Nat.add_zero, Nat.mul_one, List.getElem?_cons_zero] at p0 q0
   clear hc hc'
   generalize zs[k] = z at *
   go_wp2_with fail
   go_quiet (fail)
   go_wp2_with fail
   go_roundg (zs.length - (k + 1))
   case measure => omega
   case rel => exact ⟨k + 1, q + nq, by omega, rfl, by go_num, by simp⟩
  ·go_wp2_with fail
   go_ret
   exact ⟨rfl, q, rfl⟩
end
section
open Go.RowKit
theorem conv_mk0 (wr : World) (mk : Nat) : (convert 47 9 (.slice (some ⟨wr.heap.size, 0, none⟩) 3 3)).run Tryz.prog (wr.alloc (.cells #[.int .u8 35, .int .u8 ((mk : Int) % 256), .int .u8 ((mk : Int) / 256 % 256)] 5)) = .ok (.string (mkS mk)) (wr.alloc (.cells #[.int .u8 35, .int .u8 ((mk : Int) % 256), .int .u8 ((mk : Int) / 256 % 256)] 5)) := by
 rw [← nums_mk]
 refine run_convert_bytes_arg _ 47 5 Tryz.underlying47 Tryz.underlying5 _ 0 3 3 [35, (mk : Int) % 256, (mk : Int) / 256 % 256] rfl (fun i hi => ?_) _ Tryz.underlying9
 show (wr.alloc _).cell? ⟨wr.heap.size, 0 + i, none⟩ = _
 rw [Nat.zero_add, World.cell?_alloc_at _ _ _ _ rfl]
 match i, hi with
 | 0, _ => rfl
 | 1, _ => rfl
 | 2, _ => rfl
theorem mark_set1 (m : Value) (k : Nat) (ys : List Value) (h : 1 ≤ ys.length) : (rep [m] k ++ ys).set k m = rep [m] (k + 1) ++ ys.drop 1 := by
 match ys, h with
 | y0 :: r, _ =>
  have hl : (rep [m] k).length = k := by rw [znz]; simp
  rw [List.set_append_right _ _ (by omega), hl, zmw]
  simp [rep]
theorem zj5 (mk : Nat) : ∀ u ∈ mkT mk, u.oneCell' = true := by
 intro u hu; rw [mkT_is, List.mem_singleton] at hu; subst hu; rfl
theorem markT_two (mk : Nat) : ∀ u ∈ mkT mk ++ mkT mk, u.oneCell' = true := by
 intro u hu; rcases List.mem_append.1 hu with h | h <;> exact zj5 mk u h
structure OverT (wA : World) (mk : Nat) (a : Option Addr) (n cap k : Nat) (wr : World) : Prop where
 row : ∃ ys, ys.length = n - k ∧ wr.ownsRow 0 9 1 (.slice a n cap) n (rep (mkT mk) k ++ ys)
 kept : Kept (Value.slice a n cap).ownBlock.toList wA wr
theorem OverT.step {wA : World} {mk : Nat} {g n cap k : Nat} {wr : World} (h : OverT wA mk (some ⟨g, 0, none⟩) n cap k wr) (hk : k < n) : OverT wA mk (some ⟨g, 0, none⟩) n cap (k + 1) (wr.setCell ⟨g, k, none⟩ (.string (mkS mk))) := by
 obtain ⟨ys, hy, hr⟩ := h.row
 have h1 := zbw hr k (.string (mkS mk))
 have e := mark_set1 (.string (mkS mk)) k ys (by omega)
 refine ⟨⟨ys.drop 1, by rw [List.length_drop, hy]; omega, ?_⟩, ?_⟩
 ·rw [mkT_is] at h1 ⊢
  rw [e] at h1
  exact h1
 ·have hm : g ∈ (Value.slice (some ⟨g, 0, none⟩) n cap).ownBlock.toList := by simp [Value.ownBlock]
  exact h.kept.setCell (p := ⟨g, _, none⟩) (.inl hm) _
set_option maxRecDepth 100000 in
theorem zpc (w : World) (a : Option Addr) (n cap mk : Nat) (xs : List Value) (h : w.ownsRow 0 9 1 (.slice a n cap) n xs) (hn : n ≤ 1000) (hmk : mk ≤ 1000000000) :
  Calls Tryz.prog 140 #[.slice a n cap, .int .i64 mk] w (OwnPost w 9 (mkT mk) a n cap mk) := by
 obtain ⟨i0, hi, hz0, hz1, hz2⟩ := info_parts zeh
 have HL := hide h
 have hcv := conv_mk0 (w.alloc (.cells #[.slice none 0 0, .slice none 0 0, .slice none 0 0, .slice none 0 0, .int .i64 0] 117)) mk
 rw [World.size_alloc] at hcv
 have h00 : OverT ((w.alloc (.cells #[.slice none 0 0, .slice none 0 0, .slice none 0 0, .slice none 0 0, .int .i64 0] 117)).alloc (.cells #[.int .u8 35, .int .u8 ((mk : Int) % 256), .int .u8 ((mk : Int) / 256 % 256)] 5)) mk a n cap 0 ((w.alloc (.cells #[.slice none 0 0, .slice none 0 0, .slice none 0 0, .slice none 0 0, .int .i64 0] 117)).alloc (.cells #[.int .u8 35, .int .u8 ((mk : Int) % 256), .int .u8 ((mk : Int) / 256 % 256)] 5)) := ⟨⟨xs, by have := h.1; rw [Nat.mul_one] at this; exact this, (h.alloc _).alloc _⟩, Kept.refl _ _⟩
 have HA := hide (((Kept.refl (Value.slice a n cap).ownBlock.toList w).alloc (.cells #[.slice none 0 0, .slice none 0 0, .slice none 0 0, .slice none 0 0, .int .i64 0] 117)).alloc (.cells #[.int .u8 35, .int .u8 ((mk : Int) % 256), .int .u8 ((mk : Int) / 256 % 256)] 5))
 have HR : Hid (((w.alloc (.cells #[.slice none 0 0, .slice none 0 0, .slice none 0 0, .slice none 0 0, .int .i64 0] 117)).alloc (.cells #[.int .u8 35, .int .u8 ((mk : Int) % 256), .int .u8 ((mk : Int) / 256 % 256)] 5)).heap[w.heap.size]? = some (.cells #[.slice none 0 0, .slice none 0 0, .slice none 0 0, .slice none 0 0, .int .i64 0] 117 (0, 0))) := by
  show _ = _
  rw [Below.heap_alloc _ _ _ (by simp)]
  exact heap_alloc_new w _
 clear h
 go_enter Tryz.func140, Tryz.ntmps140
 go_wp2_with fail
 clear hcv
 generalize hwA : ((w.alloc (.cells #[.slice none 0 0, .slice none 0 0, .slice none 0 0, .slice none 0 0, .int .i64 0] 117)).alloc (.cells #[.int .u8 35, .int .u8 ((mk : Int) % 256), .int .u8 ((mk : Int) / 256 % 256)] 5)) = wA at *
 clear hwA
 go_loopg [6] n (fun gg i wr => ∃ k : Nat, k ≤ n ∧ gg = n - k ∧ i = .int .i64 k ∧ OverT wA mk a n cap k wr)
 case atStart => exact ⟨0, Nat.zero_le _, rfl, rfl, h00⟩
 case round =>
  clear h00
  obtain ⟨k, hk, hgk, rfl, hov⟩ := hrel
  by_cases hlk : k < n
  ·obtain ⟨ys, hy, hrow⟩ := hov.row
   obtain ⟨g, cap', hv, _, hgl⟩ := hrow.form (by omega)
   injection hv with e1 e2 e3
   subst e1 e3
   have hgw := ((zaa HL).lt g rfl).2
   have hfz := zf5 hrow
   have hcell := own_cells0 hrow
   obtain ⟨u0, c0⟩ := hcell k (by omega)
   have hnc := row_cap0 hrow
   have HO := hide (hov.step hlk)
   have f0 := hfz k
   clear hrow hov hcell hfz hy
   go_wp2_with fail
   go_roundg (n - (k + 1))
   case measure => omega
   case rel => exact ⟨k + 1, by omega, rfl, by go_num, zaa HO⟩
  ·have hkn : k = n := by omega
   subst hkn
   have hlm : Lm wr 0 9 (mkT mk) (.slice a k cap) k := by
    obtain ⟨ys, hy, hrow⟩ := hov.row
    have : ys = [] := List.eq_nil_of_length_eq_zero (by rw [hy]; omega)
    subst this
    rw [List.append_nil] at hrow
    exact hrow
   have HLM := hide hlm
   have HKA := hide ((zaa HA).trans hov.kept)
   have hr0 := stay2 (zaa HL) (zaa HR) (by omega) hov.kept
   have hrlt := (Array.getElem?_eq_some_iff.1 hr0).1
   have HRW := hide hr0
   clear hlm hov hr0 HA HR
   go_wp2_with (at_builtin; refine zd1 _ rfl _ _ 33 rfl 0 9 i0 _ 1 16 Tryz.underlying33 hi hz0 hz1 hz2 rfl (by decide) a k cap (rep (mkT mk) k) rfl ((zaa HLM).alloc _) ⟨wr.heap.size, 0, none⟩ 1 1 (mkT mk) rfl rfl (World.news_of_block (heap_alloc_new wr _)) (zj5 mk) (by decide) (by unfold maxLen; omega) (by omega) (Nat.zero_le _) ?_)
   intro a1 c1 w1 hown1 hpart1
   have hm1 : Lm w1 0 9 (mkT mk) (.slice a1 (k + 1) c1) (k + 1) := by unfold Lm; rw [rep_one]; exact hown1
   have kb0 := ((Kept.refl [] wr).alloc (Obj.cells #[.string (mkS mk)] 9))
   have hra : (wr.alloc (Obj.cells #[.string (mkS mk)] 9)).heap[w.heap.size]? = _ := (kb0.block _ hrlt (by simp)).trans (zaa HRW)
   have hr1 := stay2 (zaa HL) hra (by omega) hpart1.kept
   have hf1 := hpart1.first (by omega) ((zaa HLM).kept kb0 (by simp)) hm1
   have HM1 := hide hm1
   have HP1 := hide hpart1
   have HF1 := hide hf1
   have HR1 := hide hr1
   have HKB0 := hide kb0
   have hrlt1 := (Array.getElem?_eq_some_iff.1 hr1).1
   clear hown1 hpart1 hm1 hf1 hr1 hra kb0 HRW
   go_wp2_with (at_builtin; refine zd1 _ rfl _ _ 33 rfl 0 9 i0 _ 1 16 Tryz.underlying33 hi hz0 hz1 hz2 rfl (by decide) a k cap (rep (mkT mk) k) rfl ((zaa HF1).alloc _) ⟨w1.heap.size, 0, none⟩ 2 2 (mkT mk ++ mkT mk) rfl rfl (World.news_of_block (heap_alloc_new w1 _)) (markT_two mk) (by decide) (by unfold maxLen; omega) (by omega) (Nat.zero_le _) ?_)
   intro a2 c2 w2 hown2 hpart2
   have hm2 : Lm w2 0 9 (mkT mk) (.slice a2 (k + 2) c2) (k + 2) := by unfold Lm; rw [rep_two]; exact hown2
   have kb1 := ((Kept.refl [] w1).alloc (Obj.cells #[.string (mkS mk), .string (mkS mk)] 9))
   have hra : (w1.alloc (Obj.cells #[.string (mkS mk), .string (mkS mk)] 9)).heap[w.heap.size]? = _ := (kb1.block _ hrlt1 (by simp)).trans (zaa HR1)
   have hr2 := stay2 (zaa HL) hra (by omega) hpart2.kept
   have hf2 := hpart2.first (by omega) ((zaa HF1).kept kb1 (by simp)) hm2
   have HM2 := hide hm2
   have HP2 := hide hpart2
   have HR2 := hide hr2
   have HKB1 := hide kb1
   have HF2 := hide hf2
   have g0 : Grow w2 0 9 (mkT mk) a k cap 0 (.slice a k cap) w2 := ⟨hf2, Kept.refl _ _, .inl rfl⟩
   clear hown2 hpart2 hm2 hr2 hra kb1 hf2 HR1 hrlt hrlt1
   go_wp2_with fail
   have HOW := hide (fun (a3 : Option Addr) (c3 : Nat) (w3 : World) (hg : Grow w2 0 9 (mkT mk) a k cap 64 (.slice a3 (k + 64) c3) w3) => OwnIn.of (zaa HKA) (zaa HLM) (zaa HKB0) (zaa HKB1) (zaa HP1) (zaa HM1) (zaa HP2) (zaa HM2) hg hn hmk)
   clear HKA HLM HKB0 HKB1 HP1 HM1 HP2 HM2
   go_loopg [9, 10] 64 (fun gg v3 i wj => ∃ (j : Nat) (a3 : Option Addr) (c3 : Nat), j ≤ 64 ∧ gg = 64 - j ∧ v3 = .slice a3 (k + j) c3 ∧ i = .int .i64 j ∧ Grow w2 0 9 (mkT mk) a k cap j (.slice a3 (k + j) c3) wj)
   case atStart => exact ⟨0, a, cap, Nat.zero_le _, rfl, rfl, rfl, g0⟩
   case round =>
    clear g0
    obtain ⟨j, a3, c3, hj, hgj, rfl, rfl, hgr⟩ := hrel
    have hr := stay2 (zaa HL) (zaa HR2) (by omega) hgr.kept
    have HG := hide hgr
    by_cases hlj : j < 64
    ·clear hr hgr
     go_wp2_with (at_builtin; refine zd1 _ rfl _ _ 33 rfl 0 9 i0 _ 1 16 Tryz.underlying33 hi hz0 hz1 hz2 rfl (by decide) a3 (k + j) c3 (rep (mkT mk) (k + j)) rfl ((zaa HG).lm.alloc _) ⟨wr.heap.size, 0, none⟩ 1 1 (mkT mk) rfl rfl (World.news_of_block (heap_alloc_new wr _)) (zj5 mk) (by decide) (by unfold maxLen; omega) (by omega) (Nat.zero_le _) ?_)
     intro a4 c4 w4 hown4 hpart4
     have hm4 : Lm w4 0 9 (mkT mk) (.slice a4 (k + j + 1) c4) (k + j + 1) := by unfold Lm; rw [rep_one]; exact hown4
     have HG4 := hide (((zaa HG).kept0 ((Kept.refl [] wr).alloc _)).one (zaa HF2) hpart4 hm4)
     clear hown4 hpart4 hm4
     go_wp2_with fail
     go_roundg (64 - (j + 1))
     case measure => omega
     case rel => exact ⟨j + 1, a4, c4, by omega, rfl, rfl, by go_num, zaa HG4⟩
    ·have hj64 : j = 64 := by omega
     subst hj64
     have HO := hide (zaa HOW a3 c3 wr hgr)
     have HN := hide (zfq hr (show (117 : TypeId) ≠ 9 by decide))
     obtain ⟨r0, rf0⟩ := zab hr 0
     obtain ⟨r1, rf1⟩ := zab hr 1
     obtain ⟨r2, rf2⟩ := zab hr 2
     obtain ⟨r3, rf3⟩ := zab hr 3
     obtain ⟨r4, rf4⟩ := zab hr 4
     clear hr hgr HOW HL
     go_wp2_with fail
     refine bodyPost_ret (v := .agg #[.slice a k cap, .slice a1 (k + 1) c1, .slice a2 (k + 2) c2, .slice a3 (k + 64) c3, .int .i64 mk]) (by simp [results, Tryz.results140, go_sem, r0, r1, r2, r3, r4]) rfl ?_
     refine ⟨a1, a2, a3, c1, c2, c3, rfl, (zaa HO).past (x := w.heap.size) ?_ (Nat.le_refl _) (zaa HN)⟩
     have hm : w.heap.size ∈ [w.heap.size] := List.mem_singleton.2 rfl
     exact (((((Kept.refl _ wr).setCell (p := ⟨w.heap.size, 0, none⟩) (.inl hm) _).setCell (p := ⟨w.heap.size, 1, none⟩) (.inl hm) _).setCell (p := ⟨w.heap.size, 2, none⟩) (.inl hm) _).setCell (p := ⟨w.heap.size, 3, none⟩) (.inl hm) _).setCell (p := ⟨w.heap.size, 4, none⟩) (.inl hm) _
end
end Go.Proofs.YtldkpahaocjdpaaGreat
