/-
  The program's LinksOf: a map from each head's predicate to the predicates of its bodies' literals.
  Plain: what hangs on what, by the links; a search's stack and what it has met.
  The program's Hangs: whether there is a way of links from p to q.
  The program's cycle and Fault.
-/
import Derived.Test.YtldkpahaocjdpaaGreatQueriesT22
import Derived.Maps.AppendAt
set_option maxHeartbeats 16000000
namespace Go.Proofs.YtldkpahaocjdpaaGreat
section
open Go.RowKit Go.Maps
abbrev Edge := ByteArray × ByteArray
def tgt (E : List Edge) (p : ByteArray) : List ByteArray := (E.filter fun e => e.1.toList == p.toList).map (·.2)
def strs (l : List ByteArray) : List Value := l.map Value.string
def zhj (pd : ByteArray) (l : List PLit) : List Edge := l.map fun x => (pd, x.pd)
def zcg (rs : List PRule) : List Edge := rs.flatMap fun R => zhj R.pd R.body
theorem tgt_same (E : List Edge) (p q : ByteArray) : tgt (E ++ [(p, q)]) p = tgt E p ++ [q] := by
 simp [tgt]
theorem zox {E : List Edge} {p q x : ByteArray} (h : x ≠ p) : tgt (E ++ [(p, q)]) x = tgt E x := by
 have h1 : ¬ p.toList = x.toList := fun e => h (zce.1 (by simpa using e.symm))
 simp [tgt, h1]
theorem tgt_len (E : List Edge) (p : ByteArray) : (tgt E p).length ≤ E.length := by
 simp only [tgt, List.length_map]; exact List.length_filter_le _ _
structure Lk (b n : Nat) (E : List Edge) (V : ByteArray → Option Value) (wr : World) : Prop where
 map : SMap Tryz.prog 9 wr b n V
 rows : ∀ p v, V p = some v → wr.ownsRow (b + 1) 9 1 v (tgt E p).length (strs (tgt E p))
 non : ∀ p, V p = none → tgt E p = []
 apart : ∀ p q v u, V p = some v → V q = some u → p ≠ q → v.ownBlock = none ∨ v.ownBlock ≠ u.ownBlock
theorem Lk.below {b n : Nat} {E : List Edge} {V : ByteArray → Option Value} {wr w1 : World} (h : Lk b n E V wr) (hb : Below wr.heap.size wr w1) : Lk b n E V w1 :=
 ⟨h.map.block (hb.block _ h.map.lt), fun p v hv => zai (h.rows p v hv) hb (fun g e => ((h.rows p v hv).lt g e).2), h.non, h.apart⟩
theorem Lk.at_ {b n : Nat} {E : List Edge} {V : ByteArray → Option Value} {wr : World} (h : Lk b n E V wr) (p : ByteArray) : wr.ownsRow (b + 1) 9 1 ((V p).getD (.slice none 0 0)) (tgt E p).length (strs (tgt E p)) := by
 cases hv : V p with
 | none => rw [h.non p hv]; exact World.ownsRow_nil _ _ _ _
 | some v => exact h.rows p v hv
theorem Lk.put {b n : Nat} {E : List Edge} {V : ByteArray → Option Value} {wr w5 w6 : World} (h : Lk b n E V wr) {p q : ByteArray} {v' : Value} (hg : wr.grownBy w5 ((V p).getD (.slice none 0 0)).ownBlock)
  (hown : w5.ownsRow (b + 1) 9 1 v' ((tgt E p).length + 1) (strs (tgt E p) ++ [.string q])) (hloc : v'.ownBlock = ((V p).getD (.slice none 0 0)).ownBlock ∨ v'.ownBlock = some wr.heap.size)
  (hmap : SMap Tryz.prog 9 w6 b (n + 1) (updV V p v')) (hg6 : w5.grownBy w6 (some b)) :
  Lk b (n + 1) (E ++ [(p, q)]) (updV V p v') w6 ∧ Kept (b :: ((V p).getD (.slice none 0 0)).ownBlock.toList) wr w6 := by
 have hu := h.at_ p
 have hne : ∀ x v, V x = some v → x ≠ p → v.ownBlock = none ∨ v.ownBlock ≠ ((V p).getD (.slice none 0 0)).ownBlock := fun x v hv hx => by
  cases hp : V p with
  | none => cases v.ownBlock <;> simp [Value.ownBlock]
  | some u => exact h.apart x p v u hv hp hx
 have hlow : ∀ {v : Value} {m : Nat} {xs : List Value}, w5.ownsRow (b + 1) 9 1 v m xs → w6.ownsRow (b + 1) 9 1 v m xs := fun {v m xs} hv => zbb hv (fun g e => hg6.block g ((hv.lt g e).2) (by have := (hv.lt g e).1; simp; omega))
 have hnew : ∀ x v, V x = some v → x ≠ p → v.ownBlock = none ∨ v.ownBlock ≠ v'.ownBlock := fun x v hv hx => by
  rcases hloc with h1 | h1
  ·rw [h1]; exact hne x v hv hx
  ·cases hvb : v.ownBlock with
   | none => exact .inl rfl
   | some g =>
    refine .inr (fun e => ?_)
    rw [h1] at e
    injection e with e
    have := ((h.rows x v hv).lt g hvb).2
    omega
 refine ⟨⟨hmap, fun x v hv => ?_, fun x hx => ?_, fun x y v u hv hu' hxy => ?_⟩, ?_⟩
 ·by_cases e : x = p
  ·subst e
   rw [zd5] at hv
   injection hv with hv
   subst hv
   rw [tgt_same]
   have := hlow hown
   simpa [strs] using this
  ·rw [zc8 e] at hv
   rw [zox e]
   exact hlow ((h.rows x v hv).kept hg (hne x v hv e))
 ·by_cases e : x = p
  ·subst e; rw [zd5] at hx; cases hx
  ·rw [zc8 e] at hx; rw [zox e]; exact h.non x hx
 ·by_cases e : x = p
  ·subst e
   rw [zd5] at hv
   injection hv with hv
   subst hv
   have hyx : y ≠ x := fun e => hxy e.symm
   rw [zc8 hyx] at hu'
   rcases hnew y u hu' hyx with h1 | h1
   ·cases hb : v'.ownBlock with
    | none => exact .inl rfl
    | some g => exact .inr (by rw [h1]; simp)
   ·exact .inr (fun e => h1 e.symm)
  ·rw [zc8 e] at hv
   by_cases e2 : y = p
   ·subst e2
    rw [zd5] at hu'
    injection hu' with hu'
    subst hu'
    exact hnew x v hv e
   ·rw [zc8 e2] at hu'
    exact h.apart x y v u hv hu' hxy
 ·have hz := hg.size
  have hz6 := hg6.size
  refine ⟨hg6.os.trans hg.os, hg6.tape.trans hg.tape, hg6.output.trans hg.output, by omega, fun k hk hn => ?_⟩
  rw [hg6.block k (by omega) (by simp at hn ⊢; omega), hg.block k hk (fun e => hn (by simp [← e]))]
theorem str_cell (w1 : World) (o : Obj) (x : ByteArray) (j : Nat) (u : Value) (h : ([Value.string x] : List Value)[j]? = some u) : ((w1.alloc o).alloc (Obj.cells #[Value.string x] 9)).cell? ((⟨w1.heap.size + 1, 0, none⟩ : Addr).add j) = some u := by
 have e : (⟨w1.heap.size + 1, 0, none⟩ : Addr).add j = ⟨w1.heap.size + 1, j, none⟩ := by unfold Addr.add; split <;> simp_all
 rw [e, World.cell?_alloc_at _ _ _ _ (by simp)]
 simpa using h
theorem zqg (x : ByteArray) : ∀ u ∈ ([Value.string x] : List Value), u.oneCell' = true := by
 intro u hu; simp at hu; subst hu; rfl
def Est (rs : List PR) (k : Nat) (pd : ByteArray) (ls : List (PLit × Value)) (j : Nat) : List Edge := zcg ((rs.map (·.R)).take k) ++ zhj pd ((ls.map (·.1)).take j)
theorem zkl (l : List PRule) (R : PRule) : zcg (l ++ [R]) = zcg l ++ zhj R.pd R.body := by simp [zcg]
theorem ziw {rs : List PR} {k : Nat} (h : k < rs.length) : (rs.map (·.R)).take (k + 1) = (rs.map (·.R)).take k ++ [rs[k].R] := by
 rw [List.take_succ_eq_append_getElem (by simpa using h)]; simp
theorem edges_next {rs : List PR} {k : Nat} (h : k < rs.length) (he : rs[k].bs.map (·.1) = rs[k].R.body) {j : Nat} (hj : rs[k].bs.length ≤ j) : Est rs k rs[k].R.pd rs[k].bs j = zcg ((rs.map (·.R)).take (k + 1)) := by
 unfold Est
 rw [ziw h, zkl, List.take_of_length_le (l := rs[k].bs.map (·.1)) (by simpa using hj), he]
theorem est_next {rs : List PR} {k : Nat} {pd : ByteArray} {ls : List (PLit × Value)} {j : Nat} (hj : j < ls.length) : Est rs k pd ls (j + 1) = Est rs k pd ls j ++ [(pd, ls[j].1.pd)] := by
 unfold Est
 rw [List.take_succ_eq_append_getElem (by simpa using hj)]
 simp [zhj]
set_option maxRecDepth 100000 in
theorem links_any (w : World) (base : Nat) (ar : Option Addr) (cr : Nat) (rs : List PR) (h : RRow w base (.slice ar rs.length cr) rs) (hpd : ∀ r ∈ rs, r.R.pd.size ≤ 800) (hb3 : ∀ r ∈ rs, r.bs.length ≤ 3) (hr30 : rs.length ≤ 30) :
  Calls Tryz.prog 119 #[.slice ar rs.length cr] w fun e w' => e = .returned (.map (some w.heap.size)) ∧ Below w.heap.size w w' ∧ w.heap.size < w'.heap.size ∧ ∃ V, Lk w.heap.size (zcg (rs.map (·.R))).length (zcg (rs.map (·.R))) V w' := by
 have hmm := @run_makeMap Tryz.prog
 obtain ⟨i0, hi, hz0, hz1, hz2⟩ := info_parts zeh
 have h0 : Lk w.heap.size 0 [] (fun _ => none) (w.alloc (.map #[] 0)) := ⟨SMap.made _ _ w, fun _ _ hv => (by cases hv), fun _ _ => rfl, fun _ _ _ _ hv => (by cases hv)⟩
 have b0 : Below w.heap.size w (w.alloc (.map #[] 0)) := (Below.refl _ _).alloc (Nat.le_refl _) _
 have hE : ∀ k, k ≤ rs.length → (zcg ((rs.map (·.R)).take k)).length ≤ 3 * k := by
  intro k
  induction k with
  | zero => intro _; simp [zcg]
  | succ k ih =>
   intro hk
   rw [ziw (by omega), zkl]
   have h1 := ih (by omega)
   have h2 := hb3 _ (List.getElem_mem (show k < rs.length by omega))
   have h3 := (h.each _ (List.getElem_mem (show k < rs.length by omega))).eq
   have h4 : rs[k].R.body.length = rs[k].bs.length := by rw [← h3]; simp
   simp only [List.length_append, zhj, List.length_map]
   omega
 have HE := hide hE
 have HR := hide h
 clear h hE
 go_enter Tryz.func119, Tryz.ntmps119
 go_wp2_with fail
 go_loopg [12] rs.length (fun gg i wr => ∃ (k : Nat) (V : ByteArray → Option Value), k ≤ rs.length ∧ gg = rs.length - k ∧ i = .int .i64 k ∧ Below w.heap.size w wr ∧ w.heap.size < wr.heap.size ∧ Lk w.heap.size (zcg ((rs.map (·.R)).take k)).length (zcg ((rs.map (·.R)).take k)) V wr)
 case atStart => exact ⟨0, _, Nat.zero_le _, rfl, rfl, b0, by simp, h0⟩
 case round =>
  clear h0 b0
  obtain ⟨k, V, hk, hgk, rfl, hB, hsz, hlk0⟩ := hrel
  by_cases hlk : k < rs.length
  ·have hRw := (zaa HR).below hB
   obtain ⟨gr, capr, hvr, hbgr, hglr, hncr, hcmr, hcr⟩ := zc7 zo0 hRw.row k hlk
   injection hvr with h4 h5 h6
   subst h4 h6
   have hin := hRw.each _ (List.getElem_mem hlk)
   have hin0 := (zaa HR).each _ (List.getElem_mem hlk)
   obtain ⟨ah, ch, hbh⟩ := zac hin.hd
   obtain ⟨ab, cb, hbb⟩ := zac hin.bo.row
   have r0 := hcr 0 (by omega)
   have r1 := hcr 1 (by omega)
   have r2 := hcr 2 (by omega)
   simp only [PR.cells, hbh, hbb, Nat.add_zero, List.getElem?_cons_zero, List.getElem?_cons_succ] at r0 r1 r2
   have bA := (Below.refl wr.heap.size wr).alloc (Nat.le_refl _) (.cells #[.string rs[k].R.pd, .slice ah rs[k].R.ts.length ch, .slice ab rs[k].bs.length cb] 123)
   have hrb : (wr.alloc (.cells #[.string rs[k].R.pd, .slice ah rs[k].R.ts.length ch, .slice ab rs[k].bs.length cb] 123)).heap[wr.heap.size]? = _ := heap_alloc_new wr _
   have hB1 := hB.trans (bA.mono (by omega))
   have hl1 := hlk0.below bA
   have hbo := hin0.bo
   rw [hbb] at hbo
   have HBO := hide hbo
   have HEQ := hide hin0.eq
   have hbl := hb3 _ (List.getElem_mem hlk)
   have hp8 := hpd _ (List.getElem_mem hlk)
   have hkl : rs[k].R.pd.size ≤ maxLen := by unfold maxLen; omega
   have hlen := zaa HE k hk
   have hL0 : Lk w.heap.size (Est rs k rs[k].R.pd rs[k].bs 0).length (Est rs k rs[k].R.pd rs[k].bs 0) V (wr.alloc (.cells #[.string rs[k].R.pd, .slice ah rs[k].R.ts.length ch, .slice ab rs[k].bs.length cb] 123)) := by
    have : Est rs k rs[k].R.pd rs[k].bs 0 = zcg ((rs.map (·.R)).take k) := by simp [Est, zhj]
    rw [this]; exact hl1
   have hlen0 : (Est rs k rs[k].R.pd rs[k].bs 0).length ≤ 3 * k + 0 := by simpa [Est, zhj] using hlen
   clear hcr hin hin0 hbh hbb hl1 hRw hbo hlk0 bA hlen
   generalize hn1 : wr.heap.size = n1 at *
   go_wp2_with fail
   go_loopg [19] rs[k].bs.length (fun gg2 j wj => ∃ (jj : Nat) (V : ByteArray → Option Value), jj ≤ rs[k].bs.length ∧ gg2 = rs[k].bs.length - jj ∧ j = .int .i64 jj ∧ Below w.heap.size w wj ∧ n1 < wj.heap.size ∧ wj.heap[n1]? = some (.cells #[.string rs[k].R.pd, .slice ah rs[k].R.ts.length ch, .slice ab rs[k].bs.length cb] 123 (0, 0)) ∧ Lk w.heap.size (Est rs k rs[k].R.pd rs[k].bs jj).length (Est rs k rs[k].R.pd rs[k].bs jj) V wj ∧ (Est rs k rs[k].R.pd rs[k].bs jj).length ≤ 3 * k + jj)
   case atStart => exact ⟨0, V, Nat.zero_le _, rfl, rfl, hB1, by simp [hn1], hrb, hL0, hlen0⟩
   case round =>
    clear hL0 hlen0 hB1 hrb r0 r1 r2 hB
    obtain ⟨j, V, hj, hgj, rfl, hB, hsz2, hrb, hL, hlen⟩ := hrel
    by_cases hjl : j < rs[k].bs.length
    ·have hbw := (zaa HBO).below hB
     obtain ⟨g, cap, hv, hbg, hgl, hnc, hcm, hc⟩ := zc7 pl_len hbw.row j hjl
     injection hv with h1 h2 h3
     subst h1 h3
     obtain ⟨at1, ct1, hbt⟩ := zac (hbw.each _ (List.getElem_mem hjl))
     have q0 := hc 0 (by omega)
     have q1 := hc 1 (by omega)
     have q2 := hc 2 (by omega)
     simp only [PLit.cells, hbt, Nat.add_zero, List.getElem?_cons_zero, List.getElem?_cons_succ] at q0 q1 q2
     obtain ⟨c0, f0⟩ := zab hrb 0
     have bA := ((Below.refl wr.heap.size wr).alloc (Nat.le_refl _) (.cells #[.bool rs[k].bs[j].1.neg, .string rs[k].bs[j].1.pd, .slice at1 rs[k].bs[j].1.ts.length ct1] 183)).alloc (by simp) (.cells #[.string rs[k].bs[j].1.pd] 9)
     have bA1 := (Below.refl wr.heap.size wr).alloc (Nat.le_refl _) (.cells #[.bool rs[k].bs[j].1.neg, .string rs[k].bs[j].1.pd, .slice at1 rs[k].bs[j].1.ts.length ct1] 183)
     have hmap := (hL.below bA1).map
     have hL2 := hL.below bA
     have hu := hL2.at_ rs[k].R.pd
     obtain ⟨au, cu, heu⟩ := zac hu
     have htl := tgt_len (Est rs k rs[k].R.pd rs[k].bs j) rs[k].R.pd
     have hu' := hu
     rw [heu] at hu'
     have HL2 := hide hL2
     have HEN := hide (est_next (rs := rs) (k := k) (pd := rs[k].R.pd) hjl)
     have hrb2 := (bA.block n1 hsz2).trans hrb
     have HRB := hide hrb2
     have HBA := hide bA
     have HUN := hide (zaz hu' (e := 123) (by decide))
     have HUL := hide (fun g e => (hu'.lt g e).1)
     clear hc hbt hL hL2 hu hrb hrb2 bA bA1 hbw
     go_wp2_with (first | (at_lookup; refine zhn _ rfl _ _ 224 rfl 9 33 Tryz.underlying9 Tryz.underlying224 (Tryz.zeroValue33 _) w.heap.size (Est rs k rs[k].R.pd rs[k].bs j).length V rfl hmap rs[k].R.pd rfl hkl _ heu ?_) | (at_builtin; refine wpList_append_own_at _ rfl _ _ 33 rfl (w.heap.size + 1) 9 i0 _ 1 16 Tryz.underlying33 hi hz0 hz1 hz2 rfl (by decide) _ _ _ rfl hu' ⟨wr.heap.size + 1, 0, none⟩ 1 1 [.string rs[k].bs[j].1.pd] rfl rfl (str_cell wr _ _) (zqg _) (by unfold maxLen; omega) (by omega) (by simp; omega) ?_))
     intro v5 w5 hown5 hg5 hnil5 hloc5
     obtain ⟨a5, cap5, rfl⟩ := zac hown5
     rw [← heu] at hg5 hloc5
     have hz5 := hg5.size
     have hm5 : SMap Tryz.prog 9 w5 w.heap.size (Est rs k rs[k].R.pd rs[k].bs j).length V := (zaa HL2).map.block (hg5.block _ (zaa HL2).map.lt (fun e => by rw [heu] at e; have := zaa HUL _ e.symm; omega))
     have HO5 := hide hown5
     have HG5 := hide hg5
     have HC5 := hide hloc5
     clear hown5 hg5 hnil5 hloc5 hmap hu'
     go_wp2_with (at_mapUpdate; refine zlm _ rfl _ _ _ 224 rfl 9 33 Tryz.underlying9 Tryz.underlying224 w.heap.size (Est rs k rs[k].R.pd rs[k].bs j).length V rfl hm5 (by unfold maxLen; omega) rs[k].R.pd _ (by rfl) (by rfl) hkl ?_)
     intro w6 hm6 hg6
     obtain ⟨hL6, hK6⟩ := (zaa HL2).put (q := rs[k].bs[j].1.pd) (zaa HG5) (zaa HO5) (by simpa using zaa HC5) hm6 hg6
     rw [heu] at hK6
     have hr6 := za1 (zaa HRB) hK6 (fun x hx => by
      rcases List.mem_cons.1 hx with rfl | hx
      ·exact .inl (by omega)
      ·exact .inr (zaa HUN x hx))
     have hB6 : Below w.heap.size w w6 := zar (hB.trans ((zaa HBA).mono (by omega))) hK6 (by simp; omega) (fun x hx => by
      rcases List.mem_cons.1 hx with rfl | hx
      ·omega
      ·have := zaa HUL x (by simpa using hx); omega)
     have hz6 := hK6.size
     simp at hz6
     have HL6 := hide hL6
     have HR6 := hide hr6
     clear hL6 hK6 hr6 hm6 hg6 hm5 HG5 HO5 HC5
     go_wp2_with fail
     go_roundg (rs[k].bs.length - (j + 1))
     case measure => omega
     case rel => exact ⟨j + 1, _, by omega, rfl, by go_num, hB6, by omega, zaa HR6, by rw [zaa HEN, List.length_append]; exact zaa HL6, by rw [zaa HEN]; simp; omega⟩
    ·have HNX := hide (edges_next hlk (zaa HEQ) (j := j) (by omega))
     have HL := hide hL
     clear hL hrb
     go_wp2_with fail
     go_roundg (rs.length - (k + 1))
     case measure => omega
     case rel => exact ⟨k + 1, V, by omega, rfl, by go_num, hB, by omega, by rw [← zaa HNX]; exact zaa HL⟩
  ·have e : (rs.map (·.R)).take k = rs.map (·.R) := List.take_of_length_le (by simp; omega)
   rw [e] at hlk0
   have HL := hide hlk0
   clear hlk0 e
   go_wp2_with fail
   go_ret
   exact ⟨rfl, hB, hsz, V, zaa HL⟩
end
section
open Go.RowKit Go.Maps
inductive Reach (E : List Edge) : ByteArray → ByteArray → Prop where
 | one {a b : ByteArray} (h : (a, b) ∈ E) : Reach E a b
 | next {a b c : ByteArray} (t : Reach E a b) (h : (b, c) ∈ E) : Reach E a c
open Classical in
noncomputable def zhf (E : List Edge) (p q : ByteArray) : Bool := decide (Reach E p q)
theorem zmr {E : List Edge} {p x : ByteArray} : x ∈ tgt E p ↔ (p, x) ∈ E := by
 unfold tgt
 constructor
 ·intro h
  obtain ⟨e, he, rfl⟩ := List.mem_map.1 h
  obtain ⟨h1, h2⟩ := List.mem_filter.1 he
  have : e.1 = p := zce.1 h2
  rw [← this]
  exact h1
 ·intro h
  exact List.mem_map.2 ⟨(p, x), List.mem_filter.2 ⟨h, by simp⟩, rfl⟩
def zfn (met : List ByteArray) (x : ByteArray) : Bool := met.any fun m => m.toList == x.toList
theorem zda {met : List ByteArray} {x : ByteArray} : zfn met x = true ↔ x ∈ met := by
 unfold zfn
 rw [List.any_eq_true]
 constructor
 ·rintro ⟨m, hm, h⟩
  rw [← zce.1 h]; exact hm
 ·intro h; exact ⟨x, h, by simp⟩
def metV (met : List ByteArray) : ByteArray → Option Value := fun k => if zfn met k then some (.agg #[]) else none
theorem metV_put (met : List ByteArray) (x : ByteArray) : updV (metV met) x (.agg #[]) = metV (met ++ [x]) := by
 funext k
 by_cases e : k = x
 ·subst e
  rw [zd5]
  unfold metV
  rw [if_pos (zda.2 (by simp))]
 ·rw [zc8 e]
  unfold metV
  by_cases h : zfn met k = true
  ·rw [if_pos h, if_pos (zda.2 (by have := zda.1 h; simp [this]))]
  ·rw [if_neg h, if_neg (fun h2 => by
    have := zda.1 h2
    simp at this
    rcases this with h3 | h3
    ·exact h (zda.2 h3)
    ·exact e h3)]
def cnt (E : List Edge) (met : List ByteArray) : Nat := (E.filter fun e => !zfn met e.2).length
theorem cnt_mono (met : List ByteArray) (x : ByteArray) : ∀ (l : List Edge), (l.filter fun e => !zfn (met ++ [x]) e.2).length ≤ (l.filter fun e => !zfn met e.2).length
 | [] => Nat.le_refl _
 | e :: r => by
  have ih := cnt_mono met x r
  have mono : zfn met e.2 = true → zfn (met ++ [x]) e.2 = true := fun h => zda.2 (by have := zda.1 h; simp [this])
  simp only [List.filter_cons]
  cases h2 : zfn met e.2 with
  | true => rw [mono h2]; simpa using ih
  | false =>
   cases h3 : zfn (met ++ [x]) e.2 with
   | true => simp; omega
   | false => simp; omega
theorem cnt_less {met : List ByteArray} {x y : ByteArray} (hn : zfn met x = false) : ∀ (l : List Edge), (y, x) ∈ l → (l.filter fun e => !zfn (met ++ [x]) e.2).length + 1 ≤ (l.filter fun e => !zfn met e.2).length
 | [], h => by cases h
 | e :: r, h => by
  have mono : zfn met e.2 = true → zfn (met ++ [x]) e.2 = true := fun h => zda.2 (by have := zda.1 h; simp [this])
  have h1 : zfn (met ++ [x]) x = true := zda.2 (by simp)
  simp only [List.filter_cons]
  rcases List.mem_cons.1 h with he | hr
  ·have := cnt_mono met x r
   subst he
   simp only [h1, hn, Bool.not_true, Bool.not_false, Bool.false_eq_true, if_false, if_true, List.length_cons]
   omega
  ·have ih := cnt_less hn r hr
   cases h2 : zfn met e.2 with
   | true => rw [mono h2]; simpa using ih
   | false =>
    cases h3 : zfn (met ++ [x]) e.2 with
    | true => simp; omega
    | false => simp; omega
theorem cnt_put {E : List Edge} {met : List ByteArray} {x y : ByteArray} (h : (y, x) ∈ E) (hn : zfn met x = false) : cnt E (met ++ [x]) + 1 ≤ cnt E met := cnt_less hn E h
structure Sch (E : List Edge) (p q : ByteArray) (st met : List ByteArray) (now : Option ByteArray) : Prop where
 onStack : ∀ x ∈ st, x = p ∨ Reach E p x
 onMet : ∀ x ∈ met, Reach E p x
 done : ∀ y, (y = p ∨ y ∈ met) → y ∈ st ∨ now = some y ∨ ∀ z ∈ tgt E y, z ≠ q ∧ z ∈ met
theorem Sch.start (E : List Edge) (p q : ByteArray) : Sch E p q [p] [] none :=
 ⟨fun x hx => .inl (by simpa using hx), fun x hx => (by cases hx), fun y hy => .inl (by rcases hy with rfl | h; simp; cases h)⟩
theorem Sch.pop {E : List Edge} {p q x : ByteArray} {st met : List ByteArray} (h : Sch E p q (st ++ [x]) met none) : Sch E p q st met (some x) ∧ (x = p ∨ Reach E p x) := by
 refine ⟨⟨fun y hy => h.onStack y (by simp [hy]), h.onMet, fun y hy => ?_⟩, h.onStack x (by simp)⟩
 rcases h.done y hy with h1 | h1 | h1
 ·simp at h1
  rcases h1 with h1 | h1
  ·exact .inl h1
  ·exact .inr (.inl (by rw [h1]))
 ·cases h1
 ·exact .inr (.inr h1)
theorem zlt {E : List Edge} {p x z : ByteArray} (h : x = p ∨ Reach E p x) (hz : z ∈ tgt E x) : Reach E p z := by
 rcases h with rfl | h
 ·exact .one (zmr.1 hz)
 ·exact .next h (zmr.1 hz)
theorem Sch.push {E : List Edge} {p q x z : ByteArray} {st met : List ByteArray} (h : Sch E p q st met (some x)) (hx : x = p ∨ Reach E p x) (hz : z ∈ tgt E x) : Sch E p q (st ++ [z]) (met ++ [z]) (some x) := by
 have hr := zlt hx hz
 refine ⟨fun y hy => ?_, fun y hy => ?_, fun y hy => ?_⟩
 ·rcases List.mem_append.1 hy with hy | hy
  ·exact h.onStack y hy
  ·simp at hy; subst hy; exact .inr hr
 ·rcases List.mem_append.1 hy with hy | hy
  ·exact h.onMet y hy
  ·simp at hy; subst hy; exact hr
 ·have hy' : (y = p ∨ y ∈ met) ∨ y = z := by
   rcases hy with hy | hy
   ·exact .inl (.inl hy)
   ·rcases List.mem_append.1 hy with hy | hy
    ·exact .inl (.inr hy)
    ·exact .inr (by simpa using hy)
  rcases hy' with hy | rfl
  ·rcases h.done y hy with h1 | h1 | h1
   ·exact .inl (by simp [h1])
   ·exact .inr (.inl h1)
   ·exact .inr (.inr fun u hu => ⟨(h1 u hu).1, by simp [(h1 u hu).2]⟩)
  ·exact .inl (by simp)
theorem Sch.drop {E : List Edge} {p q x : ByteArray} {st met : List ByteArray} (h : Sch E p q st met (some x)) (hd : ∀ z ∈ tgt E x, z ≠ q ∧ z ∈ met) : Sch E p q st met none := by
 refine ⟨h.onStack, h.onMet, fun y hy => ?_⟩
 rcases h.done y hy with h1 | h1 | h1
 ·exact .inl h1
 ·injection h1 with h1; subst h1; exact .inr (.inr hd)
 ·exact .inr (.inr h1)
theorem Sch.ends {E : List Edge} {p q : ByteArray} {met : List ByteArray} (h : Sch E p q [] met none) : zhf E p q = false := by
 have key : ∀ x, Reach E p x → x ≠ q ∧ x ∈ met := by
  intro x hx
  have step : ∀ y, (y = p ∨ y ∈ met) → ∀ z, (y, z) ∈ E → z ≠ q ∧ z ∈ met := fun y hy z hz => by
   rcases h.done y hy with h1 | h1 | h1
   ·cases h1
   ·cases h1
   ·exact h1 z (zmr.2 hz)
  induction hx with
  | one h1 => exact step p (.inl rfl) _ h1
  | next t h1 ih => exact step _ (.inr (ih).2) _ h1
 unfold zhf
 simp only [decide_eq_false_iff_not]
 exact fun hr => (key q hr).1 rfl
theorem hangs_yes {E : List Edge} {p q x : ByteArray} (h : x = p ∨ Reach E p x) (hq : q ∈ tgt E x) : zhf E p q = true := by
 unfold zhf
 simp only [decide_eq_true_eq]
 exact zlt h hq
theorem own_pop {w : World} {base g cap : Nat} {l : List ByteArray} {x : ByteArray} (h : w.ownsRow base 9 1 (.slice (some ⟨g, 0, none⟩) (l ++ [x]).length cap) (l ++ [x]).length (strs (l ++ [x]))) : w.ownsRow base 9 1 (.slice (some ⟨g, 0, none⟩) l.length cap) l.length (strs l) := by
 rcases h.2 with ⟨hv, _⟩ | ⟨g', cap', cur, hv, hb, hgg, hn, hc, hs, ht⟩
 ·cases hv
 ·injection hv with h1 h2 h3
  injection h1 with h1
  injection h1 with h1
  subst h1 h3
  refine ⟨by simp [strs], .inr ⟨g, cap, cur, rfl, hb, hgg, by simp at hn; omega, hc, hs, ?_⟩⟩
  have h4 := congrArg (List.take l.length) ht
  rw [List.take_take] at h4
  simp [strs] at h4 ⊢
  exact h4
theorem own_last {w : World} {base : Nat} {v : Value} {l : List ByteArray} {x : ByteArray} (h : w.ownsRow base 9 1 v (l ++ [x]).length (strs (l ++ [x]))) : ∃ g cap, v = .slice (some ⟨g, 0, none⟩) (l ++ [x]).length cap ∧ base ≤ g ∧ g < w.heap.size ∧ (l ++ [x]).length ≤ cap ∧ cap ≤ maxLen ∧ w.cell? ⟨g, l.length, none⟩ = some (.string x) := by
 rcases h.2 with ⟨_, h0⟩ | ⟨g, cap, cur, rfl, hb, hgg, hn, hc, hs, ht⟩
 ·simp at h0
 ·refine ⟨g, cap, rfl, hb, (Array.getElem?_eq_some_iff.1 hgg).1, hn, hc, ?_⟩
  rw [h.cellAt l.length (by simp)]
  simp [strs]
theorem own_str {w : World} {base : Nat} {v : Value} {l : List ByteArray} (h : w.ownsRow base 9 1 v l.length (strs l)) (k : Nat) (hk : k < l.length) : ∃ g cap, v = .slice (some ⟨g, 0, none⟩) l.length cap ∧ base ≤ g ∧ g < w.heap.size ∧ l.length ≤ cap ∧ cap ≤ maxLen ∧ w.cell? ⟨g, k, none⟩ = some (.string l[k]) := by
 rcases h.2 with ⟨_, h0⟩ | ⟨g, cap, cur, rfl, hb, hgg, hn, hc, hs, ht⟩
 ·omega
 ·refine ⟨g, cap, rfl, hb, (Array.getElem?_eq_some_iff.1 hgg).1, hn, hc, ?_⟩
  rw [h.cellAt k (by omega)]
  simp [strs, hk]
end
section
open Go.RowKit Go.Maps
structure HgInv (w : World) (st met : List ByteArray) (v : Value) (wr : World) : Prop where
 row : wr.ownsRow (w.heap.size + 1) 9 1 v st.length (strs st)
 map : SMap Tryz.prog 9 wr w.heap.size met.length (metV met)
 below : Below w.heap.size w wr
 sz : w.heap.size < wr.heap.size
theorem HgInv.alloc {w : World} {st met : List ByteArray} {v : Value} {wr : World} (h : HgInv w st met v wr) (o : Obj) : HgInv w st met v (wr.alloc o) :=
 have hs := h.sz
 ⟨h.row.alloc o, h.map.alloc o, h.below.alloc (by omega) _, by simp; omega⟩
theorem HgInv.put {w : World} {st met : List ByteArray} {v : Value} {wr w1 : World} (h : HgInv w st met v wr) {x : ByteArray} (hm : SMap Tryz.prog 9 w1 w.heap.size (met.length + 1) (updV (metV met) x (.agg #[]))) (hg : wr.grownBy w1 (some w.heap.size)) : HgInv w st (met ++ [x]) v w1 := by
 have hs := h.sz
 have hz := hg.size
 refine ⟨zbb h.row (fun g e => hg.block g ((h.row.lt g e).2) (by have := (h.row.lt g e).1; simp; omega)), ?_, ?_, by omega⟩
 ·rw [metV_put] at hm; simpa using hm
 ·exact h.below.trans ⟨hg.os, hg.tape, hg.output, hg.size, fun i hi => hg.block i (by omega) (by simp; omega)⟩
theorem HgInv.push {w : World} {st met : List ByteArray} {v v' : Value} {wr w1 : World} (h : HgInv w st met v wr) {x : ByteArray} (hown : w1.ownsRow (w.heap.size + 1) 9 1 v' (st.length + 1) (strs st ++ [.string x])) (hg : wr.grownBy w1 v.ownBlock) : HgInv w (st ++ [x]) met v' w1 := by
 have hs := h.sz
 have hz := hg.size
 have hr : ∀ g, v.ownBlock = some g → w.heap.size + 1 ≤ g := fun g e => (h.row.lt g e).1
 refine ⟨by simpa [strs] using hown, h.map.block (hg.block _ hs (fun e => by have := hr _ e.symm; omega)), ?_, by omega⟩
 exact h.below.trans ⟨hg.os, hg.tape, hg.output, hg.size, fun i hi => hg.block i (by omega) (fun e => by have := hr _ e.symm; omega)⟩
theorem hg_start (w : World) (p : ByteArray) : HgInv w [p] [] (.slice (some ⟨w.heap.size + 1, 0, none⟩) 1 1) ((w.alloc (.map #[] 0)).alloc (.cells #[.string p] 9)) := by
 refine ⟨⟨by simp [strs], .inr ⟨w.heap.size + 1, 1, #[.string p], rfl, Nat.le_refl _, ?_, Nat.le_refl _, by unfold maxLen; omega, by simp, by simp [strs]⟩⟩, ?_, ((Below.refl _ _).alloc (Nat.le_refl _) _).alloc (by simp) _, by simp; omega⟩
 ·have := heap_alloc_new (w.alloc (.map #[] 0)) (.cells #[.string p] 9)
  rw [World.size_alloc] at this
  exact this
 ·exact (SMap.made Tryz.prog 9 w).alloc _
theorem zoa (w1 : World) (x : ByteArray) (j : Nat) (u : Value) (h : ([Value.string x] : List Value)[j]? = some u) : (w1.alloc (Obj.cells #[Value.string x] 9)).cell? ((⟨w1.heap.size, 0, none⟩ : Addr).add j) = some u := cell_one_new w1 _ _ j u h
theorem cnt_nil (E : List Edge) : cnt E [] ≤ E.length := List.length_filter_le _ _
set_option maxRecDepth 100000 in
theorem hangs_p_any (w : World) (b n : Nat) (E : List Edge) (V : ByteArray → Option Value) (p q : ByteArray) (h : Lk b n E V w) (hE : E.length ≤ 1000) (hpd : ∀ e ∈ E, e.2.size ≤ 800) (hp8 : p.size ≤ 800) :
  Calls Tryz.prog 120 #[.map (some b), .string p, .string q] w fun e w' => e = .returned (.bool (zhf E p q)) ∧ Below w.heap.size w w' := by
 have hmm := @run_makeMap Tryz.prog
 obtain ⟨i0, hi, hz0, hz1, hz2⟩ := info_parts zeh
 have h0 := hg_start w p
 have hc0 := cnt_nil E
 have HL := hide h
 have hwb : b < w.heap.size := h.map.lt
 clear h
 go_enter Tryz.func120, Tryz.ntmps120
 go_wp2_with fail
 go_loopg [8] (E.length + 2) (fun gg v wr => ∃ (st met : List ByteArray), st.length + cnt E met ≤ gg ∧ st.length + cnt E met ≤ E.length + 1 ∧ met.length + cnt E met ≤ E.length ∧ (∀ x ∈ st, x.size ≤ 800) ∧ Sch E p q st met none ∧ HgInv w st met v wr)
 case atStart => exact ⟨[p], [], by simp; omega, by simp; omega, by simpa using hc0, by simpa using hp8, Sch.start E p q, h0⟩
 case round =>
  clear h0 hc0
  obtain ⟨st, met, hgg, hge, hmc, hs8, hsch, hinv⟩ := hrel
  rcases List.eq_nil_or_concat st with rfl | ⟨st', x, rfl⟩
  ·obtain ⟨a1, c1, rfl⟩ := zac hinv.row
   have HS := hide hsch.ends
   have HI := hide hinv
   clear hsch hinv
   go_wp2_with fail
   go_ret
   exact ⟨by rw [zaa HS]; rfl, (zaa HI).below⟩
  ·rw [List.concat_eq_append] at hgg hge hs8 hsch hinv
   obtain ⟨g, cap, rfl, hbg, hgl, hnc, hcm, hcell⟩ := own_last hinv.row
   have hpop := own_pop hinv.row
   obtain ⟨hsch2, hreach⟩ := hsch.pop
   have hlen : ((st' ++ [x]).length : Int) = (st'.length : Int) + 1 := by simp
   have hl1 : (st' ++ [x]).length = st'.length + 1 := by simp
   rw [hl1] at hgg hge hnc
   have hx8 : x.size ≤ 800 := hs8 x (by simp)
   have hxl : x.size ≤ maxLen := by unfold maxLen; omega
   have hs8' : ∀ y ∈ st', y.size ≤ 800 := fun y hy => hs8 y (by simp [hy])
   have hlw := (zaa HL).below hinv.below
   have hu := hlw.at_ x
   obtain ⟨au, cu, heu⟩ := zac hu
   have hlm := hlw.map
   have hum := zbt hu
   unfold maxLen at hcm hum
   have hI2 : HgInv w st' met (.slice (some ⟨g, 0, none⟩) st'.length cap) wr := ⟨hpop, hinv.map, hinv.below, hinv.sz⟩
   have HU := hide (show w.ownsRow (b + 1) 9 1 (.slice au (tgt E x).length cu) (tgt E x).length (strs (tgt E x)) by rw [← heu]; exact (zaa HL).at_ x)
   clear hsch hinv hpop hlw hu hs8
   rw [hl1]
   go_wp2_with (first | (at_lookup; refine zhn _ rfl _ _ 224 rfl 9 33 Tryz.underlying9 Tryz.underlying224 (Tryz.zeroValue33 _) b n V rfl hlm x rfl hxl _ heu ?_))
   obtain ⟨G, hG, hGk, hGE⟩ : ∃ G, st'.length + cnt E met ≤ G ∧ G < gk ∧ G ≤ E.length := ⟨_, Nat.le_refl _, by omega, by omega⟩
   clear hgg hcell hlm hbg hgl
   go_loopg [8, 35] (tgt E x).length (fun gg2 v i wr => ∃ (j : Nat) (st met : List ByteArray), j ≤ (tgt E x).length ∧ gg2 = (tgt E x).length - j ∧ i = .int .i64 j ∧ st.length + cnt E met ≤ G ∧ met.length + cnt E met ≤ E.length ∧ (∀ y ∈ st, y.size ≤ 800) ∧ Sch E p q st met (some x) ∧ HgInv w st met v wr ∧ ∀ z ∈ (tgt E x).take j, z ≠ q ∧ z ∈ met)
   case atStart => exact ⟨0, st', met, Nat.zero_le _, rfl, rfl, hG, hmc, hs8', hsch2, hI2, by simp⟩
   case round =>
    clear hI2 hsch2 hs8' hmc hG
    obtain ⟨j, st, met, hj, hgj, rfl, hG, hmc, hs8, hsch, hinv, hdone⟩ := hrel
    obtain ⟨a1, c1, rfl⟩ := zac hinv.row
    by_cases hjl : j < (tgt E x).length
    ·have hu := zai (zaa HU) hinv.below (fun g e => ((zaa HU).lt g e).2)
     obtain ⟨g', cap', hv', hbg', hgl', hnc', hcm', hc'⟩ := own_str hu j hjl
     injection hv' with h1 h2 h3
     subst h1 h3
     have hz : (tgt E x)[j] ∈ tgt E x := List.getElem_mem hjl
     have hze := zmr.1 hz
     have hz8 := hpd _ hze
     simp only at hz8
     have hzl : (tgt E x)[j].size ≤ maxLen := by unfold maxLen; omega
     have htake : (tgt E x).take (j + 1) = (tgt E x).take j ++ [(tgt E x)[j]] := List.take_succ_eq_append_getElem hjl
     have HTK := hide htake
     clear hu htake
     generalize hzz : (tgt E x)[j] = z at *
     cases hq : z.toList == q.toList with
     | true =>
      have hzq : z = q := zce.1 hq
      have HR := hide (hangs_yes hreach (q := q) (by rw [← hzq]; exact hz))
      have HI := hide hinv
      clear hinv hsch hdone hzq hG
      go_wp2_with fail
      go_ret
      exact ⟨by rw [zaa HR]; rfl, (zaa HI).below⟩
     | false =>
      have hzq : z ≠ q := fun e => by rw [e] at hq; simp at hq
      have HZQ := hide hzq
      clear hzq
      have hmap := hinv.map
      have hu1 : (metV met z).getD (.agg #[]) = .agg #[] := by unfold metV; split <;> rfl
      cases hm : zfn met z with
      | true =>
       have hc1 : (metV met z).isSome = true := by unfold metV; rw [if_pos hm]; rfl
       have HI := hide (hinv.alloc (.cells #[] 299))
       have HD := hide (show ∀ y ∈ (tgt E x).take (j + 1), y ≠ q ∧ y ∈ met from fun y hy => by
        rw [zaa HTK] at hy
        rcases List.mem_append.1 hy with hy | hy
        ·exact hdone y hy
        ·simp at hy; subst hy; exact ⟨zaa HZQ, zda.1 hm⟩)
       have HS := hide hsch
       clear hinv hdone hsch hm
       go_wp2_with (first | (at_lookup; refine zeg _ rfl _ _ 298 rfl 9 299 Tryz.underlying9 Tryz.underlying298 (Tryz.zeroValue299 _) w.heap.size met.length (metV met) rfl hmap z rfl hzl _ hu1 _ hc1 ?_))
       go_roundg ((tgt E x).length - (j + 1))
       case measure => omega
       case rel => exact ⟨j + 1, st, met, by omega, rfl, by go_num, hG, hmc, hs8, zaa HS, zaa HI, zaa HD⟩
      | false =>
       have hc1 : (metV met z).isSome = false := by unfold metV; rw [hm]; rfl
       have hcp := cnt_put hze hm
       have hI1 := hinv.alloc (.cells #[] 299)
       have hmap1 := hI1.map
       have HI := hide hI1
       have HS := hide (hsch.push hreach hz)
       have HDN := hide hdone
       have hsl : st.length ≤ 1000 := by omega
       clear hinv hsch hm hI1 hdone
       go_wp2_with (first | (at_lookup; refine zeg _ rfl _ _ 298 rfl 9 299 Tryz.underlying9 Tryz.underlying298 (Tryz.zeroValue299 _) w.heap.size met.length (metV met) rfl hmap z rfl hzl _ hu1 _ hc1 ?_) | (at_mapUpdate; refine zlm _ rfl _ _ _ 298 rfl 9 299 Tryz.underlying9 Tryz.underlying298 w.heap.size met.length (metV met) rfl hmap1 (by unfold maxLen; omega) z (.agg #[]) (by rfl) (by rfl) hzl ?_))
       intro w3 hm3 hg3
       have hI3 := (zaa HI).put hm3 hg3
       have hz3 := hI3.sz
       have hownA := hI3.row.alloc (.cells #[.string z] 9)
       have HI3 := hide (hI3.alloc (.cells #[.string z] 9))
       clear hm3 hg3 hmap hmap1 HI hI3
       go_wp2_with (at_builtin; refine wpList_append_own _ rfl _ _ 33 rfl (w.heap.size + 1) 9 i0 _ 1 16 Tryz.underlying33 hi hz0 hz1 hz2 rfl (by decide) _ _ _ rfl hownA ⟨w3.heap.size, 0, none⟩ 1 1 [.string z] rfl rfl (zoa w3 _) (zqg _) (by unfold maxLen; omega) (by omega) (by simp; omega) ?_)
       intro v5 w5 hown5 hg5 hne5
       clear hne5
       obtain ⟨a5, cap5, rfl⟩ := zac hown5
       have hI5 := (zaa HI3).push hown5 hg5
       have HI5 := hide hI5
       clear hown5 hg5 hownA hI5 HI3
       go_wp2_with fail
       go_roundg ((tgt E x).length - (j + 1))
       case measure => omega
       case rel =>
        refine ⟨j + 1, st ++ [z], met ++ [z], by omega, rfl, by go_num, by simp; omega, by simp; omega, fun y hy => ?_, zaa HS, ?_, fun y hy => ?_⟩
        ·rcases List.mem_append.1 hy with hy | hy
         ·exact hs8 y hy
         ·simp at hy; subst hy; exact hz8
        ·have := zaa HI5; simpa using this
        ·rw [zaa HTK] at hy
         rcases List.mem_append.1 hy with hy | hy
         ·exact ⟨(zaa HDN y hy).1, by simp [(zaa HDN y hy).2]⟩
         ·simp at hy; subst hy; exact ⟨zaa HZQ, by simp⟩
    ·have HS := hide (hsch.drop (fun z hz => hdone z (by rw [List.take_of_length_le (by omega)]; exact hz)))
     have HI := hide hinv
     clear hinv hsch hdone
     go_wp2_with fail
     go_roundg G
     case measure => exact hGk
     case rel => exact ⟨st, met, hG, by omega, hmc, hs8, zaa HS, zaa HI⟩
end
section
open Go.RowKit Go.Maps
def zmj (rs : List PRule) (n : Nat) : ByteArray := match rs[n]? with | some R => R.pd | none => { data := #[] }
noncomputable def cycM (rs : List PRule) (M : PMen) : Bool := M.neg && (M.pd.toList == (zmj rs M.num).toList || zhf (zcg rs) M.pd (zmj rs M.num))
noncomputable def zdq (rs : List PRule) : List PMen → Int
 | [] => -1
 | M :: r => if cycM rs M then (M.start : Int) else zdq rs r
theorem cycleP_step {rs : List PRule} {ms : List (PMen × Value)} {k : Nat} (h : k < ms.length) : zdq rs ((ms.map (·.1)).drop k) = if cycM rs ms[k].1 then (ms[k].1.start : Int) else zdq rs ((ms.map (·.1)).drop (k + 1)) := by
 rw [List.drop_eq_getElem_cons (by simpa using h), zdq]; simp
theorem edges_size {rs : List PRule} (h : ∀ R ∈ rs, ∀ l ∈ R.body, l.pd.size ≤ 800) : ∀ e ∈ zcg rs, e.2.size ≤ 800 := by
 intro e he
 obtain ⟨R, hR, he⟩ := List.mem_flatMap.1 he
 obtain ⟨l, hl, rfl⟩ := List.mem_map.1 he
 exact h R hR l hl
theorem edges_len {rs : List PRule} (h : ∀ R ∈ rs, R.body.length ≤ 3) : (zcg rs).length ≤ 3 * rs.length := by
 induction rs with
 | nil => simp [zcg]
 | cons R r ih =>
  have h1 := ih (fun x hx => h x (List.mem_cons_of_mem _ hx))
  have h2 := h R List.mem_cons_self
  have e : zcg (R :: r) = zhj R.pd R.body ++ zcg r := by simp [zcg]
  rw [e, List.length_append, List.length_cons]
  simp only [zhj, List.length_map]
  omega
structure Few (rs : List PR) (ms : List (PMen × Value)) : Prop where
 r30 : rs.length ≤ 30
 m120 : ms.length ≤ 1000
 b3 : ∀ r ∈ rs, r.bs.length ≤ 3
 rpd : ∀ r ∈ rs, r.R.pd.size ≤ 800
 lpd : ∀ R ∈ rs.map (·.R), ∀ l ∈ R.body, l.pd.size ≤ 800
 mpd : ∀ x ∈ ms, x.1.pd.size ≤ 800
 mts : ∀ x ∈ ms, x.1.num < rs.length ∧ x.1.ts.length ≤ 4
set_option maxRecDepth 100000 in
theorem cycle_p_any (w : World) (base : Nat) (ar : Option Addr) (cr : Nat) (rs : List PR) (am : Option Addr) (cm : Nat) (ms : List (PMen × Value)) (h : RRow w base (.slice ar rs.length cr) rs) (h' : MRow w base (.slice am ms.length cm) ms) (hf : Few rs ms) :
  Calls Tryz.prog 77 #[.agg #[.slice ar rs.length cr, .slice am ms.length cm]] w fun e w' => e = ziy (zdq (rs.map (·.R)) (ms.map (·.1))) ∧ Below w.heap.size w w' := by
 obtain ⟨hr30, hm120, hb3, hrpd, hlpd, hmpd, hmts⟩ := hf
 have hE8 := edges_size hlpd
 have hEl : (zcg (rs.map (·.R))).length ≤ 1000 := by
  have := edges_len (rs := rs.map (·.R)) (fun R hR => by
   obtain ⟨r, hr, rfl⟩ := List.mem_map.1 hR
   have h1 := hb3 r hr
   have h2 := (h.each r hr).eq
   rw [← h2]; simpa using h1)
  simp at this
  omega
 have h0 := UnbInv.start h h'
 have hrx := zbt h.row
 unfold maxLen at hrx
 have hRb := h0.rules
 obtain ⟨x1, xf1⟩ := zab h0.box 1
 clear h h'
 go_enter Tryz.func77, Tryz.ntmps77
 go_wp2_with fail
 refine (links_any _ base ar cr rs hRb hrpd hb3 hr30).mono ?_
 rintro e w1 ⟨rfl, hb1, hz1, V, hlk⟩
 have h1 := h0.next hb1
 obtain ⟨y1, yf1⟩ := zab h1.box 1
 rw [World.size_alloc] at hlk hz1 ⊢
 clear h0 hRb x1 xf1 hb1
 go_wp2_with fail
 go_loopg [15] ms.length (fun gg i wr => ∃ k : Nat, k ≤ ms.length ∧ gg = ms.length - k ∧ i = .int .i64 k ∧ UnbInv w base (.slice ar rs.length cr) (.slice am ms.length cm) rs ms wr ∧ Lk (w.heap.size + 1) (zcg (rs.map (·.R))).length (zcg (rs.map (·.R))) V wr ∧ zdq (rs.map (·.R)) (ms.map (·.1)) = zdq (rs.map (·.R)) ((ms.map (·.1)).drop k))
 case atStart => exact ⟨0, Nat.zero_le _, rfl, rfl, h1, hlk, rfl⟩
 case round =>
  clear h1 hlk y1 yf1 hz1
  obtain ⟨k, hk, hgk, rfl, hinv, hlk, hfin⟩ := hrel
  have HF := hide hfin
  clear hfin
  by_cases hlkk : k < ms.length
  ·have HF2 := hide ((zaa HF).trans (cycleP_step hlkk))
   obtain ⟨g, cap, hv, hbg, hgl, hnc, hcm, hc⟩ := zc7 zqm hinv.men.row k hlkk
   injection hv with h1 h2 h3
   subst h1 h3
   obtain ⟨at1, ct1, hbt⟩ := zac (hinv.men.each _ (List.getElem_mem hlkk))
   have q0 := hc 0 (by omega)
   have q1 := hc 1 (by omega)
   have q2 := hc 2 (by omega)
   have q3 := hc 3 (by omega)
   have q4 := hc 4 (by omega)
   have q5 := hc 5 (by omega)
   have q6 := hc 6 (by omega)
   have q7 := hc 7 (by omega)
   have q8 := hc 8 (by omega)
   have q9 := hc 9 (by omega)
   simp only [PMen.cells, hbt, Nat.add_zero, List.getElem?_cons_zero, List.getElem?_cons_succ] at q0 q1 q2 q3 q4 q5 q6 q7 q8 q9
   obtain ⟨hnum, hts⟩ := hmts _ (List.getElem_mem hlkk)
   obtain ⟨gr, capr, hvr, hbgr, hglr, hncr, hcmr, hcr⟩ := zc7 zo0 hinv.rules.row ms[k].1.num hnum
   injection hvr with h4 h5 h6
   subst h4 h6
   have r0 := hcr 0 (by omega)
   simp only [PR.cells, Nat.add_zero, List.getElem?_cons_zero] at r0
   obtain ⟨x0, xf0⟩ := zab hinv.box 0
   have bA := (Below.refl wr.heap.size wr).alloc (Nat.le_refl _) (.cells #[.int .i64 ms[k].1.num, .bool ms[k].1.neg, .string ms[k].1.pd, .slice at1 ms[k].1.ts.length ct1, .int .i64 ms[k].1.start, .int .i64 ms[k].1.place, .int .i64 (ms[k].1.pl 0), .int .i64 (ms[k].1.pl 1), .int .i64 (ms[k].1.pl 2), .int .i64 (ms[k].1.pl 3)] 221)
   have hI := hinv.next bA
   have hL := hlk.below bA
   have hhd : zmj (rs.map (·.R)) ms[k].1.num = rs[ms[k].1.num].R.pd := by
    unfold zmj
    rw [List.getElem?_map, List.getElem?_eq_getElem hnum]
    rfl
   have hp8 := hmpd _ (List.getElem_mem hlkk)
   have hsz := hinv.sz
   have HI := hide hI
   clear hc hcr HF hinv hlk hI hbt bA
   have hcyc : cycM (rs.map (·.R)) ms[k].1 = (ms[k].1.neg && (ms[k].1.pd.toList == rs[ms[k].1.num].R.pd.toList || zhf (zcg (rs.map (·.R))) ms[k].1.pd rs[ms[k].1.num].R.pd)) := by unfold cycM; rw [hhd]
   rw [hcyc] at HF2
   clear hhd hcyc
   cases hneg : ms[k].1.neg with
   | false =>
    rw [hneg] at HF2 q1 HI
    have HF3 := hide (show zdq (rs.map (·.R)) (ms.map (·.1)) = zdq (rs.map (·.R)) ((ms.map (·.1)).drop (k + 1)) from zaa HF2)
    rw [hneg] at hL
    have HL := hide hL
    clear HF2 hneg hL
    go_wp2_with fail
    go_roundg (ms.length - (k + 1))
    case measure => omega
    case rel => exact ⟨k + 1, by omega, rfl, by go_num, zaa HI, zaa HL, zaa HF3⟩
   | true =>
    rw [hneg] at HF2 q1 HI hL
    have HN := hide hneg
    clear hneg
    cases heq : ms[k].1.pd.toList == rs[ms[k].1.num].R.pd.toList with
    | true =>
     rw [heq] at HF2
     have HF3 := hide (show zdq (rs.map (·.R)) (ms.map (·.1)) = (ms[k].1.start : Int) from zaa HF2)
     clear HF2 hL
     go_wp2_with fail
     go_ret2
     refine ⟨?_, (zaa HI).below⟩
     rw [zaa HF3]
     unfold ziy
     rw [if_pos (by omega)]
     simp
    | false =>
     rw [heq] at HF2
     go_wp2_with fail
     refine (hangs_p_any _ (w.heap.size + 1) _ (zcg (rs.map (·.R))) V ms[k].1.pd rs[ms[k].1.num].R.pd hL hEl hE8 hp8).mono ?_
     rintro e w2 ⟨rfl, hb2⟩
     have hz2 := hb2.size
     rw [World.size_alloc] at hz2
     have hmn : (wr.alloc (.cells #[.int .i64 ms[k].1.num, .bool true, .string ms[k].1.pd, .slice at1 ms[k].1.ts.length ct1, .int .i64 ms[k].1.start, .int .i64 ms[k].1.place, .int .i64 (ms[k].1.pl 0), .int .i64 (ms[k].1.pl 1), .int .i64 (ms[k].1.pl 2), .int .i64 (ms[k].1.pl 3)] 221)).heap[wr.heap.size]? = _ := heap_alloc_new wr _
     have hmn2 := (hb2.block wr.heap.size (by simp)).trans hmn
     obtain ⟨z4, zf4⟩ := zab hmn2 4
     have HI2 := hide ((zaa HI).next hb2)
     have HL2 := hide (hL.below hb2)
     clear q0 q1 q2 q3 q4 q5 q6 q7 q8 q9 r0 x0 xf0 hL HI hmn hmn2
     cases hh : zhf (zcg (rs.map (·.R))) ms[k].1.pd rs[ms[k].1.num].R.pd with
     | true =>
      rw [hh] at HF2
      have HF3 := hide (show zdq (rs.map (·.R)) (ms.map (·.1)) = (ms[k].1.start : Int) from zaa HF2)
      clear HF2 hh
      go_wp2_with fail
      go_ret2
      refine ⟨?_, (zaa HI2).below⟩
      rw [zaa HF3]
      unfold ziy
      rw [if_pos (by omega)]
      simp
     | false =>
      rw [hh] at HF2
      have HF3 := hide (show zdq (rs.map (·.R)) (ms.map (·.1)) = zdq (rs.map (·.R)) ((ms.map (·.1)).drop (k + 1)) from zaa HF2)
      clear HF2 hh z4 zf4
      go_wp2_with fail
      go_roundg (ms.length - (k + 1))
      case measure => omega
      case rel => exact ⟨k + 1, by omega, rfl, by go_num, zaa HI2, zaa HL2, zaa HF3⟩
  ·have HF2 := hide (show zdq (rs.map (·.R)) (ms.map (·.1)) = -1 by rw [zaa HF, List.drop_of_length_le (by simp; omega)]; rfl)
   have HI := hide hinv
   clear HF hinv hlk
   go_wp2_with fail
   go_ret2
   exact ⟨by rw [zaa HF2]; rfl, (zaa HI).below⟩
end
end Go.Proofs.YtldkpahaocjdpaaGreat
