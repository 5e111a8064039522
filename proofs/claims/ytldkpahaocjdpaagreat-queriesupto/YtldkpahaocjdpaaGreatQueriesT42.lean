/-
  maps.Copy, where nothing that comes is there.
  climb: a stratum, height by height.
  A thing's text: as its atom is written.
  slices.Sort over texts, over a row that the call has made.
  Matching: the texts of the things that match, rising.
-/
import Derived.Test.YtldkpahaocjdpaaGreatQueriesT40
import Derived.Test.YtldkpahaocjdpaaGreatQueriesT41
import Derived.Test.YtldkpahaocjdpaaGreatQueriesT27
import Derived.Test.YtldkpahaocjdpaaGreatQueriesT24
import Derived.Shelf.Strings.Builder1
import Derived.Test.YtldkpahaocjdpaaGreatProg
import Derived.Shelf.Sort.Plain
import Derived.Shelf.Slices.In.SortNone
import Derived.Sort.OwnSorted
import Derived.Test.YtldkpahaocjdpaaGreatQueriesT23
set_option maxHeartbeats 16000000
namespace Go.Proofs.YtldkpahaocjdpaaGreat
section
open Go.RowKit Go.Maps
attribute [local go_sem ↓] zh0 zgq zgu zgl
attribute [local go_sem] zfx zfr
theorem zn5 {L : List (Th × Nat)} {t : Th} (h : ∀ n, (t, n) ∉ L) : zcq L t = none := by
 cases hl : zcq L t with
 | none => rfl
 | some n => exact absurd (zd9 hl) (h n)
structure CopyIn (w : World) (db sb rb : Nat) (D S : List (Th × Nat)) (Lf : Th → Prop) (S1 : List (Th × Nat)) (cnt : Nat) (wr : World) : Prop where
 rg : HRange wr sb rb S Lf cnt
 m : HMap wr db (D ++ S1)
 mem : ∀ p, p ∈ S1 ↔ p ∈ S ∧ ¬ Lf p.1
 len : S1.length + cnt ≤ S.length
 k : Kept [db] w wr
def CopyPost (w : World) (db : Nat) (D S : List (Th × Nat)) (en : Ending) (w' : World) : Prop := (∃ v, en = .returned v) ∧ Kept [db] w w' ∧ ∃ S', HMap w' db (D ++ S') ∧ (∀ p, p ∈ S' ↔ p ∈ S) ∧ S'.length ≤ S.length
set_option maxRecDepth 100000 in
theorem copy_any (w : World) (db sb : Nat) (D S : List (Th × Nat)) (hd : HMap w db D) (hs : HMap w sb S) (hne : db ≠ sb) (hdis : ∀ p ∈ S, zcq D p.1 = none) (hl : D.length + S.length ≤ 1000000) :
  Calls Tryz.prog 100 #[.map (some db), .map (some sb)] w (CopyPost w db D S) := by
 have HD := hide hd
 have HS := hide hs
 have HDIS := hide hdis
 have hdl := hd.lt
 have hsl := hs.lt
 clear hd hdis
 go_enter Tryz.func100, Tryz.ntmps100
 go_wp2_with (first | (at_range; refine zkp _ rfl _ 83 rfl Tryz.underlying83 sb S rfl hs ?_; intro w1 hrg1 hg1 hs1) | go_in)
 try go_frame
 have h0 : CopyIn w db sb w.heap.size D S (fun _ => True) [] S.length w1 := by
  refine ⟨hrg1, by rw [List.append_nil]; exact (zaa HD).kept hg1 (by simp), fun p => ⟨fun h => absurd h List.not_mem_nil, fun h => absurd trivial h.2⟩, by simp, ⟨hg1.os, hg1.tape, hg1.output, hg1.size, fun j hj _ => hg1.block j hj (by simp)⟩⟩
 clear hrg1 hg1 hs1 hs
 go_loopg [] S.length (fun gg wr => ∃ (Lf : Th → Prop) (S1 : List (Th × Nat)), CopyIn w db sb w.heap.size D S Lf S1 gg wr)
 case atStart => exact ⟨_, _, h0⟩
 case round =>
  clear h0
  obtain ⟨Lf, S1, hin⟩ := hrel
  have hrg := hin.rg
  have HIN := hide hin
  clear hin
  go_wp2_with (first | (at_next; refine zmp _ rfl _ rfl sb w.heap.size S Lf gk rfl hrg ?_ ?_) | go_in)
  ·intro hdone
   have HDN := hide hdone
   clear hdone hrg
   go_wp2_with fail
   go_end0
   have hin := zaa HIN
   exact ⟨⟨_, rfl⟩, hin.k, S1, hin.m, fun p => ⟨fun h => ((hin.mem p).1 h).1, fun h => (hin.mem p).2 ⟨h, zaa HDN p.1.1 p.1.2 p.2 h⟩⟩, by have := hin.len; omega⟩
  ·intro tp tts n w2 cnt2 htk hlf hrg2 hlt2 hg2 hs2 hen2
   generalize ((tp, tts) : Th) = t at *
   have hin := zaa HIN
   have hkl := hin.k.size
   have hT : ThOk t := hin.rg.map.ok _ htk
   have hm2 : HMap w2 db (D ++ S1) := hin.m.kept hg2 (by simp; omega)
   have hno : zcq (D ++ S1) t = none := zn5 fun m hm => by
    rcases List.mem_append.1 hm with hm | hm
    ·exact zeg (zaa HDIS _ htk) m hm
    ·exact ((hin.mem _).1 hm).2 hlf
   have hput : putN (D ++ S1) t n = D ++ (S1 ++ [(t, n)]) := by unfold putN; rw [hno, List.append_assoc]; rfl
   have hlen := hin.len
   have HT := hide hT
   have HRG2 := hide hrg2
   have HG2 := hide hg2
   have HPUT := hide hput
   have HTK := hide htk
   have HLF := hide hlf
   have HM2 := hide (hm2.alloc (.cells (zbe t).toArray 88))
   have ht2 := (TV.new w2 t).load
   have hll : (D ++ S1).length < maxLen := by unfold maxLen; rw [List.length_append]; omega
   clear hs2 hrg hrg2 hg2 hm2 hno hput htk hlf hin hT
   go_wp2_with (at_mapUpdate; refine wp_hput _ rfl _ _ _ 83 rfl Tryz.underlying83 db (D ++ S1) rfl (zaa HM2) hll t n rfl rfl (zaa HT) ?_; intro w3 hm3 ht3)
   rw [zaa HPUT] at hm3
   have HM3 := hide hm3
   have HT3 := hide ht3
   clear hm3 ht3 ht2 hen2
   go_wp2_with fail
   go_roundg cnt2
   case measure => omega
   case rel =>
    have hin := zaa HIN
    have g2 := zaa HG2
    have g3 := (zaa HT3).grown
    have gk0 : w.heap.size ≤ wr.heap.size := hkl
    refine ⟨fun x => Lf x ∧ ¬ x = t, S1 ++ [(t, n)], ⟨?_, zaa HM3, fun p => ?_, by rw [List.length_append]; simp; omega, ?_⟩⟩
    ·have r2 := zaa HRG2
     refine r2.blocks ?_ ?_
     ·rw [g3.block sb (by have := r2.map.lt; simp; omega) (by simp; omega), Below.heap_alloc _ _ _ r2.map.lt]
     ·rw [g3.block w.heap.size (by have := r2.lt; simp; omega) (by simp; omega), Below.heap_alloc _ _ _ r2.lt]
    ·rw [List.mem_append, hin.mem]
     constructor
     ·rintro (⟨h1, h2⟩ | h1)
      ·exact ⟨h1, fun h => h2 h.1⟩
      ·rw [List.mem_singleton.1 h1]
       exact ⟨zaa HTK, fun h => h.2 rfl⟩
     ·rintro ⟨h1, h2⟩
      by_cases e : p.1 = t
      ·right
       have h3 := zek (hin.rg.map.nodup) h1
       have h4 := zek (hin.rg.map.nodup) (zaa HTK)
       have e1 : p.2 = n := by
        have : zcq S p.1 = some n := by rw [e]; exact h4
        exact Option.some.inj (h3.symm.trans this)
       rw [List.mem_singleton, ← e, ← e1]
      ·left
       exact ⟨h1, fun h => h2 ⟨h, e⟩⟩
    ·have k2 : Kept [db] w w2 := hin.k.grown g2 (fun i e => by cases e; left; omega)
     exact (k2.alloc _).grown g3 (fun i e => by cases e; right; simp)
end
section
open Go.RowKit Go.Maps
def SameCells (w w' : World) : Prop := ∀ (b : Nat) (cs : Array Value) (t : TypeId) (fr : Nat × Nat), w.heap[b]? = some (Obj.cells cs t fr) → w'.heap[b]? = some (Obj.cells cs t fr)
theorem SameCells.row {w w' : World} (h : SameCells w w') {base : Nat} {e : TypeId} {size : Nat} {v : Value} {n : Nat} {xs : List Value} (hr : w.ownsRow base e size v n xs) : w'.ownsRow base e size v n xs := by
 refine zbb hr fun g hg => ?_
 rcases hr.2 with ⟨h0, _⟩ | ⟨g', cap, cur, rfl, hb, hg', _⟩
 ·rw [h0] at hg; cases hg
 ·have e : g' = g := by simpa [Value.ownBlock] using hg
  subst e
  exact (h _ _ _ _ hg').trans hg'.symm
theorem SameCells.lrow {w w' : World} (h : SameCells w w') {base : Nat} {bv : Value} {ls : List (PLit × Value)} (hr : LRow w base bv ls) : LRow w' base bv ls := ⟨h.row hr.row, fun x hx => h.row (hr.each x hx)⟩
theorem SameCells.rrow {w w' : World} (h : SameCells w w') {base : Nat} {rv : Value} {rs : List PR} (hr : RRow w base rv rs) : RRow w' base rv rs := ⟨h.row hr.row, fun r hm => ⟨h.row (hr.each r hm).hd, h.lrow (hr.each r hm).bo, (hr.each r hm).eq⟩⟩
theorem SameCells.of_kept {w w' : World} {kb : Nat} {K : List (Th × Nat)} (hm : HMap w kb K) (k : Kept [kb] w w') : SameCells w w' := fun b cs t fr hb => by
 refine (k.block b (Array.getElem?_eq_some_iff.1 hb).1 ?_).trans hb
 simp only [List.mem_singleton]
 rintro rfl
 obtain ⟨es, c, h⟩ := hm.isMap
 rw [hb] at h; cases h
inductive PClimb (rs : List PR) (limit : Nat) : Nat → List (Th × Nat) → Option (List (Th × Nat)) → Prop
 | over {h : Nat} {K : List (Th × Nat)} (L : List Th) : L.Nodup → (∀ t ∈ L, NewB rs K t) → limit < K.length + L.length → PClimb rs limit h K none
 | done {h : Nat} {K : List (Th × Nat)} : (∀ t, ¬ NewB rs K t) → PClimb rs limit h K (some K)
 | more {h : Nat} {K L : List (Th × Nat)} {r : Option (List (Th × Nat))} : L ≠ [] → (L.map (·.1)).Nodup → (∀ p ∈ L, p.2 = h) → (∀ t, (∃ n, (t, n) ∈ L) ↔ NewB rs K t) → K.length + L.length ≤ limit → PClimb rs limit (h + 1) (K ++ L) r → PClimb rs limit h K r
def Closed (rs : List PR) (TI : Th → Prop) : Prop := ∀ K : List (Th × Nat), (∀ p ∈ K, TI p.1) → ∀ r ∈ rs, RuleOk K r ∧ ∀ e ∈ zbo K (zdy r.bs) [], TI (zc9 e (hdOf r))
theorem Closed.new {rs : List PR} {TI : Th → Prop} (h : Closed rs TI) {K : List (Th × Nat)} (hK : ∀ p ∈ K, TI p.1) {t : Th} (ht : NewB rs K t) : TI t := by
 obtain ⟨_, r, hr, e, he, rfl⟩ := ht
 exact (h K hK r hr).2 e (List.mem_filter.1 he).1
structure ClimbIn (w : World) (kb base : Nat) (rv : Value) (rs : List PR) (limit : Nat) (TI : Th → Prop) (K0 : List (Th × Nat)) (n : Nat) (K : List (Th × Nat)) (wr : World) : Prop where
 m : HMap wr kb K
 ti : ∀ p ∈ K, TI p.1
 len : K.length ≤ limit
 k : Kept [kb] w wr
 n0 : 1 ≤ n
 n1 : n ≤ K.length + 1
 rel : ∀ r, PClimb rs limit n K r → PClimb rs limit 1 K0 r
def ClimbPost (w : World) (kb : Nat) (rs : List PR) (limit : Nat) (TI : Th → Prop) (K : List (Th × Nat)) (en : Ending) (w' : World) : Prop :=
 ∃ r, PClimb rs limit 1 K r ∧ en = .returned (.bool r.isSome) ∧ Kept [kb] w w' ∧ ∀ K', r = some K' → HMap w' kb K' ∧ (∀ p ∈ K', TI p.1) ∧ K'.length ≤ limit
set_option maxRecDepth 100000 in
theorem climb_any (w : World) (kb base : Nat) (ar : Option Addr) (cr : Nat) (rs : List PR) (limit : Nat) (TI : Th → Prop) (K : List (Th × Nat)) (hm : HMap w kb K) (hr : RRow w base (.slice ar rs.length cr) rs) (hcl : Closed rs TI) (hti : ∀ p ∈ K, TI p.1) (hK : K.length ≤ limit) (hl : limit ≤ 50) :
  Calls Tryz.prog 60 #[.map (some kb), .slice ar rs.length cr, .int .i64 (limit : Nat)] w (ClimbPost w kb rs limit TI K) := by
 have HM := hide hm
 have HR := hide hr
 have HCL := hide hcl
 have h0 : ClimbIn w kb base (.slice ar rs.length cr) rs limit TI K 1 K w := ⟨hm, hti, hK, Kept.refl _ _, Nat.le_refl _, by omega, fun _ h => h⟩
 have H0 := hide h0
 have hkl := hm.lt
 clear hm hr hcl hti hK h0
 go_enter Tryz.func60, Tryz.ntmps60
 go_wp2_with fail
 go_loopg [7] (limit + 1 - K.length) (fun gg hv wr => ∃ (n : Nat) (K' : List (Th × Nat)), gg = limit + 1 - K'.length ∧ hv = .int .i64 (n : Nat) ∧ ClimbIn w kb base (.slice ar rs.length cr) rs limit TI K n K' wr)
 case atStart => exact ⟨1, K, rfl, rfl, zaa H0⟩
 case round =>
  clear H0
  obtain ⟨n, K', hgk, rfl, hin⟩ := hrel
  have hk' := hin.len
  have hn1 := hin.n1
  have HN := hide (next_any wr kb base ar cr rs K' n limit hin.m ((SameCells.of_kept (zaa HM) hin.k).rrow (zaa HR)) (fun r hr => (zaa HCL K' hin.ti r hr).1) hin.len hl)
  have HIN := hide hin
  clear hin
  have HMK := hide (fun (w1 : World) (hb1 : Below wr.heap.size wr w1) => (zaa HIN).m.block (hb1.block kb (zaa HIN).m.lt))
  have hklr := (zaa HIN).m.lt
  go_wp2_with fail
  refine (zaa HN).mono ?_
  rintro en w1 ⟨hb1, ⟨fb, L, rfl, hfb, hmf, hh, hnew, hlen⟩ | ⟨rfl, L, hnd, hnb, hov⟩⟩
  ·have hln := hmf.len Tryz.underlying83
   have HCP := hide (copy_any w1 kb fb K' L (zaa HMK w1 hb1) hmf (by omega) (fun p hp => ((hnew p.1).1 (by rw [zek hmf.nodup hp]; rfl)).1) (by omega))
   have HB1 := hide hb1
   have HH := hide hh
   have HNEW := hide hnew
   have HMF := hide hmf
   have hw1 := hb1.size
   clear hb1 hh hnew hmf
   cases hL : L with
   | nil =>
    subst hL
    go_wp2_with fail
    go_ret
    have hin := zaa HIN
    exact ⟨some K', hin.rel _ (.done fun t ht => by have := (zaa HNEW t).2 ht; cases this), rfl, hin.k.of_below (zaa HB1), fun K2 e => by cases e; exact ⟨zaa HMK w1 (zaa HB1), hin.ti, hin.len⟩⟩
   | cons p tl =>
    have hz : (L.length : Int) ≠ 0 := by rw [hL]; simp; omega
    have hpos : 0 < L.length := by rw [hL]; simp
    clear hL
    go_wp2_with (go_at_call 100; refine (zaa HCP).mono ?_; rintro en w2 ⟨⟨v2, rfl⟩, hk2, S', hm2, hs2, hl2⟩; have HK2 := hide hk2; have HM2 := hide hm2; have HS2 := hide hs2; clear hk2 hm2 hs2)
    have hs' : 0 < S'.length := by
     cases hS : S' with
     | nil =>
      exfalso
      cases hL : L with
      | nil => rw [hL] at hpos; simp at hpos
      | cons q tl => have := (zaa HS2 q).2 (by rw [hL]; exact List.mem_cons_self); rw [hS] at this; cases this
     | cons q tl => simp
    have hnew : ∀ t, (∃ m, (t, m) ∈ S') ↔ NewB rs K' t := fun t => by
     rw [← zaa HNEW t]
     constructor
     ·rintro ⟨m, hm⟩
      rw [zek (zaa HMF).nodup ((zaa HS2 _).1 hm)]; rfl
     ·intro h
      obtain ⟨m, hm⟩ := Option.isSome_iff_exists.1 h
      exact ⟨m, (zaa HS2 _).2 (zd9 hm)⟩
    go_roundg (limit + 1 - (K' ++ S').length)
    case measure => rw [List.length_append]; omega
    case rel =>
     have hin := zaa HIN
     refine ⟨n + 1, K' ++ S', rfl, by go_num, zaa HM2, fun q hq => ?_, by rw [List.length_append]; omega, (hin.k.of_below (zaa HB1)).trans (zaa HK2), by omega, by rw [List.length_append]; omega, fun r hr => hin.rel r (.more (fun e => by rw [e] at hs'; simp at hs') (by have hnd := (zaa HM2).nodup; rw [List.map_append, List.nodup_append] at hnd; exact hnd.2.1) (fun q hq => zaa HH q ((zaa HS2 q).1 hq)) hnew (by omega) hr)⟩
     rcases List.mem_append.1 hq with hq | hq
     ·exact hin.ti q hq
     ·exact (zaa HCL).new hin.ti ((hnew q.1).1 ⟨q.2, hq⟩)
  ·have HB1 := hide hb1
   clear hb1
   go_wp2_with fail
   go_ret
   have hin := zaa HIN
   exact ⟨none, hin.rel _ (.over L hnd hnb hov), rfl, hin.k.of_below (zaa HB1), fun K2 e => by cases e⟩
end
section
open Go.RowKit Go.Maps
attribute [local go_sem ↓] zh0 zgq zgu zgl
attribute [local go_sem] zfx zfr
set_option maxRecDepth 100000 in
theorem atext_any (w : World) (base : Nat) (pd : ByteArray) (a : Option Addr) (c : Nat) (ts : List (Bool × ByteArray)) (h : w.ownsRow base 191 1 (.slice a ts.length c) ts.length (zbm ts)) (hlen : (zeu pd ts).length ≤ 1000000000) :
  Calls Tryz.prog 102 #[.agg #[.string pd, .slice a ts.length c]] w fun e w' => e = .returned (.string ⟨(zeu pd ts).toArray⟩) ∧ Below w.heap.size w w' := by
 have b1 := (Below.refl w.heap.size w).alloc (Nat.le_refl _) (.cells #[.string pd, .slice a ts.length c] 79)
 have h0 : Holds (w.heap.size + 1) (w.heap.size + 1) [] ((w.alloc (.cells #[.string pd, .slice a ts.length c] 79)).alloc (.cells #[.pointer none, .slice none 0 0] 155)) := by
  have := Lib.fresh_isBuilder 155 5 (w.alloc (.cells #[.string pd, .slice a ts.length c] 79))
  rw [World.size_alloc] at this
  exact this
 have b0 := b1.alloc (by simp) (.cells #[.pointer none, .slice none 0 0] 155)
 have hr := zai h b0 (fun g e => (h.lt g e).2)
 have HW := hide (watom_any (w.heap.size + 1) (w.heap.size + 1) [] pd a c base ts _ h0 hr (by simpa using hlen) (by simp))
 have HB0 := hide b0
 clear h h0 b0 b1 hr
 go_enter Tryz.func102, Tryz.ntmps102
 go_wp2_with (go_at_call 110; refine (zaa HW).mono ?_; rintro e w1 ⟨rfl, h1, hb1, -, hz1⟩)
 refine (Tryz.Builder_String_any (w.heap.size + 1) (w.heap.size + 1) _ _ h1 hz1).mono ?_
 rintro e w2 ⟨rfl, hb2⟩
 have HB := hide ((zaa HB0).trans ((hb1.trans hb2).mono (by omega)))
 clear h1 hb1 hz1 hb2
 go_wp2_with fail
 go_ret
 exact ⟨rfl, zaa HB⟩
def zb7 (t : Th) : List (Bool × ByteArray) := t.2.map fun x => (false, x)
def zc7 (t : Th) : ByteArray := ⟨(zeu t.1 (zb7 t)).toArray⟩
structure TTIn (w : World) (t : Th) (l : List ByteArray) (tv : Value) (wr : World) : Prop where
 th : TV wr w.heap.size t
 at_ : wr.heap[w.heap.size + 1]? = some (.cells #[.string t.1, tv] 79 (0, 0))
 row : wr.ownsRow (w.heap.size + 1 + 1) 191 1 tv l.length (zbm (l.map fun x => (false, x)))
 k : Below w.heap.size w wr
theorem zj0 (s : ByteArray) : s.toList.length = s.size := by rw [ByteArray.toList_eq]; exact zcz s
theorem tt_keep {w : World} {t : Th} {l : List ByteArray} {a1 a5 : Option Addr} {c1 c5 : Nat} {wr w5 : World} {o : Obj} {x : ByteArray} (hwr : w.heap.size + 1 < wr.heap.size) (hown : w5.ownsRow (w.heap.size + 1 + 1) 191 1 (.slice a5 (l.length + 1) c5) (l.length + 1) (zbm (l.map fun x => (false, x)) ++ [zfq false x])) (hg : (wr.alloc o).grownBy w5 (Value.slice a1 l.length c1).ownBlock) (h : TTIn w t l (.slice a1 l.length c1) wr) :
  TTIn w t (l ++ [x]) (.slice a5 (l ++ [x]).length c5) (w5.setCell ⟨w.heap.size + 1, 1, none⟩ (.slice a5 (l.length + 1) c5)) ∧ w5.heap[w.heap.size + 1]? = some (.cells #[.string t.1, .slice a1 l.length c1] 79 (0, 0)) := by
 have hb : ∀ i, i ≤ w.heap.size + 1 → w5.heap[i]? = wr.heap[i]? := fun i hi => by
  rw [hg.block i (by simp; omega) (fun e => by have := (h.row.lt i e.symm).1; omega), Below.heap_alloc _ _ _ (by omega)]
 have hat := (hb _ (Nat.le_refl _)).trans h.at_
 refine ⟨⟨?_, ?_, ?_, ?_⟩, hat⟩
 ·show _ = _
  rw [Below.heap_setCell _ _ _ _ (by simp)]
  exact (hb _ (by omega)).trans h.th
 ·rw [setCell_eq_setRow w5 _ _ _ _ (0, 0) _ hat, setRow_heap _ _ _ _ _ _ hat]
  simp
 ·have e1 : (l ++ [x]).length = l.length + 1 := by simp
  have e2 : zbm ((l ++ [x]).map fun x => (false, x)) = zbm (l.map fun x => (false, x)) ++ [zfq false x] := by simp [zbm]
  rw [e1, e2]
  exact zbb hown (fun g hg' => Below.heap_setCell _ _ _ _ (by have := (hown.lt g hg').1; simp; omega))
 ·have h5 : Below w.heap.size w w5 := ⟨hg.os.trans h.k.os, hg.tape.trans h.k.tape, hg.output.trans h.k.output, Nat.le_trans h.k.size (Nat.le_trans (by simp) hg.size), fun i hi => (hb i (by omega)).trans (h.k.block i hi)⟩
  exact h5.setCell (p := ⟨w.heap.size + 1, 1, none⟩) (by simp) _
set_option maxRecDepth 100000 in
theorem thtext_any (w : World) (t : Th) (ht : ThOk t) (hlen : (zeu t.1 (zb7 t)).length ≤ 1000000000) :
  Calls Tryz.prog 63 #[thV t] w fun e w' => e = .returned (.string (zc7 t)) ∧ Below w.heap.size w w' := by
 obtain ⟨i0, hi, hz0, hz1, hz2⟩ := info_parts zpe
 obtain ⟨ct, hct⟩ : ∃ ct, ct = (zbe t).toArray := ⟨_, rfl⟩
 have HCT := hide hct
 unfold thV
 rw [← hct]
 clear hct
 have HT := hide ht
 clear ht
 have c0 : (w.alloc (.cells ct 88)).cell? ⟨w.heap.size, 0, none⟩ = some (.string t.1) := by
  rw [(zab (heap_alloc_new w (.cells ct 88)) 0).1, zaa HCT]; rfl
 go_enter Tryz.func63, Tryz.ntmps63
 go_upto_region 2 with fail
 generalize hw0 : World.alloc (World.alloc w _) _ = w0
 have h0 : TTIn w t [] (.slice none 0 0) w0 := by
  have k0 : Below w.heap.size w ((w.alloc (.cells ct 88)).alloc (.cells #[.string t.1, .slice none 0 0] 79)) := ((Below.refl _ _).alloc (Nat.le_refl _) _).alloc (by simp) _
  rw [← hw0]
  refine ⟨?_, ?_, World.ownsRow_nil _ _ _ _, k0⟩
  ·show _ = _
   rw [Below.heap_alloc _ _ _ (by simp), ← zaa HCT]
   exact heap_alloc_new w _
  ·have := heap_alloc_new (w.alloc (.cells ct 88)) (.cells #[.string t.1, .slice none 0 0] 79)
   rw [World.size_alloc] at this
   exact this
 have H0 := hide h0
 have hws : w.heap.size + 1 < w0.heap.size := (Array.getElem?_eq_some_iff.1 h0.at_).1
 clear hw0 c0 h0
 go_wp2_with fail
 go_loopg [11] 4 (fun gg i wr => ∃ (k : Nat) (l : List ByteArray) (tv : Value), k ≤ 4 ∧ gg = 4 - k ∧ i = .int .i64 (k : Nat) ∧ l = t.2.take k ∧ TTIn w t l tv wr)
 case atStart => exact ⟨0, [], _, by omega, rfl, rfl, rfl, zaa H0⟩
 case round =>
  clear H0
  obtain ⟨k, l, tv, hk, hgk, rfl, hl, hin⟩ := hrel
  obtain ⟨a1, cap1, rfl⟩ := zac hin.row
  have hwr : w.heap.size + 1 < wr.heap.size := (Array.getElem?_eq_some_iff.1 hin.at_).1
  have HIN := hide hin
  have hll : l.length ≤ 4 := by rw [hl]; simp; omega
  have HL := hide hl
  obtain ⟨q0, z0⟩ := zab hin.at_ 0
  obtain ⟨q1, z1⟩ := zab hin.at_ 1
  simp only [List.getElem?_toArray, List.getElem?_cons_zero, List.getElem?_cons_succ] at q0 q1
  by_cases hlk : k < 4
  ·have hcell : wr.cell? ⟨w.heap.size, 1 + k, none⟩ = some (.string (nth4 t.2 k)) := by
    rw [(zab hin.th (1 + k)).1, List.getElem?_toArray]; exact zgy t hlk
   have hki : (k : Int) < 4 := by omega
   clear hin hl
   by_cases hlt : k < t.2.length
   ·have hne : ((nth4 t.2 k).toList == []) = false := by
     have hps : 0 < (nth4 t.2 k).size := zms (zaa HT) hlt
     cases hq : (nth4 t.2 k).toList == [] with
     | false => rfl
     | true => rw [beq_iff_eq] at hq; have h2 := zj0 (nth4 t.2 k); rw [hq] at h2; simp at h2; omega
    have hrow := (zaa HIN).row
    have HLS := hide (show t.2.take (k + 1) = l ++ [nth4 t.2 k] by rw [List.take_succ_eq_append_getElem hlt, zaa HL]; congr 2; unfold nth4; rw [List.getElem?_eq_getElem hlt]; rfl)
    go_wp2_with (at_builtin; refine wpList_append_own _ rfl _ _ 77 rfl (w.heap.size + 1 + 1) 191 i0 _ 1 16 Tryz.underlying77 hi hz0 hz1 hz2 rfl (by decide) _ _ _ rfl (hrow.alloc _) ⟨wr.heap.size, 0, none⟩ 1 1 [zfq false (nth4 t.2 k)] rfl rfl (zqj wr _) (pt_one _ _) (by unfold maxLen; omega) (by omega) (by simp; omega) ?_; intro v5 w5 hown5 hg5 hne5; clear hne5; obtain ⟨a5, cap5, rfl⟩ := zac hown5; obtain ⟨r1, r2⟩ := tt_keep hwr hown5 hg5 (zaa HIN); obtain ⟨y1, x1⟩ := zab r2 1; simp only [List.getElem?_toArray, List.getElem?_cons_zero, List.getElem?_cons_succ] at y1; have H5 := hide r1; have H6 := hide r2; clear hown5 hg5 r1 r2)
    go_roundg (4 - (k + 1))
    case measure => omega
    case rel => exact ⟨k + 1, l ++ [nth4 t.2 k], _, by omega, rfl, by go_num, (zaa HLS).symm, (zaa H5)⟩
   ·have hne : ((nth4 t.2 k).toList == []) = true := by
     have h2 := zj0 (nth4 t.2 k)
     rw [zkn (l := t.2) (i := k) (by omega)] at h2
     rw [beq_iff_eq]
     exact List.length_eq_zero_iff.1 h2
    go_wp2_with fail
    go_roundg (4 - (k + 1))
    case measure => omega
    case rel => exact ⟨k + 1, l, _, by omega, rfl, by go_num, by rw [zaa HL, List.take_of_length_le (by omega), List.take_of_length_le (by omega)], zaa HIN⟩
  ·have hlt : l = t.2 := by rw [hl, List.take_of_length_le]; have hfw : t.2.length ≤ 4 := (zaa HT).few; omega
   have hrow := hin.row
   have HC := hide (atext_any wr (w.heap.size + 1 + 1) t.1 a1 cap1 (zb7 t) (by unfold zb7; rw [List.length_map, ← hlt]; exact hrow) hlen)
   have hlen2 : (zb7 t).length = l.length := by unfold zb7; rw [List.length_map, hlt]
   rw [hlen2] at HC
   have HK := hide hin.k
   clear hin hl hrow hlt hlen2
   go_wp2_with (go_at_call 102; refine (zaa HC).mono ?_; rintro e w2 ⟨rfl, hb2⟩; have HB2 := hide hb2; clear hb2)
   go_ret
   exact ⟨rfl, (zaa HK).trans ((zaa HB2).mono (zaa HK).size)⟩
end
section
open Go.RowKit Go.Sort
theorem str_enc (zs : List ByteArray) : (zs.map Value.string) = (zs.map fun s => s.data.toList).map encStr := by
 rw [List.map_map]
 refine List.map_congr_left fun s _ => ?_
 simp [encStr]
def znu (zs : List ByteArray) : List (List UInt8) := (zs.map fun s => s.data.toList).mergeSort fun x y => decide (x ≤ y)
def SortedPost (w : World) (base : Nat) (zs : List ByteArray) (v : Value) (e : Ending) (w' : World) : Prop :=
 e = .returned (.tuple #[]) ∧ w'.ownsRow base 9 1 v zs.length ((znu zs).map encStr) ∧ w.grownBy w' v.ownBlock
theorem sortT_any (w : World) (base : Nat) (a : Option Addr) (c : Nat) (zs : List ByteArray) (h : w.ownsRow base 9 1 (.slice a zs.length c) zs.length (zs.map Value.string)) (hl : zs.length ≤ 1000000) :
  Calls Tryz.prog 64 #[.slice a zs.length c] w (SortedPost w base zs (.slice a zs.length c)) := by
 rcases h.2 with ⟨hnil, h0⟩ | ⟨g, cap, cur, hv, hbase, hb, h1, h2, h3, h4⟩
 ·have hz : zs = [] := List.length_eq_zero_iff.1 h0
  subst hz
  refine (Tryz.slices_Sort_string_none a c w).mono ?_
  rintro e w' ⟨rfl, rfl⟩
  refine ⟨rfl, by rw [show znu [] = [] from by simp [znu]]; exact h, ⟨rfl, rfl, rfl, Nat.le_refl _, fun _ _ _ => rfl⟩⟩
 ·injection hv with e1 e2 e3
  subst e1 e3
  have hlen : (zs.map fun s => s.data.toList).length = zs.length := by simp
  rw [str_enc] at h4
  have hH : Go.Sort.Holds encStr w g 0 (zs.map fun s => s.data.toList).toArray := holds_of_block hb (by rw [hlen]; simpa using h4)
  have := Tryz.slices_Sort_string g 0 c (zs.map fun s => s.data.toList) w hH (Array.getElem?_eq_some_iff.1 hb).1 (by rw [hlen]; omega)
  rw [hlen] at this
  refine this.mono ?_
  rintro e w' ⟨rfl, n, os, rfl⟩
  refine ⟨rfl, ?_, ?_⟩
  ·have := ownsRow_sorted (w := w) (n := n) (os := os) (ss := zs.map fun s => s.data.toList) (ts := znu zs) (by simp [znu]) hbase hb (by rw [hlen]; exact h1) h2 h3
   rw [hlen] at this
   exact this
  ·exact grownBy_sorted _
end
section
open Go.RowKit Go.Maps
attribute [local go_sem ↓] zgb ze4 zg1 zds zh0 zgq zgu zgl
attribute [local go_sem] zeh zfv zfx zfr
def hitB (A : PAtm) (p : Th × Nat) : Bool := (zc2 [] A p.1).isSome
theorem znn {L : List (Th × Nat)} (h : (L.map (·.1)).Nodup) : L.Nodup := by
 induction L with
 | nil => simp
 | cons x r ih =>
  rw [List.map_cons, List.nodup_cons] at h
  exact List.nodup_cons.2 ⟨fun hm => h.1 (List.mem_map_of_mem hm), ih h.2⟩
theorem mg_step {K ts : List (Th × Nat)} {A : PAtm} {Lf : Th → Prop} (hm : ∀ p, p ∈ ts ↔ p ∈ K ∧ ¬ Lf p.1 ∧ hitB A p = true) {t : Th} {n : Nat} (ht : (t, n) ∈ K) (hK : (K.map (·.1)).Nodup) : (hitB A (t, n) = true → ∀ p, p ∈ ts ++ [(t, n)] ↔ p ∈ K ∧ ¬ (Lf p.1 ∧ ¬ p.1 = t) ∧ hitB A p = true) ∧ (hitB A (t, n) = false → ∀ p, p ∈ ts ↔ p ∈ K ∧ ¬ (Lf p.1 ∧ ¬ p.1 = t) ∧ hitB A p = true) := by
 have key : ∀ p ∈ K, p.1 = t → p = (t, n) := fun p hp e => by
  have h1 := zek hK hp
  have h2 := zek hK ht
  rw [e, h2] at h1
  have h3 := Option.some.inj h1
  exact Prod.ext e h3.symm
 constructor
 ·intro hh p
  rw [List.mem_append, hm]
  constructor
  ·rintro (⟨h1, h2, h3⟩ | h1)
   ·exact ⟨h1, fun h => h2 h.1, h3⟩
   ·rw [List.mem_singleton.1 h1]; exact ⟨ht, fun h => h.2 rfl, hh⟩
  ·rintro ⟨h1, h2, h3⟩
   by_cases e : p.1 = t
   ·right; rw [key p h1 e]; exact List.mem_singleton.2 rfl
   ·left; exact ⟨h1, fun h => h2 ⟨h, e⟩, h3⟩
 ·intro hh p
  rw [hm]
  constructor
  ·rintro ⟨h1, h2, h3⟩; exact ⟨h1, fun h => h2 h.1, h3⟩
  ·rintro ⟨h1, h2, h3⟩
   refine ⟨h1, fun h => h2 ⟨h, fun e => ?_⟩, h3⟩
   rw [key p h1 e, hh] at h3; cases h3
structure MgIn (w : World) (kb rb : Nat) (A : PAtm) (aa : Option Addr) (ac : Nat) (K : List (Th × Nat)) (Lf : Th → Prop) (ts : List (Th × Nat)) (v : Value) (cnt : Nat) (wr : World) : Prop where
 rg : HRange wr kb rb K Lf cnt
 at_ : wr.heap[w.heap.size]? = some (.cells #[.string A.p, .slice aa A.ts.length ac] 79 (0, 0))
 mem : ∀ p, p ∈ ts ↔ p ∈ K ∧ ¬ Lf p.1 ∧ hitB A p = true
 nd : ts.Nodup
 len : ts.length + cnt ≤ K.length
 row : wr.ownsRow (w.heap.size + 1 + 1) 9 1 v ts.length ((ts.map fun p => zc7 p.1).map Value.string)
 k : Below w.heap.size w wr
def zo5 (w : World) (A : PAtm) (K : List (Th × Nat)) (e : Ending) (w' : World) : Prop :=
 ∃ (zs : List ByteArray) (a : Option Addr) (c : Nat), e = .returned (.slice a zs.length c) ∧ zs.Perm ((K.filter (hitB A)).map fun p => zc7 p.1) ∧ w'.ownsRow w.heap.size 9 1 (.slice a zs.length c) zs.length ((znu zs).map encStr) ∧ Below w.heap.size w w'
set_option maxRecDepth 100000 in
theorem zow (w : World) (kb base : Nat) (A : PAtm) (aa : Option Addr) (ac : Nat) (K : List (Th × Nat)) (hm : HMap w kb K) (hr : w.ownsRow base 191 1 (.slice aa A.ts.length ac) A.ts.length (A.ts.map zgm)) (h4 : A.ts.length ≤ 4) (hK : K.length ≤ 1000) (htx : ∀ p ∈ K, (zeu p.1.1 (zb7 p.1)).length ≤ 1000000000) :
  Calls Tryz.prog 39 #[.map (some kb), .agg #[.string A.p, .slice aa A.ts.length ac]] w (zo5 w A K) := by
 obtain ⟨i0, hi, hz0, hz1, hz2⟩ := info_parts zei
 have HR := hide hr
 have HTX := hide htx
 have hkl := hm.lt
 have HM := hide hm
 clear hr htx hm
 go_enter Tryz.func39, Tryz.ntmps39
 go_upto_region 2 with fail
 generalize hw0 : World.alloc w _ = w0
 have k0 : Below w.heap.size w w0 := by rw [← hw0]; exact (Below.refl w.heap.size w).alloc (Nat.le_refl _) _
 have x0 : w0.heap[w.heap.size]? = some (.cells #[.string A.p, .slice aa A.ts.length ac] 79 (0, 0)) := by rw [← hw0]; exact heap_alloc_new w _
 have s0 : w0.heap.size = w.heap.size + 1 := by rw [← hw0]; simp
 have hmA : HMap w0 kb K := (zaa HM).block (k0.block _ hkl)
 have HK1 := hide k0
 have HX1 := hide x0
 have HS0 := hide s0
 clear hw0 k0 x0 s0
 go_wp2_with (first | (at_range; refine zkp _ rfl _ 83 rfl Tryz.underlying83 kb K rfl hmA ?_; intro w1 hrg1 hg1 hs1) | go_in)
 try go_frame
 have h0 : MgIn w kb w0.heap.size A aa ac K (fun _ => True) [] (.slice none 0 0) K.length w1 := by
  have s0 := zaa HS0
  refine ⟨hrg1, (hg1.block _ (by omega) (by simp)).trans (zaa HX1), fun p => ⟨fun h => absurd h List.not_mem_nil, fun h => absurd trivial h.2.1⟩, by simp, by simp, World.ownsRow_nil _ _ _ _, ⟨hg1.os.trans (zaa HK1).os, hg1.tape.trans (zaa HK1).tape, hg1.output.trans (zaa HK1).output, Nat.le_trans (zaa HK1).size hg1.size, fun j hj => (hg1.block j (by omega) (by simp)).trans ((zaa HK1).block j hj)⟩⟩
 have H0 := hide h0
 clear hrg1 hg1 hs1 hmA h0
 go_loopg [5] K.length (fun gg v wr => ∃ (Lf : Th → Prop) (ts : List (Th × Nat)), MgIn w kb w0.heap.size A aa ac K Lf ts v gg wr)
 case atStart => exact ⟨_, _, zaa H0⟩
 case round =>
  clear H0
  obtain ⟨Lf, ts, hin⟩ := hrel
  obtain ⟨a1, c1, rfl⟩ := zac hin.row
  have hrg := hin.rg
  have hwr0 := hin.rg.lt
  have hwr : w.heap.size + 1 < wr.heap.size := by have := zaa HS0; omega
  clear hwr0
  have hlen := hin.len
  have HIN := hide hin
  clear hin
  go_wp2_with (first | (at_next; refine zmp _ rfl _ rfl kb w0.heap.size K Lf gk rfl hrg ?_ ?_) | go_in)
  ·intro hdone
   have HD := hide hdone
   have hin := zaa HIN
   have hl0 : ((ts.map fun p => zc7 p.1)).length = ts.length := by simp
   have hrow := hin.row
   rw [← hl0] at hrow
   have HS := hide (sortT_any wr (w.heap.size + 1 + 1) a1 c1 (ts.map fun p => zc7 p.1) hrow (by rw [hl0]; omega))
   rw [hl0] at HS
   clear hdone hrg hin hrow
   go_wp2_with (go_at_call 64; refine (zaa HS).mono ?_; rintro e w2 ⟨rfl, hown2, hg2⟩; have HO2 := hide hown2; have HG2 := hide hg2; clear hown2 hg2)
   go_ret
   have hin := zaa HIN
   have g2 := zaa HG2
   refine ⟨ts.map fun p => zc7 p.1, a1, c1, by rw [hl0]; rfl, List.Perm.map _ ((List.perm_ext_iff_of_nodup hin.nd ((znn hin.rg.map.nodup).filter _)).2 fun p => ?_), ?_, ?_⟩
   ·rw [hin.mem, List.mem_filter]
    exact ⟨fun ⟨h1, _, h3⟩ => ⟨h1, h3⟩, fun ⟨h1, h3⟩ => ⟨h1, zaa HD p.1.1 p.1.2 p.2 h1, h3⟩⟩
   ·rw [hl0]; have := zaa HO2; rw [hl0] at this; exact zaf this (by omega)
   ·exact ⟨g2.os.trans hin.k.os, g2.tape.trans hin.k.tape, g2.output.trans hin.k.output, Nat.le_trans hin.k.size g2.size, fun i hi => (g2.block i (by omega) (fun e => by have := (hin.row.lt i e.symm).1; omega)).trans (hin.k.block i hi)⟩
  ·intro tp tts n w2 cnt2 htk hlf hrg2 hlt2 hg2 hs2 hen2
   generalize ((tp, tts) : Th) = t at *
   have hin := zaa HIN
   have s0 := zaa HS0
   have k2 : Below w.heap.size w w2 := ⟨hg2.os.trans hin.k.os, hg2.tape.trans hin.k.tape, hg2.output.trans hin.k.output, Nat.le_trans hin.k.size hg2.size, fun i hi => (hg2.block i (by omega) (by simp; omega)).trans (hin.k.block i hi)⟩
   have a2 : w2.heap[w.heap.size]? = some (.cells #[.string A.p, .slice aa A.ts.length ac] 79 (0, 0)) := (hg2.block _ (by omega) (by simp; omega)).trans hin.at_
   have r2 : w2.ownsRow (w.heap.size + 1 + 1) 9 1 (.slice a1 ts.length c1) ts.length ((ts.map fun p => zc7 p.1).map Value.string) := zbb hin.row (fun g e => hg2.block g (hin.row.lt g e).2 (fun e2 => by have := (hin.row.lt g e).1; injection e2 with e2; omega))
   have hT : ThOk t := hin.rg.map.ok _ htk
   have hw2 : wr.heap.size ≤ w2.heap.size := hg2.size
   have k3 : Below w2.heap.size w2 (w2.alloc (.cells (zbe t).toArray 88)) := (Below.refl _ _).alloc (Nat.le_refl _) _
   have kk3 : Below w.heap.size w (w2.alloc (.cells (zbe t).toArray 88)) := k2.trans (k3.mono k2.size)
   have HM := hide (zmf (w2.alloc (.cells (zbe t).toArray 88)) base [] A aa ac t (zbb (zaa HR) (fun g e => kk3.block g ((zaa HR).lt g e).2)) h4 (by simp; omega))
   have t3 := (TV.new w2 t).load
   obtain ⟨q0, -⟩ := zab ((k3.block _ (by omega)).trans a2) 0
   obtain ⟨q1, -⟩ := zab ((k3.block _ (by omega)).trans a2) 1
   simp only [List.getElem?_toArray, List.getElem?_cons_zero, List.getElem?_cons_succ] at q0 q1
   have HT := hide hT
   have HRG2 := hide hrg2
   have HK2 := hide k2
   have HA2 := hide a2
   have HR2 := hide r2
   have HTK := hide htk
   have HLF := hide hlf
   have htl := zaa HTX _ htk
   have hnt : (t, n) ∉ ts := fun hm => ((hin.mem _).1 hm).2.1 hlf
   have HNT := hide hnt
   have HST := hide (mg_step hin.mem htk hin.rg.map.nodup)
   have HND := hide hin.nd
   clear hs2 hg2 hrg hrg2 k2 a2 r2 hT htk hlf hin k3 kk3 hnt s0
   obtain ⟨R, hR⟩ : ∃ R, R = zc2 [] A t := ⟨_, rfl⟩
   rw [← hR] at HM
   have hhit : hitB A (t, n) = R.isSome := by unfold hitB; rw [hR]
   have HHIT := hide hhit
   clear hR hhit
   go_upto_region 6 with (go_at_call 62; refine (zaa HM).mono ?_; rintro en w4 ⟨hb4, rfl⟩; have HB4 := hide hb4; clear hb4)
   generalize hw5 : World.alloc w4 _ = w5
   have b5 : Below w2.heap.size w2 w5 := by
    rw [← hw5]
    have b4 := zaa HB4
    exact (((Below.refl _ _).alloc (Nat.le_refl _) _).trans (b4.mono (by simp))).alloc (by have := b4.size; simp at this; omega) _
   have t5 : TV w5 w2.heap.size t := by
    rw [← hw5]
    exact ((TV.new w2 t).below (zaa HB4)).alloc _
   have l5 := t5.load
   have HB5 := hide b5
   have hw5' := b5.size
   have kw5 : Below w.heap.size w w5 := (zaa HK2).trans (b5.mono (zaa HK2).size)
   have r5 := zai (zaa HR2) b5 (fun g e => ((zaa HR2).lt g e).2)
   have a5 : w5.heap[w.heap.size]? = some (.cells #[.string A.p, .slice aa A.ts.length ac] 79 (0, 0)) := (b5.block _ (by omega)).trans (zaa HA2)
   have g5 : HRange w5 kb w0.heap.size K (fun x => Lf x ∧ ¬ x = t) cnt2 := (zaa HRG2).blocks (b5.block _ (zaa HRG2).map.lt) (b5.block _ (zaa HRG2).lt)
   have HK5 := hide kw5
   have HR5 := hide r5
   have HA5 := hide a5
   have HG5 := hide g5
   have HTE := hide (thtext_any w5 t (zaa HT) htl)
   clear hw5 b5 t5 kw5 r5 a5 g5 t3 q0 q1 hen2
   cases hr : R with
   | none =>
    have hh : hitB A (t, n) = false := by rw [zaa HHIT, hr]; rfl
    have HS := hide ((zaa HST).2 hh)
    clear hh hr
    go_wp2_with fail
    go_roundg cnt2
    case measure => omega
    case rel => exact ⟨_, ts, zaa HG5, zaa HA5, zaa HS, zaa HND, by omega, zaa HR5, zaa HK5⟩
   | some e2 =>
    have hh : hitB A (t, n) = true := by rw [zaa HHIT, hr]; rfl
    have HS := hide ((zaa HST).1 hh)
    clear hh hr
    go_wp2_with fail
    refine (zaa HTE).mono ?_
    rintro en w6 ⟨rfl, hb6⟩
    have hw6 := hb6.size
    have r6 := zai (zaa HR5) hb6 (fun g e => ((zaa HR5).lt g e).2)
    have hlt : ts.length ≤ 1000 := by omega
    have HB6 := hide hb6
    clear hb6
    go_wp2_with (at_builtin; refine wpList_append_own _ rfl _ _ 33 rfl (w.heap.size + 1 + 1) 9 i0 _ 1 16 Tryz.underlying33 hi hz0 hz1 hz2 rfl (by decide) _ _ _ rfl (r6.alloc _) ⟨w6.heap.size, 0, none⟩ 1 1 [.string (zc7 t)] rfl rfl (zps w6 _) (zqf _) (by unfold maxLen; omega) (by omega) (by simp; omega) ?_; intro v7 w7 hown7 hg7 hne7; clear hne7; obtain ⟨a7, cap7, rfl⟩ := zac hown7; have HO7 := hide hown7; have HG7 := hide hg7; clear hown7 hg7)
    go_roundg cnt2
    case measure => omega
    case rel =>
     have g7 := zaa HG7
     have b6 := zaa HB6
     have s0 := zaa HS0
     have hb : ∀ i, i < w5.heap.size → i < w.heap.size + 1 + 1 → w7.heap[i]? = w5.heap[i]? := fun i hi h2 => by
      rw [g7.block i (by simp; omega) (fun e => by have := (r6.lt i e.symm).1; omega), Below.heap_alloc _ _ _ (by omega), b6.block i hi]
     have hkb : kb < w.heap.size + 1 + 1 := by omega
     refine ⟨_, ts ++ [(t, n)], (zaa HG5).blocks (hb _ (zaa HG5).map.lt hkb) (hb _ (zaa HG5).lt (by omega)), (hb _ (by omega) (by omega)).trans (zaa HA5), zaa HS, List.nodup_append.2 ⟨zaa HND, by simp, fun x hx y hy e => by rw [List.mem_singleton.1 hy] at e; rw [e] at hx; exact zaa HNT hx⟩, by rw [List.length_append]; simp; omega, ?_, ?_⟩
     ·have h7 := zaa HO7
      have e1 : (ts ++ [(t, n)]).length = ts.length + 1 := by simp
      rw [e1, List.map_append, List.map_append]
      exact h7
     ·have k5 := zaa HK5
      exact ⟨g7.os.trans (b6.os.trans k5.os), g7.tape.trans (b6.tape.trans k5.tape), g7.output.trans (b6.output.trans k5.output), by have h1 := g7.size; have h2 := k5.size; simp at h1; omega, fun i hi => (hb i (by omega) (by omega)).trans (k5.block i hi)⟩
end
end Go.Proofs.YtldkpahaocjdpaaGreat
