/-
  The reference's round, whole.
  The reference's Model, plain: heights one after another, strata one after another; nothing in it grows beyond measure.
  Things (a predicate and at most four names) as the program has them: arrays of five texts, the keys of maps. A map of things with a number each, as a list: what a look-up finds, what a store leaves, how many there are, and ranging over it.
-/
import Derived.Test.YtldkpahaocjdpaaGreatQueriesT35
import Derived.Test.YtldkpahaocjdpaaGreatQueriesT21
import Derived.Maps.RangeWalk
import Derived.DeepKeys4
import Derived.WideKeyArr
import Derived.RangeFuncSeq
import Derived.Test.YtldkpahaocjdpaaGreatProg
set_option maxHeartbeats 16000000
namespace Go.Proofs.YtldkpahaocjdpaaGreat
section
open Go.RowKit
set_option maxRecDepth 1000000 in
theorem round3 (w : World) (base : Nat) (ag : Option Addr) (n cap : Nat) (hn50 : n ≤ 1000) (out : List FG) (hnl : n = out.length) (w1 : World) (hI : R4In w base (.slice ag n cap) out w1)
  {Q : Exit → Act → World → Prop} {c0 c1 c2 c3 c4 c5 c6 c7 c8 c10 c11 c12 c13 c14 c15 c17 c18 c19 c20 c21 c22 c23 c24 c25 c26 c27 c28 c29 c30 c31 c32 c33 c34 c35 c36 c37 c38 c39 c40 c41 c42 c43 c44 c45 c46 c47 c48 c49 c50 c51 c52 c53 c54 c55 c56 c57 c58 c59 c60 c61 c62 c63 c64 c65 c66 c67 c68 c69 c70 c71 c72 c73 c74 c75 c76 c77 c78 c79 c80 c81 c82 c83 c84 c85 c86 c87 c88 c89 c90 c91 c92 c93 c94 c95 c96 c97 c98 c99 c100 c101 c102 c103 c104 c105 c106 c107 c108 c109 c110 c111 c112 c113 c114 c115 c116 c117 c118 c119 c120 c121 c122 c123 c124 c125 c126 c127 c128 c129 c130 c131 c132 c133 c134 c135 c136 c137 c138 c139 c140 c141 : Value}
  (hexit : ∀ (zs' : List FG) (w2 : World) (u16 u17 u18 u19 u101 u102 u103 u104 u105 u106 u107 u108 u109 u110 u111 u112 u113 u114 u115 u116 u117 u118 u119 u120 u121 u122 u123 u124 u125 u126 u127 u128 u129 u130 u131 u132 u133 u134 u135 u136 u137 u138 u139 u140 : Value), R4In w base (.slice ag n cap) zs' w2 → zfo zs' → zs'.Perm out → Q (.exit 4) ⟨List.toArray (c0 :: c1 :: c2 :: c3 :: c4 :: c5 :: c6 :: c7 :: c8 :: .slice ag n cap :: c10 :: c11 :: c12 :: c13 :: c14 :: c15 :: u16 :: u17 :: u18 :: u19 :: c20 :: c21 :: c22 :: c23 :: c24 :: c25 :: c26 :: c27 :: c28 :: c29 :: c30 :: c31 :: c32 :: c33 :: c34 :: c35 :: c36 :: c37 :: c38 :: c39 :: c40 :: c41 :: c42 :: c43 :: c44 :: c45 :: c46 :: c47 :: c48 :: c49 :: c50 :: c51 :: c52 :: c53 :: c54 :: c55 :: c56 :: c57 :: c58 :: c59 :: c60 :: c61 :: c62 :: c63 :: c64 :: c65 :: c66 :: c67 :: c68 :: c69 :: c70 :: c71 :: c72 :: c73 :: c74 :: c75 :: c76 :: c77 :: c78 :: c79 :: c80 :: c81 :: c82 :: c83 :: c84 :: c85 :: c86 :: c87 :: c88 :: c89 :: c90 :: c91 :: c92 :: c93 :: c94 :: c95 :: c96 :: c97 :: c98 :: c99 :: c100 :: u101 :: u102 :: u103 :: u104 :: u105 :: u106 :: u107 :: u108 :: u109 :: u110 :: u111 :: u112 :: u113 :: u114 :: u115 :: u116 :: u117 :: u118 :: u119 :: u120 :: u121 :: u122 :: u123 :: u124 :: u125 :: u126 :: u127 :: u128 :: u129 :: u130 :: u131 :: u132 :: u133 :: u134 :: u135 :: u136 :: u137 :: u138 :: u139 :: u140 :: c141 :: []), []⟩ w2) :
  Code.wp Tryz.prog (Code.loop (roundL 2)) Q ⟨List.toArray (c0 :: c1 :: c2 :: c3 :: c4 :: c5 :: c6 :: c7 :: c8 :: .slice ag n cap :: c10 :: c11 :: c12 :: c13 :: c14 :: c15 :: .int .i64 1 :: c17 :: c18 :: c19 :: c20 :: c21 :: c22 :: c23 :: c24 :: c25 :: c26 :: c27 :: c28 :: c29 :: c30 :: c31 :: c32 :: c33 :: c34 :: c35 :: c36 :: c37 :: c38 :: c39 :: c40 :: c41 :: c42 :: c43 :: c44 :: c45 :: c46 :: c47 :: c48 :: c49 :: c50 :: c51 :: c52 :: c53 :: c54 :: c55 :: c56 :: c57 :: c58 :: c59 :: c60 :: c61 :: c62 :: c63 :: c64 :: c65 :: c66 :: c67 :: c68 :: c69 :: c70 :: c71 :: c72 :: c73 :: c74 :: c75 :: c76 :: c77 :: c78 :: c79 :: c80 :: c81 :: c82 :: c83 :: c84 :: c85 :: c86 :: c87 :: c88 :: c89 :: c90 :: c91 :: c92 :: c93 :: c94 :: c95 :: c96 :: c97 :: c98 :: c99 :: c100 :: c101 :: c102 :: c103 :: c104 :: c105 :: c106 :: c107 :: c108 :: c109 :: c110 :: c111 :: c112 :: c113 :: c114 :: c115 :: c116 :: c117 :: c118 :: c119 :: c120 :: c121 :: c122 :: c123 :: c124 :: c125 :: c126 :: c127 :: c128 :: c129 :: c130 :: c131 :: c132 :: c133 :: c134 :: c135 :: c136 :: c137 :: c138 :: c139 :: c140 :: c141 :: []), []⟩ w1 := by
 conv => arg 2; arg 1; whnf
 have HI := hide hI
 have HX := hide hexit
 have HNL := hide hnl
 clear hI hexit hnl
 go_loopg [16] (n - 1) (fun gg ii wr => ∃ (i : Nat) (zs C : List FG), gg = n - i ∧ ii = .int .i64 i ∧ i ≤ n + 1 ∧ 1 ≤ i ∧ R4In w base (.slice ag n cap) (zs ++ C) wr ∧ zfo zs ∧ (zs ++ C).Perm out ∧ (zs.length = i ∨ out = []))
 case atStart =>
  have hI := zaa HI
  cases out with
  | nil => exact ⟨1, [], [], rfl, rfl, by omega, Nat.le_refl _, hI, List.Pairwise.nil, List.Perm.refl _, .inr rfl⟩
  | cons y r =>
   exact ⟨1, [y], r, rfl, rfl, by omega, Nat.le_refl _, hI, List.pairwise_singleton _ _, List.Perm.refl _, .inl rfl⟩
 case round =>
  clear HI
  obtain ⟨i, zs, C, hgi, rfl, hin, hi1, hI, hso, hperm, hor⟩ := hrel
  have hlen : (zs ++ C).length = n := by rw [hperm.length_eq, zaa HNL]
  by_cases hli : i < n
  ·have hii : (i : Int) < n := by omega
   have hzi : zs.length = i := by
    rcases hor with h | h
    ·exact h
    ·have := zaa HNL; rw [h] at this; simp at this; omega
   cases C with
   | nil => simp at hlen; omega
   | cons y C =>
    have HI := hide hI
    have HSO := hide hso
    have HP := hide hperm
    have HZ := hide hzi
    have HLN := hide hlen
    clear hI hso hperm hzi hor hlen
    go_wp2_with fail
    refine round4 w base ag n cap hn50 zs y C i (zaa HZ) (zaa HLN).symm (zaa HSO) wr (zaa HI) ?_
    intro zs' w8
    intros
    rename_i hI8 hS8 hP8
    have HI8 := hide hI8
    have HS8 := hide hS8
    have HP8 := hide (show (zs' ++ C).Perm out from ((List.Perm.append_right C hP8).trans (by rw [List.append_assoc]; exact List.Perm.refl _)).trans (zaa HP))
    have HL8 := hide (show zs'.length = i + 1 by rw [hP8.length_eq, List.length_append, zaa HZ]; rfl)
    clear hI8 hS8 hP8 HI HSO HP HZ HLN
    go_wp2_with fail
    go_roundg (n - (i + 1))
    case measure => omega
    case rel => exact ⟨i + 1, zs', C, rfl, by go_num, by omega, by omega, zaa HI8, zaa HS8, zaa HP8, .inl (zaa HL8)⟩
  ·have hCn : C = [] := by
    rcases hor with h | h
    ·rw [List.length_append] at hlen
     exact List.eq_nil_of_length_eq_zero (by omega)
    ·rw [h] at hperm
     have := hperm.eq_nil
     exact (List.append_eq_nil_iff.1 this).2
   subst hCn
   rw [List.append_nil] at hI hperm
   have HI := hide hI
   have HSO := hide hso
   have HP := hide hperm
   clear hI hso hperm hor hlen
   go_wp2_with fail
   apply zaa HX
   ·exact zaa HI
   ·exact zaa HSO
   ·exact zaa HP
structure RndIn (w : World) (l : List RFact) (T : List RFact × Bool) (v : Value) (out : List FG) (w' : World) : Prop where
 facts : FactsIn w' w.heap.size v out
 few : out.length ≤ 51
 below : Below w.heap.size w w'
 stop : T.2 = true → out.map (·.F) = T.1
 perm : T.2 = false → zfo out ∧ (out.map (·.F)).Perm T.1
def RndPost (w : World) (l : List RFact) (T : List RFact × Bool) : Ending → World → Prop := fun e w' => ∃ v out, e = .returned v ∧ RndIn w l T v out w'
set_option maxRecDepth 1000000 in
theorem round_any (w : World) (o : Nat) (rs : List RR) (ps : List (ByteArray × Nat)) (rv pv tv : Value) (gs : Nat) (S : Nat → Nat) (base : Nat) (fs : List FG) (al : Option Addr) (cl : Nat) (hC : RCtx w o rs ps rv pv tv gs S base fs (.slice al fs.length cl)) (s n : Nat) :
  Calls Tryz.prog 196 #[.pointer (some ⟨o, 0, none⟩), .slice al fs.length cl, .int .i64 s, .int .i64 n] w (RndPost w (fs.map (·.F)) (zb3 (fs.map (·.F)) (zdc ps S (fs.map (·.F)) s n (rs.map (·.R)) 0) [])) := by
 have HC := hide hC
 have H0 := hide (show R1In w (.slice none 0 0) [] w from ⟨Below.refl _ _, World.ownsRow_nil _ _ _ _, by simp⟩)
 clear hC
 go_enter Tryz.func196, Tryz.ntmps196
 go_wp2_with fail
 refine round1 w o rs ps rv pv tv gs S base fs al cl (zaa HC) s n w (zaa H0) ?_ ?_
 ·intro v9 out w2
  intros
  rename_i hI hl hT
  obtain ⟨a9, c9, rfl⟩ := zac hI.out.row
  have HI := hide (show R4In w w.heap.size (.slice a9 out.length c9) out w2 from ⟨hI.below, hI.out, Nat.le_refl _⟩)
  have HT := hide hT
  clear hI hT H0
  go_wp2_with fail
  refine round3 w w.heap.size a9 out.length c9 (by omega) out rfl w2 (zaa HI) ?_
  intro zs' w3
  intros
  rename_i hI3 hS3 hP3
  have hlen := hP3.length_eq
  have HF := hide (show RndIn w (fs.map (·.F)) (zb3 (fs.map (·.F)) (zdc ps S (fs.map (·.F)) s n (rs.map (·.R)) 0) []) (.slice a9 out.length c9) zs' w3 from ⟨hI3.facts, by omega, hI3.below, (fun h => by rw [zaa HT] at h; cases h), fun _ => ⟨hS3, by rw [zaa HT]; exact hP3.map _⟩⟩)
  clear hI3 hS3 hP3 HI HT hlen
  go_wp2_with fail
  go_ret
  exact ⟨_, zs', rfl, zaa HF⟩
 ·intro v9 out w2
  intros
  rename_i hI hl hT
  obtain ⟨a9, c9, rfl⟩ := zac hI.out.row
  have HF := hide (show RndIn w (fs.map (·.F)) (zb3 (fs.map (·.F)) (zdc ps S (fs.map (·.F)) s n (rs.map (·.R)) 0) []) (.slice a9 out.length c9) out w2 from ⟨hI.out, hl, hI.below, fun _ => by rw [hT], fun h => by rw [hT] at h; cases h⟩)
  clear hI hT H0
  go_ret
  exact ⟨_, out, rfl, zaa HF⟩
end
section
open Go.RowKit
def zij (e : Env) : Prop := ∀ p ∈ e, p.2.size ≤ 1000
def TmsOk (ts : List RTerm) : Prop := ∀ t ∈ ts, t.text.size ≤ 1000
def zfc (f : RFact) : Prop := TmsOk f.thing.terms
structure AtomOk (a : RAtom) : Prop where
 pd : a.pred.size ≤ 1000
 ts : TmsOk a.terms
 few : a.terms.length ≤ 4
theorem envAt_ok {e : Env} (h : zij e) (n : ByteArray) : (zji e n).size ≤ 1000 := by
 induction e with
 | nil => simp [zji, ByteArray.size]
 | cons x r ih =>
  rw [zji]
  split
  ·exact h x List.mem_cons_self
  ·exact ih (fun p hp => h p (List.mem_cons_of_mem _ hp))
theorem envVal_ok {e : Env} (h : zij e) {t : RTerm} (ht : t.text.size ≤ 1000) : (zdu e t).size ≤ 1000 := by
 unfold zdu
 split
 ·exact envAt_ok h _
 ·exact ht
theorem zir : ∀ (ts us : List RTerm) (e e' : Env), zij e → TmsOk us → zci e ts us = some e' → zij e'
 | [], us, e, e', h, _, hm => by cases us <;> (rw [zci] at hm <;> first | (cases hm; exact h) | simp_all)
 | t :: ts, [], e, e', h, _, hm => by rw [zci] at hm <;> first | (cases hm; exact h) | simp_all
 | t :: ts, u :: us, e, e', h, hu, hm => by
  have hu' : TmsOk us := fun x hx => hu x (List.mem_cons_of_mem _ hx)
  rw [zci] at hm
  split at hm
  ·refine zir ts us _ _ (fun p hp => ?_) hu' hm
   rcases List.mem_append.1 hp with hp | hp
   ·exact h p hp
   ·rw [List.mem_singleton.1 hp]; exact hu u List.mem_cons_self
  ·split at hm
   ·exact zir ts us _ _ h hu' hm
   ·cases hm
theorem matchA_ok {e e' : Env} {a t : RAtom} (h : zij e) (ht : TmsOk t.terms) (hm : zch e a t = some e') : zij e' := by
 unfold zch at hm
 split at hm
 ·exact zir _ _ _ _ h ht hm
 ·cases hm
theorem wayF_ok {a : RAtom} {x : Way} (hx : zij x.1) : ∀ (l : List RFact) (i : Nat), (∀ f ∈ l, zfc f) → ∀ y ∈ wayF a x l i, zij y.1
 | [], _, _, y, hy => by simp [wayF] at hy
 | f :: r, i, hl, y, hy => by
  rw [wayF, List.mem_append] at hy
  rcases hy with hy | hy
  ·split at hy
   ·rename_i e he
    rw [List.mem_singleton.1 hy]
    exact matchA_ok hx (hl f List.mem_cons_self) he
   ·simp at hy
  ·exact wayF_ok hx r (i + 1) (fun g hg => hl g (List.mem_cons_of_mem _ hg)) y hy
theorem wayP_ok {l : List RFact} (hl : ∀ f ∈ l, zfc f) : ∀ (b : List RAtom) (now : List Way), (∀ x ∈ now, zij x.1) → ∀ y ∈ wayP l b now, zij y.1
 | [], now, h, y, hy => h y hy
 | a :: r, now, h, y, hy => by
  rw [wayP] at hy
  refine wayP_ok hl r _ ?_ y hy
  split
  ·exact h
  ·intro x hx
   obtain ⟨z, hz, hx⟩ := List.mem_flatMap.1 hx
   exact wayF_ok (h z hz) l 0 hl x hx
theorem wayP_ok0 {l : List RFact} (hl : ∀ f ∈ l, zfc f) (b : List RAtom) : ∀ y ∈ wayP l b [([], [])], zij y.1 := wayP_ok hl b _ (fun x hx => by rw [List.mem_singleton.1 hx]; intro p hp; cases hp)
theorem zhp : ∀ (ts : List (Bool × ByteArray)) (i : Nat), (∀ t ∈ ts, t.2.size ≤ 1000) → (zbh ts i).length ≤ ts.length * 1001
 | [], _, _ => by simp [zbh]
 | t :: r, i, h => by
  have h1 := zhp r (i + 1) (fun x hx => h x (List.mem_cons_of_mem _ hx))
  have h2 := h t List.mem_cons_self
  rw [zbh, List.length_cons, List.length_append, List.length_cons, Nat.succ_mul]
  have : t.2.data.toList.length = t.2.size := zc0 _
  omega
theorem ofA_ok {e : Env} {a : RAtom} (he : zij e) (ha : AtomOk a) : TmsOk (ofA e a).terms := by
 intro t ht
 obtain ⟨u, hu, rfl⟩ := List.mem_map.1 ht
 exact envVal_ok he (ha.ts u hu)
theorem ofA_len {e : Env} {a : RAtom} (he : zij e) (ha : AtomOk a) : (zdb (ofA e a)).length ≤ 1000000000 := by
 have h1 := zhp ((ofA e a).terms.map tmOf) 0 (fun t ht => by
  obtain ⟨u, hu, rfl⟩ := List.mem_map.1 ht
  exact ofA_ok he ha u hu)
 have h2 : (ofA e a).terms.length = a.terms.length := by simp [ofA]
 have h3 := ha.few
 have h4 := ha.pd
 unfold zdb zet
 rw [List.length_map, h2] at h1
 rw [List.length_append, List.length_append]
 have h5 : (ofA e a).pred.data.toList.length = a.pred.size := zc0 _
 have h6 : (if ((ofA e a).terms.map tmOf).length = 0 then ([] : List UInt8) else [41]).length ≤ 1 := by split <;> simp
 have h7 : a.terms.length * 1001 ≤ 4 * 1001 := Nat.mul_le_mul_right _ h3
 omega
theorem addF_ok {l out : List RFact} {f : RFact} (h : ∀ x ∈ out, zfc x) (hf : zfc f) : ∀ x ∈ addF l out f, zfc x := by
 intro x hx
 unfold addF at hx
 split at hx
 ·rcases List.mem_append.1 hx with hx | hx
  ·exact h x hx
  ·rw [List.mem_singleton.1 hx]; exact hf
 ·exact h x hx
theorem takeF_ok {l : List RFact} : ∀ (cs out : List RFact), (∀ f ∈ cs, zfc f) → (∀ x ∈ out, zfc x) → ∀ x ∈ (zb3 l cs out).1, zfc x
 | [], out, _, h => h
 | f :: r, out, hc, h => by
  rw [zb3]
  split
  ·exact h
  ·exact takeF_ok r _ (fun g hg => hc g (List.mem_cons_of_mem _ hg)) (addF_ok h (hc f List.mem_cons_self))
theorem candR_ok {ps : List (ByteArray × Nat)} {S : Nat → Nat} {l : List RFact} {s n : Nat} (hl : ∀ f ∈ l, zfc f) : ∀ (rs : List RRule) (i : Nat), (∀ R ∈ rs, ∀ a ∈ R.head :: R.body, AtomOk a) → ∀ f ∈ zdc ps S l s n rs i, zfc f
 | [], _, _, f, hf => by simp [zdc] at hf
 | R :: r, i, hr, f, hf => by
  rw [zdc, List.mem_append] at hf
  rcases hf with hf | hf
  ·split at hf
   ·obtain ⟨x, hx, rfl⟩ := List.mem_map.1 hf
    exact ofA_ok (wayP_ok0 hl R.body x (List.mem_filter.1 hx).1) (hr R List.mem_cons_self _ List.mem_cons_self)
   ·simp at hf
  ·exact candR_ok hl r (i + 1) (fun Q hQ => hr Q (List.mem_cons_of_mem _ hQ)) f hf
def RndR (ps : List (ByteArray × Nat)) (S : Nat → Nat) (rs : List RRule) (l : List RFact) (s n : Nat) (out : List RFact) : Prop :=
 ((zb3 l (zdc ps S l s n rs 0) []).2 = true ∧ out = (zb3 l (zdc ps S l s n rs 0) []).1) ∨ ((zb3 l (zdc ps S l s n rs 0) []).2 = false ∧ out.Pairwise (fun x y => zdd y x = false) ∧ out.Perm (zb3 l (zdc ps S l s n rs 0) []).1)
inductive ClimbR (ps : List (ByteArray × Nat)) (S : Nat → Nat) (rs : List RRule) (limit s : Nat) : Nat → List RFact → Option (List RFact) → Prop
 | over {n : Nat} {l out : List RFact} : RndR ps S rs l s n out → limit < l.length + out.length → ClimbR ps S rs limit s n l none
 | done {n : Nat} {l : List RFact} : RndR ps S rs l s n [] → l.length ≤ limit → ClimbR ps S rs limit s n l (some l)
 | more {n : Nat} {l out : List RFact} {r : Option (List RFact)} : RndR ps S rs l s n out → out ≠ [] → l.length + out.length ≤ limit → ClimbR ps S rs limit s (n + 1) (l ++ out) r → ClimbR ps S rs limit s n l r
inductive StrR (ps : List (ByteArray × Nat)) (S : Nat → Nat) (rs : List RRule) (limit most : Nat) : Nat → List RFact → Option (List RFact) → Prop
 | ends {s : Nat} {l : List RFact} : most < s → StrR ps S rs limit most s l (some l)
 | fails {s : Nat} {l : List RFact} : s ≤ most → ClimbR ps S rs limit s 1 l none → StrR ps S rs limit most s l none
 | next {s : Nat} {l l' : List RFact} {r : Option (List RFact)} : s ≤ most → ClimbR ps S rs limit s 1 l (some l') → StrR ps S rs limit most (s + 1) l' r → StrR ps S rs limit most s l r
theorem RndIn.rel {w : World} {ps : List (ByteArray × Nat)} {S : Nat → Nat} {rs : List RRule} {l : List RFact} {s n : Nat} {v : Value} {out : List FG} {w' : World} (h : RndIn w l (zb3 l (zdc ps S l s n rs 0) []) v out w') : RndR ps S rs l s n (out.map (·.F)) := by
 cases hT : (zb3 l (zdc ps S l s n rs 0) []).2 with
 | true => exact .inl ⟨hT, h.stop hT⟩
 | false =>
  obtain ⟨h1, h2⟩ := h.perm hT
  exact .inr ⟨hT, List.pairwise_map.2 h1, h2⟩
theorem RndR.ok {ps : List (ByteArray × Nat)} {S : Nat → Nat} {rs : List RRule} {l : List RFact} {s n : Nat} {out : List RFact} (h : RndR ps S rs l s n out) (hl : ∀ f ∈ l, zfc f) (hr : ∀ R ∈ rs, ∀ a ∈ R.head :: R.body, AtomOk a) : ∀ f ∈ out, zfc f := by
 have hk := takeF_ok (l := l) (zdc ps S l s n rs 0) [] (candR_ok hl rs 0 hr) (by simp)
 rcases h with ⟨_, rfl⟩ | ⟨_, _, hp⟩
 ·exact hk
 ·exact fun f hf => hk f (hp.mem_iff.1 hf)
theorem FactsIn.app {wX W w5 : World} {base : Nat} {v v' : Value} {fs out : List FG} (h : FactsIn wX base v fs) (ho : ∀ x ∈ out, FactIn wX base x) (hW : Kept [] wX W) (hg : W.grownBy w5 v.ownBlock) (hown : w5.ownsRow base 262 10 v' (fs.length + out.length) (fs.flatMap FG.cells ++ out.flatMap FG.cells)) : FactsIn w5 base v' (fs ++ out) := by
 have k5 : Kept v.ownBlock.toList wX w5 := (hW.mono (by simp)).trans (Kept.of_grown hg)
 have n1 : ∀ b ∈ v.ownBlock.toList, NotT wX 317 b := zaz h.row (by decide)
 have n2 : ∀ b ∈ v.ownBlock.toList, NotT wX 3 b := zaz h.row (by decide)
 refine ⟨?_, fun y hy => ?_⟩
 ·rw [List.length_append, List.flatMap_append]; exact hown
 ·rcases List.mem_append.1 hy with hy | hy
  ·exact (h.each y hy).keptT k5 n1 n2
  ·exact (ho y hy).keptT k5 n1 n2
end
section
open Go.RowKit Go.Maps Go.ChangeMaps Go.WideMaps
abbrev Th := ByteArray × List ByteArray
abbrev Th.p (t : Th) : ByteArray := t.1
abbrev Th.ts (t : Th) : List ByteArray := t.2
def nth4 (l : List ByteArray) (i : Nat) : ByteArray := (l[i]?).getD ⟨#[]⟩
def zbd (t : Th) : List Value := [.string t.p, .string (nth4 t.ts 0), .string (nth4 t.ts 1), .string (nth4 t.ts 2), .string (nth4 t.ts 3)]
def thV (t : Th) : Value := .agg (zbd t).toArray
structure ThOk (t : Th) : Prop where
 pd : t.p.size ≤ 1000000000
 few : t.ts.length ≤ 4
 sz : ∀ x ∈ t.ts, x.size ≤ 1000000000
 ne : ∀ x ∈ t.ts, 0 < x.size
theorem nth4_sz {t : Th} (h : ThOk t) (i : Nat) : (nth4 t.ts i).size ≤ 1000000000 := by
 unfold nth4
 rcases Nat.lt_or_ge i t.ts.length with hi | hi
 ·rw [List.getElem?_eq_getElem hi]; exact h.sz _ (List.getElem_mem hi)
 ·rw [List.getElem?_eq_none hi]; simp [ByteArray.size]
theorem zm4 {t : Th} (h : ThOk t) {i : Nat} (hi : i < t.ts.length) : 0 < (nth4 t.ts i).size := by
 unfold nth4
 rw [List.getElem?_eq_getElem hi]; exact h.ne _ (List.getElem_mem hi)
theorem zkm {l : List ByteArray} {i : Nat} (hi : l.length ≤ i) : (nth4 l i).size = 0 := by
 unfold nth4
 rw [List.getElem?_eq_none hi]; rfl
theorem thV_inj {a b : Th} (ha : ThOk a) (hb : ThOk b) (h : thV a = thV b) : a = b := by
 obtain ⟨p, ts⟩ := a
 obtain ⟨q, us⟩ := b
 simp only [thV, zbd, Value.agg.injEq, Array.mk.injEq, List.cons.injEq, Value.string.injEq, and_true] at h
 obtain ⟨hp, h0, h1, h2, h3⟩ := h
 subst hp
 have hn : ∀ i, i < 4 → nth4 ts i = nth4 us i := fun i hi => by
  match i, hi with
  | 0, _ => exact h0
  | 1, _ => exact h1
  | 2, _ => exact h2
  | 3, _ => exact h3
 have hf : ts.length ≤ 4 := ha.few
 have hg : us.length ≤ 4 := hb.few
 have hl : ts.length = us.length := by
  rcases Nat.lt_trichotomy ts.length us.length with h | h | h
  ·have e := hn ts.length (by omega)
   have p1 : 0 < (nth4 us ts.length).size := zm4 hb h
   have p2 := zkm (l := ts) (Nat.le_refl _)
   rw [e] at p2; omega
  ·exact h
  ·have e := hn us.length (by omega)
   have p1 : 0 < (nth4 ts us.length).size := zm4 ha h
   have p2 := zkm (l := us) (Nat.le_refl _)
   rw [← e] at p2; omega
 congr 1
 refine List.ext_getElem hl fun i h1 h2 => ?_
 have := hn i (by omega)
 unfold nth4 at this
 rw [List.getElem?_eq_getElem h1, List.getElem?_eq_getElem h2] at this
 exact this
theorem zn4 : ArrKey Tryz.prog 88 9 5 := ⟨Tryz.underlying88, by kernel_rfl, by kernel_rfl, by kernel_rfl⟩
theorem thLaw : KeyLaw Tryz.prog 88 := zn4.law
theorem zga : Keyed Tryz.prog 88 := Keyed.of_law thLaw
theorem typesPos : ∃ m, Tryz.prog.types.size = m + 1 := ⟨Tryz.prog.types.size - 1, by have : 0 < Tryz.prog.types.size := of_decide_eq_true (by kernel_rfl); omega⟩
theorem thKey {t : Th} (h : ThOk t) : ∃ l, keyOf Tryz.prog 88 (thV t) = some l := by
 have hkt := zn4.keyType typesPos
 obtain ⟨m, hm⟩ := typesPos
 have s0 : t.p.size ≤ maxLen := by have := h.pd; unfold maxLen; omega
 have s1 : ∀ i, (nth4 t.ts i).size ≤ maxLen := fun i => by have := nth4_sz h i; unfold maxLen; omega
 unfold keyOf
 simp only [zn4.hu]
 rw [if_pos (by simp [hkt, Value.formed, zn4.hu, zn4.size, thV, zbd]), hm]
 unfold Program.keyLits
 simp only [zn4.hu, thV, Value.cells]
 rw [if_pos (by rw [zn4.size]; rfl), show List.range 5 = [0, 1, 2, 3, 4] from rfl, List.mapM_cons, List.mapM_cons, List.mapM_cons, List.mapM_cons, List.mapM_cons, List.mapM_nil]
 simp [zn4.one, Program.keyLits, zbd, Tryz.underlying9, s0, s1]
def zco (L : List (Th × Nat)) (t : Th) : Option Nat := (L.find? fun p => decide (p.1 = t)).map (·.2)
def putN (L : List (Th × Nat)) (t : Th) (h : Nat) : List (Th × Nat) := if (zco L t).isSome then L.map (fun p => if p.1 = t then (t, h) else p) else L ++ [(t, h)]
theorem zeb {L : List (Th × Nat)} {t : Th} {n : Nat} (h : zco L t = some n) : (t, n) ∈ L := by
 unfold zco at h
 obtain ⟨p, hp, rfl⟩ := Option.map_eq_some_iff.1 h
 have h1 := List.mem_of_find?_eq_some hp
 have h2 := List.find?_some hp
 rw [← of_decide_eq_true h2]; exact h1
theorem zef {L : List (Th × Nat)} {t : Th} (h : zco L t = none) : ∀ n, (t, n) ∉ L := by
 intro n hn
 unfold zco at h
 rw [Option.map_eq_none_iff, List.find?_eq_none] at h
 exact h _ hn (decide_eq_true rfl)
theorem zem {L : List (Th × Nat)} (hd : (L.map (·.1)).Nodup) {t : Th} {n : Nat} (h : (t, n) ∈ L) : zco L t = some n := by
 cases hl : zco L t with
 | none => exact absurd h (zef hl n)
 | some m =>
  have h1 := zeb hl
  have : ∀ (L : List (Th × Nat)), (L.map (·.1)).Nodup → (t, n) ∈ L → (t, m) ∈ L → m = n := by
   intro L
   induction L with
   | nil => intro _ h; cases h
   | cons x r ih =>
    intro hd h1 h2
    rw [List.map_cons, List.nodup_cons] at hd
    rcases List.mem_cons.1 h1 with e1 | e1 <;> rcases List.mem_cons.1 h2 with e2 | e2
    ·have := e1.trans e2.symm; injection this with _ this; exact this.symm
    ·exact absurd (List.mem_map_of_mem (f := Prod.fst) e2) (by rw [← e1] at hd; exact hd.1)
    ·exact absurd (List.mem_map_of_mem (f := Prod.fst) e1) (by rw [← e2] at hd; exact hd.1)
    ·exact ih hd.2 e1 e2
  rw [this L hd h h1]
def HMap (w : World) (b : Nat) (L : List (Th × Nat)) : Prop :=
 ∃ D : DataW Value, w.ownsMap Tryz.prog 88 zcu b L.length D ∧ Maps.size D = L.length ∧ (L.map (·.1)).Nodup ∧ (∀ p ∈ L, ThOk p.1) ∧
  (∀ p ∈ L, ∀ l, keyOf Tryz.prog 88 (thV p.1) = some l → Maps.has D l = true ∧ ∀ z, D.atKey l z = .held (.int .i64 p.2)) ∧
  (∀ l, Maps.has D l = true → ∃ p ∈ L, keyOf Tryz.prog 88 (thV p.1) = some l)
theorem HMap.made (w : World) : HMap (w.alloc (.map #[] 0)) w.heap.size [] :=
 ⟨.map [], World.ownsMap_made w _ _ zcu, rfl, by simp, by simp, by simp, fun l h => by cases h⟩
theorem HMap.lt {w : World} {b : Nat} {L : List (Th × Nat)} (h : HMap w b L) : b < w.heap.size := by obtain ⟨D, hD, _⟩ := h; exact hD.lt
theorem HMap.ok {w : World} {b : Nat} {L : List (Th × Nat)} (h : HMap w b L) : ∀ p ∈ L, ThOk p.1 := by obtain ⟨D, _, _, _, h, _⟩ := h; exact h
theorem HMap.nodup {w : World} {b : Nat} {L : List (Th × Nat)} (h : HMap w b L) : (L.map (·.1)).Nodup := by obtain ⟨D, _, _, h, _⟩ := h; exact h
theorem HMap.kept {w w' : World} {b : Nat} {L : List (Th × Nat)} {row : Option Nat} (h : HMap w b L) (hg : w.grownBy w' row) (hr : some b ≠ row) : HMap w' b L := by
 obtain ⟨D, hD, h⟩ := h; exact ⟨D, hD.kept hg hr, h⟩
theorem HMap.block {w w' : World} {b : Nat} {L : List (Th × Nat)} (h : HMap w b L) (hb : w'.heap[b]? = w.heap[b]?) : HMap w' b L := by
 obtain ⟨D, ⟨es, clock, h1, h2⟩, h3⟩ := h
 exact ⟨D, ⟨es, clock, hb.trans h1, h2⟩, h3⟩
theorem HMap.alloc {w : World} {b : Nat} {L : List (Th × Nat)} (h : HMap w b L) (o : Obj) : HMap (w.alloc o) b L := h.kept (World.grownBy_alloc w o none) (by simp)
theorem HMap.isMap {w : World} {b : Nat} {L : List (Th × Nat)} (h : HMap w b L) : ∃ es clock, w.heap[b]? = some (.map es clock) := by
 obtain ⟨D, ⟨es, clock, h1, _⟩, _⟩ := h; exact ⟨es, clock, h1⟩
theorem zh9 {a b : Th} {l : Lit} (ha : ThOk a) (hb : ThOk b) (h1 : keyOf Tryz.prog 88 (thV a) = some l) (h2 : keyOf Tryz.prog 88 (thV b) = some l) : a = b := thV_inj ha hb (zga.inj h1 h2)
theorem HMap.look {w : World} {b : Nat} {L : List (Th × Nat)} (h : HMap w b L) {t : Th} (ht : ThOk t) {T : TypeId} (hT : Tryz.prog.underlying T = some (.map 88 3)) :
  (Instr.lookup T (.map (some b)) (thV t) true).run Tryz.prog w = .ok (.tuple #[.int .i64 (((zco L t).getD 0 : Nat) : Int), .bool (zco L t).isSome]) w := by
 obtain ⟨D, hD, hs, hn, hok, hall, honly⟩ := h
 obtain ⟨l, hl⟩ := thKey ht
 obtain ⟨v, ps, hrun, hv⟩ := hD.look_ok zga hT (z := .int .i64 0) (by kernel_rfl) (zd := .held (.int .i64 0)) (zp := []) rfl hl
 have h1 := zh2 hv
 cases hk : zco L t with
 | some n =>
  obtain ⟨h2, h3⟩ := hall _ (zeb hk) l hl
  rw [h3] at h1
  have h1 := DataW.held.inj h1
  subst h1
  rw [h2] at hrun
  exact hrun
 | none =>
  have h2 : Maps.has D l = false := by
   cases hh : Maps.has D l with
   | false => rfl
   | true =>
    obtain ⟨p, hp, hpl⟩ := honly l hh
    have e := zh9 (hok p hp) ht hpl hl
    exact absurd (show (t, p.2) ∈ L by rw [← e]; exact hp) (zef hk _)
  rw [Maps.atKey_of_not_has h2] at h1
  have h1 := DataW.held.inj h1
  subst h1
  rw [h2] at hrun
  exact hrun
theorem zkq (L : List (Th × Nat)) (t : Th) (n : Nat) : (putN L t n).length = if (zco L t).isSome then L.length else L.length + 1 := by
 unfold putN
 split <;> simp
theorem zjo {L : List (Th × Nat)} {t : Th} {n : Nat} {p : Th × Nat} (h : p ∈ putN L t n) : p = (t, n) ∨ (p ∈ L ∧ p.1 ≠ t) := by
 unfold putN at h
 split at h
 ·obtain ⟨q, hq, rfl⟩ := List.mem_map.1 h
  split
  ·exact .inl rfl
  ·rename_i hne; exact .inr ⟨hq, hne⟩
 ·rename_i hne
  rcases List.mem_append.1 h with h | h
  ·refine .inr ⟨h, fun e => ?_⟩
   have hno : zco L t = none := by simpa using hne
   exact zef hno p.2 (by rw [← e]; exact h)
  ·exact .inl (List.mem_singleton.1 h)
theorem zf6 (L : List (Th × Nat)) (t : Th) (n : Nat) : (t, n) ∈ putN L t n := by
 unfold putN
 split
 ·rename_i h
  obtain ⟨m, hm⟩ := Option.isSome_iff_exists.1 h
  exact List.mem_map.2 ⟨_, zeb hm, by simp⟩
 ·simp
theorem zhl {L : List (Th × Nat)} {t : Th} {n : Nat} {p : Th × Nat} (h : p ∈ L) (hne : p.1 ≠ t) : p ∈ putN L t n := by
 unfold putN
 split
 ·exact List.mem_map.2 ⟨p, h, by simp [hne]⟩
 ·exact List.mem_append_left _ h
theorem putN_keys {L : List (Th × Nat)} {t : Th} {n : Nat} : (putN L t n).map (·.1) = if (zco L t).isSome then L.map (·.1) else L.map (·.1) ++ [t] := by
 unfold putN
 split
 ·rw [List.map_map]
  refine List.map_congr_left fun p _ => ?_
  simp only [Function.comp]
  split
  ·rename_i e; exact e.symm
  ·rfl
 ·simp
theorem zfw {L : List (Th × Nat)} {t : Th} {n : Nat} (h : (L.map (·.1)).Nodup) : ((putN L t n).map (·.1)).Nodup := by
 rw [putN_keys]
 split
 ·exact h
 ·rename_i hne
  refine List.nodup_append.2 ⟨h, by simp, fun a ha b hb => ?_⟩
  rw [List.mem_singleton.1 hb]
  rintro rfl
  obtain ⟨p, hp, e⟩ := List.mem_map.1 ha
  have hno : zco L a = none := by simpa using hne
  exact zef hno p.2 (by rw [← e]; exact hp)
theorem zmu {P : Program} {K : TypeId} {w : World} {b n : Nat} {D : DataW Value} (h : w.ownsMap P K zcu b n D) : w.ownsMap P K zcu b (Maps.size D) D := by
 obtain ⟨es, clock, hb, F, hs, rfl⟩ := h
 exact ⟨es, clock, hb, F, by simp [Maps.size, length_sorted], rfl⟩
theorem HMap.put {w : World} {b : Nat} {L : List (Th × Nat)} (h : HMap w b L) {t : Th} (ht : ThOk t) (n : Nat) (hL : L.length < maxLen) {T : TypeId} (hT : Tryz.prog.underlying T = some (.map 88 3)) :
  ∃ w', (Instr.mapUpdate T (.map (some b)) (thV t) (.int .i64 n)).run Tryz.prog w = .ok () w' ∧ HMap w' b (putN L t n) ∧ w.mapTurned w' b := by
 obtain ⟨D, hD, hs, hn, hok, hall, honly⟩ := h
 obtain ⟨l, hl⟩ := thKey ht
 obtain ⟨w', hrun, hown, hturn⟩ := hD.store zga hT hL hl (val := .int .i64 n) (d := .held (.int .i64 n)) (ps := []) rfl
 have hkl := zga.key hl
 have hhas : Maps.has D l = (zco L t).isSome := by
  cases hk : zco L t with
  | some m => exact (hall _ (zeb hk) l hl).1
  | none =>
   cases hh : Maps.has D l with
   | false => rfl
   | true =>
    obtain ⟨p, hp, hpl⟩ := honly l hh
    have e := zh9 (hok p hp) ht hpl hl
    exact absurd (show (t, p.2) ∈ L by rw [← e]; exact hp) (zef hk _)
 have hsz : Maps.size (D.put l (.held (.int .i64 n))) = (putN L t n).length := by
  rw [Maps.size_put (hD.tidy zga), hhas, zkq, hs]
 refine ⟨w', hrun, ⟨_, ?_, hsz, zfw hn, fun p hp => ?_, fun p hp l' hl' => ?_, fun l' hl' => ?_⟩, hturn⟩
 ·rw [← hsz]; exact zmu hown
 ·rcases zjo hp with rfl | ⟨hp, _⟩
  ·exact ht
  ·exact hok p hp
 ·rcases zjo hp with rfl | ⟨hp, hne⟩
  ·have e : l' = l := Option.some.inj (hl'.symm.trans hl)
   subst e
   exact ⟨Maps.has_put_same hD.isMap hkl _, fun z => Maps.atKey_put_same hD.isMap hkl _ _⟩
  ·have hne' : l' ≠ l := fun e => hne (zh9 (hok p hp) ht (e ▸ hl') hl)
   obtain ⟨h1, h2⟩ := hall p hp l' hl'
   exact ⟨(Maps.has_put_other hne' _).trans h1, fun z => (Maps.atKey_put_other hne' _ _).trans (h2 z)⟩
 ·by_cases e : l' = l
  ·subst e
   exact ⟨_, zf6 L t n, hl⟩
  ·rw [Maps.has_put_other e] at hl'
   obtain ⟨p, hp, hpl⟩ := honly l' hl'
   exact ⟨p, zhl hp (fun e' => e (Option.some.inj ((e' ▸ hpl).symm.trans hl))), hpl⟩
theorem HMap.len {w : World} {b : Nat} {L : List (Th × Nat)} (h : HMap w b L) {T : TypeId} (hT : Tryz.prog.underlying T = some (.map 88 3)) (ty : TypeId) : (Builtin.len_ #[T] ty #[.map (some b)]).run Tryz.prog w = .ok (.int .i64 (L.length : Nat)) w := by
 obtain ⟨D, hD, hs, _⟩ := h
 rw [hD.len hT ty, hs]
def HRange (w : World) (b r : Nat) (L : List (Th × Nat)) (Lf : Th → Prop) (cnt : Nat) : Prop :=
 ∃ (D : DataW Value) (left : Lit → Bool), w.ranges Tryz.prog 88 zcu b r L.length D left cnt ∧ Maps.size D = L.length ∧ (L.map (·.1)).Nodup ∧ (∀ p ∈ L, ThOk p.1) ∧
  (∀ p ∈ L, ∀ l, keyOf Tryz.prog 88 (thV p.1) = some l → Maps.has D l = true ∧ ∀ z, D.atKey l z = .held (.int .i64 p.2)) ∧
  (∀ l, Maps.has D l = true → ∃ p ∈ L, keyOf Tryz.prog 88 (thV p.1) = some l) ∧
  (∀ p ∈ L, ∀ l, keyOf Tryz.prog 88 (thV p.1) = some l → (left l = true ↔ Lf p.1))
theorem HRange.map {w : World} {b r : Nat} {L : List (Th × Nat)} {Lf : Th → Prop} {cnt : Nat} (h : HRange w b r L Lf cnt) : HMap w b L := by
 obtain ⟨D, left, h1, h2, h3, h4, h5, h6, _⟩ := h; exact ⟨D, h1.owns, h2, h3, h4, h5, h6⟩
theorem HRange.lt {w : World} {b r : Nat} {L : List (Th × Nat)} {Lf : Th → Prop} {cnt : Nat} (h : HRange w b r L Lf cnt) : r < w.heap.size := by
 obtain ⟨D, left, h1, _⟩ := h; exact h1.lt
theorem HRange.blocks {w w' : World} {b r : Nat} {L : List (Th × Nat)} {Lf : Th → Prop} {cnt : Nat} (h : HRange w b r L Lf cnt) (hb : w'.heap[b]? = w.heap[b]?) (hr : w'.heap[r]? = w.heap[r]?) : HRange w' b r L Lf cnt := by
 obtain ⟨D, left, ⟨es, clock, since, seen, c0, h1, F, hs, hD, h2, rest⟩, h3⟩ := h
 exact ⟨D, left, ⟨es, clock, since, seen, c0, hb.trans h1, F, hs, hD, hr.trans h2, rest⟩, h3⟩
theorem HRange.iter {w : World} {b r : Nat} {L : List (Th × Nat)} {Lf : Th → Prop} {cnt : Nat} (h : HRange w b r L Lf cnt) : ∃ o : Obj, w.heap[r]? = some o ∧ o.isWalk = true := by
 obtain ⟨D, left, ⟨es, clock, since, seen, c0, _, _, _, _, h2, _⟩, _⟩ := h
 exact ⟨_, h2, rfl⟩
section
variable (w : World) {ops : Array Oper} {rest : List Oper} {o : Oper} {a : Act} {Q : Exit → Act → World → Prop}
theorem zkd (hg : o.guard = none) (m : Operand) (t : TypeId) (hop : o.op = Op.range t m) (ht : Tryz.prog.underlying t = some (.map 88 3)) (b : Nat) (L : List (Th × Nat))
  (hm : a.eval m = .map (some b)) (hown : HMap w b L)
  (hQ : ∀ w', HRange w' b w.heap.size L (fun _ => True) L.length → w.grownBy w' none → w'.heap.size = w.heap.size + 1 → wpList Tryz.prog ops Q rest (a.put o.dst (.pointer (some ⟨w.heap.size, 0, none⟩))) w') :
  wpList Tryz.prog ops Q (o :: rest) a w := by
 obtain ⟨D, hD, hs, hn, hok, hall, honly⟩ := hown
 refine wpList_range_own w hg m t hop 88 3 zga ht zcu b L.length D hm hD fun w' h1 h2 hs' => hQ w' ⟨D, _, by rw [← hs] at h1 ⊢; exact h1, hs, hn, hok, hall, honly, fun p hp l hl => ?_⟩ h2 hs'
 exact ⟨fun _ => trivial, fun _ => (hall p hp l hl).1⟩
theorem znr (hg : o.guard = none) (it : Operand) (hop : o.op = Op.next it false) (b r : Nat) (L : List (Th × Nat)) (Lf : Th → Prop) (cnt : Nat)
  (hit : a.eval it = .pointer (some ⟨r, 0, none⟩)) (h : HRange w b r L Lf cnt)
  (hDone : (∀ p ∈ L, ¬ Lf p.1) → wpList Tryz.prog ops Q rest (a.put o.dst (.tuple #[.bool false])) w)
  (hMore : ∀ (t : Th) (n : Nat) (w' : World) (cnt' : Nat), (t, n) ∈ L → Lf t → HRange w' b r L (fun x => Lf x ∧ x ≠ t) cnt' → cnt' < cnt → w.grownBy w' (some r) → w'.heap.size = w.heap.size →
   (Instr.entry (.pointer (some ⟨r, 0, none⟩))).run Tryz.prog w' = .ok (.tuple #[thV t, .int .i64 n]) w' → wpList Tryz.prog ops Q rest (a.put o.dst (.tuple #[.bool true, thV t, .int .i64 n])) w') :
  wpList Tryz.prog ops Q (o :: rest) a w := by
 obtain ⟨D, left, h1, hs, hn, hok, hall, honly, hlf⟩ := h
 refine wpList_next_ranges w hg it hop 88 zga zcu (id : Value → Value) (id : Value → Value) (fun key kl _ => ⟨key, rfl⟩) (fun v y _ => ⟨v, rfl⟩) b r L.length D left cnt hit h1
  (fun _ hl => hDone fun p hp hf => ?_) ?_
 ·obtain ⟨l, hk⟩ := thKey (hok p hp)
  have := (hlf p hp l hk).2 hf
  rw [hl] at this; cases this
 intro x c kl y w' cnt' hkey hlk hv hat hrg hlt hgr hsz hen
 have hhas : Maps.has D kl = true := Maps.has_true_of_atKey hat
 obtain ⟨p, hp, hpl⟩ := honly kl hhas
 have hx : x = thV p.1 := zga.inj hkey hpl
 have hy := zh2 (v := c) (d := y.1) (ps := y.2) hv
 have hc : c = .int .i64 p.2 := by
  have e1 := hat (.held undef)
  rw [(hall p hp kl hpl).2, hy] at e1
  exact (DataW.held.inj e1).symm
 subst hx hc
 refine hMore p.1 p.2 w' cnt' hp ((hlf p hp kl hpl).1 hlk) ⟨D, _, hrg, hs, hn, hok, hall, honly, fun q hq l hl => ?_⟩ hlt hgr hsz hen
 rw [Bool.and_eq_true, hlf q hq l hl, Bool.not_eq_true']
 refine and_congr_right fun _ => ⟨fun hs e => ?_, fun hne => Maps.sameKey_ne fun e => hne (zh9 (hok q hq) (hok p hp) (e ▸ hl) hpl)⟩
 rw [e] at hl
 have hl := Option.some.inj (hpl.symm.trans hl)
 rw [← hl, WideAt.sameKey_self (zga.key hpl)] at hs
 cases hs
theorem wp_hput (hg : o.guard = none) (m x v : Operand) (t : TypeId) (hop : o.op = Op.mapUpdate t m x v) (ht : Tryz.prog.underlying t = some (.map 88 3)) (b : Nat) (L : List (Th × Nat))
  (hm : a.eval m = .map (some b)) (hown : HMap w b L) (hn : L.length < maxLen) (th : Th) (n : Nat) (hx : a.eval x = thV th) (hv : a.eval v = .int .i64 n) (hth : ThOk th)
  (hQ : ∀ w', HMap w' b (putN L th n) → w.mapTurned w' b → wpList Tryz.prog ops Q rest (a.put o.dst undef) w') :
  wpList Tryz.prog ops Q (o :: rest) a w := by
 refine wpList_plain hg fun K' hK' => ?_
 obtain ⟨w', hrun, h1, h2⟩ := hown.put hth n hn ht
 unfold Oper.wp
 simp [execOp, hop, hm, hx, hv, hrun, Result.andThen]
 exact hK' _ _ (hQ w' h1 h2)
end
end
end Go.Proofs.YtldkpahaocjdpaaGreat
