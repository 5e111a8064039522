/-
  The reference's Query, at every atom and limit.
  Suits: whether an atom has as many terms as its predicate; mayBeLimit.
  The program's reader: what is asked, as a text that is one atom and nothing else.
  The program's readAsked: what is asked of a program with these predicates.
  The program's Query.
-/
import Derived.Test.YtldkpahaocjdpaaGreatQueriesT46
import Derived.Test.YtldkpahaocjdpaaGreatQueriesT43
import Derived.Test.YtldkpahaocjdpaaGreatQueriesT20
import Derived.Test.YtldkpahaocjdpaaGreatQueriesT24
import Derived.Test.YtldkpahaocjdpaaGreatQueriesT28
set_option maxHeartbeats 16000000
namespace Go.Proofs.YtldkpahaocjdpaaGreat
section
open Go.RowKit Go.Maps
theorem zlo (s : ByteArray) : ∀ (f p : Nat) (bd : Int) (l : List RTerm), (zcw s f p bd l).1.length ≤ l.length + f
 | 0, _, _, l => by simp [zcw]
 | f + 1, p, bd, l => by
  rw [zcw]
  split
  ·refine Nat.le_trans (zlo s f _ _ _) ?_
   simp; omega
  ·simp
theorem zqo (s : ByteArray) : (zaw s).terms.length ≤ 5 := by
 show (zag s 0 (-1)).1.length ≤ 5
 unfold zag
 split
 ·exact Nat.le_trans (zlo s 5 _ _ _) (by simp)
 ·simp
inductive QryOut (w : World) (ps : List (ByteArray × Nat)) (S : Nat → Nat) (rs : List RRule) (s : ByteArray) (limit : Int) (w' : World) : Value → Nat → Prop
 | arg : limit < 1 ∨ 50 < limit → QryOut w ps S rs s limit w' (.slice none 0 0) 8
 | ask : 1 ≤ limit → limit ≤ 50 → zh0 ps s = false → QryOut w ps S rs s limit w' (.slice none 0 0) 6
 | over : 1 ≤ limit → limit ≤ 50 → zh0 ps s = true → StrR ps S rs limit.toNat (zfl S ps.length) 0 [] none → QryOut w ps S rs s limit w' (.slice none 0 0) 7
 | yes {v : Value} {zs : List ByteArray} {l : List RFact} : 1 ≤ limit → limit ≤ 50 → zh0 ps s = true → StrR ps S rs limit.toNat (zfl S ps.length) 0 [] (some l) → l.length ≤ 50 → w'.ownsRow w.heap.size 9 1 v zs.length (zs.map .string) → RisT zs → zs.Perm (hitT (zaw s) l) → QryOut w ps S rs s limit w' v 0
def QryPost (w : World) (ps : List (ByteArray × Nat)) (S : Nat → Nat) (rs : List RRule) (s : ByteArray) (limit : Int) (e : Ending) (w' : World) : Prop :=
 ∃ v n, e = .returned (.tuple #[v, .int .i64 (n : Nat)]) ∧ QryOut w ps S rs s limit w' v n ∧ Below w.heap.size w w'
theorem MCtx.below {w : World} {o : Nat} {rs : List RR} {ps : List (ByteArray × Nat)} {rv pv tv : Value} {gs : Nat} {S : Nat → Nat} {w' : World} (h : MCtx w o rs ps rv pv tv gs S) (hb : Below w.heap.size w w') : MCtx w' o rs ps rv pv tv gs S :=
 ⟨h.prog.kept ((Kept.refl [] _).of_below hb) (by simp), h.strat.kept ((Kept.refl [] _).of_below hb), h.body, h.atoms, h.ixs⟩
set_option maxRecDepth 1000000 in
theorem query_any (w : World) (o : Nat) (rs : List RR) (ps : List (ByteArray × Nat)) (rv pv tv : Value) (gs : Nat) (S : Nat → Nat) (hC : MCtx w o rs ps rv pv tv gs S) (hS : ∀ i, i < ps.length → S i ≤ 1000000) (s : ByteArray) (hsm : s.size ≤ maxLen) (limit : Int) :
  Calls Tryz.prog 88 #[.pointer (some ⟨o, 0, none⟩), .string s, .int .i64 limit] w (QryPost w ps S (rs.map (·.R)) s limit) := by
 have HC := hide hC
 have HS := hide hS
 clear hC hS
 go_enter Tryz.func88, Tryz.ntmps88
 by_cases h1 : limit < 1
 ·go_wp2_with fail
  go_ret2
  exact ⟨_, 8, rfl, .arg (.inl h1), Below.refl _ _⟩
 ·by_cases h2 : 50 < limit
  ·go_wp2_with fail
   go_ret2
   exact ⟨_, 8, rfl, .arg (.inr h2), Below.refl _ _⟩
  ·obtain ⟨k, rfl⟩ : ∃ k : Nat, limit = k := ⟨limit.toNat, by omega⟩
   have g1 : 1 ≤ (k : Int) := by omega
   have g2 : (k : Int) ≤ 50 := by omega
   go_wp2_with fail
   refine (ask_any w o rs ps rv pv tv _ (zaa HC).prog s hsm).mono ?_
   rintro e w1 ⟨v, rfl, hA1⟩
   obtain ⟨aa, ca, rfl⟩ := zac hA1.row
   have HA1 := hide hA1
   clear hA1
   unfold RAtom.val
   cases hok : zh0 ps s with
   | false =>
    have HOK := hide hok
    clear hok
    go_wp2_with fail
    go_ret2
    exact ⟨_, 6, rfl, .ask g1 g2 (zaa HOK), by first | exact (zaa HA1).below | exact (zaa HA1).below.alloc (zaa HA1).below.size _⟩
   | true =>
    have HOK := hide hok
    clear hok
    go_wp2_with fail
    have hb2 := ((zaa HA1).below.alloc (zaa HA1).below.size (.cells #[.string (zaw s).pred, .slice aa (zaw s).terms.length ca, .bool (zaw s).no, .int .i64 (zaw s).at_, .int .i64 (zaw s).noAt] 243))
    have b0 := fun j => zb1 w1 (.string (zaw s).pred) (.slice aa (zaw s).terms.length ca) (.bool (zaw s).no) (.int .i64 (zaw s).at_) (.int .i64 (zaw s).noAt) 243 j
    have hrow2 := (zaa HA1).row.alloc (.cells #[.string (zaw s).pred, .slice aa (zaw s).terms.length ca, .bool (zaw s).no, .int .i64 (zaw s).at_, .int .i64 (zaw s).noAt] 243)
    have hsz : w1.heap.size < (w1.alloc (.cells #[.string (zaw s).pred, .slice aa (zaw s).terms.length ca, .bool (zaw s).no, .int .i64 (zaw s).at_, .int .i64 (zaw s).noAt] 243)).heap.size := by simp
    generalize w1.alloc (.cells #[.string (zaw s).pred, .slice aa (zaw s).terms.length ca, .bool (zaw s).no, .int .i64 (zaw s).at_, .int .i64 (zaw s).noAt] 243) = W at *
    generalize w1.heap.size = ab at *
    have hC2 := (zaa HC).below hb2
    have HB2 := hide hb2
    have HQ := hide (fun (w3 : World) (v : Value) (fs : List FG) (hI : M3In W v fs w3) (hl : fs.length ≤ 50) => (show QCtx w3 ab (zaw s) aa ca W.heap.size fs v from ⟨Nat.lt_of_lt_of_le hsz hI.below.size, (hI.below.cell (p := ⟨ab, 0, none⟩) hsz).trans (b0 0), (hI.below.cell (p := ⟨ab, 1, none⟩) hsz).trans (b0 1), (hI.below.cell (p := ⟨ab, 2, none⟩) hsz).trans (b0 2), (hI.below.cell (p := ⟨ab, 3, none⟩) hsz).trans (b0 3), (hI.below.cell (p := ⟨ab, 4, none⟩) hsz).trans (b0 4), zaf (zai hrow2 hI.below (fun g e => (hrow2.lt g e).2)) (Nat.zero_le _), Nat.le_trans (zqo s) (by decide), hI.facts, hl⟩))
    clear b0 hrow2 HA1 hb2
    refine (model_any W o rs ps rv pv tv gs S hC2 (zaa HS) k (by omega)).mono ?_
    rintro e w3 ⟨v, b, rfl, hO⟩
    clear hC2
    cases hO with
    | no hb3 hN =>
     have HB3 := hide ((zaa HB2).trans (hb3.mono (zaa HB2).size))
     have HN := hide hN
     clear hb3 hN
     go_wp2_with fail
     go_ret2
     exact ⟨_, 7, rfl, .over g1 g2 (zaa HOK) (by simpa using zaa HN), zaa HB3⟩
    | yes hI hl hY =>
     rename_i fs
     obtain ⟨al, cl, rfl⟩ := zac hI.facts.row
     have hbb := (zaa HB2).trans (hI.below.mono (zaa HB2).size)
     have HBB := hide hbb
     have HQ3 := hide (zaa HQ w3 _ fs hI (by omega))
     have HY := hide hY
     clear hI hY HQ hbb
     go_wp2_with fail
     refine query0 w3 ab (zaw s) aa ca W.heap.size fs al cl (zaa HQ3) ?_
     intro v11 zs w4
     intros
     rename_i h41 h42 h43
     obtain ⟨a4, c4, rfl⟩ := zac h41.row
     have hb4 := (zaa HBB).trans (h41.below.mono (zaa HBB).size)
     have HF := hide (show QryOut w ps S (rs.map (·.R)) s k w4 (.slice a4 zs.length c4) 0 from .yes g1 g2 (zaa HOK) (by simpa using zaa HY) (by simp; omega) (zaf h41.row (zaa HBB).size) h42 h43)
     have HB4 := hide hb4
     clear h41 h42 h43 hb4
     go_wp2_with fail
     go_ret2
     exact ⟨_, 0, rfl, zaa HF, zaa HB4⟩
end
section
open Go.RowKit Go.Maps
def zie (ps : List (ByteArray × Nat)) (A : PAtm) : Bool := match zbk ps A.p with
 | some n => decide (n = A.ts.length)
 | none => true
set_option maxRecDepth 100000 in
theorem suits_any (w : World) (tb n : Nat) (ps : List (ByteArray × Nat)) (S : ByteArray → Nat) (A : PAtm) (a : Option Addr) (c : Nat) (h : SMap Tryz.prog 9 w tb n (stV ps S)) (hp : A.p.size ≤ maxLen) :
  Calls Tryz.prog 58 #[.map (some tb), .agg #[.string A.p, .slice a A.ts.length c]] w fun en w' => en = .returned (.bool (zie ps A)) ∧ Below w.heap.size w w' := by
 have k0 : Below w.heap.size w (w.alloc (.cells #[.string A.p, .slice a A.ts.length c] 79)) := (Below.refl _ _).alloc (Nat.le_refl _) _
 have hm := h.block (k0.block tb h.lt)
 have HK := hide k0
 clear h
 cases hn : zbk ps A.p with
 | none =>
  have HS := hide (show zie ps A = true by unfold zie; rw [hn])
  have hu : (stV ps S A.p).getD (.agg #[.string { data := #[] }, .int .i64 0, .int .i64 0]) = .agg #[.string { data := #[] }, .int .i64 0, .int .i64 0] := by unfold stV; rw [hn]; rfl
  have hc : (stV ps S A.p).isSome = false := by unfold stV; rw [hn]; rfl
  clear k0
  go_enter Tryz.func58, Tryz.ntmps58
  go_wp2_with (at_lookup; refine zeg _ rfl _ _ 73 rfl 9 185 Tryz.underlying9 Tryz.underlying73 (Tryz.zeroValue185 _) tb n (stV ps S) rfl hm A.p rfl hp _ hu _ hc ?_)
  go_ret
  exact ⟨by rw [zaa HS]; rfl, (zaa HK).alloc (zaa HK).size _⟩
 | some m =>
  have hu : (stV ps S A.p).getD (.agg #[.string { data := #[] }, .int .i64 0, .int .i64 0]) = .agg #[.string A.p, .int .i64 (S A.p), .int .i64 m] := by unfold stV; rw [hn]; rfl
  have hc : (stV ps S A.p).isSome = true := by unfold stV; rw [hn]; rfl
  have HS := hide (show zie ps A = ((m : Int) == (A.ts.length : Int)) by
   unfold zie; rw [hn]
   by_cases e : m = A.ts.length
   ·subst e; simp
   ·have : ¬ ((m : Int) = A.ts.length) := by omega
    simp [e, this])
  clear k0
  go_enter Tryz.func58, Tryz.ntmps58
  go_wp2_with (at_lookup; refine zeg _ rfl _ _ 73 rfl 9 185 Tryz.underlying9 Tryz.underlying73 (Tryz.zeroValue185 _) tb n (stV ps S) rfl hm A.p rfl hp _ hu _ hc ?_)
  go_ret
  exact ⟨by rw [zaa HS]; rfl, (zaa HK).alloc (zaa HK).size _⟩
def zfy (l : Int) : Bool := decide (1 ≤ l) && decide (l ≤ 50)
theorem maybe_any (w : World) (l : Int) : Calls Tryz.prog 34 #[.int .i64 l] w fun en w' => en = .returned (.bool (zfy l)) ∧ w' = w := by
 by_cases h1 : 1 ≤ l
 ·go_enter Tryz.func34, Tryz.ntmps34
  go_wp2_with fail
  go_ret
  exact ⟨by unfold zfy; simp [h1], rfl⟩
 ·go_enter Tryz.func34, Tryz.ntmps34
  go_wp2_with fail
  go_ret
  exact ⟨by (unfold zfy; simp; omega), rfl⟩
end
section
open Go.RowKit
def zht (s : ByteArray) : Option PAtm :=
 match zby s 0 with
 | .no _ => none
 | .yes p pd ts _ => if (zae s p).1 = 0 then some ⟨pd, ts⟩ else none
def zod (w : World) (r : Option PAtm) (e : Ending) (w' : World) : Prop :=
 Below w.heap.size w w' ∧ match r with
 | none => e = .returned (.tuple #[.agg #[.string { data := #[] }, .slice none 0 0], .bool false])
 | some A => ∃ a c, e = .returned (.tuple #[.agg #[.string A.p, .slice a A.ts.length c], .bool true]) ∧ w'.ownsRow w.heap.size 191 1 (.slice a A.ts.length c) A.ts.length (A.ts.map zgr)
theorem a_start {w w1 : World} {s : ByteArray} (hb1 : Below (w.alloc (Obj.cells #[Value.string { data := #[] }, .slice none 0 0] 79)).heap.size (w.alloc (Obj.cells #[Value.string { data := #[] }, .slice none 0 0] 79)) w1) :
  Rdr (w1.alloc (Obj.cells #[Value.string s, .int .i64 (zae s 0).1, .int .i64 (zae s 0).2.1, .int .i64 (zae s 0).2.2, .int .i64 0, .slice none 0 0] 163)) w1.heap.size s 0 0 (.slice none 0 0) := by
 have hz := hb1.size
 simp at hz
 refine ⟨by simp, ?_, ?_, ?_, ?_, ?_, ?_, ?_⟩
 all_goals first | (rw [World.cell?_alloc_at _ _ _ _ rfl]; rfl) | (intro o; rw [World.frozen?_alloc_at _ _ _ _ rfl]; done) | skip
set_option maxRecDepth 100000 in
theorem rask_any (w : World) (s : ByteArray) (hs : s.size ≤ 2000000) :
  Calls Tryz.prog 57 #[.string s] w (zod w (zht s)) := by
 have hsm : s.size ≤ maxLen := by unfold maxLen; omega
 go_enter Tryz.func57, Tryz.ntmps57
 go_wp2_with fail
 refine (zjv s 0 (Nat.zero_le _) hsm _).mono ?_
 rintro e w1 ⟨rfl, hb1⟩
 have hz1 := hb1.size
 have hst := a_start (s := s) hb1
 have hres : w1.heap[w.heap.size]? = some (.cells #[.string { data := #[] }, .slice none 0 0] 79 (0, 0)) := by rw [hb1.block _ (by simp)]; exact heap_alloc_new w _
 have hbel : Below w.heap.size w w1 := ((Below.refl _ _).alloc (Nat.le_refl _) _).trans (hb1.mono (by simp))
 have HB := hide hbel
 have HR := hide hres
 have HST := hide hst
 clear hb1 hbel hres
 simp at hz1
 obtain ⟨hlt, c0, c1, c2, c3, c4, c5, fz⟩ := hst
 clear fz
 go_wp2_with fail
 refine (zj4 _ w1.heap.size s 0 0 (.slice none 0 0) false (zae s 0).2.1 [] (zaa HST) ⟨World.ownsRow_nil _ _ _ _, by simp⟩ (by simp) (Nat.zero_le _) hs).mono ?_
 intro e w2 hp
 clear hlt c0 c1 c2 c3 c4 c5
 have hba := (zaa HB).alloc (B := w.heap.size) (by omega) (Obj.cells #[Value.string s, .int .i64 (zae s 0).1, .int .i64 (zae s 0).2.1, .int .i64 (zae s 0).2.2, .int .i64 0, .slice none 0 0] 163)
 have hra := (Below.heap_alloc w1 (Obj.cells #[Value.string s, .int .i64 (zae s 0).1, .int .i64 (zae s 0).2.1, .int .i64 (zae s 0).2.2, .int .i64 0, .slice none 0 0] 163) w.heap.size (by omega)).trans (zaa HR)
 cases hP : zby s 0 with
 | no p =>
  rw [hP] at hp
  obtain ⟨rfl, hk2, hr2⟩ := hp
  have hz2 := hk2.size
  simp at hz2
  have HN := hide (show zht s = none by unfold zht; rw [hP])
  have hb2 := zar hba hk2 (by simp; omega) (by simp; omega)
  have hr2' := (hk2.block w.heap.size (by simp; omega) (by simp; omega)).trans hra
  have hr3 := (Below.heap_alloc w2 (Obj.cells #[Value.string { data := #[] }, .slice none 0 0] 79) w.heap.size (by omega)).trans hr2'
  obtain ⟨r0, f0⟩ := zab hr3 0
  obtain ⟨r1, f1⟩ := zab hr3 1
  have HB2 := hide hb2
  clear hk2 hr2 hba hra hb2 hr2' hP HST HR HB hr3
  go_wp2_with fail
  obtain ⟨q0, q1⟩ := zmy r0 r1 (.string { data := #[] }) (.slice none 0 0)
  refine bodyPost_ret (v := .tuple #[.agg #[.string { data := #[] }, .slice none 0 0], .bool false]) (by simp [results, Tryz.results57, go_sem, q0, q1]) rfl ?_
  rw [zaa HN]
  exact ⟨zar ((zaa HB2).alloc (by omega) _) (zfh _ w.heap.size _ _) (by simp; omega) (by simp), rfl⟩
 | yes p pd ts pl =>
  rw [hP] at hp
  obtain ⟨tv, mv', rfl, hk2, hr2, hm2, ht2, hf2⟩ := hp
  obtain ⟨ta, tc, rfl⟩ := zac ht2
  have hz2 := hk2.size
  simp at hz2
  have hb2 := zar hba hk2 (by simp; omega) (by simp [Value.ownBlock]; omega)
  have hr2' := (hk2.block w.heap.size (by simp; omega) (by simp [Value.ownBlock]; omega)).trans hra
  obtain ⟨hlt, c0, c1, c2, c3, c4, c5, fz⟩ := hr2.kept ((Kept.refl [] w2).alloc (Obj.cells #[.string pd, .slice ta ts.length tc] 79)) (by simp)
  have ht3 := zaf (base' := w.heap.size) ht2 (by simp; omega)
  have hnt : ∀ g, (Value.slice ta ts.length tc).ownBlock = some g → g ≠ w.heap.size := fun g hg e => by
   have := zaz ht2 (e := 79) (by decide) g (by simpa using hg)
   subst e
   exact this _ _ hr2'
  have hr3 := (Below.heap_alloc w2 (Obj.cells #[.string pd, .slice ta ts.length tc] 79) w.heap.size (by omega)).trans hr2'
  obtain ⟨r0, f0⟩ := zab hr3 0
  obtain ⟨r1, f1⟩ := zab hr3 1
  have HB2 := hide hb2
  have HT := hide ht3
  have HNT := hide hnt
  clear hk2 hr2 hba hra hb2 hr2' HST HR HB hm2 ht2 hf2 fz ht3 hnt hr3
  by_cases h0 : (zae s p).1 = 0
  ·have HN := hide (show zht s = some ⟨pd, ts⟩ by unfold zht; rw [hP]; exact if_pos h0)
   have h0i : ((zae s p).1 != 0) = false := by simp [h0]
   clear h0 hP
   go_wp2_with fail
   obtain ⟨q0, q1⟩ := zmy r0 r1 (.string pd) (.slice ta ts.length tc)
   refine bodyPost_ret (v := .tuple #[.agg #[.string pd, .slice ta ts.length tc], .bool true]) (by simp [results, Tryz.results57, go_sem, q0, q1]) rfl ?_
   rw [zaa HN]
   exact ⟨zar ((zaa HB2).alloc (by omega) _) (zfh _ w.heap.size _ _) (by simp; omega) (by simp), ta, tc, rfl, zdh ((zaa HT).alloc _) (zfh _ w.heap.size _ _) (zaa HNT)⟩
  ·have HN := hide (show zht s = none by unfold zht; rw [hP]; exact if_neg h0)
   have h0i : ((zae s p).1 != 0) = true := by simp [h0]
   clear h0 hP
   go_wp2_with fail
   obtain ⟨q0, q1⟩ := zmy r0 r1 (.string { data := #[] }) (.slice none 0 0)
   refine bodyPost_ret (v := .tuple #[.agg #[.string { data := #[] }, .slice none 0 0], .bool false]) (by simp [results, Tryz.results57, go_sem, q0, q1]) rfl ?_
   rw [zaa HN]
   exact ⟨zar ((zaa HB2).alloc (by omega) _) (zfh _ w.heap.size _ _) (by simp; omega) (by simp), rfl⟩
end
section
open Go.RowKit Go.Maps
def zfg (ps : List (ByteArray × Nat)) (s : ByteArray) : Option PAtm := match zht s with
 | none => none
 | some A => if zie ps A then some A else none
theorem zn9 {s : ByteArray} {A : PAtm} (h : zht s = some A) : A.p.size ≤ s.size ∧ A.ts.length ≤ 4 := by
 unfold zht at h
 split at h
 ·cases h
 ·rename_i p pd ts pl hp
  split at h
  ·cases h; exact zjt hp
  ·cases h
set_option maxRecDepth 100000 in
theorem zmp (w : World) (s : ByteArray) (tb n : Nat) (ps : List (ByteArray × Nat)) (S : ByteArray → Nat) (h : SMap Tryz.prog 9 w tb n (stV ps S)) (hs : s.size ≤ 2000000) :
  Calls Tryz.prog 37 #[.string s, .map (some tb)] w (zod w (zfg ps s)) := by
 have htl := h.lt
 have HM := hide h
 clear h
 go_enter Tryz.func37, Tryz.ntmps37
 go_wp2_with fail
 refine (rask_any _ s hs).mono ?_
 rintro e w1 ⟨hb1, hp⟩
 have hz1 := hb1.size
 have hres : w1.heap[w.heap.size]? = some (.cells #[.string { data := #[] }, .slice none 0 0] 79 (0, 0)) := by rw [hb1.block _ (by simp)]; exact heap_alloc_new w _
 have hbel : Below w.heap.size w w1 := ((Below.refl _ _).alloc (Nat.le_refl _) _).trans (hb1.mono (by simp))
 have hm1 := (zaa HM).block (hbel.block tb htl)
 have HB := hide hbel
 simp at hz1
 clear hb1 hbel
 cases hP : zht s with
 | none =>
  rw [hP] at hp
  subst hp
  have HN := hide (show zfg ps s = none by unfold zfg; rw [hP])
  have hr3 := (Below.heap_alloc w1 (Obj.cells #[Value.string { data := #[] }, .slice none 0 0] 79) w.heap.size (by omega)).trans hres
  obtain ⟨r0, f0⟩ := zab hr3 0
  obtain ⟨r1, f1⟩ := zab hr3 1
  clear hP hm1 hres hr3
  go_wp2_with fail
  obtain ⟨q0, q1⟩ := zmy r0 r1 (.string { data := #[] }) (.slice none 0 0)
  refine bodyPost_ret (v := .tuple #[.agg #[.string { data := #[] }, .slice none 0 0], .bool false]) (by simp [results, Tryz.results37, go_sem, q0, q1]) rfl ?_
  rw [zaa HN]
  exact ⟨zar ((zaa HB).alloc (by omega) _) (zfh _ w.heap.size _ _) (by simp; omega) (by simp), rfl⟩
 | some A =>
  rw [hP] at hp
  obtain ⟨a, c, rfl, hrow⟩ := hp
  obtain ⟨hsz, h4⟩ := zn9 hP
  have hnt : ∀ g, (Value.slice a A.ts.length c).ownBlock = some g → g ≠ w.heap.size := fun g hg e => by
   have := hrow.lt g hg
   simp at this
   omega
  have HT := hide (zaf (base' := w.heap.size) hrow (by simp))
  have HNT := hide hnt
  have HP := hide hP
  have hm2 := hm1.block (Below.heap_alloc w1 (Obj.cells #[Value.string A.p, .slice a A.ts.length c] 79) tb (by omega))
  have hr3 := (Below.heap_alloc w1 (Obj.cells #[.string A.p, .slice a A.ts.length c] 79) w.heap.size (by omega)).trans hres
  have HM2 := hide hm2
  have HR3 := hide hr3
  clear hP hm1 hm2 hrow hnt hres hr3 HM
  go_wp2_with fail
  refine (suits_any _ tb n ps S A a c (zaa HM2) (by unfold maxLen; omega)).mono ?_
  rintro e w2 ⟨rfl, hb2⟩
  have hz2 := hb2.size
  simp at hz2
  have hr4 := (hb2.block w.heap.size (by simp; omega)).trans (zaa HR3)
  have hat := (hb2.block w1.heap.size (by simp)).trans (heap_alloc_new w1 _)
  have HB2 := hide (((zaa HB).alloc (by omega) _).trans (hb2.mono (by simp; omega)))
  have HT2 := hide (zai ((zaa HT).alloc _) hb2 (fun g e => by have := ((zaa HT).lt g e).2; simp; omega))
  obtain ⟨r0, f0⟩ := zab hr4 0
  obtain ⟨r1, f1⟩ := zab hr4 1
  obtain ⟨a0, g0⟩ := zab hat 0
  obtain ⟨a1, g1⟩ := zab hat 1
  clear hb2 hr4 hat
  cases hS : zie ps A with
  | false =>
   have HN := hide (show zfg ps s = none by unfold zfg; rw [zaa HP]; simp [hS])
   clear hS
   go_wp2_with fail
   obtain ⟨q0, q1⟩ := zmy r0 r1 (.string { data := #[] }) (.slice none 0 0)
   refine bodyPost_ret (v := .tuple #[.agg #[.string { data := #[] }, .slice none 0 0], .bool false]) (by simp [results, Tryz.results37, go_sem, q0, q1]) rfl ?_
   rw [zaa HN]
   exact ⟨zar (zaa HB2) (zfh _ w.heap.size _ _) (by omega) (by simp), rfl⟩
  | true =>
   have HN := hide (show zfg ps s = some A by unfold zfg; rw [zaa HP]; simp [hS])
   clear hS
   go_wp2_with fail
   obtain ⟨q0, q1⟩ := zmy r0 r1 (.string A.p) (.slice a A.ts.length c)
   refine bodyPost_ret (v := .tuple #[.agg #[.string A.p, .slice a A.ts.length c], .bool true]) (by simp [results, Tryz.results37, go_sem, q0, q1]) rfl ?_
   rw [zaa HN]
   exact ⟨zar (zaa HB2) (zfh _ w.heap.size _ _) (by omega) (by simp), a, c, rfl, zdh (zaa HT2) (zfh _ w.heap.size _ _) (zaa HNT)⟩
end
section
open Go.RowKit Go.Maps
inductive PQOut (w : World) (rs : List PR) (ps : List (ByteArray × Nat)) (s : ByteArray) (limit : Int) (w' : World) : Ending → Prop
 | arg : zfy limit = false → PQOut w rs ps s limit w' (.returned (.tuple #[.slice none 0 0, .int .i64 8]))
 | ask : zfy limit = true → zfg ps s = none → PQOut w rs ps s limit w' (.returned (.tuple #[.slice none 0 0, .int .i64 6]))
 | over {A : PAtm} {S : ByteArray → Nat} {m : Nat} : zfy limit = true → zfg ps s = some A → zgh (rs.map (·.R)) S → LowN (rs.map (·.R)) S → zio ps S m → PStrat rs S limit.toNat m 0 [] none → PQOut w rs ps s limit w' (.returned (.tuple #[.slice none 0 0, .int .i64 7]))
 | yes {A : PAtm} {S : ByteArray → Nat} {m : Nat} {K : List (Th × Nat)} {zs : List ByteArray} {a : Option Addr} {c : Nat} : zfy limit = true → zfg ps s = some A → zgh (rs.map (·.R)) S → LowN (rs.map (·.R)) S → zio ps S m → PStrat rs S limit.toNat m 0 [] (some K) → (K.map (·.1)).Nodup → zs.Perm ((K.filter (hitB A)).map fun p => zc6 p.1) → w'.ownsRow w.heap.size 9 1 (.slice a zs.length c) zs.length ((znn zs).map encStr) → PQOut w rs ps s limit w' (.returned (.tuple #[.slice a zs.length c, .int .i64 0]))
theorem limit_of {l : Int} (h : zfy l = true) : 1 ≤ l ∧ l ≤ 50 := by unfold zfy at h; simpa using h
theorem RRow.belowR {w w' : World} {n base : Nat} {rv : Value} {rs : List PR} (h : RRow w base rv rs) (k : Below n w w') (hn : w.heap.size ≤ n) : RRow w' base rv rs :=
 h.keptT (B := []) ⟨k.os, k.tape, k.output, k.size, fun i hi _ => k.block i (by omega)⟩ (by simp)
set_option maxRecDepth 100000 in
theorem pquery_any (w : World) (base b : Nat) (rs : List PR) (ps : List (ByteArray × Nat)) (s : ByteArray) (limit : Int) (TI : Th → Prop) (hs : s.size ≤ 2000000) (h : ProgIn w base b rs) (hrl : rs.length ≤ 30) (hb3 : ∀ r ∈ rs, r.bs.length ≤ 3) (hpd : ∀ r ∈ rs, r.R.pd.size ≤ 800) (hlp : ∀ r ∈ rs, ∀ x ∈ r.bs, x.1.pd.size ≤ 800) (hag : zee ((rs.map (·.R)).flatMap zcs) []) (hps : zdn ((rs.map (·.R)).flatMap zcs) [] = ps) (hpl : ps.length ≤ 1000) (hin : ∀ r ∈ rs, (∃ n, zbk ps r.R.pd = some n) ∧ ∀ x ∈ r.bs, ∃ n, zbk ps x.1.pd = some n) (f0 : ByteArray → Nat) (hf0 : zgh (rs.map (·.R)) f0) (hfb : ∀ k, f0 k ≤ 1000) (hcl : Closed rs TI) (hTI : ∀ t, TI t → (zet t.1 (zb7 t)).length ≤ 1000000000) :
  Calls Tryz.prog 20 #[.pointer (some ⟨b, 0, none⟩), .string s, .int .i64 limit] w fun e w' => PQOut w rs ps s limit w' e ∧ Below w.heap.size w w' := by
 obtain ⟨a, c, hb, hbase, hr⟩ := h
 have hbl : b < w.heap.size := (Array.getElem?_eq_some_iff.1 hb).1
 obtain ⟨x0, _⟩ := zab hb 0
 have HR := hide hr
 have HB := hide hb
 have HCL := hide hcl
 have HTI := hide hTI
 have HOF := hide (of_any w base a c rs ps hr hrl hb3 hpd hlp hag hps hpl hin f0 hf0 hfb)
 have HPD := hide (show ∀ r ∈ rs, r.R.pd.size ≤ 800 ∧ (zbk ps r.R.pd).isSome = true from fun r hr => ⟨hpd r hr, by obtain ⟨n, e⟩ := (hin r hr).1; rw [e]; rfl⟩)
 have HF0 := hide hf0
 have HFB := hide hfb
 clear hr hb3 hpd hlp hag hps hpl hin hf0 hfb hcl hTI
 go_enter Tryz.func20, Tryz.ntmps20
 go_wp2_with fail
 refine (maybe_any w limit).mono ?_
 rintro e w1 ⟨rfl, hw⟩
 have hw := hw.symm
 subst hw
 cases hL : zfy limit with
 | false =>
  have HL := hide hL
  clear hL
  go_wp2_with fail
  go_ret2
  exact ⟨.arg (zaa HL), Below.refl _ _⟩
 | true =>
  obtain ⟨l1, l50⟩ := limit_of hL
  obtain ⟨lim, rfl⟩ : ∃ n : Nat, limit = n := ⟨limit.toNat, by omega⟩
  have HL := hide hL
  clear hL
  go_wp2_with fail
  refine (zof _ b _ a rs.length c rfl x0).mono ?_
  rintro e w2 ⟨rfl, hw⟩
  have hw := hw.symm
  subst hw
  go_wp2_with fail
  refine (zaa HOF).mono ?_
  clear HOF
  rintro e w2 ⟨rfl, hz2, hb2, S, n, hm, hn, hval, hlow⟩
  have HS := hide (show ∀ k, (zbk ps k).isSome = true → S k ≤ 1000000 from fun k _ => by have := hlow f0 (zaa HF0) k; have := zaa HFB k; omega)
  have HV := hide hval
  have HLO := hide hlow
  have HM := hide hm
  have HB2 := hide hb2
  clear hval hlow hm hb2 x0
  go_wp2_with fail
  refine (zmp w2 s _ n ps S (zaa HM) hs).mono ?_
  rintro e w3 ⟨hb3, hp⟩
  have hz3 := hb3.size
  have hB3 := (zaa HB2).trans (hb3.mono (by omega))
  have hpb3 := (hB3.block b hbl).trans (zaa HB)
  have hm3 := (zaa HM).block (hb3.block _ hz2)
  have hr3 := (zaa HR).belowR hB3 (Nat.le_refl _)
  cases hP : zfg ps s with
  | none =>
   rw [hP] at hp
   subst hp
   have HP := hide hP
   have HB3 := hide (hB3.alloc (by omega) (.cells #[.string { data := #[] }, .slice none 0 0] 79))
   clear hP hB3 hpb3 hm3 hr3 hb3
   go_wp2_with fail
   go_ret2
   exact ⟨.ask (zaa HL) (zaa HP), zaa HB3⟩
  | some A =>
   rw [hP] at hp
   obtain ⟨aa, ac, rfl, hrow⟩ := hp
   have hb4 := hB3.alloc (by omega) (.cells #[.string A.p, .slice aa A.ts.length ac] 79)
   have hpb4 := (Below.heap_alloc w3 (.cells #[.string A.p, .slice aa A.ts.length ac] 79) b (by omega)).trans hpb3
   have hm4 := hm3.block (Below.heap_alloc w3 (.cells #[.string A.p, .slice aa A.ts.length ac] 79) w.heap.size (by omega))
   have hr4 := hr3.below ((Below.refl _ _).alloc (Nat.le_refl _) (.cells #[.string A.p, .slice aa A.ts.length ac] 79))
   have hrow4 := hrow.alloc (.cells #[.string A.p, .slice aa A.ts.length ac] 79)
   have hat4 := heap_alloc_new w3 (.cells #[.string A.p, .slice aa A.ts.length ac] 79)
   obtain ⟨hpsz, h4⟩ : A.p.size ≤ s.size ∧ A.ts.length ≤ 4 := by
    unfold zfg at hP
    split at hP
    ·cases hP
    ·rename_i A' hA
     split at hP
     ·cases hP; exact zn9 hA
     ·cases hP
   have hz4 : (w3.alloc (.cells #[.string A.p, .slice aa A.ts.length ac] 79)).heap.size = w3.heap.size + 1 := by simp
   have HP := hide hP
   have HB4 := hide hb4
   have HPB4 := hide hpb4
   have HM4 := hide hm4
   have HR4 := hide hr4
   have HRW4 := hide hrow4
   have HAT4 := hide hat4
   have HZ4 := hide hz4
   clear hP hB3 hpb3 hm3 hr3 hb3 hb4 hpb4 hm4 hr4 hrow4 hat4 hrow hz4
   go_wp2_with fail
   generalize (w3.alloc (.cells #[.string A.p, .slice aa A.ts.length ac] 79)) = w4 at *
   obtain ⟨x0, _⟩ := zab (zaa HPB4) 0
   refine (zof _ b _ a rs.length c rfl x0).mono ?_
   rintro e w5 ⟨rfl, hw⟩
   have hw := hw.symm
   subst hw
   clear x0
   go_wp2_with fail
   have hz4 := zaa HZ4
   refine (foll_any w4 base a c rs w.heap.size n ps S lim TI (zaa HR4) (by omega) (zaa HM4) (zaa HS) (by omega) (zaa HPD) (zaa HCL) (by omega)).mono ?_
   rintro e w5 ⟨m, r, hcnt, hpstr, hb5, hno, hyes⟩
   have hB5 := (zaa HB4).trans (hb5.mono (by omega))
   have hat5 := (hb5.block w3.heap.size (by omega)).trans (zaa HAT4)
   have hrow5 := zai (zaa HRW4) hb5 (fun g e => ((zaa HRW4).lt g e).2)
   cases r with
   | none =>
    have he := hno rfl
    subst he
    have HB5 := hide hB5
    have HX := hide (And.intro hcnt hpstr)
    clear hno hyes hcnt hpstr hB5 hat5 hrow5 hb5 hz4
    go_wp2_with fail
    go_ret2
    exact ⟨.over (zaa HL) (zaa HP) (zaa HV) (zaa HLO) (zaa HX).1 (zaa HX).2, zaa HB5⟩
   | some K =>
    obtain ⟨kb, rfl, hkb, hmap, hKl, hKt⟩ := hyes K rfl
    have hz5 := hb5.size
    obtain ⟨y0, _⟩ := zab hat5 0
    obtain ⟨y1, _⟩ := zab hat5 1
    have HB5 := hide hB5
    have HX := hide (And.intro hcnt hpstr)
    have HMP := hide hmap
    have HRW5 := hide hrow5
    have HKT := hide hKt
    clear hno hyes hcnt hpstr hB5 hat5 hrow5 hb5 hmap hKt hz4
    go_wp2_with fail
    refine (zpu w5 kb w2.heap.size A aa ac K (zaa HMP) (zaa HRW5) h4 (by omega) (fun p hp => zaa HTI _ (zaa HKT p hp))).mono ?_
    rintro e w6 ⟨zs, az, cz, rfl, hperm, hrow6, hb6⟩
    have HZ := hide (PQOut.yes (limit := (lim : Int)) (zaa HL) (zaa HP) (zaa HV) (zaa HLO) (zaa HX).1 (zaa HX).2 (zaa HMP).nodup hperm (zaf (base' := w.heap.size) hrow6 (zaa HB5).size))
    have HB6 := hide ((zaa HB5).trans (hb6.mono (zaa HB5).size))
    clear hperm hrow6 hb6
    go_wp2_with fail
    go_ret2
    exact ⟨zaa HZ, zaa HB6⟩
end
end Go.Proofs.YtldkpahaocjdpaaGreat
