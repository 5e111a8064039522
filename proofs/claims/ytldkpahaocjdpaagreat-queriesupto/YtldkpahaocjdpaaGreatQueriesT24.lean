/-
  Plain: the bounds of what the program's reader reads.
  The program's Fault and Load: at every text the answer is the plain text's.
  The program's table of predicates: add, ground.
  The program's strata: raise.
  The program's strata: Of.
-/
import Derived.Test.YtldkpahaocjdpaaGreatQueriesT20
import Derived.Test.YtldkpahaocjdpaaGreatQueriesT23
set_option maxHeartbeats 16000000
namespace Go.Proofs.YtldkpahaocjdpaaGreat
section
theorem pterms_len (s : ByteArray) (f : Nat) : ∀ {p : Nat} {l : List (Bool × ByteArray)} {pl : Nat → Nat}, (zat s f p l pl).2.2.1.length ≤ l.length + f := by
 induction f with
 | zero => intro p l pl; simp [zat]
 | succ f ih =>
  intro p l pl
  rw [zat]
  split
  ·split
   ·refine Nat.le_trans ih ?_; first | (simp; done) | (simp; omega)
   ·first | (simp; done) | (simp; omega)
  ·first | (simp; done) | (simp; omega)
theorem zjt {s : ByteArray} {p q : Nat} {pd : ByteArray} {ts : List (Bool × ByteArray)} {pl : Nat → Nat} (h : zby s p = .yes q pd ts pl) : pd.size ≤ s.size ∧ ts.length ≤ 4 := by
 unfold zby at h
 by_cases c1 : (zae s p).1 = 2
 ·rw [if_pos c1] at h
  by_cases c2 : (zae s (zae s p).2.2).1 = 5
  ·rw [if_pos c2] at h
   by_cases c3 : (zat s 4 (zae s (zae s p).2.2).2.2 [] (fun _ => 0)).1 = true
   ·rw [if_pos c3] at h
    injection h with h1 h2 h3 h4
    subst h2 h3
    refine ⟨zix s p, ?_⟩
    have := pterms_len s 4 (p := (zae s (zae s p).2.2).2.2) (l := []) (pl := fun _ => 0)
    simpa using this
   ·rw [if_neg c3] at h; cases h
  ·rw [if_neg c2] at h
   injection h with h1 h2 h3 h4
   subst h2 h3
   exact ⟨zix s p, by simp⟩
 ·rw [if_neg c1] at h; cases h
def OkM (s : ByteArray) (M : PMen) : Prop := M.pd.size ≤ s.size ∧ M.ts.length ≤ 4
def OkL (s : ByteArray) (L : PLit) : Prop := L.pd.size ≤ s.size
def OkR (s : ByteArray) (R : PRule) : Prop := R.pd.size ≤ s.size ∧ R.body.length ≤ 3 ∧ ∀ l ∈ R.body, OkL s l
theorem pbody_ok (s : ByteArray) (num : Nat) (f : Nat) : ∀ {p : Nat} {l : List PLit} {ms : List PMen}, (∀ x ∈ l, OkL s x) → (∀ M ∈ ms, OkM s M) → (zck s num f p l ms).2.2.1.length ≤ l.length + f ∧ (∀ x ∈ (zck s num f p l ms).2.2.1, OkL s x) ∧ (∀ M ∈ (zck s num f p l ms).2.2.2, OkM s M) := by
 induction f with
 | zero => intro p l ms hl hm; exact ⟨by simp [zck], hl, hm⟩
 | succ f ih =>
  intro p l ms hl hm
  rw [zck]
  cases hr : zby s (za2 s p 4) with
  | no q => exact ⟨by simp, hl, hm⟩
  | yes q pd ts pl =>
   obtain ⟨o1, o2⟩ := zjt hr
   have hl' : ∀ x ∈ l ++ [ze8 s p pd ts], OkL s x := fun x hx => by
    rcases List.mem_append.1 hx with hx | hx
    ·exact hl x hx
    ·simp at hx; subst hx; exact o1
   have hm' : ∀ M ∈ ms ++ [zgu s num p pd ts pl], OkM s M := fun x hx => by
    rcases List.mem_append.1 hx with hx | hx
    ·exact hm x hx
    ·simp at hx; subst hx; exact ⟨o1, o2⟩
   simp only
   split
   ·obtain ⟨a, b, c⟩ := ih (p := (zae s q).2.2) hl' hm'
    refine ⟨Nat.le_trans a ?_, b, c⟩
    first | (simp; done) | (simp; omega)
   ·exact ⟨by first | (simp; done) | (simp; omega), hl', hm'⟩
theorem prule_ok (s : ByteArray) (num p : Nat) {ms : List PMen} (hm : ∀ M ∈ ms, OkM s M) : OkR s (zb2 s num p ms).2.2.1 ∧ ∀ M ∈ (zb2 s num p ms).2.2.2, OkM s M := by
 unfold zb2
 cases hr : zby s p with
 | no q => exact ⟨⟨Nat.zero_le _, by simp, by simp⟩, hm⟩
 | yes q pd ts pl =>
  obtain ⟨o1, o2⟩ := zjt hr
  have hm' : ∀ M ∈ ms ++ [zhc s num p pd ts pl], OkM s M := fun x hx => by
   rcases List.mem_append.1 hx with hx | hx
   ·exact hm x hx
   ·simp at hx; subst hx; exact ⟨o1, o2⟩
  simp only
  split
  ·exact ⟨⟨o1, by simp, by simp⟩, hm'⟩
  ·split
   ·obtain ⟨a, b, c⟩ := pbody_ok s num 3 (p := (zae s q).2.2) (l := []) (by simp) hm'
    exact ⟨⟨o1, by simpa using a, b⟩, c⟩
   ·exact ⟨⟨o1, by simp, by simp⟩, hm'⟩
theorem prules_ok (s : ByteArray) (f : Nat) : ∀ {p : Nat} {rs : List PRule} {ms : List PMen}, (∀ R ∈ rs, OkR s R) → (∀ M ∈ ms, OkM s M) → (∀ R ∈ (zcy s f p rs ms).2.2.1, OkR s R) ∧ (∀ M ∈ (zcy s f p rs ms).2.2.2, OkM s M) := by
 induction f with
 | zero => intro p rs ms hr hm; exact ⟨hr, hm⟩
 | succ f ih =>
  intro p rs ms hr hm
  obtain ⟨o1, o2⟩ := prule_ok s rs.length p hm
  rw [zcy]
  split
  ·exact ⟨hr, hm⟩
  ·split
   ·exact ⟨hr, hm⟩
   ·split
    ·refine ih (fun R hR => ?_) o2
     rcases List.mem_append.1 hR with hR | hR
     ·exact hr R hR
     ·simp at hR; subst hR; exact o1
    ·exact ⟨hr, o2⟩
theorem text_num {n : Nat} {rs : List RRule} {ms : List PMen} (h : TextRel n rs ms) : ∀ M ∈ ms, n ≤ M.num ∧ M.num < n + rs.length := by
 induction h with
 | nil n => simp
 | cons h t ih =>
  intro M hM
  rcases List.mem_append.1 hM with hM | hM
  ·obtain ⟨q, _, q2, q3⟩ := h
   rw [← q2] at hM
   obtain ⟨x, hx, rfl⟩ := List.mem_map.1 hM
   have := (q3 x hx).num
   simp; omega
  ·have := ih M hM
   simp; omega
theorem zlz (s : ByteArray) (hs : s.size ≤ 800) (h : (za6 s).1 = true) : (∀ R ∈ (za6 s).2.2.1, R.pd.size ≤ 800 ∧ R.body.length ≤ 3 ∧ ∀ l ∈ R.body, l.pd.size ≤ 800) ∧ (∀ M ∈ (za6 s).2.2.2, M.pd.size ≤ 800 ∧ M.ts.length ≤ 4 ∧ M.num < (za6 s).2.2.1.length) := by
 obtain ⟨o1, o2⟩ := prules_ok s 31 (p := 0) (rs := []) (ms := []) (by simp) (by simp)
 obtain ⟨_, e2, e3⟩ := (zid s).1 h
 refine ⟨fun R hR => ?_, fun M hM => ?_⟩
 ·obtain ⟨a, b, c⟩ := o1 R hR
  exact ⟨Nat.le_trans a hs, b, fun l hl => Nat.le_trans (c l hl) hs⟩
 ·obtain ⟨a, b⟩ := o2 M hM
  have := (text_num e3 M hM).2
  rw [e2]
  exact ⟨Nat.le_trans a hs, b, by simpa using this⟩
end
section
open Go.RowKit Go.Maps
noncomputable def zgl (rs : List PRule) (ms : List PMen) : Int × Int :=
 if 0 ≤ ze4 ms [] then (3, ze4 ms []) else if 0 ≤ zct rs ms then (4, zct rs ms) else if 0 ≤ zdq rs ms then (5, zdq rs ms) else (0, 0)
set_option maxRecDepth 100000 in
theorem fault_any (w : World) (base : Nat) (ar : Option Addr) (cr : Nat) (rs : List PR) (am : Option Addr) (cm : Nat) (ms : List (PMen × Value)) (h : RRow w base (.slice ar rs.length cr) rs) (h' : MRow w base (.slice am ms.length cm) ms) (hf : Few rs ms) :
  Calls Tryz.prog 46 #[.agg #[.slice ar rs.length cr, .slice am ms.length cm]] w fun e w' => e = .returned (.tuple #[.int .i64 (zgl (rs.map (·.R)) (ms.map (·.1))).1, .int .i64 (zgl (rs.map (·.R)) (ms.map (·.1))).2]) ∧ Below w.heap.size w w' := by
 have h0 := UnbInv.start h h'
 have hF : zgl (rs.map (·.R)) (ms.map (·.1)) = _ := zgl.eq_1 (rs.map (·.R)) (ms.map (·.1))
 have HF := hide hF
 clear h h' hF
 go_enter Tryz.func46, Tryz.ntmps46
 go_wp2_with fail
 refine (parity_any _ base ar rs.length cr am cm ms h0.men hf.m120 hf.mpd).mono ?_
 rintro e w1 ⟨he, hb1⟩
 have h1 := h0.next hb1
 obtain ⟨x0, xf0⟩ := zab h1.box 0
 obtain ⟨x1, xf1⟩ := zab h1.box 1
 have hsz1 := h1.sz
 clear h0 hb1
 by_cases c1 : 0 ≤ ze4 (ms.map (·.1)) []
 ·have HF1 := hide ((zaa HF).trans (if_pos c1))
  have he' : e = .returned (.tuple #[.int .i64 (ze4 (ms.map (·.1)) []), .bool true]) := by rw [he]; unfold ziy; rw [if_pos c1]; simp [c1]
  subst he'
  have HB := hide h1.below
  clear HF he c1 h1
  go_wp2_with fail
  go_ret2
  exact ⟨by rw [zaa HF1]; rfl, zaa HB⟩
 ·have HF1 := hide ((zaa HF).trans (if_neg c1))
  have he' : e = .returned (.tuple #[.int .i64 0, .bool false]) := by rw [he]; unfold ziy; rw [if_neg c1]; simp [c1]
  subst he'
  clear HF he c1
  go_wp2_with fail
  refine (unbound_any _ base ar cr rs am cm ms h1.rules h1.men hf.m120 hf.mts (fun r hr => by have := hf.b3 r hr; omega)).mono ?_
  rintro e w2 ⟨he, hb2⟩
  have h2 := h1.next hb2
  clear h1 hb2 x0 x1 xf0 xf1
  obtain ⟨x0, xf0⟩ := zab h2.box 0
  obtain ⟨x1, xf1⟩ := zab h2.box 1
  have hsz2 := h2.sz
  by_cases c2 : 0 ≤ zct (rs.map (·.R)) (ms.map (·.1))
  ·have HF2 := hide ((zaa HF1).trans (if_pos c2))
   have he' : e = .returned (.tuple #[.int .i64 (zct (rs.map (·.R)) (ms.map (·.1))), .bool true]) := by rw [he]; unfold ziy; rw [if_pos c2]; simp [c2]
   subst he'
   have HB := hide h2.below
   clear HF1 he c2 h2
   go_wp2_with fail
   go_ret2
   exact ⟨by rw [zaa HF2]; rfl, zaa HB⟩
  ·have HF2 := hide ((zaa HF1).trans (if_neg c2))
   have he' : e = .returned (.tuple #[.int .i64 0, .bool false]) := by rw [he]; unfold ziy; rw [if_neg c2]; simp [c2]
   subst he'
   clear HF1 he c2
   go_wp2_with fail
   refine (cycle_p_any _ base ar cr rs am cm ms h2.rules h2.men hf).mono ?_
   rintro e w3 ⟨he, hb3⟩
   have h3 := h2.next hb3
   have HB := hide h3.below
   clear h2 hb3 x0 x1 xf0 xf1 h3
   by_cases c3 : 0 ≤ zdq (rs.map (·.R)) (ms.map (·.1))
   ·have HF3 := hide ((zaa HF2).trans (if_pos c3))
    have he' : e = .returned (.tuple #[.int .i64 (zdq (rs.map (·.R)) (ms.map (·.1))), .bool true]) := by rw [he]; unfold ziy; rw [if_pos c3]; simp [c3]
    subst he'
    clear HF2 he c3
    go_wp2_with fail
    go_ret2
    exact ⟨by rw [zaa HF3]; rfl, zaa HB⟩
   ·have HF3 := hide ((zaa HF2).trans (if_neg c3))
    have he' : e = .returned (.tuple #[.int .i64 0, .bool false]) := by rw [he]; unfold ziy; rw [if_neg c3]; simp [c3]
    subst he'
    clear HF2 he c3
    go_wp2_with fail
    go_ret2
    exact ⟨by rw [zaa HF3]; rfl, zaa HB⟩
noncomputable def pload (s : ByteArray) : Bool × Int × Int :=
 if 800 < s.size then (false, 1, 0)
 else if (za6 s).1 = false then (false, 2, (zae s (za6 s).2.1).2.1)
 else if (zgl (za6 s).2.2.1 (za6 s).2.2.2).1 ≠ 0 then (false, (zgl (za6 s).2.2.1 (za6 s).2.2.2).1, (zgl (za6 s).2.2.1 (za6 s).2.2.2).2)
 else (true, 0, 0)
def ProgIn (w : World) (base b : Nat) (rs : List PR) : Prop := ∃ (a : Option Addr) (c : Nat), w.heap[b]? = some (.cells #[.slice a rs.length c] 106 (0, 0)) ∧ base ≤ b ∧ RRow w base (.slice a rs.length c) rs
def LoadPost (w : World) (P : Bool × Int × Int) (rules : List PRule) (e : Ending) (w' : World) : Prop :=
 Below w.heap.size w w' ∧ (P.1 = false → e = .returned (.tuple #[.pointer none, .int .i64 P.2.1, .int .i64 P.2.2])) ∧
 (P.1 = true → ∃ (b : Nat) (rs : List PR), e = .returned (.tuple #[.pointer (some ⟨b, 0, none⟩), .int .i64 P.2.1, .int .i64 P.2.2]) ∧ ProgIn w' w.heap.size b rs ∧ rs.map (·.R) = rules)
set_option maxRecDepth 100000 in
theorem pload_any (w : World) (s : ByteArray) (hs : s.size ≤ maxLen) :
  Calls Tryz.prog 30 #[.string s] w (LoadPost w (pload s) (za6 s).2.2.1) := by
 have hP : pload s = _ := pload.eq_1 s
 have HP := hide hP
 clear hP
 unfold maxLen at hs
 by_cases c0 : 800 < s.size
 ·have c0i : 800 < (s.size : Int) := by omega
  have HP1 := hide ((zaa HP).trans (if_pos c0))
  clear HP c0
  go_enter Tryz.func30, Tryz.ntmps30
  go_wp2_with fail
  go_ret3
  rw [zaa HP1]
  exact ⟨Below.refl _ _, fun _ => rfl, fun e => by cases e⟩
 ·have c0i : ¬ 800 < (s.size : Int) := by omega
  have HP1 := hide ((zaa HP).trans (if_neg c0))
  have hs8 : s.size ≤ 800 := by omega
  clear HP c0
  go_enter Tryz.func30, Tryz.ntmps30
  go_wp2_with fail
  refine (prules_any _ s (by omega)).mono ?_
  rintro e w1 ⟨hb1, hno, hyes⟩
  cases c1 : (za6 s).1 with
  | false =>
   have HP2 := hide ((zaa HP1).trans (if_pos c1))
   have he := hno c1
   subst he
   clear hno hyes HP1 c1
   go_wp2_with fail
   go_ret3
   rw [zaa HP2]
   exact ⟨hb1.alloc hb1.size _, fun _ => rfl, fun e => by cases e⟩
  | true =>
   have HP2 := hide ((zaa HP1).trans (if_neg (by rw [c1]; decide)))
   obtain ⟨a, n, c, a', n', c', rs, ms, rfl, hR, hrs, hM, hms, hr30, hm120⟩ := hyes c1
   obtain ⟨ar, cr, hv1⟩ := zac hR.row
   obtain ⟨am, cm, hv2⟩ := zac hM.row
   injection hv1 with h1 h2 h3
   injection hv2 with h4 h5 h6
   subst h1 h2 h3 h4 h5 h6
   obtain ⟨o1, o2⟩ := zlz s hs8 c1
   rw [← hrs] at o1 o2
   rw [← hms] at o2
   rw [← hrs, ← hms] at HP2
   have HRS := hide hrs
   have hf : Few rs ms := by
    refine ⟨hr30, by omega, fun r hr => ?_, fun r hr => (o1 _ (List.mem_map_of_mem hr)).1, fun R hR l hl => (o1 R hR).2.2 l hl, fun x hx => (o2 _ (List.mem_map_of_mem hx)).1, fun x hx => ?_⟩
    ·have h1 := (o1 _ (List.mem_map_of_mem hr)).2.1
     have h2 := (hR.each r hr).eq
     rw [← h2] at h1
     simpa using h1
    ·obtain ⟨_, h2, h3⟩ := o2 _ (List.mem_map_of_mem hx)
     exact ⟨by simpa using h3, h2⟩
   have kA := (Below.refl w1.heap.size w1).alloc (Nat.le_refl _) (.cells #[.slice a rs.length c, .slice a' ms.length c'] 100)
   have hR1 := hR.below kA
   have hM1 := hM.below kA
   have hbx : (w1.alloc (.cells #[.slice a rs.length c, .slice a' ms.length c'] 100)).heap[w1.heap.size]? = _ := heap_alloc_new w1 _
   have hw1 := hb1.size
   have hbA := hb1.trans (kA.mono hw1)
   clear hno hyes HP1 c1 hR hM hrs hms o1 o2 kA
   go_wp2_with fail
   refine (fault_any _ w.heap.size a c rs a' c' ms hR1 hM1 hf).mono ?_
   rintro e w2 ⟨rfl, hb2⟩
   have hz2 := hb2.size
   rw [World.size_alloc] at hz2
   have hR2 := hR1.below hb2
   have hbx2 := (hb2.block w1.heap.size (by simp)).trans hbx
   have hB2 := hbA.trans (hb2.mono (by simp; omega))
   obtain ⟨x0, xf0⟩ := zab hbx2 0
   clear hR1 hM1 hbx hbx2 hb2 hbA
   by_cases c2 : (zgl (rs.map (·.R)) (ms.map (·.1))).1 ≠ 0
   ·have c2i : ((zgl (rs.map (·.R)) (ms.map (·.1))).1 != 0) = true := by simpa using c2
    have HP3 := hide ((zaa HP2).trans (if_pos c2))
    clear HP2 c2
    go_wp2_with fail
    go_ret3
    rw [zaa HP3]
    exact ⟨hB2, fun _ => rfl, fun e => by cases e⟩
   ·have c2i : ((zgl (rs.map (·.R)) (ms.map (·.1))).1 != 0) = false := by simpa using c2
    have HP3 := hide ((zaa HP2).trans (if_neg c2))
    clear HP2 c2
    go_wp2_with fail
    go_ret3
    rw [zaa HP3]
    have kB := (Below.refl w2.heap.size w2).alloc (Nat.le_refl _) (.cells #[.slice a rs.length c] 106)
    exact ⟨hB2.trans (kB.mono (by omega)), fun e => (by cases e), fun _ => ⟨w2.heap.size, rs, rfl, ⟨a, c, heap_alloc_new w2 _, by omega, hR2.below kB⟩, zaa HRS⟩⟩
end
section
open Go.RowKit Go.Maps
def stV (ps : List (ByteArray × Nat)) (S : ByteArray → Nat) : ByteArray → Option Value := fun k => (zbk ps k).map fun n => Value.agg #[.string k, .int .i64 (S k), .int .i64 n]
theorem ziv {ps : List (ByteArray × Nat)} {nm : ByteArray} {n : Nat} (h : zdf ps nm n = true) (k : ByteArray) : zbk (zdj ps nm n) k = if k = nm then some n else zbk ps k := by
 rw [zdo] at h
 rw [zov]
 by_cases e : k = nm
 ·subst e
  rw [if_pos rfl]
  cases hn : zbk ps k with
  | none => rw [if_pos (by rfl), zjq, hn]; simp
  | some m =>
   rw [hn] at h
   simp at h
   rw [if_neg (by simp), hn, h]
 ·rw [if_neg e]
  cases hn : zbk ps nm with
  | none =>
   rw [if_pos (by rfl), zjq]
   have : ¬ (nm.toList == k.toList) = true := fun h => e ((zce.1 h).symm)
   cases zbk ps k with
   | none => simp only [if_neg this]
   | some m => rfl
  | some m => rw [if_neg (by simp)]
theorem stV_add (ps : List (ByteArray × Nat)) (nm : ByteArray) (n : Nat) (h : zdf ps nm n = true) : updV (stV ps (fun _ => 0)) nm (.agg #[.string nm, .int .i64 0, .int .i64 n]) = stV (zdj ps nm n) (fun _ => 0) := by
 funext k
 unfold stV
 rw [ziv h]
 by_cases e : k = nm
 ·subst e; rw [zd5, if_pos rfl]; rfl
 ·rw [zc8 e, if_neg e]
structure Tab (w : World) (b n : Nat) (V : ByteArray → Option Value) (wr : World) : Prop where
 map : SMap Tryz.prog 9 wr b n V
 kept : Kept [b] w wr
theorem Tab.alloc {w : World} {b n : Nat} {V : ByteArray → Option Value} {wr : World} (h : Tab w b n V wr) (o : Obj) : Tab w b n V (wr.alloc o) := ⟨h.map.alloc o, h.kept.alloc o⟩
theorem Tab.put {w : World} {b n m : Nat} {V V' : ByteArray → Option Value} {wr w1 : World} (h : Tab w b n V wr) (hm : SMap Tryz.prog 9 w1 b m V') (hg : wr.grownBy w1 (some b)) : Tab w b m V' w1 :=
 ⟨hm, h.kept.trans ⟨hg.os, hg.tape, hg.output, hg.size, fun k hk hn => hg.block k hk (by simp at hn ⊢; exact hn)⟩⟩
set_option maxRecDepth 100000 in
theorem add_any (w : World) (b n : Nat) (ps : List (ByteArray × Nat)) (pd : ByteArray) (a : Option Addr) (nt c : Nat) (h : SMap Tryz.prog 9 w b n (stV ps (fun _ => 0))) (hn : n ≤ 100000) (hp : pd.size ≤ 800) (hb : zdf ps pd nt = true) :
  Calls Tryz.prog 97 #[.map (some b), .agg #[.string pd, .slice a nt c]] w fun e w' => e = .returned (.tuple #[]) ∧ SMap Tryz.prog 9 w' b (n + 1) (stV (zdj ps pd nt) (fun _ => 0)) ∧ Kept [b] w w' := by
 have h0 : Tab w b n (stV ps (fun _ => 0)) (w.alloc (.cells #[.string pd, .slice a nt c] 79)) := Tab.alloc ⟨h, Kept.refl _ _⟩ _
 have hmap := h0.map
 have hkl : pd.size ≤ maxLen := by unfold maxLen; omega
 have HT := hide h0
 have HP := hide (stV_add ps pd nt hb)
 clear h h0 hb
 go_enter Tryz.func97, Tryz.ntmps97
 go_wp2_with (at_mapUpdate; refine zlm _ rfl _ _ _ 73 rfl 9 185 Tryz.underlying9 Tryz.underlying73 b n (stV ps (fun _ => 0)) rfl hmap (by unfold maxLen; omega) pd (.agg #[.string pd, .int .i64 0, .int .i64 nt]) (by rfl) (by rfl) hkl ?_)
 intro w2 hm2 hg2
 have hT2 := (zaa HT).put hm2 hg2
 rw [zaa HP] at hT2
 have HT2 := hide hT2
 clear HT hm2 hg2 hmap hT2
 go_wp2_with fail
 go_end0
 exact ⟨rfl, (zaa HT2).map, (zaa HT2).kept⟩
def zcs (R : PRule) : List (ByteArray × Nat) := (R.pd, R.ts.length) :: R.body.map fun l => (l.pd, l.ts.length)
def zdn : List (ByteArray × Nat) → List (ByteArray × Nat) → List (ByteArray × Nat)
 | [], ps => ps
 | x :: r, ps => zdn r (zdj ps x.1 x.2)
def zee : List (ByteArray × Nat) → List (ByteArray × Nat) → Prop
 | [], _ => True
 | x :: r, ps => zdf ps x.1 x.2 = true ∧ zee r (zdj ps x.1 x.2)
theorem zfa (m : List (ByteArray × Nat)) : ∀ (l ps : List (ByteArray × Nat)), zdn (l ++ m) ps = zdn m (zdn l ps)
 | [], _ => rfl
 | _ :: r, _ => zfa m r _
theorem zgf (m : List (ByteArray × Nat)) : ∀ (l ps : List (ByteArray × Nat)), zee (l ++ m) ps ↔ zee l ps ∧ zee m (zdn l ps)
 | [], ps => by simp [zee, zdn]
 | x :: r, ps => by rw [List.cons_append, zee, zee, zgf m r, zdn, and_assoc]
def zew (ls : List (PLit × Value)) : List (ByteArray × Nat) := ls.map fun x => (x.1.pd, x.1.ts.length)
theorem patoms_eq {r : PR} {w : World} {base : Nat} (h : PRIn w base r) : zcs r.R = (r.R.pd, r.R.ts.length) :: zew r.bs := by
 unfold zcs zew
 rw [← h.eq, List.map_map]
 rfl
set_option maxRecDepth 100000 in
theorem ground_any (w : World) (base : Nat) (ar : Option Addr) (cr : Nat) (rs : List PR) (h : RRow w base (.slice ar rs.length cr) rs) (hrl : rs.length ≤ 30) (hb3 : ∀ r ∈ rs, r.bs.length ≤ 3) (hpd : ∀ r ∈ rs, r.R.pd.size ≤ 800) (hlp : ∀ r ∈ rs, ∀ x ∈ r.bs, x.1.pd.size ≤ 800) (hag : zee ((rs.map (·.R)).flatMap zcs) []) :
  Calls Tryz.prog 55 #[.slice ar rs.length cr] w fun e w' => e = .returned (.map (some w.heap.size)) ∧ w.heap.size < w'.heap.size ∧ Below w.heap.size w w' ∧ SMap Tryz.prog 9 w' w.heap.size (4 * rs.length) (stV (zdn ((rs.map (·.R)).flatMap zcs) []) (fun _ => 0)) := by
 have hmm := @run_makeMap Tryz.prog
 have h0 : SMap Tryz.prog 9 (w.alloc (.map #[] 0)) w.heap.size 0 (stV [] (fun _ => 0)) := SMap.made _ _ w
 have b0 : Below w.heap.size w (w.alloc (.map #[] 0)) := (Below.refl _ _).alloc (Nat.le_refl _) _
 have HR := hide h
 have HAG := hide hag
 clear h hag
 go_enter Tryz.func55, Tryz.ntmps55
 go_wp2_with fail
 go_loopg [11] rs.length (fun gg i wr => ∃ k : Nat, k ≤ rs.length ∧ gg = rs.length - k ∧ i = .int .i64 k ∧ Below w.heap.size w wr ∧ w.heap.size < wr.heap.size ∧ SMap Tryz.prog 9 wr w.heap.size (4 * k) (stV (zdn (((rs.map (·.R)).take k).flatMap zcs) []) (fun _ => 0)))
 case atStart => exact ⟨0, Nat.zero_le _, rfl, rfl, b0, by simp, h0⟩
 case round =>
  clear h0 b0
  obtain ⟨k, hk, hgk, rfl, hB, hsz, hm⟩ := hrel
  by_cases hlk : k < rs.length
  ·have hRw := (zaa HR).below hB
   obtain ⟨gr, capr, hvr, hbgr, hglr, hncr, hcmr, hcr⟩ := zc7 zo0 hRw.row k hlk
   injection hvr with h4 h5 h6
   subst h4 h6
   have hin := (zaa HR).each _ (List.getElem_mem hlk)
   obtain ⟨ah, ch, hbh⟩ := zac hin.hd
   obtain ⟨ab, cb, hbb⟩ := zac hin.bo.row
   have r0 := hcr 0 (by omega)
   have r1 := hcr 1 (by omega)
   have r2 := hcr 2 (by omega)
   simp only [PR.cells, hbh, hbb, Nat.add_zero, List.getElem?_cons_zero, List.getElem?_cons_succ] at r0 r1 r2
   have hbo := hin.bo
   rw [hbb] at hbo
   have HBO := hide hbo
   have hp8 := hpd _ (List.getElem_mem hlk)
   have hbl := hb3 _ (List.getElem_mem hlk)
   have hlp8 := hlp _ (List.getElem_mem hlk)
   have hsplit : ((rs.map (·.R)).take (k + 1)).flatMap zcs = ((rs.map (·.R)).take k).flatMap zcs ++ ((rs[k].R.pd, rs[k].R.ts.length) :: zew rs[k].bs) := by
    rw [ziw hlk, List.flatMap_append]; simp [patoms_eq hin]
   have hag2 : zee (((rs.map (·.R)).take k).flatMap zcs ++ ((rs[k].R.pd, rs[k].R.ts.length) :: zew rs[k].bs)) [] := by
    have := zaa HAG
    rw [← List.take_append_drop (k + 1) (rs.map (·.R)), List.flatMap_append, zgf, hsplit] at this
    exact this.1
   rw [zgf, zee] at hag2
   obtain ⟨_, hag3, hag4⟩ := hag2
   have HSP := hide (congrArg (fun l => zdn l []) hsplit)
   generalize hps : zdn (((rs.map (·.R)).take k).flatMap zcs) [] = ps at *
   have HSP2 := hide (show zdn (((rs.map (·.R)).take (k + 1)).flatMap zcs) [] = zdn (zew rs[k].bs) (zdj ps rs[k].R.pd rs[k].R.ts.length) by rw [show zdn (((rs.map (·.R)).take (k + 1)).flatMap zcs) [] = _ from zaa HSP, zfa, hps]; rfl)
   have bA := (Below.refl wr.heap.size wr).alloc (Nat.le_refl _) (.cells #[.string rs[k].R.pd, .slice ah rs[k].R.ts.length ch, .slice ab rs[k].bs.length cb] 123)
   have hrb : (wr.alloc (.cells #[.string rs[k].R.pd, .slice ah rs[k].R.ts.length ch, .slice ab rs[k].bs.length cb] 123)).heap[wr.heap.size]? = _ := heap_alloc_new wr _
   have hB1 := hB.trans (bA.mono (by omega))
   have hm1 := hm.alloc (.cells #[.string rs[k].R.pd, .slice ah rs[k].R.ts.length ch, .slice ab rs[k].bs.length cb] 123)
   have HAG4 := hide hag4
   clear hcr hin hbh hbb hbo hRw hsplit HSP hB hm bA hag4 hps
   go_wp2_with fail
   refine (add_any _ w.heap.size (4 * k) ps rs[k].R.pd ah rs[k].R.ts.length ch hm1 (by omega) hp8 hag3).mono ?_
   rintro e w2 ⟨rfl, hm2, hk2⟩
   have hrb2 := za1 hrb hk2 (by simp; omega)
   have hz2 := hk2.size
   rw [World.size_alloc] at hz2
   have hB2 := zar hB1 hk2 (by simp; omega) (by simp)
   obtain ⟨x2, xf2⟩ := zab hrb2 2
   clear hrb hk2 hB1 hm1 r0 r1 r2 hag3
   generalize zdj ps rs[k].R.pd rs[k].R.ts.length = ps1 at *
   generalize hn1 : wr.heap.size = n1 at *
   go_wp2_with fail
   go_loopg [22] rs[k].bs.length (fun gg2 j wj => ∃ (jj : Nat), jj ≤ rs[k].bs.length ∧ gg2 = rs[k].bs.length - jj ∧ j = .int .i64 jj ∧ Below w.heap.size w wj ∧ n1 < wj.heap.size ∧ SMap Tryz.prog 9 wj w.heap.size (4 * k + 1 + jj) (stV (zdn ((zew rs[k].bs).take jj) ps1) (fun _ => 0)) ∧ zee ((zew rs[k].bs).drop jj) (zdn ((zew rs[k].bs).take jj) ps1))
   case atStart => exact ⟨0, Nat.zero_le _, rfl, rfl, hB2, by omega, hm2, by simpa [zdn] using zaa HAG4⟩
   case round =>
    clear hB2 hm2 hrb2 x2 xf2 HAG4
    obtain ⟨j, hj, hgj, rfl, hB, hsz2, hm, hag⟩ := hrel
    by_cases hjl : j < rs[k].bs.length
    ·have hbw := (zaa HBO).below hB
     obtain ⟨g, cap, hv, hbg, hgl, hnc, hcm, hc⟩ := zc7 pl_len hbw.row j hjl
     injection hv with h1 h2 h3
     subst h1 h3
     obtain ⟨at1, ct1, hbt⟩ := zac (hbw.each _ (List.getElem_mem hjl))
     have q0 := hc 0 (by omega)
     have q1 := hc 1 (by omega)
     have q2 := hc 2 (by omega)
     simp only [PLit.cells, hbt, Nat.add_zero, List.getElem?_cons_zero, List.getElem?_cons_succ] at q0 q1 q2
     have hdr : (zew rs[k].bs).drop j = (rs[k].bs[j].1.pd, rs[k].bs[j].1.ts.length) :: (zew rs[k].bs).drop (j + 1) := by
      rw [List.drop_eq_getElem_cons (by simpa [zew] using hjl)]; simp [zew]
     have htk : (zew rs[k].bs).take (j + 1) = (zew rs[k].bs).take j ++ [(rs[k].bs[j].1.pd, rs[k].bs[j].1.ts.length)] := by
      rw [List.take_succ_eq_append_getElem (by simpa [zew] using hjl)]; simp [zew]
     rw [hdr, zee] at hag
     obtain ⟨hagb, hagr⟩ := hag
     have hq8 := hlp8 _ (List.getElem_mem hjl)
     have HAGR := hide (show zee ((zew rs[k].bs).drop (j + 1)) (zdn ((zew rs[k].bs).take (j + 1)) ps1) by rw [htk, zfa]; exact hagr)
     have HTK := hide (show zdj (zdn ((zew rs[k].bs).take j) ps1) rs[k].bs[j].1.pd rs[k].bs[j].1.ts.length = zdn ((zew rs[k].bs).take (j + 1)) ps1 by rw [htk, zfa]; rfl)
     have bA := (Below.refl wr.heap.size wr).alloc (Nat.le_refl _) (.cells #[.bool rs[k].bs[j].1.neg, .string rs[k].bs[j].1.pd, .slice at1 rs[k].bs[j].1.ts.length ct1] 183)
     have hB1 := hB.trans (bA.mono (by omega))
     have hm1 := hm.alloc (.cells #[.bool rs[k].bs[j].1.neg, .string rs[k].bs[j].1.pd, .slice at1 rs[k].bs[j].1.ts.length ct1] 183)
     clear hc hbt hbw hdr htk hagr hB hm bA
     go_wp2_with fail
     refine (add_any _ w.heap.size (4 * k + 1 + j) (zdn ((zew rs[k].bs).take j) ps1) rs[k].bs[j].1.pd at1 rs[k].bs[j].1.ts.length ct1 hm1 (by omega) hq8 hagb).mono ?_
     rintro e w3 ⟨rfl, hm3, hk3⟩
     have hz3 := hk3.size
     rw [World.size_alloc] at hz3
     have hB3 := zar hB1 hk3 (by simp; omega) (by simp)
     rw [zaa HTK] at hm3
     have HM3 := hide hm3
     clear hk3 hB1 hm1 q0 q1 q2 hagb hm3
     go_wp2_with fail
     go_roundg (rs[k].bs.length - (j + 1))
     case measure => omega
     case rel => exact ⟨j + 1, by omega, rfl, by go_num, hB3, by omega, zaa HM3, zaa HAGR⟩
    ·have htk : (zew rs[k].bs).take j = zew rs[k].bs := List.take_of_length_le (by simp [zew]; omega)
     rw [htk] at hm
     have HM := hide (hm.mono (m := 4 * (k + 1)) (by omega))
     clear hm htk hag
     go_wp2_with fail
     go_roundg (rs.length - (k + 1))
     case measure => omega
     case rel => exact ⟨k + 1, by omega, rfl, by go_num, hB, by omega, by rw [zaa HSP2]; exact zaa HM⟩
  ·have e : (rs.map (·.R)).take k = rs.map (·.R) := List.take_of_length_le (by simp; omega)
   have ek : k = rs.length := by omega
   rw [e, ek] at hm
   have HM := hide hm
   clear hm e
   go_wp2_with fail
   go_ret
   exact ⟨rfl, hsz, hB, zaa HM⟩
end
section
open Go.RowKit Go.Maps
def upTo (S : ByteArray → Nat) : List PLit → Nat → Nat
 | [], m => m
 | l :: r, m => upTo S r (max m (S l.pd + if l.neg then 1 else 0))
open Classical in
noncomputable def setN (S : ByteArray → Nat) (k : ByteArray) (v : Nat) : ByteArray → Nat := fun x => if x = k then v else S x
theorem zgp (S : ByteArray → Nat) (k : ByteArray) (v : Nat) : setN S k v k = v := by simp [setN]
theorem zg5 {S : ByteArray → Nat} {k x : ByteArray} {v : Nat} (h : x ≠ k) : setN S k v x = S x := by simp [setN, h]
noncomputable def zhi (S : ByteArray → Nat) (R : PRule) : ByteArray → Nat := setN S R.pd (upTo S R.body (S R.pd))
theorem upTo_step {S : ByteArray → Nat} {ls : List (PLit × Value)} {k m : Nat} (h : k < ls.length) : upTo S ((ls.map (·.1)).drop k) m = upTo S ((ls.map (·.1)).drop (k + 1)) (max m (S ls[k].1.pd + if ls[k].1.neg then 1 else 0)) := by
 rw [List.drop_eq_getElem_cons (by simpa using h), upTo]; simp
theorem stV_set (ps : List (ByteArray × Nat)) (S : ByteArray → Nat) (nm : ByteArray) (n v : Nat) (h : zbk ps nm = some n) : updV (stV ps S) nm (.agg #[.string nm, .int .i64 v, .int .i64 n]) = stV ps (setN S nm v) := by
 funext k
 unfold stV
 by_cases e : k = nm
 ·subst e; rw [zd5, h, zgp]; rfl
 ·rw [zc8 e, zg5 e]
theorem stV_at {ps : List (ByteArray × Nat)} {nm : ByteArray} {n : Nat} (S : ByteArray → Nat) (h : zbk ps nm = some n) : (stV ps S nm).getD (.agg #[.string { data := #[] }, .int .i64 0, .int .i64 0]) = .agg #[.string nm, .int .i64 (S nm), .int .i64 n] := by
 unfold stV; rw [h]; rfl
theorem zn1 (S : ByteArray → Nat) : ∀ (l : List PLit) (m : Nat), m ≤ upTo S l m
 | [], _ => Nat.le_refl _
 | _ :: r, _ => Nat.le_trans (Nat.le_max_left _ _) (zn1 S r _)
theorem upTo_le {S : ByteArray → Nat} {c : Nat} : ∀ (l : List PLit) (m : Nat), m ≤ c → (∀ x ∈ l, (S x.pd + if x.neg then 1 else 0) ≤ c) → upTo S l m ≤ c
 | [], _, h, _ => h
 | x :: r, _, h, hl => upTo_le r _ (Nat.max_le.2 ⟨h, hl x List.mem_cons_self⟩) (fun y hy => hl y (List.mem_cons_of_mem _ hy))
theorem upTo_all {S : ByteArray → Nat} : ∀ (l : List PLit) (m : Nat), ∀ x ∈ l, (S x.pd + if x.neg then 1 else 0) ≤ upTo S l m
 | [], _, _, hx => by cases hx
 | _ :: r, _, x, hx => by
  rcases List.mem_cons.1 hx with rfl | hx
  ·exact Nat.le_trans (Nat.le_max_right _ _) (zn1 S r _)
  ·exact upTo_all r _ x hx
theorem fieldStr (x y z : Value) (w : World) : Sem.run Tryz.prog (Instr.field 185 (.agg #[x, y, z]) 1) w = .ok y w := by kernel_rfl
structure RaiseIn (w : World) (b n : Nat) (V : ByteArray → Option Value) (pd : ByteArray) (nt m : Nat) (wr : World) : Prop where
 map : SMap Tryz.prog 9 wr b n V
 below : Below w.heap.size w wr
 size : w.heap.size + 1 < wr.heap.size
 cel : wr.heap[w.heap.size + 1]? = some (.cells #[.string pd, .int .i64 m, .int .i64 nt] 185 (0, 0))
theorem RaiseIn.next {w : World} {b n : Nat} {V : ByteArray → Option Value} {pd : ByteArray} {nt m : Nat} {wr : World} (h : RaiseIn w b n V pd nt m wr) (hb : b < w.heap.size) (x : Int) (m' : Nat) (hx : x = m') (o : Obj) :
  RaiseIn w b n V pd nt m' ((wr.setCell ⟨w.heap.size + 1, 1, none⟩ (.int .i64 x)).alloc o) := by
 subst hx
 refine ⟨(h.map.block (Below.heap_setCell _ _ _ _ (by simp; omega))).alloc o, (h.below.setCell (by simp) _).alloc ?_ o, ?_, ?_⟩
 ·have := h.size; simp [World.setCell]; omega
 ·have := h.size; rw [World.size_alloc]; simp [World.setCell]; omega
 ·have := h.size
  rw [Below.heap_alloc _ _ _ (by simp [World.setCell]; omega), heap_setCell_same _ _ _ _ _ _ h.cel]
  rfl
set_option maxRecDepth 100000 in
theorem raise_any (w : World) (b n base : Nat) (ps : List (ByteArray × Nat)) (S : ByteArray → Nat) (pd : ByteArray) (ah : Option Addr) (nh ch : Nat) (ab : Option Addr) (cb : Nat) (ls : List (PLit × Value)) (h : SMap Tryz.prog 9 w b n (stV ps S)) (hL : LRow w base (.slice ab ls.length cb) ls) (hn : n ≤ 1000000000) (hp : pd.size ≤ 800) (nt : Nat) (hnp : zbk ps pd = some nt) (hlp : ∀ x ∈ ls, x.1.pd.size ≤ 800 ∧ ∃ m, zbk ps x.1.pd = some m) (hS : ∀ k, S k ≤ 100000) (hlb : ls.length ≤ 1000) :
  Calls Tryz.prog 56 #[.map (some b), .agg #[.string pd, .slice ah nh ch, .slice ab ls.length cb]] w fun e w' => e = .returned (.bool (decide (S pd < upTo S (ls.map (·.1)) (S pd)))) ∧ SMap Tryz.prog 9 w' b (n + 1) (stV ps (setN S pd (upTo S (ls.map (·.1)) (S pd)))) ∧ Kept [b] w w' := by
 have hblt := h.lt
 have bA := (Below.refl w.heap.size w).alloc (Nat.le_refl _) (.cells #[.string pd, .slice ah nh ch, .slice ab ls.length cb] 123)
 have hmap := h.alloc (.cells #[.string pd, .slice ah nh ch, .slice ab ls.length cb] 123)
 have hkl : pd.size ≤ maxLen := by unfold maxLen; omega
 have hu := stV_at S hnp
 have hmap2 := hmap.alloc (.cells #[.string pd, .int .i64 (S pd), .int .i64 nt] 185)
 have bB := bA.alloc (by simp) (.cells #[.string pd, .int .i64 (S pd), .int .i64 nt] 185)
 have hcel : ((w.alloc (.cells #[.string pd, .slice ah nh ch, .slice ab ls.length cb] 123)).alloc (.cells #[.string pd, .int .i64 (S pd), .int .i64 nt] 185)).heap[w.heap.size + 1]? = some (.cells #[.string pd, .int .i64 (S pd), .int .i64 nt] 185 (0, 0)) := by
  have := heap_alloc_new (w.alloc (.cells #[.string pd, .slice ah nh ch, .slice ab ls.length cb] 123)) (.cells #[.string pd, .int .i64 (S pd), .int .i64 nt] 185)
  rw [World.size_alloc] at this
  exact this
 have hSp := hS pd
 have HL := hide hL
 clear h hL
 have hfs := fieldStr
 go_enter Tryz.func56, Tryz.ntmps56
 go_wp2_with (at_lookup; refine zhn _ rfl _ _ 73 rfl 9 185 Tryz.underlying9 Tryz.underlying73 (Tryz.zeroValue185 _) b n (stV ps S) rfl hmap pd rfl hkl _ hu ?_)
 clear hmap bA
 go_loopg [20] ls.length (fun gg i wr => ∃ (k m : Nat), k ≤ ls.length ∧ gg = ls.length - k ∧ i = .int .i64 k ∧ RaiseIn w b n (stV ps S) pd nt m wr ∧ S pd ≤ m ∧ m ≤ 100001 ∧ upTo S ((ls.map (·.1)).drop k) m = upTo S (ls.map (·.1)) (S pd))
 case atStart => exact ⟨0, S pd, Nat.zero_le _, rfl, rfl, ⟨hmap2, bB, by simp, hcel⟩, Nat.le_refl _, by omega, rfl⟩
 case round =>
  clear hmap2 bB hcel
  obtain ⟨k, m, hk, hgk, rfl, hR, hSm, hm2, hup⟩ := hrel
  have hm := hR.map
  have hB := hR.below
  have hsz := hR.size
  have hcel := hR.cel
  have HR := hide hR
  clear hR
  obtain ⟨x0, xf0⟩ := zab hcel 0
  obtain ⟨x1, xf1⟩ := zab hcel 1
  obtain ⟨x2, xf2⟩ := zab hcel 2
  by_cases hlk : k < ls.length
  ·have hst := upTo_step (S := S) (m := m) hlk
   have HU := hide (hst.symm.trans hup)
   clear hst hup
   have hLw := (zaa HL).below hB
   obtain ⟨g, cap, hv, hbg, hgl, hnc, hcm, hc⟩ := zc7 pl_len hLw.row k hlk
   injection hv with h1 h2 h3
   subst h1 h3
   obtain ⟨at1, ct1, hbt⟩ := zac (hLw.each _ (List.getElem_mem hlk))
   have q0 := hc 0 (by omega)
   have q1 := hc 1 (by omega)
   have q2 := hc 2 (by omega)
   simp only [PLit.cells, hbt, Nat.add_zero, List.getElem?_cons_zero, List.getElem?_cons_succ] at q0 q1 q2
   obtain ⟨hq8, mq, hmq⟩ := hlp _ (List.getElem_mem hlk)
   have hql : ls[k].1.pd.size ≤ maxLen := by unfold maxLen; omega
   have huq := stV_at S hmq
   have hSq := hS ls[k].1.pd
   have hmA := hm.alloc (.cells #[.bool ls[k].1.neg, .string ls[k].1.pd, .slice at1 ls[k].1.ts.length ct1] 183)
   clear hc hbt hLw hm hB hcel
   cases hneg : ls[k].1.neg with
   | true =>
    rw [hneg] at q0 hmA HU
    go_wp2_with (at_lookup; refine zhn _ rfl _ _ 73 rfl 9 185 Tryz.underlying9 Tryz.underlying73 (Tryz.zeroValue185 _) b n (stV ps S) rfl hmA ls[k].1.pd rfl hql _ huq ?_)
    have hN := (zaa HR).next hblt (max (m : Int) ((S ls[k].1.pd : Int) + 1)) (max m (S ls[k].1.pd + 1)) (by omega) (.cells #[.bool true, .string ls[k].1.pd, .slice at1 ls[k].1.ts.length ct1] 183)
    go_roundg (ls.length - (k + 1))
    case measure => omega
    case rel => exact ⟨k + 1, max m (S ls[k].1.pd + 1), by omega, rfl, by go_num, hN, by omega, by omega, by simpa using zaa HU⟩
   | false =>
    rw [hneg] at q0 hmA HU
    go_wp2_with (at_lookup; refine zhn _ rfl _ _ 73 rfl 9 185 Tryz.underlying9 Tryz.underlying73 (Tryz.zeroValue185 _) b n (stV ps S) rfl hmA ls[k].1.pd rfl hql _ huq ?_)
    have hN := (zaa HR).next hblt (max (m : Int) (S ls[k].1.pd : Int)) (max m (S ls[k].1.pd)) (by omega) (.cells #[.bool false, .string ls[k].1.pd, .slice at1 ls[k].1.ts.length ct1] 183)
    go_roundg (ls.length - (k + 1))
    case measure => omega
    case rel => exact ⟨k + 1, max m (S ls[k].1.pd), by omega, rfl, by go_num, hN, by omega, by omega, by simpa using zaa HU⟩
  ·have hd : (ls.map (·.1)).drop k = [] := List.drop_eq_nil_of_le (by simp; omega)
   rw [hd, upTo] at hup
   have HUP := hide hup
   have HST := hide (stV_set ps S pd nt m hnp)
   clear hd hup hu hcel
   go_wp2_with (at_mapUpdate; refine zlm _ rfl _ _ _ 73 rfl 9 185 Tryz.underlying9 Tryz.underlying73 b n (stV ps S) rfl hm (by unfold maxLen; omega) pd (.agg #[.string pd, .int .i64 m, .int .i64 nt]) (by rfl) (by rfl) hkl ?_)
   intro w2 hm2 hg2
   have hT2 := Tab.put ⟨hm, (Kept.refl _ _).of_below hB⟩ hm2 hg2
   rw [zaa HST, zaa HUP] at hT2
   have HT2 := hide hT2
   have hcel2 : w2.heap[w.heap.size + 1]? = some (.cells #[.string pd, .int .i64 m, .int .i64 nt] 185 (0, 0)) := by
    rw [hg2.block _ hsz (by simp; omega)]; exact (zaa HR).cel
   obtain ⟨y1, yf1⟩ := zab hcel2 1
   clear hm2 hg2 hT2 hm hB hcel2 x0 x1 x2 xf0 xf1 xf2
   go_wp2_with fail
   go_ret
   exact ⟨by rw [zaa HUP]; rfl, (zaa HT2).map, (zaa HT2).kept⟩
end
section
open Go.RowKit Go.Maps
def KeepsN (f : ByteArray → Nat) (R : PRule) : Prop := ∀ l ∈ R.body, (f l.pd + if l.neg then 1 else 0) ≤ f R.pd
def zgh (rs : List PRule) (f : ByteArray → Nat) : Prop := ∀ R ∈ rs, KeepsN f R
def LowN (rs : List PRule) (S : ByteArray → Nat) : Prop := ∀ f, zgh rs f → ∀ k, S k ≤ f k
theorem zpr (S : ByteArray → Nat) (R : PRule) (k : ByteArray) : S k ≤ zhi S R k := by
 unfold zhi
 by_cases e : k = R.pd
 ·subst e; rw [zgp]; exact zn1 _ _ _
 ·rw [zg5 e]; exact Nat.le_refl _
theorem low_raise {rs : List PRule} {S : ByteArray → Nat} (h : LowN rs S) {R : PRule} (hR : R ∈ rs) : LowN rs (zhi S R) := by
 intro f hf k
 unfold zhi
 by_cases e : k = R.pd
 ·subst e
  rw [zgp]
  refine upTo_le _ _ (h f hf _) fun x hx => ?_
  have h1 := h f hf x.pd
  have h2 := hf R hR x hx
  omega
 ·rw [zg5 e]; exact h f hf k
theorem zqw {S : ByteArray → Nat} {R : PRule} (h : ¬ S R.pd < upTo S R.body (S R.pd)) : KeepsN S R ∧ zhi S R = S := by
 have h2 : upTo S R.body (S R.pd) = S R.pd := Nat.le_antisymm (Nat.not_lt.1 h) (zn1 _ _ _)
 refine ⟨fun l hl => ?_, ?_⟩
 ·have := upTo_all R.body (S R.pd) (S := S) l hl
  rwa [h2] at this
 ·funext k
  unfold zhi
  by_cases e : k = R.pd
  ·subst e; rw [zgp, h2]
  ·rw [zg5 e]
def sumN (S : ByteArray → Nat) : List (ByteArray × Nat) → Nat
 | [] => 0
 | p :: r => S p.1 + sumN S r
theorem zni {S T : ByteArray → Nat} (h : ∀ k, S k ≤ T k) : ∀ ps, sumN S ps ≤ sumN T ps
 | [] => Nat.le_refl _
 | p :: r => Nat.add_le_add (h p.1) (zni h r)
theorem sumN_lt {S T : ByteArray → Nat} (h : ∀ k, S k ≤ T k) {p : ByteArray × Nat} (hp : S p.1 < T p.1) : ∀ ps, p ∈ ps → sumN S ps < sumN T ps
 | [], hm => by cases hm
 | q :: r, hm => by
  rcases List.mem_cons.1 hm with rfl | hm
  ·exact Nat.add_lt_add_of_lt_of_le hp (zni h r)
  ·exact Nat.add_lt_add_of_le_of_lt (h q.1) (sumN_lt h hp r hm)
theorem zl8 {S : ByteArray → Nat} {c : Nat} (h : ∀ k, S k ≤ c) : ∀ ps, sumN S ps ≤ c * ps.length
 | [] => Nat.zero_le _
 | p :: r => by
  have := zl8 h r
  have h1 := h p.1
  simp only [sumN, List.length_cons, Nat.mul_add, Nat.mul_one]
  omega
theorem zp1 {nm : ByteArray} {n : Nat} : ∀ {ps : List (ByteArray × Nat)}, zbk ps nm = some n → ∃ p ∈ ps, p.1 = nm
 | [], h => by simp [zbk] at h
 | p :: r, h => by
  rw [zbk] at h
  split at h
  ·rename_i e; exact ⟨p, List.mem_cons_self, zce.1 e⟩
  ·obtain ⟨q, hq, e⟩ := zp1 h; exact ⟨q, List.mem_cons_of_mem _ hq, e⟩
structure OneIn (rs : List PRule) (ps : List (ByteArray × Nat)) (S0 : ByteArray → Nat) (k : Nat) (b : Bool) (S : ByteArray → Nat) : Prop where
 low : LowN rs S
 ge : sumN S0 ps ≤ sumN S ps
 up : b = true → sumN S0 ps < sumN S ps
 keeps : b = false → ∀ R ∈ rs.take k, KeepsN S R
theorem OneIn.next {rs : List PRule} {ps : List (ByteArray × Nat)} {S0 : ByteArray → Nat} {k : Nat} {b : Bool} {S : ByteArray → Nat} (h : OneIn rs ps S0 k b S) (hk : k < rs.length) {n : Nat} (hn : zbk ps rs[k].pd = some n) : OneIn rs ps S0 (k + 1) (if decide (S rs[k].pd < upTo S rs[k].body (S rs[k].pd)) then true else b) (zhi S rs[k]) := by
 have hge := zni (zpr S rs[k]) ps
 by_cases hu : S rs[k].pd < upTo S rs[k].body (S rs[k].pd)
 ·obtain ⟨p, hp, e⟩ := zp1 hn
  have hlt : sumN S ps < sumN (zhi S rs[k]) ps := sumN_lt (zpr S rs[k]) (p := p) (by rw [e, zhi, zgp]; exact hu) ps hp
  simp only [hu, decide_true, if_true]
  exact ⟨low_raise h.low (List.getElem_mem hk), Nat.le_trans h.ge hge, fun _ => Nat.lt_of_le_of_lt h.ge hlt, fun e => by cases e⟩
 ·obtain ⟨h1, h2⟩ := zqw hu
  simp only [hu, decide_false, h2]
  refine ⟨h.low, h.ge, by simpa using h.up, fun e R hR => ?_⟩
  rw [List.take_succ_eq_append_getElem hk, List.mem_append] at hR
  rcases hR with hR | hR
  ·exact h.keeps (by simpa using e) R hR
  ·rw [List.mem_singleton.1 hR]; exact h1
set_option maxRecDepth 100000 in
theorem of_any (w : World) (base : Nat) (ar : Option Addr) (cr : Nat) (rs : List PR) (ps : List (ByteArray × Nat)) (h : RRow w base (.slice ar rs.length cr) rs) (hrl : rs.length ≤ 30) (hb3 : ∀ r ∈ rs, r.bs.length ≤ 3) (hpd : ∀ r ∈ rs, r.R.pd.size ≤ 800) (hlp : ∀ r ∈ rs, ∀ x ∈ r.bs, x.1.pd.size ≤ 800) (hag : zee ((rs.map (·.R)).flatMap zcs) []) (hps : zdn ((rs.map (·.R)).flatMap zcs) [] = ps) (hpl : ps.length ≤ 1000) (hin : ∀ r ∈ rs, (∃ n, zbk ps r.R.pd = some n) ∧ ∀ x ∈ r.bs, ∃ n, zbk ps x.1.pd = some n) (f0 : ByteArray → Nat) (hf0 : zgh (rs.map (·.R)) f0) (hfb : ∀ k, f0 k ≤ 1000) :
  Calls Tryz.prog 35 #[.slice ar rs.length cr] w fun e w' => e = .returned (.map (some w.heap.size)) ∧ w.heap.size < w'.heap.size ∧ Below w.heap.size w w' ∧ ∃ (S : ByteArray → Nat) (n : Nat), SMap Tryz.prog 9 w' w.heap.size n (stV ps S) ∧ n ≤ 1000000000 ∧ zgh (rs.map (·.R)) S ∧ LowN (rs.map (·.R)) S := by
 have HR := hide h
 have hsf := zl8 hfb ps
 go_enter Tryz.func35, Tryz.ntmps35
 go_wp2_with fail
 refine (ground_any w base ar cr rs h hrl hb3 hpd hlp hag).mono ?_
 rintro e w1 ⟨rfl, hz1, hb1, hm1⟩
 rw [hps] at hm1
 clear h hag hps
 go_wp2_with fail
 go_loopg [4] (sumN f0 ps + 1) (fun gg r wr => ∃ (b : Bool) (S : ByteArray → Nat) (n : Nat), r = .bool b ∧ (b = true → sumN f0 ps - sumN S ps + 1 ≤ gg) ∧ n + 30 * gg ≤ 120 + 30 * (sumN f0 ps + 1) ∧ Below w.heap.size w wr ∧ w.heap.size < wr.heap.size ∧ SMap Tryz.prog 9 wr w.heap.size n (stV ps S) ∧ LowN (rs.map (·.R)) S ∧ (b = false → zgh (rs.map (·.R)) S))
 case atStart => exact ⟨true, fun _ => 0, 4 * rs.length, rfl, fun _ => by omega, by omega, hb1, hz1, hm1, fun _ _ _ => Nat.zero_le _, fun e => by cases e⟩
 case round =>
  clear hb1 hz1 hm1
  obtain ⟨b, S0, n0, rfl, hgg, hn0, hB, hsz, hm, hlow, hval⟩ := hrel
  cases b with
  | false =>
   have HV := hide (hval rfl)
   have HLW := hide hlow
   clear hlow hval
   go_wp2_with fail
   go_ret
   exact ⟨rfl, hsz, hB, S0, n0, hm, by omega, zaa HV, zaa HLW⟩
  | true =>
   have hgk := hgg rfl
   generalize hg1 : gk = g1 at *
   have h0 : OneIn (rs.map (·.R)) ps S0 0 false S0 := ⟨hlow, Nat.le_refl _, (fun e => by cases e), fun _ R hR => by simp at hR⟩
   clear hgg hval hlow
   go_wp2_with fail
   go_loopg [4, 12] rs.length (fun gg2 r j wj => ∃ (b : Bool) (S : ByteArray → Nat) (k : Nat), r = .bool b ∧ k ≤ rs.length ∧ gg2 = rs.length - k ∧ j = .int .i64 k ∧ Below w.heap.size w wj ∧ w.heap.size < wj.heap.size ∧ SMap Tryz.prog 9 wj w.heap.size (n0 + k) (stV ps S) ∧ OneIn (rs.map (·.R)) ps S0 k b S)
   case atStart => exact ⟨false, S0, 0, rfl, Nat.zero_le _, rfl, rfl, hB, hsz, hm, h0⟩
   case round =>
    clear hB hm h0
    obtain ⟨b, S, k, rfl, hk, hgk2, rfl, hB, hsz, hm, hone⟩ := hrel
    by_cases hlk : k < rs.length
    ·have hRw := (zaa HR).below hB
     obtain ⟨gr, capr, hvr, hbgr, hglr, hncr, hcmr, hcr⟩ := zc7 zo0 hRw.row k hlk
     injection hvr with h4 h5 h6
     subst h4 h6
     have hpr := (zaa HR).each _ (List.getElem_mem hlk)
     obtain ⟨ah, ch, hbh⟩ := zac hpr.hd
     obtain ⟨ab, cb, hbb⟩ := zac hpr.bo.row
     have r0 := hcr 0 (by omega)
     have r1 := hcr 1 (by omega)
     have r2 := hcr 2 (by omega)
     simp only [PR.cells, hbh, hbb, Nat.add_zero, List.getElem?_cons_zero, List.getElem?_cons_succ] at r0 r1 r2
     have hp8 := hpd _ (List.getElem_mem hlk)
     obtain ⟨⟨nt, hnt⟩, hlit⟩ := hin _ (List.getElem_mem hlk)
     have hlp8 := hlp _ (List.getElem_mem hlk)
     have hbl3 := hb3 _ (List.getElem_mem hlk)
     have hm1 := hm.alloc (.cells #[.string rs[k].R.pd, .slice ah rs[k].R.ts.length ch, .slice ab rs[k].bs.length cb] 123)
     have hB1 := hB.alloc (by omega) (.cells #[.string rs[k].R.pd, .slice ah rs[k].R.ts.length ch, .slice ab rs[k].bs.length cb] 123)
     have hbo : LRow (wr.alloc (.cells #[.string rs[k].R.pd, .slice ah rs[k].R.ts.length ch, .slice ab rs[k].bs.length cb] 123)) base (.slice ab rs[k].bs.length cb) rs[k].bs := by
      have := hpr.bo.below hB1
      rwa [hbb] at this
     have hnx := hone.next (by simpa using hlk) (n := nt) (by simpa using hnt)
     have hlow' : ∀ x, S x ≤ 100000 := fun x => Nat.le_trans (Nat.le_trans (hone.low f0 hf0 x) (hfb x)) (by omega)
     simp only [List.getElem_map] at hnx
     have heq := hpr.eq
     have HNX := hide hnx
     clear hcr hpr hbh hbb hRw hnx hone hB hm
     go_wp2_with fail
     refine (raise_any _ w.heap.size (n0 + k) base ps S rs[k].R.pd ah rs[k].R.ts.length ch ab cb rs[k].bs hm1 hbo (by omega) hp8 nt hnt (fun x hx => ⟨hlp8 x hx, hlit x hx⟩) hlow' (by omega)).mono ?_
     rintro e w3 ⟨rfl, hm3, hk3⟩
     have hz3 := hk3.size
     rw [World.size_alloc] at hz3
     have hB3 := zar hB1 hk3 (by simp; omega) (by simp)
     rw [heq] at hm3 ⊢
     have HM3 : Hid (SMap Tryz.prog 9 w3 w.heap.size (n0 + (k + 1)) (stV ps (zhi S rs[k].R))) := hide hm3
     clear hm3 hk3 hB1 hm1 hbo r0 r1 r2 hlow' heq
     generalize decide (S rs[k].R.pd < upTo S rs[k].R.body (S rs[k].R.pd)) = c at HNX ⊢
     cases c with
     | true =>
      go_wp2_with fail
      go_roundg (rs.length - (k + 1))
      case measure => omega
      case rel => exact ⟨true, _, k + 1, rfl, by omega, rfl, by go_num, hB3, by omega, zaa HM3, zaa HNX⟩
     | false =>
      go_wp2_with fail
      go_roundg (rs.length - (k + 1))
      case measure => omega
      case rel => exact ⟨b, _, k + 1, rfl, by omega, rfl, by go_num, hB3, by omega, zaa HM3, zaa HNX⟩
    ·have hkl : k = rs.length := by omega
     have hge := hone.ge
     have hup := hone.up
     have hlw := zni (hone.low f0 hf0) ps
     have HON := hide hone
     have HUP := hide hup
     clear hone hup
     go_wp2_with fail
     go_roundg (g1 - 1)
     case measure => omega
     case rel => exact ⟨b, S, n0 + k, rfl, fun e => by have := zaa HUP e; omega, by omega, hB, hsz, hm, (zaa HON).low, fun e R hR => (zaa HON).keeps e R (by rwa [List.take_of_length_le (by simp; omega)])⟩
end
end Go.Proofs.YtldkpahaocjdpaaGreat
