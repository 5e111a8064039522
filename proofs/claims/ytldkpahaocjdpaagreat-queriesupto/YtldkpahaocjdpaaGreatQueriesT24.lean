/-
  Plain: the bounds of what the program's reader reads.
  The program's Fault and Load: at every text the answer is the plain text's.
  The program's table of predicates: add, ground.
-/
import Derived.Test.YtldkpahaocjdpaaGreatQueriesT20
import Derived.Test.YtldkpahaocjdpaaGreatQueriesT23
set_option maxHeartbeats 16000000
namespace Go.Proofs.YtldkpahaocjdpaaGreat
section
theorem pterms_len (s : ByteArray) (f : Nat) : ∀ {p : Nat} {l : List (Bool × ByteArray)} {pl : Nat → Nat}, (zat s f p l pl).2.2.1.length ≤ l.length + f := by
 induction f with
 | zero => intro p l pl; simp [zat]
 | succ f ih =>
  intro p l pl
  rw [zat]
  split
  ·split
   ·refine Nat.le_trans ih ?_; first | (simp; done) | (simp; omega)
   ·first | (simp; done) | (simp; omega)
  ·first | (simp; done) | (simp; omega)
theorem zjr {s : ByteArray} {p q : Nat} {pd : ByteArray} {ts : List (Bool × ByteArray)} {pl : Nat → Nat} (h : zby s p = .yes q pd ts pl) : pd.size ≤ s.size ∧ ts.length ≤ 4 := by
 unfold zby at h
 by_cases c1 : (zae s p).1 = 2
 ·rw [if_pos c1] at h
  by_cases c2 : (zae s (zae s p).2.2).1 = 5
  ·rw [if_pos c2] at h
   by_cases c3 : (zat s 4 (zae s (zae s p).2.2).2.2 [] (fun _ => 0)).1 = true
   ·rw [if_pos c3] at h
    injection h with h1 h2 h3 h4
    subst h2 h3
    refine ⟨ziz s p, ?_⟩
    have := pterms_len s 4 (p := (zae s (zae s p).2.2).2.2) (l := []) (pl := fun _ => 0)
    simpa using this
   ·rw [if_neg c3] at h; cases h
  ·rw [if_neg c2] at h
   injection h with h1 h2 h3 h4
   subst h2 h3
   exact ⟨ziz s p, by simp⟩
 ·rw [if_neg c1] at h; cases h
def OkM (s : ByteArray) (M : PMen) : Prop := M.pd.size ≤ s.size ∧ M.ts.length ≤ 4
def OkL (s : ByteArray) (L : PLit) : Prop := L.pd.size ≤ s.size
def OkR (s : ByteArray) (R : PRule) : Prop := R.pd.size ≤ s.size ∧ R.body.length ≤ 3 ∧ ∀ l ∈ R.body, OkL s l
theorem pbody_ok (s : ByteArray) (num : Nat) (f : Nat) : ∀ {p : Nat} {l : List PLit} {ms : List PMen}, (∀ x ∈ l, OkL s x) → (∀ M ∈ ms, OkM s M) → (zcl s num f p l ms).2.2.1.length ≤ l.length + f ∧ (∀ x ∈ (zcl s num f p l ms).2.2.1, OkL s x) ∧ (∀ M ∈ (zcl s num f p l ms).2.2.2, OkM s M) := by
 induction f with
 | zero => intro p l ms hl hm; exact ⟨by simp [zcl], hl, hm⟩
 | succ f ih =>
  intro p l ms hl hm
  rw [zcl]
  cases hr : zby s (za3 s p 4) with
  | no q => exact ⟨by simp, hl, hm⟩
  | yes q pd ts pl =>
   obtain ⟨o1, o2⟩ := zjr hr
   have hl' : ∀ x ∈ l ++ [zff s p pd ts], OkL s x := fun x hx => by
    rcases List.mem_append.1 hx with hx | hx
    ·exact hl x hx
    ·simp at hx; subst hx; exact o1
   have hm' : ∀ M ∈ ms ++ [zgt s num p pd ts pl], OkM s M := fun x hx => by
    rcases List.mem_append.1 hx with hx | hx
    ·exact hm x hx
    ·simp at hx; subst hx; exact ⟨o1, o2⟩
   simp only
   split
   ·obtain ⟨a, b, c⟩ := ih (p := (zae s q).2.2) hl' hm'
    refine ⟨Nat.le_trans a ?_, b, c⟩
    first | (simp; done) | (simp; omega)
   ·exact ⟨by first | (simp; done) | (simp; omega), hl', hm'⟩
theorem prule_ok (s : ByteArray) (num p : Nat) {ms : List PMen} (hm : ∀ M ∈ ms, OkM s M) : OkR s (zb2 s num p ms).2.2.1 ∧ ∀ M ∈ (zb2 s num p ms).2.2.2, OkM s M := by
 unfold zb2
 cases hr : zby s p with
 | no q => exact ⟨⟨Nat.zero_le _, by simp, by simp⟩, hm⟩
 | yes q pd ts pl =>
  obtain ⟨o1, o2⟩ := zjr hr
  have hm' : ∀ M ∈ ms ++ [zhc s num p pd ts pl], OkM s M := fun x hx => by
   rcases List.mem_append.1 hx with hx | hx
   ·exact hm x hx
   ·simp at hx; subst hx; exact ⟨o1, o2⟩
  simp only
  split
  ·exact ⟨⟨o1, by simp, by simp⟩, hm'⟩
  ·split
   ·obtain ⟨a, b, c⟩ := pbody_ok s num 3 (p := (zae s q).2.2) (l := []) (by simp) hm'
    exact ⟨⟨o1, by simpa using a, b⟩, c⟩
   ·exact ⟨⟨o1, by simp, by simp⟩, hm'⟩
theorem prules_ok (s : ByteArray) (f : Nat) : ∀ {p : Nat} {rs : List PRule} {ms : List PMen}, (∀ R ∈ rs, OkR s R) → (∀ M ∈ ms, OkM s M) → (∀ R ∈ (zcx s f p rs ms).2.2.1, OkR s R) ∧ (∀ M ∈ (zcx s f p rs ms).2.2.2, OkM s M) := by
 induction f with
 | zero => intro p rs ms hr hm; exact ⟨hr, hm⟩
 | succ f ih =>
  intro p rs ms hr hm
  obtain ⟨o1, o2⟩ := prule_ok s rs.length p hm
  rw [zcx]
  split
  ·exact ⟨hr, hm⟩
  ·split
   ·exact ⟨hr, hm⟩
   ·split
    ·refine ih (fun R hR => ?_) o2
     rcases List.mem_append.1 hR with hR | hR
     ·exact hr R hR
     ·simp at hR; subst hR; exact o1
    ·exact ⟨hr, o2⟩
theorem text_num {n : Nat} {rs : List RRule} {ms : List PMen} (h : TextRel n rs ms) : ∀ M ∈ ms, n ≤ M.num ∧ M.num < n + rs.length := by
 induction h with
 | nil n => simp
 | cons h t ih =>
  intro M hM
  rcases List.mem_append.1 hM with hM | hM
  ·obtain ⟨q, _, q2, q3⟩ := h
   rw [← q2] at hM
   obtain ⟨x, hx, rfl⟩ := List.mem_map.1 hM
   have := (q3 x hx).num
   simp; omega
  ·have := ih M hM
   simp; omega
theorem zlu (s : ByteArray) (hs : s.size ≤ 800) (h : (za5 s).1 = true) : (∀ R ∈ (za5 s).2.2.1, R.pd.size ≤ 800 ∧ R.body.length ≤ 3 ∧ ∀ l ∈ R.body, l.pd.size ≤ 800) ∧ (∀ M ∈ (za5 s).2.2.2, M.pd.size ≤ 800 ∧ M.ts.length ≤ 4 ∧ M.num < (za5 s).2.2.1.length) := by
 obtain ⟨o1, o2⟩ := prules_ok s 31 (p := 0) (rs := []) (ms := []) (by simp) (by simp)
 obtain ⟨_, e2, e3⟩ := (zhy s).1 h
 refine ⟨fun R hR => ?_, fun M hM => ?_⟩
 ·obtain ⟨a, b, c⟩ := o1 R hR
  exact ⟨Nat.le_trans a hs, b, fun l hl => Nat.le_trans (c l hl) hs⟩
 ·obtain ⟨a, b⟩ := o2 M hM
  have := (text_num e3 M hM).2
  rw [e2]
  exact ⟨Nat.le_trans a hs, b, by simpa using this⟩
end
section
open Go.RowKit Go.Maps
noncomputable def zgx (rs : List PRule) (ms : List PMen) : Int × Int :=
 if 0 ≤ ze1 ms [] then (3, ze1 ms []) else if 0 ≤ zcu rs ms then (4, zcu rs ms) else if 0 ≤ zdo rs ms then (5, zdo rs ms) else (0, 0)
set_option maxRecDepth 100000 in
theorem fault_any (w : World) (base : Nat) (ar : Option Addr) (cr : Nat) (rs : List PR) (am : Option Addr) (cm : Nat) (ms : List (PMen × Value)) (h : RRow w base (.slice ar rs.length cr) rs) (h' : MRow w base (.slice am ms.length cm) ms) (hf : Few rs ms) :
  Calls Tryz.prog 46 #[.agg #[.slice ar rs.length cr, .slice am ms.length cm]] w fun e w' => e = .returned (.tuple #[.int .i64 (zgx (rs.map (·.R)) (ms.map (·.1))).1, .int .i64 (zgx (rs.map (·.R)) (ms.map (·.1))).2]) ∧ Below w.heap.size w w' := by
 have h0 := UnbInv.start h h'
 have hF : zgx (rs.map (·.R)) (ms.map (·.1)) = _ := zgx.eq_1 (rs.map (·.R)) (ms.map (·.1))
 have HF := hide hF
 clear h h' hF
 go_enter Tryz.func46, Tryz.ntmps46
 go_wp2_with fail
 refine (parity_any _ base ar rs.length cr am cm ms h0.men hf.m120 hf.mpd).mono ?_
 rintro e w1 ⟨he, hb1⟩
 have h1 := h0.next hb1
 obtain ⟨x0, xf0⟩ := zab h1.box 0
 obtain ⟨x1, xf1⟩ := zab h1.box 1
 have hsz1 := h1.sz
 clear h0 hb1
 by_cases c1 : 0 ≤ ze1 (ms.map (·.1)) []
 ·have HF1 := hide ((zaa HF).trans (if_pos c1))
  have he' : e = .returned (.tuple #[.int .i64 (ze1 (ms.map (·.1)) []), .bool true]) := by rw [he]; unfold zip; rw [if_pos c1]; simp [c1]
  subst he'
  have HB := hide h1.below
  clear HF he c1 h1
  go_wp2_with fail
  go_ret2
  exact ⟨by rw [zaa HF1]; rfl, zaa HB⟩
 ·have HF1 := hide ((zaa HF).trans (if_neg c1))
  have he' : e = .returned (.tuple #[.int .i64 0, .bool false]) := by rw [he]; unfold zip; rw [if_neg c1]; simp [c1]
  subst he'
  clear HF he c1
  go_wp2_with fail
  refine (zp9 _ base ar cr rs am cm ms h1.rules h1.men hf.m120 hf.mts (fun r hr => by have := hf.b3 r hr; omega)).mono ?_
  rintro e w2 ⟨he, hb2⟩
  have h2 := h1.next hb2
  clear h1 hb2 x0 x1 xf0 xf1
  obtain ⟨x0, xf0⟩ := zab h2.box 0
  obtain ⟨x1, xf1⟩ := zab h2.box 1
  have hsz2 := h2.sz
  by_cases c2 : 0 ≤ zcu (rs.map (·.R)) (ms.map (·.1))
  ·have HF2 := hide ((zaa HF1).trans (if_pos c2))
   have he' : e = .returned (.tuple #[.int .i64 (zcu (rs.map (·.R)) (ms.map (·.1))), .bool true]) := by rw [he]; unfold zip; rw [if_pos c2]; simp [c2]
   subst he'
   have HB := hide h2.below
   clear HF1 he c2 h2
   go_wp2_with fail
   go_ret2
   exact ⟨by rw [zaa HF2]; rfl, zaa HB⟩
  ·have HF2 := hide ((zaa HF1).trans (if_neg c2))
   have he' : e = .returned (.tuple #[.int .i64 0, .bool false]) := by rw [he]; unfold zip; rw [if_neg c2]; simp [c2]
   subst he'
   clear HF1 he c2
   go_wp2_with fail
   refine (zqt _ base ar cr rs am cm ms h2.rules h2.men hf).mono ?_
   rintro e w3 ⟨he, hb3⟩
   have h3 := h2.next hb3
   have HB := hide h3.below
   clear h2 hb3 x0 x1 xf0 xf1 h3
   by_cases c3 : 0 ≤ zdo (rs.map (·.R)) (ms.map (·.1))
   ·have HF3 := hide ((zaa HF2).trans (if_pos c3))
    have he' : e = .returned (.tuple #[.int .i64 (zdo (rs.map (·.R)) (ms.map (·.1))), .bool true]) := by rw [he]; unfold zip; rw [if_pos c3]; simp [c3]
    subst he'
    clear HF2 he c3
    go_wp2_with fail
    go_ret2
    exact ⟨by rw [zaa HF3]; rfl, zaa HB⟩
   ·have HF3 := hide ((zaa HF2).trans (if_neg c3))
    have he' : e = .returned (.tuple #[.int .i64 0, .bool false]) := by rw [he]; unfold zip; rw [if_neg c3]; simp [c3]
    subst he'
    clear HF2 he c3
    go_wp2_with fail
    go_ret2
    exact ⟨by rw [zaa HF3]; rfl, zaa HB⟩
noncomputable def pload (s : ByteArray) : Bool × Int × Int :=
 if 800 < s.size then (false, 1, 0)
 else if (za5 s).1 = false then (false, 2, (zae s (za5 s).2.1).2.1)
 else if (zgx (za5 s).2.2.1 (za5 s).2.2.2).1 ≠ 0 then (false, (zgx (za5 s).2.2.1 (za5 s).2.2.2).1, (zgx (za5 s).2.2.1 (za5 s).2.2.2).2)
 else (true, 0, 0)
def ProgIn (w : World) (base b : Nat) (rs : List PR) : Prop := ∃ (a : Option Addr) (c : Nat), w.heap[b]? = some (.cells #[.slice a rs.length c] 106 (0, 0)) ∧ base ≤ b ∧ RRow w base (.slice a rs.length c) rs
def LoadPost (w : World) (P : Bool × Int × Int) (rules : List PRule) (e : Ending) (w' : World) : Prop :=
 Below w.heap.size w w' ∧ (P.1 = false → e = .returned (.tuple #[.pointer none, .int .i64 P.2.1, .int .i64 P.2.2])) ∧
 (P.1 = true → ∃ (b : Nat) (rs : List PR), e = .returned (.tuple #[.pointer (some ⟨b, 0, none⟩), .int .i64 P.2.1, .int .i64 P.2.2]) ∧ ProgIn w' w.heap.size b rs ∧ rs.map (·.R) = rules)
set_option maxRecDepth 100000 in
theorem pload_any (w : World) (s : ByteArray) (hs : s.size ≤ maxLen) :
  Calls Tryz.prog 30 #[.string s] w (LoadPost w (pload s) (za5 s).2.2.1) := by
 have hP : pload s = _ := pload.eq_1 s
 have HP := hide hP
 clear hP
 unfold maxLen at hs
 by_cases c0 : 800 < s.size
 ·have c0i : 800 < (s.size : Int) := by omega
  have HP1 := hide ((zaa HP).trans (if_pos c0))
  clear HP c0
  go_enter Tryz.func30, Tryz.ntmps30
  go_wp2_with fail
  go_ret3
  rw [zaa HP1]
  exact ⟨Below.refl _ _, fun _ => rfl, fun e => by cases e⟩
 ·have c0i : ¬ 800 < (s.size : Int) := by omega
  have HP1 := hide ((zaa HP).trans (if_neg c0))
  have hs8 : s.size ≤ 800 := by omega
  clear HP c0
  go_enter Tryz.func30, Tryz.ntmps30
  go_wp2_with fail
  refine (prules_any _ s (by omega)).mono ?_
  rintro e w1 ⟨hb1, hno, hyes⟩
  cases c1 : (za5 s).1 with
  | false =>
   have HP2 := hide ((zaa HP1).trans (if_pos c1))
   have he := hno c1
   subst he
   clear hno hyes HP1 c1
   go_wp2_with fail
   go_ret3
   rw [zaa HP2]
   exact ⟨hb1.alloc hb1.size _, fun _ => rfl, fun e => by cases e⟩
  | true =>
   have HP2 := hide ((zaa HP1).trans (if_neg (by rw [c1]; decide)))
   obtain ⟨a, n, c, a', n', c', rs, ms, rfl, hR, hrs, hM, hms, hr30, hm120⟩ := hyes c1
   obtain ⟨ar, cr, hv1⟩ := zac hR.row
   obtain ⟨am, cm, hv2⟩ := zac hM.row
   injection hv1 with h1 h2 h3
   injection hv2 with h4 h5 h6
   subst h1 h2 h3 h4 h5 h6
   obtain ⟨o1, o2⟩ := zlu s hs8 c1
   rw [← hrs] at o1 o2
   rw [← hms] at o2
   rw [← hrs, ← hms] at HP2
   have HRS := hide hrs
   have hf : Few rs ms := by
    refine ⟨hr30, by omega, fun r hr => ?_, fun r hr => (o1 _ (List.mem_map_of_mem hr)).1, fun R hR l hl => (o1 R hR).2.2 l hl, fun x hx => (o2 _ (List.mem_map_of_mem hx)).1, fun x hx => ?_⟩
    ·have h1 := (o1 _ (List.mem_map_of_mem hr)).2.1
     have h2 := (hR.each r hr).eq
     rw [← h2] at h1
     simpa using h1
    ·obtain ⟨_, h2, h3⟩ := o2 _ (List.mem_map_of_mem hx)
     exact ⟨by simpa using h3, h2⟩
   have kA := (Below.refl w1.heap.size w1).alloc (Nat.le_refl _) (.cells #[.slice a rs.length c, .slice a' ms.length c'] 100)
   have hR1 := hR.below kA
   have hM1 := hM.below kA
   have hbx : (w1.alloc (.cells #[.slice a rs.length c, .slice a' ms.length c'] 100)).heap[w1.heap.size]? = _ := heap_alloc_new w1 _
   have hw1 := hb1.size
   have hbA := hb1.trans (kA.mono hw1)
   clear hno hyes HP1 c1 hR hM hrs hms o1 o2 kA
   go_wp2_with fail
   refine (fault_any _ w.heap.size a c rs a' c' ms hR1 hM1 hf).mono ?_
   rintro e w2 ⟨rfl, hb2⟩
   have hz2 := hb2.size
   rw [World.size_alloc] at hz2
   have hR2 := hR1.below hb2
   have hbx2 := (hb2.block w1.heap.size (by simp)).trans hbx
   have hB2 := hbA.trans (hb2.mono (by simp; omega))
   obtain ⟨x0, xf0⟩ := zab hbx2 0
   clear hR1 hM1 hbx hbx2 hb2 hbA
   by_cases c2 : (zgx (rs.map (·.R)) (ms.map (·.1))).1 ≠ 0
   ·have c2i : ((zgx (rs.map (·.R)) (ms.map (·.1))).1 != 0) = true := by simpa using c2
    have HP3 := hide ((zaa HP2).trans (if_pos c2))
    clear HP2 c2
    go_wp2_with fail
    go_ret3
    rw [zaa HP3]
    exact ⟨hB2, fun _ => rfl, fun e => by cases e⟩
   ·have c2i : ((zgx (rs.map (·.R)) (ms.map (·.1))).1 != 0) = false := by simpa using c2
    have HP3 := hide ((zaa HP2).trans (if_neg c2))
    clear HP2 c2
    go_wp2_with fail
    go_ret3
    rw [zaa HP3]
    have kB := (Below.refl w2.heap.size w2).alloc (Nat.le_refl _) (.cells #[.slice a rs.length c] 106)
    exact ⟨hB2.trans (kB.mono (by omega)), fun e => (by cases e), fun _ => ⟨w2.heap.size, rs, rfl, ⟨a, c, heap_alloc_new w2 _, by omega, hR2.below kB⟩, zaa HRS⟩⟩
end
section
open Go.RowKit Go.Maps
def stV (ps : List (ByteArray × Nat)) (S : ByteArray → Nat) : ByteArray → Option Value := fun k => (zbi ps k).map fun n => Value.agg #[.string k, .int .i64 (S k), .int .i64 n]
theorem ziw {ps : List (ByteArray × Nat)} {nm : ByteArray} {n : Nat} (h : zdh ps nm n = true) (k : ByteArray) : zbi (zdj ps nm n) k = if k = nm then some n else zbi ps k := by
 rw [zdp] at h
 rw [zp0]
 by_cases e : k = nm
 ·subst e
  rw [if_pos rfl]
  cases hn : zbi ps k with
  | none => rw [if_pos (by rfl), zjl, hn]; simp
  | some m =>
   rw [hn] at h
   simp at h
   rw [if_neg (by simp), hn, h]
 ·rw [if_neg e]
  cases hn : zbi ps nm with
  | none =>
   rw [if_pos (by rfl), zjl]
   have : ¬ (nm.toList == k.toList) = true := fun h => e ((zcf.1 h).symm)
   cases zbi ps k with
   | none => simp only [if_neg this]
   | some m => rfl
  | some m => rw [if_neg (by simp)]
theorem stV_add (ps : List (ByteArray × Nat)) (nm : ByteArray) (n : Nat) (h : zdh ps nm n = true) : updV (stV ps (fun _ => 0)) nm (.agg #[.string nm, .int .i64 0, .int .i64 n]) = stV (zdj ps nm n) (fun _ => 0) := by
 funext k
 unfold stV
 rw [ziw h]
 by_cases e : k = nm
 ·subst e; rw [zd3, if_pos rfl]; rfl
 ·rw [zc8 e, if_neg e]
structure Tab (w : World) (b n : Nat) (V : ByteArray → Option Value) (wr : World) : Prop where
 map : SMap Tryz.prog 9 wr b n V
 kept : Kept [b] w wr
theorem Tab.alloc {w : World} {b n : Nat} {V : ByteArray → Option Value} {wr : World} (h : Tab w b n V wr) (o : Obj) : Tab w b n V (wr.alloc o) := ⟨h.map.alloc o, h.kept.alloc o⟩
theorem Tab.put {w : World} {b n m : Nat} {V V' : ByteArray → Option Value} {wr w1 : World} (h : Tab w b n V wr) (hm : SMap Tryz.prog 9 w1 b m V') (hg : wr.grownBy w1 (some b)) : Tab w b m V' w1 :=
 ⟨hm, h.kept.trans ⟨hg.os, hg.tape, hg.output, hg.size, fun k hk hn => hg.block k hk (by simp at hn ⊢; exact hn)⟩⟩
set_option maxRecDepth 100000 in
theorem add_any (w : World) (b n : Nat) (ps : List (ByteArray × Nat)) (pd : ByteArray) (a : Option Addr) (nt c : Nat) (h : SMap Tryz.prog 9 w b n (stV ps (fun _ => 0))) (hn : n ≤ 100000) (hp : pd.size ≤ 800) (hb : zdh ps pd nt = true) :
  Calls Tryz.prog 97 #[.map (some b), .agg #[.string pd, .slice a nt c]] w fun e w' => e = .returned (.tuple #[]) ∧ SMap Tryz.prog 9 w' b (n + 1) (stV (zdj ps pd nt) (fun _ => 0)) ∧ Kept [b] w w' := by
 have h0 : Tab w b n (stV ps (fun _ => 0)) (w.alloc (.cells #[.string pd, .slice a nt c] 79)) := Tab.alloc ⟨h, Kept.refl _ _⟩ _
 have hmap := h0.map
 have hkl : pd.size ≤ maxLen := by unfold maxLen; omega
 have HT := hide h0
 have HP := hide (stV_add ps pd nt hb)
 clear h h0 hb
 go_enter Tryz.func97, Tryz.ntmps97
 go_wp2_with (at_mapUpdate; refine zls _ rfl _ _ _ 73 rfl 9 185 Tryz.underlying9 Tryz.underlying73 b n (stV ps (fun _ => 0)) rfl hmap (by unfold maxLen; omega) pd (.agg #[.string pd, .int .i64 0, .int .i64 nt]) (by rfl) (by rfl) hkl ?_)
 intro w2 hm2 hg2
 have hT2 := (zaa HT).put hm2 hg2
 rw [zaa HP] at hT2
 have HT2 := hide hT2
 clear HT hm2 hg2 hmap hT2
 go_wp2_with fail
 go_end0
 exact ⟨rfl, (zaa HT2).map, (zaa HT2).kept⟩
def zcs (R : PRule) : List (ByteArray × Nat) := (R.pd, R.ts.length) :: R.body.map fun l => (l.pd, l.ts.length)
def zdq : List (ByteArray × Nat) → List (ByteArray × Nat) → List (ByteArray × Nat)
 | [], ps => ps
 | x :: r, ps => zdq r (zdj ps x.1 x.2)
def zed : List (ByteArray × Nat) → List (ByteArray × Nat) → Prop
 | [], _ => True
 | x :: r, ps => zdh ps x.1 x.2 = true ∧ zed r (zdj ps x.1 x.2)
theorem zfh (m : List (ByteArray × Nat)) : ∀ (l ps : List (ByteArray × Nat)), zdq (l ++ m) ps = zdq m (zdq l ps)
 | [], _ => rfl
 | _ :: r, _ => zfh m r _
theorem zgf (m : List (ByteArray × Nat)) : ∀ (l ps : List (ByteArray × Nat)), zed (l ++ m) ps ↔ zed l ps ∧ zed m (zdq l ps)
 | [], ps => by simp [zed, zdq]
 | x :: r, ps => by rw [List.cons_append, zed, zed, zgf m r, zdq, and_assoc]
def zey (ls : List (PLit × Value)) : List (ByteArray × Nat) := ls.map fun x => (x.1.pd, x.1.ts.length)
theorem patoms_eq {r : PR} {w : World} {base : Nat} (h : PRIn w base r) : zcs r.R = (r.R.pd, r.R.ts.length) :: zey r.bs := by
 unfold zcs zey
 rw [← h.eq, List.map_map]
 rfl
set_option maxRecDepth 100000 in
theorem ground_any (w : World) (base : Nat) (ar : Option Addr) (cr : Nat) (rs : List PR) (h : RRow w base (.slice ar rs.length cr) rs) (hrl : rs.length ≤ 30) (hb3 : ∀ r ∈ rs, r.bs.length ≤ 3) (hpd : ∀ r ∈ rs, r.R.pd.size ≤ 800) (hlp : ∀ r ∈ rs, ∀ x ∈ r.bs, x.1.pd.size ≤ 800) (hag : zed ((rs.map (·.R)).flatMap zcs) []) :
  Calls Tryz.prog 55 #[.slice ar rs.length cr] w fun e w' => e = .returned (.map (some w.heap.size)) ∧ w.heap.size < w'.heap.size ∧ Below w.heap.size w w' ∧ SMap Tryz.prog 9 w' w.heap.size (4 * rs.length) (stV (zdq ((rs.map (·.R)).flatMap zcs) []) (fun _ => 0)) := by
 have hmm := @run_makeMap Tryz.prog
 have h0 : SMap Tryz.prog 9 (w.alloc (.map #[] 0)) w.heap.size 0 (stV [] (fun _ => 0)) := SMap.made _ _ w
 have b0 : Below w.heap.size w (w.alloc (.map #[] 0)) := (Below.refl _ _).alloc (Nat.le_refl _) _
 have HR := hide h
 have HAG := hide hag
 clear h hag
 go_enter Tryz.func55, Tryz.ntmps55
 go_wp2_with fail
 go_loopg [11] rs.length (fun gg i wr => ∃ k : Nat, k ≤ rs.length ∧ gg = rs.length - k ∧ i = .int .i64 k ∧ Below w.heap.size w wr ∧ w.heap.size < wr.heap.size ∧ SMap Tryz.prog 9 wr w.heap.size (4 * k) (stV (zdq (((rs.map (·.R)).take k).flatMap zcs) []) (fun _ => 0)))
 case atStart => exact ⟨0, Nat.zero_le _, rfl, rfl, b0, by simp, h0⟩
 case round =>
  clear h0 b0
  obtain ⟨k, hk, hgk, rfl, hB, hsz, hm⟩ := hrel
  by_cases hlk : k < rs.length
  ·have hRw := (zaa HR).below hB
   obtain ⟨gr, capr, hvr, hbgr, hglr, hncr, hcmr, hcr⟩ := zc6 zof hRw.row k hlk
   injection hvr with h4 h5 h6
   subst h4 h6
   have hin := (zaa HR).each _ (List.getElem_mem hlk)
   obtain ⟨ah, ch, hbh⟩ := zac hin.hd
   obtain ⟨ab, cb, hbb⟩ := zac hin.bo.row
   have r0 := hcr 0 (by omega)
   have r1 := hcr 1 (by omega)
   have r2 := hcr 2 (by omega)
   simp only [PR.cells, hbh, hbb, Nat.add_zero, List.getElem?_cons_zero, List.getElem?_cons_succ] at r0 r1 r2
   have hbo := hin.bo
   rw [hbb] at hbo
   have HBO := hide hbo
   have hp8 := hpd _ (List.getElem_mem hlk)
   have hbl := hb3 _ (List.getElem_mem hlk)
   have hlp8 := hlp _ (List.getElem_mem hlk)
   have hsplit : ((rs.map (·.R)).take (k + 1)).flatMap zcs = ((rs.map (·.R)).take k).flatMap zcs ++ ((rs[k].R.pd, rs[k].R.ts.length) :: zey rs[k].bs) := by
    rw [zir hlk, List.flatMap_append]; simp [patoms_eq hin]
   have hag2 : zed (((rs.map (·.R)).take k).flatMap zcs ++ ((rs[k].R.pd, rs[k].R.ts.length) :: zey rs[k].bs)) [] := by
    have := zaa HAG
    rw [← List.take_append_drop (k + 1) (rs.map (·.R)), List.flatMap_append, zgf, hsplit] at this
    exact this.1
   rw [zgf, zed] at hag2
   obtain ⟨_, hag3, hag4⟩ := hag2
   have HSP := hide (congrArg (fun l => zdq l []) hsplit)
   generalize hps : zdq (((rs.map (·.R)).take k).flatMap zcs) [] = ps at *
   have HSP2 := hide (show zdq (((rs.map (·.R)).take (k + 1)).flatMap zcs) [] = zdq (zey rs[k].bs) (zdj ps rs[k].R.pd rs[k].R.ts.length) by rw [show zdq (((rs.map (·.R)).take (k + 1)).flatMap zcs) [] = _ from zaa HSP, zfh, hps]; rfl)
   have bA := (Below.refl wr.heap.size wr).alloc (Nat.le_refl _) (.cells #[.string rs[k].R.pd, .slice ah rs[k].R.ts.length ch, .slice ab rs[k].bs.length cb] 123)
   have hrb : (wr.alloc (.cells #[.string rs[k].R.pd, .slice ah rs[k].R.ts.length ch, .slice ab rs[k].bs.length cb] 123)).heap[wr.heap.size]? = _ := heap_alloc_new wr _
   have hB1 := hB.trans (bA.mono (by omega))
   have hm1 := hm.alloc (.cells #[.string rs[k].R.pd, .slice ah rs[k].R.ts.length ch, .slice ab rs[k].bs.length cb] 123)
   have HAG4 := hide hag4
   clear hcr hin hbh hbb hbo hRw hsplit HSP hB hm bA hag4 hps
   go_wp2_with fail
   refine (add_any _ w.heap.size (4 * k) ps rs[k].R.pd ah rs[k].R.ts.length ch hm1 (by omega) hp8 hag3).mono ?_
   rintro e w2 ⟨rfl, hm2, hk2⟩
   have hrb2 := za2 hrb hk2 (by simp; omega)
   have hz2 := hk2.size
   rw [World.size_alloc] at hz2
   have hB2 := zar hB1 hk2 (by simp; omega) (by simp)
   obtain ⟨x2, xf2⟩ := zab hrb2 2
   clear hrb hk2 hB1 hm1 r0 r1 r2 hag3
   generalize zdj ps rs[k].R.pd rs[k].R.ts.length = ps1 at *
   generalize hn1 : wr.heap.size = n1 at *
   go_wp2_with fail
   go_loopg [22] rs[k].bs.length (fun gg2 j wj => ∃ (jj : Nat), jj ≤ rs[k].bs.length ∧ gg2 = rs[k].bs.length - jj ∧ j = .int .i64 jj ∧ Below w.heap.size w wj ∧ n1 < wj.heap.size ∧ SMap Tryz.prog 9 wj w.heap.size (4 * k + 1 + jj) (stV (zdq ((zey rs[k].bs).take jj) ps1) (fun _ => 0)) ∧ zed ((zey rs[k].bs).drop jj) (zdq ((zey rs[k].bs).take jj) ps1))
   case atStart => exact ⟨0, Nat.zero_le _, rfl, rfl, hB2, by omega, hm2, by simpa [zdq] using zaa HAG4⟩
   case round =>
    clear hB2 hm2 hrb2 x2 xf2 HAG4
    obtain ⟨j, hj, hgj, rfl, hB, hsz2, hm, hag⟩ := hrel
    by_cases hjl : j < rs[k].bs.length
    ·have hbw := (zaa HBO).below hB
     obtain ⟨g, cap, hv, hbg, hgl, hnc, hcm, hc⟩ := zc6 pl_len hbw.row j hjl
     injection hv with h1 h2 h3
     subst h1 h3
     obtain ⟨at1, ct1, hbt⟩ := zac (hbw.each _ (List.getElem_mem hjl))
     have q0 := hc 0 (by omega)
     have q1 := hc 1 (by omega)
     have q2 := hc 2 (by omega)
     simp only [PLit.cells, hbt, Nat.add_zero, List.getElem?_cons_zero, List.getElem?_cons_succ] at q0 q1 q2
     have hdr : (zey rs[k].bs).drop j = (rs[k].bs[j].1.pd, rs[k].bs[j].1.ts.length) :: (zey rs[k].bs).drop (j + 1) := by
      rw [List.drop_eq_getElem_cons (by simpa [zey] using hjl)]; simp [zey]
     have htk : (zey rs[k].bs).take (j + 1) = (zey rs[k].bs).take j ++ [(rs[k].bs[j].1.pd, rs[k].bs[j].1.ts.length)] := by
      rw [List.take_succ_eq_append_getElem (by simpa [zey] using hjl)]; simp [zey]
     rw [hdr, zed] at hag
     obtain ⟨hagb, hagr⟩ := hag
     have hq8 := hlp8 _ (List.getElem_mem hjl)
     have HAGR := hide (show zed ((zey rs[k].bs).drop (j + 1)) (zdq ((zey rs[k].bs).take (j + 1)) ps1) by rw [htk, zfh]; exact hagr)
     have HTK := hide (show zdj (zdq ((zey rs[k].bs).take j) ps1) rs[k].bs[j].1.pd rs[k].bs[j].1.ts.length = zdq ((zey rs[k].bs).take (j + 1)) ps1 by rw [htk, zfh]; rfl)
     have bA := (Below.refl wr.heap.size wr).alloc (Nat.le_refl _) (.cells #[.bool rs[k].bs[j].1.neg, .string rs[k].bs[j].1.pd, .slice at1 rs[k].bs[j].1.ts.length ct1] 183)
     have hB1 := hB.trans (bA.mono (by omega))
     have hm1 := hm.alloc (.cells #[.bool rs[k].bs[j].1.neg, .string rs[k].bs[j].1.pd, .slice at1 rs[k].bs[j].1.ts.length ct1] 183)
     clear hc hbt hbw hdr htk hagr hB hm bA
     go_wp2_with fail
     refine (add_any _ w.heap.size (4 * k + 1 + j) (zdq ((zey rs[k].bs).take j) ps1) rs[k].bs[j].1.pd at1 rs[k].bs[j].1.ts.length ct1 hm1 (by omega) hq8 hagb).mono ?_
     rintro e w3 ⟨rfl, hm3, hk3⟩
     have hz3 := hk3.size
     rw [World.size_alloc] at hz3
     have hB3 := zar hB1 hk3 (by simp; omega) (by simp)
     rw [zaa HTK] at hm3
     have HM3 := hide hm3
     clear hk3 hB1 hm1 q0 q1 q2 hagb hm3
     go_wp2_with fail
     go_roundg (rs[k].bs.length - (j + 1))
     case measure => omega
     case rel => exact ⟨j + 1, by omega, rfl, by go_num, hB3, by omega, zaa HM3, zaa HAGR⟩
    ·have htk : (zey rs[k].bs).take j = zey rs[k].bs := List.take_of_length_le (by simp [zey]; omega)
     rw [htk] at hm
     have HM := hide (hm.mono (m := 4 * (k + 1)) (by omega))
     clear hm htk hag
     go_wp2_with fail
     go_roundg (rs.length - (k + 1))
     case measure => omega
     case rel => exact ⟨k + 1, by omega, rfl, by go_num, hB, by omega, by rw [zaa HSP2]; exact zaa HM⟩
  ·have e : (rs.map (·.R)).take k = rs.map (·.R) := List.take_of_length_le (by simp; omega)
   have ek : k = rs.length := by omega
   rw [e, ek] at hm
   have HM := hide hm
   clear hm e
   go_wp2_with fail
   go_ret
   exact ⟨rfl, hsz, hB, zaa HM⟩
end
end Go.Proofs.YtldkpahaocjdpaaGreat
