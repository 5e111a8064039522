/-
  The program's cycle and Fault.
  Plain: the bounds of what the program's reader reads.
-/
import Derived.Test.YtldkpahaocjdpaaGreatPrintsT32
import Derived.Test.YtldkpahaocjdpaaGreatPrintsT27
namespace Go.Proofs.YtldkpahaocjdpaaGreat
open Go.RowKit Go.Maps

def headAt (rs : List PRule) (n : Nat) : ByteArray := match rs[n]? with | some R => R.pd | none => { data := #[] }

noncomputable def cycM (rs : List PRule) (M : PMen) : Bool := M.neg && (M.pd.toList == (headAt rs M.num).toList || hangsP (edgesP rs) M.pd (headAt rs M.num))
noncomputable def cycleP (rs : List PRule) : List PMen → Int
  | [] => -1
  | M :: r => if cycM rs M then (M.start : Int) else cycleP rs r

theorem cycleP_step {rs : List PRule} {ms : List (PMen × Value)} {k : Nat} (h : k < ms.length) : cycleP rs ((ms.map (·.1)).drop k) = if cycM rs ms[k].1 then (ms[k].1.start : Int) else cycleP rs ((ms.map (·.1)).drop (k + 1)) := by
  rw [List.drop_eq_getElem_cons (by simpa using h), cycleP]; simp

theorem edges_size {rs : List PRule} (h : ∀ R ∈ rs, ∀ l ∈ R.body, l.pd.size ≤ 800) : ∀ e ∈ edgesP rs, e.2.size ≤ 800 := by
  intro e he
  obtain ⟨R, hR, he⟩ := List.mem_flatMap.1 he
  obtain ⟨l, hl, rfl⟩ := List.mem_map.1 he
  exact h R hR l hl
theorem edges_len {rs : List PRule} (h : ∀ R ∈ rs, R.body.length ≤ 3) : (edgesP rs).length ≤ 3 * rs.length := by
  induction rs with
  | nil => simp [edgesP]
  | cons R r ih =>
    have h1 := ih (fun x hx => h x (List.mem_cons_of_mem _ hx))
    have h2 := h R List.mem_cons_self
    have e : edgesP (R :: r) = edgesB R.pd R.body ++ edgesP r := by simp [edgesP]
    rw [e, List.length_append, List.length_cons]
    simp only [edgesB, List.length_map]
    omega

/-- The bounds of what was read. -/
structure Few (rs : List PR) (ms : List (PMen × Value)) : Prop where
  r30 : rs.length ≤ 30
  m120 : ms.length ≤ 1000
  b3 : ∀ r ∈ rs, r.bs.length ≤ 3
  rpd : ∀ r ∈ rs, r.R.pd.size ≤ 800
  lpd : ∀ R ∈ rs.map (·.R), ∀ l ∈ R.body, l.pd.size ≤ 800
  mpd : ∀ x ∈ ms, x.1.pd.size ≤ 800
  mts : ∀ x ∈ ms, x.1.num < rs.length ∧ x.1.ts.length ≤ 4

set_option maxRecDepth 100000 in
set_option maxHeartbeats 8000000 in
theorem cycle_p_any (w : World) (base : Nat) (ar : Option Addr) (cr : Nat) (rs : List PR) (am : Option Addr) (cm : Nat) (ms : List (PMen × Value)) (h : RRow w base (.slice ar rs.length cr) rs) (h' : MRow w base (.slice am ms.length cm) ms) (hf : Few rs ms) :
    Calls Tryz.prog 77 #[.agg #[.slice ar rs.length cr, .slice am ms.length cm]] w fun e w' => e = found (cycleP (rs.map (·.R)) (ms.map (·.1))) ∧ Below w.heap.size w w' := by
  obtain ⟨hr30, hm120, hb3, hrpd, hlpd, hmpd, hmts⟩ := hf
  have hE8 := edges_size hlpd
  have hEl : (edgesP (rs.map (·.R))).length ≤ 1000 := by
    have := edges_len (rs := rs.map (·.R)) (fun R hR => by
      obtain ⟨r, hr, rfl⟩ := List.mem_map.1 hR
      have h1 := hb3 r hr
      have h2 := (h.each r hr).eq
      rw [← h2]; simpa using h1)
    simp at this
    omega
  have h0 := UnbInv.start h h'
  have hrx := own_max h.row
  unfold maxLen at hrx
  have hRb := h0.rules
  obtain ⟨x1, xf1⟩ := block_cells h0.box 1
  clear h h'
  go_enter Tryz.func77, Tryz.ntmps77
  go_wp2_with fail
  refine (links_any _ base ar cr rs hRb hrpd hb3 hr30).mono ?_
  rintro e w1 ⟨rfl, hb1, hz1, V, hlk⟩
  have h1 := h0.next hb1
  obtain ⟨y1, yf1⟩ := block_cells h1.box 1
  rw [World.size_alloc] at hlk hz1 ⊢
  clear h0 hRb x1 xf1 hb1
  go_wp2_with fail
  go_loopg [15] ms.length (fun gg i wr => ∃ k : Nat, k ≤ ms.length ∧ gg = ms.length - k ∧ i = .int .i64 k ∧ UnbInv w base (.slice ar rs.length cr) (.slice am ms.length cm) rs ms wr ∧ Lk (w.heap.size + 1) (edgesP (rs.map (·.R))).length (edgesP (rs.map (·.R))) V wr ∧ cycleP (rs.map (·.R)) (ms.map (·.1)) = cycleP (rs.map (·.R)) ((ms.map (·.1)).drop k))
  case atStart => exact ⟨0, Nat.zero_le _, rfl, rfl, h1, hlk, rfl⟩
  case round =>
    clear h1 hlk y1 yf1 hz1
    obtain ⟨k, hk, hgk, rfl, hinv, hlk, hfin⟩ := hrel
    have HF := hide hfin
    clear hfin
    by_cases hlkk : k < ms.length
    · have HF2 := hide ((unhide HF).trans (cycleP_step hlkk))
      obtain ⟨g, cap, hv, hbg, hgl, hnc, hcm, hc⟩ := row_at men_len hinv.men.row k hlkk
      injection hv with h1 h2 h3
      subst h1 h3
      obtain ⟨at1, ct1, hbt⟩ := own_slice (hinv.men.each _ (List.getElem_mem hlkk))
      have q0 := hc 0 (by omega)
      have q1 := hc 1 (by omega)
      have q2 := hc 2 (by omega)
      have q3 := hc 3 (by omega)
      have q4 := hc 4 (by omega)
      have q5 := hc 5 (by omega)
      have q6 := hc 6 (by omega)
      have q7 := hc 7 (by omega)
      have q8 := hc 8 (by omega)
      have q9 := hc 9 (by omega)
      simp only [PMen.cells, hbt, Nat.add_zero, List.getElem?_cons_zero, List.getElem?_cons_succ] at q0 q1 q2 q3 q4 q5 q6 q7 q8 q9
      obtain ⟨hnum, hts⟩ := hmts _ (List.getElem_mem hlkk)
      obtain ⟨gr, capr, hvr, hbgr, hglr, hncr, hcmr, hcr⟩ := row_at pr_len hinv.rules.row ms[k].1.num hnum
      injection hvr with h4 h5 h6
      subst h4 h6
      have r0 := hcr 0 (by omega)
      simp only [PR.cells, Nat.add_zero, List.getElem?_cons_zero] at r0
      obtain ⟨x0, xf0⟩ := block_cells hinv.box 0
      have bA := (Below.refl wr.heap.size wr).alloc (Nat.le_refl _) (.cells #[.int .i64 ms[k].1.num, .bool ms[k].1.neg, .string ms[k].1.pd, .slice at1 ms[k].1.ts.length ct1, .int .i64 ms[k].1.start, .int .i64 ms[k].1.place, .int .i64 (ms[k].1.pl 0), .int .i64 (ms[k].1.pl 1), .int .i64 (ms[k].1.pl 2), .int .i64 (ms[k].1.pl 3)] 221)
      have hI := hinv.next bA
      have hL := hlk.below bA
      have hhd : headAt (rs.map (·.R)) ms[k].1.num = rs[ms[k].1.num].R.pd := by
        unfold headAt
        rw [List.getElem?_map, List.getElem?_eq_getElem hnum]
        rfl
      have hp8 := hmpd _ (List.getElem_mem hlkk)
      have hsz := hinv.sz
      have HI := hide hI
      clear hc hcr HF hinv hlk hI hbt bA
      have hcyc : cycM (rs.map (·.R)) ms[k].1 = (ms[k].1.neg && (ms[k].1.pd.toList == rs[ms[k].1.num].R.pd.toList || hangsP (edgesP (rs.map (·.R))) ms[k].1.pd rs[ms[k].1.num].R.pd)) := by unfold cycM; rw [hhd]
      rw [hcyc] at HF2
      clear hhd hcyc
      cases hneg : ms[k].1.neg with
      | false =>
        rw [hneg] at HF2 q1 HI
        have HF3 := hide (show cycleP (rs.map (·.R)) (ms.map (·.1)) = cycleP (rs.map (·.R)) ((ms.map (·.1)).drop (k + 1)) from unhide HF2)
        rw [hneg] at hL
        have HL := hide hL
        clear HF2 hneg hL
        go_wp2_with fail
        go_roundg (ms.length - (k + 1))
        case measure => omega
        case rel => exact ⟨k + 1, by omega, rfl, by go_num, unhide HI, unhide HL, unhide HF3⟩
      | true =>
        rw [hneg] at HF2 q1 HI hL
        have HN := hide hneg
        clear hneg
        cases heq : ms[k].1.pd.toList == rs[ms[k].1.num].R.pd.toList with
        | true =>
          rw [heq] at HF2
          have HF3 := hide (show cycleP (rs.map (·.R)) (ms.map (·.1)) = (ms[k].1.start : Int) from unhide HF2)
          clear HF2 hL
          go_wp2_with fail
          go_ret2
          refine ⟨?_, (unhide HI).below⟩
          rw [unhide HF3]
          unfold found
          rw [if_pos (by omega)]
          simp
        | false =>
          rw [heq] at HF2
          go_wp2_with fail
          refine (hangs_p_any _ (w.heap.size + 1) _ (edgesP (rs.map (·.R))) V ms[k].1.pd rs[ms[k].1.num].R.pd hL hEl hE8 hp8).mono ?_
          rintro e w2 ⟨rfl, hb2⟩
          have hz2 := hb2.size
          rw [World.size_alloc] at hz2
          have hmn : (wr.alloc (.cells #[.int .i64 ms[k].1.num, .bool true, .string ms[k].1.pd, .slice at1 ms[k].1.ts.length ct1, .int .i64 ms[k].1.start, .int .i64 ms[k].1.place, .int .i64 (ms[k].1.pl 0), .int .i64 (ms[k].1.pl 1), .int .i64 (ms[k].1.pl 2), .int .i64 (ms[k].1.pl 3)] 221)).heap[wr.heap.size]? = _ := heap_alloc_new wr _
          have hmn2 := (hb2.block wr.heap.size (by simp)).trans hmn
          obtain ⟨z4, zf4⟩ := block_cells hmn2 4
          have HI2 := hide ((unhide HI).next hb2)
          have HL2 := hide (hL.below hb2)
          clear q0 q1 q2 q3 q4 q5 q6 q7 q8 q9 r0 x0 xf0 hL HI hmn hmn2
          cases hh : hangsP (edgesP (rs.map (·.R))) ms[k].1.pd rs[ms[k].1.num].R.pd with
          | true =>
            rw [hh] at HF2
            have HF3 := hide (show cycleP (rs.map (·.R)) (ms.map (·.1)) = (ms[k].1.start : Int) from unhide HF2)
            clear HF2 hh
            go_wp2_with fail
            go_ret2
            refine ⟨?_, (unhide HI2).below⟩
            rw [unhide HF3]
            unfold found
            rw [if_pos (by omega)]
            simp
          | false =>
            rw [hh] at HF2
            have HF3 := hide (show cycleP (rs.map (·.R)) (ms.map (·.1)) = cycleP (rs.map (·.R)) ((ms.map (·.1)).drop (k + 1)) from unhide HF2)
            clear HF2 hh z4 zf4
            go_wp2_with fail
            go_roundg (ms.length - (k + 1))
            case measure => omega
            case rel => exact ⟨k + 1, by omega, rfl, by go_num, unhide HI2, unhide HL2, unhide HF3⟩
    · have HF2 := hide (show cycleP (rs.map (·.R)) (ms.map (·.1)) = -1 by rw [unhide HF, List.drop_of_length_le (by simp; omega)]; rfl)
      have HI := hide hinv
      clear HF hinv hlk
      go_wp2_with fail
      go_ret2
      exact ⟨by rw [unhide HF2]; rfl, (unhide HI).below⟩
end Go.Proofs.YtldkpahaocjdpaaGreat

namespace Go.Proofs.YtldkpahaocjdpaaGreat

theorem pterms_len (s : ByteArray) (f : Nat) : ∀ {p : Nat} {l : List (Bool × ByteArray)} {pl : Nat → Nat}, (ptermsS s f p l pl).2.2.1.length ≤ l.length + f := by
  induction f with
  | zero => intro p l pl; simp [ptermsS]
  | succ f ih =>
    intro p l pl
    rw [ptermsS]
    split
    · split
      · refine Nat.le_trans ih ?_; first | (simp; done) | (simp; omega)
      · first | (simp; done) | (simp; omega)
    · first | (simp; done) | (simp; omega)

theorem patom_ok {s : ByteArray} {p q : Nat} {pd : ByteArray} {ts : List (Bool × ByteArray)} {pl : Nat → Nat} (h : patomS s p = .yes q pd ts pl) : pd.size ≤ s.size ∧ ts.length ≤ 4 := by
  unfold patomS at h
  by_cases c1 : (scanK s p).1 = 2
  · rw [if_pos c1] at h
    by_cases c2 : (scanK s (scanK s p).2.2).1 = 5
    · rw [if_pos c2] at h
      by_cases c3 : (ptermsS s 4 (scanK s (scanK s p).2.2).2.2 [] (fun _ => 0)).1 = true
      · rw [if_pos c3] at h
        injection h with h1 h2 h3 h4
        subst h2 h3
        refine ⟨rword_size s p, ?_⟩
        have := pterms_len s 4 (p := (scanK s (scanK s p).2.2).2.2) (l := []) (pl := fun _ => 0)
        simpa using this
      · rw [if_neg c3] at h; cases h
    · rw [if_neg c2] at h
      injection h with h1 h2 h3 h4
      subst h2 h3
      exact ⟨rword_size s p, by simp⟩
  · rw [if_neg c1] at h; cases h

def OkM (s : ByteArray) (M : PMen) : Prop := M.pd.size ≤ s.size ∧ M.ts.length ≤ 4
def OkL (s : ByteArray) (L : PLit) : Prop := L.pd.size ≤ s.size
def OkR (s : ByteArray) (R : PRule) : Prop := R.pd.size ≤ s.size ∧ R.body.length ≤ 3 ∧ ∀ l ∈ R.body, OkL s l

theorem pbody_ok (s : ByteArray) (num : Nat) (f : Nat) : ∀ {p : Nat} {l : List PLit} {ms : List PMen}, (∀ x ∈ l, OkL s x) → (∀ M ∈ ms, OkM s M) → (pbodyS s num f p l ms).2.2.1.length ≤ l.length + f ∧ (∀ x ∈ (pbodyS s num f p l ms).2.2.1, OkL s x) ∧ (∀ M ∈ (pbodyS s num f p l ms).2.2.2, OkM s M) := by
  induction f with
  | zero => intro p l ms hl hm; exact ⟨by simp [pbodyS], hl, hm⟩
  | succ f ih =>
    intro p l ms hl hm
    rw [pbodyS]
    cases hr : patomS s (rtake s p 4) with
    | no q => exact ⟨by simp, hl, hm⟩
    | yes q pd ts pl =>
      obtain ⟨o1, o2⟩ := patom_ok hr
      have hl' : ∀ x ∈ l ++ [plitOf s p pd ts], OkL s x := fun x hx => by
        rcases List.mem_append.1 hx with hx | hx
        · exact hl x hx
        · simp at hx; subst hx; exact o1
      have hm' : ∀ M ∈ ms ++ [pmenOf s num p pd ts pl], OkM s M := fun x hx => by
        rcases List.mem_append.1 hx with hx | hx
        · exact hm x hx
        · simp at hx; subst hx; exact ⟨o1, o2⟩
      simp only
      split
      · obtain ⟨a, b, c⟩ := ih (p := (scanK s q).2.2) hl' hm'
        refine ⟨Nat.le_trans a ?_, b, c⟩
        first | (simp; done) | (simp; omega)
      · exact ⟨by first | (simp; done) | (simp; omega), hl', hm'⟩

theorem prule_ok (s : ByteArray) (num p : Nat) {ms : List PMen} (hm : ∀ M ∈ ms, OkM s M) : OkR s (pruleS s num p ms).2.2.1 ∧ ∀ M ∈ (pruleS s num p ms).2.2.2, OkM s M := by
  unfold pruleS
  cases hr : patomS s p with
  | no q => exact ⟨⟨Nat.zero_le _, by simp, by simp⟩, hm⟩
  | yes q pd ts pl =>
    obtain ⟨o1, o2⟩ := patom_ok hr
    have hm' : ∀ M ∈ ms ++ [phead s num p pd ts pl], OkM s M := fun x hx => by
      rcases List.mem_append.1 hx with hx | hx
      · exact hm x hx
      · simp at hx; subst hx; exact ⟨o1, o2⟩
    simp only
    split
    · exact ⟨⟨o1, by simp, by simp⟩, hm'⟩
    · split
      · obtain ⟨a, b, c⟩ := pbody_ok s num 3 (p := (scanK s q).2.2) (l := []) (by simp) hm'
        exact ⟨⟨o1, by simpa using a, b⟩, c⟩
      · exact ⟨⟨o1, by simp, by simp⟩, hm'⟩

theorem prules_ok (s : ByteArray) (f : Nat) : ∀ {p : Nat} {rs : List PRule} {ms : List PMen}, (∀ R ∈ rs, OkR s R) → (∀ M ∈ ms, OkM s M) → (∀ R ∈ (prulesS s f p rs ms).2.2.1, OkR s R) ∧ (∀ M ∈ (prulesS s f p rs ms).2.2.2, OkM s M) := by
  induction f with
  | zero => intro p rs ms hr hm; exact ⟨hr, hm⟩
  | succ f ih =>
    intro p rs ms hr hm
    obtain ⟨o1, o2⟩ := prule_ok s rs.length p hm
    rw [prulesS]
    split
    · exact ⟨hr, hm⟩
    · split
      · exact ⟨hr, hm⟩
      · split
        · refine ih (fun R hR => ?_) o2
          rcases List.mem_append.1 hR with hR | hR
          · exact hr R hR
          · simp at hR; subst hR; exact o1
        · exact ⟨hr, o2⟩

theorem text_num {n : Nat} {rs : List RRule} {ms : List PMen} (h : TextRel n rs ms) : ∀ M ∈ ms, n ≤ M.num ∧ M.num < n + rs.length := by
  induction h with
  | nil n => simp
  | cons h t ih =>
    intro M hM
    rcases List.mem_append.1 hM with hM | hM
    · obtain ⟨q, _, q2, q3⟩ := h
      rw [← q2] at hM
      obtain ⟨x, hx, rfl⟩ := List.mem_map.1 hM
      have := (q3 x hx).num
      simp; omega
    · have := ih M hM
      simp; omega

/-- The bounds, all together. -/
theorem pparsed_ok (s : ByteArray) (hs : s.size ≤ 800) (h : (pparsed s).1 = true) : (∀ R ∈ (pparsed s).2.2.1, R.pd.size ≤ 800 ∧ R.body.length ≤ 3 ∧ ∀ l ∈ R.body, l.pd.size ≤ 800) ∧ (∀ M ∈ (pparsed s).2.2.2, M.pd.size ≤ 800 ∧ M.ts.length ≤ 4 ∧ M.num < (pparsed s).2.2.1.length) := by
  obtain ⟨o1, o2⟩ := prules_ok s 31 (p := 0) (rs := []) (ms := []) (by simp) (by simp)
  obtain ⟨_, e2, e3⟩ := (parsed_eq s).1 h
  refine ⟨fun R hR => ?_, fun M hM => ?_⟩
  · obtain ⟨a, b, c⟩ := o1 R hR
    exact ⟨Nat.le_trans a hs, b, fun l hl => Nat.le_trans (c l hl) hs⟩
  · obtain ⟨a, b⟩ := o2 M hM
    have := (text_num e3 M hM).2
    rw [e2]
    exact ⟨Nat.le_trans a hs, b, by simpa using this⟩
end Go.Proofs.YtldkpahaocjdpaaGreat
