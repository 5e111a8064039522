/-
  The program's reader: terms, behind the bracket: the plain text's terms (ReadTermsS), their places laid into the mention.
  The reference's parser: atom: what it answers is the plain text's atom (RefAtomS), its terms in a row of its own.
-/
import Derived.Test.YtldkpahaocjdpaaGreatLoadsT13
import Derived.Deep.DeepCutAuto
import Derived.Test.YtldkpahaocjdpaaGreatLoadsT12
namespace Go.Proofs.YtldkpahaocjdpaaGreat
open Go.RowKit

theorem infoTermI : (Tryz.prog.info? 191).map (fun i => (i.zero, i.size, i.bytes)) = some (some .nilIface, 1, 16) := by kernel_rfl

theorem pt_cell (w1 : World) (v : Value) : ∀ j u, ([v] : List Value)[j]? = some u → (w1.alloc (.cells #[v] 191)).cell? ((⟨w1.heap.size, 0, none⟩ : Addr).add j) = some u := by
  intro j u hj
  have e : (⟨w1.heap.size, 0, none⟩ : Addr).add j = ⟨w1.heap.size, j, none⟩ := by unfold Addr.add; split <;> simp_all
  rw [e, World.cell?_alloc_at _ _ _ _ rfl]
  simpa using hj
theorem pt_one (v : Bool) (t : ByteArray) : ∀ u ∈ [tmVal v t], u.oneCell' = true := by
  intro u hu; simp at hu; subst hu; rfl

set_option maxRecDepth 100000 in
set_option maxHeartbeats 8000000 in
theorem terms_any (w : World) (b m : Nat) (s : ByteArray) (pos num : Nat) (mv : Value) (rn : Nat) (neg : Bool) (pd : ByteArray) (start place : Nat) (pl : Nat → Nat) (hr : Rdr w b s pos num mv) (hm : MCells w m rn neg pd (.slice none 0 0) start place pl) (hbm : b ≠ m) (hpos : pos ≤ s.size) (hs : s.size ≤ 800) :
    Calls Tryz.prog 144 #[.pointer (some ⟨b, 0, none⟩), .pointer (some ⟨m, 0, none⟩)] w fun e w' => e = .returned (.bool (ptermsS s 4 pos [] pl).1) ∧ ∃ tv, TInv w b m s num mv rn neg pd start place (ptermsS s 4 pos [] pl).2.2.1 (ptermsS s 4 pos [] pl).2.1 (ptermsS s 4 pos [] pl).2.2.2 tv w' := by
  obtain ⟨i0, hi, hz0, hz1, hz2⟩ := info_parts infoTermI
  have hsm : s.size ≤ maxLen := by unfold maxLen; omega
  have h0 : TInv w b m s num mv rn neg pd start place [] pos pl (.slice none 0 0) w := ⟨hr, hpos, hm, World.ownsRow_nil _ _ _ _, Kept.refl _ _, hbm, hr.lt, hm.lt⟩
  clear hr hm
  go_enter Tryz.func144, Tryz.ntmps144
  go_wp2_with fail
  go_loopg [5, 6, 7, 8] 5 (fun gg i5 t6 ok7 i8 wr => ∃ (l : List (Bool × ByteArray)) (p : Nat) (pl2 : Nat → Nat) (tv : Value), l.length ≤ 4 ∧ gg = 5 - l.length ∧ i8 = .int .i64 l.length ∧ TInv w b m s num mv rn neg pd start place l p pl2 tv wr ∧ ptermsS s 4 pos [] pl = ptermsS s (4 - l.length) p l pl2)
  case atStart => exact ⟨[], pos, pl, _, by simp, rfl, rfl, h0, rfl⟩
  case round =>
    clear h0
    obtain ⟨l, p, pl2, tv, hl4, hgg, rfl, hinv, hfin⟩ := hrel
    have HF := hide hfin
    clear hfin
    obtain ⟨a0, cap0, rfl⟩ := own_slice hinv.own
    by_cases hl : l.length < 4
    · have hl3 : (l.length : Int) < 4 := by omega
      have hstep : ptermsS s (4 - l.length) p l pl2 = ptermsS s ((3 - l.length) + 1) p l pl2 := by congr 1; omega
      have HF1 := hide ((unhide HF).trans (hstep.trans (by rw [ptermsS])))
      obtain ⟨hltp, c0, c1, c2, c3, c4, c5, fz⟩ := hinv.rdr
      have mcp := hinv.mc.cp l.length hl
      have mfz := hinv.mc.fz (6 + l.length)
      have hmw := hinv.mw
      have hpl := hinv.hp
      have HI := hide hinv
      clear HF hinv hstep
      go_upto_region 4 with fail
      go_cut [] (fun wc => TInv w b m s num mv rn neg pd start place l p (setPl pl2 l.length (scanK s p).2.1) (.slice a0 l.length cap0) wc)
      case first =>
        go_region
        all_goals
          go_wp2_with fail
          go_meet
          case rel => exact ((unhide HI).place l.length (scanK s p).2.1 hl).drew
      case rest =>
        have hinv := hcut
        clear hcut HI c0 c1 c2 c3 c4 c5 fz mcp mfz
        by_cases hk2 : (scanK s p).1 = 2
        · have hk := hk2
          clear hk2
          have HF2 := hide ((unhide HF1).trans (if_pos (Or.inl hk)))
          have hdk : decide ((scanK s p).1 = 3) = false := by rw [hk]; rfl
          go_wp2_with fail
          refine (term_name s p num mv b _ hinv.rdr hpl hs hk).mono ?_
          rintro e w1 ⟨rfl, hk1, hr1⟩
          have hp1 := (scan_le s p hpl).2
          have hinv1 := hinv.call hk1 hr1 hp1
          have d3 := hinv1.mc.c3
          have hown1 := hinv1.own
          have hmlt := hinv1.mc.lt
          rw [hdk] at HF2
          have HDK := hide hk
          clear HF1 hk1 hr1 hinv hk hdk
          unfold tmVal
          simp only [if_false, Bool.false_eq_true]
          go_wp2_with (at_builtin; refine wpList_append_own _ rfl _ _ 77 rfl w.heap.size 191 i0 _ 1 16 Tryz.underlying77 hi hz0 hz1 hz2 rfl (by decide) _ _ _ rfl (hown1.alloc _) ⟨w1.heap.size, 0, none⟩ 1 1 [tmVal false (rword s p)] rfl rfl (pt_cell w1 _) (pt_one _ _) (by unfold maxLen; omega) (by omega) (by have := hinv1.kept.size; simp; omega) ?_)
          intro v5 w5 hown5 hg5 hne5
          clear hne5
          obtain ⟨a5, cap5, rfl⟩ := own_slice hown5
          obtain ⟨hinv5, hmc5⟩ := hinv1.append (false, rword s p) hown5 hg5
          have e3 := hmc5.c3
          have ef := hmc5.fz 3
          clear hown5 hg5 d3 hown1 hinv1 hmc5
          go_wp2_with fail
          refine (rtake_any s _ num mv 7 b _ hinv5.rdr hp1 hsm).mono ?_
          rintro e w7 ⟨rfl, hk7, hr7⟩
          have hp2 := (scan_le s (scanK s p).2.2 hp1).2
          cases h7 : ((scanK s (scanK s p).2.2).1 == 7) with
          | true =>
            have h7' : (scanK s (scanK s p).2.2).1 = 7 := eq_of_beq h7
            have ht7 : rtake s (scanK s p).2.2 7 = (scanK s (scanK s p).2.2).2.2 := by unfold rtake; rw [if_pos h7]
            rw [ht7] at hr7
            have hinv7 := hinv5.call hk7 hr7 hp2
            have HF3 := hide ((unhide HF2).trans (if_pos h7'))
            clear hinv5 hk7 hr7 HF2 h7' ht7 e3 ef
            go_wp2_with fail
            go_roundg (5 - (l.length + 1))
            case measure => omega
            case rel => exact ⟨_, _, _, _, by simp; omega, by simp, by simp, hinv7, (unhide HF3).trans (by congr 1; first | (simp; done) | (simp; omega))⟩
          | false =>
            have h7' : ¬ (scanK s (scanK s p).2.2).1 = 7 := by intro e; rw [e] at h7; cases h7
            have ht7 : rtake s (scanK s p).2.2 7 = (scanK s p).2.2 := by unfold rtake; rw [if_neg (by rw [h7]; decide)]
            rw [ht7] at hr7
            have hinv7 := hinv5.call hk7 hr7 hp1
            have HF3 := hide ((unhide HF2).trans (if_neg h7'))
            clear hinv5 hk7 hr7 HF2 h7' ht7 e3 ef
            go_wp2_with fail
            refine (rtake_any s _ num mv 6 b _ hinv7.rdr hp1 hsm).mono ?_
            rintro e w8 ⟨rfl, hk8, hr8⟩
            have hinv8 := hinv7.call hk8 hr8 (by unfold rtake; split; exact hp2; exact hp1)
            clear hinv7 hk8 hr8
            go_wp2_with fail
            go_ret
            refine ⟨?_, _, by rw [unhide HF3]; exact hinv8⟩
            rw [unhide HF3]
            show Ending.returned (Value.bool ((scanK s (scanK s p).2.2).1 == 6)) = Ending.returned (Value.bool (decide ((scanK s (scanK s p).2.2).1 = 6)))
            rw [Bool.eq_iff_iff.2 (by simp : (((scanK s (scanK s p).2.2).1 == 6) = true ↔ decide ((scanK s (scanK s p).2.2).1 = 6) = true))]
        · by_cases hk3 : (scanK s p).1 = 3
          · have hk := hk3
            clear hk3 hk2
            have HF2 := hide ((unhide HF1).trans (if_pos (Or.inr hk)))
            have hdk : decide ((scanK s p).1 = 3) = true := by rw [hk]; rfl
            go_wp2_with fail
            refine (term_var s p num mv b _ hinv.rdr hpl hs hk).mono ?_
            rintro e w1 ⟨rfl, hk1, hr1⟩
            have hp1 := (scan_le s p hpl).2
            have hinv1 := hinv.call hk1 hr1 hp1
            have d3 := hinv1.mc.c3
            have hown1 := hinv1.own
            have hmlt := hinv1.mc.lt
            rw [hdk] at HF2
            have HDK := hide hk
            clear HF1 hk1 hr1 hinv hk hdk
            unfold tmVal
            simp only [if_true]
            go_wp2_with (at_builtin; refine wpList_append_own _ rfl _ _ 77 rfl w.heap.size 191 i0 _ 1 16 Tryz.underlying77 hi hz0 hz1 hz2 rfl (by decide) _ _ _ rfl (hown1.alloc _) ⟨w1.heap.size, 0, none⟩ 1 1 [tmVal true (rword s p)] rfl rfl (pt_cell w1 _) (pt_one _ _) (by unfold maxLen; omega) (by omega) (by have := hinv1.kept.size; simp; omega) ?_)
            intro v5 w5 hown5 hg5 hne5
            clear hne5
            obtain ⟨a5, cap5, rfl⟩ := own_slice hown5
            obtain ⟨hinv5, hmc5⟩ := hinv1.append (true, rword s p) hown5 hg5
            have e3 := hmc5.c3
            have ef := hmc5.fz 3
            clear hown5 hg5 d3 hown1 hinv1 hmc5
            go_wp2_with fail
            refine (rtake_any s _ num mv 7 b _ hinv5.rdr hp1 hsm).mono ?_
            rintro e w7 ⟨rfl, hk7, hr7⟩
            have hp2 := (scan_le s (scanK s p).2.2 hp1).2
            cases h7 : ((scanK s (scanK s p).2.2).1 == 7) with
            | true =>
              have h7' : (scanK s (scanK s p).2.2).1 = 7 := eq_of_beq h7
              have ht7 : rtake s (scanK s p).2.2 7 = (scanK s (scanK s p).2.2).2.2 := by unfold rtake; rw [if_pos h7]
              rw [ht7] at hr7
              have hinv7 := hinv5.call hk7 hr7 hp2
              have HF3 := hide ((unhide HF2).trans (if_pos h7'))
              clear hinv5 hk7 hr7 HF2 h7' ht7 e3 ef
              go_wp2_with fail
              go_roundg (5 - (l.length + 1))
              case measure => omega
              case rel => exact ⟨_, _, _, _, by simp; omega, by simp, by simp, hinv7, (unhide HF3).trans (by congr 1; first | (simp; done) | (simp; omega))⟩
            | false =>
              have h7' : ¬ (scanK s (scanK s p).2.2).1 = 7 := by intro e; rw [e] at h7; cases h7
              have ht7 : rtake s (scanK s p).2.2 7 = (scanK s p).2.2 := by unfold rtake; rw [if_neg (by rw [h7]; decide)]
              rw [ht7] at hr7
              have hinv7 := hinv5.call hk7 hr7 hp1
              have HF3 := hide ((unhide HF2).trans (if_neg h7'))
              clear hinv5 hk7 hr7 HF2 h7' ht7 e3 ef
              go_wp2_with fail
              refine (rtake_any s _ num mv 6 b _ hinv7.rdr hp1 hsm).mono ?_
              rintro e w8 ⟨rfl, hk8, hr8⟩
              have hinv8 := hinv7.call hk8 hr8 (by unfold rtake; split; exact hp2; exact hp1)
              clear hinv7 hk8 hr8
              go_wp2_with fail
              go_ret
              refine ⟨?_, _, by rw [unhide HF3]; exact hinv8⟩
              rw [unhide HF3]
              show Ending.returned (Value.bool ((scanK s (scanK s p).2.2).1 == 6)) = Ending.returned (Value.bool (decide ((scanK s (scanK s p).2.2).1 = 6)))
              rw [Bool.eq_iff_iff.2 (by simp : (((scanK s (scanK s p).2.2).1 == 6) = true ↔ decide ((scanK s (scanK s p).2.2).1 = 6) = true))]
          · have HF2 := hide ((unhide HF1).trans (if_neg (by intro h; rcases h with h | h; exact hk2 h; exact hk3 h)))
            clear HF1
            go_wp2_with fail
            refine (term_no s p num mv b _ hinv.rdr hpl hs hk2 hk3).mono ?_
            rintro e w1 ⟨rfl, hk1, hr1⟩
            have hinv1 := hinv.call hk1 hr1 hpl
            clear hk1 hr1 hinv hk2 hk3
            go_wp2_with fail
            go_ret
            exact ⟨by rw [unhide HF2]; rfl, _, by rw [unhide HF2]; exact hinv1⟩
    · have HF1 := hide (show ptermsS s 4 pos [] pl = (false, p, l, pl2) by rw [unhide HF, show 4 - l.length = 0 from by omega, ptermsS])
      have hl3 : ¬ (l.length : Int) < 4 := by omega
      clear HF
      go_wp2_with fail
      go_ret
      exact ⟨by rw [unhide HF1]; rfl, _, by rw [unhide HF1]; exact hinv⟩
end Go.Proofs.YtldkpahaocjdpaaGreat

namespace Go.Proofs.YtldkpahaocjdpaaGreat
open Go.RowKit

theorem infoTerm : (Tryz.prog.info? 317).map (fun i => (i.zero, i.size, i.bytes)) = some (some (.agg #[.string { data := #[] }, .bool false, .int .i64 0]), 3, 32) := by kernel_rfl

theorem field93 (x y z : Value) (w : World) : Sem.run Tryz.prog (Instr.field 233 (.agg #[x, y, z]) 1) w = .ok y w := by kernel_rfl

theorem term_cell (w1 : World) (o : Obj) (t : RTerm) (j : Nat) (u : Value) (h : t.cells[j]? = some u) : ((w1.alloc o).alloc (Obj.cells #[Value.string t.text, Value.bool t.isVar, Value.int IntKind.i64 ↑t.at_] 317)).cell? ((⟨w1.heap.size + 1, 0, none⟩ : Addr).add j) = some u := by
  have e : (⟨w1.heap.size + 1, 0, none⟩ : Addr).add j = ⟨w1.heap.size + 1, j, none⟩ := by unfold Addr.add; split <;> simp_all
  rw [e, World.cell?_alloc_at _ _ _ _ (by simp)]
  simpa [RTerm.cells] using h

theorem term_one (t : RTerm) : ∀ u ∈ t.cells, u.oneCell' = true := by
  intro u hu; simp [RTerm.cells] at hu; rcases hu with rfl | rfl | rfl <;> rfl

/-- AT THE LOOP: the start. -/
theorem atom_start {s : ByteArray} {pos : Nat} {b : Nat} {w w1 w2 : World} {p3 : Nat} {b3 : Int} (hlt : b < w.heap.size) (hp3 : p3 ≤ s.size)
    (hk1 : Kept [b] ((w.alloc (Obj.cells #[Value.string { data := #[] }, Value.slice none 0 0, Value.bool false, Value.int IntKind.i64 0, Value.int IntKind.i64 0] 243)).alloc (Obj.cells #[Value.string { data := #[] }, Value.slice none 0 0, Value.bool false, Value.int IntKind.i64 ↑(tok s pos).at_, Value.int IntKind.i64 0] 243)) w1)
    (hk2 : Kept [b] (w1.setCell ⟨w.heap.size + 1, 0, none⟩ (.string (tok s pos).text)) w2) (hp2 : Pars w2 b s p3 b3) : AtomInv w b s (tok s pos).text (tok s pos).at_ [] p3 b3 (.slice none 0 0) w2 := by
  have hz1 := hk1.size
  have hz2 := hk2.size
  simp at hz1 hz2
  have hx : Kept [b] w w2 := (((((Kept.refl [b] w).alloc _).alloc _).trans hk1).setCell (.inr (by simp)) _).trans hk2
  refine ⟨hp2, hp3, hx, ?_, ?_, by omega, World.ownsRow_nil _ _ _ _, hlt⟩
  · have a1 : ACells w1 (w.heap.size + 1) { data := #[] } (.slice none 0 0) false (tok s pos).at_ 0 := by
      refine ACells.kept ⟨?_, ?_, ?_, ?_, ?_, ?_⟩ hk1 (by simp) (by simp; omega)
      all_goals first | (rw [World.cell?_alloc_at _ _ _ _ (by simp)]; rfl) | (intro o; rw [World.frozen?_alloc_at _ _ _ _ (by simp)])
    have a2 : ACells (w1.setCell ⟨w.heap.size + 1, 0, none⟩ (.string (tok s pos).text)) (w.heap.size + 1) (tok s pos).text (.slice none 0 0) false (tok s pos).at_ 0 := by
      obtain ⟨x0, x1, x2, x3, x4, xf⟩ := a1
      exact ⟨by go_simp, by go_simp, by go_simp, by go_simp, by go_simp, by go_simp⟩
    exact a2.kept hk2 (by simp; omega) (by simp; omega)
  · have a1 : ACells w1 w.heap.size { data := #[] } (.slice none 0 0) false 0 0 := by
      refine ACells.kept ⟨?_, ?_, ?_, ?_, ?_, ?_⟩ hk1 (by simp; omega) (by simp; omega)
      all_goals first | (rw [World.cell?_alloc_past _ _ _ (by simp), World.cell?_alloc_at _ _ _ _ rfl]; rfl) | (intro o; rw [World.frozen?_alloc_past _ _ _ (by simp), World.frozen?_alloc_at _ _ _ _ rfl])
    exact (a1.kept ((Kept.refl [w.heap.size + 1] _).setCell (by simp) _) (by omega) (by simp)).kept hk2 (by simp; omega) (by simp; omega)
end Go.Proofs.YtldkpahaocjdpaaGreat
