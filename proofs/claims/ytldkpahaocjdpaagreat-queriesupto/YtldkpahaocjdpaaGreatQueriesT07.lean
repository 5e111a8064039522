/-
  The program's reader: terms, behind the bracket: the plain text's terms (ReadTermsS), their places laid into the mention.
  The reference's parser: atom: what it answers is the plain text's atom (RefAtomS), its terms in a row of its own.
  The reference's parser: atom, where a name comes next: what it answers is the plain text's atom (RefAtomS), its terms in a row of its own.
-/
import Derived.Test.YtldkpahaocjdpaaGreatQueriesT06
import Derived.Deep.DeepCutAuto
set_option maxHeartbeats 16000000
namespace Go.Proofs.YtldkpahaocjdpaaGreat
section
open Go.RowKit
theorem zoj : (Tryz.prog.info? 191).map (fun i => (i.zero, i.size, i.bytes)) = some (some .nilIface, 1, 16) := by kernel_rfl
theorem zqb (w1 : World) (v : Value) : ∀ j u, ([v] : List Value)[j]? = some u → (w1.alloc (.cells #[v] 191)).cell? ((⟨w1.heap.size, 0, none⟩ : Addr).add j) = some u := by
 intro j u hj
 have e : (⟨w1.heap.size, 0, none⟩ : Addr).add j = ⟨w1.heap.size, j, none⟩ := by unfold Addr.add; split <;> simp_all
 rw [e, World.cell?_alloc_at _ _ _ _ rfl]
 simpa using hj
theorem pt_one (v : Bool) (t : ByteArray) : ∀ u ∈ [zfv v t], u.oneCell' = true := by
 intro u hu; simp at hu; subst hu; rfl
set_option maxRecDepth 100000 in
theorem zoo (w : World) (b m : Nat) (s : ByteArray) (pos num : Nat) (mv : Value) (rn : Nat) (neg : Bool) (pd : ByteArray) (start place : Nat) (pl : Nat → Nat) (hr : Rdr w b s pos num mv) (hm : MCells w m rn neg pd (.slice none 0 0) start place pl) (hbm : b ≠ m) (hpos : pos ≤ s.size) (hs : s.size ≤ 2000000) :
  Calls Tryz.prog 144 #[.pointer (some ⟨b, 0, none⟩), .pointer (some ⟨m, 0, none⟩)] w fun e w' => e = .returned (.bool (zat s 4 pos [] pl).1) ∧ ∃ tv, TInv w b m s num mv rn neg pd start place (zat s 4 pos [] pl).2.2.1 (zat s 4 pos [] pl).2.1 (zat s 4 pos [] pl).2.2.2 tv w' := by
 obtain ⟨i0, hi, hz0, hz1, hz2⟩ := info_parts zoj
 have hsm : s.size ≤ maxLen := by unfold maxLen; omega
 have h0 : TInv w b m s num mv rn neg pd start place [] pos pl (.slice none 0 0) w := ⟨hr, hpos, hm, World.ownsRow_nil _ _ _ _, Kept.refl _ _, hbm, hr.lt, hm.lt⟩
 clear hr hm
 go_enter Tryz.func144, Tryz.ntmps144
 go_wp2_with fail
 go_loopg [5, 6, 7, 8] 5 (fun gg i5 t6 ok7 i8 wr => ∃ (l : List (Bool × ByteArray)) (p : Nat) (pl2 : Nat → Nat) (tv : Value), l.length ≤ 4 ∧ gg = 5 - l.length ∧ i8 = .int .i64 l.length ∧ TInv w b m s num mv rn neg pd start place l p pl2 tv wr ∧ zat s 4 pos [] pl = zat s (4 - l.length) p l pl2)
 case atStart => exact ⟨[], pos, pl, _, by simp, rfl, rfl, h0, rfl⟩
 case round =>
  clear h0
  obtain ⟨l, p, pl2, tv, hl4, hgg, rfl, hinv, hfin⟩ := hrel
  have HF := hide hfin
  clear hfin
  obtain ⟨a0, cap0, rfl⟩ := zac hinv.own
  by_cases hl : l.length < 4
  ·have hl3 : (l.length : Int) < 4 := by omega
   have hstep : zat s (4 - l.length) p l pl2 = zat s ((3 - l.length) + 1) p l pl2 := by congr 1; omega
   have HF1 := hide ((zaa HF).trans (hstep.trans (by rw [zat])))
   obtain ⟨hltp, c0, c1, c2, c3, c4, c5, fz⟩ := hinv.rdr
   have mcp := hinv.mc.cp l.length hl
   have mfz := hinv.mc.fz (6 + l.length)
   have hmw := hinv.mw
   have hpl := hinv.hp
   have HI := hide hinv
   clear HF hinv hstep
   go_upto_region 4 with fail
   go_cut [] (fun wc => TInv w b m s num mv rn neg pd start place l p (setPl pl2 l.length (zae s p).2.1) (.slice a0 l.length cap0) wc)
   case first =>
    go_region
    all_goals
     go_wp2_with fail
     go_meet
     case rel => exact ((zaa HI).place l.length (zae s p).2.1 hl).drew
   case rest =>
    have hinv := hcut
    clear hcut HI c0 c1 c2 c3 c4 c5 fz mcp mfz
    by_cases hk2 : (zae s p).1 = 2
    ·have hk := hk2
     clear hk2
     have HF2 := hide ((zaa HF1).trans (if_pos (Or.inl hk)))
     have hdk : decide ((zae s p).1 = 3) = false := by rw [hk]; rfl
     go_wp2_with fail
     refine (term_name s p num mv b _ hinv.rdr hpl hs hk).mono ?_
     rintro e w1 ⟨rfl, hk1, hr1⟩
     have hp1 := (zbs s p hpl).2
     have hinv1 := hinv.call hk1 hr1 hp1
     have d3 := hinv1.mc.c3
     have hown1 := hinv1.own
     have hmlt := hinv1.mc.lt
     rw [hdk] at HF2
     have HDK := hide hk
     clear HF1 hk1 hr1 hinv hk hdk
     unfold zfv
     simp only [if_false, Bool.false_eq_true]
     go_wp2_with (at_builtin; refine wpList_append_own _ rfl _ _ 77 rfl w.heap.size 191 i0 _ 1 16 Tryz.underlying77 hi hz0 hz1 hz2 rfl (by decide) _ _ _ rfl (hown1.alloc _) ⟨w1.heap.size, 0, none⟩ 1 1 [zfv false (zbp s p)] rfl rfl (zqb w1 _) (pt_one _ _) (by unfold maxLen; omega) (by omega) (by have := hinv1.kept.size; simp; omega) ?_)
     intro v5 w5 hown5 hg5 hne5
     clear hne5
     obtain ⟨a5, cap5, rfl⟩ := zac hown5
     obtain ⟨hinv5, hmc5⟩ := hinv1.append (false, zbp s p) hown5 hg5
     have e3 := hmc5.c3
     have ef := hmc5.fz 3
     clear hown5 hg5 d3 hown1 hinv1 hmc5
     go_wp2_with fail
     refine (zbm s _ num mv 7 b _ hinv5.rdr hp1 hsm).mono ?_
     rintro e w7 ⟨rfl, hk7, hr7⟩
     have hp2 := (zbs s (zae s p).2.2 hp1).2
     cases h7 : ((zae s (zae s p).2.2).1 == 7) with
     | true =>
      have h7' : (zae s (zae s p).2.2).1 = 7 := eq_of_beq h7
      have ht7 : za2 s (zae s p).2.2 7 = (zae s (zae s p).2.2).2.2 := by unfold za2; rw [if_pos h7]
      rw [ht7] at hr7
      have hinv7 := hinv5.call hk7 hr7 hp2
      have HF3 := hide ((zaa HF2).trans (if_pos h7'))
      clear hinv5 hk7 hr7 HF2 h7' ht7 e3 ef
      go_wp2_with fail
      go_roundg (5 - (l.length + 1))
      case measure => omega
      case rel => exact ⟨_, _, _, _, by simp; omega, by simp, by simp, hinv7, (zaa HF3).trans (by congr 1; first | (simp; done) | (simp; omega))⟩
     | false =>
      have h7' : ¬ (zae s (zae s p).2.2).1 = 7 := by intro e; rw [e] at h7; cases h7
      have ht7 : za2 s (zae s p).2.2 7 = (zae s p).2.2 := by unfold za2; rw [if_neg (by rw [h7]; decide)]
      rw [ht7] at hr7
      have hinv7 := hinv5.call hk7 hr7 hp1
      have HF3 := hide ((zaa HF2).trans (if_neg h7'))
      clear hinv5 hk7 hr7 HF2 h7' ht7 e3 ef
      go_wp2_with fail
      refine (zbm s _ num mv 6 b _ hinv7.rdr hp1 hsm).mono ?_
      rintro e w8 ⟨rfl, hk8, hr8⟩
      have hinv8 := hinv7.call hk8 hr8 (by unfold za2; split; exact hp2; exact hp1)
      clear hinv7 hk8 hr8
      go_wp2_with fail
      go_ret
      refine ⟨?_, _, by rw [zaa HF3]; exact hinv8⟩
      rw [zaa HF3]
      show Ending.returned (Value.bool ((zae s (zae s p).2.2).1 == 6)) = Ending.returned (Value.bool (decide ((zae s (zae s p).2.2).1 = 6)))
      rw [Bool.eq_iff_iff.2 (by simp : (((zae s (zae s p).2.2).1 == 6) = true ↔ decide ((zae s (zae s p).2.2).1 = 6) = true))]
    ·by_cases hk3 : (zae s p).1 = 3
     ·have hk := hk3
      clear hk3 hk2
      have HF2 := hide ((zaa HF1).trans (if_pos (Or.inr hk)))
      have hdk : decide ((zae s p).1 = 3) = true := by rw [hk]; rfl
      go_wp2_with fail
      refine (term_var s p num mv b _ hinv.rdr hpl hs hk).mono ?_
      rintro e w1 ⟨rfl, hk1, hr1⟩
      have hp1 := (zbs s p hpl).2
      have hinv1 := hinv.call hk1 hr1 hp1
      have d3 := hinv1.mc.c3
      have hown1 := hinv1.own
      have hmlt := hinv1.mc.lt
      rw [hdk] at HF2
      have HDK := hide hk
      clear HF1 hk1 hr1 hinv hk hdk
      unfold zfv
      simp only [if_true]
      go_wp2_with (at_builtin; refine wpList_append_own _ rfl _ _ 77 rfl w.heap.size 191 i0 _ 1 16 Tryz.underlying77 hi hz0 hz1 hz2 rfl (by decide) _ _ _ rfl (hown1.alloc _) ⟨w1.heap.size, 0, none⟩ 1 1 [zfv true (zbp s p)] rfl rfl (zqb w1 _) (pt_one _ _) (by unfold maxLen; omega) (by omega) (by have := hinv1.kept.size; simp; omega) ?_)
      intro v5 w5 hown5 hg5 hne5
      clear hne5
      obtain ⟨a5, cap5, rfl⟩ := zac hown5
      obtain ⟨hinv5, hmc5⟩ := hinv1.append (true, zbp s p) hown5 hg5
      have e3 := hmc5.c3
      have ef := hmc5.fz 3
      clear hown5 hg5 d3 hown1 hinv1 hmc5
      go_wp2_with fail
      refine (zbm s _ num mv 7 b _ hinv5.rdr hp1 hsm).mono ?_
      rintro e w7 ⟨rfl, hk7, hr7⟩
      have hp2 := (zbs s (zae s p).2.2 hp1).2
      cases h7 : ((zae s (zae s p).2.2).1 == 7) with
      | true =>
       have h7' : (zae s (zae s p).2.2).1 = 7 := eq_of_beq h7
       have ht7 : za2 s (zae s p).2.2 7 = (zae s (zae s p).2.2).2.2 := by unfold za2; rw [if_pos h7]
       rw [ht7] at hr7
       have hinv7 := hinv5.call hk7 hr7 hp2
       have HF3 := hide ((zaa HF2).trans (if_pos h7'))
       clear hinv5 hk7 hr7 HF2 h7' ht7 e3 ef
       go_wp2_with fail
       go_roundg (5 - (l.length + 1))
       case measure => omega
       case rel => exact ⟨_, _, _, _, by simp; omega, by simp, by simp, hinv7, (zaa HF3).trans (by congr 1; first | (simp; done) | (simp; omega))⟩
      | false =>
       have h7' : ¬ (zae s (zae s p).2.2).1 = 7 := by intro e; rw [e] at h7; cases h7
       have ht7 : za2 s (zae s p).2.2 7 = (zae s p).2.2 := by unfold za2; rw [if_neg (by rw [h7]; decide)]
       rw [ht7] at hr7
       have hinv7 := hinv5.call hk7 hr7 hp1
       have HF3 := hide ((zaa HF2).trans (if_neg h7'))
       clear hinv5 hk7 hr7 HF2 h7' ht7 e3 ef
       go_wp2_with fail
       refine (zbm s _ num mv 6 b _ hinv7.rdr hp1 hsm).mono ?_
       rintro e w8 ⟨rfl, hk8, hr8⟩
       have hinv8 := hinv7.call hk8 hr8 (by unfold za2; split; exact hp2; exact hp1)
       clear hinv7 hk8 hr8
       go_wp2_with fail
       go_ret
       refine ⟨?_, _, by rw [zaa HF3]; exact hinv8⟩
       rw [zaa HF3]
       show Ending.returned (Value.bool ((zae s (zae s p).2.2).1 == 6)) = Ending.returned (Value.bool (decide ((zae s (zae s p).2.2).1 = 6)))
       rw [Bool.eq_iff_iff.2 (by simp : (((zae s (zae s p).2.2).1 == 6) = true ↔ decide ((zae s (zae s p).2.2).1 = 6) = true))]
     ·have HF2 := hide ((zaa HF1).trans (if_neg (by intro h; rcases h with h | h; exact hk2 h; exact hk3 h)))
      clear HF1
      go_wp2_with fail
      refine (term_no s p num mv b _ hinv.rdr hpl hs hk2 hk3).mono ?_
      rintro e w1 ⟨rfl, hk1, hr1⟩
      have hinv1 := hinv.call hk1 hr1 hpl
      clear hk1 hr1 hinv hk2 hk3
      go_wp2_with fail
      go_ret
      exact ⟨by rw [zaa HF2]; rfl, _, by rw [zaa HF2]; exact hinv1⟩
  ·have HF1 := hide (show zat s 4 pos [] pl = (false, p, l, pl2) by rw [zaa HF, show 4 - l.length = 0 from by omega, zat])
   have hl3 : ¬ (l.length : Int) < 4 := by omega
   clear HF
   go_wp2_with fail
   go_ret
   exact ⟨by rw [zaa HF1]; rfl, _, by rw [zaa HF1]; exact hinv⟩
end
section
open Go.RowKit
theorem zm1 : (Tryz.prog.info? 317).map (fun i => (i.zero, i.size, i.bytes)) = some (some (.agg #[.string { data := #[] }, .bool false, .int .i64 0]), 3, 32) := by kernel_rfl
theorem field93 (x y z : Value) (w : World) : Sem.run Tryz.prog (Instr.field 233 (.agg #[x, y, z]) 1) w = .ok y w := by kernel_rfl
theorem zdm (w1 : World) (o : Obj) (t : RTerm) (j : Nat) (u : Value) (h : t.cells[j]? = some u) : ((w1.alloc o).alloc (Obj.cells #[Value.string t.text, Value.bool t.isVar, Value.int IntKind.i64 ↑t.at_] 317)).cell? ((⟨w1.heap.size + 1, 0, none⟩ : Addr).add j) = some u := by
 have e : (⟨w1.heap.size + 1, 0, none⟩ : Addr).add j = ⟨w1.heap.size + 1, j, none⟩ := by unfold Addr.add; split <;> simp_all
 rw [e, World.cell?_alloc_at _ _ _ _ (by simp)]
 simpa [RTerm.cells] using h
theorem zel (t : RTerm) : ∀ u ∈ t.cells, u.oneCell' = true := by
 intro u hu; simp [RTerm.cells] at hu; rcases hu with rfl | rfl | rfl <;> rfl
theorem zmk {s : ByteArray} {pos : Nat} {b : Nat} {w w1 w2 : World} {p3 : Nat} {b3 : Int} (hlt : b < w.heap.size) (hp3 : p3 ≤ s.size)
  (hk1 : Kept [b] ((w.alloc (Obj.cells #[Value.string { data := #[] }, Value.slice none 0 0, Value.bool false, Value.int IntKind.i64 0, Value.int IntKind.i64 0] 243)).alloc (Obj.cells #[Value.string { data := #[] }, Value.slice none 0 0, Value.bool false, Value.int IntKind.i64 ↑(tok s pos).at_, Value.int IntKind.i64 0] 243)) w1)
  (hk2 : Kept [b] (w1.setCell ⟨w.heap.size + 1, 0, none⟩ (.string (tok s pos).text)) w2) (hp2 : Pars w2 b s p3 b3) : AtomInv w b s (tok s pos).text (tok s pos).at_ [] p3 b3 (.slice none 0 0) w2 := by
 have hz1 := hk1.size
 have hz2 := hk2.size
 simp at hz1 hz2
 have hx : Kept [b] w w2 := (((((Kept.refl [b] w).alloc _).alloc _).trans hk1).setCell (.inr (by simp)) _).trans hk2
 refine ⟨hp2, hp3, hx, ?_, ?_, by omega, World.ownsRow_nil _ _ _ _, hlt⟩
 ·have a1 : ACells w1 (w.heap.size + 1) { data := #[] } (.slice none 0 0) false (tok s pos).at_ 0 := by
   refine ACells.kept ⟨?_, ?_, ?_, ?_, ?_, ?_⟩ hk1 (by simp) (by simp; omega)
   all_goals first | (rw [World.cell?_alloc_at _ _ _ _ (by simp)]; rfl) | (intro o; rw [World.frozen?_alloc_at _ _ _ _ (by simp)])
  have a2 : ACells (w1.setCell ⟨w.heap.size + 1, 0, none⟩ (.string (tok s pos).text)) (w.heap.size + 1) (tok s pos).text (.slice none 0 0) false (tok s pos).at_ 0 := by
   obtain ⟨x0, x1, x2, x3, x4, xf⟩ := a1
   exact ⟨by go_simp, by go_simp, by go_simp, by go_simp, by go_simp, by go_simp⟩
  exact a2.kept hk2 (by simp; omega) (by simp; omega)
 ·have a1 : ACells w1 w.heap.size { data := #[] } (.slice none 0 0) false 0 0 := by
   refine ACells.kept ⟨?_, ?_, ?_, ?_, ?_, ?_⟩ hk1 (by simp; omega) (by simp; omega)
   all_goals first | (rw [World.cell?_alloc_past _ _ _ (by simp), World.cell?_alloc_at _ _ _ _ rfl]; rfl) | (intro o; rw [World.frozen?_alloc_past _ _ _ (by simp), World.frozen?_alloc_at _ _ _ _ rfl])
  exact (a1.kept ((Kept.refl [w.heap.size + 1] _).setCell (by simp) _) (by omega) (by simp)).kept hk2 (by simp; omega) (by simp; omega)
end
section
open Go.RowKit
set_option maxRecDepth 100000 in
theorem atom_name (s : ByteArray) (pos : Nat) (bad : Int) (b : Nat) (w : World) (h : Pars w b s pos bad) (hpos : pos ≤ s.size) (hs : s.size ≤ maxLen) (hk' : ((tok s pos).kind != 110) = false) :
  Calls Tryz.prog 184 #[.pointer (some ⟨b, 0, none⟩)] w fun e w' => ∃ v, e = .returned (.agg #[.string (tok s pos).text, v, .bool false, .int .i64 (tok s pos).at_, .int .i64 0]) ∧ Kept [b] w w' ∧ Pars w' b s (zag s pos bad).2.1 (zag s pos bad).2.2 ∧ (zag s pos bad).2.1 ≤ s.size ∧ w'.ownsRow w.heap.size 317 3 v (zag s pos bad).1.length (cellsOf (zag s pos bad).1) := by
 obtain ⟨i0, hi, hz0, hz1, hz2⟩ := info_parts zm1
 have f93 := field93
 have h' := h
 obtain ⟨hlt, c0, c1, c2, c3, c4, c5, fz⟩ := h
 have hB : zaq s pos bad = bad := by simp [zaq, hk']
 go_enter Tryz.func184, Tryz.ntmps184
 have HB := hide hB
 clear hB
 go_wp2_with fail
 have hpw : Pars ((w.alloc (Obj.cells #[Value.string { data := #[] }, Value.slice none 0 0, Value.bool false, Value.int IntKind.i64 0, Value.int IntKind.i64 0] 243)).alloc (Obj.cells #[Value.string { data := #[] }, Value.slice none 0 0, Value.bool false, Value.int IntKind.i64 ↑(tok s pos).at_, Value.int IntKind.i64 0] 243)) b s pos (zaq s pos bad) := by
  rw [zaa HB]; exact h'.kept (((Kept.refl [] _).alloc _).alloc _) (by simp)
 refine (zcv s pos (zaq s pos bad) b _ hpw hpos hs).mono ?_
 rintro e w1 ⟨rfl, hk1, hp1⟩
 unfold zb0
 obtain ⟨r1, r2⟩ := hk1.rules
 have hz : w.heap.size + 1 < w1.heap.size := by have := hk1.size; simp at this; omega
 go_wp2_with fail
 clear f93
 refine (zds s _ _ _ b _ (hp1.kept ((Kept.refl [w.heap.size + 1] _).setCell (by simp) _) (by simp; omega)) (zam _ _ _ hpos) hs).mono ?_
 rintro e w2 ⟨rfl, hk2, hp2⟩
 have hst := zmk hlt (zcd (zam _ _ _ hpos)) hk1 hk2 hp2
 have hrest : zag s pos bad = if isS s (zao s pos (zaq s pos bad)) (zan s pos (zaq s pos bad)) { data := #[40] } then zcw s 5 (zbz s (zao s pos (zaq s pos bad)) (zan s pos (zaq s pos bad)) { data := #[40] }) (zb9 s (zao s pos (zaq s pos bad)) (zan s pos (zaq s pos bad)) { data := #[40] }) [] else ([], zbz s (zao s pos (zaq s pos bad)) (zan s pos (zaq s pos bad)) { data := #[40] }, zb9 s (zao s pos (zaq s pos bad)) (zan s pos (zaq s pos bad)) { data := #[40] }) := rfl
 clear hk1 hk2 hp1 hp2 r1 r2 c0 c1 c2 c3 c4 c5 fz h' HB hk' hz
 generalize zbz s (zao s pos (zaq s pos bad)) (zan s pos (zaq s pos bad)) { data := #[40] } = p3 at *
 generalize zb9 s (zao s pos (zaq s pos bad)) (zan s pos (zaq s pos bad)) { data := #[40] } = b3 at *
 generalize isS s (zao s pos (zaq s pos bad)) (zan s pos (zaq s pos bad)) { data := #[40] } = o3 at *
 have HR := hide hrest
 clear hrest
 go_wp2_with fail
 go_loopg [4] 7 (fun g op wr => ∃ (l : List RTerm) (p : Nat) (bd : Int) (o : Bool) (v : Value), op = .bool o ∧ (o = true → l.length ≤ 4) ∧ (if o then 7 - l.length else 0) ≤ g ∧ AtomInv w b s (tok s pos).text (tok s pos).at_ l p bd v wr ∧ zag s pos bad = (if o then zcw s (5 - l.length) p bd l else (l, p, bd)))
 case atStart => exact ⟨[], p3, b3, o3, _, rfl, by simp, by split <;> simp, hst, zaa HR⟩
 case round =>
  clear HR hst
  obtain ⟨l, p, bd, o, v, rfl, hl4, hg, hinv, hfin⟩ := hrel
  have HF := hide hfin
  clear hfin
  obtain ⟨a0, cap0, rfl⟩ := zac hinv.own
  have hpr' := hinv.pars
  have hpl := hinv.hp
  have hsz := hinv.sz
  cases o with
  | false =>
   obtain ⟨x0, x1, x2, x3, x4, xf⟩ := hinv.ac
   obtain ⟨y0, y1, y2, y3, y4, yf⟩ := hinv.rc
   clear hl4
   go_wp2_with fail
   obtain ⟨q0, q1, q2, q3, q4⟩ := set5 y0 y1 y2 y3 y4 (.string (tok s pos).text) (.slice a0 l.length cap0) (.bool false) (.int .i64 (tok s pos).at_) (.int .i64 0)
   have hend := hinv.ends (zn0 wr w.heap.size (.string (tok s pos).text) (.slice a0 l.length cap0) (.bool false) (.int .i64 (tok s pos).at_) (.int .i64 0))
   have hF : zag s pos bad = (l, p, bd) := zaa HF
   refine bodyPost_ret (v := .agg #[.string (tok s pos).text, .slice a0 l.length cap0, .bool false, .int .i64 (tok s pos).at_, .int .i64 0]) (by simp [results, Tryz.results184, go_sem, q0, q1, q2, q3, q4]) rfl ⟨.slice a0 l.length cap0, rfl, ?_⟩
   rw [hF]
   exact hend
  | true =>
   have hl4' : l.length ≤ 4 := hl4 rfl
   clear hl4
   have hst := zki s p bd l hl4'
   have HF2 := hide ((zaa HF).trans hst)
   clear HF hst
   have hlI : (l.length : Int) ≤ 4 := by omega
   obtain ⟨hltr, c0, c1, c2, c3, c4, c5, fz⟩ := hinv.pars
   obtain ⟨x0, x1, x2, x3, x4, xf⟩ := hinv.ac
   have five : (((tok s p).kind != 110) = true ∧ ((tok s p).kind != 118) = true ∧ zal s p bd l.length = zdz s p bd) ∨
     (((tok s p).kind != 110) = false ∧ ((l.length : Int) == 4) = true ∧ zal s p bd l.length = zdz s p bd) ∨
     (((tok s p).kind != 110) = true ∧ ((tok s p).kind != 118) = false ∧ ((l.length : Int) == 4) = true ∧ zal s p bd l.length = zdz s p bd) ∨
     (((tok s p).kind != 110) = false ∧ ((l.length : Int) == 4) = false ∧ zal s p bd l.length = bd) ∨
     (((tok s p).kind != 110) = true ∧ ((tok s p).kind != 118) = false ∧ ((l.length : Int) == 4) = false ∧ zal s p bd l.length = bd) := zpt s p bd l
   rcases five with ⟨t1, t2, tb⟩ | ⟨t1, t2, tb⟩ | ⟨t1, t2, t3, tb⟩ | ⟨t1, t2, tb⟩ | ⟨t1, t2, t3, tb⟩
   ·skip
    have TB := hide tb
    clear tb
    go_wp2_with fail
    refine (zd6 s p bd b _ hpr').mono ?_
    rintro e w0 ⟨rfl, hk0, hp0⟩
    rw [← zaa TB] at hp0
    have hinv0 := hinv.call hk0 hp0 hpl
    clear hk0 hp0 c0 c1 c2 c3 c4 c5 fz x0 x1 x2 x3 x4 xf
    go_wp2_with fail
    refine (zcv s p (zal s p bd l.length) b _ hinv0.pars hpl hs).mono ?_
    rintro e w1 ⟨rfl, hk1, hp1⟩
    unfold zb0
    have hinv1 := hinv0.call hk1 hp1 (zam _ _ _ hpl)
    have hb2 : w.heap.size + 1 < w1.heap.size := by have := hinv1.sz; omega
    obtain ⟨d0, d1, d2, d3, d4, dfz⟩ := hinv1.ac
    have hown1 := hinv1.own
    clear hk1 hp1 hinv0
    go_wp2_with (at_builtin; refine wpList_append_own _ rfl _ _ 241 rfl (w.heap.size + 2) 317 i0 _ 3 32 Tryz.underlying241 hi hz0 hz1 hz2 rfl (by decide) _ _ _ rfl ((hown1.alloc _).alloc _) ⟨w1.heap.size + 1, 0, none⟩ 1 1 (zas s p).cells rfl rfl (zdm w1 _ (zas s p)) (zel _) (by unfold maxLen; omega) (by omega) (by simp; omega) ?_)
    intro v5 w5 hown5 hg5 hne5
    clear hne5
    obtain ⟨a5, cap5, rfl⟩ := zac hown5
    obtain ⟨hinv5, e0, e1, e2, e3, e4, efz⟩ := hinv1.append (zas s p) hown5 hg5
    have hb5 : w.heap.size + 1 < w5.heap.size := by have := hinv5.sz; simp at this; omega
    clear hown5 hg5 d0 d1 d2 d3 d4 dfz hown1 hinv1
    go_wp2_with fail
    refine (zds s _ _ _ b _ hinv5.pars (zam _ _ _ hpl) hs).mono ?_
    rintro e w7 ⟨rfl, hk7, hp7⟩
    have hinv7 := hinv5.call hk7 hp7 (zcd (zam _ _ _ hpl))
    clear hk7 hp7 hinv5 e0 e1 e2 e3 e4 efz hb5
    cases hm : isS s (zao s p (zal s p bd l.length)) (zan s p (zal s p bd l.length)) { data := #[44] } with
    | true =>
     have HF3 := hide ((zaa HF2).trans (if_pos hm))
     have hml := zfm hl4' hm
     clear hm HF2
     go_wp2_with fail
     go_roundg (7 - (l ++ [zas s p]).length)
     case measure => simp at hg ⊢; omega
     case rel => exact ⟨l ++ [zas s p], _, _, true, _, rfl, fun _ => by simp; omega, by simp, hinv7, zaa HF3⟩
    | false =>
     have HF3 := hide ((zaa HF2).trans (if_neg (by rw [hm]; decide)))
     clear hm HF2
     go_wp2_with fail
     refine (zd8 s _ _ _ b _ hinv7.pars hinv7.hp hs).mono ?_
     rintro e w8 ⟨rfl, hk8, hp8⟩
     have hinv8 := hinv7.call hk8 hp8 (zam _ _ _ hinv7.hp)
     clear hk8 hp8 hinv7
     go_wp2_with fail
     go_roundg 0
     case measure => simp at hg ⊢; omega
     case rel => exact ⟨l ++ [zas s p], _, _, false, _, rfl, by simp, by simp, hinv8, zaa HF3⟩
   ·skip
    have TB := hide tb
    clear tb
    go_wp2_with fail
    refine (zd6 s p bd b _ hpr').mono ?_
    rintro e w0 ⟨rfl, hk0, hp0⟩
    rw [← zaa TB] at hp0
    have hinv0 := hinv.call hk0 hp0 hpl
    clear hk0 hp0 c0 c1 c2 c3 c4 c5 fz x0 x1 x2 x3 x4 xf
    go_wp2_with fail
    refine (zcv s p (zal s p bd l.length) b _ hinv0.pars hpl hs).mono ?_
    rintro e w1 ⟨rfl, hk1, hp1⟩
    unfold zb0
    have hinv1 := hinv0.call hk1 hp1 (zam _ _ _ hpl)
    have hb2 : w.heap.size + 1 < w1.heap.size := by have := hinv1.sz; omega
    obtain ⟨d0, d1, d2, d3, d4, dfz⟩ := hinv1.ac
    have hown1 := hinv1.own
    clear hk1 hp1 hinv0
    go_wp2_with (at_builtin; refine wpList_append_own _ rfl _ _ 241 rfl (w.heap.size + 2) 317 i0 _ 3 32 Tryz.underlying241 hi hz0 hz1 hz2 rfl (by decide) _ _ _ rfl ((hown1.alloc _).alloc _) ⟨w1.heap.size + 1, 0, none⟩ 1 1 (zas s p).cells rfl rfl (zdm w1 _ (zas s p)) (zel _) (by unfold maxLen; omega) (by omega) (by simp; omega) ?_)
    intro v5 w5 hown5 hg5 hne5
    clear hne5
    obtain ⟨a5, cap5, rfl⟩ := zac hown5
    obtain ⟨hinv5, e0, e1, e2, e3, e4, efz⟩ := hinv1.append (zas s p) hown5 hg5
    have hb5 : w.heap.size + 1 < w5.heap.size := by have := hinv5.sz; simp at this; omega
    clear hown5 hg5 d0 d1 d2 d3 d4 dfz hown1 hinv1
    go_wp2_with fail
    refine (zds s _ _ _ b _ hinv5.pars (zam _ _ _ hpl) hs).mono ?_
    rintro e w7 ⟨rfl, hk7, hp7⟩
    have hinv7 := hinv5.call hk7 hp7 (zcd (zam _ _ _ hpl))
    clear hk7 hp7 hinv5 e0 e1 e2 e3 e4 efz hb5
    cases hm : isS s (zao s p (zal s p bd l.length)) (zan s p (zal s p bd l.length)) { data := #[44] } with
    | true =>
     have HF3 := hide ((zaa HF2).trans (if_pos hm))
     have hml := zfm hl4' hm
     clear hm HF2
     go_wp2_with fail
     go_roundg (7 - (l ++ [zas s p]).length)
     case measure => simp at hg ⊢; omega
     case rel => exact ⟨l ++ [zas s p], _, _, true, _, rfl, fun _ => by simp; omega, by simp, hinv7, zaa HF3⟩
    | false =>
     have HF3 := hide ((zaa HF2).trans (if_neg (by rw [hm]; decide)))
     clear hm HF2
     go_wp2_with fail
     refine (zd8 s _ _ _ b _ hinv7.pars hinv7.hp hs).mono ?_
     rintro e w8 ⟨rfl, hk8, hp8⟩
     have hinv8 := hinv7.call hk8 hp8 (zam _ _ _ hinv7.hp)
     clear hk8 hp8 hinv7
     go_wp2_with fail
     go_roundg 0
     case measure => simp at hg ⊢; omega
     case rel => exact ⟨l ++ [zas s p], _, _, false, _, rfl, by simp, by simp, hinv8, zaa HF3⟩
   ·skip
    have TB := hide tb
    clear tb
    go_wp2_with fail
    refine (zd6 s p bd b _ hpr').mono ?_
    rintro e w0 ⟨rfl, hk0, hp0⟩
    rw [← zaa TB] at hp0
    have hinv0 := hinv.call hk0 hp0 hpl
    clear hk0 hp0 c0 c1 c2 c3 c4 c5 fz x0 x1 x2 x3 x4 xf
    go_wp2_with fail
    refine (zcv s p (zal s p bd l.length) b _ hinv0.pars hpl hs).mono ?_
    rintro e w1 ⟨rfl, hk1, hp1⟩
    unfold zb0
    have hinv1 := hinv0.call hk1 hp1 (zam _ _ _ hpl)
    have hb2 : w.heap.size + 1 < w1.heap.size := by have := hinv1.sz; omega
    obtain ⟨d0, d1, d2, d3, d4, dfz⟩ := hinv1.ac
    have hown1 := hinv1.own
    clear hk1 hp1 hinv0
    go_wp2_with (at_builtin; refine wpList_append_own _ rfl _ _ 241 rfl (w.heap.size + 2) 317 i0 _ 3 32 Tryz.underlying241 hi hz0 hz1 hz2 rfl (by decide) _ _ _ rfl ((hown1.alloc _).alloc _) ⟨w1.heap.size + 1, 0, none⟩ 1 1 (zas s p).cells rfl rfl (zdm w1 _ (zas s p)) (zel _) (by unfold maxLen; omega) (by omega) (by simp; omega) ?_)
    intro v5 w5 hown5 hg5 hne5
    clear hne5
    obtain ⟨a5, cap5, rfl⟩ := zac hown5
    obtain ⟨hinv5, e0, e1, e2, e3, e4, efz⟩ := hinv1.append (zas s p) hown5 hg5
    have hb5 : w.heap.size + 1 < w5.heap.size := by have := hinv5.sz; simp at this; omega
    clear hown5 hg5 d0 d1 d2 d3 d4 dfz hown1 hinv1
    go_wp2_with fail
    refine (zds s _ _ _ b _ hinv5.pars (zam _ _ _ hpl) hs).mono ?_
    rintro e w7 ⟨rfl, hk7, hp7⟩
    have hinv7 := hinv5.call hk7 hp7 (zcd (zam _ _ _ hpl))
    clear hk7 hp7 hinv5 e0 e1 e2 e3 e4 efz hb5
    cases hm : isS s (zao s p (zal s p bd l.length)) (zan s p (zal s p bd l.length)) { data := #[44] } with
    | true =>
     have HF3 := hide ((zaa HF2).trans (if_pos hm))
     have hml := zfm hl4' hm
     clear hm HF2
     go_wp2_with fail
     go_roundg (7 - (l ++ [zas s p]).length)
     case measure => simp at hg ⊢; omega
     case rel => exact ⟨l ++ [zas s p], _, _, true, _, rfl, fun _ => by simp; omega, by simp, hinv7, zaa HF3⟩
    | false =>
     have HF3 := hide ((zaa HF2).trans (if_neg (by rw [hm]; decide)))
     clear hm HF2
     go_wp2_with fail
     refine (zd8 s _ _ _ b _ hinv7.pars hinv7.hp hs).mono ?_
     rintro e w8 ⟨rfl, hk8, hp8⟩
     have hinv8 := hinv7.call hk8 hp8 (zam _ _ _ hinv7.hp)
     clear hk8 hp8 hinv7
     go_wp2_with fail
     go_roundg 0
     case measure => simp at hg ⊢; omega
     case rel => exact ⟨l ++ [zas s p], _, _, false, _, rfl, by simp, by simp, hinv8, zaa HF3⟩
   ·skip
    have TB := hide tb
    clear tb
    go_wp2_with fail
    have hinv0 : AtomInv w b s (tok s pos).text (tok s pos).at_ l p (zal s p bd l.length) (.slice a0 l.length cap0) wr := by rw [zaa TB]; exact hinv
    clear c0 c1 c2 c3 c4 c5 fz x0 x1 x2 x3 x4 xf
    refine (zcv s p (zal s p bd l.length) b _ hinv0.pars hpl hs).mono ?_
    rintro e w1 ⟨rfl, hk1, hp1⟩
    unfold zb0
    have hinv1 := hinv0.call hk1 hp1 (zam _ _ _ hpl)
    have hb2 : w.heap.size + 1 < w1.heap.size := by have := hinv1.sz; omega
    obtain ⟨d0, d1, d2, d3, d4, dfz⟩ := hinv1.ac
    have hown1 := hinv1.own
    clear hk1 hp1 hinv0
    go_wp2_with (at_builtin; refine wpList_append_own _ rfl _ _ 241 rfl (w.heap.size + 2) 317 i0 _ 3 32 Tryz.underlying241 hi hz0 hz1 hz2 rfl (by decide) _ _ _ rfl ((hown1.alloc _).alloc _) ⟨w1.heap.size + 1, 0, none⟩ 1 1 (zas s p).cells rfl rfl (zdm w1 _ (zas s p)) (zel _) (by unfold maxLen; omega) (by omega) (by simp; omega) ?_)
    intro v5 w5 hown5 hg5 hne5
    clear hne5
    obtain ⟨a5, cap5, rfl⟩ := zac hown5
    obtain ⟨hinv5, e0, e1, e2, e3, e4, efz⟩ := hinv1.append (zas s p) hown5 hg5
    have hb5 : w.heap.size + 1 < w5.heap.size := by have := hinv5.sz; simp at this; omega
    clear hown5 hg5 d0 d1 d2 d3 d4 dfz hown1 hinv1
    go_wp2_with fail
    refine (zds s _ _ _ b _ hinv5.pars (zam _ _ _ hpl) hs).mono ?_
    rintro e w7 ⟨rfl, hk7, hp7⟩
    have hinv7 := hinv5.call hk7 hp7 (zcd (zam _ _ _ hpl))
    clear hk7 hp7 hinv5 e0 e1 e2 e3 e4 efz hb5
    cases hm : isS s (zao s p (zal s p bd l.length)) (zan s p (zal s p bd l.length)) { data := #[44] } with
    | true =>
     have HF3 := hide ((zaa HF2).trans (if_pos hm))
     have hml := zfm hl4' hm
     clear hm HF2
     go_wp2_with fail
     go_roundg (7 - (l ++ [zas s p]).length)
     case measure => simp at hg ⊢; omega
     case rel => exact ⟨l ++ [zas s p], _, _, true, _, rfl, fun _ => by simp; omega, by simp, hinv7, zaa HF3⟩
    | false =>
     have HF3 := hide ((zaa HF2).trans (if_neg (by rw [hm]; decide)))
     clear hm HF2
     go_wp2_with fail
     refine (zd8 s _ _ _ b _ hinv7.pars hinv7.hp hs).mono ?_
     rintro e w8 ⟨rfl, hk8, hp8⟩
     have hinv8 := hinv7.call hk8 hp8 (zam _ _ _ hinv7.hp)
     clear hk8 hp8 hinv7
     go_wp2_with fail
     go_roundg 0
     case measure => simp at hg ⊢; omega
     case rel => exact ⟨l ++ [zas s p], _, _, false, _, rfl, by simp, by simp, hinv8, zaa HF3⟩
   ·skip
    have TB := hide tb
    clear tb
    go_wp2_with fail
    have hinv0 : AtomInv w b s (tok s pos).text (tok s pos).at_ l p (zal s p bd l.length) (.slice a0 l.length cap0) wr := by rw [zaa TB]; exact hinv
    clear c0 c1 c2 c3 c4 c5 fz x0 x1 x2 x3 x4 xf
    refine (zcv s p (zal s p bd l.length) b _ hinv0.pars hpl hs).mono ?_
    rintro e w1 ⟨rfl, hk1, hp1⟩
    unfold zb0
    have hinv1 := hinv0.call hk1 hp1 (zam _ _ _ hpl)
    have hb2 : w.heap.size + 1 < w1.heap.size := by have := hinv1.sz; omega
    obtain ⟨d0, d1, d2, d3, d4, dfz⟩ := hinv1.ac
    have hown1 := hinv1.own
    clear hk1 hp1 hinv0
    go_wp2_with (at_builtin; refine wpList_append_own _ rfl _ _ 241 rfl (w.heap.size + 2) 317 i0 _ 3 32 Tryz.underlying241 hi hz0 hz1 hz2 rfl (by decide) _ _ _ rfl ((hown1.alloc _).alloc _) ⟨w1.heap.size + 1, 0, none⟩ 1 1 (zas s p).cells rfl rfl (zdm w1 _ (zas s p)) (zel _) (by unfold maxLen; omega) (by omega) (by simp; omega) ?_)
    intro v5 w5 hown5 hg5 hne5
    clear hne5
    obtain ⟨a5, cap5, rfl⟩ := zac hown5
    obtain ⟨hinv5, e0, e1, e2, e3, e4, efz⟩ := hinv1.append (zas s p) hown5 hg5
    have hb5 : w.heap.size + 1 < w5.heap.size := by have := hinv5.sz; simp at this; omega
    clear hown5 hg5 d0 d1 d2 d3 d4 dfz hown1 hinv1
    go_wp2_with fail
    refine (zds s _ _ _ b _ hinv5.pars (zam _ _ _ hpl) hs).mono ?_
    rintro e w7 ⟨rfl, hk7, hp7⟩
    have hinv7 := hinv5.call hk7 hp7 (zcd (zam _ _ _ hpl))
    clear hk7 hp7 hinv5 e0 e1 e2 e3 e4 efz hb5
    cases hm : isS s (zao s p (zal s p bd l.length)) (zan s p (zal s p bd l.length)) { data := #[44] } with
    | true =>
     have HF3 := hide ((zaa HF2).trans (if_pos hm))
     have hml := zfm hl4' hm
     clear hm HF2
     go_wp2_with fail
     go_roundg (7 - (l ++ [zas s p]).length)
     case measure => simp at hg ⊢; omega
     case rel => exact ⟨l ++ [zas s p], _, _, true, _, rfl, fun _ => by simp; omega, by simp, hinv7, zaa HF3⟩
    | false =>
     have HF3 := hide ((zaa HF2).trans (if_neg (by rw [hm]; decide)))
     clear hm HF2
     go_wp2_with fail
     refine (zd8 s _ _ _ b _ hinv7.pars hinv7.hp hs).mono ?_
     rintro e w8 ⟨rfl, hk8, hp8⟩
     have hinv8 := hinv7.call hk8 hp8 (zam _ _ _ hinv7.hp)
     clear hk8 hp8 hinv7
     go_wp2_with fail
     go_roundg 0
     case measure => simp at hg ⊢; omega
     case rel => exact ⟨l ++ [zas s p], _, _, false, _, rfl, by simp, by simp, hinv8, zaa HF3⟩
end
end Go.Proofs.YtldkpahaocjdpaaGreat
