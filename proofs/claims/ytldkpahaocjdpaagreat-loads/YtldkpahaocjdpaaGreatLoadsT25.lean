/-
  Plain: the program's tokens are the reference's: the same kind, the same place, the same end.
  The reference's parser: rule, at every text and place: the plain text's rule; its rows are new memory, and nothing else of old memory has turned but the parser.
-/
import Derived.Test.YtldkpahaocjdpaaGreatLoadsT03
import Derived.Laws.Strings
import Derived.Test.YtldkpahaocjdpaaGreatLoadsT18
namespace Go.Proofs.YtldkpahaocjdpaaGreat

/-- The kind of a token as the program numbers it. -/
def tokK (t : Tk) : Int :=
  if t.kind = 46 then 0 else if t.kind = 33 then 1 else if t.kind = 110 then 2 else if t.kind = 118 then 3 else if t.kind = 119 then 4
  else if t.text.toList = [40] then 5 else if t.text.toList = [41] then 6 else if t.text.toList = [44] then 7 else if t.text.toList = [46] then 8 else 9

theorem ext_ext (s : ByteArray) (k n : Nat) (h : k + n ≤ s.size) : (s.extract k s.size).extract 0 n = s.extract k (k + n) := by
  apply ByteArray.ext
  simp [ByteArray.data_extract, Array.extract_extract]
  congr 1
  have : s.data.size = s.size := rfl
  omega

theorem ext_one (s : ByteArray) (k : Nat) (h : k < s.size) : (s.extract k (k + 1)).toList = [s[k]] := by
  rw [ByteArray.toList_eq, ByteArray.data_extract, Array.toList_extract]
  have h1 : s.data.toList.length = s.size := by rw [Array.length_toList]; rfl
  rw [List.extract_eq_take_drop]
  have e : k + 1 - k = 1 := by omega
  rw [e, List.drop_eq_getElem_cons (by omega)]
  simp [List.take]
  rfl

theorem ext_two (s : ByteArray) (k : Nat) (h : k + 1 < s.size) : (s.extract k (k + 2)).toList = [s[k], s[k+1]] := by
  rw [ByteArray.toList_eq, ByteArray.data_extract, Array.toList_extract]
  have h1 : s.data.toList.length = s.size := by rw [Array.length_toList]; rfl
  rw [List.extract_eq_take_drop]
  have e : k + 2 - k = 2 := by omega
  rw [e, List.drop_eq_getElem_cons (by omega), List.drop_eq_getElem_cons (by omega)]
  simp [List.take]
  exact ⟨rfl, rfl⟩

theorem u8_eq (a : UInt8) (c : UInt8) : a = c ↔ (a.toNat : Int) = (c.toNat : Int) := by
  constructor
  · intro h; rw [h]
  · intro h; exact UInt8.toNat_inj.1 (by omega)

theorem signK_eq (s : ByteArray) (k : Nat) (hk : k < s.size) : signK (s.extract k s.size) =
    if signLen s k = 0 then (1, 1) else if signLen s k = 2 then (9, 2) else (tokK ⟨115, s.extract k (k + 1), k, k + 1⟩, 1) := by
  have hsz : (s.extract k s.size).size = s.size - k := ext_size s k
  have e1 : ((s.extract k s.size).extract 0 1).toList = [s[k]] := by rw [ext_ext s k 1 (by omega), ext_one s k hk]
  have g1 : 1 ≤ (s.extract k s.size).size := by omega
  have t1 := ext_one s k hk
  unfold signK tokK
  simp only [e1, g1, true_and, t1, List.cons.injEq, and_true]
  simp only [u8_eq]
  unfold signLen
  rw [dif_pos hk]
  by_cases c58 : (s[k].toNat : Int) = 58
  · rw [if_pos c58]
    have n1 : ¬ (s[k].toNat : Int) = ((40 : UInt8).toNat : Int) := by rw [c58]; decide
    have n2 : ¬ (s[k].toNat : Int) = ((41 : UInt8).toNat : Int) := by rw [c58]; decide
    have n3 : ¬ (s[k].toNat : Int) = ((44 : UInt8).toNat : Int) := by rw [c58]; decide
    have n4 : ¬ (s[k].toNat : Int) = ((46 : UInt8).toNat : Int) := by rw [c58]; decide
    rw [if_neg n1, if_neg n2, if_neg n3, if_neg n4]
    by_cases h2 : k + 1 < s.size
    · have e2 : ((s.extract k s.size).extract 0 2).toList = [s[k], s[k+1]] := by rw [ext_ext s k 2 (by omega), ext_two s k h2]
      rw [dif_pos h2, e2]
      have g2 : 2 ≤ (s.extract k s.size).size := by omega
      simp only [g2, true_and, List.cons.injEq, and_true, u8_eq]
      by_cases c45 : (s[k+1].toNat : Int) = 45
      · rw [if_pos ⟨by rw [c58]; rfl, by rw [c45]; rfl⟩, if_pos c45]; simp
      · rw [if_neg (fun h => c45 (by rw [h.2]; rfl)), if_neg c45]; simp
    · rw [dif_neg h2, if_neg (by omega)]; simp
  · rw [if_neg c58]
    have n5 : ¬ (2 ≤ (s.extract k s.size).size ∧ ((s.extract k s.size).extract 0 2).toList = [58, 45]) := by
      rintro ⟨g2, h⟩
      rw [ext_ext s k 2 (by omega), ext_two s k (by omega)] at h
      injection h with h _
      exact c58 (by rw [h]; rfl)
    rw [if_neg n5]
    by_cases d1 : (s[k].toNat : Int) = 40
    · simp [d1]
    · by_cases d2 : (s[k].toNat : Int) = 41
      · simp [d2]
      · by_cases d3 : (s[k].toNat : Int) = 44
        · simp [d3]
        · by_cases d4 : (s[k].toNat : Int) = 46
          · simp [d4]
          · have m1 : ¬ (s[k].toNat : Int) = ((40 : UInt8).toNat : Int) := d1
            have m2 : ¬ (s[k].toNat : Int) = ((41 : UInt8).toNat : Int) := d2
            have m3 : ¬ (s[k].toNat : Int) = ((44 : UInt8).toNat : Int) := d3
            have m4 : ¬ (s[k].toNat : Int) = ((46 : UInt8).toNat : Int) := d4
            rw [if_neg m1, if_neg m2, if_neg m3, if_neg m4]
            simp [d1, d2, d3, d4]

theorem signLen_two_or (s : ByteArray) (k : Nat) : signLen s k = 0 ∨ signLen s k = 1 ∨ signLen s k = 2 := by
  unfold signLen
  split
  · split
    · split
      · split <;> simp
      · simp
    · split <;> simp
  · simp

/-- THE TOKENS ARE ONE. -/
theorem scan_tok (s : ByteArray) (i : Nat) (hi : i ≤ s.size) : scanK s i = (tokK (tok s i), (tok s i).at_, (tok s i).to) := by
  have hk := skip_le blankB s i hi
  unfold scanK tok
  generalize skip blankB s i = k at *
  have hsz : (s.extract k s.size).size = s.size - k := ext_size s k
  by_cases h0 : s.size ≤ k
  · have e : k = s.size := by omega
    rw [tokAt, if_pos h0]
    unfold measK
    rw [dif_neg (by omega)]
    simp [tokK, e]
  · have hlt : k < s.size := by omega
    have hl := skip_ext0 lowB s k hk
    have hh := skip_ext0 highB s k hk
    have h00 : 0 < (s.extract k s.size).size := by omega
    have hg : (s.extract k s.size)[0] = s[k] := by have := ext_get s k 0 (by omega) h00; simpa using this
    rw [tokAt, if_neg h0]
    unfold measK
    rw [dif_pos h00]
    by_cases hlow : k < skip lowB s k
    · have hlb : lowB s[k].toNat = true := by
        cases hb : lowB s[k].toNat with
        | true => rfl
        | false => rw [skip_stop lowB s k hlt hb] at hlow; omega
      have hsk : skip lowB (s.extract k s.size) 0 = skip lowB s k - k := by omega
      have hle := skip_le lowB s k hk
      have hex : (s.extract k s.size).extract 0 (skip lowB s k - k) = s.extract k (skip lowB s k) := by
        rw [ext_ext s k _ (by omega)]; congr 1; omega
      rw [if_pos (by rw [hg]; exact hlb), if_pos hlow]
      unfold nameK
      rw [hsk, hex]
      by_cases h8 : 8 < skip lowB s k - k
      · have hnot : ¬ (s.extract k (skip lowB s k)).toList = [110, 111, 116] := by
          intro e
          have : (s.extract k (skip lowB s k)).toList.length = 3 := by rw [e]; rfl
          rw [ByteArray.toList_eq, Array.length_toList] at this
          have h2 : (s.extract k (skip lowB s k)).data.size = (s.extract k (skip lowB s k)).size := rfl
          rw [h2, ByteArray.size_extract] at this
          omega
        rw [if_pos h8, if_neg hnot, if_neg (by omega)]
        simp [tokK]; omega
      · by_cases hn : (s.extract k (skip lowB s k)).toList = [110, 111, 116]
        · rw [if_neg h8, if_pos hn, if_pos hn]
          simp [tokK]; omega
        · rw [if_neg h8, if_neg hn, if_neg hn, if_pos (by omega)]
          simp [tokK]; omega
    · have hlb : lowB s[k].toNat = false := by
        cases hb : lowB s[k].toNat with
        | false => rfl
        | true =>
          have h1 := skip_step lowB s k hlt hb
          have h2 := skip_ge lowB s (k + 1)
          omega
      rw [if_neg (by rw [hg, hlb]; decide), if_neg hlow]
      by_cases hhigh : k < skip highB s k
      · have hhb : highB s[k].toNat = true := by
          cases hb : highB s[k].toNat with
          | true => rfl
          | false => rw [skip_stop highB s k hlt hb] at hhigh; omega
        have hsk : skip highB (s.extract k s.size) 0 = skip highB s k - k := by omega
        rw [if_pos (by rw [hg]; exact hhb), if_pos hhigh]
        unfold varK
        rw [hsk]
        by_cases h8 : 8 < skip highB s k - k
        · rw [if_pos h8, if_neg (by omega)]
          simp [tokK]; omega
        · rw [if_neg h8, if_pos (by omega)]
          simp [tokK]; omega
      · have hhb : highB s[k].toNat = false := by
          cases hb : highB s[k].toNat with
          | false => rfl
          | true =>
            have h1 := skip_step highB s k hlt hb
            have h2 := skip_ge highB s (k + 1)
            omega
        rw [if_neg (by rw [hg, hhb]; decide), if_neg hhigh, signK_eq s k hlt]
        rcases signLen_two_or s k with h | h | h
        · rw [if_pos h, if_pos h]; simp [tokK]
        · rw [if_neg (by omega), if_neg (by omega), if_neg (by omega), if_neg (by omega)]
        · rw [if_neg (by omega), if_pos h, if_neg (by omega), if_pos h]
          have e : ({ data := #[58, 45] } : ByteArray).toList = [58, 45] := by rw [ByteArray.toList_eq]
          simp [tokK, e]

end Go.Proofs.YtldkpahaocjdpaaGreat

namespace Go.Proofs.YtldkpahaocjdpaaGreat
open Go.RowKit

theorem infoAtom : (Tryz.prog.info? 243).map (fun i => (i.zero, i.size, i.bytes)) = some (some (.agg #[.string { data := #[] }, .slice none 0 0, .bool false, .int .i64 0, .int .i64 0]), 5, 64) := by kernel_rfl

theorem lit_cell (w1 : World) (o : Obj) (A : RAtom) (tv : Value) (j : Nat) (u : Value) (h : (A.cells tv)[j]? = some u) : ((w1.alloc o).alloc (Obj.cells #[Value.string A.pred, tv, Value.bool A.no, Value.int IntKind.i64 ↑A.at_, Value.int IntKind.i64 ↑A.noAt] 243)).cell? ((⟨w1.heap.size + 1, 0, none⟩ : Addr).add j) = some u := by
  have e : (⟨w1.heap.size + 1, 0, none⟩ : Addr).add j = ⟨w1.heap.size + 1, j, none⟩ := by unfold Addr.add; split <;> simp_all
  rw [e, World.cell?_alloc_at _ _ _ _ (by simp)]
  simpa [RAtom.cells] using h

theorem lit_one (A : RAtom) (a : Option Addr) (n c : Nat) : ∀ u ∈ A.cells (.slice a n c), u.oneCell' = true := by
  intro u hu; simp [RAtom.cells] at hu; rcases hu with rfl | rfl | rfl | rfl | rfl <;> rfl

theorem body_yes {c : Bool} {X D E : List RAtom × Nat × Int} (h : X = if c then D else E) (hm : c = true) : X = D := by rw [hm] at h; simpa using h
theorem body_no {c : Bool} {X D E : List RAtom × Nat × Int} (h : X = if c then D else E) (hm : c = false) : X = E := by rw [hm] at h; simpa using h

def ruleVal (H : RAtom) (hv bv : Value) : Value := .agg #[.string H.pred, hv, .bool H.no, .int .i64 H.at_, .int .i64 H.noAt, bv]

set_option maxRecDepth 100000 in
set_option maxHeartbeats 8000000 in
theorem rule_any (s : ByteArray) (pos : Nat) (bad : Int) (b : Nat) (w : World) (h : Pars w b s pos bad) (hpos : pos ≤ s.size) (hs : s.size ≤ maxLen) :
    Calls Tryz.prog 125 #[.pointer (some ⟨b, 0, none⟩)] w fun e w' => ∃ hv bs bv, e = .returned (ruleVal (headOf s pos bad) hv bv) ∧ Kept [b] w w' ∧ Pars w' b s (rulePos s pos bad) (ruleBad s pos bad) ∧ rulePos s pos bad ≤ s.size ∧ RuleIn w' w.heap.size ⟨headOf s pos bad, (bodyOf s pos bad).1⟩ hv bs bv := by
  have h' := h
  obtain ⟨i0, hi, hz0, hz1, hz2⟩ := info_parts infoAtom
  obtain ⟨hlt, c0, c1, c2, c3, c4, c5, fz⟩ := h
  go_enter Tryz.func125, Tryz.ntmps125
  go_wp2_with fail
  refine (atom_any s pos bad b _ (h'.kept ((Kept.refl [] _).alloc _) (by simp)) hpos hs).mono ?_
  rintro e w1 ⟨hv, rfl, hk1, hp1, hl1, hown1⟩
  have hst0 := rule_start hlt hk1 hp1 hl1 (by simpa using hown1)
  obtain ⟨a0, cap0, rfl⟩ := own_slice hown1
  clear c0 c1 c2 c3 c4 c5 fz h' hp1 hk1 hown1
  have hbody : bodyOf s pos bad = _ := bodyOf.eq_1 s pos bad
  have HB := hide hbody
  clear hbody
  go_wp2_with fail
  refine (has_any s _ _ _ b _ hst0.pars hst0.hp hs).mono ?_
  rintro e w2 ⟨rfl, hk2, hp2⟩
  have hst := hst0.call hk2 hp2 (hasPos_le hl1)
  clear hk2 hp2 hst0
  generalize hasPos s (atomRest s pos bad).2.1 (atomRest s pos bad).2.2 { data := #[58, 45] } = p3 at *
  generalize hasBad s (atomRest s pos bad).2.1 (atomRest s pos bad).2.2 { data := #[58, 45] } = b3 at *
  generalize isS s (atomRest s pos bad).2.1 (atomRest s pos bad).2.2 { data := #[58, 45] } = o3 at *
  go_wp2_with fail
  go_loopg [4] 6 (fun g op wr => ∃ (bs : List (RAtom × Value)) (p : Nat) (bd : Int) (o : Bool) (bv : Value), op = .bool o ∧ (o = true → bs.length ≤ 3) ∧ (if o then 6 - bs.length else 0) ≤ g ∧ RuleInv w b w1.heap.size s (headOf s pos bad) (.slice a0 (atomRest s pos bad).fst.length cap0) bs p bd bv wr ∧ bodyOf s pos bad = (if o then bodyS s (4 - (bs.map (·.1)).length) p bd (bs.map (·.1)) else (bs.map (·.1), p, bd)))
  case atStart => exact ⟨[], p3, b3, o3, _, rfl, by simp, by split <;> simp, hst, unhide HB⟩
  case round =>
    clear HB hst
    obtain ⟨bs, p, bd, o, bv, rfl, hl3, hg, hinv, hfin⟩ := hrel
    have HF := hide hfin
    clear hfin
    obtain ⟨a1, cap1, rfl⟩ := own_slice hinv.own
    have hpl := hinv.hp
    have hsz := hinv.sz
    cases o with
    | false =>
      clear hl3
      have hF : bodyOf s pos bad = (bs.map (·.1), p, bd) := unhide HF
      have HF' := hide hF
      clear hF HF
      go_wp2_with fail
      refine (need_any s _ _ _ b _ hinv.pars hpl hs).mono ?_
      rintro e w9 ⟨rfl, hk9, hp9⟩
      have hinv9 := hinv.call hk9 hp9 (takePos_le _ _ _ hpl)
      obtain ⟨x0, x1, x2, x3, x4, x5, xf⟩ := hinv9.rc
      obtain ⟨y0, y1, y2, y3, y4, y5, yf⟩ := hinv9.zc
      clear hk9 hp9 hinv
      go_wp2_with fail
      obtain ⟨q0, q1, q2, q3, q4, q5⟩ := set6 y0 y1 y2 y3 y4 y5 (.string (headOf s pos bad).pred) (.slice a0 (atomRest s pos bad).fst.length cap0) (.bool (headOf s pos bad).no) (.int .i64 (headOf s pos bad).at_) (.int .i64 (headOf s pos bad).noAt) (.slice a1 bs.length cap1)
      have hend := hinv9.ends (kept6 w9 w.heap.size (.string (headOf s pos bad).pred) (.slice a0 (atomRest s pos bad).fst.length cap0) (.bool (headOf s pos bad).no) (.int .i64 (headOf s pos bad).at_) (.int .i64 (headOf s pos bad).noAt) (.slice a1 bs.length cap1))
      have eP : rulePos s pos bad = takePos s p (needBad0 s p bd { data := #[46] }) := by rw [rulePos, unhide HF']
      have eB : ruleBad s pos bad = takeBad s p (needBad0 s p bd { data := #[46] }) := by rw [ruleBad, unhide HF']
      have eF : (bodyOf s pos bad).1 = bs.map (·.1) := by rw [unhide HF']
      refine bodyPost_ret (v := ruleVal (headOf s pos bad) (.slice a0 (atomRest s pos bad).fst.length cap0) (.slice a1 bs.length cap1)) (by simp [results, Tryz.results125, go_sem, ruleVal, q0, q1, q2, q3, q4, q5]) rfl ⟨_, bs, _, rfl, ?_⟩
      rw [eP, eB, eF]
      exact hend
    | true =>
      have hl3' : bs.length ≤ 3 := hl3 rfl
      clear hl3
      have hst := bodyS_step s p bd (bs.map (·.1)) (by simpa using hl3')
      have hf2 := (show bodyOf s pos bad = bodyS s (4 - (bs.map (·.1)).length) p bd (bs.map (·.1)) from unhide HF).trans hst
      rw [List.length_map] at hf2
      have HF2 := hide hf2
      clear HF hst hf2
      have hlI : (bs.length : Int) ≤ 3 := by omega
      obtain ⟨x0, x1, x2, x3, x4, x5, xf⟩ := hinv.rc
      by_cases t3 : bs.length = 3
      · have tb : litBad1 s p bd bs.length = failS s p bd := by simp [litBad1, t3]
        have t3' : ((bs.length : Int) == 3) = true := by simp; omega
        have TB := hide tb
        clear tb t3
        go_wp2_with fail
        refine (fail_any s p bd b _ hinv.pars).mono ?_
        rintro e w0 ⟨rfl, hk0, hp0⟩
        rw [← unhide TB] at hp0
        have hinv0 := hinv.call hk0 hp0 hpl
        have hsz := hinv0.sz
        clear hk0 hp0 x0 x1 x2 x3 x4 x5 xf
        go_wp2_with fail
        refine (lit_any s p (litBad1 s p bd bs.length) b _ hinv0.pars hpl hs).mono ?_
        rintro e w3 ⟨tv, rfl, hk3, hp3, hl3, hown3⟩
        obtain ⟨a3, cap3, rfl⟩ := own_slice hown3
        have hinv3 := hinv0.call hk3 hp3 hl3
        obtain ⟨d0, d1, d2, d3, d4, d5, dfz⟩ := hinv3.rc
        have hownA := hinv3.own
        have hb2 : w1.heap.size < w3.heap.size := by have := hinv3.sz; omega
        clear hk3 hp3 hinv0
        unfold RAtom.val
        go_wp2_with (at_builtin; refine wpList_append_own _ rfl _ _ 244 rfl (w1.heap.size + 1) 243 i0 _ 5 64 Tryz.underlying244 hi hz0 hz1 hz2 rfl (by decide) _ _ _ rfl ((hownA.alloc _).alloc _) ⟨w3.heap.size + 1, 0, none⟩ 1 1 ((litAtom s p (litBad1 s p bd bs.length)).cells (.slice a3 (litAtom s p (litBad1 s p bd bs.length)).terms.length cap3)) rfl rfl (lit_cell w3 _ _ _) (lit_one _ _ _ _) (by unfold maxLen; omega) (by omega) (by simp; omega) ?_)
        intro v5 w5 hown5 hg5 hne5
        clear hne5
        obtain ⟨a5, cap5, rfl⟩ := own_slice hown5
        obtain ⟨hinv5, e0, e1, e2, e3, e4, e5, efz⟩ := hinv3.append (ownsRow_low hown3 hsz) hown5 hg5
        have hb5 : w1.heap.size < w5.heap.size := by have := hinv5.sz; simp at this; omega
        clear hown5 hg5 d0 d1 d2 d3 d4 d5 dfz hownA hinv3 hown3
        go_wp2_with fail
        refine (has_any s _ _ _ b _ hinv5.pars hl3 hs).mono ?_
        rintro e w7 ⟨rfl, hk7, hp7⟩
        have hinv7 := hinv5.call hk7 hp7 (hasPos_le hl3)
        clear hk7 hp7 hinv5 e0 e1 e2 e3 e4 e5 efz hb5
        cases hm : isS s (litRest s p (litBad1 s p bd bs.length)).1 (litRest s p (litBad1 s p bd bs.length)).2 { data := #[44] } with
        | true =>
          have hml := lit_more hl3' hm
          have HF3 := hide (body_yes (unhide HF2) hm)
          clear hm HF2
          go_wp2_with fail
          go_roundg (6 - (bs.length + 1))
          case measure => simp at hg ⊢; omega
          case rel => exact ⟨_, _, _, true, _, rfl, fun _ => by simp; omega, by simp, hinv7, by rw [List.map_append]; exact unhide HF3⟩
        | false =>
          have HF3 := hide (body_no (unhide HF2) hm)
          clear hm HF2
          go_wp2_with fail
          go_roundg 0
          case measure => simp at hg ⊢; omega
          case rel => exact ⟨_, _, _, false, _, rfl, by simp, by simp, hinv7, by rw [List.map_append]; exact unhide HF3⟩
      · have tb : litBad1 s p bd bs.length = bd := by simp [litBad1, t3]
        have t3' : ((bs.length : Int) == 3) = false := by simp; omega
        have TB := hide tb
        clear tb t3
        go_wp2_with fail
        have hinv0 : RuleInv w b w1.heap.size s (headOf s pos bad) (.slice a0 (atomRest s pos bad).fst.length cap0) bs p (litBad1 s p bd bs.length) (.slice a1 bs.length cap1) wr := by rw [unhide TB]; exact hinv
        clear x0 x1 x2 x3 x4 x5 xf
        refine (lit_any s p (litBad1 s p bd bs.length) b _ hinv0.pars hpl hs).mono ?_
        rintro e w3 ⟨tv, rfl, hk3, hp3, hl3, hown3⟩
        obtain ⟨a3, cap3, rfl⟩ := own_slice hown3
        have hinv3 := hinv0.call hk3 hp3 hl3
        obtain ⟨d0, d1, d2, d3, d4, d5, dfz⟩ := hinv3.rc
        have hownA := hinv3.own
        have hb2 : w1.heap.size < w3.heap.size := by have := hinv3.sz; omega
        clear hk3 hp3 hinv0
        unfold RAtom.val
        go_wp2_with (at_builtin; refine wpList_append_own _ rfl _ _ 244 rfl (w1.heap.size + 1) 243 i0 _ 5 64 Tryz.underlying244 hi hz0 hz1 hz2 rfl (by decide) _ _ _ rfl ((hownA.alloc _).alloc _) ⟨w3.heap.size + 1, 0, none⟩ 1 1 ((litAtom s p (litBad1 s p bd bs.length)).cells (.slice a3 (litAtom s p (litBad1 s p bd bs.length)).terms.length cap3)) rfl rfl (lit_cell w3 _ _ _) (lit_one _ _ _ _) (by unfold maxLen; omega) (by omega) (by simp; omega) ?_)
        intro v5 w5 hown5 hg5 hne5
        clear hne5
        obtain ⟨a5, cap5, rfl⟩ := own_slice hown5
        obtain ⟨hinv5, e0, e1, e2, e3, e4, e5, efz⟩ := hinv3.append (ownsRow_low hown3 hsz) hown5 hg5
        have hb5 : w1.heap.size < w5.heap.size := by have := hinv5.sz; simp at this; omega
        clear hown5 hg5 d0 d1 d2 d3 d4 d5 dfz hownA hinv3 hown3
        go_wp2_with fail
        refine (has_any s _ _ _ b _ hinv5.pars hl3 hs).mono ?_
        rintro e w7 ⟨rfl, hk7, hp7⟩
        have hinv7 := hinv5.call hk7 hp7 (hasPos_le hl3)
        clear hk7 hp7 hinv5 e0 e1 e2 e3 e4 e5 efz hb5
        cases hm : isS s (litRest s p (litBad1 s p bd bs.length)).1 (litRest s p (litBad1 s p bd bs.length)).2 { data := #[44] } with
        | true =>
          have hml := lit_more hl3' hm
          have HF3 := hide (body_yes (unhide HF2) hm)
          clear hm HF2
          go_wp2_with fail
          go_roundg (6 - (bs.length + 1))
          case measure => simp at hg ⊢; omega
          case rel => exact ⟨_, _, _, true, _, rfl, fun _ => by simp; omega, by simp, hinv7, by rw [List.map_append]; exact unhide HF3⟩
        | false =>
          have HF3 := hide (body_no (unhide HF2) hm)
          clear hm HF2
          go_wp2_with fail
          go_roundg 0
          case measure => simp at hg ⊢; omega
          case rel => exact ⟨_, _, _, false, _, rfl, by simp, by simp, hinv7, by rw [List.map_append]; exact unhide HF3⟩
end Go.Proofs.YtldkpahaocjdpaaGreat
