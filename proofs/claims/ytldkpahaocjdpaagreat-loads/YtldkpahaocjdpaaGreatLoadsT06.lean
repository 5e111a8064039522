/-
  The reference's cut, where no letter comes next: what it answers is the token of the plain text (Spec), and no old memory has turned.
-/
import Derived.Test.YtldkpahaocjdpaaGreatLoadsT03
namespace Go.Proofs.YtldkpahaocjdpaaGreat
open Go.RowKit


set_option maxRecDepth 100000 in
set_option maxHeartbeats 4000000 in
theorem cut_colon (s : ByteArray) (i : Nat) (hi : i ≤ s.size) (hs : s.size ≤ maxLen) (w : World) (K0 : skip blankB s i < s.size) (K1 : skip lowB s (skip blankB s i) = skip blankB s i) (K2 : skip highB s (skip blankB s i) = skip blankB s i) (K3 : (byteAt s (skip blankB s i) : Int) = 58) :
    Calls Tryz.prog 123 #[.string s, .int .i64 i] w fun e w' => e = .returned (.tuple #[tkVal (tok s i), .int .i64 (tok s i).to]) ∧ Below w.heap.size w w' := by
  unfold maxLen at hs
  go_enter Tryz.func123, Tryz.ntmps123
  go_wp2
  go_loop [1] (fun t => ∃ k : Nat, i ≤ k ∧ k ≤ s.size ∧ t = .int .i64 k ∧ skip blankB s k = skip blankB s i) (fun t => s.size - (intOf t).toNat)
  case atStart => exact ⟨i, Nat.le_refl _, hi, rfl, rfl⟩
  case round =>
    obtain ⟨k, hik, hk, rfl, hsk⟩ := hrel
    have HS : Hid (skip blankB s k = skip blankB s i) := hsk
    clear hsk
    by_cases hlt : k < s.size
    · by_cases hb : blankB s[k].toNat = true
      · have HB : Hid (skip blankB s (k + 1) = skip blankB s i) := (skip_step blankB s k hlt hb).symm.trans HS.out
        have hc : (s[k].toNat : Int) = 32 ∨ (s[k].toNat : Int) = 10 := by simpa [blankB] using hb
        clear hb HS
        rcases hc with hc | hc
        all_goals
          go_wp2
          go_round
          case rel => exact ⟨k + 1, by omega, by omega, by go_num, HB.out⟩
          case measure => simp [intOf]; omega
      · have hb' : blankB s[k].toNat = false := by simpa using hb
        have HB : Hid (skip blankB s i = k) := HS.out.symm.trans (skip_stop blankB s k hlt hb')
        have hc1 : ((s[k].toNat : Int) == 32) = false := by simp [blankB] at hb'; simp [hb'.1]
        have hc2 : ((s[k].toNat : Int) == 10) = false := by simp [blankB] at hb'; simp [hb'.2]
        clear hb hb' HS
        have K1' : skip lowB s k = k := by have := K1; rwa [HB.out] at this
        have K' := hide K1'
        clear K1 K1'
        have K2' := hide (show skip highB s k = k by rwa [HB.out] at K2)
        clear K2 K0
        have K3' := hide (show (s[k].toNat : Int) = 58 by rw [HB.out, byteAt_lt hlt] at K3; exact K3)
        clear K3
        go_wp2
        go_loop [6] (fun t => ∃ m : Nat, k ≤ m ∧ m ≤ s.size ∧ t = .int .i64 m ∧ skip lowB s m = skip lowB s k) (fun t => s.size - (intOf t).toNat)
        case atStart => exact ⟨k, Nat.le_refl _, hk, rfl, rfl⟩
        case round =>
          obtain ⟨m, hkm, hm, rfl, hsm⟩ := hrel
          have HM : Hid (skip lowB s m = skip lowB s k) := hsm
          clear hsm
          by_cases hgo : ∃ h : m < s.size, lowB s[m].toNat = true
          · obtain ⟨hml, hlow⟩ := hgo
            have HB' : Hid (skip lowB s (m + 1) = skip lowB s k) := (skip_step lowB s m hml hlow).symm.trans HM.out
            go_wp2_with (go_at_call 182; refine (isLow_any _ _).mono ?_; rintro e w' ⟨rfl, rfl⟩)
            go_round
            case rel => exact ⟨m + 1, by omega, by omega, by go_num, HB'.out⟩
            case measure => simp [intOf]; omega
          · have HM' : Hid (skip lowB s k = m) := by
              refine HM.out.symm.trans ?_
              by_cases hml : m < s.size
              · exact skip_stop _ _ _ hml (by cases h : lowB s[m].toNat; rfl; exact absurd ⟨hml, h⟩ hgo)
              · exact skip_end _ _ _ hml
            have hkm2 : k = m := by rw [← HM'.out]; exact (unhide K').symm
            subst hkm2
            have hlow : lowB s[k].toNat = false := by cases h : lowB s[k].toNat; rfl; exact absurd ⟨hlt, h⟩ hgo
            clear hgo HM hkm hm K'
            go_wp2_with (go_at_call 182; refine (isLow_any _ _).mono ?_; rintro e w' ⟨rfl, rfl⟩)
            go_loop [6] (fun t => ∃ m : Nat, k ≤ m ∧ m ≤ s.size ∧ t = .int .i64 m ∧ skip highB s m = skip highB s k) (fun t => s.size - (intOf t).toNat)
            case atStart => exact ⟨k, Nat.le_refl _, hk, rfl, rfl⟩
            case round =>
              obtain ⟨m, hkm, hm, rfl, hsm⟩ := hrel
              have HN : Hid (skip highB s m = skip highB s k) := hsm
              clear hsm
              by_cases hgo : ∃ h : m < s.size, highB s[m].toNat = true
              · obtain ⟨hml, hhi⟩ := hgo
                have HB' : Hid (skip highB s (m + 1) = skip highB s k) := (skip_step highB s m hml hhi).symm.trans HN.out
                go_wp2_with (go_at_call 183; refine (isHigh_any _ _).mono ?_; rintro e w' ⟨rfl, rfl⟩)
                go_round
                case rel => exact ⟨m + 1, by omega, by omega, by go_num, HB'.out⟩
                case measure => simp [intOf]; omega
              · have HN' : Hid (skip highB s k = m) := by
                  refine HN.out.symm.trans ?_
                  by_cases hml : m < s.size
                  · exact skip_stop _ _ _ hml (by cases h : highB s[m].toNat; rfl; exact absurd ⟨hml, h⟩ hgo)
                  · exact skip_end _ _ _ hml
                have hkm2 : k = m := by rw [← HN'.out]; exact (unhide K2').symm
                subst hkm2
                have hhi : highB s[k].toNat = false := by cases h : highB s[k].toNat; rfl; exact absurd ⟨hlt, h⟩ hgo
                clear hgo HN hkm hm K2'
                have c58 := unhide K3'
                clear K3'
                have C58 := hide c58
                have hc58 : ((s[k].toNat : Int) == 58) = true := by rw [c58]; rfl
                clear c58
                by_cases hk1 : k + 1 < s.size
                · by_cases c45 : (s[k+1].toNat : Int) = 45
                  · have HL := hide (signLen_when hlt (unhide C58) hk1 c45)
                    go_wp2_with (go_at_call 183; refine (isHigh_any _ _).mono ?_; rintro e w' ⟨rfl, rfl⟩)
                    have HT := tok_when HB.out hlt HM'.out HN'.out (unhide HL)
                    exact bodyPost_ret (v := .tuple #[tkVal (tok s i), .int .i64 (tok s i).to]) (by rw [HT]; simp [results, Tryz.results123, go_sem, tkVal]) rfl ⟨rfl, by first | exact (Below.refl _ _).alloc (Nat.le_refl _) _ | exact below_drewN ((Below.refl _ _).alloc (Nat.le_refl _) _) _ | exact (((below_drewN ((Below.refl _ _).alloc (Nat.le_refl _) _) _).setCell (Nat.le_refl _) _).setCell (Nat.le_refl _) _).setCell (Nat.le_refl _) _⟩
                  · have HL0 := hide (signLen_colon hlt (unhide C58) (fun _ => c45))
                    have e45 : ((s[k+1].toNat : Int) == 45) = false := by simp [c45]
                    clear c45
                    go_wp2_with (go_at_call 183; refine (isHigh_any _ _).mono ?_; rintro e w' ⟨rfl, rfl⟩)
                    go_loopw [6] (fun t wr => ∃ j n : Nat, (j = 0 ∧ t = .int .i64 0 ∨ j = 1 ∧ t = .int .i64 1 ∨ j = 2 ∧ t = .int .i64 2 ∨ j = 3 ∧ t = .int .i64 3 ∨ j = 4 ∧ t = .int .i64 4) ∧ (∀ c, c ∈ ([40, 41, 44, 46] : List Int).take j → (s[k].toNat : Int) ≠ c) ∧ wr = (w.alloc (Obj.cells #[Value.int IntKind.u8 0, Value.string { data := #[] }, Value.int IntKind.i64 0] 233)).drewN n) (fun t _ => 4 - (intOf t).toNat)
                    case atStart => exact ⟨0, 0, by simp, by simp, rfl⟩
                    case round =>
                      obtain ⟨j, n, hj, hd, rfl⟩ := hrel
                      have HD := hide hd
                      clear hd
                      rcases hj with ⟨rfl, rfl⟩ | ⟨rfl, rfl⟩ | ⟨rfl, rfl⟩ | ⟨rfl, rfl⟩ | ⟨rfl, rfl⟩
                      · have e1 : (((({ data := #[40, 41, 44, 46] } : ByteArray)[0]'(by decide)).toNat : Int) == (s[k].toNat : Int)) = false := by rw [unhide C58]; rfl
                        have HQ : Hid (¬ (s[k].toNat : Int) = 40) := by show ¬ _; rw [unhide C58]; decide
                        go_wp2_with fail
                        go_quiet (fail)
                        go_wp2
                        go_roundw
                        case rel => exact ⟨1, _, by simp, more HD.out (unhide HQ) rfl rfl, rfl⟩
                        case measure => simp [intOf]
                      · have e1 : (((({ data := #[40, 41, 44, 46] } : ByteArray)[1]'(by decide)).toNat : Int) == (s[k].toNat : Int)) = false := by rw [unhide C58]; rfl
                        have HQ : Hid (¬ (s[k].toNat : Int) = 41) := by show ¬ _; rw [unhide C58]; decide
                        go_wp2_with fail
                        go_quiet (fail)
                        go_wp2
                        go_roundw
                        case rel => exact ⟨2, _, by simp, more HD.out (unhide HQ) rfl rfl, rfl⟩
                        case measure => simp [intOf]
                      · have e1 : (((({ data := #[40, 41, 44, 46] } : ByteArray)[2]'(by decide)).toNat : Int) == (s[k].toNat : Int)) = false := by rw [unhide C58]; rfl
                        have HQ : Hid (¬ (s[k].toNat : Int) = 44) := by show ¬ _; rw [unhide C58]; decide
                        go_wp2_with fail
                        go_quiet (fail)
                        go_wp2
                        go_roundw
                        case rel => exact ⟨3, _, by simp, more HD.out (unhide HQ) rfl rfl, rfl⟩
                        case measure => simp [intOf]
                      · have e1 : (((({ data := #[40, 41, 44, 46] } : ByteArray)[3]'(by decide)).toNat : Int) == (s[k].toNat : Int)) = false := by rw [unhide C58]; rfl
                        have HQ : Hid (¬ (s[k].toNat : Int) = 46) := by show ¬ _; rw [unhide C58]; decide
                        go_wp2_with fail
                        go_quiet (fail)
                        go_wp2
                        go_roundw
                        case rel => exact ⟨4, _, by simp, more HD.out (unhide HQ) rfl rfl, rfl⟩
                        case measure => simp [intOf]
                      · have HL : Hid (signLen s k = 0) := HL0
                        go_wp2
                        have HT := tok_none HB.out hlt HM'.out HN'.out HL.out
                        exact bodyPost_ret (v := .tuple #[tkVal (tok s i), .int .i64 (tok s i).to]) (by rw [HT]; simp [results, Tryz.results123, go_sem, tkVal]) rfl ⟨rfl, by first | exact (Below.refl _ _).alloc (Nat.le_refl _) _ | exact below_drewN ((Below.refl _ _).alloc (Nat.le_refl _) _) _ | exact (((below_drewN ((Below.refl _ _).alloc (Nat.le_refl _) _) _).setCell (Nat.le_refl _) _).setCell (Nat.le_refl _) _).setCell (Nat.le_refl _) _⟩
                · have HL0 := hide (signLen_colon hlt (unhide C58) (fun h => absurd h hk1))
                  go_wp2_with (go_at_call 183; refine (isHigh_any _ _).mono ?_; rintro e w' ⟨rfl, rfl⟩)
                  go_loopw [6] (fun t wr => ∃ j n : Nat, (j = 0 ∧ t = .int .i64 0 ∨ j = 1 ∧ t = .int .i64 1 ∨ j = 2 ∧ t = .int .i64 2 ∨ j = 3 ∧ t = .int .i64 3 ∨ j = 4 ∧ t = .int .i64 4) ∧ (∀ c, c ∈ ([40, 41, 44, 46] : List Int).take j → (s[k].toNat : Int) ≠ c) ∧ wr = (w.alloc (Obj.cells #[Value.int IntKind.u8 0, Value.string { data := #[] }, Value.int IntKind.i64 0] 233)).drewN n) (fun t _ => 4 - (intOf t).toNat)
                  case atStart => exact ⟨0, 0, by simp, by simp, rfl⟩
                  case round =>
                    obtain ⟨j, n, hj, hd, rfl⟩ := hrel
                    have HD := hide hd
                    clear hd
                    rcases hj with ⟨rfl, rfl⟩ | ⟨rfl, rfl⟩ | ⟨rfl, rfl⟩ | ⟨rfl, rfl⟩ | ⟨rfl, rfl⟩
                    · have e1 : (((({ data := #[40, 41, 44, 46] } : ByteArray)[0]'(by decide)).toNat : Int) == (s[k].toNat : Int)) = false := by rw [unhide C58]; rfl
                      have HQ : Hid (¬ (s[k].toNat : Int) = 40) := by show ¬ _; rw [unhide C58]; decide
                      go_wp2_with fail
                      go_quiet (fail)
                      go_wp2
                      go_roundw
                      case rel => exact ⟨1, _, by simp, more HD.out (unhide HQ) rfl rfl, rfl⟩
                      case measure => simp [intOf]
                    · have e1 : (((({ data := #[40, 41, 44, 46] } : ByteArray)[1]'(by decide)).toNat : Int) == (s[k].toNat : Int)) = false := by rw [unhide C58]; rfl
                      have HQ : Hid (¬ (s[k].toNat : Int) = 41) := by show ¬ _; rw [unhide C58]; decide
                      go_wp2_with fail
                      go_quiet (fail)
                      go_wp2
                      go_roundw
                      case rel => exact ⟨2, _, by simp, more HD.out (unhide HQ) rfl rfl, rfl⟩
                      case measure => simp [intOf]
                    · have e1 : (((({ data := #[40, 41, 44, 46] } : ByteArray)[2]'(by decide)).toNat : Int) == (s[k].toNat : Int)) = false := by rw [unhide C58]; rfl
                      have HQ : Hid (¬ (s[k].toNat : Int) = 44) := by show ¬ _; rw [unhide C58]; decide
                      go_wp2_with fail
                      go_quiet (fail)
                      go_wp2
                      go_roundw
                      case rel => exact ⟨3, _, by simp, more HD.out (unhide HQ) rfl rfl, rfl⟩
                      case measure => simp [intOf]
                    · have e1 : (((({ data := #[40, 41, 44, 46] } : ByteArray)[3]'(by decide)).toNat : Int) == (s[k].toNat : Int)) = false := by rw [unhide C58]; rfl
                      have HQ : Hid (¬ (s[k].toNat : Int) = 46) := by show ¬ _; rw [unhide C58]; decide
                      go_wp2_with fail
                      go_quiet (fail)
                      go_wp2
                      go_roundw
                      case rel => exact ⟨4, _, by simp, more HD.out (unhide HQ) rfl rfl, rfl⟩
                      case measure => simp [intOf]
                    · have HL : Hid (signLen s k = 0) := HL0
                      go_wp2
                      have HT := tok_none HB.out hlt HM'.out HN'.out HL.out
                      exact bodyPost_ret (v := .tuple #[tkVal (tok s i), .int .i64 (tok s i).to]) (by rw [HT]; simp [results, Tryz.results123, go_sem, tkVal]) rfl ⟨rfl, by first | exact (Below.refl _ _).alloc (Nat.le_refl _) _ | exact below_drewN ((Below.refl _ _).alloc (Nat.le_refl _) _) _ | exact (((below_drewN ((Below.refl _ _).alloc (Nat.le_refl _) _) _).setCell (Nat.le_refl _) _).setCell (Nat.le_refl _) _).setCell (Nat.le_refl _) _⟩
    · exact absurd (by have h := HS.out.symm.trans (skip_end blankB s k hlt); rw [h] at K0; exact K0) hlt
end Go.Proofs.YtldkpahaocjdpaaGreat
