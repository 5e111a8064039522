/-
  The reference's cut, where no letter comes next: what it answers is the token of the plain text (Spec), and no old memory has turned.
  The reference's cut, where no letter comes next: what it answers is the token of the plain text (Spec), and no old memory has turned.
  The reference's cut: at every text and every place in it the answer is the token that the plain text (Spec) tells, and the place behind it; no old memory has turned.
  The reference's parser, its small steps (fail, is, take, has, need): what each does to the parser's six cells, said over the place of the next token and the place of the first fault.
  The reference's parser: take, where a token is there and no fault was met so far: the next token is cut.
-/
import Derived.Test.YtldkpahaocjdpaaGreatQueriesT03
import Derived.Deep.RegionWith
set_option maxHeartbeats 16000000
namespace Go.Proofs.YtldkpahaocjdpaaGreat
section
open Go.RowKit
set_option maxRecDepth 100000 in
theorem cut_colon (s : ByteArray) (i : Nat) (hi : i ≤ s.size) (hs : s.size ≤ maxLen) (w : World) (K0 : skip zaj s i < s.size) (K1 : skip lowB s (skip zaj s i) = skip zaj s i) (K2 : skip zax s (skip zaj s i) = skip zaj s i) (K3 : (zp3 s (skip zaj s i) : Int) = 58) :
  Calls Tryz.prog 123 #[.string s, .int .i64 i] w fun e w' => e = .returned (.tuple #[zb0 (tok s i), .int .i64 (tok s i).to]) ∧ Below w.heap.size w w' := by
 unfold maxLen at hs
 go_enter Tryz.func123, Tryz.ntmps123
 go_wp2
 go_loop [1] (fun t => ∃ k : Nat, i ≤ k ∧ k ≤ s.size ∧ t = .int .i64 k ∧ skip zaj s k = skip zaj s i) (fun t => s.size - (intOf t).toNat)
 case atStart => exact ⟨i, Nat.le_refl _, hi, rfl, rfl⟩
 case round =>
  obtain ⟨k, hik, hk, rfl, hsk⟩ := hrel
  have HS : Hid (skip zaj s k = skip zaj s i) := hsk
  clear hsk
  by_cases hlt : k < s.size
  ·by_cases hb : zaj s[k].toNat = true
   ·have HB : Hid (skip zaj s (k + 1) = skip zaj s i) := (zbu zaj s k hlt hb).symm.trans HS.out
    have hc : (s[k].toNat : Int) = 32 ∨ (s[k].toNat : Int) = 10 := by simpa [zaj] using hb
    clear hb HS
    rcases hc with hc | hc
    all_goals
     go_wp2
     go_round
     case rel => exact ⟨k + 1, by omega, by omega, by go_num, HB.out⟩
     case measure => simp [intOf]; omega
   ·have hb' : zaj s[k].toNat = false := by simpa using hb
    have HB : Hid (skip zaj s i = k) := HS.out.symm.trans (zbv zaj s k hlt hb')
    have hc1 : ((s[k].toNat : Int) == 32) = false := by simp [zaj] at hb'; simp [hb'.1]
    have hc2 : ((s[k].toNat : Int) == 10) = false := by simp [zaj] at hb'; simp [hb'.2]
    clear hb hb' HS
    have K1' : skip lowB s k = k := by have := K1; rwa [HB.out] at this
    have K' := hide K1'
    clear K1 K1'
    have K2' := hide (show skip zax s k = k by rwa [HB.out] at K2)
    clear K2 K0
    have K3' := hide (show (s[k].toNat : Int) = 58 by rw [HB.out, zom hlt] at K3; exact K3)
    clear K3
    go_wp2
    go_loop [6] (fun t => ∃ m : Nat, k ≤ m ∧ m ≤ s.size ∧ t = .int .i64 m ∧ skip lowB s m = skip lowB s k) (fun t => s.size - (intOf t).toNat)
    case atStart => exact ⟨k, Nat.le_refl _, hk, rfl, rfl⟩
    case round =>
     obtain ⟨m, hkm, hm, rfl, hsm⟩ := hrel
     have HM : Hid (skip lowB s m = skip lowB s k) := hsm
     clear hsm
     by_cases hgo : ∃ h : m < s.size, lowB s[m].toNat = true
     ·obtain ⟨hml, hlow⟩ := hgo
      have HB' : Hid (skip lowB s (m + 1) = skip lowB s k) := (zbu lowB s m hml hlow).symm.trans HM.out
      go_wp2_with (go_at_call 182; refine (zd4 _ _).mono ?_; rintro e w' ⟨rfl, rfl⟩)
      go_round
      case rel => exact ⟨m + 1, by omega, by omega, by go_num, HB'.out⟩
      case measure => simp [intOf]; omega
     ·have HM' : Hid (skip lowB s k = m) := by
       refine HM.out.symm.trans ?_
       by_cases hml : m < s.size
       ·exact zbv _ _ _ hml (by cases h : lowB s[m].toNat; rfl; exact absurd ⟨hml, h⟩ hgo)
       ·exact zcl _ _ _ hml
      have hkm2 : k = m := by rw [← HM'.out]; exact (zaa K').symm
      subst hkm2
      have hlow : lowB s[k].toNat = false := by cases h : lowB s[k].toNat; rfl; exact absurd ⟨hlt, h⟩ hgo
      clear hgo HM hkm hm K'
      go_wp2_with (go_at_call 182; refine (zd4 _ _).mono ?_; rintro e w' ⟨rfl, rfl⟩)
      go_loop [6] (fun t => ∃ m : Nat, k ≤ m ∧ m ≤ s.size ∧ t = .int .i64 m ∧ skip zax s m = skip zax s k) (fun t => s.size - (intOf t).toNat)
      case atStart => exact ⟨k, Nat.le_refl _, hk, rfl, rfl⟩
      case round =>
       obtain ⟨m, hkm, hm, rfl, hsm⟩ := hrel
       have HN : Hid (skip zax s m = skip zax s k) := hsm
       clear hsm
       by_cases hgo : ∃ h : m < s.size, zax s[m].toNat = true
       ·obtain ⟨hml, hhi⟩ := hgo
        have HB' : Hid (skip zax s (m + 1) = skip zax s k) := (zbu zax s m hml hhi).symm.trans HN.out
        go_wp2_with (go_at_call 183; refine (zdg _ _).mono ?_; rintro e w' ⟨rfl, rfl⟩)
        go_round
        case rel => exact ⟨m + 1, by omega, by omega, by go_num, HB'.out⟩
        case measure => simp [intOf]; omega
       ·have HN' : Hid (skip zax s k = m) := by
         refine HN.out.symm.trans ?_
         by_cases hml : m < s.size
         ·exact zbv _ _ _ hml (by cases h : zax s[m].toNat; rfl; exact absurd ⟨hml, h⟩ hgo)
         ·exact zcl _ _ _ hml
        have hkm2 : k = m := by rw [← HN'.out]; exact (zaa K2').symm
        subst hkm2
        have hhi : zax s[k].toNat = false := by cases h : zax s[k].toNat; rfl; exact absurd ⟨hlt, h⟩ hgo
        clear hgo HN hkm hm K2'
        have c58 := zaa K3'
        clear K3'
        have C58 := hide c58
        have hc58 : ((s[k].toNat : Int) == 58) = true := by rw [c58]; rfl
        clear c58
        by_cases hk1 : k + 1 < s.size
        ·by_cases c45 : (s[k+1].toNat : Int) = 45
         ·have HL := hide (zop hlt (zaa C58) hk1 c45)
          go_wp2_with (go_at_call 183; refine (zdg _ _).mono ?_; rintro e w' ⟨rfl, rfl⟩)
          have HT := tok_when HB.out hlt HM'.out HN'.out (zaa HL)
          exact bodyPost_ret (v := .tuple #[zb0 (tok s i), .int .i64 (tok s i).to]) (by rw [HT]; simp [results, Tryz.results123, go_sem, zb0]) rfl ⟨rfl, by first | exact (Below.refl _ _).alloc (Nat.le_refl _) _ | exact below_drewN ((Below.refl _ _).alloc (Nat.le_refl _) _) _ | exact (((below_drewN ((Below.refl _ _).alloc (Nat.le_refl _) _) _).setCell (Nat.le_refl _) _).setCell (Nat.le_refl _) _).setCell (Nat.le_refl _) _⟩
         ·have HL0 := hide (zif hlt (zaa C58) (fun _ => c45))
          have e45 : ((s[k+1].toNat : Int) == 45) = false := by simp [c45]
          clear c45
          go_wp2_with (go_at_call 183; refine (zdg _ _).mono ?_; rintro e w' ⟨rfl, rfl⟩)
          go_loopw [6] (fun t wr => ∃ j n : Nat, (j = 0 ∧ t = .int .i64 0 ∨ j = 1 ∧ t = .int .i64 1 ∨ j = 2 ∧ t = .int .i64 2 ∨ j = 3 ∧ t = .int .i64 3 ∨ j = 4 ∧ t = .int .i64 4) ∧ (∀ c, c ∈ ([40, 41, 44, 46] : List Int).take j → (s[k].toNat : Int) ≠ c) ∧ wr = (w.alloc (Obj.cells #[Value.int IntKind.u8 0, Value.string { data := #[] }, Value.int IntKind.i64 0] 233)).drewN n) (fun t _ => 4 - (intOf t).toNat)
          case atStart => exact ⟨0, 0, by simp, by simp, rfl⟩
          case round =>
           obtain ⟨j, n, hj, hd, rfl⟩ := hrel
           have HD := hide hd
           clear hd
           rcases hj with ⟨rfl, rfl⟩ | ⟨rfl, rfl⟩ | ⟨rfl, rfl⟩ | ⟨rfl, rfl⟩ | ⟨rfl, rfl⟩
           ·have e1 : (((({ data := #[40, 41, 44, 46] } : ByteArray)[0]'(by decide)).toNat : Int) == (s[k].toNat : Int)) = false := by rw [zaa C58]; rfl
            have HQ : Hid (¬ (s[k].toNat : Int) = 40) := by show ¬ _; rw [zaa C58]; decide
            go_wp2_with fail
            go_quiet (fail)
            go_wp2
            go_roundw
            case rel => exact ⟨1, _, by simp, more HD.out (zaa HQ) rfl rfl, rfl⟩
            case measure => simp [intOf]
           ·have e1 : (((({ data := #[40, 41, 44, 46] } : ByteArray)[1]'(by decide)).toNat : Int) == (s[k].toNat : Int)) = false := by rw [zaa C58]; rfl
            have HQ : Hid (¬ (s[k].toNat : Int) = 41) := by show ¬ _; rw [zaa C58]; decide
            go_wp2_with fail
            go_quiet (fail)
            go_wp2
            go_roundw
            case rel => exact ⟨2, _, by simp, more HD.out (zaa HQ) rfl rfl, rfl⟩
            case measure => simp [intOf]
           ·have e1 : (((({ data := #[40, 41, 44, 46] } : ByteArray)[2]'(by decide)).toNat : Int) == (s[k].toNat : Int)) = false := by rw [zaa C58]; rfl
            have HQ : Hid (¬ (s[k].toNat : Int) = 44) := by show ¬ _; rw [zaa C58]; decide
            go_wp2_with fail
            go_quiet (fail)
            go_wp2
            go_roundw
            case rel => exact ⟨3, _, by simp, more HD.out (zaa HQ) rfl rfl, rfl⟩
            case measure => simp [intOf]
           ·have e1 : (((({ data := #[40, 41, 44, 46] } : ByteArray)[3]'(by decide)).toNat : Int) == (s[k].toNat : Int)) = false := by rw [zaa C58]; rfl
            have HQ : Hid (¬ (s[k].toNat : Int) = 46) := by show ¬ _; rw [zaa C58]; decide
            go_wp2_with fail
            go_quiet (fail)
            go_wp2
            go_roundw
            case rel => exact ⟨4, _, by simp, more HD.out (zaa HQ) rfl rfl, rfl⟩
            case measure => simp [intOf]
           ·have HL : Hid (zbf s k = 0) := HL0
            go_wp2
            have HT := znc HB.out hlt HM'.out HN'.out HL.out
            exact bodyPost_ret (v := .tuple #[zb0 (tok s i), .int .i64 (tok s i).to]) (by rw [HT]; simp [results, Tryz.results123, go_sem, zb0]) rfl ⟨rfl, by first | exact (Below.refl _ _).alloc (Nat.le_refl _) _ | exact below_drewN ((Below.refl _ _).alloc (Nat.le_refl _) _) _ | exact (((below_drewN ((Below.refl _ _).alloc (Nat.le_refl _) _) _).setCell (Nat.le_refl _) _).setCell (Nat.le_refl _) _).setCell (Nat.le_refl _) _⟩
        ·have HL0 := hide (zif hlt (zaa C58) (fun h => absurd h hk1))
         go_wp2_with (go_at_call 183; refine (zdg _ _).mono ?_; rintro e w' ⟨rfl, rfl⟩)
         go_loopw [6] (fun t wr => ∃ j n : Nat, (j = 0 ∧ t = .int .i64 0 ∨ j = 1 ∧ t = .int .i64 1 ∨ j = 2 ∧ t = .int .i64 2 ∨ j = 3 ∧ t = .int .i64 3 ∨ j = 4 ∧ t = .int .i64 4) ∧ (∀ c, c ∈ ([40, 41, 44, 46] : List Int).take j → (s[k].toNat : Int) ≠ c) ∧ wr = (w.alloc (Obj.cells #[Value.int IntKind.u8 0, Value.string { data := #[] }, Value.int IntKind.i64 0] 233)).drewN n) (fun t _ => 4 - (intOf t).toNat)
         case atStart => exact ⟨0, 0, by simp, by simp, rfl⟩
         case round =>
          obtain ⟨j, n, hj, hd, rfl⟩ := hrel
          have HD := hide hd
          clear hd
          rcases hj with ⟨rfl, rfl⟩ | ⟨rfl, rfl⟩ | ⟨rfl, rfl⟩ | ⟨rfl, rfl⟩ | ⟨rfl, rfl⟩
          ·have e1 : (((({ data := #[40, 41, 44, 46] } : ByteArray)[0]'(by decide)).toNat : Int) == (s[k].toNat : Int)) = false := by rw [zaa C58]; rfl
           have HQ : Hid (¬ (s[k].toNat : Int) = 40) := by show ¬ _; rw [zaa C58]; decide
           go_wp2_with fail
           go_quiet (fail)
           go_wp2
           go_roundw
           case rel => exact ⟨1, _, by simp, more HD.out (zaa HQ) rfl rfl, rfl⟩
           case measure => simp [intOf]
          ·have e1 : (((({ data := #[40, 41, 44, 46] } : ByteArray)[1]'(by decide)).toNat : Int) == (s[k].toNat : Int)) = false := by rw [zaa C58]; rfl
           have HQ : Hid (¬ (s[k].toNat : Int) = 41) := by show ¬ _; rw [zaa C58]; decide
           go_wp2_with fail
           go_quiet (fail)
           go_wp2
           go_roundw
           case rel => exact ⟨2, _, by simp, more HD.out (zaa HQ) rfl rfl, rfl⟩
           case measure => simp [intOf]
          ·have e1 : (((({ data := #[40, 41, 44, 46] } : ByteArray)[2]'(by decide)).toNat : Int) == (s[k].toNat : Int)) = false := by rw [zaa C58]; rfl
           have HQ : Hid (¬ (s[k].toNat : Int) = 44) := by show ¬ _; rw [zaa C58]; decide
           go_wp2_with fail
           go_quiet (fail)
           go_wp2
           go_roundw
           case rel => exact ⟨3, _, by simp, more HD.out (zaa HQ) rfl rfl, rfl⟩
           case measure => simp [intOf]
          ·have e1 : (((({ data := #[40, 41, 44, 46] } : ByteArray)[3]'(by decide)).toNat : Int) == (s[k].toNat : Int)) = false := by rw [zaa C58]; rfl
           have HQ : Hid (¬ (s[k].toNat : Int) = 46) := by show ¬ _; rw [zaa C58]; decide
           go_wp2_with fail
           go_quiet (fail)
           go_wp2
           go_roundw
           case rel => exact ⟨4, _, by simp, more HD.out (zaa HQ) rfl rfl, rfl⟩
           case measure => simp [intOf]
          ·have HL : Hid (zbf s k = 0) := HL0
           go_wp2
           have HT := znc HB.out hlt HM'.out HN'.out HL.out
           exact bodyPost_ret (v := .tuple #[zb0 (tok s i), .int .i64 (tok s i).to]) (by rw [HT]; simp [results, Tryz.results123, go_sem, zb0]) rfl ⟨rfl, by first | exact (Below.refl _ _).alloc (Nat.le_refl _) _ | exact below_drewN ((Below.refl _ _).alloc (Nat.le_refl _) _) _ | exact (((below_drewN ((Below.refl _ _).alloc (Nat.le_refl _) _) _).setCell (Nat.le_refl _) _).setCell (Nat.le_refl _) _).setCell (Nat.le_refl _) _⟩
  ·exact absurd (by have h := HS.out.symm.trans (zcl zaj s k hlt); rw [h] at K0; exact K0) hlt
end
section
open Go.RowKit
set_option maxRecDepth 100000 in
theorem cut_other (s : ByteArray) (i : Nat) (hi : i ≤ s.size) (hs : s.size ≤ maxLen) (w : World) (K0 : skip zaj s i < s.size) (K1 : skip lowB s (skip zaj s i) = skip zaj s i) (K2 : skip zax s (skip zaj s i) = skip zaj s i) (K3 : ¬ (zp3 s (skip zaj s i) : Int) = 58) :
  Calls Tryz.prog 123 #[.string s, .int .i64 i] w fun e w' => e = .returned (.tuple #[zb0 (tok s i), .int .i64 (tok s i).to]) ∧ Below w.heap.size w w' := by
 unfold maxLen at hs
 go_enter Tryz.func123, Tryz.ntmps123
 go_wp2
 go_loop [1] (fun t => ∃ k : Nat, i ≤ k ∧ k ≤ s.size ∧ t = .int .i64 k ∧ skip zaj s k = skip zaj s i) (fun t => s.size - (intOf t).toNat)
 case atStart => exact ⟨i, Nat.le_refl _, hi, rfl, rfl⟩
 case round =>
  obtain ⟨k, hik, hk, rfl, hsk⟩ := hrel
  have HS : Hid (skip zaj s k = skip zaj s i) := hsk
  clear hsk
  by_cases hlt : k < s.size
  ·by_cases hb : zaj s[k].toNat = true
   ·have HB : Hid (skip zaj s (k + 1) = skip zaj s i) := (zbu zaj s k hlt hb).symm.trans HS.out
    have hc : (s[k].toNat : Int) = 32 ∨ (s[k].toNat : Int) = 10 := by simpa [zaj] using hb
    clear hb HS
    rcases hc with hc | hc
    all_goals
     go_wp2
     go_round
     case rel => exact ⟨k + 1, by omega, by omega, by go_num, HB.out⟩
     case measure => simp [intOf]; omega
   ·have hb' : zaj s[k].toNat = false := by simpa using hb
    have HB : Hid (skip zaj s i = k) := HS.out.symm.trans (zbv zaj s k hlt hb')
    have hc1 : ((s[k].toNat : Int) == 32) = false := by simp [zaj] at hb'; simp [hb'.1]
    have hc2 : ((s[k].toNat : Int) == 10) = false := by simp [zaj] at hb'; simp [hb'.2]
    clear hb hb' HS
    have K1' : skip lowB s k = k := by have := K1; rwa [HB.out] at this
    have K' := hide K1'
    clear K1 K1'
    have K2' := hide (show skip zax s k = k by rwa [HB.out] at K2)
    clear K2 K0
    have K3' := hide (show ¬ (s[k].toNat : Int) = 58 by rw [HB.out, zom hlt] at K3; exact K3)
    clear K3
    go_wp2
    go_loop [6] (fun t => ∃ m : Nat, k ≤ m ∧ m ≤ s.size ∧ t = .int .i64 m ∧ skip lowB s m = skip lowB s k) (fun t => s.size - (intOf t).toNat)
    case atStart => exact ⟨k, Nat.le_refl _, hk, rfl, rfl⟩
    case round =>
     obtain ⟨m, hkm, hm, rfl, hsm⟩ := hrel
     have HM : Hid (skip lowB s m = skip lowB s k) := hsm
     clear hsm
     by_cases hgo : ∃ h : m < s.size, lowB s[m].toNat = true
     ·obtain ⟨hml, hlow⟩ := hgo
      have HB' : Hid (skip lowB s (m + 1) = skip lowB s k) := (zbu lowB s m hml hlow).symm.trans HM.out
      go_wp2_with (go_at_call 182; refine (zd4 _ _).mono ?_; rintro e w' ⟨rfl, rfl⟩)
      go_round
      case rel => exact ⟨m + 1, by omega, by omega, by go_num, HB'.out⟩
      case measure => simp [intOf]; omega
     ·have HM' : Hid (skip lowB s k = m) := by
       refine HM.out.symm.trans ?_
       by_cases hml : m < s.size
       ·exact zbv _ _ _ hml (by cases h : lowB s[m].toNat; rfl; exact absurd ⟨hml, h⟩ hgo)
       ·exact zcl _ _ _ hml
      have hkm2 : k = m := by rw [← HM'.out]; exact (zaa K').symm
      subst hkm2
      have hlow : lowB s[k].toNat = false := by cases h : lowB s[k].toNat; rfl; exact absurd ⟨hlt, h⟩ hgo
      clear hgo HM hkm hm K'
      go_wp2_with (go_at_call 182; refine (zd4 _ _).mono ?_; rintro e w' ⟨rfl, rfl⟩)
      go_loop [6] (fun t => ∃ m : Nat, k ≤ m ∧ m ≤ s.size ∧ t = .int .i64 m ∧ skip zax s m = skip zax s k) (fun t => s.size - (intOf t).toNat)
      case atStart => exact ⟨k, Nat.le_refl _, hk, rfl, rfl⟩
      case round =>
       obtain ⟨m, hkm, hm, rfl, hsm⟩ := hrel
       have HN : Hid (skip zax s m = skip zax s k) := hsm
       clear hsm
       by_cases hgo : ∃ h : m < s.size, zax s[m].toNat = true
       ·obtain ⟨hml, hhi⟩ := hgo
        have HB' : Hid (skip zax s (m + 1) = skip zax s k) := (zbu zax s m hml hhi).symm.trans HN.out
        go_wp2_with (go_at_call 183; refine (zdg _ _).mono ?_; rintro e w' ⟨rfl, rfl⟩)
        go_round
        case rel => exact ⟨m + 1, by omega, by omega, by go_num, HB'.out⟩
        case measure => simp [intOf]; omega
       ·have HN' : Hid (skip zax s k = m) := by
         refine HN.out.symm.trans ?_
         by_cases hml : m < s.size
         ·exact zbv _ _ _ hml (by cases h : zax s[m].toNat; rfl; exact absurd ⟨hml, h⟩ hgo)
         ·exact zcl _ _ _ hml
        have hkm2 : k = m := by rw [← HN'.out]; exact (zaa K2').symm
        subst hkm2
        have hhi : zax s[k].toNat = false := by cases h : zax s[k].toNat; rfl; exact absurd ⟨hlt, h⟩ hgo
        clear hgo HN hkm hm K2'
        have c58 := zaa K3'
        clear K3'
        have hc58 : ((s[k].toNat : Int) == 58) = false := by simp [c58]
        have C58 := hide c58
        clear c58
        go_wp2_with (go_at_call 183; refine (zdg _ _).mono ?_; rintro e w' ⟨rfl, rfl⟩)
        go_loopw [6] (fun t wr => ∃ j n : Nat, (j = 0 ∧ t = .int .i64 0 ∨ j = 1 ∧ t = .int .i64 1 ∨ j = 2 ∧ t = .int .i64 2 ∨ j = 3 ∧ t = .int .i64 3 ∨ j = 4 ∧ t = .int .i64 4) ∧ (∀ c, c ∈ ([40, 41, 44, 46] : List Int).take j → (s[k].toNat : Int) ≠ c) ∧ wr = (w.alloc (Obj.cells #[Value.int IntKind.u8 0, Value.string { data := #[] }, Value.int IntKind.i64 0] 233)).drewN n) (fun t _ => 4 - (intOf t).toNat)
        case atStart => exact ⟨0, 0, by simp, by simp, rfl⟩
        case round =>
         obtain ⟨j, n, hj, hd, rfl⟩ := hrel
         have HD := hide hd
         clear hd
         rcases hj with ⟨rfl, rfl⟩ | ⟨rfl, rfl⟩ | ⟨rfl, rfl⟩ | ⟨rfl, rfl⟩ | ⟨rfl, rfl⟩
         ·by_cases hq : (s[k].toNat : Int) = 40
          ·have e1 : (((({ data := #[40, 41, 44, 46] } : ByteArray)[0]'(by decide)).toNat : Int) == (s[k].toNat : Int)) = true := by rw [hq]; rfl
           have HL : Hid (zbf s k = 1) := zf9 hlt (zaa C58) (by omega)
           clear hq
           go_wp2_with fail
           go_quiet (fail)
           go_wp2
           have HT := zjs HB.out hlt HM'.out HN'.out HL.out
           exact bodyPost_ret (v := .tuple #[zb0 (tok s i), .int .i64 (tok s i).to]) (by rw [HT]; simp [results, Tryz.results123, go_sem, zb0]) rfl ⟨rfl, by first | exact (Below.refl _ _).alloc (Nat.le_refl _) _ | exact below_drewN ((Below.refl _ _).alloc (Nat.le_refl _) _) _ | exact (((below_drewN ((Below.refl _ _).alloc (Nat.le_refl _) _) _).setCell (Nat.le_refl _) _).setCell (Nat.le_refl _) _).setCell (Nat.le_refl _) _⟩
          ·have e1 : (((({ data := #[40, 41, 44, 46] } : ByteArray)[0]'(by decide)).toNat : Int) == (s[k].toNat : Int)) = false := by rw [beq_eq_false_iff_ne]; show (40 : Int) ≠ _; omega
           have HQ := hide hq
           clear hq
           go_wp2_with fail
           go_quiet (fail)
           go_wp2
           go_roundw
           case rel => exact ⟨1, _, by simp, more HD.out (zaa HQ) rfl rfl, rfl⟩
           case measure => simp [intOf]
         ·by_cases hq : (s[k].toNat : Int) = 41
          ·have e1 : (((({ data := #[40, 41, 44, 46] } : ByteArray)[1]'(by decide)).toNat : Int) == (s[k].toNat : Int)) = true := by rw [hq]; rfl
           have HL : Hid (zbf s k = 1) := zf9 hlt (zaa C58) (by omega)
           clear hq
           go_wp2_with fail
           go_quiet (fail)
           go_wp2
           have HT := zjs HB.out hlt HM'.out HN'.out HL.out
           exact bodyPost_ret (v := .tuple #[zb0 (tok s i), .int .i64 (tok s i).to]) (by rw [HT]; simp [results, Tryz.results123, go_sem, zb0]) rfl ⟨rfl, by first | exact (Below.refl _ _).alloc (Nat.le_refl _) _ | exact below_drewN ((Below.refl _ _).alloc (Nat.le_refl _) _) _ | exact (((below_drewN ((Below.refl _ _).alloc (Nat.le_refl _) _) _).setCell (Nat.le_refl _) _).setCell (Nat.le_refl _) _).setCell (Nat.le_refl _) _⟩
          ·have e1 : (((({ data := #[40, 41, 44, 46] } : ByteArray)[1]'(by decide)).toNat : Int) == (s[k].toNat : Int)) = false := by rw [beq_eq_false_iff_ne]; show (41 : Int) ≠ _; omega
           have HQ := hide hq
           clear hq
           go_wp2_with fail
           go_quiet (fail)
           go_wp2
           go_roundw
           case rel => exact ⟨2, _, by simp, more HD.out (zaa HQ) rfl rfl, rfl⟩
           case measure => simp [intOf]
         ·by_cases hq : (s[k].toNat : Int) = 44
          ·have e1 : (((({ data := #[40, 41, 44, 46] } : ByteArray)[2]'(by decide)).toNat : Int) == (s[k].toNat : Int)) = true := by rw [hq]; rfl
           have HL : Hid (zbf s k = 1) := zf9 hlt (zaa C58) (by omega)
           clear hq
           go_wp2_with fail
           go_quiet (fail)
           go_wp2
           have HT := zjs HB.out hlt HM'.out HN'.out HL.out
           exact bodyPost_ret (v := .tuple #[zb0 (tok s i), .int .i64 (tok s i).to]) (by rw [HT]; simp [results, Tryz.results123, go_sem, zb0]) rfl ⟨rfl, by first | exact (Below.refl _ _).alloc (Nat.le_refl _) _ | exact below_drewN ((Below.refl _ _).alloc (Nat.le_refl _) _) _ | exact (((below_drewN ((Below.refl _ _).alloc (Nat.le_refl _) _) _).setCell (Nat.le_refl _) _).setCell (Nat.le_refl _) _).setCell (Nat.le_refl _) _⟩
          ·have e1 : (((({ data := #[40, 41, 44, 46] } : ByteArray)[2]'(by decide)).toNat : Int) == (s[k].toNat : Int)) = false := by rw [beq_eq_false_iff_ne]; show (44 : Int) ≠ _; omega
           have HQ := hide hq
           clear hq
           go_wp2_with fail
           go_quiet (fail)
           go_wp2
           go_roundw
           case rel => exact ⟨3, _, by simp, more HD.out (zaa HQ) rfl rfl, rfl⟩
           case measure => simp [intOf]
         ·by_cases hq : (s[k].toNat : Int) = 46
          ·have e1 : (((({ data := #[40, 41, 44, 46] } : ByteArray)[3]'(by decide)).toNat : Int) == (s[k].toNat : Int)) = true := by rw [hq]; rfl
           have HL : Hid (zbf s k = 1) := zf9 hlt (zaa C58) (by omega)
           clear hq
           go_wp2_with fail
           go_quiet (fail)
           go_wp2
           have HT := zjs HB.out hlt HM'.out HN'.out HL.out
           exact bodyPost_ret (v := .tuple #[zb0 (tok s i), .int .i64 (tok s i).to]) (by rw [HT]; simp [results, Tryz.results123, go_sem, zb0]) rfl ⟨rfl, by first | exact (Below.refl _ _).alloc (Nat.le_refl _) _ | exact below_drewN ((Below.refl _ _).alloc (Nat.le_refl _) _) _ | exact (((below_drewN ((Below.refl _ _).alloc (Nat.le_refl _) _) _).setCell (Nat.le_refl _) _).setCell (Nat.le_refl _) _).setCell (Nat.le_refl _) _⟩
          ·have e1 : (((({ data := #[40, 41, 44, 46] } : ByteArray)[3]'(by decide)).toNat : Int) == (s[k].toNat : Int)) = false := by rw [beq_eq_false_iff_ne]; show (46 : Int) ≠ _; omega
           have HQ := hide hq
           clear hq
           go_wp2_with fail
           go_quiet (fail)
           go_wp2
           go_roundw
           case rel => exact ⟨4, _, by simp, more HD.out (zaa HQ) rfl rfl, rfl⟩
           case measure => simp [intOf]
         ·have HL : Hid (zbf s k = 0) := signLen_no hlt (zaa C58) (by have := HD.out; simp at this; omega)
          go_wp2
          have HT := znc HB.out hlt HM'.out HN'.out HL.out
          exact bodyPost_ret (v := .tuple #[zb0 (tok s i), .int .i64 (tok s i).to]) (by rw [HT]; simp [results, Tryz.results123, go_sem, zb0]) rfl ⟨rfl, by first | exact (Below.refl _ _).alloc (Nat.le_refl _) _ | exact below_drewN ((Below.refl _ _).alloc (Nat.le_refl _) _) _ | exact (((below_drewN ((Below.refl _ _).alloc (Nat.le_refl _) _) _).setCell (Nat.le_refl _) _).setCell (Nat.le_refl _) _).setCell (Nat.le_refl _) _⟩
  ·exact absurd (by have h := HS.out.symm.trans (zcl zaj s k hlt); rw [h] at K0; exact K0) hlt
end
section
open Go.RowKit
theorem cut_any (s : ByteArray) (i : Nat) (hi : i ≤ s.size) (hs : s.size ≤ maxLen) (w : World) :
  Calls Tryz.prog 123 #[.string s, .int .i64 i] w fun e w' => e = .returned (.tuple #[zb0 (tok s i), .int .i64 (tok s i).to]) ∧ Below w.heap.size w w' := by
 by_cases K : skip zaj s i < s.size → skip zaj s i < skip lowB s (skip zaj s i)
 ·exact cut_low s i hi hs w K
 ·have K0 : skip zaj s i < s.size := by omega
  have g1 := zm3 lowB s (skip zaj s i)
  have g2 := zm3 zax s (skip zaj s i)
  have K1 : skip lowB s (skip zaj s i) = skip zaj s i := by omega
  by_cases K2 : skip zaj s i < skip zax s (skip zaj s i)
  ·exact cut_high s i hi hs w K0 K1 K2
  ·have K2' : skip zax s (skip zaj s i) = skip zaj s i := by omega
   by_cases K3 : (zp3 s (skip zaj s i) : Int) = 58
   ·exact cut_colon s i hi hs w K0 K1 K2' K3
   ·exact cut_other s i hi hs w K0 K1 K2' K3
end
section
open Go.RowKit
structure Kept (B : List Nat) (w w' : World) : Prop where
 os : w'.os = w.os
 tape : w'.tape = w.tape
 output : w'.output = w.output
 size : w.heap.size ≤ w'.heap.size
 block : ∀ k, k < w.heap.size → k ∉ B → w'.heap[k]? = w.heap[k]?
theorem Kept.refl (B : List Nat) (w : World) : Kept B w w := ⟨rfl, rfl, rfl, Nat.le_refl _, fun _ _ _ => rfl⟩
theorem Kept.trans {B : List Nat} {a b c : World} (h : Kept B a b) (k : Kept B b c) : Kept B a c :=
 ⟨k.os.trans h.os, k.tape.trans h.tape, k.output.trans h.output, Nat.le_trans h.size k.size, fun i hi hn => (k.block i (Nat.lt_of_lt_of_le hi h.size) hn).trans (h.block i hi hn)⟩
theorem Kept.of_below {B : List Nat} {a w w' : World} (h : Kept B a w) (k : Below w.heap.size w w') : Kept B a w' :=
 h.trans ⟨k.os, k.tape, k.output, k.size, fun i hi _ => k.block i hi⟩
theorem Kept.alloc {B : List Nat} {a w : World} (h : Kept B a w) (o : Obj) : Kept B a (w.alloc o) :=
 h.trans ⟨rfl, rfl, rfl, by simp, fun k hk _ => Below.heap_alloc _ _ _ hk⟩
theorem Kept.drewN {B : List Nat} {a w : World} (h : Kept B a w) (n : Nat) : Kept B a (w.drewN n) := ⟨h.os, h.tape, h.output, h.size, h.block⟩
theorem Kept.drew {B : List Nat} {a w : World} (h : Kept B a w) : Kept B a w.drew := ⟨h.os, h.tape, h.output, h.size, h.block⟩
theorem Kept.setCell {B : List Nat} {a w : World} (h : Kept B a w) {p : Addr} (hp : p.block ∈ B ∨ a.heap.size ≤ p.block) (u : Value) : Kept B a (w.setCell p u) :=
 ⟨h.os, h.tape, h.output, by have := h.size; simpa [World.setCell] using this, fun k hk hn => (Below.heap_setCell _ _ _ _ (by rintro rfl; rcases hp with hp | hp; exact hn hp; omega)).trans (h.block k hk hn)⟩
theorem Kept.mono {B C : List Nat} {w w' : World} (h : Kept B w w') (hs : ∀ k, k ∈ B → k ∈ C ∨ w.heap.size ≤ k) : Kept C w w' :=
 ⟨h.os, h.tape, h.output, h.size, fun k hk hn => h.block k hk (fun hb => by rcases hs k hb with h1 | h1; exact hn h1; omega)⟩
theorem Kept.cell {B : List Nat} {w w' : World} (h : Kept B w w') {p : Addr} (hp : p.block < w.heap.size) (hn : p.block ∉ B) : w'.cell? p = w.cell? p := World.cell?_of_block (w := w) (h.block p.block hp hn)
theorem Kept.frozen {B : List Nat} {w w' : World} (h : Kept B w w') {p : Addr} (hp : p.block < w.heap.size) (hn : p.block ∉ B) : w'.frozen? p = w.frozen? p := World.frozen?_of_block (w := w) (h.block p.block hp hn)
structure Pars (w : World) (b : Nat) (s : ByteArray) (pos : Nat) (bad : Int) : Prop where
 lt : b < w.heap.size
 c0 : w.cell? ⟨b, 0, none⟩ = some (.string s)
 c1 : w.cell? ⟨b, 1, none⟩ = some (.int .u8 (tok s pos).kind)
 c2 : w.cell? ⟨b, 2, none⟩ = some (.string (tok s pos).text)
 c3 : w.cell? ⟨b, 3, none⟩ = some (.int .i64 (tok s pos).at_)
 c4 : w.cell? ⟨b, 4, none⟩ = some (.int .i64 (tok s pos).to)
 c5 : w.cell? ⟨b, 5, none⟩ = some (.int .i64 bad)
 fz : ∀ o, w.frozen? ⟨b, o, none⟩ = false
theorem Pars.kept {B : List Nat} {w w' : World} {b : Nat} {s : ByteArray} {pos : Nat} {bad : Int} (h : Pars w b s pos bad) (k : Kept B w w') (hn : b ∉ B) : Pars w' b s pos bad :=
 ⟨Nat.lt_of_lt_of_le h.lt k.size, (k.cell h.lt hn).trans h.c0, (k.cell h.lt hn).trans h.c1, (k.cell h.lt hn).trans h.c2, (k.cell h.lt hn).trans h.c3, (k.cell h.lt hn).trans h.c4, (k.cell h.lt hn).trans h.c5, fun o => (k.frozen h.lt hn).trans (h.fz o)⟩
def zdz (s : ByteArray) (pos : Nat) (bad : Int) : Int := if bad < 0 then (tok s pos).at_ else bad
theorem zd6 (s : ByteArray) (pos : Nat) (bad : Int) (b : Nat) (w : World) (h : Pars w b s pos bad) :
  Calls Tryz.prog 124 #[.pointer (some ⟨b, 0, none⟩)] w fun e w' => e = .returned (.tuple #[]) ∧ Kept [b] w w' ∧ Pars w' b s pos (zdz s pos bad) := by
 have h' := h
 obtain ⟨hlt, c0, c1, c2, c3, c4, c5, fz⟩ := h
 by_cases hb : bad < 0
 ·go_enter Tryz.func124, Tryz.ntmps124
  go_wp2
  go_end0
  refine ⟨rfl, (Kept.refl _ _).setCell (by simp) _, ⟨by simpa [World.setCell] using hlt, ?_, ?_, ?_, ?_, ?_, ?_, ?_⟩⟩
  ·go_simp
  ·go_simp
  ·go_simp
  ·go_simp
  ·go_simp
  ·rw [zdz, if_pos hb]; go_simp
  ·go_simp
 ·go_enter Tryz.func124, Tryz.ntmps124
  go_wp2
  go_end0
  exact ⟨rfl, Kept.refl _ _, by rw [zdz, if_neg (by omega)]; exact h'⟩
def isS (s : ByteArray) (pos : Nat) (bad : Int) (wd : ByteArray) : Bool := decide (bad < 0) && ((tok s pos).kind == 115 && (tok s pos).text.toList == wd.toList)
theorem is_any (s wd : ByteArray) (pos : Nat) (bad : Int) (b : Nat) (w : World) (h : Pars w b s pos bad) :
  Calls Tryz.prog 226 #[.pointer (some ⟨b, 0, none⟩), .string wd] w fun e w' => e = .returned (.bool (isS s pos bad wd)) ∧ w' = w := by
 obtain ⟨hlt, c0, c1, c2, c3, c4, c5, fz⟩ := h
 by_cases hb : bad < 0
 ·by_cases hk : ((tok s pos).kind == 115) = true
  ·go_enter Tryz.func226, Tryz.ntmps226
   go_wp2
   go_ret
   exact ⟨by simp [isS, hb, hk], rfl⟩
  ·have hk' : ((tok s pos).kind == 115) = false := by simpa using hk
   clear hk
   go_enter Tryz.func226, Tryz.ntmps226
   go_wp2
   go_ret
   exact ⟨by simp [isS, hk'], rfl⟩
 ·go_enter Tryz.func226, Tryz.ntmps226
  go_wp2
  go_ret
  exact ⟨by rw [isS, decide_eq_false (by omega)]; rfl, rfl⟩
def zan (s : ByteArray) (pos : Nat) (bad : Int) : Int := if (tok s pos).kind = 33 ∨ (tok s pos).kind = 46 then zdz s pos bad else bad
def zao (s : ByteArray) (pos : Nat) (bad : Int) : Nat := if zan s pos bad < 0 then (tok s pos).to else pos
theorem zc4 (s : ByteArray) (pos : Nat) (bad : Int) : 0 ≤ zdz s pos bad := by unfold zdz; split <;> omega
theorem Kept.rules {b : Nat} {W w1 : World} (hk : Kept [b] W w1) : (∀ n o, b < n → n < W.heap.size → w1.cell? ⟨n, o, none⟩ = W.cell? ⟨n, o, none⟩) ∧ (∀ n o, b < n → n < W.heap.size → w1.frozen? ⟨n, o, none⟩ = W.frozen? ⟨n, o, none⟩) :=
 ⟨fun n o h1 h2 => hk.cell (p := ⟨n, o, none⟩) h2 (by simp; omega), fun n o h1 h2 => hk.frozen (p := ⟨n, o, none⟩) h2 (by simp; omega)⟩
theorem set3 {w1 : World} {n : Nat} {u0 u1 u2 : Value} (h0 : w1.cell? ⟨n, 0, none⟩ = some u0) (h1 : w1.cell? ⟨n, 1, none⟩ = some u1) (h2 : w1.cell? ⟨n, 2, none⟩ = some u2) (v0 v1 v2 : Value) :
  (((w1.setCell ⟨n, 0, none⟩ v0).setCell ⟨n, 1, none⟩ v1).setCell ⟨n, 2, none⟩ v2).cell? ⟨n, 0, none⟩ = some v0 ∧
  (((w1.setCell ⟨n, 0, none⟩ v0).setCell ⟨n, 1, none⟩ v1).setCell ⟨n, 2, none⟩ v2).cell? ⟨n, 1, none⟩ = some v1 ∧
  (((w1.setCell ⟨n, 0, none⟩ v0).setCell ⟨n, 1, none⟩ v1).setCell ⟨n, 2, none⟩ v2).cell? ⟨n, 2, none⟩ = some v2 := by
 refine ⟨?_, ?_, ?_⟩ <;> go_simp
theorem zft (w : World) (a b c : Value) (t : TypeId) (o : Obj) (j : Nat) : ((w.alloc (.cells #[a, b, c] t)).alloc o).cell? ⟨w.heap.size, j, none⟩ = #[a, b, c][j]? := by
 rw [World.cell?_alloc_past _ _ _ (by simp), World.cell?_alloc_at _ _ _ _ rfl]
theorem Pars.cells {w : World} {b : Nat} {s : ByteArray} {pos : Nat} {bad : Int} (h : Pars w b s pos bad) : b < w.heap.size ∧ w.cell? ⟨b, 0, none⟩ = some (.string s) ∧ w.cell? ⟨b, 1, none⟩ = some (.int .u8 (tok s pos).kind) ∧ w.cell? ⟨b, 2, none⟩ = some (.string (tok s pos).text) ∧ w.cell? ⟨b, 3, none⟩ = some (.int .i64 (tok s pos).at_) ∧ w.cell? ⟨b, 4, none⟩ = some (.int .i64 (tok s pos).to) ∧ w.cell? ⟨b, 5, none⟩ = some (.int .i64 bad) ∧ ∀ o, w.frozen? ⟨b, o, none⟩ = false :=
 ⟨h.lt, h.c0, h.c1, h.c2, h.c3, h.c4, h.c5, h.fz⟩
set_option maxRecDepth 100000 in
theorem take_bad (s : ByteArray) (pos : Nat) (bad : Int) (b : Nat) (w : World) (h : Pars w b s pos bad) (hk : (tok s pos).kind = 33 ∨ (tok s pos).kind = 46) :
  Calls Tryz.prog 225 #[.pointer (some ⟨b, 0, none⟩)] w fun e w' => e = .returned (zb0 (tok s pos)) ∧ Kept [b] w w' ∧ Pars w' b s (zao s pos bad) (zan s pos bad) := by
 have hn := zc4 s pos bad
 have e1 : zan s pos bad = zdz s pos bad := by rw [zan, if_pos hk]
 have e2 : zao s pos bad = pos := by rw [zao, e1, if_neg (by omega)]
 rw [e1, e2]
 clear e1 e2
 have h' := h
 obtain ⟨hlt, c0, c1, c2, c3, c4, c5, fz⟩ := h
 have hk' : (((tok s pos).kind == 33) = true) ∨ (((tok s pos).kind == 33) = false ∧ ((tok s pos).kind == 46) = true) := by
  rcases hk with hk | hk <;> simp [hk]
 clear hk
 rcases hk' with hk | ⟨hk, hk2⟩
 all_goals
  go_enter Tryz.func225, Tryz.ntmps225
  go_wp2_with fail
  refine (zd6 s pos bad b _ (h'.kept (((Kept.refl [] _).alloc _).alloc _) (by simp))).mono ?_
  rintro e w1 ⟨rfl, hk1, hp1⟩
  have hp1' := hp1
  obtain ⟨r1, r2⟩ := hk1.rules
  obtain ⟨hlt1, d0, d1, d2, d3, d4, d5, fz1⟩ := hp1
  have hz : w.heap.size + 1 < w1.heap.size := by have := hk1.size; simp at this; omega
  clear c0 c1 c2 c3 c4 c5 h'
  go_wp2_with fail
  obtain ⟨q0, q1, q2⟩ := set3 (w1 := w1) (n := w.heap.size) ((r1 _ _ hlt (by simp; omega)).trans (zft w _ _ _ _ _ 0)) ((r1 _ _ hlt (by simp; omega)).trans (zft w _ _ _ _ _ 1)) ((r1 _ _ hlt (by simp; omega)).trans (zft w _ _ _ _ _ 2)) (.int .u8 (tok s pos).kind) (.string (tok s pos).text) (.int .i64 (tok s pos).at_)
  refine bodyPost_ret (v := zb0 (tok s pos)) (by simp [results, Tryz.results225, go_sem, zb0, q0, q1, q2]) rfl ⟨rfl, ?_, ?_⟩
  ·exact ((((((Kept.refl _ _).alloc _).alloc _).trans hk1).setCell (.inr (Nat.le_refl _)) _).setCell (.inr (Nat.le_refl _)) _).setCell (.inr (Nat.le_refl _)) _
  ·exact hp1'.kept ((((Kept.refl [w.heap.size] w1).setCell (by simp) _).setCell (by simp) _).setCell (by simp) _) (by simp; omega)
set_option maxRecDepth 100000 in
theorem take_bad2 (s : ByteArray) (pos : Nat) (bad : Int) (b : Nat) (w : World) (h : Pars w b s pos bad) (hk : ¬ ((tok s pos).kind = 33 ∨ (tok s pos).kind = 46)) (hb : 0 ≤ bad) :
  Calls Tryz.prog 225 #[.pointer (some ⟨b, 0, none⟩)] w fun e w' => e = .returned (zb0 (tok s pos)) ∧ Kept [b] w w' ∧ Pars w' b s (zao s pos bad) (zan s pos bad) := by
 have e1 : zan s pos bad = bad := by rw [zan, if_neg hk]
 have e2 : zao s pos bad = pos := by rw [zao, e1, if_neg (by omega)]
 rw [e1, e2]
 clear e1 e2
 have h' := h
 obtain ⟨hlt, c0, c1, c2, c3, c4, c5, fz⟩ := h
 have hk1 : ((tok s pos).kind == 33) = false := by simp; omega
 have hk2 : ((tok s pos).kind == 46) = false := by simp; omega
 clear hk
 go_enter Tryz.func225, Tryz.ntmps225
 go_wp2_with fail
 refine bodyPost_ret (v := zb0 (tok s pos)) (by simp [results, Tryz.results225, go_sem, zb0]) rfl ⟨rfl, ?_, ?_⟩
 ·exact ((Kept.refl _ _).alloc _).alloc _
 ·exact h'.kept (((Kept.refl [] _).alloc _).alloc _) (by simp)
theorem zm6 (s : ByteArray) (i : Nat) (hi : i ≤ s.size) (hs : s.size ≤ maxLen) (w : World) :
  Calls Tryz.prog 123 #[.string s, .int .i64 i] w fun e w' => e = .returned (.tuple #[.agg #[.int .u8 (tok s i).kind, .string (tok s i).text, .int .i64 (tok s i).at_], .int .i64 (tok s i).to]) ∧ Below w.heap.size w w' := cut_any s i hi hs w
theorem zo2 (s : ByteArray) (i : Nat) (hi : i ≤ s.size) : (tok s i).to ≤ s.size := by
 have h0 := ze3 zaj s i hi
 have h1 := ze3 lowB s (skip zaj s i) h0
 have h2 := ze3 zax s (skip zaj s i) h0
 unfold tok zhv
 generalize skip zaj s i = k at *
 split
 ·simpa using h0
 ·rename_i hk
  split
  ·split
   ·exact h1
   ·split <;> exact h1
  ·split
   ·split <;> exact h2
   ·split
    ·simp; omega
    ·split
     ·rename_i h3
      simp only
      unfold zbf at h3
      split at h3
      ·split at h3
       ·split at h3
        ·omega
        ·simp at h3
       ·split at h3 <;> simp at h3
      ·simp at h3
     ·simp; omega
end
section
open Go.RowKit
theorem zj0 {W v : World} (h : Below W.heap.size W v) :
  (∀ n o, n < W.heap.size → v.cell? ⟨n, o, none⟩ = W.cell? ⟨n, o, none⟩) ∧ (∀ n o, n < W.heap.size → v.frozen? ⟨n, o, none⟩ = W.frozen? ⟨n, o, none⟩) := by
 constructor <;> intro n o hn
 ·exact World.cell?_of_block (h.block n hn)
 ·exact World.frozen?_of_block (h.block n hn)
theorem pars_next {w1 : World} {b : Nat} {s : ByteArray} {pos pos' : Nat} {bad : Int} (h : Pars w1 b s pos bad) :
  Pars ((((w1.setCell ⟨b, 1, none⟩ (.int .u8 (tok s pos').kind)).setCell ⟨b, 2, none⟩ (.string (tok s pos').text)).setCell ⟨b, 3, none⟩ (.int .i64 (tok s pos').at_)).setCell ⟨b, 4, none⟩ (.int .i64 (tok s pos').to)) b s pos' bad := by
 obtain ⟨hlt, c0, c1, c2, c3, c4, c5, fz⟩ := h
 refine ⟨by simpa using hlt, ?_, ?_, ?_, ?_, ?_, ?_, ?_⟩
 all_goals go_simp
theorem zka (w1 : World) (b : Nat) (v1 v2 v3 v4 : Value) : Kept [b] w1 ((((w1.setCell ⟨b, 1, none⟩ v1).setCell ⟨b, 2, none⟩ v2).setCell ⟨b, 3, none⟩ v3).setCell ⟨b, 4, none⟩ v4) :=
 ((((Kept.refl [b] w1).setCell (by simp) _).setCell (by simp) _).setCell (by simp) _).setCell (by simp) _
set_option maxRecDepth 100000 in
theorem take_good (s : ByteArray) (pos : Nat) (bad : Int) (b : Nat) (w : World) (h : Pars w b s pos bad) (hpos : pos ≤ s.size) (hs : s.size ≤ maxLen) (hk : ¬ ((tok s pos).kind = 33 ∨ (tok s pos).kind = 46)) (hb : bad < 0) :
  Calls Tryz.prog 225 #[.pointer (some ⟨b, 0, none⟩)] w fun e w' => e = .returned (zb0 (tok s pos)) ∧ Kept [b] w w' ∧ Pars w' b s (zao s pos bad) (zan s pos bad) := by
 have e1 : zan s pos bad = bad := by rw [zan, if_neg hk]
 have e2 : zao s pos bad = (tok s pos).to := by rw [zao, e1, if_pos (by omega)]
 rw [e1, e2]
 clear e1 e2
 have hto := zo2 s pos hpos
 have h' := h
 obtain ⟨hlt, c0, c1, c2, c3, c4, c5, fz⟩ := h
 have hk1 : ((tok s pos).kind == 33) = false := by simp; omega
 have hk2 : ((tok s pos).kind == 46) = false := by simp; omega
 clear hk
 go_enter Tryz.func225, Tryz.ntmps225
 go_wp2_with fail
 have hp2 : ∀ w1 nq, Below (((w.alloc (Obj.cells #[Value.int IntKind.u8 0, Value.string { data := #[] }, Value.int IntKind.i64 0] 233)).alloc (Obj.cells #[Value.int IntKind.u8 (tok s pos).kind, Value.string (tok s pos).text, Value.int IntKind.i64 ↑(tok s pos).at_] 233)).drewN nq).heap.size (((w.alloc (Obj.cells #[Value.int IntKind.u8 0, Value.string { data := #[] }, Value.int IntKind.i64 0] 233)).alloc (Obj.cells #[Value.int IntKind.u8 (tok s pos).kind, Value.string (tok s pos).text, Value.int IntKind.i64 ↑(tok s pos).at_] 233)).drewN nq) w1 → Pars w1 b s pos bad :=
  fun w1 nq hb => h'.kept (((((Kept.refl [] _).alloc _).alloc _).drewN _).of_below hb) (by simp)
 have HP := hide hp2
 clear hp2
 go_region_with (go_at_call 123; refine (zm6 s (tok s pos).to hto hs _).mono ?_; rintro e w1 ⟨rfl, hb1⟩; obtain ⟨hltx, x0, x1, x2, x3, x4, x5, fzx⟩ := (zaa HP w1 1 hb1).cells)
 all_goals
  obtain ⟨r1, r2⟩ := zj0 hb1
  have hz : w.heap.size + 1 < w1.heap.size := by have := hb1.size; simp at this; omega
  have hpx := zaa HP w1 1 hb1
  have HPX := hide (pars_next (pos' := (tok s pos).to) hpx)
  have HK := hide (zka w1 b (.int .u8 (tok s (tok s pos).to).kind) (.string (tok s (tok s pos).to).text) (.int .i64 (tok s (tok s pos).to).at_) (.int .i64 (tok s (tok s pos).to).to))
  clear HP hpx
  go_wp2_with fail
  obtain ⟨k1, _⟩ := (zaa HK).rules
  obtain ⟨q0, q1, q2⟩ := set3 (w1 := (((w1.setCell ⟨b, 1, none⟩ (.int .u8 (tok s (tok s pos).to).kind)).setCell ⟨b, 2, none⟩ (.string (tok s (tok s pos).to).text)).setCell ⟨b, 3, none⟩ (.int .i64 (tok s (tok s pos).to).at_)).setCell ⟨b, 4, none⟩ (.int .i64 (tok s (tok s pos).to).to)) (n := w.heap.size) ((k1 _ _ hlt (by omega)).trans ((r1 _ _ (by simp; omega)).trans (zft w _ _ _ _ _ 0))) ((k1 _ _ hlt (by omega)).trans ((r1 _ _ (by simp; omega)).trans (zft w _ _ _ _ _ 1))) ((k1 _ _ hlt (by omega)).trans ((r1 _ _ (by simp; omega)).trans (zft w _ _ _ _ _ 2))) (.int .u8 (tok s pos).kind) (.string (tok s pos).text) (.int .i64 (tok s pos).at_)
  refine bodyPost_ret (v := zb0 (tok s pos)) (by simp [results, Tryz.results225, go_sem, zb0, q0, q1, q2]) rfl ⟨rfl, ?_, ?_⟩
  ·exact ((((((((Kept.refl [b] w).alloc _).alloc _).drewN 1).of_below hb1).trans (zaa HK)).setCell (.inr (Nat.le_refl _)) _).setCell (.inr (Nat.le_refl _)) _).setCell (.inr (Nat.le_refl _)) _
  ·exact (zaa HPX).kept ((((Kept.refl [w.heap.size] _).setCell (by simp) _).setCell (by simp) _).setCell (by simp) _) (by simp; omega)
theorem zcv (s : ByteArray) (pos : Nat) (bad : Int) (b : Nat) (w : World) (h : Pars w b s pos bad) (hpos : pos ≤ s.size) (hs : s.size ≤ maxLen) :
  Calls Tryz.prog 225 #[.pointer (some ⟨b, 0, none⟩)] w fun e w' => e = .returned (zb0 (tok s pos)) ∧ Kept [b] w w' ∧ Pars w' b s (zao s pos bad) (zan s pos bad) := by
 by_cases hk : (tok s pos).kind = 33 ∨ (tok s pos).kind = 46
 ·exact take_bad s pos bad b w h hk
 ·by_cases hb : 0 ≤ bad
  ·exact take_bad2 s pos bad b w h hk hb
  ·exact take_good s pos bad b w h hpos hs hk (by omega)
theorem zam (s : ByteArray) (pos : Nat) (bad : Int) (hpos : pos ≤ s.size) : zao s pos bad ≤ s.size := by
 unfold zao; split
 ·exact zo2 s pos hpos
 ·exact hpos
def zbz (s : ByteArray) (pos : Nat) (bad : Int) (wd : ByteArray) : Nat := if isS s pos bad wd then zao s pos bad else pos
def zb9 (s : ByteArray) (pos : Nat) (bad : Int) (wd : ByteArray) : Int := if isS s pos bad wd then zan s pos bad else bad
theorem zds (s wd : ByteArray) (pos : Nat) (bad : Int) (b : Nat) (w : World) (h : Pars w b s pos bad) (hpos : pos ≤ s.size) (hs : s.size ≤ maxLen) :
  Calls Tryz.prog 185 #[.pointer (some ⟨b, 0, none⟩), .string wd] w fun e w' => e = .returned (.bool (isS s pos bad wd)) ∧ Kept [b] w w' ∧ Pars w' b s (zbz s pos bad wd) (zb9 s pos bad wd) := by
 by_cases hi : isS s pos bad wd = true
 ·rw [zbz, zb9, if_pos hi, if_pos hi]
  go_enter Tryz.func185, Tryz.ntmps185
  go_wp2_with fail
  refine (is_any s wd pos bad b _ h).mono ?_
  rintro e w1 ⟨rfl, rfl⟩
  go_wp2_with fail
  refine (zcv s pos bad b _ h hpos hs).mono ?_
  rintro e w1 ⟨rfl, hk1, hp1⟩
  go_wp2_with fail
  go_ret
  exact ⟨by rw [hi]; rfl, hk1, hp1⟩
 ·have hi' : isS s pos bad wd = false := by simpa using hi
  rw [zbz, zb9, if_neg hi, if_neg hi]
  clear hi
  go_enter Tryz.func185, Tryz.ntmps185
  go_wp2_with fail
  refine (is_any s wd pos bad b _ h).mono ?_
  rintro e w1 ⟨rfl, rfl⟩
  go_wp2_with fail
  go_ret
  exact ⟨by rw [hi']; rfl, Kept.refl _ _, h⟩
def zbn (s : ByteArray) (pos : Nat) (bad : Int) (wd : ByteArray) : Int := if isS s pos bad wd then bad else zdz s pos bad
theorem zd8 (s wd : ByteArray) (pos : Nat) (bad : Int) (b : Nat) (w : World) (h : Pars w b s pos bad) (hpos : pos ≤ s.size) (hs : s.size ≤ maxLen) :
  Calls Tryz.prog 187 #[.pointer (some ⟨b, 0, none⟩), .string wd] w fun e w' => e = .returned (.tuple #[]) ∧ Kept [b] w w' ∧ Pars w' b s (zao s pos (zbn s pos bad wd)) (zan s pos (zbn s pos bad wd)) := by
 by_cases hi : isS s pos bad wd = true
 ·rw [zbn, if_pos hi]
  go_enter Tryz.func187, Tryz.ntmps187
  go_wp2_with fail
  refine (is_any s wd pos bad b _ h).mono ?_
  rintro e w1 ⟨rfl, rfl⟩
  go_wp2_with fail
  refine (zcv s pos bad b _ h hpos hs).mono ?_
  rintro e w1 ⟨rfl, hk1, hp1⟩
  go_wp2_with fail
  go_end0
  exact ⟨rfl, hk1, hp1⟩
 ·have hi' : isS s pos bad wd = false := by simpa using hi
  rw [zbn, if_neg hi]
  clear hi
  go_enter Tryz.func187, Tryz.ntmps187
  go_wp2_with fail
  refine (is_any s wd pos bad b _ h).mono ?_
  rintro e w1 ⟨rfl, rfl⟩
  go_wp2_with fail
  refine (zd6 s pos bad b _ h).mono ?_
  rintro e w1 ⟨rfl, hk1, hp1⟩
  go_wp2_with fail
  refine (zcv s pos _ b _ hp1 hpos hs).mono ?_
  rintro e w2 ⟨rfl, hk2, hp2⟩
  go_wp2_with fail
  go_end0
  exact ⟨rfl, hk1.trans hk2, hp2⟩
end
end Go.Proofs.YtldkpahaocjdpaaGreat
