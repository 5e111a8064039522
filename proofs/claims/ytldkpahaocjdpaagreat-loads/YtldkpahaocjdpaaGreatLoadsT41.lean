/-
  The program's firstLoose and unbound: the first variable that its rule does not bind.
  The program's unbound.
-/
import Derived.Test.YtldkpahaocjdpaaGreatLoadsT40
namespace Go.Proofs.YtldkpahaocjdpaaGreat
open Go.RowKit

def looseIx (ls : List PLit) : List (Bool × ByteArray) → Nat → Option Nat
  | [], _ => none
  | t :: r, k => if t.1 && !bindsV t.2 ls then some k else looseIx ls r (k + 1)

def foundN (x : Option Nat) : Ending := .returned (.tuple #[.int .i64 (x.getD 0), .bool x.isSome])

theorem looseIx_step {ls : List PLit} {ts : List (Bool × ByteArray)} {k : Nat} (h : k < ts.length) : looseIx ls (ts.drop k) k = if ts[k].1 && !bindsV ts[k].2 ls then some k else looseIx ls (ts.drop (k + 1)) (k + 1) := by
  rw [List.drop_eq_getElem_cons h, looseIx]

set_option maxRecDepth 100000 in
set_option maxHeartbeats 8000000 in
theorem loose_v_any (w : World) (base : Nat) (pd hpd : ByteArray) (a : Option Addr) (c : Nat) (ts : List (Bool × ByteArray)) (ah : Option Addr) (nh ch : Nat) (ab : Option Addr) (cb : Nat) (ls : List (PLit × Value)) (ht : w.ownsRow base 191 1 (.slice a ts.length c) ts.length (ptCells ts)) (h : LRow w base (.slice ab ls.length cb) ls) (hl : ls.length ≤ 1000) :
    Calls Tryz.prog 118 #[.agg #[.string pd, .slice a ts.length c], .agg #[.string hpd, .slice ah nh ch, .slice ab ls.length cb]] w fun e w' => e = foundN (looseIx (ls.map (·.1)) ts 0) ∧ Below w.heap.size w w' := by
  have htm := own_max ht
  unfold maxLen at htm
  have b1 := ((Below.refl w.heap.size w).alloc (Nat.le_refl _) (.cells #[.string pd, .slice a ts.length c] 79)).alloc (by simp) (.cells #[.string hpd, .slice ah nh ch, .slice ab ls.length cb] 123)
  have hr0 : ((w.alloc (.cells #[.string pd, .slice a ts.length c] 79)).alloc (.cells #[.string hpd, .slice ah nh ch, .slice ab ls.length cb] 123)).heap[w.heap.size + 1]? = some (.cells #[.string hpd, .slice ah nh ch, .slice ab ls.length cb] 123 (0, 0)) := by
    have := heap_alloc_new (w.alloc (.cells #[.string pd, .slice a ts.length c] 79)) (.cells #[.string hpd, .slice ah nh ch, .slice ab ls.length cb] 123)
    rw [World.size_alloc] at this
    exact this
  have h1 := h.below b1
  have ht1 := own_below ht b1 (fun g e => (ht.lt g e).2)
  clear h ht
  have hay := assertVar_yes
  have han := assertVar_no
  have hnn := assertName_yes
  go_enter Tryz.func118, Tryz.ntmps118
  go_wp2_with fail
  go_loopg [13] ts.length (fun gg i wr => ∃ k : Nat, k ≤ ts.length ∧ gg = ts.length - k ∧ i = .int .i64 k ∧ LRow wr base (.slice ab ls.length cb) ls ∧ wr.ownsRow base 191 1 (.slice a ts.length c) ts.length (ptCells ts) ∧ Below w.heap.size w wr ∧ w.heap.size + 1 < wr.heap.size ∧ wr.heap[w.heap.size + 1]? = some (.cells #[.string hpd, .slice ah nh ch, .slice ab ls.length cb] 123 (0, 0)) ∧ looseIx (ls.map (·.1)) ts 0 = looseIx (ls.map (·.1)) (ts.drop k) k)
  case atStart => exact ⟨0, Nat.zero_le _, rfl, rfl, h1, ht1, b1, by simp, hr0, rfl⟩
  case round =>
    clear h1 ht1 b1 hr0
    obtain ⟨k, hk, hgk, rfl, hL, hT, hB, hz, hr, hfin⟩ := hrel
    have HF := hide hfin
    clear hfin
    by_cases hlk : k < ts.length
    · obtain ⟨g, cap, hv, hbg, hgl, hnc, hcm, hc⟩ := own_list1 hT k hlk
      injection hv with h1 h2 h3
      subst h1 h3
      have HF2 := hide ((unhide HF).trans (looseIx_step hlk))
      clear HF
      cases hb : ts[k].1 with
      | true =>
        rw [hb] at hc
        unfold tmVal at hc
        rw [if_pos rfl] at hc
        obtain ⟨r0, f0⟩ := block_cells hr 0
        obtain ⟨r1, f1⟩ := block_cells hr 1
        obtain ⟨r2, f2⟩ := block_cells hr 2
        have HR := hide hr
        clear hr
        go_wp2_with fail
        refine (binds_any wr base hpd ts[k].2 ah nh ch ab cb ls hL hl).mono ?_
        rintro e w2 ⟨rfl, hb2⟩
        have hz2 := hb2.size
        cases hq : bindsV ts[k].2 (ls.map (·.1)) with
        | false =>
          have HF3 := hide (show looseIx (ls.map (·.1)) ts 0 = some k by rw [unhide HF2, hb, hq]; rfl)
          clear HF2 hb hq r0 r1 r2 f0 f1 f2
          go_wp2_with fail
          go_ret2
          exact ⟨by rw [unhide HF3]; rfl, hB.trans (hb2.mono (by omega))⟩
        | true =>
          have HF3 := hide (show looseIx (ls.map (·.1)) ts 0 = looseIx (ls.map (·.1)) (ts.drop (k + 1)) (k + 1) by rw [unhide HF2, hb, hq]; rfl)
          have HL := hide (hL.below hb2)
          have HT := hide (own_below hT hb2 (fun g e => (hT.lt g e).2))
          have HRR := hide ((hb2.block _ hz).trans (unhide HR))
          clear HF2 hb hq r0 r1 r2 f0 f1 f2 hL hT HR
          go_wp2_with fail
          go_roundg (ts.length - (k + 1))
          case measure => omega
          case rel => exact ⟨k + 1, by omega, rfl, by go_num, unhide HL, unhide HT, hB.trans (hb2.mono (by omega)), by omega, unhide HRR, unhide HF3⟩
      | false =>
        rw [hb] at hc
        unfold tmVal at hc
        rw [if_neg (by decide)] at hc
        have HF3 := hide (show looseIx (ls.map (·.1)) ts 0 = looseIx (ls.map (·.1)) (ts.drop (k + 1)) (k + 1) by rw [unhide HF2, hb]; rfl)
        have HL := hide hL
        have HT := hide hT
        have HRR := hide hr
        clear HF2 hb hL hT hr
        go_wp2_with fail
        go_roundg (ts.length - (k + 1))
        case measure => omega
        case rel => exact ⟨k + 1, by omega, rfl, by go_num, unhide HL, unhide HT, hB, hz, unhide HRR, unhide HF3⟩
    · have HF2 := hide (show looseIx (ls.map (·.1)) ts 0 = none by rw [unhide HF, List.drop_of_length_le (by omega)]; rfl)
      clear HF hL hT hr
      go_wp2_with fail
      go_ret2
      exact ⟨by rw [unhide HF2]; rfl, hB⟩

def bodyAt (rs : List PRule) (n : Nat) : List PLit := match rs[n]? with | some R => R.body | none => []

def unboundI (rs : List PRule) : List PMen → Int
  | [] => -1
  | M :: r => match looseIx (bodyAt rs M.num) M.ts 0 with | some i => (M.pl i : Int) | none => unboundI rs r

theorem unboundI_step {rs : List PRule} {ms : List (PMen × Value)} {k : Nat} (h : k < ms.length) : unboundI rs ((ms.map (·.1)).drop k) = match looseIx (bodyAt rs ms[k].1.num) ms[k].1.ts 0 with | some i => (ms[k].1.pl i : Int) | none => unboundI rs ((ms.map (·.1)).drop (k + 1)) := by
  rw [List.drop_eq_getElem_cons (by simpa using h), unboundI]; simp

theorem loose_lt {ls : List PLit} : ∀ {ts : List (Bool × ByteArray)} {k i : Nat}, looseIx ls ts k = some i → i < k + ts.length
  | [], k, i, h => by simp [looseIx] at h
  | t :: r, k, i, h => by
    unfold looseIx at h
    split at h
    · injection h with h; subst h; simp
    · have := loose_lt h; simp; omega

theorem PRIn.below {w w' : World} {base : Nat} {r : PR} (h : PRIn w base r) (hb : Below w.heap.size w w') : PRIn w' base r :=
  ⟨own_below h.hd hb (fun g e => (h.hd.lt g e).2), h.bo.below hb, h.eq⟩
theorem RRow.below {w w' : World} {base : Nat} {rv : Value} {rs : List PR} (h : RRow w base rv rs) (hb : Below w.heap.size w w') : RRow w' base rv rs :=
  ⟨own_below h.row hb (fun g e => (h.row.lt g e).2), fun r hr => (h.each r hr).below hb⟩
theorem pr_len (r : PR) : r.cells.length = 3 := rfl

/-- The text's box, its rules, its mentions; old memory. -/
structure UnbInv (w : World) (base : Nat) (rv mv : Value) (rs : List PR) (ms : List (PMen × Value)) (wr : World) : Prop where
  rules : RRow wr base rv rs
  men : MRow wr base mv ms
  box : wr.heap[w.heap.size]? = some (.cells #[rv, mv] 100 (0, 0))
  below : Below w.heap.size w wr
  sz : w.heap.size < wr.heap.size

theorem UnbInv.next {w : World} {base : Nat} {rv mv : Value} {rs : List PR} {ms : List (PMen × Value)} {wr w1 : World} (h : UnbInv w base rv mv rs ms wr) (hb : Below wr.heap.size wr w1) : UnbInv w base rv mv rs ms w1 :=
  have hs := h.sz
  have hs1 := hb.size
  ⟨h.rules.below hb, h.men.below hb, (hb.block _ hs).trans h.box, h.below.trans (hb.mono (by omega)), by omega⟩
theorem UnbInv.start {w : World} {base : Nat} {rv mv : Value} {rs : List PR} {ms : List (PMen × Value)} (h : RRow w base rv rs) (h' : MRow w base mv ms) : UnbInv w base rv mv rs ms (w.alloc (.cells #[rv, mv] 100)) :=
  have b1 := (Below.refl w.heap.size w).alloc (Nat.le_refl _) (.cells #[rv, mv] 100)
  ⟨h.below b1, h'.below b1, heap_alloc_new w _, b1, by simp⟩
end Go.Proofs.YtldkpahaocjdpaaGreat

namespace Go.Proofs.YtldkpahaocjdpaaGreat
open Go.RowKit

theorem LRow.drew {w : World} {base : Nat} {bv : Value} {ls : List (PLit × Value)} (h : LRow w base bv ls) : LRow w.drew base bv ls := ⟨h.row.drew, fun x hx => (h.each x hx).drew⟩

set_option maxRecDepth 100000 in
set_option maxHeartbeats 8000000 in
theorem unbound_any (w : World) (base : Nat) (ar : Option Addr) (cr : Nat) (rs : List PR) (am : Option Addr) (cm : Nat) (ms : List (PMen × Value)) (h : RRow w base (.slice ar rs.length cr) rs) (h' : MRow w base (.slice am ms.length cm) ms) (hl : ms.length ≤ 1000) (hn : ∀ x ∈ ms, x.1.num < rs.length ∧ x.1.ts.length ≤ 4) (hb3 : ∀ r ∈ rs, r.bs.length ≤ 1000) :
    Calls Tryz.prog 76 #[.agg #[.slice ar rs.length cr, .slice am ms.length cm]] w fun e w' => e = found (unboundI (rs.map (·.R)) (ms.map (·.1))) ∧ Below w.heap.size w w' := by
  have h0 := UnbInv.start h h'
  have hrx := own_max h.row
  unfold maxLen at hrx
  clear h h'
  go_enter Tryz.func76, Tryz.ntmps76
  go_wp2_with fail
  go_loopg [11] ms.length (fun gg i wr => ∃ k : Nat, k ≤ ms.length ∧ gg = ms.length - k ∧ i = .int .i64 k ∧ UnbInv w base (.slice ar rs.length cr) (.slice am ms.length cm) rs ms wr ∧ unboundI (rs.map (·.R)) (ms.map (·.1)) = unboundI (rs.map (·.R)) ((ms.map (·.1)).drop k))
  case atStart => exact ⟨0, Nat.zero_le _, rfl, rfl, h0, rfl⟩
  case round =>
    clear h0
    obtain ⟨k, hk, hgk, rfl, hinv, hfin⟩ := hrel
    have HF := hide hfin
    clear hfin
    by_cases hlk : k < ms.length
    · have HF2 := hide ((unhide HF).trans (unboundI_step hlk))
      obtain ⟨g, cap, hv, hbg, hgl, hnc, hcm, hc⟩ := row_at men_len hinv.men.row k hlk
      injection hv with h1 h2 h3
      subst h1 h3
      obtain ⟨at1, ct1, hbt⟩ := own_slice (hinv.men.each _ (List.getElem_mem hlk))
      have q0 := hc 0 (by omega)
      have q1 := hc 1 (by omega)
      have q2 := hc 2 (by omega)
      have q3 := hc 3 (by omega)
      have q4 := hc 4 (by omega)
      have q5 := hc 5 (by omega)
      have q6 := hc 6 (by omega)
      have q7 := hc 7 (by omega)
      have q8 := hc 8 (by omega)
      have q9 := hc 9 (by omega)
      simp only [PMen.cells, hbt, Nat.add_zero, List.getElem?_cons_zero, List.getElem?_cons_succ] at q0 q1 q2 q3 q4 q5 q6 q7 q8 q9
      obtain ⟨hnum, hts⟩ := hn _ (List.getElem_mem hlk)
      obtain ⟨gr, capr, hvr, hbgr, hglr, hncr, hcmr, hcr⟩ := row_at pr_len hinv.rules.row ms[k].1.num hnum
      injection hvr with h4 h5 h6
      subst h4 h6
      have hin := hinv.rules.each _ (List.getElem_mem hnum)
      obtain ⟨ah, ch, hbh⟩ := own_slice hin.hd
      obtain ⟨ab, cb, hbb⟩ := own_slice hin.bo.row
      have r0 := hcr 0 (by omega)
      have r1 := hcr 1 (by omega)
      have r2 := hcr 2 (by omega)
      simp only [PR.cells, hbh, hbb, Nat.add_zero, List.getElem?_cons_zero, List.getElem?_cons_succ] at r0 r1 r2
      obtain ⟨x0, xf0⟩ := block_cells hinv.box 0
      have bA := (Below.refl wr.heap.size wr).alloc (Nat.le_refl _) (.cells #[.int .i64 ms[k].1.num, .bool ms[k].1.neg, .string ms[k].1.pd, .slice at1 ms[k].1.ts.length ct1, .int .i64 ms[k].1.start, .int .i64 ms[k].1.place, .int .i64 (ms[k].1.pl 0), .int .i64 (ms[k].1.pl 1), .int .i64 (ms[k].1.pl 2), .int .i64 (ms[k].1.pl 3)] 221)
      have hI := hinv.next bA
      have hmn : (wr.alloc (.cells #[.int .i64 ms[k].1.num, .bool ms[k].1.neg, .string ms[k].1.pd, .slice at1 ms[k].1.ts.length ct1, .int .i64 ms[k].1.start, .int .i64 ms[k].1.place, .int .i64 (ms[k].1.pl 0), .int .i64 (ms[k].1.pl 1), .int .i64 (ms[k].1.pl 2), .int .i64 (ms[k].1.pl 3)] 221)).heap[wr.heap.size]? = _ := heap_alloc_new wr _
      have hbody : bodyAt (rs.map (·.R)) ms[k].1.num = rs[ms[k].1.num].bs.map (·.1) := by
        unfold bodyAt
        rw [List.getElem?_map, List.getElem?_eq_getElem hnum]
        exact hin.eq.symm
      rw [hbody] at HF2
      have hTT := hI.men.each _ (List.getElem_mem hlk)
      rw [hbt] at hTT
      have hLL := (hI.rules.each _ (List.getElem_mem hnum)).bo
      rw [hbb] at hLL
      have HC := hide (fun (W : World) (hW : Below (wr.alloc (.cells #[.int .i64 ms[k].1.num, .bool ms[k].1.neg, .string ms[k].1.pd, .slice at1 ms[k].1.ts.length ct1, .int .i64 ms[k].1.start, .int .i64 ms[k].1.place, .int .i64 (ms[k].1.pl 0), .int .i64 (ms[k].1.pl 1), .int .i64 (ms[k].1.pl 2), .int .i64 (ms[k].1.pl 3)] 221)).heap.size (wr.alloc (.cells #[.int .i64 ms[k].1.num, .bool ms[k].1.neg, .string ms[k].1.pd, .slice at1 ms[k].1.ts.length ct1, .int .i64 ms[k].1.start, .int .i64 ms[k].1.place, .int .i64 (ms[k].1.pl 0), .int .i64 (ms[k].1.pl 1), .int .i64 (ms[k].1.pl 2), .int .i64 (ms[k].1.pl 3)] 221)) W) => (And.intro (hI.next hW) ((hW.block wr.heap.size (by simp)).trans hmn)))
      have hbl := hb3 _ (List.getElem_mem hnum)
      have HTT := hide hTT.drew
      have HLL := hide hLL.drew
      have hsz := hinv.sz
      clear hc hcr HF hinv hI hbt hin hbh hbb hbody hmn hTT hLL bA
      go_wp2_with fail
      go_upto_region 4 with fail
      go_cut [6, 7] (fun v6 v7 wc => v6 = .int .i64 ((looseIx (rs[ms[k].1.num].bs.map (·.1)) ms[k].1.ts 0).getD 0) ∧ v7 = .bool (looseIx (rs[ms[k].1.num].bs.map (·.1)) ms[k].1.ts 0).isSome ∧ UnbInv w base (.slice (some ⟨gr, 0, none⟩) rs.length cr) (.slice (some ⟨g, 0, none⟩) ms.length cm) rs ms wc ∧ wc.heap[wr.heap.size]? = some (.cells #[.int .i64 ms[k].1.num, .bool ms[k].1.neg, .string ms[k].1.pd, .slice at1 ms[k].1.ts.length ct1, .int .i64 ms[k].1.start, .int .i64 ms[k].1.place, .int .i64 (ms[k].1.pl 0), .int .i64 (ms[k].1.pl 1), .int .i64 (ms[k].1.pl 2), .int .i64 (ms[k].1.pl 3)] 221 (0, 0)))
      case first =>
        go_region_with (go_at_call 118; refine (loose_v_any _ base ms[k].1.pd rs[ms[k].1.num].R.pd at1 ct1 ms[k].1.ts ah rs[ms[k].1.num].R.ts.length ch ab cb rs[ms[k].1.num].bs (unhide HTT) (unhide HLL) hbl).mono ?_; rintro e w2 ⟨he, hb2⟩; unfold foundN at he; subst he)
        all_goals
          go_wp2_with fail
          go_meet
          case rel => exact ⟨rfl, rfl, (unhide HC w2 (Below.drewR' hb2)).1, (unhide HC w2 (Below.drewR' hb2)).2⟩
      case rest =>
        obtain ⟨rfl, rfl, hI2, hmn2⟩ := hcut
        have HI2 := hide hI2
        have hsz2 := hI2.sz
        clear hI2 q0 q1 q2 q3 q4 q5 q6 q7 q8 q9 r0 r1 r2 x0 xf0 HC HTT HLL
        cases hx : looseIx (rs[ms[k].1.num].bs.map (·.1)) ms[k].1.ts 0 with
        | none =>
          rw [hx] at HF2
          clear hx
          have HF3 := hide (unhide HF2)
          clear HF2
          go_wp2_with fail
          go_roundg (ms.length - (k + 1))
          case measure => omega
          case rel => exact ⟨k + 1, by omega, rfl, by go_num, unhide HI2, unhide HF3⟩
        | some i =>
          have hi4 : i < 4 := by have := loose_lt hx; omega
          rw [hx] at HF2
          clear hx
          have hii : i = 0 ∨ i = 1 ∨ i = 2 ∨ i = 3 := by omega
          have y6 := (block_cells hmn2 6).1
          have y7 := (block_cells hmn2 7).1
          have y8 := (block_cells hmn2 8).1
          have y9 := (block_cells hmn2 9).1
          have hF : unboundI (rs.map (·.R)) (ms.map (·.1)) = (ms[k].1.pl i : Int) := unhide HF2
          have HF3 := hide hF
          clear HF2 hF hmn2
          rcases hii with rfl | rfl | rfl | rfl
          all_goals
            go_wp2_with fail
            go_ret2
            refine ⟨?_, (unhide HI2).below⟩
            rw [unhide HF3]
            unfold found
            rw [if_pos (by omega)]
            simp
    · have HF2 := hide (show unboundI (rs.map (·.R)) (ms.map (·.1)) = -1 by rw [unhide HF, List.drop_of_length_le (by simp; omega)]; rfl)
      have HI := hide hinv
      clear HF hinv
      go_wp2_with fail
      go_ret2
      exact ⟨by rw [unhide HF2]; rfl, (unhide HI).below⟩
end Go.Proofs.YtldkpahaocjdpaaGreat
