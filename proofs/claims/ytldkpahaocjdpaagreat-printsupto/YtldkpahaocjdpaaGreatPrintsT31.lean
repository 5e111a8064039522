/-
  The program's firstLoose and unbound: the first variable that its rule does not bind.
  The program's unbound.
  The program's LinksOf: a map from each head's predicate to the predicates of its bodies' literals.
-/
import Derived.Test.YtldkpahaocjdpaaGreatPrintsT30
import Derived.Maps.AppendAt
namespace Go.Proofs.YtldkpahaocjdpaaGreat
open Go.RowKit

def looseIx (ls : List PLit) : List (Bool × ByteArray) → Nat → Option Nat
  | [], _ => none
  | t :: r, k => if t.1 && !bindsV t.2 ls then some k else looseIx ls r (k + 1)

def foundN (x : Option Nat) : Ending := .returned (.tuple #[.int .i64 (x.getD 0), .bool x.isSome])

theorem looseIx_step {ls : List PLit} {ts : List (Bool × ByteArray)} {k : Nat} (h : k < ts.length) : looseIx ls (ts.drop k) k = if ts[k].1 && !bindsV ts[k].2 ls then some k else looseIx ls (ts.drop (k + 1)) (k + 1) := by
  rw [List.drop_eq_getElem_cons h, looseIx]

set_option maxRecDepth 100000 in
set_option maxHeartbeats 8000000 in
theorem loose_v_any (w : World) (base : Nat) (pd hpd : ByteArray) (a : Option Addr) (c : Nat) (ts : List (Bool × ByteArray)) (ah : Option Addr) (nh ch : Nat) (ab : Option Addr) (cb : Nat) (ls : List (PLit × Value)) (ht : w.ownsRow base 191 1 (.slice a ts.length c) ts.length (ptCells ts)) (h : LRow w base (.slice ab ls.length cb) ls) (hl : ls.length ≤ 1000) :
    Calls Tryz.prog 118 #[.agg #[.string pd, .slice a ts.length c], .agg #[.string hpd, .slice ah nh ch, .slice ab ls.length cb]] w fun e w' => e = foundN (looseIx (ls.map (·.1)) ts 0) ∧ Below w.heap.size w w' := by
  have htm := own_max ht
  unfold maxLen at htm
  have b1 := ((Below.refl w.heap.size w).alloc (Nat.le_refl _) (.cells #[.string pd, .slice a ts.length c] 79)).alloc (by simp) (.cells #[.string hpd, .slice ah nh ch, .slice ab ls.length cb] 123)
  have hr0 : ((w.alloc (.cells #[.string pd, .slice a ts.length c] 79)).alloc (.cells #[.string hpd, .slice ah nh ch, .slice ab ls.length cb] 123)).heap[w.heap.size + 1]? = some (.cells #[.string hpd, .slice ah nh ch, .slice ab ls.length cb] 123 (0, 0)) := by
    have := heap_alloc_new (w.alloc (.cells #[.string pd, .slice a ts.length c] 79)) (.cells #[.string hpd, .slice ah nh ch, .slice ab ls.length cb] 123)
    rw [World.size_alloc] at this
    exact this
  have h1 := h.below b1
  have ht1 := own_below ht b1 (fun g e => (ht.lt g e).2)
  clear h ht
  have hay := assertVar_yes
  have han := assertVar_no
  have hnn := assertName_yes
  go_enter Tryz.func118, Tryz.ntmps118
  go_wp2_with fail
  go_loopg [13] ts.length (fun gg i wr => ∃ k : Nat, k ≤ ts.length ∧ gg = ts.length - k ∧ i = .int .i64 k ∧ LRow wr base (.slice ab ls.length cb) ls ∧ wr.ownsRow base 191 1 (.slice a ts.length c) ts.length (ptCells ts) ∧ Below w.heap.size w wr ∧ w.heap.size + 1 < wr.heap.size ∧ wr.heap[w.heap.size + 1]? = some (.cells #[.string hpd, .slice ah nh ch, .slice ab ls.length cb] 123 (0, 0)) ∧ looseIx (ls.map (·.1)) ts 0 = looseIx (ls.map (·.1)) (ts.drop k) k)
  case atStart => exact ⟨0, Nat.zero_le _, rfl, rfl, h1, ht1, b1, by simp, hr0, rfl⟩
  case round =>
    clear h1 ht1 b1 hr0
    obtain ⟨k, hk, hgk, rfl, hL, hT, hB, hz, hr, hfin⟩ := hrel
    have HF := hide hfin
    clear hfin
    by_cases hlk : k < ts.length
    · obtain ⟨g, cap, hv, hbg, hgl, hnc, hcm, hc⟩ := own_list1 hT k hlk
      injection hv with h1 h2 h3
      subst h1 h3
      have HF2 := hide ((unhide HF).trans (looseIx_step hlk))
      clear HF
      cases hb : ts[k].1 with
      | true =>
        rw [hb] at hc
        unfold tmVal at hc
        rw [if_pos rfl] at hc
        obtain ⟨r0, f0⟩ := block_cells hr 0
        obtain ⟨r1, f1⟩ := block_cells hr 1
        obtain ⟨r2, f2⟩ := block_cells hr 2
        have HR := hide hr
        clear hr
        go_wp2_with fail
        refine (binds_any wr base hpd ts[k].2 ah nh ch ab cb ls hL hl).mono ?_
        rintro e w2 ⟨rfl, hb2⟩
        have hz2 := hb2.size
        cases hq : bindsV ts[k].2 (ls.map (·.1)) with
        | false =>
          have HF3 := hide (show looseIx (ls.map (·.1)) ts 0 = some k by rw [unhide HF2, hb, hq]; rfl)
          clear HF2 hb hq r0 r1 r2 f0 f1 f2
          go_wp2_with fail
          go_ret2
          exact ⟨by rw [unhide HF3]; rfl, hB.trans (hb2.mono (by omega))⟩
        | true =>
          have HF3 := hide (show looseIx (ls.map (·.1)) ts 0 = looseIx (ls.map (·.1)) (ts.drop (k + 1)) (k + 1) by rw [unhide HF2, hb, hq]; rfl)
          have HL := hide (hL.below hb2)
          have HT := hide (own_below hT hb2 (fun g e => (hT.lt g e).2))
          have HRR := hide ((hb2.block _ hz).trans (unhide HR))
          clear HF2 hb hq r0 r1 r2 f0 f1 f2 hL hT HR
          go_wp2_with fail
          go_roundg (ts.length - (k + 1))
          case measure => omega
          case rel => exact ⟨k + 1, by omega, rfl, by go_num, unhide HL, unhide HT, hB.trans (hb2.mono (by omega)), by omega, unhide HRR, unhide HF3⟩
      | false =>
        rw [hb] at hc
        unfold tmVal at hc
        rw [if_neg (by decide)] at hc
        have HF3 := hide (show looseIx (ls.map (·.1)) ts 0 = looseIx (ls.map (·.1)) (ts.drop (k + 1)) (k + 1) by rw [unhide HF2, hb]; rfl)
        have HL := hide hL
        have HT := hide hT
        have HRR := hide hr
        clear HF2 hb hL hT hr
        go_wp2_with fail
        go_roundg (ts.length - (k + 1))
        case measure => omega
        case rel => exact ⟨k + 1, by omega, rfl, by go_num, unhide HL, unhide HT, hB, hz, unhide HRR, unhide HF3⟩
    · have HF2 := hide (show looseIx (ls.map (·.1)) ts 0 = none by rw [unhide HF, List.drop_of_length_le (by omega)]; rfl)
      clear HF hL hT hr
      go_wp2_with fail
      go_ret2
      exact ⟨by rw [unhide HF2]; rfl, hB⟩

def bodyAt (rs : List PRule) (n : Nat) : List PLit := match rs[n]? with | some R => R.body | none => []

def unboundI (rs : List PRule) : List PMen → Int
  | [] => -1
  | M :: r => match looseIx (bodyAt rs M.num) M.ts 0 with | some i => (M.pl i : Int) | none => unboundI rs r

theorem unboundI_step {rs : List PRule} {ms : List (PMen × Value)} {k : Nat} (h : k < ms.length) : unboundI rs ((ms.map (·.1)).drop k) = match looseIx (bodyAt rs ms[k].1.num) ms[k].1.ts 0 with | some i => (ms[k].1.pl i : Int) | none => unboundI rs ((ms.map (·.1)).drop (k + 1)) := by
  rw [List.drop_eq_getElem_cons (by simpa using h), unboundI]; simp

theorem loose_lt {ls : List PLit} : ∀ {ts : List (Bool × ByteArray)} {k i : Nat}, looseIx ls ts k = some i → i < k + ts.length
  | [], k, i, h => by simp [looseIx] at h
  | t :: r, k, i, h => by
    unfold looseIx at h
    split at h
    · injection h with h; subst h; simp
    · have := loose_lt h; simp; omega

theorem PRIn.below {w w' : World} {base : Nat} {r : PR} (h : PRIn w base r) (hb : Below w.heap.size w w') : PRIn w' base r :=
  ⟨own_below h.hd hb (fun g e => (h.hd.lt g e).2), h.bo.below hb, h.eq⟩
theorem RRow.below {w w' : World} {base : Nat} {rv : Value} {rs : List PR} (h : RRow w base rv rs) (hb : Below w.heap.size w w') : RRow w' base rv rs :=
  ⟨own_below h.row hb (fun g e => (h.row.lt g e).2), fun r hr => (h.each r hr).below hb⟩
theorem pr_len (r : PR) : r.cells.length = 3 := rfl

/-- The text's box, its rules, its mentions; old memory. -/
structure UnbInv (w : World) (base : Nat) (rv mv : Value) (rs : List PR) (ms : List (PMen × Value)) (wr : World) : Prop where
  rules : RRow wr base rv rs
  men : MRow wr base mv ms
  box : wr.heap[w.heap.size]? = some (.cells #[rv, mv] 100 (0, 0))
  below : Below w.heap.size w wr
  sz : w.heap.size < wr.heap.size

theorem UnbInv.next {w : World} {base : Nat} {rv mv : Value} {rs : List PR} {ms : List (PMen × Value)} {wr w1 : World} (h : UnbInv w base rv mv rs ms wr) (hb : Below wr.heap.size wr w1) : UnbInv w base rv mv rs ms w1 :=
  have hs := h.sz
  have hs1 := hb.size
  ⟨h.rules.below hb, h.men.below hb, (hb.block _ hs).trans h.box, h.below.trans (hb.mono (by omega)), by omega⟩
theorem UnbInv.start {w : World} {base : Nat} {rv mv : Value} {rs : List PR} {ms : List (PMen × Value)} (h : RRow w base rv rs) (h' : MRow w base mv ms) : UnbInv w base rv mv rs ms (w.alloc (.cells #[rv, mv] 100)) :=
  have b1 := (Below.refl w.heap.size w).alloc (Nat.le_refl _) (.cells #[rv, mv] 100)
  ⟨h.below b1, h'.below b1, heap_alloc_new w _, b1, by simp⟩
end Go.Proofs.YtldkpahaocjdpaaGreat

namespace Go.Proofs.YtldkpahaocjdpaaGreat
open Go.RowKit

theorem LRow.drew {w : World} {base : Nat} {bv : Value} {ls : List (PLit × Value)} (h : LRow w base bv ls) : LRow w.drew base bv ls := ⟨h.row.drew, fun x hx => (h.each x hx).drew⟩

set_option maxRecDepth 100000 in
set_option maxHeartbeats 8000000 in
theorem unbound_any (w : World) (base : Nat) (ar : Option Addr) (cr : Nat) (rs : List PR) (am : Option Addr) (cm : Nat) (ms : List (PMen × Value)) (h : RRow w base (.slice ar rs.length cr) rs) (h' : MRow w base (.slice am ms.length cm) ms) (hl : ms.length ≤ 1000) (hn : ∀ x ∈ ms, x.1.num < rs.length ∧ x.1.ts.length ≤ 4) (hb3 : ∀ r ∈ rs, r.bs.length ≤ 1000) :
    Calls Tryz.prog 76 #[.agg #[.slice ar rs.length cr, .slice am ms.length cm]] w fun e w' => e = found (unboundI (rs.map (·.R)) (ms.map (·.1))) ∧ Below w.heap.size w w' := by
  have h0 := UnbInv.start h h'
  have hrx := own_max h.row
  unfold maxLen at hrx
  clear h h'
  go_enter Tryz.func76, Tryz.ntmps76
  go_wp2_with fail
  go_loopg [11] ms.length (fun gg i wr => ∃ k : Nat, k ≤ ms.length ∧ gg = ms.length - k ∧ i = .int .i64 k ∧ UnbInv w base (.slice ar rs.length cr) (.slice am ms.length cm) rs ms wr ∧ unboundI (rs.map (·.R)) (ms.map (·.1)) = unboundI (rs.map (·.R)) ((ms.map (·.1)).drop k))
  case atStart => exact ⟨0, Nat.zero_le _, rfl, rfl, h0, rfl⟩
  case round =>
    clear h0
    obtain ⟨k, hk, hgk, rfl, hinv, hfin⟩ := hrel
    have HF := hide hfin
    clear hfin
    by_cases hlk : k < ms.length
    · have HF2 := hide ((unhide HF).trans (unboundI_step hlk))
      obtain ⟨g, cap, hv, hbg, hgl, hnc, hcm, hc⟩ := row_at men_len hinv.men.row k hlk
      injection hv with h1 h2 h3
      subst h1 h3
      obtain ⟨at1, ct1, hbt⟩ := own_slice (hinv.men.each _ (List.getElem_mem hlk))
      have q0 := hc 0 (by omega)
      have q1 := hc 1 (by omega)
      have q2 := hc 2 (by omega)
      have q3 := hc 3 (by omega)
      have q4 := hc 4 (by omega)
      have q5 := hc 5 (by omega)
      have q6 := hc 6 (by omega)
      have q7 := hc 7 (by omega)
      have q8 := hc 8 (by omega)
      have q9 := hc 9 (by omega)
      simp only [PMen.cells, hbt, Nat.add_zero, List.getElem?_cons_zero, List.getElem?_cons_succ] at q0 q1 q2 q3 q4 q5 q6 q7 q8 q9
      obtain ⟨hnum, hts⟩ := hn _ (List.getElem_mem hlk)
      obtain ⟨gr, capr, hvr, hbgr, hglr, hncr, hcmr, hcr⟩ := row_at pr_len hinv.rules.row ms[k].1.num hnum
      injection hvr with h4 h5 h6
      subst h4 h6
      have hin := hinv.rules.each _ (List.getElem_mem hnum)
      obtain ⟨ah, ch, hbh⟩ := own_slice hin.hd
      obtain ⟨ab, cb, hbb⟩ := own_slice hin.bo.row
      have r0 := hcr 0 (by omega)
      have r1 := hcr 1 (by omega)
      have r2 := hcr 2 (by omega)
      simp only [PR.cells, hbh, hbb, Nat.add_zero, List.getElem?_cons_zero, List.getElem?_cons_succ] at r0 r1 r2
      obtain ⟨x0, xf0⟩ := block_cells hinv.box 0
      have bA := (Below.refl wr.heap.size wr).alloc (Nat.le_refl _) (.cells #[.int .i64 ms[k].1.num, .bool ms[k].1.neg, .string ms[k].1.pd, .slice at1 ms[k].1.ts.length ct1, .int .i64 ms[k].1.start, .int .i64 ms[k].1.place, .int .i64 (ms[k].1.pl 0), .int .i64 (ms[k].1.pl 1), .int .i64 (ms[k].1.pl 2), .int .i64 (ms[k].1.pl 3)] 221)
      have hI := hinv.next bA
      have hmn : (wr.alloc (.cells #[.int .i64 ms[k].1.num, .bool ms[k].1.neg, .string ms[k].1.pd, .slice at1 ms[k].1.ts.length ct1, .int .i64 ms[k].1.start, .int .i64 ms[k].1.place, .int .i64 (ms[k].1.pl 0), .int .i64 (ms[k].1.pl 1), .int .i64 (ms[k].1.pl 2), .int .i64 (ms[k].1.pl 3)] 221)).heap[wr.heap.size]? = _ := heap_alloc_new wr _
      have hbody : bodyAt (rs.map (·.R)) ms[k].1.num = rs[ms[k].1.num].bs.map (·.1) := by
        unfold bodyAt
        rw [List.getElem?_map, List.getElem?_eq_getElem hnum]
        exact hin.eq.symm
      rw [hbody] at HF2
      have hTT := hI.men.each _ (List.getElem_mem hlk)
      rw [hbt] at hTT
      have hLL := (hI.rules.each _ (List.getElem_mem hnum)).bo
      rw [hbb] at hLL
      have HC := hide (fun (W : World) (hW : Below (wr.alloc (.cells #[.int .i64 ms[k].1.num, .bool ms[k].1.neg, .string ms[k].1.pd, .slice at1 ms[k].1.ts.length ct1, .int .i64 ms[k].1.start, .int .i64 ms[k].1.place, .int .i64 (ms[k].1.pl 0), .int .i64 (ms[k].1.pl 1), .int .i64 (ms[k].1.pl 2), .int .i64 (ms[k].1.pl 3)] 221)).heap.size (wr.alloc (.cells #[.int .i64 ms[k].1.num, .bool ms[k].1.neg, .string ms[k].1.pd, .slice at1 ms[k].1.ts.length ct1, .int .i64 ms[k].1.start, .int .i64 ms[k].1.place, .int .i64 (ms[k].1.pl 0), .int .i64 (ms[k].1.pl 1), .int .i64 (ms[k].1.pl 2), .int .i64 (ms[k].1.pl 3)] 221)) W) => (And.intro (hI.next hW) ((hW.block wr.heap.size (by simp)).trans hmn)))
      have hbl := hb3 _ (List.getElem_mem hnum)
      have HTT := hide hTT.drew
      have HLL := hide hLL.drew
      have hsz := hinv.sz
      clear hc hcr HF hinv hI hbt hin hbh hbb hbody hmn hTT hLL bA
      go_wp2_with fail
      go_upto_region 4 with fail
      go_cut [6, 7] (fun v6 v7 wc => v6 = .int .i64 ((looseIx (rs[ms[k].1.num].bs.map (·.1)) ms[k].1.ts 0).getD 0) ∧ v7 = .bool (looseIx (rs[ms[k].1.num].bs.map (·.1)) ms[k].1.ts 0).isSome ∧ UnbInv w base (.slice (some ⟨gr, 0, none⟩) rs.length cr) (.slice (some ⟨g, 0, none⟩) ms.length cm) rs ms wc ∧ wc.heap[wr.heap.size]? = some (.cells #[.int .i64 ms[k].1.num, .bool ms[k].1.neg, .string ms[k].1.pd, .slice at1 ms[k].1.ts.length ct1, .int .i64 ms[k].1.start, .int .i64 ms[k].1.place, .int .i64 (ms[k].1.pl 0), .int .i64 (ms[k].1.pl 1), .int .i64 (ms[k].1.pl 2), .int .i64 (ms[k].1.pl 3)] 221 (0, 0)))
      case first =>
        go_region_with (go_at_call 118; refine (loose_v_any _ base ms[k].1.pd rs[ms[k].1.num].R.pd at1 ct1 ms[k].1.ts ah rs[ms[k].1.num].R.ts.length ch ab cb rs[ms[k].1.num].bs (unhide HTT) (unhide HLL) hbl).mono ?_; rintro e w2 ⟨he, hb2⟩; unfold foundN at he; subst he)
        all_goals
          go_wp2_with fail
          go_meet
          case rel => exact ⟨rfl, rfl, (unhide HC w2 (Below.drewR' hb2)).1, (unhide HC w2 (Below.drewR' hb2)).2⟩
      case rest =>
        obtain ⟨rfl, rfl, hI2, hmn2⟩ := hcut
        have HI2 := hide hI2
        have hsz2 := hI2.sz
        clear hI2 q0 q1 q2 q3 q4 q5 q6 q7 q8 q9 r0 r1 r2 x0 xf0 HC HTT HLL
        cases hx : looseIx (rs[ms[k].1.num].bs.map (·.1)) ms[k].1.ts 0 with
        | none =>
          rw [hx] at HF2
          clear hx
          have HF3 := hide (unhide HF2)
          clear HF2
          go_wp2_with fail
          go_roundg (ms.length - (k + 1))
          case measure => omega
          case rel => exact ⟨k + 1, by omega, rfl, by go_num, unhide HI2, unhide HF3⟩
        | some i =>
          have hi4 : i < 4 := by have := loose_lt hx; omega
          rw [hx] at HF2
          clear hx
          have hii : i = 0 ∨ i = 1 ∨ i = 2 ∨ i = 3 := by omega
          have y6 := (block_cells hmn2 6).1
          have y7 := (block_cells hmn2 7).1
          have y8 := (block_cells hmn2 8).1
          have y9 := (block_cells hmn2 9).1
          have hF : unboundI (rs.map (·.R)) (ms.map (·.1)) = (ms[k].1.pl i : Int) := unhide HF2
          have HF3 := hide hF
          clear HF2 hF hmn2
          rcases hii with rfl | rfl | rfl | rfl
          all_goals
            go_wp2_with fail
            go_ret2
            refine ⟨?_, (unhide HI2).below⟩
            rw [unhide HF3]
            unfold found
            rw [if_pos (by omega)]
            simp
    · have HF2 := hide (show unboundI (rs.map (·.R)) (ms.map (·.1)) = -1 by rw [unhide HF, List.drop_of_length_le (by simp; omega)]; rfl)
      have HI := hide hinv
      clear HF hinv
      go_wp2_with fail
      go_ret2
      exact ⟨by rw [unhide HF2]; rfl, (unhide HI).below⟩
end Go.Proofs.YtldkpahaocjdpaaGreat

namespace Go.Proofs.YtldkpahaocjdpaaGreat
open Go.RowKit Go.Maps

abbrev Edge := ByteArray × ByteArray
def tgt (E : List Edge) (p : ByteArray) : List ByteArray := (E.filter fun e => e.1.toList == p.toList).map (·.2)
def strs (l : List ByteArray) : List Value := l.map Value.string
def edgesB (pd : ByteArray) (l : List PLit) : List Edge := l.map fun x => (pd, x.pd)
def edgesP (rs : List PRule) : List Edge := rs.flatMap fun R => edgesB R.pd R.body

theorem tgt_same (E : List Edge) (p q : ByteArray) : tgt (E ++ [(p, q)]) p = tgt E p ++ [q] := by
  simp [tgt]
theorem tgt_other {E : List Edge} {p q x : ByteArray} (h : x ≠ p) : tgt (E ++ [(p, q)]) x = tgt E x := by
  have h1 : ¬ p.toList = x.toList := fun e => h (bytes_eq.1 (by simpa using e.symm))
  simp [tgt, h1]
theorem tgt_len (E : List Edge) (p : ByteArray) : (tgt E p).length ≤ E.length := by
  simp only [tgt, List.length_map]; exact List.length_filter_le _ _

/-- The map of the links in block b, its rows behind it. -/
structure Lk (b n : Nat) (E : List Edge) (V : ByteArray → Option Value) (wr : World) : Prop where
  map : SMap Tryz.prog 9 wr b n V
  rows : ∀ p v, V p = some v → wr.ownsRow (b + 1) 9 1 v (tgt E p).length (strs (tgt E p))
  non : ∀ p, V p = none → tgt E p = []
  apart : ∀ p q v u, V p = some v → V q = some u → p ≠ q → v.ownBlock = none ∨ v.ownBlock ≠ u.ownBlock

theorem Lk.below {b n : Nat} {E : List Edge} {V : ByteArray → Option Value} {wr w1 : World} (h : Lk b n E V wr) (hb : Below wr.heap.size wr w1) : Lk b n E V w1 :=
  ⟨h.map.block (hb.block _ h.map.lt), fun p v hv => own_below (h.rows p v hv) hb (fun g e => ((h.rows p v hv).lt g e).2), h.non, h.apart⟩

/-- What lies at a key. -/
theorem Lk.at_ {b n : Nat} {E : List Edge} {V : ByteArray → Option Value} {wr : World} (h : Lk b n E V wr) (p : ByteArray) : wr.ownsRow (b + 1) 9 1 ((V p).getD (.slice none 0 0)) (tgt E p).length (strs (tgt E p)) := by
  cases hv : V p with
  | none => rw [h.non p hv]; exact World.ownsRow_nil _ _ _ _
  | some v => exact h.rows p v hv

/-- One link more. -/
theorem Lk.put {b n : Nat} {E : List Edge} {V : ByteArray → Option Value} {wr w5 w6 : World} (h : Lk b n E V wr) {p q : ByteArray} {v' : Value} (hg : wr.grownBy w5 ((V p).getD (.slice none 0 0)).ownBlock)
    (hown : w5.ownsRow (b + 1) 9 1 v' ((tgt E p).length + 1) (strs (tgt E p) ++ [.string q])) (hloc : v'.ownBlock = ((V p).getD (.slice none 0 0)).ownBlock ∨ v'.ownBlock = some wr.heap.size)
    (hmap : SMap Tryz.prog 9 w6 b (n + 1) (updV V p v')) (hg6 : w5.grownBy w6 (some b)) :
    Lk b (n + 1) (E ++ [(p, q)]) (updV V p v') w6 ∧ Kept (b :: ((V p).getD (.slice none 0 0)).ownBlock.toList) wr w6 := by
  have hu := h.at_ p
  have hne : ∀ x v, V x = some v → x ≠ p → v.ownBlock = none ∨ v.ownBlock ≠ ((V p).getD (.slice none 0 0)).ownBlock := fun x v hv hx => by
    cases hp : V p with
    | none => cases v.ownBlock <;> simp [Value.ownBlock]
    | some u => exact h.apart x p v u hv hp hx
  have hlow : ∀ {v : Value} {m : Nat} {xs : List Value}, w5.ownsRow (b + 1) 9 1 v m xs → w6.ownsRow (b + 1) 9 1 v m xs := fun {v m xs} hv => own_block hv (fun g e => hg6.block g ((hv.lt g e).2) (by have := (hv.lt g e).1; simp; omega))
  have hnew : ∀ x v, V x = some v → x ≠ p → v.ownBlock = none ∨ v.ownBlock ≠ v'.ownBlock := fun x v hv hx => by
    rcases hloc with h1 | h1
    · rw [h1]; exact hne x v hv hx
    · cases hvb : v.ownBlock with
      | none => exact .inl rfl
      | some g =>
        refine .inr (fun e => ?_)
        rw [h1] at e
        injection e with e
        have := ((h.rows x v hv).lt g hvb).2
        omega
  refine ⟨⟨hmap, fun x v hv => ?_, fun x hx => ?_, fun x y v u hv hu' hxy => ?_⟩, ?_⟩
  · by_cases e : x = p
    · subst e
      rw [updV_same] at hv
      injection hv with hv
      subst hv
      rw [tgt_same]
      have := hlow hown
      simpa [strs] using this
    · rw [updV_other e] at hv
      rw [tgt_other e]
      exact hlow ((h.rows x v hv).kept hg (hne x v hv e))
  · by_cases e : x = p
    · subst e; rw [updV_same] at hx; cases hx
    · rw [updV_other e] at hx; rw [tgt_other e]; exact h.non x hx
  · by_cases e : x = p
    · subst e
      rw [updV_same] at hv
      injection hv with hv
      subst hv
      have hyx : y ≠ x := fun e => hxy e.symm
      rw [updV_other hyx] at hu'
      rcases hnew y u hu' hyx with h1 | h1
      · cases hb : v'.ownBlock with
        | none => exact .inl rfl
        | some g => exact .inr (by rw [h1]; simp)
      · exact .inr (fun e => h1 e.symm)
    · rw [updV_other e] at hv
      by_cases e2 : y = p
      · subst e2
        rw [updV_same] at hu'
        injection hu' with hu'
        subst hu'
        exact hnew x v hv e
      · rw [updV_other e2] at hu'
        exact h.apart x y v u hv hu' hxy
  · have hz := hg.size
    have hz6 := hg6.size
    refine ⟨hg6.os.trans hg.os, hg6.tape.trans hg.tape, hg6.output.trans hg.output, by omega, fun k hk hn => ?_⟩
    rw [hg6.block k (by omega) (by simp at hn ⊢; omega), hg.block k hk (fun e => hn (by simp [← e]))]

theorem str_cell (w1 : World) (o : Obj) (x : ByteArray) (j : Nat) (u : Value) (h : ([Value.string x] : List Value)[j]? = some u) : ((w1.alloc o).alloc (Obj.cells #[Value.string x] 9)).cell? ((⟨w1.heap.size + 1, 0, none⟩ : Addr).add j) = some u := by
  have e : (⟨w1.heap.size + 1, 0, none⟩ : Addr).add j = ⟨w1.heap.size + 1, j, none⟩ := by unfold Addr.add; split <;> simp_all
  rw [e, World.cell?_alloc_at _ _ _ _ (by simp)]
  simpa using h
theorem str_one (x : ByteArray) : ∀ u ∈ ([Value.string x] : List Value), u.oneCell' = true := by
  intro u hu; simp at hu; subst hu; rfl

def Est (rs : List PR) (k : Nat) (pd : ByteArray) (ls : List (PLit × Value)) (j : Nat) : List Edge := edgesP ((rs.map (·.R)).take k) ++ edgesB pd ((ls.map (·.1)).take j)

theorem edgesP_snoc (l : List PRule) (R : PRule) : edgesP (l ++ [R]) = edgesP l ++ edgesB R.pd R.body := by simp [edgesP]
theorem rules_take {rs : List PR} {k : Nat} (h : k < rs.length) : (rs.map (·.R)).take (k + 1) = (rs.map (·.R)).take k ++ [rs[k].R] := by
  rw [List.take_succ_eq_append_getElem (by simpa using h)]; simp

theorem edges_next {rs : List PR} {k : Nat} (h : k < rs.length) (he : rs[k].bs.map (·.1) = rs[k].R.body) {j : Nat} (hj : rs[k].bs.length ≤ j) : Est rs k rs[k].R.pd rs[k].bs j = edgesP ((rs.map (·.R)).take (k + 1)) := by
  unfold Est
  rw [rules_take h, edgesP_snoc, List.take_of_length_le (l := rs[k].bs.map (·.1)) (by simpa using hj), he]
theorem est_next {rs : List PR} {k : Nat} {pd : ByteArray} {ls : List (PLit × Value)} {j : Nat} (hj : j < ls.length) : Est rs k pd ls (j + 1) = Est rs k pd ls j ++ [(pd, ls[j].1.pd)] := by
  unfold Est
  rw [List.take_succ_eq_append_getElem (by simpa using hj)]
  simp [edgesB]

set_option maxRecDepth 100000 in
set_option maxHeartbeats 8000000 in
theorem links_any (w : World) (base : Nat) (ar : Option Addr) (cr : Nat) (rs : List PR) (h : RRow w base (.slice ar rs.length cr) rs) (hpd : ∀ r ∈ rs, r.R.pd.size ≤ 800) (hb3 : ∀ r ∈ rs, r.bs.length ≤ 3) (hr30 : rs.length ≤ 30) :
    Calls Tryz.prog 119 #[.slice ar rs.length cr] w fun e w' => e = .returned (.map (some w.heap.size)) ∧ Below w.heap.size w w' ∧ w.heap.size < w'.heap.size ∧ ∃ V, Lk w.heap.size (edgesP (rs.map (·.R))).length (edgesP (rs.map (·.R))) V w' := by
  have hmm := @run_makeMap Tryz.prog
  obtain ⟨i0, hi, hz0, hz1, hz2⟩ := info_parts infoString
  have h0 : Lk w.heap.size 0 [] (fun _ => none) (w.alloc (.map #[] 0)) := ⟨SMap.made _ _ w, fun _ _ hv => (by cases hv), fun _ _ => rfl, fun _ _ _ _ hv => (by cases hv)⟩
  have b0 : Below w.heap.size w (w.alloc (.map #[] 0)) := (Below.refl _ _).alloc (Nat.le_refl _) _
  have hE : ∀ k, k ≤ rs.length → (edgesP ((rs.map (·.R)).take k)).length ≤ 3 * k := by
    intro k
    induction k with
    | zero => intro _; simp [edgesP]
    | succ k ih =>
      intro hk
      rw [rules_take (by omega), edgesP_snoc]
      have h1 := ih (by omega)
      have h2 := hb3 _ (List.getElem_mem (show k < rs.length by omega))
      have h3 := (h.each _ (List.getElem_mem (show k < rs.length by omega))).eq
      have h4 : rs[k].R.body.length = rs[k].bs.length := by rw [← h3]; simp
      simp only [List.length_append, edgesB, List.length_map]
      omega
  have HE := hide hE
  have HR := hide h
  clear h hE
  go_enter Tryz.func119, Tryz.ntmps119
  go_wp2_with fail
  go_loopg [12] rs.length (fun gg i wr => ∃ (k : Nat) (V : ByteArray → Option Value), k ≤ rs.length ∧ gg = rs.length - k ∧ i = .int .i64 k ∧ Below w.heap.size w wr ∧ w.heap.size < wr.heap.size ∧ Lk w.heap.size (edgesP ((rs.map (·.R)).take k)).length (edgesP ((rs.map (·.R)).take k)) V wr)
  case atStart => exact ⟨0, _, Nat.zero_le _, rfl, rfl, b0, by simp, h0⟩
  case round =>
    clear h0 b0
    obtain ⟨k, V, hk, hgk, rfl, hB, hsz, hlk0⟩ := hrel
    by_cases hlk : k < rs.length
    · have hRw := (unhide HR).below hB
      obtain ⟨gr, capr, hvr, hbgr, hglr, hncr, hcmr, hcr⟩ := row_at pr_len hRw.row k hlk
      injection hvr with h4 h5 h6
      subst h4 h6
      have hin := hRw.each _ (List.getElem_mem hlk)
      have hin0 := (unhide HR).each _ (List.getElem_mem hlk)
      obtain ⟨ah, ch, hbh⟩ := own_slice hin.hd
      obtain ⟨ab, cb, hbb⟩ := own_slice hin.bo.row
      have r0 := hcr 0 (by omega)
      have r1 := hcr 1 (by omega)
      have r2 := hcr 2 (by omega)
      simp only [PR.cells, hbh, hbb, Nat.add_zero, List.getElem?_cons_zero, List.getElem?_cons_succ] at r0 r1 r2
      have bA := (Below.refl wr.heap.size wr).alloc (Nat.le_refl _) (.cells #[.string rs[k].R.pd, .slice ah rs[k].R.ts.length ch, .slice ab rs[k].bs.length cb] 123)
      have hrb : (wr.alloc (.cells #[.string rs[k].R.pd, .slice ah rs[k].R.ts.length ch, .slice ab rs[k].bs.length cb] 123)).heap[wr.heap.size]? = _ := heap_alloc_new wr _
      have hB1 := hB.trans (bA.mono (by omega))
      have hl1 := hlk0.below bA
      have hbo := hin0.bo
      rw [hbb] at hbo
      have HBO := hide hbo
      have HEQ := hide hin0.eq
      have hbl := hb3 _ (List.getElem_mem hlk)
      have hp8 := hpd _ (List.getElem_mem hlk)
      have hkl : rs[k].R.pd.size ≤ maxLen := by unfold maxLen; omega
      have hlen := unhide HE k hk
      have hL0 : Lk w.heap.size (Est rs k rs[k].R.pd rs[k].bs 0).length (Est rs k rs[k].R.pd rs[k].bs 0) V (wr.alloc (.cells #[.string rs[k].R.pd, .slice ah rs[k].R.ts.length ch, .slice ab rs[k].bs.length cb] 123)) := by
        have : Est rs k rs[k].R.pd rs[k].bs 0 = edgesP ((rs.map (·.R)).take k) := by simp [Est, edgesB]
        rw [this]; exact hl1
      have hlen0 : (Est rs k rs[k].R.pd rs[k].bs 0).length ≤ 3 * k + 0 := by simpa [Est, edgesB] using hlen
      clear hcr hin hin0 hbh hbb hl1 hRw hbo hlk0 bA hlen
      generalize hn1 : wr.heap.size = n1 at *
      go_wp2_with fail
      go_loopg [19] rs[k].bs.length (fun gg2 j wj => ∃ (jj : Nat) (V : ByteArray → Option Value), jj ≤ rs[k].bs.length ∧ gg2 = rs[k].bs.length - jj ∧ j = .int .i64 jj ∧ Below w.heap.size w wj ∧ n1 < wj.heap.size ∧ wj.heap[n1]? = some (.cells #[.string rs[k].R.pd, .slice ah rs[k].R.ts.length ch, .slice ab rs[k].bs.length cb] 123 (0, 0)) ∧ Lk w.heap.size (Est rs k rs[k].R.pd rs[k].bs jj).length (Est rs k rs[k].R.pd rs[k].bs jj) V wj ∧ (Est rs k rs[k].R.pd rs[k].bs jj).length ≤ 3 * k + jj)
      case atStart => exact ⟨0, V, Nat.zero_le _, rfl, rfl, hB1, by simp [hn1], hrb, hL0, hlen0⟩
      case round =>
        clear hL0 hlen0 hB1 hrb r0 r1 r2 hB
        obtain ⟨j, V, hj, hgj, rfl, hB, hsz2, hrb, hL, hlen⟩ := hrel
        by_cases hjl : j < rs[k].bs.length
        · have hbw := (unhide HBO).below hB
          obtain ⟨g, cap, hv, hbg, hgl, hnc, hcm, hc⟩ := row_at pl_len hbw.row j hjl
          injection hv with h1 h2 h3
          subst h1 h3
          obtain ⟨at1, ct1, hbt⟩ := own_slice (hbw.each _ (List.getElem_mem hjl))
          have q0 := hc 0 (by omega)
          have q1 := hc 1 (by omega)
          have q2 := hc 2 (by omega)
          simp only [PLit.cells, hbt, Nat.add_zero, List.getElem?_cons_zero, List.getElem?_cons_succ] at q0 q1 q2
          obtain ⟨c0, f0⟩ := block_cells hrb 0
          have bA := ((Below.refl wr.heap.size wr).alloc (Nat.le_refl _) (.cells #[.bool rs[k].bs[j].1.neg, .string rs[k].bs[j].1.pd, .slice at1 rs[k].bs[j].1.ts.length ct1] 183)).alloc (by simp) (.cells #[.string rs[k].bs[j].1.pd] 9)
          have bA1 := (Below.refl wr.heap.size wr).alloc (Nat.le_refl _) (.cells #[.bool rs[k].bs[j].1.neg, .string rs[k].bs[j].1.pd, .slice at1 rs[k].bs[j].1.ts.length ct1] 183)
          have hmap := (hL.below bA1).map
          have hL2 := hL.below bA
          have hu := hL2.at_ rs[k].R.pd
          obtain ⟨au, cu, heu⟩ := own_slice hu
          have htl := tgt_len (Est rs k rs[k].R.pd rs[k].bs j) rs[k].R.pd
          have hu' := hu
          rw [heu] at hu'
          have HL2 := hide hL2
          have HEN := hide (est_next (rs := rs) (k := k) (pd := rs[k].R.pd) hjl)
          have hrb2 := (bA.block n1 hsz2).trans hrb
          have HRB := hide hrb2
          have HBA := hide bA
          have HUN := hide (own_notT hu' (e := 123) (by decide))
          have HUL := hide (fun g e => (hu'.lt g e).1)
          clear hc hbt hL hL2 hu hrb hrb2 bA bA1 hbw
          go_wp2_with (first | (at_lookup; refine wp_look _ rfl _ _ 224 rfl 9 33 Tryz.underlying9 Tryz.underlying224 (Tryz.zeroValue33 _) w.heap.size (Est rs k rs[k].R.pd rs[k].bs j).length V rfl hmap rs[k].R.pd rfl hkl _ heu ?_) | (at_builtin; refine wpList_append_own_at _ rfl _ _ 33 rfl (w.heap.size + 1) 9 i0 _ 1 16 Tryz.underlying33 hi hz0 hz1 hz2 rfl (by decide) _ _ _ rfl hu' ⟨wr.heap.size + 1, 0, none⟩ 1 1 [.string rs[k].bs[j].1.pd] rfl rfl (str_cell wr _ _) (str_one _) (by unfold maxLen; omega) (by omega) (by simp; omega) ?_))
          intro v5 w5 hown5 hg5 hnil5 hloc5
          obtain ⟨a5, cap5, rfl⟩ := own_slice hown5
          rw [← heu] at hg5 hloc5
          have hz5 := hg5.size
          have hm5 : SMap Tryz.prog 9 w5 w.heap.size (Est rs k rs[k].R.pd rs[k].bs j).length V := (unhide HL2).map.block (hg5.block _ (unhide HL2).map.lt (fun e => by rw [heu] at e; have := unhide HUL _ e.symm; omega))
          have HO5 := hide hown5
          have HG5 := hide hg5
          have HC5 := hide hloc5
          clear hown5 hg5 hnil5 hloc5 hmap hu'
          go_wp2_with (at_mapUpdate; refine wp_put _ rfl _ _ _ 224 rfl 9 33 Tryz.underlying9 Tryz.underlying224 w.heap.size (Est rs k rs[k].R.pd rs[k].bs j).length V rfl hm5 (by unfold maxLen; omega) rs[k].R.pd _ (by rfl) (by rfl) hkl ?_)
          intro w6 hm6 hg6
          obtain ⟨hL6, hK6⟩ := (unhide HL2).put (q := rs[k].bs[j].1.pd) (unhide HG5) (unhide HO5) (by simpa using unhide HC5) hm6 hg6
          rw [heu] at hK6
          have hr6 := cells_keptT (unhide HRB) hK6 (fun x hx => by
            rcases List.mem_cons.1 hx with rfl | hx
            · exact .inl (by omega)
            · exact .inr (unhide HUN x hx))
          have hB6 : Below w.heap.size w w6 := below_kept (hB.trans ((unhide HBA).mono (by omega))) hK6 (by simp; omega) (fun x hx => by
            rcases List.mem_cons.1 hx with rfl | hx
            · omega
            · have := unhide HUL x (by simpa using hx); omega)
          have hz6 := hK6.size
          simp at hz6
          have HL6 := hide hL6
          have HR6 := hide hr6
          clear hL6 hK6 hr6 hm6 hg6 hm5 HG5 HO5 HC5
          go_wp2_with fail
          go_roundg (rs[k].bs.length - (j + 1))
          case measure => omega
          case rel => exact ⟨j + 1, _, by omega, rfl, by go_num, hB6, by omega, unhide HR6, by rw [unhide HEN, List.length_append]; exact unhide HL6, by rw [unhide HEN]; simp; omega⟩
        · have HNX := hide (edges_next hlk (unhide HEQ) (j := j) (by omega))
          have HL := hide hL
          clear hL hrb
          go_wp2_with fail
          go_roundg (rs.length - (k + 1))
          case measure => omega
          case rel => exact ⟨k + 1, V, by omega, rfl, by go_num, hB, by omega, by rw [← unhide HNX]; exact unhide HL⟩
    · have e : (rs.map (·.R)).take k = rs.map (·.R) := List.take_of_length_le (by simp; omega)
      rw [e] at hlk0
      have HL := hide hlk0
      clear hlk0 e
      go_wp2_with fail
      go_ret
      exact ⟨rfl, hB, hsz, V, unhide HL⟩
end Go.Proofs.YtldkpahaocjdpaaGreat
