/-
  Plain: an atom as the program's reader reads it; how the mentions lie in memory.
  The program's reader: atom.
-/
import Derived.Test.YtldkpahaocjdpaaGreatQueriesT07
import Derived.Test.YtldkpahaocjdpaaGreatQueriesT08
import Derived.Deep.AppendLies
import Derived.Deep.RegionLaw
set_option maxHeartbeats 16000000
namespace Go.Proofs.YtldkpahaocjdpaaGreat
section
open Go.RowKit
structure PMen where
 num : Nat
 neg : Bool
 pd : ByteArray
 ts : List (Bool × ByteArray)
 start : Nat
 place : Nat
 pl : Nat → Nat
def PMen.cells (M : PMen) (tv : Value) : List Value := [.int .i64 M.num, .bool M.neg, .string M.pd, tv, .int .i64 M.start, .int .i64 M.place, .int .i64 (M.pl 0), .int .i64 (M.pl 1), .int .i64 (M.pl 2), .int .i64 (M.pl 3)]
def zea (ms : List (PMen × Value)) : List Value := ms.flatMap fun x => x.1.cells x.2
structure MRow (w : World) (base : Nat) (mv : Value) (ms : List (PMen × Value)) : Prop where
 row : w.ownsRow base 221 10 mv ms.length (zea ms)
 each : ∀ x ∈ ms, w.ownsRow base 191 1 x.2 x.1.ts.length (zbj x.1.ts)
theorem MRow.kept {B : List Nat} {w w' : World} {base : Nat} {mv : Value} {ms : List (PMen × Value)} (h : MRow w base mv ms) (k : Kept B w w') (hB : ∀ x ∈ B, x < base ∨ w.heap.size ≤ x) : MRow w' base mv ms := by
 have k' : Kept (B.filter (· < base)) w w' := ⟨k.os, k.tape, k.output, k.size, fun i hi hn => k.block i hi (fun hm => by
  rcases hB i hm with h1 | h1
  ·exact hn (by simp [hm, h1])
  ·omega)⟩
 exact ⟨zay h.row k' (by simp), fun x hx => zay (h.each x hx) k' (by simp)⟩
inductive PRes where
 | no (pos : Nat)
 | yes (pos : Nat) (pd : ByteArray) (ts : List (Bool × ByteArray)) (pl : Nat → Nat)
def zby (s : ByteArray) (pos : Nat) : PRes :=
 if (zae s pos).1 = 2 then
  (if (zae s (zae s pos).2.2).1 = 5 then
   (if (zat s 4 (zae s (zae s pos).2.2).2.2 [] (fun _ => 0)).1 then
    .yes (zat s 4 (zae s (zae s pos).2.2).2.2 [] (fun _ => 0)).2.1 (zbp s pos) (zat s 4 (zae s (zae s pos).2.2).2.2 [] (fun _ => 0)).2.2.1 (zat s 4 (zae s (zae s pos).2.2).2.2 [] (fun _ => 0)).2.2.2
   else .no (zat s 4 (zae s (zae s pos).2.2).2.2 [] (fun _ => 0)).2.1)
  else .yes (zae s pos).2.2 (zbp s pos) [] (fun _ => 0))
 else .no pos
theorem menStart (w : World) (num : Nat) (neg : Bool) (start place : Nat) (o : Obj) : MCells ((w.alloc o).alloc (.cells #[.int .i64 num, .bool neg, .string { data := #[] }, .slice none 0 0, .int .i64 start, .int .i64 place, .int .i64 0, .int .i64 0, .int .i64 0, .int .i64 0] 221)) (w.heap.size + 1) num neg { data := #[] } (.slice none 0 0) start place (fun _ => 0) := by
 refine ⟨by simp, ?_, ?_, ?_, ?_, ?_, ?_, fun i hi => ?_, fun o => ?_⟩
 all_goals first | (rw [World.cell?_alloc_at _ _ _ _ (by simp)]; rfl) | (rw [World.frozen?_alloc_at _ _ _ _ (by simp)]) | skip
 rw [World.cell?_alloc_at _ _ _ _ (by simp)]
 have : i = 0 ∨ i = 1 ∨ i = 2 ∨ i = 3 := by omega
 rcases this with rfl | rfl | rfl | rfl <;> rfl
structure RA (w : World) (n : Nat) : Prop where
 lt : n < w.heap.size
 c0 : w.cell? ⟨n, 0, none⟩ = some (.string { data := #[] })
 c1 : w.cell? ⟨n, 1, none⟩ = some (.slice none 0 0)
 fz : ∀ o, w.frozen? ⟨n, o, none⟩ = false
theorem RA.kept {B : List Nat} {w w' : World} {n : Nat} (h : RA w n) (k : Kept B w w') (hn : n ∉ B) : RA w' n :=
 ⟨Nat.lt_of_lt_of_le h.lt k.size, (k.cell h.lt hn).trans h.c0, (k.cell h.lt hn).trans h.c1, fun o => (k.frozen h.lt hn).trans (h.fz o)⟩
structure AInv (w : World) (b : Nat) (s : ByteArray) (num : Nat) (mv : Value) (neg : Bool) (start place : Nat) (pd : ByteArray) (tv : Value) (pl : Nat → Nat) (pos : Nat) (wr : World) : Prop where
 rdr : Rdr wr b s pos num mv
 hp : pos ≤ s.size
 mc : MCells wr (w.heap.size + 1) num neg pd tv start place pl
 ra : RA wr w.heap.size
 kept : Kept [b] w wr
 bw : b < w.heap.size
theorem AInv.call {w : World} {b : Nat} {s : ByteArray} {num : Nat} {mv : Value} {neg : Bool} {start place : Nat} {pd : ByteArray} {tv : Value} {pl : Nat → Nat} {pos pos' : Nat} {wr w1 : World} (h : AInv w b s num mv neg start place pd tv pl pos wr) (k : Kept [b] wr w1) (hr : Rdr w1 b s pos' num mv) (hp : pos' ≤ s.size) : AInv w b s num mv neg start place pd tv pl pos' w1 :=
 have h2 := h.bw
 ⟨hr, hp, h.mc.kept k (by simp; omega), h.ra.kept k (by simp; omega), h.kept.trans k, h.bw⟩
theorem AInv.same {w : World} {b : Nat} {s : ByteArray} {num : Nat} {mv : Value} {neg : Bool} {start place : Nat} {pd : ByteArray} {tv : Value} {pl : Nat → Nat} {pos : Nat} {wr w1 : World} (h : AInv w b s num mv neg start place pd tv pl pos wr) (k : Below wr.heap.size wr w1) : AInv w b s num mv neg start place pd tv pl pos w1 :=
 have kk := (Kept.refl [] wr).of_below k
 ⟨h.rdr.kept kk (by simp), h.hp, h.mc.kept kk (by simp), h.ra.kept kk (by simp), h.kept.of_below k, h.bw⟩
theorem AInv.pred {w : World} {b : Nat} {s : ByteArray} {num : Nat} {mv : Value} {neg : Bool} {start place : Nat} {pd : ByteArray} {tv : Value} {pl : Nat → Nat} {pos : Nat} {wr : World} (h : AInv w b s num mv neg start place pd tv pl pos wr) (p : ByteArray) : AInv w b s num mv neg start place p tv pl pos (wr.setCell ⟨w.heap.size + 1, 2, none⟩ (.string p)) := by
 have h2 := h.bw
 have hm := h.mc
 have k : Kept [w.heap.size + 1] wr (wr.setCell ⟨w.heap.size + 1, 2, none⟩ (.string p)) := (Kept.refl _ _).setCell (by simp) _
 refine ⟨h.rdr.kept k (by simp; omega), h.hp, ⟨by simpa using hm.lt, ?_, ?_, zex hm.c2, ?_, ?_, ?_, fun i hi => ?_, fun o => by simpa using hm.fz o⟩, h.ra.kept k (by simp), h.kept.setCell (.inr (by simp)) _, h.bw⟩
 ·rw [za0 (by omega)]; exact hm.c0
 ·rw [za0 (by omega)]; exact hm.c1
 ·rw [za0 (by omega)]; exact hm.c3
 ·rw [za0 (by omega)]; exact hm.c4
 ·rw [za0 (by omega)]; exact hm.c5
 ·rw [za0 (by omega)]; exact hm.cp i hi
theorem AInv.start {w : World} {b : Nat} {s : ByteArray} {num : Nat} {mv : Value} {pos : Nat} (neg : Bool) (start : Nat) (h : Rdr w b s pos num mv) (hp : pos ≤ s.size) : AInv w b s num mv neg start (zae s pos).2.1 { data := #[] } (.slice none 0 0) (fun _ => 0) pos ((w.alloc (Obj.cells #[Value.string { data := #[] }, Value.slice none 0 0] 79)).alloc (Obj.cells #[Value.int IntKind.i64 ↑num, Value.bool neg, Value.string { data := #[] }, Value.slice none 0 0, Value.int IntKind.i64 ↑start, Value.int IntKind.i64 ↑(zae s pos).snd.fst, Value.int IntKind.i64 0, Value.int IntKind.i64 0, Value.int IntKind.i64 0, Value.int IntKind.i64 0] 221)).drew := by
 have k := (((Kept.refl [] w).alloc (Obj.cells #[Value.string { data := #[] }, Value.slice none 0 0] 79)).alloc (Obj.cells #[Value.int IntKind.i64 ↑num, Value.bool neg, Value.string { data := #[] }, Value.slice none 0 0, Value.int IntKind.i64 ↑start, Value.int IntKind.i64 ↑(zae s pos).snd.fst, Value.int IntKind.i64 0, Value.int IntKind.i64 0, Value.int IntKind.i64 0, Value.int IntKind.i64 0] 221)).drew
 refine ⟨h.kept k (by simp), hp, (menStart w num neg start (zae s pos).2.1 _).kept ((Kept.refl [] _).drew) (by simp), ?_, k.mono (by simp), h.lt⟩
 refine RA.kept ⟨by simp; omega, ?_, ?_, fun o => ?_⟩ ((Kept.refl [] _).drew) (by simp)
 ·rw [World.cell?_alloc_past _ _ _ (by simp), World.cell?_alloc_at _ _ _ _ rfl]; rfl
 ·rw [World.cell?_alloc_past _ _ _ (by simp), World.cell?_alloc_at _ _ _ _ rfl]; rfl
 ·rw [World.frozen?_alloc_past _ _ _ (by simp), World.frozen?_alloc_at _ _ _ _ rfl]
theorem set2 {w1 : World} {n : Nat} (h : RA w1 n) (v0 v1 : Value) : ((w1.setCell ⟨n, 0, none⟩ v0).setCell ⟨n, 1, none⟩ v1).cell? ⟨n, 0, none⟩ = some v0 ∧ ((w1.setCell ⟨n, 0, none⟩ v0).setCell ⟨n, 1, none⟩ v1).cell? ⟨n, 1, none⟩ = some v1 :=
 ⟨by rw [za0 (by omega)]; exact zex h.c0, zex (by rw [za0 (by omega)]; exact h.c1)⟩
theorem zns (ms : List (PMen × Value)) (M : PMen) (tv : Value) : zea (ms ++ [(M, tv)]) = zea ms ++ M.cells tv := by simp [zea]
theorem men_one (M : PMen) (a : Option Addr) (n c : Nat) : ∀ u ∈ M.cells (.slice a n c), u.oneCell' = true := by
 intro u hu; simp [PMen.cells] at hu; rcases hu with rfl | rfl | rfl | rfl | rfl | rfl | rfl | rfl | rfl | rfl <;> rfl
theorem far_not {g n cap : Nat} {mv : Value} (hd : (Value.slice (some ⟨g, 0, none⟩) n cap).ownBlock = none ∨ (Value.slice (some ⟨g, 0, none⟩) n cap).ownBlock ≠ mv.ownBlock) : g ∉ mv.ownBlock.toList := fun hm => by
 have hm' : mv.ownBlock = some g := by simpa using hm
 rcases hd with hd | hd
 ·cases hd
 ·exact hd (by rw [hm']; rfl)
theorem men_end {w wr W w5 : World} {b : Nat} {s : ByteArray} {num : Nat} {mv : Value} {neg : Bool} {start place : Nat} {pd : ByteArray} {tv : Value} {pl : Nat → Nat} {pos : Nat} {ts : List (Bool × ByteArray)} {ms : List (PMen × Value)} {v' : Value}
  (h : AInv w b s num mv neg start place pd tv pl pos wr) (hms : MRow wr (b + 1) mv ms) (hmw : ∀ k, mv.ownBlock = some k → k < w.heap.size) (hts : wr.ownsRow w.heap.size 191 1 tv ts.length (zbj ts))
  (hW : ∀ k, k < wr.heap.size → W.heap[k]? = wr.heap[k]?) (hS : wr.heap.size ≤ W.heap.size) (hos : W.os = wr.os) (htp : W.tape = wr.tape) (hou : W.output = wr.output) (hg : W.grownBy w5 mv.ownBlock)
  (hown : w5.ownsRow (b + 1) 221 10 v' (ms.length + 1) (zea ms ++ (PMen.mk num neg pd ts start place pl).cells tv)) :
  Kept (b :: mv.ownBlock.toList) w (w5.setCell ⟨b, 5, none⟩ v') ∧ Rdr (w5.setCell ⟨b, 5, none⟩ v') b s pos num v' ∧ MRow (w5.setCell ⟨b, 5, none⟩ v') (b + 1) v' (ms ++ [(⟨num, neg, pd, ts, start, place, pl⟩, tv)]) ∧ (w5.setCell ⟨b, 5, none⟩ v').ownsRow w.heap.size 191 1 tv ts.length (zbj ts) ∧ RA (w5.setCell ⟨b, 5, none⟩ v') w.heap.size ∧ MCells (w5.setCell ⟨b, 5, none⟩ v') (w.heap.size + 1) num neg pd tv start place pl ∧ Rdr w5 b s pos num mv := by
 have hbw := h.bw
 have hs5 := hg.size
 have k5 : Kept mv.ownBlock.toList wr w5 := ⟨hg.os.trans hos, hg.tape.trans htp, hg.output.trans hou, by omega, fun k hk hn => (hg.block k (by omega) (fun e => hn (by rw [← e]; simp))).trans (hW k hk)⟩
 have hbn : b ∉ mv.ownBlock.toList := fun hm => by
  have := (hms.row.lt b (by simpa using hm)).1; omega
 have hnn : ∀ x, w.heap.size ≤ x → x ∉ mv.ownBlock.toList := fun x hx hm => by
  have := hmw x (by simpa using hm); omega
 have kb : Kept [b] w5 (w5.setCell ⟨b, 5, none⟩ v') := (Kept.refl _ _).setCell (by simp) _
 have r5 := h.rdr.kept k5 hbn
 have far : ∀ {base : Nat} {v : Value} {n : Nat} {xs : List Value}, b + 1 ≤ base → wr.ownsRow base 191 1 v n xs → (w5.setCell ⟨b, 5, none⟩ v').ownsRow base 191 1 v n xs := by
  intro base v n xs hbb hx
  have hd := own_ne hx hms.row (by decide)
  refine ⟨hx.1, ?_⟩
  rcases hx.2 with hn | ⟨g, cap, cur, rfl, hb, hgg, rest⟩
  ·exact .inl hn
  ·have hl := (Array.getElem?_eq_some_iff.1 hgg).1
   refine .inr ⟨g, cap, cur, rfl, hb, ?_, rest⟩
   rw [Below.heap_setCell _ _ _ _ (by simp; omega), k5.block g hl (far_not hd), hgg]
 refine ⟨?_, ?_, ⟨?_, fun x hx => ?_⟩, far (by omega) hts, (h.ra.kept k5 (hnn _ (Nat.le_refl _))).kept kb (by simp; omega), (h.mc.kept k5 (hnn _ (by omega))).kept kb (by simp; omega), r5⟩
 ·have k1 : Kept (b :: mv.ownBlock.toList) w wr := h.kept.mono (by simp)
  exact (k1.trans (k5.mono (by simp; intro k hk; exact .inl (.inr hk)))).setCell (by simp) _
 ·obtain ⟨q, c0, c1, c2, c3, c4, c5, fz⟩ := r5
  exact ⟨by simpa using q, by rw [za0 (by omega)]; exact c0, by rw [za0 (by omega)]; exact c1, by rw [za0 (by omega)]; exact c2, by rw [za0 (by omega)]; exact c3, by rw [za0 (by omega)]; exact c4, zex c5, fun o => by simpa using fz o⟩
 ·rw [zns, List.length_append]
  exact ownsRow_setCell_below hown (by simp) _
 ·rcases List.mem_append.1 hx with hx | hx
  ·exact far (Nat.le_refl _) (hms.each x hx)
  ·simp at hx; subst hx
   exact zaf (far (by omega) hts) (by omega)
theorem zfh (w : World) (n : Nat) (v0 v1 : Value) : Kept [n] w ((w.setCell ⟨n, 0, none⟩ v0).setCell ⟨n, 1, none⟩ v1) := ((Kept.refl _ _).setCell (by simp) _).setCell (by simp) _
theorem zdh {n0 : Nat} {w w' : World} {base : Nat} {e : TypeId} {size : Nat} {v : Value} {n : Nat} {xs : List Value} (h : w.ownsRow base e size v n xs) (k : Kept [n0] w w') (hn : ∀ g, v.ownBlock = some g → g ≠ n0) : w'.ownsRow base e size v n xs := by
 refine ⟨h.1, ?_⟩
 rcases h.2 with hx | ⟨g, cap, cur, rfl, hb, hgg, rest⟩
 ·exact .inl hx
 ·refine .inr ⟨g, cap, cur, rfl, hb, ?_, rest⟩
  rw [k.block g (Array.getElem?_eq_some_iff.1 hgg).1 (by simp; exact hn g rfl)]
  exact hgg
theorem men_fin {n0 : Nat} {w w' : World} {base : Nat} {mv : Value} {ms : List (PMen × Value)} (h : MRow w base mv ms) (k : Kept [n0] w w') (hm : ∀ g, mv.ownBlock = some g → g ≠ n0) (ht : ∀ x ∈ ms, ∀ g, x.2.ownBlock = some g → g ≠ n0) : MRow w' base mv ms :=
 ⟨zdh h.row k hm, fun x hx => zdh (h.each x hx) k (ht x hx)⟩
end
section
open Go.RowKit
set_option maxRecDepth 100000 in
theorem patom_no (w : World) (b : Nat) (s : ByteArray) (pos num : Nat) (mv : Value) (neg : Bool) (start : Nat) (h : Rdr w b s pos num mv) (hpos : pos ≤ s.size) (hs : s.size ≤ 2000000) (hk : ¬ (zae s pos).1 = 2) :
  Calls Tryz.prog 98 #[.pointer (some ⟨b, 0, none⟩), .bool neg, .int .i64 start] w fun e w' => e = .returned (.tuple #[.agg #[.string { data := #[] }, .slice none 0 0], .bool false]) ∧ Kept [b] w w' ∧ Rdr w' b s pos num mv := by
 have hsm : s.size ≤ maxLen := by unfold maxLen; omega
 have hk2 : ((zae s pos).1 == 2) = false := by simp [hk]
 have ht : za2 s pos 2 = pos := by unfold za2; rw [if_neg (by rw [hk2]; decide)]
 have HT := hide ht
 have h0 := AInv.start neg start h hpos
 obtain ⟨hlt, c0, c1, c2, c3, c4, c5, fz⟩ := h
 clear hk ht
 go_enter Tryz.func98, Tryz.ntmps98
 go_wp2_with fail
 go_region
 clear c0 c1 c2 c3 c4 c5 fz
 go_wp2_with fail
 refine (zf3 s pos num mv b _ h0.rdr hpos hs).mono ?_
 rintro e w2 ⟨rfl, hb2⟩
 have h2 := h0.same hb2
 have d2 := h2.mc.c2
 have df := h2.mc.fz 2
 have h3 := h2.pred (zbp s pos)
 have HI := hide h3
 clear h0 hb2 h2 h3
 go_wp2_with fail
 refine (zbm s pos num mv 2 b _ (zaa HI).rdr hpos hsm).mono ?_
 rintro e w4 ⟨rfl, hk4, hr4⟩
 rw [zaa HT] at hr4
 have h5 := (zaa HI).call hk4 hr4 hpos
 have hra := h5.ra
 obtain ⟨ra0, ra1, ra2, ra3⟩ := hra
 clear HI hk4 hr4 d2 df
 go_wp2_with fail
 obtain ⟨q0, q1⟩ := set2 h5.ra (.string { data := #[] }) (.slice none 0 0)
 refine bodyPost_ret (v := .tuple #[.agg #[.string { data := #[] }, .slice none 0 0], .bool false]) (by simp [results, Tryz.results98, go_sem, q0, q1]) rfl ⟨rfl, ?_, ?_⟩
 ·exact (h5.kept.setCell (.inr (Nat.le_refl _)) _).setCell (.inr (Nat.le_refl _)) _
 ·exact h5.rdr.kept (((Kept.refl [w.heap.size] _).setCell (by simp) _).setCell (by simp) _) (by simp; omega)
theorem infoMen : (Tryz.prog.info? 221).map (fun i => (i.zero, i.size, i.bytes)) = some (some (.agg #[.int .i64 0, .bool false, .string { data := #[] }, .slice none 0 0, .int .i64 0, .int .i64 0, .int .i64 0, .int .i64 0, .int .i64 0, .int .i64 0]), 10, 104) := by kernel_rfl
set_option maxRecDepth 100000 in
theorem patom_bare (w : World) (b : Nat) (s : ByteArray) (pos num : Nat) (mv : Value) (neg : Bool) (start : Nat) (ms : List (PMen × Value)) (h : Rdr w b s pos num mv) (hms : MRow w (b + 1) mv ms) (hml : ms.length ≤ 1000) (hpos : pos ≤ s.size) (hs : s.size ≤ 2000000) (hk : (zae s pos).1 = 2) (hk5 : ¬ (zae s (zae s pos).2.2).1 = 5) :
  Calls Tryz.prog 98 #[.pointer (some ⟨b, 0, none⟩), .bool neg, .int .i64 start] w fun e w' => ∃ tv mv', e = .returned (.tuple #[.agg #[.string (zbp s pos), tv], .bool true]) ∧ Kept (b :: mv.ownBlock.toList) w w' ∧ Rdr w' b s (zae s pos).2.2 num mv' ∧ MRow w' (b + 1) mv' (ms ++ [(⟨num, neg, zbp s pos, [], start, (zae s pos).2.1, fun _ => 0⟩, tv)]) ∧ w'.ownsRow w.heap.size 191 1 tv 0 (zbj []) ∧ (∀ k, mv'.ownBlock = some k → mv.ownBlock = some k ∨ w.heap.size ≤ k) := by
 obtain ⟨i0, hi, hz0, hz1, hz2⟩ := info_parts infoMen
 have hsm : s.size ≤ maxLen := by unfold maxLen; omega
 have hk2 : ((zae s pos).1 == 2) = true := by rw [hk]; rfl
 have hk5' : ((zae s (zae s pos).2.2).1 == 5) = false := by simp [hk5]
 have ht : za2 s pos 2 = (zae s pos).2.2 := by unfold za2; rw [if_pos hk2]
 have ht5 : za2 s (zae s pos).2.2 5 = (zae s pos).2.2 := by unfold za2; rw [if_neg (by rw [hk5']; decide)]
 have HT := hide ht
 have HT5 := hide ht5
 have hp1 := (zbs s pos hpos).2
 have h0 := AInv.start neg start h hpos
 obtain ⟨am, capm, rfl⟩ := zac hms.row
 have HTW := hide (fun (x : PMen × Value) (hx : x ∈ ms) k (e : x.2.ownBlock = some k) => ((hms.each x hx).lt k e).2)
 have HMW := hide (fun k (e : (Value.slice am ms.length capm).ownBlock = some k) => (hms.row.lt k e).2)
 obtain ⟨hlt, c0, c1, c2, c3, c4, c5, fz⟩ := h
 clear hk ht ht5 hk5
 go_enter Tryz.func98, Tryz.ntmps98
 go_wp2_with fail
 go_region
 clear c0 c1 c2 c3 c4 c5 fz
 go_wp2_with fail
 refine (zf3 s pos num _ b _ h0.rdr hpos hs).mono ?_
 rintro e w2 ⟨rfl, hb2⟩
 have h2 := h0.same hb2
 have d2 := h2.mc.c2
 have df := h2.mc.fz 2
 have h3 := h2.pred (zbp s pos)
 have HI := hide h3
 clear h0 hb2 h2 h3
 go_wp2_with fail
 refine (zbm s pos num _ 2 b _ (zaa HI).rdr hpos hsm).mono ?_
 rintro e w4 ⟨rfl, hk4, hr4⟩
 rw [zaa HT] at hr4
 have h5 := (zaa HI).call hk4 hr4 hp1
 clear HI hk4 hr4 d2 df
 go_wp2_with fail
 refine (zbm s (zae s pos).2.2 num _ 5 b _ h5.rdr hp1 hsm).mono ?_
 rintro e w6 ⟨rfl, hk6, hr6⟩
 rw [zaa HT5] at hr6
 have h7 := h5.call hk6 hr6 hp1
 clear h5 hk6 hr6
 have hms7 : MRow w6 (b + 1) (.slice am ms.length capm) ms := hms.kept h7.kept (by simp)
 obtain ⟨x0, x1, x2, x3, x4, x5, x6, xp, xf⟩ := h7.mc
 have y0 := xp 0 (by omega)
 have y1 := xp 1 (by omega)
 have y2 := xp 2 (by omega)
 have y3 := xp 3 (by omega)
 have r5 := h7.rdr.c5
 have hrow := hms7.row
 have s1 : Hid (((w6.alloc (Obj.cells #[Value.int IntKind.i64 ↑num, Value.bool neg, Value.string (zbp s pos), .slice none 0 0, Value.int IntKind.i64 ↑start, Value.int IntKind.i64 ↑(zae s pos).snd.fst, Value.int IntKind.i64 0, Value.int IntKind.i64 0, Value.int IntKind.i64 0, Value.int IntKind.i64 0] 221)).drew).ownsRow (b + 1) 221 10 (Value.slice am ms.length capm) ms.length (zea ms)) := hrow.alloc _
 have s2 : Hid (∀ j u, ([Value.int IntKind.i64 ↑num, Value.bool neg, Value.string (zbp s pos), .slice none 0 0, Value.int IntKind.i64 ↑start, Value.int IntKind.i64 ↑(zae s pos).snd.fst, Value.int IntKind.i64 0, Value.int IntKind.i64 0, Value.int IntKind.i64 0, Value.int IntKind.i64 0] : List Value)[j]? = some u → ((w6.alloc (Obj.cells #[Value.int IntKind.i64 ↑num, Value.bool neg, Value.string (zbp s pos), .slice none 0 0, Value.int IntKind.i64 ↑start, Value.int IntKind.i64 ↑(zae s pos).snd.fst, Value.int IntKind.i64 0, Value.int IntKind.i64 0, Value.int IntKind.i64 0, Value.int IntKind.i64 0] 221)).drew).cell? ((⟨w6.heap.size, 0, none⟩ : Addr).add j) = some u) := World.news_of_block (heap_alloc_new w6 _)
 have s3 : Hid (∀ u ∈ ([Value.int IntKind.i64 ↑num, Value.bool neg, Value.string (zbp s pos), .slice none 0 0, Value.int IntKind.i64 ↑start, Value.int IntKind.i64 ↑(zae s pos).snd.fst, Value.int IntKind.i64 0, Value.int IntKind.i64 0, Value.int IntKind.i64 0, Value.int IntKind.i64 0] : List Value), u.oneCell' = true) := men_one ⟨num, neg, zbp s pos, [], start, (zae s pos).2.1, fun _ => 0⟩ none 0 0
 have s4 : Hid (ms.length + 1 ≤ maxLen) := by show _ ≤ _; unfold maxLen; omega
 have s5 : Hid ((ms.length + 1) * 104 ≤ 140737488355328) := by show _ ≤ _; omega
 have s6 : Hid (b + 1 ≤ ((w6.alloc (Obj.cells #[Value.int IntKind.i64 ↑num, Value.bool neg, Value.string (zbp s pos), .slice none 0 0, Value.int IntKind.i64 ↑start, Value.int IntKind.i64 ↑(zae s pos).snd.fst, Value.int IntKind.i64 0, Value.int IntKind.i64 0, Value.int IntKind.i64 0, Value.int IntKind.i64 0] 221)).drew).heap.size) := by show _ ≤ _; have := h7.rdr.lt; simp; omega
 have hW : ∀ k, k < w6.heap.size → ((w6.alloc (Obj.cells #[Value.int IntKind.i64 ↑num, Value.bool neg, Value.string (zbp s pos), .slice none 0 0, Value.int IntKind.i64 ↑start, Value.int IntKind.i64 ↑(zae s pos).snd.fst, Value.int IntKind.i64 0, Value.int IntKind.i64 0, Value.int IntKind.i64 0, Value.int IntKind.i64 0] 221)).drew).heap[k]? = w6.heap[k]? := fun k hk => ((Kept.refl [] w6).alloc _).block k hk (by simp)
 have hS : w6.heap.size ≤ ((w6.alloc (Obj.cells #[Value.int IntKind.i64 ↑num, Value.bool neg, Value.string (zbp s pos), .slice none 0 0, Value.int IntKind.i64 ↑start, Value.int IntKind.i64 ↑(zae s pos).snd.fst, Value.int IntKind.i64 0, Value.int IntKind.i64 0, Value.int IntKind.i64 0, Value.int IntKind.i64 0] 221)).drew).heap.size := ((Kept.refl [] w6).alloc _).size
 have hnil : w6.ownsRow w.heap.size 191 1 (.slice none 0 0) ([] : List (Bool × ByteArray)).length (zbj []) := World.ownsRow_nil _ _ _ _
 have s8 := hide (fun (w5 : World) (g cap : Nat) (hg : ((w6.alloc (Obj.cells #[Value.int IntKind.i64 ↑num, Value.bool neg, Value.string (zbp s pos), .slice none 0 0, Value.int IntKind.i64 ↑start, Value.int IntKind.i64 ↑(zae s pos).snd.fst, Value.int IntKind.i64 0, Value.int IntKind.i64 0, Value.int IntKind.i64 0, Value.int IntKind.i64 0] 221)).drew).grownBy w5 (Value.slice am ms.length capm).ownBlock) (hown : w5.ownsRow (b + 1) 221 10 (.slice (some ⟨g, 0, none⟩) (ms.length + 1) cap) (ms.length + 1) (zea ms ++ [Value.int IntKind.i64 ↑num, Value.bool neg, Value.string (zbp s pos), .slice none 0 0, Value.int IntKind.i64 ↑start, Value.int IntKind.i64 ↑(zae s pos).snd.fst, Value.int IntKind.i64 0, Value.int IntKind.i64 0, Value.int IntKind.i64 0, Value.int IntKind.i64 0])) => men_end (v' := .slice (some ⟨g, 0, none⟩) (ms.length + 1) cap) h7 hms7 (zaa HMW) hnil hW hS rfl rfl rfl hg hown)
 have h7l := h7.mc.lt
 have hrl := h7.rdr.lt
 clear hW hS hrow hms7 hnil xp
 go_wp2_with fail
 go_region_law (refine step_append_lies _ rfl (.tmp 41) (.tmp 43) 98 rfl (b + 1) 221 i0 (.agg #[.int .i64 0, .bool false, .string { data := #[] }, .slice none 0 0, .int .i64 0, .int .i64 0, .int .i64 0, .int .i64 0, .int .i64 0, .int .i64 0]) 10 104 Tryz.underlying98 hi hz0 hz1 hz2 rfl (by decide) (Value.slice am ms.length capm) ms.length (zea ms) (by simp [Act.eval]) (zaa s1) ⟨w6.heap.size, 0, none⟩ 1 1 [Value.int IntKind.i64 ↑num, Value.bool neg, Value.string (zbp s pos), .slice none 0 0, Value.int IntKind.i64 ↑start, Value.int IntKind.i64 ↑(zae s pos).snd.fst, Value.int IntKind.i64 0, Value.int IntKind.i64 0, Value.int IntKind.i64 0, Value.int IntKind.i64 0] (by simp [Act.eval]) rfl (zaa s2) (zaa s3) (by decide) (zaa s4) (zaa s5) (zaa s6) _ rfl ?_; intro g cap w5 hown5 hg5 hat5 hlt5; obtain ⟨e1, e2, e3, e4, e5, e6, e7⟩ := zaa s8 w5 g cap hg5 hown5; have z5 := e7.c5; have zf := e7.fz 5)
 all_goals
  obtain ⟨ra0, ra1, ra2, ra3⟩ := e5
  have m2 := e6.c2
  have m3 := e6.c3
  have ml := e6.lt
  clear s1 s2 s3 s4 s5 s6 s8 x0 x1 x2 x3 x4 x5 x6 xf y0 y1 y2 y3 r5 z5 zf h7
  go_wp2_with fail
  obtain ⟨q0, q1⟩ := set2 (RA.mk ra0 ra1 ra2 ra3) (.string (zbp s pos)) (.slice none 0 0)
  have kk := zfh (w5.setCell ⟨b, 5, none⟩ (.slice (some ⟨g, 0, none⟩) (ms.length + 1) cap)) w.heap.size (.string (zbp s pos)) (.slice none 0 0)
  refine bodyPost_ret (v := .tuple #[.agg #[.string (zbp s pos), .slice none 0 0], .bool true]) (by simp [results, Tryz.results98, go_sem, q0, q1]) rfl ⟨_, _, rfl, ?_, e2.kept kk (by simp; omega), ?_, ?_, fun k e => ?_⟩
  ·exact (e1.setCell (.inr (Nat.le_refl _)) _).setCell (.inr (Nat.le_refl _)) _
  ·refine men_fin e3 kk (fun k e => ?_) (fun x hx k e => ?_)
   ·rcases hat5 with h1 | h1
    ·have := zaa HMW g h1
     injection e with e; simp only at e; omega
    ·injection e with e; simp only at e; simp at h1; omega
   ·rcases List.mem_append.1 hx with hx | hx
    ·have := zaa HTW x hx k e; omega
    ·simp at hx; subst hx; cases e
  ·exact World.ownsRow_nil _ _ _ _
  ·injection e with e
   simp only at e
   subst e
   rcases hat5 with h1 | h1
   ·exact .inl h1
   ·refine .inr ?_; simp at h1; omega
end
end Go.Proofs.YtldkpahaocjdpaaGreat
