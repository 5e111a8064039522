/-
  The law's book.text: one entry more.
  The law's world behind another list of texts in the book.
  The law's asked, at a Query.
  A script that is handed in, opened: its steps' numbers and texts, and how many there are.
  A script that is handed in, opened: with the bounds of its texts.
-/
import Derived.Test.YtldkpahaocjdpaaGreatQueriesT48
import Derived.Test.YtldkpahaocjdpaaGreatQueriesT28
import Derived.Test.YtldkpahaocjdpaaGreatQueriesT26
import Derived.Test.YtldkpahaocjdpaaGreatQueriesT29
import Derived.Test.YtldkpahaocjdpaaGreatRows
import Derived.ProofKit
import Derived.SizedLaws
import Derived.ChangeSlices
import Derived.Deep.Slices
import Derived.Deep.Strs
import Derived.Deep.CondSized
import Derived.JoinedCond
set_option maxHeartbeats 16000000
namespace Go.Proofs.YtldkpahaocjdpaaGreat
section
open Go.RowKit
theorem infoTexts : (Tryz.prog.info? 117).map (fun i => (i.zero, i.size, i.bytes)) = some (some (.agg #[.slice none 0 0, .slice none 0 0, .slice none 0 0, .slice none 0 0, .int .i64 0]), 5, 104) := by kernel_rfl
set_option maxRecDepth 100000 in
theorem text_any (w : World) (b : Nat) (psv bv tv sv : Value) (ms : List MB) (a : Option Addr) (n cap : Nat) (xs : List Value) (hblk : w.heap[b]? = some (.cells #[psv, bv, tv, sv] 69 (0, 0))) (hS : BookIn w (b + 1) 117 9 mkT tv ms) (h : w.ownsRow 0 9 1 (.slice a n cap) n xs) (hn : n ≤ 1000) (hfree : ∀ m ∈ ms, ∀ g ∈ (Value.slice a n cap).ownBlock.toList, g ∉ m.blocks) (hlen : ms.length ≤ 100000000) :
  Calls Tryz.prog 90 #[.pointer (some ⟨b, 1, none⟩), .slice a n cap] w (StPost w b (fun v' => #[psv, bv, v', sv]) 117 9 mkT tv ms (.slice a n cap)) := by
 obtain ⟨i0, hi, hz0, hz1, hz2⟩ := info_parts infoTexts
 obtain ⟨ap, cp, rfl⟩ := zac hS.row
 obtain ⟨x3, xf3⟩ := zab hblk 2
 have HBK := hide hblk
 have HS := hide hS
 have HF := hide hfree
 have HH := hide h
 clear hS hfree h hblk
 go_enter Tryz.func90, Tryz.ntmps90
 go_wp2_with fail
 refine (zpc w a n cap ms.length xs (zaa HH) hn (by omega)).mono ?_
 rintro e w1 ⟨a1, a2, a3, c1, c2, c3, rfl, hO⟩
 have hblk1 : w1.heap[b]? = some (.cells #[psv, bv, .slice ap ms.length cp, sv] 69 (0, 0)) := za1 (zaa HBK) hO.kept (fun x hx => .inr (zaz (zaa HH) (by decide) x hx))
 have hS1 := (zaa HS).kept hO.kept (fun x hx => .inr (zaz (zaa HH) (by decide) x hx)) (fun x hx => .inr (fun m hm => zaa HF m hm x hx))
 have hrow := hS1.row
 obtain ⟨y3, yf3⟩ := zab hblk1 2
 have hblt := (Array.getElem?_eq_some_iff.1 hblk1).1
 have kW : Kept [] w1 (((w1.alloc (Obj.cells #[.slice a n cap, .slice a1 (n + 1) c1, .slice a2 (n + 2) c2, .slice a3 (n + 64) c3, .int .i64 (ms.length : Nat)] 117)).alloc (Obj.cells #[.slice a n cap, .slice a1 (n + 1) c1, .slice a2 (n + 2) c2, .slice a3 (n + 64) c3, .int .i64 (ms.length : Nat)] 117)).drew) := (((Kept.refl [] w1).alloc _).alloc _).drew
 have s1 : Hid ((((w1.alloc (Obj.cells #[.slice a n cap, .slice a1 (n + 1) c1, .slice a2 (n + 2) c2, .slice a3 (n + 64) c3, .int .i64 (ms.length : Nat)] 117)).alloc (Obj.cells #[.slice a n cap, .slice a1 (n + 1) c1, .slice a2 (n + 2) c2, .slice a3 (n + 64) c3, .int .i64 (ms.length : Nat)] 117)).drew).ownsRow (b + 1) 117 5 (.slice ap ms.length cp) ms.length (ms.flatMap MB.cells)) := (hrow.alloc _).alloc _
 have s2 : Hid (∀ j u, ([.slice a n cap, .slice a1 (n + 1) c1, .slice a2 (n + 2) c2, .slice a3 (n + 64) c3, .int .i64 (ms.length : Nat)] : List Value)[j]? = some u → (((w1.alloc (Obj.cells #[.slice a n cap, .slice a1 (n + 1) c1, .slice a2 (n + 2) c2, .slice a3 (n + 64) c3, .int .i64 (ms.length : Nat)] 117)).alloc (Obj.cells #[.slice a n cap, .slice a1 (n + 1) c1, .slice a2 (n + 2) c2, .slice a3 (n + 64) c3, .int .i64 (ms.length : Nat)] 117)).drew).cell? ((⟨w1.heap.size + 1, 0, none⟩ : Addr).add j) = some u) := by
  have := heap_alloc_new (w1.alloc (Obj.cells #[.slice a n cap, .slice a1 (n + 1) c1, .slice a2 (n + 2) c2, .slice a3 (n + 64) c3, .int .i64 (ms.length : Nat)] 117)) (Obj.cells #[.slice a n cap, .slice a1 (n + 1) c1, .slice a2 (n + 2) c2, .slice a3 (n + 64) c3, .int .i64 (ms.length : Nat)] 117)
  rw [World.size_alloc] at this
  exact World.news_of_block (w := ((w1.alloc _).alloc _).drew) this
 have s3 : Hid (∀ u ∈ ([.slice a n cap, .slice a1 (n + 1) c1, .slice a2 (n + 2) c2, .slice a3 (n + 64) c3, .int .i64 (ms.length : Nat)] : List Value), u.oneCell' = true) := by
  show ∀ u ∈ _, _
  intro u hu; simp at hu; rcases hu with rfl | rfl | rfl | rfl | rfl <;> rfl
 have s4 : Hid (ms.length + 1 ≤ maxLen) := by show _ ≤ _; unfold maxLen; omega
 have s5 : Hid ((ms.length + 1) * 104 ≤ 140737488355328) := by show _ ≤ _; omega
 have s6 : Hid (b + 1 ≤ (((w1.alloc (Obj.cells #[.slice a n cap, .slice a1 (n + 1) c1, .slice a2 (n + 2) c2, .slice a3 (n + 64) c3, .int .i64 (ms.length : Nat)] 117)).alloc (Obj.cells #[.slice a n cap, .slice a1 (n + 1) c1, .slice a2 (n + 2) c2, .slice a3 (n + 64) c3, .int .i64 (ms.length : Nat)] 117)).drew).heap.size) := by show _ ≤ _; simp; omega
 have s8 := hide (fun (w5 : World) (g cap' : Nat) (hg : (((w1.alloc (Obj.cells #[.slice a n cap, .slice a1 (n + 1) c1, .slice a2 (n + 2) c2, .slice a3 (n + 64) c3, .int .i64 (ms.length : Nat)] 117)).alloc (Obj.cells #[.slice a n cap, .slice a1 (n + 1) c1, .slice a2 (n + 2) c2, .slice a3 (n + 64) c3, .int .i64 (ms.length : Nat)] 117)).drew).grownBy w5 (Value.slice ap ms.length cp).ownBlock) (hown : w5.ownsRow (b + 1) 117 5 (.slice (some ⟨g, 0, none⟩) (ms.length + 1) cap') (ms.length + 1) (ms.flatMap MB.cells ++ [.slice a n cap, .slice a1 (n + 1) c1, .slice a2 (n + 2) c2, .slice a3 (n + 64) c3, .int .i64 (ms.length : Nat)])) (hat : (Value.slice ap ms.length cp).ownBlock = some g ∨ ∀ g', (Value.slice (some ⟨g, 0, none⟩) (ms.length + 1) cap').ownBlock = some g' → (((w1.alloc (Obj.cells #[.slice a n cap, .slice a1 (n + 1) c1, .slice a2 (n + 2) c2, .slice a3 (n + 64) c3, .int .i64 (ms.length : Nat)] 117)).alloc (Obj.cells #[.slice a n cap, .slice a1 (n + 1) c1, .slice a2 (n + 2) c2, .slice a3 (n + 64) c3, .int .i64 (ms.length : Nat)] 117)).drew).heap.size ≤ g') => book_end (j := 2) (a' := some ⟨g, 0, none⟩) (c' := cap') (m := ⟨.slice a n cap, .slice a1 (n + 1) c1, .slice a2 (n + 2) c2, .slice a3 (n + 64) c3, ms.length⟩) (A' := #[psv, bv, .slice (some ⟨g, 0, none⟩) (ms.length + 1) cap', sv]) hblk1 hS1 hO kW hg hown hat (by decide) (by decide) (by decide) (by simp))
 have HFAR := hide hO.far
 clear hO hS1 hrow hblk1 kW HBK HS HF HH x3 xf3
 go_wp2_with fail
 go_region_law (refine step_append_lies _ rfl (.tmp 16) (.tmp 18) 64 rfl (b + 1) 117 i0 (.agg #[.slice none 0 0, .slice none 0 0, .slice none 0 0, .slice none 0 0, .int .i64 0]) 5 104 Tryz.underlying64 hi hz0 hz1 hz2 rfl (by decide) (Value.slice ap ms.length cp) ms.length (ms.flatMap MB.cells) (by simp [Act.eval]) (zaa s1) ⟨w1.heap.size + 1, 0, none⟩ 1 1 [.slice a n cap, .slice a1 (n + 1) c1, .slice a2 (n + 2) c2, .slice a3 (n + 64) c3, .int .i64 (ms.length : Nat)] (by simp [Act.eval]) rfl (zaa s2) (zaa s3) (by decide) (zaa s4) (zaa s5) (zaa s6) _ rfl ?_; intro g cap' w5 hown5 hg5 hat5 hlt5; obtain ⟨e1, e2, e3, e4, e5⟩ := zaa s8 w5 g cap' hg5 hown5 (hat5.imp id (fun e g' e' => by rw [← e]; exact Nat.le_of_eq (by simpa [Value.ownBlock] using e'))); obtain ⟨z0, zf0⟩ := zab e5 2)
 all_goals
  have E1 := hide e1
  have E2 := hide e2
  have E3 := hide e3
  have E4 := hide e4
  clear s1 s2 s3 s4 s5 s6 s8 e1 e2 e3 e4 e5 hown5 hg5
  go_wp2_with fail
  go_end0
  exact ⟨rfl, _, _, zaa E2, zaa E1, zaa E3, zaa HFAR, zaa E4⟩
end
section
open Go.RowKit
theorem LW.addT {w w' : World} {b : Nat} {psv bv tv sv tv' : Value} {es : List PE} {mb mt ms mt' : List MB} (h : LW w b psv bv tv sv es mb mt ms) (K : Kept (b :: tv.ownBlock.toList) w w') (hblk : w'.heap[b]? = some (.cells #[psv, bv, tv', sv] 69 (0, 0))) (hbook : BookIn w' (b + 1) 117 9 mkT tv' mt') (hsv : ∀ g ∈ tv'.ownBlock.toList, g ∈ tv.ownBlock.toList ∨ w.heap.size ≤ g) : LW w' b psv bv tv' sv es mb mt' ms ∧ Kept (chg b psv bv tv sv) w w' := by
 have sub : ∀ x ∈ b :: tv.ownBlock.toList, x ∈ chg b psv bv tv sv := fun x hx => by
  rcases List.mem_cons.1 hx with rfl | hx
  ·exact List.mem_cons_self
  ·exact List.mem_cons_of_mem _ (by simp only [List.mem_append]; exact .inl (.inr hx))
 have nt : ∀ (e : TypeId), 69 ≠ e → 117 ≠ e → ∀ x ∈ b :: tv.ownBlock.toList, NotT w e x := fun e e0 e1 x hx => by
  rcases List.mem_cons.1 hx with rfl | hx
  ·exact zfq h.blk e0
  ·exact zaz h.ts.row e1 x hx
 have newC : ∀ c ∈ chg b psv bv tv' sv, c ∈ chg b psv bv tv sv ∨ w.heap.size ≤ c := fun c hc => by
  rcases List.mem_cons.1 hc with rfl | hc
  ·exact .inl List.mem_cons_self
  ·simp only [List.mem_append] at hc
   have rest : c ∈ psv.ownBlock.toList ∨ c ∈ bv.ownBlock.toList ∨ c ∈ sv.ownBlock.toList → c ∈ chg b psv bv tv sv := fun hr => List.mem_cons_of_mem _ (by simp only [List.mem_append]; rcases hr with hr | hr | hr <;> simp [hr])
   rcases hc with ((hc | hc) | hc) | hc
   ·exact .inl (rest (.inl hc))
   ·exact .inl (rest (.inr (.inl hc)))
   ·exact (hsv c hc).imp (fun hm => sub c (List.mem_cons_of_mem _ hm)) id
   ·exact .inl (rest (.inr (.inr hc)))
 exact ⟨⟨hblk, zbq h.row K (fun x hx => .inr (nt _ (by decide) (by decide) x hx)), fun p hp => (h.ent p hp).step K (fun d hd => .inl (sub d hd)) newC, h.bs.kept K (fun x hx => .inr (nt _ (by decide) (by decide) x hx)) (fun x hx => .inl (nt _ (by decide) (by decide) x hx)), hbook, h.ss.kept K (fun x hx => .inr (nt _ (by decide) (by decide) x hx)) (fun x hx => .inl (nt _ (by decide) (by decide) x hx))⟩, K.mono fun x hx => .inl (sub x hx)⟩
end
section
open Go.RowKit Go.Maps
set_option maxRecDepth 100000 in
theorem zqt (w : World) (b : Nat) (psv bv tv sv : Value) (es : List PE) (mb mt ms : List MB) (h : LW w b psv bv tv sv es mb mt ms) (x y : Nat) (ps : ByteArray) (lo : Nat) (hp : EntF ps x y w lo) (hlen : mt.length + 2 ≤ 100000000) (a bb : Int) (s t u : ByteArray) (at_ : Option Addr) (nt ct : Nat) (hs : s.size ≤ 2000000) :
  Calls Tryz.prog 50 #[.pointer (some ⟨b, 0, none⟩), .agg #[.int .i64 4, .int .i64 a, .int .i64 bb, .string s, .string t, .string u, .slice at_ nt ct], .agg #[.pointer (some ⟨x, 0, none⟩), .pointer (some ⟨y, 0, none⟩), .string ps]] w (AskPost w b psv bv tv sv es mb mt ms) := by
 have b0 := ((Below.refl w.heap.size w).alloc (Nat.le_refl _) (.cells #[.int .i64 4, .int .i64 a, .int .i64 bb, .string s, .string t, .string u, .slice at_ nt ct] 26)).alloc (by simp) (.cells #[.pointer (some ⟨x, 0, none⟩), .pointer (some ⟨y, 0, none⟩), .string ps] 112)
 have h0 := hp.below b0
 have hpb : ((w.alloc (.cells #[.int .i64 4, .int .i64 a, .int .i64 bb, .string s, .string t, .string u, .slice at_ nt ct] 26)).alloc (.cells #[.pointer (some ⟨x, 0, none⟩), .pointer (some ⟨y, 0, none⟩), .string ps] 112)).heap[w.heap.size + 1]? = some (.cells #[.pointer (some ⟨x, 0, none⟩), .pointer (some ⟨y, 0, none⟩), .string ps] 112 (0, 0)) := by
  have := heap_alloc_new (w.alloc (.cells #[.int .i64 4, .int .i64 a, .int .i64 bb, .string s, .string t, .string u, .slice at_ nt ct] 26)) (.cells #[.pointer (some ⟨x, 0, none⟩), .pointer (some ⟨y, 0, none⟩), .string ps] 112)
  rw [World.size_alloc] at this
  exact this
 have hob : ((w.alloc (.cells #[.int .i64 4, .int .i64 a, .int .i64 bb, .string s, .string t, .string u, .slice at_ nt ct] 26)).alloc (.cells #[.pointer (some ⟨x, 0, none⟩), .pointer (some ⟨y, 0, none⟩), .string ps] 112)).heap[w.heap.size]? = some (.cells #[.int .i64 4, .int .i64 a, .int .i64 bb, .string s, .string t, .string u, .slice at_ nt ct] 26 (0, 0)) := by
  rw [Below.heap_alloc _ _ _ (by simp)]
  exact heap_alloc_new w _
 have hC := zpw h0 s hs bb
 have hw0 : w.heap.size + 2 = ((w.alloc (.cells #[.int .i64 4, .int .i64 a, .int .i64 bb, .string s, .string t, .string u, .slice at_ nt ct] 26)).alloc (.cells #[.pointer (some ⟨x, 0, none⟩), .pointer (some ⟨y, 0, none⟩), .string ps] 112)).heap.size := by simp
 have HW0 := hide hw0
 have HOK := hide hp.ok
 clear hp hw0
 go_enter Tryz.func50, Tryz.ntmps50
 go_wp2_with fail
 refine hC.mono ?_
 rintro e w1 ⟨rp1, hrp1, hbs1, hout1, hb1⟩
 obtain ⟨a1, m1, c1, k1, rfl⟩ := hout1.shape
 have hw0 := zaa HW0
 have hpb1 := (hb1.block (w.heap.size + 1) (by omega)).trans hpb
 have hob1 := (hb1.block w.heap.size (by omega)).trans hob
 obtain ⟨p0, pf0⟩ := zab hpb1 0
 obtain ⟨o2, of2⟩ := zab hob1 2
 obtain ⟨o3, of3⟩ := zab hob1 3
 have h1 := h0.below hb1
 have hB1 := b0.trans (hb1.mono (by omega))
 have hC1 := zpw h1 s hs bb
 have hw1 : w.heap.size + 1 < w1.heap.size := (Array.getElem?_eq_some_iff.1 hpb1).1
 have HP1 := hide (And.intro hrp1 (And.intro hbs1 hout1))
 have HBB1 := hide hb1
 have HB1 := hide hB1
 have H1 := hide h1
 have HPB1 := hide hpb1
 have HOB1 := hide hob1
 clear hC hpb hob b0 h0 hb1 hpb1 hob1 hB1 h1 hrp1 hbs1 hout1 HW0
 have HW0 := hide hw0
 clear hw0
 go_wp2_with fail
 refine hC1.mono ?_
 rintro e w2 ⟨rp2, hrp2, hbs2, hout2, hb2⟩
 obtain ⟨a2, m2, c2, k2, rfl⟩ := hout2.shape
 have hpb2 := (hb2.block (w.heap.size + 1) hw1).trans (zaa HPB1)
 have hob2 := (hb2.block w.heap.size (by omega)).trans (zaa HOB1)
 obtain ⟨q1, qf1⟩ := zab hpb2 1
 obtain ⟨r2, rf2⟩ := zab hob2 2
 obtain ⟨r3, rf3⟩ := zab hob2 3
 have h2 := (zaa H1).below hb2
 have hC2 := ent_rquery h2 s hs bb
 have hw2 := hb2.size
 have HP2 := hide (And.intro hrp2 (And.intro hbs2 hout2))
 have HBB2 := hide hb2
 have HB2 := hide ((zaa HB1).trans (hb2.mono (zaa HB1).size))
 clear hC1 hb2 hpb2 hob2 h2 p0 pf0 o2 of2 o3 of3 H1 HPB1 HOB1 hrp2 hbs2 hout2
 go_wp2_with fail
 refine hC2.mono ?_
 rintro e w3 ⟨S, v, n, rfl, hval, hlow, hout3, hb3⟩
 obtain ⟨a3, m3, c3, rfl⟩ := hout3.shape
 obtain ⟨hrp1, hbs1, hout1⟩ := zaa HP1
 obtain ⟨hrp2, hbs2, hout2⟩ := zaa HP2
 obtain ⟨rfl, zs, hz50, hm1, hm3, row1, row3⟩ := (query_eq (zaa HOK) hrp1 hbs1 hval hlow hout1 hout3).both
 obtain ⟨rfl, zs', hz50', hm2, hm3', row2, row3'⟩ := (query_eq (zaa HOK) hrp2 hbs2 hval hlow hout2 hout3).both
 have sz3 := hb3.size
 have hw0 := zaa HW0
 have r1 : w3.ownsRow w.heap.size 9 1 (.slice a1 m1 c1) m1 (zs.map Value.string) := zai (zai (zaf row1 (by omega)) (zaa HBB2) (fun g e => (row1.lt g e).2)) hb3 (fun g e => by have := (row1.lt g e).2; omega)
 have r2' : w3.ownsRow w.heap.size 9 1 (.slice a2 m2 c2) m2 (zs'.map Value.string) := zai (zaf row2 (by omega)) hb3 (fun g e => (row2.lt g e).2)
 have d1 : ∀ g ∈ (Value.slice a1 m1 c1).ownBlock.toList, w.heap.size ≤ g ∧ g < w1.heap.size := fun g hg => ⟨(r1.lt g (by simpa using hg)).1, (row1.lt g (by simpa using hg)).2⟩
 have d2 : ∀ g ∈ (Value.slice a2 m2 c2).ownBlock.toList, w1.heap.size ≤ g ∧ g < w3.heap.size := fun g hg => ⟨(row2.lt g (by simpa using hg)).1, (r2'.lt g (by simpa using hg)).2⟩
 have R1 := hide r1
 have R2 := hide r2'
 have R3 := hide row3
 have R3' := hide row3'
 have D1 := hide d1
 have D2 := hide d2
 have M1 := hide hm1
 have M2 := hide hm2
 have M3 := hide hm3
 have M3' := hide hm3'
 have n1f : m1 ≤ 1000 := by omega
 have n2f : m2 ≤ 1000 := by omega
 have HL3 := hide (h.below ((zaa HB2).trans (hb3.mono (zaa HB2).size)))
 have HB3 := hide ((zaa HB2).trans (hb3.mono (zaa HB2).size))
 have HLW := hide h
 clear row1 row2 row3 row3' r1 r2' d1 d2 hrp1 hbs1 hout1 hrp2 hbs2 hout2 HP1 HP2 hout3 hval hlow hC2 HB1 HB2 HBB1 HBB2 q1 qf1 r2 rf2 r3 rf3 h hb3 hw0 HW0 hm1 hm2 hm3 hm3'
 go_wp2_with fail
 refine (zia w3 _ _ a1 a3 m1 m3 c1 c3 zs (by rw [← zaa M1]; exact zaa R1) (zaa R3) (zaa M1) (zaa M3) (by omega)).mono ?_
 rintro e w4 ⟨rfl, q, rfl⟩
 go_wp2_with fail
 refine (zia (w3.drewN q) _ _ a2 a3 m2 m3 c2 c3 zs' (by rw [← zaa M2]; exact zaa R2) (zaa R3') (zaa M2) (zaa M3') (by omega)).mono ?_
 rintro e w4 ⟨rfl, q', rfl⟩
 have HLW4 : Hid (LW ((w3.drewN q).drewN q') b psv bv tv sv es mb mt ms) := hide ((zaa HL3).below (below_drewN (below_drewN (Below.refl _ _) _) _))
 have HB4 : Hid (Below w.heap.size w ((w3.drewN q).drewN q')) := hide (below_drewN (below_drewN (zaa HB3) _) _)
 have R1' : Hid (((w3.drewN q).drewN q').ownsRow w.heap.size 9 1 (.slice a1 m1 c1) m1 (zs.map Value.string)) := zaa R1
 have R2' : Hid (((w3.drewN q).drewN q').ownsRow w.heap.size 9 1 (.slice a2 m2 c2) m2 (zs'.map Value.string)) := zaa R2
 have D2' : Hid (∀ g ∈ (Value.slice a2 m2 c2).ownBlock.toList, w1.heap.size ≤ g ∧ g < ((w3.drewN q).drewN q').heap.size) := zaa D2
 clear R1 R2 R3 R3' HL3 HB3 D2 M1 M2 M3 M3'
 generalize (w3.drewN q).drewN q' = W at *
 have hfree : ∀ m ∈ mt, ∀ g ∈ (Value.slice a1 m1 c1).ownBlock.toList, g ∉ m.blocks := fun m hm g hg hgm => by
  have := ((zaa HLW).ts.each m hm).lt g hgm
  have := (zaa D1 g hg).1
  omega
 go_wp2_with fail
 refine (text_any W b psv bv tv sv mt a1 m1 c1 _ (zaa HLW4).blk (zaa HLW4).ts (zaf (zaa R1') (Nat.zero_le _)) n1f hfree (by omega)).mono ?_
 rintro e w5 ⟨rfl, tv5, m5, st5⟩
 clear hfree
 have hrow5 : w5.ownsRow 0 9 1 (.slice a2 m2 c2) m2 (zs'.map Value.string) := by
  refine zbb (zaf (zaa R2') (Nat.zero_le _)) (fun g hg => st5.kept.block g ((zaa R2').lt g hg).2 ?_)
  have hd := zaa D2' g (by simpa using hg)
  intro hm
  rcases List.mem_cons.1 hm with rfl | hm
  ·have := (zaa HLW).lt; omega
  ·rcases List.mem_append.1 hm with hm | hm
   ·have := ((zaa HLW).ts.row.lt g (by simpa using hm)).2; omega
   ·have := (zaa D1 g hm).2; omega
 have hfree5 : ∀ m ∈ mt ++ [m5], ∀ g ∈ (Value.slice a2 m2 c2).ownBlock.toList, g ∉ m.blocks := fun m hm g hg hgm => by
  have hd := zaa D2' g hg
  rcases List.mem_append.1 hm with hm | hm
  ·have := ((zaa HLW).ts.each m hm).lt g hgm
   omega
  ·rw [List.mem_singleton.1 hm] at hgm
   rcases st5.far g hgm with h | h
   ·have := (zaa D1 g h).2; omega
   ·omega
 have ST5 := hide st5
 have HBK5 := hide st5.blk
 have HS5 := hide st5.book
 have HR5 := hide hrow5
 have HF5 := hide hfree5
 have hlen5 : Hid ((mt ++ [m5]).length ≤ 100000000) := by show _ ≤ _; rw [List.length_append, List.length_singleton]; omega
 clear st5 hrow5 hfree5
 go_wp2_with fail
 refine (text_any w5 b psv bv tv5 sv (mt ++ [m5]) a2 m2 c2 _ (zaa HBK5) (zaa HS5) (zaa HR5) n2f (zaa HF5) (zaa hlen5)).mono ?_
 rintro e w6 ⟨rfl, tv6, m6, st6⟩
 have hfin := two_book (zaa HB4) (zaa ST5) st6 (zaa D1) (fun g hg => by have := (zaa D2' g hg).1; omega)
 have HE := hide ((zaa HLW).addT hfin.1 st6.blk st6.book hfin.2)
 clear hfin st6 ST5 HBK5 HS5 HR5 HF5 hlen5
 go_wp2_with fail
 go_ret
 exact ⟨by simp, bv, tv6, sv, mb, _, ms, (zaa HE).1, by omega, by simp, by omega, (zaa HE).2⟩
end
section
open Go.ChangeShapes Go.WideShapes Go.ChangeAt Go.RowKit Go.Deep
theorem own2 : ownKnob Tryz.prog.godebug = none := by kernel_rfl
theorem laid2 : laidOutB Tryz.prog = true := by kernel_rfl
theorem cells2Op : Tryz.prog.cellsOf 26 = 7 := by kernel_rfl
theorem cells2Int : Tryz.prog.cellsOf 3 = 1 := by kernel_rfl
theorem cells2Str : Tryz.prog.cellsOf 9 = 1 := by kernel_rfl
theorem cells2Ints : Tryz.prog.cellsOf 24 = 1 := by kernel_rfl
theorem one_bulk {H : Type} (d : DataW H) : 1 ≤ Rows.uptoBulk d := by
 cases d with
 | lit l => cases l <;> simp [Rows.uptoBulk]
 | nil => simp [Rows.uptoBulk]
 | ptr d => simp [Rows.uptoBulk]
 | slice elems spare => simp [Rows.uptoBulk]
 | agg parts => simp [Rows.uptoBulk]
 | iface t d => simp [Rows.uptoBulk]
 | map entries => simp [Rows.uptoBulk]
 | held h => simp [Rows.uptoBulk]
theorem len_bulk {H : Type} (l : List (DataW H)) : l.length ≤ Rows.uptoBulkAll l := by
 induction l with
 | nil => simp [Rows.uptoBulkAll]
 | cons x r ih => have := one_bulk x; simp only [Rows.uptoBulkAll, List.length_cons]; omega
theorem zpm {n : Int} (h : (Lit.int .i64 n).wf = true) : -9223372036854775808 ≤ n ∧ n ≤ 9223372036854775807 := by
 simpa [Lit.wf, IntKind.min, IntKind.max, IntKind.signed, IntKind.bits] using h
end
section
open Go.ChangeShapes Go.WideShapes Go.ChangeAt Go.RowKit Go.Deep
theorem mem_bulk {H : Type} {l : List (DataW H)} {d : DataW H} (h : d ∈ l) : Rows.uptoBulk d ≤ Rows.uptoBulkAll l := by
 induction l with
 | nil => cases h
 | cons x r ih =>
  simp only [Rows.uptoBulkAll]
  rcases List.mem_cons.1 h with rfl | h
  ·omega
  ·have := ih h; omega
set_option maxRecDepth 10000 in
theorem open_op3 {H : Type} {enc : TypeId × Value → H} {W : World} {base n g off : Nat} {cs : List Value} {x : DataW H × List MemPlace} {spare : Nat → Bool} {held : Bool} (hc : W.cells? base ⟨g, off, none⟩ 7 = some cs) (ht : DataW.trod enc Tryz.prog W base spare held n 26 cs = some x) :
  ∃ o : OpV, W.cell? ⟨g, off, none⟩ = some (.int .i64 o.kd) ∧ W.cell? ⟨g, off + 1, none⟩ = some (.int .i64 o.a) ∧ W.cell? ⟨g, off + 2, none⟩ = some (.int .i64 o.b) ∧ W.cell? ⟨g, off + 3, none⟩ = some (.string o.s) ∧ W.cell? ⟨g, off + 4, none⟩ = some (.string o.t) ∧ W.cell? ⟨g, off + 5, none⟩ = some (.string o.u) ∧ W.cell? ⟨g, off + 6, none⟩ = some (.slice o.at_ o.nt o.ct) ∧ OpOk o ∧ o.s.size + o.t.size + o.u.size ≤ Rows.uptoBulk x.1 := by
 obtain ⟨_, hl7, hcell⟩ := World.cells?_some hc
 obtain ⟨xs, m, _, hxe, hlen, hxl, hf⟩ := DataW.trod_struct Tryz.underlying26 ht
 obtain ⟨c0, c1, c2, c3, c4, c5, c6, rfl⟩ : ∃ c0 c1 c2 c3 c4 c5 c6, cs = [c0, c1, c2, c3, c4, c5, c6] := by
  match cs, hl7 with
  | [c0, c1, c2, c3, c4, c5, c6], _ => exact ⟨c0, c1, c2, c3, c4, c5, c6, rfl⟩
 obtain ⟨y0, y1, y2, y3, y4, y5, y6, rfl⟩ : ∃ y0 y1 y2 y3 y4 y5 y6, xs = [y0, y1, y2, y3, y4, y5, y6] := by
  match xs, hxl with
  | [y0, y1, y2, y3, y4, y5, y6], _ => exact ⟨y0, y1, y2, y3, y4, y5, y6, rfl⟩
 have f0 := hf 0 { name := "Kind", type := 3, offset := 0, embedded := false, tag := "", pkgPath := "", byteOffset := 0 } rfl
 have f1 := hf 1 { name := "A", type := 3, offset := 1, embedded := false, tag := "", pkgPath := "", byteOffset := 8 } rfl
 have f2 := hf 2 { name := "B", type := 3, offset := 2, embedded := false, tag := "", pkgPath := "", byteOffset := 16 } rfl
 have f3 := hf 3 { name := "S", type := 9, offset := 3, embedded := false, tag := "", pkgPath := "", byteOffset := 24 } rfl
 have f4 := hf 4 { name := "T", type := 9, offset := 4, embedded := false, tag := "", pkgPath := "", byteOffset := 40 } rfl
 have f5 := hf 5 { name := "U", type := 9, offset := 5, embedded := false, tag := "", pkgPath := "", byteOffset := 56 } rfl
 have f6 := hf 6 { name := "Turns", type := 24, offset := 6, embedded := false, tag := "", pkgPath := "", byteOffset := 72 } rfl
 simp only [cells2Int, cells2Str, cells2Ints, List.drop_zero, List.drop_succ_cons, List.take_succ_cons, List.take_zero, List.getElem?_cons_zero, List.getElem?_cons_succ] at f0 f1 f2 f3 f4 f5 f6
 obtain ⟨k0, e0, _, _⟩ := DataW.trod_int Tryz.underlying3 f0
 obtain ⟨k1, e1, _, r1⟩ := DataW.trod_int Tryz.underlying3 f1
 obtain ⟨k2, e2, _, r2⟩ := DataW.trod_int Tryz.underlying3 f2
 obtain ⟨s3, e3, d3, hs3⟩ := DataW.trod_string Tryz.underlying9 f3
 obtain ⟨s4, e4, d4, hs4⟩ := DataW.trod_string Tryz.underlying9 f4
 obtain ⟨s5, e5, d5, hs5⟩ := DataW.trod_string Tryz.underlying9 f5
 have hbk : s3.size + s4.size + s5.size ≤ Rows.uptoBulk x.1 := by
  rw [hxe]
  subst d3 d4 d5
  have g3 := zc0 s3
  have g4 := zc0 s4
  have g5 := zc0 s5
  simp only [List.map_cons, List.map_nil, Rows.uptoBulk, Rows.uptoBulkAll]
  omega
 have e6 : ∃ a n c, c6 = .slice a n c := by
  rcases DataW.trod_slice Tryz.underlying24 f6 with ⟨h, _⟩ | ⟨a, len, cap, _, _, _, _, h, _⟩
  ·injection h with h; exact ⟨_, _, _, h⟩
  ·injection h with h; exact ⟨_, _, _, h⟩
 obtain ⟨a6, n6, c6', rfl⟩ := e6
 injection e0 with e0
 injection e1 with e1
 injection e2 with e2
 injection e3 with e3
 injection e4 with e4
 injection e5 with e5
 subst e0 e1 e2 e3 e4 e5
 have d0 := hcell 0 (by omega)
 have d1 := hcell 1 (by omega)
 have d2 := hcell 2 (by omega)
 have d3 := hcell 3 (by omega)
 have d4 := hcell 4 (by omega)
 have d5 := hcell 5 (by omega)
 have d6 := hcell 6 (by omega)
 simp only [Addr.add, List.getElem?_cons_zero, List.getElem?_cons_succ] at d0 d1 d2 d3 d4 d5 d6
 exact ⟨⟨k0, k1, k2, s3, s4, s5, a6, n6, c6'⟩, by simpa using d0, by simpa using d1, by simpa using d2, by simpa using d3, by simpa using d4, by simpa using d5, by simpa using d6, ⟨zpm r1, zpm r2, hs3, hs4, hs5⟩, hbk⟩
set_option maxRecDepth 100000 in
theorem zpv {H : Type} {enc : TypeId × Value → H} {W : World} {a0 : Option Addr} {len cap : Nat} {d0 : DataW H} {p : List MemPlace} (h0 : DataW.Trod enc Tryz.prog W 0 (fun _ => true) true 22 (.slice a0 len cap) d0 p) (hk : Rows.uptoBulk d0 ≤ 1048576) :
  ∃ O : Nat → OpV, Scr W a0 len O ∧ (∀ i, i < len → OpOk (O i) ∧ (O i).s.size + (O i).t.size + (O i).u.size ≤ 1048576) ∧ len ≤ 1048576 := by
 obtain ⟨fuel, hf⟩ := h0
 rcases open_slice Tryz.underlying22 hf with ⟨hcs, hx⟩ | ⟨a, len', cap', m, n, D, Pl, hcs, _, hl, hm, hmm, hx, hel⟩
 ·simp [Value.cells] at hcs
  obtain ⟨rfl, rfl, rfl⟩ := hcs
  exact ⟨fun _ => ⟨0, 0, 0, { data := #[] }, { data := #[] }, { data := #[] }, none, 0, 0⟩, ⟨fun i hi => by omega⟩, fun i hi => by omega, by omega⟩
 ·simp [Value.cells] at hcs
  obtain ⟨rfl, rfl, rfl⟩ := hcs
  simp only [Prod.mk.injEq] at hx
  obtain ⟨rfl, rfl⟩ := hx
  simp only [if_true] at hmm
  subst hmm
  have hlen : len ≤ 1048576 := by
   simp only [Rows.uptoBulk] at hk
   have := len_bulk ((List.range len).map D)
   simp only [List.length_map, List.length_range] at this
   omega
  obtain ⟨g, off, sp⟩ := a
  have hsp : 0 < len → sp = none := fun h => by
   obtain ⟨cs', hc, _⟩ := hel 0 (by omega)
   rw [cells2Op] at hc
   obtain ⟨_, hl7, hcell⟩ := World.cells?_some hc
   obtain ⟨c0, r, rfl⟩ : ∃ c0 r, cs' = c0 :: r := by
    match cs', hl7 with
    | c0 :: r, _ => exact ⟨c0, r, rfl⟩
   have c0raw := hcell 0 (by omega)
   simpa [Addr.add] using World.cell?_spot c0raw
  have each : ∀ i, i < len → ∃ o : OpV, W.cell? ⟨g, off + i * 7, none⟩ = some (.int .i64 o.kd) ∧ W.cell? ⟨g, off + i * 7 + 1, none⟩ = some (.int .i64 o.a) ∧ W.cell? ⟨g, off + i * 7 + 2, none⟩ = some (.int .i64 o.b) ∧ W.cell? ⟨g, off + i * 7 + 3, none⟩ = some (.string o.s) ∧ W.cell? ⟨g, off + i * 7 + 4, none⟩ = some (.string o.t) ∧ W.cell? ⟨g, off + i * 7 + 5, none⟩ = some (.string o.u) ∧ W.cell? ⟨g, off + i * 7 + 6, none⟩ = some (.slice o.at_ o.nt o.ct) ∧ OpOk o ∧ o.s.size + o.t.size + o.u.size ≤ 1048576 := by
   intro i hi
   obtain ⟨cs', hc, ht⟩ := hel i (by omega)
   rw [cells2Op] at hc
   have hs := hsp (by omega)
   subst hs
   have e : (⟨g, off, none⟩ : Addr).add (i * 7) = ⟨g, off + i * 7, none⟩ := by unfold Addr.add; split <;> simp_all
   rw [e] at hc
   obtain ⟨o, q0, q1, q2, q3, q4, q5, q6, q7, q8⟩ := open_op3 hc ht
   refine ⟨o, q0, q1, q2, q3, q4, q5, q6, q7, Nat.le_trans q8 ?_⟩
   have hmem := mem_bulk (l := (List.range len).map D) (d := D i) (List.mem_map.2 ⟨i, List.mem_range.2 hi, rfl⟩)
   simp only [Rows.uptoBulk] at hk
   simp only
   omega
  refine ⟨fun i => if h : i < len then Classical.choose (each i h) else ⟨0, 0, 0, { data := #[] }, { data := #[] }, { data := #[] }, none, 0, 0⟩, ⟨fun i hi => ?_⟩, fun i hi => ?_, hlen⟩
  ·obtain ⟨q0, q1, q2, q3, q4, q5, q6, q7⟩ := Classical.choose_spec (each i hi)
   have hs := hsp (by omega)
   subst hs
   simp only [dif_pos hi]
   exact ⟨g, off, rfl, World.block_lt_of_cell? W _ q0, q0, q1, q2, q3, q4, q5, q6, q7.1.s⟩
  ·obtain ⟨q0, q1, q2, q3, q4, q5, q6, q7⟩ := Classical.choose_spec (each i hi)
   simp only [dif_pos hi]
   exact q7
end
end Go.Proofs.YtldkpahaocjdpaaGreat
