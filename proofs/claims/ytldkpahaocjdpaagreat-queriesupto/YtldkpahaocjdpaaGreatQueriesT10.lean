/-
  The program's reader: atom, with terms in brackets.
  The program's reader: atom, with terms in brackets that can be read.
  The program's reader: atom, at every text and place: it is read as the plain text says (patomS), and mentioned; or it cannot be, and nothing is mentioned.
  The program's reader: literal, at every text and place.
-/
import Derived.Test.YtldkpahaocjdpaaGreatQueriesT09
import Derived.Test.YtldkpahaocjdpaaGreatQueriesT08
set_option maxHeartbeats 16000000
namespace Go.Proofs.YtldkpahaocjdpaaGreat
section
open Go.RowKit
set_option maxRecDepth 100000 in
theorem patom_bad (w : World) (b : Nat) (s : ByteArray) (pos num : Nat) (mv : Value) (neg : Bool) (start : Nat) (ms : List (PMen × Value)) (h : Rdr w b s pos num mv) (hms : MRow w (b + 1) mv ms) (hpos : pos ≤ s.size) (hs : s.size ≤ 2000000) (hk : (zae s pos).1 = 2) (hk5 : (zae s (zae s pos).2.2).1 = 5) (hPok : (zat s 4 (zae s (zae s pos).2.2).2.2 [] (fun _ => 0)).1 = false) :
  Calls Tryz.prog 98 #[.pointer (some ⟨b, 0, none⟩), .bool neg, .int .i64 start] w fun e w' => e = .returned (.tuple #[.agg #[.string { data := #[] }, .slice none 0 0], .bool false]) ∧ Kept [b] w w' ∧ Rdr w' b s (zat s 4 (zae s (zae s pos).2.2).2.2 [] (fun _ => 0)).2.1 num mv := by
 have hsm : s.size ≤ maxLen := by unfold maxLen; omega
 have hk2 : ((zae s pos).1 == 2) = true := by rw [hk]; rfl
 have hk5' : ((zae s (zae s pos).2.2).1 == 5) = true := by rw [hk5]; rfl
 have ht : za2 s pos 2 = (zae s pos).2.2 := by unfold za2; rw [if_pos hk2]
 have ht5 : za2 s (zae s pos).2.2 5 = (zae s (zae s pos).2.2).2.2 := by unfold za2; rw [if_pos hk5']
 have HT := hide ht
 have HT5 := hide ht5
 have hp1 := (zbs s pos hpos).2
 have hp2 := (zbs s (zae s pos).2.2 hp1).2
 have h0 := AInv.start neg start h hpos
 obtain ⟨am, capm, rfl⟩ := zac hms.row
 obtain ⟨hlt, c0, c1, c2, c3, c4, c5, fz⟩ := h
 clear hk ht ht5 hk5
 go_enter Tryz.func98, Tryz.ntmps98
 go_wp2_with fail
 go_region
 clear c0 c1 c2 c3 c4 c5 fz
 go_wp2_with fail
 refine (zf3 s pos num _ b _ h0.rdr hpos hs).mono ?_
 rintro e w2 ⟨rfl, hb2⟩
 have h2 := h0.same hb2
 have d2 := h2.mc.c2
 have df := h2.mc.fz 2
 have h3 := h2.pred (zbp s pos)
 have HI := hide h3
 clear h0 hb2 h2 h3
 go_wp2_with fail
 refine (zbm s pos num _ 2 b _ (zaa HI).rdr hpos hsm).mono ?_
 rintro e w4 ⟨rfl, hk4, hr4⟩
 rw [zaa HT] at hr4
 have h5 := (zaa HI).call hk4 hr4 hp1
 clear HI hk4 hr4 d2 df
 go_wp2_with fail
 refine (zbm s (zae s pos).2.2 num _ 5 b _ h5.rdr hp1 hsm).mono ?_
 rintro e w6 ⟨rfl, hk6, hr6⟩
 rw [zaa HT5] at hr6
 have h7 := h5.call hk6 hr6 hp2
 clear h5 hk6 hr6
 have hbn : b ≠ w.heap.size + 1 := by have := h7.bw; omega
 go_wp2_with fail
 refine (zoo w6 b (w.heap.size + 1) s _ num _ num neg _ start (zae s pos).2.1 _ h7.rdr h7.mc hbn hp2 hs).mono ?_
 rintro e w8 ⟨rfl, tv, hT⟩
 generalize hPP : zat s 4 (zae s (zae s pos).2.2).2.2 [] (fun _ => 0) = PP at *
 obtain ⟨ok, p3, ts, pl⟩ := PP
 simp only at hT
 obtain ⟨at1, capt, rfl⟩ := zac hT.own
 have hsz6 : w.heap.size + 1 < w6.heap.size := h7.mc.lt
 have h8 : AInv w b s num (.slice am ms.length capm) neg start (zae s pos).2.1 (zbp s pos) (.slice at1 ts.length capt) pl p3 w8 := by
  refine ⟨hT.rdr, hT.hp, hT.mc, h7.ra.kept hT.kept (by simp; have := h7.bw; omega), ?_, h7.bw⟩
  have k1 : Kept [b, w.heap.size + 1] w w6 := h7.kept.mono (by simp)
  exact (k1.trans hT.kept).mono (by simp)
 have htw : w8.ownsRow w.heap.size 191 1 (.slice at1 ts.length capt) ts.length (zbj ts) := zaf hT.own (by omega)
 have HTF := hide (fun g (e : (Value.slice at1 ts.length capt).ownBlock = some g) => (hT.own.lt g e).1)
 clear hT h7
 have hok : ok = false := hPok
 subst hok
 obtain ⟨ra0, ra1, ra2, ra3⟩ := h8.ra
 clear htw HTF
 go_wp2_with fail
 obtain ⟨q0, q1⟩ := set2 h8.ra (.string { data := #[] }) (.slice none 0 0)
 refine bodyPost_ret (v := .tuple #[.agg #[.string { data := #[] }, .slice none 0 0], .bool false]) (by simp [results, Tryz.results98, go_sem, q0, q1]) rfl ⟨rfl, ?_, ?_⟩
 ·exact (h8.kept.setCell (.inr (Nat.le_refl _)) _).setCell (.inr (Nat.le_refl _)) _
 ·rw [hPP]
  exact h8.rdr.kept (zfh w8 w.heap.size (.string { data := #[] }) (.slice none 0 0)) (by simp; omega)
end
section
open Go.RowKit
set_option maxRecDepth 100000 in
theorem patom_yes (w : World) (b : Nat) (s : ByteArray) (pos num : Nat) (mv : Value) (neg : Bool) (start : Nat) (ms : List (PMen × Value)) (h : Rdr w b s pos num mv) (hms : MRow w (b + 1) mv ms) (hml : ms.length ≤ 1000) (hpos : pos ≤ s.size) (hs : s.size ≤ 2000000) (hk : (zae s pos).1 = 2) (hk5 : (zae s (zae s pos).2.2).1 = 5) (hPok : (zat s 4 (zae s (zae s pos).2.2).2.2 [] (fun _ => 0)).1 = true) :
  Calls Tryz.prog 98 #[.pointer (some ⟨b, 0, none⟩), .bool neg, .int .i64 start] w fun e w' => ∃ tv mv', e = .returned (.tuple #[.agg #[.string (zbp s pos), tv], .bool true]) ∧ Kept (b :: mv.ownBlock.toList) w w' ∧ Rdr w' b s (zat s 4 (zae s (zae s pos).2.2).2.2 [] (fun _ => 0)).2.1 num mv' ∧ MRow w' (b + 1) mv' (ms ++ [(⟨num, neg, zbp s pos, (zat s 4 (zae s (zae s pos).2.2).2.2 [] (fun _ => 0)).2.2.1, start, (zae s pos).2.1, (zat s 4 (zae s (zae s pos).2.2).2.2 [] (fun _ => 0)).2.2.2⟩, tv)]) ∧ w'.ownsRow w.heap.size 191 1 tv (zat s 4 (zae s (zae s pos).2.2).2.2 [] (fun _ => 0)).2.2.1.length (zbj (zat s 4 (zae s (zae s pos).2.2).2.2 [] (fun _ => 0)).2.2.1)  ∧ (∀ k, mv'.ownBlock = some k → mv.ownBlock = some k ∨ w.heap.size ≤ k) := by
 obtain ⟨i0, hi, hz0, hz1, hz2⟩ := info_parts infoMen
 have hsm : s.size ≤ maxLen := by unfold maxLen; omega
 have hk2 : ((zae s pos).1 == 2) = true := by rw [hk]; rfl
 have hk5' : ((zae s (zae s pos).2.2).1 == 5) = true := by rw [hk5]; rfl
 have ht : za2 s pos 2 = (zae s pos).2.2 := by unfold za2; rw [if_pos hk2]
 have ht5 : za2 s (zae s pos).2.2 5 = (zae s (zae s pos).2.2).2.2 := by unfold za2; rw [if_pos hk5']
 have HT := hide ht
 have HT5 := hide ht5
 have hp1 := (zbs s pos hpos).2
 have hp2 := (zbs s (zae s pos).2.2 hp1).2
 have h0 := AInv.start neg start h hpos
 obtain ⟨am, capm, rfl⟩ := zac hms.row
 have HTW := hide (fun (x : PMen × Value) (hx : x ∈ ms) k (e : x.2.ownBlock = some k) => ((hms.each x hx).lt k e).2)
 have HMW := hide (fun k (e : (Value.slice am ms.length capm).ownBlock = some k) => (hms.row.lt k e).2)
 obtain ⟨hlt, c0, c1, c2, c3, c4, c5, fz⟩ := h
 clear hk ht ht5 hk5
 go_enter Tryz.func98, Tryz.ntmps98
 go_wp2_with fail
 go_region
 clear c0 c1 c2 c3 c4 c5 fz
 go_wp2_with fail
 refine (zf3 s pos num _ b _ h0.rdr hpos hs).mono ?_
 rintro e w2 ⟨rfl, hb2⟩
 have h2 := h0.same hb2
 have d2 := h2.mc.c2
 have df := h2.mc.fz 2
 have h3 := h2.pred (zbp s pos)
 have HI := hide h3
 clear h0 hb2 h2 h3
 go_wp2_with fail
 refine (zbm s pos num _ 2 b _ (zaa HI).rdr hpos hsm).mono ?_
 rintro e w4 ⟨rfl, hk4, hr4⟩
 rw [zaa HT] at hr4
 have h5 := (zaa HI).call hk4 hr4 hp1
 clear HI hk4 hr4 d2 df
 go_wp2_with fail
 refine (zbm s (zae s pos).2.2 num _ 5 b _ h5.rdr hp1 hsm).mono ?_
 rintro e w6 ⟨rfl, hk6, hr6⟩
 rw [zaa HT5] at hr6
 have h7 := h5.call hk6 hr6 hp2
 clear h5 hk6 hr6
 have hbn : b ≠ w.heap.size + 1 := by have := h7.bw; omega
 go_wp2_with fail
 refine (zoo w6 b (w.heap.size + 1) s _ num _ num neg _ start (zae s pos).2.1 _ h7.rdr h7.mc hbn hp2 hs).mono ?_
 rintro e w8 ⟨rfl, tv, hT⟩
 generalize hPP : zat s 4 (zae s (zae s pos).2.2).2.2 [] (fun _ => 0) = PP at *
 obtain ⟨ok, p3, ts, pl⟩ := PP
 simp only at hT
 obtain ⟨at1, capt, rfl⟩ := zac hT.own
 have hsz6 : w.heap.size + 1 < w6.heap.size := h7.mc.lt
 have h8 : AInv w b s num (.slice am ms.length capm) neg start (zae s pos).2.1 (zbp s pos) (.slice at1 ts.length capt) pl p3 w8 := by
  refine ⟨hT.rdr, hT.hp, hT.mc, h7.ra.kept hT.kept (by simp; have := h7.bw; omega), ?_, h7.bw⟩
  have k1 : Kept [b, w.heap.size + 1] w w6 := h7.kept.mono (by simp)
  exact (k1.trans hT.kept).mono (by simp)
 have htw : w8.ownsRow w.heap.size 191 1 (.slice at1 ts.length capt) ts.length (zbj ts) := zaf hT.own (by omega)
 have HTF := hide (fun g (e : (Value.slice at1 ts.length capt).ownBlock = some g) => (hT.own.lt g e).1)
 clear hT h7
 have hok : ok = true := hPok
 subst hok
 have HPP := hide hPP
 clear hPP
 have hms7 : MRow w8 (b + 1) (.slice am ms.length capm) ms := hms.kept h8.kept (by simp)
 obtain ⟨x0, x1, x2, x3, x4, x5, x6, xp, xf⟩ := h8.mc
 have y0 := xp 0 (by omega)
 have y1 := xp 1 (by omega)
 have y2 := xp 2 (by omega)
 have y3 := xp 3 (by omega)
 have r5 := h8.rdr.c5
 have hrow := hms7.row
 have s1 : Hid (((w8.alloc (Obj.cells #[Value.int IntKind.i64 ↑num, Value.bool neg, Value.string (zbp s pos), .slice at1 ts.length capt, Value.int IntKind.i64 ↑start, Value.int IntKind.i64 ↑(zae s pos).snd.fst, Value.int IntKind.i64 ↑(pl 0), Value.int IntKind.i64 ↑(pl 1), Value.int IntKind.i64 ↑(pl 2), Value.int IntKind.i64 ↑(pl 3)] 221)).drew).ownsRow (b + 1) 221 10 (Value.slice am ms.length capm) ms.length (zea ms)) := hrow.alloc _
 have s2 : Hid (∀ j u, ([Value.int IntKind.i64 ↑num, Value.bool neg, Value.string (zbp s pos), .slice at1 ts.length capt, Value.int IntKind.i64 ↑start, Value.int IntKind.i64 ↑(zae s pos).snd.fst, Value.int IntKind.i64 ↑(pl 0), Value.int IntKind.i64 ↑(pl 1), Value.int IntKind.i64 ↑(pl 2), Value.int IntKind.i64 ↑(pl 3)] : List Value)[j]? = some u → ((w8.alloc (Obj.cells #[Value.int IntKind.i64 ↑num, Value.bool neg, Value.string (zbp s pos), .slice at1 ts.length capt, Value.int IntKind.i64 ↑start, Value.int IntKind.i64 ↑(zae s pos).snd.fst, Value.int IntKind.i64 ↑(pl 0), Value.int IntKind.i64 ↑(pl 1), Value.int IntKind.i64 ↑(pl 2), Value.int IntKind.i64 ↑(pl 3)] 221)).drew).cell? ((⟨w8.heap.size, 0, none⟩ : Addr).add j) = some u) := World.news_of_block (heap_alloc_new w8 _)
 have s3 : Hid (∀ u ∈ ([Value.int IntKind.i64 ↑num, Value.bool neg, Value.string (zbp s pos), .slice at1 ts.length capt, Value.int IntKind.i64 ↑start, Value.int IntKind.i64 ↑(zae s pos).snd.fst, Value.int IntKind.i64 ↑(pl 0), Value.int IntKind.i64 ↑(pl 1), Value.int IntKind.i64 ↑(pl 2), Value.int IntKind.i64 ↑(pl 3)] : List Value), u.oneCell' = true) := men_one ⟨num, neg, zbp s pos, ts, start, (zae s pos).2.1, pl⟩ at1 ts.length capt
 have s4 : Hid (ms.length + 1 ≤ maxLen) := by show _ ≤ _; unfold maxLen; omega
 have s5 : Hid ((ms.length + 1) * 104 ≤ 140737488355328) := by show _ ≤ _; omega
 have s6 : Hid (b + 1 ≤ ((w8.alloc (Obj.cells #[Value.int IntKind.i64 ↑num, Value.bool neg, Value.string (zbp s pos), .slice at1 ts.length capt, Value.int IntKind.i64 ↑start, Value.int IntKind.i64 ↑(zae s pos).snd.fst, Value.int IntKind.i64 ↑(pl 0), Value.int IntKind.i64 ↑(pl 1), Value.int IntKind.i64 ↑(pl 2), Value.int IntKind.i64 ↑(pl 3)] 221)).drew).heap.size) := by show _ ≤ _; have := h8.rdr.lt; simp; omega
 have hW : ∀ k, k < w8.heap.size → ((w8.alloc (Obj.cells #[Value.int IntKind.i64 ↑num, Value.bool neg, Value.string (zbp s pos), .slice at1 ts.length capt, Value.int IntKind.i64 ↑start, Value.int IntKind.i64 ↑(zae s pos).snd.fst, Value.int IntKind.i64 ↑(pl 0), Value.int IntKind.i64 ↑(pl 1), Value.int IntKind.i64 ↑(pl 2), Value.int IntKind.i64 ↑(pl 3)] 221)).drew).heap[k]? = w8.heap[k]? := fun k hk => ((Kept.refl [] w8).alloc _).block k hk (by simp)
 have hS : w8.heap.size ≤ ((w8.alloc (Obj.cells #[Value.int IntKind.i64 ↑num, Value.bool neg, Value.string (zbp s pos), .slice at1 ts.length capt, Value.int IntKind.i64 ↑start, Value.int IntKind.i64 ↑(zae s pos).snd.fst, Value.int IntKind.i64 ↑(pl 0), Value.int IntKind.i64 ↑(pl 1), Value.int IntKind.i64 ↑(pl 2), Value.int IntKind.i64 ↑(pl 3)] 221)).drew).heap.size := ((Kept.refl [] w8).alloc _).size
 have s8 := hide (fun (w5 : World) (g cap : Nat) (hg : ((w8.alloc (Obj.cells #[Value.int IntKind.i64 ↑num, Value.bool neg, Value.string (zbp s pos), .slice at1 ts.length capt, Value.int IntKind.i64 ↑start, Value.int IntKind.i64 ↑(zae s pos).snd.fst, Value.int IntKind.i64 ↑(pl 0), Value.int IntKind.i64 ↑(pl 1), Value.int IntKind.i64 ↑(pl 2), Value.int IntKind.i64 ↑(pl 3)] 221)).drew).grownBy w5 (Value.slice am ms.length capm).ownBlock) (hown : w5.ownsRow (b + 1) 221 10 (.slice (some ⟨g, 0, none⟩) (ms.length + 1) cap) (ms.length + 1) (zea ms ++ [Value.int IntKind.i64 ↑num, Value.bool neg, Value.string (zbp s pos), .slice at1 ts.length capt, Value.int IntKind.i64 ↑start, Value.int IntKind.i64 ↑(zae s pos).snd.fst, Value.int IntKind.i64 ↑(pl 0), Value.int IntKind.i64 ↑(pl 1), Value.int IntKind.i64 ↑(pl 2), Value.int IntKind.i64 ↑(pl 3)])) => men_end (v' := .slice (some ⟨g, 0, none⟩) (ms.length + 1) cap) h8 hms7 (zaa HMW) htw hW hS rfl rfl rfl hg hown)
 have h8l := h8.mc.lt
 have hrl := h8.rdr.lt
 clear hW hS hrow hms7 xp htw
 go_wp2_with fail
 go_region_law (refine step_append_lies _ rfl (.tmp 41) (.tmp 43) 98 rfl (b + 1) 221 i0 (.agg #[.int .i64 0, .bool false, .string { data := #[] }, .slice none 0 0, .int .i64 0, .int .i64 0, .int .i64 0, .int .i64 0, .int .i64 0, .int .i64 0]) 10 104 Tryz.underlying98 hi hz0 hz1 hz2 rfl (by decide) (Value.slice am ms.length capm) ms.length (zea ms) (by simp [Act.eval]) (zaa s1) ⟨w8.heap.size, 0, none⟩ 1 1 [Value.int IntKind.i64 ↑num, Value.bool neg, Value.string (zbp s pos), .slice at1 ts.length capt, Value.int IntKind.i64 ↑start, Value.int IntKind.i64 ↑(zae s pos).snd.fst, Value.int IntKind.i64 ↑(pl 0), Value.int IntKind.i64 ↑(pl 1), Value.int IntKind.i64 ↑(pl 2), Value.int IntKind.i64 ↑(pl 3)] (by simp [Act.eval]) rfl (zaa s2) (zaa s3) (by decide) (zaa s4) (zaa s5) (zaa s6) _ rfl ?_; intro g cap w5 hown5 hg5 hat5 hlt5; obtain ⟨e1, e2, e3, e4, e5, e6, e7⟩ := zaa s8 w5 g cap hg5 hown5; have z5 := e7.c5; have zf := e7.fz 5)
 all_goals
  obtain ⟨ra0, ra1, ra2, ra3⟩ := e5
  have m2 := e6.c2
  have m3 := e6.c3
  have ml := e6.lt
  clear s1 s2 s3 s4 s5 s6 s8 x0 x1 x2 x3 x4 x5 x6 xf y0 y1 y2 y3 r5 z5 zf h8
  go_wp2_with fail
  obtain ⟨q0, q1⟩ := set2 (RA.mk ra0 ra1 ra2 ra3) (.string (zbp s pos)) (.slice at1 ts.length capt)
  have kk := zfh (w5.setCell ⟨b, 5, none⟩ (.slice (some ⟨g, 0, none⟩) (ms.length + 1) cap)) w.heap.size (.string (zbp s pos)) (.slice at1 ts.length capt)
  refine bodyPost_ret (v := .tuple #[.agg #[.string (zbp s pos), .slice at1 ts.length capt], .bool true]) (by simp [results, Tryz.results98, go_sem, q0, q1]) rfl ⟨_, _, rfl, ?_, by rw [zaa HPP]; exact e2.kept kk (by simp; omega), ?_, ?_, fun k e => ?_⟩
  ·exact (e1.setCell (.inr (Nat.le_refl _)) _).setCell (.inr (Nat.le_refl _)) _
  ·rw [zaa HPP]
   refine men_fin e3 kk (fun k e => ?_) (fun x hx k e => ?_)
   ·rcases hat5 with h1 | h1
    ·have := zaa HMW g h1
     injection e with e; simp only at e; omega
    ·injection e with e; simp only at e; simp at h1; omega
   ·rcases List.mem_append.1 hx with hx | hx
    ·have := zaa HTW x hx k e; omega
    ·simp at hx; subst hx; have := zaa HTF k e; omega
  ·rw [zaa HPP]
   exact zdh e4 kk (fun k e => by have := zaa HTF k e; omega)
  ·injection e with e
   simp only at e
   subst e
   rcases hat5 with h1 | h1
   ·exact .inl h1
   ·refine .inr ?_; simp at h1; omega
end
section
open Go.RowKit
def AtomPost (w : World) (b : Nat) (s : ByteArray) (num : Nat) (mv : Value) (neg : Bool) (start place : Nat) (ms : List (PMen × Value)) (r : PRes) (e : Ending) (w' : World) : Prop :=
 match r with
 | .no p => e = .returned (.tuple #[.agg #[.string { data := #[] }, .slice none 0 0], .bool false]) ∧ Kept [b] w w' ∧ Rdr w' b s p num mv
 | .yes p pd ts pl => ∃ tv mv', e = .returned (.tuple #[.agg #[.string pd, tv], .bool true]) ∧ Kept (b :: mv.ownBlock.toList) w w' ∧ Rdr w' b s p num mv' ∧ MRow w' (b + 1) mv' (ms ++ [(⟨num, neg, pd, ts, start, place, pl⟩, tv)]) ∧ w'.ownsRow w.heap.size 191 1 tv ts.length (zbj ts) ∧ (∀ k, mv'.ownBlock = some k → mv.ownBlock = some k ∨ w.heap.size ≤ k)
theorem zj4 (w : World) (b : Nat) (s : ByteArray) (pos num : Nat) (mv : Value) (neg : Bool) (start : Nat) (ms : List (PMen × Value)) (h : Rdr w b s pos num mv) (hms : MRow w (b + 1) mv ms) (hml : ms.length ≤ 1000) (hpos : pos ≤ s.size) (hs : s.size ≤ 2000000) :
  Calls Tryz.prog 98 #[.pointer (some ⟨b, 0, none⟩), .bool neg, .int .i64 start] w (AtomPost w b s num mv neg start (zae s pos).2.1 ms (zby s pos)) := by
 by_cases hk : (zae s pos).1 = 2
 ·by_cases hk5 : (zae s (zae s pos).2.2).1 = 5
  ·cases hP : (zat s 4 (zae s (zae s pos).2.2).2.2 [] (fun _ => 0)).1 with
   | false =>
    have e : zby s pos = .no (zat s 4 (zae s (zae s pos).2.2).2.2 [] (fun _ => 0)).2.1 := by unfold zby; rw [if_pos hk, if_pos hk5, if_neg (by rw [hP]; decide)]
    rw [e]
    exact patom_bad w b s pos num mv neg start ms h hms hpos hs hk hk5 hP
   | true =>
    have e : zby s pos = .yes (zat s 4 (zae s (zae s pos).2.2).2.2 [] (fun _ => 0)).2.1 (zbp s pos) (zat s 4 (zae s (zae s pos).2.2).2.2 [] (fun _ => 0)).2.2.1 (zat s 4 (zae s (zae s pos).2.2).2.2 [] (fun _ => 0)).2.2.2 := by unfold zby; rw [if_pos hk, if_pos hk5, if_pos hP]
    rw [e]
    exact patom_yes w b s pos num mv neg start ms h hms hml hpos hs hk hk5 hP
  ·have e : zby s pos = .yes (zae s pos).2.2 (zbp s pos) [] (fun _ => 0) := by unfold zby; rw [if_pos hk, if_neg hk5]
   rw [e]
   exact patom_bare w b s pos num mv neg start ms h hms hml hpos hs hk hk5
 ·have e : zby s pos = .no pos := by unfold zby; rw [if_neg hk]
  rw [e]
  exact patom_no w b s pos num mv neg start h hpos hs hk
end
section
open Go.RowKit
theorem zkr {w : World} {base : Nat} {e e0 : TypeId} {size : Nat} {v : Value} {n : Nat} {xs : List Value} {n0 : Nat} {cur : Array Value} {fr : Nat × Nat} (h : w.ownsRow base e size v n xs) (hb : w.heap[n0]? = some (.cells cur e0 fr)) (hne : e ≠ e0) : ∀ g, v.ownBlock = some g → g ≠ n0 := by
 intro g hg hgn
 subst hgn
 rcases h.2 with ⟨rfl, _⟩ | ⟨g', cap, cur', rfl, _, hgg, _⟩
 ·cases hg
 ·injection hg with hg
  simp only at hg
  subst hg
  rw [hb] at hgg
  injection hgg with hgg
  injection hgg with _ hgg _
  exact hne hgg.symm
theorem men_apart {w w' : World} {base : Nat} {mv : Value} {ms : List (PMen × Value)} {n0 : Nat} {cur : Array Value} {e0 : TypeId} {fr : Nat × Nat} (h : MRow w base mv ms) (hb : w.heap[n0]? = some (.cells cur e0 fr)) (h1 : 221 ≠ e0) (h2 : 191 ≠ e0) (k : Kept [n0] w w') : MRow w' base mv ms :=
 men_fin h k (zkr h.row hb h1) (fun x hx => zkr (h.each x hx) hb h2)
def LitPost (w : World) (b : Nat) (s : ByteArray) (num : Nat) (mv : Value) (neg : Bool) (start place : Nat) (ms : List (PMen × Value)) (r : PRes) (e : Ending) (w' : World) : Prop :=
 match r with
 | .no p => e = .returned (.tuple #[.agg #[.bool neg, .string { data := #[] }, .slice none 0 0], .bool false]) ∧ Kept [b] w w' ∧ Rdr w' b s p num mv
 | .yes p pd ts pl => ∃ tv mv', e = .returned (.tuple #[.agg #[.bool neg, .string pd, tv], .bool true]) ∧ Kept (b :: mv.ownBlock.toList) w w' ∧ Rdr w' b s p num mv' ∧ MRow w' (b + 1) mv' (ms ++ [(⟨num, neg, pd, ts, start, place, pl⟩, tv)]) ∧ w'.ownsRow w.heap.size 191 1 tv ts.length (zbj ts) ∧ (∀ k, mv'.ownBlock = some k → mv.ownBlock = some k ∨ w.heap.size ≤ k)
theorem zab {w : World} {n : Nat} {c : Array Value} {t : TypeId} (h : w.heap[n]? = some (.cells c t (0, 0))) (j : Nat) : w.cell? ⟨n, j, none⟩ = c[j]? ∧ w.frozen? ⟨n, j, none⟩ = false := by
 unfold World.cell? World.frozen?
 simp [h]
theorem kept3 (w1 : World) (n : Nat) (v0 v1 v2 : Value) : Kept [n] w1 (((w1.setCell ⟨n, 0, none⟩ v0).setCell ⟨n, 1, none⟩ v1).setCell ⟨n, 2, none⟩ v2) :=
 (((Kept.refl [n] w1).setCell (by simp) _).setCell (by simp) _).setCell (by simp) _
theorem Kept.past {B : List Nat} {w w1 w2 : World} (h : Kept B w w1) (k : Kept [w.heap.size] w1 w2) : Kept B w w2 :=
 ⟨k.os.trans h.os, k.tape.trans h.tape, k.output.trans h.output, Nat.le_trans h.size k.size, fun i hi hn => (k.block i (Nat.lt_of_lt_of_le hi h.size) (by simp; omega)).trans (h.block i hi hn)⟩
set_option maxRecDepth 100000 in
theorem plit_any (w : World) (b : Nat) (s : ByteArray) (pos num : Nat) (mv : Value) (ms : List (PMen × Value)) (h : Rdr w b s pos num mv) (hms : MRow w (b + 1) mv ms) (hml : ms.length ≤ 1000) (hpos : pos ≤ s.size) (hs : s.size ≤ 2000000) :
  Calls Tryz.prog 175 #[.pointer (some ⟨b, 0, none⟩)] w (LitPost w b s num mv ((zae s pos).1 == 4) (zae s pos).2.1 (zae s (za2 s pos 4)).2.1 ms (zby s (za2 s pos 4))) := by
 have hsm : s.size ≤ maxLen := by unfold maxLen; omega
 have h0 := h.kept ((Kept.refl [] w).alloc (.cells #[.bool false, .string { data := #[] }, .slice none 0 0] 183)) (by simp)
 have hms0 := hms.kept ((Kept.refl [] w).alloc (.cells #[.bool false, .string { data := #[] }, .slice none 0 0] 183)) (by simp)
 have hp1 : za2 s pos 4 ≤ s.size := by unfold za2; split; exact (zbs s pos hpos).2; exact hpos
 have HMW := hide (fun k (e : mv.ownBlock = some k) => (hms.row.lt k e).2)
 obtain ⟨hlt, c0, c1, c2, c3, c4, c5, fz⟩ := h
 have hbk : (w.alloc (.cells #[.bool false, .string { data := #[] }, .slice none 0 0] 183)).heap[w.heap.size]? = some (.cells #[.bool false, .string { data := #[] }, .slice none 0 0] 183 (0, 0)) := heap_alloc_new w _
 have HBK := hide hbk
 clear hbk
 go_enter Tryz.func175, Tryz.ntmps175
 go_wp2_with fail
 refine (zbm s pos num mv 4 b _ h0 hpos hsm).mono ?_
 rintro e w1 ⟨rfl, hk1, hr1⟩
 have hms1 := hms0.kept hk1 (by simp)
 clear c0 c1 c2 c3 c4 c5 fz h0 hms0
 go_wp2_with fail
 refine (zj4 w1 b s (za2 s pos 4) num mv _ _ ms hr1 hms1 hml hp1 hs).mono ?_
 intro e w2 hpost
 cases hr : zby s (za2 s pos 4) with
 | no p =>
  rw [hr] at hpost
  obtain ⟨rfl, hk2, hr2⟩ := hpost
  have hkk := hk1.trans hk2
  have hb2 := (hkk.block w.heap.size (by simp) (by simp; omega)).trans (zaa HBK)
  obtain ⟨a0, f0⟩ := zab hb2 0
  obtain ⟨a1, f1⟩ := zab hb2 1
  obtain ⟨a2, f2⟩ := zab hb2 2
  have hnl : w.heap.size < w2.heap.size := by have := hkk.size; simp at this; omega
  have HR := hide hr
  clear hr hk1 hr1 hms1 hk2
  go_wp2_with fail
  obtain ⟨q0, q1, q2⟩ := set3 a0 a1 a2 (.bool ((zae s pos).1 == 4)) (.string { data := #[] }) (.slice none 0 0)
  have q0 := zdi q0; have q1 := zdi q1; have q2 := zdi q2
  have k3 := (kept3 w2 w.heap.size (.bool ((zae s pos).1 == 4)) (.string { data := #[] }) (.slice none 0 0)).alloc (Obj.cells #[Value.string { data := #[] }, Value.slice none 0 0] 79)
  refine bodyPost_ret (v := .tuple #[.agg #[.bool ((zae s pos).1 == 4), .string { data := #[] }, .slice none 0 0], .bool false]) (by simp [results, Tryz.results175, go_sem, q0, q1, q2]) rfl ?_
  rw [zaa HR]
  exact ⟨rfl, (((Kept.refl [b] w).alloc _).trans hkk).past k3, hr2.kept k3 (by simp; omega)⟩
 | yes p pd ts pl =>
  rw [hr] at hpost
  obtain ⟨tv, mv', rfl, hk2, hr2, hm2, ht2, hw2⟩ := hpost
  obtain ⟨at1, capt, rfl⟩ := zac ht2
  have hkk := (hk1.mono (C := b :: mv.ownBlock.toList) (by simp)).trans hk2
  have hb2 := (hkk.block w.heap.size (by simp) (by
   intro hm
   rcases List.mem_cons.1 hm with hm | hm
   ·omega
   ·have := zaa HMW w.heap.size (by simpa using hm); omega)).trans (zaa HBK)
  obtain ⟨a0, f0⟩ := zab hb2 0
  obtain ⟨a1, f1⟩ := zab hb2 1
  obtain ⟨a2, f2⟩ := zab hb2 2
  have hnl : w.heap.size < w2.heap.size := by have := hkk.size; simp at this; omega
  have hw1 : w.heap.size ≤ w1.heap.size := by have := hk1.size; simp at this; omega
  have HR := hide hr
  have HB2 := hide hb2
  have HW2 := hide hw2
  clear hr hk1 hr1 hms1 hk2 hb2 hw2
  go_wp2_with fail
  obtain ⟨q0, q1, q2⟩ := set3 a0 a1 a2 (.bool ((zae s pos).1 == 4)) (.string pd) (.slice at1 ts.length capt)
  have q0 := zdi q0; have q1 := zdi q1; have q2 := zdi q2
  have k3 := (kept3 w2 w.heap.size (.bool ((zae s pos).1 == 4)) (.string pd) (.slice at1 ts.length capt)).alloc (Obj.cells #[Value.string pd, .slice at1 ts.length capt] 79)
  refine bodyPost_ret (v := .tuple #[.agg #[.bool ((zae s pos).1 == 4), .string pd, .slice at1 ts.length capt], .bool true]) (by simp [results, Tryz.results175, go_sem, q0, q1, q2]) rfl ?_
  rw [zaa HR]
  exact ⟨_, _, rfl, (((Kept.refl _ w).alloc _).trans hkk).past k3, hr2.kept k3 (by simp; omega), men_apart hm2 (zaa HB2) (by decide) (by decide) k3, zaf (zdh ht2 k3 (zkr ht2 (zaa HB2) (by decide))) hw1, fun k e => by rcases zaa HW2 k e with h1 | h1; exact .inl h1; exact .inr (Nat.le_trans hw1 h1)⟩
end
end Go.Proofs.YtldkpahaocjdpaaGreat
