/-
  waysFrom's function, as an iterator: what comes of it, for every loop body that keeps what it reads.
  waysFrom and Ways: the iterator is made.
  next, plain: what is new at a height; and what lies where while it is worked out.
-/
import Derived.Test.YtldkpahaocjdpaaGreatQueriesT39
import Derived.Test.YtldkpahaocjdpaaGreatQueriesT20
set_option maxHeartbeats 16000000
namespace Go.Proofs.YtldkpahaocjdpaaGreat
section
open Go.RowKit Go.Maps
attribute [local go_sem ↓] zgb ze5 zgm zdt to_sStore to_sAlloc
attribute [local go_sem] zei zfs run_sAlloc
theorem yield_any {m m' l : Nat} {args : Array Value} {W : World} {R : Ending → World → Prop} (h : YieldAt Fence.wide m Tryz.prog l args W R) : YieldAt Fence.wide m' Tryz.prog l args W R := by
 obtain ⟨fn, tmps, assign, body, hy, hF, hR⟩ := h
 exact ⟨fn, tmps, assign, body, hy, hF, fun c cs _ => hR c cs (room_wide _)⟩
structure PWIn (No : Nat → Prop) (w : World) (rb xb eb mb : Nat) (pd : ByteArray) (hv bv : Value) (base : Nat) (ls : List (PLit × Value)) (K : List (Th × Nat)) (e : PEnv) : Prop where
 r : w.heap[rb]? = some (.cells #[.string pd, hv, bv] 123 (0, 0))
 x : w.heap[xb]? = some (.cells #[.map (some mb)] 82 (0, 0))
 b : BV w eb e
 l : LRow w base bv ls
 m : HMap w mb K
 nm : ¬ No mb
 nt : ∀ x ∈ ls, ∀ g, x.2.ownBlock = some g → ¬ No g
 no : ∀ g, No g → g < w.heap.size
 l3 : ls.length ≤ 3
 t4 : ∀ x ∈ ls, x.1.ts.length ≤ 4
 h : ∃ a n c, hv = .slice a n c
theorem PWIn.below {No : Nat → Prop} {w w' : World} {rb xb eb mb : Nat} {pd : ByteArray} {hv bv : Value} {base : Nat} {ls : List (PLit × Value)} {K : List (Th × Nat)} {e : PEnv} (h : PWIn No w rb xb eb mb pd hv bv base ls K e) (k : Below w.heap.size w w') : PWIn No w' rb xb eb mb pd hv bv base ls K e :=
 ⟨(k.block _ (Array.getElem?_eq_some_iff.1 h.r).1).trans h.r, (k.block _ (Array.getElem?_eq_some_iff.1 h.x).1).trans h.x, h.b.below k, h.l.below k, h.m.block (k.block _ h.m.lt), h.nm, h.nt, fun g hg => by have := h.no g hg; have := k.size; omega, h.l3, h.t4, h.h⟩
theorem SV.new (w : World) (pv nv mv fv : Value) : SV (w.alloc (.cells #[pv, nv, mv, fv] 361)) w.heap.size pv nv mv fv := heap_alloc_new w _
theorem SV.below {w w' : World} {b : Nat} {pv nv mv fv : Value} (h : SV w b pv nv mv fv) (k : Below w.heap.size w w') : SV w' b pv nv mv fv := (k.block b (Array.getElem?_eq_some_iff.1 h).1).trans h
theorem SV.put {w : World} {b : Nat} {p0 n0 m0 f0 : Value} (h : SV w b p0 n0 m0 f0) (a a' : Option Addr) (n n' c c' m l : Nat) : (zon (.pointer (some ⟨b, 0, none⟩)) (.agg #[.slice a n c, .slice a' n' c', .map (some m), .func (.yield l) #[] #[]])).run Tryz.prog w = .ok () (w.setRow b #[.slice a n c, .slice a' n' c', .map (some m), .func (.yield l) #[] #[]]) := h.store rfl rfl rfl rfl
theorem sStore_new (w : World) (p0 n0 m0 f0 : Value) (a a' : Option Addr) (n n' c c' m l : Nat) : (zon (.pointer (some ⟨w.heap.size, 0, none⟩)) (.agg #[.slice a n c, .slice a' n' c', .map (some m), .func (.yield l) #[] #[]])).run Tryz.prog (w.alloc (.cells #[p0, n0, m0, f0] 361)) = .ok () (w.alloc (.cells #[.slice a n c, .slice a' n' c', .map (some m), .func (.yield l) #[] #[]] 361)) := by
 rw [(SV.new w p0 n0 m0 f0).put, World.setRow_alloc_new]
theorem AtomsIn.setRow {No : Nat → Prop} {w : World} {v : Value} {As : List (PAtm × Value)} (h : AtomsIn No w v As) {sb : Nat} (cs : Array Value) (h1 : ∀ g, v.ownBlock = some g → g ≠ sb) (h2 : ∀ x ∈ As, ∀ g, x.2.ownBlock = some g → g ≠ sb) : AtomsIn No (w.setRow sb cs) v As :=
 ⟨let ⟨b, hb⟩ := h.row; ⟨b, zbb hb (fun g hg => setRow_other w sb g cs (h1 g hg))⟩, fun x hx => let ⟨b, hb⟩ := h.terms x hx; ⟨b, zbb hb (fun g hg => setRow_other w sb g cs (h2 x hx g hg))⟩, h.ap, h.apt, h.few⟩
theorem AtomsIn.below {No : Nat → Prop} {w w' : World} {v : Value} {As : List (PAtm × Value)} (h : AtomsIn No w v As) (k : Below w.heap.size w w') : AtomsIn No w' v As := h.keep (Keep.of_below k)
structure RowsIn (No : Nat → Prop) (W : World) (ls : List (PLit × Value)) (sb : Nat) (pv nv : Value) (V : World) : Prop where
 p : AtomsIn No V pv (zc2 false ls)
 n : AtomsIn No V nv (zc2 true ls)
 pb : ∀ g, pv.ownBlock = some g → g ≠ sb
 nb : ∀ g, nv.ownBlock = some g → g ≠ sb
 tb : ∀ x ∈ ls, ∀ g, x.2.ownBlock = some g → g < W.heap.size
 k : Below W.heap.size W V
theorem zlq {b : Bool} {ls : List (PLit × Value)} {x : PAtm × Value} (hx : x ∈ zc2 b ls) : ∃ y ∈ ls, x = zkc y := by
 obtain ⟨y, hy, rfl⟩ := List.mem_map.1 hx
 exact ⟨y, (List.mem_filter.1 hy).1, rfl⟩
theorem RowsIn.set {No : Nat → Prop} {W : World} {ls : List (PLit × Value)} {sb : Nat} {pv nv : Value} {V : World} (h : RowsIn No W ls sb pv nv V) (hs : W.heap.size ≤ sb) (cs : Array Value) : AtomsIn No (V.setRow sb cs) pv (zc2 false ls) ∧ AtomsIn No (V.setRow sb cs) nv (zc2 true ls) ∧ Below W.heap.size W (V.setRow sb cs) :=
 ⟨h.p.setRow cs h.pb (fun x hx g hg => by obtain ⟨y, hy, rfl⟩ := zlq hx; have := h.tb y hy g hg; omega), h.n.setRow cs h.nb (fun x hx g hg => by obtain ⟨y, hy, rfl⟩ := zlq hx; have := h.tb y hy g hg; omega), zcn h.k hs cs⟩
theorem zqu {No : Nat → Prop} {W w5 : World} {rb xb eb mb : Nat} {pd : ByteArray} {hv bv : Value} {base : Nat} {ls : List (PLit × Value)} {K : List (Th × Nat)} {e : PEnv} (h : PWIn No W rb xb eb mb pd hv bv base ls K e) (hB : Below W.heap.size W w5) {V4 V5 : Nat} {pv nv : Value} (hp : w5.ownsRow (V4 + 1) 79 2 pv (ls.filter (zcb false)).length ((ls.filter (zcb false)).flatMap zcf)) (hn : w5.ownsRow (V5 + 1) 79 2 nv (ls.filter (zcb true)).length ((ls.filter (zcb true)).flatMap zcf)) (h4 : W.heap.size ≤ V4) (h5 : W.heap.size ≤ V5) (sb : Nat) (pb : ∀ g, pv.ownBlock = some g → g ≠ sb) (nb : ∀ g, nv.ownBlock = some g → g ≠ sb) : RowsIn No W ls sb pv nv w5 :=
 ⟨atoms_in h.l hB hp (fun g hg => by have := h.no g hg; omega) h.nt h.t4, atoms_in h.l hB hn (fun g hg => by have := h.no g hg; omega) h.nt h.t4, pb, nb, fun x hx g hg => ((h.l.each x hx).lt g hg).2, hB⟩
def zdy (ls : List (PLit × Value)) : List PAtm := (zc2 false ls).map (·.1)
def zg1 (ls : List (PLit × Value)) : List PAtm := (zc2 true ls).map (·.1)
abbrev WaySet (K : List (Th × Nat)) (ls : List (PLit × Value)) := { x : PEnv // x ∈ zfj K (zg1 ls) (zdy ls) [] }
set_option maxRecDepth 100000 in
theorem zqj (No : Nat → Prop) (n : Nat) (w : World) (rb xb eb mb : Nat) (pd : ByteArray) (hv bv : Value) (base : Nat) (ls : List (PLit × Value)) (K : List (Th × Nat)) (h : PWIn No w rb xb eb mb pd hv bv base ls K []) (hok : ∀ e' ∈ zbo K (zdy ls) [], ∀ x ∈ zg1 ls, ThOk (zc9 e' x)) :
  SeqStopsK Fence.wide n Tryz.prog 233 #[.pointer (some ⟨rb, 0, none⟩), .pointer (some ⟨xb, 0, none⟩), .pointer (some ⟨eb, 0, none⟩)] (fun x : WaySet K ls => #[zec x.1]) (Keep No) (fun xs => ∀ x, x ∈ xs) (fun _ => True) (K.length ^ (zdy ls).length) w := by
 intro l J' Jx' W hW hJ' hJx' hY h0'
 have hI := h.below hW
 obtain ⟨J, hJd⟩ : ∃ J : List PEnv → World → Prop, J = fun pre V => ∃ pre' : List (WaySet K ls), pre'.map (·.1) = pre ∧ J' pre' V := ⟨_, rfl⟩
 obtain ⟨Jx, hJxd⟩ : ∃ Jx : List PEnv → World → Prop, Jx = fun pre V => ∃ pre' : List (WaySet K ls), pre'.map (·.1) = pre ∧ Jx' pre' V := ⟨_, rfl⟩
 have hJ : AbidesFrom W.heap.size J := fun s A B row hs hg hr => by
  rw [hJd] at hs ⊢
  obtain ⟨p', h1, h2⟩ := hs
  exact ⟨p', h1, hJ' p' A B row h2 hg hr⟩
 have h0 : J [] W := by rw [hJd]; exact ⟨[], rfl, h0'⟩
 have hR : Rounds No l (K.length ^ (zdy ls).length) (fun x => x ∈ zfj K (zg1 ls) (zdy ls) []) J Jx := fun m pre x W1 hx h1 h2 => by
  rw [hJd] at h1
  obtain ⟨p', hp', h1⟩ := h1
  refine yield_any (YieldAt.mono (hY p' ⟨x, hx⟩ W1 h1 (by rw [← hp', List.length_map] at h2; exact h2)) ?_)
  rintro en W' (⟨rfl, h3, h4⟩ | ⟨rfl, h3⟩)
  ·exact ⟨true, rfl, fun _ => ⟨by rw [hJd]; exact ⟨p' ++ [⟨x, hx⟩], by simp [hp'], h3⟩, h4⟩, fun h => by cases h⟩
  ·exact ⟨false, rfl, (fun h => by cases h), fun _ => by rw [hJxd]; exact ⟨p' ++ [⟨x, hx⟩], by simp [hp'], h3⟩⟩
 have HJD := hide hJd
 have HJXD := hide hJxd
 refine callsIn_wide.2 ?_
 obtain ⟨ab, cb, rfl⟩ := zac h.l.row
 obtain ⟨ah, nh, ch, rfl⟩ := h.h
 obtain ⟨c0, -⟩ := zab hI.r 0
 obtain ⟨c1, -⟩ := zab hI.r 1
 obtain ⟨c2, -⟩ := zab hI.r 2
 obtain ⟨d0, -⟩ := zab hI.x 0
 have l3 := hI.l3
 have hrl := (Array.getElem?_eq_some_iff.1 hI.r).1
 have hxl := (Array.getElem?_eq_some_iff.1 hI.x).1
 have HI := hide hI
 have HJ := hide hJ
 have HR := hide hR
 have HH0 := hide h0
 have HOK := hide hok
 simp only [List.getElem?_toArray, List.getElem?_cons_zero, List.getElem?_cons_succ] at c0 c1 c2 d0
 have HP := hide (fun (V : World) (hV : Below W.heap.size W V) => zi3 V base pd ah nh ch ab cb ls (hI.l.below hV) (by omega))
 have HN := hide (fun (V : World) (hV : Below W.heap.size W V) => zpk V base pd ah nh ch ab cb ls (hI.l.below hV) (by omega))
 have HA := hide (fun (V : World) (hV : Below W.heap.size W V) => (show V.cell? ⟨rb, 0, none⟩ = some (.string pd) ∧ V.cell? ⟨rb, 1, none⟩ = some (.slice ah nh ch) ∧ V.cell? ⟨rb, 2, none⟩ = some (.slice ab ls.length cb) ∧ V.cell? ⟨xb, 0, none⟩ = some (.map (some mb)) from ⟨(hV.cell (p := ⟨rb, 0, none⟩) hrl).trans c0, (hV.cell (p := ⟨rb, 1, none⟩) hrl).trans c1, (hV.cell (p := ⟨rb, 2, none⟩) hrl).trans c2, (hV.cell (p := ⟨xb, 0, none⟩) hxl).trans d0⟩))
 clear h hI hR hJ hJ' hJx' hY h0 h0' hok hW hJd hJxd
 go_enter Tryz.func233, Tryz.ntmps233
 go_upto_region 0 with fail
 go_cut [5] from 6 to 15 (fun p wc => ∃ sb pv nv, p = .pointer (some ⟨sb, 0, none⟩) ∧ W.heap.size ≤ sb ∧ SV wc sb pv nv (.map (some mb)) (.func (.yield l) #[] #[]) ∧ AtomsIn No wc pv (zc2 false ls) ∧ AtomsIn No wc nv (zc2 true ls) ∧ Below W.heap.size W wc)
 case first =>
  have hsn := sStore_new
  go_region_held3 (fun V => V.cell? ⟨rb, 0, none⟩ = some (.string pd) ∧ V.cell? ⟨rb, 1, none⟩ = some (.slice ah nh ch) ∧ V.cell? ⟨rb, 2, none⟩ = some (.slice ab ls.length cb) ∧ V.cell? ⟨xb, 0, none⟩ = some (.map (some mb))) ((refine zaa HA _ ?_; first | exact (Below.refl _ _).drew | exact ((Below.refl _ _).alloc (Nat.le_refl _) _).drew | exact hB4 | exact hB4.alloc hB4.size _ | exact hB5 | exact hB5.alloc hB5.size _ | exact zcn hB5 (Nat.le_refl _) _ | exact zcn hB5 hB4.size _)) ((first
   | (go_at_call 164; refine (zaa HP _ (by first | exact (Below.refl _ _).drew | exact ((Below.refl _ _).alloc (Nat.le_refl _) _).drew)).mono ?_; rintro en w4 ⟨a4, c4, rfl, hr4, hb4, hz4⟩; have hB4 : Below W.heap.size W w4 := (by first | exact zba hb4 | exact zmm ((Below.refl _ _).alloc (Nat.le_refl _) _) hb4); have HR4 := hide hr4; clear hr4)
   | (go_at_call 223; refine (zaa HN _ (by first | exact hB4 | exact hB4.alloc hB4.size _)).mono ?_; rintro en w5 ⟨a5, c5, rfl, hr5, hb5, hz5⟩; have hB5 : Below W.heap.size W w5 := (by first | exact hB4.trans (hb5.mono hB4.size) | exact (hB4.alloc hB4.size _).trans (hb5.mono (by simp; have := hB4.size; omega))); have HR5 := hide hr5; clear hr5; first | (have hst5 := (((SV.new W _ _ _ _).below (zba hb4)).below hb5).put a4 a5 (ls.filter (zcb false)).length (ls.filter (zcb true)).length c4 c5 mb l) | (have hst5 := ((SV.new w4 _ _ _ _).below hb5).put a4 a5 (ls.filter (zcb false)).length (ls.filter (zcb true)).length c4 c5 mb l) | skip)))
  all_goals
   go_wp2_with fail
   go_meet
   case rel =>
    have hp5 := zaa HR5
    first
     | (have hp4 := zai (zaa HR4) hb5 (fun g e => ((zaa HR4).lt g e).2)
        have hR := zqu (zaa HI) hB5 hp4 hp5 (Nat.le_refl _) hB4.size w5.heap.size (fun g hg => by have := (hp4.lt g hg).2; omega) (fun g hg => by have := (hp5.lt g hg).2; omega)
        exact ⟨_, _, _, rfl, hB5.size, SV.new _ _ _ _ _, hR.p.below ((Below.refl _ _).alloc (Nat.le_refl _) _), hR.n.below ((Below.refl _ _).alloc (Nat.le_refl _) _), hB5.alloc hB5.size _⟩)
     | (have hp4 := zai (zaa HR4) ((((Below.refl _ w4).alloc (Nat.le_refl _) _)).trans (hb5.mono (by simp))) (fun g e => ((zaa HR4).lt g e).2)
        have hR := zqu (zaa HI) hB5 hp4 hp5 (Nat.le_refl _) (by simp; have := hB4.size; omega) w4.heap.size (fun g hg => by have := ((zaa HR4).lt g hg).2; omega) (fun g hg => by have := (hp5.lt g hg).1; simp at this; omega)
        obtain ⟨q1, q2, q3⟩ := hR.set hB4.size #[.slice a4 (ls.filter (zcb false)).length c4, .slice a5 (ls.filter (zcb true)).length c5, .map (some mb), .func (.yield l) #[] #[]]
        exact ⟨_, _, _, rfl, hB4.size, setRow_heap _ _ _ _ _ _ ((SV.new w4 _ _ _ _).below hb5), q1, q2, q3⟩)
     | (have hp4 := zai (zaa HR4) hb5 (fun g e => ((zaa HR4).lt g e).2)
        have hR := zqu (zaa HI) hB5 hp4 hp5 (by simp) hB4.size W.heap.size (fun g hg => by have := (hp4.lt g hg).1; simp at this; omega) (fun g hg => by have := (hp5.lt g hg).1; have := hB4.size; omega)
        obtain ⟨q1, q2, q3⟩ := hR.set (Nat.le_refl _) #[.slice a4 (ls.filter (zcb false)).length c4, .slice a5 (ls.filter (zcb true)).length c5, .map (some mb), .func (.yield l) #[] #[]]
        exact ⟨_, _, _, rfl, Nat.le_refl _, setRow_heap _ _ _ _ _ _ (((SV.new W _ _ _ _).below (zba hb4)).below hb5), q1, q2, q3⟩)
 case rest =>
  obtain ⟨sb, pv, nv, rfl, hsb, hsv, hap, han, hbw⟩ := hcut
  have hI2 := (zaa HI).below hbw
  have hno := (zaa HI).no
  have hC : FCtx No wc sb mb l (zc2 false ls) (zc2 true ls) pv nv K := ⟨hsv, fun hn => by have := hno _ hn; omega, hap, han, hI2.m, hI2.nm, by rw [zll]; exact Nat.le_trans (List.length_filter_le _ _) hI2.l3⟩
  have hpl : (zdy ls).length = (zc2 false ls).length := by unfold zdy; simp
  have HF := hide (from_any No sb mb l (zc2 false ls) (zc2 true ls) pv nv K (fun x => x ∈ zfj K (zg1 ls) (zdy ls) []) J Jx W.heap.size (K.length ^ (zdy ls).length) (zaa HJ) (zaa HR) hno (zc2 false ls).length 0 [] wc [] (Nat.zero_add _) hC (zdw (zaa HJ) (zaa HH0) hbw) hbw.size (Nat.zero_le _) (fun e' he' x hx => zaa HOK e' he' x.1 (List.mem_map_of_mem hx)) (by rw [hpl]; simp) (fun x hx => hx))
  have hld := hI2.b.load
  clear hI2 hC hsv hap han
  go_wp2_with (go_at_call 234; refine (zaa HF).mono ?_; rintro en w6 (⟨rfl, h6⟩ | ⟨rfl, h6⟩) <;> (have H6 := hide h6; clear h6))
  ·go_end0
   obtain ⟨ys, h1, _, h3, _⟩ := zaa H6
   rw [List.nil_append, zaa HJD] at h3
   obtain ⟨ys', hy, h3⟩ := h3
   refine ⟨⟨_, rfl⟩, .inl ⟨ys', fun x => ?_, h3⟩⟩
   have h4 : x.1 ∈ ys'.map (·.1) := by rw [hy]; exact (h1 x.1).2 x.2
   obtain ⟨y, hy1, hy2⟩ := List.mem_map.1 h4
   rw [← Subtype.ext hy2]
   exact hy1
  ·go_end0
   obtain ⟨ys, h1, h3⟩ := zaa H6
   rw [List.nil_append, zaa HJXD] at h3
   obtain ⟨ys', hy, h3⟩ := h3
   exact ⟨⟨_, rfl⟩, .inr ⟨ys', trivial, h3⟩⟩
end
section
open Go.RowKit Go.Maps
attribute [local go_sem ↓] zgb ze5 zgm zdt
attribute [local go_sem] zei zfs
def zo7 (No : Nat → Prop) (w : World) (mb : Nat) (pd : ByteArray) (hv bv : Value) (base : Nat) (ls : List (PLit × Value)) (K : List (Th × Nat)) (e : PEnv) (en : Ending) (w' : World) : Prop :=
 ∃ rb xb eb, en = .returned (.func (.func 233) #[] #[.pointer (some ⟨rb, 0, none⟩), .pointer (some ⟨xb, 0, none⟩), .pointer (some ⟨eb, 0, none⟩)]) ∧ Below w.heap.size w w' ∧ PWIn No w' rb xb eb mb pd hv bv base ls K e
structure WArg (No : Nat → Prop) (w : World) (mb : Nat) (hv bv : Value) (base : Nat) (ls : List (PLit × Value)) (K : List (Th × Nat)) : Prop where
 l : LRow w base bv ls
 m : HMap w mb K
 nm : ¬ No mb
 nt : ∀ x ∈ ls, ∀ g, x.2.ownBlock = some g → ¬ No g
 no : ∀ g, No g → g < w.heap.size
 l3 : ls.length ≤ 3
 t4 : ∀ x ∈ ls, x.1.ts.length ≤ 4
 h : ∃ a n c, hv = .slice a n c
theorem WArg.below {No : Nat → Prop} {w w' : World} {mb : Nat} {hv bv : Value} {base : Nat} {ls : List (PLit × Value)} {K : List (Th × Nat)} (h : WArg No w mb hv bv base ls K) (k : Below w.heap.size w w') : WArg No w' mb hv bv base ls K :=
 ⟨h.l.below k, h.m.block (k.block _ h.m.lt), h.nm, h.nt, fun g hg => by have := h.no g hg; have := k.size; omega, h.l3, h.t4, h.h⟩
set_option maxRecDepth 100000 in
theorem zor (No : Nat → Prop) (w : World) (mb : Nat) (pd : ByteArray) (hv bv : Value) (base : Nat) (ls : List (PLit × Value)) (K : List (Th × Nat)) (e : PEnv) (h : WArg No w mb hv bv base ls K) :
  Calls Tryz.prog 200 #[zec e, .agg #[.string pd, hv, bv], .map (some mb)] w (zo7 No w mb pd hv bv base ls K e) := by
 obtain ⟨ah, nh, ch, rfl⟩ := h.h
 obtain ⟨ab, cb, rfl⟩ := zac h.l.row
 have H := hide h
 clear h
 have HBV := hide (BV.new w e)
 obtain ⟨cs, hcs⟩ : ∃ cs, cs = (za5 e).toArray := ⟨_, rfl⟩
 unfold zec
 rw [← hcs] at HBV ⊢
 clear hcs
 go_enter Tryz.func200, Tryz.ntmps200
 go_wp2_with fail
 go_ret
 have k0 : Below w.heap.size w (((w.alloc (.cells cs 135)).alloc (.cells #[.string pd, .slice ah nh ch, .slice ab ls.length cb] 123)).alloc (.cells #[.map (some mb)] 82)) :=
  (((Below.refl w.heap.size w).alloc (Nat.le_refl _) _).alloc (by simp) _).alloc (by simp only [World.size_alloc]; omega) _
 have hA := (zaa H).below k0
 refine ⟨_, _, _, rfl, k0, ⟨?_, ?_, ?_, hA.l, hA.m, hA.nm, hA.nt, hA.no, hA.l3, hA.t4, hA.h⟩⟩
 ·rw [Below.heap_alloc _ _ _ (by simp)]
  have := heap_alloc_new (w.alloc (.cells cs 135)) (.cells #[.string pd, .slice ah nh ch, .slice ab ls.length cb] 123)
  rw [World.size_alloc] at this
  exact this
 ·have := heap_alloc_new ((w.alloc (.cells cs 135)).alloc (.cells #[.string pd, .slice ah nh ch, .slice ab ls.length cb] 123)) (.cells #[.map (some mb)] 82)
  rw [World.size_alloc, World.size_alloc] at this
  exact this
 ·exact ((zaa HBV).alloc _).alloc _
set_option maxRecDepth 100000 in
theorem ways_prog (No : Nat → Prop) (w : World) (mb : Nat) (pd : ByteArray) (hv bv : Value) (base : Nat) (ls : List (PLit × Value)) (K : List (Th × Nat)) (h : WArg No w mb hv bv base ls K) :
  Calls Tryz.prog 145 #[.agg #[.string pd, hv, bv], .map (some mb)] w (zo7 No w mb pd hv bv base ls K []) := by
 obtain ⟨ah, nh, ch, rfl⟩ := h.h
 obtain ⟨ab, cb, rfl⟩ := zac h.l.row
 have b1 := (Below.refl w.heap.size w).alloc (Nat.le_refl _) (.cells #[.string pd, .slice ah nh ch, .slice ab ls.length cb] 123)
 have HC := hide (zor No _ mb pd _ _ base ls K [] (h.below b1))
 have HB1 := hide b1
 clear h b1
 go_enter Tryz.func145, Tryz.ntmps145
 go_wp2_with (go_at_call 200; refine (zaa HC).mono ?_; rintro en w1 ⟨rb, xb, eb, rfl, hb, hw⟩; have HB := hide hb; have HW := hide hw; clear hb hw)
 go_ret
 exact ⟨_, _, _, rfl, (zaa HB1).trans ((zaa HB).mono (by simp)), zaa HW⟩
end
section
open Go.RowKit Go.Maps
theorem pr_len3 (r : PR) : r.cells.length = 3 := rfl
def hdOf (r : PR) : PAtm := ⟨r.R.pd, r.R.ts⟩
def NewB (rs : List PR) (K : List (Th × Nat)) (t : Th) : Prop := zco K t = none ∧ ∃ r ∈ rs, ∃ e ∈ zfj K (zg1 r.bs) (zdy r.bs) [], zc9 e (hdOf r) = t
structure RuleOk (K : List (Th × Nat)) (r : PR) : Prop where
 l3 : r.bs.length ≤ 3
 t4 : ∀ x ∈ r.bs, x.1.ts.length ≤ 4
 h4 : r.R.ts.length ≤ 4
 neg : ∀ e ∈ zbo K (zdy r.bs) [], ∀ x ∈ zg1 r.bs, ThOk (zc9 e x)
 hd : ∀ e ∈ zbo K (zdy r.bs) [], ThOk (zc9 e (hdOf r))
 len : ∀ e ∈ zbo K (zdy r.bs) [], e.length ≤ 12
structure NewIn (rs : List PR) (K : List (Th × Nat)) (done : List PR) (r : PR) (pre : List PEnv) (h : Nat) (L : List (Th × Nat)) : Prop where
 hs : ∀ p ∈ L, p.2 = h
 nd : (L.map (·.1)).Nodup
 new : ∀ p ∈ L, NewB rs K p.1
 all : ∀ q ∈ done, ∀ e ∈ zfj K (zg1 q.bs) (zdy q.bs) [], zco K (zc9 e (hdOf q)) = none → (zco L (zc9 e (hdOf q))).isSome = true
 now : ∀ e ∈ pre, zco K (zc9 e (hdOf r)) = none → (zco L (zc9 e (hdOf r))).isSome = true
def NextPost (w : World) (rs : List PR) (K : List (Th × Nat)) (h limit : Nat) (en : Ending) (w' : World) : Prop :=
 Below w.heap.size w w' ∧ ((∃ fb L, en = .returned (.tuple #[.map (some fb), .bool true]) ∧ w.heap.size ≤ fb ∧ HMap w' fb L ∧ (∀ p ∈ L, p.2 = h) ∧ (∀ t, (zco L t).isSome = true ↔ NewB rs K t) ∧ K.length + L.length ≤ limit) ∨
  (en = .returned (.tuple #[.map none, .bool false]) ∧ ∃ L : List Th, L.Nodup ∧ (∀ t ∈ L, NewB rs K t) ∧ limit < K.length + L.length))
structure NBox (w : World) (kb fb : Nat) (h limit : Nat) (K L : List (Th × Nat)) (wr : World) : Prop where
 k4 : wr.heap[w.heap.size]? = some (.cells #[.map (some kb)] 83 (0, 0))
 h6 : wr.heap[w.heap.size + 1]? = some (.cells #[.int .i64 (h : Nat)] 3 (0, 0))
 l7 : wr.heap[w.heap.size + 1 + 1]? = some (.cells #[.int .i64 (limit : Nat)] 3 (0, 0))
 r8 : wr.heap[w.heap.size + 1 + 1 + 1]? = some (.cells #[.map none] 83 (0, 0))
 o9 : wr.heap[w.heap.size + 1 + 1 + 1 + 1]? = some (.cells #[.bool false] 4 (0, 0))
 f10 : wr.heap[w.heap.size + 1 + 1 + 1 + 1 + 1 + 1]? = some (.cells #[.map (some fb)] 83 (0, 0))
 fe : fb = w.heap.size + 1 + 1 + 1 + 1 + 1
 mK : HMap wr kb K
 mF : HMap wr fb L
 kl : kb < w.heap.size
 bw : Below w.heap.size w wr
theorem NBox.grown {w : World} {kb fb h limit : Nat} {K L : List (Th × Nat)} {wr w' : World} (x : NBox w kb fb h limit K L wr) {row : Option Nat} (hg : wr.grownBy w' row) (hr : ∀ r, row = some r → w.heap.size + 1 + 1 + 1 + 1 + 1 + 1 < r) : NBox w kb fb h limit K L w' := by
 have blk : ∀ i, i ≤ w.heap.size + 1 + 1 + 1 + 1 + 1 + 1 → w'.heap[i]? = wr.heap[i]? := fun i hi => hg.block i (by have := (Array.getElem?_eq_some_iff.1 x.f10).1; omega) (fun e => by have := hr i e.symm; omega)
 have hk := x.kl
 have hf := x.fe
 exact ⟨(blk _ (by omega)).trans x.k4, (blk _ (by omega)).trans x.h6, (blk _ (by omega)).trans x.l7, (blk _ (by omega)).trans x.r8, (blk _ (by omega)).trans x.o9, (blk _ (by omega)).trans x.f10, x.fe, x.mK.block (blk _ (by omega)), x.mF.block (blk _ (by omega)), x.kl, ⟨hg.os.trans x.bw.os, hg.tape.trans x.bw.tape, hg.output.trans x.bw.output, Nat.le_trans x.bw.size hg.size, fun i hi => (blk i (by omega)).trans (x.bw.block i hi)⟩⟩
theorem NBox.below {w : World} {kb fb h limit : Nat} {K L : List (Th × Nat)} {wr w' : World} (x : NBox w kb fb h limit K L wr) (k : Below wr.heap.size wr w') : NBox w kb fb h limit K L w' := x.grown (row := none) ⟨k.os, k.tape, k.output, k.size, fun i hi _ => k.block i hi⟩ (fun _ e => by cases e)
theorem NBox.start (w : World) (kb h limit : Nat) (K : List (Th × Nat)) (hm : HMap w kb K) : NBox w kb (w.heap.size + 1 + 1 + 1 + 1 + 1) h limit K [] (((((((w.alloc (.cells #[.map (some kb)] 83)).alloc (.cells #[.int .i64 (h : Nat)] 3)).alloc (.cells #[.int .i64 (limit : Nat)] 3)).alloc (.cells #[.map none] 83)).alloc (.cells #[.bool false] 4)).alloc (.map #[] 0)).alloc (.cells #[.map (some (w.heap.size + 1 + 1 + 1 + 1 + 1))] 83)) := by
 have kk : Below w.heap.size w (((((((w.alloc (.cells #[.map (some kb)] 83)).alloc (.cells #[.int .i64 (h : Nat)] 3)).alloc (.cells #[.int .i64 (limit : Nat)] 3)).alloc (.cells #[.map none] 83)).alloc (.cells #[.bool false] 4)).alloc (.map #[] 0)).alloc (.cells #[.map (some (w.heap.size + 1 + 1 + 1 + 1 + 1))] 83)) :=
  (((((((Below.refl w.heap.size w).alloc (Nat.le_refl _) _).alloc (by simp) _).alloc (by simp only [World.size_alloc]; omega) _).alloc (by simp only [World.size_alloc]; omega) _).alloc (by simp only [World.size_alloc]; omega) _).alloc (by simp only [World.size_alloc]; omega) _).alloc (by simp only [World.size_alloc]; omega) _
 refine ⟨?_, ?_, ?_, ?_, ?_, ?_, rfl, hm.block (kk.block _ hm.lt), ?_, hm.lt, kk⟩
 ·rw [Below.heap_alloc _ _ _ (by simp only [World.size_alloc]; omega), Below.heap_alloc _ _ _ (by simp only [World.size_alloc]; omega), Below.heap_alloc _ _ _ (by simp only [World.size_alloc]; omega), Below.heap_alloc _ _ _ (by simp only [World.size_alloc]; omega), Below.heap_alloc _ _ _ (by simp only [World.size_alloc]; omega), Below.heap_alloc _ _ _ (by simp)]
  exact heap_alloc_new w _
 ·rw [Below.heap_alloc _ _ _ (by simp only [World.size_alloc]; omega), Below.heap_alloc _ _ _ (by simp only [World.size_alloc]; omega), Below.heap_alloc _ _ _ (by simp only [World.size_alloc]; omega), Below.heap_alloc _ _ _ (by simp only [World.size_alloc]; omega), Below.heap_alloc _ _ _ (by simp)]
  have := heap_alloc_new (w.alloc (.cells #[.map (some kb)] 83)) (.cells #[.int .i64 (h : Nat)] 3)
  simpa only [World.size_alloc] using this
 ·rw [Below.heap_alloc _ _ _ (by simp only [World.size_alloc]; omega), Below.heap_alloc _ _ _ (by simp only [World.size_alloc]; omega), Below.heap_alloc _ _ _ (by simp only [World.size_alloc]; omega), Below.heap_alloc _ _ _ (by simp)]
  have := heap_alloc_new ((w.alloc (.cells #[.map (some kb)] 83)).alloc (.cells #[.int .i64 (h : Nat)] 3)) (.cells #[.int .i64 (limit : Nat)] 3)
  simpa only [World.size_alloc] using this
 ·rw [Below.heap_alloc _ _ _ (by simp only [World.size_alloc]; omega), Below.heap_alloc _ _ _ (by simp only [World.size_alloc]; omega), Below.heap_alloc _ _ _ (by simp)]
  have := heap_alloc_new (((w.alloc (.cells #[.map (some kb)] 83)).alloc (.cells #[.int .i64 (h : Nat)] 3)).alloc (.cells #[.int .i64 (limit : Nat)] 3)) (.cells #[.map none] 83)
  simpa only [World.size_alloc] using this
 ·rw [Below.heap_alloc _ _ _ (by simp only [World.size_alloc]; omega), Below.heap_alloc _ _ _ (by simp)]
  have := heap_alloc_new ((((w.alloc (.cells #[.map (some kb)] 83)).alloc (.cells #[.int .i64 (h : Nat)] 3)).alloc (.cells #[.int .i64 (limit : Nat)] 3)).alloc (.cells #[.map none] 83)) (.cells #[.bool false] 4)
  simpa only [World.size_alloc] using this
 ·have := heap_alloc_new ((((((w.alloc (.cells #[.map (some kb)] 83)).alloc (.cells #[.int .i64 (h : Nat)] 3)).alloc (.cells #[.int .i64 (limit : Nat)] 3)).alloc (.cells #[.map none] 83)).alloc (.cells #[.bool false] 4)).alloc (.map #[] 0)) (.cells #[.map (some (w.heap.size + 1 + 1 + 1 + 1 + 1))] 83)
  simpa only [World.size_alloc] using this
 ·have := (HMap.made (((((w.alloc (.cells #[.map (some kb)] 83)).alloc (.cells #[.int .i64 (h : Nat)] 3)).alloc (.cells #[.int .i64 (limit : Nat)] 3)).alloc (.cells #[.map none] 83)).alloc (.cells #[.bool false] 4))).alloc (.cells #[.map (some (w.heap.size + 1 + 1 + 1 + 1 + 1))] 83)
  simpa only [World.size_alloc] using this
def dmarks (ds : List Nat) : List Deferred := ds.map fun D => { target := .collected D, args := #[] }
structure MarksIn (w : World) (ds : List Nat) (wr : World) : Prop where
 nd : ds.Nodup
 at_ : ∀ D ∈ ds, w.heap.size + 1 + 1 + 1 + 1 + 1 + 1 < D ∧ wr.heap[D]? = some (.deferred (some []))
theorem zp6 {No : Nat → Prop} (W : World) (l : Nat) (o o' : Obj) (h : W.heap[l]? = some o) (h1 : o.isCells = false) (h2 : o.isWalk = false) : Keep No W (W.putObj l o') := by
 have hg := grownBy_putObj' W l o'
 refine ⟨hg.os, hg.tape, hg.output, hg.size, fun k ob hk _ hc => ?_⟩
 rw [World.putObj_heap_other (fun e => ?_)]
 ·exact hk
 ·subst e
  rw [h] at hk
  cases hk
  rcases hc with hc | hc
  ·rw [h1] at hc; cases hc
  ·rw [h2] at hc; cases hc
structure Shut (ds : List Nat) (w w' : World) : Prop where
 os : w'.os = w.os
 tape : w'.tape = w.tape
 output : w'.output = w.output
 size : w'.heap.size = w.heap.size
 block : ∀ i, i ∉ ds → w'.heap[i]? = w.heap[i]?
theorem zhs {n : Nat} {P : Program} {fn : Func} {tmps : Array Value} {R : Ending → World → Prop} : ∀ (ds : List Nat) (w : World), ds.Nodup → (∀ D ∈ ds, w.heap[D]? = some (.deferred (some []))) → (∀ w', Shut ds w w' → LeavesIn Fence.wide n P fn tmps R [] .returning w') → LeavesInM Fence.wide n P fn tmps R (dmarks ds) .returning w
 | [], w, _, _, h => h w ⟨rfl, rfl, rfl, rfl, fun _ _ => rfl⟩
 | D :: ds, w, hn, hD, h => by
  obtain ⟨h1, h2⟩ := List.nodup_cons.1 hn
  refine ⟨by simp, .inl ⟨D, _, rfl, run_takeDeferred (hD D List.mem_cons_self), ?_⟩⟩
  refine zhs ds _ h2 (fun E hE => ?_) (fun w' hs => h w' ?_)
  ·rw [World.putObj_heap_other (fun e => h1 (by rw [← e]; exact hE))]
   exact hD E (List.mem_cons_of_mem _ hE)
  ·have hg := grownBy_putObj' w D (.deferred none)
   exact ⟨hs.os.trans hg.os, hs.tape.trans hg.tape, hs.output.trans hg.output, hs.size.trans (by simp), fun i hi => (hs.block i (fun hm => hi (List.mem_cons_of_mem _ hm))).trans (World.putObj_heap_other (fun e => hi (by rw [e]; exact List.mem_cons_self)))⟩
theorem NBox.turn {w : World} {kb fb h limit : Nat} {K L L2 : List (Th × Nat)} {wr w' : World} (x : NBox w kb fb h limit K L wr) (hg : wr.grownBy w' (some fb)) (hm : HMap w' fb L2) : NBox w kb fb h limit K L2 w' := by
 have hk := x.kl
 have hf := x.fe
 have blk : ∀ i, i ≤ w.heap.size + 1 + 1 + 1 + 1 + 1 + 1 → i ≠ fb → w'.heap[i]? = wr.heap[i]? := fun i hi hne => hg.block i (by have := (Array.getElem?_eq_some_iff.1 x.f10).1; omega) (fun e => hne (by cases e; rfl))
 exact ⟨(blk _ (by omega) (by omega)).trans x.k4, (blk _ (by omega) (by omega)).trans x.h6, (blk _ (by omega) (by omega)).trans x.l7, (blk _ (by omega) (by omega)).trans x.r8, (blk _ (by omega) (by omega)).trans x.o9, (blk _ (by omega) (by omega)).trans x.f10, x.fe, x.mK.block (blk _ (by omega) (by omega)), hm, x.kl, ⟨hg.os.trans x.bw.os, hg.tape.trans x.bw.tape, hg.output.trans x.bw.output, Nat.le_trans x.bw.size hg.size, fun i hi => (blk i (by omega) (by omega)).trans (x.bw.block i hi)⟩⟩
theorem zlv {W : World} {b j : Nat} {cs : Array Value} {t : TypeId} {fr : Nat × Nat} {v : Value} (h : W.heap[b]? = some (.cells cs t fr)) (hv : cs[j]? = some v) : (W.setCell ⟨b, j, none⟩ v) = W := by
 rw [setCell_eq_setRow W b j cs t fr v h]
 have e : cs.setIfInBounds j v = cs := by
  apply Array.ext_getElem?
  intro i
  rw [Array.getElem?_setIfInBounds]
  split
  ·rename_i e
   subst e
   have := (Array.getElem?_eq_some_iff.1 hv).1
   rw [if_pos this, hv]
  ·rfl
 rw [e]
 have hlt : b < W.heap.size := (Array.getElem?_eq_some_iff.1 h).1
 have hb : W.heap[b] = .cells cs t fr := (Array.getElem?_eq_some_iff.1 h).2
 unfold World.setRow
 cases W with
 | mk heap tape drawn os output =>
  congr 1
  apply Array.ext
  ·simp
  ·intro k h1 h2
   simp only [Array.getElem_modify]
   split
   ·rename_i hk; subst hk; simp at hb; simp [hb]
   ·rfl
theorem NewIn.old {rs done : List PR} {K : List (Th × Nat)} {r : PR} {pre : List PEnv} {h : Nat} {L : List (Th × Nat)} (x : NewIn rs K done r pre h L) {e : PEnv} (ho : (zco K (zc9 e (hdOf r))).isSome = true) : NewIn rs K done r (pre ++ [e]) h L :=
 ⟨x.hs, x.nd, x.new, x.all, fun y hy hn => by
  rcases List.mem_append.1 hy with hy | hy
  ·exact x.now y hy hn
  ·rw [List.mem_singleton.1 hy] at hn; rw [hn] at ho; cases ho⟩
theorem zpx {L : List (Th × Nat)} (hd : (L.map (·.1)).Nodup) {t s : Th} {n : Nat} (h : (zco L s).isSome = true) : (zco (putN L t n) s).isSome = true := by
 obtain ⟨m, hm⟩ := Option.isSome_iff_exists.1 h
 by_cases e : s = t
 ·subst e; rw [zem (zfw hd) (zf6 L s n)]; rfl
 ·rw [zem (zfw hd) (zhl (zeb hm) e)]; rfl
theorem NewIn.put {rs done : List PR} {K : List (Th × Nat)} {r : PR} {pre : List PEnv} {h : Nat} {L : List (Th × Nat)} (x : NewIn rs K done r pre h L) {e : PEnv} (hr : r ∈ rs) (he : e ∈ zfj K (zg1 r.bs) (zdy r.bs) []) (hn : zco K (zc9 e (hdOf r)) = none) : NewIn rs K done r (pre ++ [e]) h (putN L (zc9 e (hdOf r)) h) := by
 refine ⟨fun p hp => ?_, zfw x.nd, fun p hp => ?_, fun q hq y hy hn' => zpx x.nd (x.all q hq y hy hn'), fun y hy hn' => ?_⟩
 ·rcases zjo hp with rfl | ⟨hp, _⟩
  ·rfl
  ·exact x.hs p hp
 ·rcases zjo hp with rfl | ⟨hp, _⟩
  ·exact ⟨hn, r, hr, e, he, rfl⟩
  ·exact x.new p hp
 ·rcases List.mem_append.1 hy with hy | hy
  ·exact zpx x.nd (x.now y hy hn')
  ·rw [List.mem_singleton.1 hy, zem (zfw x.nd) (zf6 L _ h)]; rfl
structure NRound (w : World) (kb h limit : Nat) (K : List (Th × Nat)) (rs done : List PR) (r : PR) (b12 : Nat) (ah ab : Option Addr) (ch cb : Nat) (ds : List Nat) (pre : List PEnv) (L : List (Th × Nat)) (W : World) : Prop where
 box : NBox w kb (w.heap.size + 1 + 1 + 1 + 1 + 1) h limit K L W
 new : NewIn rs K done r pre h L
 len : K.length + L.length ≤ limit
 mk_ : MarksIn w ds W
 rl : W.heap[b12]? = some (.cells #[.string r.R.pd, .slice ah r.R.ts.length ch, .slice ab r.bs.length cb] 123 (0, 0))
structure NOver (w : World) (kb h limit : Nat) (K : List (Th × Nat)) (rs : List PR) (ds : List Nat) (L : List (Th × Nat)) (W : World) : Prop where
 box : NBox w kb (w.heap.size + 1 + 1 + 1 + 1 + 1) h limit K L W
 nd : (L.map (·.1)).Nodup
 new : ∀ p ∈ L, NewB rs K p.1
 len : limit < K.length + L.length
 mk_ : MarksIn w ds W
theorem MarksIn.grown {w : World} {ds : List Nat} {W W' : World} (h : MarksIn w ds W) {row : Option Nat} (hg : W.grownBy W' row) (hr : ∀ r, row = some r → ∀ D ∈ ds, D < r) : MarksIn w ds W' :=
 ⟨h.nd, fun D hD => ⟨(h.at_ D hD).1, (hg.block D (Array.getElem?_eq_some_iff.1 (h.at_ D hD).2).1 (fun e => by have := hr D e.symm D hD; omega)).trans (h.at_ D hD).2⟩⟩
theorem NRound.grown {w : World} {kb h limit : Nat} {K : List (Th × Nat)} {rs done : List PR} {r : PR} {b12 : Nat} {ah ab : Option Addr} {ch cb : Nat} {ds : List Nat} {pre : List PEnv} {L : List (Th × Nat)} {W W' : World} (x : NRound w kb h limit K rs done r b12 ah ab ch cb ds pre L W) {row : Option Nat} (hg : W.grownBy W' row) {B : Nat} (hr : ∀ i, row = some i → B ≤ i) (h1 : w.heap.size + 1 + 1 + 1 + 1 + 1 + 1 < B) (h2 : b12 < B) (h3 : ∀ D ∈ ds, D < B) : NRound w kb h limit K rs done r b12 ah ab ch cb ds pre L W' :=
 ⟨x.box.grown hg (fun i e => by have := hr i e; omega), x.new, x.len, x.mk_.grown hg (fun i e D hD => by have := hr i e; have := h3 D hD; omega), (hg.block _ (Array.getElem?_eq_some_iff.1 x.rl).1 (fun e => by have := hr _ e.symm; omega)).trans x.rl⟩
theorem NOver.grown {w : World} {kb h limit : Nat} {K : List (Th × Nat)} {rs : List PR} {ds : List Nat} {L : List (Th × Nat)} {W W' : World} (x : NOver w kb h limit K rs ds L W) {row : Option Nat} (hg : W.grownBy W' row) {B : Nat} (hr : ∀ i, row = some i → B ≤ i) (h1 : w.heap.size + 1 + 1 + 1 + 1 + 1 + 1 < B) (h3 : ∀ D ∈ ds, D < B) : NOver w kb h limit K rs ds L W' :=
 ⟨x.box.grown hg (fun i e => by have := hr i e; omega), x.nd, x.new, x.len, x.mk_.grown hg (fun i e D hD => by have := hr i e; have := h3 D hD; omega)⟩
theorem BV.grown {W W' : World} {b : Nat} {e : PEnv} (h : BV W b e) {row : Option Nat} (hg : W.grownBy W' row) (hr : ∀ i, row = some i → ∃ o : Obj, W.heap[i]? = some o ∧ o.isCells = false) : BV W' b e :=
 (hg.block b h.lt (fun e1 => by obtain ⟨o, ho, hc⟩ := hr b e1.symm; rw [show W.heap[b]? = _ from h] at ho; cases ho; cases hc)).trans h
end
end Go.Proofs.YtldkpahaocjdpaaGreat
