/-
  The reference's round: the loop over the rules.
  The order of facts, and an insertion by it; how a row of facts is turned.
  The reference's round: a fact is moved down to its place.
-/
import Derived.Test.YtldkpahaocjdpaaGreatQueriesT34
import Derived.Test.YtldkpahaocjdpaaGreatQueriesT18
import Derived.Test.YtldkpahaocjdpaaGreatQueriesT25
set_option maxHeartbeats 16000000
namespace Go.Proofs.YtldkpahaocjdpaaGreat
section
open Go.RowKit
structure RCtx (w : World) (o : Nat) (rs : List RR) (ps : List (ByteArray × Nat)) (rv pv tv : Value) (gs : Nat) (S : Nat → Nat) (base : Nat) (fs : List FG) (lv : Value) : Prop where
 prog : PMem w o rs ps rv pv tv (.slice (some ⟨gs, 0, none⟩) ps.length ps.length)
 strat : SRow w gs ps.length S
 facts : FactsIn w base lv fs
 few : fs.length ≤ 50
 body : ∀ r ∈ rs, r.bs.length ≤ 3
 terms : ∀ r ∈ rs, ∀ a ∈ r.R.head :: r.R.body, a.terms.length ≤ 4
 ixs : ∀ r ∈ rs, 0 ≤ zak ps r.R.head.pred
 size : ∀ r ∈ rs, ∀ x ∈ wayP (fs.map (·.F)) r.R.body [([], [])], ∀ a ∈ r.R.head :: r.R.body, (zdb (ofA x.1 a)).length ≤ 1000000000
theorem candR_step {ps : List (ByteArray × Nat)} {S : Nat → Nat} {l : List RFact} {s n : Nat} {rs : List RRule} {i : Nat} (h : i < rs.length) : zdc ps S l s n (rs.drop i) i = (if S (zak ps rs[i].head.pred).toNat = s then (zk4 rs[i] l).map (zgi rs[i] s n i) else []) ++ zdc ps S l s n (rs.drop (i + 1)) (i + 1) := by
 rw [List.drop_eq_getElem_cons h]; rfl
structure R1In (w : World) (v : Value) (out : List FG) (wr : World) : Prop where
 below : Below w.heap.size w wr
 out : FactsIn wr w.heap.size v out
theorem R1In.past {w : World} {v : Value} {out : List FG} {wr w' : World} (h : R1In w v out wr) (k : Below wr.heap.size wr w') : R1In w v out w' := ⟨h.below.trans (k.mono h.below.size), h.out.below k⟩
theorem WaysIn.low {w : World} {base base' : Nat} {v : Value} {ws : List WG} (h : WaysIn w base v ws) (hb : base' ≤ base) : WaysIn w base' v ws := ⟨zaf h.row hb, fun x hx => (h.each x hx).low hb⟩
theorem FactsIn.low {w : World} {base base' : Nat} {v : Value} {fs : List FG} (h : FactsIn w base v fs) (hb : base' ≤ base) : FactsIn w base' v fs := ⟨zaf h.row hb, fun x hx => (h.each x hx).low hb⟩
theorem RuleIn.low {w : World} {base base' : Nat} {R : RRule} {hv : Value} {bs : List (RAtom × Value)} {bv : Value} (h : RuleIn w base R hv bs bv) (hb : base' ≤ base) : RuleIn w base' R hv bs bv := ⟨zaf h.hd hb, zaf h.bo hb, fun x hx => zaf (h.bl x hx) hb, h.eq⟩
set_option maxRecDepth 1000000 in
theorem round1 (w : World) (o : Nat) (rs : List RR) (ps : List (ByteArray × Nat)) (rv pv tv : Value) (gs : Nat) (S : Nat → Nat) (base : Nat) (fs : List FG) (al : Option Addr) (cl : Nat) (hC : RCtx w o rs ps rv pv tv gs S base fs (.slice al fs.length cl)) (s n : Nat) (w1 : World) (hI : R1In w (.slice none 0 0) [] w1)
  {Q : Exit → Act → World → Prop} {c4 c5 c6 c7 c11 c12 c13 c14 c15 c16 c17 c18 c19 c20 c21 c22 c23 c24 c25 c26 c27 c28 c29 c30 c31 c32 c33 c34 c35 c36 c37 c38 c39 c40 c41 c42 c43 c44 c45 c46 c47 c48 c49 c50 c51 c52 c53 c54 c55 c56 c57 c58 c59 c60 c61 c62 c63 c64 c65 c66 c67 c68 c69 c70 c71 c72 c73 c74 c75 c76 c77 c78 c79 c80 c81 c82 c83 c84 c85 c86 c87 c88 c89 c90 c91 c92 c93 c94 c95 c96 c97 c98 c99 c100 c101 c102 c103 c104 c105 c106 c107 c108 c109 c110 c111 c112 c113 c114 c115 c116 c117 c118 c119 c120 c121 c122 c123 c124 c125 c126 c127 c128 c129 c130 c131 c132 c133 c134 c135 c136 c137 c138 c139 c140 c141 : Value}
  (hexit : ∀ (v9' : Value) (out' : List FG) (w2 : World) (u10 u11 u12 u13 u14 u15 u20 u21 u22 u23 u24 u25 u26 u27 u28 u29 u30 u31 u32 u33 u34 u35 u36 u37 u38 u39 u40 u41 u42 u43 u44 u45 u46 u47 u48 u49 u50 u51 u52 u53 u54 u55 u56 u57 u58 u59 u60 u61 u62 u63 u64 u65 u66 u67 u68 u69 u70 u71 u72 u73 u74 u75 u76 u77 u78 u79 u80 u81 u82 u83 u84 u85 u86 u87 u88 u89 u90 u91 u92 u93 u94 u95 u96 u97 u98 u99 u100 : Value), R1In w v9' out' w2 → out'.length ≤ 51 → zb3 (fs.map (·.F)) (zdc ps S (fs.map (·.F)) s n (rs.map (·.R)) 0) [] = (out'.map (·.F), false) → Q (.exit 0) ⟨List.toArray (.pointer (some ⟨o, 0, none⟩) :: .slice al fs.length cl :: .int .i64 s :: .int .i64 n :: c4 :: c5 :: c6 :: c7 :: .slice none 0 0 :: v9' :: u10 :: u11 :: u12 :: u13 :: u14 :: u15 :: c16 :: c17 :: c18 :: c19 :: u20 :: u21 :: u22 :: u23 :: u24 :: u25 :: u26 :: u27 :: u28 :: u29 :: u30 :: u31 :: u32 :: u33 :: u34 :: u35 :: u36 :: u37 :: u38 :: u39 :: u40 :: u41 :: u42 :: u43 :: u44 :: u45 :: u46 :: u47 :: u48 :: u49 :: u50 :: u51 :: u52 :: u53 :: u54 :: u55 :: u56 :: u57 :: u58 :: u59 :: u60 :: u61 :: u62 :: u63 :: u64 :: u65 :: u66 :: u67 :: u68 :: u69 :: u70 :: u71 :: u72 :: u73 :: u74 :: u75 :: u76 :: u77 :: u78 :: u79 :: u80 :: u81 :: u82 :: u83 :: u84 :: u85 :: u86 :: u87 :: u88 :: u89 :: u90 :: u91 :: u92 :: u93 :: u94 :: u95 :: u96 :: u97 :: u98 :: u99 :: u100 :: c101 :: c102 :: c103 :: c104 :: c105 :: c106 :: c107 :: c108 :: c109 :: c110 :: c111 :: c112 :: c113 :: c114 :: c115 :: c116 :: c117 :: c118 :: c119 :: c120 :: c121 :: c122 :: c123 :: c124 :: c125 :: c126 :: c127 :: c128 :: c129 :: c130 :: c131 :: c132 :: c133 :: c134 :: c135 :: c136 :: c137 :: c138 :: c139 :: c140 :: c141 :: []), []⟩ w2)
  (hret : ∀ (v9' : Value) (out' : List FG) (w2 : World) (u10 u11 u12 u13 u14 u15 u20 u21 u22 u23 u24 u25 u26 u27 u28 u29 u30 u31 u32 u33 u34 u35 u36 u37 u38 u39 u40 u41 u42 u43 u44 u45 u46 u47 u48 u49 u50 u51 u52 u53 u54 u55 u56 u57 u58 u59 u60 u61 u62 u63 u64 u65 u66 u67 u68 u69 u70 u71 u72 u73 u74 u75 u76 u77 u78 u79 u80 u81 u82 u83 u84 u85 u86 u87 u88 u89 u90 u91 u92 u93 u94 u95 u96 u97 u98 u99 u100 : Value), R1In w v9' out' w2 → out'.length ≤ 51 → zb3 (fs.map (·.F)) (zdc ps S (fs.map (·.F)) s n (rs.map (·.R)) 0) [] = (out'.map (·.F), true) → Q .ret ⟨List.toArray (.pointer (some ⟨o, 0, none⟩) :: .slice al fs.length cl :: .int .i64 s :: .int .i64 n :: c4 :: c5 :: c6 :: c7 :: v9' :: v9' :: u10 :: u11 :: u12 :: u13 :: u14 :: u15 :: c16 :: c17 :: c18 :: c19 :: u20 :: u21 :: u22 :: u23 :: u24 :: u25 :: u26 :: u27 :: u28 :: u29 :: u30 :: u31 :: u32 :: u33 :: u34 :: u35 :: u36 :: u37 :: u38 :: u39 :: u40 :: u41 :: u42 :: u43 :: u44 :: u45 :: u46 :: u47 :: u48 :: u49 :: u50 :: u51 :: u52 :: u53 :: u54 :: u55 :: u56 :: u57 :: u58 :: u59 :: u60 :: u61 :: u62 :: u63 :: u64 :: u65 :: u66 :: u67 :: u68 :: u69 :: u70 :: u71 :: u72 :: u73 :: u74 :: u75 :: u76 :: u77 :: u78 :: u79 :: u80 :: u81 :: u82 :: u83 :: u84 :: u85 :: u86 :: u87 :: u88 :: u89 :: u90 :: u91 :: u92 :: u93 :: u94 :: u95 :: u96 :: u97 :: u98 :: u99 :: u100 :: c101 :: c102 :: c103 :: c104 :: c105 :: c106 :: c107 :: c108 :: c109 :: c110 :: c111 :: c112 :: c113 :: c114 :: c115 :: c116 :: c117 :: c118 :: c119 :: c120 :: c121 :: c122 :: c123 :: c124 :: c125 :: c126 :: c127 :: c128 :: c129 :: c130 :: c131 :: c132 :: c133 :: c134 :: c135 :: c136 :: c137 :: c138 :: c139 :: c140 :: c141 :: []), []⟩ w2) :
  Code.wp Tryz.prog (Code.loop (roundL 0)) Q ⟨List.toArray (.pointer (some ⟨o, 0, none⟩) :: .slice al fs.length cl :: .int .i64 s :: .int .i64 n :: c4 :: c5 :: c6 :: c7 :: .slice none 0 0 :: .slice none 0 0 :: .int .i64 (0 : Nat) :: c11 :: c12 :: c13 :: c14 :: c15 :: c16 :: c17 :: c18 :: c19 :: c20 :: c21 :: c22 :: c23 :: c24 :: c25 :: c26 :: c27 :: c28 :: c29 :: c30 :: c31 :: c32 :: c33 :: c34 :: c35 :: c36 :: c37 :: c38 :: c39 :: c40 :: c41 :: c42 :: c43 :: c44 :: c45 :: c46 :: c47 :: c48 :: c49 :: c50 :: c51 :: c52 :: c53 :: c54 :: c55 :: c56 :: c57 :: c58 :: c59 :: c60 :: c61 :: c62 :: c63 :: c64 :: c65 :: c66 :: c67 :: c68 :: c69 :: c70 :: c71 :: c72 :: c73 :: c74 :: c75 :: c76 :: c77 :: c78 :: c79 :: c80 :: c81 :: c82 :: c83 :: c84 :: c85 :: c86 :: c87 :: c88 :: c89 :: c90 :: c91 :: c92 :: c93 :: c94 :: c95 :: c96 :: c97 :: c98 :: c99 :: c100 :: c101 :: c102 :: c103 :: c104 :: c105 :: c106 :: c107 :: c108 :: c109 :: c110 :: c111 :: c112 :: c113 :: c114 :: c115 :: c116 :: c117 :: c118 :: c119 :: c120 :: c121 :: c122 :: c123 :: c124 :: c125 :: c126 :: c127 :: c128 :: c129 :: c130 :: c131 :: c132 :: c133 :: c134 :: c135 :: c136 :: c137 :: c138 :: c139 :: c140 :: c141 :: []), []⟩ w1 := by
 conv => arg 2; arg 1; whnf
 obtain ⟨ar, cr, rfl⟩ := zac hC.prog.rules
 have hrl := zbt hC.prog.rules
 unfold maxLen at hrl
 have HC := hide hC
 have HI := hide hI
 have HX := hide hexit
 have HY := hide hret
 clear hC hI hexit hret
 generalize hTT : zb3 (fs.map (·.F)) (zdc ps S (fs.map (·.F)) s n (rs.map (·.R)) 0) [] = T at HX HY
 have HTT := hide hTT
 clear hTT
 go_loopg [8, 9, 10] rs.length (fun gg v8 v ii wr => v8 = .slice none 0 0 ∧ ∃ (i : Nat) (out' : List FG), i ≤ rs.length ∧ gg = rs.length - i ∧ ii = .int .i64 i ∧ R1In w v out' wr ∧ out'.length ≤ 51 ∧ zb3 (fs.map (·.F)) (zdc ps S (fs.map (·.F)) s n ((rs.map (·.R)).drop i) i) (out'.map (·.F)) = T)
 case atStart => exact ⟨rfl, 0, [], Nat.zero_le _, rfl, rfl, zaa HI, by simp, zaa HTT⟩
 case round =>
  clear HI HTT
  obtain ⟨rfl, i, out', hi, hgi, rfl, hI, hol, hfin⟩ := hrel
  obtain ⟨a9, c9, rfl⟩ := zac hI.out.row
  have hC := zaa HC
  have hprog := hC.prog.kept ((Kept.refl [] _).of_below hI.below) (by simp)
  have ho0 := hprog.c0
  have holt := hprog.lt
  have HI := hide hI
  by_cases hli : i < rs.length
  ·have hii : (i : Int) < rs.length := by omega
   have hst := candR_step (ps := ps) (S := S) (l := fs.map (·.F)) (s := s) (n := n) (rs := rs.map (·.R)) (i := i) (by simpa using hli)
   simp only [List.getElem_map] at hst
   rw [hst] at hfin
   have HF := hide hfin
   obtain ⟨gr, cr', hvr, hgeo, hgl, hnr, hmr, p0, p1, p2, p3, p4, p5⟩ := zcj hprog.rules i hli
   injection hvr with q1 q2 q3
   subst q1 q3
   have hmem := List.getElem_mem hli
   have hrule := hprog.each _ hmem
   obtain ⟨ah, ch, e1⟩ := zac hrule.hd
   obtain ⟨ab, cb, e2⟩ := zac hrule.bo
   have hwsz := hI.below.size
   rw [e1] at p1
   rw [e2] at p5
   have HMEM := hide hmem
   have HE := hide (And.intro e1 e2)
   clear hC hprog hI hst hfin hrule e1 e2 hmem
   go_upto_region 5 with fail
   go_cut [11] from 20 to 100 (fun p wc => p = .pointer (some ⟨wr.heap.size, 0, none⟩) ∧ wc.heap[wr.heap.size]? = some (.cells #[.string rs[i].R.head.pred, .slice ah rs[i].R.head.terms.length ch, .bool rs[i].R.head.no, .int .i64 rs[i].R.head.at_, .int .i64 rs[i].R.head.noAt, .slice ab rs[i].bs.length cb] 246 (0, 0)) ∧ Below wr.heap.size wr wc)
   case first =>
    go_wp2_with fail
    go_meet
    case rel => exact ⟨rfl, heap_alloc_new wr _, (Below.refl _ _).alloc (Nat.le_refl _) _⟩
   case rest =>
    generalize wc = wA at *
    obtain ⟨rfl, hbox, hBA⟩ := hcut
    have hI2 := (zaa HI).past hBA
    have hC := zaa HC
    have hprog := hC.prog.kept ((Kept.refl [] _).of_below hI2.below) (by simp)
    have hstr := hC.strat.kept ((Kept.refl [] _).of_below hI2.below)
    obtain ⟨r0, -⟩ := zab hbox 0
    simp only [List.getElem?_toArray, List.getElem?_cons_zero] at r0
    have hbl := (Array.getElem?_eq_some_iff.1 hbox).1
    have c3 := hprog.c3
    have hol2 := hprog.lt
    have hix0 := hC.ixs _ (zaa HMEM)
    have hixl := zcc hix0
    obtain ⟨ix, hix⟩ : ∃ ix : Nat, zak ps rs[i].R.head.pred = (ix : Int) := ⟨_, (Int.toNat_of_nonneg hix0).symm⟩
    have hixn : ix < ps.length := by omega
    have t1 := hstr.cell ix hixn
    have hgsl := hstr.sz
    have hpr : ∀ W, Below wA.heap.size wA W → Calls Tryz.prog 135 #[.pointer (some ⟨o, 0, none⟩), .string rs[i].R.head.pred] W fun e w' => e = .returned (.int .i64 (ix : Nat)) ∧ w' = W := fun W hW => by
     have := zfe W o rs ps _ _ _ _ rs[i].R.head.pred (hprog.kept ((Kept.refl [] _).of_below hW) (by simp))
     rw [hix] at this
     exact this
    have HPR := hide hpr
    have HIX := hide hix
    have HI2 := hide hI2
    have HBOX := hide hbox
    have HBA := hide hBA
    have hixi : (ix : Int) < ps.length := by omega
    have hix0i : (0 : Int) ≤ ix := by omega
    have hmx : ps.length ≤ maxLen := zbt hprog.preds
    clear hI2 hC hprog hstr hpr hix hbox hBA hix0 hixl HI p0 p1 p2 p3 p4 p5 ho0
    go_upto_region 6 with fail
    go_cut [48] from 20 to 100 (fun u wc => u = .bool ((S ix : Int) != (s : Int)) ∧ Below wA.heap.size wA wc)
    case first =>
     go_region_held3 (fun w' => w'.cell? ⟨o, 3, none⟩ = some (.slice (some ⟨gs, 0, none⟩) ps.length ps.length) ∧ w'.cell? ⟨wr.heap.size, 0, none⟩ = some (.string rs[i].R.head.pred) ∧ w'.cell? ⟨gs, ix, none⟩ = some (.int .i64 (S ix))) (go_keep) ((go_at_call 135; refine (zaa HPR _ (by exact (Below.refl _ _).drew)).mono ?_; rintro e w2 ⟨rfl, rfl⟩))
     all_goals
      go_wp2_with fail
      go_meet
      case rel => exact ⟨rfl, (Below.refl _ _).drew⟩
    case rest =>
     generalize wc = wB at *
     obtain ⟨rfl, hBB⟩ := hcut
     have hI3 := (zaa HI2).past hBB
     have hbox3 := (hBB.block _ hbl).trans (zaa HBOX)
     have hlt3 : wr.heap.size < wB.heap.size := by have := hBB.size; omega
     have HI3 := hide hI3
     cases hne : ((S ix : Int) != (s : Int)) with
     | true =>
      have hns : ¬ S ix = s := by simp at hne; omega
      have HF3 := hide (show zb3 (fs.map (·.F)) (zdc ps S (fs.map (·.F)) s n ((rs.map (·.R)).drop (i + 1)) (i + 1)) (out'.map (·.F)) = T by
       have := zaa HF
       rw [zaa HIX, Int.toNat_natCast, if_neg hns] at this
       simpa using this)
      clear hI3 hbox3 HF HPR HI2 HBOX HBA hBB hne hns r0 c3 t1
      go_wp2_with fail
      go_roundg (rs.length - (i + 1))
      case measure => omega
      case rel => exact ⟨rfl, i + 1, out', by omega, rfl, by go_num, zaa HI3, hol, zaa HF3⟩
     | false =>
      have hns : S ix = s := by simp at hne; omega
      have hF3 : zb3 (fs.map (·.F)) ((zk4 rs[i].R (fs.map (·.F))).map (zgi rs[i].R s n i) ++ zdc ps S (fs.map (·.F)) s n ((rs.map (·.R)).drop (i + 1)) (i + 1)) (out'.map (·.F)) = T := by
       have := zaa HF
       rw [zaa HIX, Int.toNat_natCast, if_pos hns] at this
       exact this
      have HF3 := hide hF3
      have hC := zaa HC
      obtain ⟨e1, e2⟩ := zaa HE
      have hrW := (hC.prog.each _ (zaa HMEM)).low (Nat.zero_le _)
      have hr3 := (hrW.kept ((Kept.refl [] _).of_below hI3.below) (by simp))
      rw [e1, e2] at hr3
      have hctx : WCtx wB 0 rs[i].R (.slice ah rs[i].R.head.terms.length ch) rs[i].bs (.slice ab rs[i].bs.length cb) fs (.slice al fs.length cl) := ⟨hr3, (hC.facts.below hI3.below).low (Nat.zero_le _), hC.few, hC.body _ (zaa HMEM), fun a ha => hC.terms _ (zaa HMEM) a (List.mem_cons_of_mem _ ha)⟩
      have hwy := ways_any wB 0 rs[i].R _ rs[i].bs _ fs al cl hctx (fun x hx a ha => hC.size _ (zaa HMEM) x hx a (List.mem_cons_of_mem _ ha))
      unfold zes at hwy
      have HWY := hide hwy
      obtain ⟨m0, -⟩ := zab hbox3 0
      obtain ⟨m1, -⟩ := zab hbox3 1
      obtain ⟨m2, -⟩ := zab hbox3 2
      obtain ⟨m3, -⟩ := zab hbox3 3
      obtain ⟨m4, -⟩ := zab hbox3 4
      obtain ⟨m5, -⟩ := zab hbox3 5
      have hhd := hrW.hd
      rw [e1] at hhd
      have HHD := hide hhd
      have HBX3 := hide hbox3
      clear hI3 hbox3 HF HPR HI2 HBOX HBA hBB hne hns r0 c3 t1 hF3 hC e1 e2 hrW hr3 hctx hwy hhd
      go_wp2_with fail
      refine (zaa HWY).mono ?_
      rintro e wC ⟨vw, ws, rfl, hws, hwf, hsm, hwl, hBC⟩
      obtain ⟨aw, cw, rfl⟩ := zac hws.row
      have hI4 := (zaa HI3).past hBC
      have hR2 : R2In w wr.heap.size rs[i].R (.slice ah rs[i].R.head.terms.length ch) (.slice ab rs[i].bs.length cb) (.slice aw ws.length cw) ws (.slice a9 out'.length c9) out' wC := ⟨hI4.below, hwsz, (hBC.block _ hlt3).trans (zaa HBX3), hws.low (by have := (zaa HI3).below.size; omega), hI4.out⟩
      have HR2 := hide hR2
      have HWF := hide hwf
      have HSM := hide hsm
      have hC := zaa HC
      have hsz : ∀ x ∈ ws, (zdb (ofA x.e rs[i].R.head)).length ≤ 1000000000 := fun x hx => by
       have h1 : x.W ∈ zk4 rs[i].R (fs.map (·.F)) := by rw [← hwf]; exact List.mem_map_of_mem hx
       exact hC.size _ (zaa HMEM) x.W (List.mem_filter.1 h1).1 _ List.mem_cons_self
      have HSZ := hide hsz
      have HFA := hide (hC.facts.low (Nat.zero_le base))
      have hfew := hC.few
      have h4 := hC.terms _ (zaa HMEM) _ List.mem_cons_self
      clear hC hsz hR2 hI4 hws hwf hsm hBC HWY m0 m1 m2 m3 m4 m5 HBX3 HI3
      go_wp2_with fail
      refine round2 w 0 wr.heap.size rs[i].R _ _ fs al cl (zaa HFA) hfew ws aw cw hwl (fun x hx => (zaa HSM x hx).2) (zaa HHD) h4 (zaa HSZ) s n i _ _ out' hol rfl wC (zaa HR2) ?_ ?_
      ·intro v9 out9 w9
       intros
       rename_i hI9 hl9 hT9
       obtain ⟨aa9, cc9, rfl⟩ := zac hI9.out.row
       have HI9 := hide (show R1In w (.slice aa9 out9.length cc9) out9 w9 from ⟨hI9.below, hI9.out⟩)
       have HT9 := hide (show zb3 (fs.map (·.F)) (zdc ps S (fs.map (·.F)) s n ((rs.map (·.R)).drop (i + 1)) (i + 1)) (out9.map (·.F)) = T by
        rw [zaa HWF] at hT9
        rw [← zaa HF3, takeF_go _ _ _ (by rw [hT9]), hT9])
       clear hI9 hT9 HF3 HWF HSM HSZ HFA HR2
       go_wp2_with fail
       go_roundg (rs.length - (i + 1))
       case measure => omega
       case rel => exact ⟨rfl, i + 1, out9, by omega, rfl, by go_num, zaa HI9, hl9, zaa HT9⟩
      ·intro v9 out9 w9
       intros
       rename_i hI9 hl9 hT9
       have HI9 := hide (show R1In w v9 out9 w9 from ⟨hI9.below, hI9.out⟩)
       have HT9 := hide (show T = (out9.map (·.F), true) by
        rw [zaa HWF] at hT9
        rw [← zaa HF3, zlw _ _ _ (by rw [hT9]), hT9])
       clear hI9 hT9 HF3 HWF HSM HSZ HFA HR2
       go_wp2_with fail
       apply zaa HY
       ·exact zaa HI9
       ·exact hl9
       ·exact zaa HT9
  ·have HE := hide (show T = (out'.map (·.F), false) by rw [← hfin, List.drop_of_length_le (by simp; omega)]; rfl)
   clear hI hfin hC hprog
   go_wp2_with fail
   apply zaa HX
   ·exact zaa HI
   ·exact hol
   ·exact zaa HE
end
section
open Go.RowKit
theorem zku {a b : RFact} : zdd a b = true ↔ a.s < b.s ∨ (a.s = b.s ∧ (a.h < b.h ∨ (a.h = b.h ∧ zd0 a.text b.text = true))) := by
 unfold zdd
 by_cases h1 : a.s = b.s
 ·by_cases h2 : a.h = b.h
  ·simp [h1, h2]
  ·simp [h1, h2]
 ·simp [h1]
theorem ahead_asymm {a b : RFact} (h : zdd a b = true) : zdd b a = false := by
 cases h2 : zdd b a with
 | false => rfl
 | true =>
  rw [zku] at h h2
  rcases h with h | ⟨h, h' | ⟨h', h3⟩⟩ <;> rcases h2 with g | ⟨g, g' | ⟨g', g3⟩⟩ <;> first | omega | (rw [zl3 h3] at g3; cases g3)
theorem zo6 {a b c : RFact} (h1 : zdd a b = false) (h2 : zdd b c = false) : zdd a c = false := by
 cases h3 : zdd a c with
 | false => rfl
 | true =>
  rw [← Bool.not_eq_true, zku] at h1 h2
  rw [zku] at h3
  cases l1 : zd0 a.text b.text with
  | true =>
   rw [l1] at h1
   cases l2 : zd0 b.text c.text with
   | true => rw [l2] at h2; simp only [and_true] at h1 h2; omega
   | false =>
    rw [l2] at h2
    simp only [and_true, Bool.false_eq_true, and_false, or_false] at h1 h2
    rcases h3 with g | ⟨g, g' | ⟨g', _⟩⟩ <;> omega
  | false =>
   rw [l1] at h1
   cases l2 : zd0 b.text c.text with
   | true =>
    rw [l2] at h2
    simp only [and_true, Bool.false_eq_true, and_false, or_false] at h1 h2
    rcases h3 with g | ⟨g, g' | ⟨g', _⟩⟩ <;> omega
   | false =>
    rw [l2] at h2
    have := zi0 l1 l2
    rw [this] at h3
    simp only [Bool.false_eq_true, and_false, or_false] at h1 h2 h3
    omega
def zfo (zs : List FG) : Prop := zs.Pairwise fun x y => zdd y.F x.F = false
structure InsF (A : List FG) (x : FG) (B : List FG) : Prop where
 ris : zfo (A ++ B)
 up : ∀ b ∈ B, zdd x.F b.F = true
theorem InsF.down {A B : List FG} {a x : FG} (h : InsF (A ++ [a]) x B) (hl : zdd x.F a.F = true) : InsF A x (a :: B) :=
 ⟨by have := h.ris; simpa using this, fun b hb => by rcases List.mem_cons.1 hb with rfl | hb; exact hl; exact h.up b hb⟩
theorem InsF.done {A B : List FG} {x : FG} (h : InsF A x B) (hl : ∀ A' a, A = A' ++ [a] → zdd x.F a.F = false) : zfo (A ++ x :: B) := by
 have hr := h.ris
 unfold zfo at hr ⊢
 rw [List.pairwise_append] at hr ⊢
 obtain ⟨hA, hB, hAB⟩ := hr
 refine ⟨hA, List.pairwise_cons.2 ⟨fun b hb => ahead_asymm (h.up b hb), hB⟩, fun a ha y hy => ?_⟩
 rcases List.mem_cons.1 hy with rfl | hy
 ·rcases List.eq_nil_or_concat A with e | ⟨A', a', e⟩
  ·subst e; cases ha
  ·rw [List.concat_eq_append] at e
   have h0 := hl A' a' e
   subst e
   rcases List.mem_append.1 ha with ha | ha
   ·have := (List.pairwise_append.1 hA).2.2 a ha a' (by simp)
    exact zo6 h0 this
   ·rw [List.mem_singleton.1 ha]; exact h0
 ·exact hAB a ha y hy
theorem flat10_set (zs : List FG) : ∀ (i : Nat) (x : FG), i < zs.length → ((((((((((zs.flatMap FG.cells).set (i * 10) (.string x.F.thing.pred)).set (i * 10 + 1) x.tv).set (i * 10 + 2) (.bool x.F.thing.no)).set (i * 10 + 3) (.int .i64 x.F.thing.at_)).set (i * 10 + 4) (.int .i64 x.F.thing.noAt)).set (i * 10 + 5) (.string x.F.text)).set (i * 10 + 6) (.int .i64 x.F.s)).set (i * 10 + 7) (.int .i64 x.F.h)).set (i * 10 + 8) (.int .i64 x.F.r)).set (i * 10 + 9) x.fv = (zs.set i x).flatMap FG.cells := by
 induction zs with
 | nil => intro i x h; simp at h
 | cons z r ih =>
  intro i x h
  cases i with
  | zero => simp [FG.cells]
  | succ i =>
   have := ih i x (by simpa using h)
   rw [List.set_cons_succ, List.flatMap_cons, List.flatMap_cons, ← this]
   have e : ∀ j, (i + 1) * 10 + j = i * 10 + j + 10 := fun j => by omega
   have e0 : (i + 1) * 10 = i * 10 + 10 := by omega
   rw [e 1, e 2, e 3, e 4, e 5, e 6, e 7, e 8, e 9, e0]
   simp [FG.cells]
def setF (w : World) (g k : Nat) (x : FG) : World := (((((((((w.setCell ⟨g, k * 10, none⟩ (.string x.F.thing.pred)).setCell ⟨g, k * 10 + 1, none⟩ x.tv).setCell ⟨g, k * 10 + 2, none⟩ (.bool x.F.thing.no)).setCell ⟨g, k * 10 + 3, none⟩ (.int .i64 x.F.thing.at_)).setCell ⟨g, k * 10 + 4, none⟩ (.int .i64 x.F.thing.noAt)).setCell ⟨g, k * 10 + 5, none⟩ (.string x.F.text)).setCell ⟨g, k * 10 + 6, none⟩ (.int .i64 x.F.s)).setCell ⟨g, k * 10 + 7, none⟩ (.int .i64 x.F.h)).setCell ⟨g, k * 10 + 8, none⟩ (.int .i64 x.F.r)).setCell ⟨g, k * 10 + 9, none⟩ x.fv
theorem zh7 (B : List Nat) {w : World} {g : Nat} (hb : g ∈ B) (k : Nat) (x : FG) : Kept B w (setF w g k x) := by
 have e : ∀ {w' : World} (i : Nat) (u : Value), Kept B w w' → Kept B w (w'.setCell ⟨g, i, none⟩ u) := fun i u k => k.setCell (p := ⟨g, i, none⟩) (.inl hb) _
 exact e _ _ (e _ _ (e _ _ (e _ _ (e _ _ (e _ _ (e _ _ (e _ _ (e _ _ (e _ _ (Kept.refl B w))))))))))
theorem FactsIn.setF {w : World} {base g cap k : Nat} {fs : List FG} {x : FG} (h : FactsIn w base (.slice (some ⟨g, 0, none⟩) fs.length cap) fs) (hk : k < fs.length) (hx : FactIn w base x) : FactsIn (setF w g k x) base (.slice (some ⟨g, 0, none⟩) fs.length cap) (fs.set k x) := by
 have h1 := zbw (zbw (zbw (zbw (zbw (zbw (zbw (zbw (zbw (zbw h.row (k * 10) (.string x.F.thing.pred)) (k * 10 + 1) x.tv) (k * 10 + 2) (.bool x.F.thing.no)) (k * 10 + 3) (.int .i64 x.F.thing.at_)) (k * 10 + 4) (.int .i64 x.F.thing.noAt)) (k * 10 + 5) (.string x.F.text)) (k * 10 + 6) (.int .i64 x.F.s)) (k * 10 + 7) (.int .i64 x.F.h)) (k * 10 + 8) (.int .i64 x.F.r)) (k * 10 + 9) x.fv
 rw [flat10_set _ k x hk] at h1
 have kk : Kept [g] w (Go.Proofs.YtldkpahaocjdpaaGreat.setF w g k x) := zh7 [g] (by simp) k x
 have n1 : ∀ b ∈ [g], NotT w 317 b := fun b hb => zaz h.row (by decide) b (by simpa [Value.ownBlock] using hb)
 have n2 : ∀ b ∈ [g], NotT w 3 b := fun b hb => zaz h.row (by decide) b (by simpa [Value.ownBlock] using hb)
 refine ⟨by rw [List.length_set]; exact h1, fun y hy => ?_⟩
 rcases List.mem_or_eq_of_mem_set hy with hy | rfl
 ·exact (h.each y hy).keptT kk n1 n2
 ·exact hx.keptT kk n1 n2
end
section
open Go.RowKit
theorem zmc (m : Nat) (h : m ≤ 1000) : IntKind.i64.wrap (m : Int) = m := by
 simp [IntKind.wrap, IntKind.signed, IntKind.bits]
 omega
theorem FactsIn.split {w : World} {base : Nat} {v : Value} {fs : List FG} (h : FactsIn w base v fs) {k : Nat} (hk : k < fs.length) : ∃ g cap, v = .slice (some ⟨g, 0, none⟩) fs.length cap ∧ base ≤ g ∧ g < w.heap.size ∧ fs.length ≤ cap ∧ cap ≤ maxLen ∧ w.heap.size = w.heap.size := by
 obtain ⟨g, cap, hv, hb, hl, hn, hc, _⟩ := ziq h.row hk
 exact ⟨g, cap, hv, hb, hl, hn, hc, rfl⟩
theorem zez {w : World} {base g n cap k : Nat} {fs : List FG} (h : FactsIn w base (.slice (some ⟨g, 0, none⟩) n cap) fs) (hk : k < fs.length) {x : FG} (hx : fs[k] = x) : w.cell? ⟨g, k * 10, none⟩ = some (.string x.F.thing.pred) ∧ w.cell? ⟨g, k * 10 + 1, none⟩ = some x.tv ∧ w.cell? ⟨g, k * 10 + 2, none⟩ = some (.bool x.F.thing.no) ∧ w.cell? ⟨g, k * 10 + 3, none⟩ = some (.int .i64 x.F.thing.at_) ∧ w.cell? ⟨g, k * 10 + 4, none⟩ = some (.int .i64 x.F.thing.noAt) ∧ w.cell? ⟨g, k * 10 + 5, none⟩ = some (.string x.F.text) ∧ w.cell? ⟨g, k * 10 + 6, none⟩ = some (.int .i64 x.F.s) ∧ w.cell? ⟨g, k * 10 + 7, none⟩ = some (.int .i64 x.F.h) ∧ w.cell? ⟨g, k * 10 + 8, none⟩ = some (.int .i64 x.F.r) ∧ w.cell? ⟨g, k * 10 + 9, none⟩ = some x.fv := by
 obtain ⟨g', cap', hv, _, _, _, _, hc⟩ := ziq h.row hk
 injection hv with q1 q2 q3
 injection q1 with q1
 injection q1 with q1
 subst q1
 rw [hx] at hc
 exact ⟨hc 0 (by decide), hc 1 (by decide), hc 2 (by decide), hc 3 (by decide), hc 4 (by decide), hc 5 (by decide), hc 6 (by decide), hc 7 (by decide), hc 8 (by decide), hc 9 (by decide)⟩
theorem FactIn.shape {w : World} {base : Nat} {x : FG} (h : FactIn w base x) : ∃ a1 a2 a3 a4, x.tv = .slice a1 x.F.thing.terms.length a2 ∧ x.fv = .slice a3 x.F.fr.length a4 := by
 obtain ⟨a1, a2, e1⟩ := zac h.t
 obtain ⟨a3, a4, e2⟩ := zac h.i
 exact ⟨a1, a2, a3, a4, e1, e2⟩
theorem FactsIn.fz {w : World} {base g n cap : Nat} {fs : List FG} (h : FactsIn w base (.slice (some ⟨g, 0, none⟩) n cap) fs) : ∀ j, w.frozen? ⟨g, j, none⟩ = false := zf5 h.row
structure R4In (w : World) (base : Nat) (v : Value) (zs : List FG) (wr : World) : Prop where
 below : Below w.heap.size w wr
 facts : FactsIn wr base v zs
 ge : w.heap.size ≤ base
theorem R4In.past {w : World} {base : Nat} {v : Value} {zs : List FG} {wr w' : World} (h : R4In w base v zs wr) (k : Below wr.heap.size wr w') : R4In w base v zs w' := ⟨h.below.trans (k.mono h.below.size), h.facts.below k, h.ge⟩
theorem R4In.set {w : World} {base g cap k : Nat} {zs zs' : List FG} {x : FG} {wr : World} {n : Nat} (hn : n = zs.length) (h : R4In w base (.slice (some ⟨g, 0, none⟩) n cap) zs wr) (hk : k < zs.length) (hx : FactIn wr base x) (hz : zs.set k x = zs') : R4In w base (.slice (some ⟨g, 0, none⟩) n cap) zs' (setF wr g k x) := by
 subst hn
 subst hz
 have hg : base ≤ g := (h.facts.row.lt g rfl).1
 have hge := h.ge
 exact ⟨zar h.below (zh7 [g] (by simp) k x) h.below.size (fun b hb => by rw [List.mem_singleton.1 hb]; omega), h.facts.setF hk hx, h.ge⟩
set_option maxRecDepth 1000000 in
theorem round4 (w : World) (base : Nat) (ag : Option Addr) (n cap : Nat) (hn50 : n ≤ 1000) (zs : List FG) (y : FG) (C : List FG) (i : Nat) (hil : zs.length = i) (hnl : n = (zs ++ y :: C).length) (hso : zfo zs) (w1 : World) (hI : R4In w base (.slice ag n cap) (zs ++ y :: C) w1)
  {Q : Exit → Act → World → Prop} {c0 c1 c2 c3 c4 c5 c6 c7 c8 c10 c11 c12 c13 c14 c15 c18 c19 c20 c21 c22 c23 c24 c25 c26 c27 c28 c29 c30 c31 c32 c33 c34 c35 c36 c37 c38 c39 c40 c41 c42 c43 c44 c45 c46 c47 c48 c49 c50 c51 c52 c53 c54 c55 c56 c57 c58 c59 c60 c61 c62 c63 c64 c65 c66 c67 c68 c69 c70 c71 c72 c73 c74 c75 c76 c77 c78 c79 c80 c81 c82 c83 c84 c85 c86 c87 c88 c89 c90 c91 c92 c93 c94 c95 c96 c97 c98 c99 c100 c101 c102 c103 c104 c105 c106 c107 c108 c109 c110 c111 c112 c113 c114 c115 c116 c117 c118 c119 c120 c121 c122 c123 c124 c125 c126 c127 c128 c129 c130 c131 c132 c133 c134 c135 c136 c137 c138 c139 c140 c141 : Value}
  (hexit : ∀ (zs' : List FG) (w2 : World) (u17 u18 u19 u108 u109 u110 u111 u112 u113 u114 u115 u116 u117 u118 u119 u120 u121 u122 u123 u124 u125 u126 u127 u128 u129 u130 u131 u132 u133 u134 u135 u136 u137 u138 u139 u140 : Value), R4In w base (.slice ag n cap) (zs' ++ C) w2 → zfo zs' → zs'.Perm (zs ++ [y]) → Q (.exit 6) ⟨List.toArray (c0 :: c1 :: c2 :: c3 :: c4 :: c5 :: c6 :: c7 :: c8 :: .slice ag n cap :: c10 :: c11 :: c12 :: c13 :: c14 :: c15 :: .int .i64 i :: u17 :: u18 :: u19 :: c20 :: c21 :: c22 :: c23 :: c24 :: c25 :: c26 :: c27 :: c28 :: c29 :: c30 :: c31 :: c32 :: c33 :: c34 :: c35 :: c36 :: c37 :: c38 :: c39 :: c40 :: c41 :: c42 :: c43 :: c44 :: c45 :: c46 :: c47 :: c48 :: c49 :: c50 :: c51 :: c52 :: c53 :: c54 :: c55 :: c56 :: c57 :: c58 :: c59 :: c60 :: c61 :: c62 :: c63 :: c64 :: c65 :: c66 :: c67 :: c68 :: c69 :: c70 :: c71 :: c72 :: c73 :: c74 :: c75 :: c76 :: c77 :: c78 :: c79 :: c80 :: c81 :: c82 :: c83 :: c84 :: c85 :: c86 :: c87 :: c88 :: c89 :: c90 :: c91 :: c92 :: c93 :: c94 :: c95 :: c96 :: c97 :: c98 :: c99 :: c100 :: c101 :: c102 :: c103 :: c104 :: c105 :: c106 :: c107 :: u108 :: u109 :: u110 :: u111 :: u112 :: u113 :: u114 :: u115 :: u116 :: u117 :: u118 :: u119 :: u120 :: u121 :: u122 :: u123 :: u124 :: u125 :: u126 :: u127 :: u128 :: u129 :: u130 :: u131 :: u132 :: u133 :: u134 :: u135 :: u136 :: u137 :: u138 :: u139 :: u140 :: c141 :: []), []⟩ w2) :
  Code.wp Tryz.prog (Code.loop (roundL 3)) Q ⟨List.toArray (c0 :: c1 :: c2 :: c3 :: c4 :: c5 :: c6 :: c7 :: c8 :: .slice ag n cap :: c10 :: c11 :: c12 :: c13 :: c14 :: c15 :: .int .i64 i :: .int .i64 i :: c18 :: c19 :: c20 :: c21 :: c22 :: c23 :: c24 :: c25 :: c26 :: c27 :: c28 :: c29 :: c30 :: c31 :: c32 :: c33 :: c34 :: c35 :: c36 :: c37 :: c38 :: c39 :: c40 :: c41 :: c42 :: c43 :: c44 :: c45 :: c46 :: c47 :: c48 :: c49 :: c50 :: c51 :: c52 :: c53 :: c54 :: c55 :: c56 :: c57 :: c58 :: c59 :: c60 :: c61 :: c62 :: c63 :: c64 :: c65 :: c66 :: c67 :: c68 :: c69 :: c70 :: c71 :: c72 :: c73 :: c74 :: c75 :: c76 :: c77 :: c78 :: c79 :: c80 :: c81 :: c82 :: c83 :: c84 :: c85 :: c86 :: c87 :: c88 :: c89 :: c90 :: c91 :: c92 :: c93 :: c94 :: c95 :: c96 :: c97 :: c98 :: c99 :: c100 :: c101 :: c102 :: c103 :: c104 :: c105 :: c106 :: c107 :: c108 :: c109 :: c110 :: c111 :: c112 :: c113 :: c114 :: c115 :: c116 :: c117 :: c118 :: c119 :: c120 :: c121 :: c122 :: c123 :: c124 :: c125 :: c126 :: c127 :: c128 :: c129 :: c130 :: c131 :: c132 :: c133 :: c134 :: c135 :: c136 :: c137 :: c138 :: c139 :: c140 :: c141 :: []), []⟩ w1 := by
 conv => arg 2; arg 1; whnf
 have HI := hide hI
 have HX := hide hexit
 have HNL := hide hnl
 have HIL := hide hil
 have HSO := hide hso
 have hin : i ≤ 1000 := by rw [List.length_append, List.length_cons] at hnl; omega
 clear hI hexit hnl hil hso
 go_loopg [17] i (fun gg kk wr => ∃ (A : List FG) (x : FG) (B : List FG), gg = A.length ∧ kk = .int .i64 A.length ∧ A.length ≤ i ∧ R4In w base (.slice ag n cap) (A ++ x :: (B ++ C)) wr ∧ InsF A x B ∧ (A ++ x :: B).Perm (zs ++ [y]))
 case atStart => exact ⟨zs, y, [], (zaa HIL).symm, by rw [zaa HIL], Nat.le_of_eq (zaa HIL), zaa HI, ⟨by rw [List.append_nil]; exact zaa HSO, by simp⟩, List.Perm.refl _⟩
 case round =>
  clear HI HSO HIL
  obtain ⟨A, x, B, hgA, rfl, hAi, hI, hins, hperm⟩ := hrel
  rcases List.eq_nil_or_concat A with e | ⟨A', a, e⟩
  ·subst e
   have HI := hide (show R4In w base (.slice ag n cap) ((x :: B) ++ C) wr from hI)
   have HS := hide (show zfo (x :: B) from hins.done (fun A' a h => by simp at h))
   have HP := hide (show (x :: B).Perm (zs ++ [y]) from hperm)
   clear hI hins hperm
   go_wp2_with fail
   apply zaa HX
   ·exact zaa HI
   ·exact zaa HS
   ·exact zaa HP
  ·rw [List.concat_eq_append] at e
   subst e
   have hln : n = (A' ++ a :: x :: (B ++ C)).length := by
    have h1 := zaa HNL
    have h2 := hperm.length_eq
    simp only [List.length_append, List.length_cons, List.length_nil] at h1 h2 ⊢
    omega
   have hI' : R4In w base (.slice ag n cap) (A' ++ a :: x :: (B ++ C)) wr := by simpa using hI
   have hAl : (A' ++ [a]).length = A'.length + 1 := by simp
   rw [hAl]
   rw [hAl] at hgA hAi
   have hmx : A'.length + 1 < (A' ++ a :: x :: (B ++ C)).length := by simp
   have hma : A'.length < (A' ++ a :: x :: (B ++ C)).length := by simp
   have gx : (A' ++ a :: x :: (B ++ C))[A'.length + 1] = x := by simp
   have ga : (A' ++ a :: x :: (B ++ C))[A'.length] = a := by simp
   have hrow := hI'.facts.row
   rw [hln] at hI'
   obtain ⟨g, cap', hv, hgb, hgl, hnc, hcm, -⟩ := hI'.facts.split hmx
   injection hv with q1 q2 q3
   subst q1 q3
   rw [← hln] at hI'
   have hnc' : n ≤ cap := by rw [hln]; exact hnc
   obtain ⟨x1, x2, x3, x4, ex1, ex2⟩ := (hI'.facts.each x (by simp)).shape
   obtain ⟨a1, a2, a3, a4, ea1, ea2⟩ := (hI'.facts.each a (by simp)).shape
   obtain ⟨p0, p1, p2, p3, p4, p5, p6, p7, p8, p9⟩ := zez hI'.facts hmx gx
   obtain ⟨r0, r1, r2, r3, r4, r5, r6, r7, r8, r9⟩ := zez hI'.facts hma ga
   rw [ex1] at p1
   rw [ex2] at p9
   rw [ea1] at r1
   rw [ea2] at r9
   have hmn : A'.length + 1 < n := by rw [hln]; exact hmx
   have HI := hide hI'
   have HLN := hide hln
   have HINS := hide hins
   have HPERM := hide hperm
   have HEX := hide (And.intro (And.intro ex1 ex2) (And.intro ea1 ea2))
   obtain ⟨m, hm⟩ : ∃ m, A'.length = m := ⟨_, rfl⟩
   rw [hm] at p0 p1 p2 p3 p4 p5 p6 p7 p8 p9 r0 r1 r2 r3 r4 r5 r6 r7 r8 r9 hmn hgA hAi ⊢
   have HM := hide hm
   have hcast : ((m + 1 : Nat) : Int) = (m : Int) + 1 := by omega
   rw [hcast]
   clear hcast
   have w0 : IntKind.i64.wrap (m : Int) = m := zmc m (by omega)
   have w1' : IntKind.i64.wrap ((m : Int) + 1 - 1) = m := by rw [Int.add_sub_cancel]; exact w0
   have i1 : (m : Int) + 1 < n := by omega
   have i2 : (m : Int) < n := by omega
   have i3 : (0 : Int) < (m : Int) + 1 := by omega
   have i4 : (0 : Int) ≤ (m : Int) + 1 := by omega
   clear hI hI' hrow hln hins hperm hAl hmx hma gx ga ex1 ex2 ea1 ea2 hm hnc
   have HB0 := hide (Below.refl wr.heap.size wr)
   go_upto_region 23 with fail
   go_cut [18] from 108 to 140 (fun u wc => u = .bool (zdd x.F a.F) ∧ Below wr.heap.size wr wc)
   case first =>
     have HKK : Hid (∀ W w' : World, Below wr.heap.size wr W → Below W.heap.size W w' → w'.cell? ⟨g, (m + 1) * 10, none⟩ = some (.string x.F.thing.pred) ∧ w'.cell? ⟨g, (m + 1) * 10 + 1, none⟩ = some (.slice x1 x.F.thing.terms.length x2) ∧ w'.cell? ⟨g, (m + 1) * 10 + 2, none⟩ = some (.bool x.F.thing.no) ∧ w'.cell? ⟨g, (m + 1) * 10 + 3, none⟩ = some (.int .i64 x.F.thing.at_) ∧ w'.cell? ⟨g, (m + 1) * 10 + 4, none⟩ = some (.int .i64 x.F.thing.noAt) ∧ w'.cell? ⟨g, (m + 1) * 10 + 5, none⟩ = some (.string x.F.text) ∧ w'.cell? ⟨g, (m + 1) * 10 + 6, none⟩ = some (.int .i64 x.F.s) ∧ w'.cell? ⟨g, (m + 1) * 10 + 7, none⟩ = some (.int .i64 x.F.h) ∧ w'.cell? ⟨g, (m + 1) * 10 + 8, none⟩ = some (.int .i64 x.F.r) ∧ w'.cell? ⟨g, (m + 1) * 10 + 9, none⟩ = some (.slice x3 x.F.fr.length x4) ∧ w'.cell? ⟨g, m * 10, none⟩ = some (.string a.F.thing.pred) ∧ w'.cell? ⟨g, m * 10 + 1, none⟩ = some (.slice a1 a.F.thing.terms.length a2) ∧ w'.cell? ⟨g, m * 10 + 2, none⟩ = some (.bool a.F.thing.no) ∧ w'.cell? ⟨g, m * 10 + 3, none⟩ = some (.int .i64 a.F.thing.at_) ∧ w'.cell? ⟨g, m * 10 + 4, none⟩ = some (.int .i64 a.F.thing.noAt) ∧ w'.cell? ⟨g, m * 10 + 5, none⟩ = some (.string a.F.text) ∧ w'.cell? ⟨g, m * 10 + 6, none⟩ = some (.int .i64 a.F.s) ∧ w'.cell? ⟨g, m * 10 + 7, none⟩ = some (.int .i64 a.F.h) ∧ w'.cell? ⟨g, m * 10 + 8, none⟩ = some (.int .i64 a.F.r) ∧ w'.cell? ⟨g, m * 10 + 9, none⟩ = some (.slice a3 a.F.fr.length a4)) := hide (fun W w' h1 h2 => by
      have hB := h1.trans (h2.mono h1.size)
      exact ⟨(hB.cell (by simpa using hgl)).trans p0, (hB.cell (by simpa using hgl)).trans p1, (hB.cell (by simpa using hgl)).trans p2, (hB.cell (by simpa using hgl)).trans p3, (hB.cell (by simpa using hgl)).trans p4, (hB.cell (by simpa using hgl)).trans p5, (hB.cell (by simpa using hgl)).trans p6, (hB.cell (by simpa using hgl)).trans p7, (hB.cell (by simpa using hgl)).trans p8, (hB.cell (by simpa using hgl)).trans p9, (hB.cell (by simpa using hgl)).trans r0, (hB.cell (by simpa using hgl)).trans r1, (hB.cell (by simpa using hgl)).trans r2, (hB.cell (by simpa using hgl)).trans r3, (hB.cell (by simpa using hgl)).trans r4, (hB.cell (by simpa using hgl)).trans r5, (hB.cell (by simpa using hgl)).trans r6, (hB.cell (by simpa using hgl)).trans r7, (hB.cell (by simpa using hgl)).trans r8, (hB.cell (by simpa using hgl)).trans r9⟩)
     go_region_held3 (fun w' => w'.cell? ⟨g, (m + 1) * 10, none⟩ = some (.string x.F.thing.pred) ∧ w'.cell? ⟨g, (m + 1) * 10 + 1, none⟩ = some (.slice x1 x.F.thing.terms.length x2) ∧ w'.cell? ⟨g, (m + 1) * 10 + 2, none⟩ = some (.bool x.F.thing.no) ∧ w'.cell? ⟨g, (m + 1) * 10 + 3, none⟩ = some (.int .i64 x.F.thing.at_) ∧ w'.cell? ⟨g, (m + 1) * 10 + 4, none⟩ = some (.int .i64 x.F.thing.noAt) ∧ w'.cell? ⟨g, (m + 1) * 10 + 5, none⟩ = some (.string x.F.text) ∧ w'.cell? ⟨g, (m + 1) * 10 + 6, none⟩ = some (.int .i64 x.F.s) ∧ w'.cell? ⟨g, (m + 1) * 10 + 7, none⟩ = some (.int .i64 x.F.h) ∧ w'.cell? ⟨g, (m + 1) * 10 + 8, none⟩ = some (.int .i64 x.F.r) ∧ w'.cell? ⟨g, (m + 1) * 10 + 9, none⟩ = some (.slice x3 x.F.fr.length x4) ∧ w'.cell? ⟨g, m * 10, none⟩ = some (.string a.F.thing.pred) ∧ w'.cell? ⟨g, m * 10 + 1, none⟩ = some (.slice a1 a.F.thing.terms.length a2) ∧ w'.cell? ⟨g, m * 10 + 2, none⟩ = some (.bool a.F.thing.no) ∧ w'.cell? ⟨g, m * 10 + 3, none⟩ = some (.int .i64 a.F.thing.at_) ∧ w'.cell? ⟨g, m * 10 + 4, none⟩ = some (.int .i64 a.F.thing.noAt) ∧ w'.cell? ⟨g, m * 10 + 5, none⟩ = some (.string a.F.text) ∧ w'.cell? ⟨g, m * 10 + 6, none⟩ = some (.int .i64 a.F.s) ∧ w'.cell? ⟨g, m * 10 + 7, none⟩ = some (.int .i64 a.F.h) ∧ w'.cell? ⟨g, m * 10 + 8, none⟩ = some (.int .i64 a.F.r) ∧ w'.cell? ⟨g, m * 10 + 9, none⟩ = some (.slice a3 a.F.fr.length a4)) (go_keep) ((go_at_call 231; refine (ahead_any _ x.F a.F x1 x3 a1 a3 _ _ _ _ x2 x4 a2 a4).mono ?_; rintro e w2 ⟨rfl, hb2⟩; obtain ⟨m0, m1, m2, m3, m4, m5, m6, m7, m8, m9, m10, m11, m12, m13, m14, m15, m16, m17, m18, m19⟩ := zaa HKK _ _ (by exact (Below.refl _ _).drew) hb2; have HB2 := hide ((Below.refl wr.heap.size wr).drew.trans (hb2.mono (by exact Nat.le_refl _))); clear hb2))
     all_goals
      go_wp2_with fail
      go_meet
      case rel => exact ⟨rfl, zaa HB2⟩
   case rest =>
    generalize wc = wA at *
    obtain ⟨rfl, hBA⟩ := hcut
    have hIA := (zaa HI).past hBA
    have HIA := hide hIA
    clear p0 p1 p2 p3 p4 p5 p6 p7 p8 p9 r0 r1 r2 r3 r4 r5 r6 r7 r8 r9 HB0
    cases hah : zdd x.F a.F with
    | false =>
     have HS := hide (show zfo (A' ++ a :: x :: B) by
      have := (zaa HINS).done (fun A2 a2 h => by
       have := List.append_inj' h rfl
       have h2 : a = a2 := by simpa using this.2
       rw [← h2]; exact hah)
      simpa using this)
     have HP := hide (show (A' ++ a :: x :: B).Perm (zs ++ [y]) by simpa using zaa HPERM)
     have HI2 := hide (show R4In w base (.slice (some ⟨g, 0, none⟩) n cap) ((A' ++ a :: x :: B) ++ C) wA by simpa using hIA)
     clear hIA HINS HPERM hah hBA
     go_wp2_with fail
     apply zaa HX
     ·exact zaa HI2
     ·exact zaa HS
     ·exact zaa HP
    | true =>
     have hx1 : (A' ++ a :: x :: (B ++ C))[m + 1]'(by have := zaa HM; simp; omega) = x := by
      have := zaa HM
      subst this
      simp
     have ha1 : (A' ++ a :: x :: (B ++ C))[m]'(by have := zaa HM; simp; omega) = a := by
      have := zaa HM
      subst this
      simp
     obtain ⟨⟨ex1, ex2⟩, ⟨ea1, ea2⟩⟩ := zaa HEX
     obtain ⟨p0, p1, p2, p3, p4, p5, p6, p7, p8, p9⟩ := zez hIA.facts _ hx1
     rw [ex1] at p1
     rw [ex2] at p9
     have HDN := hide ((zaa HINS).down hah)
     have HPM := hide (show (A' ++ x :: (a :: B)).Perm (zs ++ [y]) from by
      refine List.Perm.trans ?_ (zaa HPERM)
      rw [List.append_assoc]
      exact List.Perm.append_left _ (List.Perm.swap _ _ _))
     have hgA' : g < wA.heap.size := by have := hBA.size; omega
     clear hIA HINS HPERM hah hBA hx1 ha1 ex1 ex2 ea1 ea2
     go_upto_region 25 with fail
     go_cut [19] from 108 to 140 (fun u wc => u = .pointer (some ⟨wA.heap.size, 0, none⟩) ∧ wc.heap[wA.heap.size]? = some (.cells #[.string x.F.thing.pred, .slice x1 x.F.thing.terms.length x2, .bool x.F.thing.no, .int .i64 x.F.thing.at_, .int .i64 x.F.thing.noAt, .string x.F.text, .int .i64 x.F.s, .int .i64 x.F.h, .int .i64 x.F.r, .slice x3 x.F.fr.length x4] 262 (0, 0)) ∧ Below wA.heap.size wA wc)
     case first =>
      go_wp2_with fail
      go_meet
      case rel => exact ⟨rfl, heap_alloc_new wA _, (Below.refl _ _).alloc (Nat.le_refl _) _⟩
     case rest =>
      generalize wc = wB at *
      obtain ⟨rfl, hxb, hBB⟩ := hcut
      have hIB := (zaa HIA).past hBB
      obtain ⟨⟨ex1, ex2⟩, ⟨ea1, ea2⟩⟩ := zaa HEX
      have hlx : m + 1 < (A' ++ a :: x :: (B ++ C)).length := by have := zaa HM; simp; omega
      have hla : m < (A' ++ a :: x :: (B ++ C)).length := by have := zaa HM; simp; omega
      have hx1 : (A' ++ a :: x :: (B ++ C))[m + 1] = x := by
       have := zaa HM
       subst this
       simp
      have ha1 : (A' ++ a :: x :: (B ++ C))[m] = a := by
       have := zaa HM
       subst this
       simp
      obtain ⟨s0, s1, s2, s3, s4, s5, s6, s7, s8, s9⟩ := zez hIB.facts hlx hx1
      obtain ⟨r0, r1, r2, r3, r4, r5, r6, r7, r8, r9⟩ := zez hIB.facts hla ha1
      rw [ea1] at r1
      rw [ea2] at r9
      have fz := hIB.facts.fz
      have hset : (A' ++ a :: x :: (B ++ C)).set (m + 1) a = A' ++ a :: a :: (B ++ C) := by
       have := zaa HM
       subst this
       simp
      have hR := R4In.set (x := a) (zaa HLN) hIB hlx (hIB.facts.each a (by simp)) hset
      have hFx : FactIn (setF wB g (m + 1) a) base x := (hIB.facts.each x (by simp)).keptT (zh7 [g] (by simp) (m + 1) a) (fun b hb => zaz hIB.facts.row (by decide) b (by simpa [Value.ownBlock] using hb)) (fun b hb => zaz hIB.facts.row (by decide) b (by simpa [Value.ownBlock] using hb))
      have hkx : (setF wB g (m + 1) a).heap[wA.heap.size]? = some (.cells #[.string x.F.thing.pred, .slice x1 x.F.thing.terms.length x2, .bool x.F.thing.no, .int .i64 x.F.thing.at_, .int .i64 x.F.thing.noAt, .string x.F.text, .int .i64 x.F.s, .int .i64 x.F.h, .int .i64 x.F.r, .slice x3 x.F.fr.length x4] 262 (0, 0)) := by
       rw [(zh7 [g] (by simp) (m + 1) a).block _ (Array.getElem?_eq_some_iff.1 hxb).1 (by simp; omega)]
       exact hxb
      unfold setF at hR hkx hFx
      rw [ea1, ea2] at hR hkx hFx
      have HFX := hide hFx
      have HR := hide hR
      have HKX := hide hkx
      clear hIB hxb hBB hlx hla hx1 ha1 hset hR hkx hFx p0 p1 p2 p3 p4 p5 p6 p7 p8 p9 ex1 ex2 ea1 ea2 HIA
      go_upto_region 26 with fail
      go_cut [] from 108 to 140 (fun wc => R4In w base (.slice (some ⟨g, 0, none⟩) n cap) (A' ++ a :: a :: (B ++ C)) wc ∧ FactIn wc base x ∧ wc.heap[wA.heap.size]? = some (.cells #[.string x.F.thing.pred, .slice x1 x.F.thing.terms.length x2, .bool x.F.thing.no, .int .i64 x.F.thing.at_, .int .i64 x.F.thing.noAt, .string x.F.text, .int .i64 x.F.s, .int .i64 x.F.h, .int .i64 x.F.r, .slice x3 x.F.fr.length x4] 262 (0, 0)))
      case first =>
       go_wp2_with fail
       go_meet
       case rel => exact ⟨zaa HR, zaa HFX, zaa HKX⟩
      case rest =>
       generalize wc = wC at *
       obtain ⟨hIC, hFx, hxc⟩ := hcut
       clear HR HKX HFX s0 s1 s2 s3 s4 s5 s6 s7 s8 s9 r0 r1 r2 r3 r4 r5 r6 r7 r8 r9 fz
       obtain ⟨⟨ex1, ex2⟩, ⟨ea1, ea2⟩⟩ := zaa HEX
       have hla : m < (A' ++ a :: a :: (B ++ C)).length := by have := zaa HM; simp; omega
       have ha1 : (A' ++ a :: a :: (B ++ C))[m] = a := by
        have := zaa HM
        subst this
        simp
       obtain ⟨r0, r1, r2, r3, r4, r5, r6, r7, r8, r9⟩ := zez hIC.facts hla ha1
       obtain ⟨s0, -⟩ := zab hxc 0
       obtain ⟨s1, -⟩ := zab hxc 1
       obtain ⟨s2, -⟩ := zab hxc 2
       obtain ⟨s3, -⟩ := zab hxc 3
       obtain ⟨s4, -⟩ := zab hxc 4
       obtain ⟨s5, -⟩ := zab hxc 5
       obtain ⟨s6, -⟩ := zab hxc 6
       obtain ⟨s7, -⟩ := zab hxc 7
       obtain ⟨s8, -⟩ := zab hxc 8
       obtain ⟨s9, -⟩ := zab hxc 9
       have fz := hIC.facts.fz
       have hset : (A' ++ a :: a :: (B ++ C)).set m x = A' ++ x :: a :: (B ++ C) := by
        have := zaa HM
        subst this
        simp
       have hlen : n = (A' ++ a :: a :: (B ++ C)).length := by have := zaa HLN; simp at this ⊢; omega
       have hR := R4In.set (x := x) hlen hIC hla hFx hset
       unfold setF at hR
       rw [ex1, ex2] at hR
       have HR := hide (show R4In w base (.slice (some ⟨g, 0, none⟩) n cap) (A' ++ x :: ((a :: B) ++ C)) _ from hR)
       clear hIC hFx hxc hla ha1 hset hlen hR ex1 ex2 ea1 ea2
       go_wp2_with fail
       go_roundg m
       case measure => omega
       case rel => exact ⟨A', x, a :: B, (zaa HM).symm, by rw [zaa HM], by rw [zaa HM]; omega, zaa HR, zaa HDN, zaa HPM⟩
end
end Go.Proofs.YtldkpahaocjdpaaGreat
