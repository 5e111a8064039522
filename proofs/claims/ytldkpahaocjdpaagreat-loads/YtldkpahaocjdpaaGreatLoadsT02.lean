/-
  What is asked of the program, its functions and types by the statement Loads, and is told by reckoning alone: each row by itself, as all of it together outgrows the memory.
-/
import Derived.Test.YtldkpahaocjdpaaGreatLoadsT01
namespace Go.Proofs.YtldkpahaocjdpaaGreat
open Go

theorem loads_fact0 : Rows.loadsRow.wf (OpenSpec.ofChange (Rows.loadsSpec)) = true := by kernel_rfl
theorem loads_fact3 : Tryz.f3.params.all (Tryz.prog.readableRec ·) = true := by kernel_rfl
theorem loads_fact4 : namedTie Tryz.prog Rows.loadsRow.named (Rows.loadsSpec).vars = true := by kernel_rfl
theorem loads_fact5 : (Rows.loadsRow.stops == []) = true := by kernel_rfl
theorem loads_fact7 : (Rows.loadsRow.knobs == []) = true := by kernel_rfl
theorem loads_fact9 : (Rows.loadsRow.inPlace == Tryz.prog.inPlace 3) = true := by kernel_rfl
theorem loads_fact10 : (Rows.loadsRow.unfollowed == Tryz.prog.unfollowed 3) = true := by kernel_rfl
theorem loads_fact11 : (Rows.loadsRow.recurses == Tryz.prog.recurses 3) = true := by kernel_rfl
theorem loads_fact12 : (Rows.loadsRow.named == Tryz.prog.varsNamed 3) = true := by kernel_rfl
theorem loads_fact13 : (Rows.loadsRow.maps == (Tryz.f3.params.toList ++ (Rows.loadsSpec).plain.varTypes Tryz.prog).any (Tryz.prog.mapsRec ·)) = true := by kernel_rfl
theorem loads_fact14 : (Rows.loadsRow.ifaces == (Tryz.f3.params.toList ++ (Rows.loadsSpec).plain.varTypes Tryz.prog).any (Tryz.prog.ifacesRec ·)) = true := by kernel_rfl
theorem loads_fact15 : (Rows.loadsRow.mapsOut == Tryz.prog.mapsAmong Tryz.f3.resultTypes.toList) = true := by kernel_rfl
theorem loads_fact16 : (Rows.loadsRow.loops == (Tryz.f3.params.toList ++ (Rows.loadsSpec).plain.varTypes Tryz.prog).any (Tryz.prog.loopsFrom ·)) = true := by kernel_rfl
theorem loads_fact17 : (Rows.loadsRow.wideKeys == (Tryz.f3.params.toList ++ (Rows.loadsSpec).plain.varTypes Tryz.prog ++ Tryz.f3.resultTypes.toList).any (Tryz.prog.wideKeysFrom ·)) = true := by kernel_rfl
theorem loads_fact18 : (Rows.loadsSpec).vars.all (Tryz.prog.varReadable ·) = true := by kernel_rfl
theorem loads_fact19 : Tryz.f3.resultTypes.all (fun t => Tryz.prog.readableRec t && decide (t < Tryz.prog.types.size)) = true := by kernel_rfl
theorem loads_fact20 : (Rows.loadsRow.ifacesOut == Tryz.f3.resultTypes.toList.any (Tryz.prog.ifacesRec ·)) = true := by kernel_rfl
theorem loads_fact21 : (Rows.loadsRow.loopsOut == Tryz.f3.resultTypes.toList.any (Tryz.prog.loopsFrom ·)) = true := by kernel_rfl
theorem loads_fact22 : (Rows.loadsRow.plainKeys == Tryz.prog.plainKeys) = true := by kernel_rfl
theorem loads_fact23 : Rows.loadsRow.shortTexts.isNone = true := by kernel_rfl
theorem loads_fact26 : (Rows.loadsRow.lifted == Tryz.prog.liftsFinal) = true := by kernel_rfl
theorem loads_fact27 : (Tryz.prog.make == some Rows.loadsRow.make) = true := by kernel_rfl
theorem loads_fact29 : (Rows.loadsRow.pinned == Rows.loadsRow.pinnedBy) = true := by kernel_rfl
theorem loads_fact30 : (Rows.loadsRow.veiled == (Tryz.f3.params.toList ++ (Rows.loadsSpec).plain.varTypes Tryz.prog ++ Tryz.f3.resultTypes.toList).any (Tryz.prog.veiledRec ·)) = true := by kernel_rfl
theorem loads_fact31 : Rows.loadsRow.veiledFits Tryz.prog Tryz.f3.params.toList (Tryz.f3.params.toList ++ (Rows.loadsSpec).plain.varTypes Tryz.prog ++ Tryz.f3.resultTypes.toList) = true := by kernel_rfl
theorem loads_fnamed : Tryz.prog.funcNamed Rows.loadsRow.func = some 3 := by kernel_rfl
set_option maxRecDepth 100000 in
theorem loads_facts : joinedFacts Tryz.prog 3 Tryz.f3 (Rows.loadsSpec) Rows.loadsRow = true := by
  unfold joinedFacts
  exact (andI (andI (andI (andI (andI (andI (andI (andI (andI (andI (andI (andI (andI (andI (andI (andI (andI (andI (andI (andI (andI (andI (andI (andI (andI (andI (andI (andI (andI (andI (andI loads_fact0 fact_laid) fact_rowed) loads_fact3) loads_fact4) loads_fact5) fact_stops) loads_fact7) fact_knobs) loads_fact9) loads_fact10) loads_fact11) loads_fact12) loads_fact13) loads_fact14) loads_fact15) loads_fact16) loads_fact17) loads_fact18) loads_fact19) loads_fact20) loads_fact21) loads_fact22) loads_fact23) fact_heard) fact_may) loads_fact26) loads_fact27) (by kernel_rfl)) loads_fact29) loads_fact30) loads_fact31)
end Go.Proofs.YtldkpahaocjdpaaGreat
