/-
  What is asked of the program, its functions and types by the statement Prints, and is told by reckoning alone: each row by itself, as all of it together outgrows the memory.
-/
import Derived.Test.YtldkpahaocjdpaaGreatPrintsT01
namespace Go.Proofs.YtldkpahaocjdpaaGreat
open Go

theorem prints_fact0 : Rows.printsUptoRow.wf (OpenSpec.ofChange ((Rows.OpenSpec.upto Rows.printsSpec).bare)) = true := by kernel_rfl
theorem prints_fact3 : Tryz.f4.params.all (Tryz.prog.readableRec ·) = true := by kernel_rfl
theorem prints_fact4 : namedTie Tryz.prog Rows.printsUptoRow.named ((Rows.OpenSpec.upto Rows.printsSpec).bare).vars = true := by kernel_rfl
theorem prints_fact5 : (Rows.printsUptoRow.stops == []) = true := by kernel_rfl
theorem prints_fact7 : (Rows.printsUptoRow.knobs == []) = true := by kernel_rfl
theorem prints_fact9 : (Rows.printsUptoRow.inPlace == Tryz.prog.inPlace 4) = true := by kernel_rfl
theorem prints_fact10 : (Rows.printsUptoRow.unfollowed == Tryz.prog.unfollowed 4) = true := by kernel_rfl
theorem prints_fact11 : (Rows.printsUptoRow.recurses == Tryz.prog.recurses 4) = true := by kernel_rfl
theorem prints_fact12 : (Rows.printsUptoRow.named == Tryz.prog.varsNamed 4) = true := by kernel_rfl
theorem prints_fact13 : (Rows.printsUptoRow.maps == (Tryz.f4.params.toList ++ ((Rows.OpenSpec.upto Rows.printsSpec).bare).plain.varTypes Tryz.prog).any (Tryz.prog.mapsRec ·)) = true := by kernel_rfl
theorem prints_fact14 : (Rows.printsUptoRow.ifaces == (Tryz.f4.params.toList ++ ((Rows.OpenSpec.upto Rows.printsSpec).bare).plain.varTypes Tryz.prog).any (Tryz.prog.ifacesRec ·)) = true := by kernel_rfl
theorem prints_fact15 : (Rows.printsUptoRow.mapsOut == Tryz.prog.mapsAmong Tryz.f4.resultTypes.toList) = true := by kernel_rfl
theorem prints_fact16 : (Rows.printsUptoRow.loops == (Tryz.f4.params.toList ++ ((Rows.OpenSpec.upto Rows.printsSpec).bare).plain.varTypes Tryz.prog).any (Tryz.prog.loopsFrom ·)) = true := by kernel_rfl
theorem prints_fact17 : (Rows.printsUptoRow.wideKeys == (Tryz.f4.params.toList ++ ((Rows.OpenSpec.upto Rows.printsSpec).bare).plain.varTypes Tryz.prog ++ Tryz.f4.resultTypes.toList).any (Tryz.prog.wideKeysFrom ·)) = true := by kernel_rfl
theorem prints_fact18 : ((Rows.OpenSpec.upto Rows.printsSpec).bare).vars.all (Tryz.prog.varReadable ·) = true := by kernel_rfl
theorem prints_fact19 : Tryz.f4.resultTypes.all (fun t => Tryz.prog.readableRec t && decide (t < Tryz.prog.types.size)) = true := by kernel_rfl
theorem prints_fact20 : (Rows.printsUptoRow.ifacesOut == Tryz.f4.resultTypes.toList.any (Tryz.prog.ifacesRec ·)) = true := by kernel_rfl
theorem prints_fact21 : (Rows.printsUptoRow.loopsOut == Tryz.f4.resultTypes.toList.any (Tryz.prog.loopsFrom ·)) = true := by kernel_rfl
theorem prints_fact22 : (Rows.printsUptoRow.plainKeys == Tryz.prog.plainKeys) = true := by kernel_rfl
theorem prints_fact23 : Rows.printsUptoRow.shortTexts.isNone = true := by kernel_rfl
theorem prints_fact26 : (Rows.printsUptoRow.lifted == Tryz.prog.liftsFinal) = true := by kernel_rfl
theorem prints_fact27 : (Tryz.prog.make == some Rows.printsUptoRow.make) = true := by kernel_rfl
theorem prints_fact29 : (Rows.printsUptoRow.pinned == Rows.printsUptoRow.pinnedBy) = true := by kernel_rfl
theorem prints_fact30 : (Rows.printsUptoRow.veiled == (Tryz.f4.params.toList ++ ((Rows.OpenSpec.upto Rows.printsSpec).bare).plain.varTypes Tryz.prog ++ Tryz.f4.resultTypes.toList).any (Tryz.prog.veiledRec ·)) = true := by kernel_rfl
theorem prints_fact31 : Rows.printsUptoRow.veiledFits Tryz.prog Tryz.f4.params.toList (Tryz.f4.params.toList ++ ((Rows.OpenSpec.upto Rows.printsSpec).bare).plain.varTypes Tryz.prog ++ Tryz.f4.resultTypes.toList) = true := by kernel_rfl
theorem prints_fnamed : Tryz.prog.funcNamed Rows.printsUptoRow.func = some 4 := by kernel_rfl
set_option maxRecDepth 100000 in
theorem prints_facts : joinedFacts Tryz.prog 4 Tryz.f4 ((Rows.OpenSpec.upto Rows.printsSpec).bare) Rows.printsUptoRow = true := by
  unfold joinedFacts
  exact (andI (andI (andI (andI (andI (andI (andI (andI (andI (andI (andI (andI (andI (andI (andI (andI (andI (andI (andI (andI (andI (andI (andI (andI (andI (andI (andI (andI (andI (andI (andI prints_fact0 fact_laid) fact_rowed) prints_fact3) prints_fact4) prints_fact5) fact_stops) prints_fact7) fact_knobs) prints_fact9) prints_fact10) prints_fact11) prints_fact12) prints_fact13) prints_fact14) prints_fact15) prints_fact16) prints_fact17) prints_fact18) prints_fact19) prints_fact20) prints_fact21) prints_fact22) prints_fact23) fact_heard) fact_may) prints_fact26) prints_fact27) (by kernel_rfl)) prints_fact29) prints_fact30) prints_fact31)
end Go.Proofs.YtldkpahaocjdpaaGreat
