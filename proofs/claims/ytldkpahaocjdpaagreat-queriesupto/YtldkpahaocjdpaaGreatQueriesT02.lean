/-
  What is asked of the program, its functions and types by the statement Queries, and is told by reckoning alone: each row by itself, as all of it together outgrows the memory.
-/
import Derived.Test.YtldkpahaocjdpaaGreatQueriesT01
set_option maxHeartbeats 16000000
namespace Go.Proofs.YtldkpahaocjdpaaGreat
section
open Go
theorem znr : Rows.queriesUptoRow.wf (OpenSpec.ofChange ((Rows.OpenSpec.upto Rows.queriesSpec).bare)) = true := by kernel_rfl
theorem znf : Tryz.f5.params.all (Tryz.prog.readableRec ·) = true := by kernel_rfl
theorem zm0 : namedTie Tryz.prog Rows.queriesUptoRow.named ((Rows.OpenSpec.upto Rows.queriesSpec).bare).vars = true := by kernel_rfl
theorem zno : (Rows.queriesUptoRow.stops == []) = true := by kernel_rfl
theorem zm5 : (Rows.queriesUptoRow.knobs == []) = true := by kernel_rfl
theorem zns : (Rows.queriesUptoRow.inPlace == Tryz.prog.inPlace 5) = true := by kernel_rfl
theorem zk3 : (Rows.queriesUptoRow.unfollowed == Tryz.prog.unfollowed 5) = true := by kernel_rfl
theorem zk0 : (Rows.queriesUptoRow.recurses == Tryz.prog.recurses 5) = true := by kernel_rfl
theorem zk6 : (Rows.queriesUptoRow.named == Tryz.prog.varsNamed 5) = true := by kernel_rfl
theorem zlj : (Rows.queriesUptoRow.maps == (Tryz.f5.params.toList ++ ((Rows.OpenSpec.upto Rows.queriesSpec).bare).plain.varTypes Tryz.prog).any (Tryz.prog.mapsRec ·)) = true := by kernel_rfl
theorem zk4 : (Rows.queriesUptoRow.ifaces == (Tryz.f5.params.toList ++ ((Rows.OpenSpec.upto Rows.queriesSpec).bare).plain.varTypes Tryz.prog).any (Tryz.prog.ifacesRec ·)) = true := by kernel_rfl
theorem zk7 : (Rows.queriesUptoRow.mapsOut == Tryz.prog.mapsAmong Tryz.f5.resultTypes.toList) = true := by kernel_rfl
theorem zk2 : (Rows.queriesUptoRow.loops == (Tryz.f5.params.toList ++ ((Rows.OpenSpec.upto Rows.queriesSpec).bare).plain.varTypes Tryz.prog).any (Tryz.prog.loopsFrom ·)) = true := by kernel_rfl
theorem zlc : (Rows.queriesUptoRow.wideKeys == (Tryz.f5.params.toList ++ ((Rows.OpenSpec.upto Rows.queriesSpec).bare).plain.varTypes Tryz.prog ++ Tryz.f5.resultTypes.toList).any (Tryz.prog.wideKeysFrom ·)) = true := by kernel_rfl
theorem zlh : ((Rows.OpenSpec.upto Rows.queriesSpec).bare).vars.all (Tryz.prog.varReadable ·) = true := by kernel_rfl
theorem zk8 : Tryz.f5.resultTypes.all (fun t => Tryz.prog.readableRec t && decide (t < Tryz.prog.types.size)) = true := by kernel_rfl
theorem zld : (Rows.queriesUptoRow.ifacesOut == Tryz.f5.resultTypes.toList.any (Tryz.prog.ifacesRec ·)) = true := by kernel_rfl
theorem zk5 : (Rows.queriesUptoRow.loopsOut == Tryz.f5.resultTypes.toList.any (Tryz.prog.loopsFrom ·)) = true := by kernel_rfl
theorem zkx : (Rows.queriesUptoRow.plainKeys == Tryz.prog.plainKeys) = true := by kernel_rfl
theorem zlf : Rows.queriesUptoRow.shortTexts.isNone = true := by kernel_rfl
theorem zkw : (Rows.queriesUptoRow.lifted == Tryz.prog.liftsFinal) = true := by kernel_rfl
theorem zky : (Tryz.prog.make == some Rows.queriesUptoRow.make) = true := by kernel_rfl
theorem zli : (Rows.queriesUptoRow.pinned == Rows.queriesUptoRow.pinnedBy) = true := by kernel_rfl
theorem zle : (Rows.queriesUptoRow.veiled == (Tryz.f5.params.toList ++ ((Rows.OpenSpec.upto Rows.queriesSpec).bare).plain.varTypes Tryz.prog ++ Tryz.f5.resultTypes.toList).any (Tryz.prog.veiledRec ·)) = true := by kernel_rfl
theorem zla : Rows.queriesUptoRow.veiledFits Tryz.prog Tryz.f5.params.toList (Tryz.f5.params.toList ++ ((Rows.OpenSpec.upto Rows.queriesSpec).bare).plain.varTypes Tryz.prog ++ Tryz.f5.resultTypes.toList) = true := by kernel_rfl
theorem zlb : Tryz.prog.funcNamed Rows.queriesUptoRow.func = some 5 := by kernel_rfl
set_option maxRecDepth 100000 in
theorem znm : joinedFacts Tryz.prog 5 Tryz.f5 ((Rows.OpenSpec.upto Rows.queriesSpec).bare) Rows.queriesUptoRow = true := by
 unfold joinedFacts
 exact (andI (andI (andI (andI (andI (andI (andI (andI (andI (andI (andI (andI (andI (andI (andI (andI (andI (andI (andI (andI (andI (andI (andI (andI (andI (andI (andI (andI (andI (andI (andI znr fact_laid) fact_rowed) znf) zm0) zno) fact_stops) zm5) fact_knobs) zns) zk3) zk0) zk6) zlj) zk4) zk7) zk2) zlc) zlh) zk8) zld) zk5) zkx) zlf) fact_heard) fact_may) zkw) zky) (by kernel_rfl)) zli) zle) zla)
end
end Go.Proofs.YtldkpahaocjdpaaGreat
