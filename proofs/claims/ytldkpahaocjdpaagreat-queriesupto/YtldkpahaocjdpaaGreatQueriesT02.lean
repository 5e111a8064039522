/-
  What is asked of the program, its functions and types by the statement Queries, and is told by reckoning alone: each row by itself, as all of it together outgrows the memory.
-/
import Derived.Test.YtldkpahaocjdpaaGreatQueriesT01
set_option maxHeartbeats 16000000
namespace Go.Proofs.YtldkpahaocjdpaaGreat
section
open Go
theorem znl : Rows.queriesUptoRow.wf (OpenSpec.ofChange ((Rows.OpenSpec.upto Rows.queriesSpec).bare)) = true := by kernel_rfl
theorem zn3 : Tryz.f5.params.all (Tryz.prog.readableRec ·) = true := by kernel_rfl
theorem znq : namedTie Tryz.prog Rows.queriesUptoRow.named ((Rows.OpenSpec.upto Rows.queriesSpec).bare).vars = true := by kernel_rfl
theorem zmq : (Rows.queriesUptoRow.stops == []) = true := by kernel_rfl
theorem zna : (Rows.queriesUptoRow.knobs == []) = true := by kernel_rfl
theorem zmp : (Rows.queriesUptoRow.inPlace == Tryz.prog.inPlace 5) = true := by kernel_rfl
theorem zkw : (Rows.queriesUptoRow.unfollowed == Tryz.prog.unfollowed 5) = true := by kernel_rfl
theorem zk3 : (Rows.queriesUptoRow.recurses == Tryz.prog.recurses 5) = true := by kernel_rfl
theorem zlj : (Rows.queriesUptoRow.named == Tryz.prog.varsNamed 5) = true := by kernel_rfl
theorem zk1 : (Rows.queriesUptoRow.maps == (Tryz.f5.params.toList ++ ((Rows.OpenSpec.upto Rows.queriesSpec).bare).plain.varTypes Tryz.prog).any (Tryz.prog.mapsRec ·)) = true := by kernel_rfl
theorem zlf : (Rows.queriesUptoRow.ifaces == (Tryz.f5.params.toList ++ ((Rows.OpenSpec.upto Rows.queriesSpec).bare).plain.varTypes Tryz.prog).any (Tryz.prog.ifacesRec ·)) = true := by kernel_rfl
theorem zk0 : (Rows.queriesUptoRow.mapsOut == Tryz.prog.mapsAmong Tryz.f5.resultTypes.toList) = true := by kernel_rfl
theorem zk8 : (Rows.queriesUptoRow.loops == (Tryz.f5.params.toList ++ ((Rows.OpenSpec.upto Rows.queriesSpec).bare).plain.varTypes Tryz.prog).any (Tryz.prog.loopsFrom ·)) = true := by kernel_rfl
theorem zk9 : (Rows.queriesUptoRow.wideKeys == (Tryz.f5.params.toList ++ ((Rows.OpenSpec.upto Rows.queriesSpec).bare).plain.varTypes Tryz.prog ++ Tryz.f5.resultTypes.toList).any (Tryz.prog.wideKeysFrom ·)) = true := by kernel_rfl
theorem zla : ((Rows.OpenSpec.upto Rows.queriesSpec).bare).vars.all (Tryz.prog.varReadable ·) = true := by kernel_rfl
theorem zle : Tryz.f5.resultTypes.all (fun t => Tryz.prog.readableRec t && decide (t < Tryz.prog.types.size)) = true := by kernel_rfl
theorem zkx : (Rows.queriesUptoRow.ifacesOut == Tryz.f5.resultTypes.toList.any (Tryz.prog.ifacesRec ·)) = true := by kernel_rfl
theorem zld : (Rows.queriesUptoRow.loopsOut == Tryz.f5.resultTypes.toList.any (Tryz.prog.loopsFrom ·)) = true := by kernel_rfl
theorem zlg : (Rows.queriesUptoRow.plainKeys == Tryz.prog.plainKeys) = true := by kernel_rfl
theorem zk7 : Rows.queriesUptoRow.shortTexts.isNone = true := by kernel_rfl
theorem zlc : (Rows.queriesUptoRow.lifted == Tryz.prog.liftsFinal) = true := by kernel_rfl
theorem zk2 : (Tryz.prog.make == some Rows.queriesUptoRow.make) = true := by kernel_rfl
theorem zk4 : (Rows.queriesUptoRow.pinned == Rows.queriesUptoRow.pinnedBy) = true := by kernel_rfl
theorem zk6 : (Rows.queriesUptoRow.veiled == (Tryz.f5.params.toList ++ ((Rows.OpenSpec.upto Rows.queriesSpec).bare).plain.varTypes Tryz.prog ++ Tryz.f5.resultTypes.toList).any (Tryz.prog.veiledRec ·)) = true := by kernel_rfl
theorem zlb : Rows.queriesUptoRow.veiledFits Tryz.prog Tryz.f5.params.toList (Tryz.f5.params.toList ++ ((Rows.OpenSpec.upto Rows.queriesSpec).bare).plain.varTypes Tryz.prog ++ Tryz.f5.resultTypes.toList) = true := by kernel_rfl
theorem zky : Tryz.prog.funcNamed Rows.queriesUptoRow.func = some 5 := by kernel_rfl
set_option maxRecDepth 100000 in
theorem znw : joinedFacts Tryz.prog 5 Tryz.f5 ((Rows.OpenSpec.upto Rows.queriesSpec).bare) Rows.queriesUptoRow = true := by
 unfold joinedFacts
 exact (andI (andI (andI (andI (andI (andI (andI (andI (andI (andI (andI (andI (andI (andI (andI (andI (andI (andI (andI (andI (andI (andI (andI (andI (andI (andI (andI (andI (andI (andI (andI znl fact_laid) fact_rowed) zn3) znq) zmq) fact_stops) zna) fact_knobs) zmp) zkw) zk3) zlj) zk1) zlf) zk0) zk8) zk9) zla) zle) zkx) zld) zlg) zk7) fact_heard) fact_may) zlc) zk2) (by kernel_rfl)) zk4) zk6) zlb)
end
end Go.Proofs.YtldkpahaocjdpaaGreat
