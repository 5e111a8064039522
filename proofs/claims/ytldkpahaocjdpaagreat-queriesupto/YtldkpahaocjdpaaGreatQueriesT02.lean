/-
  What is asked of the program, its functions and types by the statement Queries, and is told by reckoning alone: each row by itself, as all of it together outgrows the memory.
-/
import Derived.Test.YtldkpahaocjdpaaGreatQueriesT01
set_option maxHeartbeats 16000000
namespace Go.Proofs.YtldkpahaocjdpaaGreat
section
open Go
theorem zno : Rows.queriesUptoRow.wf (OpenSpec.ofChange ((Rows.OpenSpec.upto Rows.queriesSpec).bare)) = true := by kernel_rfl
theorem znq : Tryz.f5.params.all (Tryz.prog.readableRec ·) = true := by kernel_rfl
theorem zne : namedTie Tryz.prog Rows.queriesUptoRow.named ((Rows.OpenSpec.upto Rows.queriesSpec).bare).vars = true := by kernel_rfl
theorem zmq : (Rows.queriesUptoRow.stops == []) = true := by kernel_rfl
theorem znd : (Rows.queriesUptoRow.knobs == []) = true := by kernel_rfl
theorem znf : (Rows.queriesUptoRow.inPlace == Tryz.prog.inPlace 5) = true := by kernel_rfl
theorem zla : (Rows.queriesUptoRow.unfollowed == Tryz.prog.unfollowed 5) = true := by kernel_rfl
theorem zlc : (Rows.queriesUptoRow.recurses == Tryz.prog.recurses 5) = true := by kernel_rfl
theorem zk2 : (Rows.queriesUptoRow.named == Tryz.prog.varsNamed 5) = true := by kernel_rfl
theorem zky : (Rows.queriesUptoRow.maps == (Tryz.f5.params.toList ++ ((Rows.OpenSpec.upto Rows.queriesSpec).bare).plain.varTypes Tryz.prog).any (Tryz.prog.mapsRec ·)) = true := by kernel_rfl
theorem zk9 : (Rows.queriesUptoRow.ifaces == (Tryz.f5.params.toList ++ ((Rows.OpenSpec.upto Rows.queriesSpec).bare).plain.varTypes Tryz.prog).any (Tryz.prog.ifacesRec ·)) = true := by kernel_rfl
theorem zk7 : (Rows.queriesUptoRow.mapsOut == Tryz.prog.mapsAmong Tryz.f5.resultTypes.toList) = true := by kernel_rfl
theorem zlj : (Rows.queriesUptoRow.loops == (Tryz.f5.params.toList ++ ((Rows.OpenSpec.upto Rows.queriesSpec).bare).plain.varTypes Tryz.prog).any (Tryz.prog.loopsFrom ·)) = true := by kernel_rfl
theorem zk5 : (Rows.queriesUptoRow.wideKeys == (Tryz.f5.params.toList ++ ((Rows.OpenSpec.upto Rows.queriesSpec).bare).plain.varTypes Tryz.prog ++ Tryz.f5.resultTypes.toList).any (Tryz.prog.wideKeysFrom ·)) = true := by kernel_rfl
theorem zk6 : ((Rows.OpenSpec.upto Rows.queriesSpec).bare).vars.all (Tryz.prog.varReadable ·) = true := by kernel_rfl
theorem zli : Tryz.f5.resultTypes.all (fun t => Tryz.prog.readableRec t && decide (t < Tryz.prog.types.size)) = true := by kernel_rfl
theorem zlf : (Rows.queriesUptoRow.ifacesOut == Tryz.f5.resultTypes.toList.any (Tryz.prog.ifacesRec ·)) = true := by kernel_rfl
theorem zlg : (Rows.queriesUptoRow.loopsOut == Tryz.f5.resultTypes.toList.any (Tryz.prog.loopsFrom ·)) = true := by kernel_rfl
theorem zkx : (Rows.queriesUptoRow.plainKeys == Tryz.prog.plainKeys) = true := by kernel_rfl
theorem zld : Rows.queriesUptoRow.shortTexts.isNone = true := by kernel_rfl
theorem zk0 : (Rows.queriesUptoRow.lifted == Tryz.prog.liftsFinal) = true := by kernel_rfl
theorem zlh : (Tryz.prog.make == some Rows.queriesUptoRow.make) = true := by kernel_rfl
theorem zle : (Rows.queriesUptoRow.pinned == Rows.queriesUptoRow.pinnedBy) = true := by kernel_rfl
theorem zk1 : (Rows.queriesUptoRow.veiled == (Tryz.f5.params.toList ++ ((Rows.OpenSpec.upto Rows.queriesSpec).bare).plain.varTypes Tryz.prog ++ Tryz.f5.resultTypes.toList).any (Tryz.prog.veiledRec ·)) = true := by kernel_rfl
theorem zk3 : Rows.queriesUptoRow.veiledFits Tryz.prog Tryz.f5.params.toList (Tryz.f5.params.toList ++ ((Rows.OpenSpec.upto Rows.queriesSpec).bare).plain.varTypes Tryz.prog ++ Tryz.f5.resultTypes.toList) = true := by kernel_rfl
theorem zlb : Tryz.prog.funcNamed Rows.queriesUptoRow.func = some 5 := by kernel_rfl
set_option maxRecDepth 100000 in
theorem znp : joinedFacts Tryz.prog 5 Tryz.f5 ((Rows.OpenSpec.upto Rows.queriesSpec).bare) Rows.queriesUptoRow = true := by
 unfold joinedFacts
 exact (andI (andI (andI (andI (andI (andI (andI (andI (andI (andI (andI (andI (andI (andI (andI (andI (andI (andI (andI (andI (andI (andI (andI (andI (andI (andI (andI (andI (andI (andI (andI zno fact_laid) fact_rowed) znq) zne) zmq) fact_stops) znd) fact_knobs) znf) zla) zlc) zk2) zky) zk9) zk7) zlj) zk5) zk6) zli) zlf) zlg) zkx) zld) fact_heard) fact_may) zk0) zlh) (by kernel_rfl)) zle) zk1) zk3)
end
end Go.Proofs.YtldkpahaocjdpaaGreat
