/-
  What is asked of the program, its functions and types by the statement Printed, and is told by reckoning alone: each row by itself, as all of it together outgrows the memory.
-/
import Derived.Test.YtldkpahaocjdpaaGreatR01
set_option maxHeartbeats 16000000
set_option maxRecDepth 1000000
namespace Go.Proofs.YtldkpahaocjdpaaGreat
section
open Go
theorem printed_fact0:Rows.printedRow.wf (OpenSpec.ofChange (Rows.printedSpec))=true:=by kernel_rfl
theorem printed_fact3:Tryz.f12.params.all (Tryz.prog.readableRec ·)=true:=by kernel_rfl
theorem printed_fact4:namedTie Tryz.prog Rows.printedRow.named (Rows.printedSpec).vars=true:=by kernel_rfl
theorem printed_fact5:(Rows.printedRow.stops==[])=true:=by kernel_rfl
theorem printed_fact7:(Rows.printedRow.knobs==[])=true:=by kernel_rfl
theorem printed_fact9:(Rows.printedRow.inPlace==Tryz.prog.inPlace 12)=true:=by kernel_rfl
theorem printed_fact10:(Rows.printedRow.unfollowed==Tryz.prog.unfollowed 12)=true:=by kernel_rfl
theorem printed_fact11:(Rows.printedRow.recurses==Tryz.prog.recurses 12)=true:=by kernel_rfl
theorem printed_fact12:(Rows.printedRow.named==Tryz.prog.varsNamed 12)=true:=by kernel_rfl
theorem printed_fact13:(Rows.printedRow.maps==(Tryz.f12.params.toList++(Rows.printedSpec).plain.varTypes Tryz.prog).any (Tryz.prog.mapsRec ·))=true:=by kernel_rfl
theorem printed_fact14:(Rows.printedRow.ifaces==(Tryz.f12.params.toList++(Rows.printedSpec).plain.varTypes Tryz.prog).any (Tryz.prog.ifacesRec ·))=true:=by kernel_rfl
theorem printed_fact15:(Rows.printedRow.mapsOut==Tryz.prog.mapsAmong Tryz.f12.resultTypes.toList)=true:=by kernel_rfl
theorem printed_fact16:(Rows.printedRow.loops==(Tryz.f12.params.toList++(Rows.printedSpec).plain.varTypes Tryz.prog).any (Tryz.prog.loopsFrom ·))=true:=by kernel_rfl
theorem printed_fact17:(Rows.printedRow.wideKeys==(Tryz.f12.params.toList++(Rows.printedSpec).plain.varTypes Tryz.prog++Tryz.f12.resultTypes.toList).any (Tryz.prog.wideKeysFrom ·))=true:=by kernel_rfl
theorem printed_fact18:(Rows.printedSpec).vars.all (Tryz.prog.varReadable ·)=true:=by kernel_rfl
theorem printed_fact19:Tryz.f12.resultTypes.all (λ t=>Tryz.prog.readableRec t&&decide (t<Tryz.prog.types.size))=true:=by kernel_rfl
theorem printed_fact20:(Rows.printedRow.ifacesOut==Tryz.f12.resultTypes.toList.any (Tryz.prog.ifacesRec ·))=true:=by kernel_rfl
theorem printed_fact21:(Rows.printedRow.loopsOut==Tryz.f12.resultTypes.toList.any (Tryz.prog.loopsFrom ·))=true:=by kernel_rfl
theorem printed_fact22:(Rows.printedRow.plainKeys==Tryz.prog.plainKeys)=true:=by kernel_rfl
theorem printed_fact23:Rows.printedRow.shortTexts.isNone=true:=by kernel_rfl
theorem printed_fact26:(Rows.printedRow.lifted==Tryz.prog.liftsFinal)=true:=by kernel_rfl
theorem printed_fact27:(Tryz.prog.make==some Rows.printedRow.make)=true:=by kernel_rfl
theorem printed_fact29:(Rows.printedRow.pinned==Rows.printedRow.pinnedBy)=true:=by kernel_rfl
theorem printed_fact30:(Rows.printedRow.veiled==(Tryz.f12.params.toList++(Rows.printedSpec).plain.varTypes Tryz.prog++Tryz.f12.resultTypes.toList).any (Tryz.prog.veiledRec ·))=true:=by kernel_rfl
theorem printed_fact31:Rows.printedRow.veiledFits Tryz.prog Tryz.f12.params.toList (Tryz.f12.params.toList++(Rows.printedSpec).plain.varTypes Tryz.prog++Tryz.f12.resultTypes.toList)=true:=by kernel_rfl
theorem printed_fnamed:Tryz.prog.funcNamed Rows.printedRow.func=some 12:=by kernel_rfl
theorem printed_facts:joinedFacts Tryz.prog 12 Tryz.f12 (Rows.printedSpec) Rows.printedRow=true:=by
 unfold joinedFacts;exact (andI (andI (andI (andI (andI (andI (andI (andI (andI (andI (andI (andI (andI (andI (andI (andI (andI (andI (andI (andI (andI (andI (andI (andI (andI (andI (andI (andI (andI (andI (andI printed_fact0 fact_laid) fact_rowed) printed_fact3) printed_fact4) printed_fact5) fact_stops) printed_fact7) fact_knobs) printed_fact9) printed_fact10) printed_fact11) printed_fact12) printed_fact13) printed_fact14) printed_fact15) printed_fact16) printed_fact17) printed_fact18) printed_fact19) printed_fact20) printed_fact21) printed_fact22) printed_fact23) fact_heard) fact_may) printed_fact26) printed_fact27) (by kernel_rfl)) printed_fact29) printed_fact30) printed_fact31)
end
end Go.Proofs.YtldkpahaocjdpaaGreat
