/-
  What is asked of the program, its functions and types by the statement Ordered, and is told by reckoning alone: each row by itself, as all of it together outgrows the memory.
-/
import Derived.Test.YtldkpahaocjdpaaGreatO01
set_option maxHeartbeats 16000000
set_option maxRecDepth 1000000
namespace Go.Proofs.YtldkpahaocjdpaaGreat
section
open Go
theorem ordered_fact0:Rows.orderedRow.wf (OpenSpec.ofChange (Rows.orderedSpec))=true:=by kernel_rfl
theorem ordered_fact3:Tryz.f10.params.all (Tryz.prog.readableRec ·)=true:=by kernel_rfl
theorem ordered_fact4:namedTie Tryz.prog Rows.orderedRow.named (Rows.orderedSpec).vars=true:=by kernel_rfl
theorem ordered_fact5:(Rows.orderedRow.stops==[])=true:=by kernel_rfl
theorem ordered_fact7:(Rows.orderedRow.knobs==[])=true:=by kernel_rfl
theorem ordered_fact9:(Rows.orderedRow.inPlace==Tryz.prog.inPlace 10)=true:=by kernel_rfl
theorem ordered_fact10:(Rows.orderedRow.unfollowed==Tryz.prog.unfollowed 10)=true:=by kernel_rfl
theorem ordered_fact11:(Rows.orderedRow.recurses==Tryz.prog.recurses 10)=true:=by kernel_rfl
theorem ordered_fact12:(Rows.orderedRow.named==Tryz.prog.varsNamed 10)=true:=by kernel_rfl
theorem ordered_fact13:(Rows.orderedRow.maps==(Tryz.f10.params.toList++(Rows.orderedSpec).plain.varTypes Tryz.prog).any (Tryz.prog.mapsRec ·))=true:=by kernel_rfl
theorem ordered_fact14:(Rows.orderedRow.ifaces==(Tryz.f10.params.toList++(Rows.orderedSpec).plain.varTypes Tryz.prog).any (Tryz.prog.ifacesRec ·))=true:=by kernel_rfl
theorem ordered_fact15:(Rows.orderedRow.mapsOut==Tryz.prog.mapsAmong Tryz.f10.resultTypes.toList)=true:=by kernel_rfl
theorem ordered_fact16:(Rows.orderedRow.loops==(Tryz.f10.params.toList++(Rows.orderedSpec).plain.varTypes Tryz.prog).any (Tryz.prog.loopsFrom ·))=true:=by kernel_rfl
theorem ordered_fact17:(Rows.orderedRow.wideKeys==(Tryz.f10.params.toList++(Rows.orderedSpec).plain.varTypes Tryz.prog++Tryz.f10.resultTypes.toList).any (Tryz.prog.wideKeysFrom ·))=true:=by kernel_rfl
theorem ordered_fact18:(Rows.orderedSpec).vars.all (Tryz.prog.varReadable ·)=true:=by kernel_rfl
theorem ordered_fact19:Tryz.f10.resultTypes.all (λ t=>Tryz.prog.readableRec t&&decide (t<Tryz.prog.types.size))=true:=by kernel_rfl
theorem ordered_fact20:(Rows.orderedRow.ifacesOut==Tryz.f10.resultTypes.toList.any (Tryz.prog.ifacesRec ·))=true:=by kernel_rfl
theorem ordered_fact21:(Rows.orderedRow.loopsOut==Tryz.f10.resultTypes.toList.any (Tryz.prog.loopsFrom ·))=true:=by kernel_rfl
theorem ordered_fact22:(Rows.orderedRow.plainKeys==Tryz.prog.plainKeys)=true:=by kernel_rfl
theorem ordered_fact23:Rows.orderedRow.shortTexts.isNone=true:=by kernel_rfl
theorem ordered_fact26:(Rows.orderedRow.lifted==Tryz.prog.liftsFinal)=true:=by kernel_rfl
theorem ordered_fact27:(Tryz.prog.make==some Rows.orderedRow.make)=true:=by kernel_rfl
theorem ordered_fact29:(Rows.orderedRow.pinned==Rows.orderedRow.pinnedBy)=true:=by kernel_rfl
theorem ordered_fact30:(Rows.orderedRow.veiled==(Tryz.f10.params.toList++(Rows.orderedSpec).plain.varTypes Tryz.prog++Tryz.f10.resultTypes.toList).any (Tryz.prog.veiledRec ·))=true:=by kernel_rfl
theorem ordered_fact31:Rows.orderedRow.veiledFits Tryz.prog Tryz.f10.params.toList (Tryz.f10.params.toList++(Rows.orderedSpec).plain.varTypes Tryz.prog++Tryz.f10.resultTypes.toList)=true:=by kernel_rfl
theorem ordered_fnamed:Tryz.prog.funcNamed Rows.orderedRow.func=some 10:=by kernel_rfl
theorem ordered_facts:joinedFacts Tryz.prog 10 Tryz.f10 (Rows.orderedSpec) Rows.orderedRow=true:=by
 unfold joinedFacts;exact (andI (andI (andI (andI (andI (andI (andI (andI (andI (andI (andI (andI (andI (andI (andI (andI (andI (andI (andI (andI (andI (andI (andI (andI (andI (andI (andI (andI (andI (andI (andI ordered_fact0 fact_laid) fact_rowed) ordered_fact3) ordered_fact4) ordered_fact5) fact_stops) ordered_fact7) fact_knobs) ordered_fact9) ordered_fact10) ordered_fact11) ordered_fact12) ordered_fact13) ordered_fact14) ordered_fact15) ordered_fact16) ordered_fact17) ordered_fact18) ordered_fact19) ordered_fact20) ordered_fact21) ordered_fact22) ordered_fact23) fact_heard) fact_may) ordered_fact26) ordered_fact27) (by kernel_rfl)) ordered_fact29) ordered_fact30) ordered_fact31)
end
end Go.Proofs.YtldkpahaocjdpaaGreat
