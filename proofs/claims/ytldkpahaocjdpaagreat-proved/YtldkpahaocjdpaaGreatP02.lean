/-
  What is asked of the program, its functions and types by the statement Proved, and is told by reckoning alone: each row by itself, as all of it together outgrows the memory.
-/
import Derived.Test.YtldkpahaocjdpaaGreatP01
set_option maxHeartbeats 16000000
set_option maxRecDepth 1000000
namespace Go.Proofs.YtldkpahaocjdpaaGreat
section
open Go
theorem proved_fact0:Rows.provedRow.wf (OpenSpec.ofChange (Rows.provedSpec))=true:=by kernel_rfl
theorem proved_fact3:Tryz.f13.params.all (Tryz.prog.readableRec ·)=true:=by kernel_rfl
theorem proved_fact4:namedTie Tryz.prog Rows.provedRow.named (Rows.provedSpec).vars=true:=by kernel_rfl
theorem proved_fact5:(Rows.provedRow.stops==[])=true:=by kernel_rfl
theorem proved_fact7:(Rows.provedRow.knobs==[])=true:=by kernel_rfl
theorem proved_fact9:(Rows.provedRow.inPlace==Tryz.prog.inPlace 13)=true:=by kernel_rfl
theorem proved_fact10:(Rows.provedRow.unfollowed==Tryz.prog.unfollowed 13)=true:=by kernel_rfl
theorem proved_fact11:(Rows.provedRow.recurses==Tryz.prog.recurses 13)=true:=by kernel_rfl
theorem proved_fact12:(Rows.provedRow.named==Tryz.prog.varsNamed 13)=true:=by kernel_rfl
theorem proved_fact13:(Rows.provedRow.maps==(Tryz.f13.params.toList++(Rows.provedSpec).plain.varTypes Tryz.prog).any (Tryz.prog.mapsRec ·))=true:=by kernel_rfl
theorem proved_fact14:(Rows.provedRow.ifaces==(Tryz.f13.params.toList++(Rows.provedSpec).plain.varTypes Tryz.prog).any (Tryz.prog.ifacesRec ·))=true:=by kernel_rfl
theorem proved_fact15:(Rows.provedRow.mapsOut==Tryz.prog.mapsAmong Tryz.f13.resultTypes.toList)=true:=by kernel_rfl
theorem proved_fact16:(Rows.provedRow.loops==(Tryz.f13.params.toList++(Rows.provedSpec).plain.varTypes Tryz.prog).any (Tryz.prog.loopsFrom ·))=true:=by kernel_rfl
theorem proved_fact17:(Rows.provedRow.wideKeys==(Tryz.f13.params.toList++(Rows.provedSpec).plain.varTypes Tryz.prog++Tryz.f13.resultTypes.toList).any (Tryz.prog.wideKeysFrom ·))=true:=by kernel_rfl
theorem proved_fact18:(Rows.provedSpec).vars.all (Tryz.prog.varReadable ·)=true:=by kernel_rfl
theorem proved_fact19:Tryz.f13.resultTypes.all (λ t=>Tryz.prog.readableRec t&&decide (t<Tryz.prog.types.size))=true:=by kernel_rfl
theorem proved_fact20:(Rows.provedRow.ifacesOut==Tryz.f13.resultTypes.toList.any (Tryz.prog.ifacesRec ·))=true:=by kernel_rfl
theorem proved_fact21:(Rows.provedRow.loopsOut==Tryz.f13.resultTypes.toList.any (Tryz.prog.loopsFrom ·))=true:=by kernel_rfl
theorem proved_fact22:(Rows.provedRow.plainKeys==Tryz.prog.plainKeys)=true:=by kernel_rfl
theorem proved_fact23:Rows.provedRow.shortTexts.isNone=true:=by kernel_rfl
theorem proved_fact26:(Rows.provedRow.lifted==Tryz.prog.liftsFinal)=true:=by kernel_rfl
theorem proved_fact27:(Tryz.prog.make==some Rows.provedRow.make)=true:=by kernel_rfl
theorem proved_fact29:(Rows.provedRow.pinned==Rows.provedRow.pinnedBy)=true:=by kernel_rfl
theorem proved_fact30:(Rows.provedRow.veiled==(Tryz.f13.params.toList++(Rows.provedSpec).plain.varTypes Tryz.prog++Tryz.f13.resultTypes.toList).any (Tryz.prog.veiledRec ·))=true:=by kernel_rfl
theorem proved_fact31:Rows.provedRow.veiledFits Tryz.prog Tryz.f13.params.toList (Tryz.f13.params.toList++(Rows.provedSpec).plain.varTypes Tryz.prog++Tryz.f13.resultTypes.toList)=true:=by kernel_rfl
theorem proved_fnamed:Tryz.prog.funcNamed Rows.provedRow.func=some 13:=by kernel_rfl
theorem proved_facts:joinedFacts Tryz.prog 13 Tryz.f13 (Rows.provedSpec) Rows.provedRow=true:=by
 unfold joinedFacts;exact (andI (andI (andI (andI (andI (andI (andI (andI (andI (andI (andI (andI (andI (andI (andI (andI (andI (andI (andI (andI (andI (andI (andI (andI (andI (andI (andI (andI (andI (andI (andI proved_fact0 fact_laid) fact_rowed) proved_fact3) proved_fact4) proved_fact5) fact_stops) proved_fact7) fact_knobs) proved_fact9) proved_fact10) proved_fact11) proved_fact12) proved_fact13) proved_fact14) proved_fact15) proved_fact16) proved_fact17) proved_fact18) proved_fact19) proved_fact20) proved_fact21) proved_fact22) proved_fact23) fact_heard) fact_may) proved_fact26) proved_fact27) (by kernel_rfl)) proved_fact29) proved_fact30) proved_fact31)
end
end Go.Proofs.YtldkpahaocjdpaaGreat
