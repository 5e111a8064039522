/-
  What is asked of the program, its functions and types by the statement Sound, and is told by reckoning alone: each row by itself, as all of it together outgrows the memory.
-/
import Derived.Test.YtldkpahaocjdpaaGreatS01
set_option maxHeartbeats 16000000
set_option maxRecDepth 1000000
namespace Go.Proofs.YtldkpahaocjdpaaGreat
section
open Go
theorem sound_fact0:Rows.soundRow.wf (OpenSpec.ofChange (Rows.soundSpec))=true:=by kernel_rfl
theorem sound_fact3:Tryz.f14.params.all (Tryz.prog.readableRec ·)=true:=by kernel_rfl
theorem sound_fact4:namedTie Tryz.prog Rows.soundRow.named (Rows.soundSpec).vars=true:=by kernel_rfl
theorem sound_fact5:(Rows.soundRow.stops==[])=true:=by kernel_rfl
theorem sound_fact7:(Rows.soundRow.knobs==[])=true:=by kernel_rfl
theorem sound_fact9:(Rows.soundRow.inPlace==Tryz.prog.inPlace 14)=true:=by kernel_rfl
theorem sound_fact10:(Rows.soundRow.unfollowed==Tryz.prog.unfollowed 14)=true:=by kernel_rfl
theorem sound_fact11:(Rows.soundRow.recurses==Tryz.prog.recurses 14)=true:=by kernel_rfl
theorem sound_fact12:(Rows.soundRow.named==Tryz.prog.varsNamed 14)=true:=by kernel_rfl
theorem sound_fact13:(Rows.soundRow.maps==(Tryz.f14.params.toList++(Rows.soundSpec).plain.varTypes Tryz.prog).any (Tryz.prog.mapsRec ·))=true:=by kernel_rfl
theorem sound_fact14:(Rows.soundRow.ifaces==(Tryz.f14.params.toList++(Rows.soundSpec).plain.varTypes Tryz.prog).any (Tryz.prog.ifacesRec ·))=true:=by kernel_rfl
theorem sound_fact15:(Rows.soundRow.mapsOut==Tryz.prog.mapsAmong Tryz.f14.resultTypes.toList)=true:=by kernel_rfl
theorem sound_fact16:(Rows.soundRow.loops==(Tryz.f14.params.toList++(Rows.soundSpec).plain.varTypes Tryz.prog).any (Tryz.prog.loopsFrom ·))=true:=by kernel_rfl
theorem sound_fact17:(Rows.soundRow.wideKeys==(Tryz.f14.params.toList++(Rows.soundSpec).plain.varTypes Tryz.prog++Tryz.f14.resultTypes.toList).any (Tryz.prog.wideKeysFrom ·))=true:=by kernel_rfl
theorem sound_fact18:(Rows.soundSpec).vars.all (Tryz.prog.varReadable ·)=true:=by kernel_rfl
theorem sound_fact19:Tryz.f14.resultTypes.all (λ t=>Tryz.prog.readableRec t&&decide (t<Tryz.prog.types.size))=true:=by kernel_rfl
theorem sound_fact20:(Rows.soundRow.ifacesOut==Tryz.f14.resultTypes.toList.any (Tryz.prog.ifacesRec ·))=true:=by kernel_rfl
theorem sound_fact21:(Rows.soundRow.loopsOut==Tryz.f14.resultTypes.toList.any (Tryz.prog.loopsFrom ·))=true:=by kernel_rfl
theorem sound_fact22:(Rows.soundRow.plainKeys==Tryz.prog.plainKeys)=true:=by kernel_rfl
theorem sound_fact23:Rows.soundRow.shortTexts.isNone=true:=by kernel_rfl
theorem sound_fact26:(Rows.soundRow.lifted==Tryz.prog.liftsFinal)=true:=by kernel_rfl
theorem sound_fact27:(Tryz.prog.make==some Rows.soundRow.make)=true:=by kernel_rfl
theorem sound_fact29:(Rows.soundRow.pinned==Rows.soundRow.pinnedBy)=true:=by kernel_rfl
theorem sound_fact30:(Rows.soundRow.veiled==(Tryz.f14.params.toList++(Rows.soundSpec).plain.varTypes Tryz.prog++Tryz.f14.resultTypes.toList).any (Tryz.prog.veiledRec ·))=true:=by kernel_rfl
theorem sound_fact31:Rows.soundRow.veiledFits Tryz.prog Tryz.f14.params.toList (Tryz.f14.params.toList++(Rows.soundSpec).plain.varTypes Tryz.prog++Tryz.f14.resultTypes.toList)=true:=by kernel_rfl
theorem sound_fnamed:Tryz.prog.funcNamed Rows.soundRow.func=some 14:=by kernel_rfl
theorem sound_facts:joinedFacts Tryz.prog 14 Tryz.f14 (Rows.soundSpec) Rows.soundRow=true:=by
 unfold joinedFacts;exact (andI (andI (andI (andI (andI (andI (andI (andI (andI (andI (andI (andI (andI (andI (andI (andI (andI (andI (andI (andI (andI (andI (andI (andI (andI (andI (andI (andI (andI (andI (andI sound_fact0 fact_laid) fact_rowed) sound_fact3) sound_fact4) sound_fact5) fact_stops) sound_fact7) fact_knobs) sound_fact9) sound_fact10) sound_fact11) sound_fact12) sound_fact13) sound_fact14) sound_fact15) sound_fact16) sound_fact17) sound_fact18) sound_fact19) sound_fact20) sound_fact21) sound_fact22) sound_fact23) fact_heard) fact_may) sound_fact26) sound_fact27) (by kernel_rfl)) sound_fact29) sound_fact30) sound_fact31)
end
end Go.Proofs.YtldkpahaocjdpaaGreat
