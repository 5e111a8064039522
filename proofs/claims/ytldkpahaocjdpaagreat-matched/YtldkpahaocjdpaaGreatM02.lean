/-
  What is asked of the program, its functions and types by the statement Matched, and is told by reckoning alone: each row by itself, as all of it together outgrows the memory.
-/
import Derived.Test.YtldkpahaocjdpaaGreatM01
set_option maxHeartbeats 16000000
set_option maxRecDepth 1000000
namespace Go.Proofs.YtldkpahaocjdpaaGreat
section
open Go
theorem zo7:Rows.matchedRow.wf (OpenSpec.ofChange (Rows.matchedSpec))=true:=by kernel_rfl
theorem zo8:Tryz.f11.params.all (Tryz.prog.readableRec ·)=true:=by kernel_rfl
theorem zo9:namedTie Tryz.prog Rows.matchedRow.named (Rows.matchedSpec).vars=true:=by kernel_rfl
theorem zpa:(Rows.matchedRow.stops==[])=true:=by kernel_rfl
theorem zpb:(Rows.matchedRow.knobs==[])=true:=by kernel_rfl
theorem zpc:(Rows.matchedRow.inPlace==Tryz.prog.inPlace 11)=true:=by kernel_rfl
theorem zmk:(Rows.matchedRow.unfollowed==Tryz.prog.unfollowed 11)=true:=by kernel_rfl
theorem zml:(Rows.matchedRow.recurses==Tryz.prog.recurses 11)=true:=by kernel_rfl
theorem zmm:(Rows.matchedRow.named==Tryz.prog.varsNamed 11)=true:=by kernel_rfl
theorem zmn:(Rows.matchedRow.maps==(Tryz.f11.params.toList++(Rows.matchedSpec).plain.varTypes Tryz.prog).any (Tryz.prog.mapsRec ·))=true:=by kernel_rfl
theorem zmo:(Rows.matchedRow.ifaces==(Tryz.f11.params.toList++(Rows.matchedSpec).plain.varTypes Tryz.prog).any (Tryz.prog.ifacesRec ·))=true:=by kernel_rfl
theorem zmp:(Rows.matchedRow.mapsOut==Tryz.prog.mapsAmong Tryz.f11.resultTypes.toList)=true:=by kernel_rfl
theorem zmq:(Rows.matchedRow.loops==(Tryz.f11.params.toList++(Rows.matchedSpec).plain.varTypes Tryz.prog).any (Tryz.prog.loopsFrom ·))=true:=by kernel_rfl
theorem zmr:(Rows.matchedRow.wideKeys==(Tryz.f11.params.toList++(Rows.matchedSpec).plain.varTypes Tryz.prog++Tryz.f11.resultTypes.toList).any (Tryz.prog.wideKeysFrom ·))=true:=by kernel_rfl
theorem zms:(Rows.matchedSpec).vars.all (Tryz.prog.varReadable ·)=true:=by kernel_rfl
theorem zmt:Tryz.f11.resultTypes.all (λ t=>Tryz.prog.readableRec t&&decide (t<Tryz.prog.types.size))=true:=by kernel_rfl
theorem zmu:(Rows.matchedRow.ifacesOut==Tryz.f11.resultTypes.toList.any (Tryz.prog.ifacesRec ·))=true:=by kernel_rfl
theorem zmv:(Rows.matchedRow.loopsOut==Tryz.f11.resultTypes.toList.any (Tryz.prog.loopsFrom ·))=true:=by kernel_rfl
theorem zmw:(Rows.matchedRow.plainKeys==Tryz.prog.plainKeys)=true:=by kernel_rfl
theorem zmx:Rows.matchedRow.shortTexts.isNone=true:=by kernel_rfl
theorem zmy:(Rows.matchedRow.lifted==Tryz.prog.liftsFinal)=true:=by kernel_rfl
theorem zmz:(Tryz.prog.make==some Rows.matchedRow.make)=true:=by kernel_rfl
theorem zm0:(Rows.matchedRow.pinned==Rows.matchedRow.pinnedBy)=true:=by kernel_rfl
theorem zm1:(Rows.matchedRow.veiled==(Tryz.f11.params.toList++(Rows.matchedSpec).plain.varTypes Tryz.prog++Tryz.f11.resultTypes.toList).any (Tryz.prog.veiledRec ·))=true:=by kernel_rfl
theorem zm2:Rows.matchedRow.veiledFits Tryz.prog Tryz.f11.params.toList (Tryz.f11.params.toList++(Rows.matchedSpec).plain.varTypes Tryz.prog++Tryz.f11.resultTypes.toList)=true:=by kernel_rfl
theorem zm3:Tryz.prog.funcNamed Rows.matchedRow.func=some 11:=by kernel_rfl
theorem zpd:joinedFacts Tryz.prog 11 Tryz.f11 (Rows.matchedSpec) Rows.matchedRow=true:=by
 unfold joinedFacts;exact (zgb (zgb (zgb (zgb (zgb (zgb (zgb (zgb (zgb (zgb (zgb (zgb (zgb (zgb (zgb (zgb (zgb (zgb (zgb (zgb (zgb (zgb (zgb (zgb (zgb (zgb (zgb (zgb (zgb (zgb (zgb zo7 zz9) zw6) zo8) zo9) zpa) zw7) zpb) zw5) zpc) zmk) zml) zmm) zmn) zmo) zmp) zmq) zmr) zms) zmt) zmu) zmv) zmw) zmx) zw4) z4x) zmy) zmz) (by kernel_rfl)) zm0) zm1) zm2)
end
end Go.Proofs.YtldkpahaocjdpaaGreat
