/-
  What is asked of the program, its functions and types by the statement Checks, and is told by reckoning alone: each row by itself, as all of it together outgrows the memory.
-/
import Derived.Test.YtldkpahaocjdpaaGreatC01
set_option maxHeartbeats 16000000
set_option maxRecDepth 1000000
namespace Go.Proofs.YtldkpahaocjdpaaGreat
section
open Go
theorem zo5:Rows.checksUptoRow.wf (OpenSpec.ofChange ((Rows.OpenSpec.upto Rows.checksSpec).bare))=true:=by kernel_rfl
theorem zo6:Tryz.f7.params.all (Tryz.prog.readableRec ·)=true:=by kernel_rfl
theorem zo7:namedTie Tryz.prog Rows.checksUptoRow.named ((Rows.OpenSpec.upto Rows.checksSpec).bare).vars=true:=by kernel_rfl
theorem zo8:(Rows.checksUptoRow.stops==[])=true:=by kernel_rfl
theorem zo9:(Rows.checksUptoRow.knobs==[])=true:=by kernel_rfl
theorem zpa:(Rows.checksUptoRow.inPlace==Tryz.prog.inPlace 7)=true:=by kernel_rfl
theorem zml:(Rows.checksUptoRow.unfollowed==Tryz.prog.unfollowed 7)=true:=by kernel_rfl
theorem zmm:(Rows.checksUptoRow.recurses==Tryz.prog.recurses 7)=true:=by kernel_rfl
theorem zmn:(Rows.checksUptoRow.named==Tryz.prog.varsNamed 7)=true:=by kernel_rfl
theorem zmo:(Rows.checksUptoRow.maps==(Tryz.f7.params.toList++((Rows.OpenSpec.upto Rows.checksSpec).bare).plain.varTypes Tryz.prog).any (Tryz.prog.mapsRec ·))=true:=by kernel_rfl
theorem zmp:(Rows.checksUptoRow.ifaces==(Tryz.f7.params.toList++((Rows.OpenSpec.upto Rows.checksSpec).bare).plain.varTypes Tryz.prog).any (Tryz.prog.ifacesRec ·))=true:=by kernel_rfl
theorem zmq:(Rows.checksUptoRow.mapsOut==Tryz.prog.mapsAmong Tryz.f7.resultTypes.toList)=true:=by kernel_rfl
theorem zmr:(Rows.checksUptoRow.loops==(Tryz.f7.params.toList++((Rows.OpenSpec.upto Rows.checksSpec).bare).plain.varTypes Tryz.prog).any (Tryz.prog.loopsFrom ·))=true:=by kernel_rfl
theorem zms:(Rows.checksUptoRow.wideKeys==(Tryz.f7.params.toList++((Rows.OpenSpec.upto Rows.checksSpec).bare).plain.varTypes Tryz.prog++Tryz.f7.resultTypes.toList).any (Tryz.prog.wideKeysFrom ·))=true:=by kernel_rfl
theorem zmt:((Rows.OpenSpec.upto Rows.checksSpec).bare).vars.all (Tryz.prog.varReadable ·)=true:=by kernel_rfl
theorem zmu:Tryz.f7.resultTypes.all (λ t=>Tryz.prog.readableRec t&&decide (t<Tryz.prog.types.size))=true:=by kernel_rfl
theorem zmv:(Rows.checksUptoRow.ifacesOut==Tryz.f7.resultTypes.toList.any (Tryz.prog.ifacesRec ·))=true:=by kernel_rfl
theorem zmw:(Rows.checksUptoRow.loopsOut==Tryz.f7.resultTypes.toList.any (Tryz.prog.loopsFrom ·))=true:=by kernel_rfl
theorem zmx:(Rows.checksUptoRow.plainKeys==Tryz.prog.plainKeys)=true:=by kernel_rfl
theorem zmy:Rows.checksUptoRow.shortTexts.isNone=true:=by kernel_rfl
theorem zmz:(Rows.checksUptoRow.lifted==Tryz.prog.liftsFinal)=true:=by kernel_rfl
theorem zm0:(Tryz.prog.make==some Rows.checksUptoRow.make)=true:=by kernel_rfl
theorem zm1:(Rows.checksUptoRow.pinned==Rows.checksUptoRow.pinnedBy)=true:=by kernel_rfl
theorem zm2:(Rows.checksUptoRow.veiled==(Tryz.f7.params.toList++((Rows.OpenSpec.upto Rows.checksSpec).bare).plain.varTypes Tryz.prog++Tryz.f7.resultTypes.toList).any (Tryz.prog.veiledRec ·))=true:=by kernel_rfl
theorem zm3:Rows.checksUptoRow.veiledFits Tryz.prog Tryz.f7.params.toList (Tryz.f7.params.toList++((Rows.OpenSpec.upto Rows.checksSpec).bare).plain.varTypes Tryz.prog++Tryz.f7.resultTypes.toList)=true:=by kernel_rfl
theorem zm4:Tryz.prog.funcNamed Rows.checksUptoRow.func=some 7:=by kernel_rfl
theorem zpb:joinedFacts Tryz.prog 7 Tryz.f7 ((Rows.OpenSpec.upto Rows.checksSpec).bare) Rows.checksUptoRow=true:=by
 unfold joinedFacts;exact (zft (zft (zft (zft (zft (zft (zft (zft (zft (zft (zft (zft (zft (zft (zft (zft (zft (zft (zft (zft (zft (zft (zft (zft (zft (zft (zft (zft (zft (zft (zft zo5 zy0) zvp) zo6) zo7) zo8) zvq) zo9) zvo) zpa) zml) zmm) zmn) zmo) zmp) zmq) zmr) zms) zmt) zmu) zmv) zmw) zmx) zmy) zvn) z3j) zmz) zm0) (by kernel_rfl)) zm1) zm2) zm3)
end
end Go.Proofs.YtldkpahaocjdpaaGreat
