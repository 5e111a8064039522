/-
  What is asked of the program, its functions and types by the statement Explains, and is told by reckoning alone: each row by itself, as all of it together outgrows the memory.
-/
import Derived.Test.YtldkpahaocjdpaaGreatE01
set_option maxHeartbeats 16000000
set_option maxRecDepth 1000000
namespace Go.Proofs.YtldkpahaocjdpaaGreat
section
open Go
theorem znh:Rows.explainsUptoRow.wf (OpenSpec.ofChange ((Rows.OpenSpec.upto Rows.explainsSpec).bare))=true:=by kernel_rfl
theorem znj:Tryz.f6.params.all (Tryz.prog.readableRec ·)=true:=by kernel_rfl
theorem zni:namedTie Tryz.prog Rows.explainsUptoRow.named ((Rows.OpenSpec.upto Rows.explainsSpec).bare).vars=true:=by kernel_rfl
theorem znm:(Rows.explainsUptoRow.stops==[])=true:=by kernel_rfl
theorem znk:(Rows.explainsUptoRow.knobs==[])=true:=by kernel_rfl
theorem zno:(Rows.explainsUptoRow.inPlace==Tryz.prog.inPlace 6)=true:=by kernel_rfl
theorem zmu:(Rows.explainsUptoRow.unfollowed==Tryz.prog.unfollowed 6)=true:=by kernel_rfl
theorem zmg:(Rows.explainsUptoRow.recurses==Tryz.prog.recurses 6)=true:=by kernel_rfl
theorem zk7:(Rows.explainsUptoRow.named==Tryz.prog.varsNamed 6)=true:=by kernel_rfl
theorem zky:(Rows.explainsUptoRow.maps==(Tryz.f6.params.toList++((Rows.OpenSpec.upto Rows.explainsSpec).bare).plain.varTypes Tryz.prog).any (Tryz.prog.mapsRec ·))=true:=by kernel_rfl
theorem zm3:(Rows.explainsUptoRow.ifaces==(Tryz.f6.params.toList++((Rows.OpenSpec.upto Rows.explainsSpec).bare).plain.varTypes Tryz.prog).any (Tryz.prog.ifacesRec ·))=true:=by kernel_rfl
theorem zl2:(Rows.explainsUptoRow.mapsOut==Tryz.prog.mapsAmong Tryz.f6.resultTypes.toList)=true:=by kernel_rfl
theorem zms:(Rows.explainsUptoRow.loops==(Tryz.f6.params.toList++((Rows.OpenSpec.upto Rows.explainsSpec).bare).plain.varTypes Tryz.prog).any (Tryz.prog.loopsFrom ·))=true:=by kernel_rfl
theorem zlp:(Rows.explainsUptoRow.wideKeys==(Tryz.f6.params.toList++((Rows.OpenSpec.upto Rows.explainsSpec).bare).plain.varTypes Tryz.prog++Tryz.f6.resultTypes.toList).any (Tryz.prog.wideKeysFrom ·))=true:=by kernel_rfl
theorem zmb:((Rows.OpenSpec.upto Rows.explainsSpec).bare).vars.all (Tryz.prog.varReadable ·)=true:=by kernel_rfl
theorem zm5:Tryz.f6.resultTypes.all (λ t=>Tryz.prog.readableRec t&&decide (t<Tryz.prog.types.size))=true:=by kernel_rfl
theorem zlr:(Rows.explainsUptoRow.ifacesOut==Tryz.f6.resultTypes.toList.any (Tryz.prog.ifacesRec ·))=true:=by kernel_rfl
theorem zl5:(Rows.explainsUptoRow.loopsOut==Tryz.f6.resultTypes.toList.any (Tryz.prog.loopsFrom ·))=true:=by kernel_rfl
theorem zkr:(Rows.explainsUptoRow.plainKeys==Tryz.prog.plainKeys)=true:=by kernel_rfl
theorem zl7:Rows.explainsUptoRow.shortTexts.isNone=true:=by kernel_rfl
theorem zma:(Rows.explainsUptoRow.lifted==Tryz.prog.liftsFinal)=true:=by kernel_rfl
theorem zk6:(Tryz.prog.make==some Rows.explainsUptoRow.make)=true:=by kernel_rfl
theorem zl1:(Rows.explainsUptoRow.pinned==Rows.explainsUptoRow.pinnedBy)=true:=by kernel_rfl
theorem zld:(Rows.explainsUptoRow.veiled==(Tryz.f6.params.toList++((Rows.OpenSpec.upto Rows.explainsSpec).bare).plain.varTypes Tryz.prog++Tryz.f6.resultTypes.toList).any (Tryz.prog.veiledRec ·))=true:=by kernel_rfl
theorem zl0:Rows.explainsUptoRow.veiledFits Tryz.prog Tryz.f6.params.toList (Tryz.f6.params.toList++((Rows.OpenSpec.upto Rows.explainsSpec).bare).plain.varTypes Tryz.prog++Tryz.f6.resultTypes.toList)=true:=by kernel_rfl
theorem zkx:Tryz.prog.funcNamed Rows.explainsUptoRow.func=some 6:=by kernel_rfl
theorem znl:joinedFacts Tryz.prog 6 Tryz.f6 ((Rows.OpenSpec.upto Rows.explainsSpec).bare) Rows.explainsUptoRow=true:=by
 unfold joinedFacts;exact (zhi (zhi (zhi (zhi (zhi (zhi (zhi (zhi (zhi (zhi (zhi (zhi (zhi (zhi (zhi (zhi (zhi (zhi (zhi (zhi (zhi (zhi (zhi (zhi (zhi (zhi (zhi (zhi (zhi (zhi (zhi znh z1y) zys) znj) zni) znm) zyd) znk) zx7) zno) zmu) zmg) zk7) zky) zm3) zl2) zms) zlp) zmb) zm5) zlr) zl5) zkr) zl7) zxt) z68) zma) zk6) (by kernel_rfl)) zl1) zld) zl0)
end
end Go.Proofs.YtldkpahaocjdpaaGreat
