/-
  What is asked of the program, its functions and types by the statement Explains, and is told by reckoning alone: each row by itself, as all of it together outgrows the memory.
-/
import Derived.Test.YtldkpahaocjdpaaGreatE01
set_option maxHeartbeats 16000000
set_option maxRecDepth 1000000
namespace Go.Proofs.YtldkpahaocjdpaaGreat
section
open Go
theorem zne:Rows.explainsUptoRow.wf (OpenSpec.ofChange ((Rows.OpenSpec.upto Rows.explainsSpec).bare))=true:=by kernel_rfl
theorem znf:Tryz.f6.params.all (Tryz.prog.readableRec ·)=true:=by kernel_rfl
theorem zng:namedTie Tryz.prog Rows.explainsUptoRow.named ((Rows.OpenSpec.upto Rows.explainsSpec).bare).vars=true:=by kernel_rfl
theorem znh:(Rows.explainsUptoRow.stops==[])=true:=by kernel_rfl
theorem zni:(Rows.explainsUptoRow.knobs==[])=true:=by kernel_rfl
theorem znj:(Rows.explainsUptoRow.inPlace==Tryz.prog.inPlace 6)=true:=by kernel_rfl
theorem zla:(Rows.explainsUptoRow.unfollowed==Tryz.prog.unfollowed 6)=true:=by kernel_rfl
theorem zlb:(Rows.explainsUptoRow.recurses==Tryz.prog.recurses 6)=true:=by kernel_rfl
theorem zlc:(Rows.explainsUptoRow.named==Tryz.prog.varsNamed 6)=true:=by kernel_rfl
theorem zld:(Rows.explainsUptoRow.maps==(Tryz.f6.params.toList++((Rows.OpenSpec.upto Rows.explainsSpec).bare).plain.varTypes Tryz.prog).any (Tryz.prog.mapsRec ·))=true:=by kernel_rfl
theorem zle:(Rows.explainsUptoRow.ifaces==(Tryz.f6.params.toList++((Rows.OpenSpec.upto Rows.explainsSpec).bare).plain.varTypes Tryz.prog).any (Tryz.prog.ifacesRec ·))=true:=by kernel_rfl
theorem zlf:(Rows.explainsUptoRow.mapsOut==Tryz.prog.mapsAmong Tryz.f6.resultTypes.toList)=true:=by kernel_rfl
theorem zlg:(Rows.explainsUptoRow.loops==(Tryz.f6.params.toList++((Rows.OpenSpec.upto Rows.explainsSpec).bare).plain.varTypes Tryz.prog).any (Tryz.prog.loopsFrom ·))=true:=by kernel_rfl
theorem zlh:(Rows.explainsUptoRow.wideKeys==(Tryz.f6.params.toList++((Rows.OpenSpec.upto Rows.explainsSpec).bare).plain.varTypes Tryz.prog++Tryz.f6.resultTypes.toList).any (Tryz.prog.wideKeysFrom ·))=true:=by kernel_rfl
theorem zli:((Rows.OpenSpec.upto Rows.explainsSpec).bare).vars.all (Tryz.prog.varReadable ·)=true:=by kernel_rfl
theorem zlj:Tryz.f6.resultTypes.all (λ t=>Tryz.prog.readableRec t&&decide (t<Tryz.prog.types.size))=true:=by kernel_rfl
theorem zlk:(Rows.explainsUptoRow.ifacesOut==Tryz.f6.resultTypes.toList.any (Tryz.prog.ifacesRec ·))=true:=by kernel_rfl
theorem zll:(Rows.explainsUptoRow.loopsOut==Tryz.f6.resultTypes.toList.any (Tryz.prog.loopsFrom ·))=true:=by kernel_rfl
theorem zlm:(Rows.explainsUptoRow.plainKeys==Tryz.prog.plainKeys)=true:=by kernel_rfl
theorem zln:Rows.explainsUptoRow.shortTexts.isNone=true:=by kernel_rfl
theorem zlo:(Rows.explainsUptoRow.lifted==Tryz.prog.liftsFinal)=true:=by kernel_rfl
theorem zlp:(Tryz.prog.make==some Rows.explainsUptoRow.make)=true:=by kernel_rfl
theorem zlq:(Rows.explainsUptoRow.pinned==Rows.explainsUptoRow.pinnedBy)=true:=by kernel_rfl
theorem zlr:(Rows.explainsUptoRow.veiled==(Tryz.f6.params.toList++((Rows.OpenSpec.upto Rows.explainsSpec).bare).plain.varTypes Tryz.prog++Tryz.f6.resultTypes.toList).any (Tryz.prog.veiledRec ·))=true:=by kernel_rfl
theorem zls:Rows.explainsUptoRow.veiledFits Tryz.prog Tryz.f6.params.toList (Tryz.f6.params.toList++((Rows.OpenSpec.upto Rows.explainsSpec).bare).plain.varTypes Tryz.prog++Tryz.f6.resultTypes.toList)=true:=by kernel_rfl
theorem zlt:Tryz.prog.funcNamed Rows.explainsUptoRow.func=some 6:=by kernel_rfl
theorem znk:joinedFacts Tryz.prog 6 Tryz.f6 ((Rows.OpenSpec.upto Rows.explainsSpec).bare) Rows.explainsUptoRow=true:=by
 unfold joinedFacts;exact (zg5 (zg5 (zg5 (zg5 (zg5 (zg5 (zg5 (zg5 (zg5 (zg5 (zg5 (zg5 (zg5 (zg5 (zg5 (zg5 (zg5 (zg5 (zg5 (zg5 (zg5 (zg5 (zg5 (zg5 (zg5 (zg5 (zg5 (zg5 (zg5 (zg5 (zg5 zne z18) zyg) znf) zng) znh) zyh) zni) zyf) znj) zla) zlb) zlc) zld) zle) zlf) zlg) zlh) zli) zlj) zlk) zll) zlm) zln) zye) z62) zlo) zlp) (by kernel_rfl)) zlq) zlr) zls)
end
end Go.Proofs.YtldkpahaocjdpaaGreat
