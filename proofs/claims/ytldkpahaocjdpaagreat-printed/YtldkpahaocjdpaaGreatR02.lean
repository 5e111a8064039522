/-
  What is asked of the program, its functions and types by the statement Printed, and is told by reckoning alone: each row by itself, as all of it together outgrows the memory.
-/
import Derived.Test.YtldkpahaocjdpaaGreatR01
set_option maxHeartbeats 16000000
set_option maxRecDepth 1000000
namespace Go.Proofs.YtldkpahaocjdpaaGreat
section
open Go
theorem zq5:Rows.printedRow.wf (OpenSpec.ofChange (Rows.printedSpec))=true:=by kernel_rfl
theorem zq6:Tryz.f12.params.all (Tryz.prog.readableRec ·)=true:=by kernel_rfl
theorem zq7:namedTie Tryz.prog Rows.printedRow.named (Rows.printedSpec).vars=true:=by kernel_rfl
theorem zq8:(Rows.printedRow.stops==[])=true:=by kernel_rfl
theorem zq9:(Rows.printedRow.knobs==[])=true:=by kernel_rfl
theorem zra:(Rows.printedRow.inPlace==Tryz.prog.inPlace 12)=true:=by kernel_rfl
theorem znt:(Rows.printedRow.unfollowed==Tryz.prog.unfollowed 12)=true:=by kernel_rfl
theorem znu:(Rows.printedRow.recurses==Tryz.prog.recurses 12)=true:=by kernel_rfl
theorem znv:(Rows.printedRow.named==Tryz.prog.varsNamed 12)=true:=by kernel_rfl
theorem znw:(Rows.printedRow.maps==(Tryz.f12.params.toList++(Rows.printedSpec).plain.varTypes Tryz.prog).any (Tryz.prog.mapsRec ·))=true:=by kernel_rfl
theorem znx:(Rows.printedRow.ifaces==(Tryz.f12.params.toList++(Rows.printedSpec).plain.varTypes Tryz.prog).any (Tryz.prog.ifacesRec ·))=true:=by kernel_rfl
theorem zny:(Rows.printedRow.mapsOut==Tryz.prog.mapsAmong Tryz.f12.resultTypes.toList)=true:=by kernel_rfl
theorem znz:(Rows.printedRow.loops==(Tryz.f12.params.toList++(Rows.printedSpec).plain.varTypes Tryz.prog).any (Tryz.prog.loopsFrom ·))=true:=by kernel_rfl
theorem zn0:(Rows.printedRow.wideKeys==(Tryz.f12.params.toList++(Rows.printedSpec).plain.varTypes Tryz.prog++Tryz.f12.resultTypes.toList).any (Tryz.prog.wideKeysFrom ·))=true:=by kernel_rfl
theorem zn1:(Rows.printedSpec).vars.all (Tryz.prog.varReadable ·)=true:=by kernel_rfl
theorem zn2:Tryz.f12.resultTypes.all (λ t=>Tryz.prog.readableRec t&&decide (t<Tryz.prog.types.size))=true:=by kernel_rfl
theorem zn3:(Rows.printedRow.ifacesOut==Tryz.f12.resultTypes.toList.any (Tryz.prog.ifacesRec ·))=true:=by kernel_rfl
theorem zn4:(Rows.printedRow.loopsOut==Tryz.f12.resultTypes.toList.any (Tryz.prog.loopsFrom ·))=true:=by kernel_rfl
theorem zn5:(Rows.printedRow.plainKeys==Tryz.prog.plainKeys)=true:=by kernel_rfl
theorem zn6:Rows.printedRow.shortTexts.isNone=true:=by kernel_rfl
theorem zn7:(Rows.printedRow.lifted==Tryz.prog.liftsFinal)=true:=by kernel_rfl
theorem zn8:(Tryz.prog.make==some Rows.printedRow.make)=true:=by kernel_rfl
theorem zn9:(Rows.printedRow.pinned==Rows.printedRow.pinnedBy)=true:=by kernel_rfl
theorem zoa:(Rows.printedRow.veiled==(Tryz.f12.params.toList++(Rows.printedSpec).plain.varTypes Tryz.prog++Tryz.f12.resultTypes.toList).any (Tryz.prog.veiledRec ·))=true:=by kernel_rfl
theorem zob:Rows.printedRow.veiledFits Tryz.prog Tryz.f12.params.toList (Tryz.f12.params.toList++(Rows.printedSpec).plain.varTypes Tryz.prog++Tryz.f12.resultTypes.toList)=true:=by kernel_rfl
theorem zoc:Tryz.prog.funcNamed Rows.printedRow.func=some 12:=by kernel_rfl
theorem zrb:joinedFacts Tryz.prog 12 Tryz.f12 (Rows.printedSpec) Rows.printedRow=true:=by
 unfold joinedFacts;exact (qV (qV (qV (qV (qV (qV (qV (qV (qV (qV (qV (qV (qV (qV (qV (qV (qV (qV (qV (qV (qV (qV (qV (qV (qV (qV (qV (qV (qV (qV (qV zq5 zsi) zos) zq6) zq7) zq8) zot) zq9) zor) zra) znt) znu) znv) znw) znx) zny) znz) zn0) zn1) zn2) zn3) zn4) zn5) zn6) zoq) zxh) zn7) zn8) (by kernel_rfl)) zn9) zoa) zob)
end
end Go.Proofs.YtldkpahaocjdpaaGreat
