/-
  What is asked of the program, its functions and types by the statement Closed, and is told by reckoning alone: each row by itself, as all of it together outgrows the memory.
-/
import Derived.Test.YtldkpahaocjdpaaGreatD01
set_option maxHeartbeats 16000000
set_option maxRecDepth 1000000
namespace Go.Proofs.YtldkpahaocjdpaaGreat
section
open Go
theorem zqy:Rows.closedRow.wf (OpenSpec.ofChange (Rows.closedSpec))=true:=by kernel_rfl
theorem zqz:Tryz.f9.params.all (Tryz.prog.readableRec ·)=true:=by kernel_rfl
theorem zq0:namedTie Tryz.prog Rows.closedRow.named (Rows.closedSpec).vars=true:=by kernel_rfl
theorem zq1:(Rows.closedRow.stops==[])=true:=by kernel_rfl
theorem zq2:(Rows.closedRow.knobs==[])=true:=by kernel_rfl
theorem zq3:(Rows.closedRow.inPlace==Tryz.prog.inPlace 9)=true:=by kernel_rfl
theorem zok:(Rows.closedRow.unfollowed==Tryz.prog.unfollowed 9)=true:=by kernel_rfl
theorem zol:(Rows.closedRow.recurses==Tryz.prog.recurses 9)=true:=by kernel_rfl
theorem zom:(Rows.closedRow.named==Tryz.prog.varsNamed 9)=true:=by kernel_rfl
theorem zon:(Rows.closedRow.maps==(Tryz.f9.params.toList++(Rows.closedSpec).plain.varTypes Tryz.prog).any (Tryz.prog.mapsRec ·))=true:=by kernel_rfl
theorem zoo:(Rows.closedRow.ifaces==(Tryz.f9.params.toList++(Rows.closedSpec).plain.varTypes Tryz.prog).any (Tryz.prog.ifacesRec ·))=true:=by kernel_rfl
theorem zop:(Rows.closedRow.mapsOut==Tryz.prog.mapsAmong Tryz.f9.resultTypes.toList)=true:=by kernel_rfl
theorem zoq:(Rows.closedRow.loops==(Tryz.f9.params.toList++(Rows.closedSpec).plain.varTypes Tryz.prog).any (Tryz.prog.loopsFrom ·))=true:=by kernel_rfl
theorem zor:(Rows.closedRow.wideKeys==(Tryz.f9.params.toList++(Rows.closedSpec).plain.varTypes Tryz.prog++Tryz.f9.resultTypes.toList).any (Tryz.prog.wideKeysFrom ·))=true:=by kernel_rfl
theorem zos:(Rows.closedSpec).vars.all (Tryz.prog.varReadable ·)=true:=by kernel_rfl
theorem zot:Tryz.f9.resultTypes.all (λ t=>Tryz.prog.readableRec t&&decide (t<Tryz.prog.types.size))=true:=by kernel_rfl
theorem zou:(Rows.closedRow.ifacesOut==Tryz.f9.resultTypes.toList.any (Tryz.prog.ifacesRec ·))=true:=by kernel_rfl
theorem zov:(Rows.closedRow.loopsOut==Tryz.f9.resultTypes.toList.any (Tryz.prog.loopsFrom ·))=true:=by kernel_rfl
theorem zow:(Rows.closedRow.plainKeys==Tryz.prog.plainKeys)=true:=by kernel_rfl
theorem zox:Rows.closedRow.shortTexts.isNone=true:=by kernel_rfl
theorem zoy:(Rows.closedRow.lifted==Tryz.prog.liftsFinal)=true:=by kernel_rfl
theorem zoz:(Tryz.prog.make==some Rows.closedRow.make)=true:=by kernel_rfl
theorem zo0:(Rows.closedRow.pinned==Rows.closedRow.pinnedBy)=true:=by kernel_rfl
theorem zo1:(Rows.closedRow.veiled==(Tryz.f9.params.toList++(Rows.closedSpec).plain.varTypes Tryz.prog++Tryz.f9.resultTypes.toList).any (Tryz.prog.veiledRec ·))=true:=by kernel_rfl
theorem zo2:Rows.closedRow.veiledFits Tryz.prog Tryz.f9.params.toList (Tryz.f9.params.toList++(Rows.closedSpec).plain.varTypes Tryz.prog++Tryz.f9.resultTypes.toList)=true:=by kernel_rfl
theorem zo3:Tryz.prog.funcNamed Rows.closedRow.func=some 9:=by kernel_rfl
theorem zq4:joinedFacts Tryz.prog 9 Tryz.f9 (Rows.closedSpec) Rows.closedRow=true:=by
 unfold joinedFacts;exact (zgm (zgm (zgm (zgm (zgm (zgm (zgm (zgm (zgm (zgm (zgm (zgm (zgm (zgm (zgm (zgm (zgm (zgm (zgm (zgm (zgm (zgm (zgm (zgm (zgm (zgm (zgm (zgm (zgm (zgm (zgm zqy z03) zxv) zqz) zq0) zq1) zxw) zq2) zxu) zq3) zok) zol) zom) zon) zoo) zop) zoq) zor) zos) zot) zou) zov) zow) zox) zxt) z6a) zoy) zoz) (by kernel_rfl)) zo0) zo1) zo2)
end
end Go.Proofs.YtldkpahaocjdpaaGreat
