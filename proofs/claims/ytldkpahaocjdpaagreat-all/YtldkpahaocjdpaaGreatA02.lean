/-
  What is asked of the program, its functions and types by the statement All, and is told by reckoning alone: each row by itself, as all of it together outgrows the memory.
-/
import Derived.Test.YtldkpahaocjdpaaGreatA01
set_option maxHeartbeats 16000000
set_option maxRecDepth 1000000
namespace Go.Proofs.YtldkpahaocjdpaaGreat
open _root_.Option renaming some->P
open Go.Proofs.Tryz
set_option linter.defProp false
open Go
def ada:Rows.allUptoRow.wf (OpenSpec.ofChange ((Rows.OpenSpec.upto Rows.allSpec).bare))=true:=oK
def adu:f8.params.all (prog.readableRec ·)=true:=oK
def adx:namedTie prog Rows.allUptoRow.named ((Rows.OpenSpec.upto Rows.allSpec).bare).vars=true:=oK
def ady:(Rows.allUptoRow.stops==[])=true:=oK
def adz:(Rows.allUptoRow.knobs==[])=true:=oK
def adA:(Rows.allUptoRow.inPlace==prog.inPlace 8)=true:=oK
def adb:(Rows.allUptoRow.unfollowed==prog.unfollowed 8)=true:=oK
def ade:(Rows.allUptoRow.recurses==prog.recurses 8)=true:=oK
def adf:(Rows.allUptoRow.named==prog.varsNamed 8)=true:=oK
def adg:(Rows.allUptoRow.maps==(f8.params.toList++((Rows.OpenSpec.upto Rows.allSpec).bare).plain.varTypes prog).any (prog.mapsRec ·))=true:=oK
def adh:(Rows.allUptoRow.ifaces==(f8.params.toList++((Rows.OpenSpec.upto Rows.allSpec).bare).plain.varTypes prog).any (prog.ifacesRec ·))=true:=oK
def adi:(Rows.allUptoRow.mapsOut==prog.mapsAmong f8.resultTypes.toList)=true:=oK
def adj:(Rows.allUptoRow.loops==(f8.params.toList++((Rows.OpenSpec.upto Rows.allSpec).bare).plain.varTypes prog).any (prog.loopsFrom ·))=true:=oK
def adk:(Rows.allUptoRow.wideKeys==(f8.params.toList++((Rows.OpenSpec.upto Rows.allSpec).bare).plain.varTypes prog++f8.resultTypes.toList).any (prog.wideKeysFrom ·))=true:=oK
def adl:((Rows.OpenSpec.upto Rows.allSpec).bare).vars.all (prog.varReadable ·)=true:=oK
def adm:f8.resultTypes.all (λt=>prog.readableRec t&&decide (t<prog.types.size))=true:=oK
def adn:(Rows.allUptoRow.ifacesOut==f8.resultTypes.toList.any (prog.ifacesRec ·))=true:=oK
def ado:(Rows.allUptoRow.loopsOut==f8.resultTypes.toList.any (prog.loopsFrom ·))=true:=oK
def adp:(Rows.allUptoRow.plainKeys==prog.plainKeys)=true:=oK
def adq:Rows.allUptoRow.shortTexts.isNone=true:=oK
def adr:(Rows.allUptoRow.lifted==prog.liftsFinal)=true:=oK
def ads:(prog.make==P Rows.allUptoRow.make)=true:=oK
def adt:(Rows.allUptoRow.pinned==Rows.allUptoRow.pinnedBy)=true:=oK
def adv:(Rows.allUptoRow.veiled==(f8.params.toList++((Rows.OpenSpec.upto Rows.allSpec).bare).plain.varTypes prog++f8.resultTypes.toList).any (prog.veiledRec ·))=true:=oK
def adw:Rows.allUptoRow.veiledFits prog f8.params.toList (f8.params.toList++((Rows.OpenSpec.upto Rows.allSpec).bare).plain.varTypes prog++f8.resultTypes.toList)=true:=oK
def adC:prog.funcNamed Rows.allUptoRow.func=P 8:=oK
def adB:joinedFacts prog 8 f8 ((Rows.OpenSpec.upto Rows.allSpec).bare) Rows.allUptoRow=true:=by unfold joinedFacts;exact(jK (jK (jK (jK (jK (jK (jK (jK (jK (jK (jK (jK (jK (jK (jK (jK (jK (jK (jK (jK (jK (jK (jK (jK (jK (jK (jK (jK (jK (jK (jK ada afK) afM) adu) adx) ady) afN) adz) afJ) adA) adb) ade) adf) adg) adh) adi) adj) adk) adl) adm) adn) ado) adp) adq) afI) afL) adr) ads) oK) adt) adv) adw)
end Go.Proofs.YtldkpahaocjdpaaGreat
