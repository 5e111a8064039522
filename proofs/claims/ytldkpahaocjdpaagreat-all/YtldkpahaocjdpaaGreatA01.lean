/-
  What is asked of the program whatever the statement, and is told by reckoning alone.
-/
import Derived.Test.YtldkpahaocjdpaaGreatA00
import Derived.Test.YtldkpahaocjdpaaGreatRows
import Derived.JoinedOf
import Derived.JoinedCond
import Derived.KernelRfl
set_option maxHeartbeats 16000000
set_option maxRecDepth 1000000
namespace Go.Proofs.YtldkpahaocjdpaaGreat
open _root_.Bool renaming true->Bt
open Go.Proofs.Tryz
set_option linter.defProp false
open Go
def jK{a b}(c:a=Bt)(d:b=Bt):(a&&b)=true:=by rw[c,d];rfl
def afK:laidOutB prog=true:=oK
def afM:mapsRowed prog=true:=oK
def afN:(prog.stops==[])=true:=oK
def afJ:(prog.stopKnobs==[])=true:=oK
def afI:prog.stopsHeard=true:=oK
def afL:prog.mayEnter=true:=oK
end Go.Proofs.YtldkpahaocjdpaaGreat
