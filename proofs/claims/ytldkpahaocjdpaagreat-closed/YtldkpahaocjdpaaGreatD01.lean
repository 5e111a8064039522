/-
  What is asked of the program whatever the statement, and is told by reckoning alone.
-/
import Derived.Test.YtldkpahaocjdpaaGreatD00
import Derived.Test.YtldkpahaocjdpaaGreatRows
import Derived.JoinedOf
import Derived.JoinedCond
import Derived.KernelRfl
set_option maxHeartbeats 16000000
set_option maxRecDepth 1000000
namespace Go.Proofs.YtldkpahaocjdpaaGreat
section
open Go
theorem zgm {a b:Bool}(ha:a=true)(hb:b=true):(a&&b)=true:=by rw[ha,hb];rfl
theorem z03:laidOutB Tryz.prog=true:=by kernel_rfl
theorem zxv:mapsRowed Tryz.prog=true:=by kernel_rfl
theorem zxw:(Tryz.prog.stops==[])=true:=by kernel_rfl
theorem zxu:(Tryz.prog.stopKnobs==[])=true:=by kernel_rfl
theorem zxt:Tryz.prog.stopsHeard=true:=by kernel_rfl
theorem z6a:Tryz.prog.mayEnter=true:=by kernel_rfl
end
end Go.Proofs.YtldkpahaocjdpaaGreat
