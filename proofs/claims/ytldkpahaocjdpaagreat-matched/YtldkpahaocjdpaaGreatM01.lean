/-
  What is asked of the program whatever the statement, and is told by reckoning alone.
-/
import Derived.Test.YtldkpahaocjdpaaGreatM00
import Derived.Test.YtldkpahaocjdpaaGreatRows
import Derived.JoinedOf
import Derived.JoinedCond
import Derived.KernelRfl
set_option maxHeartbeats 16000000
set_option maxRecDepth 1000000
namespace Go.Proofs.YtldkpahaocjdpaaGreat
section
open Go
theorem zgb {a b:Bool}(ha:a=true)(hb:b=true):(a&&b)=true:=by rw[ha,hb];rfl
theorem zz9:laidOutB Tryz.prog=true:=by kernel_rfl
theorem zw6:mapsRowed Tryz.prog=true:=by kernel_rfl
theorem zw7:(Tryz.prog.stops==[])=true:=by kernel_rfl
theorem zw5:(Tryz.prog.stopKnobs==[])=true:=by kernel_rfl
theorem zw4:Tryz.prog.stopsHeard=true:=by kernel_rfl
theorem z4x:Tryz.prog.mayEnter=true:=by kernel_rfl
end
end Go.Proofs.YtldkpahaocjdpaaGreat
