/-
  The contract of stringslite.Clone, out of the library, laid at this program's numbers by the library's own tool.
-/
import Derived.Shelf.LaysM
import Derived.Shelf.Strconv.Clone
import Derived.Test.YtldkpahaocjdpaaGreatProg
namespace Go.Proofs
open Go.Shelf Tryz
def Tryz.laysM316_ren : Go.Shelf.Ren := ⟨fun | 316=>232|n => n, fun | 9=>9|3=>3|4=>4|37=>47|0=>0|127=>210|5=>5|n => n, fun | n => n⟩
theorem Tryz.laysM316 : Go.Proofs.LaysM.n316 prog Tryz.laysM316_ren := {mixed:=by kernel_rfl,f316:=func232.trans (congrArg some (by kernel_rfl)),t0:=underlying0,a0:=isAgg0,z0:=sizeOf0,v0:=zeroValue0,t3:=underlying3,a3:=isAgg3,z3:=sizeOf3,v3:=zeroValue3,t4:=underlying4,a4:=isAgg4,z4:=sizeOf4,v4:=zeroValue4,t9:=underlying9,a9:=isAgg9,z9:=sizeOf9,v9:=zeroValue9,t37:=underlying47,a37:=isAgg47,z37:=sizeOf47,v37:=zeroValue47,t127:=underlying210,a127:=isAgg210,z127:=sizeOf210,v127:=zeroValue210,t5:=underlying5,a5:=isAgg5,z5:=sizeOf5,v5:=zeroValue5,i0:=by kernel_rfl,i3:=by kernel_rfl,i4:=by kernel_rfl,i5:=by kernel_rfl,i9:=by kernel_rfl,i37:=by kernel_rfl,i127:=by kernel_rfl }
open Go.RowKit in
theorem Tryz.stringslite_Clone (s : ByteArray) (w : World) (hlim : s.size ≤ 281474976710656) :
    Calls prog 232 #[.string s] w fun e w' => e = .returned (.string s) ∧ Below w.heap.size w w' := Any.stringslite_Clone Tryz.laysM316 s w hlim
end Go.Proofs
