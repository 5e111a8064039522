/-
  The contract of slices.Sort over texts, out of the library, laid at this program's numbers by the library's own tool.
-/
import Derived.Shelf.Sort.Plain
import Derived.Shelf.Slices.In.SortNone
import Derived.Test.YtldkpahaocjdpaaGreatProg
namespace Go.Proofs
open Go.Shelf Tryz
theorem Tryz.kt {α}{a b:α}(h:a=b:=by kernel_rfl):some a=some b:=congrArg some h
def Tryz.lays190_ren : Go.Shelf.Ren := ⟨fun | 190=>64|125=>104|258=>103|128=>157|129=>158|302=>148|303=>149|304=>150|305=>151|306=>152|307=>153|308=>154|309=>155|310=>156|333=>202|329=>203|330=>204|334=>205|335=>206|336=>207|344=>235|n => n, fun | 31=>33|9=>9|3=>3|46=>196|0=>0|51=>282|53=>284|4=>4|183=>276|182=>275|131=>96|5=>5|218=>336|222=>340|228=>363|229=>364|n => n, fun | n => n⟩
theorem Tryz.lays190 : Go.Proofs.Lays.n190 prog Tryz.lays190_ren := {mixed:=by kernel_rfl,f125:=func104.trans kt,f128:=func157.trans kt,f129:=func158.trans kt,f190:=func64.trans kt,f258:=func103.trans kt,f302:=func148.trans kt,f303:=func149.trans kt,f304:=func150.trans kt,f305:=func151.trans kt,f306:=func152.trans kt,f307:=func153.trans kt,f308:=func154.trans kt,f309:=func155.trans kt,f310:=func156.trans kt,f329:=func203.trans kt,f330:=func204.trans kt,f333:=func202.trans kt,f334:=func205.trans kt,f335:=func206.trans kt,f336:=func207.trans kt,f344:=func235.trans kt,t0:=underlying0,a0:=isAgg0,z0:=sizeOf0,v0:=zeroValue0,t3:=underlying3,a3:=isAgg3,z3:=sizeOf3,v3:=zeroValue3,t4:=underlying4,a4:=isAgg4,z4:=sizeOf4,v4:=zeroValue4,t5:=underlying5,a5:=isAgg5,z5:=sizeOf5,v5:=zeroValue5,t9:=underlying9,a9:=isAgg9,z9:=sizeOf9,v9:=zeroValue9,t31:=underlying33,a31:=isAgg33,z31:=sizeOf33,v31:=zeroValue33,t46:=underlying196,a46:=isAgg196,z46:=sizeOf196,v46:=zeroValue196,t51:=underlying282,a51:=isAgg282,z51:=sizeOf282,v51:=zeroValue282,t53:=underlying284,a53:=isAgg284,z53:=sizeOf284,v53:=zeroValue284,t131:=underlying96,a131:=isAgg96,z131:=sizeOf96,v131:=zeroValue96,t182:=underlying275,a182:=isAgg275,z182:=sizeOf275,v182:=zeroValue275,t183:=underlying276,a183:=isAgg276,z183:=sizeOf276,v183:=zeroValue276,t218:=underlying336,a218:=isAgg336,z218:=sizeOf336,v218:=zeroValue336,t222:=underlying340,a222:=isAgg340,z222:=sizeOf340,v222:=zeroValue340,t228:=underlying363,a228:=isAgg363,z228:=sizeOf363,v228:=zeroValue363,t229:=underlying364,a229:=isAgg364,z229:=sizeOf364,v229:=zeroValue364 }
open Go.Sort Go.RowKit in
theorem Tryz.slices_Sort_string (blk off cap : Nat) (ss : List (List UInt8)) (w : World) (hH : Holds encStr w blk off ss.toArray) (hblk : blk < w.heap.size) (hsz : ss.length < 4611686018427387904) :
    Calls prog 64 #[.slice (some ⟨blk, off, none⟩) ss.length cap] w fun e w' =>
      e = .returned (.tuple #[]) ∧ ∃ n os, w' = grow (putRow encStr (Sort.ahead w n) blk off (ss.mergeSort fun x y => decide (x ≤ y)).toArray) os := Any.slices_Sort_string Tryz.lays190 blk off cap ss w hH hblk hsz
open Go.RowKit Go.Sort in
theorem Tryz.slices_Sort_string_none (p : Option Addr) (cap : Nat) (w : World) :
    Calls prog 64 #[.slice p 0 cap] w fun e w' => e = .returned (.tuple #[]) ∧ w' = w := Any.slices_Sort_string_none Tryz.lays190 p cap w
end Go.Proofs
