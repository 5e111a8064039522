/-
  The library's sort (slices.SortFunc at follow.Placed): its structure at this program's numbers, laid by the library's own tool.
-/
import Derived.Shelf.SlSortCmp.NoneTotal
import Derived.Shelf.Lay
import Derived.Shelf.LaySoft
import Derived.Test.YtldkpahaocjdpaaGreatProg
namespace Go.Proofs
open Go.Shelf
shelf_try shelf_lay_g SlLaysF0.n6 Slsf 6 at Tryz 105 as Tryz.sortPl
shelf_tried
end Go.Proofs
