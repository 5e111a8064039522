/-
  Short names.
-/
import Derived.Below
import Derived.OrdersHeld
import Derived.KernelRfl
namespace Go.Proofs.YtldkpahaocjdpaaGreat
open Go Go.RowKit
abbrev O8:=Option Addr
abbrev V8:=List Value
abbrev B8:=ByteArray
abbrev W8:=World
abbrev P9:=List (ByteArray×Nat)
theorem K9 {P:Program}{ops:Array Oper}{Q:Exit->Act->World->Prop}{md:Region.Mode}{S:World->Prop}{oi:Oper}{fuel:Nat}{listed:Array Bool}{a:Act}{w:World}(i:Nat)(v:Value)(hi:ops[i]?=some oi)(hy:YieldsIf P ops S oi v a)(hS:S w)(h:wpAnyH P md ops Q S fuel (listed.setIfInBounds i true) (a.put oi.dst v) w)(hs:Region.noSelect ops=true:=by kernel_rfl)(hf:Region.free md ops listed i=true:=by kernel_rfl)(hr:(Region.ready md ops listed).contains i=true:=by kernel_rfl)(hQ:∀ c a w,Q (.panic c) (a.put oi.dst v) w->Q (.panic c) a w:=by exact fun _ _ _ h=>h):wpAnyH P md ops Q S (fuel+1) listed a w:=wpAnyH_take hi hs hf hr hQ hy hS h
theorem L9 {n:Nat}:n≤n:=Nat.le_refl n
theorem B9 {n:Nat}{w:World}:Below n w w:=Below.refl n w
end Go.Proofs.YtldkpahaocjdpaaGreat
