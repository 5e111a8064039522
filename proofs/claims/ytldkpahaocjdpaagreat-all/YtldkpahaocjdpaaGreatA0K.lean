/-
  A short name.
-/
import Derived.OrdersHeld
import Derived.Test.YtldkpahaocjdpaaGreatA00
namespace Go.Proofs.YtldkpahaocjdpaaGreat
open Go Go.RowKit
theorem oG {p:Prop}(h:p:=by exact Or.inl ⟨by rfl,fun _ _=>by go_simp⟩):p:=h
theorem oH {p:Prop}(h:p:=by exact Or.inl ⟨oK,fun _ _=>by go_simp⟩):p:=h
theorem K9 {P:Program}{ops:Array Oper}{Q:Exit->Act->World->Prop}{md:Region.Mode}{S:World->Prop}{oi:Oper}{fuel:Nat}{listed:Array Bool}{a:Act}{w:World}(i:Nat)(v:Value)(hi:ops[i]?=some oi)(hy:YieldsIf P ops S oi v a)(hS:S w)(h:wpAnyH P md ops Q S fuel (listed.setIfInBounds i true) (a.put oi.dst v) w)(hs:Region.noSelect ops=true:=by kernel_rfl)(hf:Region.free md ops listed i=true:=by kernel_rfl)(hr:(Region.ready md ops listed).contains i=true:=by kernel_rfl)(hQ:∀ c a w,Q (.panic c) (a.put oi.dst v) w->Q (.panic c) a w:=by exact fun _ _ _ h=>h):wpAnyH P md ops Q S (fuel+1) listed a w:=wpAnyH_take hi hs hf hr hQ hy hS h
end Go.Proofs.YtldkpahaocjdpaaGreat
