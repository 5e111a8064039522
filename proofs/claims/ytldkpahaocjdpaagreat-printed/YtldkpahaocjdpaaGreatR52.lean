/-
  Proved here: whatever lines, number and text are handed in, affidavitkeep.Printed answers true, and they read afterwards as they read before. Conditions: none beyond the form's own.
-/
import Derived.Test.YtldkpahaocjdpaaGreatR02
import Derived.Test.YtldkpahaocjdpaaGreatR51
set_option maxHeartbeats 16000000
set_option maxRecDepth 1000000
namespace Go.Proofs.YtldkpahaocjdpaaGreat
section
open Go.ChangeShapes Go.WideShapes Go.ChangeAt Go.RowKit Go.Deep
theorem zod (os:Os)(started:os.Started)(H:Type)(enc:TypeId × Value->H):
  ReturnsInHanded {} Tryz.checked os 12 .any (Rows.printedSpec.pre6 enc Tryz.prog Tryz.f12 Rows.printedRow.domain false) (Rows.printedSpec.post enc Tryz.prog Tryz.f12 false true false false):=by
 refine returnsInHanded_of_change_sized (C:=Tryz.checked) yfx started (by kernel_rfl) Tryz.func12
  (ChangeSpec.witness6 (enc:=enc) (C:=Tryz.checked) false ⟨#[],#[.slice none 0 0,.int .i64 0,.string { data:=#[] }],[]⟩ 8 (by kernel_rfl) (by kernel_rfl) (by kernel_rfl) (by kernel_rfl)) ?_
 intro W base args ds gs before hval0 hW _ hsz0 _;clear hsz0;have fD:∀ (j:Nat) t v,Tryz.f12.params[j]?=some t->args[j]?=some v->Value.okWide Tryz.prog W .any base t v:=hval0;have dZ:=hW;obtain⟨p,q,mS,hV,rfl,_,_⟩:=hW;have hA:DataW.TrodAll enc Tryz.prog W 0 (λ _=>true) true Tryz.f12.params.toList args.toList ds p:=mS;rw[Tryz.params12] at hA fD;obtain⟨v0,v1,v2,d0,d1,d2,p0,p1,p2,rfl,rfl,rfl,h0,h1,h2⟩:=zuj hA;obtain⟨rfl,rfl⟩:=trodVars_none hV;clear mS hval0;simp only[List.append_nil] at dZ;have bP:∀ x∈p0++(p1++p2),x.block<W.heap.size:=λ x hx=>by simpa using dZ.lt x hx
 obtain⟨a0,n0,c0,rfl⟩:=okWide_slice Tryz.underlying28 (fD 0 28 v0 rfl rfl);obtain⟨k1,rfl⟩:=okWide_int Tryz.underlying3 (fD 1 3 v1 rfl rfl);have de:=zq0 h1;obtain⟨s2,rfl⟩:=okWide_string Tryz.underlying9 (fD 2 9 v2 rfl rfl);have lj:=z34 h2;have uc:∀ (W':W8),Below W.heap.size W W'->DataW.Trod enc Tryz.prog W' 0 (λ b=>decide (b<W.heap.size)) true 28 (.slice a0 n0 c0) d0 p0:=
  λ W' hn=>Below.trod zzq (by kernel_rfl) (of_decide_eq_true (by kernel_rfl)) h0 hn (λ x hx=>bP x (by simp[hx]))
 have ud:∀ (W':W8),Below W.heap.size W W'->DataW.Trod enc Tryz.prog W' 0 (λ b=>decide (b<W.heap.size)) true 3 (.int .i64 k1) d1 p1:=
  λ W' hn=>Below.trod zzq (by kernel_rfl) (of_decide_eq_true (by kernel_rfl)) h1 hn (λ x hx=>bP x (by simp[hx]))
 have ew:∀ (W':W8),Below W.heap.size W W'->DataW.Trod enc Tryz.prog W' 0 (λ b=>decide (b<W.heap.size)) true 9 (.string s2) d2 p2:=
  λ W' hn=>Below.trod zzq (by kernel_rfl) (of_decide_eq_true (by kernel_rfl)) h2 hn (λ x hx=>bP x (by simp[hx]))
 obtain⟨jz,uD,R,hR⟩:=zo6 h0;refine (zvv W a0 n0 c0 R hR jz uD k1 de s2 lj).mono λ e W' ⟨he,hB⟩=>?_
 subst he;exact⟨_,rfl,⟨_,_,_,[],p0++(p1++p2),[],dZ,trodAll_mk1 (shut_bool Tryz.underlying4 true),⟨_,_,uc _ hB,trodAll_mk2 (ud _ hB) (ew _ hB),rfl⟩,rfl,hB.frame _,λ h=>by cases h⟩⟩
theorem printed_holds:Rows.PrintedSaid:=
 OpenClaim.holds_of_wide 12 Tryz.f12 rfl rfl rfl rfl rfl rfl rfl ⟨rfl,rfl,rfl,rfl,rfl⟩ rfl rfl rfl rfl rfl zoc Tryz.func12 zrb
  (of_decide_eq_true (by kernel_rfl)) (by unfold Func.isWrapper;first | (rw[if_pos (by decide +kernel)];kernel_rfl) | (rw[if_neg (by decide +kernel)];exact⟨rfl,rfl⟩))
  (λ os started H enc _=>zod os started H enc)
#print axioms printed_holds
end
end Go.Proofs.YtldkpahaocjdpaaGreat
