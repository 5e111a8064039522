/-
  Proved here: whatever lines are handed in, affidavitkeep.Closed answers true, and they read afterwards as they read before. Conditions: none beyond the form's own.
-/
import Derived.Test.YtldkpahaocjdpaaGreatD02
import Derived.Test.YtldkpahaocjdpaaGreatD51
set_option maxHeartbeats 16000000
set_option maxRecDepth 1000000
namespace Go.Proofs.YtldkpahaocjdpaaGreat
section
open Go.ChangeShapes Go.WideShapes Go.ChangeAt Go.RowKit Go.Deep
theorem zo4 (os:Os)(started:os.Started)(H:Type)(enc:TypeId × Value->H):
  ReturnsInHanded {} Tryz.checked os 9 .any (Rows.closedSpec.pre6 enc Tryz.prog Tryz.f9 Rows.closedRow.domain false) (Rows.closedSpec.post enc Tryz.prog Tryz.f9 false true false false):=by
 refine returnsInHanded_of_change_sized (C:=Tryz.checked) yez started (by kernel_rfl) Tryz.func9
  (ChangeSpec.witness6 (enc:=enc) (C:=Tryz.checked) false ⟨#[],#[.slice none 0 0],[]⟩ 8 (by kernel_rfl) (by kernel_rfl) (by kernel_rfl) (by kernel_rfl)) ?_
 intro W base args ds gs before hval0 hW _ hsz0 _;clear hsz0;have fD:∀ (j:Nat) t v,Tryz.f9.params[j]?=some t->args[j]?=some v->Value.okWide Tryz.prog W .any base t v:=hval0;have MU:=hW;obtain⟨p,q,Ld,hV,rfl,_,_⟩:=hW;have hA:DataW.TrodAll enc Tryz.prog W 0 (λ _=>true) true Tryz.f9.params.toList args.toList ds p:=Ld;rw[Tryz.params9] at hA fD;obtain⟨v0,d0,p0,rfl,rfl,lf,h0⟩:=z4g hA;have gG:=lf.symm;subst gG;obtain⟨rfl,rfl⟩:=trodVars_none hV;clear Ld hval0;simp only[List.append_nil] at MU;have bP:∀ x∈p0,x.block<W.heap.size:=λ x hx=>by simpa using MU.lt x hx
 obtain⟨a0,n0,c0,rfl⟩:=okWide_slice Tryz.underlying28 (fD 0 28 v0 rfl rfl);have uc:∀ (W':W8),Below W.heap.size W W'->DataW.Trod enc Tryz.prog W' 0 (λ b=>decide (b<W.heap.size)) true 28 (.slice a0 n0 c0) d0 p0:=
  λ W' hn=>Below.trod yea (by kernel_rfl) (of_decide_eq_true (by kernel_rfl)) h0 hn (λ x hx=>bP x (by simp[hx]))
 obtain⟨jz,uD,R,hR⟩:=zye h0;refine (ztm W a0 n0 c0 R hR jz uD).mono λ e W' ⟨he,hB⟩=>?_
 subst he;exact⟨_,rfl,⟨_,_,_,[],p0,[],MU,trodAll_mk1 (shut_bool Tryz.underlying4 true),trodAll_mk1 (uc _ hB),rfl,hB.frame _,λ h=>by cases h⟩⟩
theorem closed_holds:Rows.ClosedSaid:=
 OpenClaim.holds_of_wide 9 Tryz.f9 rfl rfl rfl rfl rfl rfl rfl ⟨rfl,rfl,rfl,rfl,rfl⟩ rfl rfl rfl rfl rfl zo3 Tryz.func9 zq4
  (of_decide_eq_true (by kernel_rfl)) (by unfold Func.isWrapper;first | (rw[if_pos (by decide +kernel)];kernel_rfl) | (rw[if_neg (by decide +kernel)];exact⟨rfl,rfl⟩))
  (λ os started H enc _=>zo4 os started H enc)
#print axioms closed_holds
end
end Go.Proofs.YtldkpahaocjdpaaGreat
