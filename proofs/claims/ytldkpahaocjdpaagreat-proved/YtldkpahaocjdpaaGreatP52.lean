/-
  Proved here: whatever lines and numbers are handed in, affidavitkeep.Proved answers true, and they read afterwards as they read before. Conditions: none beyond the form's own.
-/
import Derived.Test.YtldkpahaocjdpaaGreatP02
import Derived.Test.YtldkpahaocjdpaaGreatP51
set_option maxHeartbeats 16000000
set_option maxRecDepth 1000000
namespace Go.Proofs.YtldkpahaocjdpaaGreat
section
open Go.ChangeShapes Go.WideShapes Go.ChangeAt Go.RowKit Go.Deep
theorem proved_lifted (os:Os)(started:os.Started)(H:Type)(enc:TypeId × Value->H):
  ReturnsInHanded {} Tryz.checked os 13 .any (Rows.provedSpec.pre6 enc Tryz.prog Tryz.f13 Rows.provedRow.domain false) (Rows.provedSpec.post enc Tryz.prog Tryz.f13 false true false false):=by
 refine returnsInHanded_of_change_sized (C:=Tryz.checked) own2 started (by kernel_rfl) Tryz.func13
  (ChangeSpec.witness6 (enc:=enc) (C:=Tryz.checked) false ⟨#[],#[.slice none 0 0,.slice none 0 0],[]⟩ 8 (by kernel_rfl) (by kernel_rfl) (by kernel_rfl) (by kernel_rfl)) ?_
 intro W base args ds gs before hval0 hW _ hsz0 _;clear hsz0;have fN:∀ (j:Nat) t v,Tryz.f13.params[j]?=some t->args[j]?=some v->Value.okWide Tryz.prog W .any base t v:=hval0;have Cb:=hW;obtain⟨p,q,xE,hV,rfl,_,_⟩:=hW;have hA:DataW.TrodAll enc Tryz.prog W 0 (λ _=>true) true Tryz.f13.params.toList args.toList ds p:=xE;rw[Tryz.params13] at hA fN;obtain⟨v0,v1,d0,d1,p0,p1,rfl,rfl,rfl,h0,h1⟩:=trodAll_two hA;obtain⟨rfl,rfl⟩:=trodVars_none hV;clear xE hval0;simp only[List.append_nil] at Cb;have bS:∀ x∈p0++p1,x.block<W.heap.size:=λ x hx=>by simpa using Cb.lt x hx
 have CO:∀ x∈p0,x.block<W.heap.size:=λ x hx=>bS x (List.mem_append_left _ hx)
 have CP:∀ x∈p1,x.block<W.heap.size:=λ x hx=>bS x (List.mem_append_right _ hx)
 obtain⟨a0,n0,c0,rfl⟩:=okWide_slice Tryz.underlying28 (fN 0 28 v0 rfl rfl);obtain⟨a1,n1,c1,rfl⟩:=okWide_slice Tryz.underlying24 (fN 1 24 v1 rfl rfl);have uc:∀ (W':W8),Below W.heap.size W W'->DataW.Trod enc Tryz.prog W' 0 (λ b=>decide (b<W.heap.size)) true 28 (.slice a0 n0 c0) d0 p0:=
  λ W' hn=>Below.trod laid2 (by kernel_rfl) (of_decide_eq_true (by kernel_rfl)) h0 hn CO
 have ud:∀ (W':W8),Below W.heap.size W W'->DataW.Trod enc Tryz.prog W' 0 (λ b=>decide (b<W.heap.size)) true 24 (.slice a1 n1 c1) d1 p1:=
  λ W' hn=>Below.trod laid2 (by kernel_rfl) (of_decide_eq_true (by kernel_rfl)) h1 hn CP
 obtain⟨jA,uC,R,hR⟩:=open_lines h0;obtain⟨pt,eY,X,hX⟩:=open_ints h1;refine (proved_any W a0 n0 c0 R hR jA uC a1 n1 c1 X hX eY).mono λ e W' ⟨he,hB⟩=>?_
 subst he;exact⟨_,rfl,⟨_,_,_,[],p0++p1,[],Cb,trodAll_mk1 (shut_bool Tryz.underlying4 true),trodAll_mk2 (uc _ hB) (ud _ hB),rfl,hB.frame _,λ h=>by cases h⟩⟩
theorem proved_holds:Rows.ProvedSaid:=
 OpenClaim.holds_of_wide 13 Tryz.f13 rfl rfl rfl rfl rfl rfl rfl ⟨rfl,rfl,rfl,rfl,rfl⟩ rfl rfl rfl rfl rfl proved_fnamed Tryz.func13 proved_facts
  (of_decide_eq_true (by kernel_rfl)) (by unfold Func.isWrapper;first | (rw[if_pos (by decide +kernel)];kernel_rfl) | (rw[if_neg (by decide +kernel)];exact⟨rfl,rfl⟩))
  (λ os started H enc _=>proved_lifted os started H enc)
#print axioms proved_holds
end
end Go.Proofs.YtldkpahaocjdpaaGreat
