/-
  Proved here: whatever lines and number are handed in, affidavitkeep.Ordered answers true, and they read afterwards as they read before. Conditions: none beyond the form's own.
-/
import Derived.Test.YtldkpahaocjdpaaGreatO02
import Derived.Test.YtldkpahaocjdpaaGreatO51
set_option maxHeartbeats 16000000
set_option maxRecDepth 1000000
namespace Go.Proofs.YtldkpahaocjdpaaGreat
section
open Go.ChangeShapes Go.WideShapes Go.ChangeAt Go.RowKit Go.Deep
theorem open_int {H:Type}{enc:TypeId × Value->H}{W:W8}{k:Int}{d:DataW H}{p:List MemPlace}(h:DataW.Trod enc Tryz.prog W 0 (λ _=>true) true 3 (.int .i64 k) d p):inR k:=by
 obtain⟨fuel,hf⟩:=h;obtain⟨n,e,_,r⟩:=DataW.trod_int Tryz.underlying3 hf;have e:k=n:=by simpa[Value.cells] using e
 subst e;exact dR r
theorem ordered_lifted (os:Os)(started:os.Started)(H:Type)(enc:TypeId × Value->H):
  ReturnsInHanded {} Tryz.checked os 10 .any (Rows.orderedSpec.pre6 enc Tryz.prog Tryz.f10 Rows.orderedRow.domain false) (Rows.orderedSpec.post enc Tryz.prog Tryz.f10 false true false false):=by
 refine returnsInHanded_of_change_sized (C:=Tryz.checked) own2 started (by kernel_rfl) Tryz.func10
  (ChangeSpec.witness6 (enc:=enc) (C:=Tryz.checked) false ⟨#[],#[.slice none 0 0,.int .i64 0],[]⟩ 8 (by kernel_rfl) (by kernel_rfl) (by kernel_rfl) (by kernel_rfl)) ?_
 intro W base args ds gs before hval0 hW _ uP _;clear uP;have fD:∀ (j:Nat) t v,Tryz.f10.params[j]?=some t->args[j]?=some v->Value.okWide Tryz.prog W .any base t v:=hval0;have xT:=hW;obtain⟨p,q,xI,hV,rfl,_,_⟩:=hW;have hA:DataW.TrodAll enc Tryz.prog W 0 (λ _=>true) true Tryz.f10.params.toList args.toList ds p:=xI;rw[Tryz.params10] at hA fD;obtain⟨v0,v1,d0,d1,p0,p1,rfl,rfl,rfl,h0,h1⟩:=trodAll_two hA;obtain⟨rfl,rfl⟩:=trodVars_none hV;clear xI hval0;simp only[List.append_nil] at xT;have bP:∀ x∈p0++p1,x.block<W.heap.size:=λ x hx=>by simpa using xT.lt x hx
 obtain⟨a0,n0,c0,rfl⟩:=okWide_slice Tryz.underlying28 (fD 0 28 v0 rfl rfl);obtain⟨k1,rfl⟩:=okWide_int Tryz.underlying3 (fD 1 3 v1 rfl rfl);have de:=open_int h1;have uc:∀ (W':W8),Below W.heap.size W W'->DataW.Trod enc Tryz.prog W' 0 (λ b=>decide (b<W.heap.size)) true 28 (.slice a0 n0 c0) d0 p0:=
  λ W' hn=>Below.trod laid2 (by kernel_rfl) (of_decide_eq_true (by kernel_rfl)) h0 hn (λ x hx=>bP x (by simp[hx]))
 have ud:∀ (W':W8),Below W.heap.size W W'->DataW.Trod enc Tryz.prog W' 0 (λ b=>decide (b<W.heap.size)) true 3 (.int .i64 k1) d1 p1:=
  λ W' hn=>Below.trod laid2 (by kernel_rfl) (of_decide_eq_true (by kernel_rfl)) h1 hn (λ x hx=>bP x (by simp[hx]))
 obtain⟨jz,uD,R,hR⟩:=open_lines h0;refine (ordered_any W a0 n0 c0 R hR jz uD k1 de).mono λ e W' ⟨he,hB⟩=>?_
 subst he;exact⟨_,rfl,⟨_,_,_,[],p0++p1,[],xT,trodAll_mk1 (shut_bool Tryz.underlying4 true),trodAll_mk2 (uc _ hB) (ud _ hB),rfl,hB.frame _,λ h=>by cases h⟩⟩
theorem ordered_holds:Rows.OrderedSaid:=
 OpenClaim.holds_of_wide 10 Tryz.f10 rfl rfl rfl rfl rfl rfl rfl ⟨rfl,rfl,rfl,rfl,rfl⟩ rfl rfl rfl rfl rfl ordered_fnamed Tryz.func10 ordered_facts
  (of_decide_eq_true (by kernel_rfl)) (by unfold Func.isWrapper;first | (rw[if_pos (by decide +kernel)];kernel_rfl) | (rw[if_neg (by decide +kernel)];exact⟨rfl,rfl⟩))
  (λ os started H enc _=>ordered_lifted os started H enc)
#print axioms ordered_holds
end
end Go.Proofs.YtldkpahaocjdpaaGreat
