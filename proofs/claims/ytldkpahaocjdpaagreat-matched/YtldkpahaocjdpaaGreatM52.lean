/-
  Proved here: whatever lines and numbers are handed in, affidavitkeep.Matched answers true, and they read afterwards as they read before. Conditions: none beyond the form's own.
-/
import Derived.Test.YtldkpahaocjdpaaGreatM02
import Derived.Test.YtldkpahaocjdpaaGreatM51
set_option maxHeartbeats 16000000
set_option maxRecDepth 1000000
namespace Go.Proofs.YtldkpahaocjdpaaGreat
section
open Go.ChangeShapes Go.WideShapes Go.ChangeAt Go.RowKit Go.Deep
variable {H:Type}
theorem zvv {enc:TypeId × Value->H}{W:W8}{k:Int}{d:DataW H}{p:List MemPlace}(h:DataW.Trod enc Tryz.prog W 0 (λ _=>true) true 3 (.int .i64 k) d p):inR k:=by
 obtain⟨fuel,hf⟩:=h;obtain⟨n,e,_,r⟩:=DataW.trod_int Tryz.underlying3 hf;have e:k=n:=by simpa[Value.cells] using e
 subst e;exact BJ r
theorem z3g {enc:TypeId × Value->H}{P:Program}{w:W8}{base:Nat}{spare:Nat->Bool}{held:Bool}{t0 t1 t2:TypeId}{args:Array Value}{ds:List (DataW H)}{ps:List MemPlace}(h:DataW.TrodAll enc P w base spare held [t0,t1,t2] args.toList ds ps):
  ∃ v0 v1 v2 d0 d1 d2 p0 p1 p2,args=#[v0,v1,v2]/\ds=[d0,d1,d2]/\ps=p0++(p1++p2)/\DataW.Trod enc P w base spare held t0 v0 d0 p0/\DataW.Trod enc P w base spare held t1 v1 d1 p1/\DataW.Trod enc P w base spare held t2 v2 d2 p2:=by
 obtain⟨v0,vs0,d0,e0,p0,q0,ha,rfl,rfl,h0,r0⟩:=trodAll_cons h;obtain⟨v1,vs1,d1,e1,p1,q1,rfl,rfl,rfl,h1,r1⟩:=trodAll_cons r0;obtain⟨v2,vs2,d2,e2,p2,q2,rfl,rfl,rfl,h2,r2⟩:=trodAll_cons r1;obtain⟨rfl,rfl,rfl⟩:=trodAll_nil r2;exact⟨v0,v1,v2,d0,d1,d2,p0,p1,p2,by cases args;simp_all,rfl,by simp,h0,h1,h2⟩
theorem zm4 (os:Os)(started:os.Started)(H:Type)(enc:TypeId × Value->H):
  ReturnsInHanded {} Tryz.checked os 11 .any (Rows.matchedSpec.pre6 enc Tryz.prog Tryz.f11 Rows.matchedRow.domain false) (Rows.matchedSpec.post enc Tryz.prog Tryz.f11 false true false false):=by
 refine returnsInHanded_of_change_sized (C:=Tryz.checked) yda started (by kernel_rfl) Tryz.func11
  (ChangeSpec.witness6 (enc:=enc) (C:=Tryz.checked) false ⟨#[],#[.slice none 0 0,.int .i64 0,.int .i64 0],[]⟩ 8 (by kernel_rfl) (by kernel_rfl) (by kernel_rfl) (by kernel_rfl)) ?_
 intro W base args ds gs before hval0 hW _ hsz0 _;clear hsz0;have fD:∀ (j:Nat) t v,Tryz.f11.params[j]?=some t->args[j]?=some v->Value.okWide Tryz.prog W .any base t v:=hval0;have Mo:=hW;obtain⟨p,q,IC,hV,rfl,_,_⟩:=hW;have hA:DataW.TrodAll enc Tryz.prog W 0 (λ _=>true) true Tryz.f11.params.toList args.toList ds p:=IC;rw[Tryz.params11] at hA fD;obtain⟨v0,v1,v2,d0,d1,d2,p0,p1,p2,rfl,rfl,rfl,h0,h1,h2⟩:=z3g hA;obtain⟨rfl,rfl⟩:=trodVars_none hV;clear IC hval0;simp only[List.append_nil] at Mo;have bP:∀ x∈p0++(p1++p2),x.block<W.heap.size:=λ x hx=>by simpa using Mo.lt x hx
 obtain⟨a0,n0,c0,rfl⟩:=okWide_slice Tryz.underlying28 (fD 0 28 v0 rfl rfl);obtain⟨k1,rfl⟩:=okWide_int Tryz.underlying3 (fD 1 3 v1 rfl rfl);have de:=zvv h1;obtain⟨k2,rfl⟩:=okWide_int Tryz.underlying3 (fD 2 3 v2 rfl rfl);have cN:=zvv h2;have uc:∀ (W':W8),Below W.heap.size W W'->DataW.Trod enc Tryz.prog W' 0 (λ b=>decide (b<W.heap.size)) true 28 (.slice a0 n0 c0) d0 p0:=
  λ W' hn=>Below.trod z9h (by kernel_rfl) (of_decide_eq_true (by kernel_rfl)) h0 hn (λ x hx=>bP x (by simp[hx]))
 have ud:∀ (W':W8),Below W.heap.size W W'->DataW.Trod enc Tryz.prog W' 0 (λ b=>decide (b<W.heap.size)) true 3 (.int .i64 k1) d1 p1:=
  λ W' hn=>Below.trod z9h (by kernel_rfl) (of_decide_eq_true (by kernel_rfl)) h1 hn (λ x hx=>bP x (by simp[hx]))
 have kO:∀ (W':W8),Below W.heap.size W W'->DataW.Trod enc Tryz.prog W' 0 (λ b=>decide (b<W.heap.size)) true 3 (.int .i64 k2) d2 p2:=
  λ W' hn=>Below.trod z9h (by kernel_rfl) (of_decide_eq_true (by kernel_rfl)) h2 hn (λ x hx=>bP x (by simp[hx]))
 obtain⟨jz,uD,R,hR⟩:=zxp h0;refine (ztj W a0 n0 c0 R hR jz uD k1 k2 de cN).mono λ e W' ⟨he,hB⟩=>?_
 subst he;exact⟨_,rfl,⟨_,_,_,[],p0++(p1++p2),[],Mo,trodAll_mk1 (shut_bool Tryz.underlying4 true),⟨_,_,uc _ hB,trodAll_mk2 (ud _ hB) (kO _ hB),rfl⟩,rfl,hB.frame _,λ h=>by cases h⟩⟩
theorem matched_holds:Rows.MatchedSaid:=
 OpenClaim.holds_of_wide 11 Tryz.f11 rfl rfl rfl rfl rfl rfl rfl ⟨rfl,rfl,rfl,rfl,rfl⟩ rfl rfl rfl rfl rfl zm3 Tryz.func11 zpd
  (of_decide_eq_true (by kernel_rfl)) (by unfold Func.isWrapper;first | (rw[if_pos (by decide +kernel)];kernel_rfl) | (rw[if_neg (by decide +kernel)];exact⟨rfl,rfl⟩))
  (λ os started H enc _=>zm4 os started H enc)
#print axioms matched_holds
end
end Go.Proofs.YtldkpahaocjdpaaGreat
