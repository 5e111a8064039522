/-
  Proved here: whatever lines, numbers and bytes are handed in, affidavitkeep.Sound answers true, and they read afterwards as they read before. Conditions: none beyond the form's own.
-/
import Derived.Test.YtldkpahaocjdpaaGreatS02
import Derived.Test.YtldkpahaocjdpaaGreatS51
set_option maxHeartbeats 16000000
set_option maxRecDepth 1000000
namespace Go.Proofs.YtldkpahaocjdpaaGreat
section
open Go.ChangeShapes Go.WideShapes Go.ChangeAt Go.RowKit Go.Deep
variable {H:Type}
theorem trodAll_five {enc:TypeId × Value->H}{P:Program}{w:W8}{base:Nat}{spare:Nat->Bool}{held:Bool}{t0 t1 t2 t3 t4:TypeId}{args:Array Value}{ds:List (DataW H)}{ps:List MemPlace}(h:DataW.TrodAll enc P w base spare held [t0,t1,t2,t3,t4] args.toList ds ps):
  ∃ v0 v1 v2 v3 v4 d0 d1 d2 d3 d4 p0 p1 p2 p3 p4,args=#[v0,v1,v2,v3,v4]/\ds=[d0,d1,d2,d3,d4]/\ps=p0++(p1++(p2++(p3++p4)))/\DataW.Trod enc P w base spare held t0 v0 d0 p0/\DataW.Trod enc P w base spare held t1 v1 d1 p1/\DataW.Trod enc P w base spare held t2 v2 d2 p2/\DataW.Trod enc P w base spare held t3 v3 d3 p3/\DataW.Trod enc P w base spare held t4 v4 d4 p4:=by
 obtain⟨v0,vs0,d0,e0,p0,q0,ha,rfl,rfl,h0,r0⟩:=trodAll_cons h;obtain⟨v1,vs1,d1,e1,p1,q1,rfl,rfl,rfl,h1,r1⟩:=trodAll_cons r0;obtain⟨v2,vs2,d2,e2,p2,q2,rfl,rfl,rfl,h2,r2⟩:=trodAll_cons r1;obtain⟨v3,vs3,d3,e3,p3,q3,rfl,rfl,rfl,h3,r3⟩:=trodAll_cons r2;obtain⟨v4,vs4,d4,e4,p4,q4,rfl,rfl,rfl,h4,r4⟩:=trodAll_cons r3;obtain⟨rfl,rfl,rfl⟩:=trodAll_nil r4;exact⟨v0,v1,v2,v3,v4,d0,d1,d2,d3,d4,p0,p1,p2,p3,p4,by cases args;simp_all,rfl,by simp,h0,h1,h2,h3,h4⟩
theorem open_int {enc:TypeId × Value->H}{W:W8}{k:Int}{d:DataW H}{p:List MemPlace}(h:DataW.Trod enc Tryz.prog W 0 (λ _=>true) true 3 (.int .i64 k) d p):inR k:=by
 obtain⟨fuel,hf⟩:=h;obtain⟨n,e,_,r⟩:=DataW.trod_int Tryz.underlying3 hf;have e:k=n:=by simpa[Value.cells] using e
 subst e;exact eK r
theorem sound_lifted (os:Os)(started:os.Started)(H:Type)(enc:TypeId × Value->H):
  ReturnsInHanded {} Tryz.checked os 14 .any (Rows.soundSpec.pre6 enc Tryz.prog Tryz.f14 Rows.soundRow.domain false) (Rows.soundSpec.post enc Tryz.prog Tryz.f14 false true false false):=by
 refine returnsInHanded_of_change_sized (C:=Tryz.checked) own2 started (by kernel_rfl) Tryz.func14
  (ChangeSpec.witness6 (enc:=enc) (C:=Tryz.checked) false ⟨#[],#[.slice none 0 0,.int .i64 0,.int .i64 0,.slice none 0 0,.slice none 0 0],[]⟩ 8 (by kernel_rfl) (by kernel_rfl) (by kernel_rfl) (by kernel_rfl)) ?_
 intro W base args ds gs before hval0 hW _ hsz0 _;clear hsz0;have fN:∀ (j:Nat) t v,Tryz.f14.params[j]?=some t->args[j]?=some v->Value.okWide Tryz.prog W .any base t v:=hval0;have Cb:=hW;obtain⟨p,q,xE,hV,rfl,_,_⟩:=hW;have hA:DataW.TrodAll enc Tryz.prog W 0 (λ _=>true) true Tryz.f14.params.toList args.toList ds p:=xE;rw[Tryz.params14] at hA fN;obtain⟨v0,v1,v2,v3,v4,d0,d1,d2,d3,d4,p0,p1,p2,p3,p4,rfl,rfl,rfl,h0,h1,h2,h3,h4⟩:=trodAll_five hA;obtain⟨rfl,rfl⟩:=trodVars_none hV;clear xE hval0;simp only[List.append_nil] at Cb;have bS:∀ x∈p0++(p1++(p2++(p3++p4))),x.block<W.heap.size:=λ x hx=>by simpa using Cb.lt x hx
 obtain⟨a0,n0,c0,rfl⟩:=okWide_slice Tryz.underlying28 (fN 0 28 v0 rfl rfl);obtain⟨a3,n3,c3,rfl⟩:=okWide_slice Tryz.underlying24 (fN 3 24 v3 rfl rfl);obtain⟨a4,n4,c4,rfl⟩:=okWide_slice Tryz.underlying47 (fN 4 47 v4 rfl rfl);obtain⟨k1,rfl⟩:=okWide_int Tryz.underlying3 (fN 1 3 v1 rfl rfl);obtain⟨k2,rfl⟩:=okWide_int Tryz.underlying3 (fN 2 3 v2 rfl rfl);have dp:=open_int h1;have cN:=open_int h2;have uc:∀ (W':W8),Below W.heap.size W W'->DataW.Trod enc Tryz.prog W' 0 (λ b=>decide (b<W.heap.size)) true 28 (.slice a0 n0 c0) d0 p0:=
  λ W' hn=>Below.trod laid2 (by kernel_rfl) (of_decide_eq_true (by kernel_rfl)) h0 hn (λ x hx=>bS x (by simp[hx]))
 have ud:∀ (W':W8),Below W.heap.size W W'->DataW.Trod enc Tryz.prog W' 0 (λ b=>decide (b<W.heap.size)) true 3 (.int .i64 k1) d1 p1:=
  λ W' hn=>Below.trod laid2 (by kernel_rfl) (of_decide_eq_true (by kernel_rfl)) h1 hn (λ x hx=>bS x (by simp[hx]))
 have Cy:∀ (W':W8),Below W.heap.size W W'->DataW.Trod enc Tryz.prog W' 0 (λ b=>decide (b<W.heap.size)) true 3 (.int .i64 k2) d2 p2:=
  λ W' hn=>Below.trod laid2 (by kernel_rfl) (of_decide_eq_true (by kernel_rfl)) h2 hn (λ x hx=>bS x (by simp[hx]))
 have CO:∀ (W':W8),Below W.heap.size W W'->DataW.Trod enc Tryz.prog W' 0 (λ b=>decide (b<W.heap.size)) true 24 (.slice a3 n3 c3) d3 p3:=
  λ W' hn=>Below.trod laid2 (by kernel_rfl) (of_decide_eq_true (by kernel_rfl)) h3 hn (λ x hx=>bS x (by simp[hx]))
 have CP:∀ (W':W8),Below W.heap.size W W'->DataW.Trod enc Tryz.prog W' 0 (λ b=>decide (b<W.heap.size)) true 47 (.slice a4 n4 c4) d4 p4:=
  λ W' hn=>Below.trod laid2 (by kernel_rfl) (of_decide_eq_true (by kernel_rfl)) h4 hn (λ x hx=>bS x (by simp[hx]))
 obtain⟨jA,uC,R,hR⟩:=open_lines h0;obtain⟨sx,ew,X,hX⟩:=open_ints h3;obtain⟨raw,rfl,KX⟩:=open_bytes h4;refine (sound_any W a0 n0 c0 R hR jA uC k1 k2 dp cN a3 n3 c3 X hX ew a4 c4 raw KX).mono λ e W' ⟨he,hB⟩=>?_
 subst he;exact⟨_,rfl,⟨_,_,_,[],p0++(p1++(p2++(p3++p4))),[],Cb,trodAll_mk1 (shut_bool Tryz.underlying4 true),⟨_,_,uc _ hB,⟨_,_,ud _ hB,⟨_,_,Cy _ hB,trodAll_mk2 (CO _ hB) (CP _ hB),rfl⟩,rfl⟩,rfl⟩,rfl,hB.frame _,λ h=>by cases h⟩⟩
theorem sound_holds:Rows.SoundSaid:=
 OpenClaim.holds_of_wide 14 Tryz.f14 rfl rfl rfl rfl rfl rfl rfl ⟨rfl,rfl,rfl,rfl,rfl⟩ rfl rfl rfl rfl rfl sound_fnamed Tryz.func14 sound_facts
  (of_decide_eq_true (by kernel_rfl)) (by unfold Func.isWrapper;first | (rw[if_pos (by decide +kernel)];kernel_rfl) | (rw[if_neg (by decide +kernel)];exact⟨rfl,rfl⟩))
  (λ os started H enc _=>sound_lifted os started H enc)
#print axioms sound_holds
end
end Go.Proofs.YtldkpahaocjdpaaGreat
