/-
  Proved here: whatever script of steps is handed in, affidavitlaw.Explains answers true, and the script reads afterwards as it read before. Condition: what is handed in is of bulk at most 1048576 (the second form).
-/
import Derived.Test.YtldkpahaocjdpaaGreatE02
import Derived.Test.YtldkpahaocjdpaaGreatE51
set_option maxHeartbeats 16000000
set_option maxRecDepth 1000000
namespace Go.Proofs.YtldkpahaocjdpaaGreat
section
open Go.ChangeShapes Go.WideShapes Go.ChangeAt Go.RowKit Go.Deep
theorem zsz (w0:W8)(o:OpV)(h:z9h o)(hk:o.kd=5)(hs:o.s.size<=2000000):zq1 w0 o:=by
 intro w b bz bv tv sv es mb mt ms _ hL l1 l2 l3 l4;obtain⟨kd,a,bb,s,t,u,at_,nt,ct⟩:=o
 cases hk
 exact z8s w b bz bv tv sv es mb mt ms 5 a bb s t u at_ nt ct hL (by omega) h.a (.inr (.inl rfl)) λ w' p lo MX hE=>zo2 w' b bz bv tv sv es mb mt ms MX p.x p.y p.s lo hE (by omega) a bb s t u at_ nt ct hs
theorem ybq:z9h ⟨5,0,10,{ data:=#[102,97,114,40,99,41] },{ data:=#[] },{ data:=#[] },none,0,0⟩:=⟨by simp,by simp,by simp[ByteArray.size,maxLen],by simp[ByteArray.size],by simp[ByteArray.size]⟩
theorem zik (w0:W8)(o:OpV)(h:z9h o)(hs:o.s.size<=2000000)(hk:o.kd∈([1,5]:List Int)):zq1 w0 o:=by
 simp only[List.mem_cons,List.not_mem_nil,or_false] at hk;rcases hk with hk | hk
 ·exact z41 w0 o h hk
 ·exact zsz w0 o h hk hs
theorem zrf (w:W8)(sa:O8)(len cap:Nat)(O:Nat->OpV)(h:H7 w sa len O)(bR:∀ i,i<len->z9h (O i)/\(O i).s.size+(O i).t.size+(O i).u.size<=1048576)(hl:len<=1048576):
  Calls Tryz.prog 6 #[.slice sa len cap] w (jT w):=by
 have b0:=(Below.refl w.heap.size w).alloc L9 (.cells #[.int .i64 1,.int .i64 5] 3);have hk:∀ j (hj:j<([1,5]:List Int).length),(w.alloc (.cells #[.int .i64 1,.int .i64 5] 3)).cell? ⟨w.heap.size,j,none⟩=some (.int .i64 ([1,5]:List Int)[j]):=λ j hj=>by
  rw[World.cell?_alloc_at _ _ _ _ rfl]
  match j,hj with
  | 0,_=>rfl
  | 1,_=>rfl
 have hP:=zC (z4c w _ b0 5 0 10 { data:=#[102,97,114,40,99,41] } { data:=#[] } { data:=#[] } none 0 0 sa len cap O w.heap.size [1,5] (h.below b0) hl hk (by simp) (by simp) (zik w _ ybq (by simp[ByteArray.size]) (by simp)) (λ i hi hm=>zik w (O i) (bR i hi).1 (by have:=(bR i hi).2;omega) hm) z7f);clear h bR hk;go_enter Tryz.func6,Tryz.ntmps6;go_wp2_with fail;refine (zA hP).mono ?_;rintro e w1 ⟨rfl,aL⟩;have HB:=zC (b0.trans (aL.mono (by simp)));clear aL b0 hP;go_wp2_with fail;go_ret;exact⟨rfl,zA HB⟩
theorem zlu (os:Os)(started:os.Started)(H:Type)(enc:TypeId × Value->H)(F:Stop.Interp):
  ReturnsInHanded {} Tryz.checked os 6 .any ((Rows.OpenSpec.upto Rows.explainsSpec).pre6 enc Tryz.prog Tryz.f6 Rows.explainsUptoRow.domain false) (((Rows.OpenSpec.upto Rows.explainsSpec).at F).post enc Tryz.prog Tryz.f6 false true false false):=by
 refine returnsInHanded_of_cond (C:=Tryz.checked) (s:=Rows.OpenSpec.upto Rows.explainsSpec) (k:=Rows.uptoSmall) rfl yet started (by kernel_rfl) Tryz.func6
  (OpenSpec.witness (enc:=enc) (C:=Tryz.checked) (s:=Rows.OpenSpec.upto Rows.explainsSpec) (k:=Rows.uptoSmall) rfl false ⟨#[],#[.slice none 0 0],[]⟩ 8 (by kernel_rfl) (by kernel_rfl) (by kernel_rfl)
   (x:=([.nil],[],[])) (by kernel_rfl) rfl (by kernel_rfl)) ?_
 intro W base args ds gs before hval0 hW _ hk _;have dA:∀ (j:Nat) t v,Tryz.f6.params[j]?=some t->args[j]?=some v->Value.okWide Tryz.prog W .any base t v:=hval0;have PA:=hW;obtain⟨p,q,D8,hV,rfl,_,_⟩:=hW;have hA:DataW.TrodAll enc Tryz.prog W 0 (λ _=>true) true Tryz.f6.params.toList args.toList ds p:=D8;rw[Tryz.params6] at hA dA;obtain⟨v0,d0,rfl,rfl,h0⟩:=trodAll_one hA;obtain⟨rfl,rfl⟩:=trodVars_none hV;clear D8 hval0;simp only[List.append_nil] at PA hk;have aH:∀ x∈p,x.block<W.heap.size:=λ x hx=>by simpa using PA.lt x hx
 obtain⟨a0,len,cap,rfl⟩:=okWide_slice Tryz.underlying22 (dA 0 22 v0 rfl rfl);have Kj:∀ (W':W8),Below W.heap.size W W'->DataW.Trod enc Tryz.prog W' 0 (λ b=>decide (b<W.heap.size)) true 22 (.slice a0 len cap) d0 p:=
  λ W' hn=>Below.trod yeh (by kernel_rfl) (of_decide_eq_true (by kernel_rfl)) h0 hn aH
 have hb:Rows.uptoBulk d0<=1048576:=by
  have h:=of_decide_eq_true hk;simp only[Rows.uptoBulkAll] at h;omega
 obtain⟨O,hO,bR,hlen⟩:=zsa h0 hb;refine (zrf W a0 len cap O hO bR hlen).mono λ e W' ⟨he,hB⟩=>?_
 subst he;exact⟨_,rfl,⟨_,_,_,[],p,[],PA,trodAll_mk1 (shut_bool Tryz.underlying4 true),trodAll_mk1 (Kj _ hB),rfl,hB.frame _,λ h=>by cases h⟩⟩
theorem explains_holds:Rows.ExplainsUptoSaid:=
 OpenClaim.holds_of_cond 6 Tryz.f6 rfl rfl rfl rfl rfl rfl rfl ⟨rfl,rfl,rfl,rfl,rfl⟩ rfl rfl rfl rfl rfl zlt Tryz.func6 znk
  (of_decide_eq_true (by kernel_rfl)) (by unfold Func.isWrapper;first | (rw[if_pos (by decide +kernel)];kernel_rfl) | (rw[if_neg (by decide +kernel)];exact⟨rfl,rfl⟩))
  (λ os started H enc _ F=>zlu os started H enc F)
#print axioms explains_holds
end
end Go.Proofs.YtldkpahaocjdpaaGreat
