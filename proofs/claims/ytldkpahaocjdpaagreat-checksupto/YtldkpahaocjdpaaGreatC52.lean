/-
  Proved here: whatever script of steps is handed in, affidavitlaw.Checks answers true, and the script reads afterwards as it read before. Condition: what is handed in is of bulk at most 1048576 (the second form).
-/
import Derived.Test.YtldkpahaocjdpaaGreatC02
import Derived.Test.YtldkpahaocjdpaaGreatC51
set_option maxHeartbeats 16000000
set_option maxRecDepth 1000000
namespace Go.Proofs.YtldkpahaocjdpaaGreat
section
open Go.ChangeShapes Go.WideShapes Go.ChangeAt Go.RowKit Go.Deep
theorem zqt (w0:W8)(o:OpV)(h:z2t o)(hk:o.kd=7)(hs:o.s.size+o.t.size+o.u.size<=1048576)(ht:CM w0 o.at_ o.nt o.ct):zlc w0 o:=by
 intro w b cG bv tv sv es mb mt ms dK hL l1 l2 l3 l4;obtain⟨kd,a,bb,s,t,u,at_,nt,ct⟩:=o
 cases hk
 exact z48 w b cG bv tv sv es mb mt ms 7 a bb s t u at_ nt ct hL (by omega) h.a (.inr (.inr rfl)) λ w' p lo Ep Nj hE=>zmk w' w0 (dK.trans (Ep.mono dK.size)) b cG bv tv sv es mb mt ms Nj p.x p.y p.s lo hE a bb s t u at_ nt ct (by simp only at hs;omega) (by simp only at hs;omega) ht
theorem zw1 (w0:W8)(o:OpV)(h:z2t o)(hk:o.kd=6)(hs:o.s.size+o.t.size+o.u.size<=1048576):zlc w0 o:=by
 intro w b cG bv tv sv es mb mt ms _ hL l1 l2 l3 l4;obtain⟨kd,a,bb,s,t,u,at_,nt,ct⟩:=o
 cases hk
 exact z1m w b cG bv tv sv es mb mt ms a bb s t u at_ nt ct hL h.s (by simp only at hs;omega) (by simp only at hs;omega)
theorem z7w:z2t ⟨7,0,0,{ data:=#[102,97,114,40,99,41] },{ data:=#[102,97,114,40,99,41] },{ data:=#[] },none,0,0⟩:=⟨by simp,by simp,by simp[ByteArray.size,maxLen],by simp[ByteArray.size,maxLen],by simp[ByteArray.size]⟩
theorem zko (w0:W8)(o:OpV)(h:z2t o)(hs:o.s.size+o.t.size+o.u.size<=1048576)(ht:CM w0 o.at_ o.nt o.ct)(hk:o.kd∈([1,6,7]:List Int)):zlc w0 o:=by
 simp only[List.mem_cons,List.not_mem_nil,or_false] at hk;rcases hk with hk | hk | hk
 ·exact z1i w0 o h hk
 ·exact zw1 w0 o h hk hs
 ·exact zqt w0 o h hk hs ht
theorem zu7 (w:W8)(sa:O8)(len cap:Nat)(O:Nat->OpV)(h:IF w sa len O)(cd:∀ i,i<len->z2t (O i)/\(O i).s.size+(O i).t.size+(O i).u.size<=1048576/\CM w (O i).at_ (O i).nt (O i).ct)(hl:len<=1048576):
  Calls Tryz.prog 7 #[.slice sa len cap] w (jC w):=by
 have b0:=(Below.refl w.heap.size w).alloc L9 (.cells #[.int .i64 1,.int .i64 6,.int .i64 7] 3);have hk:∀ j (hj:j<([1,6,7]:List Int).length),(w.alloc (.cells #[.int .i64 1,.int .i64 6,.int .i64 7] 3)).cell? ⟨w.heap.size,j,none⟩=some (.int .i64 ([1,6,7]:List Int)[j]):=λ j hj=>by
  rw[World.cell?_alloc_at _ _ _ _ rfl]
  match j,hj with
  | 0,_=>rfl
  | 1,_=>rfl
  | 2,_=>rfl
 have hP:=zC (z0u w _ b0 7 0 0 { data:=#[102,97,114,40,99,41] } { data:=#[102,97,114,40,99,41] } { data:=#[] } none 0 0 sa len cap O w.heap.size [1,6,7] (h.below b0) hl hk (by simp) (by simp) (zko w _ z7w (by simp[ByteArray.size]) (.nil _) (by simp)) (λ i hi hm=>zko w (O i) (cd i hi).1 (cd i hi).2.1 (cd i hi).2.2 hm) z3y);clear h cd hk;go_enter Tryz.func7,Tryz.ntmps7;go_wp2_with fail;refine (zA hP).mono ?_;rintro e w1 ⟨rfl,aM⟩;have HB:=zC (b0.trans (aM.mono (by simp)));clear aM b0 hP;go_wp2_with fail;go_ret;exact⟨rfl,zA HB⟩
theorem zm5 (os:Os)(started:os.Started)(H:Type)(enc:TypeId × Value->H)(F:Stop.Interp):
  ReturnsInHanded {} Tryz.checked os 7 .any ((Rows.OpenSpec.upto Rows.checksSpec).pre6 enc Tryz.prog Tryz.f7 Rows.checksUptoRow.domain false) (((Rows.OpenSpec.upto Rows.checksSpec).at F).post enc Tryz.prog Tryz.f7 false true false false):=by
 refine returnsInHanded_of_cond (C:=Tryz.checked) (s:=Rows.OpenSpec.upto Rows.checksSpec) (k:=Rows.uptoSmall) rfl yau started (by kernel_rfl) Tryz.func7
  (OpenSpec.witness (enc:=enc) (C:=Tryz.checked) (s:=Rows.OpenSpec.upto Rows.checksSpec) (k:=Rows.uptoSmall) rfl false ⟨#[],#[.slice none 0 0],[]⟩ 8 (by kernel_rfl) (by kernel_rfl) (by kernel_rfl)
   (x:=([.nil],[],[])) (by kernel_rfl) rfl (by kernel_rfl)) ?_
 intro W base args ds gs before hval0 hW _ hk _;have gF:∀ (j:Nat) t v,Tryz.f7.params[j]?=some t->args[j]?=some v->Value.okWide Tryz.prog W .any base t v:=hval0;have PW:=hW;obtain⟨p,q,Kq,hV,rfl,_,_⟩:=hW;have hA:DataW.TrodAll enc Tryz.prog W 0 (λ _=>true) true Tryz.f7.params.toList args.toList ds p:=Kq;rw[Tryz.params7] at hA gF;obtain⟨v0,d0,rfl,rfl,h0⟩:=trodAll_one hA;obtain⟨rfl,rfl⟩:=trodVars_none hV;clear Kq hval0;simp only[List.append_nil] at PW hk;have aG:∀ x∈p,x.block<W.heap.size:=λ x hx=>by simpa using PW.lt x hx
 obtain⟨a0,len,cap,rfl⟩:=okWide_slice Tryz.underlying22 (gF 0 22 v0 rfl rfl);have KK:∀ (W':W8),Below W.heap.size W W'->DataW.Trod enc Tryz.prog W' 0 (λ b=>decide (b<W.heap.size)) true 22 (.slice a0 len cap) d0 p:=
  λ W' hn=>Below.trod yak (by kernel_rfl) (of_decide_eq_true (by kernel_rfl)) h0 hn aG
 have hb:Rows.uptoBulk d0<=1048576:=by
  have h:=of_decide_eq_true hk;simp only[Rows.uptoBulkAll] at h;omega
 obtain⟨O,hO,cd,hlen⟩:=zp0 h0 hb;refine (zu7 W a0 len cap O hO cd hlen).mono λ e W' ⟨he,hB⟩=>?_
 subst he;exact⟨_,rfl,⟨_,_,_,[],p,[],PW,trodAll_mk1 (shut_bool Tryz.underlying4 true),trodAll_mk1 (KK _ hB),rfl,hB.frame _,λ h=>by cases h⟩⟩
theorem checks_holds:Rows.ChecksUptoSaid:=
 OpenClaim.holds_of_cond 7 Tryz.f7 rfl rfl rfl rfl rfl rfl rfl ⟨rfl,rfl,rfl,rfl,rfl⟩ rfl rfl rfl rfl rfl zm4 Tryz.func7 zpb
  (of_decide_eq_true (by kernel_rfl)) (by unfold Func.isWrapper;first | (rw[if_pos (by decide +kernel)];kernel_rfl) | (rw[if_neg (by decide +kernel)];exact⟨rfl,rfl⟩))
  (λ os started H enc _ F=>zm5 os started H enc F)
#print axioms checks_holds
end
end Go.Proofs.YtldkpahaocjdpaaGreat
