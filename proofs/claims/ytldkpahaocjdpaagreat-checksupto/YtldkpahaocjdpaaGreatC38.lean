/-
  The order of rows of numbers.
-/
import Derived.Calls
import Derived.Test.YtldkpahaocjdpaaGreatC32
import Derived.Lib.BufferWrite
set_option maxHeartbeats 16000000
set_option maxRecDepth 1000000
namespace Go.Proofs.YtldkpahaocjdpaaGreat
section
def zk5:List Nat->List Nat->Bool
 | [],[]=>false
 | [],_::_=>true
 | _::_,[]=>false
 | a::x,b::y=>if a<b then true else if b<a then false else zk5 x y
theorem znj:∀ x:List Nat,zk5 x x=false
 | []=>rfl
 | a::x=>by rw[zk5,if_neg (Nat.lt_irrefl a),if_neg (Nat.lt_irrefl a)];exact znj x
theorem zln:∀ {x y z:List Nat},zk5 x y=true->zk5 y z=true->zk5 x z=true
 | [],[],_,h,_=>by cases h
 | [],_::_,[],_,h=>by cases h
 | [],_::_,_::_,_,_=>rfl
 | _::_,[],_,h,_=>by cases h
 | _::_,_::_,[],_,h=>by cases h
 | a::x,b::y,c::z,h,k=>by
  rw[zk5] at h k ⊢
  by_cases h1:a<b
  ·by_cases h2:b<c
   ·rw[if_pos (by omega)]
   ·rw[if_neg h2] at k
    by_cases h3:c<b
    ·rw[if_pos h3] at k;cases k
    ·rw[if_pos (by omega)]
  ·rw[if_neg h1] at h
   by_cases h4:b<a
   ·rw[if_pos h4] at h;cases h
   ·rw[if_neg h4] at h;have:a=b:=by omega
    subst this
    by_cases h2:a<c
    ·rw[if_pos h2]
    ·rw[if_neg h2] at k ⊢
     by_cases h3:c<a
     ·rw[if_pos h3] at k;cases k
     ·rw[if_neg h3] at k ⊢;exact zln h k
theorem ztp:∀ {x y:List Nat} (u v:List Nat),x.length=y.length->zk5 x y=true->zk5 (x++u) (y++v)=true
 | [],[],_,_,_,h=>by cases h
 | [],_::_,_,_,hl,_=>by cases hl
 | _::_,[],_,_,hl,_=>by cases hl
 | a::x,b::y,u,v,hl,h=>by
  rw[zk5] at h;rw[List.cons_append,List.cons_append,zk5]
  by_cases h1:a<b
  ·rw[if_pos h1]
  ·rw[if_neg h1] at h ⊢
   by_cases h2:b<a
   ·rw[if_pos h2] at h;cases h
   ·rw[if_neg h2] at h ⊢;exact ztp u v (by simpa using hl) h
theorem zpk:∀ (x:List Nat) {i j:Nat},i<j->zk5 (x++[i]) (x++[j])=true
 | [],i,j,h=>by simp[zk5,h]
 | a::x,i,j,h=>by
  rw[List.cons_append,List.cons_append,zk5,if_neg (Nat.lt_irrefl a),if_neg (Nat.lt_irrefl a)];exact zpk x h
end
section
open Go.RowKit
def zxj (l:List Nat):V8:=l.map λ (x:Nat)=>Value.int .i64 x
end
section
open Go.RowKit
def zc4 (n:Nat)(f:Nat->Value):Array Value:=((List.range n).map f).toArray
theorem za4 (n:Nat)(f:Nat->Value):(zc4 n f).size=n:=by simp[zc4]
variable {i n:Nat} {f:Nat->Value}
theorem zet (h:i<n):(zc4 n f)[i]?=some (f i):=by
 simp[zc4,h]
theorem zfx (n:Nat)(z:Value):madeCells #[z] n=zc4 n (λ _=>z):=by
 apply Array.ext_getElem?;intro i
 by_cases h:i<n
 ·rw[N6 z n i h,zet h]
 ·rw[Array.getElem?_eq_none (by simp[madeCells];omega),Array.getElem?_eq_none (by rw[za4];omega)]
theorem zvm {v:Value}:(zc4 n f).setIfInBounds i v=zc4 n (λ j=>if j=i then v else f j):=by
 apply Array.ext_getElem?;intro j;rw[Array.getElem?_setIfInBounds]
 by_cases h:j<n
 ·rw[zet h,zet h]
  split
  ·rename_i e;subst e;rw[if_pos (by rw[za4];exact h),if_pos rfl]
  ·rename_i e;rw[if_neg (λ e'=>e e'.symm)]
 ·rw[Array.getElem?_eq_none (xs:=zc4 n f) (by rw[za4];omega),Array.getElem?_eq_none (by rw[za4];omega)]
  split
  ·rename_i e;subst e;rw[if_neg (by rw[za4];exact h)]
  ·rfl
def ql (w:W8)(b:Nat)(T:TypeId)(n:Nat)(f:Nat->Value):Prop:=w.heap[b]?=some (.cells (zc4 n f) T (0,0))
theorem ql.start (w:W8)(T:TypeId)(n:Nat)(z:Value):ql (w.alloc (.cells (madeCells #[z] n) T)) w.heap.size T n (λ _=>z):=by
 unfold ql;rw[<-zfx];exact heap_alloc_new w _
variable {T:TypeId} {b:Nat} {w:W8}
theorem ql.set (h:ql w b T n f)(i:Nat)(v:Value):ql (w.setCell ⟨b,i,none⟩ v) b T n (λ j=>if j=i then v else f j):=by
 unfold ql;rw[setCell_eq_setRow w b i _ T (0,0) v h,<-zvm];exact setRow_heap _ _ _ _ _ _ h
theorem ql.cell (h:ql w b T n f)(hi:i<n):w.cell? ⟨b,i,none⟩=some (f i):=by
 rw[(zB h i).1,zet hi]
theorem ql.fz (h:ql w b T n f)(i:Nat):w.frozen? ⟨b,i,none⟩=false:=(zB h i).2
theorem ql.lt (h:ql w b T n f):b<w.heap.size:=(Array.getElem?_eq_some_iff.1 h).1
theorem ql.below {w':W8}(h:ql w b T n f)(k:Below w.heap.size w w'):ql w' b T n f:=(k.block b h.lt).trans h
end
section
open Go.RowKit
structure Pl where
 t:Th
 s:Nat
 h:Nat
instance:Inhabited Pl:=⟨⟨({ data:=#[] },[]),0,0⟩⟩
end
section
open Go.RowKit
structure nJ (w:W8)(a:O8)(c:Nat)(bs:List Nat):Prop where
 cap:bs.length<=c
 max:c<=maxLen
 byte:∀ x∈bs,x<256
 at_:0<bs.length->∃ g o,a=some ⟨g,o,none⟩/\g<w.heap.size/\∀ (j:Nat) (h:j<bs.length),w.cell? ⟨g,o+j,none⟩=some (.int .u8 (bs[j]:Nat))
variable {bs:List Nat} {c:Nat} {w:W8}
theorem nJ.below {w':W8}{a:O8}(h:nJ w a c bs)(k:Below w.heap.size w w'):nJ w' a c bs:=
 ⟨h.cap,h.max,h.byte,λ h0=>let ⟨g,o,e,hg,hc⟩:=h.at_ h0;⟨g,o,e,Nat.lt_of_lt_of_le hg k.size,λ j hj=>(k.cell (p:=⟨g,o+j,none⟩) hg).trans (hc j hj)⟩⟩
theorem nJ.drop {g o:Nat}(h:nJ w (some ⟨g,o,none⟩) c bs)(n:Nat):nJ w (some ⟨g,o+n,none⟩) (c-n) (bs.drop n):=by
 refine⟨by rw[List.length_drop];have:=h.cap;omega,by have:=h.max;omega,λ x hx=>h.byte x (List.mem_of_mem_drop hx),λ h0=>?_⟩;rw[List.length_drop] at h0;obtain⟨g',o',e,hg,hc⟩:=h.at_ (by omega);injection e with e
 injection e with e1 e2
 subst e1 e2;refine⟨g,o+n,rfl,hg,λ j hj=>?_⟩;rw[List.length_drop] at hj;have:=hc (n+j) (by omega);rw[List.getElem_drop,show o+n+j=o+(n+j) by omega];exact this
theorem nJ.none (a:O8)(c:Nat)(hc:c<=maxLen):nJ w a c []:=⟨Nat.zero_le _,hc,by simp,λ h=>by simp at h⟩
end
section
open Go.RowKit
noncomputable def z58 (k:Nat):Code:=((Tryz.f191.body.map zbf).getD []).getD k .skip
theorem z9n (w:W8)(g o c:Nat)(bs:List Nat)(hb:nJ w (some ⟨g,o,none⟩) c bs)(i M:Nat)(hi:i+1+M<=bs.length)(hM:M<=3)
  {Q:Exit->Act->W8->Prop} {c0 c2 c3 c4 c5 c6 c7 c8 eQ gM eJ eY fZ eL dU dR dx dy dz dA dB dC dD dE dF dG dL dM dN dO dP dV dW dX ee eg ei eo ep ev dd ew ey ez eA dY dZ eD eE dQ eZ fa fc di fe fg fh fi fj fl fm fo fp fH fI fJ fK fL gd gh gi gj gq gu gv fM fN fq ft fu fO fP fQ fR fU fV fW fX gw gy gz gA gB gC gD cg bq br bt bu bx bz bC bU bV bW bX bD bE bG bH bI bJ bK bL bM bj bk bn bN bO bP bQ aZ aW cH cI cJ cK cL:Value}
  (aJ:∀ (FN:Value) (w2:W8) (oj u64 sE sF sG pV pW pX pY pZ ou ov ow ox oy oz oA:Value),w2.ownsRow w.heap.size 3 1 FN M (zng ((bs.drop (i+1)).take M))->Below w.heap.size w w2->Q (.exit 2) ⟨List.toArray (c0::.slice (some ⟨g,o,none⟩) bs.length c::c2::c3::c4::c5::c6::c7::c8::.int .i64 i::eQ::gM::.int .i64 M::FN::oj::eJ::eY::fZ::eL::dU::dR::dx::dy::dz::dA::dB::dC::dD::dE::dF::dG::dL::dM::dN::dO::dP::dV::dW::dX::ee::eg::ei::eo::ep::ev::dd::ew::ey::ez::eA::dY::dZ::eD::eE::dQ::eZ::fa::fc::di::fe::fg::fh::fi::fj::u64::sE::sF::sG::pV::pW::pX::pY::pZ::ou::ov::ow::ox::oy::oz::oA::fM::fN::fq::ft::fu::fO::fP::fQ::fR::fU::fV::fW::fX::gw::gy::gz::gA::gB::gC::gD::cg::bq::br::bt::bu::bx::bz::bC::bU::bV::bW::bX::bD::bE::bG::bH::bI::bJ::bK::bL::bM::bj::bk::bn::bN::bO::bP::bQ::aZ::aW::cH::cI::cJ::cK::cL::[]),[]⟩ w2):
  Code.wp Tryz.prog (Code.loop (z58 1)) Q ⟨List.toArray (c0::.slice (some ⟨g,o,none⟩) bs.length c::c2::c3::c4::c5::c6::c7::c8::.int .i64 i::eQ::gM::.int .i64 M::.slice none 0 0::.int .i64 (0:Nat)::eJ::eY::fZ::eL::dU::dR::dx::dy::dz::dA::dB::dC::dD::dE::dF::dG::dL::dM::dN::dO::dP::dV::dW::dX::ee::eg::ei::eo::ep::ev::dd::ew::ey::ez::eA::dY::dZ::eD::eE::dQ::eZ::fa::fc::di::fe::fg::fh::fi::fj::fl::fm::fo::fp::fH::fI::fJ::fK::fL::gd::gh::gi::gj::gq::gu::gv::fM::fN::fq::ft::fu::fO::fP::fQ::fR::fU::fV::fW::fX::gw::gy::gz::gA::gB::gC::gD::cg::bq::br::bt::bu::bx::bz::bC::bU::bV::bW::bX::bD::bE::bG::bH::bI::bJ::bK::bL::bM::bj::bk::bn::bN::bO::bP::bQ::aZ::aW::cH::cI::cJ::cK::cL::[]),[]⟩ w:=by
 conv=>arg 2;arg 1;whnf
 have pe:=hb.cap;have re:=hb.max;unfold maxLen at re;have HB:=zC hb;have HX:=zC aJ;obtain⟨i0,tI,cQ,cz,cx⟩:=info_parts zj3;clear hb aJ
 go_loopg [13,14] M (λ gg v kk wr=>∃ k:Nat,k<=M/\gg=M-k/\kk=.int .i64 k/\wr.ownsRow w.heap.size 3 1 v k (zng ((bs.drop (i+1)).take k))/\Below w.heap.size w wr)
 exact⟨0,Nat.zero_le _,rfl,rfl,World.ownsRow_nil _ _ _ _,Below.refl _ _⟩
 case round=>
  obtain⟨k,hk,iZ,rfl,aB,dh⟩:=hrel;obtain⟨a,cc,rfl⟩:=zD aB
  by_cases aE:k<M
  ·obtain⟨g',o',e1,uz,zo⟩:=((zA HB).below dh).at_ (by omega);injection e1 with e1
   injection e1 with e1 e2
   subst e1 e2;have cj:=zo (i+1+k) (by omega);have rM:bs[i+1+k]<256:=(zA HB).byte _ (List.getElem_mem (by omega))
   have HT:=zC (show (bs.drop (i+1)).take (k+1)=(bs.drop (i+1)).take k++[bs[i+1+k]] by
    rw[List.take_succ_eq_append_getElem (by rw[List.length_drop];omega),List.getElem_drop])
   generalize bs[i+1+k]=x at *;have bT:=aB.alloc (.cells #[.int .i64 (x:Nat)] 3);have dJ:=zC (World.news_of_block (heap_alloc_new wr (.cells #[.int .i64 (x:Nat)] 3)));have gL:=zC aB;have ly:=zC dh;have aT:=dh.size;have nC:(k:Int)<M:=(by omega);have IW:(i:Int)+1+k<bs.length:=(by omega);have T9:(0:Int)<=(i:Int)+1+k:=(by omega);clear aB dh zo;go_wp2_with (at_builtin;refine wpList_append_own _ rfl _ _ 24 rfl w.heap.size 3 i0 _ 1 8 Tryz.underlying24 tI cQ cz cx rfl (by decide) _ _ _ rfl bT ⟨wr.heap.size,0,none⟩ 1 1 [.int .i64 (x:Nat)] rfl rfl (zA dJ) (by intro u hu;rw[List.mem_singleton.1 hu];rfl) (by unfold maxLen;omega) (by omega) (by simp;omega) ?_;intro v6 w6 hown6 na hne6;clear hne6;obtain⟨a6,c6,rfl⟩:=zD hown6;have OQ:=zC hown6;have OB:=zC na;clear hown6 na);go_roundg (M-(k+1))
   case measure=>omega
   case rel=>
    have na:=zA OB;have dh:=(zA ly).alloc (zA ly).size (.cells #[.int .i64 (x:Nat)] 3);refine⟨k+1,by omega,rfl,by go_num,?_,⟨na.os.trans dh.os,na.tape.trans dh.tape,na.output.trans dh.output,Nat.le_trans dh.size na.size,λ j hj=>?_⟩⟩
    ·rw[zA HT];have:=zA OQ;unfold zng at this ⊢;rw[List.map_append];exact this
    ·rw[na.block j (by have:=dh.size;omega) (λ e=>by have:=((zA gL).lt j e.symm).1;omega)];exact dh.block j hj
  ·have XR:k=M:=(by omega);subst XR;have gL:=zC aB;have ly:=zC dh;clear aB dh;go_wp2_with fail;apply zA HX
   ·exact zA gL
   ·exact zA ly
end
section
open Go.RowKit
def zsi (id:Nat):Code->List Code
 | .region i ops b=>if i==id then [.region i ops b] else []
 | .loop c=>zsi id c
 | .seq a b=>zsi id a++zsi id b
 | .block _ c=>zsi id c
 | .cond _ a b=>zsi id a++zsi id b
 | _=>[]
noncomputable def z9o (id:Nat):Code:=((Tryz.f191.body.map (zsi id)).getD []).getD 0 .skip
theorem vV {P:Program}{ops:Array Oper}{Q:Exit->Act->W8->Prop}{md:Region.Mode}{S:W8->Prop}(i d:Nat)(v:Value){oi:Oper}{fuel:Nat}{lZ:Array Bool}{l:V8}{ds:List Deferred}{w:W8}(hi:ops[i]?=some oi)(hd:oi.dst=some d)
  (hs:Region.noSelect ops=true) (hf:Region.free md ops lZ i=true) (hr:(Region.ready md ops lZ).contains i=true) (hy:YieldsIf P ops S oi v ⟨l.toArray,ds⟩) (hS:S w)
  (h:wpAnyH P md ops (NoPanic Q) S fuel (lZ.setIfInBounds i true) ⟨(l.set d v).toArray,ds⟩ w):wpAnyH P md ops (NoPanic Q) S (fuel+1) lZ ⟨l.toArray,ds⟩ w:=
 wpAnyH_take hi hs hf hr (λ _ _ _ h=>h) hy hS (by rw[hd];simp only[Act.put,List.setIfInBounds_toArray];exact h)
theorem z7r (wG:W8)(o g oo nb c i bF gs np ix sx x n4 q4:Nat)(pd tx:B8)(fE:O8)(rM:x<256)(Qh:i<nb)(hZ:ix<np)
  (HK:Hid (∀ w':W8,Below wG.heap.size wG w'->w'.cell? ⟨bF,0,none⟩=some (.string pd)/\w'.cell? ⟨bF,1,none⟩=some (.slice fE n4 q4)/\w'.cell? ⟨bF,2,none⟩=some (.bool false)/\w'.cell? ⟨bF,3,none⟩=some (.int .i64 0)/\w'.cell? ⟨bF,4,none⟩=some (.int .i64 0)/\w'.cell? ⟨o,3,none⟩=some (.slice (some ⟨gs,0,none⟩) np np)/\w'.cell? ⟨gs,ix,none⟩=some (.int .i64 (sx:Nat))/\w'.cell? ⟨g,oo+i,none⟩=some (.int .u8 (x:Nat))))
  (eO:Hid (∀ W,Below wG.heap.size wG W->Calls Tryz.prog 134 #[.agg #[.string pd,.slice fE n4 q4,.bool false,.int .i64 0,.int .i64 0]] W λ e w'=>e=.returned (.string tx)/\Below W.heap.size W w'))
  (ir:Hid (∀ W,Below wG.heap.size wG W->Calls Tryz.prog 135 #[.pointer (some ⟨o,0,none⟩),.string pd] W λ e w'=>e=.returned (.int .i64 (ix:Nat))/\w'=W))
  {Q:Exit->Act->W8->Prop} {c2 c3 c4 c5 c6 c7 c8 eQ gM iS fY gG eJ eY eL dU dR dx dy dz dA dB dC dD dE dF dG dL dM dN dO dP dV dW dX ee eg ei eo ep ev dd ew ey ez eA dY dZ eD eE dQ eZ fa fc di fe fg fh fi fj fl fm fo fp fH fI fJ fK fL gd gh gi gj gq gu gv fM fN fq ft fu fO fP fQ fR fU fV fW fX gw gy gz gA gB gC gD cg bq br bt bu bx bz bC bU bV bW bX bD bE bG bH bI bJ bK bL bM bj bk bn bN bO bP bQ aZ aW cH cI cJ cK cL:Value}
  (hQ:∀ (Gi:Nat) (w2:W8) (oB oC oD oE oF oG oH fF jk jl jm jn jo jq jr iM iN iO iP:Value),zj wG (.string pd) (.slice fE n4 q4) (.bool false) (.int .i64 0) (.int .i64 0) (.string tx) (.int .i64 (sx:Nat)) (.int .i64 0) (.int .i64 (x:Nat)) (.slice none 0 0) Gi w2->Q .normal ⟨List.toArray (.pointer (some ⟨o,0,none⟩)::.slice (some ⟨g,oo,none⟩) nb c::c2::c3::c4::c5::c6::c7::c8::.int .i64 (i:Nat)::eQ::gM::iS::fY::gG::eJ::eY::.pointer (some ⟨bF,0,none⟩)::.pointer (some ⟨Gi,0,none⟩)::dU::dR::dx::dy::dz::dA::dB::dC::dD::dE::dF::dG::dL::dM::dN::dO::dP::dV::dW::dX::ee::eg::ei::eo::ep::ev::dd::ew::ey::ez::eA::dY::dZ::eD::eE::dQ::eZ::fa::fc::di::fe::fg::fh::fi::fj::fl::fm::fo::fp::fH::fI::fJ::fK::fL::gd::gh::gi::gj::gq::gu::gv::fM::fN::fq::ft::fu::fO::fP::fQ::fR::fU::fV::fW::fX::oB::oC::oD::oE::oF::oG::oH::fF::jk::jl::jm::jn::jo::jq::jr::iM::iN::iO::iP::bD::bE::bG::bH::bI::bJ::bK::bL::bM::bj::bk::bn::bN::bO::bP::bQ::aZ::aW::cH::cI::cJ::cK::cL::[]),[]⟩ w2):
  Code.wp Tryz.prog (z9o 22) Q ⟨List.toArray (.pointer (some ⟨o,0,none⟩)::.slice (some ⟨g,oo,none⟩) nb c::c2::c3::c4::c5::c6::c7::c8::.int .i64 (i:Nat)::eQ::gM::iS::fY::gG::eJ::eY::.pointer (some ⟨bF,0,none⟩)::eL::dU::dR::dx::dy::dz::dA::dB::dC::dD::dE::dF::dG::dL::dM::dN::dO::dP::dV::dW::dX::ee::eg::ei::eo::ep::ev::dd::ew::ey::ez::eA::dY::dZ::eD::eE::dQ::eZ::fa::fc::di::fe::fg::fh::fi::fj::fl::fm::fo::fp::fH::fI::fJ::fK::fL::gd::gh::gi::gj::gq::gu::gv::fM::fN::fq::ft::fu::fO::fP::fQ::fR::fU::fV::fW::fX::gw::gy::gz::gA::gB::gC::gD::cg::bq::br::bt::bu::bx::bz::bC::bU::bV::bW::bX::bD::bE::bG::bH::bI::bJ::bK::bL::bM::bj::bk::bn::bN::bO::bP::bQ::aZ::aW::cH::cI::cJ::cK::cL::[]),[]⟩ wG:=by
 conv=>arg 2;whnf
 have HQ:=zC hQ;clear hQ;have YN:IntKind.i64.wrap (x:Int)=x:=by simp[IntKind.wrap,IntKind.signed,IntKind.bits];omega
 have BN:(ix:Int)<np:=by omega
 have tJ:(0:Int)<=ix:=by omega
 have XN:(i:Int)<nb:=by omega
 have Rz:(0:Int)<=(x:Int):=by omega
 have RC:(x:Int)<256:=by omega
 refine wp_region_noPanic ?_;refine wp_region_held_drew (S:=λ V=>Below wG.heap.size wG V) (by kernel_rfl) (B9.drew) (λ hS=>?_);refine vV 0 93 (.agg #[.string pd,.slice fE n4 q4,.bool false,.int .i64 0,.int .i64 0]) rfl rfl (by kernel_rfl) (by kernel_rfl) (by kernel_rfl) (Or.inl ⟨by rfl,λ V hV=>by obtain⟨m0,m1,m2,m3,m4,m5,m6,m7⟩:=zA HK V hV;go_simp⟩) hS ?_;simp only[List.set_cons_zero,List.set_cons_succ];refine vV 1 94 (.agg #[.string pd,.slice fE n4 q4,.bool false,.int .i64 0,.int .i64 0]) rfl rfl (by kernel_rfl) (by kernel_rfl) (by kernel_rfl) (Or.inl ⟨by rfl,λ V hV=>by obtain⟨m0,m1,m2,m3,m4,m5,m6,m7⟩:=zA HK V hV;go_simp⟩) hS ?_;simp only[List.set_cons_zero,List.set_cons_succ];refine vV 3 96 (.pointer (some ⟨o,0,none⟩)) rfl rfl (by kernel_rfl) (by kernel_rfl) (by kernel_rfl) (Or.inl ⟨by rfl,λ V hV=>by go_simp⟩) hS ?_;simp only[List.set_cons_zero,List.set_cons_succ];refine vV 4 97 (.pointer (some ⟨o,0,none⟩)) rfl rfl (by kernel_rfl) (by kernel_rfl) (by kernel_rfl) (Or.inl ⟨by rfl,λ V hV=>by go_simp⟩) hS ?_;simp only[List.set_cons_zero,List.set_cons_succ];refine vV 5 98 (.pointer (some ⟨o,3,none⟩)) rfl rfl (by kernel_rfl) (by kernel_rfl) (by kernel_rfl) (Or.inl ⟨by rfl,λ V hV=>by go_simp⟩) hS ?_;simp only[List.set_cons_zero,List.set_cons_succ];refine vV 6 99 (.slice (some ⟨gs,0,none⟩) np np) rfl rfl (by kernel_rfl) (by kernel_rfl) (by kernel_rfl) (Or.inl ⟨by rfl,λ V hV=>by obtain⟨m0,m1,m2,m3,m4,m5,m6,m7⟩:=zA HK V hV;go_simp⟩) hS ?_;simp only[List.set_cons_zero,List.set_cons_succ];refine vV 7 100 (.pointer (some ⟨o,0,none⟩)) rfl rfl (by kernel_rfl) (by kernel_rfl) (by kernel_rfl) (Or.inl ⟨by rfl,λ V hV=>by go_simp⟩) hS ?_;simp only[List.set_cons_zero,List.set_cons_succ];refine vV 8 101 (.pointer (some ⟨bF,0,none⟩)) rfl rfl (by kernel_rfl) (by kernel_rfl) (by kernel_rfl) (Or.inl ⟨by rfl,λ V hV=>by go_simp⟩) hS ?_;simp only[List.set_cons_zero,List.set_cons_succ];refine vV 9 102 (.string pd) rfl rfl (by kernel_rfl) (by kernel_rfl) (by kernel_rfl) (Or.inl ⟨by rfl,λ V hV=>by obtain⟨m0,m1,m2,m3,m4,m5,m6,m7⟩:=zA HK V hV;go_simp⟩) hS ?_
 simp only[List.set_cons_zero,List.set_cons_succ];refine vV 13 106 (.slice (some ⟨g,oo,none⟩) nb c) rfl rfl (by kernel_rfl) (by kernel_rfl) (by kernel_rfl) (Or.inl ⟨by rfl,λ V hV=>by go_simp⟩) hS ?_;simp only[List.set_cons_zero,List.set_cons_succ];refine vV 14 107 (.int .i64 (i:Nat)) rfl rfl (by kernel_rfl) (by kernel_rfl) (by kernel_rfl) (Or.inl ⟨by rfl,λ V hV=>by go_simp⟩) hS ?_;simp only[List.set_cons_zero,List.set_cons_succ];refine vV 15 108 (.pointer (some ⟨g,oo+i,none⟩)) rfl rfl (by kernel_rfl) (by kernel_rfl) (by kernel_rfl) (Or.inl ⟨by rfl,λ V hV=>by go_simp⟩) hS ?_;simp only[List.set_cons_zero,List.set_cons_succ];refine vV 16 109 (.int .u8 (x:Nat)) rfl rfl (by kernel_rfl) (by kernel_rfl) (by kernel_rfl) (Or.inl ⟨by rfl,λ V hV=>by obtain⟨m0,m1,m2,m3,m4,m5,m6,m7⟩:=zA HK V hV;go_simp⟩) hS ?_;simp only[List.set_cons_zero,List.set_cons_succ];refine vV 17 110 (.int .i64 (x:Nat)) rfl rfl (by kernel_rfl) (by kernel_rfl) (by kernel_rfl) (Or.inl ⟨by rfl,λ V hV=>by go_simp⟩) hS ?_;simp only[List.set_cons_zero,List.set_cons_succ];refine wpAnyH_ready (rs:=[2,19]) (by kernel_rfl) (by simp) ?_;refine AllReadyH.cons rfl (λ K hK=>?_) ?_
 ·go_simp
  refine (zA eO _ hS).mono ?_;rintro e w2 ⟨rfl,aH⟩;have mX:=hS.trans (aH.mono hS.size);refine hK.out _ _ mX (λ _=>?_);clear hK K hS aH;have hS:=mX
  try simp only[Act.put,List.setIfInBounds_toArray,List.set_cons_zero,List.set_cons_succ]
  refine wpAnyH_ready (rs:=[10,19]) (by kernel_rfl) (by simp) ?_;refine AllReadyH.cons rfl (λ K hK=>?_) ?_
  ·go_simp
   refine (zA ir _ hS).mono ?_;rintro e w3 ⟨rfl,gI⟩;have gI:=gI.symm;subst gI;refine hK.out _ _ hS (λ _=>?_);clear hK K
   try simp only[Act.put,List.setIfInBounds_toArray,List.set_cons_zero,List.set_cons_succ]
   refine vV 11 104 (.pointer (some ⟨gs,ix,none⟩)) rfl rfl (by kernel_rfl) (by kernel_rfl) (by kernel_rfl) (Or.inl ⟨by rfl,λ V hV=>by go_simp⟩) hS ?_;simp only[List.set_cons_zero,List.set_cons_succ];refine vV 12 105 (.int .i64 (sx:Nat)) rfl rfl (by kernel_rfl) (by kernel_rfl) (by kernel_rfl) (Or.inl ⟨by rfl,λ V hV=>by obtain⟨m0,m1,m2,m3,m4,m5,m6,m7⟩:=zA HK V hV;go_simp⟩) hS ?_;simp only[List.set_cons_zero,List.set_cons_succ];refine vV 18 111 (.agg #[.string pd,.slice fE n4 q4,.bool false,.int .i64 0,.int .i64 0,.string tx,.int .i64 (sx:Nat),.int .i64 0,.int .i64 (x:Nat),.slice none 0 0]) rfl rfl (by kernel_rfl) (by kernel_rfl) (by kernel_rfl) (Or.inl ⟨by rfl,λ V hV=>by go_simp⟩) hS ?_;simp only[List.set_cons_zero,List.set_cons_succ];refine wpAnyH_ready (rs:=[19]) (by kernel_rfl) (by simp) ?_;refine AllReadyH.cons rfl (λ K hK=>?_) AllReadyH.nil
   go_simp
   refine hK.out _ _ (mX.alloc mX.size _) (λ _=>?_);clear hK K hS
   try simp only[Act.put,List.setIfInBounds_toArray,List.set_cons_zero,List.set_cons_succ]
   have hS:Below wG.heap.size wG (w2.alloc (.cells #[.string { data:=#[] },.slice none 0 0,.bool false,.int .i64 0,.int .i64 0,.string { data:=#[] },.int .i64 0,.int .i64 0,.int .i64 0,.slice none 0 0] 262)):=mX.alloc mX.size _;refine wpAnyH_ready (rs:=[20]) (by kernel_rfl) (by simp) ?_;refine AllReadyH.cons rfl (λ K hK=>?_) AllReadyH.nil
   go_simp
   refine hK.out _ _ (mX.alloc mX.size _) (λ _=>?_);clear hK K hS
   try simp only[Act.put,List.setIfInBounds_toArray,List.set_cons_zero,List.set_cons_succ]
   refine wpAnyH_done (by kernel_rfl) ?_ _;refine NoPanic.normal ?_;apply zA HQ;exact zj.behind mX B9
  refine AllReadyH.cons rfl (λ K hK=>?_) AllReadyH.nil
  go_simp
  refine hK.out _ _ (mX.alloc mX.size _) (λ _=>?_);clear hK K hS
  try simp only[Act.put,List.setIfInBounds_toArray,List.set_cons_zero,List.set_cons_succ]
  have hS:Below wG.heap.size wG (w2.alloc (.cells #[.string { data:=#[] },.slice none 0 0,.bool false,.int .i64 0,.int .i64 0,.string { data:=#[] },.int .i64 0,.int .i64 0,.int .i64 0,.slice none 0 0] 262)):=mX.alloc mX.size _;refine wpAnyH_ready (rs:=[10]) (by kernel_rfl) (by simp) ?_;refine AllReadyH.cons rfl (λ K hK=>?_) AllReadyH.nil
  go_simp
  refine (zA ir _ hS).mono ?_;rintro e w3 ⟨rfl,gI⟩;have gI:=gI.symm;subst gI;refine hK.out _ _ hS (λ _=>?_);clear hK K
  try simp only[Act.put,List.setIfInBounds_toArray,List.set_cons_zero,List.set_cons_succ]
  refine vV 11 104 (.pointer (some ⟨gs,ix,none⟩)) rfl rfl (by kernel_rfl) (by kernel_rfl) (by kernel_rfl) (Or.inl ⟨by rfl,λ V hV=>by go_simp⟩) hS ?_;simp only[List.set_cons_zero,List.set_cons_succ];refine vV 12 105 (.int .i64 (sx:Nat)) rfl rfl (by kernel_rfl) (by kernel_rfl) (by kernel_rfl) (Or.inl ⟨by rfl,λ V hV=>by obtain⟨m0,m1,m2,m3,m4,m5,m6,m7⟩:=zA HK V hV;go_simp⟩) hS ?_;simp only[List.set_cons_zero,List.set_cons_succ];refine vV 18 111 (.agg #[.string pd,.slice fE n4 q4,.bool false,.int .i64 0,.int .i64 0,.string tx,.int .i64 (sx:Nat),.int .i64 0,.int .i64 (x:Nat),.slice none 0 0]) rfl rfl (by kernel_rfl) (by kernel_rfl) (by kernel_rfl) (Or.inl ⟨by rfl,λ V hV=>by go_simp⟩) hS ?_;simp only[List.set_cons_zero,List.set_cons_succ];refine wpAnyH_ready (rs:=[20]) (by kernel_rfl) (by simp) ?_;refine AllReadyH.cons rfl (λ K hK=>?_) AllReadyH.nil
  go_simp
  refine hK.out _ _ (mX.alloc mX.size _) (λ _=>?_);clear hK K hS
  try simp only[Act.put,List.setIfInBounds_toArray,List.set_cons_zero,List.set_cons_succ]
  refine wpAnyH_done (by kernel_rfl) ?_ _;refine NoPanic.normal ?_;apply zA HQ;exact zj.behind mX B9
 refine AllReadyH.cons rfl (λ K hK=>?_) AllReadyH.nil
 go_simp
 have TF:Below wG.heap.size wG ((wG.alloc (.cells #[.string { data:=#[] },.slice none 0 0,.bool false,.int .i64 0,.int .i64 0,.string { data:=#[] },.int .i64 0,.int .i64 0,.int .i64 0,.slice none 0 0] 262)).drew):=(B9.alloc L9 _).drew;have hblk:((wG.alloc (.cells #[.string { data:=#[] },.slice none 0 0,.bool false,.int .i64 0,.int .i64 0,.string { data:=#[] },.int .i64 0,.int .i64 0,.int .i64 0,.slice none 0 0] 262)).drew).heap[wG.heap.size]?=some (.cells #[.string { data:=#[] },.slice none 0 0,.bool false,.int .i64 0,.int .i64 0,.string { data:=#[] },.int .i64 0,.int .i64 0,.int .i64 0,.slice none 0 0] 262 (0,0)):=heap_alloc_new wG _;refine hK.out _ _ TF (λ _=>?_);clear hK K hS;have hS:=TF
 try simp only[Act.put,List.setIfInBounds_toArray,List.set_cons_zero,List.set_cons_succ]
 refine wpAnyH_ready (rs:=[2]) (by kernel_rfl) (by simp) ?_;refine AllReadyH.cons rfl (λ K hK=>?_) AllReadyH.nil
 go_simp
 refine (zA eO _ hS).mono ?_;rintro e w2 ⟨rfl,aH⟩;replace hblk:=(aH.block _ (Array.getElem?_eq_some_iff.1 hblk).1).trans hblk;have mX:=hS.trans (aH.mono hS.size);refine hK.out _ _ mX (λ _=>?_);clear hK K hS aH;have hS:=mX
 try simp only[Act.put,List.setIfInBounds_toArray,List.set_cons_zero,List.set_cons_succ]
 refine wpAnyH_ready (rs:=[10]) (by kernel_rfl) (by simp) ?_;refine AllReadyH.cons rfl (λ K hK=>?_) AllReadyH.nil
 go_simp
 refine (zA ir _ hS).mono ?_;rintro e w3 ⟨rfl,gI⟩;have gI:=gI.symm;subst gI;refine hK.out _ _ hS (λ _=>?_);clear hK K
 try simp only[Act.put,List.setIfInBounds_toArray,List.set_cons_zero,List.set_cons_succ]
 refine vV 11 104 (.pointer (some ⟨gs,ix,none⟩)) rfl rfl (by kernel_rfl) (by kernel_rfl) (by kernel_rfl) (Or.inl ⟨by rfl,λ V hV=>by go_simp⟩) hS ?_;simp only[List.set_cons_zero,List.set_cons_succ];refine vV 12 105 (.int .i64 (sx:Nat)) rfl rfl (by kernel_rfl) (by kernel_rfl) (by kernel_rfl) (Or.inl ⟨by rfl,λ V hV=>by obtain⟨m0,m1,m2,m3,m4,m5,m6,m7⟩:=zA HK V hV;go_simp⟩) hS ?_;simp only[List.set_cons_zero,List.set_cons_succ];refine vV 18 111 (.agg #[.string pd,.slice fE n4 q4,.bool false,.int .i64 0,.int .i64 0,.string tx,.int .i64 (sx:Nat),.int .i64 0,.int .i64 (x:Nat),.slice none 0 0]) rfl rfl (by kernel_rfl) (by kernel_rfl) (by kernel_rfl) (Or.inl ⟨by rfl,λ V hV=>by go_simp⟩) hS ?_;simp only[List.set_cons_zero,List.set_cons_succ];refine wpAnyH_ready (rs:=[20]) (by kernel_rfl) (by simp) ?_;refine AllReadyH.cons rfl (λ K hK=>?_) AllReadyH.nil;obtain⟨k0,z0⟩:=zB hblk 0;obtain⟨k1,z1⟩:=zB hblk 1;obtain⟨k2,z2⟩:=zB hblk 2;obtain⟨k3,z3⟩:=zB hblk 3;obtain⟨k4,z4⟩:=zB hblk 4;obtain⟨k5,z5⟩:=zB hblk 5;obtain⟨k6,z6⟩:=zB hblk 6;obtain⟨k7,z7⟩:=zB hblk 7;obtain⟨k8,z8⟩:=zB hblk 8;obtain⟨k9,z9⟩:=zB hblk 9;simp only[List.getElem?_toArray,List.getElem?_cons_zero,List.getElem?_cons_succ] at k0 k1 k2 k3 k4 k5 k6 k7 k8 k9;have hM:=zj.ahead (v0:=.string pd) (v1:=.slice fE n4 q4) (v2:=.bool false) (v3:=.int .i64 0) (v4:=.int .i64 0) (v5:=.string tx) (v6:=.int .i64 (sx:Nat)) (v7:=.int .i64 0) (v8:=.int .i64 (x:Nat)) (v9:=.slice none 0 0) mX L9 hblk B9;have HM:=zC hM;clear hM
 go_simp
 with_reducible refine hK.out _ _ (zA HM).below (λ _=>?_)
 clear hK K hS
 try simp only[Act.put,List.setIfInBounds_toArray,List.set_cons_zero,List.set_cons_succ]
 refine wpAnyH_done (by kernel_rfl) ?_ _;refine NoPanic.normal ?_;apply zA HQ
 with_reducible exact zA HM
end
section
open Go.RowKit Go.Lib
def zc2 (s:B8):List Nat:=s.data.toList.map UInt8.toNat
theorem qE (s:B8):(zc2 s).length=s.size:=by unfold zc2;rw[List.length_map];rfl
theorem zjw (s:B8):∀ x∈zc2 s,x<256:=λ x hx=>by
 obtain⟨b,_,rfl⟩:=List.mem_map.1 hx;exact b.toNat_lt
def zdl (s:B8)(k i:Nat):Value:=if i<s.size then .int .u8 (((zc2 s)[i]?.getD 0:Nat):Int) else if i<k then .int .u8 77 else .int .u8 0
theorem zv3 (n:Nat)(hn:n<=3000000)(u:W8):(Instr.makeSlice 47 (.int .i64 n) (.int .i64 n)).run Tryz.prog u=.ok (.slice (some ⟨u.heap.size,0,none⟩) n n) (u.alloc (.cells (madeCells #[.int .u8 0] n) 5)):=by
 obtain⟨i0,hi,cQ,cz,cx⟩:=info_parts zi7;have h:=run_make (P:=Tryz.prog) u 47 5 i0 (.int .u8 0) Tryz.underlying47 hi cQ .i64 .i64 (n:Int) (n:Int) (by omega) (Int.le_refl _) (by rw[cx];omega) (by omega);simpa[cz,Value.cells] using h
theorem zzs (s:B8):((madeCells #[.int .u8 0] (s.size+8)).toList.take 0++byteCells s.data.toList++(madeCells #[.int .u8 0] (s.size+8)).toList.drop (0+s.size)).toArray=zc4 (s.size+8) (zdl s s.size):=by
 have hl:(byteCells s.data.toList).length=s.size:=by rw[byteCells_length];rfl
 rw[zfx,List.take_zero,List.nil_append,Nat.zero_add];unfold zc4
 congr 1
 apply List.ext_getElem?;intro k;simp only[List.getElem?_map]
 by_cases hk:k<s.size
 ·rw[List.getElem?_append_left (by rw[hl];exact hk),List.getElem?_range (by omega)];have ph:k<s.data.toList.length:=hk;simp only[byteCells,List.getElem?_map,List.getElem?_eq_getElem ph,Option.map_some,zdl,if_pos hk,zc2];rfl
 ·rw[List.getElem?_append_right (by rw[hl];omega),hl]
  by_cases cy:k<s.size+8
  ·rw[List.getElem?_drop,List.getElem?_map,List.getElem?_range (by omega),List.getElem?_range cy];simp only[Option.map_some,zdl,if_neg hk]
  ·rw[List.getElem?_drop,List.getElem?_map,List.getElem?_eq_none (by rw[List.length_range];omega),List.getElem?_eq_none (by rw[List.length_range];omega)];rfl
def Sc (w:W8)(s:B8)(none_:Bool)(e:Ending)(w':W8):Prop:=
 Below w.heap.size w w'/\((s.size=0/\none_=true/\e=.returned (.slice none 0 0))\/(e=.returned (.slice (some ⟨w.heap.size,0,none⟩) s.size (s.size+8))/\ql w' w.heap.size 5 (s.size+8) (zdl s (s.size+8))))
end
end Go.Proofs.YtldkpahaocjdpaaGreat
