/-
  The reference's ways: the loop over the ways so far, and the loop over the literals.
-/
import Derived.Test.YtldkpahaocjdpaaGreatC29
set_option maxHeartbeats 16000000
set_option maxRecDepth 1000000
namespace Go.Proofs.YtldkpahaocjdpaaGreat
section
open Go.RowKit
theorem yan (w:W8)(base:Nat)(R:zP)(hv:Value)(bs:List (zL × Value))(bv:Value)(fs:List FG)(al:O8)(cl:Nat)(hC:z2l w base R hv bs bv fs (.slice al fs.length cl))(now:List WG)(an:O8)(cn k:Nat)(hk:k<bs.length)(aR:∀ x∈now,x.e.length<=100/\x.fr.length<=100)(ng:now.length<=1000000)(hT:(zgi bs[k].1 (fs.map (·.F)) (now.map (·.W))).length<=1000000)(w1:W8)(hI:ma w R hv bv (.slice an now.length cn) now (.slice none 0 0) [] w1)
  {Q:Exit->Act->W8->Prop} {c0 c3 c4 c9 eQ gM iS fY gG eJ eY fZ eL dU dR dx dy dz dA dB dC dD dE dF dG dL dM dN dO dP dV dW dX ee eg ei eo ep ev dd ew ey ez eA dY dZ eD eE dQ eZ fa fc di fe fg fh fi fj fl fm fo fp fH fI fJ fK fL gd gh gi gj gq gu gv fM fN fq ft fu fO fP fQ fR fU fV fW fX gw gy gz gA gB gC gD cg bq br bt bu bx bz bC bU bV bW bX bD bE bG bH bI bJ bK bL bM bj bk bn bN bO bP bQ aZ aW:Value}
  (aJ:∀ (ME:Value) (next':List WG) (w2:W8) (u8 u9 rk rl oh tZ ua ub rm rq rr pK pL pM pN pO pP pQ pR pS pT pU ry rz om oq uc ud ue uf ug uh ui uj uk um u64 sE sF sG pV pW pX pY pZ ou ov ow ox oy oz oA qa qb:Value),ma w R hv bv (.slice an now.length cn) now ME next' w2->next'.map (·.W)=zgi bs[k].1 (fs.map (·.F)) (now.map (·.W))->Q (.exit 2) ⟨List.toArray (c0::.slice al fs.length cl::.pointer (some ⟨w.heap.size,0,none⟩)::c3::c4::.slice an now.length cn::.int .i64 k::ME::u8::u9::rk::rl::oh::fY::gG::eJ::eY::fZ::eL::dU::dR::dx::dy::dz::dA::dB::dC::dD::dE::dF::dG::dL::dM::tZ::ua::ub::rm::rq::rr::pK::pL::pM::pN::pO::pP::pQ::pR::pS::pT::pU::ry::rz::om::oq::uc::ud::ue::uf::ug::uh::ui::uj::uk::um::u64::sE::sF::sG::pV::pW::pX::pY::pZ::ou::ov::ow::ox::oy::oz::oA::qa::qb::fq::ft::fu::fO::fP::fQ::fR::fU::fV::fW::fX::gw::gy::gz::gA::gB::gC::gD::cg::bq::br::bt::bu::bx::bz::bC::bU::bV::bW::bX::bD::bE::bG::bH::bI::bJ::bK::bL::bM::bj::bk::bn::bN::bO::bP::bQ::aZ::aW::[]),[]⟩ w2):
  Code.wp Tryz.prog (Code.loop (z2c 1)) Q ⟨List.toArray (c0::.slice al fs.length cl::.pointer (some ⟨w.heap.size,0,none⟩)::c3::c4::.slice an now.length cn::.int .i64 k::.slice none 0 0::.int .i64 (0:Nat)::c9::eQ::gM::iS::fY::gG::eJ::eY::fZ::eL::dU::dR::dx::dy::dz::dA::dB::dC::dD::dE::dF::dG::dL::dM::dN::dO::dP::dV::dW::dX::ee::eg::ei::eo::ep::ev::dd::ew::ey::ez::eA::dY::dZ::eD::eE::dQ::eZ::fa::fc::di::fe::fg::fh::fi::fj::fl::fm::fo::fp::fH::fI::fJ::fK::fL::gd::gh::gi::gj::gq::gu::gv::fM::fN::fq::ft::fu::fO::fP::fQ::fR::fU::fV::fW::fX::gw::gy::gz::gA::gB::gC::gD::cg::bq::br::bt::bu::bx::bz::bC::bU::bV::bW::bX::bD::bE::bG::bH::bI::bJ::bK::bL::bM::bj::bk::bn::bN::bO::bP::bQ::aZ::aW::[]),[]⟩ w1:=by
 conv=>arg 2;arg 1;whnf
 have HC:=zC hC;have HI:=zC hI;have HT:=zC hT;have lz:=zC aR;have HX:=zC aJ;clear hC hI hT aR aJ
 go_loopg [7,8] now.length (λ gg v ii wr=>∃ (i:Nat) (next':List WG),i<=now.length/\gg=now.length-i/\ii=.int .i64 i/\ma w R hv bv (.slice an now.length cn) now v next' wr/\next'.map (·.W)++zgi bs[k].1 (fs.map (·.F)) ((now.map (·.W)).drop i)=zgi bs[k].1 (fs.map (·.F)) (now.map (·.W)))
 exact⟨0,[],Nat.zero_le _,rfl,rfl,zA HI,by simp⟩
 case round=>
  clear HI;obtain⟨i,next',hi,IV,rfl,hI,ax⟩:=hrel;obtain⟨a7,c7,rfl⟩:=zD hI.next.row;have HI:=zC hI;have HF:=zC ax;clear hI ax
  by_cases jb:i<now.length
  ·have rF:(i:Int)<now.length:=(by omega);have aP:=z19 (a:=bs[k].1) (l:=fs.map (·.F)) (now:=now.map (·.W)) (i:=i) (by simpa using jb);rw[List.getElem_map] at aP;have se:=(congrArg (next'.map (·.W)++·) aP).symm.trans (zA HF);simp only[<-List.append_assoc] at se;have TJ:(next'.map (·.W)++zgn bs[k].1 now[i].W (fs.map (·.F)) 0).length<=1000000:=by
    have:=congrArg List.length se;rw[List.length_append] at this;have:=zA HT;omega
   have az:=zC se;have SR:=zC TJ;clear aP se TJ HF;go_wp2_with fail;refine yao w base R hv bs bv fs al cl (zA HC) now an cn k i hk jb (zA lz _ (List.getElem_mem jb)).1 (zA lz _ (List.getElem_mem jb)).2 _ (zA SR) _ next' rfl wr (zA HI) ?_;intro v8 yp w8;intros;rename_i hI8 hF8;obtain⟨a8,c8,rfl⟩:=zD hI8.next.row;have CZ:=zC hI8;have JE:=zC (show yp.map (·.W)++zgi bs[k].1 (fs.map (·.F)) ((now.map (·.W)).drop (i+1))=zgi bs[k].1 (fs.map (·.F)) (now.map (·.W)) by rw[hF8];exact zA az);clear hI8 hF8 az SR HI;go_wp2_with fail;go_roundg (now.length-(i+1));exact⟨i+1,yp,by omega,rfl,by go_num,zA CZ,zA JE⟩;omega
  ·have HE:=zC (show next'.map (·.W)=zgi bs[k].1 (fs.map (·.F)) (now.map (·.W)) by rw[<-zA HF,List.drop_of_length_le (by simp;omega)];simp[zgi]);clear HF;go_wp2_with fail;apply zA HX
   ·exact zA HI
   ·exact zA HE
theorem ma.RY {w:W8}{R:zP}{hv bv nv:Value}{now:List WG}{v:Value}{next:List WG}{wr:W8}(h:ma w R hv bv nv now v next wr):ma w R hv bv v next (.slice none 0 0) [] wr:=
 ⟨h.below,h.box,h.next,⟨World.ownsRow_nil _ _ _ _,by simp⟩,λ g e=>by cases e⟩
theorem zmd {a:zL}{x:Way}{n m:Nat}(ha:a.ae.length<=4)(h1:x.1.length<=n)(h2:x.2.length<=m):∀ (l:List zQ) (i:Nat),∀ y∈zgn a x l i,y.1.length<=n+4/\y.2.length<=m+1
 | [],_,y,hy=>by simp[zgn] at hy
 | f::r,i,y,hy=>by
  rw[zgn,List.mem_append] at hy;rcases hy with hy | hy
  ·split at hy
   ·rename_i e he;rw[List.mem_singleton.1 hy];have:=zh1 he;simp;omega
   ·simp at hy
  ·exact zmd ha h1 h2 r (i+1) y hy
theorem zxc {a:zL}{l:List zQ}{now:List Way}{n m:Nat}(ha:a.ae.length<=4)(h:∀ x∈now,x.1.length<=n/\x.2.length<=m):∀ y∈zgi a l now,y.1.length<=n+4/\y.2.length<=m+1:=by
 intro y hy;obtain⟨x,hx,hy⟩:=List.mem_flatMap.1 hy;exact zmd ha (h x hx).1 (h x hx).2 l 0 y hy
theorem z9q {k:Nat}(h:k<=3):50 ^ k<=125000:=Nat.le_trans (Nat.pow_le_pow_right (by decide) h) (by decide)
theorem yam (w:W8)(base:Nat)(R:zP)(hv:Value)(bs:List (zL × Value))(bv:Value)(fs:List FG)(al:O8)(cl:Nat)(hC:z2l w base R hv bs bv fs (.slice al fs.length cl))(v5:Value)(w1:W8)(hI:ma w R hv bv v5 [⟨[],[],.slice none 0 0,.slice none 0 0,.slice none 0 0⟩] (.slice none 0 0) [] w1)
  {Q:Exit->Act->W8->Prop} {c0 c3 c4 c7 c8 c9 eQ gM iS fY gG eJ eY fZ eL dU dR dx dy dz dA dB dC dD dE dF dG dL dM dN dO dP dV dW dX ee eg ei eo ep ev dd ew ey ez eA dY dZ eD eE dQ eZ fa fc di fe fg fh fi fj fl fm fo fp fH fI fJ fK fL gd gh gi gj gq gu gv fM fN fq ft fu fO fP fQ fR fU fV fW fX gw gy gz gA gB gC gD cg bq br bt bu bx bz bC bU bV bW bX bD bE bG bH bI bJ bK bL bM bj bk bn bN bO bP bQ aZ aW:Value}
  (aJ:∀ (Vb:Value) (Ey:List WG) (w2:W8) (u6 u7 u8 u9 rk rl oh sD Cz CA CC CD CE CF CG CH CI CJ xd u32 tZ ua ub rm rq rr pK pL pM pN pO pP pQ pR pS pT pU ry rz om oq uc ud ue uf ug uh ui uj uk um u64 sE sF sG pV pW pX pY pZ ou ov ow ox oy oz oA qa qb sH:Value),ma w R hv bv Vb Ey (.slice none 0 0) [] w2->Ey.map (·.W)=zis (fs.map (·.F)) R.body [([],[])]->(∀ x∈Ey,x.e.length<=100/\x.fr.length<=100)->Ey.length<=1000000->Q (.exit 0) ⟨List.toArray (c0::.slice al fs.length cl::.pointer (some ⟨w.heap.size,0,none⟩)::c3::c4::Vb::u6::u7::u8::u9::rk::rl::oh::fY::gG::eJ::eY::fZ::eL::dU::sD::Cz::CA::CC::CD::CE::CF::CG::CH::CI::CJ::xd::u32::tZ::ua::ub::rm::rq::rr::pK::pL::pM::pN::pO::pP::pQ::pR::pS::pT::pU::ry::rz::om::oq::uc::ud::ue::uf::ug::uh::ui::uj::uk::um::u64::sE::sF::sG::pV::pW::pX::pY::pZ::ou::ov::ow::ox::oy::oz::oA::qa::qb::sH::ft::fu::fO::fP::fQ::fR::fU::fV::fW::fX::gw::gy::gz::gA::gB::gC::gD::cg::bq::br::bt::bu::bx::bz::bC::bU::bV::bW::bX::bD::bE::bG::bH::bI::bJ::bK::bL::bM::bj::bk::bn::bN::bO::bP::bQ::aZ::aW::[]),[]⟩ w2):
  Code.wp Tryz.prog (Code.loop (z2c 0)) Q ⟨List.toArray (c0::.slice al fs.length cl::.pointer (some ⟨w.heap.size,0,none⟩)::c3::c4::v5::.int .i64 (0:Nat)::c7::c8::c9::eQ::gM::iS::fY::gG::eJ::eY::fZ::eL::dU::dR::dx::dy::dz::dA::dB::dC::dD::dE::dF::dG::dL::dM::dN::dO::dP::dV::dW::dX::ee::eg::ei::eo::ep::ev::dd::ew::ey::ez::eA::dY::dZ::eD::eE::dQ::eZ::fa::fc::di::fe::fg::fh::fi::fj::fl::fm::fo::fp::fH::fI::fJ::fK::fL::gd::gh::gi::gj::gq::gu::gv::fM::fN::fq::ft::fu::fO::fP::fQ::fR::fU::fV::fW::fX::gw::gy::gz::gA::gB::gC::gD::cg::bq::br::bt::bu::bx::bz::bC::bU::bV::bW::bX::bD::bE::bG::bH::bI::bJ::bK::bL::bM::bj::bk::bn::bN::bO::bP::bQ::aZ::aW::[]),[]⟩ w1:=by
 obtain⟨ab,DS,rfl⟩:=zD hC.aX.bo
 conv=>arg 2;arg 1;whnf
 have eK:=hC.body;have GA:=hC.aX.eq;have Bv:R.body.length=bs.length:=by rw[GA];simp
 have HC:=zC hC;have HI:=zC hI;have HX:=zC aJ;have CV:=zC GA;have F1:=zC Bv;clear hC hI aJ GA Bv
 go_loopg [5,6] bs.length (λ gg v kk wr=>∃ (k:Nat) (now:List WG),k<=bs.length/\gg=bs.length-k/\kk=.int .i64 k/\ma w R hv (.slice ab bs.length DS) v now (.slice none 0 0) [] wr/\zis (fs.map (·.F)) (R.body.drop k) (now.map (·.W))=zis (fs.map (·.F)) R.body [([],[])]/\(∀ x∈now.map (·.W),x.1.length<=4*k/\x.2.length<=k)/\now.length<=50 ^ k)
 exact⟨0,_,Nat.zero_le _,rfl,rfl,zA HI,rfl,by simp[WG.W],by simp⟩
 case round=>
  clear HI;obtain⟨k,now,hk,iZ,rfl,hI,ax,cE,hlen⟩:=hrel;obtain⟨an,cn,rfl⟩:=zD hI.now.row;have hp:=z9q (k:=k) (by omega);have aR:∀ x∈now,x.e.length<=100/\x.fr.length<=100:=λ x hx=>by
   have:=cE x.W (List.mem_map_of_mem hx);simp only[WG.W] at this;omega
  have lz:=zC aR;obtain⟨p5,-⟩:=zB hI.box 5;have HI:=zC hI;have HF:=zC ax;have EU:=zC cE;have Ar:=zC hlen;have ng:now.length<=1000000:=by omega
  clear ax cE hlen aR hp
  by_cases aE:k<bs.length
  ·have nC:(k:Int)<bs.length:=(by omega);have hC:=zA HC;have gX:=zH hC.aX.bo hI.below (λ g e=>(hC.aX.bo.lt g e).2);obtain⟨gb,cb,oe,-,ji,nc,yh,y0,y1,y2,y3,y4⟩:=vE gX k aE;injection oe with q1 q2 q3
   subst q1 q3;have hR:R.body[k]'(by rw[zA F1];exact aE)=bs[k].1:=by
    have:=zA CV;simp only[this,List.getElem_map]
   have aP:=z2b (l:=fs.map (·.F)) (b:=R.body) (k:=k) (now:=now.map (·.W)) (by rw[zA F1];exact aE);rw[hR] at aP;have h4:bs[k].1.ae.length<=4:=hC.ae _ (by rw[hC.aX.eq];exact List.mem_map_of_mem (List.getElem_mem aE));have eN:=zC (aP.symm.trans (zA HF));clear hC gX hI aP hR HF y0 y1 y3 y4
   cases cO:bs[k].1.no with
   | true=>
    rw[cO] at y2;have az:=zC (show zis (fs.map (·.F)) (R.body.drop (k+1)) (now.map (·.W))=zis (fs.map (·.F)) R.body [([],[])] by have:=zA eN;rw[cO] at this;exact this);clear eN cO;go_wp2_with fail;go_roundg (bs.length-(k+1));exact⟨k+1,now,by omega,rfl,by go_num,zA HI,zA az,λ x hx=>by have:=zA EU x hx;omega,Nat.le_trans (zA Ar) (Nat.pow_le_pow_right (by decide) (by omega))⟩;omega
   | false=>
    rw[cO] at y2;have az:=zC (show zis (fs.map (·.F)) (R.body.drop (k+1)) (zgi bs[k].1 (fs.map (·.F)) (now.map (·.W)))=zis (fs.map (·.F)) R.body [([],[])] by have:=zA eN;rw[cO] at this;exact this);have sY:(zgi bs[k].1 (fs.map (·.F)) (now.map (·.W))).length<=50 ^ (k+1):=by
     have h1:=zut bs[k].1 (fs.map (·.F)) (now.map (·.W));rw[List.length_map,List.length_map] at h1;have h2:=Nat.mul_le_mul (zA Ar) (zA HC).gH;rw[Nat.pow_succ];omega
    have hT:(zgi bs[k].1 (fs.map (·.F)) (now.map (·.W))).length<=1000000:=by
     have:=z9q (k:=k+1) (by omega);omega
    have O1:=zC (zxc (l:=fs.map (·.F)) h4 (zA EU));have Wp:=zC sY;clear eN cO sY;go_wp2_with fail;refine yan w base R hv bs _ fs al cl (zA HC) now an cn k aE (zA lz) ng hT wr (zA HI) ?_;intro v8 yp w8;intros;rename_i hI8 hF8;obtain⟨a8,c8,rfl⟩:=zD hI8.next.row;have CZ:=zC hI8.RY;have JE:=zC hF8;clear hI8 hF8 HI lz EU Ar hT;go_wp2_with fail;go_roundg (bs.length-(k+1));exact⟨k+1,yp,by omega,rfl,by go_num,zA CZ,by rw[zA JE];exact zA az,by rw[zA JE];intro y hy;have:=zA O1 y hy;omega,by rw[<-List.length_map (f:=(·.W)),zA JE];exact zA Wp⟩;omega
  ·have HE:=zC (show now.map (·.W)=zis (fs.map (·.F)) R.body [([],[])] by rw[<-zA HF,List.drop_of_length_le (by rw[zA F1];omega)];rfl);clear HF hI;go_wp2_with fail;apply zA HX
   ·exact zA HI
   ·exact zA HE
   ·exact zA lz
   ·exact ng
end
section
open Go.RowKit
variable {j:Nat}
theorem z25 {α:Type}{l:List α}(hj:j<l.length)(f:α->Bool):(l.take (j+1)).all f=((l.take j).all f&&f l[j]):=by
 rw[List.take_succ_eq_append_getElem hj,List.all_append];simp only[List.all_cons,List.all_nil,Bool.and_true]
structure M5 (wr:W8)(B:zL)(b:Nat)(v:Value)(wc:W8):Prop where
 below:Below wr.heap.size wr wc
 cP:wc.heap[b]?=some (.cells #[.string B.pred,v,.bool false,.int .i64 0,.int .i64 0] 243 (0,0))
 row:wc.ownsRow wr.heap.size 317 3 v B.ae.length (cellsOf B.ae)
variable {v:Value} {B:zL} {wr W w2:W8}
theorem M5.behind (hW:Below wr.heap.size wr W)(h2:Below W.heap.size W w2)(hr:w2.ownsRow W.heap.size 317 3 v B.ae.length (cellsOf B.ae)):M5 wr B w2.heap.size v (w2.alloc (.cells #[.string B.pred,v,.bool false,.int .i64 0,.int .i64 0] 243)):=by
 have hs:=hW.size;have Af:=h2.size;exact⟨(hW.trans (h2.mono hs)).alloc (by omega) _,heap_alloc_new w2 _,zF (hr.alloc _) (by omega)⟩
variable {u0 u1 u2 u3 u4:Value} {b:Nat}
theorem M5.ahead (hW:Below wr.heap.size wr W)(hb:wr.heap.size<=b)(hblk:W.heap[b]?=some (.cells #[u0,u1,u2,u3,u4] 243 (0,0)))(h2:Below W.heap.size W w2)(hr:w2.ownsRow W.heap.size 317 3 v B.ae.length (cellsOf B.ae)):M5 wr B b v (((((w2.setCell ⟨b,0,none⟩ (.string B.pred)).setCell ⟨b,1,none⟩ v).setCell ⟨b,2,none⟩ (.bool false)).setCell ⟨b,3,none⟩ (.int .i64 0)).setCell ⟨b,4,none⟩ (.int .i64 0)):=by
 have hs:=hW.size;have aG:=(Array.getElem?_eq_some_iff.1 hblk).1;have h1:=(h2.block b aG).trans hblk;have g0:(w2.setCell ⟨b,0,none⟩ (.string B.pred)).heap[b]?=some (.cells #[.string B.pred,u1,u2,u3,u4] 243 (0,0)):=by rw[heap_setCell_same _ _ _ _ _ _ h1];rfl
 have g1:((w2.setCell ⟨b,0,none⟩ (.string B.pred)).setCell ⟨b,1,none⟩ v).heap[b]?=some (.cells #[.string B.pred,v,u2,u3,u4] 243 (0,0)):=by rw[heap_setCell_same _ _ _ _ _ _ g0];rfl
 have g2:(((w2.setCell ⟨b,0,none⟩ (.string B.pred)).setCell ⟨b,1,none⟩ v).setCell ⟨b,2,none⟩ (.bool false)).heap[b]?=some (.cells #[.string B.pred,v,.bool false,u3,u4] 243 (0,0)):=by rw[heap_setCell_same _ _ _ _ _ _ g1];rfl
 have g3:((((w2.setCell ⟨b,0,none⟩ (.string B.pred)).setCell ⟨b,1,none⟩ v).setCell ⟨b,2,none⟩ (.bool false)).setCell ⟨b,3,none⟩ (.int .i64 0)).heap[b]?=some (.cells #[.string B.pred,v,.bool false,.int .i64 0,u4] 243 (0,0)):=by rw[heap_setCell_same _ _ _ _ _ _ g2];rfl
 have kH:∀ j,wr.heap.size<=(⟨b,j,none⟩:Addr).block:=λ _=>hb
 have rG:∀ j,(⟨b,j,none⟩:Addr).block<W.heap.size:=λ _=>aG
 refine⟨(((((hW.trans (h2.mono hs)).setCell (kH 0) _).setCell (kH 1) _).setCell (kH 2) _).setCell (kH 3) _).setCell (kH 4) _,by rw[heap_setCell_same _ _ _ _ _ _ g3];rfl,?_⟩;exact zF (ownsRow_setCell_below (ownsRow_setCell_below (ownsRow_setCell_below (ownsRow_setCell_below (ownsRow_setCell_below hr (rG 0) _) (rG 1) _) (rG 2) _) (rG 3) _) (rG 4) _) (by omega)
theorem zjf {w:W8}{g:Nat}(h:¬ g=b):(((((w.setCell ⟨b,0,none⟩ u0).setCell ⟨b,1,none⟩ u1).setCell ⟨b,2,none⟩ u2).setCell ⟨b,3,none⟩ u3).setCell ⟨b,4,none⟩ u4).cell? ⟨g,j,none⟩=w.cell? ⟨g,j,none⟩:=by
 have e:∀ (w:W8) (i:Nat) (u:Value),(w.setCell ⟨b,i,none⟩ u).cell? ⟨g,j,none⟩=w.cell? ⟨g,j,none⟩:=λ w i u=>World.cell?_of_block (Below.heap_setCell _ ⟨b,i,none⟩ _ g (by simpa using h))
 rw[e,e,e,e,e]
theorem yaq (w:W8)(base:Nat)(R:zP)(hv:Value)(bs:List (zL × Value))(bv:Value)(fs:List FG)(al:O8)(cl:Nat)(hC:z2l w base R hv bs bv fs (.slice al fs.length cl))(now:List WG)(an:O8)(cn i:Nat)(hi:i<now.length)(aT:∀ a∈R.body,(xS (bf now[i].e a)).length<=1000000000)(FN:Value)(outs:List WG)(w1:W8)(hI:ma w R hv bv (.slice an now.length cn) now FN outs w1)
  {Q:Exit->Act->W8->Prop} {c0 c3 c4 c6 c7 c8 c9 eQ gM iS fY fZ eL dU dR dx dy dz dA dB dC dD dE dF dG dL dM dN dO dP dV dW dX ee eg ei eo ep ev dd ew ey ez eA dY dZ eD eE dQ eZ fa fc di fe fg fh fi fj fl fm fo fp fH fI fJ fK fL gd gh gi gj gq gu gv fM fN fq ft fu fO fP fQ fR fU fV fW fX gw gy gz gA gB gC gD cg bq br bt bu bx bz bC bU bV bW bX bD bE bG bH bI bJ bK bL bM bj bk bn bN bO bP bQ aZ aW:Value}
  (aJ:∀ (w2:W8) (u16 sC qg qh qi qj oB oC oD oE oF oG oH fF jk jl jm jn jo jq jr iM iN iO iP js jt ju jv jw jx jy jz kc:Value),ma w R hv bv (.slice an now.length cn) now FN outs w2->Q (.exit 8) ⟨List.toArray (c0::.slice al fs.length cl::.pointer (some ⟨w.heap.size,0,none⟩)::c3::c4::.slice an now.length cn::c6::c7::c8::c9::eQ::gM::iS::fY::.int .i64 i::.bool (R.body.all (zra (fs.map (·.F)) now[i].e))::u16::sC::eL::dU::dR::dx::dy::dz::dA::dB::dC::dD::dE::dF::dG::dL::dM::dN::dO::dP::dV::dW::dX::ee::eg::ei::eo::ep::ev::dd::ew::ey::ez::eA::dY::dZ::eD::eE::dQ::eZ::fa::fc::di::fe::fg::fh::fi::fj::fl::fm::fo::fp::fH::fI::fJ::fK::fL::gd::gh::gi::gj::gq::gu::gv::fM::fN::fq::ft::fu::fO::fP::fQ::fR::qg::qh::qi::qj::oB::oC::oD::oE::oF::oG::oH::fF::jk::jl::jm::jn::jo::jq::jr::iM::iN::iO::iP::js::jt::ju::jv::jw::jx::jy::jz::kc::bj::bk::bn::bN::bO::bP::bQ::aZ::aW::[]),[]⟩ w2):
  Code.wp Tryz.prog (Code.loop (z2c 4)) Q ⟨List.toArray (c0::.slice al fs.length cl::.pointer (some ⟨w.heap.size,0,none⟩)::c3::c4::.slice an now.length cn::c6::c7::c8::c9::eQ::gM::iS::fY::.int .i64 i::.bool true::.int .i64 (0:Nat)::fZ::eL::dU::dR::dx::dy::dz::dA::dB::dC::dD::dE::dF::dG::dL::dM::dN::dO::dP::dV::dW::dX::ee::eg::ei::eo::ep::ev::dd::ew::ey::ez::eA::dY::dZ::eD::eE::dQ::eZ::fa::fc::di::fe::fg::fh::fi::fj::fl::fm::fo::fp::fH::fI::fJ::fK::fL::gd::gh::gi::gj::gq::gu::gv::fM::fN::fq::ft::fu::fO::fP::fQ::fR::fU::fV::fW::fX::gw::gy::gz::gA::gB::gC::gD::cg::bq::br::bt::bu::bx::bz::bC::bU::bV::bW::bX::bD::bE::bG::bH::bI::bJ::bK::bL::bM::bj::bk::bn::bN::bO::bP::bQ::aZ::aW::[]),[]⟩ w1:=by
 obtain⟨ab,DS,rfl⟩:=zD hC.aX.bo
 conv=>arg 2;arg 1;whnf
 have eK:=hC.body;have GA:=hC.aX.eq;have Bv:R.body.length=bs.length:=by rw[GA];simp
 have HC:=zC hC;have HI:=zC hI;have HX:=zC aJ;have CV:=zC GA;have F1:=zC Bv;have lN:=zC aT;clear hC hI aJ GA Bv aT
 go_loopg [15,16] bs.length (λ gg v kk wr=>∃ (k:Nat),k<=bs.length/\gg=bs.length-k/\v=.bool ((R.body.take k).all (zra (fs.map (·.F)) now[i].e))/\kk=.int .i64 k/\ma w R hv (.slice ab bs.length DS) (.slice an now.length cn) now FN outs wr)
 exact⟨0,Nat.zero_le _,rfl,rfl,rfl,zA HI⟩
 case round=>
  clear HI;obtain⟨k,hk,iZ,rfl,rfl,hI⟩:=hrel;obtain⟨p5,-⟩:=zB hI.box 5;simp only[List.getElem?_toArray,List.getElem?_cons_zero,List.getElem?_cons_succ] at p5
  by_cases aE:k<bs.length
  ·have nC:(k:Int)<bs.length:=(by omega);have hC:=zA HC;have rJ:=hI.below.size;have b1:=hI.lt;have gX:=zH hC.aX.bo hI.below (λ g e=>(hC.aX.bo.lt g e).2);obtain⟨gb,cb,oe,-,ji,nc,yh,y0,y1,y2,y3,y4⟩:=vE gX k aE;injection oe with q1 q2 q3
   subst q1 q3;have hR:R.body[k]'(by rw[zA F1];exact aE)=bs[k].1:=by
    have:=zA CV;simp only[this,List.getElem_map]
   have eS:=z25 (l:=R.body) (j:=k) (by rw[zA F1];exact aE) (zra (fs.map (·.F)) now[i].e);rw[hR] at eS;have bY:bs[k].1∈R.body:=(by rw[zA CV];exact List.mem_map_of_mem (List.getElem_mem aE));have h4:=hC.ae _ bY;have hlen:=zA lN _ bY;obtain⟨g5,c5,Aj,-,uA,LL,zz,x0,x1,x2⟩:=zq5 hI.now.row hi;injection Aj with i1 i2 i3
   subst i1 i3;have gY:=hI.now.each _ (List.getElem_mem hi);obtain⟨oV,oX,bp,fw,e1,e2⟩:=gY.env.shape;have qm:=hC.aX.bl _ (List.getElem_mem aE);obtain⟨aa,ca,e3⟩:=zD qm;rw[e1] at x0;rw[e2] at x1;rw[e3] at y1;have dH:∀ W,Below wr.heap.size wr W->Calls Tryz.prog 192 #[.agg #[.slice oV now[i].e.length oX,.slice bp now[i].e.length fw],.agg #[.string bs[k].1.pred,.slice aa bs[k].1.ae.length ca,.bool bs[k].1.no,.int .i64 bs[k].1.at_,.int .i64 bs[k].1.ak]] W (zot W now[i].e bs[k].1):=λ W hW=>by
    have hB:=hI.below.trans (hW.mono rJ);have q1:=gY.env.below hW;rw[e1,e2] at q1;rw[e3] at qm;exact zkj W 0 now[i].e bs[k].1 oV bp aa oX fw ca ⟨zF q1.ns (Nat.zero_le _),zF q1.ts (Nat.zero_le _),q1.nil⟩ (zF (zH qm hB (λ g e=>(qm.lt g e).2)) (Nat.zero_le _)) (by omega)
   have aV:=zC dH;have HI:=zC hI;have me:=zC eS;have rF:(i:Int)<now.length:=(by omega);have d5:¬ g5=wr.heap.size:=(by omega);have db:¬ gb=wr.heap.size:=(by omega);have dw:¬ w.heap.size=wr.heap.size:=(by omega);clear hC hI gX gY qm dH eS hR bY e1 e2 e3 rJ x2;generalize bs[k].1=A at *;generalize (R.body.take k).all (zra (fs.map (·.F)) now[i].e)=ok at *;generalize now[i].e=NE at *
   cases cO:A.no with
   | false=>
    rw[cO] at y2;have tm:=zC (show (R.body.take (k+1)).all (zra (fs.map (·.F)) NE)=ok by rw[zA me,zra,cO];simp);clear me aV y0 y1 y3 y4 x0 x1 cO;go_wp2_with fail;go_roundg (bs.length-(k+1));exact⟨k+1,by omega,rfl,by rw[zA tm],by go_num,zA HI⟩;omega
   | true=>
    have tm:=zC (show (R.body.take (k+1)).all (zra (fs.map (·.F)) NE)=(ok&&decide (yL (fs.map (·.F)) (zU (bf NE A))<0)) by rw[zA me,zra,cO];simp)
    have HK:Hid (∀ W w':W8,Below wr.heap.size wr W->Below W.heap.size W w'->w'.cell? ⟨g5,i*3,none⟩=some (.slice oV NE.length oX)/\w'.cell? ⟨g5,i*3+1,none⟩=some (.slice bp NE.length fw)/\w'.cell? ⟨w.heap.size,5,none⟩=some (.slice (some ⟨gb,0,none⟩) bs.length DS)/\w'.cell? ⟨gb,k*5,none⟩=some (.string A.pred)/\w'.cell? ⟨gb,k*5+1,none⟩=some (.slice aa A.ae.length ca)/\w'.cell? ⟨gb,k*5+2,none⟩=some (.bool true)/\w'.cell? ⟨gb,k*5+3,none⟩=some (.int .i64 A.at_)/\w'.cell? ⟨gb,k*5+4,none⟩=some (.int .i64 A.ak)):=zC (λ W w' h1 h2=>by
     have hB:=h1.trans (h2.mono h1.size);rw[cO] at y2
     exact⟨(hB.cell (by simpa using uA)).trans x0,(hB.cell (by simpa using uA)).trans x1,(hB.cell (by simpa using b1)).trans p5,(hB.cell (by simpa using ji)).trans y0,(hB.cell (by simpa using ji)).trans y1,(hB.cell (by simpa using ji)).trans y2,(hB.cell (by simpa using ji)).trans y3,(hB.cell (by simpa using ji)).trans y4⟩)
    rw[cO] at y2 aV;clear me;have rT:=zC cO;clear cO;go_upto_region 29 with fail
    go_cut [17] from 89 to 120 (λ p wc=>∃ b v,p=.pointer (some ⟨b,0,none⟩)/\M5 wr (bf NE A) b v wc)
    case first=>
     go_region_held3 (λ w'=>w'.cell? ⟨g5,i*3,none⟩=some (.slice oV NE.length oX)/\w'.cell? ⟨g5,i*3+1,none⟩=some (.slice bp NE.length fw)/\w'.cell? ⟨w.heap.size,5,none⟩=some (.slice (some ⟨gb,0,none⟩) bs.length DS)/\w'.cell? ⟨gb,k*5,none⟩=some (.string A.pred)/\w'.cell? ⟨gb,k*5+1,none⟩=some (.slice aa A.ae.length ca)/\w'.cell? ⟨gb,k*5+2,none⟩=some (.bool true)/\w'.cell? ⟨gb,k*5+3,none⟩=some (.int .i64 A.at_)/\w'.cell? ⟨gb,k*5+4,none⟩=some (.int .i64 A.ak)) (first | go_keep | (refine⟨?_,?_,?_,?_,?_,?_,?_,?_⟩ <;> (refine (zjf ?_).trans ?_ <;> assumption))) ((go_at_call 192;refine (zA aV _ (by first | exact B9.drew | exact (B9.alloc L9 _).drew | exact B9.drew.alloc L9 _)).mono ?_;rintro e w2 ⟨v,rfl,aB,aH⟩;obtain⟨fE,iU,rfl⟩:=zD aB;obtain⟨m0,m1,m2,m3,m4,m5,m6,m7⟩:=zA HK _ _ (by first | exact B9.drew | exact (B9.alloc L9 _).drew | exact B9.drew.alloc L9 _) aH;have nN:=λ (j:Nat) h=>aH.cell (p:=⟨wr.heap.size,j,none⟩) h;have se:=λ (j:Nat) h=>aH.frozen (p:=⟨wr.heap.size,j,none⟩) h;have gL:=zC aB;clear aB))
     all_goals
      go_wp2_with fail;go_meet
      case rel=>first | exact⟨_,_,rfl,M5.behind (W:=wr.drew) B9.drew aH (zA gL)⟩ | exact⟨_,_,rfl,M5.ahead (W:=(wr.alloc (.cells #[.string { data:=#[] },.slice none 0 0,.bool false,.int .i64 0,.int .i64 0] 243)).drew) (B9.alloc L9 _).drew L9 (heap_alloc_new wr _) aH (zA gL)⟩
    case rest=>
     obtain⟨b,v,rfl,hM⟩:=hcut;obtain⟨fE,iU,rfl⟩:=zD hM.row;have I8:=hM.below.size;have dj:=(zA HI).dm hM.below;obtain⟨r0,-⟩:=zB hM.cP 0;obtain⟨r1,-⟩:=zB hM.cP 1;obtain⟨r2,-⟩:=zB hM.cP 2;obtain⟨r3,-⟩:=zB hM.cP 3;obtain⟨r4,-⟩:=zB hM.cP 4;have iR:=zC dj
     cases ok with
     | false=>
      clear hM dj HI aV HK x0 x1 y0 y1 y2 y3 y4 p5;go_wp2_with fail;go_roundg (bs.length-(k+1));exact⟨k+1,by omega,rfl,by rw[zA tm];rfl,by go_num,zA iR⟩;omega
     | true=>
      have SS:=zC (zbw wc wr.heap.size (bf NE A) fE iU false 0 0 hM.row hlen);have nP:=zH (zA HC).facts.row dj.below (λ g e=>((zA HC).facts.row.lt g e).2);have uN:=zC nP;clear hM dj HI aV HK x0 x1 y0 y1 y2 y3 y4 p5 nP;go_wp2_with fail;refine (zA SS).mono ?_;rintro e w3 ⟨s,rfl,hs,eG⟩;have Yz:s=zU (bf NE A):=by
       cases s
       simp only[zU,<-hs,Array.toArray_toList]
      subst Yz;have lj:=zC ((zA iR).dm eG);have Sq:=zC (zco w3 base al cl fs (zU (bf NE A)) (zH (zA uN) eG (λ g e=>((zA uN).lt g e).2)));clear hs eG r0 r1 r2 r3 r4 SS iR uN;generalize zU (bf NE A)=tx at *;generalize yL (fs.map (·.F)) tx=fx at *;go_wp2_with fail;refine (zA Sq).mono ?_;rintro e w4 ⟨rfl,rfl⟩;clear Sq
      by_cases mZ:fx<0
      ·go_wp2_with fail;go_roundg (bs.length-(k+1));exact⟨k+1,by omega,rfl,by rw[zA tm];simp[mZ],by go_num,zA lj⟩;omega
      ·go_wp2_with fail;go_roundg (bs.length-(k+1));exact⟨k+1,by omega,rfl,by rw[zA tm];simp,by go_num,zA lj⟩;omega
  ·have HI:=zC hI;have qn:k=bs.length:=(by omega);have HE:=zC (show (R.body.take k).all (zra (fs.map (·.F)) now[i].e)=R.body.all (zra (fs.map (·.F)) now[i].e) by rw[qn,<-zA F1,List.take_length]);rw[zA HE];clear hI;go_wp2_with fail;apply zA HX;exact zA HI
def zhk (R:zP)(l:List zQ)(x:Way):Bool:=R.body.all (zra l x.1)
theorem yap (w:W8)(base:Nat)(R:zP)(hv:Value)(bs:List (zL × Value))(bv:Value)(fs:List FG)(al:O8)(cl:Nat)(hC:z2l w base R hv bs bv fs (.slice al fs.length cl))(now:List WG)(an:O8)(cn:Nat)(ng:now.length<=1000000)(aT:∀ x∈now,∀ a∈R.body,(xS (bf x.e a)).length<=1000000000)(w1:W8)(hI:ma w R hv bv (.slice an now.length cn) now (.slice none 0 0) [] w1)
  {Q:Exit->Act->W8->Prop} {c0 c3 c4 c6 c7 c8 c9 eQ gM iS eJ eY fZ eL dU dR dx dy dz dA dB dC dD dE dF dG dL dM dN dO dP dV dW dX ee eg ei eo ep ev dd ew ey ez eA dY dZ eD eE dQ eZ fa fc di fe fg fh fi fj fl fm fo fp fH fI fJ fK fL gd gh gi gj gq gu gv fM fN fq ft fu fO fP fQ fR fU fV fW fX gw gy gz gA gB gC gD cg bq br bt bu bx bz bC bU bV bW bX bD bE bG bH bI bJ bK bL bM bj bk bn bN bO bP bQ aZ aW:Value}
  (aJ:∀ (MD:Value) (outs:List WG) (w2:W8) (oj pJ u16 sC sI sJ qc qd qe qf qg qh qi qj oB oC oD oE oF oG oH fF jk jl jm jn jo jq jr iM iN iO iP js jt ju jv jw jx jy jz kc kJ kK kL ke kf kg kh lx:Value),ma w R hv bv (.slice an now.length cn) now MD outs w2->outs.map (·.W)=(now.map (·.W)).filter (zhk R (fs.map (·.F)))->(∀ x∈outs,x∈now)->Q (.exit 6) ⟨List.toArray (c0::.slice al fs.length cl::.pointer (some ⟨w.heap.size,0,none⟩)::c3::c4::.slice an now.length cn::c6::c7::c8::c9::eQ::gM::iS::MD::oj::pJ::u16::sC::eL::dU::dR::dx::dy::dz::dA::dB::dC::dD::dE::dF::dG::dL::dM::dN::dO::dP::dV::dW::dX::ee::eg::ei::eo::ep::ev::dd::ew::ey::ez::eA::dY::dZ::eD::eE::dQ::eZ::fa::fc::di::fe::fg::fh::fi::fj::fl::fm::fo::fp::fH::fI::fJ::fK::fL::gd::gh::gi::gj::gq::gu::gv::fM::fN::fq::sI::sJ::qc::qd::qe::qf::qg::qh::qi::qj::oB::oC::oD::oE::oF::oG::oH::fF::jk::jl::jm::jn::jo::jq::jr::iM::iN::iO::iP::js::jt::ju::jv::jw::jx::jy::jz::kc::kJ::kK::kL::ke::kf::kg::kh::lx::aW::[]),[]⟩ w2):
  Code.wp Tryz.prog (Code.loop (z2c 3)) Q ⟨List.toArray (c0::.slice al fs.length cl::.pointer (some ⟨w.heap.size,0,none⟩)::c3::c4::.slice an now.length cn::c6::c7::c8::c9::eQ::gM::iS::.slice none 0 0::.int .i64 (0:Nat)::eJ::eY::fZ::eL::dU::dR::dx::dy::dz::dA::dB::dC::dD::dE::dF::dG::dL::dM::dN::dO::dP::dV::dW::dX::ee::eg::ei::eo::ep::ev::dd::ew::ey::ez::eA::dY::dZ::eD::eE::dQ::eZ::fa::fc::di::fe::fg::fh::fi::fj::fl::fm::fo::fp::fH::fI::fJ::fK::fL::gd::gh::gi::gj::gq::gu::gv::fM::fN::fq::ft::fu::fO::fP::fQ::fR::fU::fV::fW::fX::gw::gy::gz::gA::gB::gC::gD::cg::bq::br::bt::bu::bx::bz::bC::bU::bV::bW::bX::bD::bE::bG::bH::bI::bJ::bK::bL::bM::bj::bk::bn::bN::bO::bP::bQ::aZ::aW::[]),[]⟩ w1:=by
 conv=>arg 2;arg 1;whnf
 have HC:=zC hC;have HI:=zC hI;have HX:=zC aJ;have lN:=zC aT;obtain⟨iw,Qj,dK,nj,lL⟩:=info_parts zzj;clear hC hI aJ aT
 go_loopg [13,14] now.length (λ gg v ii wr=>∃ (i:Nat) (outs:List WG),i<=now.length/\gg=now.length-i/\ii=.int .i64 i/\ma w R hv bv (.slice an now.length cn) now v outs wr/\outs.map (·.W)++((now.map (·.W)).drop i).filter (zhk R (fs.map (·.F)))=(now.map (·.W)).filter (zhk R (fs.map (·.F)))/\(∀ x∈outs,x∈now)/\outs.length<=i)
 exact⟨0,[],Nat.zero_le _,rfl,rfl,zA HI,by simp,by simp,by simp⟩
 case round=>
  clear HI;obtain⟨i,outs,hi,IV,rfl,hI,ax,Cm,AL⟩:=hrel;obtain⟨a7,c7,rfl⟩:=zD hI.next.row;have HI:=zC hI;have HF:=zC ax;have HS:=zC Cm;clear hI ax Cm
  by_cases jb:i<now.length
  ·have rF:(i:Int)<now.length:=(by omega);have aP:((now.map (·.W)).drop i).filter (zhk R (fs.map (·.F)))=(if zhk R (fs.map (·.F)) now[i].W then [now[i].W] else [])++((now.map (·.W)).drop (i+1)).filter (zhk R (fs.map (·.F))):=by
    rw[List.drop_eq_getElem_cons (by simpa using jb),List.filter_cons,List.getElem_map]
    split <;> simp
   have az:=zC ((congrArg (outs.map (·.W)++·) aP).symm.trans (zA HF));clear aP HF;go_wp2_with fail;refine yaq w base R hv bs bv fs al cl (zA HC) now an cn i jb (zA lN _ (List.getElem_mem jb)) _ outs wr (zA HI) ?_;intro w8;intros;rename_i hI8;have CZ:=zC hI8;have cd:R.body.all (zra (fs.map (·.F)) now[i].e)=zhk R (fs.map (·.F)) now[i].W:=rfl;rw[cd]
   cases hw:zhk R (fs.map (·.F)) now[i].W with
   | false=>
    have aQ:=zC (show outs.map (·.W)++((now.map (·.W)).drop (i+1)).filter (zhk R (fs.map (·.F)))=(now.map (·.W)).filter (zhk R (fs.map (·.F))) by have:=zA az;rw[hw] at this;simpa using this);clear cd hI8 az HI hw;go_wp2_with fail;go_roundg (now.length-(i+1));exact⟨i+1,outs,by omega,rfl,by go_num,zA CZ,zA aQ,zA HS,by omega⟩;omega
   | true=>
    have aQ:=zC (show (outs++[now[i]]).map (·.W)++((now.map (·.W)).drop (i+1)).filter (zhk R (fs.map (·.F)))=(now.map (·.W)).filter (zhk R (fs.map (·.F))) by have:=zA az;rw[hw] at this;simpa using this);obtain⟨g5,c5,Aj,-,uA,LL,zz,x0,x1,x2⟩:=zq5 hI8.now.row jb;injection Aj with i1 i2 i3
    subst i1 i3;have gY:=hI8.now.each _ (List.getElem_mem jb);obtain⟨oV,oX,bp,fw,e1,e2⟩:=gY.env.shape;obtain⟨af,cf,e3⟩:=zD gY.fr
    have O0:=zC (show ∀ x∈outs++[now[i]],x∈now from λ x hx=>by
     rcases List.mem_append.1 hx with hx | hx
     ·exact zA HS x hx
     ·rw[List.mem_singleton.1 hx];exact List.getElem_mem jb)
    have iI:=λ (w5:W8) (g cap:Nat) (hg:(w8.alloc (.cells #[now[i].nv,now[i].tv,now[i].fv] 325)).grownBy w5 (Value.slice a7 outs.length c7).ownBlock) (aC:w5.ownsRow (w.heap.size+1) 325 3 (.slice (some ⟨g,0,none⟩) (outs.length+1) cap) (outs.length+1) (outs.flatMap WG.cells++[now[i].nv,now[i].tv,now[i].fv])) (eS:(Value.slice a7 outs.length c7).ownBlock=some g\/g=(w8.alloc (.cells #[now[i].nv,now[i].tv,now[i].fv] 325)).heap.size)=>ma.add hI8 gY ((zN.refl [] _).alloc _) hg aC eS
    have aB:=hI8.next.row;have nR:=hI8.lt;have oT:=zC iI;have HR:=zC (aB.alloc (.cells #[now[i].nv,now[i].tv,now[i].fv] 325));have ij:=zC (World.news_of_block (heap_alloc_new w8 (.cells #[now[i].nv,now[i].tv,now[i].fv] 325)));rw[e1,e2,e3] at oT HR ij;rw[e1] at x0;rw[e2] at x1;rw[e3] at x2;clear cd hI8 az HI hw CZ gY iI aB e1 e2 e3 HS;generalize now[i].e.length=ne at *;generalize now[i].fr.length=nf at *;go_wp2_with (at_builtin;go_must (refine wpList_append_lies _ rfl _ _ _ rfl (w.heap.size+1) 325 iw (.agg #[.slice none 0 0,.slice none 0 0,.slice none 0 0]) 3 72 Tryz.underlying322 Qj dK nj lL rfl (by decide) (.slice a7 outs.length c7) outs.length _ rfl (zA HR) ⟨w8.heap.size,0,none⟩ 1 1 [.slice oV ne oX,.slice bp ne fw,.slice af nf cf] rfl rfl (zA ij) (by simp[Value.oneCell']) (by decide) (by unfold maxLen;omega) (by omega) (by simp;omega) _ rfl ?_;intro g cap w5 aj aU cN hlt5));have J5:=zC (zA oT w5 g cap aU aj cN);go_roundg (now.length-(i+1));exact⟨i+1,outs++[now[i]],by omega,rfl,by go_num,zA J5,zA aQ,zA O0,by rw[List.length_append,List.length_singleton];omega⟩;omega
  ·have HE:=zC (show outs.map (·.W)=(now.map (·.W)).filter (zhk R (fs.map (·.F))) by rw[<-zA HF,List.drop_of_length_le (by simp;omega)];simp);clear HF;go_wp2_with fail;apply zA HX
   ·exact zA HI
   ·exact zA HE
   ·exact zA HS
end
end Go.Proofs.YtldkpahaocjdpaaGreat
