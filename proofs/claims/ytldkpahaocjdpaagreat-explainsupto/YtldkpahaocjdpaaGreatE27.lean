/-
  The reference's ways: the loop over the ways so far, and the loop over the literals.
-/
import Derived.Test.YtldkpahaocjdpaaGreatE26
set_option maxHeartbeats 16000000
set_option maxRecDepth 1000000
namespace Go.Proofs.YtldkpahaocjdpaaGreat
section
open Go.RowKit
theorem yee (w:W8)(base:Nat)(R:zS)(hv:Value)(bs:List (zL × Value))(bv:Value)(fs:List FG)(al:O8)(cl:Nat)(hC:yaq w base R hv bs bv fs (.slice al fs.length cl))(now:List WG)(an:O8)(cn k:Nat)(hk:k<bs.length)(aW:∀ x∈now,x.e.length<=100/\x.fr.length<=100)(mB:now.length<=1000000)(hT:(zgk bs[k].1 (fs.map (·.F)) (now.map (·.W))).length<=1000000)(w1:W8)(hI:jn w R hv bv (.slice an now.length cn) now (.slice none 0 0) [] w1)
  {Q:Exit->Act->W8->Prop} {c0 c3 c4 c9 gS lI gy gV ij gw il gZ fE eH eZ fc eW eT eL eV eX eY eO eR eQ fh fj fo ft fk fJ fL fI fY fQ fO gq fV gu dT gd fM gn fP fN fZ gN gQ fG jv jq jr ee kf jt km kg jw ju ko kc jz jy kq js jx ki kH kL kR kD kI kX kZ kr kz iZ jh iW iV iT iO jm iP jf jl jo iQ jd jb je iY jc ji dq cF cC cx cE cA cD cy cM cU de cL cN cK dg cZ cO da cR dc cJ cG cH cj cW cV cP cX dd cq:Value}
  (aT:∀ (KG:Value) (next':List WG) (w2:W8) (u8 u9 rz ri pX AG Ao AA tY tw sC rB rG qg qy qw ql rO qb rA rq pV pU qz nP nE vu vy uU vt wL uL wE wq vv wo u64 vq vr uS wH ve uZ wI wm tM tE sK sN tR tP sU tW sS:Value),jn w R hv bv (.slice an now.length cn) now KG next' w2->next'.map (·.W)=zgk bs[k].1 (fs.map (·.F)) (now.map (·.W))->Q (.exit 2) ⟨List.toArray (c0::.slice al fs.length cl::.pointer (some ⟨w.heap.size,0,none⟩)::c3::c4::.slice an now.length cn::.int .i64 k::KG::u8::u9::rz::ri::pX::gV::ij::gw::il::gZ::fE::eH::eZ::fc::eW::eT::eL::eV::eX::eY::eO::eR::eQ::fh::fj::AG::Ao::AA::tY::tw::sC::rB::rG::qg::qy::qw::ql::rO::qb::rA::rq::pV::pU::qz::nP::nE::vu::vy::uU::vt::wL::uL::wE::wq::vv::wo::u64::vq::vr::uS::wH::ve::uZ::wI::wm::tM::tE::sK::sN::tR::tP::sU::tW::sS::iZ::jh::iW::iV::iT::iO::jm::iP::jf::jl::jo::iQ::jd::jb::je::iY::jc::ji::dq::cF::cC::cx::cE::cA::cD::cy::cM::cU::de::cL::cN::cK::dg::cZ::cO::da::cR::dc::cJ::cG::cH::cj::cW::cV::cP::cX::dd::cq::[]),[]⟩ w2):
  Code.wp Tryz.prog (Code.loop (z1s 1)) Q ⟨List.toArray (c0::.slice al fs.length cl::.pointer (some ⟨w.heap.size,0,none⟩)::c3::c4::.slice an now.length cn::.int .i64 k::.slice none 0 0::.int .i64 (0:Nat)::c9::gS::lI::gy::gV::ij::gw::il::gZ::fE::eH::eZ::fc::eW::eT::eL::eV::eX::eY::eO::eR::eQ::fh::fj::fo::ft::fk::fJ::fL::fI::fY::fQ::fO::gq::fV::gu::dT::gd::fM::gn::fP::fN::fZ::gN::gQ::fG::jv::jq::jr::ee::kf::jt::km::kg::jw::ju::ko::kc::jz::jy::kq::js::jx::ki::kH::kL::kR::kD::kI::kX::kZ::kr::kz::iZ::jh::iW::iV::iT::iO::jm::iP::jf::jl::jo::iQ::jd::jb::je::iY::jc::ji::dq::cF::cC::cx::cE::cA::cD::cy::cM::cU::de::cL::cN::cK::dg::cZ::cO::da::cR::dc::cJ::cG::cH::cj::cW::cV::cP::cX::dd::cq::[]),[]⟩ w1:=by
 conv=>arg 2;arg 1;whnf
 have HC:=zC hC;have HI:=zC hI;have HT:=zC hT;have pT:=zC aW;have HX:=zC aT;clear hC hI hT aW aT
 go_loopg [7,8] now.length (λ gg v ii wr=>∃ (i:Nat) (next':List WG),i<=now.length/\gg=now.length-i/\ii=.int .i64 i/\jn w R hv bv (.slice an now.length cn) now v next' wr/\next'.map (·.W)++zgk bs[k].1 (fs.map (·.F)) ((now.map (·.W)).drop i)=zgk bs[k].1 (fs.map (·.F)) (now.map (·.W)))
 exact⟨0,[],Nat.zero_le _,rfl,rfl,zA HI,by simp⟩
 case round=>
  clear HI;obtain⟨i,next',hi,Ny,rfl,hI,aE⟩:=hrel;obtain⟨a7,c7,rfl⟩:=zD hI.next.row;have HI:=zC hI;have HF:=zC aE;clear hI aE
  by_cases ku:i<now.length
  ·have Cc:(i:Int)<now.length:=(by omega);have aO:=z20 (a:=bs[k].1) (l:=fs.map (·.F)) (now:=now.map (·.W)) (i:=i) (by simpa using ku);rw[List.getElem_map] at aO;have pn:=(congrArg (next'.map (·.W)++·) aO).symm.trans (zA HF);simp only[<-List.append_assoc] at pn;have Ti:(next'.map (·.W)++zht bs[k].1 now[i].W (fs.map (·.F)) 0).length<=1000000:=by
    have:=congrArg List.length pn;rw[List.length_append] at this;have:=zA HT;omega
   have aC:=zC pn;have TW:=zC Ti;clear aO pn Ti HF;go_wp2_with fail;refine yek w base R hv bs bv fs al cl (zA HC) now an cn k i hk ku (zA pT _ (List.getElem_mem ku)).1 (zA pT _ (List.getElem_mem ku)).2 _ (zA TW) _ next' rfl wr (zA HI) ?_;intro v8 uw w8;intros;rename_i hI8 hF8;obtain⟨a8,c8,rfl⟩:=zD hI8.next.row;have B3:=zC hI8;have Ld:=zC (show uw.map (·.W)++zgk bs[k].1 (fs.map (·.F)) ((now.map (·.W)).drop (i+1))=zgk bs[k].1 (fs.map (·.F)) (now.map (·.W)) by rw[hF8];exact zA aC);clear hI8 hF8 aC TW HI;go_wp2_with fail;go_roundg (now.length-(i+1));exact⟨i+1,uw,by omega,rfl,by go_num,zA B3,zA Ld⟩;omega
  ·have HE:=zC (show next'.map (·.W)=zgk bs[k].1 (fs.map (·.F)) (now.map (·.W)) by rw[<-zA HF,List.drop_of_length_le (by simp;omega)];simp[zgk]);clear HF;go_wp2_with fail;apply zA HX
   ·exact zA HI
   ·exact zA HE
theorem jn.pr {w:W8}{R:zS}{hv bv nv:Value}{now:List WG}{v:Value}{next:List WG}{wr:W8}(h:jn w R hv bv nv now v next wr):jn w R hv bv v next (.slice none 0 0) [] wr:=
 ⟨h.below,h.box,h.next,⟨World.ownsRow_nil _ _ _ _,by simp⟩,λ g e=>by cases e⟩
theorem zn3 {a:zL}{x:Way}{n m:Nat}(ha:a.ae.length<=4)(h1:x.1.length<=n)(h2:x.2.length<=m):∀ (l:List zP) (i:Nat),∀ y∈zht a x l i,y.1.length<=n+4/\y.2.length<=m+1
 | [],_,y,hy=>by simp[zht] at hy
 | f::r,i,y,hy=>by
  rw[zht,List.mem_append] at hy;rcases hy with hy | hy
  ·split at hy
   ·rename_i e he;rw[List.mem_singleton.1 hy];have:=zn2 he;simp;omega
   ·simp at hy
  ·exact zn3 ha h1 h2 r (i+1) y hy
theorem zy1 {a:zL}{l:List zP}{now:List Way}{n m:Nat}(ha:a.ae.length<=4)(h:∀ x∈now,x.1.length<=n/\x.2.length<=m):∀ y∈zgk a l now,y.1.length<=n+4/\y.2.length<=m+1:=by
 intro y hy;obtain⟨x,hx,hy⟩:=List.mem_flatMap.1 hy;exact zn3 ha (h x hx).1 (h x hx).2 l 0 y hy
theorem yda {k:Nat}(h:k<=3):50 ^ k<=125000:=Nat.le_trans (Nat.pow_le_pow_right (by decide) h) (by decide)
theorem yea (w:W8)(base:Nat)(R:zS)(hv:Value)(bs:List (zL × Value))(bv:Value)(fs:List FG)(al:O8)(cl:Nat)(hC:yaq w base R hv bs bv fs (.slice al fs.length cl))(v5:Value)(w1:W8)(hI:jn w R hv bv v5 [⟨[],[],.slice none 0 0,.slice none 0 0,.slice none 0 0⟩] (.slice none 0 0) [] w1)
  {Q:Exit->Act->W8->Prop} {c0 c3 c4 c7 c8 c9 gS lI gy gV ij gw il gZ fE eH eZ fc eW eT eL eV eX eY eO eR eQ fh fj fo ft fk fJ fL fI fY fQ fO gq fV gu dT gd fM gn fP fN fZ gN gQ fG jv jq jr ee kf jt km kg jw ju ko kc jz jy kq js jx ki kH kL kR kD kI kX kZ kr kz iZ jh iW iV iT iO jm iP jf jl jo iQ jd jb je iY jc ji dq cF cC cx cE cA cD cy cM cU de cL cN cK dg cZ cO da cR dc cJ cG cH cj cW cV cP cX dd cq:Value}
  (aT:∀ (US:Value) (CF:List WG) (w2:W8) (u6 u7 u8 u9 rz ri pX Gp GX Fi G6 GY Gw FD Gq G4 FN FH Cq u32 AG Ao AA tY tw sC rB rG qg qy qw ql rO qb rA rq pV pU qz nP nE vu vy uU vt wL uL wE wq vv wo u64 vq vr uS wH ve uZ wI wm tM tE sK sN tR tP sU tW sS BP:Value),jn w R hv bv US CF (.slice none 0 0) [] w2->CF.map (·.W)=zip (fs.map (·.F)) R.body [([],[])]->(∀ x∈CF,x.e.length<=100/\x.fr.length<=100)->CF.length<=1000000->Q (.exit 0) ⟨List.toArray (c0::.slice al fs.length cl::.pointer (some ⟨w.heap.size,0,none⟩)::c3::c4::US::u6::u7::u8::u9::rz::ri::pX::gV::ij::gw::il::gZ::fE::eH::Gp::GX::Fi::G6::GY::Gw::FD::Gq::G4::FN::FH::Cq::u32::AG::Ao::AA::tY::tw::sC::rB::rG::qg::qy::qw::ql::rO::qb::rA::rq::pV::pU::qz::nP::nE::vu::vy::uU::vt::wL::uL::wE::wq::vv::wo::u64::vq::vr::uS::wH::ve::uZ::wI::wm::tM::tE::sK::sN::tR::tP::sU::tW::sS::BP::jh::iW::iV::iT::iO::jm::iP::jf::jl::jo::iQ::jd::jb::je::iY::jc::ji::dq::cF::cC::cx::cE::cA::cD::cy::cM::cU::de::cL::cN::cK::dg::cZ::cO::da::cR::dc::cJ::cG::cH::cj::cW::cV::cP::cX::dd::cq::[]),[]⟩ w2):
  Code.wp Tryz.prog (Code.loop (z1s 0)) Q ⟨List.toArray (c0::.slice al fs.length cl::.pointer (some ⟨w.heap.size,0,none⟩)::c3::c4::v5::.int .i64 (0:Nat)::c7::c8::c9::gS::lI::gy::gV::ij::gw::il::gZ::fE::eH::eZ::fc::eW::eT::eL::eV::eX::eY::eO::eR::eQ::fh::fj::fo::ft::fk::fJ::fL::fI::fY::fQ::fO::gq::fV::gu::dT::gd::fM::gn::fP::fN::fZ::gN::gQ::fG::jv::jq::jr::ee::kf::jt::km::kg::jw::ju::ko::kc::jz::jy::kq::js::jx::ki::kH::kL::kR::kD::kI::kX::kZ::kr::kz::iZ::jh::iW::iV::iT::iO::jm::iP::jf::jl::jo::iQ::jd::jb::je::iY::jc::ji::dq::cF::cC::cx::cE::cA::cD::cy::cM::cU::de::cL::cN::cK::dg::cZ::cO::da::cR::dc::cJ::cG::cH::cj::cW::cV::cP::cX::dd::cq::[]),[]⟩ w1:=by
 obtain⟨ab,Ko,rfl⟩:=zD hC.bK.bo
 conv=>arg 2;arg 1;whnf
 have dK:=hC.body;have iL:=hC.bK.eq;have Bi:R.body.length=bs.length:=by rw[iL];simp
 have HC:=zC hC;have HI:=zC hI;have HX:=zC aT;have Ev:=zC iL;have oU:=zC Bi;clear hC hI aT iL Bi
 go_loopg [5,6] bs.length (λ gg v kk wr=>∃ (k:Nat) (now:List WG),k<=bs.length/\gg=bs.length-k/\kk=.int .i64 k/\jn w R hv (.slice ab bs.length Ko) v now (.slice none 0 0) [] wr/\zip (fs.map (·.F)) (R.body.drop k) (now.map (·.W))=zip (fs.map (·.F)) R.body [([],[])]/\(∀ x∈now.map (·.W),x.1.length<=4*k/\x.2.length<=k)/\now.length<=50 ^ k)
 exact⟨0,_,Nat.zero_le _,rfl,rfl,zA HI,rfl,by simp[WG.W],by simp⟩
 case round=>
  clear HI;obtain⟨k,now,hk,eA,rfl,hI,aE,bN,hlen⟩:=hrel;obtain⟨an,cn,rfl⟩:=zD hI.now.row;have hp:=yda (k:=k) (by omega);have aW:∀ x∈now,x.e.length<=100/\x.fr.length<=100:=λ x hx=>by
   have:=bN x.W (List.mem_map_of_mem hx);simp only[WG.W] at this;omega
  have pT:=zC aW;obtain⟨p5,-⟩:=zB hI.box 5;have HI:=zC hI;have HF:=zC aE;have D5:=zC bN;have wU:=zC hlen;have mB:now.length<=1000000:=by omega
  clear aE bN hlen aW hp
  by_cases aF:k<bs.length
  ·have nz:(k:Int)<bs.length:=(by omega);have hC:=zA HC;have iu:=zJ hC.bK.bo hI.below (λ g e=>(hC.bK.bo.lt g e).2);obtain⟨gb,cb,nG,-,ot,eS,xw,y0,y1,y2,y3,y4⟩:=jY iu k aF;injection nG with q1 q2 q3
   subst q1 q3;have hR:R.body[k]'(by rw[zA oU];exact aF)=bs[k].1:=by
    have:=zA Ev;simp only[this,List.getElem_map]
   have aO:=z4g (l:=fs.map (·.F)) (b:=R.body) (k:=k) (now:=now.map (·.W)) (by rw[zA oU];exact aF);rw[hR] at aO;have h4:bs[k].1.ae.length<=4:=hC.ae _ (by rw[hC.bK.eq];exact List.mem_map_of_mem (List.getElem_mem aF));have dD:=zC (aO.symm.trans (zA HF));clear hC iu hI aO hR HF y0 y1 y3 y4
   cases hneg:bs[k].1.no with
   | true=>
    rw[hneg] at y2;have aC:=zC (show zip (fs.map (·.F)) (R.body.drop (k+1)) (now.map (·.W))=zip (fs.map (·.F)) R.body [([],[])] by have:=zA dD;rw[hneg] at this;exact this);clear dD hneg;go_wp2_with fail;go_roundg (bs.length-(k+1));exact⟨k+1,now,by omega,rfl,by go_num,zA HI,zA aC,λ x hx=>by have:=zA D5 x hx;omega,Nat.le_trans (zA wU) (Nat.pow_le_pow_right (by decide) (by omega))⟩;omega
   | false=>
    rw[hneg] at y2;have aC:=zC (show zip (fs.map (·.F)) (R.body.drop (k+1)) (zgk bs[k].1 (fs.map (·.F)) (now.map (·.W)))=zip (fs.map (·.F)) R.body [([],[])] by have:=zA dD;rw[hneg] at this;exact this);have xo:(zgk bs[k].1 (fs.map (·.F)) (now.map (·.W))).length<=50 ^ (k+1):=by
     have h1:=zwo bs[k].1 (fs.map (·.F)) (now.map (·.W));rw[List.length_map,List.length_map] at h1;have h2:=Nat.mul_le_mul (zA wU) (zA HC).eJ;rw[Nat.pow_succ];omega
    have hT:(zgk bs[k].1 (fs.map (·.F)) (now.map (·.W))).length<=1000000:=by
     have:=yda (k:=k+1) (by omega);omega
    have OJ:=zC (zy1 (l:=fs.map (·.F)) h4 (zA D5));have Vy:=zC xo;clear dD hneg xo;go_wp2_with fail;refine yee w base R hv bs _ fs al cl (zA HC) now an cn k aF (zA pT) mB hT wr (zA HI) ?_;intro v8 uw w8;intros;rename_i hI8 hF8;obtain⟨a8,c8,rfl⟩:=zD hI8.next.row;have B3:=zC hI8.pr;have Ld:=zC hF8;clear hI8 hF8 HI pT D5 wU hT;go_wp2_with fail;go_roundg (bs.length-(k+1));exact⟨k+1,uw,by omega,rfl,by go_num,zA B3,by rw[zA Ld];exact zA aC,by rw[zA Ld];intro y hy;have:=zA OJ y hy;omega,by rw[<-List.length_map (f:=(·.W)),zA Ld];exact zA Vy⟩;omega
  ·have HE:=zC (show now.map (·.W)=zip (fs.map (·.F)) R.body [([],[])] by rw[<-zA HF,List.drop_of_length_le (by rw[zA oU];omega)];rfl);clear HF hI;go_wp2_with fail;apply zA HX
   ·exact zA HI
   ·exact zA HE
   ·exact zA pT
   ·exact mB
end
section
open Go.RowKit
variable {j:Nat}
theorem z7l {α:Type}{l:List α}(hj:j<l.length)(f:α->Bool):(l.take (j+1)).all f=((l.take j).all f&&f l[j]):=by
 rw[List.take_succ_eq_append_getElem hj,List.all_append];simp only[List.all_cons,List.all_nil,Bool.and_true]
structure M5 (wr:W8)(B:zL)(b:Nat)(v:Value)(wc:W8):Prop where
 below:Below wr.heap.size wr wc
 bq:wc.heap[b]?=some (.cells #[.string B.pred,v,.bool false,.int .i64 0,.int .i64 0] 243 (0,0))
 row:wc.ownsRow wr.heap.size 317 3 v B.ae.length (cellsOf B.ae)
variable {v:Value} {B:zL} {wr W w2:W8}
theorem M5.behind (hW:Below wr.heap.size wr W)(h2:Below W.heap.size W w2)(hr:w2.ownsRow W.heap.size 317 3 v B.ae.length (cellsOf B.ae)):M5 wr B w2.heap.size v (w2.alloc (.cells #[.string B.pred,v,.bool false,.int .i64 0,.int .i64 0] 243)):=by
 have hs:=hW.size;have su:=h2.size;exact⟨(hW.trans (h2.mono hs)).alloc (by omega) _,heap_alloc_new w2 _,zG (hr.alloc _) (by omega)⟩
variable {u0 u1 u2 u3 u4:Value} {b:Nat}
theorem M5.ahead (hW:Below wr.heap.size wr W)(hb:wr.heap.size<=b)(hblk:W.heap[b]?=some (.cells #[u0,u1,u2,u3,u4] 243 (0,0)))(h2:Below W.heap.size W w2)(hr:w2.ownsRow W.heap.size 317 3 v B.ae.length (cellsOf B.ae)):M5 wr B b v (((((w2.setCell ⟨b,0,none⟩ (.string B.pred)).setCell ⟨b,1,none⟩ v).setCell ⟨b,2,none⟩ (.bool false)).setCell ⟨b,3,none⟩ (.int .i64 0)).setCell ⟨b,4,none⟩ (.int .i64 0)):=by
 have hs:=hW.size;have aH:=(Array.getElem?_eq_some_iff.1 hblk).1;have h1:=(h2.block b aH).trans hblk;have g0:(w2.setCell ⟨b,0,none⟩ (.string B.pred)).heap[b]?=some (.cells #[.string B.pred,u1,u2,u3,u4] 243 (0,0)):=by rw[heap_setCell_same _ _ _ _ _ _ h1];rfl
 have g1:((w2.setCell ⟨b,0,none⟩ (.string B.pred)).setCell ⟨b,1,none⟩ v).heap[b]?=some (.cells #[.string B.pred,v,u2,u3,u4] 243 (0,0)):=by rw[heap_setCell_same _ _ _ _ _ _ g0];rfl
 have g2:(((w2.setCell ⟨b,0,none⟩ (.string B.pred)).setCell ⟨b,1,none⟩ v).setCell ⟨b,2,none⟩ (.bool false)).heap[b]?=some (.cells #[.string B.pred,v,.bool false,u3,u4] 243 (0,0)):=by rw[heap_setCell_same _ _ _ _ _ _ g1];rfl
 have g3:((((w2.setCell ⟨b,0,none⟩ (.string B.pred)).setCell ⟨b,1,none⟩ v).setCell ⟨b,2,none⟩ (.bool false)).setCell ⟨b,3,none⟩ (.int .i64 0)).heap[b]?=some (.cells #[.string B.pred,v,.bool false,.int .i64 0,u4] 243 (0,0)):=by rw[heap_setCell_same _ _ _ _ _ _ g2];rfl
 have fW:∀ j,wr.heap.size<=(⟨b,j,none⟩:Addr).block:=λ _=>hb
 have nV:∀ j,(⟨b,j,none⟩:Addr).block<W.heap.size:=λ _=>aH
 refine⟨(((((hW.trans (h2.mono hs)).setCell (fW 0) _).setCell (fW 1) _).setCell (fW 2) _).setCell (fW 3) _).setCell (fW 4) _,by rw[heap_setCell_same _ _ _ _ _ _ g3];rfl,?_⟩;exact zG (ownsRow_setCell_below (ownsRow_setCell_below (ownsRow_setCell_below (ownsRow_setCell_below (ownsRow_setCell_below hr (nV 0) _) (nV 1) _) (nV 2) _) (nV 3) _) (nV 4) _) (by omega)
theorem zw3 {w:W8}{g:Nat}(h:¬ g=b):(((((w.setCell ⟨b,0,none⟩ u0).setCell ⟨b,1,none⟩ u1).setCell ⟨b,2,none⟩ u2).setCell ⟨b,3,none⟩ u3).setCell ⟨b,4,none⟩ u4).cell? ⟨g,j,none⟩=w.cell? ⟨g,j,none⟩:=by
 have e:∀ (w:W8) (i:Nat) (u:Value),(w.setCell ⟨b,i,none⟩ u).cell? ⟨g,j,none⟩=w.cell? ⟨g,j,none⟩:=λ w i u=>World.cell?_of_block (Below.heap_setCell _ ⟨b,i,none⟩ _ g (by simpa using h))
 rw[e,e,e,e,e]
theorem yej (w:W8)(base:Nat)(R:zS)(hv:Value)(bs:List (zL × Value))(bv:Value)(fs:List FG)(al:O8)(cl:Nat)(hC:yaq w base R hv bs bv fs (.slice al fs.length cl))(now:List WG)(an:O8)(cn i:Nat)(hi:i<now.length)(bj:∀ a∈R.body,(jG (eN now[i].e a)).length<=1000000000)(M1:Value)(outs:List WG)(w1:W8)(hI:jn w R hv bv (.slice an now.length cn) now M1 outs w1)
  {Q:Exit->Act->W8->Prop} {c0 c3 c4 c6 c7 c8 c9 gS lI gy gV gZ fE eH eZ fc eW eT eL eV eX eY eO eR eQ fh fj fo ft fk fJ fL fI fY fQ fO gq fV gu dT gd fM gn fP fN fZ gN gQ fG jv jq jr ee kf jt km kg jw ju ko kc jz jy kq js jx ki kH kL kR kD kI kX kZ kr kz iZ jh iW iV iT iO jm iP jf jl jo iQ jd jb je iY jc ji dq cF cC cx cE cA cD cy cM cU de cL cN cK dg cZ cO da cR dc cJ cG cH cj cW cV cP cX dd cq:Value}
  (aT:∀ (w2:W8) (u16 A0 Am AE Bo An BE BT Bb ym zl zi zw lA sX tD sy ud tQ sL sI oA oB o8 oI pg oG oD oX oZ oP oQ ov oY:Value),jn w R hv bv (.slice an now.length cn) now M1 outs w2->Q (.exit 8) ⟨List.toArray (c0::.slice al fs.length cl::.pointer (some ⟨w.heap.size,0,none⟩)::c3::c4::.slice an now.length cn::c6::c7::c8::c9::gS::lI::gy::gV::.int .i64 i::.bool (R.body.all (ztj (fs.map (·.F)) now[i].e))::u16::A0::fE::eH::eZ::fc::eW::eT::eL::eV::eX::eY::eO::eR::eQ::fh::fj::fo::ft::fk::fJ::fL::fI::fY::fQ::fO::gq::fV::gu::dT::gd::fM::gn::fP::fN::fZ::gN::gQ::fG::jv::jq::jr::ee::kf::jt::km::kg::jw::ju::ko::kc::jz::jy::kq::js::jx::ki::kH::kL::kR::kD::kI::kX::kZ::kr::kz::iZ::jh::iW::iV::iT::iO::jm::Am::AE::Bo::An::BE::BT::Bb::ym::zl::zi::zw::lA::sX::tD::sy::ud::tQ::sL::sI::oA::oB::o8::oI::pg::oG::oD::oX::oZ::oP::oQ::ov::oY::cG::cH::cj::cW::cV::cP::cX::dd::cq::[]),[]⟩ w2):
  Code.wp Tryz.prog (Code.loop (z1s 4)) Q ⟨List.toArray (c0::.slice al fs.length cl::.pointer (some ⟨w.heap.size,0,none⟩)::c3::c4::.slice an now.length cn::c6::c7::c8::c9::gS::lI::gy::gV::.int .i64 i::.bool true::.int .i64 (0:Nat)::gZ::fE::eH::eZ::fc::eW::eT::eL::eV::eX::eY::eO::eR::eQ::fh::fj::fo::ft::fk::fJ::fL::fI::fY::fQ::fO::gq::fV::gu::dT::gd::fM::gn::fP::fN::fZ::gN::gQ::fG::jv::jq::jr::ee::kf::jt::km::kg::jw::ju::ko::kc::jz::jy::kq::js::jx::ki::kH::kL::kR::kD::kI::kX::kZ::kr::kz::iZ::jh::iW::iV::iT::iO::jm::iP::jf::jl::jo::iQ::jd::jb::je::iY::jc::ji::dq::cF::cC::cx::cE::cA::cD::cy::cM::cU::de::cL::cN::cK::dg::cZ::cO::da::cR::dc::cJ::cG::cH::cj::cW::cV::cP::cX::dd::cq::[]),[]⟩ w1:=by
 obtain⟨ab,Ko,rfl⟩:=zD hC.bK.bo
 conv=>arg 2;arg 1;whnf
 have dK:=hC.body;have iL:=hC.bK.eq;have Bi:R.body.length=bs.length:=by rw[iL];simp
 have HC:=zC hC;have HI:=zC hI;have HX:=zC aT;have Ev:=zC iL;have oU:=zC Bi;have mi:=zC bj;clear hC hI aT iL Bi bj
 go_loopg [15,16] bs.length (λ gg v kk wr=>∃ (k:Nat),k<=bs.length/\gg=bs.length-k/\v=.bool ((R.body.take k).all (ztj (fs.map (·.F)) now[i].e))/\kk=.int .i64 k/\jn w R hv (.slice ab bs.length Ko) (.slice an now.length cn) now M1 outs wr)
 exact⟨0,Nat.zero_le _,rfl,rfl,rfl,zA HI⟩
 case round=>
  clear HI;obtain⟨k,hk,eA,rfl,rfl,hI⟩:=hrel;obtain⟨p5,-⟩:=zB hI.box 5;simp only[List.getElem?_toArray,List.getElem?_cons_zero,List.getElem?_cons_succ] at p5
  by_cases aF:k<bs.length
  ·have nz:(k:Int)<bs.length:=(by omega);have hC:=zA HC;have kx:=hI.below.size;have b1:=hI.lt;have iu:=zJ hC.bK.bo hI.below (λ g e=>(hC.bK.bo.lt g e).2);obtain⟨gb,cb,nG,-,ot,eS,xw,y0,y1,y2,y3,y4⟩:=jY iu k aF;injection nG with q1 q2 q3
   subst q1 q3;have hR:R.body[k]'(by rw[zA oU];exact aF)=bs[k].1:=by
    have:=zA Ev;simp only[this,List.getElem_map]
   have dv:=z7l (l:=R.body) (j:=k) (by rw[zA oU];exact aF) (ztj (fs.map (·.F)) now[i].e);rw[hR] at dv;have cg:bs[k].1∈R.body:=(by rw[zA Ev];exact List.mem_map_of_mem (List.getElem_mem aF));have h4:=hC.ae _ cg;have hlen:=zA mi _ cg;obtain⟨g5,c5,Db,-,yt,OL,BQ,x0,x1,x2⟩:=zvs hI.now.row hi;injection Db with i1 i2 i3
   subst i1 i3;have fX:=hI.now.each _ (List.getElem_mem hi);obtain⟨pJ,pA,br,dL,e1,e2⟩:=fX.env.shape;have Ak:=hC.bK.bl _ (List.getElem_mem aF);obtain⟨aa,ca,e3⟩:=zD Ak;rw[e1] at x0;rw[e2] at x1;rw[e3] at y1;have ib:∀ W,Below wr.heap.size wr W->Calls Tryz.prog 192 #[.agg #[.slice pJ now[i].e.length pA,.slice br now[i].e.length dL],.agg #[.string bs[k].1.pred,.slice aa bs[k].1.ae.length ca,.bool bs[k].1.no,.int .i64 bs[k].1.at_,.int .i64 bs[k].1.az]] W (z3d W now[i].e bs[k].1):=λ W hW=>by
    have hB:=hI.below.trans (hW.mono kx);have q1:=fX.env.below hW;rw[e1,e2] at q1;rw[e3] at Ak;exact z4n W 0 now[i].e bs[k].1 pJ br aa pA dL ca ⟨zG q1.ns (Nat.zero_le _),zG q1.ts (Nat.zero_le _),q1.nil⟩ (zG (zJ Ak hB (λ g e=>(Ak.lt g e).2)) (Nat.zero_le _)) (by omega)
   have cQ:=zC ib;have HI:=zC hI;have tJ:=zC dv;have Cc:(i:Int)<now.length:=(by omega);have d5:¬ g5=wr.heap.size:=(by omega);have db:¬ gb=wr.heap.size:=(by omega);have dw:¬ w.heap.size=wr.heap.size:=(by omega);clear hC hI iu fX Ak ib dv hR cg e1 e2 e3 kx x2;generalize bs[k].1=A at *;generalize (R.body.take k).all (ztj (fs.map (·.F)) now[i].e)=ok at *;generalize now[i].e=NE at *
   cases hneg:A.no with
   | false=>
    rw[hneg] at y2;have Eb:=zC (show (R.body.take (k+1)).all (ztj (fs.map (·.F)) NE)=ok by rw[zA tJ,ztj,hneg];simp);clear tJ cQ y0 y1 y3 y4 x0 x1 hneg;go_wp2_with fail;go_roundg (bs.length-(k+1));exact⟨k+1,by omega,rfl,by rw[zA Eb],by go_num,zA HI⟩;omega
   | true=>
    have Eb:=zC (show (R.body.take (k+1)).all (ztj (fs.map (·.F)) NE)=(ok&&decide (jE (fs.map (·.F)) (xP (eN NE A))<0)) by rw[zA tJ,ztj,hneg];simp)
    have HK:Hid (∀ W w':W8,Below wr.heap.size wr W->Below W.heap.size W w'->w'.cell? ⟨g5,i*3,none⟩=some (.slice pJ NE.length pA)/\w'.cell? ⟨g5,i*3+1,none⟩=some (.slice br NE.length dL)/\w'.cell? ⟨w.heap.size,5,none⟩=some (.slice (some ⟨gb,0,none⟩) bs.length Ko)/\w'.cell? ⟨gb,k*5,none⟩=some (.string A.pred)/\w'.cell? ⟨gb,k*5+1,none⟩=some (.slice aa A.ae.length ca)/\w'.cell? ⟨gb,k*5+2,none⟩=some (.bool true)/\w'.cell? ⟨gb,k*5+3,none⟩=some (.int .i64 A.at_)/\w'.cell? ⟨gb,k*5+4,none⟩=some (.int .i64 A.az)):=zC (λ W w' h1 h2=>by
     have hB:=h1.trans (h2.mono h1.size);rw[hneg] at y2
     exact⟨(hB.cell (by simpa using yt)).trans x0,(hB.cell (by simpa using yt)).trans x1,(hB.cell (by simpa using b1)).trans p5,(hB.cell (by simpa using ot)).trans y0,(hB.cell (by simpa using ot)).trans y1,(hB.cell (by simpa using ot)).trans y2,(hB.cell (by simpa using ot)).trans y3,(hB.cell (by simpa using ot)).trans y4⟩)
    rw[hneg] at y2 cQ;clear tJ;have Gn:=zC hneg;clear hneg;go_upto_region 29 with fail
    go_cut [17] from 89 to 120 (λ p wc=>∃ b v,p=.pointer (some ⟨b,0,none⟩)/\M5 wr (eN NE A) b v wc)
    case first=>
     go_region_held3 (λ w'=>w'.cell? ⟨g5,i*3,none⟩=some (.slice pJ NE.length pA)/\w'.cell? ⟨g5,i*3+1,none⟩=some (.slice br NE.length dL)/\w'.cell? ⟨w.heap.size,5,none⟩=some (.slice (some ⟨gb,0,none⟩) bs.length Ko)/\w'.cell? ⟨gb,k*5,none⟩=some (.string A.pred)/\w'.cell? ⟨gb,k*5+1,none⟩=some (.slice aa A.ae.length ca)/\w'.cell? ⟨gb,k*5+2,none⟩=some (.bool true)/\w'.cell? ⟨gb,k*5+3,none⟩=some (.int .i64 A.at_)/\w'.cell? ⟨gb,k*5+4,none⟩=some (.int .i64 A.az)) (first | go_keep | (refine⟨?_,?_,?_,?_,?_,?_,?_,?_⟩ <;> (refine (zw3 ?_).trans ?_ <;> assumption))) ((go_at_call 192;refine (zA cQ _ (by first | exact B9.drew | exact (B9.alloc L9 _).drew | exact B9.drew.alloc L9 _)).mono ?_;rintro e w2 ⟨v,rfl,aB,aK⟩;obtain⟨nZ,nX,rfl⟩:=zD aB;obtain⟨m0,m1,m2,m3,m4,m5,m6,m7⟩:=zA HK _ _ (by first | exact B9.drew | exact (B9.alloc L9 _).drew | exact B9.drew.alloc L9 _) aK;have oh:=λ (j:Nat) h=>aK.cell (p:=⟨wr.heap.size,j,none⟩) h;have pn:=λ (j:Nat) h=>aK.frozen (p:=⟨wr.heap.size,j,none⟩) h;have gP:=zC aB;clear aB))
     all_goals
      go_wp2_with fail;go_meet
      case rel=>first | exact⟨_,_,rfl,M5.behind (W:=wr.drew) B9.drew aK (zA gP)⟩ | exact⟨_,_,rfl,M5.ahead (W:=(wr.alloc (.cells #[.string { data:=#[] },.slice none 0 0,.bool false,.int .i64 0,.int .i64 0] 243)).drew) (B9.alloc L9 _).drew L9 (heap_alloc_new wr _) aK (zA gP)⟩
    case rest=>
     obtain⟨b,v,rfl,hM⟩:=hcut;obtain⟨nZ,nX,rfl⟩:=zD hM.row;have Mn:=hM.below.size;have dI:=(zA HI).dN hM.below;obtain⟨r0,-⟩:=zB hM.bq 0;obtain⟨r1,-⟩:=zB hM.bq 1;obtain⟨r2,-⟩:=zB hM.bq 2;obtain⟨r3,-⟩:=zB hM.bq 3;obtain⟨r4,-⟩:=zB hM.bq 4;have eC:=zC dI
     cases ok with
     | false=>
      clear hM dI HI cQ HK x0 x1 y0 y1 y2 y3 y4 p5;go_wp2_with fail;go_roundg (bs.length-(k+1));exact⟨k+1,by omega,rfl,by rw[zA Eb];rfl,by go_num,zA eC⟩;omega
     | true=>
      have Na:=zC (zos wc wr.heap.size (eN NE A) nZ nX false 0 0 hM.row hlen);have Ad:=zJ (zA HC).facts.row dI.below (λ g e=>((zA HC).facts.row.lt g e).2);have xj:=zC Ad;clear hM dI HI cQ HK x0 x1 y0 y1 y2 y3 y4 p5 Ad;go_wp2_with fail;refine (zA Na).mono ?_;rintro e w3 ⟨s,rfl,hs,cI⟩;have Yi:s=xP (eN NE A):=by
       cases s
       simp only[xP,<-hs,Array.toArray_toList]
      subst Yi;have iH:=zC ((zA eC).dN cI);have TD:=zC (zkc w3 base al cl fs (xP (eN NE A)) (zJ (zA xj) cI (λ g e=>((zA xj).lt g e).2)));clear hs cI r0 r1 r2 r3 r4 Na eC xj;generalize xP (eN NE A)=tx at *;generalize jE (fs.map (·.F)) tx=fx at *;go_wp2_with fail;refine (zA TD).mono ?_;rintro e w4 ⟨rfl,rfl⟩;clear TD
      by_cases mP:fx<0
      ·go_wp2_with fail;go_roundg (bs.length-(k+1));exact⟨k+1,by omega,rfl,by rw[zA Eb];simp[mP],by go_num,zA iH⟩;omega
      ·go_wp2_with fail;go_roundg (bs.length-(k+1));exact⟨k+1,by omega,rfl,by rw[zA Eb];simp,by go_num,zA iH⟩;omega
  ·have HI:=zC hI;have Gj:k=bs.length:=(by omega);have HE:=zC (show (R.body.take k).all (ztj (fs.map (·.F)) now[i].e)=R.body.all (ztj (fs.map (·.F)) now[i].e) by rw[Gj,<-zA oU,List.take_length]);rw[zA HE];clear hI;go_wp2_with fail;apply zA HX;exact zA HI
def zia (R:zS)(l:List zP)(x:Way):Bool:=R.body.all (ztj l x.1)
theorem yed (w:W8)(base:Nat)(R:zS)(hv:Value)(bs:List (zL × Value))(bv:Value)(fs:List FG)(al:O8)(cl:Nat)(hC:yaq w base R hv bs bv fs (.slice al fs.length cl))(now:List WG)(an:O8)(cn:Nat)(mB:now.length<=1000000)(bj:∀ x∈now,∀ a∈R.body,(jG (eN x.e a)).length<=1000000000)(w1:W8)(hI:jn w R hv bv (.slice an now.length cn) now (.slice none 0 0) [] w1)
  {Q:Exit->Act->W8->Prop} {c0 c3 c4 c6 c7 c8 c9 gS lI gy gw il gZ fE eH eZ fc eW eT eL eV eX eY eO eR eQ fh fj fo ft fk fJ fL fI fY fQ fO gq fV gu dT gd fM gn fP fN fZ gN gQ fG jv jq jr ee kf jt km kg jw ju ko kc jz jy kq js jx ki kH kL kR kD kI kX kZ kr kz iZ jh iW iV iT iO jm iP jf jl jo iQ jd jb je iY jc ji dq cF cC cx cE cA cD cy cM cU de cL cN cK dg cZ cO da cR dc cJ cG cH cj cW cV cP cX dd cq:Value}
  (aT:∀ (JE:Value) (outs:List WG) (w2:W8) (zr Ap u16 A0 BJ yr Al Bs AP BI Am AE Bo An BE BT Bb ym zl zi zw lA sX tD sy ud tQ sL sI oA oB o8 oI pg oG oD oX oZ oP oQ ov oY ub te sO ox o7 oO po oz:Value),jn w R hv bv (.slice an now.length cn) now JE outs w2->outs.map (·.W)=(now.map (·.W)).filter (zia R (fs.map (·.F)))->(∀ x∈outs,x∈now)->Q (.exit 6) ⟨List.toArray (c0::.slice al fs.length cl::.pointer (some ⟨w.heap.size,0,none⟩)::c3::c4::.slice an now.length cn::c6::c7::c8::c9::gS::lI::gy::JE::zr::Ap::u16::A0::fE::eH::eZ::fc::eW::eT::eL::eV::eX::eY::eO::eR::eQ::fh::fj::fo::ft::fk::fJ::fL::fI::fY::fQ::fO::gq::fV::gu::dT::gd::fM::gn::fP::fN::fZ::gN::gQ::fG::jv::jq::jr::ee::kf::jt::km::kg::jw::ju::ko::kc::jz::jy::kq::js::jx::ki::kH::kL::kR::kD::kI::kX::kZ::kr::kz::iZ::BJ::yr::Al::Bs::AP::BI::Am::AE::Bo::An::BE::BT::Bb::ym::zl::zi::zw::lA::sX::tD::sy::ud::tQ::sL::sI::oA::oB::o8::oI::pg::oG::oD::oX::oZ::oP::oQ::ov::oY::ub::te::sO::ox::o7::oO::po::oz::cq::[]),[]⟩ w2):
  Code.wp Tryz.prog (Code.loop (z1s 3)) Q ⟨List.toArray (c0::.slice al fs.length cl::.pointer (some ⟨w.heap.size,0,none⟩)::c3::c4::.slice an now.length cn::c6::c7::c8::c9::gS::lI::gy::.slice none 0 0::.int .i64 (0:Nat)::gw::il::gZ::fE::eH::eZ::fc::eW::eT::eL::eV::eX::eY::eO::eR::eQ::fh::fj::fo::ft::fk::fJ::fL::fI::fY::fQ::fO::gq::fV::gu::dT::gd::fM::gn::fP::fN::fZ::gN::gQ::fG::jv::jq::jr::ee::kf::jt::km::kg::jw::ju::ko::kc::jz::jy::kq::js::jx::ki::kH::kL::kR::kD::kI::kX::kZ::kr::kz::iZ::jh::iW::iV::iT::iO::jm::iP::jf::jl::jo::iQ::jd::jb::je::iY::jc::ji::dq::cF::cC::cx::cE::cA::cD::cy::cM::cU::de::cL::cN::cK::dg::cZ::cO::da::cR::dc::cJ::cG::cH::cj::cW::cV::cP::cX::dd::cq::[]),[]⟩ w1:=by
 conv=>arg 2;arg 1;whnf
 have HC:=zC hC;have HI:=zC hI;have HX:=zC aT;have mi:=zC bj;obtain⟨iw,Oh,bC,dX,oJ⟩:=info_parts z18;clear hC hI aT bj
 go_loopg [13,14] now.length (λ gg v ii wr=>∃ (i:Nat) (outs:List WG),i<=now.length/\gg=now.length-i/\ii=.int .i64 i/\jn w R hv bv (.slice an now.length cn) now v outs wr/\outs.map (·.W)++((now.map (·.W)).drop i).filter (zia R (fs.map (·.F)))=(now.map (·.W)).filter (zia R (fs.map (·.F)))/\(∀ x∈outs,x∈now)/\outs.length<=i)
 exact⟨0,[],Nat.zero_le _,rfl,rfl,zA HI,by simp,by simp,by simp⟩
 case round=>
  clear HI;obtain⟨i,outs,hi,Ny,rfl,hI,aE,Aa,sn⟩:=hrel;obtain⟨a7,c7,rfl⟩:=zD hI.next.row;have HI:=zC hI;have HF:=zC aE;have HS:=zC Aa;clear hI aE Aa
  by_cases ku:i<now.length
  ·have Cc:(i:Int)<now.length:=(by omega);have aO:((now.map (·.W)).drop i).filter (zia R (fs.map (·.F)))=(if zia R (fs.map (·.F)) now[i].W then [now[i].W] else [])++((now.map (·.W)).drop (i+1)).filter (zia R (fs.map (·.F))):=by
    rw[List.drop_eq_getElem_cons (by simpa using ku),List.filter_cons,List.getElem_map]
    split <;> simp
   have aC:=zC ((congrArg (outs.map (·.W)++·) aO).symm.trans (zA HF));clear aO HF;go_wp2_with fail;refine yej w base R hv bs bv fs al cl (zA HC) now an cn i ku (zA mi _ (List.getElem_mem ku)) _ outs wr (zA HI) ?_;intro w8;intros;rename_i hI8;have B3:=zC hI8;have bQ:R.body.all (ztj (fs.map (·.F)) now[i].e)=zia R (fs.map (·.F)) now[i].W:=rfl;rw[bQ]
   cases hw:zia R (fs.map (·.F)) now[i].W with
   | false=>
    have aP:=zC (show outs.map (·.W)++((now.map (·.W)).drop (i+1)).filter (zia R (fs.map (·.F)))=(now.map (·.W)).filter (zia R (fs.map (·.F))) by have:=zA aC;rw[hw] at this;simpa using this);clear bQ hI8 aC HI hw;go_wp2_with fail;go_roundg (now.length-(i+1));exact⟨i+1,outs,by omega,rfl,by go_num,zA B3,zA aP,zA HS,by omega⟩;omega
   | true=>
    have aP:=zC (show (outs++[now[i]]).map (·.W)++((now.map (·.W)).drop (i+1)).filter (zia R (fs.map (·.F)))=(now.map (·.W)).filter (zia R (fs.map (·.F))) by have:=zA aC;rw[hw] at this;simpa using this);obtain⟨g5,c5,Db,-,yt,OL,BQ,x0,x1,x2⟩:=zvs hI8.now.row ku;injection Db with i1 i2 i3
    subst i1 i3;have fX:=hI8.now.each _ (List.getElem_mem ku);obtain⟨pJ,pA,br,dL,e1,e2⟩:=fX.env.shape;obtain⟨af,cf,e3⟩:=zD fX.fr
    have Ek:=zC (show ∀ x∈outs++[now[i]],x∈now from λ x hx=>by
     rcases List.mem_append.1 hx with hx | hx
     ·exact zA HS x hx
     ·rw[List.mem_singleton.1 hx];exact List.getElem_mem ku)
    have dM:=λ (w5:W8) (g cap:Nat) (hg:(w8.alloc (.cells #[now[i].nv,now[i].tv,now[i].fv] 325)).grownBy w5 (Value.slice a7 outs.length c7).ownBlock) (ay:w5.ownsRow (w.heap.size+1) 325 3 (.slice (some ⟨g,0,none⟩) (outs.length+1) cap) (outs.length+1) (outs.flatMap WG.cells++[now[i].nv,now[i].tv,now[i].fv])) (dv:(Value.slice a7 outs.length c7).ownBlock=some g\/g=(w8.alloc (.cells #[now[i].nv,now[i].tv,now[i].fv] 325)).heap.size)=>jn.add hI8 fX ((zK.refl [] _).alloc _) hg ay dv
    have aB:=hI8.next.row;have ma:=hI8.lt;have mY:=zC dM;have HR:=zC (aB.alloc (.cells #[now[i].nv,now[i].tv,now[i].fv] 325));have bX:=zC (World.news_of_block (heap_alloc_new w8 (.cells #[now[i].nv,now[i].tv,now[i].fv] 325)));rw[e1,e2,e3] at mY HR bX;rw[e1] at x0;rw[e2] at x1;rw[e3] at x2;clear bQ hI8 aC HI hw B3 fX dM aB e1 e2 e3 HS;generalize now[i].e.length=ne at *;generalize now[i].fr.length=nf at *;go_wp2_with (at_builtin;go_must (refine wpList_append_lies _ rfl _ _ _ rfl (w.heap.size+1) 325 iw (.agg #[.slice none 0 0,.slice none 0 0,.slice none 0 0]) 3 72 Tryz.underlying322 Oh bC dX oJ rfl (by decide) (.slice a7 outs.length c7) outs.length _ rfl (zA HR) ⟨w8.heap.size,0,none⟩ 1 1 [.slice pJ ne pA,.slice br ne dL,.slice af nf cf] rfl rfl (zA bX) (by simp[Value.oneCell']) (by decide) (by unfold maxLen;omega) (by omega) (by simp;omega) _ rfl ?_;intro g cap w5 aq aU bW hlt5));have KD:=zC (zA mY w5 g cap aU aq bW);go_roundg (now.length-(i+1));exact⟨i+1,outs++[now[i]],by omega,rfl,by go_num,zA KD,zA aP,zA Ek,by rw[List.length_append,List.length_singleton];omega⟩;omega
  ·have HE:=zC (show outs.map (·.W)=(now.map (·.W)).filter (zia R (fs.map (·.F))) by rw[<-zA HF,List.drop_of_length_le (by simp;omega)];simp);clear HF;go_wp2_with fail;apply zA HX
   ·exact zA HI
   ·exact zA HE
   ·exact zA HS
end
end Go.Proofs.YtldkpahaocjdpaaGreat
