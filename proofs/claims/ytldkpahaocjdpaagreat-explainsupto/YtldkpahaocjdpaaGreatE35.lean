/-
  The reference's ways: the loop over the ways so far, and the loop over the literals.
-/
import Derived.Test.YtldkpahaocjdpaaGreatE34
set_option maxHeartbeats 16000000
set_option maxRecDepth 1000000
namespace Go.Proofs.YtldkpahaocjdpaaGreat
section
open Go.RowKit
theorem yek (w:W8)(base:Nat)(R:zS)(hv:Value)(bs:List (zL × Value))(bv:Value)(fs:List FG)(al:O8)(cl:Nat)(hC:yaj w base R hv bs bv fs (.slice al fs.length cl))(now:List WG)(an:O8)(cn k:Nat)(hk:k<bs.length)(aX:∀ x∈now,x.e.length<=100/\x.fr.length<=100)(mz:now.length<=1000000)(hT:(zgl bs[k].1 (fs.map (·.F)) (now.map (·.W))).length<=1000000)(w1:W8)(hI:jo w R hv bv (.slice an now.length cn) now (.slice none 0 0) [] w1)
  {Q:Exit->Act->W8->Prop} {c0 c3 c4 c9 gD ll gy gV ie fO ig gW fD eG eL eM eN eO eQ eR eS eT eU eV eW fg fh fk fl fm fI fJ fK fP fQ fR fU fV fW dU fX fY fZ gd gh gi gP gQ fE jq jr js ee jt ju jv jw jx jy jz kc kf kg kh ki kj km kx ky kz kD kE kF kG kH kI iO iP iQ iR iS iT iU iV iW iX iY iZ ja jb jc jd je jf dm cj cq cx cy cz cA cC cK cL cM cN cO cP cQ cR cU cV cW cX cY cD cE cF cZ da dc dd de cG:Value}
  (aT:∀ (Md:Value) (next':List WG) (w2:W8) (u8 u9 rq rr ru Bm Bn Bo tR tS tT ry rz rA rB rD rE rF rG rH rI rJ rK rL nM nN vv vx vy vz wg wh wk wm wo wq u64 wu wy wz wD wE wF wG wH tU tV tW tX tY tZ ua ub uc:Value),jo w R hv bv (.slice an now.length cn) now Md next' w2->next'.map (·.W)=zgl bs[k].1 (fs.map (·.F)) (now.map (·.W))->Q (.exit 2) ⟨List.toArray (c0::.slice al fs.length cl::.pointer (some ⟨w.heap.size,0,none⟩)::c3::c4::.slice an now.length cn::.int .i64 k::Md::u8::u9::rq::rr::ru::gV::ie::fO::ig::gW::fD::eG::eL::eM::eN::eO::eQ::eR::eS::eT::eU::eV::eW::fg::fh::Bm::Bn::Bo::tR::tS::tT::ry::rz::rA::rB::rD::rE::rF::rG::rH::rI::rJ::rK::rL::nM::nN::vv::vx::vy::vz::wg::wh::wk::wm::wo::wq::u64::wu::wy::wz::wD::wE::wF::wG::wH::tU::tV::tW::tX::tY::tZ::ua::ub::uc::iO::iP::iQ::iR::iS::iT::iU::iV::iW::iX::iY::iZ::ja::jb::jc::jd::je::jf::dm::cj::cq::cx::cy::cz::cA::cC::cK::cL::cM::cN::cO::cP::cQ::cR::cU::cV::cW::cX::cY::cD::cE::cF::cZ::da::dc::dd::de::cG::[]),[]⟩ w2):
  Code.wp Tryz.prog (Code.loop (z5w 1)) Q ⟨List.toArray (c0::.slice al fs.length cl::.pointer (some ⟨w.heap.size,0,none⟩)::c3::c4::.slice an now.length cn::.int .i64 k::.slice none 0 0::.int .i64 (0:Nat)::c9::gD::ll::gy::gV::ie::fO::ig::gW::fD::eG::eL::eM::eN::eO::eQ::eR::eS::eT::eU::eV::eW::fg::fh::fk::fl::fm::fI::fJ::fK::fP::fQ::fR::fU::fV::fW::dU::fX::fY::fZ::gd::gh::gi::gP::gQ::fE::jq::jr::js::ee::jt::ju::jv::jw::jx::jy::jz::kc::kf::kg::kh::ki::kj::km::kx::ky::kz::kD::kE::kF::kG::kH::kI::iO::iP::iQ::iR::iS::iT::iU::iV::iW::iX::iY::iZ::ja::jb::jc::jd::je::jf::dm::cj::cq::cx::cy::cz::cA::cC::cK::cL::cM::cN::cO::cP::cQ::cR::cU::cV::cW::cX::cY::cD::cE::cF::cZ::da::dc::dd::de::cG::[]),[]⟩ w1:=by
 conv=>arg 2;arg 1;whnf
 have HC:=zC hC;have HI:=zC hI;have HT:=zC hT;have pU:=zC aX;have HX:=zC aT;clear hC hI hT aX aT
 go_loopg [7,8] now.length (λ gg v ii wr=>∃ (i:Nat) (next':List WG),i<=now.length/\gg=now.length-i/\ii=.int .i64 i/\jo w R hv bv (.slice an now.length cn) now v next' wr/\next'.map (·.W)++zgl bs[k].1 (fs.map (·.F)) ((now.map (·.W)).drop i)=zgl bs[k].1 (fs.map (·.F)) (now.map (·.W)))
 exact⟨0,[],Nat.zero_le _,rfl,rfl,zA HI,by simp⟩
 case round=>
  clear HI;obtain⟨i,next',hi,M9,rfl,hI,aE⟩:=hrel;obtain⟨a7,c7,rfl⟩:=zD hI.next.row;have HI:=zC hI;have HF:=zC aE;clear hI aE
  by_cases kP:i<now.length
  ·have Cc:(i:Int)<now.length:=(by omega);have aP:=z5t (a:=bs[k].1) (l:=fs.map (·.F)) (now:=now.map (·.W)) (i:=i) (by simpa using kP);rw[List.getElem_map] at aP;have oE:=(congrArg (next'.map (·.W)++·) aP).symm.trans (zA HF);simp only[<-List.append_assoc] at oE;have TA:(next'.map (·.W)++zht bs[k].1 now[i].W (fs.map (·.F)) 0).length<=1000000:=by
    have:=congrArg List.length oE;rw[List.length_append] at this;have:=zA HT;omega
   have aC:=zC oE;have Sy:=zC TA;clear aP oE TA HF;go_wp2_with fail;refine yel w base R hv bs bv fs al cl (zA HC) now an cn k i hk kP (zA pU _ (List.getElem_mem kP)).1 (zA pU _ (List.getElem_mem kP)).2 _ (zA Sy) _ next' rfl wr (zA HI) ?_;intro v8 uC w8;intros;rename_i hI8 hF8;obtain⟨a8,c8,rfl⟩:=zD hI8.next.row;have BW:=zC hI8;have Ja:=zC (show uC.map (·.W)++zgl bs[k].1 (fs.map (·.F)) ((now.map (·.W)).drop (i+1))=zgl bs[k].1 (fs.map (·.F)) (now.map (·.W)) by rw[hF8];exact zA aC);clear hI8 hF8 aC Sy HI;go_wp2_with fail;go_roundg (now.length-(i+1));exact⟨i+1,uC,by omega,rfl,by go_num,zA BW,zA Ja⟩;omega
  ·have HE:=zC (show next'.map (·.W)=zgl bs[k].1 (fs.map (·.F)) (now.map (·.W)) by rw[<-zA HF,List.drop_of_length_le (by simp;omega)];simp[zgl]);clear HF;go_wp2_with fail;apply zA HX
   ·exact zA HI
   ·exact zA HE
theorem jo.oS {w:W8}{R:zS}{hv bv nv:Value}{now:List WG}{v:Value}{next:List WG}{wr:W8}(h:jo w R hv bv nv now v next wr):jo w R hv bv v next (.slice none 0 0) [] wr:=
 ⟨h.below,h.box,h.next,⟨World.ownsRow_nil _ _ _ _,by simp⟩,λ g e=>by cases e⟩
theorem zow {a:zL}{x:Way}{n m:Nat}(ha:a.ae.length<=4)(h1:x.1.length<=n)(h2:x.2.length<=m):∀ (l:List zP) (i:Nat),∀ y∈zht a x l i,y.1.length<=n+4/\y.2.length<=m+1
 | [],_,y,hy=>by simp[zht] at hy
 | f::r,i,y,hy=>by
  rw[zht,List.mem_append] at hy;rcases hy with hy | hy
  ·split at hy
   ·rename_i e he;rw[List.mem_singleton.1 hy];have:=zn9 he;simp;omega
   ·simp at hy
  ·exact zow ha h1 h2 r (i+1) y hy
theorem zz5 {a:zL}{l:List zP}{now:List Way}{n m:Nat}(ha:a.ae.length<=4)(h:∀ x∈now,x.1.length<=n/\x.2.length<=m):∀ y∈zgl a l now,y.1.length<=n+4/\y.2.length<=m+1:=by
 intro y hy;obtain⟨x,hx,hy⟩:=List.mem_flatMap.1 hy;exact zow ha (h x hx).1 (h x hx).2 l 0 y hy
theorem ydr {k:Nat}(h:k<=3):50 ^ k<=125000:=Nat.le_trans (Nat.pow_le_pow_right (by decide) h) (by decide)
theorem yej (w:W8)(base:Nat)(R:zS)(hv:Value)(bs:List (zL × Value))(bv:Value)(fs:List FG)(al:O8)(cl:Nat)(hC:yaj w base R hv bs bv fs (.slice al fs.length cl))(v5:Value)(w1:W8)(hI:jo w R hv bv v5 [⟨[],[],.slice none 0 0,.slice none 0 0,.slice none 0 0⟩] (.slice none 0 0) [] w1)
  {Q:Exit->Act->W8->Prop} {c0 c3 c4 c7 c8 c9 gD ll gy gV ie fO ig gW fD eG eL eM eN eO eQ eR eS eT eU eV eW fg fh fk fl fm fI fJ fK fP fQ fR fU fV fW dU fX fY fZ gd gh gi gP gQ fE jq jr js ee jt ju jv jw jx jy jz kc kf kg kh ki kj km kx ky kz kD kE kF kG kH kI iO iP iQ iR iS iT iU iV iW iX iY iZ ja jb jc jd je jf dm cj cq cx cy cz cA cC cK cL cM cN cO cP cQ cR cU cV cW cX cY cD cE cF cZ da dc dd de cG:Value}
  (aT:∀ (Ve:Value) (DC:List WG) (w2:W8) (u6 u7 u8 u9 rq rr ru G3 G4 G5 G6 G7 G8 G9 Ha Hb Hc Hd DL u32 Bm Bn Bo tR tS tT ry rz rA rB rD rE rF rG rH rI rJ rK rL nM nN vv vx vy vz wg wh wk wm wo wq u64 wu wy wz wD wE wF wG wH tU tV tW tX tY tZ ua ub uc Bq:Value),jo w R hv bv Ve DC (.slice none 0 0) [] w2->DC.map (·.W)=ziq (fs.map (·.F)) R.body [([],[])]->(∀ x∈DC,x.e.length<=100/\x.fr.length<=100)->DC.length<=1000000->Q (.exit 0) ⟨List.toArray (c0::.slice al fs.length cl::.pointer (some ⟨w.heap.size,0,none⟩)::c3::c4::Ve::u6::u7::u8::u9::rq::rr::ru::gV::ie::fO::ig::gW::fD::eG::G3::G4::G5::G6::G7::G8::G9::Ha::Hb::Hc::Hd::DL::u32::Bm::Bn::Bo::tR::tS::tT::ry::rz::rA::rB::rD::rE::rF::rG::rH::rI::rJ::rK::rL::nM::nN::vv::vx::vy::vz::wg::wh::wk::wm::wo::wq::u64::wu::wy::wz::wD::wE::wF::wG::wH::tU::tV::tW::tX::tY::tZ::ua::ub::uc::Bq::iP::iQ::iR::iS::iT::iU::iV::iW::iX::iY::iZ::ja::jb::jc::jd::je::jf::dm::cj::cq::cx::cy::cz::cA::cC::cK::cL::cM::cN::cO::cP::cQ::cR::cU::cV::cW::cX::cY::cD::cE::cF::cZ::da::dc::dd::de::cG::[]),[]⟩ w2):
  Code.wp Tryz.prog (Code.loop (z5w 0)) Q ⟨List.toArray (c0::.slice al fs.length cl::.pointer (some ⟨w.heap.size,0,none⟩)::c3::c4::v5::.int .i64 (0:Nat)::c7::c8::c9::gD::ll::gy::gV::ie::fO::ig::gW::fD::eG::eL::eM::eN::eO::eQ::eR::eS::eT::eU::eV::eW::fg::fh::fk::fl::fm::fI::fJ::fK::fP::fQ::fR::fU::fV::fW::dU::fX::fY::fZ::gd::gh::gi::gP::gQ::fE::jq::jr::js::ee::jt::ju::jv::jw::jx::jy::jz::kc::kf::kg::kh::ki::kj::km::kx::ky::kz::kD::kE::kF::kG::kH::kI::iO::iP::iQ::iR::iS::iT::iU::iV::iW::iX::iY::iZ::ja::jb::jc::jd::je::jf::dm::cj::cq::cx::cy::cz::cA::cC::cK::cL::cM::cN::cO::cP::cQ::cR::cU::cV::cW::cX::cY::cD::cE::cF::cZ::da::dc::dd::de::cG::[]),[]⟩ w1:=by
 obtain⟨ab,JS,rfl⟩:=zD hC.bJ.bo
 conv=>arg 2;arg 1;whnf
 have dK:=hC.body;have iE:=hC.bJ.eq;have zo:R.body.length=bs.length:=by rw[iE];simp
 have HC:=zC hC;have HI:=zC hI;have HX:=zC aT;have DR:=zC iE;have ov:=zC zo;clear hC hI aT iE zo
 go_loopg [5,6] bs.length (λ gg v kk wr=>∃ (k:Nat) (now:List WG),k<=bs.length/\gg=bs.length-k/\kk=.int .i64 k/\jo w R hv (.slice ab bs.length JS) v now (.slice none 0 0) [] wr/\ziq (fs.map (·.F)) (R.body.drop k) (now.map (·.W))=ziq (fs.map (·.F)) R.body [([],[])]/\(∀ x∈now.map (·.W),x.1.length<=4*k/\x.2.length<=k)/\now.length<=50 ^ k)
 exact⟨0,_,Nat.zero_le _,rfl,rfl,zA HI,rfl,by simp[WG.W],by simp⟩
 case round=>
  clear HI;obtain⟨k,now,hk,eD,rfl,hI,aE,bM,hlen⟩:=hrel;obtain⟨an,cn,rfl⟩:=zD hI.now.row;have hp:=ydr (k:=k) (by omega);have aX:∀ x∈now,x.e.length<=100/\x.fr.length<=100:=λ x hx=>by
   have:=bM x.W (List.mem_map_of_mem hx);simp only[WG.W] at this;omega
  have pU:=zC aX;obtain⟨p5,-⟩:=zB hI.box 5;have HI:=zC hI;have HF:=zC aE;have DZ:=zC bM;have wS:=zC hlen;have mz:now.length<=1000000:=by omega
  clear aE bM hlen aX hp
  by_cases aF:k<bs.length
  ·have nu:(k:Int)<bs.length:=(by omega);have hC:=zA HC;have iz:=zJ hC.bJ.bo hI.below (λ g e=>(hC.bJ.bo.lt g e).2);obtain⟨gb,cb,nI,-,oG,eY,xl,y0,y1,y2,y3,y4⟩:=jU iz k aF;injection nI with q1 q2 q3
   subst q1 q3;have hR:R.body[k]'(by rw[zA ov];exact aF)=bs[k].1:=by
    have:=zA DR;simp only[this,List.getElem_map]
   have aP:=z5v (l:=fs.map (·.F)) (b:=R.body) (k:=k) (now:=now.map (·.W)) (by rw[zA ov];exact aF);rw[hR] at aP;have h4:bs[k].1.ae.length<=4:=hC.ae _ (by rw[hC.bJ.eq];exact List.mem_map_of_mem (List.getElem_mem aF));have dB:=zC (aP.symm.trans (zA HF));clear hC iz hI aP hR HF y0 y1 y3 y4
   cases hneg:bs[k].1.no with
   | true=>
    rw[hneg] at y2;have aC:=zC (show ziq (fs.map (·.F)) (R.body.drop (k+1)) (now.map (·.W))=ziq (fs.map (·.F)) R.body [([],[])] by have:=zA dB;rw[hneg] at this;exact this);clear dB hneg;go_wp2_with fail;go_roundg (bs.length-(k+1));exact⟨k+1,now,by omega,rfl,by go_num,zA HI,zA aC,λ x hx=>by have:=zA DZ x hx;omega,Nat.le_trans (zA wS) (Nat.pow_le_pow_right (by decide) (by omega))⟩;omega
   | false=>
    rw[hneg] at y2;have aC:=zC (show ziq (fs.map (·.F)) (R.body.drop (k+1)) (zgl bs[k].1 (fs.map (·.F)) (now.map (·.W)))=ziq (fs.map (·.F)) R.body [([],[])] by have:=zA dB;rw[hneg] at this;exact this);have xq:(zgl bs[k].1 (fs.map (·.F)) (now.map (·.W))).length<=50 ^ (k+1):=by
     have h1:=zxn bs[k].1 (fs.map (·.F)) (now.map (·.W));rw[List.length_map,List.length_map] at h1;have h2:=Nat.mul_le_mul (zA wS) (zA HC).eJ;rw[Nat.pow_succ];omega
    have hT:(zgl bs[k].1 (fs.map (·.F)) (now.map (·.W))).length<=1000000:=by
     have:=ydr (k:=k+1) (by omega);omega
    have ON:=zC (zz5 (l:=fs.map (·.F)) h4 (zA DZ));have WR:=zC xq;clear dB hneg xq;go_wp2_with fail;refine yek w base R hv bs _ fs al cl (zA HC) now an cn k aF (zA pU) mz hT wr (zA HI) ?_;intro v8 uC w8;intros;rename_i hI8 hF8;obtain⟨a8,c8,rfl⟩:=zD hI8.next.row;have BW:=zC hI8.oS;have Ja:=zC hF8;clear hI8 hF8 HI pU DZ wS hT;go_wp2_with fail;go_roundg (bs.length-(k+1));exact⟨k+1,uC,by omega,rfl,by go_num,zA BW,by rw[zA Ja];exact zA aC,by rw[zA Ja];intro y hy;have:=zA ON y hy;omega,by rw[<-List.length_map (f:=(·.W)),zA Ja];exact zA WR⟩;omega
  ·have HE:=zC (show now.map (·.W)=ziq (fs.map (·.F)) R.body [([],[])] by rw[<-zA HF,List.drop_of_length_le (by rw[zA ov];omega)];rfl);clear HF hI;go_wp2_with fail;apply zA HX
   ·exact zA HI
   ·exact zA HE
   ·exact zA pU
   ·exact mz
end
section
open Go.RowKit
variable {j:Nat}
theorem z6k {α:Type}{l:List α}(hj:j<l.length)(f:α->Bool):(l.take (j+1)).all f=((l.take j).all f&&f l[j]):=by
 rw[List.take_succ_eq_append_getElem hj,List.all_append];simp only[List.all_cons,List.all_nil,Bool.and_true]
structure M5 (wr:W8)(B:zL)(b:Nat)(v:Value)(wc:W8):Prop where
 below:Below wr.heap.size wr wc
 bp:wc.heap[b]?=some (.cells #[.string B.pred,v,.bool false,.int .i64 0,.int .i64 0] 243 (0,0))
 row:wc.ownsRow wr.heap.size 317 3 v B.ae.length (cellsOf B.ae)
variable {v:Value} {B:zL} {wr W w2:W8}
theorem M5.behind (hW:Below wr.heap.size wr W)(h2:Below W.heap.size W w2)(hr:w2.ownsRow W.heap.size 317 3 v B.ae.length (cellsOf B.ae)):M5 wr B w2.heap.size v (w2.alloc (.cells #[.string B.pred,v,.bool false,.int .i64 0,.int .i64 0] 243)):=by
 have hs:=hW.size;have sj:=h2.size;exact⟨(hW.trans (h2.mono hs)).alloc (by omega) _,heap_alloc_new w2 _,zG (hr.alloc _) (by omega)⟩
variable {u0 u1 u2 u3 u4:Value} {b:Nat}
theorem M5.ahead (hW:Below wr.heap.size wr W)(hb:wr.heap.size<=b)(hblk:W.heap[b]?=some (.cells #[u0,u1,u2,u3,u4] 243 (0,0)))(h2:Below W.heap.size W w2)(hr:w2.ownsRow W.heap.size 317 3 v B.ae.length (cellsOf B.ae)):M5 wr B b v (((((w2.setCell ⟨b,0,none⟩ (.string B.pred)).setCell ⟨b,1,none⟩ v).setCell ⟨b,2,none⟩ (.bool false)).setCell ⟨b,3,none⟩ (.int .i64 0)).setCell ⟨b,4,none⟩ (.int .i64 0)):=by
 have hs:=hW.size;have aH:=(Array.getElem?_eq_some_iff.1 hblk).1;have h1:=(h2.block b aH).trans hblk;have g0:(w2.setCell ⟨b,0,none⟩ (.string B.pred)).heap[b]?=some (.cells #[.string B.pred,u1,u2,u3,u4] 243 (0,0)):=by rw[heap_setCell_same _ _ _ _ _ _ h1];rfl
 have g1:((w2.setCell ⟨b,0,none⟩ (.string B.pred)).setCell ⟨b,1,none⟩ v).heap[b]?=some (.cells #[.string B.pred,v,u2,u3,u4] 243 (0,0)):=by rw[heap_setCell_same _ _ _ _ _ _ g0];rfl
 have g2:(((w2.setCell ⟨b,0,none⟩ (.string B.pred)).setCell ⟨b,1,none⟩ v).setCell ⟨b,2,none⟩ (.bool false)).heap[b]?=some (.cells #[.string B.pred,v,.bool false,u3,u4] 243 (0,0)):=by rw[heap_setCell_same _ _ _ _ _ _ g1];rfl
 have g3:((((w2.setCell ⟨b,0,none⟩ (.string B.pred)).setCell ⟨b,1,none⟩ v).setCell ⟨b,2,none⟩ (.bool false)).setCell ⟨b,3,none⟩ (.int .i64 0)).heap[b]?=some (.cells #[.string B.pred,v,.bool false,.int .i64 0,u4] 243 (0,0)):=by rw[heap_setCell_same _ _ _ _ _ _ g2];rfl
 have gj:∀ j,wr.heap.size<=(⟨b,j,none⟩:Addr).block:=λ _=>hb
 have nU:∀ j,(⟨b,j,none⟩:Addr).block<W.heap.size:=λ _=>aH
 refine⟨(((((hW.trans (h2.mono hs)).setCell (gj 0) _).setCell (gj 1) _).setCell (gj 2) _).setCell (gj 3) _).setCell (gj 4) _,by rw[heap_setCell_same _ _ _ _ _ _ g3];rfl,?_⟩;exact zG (ownsRow_setCell_below (ownsRow_setCell_below (ownsRow_setCell_below (ownsRow_setCell_below (ownsRow_setCell_below hr (nU 0) _) (nU 1) _) (nU 2) _) (nU 3) _) (nU 4) _) (by omega)
theorem zw6 {w:W8}{g:Nat}(h:¬ g=b):(((((w.setCell ⟨b,0,none⟩ u0).setCell ⟨b,1,none⟩ u1).setCell ⟨b,2,none⟩ u2).setCell ⟨b,3,none⟩ u3).setCell ⟨b,4,none⟩ u4).cell? ⟨g,j,none⟩=w.cell? ⟨g,j,none⟩:=by
 have e:∀ (w:W8) (i:Nat) (u:Value),(w.setCell ⟨b,i,none⟩ u).cell? ⟨g,j,none⟩=w.cell? ⟨g,j,none⟩:=λ w i u=>World.cell?_of_block (Below.heap_setCell _ ⟨b,i,none⟩ _ g (by simpa using h))
 rw[e,e,e,e,e]
theorem yen (w:W8)(base:Nat)(R:zS)(hv:Value)(bs:List (zL × Value))(bv:Value)(fs:List FG)(al:O8)(cl:Nat)(hC:yaj w base R hv bs bv fs (.slice al fs.length cl))(now:List WG)(an:O8)(cn i:Nat)(hi:i<now.length)(bj:∀ a∈R.body,(jH (fa now[i].e a)).length<=1000000000)(NJ:Value)(outs:List WG)(w1:W8)(hI:jo w R hv bv (.slice an now.length cn) now NJ outs w1)
  {Q:Exit->Act->W8->Prop} {c0 c3 c4 c6 c7 c8 c9 gD ll gy gV gW fD eG eL eM eN eO eQ eR eS eT eU eV eW fg fh fk fl fm fI fJ fK fP fQ fR fU fV fW dU fX fY fZ gd gh gi gP gQ fE jq jr js ee jt ju jv jw jx jy jz kc kf kg kh ki kj km kx ky kz kD kE kF kG kH kI iO iP iQ iR iS iT iU iV iW iX iY iZ ja jb jc jd je jf dm cj cq cx cy cz cA cC cK cL cM cN cO cP cQ cR cU cV cW cX cY cD cE cF cZ da dc dd de cG:Value}
  (aT:∀ (w2:W8) (u16 Bl Bz BA BB BC BD BE BF BG BH BI BJ lG tj tm tr tu tw tz tA oT oU oV oW oX oY oZ o5 o6 o7 o8 pe pg:Value),jo w R hv bv (.slice an now.length cn) now NJ outs w2->Q (.exit 8) ⟨List.toArray (c0::.slice al fs.length cl::.pointer (some ⟨w.heap.size,0,none⟩)::c3::c4::.slice an now.length cn::c6::c7::c8::c9::gD::ll::gy::gV::.int .i64 i::.bool (R.body.all (ztj (fs.map (·.F)) now[i].e))::u16::Bl::fD::eG::eL::eM::eN::eO::eQ::eR::eS::eT::eU::eV::eW::fg::fh::fk::fl::fm::fI::fJ::fK::fP::fQ::fR::fU::fV::fW::dU::fX::fY::fZ::gd::gh::gi::gP::gQ::fE::jq::jr::js::ee::jt::ju::jv::jw::jx::jy::jz::kc::kf::kg::kh::ki::kj::km::kx::ky::kz::kD::kE::kF::kG::kH::kI::iO::iP::iQ::iR::iS::iT::iU::Bz::BA::BB::BC::BD::BE::BF::BG::BH::BI::BJ::lG::tj::tm::tr::tu::tw::tz::tA::oT::oU::oV::oW::oX::oY::oZ::o5::o6::o7::o8::pe::pg::cD::cE::cF::cZ::da::dc::dd::de::cG::[]),[]⟩ w2):
  Code.wp Tryz.prog (Code.loop (z5w 4)) Q ⟨List.toArray (c0::.slice al fs.length cl::.pointer (some ⟨w.heap.size,0,none⟩)::c3::c4::.slice an now.length cn::c6::c7::c8::c9::gD::ll::gy::gV::.int .i64 i::.bool true::.int .i64 (0:Nat)::gW::fD::eG::eL::eM::eN::eO::eQ::eR::eS::eT::eU::eV::eW::fg::fh::fk::fl::fm::fI::fJ::fK::fP::fQ::fR::fU::fV::fW::dU::fX::fY::fZ::gd::gh::gi::gP::gQ::fE::jq::jr::js::ee::jt::ju::jv::jw::jx::jy::jz::kc::kf::kg::kh::ki::kj::km::kx::ky::kz::kD::kE::kF::kG::kH::kI::iO::iP::iQ::iR::iS::iT::iU::iV::iW::iX::iY::iZ::ja::jb::jc::jd::je::jf::dm::cj::cq::cx::cy::cz::cA::cC::cK::cL::cM::cN::cO::cP::cQ::cR::cU::cV::cW::cX::cY::cD::cE::cF::cZ::da::dc::dd::de::cG::[]),[]⟩ w1:=by
 obtain⟨ab,JS,rfl⟩:=zD hC.bJ.bo
 conv=>arg 2;arg 1;whnf
 have dK:=hC.body;have iE:=hC.bJ.eq;have zo:R.body.length=bs.length:=by rw[iE];simp
 have HC:=zC hC;have HI:=zC hI;have HX:=zC aT;have DR:=zC iE;have ov:=zC zo;have lW:=zC bj;clear hC hI aT iE zo bj
 go_loopg [15,16] bs.length (λ gg v kk wr=>∃ (k:Nat),k<=bs.length/\gg=bs.length-k/\v=.bool ((R.body.take k).all (ztj (fs.map (·.F)) now[i].e))/\kk=.int .i64 k/\jo w R hv (.slice ab bs.length JS) (.slice an now.length cn) now NJ outs wr)
 exact⟨0,Nat.zero_le _,rfl,rfl,rfl,zA HI⟩
 case round=>
  clear HI;obtain⟨k,hk,eD,rfl,rfl,hI⟩:=hrel;obtain⟨p5,-⟩:=zB hI.box 5;simp only[List.getElem?_toArray,List.getElem?_cons_zero,List.getElem?_cons_succ] at p5
  by_cases aF:k<bs.length
  ·have nu:(k:Int)<bs.length:=(by omega);have hC:=zA HC;have kV:=hI.below.size;have b1:=hI.lt;have iz:=zJ hC.bJ.bo hI.below (λ g e=>(hC.bJ.bo.lt g e).2);obtain⟨gb,cb,nI,-,oG,eY,xl,y0,y1,y2,y3,y4⟩:=jU iz k aF;injection nI with q1 q2 q3
   subst q1 q3;have hR:R.body[k]'(by rw[zA ov];exact aF)=bs[k].1:=by
    have:=zA DR;simp only[this,List.getElem_map]
   have du:=z6k (l:=R.body) (j:=k) (by rw[zA ov];exact aF) (ztj (fs.map (·.F)) now[i].e);rw[hR] at du;have cg:bs[k].1∈R.body:=(by rw[zA DR];exact List.mem_map_of_mem (List.getElem_mem aF));have h4:=hC.ae _ cg;have hlen:=zA lW _ cg;obtain⟨g5,c5,Ds,-,Am,Qz,Av,x0,x1,x2⟩:=zxp hI.now.row hi;injection Ds with i1 i2 i3
   subst i1 i3;have gp:=hI.now.each _ (List.getElem_mem hi);obtain⟨pz,pA,br,dL,e1,e2⟩:=gp.env.shape;have yz:=hC.bJ.bl _ (List.getElem_mem aF);obtain⟨aa,ca,e3⟩:=zD yz;rw[e1] at x0;rw[e2] at x1;rw[e3] at y1;have gZ:∀ W,Below wr.heap.size wr W->Calls Tryz.prog 192 #[.agg #[.slice pz now[i].e.length pA,.slice br now[i].e.length dL],.agg #[.string bs[k].1.pred,.slice aa bs[k].1.ae.length ca,.bool bs[k].1.no,.int .i64 bs[k].1.at_,.int .i64 bs[k].1.az]] W (z0n W now[i].e bs[k].1):=λ W hW=>by
    have hB:=hI.below.trans (hW.mono kV);have q1:=gp.env.below hW;rw[e1,e2] at q1;rw[e3] at yz;exact z4u W 0 now[i].e bs[k].1 pz br aa pA dL ca ⟨zG q1.ns (Nat.zero_le _),zG q1.ts (Nat.zero_le _),q1.nil⟩ (zG (zJ yz hB (λ g e=>(yz.lt g e).2)) (Nat.zero_le _)) (by omega)
   have cJ:=zC gZ;have HI:=zC hI;have sx:=zC du;have Cc:(i:Int)<now.length:=(by omega);have d5:¬ g5=wr.heap.size:=(by omega);have db:¬ gb=wr.heap.size:=(by omega);have dw:¬ w.heap.size=wr.heap.size:=(by omega);clear hC hI iz gp yz gZ du hR cg e1 e2 e3 kV x2;generalize bs[k].1=A at *;generalize (R.body.take k).all (ztj (fs.map (·.F)) now[i].e)=ok at *;generalize now[i].e=NE at *
   cases hneg:A.no with
   | false=>
    rw[hneg] at y2;have DQ:=zC (show (R.body.take (k+1)).all (ztj (fs.map (·.F)) NE)=ok by rw[zA sx,ztj,hneg];simp);clear sx cJ y0 y1 y3 y4 x0 x1 hneg;go_wp2_with fail;go_roundg (bs.length-(k+1));exact⟨k+1,by omega,rfl,by rw[zA DQ],by go_num,zA HI⟩;omega
   | true=>
    have DQ:=zC (show (R.body.take (k+1)).all (ztj (fs.map (·.F)) NE)=(ok&&decide (jE (fs.map (·.F)) (xP (fa NE A))<0)) by rw[zA sx,ztj,hneg];simp)
    have HK:Hid (∀ W w':W8,Below wr.heap.size wr W->Below W.heap.size W w'->w'.cell? ⟨g5,i*3,none⟩=some (.slice pz NE.length pA)/\w'.cell? ⟨g5,i*3+1,none⟩=some (.slice br NE.length dL)/\w'.cell? ⟨w.heap.size,5,none⟩=some (.slice (some ⟨gb,0,none⟩) bs.length JS)/\w'.cell? ⟨gb,k*5,none⟩=some (.string A.pred)/\w'.cell? ⟨gb,k*5+1,none⟩=some (.slice aa A.ae.length ca)/\w'.cell? ⟨gb,k*5+2,none⟩=some (.bool true)/\w'.cell? ⟨gb,k*5+3,none⟩=some (.int .i64 A.at_)/\w'.cell? ⟨gb,k*5+4,none⟩=some (.int .i64 A.az)):=zC (λ W w' h1 h2=>by
     have hB:=h1.trans (h2.mono h1.size);rw[hneg] at y2
     exact⟨(hB.cell (by simpa using Am)).trans x0,(hB.cell (by simpa using Am)).trans x1,(hB.cell (by simpa using b1)).trans p5,(hB.cell (by simpa using oG)).trans y0,(hB.cell (by simpa using oG)).trans y1,(hB.cell (by simpa using oG)).trans y2,(hB.cell (by simpa using oG)).trans y3,(hB.cell (by simpa using oG)).trans y4⟩)
    rw[hneg] at y2 cJ;clear sx;have Ft:=zC hneg;clear hneg;go_upto_region 29 with fail
    go_cut [17] from 89 to 120 (λ p wc=>∃ b v,p=.pointer (some ⟨b,0,none⟩)/\M5 wr (fa NE A) b v wc)
    case first=>
     go_region_held3 (λ w'=>w'.cell? ⟨g5,i*3,none⟩=some (.slice pz NE.length pA)/\w'.cell? ⟨g5,i*3+1,none⟩=some (.slice br NE.length dL)/\w'.cell? ⟨w.heap.size,5,none⟩=some (.slice (some ⟨gb,0,none⟩) bs.length JS)/\w'.cell? ⟨gb,k*5,none⟩=some (.string A.pred)/\w'.cell? ⟨gb,k*5+1,none⟩=some (.slice aa A.ae.length ca)/\w'.cell? ⟨gb,k*5+2,none⟩=some (.bool true)/\w'.cell? ⟨gb,k*5+3,none⟩=some (.int .i64 A.at_)/\w'.cell? ⟨gb,k*5+4,none⟩=some (.int .i64 A.az)) (first | go_keep | (refine⟨?_,?_,?_,?_,?_,?_,?_,?_⟩ <;> (refine (zw6 ?_).trans ?_ <;> assumption))) ((go_at_call 192;refine (zA cJ _ (by first | exact B9.drew | exact (B9.alloc L9 _).drew | exact B9.drew.alloc L9 _)).mono ?_;rintro e w2 ⟨v,rfl,aB,aK⟩;obtain⟨nQ,nR,rfl⟩:=zD aB;obtain⟨m0,m1,m2,m3,m4,m5,m6,m7⟩:=zA HK _ _ (by first | exact B9.drew | exact (B9.alloc L9 _).drew | exact B9.drew.alloc L9 _) aK;have nS:=λ (j:Nat) h=>aK.cell (p:=⟨wr.heap.size,j,none⟩) h;have oE:=λ (j:Nat) h=>aK.frozen (p:=⟨wr.heap.size,j,none⟩) h;have gC:=zC aB;clear aB))
     all_goals
      go_wp2_with fail;go_meet
      case rel=>first | exact⟨_,_,rfl,M5.behind (W:=wr.drew) B9.drew aK (zA gC)⟩ | exact⟨_,_,rfl,M5.ahead (W:=(wr.alloc (.cells #[.string { data:=#[] },.slice none 0 0,.bool false,.int .i64 0,.int .i64 0] 243)).drew) (B9.alloc L9 _).drew L9 (heap_alloc_new wr _) aK (zA gC)⟩
    case rest=>
     obtain⟨b,v,rfl,hM⟩:=hcut;obtain⟨nQ,nR,rfl⟩:=zD hM.row;have Lx:=hM.below.size;have dG:=(zA HI).dQ hM.below;obtain⟨r0,-⟩:=zB hM.bp 0;obtain⟨r1,-⟩:=zB hM.bp 1;obtain⟨r2,-⟩:=zB hM.bp 2;obtain⟨r3,-⟩:=zB hM.bp 3;obtain⟨r4,-⟩:=zB hM.bp 4;have eA:=zC dG
     cases ok with
     | false=>
      clear hM dG HI cJ HK x0 x1 y0 y1 y2 y3 y4 p5;go_wp2_with fail;go_roundg (bs.length-(k+1));exact⟨k+1,by omega,rfl,by rw[zA DQ];rfl,by go_num,zA eA⟩;omega
     | true=>
      have ML:=zC (zoi wc wr.heap.size (fa NE A) nQ nR false 0 0 hM.row hlen);have Ab:=zJ (zA HC).facts.row dG.below (λ g e=>((zA HC).facts.row.lt g e).2);have wO:=zC Ab;clear hM dG HI cJ HK x0 x1 y0 y1 y2 y3 y4 p5 Ab;go_wp2_with fail;refine (zA ML).mono ?_;rintro e w3 ⟨s,rfl,hs,cI⟩;have YH:s=xP (fa NE A):=by
       cases s
       simp only[xP,<-hs,Array.toArray_toList]
      subst YH;have iC:=zC ((zA eA).dQ cI);have R3:=zC (zkg w3 base al cl fs (xP (fa NE A)) (zJ (zA wO) cI (λ g e=>((zA wO).lt g e).2)));clear hs cI r0 r1 r2 r3 r4 ML eA wO;generalize xP (fa NE A)=tx at *;generalize jE (fs.map (·.F)) tx=fx at *;go_wp2_with fail;refine (zA R3).mono ?_;rintro e w4 ⟨rfl,rfl⟩;clear R3
      by_cases mO:fx<0
      ·go_wp2_with fail;go_roundg (bs.length-(k+1));exact⟨k+1,by omega,rfl,by rw[zA DQ];simp[mO],by go_num,zA iC⟩;omega
      ·go_wp2_with fail;go_roundg (bs.length-(k+1));exact⟨k+1,by omega,rfl,by rw[zA DQ];simp,by go_num,zA iC⟩;omega
  ·have HI:=zC hI;have Gb:k=bs.length:=(by omega);have HE:=zC (show (R.body.take k).all (ztj (fs.map (·.F)) now[i].e)=R.body.all (ztj (fs.map (·.F)) now[i].e) by rw[Gb,<-zA ov,List.take_length]);rw[zA HE];clear hI;go_wp2_with fail;apply zA HX;exact zA HI
def zio (R:zS)(l:List zP)(x:Way):Bool:=R.body.all (ztj l x.1)
theorem yem (w:W8)(base:Nat)(R:zS)(hv:Value)(bs:List (zL × Value))(bv:Value)(fs:List FG)(al:O8)(cl:Nat)(hC:yaj w base R hv bs bv fs (.slice al fs.length cl))(now:List WG)(an:O8)(cn:Nat)(mz:now.length<=1000000)(bj:∀ x∈now,∀ a∈R.body,(jH (fa x.e a)).length<=1000000000)(w1:W8)(hI:jo w R hv bv (.slice an now.length cn) now (.slice none 0 0) [] w1)
  {Q:Exit->Act->W8->Prop} {c0 c3 c4 c6 c7 c8 c9 gD ll gy fO ig gW fD eG eL eM eN eO eQ eR eS eT eU eV eW fg fh fk fl fm fI fJ fK fP fQ fR fU fV fW dU fX fY fZ gd gh gi gP gQ fE jq jr js ee jt ju jv jw jx jy jz kc kf kg kh ki kj km kx ky kz kD kE kF kG kH kI iO iP iQ iR iS iT iU iV iW iX iY iZ ja jb jc jd je jf dm cj cq cx cy cz cA cC cK cL cM cN cO cP cQ cR cU cV cW cX cY cD cE cF cZ da dc dd de cG:Value}
  (aT:∀ (Mc:Value) (outs:List WG) (w2:W8) (Bj Bk u16 Bl Bs Bt Bu Bv Bw By Bz BA BB BC BD BE BF BG BH BI BJ lG tj tm tr tu tw tz tA oT oU oV oW oX oY oZ o5 o6 o7 o8 pe pg tC tD tE ph pj pk pn po:Value),jo w R hv bv (.slice an now.length cn) now Mc outs w2->outs.map (·.W)=(now.map (·.W)).filter (zio R (fs.map (·.F)))->(∀ x∈outs,x∈now)->Q (.exit 6) ⟨List.toArray (c0::.slice al fs.length cl::.pointer (some ⟨w.heap.size,0,none⟩)::c3::c4::.slice an now.length cn::c6::c7::c8::c9::gD::ll::gy::Mc::Bj::Bk::u16::Bl::fD::eG::eL::eM::eN::eO::eQ::eR::eS::eT::eU::eV::eW::fg::fh::fk::fl::fm::fI::fJ::fK::fP::fQ::fR::fU::fV::fW::dU::fX::fY::fZ::gd::gh::gi::gP::gQ::fE::jq::jr::js::ee::jt::ju::jv::jw::jx::jy::jz::kc::kf::kg::kh::ki::kj::km::kx::ky::kz::kD::kE::kF::kG::kH::kI::iO::Bs::Bt::Bu::Bv::Bw::By::Bz::BA::BB::BC::BD::BE::BF::BG::BH::BI::BJ::lG::tj::tm::tr::tu::tw::tz::tA::oT::oU::oV::oW::oX::oY::oZ::o5::o6::o7::o8::pe::pg::tC::tD::tE::ph::pj::pk::pn::po::cG::[]),[]⟩ w2):
  Code.wp Tryz.prog (Code.loop (z5w 3)) Q ⟨List.toArray (c0::.slice al fs.length cl::.pointer (some ⟨w.heap.size,0,none⟩)::c3::c4::.slice an now.length cn::c6::c7::c8::c9::gD::ll::gy::.slice none 0 0::.int .i64 (0:Nat)::fO::ig::gW::fD::eG::eL::eM::eN::eO::eQ::eR::eS::eT::eU::eV::eW::fg::fh::fk::fl::fm::fI::fJ::fK::fP::fQ::fR::fU::fV::fW::dU::fX::fY::fZ::gd::gh::gi::gP::gQ::fE::jq::jr::js::ee::jt::ju::jv::jw::jx::jy::jz::kc::kf::kg::kh::ki::kj::km::kx::ky::kz::kD::kE::kF::kG::kH::kI::iO::iP::iQ::iR::iS::iT::iU::iV::iW::iX::iY::iZ::ja::jb::jc::jd::je::jf::dm::cj::cq::cx::cy::cz::cA::cC::cK::cL::cM::cN::cO::cP::cQ::cR::cU::cV::cW::cX::cY::cD::cE::cF::cZ::da::dc::dd::de::cG::[]),[]⟩ w1:=by
 conv=>arg 2;arg 1;whnf
 have HC:=zC hC;have HI:=zC hI;have HX:=zC aT;have lW:=zC bj;obtain⟨iw,P2,bC,dY,oP⟩:=info_parts z2q;clear hC hI aT bj
 go_loopg [13,14] now.length (λ gg v ii wr=>∃ (i:Nat) (outs:List WG),i<=now.length/\gg=now.length-i/\ii=.int .i64 i/\jo w R hv bv (.slice an now.length cn) now v outs wr/\outs.map (·.W)++((now.map (·.W)).drop i).filter (zio R (fs.map (·.F)))=(now.map (·.W)).filter (zio R (fs.map (·.F)))/\(∀ x∈outs,x∈now)/\outs.length<=i)
 exact⟨0,[],Nat.zero_le _,rfl,rfl,zA HI,by simp,by simp,by simp⟩
 case round=>
  clear HI;obtain⟨i,outs,hi,M9,rfl,hI,aE,AP,rY⟩:=hrel;obtain⟨a7,c7,rfl⟩:=zD hI.next.row;have HI:=zC hI;have HF:=zC aE;have HS:=zC AP;clear hI aE AP
  by_cases kP:i<now.length
  ·have Cc:(i:Int)<now.length:=(by omega);have aP:((now.map (·.W)).drop i).filter (zio R (fs.map (·.F)))=(if zio R (fs.map (·.F)) now[i].W then [now[i].W] else [])++((now.map (·.W)).drop (i+1)).filter (zio R (fs.map (·.F))):=by
    rw[List.drop_eq_getElem_cons (by simpa using kP),List.filter_cons,List.getElem_map]
    split <;> simp
   have aC:=zC ((congrArg (outs.map (·.W)++·) aP).symm.trans (zA HF));clear aP HF;go_wp2_with fail;refine yen w base R hv bs bv fs al cl (zA HC) now an cn i kP (zA lW _ (List.getElem_mem kP)) _ outs wr (zA HI) ?_;intro w8;intros;rename_i hI8;have BW:=zC hI8;have bR:R.body.all (ztj (fs.map (·.F)) now[i].e)=zio R (fs.map (·.F)) now[i].W:=rfl;rw[bR]
   cases hw:zio R (fs.map (·.F)) now[i].W with
   | false=>
    have aO:=zC (show outs.map (·.W)++((now.map (·.W)).drop (i+1)).filter (zio R (fs.map (·.F)))=(now.map (·.W)).filter (zio R (fs.map (·.F))) by have:=zA aC;rw[hw] at this;simpa using this);clear bR hI8 aC HI hw;go_wp2_with fail;go_roundg (now.length-(i+1));exact⟨i+1,outs,by omega,rfl,by go_num,zA BW,zA aO,zA HS,by omega⟩;omega
   | true=>
    have aO:=zC (show (outs++[now[i]]).map (·.W)++((now.map (·.W)).drop (i+1)).filter (zio R (fs.map (·.F)))=(now.map (·.W)).filter (zio R (fs.map (·.F))) by have:=zA aC;rw[hw] at this;simpa using this);obtain⟨g5,c5,Ds,-,Am,Qz,Av,x0,x1,x2⟩:=zxp hI8.now.row kP;injection Ds with i1 i2 i3
    subst i1 i3;have gp:=hI8.now.each _ (List.getElem_mem kP);obtain⟨pz,pA,br,dL,e1,e2⟩:=gp.env.shape;obtain⟨af,cf,e3⟩:=zD gp.fr
    have DY:=zC (show ∀ x∈outs++[now[i]],x∈now from λ x hx=>by
     rcases List.mem_append.1 hx with hx | hx
     ·exact zA HS x hx
     ·rw[List.mem_singleton.1 hx];exact List.getElem_mem kP)
    have dO:=λ (w5:W8) (g cap:Nat) (hg:(w8.alloc (.cells #[now[i].nv,now[i].tv,now[i].fv] 325)).grownBy w5 (Value.slice a7 outs.length c7).ownBlock) (ay:w5.ownsRow (w.heap.size+1) 325 3 (.slice (some ⟨g,0,none⟩) (outs.length+1) cap) (outs.length+1) (outs.flatMap WG.cells++[now[i].nv,now[i].tv,now[i].fv])) (du:(Value.slice a7 outs.length c7).ownBlock=some g\/g=(w8.alloc (.cells #[now[i].nv,now[i].tv,now[i].fv] 325)).heap.size)=>jo.add hI8 gp ((zK.refl [] _).alloc _) hg ay du
    have aB:=hI8.next.row;have mf:=hI8.lt;have mC:=zC dO;have HR:=zC (aB.alloc (.cells #[now[i].nv,now[i].tv,now[i].fv] 325));have bX:=zC (World.news_of_block (heap_alloc_new w8 (.cells #[now[i].nv,now[i].tv,now[i].fv] 325)));rw[e1,e2,e3] at mC HR bX;rw[e1] at x0;rw[e2] at x1;rw[e3] at x2;clear bR hI8 aC HI hw BW gp dO aB e1 e2 e3 HS;generalize now[i].e.length=ne at *;generalize now[i].fr.length=nf at *;go_wp2_with (at_builtin;go_must (refine wpList_append_lies _ rfl _ _ _ rfl (w.heap.size+1) 325 iw (.agg #[.slice none 0 0,.slice none 0 0,.slice none 0 0]) 3 72 Tryz.underlying322 P2 bC dY oP rfl (by decide) (.slice a7 outs.length c7) outs.length _ rfl (zA HR) ⟨w8.heap.size,0,none⟩ 1 1 [.slice pz ne pA,.slice br ne dL,.slice af nf cf] rfl rfl (zA bX) (by simp[Value.oneCell']) (by decide) (by unfold maxLen;omega) (by omega) (by simp;omega) _ rfl ?_;intro g cap w5 aq aU bW hlt5));have JA:=zC (zA mC w5 g cap aU aq bW);go_roundg (now.length-(i+1));exact⟨i+1,outs++[now[i]],by omega,rfl,by go_num,zA JA,zA aO,zA DY,by rw[List.length_append,List.length_singleton];omega⟩;omega
  ·have HE:=zC (show outs.map (·.W)=(now.map (·.W)).filter (zio R (fs.map (·.F))) by rw[<-zA HF,List.drop_of_length_le (by simp;omega)];simp);clear HF;go_wp2_with fail;apply zA HX
   ·exact zA HI
   ·exact zA HE
   ·exact zA HS
end
end Go.Proofs.YtldkpahaocjdpaaGreat
