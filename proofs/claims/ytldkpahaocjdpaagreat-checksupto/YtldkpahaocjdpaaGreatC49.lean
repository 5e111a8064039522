/-
  The reference's Right: the negative literals of one node.
-/
import Derived.Test.YtldkpahaocjdpaaGreatC48
set_option maxHeartbeats 16000000
set_option maxRecDepth 1000000
namespace Go.Proofs.YtldkpahaocjdpaaGreat
section
open Go.RowKit
def z2s (ps:P9)(S:Nat->Nat)(k:Nat)(l:List zQ)(E:Env)(a:zL):Prop:=S (vZ ps a.pred)<k/\yL l (zU (bf E a))<0
theorem z88 {w:W8}{base:Nat}{v:Value}{xs:List EV}(h:w.ownsRow base 258 2 v xs.length (xs.flatMap EV.cells)){k:Nat}(hk:k<xs.length):∃ g cap,v=.slice (some ⟨g,0,none⟩) xs.length cap/\base<=g/\g<w.heap.size/\xs.length<=cap/\cap<=maxLen/\w.cell? ⟨g,k*2,none⟩=some xs[k].nv/\w.cell? ⟨g,k*2+1,none⟩=some xs[k].tv:=by
 obtain⟨g,cap,h1,h2,h3,h4,h5,h6⟩:=vU (f:=EV.cells) (n:=2) (λ _=>rfl) h k hk;exact⟨g,cap,h1,h2,h3,h4,h5,h6 0 (by omega),h6 1 (by omega)⟩
theorem z9u (w:W8)(o:Nat)(rs:List RR)(ps:P9)(rv pv tv:Value)(gs:Nat)(S:Nat->Nat)(hP:ziv w o rs ps rv pv tv (.slice (some ⟨gs,0,none⟩) ps.length ps.length))(hT:nk w gs ps.length S)(K:Nat)(fs:List FG)(a9:O8)(c9:Nat)(hF:yW w 0 (.slice a9 fs.length c9) fs)(xs:List EV)(C7:O8)(eQ:Nat)(hE:FV w 0 (.slice C7 xs.length eQ) xs)(i:Nat)(hi:i<xs.length)
  (E0:Nat) (R:zP) (ah ab:O8) (ch cb:Nat) (bl:List (zL × Value)) (hR:j7 w 0 R (.slice ah R.head.ae.length ch) bl (.slice ab bl.length cb)) (cW:w.heap[E0]?=some (.cells #[.string R.head.pred,.slice ah R.head.ae.length ch,.bool R.head.no,.int .i64 R.head.at_,.int .i64 R.head.ak,.slice ab bl.length cb] 246 (0,0))) (h3:bl.length<=3) (h4:∀ a∈R.body,a.ae.length<=4) (aT:∀ a∈R.body,a.no=true->(xS (bf xs[i].e a)).length<=1000000000/\0<=zM ps a.pred)
  {Q:Exit->Act->W8->Prop} {c1 c2 c3 c6 c7 gM eJ eY fZ eL dU dR dx dy dz dA dB dC dD dE dF dG dL dM dN dO dP dV dW dX ee eg ei eo ep ev dd ew ey ez eA dY dZ eD eE dQ eZ fa fc di fe fg fh fi fj fl fm fo fp fH fI fJ fK fL gd gh gi gj gq gu gv fM fN fq ft fu fO fP fQ fR fU fV fW fX gw gy gz gA gB gC gD cg bq br bt bu bx bz bC bU bV bW bX bD bE bG bH bI bJ bK bL bM bj bk bn bN bO bP bQ aZ aW cH cI cJ cK cL dp dq dr dt du dv dc iu iv iy iz iA iB iC iD gN gO gP gQ gR gS gT gU gV gW iE iF iG iH mu mx my mz mA mB mC mD mE mF mG mH mI mJ mK kT:Value}
  (aJ:∀ (w2:W8) (oj pJ qc qd qe qf qg qh qi qj oB oC oD oE oF oG oH fF jk jl jm jn jo jq jr iM iN iO iP js jt ju jv jw jx jy jz kc kJ kK kL ke kf kg kh:Value),Below w.heap.size w w2->(∀ a∈R.body,a.no=true->z2s ps S K (fs.map (·.F)) xs[i].e a)->Q (.exit 4) ⟨List.toArray (.pointer (some ⟨o,0,none⟩)::c1::c2::c3::.slice none 0 0::.bool false::c6::c7::.int .i64 K::.slice a9 fs.length c9::.slice C7 xs.length eQ::gM::.int .i64 i::.pointer (some ⟨E0,0,none⟩)::oj::pJ::eY::fZ::eL::dU::dR::dx::dy::dz::dA::dB::dC::dD::dE::dF::dG::dL::dM::dN::dO::dP::dV::dW::dX::ee::eg::ei::eo::ep::ev::dd::ew::ey::ez::eA::dY::dZ::eD::eE::dQ::eZ::fa::fc::di::fe::fg::fh::fi::fj::fl::fm::fo::fp::fH::fI::fJ::fK::fL::gd::gh::gi::gj::gq::gu::gv::fM::fN::fq::ft::fu::qc::qd::qe::qf::qg::qh::qi::qj::oB::oC::oD::oE::oF::oG::oH::fF::jk::jl::jm::jn::jo::jq::jr::iM::iN::iO::iP::js::jt::ju::jv::jw::jx::jy::jz::kc::kJ::kK::kL::ke::kf::kg::kh::aZ::aW::cH::cI::cJ::cK::cL::dp::dq::dr::dt::du::dv::dc::iu::iv::iy::iz::iA::iB::iC::iD::gN::gO::gP::gQ::gR::gS::gT::gU::gV::gW::iE::iF::iG::iH::mu::mx::my::mz::mA::mB::mC::mD::mE::mF::mG::mH::mI::mJ::mK::kT::[]),[]⟩ w2)
  (gE:∀ (w2:W8) (oj pJ qc qd qe qf qg qh qi qj oB oC oD oE oF oG oH fF jk jl jm jn jo jq jr iM iN iO iP js jt ju jv jw jx jy jz kc kJ kK kL ke kf kg kh:Value),Below w.heap.size w w2->(∃ a∈R.body,a.no=true/\¬ z2s ps S K (fs.map (·.F)) xs[i].e a)->Q .ret ⟨List.toArray (.pointer (some ⟨o,0,none⟩)::c1::c2::c3::.slice none 0 0::.bool false::c6::c7::.int .i64 K::.slice a9 fs.length c9::.slice C7 xs.length eQ::gM::.int .i64 i::.pointer (some ⟨E0,0,none⟩)::oj::pJ::eY::fZ::eL::dU::dR::dx::dy::dz::dA::dB::dC::dD::dE::dF::dG::dL::dM::dN::dO::dP::dV::dW::dX::ee::eg::ei::eo::ep::ev::dd::ew::ey::ez::eA::dY::dZ::eD::eE::dQ::eZ::fa::fc::di::fe::fg::fh::fi::fj::fl::fm::fo::fp::fH::fI::fJ::fK::fL::gd::gh::gi::gj::gq::gu::gv::fM::fN::fq::ft::fu::qc::qd::qe::qf::qg::qh::qi::qj::oB::oC::oD::oE::oF::oG::oH::fF::jk::jl::jm::jn::jo::jq::jr::iM::iN::iO::iP::js::jt::ju::jv::jw::jx::jy::jz::kc::kJ::kK::kL::ke::kf::kg::kh::aZ::aW::cH::cI::cJ::cK::cL::dp::dq::dr::dt::du::dv::dc::iu::iv::iy::iz::iA::iB::iC::iD::gN::gO::gP::gQ::gR::gS::gT::gU::gV::gW::iE::iF::iG::iH::mu::mx::my::mz::mA::mB::mC::mD::mE::mF::mG::mH::mI::mJ::mK::kT::[]),[]⟩ w2):
  Code.wp Tryz.prog (Code.loop (zqd 2)) Q ⟨List.toArray (.pointer (some ⟨o,0,none⟩)::c1::c2::c3::.slice none 0 0::.bool false::c6::c7::.int .i64 K::.slice a9 fs.length c9::.slice C7 xs.length eQ::gM::.int .i64 i::.pointer (some ⟨E0,0,none⟩)::.int .i64 (0:Nat)::eJ::eY::fZ::eL::dU::dR::dx::dy::dz::dA::dB::dC::dD::dE::dF::dG::dL::dM::dN::dO::dP::dV::dW::dX::ee::eg::ei::eo::ep::ev::dd::ew::ey::ez::eA::dY::dZ::eD::eE::dQ::eZ::fa::fc::di::fe::fg::fh::fi::fj::fl::fm::fo::fp::fH::fI::fJ::fK::fL::gd::gh::gi::gj::gq::gu::gv::fM::fN::fq::ft::fu::fO::fP::fQ::fR::fU::fV::fW::fX::gw::gy::gz::gA::gB::gC::gD::cg::bq::br::bt::bu::bx::bz::bC::bU::bV::bW::bX::bD::bE::bG::bH::bI::bJ::bK::bL::bM::bj::bk::bn::bN::bO::bP::bQ::aZ::aW::cH::cI::cJ::cK::cL::dp::dq::dr::dt::du::dv::dc::iu::iv::iy::iz::iA::iB::iC::iD::gN::gO::gP::gQ::gR::gS::gT::gU::gV::gW::iE::iF::iG::iH::mu::mx::my::mz::mA::mB::mC::mD::mE::mF::mG::mH::mI::mJ::mK::kT::[]),[]⟩ w:=by
 conv=>arg 2;arg 1;whnf
 have Xo:=yN hR.bo;have HP:=zC hP;have HT:=zC hT;have HF:=zC hF;have HE:=zC hE;have HR:=zC hR;have Du:=zC cW;have DA:=zC h4;have lN:=zC aT;have HX:=zC aJ;have HY:=zC gE;have o7:=(Array.getElem?_eq_some_iff.1 cW).1;have heq:R.body=bl.map (·.1):=hR.eq;have A6:=zC heq;have Mk:=yN hE.row;unfold maxLen at Mk;clear hP hT hF hE hR cW h4 aT aJ gE heq
 go_loopg [4,5,14] bl.length (λ gg v4 v5 jj wr=>v4=.slice none 0 0/\v5=.bool false/\∃ (j:Nat),jj=.int .i64 j/\j<=bl.length/\gg=bl.length-j/\Below w.heap.size w wr/\∀ a∈R.body.take j,a.no=true->z2s ps S K (fs.map (·.F)) xs[i].e a)
 exact⟨rfl,rfl,0,rfl,by omega,by omega,Below.refl _ _,by simp⟩
 case round=>
  obtain⟨rfl,rfl,j,rfl,hj,dI,hB,aL⟩:=hrel;have cY:=zC aL;have HB:=zC hB;have ed:=(hB.block _ o7).trans (zA Du);obtain⟨x5,-⟩:=zB ed 5;simp only[List.getElem?_toArray,List.getElem?_cons_zero,List.getElem?_cons_succ] at x5;have pc:E0<wr.heap.size:=by have:=hB.size;omega
  by_cases hlj:j<bl.length
  ·have IW:(j:Int)<bl.length:=(by omega);have Lv:j<R.body.length:=(by rw[zA A6,List.length_map];exact hlj);have IS:R.body[j]=bl[j].1:=(by simp only[zA A6,List.getElem_map]);have gX:=zH (zA HR).bo hB (λ g e=>((zA HR).bo.lt g e).2);obtain⟨gb,WK,oe,-,ji,nc,yh,y0,y1,y2,y3,y4⟩:=vE gX j hlj;injection oe with i1 i2 i3
   subst i1 i3;have PB:bl[j].1∈R.body:=(by rw[<-IS];exact List.getElem_mem Lv);have qm:=(zA HR).bl _ (List.getElem_mem hlj);obtain⟨aa,ca,ea⟩:=zD qm;rw[ea] at y1;rw[ea] at qm;have lR:=zC (show R.body.take (j+1)=R.body.take j++[bl[j].1] by rw[List.take_succ_eq_append_getElem Lv,IS]);have Jr:=zC PB;have Sj:=zC qm;have hA4:=zA DA _ PB;generalize hA:bl[j].1=A at *;clear gX aL ed IS PB qm ea hA
   cases aR:A.no with
   | false=>
    rw[aR] at y2;have lz:=zC aR;clear aR;go_wp2_with fail;go_roundg (bl.length-(j+1))
    case measure=>omega
    case rel=>
     refine⟨rfl,rfl,j+1,by go_num,by omega,rfl,zA HB,λ a ha=>?_⟩;rw[zA lR] at ha;rcases List.mem_append.1 ha with ha | ha
     ·exact zA cY a ha
     ·rw[List.mem_singleton.1 ha];intro h;rw[zA lz] at h;cases h
   | true=>
    rw[aR] at y2;obtain⟨hlen,ln⟩:=zA lN A (zA Jr) aR;have lz:=zC aR;have PH:=(zA HE).below hB;obtain⟨ge,ce,YK,-,hle,eI,LG,w0,w1⟩:=z88 PH.row hi;injection YK with i1 i2 i3
    subst i1 i3;have iJ:=PH.each _ (List.getElem_mem hi);obtain⟨an,cn,at_,ct,e1,e2⟩:=iJ.shape;rw[e1] at w0;rw[e2] at w1;rw[e1,e2] at iJ;have dH:∀ W,Below wr.heap.size wr W->Calls Tryz.prog 192 #[.agg #[.slice an xs[i].e.length cn,.slice at_ xs[i].e.length ct],.agg #[.string A.pred,.slice aa A.ae.length ca,.bool true,.int .i64 A.at_,.int .i64 A.ak]] W (zot W xs[i].e A):=λ W hW=>by
     have q1:=iJ.below hW;have hk:=hB.trans (hW.mono hB.size);have:=zkj W 0 xs[i].e A an at_ aa cn ct ca q1 (zH (zA Sj) hk (λ g e=>((zA Sj).lt g e).2)) (by omega);rw[aR] at this;exact this
    have aV:=zC dH;have rF:(i:Int)<xs.length:=by omega
    have HK:Hid (∀ W w':W8,Below wr.heap.size wr W->Below W.heap.size W w'->w'.cell? ⟨ge,i*2,none⟩=some (.slice an xs[i].e.length cn)/\w'.cell? ⟨ge,i*2+1,none⟩=some (.slice at_ xs[i].e.length ct)/\w'.cell? ⟨E0,5,none⟩=some (.slice (some ⟨gb,0,none⟩) bl.length cb)/\w'.cell? ⟨gb,j*5,none⟩=some (.string A.pred)/\w'.cell? ⟨gb,j*5+1,none⟩=some (.slice aa A.ae.length ca)/\w'.cell? ⟨gb,j*5+2,none⟩=some (.bool true)/\w'.cell? ⟨gb,j*5+3,none⟩=some (.int .i64 A.at_)/\w'.cell? ⟨gb,j*5+4,none⟩=some (.int .i64 A.ak)):=zC (λ W w' h1 h2=>by
     have nL:=h1.trans (h2.mono h1.size)
     exact⟨(nL.cell (by simpa using hle)).trans w0,(nL.cell (by simpa using hle)).trans w1,(nL.cell (by simpa using pc)).trans x5,(nL.cell (by simpa using ji)).trans y0,(nL.cell (by simpa using ji)).trans y1,(nL.cell (by simpa using ji)).trans y2,(nL.cell (by simpa using ji)).trans y3,(nL.cell (by simpa using ji)).trans y4⟩)
    have d5:¬ ge=wr.heap.size:=(by omega);have db:¬ E0=wr.heap.size:=(by omega);have dg:¬ gb=wr.heap.size:=(by omega);clear PH iJ dH e1 e2 aR hB;go_upto_region 20 with fail
    go_cut [15] from 85 to 127 (λ p wc=>∃ b v,p=.pointer (some ⟨b,0,none⟩)/\M5 wr (bf xs[i].e A) b v wc)
    case first=>
     generalize hEE:xs[i].e=E at *
     go_region_held3 (λ w'=>w'.cell? ⟨ge,i*2,none⟩=some (.slice an E.length cn)/\w'.cell? ⟨ge,i*2+1,none⟩=some (.slice at_ E.length ct)/\w'.cell? ⟨E0,5,none⟩=some (.slice (some ⟨gb,0,none⟩) bl.length cb)/\w'.cell? ⟨gb,j*5,none⟩=some (.string A.pred)/\w'.cell? ⟨gb,j*5+1,none⟩=some (.slice aa A.ae.length ca)/\w'.cell? ⟨gb,j*5+2,none⟩=some (.bool true)/\w'.cell? ⟨gb,j*5+3,none⟩=some (.int .i64 A.at_)/\w'.cell? ⟨gb,j*5+4,none⟩=some (.int .i64 A.ak)) (first | go_keep | (refine⟨?_,?_,?_,?_,?_,?_,?_,?_⟩ <;> (refine (zjf ?_).trans ?_ <;> assumption))) ((go_at_call 192;refine (zA aV _ (by first | exact B9.drew | exact (B9.alloc L9 _).drew | exact B9.drew.alloc L9 _)).mono ?_;rintro e w2 ⟨v,rfl,aB,aH⟩;obtain⟨fE,iU,rfl⟩:=zD aB;obtain⟨m0,m1,m2,m3,m4,m5,m6,m7⟩:=zA HK _ _ (by first | exact B9.drew | exact (B9.alloc L9 _).drew | exact B9.drew.alloc L9 _) aH;have nN:=λ (j:Nat) h=>aH.cell (p:=⟨wr.heap.size,j,none⟩) h;have se:=λ (j:Nat) h=>aH.frozen (p:=⟨wr.heap.size,j,none⟩) h;have gL:=zC aB;clear aB))
     all_goals
      go_wp2_with fail;go_meet
      case rel=>first | exact⟨_,_,rfl,M5.behind (W:=wr.drew) B9.drew aH (zA gL)⟩ | exact⟨_,_,rfl,M5.ahead (W:=(wr.alloc (.cells #[.string { data:=#[] },.slice none 0 0,.bool false,.int .i64 0,.int .i64 0] 243)).drew) (B9.alloc L9 _).drew L9 (heap_alloc_new wr _) aH (zA gL)⟩
    case rest=>
     generalize wc=wA at *;obtain⟨b,v,rfl,hM⟩:=hcut;obtain⟨fE,iU,rfl⟩:=zD hM.row;have lA:Below w.heap.size w wA:=(zA HB).trans (hM.below.mono (zA HB).size);have aO:=(zA HP).kept ((zN.refl [] _).ai lA) (by simp);have ik:=(zA HT).kept ((zN.refl [] _).ai lA);have ve:=xN ln;obtain⟨ix,hZ⟩:∃ ix:Nat,zM ps A.pred=(ix:Int):=⟨_,(Int.toNat_of_nonneg ln).symm⟩;have lW:ix<ps.length:=(by omega);have BO:vZ ps A.pred=ix:=(by unfold vZ;rw[hZ];rfl);have st1:=ik.cell ix lW;have zv:=ik.sz;have c3:=aO.c3;have NG:=aO.lt;have G7:ps.length<=maxLen:=yN aO.fC
     have ir:=zC (λ (W:W8) (hW:Below wA.heap.size wA W)=>(show Calls Tryz.prog 135 #[.pointer (some ⟨o,0,none⟩),.string A.pred] W λ e w'=>e=.returned (.int .i64 (ix:Nat))/\w'=W from by
      have:=qJ W o rs ps _ _ _ _ A.pred (aO.kept ((zN.refl [] _).ai hW) (by simp));rw[hZ] at this
      exact this))
     have lu:=hM.row;have eO:=zC (λ (W:W8) (hW:Below wA.heap.size wA W)=>(show Calls Tryz.prog 134 #[.agg #[.string A.pred,.slice fE (bf xs[i].e A).ae.length iU,.bool false,.int .i64 0,.int .i64 0]] W λ e w'=>∃ s:B8,e=.returned (.string s)/\s.data.toList=xS (bf xs[i].e A)/\Below W.heap.size W w' from zbw W wr.heap.size (bf xs[i].e A) fE iU false 0 0 (zH lu hW (λ g e=>(lu.lt g e).2)) hlen));have nP:=(zA HF).row;have ko:=zC (λ (W:W8) (hW:Below wA.heap.size wA W)=>zco W 0 a9 c9 fs (zU (bf xs[i].e A)) (zH nP (lA.trans (hW.mono lA.size)) (λ g e=>(nP.lt g e).2)));have eK:=(Array.getElem?_eq_some_iff.1 hM.cP).1;obtain⟨r0,-⟩:=zB hM.cP 0;obtain⟨r1,-⟩:=zB hM.cP 1;obtain⟨r2,-⟩:=zB hM.cP 2;obtain⟨r3,-⟩:=zB hM.cP 3;obtain⟨r4,-⟩:=zB hM.cP 4;simp only[List.getElem?_toArray,List.getElem?_cons_zero,List.getElem?_cons_succ] at r0 r1 r2 r3 r4;have rT:=zC (show z2s ps S K (fs.map (·.F)) xs[i].e A↔S ix<K/\yL (fs.map (·.F)) (zU (bf xs[i].e A))<0 by unfold z2s;rw[BO]);have tq:=zC lA;have BN:(ix:Int)<ps.length:=(by omega);have tJ:(0:Int)<=ix:=(by omega);replace r0:wA.cell? ⟨b,0,none⟩=some (.string A.pred):=r0;clear hM lA aO ik ve hZ BO ln lu nP aV HK hlen d5 db dg w0 w1 x5 y0 y1 y2 y3 y4;generalize bf xs[i].e A=B at *;generalize hFX:yL (fs.map (·.F)) (zU B)=FX at *;clear hFX;have uP:Hid (∀ w':W8,Below wA.heap.size wA w'->w'.cell? ⟨o,3,none⟩=some (.slice (some ⟨gs,0,none⟩) ps.length ps.length)/\w'.cell? ⟨gs,ix,none⟩=some (.int .i64 (S ix))/\w'.cell? ⟨b,0,none⟩=some (.string A.pred)/\w'.cell? ⟨b,1,none⟩=some (.slice fE B.ae.length iU)/\w'.cell? ⟨b,2,none⟩=some (.bool false)/\w'.cell? ⟨b,3,none⟩=some (.int .i64 0)/\w'.cell? ⟨b,4,none⟩=some (.int .i64 0)):=zC (λ w' h=>⟨(h.cell (by simpa using NG)).trans c3,(h.cell (by simpa using zv)).trans st1,(h.cell (by simpa using eK)).trans r0,(h.cell (by simpa using eK)).trans r1,(h.cell (by simpa using eK)).trans r2,(h.cell (by simpa using eK)).trans r3,(h.cell (by simpa using eK)).trans r4⟩)
     go_upto_region 21 with fail
     by_cases uZ:S ix<K
     ·have va:decide (K<=S ix)=false:=(by simp;omega);have Gt:decide ((K:Int)<=(S ix:Int))=false:=by simp;omega
      go_cut [127] from 85 to 127 (λ u wc=>u=.bool (decide ((0:Int)<=FX))/\Below wA.heap.size wA wc)
      case first=>
       go_region_held3 (λ w'=>w'.cell? ⟨o,3,none⟩=some (.slice (some ⟨gs,0,none⟩) ps.length ps.length)/\w'.cell? ⟨gs,ix,none⟩=some (.int .i64 (S ix))/\w'.cell? ⟨b,0,none⟩=some (.string A.pred)/\w'.cell? ⟨b,1,none⟩=some (.slice fE B.ae.length iU)/\w'.cell? ⟨b,2,none⟩=some (.bool false)/\w'.cell? ⟨b,3,none⟩=some (.int .i64 0)/\w'.cell? ⟨b,4,none⟩=some (.int .i64 0)) (first | exact zA uP _ dT | exact zA uP _ B9.drew | go_keep) ((first | (go_at_call 135;refine (zA ir _ (by exact B9.drew)).mono ?_;rintro e w3 ⟨rfl,gI⟩;have gI:=gI.symm;subst gI) | (go_at_call 134;refine (zA eO _ (by exact B9.drew)).mono ?_;rintro e w2 ⟨tx,rfl,su,aH⟩;obtain rfl:=zgf su;have dT:Below wA.heap.size wA w2:=zV aH;obtain⟨m0,m1,m2,m3,m4,m5,m6⟩:=zA uP _ dT;clear su) | (go_at_call 133;refine (zA ko _ dT).mono ?_;rintro e w3 ⟨rfl,gI⟩;have gI:=gI.symm;subst gI)))
       all_goals
        go_wp2_with fail;go_meet
        case rel=>exact⟨by first | rfl | simp,dT⟩
      case rest=>
       generalize wc=wE at *;obtain⟨rfl,Td⟩:=hcut;have CV:=zC ((zA tq).trans (Td.mono (zA tq).size));clear Td uP ir eO ko r0 r1 r2 r3 r4 c3 st1
       by_cases hFX:(0:Int)<=FX
       ·have hd:decide ((0:Int)<=FX)=true:=(by simp;exact hFX);rw[hd];have rS:=zC (show ∃ a∈R.body,a.no=true/\¬ z2s ps S K (fs.map (·.F)) xs[i].e a from ⟨A,zA Jr,zA lz,λ h=>by have:=((zA rT).1 h).2;omega⟩);go_wp2_with fail;apply zA HY
        ·exact zA CV
        ·exact zA rS
       ·have hd:decide ((0:Int)<=FX)=false:=(by simp;omega);rw[hd];have gK:=zC (show z2s ps S K (fs.map (·.F)) xs[i].e A from (zA rT).2 ⟨uZ,by omega⟩);go_wp2_with fail;go_roundg (bl.length-(j+1))
        case measure=>omega
        case rel=>
         refine⟨rfl,rfl,j+1,by go_num,by omega,rfl,zA CV,λ a ha=>?_⟩;rw[zA lR] at ha;rcases List.mem_append.1 ha with ha | ha
         ·exact zA cY a ha
         ·rw[List.mem_singleton.1 ha];exact λ _=>zA gK
     ·have va:decide (K<=S ix)=true:=(by simp;omega);have Gt:decide ((K:Int)<=(S ix:Int))=true:=(by simp;omega);have rS:=zC (show ∃ a∈R.body,a.no=true/\¬ z2s ps S K (fs.map (·.F)) xs[i].e a from ⟨A,zA Jr,zA lz,λ h=>uZ ((zA rT).1 h).1⟩);clear uP eO ko;go_quiet ((go_at_call 135;exact Calls.quiet_of_same (zA ir _ (below_drewN B9 _))));go_wp2_with fail;apply zA HY
      ·first | exact below_drewN (zA tq) _ | exact zA tq
      ·exact zA rS
  ·have IW:¬ ((j:Int)<bl.length):=(by omega);have qn:R.body.take j=R.body:=List.take_of_length_le (by rw[zA A6,List.length_map];omega);rw[qn] at cY;clear aL hB ed qn;go_wp2_with fail;apply zA HX
   ·exact zA HB
   ·exact zA cY
end
section
open Go.RowKit
theorem z9t (w:W8)(o:Nat)(rs:List RR)(ps:P9)(rv pv tv:Value)(gs:Nat)(S:Nat->Nat)(hP:ziv w o rs ps rv pv tv (.slice (some ⟨gs,0,none⟩) ps.length ps.length))(hT:nk w gs ps.length S)(K:Nat)(fs:List FG)(a9:O8)(c9:Nat)(hF:yW w 0 (.slice a9 fs.length c9) fs)(xs:List EV)(C7:O8)(eQ:Nat)(hE:FV w 0 (.slice C7 xs.length eQ) xs)(lG:fs.length<=50)(nU:xs.length=fs.length)
  (h3:∀ r∈rs,r.bs.length<=3) (h4:∀ r∈rs,∀ a∈r.R.body,a.ae.length<=4) (oQ:∀ f∈fs,f.F.r<rs.length) (aT:∀ (i:Nat) (hi:i<fs.length) (hx:i<xs.length) (r:RR),rs[fs[i].F.r]?=some r->∀ a∈r.R.body,a.no=true->(xS (bf xs[i].e a)).length<=1000000000/\0<=zM ps a.pred)
  {Q:Exit->Act->W8->Prop} {c1 c2 c3 c6 c7 gM fY gG eJ eY fZ eL dU dR dx dy dz dA dB dC dD dE dF dG dL dM dN dO dP dV dW dX ee eg ei eo ep ev dd ew ey ez eA dY dZ eD eE dQ eZ fa fc di fe fg fh fi fj fl fm fo fp fH fI fJ fK fL gd gh gi gj gq gu gv fM fN fq ft fu fO fP fQ fR fU fV fW fX gw gy gz gA gB gC gD cg bq br bt bu bx bz bC bU bV bW bX bD bE bG bH bI bJ bK bL bM bj bk bn bN bO bP bQ aZ aW cH cI cJ cK cL dp dq dr dt du dv dc iu iv iy iz iA iB iC iD gN gO gP gQ gR gS gT gU gV gW iE iF iG iH mu mx my mz mA mB mC mD mE mF mG mH mI mJ mK kT:Value}
  (aJ:∀ (w2:W8) (oh tW oj pJ pV pW pX pY pZ ou ov ow ox oy oz oA qa qb sH sI sJ qc qd qe qf qg qh qi qj oB oC oD oE oF oG oH fF jk jl jm jn jo jq jr iM iN iO iP js jt ju jv jw jx jy jz kc kJ kK kL ke kf kg kh:Value),Below w.heap.size w w2->zuy (rs.map (·.R)) ps S K (fs.map (·.F)) (xs.map (·.e))->Q (.exit 2) ⟨List.toArray (.pointer (some ⟨o,0,none⟩)::c1::c2::c3::.slice none 0 0::.bool false::c6::c7::.int .i64 K::.slice a9 fs.length c9::.slice C7 xs.length eQ::gM::oh::tW::oj::pJ::eY::fZ::eL::dU::dR::dx::dy::dz::dA::dB::dC::dD::dE::dF::dG::dL::dM::dN::dO::dP::dV::dW::dX::ee::eg::ei::eo::ep::ev::dd::ew::ey::ez::eA::dY::dZ::eD::eE::dQ::eZ::fa::fc::di::fe::fg::fh::fi::fj::fl::fm::fo::fp::pV::pW::pX::pY::pZ::ou::ov::ow::ox::oy::oz::oA::qa::qb::sH::sI::sJ::qc::qd::qe::qf::qg::qh::qi::qj::oB::oC::oD::oE::oF::oG::oH::fF::jk::jl::jm::jn::jo::jq::jr::iM::iN::iO::iP::js::jt::ju::jv::jw::jx::jy::jz::kc::kJ::kK::kL::ke::kf::kg::kh::aZ::aW::cH::cI::cJ::cK::cL::dp::dq::dr::dt::du::dv::dc::iu::iv::iy::iz::iA::iB::iC::iD::gN::gO::gP::gQ::gR::gS::gT::gU::gV::gW::iE::iF::iG::iH::mu::mx::my::mz::mA::mB::mC::mD::mE::mF::mG::mH::mI::mJ::mK::kT::[]),[]⟩ w2)
  (gE:∀ (w2:W8) (oh tW oj pJ pV pW pX pY pZ ou ov ow ox oy oz oA qa qb sH sI sJ qc qd qe qf qg qh qi qj oB oC oD oE oF oG oH fF jk jl jm jn jo jq jr iM iN iO iP js jt ju jv jw jx jy jz kc kJ kK kL ke kf kg kh:Value),Below w.heap.size w w2->¬ zuy (rs.map (·.R)) ps S K (fs.map (·.F)) (xs.map (·.e))->Q .ret ⟨List.toArray (.pointer (some ⟨o,0,none⟩)::c1::c2::c3::.slice none 0 0::.bool false::c6::c7::.int .i64 K::.slice a9 fs.length c9::.slice C7 xs.length eQ::gM::oh::tW::oj::pJ::eY::fZ::eL::dU::dR::dx::dy::dz::dA::dB::dC::dD::dE::dF::dG::dL::dM::dN::dO::dP::dV::dW::dX::ee::eg::ei::eo::ep::ev::dd::ew::ey::ez::eA::dY::dZ::eD::eE::dQ::eZ::fa::fc::di::fe::fg::fh::fi::fj::fl::fm::fo::fp::pV::pW::pX::pY::pZ::ou::ov::ow::ox::oy::oz::oA::qa::qb::sH::sI::sJ::qc::qd::qe::qf::qg::qh::qi::qj::oB::oC::oD::oE::oF::oG::oH::fF::jk::jl::jm::jn::jo::jq::jr::iM::iN::iO::iP::js::jt::ju::jv::jw::jx::jy::jz::kc::kJ::kK::kL::ke::kf::kg::kh::aZ::aW::cH::cI::cJ::cK::cL::dp::dq::dr::dt::du::dv::dc::iu::iv::iy::iz::iA::iB::iC::iD::gN::gO::gP::gQ::gR::gS::gT::gU::gV::gW::iE::iF::iG::iH::mu::mx::my::mz::mA::mB::mC::mD::mE::mF::mG::mH::mI::mJ::mK::kT::[]),[]⟩ w2):
  Code.wp Tryz.prog (Code.loop (zqd 1)) Q ⟨List.toArray (.pointer (some ⟨o,0,none⟩)::c1::c2::c3::.slice none 0 0::.bool false::c6::c7::.int .i64 K::.slice a9 fs.length c9::.slice C7 xs.length eQ::gM::.int .i64 (0:Nat)::fY::gG::eJ::eY::fZ::eL::dU::dR::dx::dy::dz::dA::dB::dC::dD::dE::dF::dG::dL::dM::dN::dO::dP::dV::dW::dX::ee::eg::ei::eo::ep::ev::dd::ew::ey::ez::eA::dY::dZ::eD::eE::dQ::eZ::fa::fc::di::fe::fg::fh::fi::fj::fl::fm::fo::fp::fH::fI::fJ::fK::fL::gd::gh::gi::gj::gq::gu::gv::fM::fN::fq::ft::fu::fO::fP::fQ::fR::fU::fV::fW::fX::gw::gy::gz::gA::gB::gC::gD::cg::bq::br::bt::bu::bx::bz::bC::bU::bV::bW::bX::bD::bE::bG::bH::bI::bJ::bK::bL::bM::bj::bk::bn::bN::bO::bP::bQ::aZ::aW::cH::cI::cJ::cK::cL::dp::dq::dr::dt::du::dv::dc::iu::iv::iy::iz::iA::iB::iC::iD::gN::gO::gP::gQ::gR::gS::gT::gU::gV::gW::iE::iF::iG::iH::mu::mx::my::mz::mA::mB::mC::mD::mE::mF::mG::mH::mI::mJ::mK::kT::[]),[]⟩ w:=by
 conv=>arg 2;arg 1;whnf
 obtain⟨ar,cr,rfl⟩:=zD hP.rules;have Rf:=yN hP.rules;unfold maxLen at Rf;have HP:=zC hP;have HT:=zC hT;have HF:=zC hF;have HE:=zC hE;have VA:=zC h3;have DA:=zC h4;have Wb:=zC oQ;have lN:=zC aT;have J7:=zC nU;have HX:=zC aJ;have HY:=zC gE;clear hP hT hF hE h3 h4 oQ aT aJ gE nU
 go_loopg [4,5,12] fs.length (λ gg v4 v5 ii wr=>v4=.slice none 0 0/\v5=.bool false/\∃ (i:Nat),ii=.int .i64 i/\i<=fs.length/\gg=fs.length-i/\Below w.heap.size w wr/\∀ (i':Nat) (f:zQ) (E:Env) (R:zP),i'<i->(fs.map (·.F))[i']?=some f->(xs.map (·.e))[i']?=some E->(rs.map (·.R))[f.r]?=some R->∀ a∈R.body,a.no=true->z2s ps S K (fs.map (·.F)) E a)
 exact⟨rfl,rfl,0,rfl,by omega,by omega,Below.refl _ _,λ i' _ _ _ h=>by omega⟩
 case round=>
  obtain⟨rfl,rfl,i,rfl,hi,dI,hB,aL⟩:=hrel;have cY:=zC aL;have HB:=zC hB
  by_cases jb:i<fs.length
  ·have rF:(i:Int)<fs.length:=(by omega);have Mj:i<xs.length:=(by rw[zA J7];exact jb);have aO:=(zA HP).kept ((zN.refl [] _).ai hB) (by simp);have Ef:=aO.c0;have sl:=aO.lt;obtain⟨g9,S8,Rt,-,Nw,hn9,hm9,TX⟩:=zah ((zA HF).below hB).row jb;injection Rt with q1 q2 q3
   subst q1 q3;have x8:=TX 8 (by decide);simp only[FG.cells,List.getElem?_cons_succ,List.getElem?_cons_zero] at x8;have ye:=zA Wb _ (List.getElem_mem jb);obtain⟨gr,Na,rh,GH,mQ,NC,Nz,p0,p1,p2,p3,p4,p5⟩:=x7 aO.rules fs[i].F.r ye;injection rh with q1 q2 q3
   subst q1 q3;have bY:=List.getElem_mem ye;have Ad:rs[fs[i].F.r]?=some rs[fs[i].F.r]:=List.getElem?_eq_getElem ye;have dk:=(zA HP).each _ bY;have h3:=zA VA _ bY;have h4:=zA DA _ bY;have Hl:=zA lN i jb Mj _ Ad;have lQ:(fs.map (·.F))[i]?=some fs[i].F:=(by rw[List.getElem?_map,List.getElem?_eq_getElem jb];rfl);generalize rs[fs[i].F.r]=RX at p0 p1 p2 p3 p4 p5 dk h3 h4 Hl Ad;have Ae:(rs.map (·.R))[fs[i].F.r]?=some RX.R:=(by rw[List.getElem?_map,Ad];rfl);have MX:=zC (λ (f:zQ) (hf:(fs.map (·.F))[i]?=some f)=>(show (rs.map (·.R))[f.r]?=some RX.R from by rw[lQ] at hf;obtain rfl:=Option.some.inj hf;exact Ae));have oK:=zC (show ∃ f,(fs.map (·.F))[i]?=some f from ⟨_,lQ⟩);have SZ:=zC (show (xs.map (·.e))[i]?=some xs[i].e by rw[List.getElem?_map,List.getElem?_eq_getElem Mj];rfl);generalize fs[i].F.r=x at *;obtain⟨ah,ch,e1⟩:=zD dk.hd;obtain⟨ab,cb,e2⟩:=zD dk.bo;rw[e1] at p1;rw[e2] at p5;rw[e1,e2] at dk;have rB:=zC (dk.low (Nat.zero_le _));have HH:=zC (And.intro h4 Hl);have RE:(x:Int)<rs.length:=(by omega);have d1:wr.heap.size≠o:=(by omega);have d2:wr.heap.size≠g9:=(by omega);have d3:wr.heap.size≠gr:=(by omega);clear hB aL aO TX bY dk h4 Hl Ad Ae lQ e1 e2;go_upto_region 15 with fail
   go_cut [13] from 68 to 127 (λ p wc=>∃ b,p=.pointer (some ⟨b,0,none⟩)/\wc.heap[b]?=some (.cells #[.string RX.R.head.pred,.slice ah RX.R.head.ae.length ch,.bool RX.R.head.no,.int .i64 RX.R.head.at_,.int .i64 RX.R.head.ak,.slice ab RX.bs.length cb] 246 (0,0))/\Below wr.heap.size wr wc)
   case first=>
    go_region_held3 (λ w'=>w'.cell? ⟨o,0,none⟩=some (.slice (some ⟨gr,0,none⟩) rs.length cr)/\w'.cell? ⟨g9,i*10+8,none⟩=some (.int .i64 (x:Nat))/\w'.cell? ⟨gr,x*6,none⟩=some (.string RX.R.head.pred)/\w'.cell? ⟨gr,x*6+1,none⟩=some (.slice ah RX.R.head.ae.length ch)/\w'.cell? ⟨gr,x*6+2,none⟩=some (.bool RX.R.head.no)/\w'.cell? ⟨gr,x*6+3,none⟩=some (.int .i64 RX.R.head.at_)/\w'.cell? ⟨gr,x*6+4,none⟩=some (.int .i64 RX.R.head.ak)/\w'.cell? ⟨gr,x*6+5,none⟩=some (.slice ab RX.bs.length cb)) (go_keep) (fail)
    all_goals
     go_wp2_with fail;go_meet
     case rel=>first | exact⟨_,rfl,heap_alloc_new _ _,B9.drew.alloc L9 _⟩ | exact⟨_,rfl,heap_alloc_new _ _,(B9.alloc L9 _).drew⟩
   case rest=>
    generalize wc=wA at *;obtain⟨b,rfl,cW,lA⟩:=hcut;clear p0 p1 p2 p3 p4 p5 Ef x8;have oP:Below w.heap.size w wA:=(zA HB).trans (lA.mono (zA HB).size);have Fw:=(zA HP).kept ((zN.refl [] _).ai oP) (by simp);have UJ:=(zA HT).kept ((zN.refl [] _).ai oP);have Cb:=(zA rB).kept ((zN.refl [] _).ai oP) (by simp);have MW:=zC Fw;have O7:=zC UJ;have OX:=zC Cb;have oU:=zC cW;have oL:=zC oP;have JF:=zC ((zA HF).below oP);have Vr:=zC ((zA HE).below oP);clear oP Fw UJ Cb cW lA;go_wp2_with fail;refine z9u wA o rs ps _ pv tv gs S (zA MW) (zA O7) K fs _ c9 (zA JF) xs C7 eQ (zA Vr) i Mj b RX.R ah ab ch cb RX.bs (zA OX) (zA oU) h3 (zA HH).1 (zA HH).2 ?_ ?_
    ·intro w2;intros;rename_i lf cd;have uP:=zC ((zA oL).trans (lf.mono (zA oL).size));have gK:=zC cd;clear lf cd;go_wp2_with fail;go_roundg (fs.length-(i+1))
     case measure=>omega
     case rel=>
      refine⟨rfl,rfl,i+1,by go_num,by omega,rfl,zA uP,λ i' f E R AG h1 h2 Km=>?_⟩
      by_cases AH:i'=i
      ·subst AH;rw[zA SZ] at h2;obtain rfl:=Option.some.inj h2;rw[zA MX f h1] at Km;obtain rfl:=Option.some.inj Km;exact zA gK
      ·exact zA cY i' f E R (by omega) h1 h2 Km
    ·intro w2;intros;rename_i lf hbad;have uP:=zC ((zA oL).trans (lf.mono (zA oL).size))
     have rS:=zC (show ¬ zuy (rs.map (·.R)) ps S K (fs.map (·.F)) (xs.map (·.e)) from λ hd=>by
      obtain⟨a,ha,hn,lJ⟩:=hbad;obtain⟨f,hf⟩:=zA oK
      exact lJ (hd i f _ _ hf (zA SZ) (zA MX f hf) a ha hn))
     clear lf hbad;go_wp2_with fail;apply zA HY
     ·exact zA uP
     ·exact zA rS
  ·have rF:¬ ((i:Int)<fs.length):=by omega
   have A4:=zC (show zuy (rs.map (·.R)) ps S K (fs.map (·.F)) (xs.map (·.e)) from λ i' f E R h1 h2 Km=>by
    have:=(List.getElem?_eq_some_iff.1 h1).1;rw[List.length_map] at this
    exact aL i' f E R (by omega) h1 h2 Km)
   clear hB aL;go_wp2_with fail;apply zA HX
   ·exact zA HB
   ·exact zA A4
end
section
open Go.RowKit
structure z8y (w:W8)(o:Nat)(rs:List RR)(ps:P9)(rv pv tv:Value)(gs:Nat)(S:Nat->Nat)(G:zQ->Prop)(bs:List Nat):Prop where
 nd:yab w o rs ps rv pv tv gs S G
 str:∀ i,i<ps.length->S i<=1000000
 len:bs.length<=1000000000
 DW:∀ n l es,xM (rs.map (·.R)) (zdz ps S) bs n 2 [] []=some (l,es,bs.length)->(∀ f∈l,f.r<rs.length)/\∀ (i:Nat) (f:zQ) (E:Env) (r:RR),l[i]?=some f->es[i]?=some E->rs[f.r]?=some r->∀ a∈r.R.body,a.no=true->(xS (bf E a)).length<=1000000000/\0<=zM ps a.pred
 ways:∀ n l es,xM (rs.map (·.R)) (zdz ps S) bs n 2 [] []=some (l,es,bs.length)->∀ r∈rs,∀ x∈zis l r.R.body [([],[])],∀ a∈r.R.head::r.R.body,(xS (bf x.1 a)).length<=1000000000
def z8z (w:W8)(rs:List zP)(ps:P9)(S:Nat->Nat)(bs:List Nat)(e:Ending)(w':W8):Prop:=
 Below w.heap.size w w'/\((∃ (fs:List FG) (a:O8) (c:Nat),zd5 rs ps S bs (fs.map (·.F))/\fs.length<=50/\e=.returned (.tuple #[.slice a fs.length c,.bool true])/\yW w' 0 (.slice a fs.length c) fs)\/((∀ l,¬ zd5 rs ps S bs l)/\e=.returned (.tuple #[.slice none 0 0,.bool false])))
theorem zwm (w:W8)(o:Nat)(rs:List RR)(ps:P9)(rv pv tv:Value)(gs:Nat)(S:Nat->Nat)(G:zQ->Prop)(a:O8)(c:Nat)(bs:List Nat)(hb:nJ w a c bs)(hC:z8y w o rs ps rv pv tv gs S G bs):
  Calls Tryz.prog 132 #[.pointer (some ⟨o,0,none⟩),.slice a bs.length c] w (z8z w (rs.map (·.R)) ps S bs):=by
 match bs,hb,hC with
 | [],hb,hC=>
  clear hb hC;go_enter Tryz.func132,Tryz.ntmps132;go_wp2_with fail
  go_ret2
  exact⟨Below.refl _ _,.inr ⟨λ l h=>by obtain⟨k,n,es,h1,_⟩:=h;simp at h1,rfl⟩⟩
 | [y],hb,hC=>
  clear hb hC;go_enter Tryz.func132,Tryz.ntmps132;go_wp2_with fail
  go_ret2
  exact⟨Below.refl _ _,.inr ⟨λ l h=>by obtain⟨k,n,es,h1,h2,_⟩:=h;simp at h2,rfl⟩⟩
 | k::n::rest,hb,hC=>
  obtain⟨g,oo,rfl,hg,hc⟩:=hb.at_ (by simp);have Fk:=hb.byte k List.mem_cons_self;have LJ:=hb.byte n (List.mem_cons_of_mem _ List.mem_cons_self);have c0:=hc 0 (by simp);have c1:=hc 1 (by simp);simp only[List.getElem_cons_zero,List.getElem_cons_succ,Nat.add_zero] at c0 c1;have pe:=hb.cap;have re:=hb.max;unfold maxLen at re;have hlen:(k::n::rest).length=rest.length+1+1:=rfl;have HB:=zC hb;have HC:=zC hC;have WT:(2:Int)<=((rest.length:Int)+1+1):=by omega
  have WU:¬ ((rest.length:Int)+1+1<2):=by omega
  clear hb hC hc
  by_cases hn:n<=50
  ·have AK:¬ ((50:Int)<n):=(by omega);generalize Ks:k::n::rest=bs at *;have sR:bs[0]?=some k:=(by rw[<-Ks];rfl);have aM:bs[1]?=some n:=(by rw[<-Ks];rfl);have aH:2<=bs.length:=(by rw[<-Ks];simp);have lh:=zC (And.intro sR aM);have yd:¬ (bs.length<2):=(by omega);have sj:decide (bs.length<2)=false:=(by simp;omega);have nR:decide ((bs.length:Int)<2)=false:=(by simp;omega);clear Ks sR aM hlen WT WU;go_enter Tryz.func132,Tryz.ntmps132;go_wp2_with fail;refine z9s w o rs ps rv pv tv gs S (zA HC).nd.prog (zA HC).nd.jf (zA HC).str ?_;intro w2;intros;rename_i lL;subst lL;have za:=zC (z0g w2 o rs ps rv pv tv gs S G (zA HC).nd g oo c bs (zA HB) n aH (zA HC).len (zA lh).2 hn);have QJ:qk S ps.length<=1000001:=znq _ (λ i hi=>by have:=(zA HC).str i hi;omega);go_upto_region 10 with (go_at_call 191;refine (zA za).mono ?_;rintro e w3 ⟨eG,h3⟩;have kZ:=zC eG;clear eG;rcases h3 with⟨hT,rfl⟩ | ⟨fs,xs,i,a7,a8,c7,c8,hT,rfl,hF,hE,hG,lG,nU⟩ <;> (try (have xi:=zC (And.intro lG nU);clear lG nU)))
   ·have lz:=zC (show ∀ l,¬ zd5 (rs.map (·.R)) ps S bs l from λ l h=>by
     obtain⟨k',n',es,h1,h2,h3,h4,_⟩:=h;rw[(zA lh).2] at h2;obtain rfl:=Option.some.inj h2;rw[hT] at h4
     cases h4)
    clear hT;go_wp2_with fail
    go_ret2
    exact⟨zA kZ,.inr ⟨zA lz,rfl⟩⟩
   ·have HT:=zC hT
    by_cases AH:i=bs.length/\k<=qk S ps.length
    ·obtain⟨rfl,nQ⟩:=AH;have K8:decide (bs.length=bs.length)=true:=(by simp);rw[K8];have XS:decide (qk S ps.length<k)=false:=(by simp;omega);have nC:¬ ((qk S ps.length:Int)<k):=(by omega);obtain⟨La,aT⟩:=(zA HC).DW n _ _ hT;have rL:=(zA HC).ways n _ _ hT;have dh:=zA kZ;have rH:=(zA HC).nd.prog.kept ((zN.refl [] _).ai dh) (by simp);have yl:=(zA HC).nd.jf.kept ((zN.refl [] _).ai dh);have zq:fs.length<=50:=(by have:=(zA xi).1;omega);have Mi:xs.length=fs.length:=(by rw[(zA xi).1,(zA xi).2]);have sN:=zC rH;have MZ:=zC yl;have HF:=zC (yW.low hF (Nat.zero_le _));have HE:=zC (show FV w3 0 (.slice a8 xs.length c8) xs from ⟨zF hE.row (Nat.zero_le _),λ x hx=>⟨zF (hE.each x hx).ns (Nat.zero_le _),zF (hE.each x hx).ts (Nat.zero_le _),(hE.each x hx).nil⟩⟩);have Oq:=zC (show ∀ f∈fs,f.F.r<rs.length from λ f hf=>La f.F (List.mem_map_of_mem hf));have lN:=zC (show ∀ (i:Nat) (hi:i<fs.length) (hx:i<xs.length) (r:RR),rs[fs[i].F.r]?=some r->∀ a∈r.R.body,a.no=true->(xS (bf xs[i].e a)).length<=1000000000/\0<=zM ps a.pred from λ i hi hx r hr=>aT i fs[i].F xs[i].e r (by rw[List.getElem?_map,List.getElem?_eq_getElem hi];rfl) (by rw[List.getElem?_map,List.getElem?_eq_getElem hx];rfl) hr);have J6:=zC rL;have Gh:=zC Mi;clear hT hF hE hG La aT rL dh rH yl Mi za;go_wp2_with fail;refine z9t w3 o rs ps rv pv tv gs S (zA sN) (zA MZ) k fs a7 c7 (zA HF) xs a8 c8 (zA HE) zq (zA Gh) (zA HC).nd.body (λ r hr a ha=>(zA HC).nd.ae r hr a (List.mem_cons_of_mem _ ha)) (zA Oq) (zA lN) ?_ ?_
     ·intro w4;intros;rename_i cM hdeny;have Dg:=(zA sN).kept ((zN.refl [] _).ai cM) (by simp);have FD:=(zA MZ).kept ((zN.refl [] _).ai cM);have DH:=zC (show z8w w4 o rs ps rv pv tv gs S 0 fs (.slice a7 fs.length c7) from ⟨Dg,FD,(zA HF).below cM,zq,(zA HC).nd.body,(zA HC).nd.ae,(zA HC).nd.Ev,λ r hr x hx a ha=>zA J6 r hr x hx a ha⟩);have EJ:=zC hdeny;have ki:=zC cM;clear Dg FD hdeny cM;go_wp2_with fail;refine z9v w4 o rs ps rv pv tv gs S k fs a7 c7 (zA DH) ?_ ?_
      ·intro w5;intros;rename_i eH hclos;have uK:=zC ((zA kZ).trans (((zA ki).trans (eH.mono (zA ki).size)).mono (zA kZ).size));have C4:=zC (show zd5 (rs.map (·.R)) ps S bs (fs.map (·.F)) from ⟨k,n,xs.map (·.e),(zA lh).1,(zA lh).2,hn,zA HT,nQ,zA EJ,hclos⟩);have OA:=zC (((zA HF).below (zA ki)).below eH);clear eH hclos;go_wp2_with fail
       go_ret2
       exact⟨zA uK,.inl ⟨fs,a7,c7,zA C4,zq,rfl,zA OA⟩⟩
      ·intro w5;intros;rename_i eH hclos;have uK:=zC ((zA kZ).trans (((zA ki).trans (eH.mono (zA ki).size)).mono (zA kZ).size))
       have lz:=zC (show ∀ l,¬ zd5 (rs.map (·.R)) ps S bs l from λ l h=>by
        obtain⟨k',n',es,h1,h2,h3,h4,h5,h6,h7⟩:=h;rw[(zA lh).1] at h1;rw[(zA lh).2] at h2;obtain rfl:=Option.some.inj h1;obtain rfl:=Option.some.inj h2;rw[zA HT] at h4;have h8:=Option.some.inj h4;injection h8 with h8 h9
        rw[<-h8] at h7
        exact hclos h7)
       clear eH hclos
       go_ret2
       exact⟨zA uK,.inr ⟨zA lz,rfl⟩⟩
     ·intro w4;intros;rename_i cM hdeny;have ki:=zC ((zA kZ).trans (cM.mono (zA kZ).size))
      have lz:=zC (show ∀ l,¬ zd5 (rs.map (·.R)) ps S bs l from λ l h=>by
       obtain⟨k',n',es,h1,h2,h3,h4,h5,h6,h7⟩:=h;rw[(zA lh).1] at h1;rw[(zA lh).2] at h2;obtain rfl:=Option.some.inj h1;obtain rfl:=Option.some.inj h2;rw[zA HT] at h4;have h8:=Option.some.inj h4;injection h8 with h8 h9
       injection h9 with h9 _
       rw[<-h8,<-h9] at h6
       exact hdeny h6)
      clear cM hdeny
      go_ret2
      exact⟨zA ki,.inr ⟨zA lz,rfl⟩⟩
    ·have lz:=zC (show ∀ l,¬ zd5 (rs.map (·.R)) ps S bs l from λ l h=>by
      obtain⟨k',n',es,h1,h2,h3,h4,h5,_⟩:=h;rw[(zA lh).1] at h1;rw[(zA lh).2] at h2;obtain rfl:=Option.some.inj h1;obtain rfl:=Option.some.inj h2;rw[hT] at h4;have h8:=Option.some.inj h4;injection h8 with h8 h9
      injection h9 with h9 Px
      exact AH ⟨Px,h5⟩)
     clear hT hF hE hG za
     by_cases lI:i=bs.length
     ·have K8:decide (i=bs.length)=true:=(by simp;exact lI);rw[K8];have XS:decide (qk S ps.length<k)=true:=(by simp;have:=λ h=>AH ⟨lI,h⟩;omega);have nC:(qk S ps.length:Int)<k:=(by have:=λ h=>AH ⟨lI,h⟩;omega);go_wp2_with fail
      go_ret2
      exact⟨zA kZ,.inr ⟨zA lz,rfl⟩⟩
     ·have K8:decide (i=bs.length)=false:=(by simp;exact lI);rw[K8];go_wp2_with fail
      go_ret2
      exact⟨zA kZ,.inr ⟨zA lz,rfl⟩⟩
  ·have AK:(50:Int)<n:=(by omega);rw[hlen];go_enter Tryz.func132,Tryz.ntmps132;go_wp2_with fail
   go_ret2
   exact⟨Below.refl _ _,.inr ⟨λ l h=>by obtain⟨k',n',es,h1,h2,h3,_⟩:=h;simp at h2;omega,rfl⟩⟩
end
section
open Go.RowKit
theorem zjb {l:List zQ}(hl:∀ f∈l,zad f):∀ (b:List zL) (fr:List Nat) (e e':Env),zde e->zaw l b fr e=some e'->zde e'
 | [],_,e,e',he,h=>by
  obtain rfl:=Option.some.inj h;exact he
 | a::r,fr,e,e',he,h=>by
  rw[zda] at h
  split at h
  ·exact zjb hl r fr e e' he h
  ·split at h
   ·cases h
   ·split at h
    ·cases h
    ·rename_i f hf
     split at h
     ·cases h
     ·rename_i e1 h1;exact zjb hl r _ e1 e' (zpq he (hl f (List.mem_of_getElem? hf)) h1) h
theorem zkc {rs:List zP}{ps:P9}{S:Nat->Nat}{b:List Nat}(hr:∀ R∈rs,∀ a∈R.head::R.body,zgo a):∀ (n i:Nat) (l:List zQ) (es:List Env) (l':List zQ) (kj:List Env) (i':Nat),(∀ f∈l,zad f/\f.r<rs.length)->(∀ E∈es,zde E)->xM rs (zdz ps S) b n i l es=some (l',kj,i')->(∀ f∈l',zad f/\f.r<rs.length)/\∀ E∈kj,zde E
 | 0,i,l,es,l',kj,i',hl,he,h=>by
  obtain⟨rfl,rfl,_⟩:l=l'/\es=kj/\_:=by simpa[xM] using h
  exact⟨hl,he⟩
 | n+1,i,l,es,l',kj,i',hl,he,h=>by
  rw[xM] at h
  split at h
  ·cases h
  ·rename_i x hx
   split at h
   ·cases h
   ·rename_i R hR
    split at h
    ·cases h
    ·split at h
     ·cases h
     ·rename_i E hE;have Kw:zde E:=zjb (λ f hf=>(hl f hf).1) _ _ _ _ (λ p hp=>by cases hp) hE
      split at h
      ·refine zkc hr n _ _ _ l' kj i' (λ f hf=>?_) (λ F hF=>?_) h
       ·rcases List.mem_append.1 hf with hf | hf
        ·exact hl f hf
        ·rw[List.mem_singleton.1 hf];exact⟨zt3 Kw (hr R (List.mem_of_getElem? hR) _ List.mem_cons_self),(List.getElem?_eq_some_iff.1 hR).1⟩
       ·rcases List.mem_append.1 hF with hF | hF
        ·exact he F hF
        ·rw[List.mem_singleton.1 hF];exact Kw
      ·cases h
theorem z91 {w:W8}{o:Nat}{rs:List RR}{ps:P9}{rv pv tv:Value}{gs:Nat}{S:Nat->Nat}(hC:AX w o rs ps rv pv tv gs S)(hZ:∀ r∈rs,∀ a∈r.R.body,0<=zM ps a.pred)(hS:∀ i,S i<=1000000){bs:List Nat}(hb:bs.length<=1000000000):z8y w o rs ps rv pv tv gs S zad bs:=by
 have eS:∀ R∈rs.map (·.R),∀ a∈R.head::R.body,zgo a:=λ R hR=>by
  obtain⟨r,hr,rfl⟩:=List.mem_map.1 hR;exact hC.atoms r hr
 refine⟨⟨hC.prog,hC.jf,hC.body,λ r hr a ha=>(hC.atoms r hr a ha).gH,hC.Ev,λ i r l fr E hr hl hE=>?_⟩,λ i _=>hS i,hb,λ n l es h=>?_,λ n l es h r hr x hx a ha=>?_⟩
 ·have hm:=List.mem_of_getElem? hr;have Kw:zde E:=zjb hl _ _ _ _ (λ p hp=>by cases hp) hE;exact⟨znw Kw (hC.atoms r hm _ List.mem_cons_self),zt3 Kw (hC.atoms r hm _ List.mem_cons_self)⟩
 ·obtain⟨h1,h2⟩:=zkc eS n 2 [] [] l es _ (by simp) (by simp) h;refine⟨λ f hf=>by have:=(h1 f hf).2;rwa [List.length_map] at this,λ i f E r _ hE hr a ha hn=>?_⟩;have hm:=List.mem_of_getElem? hr;exact⟨znw (h2 E (List.mem_of_getElem? hE)) (hC.atoms r hm a (List.mem_cons_of_mem _ ha)),hZ r hm a ha⟩
 ·obtain⟨h1,_⟩:=zkc eS n 2 [] [] l es _ (by simp) (by simp) h;exact znw (zog (λ f hf=>(h1 f hf).1) _ x hx) (hC.atoms r hr a ha)
end
end Go.Proofs.YtldkpahaocjdpaaGreat
