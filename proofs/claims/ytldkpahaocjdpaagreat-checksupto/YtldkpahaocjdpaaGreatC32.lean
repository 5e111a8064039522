/-
  The reference's round: the loop over the rules.
-/
import Derived.Test.YtldkpahaocjdpaaGreatC31
set_option maxHeartbeats 16000000
set_option maxRecDepth 1000000
namespace Go.Proofs.YtldkpahaocjdpaaGreat
section
open Go.RowKit
structure z8w (w:W8)(o:Nat)(rs:List RR)(ps:P9)(rv pv tv:Value)(gs:Nat)(S:Nat->Nat)(base:Nat)(fs:List FG)(lv:Value):Prop where
 prog:ziv w o rs ps rv pv tv (.slice (some ⟨gs,0,none⟩) ps.length ps.length)
 jf:nk w gs ps.length S
 facts:yW w base lv fs
 gH:fs.length<=50
 body:∀ r∈rs,r.bs.length<=3
 ae:∀ r∈rs,∀ a∈r.R.head::r.R.body,a.ae.length<=4
 Ev:∀ r∈rs,0<=zM ps r.R.head.pred
 size:∀ r∈rs,∀ x∈zis (fs.map (·.F)) r.R.body [([],[])],∀ a∈r.R.head::r.R.body,(xS (bf x.1 a)).length<=1000000000
theorem zu5 {ps:P9}{S:Nat->Nat}{l:List zQ}{s n:Nat}{rs:List zP}{i:Nat}(h:i<rs.length):za3 ps S l s n (rs.drop i) i=(if S (zM ps rs[i].head.pred).toNat=s then (zdt rs[i] l).map (zcn rs[i] s n i) else [])++za3 ps S l s n (rs.drop (i+1)) (i+1):=by
 rw[List.drop_eq_getElem_cons h];rfl
structure Dl (w:W8)(v:Value)(out:List FG)(wr:W8):Prop where
 below:Below w.heap.size w wr
 out:yW wr w.heap.size v out
variable {v:Value} {w:W8}
theorem Dl.dm {out:List FG}{wr w':W8}(h:Dl w v out wr)(k:Below wr.heap.size wr w'):Dl w v out w':=⟨h.below.trans (k.mono h.below.size),h.out.below k⟩
variable {base base':Nat}
theorem te.low {ws:List WG}(h:te w base v ws)(hb:base'<=base):te w base' v ws:=⟨zF h.row hb,λ x hx=>(h.each x hx).low hb⟩
theorem yW.low {fs:List FG}(h:yW w base v fs)(hb:base'<=base):yW w base' v fs:=⟨zF h.row hb,λ x hx=>(h.each x hx).low hb⟩
theorem j7.low {R:zP}{hv:Value}{bs:List (zL × Value)}{bv:Value}(h:j7 w base R hv bs bv)(hb:base'<=base):j7 w base' R hv bs bv:=⟨zF h.hd hb,zF h.bo hb,λ x hx=>zF (h.bl x hx) hb,h.eq⟩
theorem z9x (w:W8)(o:Nat)(rs:List RR)(ps:P9)(rv pv tv:Value)(gs:Nat)(S:Nat->Nat)(base:Nat)(fs:List FG)(al:O8)(cl:Nat)(hC:z8w w o rs ps rv pv tv gs S base fs (.slice al fs.length cl))(s n:Nat)(w1:W8)(hI:Dl w (.slice none 0 0) [] w1)
  {Q:Exit->Act->W8->Prop} {c4 c5 c6 c7 gM iS fY gG eJ eY fZ eL dU dR dx dy dz dA dB dC dD dE dF dG dL dM dN dO dP dV dW dX ee eg ei eo ep ev dd ew ey ez eA dY dZ eD eE dQ eZ fa fc di fe fg fh fi fj fl fm fo fp fH fI fJ fK fL gd gh gi gj gq gu gv fM fN fq ft fu fO fP fQ fR fU fV fW fX gw gy gz gA gB gC gD cg bq br bt bu bx bz bC bU bV bW bX bD bE bG bH bI bJ bK bL bM bj bk bn bN bO bP bQ aZ aW cH cI cJ cK cL dp dq dr dt du dv dc:Value}
  (aJ:∀ (uG:Value) (bS:List FG) (w2:W8) (rk rl oh tW oj pJ sD Cz CA CC CD CE CF CG CH CI CJ xd u32 tZ ua ub rm rq rr pK pL pM pN pO pP pQ pR pS pT pU ry rz om oq uc ud ue uf ug uh ui uj uk um u64 sE sF sG pV pW pX pY pZ ou ov ow ox oy oz oA qa qb sH sI sJ qc qd qe qf qg qh qi qj oB oC oD oE oF oG oH fF:Value),Dl w uG bS w2->bS.length<=51->vR (fs.map (·.F)) (za3 ps S (fs.map (·.F)) s n (rs.map (·.R)) 0) []=(bS.map (·.F),false)->Q (.exit 0) ⟨List.toArray (.pointer (some ⟨o,0,none⟩)::.slice al fs.length cl::.int .i64 s::.int .i64 n::c4::c5::c6::c7::.slice none 0 0::uG::rk::rl::oh::tW::oj::pJ::eY::fZ::eL::dU::sD::Cz::CA::CC::CD::CE::CF::CG::CH::CI::CJ::xd::u32::tZ::ua::ub::rm::rq::rr::pK::pL::pM::pN::pO::pP::pQ::pR::pS::pT::pU::ry::rz::om::oq::uc::ud::ue::uf::ug::uh::ui::uj::uk::um::u64::sE::sF::sG::pV::pW::pX::pY::pZ::ou::ov::ow::ox::oy::oz::oA::qa::qb::sH::sI::sJ::qc::qd::qe::qf::qg::qh::qi::qj::oB::oC::oD::oE::oF::oG::oH::fF::bq::br::bt::bu::bx::bz::bC::bU::bV::bW::bX::bD::bE::bG::bH::bI::bJ::bK::bL::bM::bj::bk::bn::bN::bO::bP::bQ::aZ::aW::cH::cI::cJ::cK::cL::dp::dq::dr::dt::du::dv::dc::[]),[]⟩ w2)
  (gE:∀ (uG:Value) (bS:List FG) (w2:W8) (rk rl oh tW oj pJ sD Cz CA CC CD CE CF CG CH CI CJ xd u32 tZ ua ub rm rq rr pK pL pM pN pO pP pQ pR pS pT pU ry rz om oq uc ud ue uf ug uh ui uj uk um u64 sE sF sG pV pW pX pY pZ ou ov ow ox oy oz oA qa qb sH sI sJ qc qd qe qf qg qh qi qj oB oC oD oE oF oG oH fF:Value),Dl w uG bS w2->bS.length<=51->vR (fs.map (·.F)) (za3 ps S (fs.map (·.F)) s n (rs.map (·.R)) 0) []=(bS.map (·.F),true)->Q .ret ⟨List.toArray (.pointer (some ⟨o,0,none⟩)::.slice al fs.length cl::.int .i64 s::.int .i64 n::c4::c5::c6::c7::uG::uG::rk::rl::oh::tW::oj::pJ::eY::fZ::eL::dU::sD::Cz::CA::CC::CD::CE::CF::CG::CH::CI::CJ::xd::u32::tZ::ua::ub::rm::rq::rr::pK::pL::pM::pN::pO::pP::pQ::pR::pS::pT::pU::ry::rz::om::oq::uc::ud::ue::uf::ug::uh::ui::uj::uk::um::u64::sE::sF::sG::pV::pW::pX::pY::pZ::ou::ov::ow::ox::oy::oz::oA::qa::qb::sH::sI::sJ::qc::qd::qe::qf::qg::qh::qi::qj::oB::oC::oD::oE::oF::oG::oH::fF::bq::br::bt::bu::bx::bz::bC::bU::bV::bW::bX::bD::bE::bG::bH::bI::bJ::bK::bL::bM::bj::bk::bn::bN::bO::bP::bQ::aZ::aW::cH::cI::cJ::cK::cL::dp::dq::dr::dt::du::dv::dc::[]),[]⟩ w2):
  Code.wp Tryz.prog (Code.loop (zub 0)) Q ⟨List.toArray (.pointer (some ⟨o,0,none⟩)::.slice al fs.length cl::.int .i64 s::.int .i64 n::c4::c5::c6::c7::.slice none 0 0::.slice none 0 0::.int .i64 (0:Nat)::gM::iS::fY::gG::eJ::eY::fZ::eL::dU::dR::dx::dy::dz::dA::dB::dC::dD::dE::dF::dG::dL::dM::dN::dO::dP::dV::dW::dX::ee::eg::ei::eo::ep::ev::dd::ew::ey::ez::eA::dY::dZ::eD::eE::dQ::eZ::fa::fc::di::fe::fg::fh::fi::fj::fl::fm::fo::fp::fH::fI::fJ::fK::fL::gd::gh::gi::gj::gq::gu::gv::fM::fN::fq::ft::fu::fO::fP::fQ::fR::fU::fV::fW::fX::gw::gy::gz::gA::gB::gC::gD::cg::bq::br::bt::bu::bx::bz::bC::bU::bV::bW::bX::bD::bE::bG::bH::bI::bJ::bK::bL::bM::bj::bk::bn::bN::bO::bP::bQ::aZ::aW::cH::cI::cJ::cK::cL::dp::dq::dr::dt::du::dv::dc::[]),[]⟩ w1:=by
 conv=>arg 2;arg 1;whnf
 obtain⟨ar,cr,rfl⟩:=zD hC.prog.rules;have oQ:=yN hC.prog.rules;unfold maxLen at oQ;have HC:=zC hC;have HI:=zC hI;have HX:=zC aJ;have HY:=zC gE;clear hC hI aJ gE;generalize AB:vR (fs.map (·.F)) (za3 ps S (fs.map (·.F)) s n (rs.map (·.R)) 0) []=T at HX HY;have Bb:=zC AB;clear AB
 go_loopg [8,9,10] rs.length (λ gg v8 v ii wr=>v8=.slice none 0 0/\∃ (i:Nat) (bS:List FG),i<=rs.length/\gg=rs.length-i/\ii=.int .i64 i/\Dl w v bS wr/\bS.length<=51/\vR (fs.map (·.F)) (za3 ps S (fs.map (·.F)) s n ((rs.map (·.R)).drop i) i) (bS.map (·.F))=T)
 exact⟨rfl,0,[],Nat.zero_le _,rfl,rfl,zA HI,by simp,zA Bb⟩
 case round=>
  clear HI Bb;obtain⟨rfl,i,bS,hi,IV,rfl,hI,AL,ax⟩:=hrel;obtain⟨a9,c9,rfl⟩:=zD hI.out.row;have hC:=zA HC;have aO:=hC.prog.kept ((zN.refl [] _).ai hI.below) (by simp);have Ef:=aO.c0;have sl:=aO.lt;have HI:=zC hI
  by_cases jb:i<rs.length
  ·have rF:(i:Int)<rs.length:=(by omega);have aP:=zu5 (ps:=ps) (S:=S) (l:=fs.map (·.F)) (s:=s) (n:=n) (rs:=rs.map (·.R)) (i:=i) (by simpa using jb);simp only[List.getElem_map] at aP;rw[aP] at ax;have HF:=zC ax;obtain⟨gr,Na,rh,GH,bR,NC,Nz,p0,p1,p2,p3,p4,p5⟩:=x7 aO.rules i jb;injection rh with q1 q2 q3
   subst q1 q3;have bY:=List.getElem_mem jb;have dk:=aO.each _ bY;obtain⟨ah,ch,e1⟩:=zD dk.hd;obtain⟨ab,cb,e2⟩:=zD dk.bo;have Es:=hI.below.size;rw[e1] at p1;rw[e2] at p5;have kr:=zC bY;have HE:=zC (And.intro e1 e2);clear hC aO hI aP ax dk e1 e2 bY;go_upto_region 5 with fail
   go_cut [11] from 20 to 100 (λ p wc=>p=.pointer (some ⟨wr.heap.size,0,none⟩)/\wc.heap[wr.heap.size]?=some (.cells #[.string rs[i].R.head.pred,.slice ah rs[i].R.head.ae.length ch,.bool rs[i].R.head.no,.int .i64 rs[i].R.head.at_,.int .i64 rs[i].R.head.ak,.slice ab rs[i].bs.length cb] 246 (0,0))/\Below wr.heap.size wr wc)
   case first=>
    go_wp2_with fail;go_meet
    case rel=>exact⟨rfl,heap_alloc_new wr _,B9.alloc L9 _⟩
   case rest=>
    generalize wc=wA at *;obtain⟨rfl,cW,lA⟩:=hcut;have dj:=(zA HI).dm lA;have hC:=zA HC;have aO:=hC.prog.kept ((zN.refl [] _).ai dj.below) (by simp);have ik:=hC.jf.kept ((zN.refl [] _).ai dj.below);obtain⟨r0,-⟩:=zB cW 0;simp only[List.getElem?_toArray,List.getElem?_cons_zero] at r0;have eK:=(Array.getElem?_eq_some_iff.1 cW).1;have c3:=aO.c3;have Yn:=aO.lt;have ln:=hC.Ev _ (zA kr);have ve:=xN ln;obtain⟨ix,hZ⟩:∃ ix:Nat,zM ps rs[i].R.head.pred=(ix:Int):=⟨_,(Int.toNat_of_nonneg ln).symm⟩;have lW:ix<ps.length:=(by omega);have t1:=ik.cell ix lW;have zv:=ik.sz;have Ab:∀ W,Below wA.heap.size wA W->Calls Tryz.prog 135 #[.pointer (some ⟨o,0,none⟩),.string rs[i].R.head.pred] W λ e w'=>e=.returned (.int .i64 (ix:Nat))/\w'=W:=λ W hW=>by
     have:=qJ W o rs ps _ _ _ _ rs[i].R.head.pred (aO.kept ((zN.refl [] _).ai hW) (by simp));rw[hZ] at this;exact this
    have ir:=zC Ab;have MS:=zC hZ;have iR:=zC dj;have oU:=zC cW;have tq:=zC lA;have BN:(ix:Int)<ps.length:=(by omega);have tJ:(0:Int)<=ix:=(by omega);have kX:ps.length<=maxLen:=yN aO.fC;clear dj hC aO ik Ab hZ cW lA ln ve HI p0 p1 p2 p3 p4 p5 Ef;go_upto_region 6 with fail
    go_cut [48] from 20 to 100 (λ u wc=>u=.bool ((S ix:Int) != (s:Int))/\Below wA.heap.size wA wc)
    case first=>
     go_region_held3 (λ w'=>w'.cell? ⟨o,3,none⟩=some (.slice (some ⟨gs,0,none⟩) ps.length ps.length)/\w'.cell? ⟨wr.heap.size,0,none⟩=some (.string rs[i].R.head.pred)/\w'.cell? ⟨gs,ix,none⟩=some (.int .i64 (S ix))) (go_keep) ((go_at_call 135;refine (zA ir _ (by exact B9.drew)).mono ?_;rintro e w2 ⟨rfl,rfl⟩))
     all_goals
      go_wp2_with fail;go_meet
      case rel=>exact⟨rfl,B9.drew⟩
    case rest=>
     generalize wc=wB at *;obtain⟨rfl,nL⟩:=hcut;have iV:=(zA iR).dm nL;have mO:=(nL.block _ eK).trans (zA oU);have GZ:wr.heap.size<wB.heap.size:=(by have:=nL.size;omega);have lj:=zC iV
     cases eI:((S ix:Int) != (s:Int)) with
     | true=>
      have LP:¬ S ix=s:=by simp at eI;omega
      have aQ:=zC (show vR (fs.map (·.F)) (za3 ps S (fs.map (·.F)) s n ((rs.map (·.R)).drop (i+1)) (i+1)) (bS.map (·.F))=T by
       have:=zA HF;rw[zA MS,Int.toNat_natCast,if_neg LP] at this
       simpa using this)
      clear iV mO HF ir iR oU tq nL eI LP r0 c3 t1;go_wp2_with fail;go_roundg (rs.length-(i+1));exact⟨rfl,i+1,bS,by omega,rfl,by go_num,zA lj,AL,zA aQ⟩;omega
     | false=>
      have LP:S ix=s:=(by simp at eI;omega);have IK:vR (fs.map (·.F)) ((zdt rs[i].R (fs.map (·.F))).map (zcn rs[i].R s n i)++za3 ps S (fs.map (·.F)) s n ((rs.map (·.R)).drop (i+1)) (i+1)) (bS.map (·.F))=T:=by
       have:=zA HF;rw[zA MS,Int.toNat_natCast,if_pos LP] at this;exact this
      have aQ:=zC IK;have hC:=zA HC;obtain⟨e1,e2⟩:=zA HE;have Rc:=(hC.prog.each _ (zA kr)).low (Nat.zero_le _);have ni:=(Rc.kept ((zN.refl [] _).ai iV.below) (by simp));rw[e1,e2] at ni;have tF:z2l wB 0 rs[i].R (.slice ah rs[i].R.head.ae.length ch) rs[i].bs (.slice ab rs[i].bs.length cb) fs (.slice al fs.length cl):=⟨ni,(hC.facts.below iV.below).low (Nat.zero_le _),hC.gH,hC.body _ (zA kr),λ a ha=>hC.ae _ (zA kr) a (List.mem_cons_of_mem _ ha)⟩;have yn:=zuu wB 0 rs[i].R _ rs[i].bs _ fs al cl tF (λ x hx a ha=>hC.size _ (zA kr) x hx a (List.mem_cons_of_mem _ ha));unfold jU at yn;have M6:=zC yn;obtain⟨m0,-⟩:=zB mO 0;obtain⟨m1,-⟩:=zB mO 1;obtain⟨m2,-⟩:=zB mO 2;obtain⟨m3,-⟩:=zB mO 3;obtain⟨m4,-⟩:=zB mO 4;obtain⟨m5,-⟩:=zB mO 5;have rE:=Rc.hd;rw[e1] at rE;have Ga:=zC rE;have JB:=zC mO;clear iV mO HF ir iR oU tq nL eI LP r0 c3 t1 IK hC e1 e2 Rc ni tF yn rE;go_wp2_with fail;refine (zA M6).mono ?_;rintro e wC ⟨vw,ws,rfl,AO,Jb,cE,sY,IJ⟩;obtain⟨aw,cw,rfl⟩:=zD AO.row;have AA:=(zA lj).dm IJ;have C9:yw w wr.heap.size rs[i].R (.slice ah rs[i].R.head.ae.length ch) (.slice ab rs[i].bs.length cb) (.slice aw ws.length cw) ws (.slice a9 bS.length c9) bS wC:=⟨AA.below,Es,(IJ.block _ GZ).trans (zA JB),AO.low (by have:=(zA lj).below.size;omega),AA.out⟩;have rU:=zC C9;have EW:=zC Jb;have EU:=zC cE;have hC:=zA HC;have aT:∀ x∈ws,(xS (bf x.e rs[i].R.head)).length<=1000000000:=λ x hx=>by
       have h1:x.W∈zdt rs[i].R (fs.map (·.F)):=(by rw[<-Jb];exact List.mem_map_of_mem hx);exact hC.size _ (zA kr) x.W (List.mem_filter.1 h1).1 _ List.mem_cons_self
      have lN:=zC aT;have JF:=zC (hC.facts.low (Nat.zero_le base));have kU:=hC.gH;have h4:=hC.ae _ (zA kr) _ List.mem_cons_self;clear hC aT C9 AA AO Jb cE IJ M6 m0 m1 m2 m3 m4 m5 JB lj;go_wp2_with fail;refine z9y w 0 wr.heap.size rs[i].R _ _ fs al cl (zA JF) kU ws aw cw sY (λ x hx=>(zA EU x hx).2) (zA Ga) h4 (zA lN) s n i _ _ bS AL rfl wC (zA rU) ?_ ?_
      ·intro v9 vx w9;intros;rename_i E5 Nw hT9;obtain⟨Ww,WL,rfl⟩:=zD E5.out.row;have OF:=zC (show Dl w (.slice Ww vx.length WL) vx w9 from ⟨E5.below,E5.out⟩)
       have O6:=zC (show vR (fs.map (·.F)) (za3 ps S (fs.map (·.F)) s n ((rs.map (·.R)).drop (i+1)) (i+1)) (vx.map (·.F))=T by
        rw[zA EW] at hT9
        rw[<-zA aQ,zuk _ _ _ (by rw[hT9]),hT9])
       clear E5 hT9 aQ EW EU lN JF rU;go_wp2_with fail;go_roundg (rs.length-(i+1));exact⟨rfl,i+1,vx,by omega,rfl,by go_num,zA OF,Nw,zA O6⟩;omega
      ·intro v9 vx w9;intros;rename_i E5 Nw hT9;have OF:=zC (show Dl w v9 vx w9 from ⟨E5.below,E5.out⟩)
       have O6:=zC (show T=(vx.map (·.F),true) by
        rw[zA EW] at hT9
        rw[<-zA aQ,zl9 _ _ _ (by rw[hT9]),hT9])
       clear E5 hT9 aQ EW EU lN JF rU;go_wp2_with fail;apply zA HY
       ·exact zA OF
       ·exact Nw
       ·exact zA O6
  ·have HE:=zC (show T=(bS.map (·.F),false) by rw[<-ax,List.drop_of_length_le (by simp;omega)];rfl);clear hI ax hC aO;go_wp2_with fail;apply zA HX
   ·exact zA HI
   ·exact AL
   ·exact zA HE
end
section
open Go.RowKit
variable {a b:zQ}
theorem zjr:jN a b=true↔a.s<b.s\/(a.s=b.s/\(a.h<b.h\/(a.h=b.h/\zb5 a.text b.text=true))):=by
 unfold jN
 by_cases h1:a.s=b.s
 ·by_cases h2:a.h=b.h
  ·simp[h1,h2]
  ·simp[h1,h2]
 ·simp[h1]
theorem zre (h:jN a b=true):jN b a=false:=by
 cases h2:jN b a with
 | false=>rfl
 | true=>
  rw[zjr] at h h2;rcases h with h | ⟨h,h' | ⟨h',h3⟩⟩ <;> rcases h2 with g | ⟨g,g' | ⟨g',g3⟩⟩ <;> first | omega | (rw[zvz h3] at g3;cases g3)
theorem zox {c:zQ}(h1:jN a b=false)(h2:jN b c=false):jN a c=false:=by
 cases h3:jN a c with
 | false=>rfl
 | true=>
  rw[<-Bool.not_eq_true,zjr] at h1 h2;rw[zjr] at h3
  cases l1:zb5 a.text b.text with
  | true=>
   rw[l1] at h1
   cases l2:zb5 b.text c.text with
   | true=>rw[l2] at h2;simp only[and_true] at h1 h2;omega
   | false=>
    rw[l2] at h2;simp only[and_true,Bool.false_eq_true,and_false,or_false] at h1 h2;rcases h3 with g | ⟨g,g' | ⟨g',_⟩⟩ <;> omega
  | false=>
   rw[l1] at h1
   cases l2:zb5 b.text c.text with
   | true=>
    rw[l2] at h2;simp only[and_true,Bool.false_eq_true,and_false,or_false] at h1 h2;rcases h3 with g | ⟨g,g' | ⟨g',_⟩⟩ <;> omega
   | false=>
    rw[l2] at h2;have:=zpj l1 l2;rw[this] at h3;simp only[Bool.false_eq_true,and_false,or_false] at h1 h2 h3;omega
def zcy (zs:List FG):Prop:=zs.Pairwise λ x y=>jN y.F x.F=false
structure Jj (A:List FG)(x:FG)(B:List FG):Prop where
 U7:zcy (A++B)
 up:∀ b∈B,jN x.F b.F=true
variable {x:FG} {A B:List FG}
theorem Jj.down {a:FG}(h:Jj (A++[a]) x B)(hl:jN x.F a.F=true):Jj A x (a::B):=
 ⟨by have:=h.U7;simpa using this,λ b hb=>by rcases List.mem_cons.1 hb with rfl | hb;exact hl;exact h.up b hb⟩
theorem Jj.done (h:Jj A x B)(hl:∀ A' a,A=A'++[a]->jN x.F a.F=false):zcy (A++x::B):=by
 have hr:=h.U7;unfold zcy at hr ⊢;rw[List.pairwise_append] at hr ⊢;obtain⟨hA,hB,WY⟩:=hr;refine⟨hA,List.pairwise_cons.2 ⟨λ b hb=>zre (h.up b hb),hB⟩,λ a ha y hy=>?_⟩;rcases List.mem_cons.1 hy with rfl | hy
 ·rcases List.eq_nil_or_concat A with e | ⟨A',a',e⟩
  ·subst e;cases ha
  ·rw[List.concat_eq_append] at e;have h0:=hl A' a' e;subst e;rcases List.mem_append.1 ha with ha | ha
   ·have:=(List.pairwise_append.1 hA).2.2 a ha a' (by simp);exact zox h0 this
   ·rw[List.mem_singleton.1 ha];exact h0
 ·exact WY a ha y hy
theorem zvr (zs:List FG):∀ (i:Nat) (x:FG),i<zs.length->((((((((((zs.flatMap FG.cells).set (i*10) (.string x.F.ao.pred)).set (i*10+1) x.tv).set (i*10+2) (.bool x.F.ao.no)).set (i*10+3) (.int .i64 x.F.ao.at_)).set (i*10+4) (.int .i64 x.F.ao.ak)).set (i*10+5) (.string x.F.text)).set (i*10+6) (.int .i64 x.F.s)).set (i*10+7) (.int .i64 x.F.h)).set (i*10+8) (.int .i64 x.F.r)).set (i*10+9) x.fv=(zs.set i x).flatMap FG.cells:=by
 induction zs with
 | nil=>intro i x h;simp at h
 | cons z r ih=>
  intro i x h
  cases i with
  | zero=>simp[FG.cells]
  | succ i=>
   have:=ih i x (by simpa using h);rw[List.set_cons_succ,List.flatMap_cons,List.flatMap_cons,<-this];have e:∀ j,(i+1)*10+j=i*10+j+10:=λ j=>by omega
   have e0:(i+1)*10=i*10+10:=(by omega);rw[e 1,e 2,e 3,e 4,e 5,e 6,e 7,e 8,e 9,e0];simp[FG.cells]
def rj (w:W8)(g k:Nat)(x:FG):W8:=(((((((((w.setCell ⟨g,k*10,none⟩ (.string x.F.ao.pred)).setCell ⟨g,k*10+1,none⟩ x.tv).setCell ⟨g,k*10+2,none⟩ (.bool x.F.ao.no)).setCell ⟨g,k*10+3,none⟩ (.int .i64 x.F.ao.at_)).setCell ⟨g,k*10+4,none⟩ (.int .i64 x.F.ao.ak)).setCell ⟨g,k*10+5,none⟩ (.string x.F.text)).setCell ⟨g,k*10+6,none⟩ (.int .i64 x.F.s)).setCell ⟨g,k*10+7,none⟩ (.int .i64 x.F.h)).setCell ⟨g,k*10+8,none⟩ (.int .i64 x.F.r)).setCell ⟨g,k*10+9,none⟩ x.fv
theorem zhc (B:List Nat){w:W8}{g:Nat}(hb:g∈B)(k:Nat)(x:FG):zN B w (rj w g k x):=by
 have e:∀ {w':W8} (i:Nat) (u:Value),zN B w w'->zN B w (w'.setCell ⟨g,i,none⟩ u):=λ i u k=>k.setCell (p:=⟨g,i,none⟩) (.inl hb) _
 exact e _ _ (e _ _ (e _ _ (e _ _ (e _ _ (e _ _ (e _ _ (e _ _ (e _ _ (e _ _ (zN.refl B w))))))))))
theorem yW.rj {w:W8}{base g cap k:Nat}{fs:List FG}{x:FG}(h:yW w base (.slice (some ⟨g,0,none⟩) fs.length cap) fs)(hk:k<fs.length)(hx:j5 w base x):yW (rj w g k x) base (.slice (some ⟨g,0,none⟩) fs.length cap) (fs.set k x):=by
 have h1:=vT (vT (vT (vT (vT (vT (vT (vT (vT (vT h.row (k*10) (.string x.F.ao.pred)) (k*10+1) x.tv) (k*10+2) (.bool x.F.ao.no)) (k*10+3) (.int .i64 x.F.ao.at_)) (k*10+4) (.int .i64 x.F.ao.ak)) (k*10+5) (.string x.F.text)) (k*10+6) (.int .i64 x.F.s)) (k*10+7) (.int .i64 x.F.h)) (k*10+8) (.int .i64 x.F.r)) (k*10+9) x.fv;rw[zvr _ k x hk] at h1;have kk:zN [g] w (Go.Proofs.YtldkpahaocjdpaaGreat.rj w g k x):=zhc [g] (by simp) k x;have n1:∀ b∈[g],iq w 317 b:=λ b hb=>yP h.row (by decide) b (by simpa[Value.ownBlock] using hb)
 have n2:∀ b∈[g],iq w 3 b:=λ b hb=>yP h.row (by decide) b (by simpa[Value.ownBlock] using hb)
 refine⟨by rw[List.length_set];exact h1,λ y hy=>?_⟩;rcases List.mem_or_eq_of_mem_set hy with hy | rfl
 ·exact (h.each y hy).cq kk n1 n2
 ·exact hx.cq kk n1 n2
end
end Go.Proofs.YtldkpahaocjdpaaGreat
