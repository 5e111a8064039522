/-
  The reference's round: the loop over the rules.
-/
import Derived.Test.YtldkpahaocjdpaaGreatE28
set_option maxHeartbeats 16000000
set_option maxRecDepth 1000000
namespace Go.Proofs.YtldkpahaocjdpaaGreat
section
open Go.RowKit
structure yeg (w:W8)(o:Nat)(rs:List RR)(ps:P9)(rv pv tv:Value)(gs:Nat)(S:Nat->Nat)(base:Nat)(fs:List FG)(lv:Value):Prop where
 prog:zok w o rs ps rv pv tv (.slice (some ⟨gs,0,none⟩) ps.length ps.length)
 og:mR w gs ps.length S
 facts:xB w base lv fs
 eJ:fs.length<=50
 body:∀ r∈rs,r.bs.length<=3
 ae:∀ r∈rs,∀ a∈r.R.head::r.R.body,a.ae.length<=4
 N0:∀ r∈rs,0<=zM ps r.R.head.pred
 size:∀ r∈rs,∀ x∈zip (fs.map (·.F)) r.R.body [([],[])],∀ a∈r.R.head::r.R.body,(jG (eN x.1 a)).length<=1000000000
theorem zzy {ps:P9}{S:Nat->Nat}{l:List zP}{s n:Nat}{rs:List zS}{i:Nat}(h:i<rs.length):j1 ps S l s n (rs.drop i) i=(if S (zM ps rs[i].head.pred).toNat=s then (ze3 rs[i] l).map (zcs rs[i] s n i) else [])++j1 ps S l s n (rs.drop (i+1)) (i+1):=by
 rw[List.drop_eq_getElem_cons h];rfl
structure z51 (w:W8)(v:Value)(out:List FG)(wr:W8):Prop where
 below:Below w.heap.size w wr
 out:xB wr w.heap.size v out
variable {v:Value} {w:W8}
theorem z51.dN {out:List FG}{wr w':W8}(h:z51 w v out wr)(k:Below wr.heap.size wr w'):z51 w v out w':=⟨h.below.trans (k.mono h.below.size),h.out.below k⟩
variable {base base':Nat}
theorem rm.low {ws:List WG}(h:rm w base v ws)(hb:base'<=base):rm w base' v ws:=⟨zG h.row hb,λ x hx=>(h.each x hx).low hb⟩
theorem xB.low {fs:List FG}(h:xB w base v fs)(hb:base'<=base):xB w base' v fs:=⟨zG h.row hb,λ x hx=>(h.each x hx).low hb⟩
theorem nA.low {R:zS}{hv:Value}{bs:List (zL × Value)}{bv:Value}(h:nA w base R hv bs bv)(hb:base'<=base):nA w base' R hv bs bv:=⟨zG h.hd hb,zG h.bo hb,λ x hx=>zG (h.bl x hx) hb,h.eq⟩
theorem yc6 (w:W8)(o:Nat)(rs:List RR)(ps:P9)(rv pv tv:Value)(gs:Nat)(S:Nat->Nat)(base:Nat)(fs:List FG)(al:O8)(cl:Nat)(hC:yeg w o rs ps rv pv tv gs S base fs (.slice al fs.length cl))(s n:Nat)(w1:W8)(hI:z51 w (.slice none 0 0) [] w1)
  {Q:Exit->Act->W8->Prop} {c4 c5 c6 c7 lI gy gV ij gw il gZ fE eH eZ fc eW eT eL eV eX eY eO eR eQ fh fj fo ft fk fJ fL fI fY fQ fO gq fV gu dT gd fM gn fP fN fZ gN gQ fG jv jq jr ee kf jt km kg jw ju ko kc jz jy kq js jx ki kH kL kR kD kI kX kZ kr kz iZ jh iW iV iT iO jm iP jf jl jo iQ jd jb je iY jc ji dq cF cC cx cE cA cD cy cM cU de cL cN cK dg cZ cO da cR dc cJ cG cH cj cW cV cP cX dd cq gR gI gG gO gH gE gM gJ gF gC gK fH:Value}
  (aT:∀ (rY:Value) (bk:List FG) (w2:W8) (rz ri pX CN zr Ap Gp GX Fi G6 GY Gw FD Gq G4 FN FH Cq u32 AG Ao AA tY tw sC rB rG qg qy qw ql rO qb rA rq pV pU qz nP nE vu vy uU vt wL uL wE wq vv wo u64 vq vr uS wH ve uZ wI wm tM tE sK sN tR tP sU tW sS BP BJ yr Al Bs AP BI Am AE Bo An BE BT Bb ym zl zi zw lA:Value),z51 w rY bk w2->bk.length<=51->vB (fs.map (·.F)) (j1 ps S (fs.map (·.F)) s n (rs.map (·.R)) 0) []=(bk.map (·.F),false)->Q (.exit 0) ⟨List.toArray (.pointer (some ⟨o,0,none⟩)::.slice al fs.length cl::.int .i64 s::.int .i64 n::c4::c5::c6::c7::.slice none 0 0::rY::rz::ri::pX::CN::zr::Ap::il::gZ::fE::eH::Gp::GX::Fi::G6::GY::Gw::FD::Gq::G4::FN::FH::Cq::u32::AG::Ao::AA::tY::tw::sC::rB::rG::qg::qy::qw::ql::rO::qb::rA::rq::pV::pU::qz::nP::nE::vu::vy::uU::vt::wL::uL::wE::wq::vv::wo::u64::vq::vr::uS::wH::ve::uZ::wI::wm::tM::tE::sK::sN::tR::tP::sU::tW::sS::BP::BJ::yr::Al::Bs::AP::BI::Am::AE::Bo::An::BE::BT::Bb::ym::zl::zi::zw::lA::cF::cC::cx::cE::cA::cD::cy::cM::cU::de::cL::cN::cK::dg::cZ::cO::da::cR::dc::cJ::cG::cH::cj::cW::cV::cP::cX::dd::cq::gR::gI::gG::gO::gH::gE::gM::gJ::gF::gC::gK::fH::[]),[]⟩ w2)
  (mD:∀ (rY:Value) (bk:List FG) (w2:W8) (rz ri pX CN zr Ap Gp GX Fi G6 GY Gw FD Gq G4 FN FH Cq u32 AG Ao AA tY tw sC rB rG qg qy qw ql rO qb rA rq pV pU qz nP nE vu vy uU vt wL uL wE wq vv wo u64 vq vr uS wH ve uZ wI wm tM tE sK sN tR tP sU tW sS BP BJ yr Al Bs AP BI Am AE Bo An BE BT Bb ym zl zi zw lA:Value),z51 w rY bk w2->bk.length<=51->vB (fs.map (·.F)) (j1 ps S (fs.map (·.F)) s n (rs.map (·.R)) 0) []=(bk.map (·.F),true)->Q .ret ⟨List.toArray (.pointer (some ⟨o,0,none⟩)::.slice al fs.length cl::.int .i64 s::.int .i64 n::c4::c5::c6::c7::rY::rY::rz::ri::pX::CN::zr::Ap::il::gZ::fE::eH::Gp::GX::Fi::G6::GY::Gw::FD::Gq::G4::FN::FH::Cq::u32::AG::Ao::AA::tY::tw::sC::rB::rG::qg::qy::qw::ql::rO::qb::rA::rq::pV::pU::qz::nP::nE::vu::vy::uU::vt::wL::uL::wE::wq::vv::wo::u64::vq::vr::uS::wH::ve::uZ::wI::wm::tM::tE::sK::sN::tR::tP::sU::tW::sS::BP::BJ::yr::Al::Bs::AP::BI::Am::AE::Bo::An::BE::BT::Bb::ym::zl::zi::zw::lA::cF::cC::cx::cE::cA::cD::cy::cM::cU::de::cL::cN::cK::dg::cZ::cO::da::cR::dc::cJ::cG::cH::cj::cW::cV::cP::cX::dd::cq::gR::gI::gG::gO::gH::gE::gM::gJ::gF::gC::gK::fH::[]),[]⟩ w2):
  Code.wp Tryz.prog (Code.loop (zvn 0)) Q ⟨List.toArray (.pointer (some ⟨o,0,none⟩)::.slice al fs.length cl::.int .i64 s::.int .i64 n::c4::c5::c6::c7::.slice none 0 0::.slice none 0 0::.int .i64 (0:Nat)::lI::gy::gV::ij::gw::il::gZ::fE::eH::eZ::fc::eW::eT::eL::eV::eX::eY::eO::eR::eQ::fh::fj::fo::ft::fk::fJ::fL::fI::fY::fQ::fO::gq::fV::gu::dT::gd::fM::gn::fP::fN::fZ::gN::gQ::fG::jv::jq::jr::ee::kf::jt::km::kg::jw::ju::ko::kc::jz::jy::kq::js::jx::ki::kH::kL::kR::kD::kI::kX::kZ::kr::kz::iZ::jh::iW::iV::iT::iO::jm::iP::jf::jl::jo::iQ::jd::jb::je::iY::jc::ji::dq::cF::cC::cx::cE::cA::cD::cy::cM::cU::de::cL::cN::cK::dg::cZ::cO::da::cR::dc::cJ::cG::cH::cj::cW::cV::cP::cX::dd::cq::gR::gI::gG::gO::gH::gE::gM::gJ::gF::gC::gK::fH::[]),[]⟩ w1:=by
 conv=>arg 2;arg 1;whnf
 obtain⟨ar,cr,rfl⟩:=zD hC.prog.rules;have nM:=yU hC.prog.rules;unfold maxLen at nM;have HC:=zC hC;have HI:=zC hI;have HX:=zC aT;have HY:=zC mD;clear hC hI aT mD;generalize Ix:vB (fs.map (·.F)) (j1 ps S (fs.map (·.F)) s n (rs.map (·.R)) 0) []=T at HX HY;have IS:=zC Ix;clear Ix
 go_loopg [8,9,10] rs.length (λ gg v8 v ii wr=>v8=.slice none 0 0/\∃ (i:Nat) (bk:List FG),i<=rs.length/\gg=rs.length-i/\ii=.int .i64 i/\z51 w v bk wr/\bk.length<=51/\vB (fs.map (·.F)) (j1 ps S (fs.map (·.F)) s n ((rs.map (·.R)).drop i) i) (bk.map (·.F))=T)
 exact⟨rfl,0,[],Nat.zero_le _,rfl,rfl,zA HI,by simp,zA IS⟩
 case round=>
  clear HI IS;obtain⟨rfl,i,bk,hi,Ny,rfl,hI,sn,aE⟩:=hrel;obtain⟨a9,c9,rfl⟩:=zD hI.out.row;have hC:=zA HC;have cY:=hC.prog.kept ((zK.refl [] _).ak hI.below) (by simp);have WA:=cY.c0;have YO:=cY.lt;have HI:=zC hI
  by_cases ku:i<rs.length
  ·have Cc:(i:Int)<rs.length:=(by omega);have aO:=zzy (ps:=ps) (S:=S) (l:=fs.map (·.F)) (s:=s) (n:=n) (rs:=rs.map (·.R)) (i:=i) (by simpa using ku);simp only[List.getElem_map] at aO;rw[aO] at aE;have HF:=zC aE;obtain⟨gr,cr',BO,YP,aZ,hnr,Mu,p0,p1,p2,p3,p4,p5⟩:=jC cY.rules i ku;injection BO with q1 q2 q3
   subst q1 q3;have cg:=List.getElem_mem ku;have zh:=cY.each _ cg;obtain⟨ah,ch,e1⟩:=zD zh.hd;obtain⟨ab,cb,e2⟩:=zD zh.bo;have Ln:=hI.below.size;rw[e1] at p1;rw[e2] at p5;have kO:=zC cg;have HE:=zC (And.intro e1 e2);clear hC cY hI aO aE zh e1 e2 cg;go_upto_region 5 with fail
   go_cut [11] from 20 to 100 (λ p wc=>p=.pointer (some ⟨wr.heap.size,0,none⟩)/\wc.heap[wr.heap.size]?=some (.cells #[.string rs[i].R.head.pred,.slice ah rs[i].R.head.ae.length ch,.bool rs[i].R.head.no,.int .i64 rs[i].R.head.at_,.int .i64 rs[i].R.head.az,.slice ab rs[i].bs.length cb] 246 (0,0))/\Below wr.heap.size wr wc)
   case first=>
    go_wp2_with fail;go_meet
    case rel=>exact⟨rfl,heap_alloc_new wr _,B9.alloc L9 _⟩
   case rest=>
    generalize wc=wA at *;obtain⟨rfl,Dh,D1⟩:=hcut;have dI:=(zA HI).dN D1;have hC:=zA HC;have cY:=hC.prog.kept ((zK.refl [] _).ak dI.below) (by simp);have gD:=hC.og.kept ((zK.refl [] _).ak dI.below);obtain⟨r0,-⟩:=zB Dh 0;simp only[List.getElem?_toArray,List.getElem?_cons_zero] at r0;have dK:=(Array.getElem?_eq_some_iff.1 Dh).1;have c3:=cY.c3;have Jf:=cY.lt;have Gl:=hC.N0 _ (zA kO);have RQ:=vM Gl;obtain⟨ix,nj⟩:∃ ix:Nat,zM ps rs[i].R.head.pred=(ix:Int):=⟨_,(Int.toNat_of_nonneg Gl).symm⟩;have uT:ix<ps.length:=(by omega);have t1:=gD.cell ix uT;have VX:=gD.sz;have rZ:∀ W,Below wA.heap.size wA W->Calls Tryz.prog 135 #[.pointer (some ⟨o,0,none⟩),.string rs[i].R.head.pred] W λ e w'=>e=.returned (.int .i64 (ix:Nat))/\w'=W:=λ W hW=>by
     have:=zcc W o rs ps _ _ _ _ rs[i].R.head.pred (cY.kept ((zK.refl [] _).ak hW) (by simp));rw[nj] at this;exact this
    have nx:=zC rZ;have Vl:=zC nj;have eC:=zC dI;have Gt:=zC Dh;have AJ:=zC D1;have Wt:(ix:Int)<ps.length:=(by omega);have SY:(0:Int)<=ix:=(by omega);have gL:ps.length<=maxLen:=yU cY.fD;clear dI hC cY gD rZ nj Dh D1 Gl RQ HI p0 p1 p2 p3 p4 p5 WA;go_upto_region 6 with fail
    go_cut [48] from 20 to 100 (λ u wc=>u=.bool ((S ix:Int) != (s:Int))/\Below wA.heap.size wA wc)
    case first=>
     go_region_held3 (λ w'=>w'.cell? ⟨o,3,none⟩=some (.slice (some ⟨gs,0,none⟩) ps.length ps.length)/\w'.cell? ⟨wr.heap.size,0,none⟩=some (.string rs[i].R.head.pred)/\w'.cell? ⟨gs,ix,none⟩=some (.int .i64 (S ix))) (go_keep) ((go_at_call 135;refine (zA nx _ (by exact B9.drew)).mono ?_;rintro e w2 ⟨rfl,rfl⟩))
     all_goals
      go_wp2_with fail;go_meet
      case rel=>exact⟨rfl,B9.drew⟩
    case rest=>
     generalize wc=wB at *;obtain⟨rfl,D8⟩:=hcut;have gz:=(zA eC).dN D8;have kP:=(D8.block _ dK).trans (zA Gt);have Ly:wr.heap.size<wB.heap.size:=(by have:=D8.size;omega);have iH:=zC gz
     cases bF:((S ix:Int) != (s:Int)) with
     | true=>
      have Jb:¬ S ix=s:=by simp at bF;omega
      have aP:=zC (show vB (fs.map (·.F)) (j1 ps S (fs.map (·.F)) s n ((rs.map (·.R)).drop (i+1)) (i+1)) (bk.map (·.F))=T by
       have:=zA HF;rw[zA Vl,Int.toNat_natCast,if_neg Jb] at this
       simpa using this)
      clear gz kP HF nx eC Gt AJ D8 bF Jb r0 c3 t1;go_wp2_with fail;go_roundg (rs.length-(i+1));exact⟨rfl,i+1,bk,by omega,rfl,by go_num,zA iH,sn,zA aP⟩;omega
     | false=>
      have Jb:S ix=s:=(by simp at bF;omega);have Il:vB (fs.map (·.F)) ((ze3 rs[i].R (fs.map (·.F))).map (zcs rs[i].R s n i)++j1 ps S (fs.map (·.F)) s n ((rs.map (·.R)).drop (i+1)) (i+1)) (bk.map (·.F))=T:=by
       have:=zA HF;rw[zA Vl,Int.toNat_natCast,if_pos Jb] at this;exact this
      have aP:=zC Il;have hC:=zA HC;obtain⟨e1,e2⟩:=zA HE;have Ou:=(hC.prog.each _ (zA kO)).low (Nat.zero_le _);have lj:=(Ou.kept ((zK.refl [] _).ak gz.below) (by simp));rw[e1,e2] at lj;have KF:yaq wB 0 rs[i].R (.slice ah rs[i].R.head.ae.length ch) rs[i].bs (.slice ab rs[i].bs.length cb) fs (.slice al fs.length cl):=⟨lj,(hC.facts.below gz.below).low (Nat.zero_le _),hC.eJ,hC.body _ (zA kO),λ a ha=>hC.ae _ (zA kO) a (List.mem_cons_of_mem _ ha)⟩;have Im:=z6i wB 0 rs[i].R _ rs[i].bs _ fs al cl KF (λ x hx a ha=>hC.size _ (zA kO) x hx a (List.mem_cons_of_mem _ ha));unfold zb1 at Im;have Vh:=zC Im;obtain⟨m0,-⟩:=zB kP 0;obtain⟨m1,-⟩:=zB kP 1;obtain⟨m2,-⟩:=zB kP 2;obtain⟨m3,-⟩:=zB kP 3;obtain⟨m4,-⟩:=zB kP 4;obtain⟨m5,-⟩:=zB kP 5;have uW:=Ou.hd;rw[e1] at uW;have NM:=zC uW;have L8:=zC kP;clear gz kP HF nx eC Gt AJ D8 bF Jb r0 c3 t1 Il hC e1 e2 Ou lj KF Im uW;go_wp2_with fail;refine (zA Vh).mono ?_;rintro e wC ⟨vw,ws,rfl,xz,IX,bN,xo,O8⟩;obtain⟨aw,cw,rfl⟩:=zD xz.row;have xl:=(zA iH).dN O8;have Co:uD w wr.heap.size rs[i].R (.slice ah rs[i].R.head.ae.length ch) (.slice ab rs[i].bs.length cb) (.slice aw ws.length cw) ws (.slice a9 bk.length c9) bk wC:=⟨xl.below,Ln,(O8.block _ Ly).trans (zA L8),xz.low (by have:=(zA iH).below.size;omega),xl.out⟩;have na:=zC Co;have Np:=zC IX;have D5:=zC bN;have hC:=zA HC;have bj:∀ x∈ws,(jG (eN x.e rs[i].R.head)).length<=1000000000:=λ x hx=>by
       have h1:x.W∈ze3 rs[i].R (fs.map (·.F)):=(by rw[<-IX];exact List.mem_map_of_mem hx);exact hC.size _ (zA kO) x.W (List.mem_filter.1 h1).1 _ List.mem_cons_self
      have mi:=zC bj;have N9:=zC (hC.facts.low (Nat.zero_le base));have kV:=hC.eJ;have h4:=hC.ae _ (zA kO) _ List.mem_cons_self;clear hC bj Co xl xz IX bN O8 Vh m0 m1 m2 m3 m4 m5 L8 iH;go_wp2_with fail;refine ydb w 0 wr.heap.size rs[i].R _ _ fs al cl (zA N9) kV ws aw cw xo (λ x hx=>(zA D5 x hx).2) (zA NM) h4 (zA mi) s n i _ _ bk sn rfl wC (zA na) ?_ ?_
      ·intro v9 tj w9;intros;rename_i Et Mq hT9;obtain⟨YX,Xz,rfl⟩:=zD Et.out.row;have Qw:=zC (show z51 w (.slice YX tj.length Xz) tj w9 from ⟨Et.below,Et.out⟩)
       have RT:=zC (show vB (fs.map (·.F)) (j1 ps S (fs.map (·.F)) s n ((rs.map (·.R)).drop (i+1)) (i+1)) (tj.map (·.F))=T by
        rw[zA Np] at hT9
        rw[<-zA aP,zwf _ _ _ (by rw[hT9]),hT9])
       clear Et hT9 aP Np D5 mi N9 na;go_wp2_with fail;go_roundg (rs.length-(i+1));exact⟨rfl,i+1,tj,by omega,rfl,by go_num,zA Qw,Mq,zA RT⟩;omega
      ·intro v9 tj w9;intros;rename_i Et Mq hT9;have Qw:=zC (show z51 w v9 tj w9 from ⟨Et.below,Et.out⟩)
       have RT:=zC (show T=(tj.map (·.F),true) by
        rw[zA Np] at hT9
        rw[<-zA aP,zon _ _ _ (by rw[hT9]),hT9])
       clear Et hT9 aP Np D5 mi N9 na;go_wp2_with fail;apply zA HY
       ·exact zA Qw
       ·exact Mq
       ·exact zA RT
  ·have HE:=zC (show T=(bk.map (·.F),false) by rw[<-aE,List.drop_of_length_le (by simp;omega)];rfl);clear hI aE hC cY;go_wp2_with fail;apply zA HX
   ·exact zA HI
   ·exact sn
   ·exact zA HE
end
section
open Go.RowKit
variable {a b:zP}
theorem zlo:jD a b=true↔a.s<b.s\/(a.s=b.s/\(a.h<b.h\/(a.h=b.h/\zag a.text b.text=true))):=by
 unfold jD
 by_cases h1:a.s=b.s
 ·by_cases h2:a.h=b.h
  ·simp[h1,h2]
  ·simp[h1,h2]
 ·simp[h1]
theorem zvc (h:jD a b=true):jD b a=false:=by
 cases h2:jD b a with
 | false=>rfl
 | true=>
  rw[zlo] at h h2;rcases h with h | ⟨h,h' | ⟨h',h3⟩⟩ <;> rcases h2 with g | ⟨g,g' | ⟨g',g3⟩⟩ <;> first | omega | (rw[zzt h3] at g3;cases g3)
theorem zq8 {c:zP}(h1:jD a b=false)(h2:jD b c=false):jD a c=false:=by
 cases h3:jD a c with
 | false=>rfl
 | true=>
  rw[<-Bool.not_eq_true,zlo] at h1 h2;rw[zlo] at h3
  cases l1:zag a.text b.text with
  | true=>
   rw[l1] at h1
   cases l2:zag b.text c.text with
   | true=>rw[l2] at h2;simp only[and_true] at h1 h2;omega
   | false=>
    rw[l2] at h2;simp only[and_true,Bool.false_eq_true,and_false,or_false] at h1 h2;rcases h3 with g | ⟨g,g' | ⟨g',_⟩⟩ <;> omega
  | false=>
   rw[l1] at h1
   cases l2:zag b.text c.text with
   | true=>
    rw[l2] at h2;simp only[and_true,Bool.false_eq_true,and_false,or_false] at h1 h2;rcases h3 with g | ⟨g,g' | ⟨g',_⟩⟩ <;> omega
   | false=>
    rw[l2] at h2;have:=zqq l1 l2;rw[this] at h3;simp only[Bool.false_eq_true,and_false,or_false] at h1 h2 h3;omega
def zds (zs:List FG):Prop:=zs.Pairwise λ x y=>jD y.F x.F=false
structure IE (A:List FG)(x:FG)(B:List FG):Prop where
 Uu:zds (A++B)
 up:∀ b∈B,jD x.F b.F=true
variable {x:FG} {A B:List FG}
theorem IE.down {a:FG}(h:IE (A++[a]) x B)(hl:jD x.F a.F=true):IE A x (a::B):=
 ⟨by have:=h.Uu;simpa using this,λ b hb=>by rcases List.mem_cons.1 hb with rfl | hb;exact hl;exact h.up b hb⟩
theorem IE.done (h:IE A x B)(hl:∀ A' a,A=A'++[a]->jD x.F a.F=false):zds (A++x::B):=by
 have hr:=h.Uu;unfold zds at hr ⊢;rw[List.pairwise_append] at hr ⊢;obtain⟨hA,hB,Ys⟩:=hr;refine⟨hA,List.pairwise_cons.2 ⟨λ b hb=>zvc (h.up b hb),hB⟩,λ a ha y hy=>?_⟩;rcases List.mem_cons.1 hy with rfl | hy
 ·rcases List.eq_nil_or_concat A with e | ⟨A',a',e⟩
  ·subst e;cases ha
  ·rw[List.concat_eq_append] at e;have h0:=hl A' a' e;subst e;rcases List.mem_append.1 ha with ha | ha
   ·have:=(List.pairwise_append.1 hA).2.2 a ha a' (by simp);exact zq8 h0 this
   ·rw[List.mem_singleton.1 ha];exact h0
 ·exact Ys a ha y hy
theorem zyl (zs:List FG):∀ (i:Nat) (x:FG),i<zs.length->((((((((((zs.flatMap FG.cells).set (i*10) (.string x.F.aj.pred)).set (i*10+1) x.tv).set (i*10+2) (.bool x.F.aj.no)).set (i*10+3) (.int .i64 x.F.aj.at_)).set (i*10+4) (.int .i64 x.F.aj.az)).set (i*10+5) (.string x.F.text)).set (i*10+6) (.int .i64 x.F.s)).set (i*10+7) (.int .i64 x.F.h)).set (i*10+8) (.int .i64 x.F.r)).set (i*10+9) x.fv=(zs.set i x).flatMap FG.cells:=by
 induction zs with
 | nil=>intro i x h;simp at h
 | cons z r ih=>
  intro i x h
  cases i with
  | zero=>simp[FG.cells]
  | succ i=>
   have:=ih i x (by simpa using h);rw[List.set_cons_succ,List.flatMap_cons,List.flatMap_cons,<-this];have e:∀ j,(i+1)*10+j=i*10+j+10:=λ j=>by omega
   have e0:(i+1)*10=i*10+10:=(by omega);rw[e 1,e 2,e 3,e 4,e 5,e 6,e 7,e 8,e 9,e0];simp[FG.cells]
def nB (w:W8)(g k:Nat)(x:FG):W8:=(((((((((w.setCell ⟨g,k*10,none⟩ (.string x.F.aj.pred)).setCell ⟨g,k*10+1,none⟩ x.tv).setCell ⟨g,k*10+2,none⟩ (.bool x.F.aj.no)).setCell ⟨g,k*10+3,none⟩ (.int .i64 x.F.aj.at_)).setCell ⟨g,k*10+4,none⟩ (.int .i64 x.F.aj.az)).setCell ⟨g,k*10+5,none⟩ (.string x.F.text)).setCell ⟨g,k*10+6,none⟩ (.int .i64 x.F.s)).setCell ⟨g,k*10+7,none⟩ (.int .i64 x.F.h)).setCell ⟨g,k*10+8,none⟩ (.int .i64 x.F.r)).setCell ⟨g,k*10+9,none⟩ x.fv
theorem zim (B:List Nat){w:W8}{g:Nat}(hb:g∈B)(k:Nat)(x:FG):zK B w (nB w g k x):=by
 have e:∀ {w':W8} (i:Nat) (u:Value),zK B w w'->zK B w (w'.setCell ⟨g,i,none⟩ u):=λ i u k=>k.setCell (p:=⟨g,i,none⟩) (.inl hb) _
 exact e _ _ (e _ _ (e _ _ (e _ _ (e _ _ (e _ _ (e _ _ (e _ _ (e _ _ (e _ _ (zK.refl B w))))))))))
theorem xB.nB {w:W8}{base g cap k:Nat}{fs:List FG}{x:FG}(h:xB w base (.slice (some ⟨g,0,none⟩) fs.length cap) fs)(hk:k<fs.length)(hx:qZ w base x):xB (nB w g k x) base (.slice (some ⟨g,0,none⟩) fs.length cap) (fs.set k x):=by
 have h1:=vT (vT (vT (vT (vT (vT (vT (vT (vT (vT h.row (k*10) (.string x.F.aj.pred)) (k*10+1) x.tv) (k*10+2) (.bool x.F.aj.no)) (k*10+3) (.int .i64 x.F.aj.at_)) (k*10+4) (.int .i64 x.F.aj.az)) (k*10+5) (.string x.F.text)) (k*10+6) (.int .i64 x.F.s)) (k*10+7) (.int .i64 x.F.h)) (k*10+8) (.int .i64 x.F.r)) (k*10+9) x.fv;rw[zyl _ k x hk] at h1;have kk:zK [g] w (Go.Proofs.YtldkpahaocjdpaaGreat.nB w g k x):=zim [g] (by simp) k x;have n1:∀ b∈[g],dW w 317 b:=λ b hb=>yH h.row (by decide) b (by simpa[Value.ownBlock] using hb)
 have n2:∀ b∈[g],dW w 3 b:=λ b hb=>yH h.row (by decide) b (by simpa[Value.ownBlock] using hb)
 refine⟨by rw[List.length_set];exact h1,λ y hy=>?_⟩;rcases List.mem_or_eq_of_mem_set hy with hy | rfl
 ·exact (h.each y hy).bu kk n1 n2
 ·exact hx.bu kk n1 n2
end
section
open Go.RowKit
theorem zxx (m:Nat)(h:m<=1000):IntKind.i64.wrap (m:Int)=m:=by
 simp[IntKind.wrap,IntKind.signed,IntKind.bits];omega
variable {k base:Nat} {fs:List FG} {v:Value} {w:W8}
theorem xB.split (h:xB w base v fs)(hk:k<fs.length):∃ g cap,v=.slice (some ⟨g,0,none⟩) fs.length cap/\base<=g/\g<w.heap.size/\fs.length<=cap/\cap<=maxLen/\w.heap.size=w.heap.size:=by
 obtain⟨g,cap,hv,hb,hl,hn,hc,_⟩:=zb0 h.row hk;exact⟨g,cap,hv,hb,hl,hn,hc,rfl⟩
variable {x:FG} {g n cap:Nat}
theorem zcg (h:xB w base (.slice (some ⟨g,0,none⟩) n cap) fs)(hk:k<fs.length)(hx:fs[k]=x):w.cell? ⟨g,k*10,none⟩=some (.string x.F.aj.pred)/\w.cell? ⟨g,k*10+1,none⟩=some x.tv/\w.cell? ⟨g,k*10+2,none⟩=some (.bool x.F.aj.no)/\w.cell? ⟨g,k*10+3,none⟩=some (.int .i64 x.F.aj.at_)/\w.cell? ⟨g,k*10+4,none⟩=some (.int .i64 x.F.aj.az)/\w.cell? ⟨g,k*10+5,none⟩=some (.string x.F.text)/\w.cell? ⟨g,k*10+6,none⟩=some (.int .i64 x.F.s)/\w.cell? ⟨g,k*10+7,none⟩=some (.int .i64 x.F.h)/\w.cell? ⟨g,k*10+8,none⟩=some (.int .i64 x.F.r)/\w.cell? ⟨g,k*10+9,none⟩=some x.fv:=by
 obtain⟨g',dp,hv,_,_,_,_,hc⟩:=zb0 h.row hk;injection hv with q1 q2 q3
 injection q1 with q1
 injection q1 with q1
 subst q1;rw[hx] at hc;exact⟨hc 0 (by decide),hc 1 (by decide),hc 2 (by decide),hc 3 (by decide),hc 4 (by decide),hc 5 (by decide),hc 6 (by decide),hc 7 (by decide),hc 8 (by decide),hc 9 (by decide)⟩
theorem qZ.shape (h:qZ w base x):∃ a1 a2 a3 a4,x.tv=.slice a1 x.F.aj.ae.length a2/\x.fv=.slice a3 x.F.fr.length a4:=by
 obtain⟨a1,a2,e1⟩:=zD h.t;obtain⟨a3,a4,e2⟩:=zD h.i;exact⟨a1,a2,a3,a4,e1,e2⟩
theorem xB.fz (h:xB w base (.slice (some ⟨g,0,none⟩) n cap) fs):∀ j,w.frozen? ⟨g,j,none⟩=false:=zh5 h.row
structure oa (w:W8)(base:Nat)(v:Value)(zs:List FG)(wr:W8):Prop where
 below:Below w.heap.size w wr
 facts:xB wr base v zs
 ge:w.heap.size<=base
variable {wr:W8} {zs:List FG}
theorem oa.dN {w':W8}(h:oa w base v zs wr)(k:Below wr.heap.size wr w'):oa w base v zs w':=⟨h.below.trans (k.mono h.below.size),h.facts.below k,h.ge⟩
theorem oa.set {qe:List FG}(hn:n=zs.length)(h:oa w base (.slice (some ⟨g,0,none⟩) n cap) zs wr)(hk:k<zs.length)(hx:qZ wr base x)(hz:zs.set k x=qe):oa w base (.slice (some ⟨g,0,none⟩) n cap) qe (nB wr g k x):=by
 subst hn;subst hz;have hg:base<=g:=(h.facts.row.lt g rfl).1;have qq:=h.ge;exact⟨zY h.below (zim [g] (by simp) k x) h.below.size (λ b hb=>by rw[List.mem_singleton.1 hb];omega),h.facts.nB hk hx,h.ge⟩
theorem ydn (w:W8)(base:Nat)(ag:O8)(n cap:Nat)(Jq:n<=1000)(zs:List FG)(y:FG)(C:List FG)(i:Nat)(mO:zs.length=i)(mB:n=(zs++y::C).length)(n9:zds zs)(w1:W8)(hI:oa w base (.slice ag n cap) (zs++y::C) w1)
  {Q:Exit->Act->W8->Prop} {c0 c1 c2 c3 c4 c5 c6 c7 c8 gS lI gy gV ij gw fE eH eZ fc eW eT eL eV eX eY eO eR eQ fh fj fo ft fk fJ fL fI fY fQ fO gq fV gu dT gd fM gn fP fN fZ gN gQ fG jv jq jr ee kf jt km kg jw ju ko kc jz jy kq js jx ki kH kL kR kD kI kX kZ kr kz iZ jh iW iV iT iO jm iP jf jl jo iQ jd jb je iY jc ji dq cF cC cx cE cA cD cy cM cU de cL cN cK dg cZ cO da cR dc cJ cG cH cj cW cV cP cX dd cq gR gI gG gO gH gE gM gJ gF gC gK fH:Value}
  (aT:∀ (qe:List FG) (w2:W8) (A0 Cv Ji oA oB o8 oI pg oG oD oX oZ oP oQ ov oY ub te sO ox o7 oO po oz sY tf tS tU tT tm tX tu tA sD sV tO:Value),oa w base (.slice ag n cap) (qe++C) w2->zds qe->qe.Perm (zs++[y])->Q (.exit 6) ⟨List.toArray (c0::c1::c2::c3::c4::c5::c6::c7::c8::.slice ag n cap::gS::lI::gy::gV::ij::gw::.int .i64 i::A0::Cv::Ji::eZ::fc::eW::eT::eL::eV::eX::eY::eO::eR::eQ::fh::fj::fo::ft::fk::fJ::fL::fI::fY::fQ::fO::gq::fV::gu::dT::gd::fM::gn::fP::fN::fZ::gN::gQ::fG::jv::jq::jr::ee::kf::jt::km::kg::jw::ju::ko::kc::jz::jy::kq::js::jx::ki::kH::kL::kR::kD::kI::kX::kZ::kr::kz::iZ::jh::iW::iV::iT::iO::jm::iP::jf::jl::jo::iQ::jd::jb::je::iY::jc::ji::dq::cF::cC::cx::cE::cA::cD::cy::oA::oB::o8::oI::pg::oG::oD::oX::oZ::oP::oQ::ov::oY::ub::te::sO::ox::o7::oO::po::oz::sY::tf::tS::tU::tT::tm::tX::tu::tA::sD::sV::tO::fH::[]),[]⟩ w2):
  Code.wp Tryz.prog (Code.loop (zvn 3)) Q ⟨List.toArray (c0::c1::c2::c3::c4::c5::c6::c7::c8::.slice ag n cap::gS::lI::gy::gV::ij::gw::.int .i64 i::.int .i64 i::fE::eH::eZ::fc::eW::eT::eL::eV::eX::eY::eO::eR::eQ::fh::fj::fo::ft::fk::fJ::fL::fI::fY::fQ::fO::gq::fV::gu::dT::gd::fM::gn::fP::fN::fZ::gN::gQ::fG::jv::jq::jr::ee::kf::jt::km::kg::jw::ju::ko::kc::jz::jy::kq::js::jx::ki::kH::kL::kR::kD::kI::kX::kZ::kr::kz::iZ::jh::iW::iV::iT::iO::jm::iP::jf::jl::jo::iQ::jd::jb::je::iY::jc::ji::dq::cF::cC::cx::cE::cA::cD::cy::cM::cU::de::cL::cN::cK::dg::cZ::cO::da::cR::dc::cJ::cG::cH::cj::cW::cV::cP::cX::dd::cq::gR::gI::gG::gO::gH::gE::gM::gJ::gF::gC::gK::fH::[]),[]⟩ w1:=by
 conv=>arg 2;arg 1;whnf
 have HI:=zC hI;have HX:=zC aT;have Nk:=zC mB;have M4:=zC mO;have va:=zC n9;have ax:i<=1000:=by rw[List.length_append,List.length_cons] at mB;omega
 clear hI aT mB mO n9
 go_loopg [17] i (λ gg kk wr=>∃ (A:List FG) (x:FG) (B:List FG),gg=A.length/\kk=.int .i64 A.length/\A.length<=i/\oa w base (.slice ag n cap) (A++x::(B++C)) wr/\IE A x B/\(A++x::B).Perm (zs++[y]))
 exact⟨zs,y,[],(zA M4).symm,by rw[zA M4],Nat.le_of_eq (zA M4),zA HI,⟨by rw[List.append_nil];exact zA va,by simp⟩,List.Perm.refl _⟩
 case round=>
  clear HI va M4;obtain⟨A,x,B,Sk,rfl,SE,hI,Dc,bV⟩:=hrel;rcases List.eq_nil_or_concat A with e | ⟨A',a,e⟩
  ·subst e;have HI:=zC (show oa w base (.slice ag n cap) ((x::B)++C) wr from hI);have HS:=zC (show zds (x::B) from Dc.done (λ A' a h=>by simp at h));have HP:=zC (show (x::B).Perm (zs++[y]) from bV);clear hI Dc bV;go_wp2_with fail;apply zA HX
   ·exact zA HI
   ·exact zA HS
   ·exact zA HP
  ·rw[List.concat_eq_append] at e;subst e;have nD:n=(A'++a::x::(B++C)).length:=by
    have h1:=zA Nk;have h2:=bV.length_eq;simp only[List.length_append,List.length_cons,List.length_nil] at h1 h2 ⊢;omega
   have B9:oa w base (.slice ag n cap) (A'++a::x::(B++C)) wr:=(by simpa using hI);have OA:(A'++[a]).length=A'.length+1:=(by simp);rw[OA];rw[OA] at Sk SE;have gL:A'.length+1<(A'++a::x::(B++C)).length:=(by simp);have Sv:A'.length<(A'++a::x::(B++C)).length:=(by simp);have gx:(A'++a::x::(B++C))[A'.length+1]=x:=(by simp);have ga:(A'++a::x::(B++C))[A'.length]=a:=(by simp);have aB:=B9.facts.row;rw[nD] at B9;obtain⟨g,dp,hv,WL,aZ,bO,bP,-⟩:=B9.facts.split gL;injection hv with q1 q2 q3
   subst q1 q3;rw[<-nD] at B9;have wu:n<=cap:=(by rw[nD];exact bO);obtain⟨x1,x2,x3,x4,zt,A8⟩:=(B9.facts.each x (by simp)).shape;obtain⟨a1,a2,a3,a4,AM,AI⟩:=(B9.facts.each a (by simp)).shape;obtain⟨p0,p1,p2,p3,p4,p5,p6,p7,p8,p9⟩:=zcg B9.facts gL gx;obtain⟨r0,r1,r2,r3,r4,r5,r6,r7,r8,r9⟩:=zcg B9.facts Sv ga;rw[zt] at p1;rw[A8] at p9;rw[AM] at r1;rw[AI] at r9;have pK:A'.length+1<n:=(by rw[nD];exact gL);have HI:=zC B9;have wU:=zC nD;have DJ:=zC Dc;have uq:=zC bV;have I8:=zC (And.intro (And.intro zt A8) (And.intro AM AI));obtain⟨m,hm⟩:∃ m,A'.length=m:=⟨_,rfl⟩;rw[hm] at p0 p1 p2 p3 p4 p5 p6 p7 p8 p9 r0 r1 r2 r3 r4 r5 r6 r7 r8 r9 pK Sk SE ⊢;have HM:=zC hm;have DS:((m+1:Nat):Int)=(m:Int)+1:=(by omega);rw[DS];clear DS;have w0:IntKind.i64.wrap (m:Int)=m:=zxx m (by omega);have Ec:IntKind.i64.wrap ((m:Int)+1-1)=m:=(by rw[Int.add_sub_cancel];exact w0);have i1:(m:Int)+1<n:=(by omega);have i2:(m:Int)<n:=(by omega);have i3:(0:Int)<(m:Int)+1:=(by omega);have i4:(0:Int)<=(m:Int)+1:=(by omega);clear hI B9 aB nD Dc bV OA gL Sv gx ga zt A8 AM AI hm bO;have oT:=zC (Below.refl wr.heap.size wr);go_upto_region 23 with fail
   go_cut [18] from 108 to 140 (λ u wc=>u=.bool (jD x.F a.F)/\Below wr.heap.size wr wc)
   case first=>
     have GF:Hid (∀ W w':W8,Below wr.heap.size wr W->Below W.heap.size W w'->w'.cell? ⟨g,(m+1)*10,none⟩=some (.string x.F.aj.pred)/\w'.cell? ⟨g,(m+1)*10+1,none⟩=some (.slice x1 x.F.aj.ae.length x2)/\w'.cell? ⟨g,(m+1)*10+2,none⟩=some (.bool x.F.aj.no)/\w'.cell? ⟨g,(m+1)*10+3,none⟩=some (.int .i64 x.F.aj.at_)/\w'.cell? ⟨g,(m+1)*10+4,none⟩=some (.int .i64 x.F.aj.az)/\w'.cell? ⟨g,(m+1)*10+5,none⟩=some (.string x.F.text)/\w'.cell? ⟨g,(m+1)*10+6,none⟩=some (.int .i64 x.F.s)/\w'.cell? ⟨g,(m+1)*10+7,none⟩=some (.int .i64 x.F.h)/\w'.cell? ⟨g,(m+1)*10+8,none⟩=some (.int .i64 x.F.r)/\w'.cell? ⟨g,(m+1)*10+9,none⟩=some (.slice x3 x.F.fr.length x4)/\w'.cell? ⟨g,m*10,none⟩=some (.string a.F.aj.pred)/\w'.cell? ⟨g,m*10+1,none⟩=some (.slice a1 a.F.aj.ae.length a2)/\w'.cell? ⟨g,m*10+2,none⟩=some (.bool a.F.aj.no)/\w'.cell? ⟨g,m*10+3,none⟩=some (.int .i64 a.F.aj.at_)/\w'.cell? ⟨g,m*10+4,none⟩=some (.int .i64 a.F.aj.az)/\w'.cell? ⟨g,m*10+5,none⟩=some (.string a.F.text)/\w'.cell? ⟨g,m*10+6,none⟩=some (.int .i64 a.F.s)/\w'.cell? ⟨g,m*10+7,none⟩=some (.int .i64 a.F.h)/\w'.cell? ⟨g,m*10+8,none⟩=some (.int .i64 a.F.r)/\w'.cell? ⟨g,m*10+9,none⟩=some (.slice a3 a.F.fr.length a4)):=zC (λ W w' h1 h2=>by
      have hB:=h1.trans (h2.mono h1.size)
      exact⟨(hB.cell (by simpa using aZ)).trans p0,(hB.cell (by simpa using aZ)).trans p1,(hB.cell (by simpa using aZ)).trans p2,(hB.cell (by simpa using aZ)).trans p3,(hB.cell (by simpa using aZ)).trans p4,(hB.cell (by simpa using aZ)).trans p5,(hB.cell (by simpa using aZ)).trans p6,(hB.cell (by simpa using aZ)).trans p7,(hB.cell (by simpa using aZ)).trans p8,(hB.cell (by simpa using aZ)).trans p9,(hB.cell (by simpa using aZ)).trans r0,(hB.cell (by simpa using aZ)).trans r1,(hB.cell (by simpa using aZ)).trans r2,(hB.cell (by simpa using aZ)).trans r3,(hB.cell (by simpa using aZ)).trans r4,(hB.cell (by simpa using aZ)).trans r5,(hB.cell (by simpa using aZ)).trans r6,(hB.cell (by simpa using aZ)).trans r7,(hB.cell (by simpa using aZ)).trans r8,(hB.cell (by simpa using aZ)).trans r9⟩)
     go_region_held3 (λ w'=>w'.cell? ⟨g,(m+1)*10,none⟩=some (.string x.F.aj.pred)/\w'.cell? ⟨g,(m+1)*10+1,none⟩=some (.slice x1 x.F.aj.ae.length x2)/\w'.cell? ⟨g,(m+1)*10+2,none⟩=some (.bool x.F.aj.no)/\w'.cell? ⟨g,(m+1)*10+3,none⟩=some (.int .i64 x.F.aj.at_)/\w'.cell? ⟨g,(m+1)*10+4,none⟩=some (.int .i64 x.F.aj.az)/\w'.cell? ⟨g,(m+1)*10+5,none⟩=some (.string x.F.text)/\w'.cell? ⟨g,(m+1)*10+6,none⟩=some (.int .i64 x.F.s)/\w'.cell? ⟨g,(m+1)*10+7,none⟩=some (.int .i64 x.F.h)/\w'.cell? ⟨g,(m+1)*10+8,none⟩=some (.int .i64 x.F.r)/\w'.cell? ⟨g,(m+1)*10+9,none⟩=some (.slice x3 x.F.fr.length x4)/\w'.cell? ⟨g,m*10,none⟩=some (.string a.F.aj.pred)/\w'.cell? ⟨g,m*10+1,none⟩=some (.slice a1 a.F.aj.ae.length a2)/\w'.cell? ⟨g,m*10+2,none⟩=some (.bool a.F.aj.no)/\w'.cell? ⟨g,m*10+3,none⟩=some (.int .i64 a.F.aj.at_)/\w'.cell? ⟨g,m*10+4,none⟩=some (.int .i64 a.F.aj.az)/\w'.cell? ⟨g,m*10+5,none⟩=some (.string a.F.text)/\w'.cell? ⟨g,m*10+6,none⟩=some (.int .i64 a.F.s)/\w'.cell? ⟨g,m*10+7,none⟩=some (.int .i64 a.F.h)/\w'.cell? ⟨g,m*10+8,none⟩=some (.int .i64 a.F.r)/\w'.cell? ⟨g,m*10+9,none⟩=some (.slice a3 a.F.fr.length a4)) (go_keep) ((go_at_call 231;refine (z5o _ x.F a.F x1 x3 a1 a3 _ _ _ _ x2 x4 a2 a4).mono ?_;rintro e w2 ⟨rfl,aK⟩;obtain⟨m0,m1,m2,m3,m4,m5,m6,m7,m8,m9,m10,m11,m12,m13,m14,m15,m16,m17,m18,m19⟩:=zA GF _ _ (by exact B9.drew) aK;have ir:=zC ((Below.refl wr.heap.size wr).drew.trans (aK.mono (by exact Nat.le_refl _)));clear aK))
     all_goals
      go_wp2_with fail;go_meet
      case rel=>exact⟨rfl,zA ir⟩
   case rest=>
    generalize wc=wA at *;obtain⟨rfl,D1⟩:=hcut;have JL:=(zA HI).dN D1;have M8:=zC JL;clear p0 p1 p2 p3 p4 p5 p6 p7 p8 p9 r0 r1 r2 r3 r4 r5 r6 r7 r8 r9 oT
    cases hah:jD x.F a.F with
    | false=>
     have HS:=zC (show zds (A'++a::x::B) by
      have:=(zA DJ).done (λ A2 a2 h=>by
       have:=List.append_inj' h rfl;have h2:a=a2:=by simpa using this.2
       rw[<-h2];exact hah)
      simpa using this)
     have HP:=zC (show (A'++a::x::B).Perm (zs++[y]) by simpa using zA uq);have eC:=zC (show oa w base (.slice (some ⟨g,0,none⟩) n cap) ((A'++a::x::B)++C) wA by simpa using JL);clear JL DJ uq hah D1;go_wp2_with fail;apply zA HX
     ·exact zA eC
     ·exact zA HS
     ·exact zA HP
    | true=>
     have tF:(A'++a::x::(B++C))[m+1]'(by have:=zA HM;simp;omega)=x:=by
      have:=zA HM;subst this;simp
     have Bf:(A'++a::x::(B++C))[m]'(by have:=zA HM;simp;omega)=a:=by
      have:=zA HM;subst this;simp
     obtain⟨⟨zt,A8⟩,⟨AM,AI⟩⟩:=zA I8;obtain⟨p0,p1,p2,p3,p4,p5,p6,p7,p8,p9⟩:=zcg JL.facts _ tF;rw[zt] at p1;rw[A8] at p9;have De:=zC ((zA DJ).down hah)
     have pD:=zC (show (A'++x::(a::B)).Perm (zs++[y]) from by
      refine List.Perm.trans ?_ (zA uq);rw[List.append_assoc]
      exact List.Perm.append_left _ (List.Perm.swap _ _ _))
     have Wb:g<wA.heap.size:=(by have:=D1.size;omega);clear JL DJ uq hah D1 tF Bf zt A8 AM AI;go_upto_region 25 with fail
     go_cut [19] from 108 to 140 (λ u wc=>u=.pointer (some ⟨wA.heap.size,0,none⟩)/\wc.heap[wA.heap.size]?=some (.cells #[.string x.F.aj.pred,.slice x1 x.F.aj.ae.length x2,.bool x.F.aj.no,.int .i64 x.F.aj.at_,.int .i64 x.F.aj.az,.string x.F.text,.int .i64 x.F.s,.int .i64 x.F.h,.int .i64 x.F.r,.slice x3 x.F.fr.length x4] 262 (0,0))/\Below wA.heap.size wA wc)
     case first=>
      go_wp2_with fail;go_meet
      case rel=>exact⟨rfl,heap_alloc_new wA _,B9.alloc L9 _⟩
     case rest=>
      generalize wc=wB at *;obtain⟨rfl,Ct,D8⟩:=hcut;have DI:=(zA M8).dN D8;obtain⟨⟨zt,A8⟩,⟨AM,AI⟩⟩:=zA I8;have F7:m+1<(A'++a::x::(B++C)).length:=(by have:=zA HM;simp;omega);have Io:m<(A'++a::x::(B++C)).length:=(by have:=zA HM;simp;omega);have tF:(A'++a::x::(B++C))[m+1]=x:=by
       have:=zA HM;subst this;simp
      have Bf:(A'++a::x::(B++C))[m]=a:=by
       have:=zA HM;subst this;simp
      obtain⟨s0,s1,s2,s3,s4,s5,s6,s7,s8,s9⟩:=zcg DI.facts F7 tF;obtain⟨r0,r1,r2,r3,r4,r5,r6,r7,r8,r9⟩:=zcg DI.facts Io Bf;rw[AM] at r1;rw[AI] at r9;have fz:=DI.facts.fz;have jk:(A'++a::x::(B++C)).set (m+1) a=A'++a::a::(B++C):=by
       have:=zA HM;subst this;simp
      have hR:=oa.set (x:=a) (zA wU) DI F7 (DI.facts.each a (by simp)) jk;have FK:qZ (nB wB g (m+1) a) base x:=(DI.facts.each x (by simp)).bu (zim [g] (by simp) (m+1) a) (λ b hb=>yH DI.facts.row (by decide) b (by simpa[Value.ownBlock] using hb)) (λ b hb=>yH DI.facts.row (by decide) b (by simpa[Value.ownBlock] using hb));have NQ:(nB wB g (m+1) a).heap[wA.heap.size]?=some (.cells #[.string x.F.aj.pred,.slice x1 x.F.aj.ae.length x2,.bool x.F.aj.no,.int .i64 x.F.aj.at_,.int .i64 x.F.aj.az,.string x.F.text,.int .i64 x.F.s,.int .i64 x.F.h,.int .i64 x.F.r,.slice x3 x.F.fr.length x4] 262 (0,0)):=by
       rw[(zim [g] (by simp) (m+1) a).block _ (Array.getElem?_eq_some_iff.1 Ct).1 (by simp;omega)];exact Ct
      unfold nB at hR NQ FK;rw[AM,AI] at hR NQ FK;have Vn:=zC FK;have HR:=zC hR;have U1:=zC NQ;clear DI Ct D8 F7 Io tF Bf jk hR NQ FK p0 p1 p2 p3 p4 p5 p6 p7 p8 p9 zt A8 AM AI M8;go_upto_region 26 with fail
      go_cut [] from 108 to 140 (λ wc=>oa w base (.slice (some ⟨g,0,none⟩) n cap) (A'++a::a::(B++C)) wc/\qZ wc base x/\wc.heap[wA.heap.size]?=some (.cells #[.string x.F.aj.pred,.slice x1 x.F.aj.ae.length x2,.bool x.F.aj.no,.int .i64 x.F.aj.at_,.int .i64 x.F.aj.az,.string x.F.text,.int .i64 x.F.s,.int .i64 x.F.h,.int .i64 x.F.r,.slice x3 x.F.fr.length x4] 262 (0,0)))
      case first=>
       go_wp2_with fail;go_meet
       case rel=>exact⟨zA HR,zA Vn,zA U1⟩
      case rest=>
       generalize wc=wC at *;obtain⟨Mr,FK,BG⟩:=hcut;clear HR U1 Vn s0 s1 s2 s3 s4 s5 s6 s7 s8 s9 r0 r1 r2 r3 r4 r5 r6 r7 r8 r9 fz;obtain⟨⟨zt,A8⟩,⟨AM,AI⟩⟩:=zA I8;have Io:m<(A'++a::a::(B++C)).length:=(by have:=zA HM;simp;omega);have Bf:(A'++a::a::(B++C))[m]=a:=by
        have:=zA HM;subst this;simp
       obtain⟨r0,r1,r2,r3,r4,r5,r6,r7,r8,r9⟩:=zcg Mr.facts Io Bf;obtain⟨s0,-⟩:=zB BG 0;obtain⟨s1,-⟩:=zB BG 1;obtain⟨s2,-⟩:=zB BG 2;obtain⟨s3,-⟩:=zB BG 3;obtain⟨s4,-⟩:=zB BG 4;obtain⟨s5,-⟩:=zB BG 5;obtain⟨s6,-⟩:=zB BG 6;obtain⟨s7,-⟩:=zB BG 7;obtain⟨s8,-⟩:=zB BG 8;obtain⟨s9,-⟩:=zB BG 9;have fz:=Mr.facts.fz;have jk:(A'++a::a::(B++C)).set m x=A'++x::a::(B++C):=by
        have:=zA HM;subst this;simp
       have hlen:n=(A'++a::a::(B++C)).length:=(by have:=zA wU;simp at this ⊢;omega);have hR:=oa.set (x:=x) hlen Mr Io FK jk;unfold nB at hR;rw[zt,A8] at hR;have HR:=zC (show oa w base (.slice (some ⟨g,0,none⟩) n cap) (A'++x::((a::B)++C)) _ from hR);clear Mr FK BG Io Bf jk hlen hR zt A8 AM AI;go_wp2_with fail;go_roundg m;exact⟨A',x,a::B,(zA HM).symm,by rw[zA HM],by rw[zA HM];omega,zA HR,zA De,zA pD⟩;omega
end
end Go.Proofs.YtldkpahaocjdpaaGreat
