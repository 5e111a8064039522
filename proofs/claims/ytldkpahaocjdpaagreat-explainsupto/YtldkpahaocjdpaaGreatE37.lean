/-
  The reference's round: the loop over the rules.
-/
import Derived.Test.YtldkpahaocjdpaaGreatE36
set_option maxHeartbeats 16000000
set_option maxRecDepth 1000000
namespace Go.Proofs.YtldkpahaocjdpaaGreat
section
open Go.RowKit
structure yea (w:W8)(o:Nat)(rs:List RR)(ps:P9)(rv pv tv:Value)(gs:Nat)(S:Nat->Nat)(base:Nat)(fs:List FG)(lv:Value):Prop where
 prog:znv w o rs ps rv pv tv (.slice (some ⟨gs,0,none⟩) ps.length ps.length)
 og:ng w gs ps.length S
 facts:yZ w base lv fs
 eJ:fs.length<=50
 body:∀ r∈rs,r.bs.length<=3
 ae:∀ r∈rs,∀ a∈r.R.head::r.R.body,a.ae.length<=4
 Ny:∀ r∈rs,0<=zM ps r.R.head.pred
 size:∀ r∈rs,∀ x∈ziq (fs.map (·.F)) r.R.body [([],[])],∀ a∈r.R.head::r.R.body,(jH (fa x.1 a)).length<=1000000000
theorem zxx {ps:P9}{S:Nat->Nat}{l:List zP}{s n:Nat}{rs:List zS}{i:Nat}(h:i<rs.length):j4 ps S l s n (rs.drop i) i=(if S (zM ps rs[i].head.pred).toNat=s then (ze4 rs[i] l).map (zcq rs[i] s n i) else [])++j4 ps S l s n (rs.drop (i+1)) (i+1):=by
 rw[List.drop_eq_getElem_cons h];rfl
structure z54 (w:W8)(v:Value)(out:List FG)(wr:W8):Prop where
 below:Below w.heap.size w wr
 out:yZ wr w.heap.size v out
variable {v:Value} {w:W8}
theorem z54.dQ {out:List FG}{wr w':W8}(h:z54 w v out wr)(k:Below wr.heap.size wr w'):z54 w v out w':=⟨h.below.trans (k.mono h.below.size),h.out.below k⟩
variable {base base':Nat}
theorem rN.low {ws:List WG}(h:rN w base v ws)(hb:base'<=base):rN w base' v ws:=⟨zG h.row hb,λ x hx=>(h.each x hx).low hb⟩
theorem yZ.low {fs:List FG}(h:yZ w base v fs)(hb:base'<=base):yZ w base' v fs:=⟨zG h.row hb,λ x hx=>(h.each x hx).low hb⟩
theorem nA.low {R:zS}{hv:Value}{bs:List (zL × Value)}{bv:Value}(h:nA w base R hv bs bv)(hb:base'<=base):nA w base' R hv bs bv:=⟨zG h.hd hb,zG h.bo hb,λ x hx=>zG (h.bl x hx) hb,h.eq⟩
theorem yds (w:W8)(o:Nat)(rs:List RR)(ps:P9)(rv pv tv:Value)(gs:Nat)(S:Nat->Nat)(base:Nat)(fs:List FG)(al:O8)(cl:Nat)(hC:yea w o rs ps rv pv tv gs S base fs (.slice al fs.length cl))(s n:Nat)(w1:W8)(hI:z54 w (.slice none 0 0) [] w1)
  {Q:Exit->Act->W8->Prop} {c4 c5 c6 c7 ll gy gV ie fO ig gW fD eG eL eM eN eO eQ eR eS eT eU eV eW fg fh fk fl fm fI fJ fK fP fQ fR fU fV fW dU fX fY fZ gd gh gi gP gQ fE jq jr js ee jt ju jv jw jx jy jz kc kf kg kh ki kj km kx ky kz kD kE kF kG kH kI iO iP iQ iR iS iT iU iV iW iX iY iZ ja jb jc jd je jf dm cj cq cx cy cz cA cC cK cL cM cN cO cP cQ cR cU cV cW cX cY cD cE cF cZ da dc dd de cG gE gF gG gH gI gJ gK gL gM gN gO fC:Value}
  (aT:∀ (sn:Value) (bk:List FG) (w2:W8) (rq rr ru DJ Bj Bk G3 G4 G5 G6 G7 G8 G9 Ha Hb Hc Hd DL u32 Bm Bn Bo tR tS tT ry rz rA rB rD rE rF rG rH rI rJ rK rL nM nN vv vx vy vz wg wh wk wm wo wq u64 wu wy wz wD wE wF wG wH tU tV tW tX tY tZ ua ub uc Bq Bs Bt Bu Bv Bw By Bz BA BB BC BD BE BF BG BH BI BJ lG:Value),z54 w sn bk w2->bk.length<=51->vC (fs.map (·.F)) (j4 ps S (fs.map (·.F)) s n (rs.map (·.R)) 0) []=(bk.map (·.F),false)->Q (.exit 0) ⟨List.toArray (.pointer (some ⟨o,0,none⟩)::.slice al fs.length cl::.int .i64 s::.int .i64 n::c4::c5::c6::c7::.slice none 0 0::sn::rq::rr::ru::DJ::Bj::Bk::ig::gW::fD::eG::G3::G4::G5::G6::G7::G8::G9::Ha::Hb::Hc::Hd::DL::u32::Bm::Bn::Bo::tR::tS::tT::ry::rz::rA::rB::rD::rE::rF::rG::rH::rI::rJ::rK::rL::nM::nN::vv::vx::vy::vz::wg::wh::wk::wm::wo::wq::u64::wu::wy::wz::wD::wE::wF::wG::wH::tU::tV::tW::tX::tY::tZ::ua::ub::uc::Bq::Bs::Bt::Bu::Bv::Bw::By::Bz::BA::BB::BC::BD::BE::BF::BG::BH::BI::BJ::lG::cj::cq::cx::cy::cz::cA::cC::cK::cL::cM::cN::cO::cP::cQ::cR::cU::cV::cW::cX::cY::cD::cE::cF::cZ::da::dc::dd::de::cG::gE::gF::gG::gH::gI::gJ::gK::gL::gM::gN::gO::fC::[]),[]⟩ w2)
  (mW:∀ (sn:Value) (bk:List FG) (w2:W8) (rq rr ru DJ Bj Bk G3 G4 G5 G6 G7 G8 G9 Ha Hb Hc Hd DL u32 Bm Bn Bo tR tS tT ry rz rA rB rD rE rF rG rH rI rJ rK rL nM nN vv vx vy vz wg wh wk wm wo wq u64 wu wy wz wD wE wF wG wH tU tV tW tX tY tZ ua ub uc Bq Bs Bt Bu Bv Bw By Bz BA BB BC BD BE BF BG BH BI BJ lG:Value),z54 w sn bk w2->bk.length<=51->vC (fs.map (·.F)) (j4 ps S (fs.map (·.F)) s n (rs.map (·.R)) 0) []=(bk.map (·.F),true)->Q .ret ⟨List.toArray (.pointer (some ⟨o,0,none⟩)::.slice al fs.length cl::.int .i64 s::.int .i64 n::c4::c5::c6::c7::sn::sn::rq::rr::ru::DJ::Bj::Bk::ig::gW::fD::eG::G3::G4::G5::G6::G7::G8::G9::Ha::Hb::Hc::Hd::DL::u32::Bm::Bn::Bo::tR::tS::tT::ry::rz::rA::rB::rD::rE::rF::rG::rH::rI::rJ::rK::rL::nM::nN::vv::vx::vy::vz::wg::wh::wk::wm::wo::wq::u64::wu::wy::wz::wD::wE::wF::wG::wH::tU::tV::tW::tX::tY::tZ::ua::ub::uc::Bq::Bs::Bt::Bu::Bv::Bw::By::Bz::BA::BB::BC::BD::BE::BF::BG::BH::BI::BJ::lG::cj::cq::cx::cy::cz::cA::cC::cK::cL::cM::cN::cO::cP::cQ::cR::cU::cV::cW::cX::cY::cD::cE::cF::cZ::da::dc::dd::de::cG::gE::gF::gG::gH::gI::gJ::gK::gL::gM::gN::gO::fC::[]),[]⟩ w2):
  Code.wp Tryz.prog (Code.loop (zw0 0)) Q ⟨List.toArray (.pointer (some ⟨o,0,none⟩)::.slice al fs.length cl::.int .i64 s::.int .i64 n::c4::c5::c6::c7::.slice none 0 0::.slice none 0 0::.int .i64 (0:Nat)::ll::gy::gV::ie::fO::ig::gW::fD::eG::eL::eM::eN::eO::eQ::eR::eS::eT::eU::eV::eW::fg::fh::fk::fl::fm::fI::fJ::fK::fP::fQ::fR::fU::fV::fW::dU::fX::fY::fZ::gd::gh::gi::gP::gQ::fE::jq::jr::js::ee::jt::ju::jv::jw::jx::jy::jz::kc::kf::kg::kh::ki::kj::km::kx::ky::kz::kD::kE::kF::kG::kH::kI::iO::iP::iQ::iR::iS::iT::iU::iV::iW::iX::iY::iZ::ja::jb::jc::jd::je::jf::dm::cj::cq::cx::cy::cz::cA::cC::cK::cL::cM::cN::cO::cP::cQ::cR::cU::cV::cW::cX::cY::cD::cE::cF::cZ::da::dc::dd::de::cG::gE::gF::gG::gH::gI::gJ::gK::gL::gM::gN::gO::fC::[]),[]⟩ w1:=by
 conv=>arg 2;arg 1;whnf
 obtain⟨ar,cr,rfl⟩:=zD hC.prog.rules;have nH:=yU hC.prog.rules;unfold maxLen at nH;have HC:=zC hC;have HI:=zC hI;have HX:=zC aT;have HY:=zC mW;clear hC hI aT mW;generalize Ii:vC (fs.map (·.F)) (j4 ps S (fs.map (·.F)) s n (rs.map (·.R)) 0) []=T at HX HY;have Jw:=zC Ii;clear Ii
 go_loopg [8,9,10] rs.length (λ gg v8 v ii wr=>v8=.slice none 0 0/\∃ (i:Nat) (bk:List FG),i<=rs.length/\gg=rs.length-i/\ii=.int .i64 i/\z54 w v bk wr/\bk.length<=51/\vC (fs.map (·.F)) (j4 ps S (fs.map (·.F)) s n ((rs.map (·.R)).drop i) i) (bk.map (·.F))=T)
 exact⟨rfl,0,[],Nat.zero_le _,rfl,rfl,zA HI,by simp,zA Jw⟩
 case round=>
  clear HI Jw;obtain⟨rfl,i,bk,hi,M9,rfl,hI,rY,aE⟩:=hrel;obtain⟨a9,c9,rfl⟩:=zD hI.out.row;have hC:=zA HC;have dg:=hC.prog.kept ((zK.refl [] _).ak hI.below) (by simp);have Yx:=dg.c0;have Yz:=dg.lt;have HI:=zC hI
  by_cases kP:i<rs.length
  ·have Cc:(i:Int)<rs.length:=(by omega);have aP:=zxx (ps:=ps) (S:=S) (l:=fs.map (·.F)) (s:=s) (n:=n) (rs:=rs.map (·.R)) (i:=i) (by simpa using kP);simp only[List.getElem_map] at aP;rw[aP] at aE;have HF:=zC aE;obtain⟨gr,cr',AS,XU,aZ,hnr,Nh,p0,p1,p2,p3,p4,p5⟩:=jC dg.rules i kP;injection AS with q1 q2 q3
   subst q1 q3;have cg:=List.getElem_mem kP;have AM:=dg.each _ cg;obtain⟨ah,ch,e1⟩:=zD AM.hd;obtain⟨ab,cb,e2⟩:=zD AM.bo;have LF:=hI.below.size;rw[e1] at p1;rw[e2] at p5;have kr:=zC cg;have HE:=zC (And.intro e1 e2);clear hC dg hI aP aE AM e1 e2 cg;go_upto_region 5 with fail
   go_cut [11] from 20 to 100 (λ p wc=>p=.pointer (some ⟨wr.heap.size,0,none⟩)/\wc.heap[wr.heap.size]?=some (.cells #[.string rs[i].R.head.pred,.slice ah rs[i].R.head.ae.length ch,.bool rs[i].R.head.no,.int .i64 rs[i].R.head.at_,.int .i64 rs[i].R.head.az,.slice ab rs[i].bs.length cb] 246 (0,0))/\Below wr.heap.size wr wc)
   case first=>
    go_wp2_with fail;go_meet
    case rel=>exact⟨rfl,heap_alloc_new wr _,B9.alloc L9 _⟩
   case rest=>
    generalize wc=wA at *;obtain⟨rfl,CZ,D9⟩:=hcut;have dG:=(zA HI).dQ D9;have hC:=zA HC;have dg:=hC.prog.kept ((zK.refl [] _).ak dG.below) (by simp);have gS:=hC.og.kept ((zK.refl [] _).ak dG.below);obtain⟨r0,-⟩:=zB CZ 0;simp only[List.getElem?_toArray,List.getElem?_cons_zero] at r0;have dK:=(Array.getElem?_eq_some_iff.1 CZ).1;have c3:=dg.c3;have Lh:=dg.lt;have F7:=hC.Ny _ (zA kr);have P3:=vP F7;obtain⟨ix,np⟩:∃ ix:Nat,zM ps rs[i].R.head.pred=(ix:Int):=⟨_,(Int.toNat_of_nonneg F7).symm⟩;have vf:ix<ps.length:=(by omega);have t1:=gS.cell ix vf;have X9:=gS.sz;have rZ:∀ W,Below wA.heap.size wA W->Calls Tryz.prog 135 #[.pointer (some ⟨o,0,none⟩),.string rs[i].R.head.pred] W λ e w'=>e=.returned (.int .i64 (ix:Nat))/\w'=W:=λ W hW=>by
     have:=zcd W o rs ps _ _ _ _ rs[i].R.head.pred (dg.kept ((zK.refl [] _).ak hW) (by simp));rw[np] at this;exact this
    have ni:=zC rZ;have R8:=zC np;have eA:=zC dG;have E9:=zC CZ;have yh:=zC D9;have Yh:(ix:Int)<ps.length:=(by omega);have TU:(0:Int)<=ix:=(by omega);have gR:ps.length<=maxLen:=yU dg.fH;clear dG hC dg gS rZ np CZ D9 F7 P3 HI p0 p1 p2 p3 p4 p5 Yx;go_upto_region 6 with fail
    go_cut [48] from 20 to 100 (λ u wc=>u=.bool ((S ix:Int) != (s:Int))/\Below wA.heap.size wA wc)
    case first=>
     go_region_held3 (λ w'=>w'.cell? ⟨o,3,none⟩=some (.slice (some ⟨gs,0,none⟩) ps.length ps.length)/\w'.cell? ⟨wr.heap.size,0,none⟩=some (.string rs[i].R.head.pred)/\w'.cell? ⟨gs,ix,none⟩=some (.int .i64 (S ix))) (go_keep) ((go_at_call 135;refine (zA ni _ (by exact B9.drew)).mono ?_;rintro e w2 ⟨rfl,rfl⟩))
     all_goals
      go_wp2_with fail;go_meet
      case rel=>exact⟨rfl,B9.drew⟩
    case rest=>
     generalize wc=wB at *;obtain⟨rfl,Ea⟩:=hcut;have gA:=(zA eA).dQ Ea;have kK:=(Ea.block _ dK).trans (zA E9);have KW:wr.heap.size<wB.heap.size:=(by have:=Ea.size;omega);have iC:=zC gA
     cases bF:((S ix:Int) != (s:Int)) with
     | true=>
      have Ld:¬ S ix=s:=by simp at bF;omega
      have aO:=zC (show vC (fs.map (·.F)) (j4 ps S (fs.map (·.F)) s n ((rs.map (·.R)).drop (i+1)) (i+1)) (bk.map (·.F))=T by
       have:=zA HF;rw[zA R8,Int.toNat_natCast,if_neg Ld] at this
       simpa using this)
      clear gA kK HF ni eA E9 yh Ea bF Ld r0 c3 t1;go_wp2_with fail;go_roundg (rs.length-(i+1));exact⟨rfl,i+1,bk,by omega,rfl,by go_num,zA iC,rY,zA aO⟩;omega
     | false=>
      have Ld:S ix=s:=(by simp at bF;omega);have Ib:vC (fs.map (·.F)) ((ze4 rs[i].R (fs.map (·.F))).map (zcq rs[i].R s n i)++j4 ps S (fs.map (·.F)) s n ((rs.map (·.R)).drop (i+1)) (i+1)) (bk.map (·.F))=T:=by
       have:=zA HF;rw[zA R8,Int.toNat_natCast,if_pos Ld] at this;exact this
      have aO:=zC Ib;have hC:=zA HC;obtain⟨e1,e2⟩:=zA HE;have QP:=(hC.prog.each _ (zA kr)).low (Nat.zero_le _);have lj:=(QP.kept ((zK.refl [] _).ak gA.below) (by simp));rw[e1,e2] at lj;have Ky:yaj wB 0 rs[i].R (.slice ah rs[i].R.head.ae.length ch) rs[i].bs (.slice ab rs[i].bs.length cb) fs (.slice al fs.length cl):=⟨lj,(hC.facts.below gA.below).low (Nat.zero_le _),hC.eJ,hC.body _ (zA kr),λ a ha=>hC.ae _ (zA kr) a (List.mem_cons_of_mem _ ha)⟩;have Iz:=z86 wB 0 rs[i].R _ rs[i].bs _ fs al cl Ky (λ x hx a ha=>hC.size _ (zA kr) x hx a (List.mem_cons_of_mem _ ha));unfold zb3 at Iz;have SD:=zC Iz;obtain⟨m0,-⟩:=zB kK 0;obtain⟨m1,-⟩:=zB kK 1;obtain⟨m2,-⟩:=zB kK 2;obtain⟨m3,-⟩:=zB kK 3;obtain⟨m4,-⟩:=zB kK 4;obtain⟨m5,-⟩:=zB kK 5;have vd:=QP.hd;rw[e1] at vd;have Mw:=zC vd;have I3:=zC kK;clear gA kK HF ni eA E9 yh Ea bF Ld r0 c3 t1 Ib hC e1 e2 QP lj Ky Iz vd;go_wp2_with fail;refine (zA SD).mono ?_;rintro e wC ⟨vw,ws,rfl,xr,LD,bM,xq,Po⟩;obtain⟨aw,cw,rfl⟩:=zD xr.row;have xe:=(zA iC).dQ Po;have SS:uJ w wr.heap.size rs[i].R (.slice ah rs[i].R.head.ae.length ch) (.slice ab rs[i].bs.length cb) (.slice aw ws.length cw) ws (.slice a9 bk.length c9) bk wC:=⟨xe.below,LF,(Po.block _ KW).trans (zA I3),xr.low (by have:=(zA iC).below.size;omega),xe.out⟩;have mG:=zC SS;have MN:=zC LD;have DZ:=zC bM;have hC:=zA HC;have bj:∀ x∈ws,(jH (fa x.e rs[i].R.head)).length<=1000000000:=λ x hx=>by
       have h1:x.W∈ze4 rs[i].R (fs.map (·.F)):=(by rw[<-LD];exact List.mem_map_of_mem hx);exact hC.size _ (zA kr) x.W (List.mem_filter.1 h1).1 _ List.mem_cons_self
      have lW:=zC bj;have Oh:=zC (hC.facts.low (Nat.zero_le base));have kN:=hC.eJ;have h4:=hC.ae _ (zA kr) _ List.mem_cons_self;clear hC bj SS xe xr LD bM Po SD m0 m1 m2 m3 m4 m5 I3 iC;go_wp2_with fail;refine ydt w 0 wr.heap.size rs[i].R _ _ fs al cl (zA Oh) kN ws aw cw xq (λ x hx=>(zA DZ x hx).2) (zA Mw) h4 (zA lW) s n i _ _ bk rY rfl wC (zA mG) ?_ ?_
      ·intro v9 tg w9;intros;rename_i Ec Nd hT9;obtain⟨W4,Xe,rfl⟩:=zD Ec.out.row;have Ol:=zC (show z54 w (.slice W4 tg.length Xe) tg w9 from ⟨Ec.below,Ec.out⟩)
       have OT:=zC (show vC (fs.map (·.F)) (j4 ps S (fs.map (·.F)) s n ((rs.map (·.R)).drop (i+1)) (i+1)) (tg.map (·.F))=T by
        rw[zA MN] at hT9
        rw[<-zA aO,zxb _ _ _ (by rw[hT9]),hT9])
       clear Ec hT9 aO MN DZ lW Oh mG;go_wp2_with fail;go_roundg (rs.length-(i+1));exact⟨rfl,i+1,tg,by omega,rfl,by go_num,zA Ol,Nd,zA OT⟩;omega
      ·intro v9 tg w9;intros;rename_i Ec Nd hT9;have Ol:=zC (show z54 w v9 tg w9 from ⟨Ec.below,Ec.out⟩)
       have OT:=zC (show T=(tg.map (·.F),true) by
        rw[zA MN] at hT9
        rw[<-zA aO,zor _ _ _ (by rw[hT9]),hT9])
       clear Ec hT9 aO MN DZ lW Oh mG;go_wp2_with fail;apply zA HY
       ·exact zA Ol
       ·exact Nd
       ·exact zA OT
  ·have HE:=zC (show T=(bk.map (·.F),false) by rw[<-aE,List.drop_of_length_le (by simp;omega)];rfl);clear hI aE hC dg;go_wp2_with fail;apply zA HX
   ·exact zA HI
   ·exact rY
   ·exact zA HE
end
section
open Go.RowKit
variable {a b:zP}
theorem zkx:jD a b=true↔a.s<b.s\/(a.s=b.s/\(a.h<b.h\/(a.h=b.h/\zaf a.text b.text=true))):=by
 unfold jD
 by_cases h1:a.s=b.s
 ·by_cases h2:a.h=b.h
  ·simp[h1,h2]
  ·simp[h1,h2]
 ·simp[h1]
theorem ztr (h:jD a b=true):jD b a=false:=by
 cases h2:jD b a with
 | false=>rfl
 | true=>
  rw[zkx] at h h2;rcases h with h | ⟨h,h' | ⟨h',h3⟩⟩ <;> rcases h2 with g | ⟨g,g' | ⟨g',g3⟩⟩ <;> first | omega | (rw[zyq h3] at g3;cases g3)
theorem zq4 {c:zP}(h1:jD a b=false)(h2:jD b c=false):jD a c=false:=by
 cases h3:jD a c with
 | false=>rfl
 | true=>
  rw[<-Bool.not_eq_true,zkx] at h1 h2;rw[zkx] at h3
  cases l1:zaf a.text b.text with
  | true=>
   rw[l1] at h1
   cases l2:zaf b.text c.text with
   | true=>rw[l2] at h2;simp only[and_true] at h1 h2;omega
   | false=>
    rw[l2] at h2;simp only[and_true,Bool.false_eq_true,and_false,or_false] at h1 h2;rcases h3 with g | ⟨g,g' | ⟨g',_⟩⟩ <;> omega
  | false=>
   rw[l1] at h1
   cases l2:zaf b.text c.text with
   | true=>
    rw[l2] at h2;simp only[and_true,Bool.false_eq_true,and_false,or_false] at h1 h2;rcases h3 with g | ⟨g,g' | ⟨g',_⟩⟩ <;> omega
   | false=>
    rw[l2] at h2;have:=zrp l1 l2;rw[this] at h3;simp only[Bool.false_eq_true,and_false,or_false] at h1 h2 h3;omega
def zdk (zs:List FG):Prop:=zs.Pairwise λ x y=>jD y.F x.F=false
structure IE (A:List FG)(x:FG)(B:List FG):Prop where
 U8:zdk (A++B)
 up:∀ b∈B,jD x.F b.F=true
variable {x:FG} {A B:List FG}
theorem IE.down {a:FG}(h:IE (A++[a]) x B)(hl:jD x.F a.F=true):IE A x (a::B):=
 ⟨by have:=h.U8;simpa using this,λ b hb=>by rcases List.mem_cons.1 hb with rfl | hb;exact hl;exact h.up b hb⟩
theorem IE.done (h:IE A x B)(hl:∀ A' a,A=A'++[a]->jD x.F a.F=false):zdk (A++x::B):=by
 have hr:=h.U8;unfold zdk at hr ⊢;rw[List.pairwise_append] at hr ⊢;obtain⟨hA,hB,Xn⟩:=hr;refine⟨hA,List.pairwise_cons.2 ⟨λ b hb=>ztr (h.up b hb),hB⟩,λ a ha y hy=>?_⟩;rcases List.mem_cons.1 hy with rfl | hy
 ·rcases List.eq_nil_or_concat A with e | ⟨A',a',e⟩
  ·subst e;cases ha
  ·rw[List.concat_eq_append] at e;have h0:=hl A' a' e;subst e;rcases List.mem_append.1 ha with ha | ha
   ·have:=(List.pairwise_append.1 hA).2.2 a ha a' (by simp);exact zq4 h0 this
   ·rw[List.mem_singleton.1 ha];exact h0
 ·exact Xn a ha y hy
theorem zyi (zs:List FG):∀ (i:Nat) (x:FG),i<zs.length->((((((((((zs.flatMap FG.cells).set (i*10) (.string x.F.aj.pred)).set (i*10+1) x.tv).set (i*10+2) (.bool x.F.aj.no)).set (i*10+3) (.int .i64 x.F.aj.at_)).set (i*10+4) (.int .i64 x.F.aj.az)).set (i*10+5) (.string x.F.text)).set (i*10+6) (.int .i64 x.F.s)).set (i*10+7) (.int .i64 x.F.h)).set (i*10+8) (.int .i64 x.F.r)).set (i*10+9) x.fv=(zs.set i x).flatMap FG.cells:=by
 induction zs with
 | nil=>intro i x h;simp at h
 | cons z r ih=>
  intro i x h
  cases i with
  | zero=>simp[FG.cells]
  | succ i=>
   have:=ih i x (by simpa using h);rw[List.set_cons_succ,List.flatMap_cons,List.flatMap_cons,<-this];have e:∀ j,(i+1)*10+j=i*10+j+10:=λ j=>by omega
   have e0:(i+1)*10=i*10+10:=(by omega);rw[e 1,e 2,e 3,e 4,e 5,e 6,e 7,e 8,e 9,e0];simp[FG.cells]
def nL (w:W8)(g k:Nat)(x:FG):W8:=(((((((((w.setCell ⟨g,k*10,none⟩ (.string x.F.aj.pred)).setCell ⟨g,k*10+1,none⟩ x.tv).setCell ⟨g,k*10+2,none⟩ (.bool x.F.aj.no)).setCell ⟨g,k*10+3,none⟩ (.int .i64 x.F.aj.at_)).setCell ⟨g,k*10+4,none⟩ (.int .i64 x.F.aj.az)).setCell ⟨g,k*10+5,none⟩ (.string x.F.text)).setCell ⟨g,k*10+6,none⟩ (.int .i64 x.F.s)).setCell ⟨g,k*10+7,none⟩ (.int .i64 x.F.h)).setCell ⟨g,k*10+8,none⟩ (.int .i64 x.F.r)).setCell ⟨g,k*10+9,none⟩ x.fv
theorem zii (B:List Nat){w:W8}{g:Nat}(hb:g∈B)(k:Nat)(x:FG):zK B w (nL w g k x):=by
 have e:∀ {w':W8} (i:Nat) (u:Value),zK B w w'->zK B w (w'.setCell ⟨g,i,none⟩ u):=λ i u k=>k.setCell (p:=⟨g,i,none⟩) (.inl hb) _
 exact e _ _ (e _ _ (e _ _ (e _ _ (e _ _ (e _ _ (e _ _ (e _ _ (e _ _ (e _ _ (zK.refl B w))))))))))
theorem yZ.nL {w:W8}{base g cap k:Nat}{fs:List FG}{x:FG}(h:yZ w base (.slice (some ⟨g,0,none⟩) fs.length cap) fs)(hk:k<fs.length)(hx:qZ w base x):yZ (nL w g k x) base (.slice (some ⟨g,0,none⟩) fs.length cap) (fs.set k x):=by
 have h1:=vW (vW (vW (vW (vW (vW (vW (vW (vW (vW h.row (k*10) (.string x.F.aj.pred)) (k*10+1) x.tv) (k*10+2) (.bool x.F.aj.no)) (k*10+3) (.int .i64 x.F.aj.at_)) (k*10+4) (.int .i64 x.F.aj.az)) (k*10+5) (.string x.F.text)) (k*10+6) (.int .i64 x.F.s)) (k*10+7) (.int .i64 x.F.h)) (k*10+8) (.int .i64 x.F.r)) (k*10+9) x.fv;rw[zyi _ k x hk] at h1;have kk:zK [g] w (Go.Proofs.YtldkpahaocjdpaaGreat.nL w g k x):=zii [g] (by simp) k x;have n1:∀ b∈[g],dW w 317 b:=λ b hb=>yH h.row (by decide) b (by simpa[Value.ownBlock] using hb)
 have n2:∀ b∈[g],dW w 3 b:=λ b hb=>yH h.row (by decide) b (by simpa[Value.ownBlock] using hb)
 refine⟨by rw[List.length_set];exact h1,λ y hy=>?_⟩;rcases List.mem_or_eq_of_mem_set hy with hy | rfl
 ·exact (h.each y hy).bu kk n1 n2
 ·exact hx.bu kk n1 n2
end
section
open Go.RowKit
theorem zz7 (m:Nat)(h:m<=1000):IntKind.i64.wrap (m:Int)=m:=by
 simp[IntKind.wrap,IntKind.signed,IntKind.bits];omega
variable {k base:Nat} {fs:List FG} {v:Value} {w:W8}
theorem yZ.split (h:yZ w base v fs)(hk:k<fs.length):∃ g cap,v=.slice (some ⟨g,0,none⟩) fs.length cap/\base<=g/\g<w.heap.size/\fs.length<=cap/\cap<=maxLen/\w.heap.size=w.heap.size:=by
 obtain⟨g,cap,hv,hb,hl,hn,hc,_⟩:=zb1 h.row hk;exact⟨g,cap,hv,hb,hl,hn,hc,rfl⟩
variable {x:FG} {g n cap:Nat}
theorem zcg (h:yZ w base (.slice (some ⟨g,0,none⟩) n cap) fs)(hk:k<fs.length)(hx:fs[k]=x):w.cell? ⟨g,k*10,none⟩=some (.string x.F.aj.pred)/\w.cell? ⟨g,k*10+1,none⟩=some x.tv/\w.cell? ⟨g,k*10+2,none⟩=some (.bool x.F.aj.no)/\w.cell? ⟨g,k*10+3,none⟩=some (.int .i64 x.F.aj.at_)/\w.cell? ⟨g,k*10+4,none⟩=some (.int .i64 x.F.aj.az)/\w.cell? ⟨g,k*10+5,none⟩=some (.string x.F.text)/\w.cell? ⟨g,k*10+6,none⟩=some (.int .i64 x.F.s)/\w.cell? ⟨g,k*10+7,none⟩=some (.int .i64 x.F.h)/\w.cell? ⟨g,k*10+8,none⟩=some (.int .i64 x.F.r)/\w.cell? ⟨g,k*10+9,none⟩=some x.fv:=by
 obtain⟨g',dn,hv,_,_,_,_,hc⟩:=zb1 h.row hk;injection hv with q1 q2 q3
 injection q1 with q1
 injection q1 with q1
 subst q1;rw[hx] at hc;exact⟨hc 0 (by decide),hc 1 (by decide),hc 2 (by decide),hc 3 (by decide),hc 4 (by decide),hc 5 (by decide),hc 6 (by decide),hc 7 (by decide),hc 8 (by decide),hc 9 (by decide)⟩
theorem qZ.shape (h:qZ w base x):∃ a1 a2 a3 a4,x.tv=.slice a1 x.F.aj.ae.length a2/\x.fv=.slice a3 x.F.fr.length a4:=by
 obtain⟨a1,a2,e1⟩:=zD h.t;obtain⟨a3,a4,e2⟩:=zD h.i;exact⟨a1,a2,a3,a4,e1,e2⟩
theorem yZ.fz (h:yZ w base (.slice (some ⟨g,0,none⟩) n cap) fs):∀ j,w.frozen? ⟨g,j,none⟩=false:=zif h.row
structure oq (w:W8)(base:Nat)(v:Value)(zs:List FG)(wr:W8):Prop where
 below:Below w.heap.size w wr
 facts:yZ wr base v zs
 ge:w.heap.size<=base
variable {wr:W8} {zs:List FG}
theorem oq.dQ {w':W8}(h:oq w base v zs wr)(k:Below wr.heap.size wr w'):oq w base v zs w':=⟨h.below.trans (k.mono h.below.size),h.facts.below k,h.ge⟩
theorem oq.set {rQ:List FG}(hn:n=zs.length)(h:oq w base (.slice (some ⟨g,0,none⟩) n cap) zs wr)(hk:k<zs.length)(hx:qZ wr base x)(hz:zs.set k x=rQ):oq w base (.slice (some ⟨g,0,none⟩) n cap) rQ (nL wr g k x):=by
 subst hn;subst hz;have hg:base<=g:=(h.facts.row.lt g rfl).1;have qu:=h.ge;exact⟨zY h.below (zii [g] (by simp) k x) h.below.size (λ b hb=>by rw[List.mem_singleton.1 hb];omega),h.facts.nL hk hx,h.ge⟩
theorem ydv (w:W8)(base:Nat)(ag:O8)(n cap:Nat)(K6:n<=1000)(zs:List FG)(y:FG)(C:List FG)(i:Nat)(mQ:zs.length=i)(mz:n=(zs++y::C).length)(oa:zdk zs)(w1:W8)(hI:oq w base (.slice ag n cap) (zs++y::C) w1)
  {Q:Exit->Act->W8->Prop} {c0 c1 c2 c3 c4 c5 c6 c7 c8 gD ll gy gV ie fO fD eG eL eM eN eO eQ eR eS eT eU eV eW fg fh fk fl fm fI fJ fK fP fQ fR fU fV fW dU fX fY fZ gd gh gi gP gQ fE jq jr js ee jt ju jv jw jx jy jz kc kf kg kh ki kj km kx ky kz kD kE kF kG kH kI iO iP iQ iR iS iT iU iV iW iX iY iZ ja jb jc jd je jf dm cj cq cx cy cz cA cC cK cL cM cN cO cP cQ cR cU cV cW cX cY cD cE cF cZ da dc dd de cG gE gF gG gH gI gJ gK gL gM gN gO fC:Value}
  (aT:∀ (rQ:List FG) (w2:W8) (Bl DK Mb oT oU oV oW oX oY oZ o5 o6 o7 o8 pe pg tC tD tE ph pj pk pn po tF tG tH tI tJ tK tL tM tN tO tP tQ:Value),oq w base (.slice ag n cap) (rQ++C) w2->zdk rQ->rQ.Perm (zs++[y])->Q (.exit 6) ⟨List.toArray (c0::c1::c2::c3::c4::c5::c6::c7::c8::.slice ag n cap::gD::ll::gy::gV::ie::fO::.int .i64 i::Bl::DK::Mb::eL::eM::eN::eO::eQ::eR::eS::eT::eU::eV::eW::fg::fh::fk::fl::fm::fI::fJ::fK::fP::fQ::fR::fU::fV::fW::dU::fX::fY::fZ::gd::gh::gi::gP::gQ::fE::jq::jr::js::ee::jt::ju::jv::jw::jx::jy::jz::kc::kf::kg::kh::ki::kj::km::kx::ky::kz::kD::kE::kF::kG::kH::kI::iO::iP::iQ::iR::iS::iT::iU::iV::iW::iX::iY::iZ::ja::jb::jc::jd::je::jf::dm::cj::cq::cx::cy::cz::cA::cC::oT::oU::oV::oW::oX::oY::oZ::o5::o6::o7::o8::pe::pg::tC::tD::tE::ph::pj::pk::pn::po::tF::tG::tH::tI::tJ::tK::tL::tM::tN::tO::tP::tQ::fC::[]),[]⟩ w2):
  Code.wp Tryz.prog (Code.loop (zw0 3)) Q ⟨List.toArray (c0::c1::c2::c3::c4::c5::c6::c7::c8::.slice ag n cap::gD::ll::gy::gV::ie::fO::.int .i64 i::.int .i64 i::fD::eG::eL::eM::eN::eO::eQ::eR::eS::eT::eU::eV::eW::fg::fh::fk::fl::fm::fI::fJ::fK::fP::fQ::fR::fU::fV::fW::dU::fX::fY::fZ::gd::gh::gi::gP::gQ::fE::jq::jr::js::ee::jt::ju::jv::jw::jx::jy::jz::kc::kf::kg::kh::ki::kj::km::kx::ky::kz::kD::kE::kF::kG::kH::kI::iO::iP::iQ::iR::iS::iT::iU::iV::iW::iX::iY::iZ::ja::jb::jc::jd::je::jf::dm::cj::cq::cx::cy::cz::cA::cC::cK::cL::cM::cN::cO::cP::cQ::cR::cU::cV::cW::cX::cY::cD::cE::cF::cZ::da::dc::dd::de::cG::gE::gF::gG::gH::gI::gJ::gK::gL::gM::gN::gO::fC::[]),[]⟩ w1:=by
 conv=>arg 2;arg 1;whnf
 have HI:=zC hI;have HX:=zC aT;have MD:=zC mz;have My:=zC mQ;have uM:=zC oa;have ax:i<=1000:=by rw[List.length_append,List.length_cons] at mz;omega
 clear hI aT mz mQ oa
 go_loopg [17] i (λ gg kk wr=>∃ (A:List FG) (x:FG) (B:List FG),gg=A.length/\kk=.int .i64 A.length/\A.length<=i/\oq w base (.slice ag n cap) (A++x::(B++C)) wr/\IE A x B/\(A++x::B).Perm (zs++[y]))
 exact⟨zs,y,[],(zA My).symm,by rw[zA My],Nat.le_of_eq (zA My),zA HI,⟨by rw[List.append_nil];exact zA uM,by simp⟩,List.Perm.refl _⟩
 case round=>
  clear HI uM My;obtain⟨A,x,B,TS,rfl,S6,hI,C9,bV⟩:=hrel;rcases List.eq_nil_or_concat A with e | ⟨A',a,e⟩
  ·subst e;have HI:=zC (show oq w base (.slice ag n cap) ((x::B)++C) wr from hI);have HS:=zC (show zdk (x::B) from C9.done (λ A' a h=>by simp at h));have HP:=zC (show (x::B).Perm (zs++[y]) from bV);clear hI C9 bV;go_wp2_with fail;apply zA HX
   ·exact zA HI
   ·exact zA HS
   ·exact zA HP
  ·rw[List.concat_eq_append] at e;subst e;have nG:n=(A'++a::x::(B++C)).length:=by
    have h1:=zA MD;have h2:=bV.length_eq;simp only[List.length_append,List.length_cons,List.length_nil] at h1 h2 ⊢;omega
   have B7:oq w base (.slice ag n cap) (A'++a::x::(B++C)) wr:=(by simpa using hI);have Pn:(A'++[a]).length=A'.length+1:=(by simp);rw[Pn];rw[Pn] at TS S6;have gR:A'.length+1<(A'++a::x::(B++C)).length:=(by simp);have T8:A'.length<(A'++a::x::(B++C)).length:=(by simp);have gx:(A'++a::x::(B++C))[A'.length+1]=x:=(by simp);have ga:(A'++a::x::(B++C))[A'.length]=a:=(by simp);have aB:=B7.facts.row;rw[nG] at B7;obtain⟨g,dn,hv,XR,aZ,bO,bQ,-⟩:=B7.facts.split gR;injection hv with q1 q2 q3
   subst q1 q3;rw[<-nG] at B7;have vm:n<=cap:=(by rw[nG];exact bO);obtain⟨x1,x2,x3,x4,yw,yx⟩:=(B7.facts.each x (by simp)).shape;obtain⟨a1,a2,a3,a4,yu,yv⟩:=(B7.facts.each a (by simp)).shape;obtain⟨p0,p1,p2,p3,p4,p5,p6,p7,p8,p9⟩:=zcg B7.facts gR gx;obtain⟨r0,r1,r2,r3,r4,r5,r6,r7,r8,r9⟩:=zcg B7.facts T8 ga;rw[yw] at p1;rw[yx] at p9;rw[yu] at r1;rw[yv] at r9;have pD:A'.length+1<n:=(by rw[nG];exact gR);have HI:=zC B7;have wS:=zC nG;have Cy:=zC C9;have ui:=zC bV;have I9:=zC (And.intro (And.intro yw yx) (And.intro yu yv));obtain⟨m,hm⟩:∃ m,A'.length=m:=⟨_,rfl⟩;rw[hm] at p0 p1 p2 p3 p4 p5 p6 p7 p8 p9 r0 r1 r2 r3 r4 r5 r6 r7 r8 r9 pD TS S6 ⊢;have HM:=zC hm;have Ed:((m+1:Nat):Int)=(m:Int)+1:=(by omega);rw[Ed];clear Ed;have w0:IntKind.i64.wrap (m:Int)=m:=zz7 m (by omega);have EP:IntKind.i64.wrap ((m:Int)+1-1)=m:=(by rw[Int.add_sub_cancel];exact w0);have i1:(m:Int)+1<n:=(by omega);have i2:(m:Int)<n:=(by omega);have i3:(0:Int)<(m:Int)+1:=(by omega);have i4:(0:Int)<=(m:Int)+1:=(by omega);clear hI B7 aB nG C9 bV Pn gR T8 gx ga yw yx yu yv hm bO;have ou:=zC (Below.refl wr.heap.size wr);go_upto_region 23 with fail
   go_cut [18] from 108 to 140 (λ u wc=>u=.bool (jD x.F a.F)/\Below wr.heap.size wr wc)
   case first=>
     have Fl:Hid (∀ W w':W8,Below wr.heap.size wr W->Below W.heap.size W w'->w'.cell? ⟨g,(m+1)*10,none⟩=some (.string x.F.aj.pred)/\w'.cell? ⟨g,(m+1)*10+1,none⟩=some (.slice x1 x.F.aj.ae.length x2)/\w'.cell? ⟨g,(m+1)*10+2,none⟩=some (.bool x.F.aj.no)/\w'.cell? ⟨g,(m+1)*10+3,none⟩=some (.int .i64 x.F.aj.at_)/\w'.cell? ⟨g,(m+1)*10+4,none⟩=some (.int .i64 x.F.aj.az)/\w'.cell? ⟨g,(m+1)*10+5,none⟩=some (.string x.F.text)/\w'.cell? ⟨g,(m+1)*10+6,none⟩=some (.int .i64 x.F.s)/\w'.cell? ⟨g,(m+1)*10+7,none⟩=some (.int .i64 x.F.h)/\w'.cell? ⟨g,(m+1)*10+8,none⟩=some (.int .i64 x.F.r)/\w'.cell? ⟨g,(m+1)*10+9,none⟩=some (.slice x3 x.F.fr.length x4)/\w'.cell? ⟨g,m*10,none⟩=some (.string a.F.aj.pred)/\w'.cell? ⟨g,m*10+1,none⟩=some (.slice a1 a.F.aj.ae.length a2)/\w'.cell? ⟨g,m*10+2,none⟩=some (.bool a.F.aj.no)/\w'.cell? ⟨g,m*10+3,none⟩=some (.int .i64 a.F.aj.at_)/\w'.cell? ⟨g,m*10+4,none⟩=some (.int .i64 a.F.aj.az)/\w'.cell? ⟨g,m*10+5,none⟩=some (.string a.F.text)/\w'.cell? ⟨g,m*10+6,none⟩=some (.int .i64 a.F.s)/\w'.cell? ⟨g,m*10+7,none⟩=some (.int .i64 a.F.h)/\w'.cell? ⟨g,m*10+8,none⟩=some (.int .i64 a.F.r)/\w'.cell? ⟨g,m*10+9,none⟩=some (.slice a3 a.F.fr.length a4)):=zC (λ W w' h1 h2=>by
      have hB:=h1.trans (h2.mono h1.size)
      exact⟨(hB.cell (by simpa using aZ)).trans p0,(hB.cell (by simpa using aZ)).trans p1,(hB.cell (by simpa using aZ)).trans p2,(hB.cell (by simpa using aZ)).trans p3,(hB.cell (by simpa using aZ)).trans p4,(hB.cell (by simpa using aZ)).trans p5,(hB.cell (by simpa using aZ)).trans p6,(hB.cell (by simpa using aZ)).trans p7,(hB.cell (by simpa using aZ)).trans p8,(hB.cell (by simpa using aZ)).trans p9,(hB.cell (by simpa using aZ)).trans r0,(hB.cell (by simpa using aZ)).trans r1,(hB.cell (by simpa using aZ)).trans r2,(hB.cell (by simpa using aZ)).trans r3,(hB.cell (by simpa using aZ)).trans r4,(hB.cell (by simpa using aZ)).trans r5,(hB.cell (by simpa using aZ)).trans r6,(hB.cell (by simpa using aZ)).trans r7,(hB.cell (by simpa using aZ)).trans r8,(hB.cell (by simpa using aZ)).trans r9⟩)
     go_region_held3 (λ w'=>w'.cell? ⟨g,(m+1)*10,none⟩=some (.string x.F.aj.pred)/\w'.cell? ⟨g,(m+1)*10+1,none⟩=some (.slice x1 x.F.aj.ae.length x2)/\w'.cell? ⟨g,(m+1)*10+2,none⟩=some (.bool x.F.aj.no)/\w'.cell? ⟨g,(m+1)*10+3,none⟩=some (.int .i64 x.F.aj.at_)/\w'.cell? ⟨g,(m+1)*10+4,none⟩=some (.int .i64 x.F.aj.az)/\w'.cell? ⟨g,(m+1)*10+5,none⟩=some (.string x.F.text)/\w'.cell? ⟨g,(m+1)*10+6,none⟩=some (.int .i64 x.F.s)/\w'.cell? ⟨g,(m+1)*10+7,none⟩=some (.int .i64 x.F.h)/\w'.cell? ⟨g,(m+1)*10+8,none⟩=some (.int .i64 x.F.r)/\w'.cell? ⟨g,(m+1)*10+9,none⟩=some (.slice x3 x.F.fr.length x4)/\w'.cell? ⟨g,m*10,none⟩=some (.string a.F.aj.pred)/\w'.cell? ⟨g,m*10+1,none⟩=some (.slice a1 a.F.aj.ae.length a2)/\w'.cell? ⟨g,m*10+2,none⟩=some (.bool a.F.aj.no)/\w'.cell? ⟨g,m*10+3,none⟩=some (.int .i64 a.F.aj.at_)/\w'.cell? ⟨g,m*10+4,none⟩=some (.int .i64 a.F.aj.az)/\w'.cell? ⟨g,m*10+5,none⟩=some (.string a.F.text)/\w'.cell? ⟨g,m*10+6,none⟩=some (.int .i64 a.F.s)/\w'.cell? ⟨g,m*10+7,none⟩=some (.int .i64 a.F.h)/\w'.cell? ⟨g,m*10+8,none⟩=some (.int .i64 a.F.r)/\w'.cell? ⟨g,m*10+9,none⟩=some (.slice a3 a.F.fr.length a4)) (go_keep) ((go_at_call 231;refine (z03 _ x.F a.F x1 x3 a1 a3 _ _ _ _ x2 x4 a2 a4).mono ?_;rintro e w2 ⟨rfl,aK⟩;obtain⟨m0,m1,m2,m3,m4,m5,m6,m7,m8,m9,m10,m11,m12,m13,m14,m15,m16,m17,m18,m19⟩:=zA Fl _ _ (by exact B9.drew) aK;have ir:=zC ((Below.refl wr.heap.size wr).drew.trans (aK.mono (by exact Nat.le_refl _)));clear aK))
     all_goals
      go_wp2_with fail;go_meet
      case rel=>exact⟨rfl,zA ir⟩
   case rest=>
    generalize wc=wA at *;obtain⟨rfl,D9⟩:=hcut;have J5:=(zA HI).dQ D9;have Mx:=zC J5;clear p0 p1 p2 p3 p4 p5 p6 p7 p8 p9 r0 r1 r2 r3 r4 r5 r6 r7 r8 r9 ou
    cases hah:jD x.F a.F with
    | false=>
     have HS:=zC (show zdk (A'++a::x::B) by
      have:=(zA Cy).done (λ A2 a2 h=>by
       have:=List.append_inj' h rfl;have h2:a=a2:=by simpa using this.2
       rw[<-h2];exact hah)
      simpa using this)
     have HP:=zC (show (A'++a::x::B).Perm (zs++[y]) by simpa using zA ui);have eA:=zC (show oq w base (.slice (some ⟨g,0,none⟩) n cap) ((A'++a::x::B)++C) wA by simpa using J5);clear J5 Cy ui hah D9;go_wp2_with fail;apply zA HX
     ·exact zA eA
     ·exact zA HS
     ·exact zA HP
    | true=>
     have tf:(A'++a::x::(B++C))[m+1]'(by have:=zA HM;simp;omega)=x:=by
      have:=zA HM;subst this;simp
     have zi:(A'++a::x::(B++C))[m]'(by have:=zA HM;simp;omega)=a:=by
      have:=zA HM;subst this;simp
     obtain⟨⟨yw,yx⟩,⟨yu,yv⟩⟩:=zA I9;obtain⟨p0,p1,p2,p3,p4,p5,p6,p7,p8,p9⟩:=zcg J5.facts _ tf;rw[yw] at p1;rw[yx] at p9;have Ct:=zC ((zA Cy).down hah)
     have px:=zC (show (A'++x::(a::B)).Perm (zs++[y]) from by
      refine List.Perm.trans ?_ (zA ui);rw[List.append_assoc]
      exact List.Perm.append_left _ (List.Perm.swap _ _ _))
     have XQ:g<wA.heap.size:=(by have:=D9.size;omega);clear J5 Cy ui hah D9 tf zi yw yx yu yv;go_upto_region 25 with fail
     go_cut [19] from 108 to 140 (λ u wc=>u=.pointer (some ⟨wA.heap.size,0,none⟩)/\wc.heap[wA.heap.size]?=some (.cells #[.string x.F.aj.pred,.slice x1 x.F.aj.ae.length x2,.bool x.F.aj.no,.int .i64 x.F.aj.at_,.int .i64 x.F.aj.az,.string x.F.text,.int .i64 x.F.s,.int .i64 x.F.h,.int .i64 x.F.r,.slice x3 x.F.fr.length x4] 262 (0,0))/\Below wA.heap.size wA wc)
     case first=>
      go_wp2_with fail;go_meet
      case rel=>exact⟨rfl,heap_alloc_new wA _,B9.alloc L9 _⟩
     case rest=>
      generalize wc=wB at *;obtain⟨rfl,Dy,Ea⟩:=hcut;have CM:=(zA Mx).dQ Ea;obtain⟨⟨yw,yx⟩,⟨yu,yv⟩⟩:=zA I9;have Gh:m+1<(A'++a::x::(B++C)).length:=(by have:=zA HM;simp;omega);have Ip:m<(A'++a::x::(B++C)).length:=(by have:=zA HM;simp;omega);have tf:(A'++a::x::(B++C))[m+1]=x:=by
       have:=zA HM;subst this;simp
      have zi:(A'++a::x::(B++C))[m]=a:=by
       have:=zA HM;subst this;simp
      obtain⟨s0,s1,s2,s3,s4,s5,s6,s7,s8,s9⟩:=zcg CM.facts Gh tf;obtain⟨r0,r1,r2,r3,r4,r5,r6,r7,r8,r9⟩:=zcg CM.facts Ip zi;rw[yu] at r1;rw[yv] at r9;have fz:=CM.facts.fz;have jn:(A'++a::x::(B++C)).set (m+1) a=A'++a::a::(B++C):=by
       have:=zA HM;subst this;simp
      have hR:=oq.set (x:=a) (zA wS) CM Gh (CM.facts.each a (by simp)) jn;have FM:qZ (nL wB g (m+1) a) base x:=(CM.facts.each x (by simp)).bu (zii [g] (by simp) (m+1) a) (λ b hb=>yH CM.facts.row (by decide) b (by simpa[Value.ownBlock] using hb)) (λ b hb=>yH CM.facts.row (by decide) b (by simpa[Value.ownBlock] using hb));have Nc:(nL wB g (m+1) a).heap[wA.heap.size]?=some (.cells #[.string x.F.aj.pred,.slice x1 x.F.aj.ae.length x2,.bool x.F.aj.no,.int .i64 x.F.aj.at_,.int .i64 x.F.aj.az,.string x.F.text,.int .i64 x.F.s,.int .i64 x.F.h,.int .i64 x.F.r,.slice x3 x.F.fr.length x4] 262 (0,0)):=by
       rw[(zii [g] (by simp) (m+1) a).block _ (Array.getElem?_eq_some_iff.1 Dy).1 (by simp;omega)];exact Dy
      unfold nL at hR Nc FM;rw[yu,yv] at hR Nc FM;have R6:=zC FM;have HR:=zC hR;have Sf:=zC Nc;clear CM Dy Ea Gh Ip tf zi jn hR Nc FM p0 p1 p2 p3 p4 p5 p6 p7 p8 p9 yw yx yu yv Mx;go_upto_region 26 with fail
      go_cut [] from 108 to 140 (λ wc=>oq w base (.slice (some ⟨g,0,none⟩) n cap) (A'++a::a::(B++C)) wc/\qZ wc base x/\wc.heap[wA.heap.size]?=some (.cells #[.string x.F.aj.pred,.slice x1 x.F.aj.ae.length x2,.bool x.F.aj.no,.int .i64 x.F.aj.at_,.int .i64 x.F.aj.az,.string x.F.text,.int .i64 x.F.s,.int .i64 x.F.h,.int .i64 x.F.r,.slice x3 x.F.fr.length x4] 262 (0,0)))
      case first=>
       go_wp2_with fail;go_meet
       case rel=>exact⟨zA HR,zA R6,zA Sf⟩
      case rest=>
       generalize wc=wC at *;obtain⟨MV,FM,AW⟩:=hcut;clear HR Sf R6 s0 s1 s2 s3 s4 s5 s6 s7 s8 s9 r0 r1 r2 r3 r4 r5 r6 r7 r8 r9 fz;obtain⟨⟨yw,yx⟩,⟨yu,yv⟩⟩:=zA I9;have Ip:m<(A'++a::a::(B++C)).length:=(by have:=zA HM;simp;omega);have zi:(A'++a::a::(B++C))[m]=a:=by
        have:=zA HM;subst this;simp
       obtain⟨r0,r1,r2,r3,r4,r5,r6,r7,r8,r9⟩:=zcg MV.facts Ip zi;obtain⟨s0,-⟩:=zB AW 0;obtain⟨s1,-⟩:=zB AW 1;obtain⟨s2,-⟩:=zB AW 2;obtain⟨s3,-⟩:=zB AW 3;obtain⟨s4,-⟩:=zB AW 4;obtain⟨s5,-⟩:=zB AW 5;obtain⟨s6,-⟩:=zB AW 6;obtain⟨s7,-⟩:=zB AW 7;obtain⟨s8,-⟩:=zB AW 8;obtain⟨s9,-⟩:=zB AW 9;have fz:=MV.facts.fz;have jn:(A'++a::a::(B++C)).set m x=A'++x::a::(B++C):=by
        have:=zA HM;subst this;simp
       have hlen:n=(A'++a::a::(B++C)).length:=(by have:=zA wS;simp at this ⊢;omega);have hR:=oq.set (x:=x) hlen MV Ip FM jn;unfold nL at hR;rw[yw,yx] at hR;have HR:=zC (show oq w base (.slice (some ⟨g,0,none⟩) n cap) (A'++x::((a::B)++C)) _ from hR);clear MV FM AW Ip zi jn hlen hR yw yx yu yv;go_wp2_with fail;go_roundg m;exact⟨A',x,a::B,(zA HM).symm,by rw[zA HM],by rw[zA HM];omega,zA HR,zA Ct,zA px⟩;omega
end
end Go.Proofs.YtldkpahaocjdpaaGreat
