/-
  The reference's Explain: which facts are told.
-/
import Derived.Test.YtldkpahaocjdpaaGreatE43
set_option maxHeartbeats 16000000
set_option maxRecDepth 1000000
namespace Go.Proofs.YtldkpahaocjdpaaGreat
section
open Go.RowKit
noncomputable def ybx (k:Nat):Code:=((Tryz.f91.body.map zdo).getD []).getD k .skip
def lS (l:List zP)(i:Nat):Nat:=(l[i]?.map (·.s)).getD 0
def lH (l:List zP)(i:Nat):Nat:=(l[i]?.map (·.h)).getD 0
def lF (l:List zP)(i:Nat):List Nat:=(l[i]?.map (·.fr)).getD []
def zbf (B:Nat->Bool)(i:Nat)(v:Bool):Nat->Bool:=λ j=>if j=i then v else B j
def vR (B:Nat->Bool)(fr:List Nat):Nat->Bool:=fr.foldl (λ B x=>zbf B x true) B
def IM (l:List zP)(s:Nat)(B:Nat->Bool)(i:Nat):Nat->Bool:=if (B i||decide (lS l i<s))=true then vR (zbf B i true) (lF l i) else zbf B i false
def zin (l:List zP)(s:Nat):Nat->(Nat->Bool)->Nat->Bool
 | 0,B=>B
 | i+1,B=>zin l s i (IM l s B i)
variable {B:Nat->Bool} {gb n:Nat} {w:W8}
theorem zq.set (h:zq w gb n B)(i:Nat)(v:Bool)(hi:i<n):zq (w.setCell ⟨gb,i,none⟩ (.bool v)) gb n (zbf B i v):=by
 refine⟨by simpa using h.sz,λ a ha=>?_,λ j=>by simpa using h.fz j⟩
 by_cases e:a=i
 ·subst e;rw[Gi (h.cell a ha)];simp[zbf]
 ·rw[zal (by omega),h.cell a ha];simp[zbf,e]
theorem zq.eq {B':Nat->Bool}(h:zq w gb n B)(e:∀ i,i<n->B i=B' i):zq w gb n B':=⟨h.sz,λ i hi=>by rw[h.cell i hi,e i hi],h.fz⟩
theorem zhy {i:Nat}:∀ (fr:List Nat) (B:Nat->Bool),B i=true->vR B fr i=true
 | [],_,h=>h
 | x::r,B,h=>zhy r _ (by show zbf B x true i=true;unfold zbf;split <;> simp[h])
theorem zij {fr:List Nat}{j:Nat}(h:j<fr.length):vR B (fr.take (j+1))=zbf (vR B (fr.take j)) fr[j] true:=by
 unfold vR;rw[List.take_succ_eq_append_getElem h,List.foldl_append];rfl
structure me (w0:W8)(n:Nat)(B:Nat->Bool)(wr:W8):Prop where
 below:Below w0.heap.size w0 wr
 row:zq wr w0.heap.size n B
theorem me.set {w0 wr:W8}(h:me w0 n B wr)(i:Nat)(v:Bool)(hi:i<n):me w0 n (zbf B i v) (wr.setCell ⟨w0.heap.size,i,none⟩ (.bool v)):=⟨h.below.setCell L9 _,h.row.set i v hi⟩
theorem ydl (w0 w:W8)(base k:Nat)(al:O8)(cl:Nat)(fs:List FG)(hf:xB w0 base (.slice al fs.length cl) fs)(kn:fs.length<=50)(B:Nat->Bool)(hI:me w0 fs.length B w)
  {Q:Exit->Act->W8->Prop} {c0 c1 c2 c3 c4 c5 c6 c7 c8 c9 gS gV gw gZ fE eH eZ fc eW eT eL eV eX eY eO eR eQ fh fj fo ft fk fJ fL fI fY fQ fO gq fV gu dT gd fM gn fP fN fZ gN gQ fG jv jq jr ee kf jt km kg jw ju ko kc jz jy kq js jx ki kH kL kR kD kI kX kZ kr kz iZ jh iW iV iT iO jm iP jf jl jo iQ jd jb je iY jc ji dq cF cC cx cE cA cD cy cM cU de cL cN cK dg cZ cO da cR dc cJ cG cH cj cW cV cP cX dd cq gR gI gG gO gH gE gM gJ gF gC gK fH wF uR wN vp vz vm uP vg rr qn qd rh pY rJ pR rP rI qo qj rL rQ rN:Value}
  (aT:∀ (w2:W8) (u16 tM tE sK sN tR tP sU tW sS BP BJ yr Al Bs AP BI:Value),me w0 fs.length (λ i=>decide (lS (fs.map (·.F)) i<k)) w2->Q (.exit 0) ⟨List.toArray (c0::c1::c2::c3::c4::c5::c6::c7::c8::c9::gS::.slice al fs.length cl::.slice (some ⟨w0.heap.size,0,none⟩) fs.length fs.length::gV::.int .i64 k::gw::u16::gZ::fE::eH::eZ::fc::eW::eT::eL::eV::eX::eY::eO::eR::eQ::fh::fj::fo::ft::fk::fJ::fL::fI::fY::fQ::fO::gq::fV::gu::dT::gd::fM::gn::fP::fN::fZ::gN::gQ::fG::jv::jq::jr::ee::kf::jt::km::kg::jw::ju::ko::kc::jz::jy::kq::js::jx::ki::tM::tE::sK::sN::tR::tP::sU::tW::sS::BP::BJ::yr::Al::Bs::AP::BI::iP::jf::jl::jo::iQ::jd::jb::je::iY::jc::ji::dq::cF::cC::cx::cE::cA::cD::cy::cM::cU::de::cL::cN::cK::dg::cZ::cO::da::cR::dc::cJ::cG::cH::cj::cW::cV::cP::cX::dd::cq::gR::gI::gG::gO::gH::gE::gM::gJ::gF::gC::gK::fH::wF::uR::wN::vp::vz::vm::uP::vg::rr::qn::qd::rh::pY::rJ::pR::rP::rI::qo::qj::rL::rQ::rN::[]),[]⟩ w2):
  Code.wp Tryz.prog (Code.loop (ybx 0)) Q ⟨List.toArray (c0::c1::c2::c3::c4::c5::c6::c7::c8::c9::gS::.slice al fs.length cl::.slice (some ⟨w0.heap.size,0,none⟩) fs.length fs.length::gV::.int .i64 k::gw::.int .i64 0::gZ::fE::eH::eZ::fc::eW::eT::eL::eV::eX::eY::eO::eR::eQ::fh::fj::fo::ft::fk::fJ::fL::fI::fY::fQ::fO::gq::fV::gu::dT::gd::fM::gn::fP::fN::fZ::gN::gQ::fG::jv::jq::jr::ee::kf::jt::km::kg::jw::ju::ko::kc::jz::jy::kq::js::jx::ki::kH::kL::kR::kD::kI::kX::kZ::kr::kz::iZ::jh::iW::iV::iT::iO::jm::iP::jf::jl::jo::iQ::jd::jb::je::iY::jc::ji::dq::cF::cC::cx::cE::cA::cD::cy::cM::cU::de::cL::cN::cK::dg::cZ::cO::da::cR::dc::cJ::cG::cH::cj::cW::cV::cP::cX::dd::cq::gR::gI::gG::gO::gH::gE::gM::gJ::gF::gC::gK::fH::wF::uR::wN::vp::vz::vm::uP::vg::rr::qn::qd::rh::pY::rJ::pR::rP::rI::qo::qj::rL::rQ::rN::[]),[]⟩ w:=by
 conv=>arg 2;arg 1;whnf
 have HF:=zC hf;have HX:=zC aT;have HI:=zC hI;clear hf aT hI
 go_loopg [16] fs.length (λ gg ii wr=>∃ (i:Nat) (B':Nat->Bool),i<=fs.length/\gg=fs.length-i/\ii=.int .i64 i/\me w0 fs.length B' wr/\∀ j,j<i->B' j=decide (lS (fs.map (·.F)) j<k))
 exact⟨0,B,Nat.zero_le _,rfl,rfl,zA HI,λ j hj=>by omega⟩
 case round=>
  clear HI;obtain⟨i,B',mO,bS,rfl,ax,hj⟩:=hrel;have bj:=ax.below.size
  by_cases aF:i<fs.length
  ·have mP:=(zA HF).below ax.below;obtain⟨g,cap,hv,-,aZ,bO,bP,hc⟩:=zb0 mP.row aF;injection hv with h1 h2 h3
   subst h1 h3;have p6:=hc 6 (by omega);simp only[FG.cells,List.getElem?_cons_zero,List.getElem?_cons_succ] at p6;have C5:g<w0.heap.size:=((zA HF).row.lt g rfl).2;have ua:=ax.row.cell i aF;have Uw:=ax.row.fz i;have lz:=ax.row.sz;have IL:lS (fs.map (·.F)) i=fs[i].F.s:=by unfold lS;rw[List.getElem?_map,List.getElem?_eq_getElem aF];rfl
   have HE:=zC (λ (b:Bool) (hb:b=decide (fs[i].F.s<k))=>(show ∀ j,j<i+1->zbf B' i b j=decide (lS (fs.map (·.F)) j<k) from λ j h=>by
    unfold zbf
    split
    ·rename_i e;subst e;rw[IL];exact hb
    ·exact hj j (by omega)))
   have HS:=zC (λ b:Bool=>ax.set i b aF);clear hc mP ax hj IL;generalize fs[i].F.s=si at *
   by_cases lX:si<k
   ·have F3:(si:Int)<k:=(by omega);go_wp2_with fail;go_roundg (fs.length-(i+1));exact⟨i+1,_,by omega,rfl,by go_num,zA HS true,zA HE true (by simp[lX])⟩;omega
   ·have F3:¬ (si:Int)<k:=(by omega);go_wp2_with fail;go_roundg (fs.length-(i+1));exact⟨i+1,_,by omega,rfl,by go_num,zA HS false,zA HE false (by simp[lX])⟩;omega
  ·have hi:i=fs.length:=(by omega);subst hi;have HE:=zC (show me w0 fs.length (λ i=>decide (lS (fs.map (·.F)) i<k)) wr from ⟨ax.below,ax.row.eq hj⟩);clear ax hj;go_wp2_with fail;apply zA HX;exact zA HE
theorem ybs (w0 w:W8)(base g i cl:Nat)(fs:List FG)(hf:xB w0 base (.slice (some ⟨g,0,none⟩) fs.length cl) fs)(hi:i<fs.length)(lR:∀ x∈fs[i].F.fr,x<fs.length)(B:Nat->Bool)(hI:me w0 fs.length B w)
  {Q:Exit->Act->W8->Prop} {c0 c1 c2 c3 c4 c5 c6 c7 c8 c9 gS gV ij gw il eH eZ fc eW eT eL eV eX eY eO eR eQ fh fj fo ft fk fJ fL fI fY fQ fO gq fV gu dT gd fM gn fP fN fZ gN gQ fG jv jq jr ee kf jt km kg jw ju ko kc jz jy kq js jx ki kH kL kR kD kI kX kZ kr kz iZ jh iW iV iT iO jm iP jf jl jo iQ jd jb je iY jc ji dq cF cC cx cE cA cD cy cM cU de cL cN cK dg cZ cO da cR dc cJ cG cH cj cW cV cP cX dd cq gR gI gG gO gH gE gM gJ gF gC gK fH wF uR wN vp vz vm uP vg rr qn qd rh pY rJ pR rP rI qo qj rL rQ rN:Value}
  (aT:∀ (w2:W8) (Cv ox o7 oO po oz sY tf tS tU tT tm tX tu tA sD sV tO Fw F2 FL FJ GI FR GV G0 E8:Value),me w0 fs.length (if B i=true then vR B fs[i].F.fr else B) w2->Q (.exit 4) ⟨List.toArray (c0::c1::c2::c3::c4::c5::c6::c7::c8::c9::gS::.slice (some ⟨g,0,none⟩) fs.length cl::.slice (some ⟨w0.heap.size,0,none⟩) fs.length fs.length::gV::ij::gw::il::.int .i64 i::Cv::eH::eZ::fc::eW::eT::eL::eV::eX::eY::eO::eR::eQ::fh::fj::fo::ft::fk::fJ::fL::fI::fY::fQ::fO::gq::fV::gu::dT::gd::fM::gn::fP::fN::fZ::gN::gQ::fG::jv::jq::jr::ee::kf::jt::km::kg::jw::ju::ko::kc::jz::jy::kq::js::jx::ki::kH::kL::kR::kD::kI::kX::kZ::kr::kz::iZ::jh::iW::iV::iT::iO::jm::iP::jf::jl::jo::iQ::jd::jb::je::iY::jc::ji::dq::cF::cC::cx::cE::cA::cD::cy::cM::cU::de::cL::cN::cK::dg::cZ::cO::da::cR::dc::cJ::cG::cH::cj::ox::o7::oO::po::oz::sY::tf::tS::tU::tT::tm::tX::tu::tA::sD::sV::tO::Fw::F2::FL::FJ::GI::FR::GV::G0::E8::rr::qn::qd::rh::pY::rJ::pR::rP::rI::qo::qj::rL::rQ::rN::[]),[]⟩ w2):
  Code.wp Tryz.prog (Code.loop (ybx 2)) Q ⟨List.toArray (c0::c1::c2::c3::c4::c5::c6::c7::c8::c9::gS::.slice (some ⟨g,0,none⟩) fs.length cl::.slice (some ⟨w0.heap.size,0,none⟩) fs.length fs.length::gV::ij::gw::il::.int .i64 i::.int .i64 0::eH::eZ::fc::eW::eT::eL::eV::eX::eY::eO::eR::eQ::fh::fj::fo::ft::fk::fJ::fL::fI::fY::fQ::fO::gq::fV::gu::dT::gd::fM::gn::fP::fN::fZ::gN::gQ::fG::jv::jq::jr::ee::kf::jt::km::kg::jw::ju::ko::kc::jz::jy::kq::js::jx::ki::kH::kL::kR::kD::kI::kX::kZ::kr::kz::iZ::jh::iW::iV::iT::iO::jm::iP::jf::jl::jo::iQ::jd::jb::je::iY::jc::ji::dq::cF::cC::cx::cE::cA::cD::cy::cM::cU::de::cL::cN::cK::dg::cZ::cO::da::cR::dc::cJ::cG::cH::cj::cW::cV::cP::cX::dd::cq::gR::gI::gG::gO::gH::gE::gM::gJ::gF::gC::gK::fH::wF::uR::wN::vp::vz::vm::uP::vg::rr::qn::qd::rh::pY::rJ::pR::rP::rI::qo::qj::rL::rQ::rN::[]),[]⟩ w:=by
 conv=>arg 2;arg 1;whnf
 have HF:=zC hf;have HX:=zC aT;have HI:=zC hI;have G1:=zC lR;clear hf aT hI lR;have uj:∀ wr,me w0 fs.length (λ _=>false) wr\/Below w0.heap.size w0 wr->∃ af cf,wr.cell? ⟨g,i*10+9,none⟩=some (.slice af fs[i].F.fr.length cf)/\wr.ownsRow base 3 1 (.slice af fs[i].F.fr.length cf) fs[i].F.fr.length (fs[i].F.fr.map λ (x:Nat)=>Value.int .i64 x)/\g<w0.heap.size:=λ wr h=>by
  have hb:Below w0.heap.size w0 wr:=h.elim (λ h=>h.below) id;have mP:=(zA HF).below hb;obtain⟨g',dp,hv,-,aZ,-,-,hc⟩:=zb0 mP.row hi;injection hv with h1 h2 h3
  injection h1 with h1
  injection h1 with h1
  subst h1;have p9:=hc 9 (by omega);simp only[FG.cells,List.getElem?_cons_zero,List.getElem?_cons_succ] at p9;have mx:=(mP.each fs[i] (List.getElem_mem hi)).i;simp only[zx6] at mx;obtain⟨af,cf,e⟩:=zD mx;rw[e] at p9 mx;exact⟨af,cf,p9,mx,((zA HF).row.lt g rfl).2⟩
 have J7:=zC uj;clear uj;generalize fs[i].F.fr=fr at *
 cases hB:B i with
 | false=>
  go_loopg [18] 0 (λ gg jj wr=>jj=.int .i64 0/\me w0 fs.length B wr)
  exact⟨rfl,zA HI⟩
  case round=>
   obtain⟨rfl,ax⟩:=hrel;obtain⟨af,cf,p9,mx,C5⟩:=zA J7 wr (.inr ax.below);have ua:=ax.row.cell i hi;have lz:=ax.row.sz;rw[hB] at ua;have gL:=yU mx;unfold maxLen at gL;have HE:=zC (show me w0 fs.length (if B i=true then vR B fr else B) wr from by rw[hB];exact ax);clear ax mx
   by_cases hfl0:0<fr.length
   ·go_wp2_with fail;apply zA HX;exact zA HE
   ·have h0:fr.length=0:=(by omega);go_wp2_with fail;apply zA HX;exact zA HE
 | true=>
  go_loopg [18] fr.length (λ gg jj wr=>∃ j:Nat,j<=fr.length/\gg=fr.length-j/\jj=.int .i64 j/\me w0 fs.length (vR B (fr.take j)) wr)
  exact⟨0,Nat.zero_le _,rfl,rfl,zA HI⟩
  case round=>
   obtain⟨j,fu,xu,rfl,ax⟩:=hrel;obtain⟨af,cf,p9,mx,C5⟩:=zA J7 wr (.inr ax.below);have ua:=ax.row.cell i hi;have lz:=ax.row.sz;have bj:=ax.below.size;rw[zhy _ B hB] at ua;have gL:=yU mx;unfold maxLen at gL
   by_cases hlj:j<fr.length
   ·obtain⟨gf,Wu,Qk,-,PI,XH,XF,q0⟩:=z5q mx j hlj;injection Qk with h1 h2 h3
    subst h1 h3;have Ct:=zA G1 _ (List.getElem_mem hlj);have dn:=ax.row.cell _ Ct;have Uw:=ax.row.fz fr[j];have HS:=zC (ax.set _ true Ct);have aO:=zij (B:=B) hlj;have dD:=zC aO;clear ax mx aO;generalize fr[j]=x at *;go_wp2_with fail;go_roundg (fr.length-(j+1));exact⟨j+1,by omega,rfl,by go_num,by rw[zA dD];exact zA HS⟩;omega
   ·have hj:j=fr.length:=(by omega);subst hj;rw[List.take_length] at ax;have HE:=zC (show me w0 fs.length (if B i=true then vR B fr else B) wr from by rw[hB];exact ax);clear ax mx;go_wp2_with fail;apply zA HX;exact zA HE
end
section
open Go.RowKit Go.Maps
theorem zz7 (n:Nat)(hn:n<=1000)(u:W8):(Instr.makeSlice 91 (.int .i64 n) (.int .i64 n)).run Tryz.prog u=.ok (.slice (some ⟨u.heap.size,0,none⟩) n n) (u.alloc (.cells (madeCells #[.int .i64 0,.slice none 0 0] (n*2)) 150)):=by
 obtain⟨i0,hi,bL,aY,bf⟩:=info_parts zxa;have h:=run_make (P:=Tryz.prog) u 91 150 i0 (.agg #[.int .i64 0,.slice none 0 0]) Tryz.underlying91 hi bL .i64 .i64 (n:Int) (n:Int) (by omega) (Int.le_refl _) (by rw[bf];omega) (by omega);simpa[aY,.cells] using h
theorem yel (w:W8)(a0 a1 a2 a3 a4 b0 b1 b2 b3 b4:B8):(Op.equalIn 10000 88 (.agg #[.string a0,.string a1,.string a2,.string a3,.string a4]) (.agg #[.string b0,.string b1,.string b2,.string b3,.string b4])).run Tryz.prog w=.ok (a0.toList==b0.toList&&(a1.toList==b1.toList&&(a2.toList==b2.toList&&(a3.toList==b3.toList&&a4.toList==b4.toList)))) w:=by
 have hu:=Tryz.underlying9;have ha:=Tryz.isAgg9;have hz:=Tryz.sizeOf9;rw[show (10000:Nat)=9999+1 from rfl,Op.equalIn];simp only[Sem.run_bind,run_underlying Tryz.underlying88,Result.andThen_ok];simp only[Std.Legacy.Range.forIn_eq_forIn_range',Std.Legacy.Range.size,Nat.sub_zero,Nat.add_sub_cancel,Nat.div_one,List.range'_succ,List.range'_zero,List.forIn_cons,List.forIn_nil]
 go_simp
 cases h0:a0.toList==b0.toList <;> cases h1:a1.toList==b1.toList <;> cases h2:a2.toList==b2.toList <;> cases h3:a3.toList==b3.toList <;> cases h4:a4.toList==b4.toList <;> simp_all
theorem yeq {a b:Th}(ha:zdu a)(hb:zdu b):(a.p.toList==b.p.toList&&((xW a.ts 0).toList==(xW b.ts 0).toList&&((xW a.ts 1).toList==(xW b.ts 1).toList&&((xW a.ts 2).toList==(xW b.ts 2).toList&&(xW a.ts 3).toList==(xW b.ts 3).toList))))=decide (a=b):=by
 rw[Bool.eq_iff_iff];simp only[Bool.and_eq_true,xO,decide_eq_true_eq]
 constructor
 ·rintro⟨h0,h1,h2,h3,h4⟩;refine z5c ha hb ?_;unfold thV zV;rw[h0,h1,h2,h3,h4]
 ·rintro rfl;exact⟨rfl,rfl,rfl,rfl,rfl⟩
theorem zs3 (n:Nat)(a b:Value):madeCells #[a,b] (n*2)=zcm (n*2) (λ c=>if c%2=0 then a else b):=by
 apply Array.ext_getElem?;intro i
 by_cases h:i<n*2
 ·rw[zdx h];rcases Nat.mod_two_eq_zero_or_one i with e | e <;> simp[madeCells,h,e]
 ·rw[Array.getElem?_eq_none (by simp[madeCells];omega),Array.getElem?_eq_none (by rw[qO];omega)]
def zak (O:List Pl)(k:Nat)(asked:Th)(rea:Nat->Nat × List Nat)(B:Nat->Bool)(i:Nat):Nat->Bool:=
 if (if decide ((O[i]?.getD default).s<k)||decide ((O[i]?.getD default).t=asked) then zbf B i true else B) i then vR (if decide ((O[i]?.getD default).s<k)||decide ((O[i]?.getD default).t=asked) then zbf B i true else B) (rea i).2 else (if decide ((O[i]?.getD default).s<k)||decide ((O[i]?.getD default).t=asked) then zbf B i true else B)
def qY (O:List Pl)(k:Nat)(asked:Th)(rea:Nat->Nat × List Nat)(pre:List (Fin O.length)):Nat->Bool:=pre.foldl (λ B x=>zak O k asked rea B x.1) (λ _=>false)
def qF (n:Nat)(rea:Nat->Nat × List Nat)(B:Nat->Bool):List (Nat × List Nat):=(List.range n).map λ i=>if B i then rea i else (0,[])
theorem zdt {i:Nat}:∀ (fr:List Nat) (B:Nat->Bool),i∉fr->vR B fr i=B i
 | [],_,_=>rfl
 | x::r,B,h=>by
  have h1:=zdt r (zbf B x true) (λ hm=>h (List.mem_cons_of_mem _ hm))
  show vR (zbf B x true) r i=B i
  rw[h1];unfold zbf;rw[if_neg (λ e=>h (by rw[e];exact List.mem_cons_self))]
def yd5 (O:List Pl)(k:Nat)(asked:Th)(i:Nat):Bool:=decide ((O[i]?.getD default).s<k)||decide ((O[i]?.getD default).t=asked)
def zdn (O:List Pl)(k:Nat)(asked:Th)(B:Nat->Bool)(i:Nat):Nat->Bool:=if yd5 O k asked i then zbf B i true else B
theorem zcv (O:List Pl)(k:Nat)(asked:Th)(rea:Nat->Nat × List Nat)(B:Nat->Bool)(i:Nat):zak O k asked rea B i=if zdn O k asked B i i then vR (zdn O k asked B i) (rea i).2 else zdn O k asked B i:=rfl
variable {i j k:Nat} {B:Nat->Bool} {asked:Th} {O:List Pl}
theorem zmq (h:j≠i):zdn O k asked B i j=B j:=by
 unfold zdn
 split
 ·unfold zbf;rw[if_neg h]
 ·rfl
variable {rea:Nat->Nat × List Nat}
theorem ztw (bc:∀ x∈(rea i).2,x<i)(h:i<j):zak O k asked rea B i j=B j:=by
 rw[zcv]
 split
 ·rw[zdt _ _ (λ hm=>by have:=bc j hm;omega),zmq (by omega)]
 ·exact zmq (by omega)
theorem zu1 (bc:∀ x∈(rea i).2,x<i):zak O k asked rea B i i=zdn O k asked B i i:=by
 rw[zcv]
 split
 ·rw[zdt _ _ (λ hm=>by have:=bc i hm;omega)]
 ·rfl
theorem zf8 (O:List Pl)(k:Nat)(asked:Th)(rea:Nat->Nat × List Nat)(pre:List (Fin O.length))(x:Fin O.length):qY O k asked rea (pre++[x])=zak O k asked rea (qY O k asked rea pre) x.1:=by
 unfold qY;rw[List.foldl_append];rfl
def ze5 (O:List Pl)(k:Nat)(asked:Th)(rea:Nat->Nat × List Nat):List (Fin O.length)->Nat->Bool:=λ pre=>(pre.foldl (λ (st:(Nat->Bool) × (Nat->Bool)) x=>(zak O k asked rea st.1 x.1,if zdn O k asked st.1 x.1 x.1 then zbf st.2 x.1 true else st.2)) (λ _=>false,λ _=>false)).2
theorem zwd (O:List Pl)(k:Nat)(asked:Th)(rea:Nat->Nat × List Nat):∀ (pre:List (Fin O.length)) (B D:Nat->Bool),(pre.foldl (λ (st:(Nat->Bool) × (Nat->Bool)) x=>(zak O k asked rea st.1 x.1,if zdn O k asked st.1 x.1 x.1 then zbf st.2 x.1 true else st.2)) (B,D)).1=pre.foldl (λ B x=>zak O k asked rea B x.1) B
 | [],_,_=>rfl
 | _::r,_,_=>zwd O k asked rea r _ _
theorem zsv (O:List Pl)(k:Nat)(asked:Th)(rea:Nat->Nat × List Nat)(pre:List (Fin O.length))(x:Fin O.length):ze5 O k asked rea (pre++[x])=if zdn O k asked (qY O k asked rea pre) x.1 x.1 then zbf (ze5 O k asked rea pre) x.1 true else ze5 O k asked rea pre:=by
 unfold ze5;rw[List.foldl_append];simp only[List.foldl_cons,List.foldl_nil,zwd];rfl
theorem zns {O:List Pl}{k:Nat}{asked:Th}{rea:Nat->Nat × List Nat}(bc:∀ i,i<O.length->∀ x∈(rea i).2,x<i):∀ (d m:Nat),m+d=O.length->∀ i,i<O.length->ze5 O k asked rea (qI O.length m) i=(decide (m<=i)&&qY O k asked rea (qI O.length m) i)
 | 0,m,hm,i,hi=>by
  rw[Nat.add_zero] at hm;subst hm;rw[MP];simp[ze5];omega
 | d+1,m,hm,i,hi=>by
  have aH:m<O.length:=by omega
  have ih:=zns (k:=k) (asked:=asked) bc d (m+1) (by omega) i hi;rw[zgc aH,zsv,zf8]
  by_cases e:i=m
  ·subst e;rw[zu1 (bc i hi)]
   split
   ·rename_i h;simp[zbf,h]
   ·rename_i h;rw[ih];simp at h;simp[h];intro h';omega
  ·have e1:(if zdn O k asked (qY O k asked rea (qI O.length (m+1))) m m=true then zbf (ze5 O k asked rea (qI O.length (m+1))) m true else ze5 O k asked rea (qI O.length (m+1))) i=ze5 O k asked rea (qI O.length (m+1)) i:=by
    split
    ·unfold zbf;rw[if_neg e]
    ·rfl
   rw[e1,ih]
   by_cases h:m+1<=i
   ·rw[ztw (bc m aH) (by omega)];have:m<=i:=by omega
    simp[h,this]
   ·have h2:¬ m<=i:=(by omega);simp[h,h2]
def zx9 (Dn:Nat->Bool)(rea:Nat->Nat × List Nat)(V:Nat->Value)(c:Nat):Value:=
 if Dn (c/2)=true then (if c%2=0 then .int .i64 ((rea (c/2)).1:Nat) else V (c/2)) else (if c%2=0 then .int .i64 0 else .slice none 0 0)
theorem z0h {q:Nat}{Dn:Nat->Bool}{V:Nat->Value}{v:Value}(c:Nat):(if c=q*2+1 then v else if c=q*2 then .int .i64 ((rea q).1:Nat) else zx9 Dn rea V c)=zx9 (zbf Dn q true) rea (λ i=>if i=q then v else V i) c:=by
 unfold zx9 zbf
 by_cases e1:c=q*2+1
 ·have e:c/2=q:=by omega
  have n3:¬ c%2=0:=by omega
  rw[if_pos e1,if_pos e,if_pos rfl,if_neg n3];simp[e]
 ·rw[if_neg e1]
  by_cases e2:c=q*2
  ·have e:c/2=q:=(by omega);have n3:c%2=0:=(by omega);rw[if_pos e2,if_pos e,if_pos rfl,if_pos n3,e]
  ·rw[if_neg e2];have bF:c/2≠q:=(by omega);simp only[if_neg bF]
structure Ej (w:W8)(ar:O8)(cr:Nat)(rs:List PR)(asked:Th)(kk:Nat)(ao:O8)(co bo b9 mA D:Nat)(O:List Pl)(W:W8):Prop where
 y4:W.heap[w.heap.size]?=some (.cells #[.slice ar rs.length cr] 75 (0,0))
 y7:TV W (w.heap.size+1) asked
 y8:W.heap[w.heap.size+1+1]?=some (.cells #[.int .i64 0,.slice none 0 0] 93 (0,0))
 y9:W.heap[b9]?=some (.cells #[.int .i64 (kk:Nat)] 3 (0,0))
 Un:W.heap[mA]?=some (.cells #[.slice ao O.length co] 141 (0,0))
 MI:W.heap[D+1]?=some (.cells #[.slice (some ⟨D,0,none⟩) O.length O.length] 91 (0,0))
 FI:W.heap[D+1+1+1]?=some (.cells #[.slice (some ⟨D+1+1,0,none⟩) O.length O.length] 143 (0,0))
 ro:W.ownsRow bo 148 7 (.slice ao O.length co) O.length (O.flatMap ev)
 k:Below w.heap.size w W
 l9:w.heap.size+1+1<b9
 yo:b9<mA
 lD:mA<D
 lo:∀ g,(Value.slice ao O.length co).ownBlock=some g->g<D
 lb:w.heap.size<=bo
variable {W W' w:W8} {co bo b9 mA D kk cr:Nat} {ao ar:O8} {rs:List PR}
theorem Ej.pr (h:Ej w ar cr rs asked kk ao co bo b9 mA D O W)(hb:∀ i,i<=D+1+1+1->i≠D->i≠D+1+1->W'.heap[i]?=W.heap[i]?)(hk:Below w.heap.size w W'):Ej w ar cr rs asked kk ao co bo b9 mA D O W':=by
 have l9:=h.l9;have yo:=h.yo;have lD:=h.lD;exact⟨(hb _ (by omega) (by omega) (by omega)).trans h.y4,(hb _ (by omega) (by omega) (by omega)).trans h.y7,(hb _ (by omega) (by omega) (by omega)).trans h.y8,(hb _ (by omega) (by omega) (by omega)).trans h.y9,(hb _ (by omega) (by omega) (by omega)).trans h.Un,(hb _ (by omega) (by omega) (by omega)).trans h.MI,(hb _ (by omega) (by omega) (by omega)).trans h.FI,zZ h.ro (λ g e=>hb g (by have:=h.lo g e;omega) (by have:=h.lo g e;omega) (by have:=h.lo g e;omega)),hk,l9,yo,lD,h.lo,h.lb⟩
theorem Ej.below (h:Ej w ar cr rs asked kk ao co bo b9 mA D O W)(k:Below W.heap.size W W'):Ej w ar cr rs asked kk ao co bo b9 mA D O W':=
 h.pr (λ i hi _ _=>k.block i (by have:=(Array.getElem?_eq_some_iff.1 h.FI).1;omega)) (h.k.trans (k.mono h.k.size))
def ONo (D i:Nat):Prop:=i=D\/i=D+1+1
structure j9 (w:W8)(ar:O8)(cr:Nat)(rs:List PR)(asked:Th)(kk:Nat)(ao:O8)(co bo b9 mA D:Nat)(O:List Pl)(rea:Nat->Nat × List Nat)(w1:W8)(B Dn:Nat->Bool)(W:W8):Prop where
 box:Ej w ar cr rs asked kk ao co bo b9 mA D O W
 kp:qH (ONo D) w1 W
 nI:fi W (D+1+1) 4 O.length (λ i=>.bool (B i))
 wG:∃ V:Nat->Value,fi W D 150 (O.length*2) (zx9 Dn rea V)/\∀ i,Dn i=true->W.ownsRow w1.heap.size 3 1 (V i) (rea i).2.length (ez (rea i).2)
 lt:D+1+1+1<w1.heap.size
theorem j9.grown {w:W8}{ar:O8}{cr:Nat}{rs:List PR}{asked:Th}{kk:Nat}{ao:O8}{co bo b9 mA D:Nat}{O:List Pl}{rea:Nat->Nat × List Nat}{w1:W8}{B Dn:Nat->Bool}{W W':W8}(h:j9 w ar cr rs asked kk ao co bo b9 mA D O rea w1 B Dn W){row:Option Nat}(hg:W.grownBy W' row)(hr:∀ i,row=some i->w1.heap.size<=i/\∃ o:Obj,W.heap[i]?=some o/\o.isCells=false):j9 w ar cr rs asked kk ao co bo b9 mA D O rea w1 B Dn W':=by
 have aH:=h.lt;have aX:=h.kp.size;have hw:=h.box.k.size;have dK:∀ i,i<w1.heap.size->W'.heap[i]?=W.heap[i]?:=λ i hi=>hg.block i (by omega) (λ e=>by have:=(hr i e.symm).1;omega)
 have l9:=h.box.l9;have yo:=h.box.yo;have lD:=h.box.lD;obtain⟨V,h1,h2⟩:=h.wG;exact⟨h.box.pr (λ i hi _ _=>dK i (by omega)) ⟨hg.os.trans h.box.k.os,hg.tape.trans h.box.k.tape,hg.output.trans h.box.k.output,Nat.le_trans h.box.k.size hg.size,λ i hi=>(dK i (by omega)).trans (h.box.k.block i hi)⟩,h.kp.grown hg (λ i e=>.inl (hr i e).1),h.nI.block (dK _ (by omega)),⟨V,h1.block (dK _ (by omega)),λ i a=>zsj (h2 i a) hg (λ i e=>(hr i e).2)⟩,aH⟩
def PV (w:W8)(b:Nat)(p:Pl):Prop:=w.heap[b]?=some (.cells (ev p).toArray 148 (0,0))
variable {p:Pl} {b:Nat}
theorem PV.grown {A B:W8}{row:Option Nat}(h:PV A b p)(hg:A.grownBy B row)(hr:∀ i,row=some i->∃ o:Obj,A.heap[i]?=some o/\o.isCells=false):PV B b p:=zls h hg hr
theorem PV.lt (h:PV w b p):b<w.heap.size:=(Array.getElem?_eq_some_iff.1 h).1
end
section
open Go.RowKit Go.Maps
variable {b:Nat} {w:W8}
theorem PV.loadT {p:Pl}(h:PV w b p):(zk0 (.pointer (some ⟨b,0,none⟩))).run Tryz.prog w=.ok (.agg #[.string p.t.p,.string (xW p.t.ts 0),.string (xW p.t.ts 1),.string (xW p.t.ts 2),.string (xW p.t.ts 3)]) w:=by
 have c0:=(zB h 0).1;have c1:=(zB h 1).1;have c2:=(zB h 2).1;have c3:=(zB h 3).1;have c4:=(zB h 4).1;simp only[ev,List.getElem?_toArray,List.getElem?_cons_zero,List.getElem?_cons_succ] at c0 c1 c2 c3 c4;unfold zk0
 go_simp
structure tL (D:Nat)(W wr:W8):Prop where
 size:W.heap.size<=wr.heap.size
 block:∀ i,i<W.heap.size->i≠D->i≠D+1+1->wr.heap[i]?=W.heap[i]?
theorem tL.refl (D:Nat)(W:W8):tL D W W:=⟨Nat.le_refl _,λ _ _ _ _=>rfl⟩
variable {W wr:W8} {D:Nat}
theorem tL.below {w':W8}(h:tL D W wr)(k:Below wr.heap.size wr w'):tL D W w':=⟨Nat.le_trans h.size k.size,λ i hi h1 h2=>(k.block i (Nat.lt_of_lt_of_le hi h.size)).trans (h.block i hi h1 h2)⟩
theorem tL.set (h:tL D W wr){j:Nat}(hb:b=D\/b=D+1+1)(v:Value):tL D W (wr.setCell ⟨b,j,none⟩ v):=⟨by simpa using h.size,λ i hi h1 h2=>(Below.heap_setCell _ _ _ _ (by rcases hb with e | e <;> simp[e] <;> assumption)).trans (h.block i hi h1 h2)⟩
theorem j9.below {w:W8}{ar:O8}{cr:Nat}{rs:List PR}{asked:Th}{kk:Nat}{ao:O8}{co bo b9 mA D:Nat}{O:List Pl}{rea:Nat->Nat × List Nat}{w1:W8}{B Dn:Nat->Bool}{W W':W8}(h:j9 w ar cr rs asked kk ao co bo b9 mA D O rea w1 B Dn W)(k:Below W.heap.size W W'):j9 w ar cr rs asked kk ao co bo b9 mA D O rea w1 B Dn W':=by
 obtain⟨V,h1,h2⟩:=h.wG;exact⟨h.box.below k,h.kp.trans (qH.ak k),h.nI.below k,⟨V,h1.below k,λ i a=>zJ (h2 i a) k (λ g e=>((h2 i a).lt g e).2)⟩,h.lt⟩
variable {B Dn:Nat->Bool} {w1:W8} {rea:Nat->Nat × List Nat} {O:List Pl} {co bo b9 mA kk cr:Nat} {ao ar:O8} {asked:Th} {rs:List PR}
theorem j9.own (h:j9 w ar cr rs asked kk ao co bo b9 mA D O rea w1 B Dn W)(i:Nat):j9 w ar cr rs asked kk ao co bo b9 mA D O rea w1 (zbf B i true) Dn (W.setCell ⟨D+1+1,i,none⟩ (.bool true)):=by
 obtain⟨V,h1,h2⟩:=h.wG;have aH:=h.lt;have l9:=h.box.l9;have yo:=h.box.yo;have lD:=h.box.lD;have bq:∀ j,j≠D+1+1->(W.setCell ⟨D+1+1,i,none⟩ (.bool true)).heap[j]?=W.heap[j]?:=λ j hj=>Below.heap_setCell _ _ _ _ (by simpa using hj)
 refine⟨h.box.pr (λ j _ _ hj=>bq j hj) (h.box.k.setCell (by show _<=D+1+1;omega) _),h.kp.setCell (.inr (.inr rfl)) _,(h.nI.set i (.bool true)).eq (λ j _=>?_),⟨V,h1.block (bq D (by omega)),λ j a=>zZ (h2 j a) (λ g e=>bq g (by have:=((h2 j a).lt g e).1;omega))⟩,aH⟩;unfold zbf
 by_cases e:j=i
 ·rw[if_pos e,if_pos e]
 ·rw[if_neg e,if_neg e]
theorem j9.put (h:j9 w ar cr rs asked kk ao co bo b9 mA D O rea w1 B Dn W)(i:Nat)(hi:i<O.length){v:Value}(hv:W.ownsRow w1.heap.size 3 1 v (rea i).2.length (ez (rea i).2)):j9 w ar cr rs asked kk ao co bo b9 mA D O rea w1 B (zbf Dn i true) ((W.setCell ⟨D,i*2,none⟩ (.int .i64 ((rea i).1:Nat))).setCell ⟨D,i*2+1,none⟩ v)/\((W.setCell ⟨D,i*2,none⟩ (.int .i64 ((rea i).1:Nat))).setCell ⟨D,i*2+1,none⟩ v).ownsRow w1.heap.size 3 1 v (rea i).2.length (ez (rea i).2)/\((W.setCell ⟨D,i*2,none⟩ (.int .i64 ((rea i).1:Nat))).setCell ⟨D,i*2+1,none⟩ v).cell? ⟨D,i*2+1,none⟩=some v:=by
 obtain⟨V,h1,h2⟩:=h.wG;have aH:=h.lt;have l9:=h.box.l9;have yo:=h.box.yo;have lD:=h.box.lD;have bq:∀ j,j≠D->((W.setCell ⟨D,i*2,none⟩ (.int .i64 ((rea i).1:Nat))).setCell ⟨D,i*2+1,none⟩ v).heap[j]?=W.heap[j]?:=λ j hj=>(Below.heap_setCell _ _ _ _ (by simpa using hj)).trans (Below.heap_setCell _ _ _ _ (by simpa using hj))
 refine⟨⟨h.box.pr (λ j _ hj _=>bq j hj) ((h.box.k.setCell (by show _<=D;omega) _).setCell (by show _<=D;omega) _),(h.kp.setCell (.inr (.inl rfl)) _).setCell (.inr (.inl rfl)) _,h.nI.block (bq _ (by omega)),⟨λ j=>if j=i then v else V j,((h1.set (i*2) _).set (i*2+1) v).eq (λ c _=>z0h c),λ j a=>?_⟩,aH⟩,zZ hv (λ g e=>bq g (by have:=(hv.lt g e).1;omega)),?_⟩
 rotate_left
 ·have:=((h1.set (i*2) (.int .i64 ((rea i).1:Nat))).set (i*2+1) v).cell (i:=i*2+1) (by omega);rw[this,if_pos rfl]
 by_cases e:j=i
 ·subst e;simp only[if_pos];exact zZ hv (λ g e=>bq g (by have:=(hv.lt g e).1;omega))
 ·simp only[if_neg e];have a':Dn j=true:=by unfold zbf at a;rwa [if_neg e] at a
  exact zZ (h2 j a') (λ g e=>bq g (by have:=((h2 j a').lt g e).1;omega))
theorem j9.ends {B' Wo:Nat->Bool}(h:j9 w ar cr rs asked kk ao co bo b9 mA D O rea w1 B Dn W)(h':j9 w ar cr rs asked kk ao co bo b9 mA D O rea w1 B' Wo wr)(k:tL D W wr):KeepsFrom w1.heap.size W wr/\qH (ONo D) W wr:=by
 have aH:=h.lt;refine⟨⟨k.size,λ i o hB hi _=>(k.block i (Array.getElem?_eq_some_iff.1 hi).1 (by omega) (by omega)).trans hi⟩,⟨h'.box.k.os.trans h.box.k.os.symm,h'.box.k.tape.trans h.box.k.tape.symm,h'.box.k.output.trans h.box.k.output.symm,k.size,λ i o hi aW _=>(k.block i (Array.getElem?_eq_some_iff.1 hi).1 (λ e=>aW (.inl e)) (λ e=>aW (.inr e))).trans hi⟩⟩
theorem zfg {α β:Type}(f:α->β){l:List α}(h:(l.map f).Nodup):l.Nodup:=by
 unfold List.Nodup at *;rw[List.pairwise_map] at h;exact h.imp λ h e=>h (by rw[e])
theorem zjm {α:Type}{f:α->V8}(hf:∀ x,(f x).length=2):∀ l:List α,(l.flatMap f).length=l.length*2
 | []=>rfl
 | x::r=>by rw[List.flatMap_cons,List.length_append,hf,zjm hf r,List.length_cons];omega
theorem z9k (f:Nat->Value):∀ n:Nat,(List.range (n*2)).map f=(List.range n).flatMap λ i=>[f (i*2),f (i*2+1)]
 | 0=>rfl
 | n+1=>by
  rw[show (n+1)*2=n*2+1+1 by omega,List.range_succ,List.range_succ,List.range_succ,List.flatMap_append,<-z9k f n];simp
theorem j9.nodes (h:j9 w ar cr rs asked kk ao co bo b9 mA D O rea w1 B Dn W)(hn:O.length<=maxLen):∃ bG:List ND,bG.length=O.length/\uX W D (.slice (some ⟨D,0,none⟩) O.length O.length) bG/\bG.map lf=(List.range O.length).map λ i=>if Dn i then rea i else (0,[]):=by
 obtain⟨V,h1,h2⟩:=h.wG;have aH:=h.lt;have hl:((List.range O.length).map λ i=>if Dn i then (⟨(rea i).1,(rea i).2,V i⟩:ND) else ⟨0,[],.slice none 0 0⟩).length=O.length:=by simp
 refine⟨(List.range O.length).map λ i=>if Dn i then ⟨(rea i).1,(rea i).2,V i⟩ else ⟨0,[],.slice none 0 0⟩,hl,⟨?_,λ x hx=>?_⟩,?_⟩
 ·rw[hl];refine⟨?_,.inr ⟨D,O.length,_,rfl,Nat.le_refl _,h1,Nat.le_refl _,hn,by rw[qO],?_⟩⟩
  ·rw[zjm zg5,hl]
  ·unfold zcm;rw[List.take_of_length_le (by simp),List.flatMap_map]
   show (List.range (O.length*2)).map _=_
   rw[z9k]
   congr 1
   funext i
   unfold zx9;rw[show i*2/2=i by omega,show (i*2+1)/2=i by omega,show i*2%2=0 by omega,show (i*2+1)%2=1 by omega]
   cases Dn i <;> rfl
 ·obtain⟨i,hi,rfl⟩:=List.mem_map.1 hx
  cases hd:Dn i with
  | true=>exact zG (h2 i hd) (by omega)
  | false=>exact World.ownsRow_nil _ _ _ _
 ·rw[List.map_map];apply List.map_congr_left;intro i _;simp only[Function.comp]
  cases Dn i <;> rfl
end
end Go.Proofs.YtldkpahaocjdpaaGreat
