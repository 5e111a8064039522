/-
  The reference's Explain: which facts are told.
-/
import Derived.Test.YtldkpahaocjdpaaGreatE43
set_option maxHeartbeats 16000000
set_option maxRecDepth 1000000
namespace Go.Proofs.YtldkpahaocjdpaaGreat
section
open Go.RowKit
noncomputable def ya4 (k:Nat):Code:=((Tryz.f91.body.map zdo).getD []).getD k .skip
def lS (l:List zP)(i:Nat):Nat:=(l[i]?.map (·.s)).getD 0
def lH (l:List zP)(i:Nat):Nat:=(l[i]?.map (·.h)).getD 0
def lF (l:List zP)(i:Nat):List Nat:=(l[i]?.map (·.fr)).getD []
def zbg (B:Nat->Bool)(i:Nat)(v:Bool):Nat->Bool:=λ j=>if j=i then v else B j
def vR (B:Nat->Bool)(fr:List Nat):Nat->Bool:=fr.foldl (λ B x=>zbg B x true) B
def IM (l:List zP)(s:Nat)(B:Nat->Bool)(i:Nat):Nat->Bool:=if (B i||decide (lS l i<s))=true then vR (zbg B i true) (lF l i) else zbg B i false
def zh7 (l:List zP)(s:Nat):Nat->(Nat->Bool)->Nat->Bool
 | 0,B=>B
 | i+1,B=>zh7 l s i (IM l s B i)
variable {B:Nat->Bool} {gb n:Nat} {w:W8}
theorem BK.set (h:BK w gb n B)(i:Nat)(v:Bool)(hi:i<n):BK (w.setCell ⟨gb,i,none⟩ (.bool v)) gb n (zbg B i v):=by
 refine⟨by simpa using h.sz,λ a ha=>?_,λ j=>by simpa using h.fz j⟩
 by_cases e:a=i
 ·subst e;rw[Hl (h.cell a ha)];simp[zbg]
 ·rw[zak (by omega),h.cell a ha];simp[zbg,e]
theorem BK.eq {B':Nat->Bool}(h:BK w gb n B)(e:∀ i,i<n->B i=B' i):BK w gb n B':=⟨h.sz,λ i hi=>by rw[h.cell i hi,e i hi],h.fz⟩
theorem zib {i:Nat}:∀ (fr:List Nat) (B:Nat->Bool),B i=true->vR B fr i=true
 | [],_,h=>h
 | x::r,B,h=>zib r _ (by show zbg B x true i=true;unfold zbg;split <;> simp[h])
theorem zia {fr:List Nat}{j:Nat}(h:j<fr.length):vR B (fr.take (j+1))=zbg (vR B (fr.take j)) fr[j] true:=by
 unfold vR;rw[List.take_succ_eq_append_getElem h,List.foldl_append];rfl
structure lT (w0:W8)(n:Nat)(B:Nat->Bool)(wr:W8):Prop where
 below:Below w0.heap.size w0 wr
 row:BK wr w0.heap.size n B
theorem lT.set {w0 wr:W8}(h:lT w0 n B wr)(i:Nat)(v:Bool)(hi:i<n):lT w0 n (zbg B i v) (wr.setCell ⟨w0.heap.size,i,none⟩ (.bool v)):=⟨h.below.setCell L9 _,h.row.set i v hi⟩
theorem ydc (w0 w:W8)(base k:Nat)(al:O8)(cl:Nat)(fs:List FG)(hf:yZ w0 base (.slice al fs.length cl) fs)(ko:fs.length<=50)(B:Nat->Bool)(hI:lT w0 fs.length B w)
  {Q:Exit->Act->W8->Prop} {c0 c1 c2 c3 c4 c5 c6 c7 c8 c9 gD gV fO gW fD eG eL eM eN eO eQ eR eS eT eU eV eW fg fh fk fl fm fI fJ fK fP fQ fR fU fV fW dU fX fY fZ gd gh gi gP gQ fE jq jr js ee jt ju jv jw jx jy jz kc kf kg kh ki kj km kx ky kz kD kE kF kG kH kI iO iP iQ iR iS iT iU iV iW iX iY iZ ja jb jc jd je jf dm cj cq cx cy cz cA cC cK cL cM cN cO cP cQ cR cU cV cW cX cY cD cE cF cZ da dc dd de cG gE gF gG gH gI gJ gK gL gM gN gO fC uQ uR uS uT uU uV uW uX pV pW pX pY pZ qa qb qc qd qe qf qg qh qi:Value}
  (aT:∀ (w2:W8) (u16 tU tV tW tX tY tZ ua ub uc Bq Bs Bt Bu Bv Bw By:Value),lT w0 fs.length (λ i=>decide (lS (fs.map (·.F)) i<k)) w2->Q (.exit 0) ⟨List.toArray (c0::c1::c2::c3::c4::c5::c6::c7::c8::c9::gD::.slice al fs.length cl::.slice (some ⟨w0.heap.size,0,none⟩) fs.length fs.length::gV::.int .i64 k::fO::u16::gW::fD::eG::eL::eM::eN::eO::eQ::eR::eS::eT::eU::eV::eW::fg::fh::fk::fl::fm::fI::fJ::fK::fP::fQ::fR::fU::fV::fW::dU::fX::fY::fZ::gd::gh::gi::gP::gQ::fE::jq::jr::js::ee::jt::ju::jv::jw::jx::jy::jz::kc::kf::kg::kh::ki::kj::km::tU::tV::tW::tX::tY::tZ::ua::ub::uc::Bq::Bs::Bt::Bu::Bv::Bw::By::iV::iW::iX::iY::iZ::ja::jb::jc::jd::je::jf::dm::cj::cq::cx::cy::cz::cA::cC::cK::cL::cM::cN::cO::cP::cQ::cR::cU::cV::cW::cX::cY::cD::cE::cF::cZ::da::dc::dd::de::cG::gE::gF::gG::gH::gI::gJ::gK::gL::gM::gN::gO::fC::uQ::uR::uS::uT::uU::uV::uW::uX::pV::pW::pX::pY::pZ::qa::qb::qc::qd::qe::qf::qg::qh::qi::[]),[]⟩ w2):
  Code.wp Tryz.prog (Code.loop (ya4 0)) Q ⟨List.toArray (c0::c1::c2::c3::c4::c5::c6::c7::c8::c9::gD::.slice al fs.length cl::.slice (some ⟨w0.heap.size,0,none⟩) fs.length fs.length::gV::.int .i64 k::fO::.int .i64 0::gW::fD::eG::eL::eM::eN::eO::eQ::eR::eS::eT::eU::eV::eW::fg::fh::fk::fl::fm::fI::fJ::fK::fP::fQ::fR::fU::fV::fW::dU::fX::fY::fZ::gd::gh::gi::gP::gQ::fE::jq::jr::js::ee::jt::ju::jv::jw::jx::jy::jz::kc::kf::kg::kh::ki::kj::km::kx::ky::kz::kD::kE::kF::kG::kH::kI::iO::iP::iQ::iR::iS::iT::iU::iV::iW::iX::iY::iZ::ja::jb::jc::jd::je::jf::dm::cj::cq::cx::cy::cz::cA::cC::cK::cL::cM::cN::cO::cP::cQ::cR::cU::cV::cW::cX::cY::cD::cE::cF::cZ::da::dc::dd::de::cG::gE::gF::gG::gH::gI::gJ::gK::gL::gM::gN::gO::fC::uQ::uR::uS::uT::uU::uV::uW::uX::pV::pW::pX::pY::pZ::qa::qb::qc::qd::qe::qf::qg::qh::qi::[]),[]⟩ w:=by
 conv=>arg 2;arg 1;whnf
 have HF:=zC hf;have HX:=zC aT;have HI:=zC hI;clear hf aT hI
 go_loopg [16] fs.length (λ gg ii wr=>∃ (i:Nat) (B':Nat->Bool),i<=fs.length/\gg=fs.length-i/\ii=.int .i64 i/\lT w0 fs.length B' wr/\∀ j,j<i->B' j=decide (lS (fs.map (·.F)) j<k))
 exact⟨0,B,Nat.zero_le _,rfl,rfl,zA HI,λ j hj=>by omega⟩
 case round=>
  clear HI;obtain⟨i,B',mQ,bS,rfl,ax,hj⟩:=hrel;have bj:=ax.below.size
  by_cases aF:i<fs.length
  ·have mO:=(zA HF).below ax.below;obtain⟨g,cap,hv,-,aZ,bO,bQ,hc⟩:=zb1 mO.row aF;injection hv with h1 h2 h3
   subst h1 h3;have p6:=hc 6 (by omega);simp only[FG.cells,List.getElem?_cons_zero,List.getElem?_cons_succ] at p6;have C8:g<w0.heap.size:=((zA HF).row.lt g rfl).2;have sL:=ax.row.cell i aF;have TD:=ax.row.fz i;have ly:=ax.row.sz;have Ir:lS (fs.map (·.F)) i=fs[i].F.s:=by unfold lS;rw[List.getElem?_map,List.getElem?_eq_getElem aF];rfl
   have HE:=zC (λ (b:Bool) (hb:b=decide (fs[i].F.s<k))=>(show ∀ j,j<i+1->zbg B' i b j=decide (lS (fs.map (·.F)) j<k) from λ j h=>by
    unfold zbg
    split
    ·rename_i e;subst e;rw[Ir];exact hb
    ·exact hj j (by omega)))
   have HS:=zC (λ b:Bool=>ax.set i b aF);clear hc mO ax hj Ir;generalize fs[i].F.s=si at *
   by_cases mi:si<k
   ·have Gv:(si:Int)<k:=(by omega);go_wp2_with fail;go_roundg (fs.length-(i+1));exact⟨i+1,_,by omega,rfl,by go_num,zA HS true,zA HE true (by simp[mi])⟩;omega
   ·have Gv:¬ (si:Int)<k:=(by omega);go_wp2_with fail;go_roundg (fs.length-(i+1));exact⟨i+1,_,by omega,rfl,by go_num,zA HS false,zA HE false (by simp[mi])⟩;omega
  ·have hi:i=fs.length:=(by omega);subst hi;have HE:=zC (show lT w0 fs.length (λ i=>decide (lS (fs.map (·.F)) i<k)) wr from ⟨ax.below,ax.row.eq hj⟩);clear ax hj;go_wp2_with fail;apply zA HX;exact zA HE
theorem ya3 (w0 w:W8)(base g i cl:Nat)(fs:List FG)(hf:yZ w0 base (.slice (some ⟨g,0,none⟩) fs.length cl) fs)(hi:i<fs.length)(me:∀ x∈fs[i].F.fr,x<fs.length)(B:Nat->Bool)(hI:lT w0 fs.length B w)
  {Q:Exit->Act->W8->Prop} {c0 c1 c2 c3 c4 c5 c6 c7 c8 c9 gD gV ie fO ig eG eL eM eN eO eQ eR eS eT eU eV eW fg fh fk fl fm fI fJ fK fP fQ fR fU fV fW dU fX fY fZ gd gh gi gP gQ fE jq jr js ee jt ju jv jw jx jy jz kc kf kg kh ki kj km kx ky kz kD kE kF kG kH kI iO iP iQ iR iS iT iU iV iW iX iY iZ ja jb jc jd je jf dm cj cq cx cy cz cA cC cK cL cM cN cO cP cQ cR cU cV cW cX cY cD cE cF cZ da dc dd de cG gE gF gG gH gI gJ gK gL gM gN gO fC uQ uR uS uT uU uV uW uX pV pW pX pY pZ qa qb qc qd qe qf qg qh qi:Value}
  (aT:∀ (w2:W8) (DK ph pj pk pn po tF tG tH tI tJ tK tL tM tN tO tP tQ GR GU GV GX GY GZ G0 G1 G2:Value),lT w0 fs.length (if B i=true then vR B fs[i].F.fr else B) w2->Q (.exit 4) ⟨List.toArray (c0::c1::c2::c3::c4::c5::c6::c7::c8::c9::gD::.slice (some ⟨g,0,none⟩) fs.length cl::.slice (some ⟨w0.heap.size,0,none⟩) fs.length fs.length::gV::ie::fO::ig::.int .i64 i::DK::eG::eL::eM::eN::eO::eQ::eR::eS::eT::eU::eV::eW::fg::fh::fk::fl::fm::fI::fJ::fK::fP::fQ::fR::fU::fV::fW::dU::fX::fY::fZ::gd::gh::gi::gP::gQ::fE::jq::jr::js::ee::jt::ju::jv::jw::jx::jy::jz::kc::kf::kg::kh::ki::kj::km::kx::ky::kz::kD::kE::kF::kG::kH::kI::iO::iP::iQ::iR::iS::iT::iU::iV::iW::iX::iY::iZ::ja::jb::jc::jd::je::jf::dm::cj::cq::cx::cy::cz::cA::cC::cK::cL::cM::cN::cO::cP::cQ::cR::cU::cV::cW::cX::cY::cD::cE::cF::ph::pj::pk::pn::po::tF::tG::tH::tI::tJ::tK::tL::tM::tN::tO::tP::tQ::GR::GU::GV::GX::GY::GZ::G0::G1::G2::pV::pW::pX::pY::pZ::qa::qb::qc::qd::qe::qf::qg::qh::qi::[]),[]⟩ w2):
  Code.wp Tryz.prog (Code.loop (ya4 2)) Q ⟨List.toArray (c0::c1::c2::c3::c4::c5::c6::c7::c8::c9::gD::.slice (some ⟨g,0,none⟩) fs.length cl::.slice (some ⟨w0.heap.size,0,none⟩) fs.length fs.length::gV::ie::fO::ig::.int .i64 i::.int .i64 0::eG::eL::eM::eN::eO::eQ::eR::eS::eT::eU::eV::eW::fg::fh::fk::fl::fm::fI::fJ::fK::fP::fQ::fR::fU::fV::fW::dU::fX::fY::fZ::gd::gh::gi::gP::gQ::fE::jq::jr::js::ee::jt::ju::jv::jw::jx::jy::jz::kc::kf::kg::kh::ki::kj::km::kx::ky::kz::kD::kE::kF::kG::kH::kI::iO::iP::iQ::iR::iS::iT::iU::iV::iW::iX::iY::iZ::ja::jb::jc::jd::je::jf::dm::cj::cq::cx::cy::cz::cA::cC::cK::cL::cM::cN::cO::cP::cQ::cR::cU::cV::cW::cX::cY::cD::cE::cF::cZ::da::dc::dd::de::cG::gE::gF::gG::gH::gI::gJ::gK::gL::gM::gN::gO::fC::uQ::uR::uS::uT::uU::uV::uW::uX::pV::pW::pX::pY::pZ::qa::qb::qc::qd::qe::qf::qg::qh::qi::[]),[]⟩ w:=by
 conv=>arg 2;arg 1;whnf
 have HF:=zC hf;have HX:=zC aT;have HI:=zC hI;have Fh:=zC me;clear hf aT hI me;have uo:∀ wr,lT w0 fs.length (λ _=>false) wr\/Below w0.heap.size w0 wr->∃ af cf,wr.cell? ⟨g,i*10+9,none⟩=some (.slice af fs[i].F.fr.length cf)/\wr.ownsRow base 3 1 (.slice af fs[i].F.fr.length cf) fs[i].F.fr.length (fs[i].F.fr.map λ (x:Nat)=>Value.int .i64 x)/\g<w0.heap.size:=λ wr h=>by
  have hb:Below w0.heap.size w0 wr:=h.elim (λ h=>h.below) id;have mO:=(zA HF).below hb;obtain⟨g',dn,hv,-,aZ,-,-,hc⟩:=zb1 mO.row hi;injection hv with h1 h2 h3
  injection h1 with h1
  injection h1 with h1
  subst h1;have p9:=hc 9 (by omega);simp only[FG.cells,List.getElem?_cons_zero,List.getElem?_cons_succ] at p9;have mx:=(mO.each fs[i] (List.getElem_mem hi)).i;simp only[zym] at mx;obtain⟨af,cf,e⟩:=zD mx;rw[e] at p9 mx;exact⟨af,cf,p9,mx,((zA HF).row.lt g rfl).2⟩
 have I5:=zC uo;clear uo;generalize fs[i].F.fr=fr at *
 cases hB:B i with
 | false=>
  go_loopg [18] 0 (λ gg jj wr=>jj=.int .i64 0/\lT w0 fs.length B wr)
  exact⟨rfl,zA HI⟩
  case round=>
   obtain⟨rfl,ax⟩:=hrel;obtain⟨af,cf,p9,mx,C8⟩:=zA I5 wr (.inr ax.below);have sL:=ax.row.cell i hi;have ly:=ax.row.sz;rw[hB] at sL;have gR:=yU mx;unfold maxLen at gR;have HE:=zC (show lT w0 fs.length (if B i=true then vR B fr else B) wr from by rw[hB];exact ax);clear ax mx
   by_cases hfl0:0<fr.length
   ·go_wp2_with fail;apply zA HX;exact zA HE
   ·have h0:fr.length=0:=(by omega);go_wp2_with fail;apply zA HX;exact zA HE
 | true=>
  go_loopg [18] fr.length (λ gg jj wr=>∃ j:Nat,j<=fr.length/\gg=fr.length-j/\jj=.int .i64 j/\lT w0 fs.length (vR B (fr.take j)) wr)
  exact⟨0,Nat.zero_le _,rfl,rfl,zA HI⟩
  case round=>
   obtain⟨j,fp,xj,rfl,ax⟩:=hrel;obtain⟨af,cf,p9,mx,C8⟩:=zA I5 wr (.inr ax.below);have sL:=ax.row.cell i hi;have ly:=ax.row.sz;have bj:=ax.below.size;rw[zib _ B hB] at sL;have gR:=yU mx;unfold maxLen at gR
   by_cases hlj:j<fr.length
   ·obtain⟨gf,Xf,Q7,-,PY,XN,XO,q0⟩:=z3g mx j hlj;injection Q7 with h1 h2 h3
    subst h1 h3;have Dy:=zA Fh _ (List.getElem_mem hlj);have dq:=ax.row.cell _ Dy;have TD:=ax.row.fz fr[j];have HS:=zC (ax.set _ true Dy);have aP:=zia (B:=B) hlj;have dB:=zC aP;clear ax mx aP;generalize fr[j]=x at *;go_wp2_with fail;go_roundg (fr.length-(j+1));exact⟨j+1,by omega,rfl,by go_num,by rw[zA dB];exact zA HS⟩;omega
   ·have hj:j=fr.length:=(by omega);subst hj;rw[List.take_length] at ax;have HE:=zC (show lT w0 fs.length (if B i=true then vR B fr else B) wr from by rw[hB];exact ax);clear ax mx;go_wp2_with fail;apply zA HX;exact zA HE
end
section
open Go.RowKit Go.Maps
theorem zyu (n:Nat)(hn:n<=1000)(u:W8):(Instr.makeSlice 91 (.int .i64 n) (.int .i64 n)).run Tryz.prog u=.ok (.slice (some ⟨u.heap.size,0,none⟩) n n) (u.alloc (.cells (madeCells #[.int .i64 0,.slice none 0 0] (n*2)) 150)):=by
 obtain⟨i0,hi,bL,aY,bg⟩:=info_parts zwa;have h:=run_make (P:=Tryz.prog) u 91 150 i0 (.agg #[.int .i64 0,.slice none 0 0]) Tryz.underlying91 hi bL .i64 .i64 (n:Int) (n:Int) (by omega) (Int.le_refl _) (by rw[bg];omega) (by omega);simpa[aY,.cells] using h
theorem yeb (w:W8)(a0 a1 a2 a3 a4 b0 b1 b2 b3 b4:B8):(Op.equalIn 10000 88 (.agg #[.string a0,.string a1,.string a2,.string a3,.string a4]) (.agg #[.string b0,.string b1,.string b2,.string b3,.string b4])).run Tryz.prog w=.ok (a0.toList==b0.toList&&(a1.toList==b1.toList&&(a2.toList==b2.toList&&(a3.toList==b3.toList&&a4.toList==b4.toList)))) w:=by
 have hu:=Tryz.underlying9;have ha:=Tryz.isAgg9;have hz:=Tryz.sizeOf9;rw[show (10000:Nat)=9999+1 from rfl,Op.equalIn];simp only[Sem.run_bind,run_underlying Tryz.underlying88,Result.andThen_ok];simp only[Std.Legacy.Range.forIn_eq_forIn_range',Std.Legacy.Range.size,Nat.sub_zero,Nat.add_sub_cancel,Nat.div_one,List.range'_succ,List.range'_zero,List.forIn_cons,List.forIn_nil]
 go_simp
 cases h0:a0.toList==b0.toList <;> cases h1:a1.toList==b1.toList <;> cases h2:a2.toList==b2.toList <;> cases h3:a3.toList==b3.toList <;> cases h4:a4.toList==b4.toList <;> simp_all
theorem yer {a b:Th}(ha:zdu a)(hb:zdu b):(a.p.toList==b.p.toList&&((xW a.ts 0).toList==(xW b.ts 0).toList&&((xW a.ts 1).toList==(xW b.ts 1).toList&&((xW a.ts 2).toList==(xW b.ts 2).toList&&(xW a.ts 3).toList==(xW b.ts 3).toList))))=decide (a=b):=by
 rw[Bool.eq_iff_iff];simp only[Bool.and_eq_true,xO,decide_eq_true_eq]
 constructor
 ·rintro⟨h0,h1,h2,h3,h4⟩;refine z5f ha hb ?_;unfold thV zV;rw[h0,h1,h2,h3,h4]
 ·rintro rfl;exact⟨rfl,rfl,rfl,rfl,rfl⟩
theorem zrg (n:Nat)(a b:Value):madeCells #[a,b] (n*2)=zcp (n*2) (λ c=>if c%2=0 then a else b):=by
 apply Array.ext_getElem?;intro i
 by_cases h:i<n*2
 ·rw[zd4 h];rcases Nat.mod_two_eq_zero_or_one i with e | e <;> simp[madeCells,h,e]
 ·rw[Array.getElem?_eq_none (by simp[madeCells];omega),Array.getElem?_eq_none (by rw[qL];omega)]
def zal (O:List Pl)(k:Nat)(asked:Th)(rea:Nat->Nat × List Nat)(B:Nat->Bool)(i:Nat):Nat->Bool:=
 if (if decide ((O[i]?.getD default).s<k)||decide ((O[i]?.getD default).t=asked) then zbg B i true else B) i then vR (if decide ((O[i]?.getD default).s<k)||decide ((O[i]?.getD default).t=asked) then zbg B i true else B) (rea i).2 else (if decide ((O[i]?.getD default).s<k)||decide ((O[i]?.getD default).t=asked) then zbg B i true else B)
def qX (O:List Pl)(k:Nat)(asked:Th)(rea:Nat->Nat × List Nat)(pre:List (Fin O.length)):Nat->Bool:=pre.foldl (λ B x=>zal O k asked rea B x.1) (λ _=>false)
def qF (n:Nat)(rea:Nat->Nat × List Nat)(B:Nat->Bool):List (Nat × List Nat):=(List.range n).map λ i=>if B i then rea i else (0,[])
theorem zdp {i:Nat}:∀ (fr:List Nat) (B:Nat->Bool),i∉fr->vR B fr i=B i
 | [],_,_=>rfl
 | x::r,B,h=>by
  have h1:=zdp r (zbg B x true) (λ hm=>h (List.mem_cons_of_mem _ hm))
  show vR (zbg B x true) r i=B i
  rw[h1];unfold zbg;rw[if_neg (λ e=>h (by rw[e];exact List.mem_cons_self))]
def yd5 (O:List Pl)(k:Nat)(asked:Th)(i:Nat):Bool:=decide ((O[i]?.getD default).s<k)||decide ((O[i]?.getD default).t=asked)
def zdr (O:List Pl)(k:Nat)(asked:Th)(B:Nat->Bool)(i:Nat):Nat->Bool:=if yd5 O k asked i then zbg B i true else B
theorem zcu (O:List Pl)(k:Nat)(asked:Th)(rea:Nat->Nat × List Nat)(B:Nat->Bool)(i:Nat):zal O k asked rea B i=if zdr O k asked B i i then vR (zdr O k asked B i) (rea i).2 else zdr O k asked B i:=rfl
variable {i j:Nat} {B:Nat->Bool} {asked:Th} {O:List Pl}
theorem zl8 {k:Nat}(h:j≠i):zdr O k asked B i j=B j:=by
 unfold zdr
 split
 ·unfold zbg;rw[if_neg h]
 ·rfl
variable {rea:Nat->Nat × List Nat}
theorem zuo {k:Nat}(bc:∀ x∈(rea i).2,x<i)(h:i<j):zal O k asked rea B i j=B j:=by
 rw[zcu]
 split
 ·rw[zdp _ _ (λ hm=>by have:=bc j hm;omega),zl8 (by omega)]
 ·exact zl8 (by omega)
theorem zun {k:Nat}(bc:∀ x∈(rea i).2,x<i):zal O k asked rea B i i=zdr O k asked B i i:=by
 rw[zcu]
 split
 ·rw[zdp _ _ (λ hm=>by have:=bc i hm;omega)]
 ·rfl
theorem zgc (O:List Pl)(k:Nat)(asked:Th)(rea:Nat->Nat × List Nat)(pre:List (Fin O.length))(x:Fin O.length):qX O k asked rea (pre++[x])=zal O k asked rea (qX O k asked rea pre) x.1:=by
 unfold qX;rw[List.foldl_append];rfl
def zfc (O:List Pl)(k:Nat)(asked:Th)(rea:Nat->Nat × List Nat):List (Fin O.length)->Nat->Bool:=λ pre=>(pre.foldl (λ (st:(Nat->Bool) × (Nat->Bool)) x=>(zal O k asked rea st.1 x.1,if zdr O k asked st.1 x.1 x.1 then zbg st.2 x.1 true else st.2)) (λ _=>false,λ _=>false)).2
theorem zv2 (O:List Pl)(k:Nat)(asked:Th)(rea:Nat->Nat × List Nat):∀ (pre:List (Fin O.length)) (B D:Nat->Bool),(pre.foldl (λ (st:(Nat->Bool) × (Nat->Bool)) x=>(zal O k asked rea st.1 x.1,if zdr O k asked st.1 x.1 x.1 then zbg st.2 x.1 true else st.2)) (B,D)).1=pre.foldl (λ B x=>zal O k asked rea B x.1) B
 | [],_,_=>rfl
 | _::r,_,_=>zv2 O k asked rea r _ _
theorem zrd (O:List Pl)(k:Nat)(asked:Th)(rea:Nat->Nat × List Nat)(pre:List (Fin O.length))(x:Fin O.length):zfc O k asked rea (pre++[x])=if zdr O k asked (qX O k asked rea pre) x.1 x.1 then zbg (zfc O k asked rea pre) x.1 true else zfc O k asked rea pre:=by
 unfold zfc;rw[List.foldl_append];simp only[List.foldl_cons,List.foldl_nil,zv2];rfl
theorem zn1 {O:List Pl}{k:Nat}{asked:Th}{rea:Nat->Nat × List Nat}(bc:∀ i,i<O.length->∀ x∈(rea i).2,x<i):∀ (d m:Nat),m+d=O.length->∀ i,i<O.length->zfc O k asked rea (qI O.length m) i=(decide (m<=i)&&qX O k asked rea (qI O.length m) i)
 | 0,m,hm,i,hi=>by
  rw[Nat.add_zero] at hm;subst hm;rw[NT];simp[zfc];omega
 | d+1,m,hm,i,hi=>by
  have aH:m<O.length:=by omega
  have ih:=zn1 (k:=k) (asked:=asked) bc d (m+1) (by omega) i hi;rw[zfz aH,zrd,zgc]
  by_cases e:i=m
  ·subst e;rw[zun (bc i hi)]
   split
   ·rename_i h;simp[zbg,h]
   ·rename_i h;rw[ih];simp at h;simp[h];intro h';omega
  ·have e1:(if zdr O k asked (qX O k asked rea (qI O.length (m+1))) m m=true then zbg (zfc O k asked rea (qI O.length (m+1))) m true else zfc O k asked rea (qI O.length (m+1))) i=zfc O k asked rea (qI O.length (m+1)) i:=by
    split
    ·unfold zbg;rw[if_neg e]
    ·rfl
   rw[e1,ih]
   by_cases h:m+1<=i
   ·rw[zuo (bc m aH) (by omega)];have:m<=i:=by omega
    simp[h,this]
   ·have h2:¬ m<=i:=(by omega);simp[h,h2]
def zzb (Dn:Nat->Bool)(rea:Nat->Nat × List Nat)(V:Nat->Value)(c:Nat):Value:=
 if Dn (c/2)=true then (if c%2=0 then .int .i64 ((rea (c/2)).1:Nat) else V (c/2)) else (if c%2=0 then .int .i64 0 else .slice none 0 0)
theorem z4q {q:Nat}{Dn:Nat->Bool}{V:Nat->Value}{v:Value}(c:Nat):(if c=q*2+1 then v else if c=q*2 then .int .i64 ((rea q).1:Nat) else zzb Dn rea V c)=zzb (zbg Dn q true) rea (λ i=>if i=q then v else V i) c:=by
 unfold zzb zbg
 by_cases e1:c=q*2+1
 ·have e:c/2=q:=by omega
  have n3:¬ c%2=0:=by omega
  rw[if_pos e1,if_pos e,if_pos rfl,if_neg n3];simp[e]
 ·rw[if_neg e1]
  by_cases e2:c=q*2
  ·have e:c/2=q:=(by omega);have n3:c%2=0:=(by omega);rw[if_pos e2,if_pos e,if_pos rfl,if_pos n3,e]
  ·rw[if_neg e2];have bF:c/2≠q:=(by omega);simp only[if_neg bF]
structure EU (w:W8)(ar:O8)(cr:Nat)(rs:List PR)(asked:Th)(kk:Nat)(ao:O8)(co bo b9 mn D:Nat)(O:List Pl)(W:W8):Prop where
 y4:W.heap[w.heap.size]?=some (.cells #[.slice ar rs.length cr] 75 (0,0))
 y7:TV W (w.heap.size+1) asked
 y8:W.heap[w.heap.size+1+1]?=some (.cells #[.int .i64 0,.slice none 0 0] 93 (0,0))
 y9:W.heap[b9]?=some (.cells #[.int .i64 (kk:Nat)] 3 (0,0))
 Vg:W.heap[mn]?=some (.cells #[.slice ao O.length co] 141 (0,0))
 NL:W.heap[D+1]?=some (.cells #[.slice (some ⟨D,0,none⟩) O.length O.length] 91 (0,0))
 Hg:W.heap[D+1+1+1]?=some (.cells #[.slice (some ⟨D+1+1,0,none⟩) O.length O.length] 143 (0,0))
 ro:W.ownsRow bo 148 7 (.slice ao O.length co) O.length (O.flatMap ez)
 k:Below w.heap.size w W
 l9:w.heap.size+1+1<b9
 A6:b9<mn
 lD:mn<D
 lo:∀ g,(Value.slice ao O.length co).ownBlock=some g->g<D
 lb:w.heap.size<=bo
variable {W W' w:W8} {co bo b9 mn D kk cr:Nat} {ao ar:O8} {rs:List PR}
theorem EU.oS (h:EU w ar cr rs asked kk ao co bo b9 mn D O W)(hb:∀ i,i<=D+1+1+1->i≠D->i≠D+1+1->W'.heap[i]?=W.heap[i]?)(hk:Below w.heap.size w W'):EU w ar cr rs asked kk ao co bo b9 mn D O W':=by
 have l9:=h.l9;have A6:=h.A6;have lD:=h.lD;exact⟨(hb _ (by omega) (by omega) (by omega)).trans h.y4,(hb _ (by omega) (by omega) (by omega)).trans h.y7,(hb _ (by omega) (by omega) (by omega)).trans h.y8,(hb _ (by omega) (by omega) (by omega)).trans h.y9,(hb _ (by omega) (by omega) (by omega)).trans h.Vg,(hb _ (by omega) (by omega) (by omega)).trans h.NL,(hb _ (by omega) (by omega) (by omega)).trans h.Hg,zZ h.ro (λ g e=>hb g (by have:=h.lo g e;omega) (by have:=h.lo g e;omega) (by have:=h.lo g e;omega)),hk,l9,A6,lD,h.lo,h.lb⟩
theorem EU.below (h:EU w ar cr rs asked kk ao co bo b9 mn D O W)(k:Below W.heap.size W W'):EU w ar cr rs asked kk ao co bo b9 mn D O W':=
 h.oS (λ i hi _ _=>k.block i (by have:=(Array.getElem?_eq_some_iff.1 h.Hg).1;omega)) (h.k.trans (k.mono h.k.size))
def ONo (D i:Nat):Prop:=i=D\/i=D+1+1
structure j9 (w:W8)(ar:O8)(cr:Nat)(rs:List PR)(asked:Th)(kk:Nat)(ao:O8)(co bo b9 mn D:Nat)(O:List Pl)(rea:Nat->Nat × List Nat)(w1:W8)(B Dn:Nat->Bool)(W:W8):Prop where
 box:EU w ar cr rs asked kk ao co bo b9 mn D O W
 kp:qH (ONo D) w1 W
 nJ:fj W (D+1+1) 4 O.length (λ i=>.bool (B i))
 vt:∃ V:Nat->Value,fj W D 150 (O.length*2) (zzb Dn rea V)/\∀ i,Dn i=true->W.ownsRow w1.heap.size 3 1 (V i) (rea i).2.length (ew (rea i).2)
 lt:D+1+1+1<w1.heap.size
theorem j9.grown {w:W8}{ar:O8}{cr:Nat}{rs:List PR}{asked:Th}{kk:Nat}{ao:O8}{co bo b9 mn D:Nat}{O:List Pl}{rea:Nat->Nat × List Nat}{w1:W8}{B Dn:Nat->Bool}{W W':W8}(h:j9 w ar cr rs asked kk ao co bo b9 mn D O rea w1 B Dn W){row:Option Nat}(hg:W.grownBy W' row)(hr:∀ i,row=some i->w1.heap.size<=i/\∃ o:Obj,W.heap[i]?=some o/\o.isCells=false):j9 w ar cr rs asked kk ao co bo b9 mn D O rea w1 B Dn W':=by
 have aH:=h.lt;have aW:=h.kp.size;have hw:=h.box.k.size;have dK:∀ i,i<w1.heap.size->W'.heap[i]?=W.heap[i]?:=λ i hi=>hg.block i (by omega) (λ e=>by have:=(hr i e.symm).1;omega)
 have l9:=h.box.l9;have A6:=h.box.A6;have lD:=h.box.lD;obtain⟨V,h1,h2⟩:=h.vt;exact⟨h.box.oS (λ i hi _ _=>dK i (by omega)) ⟨hg.os.trans h.box.k.os,hg.tape.trans h.box.k.tape,hg.output.trans h.box.k.output,Nat.le_trans h.box.k.size hg.size,λ i hi=>(dK i (by omega)).trans (h.box.k.block i hi)⟩,h.kp.grown hg (λ i e=>.inl (hr i e).1),h.nJ.block (dK _ (by omega)),⟨V,h1.block (dK _ (by omega)),λ i a=>zsd (h2 i a) hg (λ i e=>(hr i e).2)⟩,aH⟩
def PV (w:W8)(b:Nat)(p:Pl):Prop:=w.heap[b]?=some (.cells (ez p).toArray 148 (0,0))
variable {p:Pl} {b:Nat}
theorem PV.grown {A B:W8}{row:Option Nat}(h:PV A b p)(hg:A.grownBy B row)(hr:∀ i,row=some i->∃ o:Obj,A.heap[i]?=some o/\o.isCells=false):PV B b p:=zk5 h hg hr
theorem PV.lt (h:PV w b p):b<w.heap.size:=(Array.getElem?_eq_some_iff.1 h).1
end
section
open Go.RowKit Go.Maps
variable {b:Nat} {w:W8}
theorem PV.loadT {p:Pl}(h:PV w b p):(zmx (.pointer (some ⟨b,0,none⟩))).run Tryz.prog w=.ok (.agg #[.string p.t.p,.string (xW p.t.ts 0),.string (xW p.t.ts 1),.string (xW p.t.ts 2),.string (xW p.t.ts 3)]) w:=by
 have c0:=(zB h 0).1;have c1:=(zB h 1).1;have c2:=(zB h 2).1;have c3:=(zB h 3).1;have c4:=(zB h 4).1;simp only[ez,List.getElem?_toArray,List.getElem?_cons_zero,List.getElem?_cons_succ] at c0 c1 c2 c3 c4;unfold zmx
 go_simp
structure ug (D:Nat)(W wr:W8):Prop where
 size:W.heap.size<=wr.heap.size
 block:∀ i,i<W.heap.size->i≠D->i≠D+1+1->wr.heap[i]?=W.heap[i]?
theorem ug.refl (D:Nat)(W:W8):ug D W W:=⟨Nat.le_refl _,λ _ _ _ _=>rfl⟩
variable {W wr:W8} {D:Nat}
theorem ug.below {w':W8}(h:ug D W wr)(k:Below wr.heap.size wr w'):ug D W w':=⟨Nat.le_trans h.size k.size,λ i hi h1 h2=>(k.block i (Nat.lt_of_lt_of_le hi h.size)).trans (h.block i hi h1 h2)⟩
theorem ug.set (h:ug D W wr){j:Nat}(hb:b=D\/b=D+1+1)(v:Value):ug D W (wr.setCell ⟨b,j,none⟩ v):=⟨by simpa using h.size,λ i hi h1 h2=>(Below.heap_setCell _ _ _ _ (by rcases hb with e | e <;> simp[e] <;> assumption)).trans (h.block i hi h1 h2)⟩
theorem j9.below {w:W8}{ar:O8}{cr:Nat}{rs:List PR}{asked:Th}{kk:Nat}{ao:O8}{co bo b9 mn D:Nat}{O:List Pl}{rea:Nat->Nat × List Nat}{w1:W8}{B Dn:Nat->Bool}{W W':W8}(h:j9 w ar cr rs asked kk ao co bo b9 mn D O rea w1 B Dn W)(k:Below W.heap.size W W'):j9 w ar cr rs asked kk ao co bo b9 mn D O rea w1 B Dn W':=by
 obtain⟨V,h1,h2⟩:=h.vt;exact⟨h.box.below k,h.kp.trans (qH.ak k),h.nJ.below k,⟨V,h1.below k,λ i a=>zJ (h2 i a) k (λ g e=>((h2 i a).lt g e).2)⟩,h.lt⟩
variable {B Dn:Nat->Bool} {w1:W8} {rea:Nat->Nat × List Nat} {O:List Pl} {co bo b9 mn kk cr:Nat} {ao ar:O8} {asked:Th} {rs:List PR}
theorem j9.own (h:j9 w ar cr rs asked kk ao co bo b9 mn D O rea w1 B Dn W)(i:Nat):j9 w ar cr rs asked kk ao co bo b9 mn D O rea w1 (zbg B i true) Dn (W.setCell ⟨D+1+1,i,none⟩ (.bool true)):=by
 obtain⟨V,h1,h2⟩:=h.vt;have aH:=h.lt;have l9:=h.box.l9;have A6:=h.box.A6;have lD:=h.box.lD;have bp:∀ j,j≠D+1+1->(W.setCell ⟨D+1+1,i,none⟩ (.bool true)).heap[j]?=W.heap[j]?:=λ j hj=>Below.heap_setCell _ _ _ _ (by simpa using hj)
 refine⟨h.box.oS (λ j _ _ hj=>bp j hj) (h.box.k.setCell (by show _<=D+1+1;omega) _),h.kp.setCell (.inr (.inr rfl)) _,(h.nJ.set i (.bool true)).eq (λ j _=>?_),⟨V,h1.block (bp D (by omega)),λ j a=>zZ (h2 j a) (λ g e=>bp g (by have:=((h2 j a).lt g e).1;omega))⟩,aH⟩;unfold zbg
 by_cases e:j=i
 ·rw[if_pos e,if_pos e]
 ·rw[if_neg e,if_neg e]
theorem j9.put (h:j9 w ar cr rs asked kk ao co bo b9 mn D O rea w1 B Dn W)(i:Nat)(hi:i<O.length){v:Value}(hv:W.ownsRow w1.heap.size 3 1 v (rea i).2.length (ew (rea i).2)):j9 w ar cr rs asked kk ao co bo b9 mn D O rea w1 B (zbg Dn i true) ((W.setCell ⟨D,i*2,none⟩ (.int .i64 ((rea i).1:Nat))).setCell ⟨D,i*2+1,none⟩ v)/\((W.setCell ⟨D,i*2,none⟩ (.int .i64 ((rea i).1:Nat))).setCell ⟨D,i*2+1,none⟩ v).ownsRow w1.heap.size 3 1 v (rea i).2.length (ew (rea i).2)/\((W.setCell ⟨D,i*2,none⟩ (.int .i64 ((rea i).1:Nat))).setCell ⟨D,i*2+1,none⟩ v).cell? ⟨D,i*2+1,none⟩=some v:=by
 obtain⟨V,h1,h2⟩:=h.vt;have aH:=h.lt;have l9:=h.box.l9;have A6:=h.box.A6;have lD:=h.box.lD;have bp:∀ j,j≠D->((W.setCell ⟨D,i*2,none⟩ (.int .i64 ((rea i).1:Nat))).setCell ⟨D,i*2+1,none⟩ v).heap[j]?=W.heap[j]?:=λ j hj=>(Below.heap_setCell _ _ _ _ (by simpa using hj)).trans (Below.heap_setCell _ _ _ _ (by simpa using hj))
 refine⟨⟨h.box.oS (λ j _ hj _=>bp j hj) ((h.box.k.setCell (by show _<=D;omega) _).setCell (by show _<=D;omega) _),(h.kp.setCell (.inr (.inl rfl)) _).setCell (.inr (.inl rfl)) _,h.nJ.block (bp _ (by omega)),⟨λ j=>if j=i then v else V j,((h1.set (i*2) _).set (i*2+1) v).eq (λ c _=>z4q c),λ j a=>?_⟩,aH⟩,zZ hv (λ g e=>bp g (by have:=(hv.lt g e).1;omega)),?_⟩
 rotate_left
 ·have:=((h1.set (i*2) (.int .i64 ((rea i).1:Nat))).set (i*2+1) v).cell (i:=i*2+1) (by omega);rw[this,if_pos rfl]
 by_cases e:j=i
 ·subst e;simp only[if_pos];exact zZ hv (λ g e=>bp g (by have:=(hv.lt g e).1;omega))
 ·simp only[if_neg e];have a':Dn j=true:=by unfold zbg at a;rwa [if_neg e] at a
  exact zZ (h2 j a') (λ g e=>bp g (by have:=((h2 j a').lt g e).1;omega))
theorem j9.ends {B' Vy:Nat->Bool}(h:j9 w ar cr rs asked kk ao co bo b9 mn D O rea w1 B Dn W)(h':j9 w ar cr rs asked kk ao co bo b9 mn D O rea w1 B' Vy wr)(k:ug D W wr):KeepsFrom w1.heap.size W wr/\qH (ONo D) W wr:=by
 have aH:=h.lt;refine⟨⟨k.size,λ i o hB hi _=>(k.block i (Array.getElem?_eq_some_iff.1 hi).1 (by omega) (by omega)).trans hi⟩,⟨h'.box.k.os.trans h.box.k.os.symm,h'.box.k.tape.trans h.box.k.tape.symm,h'.box.k.output.trans h.box.k.output.symm,k.size,λ i o hi aX _=>(k.block i (Array.getElem?_eq_some_iff.1 hi).1 (λ e=>aX (.inl e)) (λ e=>aX (.inr e))).trans hi⟩⟩
theorem zfl {α β:Type}(f:α->β){l:List α}(h:(l.map f).Nodup):l.Nodup:=by
 unfold List.Nodup at *;rw[List.pairwise_map] at h;exact h.imp λ h e=>h (by rw[e])
theorem zju {α:Type}{f:α->V8}(hf:∀ x,(f x).length=2):∀ l:List α,(l.flatMap f).length=l.length*2
 | []=>rfl
 | x::r=>by rw[List.flatMap_cons,List.length_append,hf,zju hf r,List.length_cons];omega
theorem z91 (f:Nat->Value):∀ n:Nat,(List.range (n*2)).map f=(List.range n).flatMap λ i=>[f (i*2),f (i*2+1)]
 | 0=>rfl
 | n+1=>by
  rw[show (n+1)*2=n*2+1+1 by omega,List.range_succ,List.range_succ,List.range_succ,List.flatMap_append,<-z91 f n];simp
theorem j9.nodes (h:j9 w ar cr rs asked kk ao co bo b9 mn D O rea w1 B Dn W)(hn:O.length<=maxLen):∃ bG:List ND,bG.length=O.length/\wI W D (.slice (some ⟨D,0,none⟩) O.length O.length) bG/\bG.map lk=(List.range O.length).map λ i=>if Dn i then rea i else (0,[]):=by
 obtain⟨V,h1,h2⟩:=h.vt;have aH:=h.lt;have hl:((List.range O.length).map λ i=>if Dn i then (⟨(rea i).1,(rea i).2,V i⟩:ND) else ⟨0,[],.slice none 0 0⟩).length=O.length:=by simp
 refine⟨(List.range O.length).map λ i=>if Dn i then ⟨(rea i).1,(rea i).2,V i⟩ else ⟨0,[],.slice none 0 0⟩,hl,⟨?_,λ x hx=>?_⟩,?_⟩
 ·rw[hl];refine⟨?_,.inr ⟨D,O.length,_,rfl,Nat.le_refl _,h1,Nat.le_refl _,hn,by rw[qL],?_⟩⟩
  ·rw[zju zhg,hl]
  ·unfold zcp;rw[List.take_of_length_le (by simp),List.flatMap_map]
   show (List.range (O.length*2)).map _=_
   rw[z91]
   congr 1
   funext i
   unfold zzb;rw[show i*2/2=i by omega,show (i*2+1)/2=i by omega,show i*2%2=0 by omega,show (i*2+1)%2=1 by omega]
   cases Dn i <;> rfl
 ·obtain⟨i,hi,rfl⟩:=List.mem_map.1 hx
  cases hd:Dn i with
  | true=>exact zG (h2 i hd) (by omega)
  | false=>exact World.ownsRow_nil _ _ _ _
 ·rw[List.map_map];apply List.map_congr_left;intro i _;simp only[Function.comp]
  cases Dn i <;> rfl
end
end Go.Proofs.YtldkpahaocjdpaaGreat
