/-
  The reference's ways, whole.
-/
import Derived.Test.YtldkpahaocjdpaaGreatE27
set_option maxHeartbeats 16000000
set_option maxRecDepth 1000000
namespace Go.Proofs.YtldkpahaocjdpaaGreat
section
open Go.RowKit
def z57 (w:W8)(R:zS)(l:List zP):Ending->W8->Prop:=λ e w'=>∃ v outs,e=.returned v/\rm w' (w.heap.size+1) v outs/\outs.map (·.W)=ze3 R l/\(∀ x∈outs,x.e.length<=100/\x.fr.length<=100)/\outs.length<=1000000/\Below w.heap.size w w'
theorem z98 {w:W8}{g:Nat}{e:TypeId}{xs:V8}{size:Nat}(hb:w.heap[g]?=some (.cells xs.toArray e (0,0)))(hl:xs.length=size):w.ownsRow g e size (.slice (some ⟨g,0,none⟩) 1 1) 1 xs:=
 ⟨by omega,.inr ⟨g,1,xs.toArray,rfl,Nat.le_refl _,hb,Nat.le_refl _,by unfold maxLen;omega,by simpa using hl,by simp[<-hl]⟩⟩
theorem jn.start (w:W8)(R:zS)(hv bv:Value):jn w R hv bv (.slice (some ⟨w.heap.size+1,0,none⟩) 1 1) [⟨[],[],.slice none 0 0,.slice none 0 0,.slice none 0 0⟩] (.slice none 0 0) [] ((w.alloc (.cells #[.string R.head.pred,hv,.bool R.head.no,.int .i64 R.head.at_,.int .i64 R.head.az,bv] 246)).alloc (.cells #[.slice none 0 0,.slice none 0 0,.slice none 0 0] 325)):=by
 refine⟨((Below.refl _ w).alloc L9 _).alloc (by simp) _,?_,⟨z98 (xs:=[.slice none 0 0,.slice none 0 0,.slice none 0 0]) ?_ rfl,λ x hx=>?_⟩,⟨World.ownsRow_nil _ _ _ _,by simp⟩,λ g e=>by cases e⟩
 ·rw[Below.heap_alloc _ _ _ (by simp)];exact heap_alloc_new w _
 ·have:=heap_alloc_new (w.alloc (.cells #[.string R.head.pred,hv,.bool R.head.no,.int .i64 R.head.at_,.int .i64 R.head.az,bv] 246)) (.cells #[.slice none 0 0,.slice none 0 0,.slice none 0 0] 325);rw[World.size_alloc] at this;exact this
 ·rw[List.mem_singleton.1 hx];exact⟨⟨World.ownsRow_nil _ _ _ _,World.ownsRow_nil _ _ _ _,λ _=>⟨rfl,rfl⟩⟩,World.ownsRow_nil _ _ _ _,λ _=>rfl⟩
theorem z6i (w:W8)(base:Nat)(R:zS)(hv:Value)(bs:List (zL × Value))(bv:Value)(fs:List FG)(al:O8)(cl:Nat)(hC:yaq w base R hv bs bv fs (.slice al fs.length cl))(bj:∀ x∈zip (fs.map (·.F)) R.body [([],[])],∀ a∈R.body,(jG (eN x.1 a)).length<=1000000000):
  Calls Tryz.prog 193 #[zb1 R.head hv bv,.slice al fs.length cl] w (z57 w R (fs.map (·.F))):=by
 have HC:=zC hC;have H0:=zC (jn.start w R hv bv);have mi:=zC bj;obtain⟨ab,cb,rfl⟩:=zD hC.bK.bo;obtain⟨ah,ch,rfl⟩:=zD hC.bK.hd;clear hC bj;unfold zb1;go_enter Tryz.func193,Tryz.ntmps193;go_wp2_with fail;refine yea w base R _ bs _ fs al cl (zA HC) _ _ (zA H0) ?_;intro v5 now w2;intros;rename_i hI hF aW mB;obtain⟨an,cn,rfl⟩:=zD hI.now.row;have bj:∀ x∈now,∀ a∈R.body,(jG (eN x.e a)).length<=1000000000:=λ x hx a ha=>zA mi x.W (by rw[<-hF];exact List.mem_map_of_mem hx) a ha
 have HI:=zC hI;have HF:=zC hF;have pT:=zC aW;have HS:=zC bj;clear hI hF aW bj H0 mi;go_wp2_with fail;refine yed w base R _ bs _ fs al cl (zA HC) now an cn mB (zA HS) _ (zA HI) ?_;intro M1 outs w3;intros;rename_i gz Il Aa;obtain⟨a3,c3,rfl⟩:=zD gz.next.row;have sn:outs.length<=1000000:=by
  have:=congrArg List.length Il;rw[List.length_map] at this;have h2:=List.length_filter_le (zia R (fs.map (·.F))) (now.map (·.W));rw[List.length_map] at h2;omega
 have HE:=zC (show outs.map (·.W)=ze3 R (fs.map (·.F)) by rw[Il,zA HF];rfl);have YS:=zC (show ∀ x∈outs,x.e.length<=100/\x.fr.length<=100 from λ x hx=>zA pT x (Aa x hx));have iH:=zC gz;clear gz Il Aa HI HF pT HS;go_wp2_with fail;go_ret;exact⟨_,outs,rfl,(zA iH).next,zA HE,zA YS,sn,(zA iH).below⟩
end
section
open Go.RowKit
def zcs (R:zS)(s n i:Nat)(x:Way):zP:=⟨eN x.1 R.head,xP (eN x.1 R.head),s,n,i,x.2⟩
def zue (l out:List zP)(f:zP):List zP:=if jE l f.text<0/\jE out f.text<0 then out++[f] else out
def vB (l:List zP):List zP->List zP->List zP × Bool
 | [],out=>(out,false)
 | f::r,out=>if 50<l.length+out.length then (out,true) else vB l r (zue l out f)
def j1 (ps:P9)(S:Nat->Nat)(l:List zP)(s n:Nat):List zS->Nat->List zP
 | [],_=>[]
 | R::r,i=>(if S (zM ps R.head.pred).toNat=s then (ze3 R l).map (zcs R s n i) else [])++j1 ps S l s n r (i+1)
theorem ya8 {s:B8}{B:zL}(h:s.data.toList=jG B):s=xP B:=by
 cases s
 simp only[xP,<-h,Array.toArray_toList]
theorem zon {l:List zP}:∀ (a b out:List zP),(vB l a out).2=true->vB l (a++b) out=vB l a out
 | [],b,out,h=>by simp[vB] at h
 | f::r,b,out,h=>by
  rw[List.cons_append,vB,vB];rw[vB] at h
  split
  ·rfl
  ·rename_i hn;rw[if_neg hn] at h;exact zon r b _ h
theorem zwf {l:List zP}:∀ (a b out:List zP),(vB l a out).2=false->vB l (a++b) out=vB l b (vB l a out).1
 | [],b,out,h=>rfl
 | f::r,b,out,h=>by
  rw[List.cons_append,vB,vB];rw[vB] at h
  split
  ·rename_i hn;rw[if_pos hn] at h
   cases h
  ·rename_i hn;rw[if_neg hn] at h;exact zwf r b _ h
variable {x:FG} {base:Nat} {w w':W8}
theorem qZ.bu {B:List Nat}(h:qZ w base x)(k:zK B w w')(h1:∀ b∈B,dW w 317 b)(h2:∀ b∈B,dW w 3 b):qZ w' base x:=
 ⟨xD h.t k (λ b hb=>.inr (h1 b hb)),xD h.i k (λ b hb=>.inr (h2 b hb))⟩
variable {v:Value} {W:W8}
theorem xB.add {wX w5:W8}{v':Value}{fs:List FG}(h:xB wX base v fs)(hx:qZ wX base x)(hW:zK [] wX W)(hg:W.grownBy w5 v.ownBlock)(ay:w5.ownsRow base 262 10 v' (fs.length+1) (fs.flatMap FG.cells++x.cells)):xB w5 base v' (fs++[x]):=by
 have k5:zK v.ownBlock.toList wX w5:=(hW.mono (by simp)).trans (zK.aR hg);have n1:∀ b∈v.ownBlock.toList,dW wX 317 b:=yH h.row (by decide);have n2:∀ b∈v.ownBlock.toList,dW wX 3 b:=yH h.row (by decide);refine⟨?_,λ y hy=>?_⟩
 ·rw[List.length_append,List.flatMap_append];simpa using ay
 ·rcases List.mem_append.1 hy with hy | hy
  ·exact (h.each y hy).bu k5 n1 n2
  ·rw[List.mem_singleton.1 hy];exact hx.bu k5 n1 n2
structure uD (w:W8)(kJ:Nat)(R:zS)(hv bv vw:Value)(ws:List WG)(v:Value)(out:List FG)(wr:W8):Prop where
 below:Below w.heap.size w wr
 ge:w.heap.size<=kJ
 box:wr.heap[kJ]?=some (.cells #[.string R.head.pred,hv,.bool R.head.no,.int .i64 R.head.at_,.int .i64 R.head.az,bv] 246 (0,0))
 ways:rm wr w.heap.size vw ws
 out:xB wr w.heap.size v out
variable {wr:W8} {out:List FG} {ws:List WG} {hv bv vw:Value} {R:zS} {kJ:Nat}
theorem uD.lt (h:uD w kJ R hv bv vw ws v out wr):kJ<wr.heap.size:=(Array.getElem?_eq_some_iff.1 h.box).1
theorem uD.dN (h:uD w kJ R hv bv vw ws v out wr)(k:Below wr.heap.size wr w'):uD w kJ R hv bv vw ws v out w':=
 ⟨h.below.trans (k.mono h.below.size),h.ge,(k.block _ h.lt).trans h.box,h.ways.below k,h.out.below k⟩
theorem uD.add {w:W8}{kJ:Nat}{R:zS}{hv bv vw:Value}{ws:List WG}{v v':Value}{out:List FG}{wX W w5:W8}{x:FG}(h:uD w kJ R hv bv vw ws v out wX)(hx:qZ wX w.heap.size x)(hW:zK [] wX W)(hg:W.grownBy w5 v.ownBlock)(ay:w5.ownsRow w.heap.size 262 10 v' (out.length+1) (out.flatMap FG.cells++x.cells)):uD w kJ R hv bv vw ws v' (out++[x]) w5:=by
 have k5:zK v.ownBlock.toList wX w5:=(hW.mono (by simp)).trans (zK.aR hg);have nt:∀ e,262≠e->∀ b∈v.ownBlock.toList,dW wX e b:=λ e he=>yH h.out.row he
 refine⟨zY h.below k5 h.below.size (λ b hm=>(h.out.row.lt b (by simpa using hm)).1),h.ge,yL h.box k5 (λ b hb=>.inr (nt _ (by decide) b hb)),⟨xD h.ways.row k5 (λ b hb=>.inr (nt _ (by decide) b hb)),λ y hy=>(h.ways.each y hy).bu k5 (nt _ (by decide)) (nt _ (by decide))⟩,h.out.add hx hW hg ay⟩
structure D9 (wr:W8)(v0 v1 v2 v3 v4 v5 v6 v7 v8 v9:Value)(b:Nat)(wc:W8):Prop where
 below:Below wr.heap.size wr wc
 bq:wc.heap[b]?=some (.cells #[v0,v1,v2,v3,v4,v5,v6,v7,v8,v9] 262 (0,0))
def z6s (w:W8)(b:Nat)(v0 v1 v2 v3 v4 v5 v6 v7 v8 v9:Value):W8:=(((((((((w.setCell ⟨b,0,none⟩ v0).setCell ⟨b,1,none⟩ v1).setCell ⟨b,2,none⟩ v2).setCell ⟨b,3,none⟩ v3).setCell ⟨b,4,none⟩ v4).setCell ⟨b,5,none⟩ v5).setCell ⟨b,6,none⟩ v6).setCell ⟨b,7,none⟩ v7).setCell ⟨b,8,none⟩ v8).setCell ⟨b,9,none⟩ v9
variable {u0 u1 u2 u3 u4 u5 u6 u7 u8 u9:Value} {b:Nat}
theorem z4s {t:TypeId}(v0 v1 v2 v3 v4 v5 v6 v7 v8 v9:Value)(h:w.heap[b]?=some (.cells #[u0,u1,u2,u3,u4,u5,u6,u7,u8,u9] t (0,0))):(z6s w b v0 v1 v2 v3 v4 v5 v6 v7 v8 v9).heap[b]?=some (.cells #[v0,v1,v2,v3,v4,v5,v6,v7,v8,v9] t (0,0)):=by
 have g0:=heap_setCell_same _ _ 0 _ _ v0 h;have g1:=heap_setCell_same _ _ 1 _ _ v1 g0;have g2:=heap_setCell_same _ _ 2 _ _ v2 g1;have g3:=heap_setCell_same _ _ 3 _ _ v3 g2;have g4:=heap_setCell_same _ _ 4 _ _ v4 g3;have g5:=heap_setCell_same _ _ 5 _ _ v5 g4;have g6:=heap_setCell_same _ _ 6 _ _ v6 g5;have g7:=heap_setCell_same _ _ 7 _ _ v7 g6;have g8:=heap_setCell_same _ _ 8 _ _ v8 g7;have g9:=heap_setCell_same _ _ 9 _ _ v9 g8;unfold z6s;rw[g9];simp
theorem zyz (B:List Nat)(hb:b∈B)(v0 v1 v2 v3 v4 v5 v6 v7 v8 v9:Value):zK B w (z6s w b v0 v1 v2 v3 v4 v5 v6 v7 v8 v9):=by
 have e:∀ {w':W8} (i:Nat) (u:Value),zK B w w'->zK B w (w'.setCell ⟨b,i,none⟩ u):=λ i u k=>k.setCell (p:=⟨b,i,none⟩) (.inl hb) _
 exact e _ _ (e _ _ (e _ _ (e _ _ (e _ _ (e _ _ (e _ _ (e _ _ (e _ _ (e _ _ (zK.refl B w))))))))))
variable {v0 v1 v2 v3 v4 v5 v6 v7 v8 v9:Value} {w2:W8}
theorem D9.behind (hW:Below wr.heap.size wr W)(h2:Below W.heap.size W w2):D9 wr v0 v1 v2 v3 v4 v5 v6 v7 v8 v9 w2.heap.size (w2.alloc (.cells #[v0,v1,v2,v3,v4,v5,v6,v7,v8,v9] 262)):=by
 have hs:=hW.size;have su:=h2.size;exact⟨(hW.trans (h2.mono hs)).alloc (by omega) _,heap_alloc_new w2 _⟩
theorem D9.ahead (hW:Below wr.heap.size wr W)(hb:wr.heap.size<=b)(hblk:W.heap[b]?=some (.cells #[u0,u1,u2,u3,u4,u5,u6,u7,u8,u9] 262 (0,0)))(h2:Below W.heap.size W w2):D9 wr v0 v1 v2 v3 v4 v5 v6 v7 v8 v9 b ((((((((((w2.setCell ⟨b,0,none⟩ v0).setCell ⟨b,1,none⟩ v1).setCell ⟨b,2,none⟩ v2).setCell ⟨b,3,none⟩ v3).setCell ⟨b,4,none⟩ v4).setCell ⟨b,5,none⟩ v5).setCell ⟨b,6,none⟩ v6).setCell ⟨b,7,none⟩ v7).setCell ⟨b,8,none⟩ v8).setCell ⟨b,9,none⟩ v9):=by
 show D9 wr v0 v1 v2 v3 v4 v5 v6 v7 v8 v9 b (z6s w2 b v0 v1 v2 v3 v4 v5 v6 v7 v8 v9)
 have hs:=hW.size;have su:=h2.size;have aH:=(Array.getElem?_eq_some_iff.1 hblk).1;refine⟨?_,z4s _ _ _ _ _ _ _ _ _ _ ((h2.block b aH).trans hblk)⟩;exact zY (hW.trans (h2.mono hs)) (zyz [b] (by simp) _ _ _ _ _ _ _ _ _ _) (by omega) (λ x hx=>by rw[List.mem_singleton.1 hx];exact hb)
end
section
open Go.RowKit
noncomputable def zvn (k:Nat):Code:=((Tryz.f196.body.map zdo).getD []).getD k .skip
theorem zyt {l out cs:List zP}{k:Nat}(h:k<cs.length):vB l (cs.drop k) out=if 50<l.length+out.length then (out,true) else vB l (cs.drop (k+1)) (zue l out cs[k]):=by
 rw[List.drop_eq_getElem_cons h,vB]
theorem ydb (w:W8)(base kJ:Nat)(R:zS)(hv bv:Value)(fs:List FG)(al:O8)(cl:Nat)(Lo:xB w base (.slice al fs.length cl) fs)(kn:fs.length<=50)(ws:List WG)(aw:O8)(cw:Nat)(xz:ws.length<=1000000)(bN:∀ x∈ws,x.fr.length<=100)(uW:w.ownsRow base 317 3 hv R.head.ae.length (cellsOf R.head.ae))(h4:R.head.ae.length<=4)(bj:∀ x∈ws,(jG (eN x.e R.head)).length<=1000000000)(s n i:Nat)(T:List zP × Bool)(v9:Value)(out:List FG)(sn:out.length<=51)(aE:vB (fs.map (·.F)) ((ws.map (·.W)).map (zcs R s n i)) (out.map (·.F))=T)(w1:W8)(hI:uD w kJ R hv bv (.slice aw ws.length cw) ws v9 out w1)
  {Q:Exit->Act->W8->Prop} {c0 c4 c5 c6 c7 ij gw il gZ fE eH eZ fc eW eT eL eV eX eY eO eR eQ fh fj fo ft fk fJ fL fI fY fQ fO gq fV gu dT gd fM gn fP fN fZ gN gQ fG jv jq jr ee kf jt km kg jw ju ko kc jz jy kq js jx ki kH kL kR kD kI kX kZ kr kz iZ jh iW iV iT iO jm iP jf jl jo iQ jd jb je iY jc ji dq cF cC cx cE cA cD cy cM cU de cL cN cK dg cZ cO da cR dc cJ cG cH cj cW cV cP cX dd cq gR gI gG gO gH gE gM gJ gF gC gK fH:Value}
  (aT:∀ (rY:Value) (bk:List FG) (w2:W8) (CN zr Ap nP nE vu vy uU vt wL uL wE wq vv wo u64 vq vr uS wH ve uZ wI wm tM tE sK sN tR tP sU tW sS BP BJ yr Al Bs AP BI Am AE Bo An BE BT Bb ym zl zi zw lA:Value),uD w kJ R hv bv (.slice aw ws.length cw) ws rY bk w2->bk.length<=51->T=(bk.map (·.F),false)->Q (.exit 2) ⟨List.toArray (c0::.slice al fs.length cl::.int .i64 s::.int .i64 n::c4::c5::c6::c7::.slice none 0 0::rY::.int .i64 i::.pointer (some ⟨kJ,0,none⟩)::.slice aw ws.length cw::CN::zr::Ap::il::gZ::fE::eH::eZ::fc::eW::eT::eL::eV::eX::eY::eO::eR::eQ::fh::fj::fo::ft::fk::fJ::fL::fI::fY::fQ::fO::gq::fV::gu::dT::gd::fM::gn::fP::fN::fZ::nP::nE::vu::vy::uU::vt::wL::uL::wE::wq::vv::wo::u64::vq::vr::uS::wH::ve::uZ::wI::wm::tM::tE::sK::sN::tR::tP::sU::tW::sS::BP::BJ::yr::Al::Bs::AP::BI::Am::AE::Bo::An::BE::BT::Bb::ym::zl::zi::zw::lA::cF::cC::cx::cE::cA::cD::cy::cM::cU::de::cL::cN::cK::dg::cZ::cO::da::cR::dc::cJ::cG::cH::cj::cW::cV::cP::cX::dd::cq::gR::gI::gG::gO::gH::gE::gM::gJ::gF::gC::gK::fH::[]),[]⟩ w2)
  (mD:∀ (rY:Value) (bk:List FG) (w2:W8) (CN zr Ap nP nE vu vy uU vt wL uL wE wq vv wo u64 vq vr uS wH ve uZ wI wm tM tE sK sN tR tP sU tW sS BP BJ yr Al Bs AP BI Am AE Bo An BE BT Bb ym zl zi zw lA:Value),uD w kJ R hv bv (.slice aw ws.length cw) ws rY bk w2->bk.length<=51->T=(bk.map (·.F),true)->Q .ret ⟨List.toArray (c0::.slice al fs.length cl::.int .i64 s::.int .i64 n::c4::c5::c6::c7::rY::rY::.int .i64 i::.pointer (some ⟨kJ,0,none⟩)::.slice aw ws.length cw::CN::zr::Ap::il::gZ::fE::eH::eZ::fc::eW::eT::eL::eV::eX::eY::eO::eR::eQ::fh::fj::fo::ft::fk::fJ::fL::fI::fY::fQ::fO::gq::fV::gu::dT::gd::fM::gn::fP::fN::fZ::nP::nE::vu::vy::uU::vt::wL::uL::wE::wq::vv::wo::u64::vq::vr::uS::wH::ve::uZ::wI::wm::tM::tE::sK::sN::tR::tP::sU::tW::sS::BP::BJ::yr::Al::Bs::AP::BI::Am::AE::Bo::An::BE::BT::Bb::ym::zl::zi::zw::lA::cF::cC::cx::cE::cA::cD::cy::cM::cU::de::cL::cN::cK::dg::cZ::cO::da::cR::dc::cJ::cG::cH::cj::cW::cV::cP::cX::dd::cq::gR::gI::gG::gO::gH::gE::gM::gJ::gF::gC::gK::fH::[]),[]⟩ w2):
  Code.wp Tryz.prog (Code.loop (zvn 1)) Q ⟨List.toArray (c0::.slice al fs.length cl::.int .i64 s::.int .i64 n::c4::c5::c6::c7::.slice none 0 0::v9::.int .i64 i::.pointer (some ⟨kJ,0,none⟩)::.slice aw ws.length cw::.int .i64 (0:Nat)::ij::gw::il::gZ::fE::eH::eZ::fc::eW::eT::eL::eV::eX::eY::eO::eR::eQ::fh::fj::fo::ft::fk::fJ::fL::fI::fY::fQ::fO::gq::fV::gu::dT::gd::fM::gn::fP::fN::fZ::gN::gQ::fG::jv::jq::jr::ee::kf::jt::km::kg::jw::ju::ko::kc::jz::jy::kq::js::jx::ki::kH::kL::kR::kD::kI::kX::kZ::kr::kz::iZ::jh::iW::iV::iT::iO::jm::iP::jf::jl::jo::iQ::jd::jb::je::iY::jc::ji::dq::cF::cC::cx::cE::cA::cD::cy::cM::cU::de::cL::cN::cK::dg::cZ::cO::da::cR::dc::cJ::cG::cH::cj::cW::cV::cP::cX::dd::cq::gR::gI::gG::gO::gH::gE::gM::gJ::gF::gC::gK::fH::[]),[]⟩ w1:=by
 conv=>arg 2;arg 1;whnf
 obtain⟨ah,ch,rfl⟩:=zD uW;have Vw:=zC Lo;have HI:=zC hI;have HX:=zC aT;have HY:=zC mD;have D5:=zC bN;have NM:=zC uW;have mi:=zC bj;have HF:=zC aE;clear Lo hI aT mD bN uW bj aE
 go_loopg [8,9,13] ws.length (λ gg v8 v kk wr=>v8=.slice none 0 0/\∃ (k:Nat) (bk:List FG),k<=ws.length/\gg=ws.length-k/\kk=.int .i64 k/\uD w kJ R (.slice ah R.head.ae.length ch) bv (.slice aw ws.length cw) ws v bk wr/\bk.length<=51/\vB (fs.map (·.F)) (((ws.map (·.W)).map (zcs R s n i)).drop k) (bk.map (·.F))=T)
 exact⟨rfl,0,out,Nat.zero_le _,rfl,rfl,zA HI,sn,zA HF⟩
 case round=>
  clear HI HF;obtain⟨rfl,k,bk,hk,eA,rfl,hI,DK,aE⟩:=hrel;obtain⟨a9,c9,rfl⟩:=zD hI.out.row
  by_cases aF:k<ws.length
  ·have nz:(k:Int)<ws.length:=(by omega);have aO:=zyt (l:=fs.map (·.F)) (out:=bk.map (·.F)) (cs:=(ws.map (·.W)).map (zcs R s n i)) (k:=k) (by simpa using aF);simp only[List.getElem_map,List.length_map] at aO;have dD:=zC (aO.symm.trans aE);have kx:=hI.below.size;have yw:w.heap.size<=wr.heap.size:=kx;have b1:=hI.lt;obtain⟨g5,c5,Db,Wk,yt,OL,BQ,x0,x1,x2⟩:=zvs hI.ways.row aF;injection Db with i1 i2 i3
   subst i1 i3;have fX:=hI.ways.each _ (List.getElem_mem aF);obtain⟨pJ,pA,br,dL,e1,e2⟩:=fX.env.shape;obtain⟨af,cf,e3⟩:=zD fX.fr;rw[e1] at x0;rw[e2] at x1;rw[e3] at x2;obtain⟨y0,-⟩:=zB hI.box 0;obtain⟨y1,-⟩:=zB hI.box 1;obtain⟨y2,-⟩:=zB hI.box 2;obtain⟨y3,-⟩:=zB hI.box 3;obtain⟨y4,-⟩:=zB hI.box 4;simp only[List.getElem?_toArray,List.getElem?_cons_zero,List.getElem?_cons_succ] at y0 y1 y2 y3 y4;have ib:∀ W,Below wr.heap.size wr W->Calls Tryz.prog 192 #[.agg #[.slice pJ ws[k].e.length pA,.slice br ws[k].e.length dL],.agg #[.string R.head.pred,.slice ah R.head.ae.length ch,.bool R.head.no,.int .i64 R.head.at_,.int .i64 R.head.az]] W (z3d W ws[k].e R.head):=λ W hW=>by
    have hB:=hI.below.trans (hW.mono kx);have q1:=fX.env.below hW;rw[e1,e2] at q1;exact z4n W 0 ws[k].e R.head pJ br ah pA dL ch ⟨zG q1.ns (Nat.zero_le _),zG q1.ts (Nat.zero_le _),q1.nil⟩ (zG (zJ (zA NM) hB (λ g e=>((zA NM).lt g e).2)) (Nat.zero_le _)) (by omega)
   have cQ:=zC ib;have HI:=zC hI;have hlen:=zA mi _ (List.getElem_mem aF);have Fl:=zC fX.fr;have Uz:=zC e3;have Zu:=zC (show zcs R s n i ws[k].W=⟨eN ws[k].e R.head,xP (eN ws[k].e R.head),s,n,i,ws[k].fr⟩ from rfl);have d5:¬ g5=wr.heap.size:=(by omega);have db:¬ kJ=wr.heap.size:=by omega
   have HK:Hid (∀ W w':W8,Below wr.heap.size wr W->Below W.heap.size W w'->w'.cell? ⟨g5,k*3,none⟩=some (.slice pJ ws[k].e.length pA)/\w'.cell? ⟨g5,k*3+1,none⟩=some (.slice br ws[k].e.length dL)/\w'.cell? ⟨kJ,0,none⟩=some (.string R.head.pred)/\w'.cell? ⟨kJ,1,none⟩=some (.slice ah R.head.ae.length ch)/\w'.cell? ⟨kJ,2,none⟩=some (.bool R.head.no)/\w'.cell? ⟨kJ,3,none⟩=some (.int .i64 R.head.at_)/\w'.cell? ⟨kJ,4,none⟩=some (.int .i64 R.head.az)):=zC (λ W w' h1 h2=>by
    have hB:=h1.trans (h2.mono h1.size)
    exact⟨(hB.cell (by simpa using yt)).trans x0,(hB.cell (by simpa using yt)).trans x1,(hB.cell (by simpa using b1)).trans y0,(hB.cell (by simpa using b1)).trans y1,(hB.cell (by simpa using b1)).trans y2,(hB.cell (by simpa using b1)).trans y3,(hB.cell (by simpa using b1)).trans y4⟩)
   clear hI fX ib aO aE e1 e2 e3 kx;go_upto_region 11 with fail
   go_cut [14] from 52 to 100 (λ p wc=>∃ b v,p=.pointer (some ⟨b,0,none⟩)/\M5 wr (eN ws[k].e R.head) b v wc)
   case first=>
    go_region_held3 (λ w'=>w'.cell? ⟨g5,k*3,none⟩=some (.slice pJ ws[k].e.length pA)/\w'.cell? ⟨g5,k*3+1,none⟩=some (.slice br ws[k].e.length dL)/\w'.cell? ⟨kJ,0,none⟩=some (.string R.head.pred)/\w'.cell? ⟨kJ,1,none⟩=some (.slice ah R.head.ae.length ch)/\w'.cell? ⟨kJ,2,none⟩=some (.bool R.head.no)/\w'.cell? ⟨kJ,3,none⟩=some (.int .i64 R.head.at_)/\w'.cell? ⟨kJ,4,none⟩=some (.int .i64 R.head.az)) (first | go_keep | (refine⟨?_,?_,?_,?_,?_,?_,?_⟩ <;> (refine (zw3 ?_).trans ?_ <;> assumption))) ((go_at_call 192;refine (zA cQ _ (by first | exact B9.drew | exact (B9.alloc L9 _).drew | exact B9.drew.alloc L9 _)).mono ?_;rintro e w2 ⟨v,rfl,aB,aK⟩;obtain⟨nZ,nX,rfl⟩:=zD aB;obtain⟨m0,m1,m2,m3,m4,m5,m6⟩:=zA HK _ _ (by first | exact B9.drew | exact (B9.alloc L9 _).drew | exact B9.drew.alloc L9 _) aK;have oh:=λ (j:Nat) h=>aK.cell (p:=⟨wr.heap.size,j,none⟩) h;have pn:=λ (j:Nat) h=>aK.frozen (p:=⟨wr.heap.size,j,none⟩) h;have gP:=zC aB;clear aB))
    all_goals
     go_wp2_with fail;go_meet
     case rel=>first | exact⟨_,_,rfl,M5.behind (W:=wr.drew) B9.drew aK (zA gP)⟩ | exact⟨_,_,rfl,M5.ahead (W:=(wr.alloc (.cells #[.string { data:=#[] },.slice none 0 0,.bool false,.int .i64 0,.int .i64 0] 243)).drew) (B9.alloc L9 _).drew L9 (heap_alloc_new wr _) aK (zA gP)⟩
   case rest=>
    generalize wc=wA at *;obtain⟨b,v,rfl,hM⟩:=hcut;obtain⟨nZ,nX,rfl⟩:=zD hM.row;have Mn:=hM.below.size;have dI:=(zA HI).dN hM.below;have z2:wA.cell? ⟨g5,k*3+2,none⟩=some (.slice af ws[k].fr.length cf):=(hM.below.cell (by simpa using yt)).trans x2;obtain⟨r0,-⟩:=zB hM.bq 0;obtain⟨r1,-⟩:=zB hM.bq 1;obtain⟨r2,-⟩:=zB hM.bq 2;obtain⟨r3,-⟩:=zB hM.bq 3;obtain⟨r4,-⟩:=zB hM.bq 4;simp only[List.getElem?_toArray,List.getElem?_cons_zero,List.getElem?_cons_succ] at r0 r1 r2 r3 r4;have dK:=(Array.getElem?_eq_some_iff.1 hM.bq).1;have uC:=hM.row;have Gm:=zJ (zA Fl) hM.below (λ g e=>((zA Fl).lt g e).2);rw[zA Uz] at Gm;have ED:∀ W,Below wA.heap.size wA W->Calls Tryz.prog 134 #[.agg #[.string (eN ws[k].e R.head).pred,.slice nZ (eN ws[k].e R.head).ae.length nX,.bool false,.int .i64 0,.int .i64 0]] W λ e w'=>∃ s:B8,e=.returned (.string s)/\s.data.toList=jG (eN ws[k].e R.head)/\Below W.heap.size W w':=λ W hW=>zos W wr.heap.size (eN ws[k].e R.head) nZ nX false 0 0 (zJ uC hW (λ g e=>(uC.lt g e).2)) hlen
    have EE:=zC ED;have eC:=zC dI;have Cg:=zC uC;have AR:=zC Gm;clear hM dI HI cQ HK x0 x1 x2 y0 y1 y2 y3 y4 ED uC Gm Fl Uz d5 db;have Rj:g5<wA.heap.size:=(by omega);have d5:wA.heap.size≠g5:=(by omega);have db:wA.heap.size≠b:=(by omega);have kh:(eN ws[k].e R.head).no=false/\(eN ws[k].e R.head).at_=0/\(eN ws[k].e R.head).az=0:=⟨rfl,rfl,rfl⟩;generalize ws[k].fr=NF at *;generalize ws[k].e=NE at *;generalize eN NE R.head=B at *;have BL:=zC kh
    have HK:Hid (∀ W w':W8,Below wA.heap.size wA W->Below W.heap.size W w'->w'.cell? ⟨b,0,none⟩=some (.string B.pred)/\w'.cell? ⟨b,1,none⟩=some (.slice nZ B.ae.length nX)/\w'.cell? ⟨b,2,none⟩=some (.bool false)/\w'.cell? ⟨b,3,none⟩=some (.int .i64 0)/\w'.cell? ⟨b,4,none⟩=some (.int .i64 0)/\w'.cell? ⟨g5,k*3+2,none⟩=some (.slice af NF.length cf)):=zC (λ W w' h1 h2=>by
     have hB:=h1.trans (h2.mono h1.size)
     exact⟨(hB.cell (by simpa using dK)).trans r0,(hB.cell (by simpa using dK)).trans r1,(hB.cell (by simpa using dK)).trans r2,(hB.cell (by simpa using dK)).trans r3,(hB.cell (by simpa using dK)).trans r4,(hB.cell (by simpa using Rj)).trans z2⟩)
    have S6:Hid (((wA.alloc (.cells #[.string { data:=#[] },.slice none 0 0,.bool false,.int .i64 0,.int .i64 0,.string { data:=#[] },.int .i64 0,.int .i64 0,.int .i64 0,.slice none 0 0] 262)).drew).heap[wA.heap.size]?=some (.cells #[.string { data:=#[] },.slice none 0 0,.bool false,.int .i64 0,.int .i64 0,.string { data:=#[] },.int .i64 0,.int .i64 0,.int .i64 0,.slice none 0 0] 262 (0,0))):=zC (heap_alloc_new wA _);clear kh;go_upto_region 12 with fail
    go_cut [15] from 52 to 100 (λ p wc=>∃ Rq,p=.pointer (some ⟨Rq,0,none⟩)/\D9 wA (.string B.pred) (.slice nZ B.ae.length nX) (.bool false) (.int .i64 0) (.int .i64 0) (.string (xP B)) (.int .i64 s) (.int .i64 n) (.int .i64 i) (.slice af NF.length cf) Rq wc)
    case first=>
     go_region_held3 (λ w'=>w'.cell? ⟨b,0,none⟩=some (.string B.pred)/\w'.cell? ⟨b,1,none⟩=some (.slice nZ B.ae.length nX)/\w'.cell? ⟨b,2,none⟩=some (.bool false)/\w'.cell? ⟨b,3,none⟩=some (.int .i64 0)/\w'.cell? ⟨b,4,none⟩=some (.int .i64 0)/\w'.cell? ⟨g5,k*3+2,none⟩=some (.slice af NF.length cf)) (go_keep) ((go_at_call 134;refine (zA EE _ (by first | exact B9.drew | exact (B9.alloc L9 _).drew | exact B9.drew.alloc L9 _)).mono ?_;rintro e w2 ⟨tx,rfl,Jn,aK⟩;obtain rfl:=ya8 Jn;obtain⟨m0,m1,m2,m3,m4,m5⟩:=zA HK _ _ (by first | exact B9.drew | exact (B9.alloc L9 _).drew | exact B9.drew.alloc L9 _) aK;have oh:=λ (j:Nat) h=>aK.cell (p:=⟨wA.heap.size,j,none⟩) h;have pn:=λ (j:Nat) h=>aK.frozen (p:=⟨wA.heap.size,j,none⟩) h;clear Jn))
     all_goals
      go_wp2_with fail;go_meet
      case rel=>
       refine⟨_,rfl,?_⟩
       first | (with_reducible refine D9.behind (W:=wA.drew) ?_ aK) | (with_reducible refine D9.ahead (W:=(wA.alloc (.cells #[.string { data:=#[] },.slice none 0 0,.bool false,.int .i64 0,.int .i64 0,.string { data:=#[] },.int .i64 0,.int .i64 0,.int .i64 0,.slice none 0 0] 262)).drew) ?_ L9 (zA S6) aK)
       all_goals first | exact B9.drew | exact (B9.alloc L9 _).drew
    case rest=>
     generalize wc=wB at *;obtain⟨Rq,rfl,hM⟩:=hcut;have hsB:=hM.below.size;have gz:=(zA eC).dN hM.below;have TP:qZ wB w.heap.size ⟨⟨B,xP B,s,n,i,NF⟩,.slice nZ B.ae.length nX,.slice af NF.length cf⟩:=⟨zG (zJ (zA Cg) hM.below (λ g e=>((zA Cg).lt g e).2)) yw,zJ (zA AR) hM.below (λ g e=>((zA AR).lt g e).2)⟩;have XU:=zC TP;obtain⟨q0,-⟩:=zB hM.bq 0;obtain⟨q1,-⟩:=zB hM.bq 1;obtain⟨q2,-⟩:=zB hM.bq 2;obtain⟨q3,-⟩:=zB hM.bq 3;obtain⟨q4,-⟩:=zB hM.bq 4;obtain⟨q5,-⟩:=zB hM.bq 5;obtain⟨q6,-⟩:=zB hM.bq 6;obtain⟨q7,-⟩:=zB hM.bq 7;obtain⟨q8,-⟩:=zB hM.bq 8;obtain⟨q9,-⟩:=zB hM.bq 9;have iH:=zC gz;have Mi:=zJ (zA Vw).row gz.below (λ g e=>((zA Vw).row.lt g e).2);have fw:=zC (zkc wB base al cl fs (xP B) Mi);have aC:=zC (zkc wB w.heap.size a9 c9 bk (xP B) gz.out.row);clear hM gz TP eC Cg AR EE HK S6 r0 r1 r2 r3 r4 z2 Mi
     by_cases hbig:50<fs.length+bk.length
     ·have Q6:(50:Int)<fs.length+bk.length:=(by omega);have HT:=zC (show T=(bk.map (·.F),true) by rw[<-zA dD,if_pos hbig]);clear dD;go_wp2_with fail;apply zA HY
      ·exact zA iH
      ·exact DK
      ·exact zA HT
     ·have Q6:¬ ((50:Int)<fs.length+bk.length):=(by omega);have HT:=zC (show vB (fs.map (·.F)) (((ws.map (·.W)).map (zcs R s n i)).drop (k+1)) (zue (fs.map (·.F)) (bk.map (·.F)) ⟨B,xP B,s,n,i,NF⟩)=T by rw[<-zA Zu];rw[<-zA dD,if_neg hbig]);clear dD;obtain⟨i0,AF,bL,aY,bf⟩:=info_parts zpi;have oc:FG.cells ⟨⟨B,xP B,s,n,i,NF⟩,.slice nZ B.ae.length nX,.slice af NF.length cf⟩=[.string B.pred,.slice nZ B.ae.length nX,.bool false,.int .i64 0,.int .i64 0,.string (xP B),.int .i64 s,.int .i64 n,.int .i64 i,.slice af NF.length cf]:=by
       obtain⟨h1,h2,h3⟩:=zA BL;simp only[FG.cells,h1,h2,h3];rfl
      have dM:=λ (w5:W8) (g cap:Nat) (hg:(wB.alloc (.cells #[.string B.pred,.slice nZ B.ae.length nX,.bool false,.int .i64 0,.int .i64 0,.string (xP B),.int .i64 s,.int .i64 n,.int .i64 i,.slice af NF.length cf] 262)).grownBy w5 (Value.slice a9 bk.length c9).ownBlock) (ay:w5.ownsRow w.heap.size 262 10 (.slice (some ⟨g,0,none⟩) (bk.length+1) cap) (bk.length+1) (bk.flatMap FG.cells++[.string B.pred,.slice nZ B.ae.length nX,.bool false,.int .i64 0,.int .i64 0,.string (xP B),.int .i64 s,.int .i64 n,.int .i64 i,.slice af NF.length cf]))=>uD.add (x:=⟨⟨B,xP B,s,n,i,NF⟩,.slice nZ B.ae.length nX,.slice af NF.length cf⟩) (zA iH) (zA XU) ((zK.refl [] _).alloc _) hg (by rw[oc];exact ay)
      have mY:=zC dM;have HR:=zC ((zA iH).out.row.alloc (.cells #[.string B.pred,.slice nZ B.ae.length nX,.bool false,.int .i64 0,.int .i64 0,.string (xP B),.int .i64 s,.int .i64 n,.int .i64 i,.slice af NF.length cf] 262));have bX:=zC (World.news_of_block (heap_alloc_new wB (.cells #[.string B.pred,.slice nZ B.ae.length nX,.bool false,.int .i64 0,.int .i64 0,.string (xP B),.int .i64 s,.int .i64 n,.int .i64 i,.slice af NF.length cf] 262)));have Vm:w.heap.size<=wB.heap.size:=(zA iH).below.size;clear dM oc
      by_cases h1:jE (fs.map (·.F)) (xP B)<0
      ·by_cases h2:jE (bk.map (·.F)) (xP B)<0
       ·have wg:=zC (show vB (fs.map (·.F)) (((ws.map (·.W)).map (zcs R s n i)).drop (k+1)) ((bk++[(⟨⟨B,xP B,s,n,i,NF⟩,.slice nZ B.ae.length nX,.slice af NF.length cf⟩:FG)]).map (·.F))=T by
         have:=zA HT;rw[zue,if_pos ⟨h1,h2⟩] at this
         rw[List.map_append];exact this)
        generalize jE (fs.map (·.F)) (xP B)=f1 at *;generalize jE (bk.map (·.F)) (xP B)=f2 at *;clear HT;go_wp2_with fail;refine (zA fw).mono ?_;rintro e w4 ⟨rfl,Jv⟩;have AV:=Jv.symm;subst AV;clear Jv;go_wp2_with fail;refine (zA aC).mono ?_;rintro e w4 ⟨rfl,Jv⟩;have AV:=Jv.symm;subst AV;clear Jv;clear fw aC;go_wp2_with (at_builtin;go_must (refine wpList_append_lies _ rfl _ _ _ rfl w.heap.size 262 i0 (.agg #[.string { data:=#[] },.slice none 0 0,.bool false,.int .i64 0,.int .i64 0,.string { data:=#[] },.int .i64 0,.int .i64 0,.int .i64 0,.slice none 0 0]) 10 128 Tryz.underlying250 AF bL aY bf rfl (by decide) (.slice a9 bk.length c9) bk.length _ rfl (zA HR) ⟨wB.heap.size,0,none⟩ 1 1 [.string B.pred,.slice nZ B.ae.length nX,.bool false,.int .i64 0,.int .i64 0,.string (xP B),.int .i64 s,.int .i64 n,.int .i64 i,.slice af NF.length cf] rfl rfl (zA bX) (by simp[Value.oneCell']) (by decide) (by unfold maxLen;omega) (by omega) (by simp;omega) _ rfl ?_;intro g cap w5 aq aU bW hlt5));have KD:=zC (zA mY w5 g cap aU aq);go_roundg (ws.length-(k+1));exact⟨rfl,k+1,bk++[⟨⟨B,xP B,s,n,i,NF⟩,.slice nZ B.ae.length nX,.slice af NF.length cf⟩],by omega,rfl,by go_num,zA KD,by rw[List.length_append,List.length_singleton];omega,zA wg⟩;omega
       ·have wg:=zC (show vB (fs.map (·.F)) (((ws.map (·.W)).map (zcs R s n i)).drop (k+1)) (bk.map (·.F))=T by
         have:=zA HT;rw[zue,if_neg (λ h=>h2 h.2)] at this
         exact this)
        generalize jE (fs.map (·.F)) (xP B)=f1 at *;generalize jE (bk.map (·.F)) (xP B)=f2 at *;clear HT mY HR bX;go_wp2_with fail;refine (zA fw).mono ?_;rintro e w4 ⟨rfl,rfl⟩;go_wp2_with fail;refine (zA aC).mono ?_;rintro e w4 ⟨rfl,rfl⟩;clear fw aC;go_wp2_with fail;go_roundg (ws.length-(k+1));exact⟨rfl,k+1,bk,by omega,rfl,by go_num,zA iH,DK,zA wg⟩;omega
      ·have wg:=zC (show vB (fs.map (·.F)) (((ws.map (·.W)).map (zcs R s n i)).drop (k+1)) (bk.map (·.F))=T by
        have:=zA HT;rw[zue,if_neg (λ h=>h1 h.1)] at this
        exact this)
       generalize jE (fs.map (·.F)) (xP B)=f1 at *;clear HT mY HR bX aC;go_wp2_with fail;refine (zA fw).mono ?_;rintro e w4 ⟨rfl,rfl⟩;clear fw;go_wp2_with fail;go_roundg (ws.length-(k+1));exact⟨rfl,k+1,bk,by omega,rfl,by go_num,zA iH,DK,zA wg⟩;omega
  ·have HI:=zC hI;have HE:=zC (show T=(bk.map (·.F),false) by rw[<-aE,List.drop_of_length_le (by simp;omega)];rfl);clear hI aE;go_wp2_with fail;apply zA HX
   ·exact zA HI
   ·exact DK
   ·exact zA HE
end
end Go.Proofs.YtldkpahaocjdpaaGreat
