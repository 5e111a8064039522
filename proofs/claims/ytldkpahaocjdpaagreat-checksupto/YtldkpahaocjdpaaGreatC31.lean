/-
  The reference's ways, whole.
-/
import Derived.Test.YtldkpahaocjdpaaGreatC30
set_option maxHeartbeats 16000000
set_option maxRecDepth 1000000
namespace Go.Proofs.YtldkpahaocjdpaaGreat
section
open Go.RowKit
def z23 (w:W8)(R:zP)(l:List zQ):Ending->W8->Prop:=λ e w'=>∃ v outs,e=.returned v/\te w' (w.heap.size+1) v outs/\outs.map (·.W)=zdt R l/\(∀ x∈outs,x.e.length<=100/\x.fr.length<=100)/\outs.length<=1000000/\Below w.heap.size w w'
theorem z7y {w:W8}{g:Nat}{e:TypeId}{xs:V8}{size:Nat}(hb:w.heap[g]?=some (.cells xs.toArray e (0,0)))(hl:xs.length=size):w.ownsRow g e size (.slice (some ⟨g,0,none⟩) 1 1) 1 xs:=
 ⟨by omega,.inr ⟨g,1,xs.toArray,rfl,Nat.le_refl _,hb,Nat.le_refl _,by unfold maxLen;omega,by simpa using hl,by simp[<-hl]⟩⟩
theorem ma.start (w:W8)(R:zP)(hv bv:Value):ma w R hv bv (.slice (some ⟨w.heap.size+1,0,none⟩) 1 1) [⟨[],[],.slice none 0 0,.slice none 0 0,.slice none 0 0⟩] (.slice none 0 0) [] ((w.alloc (.cells #[.string R.head.pred,hv,.bool R.head.no,.int .i64 R.head.at_,.int .i64 R.head.ak,bv] 246)).alloc (.cells #[.slice none 0 0,.slice none 0 0,.slice none 0 0] 325)):=by
 refine⟨((Below.refl _ w).alloc L9 _).alloc (by simp) _,?_,⟨z7y (xs:=[.slice none 0 0,.slice none 0 0,.slice none 0 0]) ?_ rfl,λ x hx=>?_⟩,⟨World.ownsRow_nil _ _ _ _,by simp⟩,λ g e=>by cases e⟩
 ·rw[Below.heap_alloc _ _ _ (by simp)];exact heap_alloc_new w _
 ·have:=heap_alloc_new (w.alloc (.cells #[.string R.head.pred,hv,.bool R.head.no,.int .i64 R.head.at_,.int .i64 R.head.ak,bv] 246)) (.cells #[.slice none 0 0,.slice none 0 0,.slice none 0 0] 325);rw[World.size_alloc] at this;exact this
 ·rw[List.mem_singleton.1 hx];exact⟨⟨World.ownsRow_nil _ _ _ _,World.ownsRow_nil _ _ _ _,λ _=>⟨rfl,rfl⟩⟩,World.ownsRow_nil _ _ _ _,λ _=>rfl⟩
theorem zuu (w:W8)(base:Nat)(R:zP)(hv:Value)(bs:List (zL × Value))(bv:Value)(fs:List FG)(al:O8)(cl:Nat)(hC:z2l w base R hv bs bv fs (.slice al fs.length cl))(aT:∀ x∈zis (fs.map (·.F)) R.body [([],[])],∀ a∈R.body,(xS (bf x.1 a)).length<=1000000000):
  Calls Tryz.prog 193 #[jU R.head hv bv,.slice al fs.length cl] w (z23 w R (fs.map (·.F))):=by
 have HC:=zC hC;have H0:=zC (ma.start w R hv bv);have lN:=zC aT;obtain⟨ab,cb,rfl⟩:=zD hC.aX.bo;obtain⟨ah,ch,rfl⟩:=zD hC.aX.hd;clear hC aT;unfold jU;go_enter Tryz.func193,Tryz.ntmps193;go_wp2_with fail;refine yam w base R _ bs _ fs al cl (zA HC) _ _ (zA H0) ?_;intro v5 now w2;intros;rename_i hI hF aR ng;obtain⟨an,cn,rfl⟩:=zD hI.now.row;have aT:∀ x∈now,∀ a∈R.body,(xS (bf x.e a)).length<=1000000000:=λ x hx a ha=>zA lN x.W (by rw[<-hF];exact List.mem_map_of_mem hx) a ha
 have HI:=zC hI;have HF:=zC hF;have lz:=zC aR;have HS:=zC aT;clear hI hF aR aT H0 lN;go_wp2_with fail;refine yap w base R _ bs _ fs al cl (zA HC) now an cn ng (zA HS) _ (zA HI) ?_;intro FN outs w3;intros;rename_i iV IK Cm;obtain⟨a3,c3,rfl⟩:=zD iV.next.row;have AL:outs.length<=1000000:=by
  have:=congrArg List.length IK;rw[List.length_map] at this;have h2:=List.length_filter_le (zhk R (fs.map (·.F))) (now.map (·.W));rw[List.length_map] at h2;omega
 have HE:=zC (show outs.map (·.W)=zdt R (fs.map (·.F)) by rw[IK,zA HF];rfl);have VN:=zC (show ∀ x∈outs,x.e.length<=100/\x.fr.length<=100 from λ x hx=>zA lz x (Cm x hx));have lj:=zC iV;clear iV IK Cm HI HF lz HS;go_wp2_with fail;go_ret;exact⟨_,outs,rfl,(zA lj).next,zA HE,zA VN,AL,(zA lj).below⟩
end
section
open Go.RowKit
def zcn (R:zP)(s n i:Nat)(x:Way):zQ:=⟨bf x.1 R.head,zU (bf x.1 R.head),s,n,i,x.2⟩
def lT (l out:List zQ)(f:zQ):List zQ:=if yL l f.text<0/\yL out f.text<0 then out++[f] else out
def vR (l:List zQ):List zQ->List zQ->List zQ × Bool
 | [],out=>(out,false)
 | f::r,out=>if 50<l.length+out.length then (out,true) else vR l r (lT l out f)
def za3 (ps:P9)(S:Nat->Nat)(l:List zQ)(s n:Nat):List zP->Nat->List zQ
 | [],_=>[]
 | R::r,i=>(if S (zM ps R.head.pred).toNat=s then (zdt R l).map (zcn R s n i) else [])++za3 ps S l s n r (i+1)
theorem zgf {s:B8}{B:zL}(h:s.data.toList=xS B):s=zU B:=by
 cases s
 simp only[zU,<-h,Array.toArray_toList]
theorem zl9 {l:List zQ}:∀ (a b out:List zQ),(vR l a out).2=true->vR l (a++b) out=vR l a out
 | [],b,out,h=>by simp[vR] at h
 | f::r,b,out,h=>by
  rw[List.cons_append,vR,vR];rw[vR] at h
  split
  ·rfl
  ·rename_i hn;rw[if_neg hn] at h;exact zl9 r b _ h
theorem zuk {l:List zQ}:∀ (a b out:List zQ),(vR l a out).2=false->vR l (a++b) out=vR l b (vR l a out).1
 | [],b,out,h=>rfl
 | f::r,b,out,h=>by
  rw[List.cons_append,vR,vR];rw[vR] at h
  split
  ·rename_i hn;rw[if_pos hn] at h
   cases h
  ·rename_i hn;rw[if_neg hn] at h;exact zuk r b _ h
variable {x:FG} {base:Nat} {w w':W8}
theorem j5.cq {B:List Nat}(h:j5 w base x)(k:zN B w w')(h1:∀ b∈B,iq w 317 b)(h2:∀ b∈B,iq w 3 b):j5 w' base x:=
 ⟨xC h.t k (λ b hb=>.inr (h1 b hb)),xC h.i k (λ b hb=>.inr (h2 b hb))⟩
variable {v:Value} {W:W8}
theorem yW.add {wX w5:W8}{v':Value}{fs:List FG}(h:yW wX base v fs)(hx:j5 wX base x)(hW:zN [] wX W)(hg:W.grownBy w5 v.ownBlock)(aC:w5.ownsRow base 262 10 v' (fs.length+1) (fs.flatMap FG.cells++x.cells)):yW w5 base v' (fs++[x]):=by
 have k5:zN v.ownBlock.toList wX w5:=(hW.mono (by simp)).trans (zN.aN hg);have n1:∀ b∈v.ownBlock.toList,iq wX 317 b:=yP h.row (by decide);have n2:∀ b∈v.ownBlock.toList,iq wX 3 b:=yP h.row (by decide);refine⟨?_,λ y hy=>?_⟩
 ·rw[List.length_append,List.flatMap_append];simpa using aC
 ·rcases List.mem_append.1 hy with hy | hy
  ·exact (h.each y hy).cq k5 n1 n2
  ·rw[List.mem_singleton.1 hy];exact hx.cq k5 n1 n2
structure yw (w:W8)(mn:Nat)(R:zP)(hv bv vw:Value)(ws:List WG)(v:Value)(out:List FG)(wr:W8):Prop where
 below:Below w.heap.size w wr
 ge:w.heap.size<=mn
 box:wr.heap[mn]?=some (.cells #[.string R.head.pred,hv,.bool R.head.no,.int .i64 R.head.at_,.int .i64 R.head.ak,bv] 246 (0,0))
 ways:te wr w.heap.size vw ws
 out:yW wr w.heap.size v out
variable {wr:W8} {ws:List WG} {hv bv vw:Value} {mn:Nat}
theorem yw.lt {R:zP}{out:List FG}(h:yw w mn R hv bv vw ws v out wr):mn<wr.heap.size:=(Array.getElem?_eq_some_iff.1 h.box).1
theorem yw.dm {R:zP}{out:List FG}(h:yw w mn R hv bv vw ws v out wr)(k:Below wr.heap.size wr w'):yw w mn R hv bv vw ws v out w':=
 ⟨h.below.trans (k.mono h.below.size),h.ge,(k.block _ h.lt).trans h.box,h.ways.below k,h.out.below k⟩
theorem yw.add {w:W8}{mn:Nat}{R:zP}{hv bv vw:Value}{ws:List WG}{v v':Value}{out:List FG}{wX W w5:W8}{x:FG}(h:yw w mn R hv bv vw ws v out wX)(hx:j5 wX w.heap.size x)(hW:zN [] wX W)(hg:W.grownBy w5 v.ownBlock)(aC:w5.ownsRow w.heap.size 262 10 v' (out.length+1) (out.flatMap FG.cells++x.cells)):yw w mn R hv bv vw ws v' (out++[x]) w5:=by
 have k5:zN v.ownBlock.toList wX w5:=(hW.mono (by simp)).trans (zN.aN hg);have nt:∀ e,262≠e->∀ b∈v.ownBlock.toList,iq wX e b:=λ e he=>yP h.out.row he
 refine⟨zY h.below k5 h.below.size (λ b hm=>(h.out.row.lt b (by simpa using hm)).1),h.ge,yX h.box k5 (λ b hb=>.inr (nt _ (by decide) b hb)),⟨xC h.ways.row k5 (λ b hb=>.inr (nt _ (by decide) b hb)),λ y hy=>(h.ways.each y hy).cq k5 (nt _ (by decide)) (nt _ (by decide))⟩,h.out.add hx hW hg aC⟩
structure zj (wr:W8)(v0 v1 v2 v3 v4 v5 v6 v7 v8 v9:Value)(b:Nat)(wc:W8):Prop where
 below:Below wr.heap.size wr wc
 cP:wc.heap[b]?=some (.cells #[v0,v1,v2,v3,v4,v5,v6,v7,v8,v9] 262 (0,0))
def z40 (w:W8)(b:Nat)(v0 v1 v2 v3 v4 v5 v6 v7 v8 v9:Value):W8:=(((((((((w.setCell ⟨b,0,none⟩ v0).setCell ⟨b,1,none⟩ v1).setCell ⟨b,2,none⟩ v2).setCell ⟨b,3,none⟩ v3).setCell ⟨b,4,none⟩ v4).setCell ⟨b,5,none⟩ v5).setCell ⟨b,6,none⟩ v6).setCell ⟨b,7,none⟩ v7).setCell ⟨b,8,none⟩ v8).setCell ⟨b,9,none⟩ v9
variable {u0 u1 u2 u3 u4 u5 u6 u7 u8 u9:Value} {b:Nat}
theorem z1f {t:TypeId}(v0 v1 v2 v3 v4 v5 v6 v7 v8 v9:Value)(h:w.heap[b]?=some (.cells #[u0,u1,u2,u3,u4,u5,u6,u7,u8,u9] t (0,0))):(z40 w b v0 v1 v2 v3 v4 v5 v6 v7 v8 v9).heap[b]?=some (.cells #[v0,v1,v2,v3,v4,v5,v6,v7,v8,v9] t (0,0)):=by
 have g0:=heap_setCell_same _ _ 0 _ _ v0 h;have g1:=heap_setCell_same _ _ 1 _ _ v1 g0;have g2:=heap_setCell_same _ _ 2 _ _ v2 g1;have g3:=heap_setCell_same _ _ 3 _ _ v3 g2;have g4:=heap_setCell_same _ _ 4 _ _ v4 g3;have g5:=heap_setCell_same _ _ 5 _ _ v5 g4;have g6:=heap_setCell_same _ _ 6 _ _ v6 g5;have g7:=heap_setCell_same _ _ 7 _ _ v7 g6;have g8:=heap_setCell_same _ _ 8 _ _ v8 g7;have g9:=heap_setCell_same _ _ 9 _ _ v9 g8;unfold z40;rw[g9];simp
theorem zww (B:List Nat)(hb:b∈B)(v0 v1 v2 v3 v4 v5 v6 v7 v8 v9:Value):zN B w (z40 w b v0 v1 v2 v3 v4 v5 v6 v7 v8 v9):=by
 have e:∀ {w':W8} (i:Nat) (u:Value),zN B w w'->zN B w (w'.setCell ⟨b,i,none⟩ u):=λ i u k=>k.setCell (p:=⟨b,i,none⟩) (.inl hb) _
 exact e _ _ (e _ _ (e _ _ (e _ _ (e _ _ (e _ _ (e _ _ (e _ _ (e _ _ (e _ _ (zN.refl B w))))))))))
variable {v0 v1 v2 v3 v4 v5 v6 v7 v8 v9:Value} {w2:W8}
theorem zj.behind (hW:Below wr.heap.size wr W)(h2:Below W.heap.size W w2):zj wr v0 v1 v2 v3 v4 v5 v6 v7 v8 v9 w2.heap.size (w2.alloc (.cells #[v0,v1,v2,v3,v4,v5,v6,v7,v8,v9] 262)):=by
 have hs:=hW.size;have Af:=h2.size;exact⟨(hW.trans (h2.mono hs)).alloc (by omega) _,heap_alloc_new w2 _⟩
theorem zj.ahead (hW:Below wr.heap.size wr W)(hb:wr.heap.size<=b)(hblk:W.heap[b]?=some (.cells #[u0,u1,u2,u3,u4,u5,u6,u7,u8,u9] 262 (0,0)))(h2:Below W.heap.size W w2):zj wr v0 v1 v2 v3 v4 v5 v6 v7 v8 v9 b ((((((((((w2.setCell ⟨b,0,none⟩ v0).setCell ⟨b,1,none⟩ v1).setCell ⟨b,2,none⟩ v2).setCell ⟨b,3,none⟩ v3).setCell ⟨b,4,none⟩ v4).setCell ⟨b,5,none⟩ v5).setCell ⟨b,6,none⟩ v6).setCell ⟨b,7,none⟩ v7).setCell ⟨b,8,none⟩ v8).setCell ⟨b,9,none⟩ v9):=by
 show zj wr v0 v1 v2 v3 v4 v5 v6 v7 v8 v9 b (z40 w2 b v0 v1 v2 v3 v4 v5 v6 v7 v8 v9)
 have hs:=hW.size;have Af:=h2.size;have aG:=(Array.getElem?_eq_some_iff.1 hblk).1;refine⟨?_,z1f _ _ _ _ _ _ _ _ _ _ ((h2.block b aG).trans hblk)⟩;exact zY (hW.trans (h2.mono hs)) (zww [b] (by simp) _ _ _ _ _ _ _ _ _ _) (by omega) (λ x hx=>by rw[List.mem_singleton.1 hx];exact hb)
end
section
open Go.RowKit
noncomputable def zub (k:Nat):Code:=((Tryz.f196.body.map zbf).getD []).getD k .skip
theorem zw6 {l out cs:List zQ}{k:Nat}(h:k<cs.length):vR l (cs.drop k) out=if 50<l.length+out.length then (out,true) else vR l (cs.drop (k+1)) (lT l out cs[k]):=by
 rw[List.drop_eq_getElem_cons h,vR]
theorem z9y (w:W8)(base mn:Nat)(R:zP)(hv bv:Value)(fs:List FG)(al:O8)(cl:Nat)(Fg:yW w base (.slice al fs.length cl) fs)(lG:fs.length<=50)(ws:List WG)(aw:O8)(cw:Nat)(AO:ws.length<=1000000)(cE:∀ x∈ws,x.fr.length<=100)(rE:w.ownsRow base 317 3 hv R.head.ae.length (cellsOf R.head.ae))(h4:R.head.ae.length<=4)(aT:∀ x∈ws,(xS (bf x.e R.head)).length<=1000000000)(s n i:Nat)(T:List zQ × Bool)(v9:Value)(out:List FG)(AL:out.length<=51)(ax:vR (fs.map (·.F)) ((ws.map (·.W)).map (zcn R s n i)) (out.map (·.F))=T)(w1:W8)(hI:yw w mn R hv bv (.slice aw ws.length cw) ws v9 out w1)
  {Q:Exit->Act->W8->Prop} {c0 c4 c5 c6 c7 gG eJ eY fZ eL dU dR dx dy dz dA dB dC dD dE dF dG dL dM dN dO dP dV dW dX ee eg ei eo ep ev dd ew ey ez eA dY dZ eD eE dQ eZ fa fc di fe fg fh fi fj fl fm fo fp fH fI fJ fK fL gd gh gi gj gq gu gv fM fN fq ft fu fO fP fQ fR fU fV fW fX gw gy gz gA gB gC gD cg bq br bt bu bx bz bC bU bV bW bX bD bE bG bH bI bJ bK bL bM bj bk bn bN bO bP bQ aZ aW cH cI cJ cK cL dp dq dr dt du dv dc:Value}
  (aJ:∀ (uG:Value) (bS:List FG) (w2:W8) (tW oj pJ om oq uc ud ue uf ug uh ui uj uk um u64 sE sF sG pV pW pX pY pZ ou ov ow ox oy oz oA qa qb sH sI sJ qc qd qe qf qg qh qi qj oB oC oD oE oF oG oH fF:Value),yw w mn R hv bv (.slice aw ws.length cw) ws uG bS w2->bS.length<=51->T=(bS.map (·.F),false)->Q (.exit 2) ⟨List.toArray (c0::.slice al fs.length cl::.int .i64 s::.int .i64 n::c4::c5::c6::c7::.slice none 0 0::uG::.int .i64 i::.pointer (some ⟨mn,0,none⟩)::.slice aw ws.length cw::tW::oj::pJ::eY::fZ::eL::dU::dR::dx::dy::dz::dA::dB::dC::dD::dE::dF::dG::dL::dM::dN::dO::dP::dV::dW::dX::ee::eg::ei::eo::ep::ev::dd::ew::ey::ez::eA::dY::dZ::om::oq::uc::ud::ue::uf::ug::uh::ui::uj::uk::um::u64::sE::sF::sG::pV::pW::pX::pY::pZ::ou::ov::ow::ox::oy::oz::oA::qa::qb::sH::sI::sJ::qc::qd::qe::qf::qg::qh::qi::qj::oB::oC::oD::oE::oF::oG::oH::fF::bq::br::bt::bu::bx::bz::bC::bU::bV::bW::bX::bD::bE::bG::bH::bI::bJ::bK::bL::bM::bj::bk::bn::bN::bO::bP::bQ::aZ::aW::cH::cI::cJ::cK::cL::dp::dq::dr::dt::du::dv::dc::[]),[]⟩ w2)
  (gE:∀ (uG:Value) (bS:List FG) (w2:W8) (tW oj pJ om oq uc ud ue uf ug uh ui uj uk um u64 sE sF sG pV pW pX pY pZ ou ov ow ox oy oz oA qa qb sH sI sJ qc qd qe qf qg qh qi qj oB oC oD oE oF oG oH fF:Value),yw w mn R hv bv (.slice aw ws.length cw) ws uG bS w2->bS.length<=51->T=(bS.map (·.F),true)->Q .ret ⟨List.toArray (c0::.slice al fs.length cl::.int .i64 s::.int .i64 n::c4::c5::c6::c7::uG::uG::.int .i64 i::.pointer (some ⟨mn,0,none⟩)::.slice aw ws.length cw::tW::oj::pJ::eY::fZ::eL::dU::dR::dx::dy::dz::dA::dB::dC::dD::dE::dF::dG::dL::dM::dN::dO::dP::dV::dW::dX::ee::eg::ei::eo::ep::ev::dd::ew::ey::ez::eA::dY::dZ::om::oq::uc::ud::ue::uf::ug::uh::ui::uj::uk::um::u64::sE::sF::sG::pV::pW::pX::pY::pZ::ou::ov::ow::ox::oy::oz::oA::qa::qb::sH::sI::sJ::qc::qd::qe::qf::qg::qh::qi::qj::oB::oC::oD::oE::oF::oG::oH::fF::bq::br::bt::bu::bx::bz::bC::bU::bV::bW::bX::bD::bE::bG::bH::bI::bJ::bK::bL::bM::bj::bk::bn::bN::bO::bP::bQ::aZ::aW::cH::cI::cJ::cK::cL::dp::dq::dr::dt::du::dv::dc::[]),[]⟩ w2):
  Code.wp Tryz.prog (Code.loop (zub 1)) Q ⟨List.toArray (c0::.slice al fs.length cl::.int .i64 s::.int .i64 n::c4::c5::c6::c7::.slice none 0 0::v9::.int .i64 i::.pointer (some ⟨mn,0,none⟩)::.slice aw ws.length cw::.int .i64 (0:Nat)::gG::eJ::eY::fZ::eL::dU::dR::dx::dy::dz::dA::dB::dC::dD::dE::dF::dG::dL::dM::dN::dO::dP::dV::dW::dX::ee::eg::ei::eo::ep::ev::dd::ew::ey::ez::eA::dY::dZ::eD::eE::dQ::eZ::fa::fc::di::fe::fg::fh::fi::fj::fl::fm::fo::fp::fH::fI::fJ::fK::fL::gd::gh::gi::gj::gq::gu::gv::fM::fN::fq::ft::fu::fO::fP::fQ::fR::fU::fV::fW::fX::gw::gy::gz::gA::gB::gC::gD::cg::bq::br::bt::bu::bx::bz::bC::bU::bV::bW::bX::bD::bE::bG::bH::bI::bJ::bK::bL::bM::bj::bk::bn::bN::bO::bP::bQ::aZ::aW::cH::cI::cJ::cK::cL::dp::dq::dr::dt::du::dv::dc::[]),[]⟩ w1:=by
 conv=>arg 2;arg 1;whnf
 obtain⟨ah,ch,rfl⟩:=zD rE;have Sr:=zC Fg;have HI:=zC hI;have HX:=zC aJ;have HY:=zC gE;have EU:=zC cE;have Ga:=zC rE;have lN:=zC aT;have HF:=zC ax;clear Fg hI aJ gE cE rE aT ax
 go_loopg [8,9,13] ws.length (λ gg v8 v kk wr=>v8=.slice none 0 0/\∃ (k:Nat) (bS:List FG),k<=ws.length/\gg=ws.length-k/\kk=.int .i64 k/\yw w mn R (.slice ah R.head.ae.length ch) bv (.slice aw ws.length cw) ws v bS wr/\bS.length<=51/\vR (fs.map (·.F)) (((ws.map (·.W)).map (zcn R s n i)).drop k) (bS.map (·.F))=T)
 exact⟨rfl,0,out,Nat.zero_le _,rfl,rfl,zA HI,AL,zA HF⟩
 case round=>
  clear HI HF;obtain⟨rfl,k,bS,hk,iZ,rfl,hI,Eg,ax⟩:=hrel;obtain⟨a9,c9,rfl⟩:=zD hI.out.row
  by_cases aE:k<ws.length
  ·have nC:(k:Int)<ws.length:=(by omega);have aP:=zw6 (l:=fs.map (·.F)) (out:=bS.map (·.F)) (cs:=(ws.map (·.W)).map (zcn R s n i)) (k:=k) (by simpa using aE);simp only[List.getElem_map,List.length_map] at aP;have eN:=zC (aP.symm.trans ax);have rJ:=hI.below.size;have Al:w.heap.size<=wr.heap.size:=rJ;have b1:=hI.lt;obtain⟨g5,c5,Aj,Qe,uA,LL,zz,x0,x1,x2⟩:=zq5 hI.ways.row aE;injection Aj with i1 i2 i3
   subst i1 i3;have gY:=hI.ways.each _ (List.getElem_mem aE);obtain⟨oV,oX,bp,fw,e1,e2⟩:=gY.env.shape;obtain⟨af,cf,e3⟩:=zD gY.fr;rw[e1] at x0;rw[e2] at x1;rw[e3] at x2;obtain⟨y0,-⟩:=zB hI.box 0;obtain⟨y1,-⟩:=zB hI.box 1;obtain⟨y2,-⟩:=zB hI.box 2;obtain⟨y3,-⟩:=zB hI.box 3;obtain⟨y4,-⟩:=zB hI.box 4;simp only[List.getElem?_toArray,List.getElem?_cons_zero,List.getElem?_cons_succ] at y0 y1 y2 y3 y4;have dH:∀ W,Below wr.heap.size wr W->Calls Tryz.prog 192 #[.agg #[.slice oV ws[k].e.length oX,.slice bp ws[k].e.length fw],.agg #[.string R.head.pred,.slice ah R.head.ae.length ch,.bool R.head.no,.int .i64 R.head.at_,.int .i64 R.head.ak]] W (zot W ws[k].e R.head):=λ W hW=>by
    have hB:=hI.below.trans (hW.mono rJ);have q1:=gY.env.below hW;rw[e1,e2] at q1;exact zkj W 0 ws[k].e R.head oV bp ah oX fw ch ⟨zF q1.ns (Nat.zero_le _),zF q1.ts (Nat.zero_le _),q1.nil⟩ (zF (zH (zA Ga) hB (λ g e=>((zA Ga).lt g e).2)) (Nat.zero_le _)) (by omega)
   have aV:=zC dH;have HI:=zC hI;have hlen:=zA lN _ (List.getElem_mem aE);have F9:=zC gY.fr;have Sl:=zC e3;have Wo:=zC (show zcn R s n i ws[k].W=⟨bf ws[k].e R.head,zU (bf ws[k].e R.head),s,n,i,ws[k].fr⟩ from rfl);have d5:¬ g5=wr.heap.size:=(by omega);have db:¬ mn=wr.heap.size:=by omega
   have HK:Hid (∀ W w':W8,Below wr.heap.size wr W->Below W.heap.size W w'->w'.cell? ⟨g5,k*3,none⟩=some (.slice oV ws[k].e.length oX)/\w'.cell? ⟨g5,k*3+1,none⟩=some (.slice bp ws[k].e.length fw)/\w'.cell? ⟨mn,0,none⟩=some (.string R.head.pred)/\w'.cell? ⟨mn,1,none⟩=some (.slice ah R.head.ae.length ch)/\w'.cell? ⟨mn,2,none⟩=some (.bool R.head.no)/\w'.cell? ⟨mn,3,none⟩=some (.int .i64 R.head.at_)/\w'.cell? ⟨mn,4,none⟩=some (.int .i64 R.head.ak)):=zC (λ W w' h1 h2=>by
    have hB:=h1.trans (h2.mono h1.size)
    exact⟨(hB.cell (by simpa using uA)).trans x0,(hB.cell (by simpa using uA)).trans x1,(hB.cell (by simpa using b1)).trans y0,(hB.cell (by simpa using b1)).trans y1,(hB.cell (by simpa using b1)).trans y2,(hB.cell (by simpa using b1)).trans y3,(hB.cell (by simpa using b1)).trans y4⟩)
   clear hI gY dH aP ax e1 e2 e3 rJ;go_upto_region 11 with fail
   go_cut [14] from 52 to 100 (λ p wc=>∃ b v,p=.pointer (some ⟨b,0,none⟩)/\M5 wr (bf ws[k].e R.head) b v wc)
   case first=>
    go_region_held3 (λ w'=>w'.cell? ⟨g5,k*3,none⟩=some (.slice oV ws[k].e.length oX)/\w'.cell? ⟨g5,k*3+1,none⟩=some (.slice bp ws[k].e.length fw)/\w'.cell? ⟨mn,0,none⟩=some (.string R.head.pred)/\w'.cell? ⟨mn,1,none⟩=some (.slice ah R.head.ae.length ch)/\w'.cell? ⟨mn,2,none⟩=some (.bool R.head.no)/\w'.cell? ⟨mn,3,none⟩=some (.int .i64 R.head.at_)/\w'.cell? ⟨mn,4,none⟩=some (.int .i64 R.head.ak)) (first | go_keep | (refine⟨?_,?_,?_,?_,?_,?_,?_⟩ <;> (refine (zjf ?_).trans ?_ <;> assumption))) ((go_at_call 192;refine (zA aV _ (by first | exact B9.drew | exact (B9.alloc L9 _).drew | exact B9.drew.alloc L9 _)).mono ?_;rintro e w2 ⟨v,rfl,aB,aH⟩;obtain⟨fE,iU,rfl⟩:=zD aB;obtain⟨m0,m1,m2,m3,m4,m5,m6⟩:=zA HK _ _ (by first | exact B9.drew | exact (B9.alloc L9 _).drew | exact B9.drew.alloc L9 _) aH;have nN:=λ (j:Nat) h=>aH.cell (p:=⟨wr.heap.size,j,none⟩) h;have se:=λ (j:Nat) h=>aH.frozen (p:=⟨wr.heap.size,j,none⟩) h;have gL:=zC aB;clear aB))
    all_goals
     go_wp2_with fail;go_meet
     case rel=>first | exact⟨_,_,rfl,M5.behind (W:=wr.drew) B9.drew aH (zA gL)⟩ | exact⟨_,_,rfl,M5.ahead (W:=(wr.alloc (.cells #[.string { data:=#[] },.slice none 0 0,.bool false,.int .i64 0,.int .i64 0] 243)).drew) (B9.alloc L9 _).drew L9 (heap_alloc_new wr _) aH (zA gL)⟩
   case rest=>
    generalize wc=wA at *;obtain⟨b,v,rfl,hM⟩:=hcut;obtain⟨fE,iU,rfl⟩:=zD hM.row;have I8:=hM.below.size;have dj:=(zA HI).dm hM.below;have z2:wA.cell? ⟨g5,k*3+2,none⟩=some (.slice af ws[k].fr.length cf):=(hM.below.cell (by simpa using uA)).trans x2;obtain⟨r0,-⟩:=zB hM.cP 0;obtain⟨r1,-⟩:=zB hM.cP 1;obtain⟨r2,-⟩:=zB hM.cP 2;obtain⟨r3,-⟩:=zB hM.cP 3;obtain⟨r4,-⟩:=zB hM.cP 4;simp only[List.getElem?_toArray,List.getElem?_cons_zero,List.getElem?_cons_succ] at r0 r1 r2 r3 r4;have eK:=(Array.getElem?_eq_some_iff.1 hM.cP).1;have lu:=hM.row;have GG:=zH (zA F9) hM.below (λ g e=>((zA F9).lt g e).2);rw[zA Sl] at GG;have tU:∀ W,Below wA.heap.size wA W->Calls Tryz.prog 134 #[.agg #[.string (bf ws[k].e R.head).pred,.slice fE (bf ws[k].e R.head).ae.length iU,.bool false,.int .i64 0,.int .i64 0]] W λ e w'=>∃ s:B8,e=.returned (.string s)/\s.data.toList=xS (bf ws[k].e R.head)/\Below W.heap.size W w':=λ W hW=>zbw W wr.heap.size (bf ws[k].e R.head) fE iU false 0 0 (zH lu hW (λ g e=>(lu.lt g e).2)) hlen
    have eO:=zC tU;have iR:=zC dj;have C4:=zC lu;have A7:=zC GG;clear hM dj HI aV HK x0 x1 x2 y0 y1 y2 y3 y4 tU lu GG F9 Sl d5 db;have Qr:g5<wA.heap.size:=(by omega);have d5:wA.heap.size≠g5:=(by omega);have db:wA.heap.size≠b:=(by omega);have lU:(bf ws[k].e R.head).no=false/\(bf ws[k].e R.head).at_=0/\(bf ws[k].e R.head).ak=0:=⟨rfl,rfl,rfl⟩;generalize ws[k].fr=NF at *;generalize ws[k].e=NE at *;generalize bf NE R.head=B at *;have kZ:=zC lU
    have HK:Hid (∀ W w':W8,Below wA.heap.size wA W->Below W.heap.size W w'->w'.cell? ⟨b,0,none⟩=some (.string B.pred)/\w'.cell? ⟨b,1,none⟩=some (.slice fE B.ae.length iU)/\w'.cell? ⟨b,2,none⟩=some (.bool false)/\w'.cell? ⟨b,3,none⟩=some (.int .i64 0)/\w'.cell? ⟨b,4,none⟩=some (.int .i64 0)/\w'.cell? ⟨g5,k*3+2,none⟩=some (.slice af NF.length cf)):=zC (λ W w' h1 h2=>by
     have hB:=h1.trans (h2.mono h1.size)
     exact⟨(hB.cell (by simpa using eK)).trans r0,(hB.cell (by simpa using eK)).trans r1,(hB.cell (by simpa using eK)).trans r2,(hB.cell (by simpa using eK)).trans r3,(hB.cell (by simpa using eK)).trans r4,(hB.cell (by simpa using Qr)).trans z2⟩)
    have M8:Hid (((wA.alloc (.cells #[.string { data:=#[] },.slice none 0 0,.bool false,.int .i64 0,.int .i64 0,.string { data:=#[] },.int .i64 0,.int .i64 0,.int .i64 0,.slice none 0 0] 262)).drew).heap[wA.heap.size]?=some (.cells #[.string { data:=#[] },.slice none 0 0,.bool false,.int .i64 0,.int .i64 0,.string { data:=#[] },.int .i64 0,.int .i64 0,.int .i64 0,.slice none 0 0] 262 (0,0))):=zC (heap_alloc_new wA _);clear lU;go_upto_region 12 with fail
    go_cut [15] from 52 to 100 (λ p wc=>∃ Pp,p=.pointer (some ⟨Pp,0,none⟩)/\zj wA (.string B.pred) (.slice fE B.ae.length iU) (.bool false) (.int .i64 0) (.int .i64 0) (.string (zU B)) (.int .i64 s) (.int .i64 n) (.int .i64 i) (.slice af NF.length cf) Pp wc)
    case first=>
     go_region_held3 (λ w'=>w'.cell? ⟨b,0,none⟩=some (.string B.pred)/\w'.cell? ⟨b,1,none⟩=some (.slice fE B.ae.length iU)/\w'.cell? ⟨b,2,none⟩=some (.bool false)/\w'.cell? ⟨b,3,none⟩=some (.int .i64 0)/\w'.cell? ⟨b,4,none⟩=some (.int .i64 0)/\w'.cell? ⟨g5,k*3+2,none⟩=some (.slice af NF.length cf)) (go_keep) ((go_at_call 134;refine (zA eO _ (by first | exact B9.drew | exact (B9.alloc L9 _).drew | exact B9.drew.alloc L9 _)).mono ?_;rintro e w2 ⟨tx,rfl,su,aH⟩;obtain rfl:=zgf su;obtain⟨m0,m1,m2,m3,m4,m5⟩:=zA HK _ _ (by first | exact B9.drew | exact (B9.alloc L9 _).drew | exact B9.drew.alloc L9 _) aH;have nN:=λ (j:Nat) h=>aH.cell (p:=⟨wA.heap.size,j,none⟩) h;have se:=λ (j:Nat) h=>aH.frozen (p:=⟨wA.heap.size,j,none⟩) h;clear su))
     all_goals
      go_wp2_with fail;go_meet
      case rel=>
       refine⟨_,rfl,?_⟩
       first | (with_reducible refine zj.behind (W:=wA.drew) ?_ aH) | (with_reducible refine zj.ahead (W:=(wA.alloc (.cells #[.string { data:=#[] },.slice none 0 0,.bool false,.int .i64 0,.int .i64 0,.string { data:=#[] },.int .i64 0,.int .i64 0,.int .i64 0,.slice none 0 0] 262)).drew) ?_ L9 (zA M8) aH)
       all_goals first | exact B9.drew | exact (B9.alloc L9 _).drew
    case rest=>
     generalize wc=wB at *;obtain⟨Pp,rfl,hM⟩:=hcut;have hsB:=hM.below.size;have iV:=(zA iR).dm hM.below;have Mh:j5 wB w.heap.size ⟨⟨B,zU B,s,n,i,NF⟩,.slice fE B.ae.length iU,.slice af NF.length cf⟩:=⟨zF (zH (zA C4) hM.below (λ g e=>((zA C4).lt g e).2)) Al,zH (zA A7) hM.below (λ g e=>((zA A7).lt g e).2)⟩;have Gh:=zC Mh;obtain⟨q0,-⟩:=zB hM.cP 0;obtain⟨q1,-⟩:=zB hM.cP 1;obtain⟨q2,-⟩:=zB hM.cP 2;obtain⟨q3,-⟩:=zB hM.cP 3;obtain⟨q4,-⟩:=zB hM.cP 4;obtain⟨q5,-⟩:=zB hM.cP 5;obtain⟨q6,-⟩:=zB hM.cP 6;obtain⟨q7,-⟩:=zB hM.cP 7;obtain⟨q8,-⟩:=zB hM.cP 8;obtain⟨q9,-⟩:=zB hM.cP 9;have lj:=zC iV;have Ld:=zH (zA Sr).row iV.below (λ g e=>((zA Sr).row.lt g e).2);have kM:=zC (zco wB base al cl fs (zU B) Ld);have az:=zC (zco wB w.heap.size a9 c9 bS (zU B) iV.out.row);clear hM iV Mh iR C4 A7 eO HK M8 r0 r1 r2 r3 r4 z2 Ld
     by_cases hbig:50<fs.length+bS.length
     ·have D6:(50:Int)<fs.length+bS.length:=(by omega);have HT:=zC (show T=(bS.map (·.F),true) by rw[<-zA eN,if_pos hbig]);clear eN;go_wp2_with fail;apply zA HY
      ·exact zA lj
      ·exact Eg
      ·exact zA HT
     ·have D6:¬ ((50:Int)<fs.length+bS.length):=(by omega);have HT:=zC (show vR (fs.map (·.F)) (((ws.map (·.W)).map (zcn R s n i)).drop (k+1)) (lT (fs.map (·.F)) (bS.map (·.F)) ⟨B,zU B,s,n,i,NF⟩)=T by rw[<-zA Wo];rw[<-zA eN,if_neg hbig]);clear eN;obtain⟨i0,tI,cQ,cz,cx⟩:=info_parts zi8;have pg:FG.cells ⟨⟨B,zU B,s,n,i,NF⟩,.slice fE B.ae.length iU,.slice af NF.length cf⟩=[.string B.pred,.slice fE B.ae.length iU,.bool false,.int .i64 0,.int .i64 0,.string (zU B),.int .i64 s,.int .i64 n,.int .i64 i,.slice af NF.length cf]:=by
       obtain⟨h1,h2,h3⟩:=zA kZ;simp only[FG.cells,h1,h2,h3];rfl
      have iI:=λ (w5:W8) (g cap:Nat) (hg:(wB.alloc (.cells #[.string B.pred,.slice fE B.ae.length iU,.bool false,.int .i64 0,.int .i64 0,.string (zU B),.int .i64 s,.int .i64 n,.int .i64 i,.slice af NF.length cf] 262)).grownBy w5 (Value.slice a9 bS.length c9).ownBlock) (aC:w5.ownsRow w.heap.size 262 10 (.slice (some ⟨g,0,none⟩) (bS.length+1) cap) (bS.length+1) (bS.flatMap FG.cells++[.string B.pred,.slice fE B.ae.length iU,.bool false,.int .i64 0,.int .i64 0,.string (zU B),.int .i64 s,.int .i64 n,.int .i64 i,.slice af NF.length cf]))=>yw.add (x:=⟨⟨B,zU B,s,n,i,NF⟩,.slice fE B.ae.length iU,.slice af NF.length cf⟩) (zA lj) (zA Gh) ((zN.refl [] _).alloc _) hg (by rw[pg];exact aC)
      have oT:=zC iI;have HR:=zC ((zA lj).out.row.alloc (.cells #[.string B.pred,.slice fE B.ae.length iU,.bool false,.int .i64 0,.int .i64 0,.string (zU B),.int .i64 s,.int .i64 n,.int .i64 i,.slice af NF.length cf] 262));have ij:=zC (World.news_of_block (heap_alloc_new wB (.cells #[.string B.pred,.slice fE B.ae.length iU,.bool false,.int .i64 0,.int .i64 0,.string (zU B),.int .i64 s,.int .i64 n,.int .i64 i,.slice af NF.length cf] 262)));have hwB:w.heap.size<=wB.heap.size:=(zA lj).below.size;clear iI pg
      by_cases h1:yL (fs.map (·.F)) (zU B)<0
      ·by_cases h2:yL (bS.map (·.F)) (zU B)<0
       ·have uT:=zC (show vR (fs.map (·.F)) (((ws.map (·.W)).map (zcn R s n i)).drop (k+1)) ((bS++[(⟨⟨B,zU B,s,n,i,NF⟩,.slice fE B.ae.length iU,.slice af NF.length cf⟩:FG)]).map (·.F))=T by
         have:=zA HT;rw[lT,if_pos ⟨h1,h2⟩] at this
         rw[List.map_append];exact this)
        generalize yL (fs.map (·.F)) (zU B)=f1 at *;generalize yL (bS.map (·.F)) (zU B)=f2 at *;clear HT;go_wp2_with fail;refine (zA kM).mono ?_;rintro e w4 ⟨rfl,Ak⟩;have Hp:=Ak.symm;subst Hp;clear Ak;go_wp2_with fail;refine (zA az).mono ?_;rintro e w4 ⟨rfl,Ak⟩;have Hp:=Ak.symm;subst Hp;clear Ak;clear kM az;go_wp2_with (at_builtin;go_must (refine wpList_append_lies _ rfl _ _ _ rfl w.heap.size 262 i0 (.agg #[.string { data:=#[] },.slice none 0 0,.bool false,.int .i64 0,.int .i64 0,.string { data:=#[] },.int .i64 0,.int .i64 0,.int .i64 0,.slice none 0 0]) 10 128 Tryz.underlying250 tI cQ cz cx rfl (by decide) (.slice a9 bS.length c9) bS.length _ rfl (zA HR) ⟨wB.heap.size,0,none⟩ 1 1 [.string B.pred,.slice fE B.ae.length iU,.bool false,.int .i64 0,.int .i64 0,.string (zU B),.int .i64 s,.int .i64 n,.int .i64 i,.slice af NF.length cf] rfl rfl (zA ij) (by simp[Value.oneCell']) (by decide) (by unfold maxLen;omega) (by omega) (by simp;omega) _ rfl ?_;intro g cap w5 aj aU cN hlt5));have J5:=zC (zA oT w5 g cap aU aj);go_roundg (ws.length-(k+1));exact⟨rfl,k+1,bS++[⟨⟨B,zU B,s,n,i,NF⟩,.slice fE B.ae.length iU,.slice af NF.length cf⟩],by omega,rfl,by go_num,zA J5,by rw[List.length_append,List.length_singleton];omega,zA uT⟩;omega
       ·have uT:=zC (show vR (fs.map (·.F)) (((ws.map (·.W)).map (zcn R s n i)).drop (k+1)) (bS.map (·.F))=T by
         have:=zA HT;rw[lT,if_neg (λ h=>h2 h.2)] at this
         exact this)
        generalize yL (fs.map (·.F)) (zU B)=f1 at *;generalize yL (bS.map (·.F)) (zU B)=f2 at *;clear HT oT HR ij;go_wp2_with fail;refine (zA kM).mono ?_;rintro e w4 ⟨rfl,rfl⟩;go_wp2_with fail;refine (zA az).mono ?_;rintro e w4 ⟨rfl,rfl⟩;clear kM az;go_wp2_with fail;go_roundg (ws.length-(k+1));exact⟨rfl,k+1,bS,by omega,rfl,by go_num,zA lj,Eg,zA uT⟩;omega
      ·have uT:=zC (show vR (fs.map (·.F)) (((ws.map (·.W)).map (zcn R s n i)).drop (k+1)) (bS.map (·.F))=T by
        have:=zA HT;rw[lT,if_neg (λ h=>h1 h.1)] at this
        exact this)
       generalize yL (fs.map (·.F)) (zU B)=f1 at *;clear HT oT HR ij az;go_wp2_with fail;refine (zA kM).mono ?_;rintro e w4 ⟨rfl,rfl⟩;clear kM;go_wp2_with fail;go_roundg (ws.length-(k+1));exact⟨rfl,k+1,bS,by omega,rfl,by go_num,zA lj,Eg,zA uT⟩;omega
  ·have HI:=zC hI;have HE:=zC (show T=(bS.map (·.F),false) by rw[<-ax,List.drop_of_length_le (by simp;omega)];rfl);clear hI ax;go_wp2_with fail;apply zA HX
   ·exact zA HI
   ·exact Eg
   ·exact zA HE
end
end Go.Proofs.YtldkpahaocjdpaaGreat
