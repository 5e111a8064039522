/-
  The reference's ways, whole.
-/
import Derived.Test.YtldkpahaocjdpaaGreatE35
set_option maxHeartbeats 16000000
set_option maxRecDepth 1000000
namespace Go.Proofs.YtldkpahaocjdpaaGreat
section
open Go.RowKit
def z6i (w:W8)(R:zS)(l:List zP):Ending->W8->Prop:=λ e w'=>∃ v outs,e=.returned v/\rN w' (w.heap.size+1) v outs/\outs.map (·.W)=ze4 R l/\(∀ x∈outs,x.e.length<=100/\x.fr.length<=100)/\outs.length<=1000000/\Below w.heap.size w w'
theorem ybv {w:W8}{g:Nat}{e:TypeId}{xs:V8}{size:Nat}(hb:w.heap[g]?=some (.cells xs.toArray e (0,0)))(hl:xs.length=size):w.ownsRow g e size (.slice (some ⟨g,0,none⟩) 1 1) 1 xs:=
 ⟨by omega,.inr ⟨g,1,xs.toArray,rfl,Nat.le_refl _,hb,Nat.le_refl _,by unfold maxLen;omega,by simpa using hl,by simp[<-hl]⟩⟩
theorem jo.start (w:W8)(R:zS)(hv bv:Value):jo w R hv bv (.slice (some ⟨w.heap.size+1,0,none⟩) 1 1) [⟨[],[],.slice none 0 0,.slice none 0 0,.slice none 0 0⟩] (.slice none 0 0) [] ((w.alloc (.cells #[.string R.head.pred,hv,.bool R.head.no,.int .i64 R.head.at_,.int .i64 R.head.az,bv] 246)).alloc (.cells #[.slice none 0 0,.slice none 0 0,.slice none 0 0] 325)):=by
 refine⟨((Below.refl _ w).alloc L9 _).alloc (by simp) _,?_,⟨ybv (xs:=[.slice none 0 0,.slice none 0 0,.slice none 0 0]) ?_ rfl,λ x hx=>?_⟩,⟨World.ownsRow_nil _ _ _ _,by simp⟩,λ g e=>by cases e⟩
 ·rw[Below.heap_alloc _ _ _ (by simp)];exact heap_alloc_new w _
 ·have:=heap_alloc_new (w.alloc (.cells #[.string R.head.pred,hv,.bool R.head.no,.int .i64 R.head.at_,.int .i64 R.head.az,bv] 246)) (.cells #[.slice none 0 0,.slice none 0 0,.slice none 0 0] 325);rw[World.size_alloc] at this;exact this
 ·rw[List.mem_singleton.1 hx];exact⟨⟨World.ownsRow_nil _ _ _ _,World.ownsRow_nil _ _ _ _,λ _=>⟨rfl,rfl⟩⟩,World.ownsRow_nil _ _ _ _,λ _=>rfl⟩
theorem z86 (w:W8)(base:Nat)(R:zS)(hv:Value)(bs:List (zL × Value))(bv:Value)(fs:List FG)(al:O8)(cl:Nat)(hC:yaj w base R hv bs bv fs (.slice al fs.length cl))(bj:∀ x∈ziq (fs.map (·.F)) R.body [([],[])],∀ a∈R.body,(jH (fa x.1 a)).length<=1000000000):
  Calls Tryz.prog 193 #[zb3 R.head hv bv,.slice al fs.length cl] w (z6i w R (fs.map (·.F))):=by
 have HC:=zC hC;have H0:=zC (jo.start w R hv bv);have lW:=zC bj;obtain⟨ab,cb,rfl⟩:=zD hC.bJ.bo;obtain⟨ah,ch,rfl⟩:=zD hC.bJ.hd;clear hC bj;unfold zb3;go_enter Tryz.func193,Tryz.ntmps193;go_wp2_with fail;refine yej w base R _ bs _ fs al cl (zA HC) _ _ (zA H0) ?_;intro v5 now w2;intros;rename_i hI hF aX mz;obtain⟨an,cn,rfl⟩:=zD hI.now.row;have bj:∀ x∈now,∀ a∈R.body,(jH (fa x.e a)).length<=1000000000:=λ x hx a ha=>zA lW x.W (by rw[<-hF];exact List.mem_map_of_mem hx) a ha
 have HI:=zC hI;have HF:=zC hF;have pU:=zC aX;have HS:=zC bj;clear hI hF aX bj H0 lW;go_wp2_with fail;refine yem w base R _ bs _ fs al cl (zA HC) now an cn mz (zA HS) _ (zA HI) ?_;intro NJ outs w3;intros;rename_i gA Ib AP;obtain⟨a3,c3,rfl⟩:=zD gA.next.row;have rY:outs.length<=1000000:=by
  have:=congrArg List.length Ib;rw[List.length_map] at this;have h2:=List.length_filter_le (zio R (fs.map (·.F))) (now.map (·.W));rw[List.length_map] at h2;omega
 have HE:=zC (show outs.map (·.W)=ze4 R (fs.map (·.F)) by rw[Ib,zA HF];rfl);have Wi:=zC (show ∀ x∈outs,x.e.length<=100/\x.fr.length<=100 from λ x hx=>zA pU x (AP x hx));have iC:=zC gA;clear gA Ib AP HI HF pU HS;go_wp2_with fail;go_ret;exact⟨_,outs,rfl,(zA iC).next,zA HE,zA Wi,rY,(zA iC).below⟩
end
section
open Go.RowKit
def zcq (R:zS)(s n i:Nat)(x:Way):zP:=⟨fa x.1 R.head,xP (fa x.1 R.head),s,n,i,x.2⟩
def ztq (l out:List zP)(f:zP):List zP:=if jE l f.text<0/\jE out f.text<0 then out++[f] else out
def vC (l:List zP):List zP->List zP->List zP × Bool
 | [],out=>(out,false)
 | f::r,out=>if 50<l.length+out.length then (out,true) else vC l r (ztq l out f)
def j4 (ps:P9)(S:Nat->Nat)(l:List zP)(s n:Nat):List zS->Nat->List zP
 | [],_=>[]
 | R::r,i=>(if S (zM ps R.head.pred).toNat=s then (ze4 R l).map (zcq R s n i) else [])++j4 ps S l s n r (i+1)
theorem ycf {s:B8}{B:zL}(h:s.data.toList=jH B):s=xP B:=by
 cases s
 simp only[xP,<-h,Array.toArray_toList]
theorem zor {l:List zP}:∀ (a b out:List zP),(vC l a out).2=true->vC l (a++b) out=vC l a out
 | [],b,out,h=>by simp[vC] at h
 | f::r,b,out,h=>by
  rw[List.cons_append,vC,vC];rw[vC] at h
  split
  ·rfl
  ·rename_i hn;rw[if_neg hn] at h;exact zor r b _ h
theorem zxb {l:List zP}:∀ (a b out:List zP),(vC l a out).2=false->vC l (a++b) out=vC l b (vC l a out).1
 | [],b,out,h=>rfl
 | f::r,b,out,h=>by
  rw[List.cons_append,vC,vC];rw[vC] at h
  split
  ·rename_i hn;rw[if_pos hn] at h
   cases h
  ·rename_i hn;rw[if_neg hn] at h;exact zxb r b _ h
variable {x:FG} {base:Nat} {w w':W8}
theorem qZ.bu {B:List Nat}(h:qZ w base x)(k:zK B w w')(h1:∀ b∈B,dW w 317 b)(h2:∀ b∈B,dW w 3 b):qZ w' base x:=
 ⟨xF h.t k (λ b hb=>.inr (h1 b hb)),xF h.i k (λ b hb=>.inr (h2 b hb))⟩
variable {v:Value} {W:W8}
theorem yZ.add {wX w5:W8}{v':Value}{fs:List FG}(h:yZ wX base v fs)(hx:qZ wX base x)(hW:zK [] wX W)(hg:W.grownBy w5 v.ownBlock)(ay:w5.ownsRow base 262 10 v' (fs.length+1) (fs.flatMap FG.cells++x.cells)):yZ w5 base v' (fs++[x]):=by
 have k5:zK v.ownBlock.toList wX w5:=(hW.mono (by simp)).trans (zK.aR hg);have n1:∀ b∈v.ownBlock.toList,dW wX 317 b:=yH h.row (by decide);have n2:∀ b∈v.ownBlock.toList,dW wX 3 b:=yH h.row (by decide);refine⟨?_,λ y hy=>?_⟩
 ·rw[List.length_append,List.flatMap_append];simpa using ay
 ·rcases List.mem_append.1 hy with hy | hy
  ·exact (h.each y hy).bu k5 n1 n2
  ·rw[List.mem_singleton.1 hy];exact hx.bu k5 n1 n2
structure uJ (w:W8)(kt:Nat)(R:zS)(hv bv vw:Value)(ws:List WG)(v:Value)(out:List FG)(wr:W8):Prop where
 below:Below w.heap.size w wr
 ge:w.heap.size<=kt
 box:wr.heap[kt]?=some (.cells #[.string R.head.pred,hv,.bool R.head.no,.int .i64 R.head.at_,.int .i64 R.head.az,bv] 246 (0,0))
 ways:rN wr w.heap.size vw ws
 out:yZ wr w.heap.size v out
variable {wr:W8} {ws:List WG} {hv bv vw:Value} {kt:Nat}
theorem uJ.lt {R:zS}{out:List FG}(h:uJ w kt R hv bv vw ws v out wr):kt<wr.heap.size:=(Array.getElem?_eq_some_iff.1 h.box).1
theorem uJ.dQ {R:zS}{out:List FG}(h:uJ w kt R hv bv vw ws v out wr)(k:Below wr.heap.size wr w'):uJ w kt R hv bv vw ws v out w':=
 ⟨h.below.trans (k.mono h.below.size),h.ge,(k.block _ h.lt).trans h.box,h.ways.below k,h.out.below k⟩
theorem uJ.add {w:W8}{kt:Nat}{R:zS}{hv bv vw:Value}{ws:List WG}{v v':Value}{out:List FG}{wX W w5:W8}{x:FG}(h:uJ w kt R hv bv vw ws v out wX)(hx:qZ wX w.heap.size x)(hW:zK [] wX W)(hg:W.grownBy w5 v.ownBlock)(ay:w5.ownsRow w.heap.size 262 10 v' (out.length+1) (out.flatMap FG.cells++x.cells)):uJ w kt R hv bv vw ws v' (out++[x]) w5:=by
 have k5:zK v.ownBlock.toList wX w5:=(hW.mono (by simp)).trans (zK.aR hg);have nt:∀ e,262≠e->∀ b∈v.ownBlock.toList,dW wX e b:=λ e he=>yH h.out.row he
 refine⟨zY h.below k5 h.below.size (λ b hm=>(h.out.row.lt b (by simpa using hm)).1),h.ge,yK h.box k5 (λ b hb=>.inr (nt _ (by decide) b hb)),⟨xF h.ways.row k5 (λ b hb=>.inr (nt _ (by decide) b hb)),λ y hy=>(h.ways.each y hy).bu k5 (nt _ (by decide)) (nt _ (by decide))⟩,h.out.add hx hW hg ay⟩
structure D2 (wr:W8)(v0 v1 v2 v3 v4 v5 v6 v7 v8 v9:Value)(b:Nat)(wc:W8):Prop where
 below:Below wr.heap.size wr wc
 bp:wc.heap[b]?=some (.cells #[v0,v1,v2,v3,v4,v5,v6,v7,v8,v9] 262 (0,0))
def z8k (w:W8)(b:Nat)(v0 v1 v2 v3 v4 v5 v6 v7 v8 v9:Value):W8:=(((((((((w.setCell ⟨b,0,none⟩ v0).setCell ⟨b,1,none⟩ v1).setCell ⟨b,2,none⟩ v2).setCell ⟨b,3,none⟩ v3).setCell ⟨b,4,none⟩ v4).setCell ⟨b,5,none⟩ v5).setCell ⟨b,6,none⟩ v6).setCell ⟨b,7,none⟩ v7).setCell ⟨b,8,none⟩ v8).setCell ⟨b,9,none⟩ v9
variable {u0 u1 u2 u3 u4 u5 u6 u7 u8 u9:Value} {b:Nat}
theorem z4z {t:TypeId}(v0 v1 v2 v3 v4 v5 v6 v7 v8 v9:Value)(h:w.heap[b]?=some (.cells #[u0,u1,u2,u3,u4,u5,u6,u7,u8,u9] t (0,0))):(z8k w b v0 v1 v2 v3 v4 v5 v6 v7 v8 v9).heap[b]?=some (.cells #[v0,v1,v2,v3,v4,v5,v6,v7,v8,v9] t (0,0)):=by
 have g0:=heap_setCell_same _ _ 0 _ _ v0 h;have g1:=heap_setCell_same _ _ 1 _ _ v1 g0;have g2:=heap_setCell_same _ _ 2 _ _ v2 g1;have g3:=heap_setCell_same _ _ 3 _ _ v3 g2;have g4:=heap_setCell_same _ _ 4 _ _ v4 g3;have g5:=heap_setCell_same _ _ 5 _ _ v5 g4;have g6:=heap_setCell_same _ _ 6 _ _ v6 g5;have g7:=heap_setCell_same _ _ 7 _ _ v7 g6;have g8:=heap_setCell_same _ _ 8 _ _ v8 g7;have g9:=heap_setCell_same _ _ 9 _ _ v9 g8;unfold z8k;rw[g9];simp
theorem zzn (B:List Nat)(hb:b∈B)(v0 v1 v2 v3 v4 v5 v6 v7 v8 v9:Value):zK B w (z8k w b v0 v1 v2 v3 v4 v5 v6 v7 v8 v9):=by
 have e:∀ {w':W8} (i:Nat) (u:Value),zK B w w'->zK B w (w'.setCell ⟨b,i,none⟩ u):=λ i u k=>k.setCell (p:=⟨b,i,none⟩) (.inl hb) _
 exact e _ _ (e _ _ (e _ _ (e _ _ (e _ _ (e _ _ (e _ _ (e _ _ (e _ _ (e _ _ (zK.refl B w))))))))))
variable {v0 v1 v2 v3 v4 v5 v6 v7 v8 v9:Value} {w2:W8}
theorem D2.behind (hW:Below wr.heap.size wr W)(h2:Below W.heap.size W w2):D2 wr v0 v1 v2 v3 v4 v5 v6 v7 v8 v9 w2.heap.size (w2.alloc (.cells #[v0,v1,v2,v3,v4,v5,v6,v7,v8,v9] 262)):=by
 have hs:=hW.size;have sj:=h2.size;exact⟨(hW.trans (h2.mono hs)).alloc (by omega) _,heap_alloc_new w2 _⟩
theorem D2.ahead (hW:Below wr.heap.size wr W)(hb:wr.heap.size<=b)(hblk:W.heap[b]?=some (.cells #[u0,u1,u2,u3,u4,u5,u6,u7,u8,u9] 262 (0,0)))(h2:Below W.heap.size W w2):D2 wr v0 v1 v2 v3 v4 v5 v6 v7 v8 v9 b ((((((((((w2.setCell ⟨b,0,none⟩ v0).setCell ⟨b,1,none⟩ v1).setCell ⟨b,2,none⟩ v2).setCell ⟨b,3,none⟩ v3).setCell ⟨b,4,none⟩ v4).setCell ⟨b,5,none⟩ v5).setCell ⟨b,6,none⟩ v6).setCell ⟨b,7,none⟩ v7).setCell ⟨b,8,none⟩ v8).setCell ⟨b,9,none⟩ v9):=by
 show D2 wr v0 v1 v2 v3 v4 v5 v6 v7 v8 v9 b (z8k w2 b v0 v1 v2 v3 v4 v5 v6 v7 v8 v9)
 have hs:=hW.size;have sj:=h2.size;have aH:=(Array.getElem?_eq_some_iff.1 hblk).1;refine⟨?_,z4z _ _ _ _ _ _ _ _ _ _ ((h2.block b aH).trans hblk)⟩;exact zY (hW.trans (h2.mono hs)) (zzn [b] (by simp) _ _ _ _ _ _ _ _ _ _) (by omega) (λ x hx=>by rw[List.mem_singleton.1 hx];exact hb)
end
section
open Go.RowKit
noncomputable def zw0 (k:Nat):Code:=((Tryz.f196.body.map zdo).getD []).getD k .skip
theorem zzw {l out cs:List zP}{k:Nat}(h:k<cs.length):vC l (cs.drop k) out=if 50<l.length+out.length then (out,true) else vC l (cs.drop (k+1)) (ztq l out cs[k]):=by
 rw[List.drop_eq_getElem_cons h,vC]
theorem ydt (w:W8)(base kt:Nat)(R:zS)(hv bv:Value)(fs:List FG)(al:O8)(cl:Nat)(KI:yZ w base (.slice al fs.length cl) fs)(ko:fs.length<=50)(ws:List WG)(aw:O8)(cw:Nat)(xr:ws.length<=1000000)(bM:∀ x∈ws,x.fr.length<=100)(vd:w.ownsRow base 317 3 hv R.head.ae.length (cellsOf R.head.ae))(h4:R.head.ae.length<=4)(bj:∀ x∈ws,(jH (fa x.e R.head)).length<=1000000000)(s n i:Nat)(T:List zP × Bool)(v9:Value)(out:List FG)(rY:out.length<=51)(aE:vC (fs.map (·.F)) ((ws.map (·.W)).map (zcq R s n i)) (out.map (·.F))=T)(w1:W8)(hI:uJ w kt R hv bv (.slice aw ws.length cw) ws v9 out w1)
  {Q:Exit->Act->W8->Prop} {c0 c4 c5 c6 c7 ie fO ig gW fD eG eL eM eN eO eQ eR eS eT eU eV eW fg fh fk fl fm fI fJ fK fP fQ fR fU fV fW dU fX fY fZ gd gh gi gP gQ fE jq jr js ee jt ju jv jw jx jy jz kc kf kg kh ki kj km kx ky kz kD kE kF kG kH kI iO iP iQ iR iS iT iU iV iW iX iY iZ ja jb jc jd je jf dm cj cq cx cy cz cA cC cK cL cM cN cO cP cQ cR cU cV cW cX cY cD cE cF cZ da dc dd de cG gE gF gG gH gI gJ gK gL gM gN gO fC:Value}
  (aT:∀ (sn:Value) (bk:List FG) (w2:W8) (DJ Bj Bk nM nN vv vx vy vz wg wh wk wm wo wq u64 wu wy wz wD wE wF wG wH tU tV tW tX tY tZ ua ub uc Bq Bs Bt Bu Bv Bw By Bz BA BB BC BD BE BF BG BH BI BJ lG:Value),uJ w kt R hv bv (.slice aw ws.length cw) ws sn bk w2->bk.length<=51->T=(bk.map (·.F),false)->Q (.exit 2) ⟨List.toArray (c0::.slice al fs.length cl::.int .i64 s::.int .i64 n::c4::c5::c6::c7::.slice none 0 0::sn::.int .i64 i::.pointer (some ⟨kt,0,none⟩)::.slice aw ws.length cw::DJ::Bj::Bk::ig::gW::fD::eG::eL::eM::eN::eO::eQ::eR::eS::eT::eU::eV::eW::fg::fh::fk::fl::fm::fI::fJ::fK::fP::fQ::fR::fU::fV::fW::dU::fX::fY::fZ::gd::gh::gi::nM::nN::vv::vx::vy::vz::wg::wh::wk::wm::wo::wq::u64::wu::wy::wz::wD::wE::wF::wG::wH::tU::tV::tW::tX::tY::tZ::ua::ub::uc::Bq::Bs::Bt::Bu::Bv::Bw::By::Bz::BA::BB::BC::BD::BE::BF::BG::BH::BI::BJ::lG::cj::cq::cx::cy::cz::cA::cC::cK::cL::cM::cN::cO::cP::cQ::cR::cU::cV::cW::cX::cY::cD::cE::cF::cZ::da::dc::dd::de::cG::gE::gF::gG::gH::gI::gJ::gK::gL::gM::gN::gO::fC::[]),[]⟩ w2)
  (mW:∀ (sn:Value) (bk:List FG) (w2:W8) (DJ Bj Bk nM nN vv vx vy vz wg wh wk wm wo wq u64 wu wy wz wD wE wF wG wH tU tV tW tX tY tZ ua ub uc Bq Bs Bt Bu Bv Bw By Bz BA BB BC BD BE BF BG BH BI BJ lG:Value),uJ w kt R hv bv (.slice aw ws.length cw) ws sn bk w2->bk.length<=51->T=(bk.map (·.F),true)->Q .ret ⟨List.toArray (c0::.slice al fs.length cl::.int .i64 s::.int .i64 n::c4::c5::c6::c7::sn::sn::.int .i64 i::.pointer (some ⟨kt,0,none⟩)::.slice aw ws.length cw::DJ::Bj::Bk::ig::gW::fD::eG::eL::eM::eN::eO::eQ::eR::eS::eT::eU::eV::eW::fg::fh::fk::fl::fm::fI::fJ::fK::fP::fQ::fR::fU::fV::fW::dU::fX::fY::fZ::gd::gh::gi::nM::nN::vv::vx::vy::vz::wg::wh::wk::wm::wo::wq::u64::wu::wy::wz::wD::wE::wF::wG::wH::tU::tV::tW::tX::tY::tZ::ua::ub::uc::Bq::Bs::Bt::Bu::Bv::Bw::By::Bz::BA::BB::BC::BD::BE::BF::BG::BH::BI::BJ::lG::cj::cq::cx::cy::cz::cA::cC::cK::cL::cM::cN::cO::cP::cQ::cR::cU::cV::cW::cX::cY::cD::cE::cF::cZ::da::dc::dd::de::cG::gE::gF::gG::gH::gI::gJ::gK::gL::gM::gN::gO::fC::[]),[]⟩ w2):
  Code.wp Tryz.prog (Code.loop (zw0 1)) Q ⟨List.toArray (c0::.slice al fs.length cl::.int .i64 s::.int .i64 n::c4::c5::c6::c7::.slice none 0 0::v9::.int .i64 i::.pointer (some ⟨kt,0,none⟩)::.slice aw ws.length cw::.int .i64 (0:Nat)::ie::fO::ig::gW::fD::eG::eL::eM::eN::eO::eQ::eR::eS::eT::eU::eV::eW::fg::fh::fk::fl::fm::fI::fJ::fK::fP::fQ::fR::fU::fV::fW::dU::fX::fY::fZ::gd::gh::gi::gP::gQ::fE::jq::jr::js::ee::jt::ju::jv::jw::jx::jy::jz::kc::kf::kg::kh::ki::kj::km::kx::ky::kz::kD::kE::kF::kG::kH::kI::iO::iP::iQ::iR::iS::iT::iU::iV::iW::iX::iY::iZ::ja::jb::jc::jd::je::jf::dm::cj::cq::cx::cy::cz::cA::cC::cK::cL::cM::cN::cO::cP::cQ::cR::cU::cV::cW::cX::cY::cD::cE::cF::cZ::da::dc::dd::de::cG::gE::gF::gG::gH::gI::gJ::gK::gL::gM::gN::gO::fC::[]),[]⟩ w1:=by
 conv=>arg 2;arg 1;whnf
 obtain⟨ah,ch,rfl⟩:=zD vd;have R4:=zC KI;have HI:=zC hI;have HX:=zC aT;have HY:=zC mW;have DZ:=zC bM;have Mw:=zC vd;have lW:=zC bj;have HF:=zC aE;clear KI hI aT mW bM vd bj aE
 go_loopg [8,9,13] ws.length (λ gg v8 v kk wr=>v8=.slice none 0 0/\∃ (k:Nat) (bk:List FG),k<=ws.length/\gg=ws.length-k/\kk=.int .i64 k/\uJ w kt R (.slice ah R.head.ae.length ch) bv (.slice aw ws.length cw) ws v bk wr/\bk.length<=51/\vC (fs.map (·.F)) (((ws.map (·.W)).map (zcq R s n i)).drop k) (bk.map (·.F))=T)
 exact⟨rfl,0,out,Nat.zero_le _,rfl,rfl,zA HI,rY,zA HF⟩
 case round=>
  clear HI HF;obtain⟨rfl,k,bk,hk,eD,rfl,hI,Dh,aE⟩:=hrel;obtain⟨a9,c9,rfl⟩:=zD hI.out.row
  by_cases aF:k<ws.length
  ·have nu:(k:Int)<ws.length:=(by omega);have aP:=zzw (l:=fs.map (·.F)) (out:=bk.map (·.F)) (cs:=(ws.map (·.W)).map (zcq R s n i)) (k:=k) (by simpa using aF);simp only[List.getElem_map,List.length_map] at aP;have dB:=zC (aP.symm.trans aE);have kV:=hI.below.size;have AV:w.heap.size<=wr.heap.size:=kV;have b1:=hI.lt;obtain⟨g5,c5,Ds,XT,Am,Qz,Av,x0,x1,x2⟩:=zxp hI.ways.row aF;injection Ds with i1 i2 i3
   subst i1 i3;have gp:=hI.ways.each _ (List.getElem_mem aF);obtain⟨pz,pA,br,dL,e1,e2⟩:=gp.env.shape;obtain⟨af,cf,e3⟩:=zD gp.fr;rw[e1] at x0;rw[e2] at x1;rw[e3] at x2;obtain⟨y0,-⟩:=zB hI.box 0;obtain⟨y1,-⟩:=zB hI.box 1;obtain⟨y2,-⟩:=zB hI.box 2;obtain⟨y3,-⟩:=zB hI.box 3;obtain⟨y4,-⟩:=zB hI.box 4;simp only[List.getElem?_toArray,List.getElem?_cons_zero,List.getElem?_cons_succ] at y0 y1 y2 y3 y4;have gZ:∀ W,Below wr.heap.size wr W->Calls Tryz.prog 192 #[.agg #[.slice pz ws[k].e.length pA,.slice br ws[k].e.length dL],.agg #[.string R.head.pred,.slice ah R.head.ae.length ch,.bool R.head.no,.int .i64 R.head.at_,.int .i64 R.head.az]] W (z0n W ws[k].e R.head):=λ W hW=>by
    have hB:=hI.below.trans (hW.mono kV);have q1:=gp.env.below hW;rw[e1,e2] at q1;exact z4u W 0 ws[k].e R.head pz br ah pA dL ch ⟨zG q1.ns (Nat.zero_le _),zG q1.ts (Nat.zero_le _),q1.nil⟩ (zG (zJ (zA Mw) hB (λ g e=>((zA Mw).lt g e).2)) (Nat.zero_le _)) (by omega)
   have cJ:=zC gZ;have HI:=zC hI;have hlen:=zA lW _ (List.getElem_mem aF);have Fi:=zC gp.fr;have R0:=zC e3;have WQ:=zC (show zcq R s n i ws[k].W=⟨fa ws[k].e R.head,xP (fa ws[k].e R.head),s,n,i,ws[k].fr⟩ from rfl);have d5:¬ g5=wr.heap.size:=(by omega);have db:¬ kt=wr.heap.size:=by omega
   have HK:Hid (∀ W w':W8,Below wr.heap.size wr W->Below W.heap.size W w'->w'.cell? ⟨g5,k*3,none⟩=some (.slice pz ws[k].e.length pA)/\w'.cell? ⟨g5,k*3+1,none⟩=some (.slice br ws[k].e.length dL)/\w'.cell? ⟨kt,0,none⟩=some (.string R.head.pred)/\w'.cell? ⟨kt,1,none⟩=some (.slice ah R.head.ae.length ch)/\w'.cell? ⟨kt,2,none⟩=some (.bool R.head.no)/\w'.cell? ⟨kt,3,none⟩=some (.int .i64 R.head.at_)/\w'.cell? ⟨kt,4,none⟩=some (.int .i64 R.head.az)):=zC (λ W w' h1 h2=>by
    have hB:=h1.trans (h2.mono h1.size)
    exact⟨(hB.cell (by simpa using Am)).trans x0,(hB.cell (by simpa using Am)).trans x1,(hB.cell (by simpa using b1)).trans y0,(hB.cell (by simpa using b1)).trans y1,(hB.cell (by simpa using b1)).trans y2,(hB.cell (by simpa using b1)).trans y3,(hB.cell (by simpa using b1)).trans y4⟩)
   clear hI gp gZ aP aE e1 e2 e3 kV;go_upto_region 11 with fail
   go_cut [14] from 52 to 100 (λ p wc=>∃ b v,p=.pointer (some ⟨b,0,none⟩)/\M5 wr (fa ws[k].e R.head) b v wc)
   case first=>
    go_region_held3 (λ w'=>w'.cell? ⟨g5,k*3,none⟩=some (.slice pz ws[k].e.length pA)/\w'.cell? ⟨g5,k*3+1,none⟩=some (.slice br ws[k].e.length dL)/\w'.cell? ⟨kt,0,none⟩=some (.string R.head.pred)/\w'.cell? ⟨kt,1,none⟩=some (.slice ah R.head.ae.length ch)/\w'.cell? ⟨kt,2,none⟩=some (.bool R.head.no)/\w'.cell? ⟨kt,3,none⟩=some (.int .i64 R.head.at_)/\w'.cell? ⟨kt,4,none⟩=some (.int .i64 R.head.az)) (first | go_keep | (refine⟨?_,?_,?_,?_,?_,?_,?_⟩ <;> (refine (zw6 ?_).trans ?_ <;> assumption))) ((go_at_call 192;refine (zA cJ _ (by first | exact B9.drew | exact (B9.alloc L9 _).drew | exact B9.drew.alloc L9 _)).mono ?_;rintro e w2 ⟨v,rfl,aB,aK⟩;obtain⟨nQ,nR,rfl⟩:=zD aB;obtain⟨m0,m1,m2,m3,m4,m5,m6⟩:=zA HK _ _ (by first | exact B9.drew | exact (B9.alloc L9 _).drew | exact B9.drew.alloc L9 _) aK;have nS:=λ (j:Nat) h=>aK.cell (p:=⟨wr.heap.size,j,none⟩) h;have oE:=λ (j:Nat) h=>aK.frozen (p:=⟨wr.heap.size,j,none⟩) h;have gC:=zC aB;clear aB))
    all_goals
     go_wp2_with fail;go_meet
     case rel=>first | exact⟨_,_,rfl,M5.behind (W:=wr.drew) B9.drew aK (zA gC)⟩ | exact⟨_,_,rfl,M5.ahead (W:=(wr.alloc (.cells #[.string { data:=#[] },.slice none 0 0,.bool false,.int .i64 0,.int .i64 0] 243)).drew) (B9.alloc L9 _).drew L9 (heap_alloc_new wr _) aK (zA gC)⟩
   case rest=>
    generalize wc=wA at *;obtain⟨b,v,rfl,hM⟩:=hcut;obtain⟨nQ,nR,rfl⟩:=zD hM.row;have Lx:=hM.below.size;have dG:=(zA HI).dQ hM.below;have z2:wA.cell? ⟨g5,k*3+2,none⟩=some (.slice af ws[k].fr.length cf):=(hM.below.cell (by simpa using Am)).trans x2;obtain⟨r0,-⟩:=zB hM.bp 0;obtain⟨r1,-⟩:=zB hM.bp 1;obtain⟨r2,-⟩:=zB hM.bp 2;obtain⟨r3,-⟩:=zB hM.bp 3;obtain⟨r4,-⟩:=zB hM.bp 4;simp only[List.getElem?_toArray,List.getElem?_cons_zero,List.getElem?_cons_succ] at r0 r1 r2 r3 r4;have dK:=(Array.getElem?_eq_some_iff.1 hM.bp).1;have uA:=hM.row;have FZ:=zJ (zA Fi) hM.below (λ g e=>((zA Fi).lt g e).2);rw[zA R0] at FZ;have EF:∀ W,Below wA.heap.size wA W->Calls Tryz.prog 134 #[.agg #[.string (fa ws[k].e R.head).pred,.slice nQ (fa ws[k].e R.head).ae.length nR,.bool false,.int .i64 0,.int .i64 0]] W λ e w'=>∃ s:B8,e=.returned (.string s)/\s.data.toList=jH (fa ws[k].e R.head)/\Below W.heap.size W w':=λ W hW=>zoi W wr.heap.size (fa ws[k].e R.head) nQ nR false 0 0 (zJ uA hW (λ g e=>(uA.lt g e).2)) hlen
    have D0:=zC EF;have eA:=zC dG;have B4:=zC uA;have yl:=zC FZ;clear hM dG HI cJ HK x0 x1 x2 y0 y1 y2 y3 y4 EF uA FZ Fi R0 d5 db;have Qc:g5<wA.heap.size:=(by omega);have d5:wA.heap.size≠g5:=(by omega);have db:wA.heap.size≠b:=(by omega);have kn:(fa ws[k].e R.head).no=false/\(fa ws[k].e R.head).at_=0/\(fa ws[k].e R.head).az=0:=⟨rfl,rfl,rfl⟩;generalize ws[k].fr=NF at *;generalize ws[k].e=NE at *;generalize fa NE R.head=B at *;have yg:=zC kn
    have HK:Hid (∀ W w':W8,Below wA.heap.size wA W->Below W.heap.size W w'->w'.cell? ⟨b,0,none⟩=some (.string B.pred)/\w'.cell? ⟨b,1,none⟩=some (.slice nQ B.ae.length nR)/\w'.cell? ⟨b,2,none⟩=some (.bool false)/\w'.cell? ⟨b,3,none⟩=some (.int .i64 0)/\w'.cell? ⟨b,4,none⟩=some (.int .i64 0)/\w'.cell? ⟨g5,k*3+2,none⟩=some (.slice af NF.length cf)):=zC (λ W w' h1 h2=>by
     have hB:=h1.trans (h2.mono h1.size)
     exact⟨(hB.cell (by simpa using dK)).trans r0,(hB.cell (by simpa using dK)).trans r1,(hB.cell (by simpa using dK)).trans r2,(hB.cell (by simpa using dK)).trans r3,(hB.cell (by simpa using dK)).trans r4,(hB.cell (by simpa using Qc)).trans z2⟩)
    have SF:Hid (((wA.alloc (.cells #[.string { data:=#[] },.slice none 0 0,.bool false,.int .i64 0,.int .i64 0,.string { data:=#[] },.int .i64 0,.int .i64 0,.int .i64 0,.slice none 0 0] 262)).drew).heap[wA.heap.size]?=some (.cells #[.string { data:=#[] },.slice none 0 0,.bool false,.int .i64 0,.int .i64 0,.string { data:=#[] },.int .i64 0,.int .i64 0,.int .i64 0,.slice none 0 0] 262 (0,0))):=zC (heap_alloc_new wA _);clear kn;go_upto_region 12 with fail
    go_cut [15] from 52 to 100 (λ p wc=>∃ Zz,p=.pointer (some ⟨Zz,0,none⟩)/\D2 wA (.string B.pred) (.slice nQ B.ae.length nR) (.bool false) (.int .i64 0) (.int .i64 0) (.string (xP B)) (.int .i64 s) (.int .i64 n) (.int .i64 i) (.slice af NF.length cf) Zz wc)
    case first=>
     go_region_held3 (λ w'=>w'.cell? ⟨b,0,none⟩=some (.string B.pred)/\w'.cell? ⟨b,1,none⟩=some (.slice nQ B.ae.length nR)/\w'.cell? ⟨b,2,none⟩=some (.bool false)/\w'.cell? ⟨b,3,none⟩=some (.int .i64 0)/\w'.cell? ⟨b,4,none⟩=some (.int .i64 0)/\w'.cell? ⟨g5,k*3+2,none⟩=some (.slice af NF.length cf)) (go_keep) ((go_at_call 134;refine (zA D0 _ (by first | exact B9.drew | exact (B9.alloc L9 _).drew | exact B9.drew.alloc L9 _)).mono ?_;rintro e w2 ⟨tx,rfl,LB,aK⟩;obtain rfl:=ycf LB;obtain⟨m0,m1,m2,m3,m4,m5⟩:=zA HK _ _ (by first | exact B9.drew | exact (B9.alloc L9 _).drew | exact B9.drew.alloc L9 _) aK;have nS:=λ (j:Nat) h=>aK.cell (p:=⟨wA.heap.size,j,none⟩) h;have oE:=λ (j:Nat) h=>aK.frozen (p:=⟨wA.heap.size,j,none⟩) h;clear LB))
     all_goals
      go_wp2_with fail;go_meet
      case rel=>
       refine⟨_,rfl,?_⟩
       first | (with_reducible refine D2.behind (W:=wA.drew) ?_ aK) | (with_reducible refine D2.ahead (W:=(wA.alloc (.cells #[.string { data:=#[] },.slice none 0 0,.bool false,.int .i64 0,.int .i64 0,.string { data:=#[] },.int .i64 0,.int .i64 0,.int .i64 0,.slice none 0 0] 262)).drew) ?_ L9 (zA SF) aK)
       all_goals first | exact B9.drew | exact (B9.alloc L9 _).drew
    case rest=>
     generalize wc=wB at *;obtain⟨Zz,rfl,hM⟩:=hcut;have hsB:=hM.below.size;have gA:=(zA eA).dQ hM.below;have UD:qZ wB w.heap.size ⟨⟨B,xP B,s,n,i,NF⟩,.slice nQ B.ae.length nR,.slice af NF.length cf⟩:=⟨zG (zJ (zA B4) hM.below (λ g e=>((zA B4).lt g e).2)) AV,zJ (zA yl) hM.below (λ g e=>((zA yl).lt g e).2)⟩;have WY:=zC UD;obtain⟨q0,-⟩:=zB hM.bp 0;obtain⟨q1,-⟩:=zB hM.bp 1;obtain⟨q2,-⟩:=zB hM.bp 2;obtain⟨q3,-⟩:=zB hM.bp 3;obtain⟨q4,-⟩:=zB hM.bp 4;obtain⟨q5,-⟩:=zB hM.bp 5;obtain⟨q6,-⟩:=zB hM.bp 6;obtain⟨q7,-⟩:=zB hM.bp 7;obtain⟨q8,-⟩:=zB hM.bp 8;obtain⟨q9,-⟩:=zB hM.bp 9;have iC:=zC gA;have KG:=zJ (zA R4).row gA.below (λ g e=>((zA R4).row.lt g e).2);have fw:=zC (zkg wB base al cl fs (xP B) KG);have aC:=zC (zkg wB w.heap.size a9 c9 bk (xP B) gA.out.row);clear hM gA UD eA B4 yl D0 HK SF r0 r1 r2 r3 r4 z2 KG
     by_cases hbig:50<fs.length+bk.length
     ·have PH:(50:Int)<fs.length+bk.length:=(by omega);have HT:=zC (show T=(bk.map (·.F),true) by rw[<-zA dB,if_pos hbig]);clear dB;go_wp2_with fail;apply zA HY
      ·exact zA iC
      ·exact Dh
      ·exact zA HT
     ·have PH:¬ ((50:Int)<fs.length+bk.length):=(by omega);have HT:=zC (show vC (fs.map (·.F)) (((ws.map (·.W)).map (zcq R s n i)).drop (k+1)) (ztq (fs.map (·.F)) (bk.map (·.F)) ⟨B,xP B,s,n,i,NF⟩)=T by rw[<-zA WQ];rw[<-zA dB,if_neg hbig]);clear dB;obtain⟨i0,Af,bL,aY,bg⟩:=info_parts zpg;have nT:FG.cells ⟨⟨B,xP B,s,n,i,NF⟩,.slice nQ B.ae.length nR,.slice af NF.length cf⟩=[.string B.pred,.slice nQ B.ae.length nR,.bool false,.int .i64 0,.int .i64 0,.string (xP B),.int .i64 s,.int .i64 n,.int .i64 i,.slice af NF.length cf]:=by
       obtain⟨h1,h2,h3⟩:=zA yg;simp only[FG.cells,h1,h2,h3];rfl
      have dO:=λ (w5:W8) (g cap:Nat) (hg:(wB.alloc (.cells #[.string B.pred,.slice nQ B.ae.length nR,.bool false,.int .i64 0,.int .i64 0,.string (xP B),.int .i64 s,.int .i64 n,.int .i64 i,.slice af NF.length cf] 262)).grownBy w5 (Value.slice a9 bk.length c9).ownBlock) (ay:w5.ownsRow w.heap.size 262 10 (.slice (some ⟨g,0,none⟩) (bk.length+1) cap) (bk.length+1) (bk.flatMap FG.cells++[.string B.pred,.slice nQ B.ae.length nR,.bool false,.int .i64 0,.int .i64 0,.string (xP B),.int .i64 s,.int .i64 n,.int .i64 i,.slice af NF.length cf]))=>uJ.add (x:=⟨⟨B,xP B,s,n,i,NF⟩,.slice nQ B.ae.length nR,.slice af NF.length cf⟩) (zA iC) (zA WY) ((zK.refl [] _).alloc _) hg (by rw[nT];exact ay)
      have mC:=zC dO;have HR:=zC ((zA iC).out.row.alloc (.cells #[.string B.pred,.slice nQ B.ae.length nR,.bool false,.int .i64 0,.int .i64 0,.string (xP B),.int .i64 s,.int .i64 n,.int .i64 i,.slice af NF.length cf] 262));have bX:=zC (World.news_of_block (heap_alloc_new wB (.cells #[.string B.pred,.slice nQ B.ae.length nR,.bool false,.int .i64 0,.int .i64 0,.string (xP B),.int .i64 s,.int .i64 n,.int .i64 i,.slice af NF.length cf] 262)));have UA:w.heap.size<=wB.heap.size:=(zA iC).below.size;clear dO nT
      by_cases h1:jE (fs.map (·.F)) (xP B)<0
      ·by_cases h2:jE (bk.map (·.F)) (xP B)<0
       ·have uN:=zC (show vC (fs.map (·.F)) (((ws.map (·.W)).map (zcq R s n i)).drop (k+1)) ((bk++[(⟨⟨B,xP B,s,n,i,NF⟩,.slice nQ B.ae.length nR,.slice af NF.length cf⟩:FG)]).map (·.F))=T by
         have:=zA HT;rw[ztq,if_pos ⟨h1,h2⟩] at this
         rw[List.map_append];exact this)
        generalize jE (fs.map (·.F)) (xP B)=f1 at *;generalize jE (bk.map (·.F)) (xP B)=f2 at *;clear HT;go_wp2_with fail;refine (zA fw).mono ?_;rintro e w4 ⟨rfl,LC⟩;have AU:=LC.symm;subst AU;clear LC;go_wp2_with fail;refine (zA aC).mono ?_;rintro e w4 ⟨rfl,LC⟩;have AU:=LC.symm;subst AU;clear LC;clear fw aC;go_wp2_with (at_builtin;go_must (refine wpList_append_lies _ rfl _ _ _ rfl w.heap.size 262 i0 (.agg #[.string { data:=#[] },.slice none 0 0,.bool false,.int .i64 0,.int .i64 0,.string { data:=#[] },.int .i64 0,.int .i64 0,.int .i64 0,.slice none 0 0]) 10 128 Tryz.underlying250 Af bL aY bg rfl (by decide) (.slice a9 bk.length c9) bk.length _ rfl (zA HR) ⟨wB.heap.size,0,none⟩ 1 1 [.string B.pred,.slice nQ B.ae.length nR,.bool false,.int .i64 0,.int .i64 0,.string (xP B),.int .i64 s,.int .i64 n,.int .i64 i,.slice af NF.length cf] rfl rfl (zA bX) (by simp[Value.oneCell']) (by decide) (by unfold maxLen;omega) (by omega) (by simp;omega) _ rfl ?_;intro g cap w5 aq aU bW hlt5));have JA:=zC (zA mC w5 g cap aU aq);go_roundg (ws.length-(k+1));exact⟨rfl,k+1,bk++[⟨⟨B,xP B,s,n,i,NF⟩,.slice nQ B.ae.length nR,.slice af NF.length cf⟩],by omega,rfl,by go_num,zA JA,by rw[List.length_append,List.length_singleton];omega,zA uN⟩;omega
       ·have uN:=zC (show vC (fs.map (·.F)) (((ws.map (·.W)).map (zcq R s n i)).drop (k+1)) (bk.map (·.F))=T by
         have:=zA HT;rw[ztq,if_neg (λ h=>h2 h.2)] at this
         exact this)
        generalize jE (fs.map (·.F)) (xP B)=f1 at *;generalize jE (bk.map (·.F)) (xP B)=f2 at *;clear HT mC HR bX;go_wp2_with fail;refine (zA fw).mono ?_;rintro e w4 ⟨rfl,rfl⟩;go_wp2_with fail;refine (zA aC).mono ?_;rintro e w4 ⟨rfl,rfl⟩;clear fw aC;go_wp2_with fail;go_roundg (ws.length-(k+1));exact⟨rfl,k+1,bk,by omega,rfl,by go_num,zA iC,Dh,zA uN⟩;omega
      ·have uN:=zC (show vC (fs.map (·.F)) (((ws.map (·.W)).map (zcq R s n i)).drop (k+1)) (bk.map (·.F))=T by
        have:=zA HT;rw[ztq,if_neg (λ h=>h1 h.1)] at this
        exact this)
       generalize jE (fs.map (·.F)) (xP B)=f1 at *;clear HT mC HR bX aC;go_wp2_with fail;refine (zA fw).mono ?_;rintro e w4 ⟨rfl,rfl⟩;clear fw;go_wp2_with fail;go_roundg (ws.length-(k+1));exact⟨rfl,k+1,bk,by omega,rfl,by go_num,zA iC,Dh,zA uN⟩;omega
  ·have HI:=zC hI;have HE:=zC (show T=(bk.map (·.F),false) by rw[<-aE,List.drop_of_length_le (by simp;omega)];rfl);clear hI aE;go_wp2_with fail;apply zA HX
   ·exact zA HI
   ·exact Dh
   ·exact zA HE
end
end Go.Proofs.YtldkpahaocjdpaaGreat
