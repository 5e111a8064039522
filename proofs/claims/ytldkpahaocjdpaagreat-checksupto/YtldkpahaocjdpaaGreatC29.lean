/-
  The reference's ways: the innermost loop: one way, gone on by one literal, over all facts.
-/
import Derived.Test.YtldkpahaocjdpaaGreatC28
set_option maxHeartbeats 16000000
set_option maxRecDepth 1000000
namespace Go.Proofs.YtldkpahaocjdpaaGreat
section
open Go.RowKit
def zbf:Code->List Code
 | .loop c=>c::zbf c
 | .seq a b=>zbf a++zbf b
 | .block _ c=>zbf c
 | .cond _ a b=>zbf a++zbf b
 | _=>[]
noncomputable def z2c (k:Nat):Code:=((Tryz.f193.body.map zbf).getD []).getD k .skip
structure z2l (w:W8)(base:Nat)(R:zP)(hv:Value)(bs:List (zL × Value))(bv:Value)(fs:List FG)(lv:Value):Prop where
 aX:j7 w base R hv bs bv
 facts:yW w base lv fs
 gH:fs.length<=50
 body:bs.length<=3
 ae:∀ a∈R.body,a.ae.length<=4
structure ma (w:W8)(R:zP)(hv bv nv:Value)(now:List WG)(v:Value)(next:List WG)(wr:W8):Prop where
 below:Below w.heap.size w wr
 box:wr.heap[w.heap.size]?=some (.cells #[.string R.head.pred,hv,.bool R.head.no,.int .i64 R.head.at_,.int .i64 R.head.ak,bv] 246 (0,0))
 now:te wr (w.heap.size+1) nv now
 next:te wr (w.heap.size+1) v next
 ne:∀ g,v.ownBlock=some g->nv.ownBlock≠some g
variable {wr w:W8} {v hv bv nv:Value} {R:zP}
theorem ma.lt {now next:List WG}(h:ma w R hv bv nv now v next wr):w.heap.size<wr.heap.size:=(Array.getElem?_eq_some_iff.1 h.box).1
variable {w':W8}
theorem ma.dm {now next:List WG}(h:ma w R hv bv nv now v next wr)(k:Below wr.heap.size wr w'):ma w R hv bv nv now v next w':=
 have hl:=h.lt
 ⟨h.below.trans (k.mono (by omega)),(k.block _ hl).trans h.box,h.now.below k,h.next.below k,h.ne⟩
theorem zvx (k:zN [] w w'):Below w.heap.size w w':=⟨k.os,k.tape,k.output,k.size,λ b hb=>k.block b hb (by simp)⟩
theorem ma.add {w:W8}{R:zP}{hv bv nv:Value}{now:List WG}{v:Value}{next:List WG}{wX W w5:W8}{x:WG}{g cap:Nat}(h:ma w R hv bv nv now v next wX)(hx:Ap wX (w.heap.size+1) x)(hW:zN [] wX W)(hg:W.grownBy w5 v.ownBlock)(aC:w5.ownsRow (w.heap.size+1) 325 3 (.slice (some ⟨g,0,none⟩) (next.length+1) cap) (next.length+1) (next.flatMap WG.cells++x.cells))(eS:v.ownBlock=some g\/g=W.heap.size):ma w R hv bv nv now (.slice (some ⟨g,0,none⟩) (next.length+1) cap) (next++[x]) w5:=by
 have hl:=h.lt;have hs:=hW.size;have hb:=h.below.size;have k5:zN v.ownBlock.toList wX w5:=(hW.mono (by simp)).trans (zN.aN hg);have kF:∀ b∈v.ownBlock.toList,w.heap.size+1<=b:=λ b hm=>(h.next.row.lt b (by simpa using hm)).1
 refine⟨zY h.below k5 hb (λ b hm=>by have:=kF b hm;omega),?_,h.next.other h.now h.ne hW hg,h.next.add hx hW hg aC,λ g' e=>?_⟩
 ·rw[k5.block _ hl (λ hm=>by have:=kF _ hm;omega)];exact h.box
 ·have e':g=g':=by simpa[Value.ownBlock] using e
  subst e';rcases eS with h1 | h1
  ·exact h.ne g h1
  ·intro h2;have:=(h.now.row.lt g h2).2;omega
variable {b:Nat}
theorem zje {g j:Nat}{u:Value}(h:¬ g=b):((w.setCell ⟨b,0,none⟩ u).setCell ⟨b,1,none⟩ v).cell? ⟨g,j,none⟩=w.cell? ⟨g,j,none⟩:=by
 rw[World.cell?_of_block (Below.heap_setCell _ ⟨b,1,none⟩ _ g (by simpa using h)),World.cell?_of_block (Below.heap_setCell _ ⟨b,0,none⟩ _ g (by simpa using h))]
structure M3 (wr:W8)(r:Option Env)(b:Nat)(eC cR:Value)(wc:W8):Prop where
 below:Below wr.heap.size wr wc
 ge:wr.heap.size<=b
 cP:wc.heap[b]?=some (.cells #[eC,cR] 258 (0,0))
 env:∀ E',r=some E'->qL wc wr.heap.size E' eC cR
variable {eC cR:Value} {r:Option Env} {W w2:W8}
theorem M3.behind (hW:Below wr.heap.size wr W)(h2:Below W.heap.size W w2)(he:∀ E',r=some E'->qL w2 W.heap.size E' eC cR):M3 wr r w2.heap.size eC cR (w2.alloc (.cells #[eC,cR] 258)):=by
 have hs:=hW.size;have Af:=h2.size;refine⟨(hW.trans (h2.mono hs)).alloc (by omega) _,by omega,heap_alloc_new w2 _,λ E' e=>?_⟩;have h:=he E' e;exact⟨zF (h.ns.alloc _) (by omega),zF (h.ts.alloc _) (by omega),h.nil⟩
theorem M3.ahead {u0 u1:Value}(hW:Below wr.heap.size wr W)(hb:wr.heap.size<=b)(hblk:W.heap[b]?=some (.cells #[u0,u1] 258 (0,0)))(h2:Below W.heap.size W w2)(he:∀ E',r=some E'->qL w2 W.heap.size E' eC cR):M3 wr r b eC cR ((w2.setCell ⟨b,0,none⟩ eC).setCell ⟨b,1,none⟩ cR):=by
 have hs:=hW.size;have Af:=h2.size;have aG:=(Array.getElem?_eq_some_iff.1 hblk).1;have h1:=(h2.block b aG).trans hblk;have II:(w2.setCell ⟨b,0,none⟩ eC).heap[b]?=some (.cells #[eC,u1] 258 (0,0)):=by rw[heap_setCell_same _ _ _ _ _ _ h1];rfl
 refine⟨((hW.trans (h2.mono hs)).setCell (by simpa using hb) _).setCell (by simpa using hb) _,hb,by rw[heap_setCell_same _ _ _ _ _ _ II];rfl,λ E' e=>?_⟩;have h:=he E' e;exact⟨zF (ownsRow_setCell_below (ownsRow_setCell_below h.ns (by simpa using aG) _) (by simpa using aG) _) (by omega),zF (ownsRow_setCell_below (ownsRow_setCell_below h.ts (by simpa using aG) _) (by simpa using aG) _) (by omega),h.nil⟩
theorem yao (w:W8)(base:Nat)(R:zP)(hv:Value)(bs:List (zL × Value))(bv:Value)(fs:List FG)(al:O8)(cl:Nat)(hC:z2l w base R hv bs bv fs (.slice al fs.length cl))(now:List WG)(an:O8)(cn k i:Nat)(hk:k<bs.length)(hi:i<now.length)(aR:now[i].e.length<=100)(LN:now[i].fr.length<=100)(T:List Way)(hT:T.length<=1000000)(v7:Value)(next:List WG)(ax:next.map (·.W)++zgn bs[k].1 now[i].W (fs.map (·.F)) 0=T)(w1:W8)(hI:ma w R hv bv (.slice an now.length cn) now v7 next w1)
  {Q:Exit->Act->W8->Prop} {c0 c3 c4 eQ gM iS fY gG eJ eY fZ eL dU dR dx dy dz dA dB dC dD dE dF dG dL dM dN dO dP dV dW dX ee eg ei eo ep ev dd ew ey ez eA dY dZ eD eE dQ eZ fa fc di fe fg fh fi fj fl fm fo fp fH fI fJ fK fL gd gh gi gj gq gu gv fM fN fq ft fu fO fP fQ fR fU fV fW fX gw gy gz gA gB gC gD cg bq br bt bu bx bz bC bU bV bW bX bD bE bG bH bI bJ bK bL bM bj bk bn bN bO bP bQ aZ aW:Value}
  (aJ:∀ (ME:Value) (next':List WG) (w2:W8) (u9 rk rl oh pK pL pM pN pO pP pQ pR pS pT pU ry rz om oq uc ud ue uf ug uh ui uj uk um u64 sE sF sG pV pW pX pY pZ ou ov ow ox oy oz oA qa qb:Value),ma w R hv bv (.slice an now.length cn) now ME next' w2->next'.map (·.W)=T->Q (.exit 4) ⟨List.toArray (c0::.slice al fs.length cl::.pointer (some ⟨w.heap.size,0,none⟩)::c3::c4::.slice an now.length cn::.int .i64 k::ME::.int .i64 i::u9::rk::rl::oh::fY::gG::eJ::eY::fZ::eL::dU::dR::dx::dy::dz::dA::dB::dC::dD::dE::dF::dG::dL::dM::dN::dO::dP::dV::dW::dX::pK::pL::pM::pN::pO::pP::pQ::pR::pS::pT::pU::ry::rz::om::oq::uc::ud::ue::uf::ug::uh::ui::uj::uk::um::u64::sE::sF::sG::pV::pW::pX::pY::pZ::ou::ov::ow::ox::oy::oz::oA::qa::qb::fq::ft::fu::fO::fP::fQ::fR::fU::fV::fW::fX::gw::gy::gz::gA::gB::gC::gD::cg::bq::br::bt::bu::bx::bz::bC::bU::bV::bW::bX::bD::bE::bG::bH::bI::bJ::bK::bL::bM::bj::bk::bn::bN::bO::bP::bQ::aZ::aW::[]),[]⟩ w2):
  Code.wp Tryz.prog (Code.loop (z2c 2)) Q ⟨List.toArray (c0::.slice al fs.length cl::.pointer (some ⟨w.heap.size,0,none⟩)::c3::c4::.slice an now.length cn::.int .i64 k::v7::.int .i64 i::.int .i64 (0:Nat)::eQ::gM::iS::fY::gG::eJ::eY::fZ::eL::dU::dR::dx::dy::dz::dA::dB::dC::dD::dE::dF::dG::dL::dM::dN::dO::dP::dV::dW::dX::ee::eg::ei::eo::ep::ev::dd::ew::ey::ez::eA::dY::dZ::eD::eE::dQ::eZ::fa::fc::di::fe::fg::fh::fi::fj::fl::fm::fo::fp::fH::fI::fJ::fK::fL::gd::gh::gi::gj::gq::gu::gv::fM::fN::fq::ft::fu::fO::fP::fQ::fR::fU::fV::fW::fX::gw::gy::gz::gA::gB::gC::gD::cg::bq::br::bt::bu::bx::bz::bC::bU::bV::bW::bX::bD::bE::bG::bH::bI::bJ::bK::bL::bM::bj::bk::bn::bN::bO::bP::bQ::aZ::aW::[]),[]⟩ w1:=by
 conv=>arg 2;arg 1;whnf
 have HC:=zC hC;have HF:=zC ax;have HI:=zC hI;have kU:=hC.gH;have HX:=zC aJ;clear aJ;clear hC ax hI
 go_loopg [7,9] fs.length (λ gg v ff wr=>∃ (f:Nat) (next':List WG),f<=fs.length/\gg=fs.length-f/\ff=.int .i64 f/\ma w R hv bv (.slice an now.length cn) now v next' wr/\next'.map (·.W)++zgn bs[k].1 now[i].W ((fs.map (·.F)).drop f) f=T)
 exact⟨0,next,Nat.zero_le _,rfl,rfl,zA HI,zA HF⟩
 case round=>
  clear HI HF;obtain⟨f,next',hf,hgf,rfl,hI,ax⟩:=hrel;obtain⟨a7,c7,rfl⟩:=zD hI.next.row;have HI:=zC hI;have HF:=zC ax;clear hI ax
  by_cases De:f<fs.length
  ·have hC:=zA HC;have hI:=zA HI;have aT:=hI.below.size;have aG:=hI.lt
   -- what is read: the xe,the literal,the fact
   obtain⟨g5,c5,Aj,-,uA,LL,zz,x0,x1,x2⟩:=zq5 hI.now.row hi;injection Aj with i1 i2 i3
   subst i1 i3;have gX:=zH hC.aX.bo hI.below (λ g e=>(hC.aX.bo.lt g e).2);obtain⟨gb,cb,oe,-,ji,nc,yh,y0,y1,y2,y3,y4⟩:=vE gX k hk;subst oe;have nP:=zH hC.facts.row hI.below (λ g e=>(hC.facts.row.lt g e).2);obtain⟨gl,WM,Ru,-,mg,ng,bh,pg⟩:=zah nP De;injection Ru with i1 i2 i3
   subst i1 i3;have z0:=pg 0 (by decide);have z1:=pg 1 (by decide);have z2:=pg 2 (by decide);have z3:=pg 3 (by decide);have z4:=pg 4 (by decide);simp only[FG.cells,List.getElem?_cons_succ,List.getElem?_cons_zero,Nat.add_zero] at z0 z1 z2 z3 z4;obtain⟨p5,-⟩:=zB hI.box 5;simp only[List.getElem?_toArray,List.getElem?_cons_zero,List.getElem?_cons_succ] at p5;have gY:=hI.now.each _ (List.getElem_mem hi);obtain⟨oV,oX,bp,fw,e1,e2⟩:=gY.env.shape;have qm:=hC.aX.bl _ (List.getElem_mem hk);obtain⟨aa,ca,e3⟩:=zD qm;have Bq:=(hC.facts.each _ (List.getElem_mem De)).t;obtain⟨ba,Bd,e4⟩:=zD Bq;have h4:bs[k].1.ae.length<=4:=hC.ae _ (by rw[hC.aX.eq];exact List.mem_map_of_mem (List.getElem_mem hk));rw[e1] at x0;rw[e2] at x1;rw[e3] at y1;rw[e4] at z1;have dH:∀ W,Below wr.heap.size wr W->Calls Tryz.prog 139 #[.agg #[.slice oV now[i].e.length oX,.slice bp now[i].e.length fw],.agg #[.string bs[k].1.pred,.slice aa bs[k].1.ae.length ca,.bool bs[k].1.no,.int .i64 bs[k].1.at_,.int .i64 bs[k].1.ak],.agg #[.string fs[f].F.ao.pred,.slice ba fs[f].F.ao.ae.length Bd,.bool fs[f].F.ao.no,.int .i64 fs[f].F.ao.at_,.int .i64 fs[f].F.ao.ak]] W (zgq W (.slice oV now[i].e.length oX) (.slice bp now[i].e.length fw) (vN now[i].e bs[k].1 fs[f].F.ao)):=λ W hW=>by
    have hB:=hI.below.trans (hW.mono aT);have q1:=gY.env.below hW;rw[e1,e2] at q1;rw[e3] at qm;rw[e4] at Bq;exact zl0 W 0 now[i].e bs[k].1 fs[f].F.ao oV bp aa ba oX fw ca Bd ⟨zF q1.ns (Nat.zero_le _),zF q1.ts (Nat.zero_le _),q1.nil⟩ (zF (zH qm hB (λ g e=>(qm.lt g e).2)) (Nat.zero_le _)) (zF (zH Bq hB (λ g e=>(Bq.lt g e).2)) (Nat.zero_le _)) (by omega)
   have aP:=(z18 (a:=bs[k].1) (x:=now[i].W) (l:=fs.map (·.F)) (k:=f) (by simpa using De));rw[List.getElem_map] at aP;have az:=zC ((congrArg (next'.map (·.W)++·) aP).symm.trans (zA HF));have aV:=zC dH;have zi:=zC gY;have F5:=zC (And.intro e1 e2);have rF:(i:Int)<now.length:=(by omega);have nC:(k:Int)<bs.length:=(by omega);have lQ:(f:Int)<fs.length:=(by omega);have b1:w.heap.size<wr.heap.size:=aG;clear hC hI gX nP pg gY qm Bq dH aP HF HC e1 e2 e3 e4 aT aG;generalize bs[k].1=A at *;generalize fs[f].F.ao=TH at *
   have HK:Hid (∀ W w':W8,Below wr.heap.size wr W->Below W.heap.size W w'->w'.cell? ⟨g5,i*3,none⟩=some (.slice oV now[i].e.length oX)/\w'.cell? ⟨g5,i*3+1,none⟩=some (.slice bp now[i].e.length fw)/\w'.cell? ⟨w.heap.size,5,none⟩=some (.slice (some ⟨gb,0,none⟩) bs.length cb)/\w'.cell? ⟨gb,k*5,none⟩=some (.string A.pred)/\w'.cell? ⟨gb,k*5+1,none⟩=some (.slice aa A.ae.length ca)/\w'.cell? ⟨gb,k*5+2,none⟩=some (.bool A.no)/\w'.cell? ⟨gb,k*5+3,none⟩=some (.int .i64 A.at_)/\w'.cell? ⟨gb,k*5+4,none⟩=some (.int .i64 A.ak)/\w'.cell? ⟨gl,f*10,none⟩=some (.string TH.pred)/\w'.cell? ⟨gl,f*10+1,none⟩=some (.slice ba TH.ae.length Bd)/\w'.cell? ⟨gl,f*10+2,none⟩=some (.bool TH.no)/\w'.cell? ⟨gl,f*10+3,none⟩=some (.int .i64 TH.at_)/\w'.cell? ⟨gl,f*10+4,none⟩=some (.int .i64 TH.ak)):=zC (λ W w' h1 h2=>by
    have hB:=h1.trans (h2.mono h1.size)
    exact⟨(hB.cell (by simpa using uA)).trans x0,(hB.cell (by simpa using uA)).trans x1,(hB.cell (by simpa using b1)).trans p5,(hB.cell (by simpa using ji)).trans y0,(hB.cell (by simpa using ji)).trans y1,(hB.cell (by simpa using ji)).trans y2,(hB.cell (by simpa using ji)).trans y3,(hB.cell (by simpa using ji)).trans y4,(hB.cell (by simpa using mg)).trans z0,(hB.cell (by simpa using mg)).trans z1,(hB.cell (by simpa using mg)).trans z2,(hB.cell (by simpa using mg)).trans z3,(hB.cell (by simpa using mg)).trans z4⟩)
   have d5:¬ g5=wr.heap.size:=(by omega);have db:¬ gb=wr.heap.size:=(by omega);have dl:¬ gl=wr.heap.size:=(by omega);have dw:¬ w.heap.size=wr.heap.size:=(by omega);go_upto_region 13 with fail
   go_cut [10,11] from 39 to 81 (λ p ok wc=>∃ b eC cR,p=.pointer (some ⟨b,0,none⟩)/\ok=.bool (vN now[i].e A TH).isSome/\M3 wr (vN now[i].e A TH) b eC cR wc)
   case first=>
    clear az zi F5 x2 HI
    cases hr:vN now[i].e A TH with
    | none=>
     rw[hr] at aV
     go_region_held3 (λ w'=>w'.cell? ⟨g5,i*3,none⟩=some (.slice oV now[i].e.length oX)/\w'.cell? ⟨g5,i*3+1,none⟩=some (.slice bp now[i].e.length fw)/\w'.cell? ⟨w.heap.size,5,none⟩=some (.slice (some ⟨gb,0,none⟩) bs.length cb)/\w'.cell? ⟨gb,k*5,none⟩=some (.string A.pred)/\w'.cell? ⟨gb,k*5+1,none⟩=some (.slice aa A.ae.length ca)/\w'.cell? ⟨gb,k*5+2,none⟩=some (.bool A.no)/\w'.cell? ⟨gb,k*5+3,none⟩=some (.int .i64 A.at_)/\w'.cell? ⟨gb,k*5+4,none⟩=some (.int .i64 A.ak)/\w'.cell? ⟨gl,f*10,none⟩=some (.string TH.pred)/\w'.cell? ⟨gl,f*10+1,none⟩=some (.slice ba TH.ae.length Bd)/\w'.cell? ⟨gl,f*10+2,none⟩=some (.bool TH.no)/\w'.cell? ⟨gl,f*10+3,none⟩=some (.int .i64 TH.at_)/\w'.cell? ⟨gl,f*10+4,none⟩=some (.int .i64 TH.ak)) (first | go_keep | (refine⟨?_,?_,?_,?_,?_,?_,?_,?_,?_,?_,?_,?_,?_⟩ <;> (refine (zje ?_).trans ?_ <;> assumption))) ((go_at_call 139;refine (zA aV _ (by first | exact B9.drew | exact (B9.alloc L9 _).drew | exact B9.drew.alloc L9 _)).mono ?_;rintro e w2 ⟨aH,uC,-⟩;obtain rfl:=uC rfl;obtain⟨m0,m1,m2,m3,m4,m5,m6,m7,m8,m9,m10,m11,m12⟩:=zA HK _ _ (by first | exact B9.drew | exact (B9.alloc L9 _).drew | exact B9.drew.alloc L9 _) aH;have nN:=λ (j:Nat) h=>aH.cell (p:=⟨wr.heap.size,j,none⟩) h;have se:=λ (j:Nat) h=>aH.frozen (p:=⟨wr.heap.size,j,none⟩) h;clear uC))
     all_goals
      go_wp2_with fail;go_meet
      case rel=>
       rw[hr]
       first | exact⟨_,_,_,rfl,rfl,M3.behind (W:=wr.drew) B9.drew aH (λ _ h=>by cases h)⟩ | exact⟨_,_,_,rfl,rfl,M3.ahead (W:=(wr.alloc (.cells #[.slice none 0 0,.slice none 0 0] 258)).drew) (B9.alloc L9 _).drew L9 (heap_alloc_new wr _) aH (λ _ h=>by cases h)⟩
    | some E'=>
     rw[hr] at aV
     go_region_held3 (λ w'=>w'.cell? ⟨g5,i*3,none⟩=some (.slice oV now[i].e.length oX)/\w'.cell? ⟨g5,i*3+1,none⟩=some (.slice bp now[i].e.length fw)/\w'.cell? ⟨w.heap.size,5,none⟩=some (.slice (some ⟨gb,0,none⟩) bs.length cb)/\w'.cell? ⟨gb,k*5,none⟩=some (.string A.pred)/\w'.cell? ⟨gb,k*5+1,none⟩=some (.slice aa A.ae.length ca)/\w'.cell? ⟨gb,k*5+2,none⟩=some (.bool A.no)/\w'.cell? ⟨gb,k*5+3,none⟩=some (.int .i64 A.at_)/\w'.cell? ⟨gb,k*5+4,none⟩=some (.int .i64 A.ak)/\w'.cell? ⟨gl,f*10,none⟩=some (.string TH.pred)/\w'.cell? ⟨gl,f*10+1,none⟩=some (.slice ba TH.ae.length Bd)/\w'.cell? ⟨gl,f*10+2,none⟩=some (.bool TH.no)/\w'.cell? ⟨gl,f*10+3,none⟩=some (.int .i64 TH.at_)/\w'.cell? ⟨gl,f*10+4,none⟩=some (.int .i64 TH.ak)) (first | go_keep | (refine⟨?_,?_,?_,?_,?_,?_,?_,?_,?_,?_,?_,?_,?_⟩ <;> (refine (zje ?_).trans ?_ <;> assumption))) ((go_at_call 139;refine (zA aV _ (by first | exact B9.drew | exact (B9.alloc L9 _).drew | exact B9.drew.alloc L9 _)).mono ?_;rintro e w2 ⟨aH,-,Af⟩;obtain⟨eC,cR,rfl,iJ⟩:=Af E' rfl;obtain⟨DQ,DU,uV,DV,rfl,rfl⟩:=iJ.shape;obtain⟨m0,m1,m2,m3,m4,m5,m6,m7,m8,m9,m10,m11,m12⟩:=zA HK _ _ (by first | exact B9.drew | exact (B9.alloc L9 _).drew | exact B9.drew.alloc L9 _) aH;have nN:=λ (j:Nat) h=>aH.cell (p:=⟨wr.heap.size,j,none⟩) h;have se:=λ (j:Nat) h=>aH.frozen (p:=⟨wr.heap.size,j,none⟩) h;have tu:=zC iJ;clear Af iJ))
     all_goals
      go_wp2_with fail;go_meet
      case rel=>
       rw[hr]
       first | exact⟨_,_,_,rfl,rfl,M3.behind (W:=wr.drew) B9.drew aH (λ _ h=>by cases h;exact zA tu)⟩ | exact⟨_,_,_,rfl,rfl,M3.ahead (W:=(wr.alloc (.cells #[.slice none 0 0,.slice none 0 0] 258)).drew) (B9.alloc L9 _).drew L9 (heap_alloc_new wr _) aH (λ _ h=>by cases h;exact zA tu)⟩
   case rest=>
    generalize wc=wA at *;obtain⟨b,eC,cR,rfl,rfl,hM⟩:=hcut;have dj:=(zA HI).dm hM.below;have o8:=hM.below;have ux:=o8.size;have iR:=zC dj
    cases hr:vN now[i].e A TH with
    | none=>
     have aQ:=zC (show next'.map (·.W)++zgn A now[i].W ((fs.map (·.F)).drop (f+1)) (f+1)=T by
      have:=zA az;rw[show now[i].W.1=now[i].e from rfl,hr] at this
      simpa using this)
     clear az hM HI aV HK x0 x1 x2 y0 y1 y2 y3 y4 z0 z1 z2 z3 z4 p5 dj zi F5 hr o8;go_wp2_with fail;go_roundg (fs.length-(f+1));exact⟨f+1,next',by omega,rfl,by go_num,zA iR,zA aQ⟩;omega
    | some E'=>
     have iJ:=hM.env E' hr;obtain⟨DQ,DU,uV,DV,rfl,rfl⟩:=iJ.shape
     have aQ:=zC (show (next'.map (·.W)++[(E',now[i].fr++[f])])++zgn A now[i].W ((fs.map (·.F)).drop (f+1)) (f+1)=T by
      have:=zA az;rw[show now[i].W.1=now[i].e from rfl,hr] at this
      simpa[WG.W] using this)
     have Qt:next'.length+1<=1000000:=by
      have:=congrArg List.length (zA aQ);simp only[List.length_append,List.length_map,List.length_singleton] at this;omega
     have Ng:E'.length<=200:=(by have:=zh1 hr;omega);have hblk:=hM.cP;have Ix:=zC iJ;have tr:=zC hblk;have vc:=(Array.getElem?_eq_some_iff.1 hblk).1;have zu:=hM.ge;have w2:wA.cell? ⟨g5,i*3+2,none⟩=some now[i].fv:=(o8.cell (by simpa using uA)).trans x2;have yc:=zH (zA zi).fr o8 (λ g e=>((zA zi).fr.lt g e).2);obtain⟨af,cf,Qa⟩:=zD yc;rw[Qa] at w2 yc;have Ff:now[i].fr=[]->af=none/\cf=0:=λ e=>by
      have:=(zA zi).nil e;rw[Qa] at this;injection this with q1 q2 q3
      exact⟨q1,q3⟩
     have yz:=zC Ff;have uN:=zC yc;obtain⟨i0,tI,cQ,cz,cx⟩:=info_parts zj3;clear az hM HI aV HK x0 x1 x2 y0 y1 y2 y3 y4 z0 z1 z2 z3 z4 p5 dj zi F5 hr o8 iJ hblk yc Ff Qa;generalize now[i].fr=NF at *;go_upto_region 16 with fail
     go_cut [12] from 39 to 81 (λ v wd=>wd.ownsRow wA.heap.size 3 1 v NF.length (zng NF)/\Below wA.heap.size wA wd)
     case first=>
      by_cases hE:NF=[]
      ·obtain⟨rfl,rfl⟩:=zA yz hE;rw[hE] at uN w2;have VB:=zC hE;clear hE;go_wp2_with fail;go_meet
       case rel=>exact⟨by rw[zA VB];exact World.ownsRow_nil _ _ _ _,Below.refl _ _⟩
      ·have aI:0<NF.length:=List.length_pos_iff.2 hE;obtain⟨g1,M9,lB,-,-,-,-⟩:=zar (zA uN) aI;injection lB with i1 i2 i3
       subst i1 i3;have dJ:=zC (zn3 (zA uN));go_wp2_with (at_builtin;go_must (refine wpList_append_lies _ rfl _ _ _ rfl wA.heap.size 3 i0 (.int .i64 0) 1 8 Tryz.underlying24 tI cQ cz cx rfl (by decide) (.slice none 0 0) 0 [] rfl (World.ownsRow_nil _ _ _ _) ⟨g1,0,none⟩ NF.length cf (zng NF) rfl (by simp[zng]) (zA dJ) z3u aI (by unfold maxLen;omega) (by omega) L9 _ rfl ?_;intro g cap w5 aj aU cN hlt5));go_meet
       case rel=>exact⟨by simpa using aj,zvx (zN.aN aU)⟩
     case rest=>
      generalize wc=wd at *;obtain⟨aB,PD⟩:=hcut;obtain⟨S3,S9,rfl⟩:=zD aB;have NL:=PD.size;have HR:=zC (aB.alloc (.cells #[.int .i64 f] 3));have ij:=zC (zg5 (wd.alloc (.cells #[.int .i64 f] 3)) wd.heap.size (.int .i64 f) 3 (heap_alloc_new wd _));have lf:=zC (λ (w5:W8) (hg:(wd.alloc (.cells #[.int .i64 f] 3)).grownBy w5 (Value.slice S3 NF.length S9).ownBlock)=>zY (PD.alloc NL (.cells #[.int .i64 f] 3)) (zN.aN hg) (by simp;omega) (λ x hx=>(aB.lt x (by simpa using hx)).1));clear aB PD uN yz w2;go_upto_region 17 with fail
      go_cut [12] from 39 to 81 (λ v we=>we.ownsRow wA.heap.size 3 1 v (NF.length+1) (zng (NF++[f]))/\Below wA.heap.size wA we)
      case first=>
       go_wp2_with (at_builtin;go_must (refine wpList_append_lies _ rfl _ _ _ rfl wA.heap.size 3 i0 (.int .i64 0) 1 8 Tryz.underlying24 tI cQ cz cx rfl (by decide) (.slice S3 NF.length S9) NF.length (zng NF) rfl (zA HR) ⟨wd.heap.size,0,none⟩ 1 1 [.int .i64 f] rfl rfl (zA ij) (by simp[Value.oneCell']) (by decide) (by unfold maxLen;omega) (by omega) (by simp;omega) _ rfl ?_;intro g cap w5 aj aU cN hlt5));go_meet
       case rel=>exact⟨by rw[Zp];exact aj,zA lf w5 aU⟩
      case rest=>
       clear HR ij lf;generalize wc=we at *;obtain⟨aB,Kt⟩:=hcut;obtain⟨IG,IH,rfl⟩:=zD aB;have hse:=Kt.size;have iV:=(zA iR).dm Kt;have Dd:=(zA Ix).below Kt;have hblk:=(Kt.block b vc).trans (zA tr);obtain⟨r0,Zd⟩:=zB hblk 0;obtain⟨r1,Jd⟩:=zB hblk 1;have yn:Ap we (w.heap.size+1) ⟨E',NF++[f],.slice DQ E'.length DU,.slice uV E'.length DV,.slice IG (NF.length+1) IH⟩:=⟨⟨zF Dd.ns (by omega),zF Dd.ts (by omega),Dd.nil⟩,by rw[List.length_append];exact zF aB (by omega),λ e=>by simp at e⟩;obtain⟨iw,Qj,dK,nj,lL⟩:=info_parts zzj;have HR:=zC (iV.next.row.alloc (.cells #[.slice DQ E'.length DU,.slice uV E'.length DV,.slice IG (NF.length+1) IH] 325));have ij:=zC (World.news_of_block (heap_alloc_new we (.cells #[.slice DQ E'.length DU,.slice uV E'.length DV,.slice IG (NF.length+1) IH] 325)));have iI:=zC (λ (w5:W8) (g cap:Nat) hg aC eS=>ma.add (w5:=w5) (g:=g) (cap:=cap) (W:=we.alloc (.cells #[.slice DQ E'.length DU,.slice uV E'.length DV,.slice IG (NF.length+1) IH] 325)) iV yn ((zN.refl [] _).alloc _) hg aC eS);have nR:=iV.lt;clear aB Kt iV Dd hblk yn Zd Jd iR Ix tr;go_wp2_with (at_builtin;go_must (refine wpList_append_lies _ rfl _ _ _ rfl (w.heap.size+1) 325 iw (.agg #[.slice none 0 0,.slice none 0 0,.slice none 0 0]) 3 72 Tryz.underlying322 Qj dK nj lL rfl (by decide) (.slice a7 next'.length c7) next'.length _ rfl (zA HR) ⟨we.heap.size,0,none⟩ 1 1 [.slice DQ E'.length DU,.slice uV E'.length DV,.slice IG (NF.length+1) IH] rfl rfl (zA ij) (by simp[Value.oneCell']) (by decide) (by unfold maxLen;omega) (by omega) (by simp;omega) _ rfl ?_;intro g cap w5 aj aU cN hlt5));have J5:=zC (zA iI w5 g cap aU aj cN);go_roundg (fs.length-(f+1));exact⟨f+1,next'++[⟨E',NF++[f],.slice DQ E'.length DU,.slice uV E'.length DV,.slice IG (NF.length+1) IH⟩],by omega,rfl,by go_num,zA J5,by rw[List.map_append];exact zA aQ⟩;omega
  ·have HE:=zC (show next'.map (·.W)=T by rw[<-zA HF,List.drop_of_length_le (by simp;omega)];simp[zgn]);clear HF;go_wp2_with fail;exact zA HX _ _ _ _ _ _ _ _ _ _ _ _ _ _ _ _ _ _ _ _ _ _ _ _ _ _ _ _ _ _ _ _ _ _ _ _ _ _ _ _ _ _ _ _ _ _ _ _ _ _ (zA HI) (zA HE)
end
section
open Go.RowKit
def zaw (l:List zQ):List zL->List Nat->Env->Option Env
 | [],_,e=>some e
 | a::r,fr,e=>if a.no then zaw l r fr e else match fr with
  | []=>none
  | x::q=>match l[x]? with
   | none=>none
   | some f=>match vN e a f.ao with
    | none=>none
    | some e'=>zaw l r q e'
theorem zda (l:List zQ)(a:zL)(r:List zL)(fr:List Nat)(e:Env):zaw l (a::r) fr e=if a.no then zaw l r fr e else match fr with | []=>none | x::q=>match l[x]? with | none=>none | some f=>match vN e a f.ao with | none=>none | some e'=>zaw l r q e':=by cases fr <;> rfl
variable {fr:List Nat}
theorem z7h {m:Nat}(h:m<fr.length):(zng fr)[m]?=some (.int .i64 (fr[m]:Nat)):=by unfold zng;rw[List.getElem?_map,List.getElem?_eq_getElem h];rfl
variable {k:Nat} {b:List zL} {l:List zQ}
theorem z4b (h:k<b.length)(hn:b[k].no=true)(fr:List Nat)(e:Env):zaw l (b.drop k) fr e=zaw l (b.drop (k+1)) fr e:=by
 rw[List.drop_eq_getElem_cons h,zda,if_pos hn]
variable {n:Nat}
theorem z0e (h:k<b.length)(hn:b[k].no=false)(hf:n<fr.length)(hx:l.length<=fr[n])(e:Env):zaw l (b.drop k) (fr.drop n) e=none:=by
 rw[List.drop_eq_getElem_cons h,List.drop_eq_getElem_cons hf,zda,if_neg (by rw[hn];simp)];simp only;rw[List.getElem?_eq_none hx]
theorem z4a (h:k<b.length)(hn:b[k].no=false)(hf:n<fr.length)(hx:fr[n]<l.length)(e:Env):zaw l (b.drop k) (fr.drop n) e=match vN e b[k] l[fr[n]].ao with | none=>none | some e'=>zaw l (b.drop (k+1)) (fr.drop (n+1)) e':=by
 rw[List.drop_eq_getElem_cons h,List.drop_eq_getElem_cons hf,zda,if_neg (by rw[hn];simp)];simp only;rw[List.getElem?_eq_getElem hx]
structure xq (w:W8)(R:zP)(hv bv:Value)(E:Env)(nv tv:Value)(wr:W8):Prop where
 below:Below w.heap.size w wr
 box:wr.heap[w.heap.size]?=some (.cells #[.string R.head.pred,hv,.bool R.head.no,.int .i64 R.head.at_,.int .i64 R.head.ak,bv] 246 (0,0))
 res:wr.heap[w.heap.size+1]?=some (.cells #[.slice none 0 0,.slice none 0 0] 258 (0,0))
 cur:wr.heap[w.heap.size+1+1]?=some (.cells #[nv,tv] 258 (0,0))
 env:qL wr (w.heap.size+1+1+1) E nv tv
variable {wr w:W8} {nv tv hv bv:Value} {E:Env} {R:zP}
theorem xq.lt (h:xq w R hv bv E nv tv wr):w.heap.size+1+1<wr.heap.size:=(Array.getElem?_eq_some_iff.1 h.cur).1
theorem xq.dm {w':W8}(h:xq w R hv bv E nv tv wr)(k:Below wr.heap.size wr w'):xq w R hv bv E nv tv w':=
 have l:=h.lt
 ⟨h.below.trans (k.mono h.below.size),(k.block _ (by omega)).trans h.box,(k.block _ (by omega)).trans h.res,(k.block _ l).trans h.cur,h.env.below k⟩
theorem xq.start (w:W8)(R:zP)(hv bv:Value):xq w R hv bv [] (.slice none 0 0) (.slice none 0 0) (((w.alloc (.cells #[.string R.head.pred,hv,.bool R.head.no,.int .i64 R.head.at_,.int .i64 R.head.ak,bv] 246)).alloc (.cells #[.slice none 0 0,.slice none 0 0] 258)).alloc (.cells #[.slice none 0 0,.slice none 0 0] 258)):=by
 refine⟨(((Below.refl _ w).alloc L9 _).alloc (by simp) _).alloc (by simp;omega) _,?_,?_,?_,⟨World.ownsRow_nil _ _ _ _,World.ownsRow_nil _ _ _ _,λ _=>⟨rfl,rfl⟩⟩⟩
 ·rw[Below.heap_alloc _ _ _ (by simp;omega),Below.heap_alloc _ _ _ (by simp)];exact heap_alloc_new w _
 ·rw[Below.heap_alloc _ _ _ (by simp)];have:=heap_alloc_new (w.alloc (.cells #[.string R.head.pred,hv,.bool R.head.no,.int .i64 R.head.at_,.int .i64 R.head.ak,bv] 246)) (.cells #[.slice none 0 0,.slice none 0 0] 258);rw[World.size_alloc] at this;exact this
 ·have:=heap_alloc_new ((w.alloc (.cells #[.string R.head.pred,hv,.bool R.head.no,.int .i64 R.head.at_,.int .i64 R.head.ak,bv] 246)).alloc (.cells #[.slice none 0 0,.slice none 0 0] 258)) (.cells #[.slice none 0 0,.slice none 0 0] 258);rw[World.size_alloc,World.size_alloc] at this;exact this
theorem xq.set {E':Env}{eC cR:Value}{wc:W8}{b:Nat}(h:xq w R hv bv E nv tv wr)(m:M3 wr (some E') b eC cR wc):xq w R hv bv E' eC cR ((wc.setCell ⟨w.heap.size+1+1,0,none⟩ eC).setCell ⟨w.heap.size+1+1,1,none⟩ cR):=by
 have hp:=h.dm m.below;have l:=h.lt;have oO:(wc.setCell ⟨w.heap.size+1+1,0,none⟩ eC).heap[w.heap.size+1+1]?=some (.cells #[eC,tv] 258 (0,0)):=by rw[heap_setCell_same _ _ _ _ _ _ hp.cur];rfl
 have he:=m.env E' rfl;refine⟨(hp.below.setCell (by show w.heap.size<=w.heap.size+1+1;omega) _).setCell (by show w.heap.size<=w.heap.size+1+1;omega) _,?_,?_,by rw[heap_setCell_same _ _ _ _ _ _ oO];rfl,?_⟩
 ·rw[Below.heap_setCell _ _ _ _ (by show w.heap.size≠w.heap.size+1+1;omega),Below.heap_setCell _ _ _ _ (by show w.heap.size≠w.heap.size+1+1;omega)];exact hp.box
 ·rw[Below.heap_setCell _ _ _ _ (by show w.heap.size+1≠w.heap.size+1+1;omega),Below.heap_setCell _ _ _ _ (by show w.heap.size+1≠w.heap.size+1+1;omega)];exact hp.res
 ·exact⟨zF (ownsRow_setCell_below (ownsRow_setCell_below he.ns (by simpa using l) _) (by simpa using l) _) (by omega),zF (ownsRow_setCell_below (ownsRow_setCell_below he.ts (by simpa using l) _) (by simpa using l) _) (by omega),he.nil⟩
theorem zgy {w1:W8}{u0 u1:Value}(h0:w1.cell? ⟨n,0,none⟩=some u0)(h1:w1.cell? ⟨n,1,none⟩=some u1)(v0 v1:Value):((w1.setCell ⟨n,0,none⟩ v0).setCell ⟨n,1,none⟩ v1).cell? ⟨n,0,none⟩=some v0/\((w1.setCell ⟨n,0,none⟩ v0).setCell ⟨n,1,none⟩ v1).cell? ⟨n,1,none⟩=some v1:=
 ⟨by rw[yC (by omega)];exact jR h0,jR (by rw[yC (by omega)];exact h1)⟩
theorem xq.EA (h:xq w R hv bv E nv tv wr):qL ((wr.setCell ⟨w.heap.size+1,0,none⟩ nv).setCell ⟨w.heap.size+1,1,none⟩ tv) w.heap.size E nv tv:=
 ⟨zF (ownsRow_setCell_below (ownsRow_setCell_below h.env.ns (by show w.heap.size+1<_;omega) _) (by show w.heap.size+1<_;omega) _) (by omega),zF (ownsRow_setCell_below (ownsRow_setCell_below h.env.ts (by show w.heap.size+1<_;omega) _) (by show w.heap.size+1<_;omega) _) (by omega),h.env.nil⟩
inductive Io (w w':W8):Option Env->Ending->Prop
 | yes {E:Env} {an at_:O8} {cn ct:Nat}:qL w' w.heap.size E (.slice an E.length cn) (.slice at_ E.length ct)->Io w w' (some E) (.returned (.tuple #[.agg #[.slice an E.length cn,.slice at_ E.length ct],.bool true]))
 | no {an at_:O8} {n cn m ct:Nat}:Io w w' none (.returned (.tuple #[.agg #[.slice an n cn,.slice at_ m ct],.bool false]))
theorem z4c (w:W8)(base:Nat)(R:zP)(hv:Value)(bs:List (zL × Value))(bv:Value)(fs:List FG)(al:O8)(cl:Nat)(hC:z2l w base R hv bs bv fs (.slice al fs.length cl))(fr:List Nat)(af:O8)(cf:Nat)(nP:w.ownsRow base 3 1 (.slice af fr.length cf) fr.length (zng fr))(lG:fr.length=zcd R.body):
  Calls Tryz.prog 229 #[jU R.head hv bv,.slice af fr.length cf,.slice al fs.length cl] w λ e w'=>Io w w' (zaw (fs.map (·.F)) R.body fr []) e/\Below w.heap.size w w':=by
 have HC:=zC hC;have kU:=hC.gH;have eG:=hC.body;obtain⟨ab,cb,rfl⟩:=zD hC.aX.bo;obtain⟨ah,ch,rfl⟩:=zD hC.aX.hd;have H0:=zC (xq.start w R (.slice ah R.head.ae.length ch) (.slice ab bs.length cb));have uN:=zC nP;have xi:=zC lG;clear hC nP lG;unfold jU;go_enter Tryz.func229,Tryz.ntmps229;go_wp2_with fail;generalize (((w.alloc (.cells #[.string R.head.pred,.slice ah R.head.ae.length ch,.bool R.head.no,.int .i64 R.head.at_,.int .i64 R.head.ak,.slice ab bs.length cb] 246)).alloc (.cells #[.slice none 0 0,.slice none 0 0] 258)).alloc (.cells #[.slice none 0 0,.slice none 0 0] 258))=w0 at *;have heq:=(zA HC).aX.eq;have eK:R.body.length=bs.length:=by rw[heq,List.length_map]
 have A6:=zC heq;have Oj:=zC eK;clear heq eK
 go_loopg [9,10] bs.length (λ gg n i wr=>∃ (k m:Nat) (E:Env) (nv tv:Value),k<=bs.length/\gg=bs.length-k/\m=zcd (R.body.take k)/\n=.int .i64 m/\i=.int .i64 k/\xq w R (.slice ah R.head.ae.length ch) (.slice ab bs.length cb) E nv tv wr/\E.length<=4*k/\zaw (fs.map (·.F)) R.body fr []=zaw (fs.map (·.F)) (R.body.drop k) (fr.drop m) E)
 exact⟨0,0,[],_,_,Nat.zero_le _,rfl,rfl,rfl,rfl,zA H0,by simp,rfl⟩
 case round=>
  clear H0;obtain⟨k,m,E,nv,tv,hk,iZ,hm,rfl,rfl,hI,PF,ax⟩:=hrel;obtain⟨an,cn,fG,ct,rfl,rfl⟩:=hI.env.shape;have aG:=hI.lt;obtain⟨x5,-⟩:=zB hI.box 5;obtain⟨u0,v0⟩:=zB hI.cur 0;obtain⟨u1,v1⟩:=zB hI.cur 1;obtain⟨r0,q0⟩:=zB hI.res 0;obtain⟨r1,q1⟩:=zB hI.res 1;simp only[List.getElem?_toArray,List.getElem?_cons_zero,List.getElem?_cons_succ] at x5 u0 u1 r0 r1;have HI:=zC hI;have cV:=zC ax;have HM:=zC hm;clear ax hm
  by_cases aE:k<bs.length
  ·have Ec:k<R.body.length:=(by rw[zA Oj];exact aE);have gX:=zH (zA HC).aX.bo hI.below (λ g e=>((zA HC).aX.bo.lt g e).2);obtain⟨gb,WK,oe,-,ji,nc,yh,y0,y1,y2,y3,y4⟩:=vE gX k aE;injection oe with i1 i2 i3
   subst i1 i3;have sd:R.body[k]=bs[k].1:=(by simp only[zA A6,List.getElem_map]);have aP:zcd (R.body.take (k+1))=m+if bs[k].1.no then 0 else 1:=(by rw[zp8 Ec,<-zA HM,sd]);have nC:(k:Int)<bs.length:=by omega
   cases aR:bs[k].1.no with
   | true=>
    rw[aR] at y2;have HN:=zC (show zaw (fs.map (·.F)) R.body fr []=zaw (fs.map (·.F)) (R.body.drop (k+1)) (fr.drop m) E by rw[zA cV,z4b Ec (by rw[sd];exact aR)]);have eN:=zC (show m=zcd (R.body.take (k+1)) by rw[aP,aR];rfl);clear aR aP sd gX hI cV HM;go_wp2_with fail;go_roundg (bs.length-(k+1));exact⟨k+1,m,E,_,_,by omega,rfl,zA eN,rfl,by go_num,zA HI,by omega,zA HN⟩;omega
   | false=>
    rw[aR] at y2;have Ny:m<fr.length:=by
     have h1:zcd (R.body.take (k+1))<=zcd R.body:=by
      unfold zcd;exact ((List.take_sublist _ _).filter _).length_le
     rw[zA xi];rw[aP,aR] at h1;simp at h1;omega
    have Hf:=zH (zA uN) hI.below (λ g e=>((zA uN).lt g e).2);obtain⟨gf,Ps,Dh,-,LN,Xq,pf⟩:=zar Hf (by omega);injection Dh with i1 i2 i3
    subst i1 i3;have BH:gf<wr.heap.size:=(Hf.lt gf rfl).2;have xc:wr.cell? ⟨gf,m,none⟩=some (.int .i64 (fr[m]:Nat)):=(by rw[pf m Ny,z7h Ny]);have X8:(m:Int)<fr.length:=(by omega);have kP:m<3:=(by have:=zA xi;have:=zsa R.body;have:=zA Oj;omega);have Ag:m+1=zcd (R.body.take (k+1)):=(by rw[aP,aR];rfl);have eN:=zC Ag
    by_cases nU:fr[m]<fs.length
    ·have Fb:=zH (zA HC).facts.row hI.below (λ g e=>((zA HC).facts.row.lt g e).2);obtain⟨gl,WM,Ru,-,mg,ng,bh,pg⟩:=zah Fb nU;injection Ru with i1 i2 i3
     subst i1 i3;have z0:=pg 0 (by decide);have z1:=pg 1 (by decide);have z2:=pg 2 (by decide);have z3:=pg 3 (by decide);have z4:=pg 4 (by decide);simp only[FG.cells,List.getElem?_cons_succ,List.getElem?_cons_zero,Nat.add_zero] at z0 z1 z2 z3 z4;have qm:=(zA HC).aX.bl _ (List.getElem_mem aE);obtain⟨aa,ca,e3⟩:=zD qm;have Bq:=((zA HC).facts.each _ (List.getElem_mem nU)).t;obtain⟨ba,Bd,e4⟩:=zD Bq;have h4:bs[k].1.ae.length<=4:=(zA HC).ae _ (by rw[zA A6];exact List.mem_map_of_mem (List.getElem_mem aE));rw[e3] at y1;rw[e4] at z1;have aT:=hI.below.size;have dH:∀ W,Below wr.heap.size wr W->Calls Tryz.prog 139 #[.agg #[.slice an E.length cn,.slice fG E.length ct],.agg #[.string bs[k].1.pred,.slice aa bs[k].1.ae.length ca,.bool false,.int .i64 bs[k].1.at_,.int .i64 bs[k].1.ak],.agg #[.string fs[fr[m]].F.ao.pred,.slice ba fs[fr[m]].F.ao.ae.length Bd,.bool fs[fr[m]].F.ao.no,.int .i64 fs[fr[m]].F.ao.at_,.int .i64 fs[fr[m]].F.ao.ak]] W (zgq W (.slice an E.length cn) (.slice fG E.length ct) (vN E bs[k].1 fs[fr[m]].F.ao)):=λ W hW=>by
      have hB:=hI.below.trans (hW.mono aT);have q1:=hI.env.below hW;rw[e3] at qm;rw[e4] at Bq;rw[<-aR];exact zl0 W 0 E bs[k].1 fs[fr[m]].F.ao an fG aa ba cn ct ca Bd ⟨zF q1.ns (Nat.zero_le _),zF q1.ts (Nat.zero_le _),q1.nil⟩ (zF (zH qm hB (λ g e=>(qm.lt g e).2)) (Nat.zero_le _)) (zF (zH Bq hB (λ g e=>(Bq.lt g e).2)) (Nat.zero_le _)) (by omega)
     have Hj:=z4a (l:=fs.map (·.F)) (b:=R.body) Ec (by rw[sd];exact aR) Ny (by simpa using nU) E;rw[sd,List.getElem_map] at Hj;have az:=zC ((zA cV).trans Hj);have aV:=zC dH;have Oa:=zC h4;have Mj:(fr[m]:Int)<fs.length:=(by omega);clear hI gX Hf pg pf Fb qm Bq dH aP Ag Hj cV HM e3 e4 aT aR sd h4;generalize bs[k].1=A at *;generalize fs[fr[m]].F.ao=TH at *;generalize fr[m]=x at *
     have HK:Hid (∀ W w':W8,Below wr.heap.size wr W->Below W.heap.size W w'->w'.cell? ⟨w.heap.size+1+1,0,none⟩=some (.slice an E.length cn)/\w'.cell? ⟨w.heap.size+1+1,1,none⟩=some (.slice fG E.length ct)/\w'.cell? ⟨w.heap.size,5,none⟩=some (.slice (some ⟨gb,0,none⟩) bs.length cb)/\w'.cell? ⟨gb,k*5,none⟩=some (.string A.pred)/\w'.cell? ⟨gb,k*5+1,none⟩=some (.slice aa A.ae.length ca)/\w'.cell? ⟨gb,k*5+2,none⟩=some (.bool false)/\w'.cell? ⟨gb,k*5+3,none⟩=some (.int .i64 A.at_)/\w'.cell? ⟨gb,k*5+4,none⟩=some (.int .i64 A.ak)/\w'.cell? ⟨gf,m,none⟩=some (.int .i64 (x:Nat))/\w'.cell? ⟨gl,x*10,none⟩=some (.string TH.pred)/\w'.cell? ⟨gl,x*10+1,none⟩=some (.slice ba TH.ae.length Bd)/\w'.cell? ⟨gl,x*10+2,none⟩=some (.bool TH.no)/\w'.cell? ⟨gl,x*10+3,none⟩=some (.int .i64 TH.at_)/\w'.cell? ⟨gl,x*10+4,none⟩=some (.int .i64 TH.ak)):=zC (λ W w' h1 h2=>by
      have hB:=h1.trans (h2.mono h1.size)
      exact⟨(hB.cell (by simpa using aG)).trans u0,(hB.cell (by simpa using aG)).trans u1,(hB.cell (by show w.heap.size<_;omega)).trans x5,(hB.cell (by simpa using ji)).trans y0,(hB.cell (by simpa using ji)).trans y1,(hB.cell (by simpa using ji)).trans y2,(hB.cell (by simpa using ji)).trans y3,(hB.cell (by simpa using ji)).trans y4,(hB.cell (by simpa using BH)).trans xc,(hB.cell (by simpa using mg)).trans z0,(hB.cell (by simpa using mg)).trans z1,(hB.cell (by simpa using mg)).trans z2,(hB.cell (by simpa using mg)).trans z3,(hB.cell (by simpa using mg)).trans z4⟩)
     have d5:¬ w.heap.size+1+1=wr.heap.size:=(by omega);have db:¬ gb=wr.heap.size:=(by omega);have dl:¬ gl=wr.heap.size:=(by omega);have df:¬ gf=wr.heap.size:=(by omega);have dw:¬ w.heap.size=wr.heap.size:=(by omega);go_upto_region 9 with fail
     go_cut [11,12] from 14 to 58 (λ p ok wc=>∃ b eC cR,p=.pointer (some ⟨b,0,none⟩)/\ok=.bool (vN E A TH).isSome/\M3 wr (vN E A TH) b eC cR wc)
     case first=>
      clear az HI
      cases hr:vN E A TH with
      | none=>
       rw[hr] at aV
       go_region_held3 (λ w'=>w'.cell? ⟨w.heap.size+1+1,0,none⟩=some (.slice an E.length cn)/\w'.cell? ⟨w.heap.size+1+1,1,none⟩=some (.slice fG E.length ct)/\w'.cell? ⟨w.heap.size,5,none⟩=some (.slice (some ⟨gb,0,none⟩) bs.length cb)/\w'.cell? ⟨gb,k*5,none⟩=some (.string A.pred)/\w'.cell? ⟨gb,k*5+1,none⟩=some (.slice aa A.ae.length ca)/\w'.cell? ⟨gb,k*5+2,none⟩=some (.bool false)/\w'.cell? ⟨gb,k*5+3,none⟩=some (.int .i64 A.at_)/\w'.cell? ⟨gb,k*5+4,none⟩=some (.int .i64 A.ak)/\w'.cell? ⟨gf,m,none⟩=some (.int .i64 (x:Nat))/\w'.cell? ⟨gl,x*10,none⟩=some (.string TH.pred)/\w'.cell? ⟨gl,x*10+1,none⟩=some (.slice ba TH.ae.length Bd)/\w'.cell? ⟨gl,x*10+2,none⟩=some (.bool TH.no)/\w'.cell? ⟨gl,x*10+3,none⟩=some (.int .i64 TH.at_)/\w'.cell? ⟨gl,x*10+4,none⟩=some (.int .i64 TH.ak)) (first | go_keep | (refine⟨?_,?_,?_,?_,?_,?_,?_,?_,?_,?_,?_,?_,?_,?_⟩ <;> (refine (zje ?_).trans ?_ <;> assumption))) ((go_at_call 139;refine (zA aV _ (by first | exact B9.drew | exact (B9.alloc L9 _).drew | exact B9.drew.alloc L9 _)).mono ?_;rintro e w2 ⟨aH,uC,-⟩;obtain rfl:=uC rfl;obtain⟨m0,m1,m2,m3,m4,m5,m6,m7,m8,m9,m10,m11,m12,m13⟩:=zA HK _ _ (by first | exact B9.drew | exact (B9.alloc L9 _).drew | exact B9.drew.alloc L9 _) aH;have nN:=λ (j:Nat) h=>aH.cell (p:=⟨wr.heap.size,j,none⟩) h;have se:=λ (j:Nat) h=>aH.frozen (p:=⟨wr.heap.size,j,none⟩) h;clear uC))
       all_goals
        go_wp2_with fail;go_meet
        case rel=>
         rw[hr]
         first | exact⟨_,_,_,rfl,rfl,M3.behind (W:=wr.drew) B9.drew aH (λ _ h=>by cases h)⟩ | exact⟨_,_,_,rfl,rfl,M3.ahead (W:=(wr.alloc (.cells #[.slice none 0 0,.slice none 0 0] 258)).drew) (B9.alloc L9 _).drew L9 (heap_alloc_new wr _) aH (λ _ h=>by cases h)⟩
      | some E'=>
       rw[hr] at aV
       go_region_held3 (λ w'=>w'.cell? ⟨w.heap.size+1+1,0,none⟩=some (.slice an E.length cn)/\w'.cell? ⟨w.heap.size+1+1,1,none⟩=some (.slice fG E.length ct)/\w'.cell? ⟨w.heap.size,5,none⟩=some (.slice (some ⟨gb,0,none⟩) bs.length cb)/\w'.cell? ⟨gb,k*5,none⟩=some (.string A.pred)/\w'.cell? ⟨gb,k*5+1,none⟩=some (.slice aa A.ae.length ca)/\w'.cell? ⟨gb,k*5+2,none⟩=some (.bool false)/\w'.cell? ⟨gb,k*5+3,none⟩=some (.int .i64 A.at_)/\w'.cell? ⟨gb,k*5+4,none⟩=some (.int .i64 A.ak)/\w'.cell? ⟨gf,m,none⟩=some (.int .i64 (x:Nat))/\w'.cell? ⟨gl,x*10,none⟩=some (.string TH.pred)/\w'.cell? ⟨gl,x*10+1,none⟩=some (.slice ba TH.ae.length Bd)/\w'.cell? ⟨gl,x*10+2,none⟩=some (.bool TH.no)/\w'.cell? ⟨gl,x*10+3,none⟩=some (.int .i64 TH.at_)/\w'.cell? ⟨gl,x*10+4,none⟩=some (.int .i64 TH.ak)) (first | go_keep | (refine⟨?_,?_,?_,?_,?_,?_,?_,?_,?_,?_,?_,?_,?_,?_⟩ <;> (refine (zje ?_).trans ?_ <;> assumption))) ((go_at_call 139;refine (zA aV _ (by first | exact B9.drew | exact (B9.alloc L9 _).drew | exact B9.drew.alloc L9 _)).mono ?_;rintro e w2 ⟨aH,-,Af⟩;obtain⟨eC,cR,rfl,iJ⟩:=Af E' rfl;obtain⟨DQ,DU,uV,DV,rfl,rfl⟩:=iJ.shape;obtain⟨m0,m1,m2,m3,m4,m5,m6,m7,m8,m9,m10,m11,m12,m13⟩:=zA HK _ _ (by first | exact B9.drew | exact (B9.alloc L9 _).drew | exact B9.drew.alloc L9 _) aH;have nN:=λ (j:Nat) h=>aH.cell (p:=⟨wr.heap.size,j,none⟩) h;have se:=λ (j:Nat) h=>aH.frozen (p:=⟨wr.heap.size,j,none⟩) h;have tu:=zC iJ;clear Af iJ))
       all_goals
        go_wp2_with fail;go_meet
        case rel=>
         rw[hr]
         first | exact⟨_,_,_,rfl,rfl,M3.behind (W:=wr.drew) B9.drew aH (λ _ h=>by cases h;exact zA tu)⟩ | exact⟨_,_,_,rfl,rfl,M3.ahead (W:=(wr.alloc (.cells #[.slice none 0 0,.slice none 0 0] 258)).drew) (B9.alloc L9 _).drew L9 (heap_alloc_new wr _) aH (λ _ h=>by cases h;exact zA tu)⟩
     case rest=>
      generalize wc=wA at *;obtain⟨b,eC,cR,rfl,rfl,hM⟩:=hcut;have hP:=(zA HI).dm hM.below;have hlA:=hP.lt;obtain⟨u0,v0⟩:=zB hP.cur 0;obtain⟨u1,v1⟩:=zB hP.cur 1;obtain⟨r0,q0⟩:=zB hP.res 0;obtain⟨r1,q1⟩:=zB hP.res 1;simp only[List.getElem?_toArray,List.getElem?_cons_zero,List.getElem?_cons_succ] at u0 u1 r0 r1
      cases hr:vN E A TH with
      | none=>
       have HN:=zC (show zaw (fs.map (·.F)) R.body fr []=none by rw[zA az,hr]);have HP:=zC hP;clear az aV HK hM hP hr HI x5 y0 y1 y2 y3 y4 z0 z1 z2 z3 z4 xc eN Oa;go_wp2_with fail;obtain⟨p0,p1⟩:=zgy r0 r1 (.slice an E.length cn) (.slice fG E.length ct);refine bodyPost_ret (v:=.tuple #[.agg #[.slice an E.length cn,.slice fG E.length ct],.bool false]) (by simp[results,Tryz.results229,go_sem,p0,p1]) rfl ?_;rw[zA HN];exact⟨.no,(((zA HP).below).setCell (by show w.heap.size<=w.heap.size+1;omega) _).setCell (by show w.heap.size<=w.heap.size+1;omega) _⟩
      | some E'=>
       rw[hr] at hM;obtain⟨DQ,DU,uV,DV,rfl,rfl⟩:=(hM.env E' rfl).shape;obtain⟨g0,-⟩:=zB hM.cP 0;obtain⟨g1,-⟩:=zB hM.cP 1;simp only[List.getElem?_toArray,List.getElem?_cons_zero,List.getElem?_cons_succ] at g0 g1;have PG:E'.length<=4*(k+1):=(by have:=zh1 hr;have:=zA Oa;omega);have HN:=zC (show zaw (fs.map (·.F)) R.body fr []=zaw (fs.map (·.F)) (R.body.drop (k+1)) (fr.drop (m+1)) E' by rw[zA az,hr]);have HS:=zC ((zA HI).set hM);clear az aV HK hM hP hr HI x5 y0 y1 y2 y3 y4 z0 z1 z2 z3 z4 xc Oa PF;go_wp2_with fail;go_roundg (bs.length-(k+1));exact⟨k+1,m+1,E',_,_,by omega,rfl,zA eN,by go_num,by go_num,zA HS,PG,zA HN⟩;omega
    ·have LN:=z0e (l:=fs.map (·.F)) (b:=R.body) Ec (by rw[sd];exact aR) Ny (by simpa using nU) E;have HN:=zC ((zA cV).trans LN);have Mj:¬ (fr[m]:Int)<fs.length:=(by omega);clear LN aR aP sd gX hI cV HM Hf pf nU Ag;generalize fr[m]=x at *;go_wp2_with fail;obtain⟨p0,p1⟩:=zgy r0 r1 (.slice an E.length cn) (.slice fG E.length ct);refine bodyPost_ret (v:=.tuple #[.agg #[.slice an E.length cn,.slice fG E.length ct],.bool false]) (by simp[results,Tryz.results229,go_sem,p0,p1]) rfl ?_;rw[zA HN];exact⟨.no,(((zA HI).below).setCell (by show w.heap.size<=w.heap.size+1;omega) _).setCell (by show w.heap.size<=w.heap.size+1;omega) _⟩
  ·have Lu:k=bs.length:=(by omega);subst Lu;have kY:zaw (fs.map (·.F)) R.body fr []=some E:=(by rw[zA cV,List.drop_eq_nil_of_le (by rw[zA Oj];exact Nat.le_refl _),zaw]);have za:=zC kY;clear kY hI cV HM;go_wp2_with fail;obtain⟨p0,p1⟩:=zgy r0 r1 (.slice an E.length cn) (.slice fG E.length ct);refine bodyPost_ret (v:=.tuple #[.agg #[.slice an E.length cn,.slice fG E.length ct],.bool true]) (by simp[results,Tryz.results229,go_sem,p0,p1]) rfl ?_;rw[zA za];exact⟨.yes (zA HI).EA,(((zA HI).below).setCell (by show w.heap.size<=w.heap.size+1;omega) _).setCell (by show w.heap.size<=w.heap.size+1;omega) _⟩
end
end Go.Proofs.YtldkpahaocjdpaaGreat
