/-
  The reference's ways: the innermost loop: one way, gone on by one literal, over all facts.
-/
import Derived.Test.YtldkpahaocjdpaaGreatE25
set_option maxHeartbeats 16000000
set_option maxRecDepth 1000000
namespace Go.Proofs.YtldkpahaocjdpaaGreat
section
open Go.RowKit
def zdo:Code->List Code
 | .loop c=>c::zdo c
 | .seq a b=>zdo a++zdo b
 | .block _ c=>zdo c
 | .cond _ a b=>zdo a++zdo b
 | _=>[]
noncomputable def z1s (k:Nat):Code:=((Tryz.f193.body.map zdo).getD []).getD k .skip
structure yaq (w:W8)(base:Nat)(R:zS)(hv:Value)(bs:List (zL × Value))(bv:Value)(fs:List FG)(lv:Value):Prop where
 bK:nA w base R hv bs bv
 facts:xB w base lv fs
 eJ:fs.length<=50
 body:bs.length<=3
 ae:∀ a∈R.body,a.ae.length<=4
structure jn (w:W8)(R:zS)(hv bv nv:Value)(now:List WG)(v:Value)(next:List WG)(wr:W8):Prop where
 below:Below w.heap.size w wr
 box:wr.heap[w.heap.size]?=some (.cells #[.string R.head.pred,hv,.bool R.head.no,.int .i64 R.head.at_,.int .i64 R.head.az,bv] 246 (0,0))
 now:rm wr (w.heap.size+1) nv now
 next:rm wr (w.heap.size+1) v next
 ne:∀ g,v.ownBlock=some g->nv.ownBlock≠some g
variable {wr w:W8} {next now:List WG} {v hv bv nv:Value} {R:zS}
theorem jn.lt (h:jn w R hv bv nv now v next wr):w.heap.size<wr.heap.size:=(Array.getElem?_eq_some_iff.1 h.box).1
variable {w':W8}
theorem jn.dN (h:jn w R hv bv nv now v next wr)(k:Below wr.heap.size wr w'):jn w R hv bv nv now v next w':=
 have hl:=h.lt
 ⟨h.below.trans (k.mono (by omega)),(k.block _ hl).trans h.box,h.now.below k,h.next.below k,h.ne⟩
theorem zyo (k:zK [] w w'):Below w.heap.size w w':=⟨k.os,k.tape,k.output,k.size,λ b hb=>k.block b hb (by simp)⟩
theorem jn.add {w:W8}{R:zS}{hv bv nv:Value}{now:List WG}{v:Value}{next:List WG}{wX W w5:W8}{x:WG}{g cap:Nat}(h:jn w R hv bv nv now v next wX)(hx:vk wX (w.heap.size+1) x)(hW:zK [] wX W)(hg:W.grownBy w5 v.ownBlock)(ay:w5.ownsRow (w.heap.size+1) 325 3 (.slice (some ⟨g,0,none⟩) (next.length+1) cap) (next.length+1) (next.flatMap WG.cells++x.cells))(dv:v.ownBlock=some g\/g=W.heap.size):jn w R hv bv nv now (.slice (some ⟨g,0,none⟩) (next.length+1) cap) (next++[x]) w5:=by
 have hl:=h.lt;have hs:=hW.size;have hb:=h.below.size;have k5:zK v.ownBlock.toList wX w5:=(hW.mono (by simp)).trans (zK.aR hg);have eG:∀ b∈v.ownBlock.toList,w.heap.size+1<=b:=λ b hm=>(h.next.row.lt b (by simpa using hm)).1
 refine⟨zY h.below k5 hb (λ b hm=>by have:=eG b hm;omega),?_,h.next.other h.now h.ne hW hg,h.next.add hx hW hg ay,λ g' e=>?_⟩
 ·rw[k5.block _ hl (λ hm=>by have:=eG _ hm;omega)];exact h.box
 ·have e':g=g':=by simpa[Value.ownBlock] using e
  subst e';rcases dv with h1 | h1
  ·exact h.ne g h1
  ·intro h2;have:=(h.now.row.lt g h2).2;omega
variable {b:Nat}
theorem zww {g j:Nat}{u:Value}(h:¬ g=b):((w.setCell ⟨b,0,none⟩ u).setCell ⟨b,1,none⟩ v).cell? ⟨g,j,none⟩=w.cell? ⟨g,j,none⟩:=by
 rw[World.cell?_of_block (Below.heap_setCell _ ⟨b,1,none⟩ _ g (by simpa using h)),World.cell?_of_block (Below.heap_setCell _ ⟨b,0,none⟩ _ g (by simpa using h))]
structure M3 (wr:W8)(r:Option Env)(b:Nat)(du bY:Value)(wc:W8):Prop where
 below:Below wr.heap.size wr wc
 ge:wr.heap.size<=b
 bq:wc.heap[b]?=some (.cells #[du,bY] 258 (0,0))
 env:∀ E',r=some E'->nR wc wr.heap.size E' du bY
variable {du bY:Value} {r:Option Env} {W w2:W8}
theorem M3.behind (hW:Below wr.heap.size wr W)(h2:Below W.heap.size W w2)(he:∀ E',r=some E'->nR w2 W.heap.size E' du bY):M3 wr r w2.heap.size du bY (w2.alloc (.cells #[du,bY] 258)):=by
 have hs:=hW.size;have su:=h2.size;refine⟨(hW.trans (h2.mono hs)).alloc (by omega) _,by omega,heap_alloc_new w2 _,λ E' e=>?_⟩;have h:=he E' e;exact⟨zG (h.ns.alloc _) (by omega),zG (h.ts.alloc _) (by omega),h.nil⟩
theorem M3.ahead {u0 u1:Value}(hW:Below wr.heap.size wr W)(hb:wr.heap.size<=b)(hblk:W.heap[b]?=some (.cells #[u0,u1] 258 (0,0)))(h2:Below W.heap.size W w2)(he:∀ E',r=some E'->nR w2 W.heap.size E' du bY):M3 wr r b du bY ((w2.setCell ⟨b,0,none⟩ du).setCell ⟨b,1,none⟩ bY):=by
 have hs:=hW.size;have su:=h2.size;have aH:=(Array.getElem?_eq_some_iff.1 hblk).1;have h1:=(h2.block b aH).trans hblk;have O6:(w2.setCell ⟨b,0,none⟩ du).heap[b]?=some (.cells #[du,u1] 258 (0,0)):=by rw[heap_setCell_same _ _ _ _ _ _ h1];rfl
 refine⟨((hW.trans (h2.mono hs)).setCell (by simpa using hb) _).setCell (by simpa using hb) _,hb,by rw[heap_setCell_same _ _ _ _ _ _ O6];rfl,λ E' e=>?_⟩;have h:=he E' e;exact⟨zG (ownsRow_setCell_below (ownsRow_setCell_below h.ns (by simpa using aH) _) (by simpa using aH) _) (by omega),zG (ownsRow_setCell_below (ownsRow_setCell_below h.ts (by simpa using aH) _) (by simpa using aH) _) (by omega),h.nil⟩
theorem yek (w:W8)(base:Nat)(R:zS)(hv:Value)(bs:List (zL × Value))(bv:Value)(fs:List FG)(al:O8)(cl:Nat)(hC:yaq w base R hv bs bv fs (.slice al fs.length cl))(now:List WG)(an:O8)(cn k i:Nat)(hk:k<bs.length)(hi:i<now.length)(aW:now[i].e.length<=100)(hnf:now[i].fr.length<=100)(T:List Way)(hT:T.length<=1000000)(v7:Value)(next:List WG)(aE:next.map (·.W)++zht bs[k].1 now[i].W (fs.map (·.F)) 0=T)(w1:W8)(hI:jn w R hv bv (.slice an now.length cn) now v7 next w1)
  {Q:Exit->Act->W8->Prop} {c0 c3 c4 gS lI gy gV ij gw il gZ fE eH eZ fc eW eT eL eV eX eY eO eR eQ fh fj fo ft fk fJ fL fI fY fQ fO gq fV gu dT gd fM gn fP fN fZ gN gQ fG jv jq jr ee kf jt km kg jw ju ko kc jz jy kq js jx ki kH kL kR kD kI kX kZ kr kz iZ jh iW iV iT iO jm iP jf jl jo iQ jd jb je iY jc ji dq cF cC cx cE cA cD cy cM cU de cL cN cK dg cZ cO da cR dc cJ cG cH cj cW cV cP cX dd cq:Value}
  (aT:∀ (KG:Value) (next':List WG) (w2:W8) (u9 rz ri pX rB rG qg qy qw ql rO qb rA rq pV pU qz nP nE vu vy uU vt wL uL wE wq vv wo u64 vq vr uS wH ve uZ wI wm tM tE sK sN tR tP sU tW sS:Value),jn w R hv bv (.slice an now.length cn) now KG next' w2->next'.map (·.W)=T->Q (.exit 4) ⟨List.toArray (c0::.slice al fs.length cl::.pointer (some ⟨w.heap.size,0,none⟩)::c3::c4::.slice an now.length cn::.int .i64 k::KG::.int .i64 i::u9::rz::ri::pX::gV::ij::gw::il::gZ::fE::eH::eZ::fc::eW::eT::eL::eV::eX::eY::eO::eR::eQ::fh::fj::fo::ft::fk::fJ::fL::fI::rB::rG::qg::qy::qw::ql::rO::qb::rA::rq::pV::pU::qz::nP::nE::vu::vy::uU::vt::wL::uL::wE::wq::vv::wo::u64::vq::vr::uS::wH::ve::uZ::wI::wm::tM::tE::sK::sN::tR::tP::sU::tW::sS::iZ::jh::iW::iV::iT::iO::jm::iP::jf::jl::jo::iQ::jd::jb::je::iY::jc::ji::dq::cF::cC::cx::cE::cA::cD::cy::cM::cU::de::cL::cN::cK::dg::cZ::cO::da::cR::dc::cJ::cG::cH::cj::cW::cV::cP::cX::dd::cq::[]),[]⟩ w2):
  Code.wp Tryz.prog (Code.loop (z1s 2)) Q ⟨List.toArray (c0::.slice al fs.length cl::.pointer (some ⟨w.heap.size,0,none⟩)::c3::c4::.slice an now.length cn::.int .i64 k::v7::.int .i64 i::.int .i64 (0:Nat)::gS::lI::gy::gV::ij::gw::il::gZ::fE::eH::eZ::fc::eW::eT::eL::eV::eX::eY::eO::eR::eQ::fh::fj::fo::ft::fk::fJ::fL::fI::fY::fQ::fO::gq::fV::gu::dT::gd::fM::gn::fP::fN::fZ::gN::gQ::fG::jv::jq::jr::ee::kf::jt::km::kg::jw::ju::ko::kc::jz::jy::kq::js::jx::ki::kH::kL::kR::kD::kI::kX::kZ::kr::kz::iZ::jh::iW::iV::iT::iO::jm::iP::jf::jl::jo::iQ::jd::jb::je::iY::jc::ji::dq::cF::cC::cx::cE::cA::cD::cy::cM::cU::de::cL::cN::cK::dg::cZ::cO::da::cR::dc::cJ::cG::cH::cj::cW::cV::cP::cX::dd::cq::[]),[]⟩ w1:=by
 conv=>arg 2;arg 1;whnf
 have HC:=zC hC;have HF:=zC aE;have HI:=zC hI;have kV:=hC.eJ;have HX:=zC aT;clear aT;clear hC aE hI
 go_loopg [7,9] fs.length (λ gg v ff wr=>∃ (f:Nat) (next':List WG),f<=fs.length/\gg=fs.length-f/\ff=.int .i64 f/\jn w R hv bv (.slice an now.length cn) now v next' wr/\next'.map (·.W)++zht bs[k].1 now[i].W ((fs.map (·.F)).drop f) f=T)
 exact⟨0,next,Nat.zero_le _,rfl,rfl,zA HI,zA HF⟩
 case round=>
  clear HI HF;obtain⟨f,next',hf,RM,rfl,hI,aE⟩:=hrel;obtain⟨a7,c7,rfl⟩:=zD hI.next.row;have HI:=zC hI;have HF:=zC aE;clear hI aE
  by_cases qh:f<fs.length
  ·have hC:=zA HC;have hI:=zA HI;have bj:=hI.below.size;have aH:=hI.lt
   -- what is read: the Gr,the literal,the fact
   obtain⟨g5,c5,Db,-,yt,OL,BQ,x0,x1,x2⟩:=zvs hI.now.row hi;injection Db with i1 i2 i3
   subst i1 i3;have iu:=zJ hC.bK.bo hI.below (λ g e=>(hC.bK.bo.lt g e).2);obtain⟨gb,cb,nG,-,ot,eS,xw,y0,y1,y2,y3,y4⟩:=jY iu k hk;subst nG;have Ad:=zJ hC.facts.row hI.below (λ g e=>(hC.facts.row.lt g e).2);obtain⟨gl,cl',Zm,-,gY,mB,bh,oc⟩:=zb0 Ad qh;injection Zm with i1 i2 i3
   subst i1 i3;have z0:=oc 0 (by decide);have z1:=oc 1 (by decide);have z2:=oc 2 (by decide);have z3:=oc 3 (by decide);have z4:=oc 4 (by decide);simp only[FG.cells,List.getElem?_cons_succ,List.getElem?_cons_zero,Nat.add_zero] at z0 z1 z2 z3 z4;obtain⟨p5,-⟩:=zB hI.box 5;simp only[List.getElem?_toArray,List.getElem?_cons_zero,List.getElem?_cons_succ] at p5;have fX:=hI.now.each _ (List.getElem_mem hi);obtain⟨pJ,pA,br,dL,e1,e2⟩:=fX.env.shape;have Ak:=hC.bK.bl _ (List.getElem_mem hk);obtain⟨aa,ca,e3⟩:=zD Ak;have Mc:=(hC.facts.each _ (List.getElem_mem qh)).t;obtain⟨ba,Km,e4⟩:=zD Mc;have h4:bs[k].1.ae.length<=4:=hC.ae _ (by rw[hC.bK.eq];exact List.mem_map_of_mem (List.getElem_mem hk));rw[e1] at x0;rw[e2] at x1;rw[e3] at y1;rw[e4] at z1;have ib:∀ W,Below wr.heap.size wr W->Calls Tryz.prog 139 #[.agg #[.slice pJ now[i].e.length pA,.slice br now[i].e.length dL],.agg #[.string bs[k].1.pred,.slice aa bs[k].1.ae.length ca,.bool bs[k].1.no,.int .i64 bs[k].1.at_,.int .i64 bs[k].1.az],.agg #[.string fs[f].F.aj.pred,.slice ba fs[f].F.aj.ae.length Km,.bool fs[f].F.aj.no,.int .i64 fs[f].F.aj.at_,.int .i64 fs[f].F.aj.az]] W (zku W (.slice pJ now[i].e.length pA) (.slice br now[i].e.length dL) (qA now[i].e bs[k].1 fs[f].F.aj)):=λ W hW=>by
    have hB:=hI.below.trans (hW.mono bj);have q1:=fX.env.below hW;rw[e1,e2] at q1;rw[e3] at Ak;rw[e4] at Mc;exact zym W 0 now[i].e bs[k].1 fs[f].F.aj pJ br aa ba pA dL ca Km ⟨zG q1.ns (Nat.zero_le _),zG q1.ts (Nat.zero_le _),q1.nil⟩ (zG (zJ Ak hB (λ g e=>(Ak.lt g e).2)) (Nat.zero_le _)) (zG (zJ Mc hB (λ g e=>(Mc.lt g e).2)) (Nat.zero_le _)) (by omega)
   have aO:=(z0n (a:=bs[k].1) (x:=now[i].W) (l:=fs.map (·.F)) (k:=f) (by simpa using qh));rw[List.getElem_map] at aO;have aC:=zC ((congrArg (next'.map (·.W)++·) aO).symm.trans (zA HF));have cQ:=zC ib;have uO:=zC fX;have Fa:=zC (And.intro e1 e2);have Cc:(i:Int)<now.length:=(by omega);have nz:(k:Int)<bs.length:=(by omega);have mx:(f:Int)<fs.length:=(by omega);have b1:w.heap.size<wr.heap.size:=aH;clear hC hI iu Ad oc fX Ak Mc ib aO HF HC e1 e2 e3 e4 bj aH;generalize bs[k].1=A at *;generalize fs[f].F.aj=TH at *
   have HK:Hid (∀ W w':W8,Below wr.heap.size wr W->Below W.heap.size W w'->w'.cell? ⟨g5,i*3,none⟩=some (.slice pJ now[i].e.length pA)/\w'.cell? ⟨g5,i*3+1,none⟩=some (.slice br now[i].e.length dL)/\w'.cell? ⟨w.heap.size,5,none⟩=some (.slice (some ⟨gb,0,none⟩) bs.length cb)/\w'.cell? ⟨gb,k*5,none⟩=some (.string A.pred)/\w'.cell? ⟨gb,k*5+1,none⟩=some (.slice aa A.ae.length ca)/\w'.cell? ⟨gb,k*5+2,none⟩=some (.bool A.no)/\w'.cell? ⟨gb,k*5+3,none⟩=some (.int .i64 A.at_)/\w'.cell? ⟨gb,k*5+4,none⟩=some (.int .i64 A.az)/\w'.cell? ⟨gl,f*10,none⟩=some (.string TH.pred)/\w'.cell? ⟨gl,f*10+1,none⟩=some (.slice ba TH.ae.length Km)/\w'.cell? ⟨gl,f*10+2,none⟩=some (.bool TH.no)/\w'.cell? ⟨gl,f*10+3,none⟩=some (.int .i64 TH.at_)/\w'.cell? ⟨gl,f*10+4,none⟩=some (.int .i64 TH.az)):=zC (λ W w' h1 h2=>by
    have hB:=h1.trans (h2.mono h1.size)
    exact⟨(hB.cell (by simpa using yt)).trans x0,(hB.cell (by simpa using yt)).trans x1,(hB.cell (by simpa using b1)).trans p5,(hB.cell (by simpa using ot)).trans y0,(hB.cell (by simpa using ot)).trans y1,(hB.cell (by simpa using ot)).trans y2,(hB.cell (by simpa using ot)).trans y3,(hB.cell (by simpa using ot)).trans y4,(hB.cell (by simpa using gY)).trans z0,(hB.cell (by simpa using gY)).trans z1,(hB.cell (by simpa using gY)).trans z2,(hB.cell (by simpa using gY)).trans z3,(hB.cell (by simpa using gY)).trans z4⟩)
   have d5:¬ g5=wr.heap.size:=(by omega);have db:¬ gb=wr.heap.size:=(by omega);have dl:¬ gl=wr.heap.size:=(by omega);have dw:¬ w.heap.size=wr.heap.size:=(by omega);go_upto_region 13 with fail
   go_cut [10,11] from 39 to 81 (λ p ok wc=>∃ b du bY,p=.pointer (some ⟨b,0,none⟩)/\ok=.bool (qA now[i].e A TH).isSome/\M3 wr (qA now[i].e A TH) b du bY wc)
   case first=>
    clear aC uO Fa x2 HI
    cases hr:qA now[i].e A TH with
    | none=>
     rw[hr] at cQ
     go_region_held3 (λ w'=>w'.cell? ⟨g5,i*3,none⟩=some (.slice pJ now[i].e.length pA)/\w'.cell? ⟨g5,i*3+1,none⟩=some (.slice br now[i].e.length dL)/\w'.cell? ⟨w.heap.size,5,none⟩=some (.slice (some ⟨gb,0,none⟩) bs.length cb)/\w'.cell? ⟨gb,k*5,none⟩=some (.string A.pred)/\w'.cell? ⟨gb,k*5+1,none⟩=some (.slice aa A.ae.length ca)/\w'.cell? ⟨gb,k*5+2,none⟩=some (.bool A.no)/\w'.cell? ⟨gb,k*5+3,none⟩=some (.int .i64 A.at_)/\w'.cell? ⟨gb,k*5+4,none⟩=some (.int .i64 A.az)/\w'.cell? ⟨gl,f*10,none⟩=some (.string TH.pred)/\w'.cell? ⟨gl,f*10+1,none⟩=some (.slice ba TH.ae.length Km)/\w'.cell? ⟨gl,f*10+2,none⟩=some (.bool TH.no)/\w'.cell? ⟨gl,f*10+3,none⟩=some (.int .i64 TH.at_)/\w'.cell? ⟨gl,f*10+4,none⟩=some (.int .i64 TH.az)) (first | go_keep | (refine⟨?_,?_,?_,?_,?_,?_,?_,?_,?_,?_,?_,?_,?_⟩ <;> (refine (zww ?_).trans ?_ <;> assumption))) ((go_at_call 139;refine (zA cQ _ (by first | exact B9.drew | exact (B9.alloc L9 _).drew | exact B9.drew.alloc L9 _)).mono ?_;rintro e w2 ⟨aK,ou,-⟩;obtain rfl:=ou rfl;obtain⟨m0,m1,m2,m3,m4,m5,m6,m7,m8,m9,m10,m11,m12⟩:=zA HK _ _ (by first | exact B9.drew | exact (B9.alloc L9 _).drew | exact B9.drew.alloc L9 _) aK;have oh:=λ (j:Nat) h=>aK.cell (p:=⟨wr.heap.size,j,none⟩) h;have pn:=λ (j:Nat) h=>aK.frozen (p:=⟨wr.heap.size,j,none⟩) h;clear ou))
     all_goals
      go_wp2_with fail;go_meet
      case rel=>
       rw[hr]
       first | exact⟨_,_,_,rfl,rfl,M3.behind (W:=wr.drew) B9.drew aK (λ _ h=>by cases h)⟩ | exact⟨_,_,_,rfl,rfl,M3.ahead (W:=(wr.alloc (.cells #[.slice none 0 0,.slice none 0 0] 258)).drew) (B9.alloc L9 _).drew L9 (heap_alloc_new wr _) aK (λ _ h=>by cases h)⟩
    | some E'=>
     rw[hr] at cQ
     go_region_held3 (λ w'=>w'.cell? ⟨g5,i*3,none⟩=some (.slice pJ now[i].e.length pA)/\w'.cell? ⟨g5,i*3+1,none⟩=some (.slice br now[i].e.length dL)/\w'.cell? ⟨w.heap.size,5,none⟩=some (.slice (some ⟨gb,0,none⟩) bs.length cb)/\w'.cell? ⟨gb,k*5,none⟩=some (.string A.pred)/\w'.cell? ⟨gb,k*5+1,none⟩=some (.slice aa A.ae.length ca)/\w'.cell? ⟨gb,k*5+2,none⟩=some (.bool A.no)/\w'.cell? ⟨gb,k*5+3,none⟩=some (.int .i64 A.at_)/\w'.cell? ⟨gb,k*5+4,none⟩=some (.int .i64 A.az)/\w'.cell? ⟨gl,f*10,none⟩=some (.string TH.pred)/\w'.cell? ⟨gl,f*10+1,none⟩=some (.slice ba TH.ae.length Km)/\w'.cell? ⟨gl,f*10+2,none⟩=some (.bool TH.no)/\w'.cell? ⟨gl,f*10+3,none⟩=some (.int .i64 TH.at_)/\w'.cell? ⟨gl,f*10+4,none⟩=some (.int .i64 TH.az)) (first | go_keep | (refine⟨?_,?_,?_,?_,?_,?_,?_,?_,?_,?_,?_,?_,?_⟩ <;> (refine (zww ?_).trans ?_ <;> assumption))) ((go_at_call 139;refine (zA cQ _ (by first | exact B9.drew | exact (B9.alloc L9 _).drew | exact B9.drew.alloc L9 _)).mono ?_;rintro e w2 ⟨aK,-,su⟩;obtain⟨du,bY,rfl,tN⟩:=su E' rfl;obtain⟨FE,Hh,vl,Hl,rfl,rfl⟩:=tN.shape;obtain⟨m0,m1,m2,m3,m4,m5,m6,m7,m8,m9,m10,m11,m12⟩:=zA HK _ _ (by first | exact B9.drew | exact (B9.alloc L9 _).drew | exact B9.drew.alloc L9 _) aK;have oh:=λ (j:Nat) h=>aK.cell (p:=⟨wr.heap.size,j,none⟩) h;have pn:=λ (j:Nat) h=>aK.frozen (p:=⟨wr.heap.size,j,none⟩) h;have KX:=zC tN;clear su tN))
     all_goals
      go_wp2_with fail;go_meet
      case rel=>
       rw[hr]
       first | exact⟨_,_,_,rfl,rfl,M3.behind (W:=wr.drew) B9.drew aK (λ _ h=>by cases h;exact zA KX)⟩ | exact⟨_,_,_,rfl,rfl,M3.ahead (W:=(wr.alloc (.cells #[.slice none 0 0,.slice none 0 0] 258)).drew) (B9.alloc L9 _).drew L9 (heap_alloc_new wr _) aK (λ _ h=>by cases h;exact zA KX)⟩
   case rest=>
    generalize wc=wA at *;obtain⟨b,du,bY,rfl,rfl,hM⟩:=hcut;have dI:=(zA HI).dN hM.below;have mQ:=hM.below;have lz:=mQ.size;have eC:=zC dI
    cases hr:qA now[i].e A TH with
    | none=>
     have aP:=zC (show next'.map (·.W)++zht A now[i].W ((fs.map (·.F)).drop (f+1)) (f+1)=T by
      have:=zA aC;rw[show now[i].W.1=now[i].e from rfl,hr] at this
      simpa using this)
     clear aC hM HI cQ HK x0 x1 x2 y0 y1 y2 y3 y4 z0 z1 z2 z3 z4 p5 dI uO Fa hr mQ;go_wp2_with fail;go_roundg (fs.length-(f+1));exact⟨f+1,next',by omega,rfl,by go_num,zA eC,zA aP⟩;omega
    | some E'=>
     have tN:=hM.env E' hr;obtain⟨FE,Hh,vl,Hl,rfl,rfl⟩:=tN.shape
     have aP:=zC (show (next'.map (·.W)++[(E',now[i].fr++[f])])++zht A now[i].W ((fs.map (·.F)).drop (f+1)) (f+1)=T by
      have:=zA aC;rw[show now[i].W.1=now[i].e from rfl,hr] at this
      simpa[WG.W] using this)
     have RH:next'.length+1<=1000000:=by
      have:=congrArg List.length (zA aP);simp only[List.length_append,List.length_map,List.length_singleton] at this;omega
     have NW:E'.length<=200:=(by have:=zn2 hr;omega);have hblk:=hM.bq;have SM:=zC tN;have mJ:=zC hblk;have uN:=(Array.getElem?_eq_some_iff.1 hblk).1;have qq:=hM.ge;have w2:wA.cell? ⟨g5,i*3+2,none⟩=some now[i].fv:=(mQ.cell (by simpa using yt)).trans x2;have uk:=zJ (zA uO).fr mQ (λ g e=>((zA uO).fr.lt g e).2);obtain⟨af,cf,H7⟩:=zD uk;rw[H7] at w2 uk;have ER:now[i].fr=[]->af=none/\cf=0:=λ e=>by
      have:=(zA uO).nil e;rw[H7] at this;injection this with q1 q2 q3
      exact⟨q1,q3⟩
     have IB:=zC ER;have xj:=zC uk;obtain⟨i0,AF,bL,aY,bf⟩:=info_parts zts;clear aC hM HI cQ HK x0 x1 x2 y0 y1 y2 y3 y4 z0 z1 z2 z3 z4 p5 dI uO Fa hr mQ tN hblk uk ER H7;generalize now[i].fr=NF at *;go_upto_region 16 with fail
     go_cut [12] from 39 to 81 (λ v wd=>wd.ownsRow wA.heap.size 3 1 v NF.length (zx6 NF)/\Below wA.heap.size wA wd)
     case first=>
      by_cases hE:NF=[]
      ·obtain⟨rfl,rfl⟩:=zA IB hE;rw[hE] at xj w2;have YK:=zC hE;clear hE;go_wp2_with fail;go_meet
       case rel=>exact⟨by rw[zA YK];exact World.ownsRow_nil _ _ _ _,Below.refl _ _⟩
      ·have aJ:0<NF.length:=List.length_pos_iff.2 hE;obtain⟨g1,NK,im,-,-,-,-⟩:=zca (zA xj) aJ;injection im with i1 i2 i3
       subst i1 i3;have dt:=zC (zpg (zA xj));go_wp2_with (at_builtin;go_must (refine wpList_append_lies _ rfl _ _ _ rfl wA.heap.size 3 i0 (.int .i64 0) 1 8 Tryz.underlying24 AF bL aY bf rfl (by decide) (.slice none 0 0) 0 [] rfl (World.ownsRow_nil _ _ _ _) ⟨g1,0,none⟩ NF.length cf (zx6 NF) rfl (by simp[zx6]) (zA dt) z87 aJ (by unfold maxLen;omega) (by omega) L9 _ rfl ?_;intro g cap w5 aq aU bW hlt5));go_meet
       case rel=>exact⟨by simpa using aq,zyo (zK.aR aU)⟩
     case rest=>
      generalize wc=wd at *;obtain⟨aB,N2⟩:=hcut;obtain⟨Se,UA,rfl⟩:=zD aB;have MR:=N2.size;have HR:=zC (aB.alloc (.cells #[.int .i64 f] 3));have bX:=zC (zh2 (wd.alloc (.cells #[.int .i64 f] 3)) wd.heap.size (.int .i64 f) 3 (heap_alloc_new wd _));have lu:=zC (λ (w5:W8) (hg:(wd.alloc (.cells #[.int .i64 f] 3)).grownBy w5 (Value.slice Se NF.length UA).ownBlock)=>zY (N2.alloc MR (.cells #[.int .i64 f] 3)) (zK.aR hg) (by simp;omega) (λ x hx=>(aB.lt x (by simpa using hx)).1));clear aB N2 xj IB w2;go_upto_region 17 with fail
      go_cut [12] from 39 to 81 (λ v we=>we.ownsRow wA.heap.size 3 1 v (NF.length+1) (zx6 (NF++[f]))/\Below wA.heap.size wA we)
      case first=>
       go_wp2_with (at_builtin;go_must (refine wpList_append_lies _ rfl _ _ _ rfl wA.heap.size 3 i0 (.int .i64 0) 1 8 Tryz.underlying24 AF bL aY bf rfl (by decide) (.slice Se NF.length UA) NF.length (zx6 NF) rfl (zA HR) ⟨wd.heap.size,0,none⟩ 1 1 [.int .i64 f] rfl rfl (zA bX) (by simp[Value.oneCell']) (by decide) (by unfold maxLen;omega) (by omega) (by simp;omega) _ rfl ?_;intro g cap w5 aq aU bW hlt5));go_meet
       case rel=>exact⟨by rw[Xc];exact aq,zA lu w5 aU⟩
      case rest=>
       clear HR bX lu;generalize wc=we at *;obtain⟨aB,JF⟩:=hcut;obtain⟨Hq,H9,rfl⟩:=zD aB;have hse:=JF.size;have gz:=(zA eC).dN JF;have Cm:=(zA SM).below JF;have hblk:=(JF.block b uN).trans (zA mJ);obtain⟨r0,TJ⟩:=zB hblk 0;obtain⟨r1,Fk⟩:=zB hblk 1;have Im:vk we (w.heap.size+1) ⟨E',NF++[f],.slice FE E'.length Hh,.slice vl E'.length Hl,.slice Hq (NF.length+1) H9⟩:=⟨⟨zG Cm.ns (by omega),zG Cm.ts (by omega),Cm.nil⟩,by rw[List.length_append];exact zG aB (by omega),λ e=>by simp at e⟩;obtain⟨iw,Oh,bC,dX,oJ⟩:=info_parts z18;have HR:=zC (gz.next.row.alloc (.cells #[.slice FE E'.length Hh,.slice vl E'.length Hl,.slice Hq (NF.length+1) H9] 325));have bX:=zC (World.news_of_block (heap_alloc_new we (.cells #[.slice FE E'.length Hh,.slice vl E'.length Hl,.slice Hq (NF.length+1) H9] 325)));have dM:=zC (λ (w5:W8) (g cap:Nat) hg ay dv=>jn.add (w5:=w5) (g:=g) (cap:=cap) (W:=we.alloc (.cells #[.slice FE E'.length Hh,.slice vl E'.length Hl,.slice Hq (NF.length+1) H9] 325)) gz Im ((zK.refl [] _).alloc _) hg ay dv);have ma:=gz.lt;clear aB JF gz Cm hblk Im TJ Fk eC SM mJ;go_wp2_with (at_builtin;go_must (refine wpList_append_lies _ rfl _ _ _ rfl (w.heap.size+1) 325 iw (.agg #[.slice none 0 0,.slice none 0 0,.slice none 0 0]) 3 72 Tryz.underlying322 Oh bC dX oJ rfl (by decide) (.slice a7 next'.length c7) next'.length _ rfl (zA HR) ⟨we.heap.size,0,none⟩ 1 1 [.slice FE E'.length Hh,.slice vl E'.length Hl,.slice Hq (NF.length+1) H9] rfl rfl (zA bX) (by simp[Value.oneCell']) (by decide) (by unfold maxLen;omega) (by omega) (by simp;omega) _ rfl ?_;intro g cap w5 aq aU bW hlt5));have KD:=zC (zA dM w5 g cap aU aq bW);go_roundg (fs.length-(f+1));exact⟨f+1,next'++[⟨E',NF++[f],.slice FE E'.length Hh,.slice vl E'.length Hl,.slice Hq (NF.length+1) H9⟩],by omega,rfl,by go_num,zA KD,by rw[List.map_append];exact zA aP⟩;omega
  ·have HE:=zC (show next'.map (·.W)=T by rw[<-zA HF,List.drop_of_length_le (by simp;omega)];simp[zht]);clear HF;go_wp2_with fail;exact zA HX _ _ _ _ _ _ _ _ _ _ _ _ _ _ _ _ _ _ _ _ _ _ _ _ _ _ _ _ _ _ _ _ _ _ _ _ _ _ _ _ _ _ _ _ _ _ _ _ _ _ (zA HI) (zA HE)
end
end Go.Proofs.YtldkpahaocjdpaaGreat
