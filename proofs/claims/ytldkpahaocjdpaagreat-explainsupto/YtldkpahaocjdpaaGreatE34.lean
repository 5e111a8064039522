/-
  The reference's ways: the innermost loop: one way, gone on by one literal, over all facts.
-/
import Derived.Test.YtldkpahaocjdpaaGreatE33
set_option maxHeartbeats 16000000
set_option maxRecDepth 1000000
namespace Go.Proofs.YtldkpahaocjdpaaGreat
section
open Go.RowKit
def zdo:Code->List Code
 | .loop c=>c::zdo c
 | .seq a b=>zdo a++zdo b
 | .block _ c=>zdo c
 | .cond _ a b=>zdo a++zdo b
 | _=>[]
noncomputable def z5w (k:Nat):Code:=((Tryz.f193.body.map zdo).getD []).getD k .skip
structure yaj (w:W8)(base:Nat)(R:zS)(hv:Value)(bs:List (zL × Value))(bv:Value)(fs:List FG)(lv:Value):Prop where
 bJ:nA w base R hv bs bv
 facts:yZ w base lv fs
 eJ:fs.length<=50
 body:bs.length<=3
 ae:∀ a∈R.body,a.ae.length<=4
structure jo (w:W8)(R:zS)(hv bv nv:Value)(now:List WG)(v:Value)(next:List WG)(wr:W8):Prop where
 below:Below w.heap.size w wr
 box:wr.heap[w.heap.size]?=some (.cells #[.string R.head.pred,hv,.bool R.head.no,.int .i64 R.head.at_,.int .i64 R.head.az,bv] 246 (0,0))
 now:rN wr (w.heap.size+1) nv now
 next:rN wr (w.heap.size+1) v next
 ne:∀ g,v.ownBlock=some g->nv.ownBlock≠some g
variable {wr w:W8} {v hv bv nv:Value} {R:zS}
theorem jo.lt {now next:List WG}(h:jo w R hv bv nv now v next wr):w.heap.size<wr.heap.size:=(Array.getElem?_eq_some_iff.1 h.box).1
variable {w':W8}
theorem jo.dQ {now next:List WG}(h:jo w R hv bv nv now v next wr)(k:Below wr.heap.size wr w'):jo w R hv bv nv now v next w':=
 have hl:=h.lt
 ⟨h.below.trans (k.mono (by omega)),(k.block _ hl).trans h.box,h.now.below k,h.next.below k,h.ne⟩
theorem zyp (k:zK [] w w'):Below w.heap.size w w':=⟨k.os,k.tape,k.output,k.size,λ b hb=>k.block b hb (by simp)⟩
theorem jo.add {w:W8}{R:zS}{hv bv nv:Value}{now:List WG}{v:Value}{next:List WG}{wX W w5:W8}{x:WG}{g cap:Nat}(h:jo w R hv bv nv now v next wX)(hx:wN wX (w.heap.size+1) x)(hW:zK [] wX W)(hg:W.grownBy w5 v.ownBlock)(ay:w5.ownsRow (w.heap.size+1) 325 3 (.slice (some ⟨g,0,none⟩) (next.length+1) cap) (next.length+1) (next.flatMap WG.cells++x.cells))(du:v.ownBlock=some g\/g=W.heap.size):jo w R hv bv nv now (.slice (some ⟨g,0,none⟩) (next.length+1) cap) (next++[x]) w5:=by
 have hl:=h.lt;have hs:=hW.size;have hb:=h.below.size;have k5:zK v.ownBlock.toList wX w5:=(hW.mono (by simp)).trans (zK.aR hg);have eI:∀ b∈v.ownBlock.toList,w.heap.size+1<=b:=λ b hm=>(h.next.row.lt b (by simpa using hm)).1
 refine⟨zY h.below k5 hb (λ b hm=>by have:=eI b hm;omega),?_,h.next.other h.now h.ne hW hg,h.next.add hx hW hg ay,λ g' e=>?_⟩
 ·rw[k5.block _ hl (λ hm=>by have:=eI _ hm;omega)];exact h.box
 ·have e':g=g':=by simpa[Value.ownBlock] using e
  subst e';rcases du with h1 | h1
  ·exact h.ne g h1
  ·intro h2;have:=(h.now.row.lt g h2).2;omega
variable {b:Nat}
theorem zw5 {g j:Nat}{u:Value}(h:¬ g=b):((w.setCell ⟨b,0,none⟩ u).setCell ⟨b,1,none⟩ v).cell? ⟨g,j,none⟩=w.cell? ⟨g,j,none⟩:=by
 rw[World.cell?_of_block (Below.heap_setCell _ ⟨b,1,none⟩ _ g (by simpa using h)),World.cell?_of_block (Below.heap_setCell _ ⟨b,0,none⟩ _ g (by simpa using h))]
structure M3 (wr:W8)(r:Option Env)(b:Nat)(dv bY:Value)(wc:W8):Prop where
 below:Below wr.heap.size wr wc
 ge:wr.heap.size<=b
 bp:wc.heap[b]?=some (.cells #[dv,bY] 258 (0,0))
 env:∀ E',r=some E'->om wc wr.heap.size E' dv bY
variable {dv bY:Value} {r:Option Env} {W w2:W8}
theorem M3.behind (hW:Below wr.heap.size wr W)(h2:Below W.heap.size W w2)(he:∀ E',r=some E'->om w2 W.heap.size E' dv bY):M3 wr r w2.heap.size dv bY (w2.alloc (.cells #[dv,bY] 258)):=by
 have hs:=hW.size;have sj:=h2.size;refine⟨(hW.trans (h2.mono hs)).alloc (by omega) _,by omega,heap_alloc_new w2 _,λ E' e=>?_⟩;have h:=he E' e;exact⟨zG (h.ns.alloc _) (by omega),zG (h.ts.alloc _) (by omega),h.nil⟩
theorem M3.ahead {u0 u1:Value}(hW:Below wr.heap.size wr W)(hb:wr.heap.size<=b)(hblk:W.heap[b]?=some (.cells #[u0,u1] 258 (0,0)))(h2:Below W.heap.size W w2)(he:∀ E',r=some E'->om w2 W.heap.size E' dv bY):M3 wr r b dv bY ((w2.setCell ⟨b,0,none⟩ dv).setCell ⟨b,1,none⟩ bY):=by
 have hs:=hW.size;have sj:=h2.size;have aH:=(Array.getElem?_eq_some_iff.1 hblk).1;have h1:=(h2.block b aH).trans hblk;have Pg:(w2.setCell ⟨b,0,none⟩ dv).heap[b]?=some (.cells #[dv,u1] 258 (0,0)):=by rw[heap_setCell_same _ _ _ _ _ _ h1];rfl
 refine⟨((hW.trans (h2.mono hs)).setCell (by simpa using hb) _).setCell (by simpa using hb) _,hb,by rw[heap_setCell_same _ _ _ _ _ _ Pg];rfl,λ E' e=>?_⟩;have h:=he E' e;exact⟨zG (ownsRow_setCell_below (ownsRow_setCell_below h.ns (by simpa using aH) _) (by simpa using aH) _) (by omega),zG (ownsRow_setCell_below (ownsRow_setCell_below h.ts (by simpa using aH) _) (by simpa using aH) _) (by omega),h.nil⟩
theorem yel (w:W8)(base:Nat)(R:zS)(hv:Value)(bs:List (zL × Value))(bv:Value)(fs:List FG)(al:O8)(cl:Nat)(hC:yaj w base R hv bs bv fs (.slice al fs.length cl))(now:List WG)(an:O8)(cn k i:Nat)(hk:k<bs.length)(hi:i<now.length)(aX:now[i].e.length<=100)(hnf:now[i].fr.length<=100)(T:List Way)(hT:T.length<=1000000)(v7:Value)(next:List WG)(aE:next.map (·.W)++zht bs[k].1 now[i].W (fs.map (·.F)) 0=T)(w1:W8)(hI:jo w R hv bv (.slice an now.length cn) now v7 next w1)
  {Q:Exit->Act->W8->Prop} {c0 c3 c4 gD ll gy gV ie fO ig gW fD eG eL eM eN eO eQ eR eS eT eU eV eW fg fh fk fl fm fI fJ fK fP fQ fR fU fV fW dU fX fY fZ gd gh gi gP gQ fE jq jr js ee jt ju jv jw jx jy jz kc kf kg kh ki kj km kx ky kz kD kE kF kG kH kI iO iP iQ iR iS iT iU iV iW iX iY iZ ja jb jc jd je jf dm cj cq cx cy cz cA cC cK cL cM cN cO cP cQ cR cU cV cW cX cY cD cE cF cZ da dc dd de cG:Value}
  (aT:∀ (Md:Value) (next':List WG) (w2:W8) (u9 rq rr ru ry rz rA rB rD rE rF rG rH rI rJ rK rL nM nN vv vx vy vz wg wh wk wm wo wq u64 wu wy wz wD wE wF wG wH tU tV tW tX tY tZ ua ub uc:Value),jo w R hv bv (.slice an now.length cn) now Md next' w2->next'.map (·.W)=T->Q (.exit 4) ⟨List.toArray (c0::.slice al fs.length cl::.pointer (some ⟨w.heap.size,0,none⟩)::c3::c4::.slice an now.length cn::.int .i64 k::Md::.int .i64 i::u9::rq::rr::ru::gV::ie::fO::ig::gW::fD::eG::eL::eM::eN::eO::eQ::eR::eS::eT::eU::eV::eW::fg::fh::fk::fl::fm::fI::fJ::fK::ry::rz::rA::rB::rD::rE::rF::rG::rH::rI::rJ::rK::rL::nM::nN::vv::vx::vy::vz::wg::wh::wk::wm::wo::wq::u64::wu::wy::wz::wD::wE::wF::wG::wH::tU::tV::tW::tX::tY::tZ::ua::ub::uc::iO::iP::iQ::iR::iS::iT::iU::iV::iW::iX::iY::iZ::ja::jb::jc::jd::je::jf::dm::cj::cq::cx::cy::cz::cA::cC::cK::cL::cM::cN::cO::cP::cQ::cR::cU::cV::cW::cX::cY::cD::cE::cF::cZ::da::dc::dd::de::cG::[]),[]⟩ w2):
  Code.wp Tryz.prog (Code.loop (z5w 2)) Q ⟨List.toArray (c0::.slice al fs.length cl::.pointer (some ⟨w.heap.size,0,none⟩)::c3::c4::.slice an now.length cn::.int .i64 k::v7::.int .i64 i::.int .i64 (0:Nat)::gD::ll::gy::gV::ie::fO::ig::gW::fD::eG::eL::eM::eN::eO::eQ::eR::eS::eT::eU::eV::eW::fg::fh::fk::fl::fm::fI::fJ::fK::fP::fQ::fR::fU::fV::fW::dU::fX::fY::fZ::gd::gh::gi::gP::gQ::fE::jq::jr::js::ee::jt::ju::jv::jw::jx::jy::jz::kc::kf::kg::kh::ki::kj::km::kx::ky::kz::kD::kE::kF::kG::kH::kI::iO::iP::iQ::iR::iS::iT::iU::iV::iW::iX::iY::iZ::ja::jb::jc::jd::je::jf::dm::cj::cq::cx::cy::cz::cA::cC::cK::cL::cM::cN::cO::cP::cQ::cR::cU::cV::cW::cX::cY::cD::cE::cF::cZ::da::dc::dd::de::cG::[]),[]⟩ w1:=by
 conv=>arg 2;arg 1;whnf
 have HC:=zC hC;have HF:=zC aE;have HI:=zC hI;have kN:=hC.eJ;have HX:=zC aT;clear aT;clear hC aE hI
 go_loopg [7,9] fs.length (λ gg v ff wr=>∃ (f:Nat) (next':List WG),f<=fs.length/\gg=fs.length-f/\ff=.int .i64 f/\jo w R hv bv (.slice an now.length cn) now v next' wr/\next'.map (·.W)++zht bs[k].1 now[i].W ((fs.map (·.F)).drop f) f=T)
 exact⟨0,next,Nat.zero_le _,rfl,rfl,zA HI,zA HF⟩
 case round=>
  clear HI HF;obtain⟨f,next',hf,PX,rfl,hI,aE⟩:=hrel;obtain⟨a7,c7,rfl⟩:=zD hI.next.row;have HI:=zC hI;have HF:=zC aE;clear hI aE
  by_cases qx:f<fs.length
  ·have hC:=zA HC;have hI:=zA HI;have bj:=hI.below.size;have aH:=hI.lt
   -- what is read: the Hf,the literal,the fact
   obtain⟨g5,c5,Ds,-,Am,Qz,Av,x0,x1,x2⟩:=zxp hI.now.row hi;injection Ds with i1 i2 i3
   subst i1 i3;have iz:=zJ hC.bJ.bo hI.below (λ g e=>(hC.bJ.bo.lt g e).2);obtain⟨gb,cb,nI,-,oG,eY,xl,y0,y1,y2,y3,y4⟩:=jU iz k hk;subst nI;have Ab:=zJ hC.facts.row hI.below (λ g e=>(hC.facts.row.lt g e).2);obtain⟨gl,cl',YR,-,hZ,mz,bh,nT⟩:=zb1 Ab qx;injection YR with i1 i2 i3
   subst i1 i3;have z0:=nT 0 (by decide);have z1:=nT 1 (by decide);have z2:=nT 2 (by decide);have z3:=nT 3 (by decide);have z4:=nT 4 (by decide);simp only[FG.cells,List.getElem?_cons_succ,List.getElem?_cons_zero,Nat.add_zero] at z0 z1 z2 z3 z4;obtain⟨p5,-⟩:=zB hI.box 5;simp only[List.getElem?_toArray,List.getElem?_cons_zero,List.getElem?_cons_succ] at p5;have gp:=hI.now.each _ (List.getElem_mem hi);obtain⟨pz,pA,br,dL,e1,e2⟩:=gp.env.shape;have yz:=hC.bJ.bl _ (List.getElem_mem hk);obtain⟨aa,ca,e3⟩:=zD yz;have J8:=(hC.facts.each _ (List.getElem_mem qx)).t;obtain⟨ba,JT,e4⟩:=zD J8;have h4:bs[k].1.ae.length<=4:=hC.ae _ (by rw[hC.bJ.eq];exact List.mem_map_of_mem (List.getElem_mem hk));rw[e1] at x0;rw[e2] at x1;rw[e3] at y1;rw[e4] at z1;have gZ:∀ W,Below wr.heap.size wr W->Calls Tryz.prog 139 #[.agg #[.slice pz now[i].e.length pA,.slice br now[i].e.length dL],.agg #[.string bs[k].1.pred,.slice aa bs[k].1.ae.length ca,.bool bs[k].1.no,.int .i64 bs[k].1.at_,.int .i64 bs[k].1.az],.agg #[.string fs[f].F.aj.pred,.slice ba fs[f].F.aj.ae.length JT,.bool fs[f].F.aj.no,.int .i64 fs[f].F.aj.at_,.int .i64 fs[f].F.aj.az]] W (zkr W (.slice pz now[i].e.length pA) (.slice br now[i].e.length dL) (qA now[i].e bs[k].1 fs[f].F.aj)):=λ W hW=>by
    have hB:=hI.below.trans (hW.mono bj);have q1:=gp.env.below hW;rw[e1,e2] at q1;rw[e3] at yz;rw[e4] at J8;exact zze W 0 now[i].e bs[k].1 fs[f].F.aj pz br aa ba pA dL ca JT ⟨zG q1.ns (Nat.zero_le _),zG q1.ts (Nat.zero_le _),q1.nil⟩ (zG (zJ yz hB (λ g e=>(yz.lt g e).2)) (Nat.zero_le _)) (zG (zJ J8 hB (λ g e=>(J8.lt g e).2)) (Nat.zero_le _)) (by omega)
   have aP:=(z5s (a:=bs[k].1) (x:=now[i].W) (l:=fs.map (·.F)) (k:=f) (by simpa using qx));rw[List.getElem_map] at aP;have aC:=zC ((congrArg (next'.map (·.W)++·) aP).symm.trans (zA HF));have cJ:=zC gZ;have uO:=zC gp;have Fe:=zC (And.intro e1 e2);have Cc:(i:Int)<now.length:=(by omega);have nu:(k:Int)<bs.length:=(by omega);have mx:(f:Int)<fs.length:=(by omega);have b1:w.heap.size<wr.heap.size:=aH;clear hC hI iz Ab nT gp yz J8 gZ aP HF HC e1 e2 e3 e4 bj aH;generalize bs[k].1=A at *;generalize fs[f].F.aj=TH at *
   have HK:Hid (∀ W w':W8,Below wr.heap.size wr W->Below W.heap.size W w'->w'.cell? ⟨g5,i*3,none⟩=some (.slice pz now[i].e.length pA)/\w'.cell? ⟨g5,i*3+1,none⟩=some (.slice br now[i].e.length dL)/\w'.cell? ⟨w.heap.size,5,none⟩=some (.slice (some ⟨gb,0,none⟩) bs.length cb)/\w'.cell? ⟨gb,k*5,none⟩=some (.string A.pred)/\w'.cell? ⟨gb,k*5+1,none⟩=some (.slice aa A.ae.length ca)/\w'.cell? ⟨gb,k*5+2,none⟩=some (.bool A.no)/\w'.cell? ⟨gb,k*5+3,none⟩=some (.int .i64 A.at_)/\w'.cell? ⟨gb,k*5+4,none⟩=some (.int .i64 A.az)/\w'.cell? ⟨gl,f*10,none⟩=some (.string TH.pred)/\w'.cell? ⟨gl,f*10+1,none⟩=some (.slice ba TH.ae.length JT)/\w'.cell? ⟨gl,f*10+2,none⟩=some (.bool TH.no)/\w'.cell? ⟨gl,f*10+3,none⟩=some (.int .i64 TH.at_)/\w'.cell? ⟨gl,f*10+4,none⟩=some (.int .i64 TH.az)):=zC (λ W w' h1 h2=>by
    have hB:=h1.trans (h2.mono h1.size)
    exact⟨(hB.cell (by simpa using Am)).trans x0,(hB.cell (by simpa using Am)).trans x1,(hB.cell (by simpa using b1)).trans p5,(hB.cell (by simpa using oG)).trans y0,(hB.cell (by simpa using oG)).trans y1,(hB.cell (by simpa using oG)).trans y2,(hB.cell (by simpa using oG)).trans y3,(hB.cell (by simpa using oG)).trans y4,(hB.cell (by simpa using hZ)).trans z0,(hB.cell (by simpa using hZ)).trans z1,(hB.cell (by simpa using hZ)).trans z2,(hB.cell (by simpa using hZ)).trans z3,(hB.cell (by simpa using hZ)).trans z4⟩)
   have d5:¬ g5=wr.heap.size:=(by omega);have db:¬ gb=wr.heap.size:=(by omega);have dl:¬ gl=wr.heap.size:=(by omega);have dw:¬ w.heap.size=wr.heap.size:=(by omega);go_upto_region 13 with fail
   go_cut [10,11] from 39 to 81 (λ p ok wc=>∃ b dv bY,p=.pointer (some ⟨b,0,none⟩)/\ok=.bool (qA now[i].e A TH).isSome/\M3 wr (qA now[i].e A TH) b dv bY wc)
   case first=>
    clear aC uO Fe x2 HI
    cases hr:qA now[i].e A TH with
    | none=>
     rw[hr] at cJ
     go_region_held3 (λ w'=>w'.cell? ⟨g5,i*3,none⟩=some (.slice pz now[i].e.length pA)/\w'.cell? ⟨g5,i*3+1,none⟩=some (.slice br now[i].e.length dL)/\w'.cell? ⟨w.heap.size,5,none⟩=some (.slice (some ⟨gb,0,none⟩) bs.length cb)/\w'.cell? ⟨gb,k*5,none⟩=some (.string A.pred)/\w'.cell? ⟨gb,k*5+1,none⟩=some (.slice aa A.ae.length ca)/\w'.cell? ⟨gb,k*5+2,none⟩=some (.bool A.no)/\w'.cell? ⟨gb,k*5+3,none⟩=some (.int .i64 A.at_)/\w'.cell? ⟨gb,k*5+4,none⟩=some (.int .i64 A.az)/\w'.cell? ⟨gl,f*10,none⟩=some (.string TH.pred)/\w'.cell? ⟨gl,f*10+1,none⟩=some (.slice ba TH.ae.length JT)/\w'.cell? ⟨gl,f*10+2,none⟩=some (.bool TH.no)/\w'.cell? ⟨gl,f*10+3,none⟩=some (.int .i64 TH.at_)/\w'.cell? ⟨gl,f*10+4,none⟩=some (.int .i64 TH.az)) (first | go_keep | (refine⟨?_,?_,?_,?_,?_,?_,?_,?_,?_,?_,?_,?_,?_⟩ <;> (refine (zw5 ?_).trans ?_ <;> assumption))) ((go_at_call 139;refine (zA cJ _ (by first | exact B9.drew | exact (B9.alloc L9 _).drew | exact B9.drew.alloc L9 _)).mono ?_;rintro e w2 ⟨aK,oI,-⟩;obtain rfl:=oI rfl;obtain⟨m0,m1,m2,m3,m4,m5,m6,m7,m8,m9,m10,m11,m12⟩:=zA HK _ _ (by first | exact B9.drew | exact (B9.alloc L9 _).drew | exact B9.drew.alloc L9 _) aK;have nS:=λ (j:Nat) h=>aK.cell (p:=⟨wr.heap.size,j,none⟩) h;have oE:=λ (j:Nat) h=>aK.frozen (p:=⟨wr.heap.size,j,none⟩) h;clear oI))
     all_goals
      go_wp2_with fail;go_meet
      case rel=>
       rw[hr]
       first | exact⟨_,_,_,rfl,rfl,M3.behind (W:=wr.drew) B9.drew aK (λ _ h=>by cases h)⟩ | exact⟨_,_,_,rfl,rfl,M3.ahead (W:=(wr.alloc (.cells #[.slice none 0 0,.slice none 0 0] 258)).drew) (B9.alloc L9 _).drew L9 (heap_alloc_new wr _) aK (λ _ h=>by cases h)⟩
    | some E'=>
     rw[hr] at cJ
     go_region_held3 (λ w'=>w'.cell? ⟨g5,i*3,none⟩=some (.slice pz now[i].e.length pA)/\w'.cell? ⟨g5,i*3+1,none⟩=some (.slice br now[i].e.length dL)/\w'.cell? ⟨w.heap.size,5,none⟩=some (.slice (some ⟨gb,0,none⟩) bs.length cb)/\w'.cell? ⟨gb,k*5,none⟩=some (.string A.pred)/\w'.cell? ⟨gb,k*5+1,none⟩=some (.slice aa A.ae.length ca)/\w'.cell? ⟨gb,k*5+2,none⟩=some (.bool A.no)/\w'.cell? ⟨gb,k*5+3,none⟩=some (.int .i64 A.at_)/\w'.cell? ⟨gb,k*5+4,none⟩=some (.int .i64 A.az)/\w'.cell? ⟨gl,f*10,none⟩=some (.string TH.pred)/\w'.cell? ⟨gl,f*10+1,none⟩=some (.slice ba TH.ae.length JT)/\w'.cell? ⟨gl,f*10+2,none⟩=some (.bool TH.no)/\w'.cell? ⟨gl,f*10+3,none⟩=some (.int .i64 TH.at_)/\w'.cell? ⟨gl,f*10+4,none⟩=some (.int .i64 TH.az)) (first | go_keep | (refine⟨?_,?_,?_,?_,?_,?_,?_,?_,?_,?_,?_,?_,?_⟩ <;> (refine (zw5 ?_).trans ?_ <;> assumption))) ((go_at_call 139;refine (zA cJ _ (by first | exact B9.drew | exact (B9.alloc L9 _).drew | exact B9.drew.alloc L9 _)).mono ?_;rintro e w2 ⟨aK,-,sj⟩;obtain⟨dv,bY,rfl,sM⟩:=sj E' rfl;obtain⟨FE,FH,uP,FI,rfl,rfl⟩:=sM.shape;obtain⟨m0,m1,m2,m3,m4,m5,m6,m7,m8,m9,m10,m11,m12⟩:=zA HK _ _ (by first | exact B9.drew | exact (B9.alloc L9 _).drew | exact B9.drew.alloc L9 _) aK;have nS:=λ (j:Nat) h=>aK.cell (p:=⟨wr.heap.size,j,none⟩) h;have oE:=λ (j:Nat) h=>aK.frozen (p:=⟨wr.heap.size,j,none⟩) h;have I8:=zC sM;clear sj sM))
     all_goals
      go_wp2_with fail;go_meet
      case rel=>
       rw[hr]
       first | exact⟨_,_,_,rfl,rfl,M3.behind (W:=wr.drew) B9.drew aK (λ _ h=>by cases h;exact zA I8)⟩ | exact⟨_,_,_,rfl,rfl,M3.ahead (W:=(wr.alloc (.cells #[.slice none 0 0,.slice none 0 0] 258)).drew) (B9.alloc L9 _).drew L9 (heap_alloc_new wr _) aK (λ _ h=>by cases h;exact zA I8)⟩
   case rest=>
    generalize wc=wA at *;obtain⟨b,dv,bY,rfl,rfl,hM⟩:=hcut;have dG:=(zA HI).dQ hM.below;have mJ:=hM.below;have ly:=mJ.size;have eA:=zC dG
    cases hr:qA now[i].e A TH with
    | none=>
     have aO:=zC (show next'.map (·.W)++zht A now[i].W ((fs.map (·.F)).drop (f+1)) (f+1)=T by
      have:=zA aC;rw[show now[i].W.1=now[i].e from rfl,hr] at this
      simpa using this)
     clear aC hM HI cJ HK x0 x1 x2 y0 y1 y2 y3 y4 z0 z1 z2 z3 z4 p5 dG uO Fe hr mJ;go_wp2_with fail;go_roundg (fs.length-(f+1));exact⟨f+1,next',by omega,rfl,by go_num,zA eA,zA aO⟩;omega
    | some E'=>
     have sM:=hM.env E' hr;obtain⟨FE,FH,uP,FI,rfl,rfl⟩:=sM.shape
     have aO:=zC (show (next'.map (·.W)++[(E',now[i].fr++[f])])++zht A now[i].W ((fs.map (·.F)).drop (f+1)) (f+1)=T by
      have:=zA aC;rw[show now[i].W.1=now[i].e from rfl,hr] at this
      simpa[WG.W] using this)
     have Qf:next'.length+1<=1000000:=by
      have:=congrArg List.length (zA aO);simp only[List.length_append,List.length_map,List.length_singleton] at this;omega
     have MU:E'.length<=200:=(by have:=zn9 hr;omega);have hblk:=hM.bp;have R2:=zC sM;have mD:=zC hblk;have uZ:=(Array.getElem?_eq_some_iff.1 hblk).1;have qu:=hM.ge;have w2:wA.cell? ⟨g5,i*3+2,none⟩=some now[i].fv:=(mJ.cell (by simpa using Am)).trans x2;have ux:=zJ (zA uO).fr mJ (λ g e=>((zA uO).fr.lt g e).2);obtain⟨af,cf,Il⟩:=zD ux;rw[Il] at w2 ux;have Ei:now[i].fr=[]->af=none/\cf=0:=λ e=>by
      have:=(zA uO).nil e;rw[Il] at this;injection this with q1 q2 q3
      exact⟨q1,q3⟩
     have Hr:=zC Ei;have wO:=zC ux;obtain⟨i0,Af,bL,aY,bg⟩:=info_parts zua;clear aC hM HI cJ HK x0 x1 x2 y0 y1 y2 y3 y4 z0 z1 z2 z3 z4 p5 dG uO Fe hr mJ sM hblk ux Ei Il;generalize now[i].fr=NF at *;go_upto_region 16 with fail
     go_cut [12] from 39 to 81 (λ v wd=>wd.ownsRow wA.heap.size 3 1 v NF.length (zym NF)/\Below wA.heap.size wA wd)
     case first=>
      by_cases hE:NF=[]
      ·obtain⟨rfl,rfl⟩:=zA Hr hE;rw[hE] at wO w2;have VW:=zC hE;clear hE;go_wp2_with fail;go_meet
       case rel=>exact⟨by rw[zA VW];exact World.ownsRow_nil _ _ _ _,Below.refl _ _⟩
      ·have aJ:0<NF.length:=List.length_pos_iff.2 hE;obtain⟨g1,MQ,im,-,-,-,-⟩:=zce (zA wO) aJ;injection im with i1 i2 i3
       subst i1 i3;have dt:=zC (zp2 (zA wO));go_wp2_with (at_builtin;go_must (refine wpList_append_lies _ rfl _ _ _ rfl wA.heap.size 3 i0 (.int .i64 0) 1 8 Tryz.underlying24 Af bL aY bg rfl (by decide) (.slice none 0 0) 0 [] rfl (World.ownsRow_nil _ _ _ _) ⟨g1,0,none⟩ NF.length cf (zym NF) rfl (by simp[zym]) (zA dt) z7c aJ (by unfold maxLen;omega) (by omega) L9 _ rfl ?_;intro g cap w5 aq aU bW hlt5));go_meet
       case rel=>exact⟨by simpa using aq,zyp (zK.aR aU)⟩
     case rest=>
      generalize wc=wd at *;obtain⟨aB,Pp⟩:=hcut;obtain⟨SK,SX,rfl⟩:=zD aB;have Nn:=Pp.size;have HR:=zC (aB.alloc (.cells #[.int .i64 f] 3));have bX:=zC (zie (wd.alloc (.cells #[.int .i64 f] 3)) wd.heap.size (.int .i64 f) 3 (heap_alloc_new wd _));have lu:=zC (λ (w5:W8) (hg:(wd.alloc (.cells #[.int .i64 f] 3)).grownBy w5 (Value.slice SK NF.length SX).ownBlock)=>zY (Pp.alloc Nn (.cells #[.int .i64 f] 3)) (zK.aR hg) (by simp;omega) (λ x hx=>(aB.lt x (by simpa using hx)).1));clear aB Pp wO Hr w2;go_upto_region 17 with fail
      go_cut [12] from 39 to 81 (λ v we=>we.ownsRow wA.heap.size 3 1 v (NF.length+1) (zym (NF++[f]))/\Below wA.heap.size wA we)
      case first=>
       go_wp2_with (at_builtin;go_must (refine wpList_append_lies _ rfl _ _ _ rfl wA.heap.size 3 i0 (.int .i64 0) 1 8 Tryz.underlying24 Af bL aY bg rfl (by decide) (.slice SK NF.length SX) NF.length (zym NF) rfl (zA HR) ⟨wd.heap.size,0,none⟩ 1 1 [.int .i64 f] rfl rfl (zA bX) (by simp[Value.oneCell']) (by decide) (by unfold maxLen;omega) (by omega) (by simp;omega) _ rfl ?_;intro g cap w5 aq aU bW hlt5));go_meet
       case rel=>exact⟨by rw[Zv];exact aq,zA lu w5 aU⟩
      case rest=>
       clear HR bX lu;generalize wc=we at *;obtain⟨aB,J1⟩:=hcut;obtain⟨H8,H9,rfl⟩:=zD aB;have hse:=J1.size;have gA:=(zA eA).dQ J1;have Cb:=(zA R2).below J1;have hblk:=(J1.block b uZ).trans (zA mD);obtain⟨r0,U5⟩:=zB hblk 0;obtain⟨r1,GM⟩:=zB hblk 1;have Iz:wN we (w.heap.size+1) ⟨E',NF++[f],.slice FE E'.length FH,.slice uP E'.length FI,.slice H8 (NF.length+1) H9⟩:=⟨⟨zG Cb.ns (by omega),zG Cb.ts (by omega),Cb.nil⟩,by rw[List.length_append];exact zG aB (by omega),λ e=>by simp at e⟩;obtain⟨iw,P2,bC,dY,oP⟩:=info_parts z2q;have HR:=zC (gA.next.row.alloc (.cells #[.slice FE E'.length FH,.slice uP E'.length FI,.slice H8 (NF.length+1) H9] 325));have bX:=zC (World.news_of_block (heap_alloc_new we (.cells #[.slice FE E'.length FH,.slice uP E'.length FI,.slice H8 (NF.length+1) H9] 325)));have dO:=zC (λ (w5:W8) (g cap:Nat) hg ay du=>jo.add (w5:=w5) (g:=g) (cap:=cap) (W:=we.alloc (.cells #[.slice FE E'.length FH,.slice uP E'.length FI,.slice H8 (NF.length+1) H9] 325)) gA Iz ((zK.refl [] _).alloc _) hg ay du);have mf:=gA.lt;clear aB J1 gA Cb hblk Iz U5 GM eA R2 mD;go_wp2_with (at_builtin;go_must (refine wpList_append_lies _ rfl _ _ _ rfl (w.heap.size+1) 325 iw (.agg #[.slice none 0 0,.slice none 0 0,.slice none 0 0]) 3 72 Tryz.underlying322 P2 bC dY oP rfl (by decide) (.slice a7 next'.length c7) next'.length _ rfl (zA HR) ⟨we.heap.size,0,none⟩ 1 1 [.slice FE E'.length FH,.slice uP E'.length FI,.slice H8 (NF.length+1) H9] rfl rfl (zA bX) (by simp[Value.oneCell']) (by decide) (by unfold maxLen;omega) (by omega) (by simp;omega) _ rfl ?_;intro g cap w5 aq aU bW hlt5));have JA:=zC (zA dO w5 g cap aU aq bW);go_roundg (fs.length-(f+1));exact⟨f+1,next'++[⟨E',NF++[f],.slice FE E'.length FH,.slice uP E'.length FI,.slice H8 (NF.length+1) H9⟩],by omega,rfl,by go_num,zA JA,by rw[List.map_append];exact zA aO⟩;omega
  ·have HE:=zC (show next'.map (·.W)=T by rw[<-zA HF,List.drop_of_length_le (by simp;omega)];simp[zht]);clear HF;go_wp2_with fail;exact zA HX _ _ _ _ _ _ _ _ _ _ _ _ _ _ _ _ _ _ _ _ _ _ _ _ _ _ _ _ _ _ _ _ _ _ _ _ _ _ _ _ _ _ _ _ _ _ _ _ _ _ (zA HI) (zA HE)
end
end Go.Proofs.YtldkpahaocjdpaaGreat
