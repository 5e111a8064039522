/-
  The reference's round: a fact is moved down to its place.
-/
import Derived.Test.YtldkpahaocjdpaaGreatC32
set_option maxHeartbeats 16000000
set_option maxRecDepth 1000000
namespace Go.Proofs.YtldkpahaocjdpaaGreat
section
open Go.RowKit
theorem zxe (m:Nat)(h:m<=1000):IntKind.i64.wrap (m:Int)=m:=by
 simp[IntKind.wrap,IntKind.signed,IntKind.bits];omega
variable {k base:Nat} {fs:List FG} {v:Value} {w:W8}
theorem yW.split (h:yW w base v fs)(hk:k<fs.length):∃ g cap,v=.slice (some ⟨g,0,none⟩) fs.length cap/\base<=g/\g<w.heap.size/\fs.length<=cap/\cap<=maxLen/\w.heap.size=w.heap.size:=by
 obtain⟨g,cap,hv,hb,hl,hn,hc,_⟩:=zah h.row hk;exact⟨g,cap,hv,hb,hl,hn,hc,rfl⟩
variable {x:FG} {g n cap:Nat}
theorem zbt (h:yW w base (.slice (some ⟨g,0,none⟩) n cap) fs)(hk:k<fs.length)(hx:fs[k]=x):w.cell? ⟨g,k*10,none⟩=some (.string x.F.ao.pred)/\w.cell? ⟨g,k*10+1,none⟩=some x.tv/\w.cell? ⟨g,k*10+2,none⟩=some (.bool x.F.ao.no)/\w.cell? ⟨g,k*10+3,none⟩=some (.int .i64 x.F.ao.at_)/\w.cell? ⟨g,k*10+4,none⟩=some (.int .i64 x.F.ao.ak)/\w.cell? ⟨g,k*10+5,none⟩=some (.string x.F.text)/\w.cell? ⟨g,k*10+6,none⟩=some (.int .i64 x.F.s)/\w.cell? ⟨g,k*10+7,none⟩=some (.int .i64 x.F.h)/\w.cell? ⟨g,k*10+8,none⟩=some (.int .i64 x.F.r)/\w.cell? ⟨g,k*10+9,none⟩=some x.fv:=by
 obtain⟨g',kD,hv,_,_,_,_,hc⟩:=zah h.row hk;injection hv with q1 q2 q3
 injection q1 with q1
 injection q1 with q1
 subst q1;rw[hx] at hc;exact⟨hc 0 (by decide),hc 1 (by decide),hc 2 (by decide),hc 3 (by decide),hc 4 (by decide),hc 5 (by decide),hc 6 (by decide),hc 7 (by decide),hc 8 (by decide),hc 9 (by decide)⟩
theorem j5.shape (h:j5 w base x):∃ a1 a2 a3 a4,x.tv=.slice a1 x.F.ao.ae.length a2/\x.fv=.slice a3 x.F.fr.length a4:=by
 obtain⟨a1,a2,e1⟩:=zD h.t;obtain⟨a3,a4,e2⟩:=zD h.i;exact⟨a1,a2,a3,a4,e1,e2⟩
theorem yW.fz (h:yW w base (.slice (some ⟨g,0,none⟩) n cap) fs):∀ j,w.frozen? ⟨g,j,none⟩=false:=zg6 h.row
structure rQ (w:W8)(base:Nat)(v:Value)(zs:List FG)(wr:W8):Prop where
 below:Below w.heap.size w wr
 facts:yW wr base v zs
 ge:w.heap.size<=base
variable {wr:W8} {zs:List FG}
theorem rQ.dm {w':W8}(h:rQ w base v zs wr)(k:Below wr.heap.size wr w'):rQ w base v zs w':=⟨h.below.trans (k.mono h.below.size),h.facts.below k,h.ge⟩
theorem rQ.set {uu:List FG}(hn:n=zs.length)(h:rQ w base (.slice (some ⟨g,0,none⟩) n cap) zs wr)(hk:k<zs.length)(hx:j5 wr base x)(hz:zs.set k x=uu):rQ w base (.slice (some ⟨g,0,none⟩) n cap) uu (rj wr g k x):=by
 subst hn;subst hz;have hg:base<=g:=(h.facts.row.lt g rfl).1;have zu:=h.ge;exact⟨zY h.below (zhc [g] (by simp) k x) h.below.size (λ b hb=>by rw[List.mem_singleton.1 hb];omega),h.facts.rj hk hx,h.ge⟩
theorem z90 (w:W8)(base:Nat)(ag:O8)(n cap:Nat)(G8:n<=1000)(zs:List FG)(y:FG)(C:List FG)(i:Nat)(lI:zs.length=i)(ng:n=(zs++y::C).length)(Hi:zcy zs)(w1:W8)(hI:rQ w base (.slice ag n cap) (zs++y::C) w1)
  {Q:Exit->Act->W8->Prop} {c0 c1 c2 c3 c4 c5 c6 c7 c8 eQ gM iS fY gG eJ eL dU dR dx dy dz dA dB dC dD dE dF dG dL dM dN dO dP dV dW dX ee eg ei eo ep ev dd ew ey ez eA dY dZ eD eE dQ eZ fa fc di fe fg fh fi fj fl fm fo fp fH fI fJ fK fL gd gh gi gj gq gu gv fM fN fq ft fu fO fP fQ fR fU fV fW fX gw gy gz gA gB gC gD cg bq br bt bu bx bz bC bU bV bW bX bD bE bG bH bI bJ bK bL bM bj bk bn bN bO bP bQ aZ aW cH cI cJ cK cL dp dq dr dt du dv dc:Value}
  (aJ:∀ (uu:List FG) (w2:W8) (sC tX tY iM iN iO iP js jt ju jv jw jx jy jz kc kJ kK kL ke kf kg kh lx px py pz pA pB pC pD pE pF pG pH pI:Value),rQ w base (.slice ag n cap) (uu++C) w2->zcy uu->uu.Perm (zs++[y])->Q (.exit 6) ⟨List.toArray (c0::c1::c2::c3::c4::c5::c6::c7::c8::.slice ag n cap::eQ::gM::iS::fY::gG::eJ::.int .i64 i::sC::tX::tY::dR::dx::dy::dz::dA::dB::dC::dD::dE::dF::dG::dL::dM::dN::dO::dP::dV::dW::dX::ee::eg::ei::eo::ep::ev::dd::ew::ey::ez::eA::dY::dZ::eD::eE::dQ::eZ::fa::fc::di::fe::fg::fh::fi::fj::fl::fm::fo::fp::fH::fI::fJ::fK::fL::gd::gh::gi::gj::gq::gu::gv::fM::fN::fq::ft::fu::fO::fP::fQ::fR::fU::fV::fW::fX::gw::gy::gz::gA::gB::gC::gD::cg::bq::br::bt::bu::bx::bz::bC::iM::iN::iO::iP::js::jt::ju::jv::jw::jx::jy::jz::kc::kJ::kK::kL::ke::kf::kg::kh::lx::px::py::pz::pA::pB::pC::pD::pE::pF::pG::pH::pI::dc::[]),[]⟩ w2):
  Code.wp Tryz.prog (Code.loop (zub 3)) Q ⟨List.toArray (c0::c1::c2::c3::c4::c5::c6::c7::c8::.slice ag n cap::eQ::gM::iS::fY::gG::eJ::.int .i64 i::.int .i64 i::eL::dU::dR::dx::dy::dz::dA::dB::dC::dD::dE::dF::dG::dL::dM::dN::dO::dP::dV::dW::dX::ee::eg::ei::eo::ep::ev::dd::ew::ey::ez::eA::dY::dZ::eD::eE::dQ::eZ::fa::fc::di::fe::fg::fh::fi::fj::fl::fm::fo::fp::fH::fI::fJ::fK::fL::gd::gh::gi::gj::gq::gu::gv::fM::fN::fq::ft::fu::fO::fP::fQ::fR::fU::fV::fW::fX::gw::gy::gz::gA::gB::gC::gD::cg::bq::br::bt::bu::bx::bz::bC::bU::bV::bW::bX::bD::bE::bG::bH::bI::bJ::bK::bL::bM::bj::bk::bn::bN::bO::bP::bQ::aZ::aW::cH::cI::cJ::cK::cL::dp::dq::dr::dt::du::dv::dc::[]),[]⟩ w1:=by
 conv=>arg 2;arg 1;whnf
 have HI:=zC hI;have HX:=zC aJ;have EP:=zC ng;have MR:=zC lI;have Gg:=zC Hi;have ay:i<=1000:=by rw[List.length_append,List.length_cons] at ng;omega
 clear hI aJ ng lI Hi
 go_loopg [17] i (λ gg kk wr=>∃ (A:List FG) (x:FG) (B:List FG),gg=A.length/\kk=.int .i64 A.length/\A.length<=i/\rQ w base (.slice ag n cap) (A++x::(B++C)) wr/\Jj A x B/\(A++x::B).Perm (zs++[y]))
 exact⟨zs,y,[],(zA MR).symm,by rw[zA MR],Nat.le_of_eq (zA MR),zA HI,⟨by rw[List.append_nil];exact zA Gg,by simp⟩,List.Perm.refl _⟩
 case round=>
  clear HI Gg MR;obtain⟨A,x,B,IU,rfl,Tc,hI,D9,jd⟩:=hrel;rcases List.eq_nil_or_concat A with e | ⟨A',a,e⟩
  ·subst e;have HI:=zC (show rQ w base (.slice ag n cap) ((x::B)++C) wr from hI);have HS:=zC (show zcy (x::B) from D9.done (λ A' a h=>by simp at h));have HP:=zC (show (x::B).Perm (zs++[y]) from jd);clear hI D9 jd;go_wp2_with fail;apply zA HX
   ·exact zA HI
   ·exact zA HS
   ·exact zA HP
  ·rw[List.concat_eq_append] at e;subst e;have vf:n=(A'++a::x::(B++C)).length:=by
    have h1:=zA EP;have h2:=jd.length_eq;simp only[List.length_append,List.length_cons,List.length_nil] at h1 h2 ⊢;omega
   have C8:rQ w base (.slice ag n cap) (A'++a::x::(B++C)) wr:=(by simpa using hI);have PA:(A'++[a]).length=A'.length+1:=(by simp);rw[PA];rw[PA] at IU Tc;have kX:A'.length+1<(A'++a::x::(B++C)).length:=(by simp);have I2:A'.length<(A'++a::x::(B++C)).length:=(by simp);have gx:(A'++a::x::(B++C))[A'.length+1]=x:=(by simp);have ga:(A'++a::x::(B++C))[A'.length]=a:=(by simp);have aB:=C8.facts.row;rw[vf] at C8;obtain⟨g,kD,hv,Nt,bR,cZ,da,-⟩:=C8.facts.split kX;injection hv with q1 q2 q3
   subst q1 q3;rw[<-vf] at C8;have Aa:n<=cap:=(by rw[vf];exact cZ);obtain⟨x1,x2,x3,x4,Bi,Bj⟩:=(C8.facts.each x (by simp)).shape;obtain⟨a1,a2,a3,a4,Bf,Bg⟩:=(C8.facts.each a (by simp)).shape;obtain⟨p0,p1,p2,p3,p4,p5,p6,p7,p8,p9⟩:=zbt C8.facts kX gx;obtain⟨r0,r1,r2,r3,r4,r5,r6,r7,r8,r9⟩:=zbt C8.facts I2 ga;rw[Bi] at p1;rw[Bj] at p9;rw[Bf] at r1;rw[Bg] at r9;have tL:A'.length+1<n:=(by rw[vf];exact kX);have HI:=zC C8;have Ar:=zC vf;have DD:=zC D9;have xl:=zC jd;have Oy:=zC (And.intro (And.intro Bi Bj) (And.intro Bf Bg));obtain⟨m,hm⟩:∃ m,A'.length=m:=⟨_,rfl⟩;rw[hm] at p0 p1 p2 p3 p4 p5 p6 p7 p8 p9 r0 r1 r2 r3 r4 r5 r6 r7 r8 r9 tL IU Tc ⊢;have HM:=zC hm;have E8:((m+1:Nat):Int)=(m:Int)+1:=(by omega);rw[E8];clear E8;have w0:IntKind.i64.wrap (m:Int)=m:=zxe m (by omega);have Jf:IntKind.i64.wrap ((m:Int)+1-1)=m:=(by rw[Int.add_sub_cancel];exact w0);have i1:(m:Int)+1<n:=(by omega);have i2:(m:Int)<n:=(by omega);have i3:(0:Int)<(m:Int)+1:=(by omega);have i4:(0:Int)<=(m:Int)+1:=(by omega);clear hI C8 aB vf D9 jd PA kX I2 gx ga Bi Bj Bf Bg hm cZ;have lh:=zC (Below.refl wr.heap.size wr);go_upto_region 23 with fail
   go_cut [18] from 108 to 140 (λ u wc=>u=.bool (jN x.F a.F)/\Below wr.heap.size wr wc)
   case first=>
     have Gb:Hid (∀ W w':W8,Below wr.heap.size wr W->Below W.heap.size W w'->w'.cell? ⟨g,(m+1)*10,none⟩=some (.string x.F.ao.pred)/\w'.cell? ⟨g,(m+1)*10+1,none⟩=some (.slice x1 x.F.ao.ae.length x2)/\w'.cell? ⟨g,(m+1)*10+2,none⟩=some (.bool x.F.ao.no)/\w'.cell? ⟨g,(m+1)*10+3,none⟩=some (.int .i64 x.F.ao.at_)/\w'.cell? ⟨g,(m+1)*10+4,none⟩=some (.int .i64 x.F.ao.ak)/\w'.cell? ⟨g,(m+1)*10+5,none⟩=some (.string x.F.text)/\w'.cell? ⟨g,(m+1)*10+6,none⟩=some (.int .i64 x.F.s)/\w'.cell? ⟨g,(m+1)*10+7,none⟩=some (.int .i64 x.F.h)/\w'.cell? ⟨g,(m+1)*10+8,none⟩=some (.int .i64 x.F.r)/\w'.cell? ⟨g,(m+1)*10+9,none⟩=some (.slice x3 x.F.fr.length x4)/\w'.cell? ⟨g,m*10,none⟩=some (.string a.F.ao.pred)/\w'.cell? ⟨g,m*10+1,none⟩=some (.slice a1 a.F.ao.ae.length a2)/\w'.cell? ⟨g,m*10+2,none⟩=some (.bool a.F.ao.no)/\w'.cell? ⟨g,m*10+3,none⟩=some (.int .i64 a.F.ao.at_)/\w'.cell? ⟨g,m*10+4,none⟩=some (.int .i64 a.F.ao.ak)/\w'.cell? ⟨g,m*10+5,none⟩=some (.string a.F.text)/\w'.cell? ⟨g,m*10+6,none⟩=some (.int .i64 a.F.s)/\w'.cell? ⟨g,m*10+7,none⟩=some (.int .i64 a.F.h)/\w'.cell? ⟨g,m*10+8,none⟩=some (.int .i64 a.F.r)/\w'.cell? ⟨g,m*10+9,none⟩=some (.slice a3 a.F.fr.length a4)):=zC (λ W w' h1 h2=>by
      have hB:=h1.trans (h2.mono h1.size)
      exact⟨(hB.cell (by simpa using bR)).trans p0,(hB.cell (by simpa using bR)).trans p1,(hB.cell (by simpa using bR)).trans p2,(hB.cell (by simpa using bR)).trans p3,(hB.cell (by simpa using bR)).trans p4,(hB.cell (by simpa using bR)).trans p5,(hB.cell (by simpa using bR)).trans p6,(hB.cell (by simpa using bR)).trans p7,(hB.cell (by simpa using bR)).trans p8,(hB.cell (by simpa using bR)).trans p9,(hB.cell (by simpa using bR)).trans r0,(hB.cell (by simpa using bR)).trans r1,(hB.cell (by simpa using bR)).trans r2,(hB.cell (by simpa using bR)).trans r3,(hB.cell (by simpa using bR)).trans r4,(hB.cell (by simpa using bR)).trans r5,(hB.cell (by simpa using bR)).trans r6,(hB.cell (by simpa using bR)).trans r7,(hB.cell (by simpa using bR)).trans r8,(hB.cell (by simpa using bR)).trans r9⟩)
     go_region_held3 (λ w'=>w'.cell? ⟨g,(m+1)*10,none⟩=some (.string x.F.ao.pred)/\w'.cell? ⟨g,(m+1)*10+1,none⟩=some (.slice x1 x.F.ao.ae.length x2)/\w'.cell? ⟨g,(m+1)*10+2,none⟩=some (.bool x.F.ao.no)/\w'.cell? ⟨g,(m+1)*10+3,none⟩=some (.int .i64 x.F.ao.at_)/\w'.cell? ⟨g,(m+1)*10+4,none⟩=some (.int .i64 x.F.ao.ak)/\w'.cell? ⟨g,(m+1)*10+5,none⟩=some (.string x.F.text)/\w'.cell? ⟨g,(m+1)*10+6,none⟩=some (.int .i64 x.F.s)/\w'.cell? ⟨g,(m+1)*10+7,none⟩=some (.int .i64 x.F.h)/\w'.cell? ⟨g,(m+1)*10+8,none⟩=some (.int .i64 x.F.r)/\w'.cell? ⟨g,(m+1)*10+9,none⟩=some (.slice x3 x.F.fr.length x4)/\w'.cell? ⟨g,m*10,none⟩=some (.string a.F.ao.pred)/\w'.cell? ⟨g,m*10+1,none⟩=some (.slice a1 a.F.ao.ae.length a2)/\w'.cell? ⟨g,m*10+2,none⟩=some (.bool a.F.ao.no)/\w'.cell? ⟨g,m*10+3,none⟩=some (.int .i64 a.F.ao.at_)/\w'.cell? ⟨g,m*10+4,none⟩=some (.int .i64 a.F.ao.ak)/\w'.cell? ⟨g,m*10+5,none⟩=some (.string a.F.text)/\w'.cell? ⟨g,m*10+6,none⟩=some (.int .i64 a.F.s)/\w'.cell? ⟨g,m*10+7,none⟩=some (.int .i64 a.F.h)/\w'.cell? ⟨g,m*10+8,none⟩=some (.int .i64 a.F.r)/\w'.cell? ⟨g,m*10+9,none⟩=some (.slice a3 a.F.fr.length a4)) (go_keep) ((go_at_call 231;refine (zx6 _ x.F a.F x1 x3 a1 a3 _ _ _ _ x2 x4 a2 a4).mono ?_;rintro e w2 ⟨rfl,aH⟩;obtain⟨m0,m1,m2,m3,m4,m5,m6,m7,m8,m9,m10,m11,m12,m13,m14,m15,m16,m17,m18,m19⟩:=zA Gb _ _ (by exact B9.drew) aH;have kR:=zC ((Below.refl wr.heap.size wr).drew.trans (aH.mono (by exact Nat.le_refl _)));clear aH))
     all_goals
      go_wp2_with fail;go_meet
      case rel=>exact⟨rfl,zA kR⟩
   case rest=>
    generalize wc=wA at *;obtain⟨rfl,lA⟩:=hcut;have D0:=(zA HI).dm lA;have JI:=zC D0;clear p0 p1 p2 p3 p4 p5 p6 p7 p8 p9 r0 r1 r2 r3 r4 r5 r6 r7 r8 r9 lh
    cases hah:jN x.F a.F with
    | false=>
     have HS:=zC (show zcy (A'++a::x::B) by
      have:=(zA DD).done (λ A2 a2 h=>by
       have:=List.append_inj' h rfl;have h2:a=a2:=by simpa using this.2
       rw[<-h2];exact hah)
      simpa using this)
     have HP:=zC (show (A'++a::x::B).Perm (zs++[y]) by simpa using zA xl);have iR:=zC (show rQ w base (.slice (some ⟨g,0,none⟩) n cap) ((A'++a::x::B)++C) wA by simpa using D0);clear D0 DD xl hah lA;go_wp2_with fail;apply zA HX
     ·exact zA iR
     ·exact zA HS
     ·exact zA HP
    | true=>
     have AP:(A'++a::x::(B++C))[m+1]'(by have:=zA HM;simp;omega)=x:=by
      have:=zA HM;subst this;simp
     have Gu:(A'++a::x::(B++C))[m]'(by have:=zA HM;simp;omega)=a:=by
      have:=zA HM;subst this;simp
     obtain⟨⟨Bi,Bj⟩,⟨Bf,Bg⟩⟩:=zA Oy;obtain⟨p0,p1,p2,p3,p4,p5,p6,p7,p8,p9⟩:=zbt D0.facts _ AP;rw[Bi] at p1;rw[Bj] at p9;have EJ:=zC ((zA DD).down hah)
     have VV:=zC (show (A'++x::(a::B)).Perm (zs++[y]) from by
      refine List.Perm.trans ?_ (zA xl);rw[List.append_assoc]
      exact List.Perm.append_left _ (List.Perm.swap _ _ _))
     have XA:g<wA.heap.size:=(by have:=lA.size;omega);clear D0 DD xl hah lA AP Gu Bi Bj Bf Bg;go_upto_region 25 with fail
     go_cut [19] from 108 to 140 (λ u wc=>u=.pointer (some ⟨wA.heap.size,0,none⟩)/\wc.heap[wA.heap.size]?=some (.cells #[.string x.F.ao.pred,.slice x1 x.F.ao.ae.length x2,.bool x.F.ao.no,.int .i64 x.F.ao.at_,.int .i64 x.F.ao.ak,.string x.F.text,.int .i64 x.F.s,.int .i64 x.F.h,.int .i64 x.F.r,.slice x3 x.F.fr.length x4] 262 (0,0))/\Below wA.heap.size wA wc)
     case first=>
      go_wp2_with fail;go_meet
      case rel=>exact⟨rfl,heap_alloc_new wA _,B9.alloc L9 _⟩
     case rest=>
      generalize wc=wB at *;obtain⟨rfl,FJ,nL⟩:=hcut;have uX:=(zA JI).dm nL;obtain⟨⟨Bi,Bj⟩,⟨Bf,Bg⟩⟩:=zA Oy;have QF:m+1<(A'++a::x::(B++C)).length:=(by have:=zA HM;simp;omega);have IZ:m<(A'++a::x::(B++C)).length:=(by have:=zA HM;simp;omega);have AP:(A'++a::x::(B++C))[m+1]=x:=by
       have:=zA HM;subst this;simp
      have Gu:(A'++a::x::(B++C))[m]=a:=by
       have:=zA HM;subst this;simp
      obtain⟨s0,s1,s2,s3,s4,s5,s6,s7,s8,s9⟩:=zbt uX.facts QF AP;obtain⟨r0,r1,r2,r3,r4,r5,r6,r7,r8,r9⟩:=zbt uX.facts IZ Gu;rw[Bf] at r1;rw[Bg] at r9;have fz:=uX.facts.fz;have lY:(A'++a::x::(B++C)).set (m+1) a=A'++a::a::(B++C):=by
       have:=zA HM;subst this;simp
      have hR:=rQ.set (x:=a) (zA Ar) uX QF (uX.facts.each a (by simp)) lY;have Gn:j5 (rj wB g (m+1) a) base x:=(uX.facts.each x (by simp)).cq (zhc [g] (by simp) (m+1) a) (λ b hb=>yP uX.facts.row (by decide) b (by simpa[Value.ownBlock] using hb)) (λ b hb=>yP uX.facts.row (by decide) b (by simpa[Value.ownBlock] using hb));have Nv:(rj wB g (m+1) a).heap[wA.heap.size]?=some (.cells #[.string x.F.ao.pred,.slice x1 x.F.ao.ae.length x2,.bool x.F.ao.no,.int .i64 x.F.ao.at_,.int .i64 x.F.ao.ak,.string x.F.text,.int .i64 x.F.s,.int .i64 x.F.h,.int .i64 x.F.r,.slice x3 x.F.fr.length x4] 262 (0,0)):=by
       rw[(zhc [g] (by simp) (m+1) a).block _ (Array.getElem?_eq_some_iff.1 FJ).1 (by simp;omega)];exact FJ
      unfold rj at hR Nv Gn;rw[Bf,Bg] at hR Nv Gn;have Ss:=zC Gn;have HR:=zC hR;have SC:=zC Nv;clear uX FJ nL QF IZ AP Gu lY hR Nv Gn p0 p1 p2 p3 p4 p5 p6 p7 p8 p9 Bi Bj Bf Bg JI;go_upto_region 26 with fail
      go_cut [] from 108 to 140 (λ wc=>rQ w base (.slice (some ⟨g,0,none⟩) n cap) (A'++a::a::(B++C)) wc/\j5 wc base x/\wc.heap[wA.heap.size]?=some (.cells #[.string x.F.ao.pred,.slice x1 x.F.ao.ae.length x2,.bool x.F.ao.no,.int .i64 x.F.ao.at_,.int .i64 x.F.ao.ak,.string x.F.text,.int .i64 x.F.s,.int .i64 x.F.h,.int .i64 x.F.r,.slice x3 x.F.fr.length x4] 262 (0,0)))
      case first=>
       go_wp2_with fail;go_meet
       case rel=>exact⟨zA HR,zA Ss,zA SC⟩
      case rest=>
       generalize wc=wC at *;obtain⟨D1,Gn,Co⟩:=hcut;clear HR SC Ss s0 s1 s2 s3 s4 s5 s6 s7 s8 s9 r0 r1 r2 r3 r4 r5 r6 r7 r8 r9 fz;obtain⟨⟨Bi,Bj⟩,⟨Bf,Bg⟩⟩:=zA Oy;have IZ:m<(A'++a::a::(B++C)).length:=(by have:=zA HM;simp;omega);have Gu:(A'++a::a::(B++C))[m]=a:=by
        have:=zA HM;subst this;simp
       obtain⟨r0,r1,r2,r3,r4,r5,r6,r7,r8,r9⟩:=zbt D1.facts IZ Gu;obtain⟨s0,-⟩:=zB Co 0;obtain⟨s1,-⟩:=zB Co 1;obtain⟨s2,-⟩:=zB Co 2;obtain⟨s3,-⟩:=zB Co 3;obtain⟨s4,-⟩:=zB Co 4;obtain⟨s5,-⟩:=zB Co 5;obtain⟨s6,-⟩:=zB Co 6;obtain⟨s7,-⟩:=zB Co 7;obtain⟨s8,-⟩:=zB Co 8;obtain⟨s9,-⟩:=zB Co 9;have fz:=D1.facts.fz;have lY:(A'++a::a::(B++C)).set m x=A'++x::a::(B++C):=by
        have:=zA HM;subst this;simp
       have hlen:n=(A'++a::a::(B++C)).length:=(by have:=zA Ar;simp at this ⊢;omega);have hR:=rQ.set (x:=x) hlen D1 IZ Gn lY;unfold rj at hR;rw[Bi,Bj] at hR;have HR:=zC (show rQ w base (.slice (some ⟨g,0,none⟩) n cap) (A'++x::((a::B)++C)) _ from hR);clear D1 Gn Co IZ Gu lY hlen hR Bi Bj Bf Bg;go_wp2_with fail;go_roundg m;exact⟨A',x,a::B,(zA HM).symm,by rw[zA HM],by rw[zA HM];omega,zA HR,zA EJ,zA VV⟩;omega
end
section
open Go.RowKit
theorem z9z (w:W8)(base:Nat)(ag:O8)(n cap:Nat)(G8:n<=1000)(out:List FG)(ng:n=out.length)(w1:W8)(hI:rQ w base (.slice ag n cap) out w1)
  {Q:Exit->Act->W8->Prop} {c0 c1 c2 c3 c4 c5 c6 c7 c8 eQ gM iS fY gG eJ fZ eL dU dR dx dy dz dA dB dC dD dE dF dG dL dM dN dO dP dV dW dX ee eg ei eo ep ev dd ew ey ez eA dY dZ eD eE dQ eZ fa fc di fe fg fh fi fj fl fm fo fp fH fI fJ fK fL gd gh gi gj gq gu gv fM fN fq ft fu fO fP fQ fR fU fV fW fX gw gy gz gA gB gC gD cg bq br bt bu bx bz bC bU bV bW bX bD bE bG bH bI bJ bK bL bM bj bk bn bN bO bP bQ aZ aW cH cI cJ cK cL dp dq dr dt du dv dc:Value}
  (aJ:∀ (uu:List FG) (w2:W8) (u16 sC tX tY jk jl jm jn jo jq jr iM iN iO iP js jt ju jv jw jx jy jz kc kJ kK kL ke kf kg kh lx px py pz pA pB pC pD pE pF pG pH pI:Value),rQ w base (.slice ag n cap) uu w2->zcy uu->uu.Perm out->Q (.exit 4) ⟨List.toArray (c0::c1::c2::c3::c4::c5::c6::c7::c8::.slice ag n cap::eQ::gM::iS::fY::gG::eJ::u16::sC::tX::tY::dR::dx::dy::dz::dA::dB::dC::dD::dE::dF::dG::dL::dM::dN::dO::dP::dV::dW::dX::ee::eg::ei::eo::ep::ev::dd::ew::ey::ez::eA::dY::dZ::eD::eE::dQ::eZ::fa::fc::di::fe::fg::fh::fi::fj::fl::fm::fo::fp::fH::fI::fJ::fK::fL::gd::gh::gi::gj::gq::gu::gv::fM::fN::fq::ft::fu::fO::fP::fQ::fR::fU::fV::fW::fX::gw::gy::gz::gA::gB::gC::gD::cg::jk::jl::jm::jn::jo::jq::jr::iM::iN::iO::iP::js::jt::ju::jv::jw::jx::jy::jz::kc::kJ::kK::kL::ke::kf::kg::kh::lx::px::py::pz::pA::pB::pC::pD::pE::pF::pG::pH::pI::dc::[]),[]⟩ w2):
  Code.wp Tryz.prog (Code.loop (zub 2)) Q ⟨List.toArray (c0::c1::c2::c3::c4::c5::c6::c7::c8::.slice ag n cap::eQ::gM::iS::fY::gG::eJ::.int .i64 1::fZ::eL::dU::dR::dx::dy::dz::dA::dB::dC::dD::dE::dF::dG::dL::dM::dN::dO::dP::dV::dW::dX::ee::eg::ei::eo::ep::ev::dd::ew::ey::ez::eA::dY::dZ::eD::eE::dQ::eZ::fa::fc::di::fe::fg::fh::fi::fj::fl::fm::fo::fp::fH::fI::fJ::fK::fL::gd::gh::gi::gj::gq::gu::gv::fM::fN::fq::ft::fu::fO::fP::fQ::fR::fU::fV::fW::fX::gw::gy::gz::gA::gB::gC::gD::cg::bq::br::bt::bu::bx::bz::bC::bU::bV::bW::bX::bD::bE::bG::bH::bI::bJ::bK::bL::bM::bj::bk::bn::bN::bO::bP::bQ::aZ::aW::cH::cI::cJ::cK::cL::dp::dq::dr::dt::du::dv::dc::[]),[]⟩ w1:=by
 conv=>arg 2;arg 1;whnf
 have HI:=zC hI;have HX:=zC aJ;have EP:=zC ng;clear hI aJ ng
 go_loopg [16] (n-1) (λ gg ii wr=>∃ (i:Nat) (zs C:List FG),gg=n-i/\ii=.int .i64 i/\i<=n+1/\1<=i/\rQ w base (.slice ag n cap) (zs++C) wr/\zcy zs/\(zs++C).Perm out/\(zs.length=i\/out=[]))
 case atStart=>
  have hI:=zA HI
  cases out with
  | nil=>exact⟨1,[],[],rfl,rfl,by omega,Nat.le_refl _,hI,List.Pairwise.nil,List.Perm.refl _,.inr rfl⟩
  | cons y r=>
   exact⟨1,[y],r,rfl,rfl,by omega,Nat.le_refl _,hI,List.pairwise_singleton _ _,List.Perm.refl _,.inl rfl⟩
 case round=>
  clear HI;obtain⟨i,zs,C,IV,rfl,ay,hi1,hI,Hi,jd,NH⟩:=hrel;have hlen:(zs++C).length=n:=by rw[jd.length_eq,zA EP]
  by_cases jb:i<n
  ·have rF:(i:Int)<n:=(by omega);have NT:zs.length=i:=by
    rcases NH with h | h
    ·exact h
    ·have:=zA EP;rw[h] at this;simp at this;omega
   cases C with
   | nil=>simp at hlen;omega
   | cons y C=>
    have HI:=zC hI;have Gg:=zC Hi;have HP:=zC jd;have HZ:=zC NT;have Ar:=zC hlen;clear hI Hi jd NT NH hlen;go_wp2_with fail;refine z90 w base ag n cap G8 zs y C i (zA HZ) (zA Ar).symm (zA Gg) wr (zA HI) ?_;intro uu w8;intros;rename_i hI8 IN hP8;have CZ:=zC hI8;have Wd:=zC IN;have VS:=zC (show (uu++C).Perm out from ((List.Perm.append_right C hP8).trans (by rw[List.append_assoc];exact List.Perm.refl _)).trans (zA HP));have VI:=zC (show uu.length=i+1 by rw[hP8.length_eq,List.length_append,zA HZ];rfl);clear hI8 IN hP8 HI Gg HP HZ Ar;go_wp2_with fail;go_roundg (n-(i+1));exact⟨i+1,uu,C,rfl,by go_num,by omega,by omega,zA CZ,zA Wd,zA VS,.inl (zA VI)⟩;omega
  ·have W2:C=[]:=by
    rcases NH with h | h
    ·rw[List.length_append] at hlen;exact List.eq_nil_of_length_eq_zero (by omega)
    ·rw[h] at jd;have:=jd.eq_nil;exact (List.append_eq_nil_iff.1 this).2
   subst W2;rw[List.append_nil] at hI jd;have HI:=zC hI;have Gg:=zC Hi;have HP:=zC jd;clear hI Hi jd NH hlen;go_wp2_with fail;apply zA HX
   ·exact zA HI
   ·exact zA Gg
   ·exact zA HP
structure MN (w:W8)(l:List zQ)(T:List zQ × Bool)(v:Value)(out:List FG)(w':W8):Prop where
 facts:yW w' w.heap.size v out
 gH:out.length<=51
 below:Below w.heap.size w w'
 stop:T.2=true->out.map (·.F)=T.1
 perm:T.2=false->zcy out/\(out.map (·.F)).Perm T.1
def z6s (w:W8)(l:List zQ)(T:List zQ × Bool):Ending->W8->Prop:=λ e w'=>∃ v out,e=.returned v/\MN w l T v out w'
theorem z09 (w:W8)(o:Nat)(rs:List RR)(ps:P9)(rv pv tv:Value)(gs:Nat)(S:Nat->Nat)(base:Nat)(fs:List FG)(al:O8)(cl:Nat)(hC:z8w w o rs ps rv pv tv gs S base fs (.slice al fs.length cl))(s n:Nat):
  Calls Tryz.prog 196 #[.pointer (some ⟨o,0,none⟩),.slice al fs.length cl,.int .i64 s,.int .i64 n] w (z6s w (fs.map (·.F)) (vR (fs.map (·.F)) (za3 ps S (fs.map (·.F)) s n (rs.map (·.R)) 0) [])):=by
 have HC:=zC hC;have H0:=zC (show Dl w (.slice none 0 0) [] w from ⟨Below.refl _ _,World.ownsRow_nil _ _ _ _,by simp⟩);clear hC;go_enter Tryz.func196,Tryz.ntmps196;go_wp2_with fail;refine z9x w o rs ps rv pv tv gs S base fs al cl (zA HC) s n w (zA H0) ?_ ?_
 ·intro v9 out w2;intros;rename_i hI hl hT;obtain⟨a9,c9,rfl⟩:=zD hI.out.row;have HI:=zC (show rQ w w.heap.size (.slice a9 out.length c9) out w2 from ⟨hI.below,hI.out,Nat.le_refl _⟩);have HT:=zC hT;clear hI hT H0;go_wp2_with fail;refine z9z w w.heap.size a9 out.length c9 (by omega) out rfl w2 (zA HI) ?_;intro uu w3;intros;rename_i iV TG IM;have hlen:=IM.length_eq;have HF:=zC (show MN w (fs.map (·.F)) (vR (fs.map (·.F)) (za3 ps S (fs.map (·.F)) s n (rs.map (·.R)) 0) []) (.slice a9 out.length c9) uu w3 from ⟨iV.facts,by omega,iV.below,(λ h=>by rw[zA HT] at h;cases h),λ _=>⟨TG,by rw[zA HT];exact IM.map _⟩⟩);clear iV TG IM HI HT hlen;go_wp2_with fail;go_ret;exact⟨_,uu,rfl,zA HF⟩
 ·intro v9 out w2;intros;rename_i hI hl hT;obtain⟨a9,c9,rfl⟩:=zD hI.out.row;have HF:=zC (show MN w (fs.map (·.F)) (vR (fs.map (·.F)) (za3 ps S (fs.map (·.F)) s n (rs.map (·.R)) 0) []) (.slice a9 out.length c9) out w2 from ⟨hI.out,hl,hI.below,λ _=>by rw[hT],λ h=>by rw[hT] at h;cases h⟩);clear hI hT H0;go_ret;exact⟨_,out,rfl,zA HF⟩
end
section
open Go.RowKit
def zde (e:Env):Prop:=∀ p∈e,p.2.size<=1000
def zu1 (ts:List xK):Prop:=∀ t∈ts,t.text.size<=1000
def zad (f:zQ):Prop:=zu1 f.ao.ae
structure zgo (a:zL):Prop where
 pd:a.pred.size<=1000
 ts:zu1 a.ae
 gH:a.ae.length<=4
variable {e:Env}
theorem z3h (h:zde e)(n:B8):(ziw e n).size<=1000:=by
 induction e with
 | nil=>simp[ziw,ByteArray.size]
 | cons x r ih=>
  rw[ziw]
  split
  ·exact h x List.mem_cons_self
  ·exact ih (λ p hp=>h p (List.mem_cons_of_mem _ hp))
theorem zyy (h:zde e){t:xK}(ht:t.text.size<=1000):(qY e t).size<=1000:=by
 unfold qY
 split
 ·exact z3h h _
 ·exact ht
theorem zh2:∀ (ts us:List xK) (e e':Env),zde e->zu1 us->jB e ts us=some e'->zde e'
 | [],us,e,e',h,_,hm=>by cases us <;> (rw[jB] at hm <;> first | (cases hm;exact h) | simp_all)
 | t::ts,[],e,e',h,_,hm=>by rw[jB] at hm <;> first | (cases hm;exact h) | simp_all
 | t::ts,u::us,e,e',h,hu,hm=>by
  have nH:zu1 us:=λ x hx=>hu x (List.mem_cons_of_mem _ hx)
  rw[jB] at hm
  split at hm
  ·refine zh2 ts us _ _ (λ p hp=>?_) nH hm;rcases List.mem_append.1 hp with hp | hp
   ·exact h p hp
   ·rw[List.mem_singleton.1 hp];exact hu u List.mem_cons_self
  ·split at hm
   ·exact zh2 ts us _ _ h nH hm
   ·cases hm
theorem zpq {e':Env}{a t:zL}(h:zde e)(ht:zu1 t.ae)(hm:vN e a t=some e'):zde e':=by
 unfold vN at hm
 split at hm
 ·exact zh2 _ _ _ _ h ht hm
 ·cases hm
theorem z17 {a:zL}{x:Way}(hx:zde x.1):∀ (l:List zQ) (i:Nat),(∀ f∈l,zad f)->∀ y∈zgn a x l i,zde y.1
 | [],_,_,y,hy=>by simp[zgn] at hy
 | f::r,i,hl,y,hy=>by
  rw[zgn,List.mem_append] at hy;rcases hy with hy | hy
  ·split at hy
   ·rename_i e he;rw[List.mem_singleton.1 hy];exact zpq hx (hl f List.mem_cons_self) he
   ·simp at hy
  ·exact z17 hx r (i+1) (λ g hg=>hl g (List.mem_cons_of_mem _ hg)) y hy
theorem z2a {l:List zQ}(hl:∀ f∈l,zad f):∀ (b:List zL) (now:List Way),(∀ x∈now,zde x.1)->∀ y∈zis l b now,zde y.1
 | [],now,h,y,hy=>h y hy
 | a::r,now,h,y,hy=>by
  rw[zis] at hy;refine z2a hl r _ ?_ y hy
  split
  ·exact h
  ·intro x hx;obtain⟨z,hz,hx⟩:=List.mem_flatMap.1 hx;exact z17 (h z hz) l 0 hl x hx
variable {l:List zQ}
theorem zog (hl:∀ f∈l,zad f)(b:List zL):∀ y∈zis l b [([],[])],zde y.1:=z2a hl b _ (λ x hx=>by rw[List.mem_singleton.1 hx];intro p hp;cases hp)
theorem zgc:∀ (ts:List (Bool × B8)) (i:Nat),(∀ t∈ts,t.2.size<=1000)->(vG ts i).length<=ts.length*1001
 | [],_,_=>by simp[vG]
 | t::r,i,h=>by
  have h1:=zgc r (i+1) (λ x hx=>h x (List.mem_cons_of_mem _ hx));have h2:=h t List.mem_cons_self;rw[vG,List.length_cons,List.length_append,List.length_cons,Nat.succ_mul];have:t.2.data.toList.length=t.2.size:=qR _;omega
theorem zt3 {a:zL}(he:zde e)(ha:zgo a):zu1 (bf e a).ae:=by
 intro t ht;obtain⟨u,hu,rfl⟩:=List.mem_map.1 ht;exact zyy he (ha.ts u hu)
theorem znw {a:zL}(he:zde e)(ha:zgo a):(xS (bf e a)).length<=1000000000:=by
 have h1:=zgc ((bf e a).ae.map gZ) 0 (λ t ht=>by
  obtain⟨u,hu,rfl⟩:=List.mem_map.1 ht
  exact zt3 he ha u hu)
 have h2:(bf e a).ae.length=a.ae.length:=by simp[bf]
 have h3:=ha.gH;have h4:=ha.pd;unfold xS zhu;rw[List.length_map,h2] at h1;rw[List.length_append,List.length_append];have h5:(bf e a).pred.data.toList.length=a.pred.size:=qR _;have h6:(if ((bf e a).ae.map gZ).length=0 then ([]:List UInt8) else [41]).length<=1:=by split <;> simp
 have h7:a.ae.length*1001<=4*1001:=Nat.mul_le_mul_right _ h3;omega
variable {out:List zQ}
theorem z6x {f:zQ}(h:∀ x∈out,zad x)(hf:zad f):∀ x∈lT l out f,zad x:=by
 intro x hx;unfold lT at hx
 split at hx
 ·rcases List.mem_append.1 hx with hx | hx
  ·exact h x hx
  ·rw[List.mem_singleton.1 hx];exact hf
 ·exact h x hx
theorem zul {l:List zQ}:∀ (cs out:List zQ),(∀ f∈cs,zad f)->(∀ x∈out,zad x)->∀ x∈(vR l cs out).1,zad x
 | [],out,_,h=>h
 | f::r,out,hc,h=>by
  rw[vR]
  split
  ·exact h
  ·exact zul r _ (λ g hg=>hc g (List.mem_cons_of_mem _ hg)) (z6x h (hc f List.mem_cons_self))
theorem ztb {ps:P9}{S:Nat->Nat}{l:List zQ}{s n:Nat}(hl:∀ f∈l,zad f):∀ (rs:List zP) (i:Nat),(∀ R∈rs,∀ a∈R.head::R.body,zgo a)->∀ f∈za3 ps S l s n rs i,zad f
 | [],_,_,f,hf=>by simp[za3] at hf
 | R::r,i,hr,f,hf=>by
  rw[za3,List.mem_append] at hf;rcases hf with hf | hf
  ·split at hf
   ·obtain⟨x,hx,rfl⟩:=List.mem_map.1 hf;exact zt3 (zog hl R.body x (List.mem_filter.1 hx).1) (hr R List.mem_cons_self _ List.mem_cons_self)
   ·simp at hf
  ·exact ztb hl r (i+1) (λ Q hQ=>hr Q (List.mem_cons_of_mem _ hQ)) f hf
def FQ (ps:P9)(S:Nat->Nat)(rs:List zP)(l:List zQ)(s n:Nat)(out:List zQ):Prop:=
 ((vR l (za3 ps S l s n rs 0) []).2=true/\out=(vR l (za3 ps S l s n rs 0) []).1)\/((vR l (za3 ps S l s n rs 0) []).2=false/\out.Pairwise (λ x y=>jN y x=false)/\out.Perm (vR l (za3 ps S l s n rs 0) []).1)
inductive zbk (ps:P9)(S:Nat->Nat)(rs:List zP)(aq s:Nat):Nat->List zQ->Option (List zQ)->Prop
 | Cu {n:Nat} {l out:List zQ}:FQ ps S rs l s n out->aq<l.length+out.length->zbk ps S rs aq s n l none
 | done {n:Nat} {l:List zQ}:FQ ps S rs l s n []->l.length<=aq->zbk ps S rs aq s n l (some l)
 | more {n:Nat} {l out:List zQ} {r:Option (List zQ)}:FQ ps S rs l s n out->out≠[]->l.length+out.length<=aq->zbk ps S rs aq s (n+1) (l++out) r->zbk ps S rs aq s n l r
inductive zld (ps:P9)(S:Nat->Nat)(rs:List zP)(aq fk:Nat):Nat->List zQ->Option (List zQ)->Prop
 | ends {s:Nat} {l:List zQ}:fk<s->zld ps S rs aq fk s l (some l)
 | E4 {s:Nat} {l:List zQ}:s<=fk->zbk ps S rs aq s 1 l none->zld ps S rs aq fk s l none
 | next {s:Nat} {l l':List zQ} {r:Option (List zQ)}:s<=fk->zbk ps S rs aq s 1 l (some l')->zld ps S rs aq fk (s+1) l' r->zld ps S rs aq fk s l r
variable {v:Value} {s n:Nat} {rs:List zP} {S:Nat->Nat} {ps:P9}
theorem MN.rel {w:W8}{out:List FG}{w':W8}(h:MN w l (vR l (za3 ps S l s n rs 0) []) v out w'):FQ ps S rs l s n (out.map (·.F)):=by
 cases hT:(vR l (za3 ps S l s n rs 0) []).2 with
 | true=>exact .inl ⟨hT,h.stop hT⟩
 | false=>
  obtain⟨h1,h2⟩:=h.perm hT;exact .inr ⟨hT,List.pairwise_map.2 h1,h2⟩
theorem FQ.ok (h:FQ ps S rs l s n out)(hl:∀ f∈l,zad f)(hr:∀ R∈rs,∀ a∈R.head::R.body,zgo a):∀ f∈out,zad f:=by
 have hk:=zul (l:=l) (za3 ps S l s n rs 0) [] (ztb hl rs 0 hr) (by simp);rcases h with⟨_,rfl⟩ | ⟨_,_,hp⟩
 ·exact hk
 ·exact λ f hf=>hk f (hp.mem_iff.1 hf)
theorem yW.app {wX W w5:W8}{base:Nat}{v':Value}{fs out:List FG}(h:yW wX base v fs)(ho:∀ x∈out,j5 wX base x)(hW:zN [] wX W)(hg:W.grownBy w5 v.ownBlock)(aC:w5.ownsRow base 262 10 v' (fs.length+out.length) (fs.flatMap FG.cells++out.flatMap FG.cells)):yW w5 base v' (fs++out):=by
 have k5:zN v.ownBlock.toList wX w5:=(hW.mono (by simp)).trans (zN.aN hg);have n1:∀ b∈v.ownBlock.toList,iq wX 317 b:=yP h.row (by decide);have n2:∀ b∈v.ownBlock.toList,iq wX 3 b:=yP h.row (by decide);refine⟨?_,λ y hy=>?_⟩
 ·rw[List.length_append,List.flatMap_append];exact aC
 ·rcases List.mem_append.1 hy with hy | hy
  ·exact (h.each y hy).cq k5 n1 n2
  ·exact (ho y hy).cq k5 n1 n2
end
end Go.Proofs.YtldkpahaocjdpaaGreat
