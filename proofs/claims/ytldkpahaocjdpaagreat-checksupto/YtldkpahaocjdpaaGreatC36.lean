/-
  The reference's Model.
-/
import Derived.Test.YtldkpahaocjdpaaGreatC33
import Derived.Deep.Upon
set_option maxHeartbeats 16000000
set_option maxRecDepth 1000000
namespace Go.Proofs.YtldkpahaocjdpaaGreat
section
open Go.RowKit
noncomputable def z0c (k:Nat):Code:=((Tryz.f138.body.map zbf).getD []).getD k .skip
structure AX (w:W8)(o:Nat)(rs:List RR)(ps:P9)(rv pv tv:Value)(gs:Nat)(S:Nat->Nat):Prop where
 prog:ziv w o rs ps rv pv tv (.slice (some ⟨gs,0,none⟩) ps.length ps.length)
 jf:nk w gs ps.length S
 body:∀ r∈rs,r.bs.length<=3
 atoms:∀ r∈rs,∀ a∈r.R.head::r.R.body,zgo a
 Ev:∀ r∈rs,0<=zM ps r.R.head.pred
structure AW (w:W8)(v:Value)(fs:List FG)(wr:W8):Prop where
 below:Below w.heap.size w wr
 facts:yW wr w.heap.size v fs
 ok:∀ f∈fs.map (·.F),zad f
variable {w:W8}
theorem AW.ctx {o:Nat}{rs:List RR}{ps:P9}{rv pv tv:Value}{gs:Nat}{S:Nat->Nat}{v:Value}{fs:List FG}{wr:W8}(h:AW w v fs wr)(hC:AX w o rs ps rv pv tv gs S)(hf:fs.length<=50):z8w wr o rs ps rv pv tv gs S w.heap.size fs v:=
 ⟨hC.prog.kept ((zN.refl [] _).ai h.below) (by simp),hC.jf.kept ((zN.refl [] _).ai h.below),h.facts,hf,hC.body,λ r hr a ha=>(hC.atoms r hr a ha).gH,hC.Ev,λ r hr x hx a ha=>znw (zog h.ok _ x hx) (hC.atoms r hr a ha)⟩
variable {base:Nat}
theorem zyo {out:List FG}(h:∀ x∈out,j5 w base x):∀ u∈out.flatMap FG.cells,u.oneCell'=true:=by
 intro u hu;obtain⟨x,hx,hu⟩:=List.mem_flatMap.1 hu;obtain⟨a1,a2,a3,a4,e1,e2⟩:=(h x hx).shape;simp only[FG.cells,e1,e2,List.mem_cons,List.not_mem_nil,or_false] at hu;rcases hu with rfl | rfl | rfl | rfl | rfl | rfl | rfl | rfl | rfl | rfl <;> rfl
variable {xs:V8} {size n cap:Nat} {e:TypeId}
theorem zqf {g:Nat}(h:w.ownsRow base e size (.slice (some ⟨g,0,none⟩) n cap) n xs):∀ j u,xs[j]?=some u->w.cell? ((⟨g,0,none⟩:Addr).add j)=some u:=by
 intro j u hj;have hl:xs.length=n*size:=h.1;have aG:j<xs.length:=(List.getElem?_eq_some_iff.1 hj).1;rcases h.2 with⟨h1,_⟩ | ⟨g',kD,cur,hv,hb,hg,cZ,da,ll,ht⟩
 ·cases h1
 ·injection hv with h1 h2 h3
  injection h1 with h1
  injection h1 with h1
  subst h1;have:=h.cellAt j (by omega);unfold Addr.add
  split <;> simp_all
theorem zcx {P:Program}{ops:Array Oper}{rest:List Oper}{o:Oper}{a:Act}{Q:Exit->Act->W8->Prop}(Ll:o.guard=none)(s x:Operand)(t:TypeId)(ho:o.op=.call { callee:=.builtin .append,args:=#[s,x],argTypes:=#[t,t] })(v xv:Value)(hs:a.eval s=v)(hx:a.eval x=xv)(hr:∀ ty,(Builtin.append_ #[t,t] ty #[v,xv]).run P w=.ok v w)(h:wpList P ops Q rest (a.put o.dst v) w):wpList P ops Q (o::rest) a w:=
 wpList_plain Ll λ _ hK=>by
  unfold Oper.wp execOp;simp only[ho,resolve,invoke,builtin,Sem.run_bind,Sem.run_pure,Result.andThen_ok,List.map_toArray,List.map_cons,List.map_nil,hs,hx,hr];exact hK _ _ h
theorem z27 (w:W8)(b:O8)(n c:Nat)(h:n<=c)(a:O8)(c':Nat)(ty:TypeId):(Builtin.append_ #[250,250] ty #[.slice b n c,.slice a 0 c']).run Tryz.prog w=.ok (.slice b n c) w:=by
 obtain⟨i0,tI,cQ,cz,cx⟩:=info_parts zi8;refine run_append_nothing w _ _ _ 262 i0 Tryz.underlying250 tI b n c h _ ?_
 cases a with
 | none=>exact Src.ofNil w Tryz.underlying250 c'
 | some a=>exact Src.ofSlice w Tryz.underlying250 a 0 c' [] (by simp) (by simp) (by simp)
theorem z7x {a:O8}(h:w.ownsRow base e size (.slice a n cap) n xs):n<=cap:=by
 rcases h.2 with⟨h1,h0⟩ | ⟨g',kD,cur,hv,hb,hg,cZ,da,ll,ht⟩
 ·omega
 ·injection hv with h1 h2 h3
  omega
theorem z9k (w:W8)(o:Nat)(rs:List RR)(ps:P9)(rv pv tv:Value)(gs:Nat)(S:Nat->Nat)(hC:AX w o rs ps rv pv tv gs S)(aq s:Nat)(hlim:aq<=50)(v6:Value)(fs:List FG)(lG:fs.length<=aq)(w1:W8)(hI:AW w v6 fs w1)
  {Q:Exit->Act->W8->Prop} {c2 c3 c7 c8 iS fY gG eJ eY fZ eL dU dR dx dy dz dA dB dC dD dE dF dG dL dM dN dO dP dV dW dX ee eg ei eo ep ev dd ew ey ez eA dY dZ eD eE dQ:Value}
  (aJ:∀ (EC:Value) (jh:List FG) (w2:W8) (rk rl oh rm rq rr pK pL pM pN pO pP pQ pR pS pT pU ry rz om oq:Value),AW w EC jh w2->jh.length<=aq->zbk ps S (rs.map (·.R)) aq s 1 (fs.map (·.F)) (some (jh.map (·.F)))->Q (.exit 4) ⟨List.toArray (.pointer (some ⟨o,0,none⟩)::.int .i64 aq::c2::c3::.slice none 0 0::.bool false::EC::c7::c8::.int .i64 s::rk::rl::oh::fY::gG::eJ::eY::fZ::eL::dU::dR::dx::dy::dz::dA::dB::dC::dD::dE::dF::dG::dL::dM::dN::dO::dP::rm::rq::rr::pK::pL::pM::pN::pO::pP::pQ::pR::pS::pT::pU::ry::rz::om::oq::dQ::[]),[]⟩ w2)
  (gE:∀ (EC:Value) (w2:W8) (rk rl oh rm rq rr pK pL pM pN pO pP pQ pR pS pT pU ry rz om oq:Value),Below w.heap.size w w2->zbk ps S (rs.map (·.R)) aq s 1 (fs.map (·.F)) none->Q .ret ⟨List.toArray (.pointer (some ⟨o,0,none⟩)::.int .i64 aq::c2::c3::.slice none 0 0::.bool false::EC::c7::c8::.int .i64 s::rk::rl::oh::fY::gG::eJ::eY::fZ::eL::dU::dR::dx::dy::dz::dA::dB::dC::dD::dE::dF::dG::dL::dM::dN::dO::dP::rm::rq::rr::pK::pL::pM::pN::pO::pP::pQ::pR::pS::pT::pU::ry::rz::om::oq::dQ::[]),[]⟩ w2):
  Code.wp Tryz.prog (Code.loop (z0c 2)) Q ⟨List.toArray (.pointer (some ⟨o,0,none⟩)::.int .i64 aq::c2::c3::.slice none 0 0::.bool false::v6::c7::c8::.int .i64 s::.bool true::.int .i64 1::iS::fY::gG::eJ::eY::fZ::eL::dU::dR::dx::dy::dz::dA::dB::dC::dD::dE::dF::dG::dL::dM::dN::dO::dP::dV::dW::dX::ee::eg::ei::eo::ep::ev::dd::ew::ey::ez::eA::dY::dZ::eD::eE::dQ::[]),[]⟩ w1:=by
 conv=>arg 2;arg 1;whnf
 have HC:=zC hC;have HI:=zC hI;have HX:=zC aJ;have HY:=zC gE;clear hC hI aJ gE;obtain⟨i0,tI,cQ,cz,cx⟩:=info_parts zi8
 go_loopg [4,5,6,10,11] (2*(51-fs.length)+1) (λ gg v4 v5 v mo nn wr=>v4=.slice none 0 0/\v5=.bool false/\∃ (n:Nat) (more:Bool) (jh:List FG),nn=.int .i64 n/\mo=.bool more/\jh.length<=aq/\n<=jh.length+2/\(more=true->n<=jh.length+1)/\gg=2*(51-jh.length)+(if more then 1 else 0)/\AW w v jh wr/\(more=true->∀ r,zbk ps S (rs.map (·.R)) aq s n (jh.map (·.F)) r->zbk ps S (rs.map (·.R)) aq s 1 (fs.map (·.F)) r)/\(more=false->zbk ps S (rs.map (·.R)) aq s 1 (fs.map (·.F)) (some (jh.map (·.F)))))
 exact⟨rfl,rfl,1,true,fs,rfl,rfl,lG,by omega,λ _=>by omega,rfl,zA HI,λ _ r h=>h,λ h=>by cases h⟩
 case round=>
  clear HI;obtain⟨rfl,rfl,n,more,jh,rfl,rfl,zr,hn,tN,dI,hI,I3,aR⟩:=hrel;obtain⟨a6,c6,rfl⟩:=zD hI.facts.row;have HI:=zC hI
  cases more with
  | false=>
   have HE:=zC (aR rfl);clear hI I3 aR dI tN;go_wp2_with fail;apply zA HX
   ·exact zA HI
   ·exact zr
   ·exact zA HE
  | true=>
   have C2:=zC (I3 rfl);have QO:=tN rfl;have dH:=z09 wr o rs ps rv pv tv gs S w.heap.size jh a6 c6 (hI.ctx (zA HC) (by omega)) s n;have aV:=zC dH;clear hI I3 aR dH tN hn;simp only[if_true] at dI;go_wp2_with fail;refine (zA aV).mono ?_;rintro e w2 ⟨v12,out,rfl,hR⟩;have hrel:=hR.rel;have lL:=(zA HI).facts.below hR.below;have eM:=(zA HI).below.trans (hR.below.mono (zA HI).below.size);have Rn:=(zA HI).below.size
   have cd:=hrel.ok (zA HI).ok (λ R hR a ha=>by
    obtain⟨r,hr,rfl⟩:=List.mem_map.1 hR
    exact (zA HC).atoms r hr a ha)
   have Hb:∀ x∈out,j5 w2 w.heap.size x:=λ x hx=>(hR.facts.each x hx).low Rn
   obtain⟨a12,iS,rfl⟩:=zD hR.facts.row;have kU:=hR.gH
   cases out with
   | nil=>
    have HD:=zC (zA C2 _ (zbk.done hrel (by simpa using zr)));have iR:=zC (show AW w (.slice a6 jh.length c6) jh w2 from ⟨eM,lL,(zA HI).ok⟩);have pe:=z7x (zA HI).facts.row;have lQ:¬ ((aq:Int)<jh.length):=(by omega);clear hR hrel lL eM cd Hb C2 aV HI kU;have Gv:=zC (z27 w2 a6 jh.length c6 pe a12 iS);go_wp2_with (at_builtin;go_must (refine zcx rfl _ _ _ rfl _ _ rfl rfl (zA Gv) ?_));go_roundg (2*(51-jh.length));exact⟨rfl,rfl,n+1,false,jh,by go_num,rfl,zr,by omega,(λ h=>by cases h),by simp,zA iR,(λ h=>by cases h),λ _=>zA HD⟩;omega
   | cons x0 out0=>
    generalize hO:x0::out0=out at *;have aI:0<out.length:=(by rw[<-hO];simp);have eI:out.map (·.F)≠[]:=(by rw[<-hO];simp);obtain⟨g12,WD,Rs,-,-,-,-,-⟩:=zah hR.facts.row (k:=0) aI;injection Rs with q1 q2 q3
    subst q1 q3;have dJ:=zC (zqf hR.facts.row);have iK:=zC (zyo Hb);have hlen:(out.flatMap FG.cells).length=out.length*10:=hR.facts.row.1;have qu:=zC hlen
    have iI:=λ (w5:W8) (v':Value) (hg:w2.grownBy w5 (Value.slice a6 jh.length c6).ownBlock) (aC:w5.ownsRow w.heap.size 262 10 v' (jh.length+out.length) (jh.flatMap FG.cells++out.flatMap FG.cells))=>(show AW w v' (jh++out) w5 from ⟨zY eM (zN.aN hg) (eM.size) (λ b hm=>(lL.row.lt b (by simpa using hm)).1),lL.app Hb (zN.refl [] _) hg aC,λ f hf=>by
     rw[List.map_append] at hf;rcases List.mem_append.1 hf with hf | hf
     ·exact (zA HI).ok f hf
     ·exact cd f hf⟩)
    have oT:=zC iI;have gL:=zC lL.row;have uS:=zC hrel;have L8:=eM.size;have Jw:=zC eM;have VO:=zC eI;clear hR hrel lL eM cd Hb aV HI iI hlen hO eI
    by_cases hbig:aq<jh.length+out.length
    ·have D6:(aq:Int)<(jh.length:Int)+out.length:=(by omega);have HT:=zC (zA C2 _ (zbk.Cu (zA uS) (by simpa using hbig)));go_wp2_with (at_builtin;go_must (refine wpList_append_lies _ rfl _ _ _ rfl w.heap.size 262 i0 (.agg #[.string { data:=#[] },.slice none 0 0,.bool false,.int .i64 0,.int .i64 0,.string { data:=#[] },.int .i64 0,.int .i64 0,.int .i64 0,.slice none 0 0]) 10 128 Tryz.underlying250 tI cQ cz cx rfl (by decide) (.slice a6 jh.length c6) jh.length _ rfl (zA gL) ⟨g12,0,none⟩ out.length iS (out.flatMap FG.cells) rfl (zA qu) (zA dJ) (zA iK) aI (by unfold maxLen;omega) (by omega) L8 _ rfl ?_;intro g cap w5 aj aU cN hlt5));have HM:=zC (zA oT w5 _ aU aj);clear aj aU oT gL;go_wp2_with fail;apply zA HY
     ·exact (zA HM).below
     ·exact zA HT
    ·have D6:¬ ((aq:Int)<(jh.length:Int)+out.length):=(by omega);have HT:=zC (λ r (h:zbk ps S (rs.map (·.R)) aq s (n+1) ((jh++out).map (·.F)) r)=>zA C2 r (zbk.more (zA uS) (zA VO) (by simpa using hbig) (by rw[List.map_append] at h;exact h)));go_wp2_with (at_builtin;go_must (refine wpList_append_lies _ rfl _ _ _ rfl w.heap.size 262 i0 (.agg #[.string { data:=#[] },.slice none 0 0,.bool false,.int .i64 0,.int .i64 0,.string { data:=#[] },.int .i64 0,.int .i64 0,.int .i64 0,.slice none 0 0]) 10 128 Tryz.underlying250 tI cQ cz cx rfl (by decide) (.slice a6 jh.length c6) jh.length _ rfl (zA gL) ⟨g12,0,none⟩ out.length iS (out.flatMap FG.cells) rfl (zA qu) (zA dJ) (zA iK) aI (by unfold maxLen;omega) (by omega) L8 _ rfl ?_;intro g cap w5 aj aU cN hlt5));have HM:=zC (zA oT w5 _ aU aj);clear aj aU oT gL;have NJ:(0:Int)<out.length:=(by omega);go_wp2_with fail;go_roundg (2*(51-(jh++out).length)+1);exact⟨rfl,rfl,n+1,true,jh++out,by go_num,rfl,by simp;omega,by simp;omega,(λ _=>by simp;omega),by simp,zA HM,(λ _=>zA HT),λ h=>by cases h⟩;simp;omega
end
section
open Go.RowKit
def oI (S:Nat->Nat):Nat->Nat
 | 0=>0
 | n+1=>max (oI S n) (S n)
theorem znr {S:Nat->Nat}{m:Nat}:∀ (n:Nat),(∀ i,i<n->S i<=m)->oI S n<=m
 | 0,_=>Nat.zero_le _
 | n+1,h=>Nat.max_le.2 ⟨znr n (λ i hi=>h i (by omega)),h n (by omega)⟩
theorem z9j (w:W8)(o:Nat)(rs:List RR)(ps:P9)(rv pv tv:Value)(gs:Nat)(S:Nat->Nat)(hC:AX w o rs ps rv pv tv gs S)(aq fk:Nat)(hlim:aq<=50)(BY:fk<=1000000)(w1:W8)(hI:AW w (.slice none 0 0) [] w1)
  {Q:Exit->Act->W8->Prop} {c2 c3 c8 eQ gM iS fY gG eJ eY fZ eL dU dR dx dy dz dA dB dC dD dE dF dG dL dM dN dO dP dV dW dX ee eg ei eo ep ev dd ew ey ez eA dY dZ eD eE dQ:Value}
  (aJ:∀ (EC:Value) (jh:List FG) (w2:W8) (u9 rk rl oh xd u32 tZ ua ub rm rq rr pK pL pM pN pO pP pQ pR pS pT pU ry rz om oq:Value),AW w EC jh w2->jh.length<=aq->zld ps S (rs.map (·.R)) aq fk 0 [] (some (jh.map (·.F)))->Q (.exit 2) ⟨List.toArray (.pointer (some ⟨o,0,none⟩)::.int .i64 aq::c2::c3::.slice none 0 0::.bool false::EC::.int .i64 fk::c8::u9::rk::rl::oh::fY::gG::eJ::eY::fZ::eL::dU::dR::dx::dy::dz::dA::dB::dC::dD::dE::dF::dG::xd::u32::tZ::ua::ub::rm::rq::rr::pK::pL::pM::pN::pO::pP::pQ::pR::pS::pT::pU::ry::rz::om::oq::dQ::[]),[]⟩ w2)
  (gE:∀ (EC:Value) (w2:W8) (u9 rk rl oh xd u32 tZ ua ub rm rq rr pK pL pM pN pO pP pQ pR pS pT pU ry rz om oq:Value),Below w.heap.size w w2->zld ps S (rs.map (·.R)) aq fk 0 [] none->Q .ret ⟨List.toArray (.pointer (some ⟨o,0,none⟩)::.int .i64 aq::c2::c3::.slice none 0 0::.bool false::EC::.int .i64 fk::c8::u9::rk::rl::oh::fY::gG::eJ::eY::fZ::eL::dU::dR::dx::dy::dz::dA::dB::dC::dD::dE::dF::dG::xd::u32::tZ::ua::ub::rm::rq::rr::pK::pL::pM::pN::pO::pP::pQ::pR::pS::pT::pU::ry::rz::om::oq::dQ::[]),[]⟩ w2):
  Code.wp Tryz.prog (Code.loop (z0c 1)) Q ⟨List.toArray (.pointer (some ⟨o,0,none⟩)::.int .i64 aq::c2::c3::.slice none 0 0::.bool false::.slice none 0 0::.int .i64 fk::c8::.int .i64 0::eQ::gM::iS::fY::gG::eJ::eY::fZ::eL::dU::dR::dx::dy::dz::dA::dB::dC::dD::dE::dF::dG::dL::dM::dN::dO::dP::dV::dW::dX::ee::eg::ei::eo::ep::ev::dd::ew::ey::ez::eA::dY::dZ::eD::eE::dQ::[]),[]⟩ w1:=by
 conv=>arg 2;arg 1;whnf
 have HC:=zC hC;have HI:=zC hI;have HX:=zC aJ;have HY:=zC gE;clear hC hI aJ gE
 go_loopg [4,5,6,9] (fk+1) (λ gg v4 v5 v ss wr=>v4=.slice none 0 0/\v5=.bool false/\∃ (s:Nat) (jh:List FG),ss=.int .i64 s/\s<=fk+1/\gg=fk+1-s/\jh.length<=aq/\AW w v jh wr/\(∀ r,zld ps S (rs.map (·.R)) aq fk s (jh.map (·.F)) r->zld ps S (rs.map (·.R)) aq fk 0 [] r))
 exact⟨rfl,rfl,0,[],rfl,by omega,by omega,by simp,zA HI,λ r h=>h⟩
 case round=>
  clear HI;obtain⟨rfl,rfl,s,jh,rfl,hs,dI,zr,hI,I3⟩:=hrel;obtain⟨a6,c6,rfl⟩:=zD hI.facts.row;have HI:=zC hI;have C2:=zC I3;clear hI I3
  by_cases cE:s<=fk
  ·have Rj:(s:Int)<=fk:=(by omega);go_wp2_with fail;refine z9k w o rs ps rv pv tv gs S (zA HC) aq s hlim _ jh zr wr (zA HI) ?_ ?_
   ·intro v2 Tb w2;intros;rename_i dj sj C9;obtain⟨a2,c2,rfl⟩:=zD dj.facts.row;have iR:=zC dj;have rU:=zC (λ r (h:zld ps S (rs.map (·.R)) aq fk (s+1) (Tb.map (·.F)) r)=>zA C2 r (zld.next cE C9 h));clear dj C9 HI C2;go_wp2_with fail;go_roundg (fk+1-(s+1));exact⟨rfl,rfl,s+1,Tb,by go_num,by omega,rfl,sj,zA iR,zA rU⟩;omega
   ·intro v2 w2;intros;rename_i lf C9;have kR:=zC lf;have rU:=zC (zA C2 _ (zld.E4 cE C9));clear lf C9 HI C2;apply zA HY
    ·exact zA kR
    ·exact zA rU
  ·have Rj:¬ ((s:Int)<=fk):=(by omega);have HE:=zC (zA C2 _ (zld.ends (by omega)));go_wp2_with fail;apply zA HX
   ·exact zA HI
   ·exact zr
   ·exact zA HE
theorem z9i (w:W8)(o:Nat)(rs:List RR)(ps:P9)(rv pv tv:Value)(gs:Nat)(S:Nat->Nat)(hC:AX w o rs ps rv pv tv gs S)(hS:∀ i,i<ps.length->S i<=1000000)
  {Q:Exit->Act->W8->Prop} {c1 c2 c3 c4 c5 c6 c9 eQ gM iS fY gG eJ eY fZ eL dU dR dx dy dz dA dB dC dD dE dF dG dL dM dN dO dP dV dW dX ee eg ei eo ep ev dd ew ey ez eA dY dZ eD eE dQ:Value}
  (aJ:∀ (w2:W8) (u8 tW oj pJ u16 sC tX tY sD Cz CA CC CD CE CF CG CH CI CJ:Value),Below w.heap.size w w2->Q (.exit 0) ⟨List.toArray (.pointer (some ⟨o,0,none⟩)::c1::c2::c3::c4::c5::c6::.int .i64 (oI S ps.length)::u8::c9::eQ::gM::iS::tW::oj::pJ::u16::sC::tX::tY::sD::Cz::CA::CC::CD::CE::CF::CG::CH::CI::CJ::dL::dM::dN::dO::dP::dV::dW::dX::ee::eg::ei::eo::ep::ev::dd::ew::ey::ez::eA::dY::dZ::eD::eE::dQ::[]),[]⟩ w2):
  Code.wp Tryz.prog (Code.loop (z0c 0)) Q ⟨List.toArray (.pointer (some ⟨o,0,none⟩)::c1::c2::c3::c4::c5::c6::.int .i64 0::.int .i64 0::c9::eQ::gM::iS::fY::gG::eJ::eY::fZ::eL::dU::dR::dx::dy::dz::dA::dB::dC::dD::dE::dF::dG::dL::dM::dN::dO::dP::dV::dW::dX::ee::eg::ei::eo::ep::ev::dd::ew::ey::ez::eA::dY::dZ::eD::eE::dQ::[]),[]⟩ w:=by
 conv=>arg 2;arg 1;whnf
 have b8:=yN hC.prog.fC;unfold maxLen at b8;have HC:=zC hC;have HX:=zC aJ;have HS:=zC hS;clear hC aJ hS
 go_loopg [7,8] ps.length (λ gg mm ii wr=>∃ (i:Nat),ii=.int .i64 i/\i<=ps.length/\gg=ps.length-i/\mm=.int .i64 (oI S i)/\Below w.heap.size w wr)
 exact⟨0,rfl,by omega,by omega,rfl,Below.refl _ _⟩
 case round=>
  obtain⟨i,rfl,hi,dI,rfl,hB⟩:=hrel;have aO:=(zA HC).prog.kept ((zN.refl [] _).ai hB) (by simp);have ik:=(zA HC).jf.kept ((zN.refl [] _).ai hB);have c3:=aO.c3;have AL:=aO.lt;have bR:=ik.sz;have HB:=zC hB
  by_cases jb:i<ps.length
  ·have rF:(i:Int)<ps.length:=(by omega);have Xr:=ik.cell i jb;have kO:=znr (S:=S) (m:=1000000) i (λ j hj=>zA HS j (by omega));have il:=zA HS i jb;clear aO ik hB;go_wp2_with fail;go_roundg (ps.length-(i+1));exact⟨i+1,by go_num,by omega,rfl,by rw[oI];go_num,zA HB⟩;omega
  ·have rF:¬ ((i:Int)<ps.length):=(by omega);have AH:i=ps.length:=(by omega);subst AH;clear aO ik hB;go_wp2_with fail;apply zA HX;exact zA HB
inductive zos (w:W8)(ps:P9)(S:Nat->Nat)(rs:List zP)(aq:Nat)(w':W8):Value->Value->Prop
 | yes {v:Value} {fs:List FG}:AW w v fs w'->fs.length<=aq->zld ps S rs aq (oI S ps.length) 0 [] (some (fs.map (·.F)))->zos w ps S rs aq w' v (.bool true)
 | no:Below w.heap.size w w'->zld ps S rs aq (oI S ps.length) 0 [] none->zos w ps S rs aq w' (.slice none 0 0) (.bool false)
def z6n (w:W8)(ps:P9)(S:Nat->Nat)(rs:List zP)(aq:Nat)(e:Ending)(w':W8):Prop:=
 ∃ v b,e=.returned (.tuple #[v,b])/\zos w ps S rs aq w' v b
theorem z0d (w:W8)(o:Nat)(rs:List RR)(ps:P9)(rv pv tv:Value)(gs:Nat)(S:Nat->Nat)(hC:AX w o rs ps rv pv tv gs S)(hS:∀ i,i<ps.length->S i<=1000000)(aq:Nat)(hlim:aq<=50):
  Calls Tryz.prog 138 #[.pointer (some ⟨o,0,none⟩),.int .i64 aq] w (z6n w ps S (rs.map (·.R)) aq):=by
 have HC:=zC hC;have HS:=zC hS;clear hC hS;go_enter Tryz.func138,Tryz.ntmps138;go_wp2_with fail;refine z9i w o rs ps rv pv tv gs S (zA HC) (zA HS) ?_;intro w1;intros;rename_i oM;have H0:=zC (show AW w (.slice none 0 0) [] w1 from ⟨oM,⟨World.ownsRow_nil _ _ _ _,by simp⟩,by simp⟩);clear oM;have bh:=znr (S:=S) (m:=1000000) ps.length (zA HS);generalize BY:oI S ps.length=fk at *;have HM:=zC BY;clear BY;go_wp2_with fail;refine z9j w o rs ps rv pv tv gs S (zA HC) aq fk hlim bh w1 (zA H0) ?_ ?_
 ·intro v6 fs w2;intros;rename_i hI hl hT;obtain⟨a6,c6,rfl⟩:=zD hI.facts.row;have HF:=zC (show zos w ps S (rs.map (·.R)) aq w2 (.slice a6 fs.length c6) (.bool true) from .yes hI hl (by rw[zA HM];exact hT));clear hI hl hT H0;go_wp2_with fail
  go_ret2
  exact⟨_,_,rfl,zA HF⟩
 ·intro v6 w2;intros;rename_i hB hT;have HF:=zC (show zos w ps S (rs.map (·.R)) aq w2 (.slice none 0 0) (.bool false) from .no hB (by rw[zA HM];exact hT));clear hB hT H0
  go_ret2
  exact⟨_,_,rfl,zA HF⟩
end
section
open Go.RowKit
theorem zz5 {α:Type}{w:W8}{base:Nat}{e:TypeId}{v:Value}{l:List α}{f:α->Value}(h:w.ownsRow base e 1 v l.length (l.map f))(k:Nat)(hk:k<l.length):∃ g cap,v=.slice (some ⟨g,0,none⟩) l.length cap/\base<=g/\g<w.heap.size/\l.length<=cap/\cap<=maxLen/\w.cell? ⟨g,k,none⟩=some (f l[k]):=by
 have e1:l.map f=l.flatMap λ x=>[f x]:=by
  clear h hk
  induction l with
  | nil=>rfl
  | cons x r ih=>rw[List.map_cons,List.flatMap_cons,ih];rfl
 rw[e1] at h;obtain⟨g,cap,hv,hb,hg,hc,hm,hx⟩:=vU (f:=λ x=>[f x]) (λ _=>rfl) h k hk;have:=hx 0 (by simp);simp only[Nat.mul_one,Nat.add_zero,List.getElem?_cons_zero] at this;exact⟨g,cap,hv,hb,hg,hc,hm,this⟩
def vP (A:zL):Bool:=A.ae.all λ t=>!t.isVar
theorem zph (w:W8)(base:Nat)(A:zL)(a:O8)(c:Nat)(h:w.ownsRow base 317 3 (.slice a A.ae.length c) A.ae.length (cellsOf A.ae)):
  Calls Tryz.prog 131 #[.agg #[.string A.pred,.slice a A.ae.length c,.bool A.no,.int .i64 A.at_,.int .i64 A.ak]] w λ e w'=>e=.returned (.bool (vP A))/\Below w.heap.size w w':=by
 have b0:=(Below.refl w.heap.size w).alloc L9 (.cells #[.string A.pred,.slice a A.ae.length c,.bool A.no,.int .i64 A.at_,.int .i64 A.ak] 243);have hx:(w.alloc (.cells #[.string A.pred,.slice a A.ae.length c,.bool A.no,.int .i64 A.at_,.int .i64 A.ak] 243)).heap[w.heap.size]?=_:=heap_alloc_new w _;have H:=zC (h.alloc (.cells #[.string A.pred,.slice a A.ae.length c,.bool A.no,.int .i64 A.at_,.int .i64 A.ak] 243));have HB:=zC b0;have kX:=yN h;unfold maxLen at kX;clear h b0;go_enter Tryz.func131,Tryz.ntmps131;go_wp2_with fail;generalize (w.alloc (.cells #[.string A.pred,.slice a A.ae.length c,.bool A.no,.int .i64 A.at_,.int .i64 A.ak] 243))=w0 at *;obtain⟨x1,td⟩:=zB hx 1
 go_loopg [3] A.ae.length (λ gg i wr=>∃ k:Nat,k<=A.ae.length/\gg=A.ae.length-k/\i=.int .i64 k/\wr=w0/\(A.ae.take k).all (λ t=>!t.isVar)=true)
 exact⟨0,Nat.zero_le _,rfl,rfl,rfl,by simp⟩
 case round=>
  obtain⟨k,hk,iZ,rfl,rfl,aL⟩:=hrel
  by_cases aE:k<A.ae.length
  ·obtain⟨g,cap,hv,-,bR,cZ,da,hc⟩:=vU (f:=xK.cells) (λ _=>rfl) (zA H) k aE;injection hv with h1 h2 h3
   subst h1 h3;have p1:=hc 1 (by omega);simp only[xK.cells,List.getElem?_cons_zero,List.getElem?_cons_succ] at p1;have fy:(A.ae.take (k+1)).all (λ t=>!t.isVar)=!A.ae[k].isVar:=by
    rw[List.take_succ_eq_append_getElem aE,List.all_append,aL];simp
   have HS:=zC fy;clear hc fy
   cases hv:A.ae[k].isVar with
   | true=>
    have aR:vP A=false:=by
     unfold vP;rw[<-Bool.not_eq_true,List.all_eq_true];intro h2;have:=h2 _ (List.getElem_mem aE);rw[hv] at this
     cases this
    have HN:=zC aR;rw[hv] at p1;clear aL aR hv HS;go_wp2_with fail;go_ret;exact⟨by rw[zA HN];rfl,zA HB⟩
   | false=>
    rw[hv] at p1;have O0:=zC ((zA HS).trans (by rw[hv]));clear aL hv HS;go_wp2_with fail;go_roundg (A.ae.length-(k+1));exact⟨k+1,by omega,rfl,by go_num,rfl,zA O0⟩;omega
  ·have hn:vP A=true:=by
    have:k=A.ae.length:=by omega
    rw[this,List.take_length] at aL;exact aL
   have HN:=zC hn;clear hn aL;go_wp2_with fail;go_ret;exact⟨by rw[zA HN];rfl,zA HB⟩
end
section
open Go.RowKit
def zeq (B:Nat->Bool):List zQ->Nat->Nat->(Nat->Nat)->List Nat->Nat × List Nat
 | [],_,n,_,out=>(n,out)
 | f::r,i,n,pl,out=>if B i then zeq B r (i+1) (n+1) (dn pl i n) (out++f.r::f.fr.map (dn pl i n)) else zeq B r (i+1) n pl out
def u8c (x:Nat):Value:=.int .u8 ((x:Int)%256)
def zqo (k:Nat)(l:List zQ)(B:Nat->Bool):List Nat:=k::(zeq B l 0 0 (λ _=>0) []).1::(zeq B l 0 0 (λ _=>0) []).2
variable {out:List Nat} {pl:Nat->Nat} {n:Nat} {B:Nat->Bool}
theorem zxd {l:List zQ}{k:Nat}(h:k<l.length):zeq B (l.drop k) k n pl out=if B k then zeq B (l.drop (k+1)) (k+1) (n+1) (dn pl k n) (out++l[k].r::l[k].fr.map (dn pl k n)) else zeq B (l.drop (k+1)) (k+1) n pl out:=by
 rw[List.drop_eq_getElem_cons h];rfl
structure CR (w:W8)(gb n:Nat)(B:Nat->Bool):Prop where
 sz:gb<w.heap.size
 cell:∀ i,i<n->w.cell? ⟨gb,i,none⟩=some (.bool (B i))
 fz:∀ j,w.frozen? ⟨gb,j,none⟩=false
variable {gb:Nat} {w w':W8}
theorem CR.below (h:CR w gb n B)(k:Below w.heap.size w w'):CR w' gb n B:=
 ⟨Nat.lt_of_lt_of_le h.sz k.size,λ i hi=>(k.cell (p:=⟨gb,i,none⟩) h.sz).trans (h.cell i hi),λ j=>(k.frozen (p:=⟨gb,j,none⟩) h.sz).trans (h.fz j)⟩
theorem nk.stays {B:List Nat}{gs:Nat}{S:Nat->Nat}(h:nk w gs n S)(k:zN B w w')(hB:gs∉B):nk w' gs n S:=
 ⟨Nat.lt_of_lt_of_le h.sz k.size,λ i hi=>(k.cell (p:=⟨gs,i,none⟩) h.sz hB).trans (h.cell i hi),λ j=>(k.frozen (p:=⟨gs,j,none⟩) h.sz hB).trans (h.fz j)⟩
structure CQ (w:W8)(base gb:Nat)(v1:Value)(fs:List FG)(B:Nat->Bool)(pl:Nat->Nat)(out:List Nat)(v9:Value)(wr:W8):Prop where
 below:Below w.heap.size w wr
 place:nk wr w.heap.size fs.length pl
 row:wr.ownsRow (w.heap.size+1) 5 1 v9 out.length (out.map u8c)
variable {wr:W8} {v9 v1:Value} {fs:List FG} {base:Nat}
theorem CQ.facts (h:CQ w base gb v1 fs B pl out v9 wr)(hf:yW w base v1 fs):yW wr base v1 fs:=hf.below h.below
theorem CQ.one {uG:Value}{w5:W8}{x:Nat}{o:Obj}(h:CQ w base gb v1 fs B pl out v9 wr)(hg:(wr.alloc o).grownBy w5 v9.ownBlock)(aC:w5.ownsRow (w.heap.size+1) 5 1 uG (out.length+1) (out.map u8c++[u8c x])):CQ w base gb v1 fs B pl (out++[x]) uG w5:=by
 have aT:=h.below.size;have rf:=h.place.sz;have k1:zN v9.ownBlock.toList wr w5:=(((zN.refl _ wr).alloc o).trans (zN.aN hg));have hb:∀ x∈v9.ownBlock.toList,w.heap.size+1<=x:=λ x hx=>(h.row.lt x (by simpa using hx)).1
 refine⟨zY h.below k1 aT (λ x hx=>by have:=hb x hx;omega),h.place.stays k1 (λ hm=>by have:=hb _ hm;omega),?_⟩;rw[List.length_append,List.length_singleton,List.map_append];exact aC
theorem zx7 (w:W8)(b:O8)(n c:Nat)(h:n<=c)(a:O8)(c':Nat)(ty:TypeId):(Builtin.append_ #[47,47] ty #[.slice b n c,.slice a 0 c']).run Tryz.prog w=.ok (.slice b n c) w:=by
 obtain⟨i0,tI,cQ,cz,cx⟩:=info_parts zi7;refine run_append_nothing w _ _ _ 5 i0 Tryz.underlying47 tI b n c h _ ?_
 cases a with
 | none=>exact Src.ofNil w Tryz.underlying47 c'
 | some a=>exact Src.ofSlice w Tryz.underlying47 a 0 c' [] (by simp) (by simp) (by simp)
theorem z94 (l:List Nat):∀ u∈l.map u8c,u.oneCell'=true:=λ u hu=>by
 obtain⟨x,_,rfl⟩:=List.mem_map.1 hu;rfl
theorem CQ.put (h:CQ w base gb v1 fs B pl out v9 wr){i:Nat}(hi:i<fs.length)(n:Nat):CQ w base gb v1 fs B (dn pl i n) out v9 (wr.setCell ⟨w.heap.size,i,none⟩ (.int .i64 n)):=
 ⟨h.below.setCell L9 _,h.place.set i n hi,ownsRow_setCell_below (a:=⟨w.heap.size,i,none⟩) h.row (by simp) _⟩
theorem zsw (w:W8)(base gb k:Nat)(a1:O8)(c1:Nat)(fs:List FG)(B:Nat->Bool)(hf:yW w base (.slice a1 fs.length c1) fs)(hB:CR w gb fs.length B)(lG:fs.length<=50)(nP:∀ f∈fs,f.F.fr.length<=3/\∀ x∈f.F.fr,x<fs.length):
  Calls Tryz.prog 141 #[.int .i64 k,.slice a1 fs.length c1,.slice (some ⟨gb,0,none⟩) fs.length fs.length] w λ e w'=>∃ v,e=.returned v/\w'.ownsRow w.heap.size 5 1 v (zqo k (fs.map (·.F)) B).length ((zqo k (fs.map (·.F)) B).map u8c)/\Below w.heap.size w w':=by
 obtain⟨i0,hi,cQ,cz,cx⟩:=info_parts zi7;have pk:=zpo fs.length (by omega);have aP:CQ w base gb (.slice a1 fs.length c1) fs B (λ _=>0) [] (.slice none 0 0) (w.alloc (.cells (madeCells #[.int .i64 0] fs.length) 3)):=⟨B9.alloc L9 _,nk.start w fs.length,World.ownsRow_nil _ _ _ _⟩;have HF:=zC hf;have HB:=zC hB;have uN:=zC nP;have eN:=zC aP;clear hf hB nP aP;go_enter Tryz.func141,Tryz.ntmps141;go_wp2_with fail
 go_loopg [8,9,10] fs.length (λ gg vn v9 vi wr=>∃ (i n:Nat) (pl:Nat->Nat) (out:List Nat),i<=fs.length/\gg=fs.length-i/\vn=.int .i64 n/\vi=.int .i64 i/\n<=i/\out.length<=4*i/\CQ w base gb (.slice a1 fs.length c1) fs B pl out v9 wr/\zeq B ((fs.map (·.F)).drop i) i n pl out=zeq B (fs.map (·.F)) 0 0 (λ _=>0) [])
 exact⟨0,0,λ _=>0,[],Nat.zero_le _,rfl,rfl,rfl,Nat.le_refl _,by simp,zA eN,rfl⟩
 case round=>
  clear eN;obtain⟨i,n,pl,out,lI,dI,rfl,rfl,AK,AL,ay,hrel⟩:=hrel;obtain⟨a9,c9,rfl⟩:=zD ay.row;have Es:=ay.below.size
  by_cases aE:i<fs.length
  ·have hb:=(zA HB).below ay.below;have AD:=hb.cell i aE;have mZ:=ay.facts (zA HF);obtain⟨g,cap,hv,-,bR,cZ,da,hc⟩:=zah mZ.row aE;injection hv with h1 h2 h3
   subst h1 h3;have p8:=hc 8 (by omega);have p9:=hc 9 (by omega);simp only[FG.cells,List.getElem?_cons_zero,List.getElem?_cons_succ] at p8 p9;have aP:=zxd (B:=B) (l:=fs.map (·.F)) (k:=i) (n:=n) (pl:=pl) (out:=out) (by simpa using aE);have qy:=mZ.each fs[i] (List.getElem_mem aE);obtain⟨P8,Lh⟩:=zA uN fs[i] (List.getElem_mem aE);have Iw:=zC qy;have HG:=zC bR;rw[List.getElem_map] at aP;generalize hF:fs[i]=F at *;have HS:=zC aP;have gJ:=zC ay;have uS:=zC hrel;clear aP hc mZ qy ay hrel hb
   cases hBi:B i with
   | false=>
    rw[hBi] at AD;have HE:=zC ((zA HS).symm.trans (zA uS));clear HS uS;have A4:=zC (show zeq B ((fs.map (·.F)).drop (i+1)) (i+1) n pl out=zeq B (fs.map (·.F)) 0 0 (λ _=>0) [] from by have:=zA HE;rw[hBi] at this;exact this);clear HE p8 p9 hBi;go_wp2_with fail;go_roundg (fs.length-(i+1));exact⟨i+1,n,pl,out,by omega,rfl,rfl,by go_num,by omega,by omega,zA gJ,zA A4⟩;omega
   | true=>
    rw[hBi] at AD;have A4:=zC (show zeq B ((fs.map (·.F)).drop (i+1)) (i+1) (n+1) (dn pl i n) (out++F.F.r::F.F.fr.map (dn pl i n))=zeq B (fs.map (·.F)) 0 0 (λ _=>0) [] from by have:=(zA HS).symm.trans (zA uS);rw[hBi] at this;exact this);clear HS uS hBi;obtain⟨F0,tvF,fvF⟩:=F;simp only at p8 p9 P8 Lh;have lQ:=(zA Iw).i;simp only at lQ;obtain⟨af,cf,rfl⟩:=zD lQ;clear lQ;have hp:=(zA gJ).put aE n;have rf:=(zA gJ).place.cell i aE;have Yp:=(zA gJ).place.fz i;have Q5:=(zA gJ).place.sz;have aC:=hp.row.alloc (.cells #[.int .u8 ((F0.r:Int)%256)] 5);have HP:=zC hp;have az:=zC hF;clear hp gJ hF
    have dJ:=zC (by
     have nc:=heap_alloc_new (wr.setCell ⟨w.heap.size,i,none⟩ (.int .i64 n)) (.cells #[.int .u8 ((F0.r:Int)%256)] 5);rw[World.size_setCell] at nc
     exact World.news_of_block nc)
    have Fi:g<w.heap.size:=((zA HF).row.lt g rfl).2;have eI:g≠w.heap.size:=(by omega);have G9:w.heap.size≠g:=(by omega);go_wp2_with (at_builtin;refine wpList_append_own _ rfl _ _ 47 rfl (w.heap.size+1) 5 i0 _ 1 1 Tryz.underlying47 hi cQ cz cx rfl (by decide) _ _ _ rfl aC ⟨wr.heap.size,0,none⟩ 1 1 [u8c F0.r] rfl rfl (zA dJ) (by intro u hu;rw[List.mem_singleton.1 hu];rfl) (by unfold maxLen;omega) (by omega) (by simp;omega) ?_);intro v5 w5 aj aU hne5;clear hne5;obtain⟨a5,c5,rfl⟩:=zD aj;have Lq:=(zA HP).one aU aj;have JK:=zC Lq;clear aj aU Lq aC p8 p9 rf Yp Iw AD HP HG bR;go_wp2_with fail
    go_loopg [9,11] F0.fr.length (λ gg v9 vj wj=>∃ j:Nat,j<=F0.fr.length/\gg=F0.fr.length-j/\vj=.int .i64 j/\CQ w base gb (.slice (some ⟨g,0,none⟩) fs.length c1) fs B (dn pl i n) (out++F0.r::(F0.fr.take j).map (dn pl i n)) v9 wj)
    exact⟨0,Nat.zero_le _,rfl,rfl,by simpa using zA JK⟩
    case round=>
     clear JK;obtain⟨j,ig,BI,rfl,ay⟩:=hrel;obtain⟨a9',S8,rfl⟩:=zD ay.row;have aT:=ay.below.size;have mZ:=ay.facts (zA HF);obtain⟨g',kD,rK,-,bR,-,-,hc⟩:=zah mZ.row aE;injection rK with h1 h2 h3
     injection h1 with h1
     injection h1 with h1
     subst h1 h3;have p9:=hc 9 (by omega);have qy:=mZ.each fs[i] (List.getElem_mem aE);rw[zA az] at p9 qy;simp only[FG.cells,List.getElem?_cons_zero,List.getElem?_cons_succ] at p9;have lQ:=qy.i;simp only[zng] at lQ
     by_cases hlj:j<F0.fr.length
     ·obtain⟨gf,Ps,Dh,-,BH,Xx,Xz,q0⟩:=zz5 lQ j hlj;injection Dh with h1 h2 h3
      subst h1 h3;have FJ:=Lh _ (List.getElem_mem hlj);have hpc:=ay.place.cell _ FJ;have Ut:=ay.place.sz;have aC:=ay.row.alloc (.cells #[.int .u8 ((dn pl i n F0.fr[j]:Nat)%256)] 5);have hlen:(out++F0.r::(F0.fr.take j).map (dn pl i n)).length<=300:=(by simp;omega);have fy:(out++F0.r::(F0.fr.take j).map (dn pl i n))++[dn pl i n F0.fr[j]]=out++F0.r::(F0.fr.take (j+1)).map (dn pl i n):=by
       rw[List.take_succ_eq_append_getElem hlj,List.map_append,List.map_cons,List.map_nil];simp only[List.append_assoc,List.cons_append]
      have xn:=zC fy;have HH:=zC ay;clear ay hc mZ qy lQ fy;generalize F0.fr[j]=x at *;generalize hS:dn pl i n x=y at *;generalize hO:out++F0.r::(F0.fr.take j).map (dn pl i n)=outj at *;go_wp2_with (at_builtin;refine wpList_append_own _ rfl _ _ 47 rfl (w.heap.size+1) 5 i0 _ 1 1 Tryz.underlying47 hi cQ cz cx rfl (by decide) _ _ _ rfl aC ⟨wr.heap.size,0,none⟩ 1 1 [u8c y] rfl rfl (World.news_of_block (heap_alloc_new wr _)) (by intro u hu;rw[List.mem_singleton.1 hu];rfl) (by unfold maxLen;omega) (by omega) (by simp;omega) ?_);intro v6 w6 hown6 na hne6;clear hne6;obtain⟨a6,c6,rfl⟩:=zD hown6;have OG:=zC ((zA HH).one na hown6);clear hown6 na;go_wp2_with fail;go_roundg (F0.fr.length-(j+1));exact⟨j+1,by omega,rfl,by go_num,by rw[<-zA xn];exact zA OG⟩;omega
     ·have hj:j=F0.fr.length:=(by omega);subst hj;rw[List.take_length] at ay;have HH:=zC ay;have hlen:(out++F0.r::F0.fr.map (dn pl i n)).length<=4*(i+1):=(by simp;omega);clear ay hc mZ qy lQ;generalize hO:out++F0.r::F0.fr.map (dn pl i n)=outj at *;go_wp2_with fail;go_roundg (fs.length-(i+1));exact⟨i+1,n+1,dn pl i n,_,by omega,rfl,by go_num,by go_num,by omega,hlen,zA HH,zA A4⟩;omega
  ·have AG:i=fs.length:=(by omega);subst AG;have ax:zeq B (fs.map (·.F)) 0 0 (λ _=>0) []=(n,out):=(by rw[<-hrel,List.drop_of_length_le (by simp)];rfl);have Ri:zqo k (fs.map (·.F)) B=k::n::out:=(by unfold zqo;rw[ax]);have xm:=zC Ri;have aT:=ay.below.size;have Q5:=ay.place.sz;have ij:(wr.alloc (.cells #[.int .u8 ((k:Int)%256),.int .u8 ((n:Int)%256)] 5)).ownsRow w.heap.size 5 1 (.slice (some ⟨wr.heap.size,0,none⟩) 2 2) 2 [u8c k,u8c n]:=World.ownsRow_lit wr _ 2 (by omega) (by unfold maxLen;omega) rfl;have eM:=ay.below.alloc (by omega) (.cells #[.int .u8 ((k:Int)%256),.int .u8 ((n:Int)%256)] 5);have Jw:=zC eM;have JR:=zC ij;clear AK
   cases out with
   | nil=>
    have Gv:=zC (zx7 (wr.alloc (.cells #[.int .u8 ((k:Int)%256),.int .u8 ((n:Int)%256)] 5)) (some ⟨wr.heap.size,0,none⟩) 2 2 L9 a9 c9);clear hrel ax ay Ri ij eM;go_wp2_with (at_builtin;go_must (refine zcx rfl _ _ _ rfl _ _ rfl rfl (zA Gv) ?_));go_ret;exact⟨_,rfl,by rw[zA xm];exact zA JR,zA Jw⟩
   | cons x0 out0=>
    generalize hO:x0::out0=out at *;have aI:0<out.length:=(by rw[<-hO];simp);obtain⟨g9,S8,Rt,-⟩:=zz5 ay.row 0 aI;injection Rt with q1 q2 q3
    subst q1 q3;have dJ:=zC (zqf (ay.row.alloc (.cells #[.int .u8 ((k:Int)%256),.int .u8 ((n:Int)%256)] 5)));have BG:=zC (λ (w5:W8) (v:Value) (hg:(wr.alloc (.cells #[.int .u8 ((k:Int)%256),.int .u8 ((n:Int)%256)] 5)).grownBy w5 (Value.slice (some ⟨wr.heap.size,0,none⟩) 2 2).ownBlock)=>(show Below w.heap.size w w5 from zY eM (zN.aN hg) eM.size (λ b hm=>by simp[Value.ownBlock] at hm;omega)));clear hrel ax ay Ri ij eM hO;go_wp2_with (at_builtin;go_must (refine wpList_append_own _ rfl _ _ 47 rfl w.heap.size 5 i0 _ 1 1 Tryz.underlying47 hi cQ cz cx rfl (by decide) _ _ _ rfl (zA JR) ⟨g9,0,none⟩ out.length c9 (out.map u8c) rfl (by simp) (zA dJ) (z94 out) (by unfold maxLen;omega) (by omega) (by simp;omega) ?_));intro v5 w5 aj aU hne5;clear hne5;have uK:=zC (zA BG w5 v5 aU);obtain⟨a5,c5,rfl⟩:=zD aj;have zb:=zC aj;clear aj aU BG;go_wp2_with fail;go_ret;refine⟨_,rfl,?_,zA uK⟩;have e:(k::n::out).length=2+out.length:=(by rw[List.length_cons,List.length_cons];omega);rw[zA xm,e];exact zA zb
end
section
open Go.RowKit
noncomputable def z7a (k:Nat):Code:=((Tryz.f91.body.map zbf).getD []).getD k .skip
def lS (l:List zQ)(i:Nat):Nat:=(l[i]?.map (·.s)).getD 0
def lH (l:List zQ)(i:Nat):Nat:=(l[i]?.map (·.h)).getD 0
def lF (l:List zQ)(i:Nat):List Nat:=(l[i]?.map (·.fr)).getD []
def zjg (B:Nat->Bool)(i:Nat)(v:Bool):Nat->Bool:=λ j=>if j=i then v else B j
def za7 (B:Nat->Bool)(fr:List Nat):Nat->Bool:=fr.foldl (λ B x=>zjg B x true) B
def zzc (l:List zQ)(s:Nat)(B:Nat->Bool)(i:Nat):Nat->Bool:=if (B i||decide (lS l i<s))=true then za7 (zjg B i true) (lF l i) else zjg B i false
def zj2 (l:List zQ)(s:Nat):Nat->(Nat->Bool)->Nat->Bool
 | 0,B=>B
 | i+1,B=>zj2 l s i (zzc l s B i)
variable {B:Nat->Bool} {gb n:Nat} {w:W8}
theorem CR.set (h:CR w gb n B)(i:Nat)(v:Bool)(hi:i<n):CR (w.setCell ⟨gb,i,none⟩ (.bool v)) gb n (zjg B i v):=by
 refine⟨by simpa using h.sz,λ a ha=>?_,λ j=>by simpa using h.fz j⟩
 by_cases e:a=i
 ·subst e;rw[Iq (h.cell a ha)];simp[zjg]
 ·rw[qU (by omega),h.cell a ha];simp[zjg,e]
theorem CR.eq {B':Nat->Bool}(h:CR w gb n B)(e:∀ i,i<n->B i=B' i):CR w gb n B':=⟨h.sz,λ i hi=>by rw[h.cell i hi,e i hi],h.fz⟩
theorem zg4 {i:Nat}:∀ (fr:List Nat) (B:Nat->Bool),B i=true->za7 B fr i=true
 | [],_,h=>h
 | x::r,B,h=>zg4 r _ (by show zjg B x true i=true;unfold zjg;split <;> simp[h])
theorem znl {fr:List Nat}{j:Nat}(h:j<fr.length):za7 B (fr.take (j+1))=zjg (za7 B (fr.take j)) fr[j] true:=by
 unfold za7;rw[List.take_succ_eq_append_getElem h,List.foldl_append];rfl
structure nX (w0:W8)(n:Nat)(B:Nat->Bool)(wr:W8):Prop where
 below:Below w0.heap.size w0 wr
 row:CR wr w0.heap.size n B
theorem nX.set {w0 wr:W8}(h:nX w0 n B wr)(i:Nat)(v:Bool)(hi:i<n):nX w0 n (zjg B i v) (wr.setCell ⟨w0.heap.size,i,none⟩ (.bool v)):=⟨h.below.setCell L9 _,h.row.set i v hi⟩
theorem z89 (w0 w:W8)(base k:Nat)(al:O8)(cl:Nat)(fs:List FG)(hf:yW w0 base (.slice al fs.length cl) fs)(lG:fs.length<=50)(B:Nat->Bool)(hI:nX w0 fs.length B w)
  {Q:Exit->Act->W8->Prop} {c0 c1 c2 c3 c4 c5 c6 c7 c8 c9 eQ fY eJ fZ eL dU dR dx dy dz dA dB dC dD dE dF dG dL dM dN dO dP dV dW dX ee eg ei eo ep ev dd ew ey ez eA dY dZ eD eE dQ eZ fa fc di fe fg fh fi fj fl fm fo fp fH fI fJ fK fL gd gh gi gj gq gu gv fM fN fq ft fu fO fP fQ fR fU fV fW fX gw gy gz gA gB gC gD cg bq br bt bu bx bz bC bU bV bW bX bD bE bG bH bI bJ bK bL bM bj bk bn bN bO bP bQ aZ aW cH cI cJ cK cL dp dq dr dt du dv dc iu iv iy iz iA iB iC iD gN gO gP gQ gR gS gT gU gV gW iE iF iG iH:Value}
  (aJ:∀ (w2:W8) (u16 ou ov ow ox oy oz oA qa qb sH sI sJ qc qd qe qf:Value),nX w0 fs.length (λ i=>decide (lS (fs.map (·.F)) i<k)) w2->Q (.exit 0) ⟨List.toArray (c0::c1::c2::c3::c4::c5::c6::c7::c8::c9::eQ::.slice al fs.length cl::.slice (some ⟨w0.heap.size,0,none⟩) fs.length fs.length::fY::.int .i64 k::eJ::u16::fZ::eL::dU::dR::dx::dy::dz::dA::dB::dC::dD::dE::dF::dG::dL::dM::dN::dO::dP::dV::dW::dX::ee::eg::ei::eo::ep::ev::dd::ew::ey::ez::eA::dY::dZ::eD::eE::dQ::eZ::fa::fc::di::fe::fg::fh::fi::fj::fl::fm::fo::fp::fH::fI::fJ::fK::fL::ou::ov::ow::ox::oy::oz::oA::qa::qb::sH::sI::sJ::qc::qd::qe::qf::fU::fV::fW::fX::gw::gy::gz::gA::gB::gC::gD::cg::bq::br::bt::bu::bx::bz::bC::bU::bV::bW::bX::bD::bE::bG::bH::bI::bJ::bK::bL::bM::bj::bk::bn::bN::bO::bP::bQ::aZ::aW::cH::cI::cJ::cK::cL::dp::dq::dr::dt::du::dv::dc::iu::iv::iy::iz::iA::iB::iC::iD::gN::gO::gP::gQ::gR::gS::gT::gU::gV::gW::iE::iF::iG::iH::[]),[]⟩ w2):
  Code.wp Tryz.prog (Code.loop (z7a 0)) Q ⟨List.toArray (c0::c1::c2::c3::c4::c5::c6::c7::c8::c9::eQ::.slice al fs.length cl::.slice (some ⟨w0.heap.size,0,none⟩) fs.length fs.length::fY::.int .i64 k::eJ::.int .i64 0::fZ::eL::dU::dR::dx::dy::dz::dA::dB::dC::dD::dE::dF::dG::dL::dM::dN::dO::dP::dV::dW::dX::ee::eg::ei::eo::ep::ev::dd::ew::ey::ez::eA::dY::dZ::eD::eE::dQ::eZ::fa::fc::di::fe::fg::fh::fi::fj::fl::fm::fo::fp::fH::fI::fJ::fK::fL::gd::gh::gi::gj::gq::gu::gv::fM::fN::fq::ft::fu::fO::fP::fQ::fR::fU::fV::fW::fX::gw::gy::gz::gA::gB::gC::gD::cg::bq::br::bt::bu::bx::bz::bC::bU::bV::bW::bX::bD::bE::bG::bH::bI::bJ::bK::bL::bM::bj::bk::bn::bN::bO::bP::bQ::aZ::aW::cH::cI::cJ::cK::cL::dp::dq::dr::dt::du::dv::dc::iu::iv::iy::iz::iA::iB::iC::iD::gN::gO::gP::gQ::gR::gS::gT::gU::gV::gW::iE::iF::iG::iH::[]),[]⟩ w:=by
 conv=>arg 2;arg 1;whnf
 have HF:=zC hf;have HX:=zC aJ;have HI:=zC hI;clear hf aJ hI
 go_loopg [16] fs.length (λ gg ii wr=>∃ (i:Nat) (B':Nat->Bool),i<=fs.length/\gg=fs.length-i/\ii=.int .i64 i/\nX w0 fs.length B' wr/\∀ j,j<i->B' j=decide (lS (fs.map (·.F)) j<k))
 exact⟨0,B,Nat.zero_le _,rfl,rfl,zA HI,λ j hj=>by omega⟩
 case round=>
  clear HI;obtain⟨i,B',lI,dI,rfl,ay,hj⟩:=hrel;have aT:=ay.below.size
  by_cases aE:i<fs.length
  ·have mZ:=(zA HF).below ay.below;obtain⟨g,cap,hv,-,bR,cZ,da,hc⟩:=zah mZ.row aE;injection hv with h1 h2 h3
   subst h1 h3;have p6:=hc 6 (by omega);simp only[FG.cells,List.getElem?_cons_zero,List.getElem?_cons_succ] at p6;have Fi:g<w0.heap.size:=((zA HF).row.lt g rfl).2;have AD:=ay.row.cell i aE;have TT:=ay.row.fz i;have ux:=ay.row.sz;have Fs:lS (fs.map (·.F)) i=fs[i].F.s:=by unfold lS;rw[List.getElem?_map,List.getElem?_eq_getElem aE];rfl
   have HE:=zC (λ (b:Bool) (hb:b=decide (fs[i].F.s<k))=>(show ∀ j,j<i+1->zjg B' i b j=decide (lS (fs.map (·.F)) j<k) from λ j h=>by
    unfold zjg
    split
    ·rename_i e;subst e;rw[Fs];exact hb
    ·exact hj j (by omega)))
   have HS:=zC (λ b:Bool=>ay.set i b aE);clear hc mZ ay hj Fs;generalize fs[i].F.s=si at *
   by_cases od:si<k
   ·have Hh:(si:Int)<k:=(by omega);go_wp2_with fail;go_roundg (fs.length-(i+1));exact⟨i+1,_,by omega,rfl,by go_num,zA HS true,zA HE true (by simp[od])⟩;omega
   ·have Hh:¬ (si:Int)<k:=(by omega);go_wp2_with fail;go_roundg (fs.length-(i+1));exact⟨i+1,_,by omega,rfl,by go_num,zA HS false,zA HE false (by simp[od])⟩;omega
  ·have hi:i=fs.length:=(by omega);subst hi;have HE:=zC (show nX w0 fs.length (λ i=>decide (lS (fs.map (·.F)) i<k)) wr from ⟨ay.below,ay.row.eq hj⟩);clear ay hj;go_wp2_with fail;apply zA HX;exact zA HE
theorem z69 (w0 w:W8)(base g i cl:Nat)(fs:List FG)(hf:yW w0 base (.slice (some ⟨g,0,none⟩) fs.length cl) fs)(hi:i<fs.length)(nO:∀ x∈fs[i].F.fr,x<fs.length)(B:Nat->Bool)(hI:nX w0 fs.length B w)
  {Q:Exit->Act->W8->Prop} {c0 c1 c2 c3 c4 c5 c6 c7 c8 c9 eQ fY gG eJ eY dU dR dx dy dz dA dB dC dD dE dF dG dL dM dN dO dP dV dW dX ee eg ei eo ep ev dd ew ey ez eA dY dZ eD eE dQ eZ fa fc di fe fg fh fi fj fl fm fo fp fH fI fJ fK fL gd gh gi gj gq gu gv fM fN fq ft fu fO fP fQ fR fU fV fW fX gw gy gz gA gB gC gD cg bq br bt bu bx bz bC bU bV bW bX bD bE bG bH bI bJ bK bL bM bj bk bn bN bO bP bQ aZ aW cH cI cJ cK cL dp dq dr dt du dv dc iu iv iy iz iA iB iC iD gN gO gP gQ gR gS gT gU gV gW iE iF iG iH:Value}
  (aJ:∀ (w2:W8) (tX ke kf kg kh lx px py pz pA pB pC pD pE pF pG pH pI vy vz wa wb wg wh wk wm wo:Value),nX w0 fs.length (if B i=true then za7 B fs[i].F.fr else B) w2->Q (.exit 4) ⟨List.toArray (c0::c1::c2::c3::c4::c5::c6::c7::c8::c9::eQ::.slice (some ⟨g,0,none⟩) fs.length cl::.slice (some ⟨w0.heap.size,0,none⟩) fs.length fs.length::fY::gG::eJ::eY::.int .i64 i::tX::dU::dR::dx::dy::dz::dA::dB::dC::dD::dE::dF::dG::dL::dM::dN::dO::dP::dV::dW::dX::ee::eg::ei::eo::ep::ev::dd::ew::ey::ez::eA::dY::dZ::eD::eE::dQ::eZ::fa::fc::di::fe::fg::fh::fi::fj::fl::fm::fo::fp::fH::fI::fJ::fK::fL::gd::gh::gi::gj::gq::gu::gv::fM::fN::fq::ft::fu::fO::fP::fQ::fR::fU::fV::fW::fX::gw::gy::gz::gA::gB::gC::gD::cg::bq::br::bt::bu::bx::bz::bC::bU::bV::bW::bX::bD::bE::bG::bH::bI::bJ::bK::bL::bM::bj::bk::bn::ke::kf::kg::kh::lx::px::py::pz::pA::pB::pC::pD::pE::pF::pG::pH::pI::vy::vz::wa::wb::wg::wh::wk::wm::wo::gN::gO::gP::gQ::gR::gS::gT::gU::gV::gW::iE::iF::iG::iH::[]),[]⟩ w2):
  Code.wp Tryz.prog (Code.loop (z7a 2)) Q ⟨List.toArray (c0::c1::c2::c3::c4::c5::c6::c7::c8::c9::eQ::.slice (some ⟨g,0,none⟩) fs.length cl::.slice (some ⟨w0.heap.size,0,none⟩) fs.length fs.length::fY::gG::eJ::eY::.int .i64 i::.int .i64 0::dU::dR::dx::dy::dz::dA::dB::dC::dD::dE::dF::dG::dL::dM::dN::dO::dP::dV::dW::dX::ee::eg::ei::eo::ep::ev::dd::ew::ey::ez::eA::dY::dZ::eD::eE::dQ::eZ::fa::fc::di::fe::fg::fh::fi::fj::fl::fm::fo::fp::fH::fI::fJ::fK::fL::gd::gh::gi::gj::gq::gu::gv::fM::fN::fq::ft::fu::fO::fP::fQ::fR::fU::fV::fW::fX::gw::gy::gz::gA::gB::gC::gD::cg::bq::br::bt::bu::bx::bz::bC::bU::bV::bW::bX::bD::bE::bG::bH::bI::bJ::bK::bL::bM::bj::bk::bn::bN::bO::bP::bQ::aZ::aW::cH::cI::cJ::cK::cL::dp::dq::dr::dt::du::dv::dc::iu::iv::iy::iz::iA::iB::iC::iD::gN::gO::gP::gQ::gR::gS::gT::gU::gV::gW::iE::iF::iG::iH::[]),[]⟩ w:=by
 conv=>arg 2;arg 1;whnf
 have HF:=zC hf;have HX:=zC aJ;have HI:=zC hI;have Dy:=zC nO;clear hf aJ hI nO;have xu:∀ wr,nX w0 fs.length (λ _=>false) wr\/Below w0.heap.size w0 wr->∃ af cf,wr.cell? ⟨g,i*10+9,none⟩=some (.slice af fs[i].F.fr.length cf)/\wr.ownsRow base 3 1 (.slice af fs[i].F.fr.length cf) fs[i].F.fr.length (fs[i].F.fr.map λ (x:Nat)=>Value.int .i64 x)/\g<w0.heap.size:=λ wr h=>by
  have hb:Below w0.heap.size w0 wr:=h.elim (λ h=>h.below) id;have mZ:=(zA HF).below hb;obtain⟨g',kD,hv,-,bR,-,-,hc⟩:=zah mZ.row hi;injection hv with h1 h2 h3
  injection h1 with h1
  injection h1 with h1
  subst h1;have p9:=hc 9 (by omega);simp only[FG.cells,List.getElem?_cons_zero,List.getElem?_cons_succ] at p9;have lQ:=(mZ.each fs[i] (List.getElem_mem hi)).i;simp only[zng] at lQ;obtain⟨af,cf,e⟩:=zD lQ;rw[e] at p9 lQ;exact⟨af,cf,p9,lQ,((zA HF).row.lt g rfl).2⟩
 have JD:=zC xu;clear xu;generalize fs[i].F.fr=fr at *
 cases hB:B i with
 | false=>
  go_loopg [18] 0 (λ gg jj wr=>jj=.int .i64 0/\nX w0 fs.length B wr)
  exact⟨rfl,zA HI⟩
  case round=>
   obtain⟨rfl,ay⟩:=hrel;obtain⟨af,cf,p9,lQ,Fi⟩:=zA JD wr (.inr ay.below);have AD:=ay.row.cell i hi;have ux:=ay.row.sz;rw[hB] at AD;have kX:=yN lQ;unfold maxLen at kX;have HE:=zC (show nX w0 fs.length (if B i=true then za7 B fr else B) wr from by rw[hB];exact ay);clear ay lQ
   by_cases hfl0:0<fr.length
   ·go_wp2_with fail;apply zA HX;exact zA HE
   ·have h0:fr.length=0:=(by omega);go_wp2_with fail;apply zA HX;exact zA HE
 | true=>
  go_loopg [18] fr.length (λ gg jj wr=>∃ j:Nat,j<=fr.length/\gg=fr.length-j/\jj=.int .i64 j/\nX w0 fs.length (za7 B (fr.take j)) wr)
  exact⟨0,Nat.zero_le _,rfl,rfl,zA HI⟩
  case round=>
   obtain⟨j,ig,BI,rfl,ay⟩:=hrel;obtain⟨af,cf,p9,lQ,Fi⟩:=zA JD wr (.inr ay.below);have AD:=ay.row.cell i hi;have ux:=ay.row.sz;have aT:=ay.below.size;rw[zg4 _ B hB] at AD;have kX:=yN lQ;unfold maxLen at kX
   by_cases hlj:j<fr.length
   ·obtain⟨gf,Ps,Dh,-,BH,Xx,Xz,q0⟩:=zz5 lQ j hlj;injection Dh with h1 h2 h3
    subst h1 h3;have FJ:=zA Dy _ (List.getElem_mem hlj);have ed:=ay.row.cell _ FJ;have TT:=ay.row.fz fr[j];have HS:=zC (ay.set _ true FJ);have aP:=znl (B:=B) hlj;have eN:=zC aP;clear ay lQ aP;generalize fr[j]=x at *;go_wp2_with fail;go_roundg (fr.length-(j+1));exact⟨j+1,by omega,rfl,by go_num,by rw[zA eN];exact zA HS⟩;omega
   ·have hj:j=fr.length:=(by omega);subst hj;rw[List.take_length] at ay;have HE:=zC (show nX w0 fs.length (if B i=true then za7 B fr else B) wr from by rw[hB];exact ay);clear ay lQ;go_wp2_with fail;apply zA HX;exact zA HE
end
end Go.Proofs.YtldkpahaocjdpaaGreat
